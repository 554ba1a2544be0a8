import Derived.Test.YteflhojcomcfaaaGreatDoorPrG22
import Derived.Sort.LoopGhostIn
import Derived.Scope
import Derived.Stop.RegionWithIn
import Derived.Sort.CutIn
import Derived.Test.YteflhojcomcfaaaGreatDoorPrG34
set_option maxHeartbeats 32000000
set_option maxRecDepth 8000
set_option linter.all false
namespace Go.Proofs.YteflhojcomcfaaaGreatDoor
open _root_.ByteArray(empty)
section
open Tryz
open Go.RowKit
section
set_option maxHeartbeats 4000000
theorem Kn(o r:Value)(a:List Int)(c d n:Int)(m:Int)(w:World)(s:a.length=64)(bB:IntKind.i64.wrap (c+m)=c+m)
  (E:∀f,Below w.heap.size w f->Calls prog 329 #[.agg #[o,r],.int .i64 (c+m)] f λe b=>e=.returned (.tuple #[.agg (a.map (Value.int .u8)).toArray,.bool true])/\Below f.heap.size f b)
  (I:TypeId)(v:Value)(hv:w.cell? ⟨7,0,none⟩=some (.iface I v))(G:w.cell? ⟨1,0,none⟩=some (.iface 318 (.agg #[.pointer (some ⟨10,58,none⟩)])))(X:7<w.heap.size):Calls prog 269 #[qe o r c d n,.int .i64 m] w λe b=>e=.returned (WJ (OA (strOfNums a) n))/\Below w.heap.size w b:=by
 have F:∀b e,Below w.heap.size w ((w.alloc b).alloc e):=λb e=>(LH _ _).alloc σ _
 have A:=LE (λf (B:Below w.heap.size w f)=>oD (strOfNums a) n f I v ((B.cell (p:=⟨7,0,none⟩) X).E hv) ((B.cell (p:=⟨1,0,none⟩) (by show 1<_;omega)).E G) (by have:=B.size;omega))
 obtain⟨k,l,q,p,b,e⟩:∃k l q p b,WJ (OA (strOfNums a) n)=.tuple #[OD k l q p,.bool b]:=by
  cases OA (strOfNums a) n with
  | none=>exact⟨_,_,_,_,_,z⟩
  | some y=>obtain⟨k,l,q,p⟩:=y;exact⟨_,_,_,_,_,z⟩
 rw[e]at A⊢;clear e hv G;have bC:(a.map (Value.int .u8)).toArray.size=64:=by simp[s]
 have J:Hid ((prog.info? 121).map (·.size)=some (a.map (Value.int .u8)).length):=by show _=_;rw[BP,s];kernel_rfl
 have i:=λk f=>uQ k o r f
 obtain⟨j,y⟩:=nHz (strOfNums a);rw[<-y.j]at A;have K:=LE E;clear E;go_enter func269,ntmps269;go_wp2_with fail;refine(K.j _ (F _ _)).J ?_;rintro e x ⟨rfl,g⟩;have L:=LE (((B4.new w (.iface 299 (.agg #[o,r])) (.int .i64 c) (.int .i64 d) (.int .i64 n) 234).alloc (.cells #[.int .i64 0,.int .i64 0,.int .i64 0,.string empty] 156)).I g);have h:=(B4.new (w.alloc (.cells #[.iface 299 (.agg #[o,r]),.int .i64 c,.int .i64 d,.int .i64 n] 234)) (.int .i64 0) (.int .i64 0) (.int .i64 0) (.string empty) 156).I g;rw[BG]at h;have N:=LE h;have D:=LE ((F (.cells #[.iface 299 (.agg #[o,r]),.int .i64 c,.int .i64 d,.int .i64 n] 234) (.cells #[.int .i64 0,.int .i64 0,.int .i64 0,.string empty] 156)).E (g.J ξ));clear g i h
 go_wp2_with (first
   | (with_reducible refine aa 121 _ _ rfl ?_;refine LN rfl 121 _ _ rfl (a.map (Value.int .u8)) (YV a) rfl rfl _ _ (by rw[BP,s];kernel_rfl) J.j ?_;intro f t h P;have O:=t.text (P:=prog) a 0 64 64 s (λi Q=>by simp[List.getD,show i<a.length by omega]) 22 5 9 underlying22 underlying5 underlying9;rw[<-y.j]at O;have C:=t.drew.text (P:=prog) a 0 64 64 s (λi Q=>by simp[List.getD,show i<a.length by omega]) 22 5 9 underlying22 underlying5 underlying9;rw[<-y.j]at C;have g:=LE (N.j.I h);have M:=LE (L.j.I h);have u:=LE (D.j.E (h.J D.j.size));clear h P t)
   | fail)
 have r0:=g.j.c0;have r1:=g.j.c1;have r2:=g.j.c2;have r3:=g.j.c3;have T:=g.j.f0;have U:=g.j.f1;have V:=g.j.f2;have W:=g.j.f3;have q3:=M.j.c3;have H:(convert 22 9 (.slice (some ⟨x.heap.size,0,none⟩) 64 64)).run prog f.drew=.ok (.string j) f.drew:=C
 go_region_with (first|(go_at_call 104;refine(A.j _ (u.j.drew)).J ?_;rintro e w3 ⟨rfl,i⟩;have h:=g.j.drew.I i;have t:=LE (u.j.drew.E (i.J u.j.drew.size));have P:=h.c0;have Q:=h.c1;have R:=h.c2;have S:=h.c3;have T:=h.f0;have U:=h.f1;have V:=h.f2;have W:=h.f3;clear i h))
 all_goals
  go_wp2;refine AE (v:=.tuple #[OD k l q p,.bool b]) (by simp[results,results269,go_sem,P,Q,R,S]) z ⟨z,?_⟩;exact(((t.j.setCell (by show _<=w.heap.size+1;omega) _).setCell (by show _<=w.heap.size+1;omega) _).setCell (by show _<=w.heap.size+1;omega) _).setCell (by show _<=w.heap.size+1;omega) _
end
theorem Ea(d f r:Int)(s:ByteArray)(k l m:Int)(p:ByteArray)(w:World):Calls prog 209 #[OD d f r s,OD k l m p] w λe a=>e=.returned (.bool (RW d f k l))/\Below w.heap.size w a:=by
 have h:∀a b,Below w.heap.size w ((w.alloc a).alloc b):=λa b=>(LH _ _).alloc j _
 rw[<-Od];obtain⟨B,b⟩:∃B,ZN d f k l=B:=⟨_,z⟩;have a:=LE b;rw[b];clear b
 by_cases b:k=1\/k=2
 .by_cases g:l=f
  .have e:B=true:=by rw[<-a.j];unfold ZN;rw[G b];simp[g]
   subst e;subst g;clear a
   rcases b with rfl|rfl<;>(go_enter func209,ntmps209;go_wp2;all_goals (go_ret;exact⟨z,h _ _⟩))
  have n:(l == f)=false:=by simp[g]
  by_cases c:d=1
  .subst c
   have e:B=false:=by rw[<-a.j];unfold ZN;rw[G b];simp[g]
   subst e;clear a
   rcases b with rfl|rfl<;>(go_enter func209,ntmps209;go_wp2;all_goals (go_ret;exact⟨z,h _ _⟩))
  have q:(d == 1)=false:=by simp[c]
  by_cases i:f<l
  focus
   have e:B=true:=by rw[<-a.j];unfold ZN;rw[G b];simp[c,i]
  rotate_left
  focus
   have e:B=false:=by rw[<-a.j];unfold ZN;rw[G b];simp[c,i,g]
  rotate_left
  all_goals
   subst e;clear a
   rcases b with rfl|rfl<;>(go_enter func209,ntmps209;go_wp2;all_goals (go_ret;exact⟨by simp[i],h _ _⟩))
 have n:¬k=1:=λe=>b (.inl e)
 have o:¬k=2:=λe=>b (.inr e)
 have t:(k == 1)=false:=by simp[n]
 have u:(k == 2)=false:=by simp[o]
 by_cases g:k=3
 focus
  subst g
  by_cases i:f<=l
  focus
   by_cases c:d=1
   focus
    subst c;have e:B=false:=by rw[<-a.j];unfold ZN;simp
   rotate_left
   focus
    have q:(d == 1)=false:=by simp[c]
    have e:B=true:=by rw[<-a.j];unfold ZN;simp[c,i]
   rotate_left
  rotate_left 2
  focus
   have e:B=false:=by rw[<-a.j];unfold ZN;simp[i]
  rotate_left
 rotate_left 3
 focus
  have v:(k == 3)=false:=by simp[g]
  have e:B=false:=by rw[<-a.j];unfold ZN;rw[A b,A g]
 rotate_left
 all_goals
  subst e;clear a b;go_enter func209,ntmps209;go_wp2
  all_goals (go_ret;exact⟨z,h _ _⟩)
theorem tV(n:Nat)(f s:Int)(i:n<=1048576)(d:-9223372036854775808<=f)(g:f<=9223372036854775807)(w:World):Calls prog 207 #[.int .i64 (n:Int),.int .i64 f,.int .i64 s] w λe a=>e=.returned (.bool (decide (0<=f/\0<=s/\s<=(n:Int)-f)))/\a=w:=by
 by_cases b:0<=f
 .have j:IntKind.i64.wrap ((n:Int)-f)=(n:Int)-f:=by simp[IntKind.wrap,IntKind.bits,IntKind.signed];omega
  by_cases c:0<=s
  .by_cases a:s<=(n:Int)-f
   .have e:decide (0<=f/\0<=s/\s<=(n:Int)-f)=true:=AM ⟨b,c,a⟩
    rw[e];go_enter func207,ntmps207;go_wp2;go_ret;exact⟨by simp[a],z⟩
   have e:decide (0<=f/\0<=s/\s<=(n:Int)-f)=false:=AH (λh=>a h.2.2)
   rw[e];go_enter func207,ntmps207;go_wp2;go_ret;exact⟨by simp[a],z⟩
  have e:decide (0<=f/\0<=s/\s<=(n:Int)-f)=false:=AH (λh=>c h.2.1)
  rw[e];go_enter func207,ntmps207;go_wp2;go_ret;exact⟨z,z⟩
 have e:decide (0<=f/\0<=s/\s<=(n:Int)-f)=false:=AH (λh=>b h.1)
 rw[e];go_enter func207,ntmps207;go_wp2;go_ret;exact⟨z,z⟩
end
section
open Tryz
open Go.RowKit Go.Shelf
attribute [local go_sem] Oper.semAt_some
theorem N8(a b:ByteArray):(a++b).data.toList=a.data.toList++b.data.toList:=by rw[ByteArray.data_append,Array.toList_append]
theorem Ct(a:ByteArray):(Lib.byteCells a.data.toList).length=a.size:=by rw[Lib.byteCells_length];exact Array.length_toList
theorem Iq(a:ByteArray):(⟨a.data.toList.toArray⟩:ByteArray)=a:=by rw[Array.toArray_toList]
theorem yr{w:World}{b0 c:Nat}{e:TypeId}{s:Nat}{v:Value}{n:Nat}{f:List Value}(h:w.ownsRow c e s v n f)(l:b0<=c):w.ownsRow b0 e s v n f:=by
 refine⟨h.1,?_⟩;rcases h.2 with i|⟨g,a,b,hv,k,j⟩
 .exact .inl i
 exact .inr ⟨g,a,b,hv,d,j⟩
theorem Ht{d:World}{g:Nat}{c:Value}{a:List (Int×ByteArray)}(f:d.ownsRow (g+1) 123 65 c a.length (LI (LU a))):∃b e,c=.slice b (LU a).length e/\OwnS d b (LI (LU a)):=by
 rw[SO];rcases MS f with ⟨e,i⟩|⟨h,b,e,k,l,j⟩
 .have:a=[]:=AD i
  subst this;exact⟨none,0,e,.inl z⟩
 exact⟨_,b,e,.inr ⟨h,z,j⟩⟩
theorem L8(a:Option Addr)(F:List ByteArray)(c:Nat)(h:Option Addr)(H:List (Int×ByteArray))(c':Nat)(D M first L n:Int)(w:World)(t:Strs w a F)(h':Wrs w h H)(hl:F.length<=1048576)(iO:H.length<=1048576)(hs:∀s∈F,s.size<=1048576)(gI:∀b∈H,b.2.size<=1048576)(eO:-9223372036854775808<=first/\first<=9223372036854775807)
  (ty:TypeId)(v:Value)(hv:w.cell? ⟨7,0,none⟩=some (.iface ty v))(h0:w.cell? ⟨1,0,none⟩=some (.iface 318 (.agg #[.pointer (some ⟨10,58,none⟩)])))(hg:7<w.heap.size)(dL:dg F H D M n):Calls prog 147 #[LR a F.length c h H.length c',.int .i64 D,.int .i64 M,.int .i64 first,.int .i64 L,.int .i64 n] w λe o=>ji w o e (VW F H D M first L n):=by
 have e:VW F H D M first L n=OV (λk=>(LQ H F).getD k empty) D.toNat first n M.toNat 0 2 L empty ([],0,L):=by unfold VW;rw[AI dL,J2]
 rw[e];clear e;obtain⟨g,hn,f0,s0,f1,s1⟩:=dL;obtain⟨E,rfl⟩:∃k:Nat,D=(k:Int):=⟨D.toNat,d⟩;obtain⟨N,rfl⟩:∃k:Nat,M=(k:Int):=⟨M.toNat,d⟩;simp only[DO];have m:decide (1<=n/\n<=8)=true:=AM hn;obtain⟨⟨jG,fX,fY⟩,f,i⟩:=QH g
 obtain⟨T,e⟩:∃T:Nat->ByteArray,T=λk=>(LQ H F).getD k empty:=⟨_,z⟩
 rw[<-e];have iI:=LE e
 obtain⟨bJ,cI⟩:=nHz (OV T E first n N 0 2 L empty ([],0,L))
 rw[<-cI.j];clear e;have cL:N<=200:=d
 have fO:Hid (∀I,Calls prog 207 #[.int .i64 (F.length:Int),.int .i64 (E:Int),.int .i64 (N:Int)] I λe o=>e=.returned (.bool true)/\o=I):=λI=>by
  have:=tV F.length (E:Int) (N:Int) hl d d I;rw[AM (show 0<=(E:Int)/\0<=(N:Int)/\(N:Int)<=(F.length:Int)-(E:Int) by omega)]at this;exact this
 have A:=LE (λ(I:World) (G:Below w.heap.size w I)=>ZL a F c h H c' I (t.I G) (h'.I G) hl iO hs gI);rw[g]at A;have C:=LE (λ(I:World) (G:Below w.heap.size w I)=>mw a F c h H c' I (t.I G) (h'.I G) fX fY (λs hs=>by have:=f s hs;omega) (λb hx=>by have:=AW (i b hx);omega));have O:=LE (λI=>TX n I);rw[m]at O
 have l:∀p r y,Below w.heap.size w (((w.alloc p).alloc r).alloc y):=λp r y=>((LH _ _).alloc σ _).alloc τ _
 have K:=LE l;have HH:=LE t;have iD:=LE h';have P:=LE i;have iA:=LE f;have j:=LE (λI (G:Below w.heap.size w I)=>((G.cell (p:=⟨7,0,none⟩) hg).E hv));have q:=LE (λI (G:Below w.heap.size w I)=>((G.cell (p:=⟨1,0,none⟩) (by show 1<_;omega)).E h0));clear t h' i f hv h0 hs gI l g m;refine(FH (n:=4)).1 ?_;refine callsIn_of_wp_marks func147 z trivial ?_ z;simp only[ntmps147,GQ,BN,AU,Nat.reduceAdd,Nat.reduceSub,GA,GC,GP,FK,EL,EX]
 gi_wp2
 refine wpIn_wide.2 (wp_scope_straight ((wpIn_wide (n:=4)).1 ?_))
 gi_wp2_with (first
  | (refine⟨trivial,?_⟩;gi_at_call 84;refine(FH.2 (A.j _ (K.j _ _ _))).J ?_;rintro e w1 ⟨rfl,l⟩;have m:=(((OY w #[.slice a F.length c,.slice h H.length c'] 37 w.heap.size rfl).alloc (.cells #[.int .i64 first] 3)).alloc (.cells #[.slice none 0 0,.int .i64 0,.int .i64 0] 187)).I l;have R:=((OY (w.alloc (.cells #[.slice a F.length c,.slice h H.length c'] 37)) #[.int .i64 first] 3 (w.heap.size+1) σ).alloc (.cells #[.slice none 0 0,.int .i64 0,.int .i64 0] 187)).I l;have S:=(OY ((w.alloc (.cells #[.slice a F.length c,.slice h H.length c'] 37)).alloc (.cells #[.int .i64 first] 3)) #[.slice none 0 0,.int .i64 0,.int .i64 0] 187 (w.heap.size+1+1) σ).I l;have r:=(K.j (.cells #[.slice a F.length c,.slice h H.length c'] 37) (.cells #[.int .i64 first] 3) (.cells #[.slice none 0 0,.int .i64 0,.int .i64 0] 187)).E (l.J ξ);have fH:=LE R;have fI:=LE S;have J:=LE r;have q0:=m.y 0;have q1:=m.y 1;have ql:=m.lt;clear m R S r l)
  | (refine⟨trivial,?_⟩;gi_at_call 27;refine(FH.2 (O.j _)).J ?_;refine OF ?_)
  | (refine⟨trivial,?_⟩;gi_at_call 207;refine(FH.2 (fO.j _)).J ?_;refine OF ?_)
  | (refine⟨trivial,?_⟩;gi_at_call 134;refine(FH.2 (C.j _ J.j)).J ?_;rintro e w2 ⟨g,vv,rfl,Q,p,x,f⟩;clear q0 q1 ql;obtain⟨a2,c2,iU,y⟩:∃a2 c2,vv=.slice a2 (LU H).length c2/\OwnS w2 a2 (LI (LU H)):=Ht p;subst iU;have U:=LE (Below.then J.j AA f);have X:=LE (fH.j.I f);have u:=LE (fI.j.I f);have W:=LE Q;have V:=LE y;clear f Q p y x)
  | (refine⟨trivial,?_⟩;gi_at_call 205;refine(FH.2 (rdr _ _ _ _ _ _ _)).J ?_;rintro e B ⟨rfl,i⟩;have aI:=LE (Below.then U.j AA i);have cF:=LE (X.j.I i);have aD:=LE (u.j.I i);have fG:=LE (W.j.I i);have fE:=LE (V.j.I i);clear i))
 have aF:w.heap.size<=B.heap.size:=aI.j.size;have iQ:=aD.j.lt
 have i:∀p∈LU H,p.2.length=64:=λp r=>by
  obtain⟨b,hx,rfl⟩:=DW.1 r;have:=AW (P.j b hx);show(LF b.2).length=64;rw[NK];omega
 have x:Hld B a2 (LU H):=by
  rcases fE.j with h0|⟨f,rfl,S⟩
  .refine .inl (AD ?_)
   have:=BD List.length h0;rw[OC _ i,AU]at this;omega
  exact S.hld i
 have fF:Hid (∀I,Below B.heap.size B I->∀m:Nat,m<N->Calls prog 269 #[qe (.slice a2 (LU H).length c2) (.iface 92 (.slice (some ⟨g,0,none⟩) F.length F.length)) (E:Int) (N:Int) n,.int .i64 (m:Int)] I λe o=>e=.returned (WJ (OA (T (E+m)) n))/\Below I.heap.size I o):=λI G m hm=>by
  have fW:E+m<F.length:=d
  have Q:E+m<(TP (LU H) (F.map LF)).length:=by rw[mc];simp;omega
  have hX:strOfNums ((TP (LU H) (F.map LF)).getD (E+m) [])=T (E+m):=by
   rw[iI.j,<-yp];simp[LW,List.getD,Q]
  have l:Below w.heap.size w I:=aI.j.E (G.J aF);rw[<-hX];refine Kn _ _ _ _ _ _ _ I (NQ (xt _ _ i fG.j.len) Q) (by simp[IntKind.wrap,IntKind.bits,IntKind.signed];omega) (λR o=>?_) ty v (j.j _ l) (q.j _ l) (by have:=l.size;omega);have f:=G.E (o.J G.size);have:=xJ a2 (LU H) c2 g F.length F.length (E+m) (F.map LF) R (x.I f) i (λp r=>by obtain⟨y,o,rfl⟩:=DW.1 r;exact(AW (P.j y o)).1) (by rw[SO];exact fY) (fG.j.I f) σ fX fW;rw[show((E:Int)+(m:Int))=((E+m:Nat):Int) by omega];exact this
 obtain⟨R,iC⟩:=nHz (Value.iface 92 (.slice (some ⟨g,0,none⟩) F.length F.length));obtain⟨Q,iJ⟩:=nHz (Value.slice a2 (LU H).length c2);(try unfold Y at fF);(try unfold Y);rw[<-iC.j,<-iJ.j]at fF⊢
 have o:Hid (ScL B (((B.alloc (.cells #[.iface 299 (.agg #[Q,R]),.int .i64 (E:Int),.int .i64 (N:Int),.int .i64 n] 234)).alloc (.cells #[.slice none 0 0,.int .i64 0,.int .i64 L] 187)).alloc (.cells #[.int .i64 2,.int .i64 L,.int .i64 0,.string ⟨#[]⟩] 156)) [] (((B.alloc (.cells #[.iface 299 (.agg #[Q,R]),.int .i64 (E:Int),.int .i64 (N:Int),.int .i64 n] 234)).alloc (.cells #[.slice none 0 0,.int .i64 0,.int .i64 L] 187)).alloc (.cells #[.int .i64 2,.int .i64 L,.int .i64 0,.string ⟨#[]⟩] 156)).heap.size (.iface 299 (.agg #[Q,R])) (.int .i64 (E:Int)) (.int .i64 (N:Int)) (.int .i64 n) (.slice none 0 0) [] 0 L 2 L 0 ⟨#[]⟩):=by
  refine⟨((OY _ _ _ _ z).alloc _).alloc _,(OY _ _ _ _ σ).alloc _,OY _ _ _ _ σ,BU _ _ _ _,λk hk=>(by cases hk),((LH _ _).alloc σ _).alloc τ _,λr S=>(by cases S),List.nodup_nil⟩
 clear C A O fO K fH fI J X u U W V fE x i HH iD P iA j q;refine wpIn_label ?_
 gi_wp2
 refine wpIn_loop_ghost (λk A W=>∃(Rs:List Nat) (y:Value) (J:List ByteArray) (f:Nat) (l U V x:Int) (C:ByteArray) (gN gQ gR gS gU gV gW gX gY:Value),A={ tmps:=#[LR a F.length c h H.length c',.int .i64 (E:Int),.int .i64 (N:Int),.int .i64 first,.int .i64 L,.int .i64 n,.pointer (some ⟨w.heap.size,0,none⟩),undef,undef,.pointer (some ⟨w.heap.size+1,0,none⟩),undef,undef,.pointer (some ⟨w.heap.size+1+1,0,none⟩),.pointer (some ⟨B.heap.size,0,none⟩),.pointer (some ⟨B.heap.size+1,0,none⟩),.pointer (some ⟨B.heap.size+1+1,0,none⟩),gN,undef,undef,.agg #[.slice a F.length c,.slice h H.length c'],.bool true,.bool false,.bool false,.int .i64 n,.bool true,.bool false,.bool false,.bool false,.pointer (some ⟨w.heap.size,0,none⟩),.slice a F.length c,.int .i64 (F.length:Int),.int .i64 (E:Int),.int .i64 (N:Int),.bool true,.bool false,.bool false,undef,.agg #[.slice a F.length c,.slice h H.length c'],.agg #[.slice (some ⟨g,0,none⟩) F.length F.length,Q],(.iface 299 (.agg #[Q,R])),.int .i64 (E:Int),.int .i64 (N:Int),.int .i64 n,.agg #[.iface 299 (.agg #[Q,R]),.int .i64 (E:Int),.int .i64 (N:Int),.int .i64 n],.int .i64 L,.agg #[.slice none 0 0,.int .i64 0,.int .i64 L],.int .i64 L,.agg #[.int .i64 2,.int .i64 L,.int .i64 0,.string ⟨#[]⟩],gQ,gR,gS,gU,gV,gW,gX,gY,undef,undef,undef,undef,undef,undef,undef,undef,undef,undef,undef,undef,undef,undef,undef,undef,undef,undef,undef,undef,undef,undef,undef,undef,undef,undef],defers:=Rs.map (λr=>({ target:=.collected r,args:=#[] }:Deferred)) }/\k=N-f/\f<=N/\J.length<=f/\Hid (ScL B W Rs W.heap.size (.iface 299 (.agg #[Q,R])) (.int .i64 (E:Int)) (.int .i64 (N:Int)) (.int .i64 n) y J (f:Int) l U V x C)/\Hid (Chn (S:=T) (frm:=E) (n:=n) (size:=N) first bJ f [] U V empty (J,(f:Int),l))) N ⟨[],.slice none 0 0,[],0,L,2,L,0,⟨#[]⟩,undef,undef,undef,undef,undef,undef,undef,undef,undef,z,d,AL,AA,o,?_⟩ ?_
 .intro _
  refine⟨AL,?_⟩;rw[cI.j];rfl
 rintro k _ W ⟨Rs,y,J,f,l,U,V,x,C,gN,gQ,gR,gS,gU,gV,gW,gX,gY,rfl,rfl,jK,jB,q,bV⟩
 clear o;have iM:W.cell? ⟨B.heap.size+1,1,none⟩=some (.int .i64 (f:Int)):=q.j.fb.y 1;have jC:=q.j.fb.lt
 by_cases fW:f<N
 .have eR:(f:Int)<(N:Int):=d
  have i:W.cell? ⟨B.heap.size,0,none⟩=some (.iface 299 (.agg #[Q,R])):=q.j.lb.y 0;have o:W.cell? ⟨B.heap.size,1,none⟩=some (.int .i64 (E:Int)):=q.j.lb.y 1;have p:W.cell? ⟨B.heap.size,2,none⟩=some (.int .i64 (N:Int)):=q.j.lb.y 2;have K:W.cell? ⟨B.heap.size,3,none⟩=some (.int .i64 n):=q.j.lb.y 3;have jN:=q.j.lb.lt
  gi_wp2_with (refine⟨trivial,?_⟩;gi_at_call 208;refine(Pt _ _ _ _ _ _ _ _).J ?_;rintro e w4 ⟨rfl,rfl⟩)
  clear iM i o p K;have iP:B.heap.size+2<W.heap.size:=q.j.bb.lt;obtain⟨WS,i⟩:=nMz (((W.alloc (.cells #[.pointer none,.slice none 0 0] 56)).alloc (.cells #[.iface 299 (.agg #[Q,R]),.int .i64 (E:Int),.int .i64 (N:Int),.int .i64 n] 234)).alloc (.cells #[.int .i64 (f:Int)] 3));have o:Below W.heap.size W WS:=by rw[i];exact((LH _ _).alloc σ _).alloc τ _
  have i7:WS.heap.size=W.heap.size+3:=by rw[i];simp
  have p:ScN B WS Rs W.heap.size (.iface 299 (.agg #[Q,R])) (.int .i64 (E:Int)) (.int .i64 (N:Int)) (.int .i64 n) y J (f:Int) l U V x C empty:=by
   have e1:=AV W (.cells #[.pointer none,.slice none 0 0] 56);have j:=AV (W.alloc (.cells #[.pointer none,.slice none 0 0] 56)) (.cells #[.iface 299 (.agg #[Q,R]),.int .i64 (E:Int),.int .i64 (N:Int),.int .i64 n] 234);have K:=AV ((W.alloc (.cells #[.pointer none,.slice none 0 0] 56)).alloc (.cells #[.iface 299 (.agg #[Q,R]),.int .i64 (E:Int),.int .i64 (N:Int),.int .i64 n] 234)) (.cells #[.int .i64 (f:Int)] 3);simp only[BG]at j K;refine⟨q.j.I o,.inl ⟨AA,.slice none 0 0,?_,World.ownsRowF_nil _ _ _ _,by simp[Value.ownBlock]⟩,?_,?_,λk e=>(q.j.own.lt k e).2,iP⟩
   .rw[i,JO _ _ τ,JO _ _ σ];exact e1
   .rw[i,JO _ _ σ];exact j
   rw[i];exact K
  rw[<-i];have eH:=LE o;have bB:=LE p;clear i o p
  refine wpIn_rangeFunc_ownH z d (gf:=268) (lb:=#[.pointer (some ⟨W.heap.size+1+1,0,none⟩),.pointer (some ⟨W.heap.size+1,0,none⟩)]) z trivial (enters_of func268 κ z)
   (Ck 3 d (W.heap.size+1) (W.heap.size+1+1) E N f T n Q R B WS cL d bB.j.sl.be fF bB.j.g1 bB.j.g2)
   KpP.t (KpP.b d d d) AB (λ_=>z)
   (λO X=>InS first bJ B Rs W.heap.size (.iface 299 (.agg #[Q,R])) (.int .i64 (E:Int)) (.int .i64 (N:Int)) (.int .i64 n) y J f l O X)
   (λcc O X=>InX first bJ B Rs W.heap.size (.iface 299 (.agg #[Q,R])) (.int .i64 (E:Int)) (.int .i64 (N:Int)) (.int .i64 n) y J f l cc O X)
   (InS.own _ d) (λcc=>InX.own _ d d cc)
   ⟨U,V,x,C,empty,bB.j,AL,bV.j⟩
   (λb i X=>∃P,X.heap[P]?=some (.cells #[.int .i64 (VP T E n b.1).1,.int .i64 (VP T E n b.1).2.1,.int .i64 (VP T E n b.1).2.2.1,.string (VP T E n b.1).2.2.2] 156 (0,0))/\W.heap.size+2<P/\i={ tmps:=#[LR a F.length c h H.length c',.int .i64 (E:Int),.int .i64 (N:Int),.int .i64 first,.int .i64 L,.int .i64 n,.pointer (some ⟨w.heap.size,0,none⟩),undef,undef,.pointer (some ⟨w.heap.size+1,0,none⟩),undef,undef,.pointer (some ⟨w.heap.size+1+1,0,none⟩),.pointer (some ⟨B.heap.size,0,none⟩),.pointer (some ⟨B.heap.size+1,0,none⟩),.pointer (some ⟨B.heap.size+1+1,0,none⟩),.pointer (some ⟨W.heap.size,0,none⟩),.int .i64 (b.1:Int),.pointer (some ⟨P,0,none⟩),.agg #[.slice a F.length c,.slice h H.length c'],.bool true,.bool false,.bool false,.int .i64 n,.bool true,.bool false,.bool false,.bool false,.pointer (some ⟨w.heap.size,0,none⟩),.slice a F.length c,.int .i64 (F.length:Int),.int .i64 (E:Int),.int .i64 (N:Int),.bool true,.bool false,.bool false,undef,.agg #[.slice a F.length c,.slice h H.length c'],.agg #[.slice (some ⟨g,0,none⟩) F.length F.length,Q],(.iface 299 (.agg #[Q,R])),.int .i64 (E:Int),.int .i64 (N:Int),.int .i64 n,.agg #[.iface 299 (.agg #[Q,R]),.int .i64 (E:Int),.int .i64 (N:Int),.int .i64 n],.int .i64 L,.agg #[.slice none 0 0,.int .i64 0,.int .i64 L],.int .i64 L,.agg #[.int .i64 2,.int .i64 L,.int .i64 0,.string ⟨#[]⟩],.pointer (some ⟨B.heap.size+1,1,none⟩),.int .i64 (f:Int),.int .i64 (N:Int),.bool true,.agg #[.iface 299 (.agg #[Q,R]),.int .i64 (E:Int),.int .i64 (N:Int),.int .i64 n],.pointer (some ⟨B.heap.size+1,1,none⟩),.int .i64 (f:Int),.func (.func 268) #[] #[.pointer (some ⟨W.heap.size+1+1,0,none⟩),.pointer (some ⟨W.heap.size+1,0,none⟩)],.int .i64 (b.1:Int),nE (VP T E n b.1),undef,undef,undef,undef,undef,undef,undef,undef,undef,undef,undef,undef,undef,undef,undef,undef,undef,undef,undef,undef,undef,undef,undef,undef],defers:=[] }) ?hax ?assign ?body ?done ?stop
  case hax =>
   rintro b h s X p j ⟨P,i,G,u⟩ hg S;refine⟨P,(hg.block P (AR.1 i).1 (λe=>?_)).E i,G,u⟩;obtain⟨_,o,O,K⟩:=S P e.symm
   rw[i]at O;cases O;cases K
  case assign =>
   intro lp O b X K o P
   have S:WS.heap.size<=X.heap.size:=by
    obtain⟨U,V,x,C,op,p,_,_⟩:=o;have:=(AR.1 p.g2).1;omega
   gi_wp2
   have i:Below X.heap.size X (X.alloc (.cells #[.int .i64 (VP T E n b.1).1,.int .i64 (VP T E n b.1).2.1,.int .i64 (VP T E n b.1).2.2.1,.string (VP T E n b.1).2.2.2] 156)):=LH _ _;refine P _ _ ((pO i).from _) ⟨i.J d,i.block _ d,i.block _ d⟩ (InS.own _ AA _ _ _ none o (sg i) (λr e=>by cases e)) ⟨X.heap.size,AV _ _,d,?_⟩;rfl
  case body =>
   rintro lp O b _ X jE ⟨rr,iT⟩ ⟨U,V,x,C,op,p,gE,bH⟩ ⟨P,i,jA,rfl⟩ jH;have eV:=b.2.1;obtain⟨S,j,u,K,o⟩:∃S j u K,VP T E n b.1=(S,j,u,K):=⟨_,_,_,_,z⟩;have jI:=(XL (wj b o)).2.2.2.2.2.2;have iH:=LE o;rw[o]at i⊢;simp only at i⊢;have aR:=LE (λhh=>bH.no (x:=b) o eO hh);have aX:=LE (λ(e1:S=1) eT aM=>bH.part (x:=b) (by rw[o,e1]) eO eT aM);have aW:=LE (λeT aM hk=>bH.end (x:=b) o eO eT aM hk)
   have eE:Hid (Good f (O++[b])->f<=b.1):=λhg=>by have:=hg.snoc.2;omega
   have gL:(O++[b]).length=O.length+1:=σ
   obtain⟨px,dB⟩:=nMz (O++[b]);rw[<-dB]at aR aX aW eE gL⊢;obtain⟨xn,gM⟩:∃xn,b.1=xn:=⟨_,z⟩;rw[gM]at aR aX aW eE eV⊢;clear o iH dB gM b bH
   obtain⟨o,hZ⟩:∃o,IntKind.i64.wrap (first+(xn:Int))=o:=⟨_,z⟩
   rw[hZ]at aR aX aW;have b0:X.cell? ⟨B.heap.size+1+1,0,none⟩=some (.int .i64 U):=p.sl.bb.y 0;have b1:X.cell? ⟨B.heap.size+1+1,1,none⟩=some (.int .i64 V):=p.sl.bb.y 1;have b2:X.cell? ⟨B.heap.size+1+1,2,none⟩=some (.int .i64 x):=p.sl.bb.y 2;have b3:X.cell? ⟨B.heap.size+1+1,3,none⟩=some (.string C):=p.sl.bb.y 3;have bl:B.heap.size+1+1<X.heap.size:=p.sl.bb.lt;have fr:=(cF.j.I p.sl.be).y 0;have iZ:=(cF.j.I p.sl.be).lt;have p0:=SZ i 0 (.int .i64 S) z;have p1:=SZ i 1 (.int .i64 j) z;have p2:=SZ i 2 (.int .i64 u) z;have p3:=SZ i 3 (.string K) z;have iK:=(AR.1 i).1;have bY:=LE p;have HP:=LE i;have i8:W.heap.size+2<X.heap.size:=(AR.1 p.g2).1;clear p i iT
   by_cases hm:u=o
   .subst hm
    have dN:=LE (λI=>Ea U V x C S j u K I)
    cases aM:RW U V S j with
    | false =>
     rw[aM]at dN;have HF:=LE (aR.j (by rw[aM];simp));clear aR aX aW aM
     gi_wp2_with (refine⟨trivial,?_⟩;gi_at_call 209;refine(show CallsIn Fence.wide _ _ _ _ _ _ from FH.2 (dN.j _)).J ?_;rintro e w5 ⟨rfl,aS⟩)
     exact⟨(pO aS).from _,.inl ⟨z,⟨U,V,x,C,bY.j.sl.I aS⟩,HF.j⟩⟩
    | true =>
     rw[aM]at dN;have aK:=LE (λe1=>aX.j e1 z (by rw[<-e1];exact aM));have aY:=LE (λhk=>aW.j z aM hk);clear aR aX aW aM;have dV:¬(P=B.heap.size+1+1):=d
     have iS:¬(B.heap.size+1+1=P):=d
     have eQ:(Lib.byteCells op.data.toList).length+K.size<=140737488355328:=by
      rw[Ct];omega
     have cS:=N8 op K
     have dU:∀(p:World) (i:Nat) (v:Value),KeepsOthers p (p.setCell ⟨B.heap.size+1+1,i,none⟩ v):=λp i v=>KeepsOthers.setCell _ _ _
     have eB:=LE cS;clear cS
     gi_upto_region 14 with (first
      | (refine⟨trivial,?_⟩;gi_at_call 209;refine(show CallsIn Fence.wide _ _ _ _ _ _ from FH.2 (dN.j _)).J ?_;rintro e w5 ⟨rfl,aS⟩;have aO:=bY.j.kept (sg aS) (λr e=>by cases e);have bP:=(aS.block P iK).E HP.j;clear p0 p1 p2 p3 b0 b1 b2 b3;have p0:=SZ bP 0 (.int .i64 S) rfl;have p1:=SZ bP 1 (.int .i64 j) rfl;have p2:=SZ bP 2 (.int .i64 u) rfl;have p3:=SZ bP 3 (.string K) rfl;have b0:w5.cell? ⟨B.heap.size+1+1,0,none⟩=some (.int .i64 U):=aO.sl.bb.y 0;have b1:w5.cell? ⟨B.heap.size+1+1,1,none⟩=some (.int .i64 V):=aO.sl.bb.y 1;have b2:w5.cell? ⟨B.heap.size+1+1,2,none⟩=some (.int .i64 x):=aO.sl.bb.y 2;have b3:w5.cell? ⟨B.heap.size+1+1,3,none⟩=some (.string C):=aO.sl.bb.y 3;have f0:w5.frozen? ⟨B.heap.size+1+1,0,none⟩=false:=aO.sl.bb.A 0;have f1:w5.frozen? ⟨B.heap.size+1+1,1,none⟩=false:=aO.sl.bb.A 1;have f2:w5.frozen? ⟨B.heap.size+1+1,2,none⟩=false:=aO.sl.bb.A 2;have f3:w5.frozen? ⟨B.heap.size+1+1,3,none⟩=false:=aO.sl.bb.A 3;have l5:=aS.size;have eF:=LE (aO.setWas S j u K);have iG:=LE bP;have eX:=LE aS;clear aO bP aS)
      | (refine⟨trivial,?_⟩;gi_at_call 15;refine(show CallsIn Fence.wide _ _ _ _ _ _ from FH.2 (Hu W.heap.size W.heap.size (Lib.byteCells op.data.toList) K _ eF.j.bu eQ τ)).J ?_;rintro e w9 ⟨rfl,cQ,aL,dR⟩;obtain⟨ba,cO⟩:=yW eF.j.bu;have bT:=yR cO dR aL.size;have fT:=eF.j.wrote (op':=op++K) aL dR (.inr (by rw[eB.j,Lib.byteCells_append];exact cQ));have fU:=(dR P _ ((BM _ _ _ _ dV).E ((BM _ _ _ _ dV).E ((BM _ _ _ _ dV).E ((BM _ _ _ _ dV).E iG.j)))) (by intro e;cases e;omega) (by intro cc fz e;simp at e));have fC:=LE ((pO eX.j).E ((dU _ _ _).E ((dU _ _ _).E ((dU _ _ _).E ((dU _ _ _).E bT)))));have iB:=LE (((((eX.j.J (show B.heap.size<=X.heap.size by omega)).setCell (p:=⟨B.heap.size+1+1,0,none⟩) (by show B.heap.size<=B.heap.size+1+1;omega) (.int .i64 S)).setCell (p:=⟨B.heap.size+1+1,1,none⟩) (by show B.heap.size<=B.heap.size+1+1;omega) (.int .i64 j)).setCell (p:=⟨B.heap.size+1+1,2,none⟩) (by show B.heap.size<=B.heap.size+1+1;omega) (.int .i64 u)).setCell (p:=⟨B.heap.size+1+1,3,none⟩) (by show B.heap.size<=B.heap.size+1+1;omega) (.string K) |>.E (aL.J d));have dP:=LE fT;have cA:=LE fU;have l9:w5.heap.size<=w9.heap.size:=(by have:=aL.size;simpa using this);clear cQ aL dR cO bT fT fU p0 p1 p2 p3 b0 b1 b2 b3 f0 f1 f2 f3))
     have p0:=SZ cA.j 0 (.int .i64 S) z;have p1:=SZ cA.j 1 (.int .i64 j) z;have p2:=SZ cA.j 2 (.int .i64 u) z;have p3:=SZ cA.j 3 (.string K) z;have i6:P<w9.heap.size:=d
     by_cases bR:S=1
     .have HI:Hid (InS first bJ B Rs W.heap.size (.iface 299 (.agg #[Q,R])) (.int .i64 (E:Int)) (.int .i64 (N:Int)) (.int .i64 n) y J f l px w9):=⟨S,j,u,K,op++K,dP.j,by rw[AP,gL];omega,by have:=aK.j bR;rw[bR];exact this⟩
      have eP:(S != 1)=false:=by simp[bR]
      clear aK aY
      gi_wp2
      exact⟨fC.j.from _,⟨iB.j,dP.j.g1.E bY.j.g1.symm,dP.j.g2.E bY.j.g2.symm⟩,HI.j⟩
     have eP:(S != 1)=true:=by simp[bR]
     have bW:=LE (aY.j bR);have cM:=dP.j.kept (W':=w9.drew) (row:=none) ⟨z,z,z,AA,λ_ _ _=>z⟩ (λr e=>by cases e);have aZ:=LE cM;have fJ:=LE (λI iL hs=>B5 W.heap.size W.heap.size (op++K).data.toList I iL hs);have gJ:=Iq (op++K);rw[gJ]at fJ;clear gJ cM aK aY bR
     gi_upto_region 15 with fail
     gi_region_with (first
      | (refine⟨trivial,?_⟩;gi_at_call 18;refine(show CallsIn Fence.wide _ _ _ _ _ _ from FH.2 (fJ.j _ aZ.j.bu τ)).J ?_;rintro e gZ ⟨rfl,aT,aP,aQ⟩;obtain⟨ba,cO⟩:=yW aZ.j.bu;have bT:=yR cO aQ aP.size;have iE:=LE (fC.j.E (⟨bT.size,bT.same⟩:KeepsOthers w9 gZ));have cJ:=aZ.j.wrote (op':=op++K) aP aQ aT;have aH:=aQ P _ (show w9.drew.heap[P]?=_ from cA.j) (by intro e;cases e;omega) (by intro cc fz e;simp at e);have r0:=SZ aH 0 (.int .i64 S) rfl;have r1:=SZ aH 1 (.int .i64 j) rfl;have r2:=SZ aH 2 (.int .i64 u) rfl;have r3:=SZ aH 3 (.string K) rfl;have jM:w9.heap.size<=gZ.heap.size:=aP.size;have aJ:=LE cJ;have iF:=LE aH;clear aT aP aQ cO bT cJ aH)
      | (refine⟨trivial,?_⟩;gi_at_call 210;refine(show CallsIn Fence.wide _ _ _ _ _ _ from FH.2 (E6 B.heap.size (B.heap.size+1) y J (f:Int) l S j u K (op++K) xn _ aJ.j.sl.fb aJ.j.sl.own d d (aJ.j.sl.own_ne d) d d)).J ?_;rintro e jO ⟨rfl,gK⟩;have fQ:=LE gK;clear gK))
     all_goals
      gi_wp2
      obtain⟨y2,eK⟩:=aJ.j.sl.take fQ.j;refine⟨(iE.j.E (aJ.j.sl.takeKeeps fQ.j)).from _,.inr ⟨z,xn,y2,(if S=2 then J++[op++K] else J),j,S,j,u,K,?_,eV,λhg=>⟨eE.j hg,?_,?_⟩⟩⟩
      .rw[show((xn+1:Nat):Int)=(xn:Int)+1 by omega]
       exact eK
      .split
       .simp
       omega
      .rw[show((xn+1:Nat):Int)=(xn:Int)+1 by omega]
       exact bW.j hg
   have p:(u == o)=false:=by simp[hm]
   have i:(u != o)=true:=by simp[hm]
   have HF:=LE (aR.j (λt=>hm t.1));clear aR aX aW
   gi_wp2
   refine⟨trivial,?_⟩
   gi_wp2
   exact⟨KeepsFrom.refl _ _,.inl ⟨z,⟨U,V,x,C,bY.j.sl⟩,HF.j⟩⟩
  case done =>
   rintro i O X hD ⟨dQ,K⟩ ⟨U,V,x,C,op,p,gE,bH⟩ bE;have HF:=LE (bH.done dQ K);have o:=LE (p.sl.push bE d d);clear bH K p gE bE q bB eH bV;have zl:=o.j.fb.lt
   obtain⟨K,P,dM⟩:∃K P,y=Value.slice K J.length P:=by
    rcases MS o.j.own with ⟨p,S⟩|⟨j,u,p,_⟩
    .exact⟨none,0,by rw[p,S]⟩
    exact⟨_,u,p⟩
   subst dM;have z0:X.cell? ⟨B.heap.size+1,0,none⟩=some (Value.slice K J.length P):=o.j.fb.y 0;have z1:X.cell? ⟨B.heap.size+1,1,none⟩=some (.int .i64 (f:Int)):=o.j.fb.y 1;have z2:X.cell? ⟨B.heap.size+1,2,none⟩=some (.int .i64 l):=o.j.fb.y 2;have p:=aD.j.I o.j.be;obtain⟨y0,y1,y2⟩:=p.k3;obtain⟨x0,x1,x2⟩:=p.z3;have xl:=p.lt;have cX:¬(w.heap.size+1+1=B.heap.size+1):=d
   have aU:¬(B.heap.size+1=w.heap.size+1+1):=d
   clear p
   gi_wp2
   have u:=o.j.fin (w:=w) aD.j d aI.j;refine ww B.heap.size (ScF1 w B (w.heap.size+1+1) (Value.slice K J.length P) J (f:Int) l) (λX r p S h3=>ScF1.put aF X r p S h3) (λX hX=>?_) (i::Rs) _ o.j.nd u.2 u.1;obtain⟨dF,cY,aL⟩:=hX;obtain⟨e0,e1,j⟩:=dF.k3;refine⟨.agg #[Value.slice K J.length P,.int .i64 (f:Int),.int .i64 l],by simp[results,results147,go_sem,e0,e1,j],?_⟩;rw[<-HF.j];exact⟨_,z,yr cY aF,aL⟩
  case stop =>
   rintro i cc O X hD dQ hx bE;rcases hx with ⟨rfl,⟨U,V,x,C,hl⟩,cV⟩|⟨rfl,b,y',ents',l',U,V,x,C,hl,eV,cV⟩
   .have HF:=LE (cV dQ)
    have o:=LE (hl.push bE d d);clear cV hl bE q bB eH bV;have zl:=o.j.fb.lt
    obtain⟨K,P,dM⟩:∃K P,y=Value.slice K J.length P:=by
     rcases MS o.j.own with ⟨p,S⟩|⟨j,u,p,_⟩
     .exact⟨none,0,by rw[p,S]⟩
     exact⟨_,u,p⟩
    subst dM;have z0:X.cell? ⟨B.heap.size+1,0,none⟩=some (Value.slice K J.length P):=o.j.fb.y 0;have z1:X.cell? ⟨B.heap.size+1,1,none⟩=some (.int .i64 (f:Int)):=o.j.fb.y 1;have z2:X.cell? ⟨B.heap.size+1,2,none⟩=some (.int .i64 l):=o.j.fb.y 2;have p:=aD.j.I o.j.be;obtain⟨y0,y1,y2⟩:=p.k3;obtain⟨x0,x1,x2⟩:=p.z3;have xl:=p.lt;have cX:¬(w.heap.size+1+1=B.heap.size+1):=d
    have aU:¬(B.heap.size+1=w.heap.size+1+1):=d
    clear p
    gi_wp2
    have u:=o.j.fin (w:=w) aD.j d aI.j;refine ww B.heap.size (ScF1 w B (w.heap.size+1+1) (Value.slice K J.length P) J (f:Int) l) (λX r p S h3=>ScF1.put aF X r p S h3) (λX hX=>?_) (i::Rs) _ o.j.nd u.2 u.1;obtain⟨dF,cY,aL⟩:=hX;obtain⟨e0,e1,j⟩:=dF.k3;refine⟨.agg #[Value.slice K J.length P,.int .i64 (f:Int),.int .i64 l],by simp[results,results147,go_sem,e0,e1,j],?_⟩;rw[<-HF.j];exact⟨_,z,yr cY aF,aL⟩
   obtain⟨S,P,K⟩:=cV dQ
   have o:=LE (hl.push bE d d);have p:=LE K;clear cV hl bE K q bB eH bV
   gi_wp2
   exact⟨N-(b+1),d,i::Rs,y',ents',b+1,l',U,V,x,C,_,_,_,_,_,_,_,_,_,z,z,d,d,o,p⟩
 have HF:=LE (bV.j.done (Good.nil f) (.inl τ))
 have o:=q;have eR:¬((f:Int)<(N:Int)):=d
 have zl:=o.j.fb.lt
 obtain⟨K,P,dM⟩:∃K P,y=Value.slice K J.length P:=by
  rcases MS o.j.own with ⟨p,S⟩|⟨j,u,p,_⟩
  .exact⟨none,0,by rw[p,S]⟩
  exact⟨_,u,p⟩
 subst dM;have z0:W.cell? ⟨B.heap.size+1,0,none⟩=some (Value.slice K J.length P):=o.j.fb.y 0;have z1:W.cell? ⟨B.heap.size+1,1,none⟩=some (.int .i64 (f:Int)):=o.j.fb.y 1;have z2:W.cell? ⟨B.heap.size+1,2,none⟩=some (.int .i64 l):=o.j.fb.y 2;have p:=aD.j.I o.j.be;obtain⟨y0,y1,y2⟩:=p.k3;obtain⟨x0,x1,x2⟩:=p.z3;have xl:=p.lt;have cX:¬(w.heap.size+1+1=B.heap.size+1):=d
 have aU:¬(B.heap.size+1=w.heap.size+1+1):=d
 clear p
 gi_wp2
 have u:=o.j.fin (w:=w) aD.j d aI.j;refine ww B.heap.size (ScF1 w B (w.heap.size+1+1) (Value.slice K J.length P) J (f:Int) l) (λX r p S h3=>ScF1.put aF X r p S h3) (λX hX=>?_) Rs _ o.j.nd u.2 u.1;obtain⟨dF,cY,aL⟩:=hX;obtain⟨e0,e1,j⟩:=dF.k3;refine⟨.agg #[Value.slice K J.length P,.int .i64 (f:Int),.int .i64 l],by simp[results,results147,go_sem,e0,e1,j],?_⟩;rw[<-HF.j];exact⟨_,z,yr cY aF,aL⟩
end
section
open Tryz
open Go.RowKit
theorem Jk(a:Option Addr)(g:List ByteArray)(c:Nat)(l:Option Addr)(i:List (Int×ByteArray))(m:Nat)(f b first F n:Int)(w:World)(h:Strs w a g)(L:Wrs w l i)(B:g.length<=1048576)(G:i.length<=1048576)(M:∀s∈g,s.size<=1048576)(I:∀x∈i,x.2.size<=1048576)(y:-9223372036854775808<=f/\f<=9223372036854775807)(A:¬dg g i f b n):Calls prog 147 #[LR a g.length c l i.length m,.int .i64 f,.int .i64 b,.int .i64 first,.int .i64 F,.int .i64 n] w λe k=>ji w k e ([],0,0):=by
 have v:∀k o p,Below w.heap.size w (((w.alloc k).alloc o).alloc p):=λk o p=>((LH _ _).alloc j _).alloc q _
 have E:=LE (λ(p:World) (x:Below w.heap.size w p)=>ZL a g c l i m p (h.I x) (L.I x) B G M I);have D:=LE (λp=>tV g.length f b B y.1 y.2 p)
 cases hok:LT g i
 focus
  have r:decide (1<=n/\n<=8)=decide (1<=n/\n<=8):=z;have t:decide (0<=f/\0<=b/\b<=(g.length:Int)-f)=decide (0<=f/\0<=b/\b<=(g.length:Int)-f):=z
 rotate_left
 focus
  by_cases s:1<=n/\n<=8
  focus
   have r:decide (1<=n/\n<=8)=true:=AM s;have t:decide (0<=f/\0<=b/\b<=(g.length:Int)-f)=false:=AH (λk=>A ⟨hok,s,k.1,k.2.1,d,k.2.2⟩)
  rotate_left
  focus
   have r:decide (1<=n/\n<=8)=false:=AH s;have t:decide (0<=f/\0<=b/\b<=(g.length:Int)-f)=decide (0<=f/\0<=b/\b<=(g.length:Int)-f):=z
  rotate_left
 rotate_left 2
 all_goals
  clear A;go_enter func147,ntmps147;go_wp2;refine wp_scope_straight ?_
  go_wp2_with (first|(go_at_call 84;refine(E.j _ (v _ _ _)).J ?_;rw[hok];rintro e T ⟨rfl,o⟩;have u:=(((OY w #[.slice a g.length c,.slice l i.length m] 37 w.heap.size z).alloc (.cells #[.int .i64 first] 3)).alloc (.cells #[.slice none 0 0,.int .i64 0,.int .i64 0] 187)).I o;have k:=(OY ((w.alloc (.cells #[.slice a g.length c,.slice l i.length m] 37)).alloc (.cells #[.int .i64 first] 3)) #[.slice none 0 0,.int .i64 0,.int .i64 0] 187 (w.heap.size+1+1) j).I o;have C:=LE ((v (.cells #[.slice a g.length c,.slice l i.length m] 37) (.cells #[.int .i64 first] 3) (.cells #[.slice none 0 0,.int .i64 0,.int .i64 0] 187)).E (o.J ξ));have R:=u.y 0;have S:=u.lt;have b0:=k.y 0;have J:=k.y 1;have K:=k.y 2;have N:=k.A 0;have O:=k.A 1;have P:=k.A 2;have Q:=k.lt;clear o u k)|(go_at_call 27;refine(TX _ _).J ?_;rw[r];refine OF ?_)|(go_at_call 207;refine(D.j _).J ?_;rw[t];refine OF ?_))
  try simp only[Exit.noGoto]
  refine H (v:=.agg #[.slice none 0 0,.int .i64 0,.int .i64 0]) (by simp[results,results147,go_sem,b0,J,K]) z ?_;exact⟨.slice none 0 0,z,BU _ _ _ _,((C.j.setCell (by show w.heap.size<=w.heap.size+1+1;omega) _).setCell (by show w.heap.size<=w.heap.size+1+1;omega) _).setCell (by show w.heap.size<=w.heap.size+1+1;omega) _⟩
theorem C8(a:Option Addr)(f:List ByteArray)(c:Nat)(j:Option Addr)(g:List (Int×ByteArray))(l:Nat)(d b first i n:Int)(w:World)(h:Strs w a f)(p:Wrs w j g)(q:f.length<=1048576)(m:g.length<=1048576)(r:∀s∈f,s.size<=1048576)(o:∀x∈g,x.2.size<=1048576)(u:-9223372036854775808<=d/\d<=9223372036854775807)(t:-9223372036854775808<=first/\first<=9223372036854775807)
  (s:TypeId)(v:Value)(hv:w.cell? ⟨7,0,none⟩=some (.iface s v))(x:w.cell? ⟨1,0,none⟩=some (.iface 318 (.agg #[.pointer (some ⟨10,58,none⟩)])))(y:7<w.heap.size):Calls prog 147 #[LR a f.length c j g.length l,.int .i64 d,.int .i64 b,.int .i64 first,.int .i64 i,.int .i64 n] w λe k=>ji w k e (VW f g d b first i n):=by
 by_cases k:dg f g d b n
 .exact L8 a f c j g l d b first i n w h p q m r o t s v hv x y k
 have e:VW f g d b first i n=([],0,0):=by unfold VW;rw[A k]
 rw[e]
 exact Jk a f c j g l d b first i n w h p q m r o u k
