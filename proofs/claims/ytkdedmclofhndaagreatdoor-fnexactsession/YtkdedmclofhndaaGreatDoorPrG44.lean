import Derived.Test.YtkdedmclofhndaaGreatDoorPrG43
import Derived.Sort.LoopGhostIn
import Derived.Scope
import Derived.Stop.RegionWithIn
import Derived.Sort.CutIn
import Derived.Test.YtkdedmclofhndaaGreatDoorPrG46
set_option maxHeartbeats 32000000
set_option maxRecDepth 8000
set_option linter.all false
namespace Go.Proofs.YtkdedmclofhndaaGreatDoor
open _root_.ByteArray(empty)
section
open Tryz
open Go.RowKit
section
set_option maxHeartbeats 4000000
theorem Iv(h j:Value)(x:List Int)(a c n:Int)(m:Int)(w:World)(o:x.length=64)(X:IntKind.i64.wrap (a+m)=a+m)
  (C:∀d,Below w.heap.size w d->Calls prog 330 #[.agg #[h,j],.int .i64 (a+m)] d λe b=>e=.returned (.tuple #[.agg (x.map (Value.int .u8)).toArray,.bool true])/\Below d.heap.size d b)
  (F:TypeId)(v:Value)(hv:w.cell? ⟨7,0,none⟩=some (.iface F v))(E:w.cell? ⟨1,0,none⟩=some (.iface 320 (.agg #[.pointer (some ⟨10,57,none⟩)])))(U:7<w.heap.size):Calls prog 271 #[je h j a c n,.int .i64 m] w λe b=>e=.returned (TS (NB (strOfNums x) n))/\Below w.heap.size w b:=by
 have D:∀b d,Below w.heap.size w ((w.alloc b).alloc d):=λb d=>(LG _ _).alloc σ _
 have t:=Y (λd (z:Below w.heap.size w d)=>xt (strOfNums x) n d F v ((z.cell (p:=⟨7,0,none⟩) U).E hv) ((z.cell (p:=⟨1,0,none⟩) (by show 1<_;omega)).E E) (by have:=z.size;omega))
 obtain⟨k,l,q,p,b,e⟩:∃k l q p b,TS (NB (strOfNums x) n)=.tuple #[ND k l q p,.bool b]:=by
  cases NB (strOfNums x) n with
  | none=>exact⟨_,_,_,_,_,rfl⟩
  | some y=>obtain⟨k,l,q,p⟩:=y;exact⟨_,_,_,_,_,rfl⟩
 rw[e]at t⊢;clear e hv E;have Z:(x.map (Value.int .u8)).toArray.size=64:=by simp[o]
 have G:Hid ((prog.info? 143).map (·.size)=some (x.map (Value.int .u8)).length):=by show _=_;rw[BO,o];kernel_rfl
 have i:=λk d=>qR k h j d
 obtain⟨y,u⟩:∃y,Hid (y=strOfNums x):=⟨_,Y rfl⟩;rw[<-u.j]at t;have H:=Y C;clear C;go_enter func271,ntmps271;go_wp2_with fail;refine(H.j _ (D _ _)).J ?_;rintro e V ⟨rfl,f⟩;have I:=Y (((B4.new w (.iface 301 (.agg #[h,j])) (.int .i64 a) (.int .i64 c) (.int .i64 n) 245).alloc (.cells #[.int .i64 0,.int .i64 0,.int .i64 0,.string empty] 127)).I f);have g:=(B4.new (w.alloc (.cells #[.iface 301 (.agg #[h,j]),.int .i64 a,.int .i64 c,.int .i64 n] 245)) (.int .i64 0) (.int .i64 0) (.int .i64 0) (.string empty) 127).I f;rw[BE]at g;have K:=Y g;have B:=Y ((D (.cells #[.iface 301 (.agg #[h,j]),.int .i64 a,.int .i64 c,.int .i64 n] 245) (.cells #[.int .i64 0,.int .i64 0,.int .i64 0,.string empty] 127)).E (f.J ξ));clear f i g
 go_wp2_with (first
   | (with_reducible refine WJ 143 _ _ rfl ?_;refine Ox rfl 143 _ _ rfl (x.map (Value.int .u8)) (VQ x) rfl rfl _ _ (by rw[BO,o];kernel_rfl) G.j ?_;intro d r g M;have L:=r.text (P:=prog) x 0 64 64 o (λi N=>by simp[List.getD,show i<x.length by omega]) 24 5 9 underlying24 underlying5 underlying9;rw[<-u.j]at L;have A:=r.drew.text (P:=prog) x 0 64 64 o (λi N=>by simp[List.getD,show i<x.length by omega]) 24 5 9 underlying24 underlying5 underlying9;rw[<-u.j]at A;have f:=Y (K.j.I g);have J:=Y (I.j.I g);have s:=Y (B.j.E (g.J B.j.size));clear g M r)
   | fail)
 have r0:=f.j.c0;have r1:=f.j.c1;have r2:=f.j.c2;have r3:=f.j.c3;have Q:=f.j.f0;have R:=f.j.f1;have S:=f.j.f2;have T:=f.j.f3;have q3:=J.j.c3;have W:(convert 24 9 (.slice (some ⟨V.heap.size,0,none⟩) 64 64)).run prog d.drew=.ok (.string y) d.drew:=A
 go_region_with (first|(go_at_call 121;refine(t.j _ (s.j.drew)).J ?_;rintro e w3 ⟨rfl,i⟩;have g:=f.j.drew.I i;have r:=Y (s.j.drew.E (i.J s.j.drew.size));have M:=g.c0;have N:=g.c1;have O:=g.c2;have P:=g.c3;have Q:=g.f0;have R:=g.f1;have S:=g.f2;have T:=g.f3;clear i g))
 all_goals
  go_wp2;refine AE (v:=.tuple #[ND k l q p,.bool b]) (by simp[results,results271,go_sem,M,N,O,P]) rfl ⟨rfl,?_⟩;exact(((r.j.setCell (by show _<=w.heap.size+1;omega) _).setCell (by show _<=w.heap.size+1;omega) _).setCell (by show _<=w.heap.size+1;omega) _).setCell (by show _<=w.heap.size+1;omega) _
end
theorem Bp(d f q:Int)(r:ByteArray)(k l m:Int)(p:ByteArray)(w:World):Calls prog 221 #[ND d f q r,ND k l m p] w λe a=>e=.returned (.bool (QE d f k l))/\Below w.heap.size w a:=by
 have h:∀a b,Below w.heap.size w ((w.alloc a).alloc b):=λa b=>(LG _ _).alloc σ _
 rw[<-Mf];obtain⟨B,b⟩:∃B,WD d f k l=B:=⟨_,rfl⟩;have a:=Y b;rw[b];clear b
 by_cases b:k=1\/k=2
 ·by_cases g:l=f
  ·have e:B=true:=by rw[<-a.j];unfold WD;rw[AI b];simp[g]
   subst e;subst g;clear a
   rcases b with rfl|rfl<;>(go_enter func221,ntmps221;go_wp2;all_goals (go_ret;exact⟨rfl,h _ _⟩))
  have j:(l == f)=false:=by simp[g]
  by_cases c:d=1
  ·subst c
   have e:B=false:=by rw[<-a.j];unfold WD;rw[AI b];simp[g]
   subst e;clear a
   rcases b with rfl|rfl<;>(go_enter func221,ntmps221;go_wp2;all_goals (go_ret;exact⟨rfl,h _ _⟩))
  have o:(d == 1)=false:=by simp[c]
  by_cases i:f<l
  focus
   have e:B=true:=by rw[<-a.j];unfold WD;rw[AI b];simp[c,i]
  rotate_left
  focus
   have e:B=false:=by rw[<-a.j];unfold WD;rw[AI b];simp[c,i,g]
  rotate_left
  all_goals
   subst e;clear a
   rcases b with rfl|rfl<;>(go_enter func221,ntmps221;go_wp2;all_goals (go_ret;exact⟨by simp[i],h _ _⟩))
 have j:¬k=1:=λe=>b (.inl e)
 have n:¬k=2:=λe=>b (.inr e)
 have s:(k == 1)=false:=by simp[j]
 have t:(k == 2)=false:=by simp[n]
 by_cases g:k=3
 focus
  subst g
  by_cases i:f<=l
  focus
   by_cases c:d=1
   focus
    subst c;have e:B=false:=by rw[<-a.j];unfold WD;simp
   rotate_left
   focus
    have o:(d == 1)=false:=by simp[c]
    have e:B=true:=by rw[<-a.j];unfold WD;simp[c,i]
   rotate_left
  rotate_left 2
  focus
   have e:B=false:=by rw[<-a.j];unfold WD;simp[i]
  rotate_left
 rotate_left 3
 focus
  have u:(k == 3)=false:=by simp[g]
  have e:B=false:=by rw[<-a.j];unfold WD;rw[AF b,AF g]
 rotate_left
 all_goals
  subst e;clear a b;go_enter func221,ntmps221;go_wp2
  all_goals (go_ret;exact⟨rfl,h _ _⟩)
theorem p8(n:Nat)(f s:Int)(i:n<=1048576)(d:-9223372036854775808<=f)(g:f<=9223372036854775807)(w:World):Calls prog 219 #[.int .i64 (n:Int),.int .i64 f,.int .i64 s] w λe a=>e=.returned (.bool (decide (0<=f/\0<=s/\s<=(n:Int)-f)))/\a=w:=by
 by_cases b:0<=f
 ·have j:IntKind.i64.wrap ((n:Int)-f)=(n:Int)-f:=by simp[IntKind.wrap,IntKind.bits,IntKind.signed];omega
  by_cases c:0<=s
  ·by_cases a:s<=(n:Int)-f
   ·have e:decide (0<=f/\0<=s/\s<=(n:Int)-f)=true:=AM ⟨b,c,a⟩
    rw[e];go_enter func219,ntmps219;go_wp2;go_ret;exact⟨by simp[a],rfl⟩
   have e:decide (0<=f/\0<=s/\s<=(n:Int)-f)=false:=AH (λh=>a h.2.2)
   rw[e];go_enter func219,ntmps219;go_wp2;go_ret;exact⟨by simp[a],rfl⟩
  have e:decide (0<=f/\0<=s/\s<=(n:Int)-f)=false:=AH (λh=>c h.2.1)
  rw[e];go_enter func219,ntmps219;go_wp2;go_ret;exact⟨rfl,rfl⟩
 have e:decide (0<=f/\0<=s/\s<=(n:Int)-f)=false:=AH (λh=>b h.1)
 rw[e];go_enter func219,ntmps219;go_wp2;go_ret;exact⟨rfl,rfl⟩
end
section
open Tryz
open Go.RowKit Go.Shelf
attribute [local go_sem] Oper.semAt_some
theorem Ma(a b:ByteArray):(a++b).data.toList=a.data.toList++b.data.toList:=by rw[ByteArray.data_append,Array.toList_append]
theorem Ah(a:ByteArray):(Lib.byteCells a.data.toList).length=a.size:=by rw[Lib.byteCells_length];exact Array.length_toList
theorem Gj(a:ByteArray):(⟨a.data.toList.toArray⟩:ByteArray)=a:=by rw[Array.toArray_toList]
theorem tf{w:World}{b0 c:Nat}{e:TypeId}{s:Nat}{v:Value}{n:Nat}{d:List Value}(h:w.ownsRow c e s v n d)(k:b0<=c):w.ownsRow b0 e s v n d:=by
 refine⟨h.1,?_⟩;rcases h.2 with f|⟨g,a,b,hv,j,i⟩
 ·exact .inl f
 exact .inr ⟨g,a,b,hv,ω,i⟩
theorem Fl{d:World}{g:Nat}{c:Value}{a:List (Int×ByteArray)}(f:d.ownsRow (g+1) 145 65 c a.length (Ot (LP a))):∃b e,c=.slice b (LP a).length e/\OwnS d b (Ot (LP a)):=by
 rw[QL];rcases MC f with ⟨e,i⟩|⟨h,b,e,k,l,j⟩
 ·have:a=[]:=AD i
  subst this;exact⟨none,0,e,.inl rfl⟩
 exact⟨_,b,e,.inr ⟨h,rfl,j⟩⟩
theorem J7(a:Option Addr)(j:List ByteArray)(c:Nat)(L:Option Addr)(q:List (Int×ByteArray))(T:Nat)(M B first z n:Int)(w:World)(h:Strs w a j)(h':Wrs w L q)(hl:j.length<=1048576)(iO:q.length<=1048576)(hs:∀s∈j,s.size<=1048576)(gI:∀x∈q,x.2.size<=1048576)(eO:-9223372036854775808<=first/\first<=9223372036854775807)
  (ty:TypeId)(v:Value)(hv:w.cell? ⟨7,0,none⟩=some (.iface ty v))(h0:w.cell? ⟨1,0,none⟩=some (.iface 320 (.agg #[.pointer (some ⟨10,57,none⟩)])))(hg:7<w.heap.size)(dL:XR j q M B n):Calls prog 166 #[LM a j.length c L q.length T,.int .i64 M,.int .i64 B,.int .i64 first,.int .i64 z,.int .i64 n] w λe o=>aw w o e (TG j q M B first z n):=by
 have b:TG j q M B first z n=NW (λk=>(Oz q j).getD k empty) M.toNat first n B.toNat 0 2 z empty ([],0,z):=by unfold TG;rw[AI dL,Ib]
 rw[b];clear b;obtain⟨g,hn,f0,s0,f1,s1⟩:=dL;obtain⟨f,rfl⟩:∃k:Nat,M=(k:Int):=⟨M.toNat,ω⟩;obtain⟨N,rfl⟩:∃k:Nat,B=(k:Int):=⟨B.toNat,ω⟩;simp only[DS];have l:decide (1<=n/\n<=8)=true:=AM hn;obtain⟨⟨jG,fX,fY⟩,d,i⟩:=OV g
 obtain⟨G,b⟩:∃G:Nat->ByteArray,G=λk=>(Oz q j).getD k empty:=⟨_,rfl⟩
 rw[<-b];have iI:=Y b
 obtain⟨bJ,cI⟩:∃bJ,Hid (bJ=NW G f first n N 0 2 z empty ([],0,z)):=⟨_,Y rfl⟩
 rw[<-cI.j];clear b;have cL:N<=200:=ω
 have fO:Hid (∀t,Calls prog 219 #[.int .i64 (j.length:Int),.int .i64 (f:Int),.int .i64 (N:Int)] t λe o=>e=.returned (.bool true)/\o=t):=λt=>by
  have:=p8 j.length (f:Int) (N:Int) hl ω ω t;rw[AM (show 0<=(f:Int)/\0<=(N:Int)/\(N:Int)<=(j.length:Int)-(f:Int) by omega)]at this;exact this
 have u:=Y (λ(t:World) (O:Below w.heap.size w t)=>WA a j c L q T t (h.I O) (h'.I O) hl iO hs gI);rw[g]at u;have V:=Y (λ(t:World) (O:Below w.heap.size w t)=>gw a j c L q T t (h.I O) (h'.I O) fX fY (λs hs=>by have:=d s hs;omega) (λx hx=>by have:=AW (i x hx);omega));have E:=Y (λt=>RH n t);rw[l]at E
 have b:∀m p r,Below w.heap.size w (((w.alloc m).alloc p).alloc r):=λm p r=>((LG _ _).alloc σ _).alloc τ _
 have D:=Y b;have HH:=Y h;have iD:=Y h';have H:=Y i;have iA:=Y d;have X:=Y (λt (O:Below w.heap.size w t)=>((O.cell (p:=⟨7,0,none⟩) hg).E hv));have W:=Y (λt (O:Below w.heap.size w t)=>((O.cell (p:=⟨1,0,none⟩) (by show 1<_;omega)).E h0));clear h h' i d hv h0 hs gI b g l;refine(FE (n:=4)).1 ?_;refine callsIn_of_wp_marks func166 rfl trivial ?_ rfl;simp only[ntmps166,GP,BJ,AT,Nat.reduceAdd,Nat.reduceSub,FY,FZ,GO,FI,EK,EV]
 gi_wp2
 refine wpIn_wide.2 (wp_scope_straight ((wpIn_wide (n:=4)).1 ?_))
 gi_wp2_with (first
  | (refine⟨trivial,?_⟩;gi_at_call 101;refine(FE.2 (u.j _ (D.j _ _ _))).J ?_;rintro e w1 ⟨rfl,l⟩;have m:=(((NZ w #[.slice a j.length c,.slice L q.length T] 32 w.heap.size rfl).alloc (.cells #[.int .i64 first] 3)).alloc (.cells #[.slice none 0 0,.int .i64 0,.int .i64 0] 174)).I l;have F:=((NZ (w.alloc (.cells #[.slice a j.length c,.slice L q.length T] 32)) #[.int .i64 first] 3 (w.heap.size+1) σ).alloc (.cells #[.slice none 0 0,.int .i64 0,.int .i64 0] 174)).I l;have J:=(NZ ((w.alloc (.cells #[.slice a j.length c,.slice L q.length T] 32)).alloc (.cells #[.int .i64 first] 3)) #[.slice none 0 0,.int .i64 0,.int .i64 0] 174 (w.heap.size+1+1) σ).I l;have r:=(D.j (.cells #[.slice a j.length c,.slice L q.length T] 32) (.cells #[.int .i64 first] 3) (.cells #[.slice none 0 0,.int .i64 0,.int .i64 0] 174)).E (l.J ξ);have fH:=Y F;have fI:=Y J;have A:=Y r;have U:=m.y 0;have q1:=m.y 1;have ql:=m.lt;clear m F J r l)
  | (refine⟨trivial,?_⟩;gi_at_call 36;refine(FE.2 (E.j _)).J ?_;refine NE ?_)
  | (refine⟨trivial,?_⟩;gi_at_call 219;refine(FE.2 (fO.j _)).J ?_;refine NE ?_)
  | (refine⟨trivial,?_⟩;gi_at_call 153;refine(FE.2 (V.j _ A.j)).J ?_;rintro e w2 ⟨g,vv,rfl,C,p,K,b⟩;clear U q1 ql;obtain⟨a2,c2,iU,y⟩:∃a2 c2,vv=.slice a2 (LP q).length c2/\OwnS w2 a2 (Ot (LP q)):=Fl p;subst iU;have I:=Y (Below.then A.j (AA _) b);have R:=Y (fH.j.I b);have S:=Y (fI.j.I b);have Q:=Y C;have P:=Y y;clear b C p y K)
  | (refine⟨trivial,?_⟩;gi_at_call 217;refine(FE.2 (vC _ _ _ _ _ _ _)).J ?_;rintro e d ⟨rfl,i⟩;have aI:=Y (Below.then I.j (AA _) i);have cF:=Y (R.j.I i);have aD:=Y (S.j.I i);have fG:=Y (Q.j.I i);have Z:=Y (P.j.I i);clear i))
 have aF:w.heap.size<=d.heap.size:=aI.j.size;have iQ:=aD.j.lt
 have i:∀p∈LP q,p.2.length=64:=λp r=>by
  obtain⟨x,hx,rfl⟩:=DT.1 r;have:=AW (H.j x hx);show(LF x.2).length=64;rw[MR];omega
 have U:Hld d a2 (LP q):=by
  rcases Z.j with h0|⟨b,rfl,K⟩
  ·refine .inl (AD ?_)
   have:=BC List.length h0;rw[P5 _ i,AT]at this;omega
  exact K.hld i
 have fF:Hid (∀t,Below d.heap.size d t->∀m:Nat,m<N->Calls prog 271 #[je (.slice a2 (LP q).length c2) (.iface 107 (.slice (some ⟨g,0,none⟩) j.length j.length)) (f:Int) (N:Int) n,.int .i64 (m:Int)] t λe o=>e=.returned (TS (NB (G (f+m)) n))/\Below t.heap.size t o):=λt O m hm=>by
  have fW:f+m<j.length:=ω
  have C:f+m<(RC (LP q) (j.map LF)).length:=by rw[fi];simp;omega
  have hX:strOfNums ((RC (LP q) (j.map LF)).getD (f+m) [])=G (f+m):=by
   rw[iI.j,<-sy];simp[O4,List.getD,C]
  have l:Below w.heap.size w t:=aI.j.E (O.J aF);rw[<-hX];refine Iv _ _ _ _ _ _ _ t (Pw (ry _ _ i fG.j.len) C) (by simp[IntKind.wrap,IntKind.bits,IntKind.signed];omega) (λF o=>?_) ty v (X.j _ l) (W.j _ l) (by have:=l.size;omega);have b:=O.E (o.J O.size);have:=uI a2 (LP q) c2 g j.length j.length (f+m) (j.map LF) F (U.I b) i (λp r=>by obtain⟨y,o,rfl⟩:=DT.1 r;exact(AW (H.j y o)).1) (by rw[QL];exact fY) (fG.j.I b) σ fX fW;rw[show((f:Int)+(m:Int))=((f+m:Nat):Int) by omega];exact this
 obtain⟨F,iC⟩:∃F,Hid (F=Value.iface 107 (.slice (some ⟨g,0,none⟩) j.length j.length)):=⟨_,Y rfl⟩;obtain⟨C,iJ⟩:∃C,Hid (C=Value.slice a2 (LP q).length c2):=⟨_,Y rfl⟩;(try unfold yI at fF);(try unfold yI);rw[<-iC.j,<-iJ.j]at fF⊢
 have b:Hid (ScL d (((d.alloc (.cells #[.iface 301 (.agg #[C,F]),.int .i64 (f:Int),.int .i64 (N:Int),.int .i64 n] 245)).alloc (.cells #[.slice none 0 0,.int .i64 0,.int .i64 z] 174)).alloc (.cells #[.int .i64 2,.int .i64 z,.int .i64 0,.string ⟨#[]⟩] 127)) [] (((d.alloc (.cells #[.iface 301 (.agg #[C,F]),.int .i64 (f:Int),.int .i64 (N:Int),.int .i64 n] 245)).alloc (.cells #[.slice none 0 0,.int .i64 0,.int .i64 z] 174)).alloc (.cells #[.int .i64 2,.int .i64 z,.int .i64 0,.string ⟨#[]⟩] 127)).heap.size (.iface 301 (.agg #[C,F])) (.int .i64 (f:Int)) (.int .i64 (N:Int)) (.int .i64 n) (.slice none 0 0) [] 0 z 2 z 0 ⟨#[]⟩):=by
  refine⟨((NZ _ _ _ _ rfl).alloc _).alloc _,(NZ _ _ _ _ σ).alloc _,NZ _ _ _ _ σ,BT _ _ _ _,λk hk=>(by cases hk),((LG _ _).alloc σ _).alloc τ _,λr J=>(by cases J),List.nodup_nil⟩
 clear V u E fO D fH fI A R S I Q P Z U i HH iD H iA X W;refine wpIn_label ?_
 gi_wp2
 refine wpIn_loop_ghost (λk A W=>∃(Rs:List Nat) (y:Value) (p:List ByteArray) (u:Nat) (l H I Q:Int) (R:ByteArray) (gN gQ gR gS gU gV gW gX gY:Value),A={ tmps:=#[LM a j.length c L q.length T,.int .i64 (f:Int),.int .i64 (N:Int),.int .i64 first,.int .i64 z,.int .i64 n,.pointer (some ⟨w.heap.size,0,none⟩),undef,undef,.pointer (some ⟨w.heap.size+1,0,none⟩),undef,undef,.pointer (some ⟨w.heap.size+1+1,0,none⟩),.pointer (some ⟨d.heap.size,0,none⟩),.pointer (some ⟨d.heap.size+1,0,none⟩),.pointer (some ⟨d.heap.size+1+1,0,none⟩),gN,undef,undef,.agg #[.slice a j.length c,.slice L q.length T],.bool true,.bool false,.bool false,.int .i64 n,.bool true,.bool false,.bool false,.bool false,.pointer (some ⟨w.heap.size,0,none⟩),.slice a j.length c,.int .i64 (j.length:Int),.int .i64 (f:Int),.int .i64 (N:Int),.bool true,.bool false,.bool false,undef,.agg #[.slice a j.length c,.slice L q.length T],.agg #[.slice (some ⟨g,0,none⟩) j.length j.length,C],(.iface 301 (.agg #[C,F])),.int .i64 (f:Int),.int .i64 (N:Int),.int .i64 n,.agg #[.iface 301 (.agg #[C,F]),.int .i64 (f:Int),.int .i64 (N:Int),.int .i64 n],.int .i64 z,.agg #[.slice none 0 0,.int .i64 0,.int .i64 z],.int .i64 z,.agg #[.int .i64 2,.int .i64 z,.int .i64 0,.string ⟨#[]⟩],gQ,gR,gS,gU,gV,gW,gX,gY,undef,undef,undef,undef,undef,undef,undef,undef,undef,undef,undef,undef,undef,undef,undef,undef,undef,undef,undef,undef,undef,undef,undef,undef,undef,undef],defers:=Rs.map (λr=>({ target:=.collected r,args:=#[] }:Deferred)) }/\k=N-u/\u<=N/\p.length<=u/\Hid (ScL d W Rs W.heap.size (.iface 301 (.agg #[C,F])) (.int .i64 (f:Int)) (.int .i64 (N:Int)) (.int .i64 n) y p (u:Int) l H I Q R)/\Hid (Chn (S:=G) (frm:=f) (n:=n) (size:=N) first bJ u [] H I empty (p,(u:Int),l))) N ⟨[],.slice none 0 0,[],0,z,2,z,0,⟨#[]⟩,undef,undef,undef,undef,undef,undef,undef,undef,undef,rfl,ω,AL _,AA _,b,?_⟩ ?_
 ·intro _
  refine⟨AL _,?_⟩;rw[cI.j];rfl
 rintro k _ W ⟨Rs,y,p,u,l,H,I,Q,R,gN,gQ,gR,gS,gU,gV,gW,gX,gY,rfl,rfl,jK,jB,S,bV⟩
 clear b;have iM:W.cell? ⟨d.heap.size+1,1,none⟩=some (.int .i64 (u:Int)):=S.j.fb.y 1;have jC:=S.j.fb.lt
 by_cases fW:u<N
 ·have eR:(u:Int)<(N:Int):=ω
  have b:W.cell? ⟨d.heap.size,0,none⟩=some (.iface 301 (.agg #[C,F])):=S.j.lb.y 0;have i:W.cell? ⟨d.heap.size,1,none⟩=some (.int .i64 (f:Int)):=S.j.lb.y 1;have o:W.cell? ⟨d.heap.size,2,none⟩=some (.int .i64 (N:Int)):=S.j.lb.y 2;have D:W.cell? ⟨d.heap.size,3,none⟩=some (.int .i64 n):=S.j.lb.y 3;have jN:=S.j.lb.lt
  gi_wp2_with (refine⟨trivial,?_⟩;gi_at_call 220;refine(Nr _ _ _ _ _ _ _ _).J ?_;rintro e w4 ⟨rfl,rfl⟩)
  clear iM b i o D;have iP:d.heap.size+2<W.heap.size:=S.j.bb.lt;obtain⟨WS,b⟩:∃WS,WS=((W.alloc (.cells #[.pointer none,.slice none 0 0] 55)).alloc (.cells #[.iface 301 (.agg #[C,F]),.int .i64 (f:Int),.int .i64 (N:Int),.int .i64 n] 245)).alloc (.cells #[.int .i64 (u:Int)] 3):=⟨_,rfl⟩;have i:Below W.heap.size W WS:=by rw[b];exact((LG _ _).alloc σ _).alloc τ _
  have i7:WS.heap.size=W.heap.size+3:=by rw[b];simp
  have o:ScN d WS Rs W.heap.size (.iface 301 (.agg #[C,F])) (.int .i64 (f:Int)) (.int .i64 (N:Int)) (.int .i64 n) y p (u:Int) l H I Q R empty:=by
   have V:=AU W (.cells #[.pointer none,.slice none 0 0] 55);have Z:=AU (W.alloc (.cells #[.pointer none,.slice none 0 0] 55)) (.cells #[.iface 301 (.agg #[C,F]),.int .i64 (f:Int),.int .i64 (N:Int),.int .i64 n] 245);have D:=AU ((W.alloc (.cells #[.pointer none,.slice none 0 0] 55)).alloc (.cells #[.iface 301 (.agg #[C,F]),.int .i64 (f:Int),.int .i64 (N:Int),.int .i64 n] 245)) (.cells #[.int .i64 (u:Int)] 3);simp only[BE]at Z D;refine⟨S.j.I i,.inl ⟨AA _,.slice none 0 0,?_,World.ownsRowF_nil _ _ _ _,by simp[Value.ownBlock]⟩,?_,?_,λk e=>(S.j.own.lt k e).2,iP⟩
   ·rw[b,JO _ _ τ,JO _ _ σ];exact V
   ·rw[b,JO _ _ σ];exact Z
   rw[b];exact D
  rw[<-b];have eH:=Y i;have bB:=Y o;clear b i o
  refine wpIn_rangeFunc_ownH rfl ω (gf:=270) (lb:=#[.pointer (some ⟨W.heap.size+1+1,0,none⟩),.pointer (some ⟨W.heap.size+1,0,none⟩)]) rfl trivial (enters_of func270 κ rfl)
   (zX 3 ω (W.heap.size+1) (W.heap.size+1+1) f N u G n C F d WS cL ω bB.j.sl.be fF bB.j.g1 bB.j.g2)
   KpP.t (KpP.b ω ω ω) (AB _ _) (λ_=>rfl)
   (λE X=>InS first bJ d Rs W.heap.size (.iface 301 (.agg #[C,F])) (.int .i64 (f:Int)) (.int .i64 (N:Int)) (.int .i64 n) y p u l E X)
   (λcc E X=>InX first bJ d Rs W.heap.size (.iface 301 (.agg #[C,F])) (.int .i64 (f:Int)) (.int .i64 (N:Int)) (.int .i64 n) y p u l cc E X)
   (InS.own _ ω) (λcc=>InX.own _ ω ω cc)
   ⟨H,I,Q,R,empty,bB.j,AL _,bV.j⟩
   (λx b X=>∃P,X.heap[P]?=some (.cells #[.int .i64 (SZ G f n x.1).1,.int .i64 (SZ G f n x.1).2.1,.int .i64 (SZ G f n x.1).2.2.1,.string (SZ G f n x.1).2.2.2] 127 (0,0))/\W.heap.size+2<P/\b={ tmps:=#[LM a j.length c L q.length T,.int .i64 (f:Int),.int .i64 (N:Int),.int .i64 first,.int .i64 z,.int .i64 n,.pointer (some ⟨w.heap.size,0,none⟩),undef,undef,.pointer (some ⟨w.heap.size+1,0,none⟩),undef,undef,.pointer (some ⟨w.heap.size+1+1,0,none⟩),.pointer (some ⟨d.heap.size,0,none⟩),.pointer (some ⟨d.heap.size+1,0,none⟩),.pointer (some ⟨d.heap.size+1+1,0,none⟩),.pointer (some ⟨W.heap.size,0,none⟩),.int .i64 (x.1:Int),.pointer (some ⟨P,0,none⟩),.agg #[.slice a j.length c,.slice L q.length T],.bool true,.bool false,.bool false,.int .i64 n,.bool true,.bool false,.bool false,.bool false,.pointer (some ⟨w.heap.size,0,none⟩),.slice a j.length c,.int .i64 (j.length:Int),.int .i64 (f:Int),.int .i64 (N:Int),.bool true,.bool false,.bool false,undef,.agg #[.slice a j.length c,.slice L q.length T],.agg #[.slice (some ⟨g,0,none⟩) j.length j.length,C],(.iface 301 (.agg #[C,F])),.int .i64 (f:Int),.int .i64 (N:Int),.int .i64 n,.agg #[.iface 301 (.agg #[C,F]),.int .i64 (f:Int),.int .i64 (N:Int),.int .i64 n],.int .i64 z,.agg #[.slice none 0 0,.int .i64 0,.int .i64 z],.int .i64 z,.agg #[.int .i64 2,.int .i64 z,.int .i64 0,.string ⟨#[]⟩],.pointer (some ⟨d.heap.size+1,1,none⟩),.int .i64 (u:Int),.int .i64 (N:Int),.bool true,.agg #[.iface 301 (.agg #[C,F]),.int .i64 (f:Int),.int .i64 (N:Int),.int .i64 n],.pointer (some ⟨d.heap.size+1,1,none⟩),.int .i64 (u:Int),.func (.func 270) #[] #[.pointer (some ⟨W.heap.size+1+1,0,none⟩),.pointer (some ⟨W.heap.size+1,0,none⟩)],.int .i64 (x.1:Int),vj (SZ G f n x.1),undef,undef,undef,undef,undef,undef,undef,undef,undef,undef,undef,undef,undef,undef,undef,undef,undef,undef,undef,undef,undef,undef,undef,undef],defers:=[] }) ?hax ?assign ?body ?done ?stop
  case hax =>
   rintro x L s X b K ⟨P,U,O,E⟩ hg J;refine⟨P,(hg.block P (AP.1 U).1 (λe=>?_)).E U,O,E⟩;obtain⟨_,o,D,i⟩:=J P e.symm
   rw[U]at D;cases D;cases i
  case assign =>
   intro lp E x X K o D
   have J:WS.heap.size<=X.heap.size:=by
    obtain⟨H,I,Q,R,op,i,_,_⟩:=o;have:=(AP.1 i.g2).1;omega
   gi_wp2
   have b:Below X.heap.size X (X.alloc (.cells #[.int .i64 (SZ G f n x.1).1,.int .i64 (SZ G f n x.1).2.1,.int .i64 (SZ G f n x.1).2.2.1,.string (SZ G f n x.1).2.2.2] 127)):=LG _ _;refine D _ _ ((lO b).from _) ⟨b.J ω,b.block _ ω,b.block _ ω⟩ (InS.own _ (AA _) _ _ _ none o (ku b) (λr e=>by cases e)) ⟨X.heap.size,AU _ _,ω,?_⟩;rfl
  case body =>
   rintro lp E x _ X jE ⟨rr,iT⟩ ⟨H,I,Q,R,op,i,gE,Z⟩ ⟨P,U,jA,rfl⟩ jH;have eV:=x.2.1;obtain⟨D,K,J,o,bI⟩:∃D K J o,SZ G f n x.1=(D,K,J,o):=⟨_,_,_,_,rfl⟩;have jI:=(UJ (qo x bI)).2.2.2.2.2.2;have iH:=Y bI;rw[bI]at U⊢;simp only at U⊢;have aR:=Y (λb=>Z.no (x:=x) bI eO b);have aX:=Y (λ(V:D=1) eT b=>Z.part (x:=x) (by rw[bI,V]) eO eT b);have aW:=Y (λeT b hk=>Z.end (x:=x) bI eO eT b hk)
   have eE:Hid (Good u (E++[x])->u<=x.1):=λhg=>by have:=hg.snoc.2;omega
   have gL:(E++[x]).length=E.length+1:=σ
   obtain⟨px,dB⟩:∃px,px=E++[x]:=⟨_,rfl⟩;rw[<-dB]at aR aX aW eE gL⊢;obtain⟨xn,gM⟩:∃xn,x.1=xn:=⟨_,rfl⟩;rw[gM]at aR aX aW eE eV⊢;clear bI iH dB gM x Z
   obtain⟨Z,hZ⟩:∃Z,IntKind.i64.wrap (first+(xn:Int))=Z:=⟨_,rfl⟩
   rw[hZ]at aR aX aW;have b0:X.cell? ⟨d.heap.size+1+1,0,none⟩=some (.int .i64 H):=i.sl.bb.y 0;have b1:X.cell? ⟨d.heap.size+1+1,1,none⟩=some (.int .i64 I):=i.sl.bb.y 1;have b2:X.cell? ⟨d.heap.size+1+1,2,none⟩=some (.int .i64 Q):=i.sl.bb.y 2;have b3:X.cell? ⟨d.heap.size+1+1,3,none⟩=some (.string R):=i.sl.bb.y 3;have bl:d.heap.size+1+1<X.heap.size:=i.sl.bb.lt;have fr:=(cF.j.I i.sl.be).y 0;have iZ:=(cF.j.I i.sl.be).lt;have p0:=QT U 0 (.int .i64 D) rfl;have p1:=QT U 1 (.int .i64 K) rfl;have p2:=QT U 2 (.int .i64 J) rfl;have p3:=QT U 3 (.string o) rfl;have iK:=(AP.1 U).1;have bY:=Y i;have HP:=Y U;have i8:W.heap.size+2<X.heap.size:=(AP.1 i.g2).1;clear i U iT
   by_cases hm:J=Z
   ·subst hm
    have dN:=Y (λt=>Bp H I Q R D K J o t)
    cases b:QE H I D K with
    | false =>
     rw[b]at dN;have HF:=Y (aR.j (by rw[b];simp));clear aR aX aW b
     gi_wp2_with (refine⟨trivial,?_⟩;gi_at_call 221;refine(show CallsIn Fence.wide _ _ _ _ _ _ from FE.2 (dN.j _)).J ?_;rintro e w5 ⟨rfl,aS⟩)
     exact⟨(lO aS).from _,.inl ⟨rfl,⟨H,I,Q,R,bY.j.sl.I aS⟩,HF.j⟩⟩
    | true =>
     rw[b]at dN;have aK:=Y (λV=>aX.j V rfl (by rw[<-V];exact b));have aY:=Y (λhk=>aW.j rfl b hk);clear aR aX aW b;have dV:¬(P=d.heap.size+1+1):=ω
     have iS:¬(d.heap.size+1+1=P):=ω
     have eQ:(Lib.byteCells op.data.toList).length+o.size<=140737488355328:=by
      rw[Ah];omega
     have U:=Ma op o
     have dU:∀(b:World) (i:Nat) (v:Value),KeepsOthers b (b.setCell ⟨d.heap.size+1+1,i,none⟩ v):=λb i v=>KeepsOthers.setCell _ _ _
     have eB:=Y U;clear U
     gi_upto_region 14 with (first
      | (refine⟨trivial,?_⟩;gi_at_call 221;refine(show CallsIn Fence.wide _ _ _ _ _ _ from FE.2 (dN.j _)).J ?_;rintro e w5 ⟨rfl,aS⟩;have aO:=bY.j.kept (ku aS) (λr e=>by cases e);have bP:=(aS.block P iK).E HP.j;clear p0 p1 p2 p3 b0 b1 b2 b3;have p0:=QT bP 0 (.int .i64 D) rfl;have p1:=QT bP 1 (.int .i64 K) rfl;have p2:=QT bP 2 (.int .i64 J) rfl;have p3:=QT bP 3 (.string o) rfl;have b0:w5.cell? ⟨d.heap.size+1+1,0,none⟩=some (.int .i64 H):=aO.sl.bb.y 0;have b1:w5.cell? ⟨d.heap.size+1+1,1,none⟩=some (.int .i64 I):=aO.sl.bb.y 1;have b2:w5.cell? ⟨d.heap.size+1+1,2,none⟩=some (.int .i64 Q):=aO.sl.bb.y 2;have b3:w5.cell? ⟨d.heap.size+1+1,3,none⟩=some (.string R):=aO.sl.bb.y 3;have f0:w5.frozen? ⟨d.heap.size+1+1,0,none⟩=false:=aO.sl.bb.A 0;have f1:w5.frozen? ⟨d.heap.size+1+1,1,none⟩=false:=aO.sl.bb.A 1;have f2:w5.frozen? ⟨d.heap.size+1+1,2,none⟩=false:=aO.sl.bb.A 2;have f3:w5.frozen? ⟨d.heap.size+1+1,3,none⟩=false:=aO.sl.bb.A 3;have l5:=aS.size;have eF:=Y (aO.setWas D K J o);have iG:=Y bP;have eX:=Y aS;clear aO bP aS)
      | (refine⟨trivial,?_⟩;gi_at_call 14;refine(show CallsIn Fence.wide _ _ _ _ _ _ from FE.2 (Fo W.heap.size W.heap.size (Lib.byteCells op.data.toList) o _ eF.j.bu eQ τ)).J ?_;rintro e w9 ⟨rfl,cQ,U,dR⟩;obtain⟨ba,cO⟩:=vZ eF.j.bu;have bT:=vU cO dR U.size;have fT:=eF.j.wrote (op':=op++o) U dR (.inr (by rw[eB.j,Lib.byteCells_append];exact cQ));have fU:=(dR P _ ((BM _ _ _ _ dV).E ((BM _ _ _ _ dV).E ((BM _ _ _ _ dV).E ((BM _ _ _ _ dV).E iG.j)))) (by intro e;cases e;omega) (by intro cc fz e;simp at e));have fC:=Y ((lO eX.j).E ((dU _ _ _).E ((dU _ _ _).E ((dU _ _ _).E ((dU _ _ _).E bT)))));have iB:=Y (((((eX.j.J (show d.heap.size<=X.heap.size by omega)).setCell (p:=⟨d.heap.size+1+1,0,none⟩) (by show d.heap.size<=d.heap.size+1+1;omega) (.int .i64 D)).setCell (p:=⟨d.heap.size+1+1,1,none⟩) (by show d.heap.size<=d.heap.size+1+1;omega) (.int .i64 K)).setCell (p:=⟨d.heap.size+1+1,2,none⟩) (by show d.heap.size<=d.heap.size+1+1;omega) (.int .i64 J)).setCell (p:=⟨d.heap.size+1+1,3,none⟩) (by show d.heap.size<=d.heap.size+1+1;omega) (.string o) |>.E (U.J ω));have dP:=Y fT;have cA:=Y fU;have l9:w5.heap.size<=w9.heap.size:=(by have:=U.size;simpa using this);clear cQ U dR cO bT fT fU p0 p1 p2 p3 b0 b1 b2 b3 f0 f1 f2 f3))
     have p0:=QT cA.j 0 (.int .i64 D) rfl;have p1:=QT cA.j 1 (.int .i64 K) rfl;have p2:=QT cA.j 2 (.int .i64 J) rfl;have p3:=QT cA.j 3 (.string o) rfl;have i6:P<w9.heap.size:=ω
     by_cases U:D=1
     ·have HI:Hid (InS first bJ d Rs W.heap.size (.iface 301 (.agg #[C,F])) (.int .i64 (f:Int)) (.int .i64 (N:Int)) (.int .i64 n) y p u l px w9):=⟨D,K,J,o,op++o,dP.j,by rw[BW,gL];omega,by have:=aK.j U;rw[U];exact this⟩
      have eP:(D != 1)=false:=by simp[U]
      clear aK aY
      gi_wp2
      exact⟨fC.j.from _,⟨iB.j,dP.j.g1.E bY.j.g1.symm,dP.j.g2.E bY.j.g2.symm⟩,HI.j⟩
     have eP:(D != 1)=true:=by simp[U]
     have bW:=Y (aY.j U);have cM:=dP.j.kept (W':=w9.drew) (row:=none) ⟨rfl,rfl,rfl,AA _,λ_ _ _=>rfl⟩ (λr e=>by cases e);have aZ:=Y cM;have fJ:=Y (λt iL hs=>zL W.heap.size W.heap.size (op++o).data.toList t iL hs);have gJ:=Gj (op++o);rw[gJ]at fJ;clear gJ cM aK aY U
     gi_upto_region 15 with fail
     gi_region_with (first
      | (refine⟨trivial,?_⟩;gi_at_call 17;refine(show CallsIn Fence.wide _ _ _ _ _ _ from FE.2 (fJ.j _ aZ.j.bu τ)).J ?_;rintro e gZ ⟨rfl,aT,aP,aQ⟩;obtain⟨ba,cO⟩:=vZ aZ.j.bu;have bT:=vU cO aQ aP.size;have iE:=Y (fC.j.E (⟨bT.size,bT.same⟩:KeepsOthers w9 gZ));have cJ:=aZ.j.wrote (op':=op++o) aP aQ aT;have U:=aQ P _ (show w9.drew.heap[P]?=_ from cA.j) (by intro e;cases e;omega) (by intro cc fz e;simp at e);have r0:=QT U 0 (.int .i64 D) rfl;have r1:=QT U 1 (.int .i64 K) rfl;have r2:=QT U 2 (.int .i64 J) rfl;have r3:=QT U 3 (.string o) rfl;have jM:w9.heap.size<=gZ.heap.size:=aP.size;have aJ:=Y cJ;have iF:=Y U;clear aT aP aQ cO bT cJ U)
      | (refine⟨trivial,?_⟩;gi_at_call 222;refine(show CallsIn Fence.wide _ _ _ _ _ _ from FE.2 (Cr d.heap.size (d.heap.size+1) y p (u:Int) l D K J o (op++o) xn _ aJ.j.sl.fb aJ.j.sl.own ω ω (aJ.j.sl.own_ne ω) ω ω)).J ?_;rintro e jO ⟨rfl,gK⟩;have fQ:=Y gK;clear gK))
     all_goals
      gi_wp2
      obtain⟨y2,U⟩:=aJ.j.sl.take fQ.j;refine⟨(iE.j.E (aJ.j.sl.takeKeeps fQ.j)).from _,.inr ⟨rfl,xn,y2,(if D=2 then p++[op++o] else p),K,D,K,J,o,?_,eV,λhg=>⟨eE.j hg,?_,?_⟩⟩⟩
      ·rw[show((xn+1:Nat):Int)=(xn:Int)+1 by omega]
       exact U
      ·split
       ·simp
       omega
      ·rw[show((xn+1:Nat):Int)=(xn:Int)+1 by omega]
       exact bW.j hg
   have i:(J == Z)=false:=by simp[hm]
   have b:(J != Z)=true:=by simp[hm]
   have HF:=Y (aR.j (λh=>hm h.1));clear aR aX aW
   gi_wp2
   refine⟨trivial,?_⟩
   gi_wp2
   exact⟨KeepsFrom.refl _ _,.inl ⟨rfl,⟨H,I,Q,R,bY.j.sl⟩,HF.j⟩⟩
  case done =>
   rintro D E X hD ⟨dQ,o⟩ ⟨H,I,Q,R,op,i,gE,Z⟩ bE;have HF:=Y (Z.done dQ o);have b:=Y (i.sl.push bE ω ω);clear Z o i gE bE S bB eH bV;have zl:=b.j.fb.lt
   obtain⟨o,J,dM⟩:∃o J,y=Value.slice o p.length J:=by
    rcases MC b.j.own with ⟨i,K⟩|⟨U,P,i,_⟩
    ·exact⟨none,0,by rw[i,K]⟩
    exact⟨_,P,i⟩
   subst dM;have z0:X.cell? ⟨d.heap.size+1,0,none⟩=some (Value.slice o p.length J):=b.j.fb.y 0;have z1:X.cell? ⟨d.heap.size+1,1,none⟩=some (.int .i64 (u:Int)):=b.j.fb.y 1;have z2:X.cell? ⟨d.heap.size+1,2,none⟩=some (.int .i64 l):=b.j.fb.y 2;have i:=aD.j.I b.j.be;obtain⟨y0,y1,y2⟩:=i.k3;obtain⟨x0,x1,x2⟩:=i.z3;have xl:=i.lt;have cX:¬(w.heap.size+1+1=d.heap.size+1):=ω
   have aU:¬(d.heap.size+1=w.heap.size+1+1):=ω
   clear i
   gi_wp2
   have P:=b.j.fin (w:=w) aD.j ω aI.j;refine qu d.heap.size (ScF1 w d (w.heap.size+1+1) (Value.slice o p.length J) p (u:Int) l) (λX r i K h3=>ScF1.put aF X r i K h3) (λX hX=>?_) (D::Rs) _ b.j.nd P.2 P.1;obtain⟨dF,cY,U⟩:=hX;obtain⟨e0,V,Z⟩:=dF.k3;refine⟨.agg #[Value.slice o p.length J,.int .i64 (u:Int),.int .i64 l],by simp[results,results166,go_sem,e0,V,Z],?_⟩;rw[<-HF.j];exact⟨_,rfl,tf cY aF,U⟩
  case stop =>
   rintro D cc E X hD dQ hx bE;rcases hx with ⟨rfl,⟨H,I,Q,R,hl⟩,cV⟩|⟨rfl,x,y',ents',l',H,I,Q,R,hl,eV,cV⟩
   ·have HF:=Y (cV dQ)
    have b:=Y (hl.push bE ω ω);clear cV hl bE S bB eH bV;have zl:=b.j.fb.lt
    obtain⟨o,J,dM⟩:∃o J,y=Value.slice o p.length J:=by
     rcases MC b.j.own with ⟨i,K⟩|⟨U,P,i,_⟩
     ·exact⟨none,0,by rw[i,K]⟩
     exact⟨_,P,i⟩
    subst dM;have z0:X.cell? ⟨d.heap.size+1,0,none⟩=some (Value.slice o p.length J):=b.j.fb.y 0;have z1:X.cell? ⟨d.heap.size+1,1,none⟩=some (.int .i64 (u:Int)):=b.j.fb.y 1;have z2:X.cell? ⟨d.heap.size+1,2,none⟩=some (.int .i64 l):=b.j.fb.y 2;have i:=aD.j.I b.j.be;obtain⟨y0,y1,y2⟩:=i.k3;obtain⟨x0,x1,x2⟩:=i.z3;have xl:=i.lt;have cX:¬(w.heap.size+1+1=d.heap.size+1):=ω
    have aU:¬(d.heap.size+1=w.heap.size+1+1):=ω
    clear i
    gi_wp2
    have P:=b.j.fin (w:=w) aD.j ω aI.j;refine qu d.heap.size (ScF1 w d (w.heap.size+1+1) (Value.slice o p.length J) p (u:Int) l) (λX r i K h3=>ScF1.put aF X r i K h3) (λX hX=>?_) (D::Rs) _ b.j.nd P.2 P.1;obtain⟨dF,cY,U⟩:=hX;obtain⟨e0,V,Z⟩:=dF.k3;refine⟨.agg #[Value.slice o p.length J,.int .i64 (u:Int),.int .i64 l],by simp[results,results166,go_sem,e0,V,Z],?_⟩;rw[<-HF.j];exact⟨_,rfl,tf cY aF,U⟩
   obtain⟨K,J,i⟩:=cV dQ
   have b:=Y (hl.push bE ω ω);have o:=Y i;clear cV hl bE i S bB eH bV
   gi_wp2
   exact⟨N-(x+1),ω,D::Rs,y',ents',x+1,l',H,I,Q,R,_,_,_,_,_,_,_,_,_,rfl,rfl,ω,ω,b,o⟩
 have HF:=Y (bV.j.done (Good.nil u) (.inl τ))
 have b:=S;have eR:¬((u:Int)<(N:Int)):=ω
 have zl:=b.j.fb.lt
 obtain⟨o,J,dM⟩:∃o J,y=Value.slice o p.length J:=by
  rcases MC b.j.own with ⟨i,K⟩|⟨U,P,i,_⟩
  ·exact⟨none,0,by rw[i,K]⟩
  exact⟨_,P,i⟩
 subst dM;have z0:W.cell? ⟨d.heap.size+1,0,none⟩=some (Value.slice o p.length J):=b.j.fb.y 0;have z1:W.cell? ⟨d.heap.size+1,1,none⟩=some (.int .i64 (u:Int)):=b.j.fb.y 1;have z2:W.cell? ⟨d.heap.size+1,2,none⟩=some (.int .i64 l):=b.j.fb.y 2;have i:=aD.j.I b.j.be;obtain⟨y0,y1,y2⟩:=i.k3;obtain⟨x0,x1,x2⟩:=i.z3;have xl:=i.lt;have cX:¬(w.heap.size+1+1=d.heap.size+1):=ω
 have aU:¬(d.heap.size+1=w.heap.size+1+1):=ω
 clear i
 gi_wp2
 have P:=b.j.fin (w:=w) aD.j ω aI.j;refine qu d.heap.size (ScF1 w d (w.heap.size+1+1) (Value.slice o p.length J) p (u:Int) l) (λX r i K h3=>ScF1.put aF X r i K h3) (λX hX=>?_) Rs _ b.j.nd P.2 P.1;obtain⟨dF,cY,U⟩:=hX;obtain⟨e0,V,Z⟩:=dF.k3;refine⟨.agg #[Value.slice o p.length J,.int .i64 (u:Int),.int .i64 l],by simp[results,results166,go_sem,e0,V,Z],?_⟩;rw[<-HF.j];exact⟨_,rfl,tf cY aF,U⟩
