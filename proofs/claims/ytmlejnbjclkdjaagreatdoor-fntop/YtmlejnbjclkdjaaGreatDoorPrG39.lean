import Derived.Test.YtmlejnbjclkdjaaGreatDoorPrFnA
import Derived.Test.YtmlejnbjclkdjaaGreatDoorPrApS
import Derived.Test.YtmlejnbjclkdjaaGreatDoorPrMvS
import Derived.Test.YtmlejnbjclkdjaaGreatDoorPrG42
import Derived.Shelf.Spec.SlicesInsert
import Derived.Lib.AppendZerosOnto
import Derived.Lib.Overlaps
import Derived.Laws.Externs
import Derived.Laws.CopyRow
import Derived.Laws.CopyOwn
import Derived.Recover
import Derived.Defers
import Derived.Shelf.Strings.BuilderK
import Derived.Test.YtmlejnbjclkdjaaGreatDoorPrRpL
import Derived.Test.YtmlejnbjclkdjaaGreatDoorPrAs
set_option maxHeartbeats 16000000
set_option maxRecDepth 8000
set_option linter.all false
namespace Go.Proofs.YtmlejnbjclkdjaaGreatDoor
open _root_.ByteArray(empty)
section
open Tryz
open Go.RowKit
variable {e:Y}{H S n:Int}{ws:List (Int×Y)}{es ss:List Y}{a:M6}{w:Nb}
section
abbrev XS(ss:List Y)(ws:List (Int×Y))(frm size n:Int):Prop:=LE ss ws=true/\(1<=n/\n<=8)/\0<=frm/\0<=size/\frm<=(ss.length:Int)/\size<=(ss.length:Int)-frm
def TQ(ss:List Y)(ws:List (Int×Y))(c b first d n:Int):Scd :=if XS ss ws c b n then ML (λk=>(xhE ws ss).getD k empty) c.toNat first n b.toNat 0 0 d empty ([],0,d) else ([],0,0)
def au(w b:Nb)(e:Ending)(x:Scd):Prop:=∃y,e=M3 (.agg #[y,.int .i64 x.2.1,.int .i64 x.2.2])/\b.ownsRow w.heap.size 9 1 y x.1.length (x.1.map Value.string)/\Below w.heap.size w b
structure ScB(w0 w:Nb)(RB G XB OT WS:Nat)(S:List Nc)(cx:Nat)(xp:Nc)(y:Nc)(ents:List Y)(u l wk wl wm:Int)(wp:Y):Prop where
 rb:Row w RB [.slice none 0 0,.int .i64 0,.int .i64 0]
 sec:Row w G S
 xb:Row w XB [.slice (Mw G 0) S.length cx,xp]
 ot:Row w OT [y,.int .i64 u,.int .i64 l]
 ws:Row w WS [.int .i64 wk,.int .i64 wl,.int .i64 wm,Mz wp]
 own:w.ownsRow w0.heap.size 9 1 y ents.length (ents.map Value.string)
 o1:w0.heap.size<=RB
 o2:RB<G
 o3:G<XB
 o4:XB<OT
 o5:OT<WS
 yo:∀k,y.ownBlock=some k->WS<k
 be:Below w0.heap.size w0 w
section
variable {w0 w w':Nb} {RB G XB OT WS:Nat} {S:List Nc} {cx:Nat} {xp:Nc} {y:Nc} {ents:List Y} {u l wk wl wm:Int} {wp:Y}
theorem ScB.I(h:ScB w0 w RB G XB OT WS S cx xp y ents u l wk wl wm wp)(b:Below w.heap.size w w'):ScB w0 w' RB G XB OT WS S cx xp y ents u l wk wl wm wp :=⟨h.rb.I b,h.sec.I b,h.xb.I b,h.ot.I b,h.ws.I b,NC h.own b,h.o1,h.o2,h.o3,h.o4,h.o5,h.yo,h.be.j (b.z h.be.size)⟩
theorem ScB.own_ne(h:ScB w0 w RB G XB OT WS S cx xp y ents u l wk wl wm wp){k:Nat}(b:k<=WS):y.ownBlock≠some k:=λe=>by have:=h.yo k e;omega
theorem ScB.setWas(h:ScB w0 w RB G XB OT WS S cx xp y ents u l wk wl wm wp)(d f j:Int)(k:Y):ScB w0 ((((w.setCell ⟨WS,0,none⟩ (.int .i64 d)).setCell ⟨WS,1,none⟩ (.int .i64 f)).setCell ⟨WS,2,none⟩ (.int .i64 j)).setCell ⟨WS,3,none⟩ (Mz k)) RB G XB OT WS S cx xp y ents u l d f j k:=by
 have p:=h.o1;have q:=h.o2;have r:=h.o3;have s:=h.o4;have t:=h.o5
 have b:∀ {g:Nat} {m:List Nc},g≠WS->Row w g m->Row ((((w.setCell ⟨WS,0,none⟩ (.int .i64 d)).setCell ⟨WS,1,none⟩ (.int .i64 f)).setCell ⟨WS,2,none⟩ (.int .i64 j)).setCell ⟨WS,3,none⟩ (Mz k)) g m:=λc i =>
  (((i.other _ (IV c) _).other _ (IV c) _).other _ (IV c) _).other _ (IV c) _
 have c:=h.own_ne (AA WS)
 have bs:∀ {x:Nb},Below w0.heap.size w0 x->∀i v,Below w0.heap.size w0 (x.setCell ⟨WS,i,none⟩ v):=λo i v=>o.setCell (by show w0.heap.size<=WS;omega) _
 exact⟨b ω h.rb,b ω h.sec,b ω h.xb,b ω h.ot,(((h.ws.set 0 σ _).set 1 σ _).set 2 σ _).set 3 σ _,
  BW (BW (BW (BW h.own c _) c _) c _) c _,p,q,r,s,t,h.yo,bs (bs (bs (bs h.be _ _) _ _) _ _) _ _⟩
theorem ScB.setEnd(h:ScB w0 w RB G XB OT WS S cx xp y ents u l wk wl wm wp)(d c:Int):ScB w0 ((w.setCell ⟨OT,1,none⟩ (.int .i64 d)).setCell ⟨OT,2,none⟩ (.int .i64 c)) RB G XB OT WS S cx xp y ents d c wk wl wm wp:=by
 have m:=h.o1;have o:=h.o2;have p:=h.o3;have q:=h.o4;have r:=h.o5
 have b:∀ {g:Nat} {f:List Nc},g≠OT->Row w g f->Row ((w.setCell ⟨OT,1,none⟩ (.int .i64 d)).setCell ⟨OT,2,none⟩ (.int .i64 c)) g f:=λi j=>(j.other _ (IV i) _).other _ (IV i) _
 have j:=h.own_ne (k:=OT) ω
 have bs:∀ {x:Nb},Below w0.heap.size w0 x->∀i v,Below w0.heap.size w0 (x.setCell ⟨OT,i,none⟩ v):=λk i v=>k.setCell (by show w0.heap.size<=OT;omega) _
 exact⟨b ω h.rb,b ω h.sec,b ω h.xb,(h.ot.set 1 σ _).set 2 σ _,b ω h.ws,
  BW (BW h.own j _) j _,m,o,p,q,r,h.yo,bs (bs h.be _ _) _ _⟩
theorem ScB.push(h:ScB w0 w RB G XB OT WS S cx xp y ents u l wk wl wm wp){b:Nc}{ents':List Y}{H:Nat}(o:w'.ownsRow w0.heap.size 9 1 b ents'.length (ents'.map Value.string))(i:w.grownBy w' y.ownBlock)(p:y.ownBlock=b.ownBlock\/b.ownBlock=some H)(x:w.heap.size<=H):ScB w0 (w'.setCell ⟨OT,0,none⟩ b) RB G XB OT WS S cx xp b ents' u l wk wl wm wp:=by
 have q:=h.o1;have r:=h.o2;have s:=h.o3;have t:=h.o4;have v:=h.o5;have z:=h.ws.lt
 have m:∀k,b.ownBlock=some k->WS<k:=λk c=>by
  rcases p with e|e
  ·exact h.yo k (e.j c)
  rw[e]at c;cases c;omega
 have d:∀ {g:Nat} {c:List Nc},g<=WS->Row w g c->Row w' g c:=λf j=>j.J i (λe=>h.own_ne f e.symm)
 have f:∀ {g:Nat} {c:List Nc},g≠OT->Row w' g c->Row (w'.setCell ⟨OT,0,none⟩ b) g c:=λi j=>j.other _ (IV i) _
 have k:b.ownBlock≠some OT:=λe=>by have:=m OT e;omega
 have j:Below w0.heap.size w0 w':=h.be.j (NR i h.be.size (λg e=>(h.own.lt g e).1))
 exact⟨f ω (d ω h.rb),f ω (d ω h.sec),f ω (d ω h.xb),(d ω h.ot).set 0 σ _,f ω (d (AA _) h.ws),
  BW o k _,q,r,s,t,v,m,j.setCell (by show w0.heap.size<=OT;omega) _⟩
end
theorem Ia(f g r:Int)(s:Y)(k l m:Int)(p:Y)(w:Nb):Calls prog 214 #[OE f g r s,OE k l m p] w λe b=>e=M3 (M0 (PD f g k l))/\Below w.heap.size w b:=by
 have i:∀b c,Below w.heap.size w ((w.alloc b).alloc c):=λb c=>(LO _ _).alloc σ _
 obtain⟨B,c⟩:∃B,PD f g k l=B:=⟨_,rfl⟩;have b:=Z c;rw[c];clear c
 by_cases t:l<g
 focus
  have e:B=false:=by rw[<-b.l];unfold PD;simp;omega
  subst e;clear b
 rotate_left
 focus
  by_cases j:k=3
  focus
   subst j
   by_cases c:f=1
   focus
    have e:B=false:=by rw[<-b.l];unfold PD;simp[c]
    subst e;clear b
   rotate_left
   focus
    have e:B=true:=by rw[<-b.l];unfold PD;simp[c];omega
    have q:(f != 1)=true:=by simp[c]
    subst e;clear b
   rotate_left
  rotate_left 2
  focus
   by_cases d:k=1\/k=2
   ·by_cases c:f=1
    focus
     by_cases h:g=l
     focus
      have e:B=true:=by rw[<-b.l];unfold PD;rcases d with rfl|rfl<;>simp[c,h]
     rotate_left
     focus
      have e:B=false:=by rw[<-b.l];unfold PD;rcases d with rfl|rfl<;>simp[c,h]
      have o:(g == l)=false:=by simp[h]
     rotate_left
    rotate_left 2
    focus
     have e:B=true:=by rw[<-b.l];unfold PD;rcases d with rfl|rfl<;>simp[c]<;>omega
     have q:(f != 1)=true:=by simp[c]
    rotate_left
    all_goals
     subst e;clear b;rcases d with rfl|rfl<;>(go_enter func214,ntmps214;go_wp2;go_ret;exact⟨rfl,i _ _⟩)
   focus
    have h:¬k=1:=λe=>d (.inl e)
    have o:¬k=2:=λe=>d (.inr e)
    have e:B=false:=by rw[<-b.l];unfold PD;simp[j,h,o]
    subst e;clear b d
   rotate_left
  rotate_left
 rotate_left 3
 all_goals
  go_enter func214,ntmps214;go_wp2;go_ret;exact⟨rfl,i _ _⟩
end
section
set_option maxHeartbeats 4000000
theorem Cu:(prog.info? 9).map (λi=>(i.zero,i.size,i.bytes))=some (some (Mz empty),1,16):=κ
theorem Hr{P:Program}{e:TypeId}{z:Nc}{b c:Nat}(h:(P.info? e).map (λi=>(i.zero,i.size,i.bytes))=some (some z,b,c)):∃i,P.info? e=some i/\i.zero=some z/\i.size=b/\i.bytes=c:=by
 obtain⟨i,f,d⟩:=EZ.1 h;simp only[BV]at d;exact⟨i,f,d⟩
theorem Ep(w:Nb)(b:Array Nc)(t:TypeId):∀j u,b.toList[j]?=some u->(w.alloc (.cells b t)).cell? ((⟨w.heap.size,0,none⟩:Addr).add j)=some u:=World.news_of_block (AU w (.cells b t))
theorem Id(k:Y):∀u∈[Mz k],u.oneCell'=true:=by
 intro u b;simp only[DY,EJ,GV]at b;subst b;rfl
def zb(N g:Nat)(y:Nc)(w:Nb)(c:List Y)(i h:Int)(d:Nb):Prop :=∃f,Row d g [f,.int .i64 i,.int .i64 h]/\d.ownsRow N 9 1 f c.length (c.map Value.string)/\(f.ownBlock=y.ownBlock\/∃H,f.ownBlock=some H/\w.heap.size<=H)/\Below N w d/\(∀b,b<w.heap.size->b≠g->some b≠y.ownBlock->d.heap[b]?=w.heap[b]?)
theorem zP(N d:Nat)(y:Nc)(c:List Y)(u0 U k l m:Int)(p i:Y)(x:Nat)(w:Nb)
  (r:Row w d [y,.int .i64 u0,.int .i64 U])(C:w.ownsRow N 9 1 y c.length (c.map Value.string))(u:N<=d)(v:N<=w.heap.size)(q:y.ownBlock≠some d)(hx:x<=200)(W:c.length<=300):Calls prog 150 #[Mv d 0,OE k l m p,.int .i64 (x:Int),Mz i] w λe b=>e=M3 (.tuple #[])/\zb N d y w (if k=2 then c++[i] else c) ((x:Int)+1) l b:=by
 have aX:IntKind.i64.wrap ((x:Int)+1)=(x:Int)+1:=by simp[IntKind.wrap,IntKind.bits,IntKind.signed];omega
 obtain⟨i0,b,f,g,h⟩:=Hr Cu;have O:=Z (AH b (AH f (AH g h)));clear b f g h
 obtain⟨D,E,rfl⟩:∃D E,y=.slice D c.length E:=by
  rcases NU C with ⟨b,f⟩|⟨h,g,b,_⟩
  ·exact⟨none,0,by rw[b,f]⟩
  exact⟨_,g,b⟩
 obtain⟨c0,c1,c2⟩:=r.k3;obtain⟨f0,f1,f2⟩:=r.z3;have hl:=r.lt;have X:¬d=w.heap.size:=ω
 have I:=Z (((r.set 1 σ (.int .i64 ((x:Int)+1))).set 2 σ (.int .i64 l)).alloc (.cells #[.int .i64 k,.int .i64 l,.int .i64 m,Mz p] 51));have G:=Z ((BW (BW C q (a:=⟨d,1,none⟩) (.int .i64 ((x:Int)+1))) q (a:=⟨d,2,none⟩) (.int .i64 l)).alloc (.cells #[.int .i64 k,.int .i64 l,.int .i64 m,Mz p] 51));have s:=Z ((((AB N w).setCell (p:=⟨d,1,none⟩) u (.int .i64 ((x:Int)+1))).setCell (p:=⟨d,2,none⟩) u (.int .i64 l)).alloc (by simpa using v) (.cells #[.int .i64 k,.int .i64 l,.int .i64 m,Mz p] 51))
 have F:Hid (∀b,b<w.heap.size->b≠d->(((w.setCell ⟨d,1,none⟩ (.int .i64 ((x:Int)+1))).setCell ⟨d,2,none⟩ (.int .i64 l)).alloc (.cells #[.int .i64 k,.int .i64 l,.int .i64 m,Mz p] 51)).heap[b]?=w.heap[b]?):=λb o f=>by
  rw[JL _ _ (by simpa using o),BF _ _ _ _ f,BF _ _ _ _ f]
 by_cases B:k=2
 ·subst B
  rw[AE rfl];go_enter func150,ntmps150
  go_wp2_with (first|(at_builtin;refine QY _ rfl _ _ 23 rfl N underlying23 O.l rfl ω _ c.length _ rfl (G.l.alloc _) ⟨w.heap.size+1,0,none⟩ 1 1 [Mz i] rfl rfl (by intro j z T;have:=Ep (((w.setCell ⟨d,1,none⟩ (.int .i64 ((x:Int)+1))).setCell ⟨d,2,none⟩ (.int .i64 l)).alloc (.cells #[.int .i64 2,.int .i64 l,.int .i64 m,Mz p] 51)) #[Mz i] 9 j z T;simpa using this) (Id _) τ (w.heap.size+1+1) σ ?_;intro A g aY J t K V;have h:=(I.l.alloc (.cells #[Mz i] 9)).J t (λe=>q e.symm);have d0:=h.y 0;have e0:=h.A 0;have dl:=h.lt;have Q:=Z h;have M:=Z t;have P:=Z J;have L:=Z K;clear h t J K))
  go_end0
  have R:∀z,(Value.slice D c.length E).ownBlock=some z->N<=z/\z<w.heap.size:=λz t=>C.lt z t
  have K:¬A=d:=λe=>by
   rcases L.l with h|h
   ·exact q (h.j (by rw[e]))
   omega
  refine⟨rfl,.slice (Mw A 0) (c.length+1) g,Q.l.set 0 σ _,?_,?_,?_,λb o f J=>?_⟩
  ·rw[AF,DK]
   exact BW P.l (by simpa[Value.ownBlock] using K) _
  ·rcases L.l with h|h
   ·exact .inl h.symm
   exact .inr ⟨A,rfl,ω⟩
  ·exact(((s.l.alloc (AK v s.l.size) _).j (NR M.l (AK v ξ) (λz t=>(R z t).1))).setCell u _)
  rw[BF _ _ _ _ f,M.l.block b τ J,JL _ _ τ]
  exact F.l b o f
 rw[AG B]
 have g:(k == 2)=false:=by simp[B]
 go_enter func150,ntmps150;go_wp2;go_end0;exact⟨rfl,_,I.l,G.l,.inl rfl,s.l,λb o f _=>F.l b o f⟩
end
section
def NX:List Y->List Pr->Option (List Pr)
 | [],rs=>some rs
 | e::es,rs=>match SX e with
  | none=>none
  | some b=>if PO rs b=0 then NX es (NB rs b) else none
theorem dx:∀(es:List Y) (rs:List Pr),MU rs=true->∀r,NX es rs=some r->MU r=true
 | [],rs,h,r,hr=>by cases hr;exact h
 | e::es,rs,h,r,hr=>by
  rw[NX]at hr
  split at hr
  ·cases hr
  split at hr
  ·rename_i hc
   exact dx es _ (ZW hc) r hr
  cases hr
theorem tw{b:List Pr}(h:SX e=none):NX (e::es) b=none:=by rw[NX,h]
theorem ux{c:List Pr}{b:List Ch}(h:SX e=some b)(d:PO c b≠0):NX (e::es) c=none:=by rw[NX,h];simp only;rw[AG d]
theorem jx{c:List Pr}{b:List Ch}(h:SX e=some b)(d:PO c b=0):NX (e::es) c=NX es (NB c b):=by rw[NX,h];simp only;rw[AE d]
theorem UG:MU []=true:=δ
theorem VC{b:List Pr}(h:MU b=true):b.length<=100/\∀x∈b,x.1.size<=1048576/\x.2.size<=1048576:=by
 obtain⟨f,g,j⟩:=(ZS b).1 h;refine⟨f,λx i=>?_⟩;obtain⟨c,d⟩:=g x i;unfold QD at c;unfold PE at d;simp at c d;omega
theorem zu{b:List Ch}(h:PA b=true):b.length<=20/\∀x∈b,x.1.size<=1048576/\x.2.1.size<=1048576:=by
 obtain⟨i,f⟩:=WR h;refine⟨ω,λx g=>?_⟩;obtain⟨c,d⟩:=tD (f x g);unfold QD at c;unfold PE at d;simp at c d;omega
def WL(x:RtT):Prop:=(0<=x.1/\x.1<=1000000000)/\(0<=x.2.1/\x.2.1<=1)/\(1<=x.2.2.1/\x.2.2.1<=999999000)/\(0<=x.2.2.2/\x.2.2.2<=60000)
theorem tA{s:Y}{a:Int}{x:RtT}(h:MV s a n=some x):WL x:=by
 unfold MV at h
 split at h
 ·cases h
 rename_i k l m p g
 have i:=SA g
 split at h
 ·rename_i f
  cases h
  obtain⟨j,b,o⟩:=f
  have d:UL (RU p) (RK p):=by
   by_cases e:UL (RU p) (RK p)
   ·exact e
   exfalso
   unfold MZ at b;rw[AG e]at b;have c:=i.1;rw[<-b]at c;exact absurd c δ
  unfold UL at d;unfold WL;simp only;omega
 cases h
theorem oH{b:RtT}{o:Option RtT}(c:WL b)(d:∀x,o=some x->WL x):WL (QB b o):=by
 unfold QB
 split
 ·exact c
 rename_i r
 split
 ·exact d _ rfl
 exact c
theorem Iv(c d:Y)(n:Int):WL (OC c d n):=by
 unfold OC;exact oH (oH (by unfold WL;simp) (λx b=>tA b)) (λx b=>tA b)
theorem br(h:LE ss ws=true/\1<=n/\n<=8):WL (NJ ss ws n):=by
 unfold NJ;rw[AE h];exact Iv _ _ _
def PB(ss:List Y)(ws:List (Int×Y))(n:Int):Scd:=TQ ss ws (2+(NJ ss ws n).2.1*hv ss.length) (hv ss.length) (NJ ss ws n).2.2.1 (NJ ss ws n).2.2.2 n
theorem Cr(h:8<=S/\S<=200):2+2*hv S<=S:=by unfold hv;rw[AE h];omega
theorem na{q:Int}(h:0<=H/\H<=1)(b:0<=q):0<=H*q/\H*q<=q:=by
 have:H=0\/H=1:=ω
 rcases this with rfl|rfl<;>omega
theorem sB(h:LE ss ws=true/\1<=n/\n<=8):XS ss ws (2+(NJ ss ws n).2.1*hv ss.length) (hv ss.length) n:=by
 have b:=br h;obtain⟨⟨d,f,g⟩,c,l⟩:=LK h.1;have i:=QM (S:=(ss.length:Int)) ω;have j:=Cr (S:=(ss.length:Int)) ω;have k:=na b.2.1 (q:=hv ss.length) ω;exact⟨h.1,h.2,ω,ω,ω,ω⟩
theorem mh(h:LE ss ws=true/\1<=n/\n<=8):(0<=(PB ss ws n).2.1/\(PB ss ws n).2.1<=hv ss.length)/\(0<=(PB ss ws n).2.2/\(PB ss ws n).2.2<=60000)/\(PB ss ws n).1.length<=99/\∀e∈(PB ss ws n).1,e.size<=6336:=by
 have f:=br h;have b:=sB h;obtain⟨⟨j,l,m⟩,i,o⟩:=LK h.1;have c:=QM (S:=(ss.length:Int)) ω;unfold PB TQ;rw[AE b];obtain⟨q,g⟩:∃q:Nat,hv ss.length=(q:Int):=⟨(hv ss.length).toNat,ω⟩;rw[g]at c⊢;simp only[BM];have u1:=ur (λk=>(xhE ws ss).getD k empty) (2+(NJ ss ws n).2.1*(q:Int)).toNat (NJ ss ws n).2.2.1 n q 0 0 (NJ ss ws n).2.2.2 empty ([],0,(NJ ss ws n).2.2.2) σ;have u2:=vr (λk=>(xhE ws ss).getD k empty) (2+(NJ ss ws n).2.1*(q:Int)).toNat (NJ ss ws n).2.2.1 n q 0 0 (NJ ss ws n).2.2.2 empty ([],0,(NJ ss ws n).2.2.2);have u3:=yx (λk=>(xhE ws ss).getD k empty) (2+(NJ ss ws n).2.1*(q:Int)).toNat (NJ ss ws n).2.2.1 n q 0 0 (NJ ss ws n).2.2.2 empty ([],0,(NJ ss ws n).2.2.2) 6336 (by show 0+64*q<=6336;omega) (by intro e d;cases d);simp only[AR]at u3
 refine⟨ω,?_,ω,u3.1⟩;have:=f.2.2.2;rcases u2 with u2|u2
 ·rw[u2];exact this
 omega
def OP(ss:List Y)(ws:List (Int×Y))(n:Int):Dd :=if LE ss ws=true/\1<=n/\n<=8 then
  match NX (PB ss ws n).1 [] with
  | none=>LX 2
  | some rs =>
   if 60000<(PB ss ws n).2.2+1 then LX 3
   else if hv ss.length-1<MJ (MD rs) n then LX 4
   else if hv ss.length<=(PB ss ws n).2.1 then PM n ss.length ((PB ss ws n).2.2+1) (NJ ss ws n).1 (NJ ss ws n).2.1 (NJ ss ws n).2.2.1 rs
   else ⟨0,n,ss.length,(PB ss ws n).2.2+1,(NJ ss ws n).1,(NJ ss ws n).2.1,(NJ ss ws n).2.2.1,(NJ ss ws n).2.2.2,(PB ss ws n).2.1+1,0,rs,
    [(false,2+(NJ ss ws n).2.1*hv ss.length+(PB ss ws n).2.1,MM 3 ((PB ss ws n).2.2+1) ((NJ ss ws n).2.2.1+(PB ss ws n).2.1) empty n),(true,0,empty)]⟩
 else LX 1
section
variable {ss:List Y} {ws:List (Int×Y)} {n T H F R U L:Int} {es:List Y} {rs:List Pr}
theorem gh(h:¬(LE ss ws=true/\1<=n/\n<=8)):OP ss ws n=LX 1:=by unfold OP;rw[AG h]
theorem vu(h:LE ss ws=true/\1<=n/\n<=8)(b:PB ss ws n=(es,U,L))(c:NX es []=none):OP ss ws n=LX 2:=by
 unfold OP;rw[AE h,b];simp only;rw[c]
theorem xu(h:LE ss ws=true/\1<=n/\n<=8)(b:PB ss ws n=(es,U,L))(c:NX es []=some rs)(d:60000<L+1):OP ss ws n=LX 3:=by
 unfold OP;rw[AE h,b];simp only;rw[c];simp only;rw[AE d]
theorem tp(h:LE ss ws=true/\1<=n/\n<=8)(b:PB ss ws n=(es,U,L))(c:NX es []=some rs)(d:¬60000<L+1)(f:hv ss.length-1<MJ (MD rs) n):OP ss ws n=LX 4:=by
 unfold OP;rw[AE h,b];simp only;rw[c];simp only;rw[AG d,AE f]
theorem jw(h:LE ss ws=true/\1<=n/\n<=8)(b:NJ ss ws n=(T,H,F,R))(c:PB ss ws n=(es,U,L))(d:NX es []=some rs)(f:¬60000<L+1)(g:¬hv ss.length-1<MJ (MD rs) n)(i:hv ss.length<=U):OP ss ws n=PM n ss.length (L+1) T H F rs:=by
 unfold OP;rw[AE h,c,b];simp only;rw[d];simp only;rw[AG f,AG g,AE i]
theorem kf(h:LE ss ws=true/\1<=n/\n<=8)(b:NJ ss ws n=(T,H,F,R))(c:PB ss ws n=(es,U,L))(d:NX es []=some rs)(f:¬60000<L+1)(g:¬hv ss.length-1<MJ (MD rs) n)(i:¬hv ss.length<=U):OP ss ws n=⟨0,n,ss.length,L+1,T,H,F,R,U+1,0,rs,[(false,2+H*hv ss.length+U,MM 3 (L+1) (F+U) empty n),(true,0,empty)]⟩:=by
 unfold OP;rw[AE h,c,b];simp only;rw[d];simp only;rw[AG f,AG g,AG i]
end
theorem Ix{W L T F:Int}{b:List Pr}(f:b.length<=1048576)(c:XI W S L T H F b):(PM W S L T H F b).rs.length<=1048576/\(PM W S L T H F b).ops.length<=1000:=by
 unfold PM
 cases h2:WG S T F with
 | false=>simp[LX]
 | true =>
  obtain⟨⟨i,h⟩,d,j,k,l,m,o⟩:=c;have p:=QM d;have g:=da L (F+hv S) W.toNat (56-W.toNat) ω ω ω (MD b);rw[show((W.toNat:Nat):Int)=W by omega]at g;simp only[IH,XD,AF,QW];refine⟨f,?_⟩;simp;omega
theorem yi(ss:List Y)(ws:List (Int×Y))(n:Int):(OP ss ws n).rs.length<=1048576/\(OP ss ws n).ops.length<=1000:=by
 by_cases h:LE ss ws=true/\1<=n/\n<=8
 ·obtain⟨T,H,F,R,f⟩:∃T H F R,NJ ss ws n=(T,H,F,R):=⟨_,_,_,_,rfl⟩
  obtain⟨es,U,L,b⟩:∃es U L,PB ss ws n=(es,U,L):=⟨_,_,_,rfl⟩;have c:=br h;have j:=mh h;rw[f]at c;rw[b]at j;unfold WL at c;simp only at c j;obtain⟨⟨l,m,o⟩,_,_⟩:=LK h.1
  cases hf:NX es [] with
  | none=>rw[vu h b hf];simp[LX]
  | some k =>
   have p:=(VC (dx es [] UG k hf)).1
   by_cases d:60000<L+1
   ·rw[xu h b hf d];simp[LX]
   by_cases g:hv ss.length-1<MJ (MD k) n
   ·rw[tp h b hf d g];simp[LX]
   by_cases i:hv ss.length<=U
   ·rw[jw h f b hf d g i]
    exact Ix ω ⟨h.2,ω,ω,c.1,c.2.1,c.2.2.1,ω⟩
   rw[kf h f b hf d g i]
   simp;omega
 rw[gh h];simp[LX]
end
def YL(w d:Nb)(e:Ending)(b:List Pr)(f:Int):Prop:=∃a c,e=M3 (.tuple #[MH a b.length c,.int .i64 f])/\b.length<=c/\OwnS d a (MC b)/\(∀g,blk a b.length=some g->w.heap.size<=g)/\Below w.heap.size w d
theorem az{d:Nb}{e:Ending}{c:Nat}{b:Int}(i:e=M3 (.tuple #[MH a 0 c,.int .i64 b]))(f:Below w.heap.size w d):YL w d e [] b:=⟨a,c,i,AM _,.inl rfl,λg h=>(by cases h),f⟩
theorem OwnS.setA{b:List Nc}(h:OwnS w a b)(p:Addr)(d:∀g,a=Mw g 0->b≠[]->p.block≠g)(v:Nc):OwnS (w.setCell p v) a b:=by
 by_cases c:b=[]
 ·exact .inl c
 obtain⟨g,rfl,f⟩:=h.resolve_left c
 exact .inr ⟨g,rfl,f.other p (d g rfl c) v⟩
theorem OwnS.prsA{b:List Pr}(h:OwnS w a (MC b)):Prs w a b:=by
 rcases h with h|⟨g,rfl,h⟩
 ·exact .inl (by have:=CX List.length h;rw[XG,AR]at this;exact AC ω)
 exact h.prs
theorem se{b:List Pr}(h:MC b≠[]):b.length≠0:=λe=>h (by rw[AC e];rfl)
theorem wP(a:M6)(d:List Pr)(c:Nat)(O:M6)(b:List Ch)(V:Nat)(w:Nb)(h:Prs w a d)(hl:d.length<=1048576)(hs:∀x∈d,x.1.size<=1048576/\x.2.size<=1048576)(r:Chs w O b)(cT:b.length<=1048576)(cZ:∀x∈b,x.1.size<=1048576/\x.2.1.size<=1048576):Calls prog 188 #[MH a d.length c,.slice O b.length V] w λe f=>YL w f e (PQ d b) (PO d b):=by
 have o:∀g i,Below w.heap.size w ((w.alloc g).alloc i):=λg i=>(LO _ _).alloc σ _
 have D:=Z (λf j=>nk a d c f j hl hs);have L:=Z (λf j=>nh O b V f j cT cZ);unfold MH;unfold PQ PO
 cases hok:MU d with
 | false =>
  rw[hok]at D;simp only[Bool.false_and,FH,IS];rw[AG ω];go_enter func188,ntmps188;go_wp2_with (go_at_call 43;refine(D.l _ (h.I (o _ _))).z ?_;rintro e F ⟨rfl,g⟩;have i:F.cell? ⟨w.heap.size+1,0,none⟩=some (.slice none 0 0):=OK g γ σ;have q:F.frozen? ⟨w.heap.size+1,0,none⟩=false:=TF g γ σ;have x:w.heap.size+1<F.heap.size:=AD σ g.size);refine AJ (v:=.tuple #[MH none 0 0,.int .i64 1]) (by simp[results,results188,go_sem,MH,i]) rfl (az rfl ?_);exact((o _ _).j (g.z τ)).setCell (p:=⟨w.heap.size+1,0,none⟩) (by show w.heap.size<=w.heap.size+1;omega) _
 | true =>
  rw[hok]at D;simp only[IJ]
  cases hokb:PA b with
  | false =>
   rw[hokb]at L;simp only[FH,IS];rw[AG ω];go_enter func188,ntmps188
   go_wp2_with (first|(go_at_call 43;refine(D.l _ (h.I (o _ _))).z ?_;rintro e F ⟨rfl,g⟩;have u:=Z g;clear g)|(go_at_call 187;refine(L.l _ (r.I ((o _ _).j (u.l.z τ)))).z ?_;rintro e t ⟨rfl,l⟩;have g:=u.l;have k:=g.j (l.z g.size);have i:t.cell? ⟨w.heap.size+1,0,none⟩=some (.slice none 0 0):=OK k γ σ;have q:t.frozen? ⟨w.heap.size+1,0,none⟩=false:=TF k γ σ;have x:w.heap.size+1<t.heap.size:=AD σ k.size))
   refine AJ (v:=.tuple #[MH none 0 0,.int .i64 1]) (by simp[results,results188,go_sem,MH,i]) rfl (az rfl ?_);exact((o _ _).j (k.z τ)).setCell (p:=⟨w.heap.size+1,0,none⟩) (by show w.heap.size<=w.heap.size+1;omega) _
  | true =>
   rw[hokb]at L;simp only[IH];have dQ:d.length<=100:=(ZH hok).1;have cU:b.length<=20:=(WR hokb).1.2;have bQ:=Z (λf j=>gm a d c f j hl);unfold fx MH at bQ;have cE:=Z (qj d b);go_enter func188,ntmps188
   go_wp2_with (first|(go_at_call 43;refine(D.l _ (h.I (o _ _))).z ?_;rintro e F ⟨rfl,g⟩;have u:=Z g;clear g)|(go_at_call 187;refine(L.l _ (r.I ((o _ _).j (u.l.z τ)))).z ?_;rintro e t ⟨rfl,l⟩;have A:=Z (u.l.j (l.z u.l.size));clear l;have q0:t.cell? ⟨w.heap.size,0,none⟩=some (.slice a d.length c):=OK A.l γ τ)|(go_at_call 73;refine(bQ.l _ (h.I ((o _ _).j (A.l.z τ)))).z ?_;rintro e j ⟨a5,c5,rfl,cP,m,k,i⟩;have X:=Z (A.l.j (i.z A.l.size));have bR:=Z m;have bE:=cP;have cB:=Z k;have aY:=Z i.size;clear m k i))
   have dR:w.heap.size+1<t.heap.size:=by have:=A.l.size;simp at this;omega
   have dU:t.heap.size<=j.heap.size:=aY.l;have v:Hid (Below w.heap.size w j):=(o _ _).j (X.l.z τ)
   have cF:Hid (∀f,Below j.heap.size j f->Row f (w.heap.size+1) [.slice none 0 0]):=λf E=>((em (w:=w.alloc (.cells #[.slice a d.length c] 31)) (A:=#[.slice none 0 0]) (t:=31) (g:=w.heap.size+1) σ).I X.l).I E
   go_loopw [7] (λi wr=>∃k:Nat,k<=b.length/\i=.int .i64 (k:Int)/\∃p s,Row wr j.heap.size [.slice p (NB d (b.take k)).length s]/\(NB d (b.take k)).length<=s/\OwnS wr p (MC (NB d (b.take k)))/\(∀g,blk p (NB d (b.take k)).length=some g->w.heap.size+1<g/\g≠j.heap.size)/\Below j.heap.size j wr) (λi _=>b.length-(intOf i).toNat)
   case atStart=>exact⟨0,AM _,rfl,a5,c5,MT j _ _,bE,bR.l.I (LO _ _),λg m=>by have h1:=cB.l g m;have r:=bR.l.lt d.length (λh e=>h (by have:=CX List.length e;rw[XG,AR]at this;omega)) g m;omega,LO _ _⟩
   case round =>
    obtain⟨k,hk,rfl,p,s,i,T,x,q,l⟩:=hrel;have hN:=cE.l k;have bZ:=i.y 0;have dM:=i.A 0;have dP:=i.lt;have dH:=l.size;have R:=Z i;have J:=Z x;have I:=Z q;have B:=Z l;clear i x q l
    by_cases U:k<b.length
    ·obtain⟨i,l,y,z,x,rfl,cM,cN,cO,G⟩:=(r.I (v.l.j (B.l.z v.l.size))).at U
     have P:i<w.heap.size:=by
      rcases r with h|⟨q,C,h1,r,_⟩
      ·subst h;simp at U
      cases h1;exact r
     have cV:(k:Int)<(b.length:Int):=ω
     have dN:(0:Int)<=(k:Int):=ω
     have M:NB d (b.take (k+1))=PX (y,z,x) (NB d (b.take k)):=by rw[lj b k (empty,empty,false) U,cq,<-G.l]
     have C:=Z M;have Q:=Z (λW (hW:Prs W p (NB d (b.take k)))=>Gm p (NB d (b.take k)) s y z x W hW ω);obtain⟨q,K⟩:∃q,q=NB d (b.take k):=⟨_,rfl⟩;rw[<-K]at C Q R J I bZ hN T;clear M K G;unfold MH fx at Q
     have N:Hid (∀f,Below w.heap.size wr f->f.cell? ⟨i,l+k*3,none⟩=some (Mz y)/\f.cell? ⟨i,l+k*3+1,none⟩=some (Mz z)/\f.cell? ⟨i,l+k*3+2,none⟩=some (M0 x)):=λf E=>⟨(E.cell (p:=⟨i,l+k*3,none⟩) P).j cM,(E.cell (p:=⟨i,l+k*3+1,none⟩) P).j cN,(E.cell (p:=⟨i,l+k*3+2,none⟩) P).j cO⟩
     have cA:w.heap.size<=wr.heap.size:=ω
     go_wp2_with fail;refine AN (S:=λf=>f.cell? ⟨i,l+k*3,none⟩=some (Mz y)/\f.cell? ⟨i,l+k*3+1,none⟩=some (Mz z)/\f.cell? ⟨i,l+k*3+2,none⟩=some (M0 x)) κ (N.l _ (AB _ _).drew) (λE=>?_);refine TY 1 (.slice (Mw i l) b.length V) rfl E (TY 2 (.int .i64 (k:Int)) rfl E (TY 3 (Mv i (l+k*3)) rfl E (TY 4 (.agg #[Mz y,Mz z,M0 x]) rfl E ?_)));simp only[PS];refine RD 0 rfl (λK f=>?_);go_simp;refine f.l _ _ E (λ_=>?_);clear f K
     try simp only[PS]
     refine RD 5 rfl (λK f=>?_);refine LW ρ 217 #[.agg #[.slice p q.length s],.agg #[Mz y,Mz z,M0 x]] γ (Q.l _ ((J.l.I (AB _ _).drew).prsA)) ?_;rintro e w7 ⟨a7,c7,rfl,cQ,cW,bV,cL⟩;refine⟨_,rfl,?_⟩;have G:Below wr.heap.size wr w7:=(AB _ _).drew.j cL;have M:=R.l.I G;have q7:=M.y 0;have f7:=M.A 0;have l7:=M.lt;refine f.l _ _ (N.l _ (G.z cA)) (λcI=>?_);clear f K
     try simp only[PS]
     refine RD 6 rfl (λK f=>?_);go_simp;refine f.l _ _ (N.l _ ((G.z cA).setCell (p:=⟨j.heap.size,0,none⟩) (by show w.heap.size<=j.heap.size;omega) _)) (λcJ=>?_);clear f K
     try simp only[PS]
     refine DN ?_;go_wp2;refine⟨⟨k+1,ω,ν,a7,c7,?_,?_,?_,?_,?_⟩,by simp[intOf];omega⟩
     ·rw[C.l];exact M.set 0 σ _
     ·rw[C.l];exact cQ
     ·rw[C.l];exact cW.setA _ (λg m K=>by have:wr.heap.size<=g:=bV g (by subst m;exact NT _ _ _ (se K));show j.heap.size≠g;omega) _
     ·rw[C.l];exactλg m=>by have:wr.heap.size<=g:=bV g m;omega
     exact(B.l.j (G.z dH)).setCell (p:=⟨j.heap.size,0,none⟩) (AA _) _
    have z:k=b.length:=ω
    subst z;have f:=cF.l _ B.l;have i:=f.y 0;have q:=f.A 0;have x:=f.lt;have E:w.heap.size+1≠j.heap.size:=ω
    have C:¬j.heap.size=w.heap.size+1:=ω
    rw[CW]at bZ T R J I;clear f hN
    by_cases f:(NB d b).length<=100
    ·have y:=Z f
     have l:((NB d b).length:Int)<=100:=ω
     clear f;go_wp2_with fail;refine AJ (v:=.tuple #[MH p (NB d b).length s,.int .i64 0]) (by simp[results,results188,go_sem,MH,i]) rfl ⟨p,s,rfl,T,?_,λg m=>by have:=(I.l g m).1;omega,?_⟩
     ·exact J.l.setA _ (λg m K=>by have:=(I.l g (by subst m;exact NT _ _ _ (se K))).1;show w.heap.size+1≠g;omega) _
     exact(v.l.j (B.l.z v.l.size)).setCell (p:=⟨w.heap.size+1,0,none⟩) (by show w.heap.size<=w.heap.size+1;omega) _
    have y:=Z f
    have l:¬((NB d b).length:Int)<=100:=ω
    clear f;go_wp2_with fail;refine AJ (v:=.tuple #[MH none 0 0,.int .i64 2]) (by simp[results,results188,go_sem,MH,i]) rfl (az rfl ?_);exact(v.l.j (B.l.z v.l.size)).setCell (p:=⟨w.heap.size+1,0,none⟩) (by show w.heap.size<=w.heap.size+1;omega) _
def oh(w d:Nb)(e:Ending)(b:Option (List Pr)):Prop:=∃a c,e=M3 (.tuple #[MH a (b.getD []).length c,M0 b.isSome])/\(b.getD []).length<=c/\OwnS d a (MC (b.getD []))/\(∀g,blk a (b.getD []).length=some g->w.heap.size<=g)/\Below w.heap.size w d
theorem qK{s:Y}{o:List Ch}(h:SX s=some o):PA o=true:=by
 rw[<-pL]at h;unfold YO at h
 split at h
 ·cases h
 split at h
 ·rename_i b;cases h;exact b
 cases h
theorem wF{b:List Ch}(h:OwnS w a (NL b)):Chs w a b:=by
 rcases h with h|⟨g,rfl,h⟩
 ·refine .inl ?_
  cases b with
  | nil=>rfl
  | cons x r=>obtain⟨c,d,f⟩:=x;exact absurd h (by simp[NL])
 exact h.chs
theorem th{l:List Pr}(h:MC l≠[]):l.length≠0:=λe=>h (by rw[AC e];rfl)
theorem OwnS.setF{b:List Nc}(h:OwnS w a b)(p:Addr)(d:∀g,a=Mw g 0->b≠[]->p.block≠g)(v:Nc):OwnS (w.setCell p v) a b:=by
 by_cases c:b=[]
 ·exact .inl c
 rcases h with h|⟨g,rfl,f⟩
 ·exact absurd h c
 exact .inr ⟨g,rfl,f.other p (d g rfl c) v⟩
structure FdB(w W:Nb)(rs:List Pr)(sa:M6)(sc:Nat):Prop where
 rb:Row W w.heap.size [.slice none 0 0]
 st:Row W (w.heap.size+1) [.slice sa rs.length sc]
 own:OwnS W sa (MC rs)
 lo:∀g,blk sa rs.length=some g->w.heap.size+2<=g
 cap:rs.length<=sc
 be:Below w.heap.size w W
theorem FdB.new(w:Nb):FdB w ((w.alloc (.cells #[.slice none 0 0] 31)).alloc (.cells #[.slice none 0 0] 31)) [] none 0 :=⟨(LM w #[.slice none 0 0] 31 w.heap.size rfl).alloc _,LM _ #[.slice none 0 0] 31 _ σ,.inl rfl,λg b=>(by cases b),AA _,(LO _ _).alloc σ _⟩
theorem FdB.I{W c:Nb}{d:List Pr}{f:M6}{g:Nat}(h:FdB w W d f g)(b:Below W.heap.size W c):FdB w c d f g:=⟨h.rb.I b,h.st.I b,h.own.I b,h.lo,h.cap,h.be.j (b.z h.be.size)⟩
theorem FdB.set{X:Nb}{f:Obj}{o b:List Pr}{p c:M6}{q d:Nat}(h:FdB w (X.alloc f) o p q)(m:OwnS X c (MC b))(j:b.length<=d)(i:∀g,blk c b.length=some g->w.heap.size+2<=g):FdB w ((X.alloc f).setCell ⟨w.heap.size+1,0,none⟩ (.slice c b.length d)) b c d:=by
 refine⟨h.rb.other _ (by show w.heap.size+1≠w.heap.size;omega) _,h.st.set 0 σ _,OwnS.setF (m.I (LO _ _)) _ (λg k l=>?_) _,i,j,h.be.setCell (by show w.heap.size<=w.heap.size+1;omega) _⟩;have:=i g (by subst k;exact NT _ _ _ (th l));show w.heap.size+1≠g;omega
theorem Gv(a:M6)(es:List Y)(c:Nat)(w:Nb)(h:Strs w a es)(hl:es.length<=1000)(hs:∀e∈es,e.size<=1048576):Calls prog 184 #[.slice a es.length c] w λe b=>oh w b e (NX es []):=by
 obtain⟨r,V⟩:∃r,Hid (r=NX es []):=⟨_,Z rfl⟩;rw[<-V.l];have HH:=Z h;have HS:=Z hs;clear h hs;go_enter func184,ntmps184;go_wp2;go_loopw [5] (λb wr=>∃(i:Nat) (d:List Pr) (z:M6) (A:Nat) (W:Nb),W=wr/\b=.int .i64 (i:Int)/\i<=es.length/\MU d=true/\Hid (NX (es.drop i) d=r)/\FdB w W d z A) (λb _=>((es.length:Int)-intOf b).toNat)
 case atStart =>
  exact⟨0,[],none,0,_,rfl,rfl,AM _,UG,by show _=_;rw[V.l];rfl,FdB.new w⟩
 case round =>
  obtain⟨i,d,z,A,wr,rfl,rfl,hi,f,v,D⟩:=hrel;have p:=Z D;have T:=D.st.y 0;have P:=D.st.lt;have J:=D.rb.y 0;have O:=D.rb.lt;have N:=D.rb.A 0;have b:=VC f;have bY:=b.1;have bR:=Z f;have bC:=Z b.2;clear f b D
  by_cases R:i<es.length
  ·have aU:(i:Int)<(es.length:Int):=ω
   have bV:(0:Int)<=(i:Int):=ω
   have bZ:IntKind.i64.wrap ((i:Int)+1)=(i:Int)+1:=by simp[IntKind.wrap,IntKind.bits,IntKind.signed];omega
   obtain⟨b,o,s,rfl,K,U⟩:=(HH.l.I p.l.be).at R;have bH:s.size<=1048576:=HS.l s (by rw[U.l];simp[List.getD,R]);have f:es.drop i=s::es.drop (i+1):=by rw[U.l];simp[List.getD,R]
   have bT:b<wr.heap.size:=by have:=DM wr _ K;simpa using this
   have D:=Z (λg=>zM s g bH)
   skip
   rw[f]at v;have bQ:=Z f;clear f
   cases hR:SX s with
   | none =>
    rw[hR]at D;have q:Hid (r=none):=by show _=_;rw[<-v.l];exact tw hR
    clear hR;go_wp2_with fail;refine(D.l _).z ?_;rintro e w5 ⟨ab,cb,rfl,_,_,t⟩;simp only[JP,JC,AR];have f:=p.l.I t;have x:=Z f;have y:=f.rb.y 0;have Q:=f.rb.lt;have F:=f.rb.A 0;clear T P J O N f t K;go_wp2;refine AJ (v:=.tuple #[MH none 0 0,M0 false]) (by simp[results,results184,go_sem,y,MH]) rfl ?_;rw[q.l];exact⟨none,0,rfl,AA _,.inl rfl,λg m=>(by cases m),x.l.be.setCell (by show w.heap.size<=w.heap.size;omega) _⟩
   | some l =>
    rw[hR]at D;have f:=zu (qK hR);have aY:=Z f.2;have bE:=f.1;clear f
    by_cases k:PO d l=0
    focus
     have q:Hid (NX (es.drop (i+1)) (NB d l)=r):=by show _=_;rw[<-v.l];exact(jx hR k).symm
     have y:PQ d l=NB d l:=by unfold PQ;rw[AE k]
     have aZ:=Z (ZW k)
    rotate_left
    focus
     have q:Hid (r=none):=by show _=_;rw[<-v.l];exact ux hR k
     have y:PQ d l=[]:=by unfold PQ;rw[AG k]
     have bU:(PO d l == 0)=false:=by simp[k]
     have bG:(PO d l != 0)=true:=by simp[k]
    rotate_left
    all_goals
     clear hR;go_wp2_with fail;refine(D.l _).z ?_;rintro e w5 ⟨ab,cb,rfl,F,Q,t⟩;simp only[GZ,JD]at F Q⊢;have f:=p.l.I t;have x:=Z f;have r1:=f.st.y 0;have aX:=f.st.lt;have C:=Z (wP z d A ab l cb w5 f.own.prs ω bC.l (wF F) ω aY.l)
    ·rw[y,k]at C
     clear T P J O N f t K F Q;go_wp2_with fail;refine C.l.z ?_;rintro e L ⟨B,I,rfl,X,G,E,u⟩;have j:=(x.l.I u).I (LD L (.cells #[.slice B (NB d l).length I] 31));have M:=Z (j.set G X (λg m=>by have:=E g m;omega));have x1:=j.st.y 0;have b7:=j.st.A 0;have cA:=j.st.lt;have x6:L.heap.size≠w.heap.size+1:=by have:=(x.l.I u).st.lt;omega
     clear r1 aX j u G E k y;go_wp2;exact⟨⟨i+1,_,B,I,_,rfl,σ,ω,aZ.l,q,M.l⟩,by simp[intOf];omega⟩
    rw[y]at C
    clear T P J O N f t K F Q y;go_wp2_with fail;refine C.l.z ?_;rintro e L ⟨B,I,rfl,X,G,E,u⟩;have j:=(x.l.I u).I (LD L (.cells #[.slice B 0 I] 31));have M:=Z j;have y:=j.rb.y 0;have Q:=j.rb.lt;have F:=j.rb.A 0;clear r1 aX j u G E;go_wp2;refine AJ (v:=.tuple #[MH none 0 0,M0 false]) (by simp[results,results184,go_sem,y,MH]) rfl ?_;rw[q.l];exact⟨none,0,rfl,AA _,.inl rfl,λg m=>(by cases m),M.l.be.setCell (by show w.heap.size<=w.heap.size;omega) _⟩
  have q:Hid (r=some d):=by show _=_;rw[<-v.l,ED ω];rfl
  have aU:¬((i:Int)<(es.length:Int)):=ω
  have f:¬(w.heap.size=w.heap.size+1):=ω
  go_wp2;refine AJ (v:=.tuple #[MH z d.length A,M0 true]) (by simp[results,results184,go_sem,J,MH]) rfl ?_;rw[q.l];refine⟨z,A,rfl,p.l.cap,OwnS.setF p.l.own ⟨w.heap.size,0,none⟩ (λg m b=>?_) _,λg m=>by have:=p.l.lo g m;omega,p.l.be.setCell (by show w.heap.size<=w.heap.size;omega) _⟩;have:=p.l.lo g (by subst m;exact NT _ _ _ (th b));show w.heap.size≠g;omega
@[reducible] def vh(a:M6)(n c:Nat)(u l:Int):Nc:=.agg #[.slice a n c,.int .i64 u,.int .i64 l]
theorem qI{i:Nb}{e:Ending}{x:Scd}(h:au w i e x):∃a c,e=M3 (vh a x.1.length c x.2.1 x.2.2)/\OwnS i a (x.1.map Value.string)/\(∀g,blk a x.1.length=some g->w.heap.size<=g)/\Below w.heap.size w i:=by
 obtain⟨y,rfl,k,j⟩:=h;rcases NU k with ⟨d,f⟩|⟨g,c,d,o,p,l⟩
 ·subst d
  have:x.1=[]:=AC f;exact⟨none,0,by rw[f],.inl (by rw[this];rfl),λg b=>(by rw[f]at b;cases b),j⟩
 subst d
 refine⟨_,c,rfl,.inr ⟨g,rfl,l⟩,λm b=>?_,j⟩;have:=QJ b;omega
def QE(W S L T H F R U O:Int)(c:List Pr)(b:List Ch):Dd :=if (OB W S L T H F R U O c && PA b)=true then
  if PO c b=0 then
   if MJ (MD (PQ c b)) W<=hv S-1 then
    if OR (LT b).size W<=hv S-U then
     ⟨0,W,S,L,T,H,F,R,U+OR (LT b).size W,O+OR (LT b).size W,PQ c b,MP (2+H*hv S+U) (PG (LT b) L (F+U) W.toNat (56-W.toNat))⟩
    else LX 4
   else LX 3
  else LX 2
 else LX 1
theorem xj(s:Y)(l f:Int)(n m:Nat)(i:n+m=56)(c:1<=n)(d:n<=8)(h:1<=l/\l<=60000)(g:1<=f)(b:f+OR s.size (n:Int)<=1000000001):((PG s l f n m).length:Int)=OR s.size (n:Int):=by
 have e:(56-(n:Int)).toNat=m:=ω
 unfold OR at b⊢;rw[AE ω,e]at b⊢;rw[XZ rfl ω,WW]
theorem jh(l:Nat)(n:Int)(b:1<=n)(c:n<=8):0<=OR l n/\OR l n<=(l:Int) / 48+1:=by
 unfold OR;rw[AE ⟨b,c⟩];unfold OG
 split
 ·rename_i h;subst h;simp
 have d:48<=(56-n).toNat:=ω
 have:(l-1) / (56-n).toNat<=l / 48:=AK (Nat.div_le_div_right ω) (Nat.div_le_div_left d ω);obtain⟨z,f⟩:∃z,z=(l-1) / (56-n).toNat:=⟨_,rfl⟩;rw[<-f]at this⊢;omega
theorem UD{W L T F R U O:Int}{b:List Pr}(h:OB W S L T H F R U O b=true):(1<=W/\W<=8)/\(8<=S/\S<=200)/\(1<=L/\L<=60000)/\(0<=T/\T<=1000000000)/\(0<=H/\H<=1)/\(1<=F/\F<=999999000)/\(0<=U/\U<=hv S)/\(0<=O/\O<=U)/\MU b=true:=by
 unfold OB SW at h;simp only[AX,AT]at h;obtain⟨⟨⟨⟨⟨⟨⟨c,d⟩,f⟩,⟨⟨g,_⟩,i⟩,j⟩,k⟩,l⟩,m⟩,_⟩:=h;exact⟨c,d,f,g,i,j,k,l,m⟩
theorem qf(d:List Pr)(b:List Ch):(PQ d b).length<=100:=by
 unfold PQ
 by_cases c:PO d b=0
 ·rw[AE c]
  unfold PO at c
  by_cases f:(MU d && PA b)=true
  ·rw[AE f]at c
   by_cases g:(NB d b).length<=100
   ·exact g
   rw[AG g]at c;omega
  rw[AG f]at c;omega
 rw[AG c];simp
theorem yv(c:Ch):∀(d:List Pr) (k:Nat),k=d.length->∀x∈(chW c d).2,x∈d\/x=(c.1,c.2.1)
 | d,0,hk=>by rw[AC hk.symm];simp[chW]
 | d,k+1,hk=>by
  obtain⟨p,bs,rfl⟩:∃b bs,d=bs++[b]:=by
   rcases ET d with h|⟨l,a,h⟩
   ·subst h;simp at hk
   exact⟨a,l,by simpa using h⟩
  have f:=yv c bs k (by simp at hk;omega);rw[pz];generalize chW c bs=i at f⊢;intro x b;unfold VB at b
  have g:x∈i.2\/x=(c.1,c.2.1)\/x=p:=by
   split at b
   ·split at b
    ·rcases BJ.1 b with h|h
     ·exact .inl h
     exact .inr (.inl (BL.1 h))
    exact .inl b
   split at b
   ·rcases BJ.1 b with h|h
    ·rcases BJ.1 h with h|h
     ·exact .inl h
     exact .inr (.inl (BL.1 h))
    exact .inr (.inr (BL.1 h))
   rcases BJ.1 b with h|h
   ·exact .inl h
   exact .inr (.inr (BL.1 h))
  rcases g with h|h|h
  ·rcases f x h with h|h
   ·exact .inl (by simp[h])
   exact .inr h
  ·exact .inr h
  exact .inl (by simp[h])
theorem Dm(m:List Pr)(P:Pr->Prop)(h:∀x∈m,P x):∀(b:List Ch),(∀c∈b,P (c.1,c.2.1))->∀x∈NB m b,P x:=by
 intro b;obtain⟨k,j⟩:∃k,k=b.length:=⟨_,rfl⟩
 induction k generalizing b with
 | zero=>intro _;rw[AC j.symm];exact h
 | succ k o =>
  intro g
  obtain⟨c,bs,rfl⟩:∃c bs,b=bs++[c]:=by
   rcases ET b with h|⟨l,a,h⟩
   ·subst h;simp at j
   exact⟨a,l,by simpa using h⟩
  have i:=o bs (by simp at j;omega) (λc d=>g c (by simp[d]));rw[cq];intro x d;unfold PX at d
  split at d
  ·rcases yv c _ _ rfl x d with f|f
   ·exact i x f
   rw[f];exact g c σ
  rw[BJ]at d
  rcases d with d|d
  ·rcases yv c _ _ rfl x d with f|f
   ·exact i x f
   rw[f];exact g c σ
  simp at d;rw[d];exact g c σ
theorem nL(d:List Pr)(b:List Ch)(P:Pr->Prop)(h:∀x∈d,P x)(f:∀c∈b,P (c.1,c.2.1)):∀x∈PQ d b,P x:=by
 unfold PQ
 split
 ·exact Dm d P h b f
 simp
theorem Bw(W S L T H F R U O:Int)(c:List Pr)(b:List Ch):(QE W S L T H F R U O c b).rs.length<=1048576/\(QE W S L T H F R U O c b).ops.length<=1000:=by
 unfold QE
 split
 ·rename_i d
  rw[AX]at d;obtain⟨g,f,h,i,j,k,l,m,o⟩:=UD d.1;have q:=QM f
  split
  ·split
   ·split
    ·rename_i p
     refine⟨by have:=qf c b;simp;omega,?_⟩;simp only[QW];have:=wC (LT b) L (F+U) W.toNat (56-W.toNat) ω ω ω;rw[show((W.toNat:Nat):Int)=W by omega]at this;omega
    simp[LX]
   simp[LX]
  simp[LX]
 simp[LX]
theorem I9{b n o:Nat}{i:M6}{os:List OpT}(h:w.ownsRow b 130 3 (.slice i n o) os.length (OO os)):n=os.length/\OwnS w i (OO os)/\∀g,blk i os.length=some g->b<=g/\g<w.heap.size:=by
 rcases NU h with ⟨c,d⟩|⟨g,j,c,d,l,f⟩
 ·injection c with c l f
  rw[d];exact⟨ω,.inl (by rw[AC d];rfl),λg k=>by simp[blk]at k⟩
 injection c with c m p
 subst c
 exact⟨m,.inr ⟨g,rfl,f⟩,λq k=>by
  unfold blk at k
  split at k
  ·cases k
  simp at k;subst k;exact⟨d,f.lt⟩⟩
theorem sN(W S L T H F R U O:Int)(a:M6)(t:List Pr)(c:Nat)(V:M6)(b:List Ch)(c2:Nat)(w:Nb)(h:Prs w a t)(hl:t.length<=1048576)(hs:∀x∈t,x.1.size<=1048576/\x.2.size<=1048576)(h2:Chs w V b)(bV:b.length<=1048576)(aP:∀x∈b,x.1.size<=1048576/\x.2.1.size<=1048576):Calls prog 129 #[NK W S L T H F R U O a t.length c,.slice V b.length c2] w λx j=>UH w j x (QE W S L T H F R U O t b):=by
 obtain⟨i0,d,f,g,i⟩:=WT tY;have HI:=Z (AH d (AH f (AH g i)));clear d f g i;have m:=Z (λj g=>km W S L T H F R U O a t c j g hl hs);have r:=Z (λj g=>nh V b c2 j g bV aP);have l:=Z (λj g d=>wP a t c V b c2 j g hl hs d bV aP);unfold YL MH at l;have dZ:=qf t b;have cE:=Z (nL t b (λx=>x.1.size<=1048576/\x.2.size<=1048576) hs aP);obtain⟨D,J⟩:∃D,Hid (D=QE W S L T H F R U O t b):=⟨_,Z rfl⟩;rw[<-J.l];have f:=J.l;unfold QE at f;clear J;obtain⟨u,cC⟩:∃u,Hid (u=PQ t b):=⟨_,Z rfl⟩;obtain⟨C1,dH⟩:∃C1,Hid (C1=PO t b):=⟨_,Z rfl⟩;rw[<-cC.l]at dZ cE;rw[<-cC.l,<-dH.l]at l f;have HG:=Z h;have aZ:=Z h2;have dQ:=Z aP;clear h h2 hs aP;unfold NK at m⊢;have k:=Z f;clear f;go_enter func129,ntmps129;go_upto_region 1 with fail;generalize d:w.alloc _=v1;obtain⟨i,p,q⟩:=LY d;clear d;generalize d:v1.alloc _=v2
 obtain⟨o,s,f⟩:=LY d;clear d;rw[p]at f;have d:StB w v2 (sJ W S L T H F R U O (.slice a t.length c)) (λ_=>True):=⟨i.j (o.z i.size),(q.I o).q,f.q,LQ (λ_=>trivial)⟩;have v:w.heap.size+1<v2.heap.size:=f.q.lt;clear i o q f p s;refine BE ?_;refine AS rfl 33 _ rfl w.heap.size 0 rfl _ _ d.r1.range underlying33 rfl QI ?_;simp only[PS];go_wp2_with fail;refine(m.l _ (HG.l.I d.e)).z ?_;rintro x v3 ⟨rfl,i⟩;replace d:=d.I i;clear i v m
 cases hok:OB W S L T H F R U O t
 focus
  obtain rfl:D=LX 1:=by rw[k.l,AG (by rw[hok];simp)]
 rotate_left
 focus
  go_wp2_with fail;refine(r.l _ (aZ.l.I d.e)).z ?_;rintro x v4 ⟨rfl,i⟩;replace d:=d.I i;clear i r
  cases hokb:PA b
  focus
   obtain rfl:D=LX 1:=by rw[k.l,AG (by rw[hokb];simp)]
  rotate_left
  focus
   obtain⟨hW,hS,eF,hT,hH,hF,hU,hO,_⟩:=UD hok;have hQ:=QM hS;have f:=k.l;rw[AE (by rw[hok,hokb];rfl)]at f;clear hok hokb k;have HH:=Z (λj=>WY S j);have HB:=Z (λj=>qy S H hH.1 hH.2 j);obtain⟨n,rfl⟩:∃n:Nat,W=(n:Int):=⟨W.toNat,ω⟩;have i:(n:Int).toNat=n:=ω
   rw[i]at f;obtain⟨m,k⟩:∃m,m=56-n:=⟨_,rfl⟩;rw[<-k]at f;have cM:n+m=56:=ω
   clear i k;have HF:=Z (λj g=>cw V b c2 j g bV dQ.l);have eG:=ZY b;have aY:=Z (λj=>uZ (LT b) L (F+U) n m j ω cM ω ω);have cN:=jh (LT b).size (n:Int) ω ω;have k:=xj (LT b) L (F+U) n m cM ω ω eF ω;obtain⟨Q,HQ⟩:∃Q,Hid (Q=hv S):=⟨_,Z rfl⟩;obtain⟨N,HN⟩:∃N,Hid (N=OR (LT b).size (n:Int)):=⟨_,Z rfl⟩;obtain⟨bo,i⟩:∃bo,bo=LT b:=⟨_,rfl⟩;obtain⟨o,hcut⟩:∃o,o=PG (LT b) L (F+U) n m:=⟨_,rfl⟩;have bU:(o.length:Int)=N:=by rw[hcut,HN.l];exact k ω
   rw[<-hcut]at aY f;rw[<-i]at HF aY eG cN;rw[<-i]at HN;rw[<-HN.l]at cN;rw[<-HQ.l]at hQ hU HH HB f;rw[<-i,<-HN.l]at f;clear k hcut i;obtain⟨q,i⟩:∃q,q=2+H*Q:=⟨_,rfl⟩
   have fA:2<=q/\q<=101:=by
    rcases(show H=0\/H=1 by omega) with e|e
    ·subst e;omega
    subst e;omega
   rw[<-i]at HB f;clear i;obtain⟨r,dP⟩:∃r,Hid (r=MJ (MD u) (n:Int)):=⟨_,Z rfl⟩;have p:=Z (λi k j g=>pn i u k (n:Int) j g ω cE.l);have eO:=bp (MD u) (n:Int);have fC:=YX u;rw[<-dP.l]at p eO f;have J:=Z f;clear f;have fE:IntKind.i64.wrap (Q-1)=Q-1:=by simp[IntKind.wrap,IntKind.bits,IntKind.signed];omega
   have fF:IntKind.i64.wrap (Q-U)=Q-U:=by simp[IntKind.wrap,IntKind.bits,IntKind.signed];omega
   have fG:IntKind.i64.wrap (F+U)=F+U:=by simp[IntKind.wrap,IntKind.bits,IntKind.signed];omega
   have f:=d.r1.y 9;have C:=d.r1.lt;go_wp2_with fail;clear f C;refine(l.l _ (HG.l.I d.e) (aZ.l.I d.e)).z ?_;rintro x v5 ⟨B,K,rfl,eH,f,hg,i⟩;have l4:=d.r2.lt;have z:=LS (lo:=v4.heap.size) f SM hg
   have eQ:∀g,blk B u.length=some g->g<v5.heap.size:=λg k=>ZK f k
   replace d:=d.I i;clear i l f;go_upto_region 4 with fail;generalize f:v5.alloc _=v6;obtain⟨i,s,l⟩:=LY f;clear f;have E:=l.q;obtain⟨X5,f⟩:∃k,k=v5.heap.size:=⟨_,rfl⟩;rw[<-f]at E⊢;have l5:w.heap.size+1<X5:=by rw[f];exact d.r2.lt
   replace d:=d.I i;replace z:=z.I i;have fS:v5.heap.size<=v6.heap.size:=i.size;clear i l s f;generalize Value.tuple _=T0;generalize Value.agg _=A0
   try generalize Value.agg _=A9
   by_cases hC:C1=0
   case neg =>
    obtain rfl:D=LX 2:=by rw[J.l,AG hC]
    have f:(C1 == 0)=false:=by simp[hC]
    go_upto_region 5 with fail;refine d.noR 2 _ _ rfl γ rfl rfl rfl rfl (λy i A=>?_)
    try simp only[PS]
    clear d
    try go_wp2
    refine UF 4 results129 _ ?_ i ?_ A.l<;>rfl
   have eT:=Z hC;subst hC;have f:=d.r1.y 0;have l:=d.r1.y 1;have C:=d.r1.lt;have i:=E.y 0;have y:=E.lt;go_wp2_with (go_at_call 78;refine(HH.l _).z ?_;refine OJ ?_);clear f l C i y;refine(p.l _ _ _ z.q.prsA).z ?_;rintro x v7 ⟨rfl,i⟩;replace d:=d.I i;replace z:=z.I i;replace E:=E.I i;clear i p
   by_cases hr:r<=Q-1
   case neg =>
    obtain rfl:D=LX 3:=by rw[J.l,AE trivial,AG hr]
    have f:Q-1<r:=ω
    go_upto_region 8 with fail;refine d.noR 3 _ _ rfl γ rfl rfl rfl rfl (λy i A=>?_)
    try simp only[PS]
    clear d
    try go_wp2
    refine UF 4 results129 _ ?_ i ?_ A.l<;>rfl
   go_upto_region 9 with fail;have y:=(AB v7.heap.size v7).drew;refine AN (S:=λj=>Row j w.heap.size (sJ (n:Int) S L T H F R U O (.slice a t.length c))) κ (d.r1.I y) (λp=>?_);refine TY 0 (.slice V b.length c2) rfl p (TK 2 (Mv w.heap.size 2) rfl (BO ⟨ρ,λw f=>by obtain s:=f;have l:=f.lt;go_simp⟩) p (TK 3 (.int .i64 L) rfl (BO ⟨ρ,λw f=>by obtain s:=f;have c:=f.y 2;go_simp⟩) p (TK 4 (Mv w.heap.size 3) rfl (BO ⟨ρ,λw f=>by obtain s:=f;have l:=f.lt;go_simp⟩) p (TK 5 (Mv w.heap.size 5) rfl (BO ⟨ρ,λw f=>by obtain s:=f;have l:=f.lt;go_simp⟩) p (TK 6 (.int .i64 F) rfl (BO ⟨ρ,λw f=>by obtain s:=f;have c:=f.y 5;go_simp⟩) p (TK 7 (Mv w.heap.size 7) rfl (BO ⟨ρ,λw f=>by obtain s:=f;have l:=f.lt;go_simp⟩) p (TK 8 (.int .i64 U) rfl (BO ⟨ρ,λw f=>by obtain s:=f;have c:=f.y 7;go_simp⟩) p (TY 9 (.int .i64 (F+U)) rfl p (TK 10 (Mv w.heap.size 0) rfl (BO ⟨ρ,λw f=>by obtain s:=f;have l:=f.lt;go_simp⟩) p (TK 11 (.int .i64 (n:Int)) rfl (BO ⟨ρ,λw f=>by obtain s:=f;have c:=f.y 0;go_simp⟩) p ?_))))))))))
   simp only[PS];refine RD 1 rfl (λP v=>?_);refine LW ρ 135 #[.slice V b.length c2] γ (HF.l _ ((aZ.l.I d.e).I y)) ?_;rintro e y1 ⟨rfl,i⟩;refine⟨_,rfl,?_⟩;replace y:=y.j (i.z y.size);clear i;refine v.l _ _ (d.r1.I y) (λeB=>?_)
   try simp only[PS]
   refine RD 12 rfl (λP v=>?_);refine LW ρ 189 #[Mz bo,.int .i64 L,.int .i64 (F+U),.int .i64 (n:Int)] γ (aY.l _) ?_;rintro e u2 ⟨a8,c8,rfl,A,aU,i⟩;refine⟨_,rfl,?_⟩;have dC:=LS (lo:=v7.heap.size) A (λh e=>h (by rw[AC e];rfl)) (λg k=>AK y.size (aU g k));replace y:=y.j (i.z y.size);clear i A aU;refine v.l _ _ (d.r1.I y) (λaN=>?_)
   try simp only[PS]
   refine RD 13 rfl (λP v=>?_);go_simp;refine v.l _ _ aN (λ_=>?_)
   try simp only[PS]
   refine DN ?_;replace d:=d.I y;replace z:=z.I y;replace E:=E.I y;clear y
   by_cases hp:N<=Q-U
   case neg =>
    obtain rfl:D=LX 4:=by rw[J.l,AE trivial,AE hr,AG hp]
    have eM:Q-U<(o.length:Int):=ω
    have G:=d.r1.y 7;have C:=d.r1.lt;go_upto_region 11 with fail;refine d.noR 4 _ _ rfl γ rfl rfl rfl rfl (λy i A=>?_)
    try simp only[PS]
    clear d
    try go_wp2
    refine UF 4 results129 _ ?_ i ?_ A.l<;>rfl
   have eM:(o.length:Int)<=Q-U:=ω
   obtain rfl:D=⟨0,(n:Int),S,L,T,H,F,R,U+(o.length:Int),O+(o.length:Int),u,MP (q+U) o⟩:=by rw[J.l,AE trivial,AE hr,AE hp,bU]
   have fO:=d.r2.lt;have fQ:=z.top;have q:=c10 d.r1;have i:=E.y 0;have y:=E.lt;go_wp2_with fail;clear q i y;generalize q:u2.alloc _=w8;obtain⟨i,aH,y⟩:=LY q;clear q;have bW:=DT w8 (base:=u2.heap.size+1) (e:=130) (size:=3) #[] 0 ω σ σ;rw[aH]at bW;have cP:Row _ u2.heap.size (sJ (n:Int) S L T H F R U O (.slice B u.length K)):=(y.I (ry w8 (.cells #[] 130))).q;have cI:=i.j ((ry w8 (.cells #[] 130)).z i.size)
   try rw[aH]
   clear y i;go_loopw [10,11] (λy i wr=>∃k:Nat,k<=o.length/\i=.int .i64 (k:Int)/\Row wr u2.heap.size (sJ (n:Int) S L T H F R (U+(k:Int)) (O+(k:Int)) (.slice B u.length K))/\wr.ownsRow (u2.heap.size+1) 130 3 y k (OO (MP (q+U) (o.take k)))/\Below u2.heap.size u2 wr) (λ_ i _=>o.length-(intOf i).toNat)
   case atStart =>
    exact⟨0,AM _,rfl,by simpa using cP,by simpa[MP,OO] using bW,cI⟩
   case round =>
    clear cP bW cI aH;obtain⟨k,hk,rfl,aW,aI,aO⟩:=hrel;have aQ:=aW.lt;replace d:=d.I aO;replace z:=z.I aO
    obtain⟨G,I,rfl⟩:∃G I,u10=Value.slice G k I:=by
     rcases NU aI with ⟨A,C⟩|⟨g,i,A,_⟩
     ·exact⟨none,0,by rw[A,C]⟩
     exact⟨_,i,A⟩
    have eZ:(k:Int)<=N:=ω
    by_cases aV:k<o.length
    ·obtain⟨X,rfl,bZ⟩:=dC.q.resolve_left (by intro e;have:=CX List.length e;simp at this;rw[this]at aV;simp at aV)
     have aU:=bZ.lt;have A:=bZ.cell k (Mz (o.getD k empty)) (by simp[aV,List.getD]);obtain⟨C,M⟩:∃C,C=o.getD k empty:=⟨_,rfl⟩;rw[<-M]at A;have eJ:(k:Int)<(o.length:Int):=ω
     have eY:(0:Int)<=(k:Int):=ω
     have fH:IntKind.i64.wrap (q+(U+(k:Int)))=q+(U+(k:Int)):=by simp[IntKind.wrap,IntKind.bits,IntKind.signed];omega
     have fI:IntKind.i64.wrap (U+(k:Int)+1)=U+(k:Int)+1:=by simp[IntKind.wrap,IntKind.bits,IntKind.signed];omega
     have fJ:IntKind.i64.wrap (O+(k:Int)+1)=O+(k:Int)+1:=by simp[IntKind.wrap,IntKind.bits,IntKind.signed];omega
     have dM:=Z M
     have HK:Hid (∀W,Below (u2.heap.size+1) wr W->Row W w.heap.size (sJ (n:Int) S L T H F R U O (.slice a t.length c))/\Row W u2.heap.size (sJ (n:Int) S L T H F R (U+(k:Int)) (O+(k:Int)) (.slice B u.length K))/\W.cell? ⟨X,k,none⟩=some (Mz C)):=λW i=>⟨(d.low i ω).r1,aW.below2 (N:=u2.heap.size+1) ω i,(i.cell (p:=⟨X,k,none⟩) (by show X<_;omega)).j ((aO.cell (p:=⟨X,k,none⟩) aU).j A)⟩
     clear M bZ A;go_upto_region 18 with fail;have A:=(AB wr.heap.size wr).drew;refine AN (S:=λj=>Row j w.heap.size (sJ (n:Int) S L T H F R U O (.slice a t.length c))/\Row j u2.heap.size (sJ (n:Int) S L T H F R (U+(k:Int)) (O+(k:Int)) (.slice B u.length K))/\j.cell? ⟨X,k,none⟩=some (Mz C)) κ (HK.l _ (A.z aQ)) (λp=>?_);refine TY 0 (.slice G k I) rfl p (TK 1 (Mv w.heap.size 1) rfl (BO ⟨ρ,λw f=>by obtain⟨s,M,z2⟩:=f;have l:=s.lt;go_simp⟩) p (TK 2 (.int .i64 S) rfl (BO ⟨ρ,λw f=>by obtain⟨s,M,z2⟩:=f;have c:=s.y 1;go_simp⟩) p (TK 3 (Mv w.heap.size 3) rfl (BO ⟨ρ,λw f=>by obtain⟨s,M,z2⟩:=f;have l:=s.lt;go_simp⟩) p (TK 4 (Mv w.heap.size 4) rfl (BO ⟨ρ,λw f=>by obtain⟨s,M,z2⟩:=f;have l:=s.lt;go_simp⟩) p (TK 5 (.int .i64 H) rfl (BO ⟨ρ,λw f=>by obtain⟨s,M,z2⟩:=f;have c:=s.y 4;go_simp⟩) p (TK 7 (Mv u2.heap.size 7) rfl (BO ⟨ρ,λw f=>by obtain⟨s,M,z2⟩:=f;have l:=M.lt;go_simp⟩) p (TK 8 (.int .i64 (U+(k:Int))) rfl (BO ⟨ρ,λw f=>by obtain⟨s,M,z2⟩:=f;have c:=M.y 7;go_simp⟩) p (TY 10 (.slice (Mw X 0) o.length c8) rfl p (TY 11 (.int .i64 (k:Int)) rfl p (TY 12 (Mv X k) rfl p (TY 13 (Mz C) rfl p ?_)))))))))))
     simp only[PS];refine RD 6 rfl (λP v=>?_);refine LW ρ 183 #[.int .i64 S,.int .i64 H] γ (HB.l _) ?_;rintro e j ⟨rfl,f⟩;refine⟨_,rfl,?_⟩;rw[f];clear f j;refine v.l _ _ p (λ_=>?_)
     try simp only[PS]
     refine TY 9 (.int .i64 (q+(U+(k:Int)))) rfl p ?_;simp only[PS];refine RD 14 rfl (λP v=>?_);refine LW ρ 186 #[.int .i64 (q+(U+(k:Int))),Mz C] γ (ii _ _ _) ?_;rintro e w4 ⟨rfl,i⟩;refine⟨_,rfl,?_⟩;replace A:=A.j (i.z A.size);have cF:=Z ((NC aI A).alloc (.cells #[M0 false,.int .i64 (q+(U+(k:Int))),Mz C] 130));have cQ:u2.heap.size+1<=w4.heap.size:=AK aQ A.size;clear i;refine v.l _ _ (HK.l _ (A.z aQ)) (λaN=>?_)
     try simp only[PS]
     refine RD 15 rfl (λP v=>?_);go_simp;refine v.l _ _ (HK.l _ ((A.z aQ).alloc cQ _)) (λeC=>?_)
     try simp only[PS]
     refine RD 16 rfl (λP v=>?_);refine SI _ ρ _ _ _ ρ (u2.heap.size+1) underlying97 HI.l rfl ω (.slice G k I) k _ ρ cF.l ⟨w4.heap.size,0,none⟩ 1 1 [M0 false,.int .i64 (q+(U+(k:Int))),Mz C] ρ rfl (World.news_of_block (AU w4 _)) (YH _ _ _) ξ (w4.heap.size+1) σ ?_;intro g9 dR w5 aG f bI eK;have i:=Z (((A.z aQ).alloc cQ _).j (YE f τ (λj hj=>(aI.lt j hj).1)));have dL:=Z aG;clear aG f bI;refine v.l _ _ (HK.l _ i.l) (λj=>?_)
     try simp only[PS]
     refine RD 17 rfl (λP v=>?_);go_simp;refine v.l _ _ j (λ_=>?_)
     try simp only[PS]
     refine DN ?_;have f:=(HK.l _ i.l).2.1;have fT:=f.y 7;have fU:=f.y 8;have eU:=f.A 7;have eV:=f.A 8;have l5:=f.lt;have dN:=Z f;have cZ:=Z aO;clear f aI aW aO A cF d z dC;go_wp2_with fail;have f:MP (q+U) (o.take (k+1))=MP (q+U) (o.take k)++[(false,q+(U+(k:Int)),C)]:=by rw[ZM o k empty aV,og,<-dM.l,AP,show min k o.length=k by omega,Int.add_assoc]
     refine⟨⟨k+1,ω,ν,?_,?_,?_⟩,by simp[intOf];omega⟩
     ·rw[show U+((k+1:Nat):Int)=U+(k:Int)+1 by omega,show O+((k+1:Nat):Int)=O+(k:Int)+1 by omega]
      exact(dN.l.set 7 σ (.int .i64 (U+(k:Int)+1))).set 8 σ (.int .i64 (O+(k:Int)+1))
     ·rw[f,ir]
      exact wt dL.l (λb A h2=>by rw[BF _ _ _ b (by show b≠u2.heap.size;omega),BF _ _ _ b (by show b≠u2.heap.size;omega)])
     exact((cZ.l.j (i.l.z ω)).setCell (p:=⟨u2.heap.size,7,none⟩) (AA _) _).setCell (p:=⟨u2.heap.size,8,none⟩) (AA _) _
    have M:k=o.length:=ω
    subst M;rw[CW]at aI;go_upto_region 21 with fail;refine BE ?_;refine AS rfl 33 _ rfl u2.heap.size 0 rfl _ _ aW.range underlying33 rfl QI ?_;simp only[PS];refine LU rfl (.slice G o.length I) γ ?_;simp only[PS];refine LU rfl (.agg (dK 0 (n:Int) S L T H F R (U+(o.length:Int)) (O+(o.length:Int)) (.slice B u.length K) (.slice G o.length I))) γ ?_;simp only[PS];refine BI rfl 99 _ _ rfl (w.heap.size+1) 0 (dK 0 (n:Int) S L T H F R (U+(o.length:Int)) (O+(o.length:Int)) (.slice B u.length K) (.slice G o.length I)) rfl rfl (d.r2.there rfl) UB κ ?_
    try simp only[PS]
    have eN:=QW (q+U) o;obtain⟨_,X,C⟩:=I9 (os:=MP (q+U) o) (by rw[eN];exact aI)
    have j:=λg k=>(C g k).1
    obtain⟨i,f⟩:=d.fin ⟨0,(n:Int),S,L,T,H,F,R,U+(o.length:Int),O+(o.length:Int),u,MP (q+U) o⟩ B K G I eH ⟨z.q,X,ZJ (N:=u2.heap.size) (λg k=>by have:=eQ g k;omega) (λg k=>by have:=j g k;omega)⟩ (λg k=>by have:=hg g k;omega) (λg k=>by have:=j g k;omega);have A:=Z f;clear f;simp only[UV,QW]at i A;generalize f:World.setCells _ _ _ _=y at i A⊢;clear f d
    try go_wp2
    refine UF (D:=⟨0,(n:Int),S,L,T,H,F,R,U+(o.length:Int),O+(o.length:Int),u,MP (q+U) o⟩) 4 results129 (a:=B) (c:=K) (b:=G) (e:=I) _ ?_ (by simp only[UV,QW];exact i) ?_ A.l<;>rfl
 rotate_left
 all_goals
  go_upto_region 2 with fail;refine d.noR 1 _ _ rfl γ rfl rfl rfl rfl (λy i A=>?_)
  try simp only[PS]
  clear d
  try go_wp2
  refine UF 4 results129 _ ?_ i ?_ A.l<;>rfl
end
section
open Tryz
open Go.RowKit Go.Lib
variable {P:Program}{w:Nb}
theorem jj(w:Nb)(l B C d:TypeId)(k g o e p:Nat)(a:Addr)(f s:Nat)(b:Array Nc)(t:TypeId)(c:List Nc)(n:Nat)
  (A:P.underlying l=some (.slice d))(m:(P.info? d).map (·.size)=some k)
  (y:w.heap[g]?=some (.cells b t (0,0)))(z:Nat.min f e=n)(x:c.length=n*k)
  (r:∀j v,c[j]?=some v->w.cell? (a.add j)=some v)(q:o+c.length<=b.size)(u:∀v∈c,v.oneCell'=true):(Builtin.copy_ #[l,B] C #[.slice (Mw g o) e p,.slice (some a) f s]).run P w =
   .ok (goInt n) (w.setRow g (b.toList.take o++c++b.toList.drop (o+c.length)).toArray):=by
 have j:=run_loadCells_list (P:=P) w a c r;have h:=KO P g o t c 0 b w y (by simpa using q) u
 cases hq:P.info? d with
 | none=>simp[hq]at m
 | some i =>
  have v:i.size=k:=by simpa[hq] using m
  simp only[FX]at h;rw[x]at j;simp[Builtin.copy_,GG A,Builtin.lenOf,Builtin.firstCells,sizeOf,typeInfo,hq,v,z,j,h]
theorem Dp(w:Nb)(t A e:TypeId)(k g d h:Nat)(a:Addr)(n c:Nat)(b:Array Nc)(o:TypeId)(f:List Nc)
  (z:P.underlying t=some (.slice e))(m:(P.info? e).map (·.size)=some k)
  (y:w.heap[g]?=some (.cells b o (0,0)))(p:d+n<=h)(x:f.length=n*k)
  (s:∀j v,f[j]?=some v->w.cell? (a.add j)=some v)(r:d*k+f.length<=b.size)(u:∀v∈f,v.oneCell'=true):(Builtin.append_ #[t,t] A #[.slice (Mw g 0) d h,.slice (some a) n c]).run P w =
   .ok (.slice (Mw g 0) (d+n) h) (w.setRow g (b.toList.take (d*k)++f++b.toList.drop (d*k+f.length)).toArray):=by
 have l:=run_loadCells_list (P:=P) w a f s;have j:=KO P g (d*k) o f 0 b w y (by simpa using r) u;have q:(⟨g,0,none⟩:Addr).add (d*k)=⟨g,d*k,none⟩:=by rw[GX];simp
 cases hq:P.info? e with
 | none=>simp[hq]at m
 | some i =>
  have v:i.size=k:=by simpa[hq] using m
  simp only[FX]at j;rw[x]at l;simp[Builtin.append_,GG z,Builtin.lenOf,Builtin.firstCells,sizeOf,typeInfo,hq,v,l,j,p,q]
theorem Dg(w:Nb)(t p e:TypeId)(z:Nc)(l:P.underlying t=some (.slice e))(hv:∀w,(zeroValue e).run P w=.ok z w)(g o n c:Nat)(q:0<n)(a:Array Nc)(f:TypeId)(b:List Nc)
  (k:w.heap[g]?=some (.cells a f (0,0)))(i:(Builtin.zeroCells z.cells n).toList=b)(h:o+b.length<=a.size)(j:∀v∈b,v.oneCell'=true):(Builtin.clear_ #[t] p #[.slice (Mw g o) n c]).run P w=.ok (.tuple #[]) (w.setRow g (a.toList.take o++b++a.toList.drop (o+b.length)).toArray):=by
 have d:=KO P g o f b 0 a w k (by simpa using h) j;simp only[FX]at d;obtain⟨m,rfl⟩:∃m,n=m+1:=⟨n-1,ω⟩;simp[Builtin.clear_,GG l,hv,i,d]
theorem kj(w:Nb)(g:Nat)(a:Array Nc):w.grownBy (w.setRow g a) (some g):=⟨rfl,rfl,rfl,by simp[World.setRow],λk _ b=>LB w g k a (λe=>b (by rw[e]))⟩
theorem tR{c d:Nb}{r:Option Nat}(h:w.grownBy c r)(k:c.grownBy d r):w.grownBy d r :=⟨k.os.j h.os,k.tape.j h.tape,k.output.j h.output,AK h.size k.size,λj b a=>(k.block j (AD b h.size) a).j (h.block j b a)⟩
theorem YN{g:Nat}{cur:List Nc}{t:TypeId}{a:Nat×Nat}(h:w.heap[g]?=some (.cells cur.toArray t a)){j:Nat}{v:Nc}(hv:cur[j]?=some v):w.cell? ⟨g,j,none⟩=some v:=by
 simp[World.cell?,h,hv]
theorem oX{b:Array Oper}{o:Oper}{a:Act}{K:Act->Nb->Prop}{Q:Exit->Act->Nb->Prop}{E:Prop}
  (k:o.guard=none)(d x:Operand)(c e:TypeId)(h:o.op=Op.call { callee:=Callee.builtin Builtin.append,args:=#[d,x],argTypes:=#[c,e] })
  (v u:Nc)(j:a.eval d=v)(n:a.eval x=u){f:Nc}{g:Nb}(l:(Builtin.append_ #[c,e] o.type #[v,u]).run P w=.ok f g)(i:K (a.put o.dst f) g):if Region.wanted o (yielded b a.tmps)=true then Oper.wp P o a w K Q else E:=by
 have m:Region.wanted o (yielded b a.tmps)=true:=by simp[Region.wanted,k]
 rw[AE m];unfold Oper.wp;simp[execOp,h,resolve,invoke,builtin,j,n,l,Result.andThen];exact i
end
section
open Tryz
open Go.RowKit Go.Lib
theorem gc:(prog.info? 103).map (·.size)=some 2:=κ
theorem xQ(w:Nb):(zeroValue 103).run prog w=.ok (.agg #[Mz empty,Mz empty]) w:=κ
def ak(a:List Nc)(n p:Nat):List Nc:=a.take (p*2)++(a.drop (p*2+2)).take ((n-p-1)*2)++[Mz empty,Mz empty]++a.drop (n*2)
theorem Fp(a:List Nc)(n p:Nat)(h:n*2<=a.length)(i:p<n)(b c:List Nc)(g:b=(a.drop (p*2+2)).take ((n-p-1)*2))(f:c=a.take (p*2)++b++a.drop (p*2+b.length)):b.length=(n-p-1)*2/\c.length=a.length/\c.take ((n-1)*2)++[Mz empty,Mz empty]++c.drop ((n-1)*2+2)=ak a n p:=by
 have d:b.length=(n-p-1)*2:=by rw[g,AP,CU];omega
 have e:(a.take (p*2)++b).length=(n-1)*2:=by rw[AF,AP,d];omega
 refine⟨d,by rw[f,AF,e,CU,d];omega,?_⟩;unfold ak;rw[<-g,f,EQ e,List.drop_append,ED (by rw[e];omega),e,DW,FU,d]
 congr 2
 omega
theorem Ad(g n a p:Nat)(b:List Nc)(w:Nb)(k:w.heap[g]?=some (.cells b.toArray 103 (0,0)))(N:b.length=a*2)(O:n<=a)(M:n<=100000)(B:p<n)(u:∀v∈b.take (n*2),v.oneCell'=true):Calls prog 261 #[.slice (Mw g 0) n a,.int .i64 (p:Int),.int .i64 ((p:Int)+1)] w λe q=>e=M3 (.slice (Mw g 0) (n-1) a)/\w.grownBy q (some g) /\
   q.heap[g]?=some (.cells (ak b n p).toArray 103 (0,0)):=by
 have L:¬((p:Int)=(p:Int)+1):=ω
 have E:(p:Int)<=(p:Int)+1:=ω
 have F:(p:Int)+1<=(n:Int):=ω
 have C:(0:Int)<=(p:Int):=ω
 have G:(0:Int)<=(p:Int)+1:=ω
 have H:(n:Int)<=(a:Int):=ω
 have I:(p:Int)<=(a:Int):=ω
 have J:((p:Int)+1).toNat=p+1:=ω
 have z:p+(n-(p+1))=n-1:=ω
 obtain⟨d,l⟩:∃d,d=(b.drop (p*2+2)).take ((n-p-1)*2):=⟨_,rfl⟩;obtain⟨e,o⟩:∃e,e=b.take (p*2)++d++b.drop (p*2+d.length):=⟨_,rfl⟩;obtain⟨m,A,t⟩:=Fp b n p ω B d e l o
 have s:∀v∈d,v.oneCell'=true:=λv hv=>u v (by rw[l,show(n-p-1)*2=n*2-(p*2+2) by omega,<-FV]at hv;exact FE hv)
 have r:∀(D:Addr),(D=⟨g,(p+1)*2,none⟩\/d=[])->∀j v,d[j]?=some v->w.drew.cell? (D.add j)=some v:=λD i j v c=>by
  rcases i with rfl|f
  ·rw[GX]
   refine YN (w:=w.drew) (cur:=b) k ?_;rw[l,FY]at c
   split at c
   ·rw[FQ]at c
    rw[<-c];congr 1;omega
   cases c
  rw[f]at c;cases c
 have j:Hid (∀D c f,(D=⟨g,(p+1)*2,none⟩\/d=[])->(Builtin.append_ #[29,29] f #[.slice (Mw g 0) p a,.slice (some D) (n-(p+1)) c]).run prog w.drew=.ok (.slice (Mw g 0) (n-1) a) (w.drew.setRow g e.toArray)):=λD c f i=>by
  have:=Dp (P:=prog) w.drew 29 f 103 2 g p a D (n-(p+1)) c b.toArray 103 d underlying29 gc k ω (by rw[m];omega) (r D i) (by rw[m];simp;omega) s;rw[z]at this;rw[this,o]
 have x:Hid (∀c f,(Builtin.clear_ #[29] f #[.slice (Mw g ((n-1)*2)) (n-(n-1)) c]).run prog (w.drew.setRow g e.toArray)=.ok (.tuple #[]) ((w.drew.setRow g e.toArray).setRow g (ak b n p).toArray)):=λc f=>by
  rw[show n-(n-1)=1 by omega];have:=Dg (P:=prog) (w.drew.setRow g e.toArray) 29 f 103 _ underlying29 xQ g ((n-1)*2) 1 c ω e.toArray 103 [Mz empty,Mz empty] (IT w.drew g b.toArray e.toArray 103 (0,0) k) κ τ (XM _ _);rw[this,<-t];simp
 have c:a=p+1->d=[]:=λh=>AC (by rw[m];omega)
 have y:=Z c;have v:=Z k;clear c r l o m A t s u k;go_enter func261,ntmps261
 by_cases l:a=p+1
 focus
  have i:(⟨g,0,none⟩:Addr)=⟨g,(p+1)*2,none⟩\/d=[]:=.inr (y.l l)
 rotate_left
 rotate_left
 all_goals
  go_wp2_with fail;refine AN (S:=λq=>True) κ (trivial) (λf=>?_);refine TY 0 (.slice (Mw g 0) n a) rfl f (TY 1 (.int .i64 (p:Int)) rfl f (TY 2 (.slice (Mw g 0) p a) rfl f (TY 3 (.slice (Mw g 0) n a) rfl f (TY 4 (.int .i64 ((p:Int)+1)) rfl f ?_))));simp only[PS]
 focus
  refine TY 5 (.slice (Mw g 0) (n-(p+1)) (a-(p+1))) rfl f ?_;simp only[PS];refine RD 6 rfl (λK c=>?_);refine oX rfl _ _ 29 29 rfl (.slice (Mw g 0) p a) (.slice (Mw g 0) (n-(p+1)) (a-(p+1))) (by simp[Act.eval,Act.put]) (by simp[Act.eval,Act.put]) (j.l _ _ _ i) ?_;refine c.l _ _ (trivial) (λh=>?_);clear c K
  try simp only[PS]
  refine EF (rs:=[7]) κ σ ?_
 rotate_left
 focus
  refine TY 5 (.slice (Mw g ((p+1)*2)) (n-(p+1)) (a-(p+1))) rfl f ?_;simp only[PS];refine RD 6 rfl (λK c=>?_);refine oX rfl _ _ 29 29 rfl (.slice (Mw g 0) p a) (.slice (Mw g ((p+1)*2)) (n-(p+1)) (a-(p+1))) (by simp[Act.eval,Act.put]) (by simp[Act.eval,Act.put]) (j.l _ _ _ (.inl rfl)) ?_;refine c.l _ _ (trivial) (λh=>?_);clear c K
  try simp only[PS]
  refine EF (rs:=[7]) κ σ ?_
 rotate_left
 all_goals
  refine BK rfl (λK c=>?_) DX;go_simp;refine c.l _ _ h (λ_=>?_);clear c K
  try simp only[PS]
  refine DN ?_;have c:=x.l;go_wp2_with fail;go_ret
  exact⟨by first|rfl|(rw[l];rfl),tR (qZ (kj w.drew g _)) (kj _ g _),IT _ g _ _ 103 (0,0) (IT w.drew g b.toArray e.toArray 103 (0,0) v.l)⟩
end
section
open Tryz
open Go.RowKit Go.Lib
def ZR(a:List Nc)(n p:Nat)(b c:Y):List Nc:=a.take (p*2)++[Mz b,Mz c]++(a.drop (p*2)).take ((n-p)*2)++a.drop (n*2+2)
theorem B5(a:List Nc)(n p:Nat)(h i:Y)(j:n*2+2<=a.length)(k:p<n)(b c:List Nc)(g:b=(a.drop (p*2)).take ((n-p)*2))(f:c=a.take ((p+1)*2)++b++a.drop ((p+1)*2+b.length)):b.length=(n-p)*2/\c.length=a.length/\c.take (p*2)++[Mz h,Mz i]++c.drop (p*2+2)=ZR a n p h i:=by
 have e:b.length=(n-p)*2:=by rw[g,AP,CU];omega
 have d:(a.take ((p+1)*2)).length=(p+1)*2:=by rw[AP];omega
 refine⟨e,by rw[f,AF,AF,d,CU,e];omega,?_⟩;unfold ZR;rw[<-g,f,BT (a.take ((p+1)*2)),ID (by rw[d];omega),GU,show min (p*2) ((p+1)*2)=p*2 by omega];rw[show p*2+2=(p+1)*2 by omega,FJ d,e];rw[show(p+1)*2+(n-p)*2=n*2+2 by omega];simp
theorem Js(g n a p c:Nat)(h i:Y)(b:List Nc)(w:Nb)(l:w.heap[g]?=some (.cells b.toArray 103 (0,0)))(hv:w.heap[c]?=some (.cells #[Mz h,Mz i] 103 (0,0)))(u:c≠g)(F:b.length=a*2)(hn:n<a)(X:n<=100000)(G:p<n)(y:∀v∈b.take (n*2),v.oneCell'=true):Calls prog 270 #[.slice (Mw g 0) n a,.int .i64 (p:Int),.slice (Mw c 0) 1 1] w λe r=>e=M3 (.slice (Mw g 0) (n+1) a)/\w.grownBy r (some g) /\
   r.heap[g]?=some (.cells (ZR b n p h i).toArray 103 (0,0)):=by
 have V:¬((p:Int)=(n:Int)):=ω
 have I:(0:Int)<=(p:Int):=ω
 have J:(p:Int)<=(n:Int):=ω
 have L:(p:Int)<=(n:Int)+1:=ω
 have M:(p:Int)+1<=(n:Int)+1:=ω
 have N:(0:Int)<=(p:Int)+1:=ω
 have O:¬((a:Int)<(n:Int)+1):=ω
 have P:(n:Int)+1<=(a:Int):=ω
 have Q:(0:Int)<=(n:Int)+1:=ω
 have R:¬(a=p):=ω
 have S:¬(a=p+1):=ω
 have T:((p:Int)+1).toNat=p+1:=ω
 have U:IntKind.i64.wrap ((p:Int)+1)=(p:Int)+1:=by simp[IntKind.wrap,IntKind.bits,IntKind.signed];omega
 have H:((n:Int)+1).toNat=n+1:=ω
 have B:∀e d,(callFunc 271 #[.slice (Mw c 0) 1 1,.slice (Mw g ((p+1)*2)) e d]).run prog w=.ok (.value (M0 false)) w:=λe d=>by
  rw[EX func271 κ κ κ (e:=Extern.SlicesOverlaps.overlaps #[29,29] #[4]) κ,
   Lib.run_overlaps_apart w 29 4 103 underlying29 2 sizeOf103 ⟨c,0,none⟩ ⟨g,(p+1)*2,none⟩ 1 1 e d u 103 103 2 (a*2) (by simp[World.shape?,hv]) (by simp[World.shape?,l,F]) ω (by simp[World.frozen?,hv]) (by simp[World.frozen?,hv])]
  rfl
 obtain⟨f,m⟩:∃f,f=(b.drop (p*2)).take ((n-p)*2):=⟨_,rfl⟩;obtain⟨e,o⟩:∃e,e=b.take ((p+1)*2)++f++b.drop ((p+1)*2+f.length):=⟨_,rfl⟩;obtain⟨q,C,x⟩:=B5 b n p h i ω G f e m o
 have t:∀v∈f,v.oneCell'=true:=λv hv=>y v (by rw[m,show(n-p)*2=n*2-p*2 by omega,<-FV]at hv;exact FE hv)
 have s:∀j v,f[j]?=some v->w.drew.cell? ((⟨g,p*2,none⟩:Addr).add j)=some v:=λj v d=>by
  rw[GX];refine YN (w:=w.drew) (cur:=b) l ?_;rw[m,FY]at d
  split at d
  ·rw[FQ]at d;exact d
  cases d
 have z:Hid (∀k,(Builtin.copy_ #[29,29] k #[.slice (Mw g ((p+1)*2)) (n+1-(p+1)) (a-(p+1)),.slice (Mw g (p*2)) (n+1-p) (a-p)]).run prog w.drew=.ok (goInt ((n-p:Nat):Int)) (w.drew.setRow g e.toArray)):=λk=>by
  have:=jj (P:=prog) w.drew 29 29 k 103 2 g ((p+1)*2) (n+1-(p+1)) (a-(p+1)) ⟨g,p*2,none⟩ (n+1-p) (a-p) b.toArray 103 f (n-p) underlying29 gc l (by simp only[KL];split<;>omega) q s (by rw[q];simp;omega) t;rw[this,o]
 have A:Hid (∀W:Nb,W.heap[g]?=some (.cells e.toArray 103 (0,0))->W.heap[c]?=some (.cells #[Mz h,Mz i] 103 (0,0))->∀k,(Builtin.copy_ #[29,29] k #[.slice (Mw g (p*2)) (n+1-p) (a-p),.slice (Mw c 0) 1 1]).run prog W=.ok (goInt 1) (W.setRow g (ZR b n p h i).toArray)):=λW E D k=>by
  have:=jj (P:=prog) W 29 29 k 103 2 g (p*2) (n+1-p) (a-p) ⟨c,0,none⟩ 1 1 e.toArray 103 [Mz h,Mz i] 1 underlying29 gc E (by simp only[KL];split<;>omega) rfl (λj v d=>by rw[GX,BG];exact YN (cur:=[Mz h,Mz i]) D d) τ (XM _ _);rw[this,<-x];simp
 have k:=Z l;have v:=Z hv;clear s m o q C x t y l hv;go_enter func270,ntmps270;go_wp2_with (simp only[B]);refine AN (S:=λr=>True) κ (trivial) (λd=>?_);refine TY 0 (.slice (Mw g 0) (n+1) a) rfl d (TY 1 (.int .i64 (p:Int)) rfl d (TY 2 (.int .i64 1) rfl d (TY 3 (.int .i64 ((p:Int)+1)) rfl d (TY 4 (.slice (Mw g ((p+1)*2)) (n+1-(p+1)) (a-(p+1))) rfl d (TY 5 (.slice (Mw g 0) (n+1) a) rfl d (TY 6 (.int .i64 (p:Int)) rfl d (TY 7 (.slice (Mw g (p*2)) (n+1-p) (a-p)) rfl d ?_)))))));simp only[PS];refine RD 8 rfl (λK j=>?_);refine step_copy_runI rfl _ _ 29 29 rfl (.slice (Mw g ((p+1)*2)) (n+1-(p+1)) (a-(p+1))) (.slice (Mw g (p*2)) (n+1-p) (a-p)) (by simp[Act.eval,Act.put]) (by simp[Act.eval,Act.put]) (z.l _) ?_;refine j.l _ _ (trivial) (λm=>?_);clear j K
 try simp only[PS]
 refine DN ?_;have j:=IT w.drew g b.toArray e.toArray 103 (0,0) k.l;have o:(w.drew.setRow g e.toArray).heap[c]?=some (.cells #[Mz h,Mz i] 103 (0,0)):=(LB w.drew g c _ u).j v.l;have q:=A.l _ j o;clear d m;go_wp2_with fail;go_ret;exact⟨rfl,tR (qZ (kj w.drew g _)) (kj _ g _),IT _ g _ _ 103 (0,0) j⟩
theorem Md(n:Nat):(Builtin.zeroCells (Value.agg #[Mz empty,Mz empty]).cells n).size=n*2:=by simp[Builtin.zeroCells,Value.cells]
theorem Hn(g n p m:Nat)(k l:Y)(a:List Nc)(w:Nb)(u:w.heap[g]?=some (.cells a.toArray 103 (0,0)))(hv:w.heap[m]?=some (.cells #[Mz k,Mz l] 103 (0,0)))(hl:a.length=n*2)(hc:n<=100000)(hp:p<n)(P:∀v∈a.take (n*2),v.oneCell'=true):Calls prog 270 #[.slice (Mw g 0) n n,.int .i64 (p:Int),.slice (Mw m 0) 1 1] w λe x=>∃(G:Nat) (o:List Nc),e=M3 (.slice (Mw w.heap.size 0) (n+1) G)/\n+1<=G/\G<=maxLen/\o.length=G*2/\o.take ((n+1)*2)=a.take (p*2)++[Mz k,Mz l]++a.drop (p*2)/\Below w.heap.size w x/\w.heap.size<x.heap.size /\
   x.heap[w.heap.size]?=some (.cells o.toArray 103 (0,0)):=by
 obtain⟨Q,K,N,O,B⟩:=WT ec;have V:g<w.heap.size:=(AW.1 u).1;have W:m<w.heap.size:=(AW.1 hv).1;have cN:¬((p:Int)=(n:Int)):=ω
 have cA:(0:Int)<=(p:Int):=ω
 have cB:(p:Int)<=(n:Int):=ω
 have cC:(p:Int)<=(n:Int)+1:=ω
 have cE:(p:Int)+1<=(n:Int)+1:=ω
 have cF:(0:Int)<=(p:Int)+1:=ω
 have cH:(n:Int)<(n:Int)+1:=ω
 have cI:¬(n=p):=ω
 have cL:((p:Int)+1).toNat=p+1:=ω
 have cM:IntKind.i64.wrap ((p:Int)+1)=(p:Int)+1:=by simp[IntKind.wrap,IntKind.bits,IntKind.signed];omega
 have s:(n:Int)+1-(p:Int)=((n+1-p:Nat):Int):=ω
 have e:p+(n+1-p)=n+1:=ω
 have r:(Builtin.firstCells Q.size p (.slice (Mw g 0) p n)).run prog w.drew=.ok (a.take (p*2)).toArray w.drew:=by
  rw[O]
  exact GI w.drew 2 p ⟨g,0,none⟩ p n (a.take (p*2)) (by rw[AP];omega) (λj v i=>by
   rw[GX,BG];rw[FY]at i
   split at i
   ·exact YN (w:=w.drew) (cur:=a) u i
   ·cases i)
 obtain⟨G,c⟩:∃G,G=grownCap w (n+1) n 103:=⟨_,rfl⟩;have T:n+1<=G:=by rw[c];exact JG w _ _ _
 have H:G<=maxLen:=by rw[c];exact IG w (n+1) n _ (by unfold maxLen;omega)
 obtain⟨d,b⟩:∃d:List Nc,d=a.take (p*2)++(Builtin.zeroCells (Value.agg #[Mz empty,Mz empty]).cells (n+1-p)).toList++(Builtin.zeroCells (Value.agg #[Mz empty,Mz empty]).cells (G-(n+1))).toList:=⟨_,rfl⟩;have q:d.toArray=(a.take (p*2)).toArray++Builtin.zeroCells (Value.agg #[Mz empty,Mz empty]).cells (n+1-p)++Builtin.zeroCells (Value.agg #[Mz empty,Mz empty]).cells (G-(n+1)):=by rw[b];apply JB;simp
 have U:d.length=G*2:=by rw[b];simp only[AF,AP,Array.length_toList,Md];omega
 have I:d.take (p*2)=a.take (p*2):=by rw[b,BT];exact EQ (by rw[AP];omega)
 have L:∀f,(Builtin.append_ #[29,3] f #[.slice (Mw g 0) p n,.int .i64 ((n:Int)+1-(p:Int))]).run prog w=.ok (.slice (Mw w.heap.size 0) (n+1) G) (w.drew.alloc (.cells d.toArray 103)):=λf=>by
  have h:=Lib.run_append_grow_zeros (P:=prog) w 29 3 f 103 Q _ .i64 .i64 underlying29 underlying3 K N (Mw g 0) p n (a.take (p*2)) r (n+1-p) ω ω ω ω (by rw[B];omega) (by rw[B,e];exact growslice_fits ω ω);rw[e,<-c]at h;rw[s,h,q]
 have bR:G<=9223372036854775807:=H;have X:¬(G=p):=ω
 have bT:¬(G=p+1):=ω
 clear s e r b q c;obtain⟨b,c⟩:∃b,b=w.drew.alloc (.cells d.toArray 103):=⟨_,rfl⟩;rw[<-c]at L;have r:Below w.heap.size w b:=by rw[c];exact(AB _ _).drew.alloc (AA _) _
 have M:b.heap.size=w.heap.size+1:=by rw[c];rw[BD];rfl
 have z:b.heap[w.heap.size]?=some (.cells d.toArray 103 (0,0)):=by rw[c];exact AU w.drew _
 have J:b.heap[m]?=some (.cells #[Mz k,Mz l] 103 (0,0)):=(r.block m W).j hv;have E:b.heap[g]?=some (.cells a.toArray 103 (0,0)):=(r.block g V).j u;clear c;obtain⟨e,s⟩:∃e,e=d.take (p*2)++[Mz k,Mz l]++d.drop (p*2+2):=⟨_,rfl⟩;have y:e.length=G*2:=by rw[s];simp only[AF,AP,CU,CY,AR];omega
 have D:∀f,(Builtin.copy_ #[29,29] f #[.slice (Mw w.heap.size (p*2)) (n+1-p) (G-p),.slice (Mw m 0) 1 1]).run prog b=.ok (goInt 1) (b.setRow w.heap.size e.toArray):=λf=>by
  have:=jj (P:=prog) b 29 29 f 103 2 w.heap.size (p*2) (n+1-p) (G-p) ⟨m,0,none⟩ 1 1 d.toArray 103 [Mz k,Mz l] 1 underlying29 gc z (by simp only[KL];split<;>omega) rfl (λj v i=>by rw[GX,BG];exact YN (cur:=[Mz k,Mz l]) J i) τ (XM _ _);rw[this,s];simp
 obtain⟨c,h⟩:∃c,c=b.setRow w.heap.size e.toArray:=⟨_,rfl⟩;rw[<-h]at D;have A:c.heap[w.heap.size]?=some (.cells e.toArray 103 (0,0)):=by rw[h];exact IT b w.heap.size _ _ 103 (0,0) z
 have F:c.heap[g]?=some (.cells a.toArray 103 (0,0)):=by rw[h];exact(LB b w.heap.size g _ ω).j E
 have C:Below w.heap.size w c:=by rw[h];exact below_setRow r (AA _) _
 have cJ:c.heap.size=w.heap.size+1:=by rw[h];simpa[World.setRow] using M
 clear h;have q:(a.drop (p*2)).length=(n-p)*2:=by rw[CU];omega
 obtain⟨h,t⟩:∃h,h=e.take ((p+1)*2)++a.drop (p*2)++e.drop ((p+1)*2+(n-p)*2):=⟨_,rfl⟩
 have R:Hid (∀f,(Builtin.copy_ #[29,29] f #[.slice (Mw w.heap.size ((p+1)*2)) (n+1-(p+1)) (G-(p+1)),.slice (Mw g (p*2)) (n-p) (n-p)]).run prog c.drew=.ok (goInt ((n-p:Nat):Int)) (c.drew.setRow w.heap.size h.toArray)):=λf=>by
  have:=jj (P:=prog) c.drew 29 29 f 103 2 w.heap.size ((p+1)*2) (n+1-(p+1)) (G-(p+1)) ⟨g,p*2,none⟩ (n-p) (n-p) e.toArray 103 (a.drop (p*2)) (n-p) underlying29 gc A (by simp only[KL];split<;>omega) q (λj v i=>by rw[GX];rw[FQ]at i;exact YN (w:=c.drew) (cur:=a) F i) (by rw[q];simp;omega) (λv hv=>P v (by rw[AQ ω];exact FE hv));rw[this,t,q]
 have f:h.length=G*2/\h.take ((n+1)*2)=a.take (p*2)++[Mz k,Mz l]++a.drop (p*2):=by
  have j:e.take ((p+1)*2)=a.take (p*2)++[Mz k,Mz l]:=by
   rw[s,I];exact EQ τ
  have i:(e.take ((p+1)*2)++a.drop (p*2)).length=(n+1)*2:=by rw[AF,q,AP,y];omega
  refine⟨by rw[t,AF,i,CU,y];omega,?_⟩;rw[t,EQ i,j]
 have i:=Z f;have S:=Z A;have v:=Z C;clear K N O B U I s y z J E A F r C M q t f u hv P;go_enter func270,ntmps270
 go_wp2_with (first
  | (at_builtin;refine Lib.wpList_append_run _ rfl _ _ _ _ rfl _ _ rfl rfl _ _ (L _) ?_)
  | (at_builtin;refine wpList_copy_runI _ rfl _ _ 29 29 rfl _ _ rfl rfl (D _) ?_))
 refine AN (S:=λx=>True) κ (trivial) (λf=>?_);refine TY 0 (.slice (Mw w.heap.size 0) (n+1) G) rfl f (TY 1 (.int .i64 (p:Int)) rfl f (TY 2 (.int .i64 1) rfl f (TY 3 (.int .i64 ((p:Int)+1)) rfl f (TY 4 (.slice (Mw w.heap.size ((p+1)*2)) (n+1-(p+1)) (G-(p+1))) rfl f (TY 5 (.slice (Mw g 0) n n) rfl f (TY 6 (.int .i64 (p:Int)) rfl f (TY 7 (.slice (Mw g (p*2)) (n-p) (n-p)) rfl f ?_)))))));simp only[PS];refine RD 8 rfl (λK j=>?_);refine step_copy_runI rfl _ _ 29 29 rfl (.slice (Mw w.heap.size ((p+1)*2)) (n+1-(p+1)) (G-(p+1))) (.slice (Mw g (p*2)) (n-p) (n-p)) (by simp[Act.eval,Act.put]) (by simp[Act.eval,Act.put]) (R.l _) ?_;refine j.l _ _ (trivial) (λq=>?_);clear j K
 try simp only[PS]
 refine DN ?_;go_wp2_with fail;go_ret;exact⟨G,h,rfl,T,H,i.l.1,i.l.2,(below_setRow (v.l.drew) (AA _) _),by have:(c.drew.setRow w.heap.size h.toArray).heap.size=c.heap.size:=(by simp[World.setRow]);omega,IT c.drew _ _ _ 103 (0,0) S.l⟩
end
section
open Tryz
open Go.RowKit Go.Lib
variable {cur:List Nc}{base n p:Nat}{w:Nb}
theorem WI(l:List Pr):(MC l).length=l.length*2:=XG l
theorem lm{a r:List Pr}(h:cur.take (n*2)=MC (a++r))(c:a.length=p)(e:n=p+r.length)(d:n*2<=cur.length):cur.take (p*2)=MC a/\(cur.drop (p*2)).take ((n-p)*2)=MC r:=by
 rw[VK]at h;have b:(MC a).length=p*2:=by rw[WI,c]
 constructor
 ·have:(cur.take (n*2)).take (p*2)=cur.take (p*2):=by rw[GU,show min (p*2) (n*2)=p*2 by omega]
  rw[<-this,h,EQ b]
 have:(cur.drop (p*2)).take ((n-p)*2)=(cur.take (n*2)).drop (p*2):=by rw[FV];congr 1;omega
 rw[this,h,FJ b]
theorem Ki{a r:List Pr}{s0 s1:Y}(h:cur.take (n*2)=MC (a++r))(f:a.length=p)(d:n=p+r.length)(g:n*2+2<=cur.length):(ZR cur n p s0 s1).take ((n+1)*2)=MC (a++[(s0,s1)]++r)/\(ZR cur n p s0 s1).length=cur.length:=by
 obtain⟨b,c⟩:=lm h f d ω;unfold ZR;rw[b,c];have e:(MC a++[Mz s0,Mz s1]++MC r).length=(n+1)*2:=by simp only[AF,WI,CY,AR];omega
 refine⟨?_,by rw[AF,e,CU];omega⟩;rw[EQ e,VK,VK];rfl
theorem zJ{a r:List Pr}{x:Pr}(h:cur.take (n*2)=MC (a++[x]++r))(c:a.length=p)(g:n=p+1+r.length)(b:n*2<=cur.length):(ak cur n p).take ((n-1)*2)=MC (a++r)/\(ak cur n p).length=cur.length:=by
 obtain⟨d,_⟩:=lm (a:=a) (r:=[x]++r) (by rw[h,BT]) c τ b;obtain⟨_,f⟩:=lm (a:=a++[x]) (r:=r) (p:=p+1) h (by simp[c]) g b;unfold ak;rw[d,show p*2+2=(p+1)*2 by omega,show n-p-1=n-(p+1) by omega,f];have e:(MC a++MC r).length=(n-1)*2:=by simp only[AF,WI];omega
 refine⟨?_,by simp only[AF,WI,CY,AR,CU];omega⟩;rw[BT,EQ e,VK]
theorem J8{a r:List Pr}{k v b:Y}(h:cur.take (n*2)=MC (a++[(k,v)]++r))(c:a.length=p)(d:n=p+1+r.length):(cur.set (p*2+1) (Mz b)).take (n*2)=MC (a++[(k,b)]++r):=by
 rw[List.take_set,h,VK,VK,VK,VK,BT,BT,JM _ _ (by rw[WI];omega),WI,c,show p*2+1-p*2=1 by omega];rfl
theorem vo{v:Nc}{b:List Pr}(h:w.ownsRow base 103 2 v b.length (MC b))(m:0<b.length):∃g a cur,v=.slice (Mw g 0) b.length a/\base<=g/\w.heap[g]?=some (.cells (List.toArray cur) 103 (0,0))/\b.length<=a/\a<=maxLen/\cur.length=a*2/\cur.take (b.length*2)=MC b:=by
 rcases h.2 with ⟨_,e⟩|⟨g,a,cur,c,d,f,i,j,k,l⟩
 ·omega
 exact⟨g,a,cur.toList,c,d,by simpa using f,i,j,by simpa using k,l⟩
theorem jz{g a:Nat}{b:List Pr}(c:base<=g)(e:w.heap[g]?=some (.cells cur.toArray 103 (0,0)))(h:n<=a)(d:a<=maxLen)(f:cur.length=a*2)(j:cur.take (n*2)=MC b)(i:b.length=n):w.ownsRow base 103 2 (.slice (Mw g 0) n a) b.length (MC b):=by
 subst i;exact⟨WI b,.inr ⟨g,a,cur.toArray,rfl,c,e,h,d,by simpa using f,by simpa using j⟩⟩
theorem my{v:Nc}{b:List Pr}(h:w.ownsRow base 103 2 v b.length (MC b)):∃a c,v=.slice a b.length c/\Prs w a b:=by
 rcases NU h with ⟨c,d⟩|⟨g,a,c,_,_,e⟩
 ·exact⟨none,0,by rw[c,d],.inl (AC d)⟩
 exact⟨_,a,c,e.prs⟩
theorem wj(l:List Pr):∀u∈MC l,u.oneCell'=true:=λu a=>by
 unfold MC at a;rw[IU]at a;obtain⟨x,_,b⟩:=a;exact XM x.1 x.2 u b
theorem xT(base:Nat)(a:M6)(c:Nat)(b:List Pr)(h:Nat)(d f:Y)(w:Nb)(own:w.ownsRow base 103 2 (.slice a b.length c) b.length (MC b))(hv:w.heap[h]?=some (.cells #[Mz d,Mz f] 103 (0,0)))(H:b.length<=1000)(m:base<=w.heap.size):Calls prog 270 #[.slice a b.length c,.int .i64 (b.length:Int),.slice (Mw h 0) 1 1] w λe k=>∃i,e=M3 i/\k.ownsRow base 103 2 i (b++[(d,f)]).length (MC (b++[(d,f)]))/\Below base w k:=by
 obtain⟨I,g,l,o,q⟩:=WT ec;have v:=Z (AH g (AH l (AH o q)));clear g l o q;have F:(0:Int)<=(b.length:Int):=ω
 have E:b.length<=c:=by
  rcases own.2 with ⟨l,r⟩|⟨g,o,cur,l,_,_,q,_⟩
  ·omega
  cases l;exact q
 have x:=Z (λj u (C:[Mz d,Mz f][j]?=some u)=>show w.cell? ((⟨h,0,none⟩:Addr).add j)=some u by rw[GX,BG];exact YN (cur:=[Mz d,Mz f]) hv C);have l:=Z own;clear own
 have z:∀(A:M6),A=a->Calls prog 270 #[.slice A b.length c,.int .i64 (b.length:Int),.slice (Mw h 0) 1 1] w λe k=>∃i,e=M3 i/\k.ownsRow base 103 2 i (b++[(d,f)]).length (MC (b++[(d,f)]))/\Below base w k:=by
  intro A B;subst B
  cases A with
  | none =>
   go_enter func270,ntmps270;go_wp2_with (at_builtin;refine QY _ rfl _ _ 29 rfl base underlying29 v.l rfl ω _ b.length _ rfl l.l ⟨h,0,none⟩ 1 1 [Mz d,Mz f] rfl rfl x.l (XM _ _) m w.heap.size rfl ?_;intro s i D g e o y;have r:=Z g;have q:=Z e;clear g e o)
   all_goals
    go_ret;exact⟨.slice (Mw s 0) (b.length+1) i,rfl,by simpa only[ut,AF,EU] using r.l,YE q.l m (λk t=>(l.l.lt k t).1)⟩
  | some G =>
   go_enter func270,ntmps270;go_wp2_with (at_builtin;refine QY _ rfl _ _ 29 rfl base underlying29 v.l rfl ω _ b.length _ rfl l.l ⟨h,0,none⟩ 1 1 [Mz d,Mz f] rfl rfl x.l (XM _ _) m w.heap.size rfl ?_;intro s i D g e o y;have r:=Z g;have q:=Z e;clear g e o)
   all_goals
    go_ret;exact⟨.slice (Mw s 0) (b.length+1) i,rfl,by simpa only[ut,AF,EU] using r.l,YE q.l m (λk t=>(l.l.lt k t).1)⟩
 exact z a rfl
theorem wD(base:Nat)(v:Nc)(b:List Pr)(d f:Y)(w:Nb)(own:w.ownsRow base 103 2 v b.length (MC b))(q:PU b)(hl:b.length<=1000)(hb:base<=w.heap.size):Calls prog 268 #[.agg #[Mz d,Mz f],v] w λe t=>∃k,e=M3 k/\t.ownsRow base 103 2 k (PX (d,f,false) b).length (MC (PX (d,f,false) b))/\PU (PX (d,f,false) b)/\Below base w t:=by
 obtain⟨a,c,rfl,V⟩:=my own
 have C:∀o,Below w.heap.size w (w.alloc o):=λo=>LO _ _
 have j:=Z (o7 a b c d _ (V.I (C (.cells #[Mz d,Mz f] 279))) ω (uH q d));go_enter func268,ntmps268;go_wp2_with fail;refine j.l.z ?_;rintro e h ⟨p,O,m,o,rfl,g⟩;have i:=(MT w #[Mz d,Mz f] 279).I g;have q0:=i.y 0;have q1:=i.y 1;have lr:=i.lt;have B:=NC own ((C _).j (g.z (C _).size));have J:Below base w h:=((C _).j (g.z (C _).size)).z hb;have bY:w.heap.size<h.heap.size:=lr;clear i j g
 by_cases H:p<b.length/\NA (OW b p) d=0
 ·obtain⟨i,r,A,l⟩:=mx q d p O m o 1 (by rw[AE H])
  have P:∃u,(b.drop p).take 1=[(d,u)]:=A.resolve_left (by intro Q;have:=CX List.length Q;rw[AP,CU,AR]at this;omega);obtain⟨u,y⟩:=P;have hF:=ei (d,f,false) (b.take p) ((b.drop p).take 1) (b.drop (p+1)) r A l;have s:=kg (d,f,false) (b.take p) ((b.drop p).take 1) (b.drop (p+1)) (by rw[<-i];exact q) r l;rw[<-i]at hF;obtain⟨g,M,cur,N,D,j,K,L,E,z⟩:=vo B ω
  cases N
  rw[AL H];have bR:(0:Int)<=(p:Int):=ω
  have T:(p:Int)<(b.length:Int):=ω
  have S:h.cell? ⟨g,p*2+1,none⟩=some (Mz u):=by
   refine YN j ?_
   have:(cur.take (b.length*2))[p*2+1]?=some (Mz u):=by
    rw[z,i,y,VK,VK,BT,DG (by rw[WI,AP];omega),WI,AP,show p*2+1-min p b.length*2=1 by rw[Nat.min_eq_left ω];omega];rfl
   rw[FY]at this
   split at this
   ·exact this
   cases this
  have R:h.frozen? ⟨g,p*2+1,none⟩=false:=by simp[World.frozen?,j]
  have G:=setCell_eq_setRow h g (p*2+1) cur.toArray 103 (0,0) (Mz f) j
  have F:(h.setCell ⟨g,p*2+1,none⟩ (Mz f)).ownsRow base 103 2 (.slice (Mw g 0) b.length c) (PX (d,f,false) b).length (MC (PX (d,f,false) b)):=by
   rw[hF];unfold WE;simp only[FH,IS];refine jz (cur:=cur.set (p*2+1) (Mz f)) D ?_ K L (by simpa using E) ?_ ?_
   ·rw[G,IT h g _ _ 103 (0,0) j];simp
   ·rw[show b.length*2=b.length*2 from rfl]
    refine J8 (k:=d) (v:=u) (by rw[z];congr 1;rw[<-y];exact i) (by rw[AP];omega) (by rw[CU];omega)
   simp only[AF,AP,CU,CY,AR];omega
  have I:=Z F;have x:Hid (PU (PX (d,f,false) b)):=by show PU _;rw[hF];exact s
  have X:g<h.heap.size:=(AW.1 j).1;clear F s hF i r A l y G j z q own B m o;go_wp2_with fail;go_ret;exact⟨_,rfl,I.l,x.l,J.setCell (p:=⟨g,p*2+1,none⟩) D _⟩
 obtain⟨i,r,A,l⟩:=mx q d p O m o 0 (by rw[AG H])
 have hF:=ei (d,f,false) (b.take p) ((b.drop p).take 0) (b.drop (p+0)) r A l;have s:=kg (d,f,false) (b.take p) ((b.drop p).take 0) (b.drop (p+0)) (by rw[<-i];exact q) r l;rw[<-i]at hF;rw[AI H];unfold WE at hF s;simp only[FH,IS,FX]at hF s i l;have y:PX (d,f,false) b=b.take p++[(d,f)]++b.drop p:=hF;have bR:(0:Int)<=(p:Int):=ω
 have F:(h.alloc (.cells #[Mz d,Mz f] 103)).heap[h.heap.size]?=some (.cells #[Mz d,Mz f] 103 (0,0)):=AU h _;have I:=B.alloc (.cells #[Mz d,Mz f] 103);have Q:Below base w (h.alloc (.cells #[Mz d,Mz f] 103)):=J.alloc ω _
 have W:Hid (Calls prog 270 #[.slice a b.length c,.int .i64 (p:Int),.slice (Mw h.heap.size 0) 1 1] (h.alloc (.cells #[Mz d,Mz f] 103)) λe t=>∃k,e=M3 k/\t.ownsRow base 103 2 k (PX (d,f,false) b).length (MC (PX (d,f,false) b))/\Below base (h.alloc (.cells #[Mz d,Mz f] 103)) t):=by
  show Calls _ _ _ _ _;rcases KE O with bU|U
  ·subst bU
   rw[CW,List.drop_length,DZ]at y;rw[y];exact xT base a c b h.heap.size d f _ I F hl τ
  obtain⟨g,M,cur,N,D,j,K,L,E,z⟩:=vo I ω
  cases N
  have P:∀u∈cur.take (b.length*2),u.oneCell'=true:=by rw[z];exact wj b
  have X:g<h.heap.size:=by have:=(B.lt g rfl).2;exact this
  have hcut:cur.take (b.length*2)=MC (b.take p++b.drop p):=by rw[FN];exact z
  have u:(b.take p).length=p:=by rw[AP];omega
  have T:b.length=p+(b.drop p).length:=by rw[CU];omega
  rcases KE K with R|S
  ·refine(Hn g b.length p h.heap.size d f cur _ j F (by rw[E,R]) ω U P).z ?_ |> (λx=>by rw[<-R];exact x)
   rintro e t ⟨G,k,rfl,m,o,h3,h4,h5,h6,h7⟩;refine⟨_,rfl,?_,h5.z τ⟩;rw[y];refine jz (cur:=k) τ h7 m o h3 ?_ (by simp only[AF,AP,CU,CY,AR];omega);rw[h4,VK,VK];obtain⟨c1,x⟩:=lm hcut u T ω;rw[c1];rw[AQ (by rw[CU];omega)]at x;rw[x];rfl
  refine(Js g b.length c p h.heap.size d f cur _ j F ω E S ω U P).z ?_
  rintro e t ⟨rfl,m,o⟩;obtain⟨G,t2⟩:=Ki (s0:=d) (s1:=f) hcut u T ω;refine⟨_,rfl,?_,YE m τ (λk x=>by cases x;exact D)⟩;rw[y];exact jz D o ω L (by rw[t2];exact E) G (by simp only[AF,AP,CU,CY,AR];omega)
 have x:Hid (PU (PX (d,f,false) b)):=by show PU _;rw[y];exact s
 have g:=Z Q;clear s hF y i r A l q own B I m o F Q J;go_wp2_with (go_at_call 270;refine W.l.z ?_;rintro e l ⟨k,rfl,j,i⟩);go_ret;exact⟨_,rfl,j,x.l,g.l.j i⟩
end
section
open Tryz
open Go.RowKit Go.Lib
theorem rQ(d:Nat)(v:Nc)(b:List Pr)(f l:Y)(w:Nb)(own:w.ownsRow d 103 2 v b.length (MC b))(i:PU b)(W:b.length<=1000)(U:d<=w.heap.size):Calls prog 259 #[.agg #[Mz f],v] w λe c=>∃a,e=M3 a/\c.ownsRow d 103 2 a (PX (f,l,true) b).length (MC (PX (f,l,true) b))/\PU (PX (f,l,true) b)/\Below d w c:=by
 obtain⟨a,c,rfl,M⟩:=my own
 have q:∀o,Below w.heap.size w (w.alloc o):=λo=>LO _ _
 have h:=Z (o7 a b c f _ (M.I (q (.cells #[Mz f] 277))) ω (uH i f));go_enter func259,ntmps259;go_wp2_with fail;refine h.l.z ?_;rintro e B ⟨p,J,t,x,rfl,g⟩;have lr:w.heap.size<B.heap.size:=AD σ g.size;have s:=NC own ((q _).j (g.z (q _).size));have E:Below d w B:=((q _).j (g.z (q _).size)).z U;clear h g
 by_cases o:p<b.length/\NA (OW b p) f=0
 ·obtain⟨j,k,m,n⟩:=mx i f p J t x 1 (by rw[AE o])
  have O:∃A,(b.drop p).take 1=[(f,A)]:=m.resolve_left (by intro T;have:=CX List.length T;rw[AP,CU,AR]at this;omega);obtain⟨A,I⟩:=O;have hF:=ei (f,l,true) (b.take p) ((b.drop p).take 1) (b.drop (p+1)) k m n;have y:=kg (f,l,true) (b.take p) ((b.drop p).take 1) (b.drop (p+1)) (by rw[<-j];exact i) k n;rw[<-j]at hF;unfold WE at hF y;simp only[IH,DZ]at hF y;obtain⟨g,R,r,S,F,G,P,Q,H,z⟩:=vo s ω
  cases S
  have D:∀u∈r.take (b.length*2),u.oneCell'=true:=by rw[z];exact wj b
  have X:IntKind.i64.wrap ((p:Int)+1)=(p:Int)+1:=by simp[IntKind.wrap,IntKind.bits,IntKind.signed];omega
  rw[AL o];have N:=Z (Ad g b.length c p r B G H P ω o.1 D);obtain⟨K,L⟩:=zJ (x:=(f,A)) (a:=b.take p) (r:=b.drop (p+1)) (n:=b.length) (p:=p) (by rw[z];congr 1;rw[<-I];exact j) (by rw[AP];omega) (by rw[CU];omega) ω;have C:=Z (AH K L);have h:=Z hF;have u:=Z y;have V:=o.1;clear hF y j k m n I G z i own s t x K L D;go_wp2_with (go_at_call 261;refine N.l.z ?_;rintro e y ⟨rfl,j,m⟩);go_ret;refine⟨_,rfl,?_,by rw[h.l];exact u.l,E.j (YE j ω (λk n=>by cases n;exact F))⟩;rw[h.l];exact jz F m ω Q (by rw[C.l.2];exact H) C.l.1 (by rw[AF,AP,CU];omega)
 obtain⟨j,k,m,n⟩:=mx i f p J t x 0 (by rw[AG o])
 have hF:=ei (f,l,true) (b.take p) ((b.drop p).take 0) (b.drop (p+0)) k m n;rw[<-j]at hF;unfold WE at hF;simp only[IH,DZ,FX,FN]at hF;rw[AI o];have h:=Z hF;have g:=Z s;have u:=Z i;clear hF j k m n i own s t x;go_wp2_with fail;go_ret;exact⟨_,rfl,by rw[h.l];exact g.l,by rw[h.l];exact u.l,E⟩
theorem oZ(j:Nat)(v a:Nc)(w:Nb):Sem.run prog (method (j+1) 279 (.agg #[v,a]) "loop.example/kilnstone/impl.apply") w=.ok (268,.agg #[v,a]) w:=κ
theorem pR(j:Nat)(v:Nc)(w:Nb):Sem.run prog (method (j+1) 277 (.agg #[v]) "loop.example/kilnstone/impl.apply") w=.ok (259,.agg #[v]) w:=κ
theorem qO(a:M6)(n c:Nat)(h:n<=100)(w:Nb):Calls prog 204 #[.slice a n c] w λe b=>(∃x,e=M3 x)/\b=w:=by
 have b:((n:Int)<=100):=ω
 go_enter func204,ntmps204;go_wp2_with fail;go_end0;exact⟨⟨_,rfl⟩,rfl⟩
theorem qA(a:M6)(n c:Nat)(h:100<n)(w:Nb):Calls prog 204 #[.slice a n c] w λe b=>e=.panicked [{ v:=.iface 271 (.int .i64 2),recovered:=false }]/\b=w:=by
 have b:((100:Int)<n):=ω
 go_enter func204,ntmps204;go_wp2_with fail;simp[bodyPost]
theorem wI(p q:Addr)(w:Nb):CallsD prog 203 #[.pointer (some p),.pointer (some q)] .returning w λe a b=>e=M3 (.tuple #[])/\a=.returning/\b=w:=by
 refine callsD_of_wpS func203 rfl λc₀ b a=>?_
 apply wpS_seq
 apply wpS_region
 simp[wpOpsS,go_sem,recoverD,a,ntmps203,Exit.thenS];refine wpS_of_wp ?_;simp only[Array.replicate,List.replicate,BZ,DL,DP,FL,EI,DW];go_wp2
 cases c₀
 simp_all [bodyPostS,results,results203]
theorem tI(p q:Addr)(a:List PanicEntry)(w:Nb)(x:Nc)(y:Int)(h:w.cell? p=some x)(i:w.cell? q=some (.int .i64 y))(f:w.frozen? p=false)(g:w.frozen? q=false)(d:p≠q):CallsD prog 203 #[.pointer (some p),.pointer (some q)] (.panicking ({ v:=.iface 271 (.int .i64 2),recovered:=false }::a)) w λe b c =>
   e=M3 (.tuple #[])/\b=.panicking ({ v:=.iface 271 (.int .i64 2),recovered:=true }::a)/\c=(w.setCell p (.slice none 0 0)).setCell q (.int .i64 2):=by
 have c:∀w,(Instr.typeAssert (.iface 271 (.int .i64 2)) 20 271 true).run prog w=.ok (.tuple #[.int .i64 2,M0 true]) w:=λw=>κ
 refine callsD_of_wpS func203 rfl λc₀ e b=>?_
 apply wpS_seq
 apply wpS_region
 simp[wpOpsS,go_sem,recoverD,b,ntmps203,Exit.thenS];refine wpS_of_wp ?_;simp only[Array.replicate,List.replicate,BZ,DL,DP,FL,EI,DW];go_wp2
 cases c₀
 simp_all [bodyPostS,results,results203]
end
section
open Tryz
open Go.RowKit
theorem Row.below3{w d:Nb}{N g:Nat}{b:List Nc}(h:Row w g b)(c:g<N)(a:Below N w d):Row d g b :=⟨AD h.lt a.size,λi v hv=>(a.cell (p:=⟨g,i,none⟩) c).j (h.cell i v hv),λi e=>(a.frozen (p:=⟨g,i,none⟩) c).j (h.froz i e)⟩
theorem yM{w:Nb}{b o:Nat}{c:List Pr}(h:Prs w (Mw b o) c):∀j u,(MC c)[j]?=some u->w.cell? ((⟨b,o,none⟩:Addr).add j)=some u:=λj u a=>by
 rw[GX];have k:j<c.length*2:=by have:=(DJ.1 a).1;rw[WI]at this;exact this
 obtain⟨l,m,n,p,e,g,i,d⟩:=h.at (k:=j / 2) ω
 cases e
 have f:=it c (j / 2) ω;rcases(show j=j / 2*2\/j=j / 2*2+1 by omega) with e|e
 ·rw[e]at a⊢
  rw[f.1,<-d.l]at a;rw[<-a];exact g
 rw[e]at a⊢
 rw[f.2,<-d.l]at a;rw[<-a,<-KQ];exact i
theorem G5(t e f:TypeId)(b:prog.underlying t=some (.slice e))(d:((prog.info? e).map (·.size)).isSome=true)(a:M6)(c:Nat)(w:Nb):(Builtin.append_ #[t,t] f #[.slice none 0 0,.slice a 0 c]).run prog w=.ok (.slice none 0 0) w:=by
 cases hq:prog.info? e with
 | none=>simp[hq]at d
 | some i =>
  cases a with
  | none=>simp[Builtin.append_,GG b,Builtin.lenOf,Builtin.firstCells,sizeOf,typeInfo,hq]
  | some g=>simp[Builtin.append_,GG b,Builtin.lenOf,Builtin.firstCells,sizeOf,typeInfo,hq,loadCells,loadCellsFrom]
structure TB(w wr:Nb)(y:Nc)(cur:List Pr):Prop where
 own:wr.ownsRow (w.heap.size+1+1+1) 103 2 y cur.length (MC cur)
 asc:PU cur
 r1:Row wr (w.heap.size+1) [.slice none 0 0]
 r2:Row wr (w.heap.size+1+1) [.int .i64 0]
 bel:Below w.heap.size w wr
theorem TB.post{w wr:Nb}{c:M6}{d:Nat}{a:List Pr}{x:Nc}(h:TB w wr (.slice c a.length d) a):YL w ((wr.setCell ⟨w.heap.size+1,0,none⟩ (.slice c a.length d)).setCell ⟨w.heap.size+1+1,0,none⟩ x) (M3 (.tuple #[.agg #[.slice c a.length d],.int .i64 0])) a 0:=by
 have i:a.length<=d:=by
  rcases h.own.2 with ⟨b,f⟩|⟨g,e,k,b,_,_,j,_⟩
  ·rw[f];omega
  cases b;exact j
 have j:OwnS wr c (MC a):=by
  rcases NU h.own with ⟨_,f⟩|⟨g,e,b,_,_,k⟩
  ·exact .inl (by rw[AC f];rfl)
  cases b;exact .inr ⟨g,rfl,k⟩
 have f:∀g,c=Mw g 0->MC a≠[]->w.heap.size+1+1<g:=λg b e=>by subst b;have:=(h.own.lt g rfl).1;omega
 refine⟨c,d,rfl,i,(j.setA _ (λg b e=>by have:=f g b e;show w.heap.size+1≠g;omega) _).setA _ (λg b e=>by have:=f g b e;show w.heap.size+1+1≠g;omega) _,λg b=>?_,(h.bel.setCell (p:=⟨w.heap.size+1,0,none⟩) (by show w.heap.size<=w.heap.size+1;omega) _).setCell (p:=⟨w.heap.size+1+1,0,none⟩) (by show w.heap.size<=w.heap.size+1+1;omega) _⟩;unfold blk at b
 split at b
 ·cases b
 cases c with
 | none=>cases b
 | some e =>
  simp at b;subst b;have:=(h.own.lt e.block rfl).1;omega
theorem By(a:M6)(g:List Pr)(c:Nat)(N:M6)(b:List Ch)(c2:Nat)(w:Nb)(h:Prs w a g)(G:MU g=true)(u:Chs w N b)(H:PA b=true):Calls prog 165 #[MH a g.length c,.slice N b.length c2] w λe d=>YL w d e (PQ g b) (PO g b):=by
 obtain⟨i0,d,f,i,j⟩:=WT ec;have E:=Z (AH d (AH f (AH i j)));clear d f i j;have cT:g.length<=100:=(ZH G).1;have cM:b.length<=20:=(WR H).1.2;have i:=wG G;have Q:=Z (qj g b);unfold MH;unfold PQ PO;rw[G,H];simp only[Bool.and_self,IH]
 have cU:∀(U:Fn) (first C:Array Nc) (w:Nb),(Instr.makeFunc U first C).run prog w=.ok (.func U first C) w:=λ_ _ _ _=>rfl
 obtain⟨s,t⟩:∃s,s=((w.alloc (.cells #[.slice a g.length c] 31)).alloc (.cells #[.slice none 0 0] 31)).alloc (.cells #[.int .i64 0] 3):=⟨_,rfl⟩;have cS:s.heap.size=w.heap.size+1+1+1:=by rw[t];simp
 have d:Below w.heap.size w s:=by rw[t];exact((LO _ _).alloc σ _).alloc ξ _
 have f:Row s w.heap.size [.slice a g.length c]:=by rw[t];exact((MT w _ _).alloc _).alloc _
 have j:Row s (w.heap.size+1) [.slice none 0 0]:=by rw[t];exact(em (w:=w.alloc _) σ).alloc _
 have k:Row s (w.heap.size+1+1) [.int .i64 0]:=by rw[t];exact em (w:=(w.alloc _).alloc _) σ
 have X:=f.y 0;have W:=f.lt;have S:=Z j;have T:=Z k;have P:=Z d;have R:=Z (h.I d);have O:=Z i;clear f j k d i G H
 by_cases V:g.length=0
 case pos =>
  obtain rfl:=AC V;have F:Hid (TB w s (.slice none 0 0) []):=⟨DA _ _ _ _,O.l,S.l,T.l,P.l⟩;go_enter_defers func165,ntmps165;go_wp2_with (at_builtin;refine Lib.wpList_append_run _ rfl _ _ 29 29 rfl _ _ rfl rfl _ _ (G5 _ 103 _ underlying29 κ a c _) ?_);simp only[AR]at t;rw[<-t];clear t X W;go_wp2_with fail;go_loopw [6,15] (λy i wr=>∃k:Nat,k<=b.length/\i=.int .i64 (k:Int)/\TB w wr y (NB [] (b.take k))) (λ_ i _=>b.length-(intOf i).toNat)
  case atStart =>
   exact⟨0,AM _,rfl,F.l⟩
  case round =>
   obtain⟨k,K,rfl,f⟩:=hrel;have J:=Q.l k;have cQ:w.heap.size+1<wr.heap.size:=f.r1.lt;have bI:w.heap.size+1+1<wr.heap.size:=f.r2.lt
   by_cases A:k<b.length
   ·obtain⟨I,oo,o,p,D,rfl,cH,cI,cJ,j⟩:=(u.I f.bel).at A
    have bG:I<w.heap.size:=by
     rcases u with h|⟨l,m,d,u,_⟩
     ·subst h;simp at A
     cases d;exact u
    have bH:(k:Int)<(b.length:Int):=ω
    have cL:(0:Int)<=(k:Int):=ω
    have n:NB [] (b.take (k+1))=PX (o,p,D) (NB [] (b.take k)):=by rw[lj b k (empty,empty,false) A,cq,<-j.l]
    have x:=Z n;obtain⟨l,m⟩:∃l,l=NB [] (b.take k):=⟨_,rfl⟩;rw[<-m]at f x J;have d:=Z f;clear n m j f;have aT:=oZ;have aU:=pR
    cases D with
    | false =>
     go_wp2_with (first|(go_at_call 166;refine(qw o p _).z ?_;rintro e r ⟨rfl,q⟩;have j:=((AB wr.heap.size wr).alloc (AA _) (.cells #[Mz o,Mz p,M0 false] 171)).j (q.z σ);have v:=Z (wD (w.heap.size+1+1+1) _ l o p r (NC d.l.own j) d.l.asc ω (by have:=j.size;omega));have m:=Z j;clear q j)|(go_at_call 268;refine v.l.z ?_;rintro e M ⟨L,rfl,B,z,n⟩))
     refine⟨⟨k+1,ω,ν,?_⟩,by simp[intOf];omega⟩;rw[x.l];exact⟨B,z,(d.l.r1.I m.l).below3 ω n,(d.l.r2.I m.l).below3 ω n,d.l.bel.j ((m.l.z d.l.bel.size).j (n.z ω))⟩
    | true =>
     go_wp2_with (first|(go_at_call 166;refine(tg o p _).z ?_;rintro e r ⟨rfl,q⟩;have j:=((AB wr.heap.size wr).alloc (AA _) (.cells #[Mz o,Mz p,M0 true] 171)).j (q.z σ);have v:=Z (rQ (w.heap.size+1+1+1) _ l o p r (NC d.l.own j) d.l.asc ω (by have:=j.size;omega));have m:=Z j;clear q j)|(go_at_call 259;refine v.l.z ?_;rintro e M ⟨L,rfl,B,z,n⟩))
     refine⟨⟨k+1,ω,ν,?_⟩,by simp[intOf];omega⟩;rw[x.l];exact⟨B,z,(d.l.r1.I m.l).below3 ω n,(d.l.r2.I m.l).below3 ω n,d.l.bel.j ((m.l.z d.l.bel.size).j (n.z ω))⟩
   have m:k=b.length:=ω
   subst m;rw[CW]at f;obtain⟨v,z,rfl,n⟩:=my f.own;have j:=f.r1.y 0;have o:=f.r1.A 0;have l:=f.r2.y 0;have p:=f.r2.A 0;have d:=Z f;clear f n
   by_cases f:(NB [] b).length<=100
   focus
    go_wp2_with (go_at_call 204;refine(qO _ _ _ f _).z ?_;rintro e r ⟨⟨x,rfl⟩,rfl⟩)
   rotate_left
   focus
    go_wp2_with (go_at_call 204;refine(qA _ _ _ ω _).z ?_;rintro e r ⟨rfl,rfl⟩)
   rotate_left
   all_goals
    refine leaves_cons (f:=203) (args:=#[Mv (w.heap.size+1) 0,Mv (w.heap.size+1+1) 0]) σ (by simp[go_sem]) ?_
   ·refine(wI _ _ _).z ?_
    rintro e q n ⟨rfl,rfl,rfl⟩;simp[Leaves,settle,results,results165,go_sem,j,l];exact d.l.post
   refine(tI _ _ [] _ _ _ j l o p σ).z ?_
   rintro e q n ⟨rfl,rfl,rfl⟩;simp[Leaves,settle,results,results165,go_sem,j,l];exact az rfl ((d.l.bel.setCell (p:=⟨w.heap.size+1,0,none⟩) (by show w.heap.size<=w.heap.size+1;omega) _).setCell (p:=⟨w.heap.size+1+1,0,none⟩) (by show w.heap.size<=w.heap.size+1+1;omega) _)
 case neg =>
  have cP:=R.l;rcases cP with h0|⟨ab,ao,rfl,o,n⟩
  ·exact absurd (by rw[h0];rfl) V
  have l:=Z (yM R.l);have cO:0<g.length:=ω
  go_enter_defers func165,ntmps165;go_wp2_with (at_builtin;rw[<-t];refine wpList_append_lies _ rfl _ _ 29 rfl (w.heap.size+1+1+1) 103 i0 (.agg #[Mz empty,Mz empty]) 2 32 underlying29 E.l.1 E.l.2.1 E.l.2.2.1 E.l.2.2.2 rfl ω _ 0 [] rfl (DA _ _ _ _) ⟨ab,ao,none⟩ g.length c (MC g) rfl (WI g) l.l (wj g) cO (by unfold maxLen;omega) ω ω s.heap.size rfl ?_;intro g9 aY w9 f j m cN;have d:Below s.heap.size s w9:=YE j (AA _) (λk K=>by cases K);have F:Hid (TB w w9 (.slice (Mw g9 0) (0+g.length) aY) g):=Z (by rw[BG]at f;exact⟨by rw[BG];simpa using f,O.l,S.l.I d,T.l.I d,P.l.j (d.z ω)⟩);clear f j m d);clear t X W o n l;go_wp2_with fail;go_loopw [6,15] (λy i wr=>∃k:Nat,k<=b.length/\i=.int .i64 (k:Int)/\TB w wr y (NB g (b.take k))) (λ_ i _=>b.length-(intOf i).toNat)
  case atStart =>
   exact⟨0,AM _,rfl,by rw[BG]at F;exact F.l⟩
  case round =>
   obtain⟨k,K,rfl,f⟩:=hrel;have J:=Q.l k;have cQ:w.heap.size+1<wr.heap.size:=f.r1.lt;have bI:w.heap.size+1+1<wr.heap.size:=f.r2.lt
   by_cases A:k<b.length
   ·obtain⟨I,oo,o,p,D,rfl,cH,cI,cJ,j⟩:=(u.I f.bel).at A
    have bG:I<w.heap.size:=by
     rcases u with h|⟨l,m,d,u,_⟩
     ·subst h;simp at A
     cases d;exact u
    have bH:(k:Int)<(b.length:Int):=ω
    have cL:(0:Int)<=(k:Int):=ω
    have n:NB g (b.take (k+1))=PX (o,p,D) (NB g (b.take k)):=by rw[lj b k (empty,empty,false) A,cq,<-j.l]
    have x:=Z n;obtain⟨l,m⟩:∃l,l=NB g (b.take k):=⟨_,rfl⟩;rw[<-m]at f x J;have d:=Z f;clear n m j f;have aT:=oZ;have aU:=pR
    cases D with
    | false =>
     go_wp2_with (first|(go_at_call 166;refine(qw o p _).z ?_;rintro e r ⟨rfl,q⟩;have j:=((AB wr.heap.size wr).alloc (AA _) (.cells #[Mz o,Mz p,M0 false] 171)).j (q.z σ);have v:=Z (wD (w.heap.size+1+1+1) _ l o p r (NC d.l.own j) d.l.asc ω (by have:=j.size;omega));have m:=Z j;clear q j)|(go_at_call 268;refine v.l.z ?_;rintro e M ⟨L,rfl,B,z,n⟩))
     refine⟨⟨k+1,ω,ν,?_⟩,by simp[intOf];omega⟩;rw[x.l];exact⟨B,z,(d.l.r1.I m.l).below3 ω n,(d.l.r2.I m.l).below3 ω n,d.l.bel.j ((m.l.z d.l.bel.size).j (n.z ω))⟩
    | true =>
     go_wp2_with (first|(go_at_call 166;refine(tg o p _).z ?_;rintro e r ⟨rfl,q⟩;have j:=((AB wr.heap.size wr).alloc (AA _) (.cells #[Mz o,Mz p,M0 true] 171)).j (q.z σ);have v:=Z (rQ (w.heap.size+1+1+1) _ l o p r (NC d.l.own j) d.l.asc ω (by have:=j.size;omega));have m:=Z j;clear q j)|(go_at_call 259;refine v.l.z ?_;rintro e M ⟨L,rfl,B,z,n⟩))
     refine⟨⟨k+1,ω,ν,?_⟩,by simp[intOf];omega⟩;rw[x.l];exact⟨B,z,(d.l.r1.I m.l).below3 ω n,(d.l.r2.I m.l).below3 ω n,d.l.bel.j ((m.l.z d.l.bel.size).j (n.z ω))⟩
   have m:k=b.length:=ω
   subst m;rw[CW]at f;obtain⟨v,z,rfl,n⟩:=my f.own;have j:=f.r1.y 0;have o:=f.r1.A 0;have l:=f.r2.y 0;have p:=f.r2.A 0;have d:=Z f;clear f n
   by_cases f:(NB g b).length<=100
   focus
    go_wp2_with (go_at_call 204;refine(qO _ _ _ f _).z ?_;rintro e r ⟨⟨x,rfl⟩,rfl⟩)
   rotate_left
   focus
    go_wp2_with (go_at_call 204;refine(qA _ _ _ ω _).z ?_;rintro e r ⟨rfl,rfl⟩)
   rotate_left
   all_goals
    refine leaves_cons (f:=203) (args:=#[Mv (w.heap.size+1) 0,Mv (w.heap.size+1+1) 0]) σ (by simp[go_sem]) ?_
   ·refine(wI _ _ _).z ?_
    rintro e q n ⟨rfl,rfl,rfl⟩;simp[Leaves,settle,results,results165,go_sem,j,l];exact d.l.post
   refine(tI _ _ [] _ _ _ j l o p σ).z ?_
   rintro e q n ⟨rfl,rfl,rfl⟩;simp[Leaves,settle,results,results165,go_sem,j,l];exact az rfl ((d.l.bel.setCell (p:=⟨w.heap.size+1,0,none⟩) (by show w.heap.size<=w.heap.size+1;omega) _).setCell (p:=⟨w.heap.size+1+1,0,none⟩) (by show w.heap.size<=w.heap.size+1+1;omega) _)
theorem pX(a:M6)(f:List Pr)(c:Nat)(s:M6)(b:List Ch)(y:Nat)(w:Nb)(h:Prs w a f)(O:f.length<=1048576)(P:∀x∈f,x.1.size<=1048576/\x.2.size<=1048576)(A:Chs w s b)(M:b.length<=1048576)(N:∀x∈b,x.1.size<=1048576/\x.2.1.size<=1048576):Calls prog 114 #[MH a f.length c,.slice s b.length y] w λe d=>YL w d e (PQ f b) (PO f b):=by
 have o:=Z (λd i=>mu a f c d i O P);have v:=Z (λd i=>db s b y d i M N);have u:=Z (λd i g j k=>By a f c s b y d i g j k)
 have i:∀d j,Below w.heap.size w ((w.alloc d).alloc j):=λd j=>(LO _ _).alloc σ _
 obtain⟨R,n⟩:∃R,R=PQ f b:=⟨_,rfl⟩;obtain⟨C,j⟩:∃C,C=PO f b:=⟨_,rfl⟩;rw[<-n,<-j]at u⊢;unfold YL at u;unfold MH at u⊢
 cases g:MU f with
 | false =>
  have p:C=1:=by rw[j];unfold PO;rw[g];rfl
  have z:R=[]:=by rw[n];unfold PQ;rw[<-j,p];rfl
  subst z p;rw[g]at o;clear n j;go_enter func114,ntmps114;go_wp2_with (go_at_call 112;refine(o.l _ (h.I (i _ _))).z ?_;rintro e r ⟨rfl,d⟩;have q:r.cell? ⟨w.heap.size+1,0,none⟩=some (.slice none 0 0):=OK d γ σ;have F:r.frozen? ⟨w.heap.size+1,0,none⟩=false:=TF d γ σ;have G:w.heap.size+1<r.heap.size:=AD σ d.size);refine AJ (v:=.tuple #[MH none 0 0,.int .i64 1]) (by simp[results,results114,go_sem,MH,q]) rfl (az rfl ?_);exact((i _ _).j (d.z τ)).setCell (p:=⟨w.heap.size+1,0,none⟩) (by show w.heap.size<=w.heap.size+1;omega) _
 | true =>
  rw[g]at o
  cases k:PA b with
  | false =>
   have p:C=1:=by rw[j];unfold PO;rw[g,k];rfl
   have z:R=[]:=by rw[n];unfold PQ;rw[<-j,p];rfl
   subst z p;rw[k]at v;clear n j;go_enter func114,ntmps114
   go_wp2_with (first|(go_at_call 112;refine(o.l _ (h.I (i _ _))).z ?_;rintro e r ⟨rfl,d⟩;have m:=Z d;clear d)|(go_at_call 113;refine(v.l _ (A.I ((i _ _).j (m.l.z τ)))).z ?_;rintro e l ⟨rfl,x⟩;have d:=m.l;have t:=d.j (x.z d.size);have q:l.cell? ⟨w.heap.size+1,0,none⟩=some (.slice none 0 0):=OK t γ σ;have F:l.frozen? ⟨w.heap.size+1,0,none⟩=false:=TF t γ σ;have G:w.heap.size+1<l.heap.size:=AD σ t.size))
   refine AJ (v:=.tuple #[MH none 0 0,.int .i64 1]) (by simp[results,results114,go_sem,MH,q]) rfl (az rfl ?_);exact((i _ _).j (t.z τ)).setCell (p:=⟨w.heap.size+1,0,none⟩) (by show w.heap.size<=w.heap.size+1;omega) _
  | true =>
   rw[k]at v;clear n j;have K:=Z g;have H:=Z k;clear g k;go_enter func114,ntmps114
   go_wp2_with (first|(go_at_call 112;refine(o.l _ (h.I (i _ _))).z ?_;rintro e r ⟨rfl,d⟩;have m:=Z d;clear d)|(go_at_call 113;refine(v.l _ (A.I ((i _ _).j (m.l.z τ)))).z ?_;rintro e l ⟨rfl,x⟩;have j:=Z (m.l.j (x.z m.l.size));clear x;have S:l.cell? ⟨w.heap.size,0,none⟩=some (.slice a f.length c):=OK j.l γ τ)|(go_at_call 165;have g:Below w.heap.size w l:=(i _ _).j (j.l.z τ);refine(u.l _ (h.I g) K.l (A.I g) H.l).z ?_;rintro e p ⟨t,E,rfl,L,D,B,n⟩;have k:=j.l.j (n.z j.l.size);have q:p.cell? ⟨w.heap.size+1,0,none⟩=some (.slice none 0 0):=OK k γ σ;have F:p.frozen? ⟨w.heap.size+1,0,none⟩=false:=TF k γ σ;have G:w.heap.size+1<p.heap.size:=AD σ k.size;have Q:w.heap.size+1<l.heap.size:=AD σ j.l.size;have J:=Z D;have z:=Z B;have I:=Z (g.j (n.z g.size));clear D B n k g))
   refine AJ (v:=.tuple #[MH t R.length E,.int .i64 C]) (by simp[results,results114,go_sem,MH,q]) rfl ⟨t,E,rfl,L,?_,λg d=>by have:=z.l g d;omega,?_⟩
   ·exact J.l.setA _ (λg d k=>by have:=z.l g (by subst d;exact NT _ _ _ (se k));show w.heap.size+1≠g;omega) _
   exact I.l.setCell (p:=⟨w.heap.size+1,0,none⟩) (by show w.heap.size<=w.heap.size+1;omega) _
theorem Ld(a:M6)(d:List Y)(c:Nat)(w:Nb)(h:Strs w a d)(hl:d.length<=1000)(hs:∀e∈d,e.size<=1048576):Calls prog 99 #[.slice a d.length c] w λe b=>oh w b e (NX d []):=by
 obtain⟨r,T⟩:∃r,Hid (r=NX d []):=⟨_,Z rfl⟩;rw[<-T.l];have HH:=Z h;have HS:=Z hs;clear h hs;go_enter func99,ntmps99;go_wp2;go_loopw [13] (λb wr=>∃(i:Nat) (f:List Pr) (A:M6) (B:Nat) (W:Nb),W=wr/\b=.int .i64 (i:Int)/\i<=d.length/\MU f=true/\Hid (NX (d.drop i) f=r)/\FdB w W f A B) (λb _=>((d.length:Int)-intOf b).toNat)
 case atStart =>
  exact⟨0,[],none,0,_,rfl,rfl,AM _,UG,by show _=_;rw[T.l];rfl,FdB.new w⟩
 case round =>
  obtain⟨i,f,A,B,wr,rfl,rfl,hi,g,v,D⟩:=hrel;have p:=Z D;have R:=D.st.y 0;have O:=D.st.lt;have I:=D.rb.y 0;have N:=D.rb.lt;have M:=D.rb.A 0;have b:=VC g;have bY:=b.1;have bR:=Z g;have bC:=Z b.2;clear g b D
  by_cases Q:i<d.length
  ·have aU:(i:Int)<(d.length:Int):=ω
   have bV:(0:Int)<=(i:Int):=ω
   have bZ:IntKind.i64.wrap ((i:Int)+1)=(i:Int)+1:=by simp[IntKind.wrap,IntKind.bits,IntKind.signed];omega
   obtain⟨b,o,s,rfl,J,S⟩:=(HH.l.I p.l.be).at Q;have bH:s.size<=1048576:=HS.l s (by rw[S.l];simp[List.getD,Q]);have g:d.drop i=s::d.drop (i+1):=by rw[S.l];simp[List.getD,Q]
   have bT:b<wr.heap.size:=by have:=DM wr _ J;simpa using this
   have y:=Z (λj=>De s j bH);rw[pL]at y;rw[g]at v;have bQ:=Z g;clear g
   cases hR:SX s with
   | none =>
    rw[hR]at y;have q:Hid (r=none):=by show _=_;rw[<-v.l];exact tw hR
    clear hR;go_wp2_with fail;refine(y.l _).z ?_;rintro e w5 ⟨X,cb,rfl,_,_,t⟩;simp only[JP,JC,AR];have j:=p.l.I t;have x:=Z j;have z:=j.rb.y 0;have P:=j.rb.lt;have F:=j.rb.A 0;clear R O I N M j t J;go_wp2;refine AJ (v:=.tuple #[MH none 0 0,M0 false]) (by simp[results,results99,go_sem,z,MH]) rfl ?_;rw[q.l];exact⟨none,0,rfl,AA _,.inl rfl,λg n=>(by cases n),x.l.be.setCell (by show w.heap.size<=w.heap.size;omega) _⟩
   | some m =>
    rw[hR]at y;have j:=zu (qK hR);have aY:=Z j.2;have bE:=j.1;clear j
    by_cases l:PO f m=0
    focus
     have q:Hid (NX (d.drop (i+1)) (NB f m)=r):=by show _=_;rw[<-v.l];exact(jx hR l).symm
     have z:PQ f m=NB f m:=by unfold PQ;rw[AE l]
     have aZ:=Z (ZW l)
    rotate_left
    focus
     have q:Hid (r=none):=by show _=_;rw[<-v.l];exact ux hR l
     have z:PQ f m=[]:=by unfold PQ;rw[AG l]
     have bU:(PO f m == 0)=false:=by simp[l]
     have bG:(PO f m != 0)=true:=by simp[l]
    rotate_left
    all_goals
     clear hR;go_wp2_with fail;refine(y.l _).z ?_;rintro e w5 ⟨X,cb,rfl,F,P,t⟩;simp only[GZ,JD]at F P⊢;have j:=p.l.I t;have x:=Z j;have r1:=j.st.y 0;have V:=j.st.lt;have D:=Z (pX A f B X m cb w5 j.own.prs ω bC.l (wF F) ω aY.l)
    ·rw[z,l]at D
     clear R O I N M j t J F P;go_wp2_with fail;refine D.l.z ?_;rintro e K ⟨C,H,rfl,U,G,E,u⟩;have k:=(x.l.I u).I (LD K (.cells #[.slice C (NB f m).length H] 31));have L:=Z (k.set G U (λg n=>by have:=E g n;omega));have x1:=k.st.y 0;have b7:=k.st.A 0;have cA:=k.st.lt;have x6:K.heap.size≠w.heap.size+1:=by have:=(x.l.I u).st.lt;omega
     clear r1 V k u G E l z;go_wp2;exact⟨⟨i+1,_,C,H,_,rfl,σ,ω,aZ.l,q,L.l⟩,by simp[intOf];omega⟩
    rw[z]at D
    clear R O I N M j t J F P z;go_wp2_with fail;refine D.l.z ?_;rintro e K ⟨C,H,rfl,U,G,E,u⟩;have k:=(x.l.I u).I (LD K (.cells #[.slice C 0 H] 31));have L:=Z k;have z:=k.rb.y 0;have P:=k.rb.lt;have F:=k.rb.A 0;clear r1 V k u G E;go_wp2;refine AJ (v:=.tuple #[MH none 0 0,M0 false]) (by simp[results,results99,go_sem,z,MH]) rfl ?_;rw[q.l];exact⟨none,0,rfl,AA _,.inl rfl,λg n=>(by cases n),L.l.be.setCell (by show w.heap.size<=w.heap.size;omega) _⟩
  have q:Hid (r=some f):=by show _=_;rw[<-v.l,ED ω];rfl
  have aU:¬((i:Int)<(d.length:Int)):=ω
  have j:¬(w.heap.size=w.heap.size+1):=ω
  go_wp2;refine AJ (v:=.tuple #[MH A f.length B,M0 true]) (by simp[results,results99,go_sem,I,MH]) rfl ?_;rw[q.l];refine⟨A,B,rfl,p.l.cap,OwnS.setF p.l.own ⟨w.heap.size,0,none⟩ (λg n b=>?_) _,λg n=>by have:=p.l.lo g n;omega,p.l.be.setCell (by show w.heap.size<=w.heap.size;omega) _⟩;have:=p.l.lo g (by subst n;exact NT _ _ _ (th b));show w.heap.size≠g;omega
end
section
open Tryz
open Go.RowKit Go.Shelf
variable {g1 g2 n3:Nat}{A B:Nb}
attribute [local go_sem] Oper.semAt_some
@[reducible] def ue(x:Int×Int×Int×Y):Nc:=OE x.1 x.2.1 x.2.2.1 x.2.2.2
@[reducible] def mc{a:Nat->Y}{b:Nat}{c:Int}{N:Nat}(x:Pgs a b c N):Array Nc:=#[.int .i64 (x.1:Int),ue (TT a b c x.1)]
def KpP(n3 g1 g2:Nat)(A B:Nb):Prop:=Below n3 A B/\B.heap[g1]?=A.heap[g1]?/\B.heap[g2]?=A.heap[g2]?
theorem KpP.t{C:Nb}(h:KpP n3 g1 g2 A B)(k:KpP n3 g1 g2 B C):KpP n3 g1 g2 A C:=⟨h.1.j k.1,k.2.1.j h.2.1,k.2.2.j h.2.2⟩
theorem KpP.b{w:Nb}(d:n3<=w.heap.size)(f:g1<w.heap.size)(g:g2<w.heap.size)(W:Nb)(l:Nat)(o a:Obj)(c:w.heap.size<=l)(h:W.heap[l]?=some o)(b:o.isCells=false)(e:o.isWalk=false):KpP n3 g1 g2 W (W.putObj l a) :=⟨belowK_b d W l o a c h b e,World.putObj_heap_other ω,World.putObj_heap_other ω⟩
theorem KpP.J{C:Nb}(h:KpP n3 g1 g2 A B)(a:Below B.heap.size B C)(b:n3<=B.heap.size)(c:g1<B.heap.size)(d:g2<B.heap.size):KpP n3 g1 g2 A C :=⟨h.1.j (a.z b),(a.block g1 c).j h.2.1,(a.block g2 d).j h.2.2⟩
def sO{b:Nat->Y}{c:Nat}{d:Int}{N:Nat}(u:Nat)(a:List (Pgs b c d N)):Prop:=Good u a/\(N<=u+a.length\/MA (b (c+(u+a.length))) d=none)
theorem SD{w:Nb}{g:Nat}{a:Array Nc}{t:TypeId}{z:Nat×Nat}(h:w.heap[g]?=some (.cells a t z))(i:Nat)(v:Nc)(hv:a[i]?=some v):w.cell? ⟨g,i,none⟩=some v:=by
 simp[World.cell?,h,hv]
theorem kk(h:Below A.heap.size A B):A.grownBy B none:=⟨h.os,h.tape,h.output,h.size,λk a _=>h.block k a⟩
theorem Gh(n:Nat)(hn:1<=n)(l g1 g2 c N u:Nat)(o:Nat->Y)(d:Int)(w y:Nc)(j:Nb)(hN:N<=200)(hu:u<=N)
  (aZ:Hid (∀a,Below j.heap.size j a->∀m:Nat,m<N->Calls prog 194 #[iz w y (c:Int) (N:Int) d,.int .i64 (m:Int)] a λe b=>e=M3 (TP (MA (o (c+m)) d))/\Below a.heap.size a b))
  (J F:List (Pgs o c d N)->Nb->Prop)
  (Q:∀a x f,J a f->a.length<N->YieldAt Fence.wide (n-1) prog l (mc x) f λe b=>(e=M3 (M0 true)/\J (a++[x]) b/\KpP j.heap.size g1 g2 f b)\/(e=M3 (M0 false)/\F (a++[x]) b))
  (W:Nb)(P:Below j.heap.size j W)(H:W.heap[g1]?=some (.cells #[.iface 257 (.agg #[w,y]),.int .i64 (c:Int),.int .i64 (N:Int),.int .i64 d] 218 (0,0)))(I:W.heap[g2]?=some (.cells #[.int .i64 (u:Int)] 3 (0,0)))
  (M:J [] W)(O:∀s A B,J s A->A.grownBy B none->J s B):CallsIn Fence.wide n prog 193 #[.func (.yield l) #[] #[],Mv g2 0,Mv g1 0] W λe b=>(∃v,e=M3 v) /\
   ((∃f,sO u f/\J f b)\/(∃a,Good u a/\F a b)):=by
 refine JS func193 rfl trivial ?_ rfl;simp only[ntmps193,GS,CY,AR,Nat.reduceAdd,Nat.reduceSub,FZ,GA,GR,FL,DW,EI];have T:=Z Q;have D:=Z O;clear Q O;have a:=SD I 0 (.int .i64 (u:Int)) rfl
 gi_wp2
 clear a
 gi_loopw [4] (λi wr=>∃(k:Nat) (a:List (Pgs o c d N)),a.length=k/\Good u a/\u+k<=N/\i=.int .i64 ((u+k:Nat):Int)/\J a wr/\Below j.heap.size j wr/\wr.heap[g1]?=some (.cells #[.iface 257 (.agg #[w,y]),.int .i64 (c:Int),.int .i64 (N:Int),.int .i64 d] 218 (0,0))) (λi _=>N-(intOf i).toNat)
 case atStart=>exact⟨0,[],rfl,Good.nil u,hu,rfl,M,P,H⟩
 case round =>
  obtain⟨k,a,p,g,r,rfl,f,K,b⟩:=hrel;obtain⟨q,e⟩:∃q,q=u+k:=⟨_,rfl⟩;rw[<-e];have h:=Z e;have i:=Z p;have m:=Z g;have z:=Z f;have x:=Z K;have bQ:q<=N:=ω
  have X:=Z b;have bG:=(AW.1 b).1;clear p g f r;have c0:=SD b 0 (.iface 257 (.agg #[w,y])) rfl;have c1:=SD b 1 (.int .i64 (c:Int)) rfl;have c2:=SD b 2 (.int .i64 (N:Int)) rfl;have c3:=SD b 3 (.int .i64 d) rfl;clear b e H I P M
  by_cases L:q<N
  ·have bH:(q:Int)<(N:Int):=ω
   have bR:IntKind.i64.wrap ((q:Int)+1)=(q:Int)+1:=by simp[IntKind.wrap,IntKind.bits,IntKind.signed];omega
   have g:=aZ.l wr x.l q L;clear K
   cases hR:MA (o (c+q)) d with
   | none =>
    rw[hR]at g;simp only[TP]at g;have E:=Z hR;have v:=Z g;clear hR g
    gi_wp2_with (refine⟨trivial,?_⟩;gi_at_call 194;refine(FI.2 v.l).z ?_;rintro e S ⟨rfl,b⟩)
    refine⟨λf p=>(by cases p),?_⟩
    gi_wp2
    refine AJ (JZ rfl _ _ _) rfl ?_;refine⟨⟨_,rfl⟩,.inl ⟨a,⟨m.l,.inr ?_⟩,D.l _ _ _ z.l (kk (b.alloc b.size _))⟩⟩;rw[i.l,<-h.l];exact E.l
   | some pg =>
    obtain⟨p,r,s,t⟩:=pg;rw[hR]at g;simp only[TP]at g;obtain⟨f,b⟩:∃f:Pgs o c d N,f.1=q:=⟨⟨q,L,by rw[hR];rfl⟩,rfl⟩;have e:mc f=#[.int .i64 (q:Int),.agg #[.int .i64 p,.int .i64 r,.int .i64 s,Mz t]]:=by unfold mc ue TT;rw[b,hR];rfl
    have bC:=Z e;have G:=Z b;have E:=Z hR;have v:=Z g;clear hR g e b
    gi_wp2_with (refine⟨trivial,?_⟩;gi_at_call 194;refine(FI.2 v.l).z ?_;rintro e S ⟨rfl,b⟩)
    obtain⟨fn,R,aI,bE,g,C⟩:=T.l a f (S.alloc (.cells #[.int .i64 p,.int .i64 r,.int .i64 s,Mz t] 51)) (D.l _ _ _ z.l (kk (b.alloc b.size _))) (by rw[i.l];have:=h.l;omega);rw[bC.l]at g;have bJ:=b.size;have aX:=Z ((b.alloc b.size (.cells #[.int .i64 p,.int .i64 r,.int .i64 s,Mz t] 51)).block _ bG);have U:=Z (x.l.j ((b.alloc b.size (.cells #[.int .i64 p,.int .i64 r,.int .i64 s,Mz t] 51)).z x.l.size));clear b;rw[g,Oper.uponIn_round];refine⟨λ_=>hn,?_⟩;refine C.z ?_;rintro e W6 (⟨rfl,hJ6,hk6⟩|⟨rfl,hJx6⟩)
    ·have aY:=Z (hk6.2.1.j (aX.l.j X.l))
     have V:=Z (U.l.j hk6.1);have b:=Z hJ6;clear hJ6 hk6 C g
     gi_wp2
     go_roundw
     case rel=>exact⟨k+1,a++[f],by rw[AF,i.l];rfl,m.l.push (by rw[G.l,i.l,h.l]),by have:=h.l;omega,by have:=h.l;simp;omega,b.l,V.l,aY.l⟩
     case measure=>simp[intOf];omega
    have b:=Z hJx6
    clear hJx6 C g
    gi_wp2
    refine AJ (JZ rfl _ _ _) rfl ?_;exact⟨⟨_,rfl⟩,.inr ⟨a++[f],m.l.push (by rw[G.l,i.l,h.l]),b.l⟩⟩
  gi_wp2
  go_end0;exact⟨⟨_,rfl⟩,.inl ⟨a,⟨m.l,.inl (by rw[i.l,<-h.l];omega)⟩,z.l⟩⟩
theorem Li(n:Nat)(b c:Nc)(a N:Int)(d:Int)(u:Int)(w:Nb):CallsIn Fence.wide n prog 147 #[iz b c a N d,.int .i64 u] w λe f=>e=M3 (.func (.func 193) #[] #[Mv (w.heap.size+1) 0,Mv w.heap.size 0])/\f=(w.alloc (.cells #[.iface 257 (.agg #[b,c]),.int .i64 a,.int .i64 N,.int .i64 d] 218)).alloc (.cells #[.int .i64 u] 3):=by
 refine JS func147 rfl trivial ?_ rfl;simp only[ntmps147,GS,CY,AR,Nat.reduceAdd,Nat.reduceSub,FZ,GA,GR,FL,DW,EI]
 gi_wp2
 go_ret;exact⟨rfl,rfl⟩
theorem xE(n:Nat)(z:1<=n)(g1 g2 b N u:Nat)(f:Nat->Y)(c:Int)(g h:Nc)(a w:Nb)(v:N<=200)(C:u<=N)(k:Below a.heap.size a w)
  (p:Hid (∀d,Below a.heap.size a d->∀m:Nat,m<N->Calls prog 194 #[iz g h (b:Int) (N:Int) c,.int .i64 (m:Int)] d λe i=>e=M3 (TP (MA (f (b+m)) c))/\Below d.heap.size d i))
  (i:w.heap[g1]?=some (.cells #[.iface 257 (.agg #[g,h]),.int .i64 (b:Int),.int .i64 (N:Int),.int .i64 c] 218 (0,0)))(j:w.heap[g2]?=some (.cells #[.int .i64 (u:Int)] 3 (0,0))):SeqStopsK Fence.wide n prog 193 #[Mv g2 0,Mv g1 0] (λx:Pgs f b c N=>mc x) (KpP a.heap.size g1 g2) (sO u) (Good u) N w:=λl J o W d t r y q =>
 Gh n z l g1 g2 b N u f c g h a v C p J o y W (k.j (d.z k.size)) ((d.block _ (AW.1 i).1).j i) ((d.block _ (AW.1 j).1).j j) q (λs A B x m=>t s A B none x m (λr e=>(by cases e)))
end
section
open Tryz
open Go.RowKit Go.Shelf
variable {b:Nat}{row:Option Nat}{T e:TypeId}{W W':Nb}
theorem Ci(B b:Nat)(bs:List Nc)(s:Y)(w:Nb)(h:Lib.IsBuilderF 221 5 B b bs w)(c:bs.length+s.size<=140737488355328)(d:B<=w.heap.size):Calls prog 149 #[Mv b 0,Mz s] w λe a=>e=M3 (.tuple #[.int .i64 s.size,.nilIface])/\(Lib.BuilderAtF 221 5 B b (Mv b 0) (bs++Lib.strCells s) a/\Below B w a/\Lib.OthersKept 5 (some b) w a):=Any.Builder_WriteString_k qW kx B b bs s w h c d
theorem Mo(B b:Nat)(l:List UInt8)(w:Nb)(h:Lib.IsBuilderF 221 5 B b (Lib.byteCells l) w)(c:B<=w.heap.size):Calls prog 151 #[Mv b 0] w λe a=>e=M3 (Mz ⟨l.toArray⟩)/\(Lib.IsBuilderF 221 5 B b (Lib.byteCells l) a/\Below B w a/\Lib.OthersKept 5 (some b) w a):=Any.Builder_String_any_k uS kx B b l w h c
theorem jl{g:Nat}{c:Nc}{d:List Nc}(h:Row W g (c::d)):∃a t z,W.heap[g]?=some (.cells a t z):=by
 have:=h.cell 0 c rfl;unfold World.cell? at this
 split at this
 ·exact⟨_,_,_,by assumption⟩
 cases this
theorem kl{g:Nat}{c:Nc}{d:List Nc}(h:Row W g (c::d))(k:W.grownBy W' row)(m:∀r,row=some r->r≠g\/∃o:Obj,W.heap[r]?=some o/\o.isCells=false):Row W' g (c::d):=by
 refine h.J k λe=>?_
 rcases m g e.symm with i|⟨o,f,j⟩
 ·exact i rfl
 obtain⟨a,t,z,l⟩:=jl h
 rw[l]at f;cases f;cases j
theorem oV{a:Nat}{s:Nat}{v:Nc}{n:Nat}{d:List Nc}(h:W.ownsRow a e s v n d)(m:W.grownBy W' row)(p:∀r,row=some r->∃o:Obj,W.heap[r]?=some o/\o.isCells=false):W'.ownsRow a e s v n d:=by
 refine h.kept m ?_;rcases h.2 with ⟨rfl,_⟩|⟨g,i,j,rfl,_,f,_⟩
 ·exact .inl rfl
 refine .inr λk=>?_
 obtain⟨o,c,l⟩:=p g (by simpa[Value.ownBlock] using k.symm)
 rw[f]at c;cases c;cases l
theorem oL{B:Nat}{bs:List Nc}(h:Lib.IsBuilderF T e B b bs W)(j:W.grownBy W' row)(l:∀r,row=some r->r<B\/∃o:Obj,W.heap[r]?=some o/\o.isCells=false):Lib.IsBuilderF T e B b bs W':=by
 have i:∀p,Lib.BuilderAtF T e B b p bs W->Lib.BuilderAtF T e B b p bs W':=by
  rintro p ⟨s,v,f,d,n⟩;have m:b<W.heap.size:=(AW.1 f).1
  have r:some b≠row:=λe=>by
   rcases l b e.symm with h|⟨o,a,g⟩
   ·omega
   rw[f]at a;cases a;cases g
  refine⟨s,v,(j.block b m r).j f,d.kept j ?_,n⟩
  cases hv:v.ownBlock with
  | none=>exact .inl rfl
  | some k =>
   refine .inr λq=>?_
   rcases l k q.symm with h|⟨o,a,g⟩
   ·have:=(d.lt k hv).1;omega
   obtain⟨c,u,t⟩:=Lib.ownsRowF_kind d k hv
   rw[t]at a;cases a;cases g
 rcases h with h|h
 ·exact .inl (i _ h)
 exact .inr (i _ h)
theorem tV{B:Nat}{bs:List Nc}(h:Lib.IsBuilderF T e B b bs W):∃a,W.heap[b]?=some (.cells a T (0,0)):=by
 rcases h with ⟨_,v,a,_⟩|⟨_,v,a,_⟩<;>exact⟨_,a⟩
theorem tP{a:Array Nc}{z:Nat×Nat}(g:W.heap[b]?=some (.cells a T z))(h:Lib.OthersKept e (some b) W W')(i:W.heap.size<=W'.heap.size):KeepsOthers W W' :=⟨i,λk o d f=>h k o d (λe=>by cases e;rw[g]at d;cases d;cases f) (λc j e=>by rw[e]at f;cases f)⟩
theorem yp(h:Below W.heap.size W W'):KeepsOthers W W':=⟨h.size,λk o a _=>(h.block k (AW.1 a).1).j a⟩
structure ScL(w3 W:Nb)(Rs:List Nat)(M:Nat)(c0 c1 c2 c3:Nc)(y:Nc)(ents:List Y)(u l wk wl wm:Int)(wp:Y):Prop where
 lb:Row W w3.heap.size [c0,c1,c2,c3]
 fb:Row W (w3.heap.size+1) [y,.int .i64 u,.int .i64 l]
 bb:Row W (w3.heap.size+2) [.int .i64 wk,.int .i64 wl,.int .i64 wm,Mz wp]
 own:W.ownsRow w3.heap.size 9 1 y ents.length (ents.map Value.string)
 yo:∀k,y.ownBlock=some k->w3.heap.size+2<k
 be:Below w3.heap.size w3 W
 mr:∀r∈Rs,w3.heap.size<=r/\r<M/\W.heap[r]?=some (.deferred (some []))
 nd:Rs.Nodup
section
variable {w3 W W':Nb} {Rs:List Nat} {M:Nat} {c0 c1 c2 c3:Nc} {y:Nc} {ents:List Y} {u l wk wl wm:Int} {wp:Y}
theorem ScL.kept(h:ScL w3 W Rs M c0 c1 c2 c3 y ents u l wk wl wm wp)(m:w3.heap.size<=M)(a:W.grownBy W' row)(c:∀r,row=some r->M<=r/\∃o:Obj,W.heap[r]?=some o/\o.isCells=false):ScL w3 W' Rs M c0 c1 c2 c3 y ents u l wk wl wm wp:=by
 have d:∀g:Nat,∀r,row=some r->r≠g\/∃o:Obj,W.heap[r]?=some o/\o.isCells=false:=λg r e=>.inr (c r e).2
 refine⟨kl h.lb a (d _),kl h.fb a (d _),kl h.bb a (d _),oV h.own a (λr e=>(c r e).2),h.yo,h.be.J a h.be.size (λk e=>AK m (c k e).1),λr g=>?_,h.nd⟩;obtain⟨i,j,f⟩:=h.mr r g;exact⟨i,j,(a.block r (AW.1 f).1 (λe=>by have:=(c r e.symm).1;omega)).j f⟩
theorem ScL.low(h:ScL w3 W Rs M c0 c1 c2 c3 y ents u l wk wl wm wp)(c:Below M W W')(t:w3.heap.size+2<M)(p:∀k,y.ownBlock=some k->k<M):ScL w3 W' Rs M c0 c1 c2 c3 y ents u l wk wl wm wp:=by
 have d:∀ {g:Nat} {j:List Nc},g<M->Row W g j->Row W' g j:=λf a=>⟨AD a.lt c.size,λi v hv=>(DH (a:=⟨_,i,none⟩) (c.block _ f)).j (a.cell i v hv),λi k=>(GT (a:=⟨_,i,none⟩) (c.block _ f)).j (a.froz i k)⟩
 have s:W'.ownsRow w3.heap.size 9 1 y ents.length (ents.map Value.string):=by
  have k:=h.own;refine⟨k.1,?_⟩;rcases k.2 with q|⟨g,f,i,hv,n,o,m⟩
  ·exact .inl q
  exact .inr ⟨g,f,i,hv,n,(c.block g (p g (by rw[hv];rfl))).j o,m⟩
 exact⟨d ω h.lb,d ω h.fb,d ω h.bb,s,h.yo,h.be.j (c.z ω),λr a=>⟨(h.mr r a).1,(h.mr r a).2.1,(c.block r (h.mr r a).2.1).j (h.mr r a).2.2⟩,h.nd⟩
theorem ScL.top(h:ScL w3 W Rs M c0 c1 c2 c3 y ents u l wk wl wm wp):ScL w3 W Rs W.heap.size c0 c1 c2 c3 y ents u l wk wl wm wp :=⟨h.lb,h.fb,h.bb,h.own,h.yo,h.be,λr a=>⟨(h.mr r a).1,(AW.1 (h.mr r a).2.2).1,(h.mr r a).2.2⟩,h.nd⟩
theorem ScL.I(h:ScL w3 W Rs M c0 c1 c2 c3 y ents u l wk wl wm wp)(a:Below W.heap.size W W'):ScL w3 W' Rs M c0 c1 c2 c3 y ents u l wk wl wm wp :=⟨h.lb.I a,h.fb.I a,h.bb.I a,NC h.own a,h.yo,h.be.j (a.z h.be.size),λr c=>⟨(h.mr r c).1,(h.mr r c).2.1,(a.block r (AW.1 (h.mr r c).2.2).1).j (h.mr r c).2.2⟩,h.nd⟩
theorem ScL.own_ne(h:ScL w3 W Rs M c0 c1 c2 c3 y ents u l wk wl wm wp){k:Nat}(a:k<=w3.heap.size+2):y.ownBlock≠some k:=λe=>by have:=h.yo k e;omega
theorem ScL.mk_ne(h:ScL w3 W Rs M c0 c1 c2 c3 y ents u l wk wl wm wp){r:Nat}(i:r∈Rs):r≠w3.heap.size+1/\r≠w3.heap.size+2/\y.ownBlock≠some r:=by
 have c:=(h.mr r i).2.2;refine⟨λe=>?_,λe=>?_,λe=>?_⟩
 ·obtain⟨a,t,z,d⟩:=jl h.fb
  rw[e,d]at c;cases c
 ·obtain⟨a,t,z,d⟩:=jl h.bb
  rw[e,d]at c;cases c
 rcases h.own.2 with ⟨rfl,_⟩|⟨g,d,f,rfl,_,a,_⟩
 ·cases e
 have:g=r:=by simpa[Value.ownBlock] using e
 rw[this,c]at a;cases a
theorem ScL.setWas(h:ScL w3 W Rs M c0 c1 c2 c3 y ents u l wk wl wm wp)(f j k:Int)(m:Y):ScL w3 ((((W.setCell ⟨w3.heap.size+2,0,none⟩ (.int .i64 f)).setCell ⟨w3.heap.size+2,1,none⟩ (.int .i64 j)).setCell ⟨w3.heap.size+2,2,none⟩ (.int .i64 k)).setCell ⟨w3.heap.size+2,3,none⟩ (Mz m)) Rs M c0 c1 c2 c3 y ents u l f j k m:=by
 have n:∀ {g:Nat} {o:List Nc},g≠w3.heap.size+2->Row W g o->Row ((((W.setCell ⟨w3.heap.size+2,0,none⟩ (.int .i64 f)).setCell ⟨w3.heap.size+2,1,none⟩ (.int .i64 j)).setCell ⟨w3.heap.size+2,2,none⟩ (.int .i64 k)).setCell ⟨w3.heap.size+2,3,none⟩ (Mz m)) g o:=λc a =>
  (((a.other _ (IV c) _).other _ (IV c) _).other _ (IV c) _).other _ (IV c) _
 have d:=h.own_ne (AA _)
 have bs:∀ {x:Nb},Below w3.heap.size w3 x->∀i v,Below w3.heap.size w3 (x.setCell ⟨w3.heap.size+2,i,none⟩ v):=λc i v=>c.setCell (by show w3.heap.size<=w3.heap.size+2;omega) _
 refine⟨n ω h.lb,n ω h.fb,(((h.bb.set 0 σ _).set 1 σ _).set 2 σ _).set 3 σ _,BW (BW (BW (BW h.own d _) d _) d _) d _,h.yo,bs (bs (bs (bs h.be _ _) _ _) _ _) _ _,λr a=>⟨(h.mr r a).1,(h.mr r a).2.1,?_⟩,h.nd⟩;have c:=(h.mk_ne a).2.1;rw[BF _ _ _ _ c,BF _ _ _ _ c,BF _ _ _ _ c,BF _ _ _ _ c];exact(h.mr r a).2.2
theorem ScL.take(h:ScL w3 W Rs M c0 c1 c2 c3 y ents u l wk wl wm wp){a:List Y}{s q:Int}(x:zb w3.heap.size (w3.heap.size+1) y W a s q W'):∃j,ScL w3 W' Rs M c0 c1 c2 c3 j a s q wk wl wm wp:=by
 obtain⟨j,c,w,t,o,p⟩:=x
 have m:∀ {g:Nat} {n:List Nc},g<=w3.heap.size+2->g≠w3.heap.size+1->Row W g n->Row W' g n:=λf d c=>by
  have e:=p _ c.lt d (λe=>h.own_ne f e.symm);exact⟨AD c.lt o.size,λi v hv=>(DH (a:=⟨_,i,none⟩) e).j (c.cell i v hv),λi d=>(GT (a:=⟨_,i,none⟩) e).j (c.froz i d)⟩
 have v:=h.bb.lt;refine⟨j,m ω ω h.lb,c,m ω ω h.bb,w,λk e=>?_,h.be.j o,λr d=>⟨(h.mr r d).1,(h.mr r d).2.1,?_⟩,h.nd⟩
 ·rcases t with f|⟨H,f,i⟩
  ·exact h.yo k (f.symm.j e)
  rw[f]at e;cases e;omega
 have f:=h.mk_ne d
 exact(p r (AW.1 (h.mr r d).2.2).1 f.1 (λe=>f.2.2 e.symm)).j (h.mr r d).2.2
theorem ScL.takeKeeps(h:ScL w3 W Rs M c0 c1 c2 c3 y ents u l wk wl wm wp){c:List Y}{r q:Int}(p:zb w3.heap.size (w3.heap.size+1) y W c r q W'):KeepsOthers W W':=by
 obtain⟨x,w,v,s,m,n⟩:=p;refine⟨m.size,λk o d f=>(n k (AW.1 d).1 (λe=>?_) (λe=>?_)).j d⟩
 ·obtain⟨a,t,z,g⟩:=jl h.fb
  rw[e,g]at d;cases d;cases f
 rcases h.own.2 with ⟨rfl,_⟩|⟨g,i,j,rfl,_,a,_⟩
 ·cases e
 have:k=g:=by simpa[Value.ownBlock] using e
 rw[this,a]at d;cases d;cases f
theorem ScL.push(h:ScL w3 W Rs M c0 c1 c2 c3 y ents u l wk wl wm wp){D:Nat}(c:W.heap[D]?=some (.deferred (some [])))(g:M<=D)(d:w3.heap.size<=D):ScL w3 W (D::Rs) W.heap.size c0 c1 c2 c3 y ents u l wk wl wm wp :=⟨h.lb,h.fb,h.bb,h.own,h.yo,h.be,λr a=>by
  rcases DY.1 a with rfl|a
  ·exact⟨d,(AW.1 c).1,c⟩
  exact⟨(h.mr r a).1,(AW.1 (h.mr r a).2.2).1,(h.mr r a).2.2⟩,List.nodup_cons.2 ⟨λf=>by have:=(h.mr D f).2.1;omega,h.nd⟩⟩
end
structure ScN(w3 W:Nb)(Rs:List Nat)(b:Nat)(c0 c1 c2 c3:Nc)(y:Nc)(ents:List Y)(u l wk wl wm:Int)(wp op:Y):Prop where
 sl:ScL w3 W Rs b c0 c1 c2 c3 y ents u l wk wl wm wp
 bu:Lib.IsBuilderF 221 5 b b (Lib.byteCells op.data.toList) W
 g1:W.heap[b+1]?=some (.cells #[c0,c1,c2,c3] 218 (0,0))
 g2:W.heap[b+2]?=some (.cells #[.int .i64 u] 3 (0,0))
 yb:∀k,y.ownBlock=some k->k<b
 lo:w3.heap.size+2<b
section
variable {w3 W W':Nb} {Rs:List Nat} {b:Nat} {c0 c1 c2 c3:Nc} {y:Nc} {ents:List Y} {u l wk wl wm:Int} {wp op:Y}
theorem ScN.kept(h:ScN w3 W Rs b c0 c1 c2 c3 y ents u l wk wl wm wp op)(c:W.grownBy W' row)(f:∀r,row=some r->b<=r/\∃o:Obj,W.heap[r]?=some o/\o.isCells=false):ScN w3 W' Rs b c0 c1 c2 c3 y ents u l wk wl wm wp op:=by
 have i:∀ {g:Nat} {a:Array Nc} {t:TypeId} {z:Nat×Nat},W.heap[g]?=some (.cells a t z)->W'.heap[g]?=some (.cells a t z):=λd=>(c.block _ (AW.1 d).1 (λe=>by
  obtain⟨_,o,j,k⟩:=f _ e.symm
  rw[d]at j;cases j;cases k)).j d
 exact⟨h.sl.kept (by have:=h.lo;omega) c f,oL h.bu c (λr e=>.inr (f r e).2),i h.g1,i h.g2,h.yb,h.lo⟩
theorem ScN.alloc(h:ScN w3 W Rs b c0 c1 c2 c3 y ents u l wk wl wm wp op)(o:Obj):ScN w3 (W.alloc o) Rs b c0 c1 c2 c3 y ents u l wk wl wm wp op:=h.kept (World.grownBy_alloc W o none) (λr e=>by cases e)
theorem ScN.setWas(h:ScN w3 W Rs b c0 c1 c2 c3 y ents u l wk wl wm wp op)(f j m:Int)(n:Y):ScN w3 ((((W.setCell ⟨w3.heap.size+2,0,none⟩ (.int .i64 f)).setCell ⟨w3.heap.size+2,1,none⟩ (.int .i64 j)).setCell ⟨w3.heap.size+2,2,none⟩ (.int .i64 m)).setCell ⟨w3.heap.size+2,3,none⟩ (Mz n)) Rs b c0 c1 c2 c3 y ents u l f j m n op:=by
 have p:=h.lo
 have g:∀(X:Nb) (i:Nat) (v:Nc),X.grownBy (X.setCell ⟨w3.heap.size+2,i,none⟩ v) (some (w3.heap.size+2)):=λX i v=>⟨rfl,rfl,rfl,σ,λk _ c=>BF _ _ _ _ (λe=>c (by rw[e]))⟩
 have bs:∀ {X:Nb},Lib.IsBuilderF 221 5 b b (Lib.byteCells op.data.toList) X->∀i v,Lib.IsBuilderF 221 5 b b (Lib.byteCells op.data.toList) (X.setCell ⟨w3.heap.size+2,i,none⟩ v):=λd i v=>oL d (g _ i v) (λr e=>by cases e;exact .inl p)
 have a:∀ {X:Nb} {k:Nat} {o:Obj},k≠w3.heap.size+2->X.heap[k]?=some o->∀i v,(X.setCell ⟨w3.heap.size+2,i,none⟩ v).heap[k]?=some o:=λc d i v=>(BF _ _ _ _ c).j d
 have c:b+1≠w3.heap.size+2:=ω
 have d:b+2≠w3.heap.size+2:=ω
 exact⟨h.sl.setWas f j m n,bs (bs (bs (bs h.bu _ _) _ _) _ _) _ _,a c (a c (a c (a c h.g1 _ _) _ _) _ _) _ _,a d (a d (a d (a d h.g2 _ _) _ _) _ _) _ _,h.yb,h.lo⟩
theorem ScN.wrote(h:ScN w3 W Rs b c0 c1 c2 c3 y ents u l wk wl wm wp op){op':Y}(g:Below b W W')(a:Lib.OthersKept 5 (some b) W W')(d:Lib.IsBuilderF 221 5 b b (Lib.byteCells op'.data.toList) W'):ScN w3 W' Rs b c0 c1 c2 c3 y ents u l wk wl wm wp op' :=⟨h.sl.low g h.lo h.yb,d,a _ _ h.g1 σ (by intro c f e;simp at e),a _ _ h.g2 σ (by intro c f e;simp at e),h.yb,h.lo⟩
end
def InS{i:Nat->Y}{p:Nat}{r:Int}{N:Nat}(first:Int)(j:Scd)(q:Nb)(h:List Nat)(b:Nat)(k m n o:Nc)(y:Nc)(a:List Y)(u:Nat)(l:Int)(c:List (Pgs i p r N))(W:Nb):Prop :=∃f g s t d,ScN q W h b k m n o y a (u:Int) l f g s t d/\d.size<=64*c.length/\Chn first j u c f g d (a,(u:Int),l)
def InX{m:Nat->Y}{s:Nat}{w:Int}{N:Nat}(first:Int)(n:Scd)(v:Nb)(k:List Nat)(b:Nat)(o p q r:Nc)(y:Nc)(d:List Y)(u:Nat)(l:Int)(c:Code)(f:List (Pgs m s w N))(W:Nb):Prop :=(c=.exit 0/\(∃g h i j,ScL v W k b o p q r y d (u:Int) l g h i j)/\(Good u f->(d,(u:Int),l)=n)) ∨
 (c=.exit 1/\∃(x:Nat) (z:Nc) (a:List Y) (t g h i:Int) (j:Y),ScL v W k b o p q r z a ((x+1:Nat):Int) t g h i j/\x<N/\(Good u f->u<=x/\a.length<=d.length+1/\Chn (S:=m) (frm:=s) (n:=w) (size:=N) first n (x+1) [] g h empty (a,((x+1:Nat):Int),t)))
section
variable {SF:Nat->Y} {fm:Nat} {wd:Int} {N:Nat} {first:Int} {RES:Scd} {w3:Nb} {Rs:List Nat} {b:Nat} {c0 c1 c2 c3:Nc} {y:Nc} {ents:List Y} {u:Nat} {l:Int}
theorem InS.own(B:Nat)(h:b<=B):OwnFrom B (λ(c:List (Pgs SF fm wd N)) W=>InS first RES w3 Rs b c0 c1 c2 c3 y ents u l c W):=by
 rintro s X a row ⟨m,n,o,p,k,j,f,g⟩ i d;exact⟨m,n,o,p,k,j.kept i (λr e=>⟨AK h (d r e).1,(d r e).2⟩),f,g⟩
theorem InX.own(B:Nat)(w:b<=B)(p:w3.heap.size<=b)(c:Code):OwnFrom B (λ(j:List (Pgs SF fm wd N)) W=>InX first RES w3 Rs b c0 c1 c2 c3 y ents u l c j W):=by
 rintro s X a row h t v
 have q:∀r,row=some r->b<=r/\∃o:Obj,X.heap[r]?=some o/\o.isCells=false:=λr e=>⟨AK w (v r e).1,(v r e).2⟩
 rcases h with ⟨g,⟨k,m,n,o,i⟩,f⟩|⟨g,x,A,d,z,k,m,n,o,i,r,f⟩
 ·exact .inl ⟨g,⟨k,m,n,o,i.kept p t q⟩,f⟩
 exact .inr ⟨g,x,A,d,z,k,m,n,o,i.kept p t q,r,f⟩
end
theorem pe{F:Fence}{n:Nat}{P:Program}{fn:Func}{tmps:Array Nc}{R:Ending->Nb->Prop}(B:Nat)(Pr:Nb->Prop)(aB:∀W r,B<=r->W.heap[r]?=some (.deferred (some []))->Pr W->Pr (W.putObj r (.deferred none)))(aA:∀W,Pr W->LeavesIn F n P fn tmps R [] .returning W):∀(Rs:List Nat) (W:Nb),Rs.Nodup->(∀r∈Rs,B<=r/\W.heap[r]?=some (.deferred (some [])))->Pr W->LeavesInM F n P fn tmps R (Rs.map (λr=>({ target:=.collected r,args:=#[] }:Deferred))) .returning W
 | [],W,_,_,hp=>aA W hp
 | r::Rs,W,hn,hm,hp=>by
  have h0:=hm r (EE ..);refine⟨σ,.inl ⟨r,_,rfl,run_takeDeferred h0.2,?_⟩⟩;have hnr:=List.nodup_cons.1 hn;refine pe B Pr aB aA Rs _ hnr.2 (λq hq=>?_) (aB W r h0.1 h0.2 hp);have h1:=hm q (DO _ hq);exact⟨h1.1,(World.putObj_heap_other (λe:q=r=>hnr.1 (by rw[<-e];exact hq))).j h1.2⟩
def ScF1(w c:Nb)(RB:Nat)(y:Nc)(a:List Y)(u l:Int)(X:Nb):Prop:=Row X RB [y,.int .i64 u,.int .i64 l]/\X.ownsRow c.heap.size 9 1 y a.length (a.map Value.string)/\Below w.heap.size w X
theorem ScF1.put{w c:Nb}{RB:Nat}{y:Nc}{a:List Y}{u l:Int}(n:w.heap.size<=c.heap.size)(X:Nb)(r:Nat)(m:c.heap.size<=r)(j:X.heap[r]?=some (.deferred (some [])))(h:ScF1 w c RB y a u l X):ScF1 w c RB y a u l (X.putObj r (.deferred none)):=by
 obtain⟨g,i,f⟩:=h
 have d:∀q,some r=some q->∃o:Obj,X.heap[q]?=some o/\o.isCells=false:=λq e=>by cases e;exact⟨_,j,rfl⟩
 exact⟨kl g (grownBy_putObj' X r _) (λq e=>.inr (d q e)),oV i (grownBy_putObj' X r _) d,f.J (grownBy_putObj' X r _) f.size (λk e=>by cases e;omega)⟩
theorem ScL.fin{w c:Nb}{m:List Nat}{M:Nat}{t x z A:Nc}{y:Nc}{a:List Y}{u l B C D:Int}{E:Y}{RB:Nat}{o p q:Nc}(h:ScL c W m M t x z A y a u l B C D E)(j:Row c RB [o,p,q])(f:w.heap.size<=RB)(n:Below w.heap.size w c):ScF1 w c RB y a u l (((W.setCell ⟨RB,0,none⟩ y).setCell ⟨RB,1,none⟩ (.int .i64 u)).setCell ⟨RB,2,none⟩ (.int .i64 l))/\(∀r∈m,c.heap.size<=r/\(((W.setCell ⟨RB,0,none⟩ y).setCell ⟨RB,1,none⟩ (.int .i64 u)).setCell ⟨RB,2,none⟩ (.int .i64 l)).heap[r]?=some (.deferred (some []))):=by
 have g:=j.lt;have s:Row W RB [o,p,q]:=⟨AD g h.be.size,λi v hv=>(DH (a:=⟨_,i,none⟩) (h.be.block _ g)).j (j.cell i v hv),λi d=>(GT (a:=⟨_,i,none⟩) (h.be.block _ g)).j (j.froz i d)⟩
 have k:y.ownBlock≠some RB:=λe=>by have:=h.yo RB e;omega
 refine⟨⟨((s.set 0 σ _).set 1 σ _).set 2 σ _,BW (BW (BW h.own k _) k _) k _,(((n.j (h.be.z n.size)).setCell f _).setCell f _).setCell f _⟩,λr d=>⟨(h.mr r d).1,?_⟩⟩;have i:r≠RB:=by have:=(h.mr r d).1;omega
 rw[BF _ _ _ _ i,BF _ _ _ _ i,BF _ _ _ _ i];exact(h.mr r d).2.2
end
section
open Tryz
open Go.RowKit
theorem zZ(s:Y)(n:Int)(w:Nb)(c:TypeId)(v:Nc)(hv:w.cell? ⟨1,0,none⟩=some (.iface c v))(f:1<w.heap.size):Calls prog 46 #[Mz s,.int .i64 n] w λe a=>(∃E,e=M3 (aa E (MA s n)))/\Below w.heap.size w a:=by
 by_cases l:1<=n/\n<=8
 ·obtain⟨m,rfl⟩:∃m:Nat,n=(m:Int):=⟨n.toNat,ω⟩
  by_cases b:s.size=64
  ·obtain⟨j,p,q,r,t⟩:=rL s m b ω rfl
   have z:(LI s).length=64:=by rw[NH,b]
   have x:=fv s
   have d:∀o k,∀y∈((LI s).drop o).take k,0<=y/\y<=255:=λo k y a=>x y (FE (DE a))
   have k:=YW 1 _ τ (d (m+7) 1);have e:=YW 1 _ τ (d m 1);have g:=YW 2 _ τ (d (m+1) 2);have i:=YW 4 _ τ (d (m+3) 4);rw[<-j]at k;rw[<-p]at e;rw[<-q]at g;rw[<-r]at i
   by_cases o:rpN (s.extract m 64)+m<=56
   ·have h:=Hs s m _ _ _ _ _ w c v hv f b ω ω j o p q r t e.1 (by have:=e.2;omega) g.1 (by have:=g.2;omega) i.1 (by have:=i.2;omega)
    have u:MA s (m:Int)=if MM (TO (s.extract m 64)) (UN (s.extract m 64)) (UO (s.extract m 64)) (UE (s.extract m 64)) (m:Int)=s then some (TO (s.extract m 64),UN (s.extract m 64),UO (s.extract m 64),UE (s.extract m 64)) else none:=by
     unfold MA;rw[BM]
     by_cases hF:MM (TO (s.extract m 64)) (UN (s.extract m 64)) (UO (s.extract m 64)) (UE (s.extract m 64)) (m:Int)=s
     ·rw[AE hF,AE ⟨ω,ω,b,ω,hF⟩]
     rw[AG hF,AG (λa=>hF a.2.2.2.2)]
    rw[u];exact h
   rw[YM (λa=>o (by have:=a.2.2.2.1;rw[BM]at this;omega))]
   exact Av s m _ w c v hv f b ω ω j ω (by have:=k.2;omega)
  rw[YM (λa=>b a.2.2.1)]
  exact Hi s m w c v hv f l b
 rw[YM (λa=>l ⟨a.1,a.2.1⟩)]
 exact If s n w c v hv f l
theorem zD(e t:Addr)(a:Nc)(w:Nb)(g:w.cell? ⟨0,0,none⟩=some (.iface 200 (.agg #[Mv 3 91])))(f:w.cell? t=some a)(d:w.frozen? t=false)(i:t.block<w.heap.size):Calls prog 47 #[.iface 94 (.pointer (some e)),.iface 96 (.pointer (some t))] w λb c=>b=M3 (M0 true)/\Below t.block w c :=(Ks e t a w g f d).z λb c h=>⟨h.1,by
  rw[h.2]
  exact(((((AB t.block w).alloc ω _).alloc τ _).alloc τ _).alloc τ _).setCell (AA _) _⟩
theorem Gd(t:Nc)(w:Nb):Calls prog 47 #[.nilIface,t] w λe a=>e=M3 (M0 false)/\Below w.heap.size w a :=(Gk t w).z λe a h=>⟨h.1,by rw[h.2];exact AB _ _⟩
theorem RB.past{W w d:Nb}(h:RB W w){B:Nat}(f:W.heap.size<B)(a:Below B w d):RB W d:=by
 have e:=h.size
 have b:∀i,d.cell? ⟨W.heap.size,i,none⟩=w.cell? ⟨W.heap.size,i,none⟩:=λi=>a.cell (p:=⟨W.heap.size,i,none⟩) (by show W.heap.size<_;omega)
 have c:∀i,d.frozen? ⟨W.heap.size,i,none⟩=w.frozen? ⟨W.heap.size,i,none⟩:=λi=>a.frozen (p:=⟨W.heap.size,i,none⟩) (by show W.heap.size<_;omega)
 exact⟨AK e a.size,h.bel.j (a.z ω),(b _).j h.c0,(b _).j h.c1,(b _).j h.c2,(b _).j h.c3,(c _).j h.f0,(c _).j h.f1,(c _).j h.f2,(c _).j h.f3⟩
theorem mt(s:Y)(n:Int)(w:Nb)(t:TypeId)(v:Nc)(hv:w.cell? ⟨1,0,none⟩=some (.iface t v))(F:w.cell? ⟨0,0,none⟩=some (.iface 200 (.agg #[Mv 3 91])))(G:1<w.heap.size):Calls prog 13 #[Mz s,.int .i64 n] w λe a=>e=M3 (TP (MA s n))/\Below w.heap.size w a:=by
 obtain⟨R,u⟩:∃R,Hid (R=MA s n):=⟨_,MF rfl⟩;rw[<-u.l]
 have I:∀o,Below w.heap.size w (w.alloc o):=λo=>LO _ _
 have z:∀o,(w.alloc o).cell? ⟨1,0,none⟩=some (.iface t v):=λo=>(FA _ _ _ (by exact G)).j hv
 have y:Hid (∀a,Below w.heap.size w a->a.cell? ⟨0,0,none⟩=some (.iface 200 (.agg #[Mv 3 91]))):=λa b=>(b.cell (p:=⟨0,0,none⟩) (by show 0<_;omega)).j F
 have f:=λo=>zZ s n (w.alloc o) t v (z o) τ
 rw[<-u.l]at f
 cases R with
 | none =>
  simp only[aa]at f;go_enter func13,ntmps13
  go_wp2_with (first|(go_at_call 46;refine(f _).z ?_;rintro e h ⟨⟨E,rfl⟩,d⟩;have c:=MF ((RB.new w _).I d);clear d)|(go_at_call 47;refine(zD E ⟨h.heap.size+1,0,none⟩ (.pointer none) _ (y.l _ ((c.l.alloc _).alloc _).bel) γ γ σ).z ?_;rintro e H ⟨rfl,b⟩;have a:=((c.l.alloc _).alloc _).past (B:=h.heap.size+1) (by have:=c.l.size;omega) b;clear b;have j:=a.c0;have o:=a.c1;have q:=a.c2;have r:=a.c3;have A:=a.f0;have B:=a.f1;have C:=a.f2;have D:=a.f3;have i:=MF a;clear a))
  refine AJ (v:=.tuple #[OE 0 0 0 ⟨#[]⟩,M0 false]) (by simp[results,results13,go_sem,j,o,q,r]) rfl ⟨rfl,?_⟩;exact(((i.l.bel.setCell (AA _) _).setCell (AA _) _).setCell (AA _) _).setCell (AA _) _
 | some x =>
  obtain⟨k,l,m,p⟩:=x;simp only[aa]at f;go_enter func13,ntmps13
  go_wp2_with (first|(go_at_call 46;refine(f _).z ?_;rintro e h ⟨⟨E,rfl⟩,d⟩;have c:=MF ((RB.new w _).I d);clear d)|(go_at_call 47;refine(Gd _ _).z ?_;rintro e H ⟨rfl,b⟩;have a:=((c.l.alloc _).alloc _).I b;have g:=((vY h h.heap.size rfl (.int .i64 k) (.int .i64 l) (.int .i64 m) (Mz p) _).I (LO _ _) σ).I b ξ;clear b;have J:=g.c0;have K:=g.c1;have L:=g.c2;have M:=g.c3;clear g;have j:=a.c0;have o:=a.c1;have q:=a.c2;have r:=a.c3;have A:=a.f0;have B:=a.f1;have C:=a.f2;have D:=a.f3;have i:=MF a;clear a))
  refine AJ (v:=.tuple #[OE k l m p,M0 true]) (by simp[results,results13,go_sem,j,o,q,r]) rfl ⟨rfl,?_⟩;exact(((i.l.bel.setCell (AA _) _).setCell (AA _) _).setCell (AA _) _).setCell (AA _) _
