import Derived.Test.YtjdmogljfdffeaaGreatDoorPrFnA
import Derived.Test.YtjdmogljfdffeaaGreatDoorPrApS
import Derived.Test.YtjdmogljfdffeaaGreatDoorPrMvS
import Derived.Test.YtjdmogljfdffeaaGreatDoorPrG32
set_option maxHeartbeats 16000000
set_option maxRecDepth 8000
set_option linter.all false
namespace Go.Proofs.YtjdmogljfdffeaaGreatDoor
open _root_.ByteArray(empty)
open Tryz
open Go.RowKit
variable {e:ByteArray}{H S n:Int}{ws:List (Int×ByteArray)}{es ss:List ByteArray}{a:Option Addr}{w:World}
section
abbrev XU(ss:List ByteArray)(ws:List (Int×ByteArray))(frm size n:Int):Prop:=LG ss ws=true/\(1<=n/\n<=8)/\0<=frm/\0<=size/\frm<=(ss.length:Int)/\size<=(ss.length:Int)-frm
def SY(ss:List ByteArray)(ws:List (Int×ByteArray))(c b first d n:Int):Scd :=if XU ss ws c b n then MD (λk=>(xhE ws ss).getD k empty) c.toNat first n b.toNat 0 0 d empty ([],0,d) else ([],0,0)
def ca(w b:World)(e:Ending)(x:Scd):Prop:=∃y,e=.returned (.agg #[y,.int .i64 x.2.1,.int .i64 x.2.2])/\b.ownsRow w.heap.size 9 1 y x.1.length (x.1.map Value.string)/\Below w.heap.size w b
structure ScB(w0 w:World)(RB G XB OT WS:Nat)(S:List Value)(cx:Nat)(xp:Value)(y:Value)(ents:List ByteArray)(u l wk wl wm:Int)(wp:ByteArray):Prop where
 rb:Row w RB [.slice none 0 0,.int .i64 0,.int .i64 0]
 sec:Row w G S
 xb:Row w XB [.slice (some ⟨G,0,none⟩) S.length cx,xp]
 ot:Row w OT [y,.int .i64 u,.int .i64 l]
 ws:Row w WS [.int .i64 wk,.int .i64 wl,.int .i64 wm,.string wp]
 own:w.ownsRow w0.heap.size 9 1 y ents.length (ents.map Value.string)
 o1:w0.heap.size<=RB
 o2:RB<G
 o3:G<XB
 o4:XB<OT
 o5:OT<WS
 yo:∀k,y.ownBlock=some k->WS<k
 be:Below w0.heap.size w0 w
section
variable {w0 w w':World} {RB G XB OT WS:Nat} {S:List Value} {cx:Nat} {xp:Value} {y:Value} {ents:List ByteArray} {u l wk wl wm:Int} {wp:ByteArray}
theorem ScB.z(h:ScB w0 w RB G XB OT WS S cx xp y ents u l wk wl wm wp)(b:Below w.heap.size w w'):ScB w0 w' RB G XB OT WS S cx xp y ents u l wk wl wm wp :=⟨h.rb.z b,h.sec.z b,h.xb.z b,h.ot.z b,h.ws.z b,LR h.own b,h.o1,h.o2,h.o3,h.o4,h.o5,h.yo,h.be.j (b.A h.be.size)⟩
theorem ScB.own_ne(h:ScB w0 w RB G XB OT WS S cx xp y ents u l wk wl wm wp){k:Nat}(b:k<=WS):y.ownBlock≠some k:=λe=>by have:=h.yo k e;omega
theorem ScB.setWas(h:ScB w0 w RB G XB OT WS S cx xp y ents u l wk wl wm wp)(d f j:Int)(k:ByteArray):ScB w0 ((((w.setCell ⟨WS,0,none⟩ (.int .i64 d)).setCell ⟨WS,1,none⟩ (.int .i64 f)).setCell ⟨WS,2,none⟩ (.int .i64 j)).setCell ⟨WS,3,none⟩ (.string k)) RB G XB OT WS S cx xp y ents u l d f j k:=by
 have p:=h.o1;have q:=h.o2;have r:=h.o3;have s:=h.o4;have t:=h.o5
 have b:∀ {g:Nat} {m:List Value},g≠WS->Row w g m->Row ((((w.setCell ⟨WS,0,none⟩ (.int .i64 d)).setCell ⟨WS,1,none⟩ (.int .i64 f)).setCell ⟨WS,2,none⟩ (.int .i64 j)).setCell ⟨WS,3,none⟩ (.string k)) g m:=λc i =>
  (((i.other _ (IM c) _).other _ (IM c) _).other _ (IM c) _).other _ (IM c) _
 have c:=h.own_ne (Y WS)
 have bs:∀ {x:World},Below w0.heap.size w0 x->∀i v,Below w0.heap.size w0 (x.setCell ⟨WS,i,none⟩ v):=λo i v=>o.setCell (by show w0.heap.size<=WS;omega) _
 exact⟨b ω h.rb,b ω h.sec,b ω h.xb,b ω h.ot,(((h.ws.set 0 σ _).set 1 σ _).set 2 σ _).set 3 σ _,
  AQ (AQ (AQ (AQ h.own c _) c _) c _) c _,p,q,r,s,t,h.yo,bs (bs (bs (bs h.be _ _) _ _) _ _) _ _⟩
theorem ScB.setEnd(h:ScB w0 w RB G XB OT WS S cx xp y ents u l wk wl wm wp)(d c:Int):ScB w0 ((w.setCell ⟨OT,1,none⟩ (.int .i64 d)).setCell ⟨OT,2,none⟩ (.int .i64 c)) RB G XB OT WS S cx xp y ents d c wk wl wm wp:=by
 have m:=h.o1;have o:=h.o2;have p:=h.o3;have q:=h.o4;have r:=h.o5
 have b:∀ {g:Nat} {f:List Value},g≠OT->Row w g f->Row ((w.setCell ⟨OT,1,none⟩ (.int .i64 d)).setCell ⟨OT,2,none⟩ (.int .i64 c)) g f:=λi j=>(j.other _ (IM i) _).other _ (IM i) _
 have j:=h.own_ne (k:=OT) ω
 have bs:∀ {x:World},Below w0.heap.size w0 x->∀i v,Below w0.heap.size w0 (x.setCell ⟨OT,i,none⟩ v):=λk i v=>k.setCell (by show w0.heap.size<=OT;omega) _
 exact⟨b ω h.rb,b ω h.sec,b ω h.xb,(h.ot.set 1 σ _).set 2 σ _,b ω h.ws,
  AQ (AQ h.own j _) j _,m,o,p,q,r,h.yo,bs (bs h.be _ _) _ _⟩
theorem ScB.push(h:ScB w0 w RB G XB OT WS S cx xp y ents u l wk wl wm wp){b:Value}{ents':List ByteArray}{H:Nat}(o:w'.ownsRow w0.heap.size 9 1 b ents'.length (ents'.map Value.string))(i:w.grownBy w' y.ownBlock)(p:y.ownBlock=b.ownBlock\/b.ownBlock=some H)(x:w.heap.size<=H):ScB w0 (w'.setCell ⟨OT,0,none⟩ b) RB G XB OT WS S cx xp b ents' u l wk wl wm wp:=by
 have q:=h.o1;have r:=h.o2;have s:=h.o3;have t:=h.o4;have v:=h.o5;have z:=h.ws.lt
 have m:∀k,b.ownBlock=some k->WS<k:=λk c=>by
  rcases p with e|e
  ·exact h.yo k (e.j c)
  rw[e]at c;cases c;omega
 have d:∀ {g:Nat} {c:List Value},g<=WS->Row w g c->Row w' g c:=λf j=>j.I i (λe=>h.own_ne f e.symm)
 have f:∀ {g:Nat} {c:List Value},g≠OT->Row w' g c->Row (w'.setCell ⟨OT,0,none⟩ b) g c:=λi j=>j.other _ (IM i) _
 have k:b.ownBlock≠some OT:=λe=>by have:=m OT e;omega
 have j:Below w0.heap.size w0 w':=h.be.j (MR i h.be.size (λg e=>(h.own.lt g e).1))
 exact⟨f ω (d ω h.rb),f ω (d ω h.sec),f ω (d ω h.xb),(d ω h.ot).set 0 σ _,f ω (d (Y _) h.ws),
  AQ o k _,q,r,s,t,v,m,j.setCell (by show w0.heap.size<=OT;omega) _⟩
end
theorem Fx(f g r:Int)(s:ByteArray)(k l m:Int)(p:ByteArray)(w:World):Calls prog 189 #[NK f g r s,NK k l m p] w λe b=>e=.returned (.bool (OV f g k l))/\Below w.heap.size w b:=by
 have i:∀b c,Below w.heap.size w ((w.alloc b).alloc c):=λb c=>(KW _ _).alloc σ _
 obtain⟨B,c⟩:∃B,OV f g k l=B:=⟨_,rfl⟩;have b:=Z c;rw[c];clear c
 by_cases t:l<g
 focus
  have e:B=false:=by rw[<-b.l];unfold OV;simp;omega
  subst e;clear b
 rotate_left
 focus
  by_cases j:k=3
  focus
   subst j
   by_cases c:f=1
   focus
    have e:B=false:=by rw[<-b.l];unfold OV;simp[c]
    subst e;clear b
   rotate_left
   focus
    have e:B=true:=by rw[<-b.l];unfold OV;simp[c];omega
    have q:(f != 1)=true:=by simp[c]
    subst e;clear b
   rotate_left
  rotate_left 2
  focus
   by_cases d:k=1\/k=2
   ·by_cases c:f=1
    focus
     by_cases h:g=l
     focus
      have e:B=true:=by rw[<-b.l];unfold OV;rcases d with rfl|rfl<;>simp[c,h]
     rotate_left
     focus
      have e:B=false:=by rw[<-b.l];unfold OV;rcases d with rfl|rfl<;>simp[c,h]
      have o:(g == l)=false:=by simp[h]
     rotate_left
    rotate_left 2
    focus
     have e:B=true:=by rw[<-b.l];unfold OV;rcases d with rfl|rfl<;>simp[c]<;>omega
     have q:(f != 1)=true:=by simp[c]
    rotate_left
    all_goals
     subst e;clear b;rcases d with rfl|rfl<;>(go_enter func189,ntmps189;go_wp2;go_ret;exact⟨rfl,i _ _⟩)
   focus
    have h:¬k=1:=λe=>d (.inl e)
    have o:¬k=2:=λe=>d (.inr e)
    have e:B=false:=by rw[<-b.l];unfold OV;simp[j,h,o]
    subst e;clear b d
   rotate_left
  rotate_left
 rotate_left 3
 all_goals
  go_enter func189,ntmps189;go_wp2;go_ret;exact⟨rfl,i _ _⟩
end
section
set_option maxHeartbeats 4000000
theorem Bp:(prog.info? 9).map (λi=>(i.zero,i.size,i.bytes))=some (some (.string empty),1,16):=κ
theorem Fp{P:Program}{e:TypeId}{z:Value}{b c:Nat}(h:(P.info? e).map (λi=>(i.zero,i.size,i.bytes))=some (some z,b,c)):∃i,P.info? e=some i/\i.zero=some z/\i.size=b/\i.bytes=c:=by
 obtain⟨i,f,d⟩:=EM.1 h;simp only[EG]at d;exact⟨i,f,d⟩
theorem C0(w:World)(b:Array Value)(t:TypeId):∀j u,b.toList[j]?=some u->(w.alloc (.cells b t)).cell? ((⟨w.heap.size,0,none⟩:Addr).add j)=some u:=World.news_of_block (AW w (.cells b t))
theorem Fz(k:ByteArray):∀u∈[Value.string k],u.oneCell'=true:=by
 intro u b;simp only[DX,EE,GR]at b;subst b;rfl
def zg(N g:Nat)(y:Value)(w:World)(c:List ByteArray)(i h:Int)(d:World):Prop :=∃f,Row d g [f,.int .i64 i,.int .i64 h]/\d.ownsRow N 9 1 f c.length (c.map Value.string)/\(f.ownBlock=y.ownBlock\/∃H,f.ownBlock=some H/\w.heap.size<=H)/\Below N w d/\(∀b,b<w.heap.size->b≠g->some b≠y.ownBlock->d.heap[b]?=w.heap[b]?)
theorem yJ(N d:Nat)(y:Value)(c:List ByteArray)(u0 W k l m:Int)(p i:ByteArray)(x:Nat)(w:World)
  (r:Row w d [y,.int .i64 u0,.int .i64 W])(C:w.ownsRow N 9 1 y c.length (c.map Value.string))(u:N<=d)(v:N<=w.heap.size)(q:y.ownBlock≠some d)(hx:x<=200)(aU:c.length<=300):Calls prog 132 #[.pointer (some ⟨d,0,none⟩),NK k l m p,.int .i64 (x:Int),.string i] w λe b=>e=.returned (.tuple #[])/\zg N d y w (if k=2 then c++[i] else c) ((x:Int)+1) l b:=by
 have aX:IntKind.i64.wrap ((x:Int)+1)=(x:Int)+1:=by simp[IntKind.wrap,IntKind.bits,IntKind.signed];omega
 obtain⟨i0,b,f,g,h⟩:=Fp Bp;have P:=Z (AH b (AH f (AH g h)));clear b f g h
 obtain⟨D,E,rfl⟩:∃D E,y=.slice D c.length E:=by
  rcases MO C with ⟨b,f⟩|⟨h,g,b,_⟩
  ·exact⟨none,0,by rw[b,f]⟩
  exact⟨_,g,b⟩
 obtain⟨c0,c1,c2⟩:=r.k3;obtain⟨f0,f1,f2⟩:=r.z3;have hl:=r.lt;have aW:¬d=w.heap.size:=ω
 have I:=Z (((r.set 1 σ (.int .i64 ((x:Int)+1))).set 2 σ (.int .i64 l)).alloc (.cells #[.int .i64 k,.int .i64 l,.int .i64 m,.string p] 119));have G:=Z ((AQ (AQ C q (a:=⟨d,1,none⟩) (.int .i64 ((x:Int)+1))) q (a:=⟨d,2,none⟩) (.int .i64 l)).alloc (.cells #[.int .i64 k,.int .i64 l,.int .i64 m,.string p] 119));have s:=Z ((((AC N w).setCell (p:=⟨d,1,none⟩) u (.int .i64 ((x:Int)+1))).setCell (p:=⟨d,2,none⟩) u (.int .i64 l)).alloc (by simpa using v) (.cells #[.int .i64 k,.int .i64 l,.int .i64 m,.string p] 119))
 have F:Hid (∀b,b<w.heap.size->b≠d->(((w.setCell ⟨d,1,none⟩ (.int .i64 ((x:Int)+1))).setCell ⟨d,2,none⟩ (.int .i64 l)).alloc (.cells #[.int .i64 k,.int .i64 l,.int .i64 m,.string p] 119)).heap[b]?=w.heap[b]?):=λb o f=>by
  rw[JE _ _ (by simpa using o),BD _ _ _ _ f,BD _ _ _ _ f]
 by_cases B:k=2
 ·subst B
  rw[AF rfl];go_enter func132,ntmps132
  go_wp2_with (first|(at_builtin;refine QN _ rfl _ _ 23 rfl N underlying23 P.l rfl ω _ c.length _ rfl (G.l.alloc _) ⟨w.heap.size+1,0,none⟩ 1 1 [.string i] rfl rfl (by intro j z U;have:=C0 (((w.setCell ⟨d,1,none⟩ (.int .i64 ((x:Int)+1))).setCell ⟨d,2,none⟩ (.int .i64 l)).alloc (.cells #[.int .i64 2,.int .i64 l,.int .i64 m,.string p] 119)) #[.string i] 9 j z U;simpa using this) (Fz _) τ (w.heap.size+1+1) σ ?_;intro A g aY K t L X;have h:=(I.l.alloc (.cells #[.string i] 9)).I t (λe=>q e.symm);have d0:=h.y 0;have e0:=h.E 0;have dl:=h.lt;have R:=Z h;have O:=Z t;have Q:=Z K;have M:=Z L;clear h t K L))
  go_end0
  have T:∀z,(Value.slice D c.length E).ownBlock=some z->N<=z/\z<w.heap.size:=λz t=>C.lt z t
  have L:¬A=d:=λe=>by
   rcases M.l with h|h
   ·exact q (h.j (by rw[e]))
   omega
  refine⟨rfl,.slice (some ⟨A,0,none⟩) (c.length+1) g,R.l.set 0 σ _,?_,?_,?_,λb o f K=>?_⟩
  ·rw[AE,CY]
   exact AQ Q.l (by simpa[Value.ownBlock] using L) _
  ·rcases M.l with h|h
   ·exact .inl h.symm
   exact .inr ⟨A,rfl,ω⟩
  ·exact(((s.l.alloc (AL v s.l.size) _).j (MR O.l (AL v ξ) (λz t=>(T z t).1))).setCell u _)
  rw[BD _ _ _ _ f,O.l.block b τ K,JE _ _ τ]
  exact F.l b o f
 rw[AG B]
 have g:(k == 2)=false:=by simp[B]
 go_enter func132,ntmps132;go_wp2;go_end0;exact⟨rfl,_,I.l,G.l,.inl rfl,s.l,λb o f _=>F.l b o f⟩
end
section
def MX:List ByteArray->List Pr->Option (List Pr)
 | [],rs=>some rs
 | e::es,rs=>match RU e with
  | none=>none
  | some b=>if OE rs b=0 then MX es (ML rs b) else none
theorem ei:∀(es:List ByteArray) (rs:List Pr),LV rs=true->∀r,MX es rs=some r->LV r=true
 | [],rs,h,r,hr=>by cases hr;exact h
 | e::es,rs,h,r,hr=>by
  rw[MX]at hr
  split at hr
  ·cases hr
  split at hr
  ·rename_i hc
   exact ei es _ (ed hc) r hr
  cases hr
theorem ud{b:List Pr}(h:RU e=none):MX (e::es) b=none:=by rw[MX,h]
theorem vi{c:List Pr}{b:List Ch}(h:RU e=some b)(d:OE c b≠0):MX (e::es) c=none:=by rw[MX,h];simp only;rw[AG d]
theorem kf{c:List Pr}{b:List Ch}(h:RU e=some b)(d:OE c b=0):MX (e::es) c=MX es (ML c b):=by rw[MX,h];simp only;rw[AF d]
theorem TQ:LV []=true:=δ
theorem VS{b:List Pr}(h:LV b=true):b.length<=100/\∀x∈b,x.1.size<=1048576/\x.2.size<=1048576:=by
 obtain⟨f,g,j⟩:=(ah b).1 h;refine⟨f,λx i=>?_⟩;obtain⟨c,d⟩:=g x i;unfold OU at c;unfold NY at d;simp at c d;omega
theorem qp{b:List Ch}(h:NL b=true):b.length<=20/\∀x∈b,x.1.size<=1048576/\x.2.1.size<=1048576:=by
 obtain⟨i,f⟩:=WO h;refine⟨ω,λx g=>?_⟩;obtain⟨c,d⟩:=sW (f x g);unfold OU at c;unfold NY at d;simp at c d;omega
def WG(x:RtT):Prop:=(0<=x.1/\x.1<=1000000000)/\(0<=x.2.1/\x.2.1<=1)/\(1<=x.2.2.1/\x.2.2.1<=999999000)/\(0<=x.2.2.2/\x.2.2.2<=60000)
theorem sU{s:ByteArray}{a:Int}{x:RtT}(h:MU s a n=some x):WG x:=by
 unfold MU at h
 split at h
 ·cases h
 rename_i k l m p g
 have i:=SI g
 split at h
 ·rename_i f
  cases h
  obtain⟨j,b,o⟩:=f
  have d:TJ (QV p) (QQ p):=by
   by_cases e:TJ (QV p) (QQ p)
   ·exact e
   exfalso
   unfold MB at b;rw[AG e]at b;have c:=i.1;rw[<-b]at c;exact absurd c δ
  unfold TJ at d;unfold WG;simp only;omega
 cases h
theorem oI{b:RtT}{o:Option RtT}(c:WG b)(d:∀x,o=some x->WG x):WG (QS b o):=by
 unfold QS
 split
 ·exact c
 rename_i r
 split
 ·exact d _ rfl
 exact c
theorem Gr(c d:ByteArray)(n:Int):WG (OF c d n):=by
 unfold OF;exact oI (oI (by unfold WG;simp) (λx b=>sU b)) (λx b=>sU b)
theorem fo(h:LG ss ws=true/\1<=n/\n<=8):WG (MG ss ws n):=by
 unfold MG;rw[AF h];exact Gr _ _ _
def NT(ss:List ByteArray)(ws:List (Int×ByteArray))(n:Int):Scd:=SY ss ws (2+(MG ss ws n).2.1*hv ss.length) (hv ss.length) (MG ss ws n).2.2.1 (MG ss ws n).2.2.2 n
theorem Bl(h:8<=S/\S<=200):2+2*hv S<=S:=by unfold hv;rw[AF h];omega
theorem oh{q:Int}(h:0<=H/\H<=1)(b:0<=q):0<=H*q/\H*q<=q:=by
 have:H=0\/H=1:=ω
 rcases this with rfl|rfl<;>omega
theorem sA(h:LG ss ws=true/\1<=n/\n<=8):XU ss ws (2+(MG ss ws n).2.1*hv ss.length) (hv ss.length) n:=by
 have b:=fo h;obtain⟨⟨d,f,g⟩,c,l⟩:=PA h.1;have i:=PJ (S:=(ss.length:Int)) ω;have j:=Bl (S:=(ss.length:Int)) ω;have k:=oh b.2.1 (q:=hv ss.length) ω;exact⟨h.1,h.2,ω,ω,ω,ω⟩
theorem my(h:LG ss ws=true/\1<=n/\n<=8):(0<=(NT ss ws n).2.1/\(NT ss ws n).2.1<=hv ss.length)/\(0<=(NT ss ws n).2.2/\(NT ss ws n).2.2<=60000)/\(NT ss ws n).1.length<=99/\∀e∈(NT ss ws n).1,e.size<=6336:=by
 have f:=fo h;have b:=sA h;obtain⟨⟨j,l,m⟩,i,o⟩:=PA h.1;have c:=PJ (S:=(ss.length:Int)) ω;unfold NT SY;rw[AF b];obtain⟨q,g⟩:∃q:Nat,hv ss.length=(q:Int):=⟨(hv ss.length).toNat,ω⟩;rw[g]at c⊢;simp only[BM];have u1:=uz (λk=>(xhE ws ss).getD k empty) (2+(MG ss ws n).2.1*(q:Int)).toNat (MG ss ws n).2.2.1 n q 0 0 (MG ss ws n).2.2.2 empty ([],0,(MG ss ws n).2.2.2) σ;have u2:=wu (λk=>(xhE ws ss).getD k empty) (2+(MG ss ws n).2.1*(q:Int)).toNat (MG ss ws n).2.2.1 n q 0 0 (MG ss ws n).2.2.2 empty ([],0,(MG ss ws n).2.2.2);have u3:=ze (λk=>(xhE ws ss).getD k empty) (2+(MG ss ws n).2.1*(q:Int)).toNat (MG ss ws n).2.2.1 n q 0 0 (MG ss ws n).2.2.2 empty ([],0,(MG ss ws n).2.2.2) 6336 (by show 0+64*q<=6336;omega) (by intro e d;cases d);simp only[AR]at u3
 refine⟨ω,?_,ω,u3.1⟩;have:=f.2.2.2;rcases u2 with u2|u2
 ·rw[u2];exact this
 omega
def OM(ss:List ByteArray)(ws:List (Int×ByteArray))(n:Int):Dd :=if LG ss ws=true/\1<=n/\n<=8 then
  match MX (NT ss ws n).1 [] with
  | none=>LD 2
  | some rs =>
   if 60000<(NT ss ws n).2.2+1 then LD 3
   else if hv ss.length-1<LT (LI rs) n then LD 4
   else if hv ss.length<=(NT ss ws n).2.1 then OH n ss.length ((NT ss ws n).2.2+1) (MG ss ws n).1 (MG ss ws n).2.1 (MG ss ws n).2.2.1 rs
   else ⟨0,n,ss.length,(NT ss ws n).2.2+1,(MG ss ws n).1,(MG ss ws n).2.1,(MG ss ws n).2.2.1,(MG ss ws n).2.2.2,(NT ss ws n).2.1+1,0,rs,
    [(false,2+(MG ss ws n).2.1*hv ss.length+(NT ss ws n).2.1,LS 3 ((NT ss ws n).2.2+1) ((MG ss ws n).2.2.1+(NT ss ws n).2.1) empty n),(true,0,empty)]⟩
 else LD 1
section
variable {ss:List ByteArray} {ws:List (Int×ByteArray)} {n T H F R U L:Int} {es:List ByteArray} {rs:List Pr}
theorem gw(h:¬(LG ss ws=true/\1<=n/\n<=8)):OM ss ws n=LD 1:=by unfold OM;rw[AG h]
theorem ww(h:LG ss ws=true/\1<=n/\n<=8)(b:NT ss ws n=(es,U,L))(c:MX es []=none):OM ss ws n=LD 2:=by
 unfold OM;rw[AF h,b];simp only;rw[c]
theorem yk(h:LG ss ws=true/\1<=n/\n<=8)(b:NT ss ws n=(es,U,L))(c:MX es []=some rs)(d:60000<L+1):OM ss ws n=LD 3:=by
 unfold OM;rw[AF h,b];simp only;rw[c];simp only;rw[AF d]
theorem tz(h:LG ss ws=true/\1<=n/\n<=8)(b:NT ss ws n=(es,U,L))(c:MX es []=some rs)(d:¬60000<L+1)(f:hv ss.length-1<LT (LI rs) n):OM ss ws n=LD 4:=by
 unfold OM;rw[AF h,b];simp only;rw[c];simp only;rw[AG d,AF f]
theorem ke(h:LG ss ws=true/\1<=n/\n<=8)(b:MG ss ws n=(T,H,F,R))(c:NT ss ws n=(es,U,L))(d:MX es []=some rs)(f:¬60000<L+1)(g:¬hv ss.length-1<LT (LI rs) n)(i:hv ss.length<=U):OM ss ws n=OH n ss.length (L+1) T H F rs:=by
 unfold OM;rw[AF h,c,b];simp only;rw[d];simp only;rw[AG f,AG g,AF i]
theorem kn(h:LG ss ws=true/\1<=n/\n<=8)(b:MG ss ws n=(T,H,F,R))(c:NT ss ws n=(es,U,L))(d:MX es []=some rs)(f:¬60000<L+1)(g:¬hv ss.length-1<LT (LI rs) n)(i:¬hv ss.length<=U):OM ss ws n=⟨0,n,ss.length,L+1,T,H,F,R,U+1,0,rs,[(false,2+H*hv ss.length+U,LS 3 (L+1) (F+U) empty n),(true,0,empty)]⟩:=by
 unfold OM;rw[AF h,c,b];simp only;rw[d];simp only;rw[AG f,AG g,AG i]
end
theorem Gs{W L T F:Int}{b:List Pr}(f:b.length<=1048576)(c:XN W S L T H F b):(OH W S L T H F b).rs.length<=1048576/\(OH W S L T H F b).ops.length<=1000:=by
 unfold OH
 cases h2:WB S T F with
 | false=>simp[LD]
 | true =>
  obtain⟨⟨i,h⟩,d,j,k,l,m,o⟩:=c;have p:=PJ d;have g:=ae L (F+hv S) W.toNat (56-W.toNat) ω ω ω (LI b);rw[show((W.toNat:Nat):Int)=W by omega]at g;simp only[GZ,TN,AE,RF];refine⟨f,?_⟩;simp;omega
theorem I1(ss:List ByteArray)(ws:List (Int×ByteArray))(n:Int):(OM ss ws n).rs.length<=1048576/\(OM ss ws n).ops.length<=1000:=by
 by_cases h:LG ss ws=true/\1<=n/\n<=8
 ·obtain⟨T,H,F,R,f⟩:∃T H F R,MG ss ws n=(T,H,F,R):=⟨_,_,_,_,rfl⟩
  obtain⟨es,U,L,b⟩:∃es U L,NT ss ws n=(es,U,L):=⟨_,_,_,rfl⟩;have c:=fo h;have j:=my h;rw[f]at c;rw[b]at j;unfold WG at c;simp only at c j;obtain⟨⟨l,m,o⟩,_,_⟩:=PA h.1
  cases hf:MX es [] with
  | none=>rw[ww h b hf];simp[LD]
  | some k =>
   have p:=(VS (ei es [] TQ k hf)).1
   by_cases d:60000<L+1
   ·rw[yk h b hf d];simp[LD]
   by_cases g:hv ss.length-1<LT (LI k) n
   ·rw[tz h b hf d g];simp[LD]
   by_cases i:hv ss.length<=U
   ·rw[ke h f b hf d g i]
    exact Gs ω ⟨h.2,ω,ω,c.1,c.2.1,c.2.2.1,ω⟩
   rw[kn h f b hf d g i]
   simp;omega
 rw[gw h];simp[LD]
end
def YU(w d:World)(e:Ending)(b:List Pr)(f:Int):Prop:=∃a c,e=.returned (.tuple #[LQ a b.length c,.int .i64 f])/\b.length<=c/\OwnS d a (LH b)/\(∀g,blk a b.length=some g->w.heap.size<=g)/\Below w.heap.size w d
theorem cd{d:World}{e:Ending}{c:Nat}{b:Int}(i:e=.returned (.tuple #[LQ a 0 c,.int .i64 b]))(f:Below w.heap.size w d):YU w d e [] b:=⟨a,c,i,AO _,.inl rfl,λg h=>(by cases h),f⟩
theorem OwnS.setA{b:List Value}(h:OwnS w a b)(p:Addr)(d:∀g,a=some ⟨g,0,none⟩->b≠[]->p.block≠g)(v:Value):OwnS (w.setCell p v) a b:=by
 by_cases c:b=[]
 ·exact .inl c
 obtain⟨g,rfl,f⟩:=h.resolve_left c
 exact .inr ⟨g,rfl,f.other p (d g rfl c) v⟩
theorem OwnS.prsA{b:List Pr}(h:OwnS w a (LH b)):Prs w a b:=by
 rcases h with h|⟨g,rfl,h⟩
 ·exact .inl (by have:=BY List.length h;rw[XL,AR]at this;exact AB ω)
 exact h.prs
theorem sp{b:List Pr}(h:LH b≠[]):b.length≠0:=λe=>h (by rw[AB e];rfl)
theorem vO(a:Option Addr)(d:List Pr)(c:Nat)(P:Option Addr)(b:List Ch)(c2:Nat)(w:World)(h:Prs w a d)(hl:d.length<=1048576)(hs:∀x∈d,x.1.size<=1048576/\x.2.size<=1048576)(r:Chs w P b)(dH:b.length<=1048576)(dQ:∀x∈b,x.1.size<=1048576/\x.2.1.size<=1048576):Calls prog 21 #[LQ a d.length c,.slice P b.length c2] w λe f=>YU w f e (OA d b) (OE d b):=by
 have o:∀g i,Below w.heap.size w ((w.alloc g).alloc i):=λg i=>(KW _ _).alloc σ _
 have D:=Z (λf j=>pi a d c f j hl hs);have M:=Z (λf j=>oq P b c2 f j dH dQ);unfold LQ;unfold OA OE
 cases hok:LV d with
 | false =>
  rw[hok]at D;simp only[Bool.false_and,EW,IJ];rw[AG ω];go_enter func21,ntmps21;go_wp2_with (go_at_call 41;refine(D.l _ (h.z (o _ _))).A ?_;rintro e F ⟨rfl,g⟩;have i:F.cell? ⟨w.heap.size+1,0,none⟩=some (.slice none 0 0):=NX g γ σ;have q:F.frozen? ⟨w.heap.size+1,0,none⟩=false:=SC g γ σ;have x:w.heap.size+1<F.heap.size:=AD σ g.size);refine AI (v:=.tuple #[LQ none 0 0,.int .i64 1]) (by simp[results,results21,go_sem,LQ,i]) rfl (cd rfl ?_);exact((o _ _).j (g.A τ)).setCell (p:=⟨w.heap.size+1,0,none⟩) (by show w.heap.size<=w.heap.size+1;omega) _
 | true =>
  rw[hok]at D;simp only[IB]
  cases hokb:NL b with
  | false =>
   rw[hokb]at M;simp only[EW,IJ];rw[AG ω];go_enter func21,ntmps21
   go_wp2_with (first|(go_at_call 41;refine(D.l _ (h.z (o _ _))).A ?_;rintro e F ⟨rfl,g⟩;have u:=Z g;clear g)|(go_at_call 20;refine(M.l _ (r.z ((o _ _).j (u.l.A τ)))).A ?_;rintro e t ⟨rfl,l⟩;have g:=u.l;have k:=g.j (l.A g.size);have i:t.cell? ⟨w.heap.size+1,0,none⟩=some (.slice none 0 0):=NX k γ σ;have q:t.frozen? ⟨w.heap.size+1,0,none⟩=false:=SC k γ σ;have x:w.heap.size+1<t.heap.size:=AD σ k.size))
   refine AI (v:=.tuple #[LQ none 0 0,.int .i64 1]) (by simp[results,results21,go_sem,LQ,i]) rfl (cd rfl ?_);exact((o _ _).j (k.A τ)).setCell (p:=⟨w.heap.size+1,0,none⟩) (by show w.heap.size<=w.heap.size+1;omega) _
  | true =>
   rw[hokb]at M;simp only[GZ];have eC:d.length<=100:=(ZT hok).1;have dL:b.length<=20:=(WO hokb).1.2;have bT:=Z (λf j=>lk a d c f j hl);unfold gp LQ at bT;have cJ:=Z (re d b);go_enter func21,ntmps21
   go_wp2_with (first|(go_at_call 41;refine(D.l _ (h.z (o _ _))).A ?_;rintro e F ⟨rfl,g⟩;have u:=Z g;clear g)|(go_at_call 20;refine(M.l _ (r.z ((o _ _).j (u.l.A τ)))).A ?_;rintro e t ⟨rfl,l⟩;have A:=Z (u.l.j (l.A u.l.size));clear l;have q0:t.cell? ⟨w.heap.size,0,none⟩=some (.slice a d.length c):=NX A.l γ τ)|(go_at_call 63;refine(bT.l _ (h.z ((o _ _).j (A.l.A τ)))).A ?_;rintro e j ⟨a5,c5,rfl,cW,m,k,i⟩;have bQ:=Z (A.l.j (i.A A.l.size));have bU:=Z m;have bG:=cW;have cH:=Z k;have aY:=Z i.size;clear m k i))
   have eF:w.heap.size+1<t.heap.size:=by have:=A.l.size;simp at this;omega
   have eG:t.heap.size<=j.heap.size:=aY.l;have v:Hid (Below w.heap.size w j):=(o _ _).j (bQ.l.A τ)
   have cL:Hid (∀f,Below j.heap.size j f->Row f (w.heap.size+1) [.slice none 0 0]):=λf E=>((fj (w:=w.alloc (.cells #[.slice a d.length c] 31)) (A:=#[.slice none 0 0]) (t:=31) (g:=w.heap.size+1) σ).z bQ.l).z E
   go_loopw [7] (λi wr=>∃k:Nat,k<=b.length/\i=.int .i64 (k:Int)/\∃p s,Row wr j.heap.size [.slice p (ML d (b.take k)).length s]/\(ML d (b.take k)).length<=s/\OwnS wr p (LH (ML d (b.take k)))/\(∀g,blk p (ML d (b.take k)).length=some g->w.heap.size+1<g/\g≠j.heap.size)/\Below j.heap.size j wr) (λi _=>b.length-(intOf i).toNat)
   case atStart=>exact⟨0,AO _,rfl,a5,c5,LU j _ _,bG,bU.l.z (KW _ _),λg m=>by have h1:=cH.l g m;have r:=bU.l.lt d.length (λh e=>h (by have:=BY List.length e;rw[XL,AR]at this;omega)) g m;omega,KW _ _⟩
   case round =>
    obtain⟨k,hk,rfl,p,s,i,U,x,q,l⟩:=hrel;have hN:=cJ.l k;have cC:=i.y 0;have dV:=i.E 0;have eB:=i.lt;have dR:=l.size;have T:=Z i;have L:=Z x;have I:=Z q;have B:=Z l;clear i x q l
    by_cases X:k<b.length
    ·obtain⟨i,l,y,z,x,rfl,cT,cU,cV,G⟩:=(r.z (v.l.j (B.l.A v.l.size))).at X
     have Q:i<w.heap.size:=by
      rcases r with h|⟨q,C,h1,r,_⟩
      ·subst h;simp at X
      cases h1;exact r
     have dM:(k:Int)<(b.length:Int):=ω
     have dZ:(0:Int)<=(k:Int):=ω
     have N:ML d (b.take (k+1))=ON (y,z,x) (ML d (b.take k)):=by rw[mi b k (empty,empty,false) X,db,<-G.l]
     have C:=Z N;have R:=Z (λW (hW:Prs W p (ML d (b.take k)))=>Ek p (ML d (b.take k)) s y z x W hW ω);obtain⟨q,K⟩:∃q,q=ML d (b.take k):=⟨_,rfl⟩;rw[<-K]at C R T L I cC hN U;clear N K G;unfold LQ gp at R
     have O:Hid (∀f,Below w.heap.size wr f->f.cell? ⟨i,l+k*3,none⟩=some (.string y)/\f.cell? ⟨i,l+k*3+1,none⟩=some (.string z)/\f.cell? ⟨i,l+k*3+2,none⟩=some (.bool x)):=λf E=>⟨(E.cell (p:=⟨i,l+k*3,none⟩) Q).j cT,(E.cell (p:=⟨i,l+k*3+1,none⟩) Q).j cU,(E.cell (p:=⟨i,l+k*3+2,none⟩) Q).j cV⟩
     have cF:w.heap.size<=wr.heap.size:=ω
     go_wp2_with fail;refine AN (S:=λf=>f.cell? ⟨i,l+k*3,none⟩=some (.string y)/\f.cell? ⟨i,l+k*3+1,none⟩=some (.string z)/\f.cell? ⟨i,l+k*3+2,none⟩=some (.bool x)) κ (O.l _ (AC _ _).drew) (λE=>?_);refine V 1 (.slice (some ⟨i,l,none⟩) b.length c2) rfl E (V 2 (.int .i64 (k:Int)) rfl E (V 3 (.pointer (some ⟨i,l+k*3,none⟩)) rfl E (V 4 (.agg #[.string y,.string z,.bool x]) rfl E ?_)));simp only[J];refine RD 0 rfl (λK f=>?_);go_simp;refine f.l _ _ E (λ_=>?_);clear f K
     try simp only[J]
     refine RD 5 rfl (λK f=>?_);refine LC ρ 64 #[.agg #[.slice p q.length s],.agg #[.string y,.string z,.bool x]] γ (R.l _ ((L.l.z (AC _ _).drew).prsA)) ?_;rintro e w7 ⟨a7,c7,rfl,cY,dN,bY,cS⟩;refine⟨_,rfl,?_⟩;have G:Below wr.heap.size wr w7:=(AC _ _).drew.j cS;have N:=T.l.z G;have q7:=N.y 0;have f7:=N.E 0;have l7:=N.lt;refine f.l _ _ (O.l _ (G.A cF)) (λcP=>?_);clear f K
     try simp only[J]
     refine RD 6 rfl (λK f=>?_);go_simp;refine f.l _ _ (O.l _ ((G.A cF).setCell (p:=⟨j.heap.size,0,none⟩) (by show w.heap.size<=j.heap.size;omega) _)) (λcQ=>?_);clear f K
     try simp only[J]
     refine DN ?_;go_wp2;refine⟨⟨k+1,ω,ν,a7,c7,?_,?_,?_,?_,?_⟩,by simp[intOf];omega⟩
     ·rw[C.l];exact N.set 0 σ _
     ·rw[C.l];exact cY
     ·rw[C.l];exact dN.setA _ (λg m K=>by have:wr.heap.size<=g:=bY g (by subst m;exact MS _ _ _ (sp K));show j.heap.size≠g;omega) _
     ·rw[C.l];exactλg m=>by have:wr.heap.size<=g:=bY g m;omega
     exact(B.l.j (G.A dR)).setCell (p:=⟨j.heap.size,0,none⟩) (Y _) _
    have z:k=b.length:=ω
    subst z;have f:=cL.l _ B.l;have i:=f.y 0;have q:=f.E 0;have x:=f.lt;have E:w.heap.size+1≠j.heap.size:=ω
    have C:¬j.heap.size=w.heap.size+1:=ω
    rw[DA]at cC U T L I;clear f hN
    by_cases f:(ML d b).length<=100
    ·have y:=Z f
     have l:((ML d b).length:Int)<=100:=ω
     clear f;go_wp2_with fail;refine AI (v:=.tuple #[LQ p (ML d b).length s,.int .i64 0]) (by simp[results,results21,go_sem,LQ,i]) rfl ⟨p,s,rfl,U,?_,λg m=>by have:=(I.l g m).1;omega,?_⟩
     ·exact L.l.setA _ (λg m K=>by have:=(I.l g (by subst m;exact MS _ _ _ (sp K))).1;show w.heap.size+1≠g;omega) _
     exact(v.l.j (B.l.A v.l.size)).setCell (p:=⟨w.heap.size+1,0,none⟩) (by show w.heap.size<=w.heap.size+1;omega) _
    have y:=Z f
    have l:¬((ML d b).length:Int)<=100:=ω
    clear f;go_wp2_with fail;refine AI (v:=.tuple #[LQ none 0 0,.int .i64 2]) (by simp[results,results21,go_sem,LQ,i]) rfl (cd rfl ?_);exact(v.l.j (B.l.A v.l.size)).setCell (p:=⟨w.heap.size+1,0,none⟩) (by show w.heap.size<=w.heap.size+1;omega) _
def NR(W S L T H F R U O:Int)(c:List Pr)(b:List Ch):Dd :=if (NE W S L T H F R U O c && NL b)=true then
  if OE c b=0 then
   if LT (LI (OA c b)) W<=hv S-1 then
    if MY (KZ b).size W<=hv S-U then
     ⟨0,W,S,L,T,H,F,R,U+MY (KZ b).size W,O+MY (KZ b).size W,OA c b,MA (2+H*hv S+U) (NV (KZ b) L (F+U) W.toNat (56-W.toNat))⟩
    else LD 4
   else LD 3
  else LD 2
 else LD 1
theorem yg(s:ByteArray)(l f:Int)(n m:Nat)(i:n+m=56)(c:1<=n)(d:n<=8)(h:1<=l/\l<=60000)(g:1<=f)(b:f+MY s.size (n:Int)<=1000000001):((NV s l f n m).length:Int)=MY s.size (n:Int):=by
 have e:(56-(n:Int)).toNat=m:=ω
 unfold MY at b⊢;rw[AF ω,e]at b⊢;rw[YG rfl ω,WX]
theorem jn(l:Nat)(n:Int)(b:1<=n)(c:n<=8):0<=MY l n/\MY l n<=(l:Int) / 48+1:=by
 unfold MY;rw[AF ⟨b,c⟩];unfold NA
 split
 ·rename_i h;subst h;simp
 have d:48<=(56-n).toNat:=ω
 have:(l-1) / (56-n).toNat<=l / 48:=AL (Nat.div_le_div_right ω) (Nat.div_le_div_left d ω);obtain⟨z,f⟩:∃z,z=(l-1) / (56-n).toNat:=⟨_,rfl⟩;rw[<-f]at this⊢;omega
theorem UE{W L T F R U O:Int}{b:List Pr}(h:NE W S L T H F R U O b=true):(1<=W/\W<=8)/\(8<=S/\S<=200)/\(1<=L/\L<=60000)/\(0<=T/\T<=1000000000)/\(0<=H/\H<=1)/\(1<=F/\F<=999999000)/\(0<=U/\U<=hv S)/\(0<=O/\O<=U)/\LV b=true:=by
 unfold NE RT at h;simp only[BE,BC]at h;obtain⟨⟨⟨⟨⟨⟨⟨c,d⟩,f⟩,⟨⟨g,_⟩,i⟩,j⟩,k⟩,l⟩,m⟩,_⟩:=h;exact⟨c,d,f,g,i,j,k,l,m⟩
theorem qx(d:List Pr)(b:List Ch):(OA d b).length<=100:=by
 unfold OA
 by_cases c:OE d b=0
 ·rw[AF c]
  unfold OE at c
  by_cases f:(LV d && NL b)=true
  ·rw[AF f]at c
   by_cases g:(ML d b).length<=100
   ·exact g
   rw[AG g]at c;omega
  rw[AG f]at c;omega
 rw[AG c];simp
theorem zd(c:Ch):∀(d:List Pr) (k:Nat),k=d.length->∀x∈(chW c d).2,x∈d\/x=(c.1,c.2.1)
 | d,0,hk=>by rw[AB hk.symm];simp[chW]
 | d,k+1,hk=>by
  obtain⟨p,bs,rfl⟩:∃b bs,d=bs++[b]:=by
   rcases EF d with h|⟨l,a,h⟩
   ·subst h;simp at hk
   exact⟨a,l,by simpa using h⟩
  have f:=zd c bs k (by simp at hk;omega);rw[qu];generalize chW c bs=i at f⊢;intro x b;unfold UP at b
  have g:x∈i.2\/x=(c.1,c.2.1)\/x=p:=by
   split at b
   ·split at b
    ·rcases BS.1 b with h|h
     ·exact .inl h
     exact .inr (.inl (DJ.1 h))
    exact .inl b
   split at b
   ·rcases BS.1 b with h|h
    ·rcases BS.1 h with h|h
     ·exact .inl h
     exact .inr (.inl (DJ.1 h))
    exact .inr (.inr (DJ.1 h))
   rcases BS.1 b with h|h
   ·exact .inl h
   exact .inr (.inr (DJ.1 h))
  rcases g with h|h|h
  ·rcases f x h with h|h
   ·exact .inl (by simp[h])
   exact .inr h
  ·exact .inr h
  exact .inl (by simp[h])
theorem Cd(m:List Pr)(P:Pr->Prop)(h:∀x∈m,P x):∀(b:List Ch),(∀c∈b,P (c.1,c.2.1))->∀x∈ML m b,P x:=by
 intro b;obtain⟨k,j⟩:∃k,k=b.length:=⟨_,rfl⟩
 induction k generalizing b with
 | zero=>intro _;rw[AB j.symm];exact h
 | succ k o =>
  intro g
  obtain⟨c,bs,rfl⟩:∃c bs,b=bs++[c]:=by
   rcases EF b with h|⟨l,a,h⟩
   ·subst h;simp at j
   exact⟨a,l,by simpa using h⟩
  have i:=o bs (by simp at j;omega) (λc d=>g c (by simp[d]));rw[db];intro x d;unfold ON at d
  split at d
  ·rcases zd c _ _ rfl x d with f|f
   ·exact i x f
   rw[f];exact g c σ
  rw[BS]at d
  rcases d with d|d
  ·rcases zd c _ _ rfl x d with f|f
   ·exact i x f
   rw[f];exact g c σ
  simp at d;rw[d];exact g c σ
theorem nM(d:List Pr)(b:List Ch)(P:Pr->Prop)(h:∀x∈d,P x)(f:∀c∈b,P (c.1,c.2.1)):∀x∈OA d b,P x:=by
 unfold OA
 split
 ·exact Cd d P h b f
 simp
theorem An(W S L T H F R U O:Int)(c:List Pr)(b:List Ch):(NR W S L T H F R U O c b).rs.length<=1048576/\(NR W S L T H F R U O c b).ops.length<=1000:=by
 unfold NR
 split
 ·rename_i d
  rw[BE]at d;obtain⟨g,f,h,i,j,k,l,m,o⟩:=UE d.1;have q:=PJ f
  split
  ·split
   ·split
    ·rename_i p
     refine⟨by have:=qx c b;simp;omega,?_⟩;simp only[RF];have:=vB (KZ b) L (F+U) W.toNat (56-W.toNat) ω ω ω;rw[show((W.toNat:Nat):Int)=W by omega]at this;omega
    simp[LD]
   simp[LD]
  simp[LD]
 simp[LD]
theorem Gz{b n o:Nat}{i:Option Addr}{os:List OpT}(h:w.ownsRow b 78 3 (.slice i n o) os.length (NJ os)):n=os.length/\OwnS w i (NJ os)/\∀g,blk i os.length=some g->b<=g/\g<w.heap.size:=by
 rcases MO h with ⟨c,d⟩|⟨g,j,c,d,l,f⟩
 ·injection c with c l f
  rw[d];exact⟨ω,.inl (by rw[AB d];rfl),λg k=>by simp[blk]at k⟩
 injection c with c m p
 subst c
 exact⟨m,.inr ⟨g,rfl,f⟩,λq k=>by
  unfold blk at k
  split at k
  ·cases k
  simp at k;subst k;exact⟨d,f.lt⟩⟩
theorem vj(W S L T H F R U O:Int)(a:Option Addr)(t:List Pr)(c:Nat)(a2:Option Addr)(b:List Ch)(c2:Nat)(w:World)(h:Prs w a t)(hl:t.length<=1048576)(hs:∀x∈t,x.1.size<=1048576/\x.2.size<=1048576)(h2:Chs w a2 b)(bY:b.length<=1048576)(aP:∀x∈b,x.1.size<=1048576/\x.2.1.size<=1048576):Calls prog 6 #[MM W S L T H F R U O a t.length c,.slice a2 b.length c2] w λx j=>TR w j x (NR W S L T H F R U O t b):=by
 obtain⟨i0,d,f,g,i⟩:=WP tL;have HI:=Z (AH d (AH f (AH g i)));clear d f g i;have m:=Z (λj g=>kx W S L T H F R U O a t c j g hl hs);have r:=Z (λj g=>oq a2 b c2 j g bY aP);have l:=Z (λj g d=>vO a t c a2 b c2 j g hl hs d bY aP);unfold YU LQ at l;have eI:=qx t b;have cJ:=Z (nM t b (λx=>x.1.size<=1048576/\x.2.size<=1048576) hs aP);obtain⟨D,K⟩:∃D,Hid (D=NR W S L T H F R U O t b):=⟨_,Z rfl⟩;rw[<-K.l];have f:=K.l;unfold NR at f;clear K;obtain⟨u,cI⟩:∃u,Hid (u=OA t b):=⟨_,Z rfl⟩;obtain⟨C1,dR⟩:∃C1,Hid (C1=OE t b):=⟨_,Z rfl⟩;rw[<-cI.l]at eI cJ;rw[<-cI.l,<-dR.l]at l f;have HG:=Z h;have aZ:=Z h2;have eC:=Z aP;clear h h2 hs aP;unfold MM at m⊢;have k:=Z f;clear f;go_enter func6,ntmps6;go_upto_region 1 with fail;generalize d:w.alloc _=v1;obtain⟨i,p,q⟩:=LF d;clear d;generalize d:v1.alloc _=v2
 obtain⟨o,s,f⟩:=LF d;clear d;rw[p]at f;have d:StB w v2 (sJ W S L T H F R U O (.slice a t.length c)) (λ_=>True):=⟨i.j (o.A i.size),(q.z o).q,f.q,SK (λ_=>trivial)⟩;have v:w.heap.size+1<v2.heap.size:=f.q.lt;clear i o q f p s;refine BG ?_;refine AS rfl 33 _ rfl w.heap.size 0 rfl _ _ d.r1.range underlying33 rfl PC ?_;simp only[J];go_wp2_with fail;refine(m.l _ (HG.l.z d.e)).A ?_;rintro x v3 ⟨rfl,i⟩;replace d:=d.z i;clear i v m
 cases hok:NE W S L T H F R U O t
 focus
  obtain rfl:D=LD 1:=by rw[k.l,AG (by rw[hok];simp)]
 rotate_left
 focus
  go_wp2_with fail;refine(r.l _ (aZ.l.z d.e)).A ?_;rintro x v4 ⟨rfl,i⟩;replace d:=d.z i;clear i r
  cases hokb:NL b
  focus
   obtain rfl:D=LD 1:=by rw[k.l,AG (by rw[hokb];simp)]
  rotate_left
  focus
   obtain⟨hW,hS,eL,hT,hH,hF,hU,hO,_⟩:=UE hok;have hQ:=PJ hS;have f:=k.l;rw[AF (by rw[hok,hokb];rfl)]at f;clear hok hokb k;have HH:=Z (λj=>XD S j);have HB:=Z (λj=>ro S H hH.1 hH.2 j);obtain⟨n,rfl⟩:∃n:Nat,W=(n:Int):=⟨W.toNat,ω⟩;have i:(n:Int).toNat=n:=ω
   rw[i]at f;obtain⟨m,k⟩:∃m,m=56-n:=⟨_,rfl⟩;rw[<-k]at f;have cT:n+m=56:=ω
   clear i k;have HF:=Z (λj g=>dh a2 b c2 j g bY eC.l);have eM:=an b;have aY:=Z (λj=>uG (KZ b) L (F+U) n m j ω cT ω ω);have cU:=jn (KZ b).size (n:Int) ω ω;have k:=yg (KZ b) L (F+U) n m cT ω ω eL ω;obtain⟨Q,HQ⟩:∃Q,Hid (Q=hv S):=⟨_,Z rfl⟩;obtain⟨N,HN⟩:∃N,Hid (N=MY (KZ b).size (n:Int)):=⟨_,Z rfl⟩;obtain⟨bo,i⟩:∃bo,bo=KZ b:=⟨_,rfl⟩;obtain⟨o,hcut⟩:∃o,o=NV (KZ b) L (F+U) n m:=⟨_,rfl⟩;have bW:(o.length:Int)=N:=by rw[hcut,HN.l];exact k ω
   rw[<-hcut]at aY f;rw[<-i]at HF aY eM cU;rw[<-i]at HN;rw[<-HN.l]at cU;rw[<-HQ.l]at hQ hU HH HB f;rw[<-i,<-HN.l]at f;clear k hcut i;obtain⟨q,i⟩:∃q,q=2+H*Q:=⟨_,rfl⟩
   have fH:2<=q/\q<=101:=by
    rcases(show H=0\/H=1 by omega) with e|e
    ·subst e;omega
    subst e;omega
   rw[<-i]at HB f;clear i;obtain⟨r,eB⟩:∃r,Hid (r=LT (LI u) (n:Int)):=⟨_,Z rfl⟩;have p:=Z (λi k j g=>qk i u k (n:Int) j g ω cJ.l);have eX:=ZP (LI u) (n:Int);have fJ:=ZI u;rw[<-eB.l]at p eX f;have K:=Z f;clear f;have fO:IntKind.i64.wrap (Q-1)=Q-1:=by simp[IntKind.wrap,IntKind.bits,IntKind.signed];omega
   have fQ:IntKind.i64.wrap (Q-U)=Q-U:=by simp[IntKind.wrap,IntKind.bits,IntKind.signed];omega
   have fS:IntKind.i64.wrap (F+U)=F+U:=by simp[IntKind.wrap,IntKind.bits,IntKind.signed];omega
   have f:=d.r1.y 9;have C:=d.r1.lt;go_wp2_with fail;clear f C;refine(l.l _ (HG.l.z d.e) (aZ.l.z d.e)).A ?_;rintro x v5 ⟨B,M,rfl,eN,f,hg,i⟩;have l4:=d.r2.lt;have z:=PD (lo:=v4.heap.size) f RA hg
   have eZ:∀g,blk B u.length=some g->g<v5.heap.size:=λg k=>ZW f k
   replace d:=d.z i;clear i l f;go_upto_region 4 with fail;generalize f:v5.alloc _=v6;obtain⟨i,s,l⟩:=LF f;clear f;have E:=l.q;obtain⟨X5,f⟩:∃k,k=v5.heap.size:=⟨_,rfl⟩;rw[<-f]at E⊢;have l5:w.heap.size+1<X5:=by rw[f];exact d.r2.lt
   replace d:=d.z i;replace z:=z.z i;have fY:v5.heap.size<=v6.heap.size:=i.size;clear i l s f;generalize Value.tuple _=T0;generalize Value.agg _=A0
   try generalize Value.agg _=A9
   by_cases hC:C1=0
   case neg =>
    obtain rfl:D=LD 2:=by rw[K.l,AG hC]
    have f:(C1 == 0)=false:=by simp[hC]
    go_upto_region 5 with fail;refine d.noR 2 _ _ rfl γ rfl rfl rfl rfl (λy i A=>?_)
    try simp only[J]
    clear d
    try go_wp2
    refine TP 4 results6 _ ?_ i ?_ A.l<;>rfl
   have fA:=Z hC;subst hC;have f:=d.r1.y 0;have l:=d.r1.y 1;have C:=d.r1.lt;have i:=E.y 0;have y:=E.lt;go_wp2_with (go_at_call 22;refine(HH.l _).A ?_;refine NC ?_);clear f l C i y;refine(p.l _ _ _ z.q.prsA).A ?_;rintro x v7 ⟨rfl,i⟩;replace d:=d.z i;replace z:=z.z i;replace E:=E.z i;clear i p
   by_cases hr:r<=Q-1
   case neg =>
    obtain rfl:D=LD 3:=by rw[K.l,AF trivial,AG hr]
    have f:Q-1<r:=ω
    go_upto_region 8 with fail;refine d.noR 3 _ _ rfl γ rfl rfl rfl rfl (λy i A=>?_)
    try simp only[J]
    clear d
    try go_wp2
    refine TP 4 results6 _ ?_ i ?_ A.l<;>rfl
   go_upto_region 9 with fail;have y:=(AC v7.heap.size v7).drew;refine AN (S:=λj=>Row j w.heap.size (sJ (n:Int) S L T H F R U O (.slice a t.length c))) κ (d.r1.z y) (λp=>?_);refine V 0 (.slice a2 b.length c2) rfl p (TK 2 (.pointer (some ⟨w.heap.size,2,none⟩)) rfl (BW ⟨ρ,λw f=>by obtain s:=f;have l:=f.lt;go_simp⟩) p (TK 3 (.int .i64 L) rfl (BW ⟨ρ,λw f=>by obtain s:=f;have c:=f.y 2;go_simp⟩) p (TK 4 (.pointer (some ⟨w.heap.size,3,none⟩)) rfl (BW ⟨ρ,λw f=>by obtain s:=f;have l:=f.lt;go_simp⟩) p (TK 5 (.pointer (some ⟨w.heap.size,5,none⟩)) rfl (BW ⟨ρ,λw f=>by obtain s:=f;have l:=f.lt;go_simp⟩) p (TK 6 (.int .i64 F) rfl (BW ⟨ρ,λw f=>by obtain s:=f;have c:=f.y 5;go_simp⟩) p (TK 7 (.pointer (some ⟨w.heap.size,7,none⟩)) rfl (BW ⟨ρ,λw f=>by obtain s:=f;have l:=f.lt;go_simp⟩) p (TK 8 (.int .i64 U) rfl (BW ⟨ρ,λw f=>by obtain s:=f;have c:=f.y 7;go_simp⟩) p (V 9 (.int .i64 (F+U)) rfl p (TK 10 (.pointer (some ⟨w.heap.size,0,none⟩)) rfl (BW ⟨ρ,λw f=>by obtain s:=f;have l:=f.lt;go_simp⟩) p (TK 11 (.int .i64 (n:Int)) rfl (BW ⟨ρ,λw f=>by obtain s:=f;have c:=f.y 0;go_simp⟩) p ?_))))))))))
   simp only[J];refine RD 1 rfl (λX v=>?_);refine LC ρ 25 #[.slice a2 b.length c2] γ (HF.l _ ((aZ.l.z d.e).z y)) ?_;rintro e y1 ⟨rfl,i⟩;refine⟨_,rfl,?_⟩;replace y:=y.j (i.A y.size);clear i;refine v.l _ _ (d.r1.z y) (λeJ=>?_)
   try simp only[J]
   refine RD 12 rfl (λX v=>?_);refine LC ρ 24 #[.string bo,.int .i64 L,.int .i64 (F+U),.int .i64 (n:Int)] γ (aY.l _) ?_;rintro e u2 ⟨a8,c8,rfl,A,aU,i⟩;refine⟨_,rfl,?_⟩;have dC:=PD (lo:=v7.heap.size) A (λh e=>h (by rw[AB e];rfl)) (λg k=>AL y.size (aU g k));replace y:=y.j (i.A y.size);clear i A aU;refine v.l _ _ (d.r1.z y) (λaN=>?_)
   try simp only[J]
   refine RD 13 rfl (λX v=>?_);go_simp;refine v.l _ _ aN (λ_=>?_)
   try simp only[J]
   refine DN ?_;replace d:=d.z y;replace z:=z.z y;replace E:=E.z y;clear y
   by_cases hp:N<=Q-U
   case neg =>
    obtain rfl:D=LD 4:=by rw[K.l,AF trivial,AF hr,AG hp]
    have eU:Q-U<(o.length:Int):=ω
    have G:=d.r1.y 7;have C:=d.r1.lt;go_upto_region 11 with fail;refine d.noR 4 _ _ rfl γ rfl rfl rfl rfl (λy i A=>?_)
    try simp only[J]
    clear d
    try go_wp2
    refine TP 4 results6 _ ?_ i ?_ A.l<;>rfl
   have eU:(o.length:Int)<=Q-U:=ω
   obtain rfl:D=⟨0,(n:Int),S,L,T,H,F,R,U+(o.length:Int),O+(o.length:Int),u,MA (q+U) o⟩:=by rw[K.l,AF trivial,AF hr,AF hp,bW]
   have fW:=d.r2.lt;have fX:=z.top;have q:=c10 d.r1;have i:=E.y 0;have y:=E.lt;go_wp2_with fail;clear q i y;generalize q:u2.alloc _=w8;obtain⟨i,aH,y⟩:=LF q;clear q;have bZ:=CJ w8 (base:=u2.heap.size+1) (e:=78) (size:=3) #[] 0 ω σ σ;rw[aH]at bZ;have cW:Row _ u2.heap.size (sJ (n:Int) S L T H F R U O (.slice B u.length M)):=(y.z (sj w8 (.cells #[] 78))).q;have cP:=i.j ((sj w8 (.cells #[] 78)).A i.size)
   try rw[aH]
   clear y i;go_loopw [10,11] (λy i wr=>∃k:Nat,k<=o.length/\i=.int .i64 (k:Int)/\Row wr u2.heap.size (sJ (n:Int) S L T H F R (U+(k:Int)) (O+(k:Int)) (.slice B u.length M))/\wr.ownsRow (u2.heap.size+1) 78 3 y k (NJ (MA (q+U) (o.take k)))/\Below u2.heap.size u2 wr) (λ_ i _=>o.length-(intOf i).toNat)
   case atStart =>
    exact⟨0,AO _,rfl,by simpa using cW,by simpa[MA,NJ] using bZ,cP⟩
   case round =>
    clear cW bZ cP aH;obtain⟨k,hk,rfl,aW,aI,aO⟩:=hrel;have aQ:=aW.lt;replace d:=d.z aO;replace z:=z.z aO
    obtain⟨G,I,rfl⟩:∃G I,u10=Value.slice G k I:=by
     rcases MO aI with ⟨A,C⟩|⟨g,i,A,_⟩
     ·exact⟨none,0,by rw[A,C]⟩
     exact⟨_,i,A⟩
    have fG:(k:Int)<=N:=ω
    by_cases aV:k<o.length
    ·obtain⟨g8,rfl,cC⟩:=dC.q.resolve_left (by intro e;have:=BY List.length e;simp at this;rw[this]at aV;simp at aV)
     have aU:=cC.lt;have A:=cC.cell k (.string (o.getD k empty)) (by simp[aV,List.getD]);obtain⟨C,P⟩:∃C,C=o.getD k empty:=⟨_,rfl⟩;rw[<-P]at A;have eP:(k:Int)<(o.length:Int):=ω
     have fF:(0:Int)<=(k:Int):=ω
     have fT:IntKind.i64.wrap (q+(U+(k:Int)))=q+(U+(k:Int)):=by simp[IntKind.wrap,IntKind.bits,IntKind.signed];omega
     have fU:IntKind.i64.wrap (U+(k:Int)+1)=U+(k:Int)+1:=by simp[IntKind.wrap,IntKind.bits,IntKind.signed];omega
     have fV:IntKind.i64.wrap (O+(k:Int)+1)=O+(k:Int)+1:=by simp[IntKind.wrap,IntKind.bits,IntKind.signed];omega
     have dV:=Z P
     have HK:Hid (∀W,Below (u2.heap.size+1) wr W->Row W w.heap.size (sJ (n:Int) S L T H F R U O (.slice a t.length c))/\Row W u2.heap.size (sJ (n:Int) S L T H F R (U+(k:Int)) (O+(k:Int)) (.slice B u.length M))/\W.cell? ⟨g8,k,none⟩=some (.string C)):=λW i=>⟨(d.low i ω).r1,aW.below2 (N:=u2.heap.size+1) ω i,(i.cell (p:=⟨g8,k,none⟩) (by show g8<_;omega)).j ((aO.cell (p:=⟨g8,k,none⟩) aU).j A)⟩
     clear P cC A;go_upto_region 18 with fail;have A:=(AC wr.heap.size wr).drew;refine AN (S:=λj=>Row j w.heap.size (sJ (n:Int) S L T H F R U O (.slice a t.length c))/\Row j u2.heap.size (sJ (n:Int) S L T H F R (U+(k:Int)) (O+(k:Int)) (.slice B u.length M))/\j.cell? ⟨g8,k,none⟩=some (.string C)) κ (HK.l _ (A.A aQ)) (λp=>?_);refine V 0 (.slice G k I) rfl p (TK 1 (.pointer (some ⟨w.heap.size,1,none⟩)) rfl (BW ⟨ρ,λw f=>by obtain⟨s,P,z2⟩:=f;have l:=s.lt;go_simp⟩) p (TK 2 (.int .i64 S) rfl (BW ⟨ρ,λw f=>by obtain⟨s,P,z2⟩:=f;have c:=s.y 1;go_simp⟩) p (TK 3 (.pointer (some ⟨w.heap.size,3,none⟩)) rfl (BW ⟨ρ,λw f=>by obtain⟨s,P,z2⟩:=f;have l:=s.lt;go_simp⟩) p (TK 4 (.pointer (some ⟨w.heap.size,4,none⟩)) rfl (BW ⟨ρ,λw f=>by obtain⟨s,P,z2⟩:=f;have l:=s.lt;go_simp⟩) p (TK 5 (.int .i64 H) rfl (BW ⟨ρ,λw f=>by obtain⟨s,P,z2⟩:=f;have c:=s.y 4;go_simp⟩) p (TK 7 (.pointer (some ⟨u2.heap.size,7,none⟩)) rfl (BW ⟨ρ,λw f=>by obtain⟨s,P,z2⟩:=f;have l:=P.lt;go_simp⟩) p (TK 8 (.int .i64 (U+(k:Int))) rfl (BW ⟨ρ,λw f=>by obtain⟨s,P,z2⟩:=f;have c:=P.y 7;go_simp⟩) p (V 10 (.slice (some ⟨g8,0,none⟩) o.length c8) rfl p (V 11 (.int .i64 (k:Int)) rfl p (V 12 (.pointer (some ⟨g8,k,none⟩)) rfl p (V 13 (.string C) rfl p ?_)))))))))))
     simp only[J];refine RD 6 rfl (λX v=>?_);refine LC ρ 27 #[.int .i64 S,.int .i64 H] γ (HB.l _) ?_;rintro e j ⟨rfl,f⟩;refine⟨_,rfl,?_⟩;rw[f];clear f j;refine v.l _ _ p (λ_=>?_)
     try simp only[J]
     refine V 9 (.int .i64 (q+(U+(k:Int)))) rfl p ?_;simp only[J];refine RD 14 rfl (λX v=>?_);refine LC ρ 26 #[.int .i64 (q+(U+(k:Int))),.string C] γ (iw _ _ _) ?_;rintro e w4 ⟨rfl,i⟩;refine⟨_,rfl,?_⟩;replace A:=A.j (i.A A.size);have cL:=Z ((LR aI A).alloc (.cells #[.bool false,.int .i64 (q+(U+(k:Int))),.string C] 78));have cY:u2.heap.size+1<=w4.heap.size:=AL aQ A.size;clear i;refine v.l _ _ (HK.l _ (A.A aQ)) (λaN=>?_)
     try simp only[J]
     refine RD 15 rfl (λX v=>?_);go_simp;refine v.l _ _ (HK.l _ ((A.A aQ).alloc cY _)) (λeK=>?_)
     try simp only[J]
     refine RD 16 rfl (λX v=>?_);refine QM _ ρ _ _ _ ρ (u2.heap.size+1) underlying46 HI.l rfl ω (.slice G k I) k _ ρ cL.l ⟨w4.heap.size,0,none⟩ 1 1 [.bool false,.int .i64 (q+(U+(k:Int))),.string C] ρ rfl (World.news_of_block (AW w4 _)) (YO _ _ _) ξ (w4.heap.size+1) σ ?_;intro g9 eF w5 aG f bJ eQ;have i:=Z (((A.A aQ).alloc cY _).j (YL f τ (λj hj=>(aI.lt j hj).1)));have dU:=Z aG;clear aG f bJ;refine v.l _ _ (HK.l _ i.l) (λj=>?_)
     try simp only[J]
     refine RD 17 rfl (λX v=>?_);go_simp;refine v.l _ _ j (λ_=>?_)
     try simp only[J]
     refine DN ?_;have f:=(HK.l _ i.l).2.1;have fZ:=f.y 7;have gD:=f.y 8;have fB:=f.E 7;have fC:=f.E 8;have l5:=f.lt;have dZ:=Z f;have dQ:=Z aO;clear f aI aW aO A cL d z dC;go_wp2_with fail;have f:MA (q+U) (o.take (k+1))=MA (q+U) (o.take k)++[(false,q+(U+(k:Int)),C)]:=by rw[ZY o k empty aV,ji,<-dV.l,BF,show min k o.length=k by omega,Int.add_assoc]
     refine⟨⟨k+1,ω,ν,?_,?_,?_⟩,by simp[intOf];omega⟩
     ·rw[show U+((k+1:Nat):Int)=U+(k:Int)+1 by omega,show O+((k+1:Nat):Int)=O+(k:Int)+1 by omega]
      exact(dZ.l.set 7 σ (.int .i64 (U+(k:Int)+1))).set 8 σ (.int .i64 (O+(k:Int)+1))
     ·rw[f,iz]
      exact xm dU.l (λb A h2=>by rw[BD _ _ _ b (by show b≠u2.heap.size;omega),BD _ _ _ b (by show b≠u2.heap.size;omega)])
     exact((dQ.l.j (i.l.A ω)).setCell (p:=⟨u2.heap.size,7,none⟩) (Y _) _).setCell (p:=⟨u2.heap.size,8,none⟩) (Y _) _
    have P:k=o.length:=ω
    subst P;rw[DA]at aI;go_upto_region 21 with fail;refine BG ?_;refine AS rfl 33 _ rfl u2.heap.size 0 rfl _ _ aW.range underlying33 rfl PC ?_;simp only[J];refine UB rfl (.slice G o.length I) γ ?_;simp only[J];refine UB rfl (.agg (dK 0 (n:Int) S L T H F R (U+(o.length:Int)) (O+(o.length:Int)) (.slice B u.length M) (.slice G o.length I))) γ ?_;simp only[J];refine BI rfl 48 _ _ rfl (w.heap.size+1) 0 (dK 0 (n:Int) S L T H F R (U+(o.length:Int)) (O+(o.length:Int)) (.slice B u.length M) (.slice G o.length I)) rfl rfl (d.r2.there rfl) TH κ ?_
    try simp only[J]
    have eV:=RF (q+U) o;obtain⟨_,eT,C⟩:=Gz (os:=MA (q+U) o) (by rw[eV];exact aI)
    have j:=λg k=>(C g k).1
    obtain⟨i,f⟩:=d.fin ⟨0,(n:Int),S,L,T,H,F,R,U+(o.length:Int),O+(o.length:Int),u,MA (q+U) o⟩ B M G I eN ⟨z.q,eT,ZV (N:=u2.heap.size) (λg k=>by have:=eZ g k;omega) (λg k=>by have:=j g k;omega)⟩ (λg k=>by have:=hg g k;omega) (λg k=>by have:=j g k;omega);have A:=Z f;clear f;simp only[UL,RF]at i A;generalize f:World.setCells _ _ _ _=y at i A⊢;clear f d
    try go_wp2
    refine TP (D:=⟨0,(n:Int),S,L,T,H,F,R,U+(o.length:Int),O+(o.length:Int),u,MA (q+U) o⟩) 4 results6 (a:=B) (c:=M) (b:=G) (e:=I) _ ?_ (by simp only[UL,RF];exact i) ?_ A.l<;>rfl
 rotate_left
 all_goals
  go_upto_region 2 with fail;refine d.noR 1 _ _ rfl γ rfl rfl rfl rfl (λy i A=>?_)
  try simp only[J]
  clear d
  try go_wp2
  refine TP 4 results6 _ ?_ i ?_ A.l<;>rfl
def pz(w d:World)(e:Ending)(b:Option (List Pr)):Prop:=∃a c,e=.returned (.tuple #[LQ a (b.getD []).length c,.bool b.isSome])/\(b.getD []).length<=c/\OwnS d a (LH (b.getD []))/\(∀g,blk a (b.getD []).length=some g->w.heap.size<=g)/\Below w.heap.size w d
theorem qI{s:ByteArray}{o:List Ch}(h:RU s=some o):NL o=true:=by
 rw[<-pP]at h;unfold YX at h
 split at h
 ·cases h
 split at h
 ·rename_i b;cases h;exact b
 cases h
theorem vF{b:List Ch}(h:OwnS w a (MJ b)):Chs w a b:=by
 rcases h with h|⟨g,rfl,h⟩
 ·refine .inl ?_
  cases b with
  | nil=>rfl
  | cons x r=>obtain⟨c,d,f⟩:=x;exact absurd h (by simp[MJ])
 exact h.chs
theorem tm{l:List Pr}(h:LH l≠[]):l.length≠0:=λe=>h (by rw[AB e];rfl)
theorem OwnS.setF{b:List Value}(h:OwnS w a b)(p:Addr)(d:∀g,a=some ⟨g,0,none⟩->b≠[]->p.block≠g)(v:Value):OwnS (w.setCell p v) a b:=by
 by_cases c:b=[]
 ·exact .inl c
 rcases h with h|⟨g,rfl,f⟩
 ·exact absurd h c
 exact .inr ⟨g,rfl,f.other p (d g rfl c) v⟩
structure FdB(w W:World)(rs:List Pr)(sa:Option Addr)(sc:Nat):Prop where
 rb:Row W w.heap.size [.slice none 0 0]
 st:Row W (w.heap.size+1) [.slice sa rs.length sc]
 own:OwnS W sa (LH rs)
 lo:∀g,blk sa rs.length=some g->w.heap.size+2<=g
 cap:rs.length<=sc
 be:Below w.heap.size w W
theorem FdB.new(w:World):FdB w ((w.alloc (.cells #[.slice none 0 0] 31)).alloc (.cells #[.slice none 0 0] 31)) [] none 0 :=⟨(OI w #[.slice none 0 0] 31 w.heap.size rfl).alloc _,OI _ #[.slice none 0 0] 31 _ σ,.inl rfl,λg b=>(by cases b),Y _,(KW _ _).alloc σ _⟩
theorem FdB.z{W c:World}{d:List Pr}{f:Option Addr}{g:Nat}(h:FdB w W d f g)(b:Below W.heap.size W c):FdB w c d f g:=⟨h.rb.z b,h.st.z b,h.own.z b,h.lo,h.cap,h.be.j (b.A h.be.size)⟩
theorem FdB.set{X:World}{f:Obj}{o b:List Pr}{p c:Option Addr}{q d:Nat}(h:FdB w (X.alloc f) o p q)(m:OwnS X c (LH b))(j:b.length<=d)(i:∀g,blk c b.length=some g->w.heap.size+2<=g):FdB w ((X.alloc f).setCell ⟨w.heap.size+1,0,none⟩ (.slice c b.length d)) b c d:=by
 refine⟨h.rb.other _ (by show w.heap.size+1≠w.heap.size;omega) _,h.st.set 0 σ _,OwnS.setF (m.z (KW _ _)) _ (λg k l=>?_) _,i,j,h.be.setCell (by show w.heap.size<=w.heap.size+1;omega) _⟩;have:=i g (by subst k;exact MS _ _ _ (tm l));show w.heap.size+1≠g;omega
theorem Eo(a:Option Addr)(es:List ByteArray)(c:Nat)(w:World)(h:Strs w a es)(hl:es.length<=1000)(hs:∀e∈es,e.size<=1048576):Calls prog 183 #[.slice a es.length c] w λe b=>pz w b e (MX es []):=by
 obtain⟨r,aG⟩:∃r,Hid (r=MX es []):=⟨_,Z rfl⟩;rw[<-aG.l];have HH:=Z h;have HS:=Z hs;clear h hs;go_enter func183,ntmps183;go_wp2;go_loopw [5] (λb wr=>∃(i:Nat) (d:List Pr) (z:Option Addr) (A:Nat) (W:World),W=wr/\b=.int .i64 (i:Int)/\i<=es.length/\LV d=true/\Hid (MX (es.drop i) d=r)/\FdB w W d z A) (λb _=>((es.length:Int)-intOf b).toNat)
 case atStart =>
  exact⟨0,[],none,0,_,rfl,rfl,AO _,TQ,by show _=_;rw[aG.l];rfl,FdB.new w⟩
 case round =>
  obtain⟨i,d,z,A,wr,rfl,rfl,hi,f,v,D⟩:=hrel;have p:=Z D;have U:=D.st.y 0;have Q:=D.st.lt;have K:=D.rb.y 0;have P:=D.rb.lt;have O:=D.rb.E 0;have b:=VS f;have cA:=b.1;have bU:=Z f;have bE:=Z b.2;clear f b D
  by_cases T:i<es.length
  ·have aU:(i:Int)<(es.length:Int):=ω
   have bY:(0:Int)<=(i:Int):=ω
   have cC:IntKind.i64.wrap ((i:Int)+1)=(i:Int)+1:=by simp[IntKind.wrap,IntKind.bits,IntKind.signed];omega
   obtain⟨b,o,s,rfl,L,X⟩:=(HH.l.z p.l.be).at T;have bI:s.size<=1048576:=HS.l s (by rw[X.l];simp[List.getD,T]);have f:es.drop i=s::es.drop (i+1):=by rw[X.l];simp[List.getD,T]
   have bV:b<wr.heap.size:=by have:=DI wr _ L;simpa using this
   have D:=Z (λg=>yG s g bI)
   skip
   rw[f]at v;have bT:=Z f;clear f
   cases hR:RU s with
   | none =>
    rw[hR]at D;have q:Hid (r=none):=by show _=_;rw[<-v.l];exact ud hR
    clear hR;go_wp2_with fail;refine(D.l _).A ?_;rintro e w5 ⟨ab,cb,rfl,_,_,t⟩;simp only[JJ,IV,AR];have f:=p.l.z t;have x:=Z f;have y:=f.rb.y 0;have R:=f.rb.lt;have F:=f.rb.E 0;clear U Q K P O f t L;go_wp2;refine AI (v:=.tuple #[LQ none 0 0,.bool false]) (by simp[results,results183,go_sem,y,LQ]) rfl ?_;rw[q.l];exact⟨none,0,rfl,Y _,.inl rfl,λg m=>(by cases m),x.l.be.setCell (by show w.heap.size<=w.heap.size;omega) _⟩
   | some l =>
    rw[hR]at D;have f:=qp (qI hR);have aY:=Z f.2;have bG:=f.1;clear f
    by_cases k:OE d l=0
    focus
     have q:Hid (MX (es.drop (i+1)) (ML d l)=r):=by show _=_;rw[<-v.l];exact(kf hR k).symm
     have y:OA d l=ML d l:=by unfold OA;rw[AF k]
     have aZ:=Z (ed k)
    rotate_left
    focus
     have q:Hid (r=none):=by show _=_;rw[<-v.l];exact vi hR k
     have y:OA d l=[]:=by unfold OA;rw[AG k]
     have bW:(OE d l == 0)=false:=by simp[k]
     have bH:(OE d l != 0)=true:=by simp[k]
    rotate_left
    all_goals
     clear hR;go_wp2_with fail;refine(D.l _).A ?_;rintro e w5 ⟨ab,cb,rfl,F,R,t⟩;simp only[GF,IW]at F R⊢;have f:=p.l.z t;have x:=Z f;have r1:=f.st.y 0;have aX:=f.st.lt;have C:=Z (vO z d A ab l cb w5 f.own.prs ω bE.l (vF F) ω aY.l)
    ·rw[y,k]at C
     clear U Q K P O f t L F R;go_wp2_with fail;refine C.l.A ?_;rintro e M ⟨B,I,rfl,aW,G,E,u⟩;have j:=(x.l.z u).z (MF M (.cells #[.slice B (ML d l).length I] 31));have N:=Z (j.set G aW (λg m=>by have:=E g m;omega));have x1:=j.st.y 0;have cE:=j.st.E 0;have cF:=j.st.lt;have x6:M.heap.size≠w.heap.size+1:=by have:=(x.l.z u).st.lt;omega
     clear r1 aX j u G E k y;go_wp2;exact⟨⟨i+1,_,B,I,_,rfl,σ,ω,aZ.l,q,N.l⟩,by simp[intOf];omega⟩
    rw[y]at C
    clear U Q K P O f t L F R y;go_wp2_with fail;refine C.l.A ?_;rintro e M ⟨B,I,rfl,aW,G,E,u⟩;have j:=(x.l.z u).z (MF M (.cells #[.slice B 0 I] 31));have N:=Z j;have y:=j.rb.y 0;have R:=j.rb.lt;have F:=j.rb.E 0;clear r1 aX j u G E;go_wp2;refine AI (v:=.tuple #[LQ none 0 0,.bool false]) (by simp[results,results183,go_sem,y,LQ]) rfl ?_;rw[q.l];exact⟨none,0,rfl,Y _,.inl rfl,λg m=>(by cases m),N.l.be.setCell (by show w.heap.size<=w.heap.size;omega) _⟩
  have q:Hid (r=some d):=by show _=_;rw[<-v.l,EI ω];rfl
  have aU:¬((i:Int)<(es.length:Int)):=ω
  have f:¬(w.heap.size=w.heap.size+1):=ω
  go_wp2;refine AI (v:=.tuple #[LQ z d.length A,.bool true]) (by simp[results,results183,go_sem,K,LQ]) rfl ?_;rw[q.l];refine⟨z,A,rfl,p.l.cap,OwnS.setF p.l.own ⟨w.heap.size,0,none⟩ (λg m b=>?_) _,λg m=>by have:=p.l.lo g m;omega,p.l.be.setCell (by show w.heap.size<=w.heap.size;omega) _⟩;have:=p.l.lo g (by subst m;exact MS _ _ _ (tm b));show w.heap.size≠g;omega
@[reducible] def vu(a:Option Addr)(n c:Nat)(u l:Int):Value:=.agg #[.slice a n c,.int .i64 u,.int .i64 l]
theorem qG{i:World}{e:Ending}{x:Scd}(h:ca w i e x):∃a c,e=.returned (vu a x.1.length c x.2.1 x.2.2)/\OwnS i a (x.1.map Value.string)/\(∀g,blk a x.1.length=some g->w.heap.size<=g)/\Below w.heap.size w i:=by
 obtain⟨y,rfl,k,j⟩:=h;rcases MO k with ⟨d,f⟩|⟨g,c,d,o,p,l⟩
 ·subst d
  have:x.1=[]:=AB f;exact⟨none,0,by rw[f],.inl (by rw[this];rfl),λg b=>(by rw[f]at b;cases b),j⟩
 subst d
 refine⟨_,c,rfl,.inr ⟨g,rfl,l⟩,λm b=>?_,j⟩;have:=ee b;omega
