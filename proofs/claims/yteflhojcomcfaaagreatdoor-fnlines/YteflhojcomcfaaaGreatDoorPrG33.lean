import Derived.Test.YteflhojcomcfaaaGreatDoorPrFnA
import Derived.Test.YteflhojcomcfaaaGreatDoorPrG21
import Derived.Test.YteflhojcomcfaaaGreatDoorPrDrvOf
import Derived.Test.YteflhojcomcfaaaGreatDoorPrFate
import Derived.Test.YteflhojcomcfaaaGreatDoorPrG44
set_option maxHeartbeats 16000000
set_option maxRecDepth 8000
set_option linter.all false
namespace Go.Proofs.YteflhojcomcfaaaGreatDoor
open _root_.ByteArray(empty)
open Tryz
open Go.RowKit
variable {e:Q4}{ws:List (Int×Q4)}{es ss:List Q4}{X base g n:Nat}{a:Q5}{v:Ra}{w w':Q9}
section
abbrev dg(ss:List Q4)(ws:List (Int×Q4))(frm size n:Int):Prop:=LT ss ws=true/\(1<=n/\n<=8)/\0<=frm/\0<=size/\frm<=(ss.length:Int)/\size<=(ss.length:Int)-frm
def VW(ss:List Q4)(ws:List (Int×Q4))(c b first d n:Int):Scd :=if dg ss ws c b n then OV (λk=>(LQ ws ss).getD k empty) c.toNat first n b.toNat 0 0 d empty ([],0,d) else ([],0,0)
def ji(w w':Q9)(e:Ending)(x:Scd):Prop:=∃y,e=Q2 (.agg #[y,Z x.2.1,Z x.2.2])/\w'.ownsRow w.heap.size 9 1 y x.1.length (x.1.map Value.string)/\Q3 w w'
structure ScB(w0 w:Q9)(RB G XB OT WS:Nat)(S:List Ra)(cx:Nat)(xp:Ra)(y:Ra)(ents:List Q4)(u l wk wl wm:Int)(wp:Q4):Prop where
 rb:Row w RB [Y none 0 0,Z 0,Z 0]
 sec:Row w G S
 xb:Row w XB [Y (Hw G 0) S.length cx,xp]
 ot:Row w OT [y,Z u,Z l]
 ws:Row w WS [Z wk,Z wl,Z wm,Ow wp]
 own:w.ownsRow w0.heap.size 9 1 y ents.length (ents.map Value.string)
 o1:w0.heap.size<=RB
 o2:RB<G
 o3:G<XB
 o4:XB<OT
 o5:OT<WS
 yo:∀k,y.ownBlock=some k->WS<k
 be:Q3 w0 w
section
variable {w0 w w':Q9} {RB G XB OT WS:Nat} {S:List Ra} {cx:Nat} {xp:Ra} {y:Ra} {ents:List Q4} {u l wk wl wm:Int} {wp:Q4}
theorem ScB.I(h:ScB w0 w RB G XB OT WS S cx xp y ents u l wk wl wm wp)(b:Q3 w w'):ScB w0 w' RB G XB OT WS S cx xp y ents u l wk wl wm wp :=⟨h.rb.I b,h.sec.I b,h.xb.I b,h.ot.I b,h.ws.I b,MK h.own b,h.o1,h.o2,h.o3,h.o4,h.o5,h.yo,h.be.E (b.J h.be.size)⟩
theorem ScB.own_ne(h:ScB w0 w RB G XB OT WS S cx xp y ents u l wk wl wm wp){k:Nat}(b:k<=WS):y.ownBlock≠some k:=λe=>by have:=h.yo k e;omega
theorem ScB.setWas(h:ScB w0 w RB G XB OT WS S cx xp y ents u l wk wl wm wp)(d f j:Int)(k:Q4):ScB w0 ((((w.setCell (Ki WS 0) (Z d)).setCell (Ki WS 1) (Z f)).setCell (Ki WS 2) (Z j)).setCell (Ki WS 3) (Ow k)) RB G XB OT WS S cx xp y ents u l d f j k:=by
 have p:=h.o1;have q:=h.o2;have r:=h.o3;have s:=h.o4;have t:=h.o5
 have b:∀ {g:Nat} {m:List Ra},g≠WS->Row w g m->Row ((((w.setCell (Ki WS 0) (Z d)).setCell (Ki WS 1) (Z f)).setCell (Ki WS 2) (Z j)).setCell (Ki WS 3) (Ow k)) g m:=λc i =>
  (((i.other _ (JC c) _).other _ (JC c) _).other _ (JC c) _).other _ (JC c) _
 have c:=h.own_ne (@AA WS)
 have bs:∀ {x:Q9},Q3 w0 x->∀i v,Q3 w0 (x.setCell (Ki WS i) v):=λo i v=>o.setCell (by show w0.heap.size<=WS;omega) _
 exact⟨b ω h.rb,b ω h.sec,b ω h.xb,b ω h.ot,(((h.ws.set 0 σ _).set 1 σ _).set 2 σ _).set 3 σ _,
  BT (BT (BT (BT h.own c _) c _) c _) c _,p,q,r,s,t,h.yo,bs (bs (bs (bs h.be _ _) _ _) _ _) _ _⟩
theorem ScB.setEnd(h:ScB w0 w RB G XB OT WS S cx xp y ents u l wk wl wm wp)(d c:Int):ScB w0 ((w.setCell (Ki OT 1) (Z d)).setCell (Ki OT 2) (Z c)) RB G XB OT WS S cx xp y ents d c wk wl wm wp:=by
 have m:=h.o1;have o:=h.o2;have p:=h.o3;have q:=h.o4;have r:=h.o5
 have b:∀ {g:Nat} {f:List Ra},g≠OT->Row w g f->Row ((w.setCell (Ki OT 1) (Z d)).setCell (Ki OT 2) (Z c)) g f:=λi j=>(j.other _ (JC i) _).other _ (JC i) _
 have j:=h.own_ne (k:=OT) ω
 have bs:∀ {x:Q9},Q3 w0 x->∀i v,Q3 w0 (x.setCell (Ki OT i) v):=λk i v=>k.setCell (by show w0.heap.size<=OT;omega) _
 exact⟨b ω h.rb,b ω h.sec,b ω h.xb,(h.ot.set 1 σ _).set 2 σ _,b ω h.ws,
  BT (BT h.own j _) j _,m,o,p,q,r,h.yo,bs (bs h.be _ _) _ _⟩
theorem ScB.push(h:ScB w0 w RB G XB OT WS S cx xp y ents u l wk wl wm wp){b:Ra}{ents':List Q4}{H:Nat}(o:w'.ownsRow w0.heap.size 9 1 b ents'.length (ents'.map Value.string))(i:w.grownBy w' y.ownBlock)(p:y.ownBlock=b.ownBlock\/b.ownBlock=some H)(z:w.heap.size<=H):ScB w0 (w'.setCell (Ki OT 0) b) RB G XB OT WS S cx xp b ents' u l wk wl wm wp:=by
 have q:=h.o1;have r:=h.o2;have s:=h.o3;have t:=h.o4;have x:=h.o5;have A:=h.ws.lt
 have m:∀k,b.ownBlock=some k->WS<k:=λk c=>by
  rcases p with e|e
  .exact h.yo k (e.E c)
  rw[e]at c;cases c;omega
 have d:∀ {g:Nat} {c:List Ra},g<=WS->Row w g c->Row w' g c:=λf j=>j.V i (λe=>h.own_ne f e.symm)
 have f:∀ {g:Nat} {c:List Ra},g≠OT->Row w' g c->Row (w'.setCell (Ki OT 0) b) g c:=λi j=>j.other _ (JC i) _
 have k:b.ownBlock≠some OT:=λe=>by have:=m OT e;omega
 have j:Q3 w0 w':=h.be.E (MU i h.be.size (λg e=>(h.own.lt g e).1))
 exact⟨f ω (d ω h.rb),f ω (d ω h.sec),f ω (d ω h.xb),(d ω h.ot).set 0 σ _,f ω (d AA h.ws),
  BT o k _,q,r,s,t,x,m,j.setCell (by show w0.heap.size<=OT;omega) _⟩
end
theorem Mp(f h t:Int)(u:Q4)(k l m:Int)(p:Q4)(w:Q9):Calls prog 232 #[OD f h t u,OD k l m p] w λe w'=>e=Q2 (Q1 (RW f h k l))/\Q3 w w':=by
 have o:∀b c,Q3 w ((w.alloc b).alloc c):=λb c=>(LH _ _).alloc j _
 obtain⟨B,c⟩:∃B,RW f h k l=B:=⟨_,z⟩;have b:=LE c;rw[c];clear c
 by_cases x:l<h
 focus
  have e:B=false:=by rw[<-b.j];unfold RW;simp;omega
  subst e;clear b
 rotate_left
 focus
  by_cases q:k=3
  focus
   subst q
   by_cases c:f=1
   focus
    have e:B=false:=by rw[<-b.j];unfold RW;simp[c]
    subst e;clear b
   rotate_left
   focus
    have e:B=true:=by rw[<-b.j];unfold RW;simp[c];omega
    have s:(f != 1)=true:=by simp[c]
    subst e;clear b
   rotate_left
  rotate_left 2
  focus
   by_cases d:k=1\/k=2
   .by_cases c:f=1
    focus
     by_cases i:h=l
     focus
      have e:B=true:=by rw[<-b.j];unfold RW;rcases d with rfl|rfl<;>simp[c,i]
     rotate_left
     focus
      have e:B=false:=by rw[<-b.j];unfold RW;rcases d with rfl|rfl<;>simp[c,i]
      have r:(h == l)=false:=by simp[i]
     rotate_left
    rotate_left 2
    focus
     have e:B=true:=by rw[<-b.j];unfold RW;rcases d with rfl|rfl<;>simp[c]<;>omega
     have s:(f != 1)=true:=by simp[c]
    rotate_left
    all_goals
     subst e;clear b;rcases d with rfl|rfl<;>(go_enter func232,ntmps232;go_wp2;go_ret;exact⟨z,o _ _⟩)
   focus
    have i:¬k=1:=λe=>d (.inl e)
    have r:¬k=2:=λe=>d (.inr e)
    have e:B=false:=by rw[<-b.j];unfold RW;simp[q,i,r]
    subst e;clear b d
   rotate_left
  rotate_left
 rotate_left 3
 all_goals
  go_enter func232,ntmps232;go_wp2;go_ret;exact⟨z,o _ _⟩
end
section
set_option maxHeartbeats 4000000
theorem Ie:(prog.info? 9).map (λi=>(i.zero,i.size,i.bytes))=some (some (Ow empty),1,16):=h
theorem Mi{P:Program}{e:TypeId}{z:Ra}{b c:Nat}(h:(P.info? e).map (λi=>(i.zero,i.size,i.bytes))=some (some z,b,c)):∃i,P.info? e=some i/\i.zero=some z/\i.size=b/\i.bytes=c:=by
 obtain⟨i,f,d⟩:=EC.1 h;simp only[EK]at d;exact⟨i,f,d⟩
theorem Jo(w:Q9)(b:Array Ra)(t:TypeId):∀j u,b.toList[j]?=some u->(w.alloc (.cells b t)).cell? (((Ki w.heap.size 0):Addr).add j)=some u:=World.news_of_block (AV w (.cells b t))
theorem Ms(k:Q4):∀u∈[Ow k],u.oneCell'=true:=by
 intro u b;simp only[DZ,EY,IX]at b;subst b;rfl
def pZ(N f:Nat)(y:Ra)(w:Q9)(c:List Q4)(i h:Int)(w':Q9):Prop :=∃d,Row w' f [d,Z i,Z h]/\w'.ownsRow N 9 1 d c.length (c.map Value.string)/\(d.ownBlock=y.ownBlock\/∃H,d.ownBlock=some H/\w.heap.size<=H)/\Below N w w'/\(∀b,b<w.heap.size->b≠f->some b≠y.ownBlock->w'.heap[b]?=w.heap[b]?)
theorem E6(N o:Nat)(y:Ra)(i:List Q4)(u0 l0 k l m:Int)(p t:Q4)(x:Nat)(w:Q9)
  (C:Row w o [y,Z u0,Z l0])(M:w.ownsRow N 9 1 y i.length (i.map Value.string))(H:N<=o)(J:N<=w.heap.size)(B:y.ownBlock≠some o)(hx:x<=200)(aU:i.length<=300):Calls prog 210 #[Dr o 0,OD k l m p,Z (x:Int),Ow t] w λe w'=>e=Q2 (.tuple #[])/\pZ N o y w (if k=2 then i++[t] else i) ((x:Int)+1) l w':=by
 have aX:IntKind.i64.wrap ((x:Int)+1)=(x:Int)+1:=by simp[IntKind.wrap,IntKind.bits,IntKind.signed];omega
 obtain⟨i0,b,c,f,h⟩:=Mi Ie;have A:=LE (I b (I c (I f h)));clear b c f h
 obtain⟨O,P,rfl⟩:∃O P,y=Y O i.length P:=by
  rcases MS M with ⟨b,c⟩|⟨f,s,b,_⟩
  .exact⟨none,0,by rw[b,c]⟩
  exact⟨_,s,b⟩
 obtain⟨c0,c1,c2⟩:=C.k3;obtain⟨f0,f1,f2⟩:=C.z3;have hl:=C.lt;have aW:¬o=w.heap.size:=d
 have S:=LE (((C.set 1 j (Z ((x:Int)+1))).set 2 j (Z l)).alloc (.cells #[Z k,Z l,Z m,Ow p] 156));have R:=LE ((BT (BT M B (a:=(Ki o 1)) (Z ((x:Int)+1))) B (a:=(Ki o 2)) (Z l)).alloc (.cells #[Z k,Z l,Z m,Ow p] 156));have E:=LE ((((@AB N w).setCell (p:=(Ki o 1)) H (Z ((x:Int)+1))).setCell (p:=(Ki o 2)) H (Z l)).alloc (by simpa using J) (.cells #[Z k,Z l,Z m,Ow p] 156))
 have Q:Hid (∀b,b<w.heap.size->b≠o->(((w.setCell (Ki o 1) (Z ((x:Int)+1))).setCell (Ki o 2) (Z l)).alloc (.cells #[Z k,Z l,Z m,Ow p] 156)).heap[b]?=w.heap[b]?):=λb u r=>by
  rw[JO _ _ (by simpa using u),BM _ _ _ _ r,BM _ _ _ _ r]
 by_cases L:k=2
 .subst L
  rw[AI z];go_enter func210,ntmps210
  go_wp2_with (first|(at_builtin;refine SX _ z _ _ 29 z N underlying29 A.j z d _ i.length _ z (R.j.alloc _) (Ki (w.heap.size+1) 0) 1 1 [Ow t] z z (by intro f c hj;have:=Jo (((w.setCell (Ki o 1) (Z ((x:Int)+1))).setCell (Ki o 2) (Z l)).alloc (.cells #[Z 2,Z l,Z m,Ow p] 156)) #[Ow t] 9 f c hj;simpa using this) (Ms _) q (w.heap.size+1+1) j ?_;intro K s aY T F U aL;have h:=(S.j.alloc (.cells #[Ow t] 9)).V F (λe=>B e.symm);have d0:=h.y 0;have e0:=h.A 0;have dl:=h.lt;have G:=LE h;have W:=LE F;have D:=LE T;have V:=LE U;clear h F T U))
  go_end0
  have aT:∀c,(Y O i.length P).ownBlock=some c->N<=c/\c<w.heap.size:=λc F=>M.lt c F
  have U:¬K=o:=λe=>by
   rcases V.j with h|h
   .exact B (h.E (by rw[e]))
   omega
  refine⟨z,Y (Hw K 0) (i.length+1) s,G.j.set 0 j _,?_,?_,?_,λb u r T=>?_⟩
  .rw[AK,DC]
   exact BT D.j (by simpa[Value.ownBlock] using U) _
  .rcases V.j with h|h
   .exact .inl h.symm
   exact .inr ⟨K,z,d⟩
  .exact(((E.j.alloc (AJ J E.j.size) _).E (MU W.j (AJ J ξ) (λc F=>(aT c F).1))).setCell H _)
  rw[BM _ _ _ _ r,W.j.block b q T,JO _ _ q]
  exact Q.j b u r
 rw[AF L]
 have c:(k == 2)=false:=by simp[L]
 go_enter func210,ntmps210;go_wp2;go_end0;exact⟨z,_,S.j,R.j,.inl z,E.j,λb u r _=>Q.j b u r⟩
end
section
def OU:List Q4->List Pr->Option (List Pr)
 | [],rs=>some rs
 | e::es,rs=>match XN e with
  | none=>none
  | some b=>if QW rs b=0 then OU es (NP rs b) else none
theorem kr:∀(es:List Q4) (rs:List Pr),MH rs=true->∀r,OU es rs=some r->MH r=true
 | [],rs,h,r,hr=>by cases hr;exact h
 | e::es,rs,h,r,hr=>by
  rw[OU]at hr
  split at hr
  .cases hr
  split at hr
  .rename_i hc
   exact kr es _ (SD hc) r hr
  cases hr
theorem wK{b:List Pr}(h:XN e=none):OU (e::es) b=none:=by rw[OU,h]
theorem xX{c:List Pr}{b:List Ch}(h:XN e=some b)(d:QW c b≠0):OU (e::es) c=none:=by rw[OU,h];simp only;rw[A d]
theorem sP{c:List Pr}{b:List Ch}(h:XN e=some b)(d:QW c b=0):OU (e::es) c=OU es (NP c b):=by rw[OU,h];simp only;rw[G d]
theorem YI:MH []=true:=δ
theorem XO{b:List Pr}(h:MH b=true):b.length<=100/\∀x∈b,x.1.size<=1048576/\x.2.size<=1048576:=by
 obtain⟨f,i,k⟩:=(NW b).1 h;refine⟨f,λx j=>?_⟩;obtain⟨c,d⟩:=i x j;unfold QP at c;unfold PA at d;simp at c d;omega
theorem qP{b:List Ch}(h:PZ b=true):b.length<=20/\∀x∈b,x.1.size<=1048576/\x.2.1.size<=1048576:=by
 obtain⟨k,i⟩:=dr h;refine⟨d,λx j=>?_⟩;obtain⟨c,f⟩:=SI (i x j);unfold QP at c;unfold PA at f;simp at c f;omega
def ZM(x:RtT):Prop:=(0<=x.1/\x.1<=1000000000)/\(0<=x.2.1/\x.2.1<=1)/\(1<=x.2.2.1/\x.2.2.1<=999999000)/\(0<=x.2.2.2/\x.2.2.2<=60000)
theorem yG{s:Q4}{a n:Int}{x:RtT}(h:OR s a n=some x):ZM x:=by
 unfold OR at h
 split at h
 .cases h
 rename_i k l m p i
 have j:=XL i
 split at h
 .rename_i f
  cases h
  obtain⟨o,b,q⟩:=f
  have d:XX (UC p) (TJ p):=by
   by_cases e:XX (UC p) (TJ p)
   .exact e
   exfalso
   unfold QE at b;rw[A e]at b;have c:=j.1;rw[<-b]at c;exact absurd c δ
  unfold XX at d;unfold ZM;simp only;omega
 cases h
theorem uD{b:RtT}{o:Option RtT}(c:ZM b)(d:∀x,o=some x->ZM x):ZM (WA b o):=by
 unfold WA
 split
 .exact c
 rename_i r
 split
 .exact d _ z
 exact c
theorem Nc(c d:Q4)(n:Int):ZM (nz c d n):=by
 unfold nz;exact uD (uD (by unfold ZM;simp) (λx b=>yG b)) (λx b=>yG b)
theorem mb{n:Int}(h:LT ss ws=true/\1<=n/\n<=8):ZM (NJ ss ws n):=by
 unfold NJ;rw[G h];exact Nc _ _ _
def OZ(ss:List Q4)(ws:List (Int×Q4))(n:Int):Scd:=VW ss ws (2+(NJ ss ws n).2.1*hv ss.length) (hv ss.length) (NJ ss ws n).2.2.1 (NJ ss ws n).2.2.2 n
theorem Ib{S:Int}(h:8<=S/\S<=200):2+2*hv S<=S:=by unfold hv;rw[G h];omega
theorem uy{H q:Int}(h:0<=H/\H<=1)(b:0<=q):0<=H*q/\H*q<=q:=by
 have:H=0\/H=1:=d
 rcases this with rfl|rfl<;>omega
theorem K6{n:Int}(h:LT ss ws=true/\1<=n/\n<=8):dg ss ws (2+(NJ ss ws n).2.1*hv ss.length) (hv ss.length) n:=by
 have b:=mb h;obtain⟨⟨f,i,j⟩,c,o⟩:=QH h.1;have k:=QS (S:=(ss.length:Int)) d;have l:=Ib (S:=(ss.length:Int)) d;have m:=uy b.2.1 (q:=hv ss.length) d;exact⟨h.1,h.2,d,d,d,d⟩
theorem ue{n:Int}(h:LT ss ws=true/\1<=n/\n<=8):(0<=(OZ ss ws n).2.1/\(OZ ss ws n).2.1<=hv ss.length)/\(0<=(OZ ss ws n).2.2/\(OZ ss ws n).2.2<=60000)/\(OZ ss ws n).1.length<=99/\∀e∈(OZ ss ws n).1,e.size<=6336:=by
 have i:=mb h;have b:=K6 h;obtain⟨⟨o,p,r⟩,m,s⟩:=QH h.1;have c:=QS (S:=(ss.length:Int)) d;unfold OZ VW;rw[G b];obtain⟨q,l⟩:∃q:Nat,hv ss.length=(q:Int):=⟨(hv ss.length).toNat,d⟩;rw[l]at c⊢;simp only[DO];have u1:=nK (λk=>(LQ ws ss).getD k empty) (2+(NJ ss ws n).2.1*(q:Int)).toNat (NJ ss ws n).2.2.1 n q 0 0 (NJ ss ws n).2.2.2 empty ([],0,(NJ ss ws n).2.2.2) j;have u2:=oE (λk=>(LQ ws ss).getD k empty) (2+(NJ ss ws n).2.1*(q:Int)).toNat (NJ ss ws n).2.2.1 n q 0 0 (NJ ss ws n).2.2.2 empty ([],0,(NJ ss ws n).2.2.2);have u3:=pX (λk=>(LQ ws ss).getD k empty) (2+(NJ ss ws n).2.1*(q:Int)).toNat (NJ ss ws n).2.2.1 n q 0 0 (NJ ss ws n).2.2.2 empty ([],0,(NJ ss ws n).2.2.2) 6336 (by show 0+64*q<=6336;omega) (by intro e f;cases f);simp only[AU]at u3
 refine⟨d,?_,d,u3.1⟩;have:=i.2.2.2;rcases u2 with u2|u2
 .rw[u2];exact this
 omega
def OL(ss:List Q4)(ws:List (Int×Q4))(n:Int):Dd :=if LT ss ws=true/\1<=n/\n<=8 then
  match OU (OZ ss ws n).1 [] with
  | none=>LO 2
  | some rs =>
   if 60000<(OZ ss ws n).2.2+1 then LO 3
   else if hv ss.length-1<MY (NC rs) n then LO 4
   else if hv ss.length<=(OZ ss ws n).2.1 then PU n ss.length ((OZ ss ws n).2.2+1) (NJ ss ws n).1 (NJ ss ws n).2.1 (NJ ss ws n).2.2.1 rs
   else ⟨0,n,ss.length,(OZ ss ws n).2.2+1,(NJ ss ws n).1,(NJ ss ws n).2.1,(NJ ss ws n).2.2.1,(NJ ss ws n).2.2.2,(OZ ss ws n).2.1+1,0,rs,
    [(false,2+(NJ ss ws n).2.1*hv ss.length+(OZ ss ws n).2.1,NB 3 ((OZ ss ws n).2.2+1) ((NJ ss ws n).2.2.1+(OZ ss ws n).2.1) empty n),(true,0,empty)]⟩
 else LO 1
section
variable {ss:List Q4} {ws:List (Int×Q4)} {n T H F R U L:Int} {es:List Q4} {rs:List Pr}
theorem nh(h:¬(LT ss ws=true/\1<=n/\n<=8)):OL ss ws n=LO 1:=by unfold OL;rw[A h]
theorem oJ(h:LT ss ws=true/\1<=n/\n<=8)(b:OZ ss ws n=(es,U,L))(c:OU es []=none):OL ss ws n=LO 2:=by
 unfold OL;rw[G h,b];simp only;rw[c]
theorem pF(h:LT ss ws=true/\1<=n/\n<=8)(b:OZ ss ws n=(es,U,L))(c:OU es []=some rs)(d:60000<L+1):OL ss ws n=LO 3:=by
 unfold OL;rw[G h,b];simp only;rw[c];simp only;rw[G d]
theorem mH(h:LT ss ws=true/\1<=n/\n<=8)(b:OZ ss ws n=(es,U,L))(c:OU es []=some rs)(d:¬60000<L+1)(f:hv ss.length-1<MY (NC rs) n):OL ss ws n=LO 4:=by
 unfold OL;rw[G h,b];simp only;rw[c];simp only;rw[A d,G f]
theorem xz(h:LT ss ws=true/\1<=n/\n<=8)(b:NJ ss ws n=(T,H,F,R))(c:OZ ss ws n=(es,U,L))(d:OU es []=some rs)(f:¬60000<L+1)(i:¬hv ss.length-1<MY (NC rs) n)(j:hv ss.length<=U):OL ss ws n=PU n ss.length (L+1) T H F rs:=by
 unfold OL;rw[G h,c,b];simp only;rw[d];simp only;rw[A f,A i,G j]
theorem yq(h:LT ss ws=true/\1<=n/\n<=8)(b:NJ ss ws n=(T,H,F,R))(c:OZ ss ws n=(es,U,L))(d:OU es []=some rs)(f:¬60000<L+1)(i:¬hv ss.length-1<MY (NC rs) n)(j:¬hv ss.length<=U):OL ss ws n=⟨0,n,ss.length,L+1,T,H,F,R,U+1,0,rs,[(false,2+H*hv ss.length+U,NB 3 (L+1) (F+U) empty n),(true,0,empty)]⟩:=by
 unfold OL;rw[G h,c,b];simp only;rw[d];simp only;rw[A f,A i,A j]
end
theorem Nf{W S L T H F:Int}{b:List Pr}(h:b.length<=1048576)(c:bi W S L T H F b):(PU W S L T H F b).rs.length<=1048576/\(PU W S L T H F b).ops.length<=1000:=by
 unfold PU
 cases h2:da S T F with
 | false=>simp[LO]
 | true =>
  obtain⟨⟨k,j⟩,f,l,m,o,p,q⟩:=c;have r:=QS f;have i:=mu L (F+hv S) W.toNat (56-W.toNat) d d d (NC b);rw[show((W.toNat:Nat):Int)=W by omega]at i;simp only[IV,am,AK,TN];refine⟨h,?_⟩;simp;omega
theorem wi(ss:List Q4)(ws:List (Int×Q4))(n:Int):(OL ss ws n).rs.length<=1048576/\(OL ss ws n).ops.length<=1000:=by
 by_cases h:LT ss ws=true/\1<=n/\n<=8
 .obtain⟨T,H,F,R,i⟩:∃T H F R,NJ ss ws n=(T,H,F,R):=⟨_,_,_,_,z⟩
  obtain⟨es,U,L,b⟩:∃es U L,OZ ss ws n=(es,U,L):=⟨_,_,_,z⟩;have c:=mb h;have l:=ue h;rw[i]at c;rw[b]at l;unfold ZM at c;simp only at c l;obtain⟨⟨o,p,q⟩,_,_⟩:=QH h.1
  cases hf:OU es [] with
  | none=>rw[oJ h b hf];simp[LO]
  | some m =>
   have r:=(XO (kr es [] YI m hf)).1
   by_cases f:60000<L+1
   .rw[pF h b hf f];simp[LO]
   by_cases j:hv ss.length-1<MY (NC m) n
   .rw[mH h b hf f j];simp[LO]
   by_cases k:hv ss.length<=U
   .rw[xz h i b hf f j k]
    exact Nf d ⟨h.2,d,d,c.1,c.2.1,c.2.2.1,d⟩
   rw[yq h i b hf f j k]
   simp;omega
 rw[nh h];simp[LO]
end
def UB(d:List Q4×List (Int×Q4))(o:Bool×Int×Q4):List Q4×List (Int×Q4) :=if o.1=true then (LQ d.2 d.1,[]) else if QR d.1.length o.2=true/\d.2.length<300 then (d.1,d.2++[o.2]) else d
def PL:List (Bool×Int×Q4)->List Q4×List (Int×Q4)->List Q4×List (Int×Q4)
 | [],d=>d
 | o::r,d=>PL r (UB d o)
theorem Bq(d:List Q4×List (Int×Q4))(x:Int×Q4):UB d (true,x)=(LQ d.2 d.1,[]):=by simp[UB]
theorem Bw(d:List Q4×List (Int×Q4))(x:Int×Q4)(h:QR d.1.length x=true)(b:d.2.length<300):UB d (false,x)=(d.1,d.2++[x]):=by simp[UB,h,b]
theorem xe(d:List Q4×List (Int×Q4))(x:Int×Q4)(h:QR d.1.length x=false\/¬d.2.length<300):UB d (false,x)=d:=by
 unfold UB;rw[A j,A];rintro⟨b,c⟩;rcases h with h|h
 .rw[h]at b;cases b
 exact h c
theorem pQ(d:List Q4×List (Int×Q4))(o:Bool×Int×Q4):(UB d o).1.length=d.1.length:=by
 unfold UB
 split
 .exact MC _ _
 split<;>rfl
theorem vH:∀(ws:List (Int×Q4)) (ss:List Q4),(∀s∈ss,(s.size:Int)=64)->(∀x∈ws,(x.2.size:Int)=64)->∀s∈LQ ws ss,(s.size:Int)=64
 | [],ss,h,_=>h
 | x::r,ss,h,hw=>vH r _ (λs hs=>by
   rcases FC hs with h3|h3
   .exact h s h3
   .rw[h3];exact hw x (EN ..)) (λy hy=>hw y (DK _ hy))
theorem kj{x:Int×Q4}(h:QR n x=true):(0<=x.1/\x.1<(n:Int))/\(x.2.size:Int)=64:=by
 have:=AW h;omega
theorem vT(b:8<=ss.length/\ss.length<=200/\ws.length<=300)(c:∀s∈ss,(s.size:Int)=64)(d:∀x∈ws,QR ss.length x=true):LT ss ws=true:=by
 unfold LT;rw[BF,BF];exact⟨⟨AM b,DI.2 λs f=>AM (c s f)⟩,DI.2 d⟩
theorem yy(d:List Q4×List (Int×Q4))(o:Bool×Int×Q4)(h:LT d.1 d.2=true):LT (UB d o).1 (UB d o).2=true:=by
 obtain⟨j,c,f⟩:=QH h;unfold UB
 split
 .refine vT ?_ (vH _ _ c λx b=>(kj (f x b)).2) (λx b=>by simp at b)
  show 8<=(LQ d.2 d.1).length/\(LQ d.2 d.1).length<=200/\0<=300;rw[MC];omega
 split
 .rename_i i
  refine vT ?_ c (λx b=>?_)
  .show 8<=d.1.length/\d.1.length<=200/\(d.2++[o.2]).length<=300
   rw[AK];have:=i.2;simp;omega
  rcases BZ.1 b with b|b
  .exact f x b
  rw[DL.1 b];exact i.1
 exact h
theorem Ix(x y:List Int)(b:x.length=64)(c:y.length=64):PH 64 x y=x:=by
 unfold PH;rw[AS d,EA d,FT]
structure DV(w:Q9)(base X g n:Nat)(v:Ra)(ps:List (List Int))(hs:List (Int×List Int)):Prop where
 rx:Row w X [Y (Hw g 0) n n,v]
 pr:PR w g ps
 own:w.ownsRow base 123 65 v hs.length (LI hs)
 nx:v.ownBlock≠some X
 ng:v.ownBlock≠some g
 xg:X≠g
 bx:base<=X
 bg:base<=g
theorem DV.I{d:List (List Int)}{c:List (Int×List Int)}(h:DV w base X g n v d c)(b:Q3 w w'):DV w' base X g n v d c :=⟨h.rx.I b,h.pr.I b,MK h.own b,h.nx,h.ng,h.xg,h.bx,h.bg⟩
theorem OwnS.hld{b:List (Int×List Int)}(h:OwnS w a (LI b))(c:∀p∈b,p.2.length=64):Hld w a b:=by
 rcases h with h|⟨g,rfl,d⟩
 .refine .inl (AD ?_)
  have:=BD List.length h;rw[OC b c,AU]at this;omega
 exact d.hld c
theorem rf(h:∀x∈ws,x.2.size=64):∀p∈LU ws,p.2.length=64:=λp b=>by
 obtain⟨x,c,rfl⟩:=DW.1 b;show(LF x.2).length=64;rw[NK,h x c]
def il:List (Int×List Int)->List (List Int)->List (List Int)
 | [],ps=>ps
 | x::r,ps=>il r (ps.set x.1.toNat x.2)
theorem E5(ws:List (Int×Q4)):∀(ss:List Q4),il (LU ws) (ss.map LF)=(LQ ws ss).map LF:=by
 induction ws with
 | nil=>intro ss;rfl
 | cons x r b =>
  intro ss;have:=b (ss.set x.1.toNat x.2);rw[KE]at this;exact this
theorem DV.lay{i b:List (List Int)}{d:List (Int×List Int)}(h:DV w base X g n v i d)(c:w.grownBy w' (some g))(f:PR w' g b):DV w' base X g n v b d :=⟨h.rx.V c (λe=>h.xg (by injection e)),f,h.own.kept c (.inr h.ng),h.nx,h.ng,h.xg,h.bx,h.bg⟩
set_option maxRecDepth 100000 in
theorem Ek(base X g n:Nat)(v:Ra)(t:List (List Int))(f:List (Int×List Int))(w:Q9)(h:DV w base X g n v t f)(hn:t.length=n)(bE:n<=200)(hl:f.length<=300)(P:∀p∈f,p.2.length=64)(Q:∀p∈f,0<=p.1/\p.1<(n:Int))(R:base<=w.heap.size):Calls prog 290 #[Dr X 0] w λe w'=>(∃c,e=Q2 c)/\DV w' base X g n (Y none 0 0) (il f t) []/\Below base w w':=by
 obtain⟨B,L⟩:=nHz (il f t);rw[<-L.j]
 obtain⟨u,T,hv,bH⟩:∃u T,v=Y u f.length T/\(f=[]\/∃r,u=Hw r 0/\v.ownBlock=some r):=by
  rcases MS h.own with ⟨e,m⟩|⟨r,i,e,A,E,o⟩
  .exact⟨none,0,by rw[e,m],.inl (AD m)⟩
  exact⟨_,i,e,.inr ⟨r,z,by rw[e];rfl⟩⟩
 have b:=h.rx.y 1;rw[hv]at b;go_enter func290,ntmps290;go_wp2;have l:=LE h;have K:=LE P;have j:=LE Q;clear h P Q b;go_loopw [3,9] (λ_ i wr=>∃(k:Nat) (p:List (List Int)),k<=f.length/\i=Z k/\p.length=n/\Hid (il (f.drop k) p=B)/\DV wr base X g n v p f/\Below base w wr) (λ_ i _=>f.length-(intOf i).toNat)
 case atStart=>exact⟨0,t,AL,z,hn,by show _=_;rw[FI,L.j],l.j,AB⟩
 case round =>
  clear l;obtain⟨k,p,U,rfl,S,I,l,y⟩:=hrel
  by_cases F:k<f.length
  .obtain⟨b,bC,q⟩:∃b,u=Hw b 0/\Row wr b (LI f):=by
    rcases MS l.own with ⟨e,m⟩|⟨r,i,e,A,E,o⟩
    .omega
    rw[hv]at e
    injection e with s G H;exact⟨r,s,o⟩
   subst bC;obtain⟨D,o,s,c,i,bG,G,J⟩:=(q.hld K.j).at (k:=k) F
   obtain⟨rfl,rfl⟩:b=D/\o=0:=by cases i;exact⟨z,z⟩
   clear i q;rw[BK]at G;have M:Hid ((s,c)∈f):=by show _∈_;rw[J.j];simp[List.getD,F]
   have H:c.length=64:=K.j (s,c) M.j
   obtain⟨m,rfl,hm⟩:∃m:Nat,s=(m:Int)/\m<n:=by
    have:=j.j (s,c) M.j;exact⟨s.toNat,by simp at this;omega,by simp at this;omega⟩
   have q:(Z (m:Int)::c.map (Value.int .u8)).length=65:=by simp[H]
   have A:Hid ((prog.info? 123).map (·.size)=some (Z (m:Int)::c.map (Value.int .u8)).length):=by rw[q];show _=_;kernel_rfl
   have C:=LE q.symm;have bI:=PJ;have i:=LE l;clear q l
   go_wp2_with (first|(with_reducible refine fe 123 _ z ?_;refine BE z 123 _ z b (k*65) z (Z (m:Int)::c.map (Value.int .u8)) _ G underlying123 z A.j ?_)|(with_reducible refine fe 123 _ z ?_;refine BE z 123 _ z wr.heap.size 0 z (Z (m:Int)::c.map (Value.int .u8)) _ O.range underlying123 z A.j ?_)|(with_reducible refine aa 123 _ _ z ?_;refine LN z 123 _ _ z (Z (m:Int)::c.map (Value.int .u8)) (PC (m:Int) c) z z _ _ (by rw[<-C.j];kernel_rfl) A.j ?_;intro wx O q bF)|(go_at_call 255;refine(fi X g n n (Y none 0 0) p m c 64 _ ((i.j.I q).rx.y 0) i.j.xg (i.j.I q).pr S hm bE AA H AA).J ?_;rintro e w4 ⟨rfl,N,E⟩))
   have W:=LE ((i.j.I q).lay E N);have V:=LE ((y.E (q.J (AJ R y.size))).E (MU E (AJ R (AJ y.size q.size)) (λk U=>by cases U;exact i.j.bg)))
   have x:Hid (il (f.drop (k+1)) (p.set m (PH 64 c (p.getD m [])))=B):=by
    show _=_;rw[Ix c _ H (NQ i.j.pr.len d),<-I.j,eg f k (0,[]) F,<-J.j,il,DO]
   clear E N q O G bF;go_wp2;go_roundw
   case rel=>exact⟨k+1,_,d,ν,by simp[S],x,W.j,V.j⟩
   case measure=>simp[intOf];omega
  have m:Hid (p=B):=by
   have:=I.j;rw[EA d]at this;exact this
  rw[m.j]at l;have i:=LE l;have b:=l.rx.y 1;have o:=l.rx.A 1;clear l;go_wp2;go_end0;refine⟨⟨_,z⟩,⟨i.j.rx.set 1 σ _,i.j.pr.other _ i.j.xg _,BU _ _ _ _,by simp[Value.ownBlock],by simp[Value.ownBlock],i.j.xg,i.j.bx,i.j.bg⟩,y.setCell i.j.bx _⟩
set_option maxRecDepth 100000 in
theorem N7(base X g n:Nat)(v:Ra)(ss:List Q4)(ws:List (Int×Q4))(q:Int)(b:Q4)(w:Q9)(h:DV w base X g n v (ss.map LF) (LU ws))(k:ss.length=n)(r:LT ss ws=true)(i:base<=w.heap.size):Calls prog 254 #[Dr X 0,.agg #[Q1 true,Z q,Ow b]] w λe w'=>(∃x,e=Q2 x)/\DV w' base X g n (Y none 0 0) ((LQ ws ss).map LF) []/\Below base w w':=by
 obtain⟨⟨t,u,y⟩,s,l⟩:=QH r
 have c:∀o,Q3 w (w.alloc o):=λo=>LH _ _
 have m:=LE (λ(o:Obj)=>Ek base X g n v (ss.map LF) (LU ws) (w.alloc o) (h.I (c o)) (by simp[k]) d (by rw[SO];omega) (rf (λx f=>by have:=(kj (l x f)).2;omega)) (λp j=>by
  obtain⟨x,f,rfl⟩:=DW.1 j;have:=(kj (l x f)).1;rw[k]at this
  exact this) (AJ i (c o).size))
 go_enter func254,ntmps254;go_wp2_with (go_at_call 290;refine(m.j _).J ?_;rintro e A ⟨⟨x,rfl⟩,j,p⟩);go_end0;rw[E5]at j;exact⟨⟨_,z⟩,j,((c _).J i).E p⟩
set_option maxRecDepth 100000 in
theorem vJ(base X g n:Nat)(v:Ra)(ss:List Q4)(ws:List (Int×Q4))(i:Int)(f:Q4)(w:Q9)(h:DV w base X g n v (ss.map LF) (LU ws))(t:ss.length=n)(q:LT ss ws=true)(s:f.size<=1048576)(p:QR ss.length (i,f)=false\/¬ws.length<300)(m:base<=w.heap.size):Calls prog 254 #[Dr X 0,.agg #[Q1 false,Z i,Ow f]] w λe w'=>(∃x,e=Q2 x)/\DV w' base X g n v (ss.map LF) (LU ws)/\Below base w w':=by
 obtain⟨⟨y,A,B⟩,u,E⟩:=QH q
 have j:∀o,Q3 w (w.alloc o):=λo=>LH _ _
 obtain⟨C,D,rfl⟩:∃a c,v=Y a ws.length c:=by
  rw[<-SO];rcases MS h.own with ⟨e,b⟩|⟨g,c,e,_⟩
  .exact⟨_,_,by rw[e,b]⟩
  exact⟨_,_,e⟩
 have F:=h.rx.y 0;have G:=h.rx.y 1;have x:=h.rx.lt;have k:=LE h;subst t
 have l:∀b,QR ss.length (i,f)=b->∀w',Calls prog 127 #[Z (ss.length:Int),Z i,Ow f] w' λe o=>e=Q2 (Q1 b)/\o=w':=λb r w'=>by
  have:=tm ss.length i f w' s d;rw[r]at this;exact this
 cases hc:QR ss.length (i,f) with
 | false =>
  go_enter func254,ntmps254;go_wp2_with fail;go_quiet ((go_at_call 127;exact Calls.quiet_of_same (l false hc _)));go_wp2;go_end0;exact⟨⟨_,z⟩,k.j.I (below_drewN (j _) _),(below_drewN (j _) _).J m⟩
 | true =>
  have o:(decide ((ws.length:Int)<300))=false:=by
   rcases p with b|b
   .rw[hc]at b;cases b
   exact AH d
  go_enter func254,ntmps254;go_wp2_with fail;go_quiet ((go_at_call 127;exact Calls.quiet_of_same (l true hc _)));go_wp2;go_end0;exact⟨⟨_,z⟩,k.j.I (below_drewN (j _) _),(below_drewN (j _) _).J m⟩
theorem DV.push{c:Q9}{H g9 cap:Nat}{k:List (List Int)}{x:Int×Q4}(h:DV w base X g n v k (LU ws))(d:c.ownsRow base 123 65 (Y (Hw g9 0) ((LU ws).length+1) cap) ((LU ws).length+1) (LI (LU ws)++Z x.1::(LF x.2).map (Value.int .u8)))(i:w.grownBy c v.ownBlock)(f:v.ownBlock=some g9\/g9=H)(r:X<H)(s:g<H):DV (c.setCell (Ki X 1) (Y (Hw g9 0) (ws.length+1) cap)) base X g n (Y (Hw g9 0) (ws.length+1) cap) k (LU (ws++[x])):=by
 have m:LU (ws++[x])=LU ws++[(x.1,LF x.2)]:=by simp[LU]
 have o:(LU (ws++[x])).length=ws.length+1:=by rw[SO];simp
 have p:LI (LU (ws++[x]))=LI (LU ws)++Z x.1::(LF x.2).map (Value.int .u8):=by rw[m,PX];simp[LI]
 have j:g9≠X:=by rcases f with b|b;exactλe=>h.nx (by rw[b,e]);omega
 have l:g9≠g:=by rcases f with b|b;exactλe=>h.ng (by rw[b,e]);omega
 rw[SO]at d;have q:=d.kept (w':=c.setCell (Ki X 1) (Y (Hw g9 0) (ws.length+1) cap)) (row:=some X) (NZ (BC _ _) _ _) (.inr (λe=>j (by injection e)));refine⟨(h.rx.V i (λe=>h.nx e.symm)).set 1 σ _,(h.pr.V i (λe=>h.ng e.symm)).other _ h.xg _,?_,λe=>j (by injection e),λe=>l (by injection e),h.xg,h.bx,h.bg⟩;rw[o,p];exact q
set_option maxRecDepth 100000 in
theorem Qv(base X g n:Nat)(v:Ra)(ss:List Q4)(ws:List (Int×Q4))(m:Int)(b:Q4)(w:Q9)(i:DV w base X g n v (ss.map LF) (LU ws))(hn:ss.length=n)(O:LT ss ws=true)(H:QR ss.length (m,b)=true)(bU:ws.length<300)(y:base<=w.heap.size):Calls prog 254 #[Dr X 0,.agg #[Q1 false,Z m,Ow b]] w λe w'=>(∃x,e=Q2 x)/\(∃c,DV w' base X g n c (ss.map LF) (LU (ws++[(m,b)])))/\Below base w w':=by
 obtain⟨i0,c,k,o,p⟩:=LY yH;have s:=LE (I c (I k (I o p)));clear c k o p;obtain⟨⟨cH,cI,cJ⟩,q,C⟩:=QH O;have G:b.size=64:=by have h1:(b.size:Int)=64:=(kj H).2;omega
 have B:(LF b).length=64:=by rw[NK,G]
 have bT:∀o,Q3 w (w.alloc o):=λo=>LH _ _
 obtain⟨N,P,hv⟩:∃a c,v=Y a ws.length c:=by
  rw[<-SO];rcases MS i.own with ⟨e,k⟩|⟨g,c,e,_⟩
  .exact⟨_,_,by rw[e,k]⟩
  exact⟨_,_,e⟩
 have t:=i.rx.y 0;have E:=i.rx.y 1;subst hv;have cE:=i.rx.lt;have o:=LE i;subst hn
 have p:∀w',Calls prog 127 #[Z (ss.length:Int),Z m,Ow b] w' λe k=>e=Q2 (Q1 true)/\k=w':=λw'=>by
  have:=tm ss.length m b w' d d;rw[H]at this;exact this
 have cF:(decide ((ws.length:Int)<300))=true:=AM d;go_enter func254,ntmps254;go_wp2_with fail;go_quiet ((go_at_call 127;exact Calls.quiet_of_same (p _)));go_wp2_with fail;have x:Hid (Q3 w ((w.alloc (.cells #[Q1 false,Z m,Ow b] 167)).drewN nq)):=below_drewN (bT _) _;obtain⟨r,k⟩:=nMz ((w.alloc (.cells #[Q1 false,Z m,Ow b] 167)).drewN nq);have bY:r.cell? (Ki w.heap.size 1)=some (Z m):=by rw[k];simp[go_sem]
 have cL:r.cell? (Ki w.heap.size 2)=some (Ow b):=by rw[k];simp[go_sem]
 have bW:w.heap.size<r.heap.size:=by rw[k];simp
 rw[<-k]at x⊢;clear k;have A:=LE (o.j.I x.j);clear t E;have q1:=A.j.rx.y 1;have q2:=A.j.rx.A 1;have bZ:=PJ;have V:=NR;have W:=VB;have S:=TF (Z m) ((LF b).map (Value.int .u8)) QX (by rw[NR,BP,B]);have R:=TE (Z m) ((LF b).map (Value.int .u8)) 65 (by rw[BP,B]);have M:(LU ws).length=ws.length:=SO ws;have t:Hid (DV r.drew base X g ss.length (Y N ws.length P) (ss.map LF) (LU ws)):=A.j.I ((AB).drew);have u:=LE bY;have E:=LE bW;have U:=LE G;clear o i O p C q
 go_region_law (first|(refine step_append_lies _ f _ _ _ f base 123 i0 (.agg QX) 65 72 underlying93 s.j.1 s.j.2.1 s.j.2.2.1 s.j.2.2.2 κ d (Y N ws.length P) (LU ws).length (LI (LU ws)) f Q.j (Ki p.heap.size 0) 1 1 (Z m::(LF b).map (Value.int .u8)) f (by simp[B]) (World.news_of_block (AV p _)) (PC m (LF b)) d (by rw[M];unfold maxLen;omega) (by rw[M];omega) ξ (p.heap.size+1) σ ?_;intro g9 C w3 F k L bV;have q4:=(o.j.rx.V k (λe=>o.j.nx e.symm)).y 1;have q5:=(o.j.rx.V k (λe=>o.j.nx e.symm)).A 1;have q6:=(o.j.rx.V k (λe=>o.j.nx e.symm)).lt;have l:=LE F;have K:=LE k;have h:=LE L;clear F k L)|(refine LM f 196 #[Ow b] γ (om b _ U.j) ?_;rintro e p ⟨rfl,q⟩;refine⟨_,z,?_⟩;have y0:=(q.cell (p:=(Ki w.heap.size 1)) E.j).E u.j;have y1:=(t.j.I q).rx.y 1;have y2:=(t.j.I q).rx.lt;have y3:w.heap.size<p.heap.size:=AC E.j q.size;have J:=LE q;have o:=LE ((t.j.I q).I (MI p (.cells (Z m::(LF b).map (Value.int .u8)).toArray 123)));have Q:=LE o.j.own))
 all_goals
  have cC:g<p.heap.size:=(t.j.I J.j).pr.lt;have T:=LE (o.j.push (x:=(m,b)) l.j K.j h.j d d)
  have j:Hid (Below base w (w3.setCell (Ki X 1) (Y (Hw g9 0) (ws.length+1) C))):=by
   have F:Below base w p:=(x.j.J y).E (((@AB r.heap.size r).drew.E J.j).J (AJ y x.j.size));have L:=F.E ((MI p (.cells (Z m::(LF b).map (Value.int .u8)).toArray 123)).J (AJ y F.size));have D:=L.E (MU K.j (AJ y L.size) (λk hk=>(o.j.own.lt k hk).1));exact D.setCell o.j.bx _
  clear S R V W bZ;go_wp2;go_end0;exact⟨⟨_,z⟩,⟨_,T.j⟩,j.j⟩
theorem Ops.take{c:List (Bool×Int×Q4)}(h:Ops w a c)(m:Nat):Ops w a (c.take m):=by
 rcases h with h|⟨b,o,f,j,k⟩
 .exact .inl (by rw[h];simp)
 refine .inr ⟨b,o,f,j,λi l=>?_⟩
 have d:i<c.length/\i<m:=by simp at l;omega
 have e:(c.take m).getD i (false,0,empty)=c.getD i (false,0,empty):=by simp[List.getD,FQ,d.2]
 rw[e];exact k i d.1
theorem Row.lowB{R:Nat}{c:List Ra}(h:Row w R c)(b:Below base w w')(d:R<base):Row w' R c :=⟨AC h.lt b.size,λi v hv=>(b.cell (p:=(Ki R i)) d).E (h.cell i v hv),λi f=>(b.frozen (p:=(Ki R i)) d).E (h.froz i f)⟩
theorem OwnS.setp{b:List Ra}(h:OwnS w a b)(p:Addr)(i:∀g,a=Hw g 0->b≠[]->p.block≠g)(v:Ra):OwnS (w.setCell p v) a b:=by
 rcases h with h|⟨g,c,f⟩
 .exact .inl h
 by_cases d:b=[]
 .exact .inl d
 exact .inr ⟨g,c,f.other p (i g c d) v⟩
theorem sD(ss:List Q4):LW (ss.map LF)=ss:=by
 unfold LW;rw[IP];exact KT (λs=>WR s) ss
theorem uZ(ws:List (Int×Q4)):held (LU ws)=ws:=by
 unfold held LU;rw[IP];exact KT (λx=>by show(x.1,strOfNums (LF x.2))=x;rw[WR]) ws
theorem DV.form{j:List (List Int)}{b:List (Int×List Int)}(h:DV w base X g n v j b)(f:∀p∈b,p.2.length=64):∃a c,v=Y a b.length c/\Hld w a b:=by
 rcases MS h.own with ⟨e,d⟩|⟨g,c,e,_,_,i⟩
 .exact⟨_,_,by rw[e,d],.inl (AD d)⟩
 exact⟨_,_,e,i.hld f⟩
theorem wF:∀(l:List (Bool×Int×Q4)) (d:List Q4×List (Int×Q4)),(PL l d).1.length=d.1.length
 | [],_=>rfl
 | o::r,d=>by rw[PL,wF r,pQ]
theorem tC:∀(l:List (Bool×Int×Q4)) (d:List Q4×List (Int×Q4)),LT d.1 d.2=true->LT (PL l d).1 (PL l d).2=true
 | [],_,h=>h
 | o::r,d,h=>tC r _ (yy d o h)
theorem Hx(base X g n:Nat)(v:Ra)(ss:List Q4)(ws:List (Int×Q4))(s:Bool)(b:Int)(d:Q4)(w:Q9)(h:DV w base X g n v (ss.map LF) (LU ws))(m:ss.length=n)(k:LT ss ws=true)(o:d.size<=1048576)(j:base<=w.heap.size):Calls prog 254 #[Dr X 0,.agg #[Q1 s,Z b,Ow d]] w λe w'=>(∃x,e=Q2 x)/\(∃c,DV w' base X g n c ((UB (ss,ws) (s,b,d)).1.map LF) (LU (UB (ss,ws) (s,b,d)).2))/\Below base w w':=by
 cases s with
 | true =>
  rw[Bq];refine(N7 base X g n v ss ws b d w h m k j).J ?_;rintro e w' ⟨c,f,i⟩;exact⟨c,⟨_,f⟩,i⟩
 | false =>
  cases hc:QR ss.length (b,d) with
  | false =>
   rw[xe (ss,ws) (b,d) (.inl hc)];refine(vJ base X g n v ss ws b d w h m k o (.inl hc) j).J ?_;rintro e w' ⟨c,f,i⟩;exact⟨c,⟨_,f⟩,i⟩
  | true =>
   by_cases l:ws.length<300
   .rw[Bw (ss,ws) (b,d) hc l]
    exact Qv base X g n v ss ws b d w h m k hc l j
   rw[xe (ss,ws) (b,d) (.inr l)]
   refine(vJ base X g n v ss ws b d w h m k o (.inr l) j).J ?_;rintro e w' ⟨c,f,i⟩;exact⟨c,⟨_,f⟩,i⟩
def SR(z:Int)(n:Nat):Nat:=min z.toNat n
theorem wD(z:Int)(n:Nat):SR z n<=n:=Nat.min_le_right _ _
set_option maxRecDepth 100000 in
theorem Iz(a:Q5)(ss:List Q4)(c:Nat)(J:Q5)(ws:List (Int×Q4))(T:Nat)(f:Q5)(t:List (Bool×Int×Q4))(V:Nat)(r:Int)(m:Nat)(w:Q9)(h:Strs w a ss)(h':Wrs w J ws)(hz:Ops w f t)(dV:t.length<=V)(eG:t.length<=1048576)(cN:SR r t.length=m)(dH:∀p∈t,p.2.2.size<=1048576)(bI:LT ss ws=true):Calls prog 200 #[LR a ss.length c J ws.length T,Y f t.length V,Z r] w λe w'=>∃y U A R,e=Q2 (LR y (PL (t.take (m)) (ss,ws)).1.length U A (PL (t.take (m)) (ss,ws)).2.length R)/\OwnD w' y (PL (t.take (m)) (ss,ws)).1 A (PL (t.take (m)) (ss,ws)).2/\(∀g,blk y (PL (t.take (m)) (ss,ws)).1.length=some g->w.heap.size<=g)/\(∀g,blk A (PL (t.take (m)) (ss,ws)).2.length=some g->w.heap.size<=g)/\Q3 w w':=by
 obtain⟨⟨eK,cH,cZ⟩,bW,hw⟩:=QH bI
 have aW:∀b i,Q3 w ((w.alloc b).alloc i):=λb i=>(LH _ _).alloc σ _
 have eJ:m<=t.length:=by rw[<-cN];exact wD _ _
 obtain⟨B,P⟩:=nHz (t.take (m));have L:B.length=m:=by rw[P.j];simp;omega
 have cO:Ops w f B:=by rw[P.j];exact hz.take (m)
 have cX:Hid (∀p∈B,p.2.2.size<=1048576):=λp E=>dH p (by rw[P.j]at E;exact DR E)
 rw[<-P.j];obtain⟨x,j⟩:=nHz (PL B (ss,ws));rw[<-j.j];go_enter func200,ntmps200;go_wp2_with fail;refine(ZL a ss c J ws T _ (h.I (aW _ _)) (h'.I (aW _ _)) d d (λs l=>by have:=bW s l;omega) (λp E=>by have:=AW (hw p E);omega)).J ?_;rw[bI];rintro e w1 ⟨rfl,k⟩;have D:=(aW _ _).E (k.J τ);obtain⟨o,I⟩:=vi k;have b:=(OY (w.alloc (.cells #[Y a ss.length c,Y J ws.length T] 37)) #[Y none 0 0,Y none 0 0] 37 (w.heap.size+1) σ).I k;have G:=LE b;have i:=LE D;clear b k D;go_wp2_with fail;refine(mw a ss c J ws T _ (h.I i.j) (h'.I i.j) cH cZ (λs l=>by have:=bW s l;omega) (λp E=>by have:=AW (hw p E);omega)).J ?_;rintro e s ⟨g,v,rfl,F,b,D,l⟩;clear o I;have I:=LE (G.j.I l);have aU:Hid (w.heap.size+1+1<=g):=by have:=G.j.lt;show _<=_;omega
 have K:=LE (Below.then i.j AA l);have eB:g<s.heap.size:=F.lt;have eE:=aU.j;rw[<-SO]at b
 have o:∀k,v.ownBlock=some k->g+1<=k/\k<s.heap.size:=λk hk=>b.lt k hk
 have M:DV (s.alloc (.cells #[Y (Hw g 0) ss.length ss.length,v] 95)) (w.heap.size+1+1) s.heap.size g ss.length v (ss.map LF) (LU ws) :=⟨LZ _ _ _,F.I (MI _ _),(MK b (MI _ _)).J d,λe=>by have:=o _ e;omega,λe=>by have:=o _ e;omega,d,d,d⟩
 have q:w.heap.size+1+1<=(s.alloc (.cells #[Y (Hw g 0) ss.length ss.length,v] 95)).heap.size:=τ
 have Q:=LE M;have O:=LE (I.j.alloc (.cells #[Y (Hw g 0) ss.length ss.length,v] 95));have N:=LE (Below.then K.j AA (MI s (.cells #[Y (Hw g 0) ss.length ss.length,v] 95)))
 obtain⟨av,cv,hv⟩:∃a c,v=Y a ws.length c:=by
  rw[<-SO];rcases MS b with ⟨e,S⟩|⟨g,c,e,_⟩
  .exact⟨_,_,by rw[e,S]⟩
  exact⟨_,_,e⟩
 subst hv;have cW:=LE bI;clear M F b l i G K I o;go_upto_region 4 with fail;obtain⟨wq,b⟩:=nMz (s.alloc (.cells #[Y (Hw g 0) ss.length ss.length,Y av ws.length cv] 95));rw[<-b]at Q O N q⊢;go_cut [22,23,24] from 16 to 24 (λo l i F=>o=Y f m V/\l=Z (m:Int)/\i=Z 0/\F=wq)
 case first =>
  clear Q O N q cO b;unfold SR at cN;have o:¬((V:Int)<(m:Int)):=d
  by_cases S:r<0
  focus
   obtain rfl:m=0:=d
  rotate_left
  focus
   have F:0<=r:=d
   by_cases H:r<(t.length:Int)
   focus
    obtain⟨i,rfl⟩:∃i:Nat,r=(i:Int):=⟨r.toNat,d⟩;obtain rfl:m=i:=d
   rotate_left
   focus
    obtain rfl:m=t.length:=d
    by_cases l:r=(t.length:Int)
    focus
     subst l
    rotate_left
    focus
     have G:(t.length:Int)<r:=d
    rotate_left
   rotate_left 2
  rotate_left 3
  all_goals
   go_wp2_with fail;go_meet
   exact⟨by first|rfl|(congr 1;omega),by first|rfl|(congr 1;omega),z,z⟩
 case rest =>
  obtain⟨rfl,rfl,rfl,dL⟩:=hcut;clear b;subst dL;go_wp2;go_loopw [9,24] (λ_ i wr=>∃(k:Nat) (l:List Q4×List (Int×Q4)) (v:Ra),k<=m/\i=Z k/\l.1.length=ss.length/\Hid (LT l.1 l.2=true)/\Hid (PL (B.drop k) l=x)/\Hid (DV wr (w.heap.size+1+1) s.heap.size g ss.length v (l.1.map LF) (LU l.2))/\Hid (Row wr (w.heap.size+1) [Y none 0 0,Y none 0 0])/\Hid (Q3 w wr)/\w.heap.size+1+1<=wr.heap.size) (λ_ i _=>m-(intOf i).toNat)
  case atStart =>
   exact⟨0,(ss,ws),_,AL,z,z,cW,by show _=_;rw[FI,j.j],Q,O,N,q⟩
  case round =>
   obtain⟨k,l,v,hk,rfl,S,C,H,F,G,M,cM⟩:=hrel
   by_cases bC:k<m
   .obtain⟨b,o,u,W,K,rfl,dQ,dR,dU,HS⟩:=(cO.I M.j).at (k:=k) (by rw[L];exact bC)
    have bF:(u,W,K)∈B:=by rw[HS.j];simp[List.getD,L,bC]
    have dB:K.size<=1048576:=cX.j _ bF
    have bB:∀I,Q3 wr (wr.alloc I):=λI=>MI _ _
    have cQ:=LE (λI=>Hx (w.heap.size+1+1) s.heap.size g ss.length v l.1 l.2 u W K (wr.alloc I) (F.j.I (bB I)) S C.j dB (AJ cM (bB I).size));go_wp2_with (go_at_call 254;refine(cQ.j _).J ?_;rintro e w4 ⟨⟨p,rfl⟩,⟨v',bZ⟩,I⟩);have aT:=LE bZ;have bT:=LE (((bB (.cells #[Q1 u,Z W,Ow K] 167)).J cM).E I)
    have cS:Hid (PL (B.drop (k+1)) (UB l (u,W,K))=x):=by
     show _=_;rw[<-H.j,eg B k (false,0,empty) (by rw[L];exact bC),<-HS.j,PL]
    have dF:=I.size;clear bZ I;go_wp2;go_roundw
    case rel =>
     exact⟨k+1,_,v',d,ν,by rw[pQ];exact S,yy l _ C.j,cS,aT,G.j.lowB bT.j d,M.j.E (bT.j.J d),by simp at dF;omega⟩
    case measure =>
     simp[intOf];omega
   have bP:Hid (l=x):=by
    have:=H.j;rw[EA (by rw[L];omega)]at this;exact this
   clear H j Q O N;obtain rfl:=bP.j;obtain⟨⟨O,eH,eI⟩,K,I⟩:=QH C.j;have N:=LE (rf (ws:=l.2) λp E=>by have:=AW (I p E);omega);obtain⟨j,c2,hv,b⟩:=F.j.form N.j;rw[SO]at hv;have u:=F.j.rx.y 0;have o:=F.j.rx.y 1;rw[hv]at o;have cT:=LE b;clear O K I b;go_wp2_with fail;refine(RT (Hw g 0) (l.1.map LF) ss.length ss.length j (LU l.2) l.2.length c2 (by simp[S]) (SO _) _ F.j.pr.plt cT.j cH d F.j.pr.len N.j).J ?_;rintro e w5 ⟨y,U,A,R,rfl,I,K,W,E⟩;rw[sD,uZ]at I;have b:=G.j.I E;have r0:=b.y 0;have r1:=b.y 1;obtain⟨dM,dN⟩:=b.z2;have cP:=LE (Below.then M.j AA E);have cV:=LE I;have dP:=M.j.size
   have O:Hid (∀g,blk y ss.length=some g->w.heap.size+1<g):=λg D=>by have H:=K g D;omega
   have Q:Hid (∀g,blk A l.2.length=some g->w.heap.size+1<g):=λg D=>by have H:=W g D;omega
   clear I K W E b u o;go_wp2;rw[S];have dZ:l.1.length≠0:=d
   have u:∀(K:Q9) (b:Ra) (i:Nat),OwnD K y l.1 A l.2->OwnD (K.setCell (Ki (w.heap.size+1) i) b) y l.1 A l.2:=λK b i I=>by
    refine⟨I.s.setp _ (λo E W e=>?_) _,I.p.setp _ (λo E W e=>?_) _,I.ne⟩
    .have:=O.j o (by rw[E];exact ND o 0 _ d)
     have I:w.heap.size+1=o:=e;omega
    have:=Q.j o (by rw[E];exact ND o 0 _ (λI=>W (by rw[AD I];rfl)))
    have I:w.heap.size+1=o:=e;omega
   refine AE (v:=LR y ss.length U A l.2.length R) (by simp[results,results200,go_sem,r0,r1]) z ⟨y,U,A,R,z,u _ _ _ (u _ _ _ cV.j),λg D=>by have:=O.j g D;omega,λg D=>by have:=Q.j g D;omega,?_⟩;exact(cP.j.setCell (by show w.heap.size<=w.heap.size+1;omega) _).setCell (by show w.heap.size<=w.heap.size+1;omega) _
theorem Jt(a:Q5)(ss:List Q4)(c:Nat)(i:Q5)(ws:List (Int×Q4))(m:Nat)(f:Q5)(d:List (Bool×Int×Q4))(l:Nat)(b:Int)(w:Q9)(h:Strs w a ss)(u:Wrs w i ws)(y:Ops w f d)(p:d.length<=l)(q:d.length<=1048576)(s:∀x∈d,x.2.2.size<=1048576)(r:LT ss ws=true):Calls prog 200 #[LR a ss.length c i ws.length m,Y f d.length l,Z b] w λe w'=>∃j t k o,e=Q2 (LR j (PL (d.take (SR b d.length)) (ss,ws)).1.length t k (PL (d.take (SR b d.length)) (ss,ws)).2.length o)/\OwnD w' j (PL (d.take (SR b d.length)) (ss,ws)).1 k (PL (d.take (SR b d.length)) (ss,ws)).2/\(∀g,blk j (PL (d.take (SR b d.length)) (ss,ws)).1.length=some g->w.heap.size<=g)/\(∀g,blk k (PL (d.take (SR b d.length)) (ss,ws)).2.length=some g->w.heap.size<=g)/\Q3 w w':=by
 exact Iz a ss c i ws m f d l b _ w h u y p q z s r
theorem Nw(a:Q5)(ss:List Q4)(c:Nat)(d:Q5)(ws:List (Int×Q4))(l:Nat)(v b:Ra)(w:Q9)(h:Strs w a ss)(t:Wrs w d ws)(u:ss.length<=1048576)(o:ws.length<=1048576)(y:∀s∈ss,s.size<=1048576)(r:∀x∈ws,x.2.size<=1048576)(p:LT ss ws=false):Calls prog 200 #[LR a ss.length c d ws.length l,v,b] w λe w'=>e=Q2 (LR none 0 0 none 0 0)/\Q3 w w':=by
 have i:∀f k,Q3 w ((w.alloc f).alloc k):=λf k=>(LH _ _).alloc j _
 go_enter func200,ntmps200;go_wp2_with fail;refine(ZL a ss c d ws l _ (h.I (i _ _)) (t.I (i _ _)) u o y r).J ?_;rw[p];rintro e C ⟨rfl,k⟩;have m:=LE ((i _ _).E (k.J q));have f:=(OY (w.alloc (.cells #[Y a ss.length c,Y d ws.length l] 37)) #[Y none 0 0,Y none 0 0] 37 (w.heap.size+1) j).I k;have s:=f.y 0;have x:=f.y 1;obtain⟨A,B⟩:=f.z2;clear f k;go_wp2;exact H (v:=LR none 0 0 none 0 0) (by simp[results,results200,go_sem,s,x]) z ⟨z,(m.j.setCell (by show w.heap.size<=w.heap.size+1;omega) _).setCell (by show w.heap.size<=w.heap.size+1;omega) _⟩
def OS(ss:List Q4)(ws:List (Int×Q4))(b:List (Bool×Int×Q4))(z:Int):List Q4×List (Int×Q4):=if LT ss ws=true then PL (b.take (SR z b.length)) (ss,ws) else ([],[])
theorem Ln(a:Q5)(ss:List Q4)(c:Nat)(i:Q5)(ws:List (Int×Q4))(l:Nat)(f:Q5)(d:List (Bool×Int×Q4))(m:Nat)(b:Int)(w:Q9)(h:Strs w a ss)(p:Wrs w i ws)(D:Ops w f d)(q:d.length<=m)(t:d.length<=1048576)(y:∀x∈d,x.2.2.size<=1048576)(B:ss.length<=1048576)(r:ws.length<=1048576)(C:∀s∈ss,s.size<=1048576)(u:∀x∈ws,x.2.size<=1048576):Calls prog 200 #[LR a ss.length c i ws.length l,Y f d.length m,Z b] w λe w'=>∃j A k o,e=Q2 (LR j (OS ss ws d b).1.length A k (OS ss ws d b).2.length o)/\OwnD w' j (OS ss ws d b).1 k (OS ss ws d b).2/\(∀g,blk j (OS ss ws d b).1.length=some g->w.heap.size<=g)/\(∀g,blk k (OS ss ws d b).2.length=some g->w.heap.size<=g)/\Q3 w w':=by
 by_cases j:LT ss ws=true
 .have k:OS ss ws d b=PL (d.take (SR b d.length)) (ss,ws):=by simp[OS,j]
  rw[k];exact Jt a ss c i ws l f d m b w h p D q t y j
 have k:OS ss ws d b=([],[]):=by simp[OS,j]
 rw[k];refine(Nw a ss c i ws l _ _ w h p B r C u (by simpa using j)).J ?_;rintro e w' ⟨rfl,s⟩;exact⟨none,0,none,0,z,⟨.inl z,.inl z,.inl z⟩,(λg o=>by cases o),(λg o=>by cases o),s⟩
section
def TR(zs:List Int):Nat->List (Int×List Int)->List (List Int)->List (List Int)
 | _,[],ps=>ps
 | i,x::r,ps=>TR zs (i+1) r (ps.set x.1.toNat (PH (yAP zs i) x.2 (ps.getD x.1.toNat [])))
theorem iq(zs:List Int):∀(hs:List (Int×List Int)) (i:Nat) (ps:List (List Int)),(TR zs i hs ps).length=ps.length
 | [],_,_=>rfl
 | x::r,i,ps=>by rw[TR,iq zs r];simp
structure PLs(W w:Q9)(R X g:Nat)(xs:List Ra)(a2:Q5)(hs:List (Int×List Int))(ps:List (List Int)):Prop where
 bel:Q3 W w
 rr:Row w R [Y none 0 0,Y none 0 0]
 rx:Row w X xs
 pr:PR w g ps
 own:OwnS w a2 (LI hs)
section
variable {W w w':Q9} {R X g:Nat} {xs:List Ra} {a2:Q5} {hs:List (Int×List Int)} {ps ps':List (List Int)}
theorem PLs.I(h:PLs W w R X g xs a2 hs ps)(b:Q3 w w'):PLs W w' R X g xs a2 hs ps :=⟨h.bel.E (b.J h.bel.size),h.rr.I b,h.rx.I b,h.pr.I b,h.own.I b⟩
theorem PLs.drew(h:PLs W w R X g xs a2 hs ps):PLs W w.drew R X g xs a2 hs ps:=h.I ((AB).drew)
theorem PLs.V(h:PLs W w R X g xs a2 hs ps)(c:w.grownBy w' (some g))(p:PR w' g ps')(f:W.heap.size<=g)(i:R≠g)(j:X≠g)(l:∀b,a2=Hw b 0->LI hs≠[]->b≠g):PLs W w' R X g xs a2 hs ps' :=⟨h.bel.E (MU c h.bel.size (λk o=>by cases o;exact f)),h.rr.V c (λe=>i (by injection e)),h.rx.V c (λe=>j (by injection e)),p,h.own.V c (λb m d e=>l b m d (by injection e))⟩
end
set_option maxRecDepth 100000 in
theorem Co(a:Q5)(ss:List Q4)(c:Nat)(L:Q5)(ws:List (Int×Q4))(U:Nat)(t:Q5)(D:List Int)(cf:Nat)(w:Q9)(A:Strs w a ss)(h':Wrs w L ws)(hz:Ints w t D)(dH:D.length<=1048576)(cJ:LT ss ws=true):Calls prog 201 #[LR a ss.length c L ws.length U,Y t D.length cf] w λe w'=>∃G V N T,e=Q2 (LR G ss.length V N 0 T)/\OwnD w' G (LW (TR D 0 (LU ws) (ss.map LF))) N []/\(∀g,blk G ss.length=some g->w.heap.size<=g)/\Q3 w w':=by
 obtain⟨⟨eG,C,dL⟩,bY,u⟩:=QH cJ
 have x:∀i k,Q3 w ((w.alloc i).alloc k):=λi k=>(LH _ _).alloc σ _
 obtain⟨I,aJ⟩:=nHz (TR D 0 (LU ws) (ss.map LF));rw[<-aJ.j];go_enter func201,ntmps201;go_wp2_with fail;refine(ZL a ss c L ws U _ (A.I (x _ _)) (h'.I (x _ _)) d d (λs y=>by have:=bY s y;omega) (λr i=>by have:=AW (u r i);omega)).J ?_;rw[cJ];rintro e w1 ⟨rfl,o⟩;have B:=(x _ _).E (o.J τ);obtain⟨M,E⟩:=vi o;have m:=(OY (w.alloc (.cells #[Y a ss.length c,Y L ws.length U] 37)) #[Y none 0 0,Y none 0 0] 37 (w.heap.size+1) σ).I o;have p:=LE m;have k:=LE B;clear m o B;go_wp2_with fail;refine(mw a ss c L ws U _ (A.I k.j) (h'.I k.j) C dL (λs y=>by have:=bY s y;omega) (λr i=>by have:=AW (u r i);omega)).J ?_;rintro e B ⟨g,v,rfl,O,s,W,o⟩;clear M E;have y:=LE (p.j.I o);have b:Hid (w.heap.size+1+1<=g):=by have:=p.j.lt;show _<=_;omega
 have F:=LE (Below.then k.j AA o)
 obtain⟨E,P,hv,M,K⟩:∃E P,v=Y E ws.length P/\OwnS B E (LI (LU ws))/\∀Q,E=Hw Q 0->ws≠[]->Q≠g/\Q<B.heap.size:=by
  rcases MS s with ⟨e,R⟩|⟨Q,m,e,h1,h,S⟩
  .have:ws=[]:=AD R
   subst this;exact⟨none,0,e,.inl z,λ_ _ J=>absurd z J⟩
  exact⟨_,m,e,.inr ⟨Q,z,S⟩,λq J _=>by cases J;exact⟨d,h⟩⟩
 subst hv;have m:=LE O;have J:=LE M;clear O s M o k p;go_wp2
 have k:∀r∈ws,r.2.size=64:=λr i=>by have:=AW (u r i);omega
 have aI:=LE (rf k)
 have bJ:∀s,E=Hw s 0->LI (LU ws)≠[]->s≠g:=λs i o=>(K s i (λe=>o (by rw[e];rfl))).1
 have eB:g<B.heap.size:=m.j.lt;have cW:w.heap.size+1≠g:=by have:=b.j;omega
 have dR:w.heap.size<=g:=by have:=b.j;omega
 have p:PLs w (B.alloc (.cells #[Y (Hw g 0) ss.length ss.length,Y E ws.length P] 95)) (w.heap.size+1) B.heap.size g [Y (Hw g 0) ss.length ss.length,Y E ws.length P] E (LU ws) (ss.map LF) :=⟨Below.then F.j AA (MI _ _),y.j.alloc _,LZ _ _ _,m.j.I (MI _ _),J.j.I (MI _ _)⟩
 have o:=LE p;have HW:=LE u;clear p m J F y K u k;go_loopw [6,7,17] (λ_ _ i wr=>∃(k:Nat) (J:List (List Int)),k<=ws.length/\i=Z k/\J.length=ss.length/\Hid (TR D k ((LU ws).drop k) J=I)/\PLs w wr (w.heap.size+1) B.heap.size g [Y (Hw g 0) ss.length ss.length,Y E ws.length P] E (LU ws) J) (λ_ _ i _=>ws.length-(intOf i).toNat)
 case atStart=>exact⟨0,_,AL,z,σ,by show _=_;rw[FI,aJ.j],o.j⟩
 case round =>
  clear o;obtain⟨k,J,hk,rfl,bP,q,p⟩:=hrel;have cN:I.length=ss.length:=by rw[<-q.j,iq,bP]
  by_cases l:k<ws.length
  .obtain⟨s,o,S,r,rfl,eF,O,HX⟩:=(p.own.hld aI.j).at (k:=k) (by rw[SO];exact l)
   have aP:Hid ((S,r)∈LU ws):=by show _∈_;rw[HX.j];simp[List.getD,SO,l]
   have cP:r.length=64:=aI.j (S,r) aP.j
   obtain⟨m,rfl,hm⟩:∃m:Nat,S=(m:Int)/\m<ss.length:=by
    obtain⟨y,u,e⟩:=DW.1 aP.j;have K:=AW (HW.j y u);have F:y.1=S:=by rw[EK]at e;exact e.1
    exact⟨S.toNat,d,d⟩
   have u:(Z (m:Int)::r.map (Value.int .u8)).length=65:=by simp[cP]
   have H:Hid ((prog.info? 123).map (·.size)=some (Z (m:Int)::r.map (Value.int .u8)).length):=by rw[u];show _=_;kernel_rfl
   have cV:=LE u.symm;have eI:=PJ;have y:=LE p;clear u p
   go_wp2_with (first|(with_reducible refine fe 123 _ z ?_;refine BE z 123 _ z s (o+k*65) z (Z (m:Int)::r.map (Value.int .u8)) _ O underlying123 z H.j ?_)|(with_reducible refine aa 123 _ _ z ?_;refine LN z 123 _ _ z (Z (m:Int)::r.map (Value.int .u8)) (PC (m:Int) r) z z _ _ (by rw[<-cV.j];kernel_rfl) H.j ?_;intro wx u K j))
   have M:=LE (y.j.I K);have R:=u.range;have aK:=LE u;have dF:wr.heap.size≠g:=by have:=y.j.pr.lt;omega
   have cC:=p8 D k;obtain⟨F,h⟩:=nHz (yAP D k);rw[<-h.j]at cC;have dU:=LE (((hz.I M.j.bel)));clear u O K j R;refine AN (S:=λw'=>w'.rangeAt wr.heap.size 0 (Z (m:Int)::r.map (Value.int .u8))) κ aK.j.drew.range (λO=>?_);refine TK 0 (.agg (Z (m:Int)::r.map (Value.int .u8)).toArray) z (yieldsIf_load_mid f _ _ z wr.heap.size 0 z (Z (m:Int)::r.map (Value.int .u8)) _ (λw u=>u) underlying123 z H.j) O ?_;simp only[Act.put,CJ];refine TK 1 (Y t D.length cf) z (AT ⟨f,λw u=>γ⟩) O ?_;simp only[Act.put];refine TK 2 (Z (k:Int)) z (AT ⟨f,λw u=>γ⟩) O ?_;simp only[Act.put];refine RD 3 z (λK R=>?_);refine LM f _ _ γ (Ot t D cf k _ (hz.I M.j.drew.bel) dH d) ?_
   rw[<-h.j];rintro e w3 ⟨rfl,rfl⟩;refine⟨_,z,?_⟩;refine R.j _ _ O (λ_=>?_);clear R K;simp only[Act.put];refine RD 4 z (λK R=>?_);refine LM f _ _ γ (fi B.heap.size g ss.length ss.length (Y none 0 0) J m r F _ (M.j.drew.rx.y 0) d M.j.drew.pr bP hm C AA cP cC) ?_;rintro e w4 ⟨rfl,aR,j⟩;refine⟨_,z,?_⟩;refine R.j _ _ (aK.j.drew.V j (λe=>dF (by injection e))).range (λ_=>?_);clear R K;simp only[Act.put];refine DN ?_;have K:=M.j.drew.V j aR dR cW d bJ;have R:=LE K
   have cS:Hid (TR D (k+1) ((LU ws).drop (k+1)) (J.set m (PH F r (J.getD m [])))=I):=by
    show _=_;rw[<-q.j,eg (LU ws) k (0,[]) (by rw[SO];exact l),<-HX.j,TR,DO,h.j]
   clear K aR j O;go_wp2;go_roundw
   case rel=>exact⟨k+1,_,d,ν,by simp[bP],cS,R.j⟩
   case measure=>simp[intOf];omega
  have H:Hid (J=I):=by
   have:=q.j;rw[EA (by rw[SO];omega)]at this;exact this
  rw[H.j]at p;have y:=LE p;have q0:=p.rx.y 0;have M:=p.rx.y 1;have f1:=p.rx.A 1;clear p;go_wp2_with fail;have cX:B.heap.size≠g:=d
  have eE:w.heap.size+1<B.heap.size:=by have:=b.j;omega
  have o:=y.j.pr.other (Ki B.heap.size 1) cX (Y none 0 0);have u:=y.j.rr.other (Ki B.heap.size 1) (by show B.heap.size≠w.heap.size+1;omega) (Y none 0 0);have K:=y.j.bel.setCell (p:=(Ki B.heap.size 1)) (by show w.heap.size<=B.heap.size;omega) (Y none 0 0);refine(RT (Hw g 0) I ss.length ss.length none [] 0 0 cN z _ o.plt (.inl z) C d o.len (λp hp=>by simp at hp)).J ?_;rintro e w5 ⟨G,V,N,T,rfl,S,R,dB,F⟩;have m:=u.I F;have r0:=m.y 0;have r1:=m.y 1;obtain⟨dV,dZ⟩:=m.z2;have j:=LE (Below.then K AA F);have cY:=K.size;have cT:=LE S
  have O:Hid (∀g,blk G ss.length=some g->w.heap.size+1<g):=λg W=>by
   have h1:=R g W;have h:=u.lt;omega
  clear S R dB F m o u K q0 M f1 cY;go_wp2;have S:(LW I).length=ss.length:=by simp[LW,cN]
  refine AE (v:=LR G ss.length V N 0 T) (by simp[results,results201,go_sem,r0,r1]) z ⟨G,V,N,T,z,⟨?_,.inl z,.inr (.inl z)⟩,λg W=>by have:=O.j g W;omega,?_⟩
  .have K:∀(F:Q9) (u:Ra) (i:Nat),OwnS F G ((LW I).map Value.string)->OwnS (F.setCell (Ki (w.heap.size+1) i) u) G ((LW I).map Value.string):=λF u i o=>by
    rcases o with o|⟨m,M,R⟩
    .exact .inl o
    refine .inr ⟨m,M,R.other _ (λe=>?_) _⟩
    have:=O.j m (by rw[M];exact ND m 0 _ d);have h:w.heap.size+1=m:=e;omega
   exact K _ _ _ (K _ _ _ cT.j.s)
  exact(j.j.setCell (by show w.heap.size<=w.heap.size+1;omega) _).setCell (by show w.heap.size<=w.heap.size+1;omega) _
end
section
theorem s7(p:Q4)(i j:Nat)(h:i<=j):LF (p.extract i j)=((LF p).take j).drop i:=by
 unfold LF;rw[IN,JV];simp[KS,GT,List.take_drop,Nat.add_sub_cancel' h]
theorem Fd(F:Nat)(d t:Q4)(hF:F<=64)(b:d.size=64)(c:t.size=64):LF (d.extract 0 F++t.extract F 64)=PH F (LF d) (LF t):=by
 rw[rM,s7 _ _ _ AL,s7 _ _ _ hF,PH,FI];rw[AS (l:=LF t) (by rw[NK];omega)]
theorem F0(F:Nat)(d t:Q4)(hF:F<=64)(b:d.size=64)(c:t.size=64):(d.extract 0 F++t.extract F 64).size=64:=by
 rw[AP,AQ,AQ];omega
structure PTs(W w:Q9)(R X g g' n n' c1 c1':Nat)(ws:List (Int×Q4))(ts:List Q4):Prop where
 bel:Q3 W w
 rr:Row w R [Y none 0 0,Y none 0 0]
 rx:Row w X [Y (Hw g 0) n c1,Y (Hw g' 0) n' c1']
 rs:Row w g (ts.map Value.string)
 own:OwnS w (Hw g' 0) (MZ ws)
section
variable {W w w':Q9} {R X g g' n n' c1 c1':Nat} {ws:List (Int×Q4)} {ts:List Q4}
theorem PTs.I(h:PTs W w R X g g' n n' c1 c1' ws ts)(b:Q3 w w'):PTs W w' R X g g' n n' c1 c1' ws ts :=⟨h.bel.E (b.J h.bel.size),h.rr.I b,h.rx.I b,h.rs.I b,h.own.I b⟩
theorem PTs.drew(h:PTs W w R X g g' n n' c1 c1' ws ts):PTs W w.drew R X g g' n n' c1 c1' ws ts:=h.I ((AB).drew)
theorem PTs.set(h:PTs W w R X g g' n n' c1 c1' ws ts)(m:Nat)(l:m<ts.length)(s:Q4)(f:W.heap.size<=g)(i:R≠g)(j:X≠g)(k:MZ ws≠[]->g'≠g):PTs W (w.setCell (Ki g m) (Ow s)) R X g g' n n' c1 c1' ws (ts.set m s):=by
 refine⟨h.bel.setCell f _,h.rr.other _ (λe=>i e.symm) _,h.rx.other _ (λe=>j e.symm) _,?_,?_⟩
 .rw[KE];exact h.rs.set m (by simpa using l) _
 rcases h.own with o|⟨b,e,p⟩
 .exact .inl o
 injection e with e;injection e with e
 by_cases c:MZ ws=[]
 .exact .inl c
 exact .inr ⟨g',rfl,(e ▸ p).other _ (λd=>k c d.symm) _⟩
end
set_option maxRecDepth 100000 in
theorem Gm(a:Q5)(ss:List Q4)(c:Nat)(O:Q5)(ws:List (Int×Q4))(V:Nat)(l:Q5)(B:List Int)(cf:Nat)(w:Q9)(p:Strs w a ss)(h':Wrs w O ws)(hz:Ints w l B)(eJ:B.length<=1048576)(cI:LT ss ws=true):Calls prog 171 #[LR a ss.length c O ws.length V,Y l B.length cf] w λe w'=>∃b J i I,e=Q2 (LR b ss.length J i 0 I)/\OwnD w' b (LW (TR B 0 (LU ws) (ss.map LF))) i []/\(∀g,blk b ss.length=some g->w.heap.size<=g)/\Q3 w w':=by
 obtain⟨⟨eK,dN,dP⟩,r,D⟩:=QH cI
 have j:∀b i,Q3 w ((w.alloc b).alloc i):=λb i=>(LH _ _).alloc σ _
 obtain⟨q,aG⟩:=nHz (TR B 0 (LU ws) (ss.map LF));rw[<-aG.j];go_enter func171,ntmps171;go_wp2_with fail;refine(ZX a ss c O ws V _ (p.I (j _ _)) (h'.I (j _ _)) d d (λs N=>by have:=r s N;omega) (λb i=>by have:=AW (D b i);omega)).J ?_;rw[cI];rintro e w1 ⟨rfl,b⟩;have k:=(j _ _).E (b.J τ);obtain⟨t,y⟩:=vi b;have m:=(OY (w.alloc (.cells #[Y a ss.length c,Y O ws.length V] 37)) #[Y none 0 0,Y none 0 0] 37 (w.heap.size+1) σ).I b;have o:=LE m;have i:=LE k;clear m b k;go_wp2_with fail;refine(TW a ss c O ws V _ (p.I i.j) (h'.I i.j) dN dP).J ?_;rintro e E ⟨g,J,P,I,rfl,m,L,Q,k⟩;clear t y;go_wp2;have S:ss.length≠0:=d
 have F:w1.heap.size<=g:=L g (by unfold blk;rw[A S];rfl);have M:=o.j.lt
 have t:Row E g (ss.map Value.string):=by
  rcases m.s with e|⟨b,e,y⟩
  .exact absurd (BD List.length e) (by rw[BP,AU];omega)
  cases e;exact y
 have eG:=t.lt
 have K:MZ ws≠[]->P≠g:=λy=>by
  have b:ws.length≠0:=λe=>y (by rw[AD e];rfl)
  rcases m.ne with e|e|e
  .unfold blk at e;rw[A S]at e;exact absurd e σ
  .unfold blk at e;rw[A b]at e;exact absurd e σ
  unfold blk at e;rw[A S,A b]at e;exactλy=>e (by rw[y])
 have y:PTs w (E.alloc (.cells #[Y (Hw g 0) ss.length J,Y (Hw P 0) ws.length I] 37)) (w.heap.size+1) E.heap.size g P ss.length ws.length J I ws ss :=⟨Below.then (Below.then i.j AA k) AA (MI _ _),(o.j.I k).alloc _,LZ _ _ _,t.alloc _,m.p.I (MI _ _)⟩
 have b:=LE y;have HW:=LE D;have cL:=LE r;have cP:=LE K;have cJ:w.heap.size<=g:=AJ i.j.size F;have C:w.heap.size+1≠g:=d
 have bZ:E.heap.size≠g:=d
 have dZ:w.heap.size+1<E.heap.size:=by have:=k.size;omega
 clear y m L Q k t K D r o i F M;go_loopw [6,7,8] (λi _ _ wr=>∃(k:Nat) (D:List Q4),k<=ws.length/\i=Z k/\D.length=ss.length/\Hid (∀s∈D,s.size=64)/\Hid (TR B k ((LU ws).drop k) (D.map LF)=q)/\PTs w wr (w.heap.size+1) E.heap.size g P ss.length ws.length J I ws D) (λi _ _ _=>ws.length-(intOf i).toNat)
 case atStart=>exact⟨0,ss,AL,z,z,LE (λs N=>by have:=cL.j s N;omega),by show _=_;rw[FI,aG.j],b.j⟩
 case round =>
  clear b;obtain⟨k,D,W,rfl,L,aH,HK,y⟩:=hrel
  by_cases U:k<ws.length
  .obtain⟨b,o,f,i,m,cA,cC,HX⟩:=y.own.wrs.at U
   obtain⟨rfl,rfl⟩:P=b/\o=0:=by cases m;exact⟨z,z⟩
   rw[BK]at cA cC;clear m;have F:(f,i)∈ws:=by rw[HX.j];simp[List.getD,U]
   have r:=AW (HW.j (f,i) F);obtain⟨m,rfl,M⟩:∃m:Nat,f=(m:Int)/\m<ss.length:=⟨f.toNat,by have:=r.1;omega,by have:=r.2.1;have:=r.1;simp at *;omega⟩;have aL:i.size=64:=by have:=r.2.2;simp at this;omega
   have cE:=y.rs.cell m (Ow (D.getD m empty)) (by simp[List.getD,L,M]);have H:(D.getD m empty).size=64:=aH.j _ (by simp[List.getD,L,M]);have cZ:=y.rs.froz m (by simp[L,M]);obtain⟨t,x⟩:=nHz (D.getD m empty);rw[<-x.j]at cE H;have x0:=y.rx.y 0;have x1:=y.rx.y 1;have dM:=y.rx.lt;have eI:=y.rs.lt;have aM:=p8 B k;have T:=LE y;have HZ:=LE (hz.I y.bel);clear y F r;obtain⟨F,hF⟩:=nMz (yAP B k:Nat);have cV:F<=64:=by rw[hF];exact p8 B k
   obtain⟨R,bQ⟩:=nMz (if k<B.length then B.getD k 0 else 0:Int);obtain⟨h,u⟩:=nMz (if R<0 then 0 else R:Int)
   have bY:(F:Int)=if 64<h then 64 else h:=by
    rw[hF,u,bQ];unfold yAP
    by_cases K:k<B.length
    .rw[G K,G K]
     by_cases r:B.getD k 0<0
     .rw[G r,G r];rfl
     rw[A r,A r]
     by_cases Q:64<B.getD k 0
     .rw[G Q,G Q];rfl
     rw[A Q,A Q];omega
    rw[A K,A K];rfl
   have HF:=LE hF.symm;have bU:=LE bQ;have cS:=LE u;have cN:=LE bY;clear hF bQ u bY aM;go_upto_if 25 with fail;go_cut [7] from 22 to 29 (λK Q=>K=Z R/\wr=Q)
   case first =>
    by_cases u:k<B.length
    .have e:=bU.j
     rw[G u]at e;obtain⟨bz,oz,r,rfl,eB,eE,cT⟩:=HZ.j.at u;obtain rfl:R=r:=by rw[e];exact cT.j.symm
     clear e;have dQ:(k:Int)<(B.length:Int):=d
     have eL:¬((B.length:Int)<=(k:Int)):=d
     go_wp2_with fail;go_meet;exact⟨z,z⟩
    have e:=bU.j
    rw[A u]at e;subst e;have dQ:¬((k:Int)<(B.length:Int)):=d
    go_wp2_with fail;go_meet;exact⟨z,z⟩
   case rest =>
   obtain⟨rfl,rfl⟩:=hcut;go_upto_if 31 with fail;go_cut [7] from 30 to 31 (λK Q=>K=Z h/\wr=Q)
   case first =>
    have e:=cS.j
    by_cases r:R<0
    .rw[G r]at e
     subst e;go_wp2_with fail;go_meet;exact⟨z,z⟩
    rw[A r]at e
    subst e;go_wp2_with fail;go_meet;exact⟨z,z⟩
   case rest =>
   obtain⟨rfl,rfl⟩:=hcut;go_upto_if 33 with fail;go_cut [7] from 32 to 33 (λK Q=>K=Z (F:Int)/\wr=Q)
   case first =>
    have e:=cN.j
    by_cases r:64<h
    .rw[G r]at e
     obtain rfl:F=64:=d
     go_wp2_with fail;go_meet;exact⟨z,z⟩
    rw[A r]at e
    subst e;go_wp2_with fail;go_meet;exact⟨z,z⟩
   case rest =>
   obtain⟨rfl,rfl⟩:=hcut;go_wp2_with fail;have r:=T.j.I (MI wr (.cells #[Z (m:Int),Ow i] 125));have Q:=Cx.new wr (Z (m:Int)) (Ow i) 125;obtain⟨wq,K⟩:=nMz (wr.alloc (.cells #[Z (m:Int),Ow i] 125));rw[<-K]at r Q⊢;have eH:wr.heap.size<wq.heap.size:=by rw[K];simp
   have eF:g≠wr.heap.size:=d
   have u:=r.rs.cell m (Ow t) (by rw[x.j];simp[List.getD,L,M]);have aN:=r.rs.froz m (by simp[L,M]);have HQ:=LE r;have HY:=LE Q;have bT:=LE u;have cM:=LE aN;clear r Q u aN cE cZ x0 x1 cA cC K;refine AN (S:=λw'=>w'.cell? (Ki E.heap.size 0)=some (Y (Hw g 0) ss.length J)/\w'.cell? (Ki wr.heap.size 0)=some (Z (m:Int))/\w'.cell? (Ki wr.heap.size 1)=some (Ow i)) κ ⟨HQ.j.rx.y 0,HY.j.c0,HY.j.c1⟩ (λr=>?_);refine TZ 0 (Dr E.heap.size 0) z r (TZ 1 (Y (Hw g 0) ss.length J) z r (TZ 2 (Dr wr.heap.size 0) z r (TZ 3 (Z (m:Int)) z r (TZ 4 (Dr wr.heap.size 1) z r (TZ 5 (Ow i) z r (TZ 6 (Z (F:Int)) z r (TZ 7 (Ow (i.extract 0 F)) z r (TZ 8 (Dr E.heap.size 0) z r (TZ 9 (Y (Hw g 0) ss.length J) z r (TZ 10 (Dr wr.heap.size 0) z r (TZ 11 (Z (m:Int)) z r ?_)))))))))))
   simp only[PS];refine TZ 12 (Dr g m) z r (TZ 14 (Z (F:Int)) z r ?_);simp only[PS];refine RD 13 z (λK Q=>?_);have u:=bT.j;go_simp;clear u;refine Q.j _ _ r (λ_=>?_);clear Q K;refine TZ 15 (Ow (t.extract F t.size)) z r (TZ 16 (Ow (i.extract 0 F++t.extract F t.size)) z r (TZ 17 (Dr g m) z r ?_));simp only[PS];refine RD 18 z (λK Q=>?_);have u:=bT.j;have cY:=cM.j;go_simp;clear u cY;refine Q.j _ _ ⟨(DF _ _ _ _ (by show g≠E.heap.size;omega)).E r.1,(DF _ _ _ _ (by show g≠wr.heap.size;omega)).E r.2.1,(DF _ _ _ _ (by show g≠wr.heap.size;omega)).E r.2.2⟩ (λ_=>?_);clear Q K;refine DN ?_;have Q:i.extract 0 F++t.extract F 64=i.extract 0 F++t.extract F 64:=ρ
   have u:=HQ.j.drew.set m d (i.extract 0 F++t.extract F 64) cJ C bZ cP.j;have aY:=LE u
   have cO:Hid (TR B (k+1) ((LU ws).drop (k+1)) ((D.set m (i.extract 0 F++t.extract F 64)).map LF)=q):=by
    show _=_;rw[Q];have dB:yAP B k=F:=HF.j
    have K:(LU ws).drop k=((m:Int),LF i)::(LU ws).drop (k+1):=by
     rw[eg (LU ws) k (0,[]) (by rw[SO];exact U)]
     have dH:(LU ws).getD k (0,[])=((m:Int),LF i):=by
      have e:=HX.j;simp[LU,List.getD,U]at e⊢;rw[<-e];exact⟨z,z⟩
     rw[dH]
    rw[<-HK.j,K,TR,DO,dB,KE,Fd F i t d aL H]
    congr 2
    rw[x.j];simp[List.getD,L,M]
   have cQ:Hid (∀s∈D.set m (i.extract 0 F++t.extract F 64),s.size=64):=λs N=>by
    rw[Q]at N;rcases FC N with K|K
    .exact aH.j s K
    rw[K];exact F0 F i t d aL H
   clear u r Q;go_wp2;go_roundw
   case rel=>exact⟨k+1,_,d,ν,by simp[L],cQ,cO,aY.j⟩
   case measure=>simp[intOf];omega
  have b:Hid (D=LW q):=by
   have:=HK.j;rw[EA (by rw[SO];omega)]at this;show _=_;rw[<-this];show D=(D.map LF).map strOfNums;rw[IP];exact(KT (λs=>WR s) D).symm
  rw[b.j]at y;have T:=LE y;have N:=y.rx.y 0;have t:=y.rx.y 1;have M:=y.rx.A 1;have r:=y.rr.y 0;have s:=y.rr.y 1;obtain⟨F,K⟩:=y.rr.z2;have dM:=y.rx.lt;have i:=y.rr.lt;have o:E.heap.size≠w.heap.size+1:=d
  clear y;go_wp2;have m:wr.heap.size≠w.heap.size+1:=d
  refine AE (v:=LR (Hw g 0) ss.length J (Hw wr.heap.size 0) 0 0) (by simp[results,results171,go_sem,r,s,o,m,i]) z ⟨_,_,_,_,z,⟨.inr ⟨g,z,?_⟩,.inl z,.inr (.inl z)⟩,λk W=>?_,?_⟩
  .exact((((T.j.rs.other _ (by show E.heap.size≠g;exact bZ) _).other _ (by show w.heap.size+1≠g;exact C) _).other _ (by show w.heap.size+1≠g;exact C) _)).alloc _
  .unfold blk at W
   rw[A S]at W
   cases W
   exact cJ
  exact(((T.j.bel.setCell (by show w.heap.size<=E.heap.size;omega) _).setCell (by show w.heap.size<=w.heap.size+1;omega) _).setCell (by show w.heap.size<=w.heap.size+1;omega) _).alloc τ _
end
theorem J8(a:Q5)(ss:List Q4)(c:Nat)(b:Q5)(ws:List (Int×Q4))(k:Nat)(v:Ra)(w:Q9)(h:Strs w a ss)(r:Wrs w b ws)(t:ss.length<=1048576)(m:ws.length<=1048576)(u:∀s∈ss,s.size<=1048576)(p:∀x∈ws,x.2.size<=1048576)(o:LT ss ws=false):Calls prog 201 #[LR a ss.length c b ws.length k,v] w λe w'=>e=Q2 (LR none 0 0 none 0 0)/\Q3 w w':=by
 have f:∀d i,Q3 w ((w.alloc d).alloc i):=λd i=>(LH _ _).alloc j _
 go_enter func201,ntmps201;go_wp2_with fail;refine(ZL a ss c b ws k _ (h.I (f _ _)) (r.I (f _ _)) t m u p).J ?_;rw[o];rintro e B ⟨rfl,i⟩;have l:=LE ((f _ _).E (i.J q));have d:=(OY (w.alloc (.cells #[Y a ss.length c,Y b ws.length k] 37)) #[Y none 0 0,Y none 0 0] 37 (w.heap.size+1) j).I i;have s:=d.y 0;have x:=d.y 1;obtain⟨y,A⟩:=d.z2;clear d i;go_wp2;exact H (v:=LR none 0 0 none 0 0) (by simp[results,results201,go_sem,s,x]) z ⟨z,(l.j.setCell (by show w.heap.size<=w.heap.size+1;omega) _).setCell (by show w.heap.size<=w.heap.size+1;omega) _⟩
theorem Da(a:Q5)(ss:List Q4)(c:Nat)(b:Q5)(ws:List (Int×Q4))(k:Nat)(v:Ra)(w:Q9)(h:Strs w a ss)(r:Wrs w b ws)(t:ss.length<=1048576)(m:ws.length<=1048576)(u:∀s∈ss,s.size<=1048576)(p:∀x∈ws,x.2.size<=1048576)(o:LT ss ws=false):Calls prog 171 #[LR a ss.length c b ws.length k,v] w λe w'=>e=Q2 (LR none 0 0 none 0 0)/\Q3 w w':=by
 have f:∀d i,Q3 w ((w.alloc d).alloc i):=λd i=>(LH _ _).alloc j _
 go_enter func171,ntmps171;go_wp2_with fail;refine(ZX a ss c b ws k _ (h.I (f _ _)) (r.I (f _ _)) t m u p).J ?_;rw[o];rintro e B ⟨rfl,i⟩;have l:=LE ((f _ _).E (i.J q));have d:=(OY (w.alloc (.cells #[Y a ss.length c,Y b ws.length k] 37)) #[Y none 0 0,Y none 0 0] 37 (w.heap.size+1) j).I i;have s:=d.y 0;have x:=d.y 1;obtain⟨y,A⟩:=d.z2;clear d i;go_wp2;exact H (v:=LR none 0 0 none 0 0) (by simp[results,results171,go_sem,s,x]) z ⟨z,(l.j.setCell (by show w.heap.size<=w.heap.size+1;omega) _).setCell (by show w.heap.size<=w.heap.size+1;omega) _⟩
def QY(b:List Int)(ss:List Q4)(ws:List (Int×Q4)):List Q4:=if LT ss ws=true then LW (TR b 0 (LU ws) (ss.map LF)) else []
theorem My(a:Q5)(ss:List Q4)(c:Nat)(j:Q5)(ws:List (Int×Q4))(o:Nat)(f:Q5)(b:List Int)(t:Nat)(w:Q9)(h:Strs w a ss)(u:Wrs w j ws)(E:Ints w f b)(A:b.length<=1048576)(C:ss.length<=1048576)(y:ws.length<=1048576)(D:∀s∈ss,s.size<=1048576)(B:∀x∈ws,x.2.size<=1048576):Calls prog 201 #[LR a ss.length c j ws.length o,Y f b.length t] w λe w'=>∃i p m d,e=Q2 (LR i (QY b ss ws).length p m 0 d)/\OwnS w' i ((QY b ss ws).map Value.string)/\(∀g,blk i (QY b ss ws).length=some g->w.heap.size<=g)/\Q3 w w':=by
 by_cases k:LT ss ws=true
 .have l:QY b ss ws=LW (TR b 0 (LU ws) (ss.map LF)):=by simp[QY,k]
  have s:(QY b ss ws).length=ss.length:=by rw[l];simp[LW,iq]
  refine(Co a ss c j ws o f b t w h u E A k).J ?_;rintro e w' ⟨i,p,m,d,rfl,x,r,q⟩;rw[s];exact⟨i,p,m,d,z,by rw[l];exact x.s,r,q⟩
 have l:QY b ss ws=[]:=by simp[QY,k]
 rw[l];refine(J8 a ss c j ws o _ w h u C y D B (by simpa using k)).J ?_;rintro e w' ⟨rfl,q⟩;exact⟨none,0,none,0,z,.inl z,(λg r=>by cases r),q⟩
theorem Jb(a:Q5)(ss:List Q4)(c:Nat)(j:Q5)(ws:List (Int×Q4))(o:Nat)(f:Q5)(b:List Int)(t:Nat)(w:Q9)(h:Strs w a ss)(u:Wrs w j ws)(E:Ints w f b)(A:b.length<=1048576)(C:ss.length<=1048576)(y:ws.length<=1048576)(D:∀s∈ss,s.size<=1048576)(B:∀x∈ws,x.2.size<=1048576):Calls prog 171 #[LR a ss.length c j ws.length o,Y f b.length t] w λe w'=>∃i p m d,e=Q2 (LR i (QY b ss ws).length p m 0 d)/\OwnS w' i ((QY b ss ws).map Value.string)/\(∀g,blk i (QY b ss ws).length=some g->w.heap.size<=g)/\Q3 w w':=by
 by_cases k:LT ss ws=true
 .have l:QY b ss ws=LW (TR b 0 (LU ws) (ss.map LF)):=by simp[QY,k]
  have s:(QY b ss ws).length=ss.length:=by rw[l];simp[LW,iq]
  refine(Gm a ss c j ws o f b t w h u E A k).J ?_;rintro e w' ⟨i,p,m,d,rfl,x,r,q⟩;rw[s];exact⟨i,p,m,d,z,by rw[l];exact x.s,r,q⟩
 have l:QY b ss ws=[]:=by simp[QY,k]
 rw[l];refine(Da a ss c j ws o _ w h u C y D B (by simpa using k)).J ?_;rintro e w' ⟨rfl,q⟩;exact⟨none,0,none,0,z,.inl z,(λg r=>by cases r),q⟩
structure Ev where
 K:Int
 b:List Ch
 cut:Int
 fs:List Int
def Wo.call(x:Wo)(e:Ev):Dd×Bool :=if e.K=1 then (OL x.ss x.ws x.w,!x.up)
 else if e.K=2 then (QV x.W x.S x.L x.T x.H x.F x.R x.U x.O x.rs e.b,x.up)
 else if e.K=3 then (RM x.W x.S x.L x.T x.H x.F x.R x.U x.O x.rs,x.up)
 else if e.K=4 then (QL x.W x.S x.L x.T x.H x.F x.R x.U x.O x.rs,x.up)
 else (LO 0,false)
def Wo.pow(x:Wo)(b:List Int):Wo:={ x with ss:=QY b x.ss x.ws,ws:=[],up:=false,W:=0,S:=0,L:=0,T:=0,H:=0,F:=0,R:=0,U:=0,O:=0,rs:=[] }
def TC(e:Ev)(d:Dd):Bool:=decide (0<=e.cut/\e.cut<=d.ops.length)
def YR(e:Ev)(d:Dd):Nat:=if 0<=e.cut/\e.cut<=d.ops.length then e.cut.toNat else d.ops.length
theorem sY(e:Ev)(d:Dd):YR e d<=d.ops.length:=by unfold YR;split<;>omega
def OH(b:List OpT):List Q4:=b.filterMap λo=>if o.1=true then none else some o.2.2
theorem Hr(l:List OpT)(o:OpT):OH (l++[o])=OH l++(if o.1=true then [] else [o.2.2]):=by
 unfold OH;rw[List.filterMap_append]
 by_cases h:o.1=true<;>simp[h]
theorem pA(l:List OpT):(OH l).length<=l.length:=List.length_filterMap_le _ _
def SC(x:Wo)(e:Ev)(d:Dd):List Q4:=x.ts++OH (d.ops.take (YR e d))
def PQ(x:Wo)(e:Ev)(d:Dd):List (List Pr):=if e.K=2 then x.P++[d.rs] else x.P
def Wo.ran(x:Wo)(e:Ev)(d:Dd):Wo:={ x with ss:=(OS x.ss x.ws d.ops (YR e d)).1,ws:=(OS x.ss x.ws d.ops (YR e d)).2,P:=PQ x e d,ts:=SC x e d }
def Wo.upS(x:Wo)(d:Dd):Wo:={ x with up:=true,W:=d.W,S:=d.S,L:=d.L,T:=d.T,H:=d.H,F:=d.F,R:=d.R,U:=d.U,O:=d.O,rs:=d.rs }
def Wo.doE(x:Wo)(e:Ev):Wo :=if e.K=5 then x.pow e.fs
 else if (x.call e).2=false\/(x.call e).1.C≠0 then x
 else if 2000<(SC x e (x.call e).1).length\/200<(PQ x e (x.call e).1).length then x
 else if TC e (x.call e).1=true then (x.ran e (x.call e).1).pow e.fs
 else if e.K=2 then (x.ran e (x.call e).1).upS (x.call e).1
 else { (x.ran e (x.call e).1).upS (x.call e).1 with P:=[(x.call e).1.rs] }
structure Wo.ok(x:Wo):Prop where
 d:LT x.ss x.ws=true\/(x.ss=[]/\x.ws=[])
 s:MH x.rs=true
 p:x.P.length<=200/\∀r∈x.P,MH r=true
 t:x.ts.length<=2000/\∀s∈x.ts,s.size<=64
theorem Wo.ok.le{x:Wo}(h:x.ok):x.le 1048576:=by
 have b:=XO h.s
 have c:(x.ss.length<=1048576/\∀s∈x.ss,s.size<=1048576)/\(x.ws.length<=1048576/\∀s∈x.ws,s.2.size<=1048576):=by
  rcases h.d with h|⟨d,f⟩
  .obtain⟨⟨d,f,k⟩,i,j⟩:=QH h
   refine⟨⟨ω,λs b=>by have:=i s b;omega⟩,ω,λs b=>?_⟩;have:=AW (j s b);omega
  rw[d,f];simp
 exact⟨c.1.1,c.1.2,c.2.1,c.2.2,ω,b.2,by have:=h.p.1;omega,λr d=>by have:=XO (h.p.2 r d);exact⟨ω,this.2⟩,by have:=h.t.1;omega,λs b=>by have:=h.t.2 s b;omega⟩
theorem sr(k l m:Int)(p:Q4)(n:Int):(NB k l m p n).size<=64:=by
 unfold NB
 split
 .rename_i h
  have b:=AW (by unfold OB at h;exact h);rw[ka _ _ _ _ _ d];exact C
 simp
theorem uH(s:Q4)(l f:Int)(n m:Nat):∀p∈PK s l f n m,p.size<=64:=by
 unfold PK
 split
 .intro p b
  obtain⟨i,_,rfl⟩:=DW.1 b;exact sr _ _ _ _ _
 simp
theorem A4(q:Int)(l:List Q4)(h:∀p∈l,p.size<=64):∀o∈NE q l,o.2.2.size<=64:=by
 intro o b;obtain⟨i,c,rfl⟩:=List.mem_mapIdx.1 b;exact h _ (FU _)
theorem Oo(L F:Int)(n m:Nat)(c:List (List Ch)):∀p∈QA L F n m c,p.size<=64:=by
 have i:∀(c:List (List Ch)) (f:List Q4),(∀p∈f,p.size<=64)->∀p∈c.foldl (pR L F n m) f,p.size<=64:=by
  intro c
  induction c with
  | nil=>intro f h;exact h
  | cons b c j =>
   intro f h;refine j _ ?_;unfold pR;intro p d;rcases BZ.1 d with d|d
   .exact h p d
   exact uH _ _ _ _ _ p d
 refine i c _ ?_;intro p d;rw[DL.1 d];exact sr _ _ _ _ _
def Dd.ok(d:Dd):Prop:=MH d.rs=true/\d.ops.length<=1000/\∀o∈d.ops,o.2.2.size<=64
theorem jo(C:Int):(LO C).ok:=⟨YI,by simp[LO],by simp[LO]⟩
theorem zQ(W S L T H F:Int)(c:List Pr)(h:MH c=true)(d:(PU W S L T H F c).ops.length<=1000):(PU W S L T H F c).ok:=by
 refine⟨?_,d,?_⟩<;>unfold PU<;>split
 .exact h
 .exact YI
 .intro o b
  unfold am at b;simp only[BZ,DZ,EY,IX]at b;rcases b with b|rfl|rfl|rfl
  .exact A4 _ _ (Oo _ _ _ _ _) o b
  .simp
  .show(QE _ _ _ _ _).size<=64
   unfold QE
   split
   .exact sr _ _ _ _ _
   simp
  simp
 simp[LO]
theorem He(W S L T H F R U O:Int)(c:List Pr)(b:List Ch):(QV W S L T H F R U O c b).ok:=by
 have d:=(Hf W S L T H F R U O c b).2
 refine⟨?_,d,?_⟩<;>unfold QV<;>(repeat' split)<;>first|exact YI|(simp[LO];done)|skip
 .rename_i h _ _
  show MH (QT c b)=true;unfold QT;rw[G h];exact SD h
 exact A4 _ _ (uH _ _ _ _ _)
theorem Hz(W S L T H F R U O:Int)(c:List Pr):(RM W S L T H F R U O c).ok:=by
 unfold RM
 split
 .rename_i h
  obtain⟨_,_,_,_,_,_,_,_,b⟩:=an h
  exact⟨by first|exact b|exact b.1,j,j⟩
 exact jo 1
theorem Qa(W S L T H F R U O:Int)(c:List Pr)(f:c.length<=1048576):(QL W S L T H F R U O c).ok:=by
 have b:=(O4 W S L T H F R U O c f).2;unfold QL at b⊢
 split
 .rename_i h
  rw[G h]at b;obtain⟨_,_,_,_,_,_,_,_,d⟩:=an h;exact zQ _ _ _ _ _ _ _ (by first|exact d|exact d.1) b
 exact jo 1
theorem Jq(ss:List Q4)(ws:List (Int×Q4))(n:Int):(OL ss ws n).ok:=by
 have b:=(wi ss ws n).2;unfold OL at b⊢
 split
 .rename_i h
  rw[G h]at b
  cases hf:OU (OZ ss ws n).1 [] with
  | none=>exact jo 2
  | some l =>
   rw[hf]at b;have d:=kr _ _ YI _ hf;simp only at b⊢
   split
   .exact jo 3
   rename_i f
   rw[A f]at b
   split
   .exact jo 4
   rename_i i
   rw[A i]at b
   split
   .rename_i k
    rw[G k]at b;exact zQ _ _ _ _ _ _ _ d b
   refine⟨d,j,?_⟩
   intro o c;simp only[DZ,EY,IX]at c;rcases c with rfl|rfl
   .exact sr _ _ _ _ _
   simp
 exact jo 1
theorem Wo.ok.call{x:Wo}(h:x.ok)(e:Ev):(x.call e).1.ok:=by
 have:=(XO h.s).1;unfold Wo.call
 split
 .exact Jq _ _ _
 split
 .exact He _ _ _ _ _ _ _ _ _ _ _
 split
 .exact Hz _ _ _ _ _ _ _ _ _ _
 split
 .exact Qa _ _ _ _ _ _ _ _ _ _ ω
 exact jo 0
theorem nX(zs:List Int):∀(hs:List (Int×List Int)) (i:Nat) (ps:List (List Int)),(∀p∈hs,p.2.length=64)->(∀p∈ps,p.length=64)->∀p∈TR zs i hs ps,p.length=64
 | [],_,_,_,h2=>h2
 | x::r,i,ps,h1,h2=>by
  rw[TR]
  by_cases hk:x.1.toNat<ps.length
  .refine nX zs r (i+1) _ (λp hp=>h1 p (DK _ hp)) (λp hp=>?_)
   rcases FC hp with hp|rfl
   .exact h2 p hp
   have e1:=h1 x EN
   have e2:=h2 (ps.getD x.1.toNat []) (by simp[List.getD,hk]);unfold PH;simp only[AK,AZ,BS];omega
  rw[List.set_eq_of_length_le ω]
  exact nX zs r (i+1) _ (λp hp=>h1 p (DK _ hp)) h2
theorem Ns(d:List Int)(ss:List Q4)(ws:List (Int×Q4))(h:LT ss ws=true):∀s∈LW (TR d 0 (LU ws) (ss.map LF)),(s.size:Int)=64:=by
 obtain⟨_,f,i⟩:=QH h;intro s k;obtain⟨l,j,rfl⟩:=DW.1 k
 have:=nX d (LU ws) 0 (ss.map LF) (λp b=>by
  obtain⟨x,c,rfl⟩:=DW.1 b;have:=(kj (i x c)).2
  simp only[NK];omega) (λp b=>by
  obtain⟨x,c,rfl⟩:=DW.1 b;have:=f x c
  simp only[NK];omega) l j
 rw[CY,this];rfl
theorem sX(b:List Int)(ss:List Q4)(ws:List (Int×Q4)):LT (QY b ss ws) []=true\/(QY b ss ws=[]/\([]:List (Int×Q4))=[]):=by
 unfold QY
 split
 .rename_i h
  refine .inl ?_;obtain⟨⟨d,f,i⟩,k,l⟩:=QH h;refine su ⟨by simp[LW,iq];omega,by simp[LW,iq];omega,j⟩ (λs c=>?_) j;exact Ns b ss ws h s c
 exact .inr ⟨z,z⟩
theorem Wo.ok.pow{x:Wo}(h:x.ok)(b:List Int):(x.pow b).ok:=⟨sX b x.ss x.ws,YI,h.p,h.t⟩
theorem rI(ss:List Q4)(ws:List (Int×Q4))(c:List OpT)(b:Int):LT (OS ss ws c b).1 (OS ss ws c b).2=true\/((OS ss ws c b).1=[]/\(OS ss ws c b).2=[]):=by
 unfold OS
 split
 .rename_i h;exact .inl (tC _ (ss,ws) h)
 exact .inr ⟨z,z⟩
theorem Wo.ok.ran{x:Wo}(h:x.ok)(e:Ev){d:Dd}(l:d.ok)(f:(SC x e d).length<=2000/\(PQ x e d).length<=200):(x.ran e d).ok:=by
 obtain⟨j,p,k⟩:=l
 have i:∀s∈SC x e d,s.size<=64:=by
  intro s c;rcases BZ.1 c with c|c
  .exact h.t.2 s c
  obtain⟨o,m,b⟩:=List.mem_filterMap.1 c
  split at b
  .cases b
  injection b with b
  rw[<-b];exact k o (DR m)
 have c:∀r∈PQ x e d,MH r=true:=by
  unfold PQ
  split
  .intro r b
   rcases BZ.1 b with b|b
   .exact h.p.2 r b
   rw[DL.1 b];exact j
  exact h.p.2
 exact⟨rI _ _ _ _,h.s,⟨f.2,c⟩,⟨f.1,i⟩⟩
theorem Wo.ok.doE{x:Wo}(h:x.ok)(e:Ev):(x.doE e).ok:=by
 have k:=h.call e;unfold Wo.doE;generalize (x.call e)=c at k⊢;obtain⟨d,o⟩:=c;obtain⟨f,i,j⟩:=k
 split
 .exact h.pow _
 split
 .exact h
 split
 .exact h
 rename_i l
 simp only at l f i j⊢;have b:=h.ran e (d:=d) ⟨f,i,j⟩ ω
 split
 .exact b.pow _
 split
 .exact⟨b.d,f,b.p,b.t⟩
 exact⟨b.d,f,⟨σ,λr m=>by rw[DL.1 m];exact f⟩,b.t⟩
