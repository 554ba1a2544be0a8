import Derived.Test.YthcfgbpailnahaaGreatDoorPrG31
import Derived.Test.YthcfgbpailnahaaGreatDoorPrFlI
set_option maxHeartbeats 16000000
set_option maxRecDepth 8000
set_option linter.all false
namespace Go.Proofs.YthcfgbpailnahaaGreatDoor
open Tryz
open Go.RowKit
variable {g:Nat}{a:Option Addr}{w w':World}
theorem XN:(prog.info? 58).map (·.size)=some 4:=by kernel_rfl
theorem F4{o:Nat->Nat}{c:Nat}{rs:List Pr}(hr:Row w g [.slice a rs.length c])(h5:o g=5)(h:OwL w o 7 a (LI rs)):UY w o (some ⟨g,0,none⟩) [rs] :=.inr ⟨g,rfl,hr.lt,h5,λi hi=>by
  obtain rfl:i=0:=by simpa using hi
  exact⟨a,c,hr.x 0,h⟩⟩
def Wo.setE(x:Wo)(e:Ev)(D:Dd):Wo:=if x.runB e D=true then { x.runE e D with P:=[D.rs] } else x.runE e D
theorem jm(x:Wo)(q:Wp)(e:Ev)(a:Option Addr)(c:Nat)(f:Option Addr)(d:Nat)(D:Dd)(oa:Option Addr)(oc:Nat)(ob:Option Addr)(oe SB:Nat)(l:Int)(o:Nat->Nat)(w:World)(hR:Row w SB (QM l x q))(h:OO x w q o)(h0:o SB=0)(hs:OwL w o 3 oa (LI D.rs))(hb:OwL w o 6 ob (MW D.ops))(aU:D.ops.length<=oe)(hf:DepF w (λb=>b≠SB) (λW=>Ints W f e.fs))(ho:x.ok)(hd:D.ok)(he:e.le)(hK:e.K≠2):Calls prog 80 #[.pointer (some ⟨SB,0,none⟩),MK e a c f d,MQ D oa oc ob oe] w λr w'=>r=.returned (.tuple #[])/\WT w w' SB l o (x.setE e D):=by
 have lS:=hR.lt;have hP:OL x e D=x.P:=AE hK;have aY:=(SG hd.1).1;have S0:=((VW hR (h.depF h0)).add (hs.depF (by omega) h0)).add ((hb.depF (by omega) h0).and hf);have CR:=LE (λw' aS h' aW aT aV=>o7 x q e a c f d D oa oc ob oe q.p q.cp SB l o w' aS h' h0 (by rw[hP];exact h'.h4) aW aT aU aV ho hd he);rw[hP]at CR;unfold MK MQ at CR⊢;clear hR h hs hb hf ho hd he hP hK;obtain⟨Y,HY⟩:∃y,Hid (y=x.runE e D):=⟨_,LE rfl⟩;obtain⟨YB,aG⟩:∃y,Hid (y=x.runB e D):=⟨_,LE rfl⟩;rw[<-HY.o,<-aG.o]at CR;obtain⟨aM,aA⟩:∃y,Hid (y=x.setE e D):=⟨_,LE rfl⟩;rw[<-aA.o];have ER:Hid (aM=if YB=true then { Y with P:=[D.rs] } else Y):=LE (by rw[aA.o,HY.o,aG.o];rfl);clear aA HY aG;go_enter func80,ntmps80;go_upto_region 1 with fail;generalize aC:w.alloc _=v1;obtain⟨aL,aE,b2⟩:=LJ aC;clear aC;generalize aD:v1.alloc _=v2;obtain⟨aJ,aF,b3⟩:=LJ aD;clear aD;rw[aE]at b3 aF;replace S0:=(((S0.I aL).I aJ).add (QI (b2.I aJ).l (by omega))).add (QI b3.l (by omega))
 clear aL aJ b2 b3 aE aF;replace S0:=S0.I (AB v2.heap.size v2).drew;refine AP (S:=λw'=>SB<w'.heap.size/\Row w' w.heap.size [.int .i64 e.K,.slice a e.b.length c,.int .i64 e.cut,.slice f e.fs.length d]/\Row w' (w.heap.size+1) (dJ D.C D.W D.S D.L D.T D.H D.F D.R D.U D.O (.slice oa D.rs.length oc) (.slice ob D.ops.length oe))) (by kernel_rfl) (⟨S0.r.lt,S0.m.l.1.2,S0.m.l.2⟩) (λaB=>?_);refine TY 0 (.pointer (some ⟨SB,0,none⟩)) rfl aB (TK 1 (.agg #[.int .i64 e.K,.slice a e.b.length c,.int .i64 e.cut,.slice f e.fs.length d]) rfl (BN ⟨by rfl,λw hw=>by obtain⟨z0,z1,z2⟩:=hw;exact OP 58 _ rfl _ 0 rfl _ _ z1.range underlying58 rfl XN⟩) aB (TK 2 (.agg (dK D.C D.W D.S D.L D.T D.H D.F D.R D.U D.O (.slice oa D.rs.length oc) (.slice ob D.ops.length oe))) rfl (BN ⟨by rfl,λw hw=>by obtain⟨z0,z1,z2⟩:=hw;exact OP 118 _ rfl _ 0 rfl _ _ z2.range underlying118 rfl RK⟩) aB (TY 3 (.pointer (some ⟨SB,0,none⟩)) rfl aB (TY 4 (.pointer (some ⟨SB,0,none⟩)) rfl aB (TY 5 (.pointer (some ⟨SB,2,none⟩)) rfl aB (TY 6 (.pointer (some ⟨SB,16,none⟩)) rfl aB ?_))))))
 simp only[PS];refine RD 7 rfl (λKq aI=>?_);generalize aO:v2.drew=y at S0⊢;clear aO;have c16:=S0.r.x 16;go_simp;clear c16;refine aI.o _ _ (⟨S0.r.lt,S0.m.l.1.2,S0.m.l.2⟩) (λaQ=>?_)
 try simp only[PS]
 refine RD 8 rfl (λKq aI=>?_);refine LK (by rfl) 83 #[.pointer (some ⟨SB,0,none⟩),.agg #[.int .i64 e.K,.slice a e.b.length c,.int .i64 e.cut,.slice f e.fs.length d],.agg (dK D.C D.W D.S D.L D.T D.H D.F D.R D.U D.O (.slice oa D.rs.length oc) (.slice ob D.ops.length oe)),.slice q.p x.P.length q.cp] (by go_simp) (CR.o _ S0.r S0.m.l.1.1.1.1 S0.m.l.1.1.1.2 S0.m.l.1.1.2.1 (S0.m.map λW k=>k.1.1.2.2)) ?_;rintro r y1 ⟨rfl,q1,o1,R1,W1,a1,G1⟩;refine⟨_,rfl,?_⟩;have lw:=S0.e.size;replace S0:=S0.put G1 R1;have l1:=G1.size;clear G1 R1 CR;refine aI.o _ _ (⟨S0.r.lt,S0.m.l.1.2,S0.m.l.2⟩) (λaR=>?_)
 try simp only[PS]
 refine DN ?_;have z1:o1 SB=0:=(a1 SB (by omega)).j h0
 cases YB with
 | false =>
  have SH:=LE S0;have HW:=LE W1;clear S0 W1;go_wp2;refine FU (v:=.tuple #[]) (by simp[results,results80]) rfl ⟨rfl,q1,o1,?_,?_,λb hb=>a1 b (by omega),SH.o.e⟩
  ·rw[ER.o];exact SH.o.r
  rw[ER.o];exact HW.o
 | true =>
  have ly:SB<y1.heap.size:=S0.r.lt;replace S0:=S0.add (W1.all z1 ly);clear W1;have CC:=LE (XF oa D.rs oc y1 S0.m.l.1.1.1.1.2.own.prs (by omega));unfold LR at CC;have aN:=S0.m.l.1.2.x 10;have dl:=S0.m.l.1.2.lt;go_wp2_with fail;clear aN dl;refine CC.o.i ?_;rintro r y2 ⟨a5,c5,rfl,aX,aK,g5,hb⟩;replace S0:=S0.I hb;have l2:=hb.size;have d5:=TA aK (λe1 e2=>e1 (by rw[AC e2];rfl)) g5 ly
  have g6:=λg k=>XJ (g:=g) aK k
  replace S0:=S0.add d5;unfold LR;clear CC hb aK d5;have c16:=S0.r.x 16;have aP:=S0.r.q 16;have cl:=S0.r.lt;go_wp2;clear c16 aP cl;have S1:=S0.set 16 (by simp) (.slice (some ⟨y2.heap.size,0,none⟩) 1 1);have zs:(y2.setCell ⟨SB,16,none⟩ (.slice (some ⟨y2.heap.size,0,none⟩) 1 1)).heap.size=y2.heap.size:=AV _ _ _;generalize aH:y2.setCell _ _=y3 at S1 zs⊢;clear aH S0;have rN:=ME y3 #[.slice a5 D.rs.length c5] 48;rw[zs]at rN;replace S1:=S1.I (LG y3 (.cells #[.slice a5 D.rs.length c5] 48))
  have ag:∀b,b<y1.heap.size->(λb=>if b<y1.heap.size then o1 b else if b=y2.heap.size then 5 else 7) b=o1 b:=λb hb=>AK hb
  have HW:=S1.m.l.1.2 _ ag;refine FU (v:=.tuple #[]) (by simp[results,results80]) rfl ⟨rfl,{ q1 with p:=some ⟨y2.heap.size,0,none⟩,cp:=1 },_,?_,?_,λb hb=>(ag b (by omega)).j (a1 b (by omega)),S1.e⟩
  ·rw[ER.o];exact S1.r
  rw[ER.o];exact⟨HW.h1,HW.h2,HW.h3,F4 rN (by simp;omega) (RJ S1.m.l.2 (λe1 e2=>e1 (by rw[AC e2];rfl)) g5 (λg k=>by have h1:=g5 g k;have h2:=g6 g k;show(if g<y1.heap.size then o1 g else if g=y2.heap.size then 5 else 7)=7;rw[AE (by omega),AE (by omega)])),HW.h5⟩
theorem ml{x:Wo}{e:Ev}{D:Dd}(h5:e.K≠5)(h2:e.K≠2)(hc:x.call e=(D,true)):x.doE e=x.setE e D:=by
 by_cases hn:D.C≠0\/200<(OL x e D).length\/2000<(QP x e D).length
 ·have e1:x.runB e D=false:=by unfold Wo.runB;rw[AK hn]
  have e2:x.runE e D=x:=by unfold Wo.runE;rw[AK hn]
  unfold Wo.setE;rw[e1,e2]
  by_cases h0:D.C=0
  ·exact na h5 hc h0 (by omega)
  exact WN h5 hc (.inr h0)
 have h0:D.C=0:=by omega
 have e1:x.runB e D=!QH e D:=by unfold Wo.runB;rw[AE hn]
 have e2:x.runE e D=if QH e D=true then (x.ran e D).pow e.fs else (x.ran e D).upS D:=by unfold Wo.runE;rw[AE hn]
 unfold Wo.setE;rw[e1,e2]
 cases hb:QH e D with
 | true=>exact pu h5 hc h0 (by omega) hb
 | false=>exact oQ h5 hc h0 (by omega) hb h2
theorem lc{o:Nat->Nat}{N SB:Nat}{rs:List Pr}{aA:List NM}{b:Option Addr}(h:OwnDn w rs aA a b)(g1:∀g,blk a rs.length=some g->N<=g)(g2:∀g,blk b aA.length=some g->N<=g)(h0:o SB=0)(hS:SB<N):∃o':Nat->Nat,(∀x,x<N->o' x=o x)/\o' SB=0/\OwL w o' 3 a (LI rs)/\OwL w o' 6 b (MW aA):=by
 refine⟨λx=>if x<N then o x else if blk a rs.length=some x then 3 else 6,λx hx=>AK hx,(AK hS).j h0,RJ h.s QG g1 (λg k=>?_),RJ h.p dt g2 (λg k=>?_)⟩
 ·show(if g<N then o g else if blk a rs.length=some g then 3 else 6)=3
  rw[AE (by have:=g1 g k;omega),AK k]
 show(if g<N then o g else if blk a rs.length=some g then 3 else 6)=6
 rw[AE (by have:=g2 g k;omega),AE (λe=>by rcases h.ne with h|h|h;rw[h]at e;cases e;rw[h]at k;cases k;exact h (e.j k.symm))]
theorem wM(x:Wo)(q:Wp)(e:Ev)(a:Option Addr)(c:Nat)(f:Option Addr)(d SB:Nat)(l:Int)(o:Nat->Nat)(w:World)(hR:Row w SB (QM l x q))(h:OO x w q o)(h0:o SB=0)(aZ:x.rs.length<=q.cs)(hf:DepF w (λb=>b≠SB) (λW=>Ints W f e.fs))(ho:x.ok)(he:e.le)(hK:e.K=1)(ty:TypeId)(gv:Value)(aW:w.cell? ⟨1,0,none⟩=some (.iface ty gv))(aV:w.cell? ⟨0,0,none⟩=some (.iface 318 (.agg #[.pointer (some ⟨3,223,none⟩)])))(aN:1<w.heap.size):Calls prog 32 #[.pointer (some ⟨SB,0,none⟩),MK e a c f d] w λr w'=>r=.returned (.tuple #[])/\WT w w' SB l o (x.doE e):=by
 have lS:=hR.lt;have hm:=ho.le;have hd:(PC x.ss x.ws x.w).ok:=by have:=ho.call e;unfold Wo.call at this;simpa[hK] using this
 have S0:=(VW hR (h.all h0 lS)).add hf;have aF:=LE (λD1 oa oc ob oe o' w' (hR':Row w' SB (QM l x q)) h' h0' hs' hb' hbc hf' hd'=>jm x q e a c f d D1 oa oc ob oe SB l o' w' hR' h' h0' hs' hb' hbc hf' ho hd' he (by omega));unfold MK MQ at aF;unfold MK;have CC:=LE (λw' h1 h2 (hb:Below w.heap.size w w')=>yW q.a x.ss q.c q.a' x.ws q.c' x.w w' h1 h2 hm.l1 hm.l2 hm.s1 hm.s2 ty gv ((hb.cell (p:=⟨1,0,none⟩) aN).j aW) ((hb.cell (p:=⟨0,0,none⟩) (by show 0<_;omega)).j aV) (AD aN hb.size));unfold LN at CC;obtain⟨aM,aC⟩:∃y,Hid (y=x.doE e):=⟨_,LE rfl⟩;rw[<-aC.o];obtain⟨D,HD⟩:∃D,Hid (D=PC x.ss x.ws x.w):=⟨_,LE rfl⟩;rw[<-HD.o]at CC hd;have aL:Hid (x.call e=(D,!x.up)):=LE (by rw[HD.o];unfold Wo.call;simp[hK]);have HK:=LE hK;clear hR h hf hm hK;go_enter func32,ntmps32;go_upto_region 1 with fail;generalize aE:w.alloc _=v1;obtain⟨aD,aK,b2⟩:=LJ aE;clear aE;replace S0:=(S0.I aD).add (QI b2.l (by omega))
 clear b2 aK;have c5:=S0.r.x 5;have cl:=S0.r.lt;have bC:=aD.size;obtain⟨u,HU⟩:∃u,Hid (u=x.up):=⟨_,LE rfl⟩;rw[<-HU.o]at c5
 cases u with
 | false =>
  have er:aM=x.setE e D:=by rw[aC.o];exact ml (by have:=HK.o;omega) (by have:=HK.o;omega) (by rw[aL.o,<-HU.o];rfl)
  go_upto_region 2 with fail;clear c5 cl;replace S0:=S0.I (AB v1.heap.size v1).drew;replace aD:=aD.drew;refine AP (S:=λw'=>SB<w'.heap.size/\Row w' w.heap.size [.int .i64 e.K,.slice a e.b.length c,.int .i64 e.cut,.slice f e.fs.length d]) (by kernel_rfl) (⟨S0.r.lt,S0.m.l.2⟩) (λaB=>?_);refine TY 0 (.pointer (some ⟨SB,0,none⟩)) rfl aB (TK 1 (.agg #[.int .i64 e.K,.slice a e.b.length c,.int .i64 e.cut,.slice f e.fs.length d]) rfl (BN ⟨by rfl,λw hw=>by obtain⟨z0,z1⟩:=hw;exact OP 58 _ rfl _ 0 rfl _ _ z1.range underlying58 rfl XN⟩) aB (TY 2 (.pointer (some ⟨SB,0,none⟩)) rfl aB (TY 3 (.pointer (some ⟨SB,0,none⟩)) rfl aB (TY 4 (.pointer (some ⟨SB,2,none⟩)) rfl aB (TY 5 (.pointer (some ⟨SB,3,none⟩)) rfl aB (TY 7 (.pointer (some ⟨SB,0,none⟩)) rfl aB (TY 8 (.pointer (some ⟨SB,0,none⟩)) rfl aB (TY 9 (.pointer (some ⟨SB,2,none⟩)) rfl aB (TY 10 (.pointer (some ⟨SB,2,none⟩)) rfl aB ?_)))))))))
  simp only[PS];refine EZ (rs:=[6,11]) (by kernel_rfl) (by simp) ?_;refine CY rfl (λKq aA=>?_) (CY rfl (λKq aA=>?_) EX)
  focus
   generalize aG:v1.drew=y at S0 aD⊢;clear aG;have c3:=S0.r.x 3;have c4:=S0.r.x 4;go_simp;clear c3 c4;refine aA.o _ _ (⟨S0.r.lt,S0.m.l.2⟩) (λaP=>?_)
   try simp only[PS]
   refine RD 11 rfl (λKq aA=>?_);have c2:=S0.r.x 2;go_simp;clear c2;refine aA.o _ _ (⟨S0.r.lt,S0.m.l.2⟩) (λaH=>?_)
   try simp only[PS]
   have aT:=aH
  rotate_left
  focus
   generalize aG:v1.drew=y at S0 aD⊢;clear aG;have c2:=S0.r.x 2;go_simp;clear c2;refine aA.o _ _ (⟨S0.r.lt,S0.m.l.2⟩) (λaQ=>?_)
   try simp only[PS]
   refine RD 6 rfl (λKq aA=>?_);have c3:=S0.r.x 3;have c4:=S0.r.x 4;go_simp;clear c3 c4;refine aA.o _ _ (⟨S0.r.lt,S0.m.l.2⟩) (λaI=>?_)
   try simp only[PS]
   have aT:=aI
  all_goals
   refine RD 12 rfl (λKq aA=>?_);have ly:=S0.e.size;refine LK (by rfl) 81 #[.agg #[.slice q.a x.ss.length q.c,.slice q.a' x.ws.length q.c'],.int .i64 x.w] (by go_simp) (CC.o _ (S0.m.l.1.1 o (λ_ _=>rfl)).h1.own.strs (S0.m.l.1.1 o (λ_ _=>rfl)).h2.own.wrs aD) ?_;rintro r y1 ⟨⟨oa,oc,ob,oe,rfl,aU,own,g1,g2,hb⟩,hI⟩;have aX:=hI _ _ _ _ rfl;refine⟨_,rfl,?_⟩;unfold MQ;have lb:=hb.size;replace S0:=S0.I hb;clear hb hI CC;refine aA.o _ _ (⟨S0.r.lt,S0.m.l.2⟩) (λaR=>?_)
   try simp only[PS]
   refine RD 13 rfl (λKq aA=>?_);obtain⟨o1,ag,z1,aY,aJ⟩:=lc (o:=o) (N:=w.heap.size) own (λg k=>by have:=g1 g k;omega) (λg k=>by have:=g2 g k;omega) h0 lS;refine LK (by rfl) _ _ (by go_simp) (aF.o D oa oc ob oe o1 _ S0.r (S0.m.l.1.1 o1 ag) z1 aY aJ aX (S0.m.map λW k=>k.1.2) hd) ?_;rintro r y2 ⟨rfl,q1,o2,R1,W1,a1,G1⟩;refine⟨_,rfl,?_⟩;have lw:=S0.e.size;have E2:=PY S0.e G1;replace S0:=S0.put G1 R1;clear aF own;refine aA.o _ _ (⟨S0.r.lt,S0.m.l.2⟩) (λaS=>?_)
   try simp only[PS]
   refine DN ?_;have HH:=LE (AG S0.r W1);have aO:=LE E2;clear S0 W1 E2 R1 G1;go_wp2;refine FU (v:=.tuple #[]) (by simp[results,results32]) rfl ⟨rfl,q1,o2,?_,?_,λb hb=>(a1 b (by omega)).j (ag b hb),aO.o⟩
   ·rw[er];exact HH.o.1
   ·rw[er];exact HH.o.2
 | true =>
  have er:x=aM:=by rw[aC.o];exact(WN (by have:=HK.o;omega) aL.o (.inl (by rw[<-HU.o];rfl))).symm
  clear aC;subst er;have SH:=LE S0;clear S0 CC aF;go_wp2;exact FU (v:=.tuple #[]) (by simp[results,results32]) rfl ⟨rfl,q,o,SH.o.r,SH.o.m.l.1.1 o (λ_ _=>rfl),λ_ _=>rfl,SH.o.e⟩
theorem tH(x:Wo)(q:Wp)(e:Ev)(a:Option Addr)(c:Nat)(f:Option Addr)(d SB:Nat)(l:Int)(o:Nat->Nat)(w:World)(hR:Row w SB (QM l x q))(h:OO x w q o)(h0:o SB=0)(aQ:x.rs.length<=q.cs)(hf:DepF w (λb=>b≠SB) (λW=>Ints W f e.fs))(ho:x.ok)(he:e.le)(hK:e.K=3):Calls prog 34 #[.pointer (some ⟨SB,0,none⟩),MK e a c f d] w λr w'=>r=.returned (.tuple #[])/\WT w w' SB l o (x.doE e):=by
 have lS:=hR.lt;have hm:=ho.le;have hd:(SN x.W x.S x.L x.T x.H x.F x.R x.U x.O x.rs).ok:=by have:=ho.call e;unfold Wo.call at this;simpa[hK] using this
 have S0:=(VW hR (h.all h0 lS)).add hf;have aF:=LE (λD1 oa oc ob oe o' w' (hR':Row w' SB (QM l x q)) h' h0' hs' hb' hbc hf' hd'=>jm x q e a c f d D1 oa oc ob oe SB l o' w' hR' h' h0' hs' hb' hbc hf' ho hd' he (by omega));unfold MK MQ at aF;unfold MK;have CC:=LE (λw' h1=>Fl x.W x.S x.L x.T x.H x.F x.R x.U x.O q.s x.rs q.cs w' h1 aQ hm.l3 hm.s3);unfold LV at CC;obtain⟨aJ,aA⟩:∃y,Hid (y=x.doE e):=⟨_,LE rfl⟩;rw[<-aA.o];obtain⟨D,HD⟩:∃D,Hid (D=SN x.W x.S x.L x.T x.H x.F x.R x.U x.O x.rs):=⟨_,LE rfl⟩;rw[<-HD.o]at CC hd;have aI:Hid (x.call e=(D,x.up)):=LE (by rw[HD.o];unfold Wo.call;simp[hK]);have HK:=LE hK;clear hR h hf hm hK;go_enter func34,ntmps34;go_upto_region 1 with fail;generalize aC:w.alloc _=v1;obtain⟨aE,aH,b2⟩:=LJ aC;clear aC;replace S0:=(S0.I aE).add (QI b2.l (by omega));clear b2 aH;have c5:=S0.r.x 5;have cl:=S0.r.lt;have aT:=aE.size;obtain⟨u,HU⟩:∃u,Hid (u=x.up):=⟨_,LE rfl⟩
 rw[<-HU.o]at c5
 cases u with
 | false =>
  have er:x=aJ:=by rw[aA.o];exact(WN (by have:=HK.o;omega) aI.o (.inl (by rw[<-HU.o]))).symm
  clear aA;subst er;have SH:=LE S0;clear S0 CC aF;go_wp2;exact FU (v:=.tuple #[]) (by simp[results,results34]) rfl ⟨rfl,q,o,SH.o.r,SH.o.m.l.1.1 o (λ_ _=>rfl),λ_ _=>rfl,SH.o.e⟩
 | true =>
  have er:aJ=x.setE e D:=by rw[aA.o];exact ml (by have:=HK.o;omega) (by have:=HK.o;omega) (by rw[aI.o,<-HU.o])
  go_upto_region 2 with fail;clear c5 cl;replace S0:=S0.I (AB v1.heap.size v1).drew;replace aE:=aE.drew;refine AP (S:=λw'=>SB<w'.heap.size/\Row w' w.heap.size [.int .i64 e.K,.slice a e.b.length c,.int .i64 e.cut,.slice f e.fs.length d]) (by kernel_rfl) (⟨S0.r.lt,S0.m.l.2⟩) (λaB=>?_);refine TY 0 (.pointer (some ⟨SB,0,none⟩)) rfl aB (TK 1 (.agg #[.int .i64 e.K,.slice a e.b.length c,.int .i64 e.cut,.slice f e.fs.length d]) rfl (BN ⟨by rfl,λw hw=>by obtain⟨z0,z1⟩:=hw;exact OP 58 _ rfl _ 0 rfl _ _ z1.range underlying58 rfl XN⟩) aB (TY 2 (.pointer (some ⟨SB,0,none⟩)) rfl aB (TY 3 (.pointer (some ⟨SB,0,none⟩)) rfl aB (TY 4 (.pointer (some ⟨SB,2,none⟩)) rfl aB (TY 5 (.pointer (some ⟨SB,6,none⟩)) rfl aB ?_)))));simp only[PS];refine RD 6 rfl (λKq aD=>?_);generalize aL:v1.drew=y at S0 aE⊢;clear aL;refine sq rfl 50 _ rfl SB 6 rfl (sJ x.W x.S x.L x.T x.H x.F x.R x.U x.O (.slice q.s x.rs.length q.cs)) _ (Row.rangeMid (pre:=[.int .i32 l,.int .u32 0,.int .i64 x.w,.slice q.a x.ss.length q.c,.slice q.a' x.ws.length q.c',.bool x.up]) (cs:=(sJ x.W x.S x.L x.T x.H x.F x.R x.U x.O (.slice q.s x.rs.length q.cs))) (post:=[.slice q.p x.P.length q.cp,.slice q.t x.ts.length q.ct]) S0.r) underlying50 rfl OH ?_
  refine aD.o _ _ (⟨S0.r.lt,S0.m.l.2⟩) (λaM=>?_)
  try simp only[PS]
  refine RD 7 rfl (λKq aD=>?_);have ly:=S0.e.size;refine LK (by rfl) 84 #[.agg (sK x.W x.S x.L x.T x.H x.F x.R x.U x.O (.slice q.s x.rs.length q.cs))] (by go_simp) (CC.o _ (S0.m.l.1.1 o (λ_ _=>rfl)).h3.own.prs) ?_;rintro r y1 ⟨⟨oa,oc,ob,oe,rfl,aP,own,g1,g2,hb⟩,hI⟩;have aR:=hI _ _ _ _ rfl;refine⟨_,rfl,?_⟩;unfold MQ;have lb:=hb.size;replace S0:=S0.I hb;clear hb hI CC;refine aD.o _ _ (⟨S0.r.lt,S0.m.l.2⟩) (λaN=>?_)
  try simp only[PS]
  refine RD 8 rfl (λKq aD=>?_);obtain⟨o1,ag,z1,aS,aG⟩:=lc (o:=o) (N:=w.heap.size) own (λg k=>by have:=g1 g k;omega) (λg k=>by have:=g2 g k;omega) h0 lS;refine LK (by rfl) _ _ (by go_simp) (aF.o D oa oc ob oe o1 _ S0.r (S0.m.l.1.1 o1 ag) z1 aS aG aR (S0.m.map λW k=>k.1.2) hd) ?_;rintro r y2 ⟨rfl,q1,o2,R1,W1,a1,G1⟩;refine⟨_,rfl,?_⟩;have lw:=S0.e.size;have E2:=PY S0.e G1;replace S0:=S0.put G1 R1;clear aF own;refine aD.o _ _ (⟨S0.r.lt,S0.m.l.2⟩) (λaO=>?_)
  try simp only[PS]
  refine DN ?_;have HH:=LE (AG S0.r W1);have aK:=LE E2;clear S0 W1 E2 R1 G1;go_wp2;refine FU (v:=.tuple #[]) (by simp[results,results34]) rfl ⟨rfl,q1,o2,?_,?_,λb hb=>(a1 b (by omega)).j (ag b hb),aK.o⟩
  ·rw[er];exact HH.o.1
  rw[er];exact HH.o.2
theorem zJ(x:Wo)(q:Wp)(e:Ev)(a:Option Addr)(c:Nat)(f:Option Addr)(d SB:Nat)(l:Int)(o:Nat->Nat)(w:World)(hR:Row w SB (QM l x q))(h:OO x w q o)(h0:o SB=0)(aQ:x.rs.length<=q.cs)(hf:DepF w (λb=>b≠SB) (λW=>Ints W f e.fs))(ho:x.ok)(he:e.le)(hK:e.K=4):Calls prog 35 #[.pointer (some ⟨SB,0,none⟩),MK e a c f d] w λr w'=>r=.returned (.tuple #[])/\WT w w' SB l o (x.doE e):=by
 have lS:=hR.lt;have hm:=ho.le;have hd:(QX x.W x.S x.L x.T x.H x.F x.R x.U x.O x.rs).ok:=by have:=ho.call e;unfold Wo.call at this;simpa[hK] using this
 have S0:=(VW hR (h.all h0 lS)).add hf;have aF:=LE (λD1 oa oc ob oe o' w' (hR':Row w' SB (QM l x q)) h' h0' hs' hb' hbc hf' hd'=>jm x q e a c f d D1 oa oc ob oe SB l o' w' hR' h' h0' hs' hb' hbc hf' ho hd' he (by omega));unfold MK MQ at aF;unfold MK;have CC:=LE (λw' h1=>Hp x.W x.S x.L x.T x.H x.F x.R x.U x.O q.s x.rs q.cs w' h1 aQ hm.l3 hm.s3);unfold LV at CC;obtain⟨aJ,aA⟩:∃y,Hid (y=x.doE e):=⟨_,LE rfl⟩;rw[<-aA.o];obtain⟨D,HD⟩:∃D,Hid (D=QX x.W x.S x.L x.T x.H x.F x.R x.U x.O x.rs):=⟨_,LE rfl⟩;rw[<-HD.o]at CC hd;have aI:Hid (x.call e=(D,x.up)):=LE (by rw[HD.o];unfold Wo.call;simp[hK]);have HK:=LE hK;clear hR h hf hm hK;go_enter func35,ntmps35;go_upto_region 1 with fail;generalize aC:w.alloc _=v1;obtain⟨aE,aH,b2⟩:=LJ aC;clear aC;replace S0:=(S0.I aE).add (QI b2.l (by omega));clear b2 aH;have c5:=S0.r.x 5;have cl:=S0.r.lt;have aT:=aE.size;obtain⟨u,HU⟩:∃u,Hid (u=x.up):=⟨_,LE rfl⟩
 rw[<-HU.o]at c5
 cases u with
 | false =>
  have er:x=aJ:=by rw[aA.o];exact(WN (by have:=HK.o;omega) aI.o (.inl (by rw[<-HU.o]))).symm
  clear aA;subst er;have SH:=LE S0;clear S0 CC aF;go_wp2;exact FU (v:=.tuple #[]) (by simp[results,results35]) rfl ⟨rfl,q,o,SH.o.r,SH.o.m.l.1.1 o (λ_ _=>rfl),λ_ _=>rfl,SH.o.e⟩
 | true =>
  have er:aJ=x.setE e D:=by rw[aA.o];exact ml (by have:=HK.o;omega) (by have:=HK.o;omega) (by rw[aI.o,<-HU.o])
  go_upto_region 2 with fail;clear c5 cl;replace S0:=S0.I (AB v1.heap.size v1).drew;replace aE:=aE.drew;refine AP (S:=λw'=>SB<w'.heap.size/\Row w' w.heap.size [.int .i64 e.K,.slice a e.b.length c,.int .i64 e.cut,.slice f e.fs.length d]) (by kernel_rfl) (⟨S0.r.lt,S0.m.l.2⟩) (λaB=>?_);refine TY 0 (.pointer (some ⟨SB,0,none⟩)) rfl aB (TK 1 (.agg #[.int .i64 e.K,.slice a e.b.length c,.int .i64 e.cut,.slice f e.fs.length d]) rfl (BN ⟨by rfl,λw hw=>by obtain⟨z0,z1⟩:=hw;exact OP 58 _ rfl _ 0 rfl _ _ z1.range underlying58 rfl XN⟩) aB (TY 2 (.pointer (some ⟨SB,0,none⟩)) rfl aB (TY 3 (.pointer (some ⟨SB,0,none⟩)) rfl aB (TY 4 (.pointer (some ⟨SB,2,none⟩)) rfl aB (TY 5 (.pointer (some ⟨SB,6,none⟩)) rfl aB ?_)))));simp only[PS];refine RD 6 rfl (λKq aD=>?_);generalize aL:v1.drew=y at S0 aE⊢;clear aL;refine sq rfl 50 _ rfl SB 6 rfl (sJ x.W x.S x.L x.T x.H x.F x.R x.U x.O (.slice q.s x.rs.length q.cs)) _ (Row.rangeMid (pre:=[.int .i32 l,.int .u32 0,.int .i64 x.w,.slice q.a x.ss.length q.c,.slice q.a' x.ws.length q.c',.bool x.up]) (cs:=(sJ x.W x.S x.L x.T x.H x.F x.R x.U x.O (.slice q.s x.rs.length q.cs))) (post:=[.slice q.p x.P.length q.cp,.slice q.t x.ts.length q.ct]) S0.r) underlying50 rfl OH ?_
  refine aD.o _ _ (⟨S0.r.lt,S0.m.l.2⟩) (λaM=>?_)
  try simp only[PS]
  refine RD 7 rfl (λKq aD=>?_);have ly:=S0.e.size;refine LK (by rfl) 85 #[.agg (sK x.W x.S x.L x.T x.H x.F x.R x.U x.O (.slice q.s x.rs.length q.cs))] (by go_simp) (CC.o _ (S0.m.l.1.1 o (λ_ _=>rfl)).h3.own.prs) ?_;rintro r y1 ⟨⟨oa,oc,ob,oe,rfl,aP,own,g1,g2,hb⟩,hI⟩;have aR:=hI _ _ _ _ rfl;refine⟨_,rfl,?_⟩;unfold MQ;have lb:=hb.size;replace S0:=S0.I hb;clear hb hI CC;refine aD.o _ _ (⟨S0.r.lt,S0.m.l.2⟩) (λaN=>?_)
  try simp only[PS]
  refine RD 8 rfl (λKq aD=>?_);obtain⟨o1,ag,z1,aS,aG⟩:=lc (o:=o) (N:=w.heap.size) own (λg k=>by have:=g1 g k;omega) (λg k=>by have:=g2 g k;omega) h0 lS;refine LK (by rfl) _ _ (by go_simp) (aF.o D oa oc ob oe o1 _ S0.r (S0.m.l.1.1 o1 ag) z1 aS aG aR (S0.m.map λW k=>k.1.2) hd) ?_;rintro r y2 ⟨rfl,q1,o2,R1,W1,a1,G1⟩;refine⟨_,rfl,?_⟩;have lw:=S0.e.size;have E2:=PY S0.e G1;replace S0:=S0.put G1 R1;clear aF own;refine aD.o _ _ (⟨S0.r.lt,S0.m.l.2⟩) (λaO=>?_)
  try simp only[PS]
  refine DN ?_;have HH:=LE (AG S0.r W1);have aK:=LE E2;clear S0 W1 E2 R1 G1;go_wp2;refine FU (v:=.tuple #[]) (by simp[results,results35]) rfl ⟨rfl,q1,o2,?_,?_,λb hb=>(a1 b (by omega)).j (ag b hb),aK.o⟩
  ·rw[er];exact HH.o.1
  rw[er];exact HH.o.2
theorem xH{P:Program}(t ty:TypeId)(base:Nat)(e:TypeId)(i:TypeInfo)(z:Value)(ht:P.underlying t=some (.slice e))(hi:P.info? e=some i)(hz:i.zero=some z)(aA:i.size=1)
  (v:Value)(n:Nat)(xs:List Value)(aC:w.ownsRow base e 1 v n xs)(x:Value)(u:Value)(hs:Src P 1 t x 1 [u] w)(hb:(n+1)*i.bytes<=140737488355328)(hn:n+1<=maxLen)
 {v':Value}(hr:(Builtin.append_ #[t,t] ty #[v,x]).run P w=.ok v' w'):∀b,v.ownBlock=some b->∀j,j<n->w'.cell? ⟨b,j,none⟩=w.cell? ⟨b,j,none⟩:=by
 intro b eb j hj;rcases aC.2 with ⟨rfl,h0⟩|⟨g,cap,cur,rfl,_,hg,h2,h3,h4,h5⟩
 ·cases eb
 cases eb
 replace hs:Src P i.size t x 1 [u] w:=by rw[aA];exact hs
 by_cases aD:n+1<=cap
 ·have aB:=run_append_room_src (P:=P) w t t ty e i ht hi g 0 n cap x 1 [u] hs aD (λj hj=>by simp at hj;simp[World.cell?,hg,aA];omega) (λj hj=>by simp[World.frozen?,hg])
  rw[hr]at aB;injection aB with _ e2;rw[e2];exact DL g [u] _ w ⟨g,j,none⟩ (λ_ _=>.inl (by show j<0+n*i.size;rw[aA];omega))
 have aE:(Builtin.firstCells i.size n (.slice (some ⟨g,0,none⟩) n cap)).run P w.drew=.ok xs.toArray w.drew:=FR w.drew i.size n _ n cap xs (by rw[aA];exact aC.1) (λk u' hu=>aC.cells rfl k u' hu)
 have aB:=run_append_grow_src (P:=P) w t t ty e i z ht hi hz (some ⟨g,0,none⟩) n cap xs aE x 1 [u] hs (by omega) (by unfold maxLen at hn;omega) (growslice_fits (by omega) hb);rw[hr]at aB;injection aB with _ e2;rw[e2];have aF:g<w.heap.size:=(AS.1 hg).1;exact EK (w:=w.drew) _ g j aF
theorem Eu{P:Program}(w:World){aG:Array Oper}{o:Oper}{a:Act}{K:Act->World->Prop}{Q:Exit->Act->World->Prop}{E:Prop}(aH:o.guard=none)(s x:Operand)(t:TypeId)
  (ho:o.op=.call { callee:=.builtin .append,args:=#[s,x],argTypes:=#[t,t] })
  (base:Nat)(e:TypeId)(i:TypeInfo)(z:Value)(ht:P.underlying t=some (.slice e))(hi:P.info? e=some i)(hz:i.zero=some z)(aB:i.size=1)(aI:z.cells.size=1)
  (v:Value)(n:Nat)(xs:List Value)(hs:a.eval s=v)(aD:w.ownsRow base e 1 v n xs)
  (ad:Addr)(c:Nat)(u:Value)(hx:a.eval x=.slice (some ad) 1 c)(hu:w.cell? (ad.add 0)=some u)(h1:u.oneCell'=true)
  (aE:n+1<=maxLen)(aA:(n+1)*i.bytes<=140737488355328)(aC:base<=w.heap.size)
  (h:∀g cap w',w'.ownsRow base e 1 (.slice (some ⟨g,0,none⟩) (n+1) cap) (n+1) (xs++[u])->w.grownBy w' v.ownBlock->(v.ownBlock=some g\/g=w.heap.size)->(∀b,v.ownBlock=some b->∀j,j<n->w'.cell? ⟨b,j,none⟩=w.cell? ⟨b,j,none⟩)->K (a.put o.dst (.slice (some ⟨g,0,none⟩) (n+1) cap)) w'):if Region.wanted o (yielded aG a.tmps)=true then Oper.wp P o a w K Q else E:=by
 have hw:Region.wanted o (yielded aG a.tmps)=true:=by simp[Region.wanted,aH]
 rw[AK hw]
 have aF:∀j u',[u][j]?=some u'->w.cell? (ad.add j)=some u':=λj u' hj=>by
  match j,hj with
  | 0,hj=>cases hj;exact hu
 obtain⟨g,cap,w',hr,h2,h3,h4,h5⟩:=run_append_lies (P:=P) w t o.type base e i z 1 i.bytes ht hi hz aB rfl aI (by omega) v n xs aD ad 1 c [u] rfl aF (λx hx=>by simp at hx;rw[hx];exact h1) (by omega) aE aA aC _ rfl;have h6:=xH t o.type base e i z ht hi hz aB v n xs aD _ u (Src.ofSlice w ht ad 1 c [u] rfl aF (λx hx=>by simp at hx;rw[hx];exact h1)) aA aE hr;unfold Oper.wp execOp;simp only[ho,resolve,invoke,builtin,GY,JK,IJ,List.map_toArray,FD,IU,hs,hx,hr];exact h g cap w' h2 h3 h4 h6
structure HpPost(w w':World)(SB:Nat)(l:Int)(o:Nat->Nat)(y:Wo)(q:Wp)(o':Nat->Nat):Prop where
 r:Row w' SB (QM l y q)
 h:OO y w' q o'
 ag:∀b,b<w.heap.size->o' b=o b
 os:w'.os=w.os
 tape:w'.tape=w.tape
 output:w'.output=w.output
 size:w.heap.size<=w'.heap.size
 block:∀b,b<w.heap.size->b≠SB->o b=0->w'.heap[b]?=w.heap[b]?
theorem ah{SB:Nat}{l:Int}{o:Nat->Nat}{y:Wo}(h:WT w w' SB l o y):∃q o',HpPost w w' SB l o y q o':=by
 obtain⟨q,o',h1,h2,h3,h4⟩:=h;exact⟨q,o',h1,h2,h3,h4.os,h4.tape,h4.output,h4.size,λb h5 h6 _=>h4.block b h5 (λe=>h6 (by injection e))⟩
theorem wO{o:Nat->Nat}{p:Option Addr}{P:List (List Pr)}{cp lo cap:Nat}{news:List Value}{c:Nat}{rs:List Pr}(h:UY w o p P)(hP:0<P.length)(own:w.ownsRow lo 48 1 (.slice p P.length cp) P.length news)
  (hs:OwL w o (7+P.length) a (LI rs))(aA:w'.ownsRow lo 48 1 (.slice (some ⟨g,0,none⟩) (P.length+1) cap) (P.length+1) (news++[.slice a rs.length c]))(hg:w.grownBy w' (Value.slice p P.length cp).ownBlock)
  (hl:o g=5)(aB:∀b,(Value.slice p P.length cp).ownBlock=some b->∀j,j<P.length->w'.cell? ⟨b,j,none⟩=w.cell? ⟨b,j,none⟩):Only o (λk=>k=5) w w'/\UY w' o p P/\UY w' o (some ⟨g,0,none⟩) (P++[rs]):=by
 obtain⟨b,rfl,hb,h5,hc⟩:=h.resolve_left (by omega);have hO:Only o (λk=>k=5) w w':=VH hg (λx e=>by cases e;exact h5);refine⟨hO,.inr ⟨b,rfl,AD hb hg.size,h5,λi hi=>?_⟩,.inr ⟨g,rfl,(RW aA).lt,hl,λi hi=>?_⟩⟩
 ·obtain⟨p',c',k1,k2⟩:=hc i hi
  exact⟨p',c',(aB b rfl i hi).j k1,k2.only hO (by omega)⟩
 have aD:news.length=P.length:=by rw[own.1,IP]
 by_cases aC:i<P.length
 ·obtain⟨p',c',k1,k2⟩:=hc i aC
  have e0:(P++[rs]).getD i []=P.getD i []:=by simp[List.getD,AX aC]
  simp only[e0];obtain⟨u,hu⟩:∃u,news[i]?=some u:=⟨_,AM (by omega)⟩;have h1:=(RW own).cell i u hu;have eu:u=.slice p' (P.getD i []).length c':=DA (h1.symm.j k1);exact⟨p',c',(RW aA).cell i _ (by rw[AX (by omega),hu,eu]),k2.only hO (by omega)⟩
 obtain rfl:i=P.length:=by simp at hi;omega
 have e0:(P++[rs]).getD P.length []=rs:=by simp[List.getD]
 simp only[e0];exact⟨a,c,(RW aA).cell P.length _ (by rw[CJ (by omega),aD];simp),hs.only hO (by omega)⟩
theorem TF{cs:List Value}{n:Nat}(h:OwnS w a cs)(hn:n≠0->cs≠[])(k:blk a n=some g):g<w.heap.size:=by
 by_cases h0:n=0
 ·rw[h0]at k;simp[blk]at k
 obtain⟨g',rfl,hr⟩:=h.resolve_left (hn h0)
 rw[WJ k];exact hr.lt
theorem lm{lo:Nat}{e:TypeId}{s:Nat}{v:Value}{n:Nat}{xs:List Value}{F:Nat->Prop}(h:w.ownsRow lo e s v n xs)(hF:∀b,v.ownBlock=some b->F b):DepF w F (λW=>W.ownsRow lo e s v n xs) :=⟨h,λw' h1 h2=>by
  refine⟨h.1,h.2.imp_right λ⟨g,cap,cur,e1,e2,e3,e4⟩=>?_⟩;subst e1
  exact⟨g,cap,cur,rfl,e2,(h2 g (hF g rfl) (AS.1 e3).1).j e3,e4⟩⟩
theorem Gj(x:Wo)(q:Wp)(e:Ev)(a:Option Addr)(c:Nat)(f:Option Addr)(d SB:Nat)(l:Int)(o:Nat->Nat)(w:World)(hR:Row w SB (QM l x q))(h:OO x w q o)(h0:o SB=0)(hf:DepF w (λb=>b≠SB) (λW=>Ints W f e.fs))(ho:x.ok)(he:e.le)(hK:e.K=5):Calls prog 36 #[.pointer (some ⟨SB,0,none⟩),MK e a c f d] w λr w'=>r=.returned (.tuple #[])/\WT w w' SB l o (x.doE e):=by
 have lS:=hR.lt;have er:x.doE e=x.pow e.fs:=by unfold Wo.doE;rw[AK hK]
 rw[er];unfold MK;have S0:=(VW hR (h.depF h0)).add hf;have CL:=LE (λw' h1 h2 h3=>zj x q f e.fs d SB l o w' h1 h2 h0 h3 ho.le he.f);obtain⟨Y,HY⟩:∃y,Hid (y=x.pow e.fs):=⟨_,LE rfl⟩;rw[<-HY.o]at CL⊢;clear hR h hf er hK ho he HY;go_enter func36,ntmps36;go_upto_region 1 with fail;generalize aA:w.alloc _=v1;obtain⟨aB,aC,b2⟩:=LJ aA;clear aA;replace S0:=S0.I aB;have d3:=b2.l.x 3;have dl:=b2.l.lt;have hl:=aB.size;go_wp2_with fail;clear d3 dl b2;refine(CL.o _ S0.r S0.m.l.1 S0.m.l.2).i ?_;rintro r v2 ⟨rfl,q1,o1,R1,W1,a1,G1⟩;have HH:=LE (AG R1 (AG W1 (PY S0.e G1)));clear R1 W1 G1 S0 CL;go_wp2;exact FU (v:=.tuple #[]) (by simp[results,results36]) rfl ⟨rfl,q1,o1,HH.o.1,HH.o.2.1,λb hb=>a1 b (by omega),HH.o.2.2⟩
theorem xL{x:Wo}{e:Ev}{D:Dd}(h2:e.K=2)(hc:x.call e=(D,true)):x.doE e=x.runE e D:=by
 by_cases hn:D.C≠0\/200<(OL x e D).length\/2000<(QP x e D).length
 ·have e2:x.runE e D=x:=by unfold Wo.runE;rw[AK hn]
  rw[e2]
  by_cases h0:D.C=0
  ·exact na (by omega) hc h0 (by omega)
  exact WN (by omega) hc (.inr h0)
 have h0:D.C=0:=by omega
 unfold Wo.runE;rw[AE hn]
 cases hb:QH e D with
 | true=>exact pu (by omega) hc h0 (by omega) hb
 | false=>exact pW (by omega) hc h0 (by omega) hb h2
theorem vH(x:Wo)(q:Wp)(e:Ev)(a:Option Addr)(c:Nat)(f:Option Addr)(d SB:Nat)(l:Int)(o:Nat->Nat)(w:World)(hR:Row w SB (QM l x q))(h:OO x w q o)(h0:o SB=0)(cA:x.rs.length<=q.cs)(lo:Nat)(news:List Value)(bP:w.ownsRow lo 48 1 (.slice q.p x.P.length q.cp) x.P.length news)(cX:0<x.P.length)(dB:lo<=w.heap.size)(hf:DepF w (λb=>b≠SB/\o b=0) (λW=>Ints W f e.fs))(b7:Chs w a e.b)(ho:x.ok)(he:e.le)(hK:e.K=2):Calls prog 33 #[.pointer (some ⟨SB,0,none⟩),MK e a c f d] w λr w'=>r=.returned (.tuple #[])/\∃q' o',HpPost w w' SB l o (x.doE e) q' o':=by
 have lS:=hR.lt;have hm:=ho.le;have hd:(RU x.W x.S x.L x.T x.H x.F x.R x.U x.O x.rs e.b).ok:=by have:=ho.call e;unfold Wo.call at this;simpa[hK] using this
 have bJ:∀b,(Value.slice q.p x.P.length q.cp).ownBlock=some b->o b=5:=λb k=>by obtain⟨b',e',_,h5,_⟩:=h.h4.resolve_left (by omega);rw[e']at k;cases k;exact h5
 have bW:∀b,(Value.slice q.p x.P.length q.cp).ownBlock=some b->b<w.heap.size:=λb k=>(bP.lt b k).2
 have bU:DepF w (λb=>b≠SB) (λW=>W.ownsRow lo 48 1 (.slice q.p x.P.length q.cp) x.P.length news):=lm bP (λb k e=>by have:=bJ b k;rw[e]at this;omega);have S0:=((VW hR (h.all h0 lS)).add (hf.i (λb _ k=>k.1))).add bU;have CC:=LE (λw' h1 h2=>Ia x.W x.S x.L x.T x.H x.F x.R x.U x.O q.s x.rs q.cs a e.b c w' h1 cA hm.l3 hm.s3 h2 he.b.1 he.b.2);unfold LV at CC;obtain⟨bT,aG⟩:∃y,Hid (y=x.doE e):=⟨_,LE rfl⟩;rw[<-aG.o];obtain⟨D,HD⟩:∃D,Hid (D=RU x.W x.S x.L x.T x.H x.F x.R x.U x.O x.rs e.b):=⟨_,LE rfl⟩;rw[<-HD.o]at CC hd;have aV:Hid (x.call e=(D,x.up)):=LE (by rw[HD.o];unfold Wo.call;simp[hK]);have hP:OL x e D=x.P++[D.rs]:=AK hK;have CR:=LE (λoa oc ob oe p cp o' w' (hR':Row w' SB (QM l x q)) h' h0' hp' hs' hb' hbc hf'=>o7 x q e a c f d D oa oc ob oe p cp SB l o' w' hR' h' h0' hp' hs' hb' hbc hf' ho hd he);rw[hP,show(x.P++[D.rs]).length=x.P.length+1 by simp]at CR
 unfold MK MQ at CR;unfold MK;have dH:=(SG hd.1).1;have dF:=ho.p.1;have HK:=LE hK;have HF:=LE hf;have HB:=LE b7;have HH:=LE h;clear hR h hf hm hK b7 bP bU hP ho he cA;obtain⟨i1,cB,cJ,cL,cM⟩:=VG gy;have HJ:=LE (AG cB (AG cJ (AG cL cM)));clear cB cJ cL cM;go_enter func33,ntmps33;go_upto_region 1 with fail;generalize aM:w.alloc _=v1;obtain⟨aC,bQ,b2⟩:=LJ aM;clear aM;replace S0:=(S0.I aC).add (QI b2.l (by omega));clear b2 bQ;have c5:=S0.r.x 5;have cl:=S0.r.lt;have cZ:=aC.size;obtain⟨u,HU⟩:∃u,Hid (u=x.up):=⟨_,LE rfl⟩;rw[<-HU.o]at c5
 cases u with
 | false =>
  have er:x=bT:=by rw[aG.o];exact(WN (by have:=HK.o;omega) aV.o (.inl (by rw[<-HU.o]))).symm
  clear aG;subst er;have SH:=LE S0;clear S0 CC CR;go_wp2;exact AJ (v:=.tuple #[]) (by simp[results,results33]) rfl ⟨rfl,ah ⟨q,o,SH.o.r,SH.o.m.l.1.1.1 o (λ_ _=>rfl),λ_ _=>rfl,SH.o.e⟩⟩
 | true =>
  have er:bT=x.runE e D:=by rw[aG.o];exact xL HK.o (by rw[aV.o,<-HU.o])
  rw[<-er]at CR;clear er aG aV HU HD;go_upto_region 2 with fail;clear c5 cl;replace S0:=S0.I (AB v1.heap.size v1).drew;replace aC:=aC.drew;refine UV (9) (S:=λw'=>Row w' SB (QM l x q)/\Row w' w.heap.size [.int .i64 e.K,.slice a e.b.length c,.int .i64 e.cut,.slice f e.fs.length d]) (by kernel_rfl) (⟨S0.r,S0.m.l.2⟩) (λaD=>?_);refine NZ 0 (.pointer (some ⟨SB,0,none⟩)) rfl aD (NZ 1 (.pointer (some ⟨SB,0,none⟩)) rfl aD (MY 2 (.pointer (some ⟨SB,2,none⟩)) rfl (BN ⟨by rfl,λw hw=>by obtain⟨z0,z1⟩:=hw;have l:=z0.lt;go_simp⟩) aD (MY 3 (.pointer (some ⟨SB,6,none⟩)) rfl (BN ⟨by rfl,λw hw=>by obtain⟨z0,z1⟩:=hw;have l:=z0.lt;go_simp⟩) aD (MY 4 (.agg (sK x.W x.S x.L x.T x.H x.F x.R x.U x.O (.slice q.s x.rs.length q.cs))) rfl (BN ⟨by rfl,λw hw=>by obtain⟨z0,z1⟩:=hw;exact OP 50 _ rfl _ 6 rfl (sJ x.W x.S x.L x.T x.H x.F x.R x.U x.O (.slice q.s x.rs.length q.cs)) _ (Row.rangeMid (pre:=[.int .i32 l,.int .u32 0,.int .i64 x.w,.slice q.a x.ss.length q.c,.slice q.a' x.ws.length q.c',.bool x.up]) (cs:=(sJ x.W x.S x.L x.T x.H x.F x.R x.U x.O (.slice q.s x.rs.length q.cs))) (post:=[.slice q.p x.P.length q.cp,.slice q.t x.ts.length q.ct]) z0) underlying50 rfl OH⟩) aD (MY 5 (.pointer (some ⟨w.heap.size,1,none⟩)) rfl (BN ⟨by rfl,λw hw=>by obtain⟨z0,z1⟩:=hw;have l:=z1.lt;go_simp⟩) aD (MY 6 (.slice a e.b.length c) rfl (BN ⟨by rfl,λw hw=>by obtain⟨z0,z1⟩:=hw;have c1:=z1.x 1;go_simp⟩) aD ?_))))))
  simp only[PS];refine PD (rs:=[7,8]) (by kernel_rfl) (by simp) ?_;refine AllReadyT.cons rfl (λKq aB=>?_) (AllReadyT.cons rfl (λKq aB=>?_) AllReadyT.nil)
  focus
   generalize aY:v1.drew=y0 at S0 aC⊢;clear aY;have ly:=S0.e.size;refine LK (by rfl) 82 #[.agg (sK x.W x.S x.L x.T x.H x.F x.R x.U x.O (.slice q.s x.rs.length q.cs)),.slice a e.b.length c] (by go_simp) (CC.o _ (S0.m.l.1.1.1 o (λ_ _=>rfl)).h3.own.prs (HB.o.I aC)) ?_;rintro r y1 ⟨⟨oa,oc,ob,oe,rfl,bI,own,g1,g2,hb⟩,hI⟩;have cH:=hI _ _ _ _ rfl;refine⟨_,rfl,?_⟩;unfold MQ;have lb:=hb.size;replace S0:=S0.I hb;replace aC:=aC.j (hb.i aC.size);have dO:=iq own g1 g2
   have gA:∀g,blk oa D.rs.length=some g->w.heap.size<=g:=λg k=>by have:=g1 g k;omega
   have gB:∀g,blk ob D.ops.length=some g->w.heap.size<=g:=λg k=>by have:=g2 g k;omega
   have cF:=own.ne;clear hb hI own;refine aB.o _ _ (⟨S0.r,S0.m.l.2⟩) (λbC=>?_)
   try simp only[PS]
   refine ND 8 rfl (λKq aB=>?_);go_simp;obtain⟨y2,aL⟩:∃y,y=y1.alloc (.cells (dK 0 0 0 0 0 0 0 0 0 0 (.slice none 0 0) (.slice none 0 0)) 118):=⟨_,rfl⟩;have hb:=LG y1 (.cells (dK 0 0 0 0 0 0 0 0 0 0 (.slice none 0 0) (.slice none 0 0)) 118);have rD:=ME y1 (dK 0 0 0 0 0 0 0 0 0 0 (.slice none 0 0) (.slice none 0 0)) 118;rw[<-aL]at hb rD⊢;obtain⟨DB,aH⟩:∃y,y=y1.heap.size:=⟨_,rfl⟩;rw[<-aH]at rD⊢;have cQ:SB<DB/\w.heap.size<DB:=by have:=S0.r.lt;have:=S0.m.l.2.lt;omega
   have mN:=((S0.m.and (WW dO (λb h1 _=>by omega))).i (G:=λb=>b≠SB/\b≠DB) (λb hb k=>⟨k,by omega⟩)).I hb;replace S0:=S0.I hb;replace aC:=aC.j (hb.i aC.size);have nD:DB<y2.heap.size:=rD.lt;clear aL aH hb g1 g2 dO;refine aB.o _ _ (⟨S0.r,S0.m.l.2⟩) (λaN=>?_)
   try simp only[PS]
   have cS:=nD;clear nD;have aT:=aN
  rotate_left
  focus
   generalize aY:v1.drew=y0 at S0 aC⊢;clear aY;go_simp;obtain⟨y1,aL⟩:∃y,y=y0.alloc (.cells (dK 0 0 0 0 0 0 0 0 0 0 (.slice none 0 0) (.slice none 0 0)) 118):=⟨_,rfl⟩;have hb:=LG y0 (.cells (dK 0 0 0 0 0 0 0 0 0 0 (.slice none 0 0) (.slice none 0 0)) 118);have rD:=ME y0 (dK 0 0 0 0 0 0 0 0 0 0 (.slice none 0 0) (.slice none 0 0)) 118;rw[<-aL]at hb rD⊢;obtain⟨DB,aH⟩:∃y,y=y0.heap.size:=⟨_,rfl⟩;rw[<-aH]at rD⊢;have cQ:SB<DB/\w.heap.size<DB:=by have:=S0.r.lt;have:=S0.m.l.2.lt;omega
   have cY:=(S0.m.i (G:=λb=>b≠SB/\b≠DB) (λb hb k=>⟨k,by omega⟩)).I hb;replace S0:=S0.I hb;replace aC:=aC.j (hb.i aC.size);have nD:DB<y1.heap.size:=rD.lt;clear aL aH hb;refine aB.o _ _ (⟨S0.r,S0.m.l.2⟩) (λaO=>?_)
   try simp only[PS]
   refine ND 7 rfl (λKq aB=>?_);have ly:=S0.e.size;refine LK (by rfl) 82 #[.agg (sK x.W x.S x.L x.T x.H x.F x.R x.U x.O (.slice q.s x.rs.length q.cs)),.slice a e.b.length c] (by go_simp) (CC.o _ (S0.m.l.1.1.1 o (λ_ _=>rfl)).h3.own.prs (HB.o.I aC)) ?_;rintro r y2 ⟨⟨oa,oc,ob,oe,rfl,bI,own,g1,g2,hb⟩,hI⟩;have cH:=hI _ _ _ _ rfl;refine⟨_,rfl,?_⟩;unfold MQ;have lb:=hb.size;replace S0:=S0.I hb;replace aC:=aC.j (hb.i aC.size);have dO:=iq own g1 g2
   have gA:∀g,blk oa D.rs.length=some g->w.heap.size<=g:=λg k=>by have:=g1 g k;omega
   have gB:∀g,blk ob D.ops.length=some g->w.heap.size<=g:=λg k=>by have:=g2 g k;omega
   have cF:=own.ne;replace rD:=rD.I hb;have mN:=(cY.I hb).and (WW dO (λb h1 _=>⟨by omega,by omega⟩));have nD:DB<y2.heap.size:=rD.lt;clear hb hI own g1 g2 dO;refine aB.o _ _ (⟨S0.r,S0.m.l.2⟩) (λaP=>?_)
   try simp only[PS]
   have cS:=nD;clear nD;have aT:=aP
  all_goals
   refine PD (rs:=[9]) (by kernel_rfl) (by simp) ?_;refine AllReadyT.last rfl (λKq aB=>?_);refine UK rfl 118 _ _ rfl DB 0 (dK D.C D.W D.S D.L D.T D.H D.F D.R D.U D.O (.slice oa D.rs.length oc) (.slice ob D.ops.length oe)) rfl rfl (rD.there rfl) RK (by kernel_rfl) ?_;refine aB.o _ _ trivial (λ_=>?_)
   try simp only[PS]
   refine UN (by kernel_rfl) ?_ _;have G3:=PJ y2 DB 0 (dJ D.C D.W D.S D.L D.T D.H D.F D.R D.U D.O (.slice oa D.rs.length oc) (.slice ob D.ops.length oe));have aJ:=rD.sets (dJ D.C D.W D.S D.L D.T D.H D.F D.R D.U D.O (.slice oa D.rs.length oc) (.slice ob D.ops.length oe)) rfl;have S1:Sc w (y2.setCells DB 0 (dJ D.C D.W D.S D.L D.T D.H D.F D.R D.U D.O (.slice oa D.rs.length oc) (.slice ob D.ops.length oe))) SB (QM l x q) _:=⟨⟨G3.os.j S0.e.os,G3.tape.j S0.e.tape,G3.output.j S0.e.output,AL S0.e.size G3.size,λb h1 h2=>(G3.block b (by have:=S0.e.size;omega) (λe=>by injection e;omega)).j (S0.e.block b h1 h2)⟩,S0.r.z G3 (λe=>by injection e;omega),(mN.z G3 (λg e k=>by cases e;exact k.2 rfl)).i (λb _ k=>k.1)⟩;replace S1:=S1.add (QI aJ (by omega));have l3:=G3.size;generalize aZ:World.setCells _ _ _ _=y3 at S1 l3⊢;clear aZ S0 mN rD aJ G3 aC CC HB;go_upto_region 3 with fail
   replace S1:=S1.I (AB y3.heap.size y3).drew;refine AP (S:=λw'=>SB<w'.heap.size/\Row w' w.heap.size [.int .i64 e.K,.slice a e.b.length c,.int .i64 e.cut,.slice f e.fs.length d]/\Row w' DB (dJ D.C D.W D.S D.L D.T D.H D.F D.R D.U D.O (.slice oa D.rs.length oc) (.slice ob D.ops.length oe))) (by kernel_rfl) (⟨S1.r.lt,S1.m.l.1.1.2,S1.m.l.2⟩) (λaD=>?_);refine TY 0 (.pointer (some ⟨SB,0,none⟩)) rfl aD (TK 1 (.agg #[.int .i64 e.K,.slice a e.b.length c,.int .i64 e.cut,.slice f e.fs.length d]) rfl (BN ⟨by rfl,λw hw=>by obtain⟨z0,z1,z2⟩:=hw;exact OP 58 _ rfl _ 0 rfl _ _ z1.range underlying58 rfl XN⟩) aD (TK 2 (.agg (dK D.C D.W D.S D.L D.T D.H D.F D.R D.U D.O (.slice oa D.rs.length oc) (.slice ob D.ops.length oe))) rfl (BN ⟨by rfl,λw hw=>by obtain⟨z0,z1,z2⟩:=hw;exact OP 118 _ rfl _ 0 rfl _ _ z2.range underlying118 rfl RK⟩) aD (TY 3 (.pointer (some ⟨SB,0,none⟩)) rfl aD (TY 4 (.pointer (some ⟨SB,0,none⟩)) rfl aD (TY 5 (.pointer (some ⟨SB,2,none⟩)) rfl aD (TY 6 (.pointer (some ⟨SB,16,none⟩)) rfl aD (TK 8 (.pointer (some ⟨DB,1,none⟩)) rfl (BN ⟨by rfl,λw hw=>by obtain⟨z0,z1,z2⟩:=hw;have l:=z2.lt;go_simp⟩) aD (TK 9 (.pointer (some ⟨DB,10,none⟩)) rfl (BN ⟨by rfl,λw hw=>by obtain⟨z0,z1,z2⟩:=hw;have l:=z2.lt;go_simp⟩) aD (TK 10 (.agg #[.slice oa D.rs.length oc]) rfl (BN ⟨by rfl,λw hw=>by obtain⟨z0,z1,z2⟩:=hw;have c10:=z2.x 10;go_simp⟩) aD ?_)))))))))
   simp only[PS];refine EZ (rs:=[7,11]) (by kernel_rfl) (by simp) ?_;refine CY rfl (λKq aB=>?_) (CY rfl (λKq aB=>?_) EX)
   focus
    generalize aX:y3.drew=u0 at S1⊢;clear aX;have c16:=S1.r.x 16;go_simp;clear c16;refine aB.o _ _ (⟨S1.r.lt,S1.m.l.1.1.2,S1.m.l.2⟩) (λbC=>?_)
    try simp only[PS]
    refine RD 11 rfl (λKq aB=>?_);refine LK (by rfl) _ _ (by go_simp) (XF oa D.rs oc _ S1.m.l.1.2.s.prs (by omega)) ?_;rintro r u1 ⟨a5,c5,rfl,cW,aI,g5,hb⟩;refine⟨_,rfl,?_⟩;unfold LR;have lu:=S1.e.size;have d5:=TA aI QG g5 (SB:=SB) (by omega)
    have g6:=λg k=>TF (g:=g) aI YE k
    have gO:=λg k=>TF (g:=g) S1.m.l.1.2.s YE k
    have gP:=λg k=>TF (g:=g) S1.m.l.1.2.p nP k
    have lb:=hb.size;replace S1:=S1.I hb;clear hb aI;refine aB.o _ _ (⟨S1.r.lt,S1.m.l.1.1.2,S1.m.l.2⟩) (λaN=>?_)
    try simp only[PS]
    refine RD 12 rfl (λKq aB=>?_);go_simp;obtain⟨u2,aF⟩:∃y,y=u1.alloc (.cells #[.slice a5 D.rs.length c5] 48):=⟨_,rfl⟩;have hb:=LG u1 (.cells #[.slice a5 D.rs.length c5] 48);have rG:=ME u1 #[.slice a5 D.rs.length c5] 48;rw[<-aF]at hb rG⊢;obtain⟨GB,aE⟩:∃y,y=u1.heap.size:=⟨_,rfl⟩;rw[<-aE]at rG⊢;replace S1:=S1.I hb;replace d5:=d5.I hb;have cN:u1.heap.size<=u2.heap.size:=hb.size;clear aF aE hb;refine aB.o _ _ (⟨S1.r.lt,S1.m.l.1.1.2,S1.m.l.2⟩) (λaO=>?_)
    try simp only[PS]
    have aT:=aO
   rotate_left
   focus
    generalize aX:y3.drew=u0 at S1⊢;clear aX;refine LK (by rfl) _ _ (by go_simp) (XF oa D.rs oc _ S1.m.l.1.2.s.prs (by omega)) ?_;rintro r u1 ⟨a5,c5,rfl,cW,aI,g5,hb⟩;refine⟨_,rfl,?_⟩;unfold LR;have lu:=S1.e.size;have d5:=TA aI QG g5 (SB:=SB) (by omega)
    have g6:=λg k=>TF (g:=g) aI YE k
    have gO:=λg k=>TF (g:=g) S1.m.l.1.2.s YE k
    have gP:=λg k=>TF (g:=g) S1.m.l.1.2.p nP k
    have lb:=hb.size;replace S1:=S1.I hb;clear hb aI;refine aB.o _ _ (⟨S1.r.lt,S1.m.l.1.1.2,S1.m.l.2⟩) (λaP=>?_)
    try simp only[PS]
    refine EZ (rs:=[7,12]) (by kernel_rfl) (by simp) ?_;refine CY rfl (λKq aB=>?_) (CY rfl (λKq aB=>?_) EX)
    focus
     have c16:=S1.r.x 16;go_simp;clear c16;refine aB.o _ _ (⟨S1.r.lt,S1.m.l.1.1.2,S1.m.l.2⟩) (λcT=>?_)
     try simp only[PS]
     refine RD 12 rfl (λKq aB=>?_);go_simp;obtain⟨u2,aF⟩:∃y,y=u1.alloc (.cells #[.slice a5 D.rs.length c5] 48):=⟨_,rfl⟩;have hb:=LG u1 (.cells #[.slice a5 D.rs.length c5] 48);have rG:=ME u1 #[.slice a5 D.rs.length c5] 48;rw[<-aF]at hb rG⊢;obtain⟨GB,aE⟩:∃y,y=u1.heap.size:=⟨_,rfl⟩;rw[<-aE]at rG⊢;replace S1:=S1.I hb;replace d5:=d5.I hb;have cN:u1.heap.size<=u2.heap.size:=hb.size;clear aF aE hb;refine aB.o _ _ (⟨S1.r.lt,S1.m.l.1.1.2,S1.m.l.2⟩) (λbE=>?_)
     try simp only[PS]
     have aT:=bE
    rotate_left
    focus
     go_simp;obtain⟨u2,aF⟩:∃y,y=u1.alloc (.cells #[.slice a5 D.rs.length c5] 48):=⟨_,rfl⟩;have hb:=LG u1 (.cells #[.slice a5 D.rs.length c5] 48);have rG:=ME u1 #[.slice a5 D.rs.length c5] 48;rw[<-aF]at hb rG⊢;obtain⟨GB,aE⟩:∃y,y=u1.heap.size:=⟨_,rfl⟩;rw[<-aE]at rG⊢;replace S1:=S1.I hb;replace d5:=d5.I hb;have cN:u1.heap.size<=u2.heap.size:=hb.size;clear aF aE hb;refine aB.o _ _ (⟨S1.r.lt,S1.m.l.1.1.2,S1.m.l.2⟩) (λcU=>?_)
     try simp only[PS]
     refine RD 7 rfl (λKq aB=>?_);have c16:=S1.r.x 16;go_simp;clear c16;refine aB.o _ _ (⟨S1.r.lt,S1.m.l.1.1.2,S1.m.l.2⟩) (λbF=>?_)
     try simp only[PS]
     have aT:=bF
   all_goals
    refine RD 13 rfl (λKq aB=>?_);refine Eu _ rfl _ _ 51 rfl lo 48 i1 (.agg #[.slice none 0 0]) underlying51 HJ.o.1 HJ.o.2.1 HJ.o.2.2.1 rfl (.slice q.p x.P.length q.cp) x.P.length news rfl S1.m.l.1.1.1.2 ⟨GB,0,none⟩ 1 (.slice a5 D.rs.length c5) rfl (by rw[ae];exact rG.x 0) rfl (by unfold maxLen;omega) (by rw[HJ.o.2.2.2];omega) (by have:=S1.e.size;omega) ?_;intro g9 aW u3 aS aA aQ aR;obtain⟨o3,aK⟩:∃y,Hid (y=λb=>if b<w.heap.size then o b else if blk a5 D.rs.length=some b then 7+x.P.length else if blk oa D.rs.length=some b then 3 else if blk ob D.ops.length=some b then 6 else if b=u2.heap.size then 5 else 0):=⟨_,LE rfl⟩
    have ag:∀b,b<w.heap.size->o3 b=o b:=λb hb=>by rw[aK.o];exact AK hb
    have z3:o3 SB=0:=(ag SB lS).j h0;have dL:=S1.e.size;have W2:=S1.m.l.1.1.1.1.1 o3 ag;have cI:OwL u2 o3 (7+x.P.length) a5 (LI D.rs):=RJ d5.l QG g5 (λg k=>by have:=g5 g k;rw[aK.o];simp only[];rw[AE (by omega),AK k]);have A2:OwL u2 o3 3 oa (LI D.rs):=RJ S1.m.l.1.2.s QG gA (λg k=>by have h1:=gA g k;have h2:=gO g k;rw[aK.o];simp only[];rw[AE (by omega),AE (λe=>by have:=g5 g e;omega),AK k])
    have B2:OwL u2 o3 6 ob (MW D.ops):=RJ S1.m.l.1.2.p dt gB (λg k=>by have h1:=gB g k;have h2:=gP g k;rw[aK.o];simp only[];rw[AE (by omega),AE (λe=>by have:=g5 g e;omega),AE (λe=>by rcases cF with h|h|h;rw[h]at e;cases e;rw[h]at k;cases k;exact h (e.j k.symm)),AK k])
    have cE:o3 g9=5:=by
     rcases aQ with k|k
     ·obtain⟨b',e',_,h5,_⟩:=W2.h4.resolve_left (by omega)
      rw[e']at k
      cases k
      exact h5
     rw[k,aK.o]
     simp only[];rw[AE (by omega),AE (λe=>by have:=g6 _ e;omega),AE (λe=>by have:=gO _ e;omega),AE (λe=>by have:=gP _ e;omega)];simp
    obtain⟨O3,P3,PN⟩:=wO W2.h4 cX S1.m.l.1.1.1.2 cI aS aA cE aR;have W3:OO x u3 q o3:=⟨W2.h1.only O3 (by omega),W2.h2.only O3 (by omega),W2.h3.only O3 (by omega),P3,W2.h5.only O3 (by omega)⟩;have A3:=A2.only O3 (by omega);have B3:=B2.only O3 (by omega);have R3:=S1.r.z aA (λe=>by have:=bJ SB e.symm;omega);have aU:=S1.m.l.1.1.2.z aA (λe=>by have:=bW _ e.symm;omega);have aJ:=S1.m.l.2.z aA (λe=>by have:=bW _ e.symm;omega)
    have cC:∀b,b<w.heap.size->b≠SB->o b=0->u3.heap[b]?=w.heap[b]?:=λb h1 h2 h3=>(aA.block b (by omega) (λe=>by have:=bJ b e.symm;omega)).j (S1.e.block b h1 (λe=>h2 (by injection e)))
    have E3:Below 0 w u3:=⟨aA.os.j S1.e.os,aA.tape.j S1.e.tape,aA.output.j S1.e.output,AL S1.e.size aA.size,λb hb=>by omega⟩;have I3:=(HF.o.step E3 (λb k1 k2=>cC b k2 k1.1 k1.2)).i (G:=λb=>b≠SB) (λb _ k=>k.1);clear W2 cI A2 B2 aQ aS aA aR S1 d5 rG cE O3 P3;refine aB.o _ _ (⟨R3.lt,aU,aJ⟩) (λcV=>?_)
    try simp only[PS]
    refine RD 14 rfl (λKq aB=>?_);refine LK (by rfl) _ _ (by go_simp) (CR.o oa oc ob oe _ aW o3 u3 R3 W3 z3 PN A3 B3 cH I3) ?_;rintro r u4 ⟨rfl,q4,o4,R4,W4,a4,G4⟩;refine⟨_,rfl,?_⟩;replace aU:=aU.z G4 (λe=>by injection e;omega);replace aJ:=aJ.z G4 (λe=>by injection e;omega);refine aB.o _ _ (⟨R4.lt,aU,aJ⟩) (λbV=>?_)
    try simp only[PS]
    refine DN ?_;have HZ:=LE (AG R4 W4);have cP:=LE G4;have cO:=LE E3;clear R4 W4 G4 E3 W3 R3 CR PN A3 B3 I3;go_wp2;have G4:=cP.o;have E3:=cO.o;exact FU (v:=.tuple #[]) (by simp[results,results33]) rfl ⟨rfl,q4,o4,HZ.o.1,HZ.o.2,λb hb=>(a4 b (by have:=E3.size;omega)).j (ag b hb),G4.os.j E3.os,G4.tape.j E3.tape,G4.output.j E3.output,AL E3.size G4.size,λb h1 h2 h3=>(G4.block b (by have:=E3.size;omega) (λe=>h2 (by injection e))).j (cC b h1 h2 h3)⟩
