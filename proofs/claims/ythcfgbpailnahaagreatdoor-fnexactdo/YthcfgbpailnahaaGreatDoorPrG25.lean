import Derived.Test.YthcfgbpailnahaaGreatDoorPrWoB
import Derived.Test.YthcfgbpailnahaaGreatDoorPrG45
import Derived.Test.YthcfgbpailnahaaGreatDoorPrMvS
set_option maxHeartbeats 16000000
set_option maxRecDepth 8000
set_option linter.all false
namespace Go.Proofs.YthcfgbpailnahaaGreatDoor
section
open Tryz
open Go.RowKit
@[reducible] def wA(x:Wo)(q:Wp):Array Value:=#[.int .i64 x.w,.slice q.a x.ss.length q.c,.slice q.a' x.ws.length q.c',.bool x.up,.int .i64 x.W,.int .i64 x.S,.int .i64 x.L,.int .i64 x.T,.int .i64 x.H,.int .i64 x.F,.int .i64 x.R,.int .i64 x.U,.int .i64 x.O,.slice q.s x.rs.length q.cs,.slice q.p x.P.length q.cp,.slice q.t x.ts.length q.ct]
@[reducible] def wL(x:Wo)(q:Wp):List Value:=[.int .i64 x.w,.slice q.a x.ss.length q.c,.slice q.a' x.ws.length q.c',.bool x.up,.int .i64 x.W,.int .i64 x.S,.int .i64 x.L,.int .i64 x.T,.int .i64 x.H,.int .i64 x.F,.int .i64 x.R,.int .i64 x.U,.int .i64 x.O,.slice q.s x.rs.length q.cs,.slice q.p x.P.length q.cp,.slice q.t x.ts.length q.ct]
theorem sP(W S L T H F R U O:Int)(a:Option Addr)(rs:List Pr)(c:Nat)(w:World)(h:Prs w a rs)(hl:rs.length<=1048576)(hs:∀x∈rs,x.1.size<=1048576/\x.2.size<=1048576):Calls prog 110 #[LV W S L T H F R U O a rs.length c] w λx w'=>RO w w' x (QX W S L T H F R U O rs):=by
 have aF:=LE (λw' h'=>fg W S L T H F R U O a rs c w' h' hl hs);have HH:=LE h;clear h;obtain⟨D,HD⟩:∃D,Hid (D=QX W S L T H F R U O rs):=⟨_,LE rfl⟩;rw[<-HD.o];unfold LV at aF⊢;go_enter func110,ntmps110;go_upto_region 1 with fail;generalize aA:w.alloc _=v1;obtain⟨aG,aC,b1⟩:=LJ aA;clear aA;generalize aB:v1.alloc _=v2;obtain⟨aH,aJ,b2⟩:=LJ aB;clear aB;rw[aC]at b2;have B0:StB w v2 (sJ W S L T H F R U O (.slice a rs.length c)) (λ_=>True):=⟨aG.j (aH.i aG.size),(b1.I aH).l,b2.l,SX (λ_=>trivial)⟩;have l2:w.heap.size+1<v2.heap.size:=b2.l.lt;clear aG aH b1 b2 aC aJ;refine BA ?_;refine AN rfl 50 _ rfl w.heap.size 0 rfl _ _ B0.r1.range underlying50 rfl OH ?_;simp only[PS];go_wp2_with fail;refine(aF.o _ (HH.o.I B0.e)).i ?_;rintro x v3 ⟨rfl,hb⟩;replace B0:=B0.I hb;clear hb l2 aF
 cases hok:OF W S L T H F R U O rs with
 | false =>
  obtain rfl:D=LT 1:=by rw[HD.o];unfold QX;rw[AE (by rw[hok];simp)]
  go_upto_region 2 with fail;refine B0.noR 1 _ _ rfl (by go_simp) rfl rfl rfl rfl (λy R8 aE=>?_)
  try simp only[PS]
  clear B0
  try go_wp2
  refine RN 2 results110 _ ?_ R8 ?_ aE.o<;>rfl
 | true =>
  have aK:=om hok;have hD:D=OY W S L T H F rs:=by rw[HD.o];unfold QX;rw[AK hok]
  have aD:=LE (λw' h'=>pP W S L T H F R U O a rs c w' h' hl hs aK);rw[<-hD]at aD;unfold LV at aD;clear hok hD aK;go_upto_region 3 with fail;refine BA ?_;refine AN rfl 50 _ rfl w.heap.size 0 rfl _ _ B0.r1.range underlying50 rfl OH ?_;simp only[PS];go_wp2_with fail;refine(aD.o _ (HH.o.I B0.e)).i ?_;rintro x v4 ⟨oa,oc,ob,oe,rfl,aI,own,g1,g2,hb⟩;have l3:=B0.r2.lt;replace B0:=B0.I hb;clear hb aD;unfold MQ
  try simp only[PS]
  refine‹∀(a:Act) (w:World),wpList _ _ _ _ a w->_› _ _ ?_
  refine BI rfl 118 _ _ rfl (w.heap.size+1) 0 (dK D.C D.W D.S D.L D.T D.H D.F D.R D.U D.O (.slice oa D.rs.length oc) (.slice ob D.ops.length oe)) rfl rfl (B0.r2.there rfl) RK (by kernel_rfl) ?_
  try simp only[PS]
  obtain⟨R8,HP⟩:=B0.fin D oa oc ob oe aI own (λg k=>by have:=g1 g k;omega) (λg k=>by have:=g2 g k;omega);have aE:=LE HP;clear HP;generalize aL:v4.setCells _ _ _=y at R8 aE⊢;clear aL B0
  try go_wp2
  refine RN 2 results110 _ ?_ R8 ?_ aE.o<;>rfl
theorem ud(W S L T H F R U O:Int)(a:Option Addr)(rs:List Pr)(c:Nat)(w:World)(h:Prs w a rs)(hc:rs.length<=c)(hl:rs.length<=1048576)(hs:∀x∈rs,x.1.size<=1048576/\x.2.size<=1048576)(aA:VX W S L T H F rs):Calls prog 127 #[LV W S L T H F R U O a rs.length c] w λx w'=>∃a0 c0 b e,x=.returned (MQ (OY W S L T H F rs) a0 c0 b e)/\(OY W S L T H F rs).ops.length<=e/\((a0=a/\c0=c/\(OY W S L T H F rs).rs=rs)\/(OY W S L T H F rs).rs=[])/\OwnS w' b (MW (OY W S L T H F rs).ops)/\(∀g,blk b (OY W S L T H F rs).ops.length=some g->w.heap.size<=g)/\Below w.heap.size w w':=by
 have hW:=aA.1;unfold OY
 cases hfit:XR S T F with
 | false =>
  refine(tD W S L T H F R U O a rs c w aA (JF (by unfold XR at hfit;exact hfit))).i ?_;rintro x w' ⟨rfl,hb⟩;exact⟨_,_,_,_,rfl,AA _,.inr rfl,.inl rfl,(λg k=>by cases k),hb⟩
 | true =>
  obtain⟨n,rfl⟩:∃n:Nat,W=(n:Int):=⟨W.toNat,by omega⟩;refine(Ec S L T H F R U O n (56-n) a rs c w h hc hl hs (by omega) (by omega) (by omega) aA (AZ (by unfold XR at hfit;exact hfit))).i ?_;rintro x w' ⟨b,e,rfl,he,ho,hg,hb⟩;exact⟨_,_,_,_,rfl,he,.inl ⟨rfl,rfl,rfl⟩,ho,hg,hb⟩
theorem Hp(W S L T H F R U O:Int)(a:Option Addr)(rs:List Pr)(c:Nat)(w:World)(h:Prs w a rs)(hc:rs.length<=c)(hl:rs.length<=1048576)(hs:∀x∈rs,x.1.size<=1048576/\x.2.size<=1048576):Calls prog 85 #[LV W S L T H F R U O a rs.length c] w λx w'=>ZM w w' x (QX W S L T H F R U O rs):=by
 have aF:=LE (λw' h'=>fh W S L T H F R U O a rs c w' h' hc hl hs);have HH:=LE h;clear h;obtain⟨D,HD⟩:∃D,Hid (D=QX W S L T H F R U O rs):=⟨_,LE rfl⟩;rw[<-HD.o];unfold LV at aF⊢;go_enter func85,ntmps85;go_upto_region 1 with fail;generalize aA:w.alloc _=v1;obtain⟨aH,aC,b1⟩:=LJ aA;clear aA;generalize aB:v1.alloc _=v2;obtain⟨aI,aL,b2⟩:=LJ aB;clear aB;rw[aC]at b2;have B0:StB w v2 (sJ W S L T H F R U O (.slice a rs.length c)) (λ_=>True):=⟨aH.j (aI.i aH.size),(b1.I aI).l,b2.l,SX (λ_=>trivial)⟩;have l2:w.heap.size+1<v2.heap.size:=b2.l.lt;clear aH aI b1 b2 aC aL;refine BA ?_;refine AN rfl 50 _ rfl w.heap.size 0 rfl _ _ B0.r1.range underlying50 rfl OH ?_;simp only[PS];go_wp2_with fail;refine(aF.o _ (HH.o.I B0.e)).i ?_;rintro x v3 ⟨rfl,hb⟩;replace B0:=B0.I hb;clear hb l2 aF
 cases hok:OF W S L T H F R U O rs with
 | false =>
  obtain rfl:D=LT 1:=by rw[HD.o];unfold QX;rw[AE (by rw[hok];simp)]
  go_upto_region 2 with fail;refine B0.noR 1 _ _ rfl (by go_simp) rfl rfl rfl rfl (λy R8 aE=>?_)
  try simp only[PS]
  clear B0
  try go_wp2
  refine TG 2 results85 _ ?_ R8 ?_ aE.o<;>rfl
 | true =>
  have aO:=om hok;have hD:D=OY W S L T H F rs:=by rw[HD.o];unfold QX;rw[AK hok]
  have aD:=LE (λa' c' w' h' aR=>ud W S L T H F R U O a' rs c' w' h' aR hl hs aO);rw[<-hD]at aD;unfold LV at aD;clear hok hD aO;have l3:=B0.r2.lt;have c9:=B0.r1.x 9;have cl:=B0.r1.lt;go_wp2_with fail;clear c9 cl;have CS:=XF a rs c v3 (HH.o.I B0.e) hl;unfold LR at CS;refine CS.i ?_;rintro x v5 ⟨a5,c5,rfl,aM,oP,aN,hb⟩;unfold LR;have d5:=PG (lo:=v3.heap.size) oP QG aN;replace B0:=B0.I hb;clear hb CS oP;have c9:=B0.r1.x 9;have f9:=B0.r1.q 9;have cl:=B0.r1.lt;go_upto_region 4 with fail;clear c9 f9 cl;replace B0:=B0.set 9 (by simp) (.slice a5 rs.length c5);replace d5:=d5.z (MC (BH v5 (some w.heap.size)) 9 (.slice a5 rs.length c5)) (λg e=>by cases e;omega);generalize aG:World.setCell _ _ _=v6 at B0 d5⊢;clear aG;refine BA ?_;refine AN rfl 50 _ rfl w.heap.size 0 rfl _ _ B0.r1.range underlying50 rfl OH ?_;simp only[PS]
  go_wp2_with fail;refine(aD.o a5 c5 _ d5.l.prs aM).i ?_;rintro x v4 ⟨oa,oc,ob,oe,rfl,aT,aU,aP,g2,hb⟩;have l6:=B0.r2.lt
  have aS:=λg k=>XJ (g:=g) d5.l k
  replace B0:=B0.I hb;replace d5:=d5.I hb;clear hb aD;unfold MQ
  obtain⟨aJ,own,g1⟩:D.rs.length<=oc/\OwnDn v4 D.rs D.ops oa ob/\(∀g,blk oa D.rs.length=some g->v3.heap.size<=g):=by
   rcases aU with ⟨rfl,rfl,aK⟩|aK
   ·rw[aK]
    exact⟨aM,⟨d5.l,aP,XI aS g2⟩,aN⟩
   rw[aK]
   exact⟨AH _,⟨.inl rfl,aP,.inl rfl⟩,λg k=>by cases k⟩
  try simp only[PS]
  refine‹∀(a:Act) (w:World),wpList _ _ _ _ a w->_› _ _ ?_
  refine BI rfl 118 _ _ rfl (w.heap.size+1) 0 (dK D.C D.W D.S D.L D.T D.H D.F D.R D.U D.O (.slice oa D.rs.length oc) (.slice ob D.ops.length oe)) rfl rfl (B0.r2.there rfl) RK (by kernel_rfl) ?_
  try simp only[PS]
  obtain⟨R8,HP⟩:=B0.fin D oa oc ob oe aJ own (λg k=>by have:=g1 g k;omega) (λg k=>by have:=g2 g k;omega);have aE:=LE HP;clear HP;generalize aQ:v4.setCells _ _ _=y at R8 aE⊢;clear aQ B0
  try go_wp2
  refine TG 2 results85 _ ?_ R8 ?_ aE.o aT<;>rfl
theorem Ey{w:World}{base n yc:Nat}{ya:Option Addr}{os:List NM}(h:w.ownsRow base 122 3 (.slice ya n yc) os.length (MW os)):n=os.length/\OwnS w ya (MW os)/\∀g,blk ya os.length=some g->base<=g/\g<w.heap.size:=by
 rcases MM h with ⟨e1,e2⟩|⟨g,cap,e1,e2,e3,e4⟩
 ·injection e1 with e1 e3 e4
  rw[e2];exact⟨by omega,.inl (by rw[AC e2];rfl),λg k=>by simp[blk]at k⟩
 injection e1 with e1 e5 e6
 subst e1
 exact⟨e5,.inr ⟨g,rfl,e4⟩,λg' k=>by
  unfold blk at k
  split at k
  ·cases k
  simp at k;subst k;exact⟨e2,e4.lt⟩⟩
theorem Cq(W S L T H F R U O:Int)(a:Option Addr)(rs:List Pr)(c:Nat)(a2:Option Addr)(b:List Ch)(c2:Nat)(w:World)(h:Prs w a rs)(hl:rs.length<=1048576)(hs:∀x∈rs,x.1.size<=1048576/\x.2.size<=1048576)(h2:Chs w a2 b)(bW:b.length<=1048576)(aP:∀x∈b,x.1.size<=1048576/\x.2.1.size<=1048576):Calls prog 108 #[LV W S L T H F R U O a rs.length c,.slice a2 b.length c2] w λx w'=>RO w w' x (RU W S L T H F R U O rs b):=by
 obtain⟨i0,cO,cX,cY,cZ⟩:=UP oO;have HI:=LE (AG cO (AG cX (AG cY cZ)));clear cO cX cY cZ;have bE:=LE (λw' h'=>fg W S L T H F R U O a rs c w' h' hl hs);have cL:=LE (λw' h'=>io a2 b c2 w' h' bW aP);have aS:=LE (λw' h' dU=>qR a rs c a2 b c2 w' h' hl hs dU bW aP);unfold WG LR at aS;have dV:=jn rs b;have cI:=LE (ua rs b (λx=>x.1.size<=1048576/\x.2.size<=1048576) hs aP);obtain⟨D,HD⟩:∃D,Hid (D=RU W S L T H F R U O rs b):=⟨_,LE rfl⟩;rw[<-HD.o];have hD:=HD.o;unfold RU at hD;clear HD;obtain⟨A1,cH⟩:∃A1,Hid (A1=OR rs b):=⟨_,LE rfl⟩;obtain⟨C1,dF⟩:∃C1,Hid (C1=OQ rs b):=⟨_,LE rfl⟩;rw[<-cH.o]at dV cI;rw[<-cH.o,<-dF.o]at aS hD;have HG:=LE h;have aZ:=LE h2;have dP:=LE aP;clear h h2 hs aP;unfold LV at bE⊢;have aT:=LE hD;clear hD;go_enter func108,ntmps108;go_upto_region 1 with fail;generalize aJ:w.alloc _=v1;obtain⟨bP,aR,b1⟩:=LJ aJ;clear aJ;generalize aK:v1.alloc _=v2
 obtain⟨bQ,cE,b2⟩:=LJ aK;clear aK;rw[aR]at b2;have B0:StB w v2 (sJ W S L T H F R U O (.slice a rs.length c)) (λ_=>True):=⟨bP.j (bQ.i bP.size),(b1.I bQ).l,b2.l,SX (λ_=>trivial)⟩;have l2:w.heap.size+1<v2.heap.size:=b2.l.lt;clear bP bQ b1 b2 aR cE;refine BA ?_;refine AN rfl 50 _ rfl w.heap.size 0 rfl _ _ B0.r1.range underlying50 rfl OH ?_;simp only[PS];go_wp2_with fail;refine(bE.o _ (HG.o.I B0.e)).i ?_;rintro x v3 ⟨rfl,hb⟩;replace B0:=B0.I hb;clear hb l2 bE
 cases hok:OF W S L T H F R U O rs
 focus
  obtain rfl:D=LT 1:=by rw[aT.o,AE (by rw[hok];simp)]
 rotate_left
 focus
  go_wp2_with fail;refine(cL.o _ (aZ.o.I B0.e)).i ?_;rintro x v4 ⟨rfl,hb⟩;replace B0:=B0.I hb;clear hb cL
  cases hokb:OA b
  focus
   obtain rfl:D=LT 1:=by rw[aT.o,AE (by rw[hokb];simp)]
  rotate_left
  focus
   obtain⟨hW,hS,eC,hT,hH,hF,hU,hO,_⟩:=ca hok;have hQ:=PH hS;have hD:=aT.o;rw[AK (by rw[hok,hokb];rfl)]at hD;clear hok hokb aT;have HH:=LE (λw'=>VA S w');have HB:=LE (λw'=>ka S H hH.1 hH.2 w');obtain⟨n,rfl⟩:∃n:Nat,W=(n:Int):=⟨W.toNat,by omega⟩;have en:(n:Int).toNat=n:=by omega
   rw[en]at hD;obtain⟨m,hm⟩:∃m,m=56-n:=⟨_,rfl⟩;rw[<-hm]at hD;have cP:n+m=56:=by omega
   clear en hm;have HF:=LE (λw' h'=>YW a2 b c2 w' h' bW dP.o);have eE:=XT b;have aY:=LE (λw'=>pL (LX b) L (F+U) n m w' (by omega) cP (by omega) (by omega));have cQ:=qU (LX b).size (n:Int) (by omega) (by omega);have cN:=pM (LX b) L (F+U) n m cP (by omega) (by omega) eC (by omega);obtain⟨Q,HQ⟩:∃Q,Hid (Q=hv S):=⟨_,LE rfl⟩;obtain⟨N,HN⟩:∃N,Hid (N=OB (LX b).size (n:Int)):=⟨_,LE rfl⟩;obtain⟨bo,aF⟩:∃bo,bo=LX b:=⟨_,rfl⟩;obtain⟨aA,hcut⟩:∃aA,aA=NQ (LX b) L (F+U) n m:=⟨_,rfl⟩;have bV:(aA.length:Int)=N:=by rw[hcut,HN.o];exact cN (by omega)
   rw[<-hcut]at aY hD;rw[<-aF]at HF aY eE cQ;rw[<-aF]at HN;rw[<-HN.o]at cQ;rw[<-HQ.o]at hQ hU HH HB hD;rw[<-aF,<-HN.o]at hD;clear cN hcut aF;obtain⟨q,hq⟩:∃q,q=2+H*Q:=⟨_,rfl⟩
   have eV:2<=q/\q<=101:=by
    rcases(show H=0\/H=1 by omega) with e|e
    ·subst e;omega
    subst e;omega
   rw[<-hq]at HB hD;clear hq;obtain⟨r,dN⟩:∃r,Hid (r=MH (MN A1) (n:Int)):=⟨_,LE rfl⟩;have bC:=LE (λa' c' w' h'=>jg a' A1 c' (n:Int) w' h' (by omega) cI.o);have eM:=YQ (MN A1) (n:Int);have eX:=WX A1;rw[<-dN.o]at bC eM hD;have HD:=LE hD;clear hD;have eY:IntKind.i64.wrap (Q-1)=Q-1:=by simp[IntKind.wrap,IntKind.bits,IntKind.signed];omega
   have eZ:IntKind.i64.wrap (Q-U)=Q-U:=by simp[IntKind.wrap,IntKind.bits,IntKind.signed];omega
   have fA:IntKind.i64.wrap (F+U)=F+U:=by simp[IntKind.wrap,IntKind.bits,IntKind.signed];omega
   have c9:=B0.r1.x 9;have cl:=B0.r1.lt;go_wp2_with fail;clear c9 cl;refine(aS.o _ (HG.o.I B0.e) (aZ.o.I B0.e)).i ?_;rintro x v5 ⟨a5,c5,rfl,eF,ho,hg,hb⟩;have l4:=B0.r2.lt;have dA:=PG (lo:=v4.heap.size) ho QG hg
   have eO:∀g,blk a5 A1.length=some g->g<v5.heap.size:=λg k=>XJ ho k
   replace B0:=B0.I hb;clear hb aS ho;go_upto_region 4 with fail;generalize aL:v5.alloc _=v6;obtain⟨hb,cF,b5⟩:=LJ aL;clear aL;have r5:=b5.l;obtain⟨X5,bF⟩:∃k,k=v5.heap.size:=⟨_,rfl⟩;rw[<-bF]at r5⊢;have l5:w.heap.size+1<X5:=by rw[bF];exact B0.r2.lt
   replace B0:=B0.I hb;replace dA:=dA.I hb;have fH:v5.heap.size<=v6.heap.size:=hb.size;clear hb b5 cF bF;generalize Value.tuple _=T0;generalize Value.agg _=A0
   try generalize Value.agg _=A9
   by_cases hC:C1=0
   case neg =>
    obtain rfl:D=LT 2:=by rw[HD.o,AE hC]
    have eS:(C1 == 0)=false:=by simp[hC]
    go_upto_region 5 with fail;refine B0.noR 2 _ _ rfl (by go_simp) rfl rfl rfl rfl (λy R8 aD=>?_)
    try simp only[PS]
    clear B0
    try go_wp2
    refine RN 4 results108 _ ?_ R8 ?_ aD.o<;>rfl
   have eP:=LE hC;subst hC;have c0:=B0.r1.x 0;have c1:=B0.r1.x 1;have cl:=B0.r1.lt;have t0:=r5.x 0;have tl:=r5.lt;go_wp2_with (go_at_call 103;refine(HH.o _).i ?_;refine MT ?_);clear c0 c1 cl t0 tl;refine(bC.o _ _ _ dA.l.prsA).i ?_;rintro x v7 ⟨rfl,hb⟩;replace B0:=B0.I hb;replace dA:=dA.I hb;replace r5:=r5.I hb;clear hb bC
   by_cases hr:r<=Q-1
   case neg =>
    obtain rfl:D=LT 3:=by rw[HD.o,AK trivial,AE hr]
    have eW:Q-1<r:=by omega
    go_upto_region 8 with fail;refine B0.noR 3 _ _ rfl (by go_simp) rfl rfl rfl rfl (λy R8 aD=>?_)
    try simp only[PS]
    clear B0
    try go_wp2
    refine RN 4 results108 _ ?_ R8 ?_ aD.o<;>rfl
   go_upto_region 9 with fail;have dD:=(AB v7.heap.size v7).drew;refine AP (S:=λw'=>Row w' w.heap.size (sJ (n:Int) S L T H F R U O (.slice a rs.length c))) (by kernel_rfl) (B0.r1.I dD) (λaB=>?_);refine TY 0 (.slice a2 b.length c2) rfl aB (TK 2 (.pointer (some ⟨w.heap.size,2,none⟩)) rfl (BN ⟨by rfl,λw hw=>by obtain z0:=hw;have l:=hw.lt;go_simp⟩) aB (TK 3 (.int .i64 L) rfl (BN ⟨by rfl,λw hw=>by obtain z0:=hw;have c:=hw.x 2;go_simp⟩) aB (TK 4 (.pointer (some ⟨w.heap.size,3,none⟩)) rfl (BN ⟨by rfl,λw hw=>by obtain z0:=hw;have l:=hw.lt;go_simp⟩) aB (TK 5 (.pointer (some ⟨w.heap.size,5,none⟩)) rfl (BN ⟨by rfl,λw hw=>by obtain z0:=hw;have l:=hw.lt;go_simp⟩) aB (TK 6 (.int .i64 F) rfl (BN ⟨by rfl,λw hw=>by obtain z0:=hw;have c:=hw.x 5;go_simp⟩) aB (TK 7 (.pointer (some ⟨w.heap.size,7,none⟩)) rfl (BN ⟨by rfl,λw hw=>by obtain z0:=hw;have l:=hw.lt;go_simp⟩) aB (TK 8 (.int .i64 U) rfl (BN ⟨by rfl,λw hw=>by obtain z0:=hw;have c:=hw.x 7;go_simp⟩) aB (TY 9 (.int .i64 (F+U)) rfl aB (TK 10 (.pointer (some ⟨w.heap.size,0,none⟩)) rfl (BN ⟨by rfl,λw hw=>by obtain z0:=hw;have l:=hw.lt;go_simp⟩) aB (TK 11 (.int .i64 (n:Int)) rfl (BN ⟨by rfl,λw hw=>by obtain z0:=hw;have c:=hw.x 0;go_simp⟩) aB ?_))))))))))
   simp only[PS];refine RD 1 rfl (λKq aC=>?_);refine LK (by rfl) 148 #[.slice a2 b.length c2] (by go_simp) (HF.o _ ((aZ.o.I B0.e).I dD)) ?_;rintro e y1 ⟨rfl,hb⟩;refine⟨_,rfl,?_⟩;replace dD:=dD.j (hb.i dD.size);clear hb;refine aC.o _ _ (B0.r1.I dD) (λdZ=>?_)
   try simp only[PS]
   refine RD 12 rfl (λKq aC=>?_);refine LK (by rfl) 158 #[.string bo,.int .i64 L,.int .i64 (F+U),.int .i64 (n:Int)] (by go_simp) (aY.o _) ?_;rintro e u2 ⟨a8,c8,rfl,cS,aU,hb⟩;refine⟨_,rfl,?_⟩;have dC:=PG (lo:=v7.heap.size) cS (λh e=>h (by rw[AC e];rfl)) (λg k=>AL dD.size (aU g k));replace dD:=dD.j (hb.i dD.size);clear hb cS aU;refine aC.o _ _ (B0.r1.I dD) (λaN=>?_)
   try simp only[PS]
   refine RD 13 rfl (λKq aC=>?_);go_simp;refine aC.o _ _ aN (λ_=>?_)
   try simp only[PS]
   refine DN ?_;replace B0:=B0.I dD;replace dA:=dA.I dD;replace r5:=r5.I dD;clear dD
   by_cases hp:N<=Q-U
   case neg =>
    obtain rfl:D=LT 4:=by rw[HD.o,AK trivial,AK hr,AE hp]
    have eK:Q-U<(aA.length:Int):=by omega
    have c7:=B0.r1.x 7;have cl:=B0.r1.lt;go_upto_region 11 with fail;refine B0.noR 4 _ _ rfl (by go_simp) rfl rfl rfl rfl (λy R8 aD=>?_)
    try simp only[PS]
    clear B0
    try go_wp2
    refine RN 4 results108 _ ?_ R8 ?_ aD.o<;>rfl
   have eK:(aA.length:Int)<=Q-U:=by omega
   obtain rfl:D=⟨0,(n:Int),S,L,T,H,F,R,U+(aA.length:Int),O+(aA.length:Int),A1,MG (q+U) aA⟩:=by rw[HD.o,AK trivial,AK hr,AK hp,bV]
   have fF:=B0.r2.lt;have fG:=dA.top;have q:=c10 B0.r1;have t0:=r5.x 0;have tl:=r5.lt;go_wp2_with fail;clear q t0 tl;generalize aM:u2.alloc _=w8;obtain⟨bT,aH,b8⟩:=LJ aM;clear aM;have b7:=DM w8 (base:=u2.heap.size+1) (e:=122) (size:=3) #[] 0 (by omega) (by simp) (by simp);rw[aH]at b7;have cT:Row _ u2.heap.size (sJ (n:Int) S L T H F R U O (.slice a5 A1.length c5)):=(b8.I (kn w8 (.cells #[] 122))).l;have cM:=bT.j ((kn w8 (.cells #[] 122)).i bT.size)
   try rw[aH]
   clear b8 bT;go_loopw [10,11] (λy i wr=>∃k:Nat,k<=aA.length/\i=.int .i64 (k:Int)/\Row wr u2.heap.size (sJ (n:Int) S L T H F R (U+(k:Int)) (O+(k:Int)) (.slice a5 A1.length c5))/\wr.ownsRow (u2.heap.size+1) 122 3 y k (MW (MG (q+U) (aA.take k)))/\Below u2.heap.size u2 wr) (λ_ i _=>aA.length-(intOf i).toNat)
   case atStart =>
    exact⟨0,AH _,rfl,by simpa using cT,by simpa[MG,MW] using b7,cM⟩
   case round =>
    clear cT b7 cM aH;obtain⟨k,hk,rfl,aW,aI,aO⟩:=hrel;have aQ:=aW.lt;replace B0:=B0.I aO;replace dA:=dA.I aO
    obtain⟨ya,yc,rfl⟩:∃ya yc,u10=Value.slice ya k yc:=by
     rcases MM aI with ⟨e1,e2⟩|⟨g,cap,e1,_⟩
     ·exact⟨none,0,by rw[e1,e2]⟩
     exact⟨_,cap,e1⟩
    have eU:(k:Int)<=N:=by omega
    by_cases aV:k<aA.length
    ·obtain⟨g8,rfl,cB⟩:=dC.l.resolve_left (by intro e;have:=BT List.length e;simp at this;rw[this]at aV;simp at aV)
     have aU:=cB.lt;have bU:=cB.cell k (.string (aA.getD k ByteArray.empty)) (by simp[aV,List.getD]);obtain⟨pk,cA⟩:∃pk,pk=aA.getD k ByteArray.empty:=⟨_,rfl⟩;rw[<-cA]at bU;have eH:(k:Int)<(aA.length:Int):=by omega
     have eT:(0:Int)<=(k:Int):=by omega
     have fB:IntKind.i64.wrap (q+(U+(k:Int)))=q+(U+(k:Int)):=by simp[IntKind.wrap,IntKind.bits,IntKind.signed];omega
     have fC:IntKind.i64.wrap (U+(k:Int)+1)=U+(k:Int)+1:=by simp[IntKind.wrap,IntKind.bits,IntKind.signed];omega
     have fE:IntKind.i64.wrap (O+(k:Int)+1)=O+(k:Int)+1:=by simp[IntKind.wrap,IntKind.bits,IntKind.signed];omega
     have dL:=LE cA
     have HK:Hid (∀W,Below (u2.heap.size+1) wr W->Row W w.heap.size (sJ (n:Int) S L T H F R U O (.slice a rs.length c))/\Row W u2.heap.size (sJ (n:Int) S L T H F R (U+(k:Int)) (O+(k:Int)) (.slice a5 A1.length c5))/\W.cell? ⟨g8,k,none⟩=some (.string pk)):=λW hb=>⟨(B0.low hb (by omega)).r1,aW.below2 (N:=u2.heap.size+1) (by omega) hb,(hb.cell (p:=⟨g8,k,none⟩) (by show g8<_;omega)).j ((aO.cell (p:=⟨g8,k,none⟩) aU).j bU)⟩
     clear cA cB bU;go_upto_region 18 with fail;have dE:=(AB wr.heap.size wr).drew;refine AP (S:=λw'=>Row w' w.heap.size (sJ (n:Int) S L T H F R U O (.slice a rs.length c))/\Row w' u2.heap.size (sJ (n:Int) S L T H F R (U+(k:Int)) (O+(k:Int)) (.slice a5 A1.length c5))/\w'.cell? ⟨g8,k,none⟩=some (.string pk)) (by kernel_rfl) (HK.o _ (dE.i aQ)) (λaB=>?_);refine TY 0 (.slice ya k yc) rfl aB (TK 1 (.pointer (some ⟨w.heap.size,1,none⟩)) rfl (BN ⟨by rfl,λw hw=>by obtain⟨z0,z1,z2⟩:=hw;have l:=z0.lt;go_simp⟩) aB (TK 2 (.int .i64 S) rfl (BN ⟨by rfl,λw hw=>by obtain⟨z0,z1,z2⟩:=hw;have c:=z0.x 1;go_simp⟩) aB (TK 3 (.pointer (some ⟨w.heap.size,3,none⟩)) rfl (BN ⟨by rfl,λw hw=>by obtain⟨z0,z1,z2⟩:=hw;have l:=z0.lt;go_simp⟩) aB (TK 4 (.pointer (some ⟨w.heap.size,4,none⟩)) rfl (BN ⟨by rfl,λw hw=>by obtain⟨z0,z1,z2⟩:=hw;have l:=z0.lt;go_simp⟩) aB (TK 5 (.int .i64 H) rfl (BN ⟨by rfl,λw hw=>by obtain⟨z0,z1,z2⟩:=hw;have c:=z0.x 4;go_simp⟩) aB (TK 7 (.pointer (some ⟨u2.heap.size,7,none⟩)) rfl (BN ⟨by rfl,λw hw=>by obtain⟨z0,z1,z2⟩:=hw;have l:=z1.lt;go_simp⟩) aB (TK 8 (.int .i64 (U+(k:Int))) rfl (BN ⟨by rfl,λw hw=>by obtain⟨z0,z1,z2⟩:=hw;have c:=z1.x 7;go_simp⟩) aB (TY 10 (.slice (some ⟨g8,0,none⟩) aA.length c8) rfl aB (TY 11 (.int .i64 (k:Int)) rfl aB (TY 12 (.pointer (some ⟨g8,k,none⟩)) rfl aB (TY 13 (.string pk) rfl aB ?_)))))))))))
     simp only[PS];refine RD 6 rfl (λKq aC=>?_);refine LK (by rfl) 151 #[.int .i64 S,.int .i64 H] (by go_simp) (HB.o _) ?_;rintro e wz ⟨rfl,cV⟩;refine⟨_,rfl,?_⟩;rw[cV];clear cV wz;refine aC.o _ _ aB (λ_=>?_)
     try simp only[PS]
     refine TY 9 (.int .i64 (q+(U+(k:Int)))) rfl aB ?_;simp only[PS];refine RD 14 rfl (λKq aC=>?_);refine LK (by rfl) 155 #[.int .i64 (q+(U+(k:Int))),.string pk] (by go_simp) (ch _ _ _) ?_;rintro e w4 ⟨rfl,hb⟩;refine⟨_,rfl,?_⟩;replace dE:=dE.j (hb.i dE.size);have cJ:=LE ((LY aI dE).alloc (.cells #[.bool false,.int .i64 (q+(U+(k:Int))),.string pk] 122));have cU:u2.heap.size+1<=w4.heap.size:=AL aQ dE.size;clear hb;refine aC.o _ _ (HK.o _ (dE.i aQ)) (λaN=>?_)
     try simp only[PS]
     refine RD 15 rfl (λKq aC=>?_);go_simp;refine aC.o _ _ (HK.o _ ((dE.i aQ).alloc cU _)) (λeB=>?_)
     try simp only[PS]
     refine RD 16 rfl (λKq aC=>?_);refine QO _ (by rfl) _ _ _ (by rfl) (u2.heap.size+1) underlying116 HI.o rfl (by omega) (.slice ya k yc) k _ (by rfl) cJ.o ⟨w4.heap.size,0,none⟩ 1 1 [.bool false,.int .i64 (q+(U+(k:Int))),.string pk] (by rfl) rfl (World.news_of_block (AY w4 _)) (WD _ _ _) (by simp<;>omega) (w4.heap.size+1) (by simp) ?_;intro g9 dQ w5 aG aE bJ eI;have aX:=LE (((dE.i aQ).alloc cU _).j (WA aE (by simp;omega) (λj hj=>(aI.lt j hj).1)));have dH:=LE aG;clear aG aE bJ;refine aC.o _ _ (HK.o _ aX.o) (λbI=>?_)
     try simp only[PS]
     refine RD 17 rfl (λKq aC=>?_);go_simp;refine aC.o _ _ bI (λ_=>?_)
     try simp only[PS]
     refine DN ?_;have R5:=(HK.o _ aX.o).2.1;have fI:=R5.x 7;have fJ:=R5.x 8;have eQ:=R5.q 7;have eR:=R5.q 8;have l5:=R5.lt;have dM:=LE R5;have dB:=LE aO;clear R5 aI aW aO dE cJ B0 dA dC;go_wp2_with fail;have eN:MG (q+U) (aA.take (k+1))=MG (q+U) (aA.take k)++[(false,q+(U+(k:Int)),pk)]:=by rw[XL aA k ByteArray.empty aV,qq,<-dL.o,BC,show min k aA.length=k by omega,Int.add_assoc]
     refine⟨⟨k+1,by omega,by go_num,?_,?_,?_⟩,by simp[intOf];omega⟩
     ·rw[show U+((k+1:Nat):Int)=U+(k:Int)+1 by omega,show O+((k+1:Nat):Int)=O+(k:Int)+1 by omega]
      exact(dM.o.set 7 (by simp) (.int .i64 (U+(k:Int)+1))).set 8 (by simp) (.int .i64 (O+(k:Int)+1))
     ·rw[eN,cu]
      exact pq dH.o (λb h1 h2=>by rw[BD _ _ _ b (by show b≠u2.heap.size;omega),BD _ _ _ b (by show b≠u2.heap.size;omega)])
     exact((dB.o.j (aX.o.i (by omega))).setCell (p:=⟨u2.heap.size,7,none⟩) (AA _) _).setCell (p:=⟨u2.heap.size,8,none⟩) (AA _) _
    have eG:k=aA.length:=by omega
    subst eG;rw[DC]at aI;go_upto_region 21 with fail;refine BA ?_;refine AN rfl 50 _ rfl u2.heap.size 0 rfl _ _ aW.range underlying50 rfl OH ?_;simp only[PS];refine TD rfl (.slice ya aA.length yc) (by go_simp) ?_;simp only[PS];refine TD rfl (.agg (dK 0 (n:Int) S L T H F R (U+(aA.length:Int)) (O+(aA.length:Int)) (.slice a5 A1.length c5) (.slice ya aA.length yc))) (by go_simp) ?_;simp only[PS];refine BI rfl 118 _ _ rfl (w.heap.size+1) 0 (dK 0 (n:Int) S L T H F R (U+(aA.length:Int)) (O+(aA.length:Int)) (.slice a5 A1.length c5) (.slice ya aA.length yc)) rfl rfl (B0.r2.there rfl) RK (by kernel_rfl) ?_
    try simp only[PS]
    have eL:=QC (q+U) aA;obtain⟨_,eJ,cC⟩:=Ey (os:=MG (q+U) aA) (by rw[eL];exact aI)
    have cW:=λg k=>(cC g k).1
    obtain⟨R8,HP⟩:=B0.fin ⟨0,(n:Int),S,L,T,H,F,R,U+(aA.length:Int),O+(aA.length:Int),A1,MG (q+U) aA⟩ a5 c5 ya yc eF ⟨dA.l,eJ,XI (N:=u2.heap.size) (λg k=>by have:=eO g k;omega) (λg k=>by have:=cW g k;omega)⟩ (λg k=>by have:=hg g k;omega) (λg k=>by have:=cW g k;omega);have aD:=LE HP;clear HP;simp only[SL,QC]at R8 aD;generalize dR:World.setCells _ _ _ _=y at R8 aD⊢;clear dR B0
    try go_wp2
    refine RN (D:=⟨0,(n:Int),S,L,T,H,F,R,U+(aA.length:Int),O+(aA.length:Int),A1,MG (q+U) aA⟩) 4 results108 (a:=a5) (c:=c5) (b:=ya) (e:=yc) _ ?_ (by simp only[SL,QC];exact R8) ?_ aD.o<;>rfl
 rotate_left
 all_goals
  go_upto_region 2 with fail;refine B0.noR 1 _ _ rfl (by go_simp) rfl rfl rfl rfl (λy R8 aD=>?_)
  try simp only[PS]
  clear B0
  try go_wp2
  refine RN 4 results108 _ ?_ R8 ?_ aD.o<;>rfl
end
section
open Tryz
open Go.RowKit Go.ChangeShapes Go.WideShapes Go.Deep Go.Joins
variable {cs:List Value}{n:Nat}
section
variable {H:Type} {enc:TypeId×Value->H} {w:World} {base:Nat} {spare:Nat->Bool} {XbJ:Bool}
theorem xI{P:Program}{t:TypeId}{f0 f1:Field}{x:DataW H×List MemPlace}(hs:P.underlying t=some (.struct #[f0,f1]))(o0:f0.offset=0)(o1:f1.offset=1)(k0:P.cellsOf f0.type=1)(k1:P.cellsOf f1.type=1)(hC:P.cellsOf t=2)(h:DataW.trod enc P w base spare XbJ n t cs=some x):∃(c0 c1:Value) (y0 y1:DataW H×List MemPlace) (m:Nat),cs=[c0,c1]/\DataW.trod enc P w base spare XbJ m f0.type [c0]=some y0/\DataW.trod enc P w base spare XbJ m f1.type [c1]=some y1:=by
 obtain⟨xs,m,_,_,hl,aA,hf⟩:=FL hs h;rw[hC]at hl
 match cs,hl,xs,aA with
 | [c0,c1],_,[y0,y1],_ =>
  have g0:=hf 0 f0 rfl;rw[o0,k0]at g0;have g1:=hf 1 f1 rfl;rw[o1,k1]at g1;exact⟨c0,c1,y0,y1,m,rfl,g0,g1⟩
theorem s6{P:Program}{t:TypeId}{f0 f1 f2 f3 f4 f5:Field}{x:DataW H×List MemPlace}(hs:P.underlying t=some (.struct #[f0,f1,f2,f3,f4,f5]))(o0:f0.offset=0)(o1:f1.offset=1)(o2:f2.offset=3)(o3:f3.offset=4)(o4:f4.offset=14)(o5:f5.offset=15)(k0:P.cellsOf f0.type=1)(k1:P.cellsOf f1.type=2)(k2:P.cellsOf f2.type=1)(k3:P.cellsOf f3.type=10)(k4:P.cellsOf f4.type=1)(k5:P.cellsOf f5.type=1)(hC:P.cellsOf t=16)(h:DataW.trod enc P w base spare XbJ n t cs=some x):∃(c0 c1 c2 c3 c4 c5 c6 c7 c8 c9 c10 aA c12 aB aC aD:Value) (y0 y1 y2 y3 y4 y5:DataW H×List MemPlace) (m:Nat),cs=[c0,c1,c2,c3,c4,c5,c6,c7,c8,c9,c10,aA,c12,aB,aC,aD]/\DataW.trod enc P w base spare XbJ m f0.type [c0]=some y0/\DataW.trod enc P w base spare XbJ m f1.type [c1,c2]=some y1/\DataW.trod enc P w base spare XbJ m f2.type [c3]=some y2/\DataW.trod enc P w base spare XbJ m f3.type [c4,c5,c6,c7,c8,c9,c10,aA,c12,aB]=some y3/\DataW.trod enc P w base spare XbJ m f4.type [aC]=some y4/\DataW.trod enc P w base spare XbJ m f5.type [aD]=some y5:=by
 obtain⟨xs,m,_,_,hl,aE,hf⟩:=FL hs h;rw[hC]at hl
 match cs,hl,xs,aE with
 | [c0,c1,c2,c3,c4,c5,c6,c7,c8,c9,c10,aA,c12,aB,aC,aD],_,[y0,y1,y2,y3,y4,y5],_ =>
  have g0:=hf 0 f0 rfl;rw[o0,k0]at g0;have g1:=hf 1 f1 rfl;rw[o1,k1]at g1;have g2:=hf 2 f2 rfl;rw[o2,k2]at g2;have g3:=hf 3 f3 rfl;rw[o3,k3]at g3;have g4:=hf 4 f4 rfl;rw[o4,k4]at g4;have g5:=hf 5 f5 rfl;rw[o5,k5]at g5;exact⟨c0,c1,c2,c3,c4,c5,c6,c7,c8,c9,c10,aA,c12,aB,aC,aD,y0,y1,y2,y3,y4,y5,m,rfl,g0,g1,g2,g3,g4,g5⟩
theorem pH:prog.cellsOf 9=1:=by kernel_rfl
theorem Fy:prog.cellsOf 155=2:=by kernel_rfl
theorem A4:prog.cellsOf 30=1:=by kernel_rfl
theorem xQ{x:DataW H×List MemPlace}(h:DataW.trod enc prog w base spare XbJ n 25 cs=some x):∃a ss c a' ws c',cs=[.slice a ss.length c,.slice a' (List.length ws) c']/\Strs w a ss/\ss.length<=maxLen/\(∀s∈ss,s.size<=maxLen)/\Wrs w a' ws/\ws.length<=maxLen/\(∀s∈ws,s.2.size<=maxLen):=by
 obtain⟨c0,c1,y0,y1,m,rfl,g0,g1⟩:=xI underlying25 rfl rfl (by kernel_rfl) (by kernel_rfl) (by kernel_rfl) h;obtain⟨a,ss,c,rfl,h1,h2,h3⟩:=zu underlying22 underlying9 pH g0;obtain⟨a',ws,c',rfl,k1,k2,k3,_⟩:=Dk underlying23 underlying155 Fy rfl rfl (by kernel_rfl) (by kernel_rfl) underlying3 underlying9 g1;exact⟨a,ss,c,a',ws,c',rfl,h1,h2,h3,k1,k2,k3⟩
theorem yV{v:Value}{x:DataW H×List MemPlace}(h:DataW.trod enc prog w base spare XbJ n 4 [v]=some x):∃b,v=.bool b:=by
 obtain⟨z,e,_⟩:=DataW.trod_bool underlying4 h;simp at e;exact⟨z,e⟩
theorem Iw{aE:Nat}{v:Value}{x:DataW H×List MemPlace}(h:DataW.trod enc prog w base spare XbJ aE 33 [v]=some x):∃a P c,v=.slice a (List.length P) c/\Pst w a P/\P.length<=maxLen/\(∀rs∈P,rs.length<=maxLen/\∀s∈rs,s.1.size<=maxLen/\s.2.size<=maxLen):=by
 rcases open_slice underlying33 h with ⟨aC,_⟩|⟨a,aA,cap,m,n,D,Pl,aC,hb,hl,hm,aH,_,hx⟩
 ·simp at aC
  exact⟨none,[],0,by simpa using aC,.inl rfl,by simp,by simp⟩
 simp at aC
 have aJ:aA<=m:=by rw[aH];split<;>omega
 have aD:∀i,i<aA->∃q:List (ByteArray×ByteArray)×Option Addr×Nat,w.cell? (a.add i)=some (.slice q.2.1 q.1.length q.2.2)/\Prs w q.2.1 q.1/\q.1.length<=maxLen/\(∀s∈q.1,s.1.size<=maxLen/\s.2.size<=maxLen):=by
  intro i hi;obtain⟨aI,h1,h2⟩:=hx i (by omega);rw[A4]at h1;obtain⟨_,aG,aB⟩:=KP h1;obtain⟨p,rs,c,rfl,k1,k2,k3⟩:=rq h2;have e0:=aB 0 (by omega);rw[add_add]at e0;exact⟨(rs,p,c),by simpa using e0,k1,k2,k3⟩
 obtain⟨q,hq⟩:=choose_lt aD;have e1:((List.range aA).map λi=>(q i).1).length=aA:=by simp
 refine⟨some a,(List.range aA).map λi=>(q i).1,cap,by rw[e1];exact aC,?_,by omega,λrs hs=>?_⟩
 ·by_cases h0:aA=0
  ·exact .inl (by subst h0;simp)
  have aF:=(hq 0 (by omega)).1
  obtain⟨b,o,rfl⟩:=ZX aF ⟨_,aF⟩;have hb:=BE w _ aF;rw[UB]at hb;refine .inr ⟨b,o,rfl,hb,λi hi=>?_⟩;rw[e1]at hi;obtain⟨h0,h1,_⟩:=hq i hi;rw[UB]at h0;have eg:((List.range aA).map λi=>(q i).1).getD i []=(q i).1:=by simp[List.getD,hi]
  rw[eg];exact⟨_,_,h0,h1⟩
 obtain⟨i,hi,rfl⟩:=CE.1 hs
 exact(hq i (by simpa using hi)).2.2
theorem vL{y:DataW H×List MemPlace}(h:DataW.trod enc prog w base spare XbJ n 35 cs=some y):∃(x:Wo) (q:Wp),MD x q=.agg cs.toArray/\x.at w q/\x.le maxLen:=by
 obtain⟨c0,c1,c2,c3,c4,c5,c6,c7,c8,c9,c10,aA,c12,aB,aC,aD,y0,y1,y2,y3,y4,y5,m,rfl,g0,g1,g2,g3,g4,g5⟩:=s6 underlying35 rfl rfl rfl rfl rfl rfl (by kernel_rfl) (by kernel_rfl) (by kernel_rfl) (by kernel_rfl) (by kernel_rfl) (by kernel_rfl) (by kernel_rfl) h;obtain⟨wd,rfl⟩:=TV g0;obtain⟨a,ss,c,a',ws,c',e1,h1,l1,s1,h2,l2,s2⟩:=xQ g1;obtain⟨up,rfl⟩:=yV g2;obtain⟨W,S,L,T,Hh,F,R,U,O,s,rs,cs,e3,h3,l3,s3⟩:=Gw g3;obtain⟨p,P,cp,rfl,h4,l4,s4⟩:=Iw g4;obtain⟨t,ts,ct,rfl,h5,l5,s5⟩:=zu underlying22 underlying9 pH g5;simp only[KW,and_true]at e1 e3;obtain⟨rfl,rfl⟩:=e1;obtain⟨rfl,rfl,rfl,rfl,rfl,rfl,rfl,rfl,rfl,rfl⟩:=e3;exact⟨⟨wd,ss,ws,up,W,S,L,T,Hh,F,R,U,O,rs,P,ts⟩,⟨a,c,a',c',s,cs,p,cp,t,ct⟩,rfl,⟨h1,h2,h3,h4,h5⟩,⟨l1,s1,l2,s2,l3,s3,l4,s4,l5,s5⟩⟩
end
