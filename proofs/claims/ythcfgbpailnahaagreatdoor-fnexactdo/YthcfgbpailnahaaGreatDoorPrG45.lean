import Derived.Test.YthcfgbpailnahaaGreatDoorPrG44
import Derived.Test.YthcfgbpailnahaaGreatDoorPrG38
set_option maxHeartbeats 16000000
set_option maxRecDepth 8000
set_option linter.all false
namespace Go.Proofs.YthcfgbpailnahaaGreatDoor
open _root_.ByteArray(empty)
open Tryz
open Go.RowKit
variable {base:Nat}{w w':World}
theorem pq{e:TypeId}{s:Nat}{v:Value}{n:Nat}{xs:List Value}(h:w.ownsRow base e s v n xs)(hk:∀b,base<=b->b<w.heap.size->w'.heap[b]?=w.heap[b]?):w'.ownsRow base e s v n xs:=by
 refine⟨h.1,?_⟩;rcases h.2 with hn|⟨g,cap,cur,rfl,hb,aB,aA⟩
 ·exact .inl hn
 exact .inr ⟨g,cap,cur,rfl,hb,(hk g hb (AS.1 aB).1).j aB,aA⟩
theorem Bat.span{v:Value}{aA:List (List Ch)}(h:Bat w base v aA)(hk:∀b,base<=b->b<w.heap.size->w'.heap[b]?=w.heap[b]?):Bat w' base v aA:=by
 obtain⟨vs,h1,h2,h3⟩:=h;exact⟨vs,pq h1 hk,λi hi=>pq (h2 i hi) hk,h3⟩
theorem sD(q:Int)(l r:List ByteArray):MG q (l++r)=MG q l++MG (q+(l.length:Int)) r:=by
 unfold MG;rw[List.mapIdx_append]
 congr 1
 apply KT
 ·simp
 intro i h1 h2
 simp;omega
theorem Row.below2{N g:Nat}{cs:List Value}(h:Row w g cs)(hg:g<N)(hb:Below N w w'):Row w' g cs :=⟨AD h.lt hb.size,λi v hv=>(hb.cell (p:=⟨g,i,none⟩) hg).j (h.cell i v hv),λi hi=>(hb.frozen (p:=⟨g,i,none⟩) hg).j (h.froz i hi)⟩
def un(w w':World)(x:Ending)(d:Dd)(a:Option Addr)(c:Nat):Prop:=∃b e,x=.returned (MQ d a c b e)/\d.ops.length<=e/\OwnS w' b (MW d.ops)/\(∀g,blk b d.ops.length=some g->w.heap.size<=g)/\Below w.heap.size w w'
theorem Ec(S L T H F R U O:Int)(n m:Nat)(a:Option Addr)(rs:List Pr)(c:Nat)(w:World)(h:Prs w a rs)(hc:rs.length<=c)(hl:rs.length<=1048576)(hs:∀x∈rs,x.1.size<=1048576/\x.2.size<=1048576)(hm:n+m=56)(eS:1<=n)(eT:n<=8)(gS:VX (n:Int) S L T H F rs)(aZ:T+1<=1000000000/\F+hv S<=999999000):Calls prog 127 #[LV (n:Int) S L T H F R U O a rs.length c] w λx w'=>un w w' x (WO (n:Int) S L T H F rs) a c:=by
 obtain⟨hW,hS,hL,hT,hH,hF,aG⟩:=gS;have hQ:=PH hS;have cZ:=LE (λw'=>yj T H F R S L w' (by omega) (by omega) (by omega) (by omega) (by omega) (by omega));have eV:SD (T+1) (1-H) (F+hv S) L=true:=by unfold SD;simp;omega
 have cQ:=LE (λw'=>kc (T+1) (1-H) (F+hv S) L w');rw[eV]at cQ;have aQ:=LE (λw'=>im (n:Int) S L (T+1) (1-H) (F+hv S) L 0 0 a rs.length c w' (by omega) (by omega) (by omega) (by omega) (by omega) (by omega));unfold WO;unfold LV at aQ⊢;have e1:(n:Int).toNat=n:=by omega
 have e2:56-n=m:=by omega
 rw[e1,e2];obtain⟨Q,HQ⟩:∃Q,Hid (Q=hv S):=⟨_,LE rfl⟩;rw[<-HQ.o]at hQ cZ cQ aQ aG aZ⊢;obtain⟨q,hq⟩:∃q,q=2+(1-H)*Q:=⟨_,rfl⟩
 have iR:2<=q/\q<=101:=by
  rcases(show H=0\/H=1 by omega) with e|e
  ·subst e;omega
  subst e;omega
 rw[<-hq]at aQ⊢;simp only[Int.add_zero]at aQ;clear hq e1 e2 eV;obtain⟨iI,iJ⟩:=aZ;obtain⟨aB,aH⟩:∃aB,aB=MN rs:=⟨_,rfl⟩;have gG:=WX rs
 have fO:Hid (∀b∈aB,b.length<=1048576/\∀x∈b,x.1.size<=1048576/\x.2.1.size<=1048576):=by
  intro b hb;rw[aH]at hb;obtain⟨h1,h2⟩:=fu hb;exact⟨by omega,λx hx=>hs _ (h2 x hx)⟩
 have cY:=LE (λw' h'=>yg a rs c w' h' hc hl hs);have aU:=LE (λk=>ew L (F+Q) n m hm eS eT (aB.take k))
 have aK:Hid (∀k,MH (aB.take k) (n:Int)<=Q-1):=λk=>by
  have:=xt aB k (n:Int);rw[<-aH]at aG;omega
 rw[<-aH]at gG cY⊢;clear aH aG;have eC:Hid (Below w.heap.size w ((w.alloc (.cells (sK (n:Int) S L T H F R U O (.slice a rs.length c)) 50)).alloc (.cells (dK 0 0 0 0 0 0 0 0 0 0 (.slice none 0 0) (.slice none 0 0)) 118))):=(LG _ _).alloc (by simp) _;go_enter func127,ntmps127;go_wp2_with fail;refine(cZ.o _).i ?_;rintro e w1 ⟨rfl,cS⟩;have r0:=((ME w (sK (n:Int) S L T H F R U O (.slice a rs.length c)) 50).alloc (.cells (dK 0 0 0 0 0 0 0 0 0 0 (.slice none 0 0) (.slice none 0 0)) 118)).I cS;have r1:=(ZF (w:=w.alloc (.cells (sK (n:Int) S L T H F R U O (.slice a rs.length c)) 50)) (A:=(dK 0 0 0 0 0 0 0 0 0 0 (.slice none 0 0) (.slice none 0 0))) (t:=118) (g:=w.heap.size+1) (by simp)).I cS;have eE:=LE (eC.o.j (cS.i (by simp;omega)));obtain⟨bJ,bP,bQ,bT,bU,bV,bW,b7,cA,cB⟩:=r0.k10;have cC:=r0.q 0;have cE:=r0.q 1;have cF:=r0.q 2;have cH:=r0.q 3
 have cI:=r0.q 4;have cJ:=r0.q 5;have cL:=r0.q 6;have cM:=r0.q 7;have cN:=r0.q 8;have cO:=r0.q 9;have aJ:=LE r0;have aL:=LE r1;clear r0 r1 cS;go_wp2_with fail;refine(cQ.o _).i ?_;rintro e w2 ⟨rfl,cT⟩;clear bJ cC bP cE bQ cF bT cH bU cI bV cJ bW cL b7 cM cA cN cB cO;have r0:=((((aJ.o.set 3 (by simp) _).set 4 (by simp) _).set 5 (by simp) _).set 6 (by simp) _).I cT;have r1:=((((aL.o.other ⟨w.heap.size,3,none⟩ (by show w.heap.size≠_;omega) _).other ⟨w.heap.size,4,none⟩ (by show w.heap.size≠_;omega) _).other ⟨w.heap.size,5,none⟩ (by show w.heap.size≠_;omega) _).other ⟨w.heap.size,6,none⟩ (by show w.heap.size≠_;omega) _).I cT;have dM:=((((eE.o.setCell (p:=⟨w.heap.size,3,none⟩) (AA _) (.int .i64 (T+1))).setCell (p:=⟨w.heap.size,4,none⟩) (AA _) (.int .i64 (1-H))).setCell (p:=⟨w.heap.size,5,none⟩) (AA _) (.int .i64 (F+Q))).setCell (p:=⟨w.heap.size,6,none⟩) (AA _) (.int .i64 L))
 have eF:=LE (dM.j (cT.i dM.size));simp only[CI,CZ]at r0;clear cT dM eE aJ aL;obtain⟨bJ,bP,bQ,bT,bU,bV,bW,b7,cA,cB⟩:=r0.k10;have cC:=r0.q 0;have cE:=r0.q 1;have cF:=r0.q 2;have cH:=r0.q 3;have cI:=r0.q 4;have cJ:=r0.q 5;have cL:=r0.q 6;have cM:=r0.q 7;have cN:=r0.q 8;have cO:=r0.q 9;have aJ:=LE r0;have aL:=LE r1;clear r0 r1;go_wp2_with fail;clear bJ cC bP cE bQ cF bT cH bU cI bV cJ bW cL b7 cM cA cN cB cO;obtain⟨w3,bE⟩:∃w3,w3=(w2.setCell ⟨w.heap.size,7,none⟩ (.int .i64 0)).setCell ⟨w.heap.size,8,none⟩ (.int .i64 0):=⟨_,rfl⟩;have r0:Row w3 (w.heap.size) (sJ (n:Int) S L (T+1) (1-H) (F+Q) L 0 0 (.slice a rs.length c)):=by rw[bE];exact(aJ.o.set 7 (by simp) _).set 8 (by simp) _
 have r1:Row w3 (w.heap.size+1) (dJ 0 0 0 0 0 0 0 0 0 0 (.slice none 0 0) (.slice none 0 0)):=by rw[bE];exact(aL.o.other ⟨w.heap.size,7,none⟩ (by show w.heap.size≠_;omega) _).other ⟨w.heap.size,8,none⟩ (by show w.heap.size≠_;omega) _
 have eN:Below w.heap.size w w3:=by rw[bE];exact(eF.o.setCell (p:=⟨w.heap.size,7,none⟩) (AA _) _).setCell (p:=⟨w.heap.size,8,none⟩) (AA _) _
 rw[<-bE];clear bE aJ aL eF;refine(aQ.o _).i ?_;rintro e w4 ⟨g,rfl,hW,dH⟩;have iK:=hW.ge;have iL:=hW.row.lt;have gV:=dH.size;have HW:=LE hW;have eB:=LE dH;have aJ:=LE r0;have aL:=LE r1;have cP:=LE eN;have cU:=r0.lt;have dQ:=r1.lt;clear hW dH r0 r1 eN aQ cZ cQ eC;go_wp2_with fail;refine(zW w3.heap.size g _ _ q (F+Q) L (n:Int) _ HW.o gV (by simp) (by omega) (by omega) (by omega) (by omega)).i ?_;rintro e w5 ⟨rfl,dB,⟨v5,dF,fA⟩,dL⟩;have aF:Below w3.heap.size w3 w5:=eB.o.j dL;have r0:=aJ.o.I aF;have x9:=r0.x 9;have iS:=dL.size;have iH:=dB.lt;clear r0;go_wp2_with fail;clear x9;refine(cY.o _ (h.I (cP.o.j (aF.i cP.o.size)))).i ?_;rintro e w6 ⟨v6,rfl,aM,aW⟩;obtain⟨va,vc,rfl,_⟩:=aM.bts;have iT:=aW.size;have fH:=LE aM;have fI:=LE (dB.I aW);have eG:=LE fA
 have eU:∀k,v5.ownBlock=some k->k<w5.heap.size:=λk hk=>(dF.own.lt k hk).2
 have fQ:=LE eU;have fU:=LE (dF.I aW);have fG:=LE (aF.j (aW.i aF.size));clear aM dB fA eU dF aW dL aF cY HW eB;go_wp2_with fail;go_loopw [30] (λi wr=>∃k:Nat,k<=aB.length/\i=.int .i64 (k:Int)/\∃v',Wrt wr w3.heap.size g v' (MG q (OD L (F+Q) n m (aB.take k))) (q+((OD L (F+Q) n m (aB.take k)).length:Int)) (F+Q+((OD L (F+Q) n m (aB.take k)).length:Int)) L (n:Int)/\Below w3.heap.size w3 wr/\WK g w6 v5 wr v') (λi _=>aB.length-(intOf i).toNat)
 case atStart =>
  refine⟨0,AH _,rfl,v5,?_,fG.o,WK.start _ _ _⟩;rw[FE,gi];have e0:MG q [MP 3 L (F+Q) empty (n:Int)]=[]++[(false,q,MP 3 L (F+Q) empty (n:Int))]:=by simp[MG]
  rw[e0];exact fU.o
 case round =>
  obtain⟨k,hk,rfl,v',hW,aN,aS⟩:=hrel;have hN:((OD L (F+Q) n m (aB.take k)).length:Int)<=99:=by have h1:=aU.o k;have h2:=aK.o k;omega
  obtain⟨aA,aD⟩:∃aA,aA=OD L (F+Q) n m (aB.take k):=⟨_,rfl⟩;rw[<-aD]at hW hN;have eZ:w3.heap.size<=wr.heap.size:=aN.size
  by_cases dR:k<aB.length
  ·have eO:=fH.o.span (w':=wr) (λb h1 h2=>aS.blk b h2 (by omega) (λe=>by have:=fQ.o b e.symm;omega))
   obtain⟨iV,iW,ev,eP⟩:=eO.bts
   cases ev
   obtain⟨gl,p,cc,rfl,gJ,gH,dN⟩:=eP.at dR;have gR:(k:Int)<(aB.length:Int):=by omega
   have iO:(0:Int)<=(k:Int):=by omega
   have aI:=fO.o (aB.getD k []) (by simp[List.getD,dR]);have gE:((OD L (F+Q) n m (aB.take (k+1))).length:Int)<=99:=by have h1:=aU.o (k+1);have h2:=aK.o (k+1);omega
   have cV:OD L (F+Q) n m (aB.take (k+1))=aA++NQ (LX (aB.getD k [])) L (F+Q+(aA.length:Int)) n m:=by rw[XL aB k [] dR,re,<-aD]
   obtain⟨b,hb⟩:∃b,b=aB.getD k []:=⟨_,rfl⟩;rw[<-hb]at gH dN aI cV;rw[cV,AF]at gE;have fT:=LE (Dc w3.heap.size g w4.heap.size v' (MG q aA) (q+(aA.length:Int)) (F+Q+(aA.length:Int)) L n m p b cc wr hW (fI.o.wk aS (by omega) (λe=>eG.o _ e.symm rfl)) (by omega) (λe=>by rcases aS.own _ e.symm with h1|h1;exact eG.o _ h1 rfl;omega) dN aI.1 aI.2 eZ (by rw[QC];omega) hm eS eT (by omega) (by omega) (by omega) (by omega));have fS:=LE cV;have cW:=LE aN;have fV:=LE aS;clear hb cV aD aI dN aN eO eP aS hW;go_wp2_with (go_at_call 214;refine fT.o.i ?_;rintro e w7 ⟨⟨x,rfl⟩,v7,aV,gF,dV⟩);refine⟨⟨k+1,by omega,by go_num,v7,?_,cW.o.j gF,fV.o.j dV⟩,by simp[intOf];omega⟩;rw[fS.o,sD,AF];have e1:q+((aA.length+(NQ (LX b) L (F+Q+(aA.length:Int)) n m).length:Nat):Int)=q+(aA.length:Int)+((NQ (LX b) L (F+Q+(aA.length:Int)) n m).length:Int):=by omega
   have e2:F+Q+((aA.length+(NQ (LX b) L (F+Q+(aA.length:Int)) n m).length:Nat):Int)=F+Q+(aA.length:Int)+((NQ (LX b) L (F+Q+(aA.length:Int)) n m).length:Int):=by omega
   rw[e1,e2];exact aV
  have gQ:k=aB.length:=by omega
  subst gQ;have he:aA=OD L (F+Q) n m aB:=by rw[aD,DC]
  clear aD;have fF:=LE he;obtain⟨ya,yc,rfl⟩:=hW.sl;rw[QC]at hW;have y0:=hW.row.x 0;have r0:=aJ.o.I aN;have r1:=aL.o.I aN;have iN:=hW.row.lt;obtain⟨bJ,bP,bQ,bT,bU,bV,bW,b7,cA,cB⟩:=r0.k10;have cC:=r0.q 0;have cE:=r0.q 1;have cF:=r0.q 2;have cH:=r0.q 3;have cI:=r0.q 4;have cJ:=r0.q 5;have cL:=r0.q 6;have cM:=r0.q 7;have cN:=r0.q 8;have cO:=r0.q 9;have eI:=LE hW;have cW:=LE aN;have eJ:=LE r0;have eK:=LE r1;clear hW aN r0 r1 aS he;go_wp2_with fail;clear bJ cC bP cE bQ cF bT cH bU cI bV cJ bW cL b7 cM cA cN cB cO;clear y0;obtain⟨w7,bF⟩:∃w7,w7=wr.setCell ⟨w.heap.size,7,none⟩ (.int .i64 (aA.length:Int)):=⟨_,rfl⟩;rw[<-bF];have aV:=eI.o.set w.heap.size 7 cU (.int .i64 (aA.length:Int));have r0:=eJ.o.set 7 (by simp) (.int .i64 (aA.length:Int));have r1:=eK.o.other ⟨w.heap.size,7,none⟩ (by show w.heap.size≠_;omega) (.int .i64 (aA.length:Int))
  have eQ:Below w.heap.size w w7:=by rw[bF];exact(cP.o.j (cW.o.i cP.o.size)).setCell (p:=⟨w.heap.size,7,none⟩) (AA _) _
  have eW:w3.heap.size<=w7.heap.size:=by rw[bF];simpa[World.setCell] using eZ
  simp only[CI,CZ]at r0;rw[<-bF]at aV r0 r1;clear bF eJ eK eI;refine(ia w3.heap.size g _ _ _ _ _ _ _ aV eW (by rw[QC];omega)).i ?_;rintro e w8 ⟨⟨x8,rfl⟩,⟨v8,eL⟩,aX⟩;have dZ:=r0.below2 cU aX;have fC:=r1.below2 dQ aX;have eX:w3.heap.size<=w8.heap.size:=AL eW aX.size;obtain⟨x0,x1,x2,x3,x4,x5,x6,x7,x8,x9⟩:=dZ.k10;have eH:=LE eL;clear eL;go_wp2_with fail;refine(vZ w3.heap.size g _ _ _ _ _ _ _ _ _ _ _ eH.o eX (by simp[QC];omega) (by omega)).i ?_;rintro e w9 ⟨⟨iX,rfl⟩,⟨v9,eM⟩,aY⟩;clear x0 x1 x2 x3 x4 x5 x6 x7 x8 x9;have fB:=dZ.below2 cU aY;have fE:=fC.below2 dQ aY;have eY:w3.heap.size<=w9.heap.size:=AL eX aY.size;go_wp2_with fail;refine(ia w3.heap.size g _ _ _ _ _ _ _ eM eY (by simp[QC];omega)).i ?_;rintro e aT ⟨⟨gW,rfl⟩,⟨iU,aC⟩,aE⟩;have bI:=fB.below2 cU aE;have aP:=fE.below2 dQ aE;have gU:w3.heap.size<=aT.heap.size:=AL eY aE.size
  have eR:Below w.heap.size w aT:=((eQ.j (aX.i (by omega))).j (aY.i (by omega))).j (aE.i (by omega));have fJ:=LE eR;obtain⟨za,zc,rfl⟩:=aC.sl;have aO:(MG q aA++[(true,0,empty)]++[(false,(T+1) % 2,ON (T+1) (1-H) (F+Q) L (n:Int))]++[(true,0,empty)]).length=aA.length+3:=by simp[QC]
  obtain⟨go,cap,dP,ez,gM,gN,bC⟩:∃go cap,aA.length+3<=cap/\Value.slice za (MG q aA++[(true,0,empty)]++[(false,(T+1) % 2,ON (T+1) (1-H) (F+Q) L (n:Int))]++[(true,0,empty)]).length zc=Value.slice (some ⟨go,0,none⟩) (aA.length+3) cap/\w3.heap.size<=go/\go<aT.heap.size/\Row aT go (MW (MG q aA++[(true,0,empty)]++[(false,(T+1) % 2,ON (T+1) (1-H) (F+Q) L (n:Int))]++[(true,0,empty)])):=by
   rcases MM aC.own with ⟨e1,e2⟩|⟨g,cap,e1,e2,e3,e4⟩
   ·simp at e2
   exact⟨g,cap,by have:=jc aC.own;injection e1 with _ _ e;omega,by rw[e1,aO],e2,e3,e4⟩
  have y0:=aC.row.x 0;rw[ez]at y0;have gI:=aC.row.lt;have iM:w.heap.size≠g:=by omega
  have gK:w.heap.size+1≠g:=by omega
  have gL:¬g=w.heap.size+1:=by omega
  obtain⟨x0,x1,x2,x3,x4,x5,x6,x7,x8,x9⟩:=bI.k10;obtain⟨d0,d1,d2,d3,d4,d5,d6,d7,d8,d9,fW,fX⟩:=aP.k12;obtain⟨gX,gY,gZ,iA,iB,iC,iD,iE,iF,iG,fY,fZ⟩:=aP.z12;have iP:w.heap.size<aT.heap.size:=by omega
  have iQ:w.heap.size+1<aT.heap.size:=by omega
  have cX:=LE bC;clear aC aE aY aX eQ eR eM aV r0 r1 dZ fC fB fE bI aP eH bC ez;go_wp2_with fail;refine AP (S:=λw'=>w'.cell? ⟨w.heap.size,0,none⟩=some (.int .i64 (n:Int))/\w'.cell? ⟨w.heap.size,1,none⟩=some (.int .i64 S)/\w'.cell? ⟨w.heap.size,2,none⟩=some (.int .i64 L)/\w'.cell? ⟨w.heap.size,3,none⟩=some (.int .i64 (T+1))/\w'.cell? ⟨w.heap.size,4,none⟩=some (.int .i64 (1-H))/\w'.cell? ⟨w.heap.size,5,none⟩=some (.int .i64 (F+Q))/\w'.cell? ⟨w.heap.size,6,none⟩=some (.int .i64 L)/\w'.cell? ⟨w.heap.size,7,none⟩=some (.int .i64 (aA.length:Int))/\w'.cell? ⟨w.heap.size,8,none⟩=some (.int .i64 0)/\w'.cell? ⟨w.heap.size,9,none⟩=some (.slice a rs.length c)/\w'.cell? ⟨g,0,none⟩=some (.slice (some ⟨go,0,none⟩) (aA.length+3) cap)) (by kernel_rfl) (⟨by go_simp,by go_simp,by go_simp,by go_simp,by go_simp,by go_simp,by go_simp,by go_simp,by go_simp,by go_simp,by go_simp⟩) (λaR=>?_);refine TY 0 (.agg (sK (n:Int) S L (T+1) (1-H) (F+Q) L (aA.length:Int) 0 (.slice a rs.length c))) rfl aR (TY 1 (.pointer (some ⟨g,0,none⟩)) rfl aR (TY 2 (.pointer (some ⟨g,0,none⟩)) rfl aR (TY 3 (.pointer (some ⟨g,0,none⟩)) rfl aR (TY 4 (.slice (some ⟨go,0,none⟩) (aA.length+3) cap) rfl aR (TY 5 (.agg #[.int .i64 0,.int .i64 (n:Int),.int .i64 S,.int .i64 L,.int .i64 (T+1),.int .i64 (1-H),.int .i64 (F+Q),.int .i64 L,.int .i64 (aA.length:Int),.int .i64 0,.slice a rs.length c,.slice (some ⟨go,0,none⟩) (aA.length+3) cap]) rfl aR ?_)))))
  simp only[PS];refine RD 6 rfl (λK hK=>?_);go_simp;refine hK.o _ _ (⟨by go_simp,by go_simp,by go_simp,by go_simp,by go_simp,by go_simp,by go_simp,by go_simp,by go_simp,by go_simp,by go_simp⟩) (λgD=>?_);clear hK K
  try simp only[PS]
  refine DN ?_;go_wp2;rw[<-fF.o];have dU:MG q aA++[(true,0,empty),(false,(T+1) % 2,ON (T+1) (1-H) (F+Q) L (n:Int)),(true,0,empty)]=(MG q aA++[(true,0,empty)]++[(false,(T+1) % 2,ON (T+1) (1-H) (F+Q) L (n:Int))]++[(true,0,empty)]):=by simp
  rw[dU];refine AJ (v:=MQ ⟨0,(n:Int),S,L,T+1,1-H,F+Q,L,(aA.length:Int),0,rs,(MG q aA++[(true,0,empty)]++[(false,(T+1) % 2,ON (T+1) (1-H) (F+Q) L (n:Int))]++[(true,0,empty)])⟩ a c (some ⟨go,0,none⟩) cap) (by simp[results,results127,go_sem,MQ,QC,d0,d1,d2,d3,d4,d5,d6,d7,d8,d9,fW,fX]) rfl ⟨_,cap,rfl,by rw[aO];exact dP,?_,?_,?_⟩
  ·refine .inr ⟨go,rfl,?_⟩
   refine Row.drew ?_
   iterate 12(refine Row.other ?_ _ (by show w.heap.size+1≠go;omega) _)
   exact cX.o
  ·exactλg hg=>by change blk _ (MG q aA++[(true,0,empty)]++[(false,(T+1) % 2,ON (T+1) (1-H) (F+Q) L (n:Int))]++[(true,0,empty)]).length=_ at hg;rw[aO,MI _ _ _ (by omega)]at hg;cases hg;omega
  refine Below.drew ?_
  iterate 12(refine IB ?_ (by show w.heap.size<=w.heap.size+1;omega) _)
  exact fJ.o
theorem tD(W S L T H F R U O:Int)(a:Option Addr)(rs:List Pr)(c:Nat)(w:World)(aR:VX W S L T H F rs)(aA:¬(T+1<=1000000000/\F+hv S<=999999000)):Calls prog 127 #[LV W S L T H F R U O a rs.length c] w λx w'=>x=.returned (MQ (LT 4) none 0 none 0)/\Below w.heap.size w w':=by
 obtain⟨hW,hS,hL,hT,hH,hF,aJ⟩:=aR;have hQ:=PH hS;have aH:=LE (λw'=>yj T H F R S L w' (by omega) (by omega) (by omega) (by omega) (by omega) (by omega))
 have aI:SD (T+1) (1-H) (F+hv S) L=false:=by
  refine ac _ _ _ _ ?_
  by_cases h1:T+1<=1000000000
  ·exact .inr (.inr (.inr (by omega)))
  exact .inl (by omega)
 have aC:=LE (λw'=>kc (T+1) (1-H) (F+hv S) L w');rw[aI]at aC;unfold LV;obtain⟨Q,HQ⟩:∃Q,Hid (Q=hv S):=⟨_,LE rfl⟩;rw[<-HQ.o]at hQ aH aC aA;clear aI aA;have aK:Hid (Below w.heap.size w ((w.alloc (.cells (sK W S L T H F R U O (.slice a rs.length c)) 50)).alloc (.cells (dK 0 0 0 0 0 0 0 0 0 0 (.slice none 0 0) (.slice none 0 0)) 118))):=(LG _ _).alloc (by simp) _;go_enter func127,ntmps127;go_wp2_with fail;refine(aH.o _).i ?_;rintro e w1 ⟨rfl,aB⟩;have r0:=((ME w (sK W S L T H F R U O (.slice a rs.length c)) 50).alloc (.cells (dK 0 0 0 0 0 0 0 0 0 0 (.slice none 0 0) (.slice none 0 0)) 118)).I aB;have r1:=(ZF (w:=w.alloc (.cells (sK W S L T H F R U O (.slice a rs.length c)) 50)) (A:=(dK 0 0 0 0 0 0 0 0 0 0 (.slice none 0 0) (.slice none 0 0))) (t:=118) (g:=w.heap.size+1) (by simp)).I aB;have aF:=LE (aK.o.j (aB.i (by simp;omega)));have aM:=LE r0;have aG:=LE r1
 obtain⟨aS,aT,aU,aV,aW,aX,aY,aZ,bC,bE⟩:=r0.k10;have bF:=r0.q 0;have bI:=r0.q 1;have bJ:=r0.q 2;have bP:=r0.q 3;have bQ:=r0.q 4;have bT:=r0.q 5;have bU:=r0.q 6;have bV:=r0.q 7;have bW:=r0.q 8;have b7:=r0.q 9;clear r0 r1 aB;go_wp2_with fail;refine(aC.o _).i ?_;rintro e w2 ⟨rfl,aD⟩;clear aS bF aT bI aU bJ aV bP aW bQ aX bT aY bU aZ bV bC bW bE b7;have r1:=((((aG.o.other ⟨w.heap.size,3,none⟩ (by show w.heap.size≠_;omega) _).other ⟨w.heap.size,4,none⟩ (by show w.heap.size≠_;omega) _).other ⟨w.heap.size,5,none⟩ (by show w.heap.size≠_;omega) _).other ⟨w.heap.size,6,none⟩ (by show w.heap.size≠_;omega) _).I aD;have aE:=((((aF.o.setCell (p:=⟨w.heap.size,3,none⟩) (AA _) (.int .i64 (T+1))).setCell (p:=⟨w.heap.size,4,none⟩) (AA _) (.int .i64 (1-H))).setCell (p:=⟨w.heap.size,5,none⟩) (AA _) (.int .i64 (F+Q))).setCell (p:=⟨w.heap.size,6,none⟩) (AA _) (.int .i64 L))
 have aL:=LE (aE.j (aD.i aE.size));obtain⟨d0,d1,d2,d3,d4,d5,d6,d7,d8,d9,aN,aO⟩:=r1.k12;obtain⟨cA,cB,cC,cE,cF,cH,cI,cJ,cL,cM,aP,aQ⟩:=r1.z12;have cN:=r1.lt;clear aD aE aF aM aG r1;go_wp2_with fail;refine AJ (v:=MQ (LT 4) none 0 none 0) (by simp[results,results127,go_sem,MQ,LT,d0,d1,d2,d3,d4,d5,d6,d7,d8,d9,aN,aO]) rfl ⟨rfl,?_⟩
 iterate 12(refine IB ?_ (by show w.heap.size<=w.heap.size+1;omega) _)
 exact aL.o
theorem Gb(W S L T H F R U O:Int)(a:Option Addr)(rs:List Pr)(c:Nat)(w:World)(h0:0<=H/\H<=1)(f0:1<=F/\F<=999999000)(u0:0<=U/\U<=99):Calls prog 128 #[LV W S L T H F R U O a rs.length c] w λx w'=>un w w' x ⟨0,W,S,L,T,H,F,R,U+1,O,rs,[(false,2+H*hv S+U,MP 3 L (F+U) empty W),(true,0,empty)]⟩ a c:=by
 have hQ:0<=hv S/\hv S<=99:=by by_cases h:8<=S/\S<=200;have:=PH h;omega;rw[WE h];omega
 have aW:=LE (λw'=>im W S L T H F R U O a rs.length c w' h0.1 h0.2 f0.1 f0.2 u0.1 u0.2);unfold LV at aW⊢;obtain⟨q,hq⟩:∃q,q=2+H*hv S:=⟨_,rfl⟩
 have eB:2<=q/\q<=101:=by
  rcases(show H=0\/H=1 by omega) with e|e
  ·subst e;omega
  subst e;omega
 rw[<-hq]at aW⊢;clear hq hQ;have eC:IntKind.i64.wrap (U+1)=U+1:=by simp[IntKind.wrap,IntKind.bits,IntKind.signed];omega
 go_enter func128,ntmps128;go_wp2_with fail;obtain⟨v0,e0⟩:∃x,x=(w.alloc (.cells (sK W S L T H F R U O (.slice a rs.length c)) 50)).alloc (.cells (dK 0 0 0 0 0 0 0 0 0 0 (.slice none 0 0) (.slice none 0 0)) 118):=⟨_,rfl⟩;have hE:Below w.heap.size w v0:=by rw[e0];exact(LG _ _).alloc (by simp) _
 have dP:w.heap.size+1+1<=v0.heap.size:=by rw[e0];simp
 have bS:Dep v0 w.heap.size (w.heap.size+1) (λW'=>Row W' w.heap.size (sJ W S L T H F R U O (.slice a rs.length c))):=by rw[e0];exact(Is w _ _).I (LG _ _)
 have bD:Dep v0 (w.heap.size+1) (w.heap.size+1+1) (λW'=>Row W' (w.heap.size+1) (dJ 0 0 0 0 0 0 0 0 0 0 (.slice none 0 0) (.slice none 0 0))):=by rw[e0];exact UU (ZF (w:=w.alloc _) (by simp)) (AA _) (by omega) (by simp)
 rw[<-e0];clear e0;refine(aW.o _).i ?_;rintro e v1 ⟨g,rfl,cH,hb⟩;have dQ:v0.heap.size<=v1.heap.size:=hb.size;have aB:=bS.I hb;clear bS;have bS:=aB;clear aB;have aA:=bD.I hb;clear bD;have bD:=aA;clear aA;have aC:=hE.j (hb.i hE.size);clear hE;have hE:=aC;clear aC;clear hb;have dV:=cH.ge;have cZ:=LE cH;clear cH;go_wp2_with fail;refine(ue v0.heap.size g _ [] (q+U) (F+U) L W _ cZ.o (by omega) (by simp) (by omega) (by omega) (by omega) (by omega)).i ?_;rintro e x1 ⟨⟨x,rfl⟩,v8,cY,aR,_⟩;have dR:=aR.size;have aB:=bS.low aR (by omega);clear bS;have bS:=aB;clear aB;have aA:=bD.low aR (by omega);clear bD;have bD:=aA;clear aA;have aC:=hE.j (aR.i (by omega));clear hE;have hE:=aC;clear aC;have cX:=LE cY;clear cY aR;go_wp2_with fail;refine(ia v0.heap.size g _ _ _ _ _ _ _ cX.o (by omega) (by simp)).i ?_;rintro e x2 ⟨⟨x9,rfl⟩,⟨v9,aF⟩,aS⟩;have dU:=aS.size;have aB:=bS.low aS (by omega);clear bS;have bS:=aB;clear aB
 have aA:=bD.low aS (by omega);clear bD;have bD:=aA;clear aA;have aC:=hE.j (aS.i (by omega));clear hE;have hE:=aC;clear aC;clear aS cX;simp only[DU,ED]at aF;obtain⟨ya,yc,rfl⟩:=aF.sl;simp only[BY,AR,Nat.reduceAdd]at aF;have y0:=aF.row.x 0;have yl:=aF.row.lt;have dZ:w.heap.size≠g:=by omega
 have dF:w.heap.size+1≠g:=by omega
 have dH:¬g=w.heap.size+1:=by omega
 have dL:¬g=w.heap.size:=by omega
 have aV:=LE aF;clear aF;obtain⟨cL,cM,cN,cO,cP,cQ,cS,cT,cU,cV⟩:=bS.l.k10;have bT:=bS.l.q 0;have bU:=bS.l.q 1;have bV:=bS.l.q 2;have bW:=bS.l.q 3;have b7:=bS.l.q 4;have cA:=bS.l.q 5;have cB:=bS.l.q 6;have cC:=bS.l.q 7;have cE:=bS.l.q 8;have cF:=bS.l.q 9;have cW:=bS.l.lt;obtain⟨aG,aH,aI,aJ,aK,aL,aM,aN,aO,aP,aD,aE⟩:=bD.l.k12;obtain⟨aX,aY,aZ,bC,bE,bF,bI,bJ,bP,bQ,aT,aU⟩:=bD.l.z12;have cJ:=bD.l.lt;go_wp2_with fail;refine AP (S:=λw'=>w'.cell? ⟨w.heap.size,0,none⟩=some (.int .i64 W)/\w'.cell? ⟨w.heap.size,1,none⟩=some (.int .i64 S)/\w'.cell? ⟨w.heap.size,2,none⟩=some (.int .i64 L)/\w'.cell? ⟨w.heap.size,3,none⟩=some (.int .i64 T)/\w'.cell? ⟨w.heap.size,4,none⟩=some (.int .i64 H)/\w'.cell? ⟨w.heap.size,5,none⟩=some (.int .i64 F)/\w'.cell? ⟨w.heap.size,6,none⟩=some (.int .i64 R)/\w'.cell? ⟨w.heap.size,7,none⟩=some (.int .i64 (U+1))/\w'.cell? ⟨w.heap.size,8,none⟩=some (.int .i64 O)/\w'.cell? ⟨w.heap.size,9,none⟩=some (.slice a rs.length c)/\w'.cell? ⟨g,0,none⟩=some (.slice ya 2 yc)) (by kernel_rfl) (⟨by go_simp,by go_simp,by go_simp,by go_simp,by go_simp,by go_simp,by go_simp,by go_simp,by go_simp,by go_simp,by go_simp⟩) (λaQ=>?_)
 refine TY 0 (.agg (sK W S L T H F R (U+1) O (.slice a rs.length c))) rfl aQ (TY 1 (.pointer (some ⟨g,0,none⟩)) rfl aQ (TY 2 (.pointer (some ⟨g,0,none⟩)) rfl aQ (TY 3 (.pointer (some ⟨g,0,none⟩)) rfl aQ (TY 4 (.slice ya 2 yc) rfl aQ (TY 5 (.agg (dK 0 W S L T H F R (U+1) O (.slice a rs.length c) (.slice ya 2 yc))) rfl aQ ?_)))));simp only[PS];refine RD 6 rfl (λK hK=>?_);go_simp;refine hK.o _ _ (⟨by go_simp,by go_simp,by go_simp,by go_simp,by go_simp,by go_simp,by go_simp,by go_simp,by go_simp,by go_simp,by go_simp⟩) (λdB=>?_);clear hK K
 try simp only[PS]
 refine DN ?_;go_wp2
 have cI:∀g,blk ya 2=some g->v0.heap.size<=g:=λg hg=>by
  unfold blk at hg
  split at hg
  ·cases hg
  cases ya with
  | none=>cases hg
  | some ad=>simp at hg;subst hg;exact(aV.o.own.lt ad.block rfl).1
 have dN:OwnS x2 ya (MW [(false,q+U,MP 3 L (F+U) empty W),(true,0,empty)]):=by
  rcases MM aV.o.own with ⟨_,e2⟩|⟨g,cap,e1,_,_,e4⟩
  ·simp at e2
  have e5:ya=some ⟨g,0,none⟩:=by injection e1
  subst e5;exact .inr ⟨g,rfl,e4⟩
 refine AJ (v:=MQ ⟨0,W,S,L,T,H,F,R,U+1,O,rs,[(false,q+U,MP 3 L (F+U) empty W),(true,0,empty)]⟩ a c ya yc) (by simp[results,results128,go_sem,MQ,aG,aH,aI,aJ,aK,aL,aM,aN,aO,aP,aD,aE]) rfl ⟨ya,yc,rfl,jc aV.o.own,?_,?_,?_⟩
 ·refine OwnS.drew' ?_
  iterate 12(refine OwnS.set' ?_ _ (λg hg dM=>by have:=cI g (by subst hg;exact MI _ _ _ (by omega));show w.heap.size+1≠g;omega) _)
  iterate 1(refine OwnS.set' ?_ _ (λg hg dM=>by have:=cI g (by subst hg;exact MI _ _ _ (by omega));show w.heap.size≠g;omega) _)
  exact dN
 ·exactλg hg=>by have:=cI g hg;omega
 refine Below.drew ?_
 iterate 12(refine IB ?_ (by show w.heap.size<=w.heap.size+1;omega) _)
 iterate 1(refine IB ?_ (by show w.heap.size<=w.heap.size;omega) _)
 exact hE
theorem oX(W S L T H F R U O:Int)(a:Option Addr)(n c:Nat)(w:World)(hU:0<=U)(aB:U<=100000):Calls prog 126 #[LV W S L T H F R U O a n c] w λe w'=>e=.returned (.int .i64 (hv S-U))/\Below w.heap.size w w':=by
 have hQ:0<=hv S/\hv S<=99:=by by_cases h:8<=S/\S<=200;have:=PH h;omega;rw[WE h];omega
 have HH:=LE (λw'=>ZI S w');obtain⟨Q,HQ⟩:∃Q,Hid (Q=hv S):=⟨_,LE rfl⟩;rw[<-HQ.o]at hQ HH⊢;have hw:IntKind.i64.wrap (Q-U)=Q-U:=by simp[IntKind.wrap,IntKind.bits,IntKind.signed];omega
 unfold LV;go_enter func126,ntmps126;go_wp2_with fail;refine AP (S:=λw'=>w'.cell? ⟨w.heap.size,1,none⟩=some (.int .i64 S)/\w'.cell? ⟨w.heap.size,7,none⟩=some (.int .i64 U)) (by kernel_rfl) (⟨by go_simp,by go_simp⟩) (λaA=>?_);refine TY 0 (.pointer (some ⟨w.heap.size,1,none⟩)) rfl aA (TY 1 (.int .i64 S) rfl aA (TY 3 (.pointer (some ⟨w.heap.size,7,none⟩)) rfl aA (TY 4 (.int .i64 U) rfl aA ?_)));simp only[PS];refine RD 2 rfl (λK hK=>?_);refine LK (by rfl) 123 #[.int .i64 S] (by go_simp) (HH.o _) ?_;rintro e wz ⟨rfl,rfl⟩;refine⟨_,rfl,?_⟩;refine hK.o _ _ aA (λ_=>?_);clear hK K
 try simp only[PS]
 refine TY 5 (.int .i64 (Q-U)) rfl aA ?_;simp only[PS];refine RD 6 rfl (λK hK=>?_);go_simp;refine hK.o _ _ aA (λ_=>?_);clear hK K
 try simp only[PS]
 refine DN ?_;go_wp2;go_ret;exact⟨rfl,(LG _ _).drew⟩
theorem ug{n yc:Nat}{ya:Option Addr}{os:List NM}(h:w.ownsRow base 122 3 (.slice ya n yc) os.length (MW os)):n=os.length/\OwnS w ya (MW os)/\∀g,blk ya os.length=some g->base<=g/\g<w.heap.size:=by
 rcases MM h with ⟨e1,e2⟩|⟨g,cap,e1,e2,e3,e4⟩
 ·injection e1 with e1 e3 e4
  rw[e2];exact⟨by omega,.inl (by rw[AC e2];rfl),λg k=>by simp[blk]at k⟩
 injection e1 with e1 e5 e6
 subst e1
 exact⟨e5,.inr ⟨g,rfl,e4⟩,λg' k=>by
  unfold blk at k
  split at k
  ·cases k
  simp at k;subst k;exact⟨e2,e4.lt⟩⟩
theorem Ia(W S L T H F R U O:Int)(a:Option Addr)(rs:List Pr)(c:Nat)(a2:Option Addr)(b:List Ch)(c2:Nat)(w:World)(h:Prs w a rs)(hc:rs.length<=c)(hl:rs.length<=1048576)(hs:∀x∈rs,x.1.size<=1048576/\x.2.size<=1048576)(h2:Chs w a2 b)(bC:b.length<=1048576)(aL:∀x∈b,x.1.size<=1048576/\x.2.1.size<=1048576):Calls prog 82 #[LV W S L T H F R U O a rs.length c,.slice a2 b.length c2] w λx w'=>ZM w w' x (RU W S L T H F R U O rs b):=by
 have aT:=LE (λw' h'=>fh W S L T H F R U O a rs c w' h' hc hl hs);have bU:=LE (λw' h'=>YY a2 b c2 w' h' bC aL);have aO:=LE (λw' h' cJ=>xz a rs c a2 b c2 w' h' hl hs cJ bC aL);unfold WG LR at aO;have cL:=jn rs b;have bT:=LE (ua rs b (λx=>x.1.size<=1048576/\x.2.size<=1048576) hs aL);obtain⟨D,HD⟩:∃D,Hid (D=RU W S L T H F R U O rs b):=⟨_,LE rfl⟩;rw[<-HD.o];have hD:=HD.o;unfold RU at hD;clear HD;obtain⟨A1,bQ⟩:∃A1,Hid (A1=OR rs b):=⟨_,LE rfl⟩;obtain⟨C1,cC⟩:∃C1,Hid (C1=OQ rs b):=⟨_,LE rfl⟩;rw[<-bQ.o]at cL bT;rw[<-bQ.o,<-cC.o]at aO hD;have HH:=LE h;have aS:=LE h2;have cF:=LE aL;clear h h2 hs aL;unfold LV at aT⊢;have aP:=LE hD;clear hD;go_enter func82,ntmps82;go_upto_region 1 with fail;generalize aH:w.alloc _=v1;obtain⟨aX,aN,b1⟩:=LJ aH;clear aH;generalize aI:v1.alloc _=v2;obtain⟨aY,bJ,b2⟩:=LJ aI;clear aI;rw[aN]at b2;have B0:StB w v2 (sJ W S L T H F R U O (.slice a rs.length c)) (λ_=>True):=⟨aX.j (aY.i aX.size),(b1.I aY).l,b2.l,SX (λ_=>trivial)⟩
 have l2:w.heap.size+1<v2.heap.size:=b2.l.lt;clear aX aY b1 b2 aN bJ;refine BA ?_;refine AN rfl 50 _ rfl w.heap.size 0 rfl _ _ B0.r1.range underlying50 rfl OH ?_;simp only[PS];go_wp2_with fail;refine(aT.o _ (HH.o.I B0.e)).i ?_;rintro x v3 ⟨rfl,hb⟩;replace B0:=B0.I hb;clear hb l2 aT
 cases hok:OF W S L T H F R U O rs
 focus
  obtain rfl:D=LT 1:=by rw[aP.o,AE (by rw[hok];simp)]
  go_upto_region 2 with fail;refine B0.noR 1 _ _ rfl (by go_simp) rfl rfl rfl rfl (λy R8 aB=>?_)
 rotate_left
 focus
  go_wp2_with fail;refine(bU.o _ (aS.o.I B0.e)).i ?_;rintro x v4 ⟨rfl,hb⟩;replace B0:=B0.I hb;clear hb bU
  cases hokb:OA b
  focus
   obtain rfl:D=LT 1:=by rw[aP.o,AE (by rw[hokb];simp)]
   go_upto_region 2 with fail;refine B0.noR 1 _ _ rfl (by go_simp) rfl rfl rfl rfl (λy R8 aB=>?_)
  rotate_left
  focus
   have hD:=aP.o;rw[AK (by rw[hok,hokb];rfl)]at hD;obtain⟨hW,hS,cN,hT,hH,hF,hU,hO,_⟩:=ca hok;have hQ:=PH hS;clear hok hokb aP;obtain⟨n,rfl⟩:∃n:Nat,W=(n:Int):=⟨W.toNat,by omega⟩;have en:(n:Int).toNat=n:=by omega
   rw[en]at hD;obtain⟨m,hm⟩:∃m,m=56-n:=⟨_,rfl⟩;rw[<-hm]at hD;have b7:n+m=56:=by omega
   clear en hm;have HF:=LE (λw' h'=>nr a2 b c2 w' h' bC cF.o);have cO:=XT b;have aR:=LE (λw'=>nc (LX b) (n:Int) w' (by omega));have cA:=qU (LX b).size (n:Int) (by omega) (by omega);have bW:=pM (LX b) L (F+U) n m b7 (by omega) (by omega) cN (by omega);have aF:=LE (λa' c' w' h' cP=>la (n:Int) S L T H F R U O a' A1 c' w' h' cP (by omega) bT.o);have aQ:=LE (λa' c' w'=>oX (n:Int) S L T H F R U O a' A1.length c' w' hU.1 (by omega));have aG:=LE (λa' c' w'=>im (n:Int) S L T H F R U O a' A1.length c' w' hH.1 hH.2 hF.1 hF.2 hU.1 (by omega));have aD:=LE (λbase g v os w' hW hb cQ=>oU base g v os (2+H*hv S+U) (F+U) L n m (LX b) w' hW hb (by omega) cQ b7 (by omega) (by omega) (by have:0<=H*hv S:=Int.mul_nonneg hH.1 (by omega);omega) (by rcases(show H=0\/H=1 by omega) with e|e<;>subst e<;>omega) (by omega) (by omega));unfold LV at aF aQ aG;obtain⟨Q,HQ⟩:∃Q,Hid (Q=hv S):=⟨_,LE rfl⟩
   obtain⟨N,HN⟩:∃N,Hid (N=OB (LX b).size (n:Int)):=⟨_,LE rfl⟩;obtain⟨bo,aC⟩:∃bo,bo=LX b:=⟨_,rfl⟩;obtain⟨aA,hcut⟩:∃aA,aA=NQ (LX b) L (F+U) n m:=⟨_,rfl⟩;have aK:(aA.length:Int)=N:=by rw[hcut,HN.o];exact bW (by omega)
   rw[<-hcut]at aD hD;rw[<-aC]at HF aR aD cO cA;rw[<-aC]at HN;rw[<-HN.o]at cA aR;rw[<-HQ.o]at hQ hU aF aQ aG aD hD;rw[<-aC,<-HN.o]at hD;clear bW hcut aC;obtain⟨q,hq⟩:∃q,q=2+H*Q:=⟨_,rfl⟩
   have cZ:2<=q/\q<=101:=by
    rcases(show H=0\/H=1 by omega) with e|e
    ·subst e;omega
    subst e;omega
   rw[<-hq]at aG aD hD;clear hq;obtain⟨r,cE⟩:∃r,Hid (r=MH (MN A1) (n:Int)):=⟨_,LE rfl⟩;rw[<-cE.o]at aF hD;have HD:=LE hD;have aZ:=LE aK;clear hD aK;have dB:IntKind.i64.wrap (U+N)=U+N:=by simp[IntKind.wrap,IntKind.bits,IntKind.signed];omega
   have dF:IntKind.i64.wrap (O+N)=O+N:=by simp[IntKind.wrap,IntKind.bits,IntKind.signed];omega
   have c9:=B0.r1.x 9;have cl:=B0.r1.lt;go_wp2_with fail;clear c9 cl;refine(aO.o _ (HH.o.I B0.e) (aS.o.I B0.e)).i ?_;rintro x v5 ⟨a5,c5,rfl,bV,ho,hg,hb⟩;have l4:=B0.r2.lt;have dA:=PG (lo:=v4.heap.size) ho QG hg;replace B0:=B0.I hb;clear hb aO ho;go_upto_region 4 with fail;generalize aJ:v5.alloc _=v6;obtain⟨hb,bP,b5⟩:=LJ aJ;clear aJ;have r5:=b5.l;obtain⟨X5,aU⟩:∃k,k=v5.heap.size:=⟨_,rfl⟩;rw[<-aU]at r5⊢;have l5:w.heap.size+1<X5:=by rw[aU];exact B0.r2.lt
   replace B0:=B0.I hb;replace dA:=dA.I hb;clear hb b5 bP aU;generalize Value.tuple _=T0;generalize Value.agg _=A0
   try generalize Value.agg _=A9
   by_cases hC:C1=0
   rotate_left
   focus
    obtain rfl:D=LT 2:=by rw[HD.o,AE hC]
    have cY:(C1 == 0)=false:=by simp[hC]
    go_upto_region 5 with fail;refine B0.noR 2 _ _ rfl (by go_simp) rfl rfl rfl rfl (λy R8 aB=>?_)
   rotate_left
   focus
    have cX:=LE hC;subst hC;have c0:=r5.x 0;have cH:=r5.lt;have c9:=B0.r1.x 9;have f9:=B0.r1.q 9;have cl:=B0.r1.lt;go_upto_region 7 with fail;clear c0 cH c9 f9 cl;replace B0:=B0.set 9 (by simp) (.slice a5 A1.length c5);replace dA:=dA.z (MC (BH v6 (some w.heap.size)) 9 (.slice a5 A1.length c5)) (λg e=>by cases e;omega);generalize aV:World.setCell _ _ _=v7 at B0 dA⊢;clear aV r5;go_wp2_with fail;refine(HF.o _ (aS.o.I B0.e)).i ?_;rintro x v8 ⟨rfl,hb⟩;replace B0:=B0.I hb;replace dA:=dA.I hb;clear hb HF;have c0:=B0.r1.x 0;have cl:=B0.r1.lt;go_wp2_with fail;clear c0 cl;refine(aR.o _).i ?_;rintro x v9 ⟨rfl,hb⟩;replace B0:=B0.I hb;replace dA:=dA.I hb;clear hb aR;go_upto_region 9 with fail;refine BA ?_;refine AN rfl 50 _ rfl w.heap.size 0 rfl _ _ B0.r1.range underlying50 rfl OH ?_;simp only[PS];go_wp2_with fail
    refine(aF.o _ _ _ dA.l.prs bV).i ?_;rintro x va ⟨rfl,hb⟩;replace B0:=B0.I hb;replace dA:=dA.I hb;clear hb aF
    by_cases hr:r<=Q-1
    rotate_left
    focus
     obtain rfl:D=LT 3:=by rw[HD.o,AK trivial,AE hr]
     rw[AI hr];go_upto_region 10 with fail;refine B0.noR 3 _ _ rfl (by go_simp) rfl rfl rfl rfl (λy R8 aB=>?_)
    rotate_left
    focus
     rw[AO hr];go_upto_region 11 with fail;refine BA ?_;refine TD rfl (.int .i64 N) (by go_simp) ?_;simp only[PS];refine AN rfl 50 _ rfl w.heap.size 0 rfl _ _ B0.r1.range underlying50 rfl OH ?_;simp only[PS];go_wp2_with fail;refine(aQ.o _ _ _).i ?_;rintro x vb ⟨rfl,hb⟩;replace B0:=B0.I hb;replace dA:=dA.I hb;clear hb aQ;have cW:=B0.r2.lt;have cU:=dA.top
     have cV:∀g,blk a5 A1.length=some g->g<vb.heap.size:=λg k=>XJ dA.l k
     by_cases hp:N<=Q-U
     rotate_left
     focus
      obtain rfl:D=LT 4:=by rw[HD.o,AK trivial,AK hr,AE hp]
      have cS:Q-U<N:=by omega
      go_upto_region 12 with fail;refine B0.noR 4 _ _ rfl (by go_simp) rfl rfl rfl rfl (λy R8 aB=>?_)
     rotate_left
     focus
      have cS:¬(Q-U<N):=by omega
      obtain rfl:D=⟨0,(n:Int),S,L,T,H,F,R,U+N,O+N,A1,MG (q+U) aA⟩:=by rw[HD.o,AK trivial,AK hr,AK hp]
      go_upto_region 13 with fail;refine BA ?_;refine AN rfl 50 _ rfl w.heap.size 0 rfl _ _ B0.r1.range underlying50 rfl OH ?_;simp only[PS];go_wp2_with fail;refine(aG.o _ _ _).i ?_;rintro x vc ⟨g,rfl,hw,hb⟩;replace B0:=B0.I hb;replace dA:=dA.I hb;have lb:=hb.size;clear hb aG;go_wp2_with fail;refine(aD.o _ _ _ _ _ hw lb (by have:=aZ.o;simp;omega)).i ?_;rintro x vd ⟨⟨x5,rfl⟩,v',hw,hb,-⟩;replace B0:=B0.low hb cW;replace dA:=dA.low hb cU;clear hb aD
      obtain⟨ya,yn,yc,rfl⟩:∃a n c,v'=.slice a n c:=by
       rcases MM hw.own with ⟨e,_⟩|⟨g,cap,e,_⟩<;>exact⟨_,_,_,e⟩
      rw[DU]at hw;obtain⟨cB,bE,bF⟩:=ug hw.own;rw[QC]at cB;subst cB;have c7:=B0.r1.x 7;have c8:=B0.r1.x 8;have f7:=B0.r1.q 7;have f8:=B0.r1.q 8;have cl:=B0.r1.lt;go_upto_region 17 with fail;clear c7 f7 c8 f8 cl;replace B0:=(B0.set 7 (by simp) (.int .i64 (U+N))).set 8 (by simp) (.int .i64 (O+N));replace hw:=(hw.set w.heap.size 7 (by omega) (.int .i64 (U+N))).set w.heap.size 8 (by omega) (.int .i64 (O+N));replace dA:=(dA.z (MC (BH vd (some w.heap.size)) 7 (.int .i64 (U+N))) (λg e=>by cases e;omega)).z (MC (BH _ (some w.heap.size)) 8 (.int .i64 (O+N))) (λg e=>by cases e;omega);generalize aW:World.setCell (World.setCell _ _ _) _ _=ve at B0 hw dA⊢;clear aW bE;have dD:=AB ve.heap.size ve;refine UV (6) (S:=λw'=>Row w' w.heap.size (sJ (n:Int) S L T H F R (U+N) (O+N) (.slice a5 A1.length c5))/\w'.cell? ⟨g,0,none⟩=some (.slice ya aA.length yc)) (by kernel_rfl) (⟨B0.r1.I dD.drew,(hw.I dD.drew).row.x 0⟩) (λaE=>?_)
      refine MY 0 (.agg (sK (n:Int) S L T H F R (U+N) (O+N) (.slice a5 A1.length c5))) rfl (BN ⟨by rfl,λw hw=>by obtain⟨z0,z1⟩:=hw;exact OP 50 _ rfl _ 0 rfl _ _ z0.range underlying50 rfl OH⟩) aE (NZ 1 (.pointer (some ⟨g,0,none⟩)) rfl aE (NZ 2 (.pointer (some ⟨g,0,none⟩)) rfl aE (MY 3 (.pointer (some ⟨g,0,none⟩)) rfl (BN ⟨by rfl,λw hw=>by obtain⟨z0,z1⟩:=hw;have l:=BE _ _ z1;go_simp⟩) aE (NZ 4 (.slice ya aA.length yc) rfl aE (NZ 5 (.agg (dK 0 (n:Int) S L T H F R (U+N) (O+N) (.slice a5 A1.length c5) (.slice ya aA.length yc))) rfl aE ?_)))));simp only[PS];refine PD (rs:=[6]) (by kernel_rfl) (by simp) ?_;refine AllReadyT.last rfl (λKq cM=>?_);have S8:=B0.I (AB ve.heap.size ve).drew;refine UK rfl 118 _ _ rfl (w.heap.size+1) 0 (dK 0 (n:Int) S L T H F R (U+N) (O+N) (.slice a5 A1.length c5) (.slice ya aA.length yc)) rfl rfl (S8.r2.there rfl) RK (by kernel_rfl) ?_
      refine cM.o _ _ trivial (λ_=>?_)
      try simp only[PS]
      refine UN (by kernel_rfl) ?_ _;have dd:=(AB ve.heap.size ve).drew;have cT:=QC (q+U) aA;obtain⟨_,bE,bI⟩:=ug (LY hw.own dd);have aM:=jc hw.own
      have bF:=λg k=>(bI g k).1
      obtain⟨R8,HP⟩:=S8.fin ⟨0,(n:Int),S,L,T,H,F,R,U+N,O+N,A1,MG (q+U) aA⟩ a5 c5 ya yc bV ⟨(dA.I dd).l,bE,XI (N:=vb.heap.size) cV (λg k=>bF g k)⟩ (λg k=>by have:=hg g k;omega) (λg k=>by have:=bF g k;omega);have aB:=LE HP;clear HP;simp only[SL,QC]at R8 aB;generalize cI:World.setCells _ _ _ _=y at R8 aB⊢;clear cI B0
      try go_wp2
      refine TG 4 results82 (a:=a5) (c:=c5) (b:=ya) (e:=yc) _ ?_ (by simp only[SL,QC];exact R8) ?_ aB.o (by rw[cT]at aM⊢;exact aM)<;>rfl
  rotate_left 3
 rotate_left 4
 all_goals
  try simp only[PS]
  clear B0
  try go_wp2
  refine TG 4 results82 _ ?_ R8 ?_ aB.o<;>rfl
