import Derived.Test.YtehbpeinnepdcaaGreatDoorPrG31
set_option maxHeartbeats 16000000
namespace Go.Proofs.YtehbpeinnepdcaaGreatDoor
open Go.RowKit
set_option maxRecDepth 8000
set_option linter.unusedVariables false
set_option linter.unusedSimpArgs false
theorem QHG (x:Wo) (q:Wp) (e:Ev) (a:Option Addr) (c:Nat) (f:Option Addr) (d:Nat) (F:Nat->Prop) (w:World) (h:WoF x w F q) (ho:x.ok) (h2:Chs w a e.b) (h3:Ints w f e.fs) (he:e.le) (hK:¬ e.K=5) (D:Dd) (eC:x.call e=(D,true)) (hC:D.C=0) (iE:¬ (2000<(ZmL x e D).length\/200<(evP x e D).length)) (fF:ZJ5 e D=true) (k2:¬ e.K=2) :
  Calls Tryz.prog 45 #[Zov x q,vMH e a c f d] w fun r w'=>QRt w w' F r (x.doE e):=by
 have hm:=ho.le
 obtain ⟨FF,gY,gG,gH,gI,iS⟩:∃ FF:Nat->Prop,Hid (∀ b,b<w.heap.size->F b->FF b)/\Hid (∀ b,w.heap.size+1+1+1<=b->FF b)/\Hid (¬ FF w.heap.size)/\Hid (¬ FF (w.heap.size+1+1))/\Hid (∀ b,FF b->F b\/w.heap.size<=b) :=
  ⟨fun b=>(F b/\b<w.heap.size)\/w.heap.size+1+1+1<=b,fun b h1 h2=>.inl ⟨h2,h1⟩,fun b h=>.inr h,fun h=>by rcases h with h | h;exact absurd h.2 (by omega);omega,fun h=>by rcases h with h | h;exact absurd h.2 (by omega);omega,fun b h=>by rcases h with h | h;exact .inl h.1;exact .inr (by omega)⟩
 have hw:WoF x w FF q:=h.mono gY;clear h gY;have CP:=hid (fun y q1 w' (k1:WoF y w' FF q1) (hy:y.le 1048576) k2=>qpH y q1 f e.fs d FF w' k1 hy k2 he.f);have iL:=hid k2;clear k2;have iI:=hid hC;clear hC;have hD:=ho.call e;have CC:=hid (fun w' k1 k2=>QQS x q e a c f d w' k1 hm k2 he);rw [eC] at CC hD;simp only at CC hD;have HD:=hid hD;have jJ:D.ops.length<=1000:=hD.2.1;have CF:=hid (fun ob oe (z:Int) w' k1 k2 k3=>jEL q.a x.ss q.c q.a' x.ws q.c' ob D.ops oe z w' k1 k2 k3 (by omega) (fun o ho=>by have:=hD.2.2 o ho;omega) hm.l1 hm.l2 hm.s1 hm.s2);unfold Zoj at CF;have iJ:=hid eC;clear eC hD;obtain ⟨i0,fV,fX,fY,fZ⟩:=vHq kML;have HI:=hid (And.intro fV (And.intro fX (And.intro fY fZ)));clear fV fX fY fZ;obtain ⟨i1,fV,fX,fY,fZ⟩:=vHq q7E;have HJ:=hid (And.intro fV (And.intro fX (And.intro fY fZ)));clear fV fX fY fZ;have jG:=hm.l5;have jK:=ho.p.1;have jL:=ho.t.1;obtain ⟨iQ,fI⟩:∃ y,Hid (y=x.doE e):=⟨_,hid rfl⟩;rw [<-fI.out];unfold Zov vMH at CC ⊢
 have hE:Below w.heap.size w w:=Below.refl _ _;have jA:(e.K == 5)=false:=by simp [hK]
 go_enter Tryz.func45,Tryz.ntmps45;go_wp2_with fail;generalize fO:w.alloc _=v1;obtain ⟨hb,gS,bA⟩:=bx1 fO;clear fO;replace hE:=hE.trans (hb.mono hE.size);clear hb;generalize fQ:v1.alloc _=v2;obtain ⟨hb,gD,bE⟩:=bx1 fQ;clear fQ;rw [gS] at bE gD;replace bA:=bA.below hb;replace hE:=hE.trans (hb.mono hE.size);clear hb;generalize fS:v2.alloc _=v3;obtain ⟨hb,gU,bR⟩:=bx1 fS;clear fS;rw [gD] at bR gU;replace bA:=bA.below hb;replace bE:=bE.below hb;replace hE:=hE.trans (hb.mono hE.size);clear hb;refine (CC.out _ (hw.below hE).at (h2.below hE)).mono ?_;rintro e v4 ⟨oa,oc,ob,oe,rfl,iT,own,g1,g2,hb⟩;have iZ:v3.heap.size<=v4.heap.size:=hb.size;replace bA:=bA.below hb;replace bE:=bE.below hb;replace bR:=bR.below hb;replace hE:=hE.trans (hb.mono hE.size);have od:Dep v4 v3.heap.size v4.heap.size (fun W=>OwnDn W D.rs D.ops oa ob):=y80 own g1 g2;have jQ:w.heap.size+1+1+1<=v3.heap.size:=by omega
 clear own g1 g2;clear hb;unfold dnV;go_upto_region 4 with fail;generalize fT:v4.alloc _=v5;obtain ⟨hb,gV,bX⟩:=bx1 fT;have i3:v4.heap.size+1<=v5.heap.size:=by omega
 clear fT gV;replace bA:=bA.below hb;replace bE:=bE.below hb;replace bR:=bR.below hb;replace od:=od.below hb;replace hE:=hE.trans (hb.mono hE.size);clear hb;obtain ⟨XB,fJ⟩:∃ y,y=v4.heap.size:=⟨_,rfl⟩;rw [<-fJ] at bX ⊢;have jD:w.heap.size+1+1+1<=XB:=by omega
 have jO:XB<v5.heap.size:=bX.now.lt;clear fJ;generalize Value.tuple _=T0;generalize Value.agg (wA x q)=A0;generalize Value.agg #[.int .i64 D.C,.int .i64 D.W,.int .i64 D.S,.int .i64 D.L,.int .i64 D.T,.int .i64 D.H,.int .i64 D.F,.int .i64 D.R,.int .i64 D.U,.int .i64 D.O,.slice oa D.rs.length oc,.slice ob D.ops.length oe]=A1;generalize Value.agg #[.int .i64 e.K,.slice a e.b.length c,.int .i64 e.cut,.slice f e.fs.length d]=A2;have hC:=iI.out;rw [hC] at bX;obtain ⟨N,HN⟩:∃ N,Hid (N=evN e D):=⟨_,hid rfl⟩;obtain ⟨CB,eP⟩:∃ b,Hid (b=ZJ5 e D):=⟨_,hid rfl⟩;have jC:N<=D.ops.length:=by rw [HN.out];exact X7G e D
 obtain ⟨bG,bH,bI,bJ,bQ,bU,bV,bW,bY,bZ,aZ,bC,b7⟩:=c12 bX.now;obtain ⟨aG,aH,aI,aJ⟩:=bE.now.k4;have aK:=bE.now.lt;go_upto_region 7 with fail;have eQ:Hid (CB=true->e.cut=(N:Int)):=hid (fun k=>by rw [eP.out] at k;have k:=of_decide_eq_true (by unfold ZJ5 at k;exact k);rw [HN.out];unfold evN;rw [if_pos k];omega);have eR:Hid (CB=false->N=D.ops.length):=hid (fun k=>by rw [eP.out] at k;have k:=of_decide_eq_false (by unfold ZJ5 at k;exact k);rw [HN.out];unfold evN;rw [if_neg k]);go_cut [8] from 36 to 44 (fun cv wx=>cv=.bool CB/\wx=v5)
 case first =>
  by_cases k1:0<=e.cut
  ·by_cases k2:e.cut<=(D.ops.length:Int)
   ·have fF:CB=true:=by rw [eP.out];unfold ZJ5;exact decide_eq_true ⟨k1,k2⟩
    clear eQ eR;go_wp2;go_meet;exact ⟨by rw [fF],rfl⟩
   ·have fF:CB=false:=by rw [eP.out];unfold ZJ5;exact decide_eq_false (fun h=>k2 h.2)
    clear eQ eR;go_wp2;go_meet;exact ⟨by rw [fF],rfl⟩
  ·have fF:CB=false:=by rw [eP.out];unfold ZJ5;exact decide_eq_false (fun h=>k1 h.1)
   clear eQ eR;go_wp2;go_meet;exact ⟨by rw [fF],rfl⟩
 case rest =>
 obtain ⟨e8,fU⟩:=hcut;subst e8;rw [fU];clear fU;go_upto_if 45 with fail;go_cut [7] from 46 to 47 (fun nv wx=>nv=.int .i64 (N:Int)/\wx=v5)
 case first =>
  cases CB with
  | true =>
   have hn:=hid (eQ.out rfl);clear eQ eR;go_wp2;go_meet;exact ⟨by rw [hn.out],rfl⟩
  | false =>
   have hn:=hid (eR.out rfl);clear eQ eR;go_wp2;go_meet;exact ⟨by rw [hn.out],rfl⟩
 case rest =>
 obtain ⟨e7,fU⟩:=hcut;subst e7;rw [fU];clear fU eQ eR;clear bG bH bI bJ bQ bU bV bW bY bZ aZ bC b7 aG aH aI aJ aK;have jB:(N:Int)<=1000:=by omega
 obtain ⟨aO,aP,aQ,aR,aS,aT,aU,aV,aW,aX,aA,aB,aC,aD,aE,aF,aY⟩:=c16 bA.now;go_wp2_with (at_builtin;refine Z4q rfl _ _ 23 rfl 9 i0 (.string ByteArray.empty) 1 16 Tryz.underlying23 HI.out.1 HI.out.2.1 HI.out.2.2.1 HI.out.2.2.2 rfl v5.heap.size v5.heap.size rfl (World.ownsRow_lit _ #[] 0 (Nat.le_refl _) (by simp) (by simp)) _ rfl x.ts.length _ (src_strs ((hw.below hE).at.h5.below (xCS _ _)) _ _ Tryz.underlying23 q.ct) (by omega) (by omega) (by simp) ?_;intro g0 gN ws eN iU iB);clear aO aP aQ aR aS aT aU aV aW aX aA aB aC aD aE aF aY;have gX:Below v5.heap.size v5 ws:=(xCS _ _).trans (iB.mono (by simp));clear iB iU;go_loopw [9,10] (fun wv iv wr=>∃ (j g cap:Nat),j<=N/\iv=.int .i64 (j:Int)/\wv=.slice (some ⟨g,0,none⟩) (x.ts++xmh (D.ops.take j)).length cap/\wr.ownsRow v5.heap.size 9 1 (.slice (some ⟨g,0,none⟩) (x.ts++xmh (D.ops.take j)).length cap) (x.ts++xmh (D.ops.take j)).length ((x.ts++xmh (D.ops.take j)).map Value.string)/\Below v5.heap.size v5 wr) (fun _ iv _=>N-(intOf iv).toNat)
 case atStart=>exact ⟨0,g0,gN,Nat.zero_le _,rfl,by simp [xmh],by simpa [xmh] using eN,gX⟩
 case round =>
  clear eN gX;obtain ⟨j,g,cap,hj,rfl,rfl,dY,hB⟩:=hrel;have iC:=yHD (D.ops.take j);rw [List.length_take] at iC;have iV:(x.ts++xmh (D.ops.take j)).length<=4000:=by rw [List.length_append];omega
  obtain ⟨LL,fG⟩:∃ y,Hid (y=x.ts++xmh (D.ops.take j)):=⟨_,hid rfl⟩;rw [<-fG.out] at dY iV ⊢;clear iC
  by_cases jH:j<N
  ·have iW:(j:Int)<(N:Int):=by omega
   have jE:(0:Int)<=(j:Int):=by omega
   have jF:(j:Int)<(D.ops.length:Int):=by omega
   have X1:=(bX.low hB (by omega)).now;have jS:=X1.cell 11 _ rfl;have jT:=X1.lt;obtain ⟨b1,o1,s0,n1,t2,rfl,c0,c1,c2,iO⟩:=(od.low hB (by omega)).now.p.ops.at (k:=j) (by omega);have gR:=kde D.ops j (by omega);rw [<-iO.out] at gR;have gL:=hid gR;clear gR X1;have gJ:=hid dY;have fH:=hid hB;have jP:=Zoz c0;clear dY hB;have jM:IntKind.i64.wrap ((j:Int)+1)=((j+1:Nat):Int):=by rw [JWx _ (by omega) (by omega)];omega
   cases s0 with
   | true =>
    go_wp2;exact ⟨⟨j+1,g,cap,by omega,by go_num,by rw [gL.out];simp [fG.out],by rw [gL.out];simpa [fG.out] using gJ.out,fH.out⟩,by simp [intOf];omega⟩
   | false =>
    go_wp2_with (at_builtin;refine WAL _ rfl _ _ 23 rfl v5.heap.size Tryz.underlying23 HI.out rfl (by omega) _ LL.length _ rfl (gJ.out.alloc _) ⟨wr.heap.size,0,none⟩ 1 1 [.string t2] rfl rfl (World.news_of_block (heap_alloc_new wr _)) (by intro u hu;simp at hu;subst hu;rfl) (by have:=fH.out.size;simp;omega) (wr.heap.size+1) (by simp) ?_;intro g9 gO w9 eO eD gP iX;have iN:=hid eO;have iK:=hid eD;clear eO eD gP);have e9:x.ts++xmh (D.ops.take (j+1))=LL++[t2]:=by rw [gL.out,fG.out];simp
    have iR:Below v5.heap.size v5 w9:=jbs ((fH.out).alloc fH.out.size _) (gJ.out.alloc _) iK.out (by have:=fH.out.size;simp;omega);exact ⟨⟨j+1,g9,gO,by omega,by go_num,by rw [e9];simp,by rw [e9];simpa using iN.out,iR⟩,by simp [intOf];omega⟩
  have iD:j=N:=by omega
  have gW:Hid (LL=ZmL x e D):=hid (by rw [fG.out,iD,HN.out];rfl);have jI:¬ (j:Int)<(N:Int):=by omega
  clear iD;have i9:v5.heap.size<=wr.heap.size:=hB.size;replace bA:=bA.low hB (by omega);replace bE:=bE.low hB (by omega);replace bR:=bR.low hB (by omega);replace od:=od.low hB (by omega);replace bX:=bX.low hB (by omega);replace hE:=hE.trans (hB.mono hE.size);have rT:=kX5 dY;have gT:=xLn dY;have wd:Dep wr v5.heap.size wr.heap.size (fun W=>Row W g (LL.map Value.string)):=xuV rT gT rT.lt (Nat.le_refl _);have jR:w.heap.size+1+1+1<=v5.heap.size:=by omega
  clear hB dY rT fG;obtain ⟨PP,gE⟩:∃ y,Hid (y=evP x e D):=⟨_,hid rfl⟩;have iY:PP.length<=201:=by rw [gE.out];unfold evP;split<;>(try simp)<;>omega
  obtain ⟨aO,aP,aQ,aR,aS,aT,aU,aV,aW,aX,aA,aB,aC,aD,aE,aF,aY⟩:=c16 bA.now;obtain ⟨aG,aH,aI,aJ⟩:=bE.now.k4;have aK:=bE.now.lt;obtain ⟨bG,bH,bI,bJ,bQ,bU,bV,bW,bY,bZ,aZ,bC,b7⟩:=c12 bX.now;go_upto_if 77 with fail;clear aO aP aQ aR aS aT aU aV aW aX aA aB aC aD aE aF aY aG aH aI aJ aK bG bH bI bJ bQ bU bV bW bY bZ aZ bC b7;go_cut [11] from 75 to 85 (fun pv wx=>∃ (pa:Option Addr) (pc:Nat),pv=.slice pa PP.length pc/\PstF wx FF pa PP/\Below wr.heap.size wr wx)
  case first =>
   have k2:=iL.out;have ep:PP=x.P:=by rw [gE.out];unfold evP;rw [if_neg k2]
   have jN:(e.K == 2)=false:=by simp [k2]
   obtain ⟨aG,aH,aI,aJ⟩:=bE.now.k4;have aK:=bE.now.lt;go_wp2_with fail;go_meet;rw [ep];exact ⟨q.p,q.cp,rfl,(hw.below hE).h4,Below.refl _ _⟩
  case rest =>
  obtain ⟨pa,pc,rfl,dZ,hb⟩:=hcut;have i8:wr.heap.size<=wc.heap.size:=hb.size;replace bA:=bA.below hb;replace bE:=bE.below hb;replace bR:=bR.below hb;replace od:=od.below hb;replace bX:=bX.below hb;replace wd:=wd.below hb;replace hE:=hE.trans (hb.mono hE.size);clear hb;have fW:=iE;rw [<-gW.out,<-gE.out] at fW;have jU:¬ ((2000:Int)<(LL.length:Int)):=by omega
  have jV:¬ ((200:Int)<(PP.length:Int)):=by omega
  clear fW;have eM:¬ (2000<(ZmL x e D).length\/200<(evP x e D).length):=by exact iE
  have iF:=ho.ran e (d:=D) HD.out (by omega);have iP:=hid iF;have iM:=hid eM;clear iF eM;obtain ⟨aO,aP,aQ,aR,aS,aT,aU,aV,aW,aX,aA,aB,aC,aD,aE,aF⟩:=bA.now.k16;obtain ⟨cQ,cS,cT,cU,cV,cW,cY,cZ,dE,dH,b8,cC,cE,cF,cH,cI⟩:=bA.now.z16;have aY:=bA.now.lt;obtain ⟨aG,aH,aI,aJ⟩:=bE.now.k4;have aK:=bE.now.lt;obtain ⟨bG,bH,bI,bJ,bQ,bU,bV,bW,bY,bZ,aZ,bC,b7⟩:=c12 bX.now;go_wp2_with fail;clear aO cQ aP cS aQ cT aR cU aS cV aT cW aU cY aV cZ aW dE aX dH aA b8 aB cC aC cE aD cF aE cH aF cI aY aG aH aI aJ aK bG bH bI bJ bQ bU bV bW bY bZ aZ bC b7;generalize eS:((wc.setCell _ _).setCell _ _)=v6;have aM:wc.grownBy v6 (some (w.heap.size)):=by rw [<-eS];exact y09 (y09 (World.grownBy.refl _ _) _ _) _ _
  have aL:=eS ▸ ((bA.now.set 15 (by simp) (.slice (some ⟨g,0,none⟩) LL.length cap)).set 14 (by simp) (.slice pa PP.length pc));have i4:wc.heap.size<=v6.heap.size:=aM.size
  have aN:∀ g,(some (w.heap.size):Option Nat)=some g->w.heap.size<=g/\g<w.heap.size+1:=fun g hg=>by injection hg with hg;omega
  clear eS;replace bE:=bE.grown aM (fun g hg=>by have:=aN g hg;omega);replace bR:=bR.grown aM (fun g hg=>by have:=aN g hg;omega);replace od:=od.grown aM (fun g hg=>by have:=aN g hg;omega);replace bX:=bX.grown aM (fun g hg=>by have:=aN g hg;omega);replace wd:=wd.grown aM (fun g hg=>by have:=aN g hg;omega)
  replace dZ:=dZ.grown aM (fun g hg k=>by have:=aN g hg;first | exact absurd k (by rw [show g=w.heap.size by omega];exact gH) | exact absurd k (by rw [show g=w.heap.size+1+1 by omega];exact gI))
  replace hE:=hE.trans (jJX aM hE.size (fun g hg=>by have:=aN g hg;omega));have cP:=aL.lt;clear bA;have bA:=qXs aL;clear aL aM aN cP;obtain ⟨RR,gK⟩:∃ y,Hid (y=pfR x.ss x.ws D.ops (N:Int)):=⟨_,hid rfl⟩;have CG:=CF.out ob oe (N:Int);rw [<-gK.out] at CG;refine (CG _ (hw.below hE).at.h1 (hw.below hE).at.h2 od.now.p.ops).mono ?_;rintro e v7 ⟨a1,c1,gF,gM,rfl,gQ,k1,k2,hb⟩;have i5:v6.heap.size<=v7.heap.size:=hb.size;replace bA:=bA.below hb;replace bE:=bE.below hb;replace bR:=bR.below hb;replace od:=od.below hb;replace bX:=bX.below hb;replace wd:=wd.below hb;replace dZ:=dZ.below hb;replace hE:=hE.trans (hb.mono hE.size);have d1:Dep v7 v6.heap.size v7.heap.size (fun W=>OwnS W a1 (RR.1.map Value.string)):=JKD gQ.s Z3Z k1;have d2:Dep v7 v6.heap.size v7.heap.size (fun W=>OwnS W gF (yaV RR.2)):=JKD gQ.p qO5 k2;have ld:w.heap.size+1+1+1<=v6.heap.size:=by omega
  clear gQ k1 k2 CG;clear hb
  cases CB with
  | true =>
   have er:iQ=(x.ran e D).pow e.fs:=by rw [fI.out];exact xeL hK iJ.out hC iM.out eP.out.symm
   obtain ⟨aO,aP,aQ,aR,aS,aT,aU,aV,aW,aX,aA,aB,aC,aD,aE,aF⟩:=bA.now.k16;obtain ⟨cQ,cS,cT,cU,cV,cW,cY,cZ,dE,dH,b8,cC,cE,cF,cH,cI⟩:=bA.now.z16;have aY:=bA.now.lt;obtain ⟨aG,aH,aI,aJ⟩:=bE.now.k4;have aK:=bE.now.lt;go_wp2_with fail;clear aO cQ aP cS aQ cT aR cU aS cV aT cW aU cY aV cZ aW dE aX dH aA b8 aB cC aC cE aD cF aE cH aF cI aY aG aH aI aJ aK;generalize eT:((v7.setCell _ _).setCell _ _)=v8;have aM:v7.grownBy v8 (some (w.heap.size)):=by rw [<-eT];exact y09 (y09 (World.grownBy.refl _ _) _ _) _ _
   have aL:=eT ▸ ((bA.now.set 1 (by simp) (.slice a1 RR.1.length c1)).set 2 (by simp) (.slice gF RR.2.length gM));have i6:v7.heap.size<=v8.heap.size:=aM.size
   have aN:∀ g,(some (w.heap.size):Option Nat)=some g->w.heap.size<=g/\g<w.heap.size+1:=fun g hg=>by injection hg with hg;omega
   clear eT;replace bE:=bE.grown aM (fun g hg=>by have:=aN g hg;omega);replace bR:=bR.grown aM (fun g hg=>by have:=aN g hg;omega);replace od:=od.grown aM (fun g hg=>by have:=aN g hg;omega);replace bX:=bX.grown aM (fun g hg=>by have:=aN g hg;omega);replace wd:=wd.grown aM (fun g hg=>by have:=aN g hg;omega)
   replace dZ:=dZ.grown aM (fun g hg k=>by have:=aN g hg;first | exact absurd k (by rw [show g=w.heap.size by omega];exact gH) | exact absurd k (by rw [show g=w.heap.size+1+1 by omega];exact gI))
   replace d1:=d1.grown aM (fun g hg=>by have:=aN g hg;omega);replace d2:=d2.grown aM (fun g hg=>by have:=aN g hg;omega);replace hE:=hE.trans (jJX aM hE.size (fun g hg=>by have:=aN g hg;omega));have cP:=aL.lt;clear bA;have bA:=qXs aL;clear aL aM aN cP;have g6:(x.ran e D).ss=RR.1:=by rw [gK.out,HN.out];rfl
   have hI:(x.ran e D).ws=RR.2:=by rw [gK.out,HN.out];rfl
   have iA:(x.ran e D).ts=LL:=by rw [gW.out];rfl
   have gZ:(x.ran e D).P=PP:=by rw [gE.out];rfl
   have eL:WoF (x.ran e D) _ FF ⟨a1,c1,gF,gM,q.s,q.cs,pa,pc,some ⟨g,0,none⟩,cap⟩:=⟨(xat d1 (fun b hb _=>gG.out b (by omega))).map fun W k=>by rw [g6];exact k.strs,(xat d2 (fun b hb _=>gG.out b (by omega))).map fun W k=>by rw [hI];exact k.wrs,(hw.below hE).h3,by rw [gZ];exact dZ,(xat wd (fun b hb _=>gG.out b (by omega))).map fun W k=>by rw [iA];exact k.strs⟩;have CQ:=CP.out (x.ran e D) ⟨a1,c1,gF,gM,q.s,q.cs,pa,pc,some ⟨g,0,none⟩,cap⟩ _ eL iP.out.le (h3.below hE);obtain ⟨y,HY⟩:∃ y,Hid (y=(x.ran e D).pow e.fs):=⟨_,hid rfl⟩;rw [<-HY.out] at CQ er;have ER:=hid er;clear er;unfold Zov at CQ;rw [g6,hI,iA,gZ] at CQ;clear eL;refine (CQ).mono ?_;rintro e v9 ⟨q1,rfl,eL,hb⟩;have i7:v8.heap.size<=v9.heap.size:=hb.size;replace bA:=bA.below hb;replace bE:=bE.below hb;replace bR:=bR.below hb;replace od:=od.below hb;replace bX:=bX.below hb;replace wd:=wd.below hb;replace dZ:=dZ.below hb;replace d1:=d1.below hb;replace d2:=d2.below hb
   replace hE:=hE.trans (hb.mono hE.size);replace eL:=eL.mono (G:=FF) (fun b _ k=>k.elim id (fun k=>gG.out b (by omega)));clear hb;unfold Zov;obtain ⟨dI,dJ,dK,dL,dM,dN,dO,dQ,dR,dU,cJ,cK,cL,cM,cN,cO⟩:=bR.now.k16;obtain ⟨eU,eV,eW,eX,eY,eZ,fA,fB,fC,fE,eF,eG,eH,eI,eJ,eK⟩:=bR.now.z16;have dV:=bR.now.lt;go_wp2;clear dI eU dJ eV dK eW dL eX dM eY dN eZ dO fA dQ fB dR fC dU fE cJ eF cK eG cL eH cM eI cN eJ cO eK dV;generalize eB:((((((((((((((((v9.setCell _ _).setCell _ _).setCell _ _).setCell _ _).setCell _ _).setCell _ _).setCell _ _).setCell _ _).setCell _ _).setCell _ _).setCell _ _).setCell _ _).setCell _ _).setCell _ _).setCell _ _).setCell _ _)=iH;have aM:v9.grownBy iH (some (w.heap.size+1+1)):=by rw [<-eB];exact y09 (y09 (y09 (y09 (y09 (y09 (y09 (y09 (y09 (y09 (y09 (y09 (y09 (y09 (y09 (y09 (World.grownBy.refl _ _) _ _) _ _) _ _) _ _) _ _) _ _) _ _) _ _) _ _) _ _) _ _) _ _) _ _) _ _) _ _) _ _
   have aL:=eB ▸ ((((((((((((((((bR.now.set 0 (by simp) (.int .i64 y.w)).set 1 (by simp) (.slice q1.a y.ss.length q1.c)).set 2 (by simp) (.slice q1.a' y.ws.length q1.c')).set 3 (by simp) (.bool y.up)).set 4 (by simp) (.int .i64 y.W)).set 5 (by simp) (.int .i64 y.S)).set 6 (by simp) (.int .i64 y.L)).set 7 (by simp) (.int .i64 y.T)).set 8 (by simp) (.int .i64 y.H)).set 9 (by simp) (.int .i64 y.F)).set 10 (by simp) (.int .i64 y.R)).set 11 (by simp) (.int .i64 y.U)).set 12 (by simp) (.int .i64 y.O)).set 13 (by simp) (.slice q1.s y.rs.length q1.cs)).set 14 (by simp) (.slice q1.p y.P.length q1.cp)).set 15 (by simp) (.slice q1.t y.ts.length q1.ct));have iG:v9.heap.size<=iH.heap.size:=aM.size
   have aN:∀ g,(some (w.heap.size+1+1):Option Nat)=some g->w.heap.size+1+1<=g/\g<w.heap.size+1+1+1:=fun g hg=>by injection hg with hg;omega
   clear eB;replace bA:=bA.grown aM (fun g hg=>by have:=aN g hg;omega);replace bE:=bE.grown aM (fun g hg=>by have:=aN g hg;omega);replace od:=od.grown aM (fun g hg=>by have:=aN g hg;omega);replace bX:=bX.grown aM (fun g hg=>by have:=aN g hg;omega);replace wd:=wd.grown aM (fun g hg=>by have:=aN g hg;omega)
   replace dZ:=dZ.grown aM (fun g hg k=>by have:=aN g hg;first | exact absurd k (by rw [show g=w.heap.size by omega];exact gH) | exact absurd k (by rw [show g=w.heap.size+1+1 by omega];exact gI))
   replace d1:=d1.grown aM (fun g hg=>by have:=aN g hg;omega);replace d2:=d2.grown aM (fun g hg=>by have:=aN g hg;omega)
   replace eL:=eL.grown aM (fun g hg k=>by have:=aN g hg;first | exact absurd k (by rw [show g=w.heap.size by omega];exact gH) | exact absurd k (by rw [show g=w.heap.size+1+1 by omega];exact gI))
   replace hE:=hE.trans (jJX aM hE.size (fun g hg=>by have:=aN g hg;omega));have cP:=aL.lt;clear bR;have bR:=qXs aL;clear aL aM aN cP;rw [ER.out];obtain ⟨dI,dJ,dK,dL,dM,dN,dO,dQ,dR,dU,cJ,cK,cL,cM,cN,cO,dV⟩:=c16 bR.now;exact bodyPost_ret (v:=.agg (wA y q1)) (by simp [results,Tryz.results45,go_sem,dI,dJ,dK,dL,dM,dN,dO,dQ,dR,dU,cJ,cK,cL,cM,cN,cO,dV]) rfl ⟨q1,rfl,(eL).mono fun b _ k=>iS.out b k,hE⟩
  | false =>
   exact absurd (eP.out.trans fF) (by simp)
end Go.Proofs.YtehbpeinnepdcaaGreatDoor
