import Derived.Test.YtcdojnnkjeakmaaGreatDoorPrWdD0
set_option maxHeartbeats 16000000
namespace Go.Proofs.YtcdojnnkjeakmaaGreatDoor
open Go.RowKit
set_option maxRecDepth 8000
set_option linter.unusedVariables false
set_option linter.unusedSimpArgs false
theorem QHG (x:Wo) (q:Wp) (e:Ev) (a:Option Addr) (c:Nat) (f:Option Addr) (d:Nat) (F:Nat->Prop) (w:World) (h:WoF x w F q) (ho:x.ok) (h2:Chs w a e.b) (h3:Ints w f e.fs) (he:e.le) (hK:¬ e.K=5) (D:Dd) (dZ:x.call e=(D,true)) (hC:D.C=0) (iF:¬ (2000<(ZmL x e D).length\/200<(evP x e D).length)) (eP:ZJ5 e D=true) (k2:¬ e.K=2) :
  Calls Tryz.prog 44 #[Zov x q,vMH e a c f d] w fun r w'=>QRt w w' F r (x.doE e):=by
 have hm:=ho.le
 obtain ⟨FF,iH,gH,gF,gG,iZ⟩:∃ FF:Nat->Prop,Hid (∀ b,b<w.heap.size->F b->FF b)/\Hid (∀ b,w.heap.size+1+1+1<=b->FF b)/\Hid (¬ FF w.heap.size)/\Hid (¬ FF (w.heap.size+1+1))/\Hid (∀ b,FF b->F b\/w.heap.size<=b) :=
  ⟨fun b=>(F b/\b<w.heap.size)\/w.heap.size+1+1+1<=b,fun b h1 h2=>.inl ⟨h2,h1⟩,fun b h=>.inr h,fun h=>by rcases h with h | h;exact absurd h.2 (by omega);omega,fun h=>by rcases h with h | h;exact absurd h.2 (by omega);omega,fun b h=>by rcases h with h | h;exact .inl h.1;exact .inr (by omega)⟩
 have hw:WoF x w FF q:=h.mono iH;clear h iH;have CP:=hid (fun y q1 w' (k1:WoF y w' FF q1) (hy:y.le 1048576) k2=>qpH y q1 f e.fs d FF w' k1 hy k2 he.f);have iY:=hid k2;clear k2;have iJ:=hid hC;clear hC;have hD:=ho.call e;have CC:=hid (fun w' k1 k2=>QQS x q e a c f d w' k1 hm k2 he);rw [dZ] at CC hD;simp only at CC hD;have HD:=hid hD;have jQ:D.ops.length<=1000:=hD.2.1;have CF:=hid (fun ob oe (z:Int) w' k1 k2 k3=>jEL q.a x.ss q.c q.a' x.ws q.c' ob D.ops oe z w' k1 k2 k3 (by omega) (fun o ho=>by have:=hD.2.2 o ho;omega) hm.l1 hm.l2 hm.s1 hm.s2);unfold Zoj at CF;have iR:=hid dZ;clear dZ hD;obtain ⟨i0,fV,fO,fS,fH⟩:=vHq kML;have HI:=hid (And.intro fV (And.intro fO (And.intro fS fH)));clear fV fO fS fH;obtain ⟨i1,fV,fO,fS,fH⟩:=vHq q7E;have HJ:=hid (And.intro fV (And.intro fO (And.intro fS fH)));clear fV fO fS fH;have jN:=hm.l5;have jM:=ho.p.1;have jK:=ho.t.1;obtain ⟨iK,fY⟩:∃ y,Hid (y=x.doE e):=⟨_,hid rfl⟩;rw [<-fY.out];unfold Zov vMH at CC ⊢
 have hE:Below w.heap.size w w:=Below.refl _ _;have jV:(e.K == 5)=false:=by simp [hK]
 go_enter Tryz.func44,Tryz.ntmps44;go_wp2_with fail;generalize gD:w.alloc _=v1;obtain ⟨hb,gQ,bA⟩:=bx1 gD;clear gD;replace hE:=hE.trans (hb.mono hE.size);clear hb;generalize fJ:v1.alloc _=v2;obtain ⟨hb,fQ,bE⟩:=bx1 fJ;clear fJ;rw [gQ] at bE fQ;replace bA:=bA.below hb;replace hE:=hE.trans (hb.mono hE.size);clear hb;generalize fI:v2.alloc _=v3;obtain ⟨hb,gS,bR⟩:=bx1 fI;clear fI;rw [fQ] at bR gS;replace bA:=bA.below hb;replace bE:=bE.below hb;replace hE:=hE.trans (hb.mono hE.size);clear hb;refine (CC.out _ (hw.below hE).at (h2.below hE)).mono ?_;rintro e v4 ⟨oa,oc,ob,oe,rfl,i8,own,g1,g2,hb⟩;have iQ:v3.heap.size<=v4.heap.size:=hb.size;replace bA:=bA.below hb;replace bE:=bE.below hb;replace bR:=bR.below hb;replace hE:=hE.trans (hb.mono hE.size);have od:Dep v4 v3.heap.size v4.heap.size (fun W=>OwnDn W D.rs D.ops oa ob):=y80 own g1 g2;have jG:w.heap.size+1+1+1<=v3.heap.size:=by omega
 clear own g1 g2;clear hb;unfold dnV;go_upto_region 4 with fail;generalize fX:v4.alloc _=v5;obtain ⟨hb,gN,bX⟩:=bx1 fX;have i6:v4.heap.size+1<=v5.heap.size:=by omega
 clear fX gN;replace bA:=bA.below hb;replace bE:=bE.below hb;replace bR:=bR.below hb;replace od:=od.below hb;replace hE:=hE.trans (hb.mono hE.size);clear hb;obtain ⟨XB,fT⟩:∃ y,y=v4.heap.size:=⟨_,rfl⟩;rw [<-fT] at bX ⊢;have jA:w.heap.size+1+1+1<=XB:=by omega
 have jP:XB<v5.heap.size:=bX.now.lt;clear fT;generalize Value.tuple _=T0;generalize Value.agg (wA x q)=A0;generalize Value.agg #[.int .i64 D.C,.int .i64 D.W,.int .i64 D.S,.int .i64 D.L,.int .i64 D.T,.int .i64 D.H,.int .i64 D.F,.int .i64 D.R,.int .i64 D.U,.int .i64 D.O,.slice oa D.rs.length oc,.slice ob D.ops.length oe]=A1;generalize Value.agg #[.int .i64 e.K,.slice a e.b.length c,.int .i64 e.cut,.slice f e.fs.length d]=A2;have hC:=iJ.out;rw [hC] at bX;obtain ⟨N,HN⟩:∃ N,Hid (N=evN e D):=⟨_,hid rfl⟩;obtain ⟨CB,fE⟩:∃ b,Hid (b=ZJ5 e D):=⟨_,hid rfl⟩;have jL:N<=D.ops.length:=by rw [HN.out];exact X7G e D
 obtain ⟨b7,bV,bH,bG,bY,bZ,bI,bJ,bU,bW,bC,aZ,bQ⟩:=c12 bX.now;obtain ⟨aI,aJ,aH,aK⟩:=bE.now.k4;have aL:=bE.now.lt;go_upto_region 7 with fail;have eX:Hid (CB=true->e.cut=(N:Int)):=hid (fun k=>by rw [fE.out] at k;have k:=of_decide_eq_true (by unfold ZJ5 at k;exact k);rw [HN.out];unfold evN;rw [if_pos k];omega);have eV:Hid (CB=false->N=D.ops.length):=hid (fun k=>by rw [fE.out] at k;have k:=of_decide_eq_false (by unfold ZJ5 at k;exact k);rw [HN.out];unfold evN;rw [if_neg k]);go_cut [8] from 36 to 44 (fun cv wx=>cv=.bool CB/\wx=v5)
 case first =>
  by_cases k1:0<=e.cut
  ·by_cases k2:e.cut<=(D.ops.length:Int)
   ·have eP:CB=true:=by rw [fE.out];unfold ZJ5;exact decide_eq_true ⟨k1,k2⟩
    clear eX eV;go_wp2;go_meet;exact ⟨by rw [eP],rfl⟩
   ·have eP:CB=false:=by rw [fE.out];unfold ZJ5;exact decide_eq_false (fun h=>k2 h.2)
    clear eX eV;go_wp2;go_meet;exact ⟨by rw [eP],rfl⟩
  ·have eP:CB=false:=by rw [fE.out];unfold ZJ5;exact decide_eq_false (fun h=>k1 h.1)
   clear eX eV;go_wp2;go_meet;exact ⟨by rw [eP],rfl⟩
 case rest =>
 obtain ⟨e8,fU⟩:=hcut;subst e8;rw [fU];clear fU;go_upto_if 45 with fail;go_cut [7] from 46 to 47 (fun nv wx=>nv=.int .i64 (N:Int)/\wx=v5)
 case first =>
  cases CB with
  | true =>
   have hn:=hid (eX.out rfl);clear eX eV;go_wp2;go_meet;exact ⟨by rw [hn.out],rfl⟩
  | false =>
   have hn:=hid (eV.out rfl);clear eX eV;go_wp2;go_meet;exact ⟨by rw [hn.out],rfl⟩
 case rest =>
 obtain ⟨e7,fU⟩:=hcut;subst e7;rw [fU];clear fU eX eV;clear b7 bV bH bG bY bZ bI bJ bU bW bC aZ bQ aI aJ aH aK aL;have jT:(N:Int)<=1000:=by omega
 obtain ⟨aS,aV,aW,aT,aR,aN,aO,aY,aU,aX,aA,aC,aE,aF,aD,aB,aQ⟩:=c16 bA.now;go_wp2_with (at_builtin;refine Z4q rfl _ _ 28 rfl 9 i0 (.string ByteArray.empty) 1 16 Tryz.underlying28 HI.out.1 HI.out.2.1 HI.out.2.2.1 HI.out.2.2.2 rfl v5.heap.size v5.heap.size rfl (World.ownsRow_lit _ #[] 0 (Nat.le_refl _) (by simp) (by simp)) _ rfl x.ts.length _ (QKc ((hw.below hE).at.h5.below (xCS _ _)) _ _ Tryz.underlying28 q.ct) (by omega) (by omega) (by simp) ?_;intro g0 gV ws eO iI hY);clear aS aV aW aT aR aN aO aY aU aX aA aC aE aF aD aB aQ;have iG:Below v5.heap.size v5 ws:=(xCS _ _).trans (hY.mono (by simp));clear hY iI;go_loopw [9,10] (fun wv iv wr=>∃ (j g cap:Nat),j<=N/\iv=.int .i64 (j:Int)/\wv=.slice (some ⟨g,0,none⟩) (x.ts++xmh (D.ops.take j)).length cap/\wr.ownsRow v5.heap.size 9 1 (.slice (some ⟨g,0,none⟩) (x.ts++xmh (D.ops.take j)).length cap) (x.ts++xmh (D.ops.take j)).length ((x.ts++xmh (D.ops.take j)).map Value.string)/\Below v5.heap.size v5 wr) (fun _ iv _=>N-(intOf iv).toNat)
 case atStart=>exact ⟨0,g0,gV,Nat.zero_le _,rfl,by simp [xmh],by simpa [xmh] using eO,iG⟩
 case round =>
  clear eO iG;obtain ⟨j,g,cap,hj,rfl,rfl,dY,hB⟩:=hrel;have iE:=yHD (D.ops.take j);rw [List.length_take] at iE;have iX:(x.ts++xmh (D.ops.take j)).length<=4000:=by rw [List.length_append];omega
  obtain ⟨LL,fG⟩:∃ y,Hid (y=x.ts++xmh (D.ops.take j)):=⟨_,hid rfl⟩;rw [<-fG.out] at dY iX ⊢;clear iE
  by_cases jH:j<N
  ·have iS:(j:Int)<(N:Int):=by omega
   have jI:(0:Int)<=(j:Int):=by omega
   have jU:(j:Int)<(D.ops.length:Int):=by omega
   have X1:=(bX.low hB (by omega)).now;have jB:=X1.cell 11 _ rfl;have jR:=X1.lt;obtain ⟨b1,o1,s0,n1,t2,rfl,c0,c1,c2,iL⟩:=(od.low hB (by omega)).now.p.ops.at (k:=j) (by omega);have gM:=kde D.ops j (by omega);rw [<-iL.out] at gM;have gK:=hid gM;clear gM X1;have gR:=hid dY;have fW:=hid hB;have jJ:=Zoz c0;clear dY hB;have jC:IntKind.i64.wrap ((j:Int)+1)=((j+1:Nat):Int):=by rw [JWx _ (by omega) (by omega)];omega
   cases s0 with
   | true =>
    go_wp2;exact ⟨⟨j+1,g,cap,by omega,by go_num,by rw [gK.out];simp [fG.out],by rw [gK.out];simpa [fG.out] using gR.out,fW.out⟩,by simp [intOf];omega⟩
   | false =>
    go_wp2_with (at_builtin;refine WAL _ rfl _ _ 28 rfl v5.heap.size Tryz.underlying28 HI.out rfl (by omega) _ LL.length _ rfl (gR.out.alloc _) ⟨wr.heap.size,0,none⟩ 1 1 [.string t2] rfl rfl (World.news_of_block (heap_alloc_new wr _)) (by intro u hu;simp at hu;subst hu;rfl) (by have:=fW.out.size;simp;omega) (wr.heap.size+1) (by simp) ?_;intro g9 gL w9 eN eC gP iO;have iT:=hid eN;have i4:=hid eC;clear eN eC gP);have e9:x.ts++xmh (D.ops.take (j+1))=LL++[t2]:=by rw [gK.out,fG.out];simp
    have iM:Below v5.heap.size v5 w9:=jbs ((fW.out).alloc fW.out.size _) (gR.out.alloc _) i4.out (by have:=fW.out.size;simp;omega);exact ⟨⟨j+1,g9,gL,by omega,by go_num,by rw [e9];simp,by rw [e9];simpa using iT.out,iM⟩,by simp [intOf];omega⟩
  have gW:j=N:=by omega
  have hI:Hid (LL=ZmL x e D):=hid (by rw [fG.out,gW,HN.out];rfl);have jD:¬ (j:Int)<(N:Int):=by omega
  clear gW;have iP:v5.heap.size<=wr.heap.size:=hB.size;replace bA:=bA.low hB (by omega);replace bE:=bE.low hB (by omega);replace bR:=bR.low hB (by omega);replace od:=od.low hB (by omega);replace bX:=bX.low hB (by omega);replace hE:=hE.trans (hB.mono hE.size);have rT:=kX5 dY;have gT:=xLn dY;have wd:Dep wr v5.heap.size wr.heap.size (fun W=>Row W g (LL.map Value.string)):=xuV rT gT rT.lt (Nat.le_refl _);have jS:w.heap.size+1+1+1<=v5.heap.size:=by omega
  clear hB dY rT fG;obtain ⟨PP,gE⟩:∃ y,Hid (y=evP x e D):=⟨_,hid rfl⟩;have i7:PP.length<=201:=by rw [gE.out];unfold evP;split<;>(try simp)<;>omega
  obtain ⟨aS,aV,aW,aT,aR,aN,aO,aY,aU,aX,aA,aC,aE,aF,aD,aB,aQ⟩:=c16 bA.now;obtain ⟨aI,aJ,aH,aK⟩:=bE.now.k4;have aL:=bE.now.lt;obtain ⟨b7,bV,bH,bG,bY,bZ,bI,bJ,bU,bW,bC,aZ,bQ⟩:=c12 bX.now;go_upto_if 77 with fail;clear aS aV aW aT aR aN aO aY aU aX aA aC aE aF aD aB aQ aI aJ aH aK aL b7 bV bH bG bY bZ bI bJ bU bW bC aZ bQ;go_cut [11] from 75 to 85 (fun pv wx=>∃ (pa:Option Addr) (pc:Nat),pv=.slice pa PP.length pc/\PstF wx FF pa PP/\Below wr.heap.size wr wx)
  case first =>
   have k2:=iY.out;have ep:PP=x.P:=by rw [gE.out];unfold evP;rw [if_neg k2]
   have jO:(e.K == 2)=false:=by simp [k2]
   obtain ⟨aI,aJ,aH,aK⟩:=bE.now.k4;have aL:=bE.now.lt;go_wp2_with fail;go_meet;rw [ep];exact ⟨q.p,q.cp,rfl,(hw.below hE).h4,Below.refl _ _⟩
  case rest =>
  obtain ⟨pa,pc,rfl,eB,hb⟩:=hcut;have iU:wr.heap.size<=wc.heap.size:=hb.size;replace bA:=bA.below hb;replace bE:=bE.below hb;replace bR:=bR.below hb;replace od:=od.below hb;replace bX:=bX.below hb;replace wd:=wd.below hb;replace hE:=hE.trans (hb.mono hE.size);clear hb;have fZ:=iF;rw [<-hI.out,<-gE.out] at fZ;have jE:¬ ((2000:Int)<(LL.length:Int)):=by omega
  have jF:¬ ((200:Int)<(PP.length:Int)):=by omega
  clear fZ;have eL:¬ (2000<(ZmL x e D).length\/200<(evP x e D).length):=by exact iF
  have iB:=ho.ran e (d:=D) HD.out (by omega);have i3:=hid iB;have iW:=hid eL;clear iB eL;obtain ⟨aS,aV,aW,aT,aR,aN,aO,aY,aU,aX,aA,aC,aE,aF,aD,aB⟩:=bA.now.k16;obtain ⟨dJ,cS,dU,cQ,cT,dE,cW,cY,dM,dR,cO,cC,cE,cH,cI,cF⟩:=bA.now.z16;have aQ:=bA.now.lt;obtain ⟨aI,aJ,aH,aK⟩:=bE.now.k4;have aL:=bE.now.lt;obtain ⟨b7,bV,bH,bG,bY,bZ,bI,bJ,bU,bW,bC,aZ,bQ⟩:=c12 bX.now;go_wp2_with fail;clear aS dJ aV cS aW dU aT cQ aR cT aN dE aO cW aY cY aU dM aX dR aA cO aC cC aE cE aF cH aD cI aB cF aQ aI aJ aH aK aL b7 bV bH bG bY bZ bI bJ bU bW bC aZ bQ;generalize fA:((wc.setCell _ _).setCell _ _)=v6;have aM:wc.grownBy v6 (some (w.heap.size)):=by rw [<-fA];exact y09 (y09 (World.grownBy.refl _ _) _ _) _ _
  have aG:=fA ▸ ((bA.now.set 15 (by simp) (.slice (some ⟨g,0,none⟩) LL.length cap)).set 14 (by simp) (.slice pa PP.length pc));have iN:wc.heap.size<=v6.heap.size:=aM.size
  have aP:∀ g,(some (w.heap.size):Option Nat)=some g->w.heap.size<=g/\g<w.heap.size+1:=fun g hg=>by injection hg with hg;omega
  clear fA;replace bE:=bE.grown aM (fun g hg=>by have:=aP g hg;omega);replace bR:=bR.grown aM (fun g hg=>by have:=aP g hg;omega);replace od:=od.grown aM (fun g hg=>by have:=aP g hg;omega);replace bX:=bX.grown aM (fun g hg=>by have:=aP g hg;omega);replace wd:=wd.grown aM (fun g hg=>by have:=aP g hg;omega)
  replace eB:=eB.grown aM (fun g hg k=>by have:=aP g hg;first | exact absurd k (by rw [show g=w.heap.size by omega];exact gF) | exact absurd k (by rw [show g=w.heap.size+1+1 by omega];exact gG))
  replace hE:=hE.trans (jJX aM hE.size (fun g hg=>by have:=aP g hg;omega));have cP:=aG.lt;clear bA;have bA:=qXs aG;clear aG aM aP cP;obtain ⟨RR,gU⟩:∃ y,Hid (y=pfR x.ss x.ws D.ops (N:Int)):=⟨_,hid rfl⟩;have CG:=CF.out ob oe (N:Int);rw [<-gU.out] at CG;refine (CG _ (hw.below hE).at.h1 (hw.below hE).at.h2 od.now.p.ops).mono ?_;rintro e v7 ⟨a1,c1,gI,gO,rfl,gJ,k1,k2,hb⟩;have i9:v6.heap.size<=v7.heap.size:=hb.size;replace bA:=bA.below hb;replace bE:=bE.below hb;replace bR:=bR.below hb;replace od:=od.below hb;replace bX:=bX.below hb;replace wd:=wd.below hb;replace eB:=eB.below hb;replace hE:=hE.trans (hb.mono hE.size);have d1:Dep v7 v6.heap.size v7.heap.size (fun W=>OwnS W a1 (RR.1.map Value.string)):=JKD gJ.s Z3Z k1;have d2:Dep v7 v6.heap.size v7.heap.size (fun W=>OwnS W gI (yaV RR.2)):=JKD gJ.p qO5 k2;have ld:w.heap.size+1+1+1<=v6.heap.size:=by omega
  clear gJ k1 k2 CG;clear hb
  cases CB with
  | true =>
   have er:iK=(x.ran e D).pow e.fs:=by rw [fY.out];exact xeL hK iR.out hC iW.out fE.out.symm
   obtain ⟨aS,aV,aW,aT,aR,aN,aO,aY,aU,aX,aA,aC,aE,aF,aD,aB⟩:=bA.now.k16;obtain ⟨dJ,cS,dU,cQ,cT,dE,cW,cY,dM,dR,cO,cC,cE,cH,cI,cF⟩:=bA.now.z16;have aQ:=bA.now.lt;obtain ⟨aI,aJ,aH,aK⟩:=bE.now.k4;have aL:=bE.now.lt;go_wp2_with fail;clear aS dJ aV cS aW dU aT cQ aR cT aN dE aO cW aY cY aU dM aX dR aA cO aC cC aE cE aF cH aD cI aB cF aQ aI aJ aH aK aL;generalize fB:((v7.setCell _ _).setCell _ _)=v8;have aM:v7.grownBy v8 (some (w.heap.size)):=by rw [<-fB];exact y09 (y09 (World.grownBy.refl _ _) _ _) _ _
   have aG:=fB ▸ ((bA.now.set 1 (by simp) (.slice a1 RR.1.length c1)).set 2 (by simp) (.slice gI RR.2.length gO));have iV:v7.heap.size<=v8.heap.size:=aM.size
   have aP:∀ g,(some (w.heap.size):Option Nat)=some g->w.heap.size<=g/\g<w.heap.size+1:=fun g hg=>by injection hg with hg;omega
   clear fB;replace bE:=bE.grown aM (fun g hg=>by have:=aP g hg;omega);replace bR:=bR.grown aM (fun g hg=>by have:=aP g hg;omega);replace od:=od.grown aM (fun g hg=>by have:=aP g hg;omega);replace bX:=bX.grown aM (fun g hg=>by have:=aP g hg;omega);replace wd:=wd.grown aM (fun g hg=>by have:=aP g hg;omega)
   replace eB:=eB.grown aM (fun g hg k=>by have:=aP g hg;first | exact absurd k (by rw [show g=w.heap.size by omega];exact gF) | exact absurd k (by rw [show g=w.heap.size+1+1 by omega];exact gG))
   replace d1:=d1.grown aM (fun g hg=>by have:=aP g hg;omega);replace d2:=d2.grown aM (fun g hg=>by have:=aP g hg;omega);replace hE:=hE.trans (jJX aM hE.size (fun g hg=>by have:=aP g hg;omega));have cP:=aG.lt;clear bA;have bA:=qXs aG;clear aG aM aP cP;have gY:(x.ran e D).ss=RR.1:=by rw [gU.out,HN.out];rfl
   have iC:(x.ran e D).ws=RR.2:=by rw [gU.out,HN.out];rfl
   have gZ:(x.ran e D).ts=LL:=by rw [hI.out];rfl
   have gX:(x.ran e D).P=PP:=by rw [gE.out];rfl
   have eM:WoF (x.ran e D) _ FF ⟨a1,c1,gI,gO,q.s,q.cs,pa,pc,some ⟨g,0,none⟩,cap⟩:=⟨(xat d1 (fun b hb _=>gH.out b (by omega))).map fun W k=>by rw [gY];exact k.strs,(xat d2 (fun b hb _=>gH.out b (by omega))).map fun W k=>by rw [iC];exact k.wrs,(hw.below hE).h3,by rw [gX];exact eB,(xat wd (fun b hb _=>gH.out b (by omega))).map fun W k=>by rw [gZ];exact k.strs⟩;have CQ:=CP.out (x.ran e D) ⟨a1,c1,gI,gO,q.s,q.cs,pa,pc,some ⟨g,0,none⟩,cap⟩ _ eM i3.out.le (h3.below hE);obtain ⟨y,HY⟩:∃ y,Hid (y=(x.ran e D).pow e.fs):=⟨_,hid rfl⟩;rw [<-HY.out] at CQ er;have ER:=hid er;clear er;unfold Zov at CQ;rw [gY,iC,gZ,gX] at CQ;clear eM;refine (CQ).mono ?_;rintro e v9 ⟨q1,rfl,eM,hb⟩;have i5:v8.heap.size<=v9.heap.size:=hb.size;replace bA:=bA.below hb;replace bE:=bE.below hb;replace bR:=bR.below hb;replace od:=od.below hb;replace bX:=bX.below hb;replace wd:=wd.below hb;replace eB:=eB.below hb;replace d1:=d1.below hb;replace d2:=d2.below hb
   replace hE:=hE.trans (hb.mono hE.size);replace eM:=eM.mono (G:=FF) (fun b _ k=>k.elim id (fun k=>gH.out b (by omega)));clear hb;unfold Zov;obtain ⟨dV,dN,dI,cZ,dQ,cU,dK,dH,dL,dO,cK,cL,b8,cN,cJ,cM⟩:=bR.now.k16;obtain ⟨fF,fC,eW,eU,eZ,eQ,eY,eR,eT,eS,eH,eI,eF,eG,eJ,eK⟩:=bR.now.z16;have cV:=bR.now.lt;go_wp2;clear dV fF dN fC dI eW cZ eU dQ eZ cU eQ dK eY dH eR dL eT dO eS cK eH cL eI b8 eF cN eG cJ eJ cM eK cV;generalize eD:((((((((((((((((v9.setCell _ _).setCell _ _).setCell _ _).setCell _ _).setCell _ _).setCell _ _).setCell _ _).setCell _ _).setCell _ _).setCell _ _).setCell _ _).setCell _ _).setCell _ _).setCell _ _).setCell _ _).setCell _ _)=iD;have aM:v9.grownBy iD (some (w.heap.size+1+1)):=by rw [<-eD];exact y09 (y09 (y09 (y09 (y09 (y09 (y09 (y09 (y09 (y09 (y09 (y09 (y09 (y09 (y09 (y09 (World.grownBy.refl _ _) _ _) _ _) _ _) _ _) _ _) _ _) _ _) _ _) _ _) _ _) _ _) _ _) _ _) _ _) _ _) _ _
   have aG:=eD ▸ ((((((((((((((((bR.now.set 0 (by simp) (.int .i64 y.w)).set 1 (by simp) (.slice q1.a y.ss.length q1.c)).set 2 (by simp) (.slice q1.a' y.ws.length q1.c')).set 3 (by simp) (.bool y.up)).set 4 (by simp) (.int .i64 y.W)).set 5 (by simp) (.int .i64 y.S)).set 6 (by simp) (.int .i64 y.L)).set 7 (by simp) (.int .i64 y.T)).set 8 (by simp) (.int .i64 y.H)).set 9 (by simp) (.int .i64 y.F)).set 10 (by simp) (.int .i64 y.R)).set 11 (by simp) (.int .i64 y.U)).set 12 (by simp) (.int .i64 y.O)).set 13 (by simp) (.slice q1.s y.rs.length q1.cs)).set 14 (by simp) (.slice q1.p y.P.length q1.cp)).set 15 (by simp) (.slice q1.t y.ts.length q1.ct));have iA:v9.heap.size<=iD.heap.size:=aM.size
   have aP:∀ g,(some (w.heap.size+1+1):Option Nat)=some g->w.heap.size+1+1<=g/\g<w.heap.size+1+1+1:=fun g hg=>by injection hg with hg;omega
   clear eD;replace bA:=bA.grown aM (fun g hg=>by have:=aP g hg;omega);replace bE:=bE.grown aM (fun g hg=>by have:=aP g hg;omega);replace od:=od.grown aM (fun g hg=>by have:=aP g hg;omega);replace bX:=bX.grown aM (fun g hg=>by have:=aP g hg;omega);replace wd:=wd.grown aM (fun g hg=>by have:=aP g hg;omega)
   replace eB:=eB.grown aM (fun g hg k=>by have:=aP g hg;first | exact absurd k (by rw [show g=w.heap.size by omega];exact gF) | exact absurd k (by rw [show g=w.heap.size+1+1 by omega];exact gG))
   replace d1:=d1.grown aM (fun g hg=>by have:=aP g hg;omega);replace d2:=d2.grown aM (fun g hg=>by have:=aP g hg;omega)
   replace eM:=eM.grown aM (fun g hg k=>by have:=aP g hg;first | exact absurd k (by rw [show g=w.heap.size by omega];exact gF) | exact absurd k (by rw [show g=w.heap.size+1+1 by omega];exact gG))
   replace hE:=hE.trans (jJX aM hE.size (fun g hg=>by have:=aP g hg;omega));have cP:=aG.lt;clear bR;have bR:=qXs aG;clear aG aM aP cP;rw [ER.out];obtain ⟨dV,dN,dI,cZ,dQ,cU,dK,dH,dL,dO,cK,cL,b8,cN,cJ,cM,cV⟩:=c16 bR.now;exact bodyPost_ret (v:=.agg (wA y q1)) (by simp [results,Tryz.results44,go_sem,dV,dN,dI,cZ,dQ,cU,dK,dH,dL,dO,cK,cL,b8,cN,cJ,cM,cV]) rfl ⟨q1,rfl,(eM).mono fun b _ k=>iZ.out b k,hE⟩
  | false =>
   exact absurd (fE.out.trans eP) (by simp)
end Go.Proofs.YtcdojnnkjeakmaaGreatDoor
