import Derived.Test.YtcdojnnkjeakmaaGreatDoorPrWdD0
set_option maxHeartbeats 16000000
namespace Go.Proofs.YtcdojnnkjeakmaaGreatDoor
open Go.RowKit
set_option maxRecDepth 8000
set_option linter.unusedVariables false
set_option linter.unusedSimpArgs false
theorem xXR (x:Wo) (q:Wp) (e:Ev) (a:Option Addr) (c:Nat) (f:Option Addr) (d:Nat) (F:Nat->Prop) (w:World) (h:WoF x w F q) (ho:x.ok) (h2:Chs w a e.b) (h3:Ints w f e.fs) (he:e.le) (hK:¬ e.K=5) (D:Dd) (eM:x.call e=(D,true)) (hC:D.C=0) (jI:¬ (2000<(ZmL x e D).length\/200<(evP x e D).length)) (fQ:ZJ5 e D=true) (k2:e.K=2) :
  Calls Tryz.prog 44 #[Zov x q,vMH e a c f d] w fun r w'=>QRt w w' F r (x.doE e):=by
 have hm:=ho.le
 obtain ⟨FF,jK,eT,iG,iH,j5⟩:∃ FF:Nat->Prop,Hid (∀ b,b<w.heap.size->F b->FF b)/\Hid (∀ b,w.heap.size+1+1+1<=b->FF b)/\Hid (¬ FF w.heap.size)/\Hid (¬ FF (w.heap.size+1+1))/\Hid (∀ b,FF b->F b\/w.heap.size<=b) :=
  ⟨fun b=>(F b/\b<w.heap.size)\/w.heap.size+1+1+1<=b,fun b h1 h2=>.inl ⟨h2,h1⟩,fun b h=>.inr h,fun h=>by rcases h with h | h;exact absurd h.2 (by omega);omega,fun h=>by rcases h with h | h;exact absurd h.2 (by omega);omega,fun b h=>by rcases h with h | h;exact .inl h.1;exact .inr (by omega)⟩
 have hw:WoF x w FF q:=h.mono jK;clear h jK;have CP:=hid (fun y q1 w' (k1:WoF y w' FF q1) (hy:y.le 1048576) k2=>qpH y q1 f e.fs d FF w' k1 hy k2 he.f);have j4:=hid k2;clear k2;have jM:=hid hC;clear hC;have hD:=ho.call e;have CC:=hid (fun w' k1 k2=>QQS x q e a c f d w' k1 hm k2 he);rw [eM] at CC hD;simp only at CC hD;have HD:=hid hD;have kV:D.ops.length<=1000:=hD.2.1;have CF:=hid (fun ob oe (z:Int) w' k1 k2 k3=>jEL q.a x.ss q.c q.a' x.ws q.c' ob D.ops oe z w' k1 k2 k3 (by omega) (fun o ho=>by have:=hD.2.2 o ho;omega) hm.l1 hm.l2 hm.s1 hm.s2);unfold Zoj at CF;have jV:=hid eM;clear eM hD;obtain ⟨i0,gZ,gS,gW,gN⟩:=vHq kML;have HI:=hid (And.intro gZ (And.intro gS (And.intro gW gN)));clear gZ gS gW gN;obtain ⟨i1,gZ,gS,gW,gN⟩:=vHq q7E;have HJ:=hid (And.intro gZ (And.intro gS (And.intro gW gN)));clear gZ gS gW gN;have kS:=hm.l5;have kR:=ho.p.1;have kP:=ho.t.1;obtain ⟨jN,iA⟩:∃ y,Hid (y=x.doE e):=⟨_,hid rfl⟩;rw [<-iA.out];unfold Zov vMH at CC ⊢
 have hE:Below w.heap.size w w:=Below.refl _ _;have k7:(e.K == 5)=false:=by simp [hK]
 go_enter Tryz.func44,Tryz.ntmps44;go_wp2_with fail;generalize iD:w.alloc _=v1;obtain ⟨hb,iQ,bA⟩:=bx1 iD;clear iD;replace hE:=hE.trans (hb.mono hE.size);clear hb;generalize gR:v1.alloc _=v2;obtain ⟨hb,gU,bE⟩:=bx1 gR;clear gR;rw [iQ] at bE gU;replace bA:=bA.below hb;replace hE:=hE.trans (hb.mono hE.size);clear hb;generalize gO:v2.alloc _=v3;obtain ⟨hb,iV,bR⟩:=bx1 gO;clear gO;rw [gU] at bR iV;replace bA:=bA.below hb;replace bE:=bE.below hb;replace hE:=hE.trans (hb.mono hE.size);clear hb;refine (CC.out _ (hw.below hE).at (h2.below hE)).mono ?_;rintro e v4 ⟨oa,oc,ob,oe,rfl,kD,own,g1,g2,hb⟩;have jU:v3.heap.size<=v4.heap.size:=hb.size;replace bA:=bA.below hb;replace bE:=bE.below hb;replace bR:=bR.below hb;replace hE:=hE.trans (hb.mono hE.size);have od:Dep v4 v3.heap.size v4.heap.size (fun W=>OwnDn W D.rs D.ops oa ob):=y80 own g1 g2;have kL:w.heap.size+1+1+1<=v3.heap.size:=by omega
 clear own g1 g2;clear hb;unfold dnV;go_upto_region 4 with fail;generalize hY:v4.alloc _=v5;obtain ⟨hb,iN,bX⟩:=bx1 hY;have kA:v4.heap.size+1<=v5.heap.size:=by omega
 clear hY iN;replace bA:=bA.below hb;replace bE:=bE.below hb;replace bR:=bR.below hb;replace od:=od.below hb;replace hE:=hE.trans (hb.mono hE.size);clear hb;obtain ⟨XB,gX⟩:∃ y,y=v4.heap.size:=⟨_,rfl⟩;rw [<-gX] at bX ⊢;have kF:w.heap.size+1+1+1<=XB:=by omega
 have kU:XB<v5.heap.size:=bX.now.lt;clear gX;generalize Value.tuple _=T0;generalize Value.agg (wA x q)=A0;generalize Value.agg #[.int .i64 D.C,.int .i64 D.W,.int .i64 D.S,.int .i64 D.L,.int .i64 D.T,.int .i64 D.H,.int .i64 D.F,.int .i64 D.R,.int .i64 D.U,.int .i64 D.O,.slice oa D.rs.length oc,.slice ob D.ops.length oe]=A1;generalize Value.agg #[.int .i64 e.K,.slice a e.b.length c,.int .i64 e.cut,.slice f e.fs.length d]=A2;have hC:=jM.out;rw [hC] at bX;obtain ⟨N,HN⟩:∃ N,Hid (N=evN e D):=⟨_,hid rfl⟩;obtain ⟨CB,gK⟩:∃ b,Hid (b=ZJ5 e D):=⟨_,hid rfl⟩;have kQ:N<=D.ops.length:=by rw [HN.out];exact X7G e D
 obtain ⟨cE,bZ,bQ,bJ,b8,cC,bU,bV,bY,b7,bG,bC,bW⟩:=c12 bX.now;obtain ⟨aE,aF,aB,aG⟩:=bE.now.k4;have aJ:=bE.now.lt;go_upto_region 7 with fail;have gE:Hid (CB=true->e.cut=(N:Int)):=hid (fun k=>by rw [gK.out] at k;have k:=of_decide_eq_true (by unfold ZJ5 at k;exact k);rw [HN.out];unfold evN;rw [if_pos k];omega);have fZ:Hid (CB=false->N=D.ops.length):=hid (fun k=>by rw [gK.out] at k;have k:=of_decide_eq_false (by unfold ZJ5 at k;exact k);rw [HN.out];unfold evN;rw [if_neg k]);go_cut [8] from 36 to 44 (fun cv wx=>cv=.bool CB/\wx=v5)
 case first =>
  by_cases k1:0<=e.cut
  ·by_cases k2:e.cut<=(D.ops.length:Int)
   ·have fQ:CB=true:=by rw [gK.out];unfold ZJ5;exact decide_eq_true ⟨k1,k2⟩
    clear gE fZ;go_wp2;go_meet;exact ⟨by rw [fQ],rfl⟩
   ·have fQ:CB=false:=by rw [gK.out];unfold ZJ5;exact decide_eq_false (fun h=>k2 h.2)
    clear gE fZ;go_wp2;go_meet;exact ⟨by rw [fQ],rfl⟩
  ·have fQ:CB=false:=by rw [gK.out];unfold ZJ5;exact decide_eq_false (fun h=>k1 h.1)
   clear gE fZ;go_wp2;go_meet;exact ⟨by rw [fQ],rfl⟩
 case rest =>
 obtain ⟨e8,gY⟩:=hcut;subst e8;rw [gY];clear gY;go_upto_if 45 with fail;go_cut [7] from 46 to 47 (fun nv wx=>nv=.int .i64 (N:Int)/\wx=v5)
 case first =>
  cases CB with
  | true =>
   have hn:=hid (gE.out rfl);clear gE fZ;go_wp2;go_meet;exact ⟨by rw [hn.out],rfl⟩
  | false =>
   have hn:=hid (fZ.out rfl);clear gE fZ;go_wp2;go_meet;exact ⟨by rw [hn.out],rfl⟩
 case rest =>
 obtain ⟨e7,gY⟩:=hcut;subst e7;rw [gY];clear gY gE fZ;clear cE bZ bQ bJ b8 cC bU bV bY b7 bG bC bW aE aF aB aG aJ;have kY:(N:Int)<=1000:=by omega
 obtain ⟨aT,aW,aX,aU,aS,aO,aP,aZ,aV,aY,aA,aD,aI,aK,aH,aC,aR⟩:=c16 bA.now;go_wp2_with (at_builtin;refine Z4q rfl _ _ 28 rfl 9 i0 (.string ByteArray.empty) 1 16 Tryz.underlying28 HI.out.1 HI.out.2.1 HI.out.2.2.1 HI.out.2.2.2 rfl v5.heap.size v5.heap.size rfl (World.ownsRow_lit _ #[] 0 (Nat.le_refl _) (by simp) (by simp)) _ rfl x.ts.length _ (QKc ((hw.below hE).at.h5.below (xCS _ _)) _ _ Tryz.underlying28 q.ct) (by omega) (by omega) (by simp) ?_;intro g0 iX ws fJ jL jA);clear aT aW aX aU aS aO aP aZ aV aY aA aD aI aK aH aC aR;have jJ:Below v5.heap.size v5 ws:=(xCS _ _).trans (jA.mono (by simp));clear jA jL;go_loopw [9,10] (fun wv iv wr=>∃ (j g cap:Nat),j<=N/\iv=.int .i64 (j:Int)/\wv=.slice (some ⟨g,0,none⟩) (x.ts++xmh (D.ops.take j)).length cap/\wr.ownsRow v5.heap.size 9 1 (.slice (some ⟨g,0,none⟩) (x.ts++xmh (D.ops.take j)).length cap) (x.ts++xmh (D.ops.take j)).length ((x.ts++xmh (D.ops.take j)).map Value.string)/\Below v5.heap.size v5 wr) (fun _ iv _=>N-(intOf iv).toNat)
 case atStart=>exact ⟨0,g0,iX,Nat.zero_le _,rfl,by simp [xmh],by simpa [xmh] using fJ,jJ⟩
 case round =>
  clear fJ jJ;obtain ⟨j,g,cap,hj,rfl,rfl,eL,hB⟩:=hrel;have jH:=yHD (D.ops.take j);rw [List.length_take] at jH;have j1:(x.ts++xmh (D.ops.take j)).length<=4000:=by rw [List.length_append];omega
  obtain ⟨LL,gM⟩:∃ y,Hid (y=x.ts++xmh (D.ops.take j)):=⟨_,hid rfl⟩;rw [<-gM.out] at eL j1 ⊢;clear jH
  by_cases kM:j<N
  ·have jW:(j:Int)<(N:Int):=by omega
   have kN:(0:Int)<=(j:Int):=by omega
   have kZ:(j:Int)<(D.ops.length:Int):=by omega
   have X1:=(bX.low hB (by omega)).now;have kG:=X1.cell 11 _ rfl;have kW:=X1.lt;obtain ⟨b1,o1,s0,n1,t2,rfl,c0,c1,c2,jQ⟩:=(od.low hB (by omega)).now.p.ops.at (k:=j) (by omega);have iM:=kde D.ops j (by omega);rw [<-jQ.out] at iM;have iL:=hid iM;clear iM X1;have iT:=hid eL;have hI:=hid hB;have kO:=Zoz c0;clear eL hB;have kH:IntKind.i64.wrap ((j:Int)+1)=((j+1:Nat):Int):=by rw [JWx _ (by omega) (by omega)];omega
   cases s0 with
   | true =>
    go_wp2;exact ⟨⟨j+1,g,cap,by omega,by go_num,by rw [iL.out];simp [gM.out],by rw [iL.out];simpa [gM.out] using iT.out,hI.out⟩,by simp [intOf];omega⟩
   | false =>
    go_wp2_with (at_builtin;refine WAL _ rfl _ _ 28 rfl v5.heap.size Tryz.underlying28 HI.out rfl (by omega) _ LL.length _ rfl (iT.out.alloc _) ⟨wr.heap.size,0,none⟩ 1 1 [.string t2] rfl rfl (World.news_of_block (heap_alloc_new wr _)) (by intro u hu;simp at hu;subst hu;rfl) (by have:=hI.out.size;simp;omega) (wr.heap.size+1) (by simp) ?_;intro g9 dH w9 fI eR eZ fS;have jX:=hid fI;have j8:=hid eR;clear fI eR eZ);have e9:x.ts++xmh (D.ops.take (j+1))=LL++[t2]:=by rw [iL.out,gM.out];simp
    have jR:Below v5.heap.size v5 w9:=jbs ((hI.out).alloc hI.out.size _) (iT.out.alloc _) j8.out (by have:=hI.out.size;simp;omega);exact ⟨⟨j+1,g9,dH,by omega,by go_num,by rw [e9];simp,by rw [e9];simpa using jX.out,jR⟩,by simp [intOf];omega⟩
  have iZ:j=N:=by omega
  have i9:Hid (LL=ZmL x e D):=hid (by rw [gM.out,iZ,HN.out];rfl);have kI:¬ (j:Int)<(N:Int):=by omega
  clear iZ;have jT:v5.heap.size<=wr.heap.size:=hB.size;replace bA:=bA.low hB (by omega);replace bE:=bE.low hB (by omega);replace bR:=bR.low hB (by omega);replace od:=od.low hB (by omega);replace bX:=bX.low hB (by omega);replace hE:=hE.trans (hB.mono hE.size);have rT:=kX5 eL;have gT:=xLn eL;have wd:Dep wr v5.heap.size wr.heap.size (fun W=>Row W g (LL.map Value.string)):=xuV rT gT rT.lt (Nat.le_refl _);have kX:w.heap.size+1+1+1<=v5.heap.size:=by omega
  clear hB eL rT gM;obtain ⟨PP,iF⟩:∃ y,Hid (y=evP x e D):=⟨_,hid rfl⟩;have kC:PP.length<=201:=by rw [iF.out];unfold evP;split<;>(try simp)<;>omega
  obtain ⟨aT,aW,aX,aU,aS,aO,aP,aZ,aV,aY,aA,aD,aI,aK,aH,aC,aR⟩:=c16 bA.now;obtain ⟨aE,aF,aB,aG⟩:=bE.now.k4;have aJ:=bE.now.lt;obtain ⟨cE,bZ,bQ,bJ,b8,cC,bU,bV,bY,b7,bG,bC,bW⟩:=c12 bX.now;go_upto_if 77 with fail;clear aT aW aX aU aS aO aP aZ aV aY aA aD aI aK aH aC aR aE aF aB aG aJ cE bZ bQ bJ b8 cC bU bV bY b7 bG bC bW;go_cut [11] from 75 to 85 (fun pv wx=>∃ (pa:Option Addr) (pc:Nat),pv=.slice pa PP.length pc/\PstF wx FF pa PP/\Below wr.heap.size wr wx)
  case first =>
   have k2:=j4.out;have ep:PP=x.P++[D.rs]:=by rw [iF.out];unfold evP;rw [if_pos k2]
   have kT:(e.K == 2)=true:=by simp [k2]
   clear k2;obtain ⟨news,fV,fO,iR⟩:=ymZ (P:=Tryz.prog) (hw.below hE).h4 60 57 Tryz.underlying60 q.cp;obtain ⟨aE,aF,aB,aG⟩:=bE.now.k4;have aJ:=bE.now.lt;go_upto_region 18 with fail;clear aE aF aB aG aJ
   have HK:Hid (∀ W,Below wr.heap.size wr W->W.cell? ⟨XB,10,none⟩=some (.slice oa D.rs.length oc)):=fun W hb=>(bX.below hb).now.cell 10 _ rfl
   refine wp_region_held_drew (S:=fun w'=>w'.cell? ⟨XB,10,none⟩=some (.slice oa D.rs.length oc)) (by kernel_rfl) (HK.out _ (Below.refl _ _).drew) (fun iJ=>?_);refine TY 1 (.slice q.p x.P.length q.cp) rfl iJ (TY 3 (.pointer (some ⟨XB,1,none⟩)) rfl iJ (TY 4 (.pointer (some ⟨XB,10,none⟩)) rfl iJ (TY 5 (.agg #[.slice oa D.rs.length oc]) rfl iJ ?_)));simp only [PS];refine wpAnyH_ready (rs:=[0,6]) (by kernel_rfl) (by simp) ?_;refine AllReadyH.cons rfl (fun Kq bH=>?_) (AllReadyH.cons rfl (fun Kq bH=>?_) AllReadyH.nil)
   ·obtain ⟨y0,eD⟩:∃ y,y=wr.drew:=⟨_,rfl⟩
    rw [<-eD];have eY:Below wr.heap.size wr y0:=by rw [eD];exact (Below.refl _ _).drew
    clear eD;go_simp;have iE:=xCS y0 (.cells #[] 57);have eQ:=xER y0 #[] 57
    have cF:=World.ownsRow_lit (w:=y0) (e:=57) (size:=1) (base:=wr.heap.size) #[] 0 eY.size (by first | simp | decide | omega) (by first | simp | decide | (unfold maxLen;omega) | omega)
    obtain ⟨y1,eJ⟩:∃ y,y=y0.alloc (.cells #[] 57):=⟨_,rfl⟩;obtain ⟨b0,bI⟩:∃ y,y=y0.heap.size:=⟨_,rfl⟩;rw [<-eJ] at iE eQ cF ⊢;rw [<-bI] at eQ cF ⊢;have cZ:=eY.trans (iE.mono eY.size);have iS:wr.heap.size<=b0:=by rw [bI];exact eY.size
    have iY:=hid bI;clear eJ;clear bI;refine bH.out _ _ (HK.out _ cZ) (fun j3=>?_)
    try simp only [PS]
    refine wpAnyH_ready (rs:=[2,6]) (by kernel_rfl) (by simp) ?_;refine AllReadyH.cons rfl (fun Kq bH=>?_) (AllReadyH.cons rfl (fun Kq bH=>?_) AllReadyH.nil)
    ·refine z98 rfl _ _ 60 rfl 57 i1 (.agg #[.slice none 0 0]) 1 24 Tryz.underlying60 HJ.out.1 HJ.out.2.1 HJ.out.2.2.1 HJ.out.2.2.2 rfl b0 wr.heap.size rfl cF _ rfl x.P.length news (fV _ cZ) (by omega) (by omega) cZ.size ?_
     intro g3 gP y2 eU i8 fA;have cU:=cZ.trans (fA.mono cZ.size);refine bH.out _ _ (HK.out _ cU) (fun jP=>?_)
     try simp only [PS]
     refine RD 6 rfl (fun Kq bH=>?_);go_simp;have fE:=xCS y2 (.cells #[.slice oa D.rs.length oc] 57);have aM:=xER y2 #[.slice oa D.rs.length oc] 57
     have cW:=World.ownsRow_lit (w:=y2) (e:=57) (size:=1) (base:=wr.heap.size) #[.slice oa D.rs.length oc] 1 cU.size (by first | simp | decide | omega) (by first | simp | decide | (unfold maxLen;omega) | omega)
     obtain ⟨y3,eJ⟩:∃ y,y=y2.alloc (.cells #[.slice oa D.rs.length oc] 57):=⟨_,rfl⟩;obtain ⟨b6,bI⟩:∃ y,y=y2.heap.size:=⟨_,rfl⟩;rw [<-eJ] at fE aM cW ⊢;rw [<-bI] at aM cW ⊢;have eK:=cU.trans (fE.mono cU.size);have gQ:wr.heap.size<=b6:=by rw [bI];exact cU.size
     have iB:=hid bI;clear eJ;clear bI;have eU:=jcb eU fE;refine bH.out _ _ (HK.out _ eK) (fun j6=>?_)
     try simp only [PS]
     refine RD 7 rfl (fun Kq bH=>?_);refine SAL _ rfl _ _ 60 rfl wr.heap.size Tryz.underlying60 HJ.out rfl (by omega) _ x.P.length _ rfl eU ⟨b6,0,none⟩ 1 1 [.slice oa D.rs.length oc] rfl rfl (fun j u hu=>by rw [JoX];exact aM.cell j u hu) (by intro u hu;simp at hu;subst hu;rfl) eK.size _ rfl ?_;intro g9 dH y4 o9 eN eZ fS;have eP:Below wr.heap.size wr y4:=jbs eK eU eN eK.size;refine bH.out _ _ (HK.out _ eP) (fun iU=>?_)
     try simp only [PS]
     refine RD 8 rfl (fun Kq bH=>?_);go_simp;refine bH.out _ _ iU (fun _=>?_)
     try simp only [PS]
     refine DN ?_;clear HK;go_wp2_with fail;go_meet;have r9:=kX5 o9;have jC:=xLn o9;refine ⟨some ⟨g9,0,none⟩,dH,by rw [ep];simp,?_,eP⟩;rw [ep];have s9:=eP;exact Xiu (G:=FF) fO (fun i hi=>by obtain ⟨p',c',k1,k2⟩:=iR i hi;exact ⟨p',c',k1,k2.below s9⟩) r9 (eT.out _ (by omega)) ((xat (od.below s9) (fun b hb _=>eT.out b (by omega))).map fun W k=>k.s.prs)
    ·go_simp
     have fA:=xCS y1 (.cells #[.slice oa D.rs.length oc] 57);have aM:=xER y1 #[.slice oa D.rs.length oc] 57
     have cW:=World.ownsRow_lit (w:=y1) (e:=57) (size:=1) (base:=wr.heap.size) #[.slice oa D.rs.length oc] 1 cZ.size (by first | simp | decide | omega) (by first | simp | decide | (unfold maxLen;omega) | omega)
     obtain ⟨y2,eJ⟩:∃ y,y=y1.alloc (.cells #[.slice oa D.rs.length oc] 57):=⟨_,rfl⟩;obtain ⟨b6,bI⟩:∃ y,y=y1.heap.size:=⟨_,rfl⟩;rw [<-eJ] at fA aM cW ⊢;rw [<-bI] at aM cW ⊢;have cU:=cZ.trans (fA.mono cZ.size);have gQ:wr.heap.size<=b6:=by rw [bI];exact cZ.size
     have iB:=hid bI;clear eJ;clear bI;have cF:=jcb cF fA;refine bH.out _ _ (HK.out _ cU) (fun jO=>?_)
     try simp only [PS]
     refine RD 2 rfl (fun Kq bH=>?_);refine z98 rfl _ _ 60 rfl 57 i1 (.agg #[.slice none 0 0]) 1 24 Tryz.underlying60 HJ.out.1 HJ.out.2.1 HJ.out.2.2.1 HJ.out.2.2.2 rfl b0 wr.heap.size rfl cF _ rfl x.P.length news (fV _ cU) (by omega) (by omega) cU.size ?_;intro g3 gP y3 eU i8 fE;have eK:=cU.trans (fE.mono cU.size);have aM:=aM.below fE;refine bH.out _ _ (HK.out _ eK) (fun j2=>?_)
     try simp only [PS]
     refine RD 7 rfl (fun Kq bH=>?_);refine SAL _ rfl _ _ 60 rfl wr.heap.size Tryz.underlying60 HJ.out rfl (by omega) _ x.P.length _ rfl eU ⟨b6,0,none⟩ 1 1 [.slice oa D.rs.length oc] rfl rfl (fun j u hu=>by rw [JoX];exact aM.cell j u hu) (by intro u hu;simp at hu;subst hu;rfl) eK.size _ rfl ?_;intro g9 dH y4 o9 eN eZ fS;have eP:Below wr.heap.size wr y4:=jbs eK eU eN eK.size;refine bH.out _ _ (HK.out _ eP) (fun iO=>?_)
     try simp only [PS]
     refine RD 8 rfl (fun Kq bH=>?_);go_simp;refine bH.out _ _ iO (fun _=>?_)
     try simp only [PS]
     refine DN ?_;clear HK;go_wp2_with fail;go_meet;have r9:=kX5 o9;have jC:=xLn o9;refine ⟨some ⟨g9,0,none⟩,dH,by rw [ep];simp,?_,eP⟩;rw [ep];have s9:=eP;exact Xiu (G:=FF) fO (fun i hi=>by obtain ⟨p',c',k1,k2⟩:=iR i hi;exact ⟨p',c',k1,k2.below s9⟩) r9 (eT.out _ (by omega)) ((xat (od.below s9) (fun b hb _=>eT.out b (by omega))).map fun W k=>k.s.prs)
   ·obtain ⟨y0,eD⟩:∃ y,y=wr.drew:=⟨_,rfl⟩
    rw [<-eD];have eY:Below wr.heap.size wr y0:=by rw [eD];exact (Below.refl _ _).drew
    clear eD;go_simp;have iE:=xCS y0 (.cells #[.slice oa D.rs.length oc] 57);have aM:=xER y0 #[.slice oa D.rs.length oc] 57
    have cW:=World.ownsRow_lit (w:=y0) (e:=57) (size:=1) (base:=wr.heap.size) #[.slice oa D.rs.length oc] 1 eY.size (by first | simp | decide | omega) (by first | simp | decide | (unfold maxLen;omega) | omega)
    obtain ⟨y1,eJ⟩:∃ y,y=y0.alloc (.cells #[.slice oa D.rs.length oc] 57):=⟨_,rfl⟩;obtain ⟨b6,bI⟩:∃ y,y=y0.heap.size:=⟨_,rfl⟩;rw [<-eJ] at iE aM cW ⊢;rw [<-bI] at aM cW ⊢;have cZ:=eY.trans (iE.mono eY.size);have gQ:wr.heap.size<=b6:=by rw [bI];exact eY.size
    have iB:=hid bI;clear eJ;clear bI;refine bH.out _ _ (HK.out _ cZ) (fun i7=>?_)
    try simp only [PS]
    refine RD 0 rfl (fun Kq bH=>?_);go_simp;have fA:=xCS y1 (.cells #[] 57);have eQ:=xER y1 #[] 57
    have cF:=World.ownsRow_lit (w:=y1) (e:=57) (size:=1) (base:=wr.heap.size) #[] 0 cZ.size (by first | simp | decide | omega) (by first | simp | decide | (unfold maxLen;omega) | omega)
    obtain ⟨y2,eJ⟩:∃ y,y=y1.alloc (.cells #[] 57):=⟨_,rfl⟩;obtain ⟨b0,bI⟩:∃ y,y=y1.heap.size:=⟨_,rfl⟩;rw [<-eJ] at fA eQ cF ⊢;rw [<-bI] at eQ cF ⊢;have cU:=cZ.trans (fA.mono cZ.size);have iS:wr.heap.size<=b0:=by rw [bI];exact cZ.size
    have iY:=hid bI;clear eJ;clear bI;have aM:=aM.below fA;refine bH.out _ _ (HK.out _ cU) (fun i6=>?_)
    try simp only [PS]
    refine RD 2 rfl (fun Kq bH=>?_);refine z98 rfl _ _ 60 rfl 57 i1 (.agg #[.slice none 0 0]) 1 24 Tryz.underlying60 HJ.out.1 HJ.out.2.1 HJ.out.2.2.1 HJ.out.2.2.2 rfl b0 wr.heap.size rfl cF _ rfl x.P.length news (fV _ cU) (by omega) (by omega) cU.size ?_;intro g3 gP y3 eU i8 fE;have eK:=cU.trans (fE.mono cU.size);have aM:=aM.below fE;refine bH.out _ _ (HK.out _ eK) (fun jE=>?_)
    try simp only [PS]
    refine RD 7 rfl (fun Kq bH=>?_);refine SAL _ rfl _ _ 60 rfl wr.heap.size Tryz.underlying60 HJ.out rfl (by omega) _ x.P.length _ rfl eU ⟨b6,0,none⟩ 1 1 [.slice oa D.rs.length oc] rfl rfl (fun j u hu=>by rw [JoX];exact aM.cell j u hu) (by intro u hu;simp at hu;subst hu;rfl) eK.size _ rfl ?_;intro g9 dH y4 o9 eN eZ fS;have eP:Below wr.heap.size wr y4:=jbs eK eU eN eK.size;refine bH.out _ _ (HK.out _ eP) (fun gV=>?_)
    try simp only [PS]
    refine RD 8 rfl (fun Kq bH=>?_);go_simp;refine bH.out _ _ gV (fun _=>?_)
    try simp only [PS]
    refine DN ?_;clear HK;go_wp2_with fail;go_meet;have r9:=kX5 o9;have jC:=xLn o9;refine ⟨some ⟨g9,0,none⟩,dH,by rw [ep];simp,?_,eP⟩;rw [ep];have s9:=eP;exact Xiu (G:=FF) fO (fun i hi=>by obtain ⟨p',c',k1,k2⟩:=iR i hi;exact ⟨p',c',k1,k2.below s9⟩) r9 (eT.out _ (by omega)) ((xat (od.below s9) (fun b hb _=>eT.out b (by omega))).map fun W k=>k.s.prs)
  case rest =>
  obtain ⟨pa,pc,rfl,eO,hb⟩:=hcut;have jY:wr.heap.size<=wc.heap.size:=hb.size;replace bA:=bA.below hb;replace bE:=bE.below hb;replace bR:=bR.below hb;replace od:=od.below hb;replace bX:=bX.below hb;replace wd:=wd.below hb;replace hE:=hE.trans (hb.mono hE.size);clear hb;have iC:=jI;rw [<-i9.out,<-iF.out] at iC;have kJ:¬ ((2000:Int)<(LL.length:Int)):=by omega
  have kK:¬ ((200:Int)<(PP.length:Int)):=by omega
  clear iC;have fG:¬ (2000<(ZmL x e D).length\/200<(evP x e D).length):=by exact jI
  have jD:=ho.ran e (d:=D) HD.out (by omega);have j7:=hid jD;have j0:=hid fG;clear jD fG;obtain ⟨aT,aW,aX,aU,aS,aO,aP,aZ,aV,aY,aA,aD,aI,aK,aH,aC⟩:=bA.now.k16;obtain ⟨dU,dE,eH,cY,dI,dO,dL,dM,dZ,eG,cT,cI,cJ,cL,cM,cK⟩:=bA.now.z16;have aR:=bA.now.lt;obtain ⟨aE,aF,aB,aG⟩:=bE.now.k4;have aJ:=bE.now.lt;obtain ⟨cE,bZ,bQ,bJ,b8,cC,bU,bV,bY,b7,bG,bC,bW⟩:=c12 bX.now;go_wp2_with fail;clear aT dU aW dE aX eH aU cY aS dI aO dO aP dL aZ dM aV dZ aY eG aA cT aD cI aI cJ aK cL aH cM aC cK aR aE aF aB aG aJ cE bZ bQ bJ b8 cC bU bV bY b7 bG bC bW;generalize gH:((wc.setCell _ _).setCell _ _)=v6;have aN:wc.grownBy v6 (some (w.heap.size)):=by rw [<-gH];exact y09 (y09 (World.grownBy.refl _ _) _ _) _ _
  have aL:=gH ▸ ((bA.now.set 15 (by simp) (.slice (some ⟨g,0,none⟩) LL.length cap)).set 14 (by simp) (.slice pa PP.length pc));have jS:wc.heap.size<=v6.heap.size:=aN.size
  have aQ:∀ g,(some (w.heap.size):Option Nat)=some g->w.heap.size<=g/\g<w.heap.size+1:=fun g hg=>by injection hg with hg;omega
  clear gH;replace bE:=bE.grown aN (fun g hg=>by have:=aQ g hg;omega);replace bR:=bR.grown aN (fun g hg=>by have:=aQ g hg;omega);replace od:=od.grown aN (fun g hg=>by have:=aQ g hg;omega);replace bX:=bX.grown aN (fun g hg=>by have:=aQ g hg;omega);replace wd:=wd.grown aN (fun g hg=>by have:=aQ g hg;omega)
  replace eO:=eO.grown aN (fun g hg k=>by have:=aQ g hg;first | exact absurd k (by rw [show g=w.heap.size by omega];exact iG) | exact absurd k (by rw [show g=w.heap.size+1+1 by omega];exact iH))
  replace hE:=hE.trans (jJX aN hE.size (fun g hg=>by have:=aQ g hg;omega));have cV:=aL.lt;clear bA;have bA:=qXs aL;clear aL aN aQ cV;obtain ⟨RR,iW⟩:∃ y,Hid (y=pfR x.ss x.ws D.ops (N:Int)):=⟨_,hid rfl⟩;have CG:=CF.out ob oe (N:Int);rw [<-iW.out] at CG;refine (CG _ (hw.below hE).at.h1 (hw.below hE).at.h2 od.now.p.ops).mono ?_;rintro e v7 ⟨a1,c1,iI,iP,rfl,iK,k1,k2,hb⟩;have kE:v6.heap.size<=v7.heap.size:=hb.size;replace bA:=bA.below hb;replace bE:=bE.below hb;replace bR:=bR.below hb;replace od:=od.below hb;replace bX:=bX.below hb;replace wd:=wd.below hb;replace eO:=eO.below hb;replace hE:=hE.trans (hb.mono hE.size);have d1:Dep v7 v6.heap.size v7.heap.size (fun W=>OwnS W a1 (RR.1.map Value.string)):=JKD iK.s Z3Z k1;have d2:Dep v7 v6.heap.size v7.heap.size (fun W=>OwnS W iI (yaV RR.2)):=JKD iK.p qO5 k2;have ld:w.heap.size+1+1+1<=v6.heap.size:=by omega
  clear iK k1 k2 CG;clear hb
  cases CB with
  | true =>
   have er:jN=(x.ran e D).pow e.fs:=by rw [iA.out];exact xeL hK jV.out hC j0.out gK.out.symm
   obtain ⟨aT,aW,aX,aU,aS,aO,aP,aZ,aV,aY,aA,aD,aI,aK,aH,aC⟩:=bA.now.k16;obtain ⟨dU,dE,eH,cY,dI,dO,dL,dM,dZ,eG,cT,cI,cJ,cL,cM,cK⟩:=bA.now.z16;have aR:=bA.now.lt;obtain ⟨aE,aF,aB,aG⟩:=bE.now.k4;have aJ:=bE.now.lt;go_wp2_with fail;clear aT dU aW dE aX eH aU cY aS dI aO dO aP dL aZ dM aV dZ aY eG aA cT aD cI aI cJ aK cL aH cM aC cK aR aE aF aB aG aJ;generalize gI:((v7.setCell _ _).setCell _ _)=v8;have aN:v7.grownBy v8 (some (w.heap.size)):=by rw [<-gI];exact y09 (y09 (World.grownBy.refl _ _) _ _) _ _
   have aL:=gI ▸ ((bA.now.set 1 (by simp) (.slice a1 RR.1.length c1)).set 2 (by simp) (.slice iI RR.2.length iP));have jZ:v7.heap.size<=v8.heap.size:=aN.size
   have aQ:∀ g,(some (w.heap.size):Option Nat)=some g->w.heap.size<=g/\g<w.heap.size+1:=fun g hg=>by injection hg with hg;omega
   clear gI;replace bE:=bE.grown aN (fun g hg=>by have:=aQ g hg;omega);replace bR:=bR.grown aN (fun g hg=>by have:=aQ g hg;omega);replace od:=od.grown aN (fun g hg=>by have:=aQ g hg;omega);replace bX:=bX.grown aN (fun g hg=>by have:=aQ g hg;omega);replace wd:=wd.grown aN (fun g hg=>by have:=aQ g hg;omega)
   replace eO:=eO.grown aN (fun g hg k=>by have:=aQ g hg;first | exact absurd k (by rw [show g=w.heap.size by omega];exact iG) | exact absurd k (by rw [show g=w.heap.size+1+1 by omega];exact iH))
   replace d1:=d1.grown aN (fun g hg=>by have:=aQ g hg;omega);replace d2:=d2.grown aN (fun g hg=>by have:=aQ g hg;omega);replace hE:=hE.trans (jJX aN hE.size (fun g hg=>by have:=aQ g hg;omega));have cV:=aL.lt;clear bA;have bA:=qXs aL;clear aL aN aQ cV;have i4:(x.ran e D).ss=RR.1:=by rw [iW.out,HN.out];rfl
   have jF:(x.ran e D).ws=RR.2:=by rw [iW.out,HN.out];rfl
   have i5:(x.ran e D).ts=LL:=by rw [i9.out];rfl
   have i3:(x.ran e D).P=PP:=by rw [iF.out];rfl
   have fH:WoF (x.ran e D) _ FF ⟨a1,c1,iI,iP,q.s,q.cs,pa,pc,some ⟨g,0,none⟩,cap⟩:=⟨(xat d1 (fun b hb _=>eT.out b (by omega))).map fun W k=>by rw [i4];exact k.strs,(xat d2 (fun b hb _=>eT.out b (by omega))).map fun W k=>by rw [jF];exact k.wrs,(hw.below hE).h3,by rw [i3];exact eO,(xat wd (fun b hb _=>eT.out b (by omega))).map fun W k=>by rw [i5];exact k.strs⟩;have CQ:=CP.out (x.ran e D) ⟨a1,c1,iI,iP,q.s,q.cs,pa,pc,some ⟨g,0,none⟩,cap⟩ _ fH j7.out.le (h3.below hE);obtain ⟨y,HY⟩:∃ y,Hid (y=(x.ran e D).pow e.fs):=⟨_,hid rfl⟩;rw [<-HY.out] at CQ er;have ER:=hid er;clear er;unfold Zov at CQ;rw [i4,jF,i5,i3] at CQ;clear fH;refine (CQ).mono ?_;rintro e v9 ⟨q1,rfl,fH,hb⟩;have j9:v8.heap.size<=v9.heap.size:=hb.size;replace bA:=bA.below hb;replace bE:=bE.below hb;replace bR:=bR.below hb;replace od:=od.below hb;replace bX:=bX.below hb;replace wd:=wd.below hb;replace eO:=eO.below hb;replace d1:=d1.below hb;replace d2:=d2.below hb
   replace hE:=hE.trans (hb.mono hE.size);replace fH:=fH.mono (G:=FF) (fun b _ k=>k.elim id (fun k=>eT.out b (by omega)));clear hb;unfold Zov;obtain ⟨eI,eB,dR,dN,eF,dJ,dV,dQ,dY,eC,cO,cP,cH,cS,cN,cQ⟩:=bR.now.k16;obtain ⟨gL,gJ,gD,fY,gG,fT,gF,fU,fX,fW,eX,fB,eV,eW,fC,fF⟩:=bR.now.z16;have dK:=bR.now.lt;go_wp2;clear eI gL eB gJ dR gD dN fY eF gG dJ fT dV gF dQ fU dY fX eC fW cO eX cP fB cH eV cS eW cN fC cQ fF dK;generalize eS:((((((((((((((((v9.setCell _ _).setCell _ _).setCell _ _).setCell _ _).setCell _ _).setCell _ _).setCell _ _).setCell _ _).setCell _ _).setCell _ _).setCell _ _).setCell _ _).setCell _ _).setCell _ _).setCell _ _).setCell _ _)=jG;have aN:v9.grownBy jG (some (w.heap.size+1+1)):=by rw [<-eS];exact y09 (y09 (y09 (y09 (y09 (y09 (y09 (y09 (y09 (y09 (y09 (y09 (y09 (y09 (y09 (y09 (World.grownBy.refl _ _) _ _) _ _) _ _) _ _) _ _) _ _) _ _) _ _) _ _) _ _) _ _) _ _) _ _) _ _) _ _) _ _
   have aL:=eS ▸ ((((((((((((((((bR.now.set 0 (by simp) (.int .i64 y.w)).set 1 (by simp) (.slice q1.a y.ss.length q1.c)).set 2 (by simp) (.slice q1.a' y.ws.length q1.c')).set 3 (by simp) (.bool y.up)).set 4 (by simp) (.int .i64 y.W)).set 5 (by simp) (.int .i64 y.S)).set 6 (by simp) (.int .i64 y.L)).set 7 (by simp) (.int .i64 y.T)).set 8 (by simp) (.int .i64 y.H)).set 9 (by simp) (.int .i64 y.F)).set 10 (by simp) (.int .i64 y.R)).set 11 (by simp) (.int .i64 y.U)).set 12 (by simp) (.int .i64 y.O)).set 13 (by simp) (.slice q1.s y.rs.length q1.cs)).set 14 (by simp) (.slice q1.p y.P.length q1.cp)).set 15 (by simp) (.slice q1.t y.ts.length q1.ct));have jB:v9.heap.size<=jG.heap.size:=aN.size
   have aQ:∀ g,(some (w.heap.size+1+1):Option Nat)=some g->w.heap.size+1+1<=g/\g<w.heap.size+1+1+1:=fun g hg=>by injection hg with hg;omega
   clear eS;replace bA:=bA.grown aN (fun g hg=>by have:=aQ g hg;omega);replace bE:=bE.grown aN (fun g hg=>by have:=aQ g hg;omega);replace od:=od.grown aN (fun g hg=>by have:=aQ g hg;omega);replace bX:=bX.grown aN (fun g hg=>by have:=aQ g hg;omega);replace wd:=wd.grown aN (fun g hg=>by have:=aQ g hg;omega)
   replace eO:=eO.grown aN (fun g hg k=>by have:=aQ g hg;first | exact absurd k (by rw [show g=w.heap.size by omega];exact iG) | exact absurd k (by rw [show g=w.heap.size+1+1 by omega];exact iH))
   replace d1:=d1.grown aN (fun g hg=>by have:=aQ g hg;omega);replace d2:=d2.grown aN (fun g hg=>by have:=aQ g hg;omega)
   replace fH:=fH.grown aN (fun g hg k=>by have:=aQ g hg;first | exact absurd k (by rw [show g=w.heap.size by omega];exact iG) | exact absurd k (by rw [show g=w.heap.size+1+1 by omega];exact iH))
   replace hE:=hE.trans (jJX aN hE.size (fun g hg=>by have:=aQ g hg;omega));have cV:=aL.lt;clear bR;have bR:=qXs aL;clear aL aN aQ cV;rw [ER.out];obtain ⟨eI,eB,dR,dN,eF,dJ,dV,dQ,dY,eC,cO,cP,cH,cS,cN,cQ,dK⟩:=c16 bR.now;exact bodyPost_ret (v:=.agg (wA y q1)) (by simp [results,Tryz.results44,go_sem,eI,eB,dR,dN,eF,dJ,dV,dQ,dY,eC,cO,cP,cH,cS,cN,cQ,dK]) rfl ⟨q1,rfl,(fH).mono fun b _ k=>j5.out b k,hE⟩
  | false =>
   exact absurd (gK.out.trans fQ) (by simp)
end Go.Proofs.YtcdojnnkjeakmaaGreatDoor
