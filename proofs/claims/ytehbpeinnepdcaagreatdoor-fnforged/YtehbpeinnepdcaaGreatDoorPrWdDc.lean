import Derived.Test.YtehbpeinnepdcaaGreatDoorPrG31
set_option maxHeartbeats 16000000
namespace Go.Proofs.YtehbpeinnepdcaaGreatDoor
open Go.RowKit
set_option maxRecDepth 8000
set_option linter.unusedVariables false
set_option linter.unusedSimpArgs false
theorem xXR (x:Wo) (q:Wp) (e:Ev) (a:Option Addr) (c:Nat) (f:Option Addr) (d:Nat) (F:Nat->Prop) (w:World) (h:WoF x w F q) (ho:x.ok) (h2:Chs w a e.b) (h3:Ints w f e.fs) (he:e.le) (hK:¬ e.K=5) (D:Dd) (eP:x.call e=(D,true)) (hC:D.C=0) (jH:¬ (2000<(ZmL x e D).length\/200<(evP x e D).length)) (gI:ZJ5 e D=true) (k2:e.K=2) :
  Calls Tryz.prog 45 #[Zov x q,vMH e a c f d] w fun r w'=>QRt w w' F r (x.doE e):=by
 have hm:=ho.le
 obtain ⟨FF,i5,eT,iH,iI,jV⟩:∃ FF:Nat->Prop,Hid (∀ b,b<w.heap.size->F b->FF b)/\Hid (∀ b,w.heap.size+1+1+1<=b->FF b)/\Hid (¬ FF w.heap.size)/\Hid (¬ FF (w.heap.size+1+1))/\Hid (∀ b,FF b->F b\/w.heap.size<=b) :=
  ⟨fun b=>(F b/\b<w.heap.size)\/w.heap.size+1+1+1<=b,fun b h1 h2=>.inl ⟨h2,h1⟩,fun b h=>.inr h,fun h=>by rcases h with h | h;exact absurd h.2 (by omega);omega,fun h=>by rcases h with h | h;exact absurd h.2 (by omega);omega,fun b h=>by rcases h with h | h;exact .inl h.1;exact .inr (by omega)⟩
 have hw:WoF x w FF q:=h.mono i5;clear h i5;have CP:=hid (fun y q1 w' (k1:WoF y w' FF q1) (hy:y.le 1048576) k2=>qpH y q1 f e.fs d FF w' k1 hy k2 he.f);have jO:=hid k2;clear k2;have jL:=hid hC;clear hC;have hD:=ho.call e;have CC:=hid (fun w' k1 k2=>QQS x q e a c f d w' k1 hm k2 he);rw [eP] at CC hD;simp only at CC hD;have HD:=hid hD;have kO:D.ops.length<=1000:=hD.2.1;have CF:=hid (fun ob oe (z:Int) w' k1 k2 k3=>jEL q.a x.ss q.c q.a' x.ws q.c' ob D.ops oe z w' k1 k2 k3 (by omega) (fun o ho=>by have:=hD.2.2 o ho;omega) hm.l1 hm.l2 hm.s1 hm.s2);unfold Zoj at CF;have jM:=hid eP;clear eP hD;obtain ⟨i0,g6,iA,iB,iC⟩:=vHq kML;have HI:=hid (And.intro g6 (And.intro iA (And.intro iB iC)));clear g6 iA iB iC;obtain ⟨i1,g6,iA,iB,iC⟩:=vHq q7E;have HJ:=hid (And.intro g6 (And.intro iA (And.intro iB iC)));clear g6 iA iB iC;have kL:=hm.l5;have kP:=ho.p.1;have kQ:=ho.t.1;obtain ⟨jT,gP⟩:∃ y,Hid (y=x.doE e):=⟨_,hid rfl⟩;rw [<-gP.out];unfold Zov vMH at CC ⊢
 have hE:Below w.heap.size w w:=Below.refl _ _;have kF:(e.K == 5)=false:=by simp [hK]
 go_enter Tryz.func45,Tryz.ntmps45;go_wp2_with fail;generalize gS:w.alloc _=v1;obtain ⟨hb,iW,bA⟩:=bx1 gS;clear gS;replace hE:=hE.trans (hb.mono hE.size);clear hb;generalize gU:v1.alloc _=v2;obtain ⟨hb,iE,bE⟩:=bx1 gU;clear gU;rw [iW] at bE iE;replace bA:=bA.below hb;replace hE:=hE.trans (hb.mono hE.size);clear hb;generalize gV:v2.alloc _=v3;obtain ⟨hb,iX,bR⟩:=bx1 gV;clear gV;rw [iE] at bR iX;replace bA:=bA.below hb;replace bE:=bE.below hb;replace hE:=hE.trans (hb.mono hE.size);clear hb;refine (CC.out _ (hw.below hE).at (h2.below hE)).mono ?_;rintro e v4 ⟨oa,oc,ob,oe,rfl,j1,own,g1,g2,hb⟩;have j6:v3.heap.size<=v4.heap.size:=hb.size;replace bA:=bA.below hb;replace bE:=bE.below hb;replace bR:=bR.below hb;replace hE:=hE.trans (hb.mono hE.size);have od:Dep v4 v3.heap.size v4.heap.size (fun W=>OwnDn W D.rs D.ops oa ob):=y80 own g1 g2;have kV:w.heap.size+1+1+1<=v3.heap.size:=by omega
 clear own g1 g2;clear hb;unfold dnV;go_upto_region 4 with fail;generalize gW:v4.alloc _=v5;obtain ⟨hb,iY,bX⟩:=bx1 gW;have j7:v4.heap.size+1<=v5.heap.size:=by omega
 clear gW iY;replace bA:=bA.below hb;replace bE:=bE.below hb;replace bR:=bR.below hb;replace od:=od.below hb;replace hE:=hE.trans (hb.mono hE.size);clear hb;obtain ⟨XB,gR⟩:∃ y,y=v4.heap.size:=⟨_,rfl⟩;rw [<-gR] at bX ⊢;have kI:w.heap.size+1+1+1<=XB:=by omega
 have kT:XB<v5.heap.size:=bX.now.lt;clear gR;generalize Value.tuple _=T0;generalize Value.agg (wA x q)=A0;generalize Value.agg #[.int .i64 D.C,.int .i64 D.W,.int .i64 D.S,.int .i64 D.L,.int .i64 D.T,.int .i64 D.H,.int .i64 D.F,.int .i64 D.R,.int .i64 D.U,.int .i64 D.O,.slice oa D.rs.length oc,.slice ob D.ops.length oe]=A1;generalize Value.agg #[.int .i64 e.K,.slice a e.b.length c,.int .i64 e.cut,.slice f e.fs.length d]=A2;have hC:=jL.out;rw [hC] at bX;obtain ⟨N,HN⟩:∃ N,Hid (N=evN e D):=⟨_,hid rfl⟩;obtain ⟨CB,fO⟩:∃ b,Hid (b=ZJ5 e D):=⟨_,hid rfl⟩;have kH:N<=D.ops.length:=by rw [HN.out];exact X7G e D
 obtain ⟨bJ,bQ,bU,bV,bW,bY,bZ,b7,b8,cC,bC,bG,cE⟩:=c12 bX.now;obtain ⟨aG,aH,aI,aJ⟩:=bE.now.k4;have aK:=bE.now.lt;go_upto_region 7 with fail;have fQ:Hid (CB=true->e.cut=(N:Int)):=hid (fun k=>by rw [fO.out] at k;have k:=of_decide_eq_true (by unfold ZJ5 at k;exact k);rw [HN.out];unfold evN;rw [if_pos k];omega);have fS:Hid (CB=false->N=D.ops.length):=hid (fun k=>by rw [fO.out] at k;have k:=of_decide_eq_false (by unfold ZJ5 at k;exact k);rw [HN.out];unfold evN;rw [if_neg k]);go_cut [8] from 36 to 44 (fun cv wx=>cv=.bool CB/\wx=v5)
 case first =>
  by_cases k1:0<=e.cut
  ·by_cases k2:e.cut<=(D.ops.length:Int)
   ·have gI:CB=true:=by rw [fO.out];unfold ZJ5;exact decide_eq_true ⟨k1,k2⟩
    clear fQ fS;go_wp2;go_meet;exact ⟨by rw [gI],rfl⟩
   ·have gI:CB=false:=by rw [fO.out];unfold ZJ5;exact decide_eq_false (fun h=>k2 h.2)
    clear fQ fS;go_wp2;go_meet;exact ⟨by rw [gI],rfl⟩
  ·have gI:CB=false:=by rw [fO.out];unfold ZJ5;exact decide_eq_false (fun h=>k1 h.1)
   clear fQ fS;go_wp2;go_meet;exact ⟨by rw [gI],rfl⟩
 case rest =>
 obtain ⟨e8,gX⟩:=hcut;subst e8;rw [gX];clear gX;go_upto_if 45 with fail;go_cut [7] from 46 to 47 (fun nv wx=>nv=.int .i64 (N:Int)/\wx=v5)
 case first =>
  cases CB with
  | true =>
   have hn:=hid (fQ.out rfl);clear fQ fS;go_wp2;go_meet;exact ⟨by rw [hn.out],rfl⟩
  | false =>
   have hn:=hid (fS.out rfl);clear fQ fS;go_wp2;go_meet;exact ⟨by rw [hn.out],rfl⟩
 case rest =>
 obtain ⟨e7,gX⟩:=hcut;subst e7;rw [gX];clear gX fQ fS;clear bJ bQ bU bV bW bY bZ b7 b8 cC bC bG cE aG aH aI aJ aK;have kG:(N:Int)<=1000:=by omega
 obtain ⟨aP,aQ,aR,aS,aT,aU,aV,aW,aX,aY,aA,aB,aC,aD,aE,aF,aZ⟩:=c16 bA.now;go_wp2_with (at_builtin;refine Z4q rfl _ _ 23 rfl 9 i0 (.string ByteArray.empty) 1 16 Tryz.underlying23 HI.out.1 HI.out.2.1 HI.out.2.2.1 HI.out.2.2.2 rfl v5.heap.size v5.heap.size rfl (World.ownsRow_lit _ #[] 0 (Nat.le_refl _) (by simp) (by simp)) _ rfl x.ts.length _ (src_strs ((hw.below hE).at.h5.below (xCS _ _)) _ _ Tryz.underlying23 q.ct) (by omega) (by omega) (by simp) ?_;intro g0 iP ws fI j2 jD);clear aP aQ aR aS aT aU aV aW aX aY aA aB aC aD aE aF aZ;have i4:Below v5.heap.size v5 ws:=(xCS _ _).trans (jD.mono (by simp));clear jD j2;go_loopw [9,10] (fun wv iv wr=>∃ (j g cap:Nat),j<=N/\iv=.int .i64 (j:Int)/\wv=.slice (some ⟨g,0,none⟩) (x.ts++xmh (D.ops.take j)).length cap/\wr.ownsRow v5.heap.size 9 1 (.slice (some ⟨g,0,none⟩) (x.ts++xmh (D.ops.take j)).length cap) (x.ts++xmh (D.ops.take j)).length ((x.ts++xmh (D.ops.take j)).map Value.string)/\Below v5.heap.size v5 wr) (fun _ iv _=>N-(intOf iv).toNat)
 case atStart=>exact ⟨0,g0,iP,Nat.zero_le _,rfl,by simp [xmh],by simpa [xmh] using fI,i4⟩
 case round =>
  clear fI i4;obtain ⟨j,g,cap,hj,rfl,rfl,eL,hB⟩:=hrel;have jE:=yHD (D.ops.take j);rw [List.length_take] at jE;have j3:(x.ts++xmh (D.ops.take j)).length<=4000:=by rw [List.length_append];omega
  obtain ⟨LL,gM⟩:∃ y,Hid (y=x.ts++xmh (D.ops.take j)):=⟨_,hid rfl⟩;rw [<-gM.out] at eL j3 ⊢;clear jE
  by_cases kM:j<N
  ·have j4:(j:Int)<(N:Int):=by omega
   have kJ:(0:Int)<=(j:Int):=by omega
   have kK:(j:Int)<(D.ops.length:Int):=by omega
   have X1:=(bX.low hB (by omega)).now;have kX:=X1.cell 11 _ rfl;have kY:=X1.lt;obtain ⟨b1,o1,s0,n1,t2,rfl,c0,c1,c2,jR⟩:=(od.low hB (by omega)).now.p.ops.at (k:=j) (by omega);have iU:=kde D.ops j (by omega);rw [<-jR.out] at iU;have iN:=hid iU;clear iU X1;have iL:=hid eL;have gO:=hid hB;have kU:=Zoz c0;clear eL hB;have kR:IntKind.i64.wrap ((j:Int)+1)=((j+1:Nat):Int):=by rw [JWx _ (by omega) (by omega)];omega
   cases s0 with
   | true =>
    go_wp2;exact ⟨⟨j+1,g,cap,by omega,by go_num,by rw [iN.out];simp [gM.out],by rw [iN.out];simpa [gM.out] using iL.out,gO.out⟩,by simp [intOf];omega⟩
   | false =>
    go_wp2_with (at_builtin;refine WAL _ rfl _ _ 23 rfl v5.heap.size Tryz.underlying23 HI.out rfl (by omega) _ LL.length _ rfl (iL.out.alloc _) ⟨wr.heap.size,0,none⟩ 1 1 [.string t2] rfl rfl (World.news_of_block (heap_alloc_new wr _)) (by intro u hu;simp at hu;subst hu;rfl) (by have:=gO.out.size;simp;omega) (wr.heap.size+1) (by simp) ?_;intro g9 cY w9 fJ eR fC gJ;have jQ:=hid fJ;have jN:=hid eR;clear fJ eR fC);have e9:x.ts++xmh (D.ops.take (j+1))=LL++[t2]:=by rw [iN.out,gM.out];simp
    have jU:Below v5.heap.size v5 w9:=jbs ((gO.out).alloc gO.out.size _) (iL.out.alloc _) jN.out (by have:=gO.out.size;simp;omega);exact ⟨⟨j+1,g9,cY,by omega,by go_num,by rw [e9];simp,by rw [e9];simpa using jQ.out,jU⟩,by simp [intOf];omega⟩
  have jG:j=N:=by omega
  have iZ:Hid (LL=ZmL x e D):=hid (by rw [gM.out,jG,HN.out];rfl);have kN:¬ (j:Int)<(N:Int):=by omega
  clear jG;have kE:v5.heap.size<=wr.heap.size:=hB.size;replace bA:=bA.low hB (by omega);replace bE:=bE.low hB (by omega);replace bR:=bR.low hB (by omega);replace od:=od.low hB (by omega);replace bX:=bX.low hB (by omega);replace hE:=hE.trans (hB.mono hE.size);have rT:=kX5 eL;have gT:=xLn eL;have wd:Dep wr v5.heap.size wr.heap.size (fun W=>Row W g (LL.map Value.string)):=xuV rT gT rT.lt (Nat.le_refl _);have kW:w.heap.size+1+1+1<=v5.heap.size:=by omega
  clear hB eL rT gM;obtain ⟨PP,iF⟩:∃ y,Hid (y=evP x e D):=⟨_,hid rfl⟩;have j5:PP.length<=201:=by rw [iF.out];unfold evP;split<;>(try simp)<;>omega
  obtain ⟨aP,aQ,aR,aS,aT,aU,aV,aW,aX,aY,aA,aB,aC,aD,aE,aF,aZ⟩:=c16 bA.now;obtain ⟨aG,aH,aI,aJ⟩:=bE.now.k4;have aK:=bE.now.lt;obtain ⟨bJ,bQ,bU,bV,bW,bY,bZ,b7,b8,cC,bC,bG,cE⟩:=c12 bX.now;go_upto_if 77 with fail;clear aP aQ aR aS aT aU aV aW aX aY aA aB aC aD aE aF aZ aG aH aI aJ aK bJ bQ bU bV bW bY bZ b7 b8 cC bC bG cE;go_cut [11] from 75 to 85 (fun pv wx=>∃ (pa:Option Addr) (pc:Nat),pv=.slice pa PP.length pc/\PstF wx FF pa PP/\Below wr.heap.size wr wx)
  case first =>
   have k2:=jO.out;have ep:PP=x.P++[D.rs]:=by rw [iF.out];unfold evP;rw [if_pos k2]
   have kS:(e.K == 2)=true:=by simp [k2]
   clear k2;obtain ⟨news,gL,gK,iS⟩:=ymZ (P:=Tryz.prog) (hw.below hE).h4 34 31 Tryz.underlying34 q.cp;obtain ⟨aG,aH,aI,aJ⟩:=bE.now.k4;have aK:=bE.now.lt;go_upto_region 18 with fail;clear aG aH aI aJ aK
   have HK:Hid (∀ W,Below wr.heap.size wr W->W.cell? ⟨XB,10,none⟩=some (.slice oa D.rs.length oc)):=fun W hb=>(bX.below hb).now.cell 10 _ rfl
   refine wp_region_held_drew (S:=fun w'=>w'.cell? ⟨XB,10,none⟩=some (.slice oa D.rs.length oc)) (by kernel_rfl) (HK.out _ (Below.refl _ _).drew) (fun iJ=>?_);refine TY 1 (.slice q.p x.P.length q.cp) rfl iJ (TY 3 (.pointer (some ⟨XB,1,none⟩)) rfl iJ (TY 4 (.pointer (some ⟨XB,10,none⟩)) rfl iJ (TY 5 (.agg #[.slice oa D.rs.length oc]) rfl iJ ?_)));simp only [PS];refine wpAnyH_ready (rs:=[0,6]) (by kernel_rfl) (by simp) ?_;refine AllReadyH.cons rfl (fun Kq bH=>?_) (AllReadyH.cons rfl (fun Kq bH=>?_) AllReadyH.nil)
   ·obtain ⟨y0,cZ⟩:∃ y,y=wr.drew:=⟨_,rfl⟩
    rw [<-cZ];have fB:Below wr.heap.size wr y0:=by rw [cZ];exact (Below.refl _ _).drew
    clear cZ;go_simp;have gZ:=xCS y0 (.cells #[] 31);have eS:=xER y0 #[] 31
    have cF:=World.ownsRow_lit (w:=y0) (e:=31) (size:=1) (base:=wr.heap.size) #[] 0 fB.size (by first | simp | decide | omega) (by first | simp | decide | (unfold maxLen;omega) | omega)
    obtain ⟨y1,eJ⟩:∃ y,y=y0.alloc (.cells #[] 31):=⟨_,rfl⟩;obtain ⟨b0,bI⟩:∃ y,y=y0.heap.size:=⟨_,rfl⟩;rw [<-eJ] at gZ eS cF ⊢;rw [<-bI] at eS cF ⊢;have dR:=fB.trans (gZ.mono fB.size);have iV:wr.heap.size<=b0:=by rw [bI];exact fB.size
    have iK:=hid bI;clear eJ;clear bI;refine bH.out _ _ (HK.out _ dR) (fun jW=>?_)
    try simp only [PS]
    refine wpAnyH_ready (rs:=[2,6]) (by kernel_rfl) (by simp) ?_;refine AllReadyH.cons rfl (fun Kq bH=>?_) (AllReadyH.cons rfl (fun Kq bH=>?_) AllReadyH.nil)
    ·refine z98 rfl _ _ 34 rfl 31 i1 (.agg #[.slice none 0 0]) 1 24 Tryz.underlying34 HJ.out.1 HJ.out.2.1 HJ.out.2.2.1 HJ.out.2.2.2 rfl b0 wr.heap.size rfl cF _ rfl x.P.length news (gL _ dR) (by omega) (by omega) dR.size ?_
     intro g3 gQ y2 eU jF fE;have cU:=dR.trans (fE.mono dR.size);refine bH.out _ _ (HK.out _ cU) (fun jX=>?_)
     try simp only [PS]
     refine RD 6 rfl (fun Kq bH=>?_);go_simp;have fF:=xCS y2 (.cells #[.slice oa D.rs.length oc] 31);have aL:=xER y2 #[.slice oa D.rs.length oc] 31
     have cW:=World.ownsRow_lit (w:=y2) (e:=31) (size:=1) (base:=wr.heap.size) #[.slice oa D.rs.length oc] 1 cU.size (by first | simp | decide | omega) (by first | simp | decide | (unfold maxLen;omega) | omega)
     obtain ⟨y3,eJ⟩:∃ y,y=y2.alloc (.cells #[.slice oa D.rs.length oc] 31):=⟨_,rfl⟩;obtain ⟨b6,bI⟩:∃ y,y=y2.heap.size:=⟨_,rfl⟩;rw [<-eJ] at fF aL cW ⊢;rw [<-bI] at aL cW ⊢;have eK:=cU.trans (fF.mono cU.size);have iD:wr.heap.size<=b6:=by rw [bI];exact cU.size
     have gN:=hid bI;clear eJ;clear bI;have eU:=jcb eU fF;refine bH.out _ _ (HK.out _ eK) (fun jY=>?_)
     try simp only [PS]
     refine RD 7 rfl (fun Kq bH=>?_);refine SAL _ rfl _ _ 34 rfl wr.heap.size Tryz.underlying34 HJ.out rfl (by omega) _ x.P.length _ rfl eU ⟨b6,0,none⟩ 1 1 [.slice oa D.rs.length oc] rfl rfl (fun j u hu=>by rw [JoX];exact aL.cell j u hu) (by intro u hu;simp at hu;subst hu;rfl) eK.size _ rfl ?_;intro g9 cY y4 o9 eQ fC gJ;have eO:Below wr.heap.size wr y4:=jbs eK eU eQ eK.size;refine bH.out _ _ (HK.out _ eO) (fun iQ=>?_)
     try simp only [PS]
     refine RD 8 rfl (fun Kq bH=>?_);go_simp;refine bH.out _ _ iQ (fun _=>?_)
     try simp only [PS]
     refine DN ?_;clear HK;go_wp2_with fail;go_meet;have r9:=kX5 o9;have i3:=xLn o9;refine ⟨some ⟨g9,0,none⟩,cY,by rw [ep];simp,?_,eO⟩;rw [ep];have s9:=eO;exact Xiu (G:=FF) gK (fun i hi=>by obtain ⟨p',c',k1,k2⟩:=iS i hi;exact ⟨p',c',k1,k2.below s9⟩) r9 (eT.out _ (by omega)) ((xat (od.below s9) (fun b hb _=>eT.out b (by omega))).map fun W k=>k.s.prs)
    ·go_simp
     have fE:=xCS y1 (.cells #[.slice oa D.rs.length oc] 31);have aL:=xER y1 #[.slice oa D.rs.length oc] 31
     have cW:=World.ownsRow_lit (w:=y1) (e:=31) (size:=1) (base:=wr.heap.size) #[.slice oa D.rs.length oc] 1 dR.size (by first | simp | decide | omega) (by first | simp | decide | (unfold maxLen;omega) | omega)
     obtain ⟨y2,eJ⟩:∃ y,y=y1.alloc (.cells #[.slice oa D.rs.length oc] 31):=⟨_,rfl⟩;obtain ⟨b6,bI⟩:∃ y,y=y1.heap.size:=⟨_,rfl⟩;rw [<-eJ] at fE aL cW ⊢;rw [<-bI] at aL cW ⊢;have cU:=dR.trans (fE.mono dR.size);have iD:wr.heap.size<=b6:=by rw [bI];exact dR.size
     have gN:=hid bI;clear eJ;clear bI;have cF:=jcb cF fE;refine bH.out _ _ (HK.out _ cU) (fun jZ=>?_)
     try simp only [PS]
     refine RD 2 rfl (fun Kq bH=>?_);refine z98 rfl _ _ 34 rfl 31 i1 (.agg #[.slice none 0 0]) 1 24 Tryz.underlying34 HJ.out.1 HJ.out.2.1 HJ.out.2.2.1 HJ.out.2.2.2 rfl b0 wr.heap.size rfl cF _ rfl x.P.length news (gL _ cU) (by omega) (by omega) cU.size ?_;intro g3 gQ y3 eU jF fF;have eK:=cU.trans (fF.mono cU.size);have aL:=aL.below fF;refine bH.out _ _ (HK.out _ eK) (fun j0=>?_)
     try simp only [PS]
     refine RD 7 rfl (fun Kq bH=>?_);refine SAL _ rfl _ _ 34 rfl wr.heap.size Tryz.underlying34 HJ.out rfl (by omega) _ x.P.length _ rfl eU ⟨b6,0,none⟩ 1 1 [.slice oa D.rs.length oc] rfl rfl (fun j u hu=>by rw [JoX];exact aL.cell j u hu) (by intro u hu;simp at hu;subst hu;rfl) eK.size _ rfl ?_;intro g9 cY y4 o9 eQ fC gJ;have eO:Below wr.heap.size wr y4:=jbs eK eU eQ eK.size;refine bH.out _ _ (HK.out _ eO) (fun iR=>?_)
     try simp only [PS]
     refine RD 8 rfl (fun Kq bH=>?_);go_simp;refine bH.out _ _ iR (fun _=>?_)
     try simp only [PS]
     refine DN ?_;clear HK;go_wp2_with fail;go_meet;have r9:=kX5 o9;have i3:=xLn o9;refine ⟨some ⟨g9,0,none⟩,cY,by rw [ep];simp,?_,eO⟩;rw [ep];have s9:=eO;exact Xiu (G:=FF) gK (fun i hi=>by obtain ⟨p',c',k1,k2⟩:=iS i hi;exact ⟨p',c',k1,k2.below s9⟩) r9 (eT.out _ (by omega)) ((xat (od.below s9) (fun b hb _=>eT.out b (by omega))).map fun W k=>k.s.prs)
   ·obtain ⟨y0,cZ⟩:∃ y,y=wr.drew:=⟨_,rfl⟩
    rw [<-cZ];have fB:Below wr.heap.size wr y0:=by rw [cZ];exact (Below.refl _ _).drew
    clear cZ;go_simp;have gZ:=xCS y0 (.cells #[.slice oa D.rs.length oc] 31);have aL:=xER y0 #[.slice oa D.rs.length oc] 31
    have cW:=World.ownsRow_lit (w:=y0) (e:=31) (size:=1) (base:=wr.heap.size) #[.slice oa D.rs.length oc] 1 fB.size (by first | simp | decide | omega) (by first | simp | decide | (unfold maxLen;omega) | omega)
    obtain ⟨y1,eJ⟩:∃ y,y=y0.alloc (.cells #[.slice oa D.rs.length oc] 31):=⟨_,rfl⟩;obtain ⟨b6,bI⟩:∃ y,y=y0.heap.size:=⟨_,rfl⟩;rw [<-eJ] at gZ aL cW ⊢;rw [<-bI] at aL cW ⊢;have dR:=fB.trans (gZ.mono fB.size);have iD:wr.heap.size<=b6:=by rw [bI];exact fB.size
    have gN:=hid bI;clear eJ;clear bI;refine bH.out _ _ (HK.out _ dR) (fun i6=>?_)
    try simp only [PS]
    refine RD 0 rfl (fun Kq bH=>?_);go_simp;have fE:=xCS y1 (.cells #[] 31);have eS:=xER y1 #[] 31
    have cF:=World.ownsRow_lit (w:=y1) (e:=31) (size:=1) (base:=wr.heap.size) #[] 0 dR.size (by first | simp | decide | omega) (by first | simp | decide | (unfold maxLen;omega) | omega)
    obtain ⟨y2,eJ⟩:∃ y,y=y1.alloc (.cells #[] 31):=⟨_,rfl⟩;obtain ⟨b0,bI⟩:∃ y,y=y1.heap.size:=⟨_,rfl⟩;rw [<-eJ] at fE eS cF ⊢;rw [<-bI] at eS cF ⊢;have cU:=dR.trans (fE.mono dR.size);have iV:wr.heap.size<=b0:=by rw [bI];exact dR.size
    have iK:=hid bI;clear eJ;clear bI;have aL:=aL.below fE;refine bH.out _ _ (HK.out _ cU) (fun i7=>?_)
    try simp only [PS]
    refine RD 2 rfl (fun Kq bH=>?_);refine z98 rfl _ _ 34 rfl 31 i1 (.agg #[.slice none 0 0]) 1 24 Tryz.underlying34 HJ.out.1 HJ.out.2.1 HJ.out.2.2.1 HJ.out.2.2.2 rfl b0 wr.heap.size rfl cF _ rfl x.P.length news (gL _ cU) (by omega) (by omega) cU.size ?_;intro g3 gQ y3 eU jF fF;have eK:=cU.trans (fF.mono cU.size);have aL:=aL.below fF;refine bH.out _ _ (HK.out _ eK) (fun i8=>?_)
    try simp only [PS]
    refine RD 7 rfl (fun Kq bH=>?_);refine SAL _ rfl _ _ 34 rfl wr.heap.size Tryz.underlying34 HJ.out rfl (by omega) _ x.P.length _ rfl eU ⟨b6,0,none⟩ 1 1 [.slice oa D.rs.length oc] rfl rfl (fun j u hu=>by rw [JoX];exact aL.cell j u hu) (by intro u hu;simp at hu;subst hu;rfl) eK.size _ rfl ?_;intro g9 cY y4 o9 eQ fC gJ;have eO:Below wr.heap.size wr y4:=jbs eK eU eQ eK.size;refine bH.out _ _ (HK.out _ eO) (fun gY=>?_)
    try simp only [PS]
    refine RD 8 rfl (fun Kq bH=>?_);go_simp;refine bH.out _ _ gY (fun _=>?_)
    try simp only [PS]
    refine DN ?_;clear HK;go_wp2_with fail;go_meet;have r9:=kX5 o9;have i3:=xLn o9;refine ⟨some ⟨g9,0,none⟩,cY,by rw [ep];simp,?_,eO⟩;rw [ep];have s9:=eO;exact Xiu (G:=FF) gK (fun i hi=>by obtain ⟨p',c',k1,k2⟩:=iS i hi;exact ⟨p',c',k1,k2.below s9⟩) r9 (eT.out _ (by omega)) ((xat (od.below s9) (fun b hb _=>eT.out b (by omega))).map fun W k=>k.s.prs)
  case rest =>
  obtain ⟨pa,pc,rfl,eM,hb⟩:=hcut;have kD:wr.heap.size<=wc.heap.size:=hb.size;replace bA:=bA.below hb;replace bE:=bE.below hb;replace bR:=bR.below hb;replace od:=od.below hb;replace bX:=bX.below hb;replace wd:=wd.below hb;replace hE:=hE.trans (hb.mono hE.size);clear hb;have hI:=jH;rw [<-iZ.out,<-iF.out] at hI;have kZ:¬ ((2000:Int)<(LL.length:Int)):=by omega
  have k6:¬ ((200:Int)<(PP.length:Int)):=by omega
  clear hI;have fH:¬ (2000<(ZmL x e D).length\/200<(evP x e D).length):=by exact jH
  have jI:=ho.ran e (d:=D) HD.out (by omega);have jS:=hid jI;have jP:=hid fH;clear jI fH;obtain ⟨aP,aQ,aR,aS,aT,aU,aV,aW,aX,aY,aA,aB,aC,aD,aE,aF⟩:=bA.now.k16;obtain ⟨dE,dH,dI,dJ,dK,dL,dM,dN,dO,dQ,cH,cI,cJ,cK,cL,cM⟩:=bA.now.z16;have aZ:=bA.now.lt;obtain ⟨aG,aH,aI,aJ⟩:=bE.now.k4;have aK:=bE.now.lt;obtain ⟨bJ,bQ,bU,bV,bW,bY,bZ,b7,b8,cC,bC,bG,cE⟩:=c12 bX.now;go_wp2_with fail;clear aP dE aQ dH aR dI aS dJ aT dK aU dL aV dM aW dN aX dO aY dQ aA cH aB cI aC cJ aD cK aE cL aF cM aZ aG aH aI aJ aK bJ bQ bU bV bW bY bZ b7 b8 cC bC bG cE;generalize fT:((wc.setCell _ _).setCell _ _)=v6;have aN:wc.grownBy v6 (some (w.heap.size)):=by rw [<-fT];exact y09 (y09 (World.grownBy.refl _ _) _ _) _ _
  have aM:=fT ▸ ((bA.now.set 15 (by simp) (.slice (some ⟨g,0,none⟩) LL.length cap)).set 14 (by simp) (.slice pa PP.length pc));have j8:wc.heap.size<=v6.heap.size:=aN.size
  have aO:∀ g,(some (w.heap.size):Option Nat)=some g->w.heap.size<=g/\g<w.heap.size+1:=fun g hg=>by injection hg with hg;omega
  clear fT;replace bE:=bE.grown aN (fun g hg=>by have:=aO g hg;omega);replace bR:=bR.grown aN (fun g hg=>by have:=aO g hg;omega);replace od:=od.grown aN (fun g hg=>by have:=aO g hg;omega);replace bX:=bX.grown aN (fun g hg=>by have:=aO g hg;omega);replace wd:=wd.grown aN (fun g hg=>by have:=aO g hg;omega)
  replace eM:=eM.grown aN (fun g hg k=>by have:=aO g hg;first | exact absurd k (by rw [show g=w.heap.size by omega];exact iH) | exact absurd k (by rw [show g=w.heap.size+1+1 by omega];exact iI))
  replace hE:=hE.trans (jJX aN hE.size (fun g hg=>by have:=aO g hg;omega));have cV:=aM.lt;clear bA;have bA:=qXs aM;clear aM aN aO cV;obtain ⟨RR,iM⟩:∃ y,Hid (y=pfR x.ss x.ws D.ops (N:Int)):=⟨_,hid rfl⟩;have CG:=CF.out ob oe (N:Int);rw [<-iM.out] at CG;refine (CG _ (hw.below hE).at.h1 (hw.below hE).at.h2 od.now.p.ops).mono ?_;rintro e v7 ⟨a1,c1,iG,iO,rfl,iT,k1,k2,hb⟩;have j9:v6.heap.size<=v7.heap.size:=hb.size;replace bA:=bA.below hb;replace bE:=bE.below hb;replace bR:=bR.below hb;replace od:=od.below hb;replace bX:=bX.below hb;replace wd:=wd.below hb;replace eM:=eM.below hb;replace hE:=hE.trans (hb.mono hE.size);have d1:Dep v7 v6.heap.size v7.heap.size (fun W=>OwnS W a1 (RR.1.map Value.string)):=JKD iT.s Z3Z k1;have d2:Dep v7 v6.heap.size v7.heap.size (fun W=>OwnS W iG (yaV RR.2)):=JKD iT.p qO5 k2;have ld:w.heap.size+1+1+1<=v6.heap.size:=by omega
  clear iT k1 k2 CG;clear hb
  cases CB with
  | true =>
   have er:jT=(x.ran e D).pow e.fs:=by rw [gP.out];exact xeL hK jM.out hC jP.out fO.out.symm
   obtain ⟨aP,aQ,aR,aS,aT,aU,aV,aW,aX,aY,aA,aB,aC,aD,aE,aF⟩:=bA.now.k16;obtain ⟨dE,dH,dI,dJ,dK,dL,dM,dN,dO,dQ,cH,cI,cJ,cK,cL,cM⟩:=bA.now.z16;have aZ:=bA.now.lt;obtain ⟨aG,aH,aI,aJ⟩:=bE.now.k4;have aK:=bE.now.lt;go_wp2_with fail;clear aP dE aQ dH aR dI aS dJ aT dK aU dL aV dM aW dN aX dO aY dQ aA cH aB cI aC cJ aD cK aE cL aF cM aZ aG aH aI aJ aK;generalize fU:((v7.setCell _ _).setCell _ _)=v8;have aN:v7.grownBy v8 (some (w.heap.size)):=by rw [<-fU];exact y09 (y09 (World.grownBy.refl _ _) _ _) _ _
   have aM:=fU ▸ ((bA.now.set 1 (by simp) (.slice a1 RR.1.length c1)).set 2 (by simp) (.slice iG RR.2.length iO));have kA:v7.heap.size<=v8.heap.size:=aN.size
   have aO:∀ g,(some (w.heap.size):Option Nat)=some g->w.heap.size<=g/\g<w.heap.size+1:=fun g hg=>by injection hg with hg;omega
   clear fU;replace bE:=bE.grown aN (fun g hg=>by have:=aO g hg;omega);replace bR:=bR.grown aN (fun g hg=>by have:=aO g hg;omega);replace od:=od.grown aN (fun g hg=>by have:=aO g hg;omega);replace bX:=bX.grown aN (fun g hg=>by have:=aO g hg;omega);replace wd:=wd.grown aN (fun g hg=>by have:=aO g hg;omega)
   replace eM:=eM.grown aN (fun g hg k=>by have:=aO g hg;first | exact absurd k (by rw [show g=w.heap.size by omega];exact iH) | exact absurd k (by rw [show g=w.heap.size+1+1 by omega];exact iI))
   replace d1:=d1.grown aN (fun g hg=>by have:=aO g hg;omega);replace d2:=d2.grown aN (fun g hg=>by have:=aO g hg;omega);replace hE:=hE.trans (jJX aN hE.size (fun g hg=>by have:=aO g hg;omega));have cV:=aM.lt;clear bA;have bA:=qXs aM;clear aM aN aO cV;have jA:(x.ran e D).ss=RR.1:=by rw [iM.out,HN.out];rfl
   have jB:(x.ran e D).ws=RR.2:=by rw [iM.out,HN.out];rfl
   have jC:(x.ran e D).ts=LL:=by rw [iZ.out];rfl
   have i9:(x.ran e D).P=PP:=by rw [iF.out];rfl
   have fG:WoF (x.ran e D) _ FF ⟨a1,c1,iG,iO,q.s,q.cs,pa,pc,some ⟨g,0,none⟩,cap⟩:=⟨(xat d1 (fun b hb _=>eT.out b (by omega))).map fun W k=>by rw [jA];exact k.strs,(xat d2 (fun b hb _=>eT.out b (by omega))).map fun W k=>by rw [jB];exact k.wrs,(hw.below hE).h3,by rw [i9];exact eM,(xat wd (fun b hb _=>eT.out b (by omega))).map fun W k=>by rw [jC];exact k.strs⟩;have CQ:=CP.out (x.ran e D) ⟨a1,c1,iG,iO,q.s,q.cs,pa,pc,some ⟨g,0,none⟩,cap⟩ _ fG jS.out.le (h3.below hE);obtain ⟨y,HY⟩:∃ y,Hid (y=(x.ran e D).pow e.fs):=⟨_,hid rfl⟩;rw [<-HY.out] at CQ er;have ER:=hid er;clear er;unfold Zov at CQ;rw [jA,jB,jC,i9] at CQ;clear fG;refine (CQ).mono ?_;rintro e v9 ⟨q1,rfl,fG,hb⟩;have kC:v8.heap.size<=v9.heap.size:=hb.size;replace bA:=bA.below hb;replace bE:=bE.below hb;replace bR:=bR.below hb;replace od:=od.below hb;replace bX:=bX.below hb;replace wd:=wd.below hb;replace eM:=eM.below hb;replace d1:=d1.below hb;replace d2:=d2.below hb
   replace hE:=hE.trans (hb.mono hE.size);replace fG:=fG.mono (G:=FF) (fun b _ k=>k.elim id (fun k=>eT.out b (by omega)));clear hb;unfold Zov;obtain ⟨dU,dV,dY,dZ,eB,eC,eD,eF,eG,eH,cN,cO,cP,cQ,cS,cT⟩:=bR.now.k16;obtain ⟨fV,fW,fX,fY,fZ,gD,gE,gF,gG,gH,eV,eW,eX,eY,eZ,fA⟩:=bR.now.z16;have eI:=bR.now.lt;go_wp2;clear dU fV dV fW dY fX dZ fY eB fZ eC gD eD gE eF gF eG gG eH gH cN eV cO eW cP eX cQ eY cS eZ cT fA eI;generalize eN:((((((((((((((((v9.setCell _ _).setCell _ _).setCell _ _).setCell _ _).setCell _ _).setCell _ _).setCell _ _).setCell _ _).setCell _ _).setCell _ _).setCell _ _).setCell _ _).setCell _ _).setCell _ _).setCell _ _).setCell _ _)=jK;have aN:v9.grownBy jK (some (w.heap.size+1+1)):=by rw [<-eN];exact y09 (y09 (y09 (y09 (y09 (y09 (y09 (y09 (y09 (y09 (y09 (y09 (y09 (y09 (y09 (y09 (World.grownBy.refl _ _) _ _) _ _) _ _) _ _) _ _) _ _) _ _) _ _) _ _) _ _) _ _) _ _) _ _) _ _) _ _) _ _
   have aM:=eN ▸ ((((((((((((((((bR.now.set 0 (by simp) (.int .i64 y.w)).set 1 (by simp) (.slice q1.a y.ss.length q1.c)).set 2 (by simp) (.slice q1.a' y.ws.length q1.c')).set 3 (by simp) (.bool y.up)).set 4 (by simp) (.int .i64 y.W)).set 5 (by simp) (.int .i64 y.S)).set 6 (by simp) (.int .i64 y.L)).set 7 (by simp) (.int .i64 y.T)).set 8 (by simp) (.int .i64 y.H)).set 9 (by simp) (.int .i64 y.F)).set 10 (by simp) (.int .i64 y.R)).set 11 (by simp) (.int .i64 y.U)).set 12 (by simp) (.int .i64 y.O)).set 13 (by simp) (.slice q1.s y.rs.length q1.cs)).set 14 (by simp) (.slice q1.p y.P.length q1.cp)).set 15 (by simp) (.slice q1.t y.ts.length q1.ct));have jJ:v9.heap.size<=jK.heap.size:=aN.size
   have aO:∀ g,(some (w.heap.size+1+1):Option Nat)=some g->w.heap.size+1+1<=g/\g<w.heap.size+1+1+1:=fun g hg=>by injection hg with hg;omega
   clear eN;replace bA:=bA.grown aN (fun g hg=>by have:=aO g hg;omega);replace bE:=bE.grown aN (fun g hg=>by have:=aO g hg;omega);replace od:=od.grown aN (fun g hg=>by have:=aO g hg;omega);replace bX:=bX.grown aN (fun g hg=>by have:=aO g hg;omega);replace wd:=wd.grown aN (fun g hg=>by have:=aO g hg;omega)
   replace eM:=eM.grown aN (fun g hg k=>by have:=aO g hg;first | exact absurd k (by rw [show g=w.heap.size by omega];exact iH) | exact absurd k (by rw [show g=w.heap.size+1+1 by omega];exact iI))
   replace d1:=d1.grown aN (fun g hg=>by have:=aO g hg;omega);replace d2:=d2.grown aN (fun g hg=>by have:=aO g hg;omega)
   replace fG:=fG.grown aN (fun g hg k=>by have:=aO g hg;first | exact absurd k (by rw [show g=w.heap.size by omega];exact iH) | exact absurd k (by rw [show g=w.heap.size+1+1 by omega];exact iI))
   replace hE:=hE.trans (jJX aN hE.size (fun g hg=>by have:=aO g hg;omega));have cV:=aM.lt;clear bR;have bR:=qXs aM;clear aM aN aO cV;rw [ER.out];obtain ⟨dU,dV,dY,dZ,eB,eC,eD,eF,eG,eH,cN,cO,cP,cQ,cS,cT,eI⟩:=c16 bR.now;exact bodyPost_ret (v:=.agg (wA y q1)) (by simp [results,Tryz.results45,go_sem,dU,dV,dY,dZ,eB,eC,eD,eF,eG,eH,cN,cO,cP,cQ,cS,cT,eI]) rfl ⟨q1,rfl,(fG).mono fun b _ k=>jV.out b k,hE⟩
  | false =>
   exact absurd (fO.out.trans gI) (by simp)
end Go.Proofs.YtehbpeinnepdcaaGreatDoor
