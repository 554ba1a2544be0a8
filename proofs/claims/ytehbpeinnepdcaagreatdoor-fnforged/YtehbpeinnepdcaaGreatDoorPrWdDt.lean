import Derived.Test.YtehbpeinnepdcaaGreatDoorPrG31
set_option maxHeartbeats 16000000
namespace Go.Proofs.YtehbpeinnepdcaaGreatDoor
open Go.RowKit
set_option maxRecDepth 8000
set_option linter.unusedVariables false
set_option linter.unusedSimpArgs false
theorem ZqV (x:Wo) (q:Wp) (e:Ev) (a:Option Addr) (c:Nat) (f:Option Addr) (d:Nat) (F:Nat->Prop) (w:World) (h:WoF x w F q) (ho:x.ok) (h2:Chs w a e.b) (h3:Ints w f e.fs) (he:e.le) (hK:¬ e.K=5) (D:Dd) (dY:x.call e=(D,true)) (hC:D.C=0) (i4:¬ (2000<(ZmL x e D).length\/200<(evP x e D).length)) (fA:ZJ5 e D=false) (k2:e.K=2) :
  Calls Tryz.prog 45 #[Zov x q,vMH e a c f d] w fun r w'=>QRt w w' F r (x.doE e):=by
 have hm:=ho.le
 obtain ⟨FF,iP,eF,gK,gL,jI⟩:∃ FF:Nat->Prop,Hid (∀ b,b<w.heap.size->F b->FF b)/\Hid (∀ b,w.heap.size+1+1+1<=b->FF b)/\Hid (¬ FF w.heap.size)/\Hid (¬ FF (w.heap.size+1+1))/\Hid (∀ b,FF b->F b\/w.heap.size<=b) :=
  ⟨fun b=>(F b/\b<w.heap.size)\/w.heap.size+1+1+1<=b,fun b h1 h2=>.inl ⟨h2,h1⟩,fun b h=>.inr h,fun h=>by rcases h with h | h;exact absurd h.2 (by omega);omega,fun h=>by rcases h with h | h;exact absurd h.2 (by omega);omega,fun b h=>by rcases h with h | h;exact .inl h.1;exact .inr (by omega)⟩
 have hw:WoF x w FF q:=h.mono iP;clear h iP;have CP:=hid (fun y q1 w' (k1:WoF y w' FF q1) (hy:y.le 1048576) k2=>qpH y q1 f e.fs d FF w' k1 hy k2 he.f);have iL:=hid k2;clear k2;have jA:=hid hC;clear hC;have hD:=ho.call e;have CC:=hid (fun w' k1 k2=>QQS x q e a c f d w' k1 hm k2 he);rw [dY] at CC hD;simp only at CC hD;have HD:=hid hD;have kD:D.ops.length<=1000:=hD.2.1;have CF:=hid (fun ob oe (z:Int) w' k1 k2 k3=>jEL q.a x.ss q.c q.a' x.ws q.c' ob D.ops oe z w' k1 k2 k3 (by omega) (fun o ho=>by have:=hD.2.2 o ho;omega) hm.l1 hm.l2 hm.s1 hm.s2);unfold Zoj at CF;have jB:=hid dY;clear dY hD;obtain ⟨i0,gO,gQ,gR,gS⟩:=vHq kML;have HI:=hid (And.intro gO (And.intro gQ (And.intro gR gS)));clear gO gQ gR gS;obtain ⟨i1,gO,gQ,gR,gS⟩:=vHq q7E;have HJ:=hid (And.intro gO (And.intro gQ (And.intro gR gS)));clear gO gQ gR gS;have j9:=hm.l5;have kE:=ho.p.1;have kF:=ho.t.1;obtain ⟨jG,fZ⟩:∃ y,Hid (y=x.doE e):=⟨_,hid rfl⟩;rw [<-fZ.out];unfold Zov vMH at CC ⊢
 have hE:Below w.heap.size w w:=Below.refl _ _;have j3:(e.K == 5)=false:=by simp [hK]
 go_enter Tryz.func45,Tryz.ntmps45;go_wp2_with fail;generalize gF:w.alloc _=v1;obtain ⟨hb,iI,bA⟩:=bx1 gF;clear gF;replace hE:=hE.trans (hb.mono hE.size);clear hb;generalize gG:v1.alloc _=v2;obtain ⟨hb,gW,bE⟩:=bx1 gG;clear gG;rw [iI] at bE gW;replace bA:=bA.below hb;replace hE:=hE.trans (hb.mono hE.size);clear hb;generalize gH:v2.alloc _=v3;obtain ⟨hb,iJ,bR⟩:=bx1 gH;clear gH;rw [gW] at bR iJ;replace bA:=bA.below hb;replace bE:=bE.below hb;replace hE:=hE.trans (hb.mono hE.size);clear hb;refine (CC.out _ (hw.below hE).at (h2.below hE)).mono ?_;rintro e v4 ⟨oa,oc,ob,oe,rfl,jO,own,g1,g2,hb⟩;have jU:v3.heap.size<=v4.heap.size:=hb.size;replace bA:=bA.below hb;replace bE:=bE.below hb;replace bR:=bR.below hb;replace hE:=hE.trans (hb.mono hE.size);have od:Dep v4 v3.heap.size v4.heap.size (fun W=>OwnDn W D.rs D.ops oa ob):=y80 own g1 g2;have kJ:w.heap.size+1+1+1<=v3.heap.size:=by omega
 clear own g1 g2;clear hb;unfold dnV;go_upto_region 4 with fail;generalize gI:v4.alloc _=v5;obtain ⟨hb,iK,bX⟩:=bx1 gI;have jV:v4.heap.size+1<=v5.heap.size:=by omega
 clear gI iK;replace bA:=bA.below hb;replace bE:=bE.below hb;replace bR:=bR.below hb;replace od:=od.below hb;replace hE:=hE.trans (hb.mono hE.size);clear hb;obtain ⟨XB,gE⟩:∃ y,y=v4.heap.size:=⟨_,rfl⟩;rw [<-gE] at bX ⊢;have j6:w.heap.size+1+1+1<=XB:=by omega
 have kH:XB<v5.heap.size:=bX.now.lt;clear gE;generalize Value.tuple _=T0;generalize Value.agg (wA x q)=A0;generalize Value.agg #[.int .i64 D.C,.int .i64 D.W,.int .i64 D.S,.int .i64 D.L,.int .i64 D.T,.int .i64 D.H,.int .i64 D.F,.int .i64 D.R,.int .i64 D.U,.int .i64 D.O,.slice oa D.rs.length oc,.slice ob D.ops.length oe]=A1;generalize Value.agg #[.int .i64 e.K,.slice a e.b.length c,.int .i64 e.cut,.slice f e.fs.length d]=A2;have hC:=jA.out;rw [hC] at bX;obtain ⟨N,HN⟩:∃ N,Hid (N=evN e D):=⟨_,hid rfl⟩;obtain ⟨CB,eU⟩:∃ b,Hid (b=ZJ5 e D):=⟨_,hid rfl⟩;have j5:N<=D.ops.length:=by rw [HN.out];exact X7G e D
 obtain ⟨cM,cN,cO,cP,cQ,cS,cT,cU,cV,cW,bV,bW,cY⟩:=c12 bX.now;obtain ⟨aU,aV,aW,aX⟩:=bE.now.k4;have aY:=bE.now.lt;go_upto_region 7 with fail;have eV:Hid (CB=true->e.cut=(N:Int)):=hid (fun k=>by rw [eU.out] at k;have k:=of_decide_eq_true (by unfold ZJ5 at k;exact k);rw [HN.out];unfold evN;rw [if_pos k];omega);have eW:Hid (CB=false->N=D.ops.length):=hid (fun k=>by rw [eU.out] at k;have k:=of_decide_eq_false (by unfold ZJ5 at k;exact k);rw [HN.out];unfold evN;rw [if_neg k]);go_cut [8] from 36 to 44 (fun cv wx=>cv=.bool CB/\wx=v5)
 case first =>
  by_cases k1:0<=e.cut
  ·by_cases k2:e.cut<=(D.ops.length:Int)
   ·have fA:CB=true:=by rw [eU.out];unfold ZJ5;exact decide_eq_true ⟨k1,k2⟩
    clear eV eW;go_wp2;go_meet;exact ⟨by rw [fA],rfl⟩
   ·have fA:CB=false:=by rw [eU.out];unfold ZJ5;exact decide_eq_false (fun h=>k2 h.2)
    clear eV eW;go_wp2;go_meet;exact ⟨by rw [fA],rfl⟩
  ·have fA:CB=false:=by rw [eU.out];unfold ZJ5;exact decide_eq_false (fun h=>k1 h.1)
   clear eV eW;go_wp2;go_meet;exact ⟨by rw [fA],rfl⟩
 case rest =>
 obtain ⟨e8,gJ⟩:=hcut;subst e8;rw [gJ];clear gJ;go_upto_if 45 with fail;go_cut [7] from 46 to 47 (fun nv wx=>nv=.int .i64 (N:Int)/\wx=v5)
 case first =>
  cases CB with
  | true =>
   have hn:=hid (eV.out rfl);clear eV eW;go_wp2;go_meet;exact ⟨by rw [hn.out],rfl⟩
  | false =>
   have hn:=hid (eW.out rfl);clear eV eW;go_wp2;go_meet;exact ⟨by rw [hn.out],rfl⟩
 case rest =>
 obtain ⟨e7,gJ⟩:=hcut;subst e7;rw [gJ];clear gJ eV eW;clear cM cN cO cP cQ cS cT cU cV cW bV bW cY aU aV aW aX aY;have j4:(N:Int)<=1000:=by omega
 obtain ⟨aJ,aK,aL,aM,aN,aO,aP,aQ,aR,aS,aD,aE,aF,aG,aH,aI,aT⟩:=c16 bA.now;go_wp2_with (at_builtin;refine Z4q rfl _ _ 23 rfl 9 i0 (.string ByteArray.empty) 1 16 Tryz.underlying23 HI.out.1 HI.out.2.1 HI.out.2.2.1 HI.out.2.2.2 rfl v5.heap.size v5.heap.size rfl (World.ownsRow_lit _ #[] 0 (Nat.le_refl _) (by simp) (by simp)) _ rfl x.ts.length _ (src_strs ((hw.below hE).at.h5.below (xCS _ _)) _ _ Tryz.underlying23 q.ct) (by omega) (by omega) (by simp) ?_;intro g0 iB ws eS jP iX);clear aJ aK aL aM aN aO aP aQ aR aS aD aE aF aG aH aI aT;have iO:Below v5.heap.size v5 ws:=(xCS _ _).trans (iX.mono (by simp));clear iX jP;go_loopw [9,10] (fun wv iv wr=>∃ (j g cap:Nat),j<=N/\iv=.int .i64 (j:Int)/\wv=.slice (some ⟨g,0,none⟩) (x.ts++xmh (D.ops.take j)).length cap/\wr.ownsRow v5.heap.size 9 1 (.slice (some ⟨g,0,none⟩) (x.ts++xmh (D.ops.take j)).length cap) (x.ts++xmh (D.ops.take j)).length ((x.ts++xmh (D.ops.take j)).map Value.string)/\Below v5.heap.size v5 wr) (fun _ iv _=>N-(intOf iv).toNat)
 case atStart=>exact ⟨0,g0,iB,Nat.zero_le _,rfl,by simp [xmh],by simpa [xmh] using eS,iO⟩
 case round =>
  clear eS iO;obtain ⟨j,g,cap,hj,rfl,rfl,dO,hB⟩:=hrel;have iY:=yHD (D.ops.take j);rw [List.length_take] at iY;have jQ:(x.ts++xmh (D.ops.take j)).length<=4000:=by rw [List.length_append];omega
  obtain ⟨LL,fW⟩:∃ y,Hid (y=x.ts++xmh (D.ops.take j)):=⟨_,hid rfl⟩;rw [<-fW.out] at dO jQ ⊢;clear iY
  by_cases kA:j<N
  ·have jR:(j:Int)<(N:Int):=by omega
   have j7:(0:Int)<=(j:Int):=by omega
   have j8:(j:Int)<(D.ops.length:Int):=by omega
   have X1:=(bX.low hB (by omega)).now;have kL:=X1.cell 11 _ rfl;have kM:=X1.lt;obtain ⟨b1,o1,s0,n1,t2,rfl,c0,c1,c2,jF⟩:=(od.low hB (by omega)).now.p.ops.at (k:=j) (by omega);have iG:=kde D.ops j (by omega);rw [<-jF.out] at iG;have iA:=hid iG;clear iG X1;have g6:=hid dO;have fY:=hid hB;have kI:=Zoz c0;clear dO hB;have kG:IntKind.i64.wrap ((j:Int)+1)=((j+1:Nat):Int):=by rw [JWx _ (by omega) (by omega)];omega
   cases s0 with
   | true =>
    go_wp2;exact ⟨⟨j+1,g,cap,by omega,by go_num,by rw [iA.out];simp [fW.out],by rw [iA.out];simpa [fW.out] using g6.out,fY.out⟩,by simp [intOf];omega⟩
   | false =>
    go_wp2_with (at_builtin;refine WAL _ rfl _ _ 23 rfl v5.heap.size Tryz.underlying23 HI.out rfl (by omega) _ LL.length _ rfl (g6.out.alloc _) ⟨wr.heap.size,0,none⟩ 1 1 [.string t2] rfl rfl (World.news_of_block (heap_alloc_new wr _)) (by intro u hu;simp at hu;subst hu;rfl) (by have:=fY.out.size;simp;omega) (wr.heap.size+1) (by simp) ?_;intro g9 dI w9 eT eB eI fB;have jE:=hid eT;have jC:=hid eB;clear eT eB eI);have e9:x.ts++xmh (D.ops.take (j+1))=LL++[t2]:=by rw [iA.out,fW.out];simp
    have jH:Below v5.heap.size v5 w9:=jbs ((fY.out).alloc fY.out.size _) (g6.out.alloc _) jC.out (by have:=fY.out.size;simp;omega);exact ⟨⟨j+1,g9,dI,by omega,by go_num,by rw [e9];simp,by rw [e9];simpa using jE.out,jH⟩,by simp [intOf];omega⟩
  have i3:j=N:=by omega
  have iM:Hid (LL=ZmL x e D):=hid (by rw [fW.out,i3,HN.out];rfl);have kC:¬ (j:Int)<(N:Int):=by omega
  clear i3;have j1:v5.heap.size<=wr.heap.size:=hB.size;replace bA:=bA.low hB (by omega);replace bE:=bE.low hB (by omega);replace bR:=bR.low hB (by omega);replace od:=od.low hB (by omega);replace bX:=bX.low hB (by omega);replace hE:=hE.trans (hB.mono hE.size);have rT:=kX5 dO;have gT:=xLn dO;have wd:Dep wr v5.heap.size wr.heap.size (fun W=>Row W g (LL.map Value.string)):=xuV rT gT rT.lt (Nat.le_refl _);have kK:w.heap.size+1+1+1<=v5.heap.size:=by omega
  clear hB dO rT fW;obtain ⟨PP,gX⟩:∃ y,Hid (y=evP x e D):=⟨_,hid rfl⟩;have jS:PP.length<=201:=by rw [gX.out];unfold evP;split<;>(try simp)<;>omega
  obtain ⟨aJ,aK,aL,aM,aN,aO,aP,aQ,aR,aS,aD,aE,aF,aG,aH,aI,aT⟩:=c16 bA.now;obtain ⟨aU,aV,aW,aX⟩:=bE.now.k4;have aY:=bE.now.lt;obtain ⟨cM,cN,cO,cP,cQ,cS,cT,cU,cV,cW,bV,bW,cY⟩:=c12 bX.now;go_upto_if 77 with fail;clear aJ aK aL aM aN aO aP aQ aR aS aD aE aF aG aH aI aT aU aV aW aX aY cM cN cO cP cQ cS cT cU cV cW bV bW cY;go_cut [11] from 75 to 85 (fun pv wx=>∃ (pa:Option Addr) (pc:Nat),pv=.slice pa PP.length pc/\PstF wx FF pa PP/\Below wr.heap.size wr wx)
  case first =>
   have k2:=iL.out;have ep:PP=x.P++[D.rs]:=by rw [gX.out];unfold evP;rw [if_pos k2]
   have jT:(e.K == 2)=true:=by simp [k2]
   clear k2;obtain ⟨news,fE,fC,iE⟩:=ymZ (P:=Tryz.prog) (hw.below hE).h4 34 31 Tryz.underlying34 q.cp;obtain ⟨aU,aV,aW,aX⟩:=bE.now.k4;have aY:=bE.now.lt;go_upto_region 18 with fail;clear aU aV aW aX aY
   have HK:Hid (∀ W,Below wr.heap.size wr W->W.cell? ⟨XB,10,none⟩=some (.slice oa D.rs.length oc)):=fun W hb=>(bX.below hb).now.cell 10 _ rfl
   refine wp_region_held_drew (S:=fun w'=>w'.cell? ⟨XB,10,none⟩=some (.slice oa D.rs.length oc)) (by kernel_rfl) (HK.out _ (Below.refl _ _).drew) (fun gY=>?_);refine TY 1 (.slice q.p x.P.length q.cp) rfl gY (TY 3 (.pointer (some ⟨XB,1,none⟩)) rfl gY (TY 4 (.pointer (some ⟨XB,10,none⟩)) rfl gY (TY 5 (.agg #[.slice oa D.rs.length oc]) rfl gY ?_)));simp only [PS];refine wpAnyH_ready (rs:=[0,6]) (by kernel_rfl) (by simp) ?_;refine AllReadyH.cons rfl (fun Kq bY=>?_) (AllReadyH.cons rfl (fun Kq bY=>?_) AllReadyH.nil)
   ·obtain ⟨y0,dJ⟩:∃ y,y=wr.drew:=⟨_,rfl⟩
    rw [<-dJ];have eH:Below wr.heap.size wr y0:=by rw [dJ];exact (Below.refl _ _).drew
    clear dJ;go_simp;have gN:=xCS y0 (.cells #[] 31);have eC:=xER y0 #[] 31
    have cZ:=World.ownsRow_lit (w:=y0) (e:=31) (size:=1) (base:=wr.heap.size) #[] 0 eH.size (by first | simp | decide | omega) (by first | simp | decide | (unfold maxLen;omega) | omega)
    obtain ⟨y1,dL⟩:∃ y,y=y0.alloc (.cells #[] 31):=⟨_,rfl⟩;obtain ⟨b0,bZ⟩:∃ y,y=y0.heap.size:=⟨_,rfl⟩;rw [<-dL] at gN eC cZ ⊢;rw [<-bZ] at eC cZ ⊢;have dK:=eH.trans (gN.mono eH.size);have iH:wr.heap.size<=b0:=by rw [bZ];exact eH.size
    have gZ:=hid bZ;clear dL;clear bZ;refine bY.out _ _ (HK.out _ dK) (fun jJ=>?_)
    try simp only [PS]
    refine wpAnyH_ready (rs:=[2,6]) (by kernel_rfl) (by simp) ?_;refine AllReadyH.cons rfl (fun Kq bY=>?_) (AllReadyH.cons rfl (fun Kq bY=>?_) AllReadyH.nil)
    ·refine z98 rfl _ _ 34 rfl 31 i1 (.agg #[.slice none 0 0]) 1 24 Tryz.underlying34 HJ.out.1 HJ.out.2.1 HJ.out.2.2.1 HJ.out.2.2.2 rfl b0 wr.heap.size rfl cZ _ rfl x.P.length news (fE _ dK) (by omega) (by omega) dK.size ?_
     intro g3 gD y2 eG iZ eJ;have dE:=dK.trans (eJ.mono dK.size);refine bY.out _ _ (HK.out _ dE) (fun jK=>?_)
     try simp only [PS]
     refine RD 6 rfl (fun Kq bY=>?_);go_simp;have eK:=xCS y2 (.cells #[.slice oa D.rs.length oc] 31);have aZ:=xER y2 #[.slice oa D.rs.length oc] 31
     have dH:=World.ownsRow_lit (w:=y2) (e:=31) (size:=1) (base:=wr.heap.size) #[.slice oa D.rs.length oc] 1 dE.size (by first | simp | decide | omega) (by first | simp | decide | (unfold maxLen;omega) | omega)
     obtain ⟨y3,dL⟩:∃ y,y=y2.alloc (.cells #[.slice oa D.rs.length oc] 31):=⟨_,rfl⟩;obtain ⟨b6,bZ⟩:∃ y,y=y2.heap.size:=⟨_,rfl⟩;rw [<-dL] at eK aZ dH ⊢;rw [<-bZ] at aZ dH ⊢;have dM:=dE.trans (eK.mono dE.size);have gU:wr.heap.size<=b6:=by rw [bZ];exact dE.size
     have fX:=hid bZ;clear dL;clear bZ;have eG:=jcb eG eK;refine bY.out _ _ (HK.out _ dM) (fun jL=>?_)
     try simp only [PS]
     refine RD 7 rfl (fun Kq bY=>?_);refine SAL _ rfl _ _ 34 rfl wr.heap.size Tryz.underlying34 HJ.out rfl (by omega) _ x.P.length _ rfl eG ⟨b6,0,none⟩ 1 1 [.slice oa D.rs.length oc] rfl rfl (fun j u hu=>by rw [JoX];exact aZ.cell j u hu) (by intro u hu;simp at hu;subst hu;rfl) dM.size _ rfl ?_;intro g9 dI y4 o9 dZ eI fB;have dV:Below wr.heap.size wr y4:=jbs dM eG dZ dM.size;refine bY.out _ _ (HK.out _ dV) (fun iC=>?_)
     try simp only [PS]
     refine RD 8 rfl (fun Kq bY=>?_);go_simp;refine bY.out _ _ iC (fun _=>?_)
     try simp only [PS]
     refine DN ?_;clear HK;go_wp2_with fail;go_meet;have r9:=kX5 o9;have iN:=xLn o9;refine ⟨some ⟨g9,0,none⟩,dI,by rw [ep];simp,?_,dV⟩;rw [ep];have s9:=dV;exact Xiu (G:=FF) fC (fun i hi=>by obtain ⟨p',c',k1,k2⟩:=iE i hi;exact ⟨p',c',k1,k2.below s9⟩) r9 (eF.out _ (by omega)) ((xat (od.below s9) (fun b hb _=>eF.out b (by omega))).map fun W k=>k.s.prs)
    ·go_simp
     have eJ:=xCS y1 (.cells #[.slice oa D.rs.length oc] 31);have aZ:=xER y1 #[.slice oa D.rs.length oc] 31
     have dH:=World.ownsRow_lit (w:=y1) (e:=31) (size:=1) (base:=wr.heap.size) #[.slice oa D.rs.length oc] 1 dK.size (by first | simp | decide | omega) (by first | simp | decide | (unfold maxLen;omega) | omega)
     obtain ⟨y2,dL⟩:∃ y,y=y1.alloc (.cells #[.slice oa D.rs.length oc] 31):=⟨_,rfl⟩;obtain ⟨b6,bZ⟩:∃ y,y=y1.heap.size:=⟨_,rfl⟩;rw [<-dL] at eJ aZ dH ⊢;rw [<-bZ] at aZ dH ⊢;have dE:=dK.trans (eJ.mono dK.size);have gU:wr.heap.size<=b6:=by rw [bZ];exact dK.size
     have fX:=hid bZ;clear dL;clear bZ;have cZ:=jcb cZ eJ;refine bY.out _ _ (HK.out _ dE) (fun jM=>?_)
     try simp only [PS]
     refine RD 2 rfl (fun Kq bY=>?_);refine z98 rfl _ _ 34 rfl 31 i1 (.agg #[.slice none 0 0]) 1 24 Tryz.underlying34 HJ.out.1 HJ.out.2.1 HJ.out.2.2.1 HJ.out.2.2.2 rfl b0 wr.heap.size rfl cZ _ rfl x.P.length news (fE _ dE) (by omega) (by omega) dE.size ?_;intro g3 gD y3 eG iZ eK;have dM:=dE.trans (eK.mono dE.size);have aZ:=aZ.below eK;refine bY.out _ _ (HK.out _ dM) (fun jN=>?_)
     try simp only [PS]
     refine RD 7 rfl (fun Kq bY=>?_);refine SAL _ rfl _ _ 34 rfl wr.heap.size Tryz.underlying34 HJ.out rfl (by omega) _ x.P.length _ rfl eG ⟨b6,0,none⟩ 1 1 [.slice oa D.rs.length oc] rfl rfl (fun j u hu=>by rw [JoX];exact aZ.cell j u hu) (by intro u hu;simp at hu;subst hu;rfl) dM.size _ rfl ?_;intro g9 dI y4 o9 dZ eI fB;have dV:Below wr.heap.size wr y4:=jbs dM eG dZ dM.size;refine bY.out _ _ (HK.out _ dV) (fun iD=>?_)
     try simp only [PS]
     refine RD 8 rfl (fun Kq bY=>?_);go_simp;refine bY.out _ _ iD (fun _=>?_)
     try simp only [PS]
     refine DN ?_;clear HK;go_wp2_with fail;go_meet;have r9:=kX5 o9;have iN:=xLn o9;refine ⟨some ⟨g9,0,none⟩,dI,by rw [ep];simp,?_,dV⟩;rw [ep];have s9:=dV;exact Xiu (G:=FF) fC (fun i hi=>by obtain ⟨p',c',k1,k2⟩:=iE i hi;exact ⟨p',c',k1,k2.below s9⟩) r9 (eF.out _ (by omega)) ((xat (od.below s9) (fun b hb _=>eF.out b (by omega))).map fun W k=>k.s.prs)
   ·obtain ⟨y0,dJ⟩:∃ y,y=wr.drew:=⟨_,rfl⟩
    rw [<-dJ];have eH:Below wr.heap.size wr y0:=by rw [dJ];exact (Below.refl _ _).drew
    clear dJ;go_simp;have gN:=xCS y0 (.cells #[.slice oa D.rs.length oc] 31);have aZ:=xER y0 #[.slice oa D.rs.length oc] 31
    have dH:=World.ownsRow_lit (w:=y0) (e:=31) (size:=1) (base:=wr.heap.size) #[.slice oa D.rs.length oc] 1 eH.size (by first | simp | decide | omega) (by first | simp | decide | (unfold maxLen;omega) | omega)
    obtain ⟨y1,dL⟩:∃ y,y=y0.alloc (.cells #[.slice oa D.rs.length oc] 31):=⟨_,rfl⟩;obtain ⟨b6,bZ⟩:∃ y,y=y0.heap.size:=⟨_,rfl⟩;rw [<-dL] at gN aZ dH ⊢;rw [<-bZ] at aZ dH ⊢;have dK:=eH.trans (gN.mono eH.size);have gU:wr.heap.size<=b6:=by rw [bZ];exact eH.size
    have fX:=hid bZ;clear dL;clear bZ;refine bY.out _ _ (HK.out _ dK) (fun iQ=>?_)
    try simp only [PS]
    refine RD 0 rfl (fun Kq bY=>?_);go_simp;have eJ:=xCS y1 (.cells #[] 31);have eC:=xER y1 #[] 31
    have cZ:=World.ownsRow_lit (w:=y1) (e:=31) (size:=1) (base:=wr.heap.size) #[] 0 dK.size (by first | simp | decide | omega) (by first | simp | decide | (unfold maxLen;omega) | omega)
    obtain ⟨y2,dL⟩:∃ y,y=y1.alloc (.cells #[] 31):=⟨_,rfl⟩;obtain ⟨b0,bZ⟩:∃ y,y=y1.heap.size:=⟨_,rfl⟩;rw [<-dL] at eJ eC cZ ⊢;rw [<-bZ] at eC cZ ⊢;have dE:=dK.trans (eJ.mono dK.size);have iH:wr.heap.size<=b0:=by rw [bZ];exact dK.size
    have gZ:=hid bZ;clear dL;clear bZ;have aZ:=aZ.below eJ;refine bY.out _ _ (HK.out _ dE) (fun iR=>?_)
    try simp only [PS]
    refine RD 2 rfl (fun Kq bY=>?_);refine z98 rfl _ _ 34 rfl 31 i1 (.agg #[.slice none 0 0]) 1 24 Tryz.underlying34 HJ.out.1 HJ.out.2.1 HJ.out.2.2.1 HJ.out.2.2.2 rfl b0 wr.heap.size rfl cZ _ rfl x.P.length news (fE _ dE) (by omega) (by omega) dE.size ?_;intro g3 gD y3 eG iZ eK;have dM:=dE.trans (eK.mono dE.size);have aZ:=aZ.below eK;refine bY.out _ _ (HK.out _ dM) (fun iS=>?_)
    try simp only [PS]
    refine RD 7 rfl (fun Kq bY=>?_);refine SAL _ rfl _ _ 34 rfl wr.heap.size Tryz.underlying34 HJ.out rfl (by omega) _ x.P.length _ rfl eG ⟨b6,0,none⟩ 1 1 [.slice oa D.rs.length oc] rfl rfl (fun j u hu=>by rw [JoX];exact aZ.cell j u hu) (by intro u hu;simp at hu;subst hu;rfl) dM.size _ rfl ?_;intro g9 dI y4 o9 dZ eI fB;have dV:Below wr.heap.size wr y4:=jbs dM eG dZ dM.size;refine bY.out _ _ (HK.out _ dV) (fun gM=>?_)
    try simp only [PS]
    refine RD 8 rfl (fun Kq bY=>?_);go_simp;refine bY.out _ _ gM (fun _=>?_)
    try simp only [PS]
    refine DN ?_;clear HK;go_wp2_with fail;go_meet;have r9:=kX5 o9;have iN:=xLn o9;refine ⟨some ⟨g9,0,none⟩,dI,by rw [ep];simp,?_,dV⟩;rw [ep];have s9:=dV;exact Xiu (G:=FF) fC (fun i hi=>by obtain ⟨p',c',k1,k2⟩:=iE i hi;exact ⟨p',c',k1,k2.below s9⟩) r9 (eF.out _ (by omega)) ((xat (od.below s9) (fun b hb _=>eF.out b (by omega))).map fun W k=>k.s.prs)
  case rest =>
  obtain ⟨pa,pc,rfl,dN,hb⟩:=hcut;have j0:wr.heap.size<=wc.heap.size:=hb.size;replace bA:=bA.below hb;replace bE:=bE.below hb;replace bR:=bR.below hb;replace od:=od.below hb;replace bX:=bX.below hb;replace wd:=wd.below hb;replace hE:=hE.trans (hb.mono hE.size);clear hb;have gP:=i4;rw [<-iM.out,<-gX.out] at gP;have kN:¬ ((2000:Int)<(LL.length:Int)):=by omega
  have kO:¬ ((200:Int)<(PP.length:Int)):=by omega
  clear gP;have eR:¬ (2000<(ZmL x e D).length\/200<(evP x e D).length):=by exact i4
  have i5:=ho.ran e (d:=D) HD.out (by omega);have j2:=hid i5;have jD:=hid eR;clear i5 eR;obtain ⟨aJ,aK,aL,aM,aN,aO,aP,aQ,aR,aS,aD,aE,aF,aG,aH,aI⟩:=bA.now.k16;obtain ⟨b7,b8,cC,cE,cF,cH,cI,cJ,cK,cL,bC,bG,bH,bI,bJ,bQ⟩:=bA.now.z16;have aT:=bA.now.lt;obtain ⟨aU,aV,aW,aX⟩:=bE.now.k4;have aY:=bE.now.lt;obtain ⟨cM,cN,cO,cP,cQ,cS,cT,cU,cV,cW,bV,bW,cY⟩:=c12 bX.now;go_wp2_with fail;clear aJ b7 aK b8 aL cC aM cE aN cF aO cH aP cI aQ cJ aR cK aS cL aD bC aE bG aF bH aG bI aH bJ aI bQ aT aU aV aW aX aY cM cN cO cP cQ cS cT cU cV cW bV bW cY;generalize eX:((wc.setCell _ _).setCell _ _)=v6;have aB:wc.grownBy v6 (some (w.heap.size)):=by rw [<-eX];exact y09 (y09 (World.grownBy.refl _ _) _ _) _ _
  have aA:=eX ▸ ((bA.now.set 15 (by simp) (.slice (some ⟨g,0,none⟩) LL.length cap)).set 14 (by simp) (.slice pa PP.length pc));have jW:wc.heap.size<=v6.heap.size:=aB.size
  have aC:∀ g,(some (w.heap.size):Option Nat)=some g->w.heap.size<=g/\g<w.heap.size+1:=fun g hg=>by injection hg with hg;omega
  clear eX;replace bE:=bE.grown aB (fun g hg=>by have:=aC g hg;omega);replace bR:=bR.grown aB (fun g hg=>by have:=aC g hg;omega);replace od:=od.grown aB (fun g hg=>by have:=aC g hg;omega);replace bX:=bX.grown aB (fun g hg=>by have:=aC g hg;omega);replace wd:=wd.grown aB (fun g hg=>by have:=aC g hg;omega)
  replace dN:=dN.grown aB (fun g hg k=>by have:=aC g hg;first | exact absurd k (by rw [show g=w.heap.size by omega];exact gK) | exact absurd k (by rw [show g=w.heap.size+1+1 by omega];exact gL))
  replace hE:=hE.trans (jJX aB hE.size (fun g hg=>by have:=aC g hg;omega));have bU:=aA.lt;clear bA;have bA:=qXs aA;clear aA aB aC bU;obtain ⟨RR,hI⟩:∃ y,Hid (y=pfR x.ss x.ws D.ops (N:Int)):=⟨_,hid rfl⟩;have CG:=CF.out ob oe (N:Int);rw [<-hI.out] at CG;refine (CG _ (hw.below hE).at.h1 (hw.below hE).at.h2 od.now.p.ops).mono ?_;rintro e v7 ⟨a1,c1,dQ,eD,rfl,iF,k1,k2,hb⟩;have jX:v6.heap.size<=v7.heap.size:=hb.size;replace bA:=bA.below hb;replace bE:=bE.below hb;replace bR:=bR.below hb;replace od:=od.below hb;replace bX:=bX.below hb;replace wd:=wd.below hb;replace dN:=dN.below hb;replace hE:=hE.trans (hb.mono hE.size);have d1:Dep v7 v6.heap.size v7.heap.size (fun W=>OwnS W a1 (RR.1.map Value.string)):=JKD iF.s Z3Z k1;have d2:Dep v7 v6.heap.size v7.heap.size (fun W=>OwnS W dQ (yaV RR.2)):=JKD iF.p qO5 k2;have ld:w.heap.size+1+1+1<=v6.heap.size:=by omega
  clear iF k1 k2 CG;clear hb
  cases CB with
  | true =>
   exact absurd (eU.out.trans fA) (by simp)
  | false =>
   have k2:=iL.out;have er:jG=(x.ran e D).upS D:=by rw [fZ.out];exact yiE hK jB.out hC jD.out eU.out.symm k2
   have jT:(e.K == 2)=true:=by simp [k2]
   have ER:=hid er;clear er;obtain ⟨aJ,aK,aL,aM,aN,aO,aP,aQ,aR,aS,aD,aE,aF,aG,aH,aI⟩:=bA.now.k16;obtain ⟨b7,b8,cC,cE,cF,cH,cI,cJ,cK,cL,bC,bG,bH,bI,bJ,bQ⟩:=bA.now.z16;have aT:=bA.now.lt;go_upto_region 26 with fail;clear aJ b7 aK b8 aL cC aM cE aN cF aO cH aP cI aQ cJ aR cK aS cL aD bC aE bG aF bH aG bI aH bJ aI bQ aT;generalize eY:((v7.setCell _ _).setCell _ _)=v8;have aB:v7.grownBy v8 (some (w.heap.size)):=by rw [<-eY];exact y09 (y09 (World.grownBy.refl _ _) _ _) _ _
   have aA:=eY ▸ ((bA.now.set 1 (by simp) (.slice a1 RR.1.length c1)).set 2 (by simp) (.slice dQ RR.2.length eD));have jY:v7.heap.size<=v8.heap.size:=aB.size
   have aC:∀ g,(some (w.heap.size):Option Nat)=some g->w.heap.size<=g/\g<w.heap.size+1:=fun g hg=>by injection hg with hg;omega
   clear eY;replace bE:=bE.grown aB (fun g hg=>by have:=aC g hg;omega);replace bR:=bR.grown aB (fun g hg=>by have:=aC g hg;omega);replace od:=od.grown aB (fun g hg=>by have:=aC g hg;omega);replace bX:=bX.grown aB (fun g hg=>by have:=aC g hg;omega);replace wd:=wd.grown aB (fun g hg=>by have:=aC g hg;omega)
   replace dN:=dN.grown aB (fun g hg k=>by have:=aC g hg;first | exact absurd k (by rw [show g=w.heap.size by omega];exact gK) | exact absurd k (by rw [show g=w.heap.size+1+1 by omega];exact gL))
   replace d1:=d1.grown aB (fun g hg=>by have:=aC g hg;omega);replace d2:=d2.grown aB (fun g hg=>by have:=aC g hg;omega);replace hE:=hE.trans (jJX aB hE.size (fun g hg=>by have:=aC g hg;omega));have bU:=aA.lt;clear bA;have bA:=qXs aA;clear aA aB aC bU;refine wp_region_lit ?_;refine jAy rfl _ _ _ rfl (.pointer (some ⟨XB,1,none⟩)) (by go_simp) ?_;simp only [PS];refine wpList_load_mid rfl 33 _ rfl (XB) 1 rfl [.int .i64 D.W,.int .i64 D.S,.int .i64 D.L,.int .i64 D.T,.int .i64 D.H,.int .i64 D.F,.int .i64 D.R,.int .i64 D.U,.int .i64 D.O,.slice oa D.rs.length oc] _ (Row.rangeMid (pre:=[.int .i64 0]) (cs:=[.int .i64 D.W,.int .i64 D.S,.int .i64 D.L,.int .i64 D.T,.int .i64 D.H,.int .i64 D.F,.int .i64 D.R,.int .i64 D.U,.int .i64 D.O,.slice oa D.rs.length oc]) (post:=[.slice ob D.ops.length oe]) bX.now) Tryz.underlying33 rfl xdC ?_;simp only [PS];refine jAy rfl _ _ _ rfl (.pointer (some ⟨w.heap.size,4,none⟩)) (by go_simp) ?_
   simp only [PS];refine wpList_store_mid rfl 33 _ _ rfl (w.heap.size) 4 #[.int .i64 D.W,.int .i64 D.S,.int .i64 D.L,.int .i64 D.T,.int .i64 D.H,.int .i64 D.F,.int .i64 D.R,.int .i64 D.U,.int .i64 D.O,.slice oa D.rs.length oc] rfl rfl (Row.thereMid (pre:=[.int .i64 x.w,.slice a1 RR.1.length c1,.slice dQ RR.2.length eD,.bool x.up]) (cs:=[.int .i64 x.W,.int .i64 x.S,.int .i64 x.L,.int .i64 x.T,.int .i64 x.H,.int .i64 x.F,.int .i64 x.R,.int .i64 x.U,.int .i64 x.O,.slice q.s x.rs.length q.cs]) (post:=[.slice pa PP.length pc,.slice (some ⟨g,0,none⟩) LL.length cap]) bA.now rfl) xdC (by kernel_rfl) ?_
   try simp only [PS]
   generalize eZ:v8.setCells _ _ _=v9;have aB:v8.grownBy v9 (some (w.heap.size)):=by rw [<-eZ];exact Qvn _ _ _ _
   have aA:Row v9 (w.heap.size) [.int .i64 x.w,.slice a1 RR.1.length c1,.slice dQ RR.2.length eD,.bool x.up,.int .i64 D.W,.int .i64 D.S,.int .i64 D.L,.int .i64 D.T,.int .i64 D.H,.int .i64 D.F,.int .i64 D.R,.int .i64 D.U,.int .i64 D.O,.slice oa D.rs.length oc,.slice pa PP.length pc,.slice (some ⟨g,0,none⟩) LL.length cap]:=eZ ▸ Row.setsMid (pre:=[.int .i64 x.w,.slice a1 RR.1.length c1,.slice dQ RR.2.length eD,.bool x.up]) (cs:=[.int .i64 x.W,.int .i64 x.S,.int .i64 x.L,.int .i64 x.T,.int .i64 x.H,.int .i64 x.F,.int .i64 x.R,.int .i64 x.U,.int .i64 x.O,.slice q.s x.rs.length q.cs]) (post:=[.slice pa PP.length pc,.slice (some ⟨g,0,none⟩) LL.length cap]) bA.now [.int .i64 D.W,.int .i64 D.S,.int .i64 D.L,.int .i64 D.T,.int .i64 D.H,.int .i64 D.F,.int .i64 D.R,.int .i64 D.U,.int .i64 D.O,.slice oa D.rs.length oc] rfl;have jZ:v8.heap.size<=v9.heap.size:=aB.size
   have aC:∀ g,(some (w.heap.size):Option Nat)=some g->w.heap.size<=g/\g<w.heap.size+1:=fun g hg=>by injection hg with hg;omega
   clear eZ;replace bE:=bE.grown aB (fun g hg=>by have:=aC g hg;omega);replace bR:=bR.grown aB (fun g hg=>by have:=aC g hg;omega);replace od:=od.grown aB (fun g hg=>by have:=aC g hg;omega);replace bX:=bX.grown aB (fun g hg=>by have:=aC g hg;omega);replace wd:=wd.grown aB (fun g hg=>by have:=aC g hg;omega)
   replace dN:=dN.grown aB (fun g hg k=>by have:=aC g hg;first | exact absurd k (by rw [show g=w.heap.size by omega];exact gK) | exact absurd k (by rw [show g=w.heap.size+1+1 by omega];exact gL))
   replace d1:=d1.grown aB (fun g hg=>by have:=aC g hg;omega);replace d2:=d2.grown aB (fun g hg=>by have:=aC g hg;omega);replace hE:=hE.trans (jJX aB hE.size (fun g hg=>by have:=aC g hg;omega));have bU:=aA.lt;clear bA;have bA:=qXs aA;clear aA aB aC bU;obtain ⟨aJ,aK,aL,aM,aN,aO,aP,aQ,aR,aS,aD,aE,aF,aG,aH,aI⟩:=bA.now.k16;obtain ⟨b7,b8,cC,cE,cF,cH,cI,cJ,cK,cL,bC,bG,bH,bI,bJ,bQ⟩:=bA.now.z16;have aT:=bA.now.lt;obtain ⟨aU,aV,aW,aX⟩:=bE.now.k4;have aY:=bE.now.lt;go_upto_region 30 with fail;clear aJ b7 aK b8 aL cC aM cE aN cF aO cH aP cI aQ cJ aR cK aS cL aD bC aE bG aF bH aG bI aH bJ aI bQ aT aU aV aW aX aY;generalize dR:(v9.setCell _ _)=gV;have aB:v9.grownBy gV (some (w.heap.size)):=by rw [<-dR];exact y09 (World.grownBy.refl _ _) _ _
   have aA:=dR ▸ (bA.now.set 3 (by simp) (.bool true));have i6:v9.heap.size<=gV.heap.size:=aB.size
   have aC:∀ g,(some (w.heap.size):Option Nat)=some g->w.heap.size<=g/\g<w.heap.size+1:=fun g hg=>by injection hg with hg;omega
   clear dR;replace bE:=bE.grown aB (fun g hg=>by have:=aC g hg;omega);replace bR:=bR.grown aB (fun g hg=>by have:=aC g hg;omega);replace od:=od.grown aB (fun g hg=>by have:=aC g hg;omega);replace bX:=bX.grown aB (fun g hg=>by have:=aC g hg;omega);replace wd:=wd.grown aB (fun g hg=>by have:=aC g hg;omega)
   replace dN:=dN.grown aB (fun g hg k=>by have:=aC g hg;first | exact absurd k (by rw [show g=w.heap.size by omega];exact gK) | exact absurd k (by rw [show g=w.heap.size+1+1 by omega];exact gL))
   replace d1:=d1.grown aB (fun g hg=>by have:=aC g hg;omega);replace d2:=d2.grown aB (fun g hg=>by have:=aC g hg;omega);replace hE:=hE.trans (jJX aB hE.size (fun g hg=>by have:=aC g hg;omega));have bU:=aA.lt;clear bA;have bA:=qXs aA;clear aA aB aC bU;refine wp_region_lit ?_;refine wpList_load_mid rfl 36 _ rfl (w.heap.size) 0 rfl [.int .i64 x.w,.slice a1 RR.1.length c1,.slice dQ RR.2.length eD,.bool true,.int .i64 D.W,.int .i64 D.S,.int .i64 D.L,.int .i64 D.T,.int .i64 D.H,.int .i64 D.F,.int .i64 D.R,.int .i64 D.U,.int .i64 D.O,.slice oa D.rs.length oc,.slice pa PP.length pc,.slice (some ⟨g,0,none⟩) LL.length cap] _ bA.now.range Tryz.underlying36 rfl ZAx ?_;simp only [PS];refine wpList_store_mid rfl 36 _ _ rfl (w.heap.size+1+1) 0 #[.int .i64 x.w,.slice a1 RR.1.length c1,.slice dQ RR.2.length eD,.bool true,.int .i64 D.W,.int .i64 D.S,.int .i64 D.L,.int .i64 D.T,.int .i64 D.H,.int .i64 D.F,.int .i64 D.R,.int .i64 D.U,.int .i64 D.O,.slice oa D.rs.length oc,.slice pa PP.length pc,.slice (some ⟨g,0,none⟩) LL.length cap] rfl rfl (bR.now.there rfl) ZAx (by kernel_rfl) ?_
   try simp only [PS]
   generalize dU:gV.setCells _ _ _=i8;have aB:gV.grownBy i8 (some (w.heap.size+1+1)):=by rw [<-dU];exact Qvn _ _ _ _
   have aA:=dU ▸ bR.now.sets [.int .i64 x.w,.slice a1 RR.1.length c1,.slice dQ RR.2.length eD,.bool true,.int .i64 D.W,.int .i64 D.S,.int .i64 D.L,.int .i64 D.T,.int .i64 D.H,.int .i64 D.F,.int .i64 D.R,.int .i64 D.U,.int .i64 D.O,.slice oa D.rs.length oc,.slice pa PP.length pc,.slice (some ⟨g,0,none⟩) LL.length cap] rfl;have i7:gV.heap.size<=i8.heap.size:=aB.size
   have aC:∀ g,(some (w.heap.size+1+1):Option Nat)=some g->w.heap.size+1+1<=g/\g<w.heap.size+1+1+1:=fun g hg=>by injection hg with hg;omega
   clear dU;replace bA:=bA.grown aB (fun g hg=>by have:=aC g hg;omega);replace bE:=bE.grown aB (fun g hg=>by have:=aC g hg;omega);replace od:=od.grown aB (fun g hg=>by have:=aC g hg;omega);replace bX:=bX.grown aB (fun g hg=>by have:=aC g hg;omega);replace wd:=wd.grown aB (fun g hg=>by have:=aC g hg;omega)
   replace dN:=dN.grown aB (fun g hg k=>by have:=aC g hg;first | exact absurd k (by rw [show g=w.heap.size by omega];exact gK) | exact absurd k (by rw [show g=w.heap.size+1+1 by omega];exact gL))
   replace d1:=d1.grown aB (fun g hg=>by have:=aC g hg;omega);replace d2:=d2.grown aB (fun g hg=>by have:=aC g hg;omega);replace hE:=hE.trans (jJX aB hE.size (fun g hg=>by have:=aC g hg;omega));have bU:=aA.lt;clear bR;have bR:=qXs aA;clear aA aB aC bU;go_wp2;have iU:(x.ran e D).ss=RR.1:=by rw [hI.out,HN.out];rfl
   have iV:(x.ran e D).ws=RR.2:=by rw [hI.out,HN.out];rfl
   have iW:(x.ran e D).ts=LL:=by rw [iM.out];rfl
   have iT:(x.ran e D).P=PP:=by rw [gX.out];rfl
   obtain ⟨fF,fG,fH,fI,fJ,fO,fQ,fS,fT,fU,eL,eM,eN,eO,eP,eQ,fV⟩:=c16 bR.now;have i9:WoF ((x.ran e D).upS D) _ FF ⟨a1,c1,dQ,eD,oa,oc,pa,pc,some ⟨g,0,none⟩,cap⟩:=⟨(xat d1 (fun b hb _=>eF.out b (by omega))).map fun W k=>by show Strs W a1 (x.ran e D).ss;rw [iU];exact k.strs,(xat d2 (fun b hb _=>eF.out b (by omega))).map fun W k=>by show Wrs W dQ (x.ran e D).ws;rw [iV];exact k.wrs,(xat od (fun b hb _=>eF.out b (by omega))).map fun W k=>k.s.prs,by show PstF _ FF pa (x.ran e D).P;rw [iT];exact dN,(xat wd (fun b hb _=>eF.out b (by omega))).map fun W k=>by show Strs W _ (x.ran e D).ts;rw [iW];exact k.strs⟩;rw [ER.out];refine bodyPost_ret (v:=.agg #[.int .i64 x.w,.slice a1 RR.1.length c1,.slice dQ RR.2.length eD,.bool true,.int .i64 D.W,.int .i64 D.S,.int .i64 D.L,.int .i64 D.T,.int .i64 D.H,.int .i64 D.F,.int .i64 D.R,.int .i64 D.U,.int .i64 D.O,.slice oa D.rs.length oc,.slice pa PP.length pc,.slice (some ⟨g,0,none⟩) LL.length cap]) (by simp [results,Tryz.results45,go_sem,fF,fG,fH,fI,fJ,fO,fQ,fS,fT,fU,eL,eM,eN,eO,eP,eQ,fV]) rfl ⟨⟨a1,c1,dQ,eD,oa,oc,pa,pc,some ⟨g,0,none⟩,cap⟩,?_,i9.mono fun b _ k=>jI.out b k,hE⟩
   rw [<-iU,<-iV,<-iW,<-iT];rfl
end Go.Proofs.YtehbpeinnepdcaaGreatDoor
