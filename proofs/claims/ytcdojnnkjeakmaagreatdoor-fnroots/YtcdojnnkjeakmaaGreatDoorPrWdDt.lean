import Derived.Test.YtcdojnnkjeakmaaGreatDoorPrWdD0
set_option maxHeartbeats 16000000
namespace Go.Proofs.YtcdojnnkjeakmaaGreatDoor
open Go.RowKit
set_option maxRecDepth 8000
set_option linter.unusedVariables false
set_option linter.unusedSimpArgs false
theorem ZqV (x:Wo) (q:Wp) (e:Ev) (a:Option Addr) (c:Nat) (f:Option Addr) (d:Nat) (F:Nat->Prop) (w:World) (h:WoF x w F q) (ho:x.ok) (h2:Chs w a e.b) (h3:Ints w f e.fs) (he:e.le) (hK:¬ e.K=5) (D:Dd) (dR:x.call e=(D,true)) (hC:D.C=0) (i6:¬ (2000<(ZmL x e D).length\/200<(evP x e D).length)) (eV:ZJ5 e D=false) (k2:e.K=2) :
  Calls Tryz.prog 44 #[Zov x q,vMH e a c f d] w fun r w'=>QRt w w' F r (x.doE e):=by
 have hm:=ho.le
 obtain ⟨FF,i8,eF,gJ,gK,jT⟩:∃ FF:Nat->Prop,Hid (∀ b,b<w.heap.size->F b->FF b)/\Hid (∀ b,w.heap.size+1+1+1<=b->FF b)/\Hid (¬ FF w.heap.size)/\Hid (¬ FF (w.heap.size+1+1))/\Hid (∀ b,FF b->F b\/w.heap.size<=b) :=
  ⟨fun b=>(F b/\b<w.heap.size)\/w.heap.size+1+1+1<=b,fun b h1 h2=>.inl ⟨h2,h1⟩,fun b h=>.inr h,fun h=>by rcases h with h | h;exact absurd h.2 (by omega);omega,fun h=>by rcases h with h | h;exact absurd h.2 (by omega);omega,fun b h=>by rcases h with h | h;exact .inl h.1;exact .inr (by omega)⟩
 have hw:WoF x w FF q:=h.mono i8;clear h i8;have CP:=hid (fun y q1 w' (k1:WoF y w' FF q1) (hy:y.le 1048576) k2=>qpH y q1 f e.fs d FF w' k1 hy k2 he.f);have iZ:=hid k2;clear k2;have jA:=hid hC;clear hC;have hD:=ho.call e;have CC:=hid (fun w' k1 k2=>QQS x q e a c f d w' k1 hm k2 he);rw [dR] at CC hD;simp only at CC hD;have HD:=hid hD;have kJ:D.ops.length<=1000:=hD.2.1;have CF:=hid (fun ob oe (z:Int) w' k1 k2 k3=>jEL q.a x.ss q.c q.a' x.ws q.c' ob D.ops oe z w' k1 k2 k3 (by omega) (fun o ho=>by have:=hD.2.2 o ho;omega) hm.l1 hm.l2 hm.s1 hm.s2);unfold Zoj at CF;have jJ:=hid dR;clear dR hD;obtain ⟨i0,gN,gF,gI,fX⟩:=vHq kML;have HI:=hid (And.intro gN (And.intro gF (And.intro gI fX)));clear gN gF gI fX;obtain ⟨i1,gN,gF,gI,fX⟩:=vHq q7E;have HJ:=hid (And.intro gN (And.intro gF (And.intro gI fX)));clear gN gF gI fX;have kG:=hm.l5;have kF:=ho.p.1;have kD:=ho.t.1;obtain ⟨jB,gQ⟩:∃ y,Hid (y=x.doE e):=⟨_,hid rfl⟩;rw [<-gQ.out];unfold Zov vMH at CC ⊢
 have hE:Below w.heap.size w w:=Below.refl _ _;have kO:(e.K == 5)=false:=by simp [hK]
 go_enter Tryz.func44,Tryz.ntmps44;go_wp2_with fail;generalize gV:w.alloc _=v1;obtain ⟨hb,iC,bA⟩:=bx1 gV;clear gV;replace hE:=hE.trans (hb.mono hE.size);clear hb;generalize gE:v1.alloc _=v2;obtain ⟨hb,gG,bE⟩:=bx1 gE;clear gE;rw [iC] at bE gG;replace bA:=bA.below hb;replace hE:=hE.trans (hb.mono hE.size);clear hb;generalize fY:v2.alloc _=v3;obtain ⟨hb,iH,bR⟩:=bx1 fY;clear fY;rw [gG] at bR iH;replace bA:=bA.below hb;replace bE:=bE.below hb;replace hE:=hE.trans (hb.mono hE.size);clear hb;refine (CC.out _ (hw.below hE).at (h2.below hE)).mono ?_;rintro e v4 ⟨oa,oc,ob,oe,rfl,j0,own,g1,g2,hb⟩;have jI:v3.heap.size<=v4.heap.size:=hb.size;replace bA:=bA.below hb;replace bE:=bE.below hb;replace bR:=bR.below hb;replace hE:=hE.trans (hb.mono hE.size);have od:Dep v4 v3.heap.size v4.heap.size (fun W=>OwnDn W D.rs D.ops oa ob):=y80 own g1 g2;have j8:w.heap.size+1+1+1<=v3.heap.size:=by omega
 clear own g1 g2;clear hb;unfold dnV;go_upto_region 4 with fail;generalize gP:v4.alloc _=v5;obtain ⟨hb,iA,bX⟩:=bx1 gP;have jY:v4.heap.size+1<=v5.heap.size:=by omega
 clear gP iA;replace bA:=bA.below hb;replace bE:=bE.below hb;replace bR:=bR.below hb;replace od:=od.below hb;replace hE:=hE.trans (hb.mono hE.size);clear hb;obtain ⟨XB,gL⟩:∃ y,y=v4.heap.size:=⟨_,rfl⟩;rw [<-gL] at bX ⊢;have j2:w.heap.size+1+1+1<=XB:=by omega
 have kH:XB<v5.heap.size:=bX.now.lt;clear gL;generalize Value.tuple _=T0;generalize Value.agg (wA x q)=A0;generalize Value.agg #[.int .i64 D.C,.int .i64 D.W,.int .i64 D.S,.int .i64 D.L,.int .i64 D.T,.int .i64 D.H,.int .i64 D.F,.int .i64 D.R,.int .i64 D.U,.int .i64 D.O,.slice oa D.rs.length oc,.slice ob D.ops.length oe]=A1;generalize Value.agg #[.int .i64 e.K,.slice a e.b.length c,.int .i64 e.cut,.slice f e.fs.length d]=A2;have hC:=jA.out;rw [hC] at bX;obtain ⟨N,HN⟩:∃ N,Hid (N=evN e D):=⟨_,hid rfl⟩;obtain ⟨CB,fV⟩:∃ b,Hid (b=ZJ5 e D):=⟨_,hid rfl⟩;have kE:N<=D.ops.length:=by rw [HN.out];exact X7G e D
 obtain ⟨cW,cO,cE,cC,cS,cT,cH,cI,cL,cP,bW,bG,cK⟩:=c12 bX.now;obtain ⟨aQ,aS,aN,aU⟩:=bE.now.k4;have aW:=bE.now.lt;go_upto_region 7 with fail;have fB:Hid (CB=true->e.cut=(N:Int)):=hid (fun k=>by rw [fV.out] at k;have k:=of_decide_eq_true (by unfold ZJ5 at k;exact k);rw [HN.out];unfold evN;rw [if_pos k];omega);have fA:Hid (CB=false->N=D.ops.length):=hid (fun k=>by rw [fV.out] at k;have k:=of_decide_eq_false (by unfold ZJ5 at k;exact k);rw [HN.out];unfold evN;rw [if_neg k]);go_cut [8] from 36 to 44 (fun cv wx=>cv=.bool CB/\wx=v5)
 case first =>
  by_cases k1:0<=e.cut
  ·by_cases k2:e.cut<=(D.ops.length:Int)
   ·have eV:CB=true:=by rw [fV.out];unfold ZJ5;exact decide_eq_true ⟨k1,k2⟩
    clear fB fA;go_wp2;go_meet;exact ⟨by rw [eV],rfl⟩
   ·have eV:CB=false:=by rw [fV.out];unfold ZJ5;exact decide_eq_false (fun h=>k2 h.2)
    clear fB fA;go_wp2;go_meet;exact ⟨by rw [eV],rfl⟩
  ·have eV:CB=false:=by rw [fV.out];unfold ZJ5;exact decide_eq_false (fun h=>k1 h.1)
   clear fB fA;go_wp2;go_meet;exact ⟨by rw [eV],rfl⟩
 case rest =>
 obtain ⟨e8,gM⟩:=hcut;subst e8;rw [gM];clear gM;go_upto_if 45 with fail;go_cut [7] from 46 to 47 (fun nv wx=>nv=.int .i64 (N:Int)/\wx=v5)
 case first =>
  cases CB with
  | true =>
   have hn:=hid (fB.out rfl);clear fB fA;go_wp2;go_meet;exact ⟨by rw [hn.out],rfl⟩
  | false =>
   have hn:=hid (fA.out rfl);clear fB fA;go_wp2;go_meet;exact ⟨by rw [hn.out],rfl⟩
 case rest =>
 obtain ⟨e7,gM⟩:=hcut;subst e7;rw [gM];clear gM fB fA;clear cW cO cE cC cS cT cH cI cL cP bW bG cK aQ aS aN aU aW;have kM:(N:Int)<=1000:=by omega
 obtain ⟨aO,aT,aV,aP,aM,aJ,aK,aY,aR,aX,aD,aF,aH,aI,aG,aE,aL⟩:=c16 bA.now;go_wp2_with (at_builtin;refine Z4q rfl _ _ 28 rfl 9 i0 (.string ByteArray.empty) 1 16 Tryz.underlying28 HI.out.1 HI.out.2.1 HI.out.2.2.1 HI.out.2.2.2 rfl v5.heap.size v5.heap.size rfl (World.ownsRow_lit _ #[] 0 (Nat.le_refl _) (by simp) (by simp)) _ rfl x.ts.length _ (QKc ((hw.below hE).at.h5.below (xCS _ _)) _ _ Tryz.underlying28 q.ct) (by omega) (by omega) (by simp) ?_;intro g0 iJ ws eT i9 iT);clear aO aT aV aP aM aJ aK aY aR aX aD aF aH aI aG aE aL;have i7:Below v5.heap.size v5 ws:=(xCS _ _).trans (iT.mono (by simp));clear iT i9;go_loopw [9,10] (fun wv iv wr=>∃ (j g cap:Nat),j<=N/\iv=.int .i64 (j:Int)/\wv=.slice (some ⟨g,0,none⟩) (x.ts++xmh (D.ops.take j)).length cap/\wr.ownsRow v5.heap.size 9 1 (.slice (some ⟨g,0,none⟩) (x.ts++xmh (D.ops.take j)).length cap) (x.ts++xmh (D.ops.take j)).length ((x.ts++xmh (D.ops.take j)).map Value.string)/\Below v5.heap.size v5 wr) (fun _ iv _=>N-(intOf iv).toNat)
 case atStart=>exact ⟨0,g0,iJ,Nat.zero_le _,rfl,by simp [xmh],by simpa [xmh] using eT,i7⟩
 case round =>
  clear eT i7;obtain ⟨j,g,cap,hj,rfl,rfl,dO,hB⟩:=hrel;have i5:=yHD (D.ops.take j);rw [List.length_take] at i5;have jQ:(x.ts++xmh (D.ops.take j)).length<=4000:=by rw [List.length_append];omega
  obtain ⟨LL,fW⟩:∃ y,Hid (y=x.ts++xmh (D.ops.take j)):=⟨_,hid rfl⟩;rw [<-fW.out] at dO jQ ⊢;clear i5
  by_cases j9:j<N
  ·have jK:(j:Int)<(N:Int):=by omega
   have kA:(0:Int)<=(j:Int):=by omega
   have kN:(j:Int)<(D.ops.length:Int):=by omega
   have X1:=(bX.low hB (by omega)).now;have j4:=X1.cell 11 _ rfl;have kK:=X1.lt;obtain ⟨b1,o1,s0,n1,t2,rfl,c0,c1,c2,jE⟩:=(od.low hB (by omega)).now.p.ops.at (k:=j) (by omega);have hY:=kde D.ops j (by omega);rw [<-jE.out] at hY;have hI:=hid hY;clear hY X1;have iF:=hid dO;have gO:=hid hB;have kC:=Zoz c0;clear dO hB;have j3:IntKind.i64.wrap ((j:Int)+1)=((j+1:Nat):Int):=by rw [JWx _ (by omega) (by omega)];omega
   cases s0 with
   | true =>
    go_wp2;exact ⟨⟨j+1,g,cap,by omega,by go_num,by rw [hI.out];simp [fW.out],by rw [hI.out];simpa [fW.out] using iF.out,gO.out⟩,by simp [intOf];omega⟩
   | false =>
    go_wp2_with (at_builtin;refine WAL _ rfl _ _ 28 rfl v5.heap.size Tryz.underlying28 HI.out rfl (by omega) _ LL.length _ rfl (iF.out.alloc _) ⟨wr.heap.size,0,none⟩ 1 1 [.string t2] rfl rfl (World.news_of_block (heap_alloc_new wr _)) (by intro u hu;simp at hu;subst hu;rfl) (by have:=gO.out.size;simp;omega) (wr.heap.size+1) (by simp) ?_;intro g9 dJ w9 eS eB eJ eW;have jL:=hid eS;have jW:=hid eB;clear eS eB eJ);have e9:x.ts++xmh (D.ops.take (j+1))=LL++[t2]:=by rw [hI.out,fW.out];simp
    have jF:Below v5.heap.size v5 w9:=jbs ((gO.out).alloc gO.out.size _) (iF.out.alloc _) jW.out (by have:=gO.out.size;simp;omega);exact ⟨⟨j+1,g9,dJ,by omega,by go_num,by rw [e9];simp,by rw [e9];simpa using jL.out,jF⟩,by simp [intOf];omega⟩
  have iL:j=N:=by omega
  have iS:Hid (LL=ZmL x e D):=hid (by rw [fW.out,iL,HN.out];rfl);have j5:¬ (j:Int)<(N:Int):=by omega
  clear iL;have jH:v5.heap.size<=wr.heap.size:=hB.size;replace bA:=bA.low hB (by omega);replace bE:=bE.low hB (by omega);replace bR:=bR.low hB (by omega);replace od:=od.low hB (by omega);replace bX:=bX.low hB (by omega);replace hE:=hE.trans (hB.mono hE.size);have rT:=kX5 dO;have gT:=xLn dO;have wd:Dep wr v5.heap.size wr.heap.size (fun W=>Row W g (LL.map Value.string)):=xuV rT gT rT.lt (Nat.le_refl _);have kL:w.heap.size+1+1+1<=v5.heap.size:=by omega
  clear hB dO rT fW;obtain ⟨PP,gX⟩:∃ y,Hid (y=evP x e D):=⟨_,hid rfl⟩;have jZ:PP.length<=201:=by rw [gX.out];unfold evP;split<;>(try simp)<;>omega
  obtain ⟨aO,aT,aV,aP,aM,aJ,aK,aY,aR,aX,aD,aF,aH,aI,aG,aE,aL⟩:=c16 bA.now;obtain ⟨aQ,aS,aN,aU⟩:=bE.now.k4;have aW:=bE.now.lt;obtain ⟨cW,cO,cE,cC,cS,cT,cH,cI,cL,cP,bW,bG,cK⟩:=c12 bX.now;go_upto_if 77 with fail;clear aO aT aV aP aM aJ aK aY aR aX aD aF aH aI aG aE aL aQ aS aN aU aW cW cO cE cC cS cT cH cI cL cP bW bG cK;go_cut [11] from 75 to 85 (fun pv wx=>∃ (pa:Option Addr) (pc:Nat),pv=.slice pa PP.length pc/\PstF wx FF pa PP/\Below wr.heap.size wr wx)
  case first =>
   have k2:=iZ.out;have ep:PP=x.P++[D.rs]:=by rw [gX.out];unfold evP;rw [if_pos k2]
   have jV:(e.K == 2)=true:=by simp [k2]
   clear k2;obtain ⟨news,eX,eU,iD⟩:=ymZ (P:=Tryz.prog) (hw.below hE).h4 60 57 Tryz.underlying60 q.cp;obtain ⟨aQ,aS,aN,aU⟩:=bE.now.k4;have aW:=bE.now.lt;go_upto_region 18 with fail;clear aQ aS aN aU aW
   have HK:Hid (∀ W,Below wr.heap.size wr W->W.cell? ⟨XB,10,none⟩=some (.slice oa D.rs.length oc)):=fun W hb=>(bX.below hb).now.cell 10 _ rfl
   refine wp_region_held_drew (S:=fun w'=>w'.cell? ⟨XB,10,none⟩=some (.slice oa D.rs.length oc)) (by kernel_rfl) (HK.out _ (Below.refl _ _).drew) (fun gY=>?_);refine TY 1 (.slice q.p x.P.length q.cp) rfl gY (TY 3 (.pointer (some ⟨XB,1,none⟩)) rfl gY (TY 4 (.pointer (some ⟨XB,10,none⟩)) rfl gY (TY 5 (.agg #[.slice oa D.rs.length oc]) rfl gY ?_)));simp only [PS];refine wpAnyH_ready (rs:=[0,6]) (by kernel_rfl) (by simp) ?_;refine AllReadyH.cons rfl (fun Kq bY=>?_) (AllReadyH.cons rfl (fun Kq bY=>?_) AllReadyH.nil)
   ·obtain ⟨y0,dK⟩:∃ y,y=wr.drew:=⟨_,rfl⟩
    rw [<-dK];have eI:Below wr.heap.size wr y0:=by rw [dK];exact (Below.refl _ _).drew
    clear dK;go_simp;have gW:=xCS y0 (.cells #[] 57);have dZ:=xER y0 #[] 57
    have cZ:=World.ownsRow_lit (w:=y0) (e:=57) (size:=1) (base:=wr.heap.size) #[] 0 eI.size (by first | simp | decide | omega) (by first | simp | decide | (unfold maxLen;omega) | omega)
    obtain ⟨y1,dL⟩:∃ y,y=y0.alloc (.cells #[] 57):=⟨_,rfl⟩;obtain ⟨b0,bZ⟩:∃ y,y=y0.heap.size:=⟨_,rfl⟩;rw [<-dL] at gW dZ cZ ⊢;rw [<-bZ] at dZ cZ ⊢;have dI:=eI.trans (gW.mono eI.size);have iE:wr.heap.size<=b0:=by rw [bZ];exact eI.size
    have iK:=hid bZ;clear dL;clear bZ;refine bY.out _ _ (HK.out _ dI) (fun jS=>?_)
    try simp only [PS]
    refine wpAnyH_ready (rs:=[2,6]) (by kernel_rfl) (by simp) ?_;refine AllReadyH.cons rfl (fun Kq bY=>?_) (AllReadyH.cons rfl (fun Kq bY=>?_) AllReadyH.nil)
    ·refine z98 rfl _ _ 60 rfl 57 i1 (.agg #[.slice none 0 0]) 1 24 Tryz.underlying60 HJ.out.1 HJ.out.2.1 HJ.out.2.2.1 HJ.out.2.2.2 rfl b0 wr.heap.size rfl cZ _ rfl x.P.length news (eX _ dI) (by omega) (by omega) dI.size ?_
     intro g3 fZ y2 eG iR eN;have dE:=dI.trans (eN.mono dI.size);refine bY.out _ _ (HK.out _ dE) (fun jD=>?_)
     try simp only [PS]
     refine RD 6 rfl (fun Kq bY=>?_);go_simp;have eO:=xCS y2 (.cells #[.slice oa D.rs.length oc] 57);have aZ:=xER y2 #[.slice oa D.rs.length oc] 57
     have dH:=World.ownsRow_lit (w:=y2) (e:=57) (size:=1) (base:=wr.heap.size) #[.slice oa D.rs.length oc] 1 dE.size (by first | simp | decide | omega) (by first | simp | decide | (unfold maxLen;omega) | omega)
     obtain ⟨y3,dL⟩:∃ y,y=y2.alloc (.cells #[.slice oa D.rs.length oc] 57):=⟨_,rfl⟩;obtain ⟨b6,bZ⟩:∃ y,y=y2.heap.size:=⟨_,rfl⟩;rw [<-dL] at eO aZ dH ⊢;rw [<-bZ] at aZ dH ⊢;have dM:=dE.trans (eO.mono dE.size);have gD:wr.heap.size<=b6:=by rw [bZ];exact dE.size
     have gR:=hid bZ;clear dL;clear bZ;have eG:=jcb eG eO;refine bY.out _ _ (HK.out _ dM) (fun jU=>?_)
     try simp only [PS]
     refine RD 7 rfl (fun Kq bY=>?_);refine SAL _ rfl _ _ 60 rfl wr.heap.size Tryz.underlying60 HJ.out rfl (by omega) _ x.P.length _ rfl eG ⟨b6,0,none⟩ 1 1 [.slice oa D.rs.length oc] rfl rfl (fun j u hu=>by rw [JoX];exact aZ.cell j u hu) (by intro u hu;simp at hu;subst hu;rfl) dM.size _ rfl ?_;intro g9 dJ y4 o9 dV eJ eW;have dY:Below wr.heap.size wr y4:=jbs dM eG dV dM.size;refine bY.out _ _ (HK.out _ dY) (fun iG=>?_)
     try simp only [PS]
     refine RD 8 rfl (fun Kq bY=>?_);go_simp;refine bY.out _ _ iG (fun _=>?_)
     try simp only [PS]
     refine DN ?_;clear HK;go_wp2_with fail;go_meet;have r9:=kX5 o9;have iV:=xLn o9;refine ⟨some ⟨g9,0,none⟩,dJ,by rw [ep];simp,?_,dY⟩;rw [ep];have s9:=dY;exact Xiu (G:=FF) eU (fun i hi=>by obtain ⟨p',c',k1,k2⟩:=iD i hi;exact ⟨p',c',k1,k2.below s9⟩) r9 (eF.out _ (by omega)) ((xat (od.below s9) (fun b hb _=>eF.out b (by omega))).map fun W k=>k.s.prs)
    ·go_simp
     have eN:=xCS y1 (.cells #[.slice oa D.rs.length oc] 57);have aZ:=xER y1 #[.slice oa D.rs.length oc] 57
     have dH:=World.ownsRow_lit (w:=y1) (e:=57) (size:=1) (base:=wr.heap.size) #[.slice oa D.rs.length oc] 1 dI.size (by first | simp | decide | omega) (by first | simp | decide | (unfold maxLen;omega) | omega)
     obtain ⟨y2,dL⟩:∃ y,y=y1.alloc (.cells #[.slice oa D.rs.length oc] 57):=⟨_,rfl⟩;obtain ⟨b6,bZ⟩:∃ y,y=y1.heap.size:=⟨_,rfl⟩;rw [<-dL] at eN aZ dH ⊢;rw [<-bZ] at aZ dH ⊢;have dE:=dI.trans (eN.mono dI.size);have gD:wr.heap.size<=b6:=by rw [bZ];exact dI.size
     have gR:=hid bZ;clear dL;clear bZ;have cZ:=jcb cZ eN;refine bY.out _ _ (HK.out _ dE) (fun jC=>?_)
     try simp only [PS]
     refine RD 2 rfl (fun Kq bY=>?_);refine z98 rfl _ _ 60 rfl 57 i1 (.agg #[.slice none 0 0]) 1 24 Tryz.underlying60 HJ.out.1 HJ.out.2.1 HJ.out.2.2.1 HJ.out.2.2.2 rfl b0 wr.heap.size rfl cZ _ rfl x.P.length news (eX _ dE) (by omega) (by omega) dE.size ?_;intro g3 fZ y3 eG iR eO;have dM:=dE.trans (eO.mono dE.size);have aZ:=aZ.below eO;refine bY.out _ _ (HK.out _ dM) (fun jR=>?_)
     try simp only [PS]
     refine RD 7 rfl (fun Kq bY=>?_);refine SAL _ rfl _ _ 60 rfl wr.heap.size Tryz.underlying60 HJ.out rfl (by omega) _ x.P.length _ rfl eG ⟨b6,0,none⟩ 1 1 [.slice oa D.rs.length oc] rfl rfl (fun j u hu=>by rw [JoX];exact aZ.cell j u hu) (by intro u hu;simp at hu;subst hu;rfl) dM.size _ rfl ?_;intro g9 dJ y4 o9 dV eJ eW;have dY:Below wr.heap.size wr y4:=jbs dM eG dV dM.size;refine bY.out _ _ (HK.out _ dY) (fun iB=>?_)
     try simp only [PS]
     refine RD 8 rfl (fun Kq bY=>?_);go_simp;refine bY.out _ _ iB (fun _=>?_)
     try simp only [PS]
     refine DN ?_;clear HK;go_wp2_with fail;go_meet;have r9:=kX5 o9;have iV:=xLn o9;refine ⟨some ⟨g9,0,none⟩,dJ,by rw [ep];simp,?_,dY⟩;rw [ep];have s9:=dY;exact Xiu (G:=FF) eU (fun i hi=>by obtain ⟨p',c',k1,k2⟩:=iD i hi;exact ⟨p',c',k1,k2.below s9⟩) r9 (eF.out _ (by omega)) ((xat (od.below s9) (fun b hb _=>eF.out b (by omega))).map fun W k=>k.s.prs)
   ·obtain ⟨y0,dK⟩:∃ y,y=wr.drew:=⟨_,rfl⟩
    rw [<-dK];have eI:Below wr.heap.size wr y0:=by rw [dK];exact (Below.refl _ _).drew
    clear dK;go_simp;have gW:=xCS y0 (.cells #[.slice oa D.rs.length oc] 57);have aZ:=xER y0 #[.slice oa D.rs.length oc] 57
    have dH:=World.ownsRow_lit (w:=y0) (e:=57) (size:=1) (base:=wr.heap.size) #[.slice oa D.rs.length oc] 1 eI.size (by first | simp | decide | omega) (by first | simp | decide | (unfold maxLen;omega) | omega)
    obtain ⟨y1,dL⟩:∃ y,y=y0.alloc (.cells #[.slice oa D.rs.length oc] 57):=⟨_,rfl⟩;obtain ⟨b6,bZ⟩:∃ y,y=y0.heap.size:=⟨_,rfl⟩;rw [<-dL] at gW aZ dH ⊢;rw [<-bZ] at aZ dH ⊢;have dI:=eI.trans (gW.mono eI.size);have gD:wr.heap.size<=b6:=by rw [bZ];exact eI.size
    have gR:=hid bZ;clear dL;clear bZ;refine bY.out _ _ (HK.out _ dI) (fun iQ=>?_)
    try simp only [PS]
    refine RD 0 rfl (fun Kq bY=>?_);go_simp;have eN:=xCS y1 (.cells #[] 57);have dZ:=xER y1 #[] 57
    have cZ:=World.ownsRow_lit (w:=y1) (e:=57) (size:=1) (base:=wr.heap.size) #[] 0 dI.size (by first | simp | decide | omega) (by first | simp | decide | (unfold maxLen;omega) | omega)
    obtain ⟨y2,dL⟩:∃ y,y=y1.alloc (.cells #[] 57):=⟨_,rfl⟩;obtain ⟨b0,bZ⟩:∃ y,y=y1.heap.size:=⟨_,rfl⟩;rw [<-dL] at eN dZ cZ ⊢;rw [<-bZ] at dZ cZ ⊢;have dE:=dI.trans (eN.mono dI.size);have iE:wr.heap.size<=b0:=by rw [bZ];exact dI.size
    have iK:=hid bZ;clear dL;clear bZ;have aZ:=aZ.below eN;refine bY.out _ _ (HK.out _ dE) (fun iP=>?_)
    try simp only [PS]
    refine RD 2 rfl (fun Kq bY=>?_);refine z98 rfl _ _ 60 rfl 57 i1 (.agg #[.slice none 0 0]) 1 24 Tryz.underlying60 HJ.out.1 HJ.out.2.1 HJ.out.2.2.1 HJ.out.2.2.2 rfl b0 wr.heap.size rfl cZ _ rfl x.P.length news (eX _ dE) (by omega) (by omega) dE.size ?_;intro g3 fZ y3 eG iR eO;have dM:=dE.trans (eO.mono dE.size);have aZ:=aZ.below eO;refine bY.out _ _ (HK.out _ dM) (fun iX=>?_)
    try simp only [PS]
    refine RD 7 rfl (fun Kq bY=>?_);refine SAL _ rfl _ _ 60 rfl wr.heap.size Tryz.underlying60 HJ.out rfl (by omega) _ x.P.length _ rfl eG ⟨b6,0,none⟩ 1 1 [.slice oa D.rs.length oc] rfl rfl (fun j u hu=>by rw [JoX];exact aZ.cell j u hu) (by intro u hu;simp at hu;subst hu;rfl) dM.size _ rfl ?_;intro g9 dJ y4 o9 dV eJ eW;have dY:Below wr.heap.size wr y4:=jbs dM eG dV dM.size;refine bY.out _ _ (HK.out _ dY) (fun gH=>?_)
    try simp only [PS]
    refine RD 8 rfl (fun Kq bY=>?_);go_simp;refine bY.out _ _ gH (fun _=>?_)
    try simp only [PS]
    refine DN ?_;clear HK;go_wp2_with fail;go_meet;have r9:=kX5 o9;have iV:=xLn o9;refine ⟨some ⟨g9,0,none⟩,dJ,by rw [ep];simp,?_,dY⟩;rw [ep];have s9:=dY;exact Xiu (G:=FF) eU (fun i hi=>by obtain ⟨p',c',k1,k2⟩:=iD i hi;exact ⟨p',c',k1,k2.below s9⟩) r9 (eF.out _ (by omega)) ((xat (od.below s9) (fun b hb _=>eF.out b (by omega))).map fun W k=>k.s.prs)
  case rest =>
  obtain ⟨pa,pc,rfl,dN,hb⟩:=hcut;have jM:wr.heap.size<=wc.heap.size:=hb.size;replace bA:=bA.below hb;replace bE:=bE.below hb;replace bR:=bR.below hb;replace od:=od.below hb;replace bX:=bX.below hb;replace wd:=wd.below hb;replace hE:=hE.trans (hb.mono hE.size);clear hb;have gS:=i6;rw [<-iS.out,<-gX.out] at gS;have j6:¬ ((2000:Int)<(LL.length:Int)):=by omega
  have j7:¬ ((200:Int)<(PP.length:Int)):=by omega
  clear gS;have eR:¬ (2000<(ZmL x e D).length\/200<(evP x e D).length):=by exact i6
  have iW:=ho.ran e (d:=D) HD.out (by omega);have kI:=hid iW;have jO:=hid eR;clear iW eR;obtain ⟨aO,aT,aV,aP,aM,aJ,aK,aY,aR,aX,aD,aF,aH,aI,aG,aE⟩:=bA.now.k16;obtain ⟨cQ,b8,cY,b7,cF,cN,cJ,cM,cU,cV,bV,bC,bH,bJ,bQ,bI⟩:=bA.now.z16;have aL:=bA.now.lt;obtain ⟨aQ,aS,aN,aU⟩:=bE.now.k4;have aW:=bE.now.lt;obtain ⟨cW,cO,cE,cC,cS,cT,cH,cI,cL,cP,bW,bG,cK⟩:=c12 bX.now;go_wp2_with fail;clear aO cQ aT b8 aV cY aP b7 aM cF aJ cN aK cJ aY cM aR cU aX cV aD bV aF bC aH bH aI bJ aG bQ aE bI aL aQ aS aN aU aW cW cO cE cC cS cT cH cI cL cP bW bG cK;generalize fG:((wc.setCell _ _).setCell _ _)=v6;have aB:wc.grownBy v6 (some (w.heap.size)):=by rw [<-fG];exact y09 (y09 (World.grownBy.refl _ _) _ _) _ _
  have aA:=fG ▸ ((bA.now.set 15 (by simp) (.slice (some ⟨g,0,none⟩) LL.length cap)).set 14 (by simp) (.slice pa PP.length pc));have jG:wc.heap.size<=v6.heap.size:=aB.size
  have aC:∀ g,(some (w.heap.size):Option Nat)=some g->w.heap.size<=g/\g<w.heap.size+1:=fun g hg=>by injection hg with hg;omega
  clear fG;replace bE:=bE.grown aB (fun g hg=>by have:=aC g hg;omega);replace bR:=bR.grown aB (fun g hg=>by have:=aC g hg;omega);replace od:=od.grown aB (fun g hg=>by have:=aC g hg;omega);replace bX:=bX.grown aB (fun g hg=>by have:=aC g hg;omega);replace wd:=wd.grown aB (fun g hg=>by have:=aC g hg;omega)
  replace dN:=dN.grown aB (fun g hg k=>by have:=aC g hg;first | exact absurd k (by rw [show g=w.heap.size by omega];exact gJ) | exact absurd k (by rw [show g=w.heap.size+1+1 by omega];exact gK))
  replace hE:=hE.trans (jJX aB hE.size (fun g hg=>by have:=aC g hg;omega));have bU:=aA.lt;clear bA;have bA:=qXs aA;clear aA aB aC bU;obtain ⟨RR,iI⟩:∃ y,Hid (y=pfR x.ss x.ws D.ops (N:Int)):=⟨_,hid rfl⟩;have CG:=CF.out ob oe (N:Int);rw [<-iI.out] at CG;refine (CG _ (hw.below hE).at.h1 (hw.below hE).at.h2 od.now.p.ops).mono ?_;rintro e v7 ⟨a1,c1,dQ,eD,rfl,gZ,k1,k2,hb⟩;have j1:v6.heap.size<=v7.heap.size:=hb.size;replace bA:=bA.below hb;replace bE:=bE.below hb;replace bR:=bR.below hb;replace od:=od.below hb;replace bX:=bX.below hb;replace wd:=wd.below hb;replace dN:=dN.below hb;replace hE:=hE.trans (hb.mono hE.size);have d1:Dep v7 v6.heap.size v7.heap.size (fun W=>OwnS W a1 (RR.1.map Value.string)):=JKD gZ.s Z3Z k1;have d2:Dep v7 v6.heap.size v7.heap.size (fun W=>OwnS W dQ (yaV RR.2)):=JKD gZ.p qO5 k2;have ld:w.heap.size+1+1+1<=v6.heap.size:=by omega
  clear gZ k1 k2 CG;clear hb
  cases CB with
  | true =>
   exact absurd (fV.out.trans eV) (by simp)
  | false =>
   have k2:=iZ.out;have er:jB=(x.ran e D).upS D:=by rw [gQ.out];exact yiE hK jJ.out hC jO.out fV.out.symm k2
   have jV:(e.K == 2)=true:=by simp [k2]
   have ER:=hid er;clear er;obtain ⟨aO,aT,aV,aP,aM,aJ,aK,aY,aR,aX,aD,aF,aH,aI,aG,aE⟩:=bA.now.k16;obtain ⟨cQ,b8,cY,b7,cF,cN,cJ,cM,cU,cV,bV,bC,bH,bJ,bQ,bI⟩:=bA.now.z16;have aL:=bA.now.lt;go_upto_region 26 with fail;clear aO cQ aT b8 aV cY aP b7 aM cF aJ cN aK cJ aY cM aR cU aX cV aD bV aF bC aH bH aI bJ aG bQ aE bI aL;generalize fQ:((v7.setCell _ _).setCell _ _)=v8;have aB:v7.grownBy v8 (some (w.heap.size)):=by rw [<-fQ];exact y09 (y09 (World.grownBy.refl _ _) _ _) _ _
   have aA:=fQ ▸ ((bA.now.set 1 (by simp) (.slice a1 RR.1.length c1)).set 2 (by simp) (.slice dQ RR.2.length eD));have jN:v7.heap.size<=v8.heap.size:=aB.size
   have aC:∀ g,(some (w.heap.size):Option Nat)=some g->w.heap.size<=g/\g<w.heap.size+1:=fun g hg=>by injection hg with hg;omega
   clear fQ;replace bE:=bE.grown aB (fun g hg=>by have:=aC g hg;omega);replace bR:=bR.grown aB (fun g hg=>by have:=aC g hg;omega);replace od:=od.grown aB (fun g hg=>by have:=aC g hg;omega);replace bX:=bX.grown aB (fun g hg=>by have:=aC g hg;omega);replace wd:=wd.grown aB (fun g hg=>by have:=aC g hg;omega)
   replace dN:=dN.grown aB (fun g hg k=>by have:=aC g hg;first | exact absurd k (by rw [show g=w.heap.size by omega];exact gJ) | exact absurd k (by rw [show g=w.heap.size+1+1 by omega];exact gK))
   replace d1:=d1.grown aB (fun g hg=>by have:=aC g hg;omega);replace d2:=d2.grown aB (fun g hg=>by have:=aC g hg;omega);replace hE:=hE.trans (jJX aB hE.size (fun g hg=>by have:=aC g hg;omega));have bU:=aA.lt;clear bA;have bA:=qXs aA;clear aA aB aC bU;refine wp_region_lit ?_;refine jAy rfl _ _ _ rfl (.pointer (some ⟨XB,1,none⟩)) (by go_simp) ?_;simp only [PS];refine wpList_load_mid rfl 59 _ rfl (XB) 1 rfl [.int .i64 D.W,.int .i64 D.S,.int .i64 D.L,.int .i64 D.T,.int .i64 D.H,.int .i64 D.F,.int .i64 D.R,.int .i64 D.U,.int .i64 D.O,.slice oa D.rs.length oc] _ (Row.rangeMid (pre:=[.int .i64 0]) (cs:=[.int .i64 D.W,.int .i64 D.S,.int .i64 D.L,.int .i64 D.T,.int .i64 D.H,.int .i64 D.F,.int .i64 D.R,.int .i64 D.U,.int .i64 D.O,.slice oa D.rs.length oc]) (post:=[.slice ob D.ops.length oe]) bX.now) Tryz.underlying59 rfl xdC ?_;simp only [PS];refine jAy rfl _ _ _ rfl (.pointer (some ⟨w.heap.size,4,none⟩)) (by go_simp) ?_
   simp only [PS];refine wpList_store_mid rfl 59 _ _ rfl (w.heap.size) 4 #[.int .i64 D.W,.int .i64 D.S,.int .i64 D.L,.int .i64 D.T,.int .i64 D.H,.int .i64 D.F,.int .i64 D.R,.int .i64 D.U,.int .i64 D.O,.slice oa D.rs.length oc] rfl rfl (Row.thereMid (pre:=[.int .i64 x.w,.slice a1 RR.1.length c1,.slice dQ RR.2.length eD,.bool x.up]) (cs:=[.int .i64 x.W,.int .i64 x.S,.int .i64 x.L,.int .i64 x.T,.int .i64 x.H,.int .i64 x.F,.int .i64 x.R,.int .i64 x.U,.int .i64 x.O,.slice q.s x.rs.length q.cs]) (post:=[.slice pa PP.length pc,.slice (some ⟨g,0,none⟩) LL.length cap]) bA.now rfl) xdC (by kernel_rfl) ?_
   try simp only [PS]
   generalize fT:v8.setCells _ _ _=v9;have aB:v8.grownBy v9 (some (w.heap.size)):=by rw [<-fT];exact Qvn _ _ _ _
   have aA:Row v9 (w.heap.size) [.int .i64 x.w,.slice a1 RR.1.length c1,.slice dQ RR.2.length eD,.bool x.up,.int .i64 D.W,.int .i64 D.S,.int .i64 D.L,.int .i64 D.T,.int .i64 D.H,.int .i64 D.F,.int .i64 D.R,.int .i64 D.U,.int .i64 D.O,.slice oa D.rs.length oc,.slice pa PP.length pc,.slice (some ⟨g,0,none⟩) LL.length cap]:=fT ▸ Row.setsMid (pre:=[.int .i64 x.w,.slice a1 RR.1.length c1,.slice dQ RR.2.length eD,.bool x.up]) (cs:=[.int .i64 x.W,.int .i64 x.S,.int .i64 x.L,.int .i64 x.T,.int .i64 x.H,.int .i64 x.F,.int .i64 x.R,.int .i64 x.U,.int .i64 x.O,.slice q.s x.rs.length q.cs]) (post:=[.slice pa PP.length pc,.slice (some ⟨g,0,none⟩) LL.length cap]) bA.now [.int .i64 D.W,.int .i64 D.S,.int .i64 D.L,.int .i64 D.T,.int .i64 D.H,.int .i64 D.F,.int .i64 D.R,.int .i64 D.U,.int .i64 D.O,.slice oa D.rs.length oc] rfl;have jX:v8.heap.size<=v9.heap.size:=aB.size
   have aC:∀ g,(some (w.heap.size):Option Nat)=some g->w.heap.size<=g/\g<w.heap.size+1:=fun g hg=>by injection hg with hg;omega
   clear fT;replace bE:=bE.grown aB (fun g hg=>by have:=aC g hg;omega);replace bR:=bR.grown aB (fun g hg=>by have:=aC g hg;omega);replace od:=od.grown aB (fun g hg=>by have:=aC g hg;omega);replace bX:=bX.grown aB (fun g hg=>by have:=aC g hg;omega);replace wd:=wd.grown aB (fun g hg=>by have:=aC g hg;omega)
   replace dN:=dN.grown aB (fun g hg k=>by have:=aC g hg;first | exact absurd k (by rw [show g=w.heap.size by omega];exact gJ) | exact absurd k (by rw [show g=w.heap.size+1+1 by omega];exact gK))
   replace d1:=d1.grown aB (fun g hg=>by have:=aC g hg;omega);replace d2:=d2.grown aB (fun g hg=>by have:=aC g hg;omega);replace hE:=hE.trans (jJX aB hE.size (fun g hg=>by have:=aC g hg;omega));have bU:=aA.lt;clear bA;have bA:=qXs aA;clear aA aB aC bU;obtain ⟨aO,aT,aV,aP,aM,aJ,aK,aY,aR,aX,aD,aF,aH,aI,aG,aE⟩:=bA.now.k16;obtain ⟨cQ,b8,cY,b7,cF,cN,cJ,cM,cU,cV,bV,bC,bH,bJ,bQ,bI⟩:=bA.now.z16;have aL:=bA.now.lt;obtain ⟨aQ,aS,aN,aU⟩:=bE.now.k4;have aW:=bE.now.lt;go_upto_region 30 with fail;clear aO cQ aT b8 aV cY aP b7 aM cF aJ cN aK cJ aY cM aR cU aX cV aD bV aF bC aH bH aI bJ aG bQ aE bI aL aQ aS aN aU aW;generalize eC:(v9.setCell _ _)=gU;have aB:v9.grownBy gU (some (w.heap.size)):=by rw [<-eC];exact y09 (World.grownBy.refl _ _) _ _
   have aA:=eC ▸ (bA.now.set 3 (by simp) (.bool true));have iU:v9.heap.size<=gU.heap.size:=aB.size
   have aC:∀ g,(some (w.heap.size):Option Nat)=some g->w.heap.size<=g/\g<w.heap.size+1:=fun g hg=>by injection hg with hg;omega
   clear eC;replace bE:=bE.grown aB (fun g hg=>by have:=aC g hg;omega);replace bR:=bR.grown aB (fun g hg=>by have:=aC g hg;omega);replace od:=od.grown aB (fun g hg=>by have:=aC g hg;omega);replace bX:=bX.grown aB (fun g hg=>by have:=aC g hg;omega);replace wd:=wd.grown aB (fun g hg=>by have:=aC g hg;omega)
   replace dN:=dN.grown aB (fun g hg k=>by have:=aC g hg;first | exact absurd k (by rw [show g=w.heap.size by omega];exact gJ) | exact absurd k (by rw [show g=w.heap.size+1+1 by omega];exact gK))
   replace d1:=d1.grown aB (fun g hg=>by have:=aC g hg;omega);replace d2:=d2.grown aB (fun g hg=>by have:=aC g hg;omega);replace hE:=hE.trans (jJX aB hE.size (fun g hg=>by have:=aC g hg;omega));have bU:=aA.lt;clear bA;have bA:=qXs aA;clear aA aB aC bU;refine wp_region_lit ?_;refine wpList_load_mid rfl 62 _ rfl (w.heap.size) 0 rfl [.int .i64 x.w,.slice a1 RR.1.length c1,.slice dQ RR.2.length eD,.bool true,.int .i64 D.W,.int .i64 D.S,.int .i64 D.L,.int .i64 D.T,.int .i64 D.H,.int .i64 D.F,.int .i64 D.R,.int .i64 D.U,.int .i64 D.O,.slice oa D.rs.length oc,.slice pa PP.length pc,.slice (some ⟨g,0,none⟩) LL.length cap] _ bA.now.range Tryz.underlying62 rfl ZAx ?_;simp only [PS];refine wpList_store_mid rfl 62 _ _ rfl (w.heap.size+1+1) 0 #[.int .i64 x.w,.slice a1 RR.1.length c1,.slice dQ RR.2.length eD,.bool true,.int .i64 D.W,.int .i64 D.S,.int .i64 D.L,.int .i64 D.T,.int .i64 D.H,.int .i64 D.F,.int .i64 D.R,.int .i64 D.U,.int .i64 D.O,.slice oa D.rs.length oc,.slice pa PP.length pc,.slice (some ⟨g,0,none⟩) LL.length cap] rfl rfl (bR.now.there rfl) ZAx (by kernel_rfl) ?_
   try simp only [PS]
   generalize dU:gU.setCells _ _ _=i3;have aB:gU.grownBy i3 (some (w.heap.size+1+1)):=by rw [<-dU];exact Qvn _ _ _ _
   have aA:=dU ▸ bR.now.sets [.int .i64 x.w,.slice a1 RR.1.length c1,.slice dQ RR.2.length eD,.bool true,.int .i64 D.W,.int .i64 D.S,.int .i64 D.L,.int .i64 D.T,.int .i64 D.H,.int .i64 D.F,.int .i64 D.R,.int .i64 D.U,.int .i64 D.O,.slice oa D.rs.length oc,.slice pa PP.length pc,.slice (some ⟨g,0,none⟩) LL.length cap] rfl;have iY:gU.heap.size<=i3.heap.size:=aB.size
   have aC:∀ g,(some (w.heap.size+1+1):Option Nat)=some g->w.heap.size+1+1<=g/\g<w.heap.size+1+1+1:=fun g hg=>by injection hg with hg;omega
   clear dU;replace bA:=bA.grown aB (fun g hg=>by have:=aC g hg;omega);replace bE:=bE.grown aB (fun g hg=>by have:=aC g hg;omega);replace od:=od.grown aB (fun g hg=>by have:=aC g hg;omega);replace bX:=bX.grown aB (fun g hg=>by have:=aC g hg;omega);replace wd:=wd.grown aB (fun g hg=>by have:=aC g hg;omega)
   replace dN:=dN.grown aB (fun g hg k=>by have:=aC g hg;first | exact absurd k (by rw [show g=w.heap.size by omega];exact gJ) | exact absurd k (by rw [show g=w.heap.size+1+1 by omega];exact gK))
   replace d1:=d1.grown aB (fun g hg=>by have:=aC g hg;omega);replace d2:=d2.grown aB (fun g hg=>by have:=aC g hg;omega);replace hE:=hE.trans (jJX aB hE.size (fun g hg=>by have:=aC g hg;omega));have bU:=aA.lt;clear bR;have bR:=qXs aA;clear aA aB aC bU;go_wp2;have iN:(x.ran e D).ss=RR.1:=by rw [iI.out,HN.out];rfl
   have i4:(x.ran e D).ws=RR.2:=by rw [iI.out,HN.out];rfl
   have iO:(x.ran e D).ts=LL:=by rw [iS.out];rfl
   have iM:(x.ran e D).P=PP:=by rw [gX.out];rfl
   obtain ⟨fU,fJ,fF,fC,fS,eY,fH,fE,fI,fO,eL,eM,eH,eQ,eK,eP,eZ⟩:=c16 bR.now;have jP:WoF ((x.ran e D).upS D) _ FF ⟨a1,c1,dQ,eD,oa,oc,pa,pc,some ⟨g,0,none⟩,cap⟩:=⟨(xat d1 (fun b hb _=>eF.out b (by omega))).map fun W k=>by show Strs W a1 (x.ran e D).ss;rw [iN];exact k.strs,(xat d2 (fun b hb _=>eF.out b (by omega))).map fun W k=>by show Wrs W dQ (x.ran e D).ws;rw [i4];exact k.wrs,(xat od (fun b hb _=>eF.out b (by omega))).map fun W k=>k.s.prs,by show PstF _ FF pa (x.ran e D).P;rw [iM];exact dN,(xat wd (fun b hb _=>eF.out b (by omega))).map fun W k=>by show Strs W _ (x.ran e D).ts;rw [iO];exact k.strs⟩;rw [ER.out];refine bodyPost_ret (v:=.agg #[.int .i64 x.w,.slice a1 RR.1.length c1,.slice dQ RR.2.length eD,.bool true,.int .i64 D.W,.int .i64 D.S,.int .i64 D.L,.int .i64 D.T,.int .i64 D.H,.int .i64 D.F,.int .i64 D.R,.int .i64 D.U,.int .i64 D.O,.slice oa D.rs.length oc,.slice pa PP.length pc,.slice (some ⟨g,0,none⟩) LL.length cap]) (by simp [results,Tryz.results44,go_sem,fU,fJ,fF,fC,fS,eY,fH,fE,fI,fO,eL,eM,eH,eQ,eK,eP,eZ]) rfl ⟨⟨a1,c1,dQ,eD,oa,oc,pa,pc,some ⟨g,0,none⟩,cap⟩,?_,jP.mono fun b _ k=>jT.out b k,hE⟩
   rw [<-iN,<-i4,<-iO,<-iM];rfl
end Go.Proofs.YtcdojnnkjeakmaaGreatDoor
