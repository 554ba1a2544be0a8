import Derived.Test.YtehbpeinnepdcaaGreatDoorPrG31
set_option maxHeartbeats 16000000
namespace Go.Proofs.YtehbpeinnepdcaaGreatDoor
open Go.RowKit
set_option maxRecDepth 8000
set_option linter.unusedVariables false
set_option linter.unusedSimpArgs false
theorem J29 (x:Wo) (q:Wp) (e:Ev) (a:Option Addr) (c:Nat) (f:Option Addr) (d:Nat) (F:Nat->Prop) (w:World) (h:WoF x w F q) (ho:x.ok) (h2:Chs w a e.b) (h3:Ints w f e.fs) (he:e.le) (hK:¬ e.K=5) (D:Dd) (dR:x.call e=(D,true)) (hC:D.C=0) (iM:2000<(ZmL x e D).length\/200<(evP x e D).length) :
  Calls Tryz.prog 45 #[Zov x q,vMH e a c f d] w fun r w'=>QRt w w' F r (x.doE e):=by
 have hm:=ho.le
 obtain ⟨FF,gP,eQ,gR,gS,gQ⟩:∃ FF:Nat->Prop,Hid (∀ b,b<w.heap.size->F b->FF b)/\Hid (∀ b,w.heap.size+1+1+1<=b->FF b)/\Hid (¬ FF w.heap.size)/\Hid (¬ FF (w.heap.size+1+1))/\Hid (∀ b,FF b->F b\/w.heap.size<=b) :=
  ⟨fun b=>(F b/\b<w.heap.size)\/w.heap.size+1+1+1<=b,fun b h1 h2=>.inl ⟨h2,h1⟩,fun b h=>.inr h,fun h=>by rcases h with h | h;exact absurd h.2 (by omega);omega,fun h=>by rcases h with h | h;exact absurd h.2 (by omega);omega,fun b h=>by rcases h with h | h;exact .inl h.1;exact .inr (by omega)⟩
 have hw:WoF x w FF q:=h.mono gP;clear h gP;have CP:=hid (fun y q1 w' (k1:WoF y w' FF q1) (hy:y.le 1048576) k2=>qpH y q1 f e.fs d FF w' k1 hy k2 he.f);have hI:=hid hC;clear hC;have hD:=ho.call e;have CC:=hid (fun w' k1 k2=>QQS x q e a c f d w' k1 hm k2 he);rw [dR] at CC hD;simp only at CC hD;have HD:=hid hD;have i8:D.ops.length<=1000:=hD.2.1;have CF:=hid (fun ob oe (z:Int) w' k1 k2 k3=>jEL q.a x.ss q.c q.a' x.ws q.c' ob D.ops oe z w' k1 k2 k3 (by omega) (fun o ho=>by have:=hD.2.2 o ho;omega) hm.l1 hm.l2 hm.s1 hm.s2);unfold Zoj at CF;have gK:=hid dR;clear dR hD;obtain ⟨i0,fG,fH,fI,fJ⟩:=vHq kML;have HI:=hid (And.intro fG (And.intro fH (And.intro fI fJ)));clear fG fH fI fJ;obtain ⟨i1,fG,fH,fI,fJ⟩:=vHq q7E;have HJ:=hid (And.intro fG (And.intro fH (And.intro fI fJ)));clear fG fH fI fJ;have i5:=hm.l5;have i9:=ho.p.1;have jA:=ho.t.1;obtain ⟨gM,eL⟩:∃ y,Hid (y=x.doE e):=⟨_,hid rfl⟩;rw [<-eL.out];unfold Zov vMH at CC ⊢;have hE:Below w.heap.size w w:=Below.refl _ _
 have iW:(e.K == 5)=false:=by simp [hK]
 go_enter Tryz.func45,Tryz.ntmps45;go_wp2_with fail;generalize eX:w.alloc _=v1;obtain ⟨hb,gH,bA⟩:=bx1 eX;clear eX;replace hE:=hE.trans (hb.mono hE.size);clear hb;generalize eY:v1.alloc _=v2;obtain ⟨hb,fQ,bE⟩:=bx1 eY;clear eY;rw [gH] at bE fQ;replace bA:=bA.below hb;replace hE:=hE.trans (hb.mono hE.size);clear hb;generalize eZ:v2.alloc _=v3;obtain ⟨hb,gI,bR⟩:=bx1 eZ;clear eZ;rw [fQ] at bR gI;replace bA:=bA.below hb;replace bE:=bE.below hb;replace hE:=hE.trans (hb.mono hE.size);clear hb;refine (CC.out _ (hw.below hE).at (h2.below hE)).mono ?_;rintro e v4 ⟨oa,oc,ob,oe,rfl,iJ,own,g1,g2,hb⟩;have iQ:v3.heap.size<=v4.heap.size:=hb.size;replace bA:=bA.below hb;replace bE:=bE.below hb;replace bR:=bR.below hb;replace hE:=hE.trans (hb.mono hE.size);have od:Dep v4 v3.heap.size v4.heap.size (fun W=>OwnDn W D.rs D.ops oa ob):=y80 own g1 g2;have jE:w.heap.size+1+1+1<=v3.heap.size:=by omega
 clear own g1 g2;clear hb;unfold dnV;go_upto_region 4 with fail;generalize fA:v4.alloc _=v5;obtain ⟨hb,gJ,bX⟩:=bx1 fA;have iR:v4.heap.size+1<=v5.heap.size:=by omega
 clear fA gJ;replace bA:=bA.below hb;replace bE:=bE.below hb;replace bR:=bR.below hb;replace od:=od.below hb;replace hE:=hE.trans (hb.mono hE.size);clear hb;obtain ⟨XB,eW⟩:∃ y,y=v4.heap.size:=⟨_,rfl⟩;rw [<-eW] at bX ⊢;have iZ:w.heap.size+1+1+1<=XB:=by omega
 have jC:XB<v5.heap.size:=bX.now.lt;clear eW;generalize Value.tuple _=T0;generalize Value.agg (wA x q)=A0;generalize Value.agg #[.int .i64 D.C,.int .i64 D.W,.int .i64 D.S,.int .i64 D.L,.int .i64 D.T,.int .i64 D.H,.int .i64 D.F,.int .i64 D.R,.int .i64 D.U,.int .i64 D.O,.slice oa D.rs.length oc,.slice ob D.ops.length oe]=A1;generalize Value.agg #[.int .i64 e.K,.slice a e.b.length c,.int .i64 e.cut,.slice f e.fs.length d]=A2;have hC:=hI.out;rw [hC] at bX;obtain ⟨N,HN⟩:∃ N,Hid (N=evN e D):=⟨_,hid rfl⟩;obtain ⟨CB,eT⟩:∃ b,Hid (b=ZJ5 e D):=⟨_,hid rfl⟩;have iY:N<=D.ops.length:=by rw [HN.out];exact X7G e D
 obtain ⟨aD,aE,aF,aG,aH,aI,aJ,aK,aL,aM,aA,aB,aN⟩:=c12 bX.now;obtain ⟨aP,aQ,aR,aS⟩:=bE.now.k4;have aT:=bE.now.lt;go_upto_region 7 with fail;have eJ:Hid (CB=true->e.cut=(N:Int)):=hid (fun k=>by rw [eT.out] at k;have k:=of_decide_eq_true (by unfold ZJ5 at k;exact k);rw [HN.out];unfold evN;rw [if_pos k];omega);have eK:Hid (CB=false->N=D.ops.length):=hid (fun k=>by rw [eT.out] at k;have k:=of_decide_eq_false (by unfold ZJ5 at k;exact k);rw [HN.out];unfold evN;rw [if_neg k]);go_cut [8] from 36 to 44 (fun cv wx=>cv=.bool CB/\wx=v5)
 case first =>
  by_cases k1:0<=e.cut
  ·by_cases k2:e.cut<=(D.ops.length:Int)
   ·have fF:CB=true:=by rw [eT.out];unfold ZJ5;exact decide_eq_true ⟨k1,k2⟩
    clear eJ eK;go_wp2;go_meet;exact ⟨by rw [fF],rfl⟩
   ·have fF:CB=false:=by rw [eT.out];unfold ZJ5;exact decide_eq_false (fun h=>k2 h.2)
    clear eJ eK;go_wp2;go_meet;exact ⟨by rw [fF],rfl⟩
  ·have fF:CB=false:=by rw [eT.out];unfold ZJ5;exact decide_eq_false (fun h=>k1 h.1)
   clear eJ eK;go_wp2;go_meet;exact ⟨by rw [fF],rfl⟩
 case rest =>
 obtain ⟨e8,fB⟩:=hcut;subst e8;rw [fB];clear fB;go_upto_if 45 with fail;go_cut [7] from 46 to 47 (fun nv wx=>nv=.int .i64 (N:Int)/\wx=v5)
 case first =>
  cases CB with
  | true =>
   have hn:=hid (eJ.out rfl);clear eJ eK;go_wp2;go_meet;exact ⟨by rw [hn.out],rfl⟩
  | false =>
   have hn:=hid (eK.out rfl);clear eJ eK;go_wp2;go_meet;exact ⟨by rw [hn.out],rfl⟩
 case rest =>
 obtain ⟨e7,fB⟩:=hcut;subst e7;rw [fB];clear fB eJ eK;clear aD aE aF aG aH aI aJ aK aL aM aA aB aN aP aQ aR aS aT;have iX:(N:Int)<=1000:=by omega
 obtain ⟨cI,cJ,cK,cL,cM,cN,cO,cP,cQ,cS,aY,aZ,bC,bG,bH,bI,cT⟩:=c16 bA.now;go_wp2_with (at_builtin;refine Z4q rfl _ _ 23 rfl 9 i0 (.string ByteArray.empty) 1 16 Tryz.underlying23 HI.out.1 HI.out.2.1 HI.out.2.2.1 HI.out.2.2.2 rfl v5.heap.size v5.heap.size rfl (World.ownsRow_lit _ #[] 0 (Nat.le_refl _) (by simp) (by simp)) _ rfl x.ts.length _ (src_strs ((hw.below hE).at.h5.below (xCS _ _)) _ _ Tryz.underlying23 q.ct) (by omega) (by omega) (by simp) ?_;intro g0 fX ws eH iK gX);clear cI cJ cK cL cM cN cO cP cQ cS aY aZ bC bG bH bI cT;have gO:Below v5.heap.size v5 ws:=(xCS _ _).trans (gX.mono (by simp));clear gX iK;go_loopw [9,10] (fun wv iv wr=>∃ (j g cap:Nat),j<=N/\iv=.int .i64 (j:Int)/\wv=.slice (some ⟨g,0,none⟩) (x.ts++xmh (D.ops.take j)).length cap/\wr.ownsRow v5.heap.size 9 1 (.slice (some ⟨g,0,none⟩) (x.ts++xmh (D.ops.take j)).length cap) (x.ts++xmh (D.ops.take j)).length ((x.ts++xmh (D.ops.take j)).map Value.string)/\Below v5.heap.size v5 wr) (fun _ iv _=>N-(intOf iv).toNat)
 case atStart=>exact ⟨0,g0,fX,Nat.zero_le _,rfl,by simp [xmh],by simpa [xmh] using eH,gO⟩
 case round =>
  clear eH gO;obtain ⟨j,g,cap,hj,rfl,rfl,dO,hB⟩:=hrel;have gY:=yHD (D.ops.take j);rw [List.length_take] at gY;have iL:(x.ts++xmh (D.ops.take j)).length<=4000:=by rw [List.length_append];omega
  obtain ⟨LL,eP⟩:∃ y,Hid (y=x.ts++xmh (D.ops.take j)):=⟨_,hid rfl⟩;rw [<-eP.out] at dO iL ⊢;clear gY
  by_cases i6:j<N
  ·have iN:(j:Int)<(N:Int):=by omega
   have i3:(0:Int)<=(j:Int):=by omega
   have i4:(j:Int)<(D.ops.length:Int):=by omega
   have X1:=(bX.low hB (by omega)).now;have jG:=X1.cell 11 _ rfl;have jH:=X1.lt;obtain ⟨b1,o1,s0,n1,t2,rfl,c0,c1,c2,iC⟩:=(od.low hB (by omega)).now.p.ops.at (k:=j) (by omega);have gE:=kde D.ops j (by omega);rw [<-iC.out] at gE;have fW:=hid gE;clear gE X1;have fV:=hid dO;have eS:=hid hB;have jD:=Zoz c0;clear dO hB;have jB:IntKind.i64.wrap ((j:Int)+1)=((j+1:Nat):Int):=by rw [JWx _ (by omega) (by omega)];omega
   cases s0 with
   | true =>
    go_wp2;exact ⟨⟨j+1,g,cap,by omega,by go_num,by rw [fW.out];simp [eP.out],by rw [fW.out];simpa [eP.out] using fV.out,eS.out⟩,by simp [intOf];omega⟩
   | false =>
    go_wp2_with (at_builtin;refine WAL _ rfl _ _ 23 rfl v5.heap.size Tryz.underlying23 HI.out rfl (by omega) _ LL.length _ rfl (fV.out.alloc _) ⟨wr.heap.size,0,none⟩ 1 1 [.string t2] rfl rfl (World.news_of_block (heap_alloc_new wr _)) (by intro u hu;simp at hu;subst hu;rfl) (by have:=eS.out.size;simp;omega) (wr.heap.size+1) (by simp) ?_;intro g9 cC w9 eI dV eD eM;have iB:=hid eI;have iA:=hid dV;clear eI dV eD);have e9:x.ts++xmh (D.ops.take (j+1))=LL++[t2]:=by rw [fW.out,eP.out];simp
    have iD:Below v5.heap.size v5 w9:=jbs ((eS.out).alloc eS.out.size _) (fV.out.alloc _) iA.out (by have:=eS.out.size;simp;omega);exact ⟨⟨j+1,g9,cC,by omega,by go_num,by rw [e9];simp,by rw [e9];simpa using iB.out,iD⟩,by simp [intOf];omega⟩
  have g6:j=N:=by omega
  have gL:Hid (LL=ZmL x e D):=hid (by rw [eP.out,g6,HN.out];rfl);have i7:¬ (j:Int)<(N:Int):=by omega
  clear g6;have iT:v5.heap.size<=wr.heap.size:=hB.size;replace bA:=bA.low hB (by omega);replace bE:=bE.low hB (by omega);replace bR:=bR.low hB (by omega);replace od:=od.low hB (by omega);replace bX:=bX.low hB (by omega);replace hE:=hE.trans (hB.mono hE.size);have rT:=kX5 dO;have gT:=xLn dO;have wd:Dep wr v5.heap.size wr.heap.size (fun W=>Row W g (LL.map Value.string)):=xuV rT gT rT.lt (Nat.le_refl _);have jF:w.heap.size+1+1+1<=v5.heap.size:=by omega
  clear hB dO rT eP;obtain ⟨PP,eU⟩:∃ y,Hid (y=evP x e D):=⟨_,hid rfl⟩;have iO:PP.length<=201:=by rw [eU.out];unfold evP;split<;>(try simp)<;>omega
  obtain ⟨cI,cJ,cK,cL,cM,cN,cO,cP,cQ,cS,aY,aZ,bC,bG,bH,bI,cT⟩:=c16 bA.now;obtain ⟨aP,aQ,aR,aS⟩:=bE.now.k4;have aT:=bE.now.lt;obtain ⟨aD,aE,aF,aG,aH,aI,aJ,aK,aL,aM,aA,aB,aN⟩:=c12 bX.now;go_upto_if 77 with fail;clear cI cJ cK cL cM cN cO cP cQ cS aY aZ bC bG bH bI cT aP aQ aR aS aT aD aE aF aG aH aI aJ aK aL aM aA aB aN;go_cut [11] from 75 to 85 (fun pv wx=>∃ (pa:Option Addr) (pc:Nat),pv=.slice pa PP.length pc/\PstF wx FF pa PP/\Below wr.heap.size wr wx)
  case first =>
   by_cases k2:e.K=2
   ·have ep:PP=x.P++[D.rs]:=by rw [eU.out];unfold evP;rw [if_pos k2]
    have iP:(e.K == 2)=true:=by simp [k2]
    clear k2;obtain ⟨news,eO,eN,gD⟩:=ymZ (P:=Tryz.prog) (hw.below hE).h4 34 31 Tryz.underlying34 q.cp;obtain ⟨aP,aQ,aR,aS⟩:=bE.now.k4;have aT:=bE.now.lt;go_upto_region 18 with fail;clear aP aQ aR aS aT
    have HK:Hid (∀ W,Below wr.heap.size wr W->W.cell? ⟨XB,10,none⟩=some (.slice oa D.rs.length oc)):=fun W hb=>(bX.below hb).now.cell 10 _ rfl
    refine wp_region_held_drew (S:=fun w'=>w'.cell? ⟨XB,10,none⟩=some (.slice oa D.rs.length oc)) (by kernel_rfl) (HK.out _ (Below.refl _ _).drew) (fun fT=>?_);refine TY 1 (.slice q.p x.P.length q.cp) rfl fT (TY 3 (.pointer (some ⟨XB,1,none⟩)) rfl fT (TY 4 (.pointer (some ⟨XB,10,none⟩)) rfl fT (TY 5 (.agg #[.slice oa D.rs.length oc]) rfl fT ?_)));simp only [PS];refine wpAnyH_ready (rs:=[0,6]) (by kernel_rfl) (by simp) ?_;refine AllReadyH.cons rfl (fun Kq aO=>?_) (AllReadyH.cons rfl (fun Kq aO=>?_) AllReadyH.nil)
    ·obtain ⟨y0,cF⟩:∃ y,y=wr.drew:=⟨_,rfl⟩
     rw [<-cF];have eC:Below wr.heap.size wr y0:=by rw [cF];exact (Below.refl _ _).drew
     clear cF;go_simp;have fE:=xCS y0 (.cells #[] 31);have dZ:=xER y0 #[] 31
     have aW:=World.ownsRow_lit (w:=y0) (e:=31) (size:=1) (base:=wr.heap.size) #[] 0 eC.size (by first | simp | decide | omega) (by first | simp | decide | (unfold maxLen;omega) | omega)
     obtain ⟨y1,dM⟩:∃ y,y=y0.alloc (.cells #[] 31):=⟨_,rfl⟩;obtain ⟨b0,aU⟩:∃ y,y=y0.heap.size:=⟨_,rfl⟩;rw [<-dM] at fE dZ aW ⊢;rw [<-aU] at dZ aW ⊢;have cH:=eC.trans (fE.mono eC.size);have gF:wr.heap.size<=b0:=by rw [aU];exact eC.size
     have fU:=hid aU;clear dM;clear aU;refine aO.out _ _ (HK.out _ cH) (fun iE=>?_)
     try simp only [PS]
     refine wpAnyH_ready (rs:=[2,6]) (by kernel_rfl) (by simp) ?_;refine AllReadyH.cons rfl (fun Kq aO=>?_) (AllReadyH.cons rfl (fun Kq aO=>?_) AllReadyH.nil)
     ·refine z98 rfl _ _ 34 rfl 31 i1 (.agg #[.slice none 0 0]) 1 24 Tryz.underlying34 HJ.out.1 HJ.out.2.1 HJ.out.2.2.1 HJ.out.2.2.2 rfl b0 wr.heap.size rfl aW _ rfl x.P.length news (eO _ cH) (by omega) (by omega) cH.size ?_
      intro g3 eV y2 eB gZ eF;have bZ:=cH.trans (eF.mono cH.size);refine aO.out _ _ (HK.out _ bZ) (fun iF=>?_)
      try simp only [PS]
      refine RD 6 rfl (fun Kq aO=>?_);go_simp;have eG:=xCS y2 (.cells #[.slice oa D.rs.length oc] 31);have aC:=xER y2 #[.slice oa D.rs.length oc] 31
      have b8:=World.ownsRow_lit (w:=y2) (e:=31) (size:=1) (base:=wr.heap.size) #[.slice oa D.rs.length oc] 1 bZ.size (by first | simp | decide | omega) (by first | simp | decide | (unfold maxLen;omega) | omega)
      obtain ⟨y3,dM⟩:∃ y,y=y2.alloc (.cells #[.slice oa D.rs.length oc] 31):=⟨_,rfl⟩;obtain ⟨b6,aU⟩:∃ y,y=y2.heap.size:=⟨_,rfl⟩;rw [<-dM] at eG aC b8 ⊢;rw [<-aU] at aC b8 ⊢;have dN:=bZ.trans (eG.mono bZ.size);have fO:wr.heap.size<=b6:=by rw [aU];exact bZ.size
      have eR:=hid aU;clear dM;clear aU;have eB:=jcb eB eG;refine aO.out _ _ (HK.out _ dN) (fun iG=>?_)
      try simp only [PS]
      refine RD 7 rfl (fun Kq aO=>?_);refine SAL _ rfl _ _ 34 rfl wr.heap.size Tryz.underlying34 HJ.out rfl (by omega) _ x.P.length _ rfl eB ⟨b6,0,none⟩ 1 1 [.slice oa D.rs.length oc] rfl rfl (fun j u hu=>by rw [JoX];exact aC.cell j u hu) (by intro u hu;simp at hu;subst hu;rfl) dN.size _ rfl ?_;intro g9 cC y4 o9 dU eD eM;have dQ:Below wr.heap.size wr y4:=jbs dN eB dU dN.size;refine aO.out _ _ (HK.out _ dQ) (fun fY=>?_)
      try simp only [PS]
      refine RD 8 rfl (fun Kq aO=>?_);go_simp;refine aO.out _ _ fY (fun _=>?_)
      try simp only [PS]
      refine DN ?_;clear HK;go_wp2_with fail;go_meet;have r9:=kX5 o9;have gN:=xLn o9;refine ⟨some ⟨g9,0,none⟩,cC,by rw [ep];simp,?_,dQ⟩;rw [ep];have s9:=dQ;exact Xiu (G:=FF) eN (fun i hi=>by obtain ⟨p',c',k1,k2⟩:=gD i hi;exact ⟨p',c',k1,k2.below s9⟩) r9 (eQ.out _ (by omega)) ((xat (od.below s9) (fun b hb _=>eQ.out b (by omega))).map fun W k=>k.s.prs)
     ·go_simp
      have eF:=xCS y1 (.cells #[.slice oa D.rs.length oc] 31);have aC:=xER y1 #[.slice oa D.rs.length oc] 31
      have b8:=World.ownsRow_lit (w:=y1) (e:=31) (size:=1) (base:=wr.heap.size) #[.slice oa D.rs.length oc] 1 cH.size (by first | simp | decide | omega) (by first | simp | decide | (unfold maxLen;omega) | omega)
      obtain ⟨y2,dM⟩:∃ y,y=y1.alloc (.cells #[.slice oa D.rs.length oc] 31):=⟨_,rfl⟩;obtain ⟨b6,aU⟩:∃ y,y=y1.heap.size:=⟨_,rfl⟩;rw [<-dM] at eF aC b8 ⊢;rw [<-aU] at aC b8 ⊢;have bZ:=cH.trans (eF.mono cH.size);have fO:wr.heap.size<=b6:=by rw [aU];exact cH.size
      have eR:=hid aU;clear dM;clear aU;have aW:=jcb aW eF;refine aO.out _ _ (HK.out _ bZ) (fun iH=>?_)
      try simp only [PS]
      refine RD 2 rfl (fun Kq aO=>?_);refine z98 rfl _ _ 34 rfl 31 i1 (.agg #[.slice none 0 0]) 1 24 Tryz.underlying34 HJ.out.1 HJ.out.2.1 HJ.out.2.2.1 HJ.out.2.2.2 rfl b0 wr.heap.size rfl aW _ rfl x.P.length news (eO _ bZ) (by omega) (by omega) bZ.size ?_;intro g3 eV y3 eB gZ eG;have dN:=bZ.trans (eG.mono bZ.size);have aC:=aC.below eG;refine aO.out _ _ (HK.out _ dN) (fun iI=>?_)
      try simp only [PS]
      refine RD 7 rfl (fun Kq aO=>?_);refine SAL _ rfl _ _ 34 rfl wr.heap.size Tryz.underlying34 HJ.out rfl (by omega) _ x.P.length _ rfl eB ⟨b6,0,none⟩ 1 1 [.slice oa D.rs.length oc] rfl rfl (fun j u hu=>by rw [JoX];exact aC.cell j u hu) (by intro u hu;simp at hu;subst hu;rfl) dN.size _ rfl ?_;intro g9 cC y4 o9 dU eD eM;have dQ:Below wr.heap.size wr y4:=jbs dN eB dU dN.size;refine aO.out _ _ (HK.out _ dQ) (fun fZ=>?_)
      try simp only [PS]
      refine RD 8 rfl (fun Kq aO=>?_);go_simp;refine aO.out _ _ fZ (fun _=>?_)
      try simp only [PS]
      refine DN ?_;clear HK;go_wp2_with fail;go_meet;have r9:=kX5 o9;have gN:=xLn o9;refine ⟨some ⟨g9,0,none⟩,cC,by rw [ep];simp,?_,dQ⟩;rw [ep];have s9:=dQ;exact Xiu (G:=FF) eN (fun i hi=>by obtain ⟨p',c',k1,k2⟩:=gD i hi;exact ⟨p',c',k1,k2.below s9⟩) r9 (eQ.out _ (by omega)) ((xat (od.below s9) (fun b hb _=>eQ.out b (by omega))).map fun W k=>k.s.prs)
    ·obtain ⟨y0,cF⟩:∃ y,y=wr.drew:=⟨_,rfl⟩
     rw [<-cF];have eC:Below wr.heap.size wr y0:=by rw [cF];exact (Below.refl _ _).drew
     clear cF;go_simp;have fE:=xCS y0 (.cells #[.slice oa D.rs.length oc] 31);have aC:=xER y0 #[.slice oa D.rs.length oc] 31
     have b8:=World.ownsRow_lit (w:=y0) (e:=31) (size:=1) (base:=wr.heap.size) #[.slice oa D.rs.length oc] 1 eC.size (by first | simp | decide | omega) (by first | simp | decide | (unfold maxLen;omega) | omega)
     obtain ⟨y1,dM⟩:∃ y,y=y0.alloc (.cells #[.slice oa D.rs.length oc] 31):=⟨_,rfl⟩;obtain ⟨b6,aU⟩:∃ y,y=y0.heap.size:=⟨_,rfl⟩;rw [<-dM] at fE aC b8 ⊢;rw [<-aU] at aC b8 ⊢;have cH:=eC.trans (fE.mono eC.size);have fO:wr.heap.size<=b6:=by rw [aU];exact eC.size
     have eR:=hid aU;clear dM;clear aU;refine aO.out _ _ (HK.out _ cH) (fun gU=>?_)
     try simp only [PS]
     refine RD 0 rfl (fun Kq aO=>?_);go_simp;have eF:=xCS y1 (.cells #[] 31);have dZ:=xER y1 #[] 31
     have aW:=World.ownsRow_lit (w:=y1) (e:=31) (size:=1) (base:=wr.heap.size) #[] 0 cH.size (by first | simp | decide | omega) (by first | simp | decide | (unfold maxLen;omega) | omega)
     obtain ⟨y2,dM⟩:∃ y,y=y1.alloc (.cells #[] 31):=⟨_,rfl⟩;obtain ⟨b0,aU⟩:∃ y,y=y1.heap.size:=⟨_,rfl⟩;rw [<-dM] at eF dZ aW ⊢;rw [<-aU] at dZ aW ⊢;have bZ:=cH.trans (eF.mono cH.size);have gF:wr.heap.size<=b0:=by rw [aU];exact cH.size
     have fU:=hid aU;clear dM;clear aU;have aC:=aC.below eF;refine aO.out _ _ (HK.out _ bZ) (fun gV=>?_)
     try simp only [PS]
     refine RD 2 rfl (fun Kq aO=>?_);refine z98 rfl _ _ 34 rfl 31 i1 (.agg #[.slice none 0 0]) 1 24 Tryz.underlying34 HJ.out.1 HJ.out.2.1 HJ.out.2.2.1 HJ.out.2.2.2 rfl b0 wr.heap.size rfl aW _ rfl x.P.length news (eO _ bZ) (by omega) (by omega) bZ.size ?_;intro g3 eV y3 eB gZ eG;have dN:=bZ.trans (eG.mono bZ.size);have aC:=aC.below eG;refine aO.out _ _ (HK.out _ dN) (fun gW=>?_)
     try simp only [PS]
     refine RD 7 rfl (fun Kq aO=>?_);refine SAL _ rfl _ _ 34 rfl wr.heap.size Tryz.underlying34 HJ.out rfl (by omega) _ x.P.length _ rfl eB ⟨b6,0,none⟩ 1 1 [.slice oa D.rs.length oc] rfl rfl (fun j u hu=>by rw [JoX];exact aC.cell j u hu) (by intro u hu;simp at hu;subst hu;rfl) dN.size _ rfl ?_;intro g9 cC y4 o9 dU eD eM;have dQ:Below wr.heap.size wr y4:=jbs dN eB dU dN.size;refine aO.out _ _ (HK.out _ dQ) (fun fC=>?_)
     try simp only [PS]
     refine RD 8 rfl (fun Kq aO=>?_);go_simp;refine aO.out _ _ fC (fun _=>?_)
     try simp only [PS]
     refine DN ?_;clear HK;go_wp2_with fail;go_meet;have r9:=kX5 o9;have gN:=xLn o9;refine ⟨some ⟨g9,0,none⟩,cC,by rw [ep];simp,?_,dQ⟩;rw [ep];have s9:=dQ;exact Xiu (G:=FF) eN (fun i hi=>by obtain ⟨p',c',k1,k2⟩:=gD i hi;exact ⟨p',c',k1,k2.below s9⟩) r9 (eQ.out _ (by omega)) ((xat (od.below s9) (fun b hb _=>eQ.out b (by omega))).map fun W k=>k.s.prs)
   ·have ep:PP=x.P:=by rw [eU.out];unfold evP;rw [if_neg k2]
    have iP:(e.K == 2)=false:=by simp [k2]
    obtain ⟨aP,aQ,aR,aS⟩:=bE.now.k4;have aT:=bE.now.lt;go_wp2_with fail;go_meet;rw [ep];exact ⟨q.p,q.cp,rfl,(hw.below hE).h4,Below.refl _ _⟩
  case rest =>
  obtain ⟨pa,pc,rfl,fS,hb⟩:=hcut;have iS:wr.heap.size<=wc.heap.size:=hb.size;replace bA:=bA.below hb;replace bE:=bE.below hb;replace bR:=bR.below hb;replace od:=od.below hb;replace bX:=bX.below hb;replace wd:=wd.below hb;replace hE:=hE.trans (hb.mono hE.size);clear hb
  by_cases t1:2000<LL.length
  ·have iU:(2000:Int)<(LL.length:Int):=by omega
   obtain ⟨aD,aE,aF,aG,aH,aI,aJ,aK,aL,aM,aA,aB,aN⟩:=c12 bX.now;go_upto_region 20 with fail;clear aD aE aF aG aH aI aJ aK aL aM aA aB aN;refine wp_region_lit ?_;refine wpList_load_mid rfl 36 _ rfl (w.heap.size) 0 rfl (wL x q) _ bA.now.range Tryz.underlying36 rfl ZAx ?_;simp only [PS];refine wpList_store_mid rfl 36 _ _ rfl (w.heap.size+1+1) 0 (wA x q) rfl rfl (bR.now.there rfl) ZAx (by kernel_rfl) ?_
   try simp only [PS]
   generalize cE:wc.setCells _ _ _=v6;have aX:wc.grownBy v6 (some (w.heap.size+1+1)):=by rw [<-cE];exact Qvn _ _ _ _
   have aV:=cE ▸ bR.now.sets (wL x q) rfl;have gG:wc.heap.size<=v6.heap.size:=aX.size
   have b7:∀ g,(some (w.heap.size+1+1):Option Nat)=some g->w.heap.size+1+1<=g/\g<w.heap.size+1+1+1:=fun g hg=>by injection hg with hg;omega
   clear cE;replace bA:=bA.grown aX (fun g hg=>by have:=b7 g hg;omega);replace bE:=bE.grown aX (fun g hg=>by have:=b7 g hg;omega);replace od:=od.grown aX (fun g hg=>by have:=b7 g hg;omega);replace bX:=bX.grown aX (fun g hg=>by have:=b7 g hg;omega);replace wd:=wd.grown aX (fun g hg=>by have:=b7 g hg;omega)
   replace fS:=fS.grown aX (fun g hg k=>by have:=b7 g hg;first | exact absurd k (by rw [show g=w.heap.size by omega];exact gR) | exact absurd k (by rw [show g=w.heap.size+1+1 by omega];exact gS))
   replace hE:=hE.trans (jJX aX hE.size (fun g hg=>by have:=b7 g hg;omega));have dY:=aV.lt;clear bR;have bR:=qXs aV;clear aV aX b7 dY;go_wp2;have er:gM=x:=by rw [eL.out];exact qID hK gK.out hC (.inl (by rw [<-gL.out];exact t1))
   rw [er];obtain ⟨cU,cV,cW,cY,cZ,dE,dH,dI,dJ,dK,bJ,bQ,bU,bV,bW,bY,dL⟩:=c16 bR.now;exact bodyPost_ret (v:=.agg (wA x q)) (by simp [results,Tryz.results45,go_sem,cU,cV,cW,cY,cZ,dE,dH,dI,dJ,dK,bJ,bQ,bU,bV,bW,bY,dL]) rfl ⟨q,rfl,(hw.below hE).mono fun b _ k=>gQ.out b k,hE⟩
  have iU:¬ ((2000:Int)<(LL.length:Int)):=by omega
  by_cases t2:200<PP.length
  ·have iV:(200:Int)<(PP.length:Int):=by omega
   obtain ⟨aD,aE,aF,aG,aH,aI,aJ,aK,aL,aM,aA,aB,aN⟩:=c12 bX.now;go_upto_region 20 with fail;clear aD aE aF aG aH aI aJ aK aL aM aA aB aN;refine wp_region_lit ?_;refine wpList_load_mid rfl 36 _ rfl (w.heap.size) 0 rfl (wL x q) _ bA.now.range Tryz.underlying36 rfl ZAx ?_;simp only [PS];refine wpList_store_mid rfl 36 _ _ rfl (w.heap.size+1+1) 0 (wA x q) rfl rfl (bR.now.there rfl) ZAx (by kernel_rfl) ?_
   try simp only [PS]
   generalize cE:wc.setCells _ _ _=v6;have aX:wc.grownBy v6 (some (w.heap.size+1+1)):=by rw [<-cE];exact Qvn _ _ _ _
   have aV:=cE ▸ bR.now.sets (wL x q) rfl;have gG:wc.heap.size<=v6.heap.size:=aX.size
   have b7:∀ g,(some (w.heap.size+1+1):Option Nat)=some g->w.heap.size+1+1<=g/\g<w.heap.size+1+1+1:=fun g hg=>by injection hg with hg;omega
   clear cE;replace bA:=bA.grown aX (fun g hg=>by have:=b7 g hg;omega);replace bE:=bE.grown aX (fun g hg=>by have:=b7 g hg;omega);replace od:=od.grown aX (fun g hg=>by have:=b7 g hg;omega);replace bX:=bX.grown aX (fun g hg=>by have:=b7 g hg;omega);replace wd:=wd.grown aX (fun g hg=>by have:=b7 g hg;omega)
   replace fS:=fS.grown aX (fun g hg k=>by have:=b7 g hg;first | exact absurd k (by rw [show g=w.heap.size by omega];exact gR) | exact absurd k (by rw [show g=w.heap.size+1+1 by omega];exact gS))
   replace hE:=hE.trans (jJX aX hE.size (fun g hg=>by have:=b7 g hg;omega));have dY:=aV.lt;clear bR;have bR:=qXs aV;clear aV aX b7 dY;go_wp2;have er:gM=x:=by rw [eL.out];exact qID hK gK.out hC (.inr (by rw [<-eU.out];exact t2))
   rw [er];obtain ⟨cU,cV,cW,cY,cZ,dE,dH,dI,dJ,dK,bJ,bQ,bU,bV,bW,bY,dL⟩:=c16 bR.now;exact bodyPost_ret (v:=.agg (wA x q)) (by simp [results,Tryz.results45,go_sem,cU,cV,cW,cY,cZ,dE,dH,dI,dJ,dK,bJ,bQ,bU,bV,bW,bY,dL]) rfl ⟨q,rfl,(hw.below hE).mono fun b _ k=>gQ.out b k,hE⟩
  have iV:¬ ((200:Int)<(PP.length:Int)):=by omega
  exact absurd iM (by rw [<-gL.out,<-eU.out];omega)
end Go.Proofs.YtehbpeinnepdcaaGreatDoor
