import Derived.Test.YtcdojnnkjeakmaaGreatDoorPrWdD0
set_option maxHeartbeats 16000000
namespace Go.Proofs.YtcdojnnkjeakmaaGreatDoor
open Go.RowKit
set_option maxRecDepth 8000
set_option linter.unusedVariables false
set_option linter.unusedSimpArgs false
theorem J29 (x:Wo) (q:Wp) (e:Ev) (a:Option Addr) (c:Nat) (f:Option Addr) (d:Nat) (F:Nat->Prop) (w:World) (h:WoF x w F q) (ho:x.ok) (h2:Chs w a e.b) (h3:Ints w f e.fs) (he:e.le) (hK:¬ e.K=5) (D:Dd) (dQ:x.call e=(D,true)) (hC:D.C=0) (iU:2000<(ZmL x e D).length\/200<(evP x e D).length) :
  Calls Tryz.prog 44 #[Zov x q,vMH e a c f d] w fun r w'=>QRt w w' F r (x.doE e):=by
 have hm:=ho.le
 obtain ⟨FF,hI,eQ,gU,gV,gX⟩:∃ FF:Nat->Prop,Hid (∀ b,b<w.heap.size->F b->FF b)/\Hid (∀ b,w.heap.size+1+1+1<=b->FF b)/\Hid (¬ FF w.heap.size)/\Hid (¬ FF (w.heap.size+1+1))/\Hid (∀ b,FF b->F b\/w.heap.size<=b) :=
  ⟨fun b=>(F b/\b<w.heap.size)\/w.heap.size+1+1+1<=b,fun b h1 h2=>.inl ⟨h2,h1⟩,fun b h=>.inr h,fun h=>by rcases h with h | h;exact absurd h.2 (by omega);omega,fun h=>by rcases h with h | h;exact absurd h.2 (by omega);omega,fun b h=>by rcases h with h | h;exact .inl h.1;exact .inr (by omega)⟩
 have hw:WoF x w FF q:=h.mono hI;clear h hI;have CP:=hid (fun y q1 w' (k1:WoF y w' FF q1) (hy:y.le 1048576) k2=>qpH y q1 f e.fs d FF w' k1 hy k2 he.f);have iA:=hid hC;clear hC;have hD:=ho.call e;have CC:=hid (fun w' k1 k2=>QQS x q e a c f d w' k1 hm k2 he);rw [dQ] at CC hD;simp only at CC hD;have HD:=hid hD;have jC:D.ops.length<=1000:=hD.2.1;have CF:=hid (fun ob oe (z:Int) w' k1 k2 k3=>jEL q.a x.ss q.c q.a' x.ws q.c' ob D.ops oe z w' k1 k2 k3 (by omega) (fun o ho=>by have:=hD.2.2 o ho;omega) hm.l1 hm.l2 hm.s1 hm.s2);unfold Zoj at CF;have gQ:=hid dQ;clear dQ hD;obtain ⟨i0,fF,eY,fB,eR⟩:=vHq kML;have HI:=hid (And.intro fF (And.intro eY (And.intro fB eR)));clear fF eY fB eR;obtain ⟨i1,fF,eY,fB,eR⟩:=vHq q7E;have HJ:=hid (And.intro fF (And.intro eY (And.intro fB eR)));clear fF eY fB eR;have jA:=hm.l5;have i9:=ho.p.1;have i7:=ho.t.1;obtain ⟨gL,eO⟩:∃ y,Hid (y=x.doE e):=⟨_,hid rfl⟩;rw [<-eO.out];unfold Zov vMH at CC ⊢;have hE:Below w.heap.size w w:=Below.refl _ _
 have jH:(e.K == 5)=false:=by simp [hK]
 go_enter Tryz.func44,Tryz.ntmps44;go_wp2_with fail;generalize fJ:w.alloc _=v1;obtain ⟨hb,fZ,bA⟩:=bx1 fJ;clear fJ;replace hE:=hE.trans (hb.mono hE.size);clear hb;generalize eX:v1.alloc _=v2;obtain ⟨hb,eZ,bE⟩:=bx1 eX;clear eX;rw [fZ] at bE eZ;replace bA:=bA.below hb;replace hE:=hE.trans (hb.mono hE.size);clear hb;generalize eS:v2.alloc _=v3;obtain ⟨hb,gH,bR⟩:=bx1 eS;clear eS;rw [eZ] at bR gH;replace bA:=bA.below hb;replace bE:=bE.below hb;replace hE:=hE.trans (hb.mono hE.size);clear hb;refine (CC.out _ (hw.below hE).at (h2.below hE)).mono ?_;rintro e v4 ⟨oa,oc,ob,oe,rfl,iV,own,g1,g2,hb⟩;have iH:v3.heap.size<=v4.heap.size:=hb.size;replace bA:=bA.below hb;replace bE:=bE.below hb;replace bR:=bR.below hb;replace hE:=hE.trans (hb.mono hE.size);have od:Dep v4 v3.heap.size v4.heap.size (fun W=>OwnDn W D.rs D.ops oa ob):=y80 own g1 g2;have i3:w.heap.size+1+1+1<=v3.heap.size:=by omega
 clear own g1 g2;clear hb;unfold dnV;go_upto_region 4 with fail;generalize fH:v4.alloc _=v5;obtain ⟨hb,fX,bX⟩:=bx1 fH;have iS:v4.heap.size+1<=v5.heap.size:=by omega
 clear fH fX;replace bA:=bA.below hb;replace bE:=bE.below hb;replace bR:=bR.below hb;replace od:=od.below hb;replace hE:=hE.trans (hb.mono hE.size);clear hb;obtain ⟨XB,fC⟩:∃ y,y=v4.heap.size:=⟨_,rfl⟩;rw [<-fC] at bX ⊢;have iW:w.heap.size+1+1+1<=XB:=by omega
 have jB:XB<v5.heap.size:=bX.now.lt;clear fC;generalize Value.tuple _=T0;generalize Value.agg (wA x q)=A0;generalize Value.agg #[.int .i64 D.C,.int .i64 D.W,.int .i64 D.S,.int .i64 D.L,.int .i64 D.T,.int .i64 D.H,.int .i64 D.F,.int .i64 D.R,.int .i64 D.U,.int .i64 D.O,.slice oa D.rs.length oc,.slice ob D.ops.length oe]=A1;generalize Value.agg #[.int .i64 e.K,.slice a e.b.length c,.int .i64 e.cut,.slice f e.fs.length d]=A2;have hC:=iA.out;rw [hC] at bX;obtain ⟨N,HN⟩:∃ N,Hid (N=evN e D):=⟨_,hid rfl⟩;obtain ⟨CB,fQ⟩:∃ b,Hid (b=ZJ5 e D):=⟨_,hid rfl⟩;have i8:N<=D.ops.length:=by rw [HN.out];exact X7G e D
 obtain ⟨aN,aJ,aE,aD,aL,aM,aF,aG,aI,aK,aB,aA,aH⟩:=c12 bX.now;obtain ⟨aP,aQ,aO,aR⟩:=bE.now.k4;have aS:=bE.now.lt;go_upto_region 7 with fail;have eN:Hid (CB=true->e.cut=(N:Int)):=hid (fun k=>by rw [fQ.out] at k;have k:=of_decide_eq_true (by unfold ZJ5 at k;exact k);rw [HN.out];unfold evN;rw [if_pos k];omega);have eM:Hid (CB=false->N=D.ops.length):=hid (fun k=>by rw [fQ.out] at k;have k:=of_decide_eq_false (by unfold ZJ5 at k;exact k);rw [HN.out];unfold evN;rw [if_neg k]);go_cut [8] from 36 to 44 (fun cv wx=>cv=.bool CB/\wx=v5)
 case first =>
  by_cases k1:0<=e.cut
  ·by_cases k2:e.cut<=(D.ops.length:Int)
   ·have eV:CB=true:=by rw [fQ.out];unfold ZJ5;exact decide_eq_true ⟨k1,k2⟩
    clear eN eM;go_wp2;go_meet;exact ⟨by rw [eV],rfl⟩
   ·have eV:CB=false:=by rw [fQ.out];unfold ZJ5;exact decide_eq_false (fun h=>k2 h.2)
    clear eN eM;go_wp2;go_meet;exact ⟨by rw [eV],rfl⟩
  ·have eV:CB=false:=by rw [fQ.out];unfold ZJ5;exact decide_eq_false (fun h=>k1 h.1)
   clear eN eM;go_wp2;go_meet;exact ⟨by rw [eV],rfl⟩
 case rest =>
 obtain ⟨e8,fE⟩:=hcut;subst e8;rw [fE];clear fE;go_upto_if 45 with fail;go_cut [7] from 46 to 47 (fun nv wx=>nv=.int .i64 (N:Int)/\wx=v5)
 case first =>
  cases CB with
  | true =>
   have hn:=hid (eN.out rfl);clear eN eM;go_wp2;go_meet;exact ⟨by rw [hn.out],rfl⟩
  | false =>
   have hn:=hid (eM.out rfl);clear eN eM;go_wp2;go_meet;exact ⟨by rw [hn.out],rfl⟩
 case rest =>
 obtain ⟨e7,fE⟩:=hcut;subst e7;rw [fE];clear fE eN eM;clear aN aJ aE aD aL aM aF aG aI aK aB aA aH aP aQ aO aR aS;have jF:(N:Int)<=1000:=by omega
 obtain ⟨cM,cS,cV,cP,cK,cC,cH,cZ,cQ,cY,aY,bG,bQ,bY,bJ,aZ,cI⟩:=c16 bA.now;go_wp2_with (at_builtin;refine Z4q rfl _ _ 28 rfl 9 i0 (.string ByteArray.empty) 1 16 Tryz.underlying28 HI.out.1 HI.out.2.1 HI.out.2.2.1 HI.out.2.2.2 rfl v5.heap.size v5.heap.size rfl (World.ownsRow_lit _ #[] 0 (Nat.le_refl _) (by simp) (by simp)) _ rfl x.ts.length _ (QKc ((hw.below hE).at.h5.below (xCS _ _)) _ _ Tryz.underlying28 q.ct) (by omega) (by omega) (by simp) ?_;intro g0 gI ws eI hY gR);clear cM cS cV cP cK cC cH cZ cQ cY aY bG bQ bY bJ aZ cI;have gZ:Below v5.heap.size v5 ws:=(xCS _ _).trans (gR.mono (by simp));clear gR hY;go_loopw [9,10] (fun wv iv wr=>∃ (j g cap:Nat),j<=N/\iv=.int .i64 (j:Int)/\wv=.slice (some ⟨g,0,none⟩) (x.ts++xmh (D.ops.take j)).length cap/\wr.ownsRow v5.heap.size 9 1 (.slice (some ⟨g,0,none⟩) (x.ts++xmh (D.ops.take j)).length cap) (x.ts++xmh (D.ops.take j)).length ((x.ts++xmh (D.ops.take j)).map Value.string)/\Below v5.heap.size v5 wr) (fun _ iv _=>N-(intOf iv).toNat)
 case atStart=>exact ⟨0,g0,gI,Nat.zero_le _,rfl,by simp [xmh],by simpa [xmh] using eI,gZ⟩
 case round =>
  clear eI gZ;obtain ⟨j,g,cap,hj,rfl,rfl,dO,hB⟩:=hrel;have gY:=yHD (D.ops.take j);rw [List.length_take] at gY;have iM:(x.ts++xmh (D.ops.take j)).length<=4000:=by rw [List.length_append];omega
  obtain ⟨LL,eP⟩:∃ y,Hid (y=x.ts++xmh (D.ops.take j)):=⟨_,hid rfl⟩;rw [<-eP.out] at dO iM ⊢;clear gY
  by_cases i4:j<N
  ·have iJ:(j:Int)<(N:Int):=by omega
   have i5:(0:Int)<=(j:Int):=by omega
   have jG:(j:Int)<(D.ops.length:Int):=by omega
   have X1:=(bX.low hB (by omega)).now;have iX:=X1.cell 11 _ rfl;have jD:=X1.lt;obtain ⟨b1,o1,s0,n1,t2,rfl,c0,c1,c2,iD⟩:=(od.low hB (by omega)).now.p.ops.at (k:=j) (by omega);have fW:=kde D.ops j (by omega);rw [<-iD.out] at fW;have fU:=hid fW;clear fW X1;have gF:=hid dO;have fG:=hid hB;have i6:=Zoz c0;clear dO hB;have iY:IntKind.i64.wrap ((j:Int)+1)=((j+1:Nat):Int):=by rw [JWx _ (by omega) (by omega)];omega
   cases s0 with
   | true =>
    go_wp2;exact ⟨⟨j+1,g,cap,by omega,by go_num,by rw [fU.out];simp [eP.out],by rw [fU.out];simpa [eP.out] using gF.out,fG.out⟩,by simp [intOf];omega⟩
   | false =>
    go_wp2_with (at_builtin;refine WAL _ rfl _ _ 28 rfl v5.heap.size Tryz.underlying28 HI.out rfl (by omega) _ LL.length _ rfl (gF.out.alloc _) ⟨wr.heap.size,0,none⟩ 1 1 [.string t2] rfl rfl (World.news_of_block (heap_alloc_new wr _)) (by intro u hu;simp at hu;subst hu;rfl) (by have:=fG.out.size;simp;omega) (wr.heap.size+1) (by simp) ?_;intro g9 cF w9 eH dY eD eK;have iK:=hid eH;have iR:=hid dY;clear eH dY eD);have e9:x.ts++xmh (D.ops.take (j+1))=LL++[t2]:=by rw [fU.out,eP.out];simp
    have iE:Below v5.heap.size v5 w9:=jbs ((fG.out).alloc fG.out.size _) (gF.out.alloc _) iR.out (by have:=fG.out.size;simp;omega);exact ⟨⟨j+1,g9,cF,by omega,by go_num,by rw [e9];simp,by rw [e9];simpa using iK.out,iE⟩,by simp [intOf];omega⟩
  have gK:j=N:=by omega
  have gP:Hid (LL=ZmL x e D):=hid (by rw [eP.out,gK,HN.out];rfl);have iZ:¬ (j:Int)<(N:Int):=by omega
  clear gK;have iF:v5.heap.size<=wr.heap.size:=hB.size;replace bA:=bA.low hB (by omega);replace bE:=bE.low hB (by omega);replace bR:=bR.low hB (by omega);replace od:=od.low hB (by omega);replace bX:=bX.low hB (by omega);replace hE:=hE.trans (hB.mono hE.size);have rT:=kX5 dO;have gT:=xLn dO;have wd:Dep wr v5.heap.size wr.heap.size (fun W=>Row W g (LL.map Value.string)):=xuV rT gT rT.lt (Nat.le_refl _);have jE:w.heap.size+1+1+1<=v5.heap.size:=by omega
  clear hB dO rT eP;obtain ⟨PP,eW⟩:∃ y,Hid (y=evP x e D):=⟨_,hid rfl⟩;have iT:PP.length<=201:=by rw [eW.out];unfold evP;split<;>(try simp)<;>omega
  obtain ⟨cM,cS,cV,cP,cK,cC,cH,cZ,cQ,cY,aY,bG,bQ,bY,bJ,aZ,cI⟩:=c16 bA.now;obtain ⟨aP,aQ,aO,aR⟩:=bE.now.k4;have aS:=bE.now.lt;obtain ⟨aN,aJ,aE,aD,aL,aM,aF,aG,aI,aK,aB,aA,aH⟩:=c12 bX.now;go_upto_if 77 with fail;clear cM cS cV cP cK cC cH cZ cQ cY aY bG bQ bY bJ aZ cI aP aQ aO aR aS aN aJ aE aD aL aM aF aG aI aK aB aA aH;go_cut [11] from 75 to 85 (fun pv wx=>∃ (pa:Option Addr) (pc:Nat),pv=.slice pa PP.length pc/\PstF wx FF pa PP/\Below wr.heap.size wr wx)
  case first =>
   by_cases k2:e.K=2
   ·have ep:PP=x.P++[D.rs]:=by rw [eW.out];unfold evP;rw [if_pos k2]
    have iQ:(e.K == 2)=true:=by simp [k2]
    clear k2;obtain ⟨news,eL,eJ,gD⟩:=ymZ (P:=Tryz.prog) (hw.below hE).h4 60 57 Tryz.underlying60 q.cp;obtain ⟨aP,aQ,aO,aR⟩:=bE.now.k4;have aS:=bE.now.lt;go_upto_region 18 with fail;clear aP aQ aO aR aS
    have HK:Hid (∀ W,Below wr.heap.size wr W->W.cell? ⟨XB,10,none⟩=some (.slice oa D.rs.length oc)):=fun W hb=>(bX.below hb).now.cell 10 _ rfl
    refine wp_region_held_drew (S:=fun w'=>w'.cell? ⟨XB,10,none⟩=some (.slice oa D.rs.length oc)) (by kernel_rfl) (HK.out _ (Below.refl _ _).drew) (fun fT=>?_);refine TY 1 (.slice q.p x.P.length q.cp) rfl fT (TY 3 (.pointer (some ⟨XB,1,none⟩)) rfl fT (TY 4 (.pointer (some ⟨XB,10,none⟩)) rfl fT (TY 5 (.agg #[.slice oa D.rs.length oc]) rfl fT ?_)));simp only [PS];refine wpAnyH_ready (rs:=[0,6]) (by kernel_rfl) (by simp) ?_;refine AllReadyH.cons rfl (fun Kq aT=>?_) (AllReadyH.cons rfl (fun Kq aT=>?_) AllReadyH.nil)
    ·obtain ⟨y0,dJ⟩:∃ y,y=wr.drew:=⟨_,rfl⟩
     rw [<-dJ];have eC:Below wr.heap.size wr y0:=by rw [dJ];exact (Below.refl _ _).drew
     clear dJ;go_simp;have fO:=xCS y0 (.cells #[] 57);have dV:=xER y0 #[] 57
     have aW:=World.ownsRow_lit (w:=y0) (e:=57) (size:=1) (base:=wr.heap.size) #[] 0 eC.size (by first | simp | decide | omega) (by first | simp | decide | (unfold maxLen;omega) | omega)
     obtain ⟨y1,dM⟩:∃ y,y=y0.alloc (.cells #[] 57):=⟨_,rfl⟩;obtain ⟨b0,aU⟩:∃ y,y=y0.heap.size:=⟨_,rfl⟩;rw [<-dM] at fO dV aW ⊢;rw [<-aU] at dV aW ⊢;have cE:=eC.trans (fO.mono eC.size);have gE:wr.heap.size<=b0:=by rw [aU];exact eC.size
     have gJ:=hid aU;clear dM;clear aU;refine aT.out _ _ (HK.out _ cE) (fun iO=>?_)
     try simp only [PS]
     refine wpAnyH_ready (rs:=[2,6]) (by kernel_rfl) (by simp) ?_;refine AllReadyH.cons rfl (fun Kq aT=>?_) (AllReadyH.cons rfl (fun Kq aT=>?_) AllReadyH.nil)
     ·refine z98 rfl _ _ 60 rfl 57 i1 (.agg #[.slice none 0 0]) 1 24 Tryz.underlying60 HJ.out.1 HJ.out.2.1 HJ.out.2.2.1 HJ.out.2.2.2 rfl b0 wr.heap.size rfl aW _ rfl x.P.length news (eL _ cE) (by omega) (by omega) cE.size ?_
      intro g3 eT y2 eB gO eF;have b7:=cE.trans (eF.mono cE.size);refine aT.out _ _ (HK.out _ b7) (fun iC=>?_)
      try simp only [PS]
      refine RD 6 rfl (fun Kq aT=>?_);go_simp;have eG:=xCS y2 (.cells #[.slice oa D.rs.length oc] 57);have aC:=xER y2 #[.slice oa D.rs.length oc] 57
      have b8:=World.ownsRow_lit (w:=y2) (e:=57) (size:=1) (base:=wr.heap.size) #[.slice oa D.rs.length oc] 1 b7.size (by first | simp | decide | omega) (by first | simp | decide | (unfold maxLen;omega) | omega)
      obtain ⟨y3,dM⟩:∃ y,y=y2.alloc (.cells #[.slice oa D.rs.length oc] 57):=⟨_,rfl⟩;obtain ⟨b6,aU⟩:∃ y,y=y2.heap.size:=⟨_,rfl⟩;rw [<-dM] at eG aC b8 ⊢;rw [<-aU] at aC b8 ⊢;have dN:=b7.trans (eG.mono b7.size);have eU:wr.heap.size<=b6:=by rw [aU];exact b7.size
      have fI:=hid aU;clear dM;clear aU;have eB:=jcb eB eG;refine aT.out _ _ (HK.out _ dN) (fun iP=>?_)
      try simp only [PS]
      refine RD 7 rfl (fun Kq aT=>?_);refine SAL _ rfl _ _ 60 rfl wr.heap.size Tryz.underlying60 HJ.out rfl (by omega) _ x.P.length _ rfl eB ⟨b6,0,none⟩ 1 1 [.slice oa D.rs.length oc] rfl rfl (fun j u hu=>by rw [JoX];exact aC.cell j u hu) (by intro u hu;simp at hu;subst hu;rfl) dN.size _ rfl ?_;intro g9 cF y4 o9 dR eD eK;have dU:Below wr.heap.size wr y4:=jbs dN eB dR dN.size;refine aT.out _ _ (HK.out _ dU) (fun gG=>?_)
      try simp only [PS]
      refine RD 8 rfl (fun Kq aT=>?_);go_simp;refine aT.out _ _ gG (fun _=>?_)
      try simp only [PS]
      refine DN ?_;clear HK;go_wp2_with fail;go_meet;have r9:=kX5 o9;have gS:=xLn o9;refine ⟨some ⟨g9,0,none⟩,cF,by rw [ep];simp,?_,dU⟩;rw [ep];have s9:=dU;exact Xiu (G:=FF) eJ (fun i hi=>by obtain ⟨p',c',k1,k2⟩:=gD i hi;exact ⟨p',c',k1,k2.below s9⟩) r9 (eQ.out _ (by omega)) ((xat (od.below s9) (fun b hb _=>eQ.out b (by omega))).map fun W k=>k.s.prs)
     ·go_simp
      have eF:=xCS y1 (.cells #[.slice oa D.rs.length oc] 57);have aC:=xER y1 #[.slice oa D.rs.length oc] 57
      have b8:=World.ownsRow_lit (w:=y1) (e:=57) (size:=1) (base:=wr.heap.size) #[.slice oa D.rs.length oc] 1 cE.size (by first | simp | decide | omega) (by first | simp | decide | (unfold maxLen;omega) | omega)
      obtain ⟨y2,dM⟩:∃ y,y=y1.alloc (.cells #[.slice oa D.rs.length oc] 57):=⟨_,rfl⟩;obtain ⟨b6,aU⟩:∃ y,y=y1.heap.size:=⟨_,rfl⟩;rw [<-dM] at eF aC b8 ⊢;rw [<-aU] at aC b8 ⊢;have b7:=cE.trans (eF.mono cE.size);have eU:wr.heap.size<=b6:=by rw [aU];exact cE.size
      have fI:=hid aU;clear dM;clear aU;have aW:=jcb aW eF;refine aT.out _ _ (HK.out _ b7) (fun iB=>?_)
      try simp only [PS]
      refine RD 2 rfl (fun Kq aT=>?_);refine z98 rfl _ _ 60 rfl 57 i1 (.agg #[.slice none 0 0]) 1 24 Tryz.underlying60 HJ.out.1 HJ.out.2.1 HJ.out.2.2.1 HJ.out.2.2.2 rfl b0 wr.heap.size rfl aW _ rfl x.P.length news (eL _ b7) (by omega) (by omega) b7.size ?_;intro g3 eT y3 eB gO eG;have dN:=b7.trans (eG.mono b7.size);have aC:=aC.below eG;refine aT.out _ _ (HK.out _ dN) (fun iN=>?_)
      try simp only [PS]
      refine RD 7 rfl (fun Kq aT=>?_);refine SAL _ rfl _ _ 60 rfl wr.heap.size Tryz.underlying60 HJ.out rfl (by omega) _ x.P.length _ rfl eB ⟨b6,0,none⟩ 1 1 [.slice oa D.rs.length oc] rfl rfl (fun j u hu=>by rw [JoX];exact aC.cell j u hu) (by intro u hu;simp at hu;subst hu;rfl) dN.size _ rfl ?_;intro g9 cF y4 o9 dR eD eK;have dU:Below wr.heap.size wr y4:=jbs dN eB dR dN.size;refine aT.out _ _ (HK.out _ dU) (fun fY=>?_)
      try simp only [PS]
      refine RD 8 rfl (fun Kq aT=>?_);go_simp;refine aT.out _ _ fY (fun _=>?_)
      try simp only [PS]
      refine DN ?_;clear HK;go_wp2_with fail;go_meet;have r9:=kX5 o9;have gS:=xLn o9;refine ⟨some ⟨g9,0,none⟩,cF,by rw [ep];simp,?_,dU⟩;rw [ep];have s9:=dU;exact Xiu (G:=FF) eJ (fun i hi=>by obtain ⟨p',c',k1,k2⟩:=gD i hi;exact ⟨p',c',k1,k2.below s9⟩) r9 (eQ.out _ (by omega)) ((xat (od.below s9) (fun b hb _=>eQ.out b (by omega))).map fun W k=>k.s.prs)
    ·obtain ⟨y0,dJ⟩:∃ y,y=wr.drew:=⟨_,rfl⟩
     rw [<-dJ];have eC:Below wr.heap.size wr y0:=by rw [dJ];exact (Below.refl _ _).drew
     clear dJ;go_simp;have fO:=xCS y0 (.cells #[.slice oa D.rs.length oc] 57);have aC:=xER y0 #[.slice oa D.rs.length oc] 57
     have b8:=World.ownsRow_lit (w:=y0) (e:=57) (size:=1) (base:=wr.heap.size) #[.slice oa D.rs.length oc] 1 eC.size (by first | simp | decide | omega) (by first | simp | decide | (unfold maxLen;omega) | omega)
     obtain ⟨y1,dM⟩:∃ y,y=y0.alloc (.cells #[.slice oa D.rs.length oc] 57):=⟨_,rfl⟩;obtain ⟨b6,aU⟩:∃ y,y=y0.heap.size:=⟨_,rfl⟩;rw [<-dM] at fO aC b8 ⊢;rw [<-aU] at aC b8 ⊢;have cE:=eC.trans (fO.mono eC.size);have eU:wr.heap.size<=b6:=by rw [aU];exact eC.size
     have fI:=hid aU;clear dM;clear aU;refine aT.out _ _ (HK.out _ cE) (fun gN=>?_)
     try simp only [PS]
     refine RD 0 rfl (fun Kq aT=>?_);go_simp;have eF:=xCS y1 (.cells #[] 57);have dV:=xER y1 #[] 57
     have aW:=World.ownsRow_lit (w:=y1) (e:=57) (size:=1) (base:=wr.heap.size) #[] 0 cE.size (by first | simp | decide | omega) (by first | simp | decide | (unfold maxLen;omega) | omega)
     obtain ⟨y2,dM⟩:∃ y,y=y1.alloc (.cells #[] 57):=⟨_,rfl⟩;obtain ⟨b0,aU⟩:∃ y,y=y1.heap.size:=⟨_,rfl⟩;rw [<-dM] at eF dV aW ⊢;rw [<-aU] at dV aW ⊢;have b7:=cE.trans (eF.mono cE.size);have gE:wr.heap.size<=b0:=by rw [aU];exact cE.size
     have gJ:=hid aU;clear dM;clear aU;have aC:=aC.below eF;refine aT.out _ _ (HK.out _ b7) (fun gM=>?_)
     try simp only [PS]
     refine RD 2 rfl (fun Kq aT=>?_);refine z98 rfl _ _ 60 rfl 57 i1 (.agg #[.slice none 0 0]) 1 24 Tryz.underlying60 HJ.out.1 HJ.out.2.1 HJ.out.2.2.1 HJ.out.2.2.2 rfl b0 wr.heap.size rfl aW _ rfl x.P.length news (eL _ b7) (by omega) (by omega) b7.size ?_;intro g3 eT y3 eB gO eG;have dN:=b7.trans (eG.mono b7.size);have aC:=aC.below eG;refine aT.out _ _ (HK.out _ dN) (fun gW=>?_)
     try simp only [PS]
     refine RD 7 rfl (fun Kq aT=>?_);refine SAL _ rfl _ _ 60 rfl wr.heap.size Tryz.underlying60 HJ.out rfl (by omega) _ x.P.length _ rfl eB ⟨b6,0,none⟩ 1 1 [.slice oa D.rs.length oc] rfl rfl (fun j u hu=>by rw [JoX];exact aC.cell j u hu) (by intro u hu;simp at hu;subst hu;rfl) dN.size _ rfl ?_;intro g9 cF y4 o9 dR eD eK;have dU:Below wr.heap.size wr y4:=jbs dN eB dR dN.size;refine aT.out _ _ (HK.out _ dU) (fun fA=>?_)
     try simp only [PS]
     refine RD 8 rfl (fun Kq aT=>?_);go_simp;refine aT.out _ _ fA (fun _=>?_)
     try simp only [PS]
     refine DN ?_;clear HK;go_wp2_with fail;go_meet;have r9:=kX5 o9;have gS:=xLn o9;refine ⟨some ⟨g9,0,none⟩,cF,by rw [ep];simp,?_,dU⟩;rw [ep];have s9:=dU;exact Xiu (G:=FF) eJ (fun i hi=>by obtain ⟨p',c',k1,k2⟩:=gD i hi;exact ⟨p',c',k1,k2.below s9⟩) r9 (eQ.out _ (by omega)) ((xat (od.below s9) (fun b hb _=>eQ.out b (by omega))).map fun W k=>k.s.prs)
   ·have ep:PP=x.P:=by rw [eW.out];unfold evP;rw [if_neg k2]
    have iQ:(e.K == 2)=false:=by simp [k2]
    obtain ⟨aP,aQ,aO,aR⟩:=bE.now.k4;have aS:=bE.now.lt;go_wp2_with fail;go_meet;rw [ep];exact ⟨q.p,q.cp,rfl,(hw.below hE).h4,Below.refl _ _⟩
  case rest =>
  obtain ⟨pa,pc,rfl,fS,hb⟩:=hcut;have iL:wr.heap.size<=wc.heap.size:=hb.size;replace bA:=bA.below hb;replace bE:=bE.below hb;replace bR:=bR.below hb;replace od:=od.below hb;replace bX:=bX.below hb;replace wd:=wd.below hb;replace hE:=hE.trans (hb.mono hE.size);clear hb
  by_cases t1:2000<LL.length
  ·have iG:(2000:Int)<(LL.length:Int):=by omega
   obtain ⟨aN,aJ,aE,aD,aL,aM,aF,aG,aI,aK,aB,aA,aH⟩:=c12 bX.now;go_upto_region 20 with fail;clear aN aJ aE aD aL aM aF aG aI aK aB aA aH;refine wp_region_lit ?_;refine wpList_load_mid rfl 62 _ rfl (w.heap.size) 0 rfl (wL x q) _ bA.now.range Tryz.underlying62 rfl ZAx ?_;simp only [PS];refine wpList_store_mid rfl 62 _ _ rfl (w.heap.size+1+1) 0 (wA x q) rfl rfl (bR.now.there rfl) ZAx (by kernel_rfl) ?_
   try simp only [PS]
   generalize cU:wc.setCells _ _ _=v6;have bV:wc.grownBy v6 (some (w.heap.size+1+1)):=by rw [<-cU];exact Qvn _ _ _ _
   have aV:=cU ▸ bR.now.sets (wL x q) rfl;have fV:wc.heap.size<=v6.heap.size:=bV.size
   have bZ:∀ g,(some (w.heap.size+1+1):Option Nat)=some g->w.heap.size+1+1<=g/\g<w.heap.size+1+1+1:=fun g hg=>by injection hg with hg;omega
   clear cU;replace bA:=bA.grown bV (fun g hg=>by have:=bZ g hg;omega);replace bE:=bE.grown bV (fun g hg=>by have:=bZ g hg;omega);replace od:=od.grown bV (fun g hg=>by have:=bZ g hg;omega);replace bX:=bX.grown bV (fun g hg=>by have:=bZ g hg;omega);replace wd:=wd.grown bV (fun g hg=>by have:=bZ g hg;omega)
   replace fS:=fS.grown bV (fun g hg k=>by have:=bZ g hg;first | exact absurd k (by rw [show g=w.heap.size by omega];exact gU) | exact absurd k (by rw [show g=w.heap.size+1+1 by omega];exact gV))
   replace hE:=hE.trans (jJX bV hE.size (fun g hg=>by have:=bZ g hg;omega));have dZ:=aV.lt;clear bR;have bR:=qXs aV;clear aV bV bZ dZ;go_wp2;have er:gL=x:=by rw [eO.out];exact qID hK gQ.out hC (.inl (by rw [<-gP.out];exact t1))
   rw [er];obtain ⟨dL,dH,cT,cN,dK,cJ,cW,cO,dE,dI,bH,bI,aX,bW,bC,bU,cL⟩:=c16 bR.now;exact bodyPost_ret (v:=.agg (wA x q)) (by simp [results,Tryz.results44,go_sem,dL,dH,cT,cN,dK,cJ,cW,cO,dE,dI,bH,bI,aX,bW,bC,bU,cL]) rfl ⟨q,rfl,(hw.below hE).mono fun b _ k=>gX.out b k,hE⟩
  have iG:¬ ((2000:Int)<(LL.length:Int)):=by omega
  by_cases t2:200<PP.length
  ·have iI:(200:Int)<(PP.length:Int):=by omega
   obtain ⟨aN,aJ,aE,aD,aL,aM,aF,aG,aI,aK,aB,aA,aH⟩:=c12 bX.now;go_upto_region 20 with fail;clear aN aJ aE aD aL aM aF aG aI aK aB aA aH;refine wp_region_lit ?_;refine wpList_load_mid rfl 62 _ rfl (w.heap.size) 0 rfl (wL x q) _ bA.now.range Tryz.underlying62 rfl ZAx ?_;simp only [PS];refine wpList_store_mid rfl 62 _ _ rfl (w.heap.size+1+1) 0 (wA x q) rfl rfl (bR.now.there rfl) ZAx (by kernel_rfl) ?_
   try simp only [PS]
   generalize cU:wc.setCells _ _ _=v6;have bV:wc.grownBy v6 (some (w.heap.size+1+1)):=by rw [<-cU];exact Qvn _ _ _ _
   have aV:=cU ▸ bR.now.sets (wL x q) rfl;have fV:wc.heap.size<=v6.heap.size:=bV.size
   have bZ:∀ g,(some (w.heap.size+1+1):Option Nat)=some g->w.heap.size+1+1<=g/\g<w.heap.size+1+1+1:=fun g hg=>by injection hg with hg;omega
   clear cU;replace bA:=bA.grown bV (fun g hg=>by have:=bZ g hg;omega);replace bE:=bE.grown bV (fun g hg=>by have:=bZ g hg;omega);replace od:=od.grown bV (fun g hg=>by have:=bZ g hg;omega);replace bX:=bX.grown bV (fun g hg=>by have:=bZ g hg;omega);replace wd:=wd.grown bV (fun g hg=>by have:=bZ g hg;omega)
   replace fS:=fS.grown bV (fun g hg k=>by have:=bZ g hg;first | exact absurd k (by rw [show g=w.heap.size by omega];exact gU) | exact absurd k (by rw [show g=w.heap.size+1+1 by omega];exact gV))
   replace hE:=hE.trans (jJX bV hE.size (fun g hg=>by have:=bZ g hg;omega));have dZ:=aV.lt;clear bR;have bR:=qXs aV;clear aV bV bZ dZ;go_wp2;have er:gL=x:=by rw [eO.out];exact qID hK gQ.out hC (.inr (by rw [<-eW.out];exact t2))
   rw [er];obtain ⟨dL,dH,cT,cN,dK,cJ,cW,cO,dE,dI,bH,bI,aX,bW,bC,bU,cL⟩:=c16 bR.now;exact bodyPost_ret (v:=.agg (wA x q)) (by simp [results,Tryz.results44,go_sem,dL,dH,cT,cN,dK,cJ,cW,cO,dE,dI,bH,bI,aX,bW,bC,bU,cL]) rfl ⟨q,rfl,(hw.below hE).mono fun b _ k=>gX.out b k,hE⟩
  have iI:¬ ((200:Int)<(PP.length:Int)):=by omega
  exact absurd iU (by rw [<-gP.out,<-eW.out];omega)
end Go.Proofs.YtcdojnnkjeakmaaGreatDoor
