import Derived.Test.YtehbpeinnepdcaaGreatDoorPrG31
set_option maxHeartbeats 16000000
namespace Go.Proofs.YtehbpeinnepdcaaGreatDoor
open Go.RowKit
set_option maxRecDepth 8000
set_option linter.unusedVariables false
set_option linter.unusedSimpArgs false
theorem Z64 (x:Wo) (q:Wp) (e:Ev) (a:Option Addr) (c:Nat) (f:Option Addr) (d:Nat) (F:Nat->Prop) (w:World) (h:WoF x w F q) (ho:x.ok) (h2:Chs w a e.b) (h3:Ints w f e.fs) (he:e.le) (hK:¬ e.K=5) (D:Dd) (u:Bool) (bW:x.call e=(D,u)) (cW:u=false\/D.C≠0) :
  Calls Tryz.prog 45 #[Zov x q,vMH e a c f d] w fun r w'=>QRt w w' F r (x.doE e):=by
 have hm:=ho.le
 obtain ⟨FF,cT,dH,dI,dJ,cU⟩:∃ FF:Nat->Prop,Hid (∀ b,b<w.heap.size->F b->FF b)/\Hid (∀ b,w.heap.size+1+1+1<=b->FF b)/\Hid (¬ FF w.heap.size)/\Hid (¬ FF (w.heap.size+1+1))/\Hid (∀ b,FF b->F b\/w.heap.size<=b) :=
  ⟨fun b=>(F b/\b<w.heap.size)\/w.heap.size+1+1+1<=b,fun b h1 h2=>.inl ⟨h2,h1⟩,fun b h=>.inr h,fun h=>by rcases h with h | h;exact absurd h.2 (by omega);omega,fun h=>by rcases h with h | h;exact absurd h.2 (by omega);omega,fun b h=>by rcases h with h | h;exact .inl h.1;exact .inr (by omega)⟩
 have hw:WoF x w FF q:=h.mono cT;clear h cT;have CP:=hid (fun y q1 w' (k1:WoF y w' FF q1) (hy:y.le 1048576) k2=>qpH y q1 f e.fs d FF w' k1 hy k2 he.f);have hD:=ho.call e;have CC:=hid (fun w' k1 k2=>QQS x q e a c f d w' k1 hm k2 he);rw [bW] at CC hD;simp only at CC hD;have HD:=hid hD;have dN:D.ops.length<=1000:=hD.2.1;have CF:=hid (fun ob oe (z:Int) w' k1 k2 k3=>jEL q.a x.ss q.c q.a' x.ws q.c' ob D.ops oe z w' k1 k2 k3 (by omega) (fun o ho=>by have:=hD.2.2 o ho;omega) hm.l1 hm.l2 hm.s1 hm.s2);unfold Zoj at CF;have cQ:=hid bW;clear bW hD;obtain ⟨i0,cH,cI,cJ,cK⟩:=vHq kML;have HI:=hid (And.intro cH (And.intro cI (And.intro cJ cK)));clear cH cI cJ cK;obtain ⟨i1,cH,cI,cJ,cK⟩:=vHq q7E;have HJ:=hid (And.intro cH (And.intro cI (And.intro cJ cK)));clear cH cI cJ cK;have dM:=hm.l5;have dO:=ho.p.1;have dQ:=ho.t.1;obtain ⟨cS,bZ⟩:∃ y,Hid (y=x.doE e):=⟨_,hid rfl⟩;rw [<-bZ.out];unfold Zov vMH at CC ⊢;have hE:Below w.heap.size w w:=Below.refl _ _
 have dK:(e.K == 5)=false:=by simp [hK]
 go_enter Tryz.func45,Tryz.ntmps45;go_wp2_with fail;generalize b8:w.alloc _=v1;obtain ⟨hb,cN,bA⟩:=bx1 b8;clear b8;replace hE:=hE.trans (hb.mono hE.size);clear hb;generalize cC:v1.alloc _=v2;obtain ⟨hb,cL,bE⟩:=bx1 cC;clear cC;rw [cN] at bE cL;replace bA:=bA.below hb;replace hE:=hE.trans (hb.mono hE.size);clear hb;generalize cE:v2.alloc _=v3;obtain ⟨hb,cO,bR⟩:=bx1 cE;clear cE;rw [cL] at bR cO;replace bA:=bA.below hb;replace bE:=bE.below hb;replace hE:=hE.trans (hb.mono hE.size);clear hb;refine (CC.out _ (hw.below hE).at (h2.below hE)).mono ?_;rintro e v4 ⟨oa,oc,ob,oe,rfl,cV,own,g1,g2,hb⟩;have cY:v3.heap.size<=v4.heap.size:=hb.size;replace bA:=bA.below hb;replace bE:=bE.below hb;replace bR:=bR.below hb;replace hE:=hE.trans (hb.mono hE.size);have od:Dep v4 v3.heap.size v4.heap.size (fun W=>OwnDn W D.rs D.ops oa ob):=y80 own g1 g2;have dU:w.heap.size+1+1+1<=v3.heap.size:=by omega
 clear own g1 g2;clear hb;unfold dnV;go_upto_region 4 with fail;generalize cF:v4.alloc _=v5;obtain ⟨hb,cP,bX⟩:=bx1 cF;have cZ:v4.heap.size+1<=v5.heap.size:=by omega
 clear cF cP;replace bA:=bA.below hb;replace bE:=bE.below hb;replace bR:=bR.below hb;replace od:=od.below hb;replace hE:=hE.trans (hb.mono hE.size);clear hb;obtain ⟨XB,b7⟩:∃ y,y=v4.heap.size:=⟨_,rfl⟩;rw [<-b7] at bX ⊢;have dL:w.heap.size+1+1+1<=XB:=by omega
 have dR:XB<v5.heap.size:=bX.now.lt;clear b7;generalize Value.tuple _=T0;generalize Value.agg (wA x q)=A0;generalize Value.agg #[.int .i64 D.C,.int .i64 D.W,.int .i64 D.S,.int .i64 D.L,.int .i64 D.T,.int .i64 D.H,.int .i64 D.F,.int .i64 D.R,.int .i64 D.U,.int .i64 D.O,.slice oa D.rs.length oc,.slice ob D.ops.length oe]=A1;generalize Value.agg #[.int .i64 e.K,.slice a e.b.length c,.int .i64 e.cut,.slice f e.fs.length d]=A2
 cases u with
 | false =>
  obtain ⟨aW,aX,aY,aZ,bC,bG,bH,bI,bJ,bQ,aH,aI,bU⟩:=c12 bX.now;go_upto_region 5 with fail;clear aW aX aY aZ bC bG bH bI bJ bQ aH aI bU;refine wp_region_lit ?_;refine wpList_load_mid rfl 36 _ rfl (w.heap.size) 0 rfl (wL x q) _ bA.now.range Tryz.underlying36 rfl ZAx ?_;simp only [PS];refine wpList_store_mid rfl 36 _ _ rfl (w.heap.size+1+1) 0 (wA x q) rfl rfl (bR.now.there rfl) ZAx (by kernel_rfl) ?_
  try simp only [PS]
  generalize aJ:v5.setCells _ _ _=v6;have aK:v5.grownBy v6 (some (w.heap.size+1+1)):=by rw [<-aJ];exact Qvn _ _ _ _
  have aA:=aJ ▸ bR.now.sets (wL x q) rfl;have cM:v5.heap.size<=v6.heap.size:=aK.size
  have bV:∀ g,(some (w.heap.size+1+1):Option Nat)=some g->w.heap.size+1+1<=g/\g<w.heap.size+1+1+1:=fun g hg=>by injection hg with hg;omega
  clear aJ;replace bA:=bA.grown aK (fun g hg=>by have:=bV g hg;omega);replace bE:=bE.grown aK (fun g hg=>by have:=bV g hg;omega);replace od:=od.grown aK (fun g hg=>by have:=bV g hg;omega);replace bX:=bX.grown aK (fun g hg=>by have:=bV g hg;omega);replace hE:=hE.trans (jJX aK hE.size (fun g hg=>by have:=bV g hg;omega));have bY:=aA.lt;clear bR;have bR:=qXs aA;clear aA aK bV bY;go_wp2;have er:cS=x:=by rw [bZ.out];exact kx3 hK cQ.out (.inl rfl)
  rw [er];obtain ⟨aL,aM,aN,aO,aP,aQ,aR,aS,aT,aU,aB,aC,aD,aE,aF,aG,aV⟩:=c16 bR.now;exact bodyPost_ret (v:=.agg (wA x q)) (by simp [results,Tryz.results45,go_sem,aL,aM,aN,aO,aP,aQ,aR,aS,aT,aU,aB,aC,aD,aE,aF,aG,aV]) rfl ⟨q,rfl,(hw.below hE).mono fun b _ k=>cU.out b k,hE⟩
 | true =>
  have hC:D.C≠0:=cW.resolve_left (by simp);have dE:(D.C == 0)=false:=by simp [hC]
  obtain ⟨aW,aX,aY,aZ,bC,bG,bH,bI,bJ,bQ,aH,aI,bU⟩:=c12 bX.now;go_upto_region 5 with fail;clear aW aX aY aZ bC bG bH bI bJ bQ aH aI bU;refine wp_region_lit ?_;refine wpList_load_mid rfl 36 _ rfl (w.heap.size) 0 rfl (wL x q) _ bA.now.range Tryz.underlying36 rfl ZAx ?_;simp only [PS];refine wpList_store_mid rfl 36 _ _ rfl (w.heap.size+1+1) 0 (wA x q) rfl rfl (bR.now.there rfl) ZAx (by kernel_rfl) ?_
  try simp only [PS]
  generalize aJ:v5.setCells _ _ _=v6;have aK:v5.grownBy v6 (some (w.heap.size+1+1)):=by rw [<-aJ];exact Qvn _ _ _ _
  have aA:=aJ ▸ bR.now.sets (wL x q) rfl;have cM:v5.heap.size<=v6.heap.size:=aK.size
  have bV:∀ g,(some (w.heap.size+1+1):Option Nat)=some g->w.heap.size+1+1<=g/\g<w.heap.size+1+1+1:=fun g hg=>by injection hg with hg;omega
  clear aJ;replace bA:=bA.grown aK (fun g hg=>by have:=bV g hg;omega);replace bE:=bE.grown aK (fun g hg=>by have:=bV g hg;omega);replace od:=od.grown aK (fun g hg=>by have:=bV g hg;omega);replace bX:=bX.grown aK (fun g hg=>by have:=bV g hg;omega);replace hE:=hE.trans (jJX aK hE.size (fun g hg=>by have:=bV g hg;omega));have bY:=aA.lt;clear bR;have bR:=qXs aA;clear aA aK bV bY;go_wp2;have er:cS=x:=by rw [bZ.out];exact kx3 hK cQ.out (.inr hC)
  rw [er];obtain ⟨aL,aM,aN,aO,aP,aQ,aR,aS,aT,aU,aB,aC,aD,aE,aF,aG,aV⟩:=c16 bR.now;exact bodyPost_ret (v:=.agg (wA x q)) (by simp [results,Tryz.results45,go_sem,aL,aM,aN,aO,aP,aQ,aR,aS,aT,aU,aB,aC,aD,aE,aF,aG,aV]) rfl ⟨q,rfl,(hw.below hE).mono fun b _ k=>cU.out b k,hE⟩
end Go.Proofs.YtehbpeinnepdcaaGreatDoor
