import Derived.Test.YthdilmkbnpmdaaaPrWdD0
set_option maxHeartbeats 16000000
namespace Go.Proofs.Ythdilmkbnpmdaaa
open Go.RowKit
set_option maxRecDepth 8000
set_option linter.unusedVariables false
set_option linter.unusedSimpArgs false
theorem do_no (x:Wo) (q:Wp) (e:Ev) (a:Option Addr) (c:Nat) (f:Option Addr) (d:Nat) (F:Nat->Prop) (w:World) (h:WoF x w F q) (ho:x.ok) (h2:Chs w a e.b) (h3:Ints w f e.fs) (he:e.le) (hK:¬ e.K=5) (D:Dd) (u:Bool) (hcall:x.call e=(D,u)) (hno:u=false\/D.C≠0) :
  Calls Try.prog 38 #[worldW x q,eventV e a c f d] w fun r w'=>WPost w w' F r (x.doE e):=by
 have hm:=ho.le
 obtain ⟨FF,hF1,hF2,hFa,hFr,hF5⟩:∃ FF:Nat->Prop,Hid (∀ b,b<w.heap.size->F b->FF b)/\Hid (∀ b,w.heap.size+1+1+1<=b->FF b)/\Hid (¬ FF w.heap.size)/\Hid (¬ FF (w.heap.size+1+1))/\Hid (∀ b,FF b->F b\/w.heap.size<=b) :=
  ⟨fun b=>(F b/\b<w.heap.size)\/w.heap.size+1+1+1<=b,fun b h1 h2=>.inl ⟨h2,h1⟩,fun b h=>.inr h,fun h=>by rcases h with h | h;exact absurd h.2 (by omega);omega,fun h=>by rcases h with h | h;exact absurd h.2 (by omega);omega,fun b h=>by rcases h with h | h;exact .inl h.1;exact .inr (by omega)⟩
 have hw:WoF x w FF q:=h.mono hF1
 clear h hF1
 have CP:=hid (fun y q1 w' (k1:WoF y w' FF q1) (hy:y.le 1048576) k2=>pow_s y q1 f e.fs d FF w' k1 hy k2 he.f)
 have hD:=ho.call e
 have CC:=hid (fun w' k1 k2=>call_s x q e a c f d w' k1 hm k2 he)
 rw [hcall] at CC hD
 simp only at CC hD
 have HD:=hid hD
 have hol:D.ops.length<=1000:=hD.2.1
 have CF:=hid (fun ob oe (z:Int) w' k1 k2 k3=>pf_s_any q.a x.ss q.c q.a' x.ws q.c' ob D.ops oe z w' k1 k2 k3 (by omega) (fun o ho=>by have:=hD.2.2 o ho;omega) hm.l1 hm.l2 hm.s1 hm.s2)
 unfold diskV at CF
 have HCL:=hid hcall
 clear hcall hD
 obtain ⟨i0,hi0,hz0,hz1,hz2⟩:=info_partsD info_strD
 have HI:=hid (And.intro hi0 (And.intro hz0 (And.intro hz1 hz2)))
 clear hi0 hz0 hz1 hz2
 obtain ⟨i1,hi0,hz0,hz1,hz2⟩:=info_partsD info_stD
 have HJ:=hid (And.intro hi0 (And.intro hz0 (And.intro hz1 hz2)))
 clear hi0 hz0 hz1 hz2
 have hkb:=hm.l5
 have hpl:=ho.p.1
 have htl:=ho.t.1
 obtain ⟨RES,HRES⟩:∃ y,Hid (y=x.doE e):=⟨_,hid rfl⟩
 rw [<-HRES.out]
 unfold worldW eventV at CC ⊢
 have hE:Below w.heap.size w w:=Below.refl _ _
 have hK':(e.K == 5)=false:=by simp [hK]
 go_enter Try.func38,Try.ntmps38
 go_wp2_with fail
 generalize e_v1:w.alloc _=v1
 obtain ⟨hb,z_v1,bA⟩:=bx1 e_v1
 clear e_v1
 replace hE:=hE.trans (hb.mono hE.size)
 clear hb
 generalize e_v2:v1.alloc _=v2
 obtain ⟨hb,z_v2,bE⟩:=bx1 e_v2
 clear e_v2
 rw [z_v1] at bE z_v2
 replace bA:=bA.below hb
 replace hE:=hE.trans (hb.mono hE.size)
 clear hb
 generalize e_v3:v2.alloc _=v3
 obtain ⟨hb,z_v3,bR⟩:=bx1 e_v3
 clear e_v3
 rw [z_v2] at bR z_v3
 replace bA:=bA.below hb
 replace bE:=bE.below hb
 replace hE:=hE.trans (hb.mono hE.size)
 clear hb
 refine (CC.out _ (hw.below hE).at (h2.below hE)).mono ?_
 rintro e v4 ⟨oa,oc,ob,oe,rfl,hcap,own,g1,g2,hb⟩
 have s_v4:v3.heap.size<=v4.heap.size:=hb.size
 replace bA:=bA.below hb
 replace bE:=bE.below hb
 replace bR:=bR.below hb
 replace hE:=hE.trans (hb.mono hE.size)
 have od:Dep v4 v3.heap.size v4.heap.size (fun W=>OwnDn W D.rs D.ops oa ob):=dep_dnE own g1 g2
 have lod:w.heap.size+1+1+1<=v3.heap.size:=by omega
 clear own g1 g2
 clear hb
 unfold dnV
 go_upto_region 4 with fail
 generalize e_v5:v4.alloc _=v5
 obtain ⟨hb,z_v5,bX⟩:=bx1 e_v5
 have s_v5:v4.heap.size+1<=v5.heap.size:=by omega
 clear e_v5 z_v5
 replace bA:=bA.below hb
 replace bE:=bE.below hb
 replace bR:=bR.below hb
 replace od:=od.below hb
 replace hE:=hE.trans (hb.mono hE.size)
 clear hb
 obtain ⟨XB,e_XB⟩:∃ y,y=v4.heap.size:=⟨_,rfl⟩
 rw [<-e_XB] at bX ⊢
 have hXB:w.heap.size+1+1+1<=XB:=by omega
 have lXB:XB<v5.heap.size:=bX.now.lt
 clear e_XB
 generalize Value.tuple _=T0
 generalize Value.agg (wA x q)=A0
 generalize Value.agg #[.int .i64 D.C,.int .i64 D.W,.int .i64 D.S,.int .i64 D.L,.int .i64 D.T,.int .i64 D.H,.int .i64 D.F,.int .i64 D.R,.int .i64 D.U,.int .i64 D.O,.slice oa D.rs.length oc,.slice ob D.ops.length oe]=A1
 generalize Value.agg #[.int .i64 e.K,.slice a e.b.length c,.int .i64 e.cut,.slice f e.fs.length d]=A2
 cases u with
 | false =>
  obtain ⟨q_bX_0,q_bX_1,q_bX_2,q_bX_3,q_bX_4,q_bX_5,q_bX_6,q_bX_7,q_bX_8,q_bX_9,q_bX_10,q_bX_11,q_bX_l⟩:=c12 bX.now
  go_upto_region 5 with fail
  clear q_bX_0 q_bX_1 q_bX_2 q_bX_3 q_bX_4 q_bX_5 q_bX_6 q_bX_7 q_bX_8 q_bX_9 q_bX_10 q_bX_11 q_bX_l
  refine wp_region_lit ?_
  refine wpList_load_mid rfl 82 _ rfl (w.heap.size) 0 rfl (wL x q) _ bA.now.range Try.underlying82 rfl info_wo ?_
  simp only [PS]
  refine wpList_store_mid rfl 82 _ _ rfl (w.heap.size+1+1) 0 (wA x q) rfl rfl (bR.now.there rfl) info_wo (by kernel_rfl) ?_
  try simp only [PS]
  generalize e_v6:v5.setCells _ _ _=v6
  have hgw:v5.grownBy v6 (some (w.heap.size+1+1)):=by rw [<-e_v6];exact grown_sets _ _ _ _
  have r_new:=e_v6 ▸ bR.now.sets (wL x q) rfl
  have s_v6:v5.heap.size<=v6.heap.size:=hgw.size
  have hgr:∀ g,(some (w.heap.size+1+1):Option Nat)=some g->w.heap.size+1+1<=g/\g<w.heap.size+1+1+1:=fun g hg=>by injection hg with hg;omega
  clear e_v6
  replace bA:=bA.grown hgw (fun g hg=>by have:=hgr g hg;omega)
  replace bE:=bE.grown hgw (fun g hg=>by have:=hgr g hg;omega)
  replace od:=od.grown hgw (fun g hg=>by have:=hgr g hg;omega)
  replace bX:=bX.grown hgw (fun g hg=>by have:=hgr g hg;omega)
  replace hE:=hE.trans (grown_below hgw hE.size (fun g hg=>by have:=hgr g hg;omega))
  have l_new:=r_new.lt
  clear bR
  have bR:=dep_at r_new
  clear r_new hgw hgr l_new
  go_wp2
  have er:RES=x:=by rw [HRES.out];exact doE_no hK HCL.out (.inl rfl)
  rw [er]
  obtain ⟨q_bR_0,q_bR_1,q_bR_2,q_bR_3,q_bR_4,q_bR_5,q_bR_6,q_bR_7,q_bR_8,q_bR_9,q_bR_10,q_bR_11,q_bR_12,q_bR_13,q_bR_14,q_bR_15,q_bR_l⟩:=c16 bR.now
  exact bodyPost_ret (v:=.agg (wA x q)) (by simp [results,Try.results38,go_sem,q_bR_0,q_bR_1,q_bR_2,q_bR_3,q_bR_4,q_bR_5,q_bR_6,q_bR_7,q_bR_8,q_bR_9,q_bR_10,q_bR_11,q_bR_12,q_bR_13,q_bR_14,q_bR_15,q_bR_l]) rfl ⟨q,rfl,(hw.below hE).mono fun b _ k=>hF5.out b k,hE⟩
 | true =>
  have hC:D.C≠0:=hno.resolve_left (by simp)
  have hCb:(D.C == 0)=false:=by simp [hC]
  obtain ⟨q_bX_0,q_bX_1,q_bX_2,q_bX_3,q_bX_4,q_bX_5,q_bX_6,q_bX_7,q_bX_8,q_bX_9,q_bX_10,q_bX_11,q_bX_l⟩:=c12 bX.now
  go_upto_region 5 with fail
  clear q_bX_0 q_bX_1 q_bX_2 q_bX_3 q_bX_4 q_bX_5 q_bX_6 q_bX_7 q_bX_8 q_bX_9 q_bX_10 q_bX_11 q_bX_l
  refine wp_region_lit ?_
  refine wpList_load_mid rfl 82 _ rfl (w.heap.size) 0 rfl (wL x q) _ bA.now.range Try.underlying82 rfl info_wo ?_
  simp only [PS]
  refine wpList_store_mid rfl 82 _ _ rfl (w.heap.size+1+1) 0 (wA x q) rfl rfl (bR.now.there rfl) info_wo (by kernel_rfl) ?_
  try simp only [PS]
  generalize e_v6:v5.setCells _ _ _=v6
  have hgw:v5.grownBy v6 (some (w.heap.size+1+1)):=by rw [<-e_v6];exact grown_sets _ _ _ _
  have r_new:=e_v6 ▸ bR.now.sets (wL x q) rfl
  have s_v6:v5.heap.size<=v6.heap.size:=hgw.size
  have hgr:∀ g,(some (w.heap.size+1+1):Option Nat)=some g->w.heap.size+1+1<=g/\g<w.heap.size+1+1+1:=fun g hg=>by injection hg with hg;omega
  clear e_v6
  replace bA:=bA.grown hgw (fun g hg=>by have:=hgr g hg;omega)
  replace bE:=bE.grown hgw (fun g hg=>by have:=hgr g hg;omega)
  replace od:=od.grown hgw (fun g hg=>by have:=hgr g hg;omega)
  replace bX:=bX.grown hgw (fun g hg=>by have:=hgr g hg;omega)
  replace hE:=hE.trans (grown_below hgw hE.size (fun g hg=>by have:=hgr g hg;omega))
  have l_new:=r_new.lt
  clear bR
  have bR:=dep_at r_new
  clear r_new hgw hgr l_new
  go_wp2
  have er:RES=x:=by rw [HRES.out];exact doE_no hK HCL.out (.inr hC)
  rw [er]
  obtain ⟨q_bR_0,q_bR_1,q_bR_2,q_bR_3,q_bR_4,q_bR_5,q_bR_6,q_bR_7,q_bR_8,q_bR_9,q_bR_10,q_bR_11,q_bR_12,q_bR_13,q_bR_14,q_bR_15,q_bR_l⟩:=c16 bR.now
  exact bodyPost_ret (v:=.agg (wA x q)) (by simp [results,Try.results38,go_sem,q_bR_0,q_bR_1,q_bR_2,q_bR_3,q_bR_4,q_bR_5,q_bR_6,q_bR_7,q_bR_8,q_bR_9,q_bR_10,q_bR_11,q_bR_12,q_bR_13,q_bR_14,q_bR_15,q_bR_l]) rfl ⟨q,rfl,(hw.below hE).mono fun b _ k=>hF5.out b k,hE⟩
end Go.Proofs.Ythdilmkbnpmdaaa
