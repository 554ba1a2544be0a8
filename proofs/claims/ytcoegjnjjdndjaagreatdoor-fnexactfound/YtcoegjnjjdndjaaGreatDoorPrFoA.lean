import Derived.Deep.Cut
import Derived.Deep.CutRange
import Derived.Deep.RegionHeld3
import Derived.Test.YtcoegjnjjdndjaaGreatDoorPrG44
import Derived.Test.YtcoegjnjjdndjaaGreatDoorPrOpS
import Derived.Test.YtcoegjnjjdndjaaGreatDoorPrWoF
import Derived.Test.YtcoegjnjjdndjaaGreatDoorPrWoE
import Derived.Test.YtcoegjnjjdndjaaGreatDoorPrOpI
import Derived.Test.YtcoegjnjjdndjaaGreatDoorPrG38
import Derived.Test.YtcoegjnjjdndjaaGreatDoorPrG49
namespace Go.Proofs.YtcoegjnjjdndjaaGreatDoor
open Go.RowKit
set_option maxRecDepth 8000
set_option linter.unusedVariables false
set_option linter.unusedSimpArgs false
def fdR (x:Wo):List Pr×Int:=if worldOk x=true then ((openD x.ss [] x.w).rs,(openD x.ss [] x.w).C) else ([],1)
theorem fdR_len (x:Wo):(fdR x).1.length<=1048576:=by
 unfold fdR
 split
 ·exact (openD_bound x.ss [] x.w).1
 ·exact Nat.zero_le _
def FoPost (w w':World) (e:Ending) (r:List Pr×Int):Prop:=∃ a c,e=.returned (.tuple #[stV a r.1.length c,.int .i64 r.2])/\r.1.length<=c/\OwnS w' a (prcells r.1)/\(∀ g,blk a r.1.length=some g->w.heap.size<=g)/\Below w.heap.size w w'
set_option maxHeartbeats 4000000 in
theorem found_s (x:Wo) (q:Wp) (w:World) (h:x.at w q) (hm:x.le 1048576) :
  Calls Tryz.prog 5 #[worldW x q] w fun e w'=>FoPost w w' e (fdR x):=by
 have CV:=hid (fun w' k=>vworld_s x q w' k hm)
 obtain ⟨D,HD⟩:∃ D,Hid (D=openD x.ss [] x.w):=⟨_,hid rfl⟩
 have CO:=hid (fun w' k=>open_s q.a x.ss q.c none [] 0 x.w w' k (.inl rfl) hm.l1 (by simp) hm.s1 (by simp))
 have hDb:=(openD_bound x.ss [] x.w).1
 rw [<-HD.out] at CO hDb
 simp only [List.length_nil] at CO
 unfold worldW at CV ⊢
 have hb1:Below w.heap.size w ((w.alloc (.cells #[.int .i64 x.w,.slice q.a x.ss.length q.c,.slice q.a' x.ws.length q.c',.bool x.up,.int .i64 x.W,.int .i64 x.S,.int .i64 x.L,.int .i64 x.T,.int .i64 x.H,.int .i64 x.F,.int .i64 x.R,.int .i64 x.U,.int .i64 x.O,.slice q.s x.rs.length q.cs,.slice q.p x.P.length q.cp,.slice q.t x.ts.length q.ct] 50)).alloc (.cells #[.slice none 0 0] 39)):=((Below.refl _ _).alloc (Nat.le_refl _) _).alloc (by simp) _
 have rA:=(row_new w #[.int .i64 x.w,.slice q.a x.ss.length q.c,.slice q.a' x.ws.length q.c',.bool x.up,.int .i64 x.W,.int .i64 x.S,.int .i64 x.L,.int .i64 x.T,.int .i64 x.H,.int .i64 x.F,.int .i64 x.R,.int .i64 x.U,.int .i64 x.O,.slice q.s x.rs.length q.cs,.slice q.p x.P.length q.cp,.slice q.t x.ts.length q.ct] 50).alloc (.cells #[.slice none 0 0] 39)
 have rR:=row_new' (w.alloc (.cells #[.int .i64 x.w,.slice q.a x.ss.length q.c,.slice q.a' x.ws.length q.c',.bool x.up,.int .i64 x.W,.int .i64 x.S,.int .i64 x.L,.int .i64 x.T,.int .i64 x.H,.int .i64 x.F,.int .i64 x.R,.int .i64 x.U,.int .i64 x.O,.slice q.s x.rs.length q.cs,.slice q.p x.P.length q.cp,.slice q.t x.ts.length q.ct] 50)) #[.slice none 0 0] 39 (w.heap.size+1) (by simp)
 cases hok:worldOk x with
 | false =>
  have e:fdR x=([],1):=by unfold fdR;rw [if_neg (by rw [hok];simp)]
  rw [e]
  rw [hok] at CV
  clear e
  go_enter Tryz.func5,Tryz.ntmps5
  go_wp2_with fail
  obtain ⟨R,e_R⟩:∃ y,y=w.heap.size+1:=⟨_,rfl⟩
  obtain ⟨BA,e_BA⟩:∃ y,y=w.heap.size:=⟨_,rfl⟩
  obtain ⟨v1,e_v1⟩:∃ y,y=((w.alloc (.cells #[.int .i64 x.w,.slice q.a x.ss.length q.c,.slice q.a' x.ws.length q.c',.bool x.up,.int .i64 x.W,.int .i64 x.S,.int .i64 x.L,.int .i64 x.T,.int .i64 x.H,.int .i64 x.F,.int .i64 x.R,.int .i64 x.U,.int .i64 x.O,.slice q.s x.rs.length q.cs,.slice q.p x.P.length q.cp,.slice q.t x.ts.length q.ct] 50)).alloc (.cells #[.slice none 0 0] 39)):=⟨_,rfl⟩
  rw [<-e_v1] at hb1 rA rR
  rw [<-e_R] at rR
  rw [<-e_BA] at rA
  rw [<-e_v1,<-e_R,<-e_BA]
  have hR:w.heap.size<=R:=by omega
  clear e_v1 e_R
  clear e_BA
  refine (CV.out v1 (h.below hb1)).mono ?_
  rintro e w2 ⟨rfl,hb2⟩
  have rA:=rA.below hb2
  have rR:=rR.below hb2
  have hE:=hb1.trans (hb2.mono hb1.size)
  have h:=h.below hE
  clear hb1 hb2
  have r0:=rR.cell 0 _ rfl
  have f0:=rR.froz 0 (by simp)
  have rl:=rR.lt
  go_wp2
  refine bodyPost_ret (v:=.tuple #[.agg #[.slice none 0 0],.int .i64 1]) (by simp [results,Tryz.results5,go_sem,r0]) rfl ?_
  exact ⟨none,0,rfl,Nat.le_refl _,.inl rfl,fun g hg=>(by cases hg),hE.setCell (p:=⟨R,0,none⟩) hR _⟩
 | true =>
  have e:fdR x=(D.rs,D.C):=by unfold fdR;rw [if_pos hok,HD.out]
  rw [e]
  rw [hok] at CV
  clear e HD
  go_enter Tryz.func5,Tryz.ntmps5
  go_wp2_with fail
  obtain ⟨R,e_R⟩:∃ y,y=w.heap.size+1:=⟨_,rfl⟩
  obtain ⟨BA,e_BA⟩:∃ y,y=w.heap.size:=⟨_,rfl⟩
  obtain ⟨v1,e_v1⟩:∃ y,y=((w.alloc (.cells #[.int .i64 x.w,.slice q.a x.ss.length q.c,.slice q.a' x.ws.length q.c',.bool x.up,.int .i64 x.W,.int .i64 x.S,.int .i64 x.L,.int .i64 x.T,.int .i64 x.H,.int .i64 x.F,.int .i64 x.R,.int .i64 x.U,.int .i64 x.O,.slice q.s x.rs.length q.cs,.slice q.p x.P.length q.cp,.slice q.t x.ts.length q.ct] 50)).alloc (.cells #[.slice none 0 0] 39)):=⟨_,rfl⟩
  rw [<-e_v1] at hb1 rA rR
  rw [<-e_R] at rR
  rw [<-e_BA] at rA
  rw [<-e_v1,<-e_R,<-e_BA]
  have hR:w.heap.size<=R:=by omega
  clear e_v1 e_R
  clear e_BA
  refine (CV.out v1 (h.below hb1)).mono ?_
  rintro e w2 ⟨rfl,hb2⟩
  have rA:=rA.below hb2
  have rR:=rR.below hb2
  have hE:=hb1.trans (hb2.mono hb1.size)
  have h:=h.below hE
  clear hb1 hb2
  have a0:=rA.cell 0 _ rfl
  have a1:=rA.cell 1 _ rfl
  have al:=rA.lt
  go_wp2_with fail
  clear a0 a1 al
  refine (CO.out w2 h.h1).mono ?_
  rintro e w3 ⟨oa,oc,ob,oe,rfl,hcap,own,g1,g2,hb3⟩
  unfold dnV
  have hR2:=rR.lt
  have hE2:=hE.size
  have rR:=rR.below hb3
  have hE:=hE.trans (hb3.mono hE.size)
  have hsz:=hb3.size
  have rX:=row_new w3 #[.int .i64 D.C,.int .i64 D.W,.int .i64 D.S,.int .i64 D.L,.int .i64 D.T,.int .i64 D.H,.int .i64 D.F,.int .i64 D.R,.int .i64 D.U,.int .i64 D.O,.slice oa D.rs.length oc,.slice ob D.ops.length oe] 64
  have hb4:Below w3.heap.size w3 (w3.alloc (.cells #[.int .i64 D.C,.int .i64 D.W,.int .i64 D.S,.int .i64 D.L,.int .i64 D.T,.int .i64 D.H,.int .i64 D.F,.int .i64 D.R,.int .i64 D.U,.int .i64 D.O,.slice oa D.rs.length oc,.slice ob D.ops.length oe] 64)):=(Below.refl _ _).alloc (Nat.le_refl _) _
  go_upto_region 4 with fail
  obtain ⟨XB,e_XB⟩:∃ y,y=w3.heap.size:=⟨_,rfl⟩
  have hR3:R<XB:=by rw [e_XB];exact rR.lt
  obtain ⟨v4,e_v4⟩:∃ y,y=w3.alloc (.cells #[.int .i64 D.C,.int .i64 D.W,.int .i64 D.S,.int .i64 D.L,.int .i64 D.T,.int .i64 D.H,.int .i64 D.F,.int .i64 D.R,.int .i64 D.U,.int .i64 D.O,.slice oa D.rs.length oc,.slice ob D.ops.length oe] 64):=⟨_,rfl⟩
  rw [<-e_v4] at rX hb4
  rw [<-e_XB] at rX
  rw [<-e_v4,<-e_XB]
  clear e_v4
  clear e_XB
  have rR:=rR.below hb4
  have hE:=hE.trans (hb4.mono hE.size)
  have ow:=own.s.below hb4
  have HK:Hid (∀ W,Row W XB [.int .i64 D.C,.int .i64 D.W,.int .i64 D.S,.int .i64 D.L,.int .i64 D.T,.int .i64 D.H,.int .i64 D.F,.int .i64 D.R,.int .i64 D.U,.int .i64 D.O,.slice oa D.rs.length oc,.slice ob D.ops.length oe]->W.cell? ⟨XB,10,none⟩=some (.slice oa D.rs.length oc)/\W.cell? ⟨XB,0,none⟩=some (.int .i64 D.C)):=fun W r=>⟨r.cell 10 _ rfl,r.cell 0 _ rfl⟩
  have HRX:Hid (R≠XB):=hid (fun e=>by have:=hR3;omega)
  have hR4:=rR.lt
  have hE4:=hE.size
  refine wp_region_held_drew (S:=fun w'=>w'.cell? ⟨XB,10,none⟩=some (.slice oa D.rs.length oc)/\w'.cell? ⟨XB,0,none⟩=some (.int .i64 D.C)) (by kernel_rfl) (HK.out _ rX.drew) (fun hHeld=>?_)
  refine TY (i:=0) (v:=.pointer (some ⟨XB,1,none⟩)) rfl hHeld ?_
  simp only [PS]
  refine TY (i:=1) (v:=.pointer (some ⟨XB,10,none⟩)) rfl hHeld ?_
  simp only [PS]
  refine TY (i:=2) (v:=.agg #[.slice oa D.rs.length oc]) rfl hHeld ?_
  simp only [PS]
  refine TY (i:=4) (v:=.pointer (some ⟨XB,0,none⟩)) rfl hHeld ?_
  simp only [PS]
  refine TY (i:=5) (v:=.int .i64 D.C) rfl hHeld ?_
  simp only [PS]
  refine RD (i:=3) rfl (fun Kq hKq=>?_)
  refine step_call (by rfl) 19 #[stV oa D.rs.length oc] (by go_simp) (copy_st_s oa D.rs oc _ (ow.below (Below.refl _ _).drew).prs hDb) ?_
  rintro e u1 ⟨ca,cc,rfl,hcc,oc1,gc,hb5⟩
  refine ⟨_,rfl,?_⟩
  have rX:=(rX.below (Below.refl _ _).drew).below hb5
  have rR:=(rR.below (Below.refl _ _).drew).below hb5
  have hE:=(hE.trans ((Below.refl v4.heap.size v4).drew.mono hE.size)).trans (hb5.mono hE.size)
  refine hKq.out _ _ (HK.out _ rX) (fun hHd1=>?_)
  clear hKq Kq
  try simp only [PS]
  refine RD (i:=6) rfl (fun Kq hKq=>?_)
  have r0:=rR.cell 0 _ rfl
  have f0:=rR.froz 0 (by simp)
  have rl:=rR.lt
  go_simp
  refine hKq.out _ _ (HK.out _ (rX.other _ (fun e=>HRX.out e) _)) (fun hHd2=>?_)
  clear hKq Kq
  try simp only [PS]
  refine RD (i:=7) rfl (fun Kq hKq=>?_)
  go_simp
  refine hKq.out _ _ hHd2 (fun _=>?_)
  clear hKq Kq
  try simp only [PS]
  refine wpAnyH_done (by kernel_rfl) ?_ _
  go_wp2
  refine bodyPost_ret (v:=.tuple #[.agg #[.slice ca D.rs.length cc],.int .i64 D.C]) (by simp [results,Tryz.results5,go_sem,r0]) rfl ?_
  exact ⟨ca,cc,rfl,hcc,oc1.set' _ (fun g hg hn=>by have:=gc g (by subst hg;exact blk_pos _ _ _ (prcells_neO hn));have:v4.heap.size<=g:=this;have:=hR4;show R≠g;omega) _,fun g hg=>by have:v4.heap.size<=g:=gc g hg;have:=hE4;omega,hE.setCell (p:=⟨R,0,none⟩) hR _⟩
set_option maxHeartbeats 4000000 in
theorem found_i (x:Wo) (q:Wp) (w:World) (h:x.at w q) (hc:x.rs.length<=q.cs) (hm:x.le 1048576) (ty:TypeId) (v:Value) (hv:w.cell? ⟨1,0,none⟩=some (.iface ty v)) (h0:w.cell? ⟨0,0,none⟩=some (.iface 253 (.agg #[.pointer (some ⟨3,165,none⟩)]))) (hg:1<w.heap.size) :
  Calls Tryz.prog 7 #[worldW x q] w fun e w'=>FoPost w w' e (fdR x):=by
 have CV:=hid (fun w' k=>vworld_i x q w' k hc hm)
 obtain ⟨D,HD⟩:∃ D,Hid (D=openD x.ss [] x.w):=⟨_,hid rfl⟩
 have CO:=hid (fun w' (hb:Below w.heap.size w w') k=>open_i q.a x.ss q.c none [] 0 x.w w' k (.inl rfl) hm.l1 (by simp) hm.s1 (by simp) ty v ((hb.cell (p:=⟨1,0,none⟩) hg).trans hv) ((hb.cell (p:=⟨0,0,none⟩) (by show 0<_;omega)).trans h0) (by have:=hb.size;omega))
 clear hv h0 hg
 have hDb:=(openD_bound x.ss [] x.w).1
 rw [<-HD.out] at CO hDb
 simp only [List.length_nil] at CO
 unfold worldW at CV ⊢
 have hb1:Below w.heap.size w ((w.alloc (.cells #[.int .i64 x.w,.slice q.a x.ss.length q.c,.slice q.a' x.ws.length q.c',.bool x.up,.int .i64 x.W,.int .i64 x.S,.int .i64 x.L,.int .i64 x.T,.int .i64 x.H,.int .i64 x.F,.int .i64 x.R,.int .i64 x.U,.int .i64 x.O,.slice q.s x.rs.length q.cs,.slice q.p x.P.length q.cp,.slice q.t x.ts.length q.ct] 50)).alloc (.cells #[.slice none 0 0] 39)):=((Below.refl _ _).alloc (Nat.le_refl _) _).alloc (by simp) _
 have rA:=(row_new w #[.int .i64 x.w,.slice q.a x.ss.length q.c,.slice q.a' x.ws.length q.c',.bool x.up,.int .i64 x.W,.int .i64 x.S,.int .i64 x.L,.int .i64 x.T,.int .i64 x.H,.int .i64 x.F,.int .i64 x.R,.int .i64 x.U,.int .i64 x.O,.slice q.s x.rs.length q.cs,.slice q.p x.P.length q.cp,.slice q.t x.ts.length q.ct] 50).alloc (.cells #[.slice none 0 0] 39)
 have rR:=row_new' (w.alloc (.cells #[.int .i64 x.w,.slice q.a x.ss.length q.c,.slice q.a' x.ws.length q.c',.bool x.up,.int .i64 x.W,.int .i64 x.S,.int .i64 x.L,.int .i64 x.T,.int .i64 x.H,.int .i64 x.F,.int .i64 x.R,.int .i64 x.U,.int .i64 x.O,.slice q.s x.rs.length q.cs,.slice q.p x.P.length q.cp,.slice q.t x.ts.length q.ct] 50)) #[.slice none 0 0] 39 (w.heap.size+1) (by simp)
 cases hok:worldOk x with
 | false =>
  have e:fdR x=([],1):=by unfold fdR;rw [if_neg (by rw [hok];simp)]
  rw [e]
  rw [hok] at CV
  clear e
  go_enter Tryz.func7,Tryz.ntmps7
  go_wp2_with fail
  obtain ⟨R,e_R⟩:∃ y,y=w.heap.size+1:=⟨_,rfl⟩
  obtain ⟨BA,e_BA⟩:∃ y,y=w.heap.size:=⟨_,rfl⟩
  obtain ⟨v1,e_v1⟩:∃ y,y=((w.alloc (.cells #[.int .i64 x.w,.slice q.a x.ss.length q.c,.slice q.a' x.ws.length q.c',.bool x.up,.int .i64 x.W,.int .i64 x.S,.int .i64 x.L,.int .i64 x.T,.int .i64 x.H,.int .i64 x.F,.int .i64 x.R,.int .i64 x.U,.int .i64 x.O,.slice q.s x.rs.length q.cs,.slice q.p x.P.length q.cp,.slice q.t x.ts.length q.ct] 50)).alloc (.cells #[.slice none 0 0] 39)):=⟨_,rfl⟩
  rw [<-e_v1] at hb1 rA rR
  rw [<-e_R] at rR
  rw [<-e_BA] at rA
  rw [<-e_v1,<-e_R,<-e_BA]
  have hR:w.heap.size<=R:=by omega
  clear e_v1 e_R
  clear e_BA
  refine (CV.out v1 (h.below hb1)).mono ?_
  rintro e w2 ⟨rfl,hb2⟩
  have rA:=rA.below hb2
  have rR:=rR.below hb2
  have hE:=hb1.trans (hb2.mono hb1.size)
  have h:=h.below hE
  clear hb1 hb2
  have r0:=rR.cell 0 _ rfl
  have f0:=rR.froz 0 (by simp)
  have rl:=rR.lt
  go_wp2
  refine bodyPost_ret (v:=.tuple #[.agg #[.slice none 0 0],.int .i64 1]) (by simp [results,Tryz.results7,go_sem,r0]) rfl ?_
  exact ⟨none,0,rfl,Nat.le_refl _,.inl rfl,fun g hg=>(by cases hg),hE.setCell (p:=⟨R,0,none⟩) hR _⟩
 | true =>
  have e:fdR x=(D.rs,D.C):=by unfold fdR;rw [if_pos hok,HD.out]
  rw [e]
  rw [hok] at CV
  clear e HD
  go_enter Tryz.func7,Tryz.ntmps7
  go_wp2_with fail
  obtain ⟨R,e_R⟩:∃ y,y=w.heap.size+1:=⟨_,rfl⟩
  obtain ⟨BA,e_BA⟩:∃ y,y=w.heap.size:=⟨_,rfl⟩
  obtain ⟨v1,e_v1⟩:∃ y,y=((w.alloc (.cells #[.int .i64 x.w,.slice q.a x.ss.length q.c,.slice q.a' x.ws.length q.c',.bool x.up,.int .i64 x.W,.int .i64 x.S,.int .i64 x.L,.int .i64 x.T,.int .i64 x.H,.int .i64 x.F,.int .i64 x.R,.int .i64 x.U,.int .i64 x.O,.slice q.s x.rs.length q.cs,.slice q.p x.P.length q.cp,.slice q.t x.ts.length q.ct] 50)).alloc (.cells #[.slice none 0 0] 39)):=⟨_,rfl⟩
  rw [<-e_v1] at hb1 rA rR
  rw [<-e_R] at rR
  rw [<-e_BA] at rA
  rw [<-e_v1,<-e_R,<-e_BA]
  have hR:w.heap.size<=R:=by omega
  clear e_v1 e_R
  clear e_BA
  refine (CV.out v1 (h.below hb1)).mono ?_
  rintro e w2 ⟨rfl,hb2⟩
  have rA:=rA.below hb2
  have rR:=rR.below hb2
  have hE:=hb1.trans (hb2.mono hb1.size)
  have h:=h.below hE
  clear hb1 hb2
  have a0:=rA.cell 0 _ rfl
  have a1:=rA.cell 1 _ rfl
  have al:=rA.lt
  go_wp2_with fail
  clear a0 a1 al
  refine (CO.out w2 hE h.h1).mono ?_
  rintro e w3 ⟨oa,oc,ob,oe,rfl,hcap,own,g1,g2,hb3⟩
  unfold dnV
  have hR2:=rR.lt
  have hE2:=hE.size
  have rR:=rR.below hb3
  have hE:=hE.trans (hb3.mono hE.size)
  have hsz:=hb3.size
  have rX:=row_new w3 #[.int .i64 D.C,.int .i64 D.W,.int .i64 D.S,.int .i64 D.L,.int .i64 D.T,.int .i64 D.H,.int .i64 D.F,.int .i64 D.R,.int .i64 D.U,.int .i64 D.O,.slice oa D.rs.length oc,.slice ob D.ops.length oe] 64
  have hb4:Below w3.heap.size w3 (w3.alloc (.cells #[.int .i64 D.C,.int .i64 D.W,.int .i64 D.S,.int .i64 D.L,.int .i64 D.T,.int .i64 D.H,.int .i64 D.F,.int .i64 D.R,.int .i64 D.U,.int .i64 D.O,.slice oa D.rs.length oc,.slice ob D.ops.length oe] 64)):=(Below.refl _ _).alloc (Nat.le_refl _) _
  go_upto_region 4 with fail
  obtain ⟨XB,e_XB⟩:∃ y,y=w3.heap.size:=⟨_,rfl⟩
  have hR3:R<XB:=by rw [e_XB];exact rR.lt
  obtain ⟨v4,e_v4⟩:∃ y,y=w3.alloc (.cells #[.int .i64 D.C,.int .i64 D.W,.int .i64 D.S,.int .i64 D.L,.int .i64 D.T,.int .i64 D.H,.int .i64 D.F,.int .i64 D.R,.int .i64 D.U,.int .i64 D.O,.slice oa D.rs.length oc,.slice ob D.ops.length oe] 64):=⟨_,rfl⟩
  rw [<-e_v4] at rX hb4
  rw [<-e_XB] at rX
  rw [<-e_v4,<-e_XB]
  clear e_v4
  clear e_XB
  have rR:=rR.below hb4
  have hE:=hE.trans (hb4.mono hE.size)
  have ow:=own.s.below hb4
  have HK:Hid (∀ W,Row W XB [.int .i64 D.C,.int .i64 D.W,.int .i64 D.S,.int .i64 D.L,.int .i64 D.T,.int .i64 D.H,.int .i64 D.F,.int .i64 D.R,.int .i64 D.U,.int .i64 D.O,.slice oa D.rs.length oc,.slice ob D.ops.length oe]->W.cell? ⟨XB,10,none⟩=some (.slice oa D.rs.length oc)/\W.cell? ⟨XB,0,none⟩=some (.int .i64 D.C)):=fun W r=>⟨r.cell 10 _ rfl,r.cell 0 _ rfl⟩
  have HRX:Hid (R≠XB):=hid (fun e=>by have:=hR3;omega)
  have hR4:=rR.lt
  have hE4:=hE.size
  refine wp_region_held_drew (S:=fun w'=>w'.cell? ⟨XB,10,none⟩=some (.slice oa D.rs.length oc)/\w'.cell? ⟨XB,0,none⟩=some (.int .i64 D.C)) (by kernel_rfl) (HK.out _ rX.drew) (fun hHeld=>?_)
  refine TY (i:=0) (v:=.pointer (some ⟨XB,1,none⟩)) rfl hHeld ?_
  simp only [PS]
  refine TY (i:=1) (v:=.pointer (some ⟨XB,10,none⟩)) rfl hHeld ?_
  simp only [PS]
  refine TY (i:=2) (v:=.agg #[.slice oa D.rs.length oc]) rfl hHeld ?_
  simp only [PS]
  refine TY (i:=3) (v:=.pointer (some ⟨XB,0,none⟩)) rfl hHeld ?_
  simp only [PS]
  refine TY (i:=4) (v:=.int .i64 D.C) rfl hHeld ?_
  simp only [PS]
  refine RD (i:=5) rfl (fun Kq hKq=>?_)
  have r0v:=rR.cell 0 _ rfl
  have rR:=rR.drew
  have r0:=rR.cell 0 _ rfl
  have f0:=rR.froz 0 (by simp)
  have rl:=rR.lt
  go_simp
  refine hKq.out _ _ (HK.out _ (rX.drew.other _ (fun e=>HRX.out e) _)) (fun hHd1=>?_)
  clear hKq Kq
  try simp only [PS]
  refine RD (i:=6) rfl (fun Kq hKq=>?_)
  go_simp
  refine hKq.out _ _ hHd1 (fun _=>?_)
  clear hKq Kq
  try simp only [PS]
  refine wpAnyH_done (by kernel_rfl) ?_ _
  go_wp2
  refine bodyPost_ret (v:=.tuple #[.agg #[.slice oa D.rs.length oc],.int .i64 D.C]) (by simp [results,Tryz.results7,go_sem,r0,r0v]) rfl ?_
  exact ⟨oa,oc,rfl,hcap,(ow.below (Below.refl _ _).drew).set' _ (fun g hg hn=>by have:=g1 g (by subst hg;exact blk_pos _ _ _ (prcells_neO hn));have:=hR2;show R≠g;omega) _,fun g hg=>by have:=g1 g hg;have:=hE2;omega,hE.drew.setCell (p:=⟨R,0,none⟩) hR _⟩
end Go.Proofs.YtcoegjnjjdndjaaGreatDoor
