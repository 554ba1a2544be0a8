import Derived.Deep.Cut
import Derived.Deep.CutRange
import Derived.Test.YtnmaknnnmjfhkagGreatDoorPrG34
import Derived.Test.YtnmaknnnmjfhkagGreatDoorPrG21
import Derived.Test.YtnmaknnnmjfhkagGreatDoorPrWoE
import Derived.Test.YtnmaknnnmjfhkagGreatDoorPrOpI
import Derived.Test.YtnmaknnnmjfhkagGreatDoorPrOpS
import Derived.Test.YtnmaknnnmjfhkagGreatDoorPrG44
import Derived.Test.YtnmaknnnmjfhkagGreatDoorPrG36
set_option maxHeartbeats 16000000
set_option maxRecDepth 8000
set_option linter.unusedVariables false
set_option linter.unusedSimpArgs false
namespace Go.Proofs.YtnmaknnnmjfhkagGreatDoor
open Go.RowKit
def fdR (x:Wo):List Pr×Int:=if worldOk x=true then ((openD x.ss [] x.w).rs,(openD x.ss [] x.w).C) else ([],1)
theorem fdR_len (x:Wo):(fdR x).1.length<=1048576:=by
 unfold fdR
 split
 ·exact (openD_bound x.ss [] x.w).1
 ·exact Nat.zero_le _
def FoPost (w w':World) (e:Ending) (r:List Pr×Int):Prop:=∃ a c,e=.returned (.tuple #[stV a r.1.length c,.int .i64 r.2])/\r.1.length<=c/\OwnS w' a (prcells r.1)/\(∀ g,blk a r.1.length=some g->w.heap.size<=g)/\Below w.heap.size w w'
set_option maxHeartbeats 16000000 in
theorem found_s (x:Wo) (q:Wp) (w:World) (h:x.at w q) (hm:x.le 1048576) :
  Calls Tryz.prog 125 #[worldW x q] w fun e w'=>FoPost w w' e (fdR x):=by
 have CV:=hid (fun w' k=>vworld_s x q w' k hm)
 obtain ⟨D,HD⟩:∃ D,Hid (D=openD x.ss [] x.w):=⟨_,hid rfl⟩
 have CO:=hid (fun w' k=>open_s q.a x.ss q.c none [] 0 x.w w' k (.inl rfl) hm.l1 (by simp) hm.s1 (by simp))
 have hDb:=(openD_bound x.ss [] x.w).1
 rw [<-HD.out] at CO hDb
 simp only [List.length_nil] at CO
 unfold worldW at CV ⊢
 have hb1:Below w.heap.size w ((w.alloc (.cells #[.int .i64 x.w,.slice q.a x.ss.length q.c,.slice q.a' x.ws.length q.c',.bool x.up,.int .i64 x.W,.int .i64 x.S,.int .i64 x.L,.int .i64 x.T,.int .i64 x.H,.int .i64 x.F,.int .i64 x.R,.int .i64 x.U,.int .i64 x.O,.slice q.s x.rs.length q.cs,.slice q.p x.P.length q.cp,.slice q.t x.ts.length q.ct] 50)).alloc (.cells #[.slice none 0 0] 31)):=((Below.refl _ _).alloc (Nat.le_refl _) _).alloc (by simp) _
 have rA:=(row_new w #[.int .i64 x.w,.slice q.a x.ss.length q.c,.slice q.a' x.ws.length q.c',.bool x.up,.int .i64 x.W,.int .i64 x.S,.int .i64 x.L,.int .i64 x.T,.int .i64 x.H,.int .i64 x.F,.int .i64 x.R,.int .i64 x.U,.int .i64 x.O,.slice q.s x.rs.length q.cs,.slice q.p x.P.length q.cp,.slice q.t x.ts.length q.ct] 50).alloc (.cells #[.slice none 0 0] 31)
 have rR:=row_new' (w.alloc (.cells #[.int .i64 x.w,.slice q.a x.ss.length q.c,.slice q.a' x.ws.length q.c',.bool x.up,.int .i64 x.W,.int .i64 x.S,.int .i64 x.L,.int .i64 x.T,.int .i64 x.H,.int .i64 x.F,.int .i64 x.R,.int .i64 x.U,.int .i64 x.O,.slice q.s x.rs.length q.cs,.slice q.p x.P.length q.cp,.slice q.t x.ts.length q.ct] 50)) #[.slice none 0 0] 31 (w.heap.size+1) (by simp)
 cases hok:worldOk x with
 | false =>
  have e:fdR x=([],1):=by unfold fdR;rw [if_neg (by rw [hok];simp)]
  rw [e]
  rw [hok] at CV
  clear e
  go_enter Tryz.func125,Tryz.ntmps125
  go_wp2_with fail
  obtain ⟨R,e_R⟩:∃ y,y=w.heap.size+1:=⟨_,rfl⟩
  obtain ⟨BA,e_BA⟩:∃ y,y=w.heap.size:=⟨_,rfl⟩
  obtain ⟨v1,e_v1⟩:∃ y,y=((w.alloc (.cells #[.int .i64 x.w,.slice q.a x.ss.length q.c,.slice q.a' x.ws.length q.c',.bool x.up,.int .i64 x.W,.int .i64 x.S,.int .i64 x.L,.int .i64 x.T,.int .i64 x.H,.int .i64 x.F,.int .i64 x.R,.int .i64 x.U,.int .i64 x.O,.slice q.s x.rs.length q.cs,.slice q.p x.P.length q.cp,.slice q.t x.ts.length q.ct] 50)).alloc (.cells #[.slice none 0 0] 31)):=⟨_,rfl⟩
  rw [<-e_v1] at hb1 rA rR
  rw [<-e_R] at rR
  rw [<-e_BA] at rA
  rw [<-e_v1,<-e_R,<-e_BA]
  have hR:w.heap.size<=R:=by omega
  clear e_v1 e_R
  clear e_BA
  refine (CV.out v1 (h.below hb1)).mono ?_
  rintro e w2 ⟨rfl,hb2⟩
  have rA:=rA.below hb2
  have rR:=rR.below hb2
  have hE:=hb1.trans (hb2.mono hb1.size)
  have h:=h.below hE
  clear hb1 hb2
  have r0:=rR.cell 0 _ rfl
  have f0:=rR.froz 0 (by simp)
  have rl:=rR.lt
  go_wp2
  refine bodyPost_ret (v:=.tuple #[.agg #[.slice none 0 0],.int .i64 1]) (by simp [results,Tryz.results125,go_sem,r0]) rfl ?_
  exact ⟨none,0,rfl,Nat.le_refl _,.inl rfl,fun g hg=>(by cases hg),hE.setCell (p:=⟨R,0,none⟩) hR _⟩
 | true =>
  have e:fdR x=(D.rs,D.C):=by unfold fdR;rw [if_pos hok,HD.out]
  rw [e]
  rw [hok] at CV
  clear e HD
  go_enter Tryz.func125,Tryz.ntmps125
  go_wp2_with fail
  obtain ⟨R,e_R⟩:∃ y,y=w.heap.size+1:=⟨_,rfl⟩
  obtain ⟨BA,e_BA⟩:∃ y,y=w.heap.size:=⟨_,rfl⟩
  obtain ⟨v1,e_v1⟩:∃ y,y=((w.alloc (.cells #[.int .i64 x.w,.slice q.a x.ss.length q.c,.slice q.a' x.ws.length q.c',.bool x.up,.int .i64 x.W,.int .i64 x.S,.int .i64 x.L,.int .i64 x.T,.int .i64 x.H,.int .i64 x.F,.int .i64 x.R,.int .i64 x.U,.int .i64 x.O,.slice q.s x.rs.length q.cs,.slice q.p x.P.length q.cp,.slice q.t x.ts.length q.ct] 50)).alloc (.cells #[.slice none 0 0] 31)):=⟨_,rfl⟩
  rw [<-e_v1] at hb1 rA rR
  rw [<-e_R] at rR
  rw [<-e_BA] at rA
  rw [<-e_v1,<-e_R,<-e_BA]
  have hR:w.heap.size<=R:=by omega
  clear e_v1 e_R
  clear e_BA
  refine (CV.out v1 (h.below hb1)).mono ?_
  rintro e w2 ⟨rfl,hb2⟩
  have rA:=rA.below hb2
  have rR:=rR.below hb2
  have hE:=hb1.trans (hb2.mono hb1.size)
  have h:=h.below hE
  clear hb1 hb2
  have a0:=rA.cell 0 _ rfl
  have a1:=rA.cell 1 _ rfl
  have al:=rA.lt
  go_wp2_with fail
  clear a0 a1 al
  refine (CO.out w2 h.h1).mono ?_
  rintro e w3 ⟨oa,oc,ob,oe,rfl,hcap,own,g1,g2,hb3⟩
  unfold dnV
  have hR2:=rR.lt
  have hE2:=hE.size
  have rR:=rR.below hb3
  have hE:=hE.trans (hb3.mono hE.size)
  have hsz:=hb3.size
  have rX:=row_new w3 #[.int .i64 D.C,.int .i64 D.W,.int .i64 D.S,.int .i64 D.L,.int .i64 D.T,.int .i64 D.H,.int .i64 D.F,.int .i64 D.R,.int .i64 D.U,.int .i64 D.O,.slice oa D.rs.length oc,.slice ob D.ops.length oe] 36
  have hb4:Below w3.heap.size w3 (w3.alloc (.cells #[.int .i64 D.C,.int .i64 D.W,.int .i64 D.S,.int .i64 D.L,.int .i64 D.T,.int .i64 D.H,.int .i64 D.F,.int .i64 D.R,.int .i64 D.U,.int .i64 D.O,.slice oa D.rs.length oc,.slice ob D.ops.length oe] 36)):=(Below.refl _ _).alloc (Nat.le_refl _) _
  go_upto_region 4 with fail
  obtain ⟨XB,e_XB⟩:∃ y,y=w3.heap.size:=⟨_,rfl⟩
  have hR3:R<XB:=by rw [e_XB];exact rR.lt
  obtain ⟨v4,e_v4⟩:∃ y,y=w3.alloc (.cells #[.int .i64 D.C,.int .i64 D.W,.int .i64 D.S,.int .i64 D.L,.int .i64 D.T,.int .i64 D.H,.int .i64 D.F,.int .i64 D.R,.int .i64 D.U,.int .i64 D.O,.slice oa D.rs.length oc,.slice ob D.ops.length oe] 36):=⟨_,rfl⟩
  rw [<-e_v4] at rX hb4
  rw [<-e_XB] at rX
  rw [<-e_v4,<-e_XB]
  clear e_v4
  clear e_XB
  have rR:=rR.below hb4
  have hE:=hE.trans (hb4.mono hE.size)
  have ow:=own.s.below hb4
  have HK:Hid (∀ W,Row W XB [.int .i64 D.C,.int .i64 D.W,.int .i64 D.S,.int .i64 D.L,.int .i64 D.T,.int .i64 D.H,.int .i64 D.F,.int .i64 D.R,.int .i64 D.U,.int .i64 D.O,.slice oa D.rs.length oc,.slice ob D.ops.length oe]->W.cell? ⟨XB,10,none⟩=some (.slice oa D.rs.length oc)/\W.cell? ⟨XB,0,none⟩=some (.int .i64 D.C)):=fun W r=>⟨r.cell 10 _ rfl,r.cell 0 _ rfl⟩
  have HRX:Hid (R≠XB):=hid (fun e=>by have:=hR3;omega)
  have hR4:=rR.lt
  have hE4:=hE.size
  refine wp_region_held_drew (S:=fun w'=>w'.cell? ⟨XB,10,none⟩=some (.slice oa D.rs.length oc)/\w'.cell? ⟨XB,0,none⟩=some (.int .i64 D.C)) (by kernel_rfl) (HK.out _ rX.drew) (fun hHeld=>?_)
  refine TY (i:=0) (v:=.pointer (some ⟨XB,1,none⟩)) rfl hHeld ?_
  simp only [PS]
  refine TY (i:=1) (v:=.pointer (some ⟨XB,10,none⟩)) rfl hHeld ?_
  simp only [PS]
  refine TY (i:=2) (v:=.agg #[.slice oa D.rs.length oc]) rfl hHeld ?_
  simp only [PS]
  refine TY (i:=4) (v:=.pointer (some ⟨XB,0,none⟩)) rfl hHeld ?_
  simp only [PS]
  refine TY (i:=5) (v:=.int .i64 D.C) rfl hHeld ?_
  simp only [PS]
  refine RD (i:=3) rfl (fun Kq hKq=>?_)
  refine step_call (by rfl) 104 #[stV oa D.rs.length oc] (by go_simp) (copy_st_s oa D.rs oc _ (ow.below (Below.refl _ _).drew).prs hDb) ?_
  rintro e u1 ⟨ca,cc,rfl,hcc,oc1,gc,hb5⟩
  refine ⟨_,rfl,?_⟩
  have rX:=(rX.below (Below.refl _ _).drew).below hb5
  have rR:=(rR.below (Below.refl _ _).drew).below hb5
  have hE:=(hE.trans ((Below.refl v4.heap.size v4).drew.mono hE.size)).trans (hb5.mono hE.size)
  refine hKq.out _ _ (HK.out _ rX) (fun hHd1=>?_)
  clear hKq Kq
  try simp only [PS]
  refine RD (i:=6) rfl (fun Kq hKq=>?_)
  have r0:=rR.cell 0 _ rfl
  have f0:=rR.froz 0 (by simp)
  have rl:=rR.lt
  go_simp
  refine hKq.out _ _ (HK.out _ (rX.other _ (fun e=>HRX.out e) _)) (fun hHd2=>?_)
  clear hKq Kq
  try simp only [PS]
  refine RD (i:=7) rfl (fun Kq hKq=>?_)
  go_simp
  refine hKq.out _ _ hHd2 (fun _=>?_)
  clear hKq Kq
  try simp only [PS]
  refine wpAnyH_done (by kernel_rfl) ?_ _
  go_wp2
  refine bodyPost_ret (v:=.tuple #[.agg #[.slice ca D.rs.length cc],.int .i64 D.C]) (by simp [results,Tryz.results125,go_sem,r0]) rfl ?_
  exact ⟨ca,cc,rfl,hcc,oc1.set' _ (fun g hg hn=>by have:=gc g (by subst hg;exact blk_pos _ _ _ (prcells_neO hn));have:v4.heap.size<=g:=this;have:=hR4;show R≠g;omega) _,fun g hg=>by have:v4.heap.size<=g:=gc g hg;have:=hE4;omega,hE.setCell (p:=⟨R,0,none⟩) hR _⟩
set_option maxHeartbeats 16000000 in
theorem found_i (x:Wo) (q:Wp) (w:World) (h:x.at w q) (hc:x.rs.length<=q.cs) (hm:x.le 1048576) (ty:TypeId) (v:Value) (hv:w.cell? ⟨1,0,none⟩=some (.iface ty v)) (h0:w.cell? ⟨0,0,none⟩=some (.iface 332 (.agg #[.pointer (some ⟨3,215,none⟩)]))) (hg:1<w.heap.size) :
  Calls Tryz.prog 44 #[worldW x q] w fun e w'=>FoPost w w' e (fdR x):=by
 have CV:=hid (fun w' k=>vworld_i x q w' k hc hm)
 obtain ⟨D,HD⟩:∃ D,Hid (D=openD x.ss [] x.w):=⟨_,hid rfl⟩
 have CO:=hid (fun w' (hb:Below w.heap.size w w') k=>open_i q.a x.ss q.c none [] 0 x.w w' k (.inl rfl) hm.l1 (by simp) hm.s1 (by simp) ty v ((hb.cell (p:=⟨1,0,none⟩) hg).trans hv) ((hb.cell (p:=⟨0,0,none⟩) (by show 0<_;omega)).trans h0) (by have:=hb.size;omega))
 clear hv h0 hg
 have hDb:=(openD_bound x.ss [] x.w).1
 rw [<-HD.out] at CO hDb
 simp only [List.length_nil] at CO
 unfold worldW at CV ⊢
 have hb1:Below w.heap.size w ((w.alloc (.cells #[.int .i64 x.w,.slice q.a x.ss.length q.c,.slice q.a' x.ws.length q.c',.bool x.up,.int .i64 x.W,.int .i64 x.S,.int .i64 x.L,.int .i64 x.T,.int .i64 x.H,.int .i64 x.F,.int .i64 x.R,.int .i64 x.U,.int .i64 x.O,.slice q.s x.rs.length q.cs,.slice q.p x.P.length q.cp,.slice q.t x.ts.length q.ct] 50)).alloc (.cells #[.slice none 0 0] 31)):=((Below.refl _ _).alloc (Nat.le_refl _) _).alloc (by simp) _
 have rA:=(row_new w #[.int .i64 x.w,.slice q.a x.ss.length q.c,.slice q.a' x.ws.length q.c',.bool x.up,.int .i64 x.W,.int .i64 x.S,.int .i64 x.L,.int .i64 x.T,.int .i64 x.H,.int .i64 x.F,.int .i64 x.R,.int .i64 x.U,.int .i64 x.O,.slice q.s x.rs.length q.cs,.slice q.p x.P.length q.cp,.slice q.t x.ts.length q.ct] 50).alloc (.cells #[.slice none 0 0] 31)
 have rR:=row_new' (w.alloc (.cells #[.int .i64 x.w,.slice q.a x.ss.length q.c,.slice q.a' x.ws.length q.c',.bool x.up,.int .i64 x.W,.int .i64 x.S,.int .i64 x.L,.int .i64 x.T,.int .i64 x.H,.int .i64 x.F,.int .i64 x.R,.int .i64 x.U,.int .i64 x.O,.slice q.s x.rs.length q.cs,.slice q.p x.P.length q.cp,.slice q.t x.ts.length q.ct] 50)) #[.slice none 0 0] 31 (w.heap.size+1) (by simp)
 cases hok:worldOk x with
 | false =>
  have e:fdR x=([],1):=by unfold fdR;rw [if_neg (by rw [hok];simp)]
  rw [e]
  rw [hok] at CV
  clear e
  go_enter Tryz.func44,Tryz.ntmps44
  go_wp2_with fail
  obtain ⟨R,e_R⟩:∃ y,y=w.heap.size+1:=⟨_,rfl⟩
  obtain ⟨BA,e_BA⟩:∃ y,y=w.heap.size:=⟨_,rfl⟩
  obtain ⟨v1,e_v1⟩:∃ y,y=((w.alloc (.cells #[.int .i64 x.w,.slice q.a x.ss.length q.c,.slice q.a' x.ws.length q.c',.bool x.up,.int .i64 x.W,.int .i64 x.S,.int .i64 x.L,.int .i64 x.T,.int .i64 x.H,.int .i64 x.F,.int .i64 x.R,.int .i64 x.U,.int .i64 x.O,.slice q.s x.rs.length q.cs,.slice q.p x.P.length q.cp,.slice q.t x.ts.length q.ct] 50)).alloc (.cells #[.slice none 0 0] 31)):=⟨_,rfl⟩
  rw [<-e_v1] at hb1 rA rR
  rw [<-e_R] at rR
  rw [<-e_BA] at rA
  rw [<-e_v1,<-e_R,<-e_BA]
  have hR:w.heap.size<=R:=by omega
  clear e_v1 e_R
  clear e_BA
  refine (CV.out v1 (h.below hb1)).mono ?_
  rintro e w2 ⟨rfl,hb2⟩
  have rA:=rA.below hb2
  have rR:=rR.below hb2
  have hE:=hb1.trans (hb2.mono hb1.size)
  have h:=h.below hE
  clear hb1 hb2
  have r0:=rR.cell 0 _ rfl
  have f0:=rR.froz 0 (by simp)
  have rl:=rR.lt
  go_wp2
  refine bodyPost_ret (v:=.tuple #[.agg #[.slice none 0 0],.int .i64 1]) (by simp [results,Tryz.results44,go_sem,r0]) rfl ?_
  exact ⟨none,0,rfl,Nat.le_refl _,.inl rfl,fun g hg=>(by cases hg),hE.setCell (p:=⟨R,0,none⟩) hR _⟩
 | true =>
  have e:fdR x=(D.rs,D.C):=by unfold fdR;rw [if_pos hok,HD.out]
  rw [e]
  rw [hok] at CV
  clear e HD
  go_enter Tryz.func44,Tryz.ntmps44
  go_wp2_with fail
  obtain ⟨R,e_R⟩:∃ y,y=w.heap.size+1:=⟨_,rfl⟩
  obtain ⟨BA,e_BA⟩:∃ y,y=w.heap.size:=⟨_,rfl⟩
  obtain ⟨v1,e_v1⟩:∃ y,y=((w.alloc (.cells #[.int .i64 x.w,.slice q.a x.ss.length q.c,.slice q.a' x.ws.length q.c',.bool x.up,.int .i64 x.W,.int .i64 x.S,.int .i64 x.L,.int .i64 x.T,.int .i64 x.H,.int .i64 x.F,.int .i64 x.R,.int .i64 x.U,.int .i64 x.O,.slice q.s x.rs.length q.cs,.slice q.p x.P.length q.cp,.slice q.t x.ts.length q.ct] 50)).alloc (.cells #[.slice none 0 0] 31)):=⟨_,rfl⟩
  rw [<-e_v1] at hb1 rA rR
  rw [<-e_R] at rR
  rw [<-e_BA] at rA
  rw [<-e_v1,<-e_R,<-e_BA]
  have hR:w.heap.size<=R:=by omega
  clear e_v1 e_R
  clear e_BA
  refine (CV.out v1 (h.below hb1)).mono ?_
  rintro e w2 ⟨rfl,hb2⟩
  have rA:=rA.below hb2
  have rR:=rR.below hb2
  have hE:=hb1.trans (hb2.mono hb1.size)
  have h:=h.below hE
  clear hb1 hb2
  have a0:=rA.cell 0 _ rfl
  have a1:=rA.cell 1 _ rfl
  have al:=rA.lt
  go_wp2_with fail
  clear a0 a1 al
  refine (CO.out w2 hE h.h1).mono ?_
  rintro e w3 ⟨oa,oc,ob,oe,rfl,hcap,own,g1,g2,hb3⟩
  unfold dnV
  have hR2:=rR.lt
  have hE2:=hE.size
  have rR:=rR.below hb3
  have hE:=hE.trans (hb3.mono hE.size)
  have hsz:=hb3.size
  have rX:=row_new w3 #[.int .i64 D.C,.int .i64 D.W,.int .i64 D.S,.int .i64 D.L,.int .i64 D.T,.int .i64 D.H,.int .i64 D.F,.int .i64 D.R,.int .i64 D.U,.int .i64 D.O,.slice oa D.rs.length oc,.slice ob D.ops.length oe] 36
  have hb4:Below w3.heap.size w3 (w3.alloc (.cells #[.int .i64 D.C,.int .i64 D.W,.int .i64 D.S,.int .i64 D.L,.int .i64 D.T,.int .i64 D.H,.int .i64 D.F,.int .i64 D.R,.int .i64 D.U,.int .i64 D.O,.slice oa D.rs.length oc,.slice ob D.ops.length oe] 36)):=(Below.refl _ _).alloc (Nat.le_refl _) _
  go_upto_region 4 with fail
  obtain ⟨XB,e_XB⟩:∃ y,y=w3.heap.size:=⟨_,rfl⟩
  have hR3:R<XB:=by rw [e_XB];exact rR.lt
  obtain ⟨v4,e_v4⟩:∃ y,y=w3.alloc (.cells #[.int .i64 D.C,.int .i64 D.W,.int .i64 D.S,.int .i64 D.L,.int .i64 D.T,.int .i64 D.H,.int .i64 D.F,.int .i64 D.R,.int .i64 D.U,.int .i64 D.O,.slice oa D.rs.length oc,.slice ob D.ops.length oe] 36):=⟨_,rfl⟩
  rw [<-e_v4] at rX hb4
  rw [<-e_XB] at rX
  rw [<-e_v4,<-e_XB]
  clear e_v4
  clear e_XB
  have rR:=rR.below hb4
  have hE:=hE.trans (hb4.mono hE.size)
  have ow:=own.s.below hb4
  have HK:Hid (∀ W,Row W XB [.int .i64 D.C,.int .i64 D.W,.int .i64 D.S,.int .i64 D.L,.int .i64 D.T,.int .i64 D.H,.int .i64 D.F,.int .i64 D.R,.int .i64 D.U,.int .i64 D.O,.slice oa D.rs.length oc,.slice ob D.ops.length oe]->W.cell? ⟨XB,10,none⟩=some (.slice oa D.rs.length oc)/\W.cell? ⟨XB,0,none⟩=some (.int .i64 D.C)):=fun W r=>⟨r.cell 10 _ rfl,r.cell 0 _ rfl⟩
  have HRX:Hid (R≠XB):=hid (fun e=>by have:=hR3;omega)
  have hR4:=rR.lt
  have hE4:=hE.size
  refine wp_region_held_drew (S:=fun w'=>w'.cell? ⟨XB,10,none⟩=some (.slice oa D.rs.length oc)/\w'.cell? ⟨XB,0,none⟩=some (.int .i64 D.C)) (by kernel_rfl) (HK.out _ rX.drew) (fun hHeld=>?_)
  refine TY (i:=0) (v:=.pointer (some ⟨XB,1,none⟩)) rfl hHeld ?_
  simp only [PS]
  refine TY (i:=1) (v:=.pointer (some ⟨XB,10,none⟩)) rfl hHeld ?_
  simp only [PS]
  refine TY (i:=2) (v:=.agg #[.slice oa D.rs.length oc]) rfl hHeld ?_
  simp only [PS]
  refine TY (i:=3) (v:=.pointer (some ⟨XB,0,none⟩)) rfl hHeld ?_
  simp only [PS]
  refine TY (i:=4) (v:=.int .i64 D.C) rfl hHeld ?_
  simp only [PS]
  refine RD (i:=5) rfl (fun Kq hKq=>?_)
  have r0v:=rR.cell 0 _ rfl
  have rR:=rR.drew
  have r0:=rR.cell 0 _ rfl
  have f0:=rR.froz 0 (by simp)
  have rl:=rR.lt
  go_simp
  refine hKq.out _ _ (HK.out _ (rX.drew.other _ (fun e=>HRX.out e) _)) (fun hHd1=>?_)
  clear hKq Kq
  try simp only [PS]
  refine RD (i:=6) rfl (fun Kq hKq=>?_)
  go_simp
  refine hKq.out _ _ hHd1 (fun _=>?_)
  clear hKq Kq
  try simp only [PS]
  refine wpAnyH_done (by kernel_rfl) ?_ _
  go_wp2
  refine bodyPost_ret (v:=.tuple #[.agg #[.slice oa D.rs.length oc],.int .i64 D.C]) (by simp [results,Tryz.results44,go_sem,r0,r0v]) rfl ?_
  exact ⟨oa,oc,rfl,hcap,(ow.below (Below.refl _ _).drew).set' _ (fun g hg hn=>by have:=g1 g (by subst hg;exact blk_pos _ _ _ (prcells_neO hn));have:=hR2;show R≠g;omega) _,fun g hg=>by have:=g1 g hg;have:=hE2;omega,hE.drew.setCell (p:=⟨R,0,none⟩) hR _⟩
def riR (x:Wo):Bool:=decide ((fdR x).2=0) && x.P.any fun p=>decide (p=(fdR x).1)
theorem anyP_no {P:List (List Pr)} {s:List Pr} (h:∀ j,j<P.length->¬ P.getD j []=s):(P.any fun p=>decide (p=s))=false:=by
 rw [List.any_eq_false]
 intro p hp
 obtain ⟨i,hi,rfl⟩:=List.getElem_of_mem hp
 have:=h i hi
 simpa [List.getD,hi] using this
theorem anyP_yes {P:List (List Pr)} {s:List Pr} (j:Nat) (hj:j<P.length) (h:P.getD j []=s):(P.any fun p=>decide (p=s))=true :=
 List.any_eq_true.2 ⟨P.getD j [],by simp [List.getD,hj],by simpa using h⟩
set_option maxHeartbeats 16000000 in
theorem equals_i (a b:Option Addr) (rs ss:List Pr) (c c':Nat) (w:World) (h:Prs w a rs) (h':Prs w b ss) (hl:rs.length<=1048576) (hl':ss.length<=1048576) :
  Calls Tryz.prog 130 #[stV a rs.length c,stV b ss.length c'] w fun e w'=>e=.returned (.bool (decide (rs=ss)))/\Below w.heap.size w w':=by
 have hE:Below w.heap.size w ((w.alloc (.cells #[.slice a rs.length c] 31)).alloc (.cells #[.slice b ss.length c'] 31)):=((Below.refl _ _).alloc (Nat.le_refl _) _).alloc (by simp) _
 have HQ:=hid (equal_i a b rs ss c c' _ (h.below hE) (h'.below hE) hl hl')
 obtain ⟨D,hD⟩:∃ D,D=decide (rs=ss):=⟨_,rfl⟩
 rw [<-hD] at HQ ⊢
 clear hD
 go_enter Tryz.func130,Tryz.ntmps130
 go_wp2_with fail
 refine HQ.out.mono ?_
 rintro e w1 ⟨rfl,hb1⟩
 go_wp2
 go_ret
 exact ⟨rfl,hE.trans (hb1.mono hE.size)⟩
set_option maxHeartbeats 16000000 in
theorem indexf_i (a:Option Addr) (P:List (List Pr)) (c:Nat) (b:Option Addr) (ss:List Pr) (c':Nat) (w:World) (h:Pst w a P) (h':Prs w b ss) (hl:P.length<=1048576) (hl':ss.length<=1048576) (hs:∀ rs∈P,rs.length<=1048576) :
  Calls Tryz.prog 212 #[.slice a P.length c,.func (.func 130) #[stV b ss.length c'] #[]] w fun e w'=>(∃ r:Int,e=.returned (.int .i64 r)/\(P.any fun p=>decide (p=ss))=decide (0<=r))/\Below w.heap.size w w':=by
 go_enter Tryz.func212,Tryz.ntmps212
 go_wp2
 go_loopw [5,8] (fun _ i wr=>∃ k:Nat,k<=P.length/\i=.int .i64 (k:Int)/\Hid (∀ j,j<k->¬ P.getD j []=ss)/\Below w.heap.size w wr) (fun _ i _=>P.length-(intOf i).toNat)
 case atStart=>exact ⟨0,Nat.zero_le _,rfl,fun j hj=>absurd hj (by omega),Below.refl _ _⟩
 case round =>
  obtain ⟨k,hk,rfl,HA,hbel⟩:=hrel
  by_cases hlt:k<P.length
  ·have hk1:(k:Int)<(P.length:Int):=by omega
   obtain ⟨b1,o1,p,cp,rfl,hb1,c1,HPk⟩:=(h.below hbel).at hlt
   have hrl:(P.getD k []).length<=1048576:=hs _ (by simp [List.getD,hlt])
   have HAk:Hid (¬ P.getD k []=ss->∀ j,j<k+1->¬ P.getD j []=ss):=hid (fun hh j hj=>by
    by_cases e:j=k
    ·subst e;exact hh
    ·exact HA.out j (by omega))
   have HYk:Hid (P.getD k []=ss->(P.any fun p=>decide (p=ss))=true):=hid (fun hh=>anyP_yes k hlt hh)
   obtain ⟨rk,hrk⟩:∃ r,r=P.getD k []:=⟨_,rfl⟩
   rw [<-hrk] at c1 HPk hrl HAk HYk
   clear hrk
   go_wp2_with fail
   refine (equals_i b p ss rk c' cp _ (h'.below hbel) HPk.out hl' hrl).mono ?_
   rintro e w2 ⟨rfl,hb2⟩
   have hb3:=hbel.trans (hb2.mono hbel.size)
   by_cases heq:ss=rk
   ·have hd:decide (ss=rk)=true:=decide_eq_true heq
    rw [hd]
    have hany:=HYk.out heq.symm
    clear hd heq HYk HAk
    go_wp2
    go_ret
    exact ⟨⟨(k:Int),rfl,by first | (rw [hany,decide_eq_true (by omega)]) | omega | (simp [hany];done)⟩,hb3⟩
   ·have hd:decide (ss=rk)=false:=decide_eq_false heq
    rw [hd]
    have HN:=hid (HAk.out (fun e=>heq e.symm))
    clear hd heq HYk HAk
    go_wp2
    go_roundw
    case rel=>exact ⟨k+1,by omega,by go_num,HN.out,hb3⟩
    case measure=>simp [intOf];omega
  ·have hk1:¬ (k:Int)<(P.length:Int):=by omega
   have hany:=anyP_no (P:=P) (s:=ss) (fun j hj=>HA.out j (by omega))
   go_wp2
   go_ret
   exact ⟨⟨-1,rfl,by first | (rw [hany,decide_eq_false (by omega)]) | omega | (simp [hany];done)⟩,hbel⟩
set_option maxHeartbeats 16000000 in
theorem containsf_i (a:Option Addr) (P:List (List Pr)) (c:Nat) (b:Option Addr) (ss:List Pr) (c':Nat) (w:World) (h:Pst w a P) (h':Prs w b ss) (hl:P.length<=1048576) (hl':ss.length<=1048576) (hs:∀ rs∈P,rs.length<=1048576) :
  Calls Tryz.prog 129 #[.slice a P.length c,.func (.func 130) #[stV b ss.length c'] #[]] w fun e w'=>e=.returned (.bool (P.any fun p=>decide (p=ss)))/\Below w.heap.size w w':=by
 obtain ⟨B,HB⟩:∃ B,Hid (B=(P.any fun p=>decide (p=ss))):=⟨_,hid rfl⟩
 have HI:=hid (indexf_i a P c b ss c' w h h' hl hl' hs)
 rw [<-HB.out] at HI ⊢
 go_enter Tryz.func129,Tryz.ntmps129
 go_wp2_with fail
 refine HI.out.mono ?_
 rintro e w1 ⟨⟨r,rfl,hr⟩,hb⟩
 go_wp2
 go_ret
 exact ⟨by rw [hr];rfl,hb⟩
theorem riR_code {x:Wo} (h:(fdR x).2≠0):riR x=false:=by unfold riR;rw [decide_eq_false h];rfl
theorem riR_any {x:Wo} (h:(fdR x).2=0):riR x=x.P.any fun p=>decide (p=(fdR x).1):=by unfold riR;rw [decide_eq_true h];simp
set_option maxHeartbeats 16000000 in
theorem right_s (x:Wo) (q:Wp) (w:World) (h:x.at w q) (hm:x.le 1048576) :
  Calls Tryz.prog 40 #[worldW x q] w fun e w'=>e=.returned (.bool (riR x))/\Below w.heap.size w w':=by
 have CF:=hid (fun w' k=>found_s x q w' k hm)
 have hrl:=fdR_len x
 have HC0:Hid ((fdR x).2≠0->riR x=false):=hid riR_code
 have HC1:Hid ((fdR x).2=0->riR x=x.P.any fun p=>decide (p=(fdR x).1)):=hid riR_any
 obtain ⟨R,hR⟩:∃ r,r=riR x:=⟨_,rfl⟩
 obtain ⟨fr,hfr⟩:∃ r,r=fdR x:=⟨_,rfl⟩
 obtain ⟨rs,C⟩:=fr
 rw [<-hR] at HC0 HC1 ⊢
 rw [<-hfr] at CF hrl HC0 HC1
 clear hR hfr
 have hl4:=hm.l4
 have hs4:Hid (∀ rs∈x.P,rs.length<=1048576):=hid (fun rs hrs=>(hm.s4 rs hrs).1)
 unfold worldW at CF ⊢
 have hb1:Below w.heap.size w (w.alloc (.cells #[.int .i64 x.w,.slice q.a x.ss.length q.c,.slice q.a' x.ws.length q.c',.bool x.up,.int .i64 x.W,.int .i64 x.S,.int .i64 x.L,.int .i64 x.T,.int .i64 x.H,.int .i64 x.F,.int .i64 x.R,.int .i64 x.U,.int .i64 x.O,.slice q.s x.rs.length q.cs,.slice q.p x.P.length q.cp,.slice q.t x.ts.length q.ct] 50)):=(Below.refl _ _).alloc (Nat.le_refl _) _
 have rA:=row_new w #[.int .i64 x.w,.slice q.a x.ss.length q.c,.slice q.a' x.ws.length q.c',.bool x.up,.int .i64 x.W,.int .i64 x.S,.int .i64 x.L,.int .i64 x.T,.int .i64 x.H,.int .i64 x.F,.int .i64 x.R,.int .i64 x.U,.int .i64 x.O,.slice q.s x.rs.length q.cs,.slice q.p x.P.length q.cp,.slice q.t x.ts.length q.ct] 50
 go_enter Tryz.func40,Tryz.ntmps40
 go_wp2_with fail
 obtain ⟨BA,e_BA⟩:∃ y,y=w.heap.size:=⟨_,rfl⟩
 obtain ⟨v1,e_v1⟩:∃ y,y=w.alloc (.cells #[.int .i64 x.w,.slice q.a x.ss.length q.c,.slice q.a' x.ws.length q.c',.bool x.up,.int .i64 x.W,.int .i64 x.S,.int .i64 x.L,.int .i64 x.T,.int .i64 x.H,.int .i64 x.F,.int .i64 x.R,.int .i64 x.U,.int .i64 x.O,.slice q.s x.rs.length q.cs,.slice q.p x.P.length q.cp,.slice q.t x.ts.length q.ct] 50):=⟨_,rfl⟩
 rw [<-e_v1] at hb1 rA
 rw [<-e_BA] at rA
 rw [<-e_v1,<-e_BA]
 clear e_v1
 clear e_BA
 refine (CF.out v1 (h.below hb1)).mono ?_
 rintro e w2 ⟨fa,fc,rfl,hfc,ow,-,hb2⟩
 have rA:=rA.below hb2
 have hE:=hb1.trans (hb2.mono hb1.size)
 have h4:=h.h4.below hE
 clear hb1 hb2 h CF hm
 by_cases hC:C=0
 ·subst hC
  have hR:=HC1.out rfl
  clear HC0 HC1
  have rX:=row_new w2 #[.slice fa rs.length fc] 31
  have hb3:Below w2.heap.size w2 (w2.alloc (.cells #[.slice fa rs.length fc] 31)):=(Below.refl _ _).alloc (Nat.le_refl _) _
  go_upto_region 2 with fail
  obtain ⟨XB,e_XB⟩:∃ y,y=w2.heap.size:=⟨_,rfl⟩
  obtain ⟨v3,e_v3⟩:∃ y,y=w2.alloc (.cells #[.slice fa rs.length fc] 31):=⟨_,rfl⟩
  rw [<-e_v3] at rX hb3
  rw [<-e_XB] at rX
  rw [<-e_v3,<-e_XB]
  clear e_v3
  clear e_XB
  have rA:=rA.below hb3
  have hE:=hE.trans (hb3.mono hE.size)
  have pr:=ow.prs.below hb3
  have h4:=h4.below hb3
  clear hb3
  have HY:Hid (∀ k,k<x.P.length->x.P.getD k []=rs->R=true):=hid (fun k hk hh=>by rw [hR];exact anyP_yes k hk hh)
  have HN:Hid ((∀ j,j<x.P.length->¬ x.P.getD j []=rs)->R=false):=hid (fun hh=>by rw [hR];exact anyP_no hh)
  clear hR
  go_wp2
  go_loopw [5] (fun i wr=>∃ k:Nat,k<=x.P.length/\i=.int .i64 (k:Int)/\Hid (∀ j,j<k->¬ x.P.getD j []=rs)/\Below v3.heap.size v3 wr) (fun i _=>x.P.length-(intOf i).toNat)
  case atStart=>exact ⟨0,Nat.zero_le _,rfl,fun j hj=>absurd hj (by omega),Below.refl _ _⟩
  case round =>
   obtain ⟨k,hk,rfl,HA,hbel⟩:=hrel
   have rA:=rA.below hbel
   have rX:=rX.below hbel
   have ra:=rA.cell 14 _ rfl
   have ral:=rA.lt
   by_cases hlt:k<x.P.length
   ·have hk1:(k:Int)<(x.P.length:Int):=by omega
    obtain ⟨b1,o1,p,cp,hqa,hb1,c1,HPk⟩:=(h4.below hbel).at hlt
    rw [hqa] at ra rA
    have hrl2:(x.P.getD k []).length<=1048576:=hs4.out _ (by simp [List.getD,hlt])
    have HAk:Hid (¬ x.P.getD k []=rs->∀ j,j<k+1->¬ x.P.getD j []=rs):=hid (fun hh j hj=>by
     by_cases e:j=k
     ·subst e;exact hh
     ·exact HA.out j (by omega))
    have HYk:=hid (HY.out k hlt)
    obtain ⟨rk,hrk⟩:∃ r,r=x.P.getD k []:=⟨_,rfl⟩
    rw [<-hrk] at c1 HPk hrl2 HAk HYk
    clear hrk
    rw [hqa]
    clear hqa
    go_upto_region 7 with fail
    refine wp_region_held_drew (S:=fun w'=>w'.cell? ⟨BA,14,none⟩=some (.slice (some ⟨b1,o1,none⟩) x.P.length q.cp)/\w'.cell? ⟨b1,o1+k,none⟩=some (.slice p rk.length cp)/\w'.cell? ⟨XB,0,none⟩=some (.slice fa rs.length fc)) (by kernel_rfl) (⟨rA.drew.cell 14 _ rfl,c1,rX.drew.cell 0 _ rfl⟩) (fun hHeld=>?_)
    refine TY (i:=0) (v:=.pointer (some ⟨BA,14,none⟩)) rfl hHeld ?_
    simp only [PS]
    refine TY (i:=1) (v:=.slice (some ⟨b1,o1,none⟩) x.P.length q.cp) rfl hHeld ?_
    simp only [PS]
    refine TY (i:=2) (v:=.int .i64 (k:Int)) rfl hHeld ?_
    simp only [PS]
    refine TY (i:=3) (v:=.pointer (some ⟨b1,o1+k,none⟩)) rfl hHeld ?_
    simp only [PS]
    refine TY (i:=4) (v:=.agg #[.slice p rk.length cp]) rfl hHeld ?_
    simp only [PS]
    refine TY (i:=5) (v:=.agg #[.slice fa rs.length fc]) rfl hHeld ?_
    simp only [PS]
    refine RD (i:=6) rfl (fun Kq hKq=>?_)
    refine step_call (by rfl) 126 #[stV p rk.length cp,stV fa rs.length fc] (by go_simp) (same_s p fa rk rs cp fc _ (HPk.out.below (Below.refl _ _).drew) ((pr.below hbel).below (Below.refl _ _).drew) hrl2 hrl) ?_
    rintro e u1 ⟨rfl,hb5⟩
    refine ⟨_,rfl,?_⟩
    have hb6:=(hbel.trans ((Below.refl wr.heap.size wr).drew.mono hbel.size)).trans (hb5.mono hbel.size)
    refine hKq.out _ _ (⟨(rA.drew.below hb5).cell 14 _ rfl,(hb5.cell (p:=⟨b1,o1+k,none⟩) hb1).trans c1,(rX.drew.below hb5).cell 0 _ rfl⟩) (fun hHd1=>?_)
    clear hKq Kq
    try simp only [PS]
    refine wpAnyH_done (by kernel_rfl) ?_ _
    by_cases heq:rk=rs
    ·have hd:decide (rk=rs)=true:=decide_eq_true heq
     rw [hd]
     have hR:=HYk.out heq
     clear hd heq HYk HAk HN HY
     subst hR
     go_wp2
     go_ret
     exact ⟨rfl,hE.trans (hb6.mono hE.size)⟩
    ·have hd:decide (rk=rs)=false:=decide_eq_false heq
     rw [hd]
     have HNk:=hid (HAk.out heq)
     clear hd heq HYk HAk
     go_wp2
     go_roundw
     case rel=>exact ⟨k+1,by omega,by go_num,HNk.out,hb6⟩
     case measure=>simp [intOf];omega
   ·have hk1:¬ (k:Int)<(x.P.length:Int):=by omega
    have hR:=HN.out (fun j hj=>HA.out j (by omega))
    subst hR
    go_wp2
    go_ret
    exact ⟨rfl,hE.trans (hbel.mono hE.size)⟩
 ·have hR:=HC0.out hC
  clear HC0 HC1
  subst hR
  have hCb:(C == 0)=false:=by simpa using hC
  have hb3:Below w2.heap.size w2 (w2.alloc (.cells #[.slice fa rs.length fc] 31)):=(Below.refl _ _).alloc (Nat.le_refl _) _
  go_wp2
  go_ret
  exact ⟨rfl,hE.trans (hb3.mono hE.size)⟩
set_option maxHeartbeats 16000000 in
theorem right_i (x:Wo) (q:Wp) (w:World) (h:x.at w q) (hc:x.rs.length<=q.cs) (hm:x.le 1048576) (ty:TypeId) (v:Value) (hv:w.cell? ⟨1,0,none⟩=some (.iface ty v)) (h0:w.cell? ⟨0,0,none⟩=some (.iface 332 (.agg #[.pointer (some ⟨3,215,none⟩)]))) (hg:1<w.heap.size) :
  Calls Tryz.prog 42 #[worldW x q] w fun e w'=>e=.returned (.bool (riR x))/\Below w.heap.size w w':=by
 have CF:=hid (fun w' (hb:Below w.heap.size w w') k=>found_i x q w' k hc hm ty v ((hb.cell (p:=⟨1,0,none⟩) hg).trans hv) ((hb.cell (p:=⟨0,0,none⟩) (by show 0<_;omega)).trans h0) (by have:=hb.size;omega))
 clear hv h0 hg
 have hrl:=fdR_len x
 have HC0:Hid ((fdR x).2≠0->riR x=false):=hid riR_code
 have HC1:Hid ((fdR x).2=0->riR x=x.P.any fun p=>decide (p=(fdR x).1)):=hid riR_any
 obtain ⟨R,hR⟩:∃ r,r=riR x:=⟨_,rfl⟩
 obtain ⟨fr,hfr⟩:∃ r,r=fdR x:=⟨_,rfl⟩
 obtain ⟨rs,C⟩:=fr
 rw [<-hR] at HC0 HC1 ⊢
 rw [<-hfr] at CF hrl HC0 HC1
 clear hR hfr
 have hl4:=hm.l4
 have hs4:Hid (∀ rs∈x.P,rs.length<=1048576):=hid (fun rs hrs=>(hm.s4 rs hrs).1)
 unfold worldW at CF ⊢
 have hb1:Below w.heap.size w (w.alloc (.cells #[.int .i64 x.w,.slice q.a x.ss.length q.c,.slice q.a' x.ws.length q.c',.bool x.up,.int .i64 x.W,.int .i64 x.S,.int .i64 x.L,.int .i64 x.T,.int .i64 x.H,.int .i64 x.F,.int .i64 x.R,.int .i64 x.U,.int .i64 x.O,.slice q.s x.rs.length q.cs,.slice q.p x.P.length q.cp,.slice q.t x.ts.length q.ct] 50)):=(Below.refl _ _).alloc (Nat.le_refl _) _
 have rA:=row_new w #[.int .i64 x.w,.slice q.a x.ss.length q.c,.slice q.a' x.ws.length q.c',.bool x.up,.int .i64 x.W,.int .i64 x.S,.int .i64 x.L,.int .i64 x.T,.int .i64 x.H,.int .i64 x.F,.int .i64 x.R,.int .i64 x.U,.int .i64 x.O,.slice q.s x.rs.length q.cs,.slice q.p x.P.length q.cp,.slice q.t x.ts.length q.ct] 50
 go_enter Tryz.func42,Tryz.ntmps42
 go_wp2_with fail
 obtain ⟨BA,e_BA⟩:∃ y,y=w.heap.size:=⟨_,rfl⟩
 obtain ⟨v1,e_v1⟩:∃ y,y=w.alloc (.cells #[.int .i64 x.w,.slice q.a x.ss.length q.c,.slice q.a' x.ws.length q.c',.bool x.up,.int .i64 x.W,.int .i64 x.S,.int .i64 x.L,.int .i64 x.T,.int .i64 x.H,.int .i64 x.F,.int .i64 x.R,.int .i64 x.U,.int .i64 x.O,.slice q.s x.rs.length q.cs,.slice q.p x.P.length q.cp,.slice q.t x.ts.length q.ct] 50):=⟨_,rfl⟩
 rw [<-e_v1] at hb1 rA
 rw [<-e_BA] at rA
 rw [<-e_v1,<-e_BA]
 clear e_v1
 clear e_BA
 refine (CF.out v1 hb1 (h.below hb1)).mono ?_
 rintro e w2 ⟨fa,fc,rfl,hfc,ow,-,hb2⟩
 have rA:=rA.below hb2
 have hE:=hb1.trans (hb2.mono hb1.size)
 have h4:=h.h4.below hE
 clear hb1 hb2 h CF hm
 by_cases hC:C=0
 ·subst hC
  have hR:=HC1.out rfl
  clear HC0 HC1
  have rX:=row_new w2 #[.slice fa rs.length fc] 31
  have hb3:Below w2.heap.size w2 (w2.alloc (.cells #[.slice fa rs.length fc] 31)):=(Below.refl _ _).alloc (Nat.le_refl _) _
  go_upto_region 2 with fail
  obtain ⟨XB,e_XB⟩:∃ y,y=w2.heap.size:=⟨_,rfl⟩
  obtain ⟨v3,e_v3⟩:∃ y,y=w2.alloc (.cells #[.slice fa rs.length fc] 31):=⟨_,rfl⟩
  rw [<-e_v3] at rX hb3
  rw [<-e_XB] at rX
  rw [<-e_v3,<-e_XB]
  clear e_v3
  clear e_XB
  have rA:=rA.below hb3
  have hE:=hE.trans (hb3.mono hE.size)
  have pr:=ow.prs.below hb3
  have h4:=h4.below hb3
  clear hb3
  have HCF:=hid (containsf_i q.p x.P q.cp fa rs fc v3 h4 pr hl4 hrl hs4.out)
  rw [<-hR] at HCF
  clear hR
  have ra:=rA.cell 14 _ rfl
  have ral:=rA.lt
  have rx:=rX.cell 0 _ rfl
  have rxl:=rX.lt
  go_wp2_with fail
  refine HCF.out.mono ?_
  rintro e w4 ⟨rfl,hb4⟩
  go_wp2
  go_ret
  exact ⟨rfl,hE.trans (hb4.mono hE.size)⟩
 ·have hR:=HC0.out hC
  clear HC0 HC1
  subst hR
  have hCb:(C == 0)=false:=by simpa using hC
  have hb3:Below w2.heap.size w2 (w2.alloc (.cells #[.slice fa rs.length fc] 31)):=(Below.refl _ _).alloc (Nat.le_refl _) _
  go_wp2
  go_ret
  exact ⟨rfl,hE.trans (hb3.mono hE.size)⟩
end Go.Proofs.YtnmaknnnmjfhkagGreatDoor
