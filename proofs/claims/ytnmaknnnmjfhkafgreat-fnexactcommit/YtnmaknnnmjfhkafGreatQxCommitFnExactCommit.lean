import Derived.Test.YtnmaknnnmjfhkafGreatRows
import Derived.Test.YtnmaknnnmjfhkafGreatQxCommitCmS
import Derived.Test.YtnmaknnnmjfhkafGreatQxCommitCmI
import Derived.Test.YtnmaknnnmjfhkafGreatMgXCommit49
import Derived.Test.YtnmaknnnmjfhkafGreatMgXCommit48
import Derived.Test.YtnmaknnnmjfhkafGreatQxCommitStE
import Derived.Test.YtnmaknnnmjfhkafGreatQxCommitStO
import Derived.Test.YtnmaknnnmjfhkafGreatMgXCommit50
import Derived.Test.YtnmaknnnmjfhkafGreatQxCommitLed
import Derived.Test.YtnmaknnnmjfhkafGreatMgXCommit24
import Derived.Test.YtnmaknnnmjfhkafGreatMgXCommit51
import Derived.Test.YtnmaknnnmjfhkafGreatQxCommitMkC
import Derived.WalkKit
import Derived.ProofKit
import Derived.OpenShut
import Derived.ShutString
import Derived.ChangeOld
import Derived.ChangeSlices
import Derived.Below
import Derived.Lib.SmallJoins
namespace Go.Proofs.YtnmaknnnmjfhkafGreat.fnExactCommit
open Go.ChangeShapes Go.WideShapes Go.ChangeAt Go.RowKit Go.Joins
open Go.ChangeMaps (open_string shut_string)
set_option linter.unusedVariables false
set_option linter.unusedSimpArgs false
set_option maxRecDepth 8000

theorem own : ownKnob Tryz.prog.godebug = none := by kernel_rfl
theorem laidOut : laidOutB Tryz.prog = true := by kernel_rfl
set_option maxHeartbeats 16000000 in
theorem walk (W S L T H F R U O : Int) (a : Option Addr) (rs : List Pr) (c : Nat) (a2 : Option Addr) (b : List Ch) (c2 : Nat) (w : World) (h : Prs w a rs) (hl : rs.length ≤ maxLen) (hs : ∀ s ∈ rs, s.1.size ≤ maxLen ∧ s.2.size ≤ maxLen) (h2 : Chs w a2 b) (hl2 : b.length ≤ maxLen) (hs2 : ∀ s ∈ b, s.1.size ≤ maxLen ∧ s.2.1.size ≤ maxLen) :
    Calls Tryz.prog 4 #[storeV W S L T H F R U O a rs.length c, .slice a2 b.length c2] w fun e w' => e = .returned (.bool true) ∧ Below w.heap.size w w' := by
  have hb0 : ∀ o, Below w.heap.size w (w.alloc o) := fun o => (Below.refl _ _).alloc (Nat.le_refl _) _
  have hbd := szL_bd (rs.length :: rs.flatMap prsz) 1048576 (by omega)
  obtain ⟨R1, HR⟩ : ∃ R1, Hid (R1 = szL (rs.length :: rs.flatMap prsz) 1048576) := ⟨_, hid rfl⟩
  rw [← HR.out] at hbd
  have HSZ := hid (fun w' h' => sz_store W S L T H F R U O a rs c w' h' 1048576 (by omega) (by omega) hl hs)
  unfold storeV at HSZ ⊢
  rw [← HR.out] at HSZ
  by_cases hR : R1 < 0
  · clear hbd
    go_enter Tryz.func4, Tryz.ntmps4
    go_wp2_with (go_at_call 5; refine (HSZ.out _ (h.below (hb0 _))).mono ?_; rintro e w1 ⟨rfl, hb1⟩)
    go_ret
    exact ⟨rfl, (hb0 _).trans (hb1.mono (by simp))⟩
  have hmem := szL_mem (rs.length :: rs.flatMap prsz) 1048576 (by omega) (by rw [← HR.out]; omega)
  have m1 : rs.length ≤ 1048576 := by have := hmem rs.length (by simp); omega
  have M3 : Hid (∀ x ∈ rs, x.1.size ≤ 1048576 ∧ x.2.size ≤ 1048576) := fun x hx => by
    have h1 := hmem x.1.size (List.mem_cons_of_mem _ (List.mem_flatMap.2 ⟨x, hx, by simp [prsz]⟩))
    have h2 := hmem x.2.size (List.mem_cons_of_mem _ (List.mem_flatMap.2 ⟨x, hx, by simp [prsz]⟩))
    omega
  have hR0 : 0 ≤ R1 := by omega
  have hbd2 := szL_bd (b.length :: b.flatMap chsz) R1 hR0
  obtain ⟨R2, HR2⟩ : ∃ R2, Hid (R2 = szL (b.length :: b.flatMap chsz) R1) := ⟨_, hid rfl⟩
  rw [← HR2.out] at hbd2
  have HSZ2 := hid (fun w' h' => sz_chs a2 b c2 R1 w' h' hR0 (by omega) hl2 hs2)
  rw [← HR2.out] at HSZ2
  by_cases hR2 : R2 < 0
  · have hRn : ¬ R1 < 0 := hR
    clear hbd hbd2 hmem hR
    go_enter Tryz.func4, Tryz.ntmps4
    go_wp2_with (first | (go_at_call 5; refine (HSZ.out _ (h.below (hb0 _))).mono ?_; rintro e w1 ⟨rfl, hb1⟩; have HB1 := hid ((hb0 _).trans (hb1.mono (by simp))); clear hb1) | (go_at_call 14; refine (HSZ2.out _ (h2.below HB1.out)).mono ?_; rintro e w2 ⟨rfl, hb2⟩))
    go_ret
    exact ⟨rfl, HB1.out.trans (hb2.mono HB1.out.size)⟩
  · have hmem2 := szL_mem (b.length :: b.flatMap chsz) R1 hR0 (by rw [← HR2.out]; omega)
    have m2 : b.length ≤ 1048576 := by have := hmem2 b.length (by simp); omega
    have M4 : Hid (∀ x ∈ b, x.1.size ≤ 1048576 ∧ x.2.1.size ≤ 1048576) := fun x hx => by
      have h1 := hmem2 x.1.size (List.mem_cons_of_mem _ (List.mem_flatMap.2 ⟨x, hx, by simp [chsz]⟩))
      have h2 := hmem2 x.2.1.size (List.mem_cons_of_mem _ (List.mem_flatMap.2 ⟨x, hx, by simp [chsz]⟩))
      omega
    have hRn : ¬ R1 < 0 := hR
    have hR20 : 0 ≤ R2 := by omega
    have HTO := hid (fun w' h' => to_store W S L T H F R U O a rs c w' h' m1)
    have HTC := hid (fun w' h' => to_chs a2 b c2 w' h' m2)
    obtain ⟨D, HD⟩ : ∃ D, Hid (D = commitD W S L T H F R U O rs b) := ⟨_, hid rfl⟩
    have hdb := commitD_bound W S L T H F R U O rs b
    have HSP := hid (fun g1 g2 w' h' h2' => commit_s W S L T H F R U O (some ⟨g1, 0, none⟩) rs rs.length (some ⟨g2, 0, none⟩) b b.length w' h' m1 M3.out h2' m2 M4.out)
    have HIM := hid (fun g1 g2 w' h' h2' => commit_i W S L T H F R U O (some ⟨g1, 0, none⟩) rs rs.length (some ⟨g2, 0, none⟩) b b.length w' h' (Nat.le_refl _) m1 M3.out h2' m2 M4.out)
    rw [← HD.out] at HSP HIM hdb
    have HEQ := hid (fun a1 c1 b1 e1 a2 c2 b2 e2 w' h1 h2 h3 h4 => eq_done D a1 c1 b1 e1 a2 c2 b2 e2 w' h1 h2 h3 h4 hdb.1 (by omega))
    have HMD := hid (fun a1 c1 b1 e1 w' h1 => mark_done D a1 c1 b1 e1 1 w' h1 (by omega) (by omega))
    have HHD := hid (fun a1 c1 b1 e1 w' h1 h2 => held_done D a1 c1 b1 e1 1 w' h1 h2 (by omega) (by omega))
    have HEX := hid (fun a1 c1 a2 c2 w' h1 h2 => eq_store W S L T H F R U O a1 a2 rs c1 c2 w' h1 h2 m1)
    have HEC := hid (fun a1 c1 a2 c2 w' h1 h2 => eq_chs a1 a2 b c1 c2 w' h1 h2 m2)
    have HMX := hid (fun a1 c1 w' h1 => mark_store W S L T H F R U O a1 rs c1 1 w' h1 (by omega) (by omega))
    have HMC := hid (fun a1 c1 w' h1 => mark_chs a1 b c1 (1 + 2 * rs.length) w' h1 (by omega) (by omega))
    clear HD
    obtain ⟨C0, W0, S0, L0, T0, H0, F0, R0, U0, O0, ds, os⟩ := D
    unfold storeV at HTO HSP HIM HEX HMX
    unfold dnV at HEQ HMD HHD
    unfold DnPost dnV at HSP HIM
    simp only at HEQ HMD HHD HSP HIM hdb
    have hk0 : (0 : Int) ≤ ((1 + 2 * rs.length : Nat) : Int) := by omega
    have hk1 : (0 : Int) ≤ ((1 + 2 * rs.length + 3 * b.length : Nat) : Int) := by omega
    have hk2 : (0 : Int) ≤ ((1 + 2 * ds.length + 3 * os.length : Nat) : Int) := by omega
    obtain ⟨k1, HK1⟩ : ∃ k1 : Nat, Hid (k1 = 1 + 2 * rs.length) := ⟨_, hid rfl⟩
    obtain ⟨k2, HK2⟩ : ∃ k2 : Nat, Hid (k2 = 1 + 2 * rs.length + 3 * b.length) := ⟨_, hid rfl⟩
    obtain ⟨k3, HK3⟩ : ∃ k3 : Nat, Hid (k3 = 1 + 2 * ds.length + 3 * os.length) := ⟨_, hid rfl⟩
    rw [← HK2.out] at HMC hk1
    rw [← HK1.out] at HMX HMC hk0
    rw [← HK3.out] at HMD HHD hk2
    clear hmem hmem2 hbd hbd2 hR hR2 hl hs hl2 hs2
    go_enter Tryz.func4, Tryz.ntmps4
    go_wp2_with fail
    have hE : Below w.heap.size w w := Below.refl _ _
    obtain ⟨v1, e_v1⟩ : ∃ x, x = w.alloc (.cells #[.int .i64 W, .int .i64 S, .int .i64 L, .int .i64 T, .int .i64 H, .int .i64 F, .int .i64 R, .int .i64 U, .int .i64 O, .slice a rs.length c] 28) := ⟨_, rfl⟩
    have hb : Below w.heap.size w v1 := by rw [e_v1]; exact (Below.refl _ _).alloc (Nat.le_refl _) _
    have bA : Dep v1 w.heap.size (w.heap.size + 1) (fun Wd => Row Wd w.heap.size [.int .i64 W, .int .i64 S, .int .i64 L, .int .i64 T, .int .i64 H, .int .i64 F, .int .i64 R, .int .i64 U, .int .i64 O, .slice a rs.length c]) := by rw [e_v1]; exact dep_box _ _ _
    have s_v1 : w.heap.size + 1 ≤ v1.heap.size := by rw [e_v1]; simp
    rw [← e_v1]
    clear e_v1
    have n_hE := hE.trans (hb.mono hE.size)
    clear hE
    have hE := n_hE
    clear n_hE
    clear hb
    refine (HSZ.out _ (h.below hE)).mono ?_
    rintro e v2 ⟨rfl, hb⟩
    have s_v2 : v1.heap.size ≤ v2.heap.size := hb.size
    have n_bA := bA.below hb
    clear bA
    have bA := n_bA
    clear n_bA
    have n_hE := hE.trans (hb.mono hE.size)
    clear hE
    have hE := n_hE
    clear n_hE
    clear hb
    have q_bA_0 := bA.now.cell 0 _ rfl
    have q_bA_1 := bA.now.cell 1 _ rfl
    have q_bA_2 := bA.now.cell 2 _ rfl
    have q_bA_3 := bA.now.cell 3 _ rfl
    have q_bA_4 := bA.now.cell 4 _ rfl
    have q_bA_5 := bA.now.cell 5 _ rfl
    have q_bA_6 := bA.now.cell 6 _ rfl
    have q_bA_7 := bA.now.cell 7 _ rfl
    have q_bA_8 := bA.now.cell 8 _ rfl
    have q_bA_9 := bA.now.cell 9 _ rfl
    have q_bA_l := bA.now.lt
    go_wp2_with fail
    clear q_bA_0 q_bA_1 q_bA_2 q_bA_3 q_bA_4 q_bA_5 q_bA_6 q_bA_7 q_bA_8 q_bA_9 q_bA_l
    refine (HSZ2.out _ (h2.below hE)).mono ?_
    rintro e v3 ⟨rfl, hb⟩
    have s_v3 : v2.heap.size ≤ v3.heap.size := hb.size
    have n_bA := bA.below hb
    clear bA
    have bA := n_bA
    clear n_bA
    have n_hE := hE.trans (hb.mono hE.size)
    clear hE
    have hE := n_hE
    clear n_hE
    clear hb
    have q_bA_0 := bA.now.cell 0 _ rfl
    have q_bA_1 := bA.now.cell 1 _ rfl
    have q_bA_2 := bA.now.cell 2 _ rfl
    have q_bA_3 := bA.now.cell 3 _ rfl
    have q_bA_4 := bA.now.cell 4 _ rfl
    have q_bA_5 := bA.now.cell 5 _ rfl
    have q_bA_6 := bA.now.cell 6 _ rfl
    have q_bA_7 := bA.now.cell 7 _ rfl
    have q_bA_8 := bA.now.cell 8 _ rfl
    have q_bA_9 := bA.now.cell 9 _ rfl
    have q_bA_l := bA.now.lt
    go_wp2_with fail
    clear q_bA_0 q_bA_1 q_bA_2 q_bA_3 q_bA_4 q_bA_5 q_bA_6 q_bA_7 q_bA_8 q_bA_9 q_bA_l
    refine (HTO.out _ (h.below hE)).mono ?_
    rintro e v4 ⟨g_t1, rfl, hg_t1, hr_t1, hb⟩
    have s_v4 : v3.heap.size ≤ v4.heap.size := hb.size
    have n_bA := bA.below hb
    clear bA
    have bA := n_bA
    clear n_bA
    have n_hE := hE.trans (hb.mono hE.size)
    clear hE
    have hE := n_hE
    clear n_hE
    have t1 : Dep v4 v3.heap.size v4.heap.size (fun Wd => Row Wd g_t1 (prcells rs)) := dep_row hr_t1 hg_t1 hr_t1.lt (Nat.le_refl _)
    have gl_t1 := hr_t1.lt
    clear hr_t1
    clear hb
    go_wp2_with fail
    refine (HTC.out _ (h2.below hE)).mono ?_
    rintro e v5 ⟨g_t2, rfl, hg_t2, hr_t2, hb⟩
    have s_v5 : v4.heap.size ≤ v5.heap.size := hb.size
    have n_bA := bA.below hb
    clear bA
    have bA := n_bA
    clear n_bA
    have n_t1 := t1.below hb
    clear t1
    have t1 := n_t1
    clear n_t1
    have n_hE := hE.trans (hb.mono hE.size)
    clear hE
    have hE := n_hE
    clear n_hE
    have t2 : Dep v5 v4.heap.size v5.heap.size (fun Wd => Row Wd g_t2 (chcells b)) := dep_row hr_t2 hg_t2 hr_t2.lt (Nat.le_refl _)
    have gl_t2 := hr_t2.lt
    clear hr_t2
    clear hb
    go_wp2_with fail
    refine (HSP.out _ _ _ t1.now.prs t2.now.chs).mono ?_
    rintro e v6 ⟨a_zd, c_zd, b_zd, e_zd, rfl, hc_zd, ho, hg, hg2, hb⟩
    have s_v6 : v5.heap.size ≤ v6.heap.size := hb.size
    have n_bA := bA.below hb
    clear bA
    have bA := n_bA
    clear n_bA
    have n_t1 := t1.below hb
    clear t1
    have t1 := n_t1
    clear n_t1
    have n_t2 := t2.below hb
    clear t2
    have t2 := n_t2
    clear n_t2
    have n_hE := hE.trans (hb.mono hE.size)
    clear hE
    have hE := n_hE
    clear n_hE
    have zds : Dep v6 v5.heap.size v6.heap.size (fun Wd => OwnS Wd a_zd (prcells ds)) := dep_own ho.s ne_of_prcells hg
    have zdo : Dep v6 v5.heap.size v6.heap.size (fun Wd => OwnS Wd b_zd (opcells os)) := dep_own ho.p ne_of_opcells hg2
    have ne_zd := ho.ne
    have lo_zd : ∀ g, blk a_zd ds.length = some g → v5.heap.size ≤ g ∧ g < v6.heap.size := fun g hg' => ⟨hg g hg', ho.s.lt _ prcells_ne g hg'⟩
    have lp_zd : ∀ g, blk b_zd os.length = some g → v5.heap.size ≤ g ∧ g < v6.heap.size := fun g hg' => ⟨hg2 g hg', ho.p.lt _ opcells_ne g hg'⟩
    clear ho hg hg2
    clear hb
    clear t1
    clear t2
    have q_bA_0 := bA.now.cell 0 _ rfl
    have q_bA_1 := bA.now.cell 1 _ rfl
    have q_bA_2 := bA.now.cell 2 _ rfl
    have q_bA_3 := bA.now.cell 3 _ rfl
    have q_bA_4 := bA.now.cell 4 _ rfl
    have q_bA_5 := bA.now.cell 5 _ rfl
    have q_bA_6 := bA.now.cell 6 _ rfl
    have q_bA_7 := bA.now.cell 7 _ rfl
    have q_bA_8 := bA.now.cell 8 _ rfl
    have q_bA_9 := bA.now.cell 9 _ rfl
    have q_bA_l := bA.now.lt
    go_wp2_with fail
    clear q_bA_0 q_bA_1 q_bA_2 q_bA_3 q_bA_4 q_bA_5 q_bA_6 q_bA_7 q_bA_8 q_bA_9 q_bA_l
    obtain ⟨v7, e_v7⟩ : ∃ x, x = v6.alloc (.cells #[.int .i64 C0, .int .i64 W0, .int .i64 S0, .int .i64 L0, .int .i64 T0, .int .i64 H0, .int .i64 F0, .int .i64 R0, .int .i64 U0, .int .i64 O0, .slice a_zd ds.length c_zd, .slice b_zd os.length e_zd] 38) := ⟨_, rfl⟩
    have hb : Below v6.heap.size v6 v7 := by rw [e_v7]; exact (Below.refl _ _).alloc (Nat.le_refl _) _
    have bZ : Dep v7 v6.heap.size (v6.heap.size + 1) (fun Wd => Row Wd v6.heap.size [.int .i64 C0, .int .i64 W0, .int .i64 S0, .int .i64 L0, .int .i64 T0, .int .i64 H0, .int .i64 F0, .int .i64 R0, .int .i64 U0, .int .i64 O0, .slice a_zd ds.length c_zd, .slice b_zd os.length e_zd]) := by rw [e_v7]; exact dep_box _ _ _
    have s_v7 : v6.heap.size + 1 ≤ v7.heap.size := by rw [e_v7]; simp
    rw [← e_v7]
    clear e_v7
    have n_bA := bA.below hb
    clear bA
    have bA := n_bA
    clear n_bA
    have n_zds := zds.below hb
    clear zds
    have zds := n_zds
    clear n_zds
    have n_zdo := zdo.below hb
    clear zdo
    have zdo := n_zdo
    clear n_zdo
    have n_hE := hE.trans (hb.mono hE.size)
    clear hE
    have hE := n_hE
    clear n_hE
    clear hb
    refine (HTO.out _ (h.below hE)).mono ?_
    rintro e v8 ⟨g_xd, rfl, hg_xd, hr_xd, hb⟩
    have s_v8 : v7.heap.size ≤ v8.heap.size := hb.size
    have n_bA := bA.below hb
    clear bA
    have bA := n_bA
    clear n_bA
    have n_zds := zds.below hb
    clear zds
    have zds := n_zds
    clear n_zds
    have n_zdo := zdo.below hb
    clear zdo
    have zdo := n_zdo
    clear n_zdo
    have n_bZ := bZ.below hb
    clear bZ
    have bZ := n_bZ
    clear n_bZ
    have n_hE := hE.trans (hb.mono hE.size)
    clear hE
    have hE := n_hE
    clear n_hE
    have xd : Dep v8 v7.heap.size v8.heap.size (fun Wd => Row Wd g_xd (prcells rs)) := dep_row hr_xd hg_xd hr_xd.lt (Nat.le_refl _)
    have gl_xd := hr_xd.lt
    clear hr_xd
    clear hb
    go_wp2_with fail
    obtain ⟨v9, e_v9⟩ : ∃ x, x = v8.alloc (.cells #[.int .i64 W, .int .i64 S, .int .i64 L, .int .i64 T, .int .i64 H, .int .i64 F, .int .i64 R, .int .i64 U, .int .i64 O, .slice (some ⟨g_xd, 0, none⟩) rs.length rs.length] 35) := ⟨_, rfl⟩
    have hb : Below v8.heap.size v8 v9 := by rw [e_v9]; exact (Below.refl _ _).alloc (Nat.le_refl _) _
    have bX : Dep v9 v8.heap.size (v8.heap.size + 1) (fun Wd => Row Wd v8.heap.size [.int .i64 W, .int .i64 S, .int .i64 L, .int .i64 T, .int .i64 H, .int .i64 F, .int .i64 R, .int .i64 U, .int .i64 O, .slice (some ⟨g_xd, 0, none⟩) rs.length rs.length]) := by rw [e_v9]; exact dep_box _ _ _
    have s_v9 : v8.heap.size + 1 ≤ v9.heap.size := by rw [e_v9]; simp
    rw [← e_v9]
    clear e_v9
    have n_bA := bA.below hb
    clear bA
    have bA := n_bA
    clear n_bA
    have n_zds := zds.below hb
    clear zds
    have zds := n_zds
    clear n_zds
    have n_zdo := zdo.below hb
    clear zdo
    have zdo := n_zdo
    clear n_zdo
    have n_bZ := bZ.below hb
    clear bZ
    have bZ := n_bZ
    clear n_bZ
    have n_xd := xd.below hb
    clear xd
    have xd := n_xd
    clear n_xd
    have n_hE := hE.trans (hb.mono hE.size)
    clear hE
    have hE := n_hE
    clear n_hE
    clear hb
    refine (HTC.out _ (h2.below hE)).mono ?_
    rintro e v10 ⟨g_yd, rfl, hg_yd, hr_yd, hb⟩
    have s_v10 : v9.heap.size ≤ v10.heap.size := hb.size
    have n_bA := bA.below hb
    clear bA
    have bA := n_bA
    clear n_bA
    have n_zds := zds.below hb
    clear zds
    have zds := n_zds
    clear n_zds
    have n_zdo := zdo.below hb
    clear zdo
    have zdo := n_zdo
    clear n_zdo
    have n_bZ := bZ.below hb
    clear bZ
    have bZ := n_bZ
    clear n_bZ
    have n_xd := xd.below hb
    clear xd
    have xd := n_xd
    clear n_xd
    have n_bX := bX.below hb
    clear bX
    have bX := n_bX
    clear n_bX
    have n_hE := hE.trans (hb.mono hE.size)
    clear hE
    have hE := n_hE
    clear n_hE
    have yd : Dep v10 v9.heap.size v10.heap.size (fun Wd => Row Wd g_yd (chcells b)) := dep_row hr_yd hg_yd hr_yd.lt (Nat.le_refl _)
    have gl_yd := hr_yd.lt
    clear hr_yd
    clear hb
    have q_bX_0 := bX.now.cell 0 _ rfl
    have q_bX_1 := bX.now.cell 1 _ rfl
    have q_bX_2 := bX.now.cell 2 _ rfl
    have q_bX_3 := bX.now.cell 3 _ rfl
    have q_bX_4 := bX.now.cell 4 _ rfl
    have q_bX_5 := bX.now.cell 5 _ rfl
    have q_bX_6 := bX.now.cell 6 _ rfl
    have q_bX_7 := bX.now.cell 7 _ rfl
    have q_bX_8 := bX.now.cell 8 _ rfl
    have q_bX_9 := bX.now.cell 9 _ rfl
    have q_bX_l := bX.now.lt
    go_wp2_with fail
    clear q_bX_0 q_bX_1 q_bX_2 q_bX_3 q_bX_4 q_bX_5 q_bX_6 q_bX_7 q_bX_8 q_bX_9 q_bX_l
    refine (HIM.out _ _ _ xd.now.prs yd.now.chs).mono ?_
    rintro e v11 ⟨a_gd, c_gd, b_gd, e_gd, rfl, hc_gd, ho, hg, hg2, hb⟩
    have s_v11 : v10.heap.size ≤ v11.heap.size := hb.size
    have n_bA := bA.below hb
    clear bA
    have bA := n_bA
    clear n_bA
    have n_zds := zds.below hb
    clear zds
    have zds := n_zds
    clear n_zds
    have n_zdo := zdo.below hb
    clear zdo
    have zdo := n_zdo
    clear n_zdo
    have n_bZ := bZ.below hb
    clear bZ
    have bZ := n_bZ
    clear n_bZ
    have n_xd := xd.below hb
    clear xd
    have xd := n_xd
    clear n_xd
    have n_bX := bX.below hb
    clear bX
    have bX := n_bX
    clear n_bX
    have n_yd := yd.below hb
    clear yd
    have yd := n_yd
    clear n_yd
    have n_hE := hE.trans (hb.mono hE.size)
    clear hE
    have hE := n_hE
    clear n_hE
    have gds : Dep v11 v10.heap.size v11.heap.size (fun Wd => OwnS Wd a_gd (prcells ds)) := dep_own ho.s ne_of_prcells hg
    have gdo : Dep v11 v10.heap.size v11.heap.size (fun Wd => OwnS Wd b_gd (opcells os)) := dep_own ho.p ne_of_opcells hg2
    have ne_gd := ho.ne
    have lo_gd : ∀ g, blk a_gd ds.length = some g → v10.heap.size ≤ g ∧ g < v11.heap.size := fun g hg' => ⟨hg g hg', ho.s.lt _ prcells_ne g hg'⟩
    have lp_gd : ∀ g, blk b_gd os.length = some g → v10.heap.size ≤ g ∧ g < v11.heap.size := fun g hg' => ⟨hg2 g hg', ho.p.lt _ opcells_ne g hg'⟩
    clear ho hg hg2
    clear hb
    have q_bZ_0 := bZ.now.cell 0 _ rfl
    have q_bZ_1 := bZ.now.cell 1 _ rfl
    have q_bZ_2 := bZ.now.cell 2 _ rfl
    have q_bZ_3 := bZ.now.cell 3 _ rfl
    have q_bZ_4 := bZ.now.cell 4 _ rfl
    have q_bZ_5 := bZ.now.cell 5 _ rfl
    have q_bZ_6 := bZ.now.cell 6 _ rfl
    have q_bZ_7 := bZ.now.cell 7 _ rfl
    have q_bZ_8 := bZ.now.cell 8 _ rfl
    have q_bZ_9 := bZ.now.cell 9 _ rfl
    have q_bZ_10 := bZ.now.cell 10 _ rfl
    have q_bZ_11 := bZ.now.cell 11 _ rfl
    have q_bZ_l := bZ.now.lt
    go_wp2_with fail
    clear q_bZ_0 q_bZ_1 q_bZ_2 q_bZ_3 q_bZ_4 q_bZ_5 q_bZ_6 q_bZ_7 q_bZ_8 q_bZ_9 q_bZ_10 q_bZ_11 q_bZ_l
    obtain ⟨v12, e_v12⟩ : ∃ x, x = v11.alloc (.cells #[.int .i64 C0, .int .i64 W0, .int .i64 S0, .int .i64 L0, .int .i64 T0, .int .i64 H0, .int .i64 F0, .int .i64 R0, .int .i64 U0, .int .i64 O0, .slice a_gd ds.length c_gd, .slice b_gd os.length e_gd] 38) := ⟨_, rfl⟩
    have hb : Below v11.heap.size v11 v12 := by rw [e_v12]; exact (Below.refl _ _).alloc (Nat.le_refl _) _
    have bG : Dep v12 v11.heap.size (v11.heap.size + 1) (fun Wd => Row Wd v11.heap.size [.int .i64 C0, .int .i64 W0, .int .i64 S0, .int .i64 L0, .int .i64 T0, .int .i64 H0, .int .i64 F0, .int .i64 R0, .int .i64 U0, .int .i64 O0, .slice a_gd ds.length c_gd, .slice b_gd os.length e_gd]) := by rw [e_v12]; exact dep_box _ _ _
    have s_v12 : v11.heap.size + 1 ≤ v12.heap.size := by rw [e_v12]; simp
    rw [← e_v12]
    clear e_v12
    have n_bA := bA.below hb
    clear bA
    have bA := n_bA
    clear n_bA
    have n_zds := zds.below hb
    clear zds
    have zds := n_zds
    clear n_zds
    have n_zdo := zdo.below hb
    clear zdo
    have zdo := n_zdo
    clear n_zdo
    have n_bZ := bZ.below hb
    clear bZ
    have bZ := n_bZ
    clear n_bZ
    have n_xd := xd.below hb
    clear xd
    have xd := n_xd
    clear n_xd
    have n_bX := bX.below hb
    clear bX
    have bX := n_bX
    clear n_bX
    have n_yd := yd.below hb
    clear yd
    have yd := n_yd
    clear n_yd
    have n_gds := gds.below hb
    clear gds
    have gds := n_gds
    clear n_gds
    have n_gdo := gdo.below hb
    clear gdo
    have gdo := n_gdo
    clear n_gdo
    have n_hE := hE.trans (hb.mono hE.size)
    clear hE
    have hE := n_hE
    clear n_hE
    clear hb
    refine (HEQ.out _ _ _ _ _ _ _ _ _ gds.now.prs gdo.now.ops zds.now.prs zdo.now.ops).mono ?_
    rintro e v13 ⟨rfl, hb⟩
    have s_v13 : v12.heap.size ≤ v13.heap.size := hb.size
    have n_bA := bA.below hb
    clear bA
    have bA := n_bA
    clear n_bA
    have n_zds := zds.below hb
    clear zds
    have zds := n_zds
    clear n_zds
    have n_zdo := zdo.below hb
    clear zdo
    have zdo := n_zdo
    clear n_zdo
    have n_bZ := bZ.below hb
    clear bZ
    have bZ := n_bZ
    clear n_bZ
    have n_xd := xd.below hb
    clear xd
    have xd := n_xd
    clear n_xd
    have n_bX := bX.below hb
    clear bX
    have bX := n_bX
    clear n_bX
    have n_yd := yd.below hb
    clear yd
    have yd := n_yd
    clear n_yd
    have n_gds := gds.below hb
    clear gds
    have gds := n_gds
    clear n_gds
    have n_gdo := gdo.below hb
    clear gdo
    have gdo := n_gdo
    clear n_gdo
    have n_bG := bG.below hb
    clear bG
    have bG := n_bG
    clear n_bG
    have n_hE := hE.trans (hb.mono hE.size)
    clear hE
    have hE := n_hE
    clear n_hE
    clear hb
    have q_bA_0 := bA.now.cell 0 _ rfl
    have q_bA_1 := bA.now.cell 1 _ rfl
    have q_bA_2 := bA.now.cell 2 _ rfl
    have q_bA_3 := bA.now.cell 3 _ rfl
    have q_bA_4 := bA.now.cell 4 _ rfl
    have q_bA_5 := bA.now.cell 5 _ rfl
    have q_bA_6 := bA.now.cell 6 _ rfl
    have q_bA_7 := bA.now.cell 7 _ rfl
    have q_bA_8 := bA.now.cell 8 _ rfl
    have q_bA_9 := bA.now.cell 9 _ rfl
    have q_bA_l := bA.now.lt
    have q_bX_0 := bX.now.cell 0 _ rfl
    have q_bX_1 := bX.now.cell 1 _ rfl
    have q_bX_2 := bX.now.cell 2 _ rfl
    have q_bX_3 := bX.now.cell 3 _ rfl
    have q_bX_4 := bX.now.cell 4 _ rfl
    have q_bX_5 := bX.now.cell 5 _ rfl
    have q_bX_6 := bX.now.cell 6 _ rfl
    have q_bX_7 := bX.now.cell 7 _ rfl
    have q_bX_8 := bX.now.cell 8 _ rfl
    have q_bX_9 := bX.now.cell 9 _ rfl
    have q_bX_l := bX.now.lt
    go_wp2_with fail
    clear q_bA_0 q_bA_1 q_bA_2 q_bA_3 q_bA_4 q_bA_5 q_bA_6 q_bA_7 q_bA_8 q_bA_9 q_bA_l q_bX_0 q_bX_1 q_bX_2 q_bX_3 q_bX_4 q_bX_5 q_bX_6 q_bX_7 q_bX_8 q_bX_9 q_bX_l
    have HK : Hid (∀ W', Below v13.heap.size v13 W' → W'.cell? ⟨w.heap.size, 0, none⟩ = some (.int .i64 W) ∧ W'.cell? ⟨w.heap.size, 1, none⟩ = some (.int .i64 S) ∧ W'.cell? ⟨w.heap.size, 2, none⟩ = some (.int .i64 L) ∧ W'.cell? ⟨w.heap.size, 3, none⟩ = some (.int .i64 T) ∧ W'.cell? ⟨w.heap.size, 4, none⟩ = some (.int .i64 H) ∧ W'.cell? ⟨w.heap.size, 5, none⟩ = some (.int .i64 F) ∧ W'.cell? ⟨w.heap.size, 6, none⟩ = some (.int .i64 R) ∧ W'.cell? ⟨w.heap.size, 7, none⟩ = some (.int .i64 U) ∧ W'.cell? ⟨w.heap.size, 8, none⟩ = some (.int .i64 O) ∧ W'.cell? ⟨w.heap.size, 9, none⟩ = some (.slice a rs.length c) ∧ W'.cell? ⟨v8.heap.size, 0, none⟩ = some (.int .i64 W) ∧ W'.cell? ⟨v8.heap.size, 1, none⟩ = some (.int .i64 S) ∧ W'.cell? ⟨v8.heap.size, 2, none⟩ = some (.int .i64 L) ∧ W'.cell? ⟨v8.heap.size, 3, none⟩ = some (.int .i64 T) ∧ W'.cell? ⟨v8.heap.size, 4, none⟩ = some (.int .i64 H) ∧ W'.cell? ⟨v8.heap.size, 5, none⟩ = some (.int .i64 F) ∧ W'.cell? ⟨v8.heap.size, 6, none⟩ = some (.int .i64 R) ∧ W'.cell? ⟨v8.heap.size, 7, none⟩ = some (.int .i64 U) ∧ W'.cell? ⟨v8.heap.size, 8, none⟩ = some (.int .i64 O) ∧ W'.cell? ⟨v8.heap.size, 9, none⟩ = some (.slice (some ⟨g_xd, 0, none⟩) rs.length rs.length)) := fun W' hb => ⟨(bA.below hb).now.cell 0 _ rfl, (bA.below hb).now.cell 1 _ rfl, (bA.below hb).now.cell 2 _ rfl, (bA.below hb).now.cell 3 _ rfl, (bA.below hb).now.cell 4 _ rfl, (bA.below hb).now.cell 5 _ rfl, (bA.below hb).now.cell 6 _ rfl, (bA.below hb).now.cell 7 _ rfl, (bA.below hb).now.cell 8 _ rfl, (bA.below hb).now.cell 9 _ rfl, (bX.below hb).now.cell 0 _ rfl, (bX.below hb).now.cell 1 _ rfl, (bX.below hb).now.cell 2 _ rfl, (bX.below hb).now.cell 3 _ rfl, (bX.below hb).now.cell 4 _ rfl, (bX.below hb).now.cell 5 _ rfl, (bX.below hb).now.cell 6 _ rfl, (bX.below hb).now.cell 7 _ rfl, (bX.below hb).now.cell 8 _ rfl, (bX.below hb).now.cell 9 _ rfl⟩
    refine wp_region_held_drew (S := fun w' => w'.cell? ⟨w.heap.size, 0, none⟩ = some (.int .i64 W) ∧ w'.cell? ⟨w.heap.size, 1, none⟩ = some (.int .i64 S) ∧ w'.cell? ⟨w.heap.size, 2, none⟩ = some (.int .i64 L) ∧ w'.cell? ⟨w.heap.size, 3, none⟩ = some (.int .i64 T) ∧ w'.cell? ⟨w.heap.size, 4, none⟩ = some (.int .i64 H) ∧ w'.cell? ⟨w.heap.size, 5, none⟩ = some (.int .i64 F) ∧ w'.cell? ⟨w.heap.size, 6, none⟩ = some (.int .i64 R) ∧ w'.cell? ⟨w.heap.size, 7, none⟩ = some (.int .i64 U) ∧ w'.cell? ⟨w.heap.size, 8, none⟩ = some (.int .i64 O) ∧ w'.cell? ⟨w.heap.size, 9, none⟩ = some (.slice a rs.length c) ∧ w'.cell? ⟨v8.heap.size, 0, none⟩ = some (.int .i64 W) ∧ w'.cell? ⟨v8.heap.size, 1, none⟩ = some (.int .i64 S) ∧ w'.cell? ⟨v8.heap.size, 2, none⟩ = some (.int .i64 L) ∧ w'.cell? ⟨v8.heap.size, 3, none⟩ = some (.int .i64 T) ∧ w'.cell? ⟨v8.heap.size, 4, none⟩ = some (.int .i64 H) ∧ w'.cell? ⟨v8.heap.size, 5, none⟩ = some (.int .i64 F) ∧ w'.cell? ⟨v8.heap.size, 6, none⟩ = some (.int .i64 R) ∧ w'.cell? ⟨v8.heap.size, 7, none⟩ = some (.int .i64 U) ∧ w'.cell? ⟨v8.heap.size, 8, none⟩ = some (.int .i64 O) ∧ w'.cell? ⟨v8.heap.size, 9, none⟩ = some (.slice (some ⟨g_xd, 0, none⟩) rs.length rs.length)) (by kernel_rfl) (HK.out _ (Below.refl _ _).drew) (fun hHeld => ?_)
    refine wpAnyH_take (i := 0) (v := .agg #[.int .i64 W, .int .i64 S, .int .i64 L, .int .i64 T, .int .i64 H, .int .i64 F, .int .i64 R, .int .i64 U, .int .i64 O, .slice (some ⟨g_xd, 0, none⟩) rs.length rs.length]) rfl (by kernel_rfl) (by kernel_rfl) (by kernel_rfl) (fun _ _ _ h => h) (Or.inl ⟨by rfl, fun w hw => by obtain ⟨z0, z1, z2, z3, z4, z5, z6, z7, z8, z9, z10, z11, z12, z13, z14, z15, z16, z17, z18, z19⟩ := hw; go_simp⟩) hHeld ?_
    simp only [Act.put, List.getElem_toArray, List.getElem_cons_zero, List.getElem_cons_succ, List.setIfInBounds_toArray, List.set_cons_zero, List.set_cons_succ]
    refine wpAnyH_take (i := 1) (v := .agg #[.int .i64 W, .int .i64 S, .int .i64 L, .int .i64 T, .int .i64 H, .int .i64 F, .int .i64 R, .int .i64 U, .int .i64 O, .slice a rs.length c]) rfl (by kernel_rfl) (by kernel_rfl) (by kernel_rfl) (fun _ _ _ h => h) (Or.inl ⟨by rfl, fun w hw => by obtain ⟨z0, z1, z2, z3, z4, z5, z6, z7, z8, z9, z10, z11, z12, z13, z14, z15, z16, z17, z18, z19⟩ := hw; go_simp⟩) hHeld ?_
    simp only [Act.put, List.getElem_toArray, List.getElem_cons_zero, List.getElem_cons_succ, List.setIfInBounds_toArray, List.set_cons_zero, List.set_cons_succ]
    refine wpAnyH_ready (rs := [2]) (by kernel_rfl) (by simp) ?_
    refine AllReadyH.cons rfl (fun K hK => ?_) AllReadyH.nil
    refine step_call (by rfl) 7 #[.agg #[.int .i64 W, .int .i64 S, .int .i64 L, .int .i64 T, .int .i64 H, .int .i64 F, .int .i64 R, .int .i64 U, .int .i64 O, .slice a rs.length c]] (by go_simp) (HTO.out _ ((h.below hE).below (Below.refl _ _).drew)) ?_
    rintro e u1 ⟨g_u, rfl, hg_u, hr_u, hb_u⟩
    refine ⟨_, rfl, ?_⟩
    have hb_u' : Below v13.heap.size v13 u1 := (Below.refl _ _).drew.trans hb_u
    refine hK.out _ _ (HK.out _ hb_u') (fun hHd1 => ?_)
    clear hK K
    try simp only [Act.put, List.getElem_toArray, List.getElem_cons_zero, List.getElem_cons_succ, List.setIfInBounds_toArray, List.set_cons_zero, List.set_cons_succ]
    refine wpAnyH_ready (rs := [3]) (by kernel_rfl) (by simp) ?_
    refine AllReadyH.cons rfl (fun K hK => ?_) AllReadyH.nil
    refine step_call (by rfl) 10 #[.agg #[.int .i64 W, .int .i64 S, .int .i64 L, .int .i64 T, .int .i64 H, .int .i64 F, .int .i64 R, .int .i64 U, .int .i64 O, .slice (some ⟨g_xd, 0, none⟩) rs.length rs.length], .agg #[.int .i64 W, .int .i64 S, .int .i64 L, .int .i64 T, .int .i64 H, .int .i64 F, .int .i64 R, .int .i64 U, .int .i64 O, .slice (some ⟨g_u, 0, none⟩) rs.length rs.length]] (by go_simp) (HEX.out _ _ _ _ _ (xd.below hb_u').now.prs hr_u.prs) ?_
    rintro e u2 ⟨rfl, hb_v⟩
    refine ⟨_, rfl, ?_⟩
    have hb_v' := hb_u'.trans (hb_v.mono hb_u'.size)
    refine hK.out _ _ (HK.out _ hb_v') (fun hHd2 => ?_)
    clear hK K
    try simp only [Act.put, List.getElem_toArray, List.getElem_cons_zero, List.getElem_cons_succ, List.setIfInBounds_toArray, List.set_cons_zero, List.set_cons_succ]
    refine wpAnyH_take (i := 4) (v := .bool false) rfl (by kernel_rfl) (by kernel_rfl) (by kernel_rfl) (fun _ _ _ h => h) (Or.inl ⟨by rfl, fun w hw => by obtain ⟨z0, z1, z2, z3, z4, z5, z6, z7, z8, z9, z10, z11, z12, z13, z14, z15, z16, z17, z18, z19⟩ := hw; go_simp⟩) hHd2 ?_
    simp only [Act.put, List.getElem_toArray, List.getElem_cons_zero, List.getElem_cons_succ, List.setIfInBounds_toArray, List.set_cons_zero, List.set_cons_succ]
    refine wpAnyH_done (by kernel_rfl) ?_ _
    have hb := hb_v'
    clear HK hb_u hb_u' hr_u hb_v hb_v' hHeld hHd1 hHd2
    have s_u2 : v13.heap.size ≤ u2.heap.size := hb.size
    have n_bA := bA.below hb
    clear bA
    have bA := n_bA
    clear n_bA
    have n_zds := zds.below hb
    clear zds
    have zds := n_zds
    clear n_zds
    have n_zdo := zdo.below hb
    clear zdo
    have zdo := n_zdo
    clear n_zdo
    have n_bZ := bZ.below hb
    clear bZ
    have bZ := n_bZ
    clear n_bZ
    have n_xd := xd.below hb
    clear xd
    have xd := n_xd
    clear n_xd
    have n_bX := bX.below hb
    clear bX
    have bX := n_bX
    clear n_bX
    have n_yd := yd.below hb
    clear yd
    have yd := n_yd
    clear n_yd
    have n_gds := gds.below hb
    clear gds
    have gds := n_gds
    clear n_gds
    have n_gdo := gdo.below hb
    clear gdo
    have gdo := n_gdo
    clear n_gdo
    have n_bG := bG.below hb
    clear bG
    have bG := n_bG
    clear n_bG
    have n_hE := hE.trans (hb.mono hE.size)
    clear hE
    have hE := n_hE
    clear n_hE
    clear hb
    go_wp2_with fail
    refine (HTC.out _ (h2.below hE)).mono ?_
    rintro e v14 ⟨g_t3, rfl, hg_t3, hr_t3, hb⟩
    have s_v14 : u2.heap.size ≤ v14.heap.size := hb.size
    have n_bA := bA.below hb
    clear bA
    have bA := n_bA
    clear n_bA
    have n_zds := zds.below hb
    clear zds
    have zds := n_zds
    clear n_zds
    have n_zdo := zdo.below hb
    clear zdo
    have zdo := n_zdo
    clear n_zdo
    have n_bZ := bZ.below hb
    clear bZ
    have bZ := n_bZ
    clear n_bZ
    have n_xd := xd.below hb
    clear xd
    have xd := n_xd
    clear n_xd
    have n_bX := bX.below hb
    clear bX
    have bX := n_bX
    clear n_bX
    have n_yd := yd.below hb
    clear yd
    have yd := n_yd
    clear n_yd
    have n_gds := gds.below hb
    clear gds
    have gds := n_gds
    clear n_gds
    have n_gdo := gdo.below hb
    clear gdo
    have gdo := n_gdo
    clear n_gdo
    have n_bG := bG.below hb
    clear bG
    have bG := n_bG
    clear n_bG
    have n_hE := hE.trans (hb.mono hE.size)
    clear hE
    have hE := n_hE
    clear n_hE
    have t3 : Dep v14 u2.heap.size v14.heap.size (fun Wd => Row Wd g_t3 (chcells b)) := dep_row hr_t3 hg_t3 hr_t3.lt (Nat.le_refl _)
    have gl_t3 := hr_t3.lt
    clear hr_t3
    clear hb
    go_wp2_with fail
    refine (HEC.out _ _ _ _ _ yd.now.chs t3.now.chs).mono ?_
    rintro e v15 ⟨rfl, hb⟩
    have s_v15 : v14.heap.size ≤ v15.heap.size := hb.size
    have n_bA := bA.below hb
    clear bA
    have bA := n_bA
    clear n_bA
    have n_zds := zds.below hb
    clear zds
    have zds := n_zds
    clear n_zds
    have n_zdo := zdo.below hb
    clear zdo
    have zdo := n_zdo
    clear n_zdo
    have n_bZ := bZ.below hb
    clear bZ
    have bZ := n_bZ
    clear n_bZ
    have n_xd := xd.below hb
    clear xd
    have xd := n_xd
    clear n_xd
    have n_bX := bX.below hb
    clear bX
    have bX := n_bX
    clear n_bX
    have n_yd := yd.below hb
    clear yd
    have yd := n_yd
    clear n_yd
    have n_gds := gds.below hb
    clear gds
    have gds := n_gds
    clear n_gds
    have n_gdo := gdo.below hb
    clear gdo
    have gdo := n_gdo
    clear n_gdo
    have n_bG := bG.below hb
    clear bG
    have bG := n_bG
    clear n_bG
    have n_t3 := t3.below hb
    clear t3
    have t3 := n_t3
    clear n_t3
    have n_hE := hE.trans (hb.mono hE.size)
    clear hE
    have hE := n_hE
    clear n_hE
    clear hb
    clear t3
    have q_bX_0 := bX.now.cell 0 _ rfl
    have q_bX_1 := bX.now.cell 1 _ rfl
    have q_bX_2 := bX.now.cell 2 _ rfl
    have q_bX_3 := bX.now.cell 3 _ rfl
    have q_bX_4 := bX.now.cell 4 _ rfl
    have q_bX_5 := bX.now.cell 5 _ rfl
    have q_bX_6 := bX.now.cell 6 _ rfl
    have q_bX_7 := bX.now.cell 7 _ rfl
    have q_bX_8 := bX.now.cell 8 _ rfl
    have q_bX_9 := bX.now.cell 9 _ rfl
    have q_bX_l := bX.now.lt
    go_wp2_with fail
    clear q_bX_0 q_bX_1 q_bX_2 q_bX_3 q_bX_4 q_bX_5 q_bX_6 q_bX_7 q_bX_8 q_bX_9 q_bX_l
    refine (HMX.out _ _ _ (.inr ⟨g_xd, rfl, xd.now⟩)).mono ?_
    rintro e v16 ⟨rfl, hgw, how⟩
    have s_v16 : v15.heap.size ≤ v16.heap.size := hgw.size
    have hgr : ∀ g, blk (some ⟨g_xd, 0, none⟩) rs.length = some g → v7.heap.size ≤ g ∧ g < v8.heap.size := fun g hg => by have := blk_is hg; rw [this]; exact ⟨hg_xd, gl_xd⟩
    have n_bA := bA.grown hgw (fun g hg => by have := hgr g hg; omega)
    clear bA
    have bA := n_bA
    clear n_bA
    have n_zds := zds.grown hgw (fun g hg => by have := hgr g hg; omega)
    clear zds
    have zds := n_zds
    clear n_zds
    have n_zdo := zdo.grown hgw (fun g hg => by have := hgr g hg; omega)
    clear zdo
    have zdo := n_zdo
    clear n_zdo
    have n_bZ := bZ.grown hgw (fun g hg => by have := hgr g hg; omega)
    clear bZ
    have bZ := n_bZ
    clear n_bZ
    have n_bX := bX.grown hgw (fun g hg => by have := hgr g hg; omega)
    clear bX
    have bX := n_bX
    clear n_bX
    have n_yd := yd.grown hgw (fun g hg => by have := hgr g hg; omega)
    clear yd
    have yd := n_yd
    clear n_yd
    have n_gds := gds.grown hgw (fun g hg => by have := hgr g hg; omega)
    clear gds
    have gds := n_gds
    clear n_gds
    have n_gdo := gdo.grown hgw (fun g hg => by have := hgr g hg; omega)
    clear gdo
    have gdo := n_gdo
    clear n_gdo
    have n_bG := bG.grown hgw (fun g hg => by have := hgr g hg; omega)
    clear bG
    have bG := n_bG
    clear n_bG
    have n_hE := hE.trans (below_of_grown hgw hE.size (fun g hg => by have := hgr g hg; omega))
    clear hE
    have hE := n_hE
    clear n_hE
    clear xd
    clear hgw how hgr
    go_wp2_with fail
    refine (HMC.out _ _ _ (.inr ⟨g_yd, rfl, yd.now⟩)).mono ?_
    rintro e v17 ⟨rfl, hgw, how⟩
    have s_v17 : v16.heap.size ≤ v17.heap.size := hgw.size
    have hgr : ∀ g, blk (some ⟨g_yd, 0, none⟩) b.length = some g → v9.heap.size ≤ g ∧ g < v10.heap.size := fun g hg => by have := blk_is hg; rw [this]; exact ⟨hg_yd, gl_yd⟩
    have n_bA := bA.grown hgw (fun g hg => by have := hgr g hg; omega)
    clear bA
    have bA := n_bA
    clear n_bA
    have n_zds := zds.grown hgw (fun g hg => by have := hgr g hg; omega)
    clear zds
    have zds := n_zds
    clear n_zds
    have n_zdo := zdo.grown hgw (fun g hg => by have := hgr g hg; omega)
    clear zdo
    have zdo := n_zdo
    clear n_zdo
    have n_bZ := bZ.grown hgw (fun g hg => by have := hgr g hg; omega)
    clear bZ
    have bZ := n_bZ
    clear n_bZ
    have n_bX := bX.grown hgw (fun g hg => by have := hgr g hg; omega)
    clear bX
    have bX := n_bX
    clear n_bX
    have n_gds := gds.grown hgw (fun g hg => by have := hgr g hg; omega)
    clear gds
    have gds := n_gds
    clear n_gds
    have n_gdo := gdo.grown hgw (fun g hg => by have := hgr g hg; omega)
    clear gdo
    have gdo := n_gdo
    clear n_gdo
    have n_bG := bG.grown hgw (fun g hg => by have := hgr g hg; omega)
    clear bG
    have bG := n_bG
    clear n_bG
    have n_hE := hE.trans (below_of_grown hgw hE.size (fun g hg => by have := hgr g hg; omega))
    clear hE
    have hE := n_hE
    clear n_hE
    clear yd
    clear hgw how hgr
    have q_bG_0 := bG.now.cell 0 _ rfl
    have q_bG_1 := bG.now.cell 1 _ rfl
    have q_bG_2 := bG.now.cell 2 _ rfl
    have q_bG_3 := bG.now.cell 3 _ rfl
    have q_bG_4 := bG.now.cell 4 _ rfl
    have q_bG_5 := bG.now.cell 5 _ rfl
    have q_bG_6 := bG.now.cell 6 _ rfl
    have q_bG_7 := bG.now.cell 7 _ rfl
    have q_bG_8 := bG.now.cell 8 _ rfl
    have q_bG_9 := bG.now.cell 9 _ rfl
    have q_bG_10 := bG.now.cell 10 _ rfl
    have q_bG_11 := bG.now.cell 11 _ rfl
    have q_bG_l := bG.now.lt
    have q_bZ_0 := bZ.now.cell 0 _ rfl
    have q_bZ_1 := bZ.now.cell 1 _ rfl
    have q_bZ_2 := bZ.now.cell 2 _ rfl
    have q_bZ_3 := bZ.now.cell 3 _ rfl
    have q_bZ_4 := bZ.now.cell 4 _ rfl
    have q_bZ_5 := bZ.now.cell 5 _ rfl
    have q_bZ_6 := bZ.now.cell 6 _ rfl
    have q_bZ_7 := bZ.now.cell 7 _ rfl
    have q_bZ_8 := bZ.now.cell 8 _ rfl
    have q_bZ_9 := bZ.now.cell 9 _ rfl
    have q_bZ_10 := bZ.now.cell 10 _ rfl
    have q_bZ_11 := bZ.now.cell 11 _ rfl
    have q_bZ_l := bZ.now.lt
    go_wp2_with fail
    clear q_bG_0 q_bG_1 q_bG_2 q_bG_3 q_bG_4 q_bG_5 q_bG_6 q_bG_7 q_bG_8 q_bG_9 q_bG_10 q_bG_11 q_bG_l q_bZ_0 q_bZ_1 q_bZ_2 q_bZ_3 q_bZ_4 q_bZ_5 q_bZ_6 q_bZ_7 q_bZ_8 q_bZ_9 q_bZ_10 q_bZ_11 q_bZ_l
    refine (HEQ.out _ _ _ _ _ _ _ _ _ gds.now.prs gdo.now.ops zds.now.prs zdo.now.ops).mono ?_
    rintro e v18 ⟨rfl, hb⟩
    have s_v18 : v17.heap.size ≤ v18.heap.size := hb.size
    have n_bA := bA.below hb
    clear bA
    have bA := n_bA
    clear n_bA
    have n_zds := zds.below hb
    clear zds
    have zds := n_zds
    clear n_zds
    have n_zdo := zdo.below hb
    clear zdo
    have zdo := n_zdo
    clear n_zdo
    have n_bZ := bZ.below hb
    clear bZ
    have bZ := n_bZ
    clear n_bZ
    have n_bX := bX.below hb
    clear bX
    have bX := n_bX
    clear n_bX
    have n_gds := gds.below hb
    clear gds
    have gds := n_gds
    clear n_gds
    have n_gdo := gdo.below hb
    clear gdo
    have gdo := n_gdo
    clear n_gdo
    have n_bG := bG.below hb
    clear bG
    have bG := n_bG
    clear n_bG
    have n_hE := hE.trans (hb.mono hE.size)
    clear hE
    have hE := n_hE
    clear n_hE
    clear hb
    have q_bG_0 := bG.now.cell 0 _ rfl
    have q_bG_1 := bG.now.cell 1 _ rfl
    have q_bG_2 := bG.now.cell 2 _ rfl
    have q_bG_3 := bG.now.cell 3 _ rfl
    have q_bG_4 := bG.now.cell 4 _ rfl
    have q_bG_5 := bG.now.cell 5 _ rfl
    have q_bG_6 := bG.now.cell 6 _ rfl
    have q_bG_7 := bG.now.cell 7 _ rfl
    have q_bG_8 := bG.now.cell 8 _ rfl
    have q_bG_9 := bG.now.cell 9 _ rfl
    have q_bG_10 := bG.now.cell 10 _ rfl
    have q_bG_11 := bG.now.cell 11 _ rfl
    have q_bG_l := bG.now.lt
    go_wp2_with fail
    clear q_bG_0 q_bG_1 q_bG_2 q_bG_3 q_bG_4 q_bG_5 q_bG_6 q_bG_7 q_bG_8 q_bG_9 q_bG_10 q_bG_11 q_bG_l
    refine (HMD.out _ _ _ _ _ ⟨gds.now, gdo.now, ne_gd⟩).mono ?_
    rintro e v19 ⟨rfl, ⟨y1, y2, hb, hg1, hg2⟩, how⟩
    have s_v19 : v18.heap.size ≤ v19.heap.size := Nat.le_trans hb.size (Nat.le_trans hg1.size hg2.size)
    clear gds gdo
    have n_bA := bA.below hb
    clear bA
    have bA := n_bA
    clear n_bA
    have n_zds := zds.below hb
    clear zds
    have zds := n_zds
    clear n_zds
    have n_zdo := zdo.below hb
    clear zdo
    have zdo := n_zdo
    clear n_zdo
    have n_bZ := bZ.below hb
    clear bZ
    have bZ := n_bZ
    clear n_bZ
    have n_bX := bX.below hb
    clear bX
    have bX := n_bX
    clear n_bX
    have n_bG := bG.below hb
    clear bG
    have bG := n_bG
    clear n_bG
    have n_hE := hE.trans (hb.mono hE.size)
    clear hE
    have hE := n_hE
    clear n_hE
    have n_bA := bA.grown hg1 (fun g hg => by have := lo_gd g hg; omega)
    clear bA
    have bA := n_bA
    clear n_bA
    have n_zds := zds.grown hg1 (fun g hg => by have := lo_gd g hg; omega)
    clear zds
    have zds := n_zds
    clear n_zds
    have n_zdo := zdo.grown hg1 (fun g hg => by have := lo_gd g hg; omega)
    clear zdo
    have zdo := n_zdo
    clear n_zdo
    have n_bZ := bZ.grown hg1 (fun g hg => by have := lo_gd g hg; omega)
    clear bZ
    have bZ := n_bZ
    clear n_bZ
    have n_bX := bX.grown hg1 (fun g hg => by have := lo_gd g hg; omega)
    clear bX
    have bX := n_bX
    clear n_bX
    have n_bG := bG.grown hg1 (fun g hg => by have := lo_gd g hg; omega)
    clear bG
    have bG := n_bG
    clear n_bG
    have n_hE := hE.trans (below_of_grown hg1 hE.size (fun g hg => by have := lo_gd g hg; omega))
    clear hE
    have hE := n_hE
    clear n_hE
    have n_bA := bA.grown hg2 (fun g hg => by have := lp_gd g hg; omega)
    clear bA
    have bA := n_bA
    clear n_bA
    have n_zds := zds.grown hg2 (fun g hg => by have := lp_gd g hg; omega)
    clear zds
    have zds := n_zds
    clear n_zds
    have n_zdo := zdo.grown hg2 (fun g hg => by have := lp_gd g hg; omega)
    clear zdo
    have zdo := n_zdo
    clear n_zdo
    have n_bZ := bZ.grown hg2 (fun g hg => by have := lp_gd g hg; omega)
    clear bZ
    have bZ := n_bZ
    clear n_bZ
    have n_bX := bX.grown hg2 (fun g hg => by have := lp_gd g hg; omega)
    clear bX
    have bX := n_bX
    clear n_bX
    have n_bG := bG.grown hg2 (fun g hg => by have := lp_gd g hg; omega)
    clear bG
    have bG := n_bG
    clear n_bG
    have n_hE := hE.trans (below_of_grown hg2 hE.size (fun g hg => by have := lp_gd g hg; omega))
    clear hE
    have hE := n_hE
    clear n_hE
    have gds : Dep v19 v10.heap.size v11.heap.size (fun Wd => OwnS Wd a_gd (prcells (prmarks 1 ds.length))) := (dep_own how.s (fun h => by have := ne_of_prcells h; rwa [prmarks_length] at this) (fun g hg => (lo_gd g hg).1)).cut (fun g h1 h2 => (lo_gd g (by subst h1; exact blk_pos _ _ _ (by have := ne_of_prcells h2; rwa [prmarks_length] at this))).2) (by omega) (fun g h1 h2 => (lo_gd g (by subst h1; exact blk_pos _ _ _ (by have := ne_of_prcells h2; rwa [prmarks_length] at this))).1)
    have gdo : Dep v19 v10.heap.size v11.heap.size (fun Wd => OwnS Wd b_gd (opcells (opmarks (1 + 2 * ds.length) os.length))) := (dep_own how.p (fun h => by have := ne_of_opcells h; rwa [opmarks_length] at this) (fun g hg => (lp_gd g hg).1)).cut (fun g h1 h2 => (lp_gd g (by subst h1; exact blk_pos _ _ _ (by have := ne_of_opcells h2; rwa [opmarks_length] at this))).2) (by omega) (fun g h1 h2 => (lp_gd g (by subst h1; exact blk_pos _ _ _ (by have := ne_of_opcells h2; rwa [opmarks_length] at this))).1)
    clear hb hg1 hg2 how
    have q_bG_0 := bG.now.cell 0 _ rfl
    have q_bG_1 := bG.now.cell 1 _ rfl
    have q_bG_2 := bG.now.cell 2 _ rfl
    have q_bG_3 := bG.now.cell 3 _ rfl
    have q_bG_4 := bG.now.cell 4 _ rfl
    have q_bG_5 := bG.now.cell 5 _ rfl
    have q_bG_6 := bG.now.cell 6 _ rfl
    have q_bG_7 := bG.now.cell 7 _ rfl
    have q_bG_8 := bG.now.cell 8 _ rfl
    have q_bG_9 := bG.now.cell 9 _ rfl
    have q_bG_10 := bG.now.cell 10 _ rfl
    have q_bG_11 := bG.now.cell 11 _ rfl
    have q_bG_l := bG.now.lt
    go_wp2_with fail
    clear q_bG_0 q_bG_1 q_bG_2 q_bG_3 q_bG_4 q_bG_5 q_bG_6 q_bG_7 q_bG_8 q_bG_9 q_bG_10 q_bG_11 q_bG_l
    refine (HHD.out _ _ _ _ _ gds.now gdo.now).mono ?_
    rintro e v20 ⟨rfl, hb⟩
    have s_v20 : v19.heap.size ≤ v20.heap.size := hb.size
    have n_bA := bA.below hb
    clear bA
    have bA := n_bA
    clear n_bA
    have n_zds := zds.below hb
    clear zds
    have zds := n_zds
    clear n_zds
    have n_zdo := zdo.below hb
    clear zdo
    have zdo := n_zdo
    clear n_zdo
    have n_bZ := bZ.below hb
    clear bZ
    have bZ := n_bZ
    clear n_bZ
    have n_bX := bX.below hb
    clear bX
    have bX := n_bX
    clear n_bX
    have n_bG := bG.below hb
    clear bG
    have bG := n_bG
    clear n_bG
    have n_gds := gds.below hb
    clear gds
    have gds := n_gds
    clear n_gds
    have n_gdo := gdo.below hb
    clear gdo
    have gdo := n_gdo
    clear n_gdo
    have n_hE := hE.trans (hb.mono hE.size)
    clear hE
    have hE := n_hE
    clear n_hE
    clear hb
    have q_bA_0 := bA.now.cell 0 _ rfl
    have q_bA_1 := bA.now.cell 1 _ rfl
    have q_bA_2 := bA.now.cell 2 _ rfl
    have q_bA_3 := bA.now.cell 3 _ rfl
    have q_bA_4 := bA.now.cell 4 _ rfl
    have q_bA_5 := bA.now.cell 5 _ rfl
    have q_bA_6 := bA.now.cell 6 _ rfl
    have q_bA_7 := bA.now.cell 7 _ rfl
    have q_bA_8 := bA.now.cell 8 _ rfl
    have q_bA_9 := bA.now.cell 9 _ rfl
    have q_bA_l := bA.now.lt
    go_wp2_with fail
    clear q_bA_0 q_bA_1 q_bA_2 q_bA_3 q_bA_4 q_bA_5 q_bA_6 q_bA_7 q_bA_8 q_bA_9 q_bA_l
    refine (HTO.out _ (h.below hE)).mono ?_
    rintro e v21 ⟨g_t4, rfl, hg_t4, hr_t4, hb⟩
    have s_v21 : v20.heap.size ≤ v21.heap.size := hb.size
    have n_bA := bA.below hb
    clear bA
    have bA := n_bA
    clear n_bA
    have n_zds := zds.below hb
    clear zds
    have zds := n_zds
    clear n_zds
    have n_zdo := zdo.below hb
    clear zdo
    have zdo := n_zdo
    clear n_zdo
    have n_bZ := bZ.below hb
    clear bZ
    have bZ := n_bZ
    clear n_bZ
    have n_bX := bX.below hb
    clear bX
    have bX := n_bX
    clear n_bX
    have n_bG := bG.below hb
    clear bG
    have bG := n_bG
    clear n_bG
    have n_gds := gds.below hb
    clear gds
    have gds := n_gds
    clear n_gds
    have n_gdo := gdo.below hb
    clear gdo
    have gdo := n_gdo
    clear n_gdo
    have n_hE := hE.trans (hb.mono hE.size)
    clear hE
    have hE := n_hE
    clear n_hE
    have t4 : Dep v21 v20.heap.size v21.heap.size (fun Wd => Row Wd g_t4 (prcells rs)) := dep_row hr_t4 hg_t4 hr_t4.lt (Nat.le_refl _)
    have gl_t4 := hr_t4.lt
    clear hr_t4
    clear hb
    go_wp2_with fail
    refine (HTC.out _ (h2.below hE)).mono ?_
    rintro e v22 ⟨g_t5, rfl, hg_t5, hr_t5, hb⟩
    have s_v22 : v21.heap.size ≤ v22.heap.size := hb.size
    have n_bA := bA.below hb
    clear bA
    have bA := n_bA
    clear n_bA
    have n_zds := zds.below hb
    clear zds
    have zds := n_zds
    clear n_zds
    have n_zdo := zdo.below hb
    clear zdo
    have zdo := n_zdo
    clear n_zdo
    have n_bZ := bZ.below hb
    clear bZ
    have bZ := n_bZ
    clear n_bZ
    have n_bX := bX.below hb
    clear bX
    have bX := n_bX
    clear n_bX
    have n_bG := bG.below hb
    clear bG
    have bG := n_bG
    clear n_bG
    have n_gds := gds.below hb
    clear gds
    have gds := n_gds
    clear n_gds
    have n_gdo := gdo.below hb
    clear gdo
    have gdo := n_gdo
    clear n_gdo
    have n_t4 := t4.below hb
    clear t4
    have t4 := n_t4
    clear n_t4
    have n_hE := hE.trans (hb.mono hE.size)
    clear hE
    have hE := n_hE
    clear n_hE
    have t5 : Dep v22 v21.heap.size v22.heap.size (fun Wd => Row Wd g_t5 (chcells b)) := dep_row hr_t5 hg_t5 hr_t5.lt (Nat.le_refl _)
    have gl_t5 := hr_t5.lt
    clear hr_t5
    clear hb
    go_wp2_with fail
    refine (HIM.out _ _ _ t4.now.prs t5.now.chs).mono ?_
    rintro e v23 ⟨a_hd, c_hd, b_hd, e_hd, rfl, hc_hd, ho, hg, hg2, hb⟩
    have s_v23 : v22.heap.size ≤ v23.heap.size := hb.size
    have n_bA := bA.below hb
    clear bA
    have bA := n_bA
    clear n_bA
    have n_zds := zds.below hb
    clear zds
    have zds := n_zds
    clear n_zds
    have n_zdo := zdo.below hb
    clear zdo
    have zdo := n_zdo
    clear n_zdo
    have n_bZ := bZ.below hb
    clear bZ
    have bZ := n_bZ
    clear n_bZ
    have n_bX := bX.below hb
    clear bX
    have bX := n_bX
    clear n_bX
    have n_bG := bG.below hb
    clear bG
    have bG := n_bG
    clear n_bG
    have n_gds := gds.below hb
    clear gds
    have gds := n_gds
    clear n_gds
    have n_gdo := gdo.below hb
    clear gdo
    have gdo := n_gdo
    clear n_gdo
    have n_t4 := t4.below hb
    clear t4
    have t4 := n_t4
    clear n_t4
    have n_t5 := t5.below hb
    clear t5
    have t5 := n_t5
    clear n_t5
    have n_hE := hE.trans (hb.mono hE.size)
    clear hE
    have hE := n_hE
    clear n_hE
    have hds : Dep v23 v22.heap.size v23.heap.size (fun Wd => OwnS Wd a_hd (prcells ds)) := dep_own ho.s ne_of_prcells hg
    have hdo : Dep v23 v22.heap.size v23.heap.size (fun Wd => OwnS Wd b_hd (opcells os)) := dep_own ho.p ne_of_opcells hg2
    have ne_hd := ho.ne
    have lo_hd : ∀ g, blk a_hd ds.length = some g → v22.heap.size ≤ g ∧ g < v23.heap.size := fun g hg' => ⟨hg g hg', ho.s.lt _ prcells_ne g hg'⟩
    have lp_hd : ∀ g, blk b_hd os.length = some g → v22.heap.size ≤ g ∧ g < v23.heap.size := fun g hg' => ⟨hg2 g hg', ho.p.lt _ opcells_ne g hg'⟩
    clear ho hg hg2
    clear hb
    clear t4
    clear t5
    have q_bZ_0 := bZ.now.cell 0 _ rfl
    have q_bZ_1 := bZ.now.cell 1 _ rfl
    have q_bZ_2 := bZ.now.cell 2 _ rfl
    have q_bZ_3 := bZ.now.cell 3 _ rfl
    have q_bZ_4 := bZ.now.cell 4 _ rfl
    have q_bZ_5 := bZ.now.cell 5 _ rfl
    have q_bZ_6 := bZ.now.cell 6 _ rfl
    have q_bZ_7 := bZ.now.cell 7 _ rfl
    have q_bZ_8 := bZ.now.cell 8 _ rfl
    have q_bZ_9 := bZ.now.cell 9 _ rfl
    have q_bZ_10 := bZ.now.cell 10 _ rfl
    have q_bZ_11 := bZ.now.cell 11 _ rfl
    have q_bZ_l := bZ.now.lt
    go_wp2_with fail
    clear q_bZ_0 q_bZ_1 q_bZ_2 q_bZ_3 q_bZ_4 q_bZ_5 q_bZ_6 q_bZ_7 q_bZ_8 q_bZ_9 q_bZ_10 q_bZ_11 q_bZ_l
    obtain ⟨v24, e_v24⟩ : ∃ x, x = v23.alloc (.cells #[.int .i64 C0, .int .i64 W0, .int .i64 S0, .int .i64 L0, .int .i64 T0, .int .i64 H0, .int .i64 F0, .int .i64 R0, .int .i64 U0, .int .i64 O0, .slice a_hd ds.length c_hd, .slice b_hd os.length e_hd] 38) := ⟨_, rfl⟩
    have hb : Below v23.heap.size v23 v24 := by rw [e_v24]; exact (Below.refl _ _).alloc (Nat.le_refl _) _
    have bH : Dep v24 v23.heap.size (v23.heap.size + 1) (fun Wd => Row Wd v23.heap.size [.int .i64 C0, .int .i64 W0, .int .i64 S0, .int .i64 L0, .int .i64 T0, .int .i64 H0, .int .i64 F0, .int .i64 R0, .int .i64 U0, .int .i64 O0, .slice a_hd ds.length c_hd, .slice b_hd os.length e_hd]) := by rw [e_v24]; exact dep_box _ _ _
    have s_v24 : v23.heap.size + 1 ≤ v24.heap.size := by rw [e_v24]; simp
    rw [← e_v24]
    clear e_v24
    have n_bA := bA.below hb
    clear bA
    have bA := n_bA
    clear n_bA
    have n_zds := zds.below hb
    clear zds
    have zds := n_zds
    clear n_zds
    have n_zdo := zdo.below hb
    clear zdo
    have zdo := n_zdo
    clear n_zdo
    have n_bZ := bZ.below hb
    clear bZ
    have bZ := n_bZ
    clear n_bZ
    have n_bX := bX.below hb
    clear bX
    have bX := n_bX
    clear n_bX
    have n_bG := bG.below hb
    clear bG
    have bG := n_bG
    clear n_bG
    have n_gds := gds.below hb
    clear gds
    have gds := n_gds
    clear n_gds
    have n_gdo := gdo.below hb
    clear gdo
    have gdo := n_gdo
    clear n_gdo
    have n_hds := hds.below hb
    clear hds
    have hds := n_hds
    clear n_hds
    have n_hdo := hdo.below hb
    clear hdo
    have hdo := n_hdo
    clear n_hdo
    have n_hE := hE.trans (hb.mono hE.size)
    clear hE
    have hE := n_hE
    clear n_hE
    clear hb
    refine (HEQ.out _ _ _ _ _ _ _ _ _ hds.now.prs hdo.now.ops zds.now.prs zdo.now.ops).mono ?_
    rintro e v25 ⟨rfl, hb⟩
    have s_v25 : v24.heap.size ≤ v25.heap.size := hb.size
    have n_bA := bA.below hb
    clear bA
    have bA := n_bA
    clear n_bA
    have n_zds := zds.below hb
    clear zds
    have zds := n_zds
    clear n_zds
    have n_zdo := zdo.below hb
    clear zdo
    have zdo := n_zdo
    clear n_zdo
    have n_bZ := bZ.below hb
    clear bZ
    have bZ := n_bZ
    clear n_bZ
    have n_bX := bX.below hb
    clear bX
    have bX := n_bX
    clear n_bX
    have n_bG := bG.below hb
    clear bG
    have bG := n_bG
    clear n_bG
    have n_gds := gds.below hb
    clear gds
    have gds := n_gds
    clear n_gds
    have n_gdo := gdo.below hb
    clear gdo
    have gdo := n_gdo
    clear n_gdo
    have n_hds := hds.below hb
    clear hds
    have hds := n_hds
    clear n_hds
    have n_hdo := hdo.below hb
    clear hdo
    have hdo := n_hdo
    clear n_hdo
    have n_bH := bH.below hb
    clear bH
    have bH := n_bH
    clear n_bH
    have n_hE := hE.trans (hb.mono hE.size)
    clear hE
    have hE := n_hE
    clear n_hE
    clear hb
    have q_bG_0 := bG.now.cell 0 _ rfl
    have q_bG_1 := bG.now.cell 1 _ rfl
    have q_bG_2 := bG.now.cell 2 _ rfl
    have q_bG_3 := bG.now.cell 3 _ rfl
    have q_bG_4 := bG.now.cell 4 _ rfl
    have q_bG_5 := bG.now.cell 5 _ rfl
    have q_bG_6 := bG.now.cell 6 _ rfl
    have q_bG_7 := bG.now.cell 7 _ rfl
    have q_bG_8 := bG.now.cell 8 _ rfl
    have q_bG_9 := bG.now.cell 9 _ rfl
    have q_bG_10 := bG.now.cell 10 _ rfl
    have q_bG_11 := bG.now.cell 11 _ rfl
    have q_bG_l := bG.now.lt
    go_wp2_with fail
    clear q_bG_0 q_bG_1 q_bG_2 q_bG_3 q_bG_4 q_bG_5 q_bG_6 q_bG_7 q_bG_8 q_bG_9 q_bG_10 q_bG_11 q_bG_l
    refine (HHD.out _ _ _ _ _ gds.now gdo.now).mono ?_
    rintro e v26 ⟨rfl, hb⟩
    have s_v26 : v25.heap.size ≤ v26.heap.size := hb.size
    have n_bA := bA.below hb
    clear bA
    have bA := n_bA
    clear n_bA
    have n_zds := zds.below hb
    clear zds
    have zds := n_zds
    clear n_zds
    have n_zdo := zdo.below hb
    clear zdo
    have zdo := n_zdo
    clear n_zdo
    have n_bZ := bZ.below hb
    clear bZ
    have bZ := n_bZ
    clear n_bZ
    have n_bX := bX.below hb
    clear bX
    have bX := n_bX
    clear n_bX
    have n_bG := bG.below hb
    clear bG
    have bG := n_bG
    clear n_bG
    have n_gds := gds.below hb
    clear gds
    have gds := n_gds
    clear n_gds
    have n_gdo := gdo.below hb
    clear gdo
    have gdo := n_gdo
    clear n_gdo
    have n_hds := hds.below hb
    clear hds
    have hds := n_hds
    clear n_hds
    have n_hdo := hdo.below hb
    clear hdo
    have hdo := n_hdo
    clear n_hdo
    have n_bH := bH.below hb
    clear bH
    have bH := n_bH
    clear n_bH
    have n_hE := hE.trans (hb.mono hE.size)
    clear hE
    have hE := n_hE
    clear n_hE
    clear hb
    go_wp2_with fail
    go_ret
    exact ⟨rfl, hE⟩
theorem cellsT : Tryz.prog.cellsOf 28 = 10 := by kernel_rfl
theorem cells3 : Tryz.prog.cellsOf 66 = 3 := by kernel_rfl
set_option maxRecDepth 100000 in
theorem lifted (os : Os) (started : os.Started) (H : Type) (enc : TypeId × Value → H) :
    ReturnsInHanded {} Tryz.checked os 4 .any (Rows.fnExactCommitSpec.pre6 enc Tryz.prog Tryz.f4 Rows.fnExactCommitRow.domain false) (Rows.fnExactCommitSpec.post enc Tryz.prog Tryz.f4 false true false false) := by
  refine returnsInHanded_of_change (C := Tryz.checked) own started (by kernel_rfl) Tryz.func4
    (ChangeSpec.witness6 (enc := enc) (C := Tryz.checked) false ⟨#[], #[.agg #[.int .i64 0, .int .i64 0, .int .i64 0, .int .i64 0, .int .i64 0, .int .i64 0, .int .i64 0, .int .i64 0, .int .i64 0, .slice none 0 0], .slice none 0 0], []⟩ 8 (by kernel_rfl) (by kernel_rfl) (by kernel_rfl) (by kernel_rfl)) ?_
  intro W base args ds gs before hval0 hW hcnd _
  have hval : ∀ (j : Nat) t v, Tryz.f4.params[j]? = some t → args[j]? = some v → Value.okWide Tryz.prog W .any base t v := hval0
  have hW' := hW
  obtain ⟨p, q, hA0, hV, rfl, hfz, hnd⟩ := hW
  have hA : DataW.TrodAll enc Tryz.prog W 0 (fun _ => true) true Tryz.f4.params.toList args.toList ds p := hA0
  rw [Tryz.params4] at hA hval
  obtain ⟨v0, vs0, d0, ds0, p0, q0, hargs, rfl, rfl, h0, r0⟩ := trodAll_cons hA
  obtain ⟨v1, vs1, d1, ds1, p1, q1, hargs1, rfl, rfl, h1, r1⟩ := trodAll_cons r0
  obtain ⟨rfl, rfl, rfl⟩ := trodAll_nil r1
  subst hargs1
  obtain rfl : args = #[v0, v1] := by cases args; simp_all
  obtain ⟨rfl, rfl⟩ := trodVars_none hV
  have k0 := h0
  have k1 := h1
  have lt0 : ∀ x ∈ p0, x.block < W.heap.size := by obtain ⟨m, hm⟩ := k0; exact DataW.trod_lt m _ _ _ hm
  have lt1 : ∀ x ∈ p1, x.block < W.heap.size := by obtain ⟨m, hm⟩ := k1; exact DataW.trod_lt m _ _ _ hm
  obtain ⟨cs, rfl, hsz⟩ := okWide_struct Tryz.underlying28 (hval 0 28 v0 rfl rfl)
  obtain ⟨fuel, hf⟩ := h0
  obtain ⟨W0, S0, L0, T0, H0, F0, R0, U0, O0, a, rs, c, hcs, hS, hl, hs⟩ := store_of_trod hf
  obtain rfl : cs = #[.int .i64 W0, .int .i64 S0, .int .i64 L0, .int .i64 T0, .int .i64 H0, .int .i64 F0, .int .i64 R0, .int .i64 U0, .int .i64 O0, .slice a rs.length c] := by
    apply Array.toList_inj.1
    simpa [Value.cells] using hcs
  obtain ⟨za, zl, zc, rfl⟩ := okWide_slice Tryz.underlying46 (hval 1 46 v1 rfl rfl)
  obtain ⟨fuel1, hmz⟩ := h1
  obtain ⟨f, bs, cf, hze, hZ, hlz, hsz2⟩ := chs_of_trod Tryz.underlying46 Tryz.underlying66 cells3 rfl rfl rfl (by kernel_rfl) (by kernel_rfl) (by kernel_rfl) Tryz.underlying9 Tryz.underlying9 Tryz.underlying4 hmz
  cases hze
  clear hA0 hval0
  refine (walk W0 S0 L0 T0 H0 F0 R0 U0 O0 a rs c _ bs _ W hS hl hs hZ hlz hsz2).mono fun e W' ⟨he, bel⟩ => ?_
  subst he
  exact ⟨_, rfl, _, _, _, [], _, [], hW', trodAll_mk1 (shut_bool Tryz.underlying4 _), (trodAll_cons_mk (Below.trod laidOut (by kernel_rfl) (of_decide_eq_true (by kernel_rfl)) k0 bel lt0) (trodAll_cons_mk (Below.trod laidOut (by kernel_rfl) (of_decide_eq_true (by kernel_rfl)) k1 bel lt1) trodAll_mk0)), rfl, bel.frame _, fun h => by cases h⟩

theorem over : Rows.fnExactCommitRow.holds Tryz.pinned (OpenSpec.ofChange Rows.fnExactCommitSpec) :=
  OpenClaim.holds_of_wide 4 Tryz.f4 rfl rfl rfl rfl rfl rfl rfl ⟨rfl, rfl, rfl, rfl, rfl⟩ rfl rfl rfl rfl rfl (by kernel_rfl) Tryz.func4 (by kernel_rfl)
    (of_decide_eq_true (by kernel_rfl)) (by unfold Func.isWrapper; first | (rw [if_pos (by decide +kernel)]; kernel_rfl) | (rw [if_neg (by decide +kernel)]; exact ⟨rfl, rfl⟩))
    (fun os started H enc _ => lifted os started H enc)

theorem proved : Rows.FnExactCommitSaid := over
#print axioms proved
end Go.Proofs.YtnmaknnnmjfhkafGreat.fnExactCommit
