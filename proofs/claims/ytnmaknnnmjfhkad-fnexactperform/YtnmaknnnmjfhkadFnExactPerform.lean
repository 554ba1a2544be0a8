import Derived.Test.YtnmaknnnmjfhkadRows
import Derived.Test.YtnmaknnnmjfhkadPfS
import Derived.Test.YtnmaknnnmjfhkadLed
import Derived.Test.YtnmaknnnmjfhkadOpB
import Derived.Test.YtnmaknnnmjfhkadOpE
import Derived.Test.YtnmaknnnmjfhkadOpC
import Derived.Test.YtnmaknnnmjfhkadMkO
import Derived.Test.YtnmaknnnmjfhkadMk
import Derived.Test.YtnmaknnnmjfhkadOpnI
import Derived.WalkKit
import Derived.ProofKit
import Derived.OpenShut
import Derived.ShutString
import Derived.ChangeOld
import Derived.ChangeSlices
import Derived.Below
import Derived.Lib.SmallJoins
namespace Go.Proofs.Ytnmaknnnmjfhkad.fnExactPerform
open Go.ChangeShapes Go.WideShapes Go.ChangeAt Go.RowKit Go.Joins
open Go.ChangeMaps (open_string shut_string)
set_option linter.unusedVariables false
set_option linter.unusedSimpArgs false
set_option maxRecDepth 8000

theorem own : ownKnob Try.prog.godebug = none := by kernel_rfl
theorem laidOut : laidOutB Try.prog = true := by kernel_rfl
theorem strs_neA {l : List ByteArray} (h : l.map Value.string ≠ []) : l.length ≠ 0 := fun e => h (by rw [List.eq_nil_of_length_eq_zero e]; rfl)
theorem strs_neB {l : List ByteArray} (h : l.length ≠ 0) : l.map Value.string ≠ [] := fun e => h (by have := congrArg List.length e; simpa using this)
theorem wcells_neA {l : List (Int × ByteArray)} (h : wcells l ≠ []) : l.length ≠ 0 := fun e => h (by rw [List.eq_nil_of_length_eq_zero e]; rfl)
theorem wcells_neB {l : List (Int × ByteArray)} (h : l.length ≠ 0) : wcells l ≠ [] := fun e => h (by have := congrArg List.length e; rw [wcells_length, List.length_nil] at this; omega)
theorem own_ne {g g' n n' : Nat} (h : g ≠ g') : blk (some ⟨g, 0, none⟩) n = none ∨ blk (some ⟨g', 0, none⟩) n' = none ∨ blk (some ⟨g, 0, none⟩) n ≠ blk (some ⟨g', 0, none⟩) n' := by
  cases e1 : blk (some ⟨g, 0, none⟩) n with
  | none => exact .inl rfl
  | some k =>
    cases e2 : blk (some ⟨g', 0, none⟩) n' with
    | none => exact .inr (.inl rfl)
    | some k' => exact .inr (.inr (fun e => h (by have h1 := blk_is e1; have h2 := blk_is e2; injection e with e; omega)))
set_option maxHeartbeats 16000000 in
theorem walk (a : Option Addr) (ss : List ByteArray) (c : Nat) (a' : Option Addr) (ws : List (Int × ByteArray)) (c' : Nat) (f : Option Addr) (rs : List (Bool × Int × ByteArray)) (cf : Nat) (z : Int) (w : World) (h : Strs w a ss) (h' : Wrs w a' ws) (hz : Ops w f rs)
    (hl : ss.length ≤ maxLen) (hs : ∀ s ∈ ss, s.size ≤ maxLen) (hl' : ws.length ≤ maxLen) (hs' : ∀ s ∈ ws, s.2.size ≤ maxLen) (hlz : rs.length ≤ maxLen) (hsz : ∀ s ∈ rs, s.2.2.size ≤ maxLen) :
    Calls Try.prog 7 #[diskV a ss.length c a' ws.length c', .slice f rs.length cf, .int .i64 z] w fun e w' => e = .returned (.bool true) ∧ Below w.heap.size w w' := by
  have hb0 : ∀ o, Below w.heap.size w (w.alloc o) := fun o => (Below.refl _ _).alloc (Nat.le_refl _) _
  have hbd := szL_bd (szs ss ws) 1048576 (by omega)
  obtain ⟨R1, HR⟩ : ∃ R1, Hid (R1 = szL (szs ss ws) 1048576) := ⟨_, hid rfl⟩
  rw [← HR.out] at hbd
  have HSZ := hid (fun w' k1 k2 => sz_disk a ss c a' ws c' w' k1 k2 hl hs hl' hs')
  rw [← HR.out] at HSZ
  by_cases hR : R1 < 0
  · clear hbd
    go_enter Try.func7, Try.ntmps7
    go_wp2_with (go_at_call 23; refine (HSZ.out _ (h.below (hb0 _)) (h'.below (hb0 _))).mono ?_; rintro e w1 ⟨rfl, hb1⟩)
    go_ret
    exact ⟨rfl, (hb0 _).trans (hb1.mono (by simp))⟩
  have hmem := szL_mem (szs ss ws) 1048576 (by omega) (by rw [← HR.out]; omega)
  have m1 : ss.length ≤ 1048576 := by have := hmem ss.length (by simp [szs]); omega
  have m2 : ws.length ≤ 1048576 := by have := hmem ws.length (by simp [szs]); omega
  have M3 : Hid (∀ s ∈ ss, s.size ≤ 1048576) := fun s hs => by
    have := hmem s.size (by simp only [szs, List.mem_append, List.mem_cons, List.mem_map]; exact .inl (.inr ⟨s, hs, rfl⟩)); omega
  have M4 : Hid (∀ x ∈ ws, x.2.size ≤ 1048576) := fun x hx => by
    have := hmem x.2.size (by simp only [szs, List.mem_append, List.mem_cons, List.mem_map]; exact .inr (.inr ⟨x, hx, rfl⟩)); omega
  have hR0 : 0 ≤ R1 := by omega
  have hbd2 := szL_bd (rs.length :: rs.flatMap opsz) R1 hR0
  obtain ⟨R2, HR2⟩ : ∃ R2, Hid (R2 = szL (rs.length :: rs.flatMap opsz) R1) := ⟨_, hid rfl⟩
  rw [← HR2.out] at hbd2
  have HSZ2 := hid (fun w' k1 => sz_ops f rs cf R1 w' k1 hR0 (by omega) hlz hsz)
  rw [← HR2.out] at HSZ2
  by_cases hR2 : R2 < 0
  · have hRn : ¬ R1 < 0 := hR
    clear hbd hbd2 hmem hR
    go_enter Try.func7, Try.ntmps7
    go_wp2_with (first | (go_at_call 23; refine (HSZ.out _ (h.below (hb0 _)) (h'.below (hb0 _))).mono ?_; rintro e w1 ⟨rfl, hb1⟩; have HB1 := hid ((hb0 _).trans (hb1.mono (by simp))); clear hb1) | (go_at_call 39; refine (HSZ2.out _ (hz.below HB1.out)).mono ?_; rintro e w2 ⟨rfl, hb2⟩))
    go_ret
    exact ⟨rfl, HB1.out.trans (hb2.mono HB1.out.size)⟩
  · have hmem2 := szL_mem (rs.length :: rs.flatMap opsz) R1 hR0 (by rw [← HR2.out]; omega)
    have m3 : rs.length ≤ 1048576 := by have := hmem2 rs.length (by simp); omega
    have M5 : Hid (∀ x ∈ rs, x.2.2.size ≤ 1048576) := fun x hx => by
      have h1 := hmem2 x.2.2.size (List.mem_cons_of_mem _ (List.mem_flatMap.2 ⟨x, hx, by simp [opsz]⟩))
      omega
    have hRn : ¬ R1 < 0 := hR
    have hR20 : 0 ≤ R2 := by omega
    have HTO := hid (fun w' k1 k2 => to_disk a ss c a' ws c' w' k1 k2 m1 m2)
    have HTC := hid (fun w' k1 => to_ops f rs cf w' k1 m3)
    obtain ⟨R, hRR⟩ : ∃ R, R = pfR ss ws rs z := ⟨_, rfl⟩
    have hRl : R.1.length ≤ 200 ∧ R.2.length ≤ 300 := by rw [hRR]; exact pfR_len ss ws rs z
    have hRl1 := hRl.1
    have hRl2 := hRl.2
    have HSP := hid (fun g1 g2 g3 w' k1 k2 k3 => pf_s_any (some ⟨g1, 0, none⟩) ss ss.length (some ⟨g2, 0, none⟩) ws ws.length (some ⟨g3, 0, none⟩) rs rs.length z w' k1 k2 k3 m3 M5.out m1 m2 M3.out M4.out)
    have HIM := hid (fun g1 g2 g3 w' k1 k2 k3 => pf_i_any (some ⟨g1, 0, none⟩) ss ss.length (some ⟨g2, 0, none⟩) ws ws.length (some ⟨g3, 0, none⟩) rs rs.length z w' k1 k2 k3 (Nat.le_refl _) m3 M5.out m1 m2 M3.out M4.out)
    rw [← hRR] at HSP HIM
    have HEQ := hid (fun a1 b1 c1 d1 a2 b2 c2 d2 w' k1 k2 k3 k4 => eq_disk a1 b1 R.1 c1 d1 a2 b2 R.2 c2 d2 w' k1 k2 k3 k4 (by omega) (by omega))
    have HEX := hid (fun a1 b1 c1 d1 a2 b2 c2 d2 w' k1 k2 k3 k4 => eq_disk a1 b1 ss c1 d1 a2 b2 ws c2 d2 w' k1 k2 k3 k4 m1 m2)
    have HEC := hid (fun a1 c1 a2 c2 w' k1 k2 => eq_ops a1 a2 rs c1 c2 w' k1 k2 m3)
    have HMX := hid (fun a1 c1 a2 c2 w' k1 => mark_disk a1 ss c1 a2 ws c2 1 w' k1 (by omega) (by omega))
    have HMC := hid (fun a1 c1 w' k1 => mark_ops a1 rs c1 (1 + ss.length + 2 * ws.length) w' k1 (by omega) (by omega))
    have HMG := hid (fun a1 c1 a2 c2 w' k1 => mark_disk a1 R.1 c1 a2 R.2 c2 1 w' k1 (by omega) (by omega))
    have HHG := hid (fun a1 c1 a2 c2 w' k1 k2 => held_disk a1 R.1.length c1 a2 R.2.length c2 1 w' k1 k2 (by omega) (by omega))
    have hk0 : (0 : Int) ≤ ((1 + ss.length + 2 * ws.length : Nat) : Int) := by omega
    have hk1 : (0 : Int) ≤ ((1 + ss.length + 2 * ws.length + 3 * rs.length : Nat) : Int) := by omega
    have hk2 : (0 : Int) ≤ ((1 + R.1.length + 2 * R.2.length : Nat) : Int) := by omega
    obtain ⟨k1, HK1⟩ : ∃ k1 : Nat, Hid (k1 = 1 + ss.length + 2 * ws.length) := ⟨_, hid rfl⟩
    obtain ⟨k2, HK2⟩ : ∃ k2 : Nat, Hid (k2 = 1 + ss.length + 2 * ws.length + 3 * rs.length) := ⟨_, hid rfl⟩
    obtain ⟨k3, HK3⟩ : ∃ k3 : Nat, Hid (k3 = 1 + R.1.length + 2 * R.2.length) := ⟨_, hid rfl⟩
    rw [← HK2.out] at HMC hk1
    rw [← HK1.out] at HMX HMC hk0
    rw [← HK3.out] at HMG HHG hk2
    clear hRR hmem hmem2 hbd hbd2 hR hR2 hl hs hl' hs' hlz hsz
    go_enter Try.func7, Try.ntmps7
    go_wp2_with fail
    have hE : Below w.heap.size w w := Below.refl _ _
    obtain ⟨v1, e_v1⟩ : ∃ xw, xw = w.alloc (.cells #[.slice a ss.length c, .slice a' ws.length c'] 52) := ⟨_, rfl⟩
    have hb : Below w.heap.size w v1 := by rw [e_v1]; exact (Below.refl _ _).alloc (Nat.le_refl _) _
    have bA : Dep v1 w.heap.size (w.heap.size + 1) (fun Wd => Row Wd w.heap.size [.slice a ss.length c, .slice a' ws.length c']) := by rw [e_v1]; exact dep_box _ _ _
    have s_v1 : w.heap.size + 1 ≤ v1.heap.size := by rw [e_v1]; simp
    rw [← e_v1]
    clear e_v1
    have n_hE := hE.trans (hb.mono hE.size)
    clear hE
    have hE := n_hE
    clear n_hE
    clear hb
    refine (HSZ.out _ (h.below hE) (h'.below hE)).mono ?_
    rintro e v2 ⟨rfl, hb⟩
    have s_v2 : v1.heap.size ≤ v2.heap.size := hb.size
    have n_bA := bA.below hb
    clear bA
    have bA := n_bA
    clear n_bA
    have n_hE := hE.trans (hb.mono hE.size)
    clear hE
    have hE := n_hE
    clear n_hE
    clear hb
    have q_bA_0 := bA.now.cell 0 _ rfl
    have q_bA_1 := bA.now.cell 1 _ rfl
    have q_bA_l := bA.now.lt
    go_wp2_with fail
    clear q_bA_0 q_bA_1 q_bA_l
    refine (HSZ2.out _ (hz.below hE)).mono ?_
    rintro e v3 ⟨rfl, hb⟩
    have s_v3 : v2.heap.size ≤ v3.heap.size := hb.size
    have n_bA := bA.below hb
    clear bA
    have bA := n_bA
    clear n_bA
    have n_hE := hE.trans (hb.mono hE.size)
    clear hE
    have hE := n_hE
    clear n_hE
    clear hb
    have q_bA_0 := bA.now.cell 0 _ rfl
    have q_bA_1 := bA.now.cell 1 _ rfl
    have q_bA_l := bA.now.lt
    go_wp2_with fail
    clear q_bA_0 q_bA_1 q_bA_l
    refine (HTO.out _ (h.below hE) (h'.below hE)).mono ?_
    rintro e v4 ⟨g_t1, p_t1, rfl, hg_t1, hp_t1, hn_t1, hr_t1, hq_t1, hb⟩
    have s_v4 : v3.heap.size ≤ v4.heap.size := hb.size
    have n_bA := bA.below hb
    clear bA
    have bA := n_bA
    clear n_bA
    have n_hE := hE.trans (hb.mono hE.size)
    clear hE
    have hE := n_hE
    clear n_hE
    have t1s : Dep v4 v3.heap.size v4.heap.size (fun W => Row W g_t1 (ss.map Value.string)) := dep_row hr_t1 hg_t1 hr_t1.lt (Nat.le_refl _)
    have t1p : Dep v4 v3.heap.size v4.heap.size (fun W => Row W p_t1 (wcells ws)) := dep_row hq_t1 hp_t1 hq_t1.lt (Nat.le_refl _)
    have gl_t1 := hr_t1.lt
    have pl_t1 := hq_t1.lt
    clear hr_t1 hq_t1
    clear hb
    go_wp2_with fail
    refine (HTC.out _ (hz.below hE)).mono ?_
    rintro e v5 ⟨g_t2, rfl, hg_t2, hr_t2, hb⟩
    have s_v5 : v4.heap.size ≤ v5.heap.size := hb.size
    have n_bA := bA.below hb
    clear bA
    have bA := n_bA
    clear n_bA
    have n_t1s := t1s.below hb
    clear t1s
    have t1s := n_t1s
    clear n_t1s
    have n_t1p := t1p.below hb
    clear t1p
    have t1p := n_t1p
    clear n_t1p
    have n_hE := hE.trans (hb.mono hE.size)
    clear hE
    have hE := n_hE
    clear n_hE
    have t2 : Dep v5 v4.heap.size v5.heap.size (fun W => Row W g_t2 (opcells rs)) := dep_row hr_t2 hg_t2 hr_t2.lt (Nat.le_refl _)
    have gl_t2 := hr_t2.lt
    clear hr_t2
    clear hb
    go_wp2_with fail
    refine (HSP.out _ _ _ _ t1s.now.strs t1p.now.wrs t2.now.ops).mono ?_
    rintro e v6 ⟨a_zd, c_zd, b_zd, e_zd, rfl, ho, hg, hg', hb⟩
    have s_v6 : v5.heap.size ≤ v6.heap.size := hb.size
    have n_bA := bA.below hb
    clear bA
    have bA := n_bA
    clear n_bA
    have n_t1s := t1s.below hb
    clear t1s
    have t1s := n_t1s
    clear n_t1s
    have n_t1p := t1p.below hb
    clear t1p
    have t1p := n_t1p
    clear n_t1p
    have n_t2 := t2.below hb
    clear t2
    have t2 := n_t2
    clear n_t2
    have n_hE := hE.trans (hb.mono hE.size)
    clear hE
    have hE := n_hE
    clear n_hE
    have zds : Dep v6 v5.heap.size v6.heap.size (fun W => OwnS W a_zd (R.1.map Value.string)) := dep_own ho.s strs_neA hg
    have zdp : Dep v6 v5.heap.size v6.heap.size (fun W => OwnS W b_zd (wcells R.2)) := dep_own ho.p wcells_neA hg'
    have lo_zds : ∀ g, blk a_zd R.1.length = some g → v5.heap.size ≤ g ∧ g < v6.heap.size := fun g hh => ⟨hg g hh, ho.s.lt _ strs_neB g hh⟩
    have lo_zdp : ∀ g, blk b_zd R.2.length = some g → v5.heap.size ≤ g ∧ g < v6.heap.size := fun g hh => ⟨hg' g hh, ho.p.lt _ wcells_neB g hh⟩
    have ne_zd := ho.ne
    clear ho hg hg'
    clear hb
    clear t1s
    clear t1p
    clear t2
    have q_bA_0 := bA.now.cell 0 _ rfl
    have q_bA_1 := bA.now.cell 1 _ rfl
    have q_bA_l := bA.now.lt
    go_wp2_with fail
    clear q_bA_0 q_bA_1 q_bA_l
    obtain ⟨v7, e_v7⟩ : ∃ xw, xw = v6.alloc (.cells #[.slice a_zd R.1.length c_zd, .slice b_zd R.2.length e_zd] 57) := ⟨_, rfl⟩
    have hb : Below v6.heap.size v6 v7 := by rw [e_v7]; exact (Below.refl _ _).alloc (Nat.le_refl _) _
    have bZ : Dep v7 v6.heap.size (v6.heap.size + 1) (fun Wd => Row Wd v6.heap.size [.slice a_zd R.1.length c_zd, .slice b_zd R.2.length e_zd]) := by rw [e_v7]; exact dep_box _ _ _
    have s_v7 : v6.heap.size + 1 ≤ v7.heap.size := by rw [e_v7]; simp
    rw [← e_v7]
    clear e_v7
    have n_bA := bA.below hb
    clear bA
    have bA := n_bA
    clear n_bA
    have n_zds := zds.below hb
    clear zds
    have zds := n_zds
    clear n_zds
    have n_zdp := zdp.below hb
    clear zdp
    have zdp := n_zdp
    clear n_zdp
    have n_hE := hE.trans (hb.mono hE.size)
    clear hE
    have hE := n_hE
    clear n_hE
    clear hb
    refine (HTO.out _ (h.below hE) (h'.below hE)).mono ?_
    rintro e v8 ⟨g_xd, p_xd, rfl, hg_xd, hp_xd, hn_xd, hr_xd, hq_xd, hb⟩
    have s_v8 : v7.heap.size ≤ v8.heap.size := hb.size
    have n_bA := bA.below hb
    clear bA
    have bA := n_bA
    clear n_bA
    have n_zds := zds.below hb
    clear zds
    have zds := n_zds
    clear n_zds
    have n_zdp := zdp.below hb
    clear zdp
    have zdp := n_zdp
    clear n_zdp
    have n_bZ := bZ.below hb
    clear bZ
    have bZ := n_bZ
    clear n_bZ
    have n_hE := hE.trans (hb.mono hE.size)
    clear hE
    have hE := n_hE
    clear n_hE
    have xds : Dep v8 v7.heap.size v8.heap.size (fun W => Row W g_xd (ss.map Value.string)) := dep_row hr_xd hg_xd hr_xd.lt (Nat.le_refl _)
    have xdp : Dep v8 v7.heap.size v8.heap.size (fun W => Row W p_xd (wcells ws)) := dep_row hq_xd hp_xd hq_xd.lt (Nat.le_refl _)
    have gl_xd := hr_xd.lt
    have pl_xd := hq_xd.lt
    clear hr_xd hq_xd
    clear hb
    go_wp2_with fail
    obtain ⟨v9, e_v9⟩ : ∃ xw, xw = v8.alloc (.cells #[.slice (some ⟨g_xd, 0, none⟩) ss.length ss.length, .slice (some ⟨p_xd, 0, none⟩) ws.length ws.length] 57) := ⟨_, rfl⟩
    have hb : Below v8.heap.size v8 v9 := by rw [e_v9]; exact (Below.refl _ _).alloc (Nat.le_refl _) _
    have bX : Dep v9 v8.heap.size (v8.heap.size + 1) (fun Wd => Row Wd v8.heap.size [.slice (some ⟨g_xd, 0, none⟩) ss.length ss.length, .slice (some ⟨p_xd, 0, none⟩) ws.length ws.length]) := by rw [e_v9]; exact dep_box _ _ _
    have s_v9 : v8.heap.size + 1 ≤ v9.heap.size := by rw [e_v9]; simp
    rw [← e_v9]
    clear e_v9
    have n_bA := bA.below hb
    clear bA
    have bA := n_bA
    clear n_bA
    have n_zds := zds.below hb
    clear zds
    have zds := n_zds
    clear n_zds
    have n_zdp := zdp.below hb
    clear zdp
    have zdp := n_zdp
    clear n_zdp
    have n_bZ := bZ.below hb
    clear bZ
    have bZ := n_bZ
    clear n_bZ
    have n_xds := xds.below hb
    clear xds
    have xds := n_xds
    clear n_xds
    have n_xdp := xdp.below hb
    clear xdp
    have xdp := n_xdp
    clear n_xdp
    have n_hE := hE.trans (hb.mono hE.size)
    clear hE
    have hE := n_hE
    clear n_hE
    clear hb
    refine (HTC.out _ (hz.below hE)).mono ?_
    rintro e v10 ⟨g_yd, rfl, hg_yd, hr_yd, hb⟩
    have s_v10 : v9.heap.size ≤ v10.heap.size := hb.size
    have n_bA := bA.below hb
    clear bA
    have bA := n_bA
    clear n_bA
    have n_zds := zds.below hb
    clear zds
    have zds := n_zds
    clear n_zds
    have n_zdp := zdp.below hb
    clear zdp
    have zdp := n_zdp
    clear n_zdp
    have n_bZ := bZ.below hb
    clear bZ
    have bZ := n_bZ
    clear n_bZ
    have n_xds := xds.below hb
    clear xds
    have xds := n_xds
    clear n_xds
    have n_xdp := xdp.below hb
    clear xdp
    have xdp := n_xdp
    clear n_xdp
    have n_bX := bX.below hb
    clear bX
    have bX := n_bX
    clear n_bX
    have n_hE := hE.trans (hb.mono hE.size)
    clear hE
    have hE := n_hE
    clear n_hE
    have yd : Dep v10 v9.heap.size v10.heap.size (fun W => Row W g_yd (opcells rs)) := dep_row hr_yd hg_yd hr_yd.lt (Nat.le_refl _)
    have gl_yd := hr_yd.lt
    clear hr_yd
    clear hb
    have q_bX_0 := bX.now.cell 0 _ rfl
    have q_bX_1 := bX.now.cell 1 _ rfl
    have q_bX_l := bX.now.lt
    go_wp2_with fail
    clear q_bX_0 q_bX_1 q_bX_l
    refine (HIM.out _ _ _ _ xds.now.strs xdp.now.wrs yd.now.ops).mono ?_
    rintro e v11 ⟨a_gd, c_gd, b_gd, e_gd, rfl, ho, hg, hg', hb⟩
    have s_v11 : v10.heap.size ≤ v11.heap.size := hb.size
    have n_bA := bA.below hb
    clear bA
    have bA := n_bA
    clear n_bA
    have n_zds := zds.below hb
    clear zds
    have zds := n_zds
    clear n_zds
    have n_zdp := zdp.below hb
    clear zdp
    have zdp := n_zdp
    clear n_zdp
    have n_bZ := bZ.below hb
    clear bZ
    have bZ := n_bZ
    clear n_bZ
    have n_xds := xds.below hb
    clear xds
    have xds := n_xds
    clear n_xds
    have n_xdp := xdp.below hb
    clear xdp
    have xdp := n_xdp
    clear n_xdp
    have n_bX := bX.below hb
    clear bX
    have bX := n_bX
    clear n_bX
    have n_yd := yd.below hb
    clear yd
    have yd := n_yd
    clear n_yd
    have n_hE := hE.trans (hb.mono hE.size)
    clear hE
    have hE := n_hE
    clear n_hE
    have gds : Dep v11 v10.heap.size v11.heap.size (fun W => OwnS W a_gd (R.1.map Value.string)) := dep_own ho.s strs_neA hg
    have gdp : Dep v11 v10.heap.size v11.heap.size (fun W => OwnS W b_gd (wcells R.2)) := dep_own ho.p wcells_neA hg'
    have lo_gds : ∀ g, blk a_gd R.1.length = some g → v10.heap.size ≤ g ∧ g < v11.heap.size := fun g hh => ⟨hg g hh, ho.s.lt _ strs_neB g hh⟩
    have lo_gdp : ∀ g, blk b_gd R.2.length = some g → v10.heap.size ≤ g ∧ g < v11.heap.size := fun g hh => ⟨hg' g hh, ho.p.lt _ wcells_neB g hh⟩
    have ne_gd := ho.ne
    clear ho hg hg'
    clear hb
    have q_bZ_0 := bZ.now.cell 0 _ rfl
    have q_bZ_1 := bZ.now.cell 1 _ rfl
    have q_bZ_l := bZ.now.lt
    go_wp2_with fail
    clear q_bZ_0 q_bZ_1 q_bZ_l
    obtain ⟨v12, e_v12⟩ : ∃ xw, xw = v11.alloc (.cells #[.slice a_gd R.1.length c_gd, .slice b_gd R.2.length e_gd] 57) := ⟨_, rfl⟩
    have hb : Below v11.heap.size v11 v12 := by rw [e_v12]; exact (Below.refl _ _).alloc (Nat.le_refl _) _
    have bG : Dep v12 v11.heap.size (v11.heap.size + 1) (fun Wd => Row Wd v11.heap.size [.slice a_gd R.1.length c_gd, .slice b_gd R.2.length e_gd]) := by rw [e_v12]; exact dep_box _ _ _
    have s_v12 : v11.heap.size + 1 ≤ v12.heap.size := by rw [e_v12]; simp
    rw [← e_v12]
    clear e_v12
    have n_bA := bA.below hb
    clear bA
    have bA := n_bA
    clear n_bA
    have n_zds := zds.below hb
    clear zds
    have zds := n_zds
    clear n_zds
    have n_zdp := zdp.below hb
    clear zdp
    have zdp := n_zdp
    clear n_zdp
    have n_bZ := bZ.below hb
    clear bZ
    have bZ := n_bZ
    clear n_bZ
    have n_xds := xds.below hb
    clear xds
    have xds := n_xds
    clear n_xds
    have n_xdp := xdp.below hb
    clear xdp
    have xdp := n_xdp
    clear n_xdp
    have n_bX := bX.below hb
    clear bX
    have bX := n_bX
    clear n_bX
    have n_yd := yd.below hb
    clear yd
    have yd := n_yd
    clear n_yd
    have n_gds := gds.below hb
    clear gds
    have gds := n_gds
    clear n_gds
    have n_gdp := gdp.below hb
    clear gdp
    have gdp := n_gdp
    clear n_gdp
    have n_hE := hE.trans (hb.mono hE.size)
    clear hE
    have hE := n_hE
    clear n_hE
    clear hb
    refine (HEQ.out _ _ _ _ _ _ _ _ _ gds.now.strs zds.now.strs gdp.now.wrs zdp.now.wrs).mono ?_
    rintro e v13 ⟨rfl, hb⟩
    have s_v13 : v12.heap.size ≤ v13.heap.size := hb.size
    have n_bA := bA.below hb
    clear bA
    have bA := n_bA
    clear n_bA
    have n_zds := zds.below hb
    clear zds
    have zds := n_zds
    clear n_zds
    have n_zdp := zdp.below hb
    clear zdp
    have zdp := n_zdp
    clear n_zdp
    have n_bZ := bZ.below hb
    clear bZ
    have bZ := n_bZ
    clear n_bZ
    have n_xds := xds.below hb
    clear xds
    have xds := n_xds
    clear n_xds
    have n_xdp := xdp.below hb
    clear xdp
    have xdp := n_xdp
    clear n_xdp
    have n_bX := bX.below hb
    clear bX
    have bX := n_bX
    clear n_bX
    have n_yd := yd.below hb
    clear yd
    have yd := n_yd
    clear n_yd
    have n_gds := gds.below hb
    clear gds
    have gds := n_gds
    clear n_gds
    have n_gdp := gdp.below hb
    clear gdp
    have gdp := n_gdp
    clear n_gdp
    have n_bG := bG.below hb
    clear bG
    have bG := n_bG
    clear n_bG
    have n_hE := hE.trans (hb.mono hE.size)
    clear hE
    have hE := n_hE
    clear n_hE
    clear hb
    have q_bA_0 := bA.now.cell 0 _ rfl
    have q_bA_1 := bA.now.cell 1 _ rfl
    have q_bA_l := bA.now.lt
    have q_bX_0 := bX.now.cell 0 _ rfl
    have q_bX_1 := bX.now.cell 1 _ rfl
    have q_bX_l := bX.now.lt
    go_wp2_with fail
    clear q_bA_0 q_bA_1 q_bA_l q_bX_0 q_bX_1 q_bX_l
    have HK : Hid (∀ W, Below v13.heap.size v13 W → W.cell? ⟨w.heap.size, 0, none⟩ = some (.slice a ss.length c) ∧ W.cell? ⟨w.heap.size, 1, none⟩ = some (.slice a' ws.length c') ∧ W.cell? ⟨v8.heap.size, 0, none⟩ = some (.slice (some ⟨g_xd, 0, none⟩) ss.length ss.length) ∧ W.cell? ⟨v8.heap.size, 1, none⟩ = some (.slice (some ⟨p_xd, 0, none⟩) ws.length ws.length)) := fun W hb => ⟨(bA.below hb).now.cell 0 _ rfl, (bA.below hb).now.cell 1 _ rfl, (bX.below hb).now.cell 0 _ rfl, (bX.below hb).now.cell 1 _ rfl⟩
    refine wp_region_held_drew (S := fun w' => w'.cell? ⟨w.heap.size, 0, none⟩ = some (.slice a ss.length c) ∧ w'.cell? ⟨w.heap.size, 1, none⟩ = some (.slice a' ws.length c') ∧ w'.cell? ⟨v8.heap.size, 0, none⟩ = some (.slice (some ⟨g_xd, 0, none⟩) ss.length ss.length) ∧ w'.cell? ⟨v8.heap.size, 1, none⟩ = some (.slice (some ⟨p_xd, 0, none⟩) ws.length ws.length)) (by kernel_rfl) (HK.out _ (Below.refl _ _).drew) (fun hHeld => ?_)
    refine wpAnyH_take (i := 0) (v := .agg #[.slice (some ⟨g_xd, 0, none⟩) ss.length ss.length, .slice (some ⟨p_xd, 0, none⟩) ws.length ws.length]) rfl (by kernel_rfl) (by kernel_rfl) (by kernel_rfl) (fun _ _ _ h => h) (Or.inl ⟨by rfl, fun w hw => by obtain ⟨z0, z1, z2, z3⟩ := hw; go_simp⟩) hHeld ?_
    simp only [Act.put, List.getElem_toArray, List.getElem_cons_zero, List.getElem_cons_succ, List.setIfInBounds_toArray, List.set_cons_zero, List.set_cons_succ]
    refine wpAnyH_take (i := 1) (v := .agg #[.slice a ss.length c, .slice a' ws.length c']) rfl (by kernel_rfl) (by kernel_rfl) (by kernel_rfl) (fun _ _ _ h => h) (Or.inl ⟨by rfl, fun w hw => by obtain ⟨z0, z1, z2, z3⟩ := hw; go_simp⟩) hHeld ?_
    simp only [Act.put, List.getElem_toArray, List.getElem_cons_zero, List.getElem_cons_succ, List.setIfInBounds_toArray, List.set_cons_zero, List.set_cons_succ]
    refine wpAnyH_ready (rs := [2]) (by kernel_rfl) (by simp) ?_
    refine AllReadyH.cons rfl (fun K hK => ?_) AllReadyH.nil
    refine step_call (by rfl) 25 #[.agg #[.slice a ss.length c, .slice a' ws.length c']] (by go_simp) (HTO.out _ ((h.below hE).below (Below.refl _ _).drew) ((h'.below hE).below (Below.refl _ _).drew)) ?_
    rintro e u1 ⟨g_u, p_u, rfl, _, _, _, hr_u, hq_u, hb_u⟩
    refine ⟨_, rfl, ?_⟩
    have hb_u' : Below v13.heap.size v13 u1 := (Below.refl _ _).drew.trans hb_u
    refine hK.out _ _ (HK.out _ hb_u') (fun hHd1 => ?_)
    clear hK K
    try simp only [Act.put, List.getElem_toArray, List.getElem_cons_zero, List.getElem_cons_succ, List.setIfInBounds_toArray, List.set_cons_zero, List.set_cons_succ]
    refine wpAnyH_ready (rs := [3]) (by kernel_rfl) (by simp) ?_
    refine AllReadyH.cons rfl (fun K hK => ?_) AllReadyH.nil
    refine step_call (by rfl) 28 #[.agg #[.slice (some ⟨g_xd, 0, none⟩) ss.length ss.length, .slice (some ⟨p_xd, 0, none⟩) ws.length ws.length], .agg #[.slice (some ⟨g_u, 0, none⟩) ss.length ss.length, .slice (some ⟨p_u, 0, none⟩) ws.length ws.length]] (by go_simp) (HEX.out _ _ _ _ _ _ _ _ _ (xds.below hb_u').now.strs hr_u.strs (xdp.below hb_u').now.wrs hq_u.wrs) ?_
    rintro e u2 ⟨rfl, hb_v⟩
    refine ⟨_, rfl, ?_⟩
    have hb_v' := hb_u'.trans (hb_v.mono hb_u'.size)
    refine hK.out _ _ (HK.out _ hb_v') (fun hHd2 => ?_)
    clear hK K
    try simp only [Act.put, List.getElem_toArray, List.getElem_cons_zero, List.getElem_cons_succ, List.setIfInBounds_toArray, List.set_cons_zero, List.set_cons_succ]
    refine wpAnyH_take (i := 4) (v := .bool false) rfl (by kernel_rfl) (by kernel_rfl) (by kernel_rfl) (fun _ _ _ h => h) (Or.inl ⟨by rfl, fun w hw => by obtain ⟨z0, z1, z2, z3⟩ := hw; go_simp⟩) hHd2 ?_
    simp only [Act.put, List.getElem_toArray, List.getElem_cons_zero, List.getElem_cons_succ, List.setIfInBounds_toArray, List.set_cons_zero, List.set_cons_succ]
    refine wpAnyH_done (by kernel_rfl) ?_ _
    have hb := hb_v'
    clear HK hb_u hb_u' hr_u hq_u hb_v hb_v' hHeld hHd1 hHd2
    have s_u2 : v13.heap.size ≤ u2.heap.size := hb.size
    have n_bA := bA.below hb
    clear bA
    have bA := n_bA
    clear n_bA
    have n_zds := zds.below hb
    clear zds
    have zds := n_zds
    clear n_zds
    have n_zdp := zdp.below hb
    clear zdp
    have zdp := n_zdp
    clear n_zdp
    have n_bZ := bZ.below hb
    clear bZ
    have bZ := n_bZ
    clear n_bZ
    have n_xds := xds.below hb
    clear xds
    have xds := n_xds
    clear n_xds
    have n_xdp := xdp.below hb
    clear xdp
    have xdp := n_xdp
    clear n_xdp
    have n_bX := bX.below hb
    clear bX
    have bX := n_bX
    clear n_bX
    have n_yd := yd.below hb
    clear yd
    have yd := n_yd
    clear n_yd
    have n_gds := gds.below hb
    clear gds
    have gds := n_gds
    clear n_gds
    have n_gdp := gdp.below hb
    clear gdp
    have gdp := n_gdp
    clear n_gdp
    have n_bG := bG.below hb
    clear bG
    have bG := n_bG
    clear n_bG
    have n_hE := hE.trans (hb.mono hE.size)
    clear hE
    have hE := n_hE
    clear n_hE
    clear hb
    go_wp2_with fail
    refine (HTC.out _ (hz.below hE)).mono ?_
    rintro e v14 ⟨g_t3, rfl, hg_t3, hr_t3, hb⟩
    have s_v14 : u2.heap.size ≤ v14.heap.size := hb.size
    have n_bA := bA.below hb
    clear bA
    have bA := n_bA
    clear n_bA
    have n_zds := zds.below hb
    clear zds
    have zds := n_zds
    clear n_zds
    have n_zdp := zdp.below hb
    clear zdp
    have zdp := n_zdp
    clear n_zdp
    have n_bZ := bZ.below hb
    clear bZ
    have bZ := n_bZ
    clear n_bZ
    have n_xds := xds.below hb
    clear xds
    have xds := n_xds
    clear n_xds
    have n_xdp := xdp.below hb
    clear xdp
    have xdp := n_xdp
    clear n_xdp
    have n_bX := bX.below hb
    clear bX
    have bX := n_bX
    clear n_bX
    have n_yd := yd.below hb
    clear yd
    have yd := n_yd
    clear n_yd
    have n_gds := gds.below hb
    clear gds
    have gds := n_gds
    clear n_gds
    have n_gdp := gdp.below hb
    clear gdp
    have gdp := n_gdp
    clear n_gdp
    have n_bG := bG.below hb
    clear bG
    have bG := n_bG
    clear n_bG
    have n_hE := hE.trans (hb.mono hE.size)
    clear hE
    have hE := n_hE
    clear n_hE
    have t3 : Dep v14 u2.heap.size v14.heap.size (fun W => Row W g_t3 (opcells rs)) := dep_row hr_t3 hg_t3 hr_t3.lt (Nat.le_refl _)
    have gl_t3 := hr_t3.lt
    clear hr_t3
    clear hb
    go_wp2_with fail
    refine (HEC.out _ _ _ _ _ yd.now.ops t3.now.ops).mono ?_
    rintro e v15 ⟨rfl, hb⟩
    have s_v15 : v14.heap.size ≤ v15.heap.size := hb.size
    have n_bA := bA.below hb
    clear bA
    have bA := n_bA
    clear n_bA
    have n_zds := zds.below hb
    clear zds
    have zds := n_zds
    clear n_zds
    have n_zdp := zdp.below hb
    clear zdp
    have zdp := n_zdp
    clear n_zdp
    have n_bZ := bZ.below hb
    clear bZ
    have bZ := n_bZ
    clear n_bZ
    have n_xds := xds.below hb
    clear xds
    have xds := n_xds
    clear n_xds
    have n_xdp := xdp.below hb
    clear xdp
    have xdp := n_xdp
    clear n_xdp
    have n_bX := bX.below hb
    clear bX
    have bX := n_bX
    clear n_bX
    have n_yd := yd.below hb
    clear yd
    have yd := n_yd
    clear n_yd
    have n_gds := gds.below hb
    clear gds
    have gds := n_gds
    clear n_gds
    have n_gdp := gdp.below hb
    clear gdp
    have gdp := n_gdp
    clear n_gdp
    have n_bG := bG.below hb
    clear bG
    have bG := n_bG
    clear n_bG
    have n_t3 := t3.below hb
    clear t3
    have t3 := n_t3
    clear n_t3
    have n_hE := hE.trans (hb.mono hE.size)
    clear hE
    have hE := n_hE
    clear n_hE
    clear hb
    clear t3
    have q_bX_0 := bX.now.cell 0 _ rfl
    have q_bX_1 := bX.now.cell 1 _ rfl
    have q_bX_l := bX.now.lt
    go_wp2_with fail
    clear q_bX_0 q_bX_1 q_bX_l
    have k_xds := xds.now
    clear xds
    have k_xdp := xdp.now
    clear xdp
    refine (HMX.out _ _ _ _ _ ⟨.inr ⟨g_xd, rfl, k_xds⟩, .inr ⟨p_xd, rfl, k_xdp⟩, own_ne hn_xd⟩).mono ?_
    rintro e v16 ⟨rfl, ⟨wa, wb, ma, mb, mc⟩, hd⟩
    have s_v16 : v15.heap.size ≤ v16.heap.size := Nat.le_trans ma.size (Nat.le_trans mb.size mc.size)
    have hgs : ∀ g, blk (some ⟨g_xd, 0, none⟩) ss.length = some g → v7.heap.size ≤ g ∧ g < v8.heap.size := fun g hg => by have := blk_is hg; rw [this]; exact ⟨hg_xd, gl_xd⟩
    have hgp : ∀ g, blk (some ⟨p_xd, 0, none⟩) ws.length = some g → v7.heap.size ≤ g ∧ g < v8.heap.size := fun g hg => by have := blk_is hg; rw [this]; exact ⟨hp_xd, pl_xd⟩
    have n_bA := bA.below ma
    clear bA
    have bA := n_bA
    clear n_bA
    have n_zds := zds.below ma
    clear zds
    have zds := n_zds
    clear n_zds
    have n_zdp := zdp.below ma
    clear zdp
    have zdp := n_zdp
    clear n_zdp
    have n_bZ := bZ.below ma
    clear bZ
    have bZ := n_bZ
    clear n_bZ
    have n_bX := bX.below ma
    clear bX
    have bX := n_bX
    clear n_bX
    have n_yd := yd.below ma
    clear yd
    have yd := n_yd
    clear n_yd
    have n_gds := gds.below ma
    clear gds
    have gds := n_gds
    clear n_gds
    have n_gdp := gdp.below ma
    clear gdp
    have gdp := n_gdp
    clear n_gdp
    have n_bG := bG.below ma
    clear bG
    have bG := n_bG
    clear n_bG
    have n_hE := hE.trans (ma.mono hE.size)
    clear hE
    have hE := n_hE
    clear n_hE
    have n_bA := bA.grown mb (fun g hg => by have := hgs g hg; omega)
    clear bA
    have bA := n_bA
    clear n_bA
    have n_zds := zds.grown mb (fun g hg => by have := hgs g hg; omega)
    clear zds
    have zds := n_zds
    clear n_zds
    have n_zdp := zdp.grown mb (fun g hg => by have := hgs g hg; omega)
    clear zdp
    have zdp := n_zdp
    clear n_zdp
    have n_bZ := bZ.grown mb (fun g hg => by have := hgs g hg; omega)
    clear bZ
    have bZ := n_bZ
    clear n_bZ
    have n_bX := bX.grown mb (fun g hg => by have := hgs g hg; omega)
    clear bX
    have bX := n_bX
    clear n_bX
    have n_yd := yd.grown mb (fun g hg => by have := hgs g hg; omega)
    clear yd
    have yd := n_yd
    clear n_yd
    have n_gds := gds.grown mb (fun g hg => by have := hgs g hg; omega)
    clear gds
    have gds := n_gds
    clear n_gds
    have n_gdp := gdp.grown mb (fun g hg => by have := hgs g hg; omega)
    clear gdp
    have gdp := n_gdp
    clear n_gdp
    have n_bG := bG.grown mb (fun g hg => by have := hgs g hg; omega)
    clear bG
    have bG := n_bG
    clear n_bG
    have n_hE := hE.trans (grown_below mb hE.size (fun g hg => by have := hgs g hg; omega))
    clear hE
    have hE := n_hE
    clear n_hE
    have n_bA := bA.grown mc (fun g hg => by have := hgp g hg; omega)
    clear bA
    have bA := n_bA
    clear n_bA
    have n_zds := zds.grown mc (fun g hg => by have := hgp g hg; omega)
    clear zds
    have zds := n_zds
    clear n_zds
    have n_zdp := zdp.grown mc (fun g hg => by have := hgp g hg; omega)
    clear zdp
    have zdp := n_zdp
    clear n_zdp
    have n_bZ := bZ.grown mc (fun g hg => by have := hgp g hg; omega)
    clear bZ
    have bZ := n_bZ
    clear n_bZ
    have n_bX := bX.grown mc (fun g hg => by have := hgp g hg; omega)
    clear bX
    have bX := n_bX
    clear n_bX
    have n_yd := yd.grown mc (fun g hg => by have := hgp g hg; omega)
    clear yd
    have yd := n_yd
    clear n_yd
    have n_gds := gds.grown mc (fun g hg => by have := hgp g hg; omega)
    clear gds
    have gds := n_gds
    clear n_gds
    have n_gdp := gdp.grown mc (fun g hg => by have := hgp g hg; omega)
    clear gdp
    have gdp := n_gdp
    clear n_gdp
    have n_bG := bG.grown mc (fun g hg => by have := hgp g hg; omega)
    clear bG
    have bG := n_bG
    clear n_bG
    have n_hE := hE.trans (grown_below mc hE.size (fun g hg => by have := hgp g hg; omega))
    clear hE
    have hE := n_hE
    clear n_hE
    clear ma mb mc hd hgs hgp k_xds k_xdp
    go_wp2_with fail
    refine (HMC.out _ _ _ (.inr ⟨g_yd, rfl, yd.now⟩)).mono ?_
    rintro e v17 ⟨rfl, hgw, how⟩
    have s_v17 : v16.heap.size ≤ v17.heap.size := hgw.size
    have hgr : ∀ g, blk (some ⟨g_yd, 0, none⟩) rs.length = some g → v9.heap.size ≤ g ∧ g < v10.heap.size := fun g hg => by have := blk_is hg; rw [this]; exact ⟨hg_yd, gl_yd⟩
    have n_bA := bA.grown hgw (fun g hg => by have := hgr g hg; omega)
    clear bA
    have bA := n_bA
    clear n_bA
    have n_zds := zds.grown hgw (fun g hg => by have := hgr g hg; omega)
    clear zds
    have zds := n_zds
    clear n_zds
    have n_zdp := zdp.grown hgw (fun g hg => by have := hgr g hg; omega)
    clear zdp
    have zdp := n_zdp
    clear n_zdp
    have n_bZ := bZ.grown hgw (fun g hg => by have := hgr g hg; omega)
    clear bZ
    have bZ := n_bZ
    clear n_bZ
    have n_bX := bX.grown hgw (fun g hg => by have := hgr g hg; omega)
    clear bX
    have bX := n_bX
    clear n_bX
    have n_gds := gds.grown hgw (fun g hg => by have := hgr g hg; omega)
    clear gds
    have gds := n_gds
    clear n_gds
    have n_gdp := gdp.grown hgw (fun g hg => by have := hgr g hg; omega)
    clear gdp
    have gdp := n_gdp
    clear n_gdp
    have n_bG := bG.grown hgw (fun g hg => by have := hgr g hg; omega)
    clear bG
    have bG := n_bG
    clear n_bG
    have n_hE := hE.trans (grown_below hgw hE.size (fun g hg => by have := hgr g hg; omega))
    clear hE
    have hE := n_hE
    clear n_hE
    clear yd
    clear hgw how hgr
    have q_bG_0 := bG.now.cell 0 _ rfl
    have q_bG_1 := bG.now.cell 1 _ rfl
    have q_bG_l := bG.now.lt
    have q_bZ_0 := bZ.now.cell 0 _ rfl
    have q_bZ_1 := bZ.now.cell 1 _ rfl
    have q_bZ_l := bZ.now.lt
    go_wp2_with fail
    clear q_bG_0 q_bG_1 q_bG_l q_bZ_0 q_bZ_1 q_bZ_l
    refine (HEQ.out _ _ _ _ _ _ _ _ _ gds.now.strs zds.now.strs gdp.now.wrs zdp.now.wrs).mono ?_
    rintro e v18 ⟨rfl, hb⟩
    have s_v18 : v17.heap.size ≤ v18.heap.size := hb.size
    have n_bA := bA.below hb
    clear bA
    have bA := n_bA
    clear n_bA
    have n_zds := zds.below hb
    clear zds
    have zds := n_zds
    clear n_zds
    have n_zdp := zdp.below hb
    clear zdp
    have zdp := n_zdp
    clear n_zdp
    have n_bZ := bZ.below hb
    clear bZ
    have bZ := n_bZ
    clear n_bZ
    have n_bX := bX.below hb
    clear bX
    have bX := n_bX
    clear n_bX
    have n_gds := gds.below hb
    clear gds
    have gds := n_gds
    clear n_gds
    have n_gdp := gdp.below hb
    clear gdp
    have gdp := n_gdp
    clear n_gdp
    have n_bG := bG.below hb
    clear bG
    have bG := n_bG
    clear n_bG
    have n_hE := hE.trans (hb.mono hE.size)
    clear hE
    have hE := n_hE
    clear n_hE
    clear hb
    have q_bG_0 := bG.now.cell 0 _ rfl
    have q_bG_1 := bG.now.cell 1 _ rfl
    have q_bG_l := bG.now.lt
    go_wp2_with fail
    clear q_bG_0 q_bG_1 q_bG_l
    have k_gds := gds.now
    clear gds
    have k_gdp := gdp.now
    clear gdp
    refine (HMG.out _ _ _ _ _ ⟨k_gds, k_gdp, ne_gd⟩).mono ?_
    rintro e v19 ⟨rfl, ⟨wa, wb, ma, mb, mc⟩, hd⟩
    have s_v19 : v18.heap.size ≤ v19.heap.size := Nat.le_trans ma.size (Nat.le_trans mb.size mc.size)
    have hgs : ∀ g, blk a_gd R.1.length = some g → v10.heap.size ≤ g ∧ g < v11.heap.size := lo_gds
    have hgp : ∀ g, blk b_gd R.2.length = some g → v10.heap.size ≤ g ∧ g < v11.heap.size := lo_gdp
    have n_bA := bA.below ma
    clear bA
    have bA := n_bA
    clear n_bA
    have n_zds := zds.below ma
    clear zds
    have zds := n_zds
    clear n_zds
    have n_zdp := zdp.below ma
    clear zdp
    have zdp := n_zdp
    clear n_zdp
    have n_bZ := bZ.below ma
    clear bZ
    have bZ := n_bZ
    clear n_bZ
    have n_bX := bX.below ma
    clear bX
    have bX := n_bX
    clear n_bX
    have n_bG := bG.below ma
    clear bG
    have bG := n_bG
    clear n_bG
    have n_hE := hE.trans (ma.mono hE.size)
    clear hE
    have hE := n_hE
    clear n_hE
    have n_bA := bA.grown mb (fun g hg => by have := hgs g hg; omega)
    clear bA
    have bA := n_bA
    clear n_bA
    have n_zds := zds.grown mb (fun g hg => by have := hgs g hg; omega)
    clear zds
    have zds := n_zds
    clear n_zds
    have n_zdp := zdp.grown mb (fun g hg => by have := hgs g hg; omega)
    clear zdp
    have zdp := n_zdp
    clear n_zdp
    have n_bZ := bZ.grown mb (fun g hg => by have := hgs g hg; omega)
    clear bZ
    have bZ := n_bZ
    clear n_bZ
    have n_bX := bX.grown mb (fun g hg => by have := hgs g hg; omega)
    clear bX
    have bX := n_bX
    clear n_bX
    have n_bG := bG.grown mb (fun g hg => by have := hgs g hg; omega)
    clear bG
    have bG := n_bG
    clear n_bG
    have n_hE := hE.trans (grown_below mb hE.size (fun g hg => by have := hgs g hg; omega))
    clear hE
    have hE := n_hE
    clear n_hE
    have n_bA := bA.grown mc (fun g hg => by have := hgp g hg; omega)
    clear bA
    have bA := n_bA
    clear n_bA
    have n_zds := zds.grown mc (fun g hg => by have := hgp g hg; omega)
    clear zds
    have zds := n_zds
    clear n_zds
    have n_zdp := zdp.grown mc (fun g hg => by have := hgp g hg; omega)
    clear zdp
    have zdp := n_zdp
    clear n_zdp
    have n_bZ := bZ.grown mc (fun g hg => by have := hgp g hg; omega)
    clear bZ
    have bZ := n_bZ
    clear n_bZ
    have n_bX := bX.grown mc (fun g hg => by have := hgp g hg; omega)
    clear bX
    have bX := n_bX
    clear n_bX
    have n_bG := bG.grown mc (fun g hg => by have := hgp g hg; omega)
    clear bG
    have bG := n_bG
    clear n_bG
    have n_hE := hE.trans (grown_below mc hE.size (fun g hg => by have := hgp g hg; omega))
    clear hE
    have hE := n_hE
    clear n_hE
    have gds : Dep v19 v10.heap.size v11.heap.size (fun W => OwnS W a_gd ((marks 1 R.1.length).map Value.string)) := (dep_own hd.s (fun h => by have := strs_neA h; rwa [marks_length] at this) (fun g hg => (lo_gds g hg).1)).cut (fun g h1 h2 => (lo_gds g (by subst h1; exact blk_pos _ _ _ (by have := strs_neA h2; rwa [marks_length] at this))).2) (by omega) (fun g h1 h2 => (lo_gds g (by subst h1; exact blk_pos _ _ _ (by have := strs_neA h2; rwa [marks_length] at this))).1)
    have gdp : Dep v19 v10.heap.size v11.heap.size (fun W => OwnS W b_gd (wcells (wmarks (1 + R.1.length) R.2.length))) := (dep_own hd.p (fun h => by have := wcells_neA h; rwa [wmarks_length] at this) (fun g hg => (lo_gdp g hg).1)).cut (fun g h1 h2 => (lo_gdp g (by subst h1; exact blk_pos _ _ _ (by have := wcells_neA h2; rwa [wmarks_length] at this))).2) (by omega) (fun g h1 h2 => (lo_gdp g (by subst h1; exact blk_pos _ _ _ (by have := wcells_neA h2; rwa [wmarks_length] at this))).1)
    clear ma mb mc hd hgs hgp k_gds k_gdp
    have q_bG_0 := bG.now.cell 0 _ rfl
    have q_bG_1 := bG.now.cell 1 _ rfl
    have q_bG_l := bG.now.lt
    go_wp2_with fail
    clear q_bG_0 q_bG_1 q_bG_l
    refine (HHG.out _ _ _ _ _ gds.now gdp.now).mono ?_
    rintro e v20 ⟨rfl, hb⟩
    have s_v20 : v19.heap.size ≤ v20.heap.size := hb.size
    have n_bA := bA.below hb
    clear bA
    have bA := n_bA
    clear n_bA
    have n_zds := zds.below hb
    clear zds
    have zds := n_zds
    clear n_zds
    have n_zdp := zdp.below hb
    clear zdp
    have zdp := n_zdp
    clear n_zdp
    have n_bZ := bZ.below hb
    clear bZ
    have bZ := n_bZ
    clear n_bZ
    have n_bX := bX.below hb
    clear bX
    have bX := n_bX
    clear n_bX
    have n_bG := bG.below hb
    clear bG
    have bG := n_bG
    clear n_bG
    have n_gds := gds.below hb
    clear gds
    have gds := n_gds
    clear n_gds
    have n_gdp := gdp.below hb
    clear gdp
    have gdp := n_gdp
    clear n_gdp
    have n_hE := hE.trans (hb.mono hE.size)
    clear hE
    have hE := n_hE
    clear n_hE
    clear hb
    have q_bA_0 := bA.now.cell 0 _ rfl
    have q_bA_1 := bA.now.cell 1 _ rfl
    have q_bA_l := bA.now.lt
    go_wp2_with fail
    clear q_bA_0 q_bA_1 q_bA_l
    refine (HTO.out _ (h.below hE) (h'.below hE)).mono ?_
    rintro e v21 ⟨g_t4, p_t4, rfl, hg_t4, hp_t4, hn_t4, hr_t4, hq_t4, hb⟩
    have s_v21 : v20.heap.size ≤ v21.heap.size := hb.size
    have n_bA := bA.below hb
    clear bA
    have bA := n_bA
    clear n_bA
    have n_zds := zds.below hb
    clear zds
    have zds := n_zds
    clear n_zds
    have n_zdp := zdp.below hb
    clear zdp
    have zdp := n_zdp
    clear n_zdp
    have n_bZ := bZ.below hb
    clear bZ
    have bZ := n_bZ
    clear n_bZ
    have n_bX := bX.below hb
    clear bX
    have bX := n_bX
    clear n_bX
    have n_bG := bG.below hb
    clear bG
    have bG := n_bG
    clear n_bG
    have n_gds := gds.below hb
    clear gds
    have gds := n_gds
    clear n_gds
    have n_gdp := gdp.below hb
    clear gdp
    have gdp := n_gdp
    clear n_gdp
    have n_hE := hE.trans (hb.mono hE.size)
    clear hE
    have hE := n_hE
    clear n_hE
    have t4s : Dep v21 v20.heap.size v21.heap.size (fun W => Row W g_t4 (ss.map Value.string)) := dep_row hr_t4 hg_t4 hr_t4.lt (Nat.le_refl _)
    have t4p : Dep v21 v20.heap.size v21.heap.size (fun W => Row W p_t4 (wcells ws)) := dep_row hq_t4 hp_t4 hq_t4.lt (Nat.le_refl _)
    have gl_t4 := hr_t4.lt
    have pl_t4 := hq_t4.lt
    clear hr_t4 hq_t4
    clear hb
    go_wp2_with fail
    refine (HTC.out _ (hz.below hE)).mono ?_
    rintro e v22 ⟨g_t5, rfl, hg_t5, hr_t5, hb⟩
    have s_v22 : v21.heap.size ≤ v22.heap.size := hb.size
    have n_bA := bA.below hb
    clear bA
    have bA := n_bA
    clear n_bA
    have n_zds := zds.below hb
    clear zds
    have zds := n_zds
    clear n_zds
    have n_zdp := zdp.below hb
    clear zdp
    have zdp := n_zdp
    clear n_zdp
    have n_bZ := bZ.below hb
    clear bZ
    have bZ := n_bZ
    clear n_bZ
    have n_bX := bX.below hb
    clear bX
    have bX := n_bX
    clear n_bX
    have n_bG := bG.below hb
    clear bG
    have bG := n_bG
    clear n_bG
    have n_gds := gds.below hb
    clear gds
    have gds := n_gds
    clear n_gds
    have n_gdp := gdp.below hb
    clear gdp
    have gdp := n_gdp
    clear n_gdp
    have n_t4s := t4s.below hb
    clear t4s
    have t4s := n_t4s
    clear n_t4s
    have n_t4p := t4p.below hb
    clear t4p
    have t4p := n_t4p
    clear n_t4p
    have n_hE := hE.trans (hb.mono hE.size)
    clear hE
    have hE := n_hE
    clear n_hE
    have t5 : Dep v22 v21.heap.size v22.heap.size (fun W => Row W g_t5 (opcells rs)) := dep_row hr_t5 hg_t5 hr_t5.lt (Nat.le_refl _)
    have gl_t5 := hr_t5.lt
    clear hr_t5
    clear hb
    go_wp2_with fail
    refine (HIM.out _ _ _ _ t4s.now.strs t4p.now.wrs t5.now.ops).mono ?_
    rintro e v23 ⟨a_hd, c_hd, b_hd, e_hd, rfl, ho, hg, hg', hb⟩
    have s_v23 : v22.heap.size ≤ v23.heap.size := hb.size
    have n_bA := bA.below hb
    clear bA
    have bA := n_bA
    clear n_bA
    have n_zds := zds.below hb
    clear zds
    have zds := n_zds
    clear n_zds
    have n_zdp := zdp.below hb
    clear zdp
    have zdp := n_zdp
    clear n_zdp
    have n_bZ := bZ.below hb
    clear bZ
    have bZ := n_bZ
    clear n_bZ
    have n_bX := bX.below hb
    clear bX
    have bX := n_bX
    clear n_bX
    have n_bG := bG.below hb
    clear bG
    have bG := n_bG
    clear n_bG
    have n_gds := gds.below hb
    clear gds
    have gds := n_gds
    clear n_gds
    have n_gdp := gdp.below hb
    clear gdp
    have gdp := n_gdp
    clear n_gdp
    have n_t4s := t4s.below hb
    clear t4s
    have t4s := n_t4s
    clear n_t4s
    have n_t4p := t4p.below hb
    clear t4p
    have t4p := n_t4p
    clear n_t4p
    have n_t5 := t5.below hb
    clear t5
    have t5 := n_t5
    clear n_t5
    have n_hE := hE.trans (hb.mono hE.size)
    clear hE
    have hE := n_hE
    clear n_hE
    have hds : Dep v23 v22.heap.size v23.heap.size (fun W => OwnS W a_hd (R.1.map Value.string)) := dep_own ho.s strs_neA hg
    have hdp : Dep v23 v22.heap.size v23.heap.size (fun W => OwnS W b_hd (wcells R.2)) := dep_own ho.p wcells_neA hg'
    have lo_hds : ∀ g, blk a_hd R.1.length = some g → v22.heap.size ≤ g ∧ g < v23.heap.size := fun g hh => ⟨hg g hh, ho.s.lt _ strs_neB g hh⟩
    have lo_hdp : ∀ g, blk b_hd R.2.length = some g → v22.heap.size ≤ g ∧ g < v23.heap.size := fun g hh => ⟨hg' g hh, ho.p.lt _ wcells_neB g hh⟩
    have ne_hd := ho.ne
    clear ho hg hg'
    clear hb
    clear t4s
    clear t4p
    clear t5
    have q_bZ_0 := bZ.now.cell 0 _ rfl
    have q_bZ_1 := bZ.now.cell 1 _ rfl
    have q_bZ_l := bZ.now.lt
    go_wp2_with fail
    clear q_bZ_0 q_bZ_1 q_bZ_l
    obtain ⟨v24, e_v24⟩ : ∃ xw, xw = v23.alloc (.cells #[.slice a_hd R.1.length c_hd, .slice b_hd R.2.length e_hd] 57) := ⟨_, rfl⟩
    have hb : Below v23.heap.size v23 v24 := by rw [e_v24]; exact (Below.refl _ _).alloc (Nat.le_refl _) _
    have bH : Dep v24 v23.heap.size (v23.heap.size + 1) (fun Wd => Row Wd v23.heap.size [.slice a_hd R.1.length c_hd, .slice b_hd R.2.length e_hd]) := by rw [e_v24]; exact dep_box _ _ _
    have s_v24 : v23.heap.size + 1 ≤ v24.heap.size := by rw [e_v24]; simp
    rw [← e_v24]
    clear e_v24
    have n_bA := bA.below hb
    clear bA
    have bA := n_bA
    clear n_bA
    have n_zds := zds.below hb
    clear zds
    have zds := n_zds
    clear n_zds
    have n_zdp := zdp.below hb
    clear zdp
    have zdp := n_zdp
    clear n_zdp
    have n_bZ := bZ.below hb
    clear bZ
    have bZ := n_bZ
    clear n_bZ
    have n_bX := bX.below hb
    clear bX
    have bX := n_bX
    clear n_bX
    have n_bG := bG.below hb
    clear bG
    have bG := n_bG
    clear n_bG
    have n_gds := gds.below hb
    clear gds
    have gds := n_gds
    clear n_gds
    have n_gdp := gdp.below hb
    clear gdp
    have gdp := n_gdp
    clear n_gdp
    have n_hds := hds.below hb
    clear hds
    have hds := n_hds
    clear n_hds
    have n_hdp := hdp.below hb
    clear hdp
    have hdp := n_hdp
    clear n_hdp
    have n_hE := hE.trans (hb.mono hE.size)
    clear hE
    have hE := n_hE
    clear n_hE
    clear hb
    refine (HEQ.out _ _ _ _ _ _ _ _ _ hds.now.strs zds.now.strs hdp.now.wrs zdp.now.wrs).mono ?_
    rintro e v25 ⟨rfl, hb⟩
    have s_v25 : v24.heap.size ≤ v25.heap.size := hb.size
    have n_bA := bA.below hb
    clear bA
    have bA := n_bA
    clear n_bA
    have n_zds := zds.below hb
    clear zds
    have zds := n_zds
    clear n_zds
    have n_zdp := zdp.below hb
    clear zdp
    have zdp := n_zdp
    clear n_zdp
    have n_bZ := bZ.below hb
    clear bZ
    have bZ := n_bZ
    clear n_bZ
    have n_bX := bX.below hb
    clear bX
    have bX := n_bX
    clear n_bX
    have n_bG := bG.below hb
    clear bG
    have bG := n_bG
    clear n_bG
    have n_gds := gds.below hb
    clear gds
    have gds := n_gds
    clear n_gds
    have n_gdp := gdp.below hb
    clear gdp
    have gdp := n_gdp
    clear n_gdp
    have n_hds := hds.below hb
    clear hds
    have hds := n_hds
    clear n_hds
    have n_hdp := hdp.below hb
    clear hdp
    have hdp := n_hdp
    clear n_hdp
    have n_bH := bH.below hb
    clear bH
    have bH := n_bH
    clear n_bH
    have n_hE := hE.trans (hb.mono hE.size)
    clear hE
    have hE := n_hE
    clear n_hE
    clear hb
    have q_bG_0 := bG.now.cell 0 _ rfl
    have q_bG_1 := bG.now.cell 1 _ rfl
    have q_bG_l := bG.now.lt
    go_wp2_with fail
    clear q_bG_0 q_bG_1 q_bG_l
    refine (HHG.out _ _ _ _ _ gds.now gdp.now).mono ?_
    rintro e v26 ⟨rfl, hb⟩
    have s_v26 : v25.heap.size ≤ v26.heap.size := hb.size
    have n_bA := bA.below hb
    clear bA
    have bA := n_bA
    clear n_bA
    have n_zds := zds.below hb
    clear zds
    have zds := n_zds
    clear n_zds
    have n_zdp := zdp.below hb
    clear zdp
    have zdp := n_zdp
    clear n_zdp
    have n_bZ := bZ.below hb
    clear bZ
    have bZ := n_bZ
    clear n_bZ
    have n_bX := bX.below hb
    clear bX
    have bX := n_bX
    clear n_bX
    have n_bG := bG.below hb
    clear bG
    have bG := n_bG
    clear n_bG
    have n_gds := gds.below hb
    clear gds
    have gds := n_gds
    clear n_gds
    have n_gdp := gdp.below hb
    clear gdp
    have gdp := n_gdp
    clear n_gdp
    have n_hds := hds.below hb
    clear hds
    have hds := n_hds
    clear n_hds
    have n_hdp := hdp.below hb
    clear hdp
    have hdp := n_hdp
    clear n_hdp
    have n_bH := bH.below hb
    clear bH
    have bH := n_bH
    clear n_bH
    have n_hE := hE.trans (hb.mono hE.size)
    clear hE
    have hE := n_hE
    clear n_hE
    clear hb
    go_wp2_with fail
    go_ret
    exact ⟨rfl, hE⟩

theorem cells1 : Try.prog.cellsOf 9 = 1 := by kernel_rfl
theorem cells2 : Try.prog.cellsOf 189 = 2 := by kernel_rfl
theorem cellsD : Try.prog.cellsOf 52 = 2 := by kernel_rfl
theorem cells3 : Try.prog.cellsOf 156 = 3 := by kernel_rfl
set_option maxHeartbeats 1000000 in
set_option maxRecDepth 100000 in
theorem lifted (os : Os) (started : os.Started) (H : Type) (enc : TypeId × Value → H) :
    ReturnsInHanded {} Try.checked os 7 .any (Rows.fnExactPerformSpec.pre6 enc Try.prog Try.f7 Rows.fnExactPerformRow.domain false) (Rows.fnExactPerformSpec.post enc Try.prog Try.f7 false true false false) := by
  refine returnsInHanded_of_change (C := Try.checked) own started (by kernel_rfl) Try.func7
    (ChangeSpec.witness6 (enc := enc) (C := Try.checked) false ⟨#[], #[.agg #[.slice none 0 0, .slice none 0 0], .slice none 0 0, .int .i64 0], []⟩ 8 (by kernel_rfl) (by kernel_rfl) (by kernel_rfl) (by kernel_rfl)) ?_
  intro W base args ds gs before hval0 hW hcnd _
  have hval : ∀ (j : Nat) t v, Try.f7.params[j]? = some t → args[j]? = some v → Value.okWide Try.prog W .any base t v := hval0
  have hW' := hW
  obtain ⟨p, q, hA0, hV, rfl, hfz, hnd⟩ := hW
  have hA : DataW.TrodAll enc Try.prog W 0 (fun _ => true) true Try.f7.params.toList args.toList ds p := hA0
  rw [Try.params7] at hA hval
  obtain ⟨v0, vs0, d0, ds0, p0, q0, hargs, rfl, rfl, h0, r0⟩ := trodAll_cons hA
  obtain ⟨v1, vs1, d1, ds1, p1, q1, rfl, rfl, rfl, h1, r1⟩ := trodAll_cons r0
  obtain ⟨v2, vs2, d2, ds2, p2, q2, rfl, rfl, rfl, h2, r2⟩ := trodAll_cons r1
  obtain ⟨rfl, rfl, rfl⟩ := trodAll_nil r2
  obtain rfl : args = #[v0, v1, v2] := by cases args; simp_all
  obtain ⟨rfl, rfl⟩ := trodVars_none hV
  have k0 := h0
  have k1 := h1
  have k2 := h2
  have lt0 : ∀ x ∈ p0, x.block < W.heap.size := by obtain ⟨m, hm⟩ := k0; exact DataW.trod_lt m _ _ _ hm
  have lt1 : ∀ x ∈ p1, x.block < W.heap.size := by obtain ⟨m, hm⟩ := k1; exact DataW.trod_lt m _ _ _ hm
  have lt2 : ∀ x ∈ p2, x.block < W.heap.size := by obtain ⟨m, hm⟩ := k2; exact DataW.trod_lt m _ _ _ hm
  obtain ⟨c0, c1, y0, y1, mm, rfl, _, _, hy0, hy1⟩ := open_agg2 Try.underlying52 (by kernel_rfl) cellsD (hval 0 52 v0 rfl rfl) h0
  obtain ⟨a, ss, c, rfl, hS, hl, hs⟩ := strs_of_trod Try.underlying49 Try.underlying9 cells1 hy0
  obtain ⟨a', ws, c', rfl, hS', hl', hs', _⟩ := wrs_of_trod Try.underlying50 Try.underlying189 cells2 rfl rfl (by kernel_rfl) (by kernel_rfl) Try.underlying3 Try.underlying9 hy1
  obtain ⟨za, zl, zc, rfl⟩ := okWide_slice Try.underlying72 (hval 1 72 v1 rfl rfl)
  obtain ⟨mz, hmz⟩ := h1
  obtain ⟨f, zs, cf, hze, hZ, hlz, hsz⟩ := ops_of_trod Try.underlying72 Try.underlying156 cells3 rfl rfl rfl (by kernel_rfl) (by kernel_rfl) (by kernel_rfl) Try.underlying4 Try.underlying3 Try.underlying9 hmz
  injection hze with hz1 hz2 hz3
  subst hz1 hz2 hz3
  obtain ⟨z, rfl, rfl, rfl, wz⟩ := open_int Try.underlying3 (hval 2 3 v2 rfl rfl) h2
  clear hA0 hval0
  refine (walk a ss c a' ws c' za zs zc z W hS hS' hZ hl hs hl' hs' hlz hsz).mono fun e W' ⟨he, bel⟩ => ?_
  subst he
  exact ⟨_, rfl, _, _, _, [], _, [], hW', trodAll_mk1 (shut_bool Try.underlying4 _), (trodAll_cons_mk (Below.trod laidOut (by kernel_rfl) (of_decide_eq_true (by kernel_rfl)) k0 bel lt0) (trodAll_cons_mk (Below.trod laidOut (by kernel_rfl) (of_decide_eq_true (by kernel_rfl)) k1 bel lt1) (trodAll_cons_mk (Below.trod laidOut (by kernel_rfl) (of_decide_eq_true (by kernel_rfl)) k2 bel lt2) trodAll_mk0))), rfl, bel.frame _, fun h => by cases h⟩

theorem over : Rows.fnExactPerformRow.holds Try.pinned (OpenSpec.ofChange Rows.fnExactPerformSpec) :=
  OpenClaim.holds_of_wide 7 Try.f7 rfl rfl rfl rfl rfl rfl rfl ⟨rfl, rfl, rfl, rfl, rfl⟩ rfl rfl rfl rfl rfl (by kernel_rfl) Try.func7 (by kernel_rfl)
    (of_decide_eq_true (by kernel_rfl)) (by unfold Func.isWrapper; first | (rw [if_pos (by decide +kernel)]; kernel_rfl) | (rw [if_neg (by decide +kernel)]; exact ⟨rfl, rfl⟩))
    (fun os started H enc _ => lifted os started H enc)

theorem proved : Rows.FnExactPerformSaid := over
#print axioms proved
end Go.Proofs.Ytnmaknnnmjfhkad.fnExactPerform
