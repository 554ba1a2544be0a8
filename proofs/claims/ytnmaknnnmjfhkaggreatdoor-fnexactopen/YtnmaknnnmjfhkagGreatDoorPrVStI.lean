import Derived.Test.YtnmaknnnmjfhkagGreatDoorPrVStS
namespace Go.Proofs.YtnmaknnnmjfhkagGreatDoor
open Go.RowKit
set_option linter.unusedVariables false
set_option linter.unusedSimpArgs false
set_option maxRecDepth 4000
theorem half_iV (n : Int) (w : World) : Calls Tryz.prog 223 #[.int .i64 n] w fun e w' => e = .returned (.bool (decide (0 ≤ n ∧ n ≤ 1))) ∧ w' = w := by
  go_enter Tryz.func223, Tryz.ntmps223
  by_cases h1 : n = 0
  · subst h1; go_wp2; go_ret; simp
  · by_cases h2 : n = 1
    · subst h2; go_wp2; go_ret; simp
    · have h3 : decide (0 ≤ n ∧ n ≤ 1) = false := by simp; omega
      rw [h3]; go_wp2; go_ret; simp [h1, h2]
theorem first_iV (n : Int) (w : World) : Calls Tryz.prog 224 #[.int .i64 n] w fun e w' => e = .returned (.bool (decide (1 ≤ n ∧ n ≤ 999999000))) ∧ w' = w := by
  go_enter Tryz.func224, Tryz.ntmps224
  by_cases h1 : 1 ≤ n <;> by_cases h2 : n ≤ 999999000 <;> (go_wp2; go_ret; simp [h1, h2])
theorem root_i (T H F R : Int) (w : World) : Calls Tryz.prog 161 #[.agg #[.int .i64 T, .int .i64 H, .int .i64 F, .int .i64 R]] w fun e w' => e = .returned (.bool (rootOk T H F R)) ∧ Below w.heap.size w w' := by
  have hb0 : ∀ o, Below w.heap.size w (w.alloc o) := fun o => (Below.refl _ _).alloc (Nat.le_refl _) _
  obtain ⟨E, HE⟩ : ∃ E, Hid (E = rootOk T H F R) := ⟨_, hid rfl⟩
  rw [← HE.out]
  unfold rootOk at HE
  by_cases c1 : 0 ≤ T
  case neg =>
    have he : E = false := by rw [HE.out]; simp; omega
    subst he
    go_enter Tryz.func161, Tryz.ntmps161; go_wp2; go_ret; exact ⟨rfl, hb0 _⟩
  by_cases c2 : T ≤ 1000000000
  case neg =>
    have he : E = false := by rw [HE.out]; simp; omega
    subst he
    go_enter Tryz.func161, Tryz.ntmps161; go_wp2; go_ret; exact ⟨rfl, hb0 _⟩
  by_cases c3 : 0 ≤ R
  case neg =>
    have he : E = false := by rw [HE.out]; simp; omega
    subst he
    go_enter Tryz.func161, Tryz.ntmps161; go_wp2; go_ret; exact ⟨rfl, hb0 _⟩
  by_cases c4 : R ≤ 60000
  case neg =>
    have he : E = false := by rw [HE.out]; simp; omega
    subst he
    go_enter Tryz.func161, Tryz.ntmps161; go_wp2; go_ret; exact ⟨rfl, hb0 _⟩
  by_cases c5 : 0 ≤ H ∧ H ≤ 1
  case neg =>
    have d5 : decide (0 ≤ H ∧ H ≤ 1) = false := decide_eq_false c5
    have he : E = false := by rw [HE.out, d5]; simp
    subst he
    go_enter Tryz.func161, Tryz.ntmps161
    go_wp2_with (first | (go_at_call 223; refine (half_iV _ _).mono ?_; rw [d5]; rintro e wz ⟨rfl, hwz⟩; rw [hwz]; clear hwz wz))
    go_ret; exact ⟨rfl, hb0 _⟩
  have d5 : decide (0 ≤ H ∧ H ≤ 1) = true := decide_eq_true c5
  by_cases c6 : 1 ≤ F ∧ F ≤ 999999000
  case neg =>
    have d6 : decide (1 ≤ F ∧ F ≤ 999999000) = false := decide_eq_false c6
    have he : E = false := by rw [HE.out, d6]; simp
    subst he
    go_enter Tryz.func161, Tryz.ntmps161
    go_wp2_with (first | (go_at_call 223; refine (half_iV _ _).mono ?_; rw [d5]; rintro e wz ⟨rfl, hwz⟩; rw [hwz]; clear hwz wz) | (go_at_call 224; refine (first_iV _ _).mono ?_; rw [d6]; rintro e wz ⟨rfl, hwz⟩; rw [hwz]; clear hwz wz))
    go_ret; exact ⟨rfl, hb0 _⟩
  have d6 : decide (1 ≤ F ∧ F ≤ 999999000) = true := decide_eq_true c6
  have he : E = true := by rw [HE.out, d5, d6]; simp; omega
  subst he
  go_enter Tryz.func161, Tryz.ntmps161
  go_wp2_with (first | (go_at_call 223; refine (half_iV _ _).mono ?_; rw [d5]; rintro e wz ⟨rfl, hwz⟩; rw [hwz]; clear hwz wz) | (go_at_call 224; refine (first_iV _ _).mono ?_; rw [d6]; rintro e wz ⟨rfl, hwz⟩; rw [hwz]; clear hwz wz))
  go_ret; exact ⟨rfl, hb0 _⟩
set_option maxHeartbeats 4000000 in
theorem hasroom_i (W S L T H F R U O : Int) (a : Option Addr) (rs : List Pr) (c : Nat) (w : World) (h : Prs w a rs) (hc : rs.length ≤ c) (hl : rs.length ≤ 1048576) (hs : ∀ x ∈ rs, x.1.size ≤ 1048576 ∧ x.2.size ≤ 1048576) :
    Calls Tryz.prog 66 #[storeV W S L T H F R U O a rs.length c] w fun e w' => e = .returned (.bool (decide (roomOf (snapOf rs) W ≤ hv S - 1))) ∧ Below w.heap.size w w' := by
  unfold storeV
  obtain ⟨wb, HWB⟩ : ∃ wb, wb = w.alloc (.cells #[.int .i64 W, .int .i64 S, .int .i64 L, .int .i64 T, .int .i64 H, .int .i64 F, .int .i64 R, .int .i64 U, .int .i64 O, .slice a rs.length c] 33) := ⟨_, rfl⟩
  have q0 : wb.cell? ⟨w.heap.size, 0, none⟩ = some (.int .i64 W) := by rw [HWB]; go_simp
  have q1 : wb.cell? ⟨w.heap.size, 1, none⟩ = some (.int .i64 S) := by rw [HWB]; go_simp
  have q9 : wb.cell? ⟨w.heap.size, 9, none⟩ = some (.slice a rs.length c) := by rw [HWB]; go_simp
  have hbb : Below w.heap.size w wb := by rw [HWB]; exact (Below.refl _ _).alloc (Nat.le_refl _) _
  have hsz : w.heap.size < wb.heap.size := by rw [HWB]; simp
  have HT : Hid (∀ w', Below wb.heap.size wb w' → w'.cell? ⟨w.heap.size, 0, none⟩ = some (.int .i64 W) ∧ w'.cell? ⟨w.heap.size, 1, none⟩ = some (.int .i64 S) ∧ w'.cell? ⟨w.heap.size, 9, none⟩ = some (.slice a rs.length c) ∧ Below wb.heap.size wb w') := fun w' hb => ⟨(hb.cell (p := ⟨w.heap.size, 0, none⟩) hsz).trans q0, (hb.cell (p := ⟨w.heap.size, 1, none⟩) hsz).trans q1, (hb.cell (p := ⟨w.heap.size, 9, none⟩) hsz).trans q9, hb⟩
  have HRM := hid (room_i a rs c W wb.drew (h.below hbb.drew) hc hl hs)
  have hR := roomOf_bound (snapOf rs) W
  have hRl := snapOf_len rs
  have hQ : 0 ≤ hv S ∧ hv S ≤ 99 := by by_cases h : 8 ≤ S ∧ S ≤ 200; have := hv_yes h; omega; rw [hv_no h]; omega
  obtain ⟨G, HG⟩ : ∃ G, Hid (G = roomOf (snapOf rs) W) := ⟨_, hid rfl⟩
  obtain ⟨Q, HQ⟩ : ∃ Q, Hid (Q = hv S) := ⟨_, hid rfl⟩
  rw [← HG.out] at hR HRM ⊢
  rw [← HQ.out] at hQ ⊢
  have hw1 : IntKind.i64.wrap (Q - 1) = Q - 1 := by simp [IntKind.wrap, IntKind.bits, IntKind.signed]; omega
  have HBB := hid hbb
  clear hbb
  go_enter Tryz.func66, Tryz.ntmps66
  go_wp2_with fail
  rw [← HWB]
  clear HWB
  go_region_held3 (fun w' => w'.cell? ⟨w.heap.size, 0, none⟩ = some (.int .i64 W) ∧ w'.cell? ⟨w.heap.size, 1, none⟩ = some (.int .i64 S) ∧ w'.cell? ⟨w.heap.size, 9, none⟩ = some (.slice a rs.length c) ∧ Below wb.heap.size wb w')
    (first | assumption | exact HT.out _ ((Below.refl _ _).drew) | exact HT.out _ ((Below.refl _ _).drew.trans hb3))
    (first | (go_at_call 159; refine HRM.out.mono ?_; rintro e w3 ⟨rfl, hb3⟩) | (go_at_call 64; refine (halves_i _ _).mono ?_; rw [← HQ.out]; rintro e wz ⟨rfl, rfl⟩))
  all_goals
    go_wp2
    go_ret
    exact ⟨rfl, HBB.out.trans (((Below.refl _ _).drew.trans hb3).mono HBB.out.size)⟩
end Go.Proofs.YtnmaknnnmjfhkagGreatDoor
