import Derived.Test.YtnmaknnnmjfhkafGreatVStS
import Derived.Test.YtnmaknnnmjfhkafGreatMgXCommit50
import Derived.Test.YtnmaknnnmjfhkafGreatPageI
import Derived.Test.YtnmaknnnmjfhkafGreatFbJ
import Derived.Test.YtnmaknnnmjfhkafGreatSnI
import Derived.Test.YtnmaknnnmjfhkafGreatVB
import Derived.Shelf.Spec.SlicesInsert
import Derived.Lib.AppendZerosOnto
import Derived.Lib.Overlaps
import Derived.Laws.Externs
import Derived.Laws.CopyRow
import Derived.Laws.CopyOwn
import Derived.Test.YtnmaknnnmjfhkafGreatEdt
import Derived.Recover
import Derived.Defers
namespace Go.Proofs.YtnmaknnnmjfhkafGreat
open Go.RowKit
set_option linter.unusedVariables false
set_option linter.unusedSimpArgs false
set_option maxRecDepth 4000

theorem half_iV (n : Int) (w : World) : Calls Tryz.prog 98 #[.int .i64 n] w fun e w' => e = .returned (.bool (decide (0 ≤ n ∧ n ≤ 1))) ∧ w' = w := by
  go_enter Tryz.func98, Tryz.ntmps98
  by_cases h1 : n = 0
  · subst h1; go_wp2; go_ret; simp
  · by_cases h2 : n = 1
    · subst h2; go_wp2; go_ret; simp
    · have h3 : decide (0 ≤ n ∧ n ≤ 1) = false := by simp; omega
      rw [h3]; go_wp2; go_ret; simp [h1, h2]
theorem first_iV (n : Int) (w : World) : Calls Tryz.prog 99 #[.int .i64 n] w fun e w' => e = .returned (.bool (decide (1 ≤ n ∧ n ≤ 999999000))) ∧ w' = w := by
  go_enter Tryz.func99, Tryz.ntmps99
  by_cases h1 : 1 ≤ n <;> by_cases h2 : n ≤ 999999000 <;> (go_wp2; go_ret; simp [h1, h2])
theorem root_i (T H F R : Int) (w : World) : Calls Tryz.prog 66 #[.agg #[.int .i64 T, .int .i64 H, .int .i64 F, .int .i64 R]] w fun e w' => e = .returned (.bool (rootOk T H F R)) ∧ Below w.heap.size w w' := by
  have hb0 : ∀ o, Below w.heap.size w (w.alloc o) := fun o => (Below.refl _ _).alloc (Nat.le_refl _) _
  obtain ⟨E, HE⟩ : ∃ E, Hid (E = rootOk T H F R) := ⟨_, hid rfl⟩
  rw [← HE.out]
  unfold rootOk at HE
  by_cases c1 : 0 ≤ T
  case neg => 
    have he : E = false := by rw [HE.out]; simp; omega
    subst he
    go_enter Tryz.func66, Tryz.ntmps66; go_wp2; go_ret; exact ⟨rfl, hb0 _⟩
  by_cases c2 : T ≤ 1000000000
  case neg => 
    have he : E = false := by rw [HE.out]; simp; omega
    subst he
    go_enter Tryz.func66, Tryz.ntmps66; go_wp2; go_ret; exact ⟨rfl, hb0 _⟩
  by_cases c3 : 0 ≤ R
  case neg => 
    have he : E = false := by rw [HE.out]; simp; omega
    subst he
    go_enter Tryz.func66, Tryz.ntmps66; go_wp2; go_ret; exact ⟨rfl, hb0 _⟩
  by_cases c4 : R ≤ 60000
  case neg => 
    have he : E = false := by rw [HE.out]; simp; omega
    subst he
    go_enter Tryz.func66, Tryz.ntmps66; go_wp2; go_ret; exact ⟨rfl, hb0 _⟩
  by_cases c5 : 0 ≤ H ∧ H ≤ 1
  case neg => 
    have d5 : decide (0 ≤ H ∧ H ≤ 1) = false := decide_eq_false c5
    have he : E = false := by rw [HE.out, d5]; simp
    subst he
    go_enter Tryz.func66, Tryz.ntmps66
    go_wp2_with (first | (go_at_call 98; refine (half_iV _ _).mono ?_; rw [d5]; rintro e wz ⟨rfl, hwz⟩; rw [hwz]; clear hwz wz))
    go_ret; exact ⟨rfl, hb0 _⟩
  have d5 : decide (0 ≤ H ∧ H ≤ 1) = true := decide_eq_true c5
  by_cases c6 : 1 ≤ F ∧ F ≤ 999999000
  case neg => 
    have d6 : decide (1 ≤ F ∧ F ≤ 999999000) = false := decide_eq_false c6
    have he : E = false := by rw [HE.out, d6]; simp
    subst he
    go_enter Tryz.func66, Tryz.ntmps66
    go_wp2_with (first | (go_at_call 98; refine (half_iV _ _).mono ?_; rw [d5]; rintro e wz ⟨rfl, hwz⟩; rw [hwz]; clear hwz wz) | (go_at_call 99; refine (first_iV _ _).mono ?_; rw [d6]; rintro e wz ⟨rfl, hwz⟩; rw [hwz]; clear hwz wz))
    go_ret; exact ⟨rfl, hb0 _⟩
  have d6 : decide (1 ≤ F ∧ F ≤ 999999000) = true := decide_eq_true c6
  have he : E = true := by rw [HE.out, d5, d6]; simp; omega
  subst he
  go_enter Tryz.func66, Tryz.ntmps66
  go_wp2_with (first | (go_at_call 98; refine (half_iV _ _).mono ?_; rw [d5]; rintro e wz ⟨rfl, hwz⟩; rw [hwz]; clear hwz wz) | (go_at_call 99; refine (first_iV _ _).mono ?_; rw [d6]; rintro e wz ⟨rfl, hwz⟩; rw [hwz]; clear hwz wz))
  go_ret; exact ⟨rfl, hb0 _⟩

theorem halvesq_i (n Q : Int) (h : Q = hv n) (w : World) : Calls Tryz.prog 67 #[.int .i64 n] w fun e w' => e = .returned (.int .i64 Q) ∧ w' = w := by rw [h]; exact halves_i n w

set_option maxHeartbeats 4000000 in
theorem hasroom_i (W S L T H F R U O : Int) (a : Option Addr) (rs : List Pr) (c : Nat) (w : World) (h : Prs w a rs) (hc : rs.length ≤ c) (hl : rs.length ≤ 1048576) (hs : ∀ x ∈ rs, x.1.size ≤ 1048576 ∧ x.2.size ≤ 1048576) :
    Calls Tryz.prog 49 #[storeV W S L T H F R U O a rs.length c] w fun e w' => e = .returned (.bool (decide (roomOf (snapOf rs) W ≤ hv S - 1))) ∧ Below w.heap.size w w' := by
  unfold storeV
  obtain ⟨wb, HWB⟩ : ∃ wb, wb = w.alloc (.cells #[.int .i64 W, .int .i64 S, .int .i64 L, .int .i64 T, .int .i64 H, .int .i64 F, .int .i64 R, .int .i64 U, .int .i64 O, .slice a rs.length c] 35) := ⟨_, rfl⟩
  have q0 : wb.cell? ⟨w.heap.size, 0, none⟩ = some (.int .i64 W) := by rw [HWB]; go_simp
  have q1 : wb.cell? ⟨w.heap.size, 1, none⟩ = some (.int .i64 S) := by rw [HWB]; go_simp
  have q9 : wb.cell? ⟨w.heap.size, 9, none⟩ = some (.slice a rs.length c) := by rw [HWB]; go_simp
  have hbb : Below w.heap.size w wb := by rw [HWB]; exact (Below.refl _ _).alloc (Nat.le_refl _) _
  have hsz : w.heap.size < wb.heap.size := by rw [HWB]; simp
  have HT : Hid (∀ w', Below wb.heap.size wb w' → w'.cell? ⟨w.heap.size, 0, none⟩ = some (.int .i64 W) ∧ w'.cell? ⟨w.heap.size, 1, none⟩ = some (.int .i64 S) ∧ w'.cell? ⟨w.heap.size, 9, none⟩ = some (.slice a rs.length c) ∧ Below wb.heap.size wb w') := fun w' hb => ⟨(hb.cell (p := ⟨w.heap.size, 0, none⟩) hsz).trans q0, (hb.cell (p := ⟨w.heap.size, 1, none⟩) hsz).trans q1, (hb.cell (p := ⟨w.heap.size, 9, none⟩) hsz).trans q9, hb⟩
  have HRM := hid (room_i a rs c W wb.drew (h.below hbb.drew) hc hl hs)
  have hR := roomOf_bound (snapOf rs) W
  have hRl := snapOf_len rs
  have hQ : 0 ≤ hv S ∧ hv S ≤ 99 := by by_cases h : 8 ≤ S ∧ S ≤ 200; have := hv_yes h; omega; rw [hv_no h]; omega
  obtain ⟨G, HG⟩ : ∃ G, Hid (G = roomOf (snapOf rs) W) := ⟨_, hid rfl⟩
  obtain ⟨Q, HQ⟩ : ∃ Q, Hid (Q = hv S) := ⟨_, hid rfl⟩
  rw [← HG.out] at hR HRM ⊢
  rw [← HQ.out] at hQ ⊢
  have hw1 : IntKind.i64.wrap (Q - 1) = Q - 1 := by simp [IntKind.wrap, IntKind.bits, IntKind.signed]; omega
  have HBB := hid hbb
  clear hbb
  go_enter Tryz.func49, Tryz.ntmps49
  go_wp2_with fail
  rw [← HWB]
  clear HWB
  go_region_held3 (fun w' => w'.cell? ⟨w.heap.size, 0, none⟩ = some (.int .i64 W) ∧ w'.cell? ⟨w.heap.size, 1, none⟩ = some (.int .i64 S) ∧ w'.cell? ⟨w.heap.size, 9, none⟩ = some (.slice a rs.length c) ∧ Below wb.heap.size wb w')
    (first | assumption | exact HT.out _ ((Below.refl _ _).drew) | exact HT.out _ ((Below.refl _ _).drew.trans hb3))
    (first | (go_at_call 89; refine HRM.out.mono ?_; rintro e w3 ⟨rfl, hb3⟩) | (go_at_call 67; refine (halves_i _ _).mono ?_; rw [← HQ.out]; rintro e wz ⟨rfl, rfl⟩))
  all_goals
    go_wp2
    go_ret
    exact ⟨rfl, HBB.out.trans (((Below.refl _ _).drew.trans hb3).mono HBB.out.size)⟩

set_option maxHeartbeats 8000000 in
theorem vstore_i (W S L T H F R U O : Int) (a : Option Addr) (rs : List Pr) (c : Nat) (w : World) (h : Prs w a rs) (hc : rs.length ≤ c) (hl : rs.length ≤ 1048576) (hs : ∀ x ∈ rs, x.1.size ≤ 1048576 ∧ x.2.size ≤ 1048576) :
    Calls Tryz.prog 25 #[storeV W S L T H F R U O a rs.length c] w fun e w' => e = .returned (.bool (storeOk W S L T H F R U O rs)) ∧ Below w.heap.size w w' := by
  unfold storeV
  have hb0 : ∀ o, Below w.heap.size w (w.alloc o) := fun o => (Below.refl _ _).alloc (Nat.le_refl _) _
  have HVS := hid (fun w2 (h2 : Below w.heap.size w w2) => vstate_i a rs c w2 (h.below h2) hl hs)
  have HRM := hid (fun w2 (h2 : Below w.heap.size w w2) => hasroom_i W S L T H F R U O a rs c w2 (h.below h2) hc hl hs)
  unfold storeV at HRM
  have HB0 := hid hb0
  clear h hs
  obtain ⟨E, HE⟩ : ∃ E, Hid (E = storeOk W S L T H F R U O rs) := ⟨_, hid rfl⟩
  rw [← HE.out]
  obtain ⟨Q, hQ⟩ : ∃ Q, Q = hv S := ⟨_, rfl⟩
  have HQ := hid hQ
  have no := store_no W S L T H F R U O rs
  rw [← HE.out, ← hQ] at no
  rw [← hQ] at HRM
  have NO := hid no
  clear no hQ
  by_cases c1 : 1 ≤ W ∧ W ≤ 8
  case neg =>
    have d1 : decide (1 ≤ W ∧ W ≤ 8) = false := decide_eq_false c1
    have he : E = false := NO.out (.inl (c1))
    subst he
    go_enter Tryz.func25, Tryz.ntmps25
    go_wp2_with (first | (go_at_call 64; refine (width_i _ _).mono ?_; rw [d1]; rintro e wz ⟨rfl, hwz⟩; rw [hwz]; clear hwz wz) | (go_at_call 65; refine (isize_i _ _).mono ?_; rw [d2]; rintro e wz ⟨rfl, hwz⟩; rw [hwz]; clear hwz wz) | (go_at_call 67; refine (halves_i _ _).mono ?_; rw [← HQ.out]; rintro e wz ⟨rfl, hwz⟩; rw [hwz]; clear hwz wz))
    go_ret
    exact ⟨rfl, HB0.out _⟩
  have d1 : decide (1 ≤ W ∧ W ≤ 8) = true := decide_eq_true c1
  by_cases c2 : 8 ≤ S ∧ S ≤ 200
  case neg =>
    have d2 : decide (8 ≤ S ∧ S ≤ 200) = false := decide_eq_false c2
    have he : E = false := NO.out (.inr (.inl (c2)))
    subst he
    go_enter Tryz.func25, Tryz.ntmps25
    go_wp2_with (first | (go_at_call 64; refine (width_i _ _).mono ?_; rw [d1]; rintro e wz ⟨rfl, hwz⟩; rw [hwz]; clear hwz wz) | (go_at_call 65; refine (isize_i _ _).mono ?_; rw [d2]; rintro e wz ⟨rfl, hwz⟩; rw [hwz]; clear hwz wz) | (go_at_call 67; refine (halves_i _ _).mono ?_; rw [← HQ.out]; rintro e wz ⟨rfl, hwz⟩; rw [hwz]; clear hwz wz))
    go_ret
    exact ⟨rfl, HB0.out _⟩
  have d2 : decide (8 ≤ S ∧ S ≤ 200) = true := decide_eq_true c2
  have hqb : 3 ≤ Q ∧ Q ≤ 99 := by rw [HQ.out]; exact hv_yes c2
  by_cases c3 : 1 ≤ L
  case neg =>
    have he : E = false := NO.out (.inr (.inr (.inl (fun hh => c3 hh.1))))
    subst he
    go_enter Tryz.func25, Tryz.ntmps25
    go_wp2_with (first | (go_at_call 64; refine (width_i _ _).mono ?_; rw [d1]; rintro e wz ⟨rfl, hwz⟩; rw [hwz]; clear hwz wz) | (go_at_call 65; refine (isize_i _ _).mono ?_; rw [d2]; rintro e wz ⟨rfl, hwz⟩; rw [hwz]; clear hwz wz) | (go_at_call 67; refine (halves_i _ _).mono ?_; rw [← HQ.out]; rintro e wz ⟨rfl, hwz⟩; rw [hwz]; clear hwz wz))
    go_ret
    exact ⟨rfl, HB0.out _⟩
  by_cases c3b : L ≤ 60000
  case neg =>
    have he : E = false := NO.out (.inr (.inr (.inl (fun hh => c3b hh.2))))
    subst he
    go_enter Tryz.func25, Tryz.ntmps25
    go_wp2_with (first | (go_at_call 64; refine (width_i _ _).mono ?_; rw [d1]; rintro e wz ⟨rfl, hwz⟩; rw [hwz]; clear hwz wz) | (go_at_call 65; refine (isize_i _ _).mono ?_; rw [d2]; rintro e wz ⟨rfl, hwz⟩; rw [hwz]; clear hwz wz) | (go_at_call 67; refine (halves_i _ _).mono ?_; rw [← HQ.out]; rintro e wz ⟨rfl, hwz⟩; rw [hwz]; clear hwz wz))
    go_ret
    exact ⟨rfl, HB0.out _⟩
  cases d4 : rootOk T H F R with
  | false =>
    have he : E = false := NO.out (.inr (.inr (.inr (.inl (d4)))))
    subst he
    go_enter Tryz.func25, Tryz.ntmps25
    go_wp2_with (first | (go_at_call 64; refine (width_i _ _).mono ?_; rw [d1]; rintro e wz ⟨rfl, hwz⟩; rw [hwz]; clear hwz wz) | (go_at_call 65; refine (isize_i _ _).mono ?_; rw [d2]; rintro e wz ⟨rfl, hwz⟩; rw [hwz]; clear hwz wz) | (go_at_call 67; refine (halves_i _ _).mono ?_; rw [← HQ.out]; rintro e wz ⟨rfl, hwz⟩; rw [hwz]; clear hwz wz) | (go_at_call 66; refine (root_i _ _ _ _ _).mono ?_; rw [d4]; rintro e w2 ⟨rfl, hb2⟩; have HB2 := hid ((HB0.out _).trans (hb2.mono (by simp))); have w2q0 : w2.cell? ⟨w.heap.size, 0, none⟩ = some (.int .i64 W) := (hb2.cell (p := ⟨w.heap.size, 0, none⟩) (by simp)).trans (by go_simp); have w2q1 : w2.cell? ⟨w.heap.size, 1, none⟩ = some (.int .i64 S) := (hb2.cell (p := ⟨w.heap.size, 1, none⟩) (by simp)).trans (by go_simp); have w2q2 : w2.cell? ⟨w.heap.size, 2, none⟩ = some (.int .i64 L) := (hb2.cell (p := ⟨w.heap.size, 2, none⟩) (by simp)).trans (by go_simp); have w2q3 : w2.cell? ⟨w.heap.size, 3, none⟩ = some (.int .i64 T) := (hb2.cell (p := ⟨w.heap.size, 3, none⟩) (by simp)).trans (by go_simp); have w2q4 : w2.cell? ⟨w.heap.size, 4, none⟩ = some (.int .i64 H) := (hb2.cell (p := ⟨w.heap.size, 4, none⟩) (by simp)).trans (by go_simp); have w2q5 : w2.cell? ⟨w.heap.size, 5, none⟩ = some (.int .i64 F) := (hb2.cell (p := ⟨w.heap.size, 5, none⟩) (by simp)).trans (by go_simp); have w2q6 : w2.cell? ⟨w.heap.size, 6, none⟩ = some (.int .i64 R) := (hb2.cell (p := ⟨w.heap.size, 6, none⟩) (by simp)).trans (by go_simp); have w2q7 : w2.cell? ⟨w.heap.size, 7, none⟩ = some (.int .i64 U) := (hb2.cell (p := ⟨w.heap.size, 7, none⟩) (by simp)).trans (by go_simp); have w2q8 : w2.cell? ⟨w.heap.size, 8, none⟩ = some (.int .i64 O) := (hb2.cell (p := ⟨w.heap.size, 8, none⟩) (by simp)).trans (by go_simp); have w2q9 : w2.cell? ⟨w.heap.size, 9, none⟩ = some (.slice a rs.length c) := (hb2.cell (p := ⟨w.heap.size, 9, none⟩) (by simp)).trans (by go_simp); have hl2 : w.heap.size < w2.heap.size := Nat.lt_of_lt_of_le (by simp) hb2.size; clear hb2))
    go_ret
    exact ⟨rfl, HB2.out⟩
  | true =>
    by_cases c5 : 0 ≤ U
    case neg =>
      have he : E = false := NO.out (.inr (.inr (.inr (.inr (.inl (fun hh => c5 hh.1))))))
      subst he
      go_enter Tryz.func25, Tryz.ntmps25
      go_wp2_with (first | (go_at_call 64; refine (width_i _ _).mono ?_; rw [d1]; rintro e wz ⟨rfl, hwz⟩; rw [hwz]; clear hwz wz) | (go_at_call 65; refine (isize_i _ _).mono ?_; rw [d2]; rintro e wz ⟨rfl, hwz⟩; rw [hwz]; clear hwz wz) | (go_at_call 67; refine (halves_i _ _).mono ?_; rw [← HQ.out]; rintro e wz ⟨rfl, hwz⟩; rw [hwz]; clear hwz wz) | (go_at_call 66; refine (root_i _ _ _ _ _).mono ?_; rw [d4]; rintro e w2 ⟨rfl, hb2⟩; have HB2 := hid ((HB0.out _).trans (hb2.mono (by simp))); have w2q0 : w2.cell? ⟨w.heap.size, 0, none⟩ = some (.int .i64 W) := (hb2.cell (p := ⟨w.heap.size, 0, none⟩) (by simp)).trans (by go_simp); have w2q1 : w2.cell? ⟨w.heap.size, 1, none⟩ = some (.int .i64 S) := (hb2.cell (p := ⟨w.heap.size, 1, none⟩) (by simp)).trans (by go_simp); have w2q2 : w2.cell? ⟨w.heap.size, 2, none⟩ = some (.int .i64 L) := (hb2.cell (p := ⟨w.heap.size, 2, none⟩) (by simp)).trans (by go_simp); have w2q3 : w2.cell? ⟨w.heap.size, 3, none⟩ = some (.int .i64 T) := (hb2.cell (p := ⟨w.heap.size, 3, none⟩) (by simp)).trans (by go_simp); have w2q4 : w2.cell? ⟨w.heap.size, 4, none⟩ = some (.int .i64 H) := (hb2.cell (p := ⟨w.heap.size, 4, none⟩) (by simp)).trans (by go_simp); have w2q5 : w2.cell? ⟨w.heap.size, 5, none⟩ = some (.int .i64 F) := (hb2.cell (p := ⟨w.heap.size, 5, none⟩) (by simp)).trans (by go_simp); have w2q6 : w2.cell? ⟨w.heap.size, 6, none⟩ = some (.int .i64 R) := (hb2.cell (p := ⟨w.heap.size, 6, none⟩) (by simp)).trans (by go_simp); have w2q7 : w2.cell? ⟨w.heap.size, 7, none⟩ = some (.int .i64 U) := (hb2.cell (p := ⟨w.heap.size, 7, none⟩) (by simp)).trans (by go_simp); have w2q8 : w2.cell? ⟨w.heap.size, 8, none⟩ = some (.int .i64 O) := (hb2.cell (p := ⟨w.heap.size, 8, none⟩) (by simp)).trans (by go_simp); have w2q9 : w2.cell? ⟨w.heap.size, 9, none⟩ = some (.slice a rs.length c) := (hb2.cell (p := ⟨w.heap.size, 9, none⟩) (by simp)).trans (by go_simp); have hl2 : w.heap.size < w2.heap.size := Nat.lt_of_lt_of_le (by simp) hb2.size; clear hb2))
      go_quiet ((go_at_call 67; exact Calls.quiet_of_same (halvesq_i _ _ HQ.out _)))
      go_wp2_with fail
      go_ret
      exact ⟨rfl, below_drewN HB2.out nq⟩
    by_cases c5b : U ≤ Q
    case neg =>
      have he : E = false := NO.out (.inr (.inr (.inr (.inr (.inl (fun hh => c5b hh.2))))))
      subst he
      go_enter Tryz.func25, Tryz.ntmps25
      go_wp2_with (first | (go_at_call 64; refine (width_i _ _).mono ?_; rw [d1]; rintro e wz ⟨rfl, hwz⟩; rw [hwz]; clear hwz wz) | (go_at_call 65; refine (isize_i _ _).mono ?_; rw [d2]; rintro e wz ⟨rfl, hwz⟩; rw [hwz]; clear hwz wz) | (go_at_call 67; refine (halves_i _ _).mono ?_; rw [← HQ.out]; rintro e wz ⟨rfl, hwz⟩; rw [hwz]; clear hwz wz) | (go_at_call 66; refine (root_i _ _ _ _ _).mono ?_; rw [d4]; rintro e w2 ⟨rfl, hb2⟩; have HB2 := hid ((HB0.out _).trans (hb2.mono (by simp))); have w2q0 : w2.cell? ⟨w.heap.size, 0, none⟩ = some (.int .i64 W) := (hb2.cell (p := ⟨w.heap.size, 0, none⟩) (by simp)).trans (by go_simp); have w2q1 : w2.cell? ⟨w.heap.size, 1, none⟩ = some (.int .i64 S) := (hb2.cell (p := ⟨w.heap.size, 1, none⟩) (by simp)).trans (by go_simp); have w2q2 : w2.cell? ⟨w.heap.size, 2, none⟩ = some (.int .i64 L) := (hb2.cell (p := ⟨w.heap.size, 2, none⟩) (by simp)).trans (by go_simp); have w2q3 : w2.cell? ⟨w.heap.size, 3, none⟩ = some (.int .i64 T) := (hb2.cell (p := ⟨w.heap.size, 3, none⟩) (by simp)).trans (by go_simp); have w2q4 : w2.cell? ⟨w.heap.size, 4, none⟩ = some (.int .i64 H) := (hb2.cell (p := ⟨w.heap.size, 4, none⟩) (by simp)).trans (by go_simp); have w2q5 : w2.cell? ⟨w.heap.size, 5, none⟩ = some (.int .i64 F) := (hb2.cell (p := ⟨w.heap.size, 5, none⟩) (by simp)).trans (by go_simp); have w2q6 : w2.cell? ⟨w.heap.size, 6, none⟩ = some (.int .i64 R) := (hb2.cell (p := ⟨w.heap.size, 6, none⟩) (by simp)).trans (by go_simp); have w2q7 : w2.cell? ⟨w.heap.size, 7, none⟩ = some (.int .i64 U) := (hb2.cell (p := ⟨w.heap.size, 7, none⟩) (by simp)).trans (by go_simp); have w2q8 : w2.cell? ⟨w.heap.size, 8, none⟩ = some (.int .i64 O) := (hb2.cell (p := ⟨w.heap.size, 8, none⟩) (by simp)).trans (by go_simp); have w2q9 : w2.cell? ⟨w.heap.size, 9, none⟩ = some (.slice a rs.length c) := (hb2.cell (p := ⟨w.heap.size, 9, none⟩) (by simp)).trans (by go_simp); have hl2 : w.heap.size < w2.heap.size := Nat.lt_of_lt_of_le (by simp) hb2.size; clear hb2))
      go_quiet ((go_at_call 67; exact Calls.quiet_of_same (halvesq_i _ _ HQ.out _)))
      go_wp2_with fail
      go_ret
      exact ⟨rfl, below_drewN HB2.out nq⟩
    by_cases c6 : 0 ≤ O
    case neg =>
      have he : E = false := NO.out (.inr (.inr (.inr (.inr (.inr (.inl (fun hh => c6 hh.1)))))))
      subst he
      go_enter Tryz.func25, Tryz.ntmps25
      go_wp2_with (first | (go_at_call 64; refine (width_i _ _).mono ?_; rw [d1]; rintro e wz ⟨rfl, hwz⟩; rw [hwz]; clear hwz wz) | (go_at_call 65; refine (isize_i _ _).mono ?_; rw [d2]; rintro e wz ⟨rfl, hwz⟩; rw [hwz]; clear hwz wz) | (go_at_call 67; refine (halves_i _ _).mono ?_; rw [← HQ.out]; rintro e wz ⟨rfl, hwz⟩; rw [hwz]; clear hwz wz) | (go_at_call 66; refine (root_i _ _ _ _ _).mono ?_; rw [d4]; rintro e w2 ⟨rfl, hb2⟩; have HB2 := hid ((HB0.out _).trans (hb2.mono (by simp))); have w2q0 : w2.cell? ⟨w.heap.size, 0, none⟩ = some (.int .i64 W) := (hb2.cell (p := ⟨w.heap.size, 0, none⟩) (by simp)).trans (by go_simp); have w2q1 : w2.cell? ⟨w.heap.size, 1, none⟩ = some (.int .i64 S) := (hb2.cell (p := ⟨w.heap.size, 1, none⟩) (by simp)).trans (by go_simp); have w2q2 : w2.cell? ⟨w.heap.size, 2, none⟩ = some (.int .i64 L) := (hb2.cell (p := ⟨w.heap.size, 2, none⟩) (by simp)).trans (by go_simp); have w2q3 : w2.cell? ⟨w.heap.size, 3, none⟩ = some (.int .i64 T) := (hb2.cell (p := ⟨w.heap.size, 3, none⟩) (by simp)).trans (by go_simp); have w2q4 : w2.cell? ⟨w.heap.size, 4, none⟩ = some (.int .i64 H) := (hb2.cell (p := ⟨w.heap.size, 4, none⟩) (by simp)).trans (by go_simp); have w2q5 : w2.cell? ⟨w.heap.size, 5, none⟩ = some (.int .i64 F) := (hb2.cell (p := ⟨w.heap.size, 5, none⟩) (by simp)).trans (by go_simp); have w2q6 : w2.cell? ⟨w.heap.size, 6, none⟩ = some (.int .i64 R) := (hb2.cell (p := ⟨w.heap.size, 6, none⟩) (by simp)).trans (by go_simp); have w2q7 : w2.cell? ⟨w.heap.size, 7, none⟩ = some (.int .i64 U) := (hb2.cell (p := ⟨w.heap.size, 7, none⟩) (by simp)).trans (by go_simp); have w2q8 : w2.cell? ⟨w.heap.size, 8, none⟩ = some (.int .i64 O) := (hb2.cell (p := ⟨w.heap.size, 8, none⟩) (by simp)).trans (by go_simp); have w2q9 : w2.cell? ⟨w.heap.size, 9, none⟩ = some (.slice a rs.length c) := (hb2.cell (p := ⟨w.heap.size, 9, none⟩) (by simp)).trans (by go_simp); have hl2 : w.heap.size < w2.heap.size := Nat.lt_of_lt_of_le (by simp) hb2.size; clear hb2))
      go_quiet ((go_at_call 67; exact Calls.quiet_of_same (halvesq_i _ _ HQ.out _)))
      go_wp2_with fail
      go_ret
      exact ⟨rfl, below_drewN HB2.out nq⟩
    by_cases c6b : O ≤ U
    case neg =>
      have he : E = false := NO.out (.inr (.inr (.inr (.inr (.inr (.inl (fun hh => c6b hh.2)))))))
      subst he
      go_enter Tryz.func25, Tryz.ntmps25
      go_wp2_with (first | (go_at_call 64; refine (width_i _ _).mono ?_; rw [d1]; rintro e wz ⟨rfl, hwz⟩; rw [hwz]; clear hwz wz) | (go_at_call 65; refine (isize_i _ _).mono ?_; rw [d2]; rintro e wz ⟨rfl, hwz⟩; rw [hwz]; clear hwz wz) | (go_at_call 67; refine (halves_i _ _).mono ?_; rw [← HQ.out]; rintro e wz ⟨rfl, hwz⟩; rw [hwz]; clear hwz wz) | (go_at_call 66; refine (root_i _ _ _ _ _).mono ?_; rw [d4]; rintro e w2 ⟨rfl, hb2⟩; have HB2 := hid ((HB0.out _).trans (hb2.mono (by simp))); have w2q0 : w2.cell? ⟨w.heap.size, 0, none⟩ = some (.int .i64 W) := (hb2.cell (p := ⟨w.heap.size, 0, none⟩) (by simp)).trans (by go_simp); have w2q1 : w2.cell? ⟨w.heap.size, 1, none⟩ = some (.int .i64 S) := (hb2.cell (p := ⟨w.heap.size, 1, none⟩) (by simp)).trans (by go_simp); have w2q2 : w2.cell? ⟨w.heap.size, 2, none⟩ = some (.int .i64 L) := (hb2.cell (p := ⟨w.heap.size, 2, none⟩) (by simp)).trans (by go_simp); have w2q3 : w2.cell? ⟨w.heap.size, 3, none⟩ = some (.int .i64 T) := (hb2.cell (p := ⟨w.heap.size, 3, none⟩) (by simp)).trans (by go_simp); have w2q4 : w2.cell? ⟨w.heap.size, 4, none⟩ = some (.int .i64 H) := (hb2.cell (p := ⟨w.heap.size, 4, none⟩) (by simp)).trans (by go_simp); have w2q5 : w2.cell? ⟨w.heap.size, 5, none⟩ = some (.int .i64 F) := (hb2.cell (p := ⟨w.heap.size, 5, none⟩) (by simp)).trans (by go_simp); have w2q6 : w2.cell? ⟨w.heap.size, 6, none⟩ = some (.int .i64 R) := (hb2.cell (p := ⟨w.heap.size, 6, none⟩) (by simp)).trans (by go_simp); have w2q7 : w2.cell? ⟨w.heap.size, 7, none⟩ = some (.int .i64 U) := (hb2.cell (p := ⟨w.heap.size, 7, none⟩) (by simp)).trans (by go_simp); have w2q8 : w2.cell? ⟨w.heap.size, 8, none⟩ = some (.int .i64 O) := (hb2.cell (p := ⟨w.heap.size, 8, none⟩) (by simp)).trans (by go_simp); have w2q9 : w2.cell? ⟨w.heap.size, 9, none⟩ = some (.slice a rs.length c) := (hb2.cell (p := ⟨w.heap.size, 9, none⟩) (by simp)).trans (by go_simp); have hl2 : w.heap.size < w2.heap.size := Nat.lt_of_lt_of_le (by simp) hb2.size; clear hb2))
      go_quiet ((go_at_call 67; exact Calls.quiet_of_same (halvesq_i _ _ HQ.out _)))
      go_wp2_with fail
      go_ret
      exact ⟨rfl, below_drewN HB2.out nq⟩
    cases dS : stateOk rs with
    | false =>
      have he : E = false := NO.out (.inr (.inr (.inr (.inr (.inr (.inr (.inl (dS))))))))
      subst he
      go_enter Tryz.func25, Tryz.ntmps25
      go_wp2_with (first | (go_at_call 64; refine (width_i _ _).mono ?_; rw [d1]; rintro e wz ⟨rfl, hwz⟩; rw [hwz]; clear hwz wz) | (go_at_call 65; refine (isize_i _ _).mono ?_; rw [d2]; rintro e wz ⟨rfl, hwz⟩; rw [hwz]; clear hwz wz) | (go_at_call 67; refine (halves_i _ _).mono ?_; rw [← HQ.out]; rintro e wz ⟨rfl, hwz⟩; rw [hwz]; clear hwz wz) | (go_at_call 66; refine (root_i _ _ _ _ _).mono ?_; rw [d4]; rintro e w2 ⟨rfl, hb2⟩; have HB2 := hid ((HB0.out _).trans (hb2.mono (by simp))); have w2q0 : w2.cell? ⟨w.heap.size, 0, none⟩ = some (.int .i64 W) := (hb2.cell (p := ⟨w.heap.size, 0, none⟩) (by simp)).trans (by go_simp); have w2q1 : w2.cell? ⟨w.heap.size, 1, none⟩ = some (.int .i64 S) := (hb2.cell (p := ⟨w.heap.size, 1, none⟩) (by simp)).trans (by go_simp); have w2q2 : w2.cell? ⟨w.heap.size, 2, none⟩ = some (.int .i64 L) := (hb2.cell (p := ⟨w.heap.size, 2, none⟩) (by simp)).trans (by go_simp); have w2q3 : w2.cell? ⟨w.heap.size, 3, none⟩ = some (.int .i64 T) := (hb2.cell (p := ⟨w.heap.size, 3, none⟩) (by simp)).trans (by go_simp); have w2q4 : w2.cell? ⟨w.heap.size, 4, none⟩ = some (.int .i64 H) := (hb2.cell (p := ⟨w.heap.size, 4, none⟩) (by simp)).trans (by go_simp); have w2q5 : w2.cell? ⟨w.heap.size, 5, none⟩ = some (.int .i64 F) := (hb2.cell (p := ⟨w.heap.size, 5, none⟩) (by simp)).trans (by go_simp); have w2q6 : w2.cell? ⟨w.heap.size, 6, none⟩ = some (.int .i64 R) := (hb2.cell (p := ⟨w.heap.size, 6, none⟩) (by simp)).trans (by go_simp); have w2q7 : w2.cell? ⟨w.heap.size, 7, none⟩ = some (.int .i64 U) := (hb2.cell (p := ⟨w.heap.size, 7, none⟩) (by simp)).trans (by go_simp); have w2q8 : w2.cell? ⟨w.heap.size, 8, none⟩ = some (.int .i64 O) := (hb2.cell (p := ⟨w.heap.size, 8, none⟩) (by simp)).trans (by go_simp); have w2q9 : w2.cell? ⟨w.heap.size, 9, none⟩ = some (.slice a rs.length c) := (hb2.cell (p := ⟨w.heap.size, 9, none⟩) (by simp)).trans (by go_simp); have hl2 : w.heap.size < w2.heap.size := Nat.lt_of_lt_of_le (by simp) hb2.size; clear hb2))
      go_quiet ((go_at_call 67; exact Calls.quiet_of_same (halvesq_i _ _ HQ.out _)))
      go_wp2_with (first  | (go_at_call 68; refine (HVS.out _ (below_drewN HB2.out nq)).mono ?_; rw [dS]; rintro e w3 ⟨rfl, hb3⟩; have HB3 := hid ((below_drewN HB2.out nq).trans (hb3.mono HB2.out.size)); have w3q0 : w3.cell? ⟨w.heap.size, 0, none⟩ = some (.int .i64 W) := (hb3.cell (p := ⟨w.heap.size, 0, none⟩) hl2).trans w2q0; have w3q1 : w3.cell? ⟨w.heap.size, 1, none⟩ = some (.int .i64 S) := (hb3.cell (p := ⟨w.heap.size, 1, none⟩) hl2).trans w2q1; have w3q2 : w3.cell? ⟨w.heap.size, 2, none⟩ = some (.int .i64 L) := (hb3.cell (p := ⟨w.heap.size, 2, none⟩) hl2).trans w2q2; have w3q3 : w3.cell? ⟨w.heap.size, 3, none⟩ = some (.int .i64 T) := (hb3.cell (p := ⟨w.heap.size, 3, none⟩) hl2).trans w2q3; have w3q4 : w3.cell? ⟨w.heap.size, 4, none⟩ = some (.int .i64 H) := (hb3.cell (p := ⟨w.heap.size, 4, none⟩) hl2).trans w2q4; have w3q5 : w3.cell? ⟨w.heap.size, 5, none⟩ = some (.int .i64 F) := (hb3.cell (p := ⟨w.heap.size, 5, none⟩) hl2).trans w2q5; have w3q6 : w3.cell? ⟨w.heap.size, 6, none⟩ = some (.int .i64 R) := (hb3.cell (p := ⟨w.heap.size, 6, none⟩) hl2).trans w2q6; have w3q7 : w3.cell? ⟨w.heap.size, 7, none⟩ = some (.int .i64 U) := (hb3.cell (p := ⟨w.heap.size, 7, none⟩) hl2).trans w2q7; have w3q8 : w3.cell? ⟨w.heap.size, 8, none⟩ = some (.int .i64 O) := (hb3.cell (p := ⟨w.heap.size, 8, none⟩) hl2).trans w2q8; have w3q9 : w3.cell? ⟨w.heap.size, 9, none⟩ = some (.slice a rs.length c) := (hb3.cell (p := ⟨w.heap.size, 9, none⟩) hl2).trans w2q9; clear hb3))
      go_ret
      exact ⟨rfl, HB3.out⟩
    | true =>
      obtain ⟨D, HD⟩ : ∃ D, Hid (D = decide (roomOf (snapOf rs) W ≤ Q - 1)) := ⟨_, hid rfl⟩
      have he : E = D := by
        rw [HE.out, HD.out, HQ.out]
        rw [HQ.out] at c5b
        unfold storeOk
        simp [c1, c2, c3, c3b, d4, c5, c5b, c6, c6b, dS]
      rw [← HD.out] at HRM
      clear NO HE
      subst he
      go_enter Tryz.func25, Tryz.ntmps25
      go_wp2_with (first | (go_at_call 64; refine (width_i _ _).mono ?_; rw [d1]; rintro e wz ⟨rfl, hwz⟩; rw [hwz]; clear hwz wz) | (go_at_call 65; refine (isize_i _ _).mono ?_; rw [d2]; rintro e wz ⟨rfl, hwz⟩; rw [hwz]; clear hwz wz) | (go_at_call 67; refine (halves_i _ _).mono ?_; rw [← HQ.out]; rintro e wz ⟨rfl, hwz⟩; rw [hwz]; clear hwz wz) | (go_at_call 66; refine (root_i _ _ _ _ _).mono ?_; rw [d4]; rintro e w2 ⟨rfl, hb2⟩; have HB2 := hid ((HB0.out _).trans (hb2.mono (by simp))); have w2q0 : w2.cell? ⟨w.heap.size, 0, none⟩ = some (.int .i64 W) := (hb2.cell (p := ⟨w.heap.size, 0, none⟩) (by simp)).trans (by go_simp); have w2q1 : w2.cell? ⟨w.heap.size, 1, none⟩ = some (.int .i64 S) := (hb2.cell (p := ⟨w.heap.size, 1, none⟩) (by simp)).trans (by go_simp); have w2q2 : w2.cell? ⟨w.heap.size, 2, none⟩ = some (.int .i64 L) := (hb2.cell (p := ⟨w.heap.size, 2, none⟩) (by simp)).trans (by go_simp); have w2q3 : w2.cell? ⟨w.heap.size, 3, none⟩ = some (.int .i64 T) := (hb2.cell (p := ⟨w.heap.size, 3, none⟩) (by simp)).trans (by go_simp); have w2q4 : w2.cell? ⟨w.heap.size, 4, none⟩ = some (.int .i64 H) := (hb2.cell (p := ⟨w.heap.size, 4, none⟩) (by simp)).trans (by go_simp); have w2q5 : w2.cell? ⟨w.heap.size, 5, none⟩ = some (.int .i64 F) := (hb2.cell (p := ⟨w.heap.size, 5, none⟩) (by simp)).trans (by go_simp); have w2q6 : w2.cell? ⟨w.heap.size, 6, none⟩ = some (.int .i64 R) := (hb2.cell (p := ⟨w.heap.size, 6, none⟩) (by simp)).trans (by go_simp); have w2q7 : w2.cell? ⟨w.heap.size, 7, none⟩ = some (.int .i64 U) := (hb2.cell (p := ⟨w.heap.size, 7, none⟩) (by simp)).trans (by go_simp); have w2q8 : w2.cell? ⟨w.heap.size, 8, none⟩ = some (.int .i64 O) := (hb2.cell (p := ⟨w.heap.size, 8, none⟩) (by simp)).trans (by go_simp); have w2q9 : w2.cell? ⟨w.heap.size, 9, none⟩ = some (.slice a rs.length c) := (hb2.cell (p := ⟨w.heap.size, 9, none⟩) (by simp)).trans (by go_simp); have hl2 : w.heap.size < w2.heap.size := Nat.lt_of_lt_of_le (by simp) hb2.size; clear hb2))
      go_quiet ((go_at_call 67; exact Calls.quiet_of_same (halvesq_i _ _ HQ.out _)))
      go_wp2_with (first  | (go_at_call 68; refine (HVS.out _ (below_drewN HB2.out nq)).mono ?_; rw [dS]; rintro e w3 ⟨rfl, hb3⟩; have HB3 := hid ((below_drewN HB2.out nq).trans (hb3.mono HB2.out.size)); have w3q0 : w3.cell? ⟨w.heap.size, 0, none⟩ = some (.int .i64 W) := (hb3.cell (p := ⟨w.heap.size, 0, none⟩) hl2).trans w2q0; have w3q1 : w3.cell? ⟨w.heap.size, 1, none⟩ = some (.int .i64 S) := (hb3.cell (p := ⟨w.heap.size, 1, none⟩) hl2).trans w2q1; have w3q2 : w3.cell? ⟨w.heap.size, 2, none⟩ = some (.int .i64 L) := (hb3.cell (p := ⟨w.heap.size, 2, none⟩) hl2).trans w2q2; have w3q3 : w3.cell? ⟨w.heap.size, 3, none⟩ = some (.int .i64 T) := (hb3.cell (p := ⟨w.heap.size, 3, none⟩) hl2).trans w2q3; have w3q4 : w3.cell? ⟨w.heap.size, 4, none⟩ = some (.int .i64 H) := (hb3.cell (p := ⟨w.heap.size, 4, none⟩) hl2).trans w2q4; have w3q5 : w3.cell? ⟨w.heap.size, 5, none⟩ = some (.int .i64 F) := (hb3.cell (p := ⟨w.heap.size, 5, none⟩) hl2).trans w2q5; have w3q6 : w3.cell? ⟨w.heap.size, 6, none⟩ = some (.int .i64 R) := (hb3.cell (p := ⟨w.heap.size, 6, none⟩) hl2).trans w2q6; have w3q7 : w3.cell? ⟨w.heap.size, 7, none⟩ = some (.int .i64 U) := (hb3.cell (p := ⟨w.heap.size, 7, none⟩) hl2).trans w2q7; have w3q8 : w3.cell? ⟨w.heap.size, 8, none⟩ = some (.int .i64 O) := (hb3.cell (p := ⟨w.heap.size, 8, none⟩) hl2).trans w2q8; have w3q9 : w3.cell? ⟨w.heap.size, 9, none⟩ = some (.slice a rs.length c) := (hb3.cell (p := ⟨w.heap.size, 9, none⟩) hl2).trans w2q9; clear hb3) | (go_at_call 49; refine (HRM.out _ HB3.out).mono ?_; rintro e w4 ⟨rfl, hb4⟩))
      go_ret
      exact ⟨rfl, HB3.out.trans (hb4.mono HB3.out.size)⟩
end Go.Proofs.YtnmaknnnmjfhkafGreat

namespace Go.Proofs.YtnmaknnnmjfhkafGreat
open Go.RowKit
set_option linter.unusedVariables false
set_option linter.unusedSimpArgs false
set_option maxRecDepth 8000

set_option maxHeartbeats 4000000 in
theorem newlife_i (base g : Nat) (v : Value) (os : List OpT) (at_ nm lf wd : Int) (w : World) (h : Wrt w base g v os at_ nm lf wd) (hb : base ≤ w.heap.size) (hl : os.length ≤ 1000) (ha0 : 0 ≤ at_) (ha1 : at_ ≤ 100000) (hn0 : 0 ≤ nm) (hn1 : nm ≤ 2000000000) :
    Calls Tryz.prog 100 #[.pointer (some ⟨g, 0, none⟩)] w fun e w' => (∃ x, e = .returned x) ∧ ∃ v', Wrt w' base g v' (os ++ [(false, at_, formOf 3 lf nm ByteArray.empty wd)]) (at_ + 1) (nm + 1) lf wd ∧ Below base w w' ∧ WK g w v w' v' := by
  have q2 := h.row.cell 2 _ rfl
  have lg := h.row.lt
  go_enter Tryz.func100, Tryz.ntmps100
  go_wp2_with fail
  refine wp_region_held_drew (S := fun w' => w'.cell? ⟨g, 3, none⟩ = some (.int .i64 lf) ∧ w'.cell? ⟨g, 4, none⟩ = some (.int .i64 wd)) (by kernel_rfl) (⟨h.row.drew.cell 3 _ rfl, h.row.drew.cell 4 _ rfl⟩) (fun hHeld => ?_)
  refine wpAnyH_take (i := 0) (v := .pointer (some ⟨g, 0, none⟩)) rfl (by kernel_rfl) (by kernel_rfl) (by kernel_rfl) (fun _ _ _ h => h) (Or.inl ⟨by rfl, fun w hw => by obtain ⟨z0, z1⟩ := hw; go_simp⟩) hHeld ?_
  simp only [Act.put, List.getElem_toArray, List.getElem_cons_zero, List.getElem_cons_succ, List.setIfInBounds_toArray, List.set_cons_zero, List.set_cons_succ]
  refine wpAnyH_take (i := 1) (v := .pointer (some ⟨g, 0, none⟩)) rfl (by kernel_rfl) (by kernel_rfl) (by kernel_rfl) (fun _ _ _ h => h) (Or.inl ⟨by rfl, fun w hw => by obtain ⟨z0, z1⟩ := hw; go_simp⟩) hHeld ?_
  simp only [Act.put, List.getElem_toArray, List.getElem_cons_zero, List.getElem_cons_succ, List.setIfInBounds_toArray, List.set_cons_zero, List.set_cons_succ]
  refine wpAnyH_take (i := 2) (v := .pointer (some ⟨g, 0, none⟩)) rfl (by kernel_rfl) (by kernel_rfl) (by kernel_rfl) (fun _ _ _ h => h) (Or.inl ⟨by rfl, fun w hw => by obtain ⟨z0, z1⟩ := hw; go_simp⟩) hHeld ?_
  simp only [Act.put, List.getElem_toArray, List.getElem_cons_zero, List.getElem_cons_succ, List.setIfInBounds_toArray, List.set_cons_zero, List.set_cons_succ]
  refine wpAnyH_take (i := 3) (v := .pointer (some ⟨g, 3, none⟩)) rfl (by kernel_rfl) (by kernel_rfl) (by kernel_rfl) (fun _ _ _ h => h) (Or.inl ⟨by rfl, fun w hw => by obtain ⟨z0, z1⟩ := hw; go_simp⟩) hHeld ?_
  simp only [Act.put, List.getElem_toArray, List.getElem_cons_zero, List.getElem_cons_succ, List.setIfInBounds_toArray, List.set_cons_zero, List.set_cons_succ]
  refine wpAnyH_take (i := 4) (v := .int .i64 lf) rfl (by kernel_rfl) (by kernel_rfl) (by kernel_rfl) (fun _ _ _ h => h) (Or.inl ⟨by rfl, fun w hw => by obtain ⟨z0, z1⟩ := hw; go_simp⟩) hHeld ?_
  simp only [Act.put, List.getElem_toArray, List.getElem_cons_zero, List.getElem_cons_succ, List.setIfInBounds_toArray, List.set_cons_zero, List.set_cons_succ]
  refine wpAnyH_take (i := 5) (v := .pointer (some ⟨g, 0, none⟩)) rfl (by kernel_rfl) (by kernel_rfl) (by kernel_rfl) (fun _ _ _ h => h) (Or.inl ⟨by rfl, fun w hw => by obtain ⟨z0, z1⟩ := hw; go_simp⟩) hHeld ?_
  simp only [Act.put, List.getElem_toArray, List.getElem_cons_zero, List.getElem_cons_succ, List.setIfInBounds_toArray, List.set_cons_zero, List.set_cons_succ]
  refine wpAnyH_take (i := 6) (v := .pointer (some ⟨g, 0, none⟩)) rfl (by kernel_rfl) (by kernel_rfl) (by kernel_rfl) (fun _ _ _ h => h) (Or.inl ⟨by rfl, fun w hw => by obtain ⟨z0, z1⟩ := hw; go_simp⟩) hHeld ?_
  simp only [Act.put, List.getElem_toArray, List.getElem_cons_zero, List.getElem_cons_succ, List.setIfInBounds_toArray, List.set_cons_zero, List.set_cons_succ]
  refine wpAnyH_take (i := 7) (v := .pointer (some ⟨g, 2, none⟩)) rfl (by kernel_rfl) (by kernel_rfl) (by kernel_rfl) (fun _ _ _ h => h) (Or.inl ⟨by rfl, fun w hw => by obtain ⟨z0, z1⟩ := hw; go_simp⟩) hHeld ?_
  simp only [Act.put, List.getElem_toArray, List.getElem_cons_zero, List.getElem_cons_succ, List.setIfInBounds_toArray, List.set_cons_zero, List.set_cons_succ]
  refine wpAnyH_take (i := 10) (v := .pointer (some ⟨g, 0, none⟩)) rfl (by kernel_rfl) (by kernel_rfl) (by kernel_rfl) (fun _ _ _ h => h) (Or.inl ⟨by rfl, fun w hw => by obtain ⟨z0, z1⟩ := hw; go_simp⟩) hHeld ?_
  simp only [Act.put, List.getElem_toArray, List.getElem_cons_zero, List.getElem_cons_succ, List.setIfInBounds_toArray, List.set_cons_zero, List.set_cons_succ]
  refine wpAnyH_take (i := 11) (v := .pointer (some ⟨g, 0, none⟩)) rfl (by kernel_rfl) (by kernel_rfl) (by kernel_rfl) (fun _ _ _ h => h) (Or.inl ⟨by rfl, fun w hw => by obtain ⟨z0, z1⟩ := hw; go_simp⟩) hHeld ?_
  simp only [Act.put, List.getElem_toArray, List.getElem_cons_zero, List.getElem_cons_succ, List.setIfInBounds_toArray, List.set_cons_zero, List.set_cons_succ]
  refine wpAnyH_take (i := 12) (v := .pointer (some ⟨g, 4, none⟩)) rfl (by kernel_rfl) (by kernel_rfl) (by kernel_rfl) (fun _ _ _ h => h) (Or.inl ⟨by rfl, fun w hw => by obtain ⟨z0, z1⟩ := hw; go_simp⟩) hHeld ?_
  simp only [Act.put, List.getElem_toArray, List.getElem_cons_zero, List.getElem_cons_succ, List.setIfInBounds_toArray, List.set_cons_zero, List.set_cons_succ]
  refine wpAnyH_take (i := 13) (v := .int .i64 wd) rfl (by kernel_rfl) (by kernel_rfl) (by kernel_rfl) (fun _ _ _ h => h) (Or.inl ⟨by rfl, fun w hw => by obtain ⟨z0, z1⟩ := hw; go_simp⟩) hHeld ?_
  simp only [Act.put, List.getElem_toArray, List.getElem_cons_zero, List.getElem_cons_succ, List.setIfInBounds_toArray, List.set_cons_zero, List.set_cons_succ]
  refine wpAnyH_ready (rs := [8]) (by kernel_rfl) (by simp) ?_
  refine AllReadyH.cons rfl (fun K hK => ?_) AllReadyH.nil
  go_simp
  refine hK.out _ _ hHeld (fun _ => ?_)
  clear hK K
  try simp only [Act.put, List.getElem_toArray, List.getElem_cons_zero, List.getElem_cons_succ, List.setIfInBounds_toArray, List.set_cons_zero, List.set_cons_succ]
  refine wpAnyH_take (i := 9) (v := .agg #[.int .i64 3, .int .i64 lf, .int .i64 nm, .string ⟨#[]⟩]) rfl (by kernel_rfl) (by kernel_rfl) (by kernel_rfl) (fun _ _ _ h => h) (Or.inl ⟨by rfl, fun w hw => by obtain ⟨z0, z1⟩ := hw; go_simp⟩) hHeld ?_
  simp only [Act.put, List.getElem_toArray, List.getElem_cons_zero, List.getElem_cons_succ, List.setIfInBounds_toArray, List.set_cons_zero, List.set_cons_succ]
  refine wpAnyH_ready (rs := [14]) (by kernel_rfl) (by simp) ?_
  refine AllReadyH.cons rfl (fun K hK => ?_) AllReadyH.nil
  refine step_call (by rfl) 111 #[pageV 3 lf nm ⟨#[]⟩, .int .i64 wd] (by go_simp) (form_i_any 3 lf nm ByteArray.empty wd _ (by simp)) ?_
  rintro e w4 ⟨rfl, hb4⟩
  refine ⟨_, rfl, ?_⟩
  have hb4' : Below w.heap.size w w4 := (Below.refl _ _).drew.trans hb4
  have hW4 := h.below hb4'
  refine hK.out _ _ (⟨hW4.row.cell 3 _ rfl, hW4.row.cell 4 _ rfl⟩) (fun hHd2 => ?_)
  clear hK K
  try simp only [Act.put, List.getElem_toArray, List.getElem_cons_zero, List.getElem_cons_succ, List.setIfInBounds_toArray, List.set_cons_zero, List.set_cons_succ]
  refine wpAnyH_ready (rs := [15]) (by kernel_rfl) (by simp) ?_
  refine AllReadyH.cons rfl (fun K hK => ?_) AllReadyH.nil
  refine step_call (by rfl) 92 #[.pointer (some ⟨g, 0, none⟩), .string (formOf 3 lf nm ByteArray.empty wd)] (by go_simp) (page_i2 base g v os at_ nm lf wd _ _ hW4 (Nat.le_trans hb hb4'.size) hl ha0 ha1 hn0 hn1) ?_
  rintro e w5 ⟨⟨x, rfl⟩, v', hW5, hb5, hwk5⟩
  refine ⟨_, rfl, ?_⟩
  refine hK.out _ _ (⟨hW5.row.cell 3 _ rfl, hW5.row.cell 4 _ rfl⟩) (fun hHd3 => ?_)
  clear hK K
  try simp only [Act.put, List.getElem_toArray, List.getElem_cons_zero, List.getElem_cons_succ, List.setIfInBounds_toArray, List.set_cons_zero, List.set_cons_succ]
  refine wpAnyH_done (by kernel_rfl) ?_ _
  go_end0
  exact ⟨⟨_, rfl⟩, v', hW5, (hb4'.mono hb).trans hb5, (⟨hb4'.size, fun _ h => .inl h, fun b hb _ _ => hb4'.block b hb⟩ : WK g w v w4 v).trans hwk5⟩
set_option maxHeartbeats 4000000 in
theorem turned_i (T H F R S L : Int) (w : World) (hT : 0 ≤ T) (hT1 : T ≤ 1000000000) (hH : 0 ≤ H) (hH1 : H ≤ 1) (hF : 0 ≤ F) (hF1 : F ≤ 999999000) :
    Calls Tryz.prog 69 #[rootV T H F R, .int .i64 S, .int .i64 L] w fun e w' => e = .returned (rootV (T + 1) (1 - H) (F + hv S) L) ∧ Below w.heap.size w w' := by
  have hQ : 0 ≤ hv S ∧ hv S ≤ 99 := by by_cases h : 8 ≤ S ∧ S ≤ 200; have := hv_yes h; omega; rw [hv_no h]; omega
  have HH := hid (fun w' => halves_i S w')
  obtain ⟨Q, HQ⟩ : ∃ Q, Hid (Q = hv S) := ⟨_, hid rfl⟩
  rw [← HQ.out] at hQ HH ⊢
  have hw1 : IntKind.i64.wrap (T + 1) = T + 1 := by simp [IntKind.wrap, IntKind.bits, IntKind.signed]; omega
  have hw2 : IntKind.i64.wrap (1 - H) = 1 - H := by simp [IntKind.wrap, IntKind.bits, IntKind.signed]; omega
  have hw3 : IntKind.i64.wrap (F + Q) = F + Q := by simp [IntKind.wrap, IntKind.bits, IntKind.signed]; omega
  have hbb : ∀ {cs : Array Value} {cs' : Array Value} {t t' : TypeId}, Below w.heap.size w ((w.alloc (.cells cs t)).alloc (.cells cs' t')) := ((Below.refl _ _).alloc (Nat.le_refl _) _).alloc (by simp) _
  go_enter Tryz.func69, Tryz.ntmps69
  go_wp2_with fail
  refine wp_region_held_drew (S := fun w' => w'.cell? ⟨w.heap.size, 0, none⟩ = some (.int .i64 T) ∧ w'.cell? ⟨w.heap.size, 1, none⟩ = some (.int .i64 H) ∧ w'.cell? ⟨w.heap.size, 2, none⟩ = some (.int .i64 F)) (by kernel_rfl) (⟨by go_simp, by go_simp, by go_simp⟩) (fun hHeld => ?_)
  refine wpAnyH_take (i := 0) (v := .pointer (some ⟨w.heap.size, 0, none⟩)) rfl (by kernel_rfl) (by kernel_rfl) (by kernel_rfl) (fun _ _ _ h => h) (Or.inl ⟨by rfl, fun w hw => by obtain ⟨z0, z1, z2⟩ := hw; go_simp⟩) hHeld ?_
  simp only [Act.put, List.getElem_toArray, List.getElem_cons_zero, List.getElem_cons_succ, List.setIfInBounds_toArray, List.set_cons_zero, List.set_cons_succ]
  refine wpAnyH_take (i := 1) (v := .int .i64 T) rfl (by kernel_rfl) (by kernel_rfl) (by kernel_rfl) (fun _ _ _ h => h) (Or.inl ⟨by rfl, fun w hw => by obtain ⟨z0, z1, z2⟩ := hw; go_simp⟩) hHeld ?_
  simp only [Act.put, List.getElem_toArray, List.getElem_cons_zero, List.getElem_cons_succ, List.setIfInBounds_toArray, List.set_cons_zero, List.set_cons_succ]
  refine wpAnyH_take (i := 2) (v := .int .i64 (T + 1)) rfl (by kernel_rfl) (by kernel_rfl) (by kernel_rfl) (fun _ _ _ h => h) (Or.inl ⟨by rfl, fun w hw => by obtain ⟨z0, z1, z2⟩ := hw; go_simp⟩) hHeld ?_
  simp only [Act.put, List.getElem_toArray, List.getElem_cons_zero, List.getElem_cons_succ, List.setIfInBounds_toArray, List.set_cons_zero, List.set_cons_succ]
  refine wpAnyH_take (i := 3) (v := .pointer (some ⟨w.heap.size, 1, none⟩)) rfl (by kernel_rfl) (by kernel_rfl) (by kernel_rfl) (fun _ _ _ h => h) (Or.inl ⟨by rfl, fun w hw => by obtain ⟨z0, z1, z2⟩ := hw; go_simp⟩) hHeld ?_
  simp only [Act.put, List.getElem_toArray, List.getElem_cons_zero, List.getElem_cons_succ, List.setIfInBounds_toArray, List.set_cons_zero, List.set_cons_succ]
  refine wpAnyH_take (i := 4) (v := .int .i64 H) rfl (by kernel_rfl) (by kernel_rfl) (by kernel_rfl) (fun _ _ _ h => h) (Or.inl ⟨by rfl, fun w hw => by obtain ⟨z0, z1, z2⟩ := hw; go_simp⟩) hHeld ?_
  simp only [Act.put, List.getElem_toArray, List.getElem_cons_zero, List.getElem_cons_succ, List.setIfInBounds_toArray, List.set_cons_zero, List.set_cons_succ]
  refine wpAnyH_take (i := 5) (v := .int .i64 (1 - H)) rfl (by kernel_rfl) (by kernel_rfl) (by kernel_rfl) (fun _ _ _ h => h) (Or.inl ⟨by rfl, fun w hw => by obtain ⟨z0, z1, z2⟩ := hw; go_simp⟩) hHeld ?_
  simp only [Act.put, List.getElem_toArray, List.getElem_cons_zero, List.getElem_cons_succ, List.setIfInBounds_toArray, List.set_cons_zero, List.set_cons_succ]
  refine wpAnyH_take (i := 6) (v := .pointer (some ⟨w.heap.size, 2, none⟩)) rfl (by kernel_rfl) (by kernel_rfl) (by kernel_rfl) (fun _ _ _ h => h) (Or.inl ⟨by rfl, fun w hw => by obtain ⟨z0, z1, z2⟩ := hw; go_simp⟩) hHeld ?_
  simp only [Act.put, List.getElem_toArray, List.getElem_cons_zero, List.getElem_cons_succ, List.setIfInBounds_toArray, List.set_cons_zero, List.set_cons_succ]
  refine wpAnyH_take (i := 7) (v := .int .i64 F) rfl (by kernel_rfl) (by kernel_rfl) (by kernel_rfl) (fun _ _ _ h => h) (Or.inl ⟨by rfl, fun w hw => by obtain ⟨z0, z1, z2⟩ := hw; go_simp⟩) hHeld ?_
  simp only [Act.put, List.getElem_toArray, List.getElem_cons_zero, List.getElem_cons_succ, List.setIfInBounds_toArray, List.set_cons_zero, List.set_cons_succ]
  refine wpAnyH_take (i := 8) (v := .int .i64 S) rfl (by kernel_rfl) (by kernel_rfl) (by kernel_rfl) (fun _ _ _ h => h) (Or.inl ⟨by rfl, fun w hw => by obtain ⟨z0, z1, z2⟩ := hw; go_simp⟩) hHeld ?_
  simp only [Act.put, List.getElem_toArray, List.getElem_cons_zero, List.getElem_cons_succ, List.setIfInBounds_toArray, List.set_cons_zero, List.set_cons_succ]
  refine wpAnyH_take (i := 11) (v := .int .i64 L) rfl (by kernel_rfl) (by kernel_rfl) (by kernel_rfl) (fun _ _ _ h => h) (Or.inl ⟨by rfl, fun w hw => by obtain ⟨z0, z1, z2⟩ := hw; go_simp⟩) hHeld ?_
  simp only [Act.put, List.getElem_toArray, List.getElem_cons_zero, List.getElem_cons_succ, List.setIfInBounds_toArray, List.set_cons_zero, List.set_cons_succ]
  refine wpAnyH_ready (rs := [9]) (by kernel_rfl) (by simp) ?_
  refine AllReadyH.cons rfl (fun K hK => ?_) AllReadyH.nil
  refine step_call (by rfl) 67 #[.int .i64 S] (by go_simp) (HH.out _) ?_
  rintro e w4 ⟨rfl, rfl⟩
  refine ⟨_, rfl, ?_⟩
  refine hK.out _ _ hHeld (fun _ => ?_)
  clear hK K
  try simp only [Act.put, List.getElem_toArray, List.getElem_cons_zero, List.getElem_cons_succ, List.setIfInBounds_toArray, List.set_cons_zero, List.set_cons_succ]
  refine wpAnyH_take (i := 10) (v := .int .i64 (F + Q)) rfl (by kernel_rfl) (by kernel_rfl) (by kernel_rfl) (fun _ _ _ h => h) (Or.inl ⟨by rfl, fun w hw => by obtain ⟨z0, z1, z2⟩ := hw; go_simp⟩) hHeld ?_
  simp only [Act.put, List.getElem_toArray, List.getElem_cons_zero, List.getElem_cons_succ, List.setIfInBounds_toArray, List.set_cons_zero, List.set_cons_succ]
  refine wpAnyH_take (i := 12) (v := .agg #[.int .i64 (T + 1), .int .i64 (1 - H), .int .i64 (F + Q), .int .i64 L]) rfl (by kernel_rfl) (by kernel_rfl) (by kernel_rfl) (fun _ _ _ h => h) (Or.inl ⟨by rfl, fun w hw => by obtain ⟨z0, z1, z2⟩ := hw; go_simp⟩) hHeld ?_
  simp only [Act.put, List.getElem_toArray, List.getElem_cons_zero, List.getElem_cons_succ, List.setIfInBounds_toArray, List.set_cons_zero, List.set_cons_succ]
  refine wpAnyH_ready (rs := [13]) (by kernel_rfl) (by simp) ?_
  refine AllReadyH.cons rfl (fun K hK => ?_) AllReadyH.nil
  go_simp
  refine hK.out _ _ (⟨by go_simp, by go_simp, by go_simp⟩) (fun hHd2 => ?_)
  clear hK K
  try simp only [Act.put, List.getElem_toArray, List.getElem_cons_zero, List.getElem_cons_succ, List.setIfInBounds_toArray, List.set_cons_zero, List.set_cons_succ]
  refine wpAnyH_done (by kernel_rfl) ?_ _
  go_wp2
  refine bodyPost_ret (v := rootV (T + 1) (1 - H) (F + Q) L) (by simp [results, Tryz.results69, go_sem]) rfl ⟨rfl, ?_⟩
  exact hbb.drew
set_option maxHeartbeats 4000000 in
theorem entry_i (base g : Nat) (v : Value) (os : List OpT) (at_ nm lf : Int) (n m : Nat) (text : ByteArray) (w : World) (h : Wrt w base g v os at_ nm lf (n : Int)) (hb : base ≤ w.heap.size) (ht : text.size ≤ 100000) (hl : os.length + (cutAll text lf nm n m).length ≤ 1000) (hm : n + m = 56) (hn1 : 1 ≤ n) (hn8 : n ≤ 8) (ha0 : 0 ≤ at_) (ha1 : at_ ≤ 10000) (hm0 : 0 ≤ nm) (hm1 : nm ≤ 1900000000) :
    Calls Tryz.prog 52 #[.pointer (some ⟨g, 0, none⟩), .string text] w fun e w' => (∃ x, e = .returned x) ∧ ∃ v', Wrt w' base g v' (os ++ putOps at_ (cutAll text lf nm n m)) (at_ + ((cutAll text lf nm n m).length : Int)) (nm + ((cutAll text lf nm n m).length : Int)) lf (n : Int) ∧ Below base w w' ∧ WK g w v w' v' := by
  have HC := hid (fun W => cut_i text lf nm n m W (by omega) hm hn1 hn8 (by omega) (by omega))
  obtain ⟨cut, hcut⟩ : ∃ cut, cut = cutAll text lf nm n m := ⟨_, rfl⟩
  rw [← hcut] at HC hl ⊢
  clear hcut
  go_enter Tryz.func52, Tryz.ntmps52
  go_wp2_with fail
  refine wp_region_held_drew (S := fun w' => w'.cell? ⟨g, 2, none⟩ = some (.int .i64 nm) ∧ w'.cell? ⟨g, 3, none⟩ = some (.int .i64 lf) ∧ w'.cell? ⟨g, 4, none⟩ = some (.int .i64 (n : Int))) (by kernel_rfl) (⟨h.row.drew.cell 2 _ rfl, h.row.drew.cell 3 _ rfl, h.row.drew.cell 4 _ rfl⟩) (fun hHeld => ?_)
  refine wpAnyH_take (i := 0) (v := .string text) rfl (by kernel_rfl) (by kernel_rfl) (by kernel_rfl) (fun _ _ _ h => h) (Or.inl ⟨by rfl, fun w hw => by obtain ⟨z0, z1, z2⟩ := hw; go_simp⟩) hHeld ?_
  simp only [Act.put, List.getElem_toArray, List.getElem_cons_zero, List.getElem_cons_succ, List.setIfInBounds_toArray, List.set_cons_zero, List.set_cons_succ]
  refine wpAnyH_take (i := 1) (v := .pointer (some ⟨g, 0, none⟩)) rfl (by kernel_rfl) (by kernel_rfl) (by kernel_rfl) (fun _ _ _ h => h) (Or.inl ⟨by rfl, fun w hw => by obtain ⟨z0, z1, z2⟩ := hw; go_simp⟩) hHeld ?_
  simp only [Act.put, List.getElem_toArray, List.getElem_cons_zero, List.getElem_cons_succ, List.setIfInBounds_toArray, List.set_cons_zero, List.set_cons_succ]
  refine wpAnyH_take (i := 2) (v := .pointer (some ⟨g, 0, none⟩)) rfl (by kernel_rfl) (by kernel_rfl) (by kernel_rfl) (fun _ _ _ h => h) (Or.inl ⟨by rfl, fun w hw => by obtain ⟨z0, z1, z2⟩ := hw; go_simp⟩) hHeld ?_
  simp only [Act.put, List.getElem_toArray, List.getElem_cons_zero, List.getElem_cons_succ, List.setIfInBounds_toArray, List.set_cons_zero, List.set_cons_succ]
  refine wpAnyH_take (i := 3) (v := .pointer (some ⟨g, 3, none⟩)) rfl (by kernel_rfl) (by kernel_rfl) (by kernel_rfl) (fun _ _ _ h => h) (Or.inl ⟨by rfl, fun w hw => by obtain ⟨z0, z1, z2⟩ := hw; go_simp⟩) hHeld ?_
  simp only [Act.put, List.getElem_toArray, List.getElem_cons_zero, List.getElem_cons_succ, List.setIfInBounds_toArray, List.set_cons_zero, List.set_cons_succ]
  refine wpAnyH_take (i := 4) (v := .int .i64 lf) rfl (by kernel_rfl) (by kernel_rfl) (by kernel_rfl) (fun _ _ _ h => h) (Or.inl ⟨by rfl, fun w hw => by obtain ⟨z0, z1, z2⟩ := hw; go_simp⟩) hHeld ?_
  simp only [Act.put, List.getElem_toArray, List.getElem_cons_zero, List.getElem_cons_succ, List.setIfInBounds_toArray, List.set_cons_zero, List.set_cons_succ]
  refine wpAnyH_take (i := 5) (v := .pointer (some ⟨g, 0, none⟩)) rfl (by kernel_rfl) (by kernel_rfl) (by kernel_rfl) (fun _ _ _ h => h) (Or.inl ⟨by rfl, fun w hw => by obtain ⟨z0, z1, z2⟩ := hw; go_simp⟩) hHeld ?_
  simp only [Act.put, List.getElem_toArray, List.getElem_cons_zero, List.getElem_cons_succ, List.setIfInBounds_toArray, List.set_cons_zero, List.set_cons_succ]
  refine wpAnyH_take (i := 6) (v := .pointer (some ⟨g, 0, none⟩)) rfl (by kernel_rfl) (by kernel_rfl) (by kernel_rfl) (fun _ _ _ h => h) (Or.inl ⟨by rfl, fun w hw => by obtain ⟨z0, z1, z2⟩ := hw; go_simp⟩) hHeld ?_
  simp only [Act.put, List.getElem_toArray, List.getElem_cons_zero, List.getElem_cons_succ, List.setIfInBounds_toArray, List.set_cons_zero, List.set_cons_succ]
  refine wpAnyH_take (i := 7) (v := .pointer (some ⟨g, 2, none⟩)) rfl (by kernel_rfl) (by kernel_rfl) (by kernel_rfl) (fun _ _ _ h => h) (Or.inl ⟨by rfl, fun w hw => by obtain ⟨z0, z1, z2⟩ := hw; go_simp⟩) hHeld ?_
  simp only [Act.put, List.getElem_toArray, List.getElem_cons_zero, List.getElem_cons_succ, List.setIfInBounds_toArray, List.set_cons_zero, List.set_cons_succ]
  refine wpAnyH_take (i := 8) (v := .int .i64 nm) rfl (by kernel_rfl) (by kernel_rfl) (by kernel_rfl) (fun _ _ _ h => h) (Or.inl ⟨by rfl, fun w hw => by obtain ⟨z0, z1, z2⟩ := hw; go_simp⟩) hHeld ?_
  simp only [Act.put, List.getElem_toArray, List.getElem_cons_zero, List.getElem_cons_succ, List.setIfInBounds_toArray, List.set_cons_zero, List.set_cons_succ]
  refine wpAnyH_take (i := 9) (v := .pointer (some ⟨g, 0, none⟩)) rfl (by kernel_rfl) (by kernel_rfl) (by kernel_rfl) (fun _ _ _ h => h) (Or.inl ⟨by rfl, fun w hw => by obtain ⟨z0, z1, z2⟩ := hw; go_simp⟩) hHeld ?_
  simp only [Act.put, List.getElem_toArray, List.getElem_cons_zero, List.getElem_cons_succ, List.setIfInBounds_toArray, List.set_cons_zero, List.set_cons_succ]
  refine wpAnyH_take (i := 10) (v := .pointer (some ⟨g, 0, none⟩)) rfl (by kernel_rfl) (by kernel_rfl) (by kernel_rfl) (fun _ _ _ h => h) (Or.inl ⟨by rfl, fun w hw => by obtain ⟨z0, z1, z2⟩ := hw; go_simp⟩) hHeld ?_
  simp only [Act.put, List.getElem_toArray, List.getElem_cons_zero, List.getElem_cons_succ, List.setIfInBounds_toArray, List.set_cons_zero, List.set_cons_succ]
  refine wpAnyH_take (i := 11) (v := .pointer (some ⟨g, 4, none⟩)) rfl (by kernel_rfl) (by kernel_rfl) (by kernel_rfl) (fun _ _ _ h => h) (Or.inl ⟨by rfl, fun w hw => by obtain ⟨z0, z1, z2⟩ := hw; go_simp⟩) hHeld ?_
  simp only [Act.put, List.getElem_toArray, List.getElem_cons_zero, List.getElem_cons_succ, List.setIfInBounds_toArray, List.set_cons_zero, List.set_cons_succ]
  refine wpAnyH_take (i := 12) (v := .int .i64 (n : Int)) rfl (by kernel_rfl) (by kernel_rfl) (by kernel_rfl) (fun _ _ _ h => h) (Or.inl ⟨by rfl, fun w hw => by obtain ⟨z0, z1, z2⟩ := hw; go_simp⟩) hHeld ?_
  simp only [Act.put, List.getElem_toArray, List.getElem_cons_zero, List.getElem_cons_succ, List.setIfInBounds_toArray, List.set_cons_zero, List.set_cons_succ]
  refine wpAnyH_take (i := 15) (v := .int .i64 0) rfl (by kernel_rfl) (by kernel_rfl) (by kernel_rfl) (fun _ _ _ h => h) (Or.inl ⟨by rfl, fun w hw => by obtain ⟨z0, z1, z2⟩ := hw; go_simp⟩) hHeld ?_
  simp only [Act.put, List.getElem_toArray, List.getElem_cons_zero, List.getElem_cons_succ, List.setIfInBounds_toArray, List.set_cons_zero, List.set_cons_succ]
  refine wpAnyH_ready (rs := [13]) (by kernel_rfl) (by simp) ?_
  refine AllReadyH.cons rfl (fun K hK => ?_) AllReadyH.nil
  refine step_call (by rfl) 91 #[.string text, .int .i64 lf, .int .i64 nm, .int .i64 (n : Int)] (by go_simp) (HC.out _) ?_
  rintro e w4 ⟨a4, c4, rfl, ho4, hf4, hb4⟩
  refine ⟨_, rfl, ?_⟩
  have hb4' : Below w.heap.size w w4 := (Below.refl _ _).drew.trans hb4
  have hW4 := h.below hb4'
  refine hK.out _ _ (⟨hW4.row.cell 2 _ rfl, hW4.row.cell 3 _ rfl, hW4.row.cell 4 _ rfl⟩) (fun hHd1 => ?_)
  clear hK K
  try simp only [Act.put, List.getElem_toArray, List.getElem_cons_zero, List.getElem_cons_succ, List.setIfInBounds_toArray, List.set_cons_zero, List.set_cons_succ]
  refine wpAnyH_take (i := 14) (v := .int .i64 (cut.length : Int)) rfl (by kernel_rfl) (by kernel_rfl) (by kernel_rfl) (fun _ _ _ h => h) (Or.inl ⟨by rfl, fun w hw => by obtain ⟨z0, z1, z2⟩ := hw; go_simp⟩) hHd1 ?_
  simp only [Act.put, List.getElem_toArray, List.getElem_cons_zero, List.getElem_cons_succ, List.setIfInBounds_toArray, List.set_cons_zero, List.set_cons_succ]
  refine wpAnyH_done (by kernel_rfl) ?_ _
  have HO4 := hid ho4
  have HF4 := hid hf4
  have HW4 := hid hW4
  have HB4 := hid hb4'
  have hs4 := hb4'.size
  clear ho4 hf4 hW4 hb4' hb4 hHeld hHd1
  go_wp2_with fail
  go_loopw [21] (fun i wr => ∃ j : Nat, j ≤ cut.length ∧ i = .int .i64 (j : Int) ∧ ∃ v', Wrt wr base g v' (os ++ putOps at_ (cut.take j)) (at_ + (j : Int)) (nm + (j : Int)) lf (n : Int) ∧ Below base w wr ∧ WK g w4 v wr v') (fun i _ => cut.length - (intOf i).toNat)
  case atStart =>
    refine ⟨0, Nat.zero_le _, rfl, v, ?_, HB4.out.mono hb, WK.start _ _ _⟩
    rw [List.take_zero, putOps_nil, List.append_nil]; simpa using HW4.out
  case round =>
    obtain ⟨j, hj, rfl, v', hW, hbl, hwk⟩ := hrel
    by_cases hlt : j < cut.length
    · have hsz := hwk.size
      obtain ⟨g4, rfl, hr4⟩ := HO4.out.resolve_left (by intro e; have := congrArg List.length e; simp at this; rw [this] at hlt; simp at hlt)
      have hg4 : w.heap.size ≤ g4 := HF4.out g4 (blk_pos _ _ _ (by omega))
      have hgb := h.row.lt
      have hrow := hr4.wk hwk (by omega) (fun e => by have := (h.own.lt g4 e.symm).2; omega)
      have hcj := hrow.cell j (.string (cut.getD j ByteArray.empty)) (by simp [hlt, List.getD])
      obtain ⟨pj, hpj⟩ : ∃ pj, pj = cut.getD j ByteArray.empty := ⟨_, rfl⟩
      rw [← hpj] at hcj
      have hg4l := hrow.lt
      have hlt' : (j : Int) < (cut.length : Int) := by omega
      have hj0 : (0 : Int) ≤ (j : Int) := by omega
      have hsr : base ≤ wr.heap.size := by omega
      have HP := hid (page_i2 base g v' (os ++ putOps at_ (cut.take j)) (at_ + (j : Int)) (nm + (j : Int)) lf (n : Int) pj wr hW hsr (by simp [putOps_length]; omega) (by omega) (by omega) (by omega) (by omega))
      have HBL := hid hbl
      have HPJ := hid hpj
      have hgg := hW.row.lt
      have HWK := hid hwk
      clear hW hbl hrow hwk hpj
      go_wp2_with (go_at_call 92; refine HP.out.mono ?_; rintro e w5 ⟨⟨x, rfl⟩, v5, hW5, hb5, hwk5⟩)
      have hs5 := hb5.size
      have hsn : os ++ putOps at_ (cut.take (j + 1)) = os ++ putOps at_ (cut.take j) ++ [(false, at_ + (j : Int), pj)] := by rw [takeR_snoc cut j ByteArray.empty hlt, putOps_snoc, ← HPJ.out, List.append_assoc, List.length_take, show min j cut.length = j by omega]
      refine ⟨⟨j + 1, by omega, by go_num, v5, ?_, HBL.out.trans hb5, HWK.out.trans hwk5⟩, by simp [intOf]; omega⟩
      rw [hsn]; have e1 : at_ + ((j + 1 : Nat) : Int) = at_ + (j : Int) + 1 := by omega
      have e2 : nm + ((j + 1 : Nat) : Int) = nm + (j : Int) + 1 := by omega
      rw [e1, e2]; exact hW5
    · have hje : j = cut.length := by omega
      subst hje
      go_wp2_with fail
      go_end0
      rw [List.take_length] at hW
      exact ⟨⟨_, rfl⟩, v', hW, hbl, (⟨hs4, fun _ h => .inl h, fun b hb _ _ => HB4.out.block b hb⟩ : WK g w v w4 v).trans hwk⟩
end Go.Proofs.YtnmaknnnmjfhkafGreat

namespace Go.Proofs.YtnmaknnnmjfhkafGreat
open Go.RowKit
set_option linter.unusedVariables false
set_option linter.unusedSimpArgs false
set_option maxRecDepth 8000

theorem sector_i (t h f l : Int) (ht : 0 ≤ t) (w : World) : Calls Tryz.prog 103 #[rootV t h f l] w fun e w' => e = .returned (.int .i64 (t % 2)) ∧ Below w.heap.size w w' := by
  go_enter Tryz.func103, Tryz.ntmps103
  go_wp2
  go_ret
  exact ⟨rfl, (Below.refl _ _).alloc (Nat.le_refl _) _⟩

set_option maxHeartbeats 8000000 in
theorem wroot_i (base g : Nat) (v : Value) (os : List OpT) (at_ nm lf wd t hh f l : Int) (w : World) (h : Wrt w base g v os at_ nm lf wd) (hb : base ≤ w.heap.size) (hl : os.length ≤ 1000) (ht : 0 ≤ t) :
    Calls Tryz.prog 73 #[.pointer (some ⟨g, 0, none⟩), rootV t hh f l] w fun e w' => (∃ x, e = .returned x) ∧ (∃ v', Wrt w' base g v' (os ++ [(false, t % 2, rtForm t hh f l wd)]) at_ nm lf wd) ∧ Below base w w' := by
  obtain ⟨i0, hi0, hz0, hz1, hz2⟩ := info_partsP info_opW
  have HI := hid (And.intro hi0 (And.intro hz0 (And.intro hz1 hz2)))
  clear hi0 hz0 hz1 hz2
  obtain ⟨va, vc, rfl⟩ := h.sl
  have HRP := hid (fun w' => rootpage_i_any t hh f l wd w')
  obtain ⟨rp, hrp⟩ : ∃ rp, rp = rtForm t hh f l wd := ⟨_, rfl⟩
  rw [← hrp] at HRP ⊢
  clear hrp
  have lg := h.row.lt
  obtain ⟨wb, hwb⟩ : ∃ wb, wb = w.alloc (.cells #[.int .i64 t, .int .i64 hh, .int .i64 f, .int .i64 l] 30) := ⟨_, rfl⟩
  have hbb : Below w.heap.size w wb := by rw [hwb]; exact (Below.refl _ _).alloc (Nat.le_refl _) _
  have hws : wb.heap.size = w.heap.size + 1 := by rw [hwb]; simp
  have hBb : Row wb w.heap.size [.int .i64 t, .int .i64 hh, .int .i64 f, .int .i64 l] := by rw [hwb]; exact row_new w _ _
  have hWb := h.below hbb
  have q0b := hWb.row.cell 0 _ rfl
  go_enter Tryz.func73, Tryz.ntmps73
  go_wp2_with fail
  rw [← hwb]
  clear hwb
  refine wp_region_held_drew (S := fun w' => w'.cell? ⟨w.heap.size, 0, none⟩ = some (.int .i64 t) ∧ w'.cell? ⟨w.heap.size, 1, none⟩ = some (.int .i64 hh) ∧ w'.cell? ⟨w.heap.size, 2, none⟩ = some (.int .i64 f) ∧ w'.cell? ⟨w.heap.size, 3, none⟩ = some (.int .i64 l) ∧ w'.cell? ⟨g, 4, none⟩ = some (.int .i64 wd)) (by kernel_rfl) (⟨hBb.drew.cell 0 _ rfl, hBb.drew.cell 1 _ rfl, hBb.drew.cell 2 _ rfl, hBb.drew.cell 3 _ rfl, hWb.row.drew.cell 4 _ rfl⟩) (fun hHeld => ?_)
  refine wpAnyH_take (i := 0) (v := .pointer (some ⟨g, 0, none⟩)) rfl (by kernel_rfl) (by kernel_rfl) (by kernel_rfl) (fun _ _ _ h => h) (Or.inl ⟨by rfl, fun w hw => by obtain ⟨z0, z1, z2, z3, z4⟩ := hw; go_simp⟩) hHeld ?_
  simp only [Act.put, List.getElem_toArray, List.getElem_cons_zero, List.getElem_cons_succ, List.setIfInBounds_toArray, List.set_cons_zero, List.set_cons_succ]
  refine wpAnyH_take (i := 1) (v := .pointer (some ⟨g, 0, none⟩)) rfl (by kernel_rfl) (by kernel_rfl) (by kernel_rfl) (fun _ _ _ h => h) (Or.inl ⟨by rfl, fun w hw => by obtain ⟨z0, z1, z2, z3, z4⟩ := hw; go_simp⟩) hHeld ?_
  simp only [Act.put, List.getElem_toArray, List.getElem_cons_zero, List.getElem_cons_succ, List.setIfInBounds_toArray, List.set_cons_zero, List.set_cons_succ]
  refine wpAnyH_take (i := 2) (v := .pointer (some ⟨g, 0, none⟩)) rfl (by kernel_rfl) (by kernel_rfl) (by kernel_rfl) (fun _ _ _ h => h) (Or.inl ⟨by rfl, fun w hw => by obtain ⟨z0, z1, z2, z3, z4⟩ := hw; go_simp⟩) hHeld ?_
  simp only [Act.put, List.getElem_toArray, List.getElem_cons_zero, List.getElem_cons_succ, List.setIfInBounds_toArray, List.set_cons_zero, List.set_cons_succ]
  refine wpAnyH_take (i := 3) (v := .pointer (some ⟨g, 0, none⟩)) rfl (by kernel_rfl) (by kernel_rfl) (by kernel_rfl) (fun _ _ _ h => h) (Or.inl ⟨by rfl, fun w hw => by obtain ⟨z0, z1, z2, z3, z4⟩ := hw; go_simp⟩) hHeld ?_
  simp only [Act.put, List.getElem_toArray, List.getElem_cons_zero, List.getElem_cons_succ, List.setIfInBounds_toArray, List.set_cons_zero, List.set_cons_succ]
  refine wpAnyH_take (i := 5) (v := .agg #[.int .i64 t, .int .i64 hh, .int .i64 f, .int .i64 l]) rfl (by kernel_rfl) (by kernel_rfl) (by kernel_rfl) (fun _ _ _ h => h) (Or.inl ⟨by rfl, fun w hw => by obtain ⟨z0, z1, z2, z3, z4⟩ := hw; go_simp⟩) hHeld ?_
  simp only [Act.put, List.getElem_toArray, List.getElem_cons_zero, List.getElem_cons_succ, List.setIfInBounds_toArray, List.set_cons_zero, List.set_cons_succ]
  refine wpAnyH_take (i := 7) (v := .agg #[.int .i64 t, .int .i64 hh, .int .i64 f, .int .i64 l]) rfl (by kernel_rfl) (by kernel_rfl) (by kernel_rfl) (fun _ _ _ h => h) (Or.inl ⟨by rfl, fun w hw => by obtain ⟨z0, z1, z2, z3, z4⟩ := hw; go_simp⟩) hHeld ?_
  simp only [Act.put, List.getElem_toArray, List.getElem_cons_zero, List.getElem_cons_succ, List.setIfInBounds_toArray, List.set_cons_zero, List.set_cons_succ]
  refine wpAnyH_take (i := 8) (v := .pointer (some ⟨g, 0, none⟩)) rfl (by kernel_rfl) (by kernel_rfl) (by kernel_rfl) (fun _ _ _ h => h) (Or.inl ⟨by rfl, fun w hw => by obtain ⟨z0, z1, z2, z3, z4⟩ := hw; go_simp⟩) hHeld ?_
  simp only [Act.put, List.getElem_toArray, List.getElem_cons_zero, List.getElem_cons_succ, List.setIfInBounds_toArray, List.set_cons_zero, List.set_cons_succ]
  refine wpAnyH_take (i := 9) (v := .pointer (some ⟨g, 0, none⟩)) rfl (by kernel_rfl) (by kernel_rfl) (by kernel_rfl) (fun _ _ _ h => h) (Or.inl ⟨by rfl, fun w hw => by obtain ⟨z0, z1, z2, z3, z4⟩ := hw; go_simp⟩) hHeld ?_
  simp only [Act.put, List.getElem_toArray, List.getElem_cons_zero, List.getElem_cons_succ, List.setIfInBounds_toArray, List.set_cons_zero, List.set_cons_succ]
  refine wpAnyH_take (i := 10) (v := .pointer (some ⟨g, 4, none⟩)) rfl (by kernel_rfl) (by kernel_rfl) (by kernel_rfl) (fun _ _ _ h => h) (Or.inl ⟨by rfl, fun w hw => by obtain ⟨z0, z1, z2, z3, z4⟩ := hw; go_simp⟩) hHeld ?_
  simp only [Act.put, List.getElem_toArray, List.getElem_cons_zero, List.getElem_cons_succ, List.setIfInBounds_toArray, List.set_cons_zero, List.set_cons_succ]
  refine wpAnyH_take (i := 11) (v := .int .i64 wd) rfl (by kernel_rfl) (by kernel_rfl) (by kernel_rfl) (fun _ _ _ h => h) (Or.inl ⟨by rfl, fun w hw => by obtain ⟨z0, z1, z2, z3, z4⟩ := hw; go_simp⟩) hHeld ?_
  simp only [Act.put, List.getElem_toArray, List.getElem_cons_zero, List.getElem_cons_succ, List.setIfInBounds_toArray, List.set_cons_zero, List.set_cons_succ]
  refine wpAnyH_ready (rs := [4, 6]) (by kernel_rfl) (by simp) ?_
  refine AllReadyH.cons rfl (fun K hK => ?_) (AllReadyH.cons rfl (fun K hK => ?_) AllReadyH.nil)
  · go_simp
    refine hK.out _ _ hHeld (fun _ => ?_)
    clear hK K
    try simp only [Act.put, List.getElem_toArray, List.getElem_cons_zero, List.getElem_cons_succ, List.setIfInBounds_toArray, List.set_cons_zero, List.set_cons_succ]
    refine wpAnyH_ready (rs := [6]) (by kernel_rfl) (by simp) ?_
    refine AllReadyH.cons rfl (fun K hK => ?_) AllReadyH.nil
    refine step_call (by rfl) 103 #[rootV t hh f l] (by go_simp) (sector_i t hh f l ht _) ?_
    rintro e w4 ⟨rfl, hb4⟩
    refine ⟨_, rfl, ?_⟩
    have hb4' : Below wb.heap.size wb w4 := (Below.refl _ _).drew.trans hb4
    have hW4 := hWb.below hb4'
    have hB4 := hBb.below hb4'
    have q04 := hW4.row.cell 0 _ rfl
    refine hK.out _ _ (⟨hB4.cell 0 _ rfl, hB4.cell 1 _ rfl, hB4.cell 2 _ rfl, hB4.cell 3 _ rfl, hW4.row.cell 4 _ rfl⟩) (fun hHd2 => ?_)
    clear hK K
    try simp only [Act.put, List.getElem_toArray, List.getElem_cons_zero, List.getElem_cons_succ, List.setIfInBounds_toArray, List.set_cons_zero, List.set_cons_succ]
    refine wpAnyH_ready (rs := [12]) (by kernel_rfl) (by simp) ?_
    refine AllReadyH.cons rfl (fun K hK => ?_) AllReadyH.nil
    refine step_call (by rfl) 104 #[rootV t hh f l, .int .i64 wd] (by go_simp) (HRP.out _) ?_
    rintro e w5 ⟨rfl, hb5⟩
    refine ⟨_, rfl, ?_⟩
    have hb5' : Below wb.heap.size wb w5 := hb4'.trans (hb5.mono hb4'.size)
    have hW5 := hWb.below hb5'
    have hB5 := hBb.below hb5'
    have q05 := hW5.row.cell 0 _ rfl
    have lg5 := hW5.row.lt
    have hWa := hW5.below ((Below.refl _ _).alloc (Nat.le_refl _) (.cells #[.bool false, .int .i64 (t % 2), .string rp] 75))
    have hBa := hB5.alloc (.cells #[.bool false, .int .i64 (t % 2), .string rp] 75)
    refine hK.out _ _ (⟨hB5.cell 0 _ rfl, hB5.cell 1 _ rfl, hB5.cell 2 _ rfl, hB5.cell 3 _ rfl, hW5.row.cell 4 _ rfl⟩) (fun hHd3 => ?_)
    clear hK K
    try simp only [Act.put, List.getElem_toArray, List.getElem_cons_zero, List.getElem_cons_succ, List.setIfInBounds_toArray, List.set_cons_zero, List.set_cons_succ]
    refine wpAnyH_take (i := 13) (v := .agg #[.bool false, .int .i64 (t % 2), .string rp]) rfl (by kernel_rfl) (by kernel_rfl) (by kernel_rfl) (fun _ _ _ h => h) (Or.inl ⟨by rfl, fun w hw => by obtain ⟨z0, z1, z2, z3, z4⟩ := hw; go_simp⟩) hHd3 ?_
    simp only [Act.put, List.getElem_toArray, List.getElem_cons_zero, List.getElem_cons_succ, List.setIfInBounds_toArray, List.set_cons_zero, List.set_cons_succ]
    refine wpAnyH_ready (rs := [14]) (by kernel_rfl) (by simp) ?_
    refine AllReadyH.cons rfl (fun K hK => ?_) AllReadyH.nil
    go_simp
    refine hK.out _ _ (⟨hBa.cell 0 _ rfl, hBa.cell 1 _ rfl, hBa.cell 2 _ rfl, hBa.cell 3 _ rfl, hWa.row.cell 4 _ rfl⟩) (fun hHd4 => ?_)
    clear hK K
    try simp only [Act.put, List.getElem_toArray, List.getElem_cons_zero, List.getElem_cons_succ, List.setIfInBounds_toArray, List.set_cons_zero, List.set_cons_succ]
    refine wpAnyH_ready (rs := [15]) (by kernel_rfl) (by simp) ?_
    refine AllReadyH.cons rfl (fun K hK => ?_) AllReadyH.nil
    refine step_append_lies _ (by rfl) _ _ _ (by rfl) base 75 i0 (.agg #[.bool false, .int .i64 0, .string ByteArray.empty]) 3 32 Tryz.underlying36 HI.out.1 HI.out.2.1 HI.out.2.2.1 HI.out.2.2.2 rfl (by omega) (.slice va os.length vc) os.length _ (by rfl) hWa.own ⟨w5.heap.size, 0, none⟩ 1 1 [.bool false, .int .i64 (t % 2), .string rp] (by rfl) rfl (World.news_of_block (heap_alloc_new w5 _)) (oneOp _ _ _) (by omega) (by unfold maxLen; omega) (by omega) (by have := hb5'.size; simp <;> omega) (w5.heap.size + 1) (by simp) ?_
    intro g9 cap9 w9 hown9 hgrow9 hat9 hlt9
    have hend := wrt_push (W := w) (x := (false, t % 2, rp)) hW5 (by have := hb5'.size; omega) ((hbb.mono hb).trans (hb5'.mono (by omega))) hown9 hgrow9 hat9
    have hB9 := hBa.grown hgrow9 (fun e => by have := (h.own.lt w.heap.size e.symm).2; omega)
    have HEND := hid hend
    have q9 := hend.1.cell 0 _ rfl
    have q94 := hend.1.cell 4 _ rfl
    have r9 := hend.1.froz 0 (by simp)
    have lg9 := hend.1.lt
    have hBn : w.heap.size ≠ g := by omega
    clear hown9 hgrow9 hat9 hend
    refine hK.out _ _ (⟨hB9.cell 0 _ rfl, hB9.cell 1 _ rfl, hB9.cell 2 _ rfl, hB9.cell 3 _ rfl, q94⟩) (fun hHd5 => ?_)
    clear hK K
    try simp only [Act.put, List.getElem_toArray, List.getElem_cons_zero, List.getElem_cons_succ, List.setIfInBounds_toArray, List.set_cons_zero, List.set_cons_succ]
    refine wpAnyH_take (i := 16) (v := .pointer (some ⟨g, 0, none⟩)) rfl (by kernel_rfl) (by kernel_rfl) (by kernel_rfl) (fun _ _ _ h => h) (Or.inl ⟨by rfl, fun w hw => by obtain ⟨z0, z1, z2, z3, z4⟩ := hw; go_simp⟩) hHd5 ?_
    simp only [Act.put, List.getElem_toArray, List.getElem_cons_zero, List.getElem_cons_succ, List.setIfInBounds_toArray, List.set_cons_zero, List.set_cons_succ]
    refine wpAnyH_take (i := 17) (v := .pointer (some ⟨g, 0, none⟩)) rfl (by kernel_rfl) (by kernel_rfl) (by kernel_rfl) (fun _ _ _ h => h) (Or.inl ⟨by rfl, fun w hw => by obtain ⟨z0, z1, z2, z3, z4⟩ := hw; go_simp⟩) hHd5 ?_
    simp only [Act.put, List.getElem_toArray, List.getElem_cons_zero, List.getElem_cons_succ, List.setIfInBounds_toArray, List.set_cons_zero, List.set_cons_succ]
    refine wpAnyH_ready (rs := [18]) (by kernel_rfl) (by simp) ?_
    refine AllReadyH.cons rfl (fun K hK => ?_) AllReadyH.nil
    go_simp
    have hBs := hB9.other ⟨g, 0, none⟩ (by show g ≠ w.heap.size; omega) (.slice (some ⟨g9, 0, none⟩) (os.length + 1) cap9)
    refine hK.out _ _ (⟨hBs.cell 0 _ rfl, hBs.cell 1 _ rfl, hBs.cell 2 _ rfl, hBs.cell 3 _ rfl, HEND.out.2.1.row.cell 4 _ rfl⟩) (fun hHd6 => ?_)
    clear hK K
    try simp only [Act.put, List.getElem_toArray, List.getElem_cons_zero, List.getElem_cons_succ, List.setIfInBounds_toArray, List.set_cons_zero, List.set_cons_succ]
    refine wpAnyH_done (by kernel_rfl) ?_ _
    go_end0
    exact ⟨⟨_, rfl⟩, ⟨_, HEND.out.2.1⟩, HEND.out.2.2.2⟩
  · refine step_call (by rfl) 103 #[rootV t hh f l] (by go_simp) (sector_i t hh f l ht _) ?_
    rintro e w4 ⟨rfl, hb4⟩
    refine ⟨_, rfl, ?_⟩
    have hb4' : Below wb.heap.size wb w4 := (Below.refl _ _).drew.trans hb4
    have hW4 := hWb.below hb4'
    have hB4 := hBb.below hb4'
    have q04 := hW4.row.cell 0 _ rfl
    refine hK.out _ _ (⟨hB4.cell 0 _ rfl, hB4.cell 1 _ rfl, hB4.cell 2 _ rfl, hB4.cell 3 _ rfl, hW4.row.cell 4 _ rfl⟩) (fun hHd7 => ?_)
    clear hK K
    try simp only [Act.put, List.getElem_toArray, List.getElem_cons_zero, List.getElem_cons_succ, List.setIfInBounds_toArray, List.set_cons_zero, List.set_cons_succ]
    refine wpAnyH_ready (rs := [4, 12]) (by kernel_rfl) (by simp) ?_
    refine AllReadyH.cons rfl (fun K hK => ?_) (AllReadyH.cons rfl (fun K hK => ?_) AllReadyH.nil)
    · go_simp
      refine hK.out _ _ hHd7 (fun _ => ?_)
      clear hK K
      try simp only [Act.put, List.getElem_toArray, List.getElem_cons_zero, List.getElem_cons_succ, List.setIfInBounds_toArray, List.set_cons_zero, List.set_cons_succ]
      refine wpAnyH_ready (rs := [12]) (by kernel_rfl) (by simp) ?_
      refine AllReadyH.cons rfl (fun K hK => ?_) AllReadyH.nil
      refine step_call (by rfl) 104 #[rootV t hh f l, .int .i64 wd] (by go_simp) (HRP.out _) ?_
      rintro e w5 ⟨rfl, hb5⟩
      refine ⟨_, rfl, ?_⟩
      have hb5' : Below wb.heap.size wb w5 := hb4'.trans (hb5.mono hb4'.size)
      have hW5 := hWb.below hb5'
      have hB5 := hBb.below hb5'
      have q05 := hW5.row.cell 0 _ rfl
      have lg5 := hW5.row.lt
      have hWa := hW5.below ((Below.refl _ _).alloc (Nat.le_refl _) (.cells #[.bool false, .int .i64 (t % 2), .string rp] 75))
      have hBa := hB5.alloc (.cells #[.bool false, .int .i64 (t % 2), .string rp] 75)
      refine hK.out _ _ (⟨hB5.cell 0 _ rfl, hB5.cell 1 _ rfl, hB5.cell 2 _ rfl, hB5.cell 3 _ rfl, hW5.row.cell 4 _ rfl⟩) (fun hHd9 => ?_)
      clear hK K
      try simp only [Act.put, List.getElem_toArray, List.getElem_cons_zero, List.getElem_cons_succ, List.setIfInBounds_toArray, List.set_cons_zero, List.set_cons_succ]
      refine wpAnyH_take (i := 13) (v := .agg #[.bool false, .int .i64 (t % 2), .string rp]) rfl (by kernel_rfl) (by kernel_rfl) (by kernel_rfl) (fun _ _ _ h => h) (Or.inl ⟨by rfl, fun w hw => by obtain ⟨z0, z1, z2, z3, z4⟩ := hw; go_simp⟩) hHd9 ?_
      simp only [Act.put, List.getElem_toArray, List.getElem_cons_zero, List.getElem_cons_succ, List.setIfInBounds_toArray, List.set_cons_zero, List.set_cons_succ]
      refine wpAnyH_ready (rs := [14]) (by kernel_rfl) (by simp) ?_
      refine AllReadyH.cons rfl (fun K hK => ?_) AllReadyH.nil
      go_simp
      refine hK.out _ _ (⟨hBa.cell 0 _ rfl, hBa.cell 1 _ rfl, hBa.cell 2 _ rfl, hBa.cell 3 _ rfl, hWa.row.cell 4 _ rfl⟩) (fun hHd10 => ?_)
      clear hK K
      try simp only [Act.put, List.getElem_toArray, List.getElem_cons_zero, List.getElem_cons_succ, List.setIfInBounds_toArray, List.set_cons_zero, List.set_cons_succ]
      refine wpAnyH_ready (rs := [15]) (by kernel_rfl) (by simp) ?_
      refine AllReadyH.cons rfl (fun K hK => ?_) AllReadyH.nil
      refine step_append_lies _ (by rfl) _ _ _ (by rfl) base 75 i0 (.agg #[.bool false, .int .i64 0, .string ByteArray.empty]) 3 32 Tryz.underlying36 HI.out.1 HI.out.2.1 HI.out.2.2.1 HI.out.2.2.2 rfl (by omega) (.slice va os.length vc) os.length _ (by rfl) hWa.own ⟨w5.heap.size, 0, none⟩ 1 1 [.bool false, .int .i64 (t % 2), .string rp] (by rfl) rfl (World.news_of_block (heap_alloc_new w5 _)) (oneOp _ _ _) (by omega) (by unfold maxLen; omega) (by omega) (by have := hb5'.size; simp <;> omega) (w5.heap.size + 1) (by simp) ?_
      intro g9 cap9 w9 hown9 hgrow9 hat9 hlt9
      have hend := wrt_push (W := w) (x := (false, t % 2, rp)) hW5 (by have := hb5'.size; omega) ((hbb.mono hb).trans (hb5'.mono (by omega))) hown9 hgrow9 hat9
      have hB9 := hBa.grown hgrow9 (fun e => by have := (h.own.lt w.heap.size e.symm).2; omega)
      have HEND := hid hend
      have q9 := hend.1.cell 0 _ rfl
      have q94 := hend.1.cell 4 _ rfl
      have r9 := hend.1.froz 0 (by simp)
      have lg9 := hend.1.lt
      have hBn : w.heap.size ≠ g := by omega
      clear hown9 hgrow9 hat9 hend
      refine hK.out _ _ (⟨hB9.cell 0 _ rfl, hB9.cell 1 _ rfl, hB9.cell 2 _ rfl, hB9.cell 3 _ rfl, q94⟩) (fun hHd11 => ?_)
      clear hK K
      try simp only [Act.put, List.getElem_toArray, List.getElem_cons_zero, List.getElem_cons_succ, List.setIfInBounds_toArray, List.set_cons_zero, List.set_cons_succ]
      refine wpAnyH_take (i := 16) (v := .pointer (some ⟨g, 0, none⟩)) rfl (by kernel_rfl) (by kernel_rfl) (by kernel_rfl) (fun _ _ _ h => h) (Or.inl ⟨by rfl, fun w hw => by obtain ⟨z0, z1, z2, z3, z4⟩ := hw; go_simp⟩) hHd11 ?_
      simp only [Act.put, List.getElem_toArray, List.getElem_cons_zero, List.getElem_cons_succ, List.setIfInBounds_toArray, List.set_cons_zero, List.set_cons_succ]
      refine wpAnyH_take (i := 17) (v := .pointer (some ⟨g, 0, none⟩)) rfl (by kernel_rfl) (by kernel_rfl) (by kernel_rfl) (fun _ _ _ h => h) (Or.inl ⟨by rfl, fun w hw => by obtain ⟨z0, z1, z2, z3, z4⟩ := hw; go_simp⟩) hHd11 ?_
      simp only [Act.put, List.getElem_toArray, List.getElem_cons_zero, List.getElem_cons_succ, List.setIfInBounds_toArray, List.set_cons_zero, List.set_cons_succ]
      refine wpAnyH_ready (rs := [18]) (by kernel_rfl) (by simp) ?_
      refine AllReadyH.cons rfl (fun K hK => ?_) AllReadyH.nil
      go_simp
      have hBs := hB9.other ⟨g, 0, none⟩ (by show g ≠ w.heap.size; omega) (.slice (some ⟨g9, 0, none⟩) (os.length + 1) cap9)
      refine hK.out _ _ (⟨hBs.cell 0 _ rfl, hBs.cell 1 _ rfl, hBs.cell 2 _ rfl, hBs.cell 3 _ rfl, HEND.out.2.1.row.cell 4 _ rfl⟩) (fun hHd12 => ?_)
      clear hK K
      try simp only [Act.put, List.getElem_toArray, List.getElem_cons_zero, List.getElem_cons_succ, List.setIfInBounds_toArray, List.set_cons_zero, List.set_cons_succ]
      refine wpAnyH_done (by kernel_rfl) ?_ _
      go_end0
      exact ⟨⟨_, rfl⟩, ⟨_, HEND.out.2.1⟩, HEND.out.2.2.2⟩
    · refine step_call (by rfl) 104 #[rootV t hh f l, .int .i64 wd] (by go_simp) (HRP.out _) ?_
      rintro e w5 ⟨rfl, hb5⟩
      refine ⟨_, rfl, ?_⟩
      have hb5' : Below wb.heap.size wb w5 := hb4'.trans (hb5.mono hb4'.size)
      have hW5 := hWb.below hb5'
      have hB5 := hBb.below hb5'
      have q05 := hW5.row.cell 0 _ rfl
      have lg5 := hW5.row.lt
      have hWa := hW5.below ((Below.refl _ _).alloc (Nat.le_refl _) (.cells #[.bool false, .int .i64 (t % 2), .string rp] 75))
      have hBa := hB5.alloc (.cells #[.bool false, .int .i64 (t % 2), .string rp] 75)
      refine hK.out _ _ (⟨hB5.cell 0 _ rfl, hB5.cell 1 _ rfl, hB5.cell 2 _ rfl, hB5.cell 3 _ rfl, hW5.row.cell 4 _ rfl⟩) (fun hHd13 => ?_)
      clear hK K
      try simp only [Act.put, List.getElem_toArray, List.getElem_cons_zero, List.getElem_cons_succ, List.setIfInBounds_toArray, List.set_cons_zero, List.set_cons_succ]
      refine wpAnyH_take (i := 13) (v := .agg #[.bool false, .int .i64 (t % 2), .string rp]) rfl (by kernel_rfl) (by kernel_rfl) (by kernel_rfl) (fun _ _ _ h => h) (Or.inl ⟨by rfl, fun w hw => by obtain ⟨z0, z1, z2, z3, z4⟩ := hw; go_simp⟩) hHd13 ?_
      simp only [Act.put, List.getElem_toArray, List.getElem_cons_zero, List.getElem_cons_succ, List.setIfInBounds_toArray, List.set_cons_zero, List.set_cons_succ]
      refine wpAnyH_ready (rs := [4, 14]) (by kernel_rfl) (by simp) ?_
      refine AllReadyH.cons rfl (fun K hK => ?_) (AllReadyH.cons rfl (fun K hK => ?_) AllReadyH.nil)
      · go_simp
        refine hK.out _ _ hHd13 (fun _ => ?_)
        clear hK K
        try simp only [Act.put, List.getElem_toArray, List.getElem_cons_zero, List.getElem_cons_succ, List.setIfInBounds_toArray, List.set_cons_zero, List.set_cons_succ]
        refine wpAnyH_ready (rs := [14]) (by kernel_rfl) (by simp) ?_
        refine AllReadyH.cons rfl (fun K hK => ?_) AllReadyH.nil
        go_simp
        refine hK.out _ _ (⟨hBa.cell 0 _ rfl, hBa.cell 1 _ rfl, hBa.cell 2 _ rfl, hBa.cell 3 _ rfl, hWa.row.cell 4 _ rfl⟩) (fun hHd15 => ?_)
        clear hK K
        try simp only [Act.put, List.getElem_toArray, List.getElem_cons_zero, List.getElem_cons_succ, List.setIfInBounds_toArray, List.set_cons_zero, List.set_cons_succ]
        refine wpAnyH_ready (rs := [15]) (by kernel_rfl) (by simp) ?_
        refine AllReadyH.cons rfl (fun K hK => ?_) AllReadyH.nil
        refine step_append_lies _ (by rfl) _ _ _ (by rfl) base 75 i0 (.agg #[.bool false, .int .i64 0, .string ByteArray.empty]) 3 32 Tryz.underlying36 HI.out.1 HI.out.2.1 HI.out.2.2.1 HI.out.2.2.2 rfl (by omega) (.slice va os.length vc) os.length _ (by rfl) hWa.own ⟨w5.heap.size, 0, none⟩ 1 1 [.bool false, .int .i64 (t % 2), .string rp] (by rfl) rfl (World.news_of_block (heap_alloc_new w5 _)) (oneOp _ _ _) (by omega) (by unfold maxLen; omega) (by omega) (by have := hb5'.size; simp <;> omega) (w5.heap.size + 1) (by simp) ?_
        intro g9 cap9 w9 hown9 hgrow9 hat9 hlt9
        have hend := wrt_push (W := w) (x := (false, t % 2, rp)) hW5 (by have := hb5'.size; omega) ((hbb.mono hb).trans (hb5'.mono (by omega))) hown9 hgrow9 hat9
        have hB9 := hBa.grown hgrow9 (fun e => by have := (h.own.lt w.heap.size e.symm).2; omega)
        have HEND := hid hend
        have q9 := hend.1.cell 0 _ rfl
        have q94 := hend.1.cell 4 _ rfl
        have r9 := hend.1.froz 0 (by simp)
        have lg9 := hend.1.lt
        have hBn : w.heap.size ≠ g := by omega
        clear hown9 hgrow9 hat9 hend
        refine hK.out _ _ (⟨hB9.cell 0 _ rfl, hB9.cell 1 _ rfl, hB9.cell 2 _ rfl, hB9.cell 3 _ rfl, q94⟩) (fun hHd16 => ?_)
        clear hK K
        try simp only [Act.put, List.getElem_toArray, List.getElem_cons_zero, List.getElem_cons_succ, List.setIfInBounds_toArray, List.set_cons_zero, List.set_cons_succ]
        refine wpAnyH_take (i := 16) (v := .pointer (some ⟨g, 0, none⟩)) rfl (by kernel_rfl) (by kernel_rfl) (by kernel_rfl) (fun _ _ _ h => h) (Or.inl ⟨by rfl, fun w hw => by obtain ⟨z0, z1, z2, z3, z4⟩ := hw; go_simp⟩) hHd16 ?_
        simp only [Act.put, List.getElem_toArray, List.getElem_cons_zero, List.getElem_cons_succ, List.setIfInBounds_toArray, List.set_cons_zero, List.set_cons_succ]
        refine wpAnyH_take (i := 17) (v := .pointer (some ⟨g, 0, none⟩)) rfl (by kernel_rfl) (by kernel_rfl) (by kernel_rfl) (fun _ _ _ h => h) (Or.inl ⟨by rfl, fun w hw => by obtain ⟨z0, z1, z2, z3, z4⟩ := hw; go_simp⟩) hHd16 ?_
        simp only [Act.put, List.getElem_toArray, List.getElem_cons_zero, List.getElem_cons_succ, List.setIfInBounds_toArray, List.set_cons_zero, List.set_cons_succ]
        refine wpAnyH_ready (rs := [18]) (by kernel_rfl) (by simp) ?_
        refine AllReadyH.cons rfl (fun K hK => ?_) AllReadyH.nil
        go_simp
        have hBs := hB9.other ⟨g, 0, none⟩ (by show g ≠ w.heap.size; omega) (.slice (some ⟨g9, 0, none⟩) (os.length + 1) cap9)
        refine hK.out _ _ (⟨hBs.cell 0 _ rfl, hBs.cell 1 _ rfl, hBs.cell 2 _ rfl, hBs.cell 3 _ rfl, HEND.out.2.1.row.cell 4 _ rfl⟩) (fun hHd17 => ?_)
        clear hK K
        try simp only [Act.put, List.getElem_toArray, List.getElem_cons_zero, List.getElem_cons_succ, List.setIfInBounds_toArray, List.set_cons_zero, List.set_cons_succ]
        refine wpAnyH_done (by kernel_rfl) ?_ _
        go_end0
        exact ⟨⟨_, rfl⟩, ⟨_, HEND.out.2.1⟩, HEND.out.2.2.2⟩
      · go_simp
        refine hK.out _ _ (⟨hBa.cell 0 _ rfl, hBa.cell 1 _ rfl, hBa.cell 2 _ rfl, hBa.cell 3 _ rfl, hWa.row.cell 4 _ rfl⟩) (fun hHd18 => ?_)
        clear hK K
        try simp only [Act.put, List.getElem_toArray, List.getElem_cons_zero, List.getElem_cons_succ, List.setIfInBounds_toArray, List.set_cons_zero, List.set_cons_succ]
        refine wpAnyH_ready (rs := [4]) (by kernel_rfl) (by simp) ?_
        refine AllReadyH.cons rfl (fun K hK => ?_) AllReadyH.nil
        go_simp
        refine hK.out _ _ hHd18 (fun _ => ?_)
        clear hK K
        try simp only [Act.put, List.getElem_toArray, List.getElem_cons_zero, List.getElem_cons_succ, List.setIfInBounds_toArray, List.set_cons_zero, List.set_cons_succ]
        refine wpAnyH_ready (rs := [15]) (by kernel_rfl) (by simp) ?_
        refine AllReadyH.cons rfl (fun K hK => ?_) AllReadyH.nil
        refine step_append_lies _ (by rfl) _ _ _ (by rfl) base 75 i0 (.agg #[.bool false, .int .i64 0, .string ByteArray.empty]) 3 32 Tryz.underlying36 HI.out.1 HI.out.2.1 HI.out.2.2.1 HI.out.2.2.2 rfl (by omega) (.slice va os.length vc) os.length _ (by rfl) hWa.own ⟨w5.heap.size, 0, none⟩ 1 1 [.bool false, .int .i64 (t % 2), .string rp] (by rfl) rfl (World.news_of_block (heap_alloc_new w5 _)) (oneOp _ _ _) (by omega) (by unfold maxLen; omega) (by omega) (by have := hb5'.size; simp <;> omega) (w5.heap.size + 1) (by simp) ?_
        intro g9 cap9 w9 hown9 hgrow9 hat9 hlt9
        have hend := wrt_push (W := w) (x := (false, t % 2, rp)) hW5 (by have := hb5'.size; omega) ((hbb.mono hb).trans (hb5'.mono (by omega))) hown9 hgrow9 hat9
        have hB9 := hBa.grown hgrow9 (fun e => by have := (h.own.lt w.heap.size e.symm).2; omega)
        have HEND := hid hend
        have q9 := hend.1.cell 0 _ rfl
        have q94 := hend.1.cell 4 _ rfl
        have r9 := hend.1.froz 0 (by simp)
        have lg9 := hend.1.lt
        have hBn : w.heap.size ≠ g := by omega
        clear hown9 hgrow9 hat9 hend
        refine hK.out _ _ (⟨hB9.cell 0 _ rfl, hB9.cell 1 _ rfl, hB9.cell 2 _ rfl, hB9.cell 3 _ rfl, q94⟩) (fun hHd20 => ?_)
        clear hK K
        try simp only [Act.put, List.getElem_toArray, List.getElem_cons_zero, List.getElem_cons_succ, List.setIfInBounds_toArray, List.set_cons_zero, List.set_cons_succ]
        refine wpAnyH_take (i := 16) (v := .pointer (some ⟨g, 0, none⟩)) rfl (by kernel_rfl) (by kernel_rfl) (by kernel_rfl) (fun _ _ _ h => h) (Or.inl ⟨by rfl, fun w hw => by obtain ⟨z0, z1, z2, z3, z4⟩ := hw; go_simp⟩) hHd20 ?_
        simp only [Act.put, List.getElem_toArray, List.getElem_cons_zero, List.getElem_cons_succ, List.setIfInBounds_toArray, List.set_cons_zero, List.set_cons_succ]
        refine wpAnyH_take (i := 17) (v := .pointer (some ⟨g, 0, none⟩)) rfl (by kernel_rfl) (by kernel_rfl) (by kernel_rfl) (fun _ _ _ h => h) (Or.inl ⟨by rfl, fun w hw => by obtain ⟨z0, z1, z2, z3, z4⟩ := hw; go_simp⟩) hHd20 ?_
        simp only [Act.put, List.getElem_toArray, List.getElem_cons_zero, List.getElem_cons_succ, List.setIfInBounds_toArray, List.set_cons_zero, List.set_cons_succ]
        refine wpAnyH_ready (rs := [18]) (by kernel_rfl) (by simp) ?_
        refine AllReadyH.cons rfl (fun K hK => ?_) AllReadyH.nil
        go_simp
        have hBs := hB9.other ⟨g, 0, none⟩ (by show g ≠ w.heap.size; omega) (.slice (some ⟨g9, 0, none⟩) (os.length + 1) cap9)
        refine hK.out _ _ (⟨hBs.cell 0 _ rfl, hBs.cell 1 _ rfl, hBs.cell 2 _ rfl, hBs.cell 3 _ rfl, HEND.out.2.1.row.cell 4 _ rfl⟩) (fun hHd21 => ?_)
        clear hK K
        try simp only [Act.put, List.getElem_toArray, List.getElem_cons_zero, List.getElem_cons_succ, List.setIfInBounds_toArray, List.set_cons_zero, List.set_cons_succ]
        refine wpAnyH_done (by kernel_rfl) ?_ _
        go_end0
        exact ⟨⟨_, rfl⟩, ⟨_, HEND.out.2.1⟩, HEND.out.2.2.2⟩
theorem mover_i (base g : Nat) (v : Value) (os : List OpT) (at_ nm lf wd : Int) (w : World) (h : Wrt w base g v os at_ nm lf wd) (hb : base ≤ w.heap.size) (hl : os.length ≤ 1000) (ha0 : 0 ≤ at_) (ha1 : at_ ≤ 100000) (hn0 : 0 ≤ nm) (hn1 : nm ≤ 2000000000) :
    Calls Tryz.prog 70 #[.pointer (some ⟨g, 0, none⟩)] w fun e w' => e = .returned (.func (.func 101) #[] #[.pointer (some ⟨w.heap.size, 0, none⟩)]) ∧ Row w' w.heap.size [.pointer (some ⟨g, 0, none⟩)] ∧ (∃ v', Wrt w' base g v' (os ++ [(false, at_, formOf 3 lf nm ByteArray.empty wd)]) (at_ + 1) (nm + 1) lf wd ∧ ∀ k, v'.ownBlock = some k → k ≠ w.heap.size) ∧ Below base w w' := by
  have hmf : ∀ (fn : Fn) (first cap : Array Value) (w : World), (Instr.makeFunc fn first cap).run Tryz.prog w = .ok (.func fn first cap) w := fun _ _ _ _ => rfl
  have hbb : ∀ o, Below w.heap.size w (w.alloc o) := fun o => (Below.refl _ _).alloc (Nat.le_refl _) _
  have HN := hid (newlife_i base g v os at_ nm lf wd _ (h.below (hbb (.cells #[.pointer (some ⟨g, 0, none⟩)] 83))) (Nat.le_trans hb (hbb _).size) hl ha0 ha1 hn0 hn1)
  go_enter Tryz.func70, Tryz.ntmps70
  go_wp2_with (go_at_call 100; refine HN.out.mono ?_; rintro e w1 ⟨⟨x, rfl⟩, v', hW, hb1, hwk⟩)
  go_ret
  have lg := h.row.lt
  refine ⟨rfl, (row_new w #[.pointer (some ⟨g, 0, none⟩)] 83).wk hwk (by omega) (fun e => by have := (h.own.lt w.heap.size e.symm).2; omega), ⟨v', hW, fun k hk e => ?_⟩, ((hbb _).mono hb).trans hb1⟩
  subst e
  rcases hwk.own _ hk with h1 | h1
  · have := (h.own.lt _ h1).2; omega
  · rw [World.size_alloc] at h1; omega
  
set_option maxHeartbeats 4000000 in
theorem take_i (base g B : Nat) (v : Value) (os : List OpT) (at_ nm lf : Int) (n m : Nat) (p : Option Addr) (b : List Ch) (cc : Nat) (w : World) (h : Wrt w base g v os at_ nm lf (n : Int)) (hB : Row w B [.pointer (some ⟨g, 0, none⟩)]) (hBg : B ≠ g) (hBo : some B ≠ v.ownBlock) (hch : Chs w p b) (hbl : b.length ≤ 1048576) (hbs : ∀ x ∈ b, x.1.size ≤ 1048576 ∧ x.2.1.size ≤ 1048576) (hb : base ≤ w.heap.size) (hl : os.length + (cutAll (bOut b) lf nm n m).length ≤ 1000) (hm : n + m = 56) (hn1 : 1 ≤ n) (hn8 : n ≤ 8) (ha0 : 0 ≤ at_) (ha1 : at_ ≤ 10000) (hm0 : 0 ≤ nm) (hm1 : nm ≤ 1900000000) :
    Calls Tryz.prog 101 #[.slice p b.length cc, .pointer (some ⟨B, 0, none⟩)] w fun e w' => (∃ x, e = .returned x) ∧ ∃ v', Wrt w' base g v' (os ++ putOps at_ (cutAll (bOut b) lf nm n m)) (at_ + ((cutAll (bOut b) lf nm n m).length : Int)) (nm + ((cutAll (bOut b) lf nm n m).length : Int)) lf (n : Int) ∧ Below base w w' ∧ WK g w v w' v' := by
  have HF := hid (fun W (hW : Chs W p b) => formbatch_i p b cc W hW hbl hbs)
  have hO := bOut_bound b
  go_enter Tryz.func101, Tryz.ntmps101
  go_wp2_with fail
  refine wp_region_held_drew (S := fun w' => w'.cell? ⟨B, 0, none⟩ = some (.pointer (some ⟨g, 0, none⟩))) (by kernel_rfl) (hB.drew.cell 0 _ rfl) (fun hHeld => ?_)
  refine wpAnyH_take (i := 0) (v := .pointer (some ⟨g, 0, none⟩)) rfl (by kernel_rfl) (by kernel_rfl) (by kernel_rfl) (fun _ _ _ h => h) (Or.inl ⟨by rfl, fun w hw => by obtain z0 := hw; go_simp⟩) hHeld ?_
  simp only [Act.put, List.getElem_toArray, List.getElem_cons_zero, List.getElem_cons_succ, List.setIfInBounds_toArray, List.set_cons_zero, List.set_cons_succ]
  refine wpAnyH_take (i := 1) (v := .slice p b.length cc) rfl (by kernel_rfl) (by kernel_rfl) (by kernel_rfl) (fun _ _ _ h => h) (Or.inl ⟨by rfl, fun w hw => by obtain z0 := hw; go_simp⟩) hHeld ?_
  simp only [Act.put, List.getElem_toArray, List.getElem_cons_zero, List.getElem_cons_succ, List.setIfInBounds_toArray, List.set_cons_zero, List.set_cons_succ]
  refine wpAnyH_ready (rs := [2]) (by kernel_rfl) (by simp) ?_
  refine AllReadyH.cons rfl (fun K hK => ?_) AllReadyH.nil
  refine step_call (by rfl) 47 #[.slice p b.length cc] (by go_simp) (HF.out _ (hch.below (Below.refl _ _).drew)) ?_
  rintro e w4 ⟨rfl, hb4⟩
  refine ⟨_, rfl, ?_⟩
  have hb4' : Below w.heap.size w w4 := (Below.refl _ _).drew.trans hb4
  have hB4 := hB.below hb4'
  refine hK.out _ _ (hB4.cell 0 _ rfl) (fun hHd1 => ?_)
  clear hK K
  try simp only [Act.put, List.getElem_toArray, List.getElem_cons_zero, List.getElem_cons_succ, List.setIfInBounds_toArray, List.set_cons_zero, List.set_cons_succ]
  refine wpAnyH_ready (rs := [3]) (by kernel_rfl) (by simp) ?_
  refine AllReadyH.cons rfl (fun K hK => ?_) AllReadyH.nil
  refine step_call (by rfl) 52 #[.pointer (some ⟨g, 0, none⟩), .string (bOut b)] (by go_simp) (entry_i base g v os at_ nm lf n m _ _ (h.below hb4') (Nat.le_trans hb hb4'.size) (by omega) hl hm hn1 hn8 ha0 ha1 hm0 hm1) ?_
  rintro e w5 ⟨⟨x, rfl⟩, v', hW5, hb5, hwk5⟩
  refine ⟨_, rfl, ?_⟩
  have hB5 := hB4.wk hwk5 hBg hBo
  refine hK.out _ _ (hB5.cell 0 _ rfl) (fun hHd2 => ?_)
  clear hK K
  try simp only [Act.put, List.getElem_toArray, List.getElem_cons_zero, List.getElem_cons_succ, List.setIfInBounds_toArray, List.set_cons_zero, List.set_cons_succ]
  refine wpAnyH_done (by kernel_rfl) ?_ _
  go_end0
  exact ⟨⟨_, rfl⟩, v', hW5, (hb4'.mono hb).trans hb5, (⟨hb4'.size, fun _ h => .inl h, fun b hb _ _ => hb4'.block b hb⟩ : WK g w v w4 v).trans hwk5⟩
end Go.Proofs.YtnmaknnnmjfhkafGreat

namespace Go.Proofs.YtnmaknnnmjfhkafGreat
open Go.RowKit
set_option linter.unusedVariables false
set_option linter.unusedSimpArgs false
set_option maxRecDepth 8000

theorem owns_span {w w' : World} {base : Nat} {e : TypeId} {s : Nat} {v : Value} {n : Nat} {xs : List Value} (h : w.ownsRow base e s v n xs) (hk : ∀ b, base ≤ b → b < w.heap.size → w'.heap[b]? = w.heap[b]?) : w'.ownsRow base e s v n xs := by
  refine ⟨h.1, ?_⟩
  rcases h.2 with hn | ⟨g, cap, cur, rfl, hb, hgg, rest⟩
  · exact .inl hn
  · exact .inr ⟨g, cap, cur, rfl, hb, (hk g hb (Array.getElem?_eq_some_iff.1 hgg).1).trans hgg, rest⟩
theorem Bat.span {w w' : World} {base : Nat} {v : Value} {bss : List (List Ch)} (h : Bat w base v bss) (hk : ∀ b, base ≤ b → b < w.heap.size → w'.heap[b]? = w.heap[b]?) : Bat w' base v bss := by
  obtain ⟨vs, h1, h2, h3⟩ := h
  exact ⟨vs, owns_span h1 hk, fun i hi => owns_span (h2 i hi) hk, h3⟩
theorem putOps_append (q : Int) (l r : List ByteArray) : putOps q (l ++ r) = putOps q l ++ putOps (q + (l.length : Int)) r := by
  unfold putOps
  rw [List.mapIdx_append]
  congr 1
  apply List.ext_getElem
  · simp
  · intro i h1 h2
    simp
    omega
theorem Row.below2 {w w' : World} {N g : Nat} {cs : List Value} (h : Row w g cs) (hg : g < N) (hb : Below N w w') : Row w' g cs :=
  ⟨Nat.lt_of_lt_of_le h.lt hb.size, fun i v hv => (hb.cell (p := ⟨g, i, none⟩) hg).trans (h.cell i v hv), fun i hi => (hb.frozen (p := ⟨g, i, none⟩) hg).trans (h.froz i hi)⟩
/-- What the program's move gives: the state's pairs are those that came in. -/
def MvPost (w w' : World) (x : Ending) (d : Dd) (a : Option Addr) (c : Nat) : Prop := ∃ b e, x = .returned (dnV d a c b e) ∧ OwnS w' b (opcells d.ops) ∧ (∀ g, blk b d.ops.length = some g → w.heap.size ≤ g) ∧ Below w.heap.size w w'

set_option maxHeartbeats 16000000 in
theorem move_i_ok (S L T H F R U O : Int) (n m : Nat) (a : Option Addr) (rs : List Pr) (c : Nat) (w : World) (h : Prs w a rs) (hc : rs.length ≤ c) (hl : rs.length ≤ 1048576) (hs : ∀ x ∈ rs, x.1.size ≤ 1048576 ∧ x.2.size ≤ 1048576) (hm : n + m = 56) (hn1 : 1 ≤ n) (hn8 : n ≤ 8) (hok : mvOk (n : Int) S L T H F rs) (hfit : T + 1 ≤ 1000000000 ∧ F + hv S ≤ 999999000) :
    Calls Tryz.prog 27 #[storeV (n : Int) S L T H F R U O a rs.length c] w fun x w' => MvPost w w' x (mvD (n : Int) S L T H F rs) a c := by
  obtain ⟨hW, hS, hL, hT, hH, hF, hroom⟩ := hok
  have hQ := hv_yes hS
  have HTU := hid (fun w' => turned_i T H F R S L w' (by omega) (by omega) (by omega) (by omega) (by omega) (by omega))
  have hro : rootOk (T + 1) (1 - H) (F + hv S) L = true := by unfold rootOk; simp; omega
  have HSR := hid (fun w' => root_i (T + 1) (1 - H) (F + hv S) L w')
  rw [hro] at HSR
  have HWO := hid (fun w' => writer_of (n : Int) S L (T + 1) (1 - H) (F + hv S) L 0 0 a rs.length c w' (by omega) (by omega) (by omega) (by omega) (by omega) (by omega))
  unfold mvD
  unfold storeV at HWO ⊢
  have e1 : (n : Int).toNat = n := by omega
  have e2 : 56 - n = m := by omega
  rw [e1, e2]
  obtain ⟨Q, HQ⟩ : ∃ Q, Hid (Q = hv S) := ⟨_, hid rfl⟩
  rw [← HQ.out] at hQ HTU HSR HWO hroom hfit ⊢
  obtain ⟨q, hq⟩ : ∃ q, q = 2 + (1 - H) * Q := ⟨_, rfl⟩
  have hqb : 2 ≤ q ∧ q ≤ 101 := by
    rcases (show H = 0 ∨ H = 1 by omega) with e | e
    · subst e; omega
    · subst e; omega
  rw [← hq] at HWO ⊢
  simp only [Int.add_zero] at HWO
  clear hq e1 e2 hro
  obtain ⟨hf1, hf2⟩ := hfit
  obtain ⟨bss, hbss⟩ : ∃ bss, bss = snapOf rs := ⟨_, rfl⟩
  have hbl := snapOf_len rs
  have HMB : Hid (∀ b ∈ bss, b.length ≤ 1048576 ∧ ∀ x ∈ b, x.1.size ≤ 1048576 ∧ x.2.1.size ≤ 1048576) := by
    intro b hb
    rw [hbss] at hb
    obtain ⟨h1, h2⟩ := snapOf_mem hb
    exact ⟨by omega, fun x hx => hs _ (h2 x hx)⟩
  have HSN := hid (fun w' h' => snap_i a rs c w' h' hc hl hs)
  have HLEN := hid (fun k => mvPages_len L (F + Q) n m hm hn1 hn8 (bss.take k))
  have HROOM : Hid (∀ k, roomOf (bss.take k) (n : Int) ≤ Q - 1) := fun k => by
    have := room_take bss k (n : Int)
    rw [← hbss] at hroom
    omega
  rw [← hbss] at hbl HSN ⊢
  clear hbss hroom
  have HBB : Hid (Below w.heap.size w ((w.alloc (.cells #[.int .i64 (n : Int), .int .i64 S, .int .i64 L, .int .i64 T, .int .i64 H, .int .i64 F, .int .i64 R, .int .i64 U, .int .i64 O, .slice a rs.length c] 35)).alloc (.cells #[.int .i64 0, .int .i64 0, .int .i64 0, .int .i64 0, .int .i64 0, .int .i64 0, .int .i64 0, .int .i64 0, .int .i64 0, .int .i64 0, .slice none 0 0, .slice none 0 0] 38))) := ((Below.refl _ _).alloc (Nat.le_refl _) _).alloc (by simp) _
  go_enter Tryz.func27, Tryz.ntmps27
  go_wp2_with fail
  refine (HTU.out _).mono ?_
  rintro e w1 ⟨rfl, hb1⟩
  have r0 := ((row_new w #[.int .i64 (n : Int), .int .i64 S, .int .i64 L, .int .i64 T, .int .i64 H, .int .i64 F, .int .i64 R, .int .i64 U, .int .i64 O, .slice a rs.length c] 35).alloc (.cells #[.int .i64 0, .int .i64 0, .int .i64 0, .int .i64 0, .int .i64 0, .int .i64 0, .int .i64 0, .int .i64 0, .int .i64 0, .int .i64 0, .slice none 0 0, .slice none 0 0] 38)).below hb1
  have r1 := (row_at (w := w.alloc (.cells #[.int .i64 (n : Int), .int .i64 S, .int .i64 L, .int .i64 T, .int .i64 H, .int .i64 F, .int .i64 R, .int .i64 U, .int .i64 O, .slice a rs.length c] 35)) (A := #[.int .i64 0, .int .i64 0, .int .i64 0, .int .i64 0, .int .i64 0, .int .i64 0, .int .i64 0, .int .i64 0, .int .i64 0, .int .i64 0, .slice none 0 0, .slice none 0 0]) (t := 38) (g := w.heap.size + 1) (by simp)).below hb1
  have HBE := hid (HBB.out.trans (hb1.mono (by simp; omega)))
  have xc0 := r0.cell 0 _ rfl
  have xf0 := r0.froz 0 (by simp)
  have xc1 := r0.cell 1 _ rfl
  have xf1 := r0.froz 1 (by simp)
  have xc2 := r0.cell 2 _ rfl
  have xf2 := r0.froz 2 (by simp)
  have xc3 := r0.cell 3 _ rfl
  have xf3 := r0.froz 3 (by simp)
  have xc4 := r0.cell 4 _ rfl
  have xf4 := r0.froz 4 (by simp)
  have xc5 := r0.cell 5 _ rfl
  have xf5 := r0.froz 5 (by simp)
  have xc6 := r0.cell 6 _ rfl
  have xf6 := r0.froz 6 (by simp)
  have xc7 := r0.cell 7 _ rfl
  have xf7 := r0.froz 7 (by simp)
  have xc8 := r0.cell 8 _ rfl
  have xf8 := r0.froz 8 (by simp)
  have xc9 := r0.cell 9 _ rfl
  have xf9 := r0.froz 9 (by simp)
  have HR0 := hid r0
  have HR1 := hid r1
  clear r0 r1 hb1
  go_wp2_with fail
  refine (HSR.out _).mono ?_
  rintro e w2 ⟨rfl, hb2⟩
  clear xc0 xf0 xc1 xf1 xc2 xf2 xc3 xf3 xc4 xf4 xc5 xf5 xc6 xf6 xc7 xf7 xc8 xf8 xc9 xf9
  have r0 := ((((HR0.out.set 3 (by simp) _).set 4 (by simp) _).set 5 (by simp) _).set 6 (by simp) _).below hb2
  have r1 := ((((HR1.out.other ⟨w.heap.size, 3, none⟩ (by show w.heap.size ≠ _; omega) _).other ⟨w.heap.size, 4, none⟩ (by show w.heap.size ≠ _; omega) _).other ⟨w.heap.size, 5, none⟩ (by show w.heap.size ≠ _; omega) _).other ⟨w.heap.size, 6, none⟩ (by show w.heap.size ≠ _; omega) _).below hb2
  have hbe := ((((HBE.out.setCell (p := ⟨w.heap.size, 3, none⟩) (Nat.le_refl _) (.int .i64 (T + 1))).setCell (p := ⟨w.heap.size, 4, none⟩) (Nat.le_refl _) (.int .i64 (1 - H))).setCell (p := ⟨w.heap.size, 5, none⟩) (Nat.le_refl _) (.int .i64 (F + Q))).setCell (p := ⟨w.heap.size, 6, none⟩) (Nat.le_refl _) (.int .i64 L))
  have HBF := hid (hbe.trans (hb2.mono hbe.size))
  simp only [List.set_cons_zero, List.set_cons_succ] at r0
  clear hb2 hbe HBE HR0 HR1
  have xc0 := r0.cell 0 _ rfl
  have xf0 := r0.froz 0 (by simp)
  have xc1 := r0.cell 1 _ rfl
  have xf1 := r0.froz 1 (by simp)
  have xc2 := r0.cell 2 _ rfl
  have xf2 := r0.froz 2 (by simp)
  have xc3 := r0.cell 3 _ rfl
  have xf3 := r0.froz 3 (by simp)
  have xc4 := r0.cell 4 _ rfl
  have xf4 := r0.froz 4 (by simp)
  have xc5 := r0.cell 5 _ rfl
  have xf5 := r0.froz 5 (by simp)
  have xc6 := r0.cell 6 _ rfl
  have xf6 := r0.froz 6 (by simp)
  have xc7 := r0.cell 7 _ rfl
  have xf7 := r0.froz 7 (by simp)
  have xc8 := r0.cell 8 _ rfl
  have xf8 := r0.froz 8 (by simp)
  have xc9 := r0.cell 9 _ rfl
  have xf9 := r0.froz 9 (by simp)
  have HR0 := hid r0
  have HR1 := hid r1
  clear r0 r1
  go_wp2_with fail
  clear xc0 xf0 xc1 xf1 xc2 xf2 xc3 xf3 xc4 xf4 xc5 xf5 xc6 xf6 xc7 xf7 xc8 xf8 xc9 xf9
  obtain ⟨w3, hw3⟩ : ∃ w3, w3 = (w2.setCell ⟨w.heap.size, 7, none⟩ (.int .i64 0)).setCell ⟨w.heap.size, 8, none⟩ (.int .i64 0) := ⟨_, rfl⟩
  have r0 : Row w3 (w.heap.size) [.int .i64 (n : Int), .int .i64 S, .int .i64 L, .int .i64 (T + 1), .int .i64 (1 - H), .int .i64 (F + Q), .int .i64 L, .int .i64 0, .int .i64 0, .slice a rs.length c] := by rw [hw3]; exact (HR0.out.set 7 (by simp) _).set 8 (by simp) _
  have r1 : Row w3 (w.heap.size + 1) [.int .i64 0, .int .i64 0, .int .i64 0, .int .i64 0, .int .i64 0, .int .i64 0, .int .i64 0, .int .i64 0, .int .i64 0, .int .i64 0, .slice none 0 0, .slice none 0 0] := by rw [hw3]; exact (HR1.out.other ⟨w.heap.size, 7, none⟩ (by show w.heap.size ≠ _; omega) _).other ⟨w.heap.size, 8, none⟩ (by show w.heap.size ≠ _; omega) _
  have hb3 : Below w.heap.size w w3 := by rw [hw3]; exact (HBF.out.setCell (p := ⟨w.heap.size, 7, none⟩) (Nat.le_refl _) _).setCell (p := ⟨w.heap.size, 8, none⟩) (Nat.le_refl _) _
  rw [← hw3]
  clear hw3 HR0 HR1 HBF
  refine (HWO.out _).mono ?_
  rintro e w4 ⟨g, rfl, hW, hb4⟩
  have hgg := hW.ge
  have hgl := hW.row.lt
  have hs4 := hb4.size
  have HW := hid hW
  have HB4 := hid hb4
  have HR0 := hid r0
  have HR1 := hid r1
  have HB3 := hid hb3
  have hlA := r0.lt
  have hlB := r1.lt
  clear hW hb4 r0 r1 hb3 HWO HTU HSR HBB
  go_wp2_with fail
  refine (mover_i w3.heap.size g _ _ q (F + Q) L (n : Int) _ HW.out hs4 (by simp) (by omega) (by omega) (by omega) (by omega)).mono ?_
  rintro e w5 ⟨rfl, hBm, ⟨v5, hW5, hv5⟩, hb5⟩
  have hb35 : Below w3.heap.size w3 w5 := HB4.out.trans hb5
  have r0 := HR0.out.below hb35
  have x9 := r0.cell 9 _ rfl
  have hs5 := hb5.size
  have hBl := hBm.lt
  clear r0
  go_wp2_with fail
  clear x9
  refine (HSN.out _ (h.below (HB3.out.trans (hb35.mono HB3.out.size)))).mono ?_
  rintro e w6 ⟨v6, rfl, hbat, hb6⟩
  obtain ⟨va, vc, rfl, _⟩ := hbat.bts
  have hs6 := hb6.size
  have HBA := hid hbat
  have HBM := hid (hBm.below hb6)
  have HV5 := hid hv5
  have hov : ∀ k, v5.ownBlock = some k → k < w5.heap.size := fun k hk => (hW5.own.lt k hk).2
  have HOV := hid hov
  have HW6 := hid (hW5.below hb6)
  have HB6 := hid (hb35.trans (hb6.mono hb35.size))
  clear hbat hBm hv5 hov hW5 hb6 hb5 hb35 HSN HW HB4
  go_wp2_with fail
  go_loopw [30] (fun i wr => ∃ k : Nat, k ≤ bss.length ∧ i = .int .i64 (k : Int) ∧ ∃ v', Wrt wr w3.heap.size g v' (putOps q (mvPages L (F + Q) n m (bss.take k))) (q + ((mvPages L (F + Q) n m (bss.take k)).length : Int)) (F + Q + ((mvPages L (F + Q) n m (bss.take k)).length : Int)) L (n : Int) ∧ Below w3.heap.size w3 wr ∧ WK g w6 v5 wr v') (fun i _ => bss.length - (intOf i).toNat)
  case atStart =>
    refine ⟨0, Nat.zero_le _, rfl, v5, ?_, HB6.out, WK.start _ _ _⟩
    rw [List.take_zero, mvPages_nil]
    have e0 : putOps q [formOf 3 L (F + Q) ByteArray.empty (n : Int)] = [] ++ [(false, q, formOf 3 L (F + Q) ByteArray.empty (n : Int))] := by simp [putOps]
    rw [e0]
    exact HW6.out
  case round =>
    obtain ⟨k, hk, rfl, v', hW, hbw, hwk⟩ := hrel
    have hN : ((mvPages L (F + Q) n m (bss.take k)).length : Int) ≤ 99 := by have h1 := HLEN.out k; have h2 := HROOM.out k; omega
    obtain ⟨acc, hacc⟩ : ∃ acc, acc = mvPages L (F + Q) n m (bss.take k) := ⟨_, rfl⟩
    rw [← hacc] at hW hN
    have hsr : w3.heap.size ≤ wr.heap.size := hbw.size
    by_cases hlt : k < bss.length
    · have hba := HBA.out.span (w' := wr) (fun b h1 h2 => hwk.blk b h2 (by omega) (fun e => by have := HOV.out b e.symm; omega))
      obtain ⟨va', vc', ev, hbt⟩ := hba.bts
      cases ev
      obtain ⟨gl, p, cc, rfl, hgl2, hcl, hch⟩ := hbt.at hlt
      have hlt' : (k : Int) < (bss.length : Int) := by omega
      have hk0 : (0 : Int) ≤ (k : Int) := by omega
      have hmem := HMB.out (bss.getD k []) (by simp [List.getD, hlt])
      have hN1 : ((mvPages L (F + Q) n m (bss.take (k + 1))).length : Int) ≤ 99 := by have h1 := HLEN.out (k + 1); have h2 := HROOM.out (k + 1); omega
      have hst : mvPages L (F + Q) n m (bss.take (k + 1)) = acc ++ cutAll (bOut (bss.getD k [])) L (F + Q + (acc.length : Int)) n m := by rw [takeR_snoc bss k [] hlt, mvPages_snoc, ← hacc]
      obtain ⟨b, hb⟩ : ∃ b, b = bss.getD k [] := ⟨_, rfl⟩
      rw [← hb] at hcl hch hmem hst
      rw [hst, List.length_append] at hN1
      have HTK := hid (take_i w3.heap.size g w4.heap.size v' (putOps q acc) (q + (acc.length : Int)) (F + Q + (acc.length : Int)) L n m p b cc wr hW (HBM.out.wk hwk (by omega) (fun e => HV5.out _ e.symm rfl)) (by omega) (fun e => by rcases hwk.own _ e.symm with h1 | h1; exact HV5.out _ h1 rfl; omega) hch hmem.1 hmem.2 hsr (by rw [putOps_length]; omega) hm hn1 hn8 (by omega) (by omega) (by omega) (by omega))
      have HST := hid hst
      have HBW := hid hbw
      have HWK := hid hwk
      clear hb hst hacc hmem hch hbw hba hbt hwk hW
      go_wp2_with (go_at_call 101; refine HTK.out.mono ?_; rintro e w7 ⟨⟨x, rfl⟩, v7, hW7, hb7, hwk7⟩)
      refine ⟨⟨k + 1, by omega, by go_num, v7, ?_, HBW.out.trans hb7, HWK.out.trans hwk7⟩, by simp [intOf]; omega⟩
      rw [HST.out, putOps_append, List.length_append]
      have e1 : q + ((acc.length + (cutAll (bOut b) L (F + Q + (acc.length : Int)) n m).length : Nat) : Int) = q + (acc.length : Int) + ((cutAll (bOut b) L (F + Q + (acc.length : Int)) n m).length : Int) := by omega
      have e2 : F + Q + ((acc.length + (cutAll (bOut b) L (F + Q + (acc.length : Int)) n m).length : Nat) : Int) = F + Q + (acc.length : Int) + ((cutAll (bOut b) L (F + Q + (acc.length : Int)) n m).length : Int) := by omega
      rw [e1, e2]
      exact hW7
    · have hkl : k = bss.length := by omega
      subst hkl
      have he : acc = mvPages L (F + Q) n m bss := by rw [hacc, List.take_length]
      clear hacc
      have HAE := hid he
      obtain ⟨ya, yc, rfl⟩ := hW.sl
      rw [putOps_length] at hW
      have y0 := hW.row.cell 0 _ rfl
      have r0 := HR0.out.below hbw
      have r1 := HR1.out.below hbw
      have hgr := hW.row.lt
      have xc0 := r0.cell 0 _ rfl
      have xf0 := r0.froz 0 (by simp)
      have xc1 := r0.cell 1 _ rfl
      have xf1 := r0.froz 1 (by simp)
      have xc2 := r0.cell 2 _ rfl
      have xf2 := r0.froz 2 (by simp)
      have xc3 := r0.cell 3 _ rfl
      have xf3 := r0.froz 3 (by simp)
      have xc4 := r0.cell 4 _ rfl
      have xf4 := r0.froz 4 (by simp)
      have xc5 := r0.cell 5 _ rfl
      have xf5 := r0.froz 5 (by simp)
      have xc6 := r0.cell 6 _ rfl
      have xf6 := r0.froz 6 (by simp)
      have xc7 := r0.cell 7 _ rfl
      have xf7 := r0.froz 7 (by simp)
      have xc8 := r0.cell 8 _ rfl
      have xf8 := r0.froz 8 (by simp)
      have xc9 := r0.cell 9 _ rfl
      have xf9 := r0.froz 9 (by simp)
      have HW9 := hid hW
      have HBW := hid hbw
      have HX0 := hid r0
      have HX1 := hid r1
      clear hW hbw r0 r1 hwk he
      go_wp2_with fail
      clear xc0 xf0 xc1 xf1 xc2 xf2 xc3 xf3 xc4 xf4 xc5 xf5 xc6 xf6 xc7 xf7 xc8 xf8 xc9 xf9
      clear y0
      obtain ⟨w7, hw7⟩ : ∃ w7, w7 = wr.setCell ⟨w.heap.size, 7, none⟩ (.int .i64 (acc.length : Int)) := ⟨_, rfl⟩
      rw [← hw7]
      have hW7 := HW9.out.set w.heap.size 7 hlA (.int .i64 (acc.length : Int))
      have r0 := HX0.out.set 7 (by simp) (.int .i64 (acc.length : Int))
      have r1 := HX1.out.other ⟨w.heap.size, 7, none⟩ (by show w.heap.size ≠ _; omega) (.int .i64 (acc.length : Int))
      have hbx : Below w.heap.size w w7 := by rw [hw7]; exact (HB3.out.trans (HBW.out.mono HB3.out.size)).setCell (p := ⟨w.heap.size, 7, none⟩) (Nat.le_refl _) _
      have hs7 : w3.heap.size ≤ w7.heap.size := by rw [hw7]; simpa [World.setCell] using hsr
      simp only [List.set_cons_zero, List.set_cons_succ] at r0
      rw [← hw7] at hW7 r0 r1
      clear hw7 HX0 HX1 HW9
      refine (sync_i w3.heap.size g _ _ _ _ _ _ _ hW7 hs7 (by rw [putOps_length]; omega)).mono ?_
      rintro e w8 ⟨⟨x8, rfl⟩, ⟨v8, hW8⟩, hb8⟩
      have r08 := r0.below2 hlA hb8
      have r18 := r1.below2 hlB hb8
      have hs8 : w3.heap.size ≤ w8.heap.size := Nat.le_trans hs7 hb8.size
      have x0 := r08.cell 0 _ rfl
      have x1 := r08.cell 1 _ rfl
      have x2 := r08.cell 2 _ rfl
      have x3 := r08.cell 3 _ rfl
      have x4 := r08.cell 4 _ rfl
      have x5 := r08.cell 5 _ rfl
      have x6 := r08.cell 6 _ rfl
      have x7 := r08.cell 7 _ rfl
      have x8 := r08.cell 8 _ rfl
      have x9 := r08.cell 9 _ rfl
      have HW8 := hid hW8
      clear hW8
      go_wp2_with fail
      refine (wroot_i w3.heap.size g _ _ _ _ _ _ _ _ _ _ _ HW8.out hs8 (by simp [putOps_length]; omega) (by omega)).mono ?_
      rintro e w9 ⟨⟨x9', rfl⟩, ⟨v9, hW9⟩, hb9⟩
      clear x0 x1 x2 x3 x4 x5 x6 x7 x8 x9
      have r09 := r08.below2 hlA hb9
      have r19 := r18.below2 hlB hb9
      have hs9 : w3.heap.size ≤ w9.heap.size := Nat.le_trans hs8 hb9.size
      go_wp2_with fail
      refine (sync_i w3.heap.size g _ _ _ _ _ _ _ hW9 hs9 (by simp [putOps_length]; omega)).mono ?_
      rintro e w10 ⟨⟨x10', rfl⟩, ⟨v10, hW10⟩, hb10⟩
      have r010 := r09.below2 hlA hb10
      have r110 := r19.below2 hlB hb10
      have hs10 : w3.heap.size ≤ w10.heap.size := Nat.le_trans hs9 hb10.size
      have hbz : Below w.heap.size w w10 := ((hbx.trans (hb8.mono (by omega))).trans (hb9.mono (by omega))).trans (hb10.mono (by omega))
      have HBZ := hid hbz
      obtain ⟨za, zc, rfl⟩ := hW10.sl
      have hlen : (putOps q acc ++ [(true, 0, ByteArray.empty)] ++ [(false, (T + 1) % 2, rtForm (T + 1) (1 - H) (F + Q) L (n : Int))] ++ [(true, 0, ByteArray.empty)]).length = acc.length + 3 := by simp [putOps_length]
      obtain ⟨go, cap, ez, hgo1, hgo2, hrow⟩ : ∃ go cap, Value.slice za (putOps q acc ++ [(true, 0, ByteArray.empty)] ++ [(false, (T + 1) % 2, rtForm (T + 1) (1 - H) (F + Q) L (n : Int))] ++ [(true, 0, ByteArray.empty)]).length zc = Value.slice (some ⟨go, 0, none⟩) (acc.length + 3) cap ∧ w3.heap.size ≤ go ∧ go < w10.heap.size ∧ Row w10 go (opcells (putOps q acc ++ [(true, 0, ByteArray.empty)] ++ [(false, (T + 1) % 2, rtForm (T + 1) (1 - H) (F + Q) L (n : Int))] ++ [(true, 0, ByteArray.empty)])) := by
        rcases owns_forms hW10.own with ⟨e1, e2⟩ | ⟨g, cap, e1, e2, e3, e4⟩
        · simp at e2
        · exact ⟨g, cap, by rw [e1, hlen], e2, e3, e4⟩
      have y0 := hW10.row.cell 0 _ rfl
      rw [ez] at y0
      have hg10 := hW10.row.lt
      have hgn : w.heap.size ≠ g := by omega
      have hgn1 : w.heap.size + 1 ≠ g := by omega
      have hgn2 : ¬ g = w.heap.size + 1 := by omega
      have x0 := r010.cell 0 _ rfl
      have x1 := r010.cell 1 _ rfl
      have x2 := r010.cell 2 _ rfl
      have x3 := r010.cell 3 _ rfl
      have x4 := r010.cell 4 _ rfl
      have x5 := r010.cell 5 _ rfl
      have x6 := r010.cell 6 _ rfl
      have x7 := r010.cell 7 _ rfl
      have x8 := r010.cell 8 _ rfl
      have x9 := r010.cell 9 _ rfl
      have d0 := r110.cell 0 _ rfl
      have df0 := r110.froz 0 (by simp)
      have d1 := r110.cell 1 _ rfl
      have df1 := r110.froz 1 (by simp)
      have d2 := r110.cell 2 _ rfl
      have df2 := r110.froz 2 (by simp)
      have d3 := r110.cell 3 _ rfl
      have df3 := r110.froz 3 (by simp)
      have d4 := r110.cell 4 _ rfl
      have df4 := r110.froz 4 (by simp)
      have d5 := r110.cell 5 _ rfl
      have df5 := r110.froz 5 (by simp)
      have d6 := r110.cell 6 _ rfl
      have df6 := r110.froz 6 (by simp)
      have d7 := r110.cell 7 _ rfl
      have df7 := r110.froz 7 (by simp)
      have d8 := r110.cell 8 _ rfl
      have df8 := r110.froz 8 (by simp)
      have d9 := r110.cell 9 _ rfl
      have df9 := r110.froz 9 (by simp)
      have d10 := r110.cell 10 _ rfl
      have df10 := r110.froz 10 (by simp)
      have d11 := r110.cell 11 _ rfl
      have df11 := r110.froz 11 (by simp)
      have hlx : w.heap.size < w10.heap.size := by omega
      have hly : w.heap.size + 1 < w10.heap.size := by omega
      have HROW := hid hrow
      clear hW10 hb10 hb9 hb8 hbx hbz hW9 hW7 r0 r1 r08 r18 r09 r19 r010 r110 HW8 hrow ez
      go_wp2_with fail
      refine wp_region_held_drew (S := fun w' => w'.cell? ⟨w.heap.size, 0, none⟩ = some (.int .i64 (n : Int)) ∧ w'.cell? ⟨w.heap.size, 1, none⟩ = some (.int .i64 S) ∧ w'.cell? ⟨w.heap.size, 2, none⟩ = some (.int .i64 L) ∧ w'.cell? ⟨w.heap.size, 3, none⟩ = some (.int .i64 (T + 1)) ∧ w'.cell? ⟨w.heap.size, 4, none⟩ = some (.int .i64 (1 - H)) ∧ w'.cell? ⟨w.heap.size, 5, none⟩ = some (.int .i64 (F + Q)) ∧ w'.cell? ⟨w.heap.size, 6, none⟩ = some (.int .i64 L) ∧ w'.cell? ⟨w.heap.size, 7, none⟩ = some (.int .i64 (acc.length : Int)) ∧ w'.cell? ⟨w.heap.size, 8, none⟩ = some (.int .i64 0) ∧ w'.cell? ⟨w.heap.size, 9, none⟩ = some (.slice a rs.length c) ∧ w'.cell? ⟨g, 0, none⟩ = some (.slice (some ⟨go, 0, none⟩) (acc.length + 3) cap)) (by kernel_rfl) (⟨by go_simp, by go_simp, by go_simp, by go_simp, by go_simp, by go_simp, by go_simp, by go_simp, by go_simp, by go_simp, by go_simp⟩) (fun hHeld => ?_)
      refine wpAnyH_take (i := 0) (v := .agg #[.int .i64 (n : Int), .int .i64 S, .int .i64 L, .int .i64 (T + 1), .int .i64 (1 - H), .int .i64 (F + Q), .int .i64 L, .int .i64 (acc.length : Int), .int .i64 0, .slice a rs.length c]) rfl (by kernel_rfl) (by kernel_rfl) (by kernel_rfl) (fun _ _ _ h => h) (Or.inl ⟨by rfl, fun w hw => by obtain ⟨z0, z1, z2, z3, z4, z5, z6, z7, z8, z9, z10⟩ := hw; go_simp⟩) hHeld ?_
      simp only [Act.put, List.getElem_toArray, List.getElem_cons_zero, List.getElem_cons_succ, List.setIfInBounds_toArray, List.set_cons_zero, List.set_cons_succ]
      refine wpAnyH_take (i := 1) (v := .pointer (some ⟨g, 0, none⟩)) rfl (by kernel_rfl) (by kernel_rfl) (by kernel_rfl) (fun _ _ _ h => h) (Or.inl ⟨by rfl, fun w hw => by obtain ⟨z0, z1, z2, z3, z4, z5, z6, z7, z8, z9, z10⟩ := hw; go_simp⟩) hHeld ?_
      simp only [Act.put, List.getElem_toArray, List.getElem_cons_zero, List.getElem_cons_succ, List.setIfInBounds_toArray, List.set_cons_zero, List.set_cons_succ]
      refine wpAnyH_take (i := 2) (v := .pointer (some ⟨g, 0, none⟩)) rfl (by kernel_rfl) (by kernel_rfl) (by kernel_rfl) (fun _ _ _ h => h) (Or.inl ⟨by rfl, fun w hw => by obtain ⟨z0, z1, z2, z3, z4, z5, z6, z7, z8, z9, z10⟩ := hw; go_simp⟩) hHeld ?_
      simp only [Act.put, List.getElem_toArray, List.getElem_cons_zero, List.getElem_cons_succ, List.setIfInBounds_toArray, List.set_cons_zero, List.set_cons_succ]
      refine wpAnyH_take (i := 3) (v := .pointer (some ⟨g, 0, none⟩)) rfl (by kernel_rfl) (by kernel_rfl) (by kernel_rfl) (fun _ _ _ h => h) (Or.inl ⟨by rfl, fun w hw => by obtain ⟨z0, z1, z2, z3, z4, z5, z6, z7, z8, z9, z10⟩ := hw; go_simp⟩) hHeld ?_
      simp only [Act.put, List.getElem_toArray, List.getElem_cons_zero, List.getElem_cons_succ, List.setIfInBounds_toArray, List.set_cons_zero, List.set_cons_succ]
      refine wpAnyH_take (i := 4) (v := .slice (some ⟨go, 0, none⟩) (acc.length + 3) cap) rfl (by kernel_rfl) (by kernel_rfl) (by kernel_rfl) (fun _ _ _ h => h) (Or.inl ⟨by rfl, fun w hw => by obtain ⟨z0, z1, z2, z3, z4, z5, z6, z7, z8, z9, z10⟩ := hw; go_simp⟩) hHeld ?_
      simp only [Act.put, List.getElem_toArray, List.getElem_cons_zero, List.getElem_cons_succ, List.setIfInBounds_toArray, List.set_cons_zero, List.set_cons_succ]
      refine wpAnyH_take (i := 5) (v := .agg #[.int .i64 0, .int .i64 (n : Int), .int .i64 S, .int .i64 L, .int .i64 (T + 1), .int .i64 (1 - H), .int .i64 (F + Q), .int .i64 L, .int .i64 (acc.length : Int), .int .i64 0, .slice a rs.length c, .slice (some ⟨go, 0, none⟩) (acc.length + 3) cap]) rfl (by kernel_rfl) (by kernel_rfl) (by kernel_rfl) (fun _ _ _ h => h) (Or.inl ⟨by rfl, fun w hw => by obtain ⟨z0, z1, z2, z3, z4, z5, z6, z7, z8, z9, z10⟩ := hw; go_simp⟩) hHeld ?_
      simp only [Act.put, List.getElem_toArray, List.getElem_cons_zero, List.getElem_cons_succ, List.setIfInBounds_toArray, List.set_cons_zero, List.set_cons_succ]
      refine wpAnyH_ready (rs := [6]) (by kernel_rfl) (by simp) ?_
      refine AllReadyH.cons rfl (fun K hK => ?_) AllReadyH.nil
      go_simp
      refine hK.out _ _ (⟨by go_simp, by go_simp, by go_simp, by go_simp, by go_simp, by go_simp, by go_simp, by go_simp, by go_simp, by go_simp, by go_simp⟩) (fun hHd1 => ?_)
      clear hK K
      try simp only [Act.put, List.getElem_toArray, List.getElem_cons_zero, List.getElem_cons_succ, List.setIfInBounds_toArray, List.set_cons_zero, List.set_cons_succ]
      refine wpAnyH_done (by kernel_rfl) ?_ _
      go_wp2
      rw [← HAE.out]
      have hops : putOps q acc ++ [(true, 0, ByteArray.empty), (false, (T + 1) % 2, rtForm (T + 1) (1 - H) (F + Q) L (n : Int)), (true, 0, ByteArray.empty)] = (putOps q acc ++ [(true, 0, ByteArray.empty)] ++ [(false, (T + 1) % 2, rtForm (T + 1) (1 - H) (F + Q) L (n : Int))] ++ [(true, 0, ByteArray.empty)]) := by simp
      rw [hops]
      refine bodyPost_ret (v := dnV ⟨0, (n : Int), S, L, T + 1, 1 - H, F + Q, L, (acc.length : Int), 0, rs, (putOps q acc ++ [(true, 0, ByteArray.empty)] ++ [(false, (T + 1) % 2, rtForm (T + 1) (1 - H) (F + Q) L (n : Int))] ++ [(true, 0, ByteArray.empty)])⟩ a c (some ⟨go, 0, none⟩) cap) (by simp [results, Tryz.results27, go_sem, dnV, putOps_length, d0, d1, d2, d3, d4, d5, d6, d7, d8, d9, d10, d11]) rfl ⟨_, cap, rfl, ?_, ?_, ?_⟩
      · refine .inr ⟨go, rfl, ?_⟩
        refine Row.drew ?_
        iterate 12 (refine Row.other ?_ _ (by show w.heap.size + 1 ≠ go; omega) _)
        exact HROW.out
      · exact fun g hg => by change blk _ (putOps q acc ++ [(true, 0, ByteArray.empty)] ++ [(false, (T + 1) % 2, rtForm (T + 1) (1 - H) (F + Q) L (n : Int))] ++ [(true, 0, ByteArray.empty)]).length = _ at hg; rw [hlen, blk_pos _ _ _ (by omega)] at hg; cases hg; omega
      · refine Below.drew ?_
        iterate 12 (refine Below.setCell ?_ (by show w.heap.size ≤ w.heap.size + 1; omega) _)
        exact HBZ.out
set_option maxHeartbeats 8000000 in
theorem move_i_no (W S L T H F R U O : Int) (a : Option Addr) (rs : List Pr) (c : Nat) (w : World) (hok : mvOk W S L T H F rs) (hfit : ¬ (T + 1 ≤ 1000000000 ∧ F + hv S ≤ 999999000)) :
    Calls Tryz.prog 27 #[storeV W S L T H F R U O a rs.length c] w fun x w' => x = .returned (dnV (noD 4) none 0 none 0) ∧ Below w.heap.size w w' := by
  obtain ⟨hW, hS, hL, hT, hH, hF, hroom⟩ := hok
  have hQ := hv_yes hS
  have HTU := hid (fun w' => turned_i T H F R S L w' (by omega) (by omega) (by omega) (by omega) (by omega) (by omega))
  have hro : rootOk (T + 1) (1 - H) (F + hv S) L = false := by
    refine root_no _ _ _ _ ?_
    by_cases h1 : T + 1 ≤ 1000000000
    · exact .inr (.inr (.inr (by omega)))
    · exact .inl (by omega)
  have HSR := hid (fun w' => root_i (T + 1) (1 - H) (F + hv S) L w')
  rw [hro] at HSR
  unfold storeV
  obtain ⟨Q, HQ⟩ : ∃ Q, Hid (Q = hv S) := ⟨_, hid rfl⟩
  rw [← HQ.out] at hQ HTU HSR hfit
  clear hro hfit
  have HBB : Hid (Below w.heap.size w ((w.alloc (.cells #[.int .i64 W, .int .i64 S, .int .i64 L, .int .i64 T, .int .i64 H, .int .i64 F, .int .i64 R, .int .i64 U, .int .i64 O, .slice a rs.length c] 35)).alloc (.cells #[.int .i64 0, .int .i64 0, .int .i64 0, .int .i64 0, .int .i64 0, .int .i64 0, .int .i64 0, .int .i64 0, .int .i64 0, .int .i64 0, .slice none 0 0, .slice none 0 0] 38))) := ((Below.refl _ _).alloc (Nat.le_refl _) _).alloc (by simp) _
  go_enter Tryz.func27, Tryz.ntmps27
  go_wp2_with fail
  refine (HTU.out _).mono ?_
  rintro e w1 ⟨rfl, hb1⟩
  have r0 := ((row_new w #[.int .i64 W, .int .i64 S, .int .i64 L, .int .i64 T, .int .i64 H, .int .i64 F, .int .i64 R, .int .i64 U, .int .i64 O, .slice a rs.length c] 35).alloc (.cells #[.int .i64 0, .int .i64 0, .int .i64 0, .int .i64 0, .int .i64 0, .int .i64 0, .int .i64 0, .int .i64 0, .int .i64 0, .int .i64 0, .slice none 0 0, .slice none 0 0] 38)).below hb1
  have r1 := (row_at (w := w.alloc (.cells #[.int .i64 W, .int .i64 S, .int .i64 L, .int .i64 T, .int .i64 H, .int .i64 F, .int .i64 R, .int .i64 U, .int .i64 O, .slice a rs.length c] 35)) (A := #[.int .i64 0, .int .i64 0, .int .i64 0, .int .i64 0, .int .i64 0, .int .i64 0, .int .i64 0, .int .i64 0, .int .i64 0, .int .i64 0, .slice none 0 0, .slice none 0 0]) (t := 38) (g := w.heap.size + 1) (by simp)).below hb1
  have HBE := hid (HBB.out.trans (hb1.mono (by simp; omega)))
  have HR0 := hid r0
  have HR1 := hid r1
  have xc0 := r0.cell 0 _ rfl
  have xf0 := r0.froz 0 (by simp)
  have xc1 := r0.cell 1 _ rfl
  have xf1 := r0.froz 1 (by simp)
  have xc2 := r0.cell 2 _ rfl
  have xf2 := r0.froz 2 (by simp)
  have xc3 := r0.cell 3 _ rfl
  have xf3 := r0.froz 3 (by simp)
  have xc4 := r0.cell 4 _ rfl
  have xf4 := r0.froz 4 (by simp)
  have xc5 := r0.cell 5 _ rfl
  have xf5 := r0.froz 5 (by simp)
  have xc6 := r0.cell 6 _ rfl
  have xf6 := r0.froz 6 (by simp)
  have xc7 := r0.cell 7 _ rfl
  have xf7 := r0.froz 7 (by simp)
  have xc8 := r0.cell 8 _ rfl
  have xf8 := r0.froz 8 (by simp)
  have xc9 := r0.cell 9 _ rfl
  have xf9 := r0.froz 9 (by simp)
  clear r0 r1 hb1
  go_wp2_with fail
  refine (HSR.out _).mono ?_
  rintro e w2 ⟨rfl, hb2⟩
  clear xc0 xf0 xc1 xf1 xc2 xf2 xc3 xf3 xc4 xf4 xc5 xf5 xc6 xf6 xc7 xf7 xc8 xf8 xc9 xf9
  have r1 := ((((HR1.out.other ⟨w.heap.size, 3, none⟩ (by show w.heap.size ≠ _; omega) _).other ⟨w.heap.size, 4, none⟩ (by show w.heap.size ≠ _; omega) _).other ⟨w.heap.size, 5, none⟩ (by show w.heap.size ≠ _; omega) _).other ⟨w.heap.size, 6, none⟩ (by show w.heap.size ≠ _; omega) _).below hb2
  have hbe := ((((HBE.out.setCell (p := ⟨w.heap.size, 3, none⟩) (Nat.le_refl _) (.int .i64 (T + 1))).setCell (p := ⟨w.heap.size, 4, none⟩) (Nat.le_refl _) (.int .i64 (1 - H))).setCell (p := ⟨w.heap.size, 5, none⟩) (Nat.le_refl _) (.int .i64 (F + Q))).setCell (p := ⟨w.heap.size, 6, none⟩) (Nat.le_refl _) (.int .i64 L))
  have HBF := hid (hbe.trans (hb2.mono hbe.size))
  have d0 := r1.cell 0 _ rfl
  have df0 := r1.froz 0 (by simp)
  have d1 := r1.cell 1 _ rfl
  have df1 := r1.froz 1 (by simp)
  have d2 := r1.cell 2 _ rfl
  have df2 := r1.froz 2 (by simp)
  have d3 := r1.cell 3 _ rfl
  have df3 := r1.froz 3 (by simp)
  have d4 := r1.cell 4 _ rfl
  have df4 := r1.froz 4 (by simp)
  have d5 := r1.cell 5 _ rfl
  have df5 := r1.froz 5 (by simp)
  have d6 := r1.cell 6 _ rfl
  have df6 := r1.froz 6 (by simp)
  have d7 := r1.cell 7 _ rfl
  have df7 := r1.froz 7 (by simp)
  have d8 := r1.cell 8 _ rfl
  have df8 := r1.froz 8 (by simp)
  have d9 := r1.cell 9 _ rfl
  have df9 := r1.froz 9 (by simp)
  have d10 := r1.cell 10 _ rfl
  have df10 := r1.froz 10 (by simp)
  have d11 := r1.cell 11 _ rfl
  have df11 := r1.froz 11 (by simp)
  have hly := r1.lt
  clear hb2 hbe HBE HR0 HR1 r1
  go_wp2_with fail
  refine bodyPost_ret (v := dnV (noD 4) none 0 none 0) (by simp [results, Tryz.results27, go_sem, dnV, noD, d0, d1, d2, d3, d4, d5, d6, d7, d8, d9, d10, d11]) rfl ⟨rfl, ?_⟩
  iterate 12 (refine Below.setCell ?_ (by show w.heap.size ≤ w.heap.size + 1; omega) _)
  exact HBF.out
end Go.Proofs.YtnmaknnnmjfhkafGreat

namespace Go.Proofs.YtnmaknnnmjfhkafGreat
open Go.RowKit
set_option linter.unusedVariables false
set_option linter.unusedSimpArgs false
set_option maxRecDepth 8000

set_option maxHeartbeats 16000000 in
theorem commit_s (W S L T H F R U O : Int) (a : Option Addr) (rs : List Pr) (c : Nat) (a2 : Option Addr) (b : List Ch) (c2 : Nat) (w : World) (h : Prs w a rs) (hl : rs.length ≤ 1048576) (hs : ∀ x ∈ rs, x.1.size ≤ 1048576 ∧ x.2.size ≤ 1048576) (h2 : Chs w a2 b) (hl2 : b.length ≤ 1048576) (hs2 : ∀ x ∈ b, x.1.size ≤ 1048576 ∧ x.2.1.size ≤ 1048576) :
    Calls Tryz.prog 15 #[storeV W S L T H F R U O a rs.length c, .slice a2 b.length c2] w fun x w' => DnPost w w' x (commitD W S L T H F R U O rs b) := by
  obtain ⟨i0, hi0, hz0, hz1, hz2⟩ := info_partsP info_opS
  have HI := hid (And.intro hi0 (And.intro hz0 (And.intro hz1 hz2)))
  clear hi0 hz0 hz1 hz2
  have HVS := hid (fun w' h' => vstore_s W S L T H F R U O a rs c w' h' hl hs)
  have HVB := hid (fun w' h' => vbatch_s a2 b c2 w' h' hl2 hs2)
  have HAP := hid (fun w' h' h'' => apply_s a rs c a2 b c2 w' h' hl hs h'' hl2 hs2)
  unfold ApPost stV at HAP
  have hAl := apR_len rs b
  have HAM := hid (apR_mem rs b (fun x => x.1.size ≤ 1048576 ∧ x.2.size ≤ 1048576) hs hs2)
  unfold storeV at HVS ⊢
  unfold commitD
  obtain ⟨A1, HA1⟩ : ∃ A1, Hid (A1 = apR rs b) := ⟨_, hid rfl⟩
  obtain ⟨C1, HC1⟩ : ∃ C1, Hid (C1 = apC rs b) := ⟨_, hid rfl⟩
  rw [← HA1.out] at hAl HAM
  rw [← HA1.out, ← HC1.out] at HAP ⊢
  cases hok : storeOk W S L T H F R U O rs with
  | false =>
    rw [hok] at HVS
    simp only [Bool.false_and, Bool.false_eq_true, if_false]
    go_enter Tryz.func15, Tryz.ntmps15
    go_wp2_with fail
    obtain ⟨v0, e0⟩ : ∃ x, x = (w.alloc (.cells #[.int .i64 W, .int .i64 S, .int .i64 L, .int .i64 T, .int .i64 H, .int .i64 F, .int .i64 R, .int .i64 U, .int .i64 O, .slice a rs.length c] 35)).alloc (.cells #[.int .i64 0, .int .i64 0, .int .i64 0, .int .i64 0, .int .i64 0, .int .i64 0, .int .i64 0, .int .i64 0, .int .i64 0, .int .i64 0, .slice none 0 0, .slice none 0 0] 38) := ⟨_, rfl⟩
    have hE : Below w.heap.size w v0 := by rw [e0]; exact ((Below.refl _ _).alloc (Nat.le_refl _) _).alloc (by simp) _
    have s_v0 : w.heap.size + 1 + 1 ≤ v0.heap.size := by rw [e0]; simp
    have bS : Dep v0 w.heap.size (w.heap.size + 1) (fun W' => Row W' w.heap.size [.int .i64 W, .int .i64 S, .int .i64 L, .int .i64 T, .int .i64 H, .int .i64 F, .int .i64 R, .int .i64 U, .int .i64 O, .slice a rs.length c]) := by rw [e0]; exact (dep_box w _ _).below ((Below.refl _ _).alloc (Nat.le_refl _) _)
    have bD : Dep v0 (w.heap.size + 1) (w.heap.size + 1 + 1) (fun W' => Row W' (w.heap.size + 1) [.int .i64 0, .int .i64 0, .int .i64 0, .int .i64 0, .int .i64 0, .int .i64 0, .int .i64 0, .int .i64 0, .int .i64 0, .int .i64 0, .slice none 0 0, .slice none 0 0]) := by rw [e0]; exact dep_row (row_at (w := w.alloc _) (by simp)) (Nat.le_refl _) (by omega) (by simp)
    rw [← e0]
    clear e0
    refine (HVS.out _ (h.below hE)).mono ?_
    rintro e v1 ⟨rfl, hb⟩
    have s_v1 : v0.heap.size ≤ v1.heap.size := hb.size
    have n_bS := bS.below hb
    clear bS
    have bS := n_bS
    clear n_bS
    have n_bD := bD.below hb
    clear bD
    have bD := n_bD
    clear n_bD
    have n_hE := hE.trans (hb.mono hE.size)
    clear hE
    have hE := n_hE
    clear n_hE
    clear hb
    have q_bD_0 := bD.now.cell 0 _ rfl
    have f_bD_0 := bD.now.froz 0 (by simp)
    have q_bD_1 := bD.now.cell 1 _ rfl
    have f_bD_1 := bD.now.froz 1 (by simp)
    have q_bD_2 := bD.now.cell 2 _ rfl
    have f_bD_2 := bD.now.froz 2 (by simp)
    have q_bD_3 := bD.now.cell 3 _ rfl
    have f_bD_3 := bD.now.froz 3 (by simp)
    have q_bD_4 := bD.now.cell 4 _ rfl
    have f_bD_4 := bD.now.froz 4 (by simp)
    have q_bD_5 := bD.now.cell 5 _ rfl
    have f_bD_5 := bD.now.froz 5 (by simp)
    have q_bD_6 := bD.now.cell 6 _ rfl
    have f_bD_6 := bD.now.froz 6 (by simp)
    have q_bD_7 := bD.now.cell 7 _ rfl
    have f_bD_7 := bD.now.froz 7 (by simp)
    have q_bD_8 := bD.now.cell 8 _ rfl
    have f_bD_8 := bD.now.froz 8 (by simp)
    have q_bD_9 := bD.now.cell 9 _ rfl
    have f_bD_9 := bD.now.froz 9 (by simp)
    have q_bD_10 := bD.now.cell 10 _ rfl
    have f_bD_10 := bD.now.froz 10 (by simp)
    have q_bD_11 := bD.now.cell 11 _ rfl
    have f_bD_11 := bD.now.froz 11 (by simp)
    have q_bD_l := bD.now.lt
    go_wp2_with fail
    refine bodyPost_ret (v := dnV (noD 1) none 0 none 0) (by simp [results, Tryz.results15, go_sem, dnV, noD, q_bD_l, q_bD_0, q_bD_1, q_bD_2, q_bD_3, q_bD_4, q_bD_5, q_bD_6, q_bD_7, q_bD_8, q_bD_9, q_bD_10, q_bD_11]) rfl (dn_no rfl ?_)
    iterate 12 (refine Below.setCell ?_ (by show w.heap.size ≤ w.heap.size + 1; omega) _)
    exact hE
  | true =>
    rw [hok] at HVS
    simp only [Bool.true_and]
    cases hokb : batchOk b with
    | false =>
      rw [hokb] at HVB
      simp only [Bool.false_eq_true, if_false]
      go_enter Tryz.func15, Tryz.ntmps15
      go_wp2_with fail
      obtain ⟨v0, e0⟩ : ∃ x, x = (w.alloc (.cells #[.int .i64 W, .int .i64 S, .int .i64 L, .int .i64 T, .int .i64 H, .int .i64 F, .int .i64 R, .int .i64 U, .int .i64 O, .slice a rs.length c] 35)).alloc (.cells #[.int .i64 0, .int .i64 0, .int .i64 0, .int .i64 0, .int .i64 0, .int .i64 0, .int .i64 0, .int .i64 0, .int .i64 0, .int .i64 0, .slice none 0 0, .slice none 0 0] 38) := ⟨_, rfl⟩
      have hE : Below w.heap.size w v0 := by rw [e0]; exact ((Below.refl _ _).alloc (Nat.le_refl _) _).alloc (by simp) _
      have s_v0 : w.heap.size + 1 + 1 ≤ v0.heap.size := by rw [e0]; simp
      have bS : Dep v0 w.heap.size (w.heap.size + 1) (fun W' => Row W' w.heap.size [.int .i64 W, .int .i64 S, .int .i64 L, .int .i64 T, .int .i64 H, .int .i64 F, .int .i64 R, .int .i64 U, .int .i64 O, .slice a rs.length c]) := by rw [e0]; exact (dep_box w _ _).below ((Below.refl _ _).alloc (Nat.le_refl _) _)
      have bD : Dep v0 (w.heap.size + 1) (w.heap.size + 1 + 1) (fun W' => Row W' (w.heap.size + 1) [.int .i64 0, .int .i64 0, .int .i64 0, .int .i64 0, .int .i64 0, .int .i64 0, .int .i64 0, .int .i64 0, .int .i64 0, .int .i64 0, .slice none 0 0, .slice none 0 0]) := by rw [e0]; exact dep_row (row_at (w := w.alloc _) (by simp)) (Nat.le_refl _) (by omega) (by simp)
      rw [← e0]
      clear e0
      refine (HVS.out _ (h.below hE)).mono ?_
      rintro e v1 ⟨rfl, hb⟩
      have s_v1 : v0.heap.size ≤ v1.heap.size := hb.size
      have n_bS := bS.below hb
      clear bS
      have bS := n_bS
      clear n_bS
      have n_bD := bD.below hb
      clear bD
      have bD := n_bD
      clear n_bD
      have n_hE := hE.trans (hb.mono hE.size)
      clear hE
      have hE := n_hE
      clear n_hE
      clear hb
      go_wp2_with fail
      refine (HVB.out _ (h2.below hE)).mono ?_
      rintro e v2 ⟨rfl, hb⟩
      have s_v2 : v1.heap.size ≤ v2.heap.size := hb.size
      have n_bS := bS.below hb
      clear bS
      have bS := n_bS
      clear n_bS
      have n_bD := bD.below hb
      clear bD
      have bD := n_bD
      clear n_bD
      have n_hE := hE.trans (hb.mono hE.size)
      clear hE
      have hE := n_hE
      clear n_hE
      clear hb
      have q_bD_0 := bD.now.cell 0 _ rfl
      have f_bD_0 := bD.now.froz 0 (by simp)
      have q_bD_1 := bD.now.cell 1 _ rfl
      have f_bD_1 := bD.now.froz 1 (by simp)
      have q_bD_2 := bD.now.cell 2 _ rfl
      have f_bD_2 := bD.now.froz 2 (by simp)
      have q_bD_3 := bD.now.cell 3 _ rfl
      have f_bD_3 := bD.now.froz 3 (by simp)
      have q_bD_4 := bD.now.cell 4 _ rfl
      have f_bD_4 := bD.now.froz 4 (by simp)
      have q_bD_5 := bD.now.cell 5 _ rfl
      have f_bD_5 := bD.now.froz 5 (by simp)
      have q_bD_6 := bD.now.cell 6 _ rfl
      have f_bD_6 := bD.now.froz 6 (by simp)
      have q_bD_7 := bD.now.cell 7 _ rfl
      have f_bD_7 := bD.now.froz 7 (by simp)
      have q_bD_8 := bD.now.cell 8 _ rfl
      have f_bD_8 := bD.now.froz 8 (by simp)
      have q_bD_9 := bD.now.cell 9 _ rfl
      have f_bD_9 := bD.now.froz 9 (by simp)
      have q_bD_10 := bD.now.cell 10 _ rfl
      have f_bD_10 := bD.now.froz 10 (by simp)
      have q_bD_11 := bD.now.cell 11 _ rfl
      have f_bD_11 := bD.now.froz 11 (by simp)
      have q_bD_l := bD.now.lt
      go_wp2_with fail
      refine bodyPost_ret (v := dnV (noD 1) none 0 none 0) (by simp [results, Tryz.results15, go_sem, dnV, noD, q_bD_l, q_bD_0, q_bD_1, q_bD_2, q_bD_3, q_bD_4, q_bD_5, q_bD_6, q_bD_7, q_bD_8, q_bD_9, q_bD_10, q_bD_11]) rfl (dn_no rfl ?_)
      iterate 12 (refine Below.setCell ?_ (by show w.heap.size ≤ w.heap.size + 1; omega) _)
      exact hE
    | true =>
      rw [hokb] at HVB
      simp only [if_true]
      obtain ⟨hW, hS, hLL, hT, hH, hF, hU, hO, _⟩ := storeOk_of hok
      have hQ := hv_yes hS
      clear hok hokb
      have HH := hid (fun w' => halves_s S w')
      have HB := hid (fun w' => base_s S H hH.1 hH.2 w')
      obtain ⟨n, rfl⟩ : ∃ n : Nat, W = (n : Int) := ⟨W.toNat, by omega⟩
      have en : (n : Int).toNat = n := by omega
      rw [en]
      obtain ⟨m, hm⟩ : ∃ m, m = 56 - n := ⟨_, rfl⟩
      rw [← hm]
      have hnm : n + m = 56 := by omega
      clear en hm
      have HF := hid (fun w' h' => formbatch_s a2 b c2 w' h' hl2 hs2)
      have hbo := bOut_bound b
      have HCT := hid (fun w' => cut_s (bOut b) L (F + U) n m w' (by omega) hnm (by omega) (by omega))
      have hnp := npages_tight (bOut b).size (n : Int) (by omega) (by omega)
      have hcl := cutAll_len' (bOut b) L (F + U) n m hnm (by omega) (by omega) hLL (by omega)
      obtain ⟨Q, HQ⟩ : ∃ Q, Hid (Q = hv S) := ⟨_, hid rfl⟩
      obtain ⟨N, HN⟩ : ∃ N, Hid (N = npages (bOut b).size (n : Int)) := ⟨_, hid rfl⟩
      obtain ⟨bo, hbo1⟩ : ∃ bo, bo = bOut b := ⟨_, rfl⟩
      obtain ⟨cut, hcut⟩ : ∃ cut, cut = cutAll (bOut b) L (F + U) n m := ⟨_, rfl⟩
      have hcl' : (cut.length : Int) = N := by rw [hcut, HN.out]; exact hcl (by omega)
      rw [← hcut] at HCT ⊢
      rw [← hbo1] at HF HCT hbo hnp
      rw [← hbo1] at HN
      rw [← HN.out] at hnp
      rw [← HQ.out] at hQ hU HH HB ⊢
      rw [← hbo1, ← HN.out]
      clear hcl hcut hbo1
      obtain ⟨q, hq⟩ : ∃ q, q = 2 + H * Q := ⟨_, rfl⟩
      have hqb : 2 ≤ q ∧ q ≤ 101 := by
        rcases (show H = 0 ∨ H = 1 by omega) with e | e
        · subst e; omega
        · subst e; omega
      rw [← hq] at HB ⊢
      clear hq
      obtain ⟨r, HRR⟩ : ∃ r, Hid (r = roomOf (snapOf A1) (n : Int)) := ⟨_, hid rfl⟩
      have HRM := hid (fun a' c' w' h' => room_s a' A1 c' (n : Int) w' h' (by omega) HAM.out)
      have hrb := roomOf_bound (snapOf A1) (n : Int)
      have hsl := snapOf_len A1
      rw [← HRR.out] at HRM hrb ⊢
      obtain ⟨D, HD⟩ : ∃ D, Hid (D = if C1 = 0 then if r ≤ Q - 1 then if N ≤ Q - U then (⟨0, (n : Int), S, L, T, H, F, R, U + N, O + N, A1, putOps (q + U) cut⟩ : Dd) else noD 4 else noD 3 else noD 2) := ⟨_, hid rfl⟩
      rw [← HD.out]
      have hw1 : IntKind.i64.wrap (Q - 1) = Q - 1 := by simp [IntKind.wrap, IntKind.bits, IntKind.signed]; omega
      have hw2 : IntKind.i64.wrap (Q - U) = Q - U := by simp [IntKind.wrap, IntKind.bits, IntKind.signed]; omega
      have hw3 : IntKind.i64.wrap (F + U) = F + U := by simp [IntKind.wrap, IntKind.bits, IntKind.signed]; omega
      go_enter Tryz.func15, Tryz.ntmps15
      go_wp2_with fail
      obtain ⟨v0, e0⟩ : ∃ x, x = (w.alloc (.cells #[.int .i64 (n : Int), .int .i64 S, .int .i64 L, .int .i64 T, .int .i64 H, .int .i64 F, .int .i64 R, .int .i64 U, .int .i64 O, .slice a rs.length c] 35)).alloc (.cells #[.int .i64 0, .int .i64 0, .int .i64 0, .int .i64 0, .int .i64 0, .int .i64 0, .int .i64 0, .int .i64 0, .int .i64 0, .int .i64 0, .slice none 0 0, .slice none 0 0] 38) := ⟨_, rfl⟩
      have hE : Below w.heap.size w v0 := by rw [e0]; exact ((Below.refl _ _).alloc (Nat.le_refl _) _).alloc (by simp) _
      have s_v0 : w.heap.size + 1 + 1 ≤ v0.heap.size := by rw [e0]; simp
      have bS : Dep v0 w.heap.size (w.heap.size + 1) (fun W' => Row W' w.heap.size [.int .i64 (n : Int), .int .i64 S, .int .i64 L, .int .i64 T, .int .i64 H, .int .i64 F, .int .i64 R, .int .i64 U, .int .i64 O, .slice a rs.length c]) := by rw [e0]; exact (dep_box w _ _).below ((Below.refl _ _).alloc (Nat.le_refl _) _)
      have bD : Dep v0 (w.heap.size + 1) (w.heap.size + 1 + 1) (fun W' => Row W' (w.heap.size + 1) [.int .i64 0, .int .i64 0, .int .i64 0, .int .i64 0, .int .i64 0, .int .i64 0, .int .i64 0, .int .i64 0, .int .i64 0, .int .i64 0, .slice none 0 0, .slice none 0 0]) := by rw [e0]; exact dep_row (row_at (w := w.alloc _) (by simp)) (Nat.le_refl _) (by omega) (by simp)
      rw [← e0]
      clear e0
      refine (HVS.out _ (h.below hE)).mono ?_
      rintro e v1 ⟨rfl, hb⟩
      have s_v1 : v0.heap.size ≤ v1.heap.size := hb.size
      have n_bS := bS.below hb
      clear bS
      have bS := n_bS
      clear n_bS
      have n_bD := bD.below hb
      clear bD
      have bD := n_bD
      clear n_bD
      have n_hE := hE.trans (hb.mono hE.size)
      clear hE
      have hE := n_hE
      clear n_hE
      clear hb
      go_wp2_with fail
      refine (HVB.out _ (h2.below hE)).mono ?_
      rintro e v2 ⟨rfl, hb⟩
      have s_v2 : v1.heap.size ≤ v2.heap.size := hb.size
      have n_bS := bS.below hb
      clear bS
      have bS := n_bS
      clear n_bS
      have n_bD := bD.below hb
      clear bD
      have bD := n_bD
      clear n_bD
      have n_hE := hE.trans (hb.mono hE.size)
      clear hE
      have hE := n_hE
      clear n_hE
      clear hb
      have q_bS_0 := bS.now.cell 0 _ rfl
      have q_bS_1 := bS.now.cell 1 _ rfl
      have q_bS_2 := bS.now.cell 2 _ rfl
      have q_bS_3 := bS.now.cell 3 _ rfl
      have q_bS_4 := bS.now.cell 4 _ rfl
      have q_bS_5 := bS.now.cell 5 _ rfl
      have q_bS_6 := bS.now.cell 6 _ rfl
      have q_bS_7 := bS.now.cell 7 _ rfl
      have q_bS_8 := bS.now.cell 8 _ rfl
      have q_bS_9 := bS.now.cell 9 _ rfl
      have q_bS_l := bS.now.lt
      go_wp2_with fail
      clear q_bS_0 q_bS_1 q_bS_2 q_bS_3 q_bS_4 q_bS_5 q_bS_6 q_bS_7 q_bS_8 q_bS_9 q_bS_l
      refine (HAP.out _ (h.below hE) (h2.below hE)).mono ?_
      rintro e v3 ⟨a5, c5, rfl, hc5, ho, hg, hb⟩
      have s_v3 : v2.heap.size ≤ v3.heap.size := hb.size
      have n_bS := bS.below hb
      clear bS
      have bS := n_bS
      clear n_bS
      have n_bD := bD.below hb
      clear bD
      have bD := n_bD
      clear n_bD
      have n_hE := hE.trans (hb.mono hE.size)
      clear hE
      have hE := n_hE
      clear n_hE
      have dA : Dep v3 v2.heap.size v3.heap.size (fun W => OwnS W a5 (prcells A1)) := dep_own ho prcells_neA hg
      have lo5 : ∀ g, blk a5 A1.length = some g → v2.heap.size ≤ g ∧ g < v3.heap.size := fun g hg' => ⟨hg g hg', ho.lt _ (fun h e => h (by have := congrArg List.length e; rw [prcells_length, List.length_nil] at this; omega)) g hg'⟩
      clear ho hg
      clear hb
      by_cases hC : C1 = 0
      case neg =>
        have q_bD_0 := bD.now.cell 0 _ rfl
        have f_bD_0 := bD.now.froz 0 (by simp)
        have q_bD_1 := bD.now.cell 1 _ rfl
        have f_bD_1 := bD.now.froz 1 (by simp)
        have q_bD_2 := bD.now.cell 2 _ rfl
        have f_bD_2 := bD.now.froz 2 (by simp)
        have q_bD_3 := bD.now.cell 3 _ rfl
        have f_bD_3 := bD.now.froz 3 (by simp)
        have q_bD_4 := bD.now.cell 4 _ rfl
        have f_bD_4 := bD.now.froz 4 (by simp)
        have q_bD_5 := bD.now.cell 5 _ rfl
        have f_bD_5 := bD.now.froz 5 (by simp)
        have q_bD_6 := bD.now.cell 6 _ rfl
        have f_bD_6 := bD.now.froz 6 (by simp)
        have q_bD_7 := bD.now.cell 7 _ rfl
        have f_bD_7 := bD.now.froz 7 (by simp)
        have q_bD_8 := bD.now.cell 8 _ rfl
        have f_bD_8 := bD.now.froz 8 (by simp)
        have q_bD_9 := bD.now.cell 9 _ rfl
        have f_bD_9 := bD.now.froz 9 (by simp)
        have q_bD_10 := bD.now.cell 10 _ rfl
        have f_bD_10 := bD.now.froz 10 (by simp)
        have q_bD_11 := bD.now.cell 11 _ rfl
        have f_bD_11 := bD.now.froz 11 (by simp)
        have q_bD_l := bD.now.lt
        go_wp2_with fail
        rw [show D = noD 2 by rw [HD.out, if_neg hC]]
        refine bodyPost_ret (v := dnV (noD 2) none 0 none 0) (by simp [results, Tryz.results15, go_sem, dnV, noD, q_bD_l, q_bD_0, q_bD_1, q_bD_2, q_bD_3, q_bD_4, q_bD_5, q_bD_6, q_bD_7, q_bD_8, q_bD_9, q_bD_10, q_bD_11]) rfl (dn_no rfl ?_)
        refine (fun hbz => Below.alloc hbz (Below.size hbz) _) ?_
        iterate 12 (refine Below.setCell ?_ (by show w.heap.size ≤ w.heap.size + 1; omega) _)
        exact hE
      have HCC := hid hC
      subst hC
      have q_bS_0 := bS.now.cell 0 _ rfl
      have q_bS_1 := bS.now.cell 1 _ rfl
      have q_bS_2 := bS.now.cell 2 _ rfl
      have q_bS_3 := bS.now.cell 3 _ rfl
      have q_bS_4 := bS.now.cell 4 _ rfl
      have q_bS_5 := bS.now.cell 5 _ rfl
      have q_bS_6 := bS.now.cell 6 _ rfl
      have q_bS_7 := bS.now.cell 7 _ rfl
      have q_bS_8 := bS.now.cell 8 _ rfl
      have q_bS_9 := bS.now.cell 9 _ rfl
      have q_bS_l := bS.now.lt
      go_wp2_with (go_at_call 38; refine (HH.out _).mono ?_; rintro e wz ⟨rfl, hwz⟩; rw [hwz]; clear hwz wz)
      clear q_bS_0 q_bS_1 q_bS_2 q_bS_3 q_bS_4 q_bS_5 q_bS_6 q_bS_7 q_bS_8 q_bS_9 q_bS_l
      obtain ⟨v4, e_v4⟩ : ∃ x, x = v3.alloc (.cells #[.slice a5 A1.length c5] 33) := ⟨_, rfl⟩
      have hb : Below v3.heap.size v3 v4 := by rw [e_v4]; exact (Below.refl _ _).alloc (Nat.le_refl _) _
      have bR : Dep v4 v3.heap.size (v3.heap.size + 1) (fun W => Row W v3.heap.size [.slice a5 A1.length c5]) := by rw [e_v4]; exact dep_box _ _ _
      have s_v4 : v3.heap.size + 1 ≤ v4.heap.size := by rw [e_v4]; simp
      rw [← e_v4]
      clear e_v4
      have n_bS := bS.below hb
      clear bS
      have bS := n_bS
      clear n_bS
      have n_bD := bD.below hb
      clear bD
      have bD := n_bD
      clear n_bD
      have n_dA := dA.below hb
      clear dA
      have dA := n_dA
      clear n_dA
      have n_hE := hE.trans (hb.mono hE.size)
      clear hE
      have hE := n_hE
      clear n_hE
      clear hb
      refine (HRM.out _ _ _ dA.now.prsA).mono ?_
      rintro e v5 ⟨rfl, hb⟩
      have s_v5 : v4.heap.size ≤ v5.heap.size := hb.size
      have n_bS := bS.below hb
      clear bS
      have bS := n_bS
      clear n_bS
      have n_bD := bD.below hb
      clear bD
      have bD := n_bD
      clear n_bD
      have n_dA := dA.below hb
      clear dA
      have dA := n_dA
      clear n_dA
      have n_bR := bR.below hb
      clear bR
      have bR := n_bR
      clear n_bR
      have n_hE := hE.trans (hb.mono hE.size)
      clear hE
      have hE := n_hE
      clear n_hE
      clear hb
      by_cases hr : r ≤ Q - 1
      case neg =>
        have hr' : Q - 1 < r := by omega
        have q_bD_0 := bD.now.cell 0 _ rfl
        have f_bD_0 := bD.now.froz 0 (by simp)
        have q_bD_1 := bD.now.cell 1 _ rfl
        have f_bD_1 := bD.now.froz 1 (by simp)
        have q_bD_2 := bD.now.cell 2 _ rfl
        have f_bD_2 := bD.now.froz 2 (by simp)
        have q_bD_3 := bD.now.cell 3 _ rfl
        have f_bD_3 := bD.now.froz 3 (by simp)
        have q_bD_4 := bD.now.cell 4 _ rfl
        have f_bD_4 := bD.now.froz 4 (by simp)
        have q_bD_5 := bD.now.cell 5 _ rfl
        have f_bD_5 := bD.now.froz 5 (by simp)
        have q_bD_6 := bD.now.cell 6 _ rfl
        have f_bD_6 := bD.now.froz 6 (by simp)
        have q_bD_7 := bD.now.cell 7 _ rfl
        have f_bD_7 := bD.now.froz 7 (by simp)
        have q_bD_8 := bD.now.cell 8 _ rfl
        have f_bD_8 := bD.now.froz 8 (by simp)
        have q_bD_9 := bD.now.cell 9 _ rfl
        have f_bD_9 := bD.now.froz 9 (by simp)
        have q_bD_10 := bD.now.cell 10 _ rfl
        have f_bD_10 := bD.now.froz 10 (by simp)
        have q_bD_11 := bD.now.cell 11 _ rfl
        have f_bD_11 := bD.now.froz 11 (by simp)
        have q_bD_l := bD.now.lt
        go_wp2_with fail
        rw [show D = noD 3 by rw [HD.out, if_pos trivial, if_neg (by omega)]]
        refine bodyPost_ret (v := dnV (noD 3) none 0 none 0) (by simp [results, Tryz.results15, go_sem, dnV, noD, q_bD_l, q_bD_0, q_bD_1, q_bD_2, q_bD_3, q_bD_4, q_bD_5, q_bD_6, q_bD_7, q_bD_8, q_bD_9, q_bD_10, q_bD_11]) rfl (dn_no rfl ?_)
        iterate 12 (refine Below.setCell ?_ (by show w.heap.size ≤ w.heap.size + 1; omega) _)
        exact hE
      have q_bS_0 := bS.now.cell 0 _ rfl
      have q_bS_1 := bS.now.cell 1 _ rfl
      have q_bS_2 := bS.now.cell 2 _ rfl
      have q_bS_3 := bS.now.cell 3 _ rfl
      have q_bS_4 := bS.now.cell 4 _ rfl
      have q_bS_5 := bS.now.cell 5 _ rfl
      have q_bS_6 := bS.now.cell 6 _ rfl
      have q_bS_7 := bS.now.cell 7 _ rfl
      have q_bS_8 := bS.now.cell 8 _ rfl
      have q_bS_9 := bS.now.cell 9 _ rfl
      have q_bS_l := bS.now.lt
      go_wp2_with fail
      clear q_bS_0 q_bS_1 q_bS_2 q_bS_3 q_bS_4 q_bS_5 q_bS_6 q_bS_7 q_bS_8 q_bS_9 q_bS_l
      have HK : Hid (∀ W, Below v5.heap.size v5 W → W.cell? ⟨w.heap.size, 0, none⟩ = some (.int .i64 (n : Int)) ∧ W.cell? ⟨w.heap.size, 2, none⟩ = some (.int .i64 L) ∧ W.cell? ⟨w.heap.size, 5, none⟩ = some (.int .i64 F) ∧ W.cell? ⟨w.heap.size, 7, none⟩ = some (.int .i64 U)) := fun W hb => ⟨(bS.below hb).now.cell 0 _ rfl, (bS.below hb).now.cell 2 _ rfl, (bS.below hb).now.cell 5 _ rfl, (bS.below hb).now.cell 7 _ rfl⟩
      refine wp_region_held_drew (S := fun w' => w'.cell? ⟨w.heap.size, 0, none⟩ = some (.int .i64 (n : Int)) ∧ w'.cell? ⟨w.heap.size, 2, none⟩ = some (.int .i64 L) ∧ w'.cell? ⟨w.heap.size, 5, none⟩ = some (.int .i64 F) ∧ w'.cell? ⟨w.heap.size, 7, none⟩ = some (.int .i64 U)) (by kernel_rfl) (HK.out _ (Below.refl _ _).drew) (fun hHeld => ?_)
      refine wpAnyH_take (i := 0) (v := .slice a2 b.length c2) rfl (by kernel_rfl) (by kernel_rfl) (by kernel_rfl) (fun _ _ _ h => h) (Or.inl ⟨by rfl, fun w hw => by obtain ⟨z0, z1, z2, z3⟩ := hw; go_simp⟩) hHeld ?_
      simp only [Act.put, List.getElem_toArray, List.getElem_cons_zero, List.getElem_cons_succ, List.setIfInBounds_toArray, List.set_cons_zero, List.set_cons_succ]
      refine wpAnyH_take (i := 2) (v := .pointer (some ⟨w.heap.size, 2, none⟩)) rfl (by kernel_rfl) (by kernel_rfl) (by kernel_rfl) (fun _ _ _ h => h) (Or.inl ⟨by rfl, fun w hw => by obtain ⟨z0, z1, z2, z3⟩ := hw; go_simp⟩) hHeld ?_
      simp only [Act.put, List.getElem_toArray, List.getElem_cons_zero, List.getElem_cons_succ, List.setIfInBounds_toArray, List.set_cons_zero, List.set_cons_succ]
      refine wpAnyH_take (i := 3) (v := .int .i64 L) rfl (by kernel_rfl) (by kernel_rfl) (by kernel_rfl) (fun _ _ _ h => h) (Or.inl ⟨by rfl, fun w hw => by obtain ⟨z0, z1, z2, z3⟩ := hw; go_simp⟩) hHeld ?_
      simp only [Act.put, List.getElem_toArray, List.getElem_cons_zero, List.getElem_cons_succ, List.setIfInBounds_toArray, List.set_cons_zero, List.set_cons_succ]
      refine wpAnyH_take (i := 4) (v := .pointer (some ⟨w.heap.size, 3, none⟩)) rfl (by kernel_rfl) (by kernel_rfl) (by kernel_rfl) (fun _ _ _ h => h) (Or.inl ⟨by rfl, fun w hw => by obtain ⟨z0, z1, z2, z3⟩ := hw; go_simp⟩) hHeld ?_
      simp only [Act.put, List.getElem_toArray, List.getElem_cons_zero, List.getElem_cons_succ, List.setIfInBounds_toArray, List.set_cons_zero, List.set_cons_succ]
      refine wpAnyH_take (i := 5) (v := .pointer (some ⟨w.heap.size, 5, none⟩)) rfl (by kernel_rfl) (by kernel_rfl) (by kernel_rfl) (fun _ _ _ h => h) (Or.inl ⟨by rfl, fun w hw => by obtain ⟨z0, z1, z2, z3⟩ := hw; go_simp⟩) hHeld ?_
      simp only [Act.put, List.getElem_toArray, List.getElem_cons_zero, List.getElem_cons_succ, List.setIfInBounds_toArray, List.set_cons_zero, List.set_cons_succ]
      refine wpAnyH_take (i := 6) (v := .int .i64 F) rfl (by kernel_rfl) (by kernel_rfl) (by kernel_rfl) (fun _ _ _ h => h) (Or.inl ⟨by rfl, fun w hw => by obtain ⟨z0, z1, z2, z3⟩ := hw; go_simp⟩) hHeld ?_
      simp only [Act.put, List.getElem_toArray, List.getElem_cons_zero, List.getElem_cons_succ, List.setIfInBounds_toArray, List.set_cons_zero, List.set_cons_succ]
      refine wpAnyH_take (i := 7) (v := .pointer (some ⟨w.heap.size, 7, none⟩)) rfl (by kernel_rfl) (by kernel_rfl) (by kernel_rfl) (fun _ _ _ h => h) (Or.inl ⟨by rfl, fun w hw => by obtain ⟨z0, z1, z2, z3⟩ := hw; go_simp⟩) hHeld ?_
      simp only [Act.put, List.getElem_toArray, List.getElem_cons_zero, List.getElem_cons_succ, List.setIfInBounds_toArray, List.set_cons_zero, List.set_cons_succ]
      refine wpAnyH_take (i := 8) (v := .int .i64 U) rfl (by kernel_rfl) (by kernel_rfl) (by kernel_rfl) (fun _ _ _ h => h) (Or.inl ⟨by rfl, fun w hw => by obtain ⟨z0, z1, z2, z3⟩ := hw; go_simp⟩) hHeld ?_
      simp only [Act.put, List.getElem_toArray, List.getElem_cons_zero, List.getElem_cons_succ, List.setIfInBounds_toArray, List.set_cons_zero, List.set_cons_succ]
      refine wpAnyH_take (i := 9) (v := .int .i64 (F + U)) rfl (by kernel_rfl) (by kernel_rfl) (by kernel_rfl) (fun _ _ _ h => h) (Or.inl ⟨by rfl, fun w hw => by obtain ⟨z0, z1, z2, z3⟩ := hw; go_simp⟩) hHeld ?_
      simp only [Act.put, List.getElem_toArray, List.getElem_cons_zero, List.getElem_cons_succ, List.setIfInBounds_toArray, List.set_cons_zero, List.set_cons_succ]
      refine wpAnyH_take (i := 10) (v := .pointer (some ⟨w.heap.size, 0, none⟩)) rfl (by kernel_rfl) (by kernel_rfl) (by kernel_rfl) (fun _ _ _ h => h) (Or.inl ⟨by rfl, fun w hw => by obtain ⟨z0, z1, z2, z3⟩ := hw; go_simp⟩) hHeld ?_
      simp only [Act.put, List.getElem_toArray, List.getElem_cons_zero, List.getElem_cons_succ, List.setIfInBounds_toArray, List.set_cons_zero, List.set_cons_succ]
      refine wpAnyH_take (i := 11) (v := .int .i64 (n : Int)) rfl (by kernel_rfl) (by kernel_rfl) (by kernel_rfl) (fun _ _ _ h => h) (Or.inl ⟨by rfl, fun w hw => by obtain ⟨z0, z1, z2, z3⟩ := hw; go_simp⟩) hHeld ?_
      simp only [Act.put, List.getElem_toArray, List.getElem_cons_zero, List.getElem_cons_succ, List.setIfInBounds_toArray, List.set_cons_zero, List.set_cons_succ]
      refine wpAnyH_ready (rs := [1]) (by kernel_rfl) (by simp) ?_
      refine AllReadyH.cons rfl (fun K hK => ?_) AllReadyH.nil
      refine step_call (by rfl) 41 #[.slice a2 b.length c2] (by go_simp) (HF.out _ ((h2.below hE).below (Below.refl _ _).drew)) ?_
      rintro e u1 ⟨rfl, hb_u⟩
      refine ⟨_, rfl, ?_⟩
      have hb_u' : Below v5.heap.size v5 u1 := (Below.refl _ _).drew.trans hb_u
      refine hK.out _ _ (HK.out _ hb_u') (fun hHd1 => ?_)
      clear hK K
      try simp only [Act.put, List.getElem_toArray, List.getElem_cons_zero, List.getElem_cons_succ, List.setIfInBounds_toArray, List.set_cons_zero, List.set_cons_succ]
      refine wpAnyH_ready (rs := [12]) (by kernel_rfl) (by simp) ?_
      refine AllReadyH.cons rfl (fun K hK => ?_) AllReadyH.nil
      refine step_call (by rfl) 40 #[.string bo, .int .i64 L, .int .i64 (F + U), .int .i64 (n : Int)] (by go_simp) (HCT.out _) ?_
      rintro e u2 ⟨a8, c8, rfl, ho8, hg8, hb_v⟩
      refine ⟨_, rfl, ?_⟩
      have hb_v' := hb_u'.trans (hb_v.mono hb_u'.size)
      refine hK.out _ _ (HK.out _ hb_v') (fun hHd2 => ?_)
      clear hK K
      try simp only [Act.put, List.getElem_toArray, List.getElem_cons_zero, List.getElem_cons_succ, List.setIfInBounds_toArray, List.set_cons_zero, List.set_cons_succ]
      refine wpAnyH_ready (rs := [13]) (by kernel_rfl) (by simp) ?_
      refine AllReadyH.cons rfl (fun K hK => ?_) AllReadyH.nil
      go_simp
      refine hK.out _ _ hHd2 (fun _ => ?_)
      clear hK K
      try simp only [Act.put, List.getElem_toArray, List.getElem_cons_zero, List.getElem_cons_succ, List.setIfInBounds_toArray, List.set_cons_zero, List.set_cons_succ]
      refine wpAnyH_done (by kernel_rfl) ?_ _
      have hg8' : ∀ g, blk a8 cut.length = some g → v5.heap.size ≤ g := fun g hg => Nat.le_trans hb_u'.size (hg8 g hg)
      have dC : Dep u2 v5.heap.size u2.heap.size (fun W => OwnS W a8 (cut.map Value.string)) := dep_own ho8 (fun h e => h (by rw [List.eq_nil_of_length_eq_zero e]; rfl)) hg8'
      have hb := hb_v'
      clear HK hb_u hb_u' hb_v hb_v' hg8 hg8' ho8 hHeld hHd1 hHd2
      have s_u2 : v5.heap.size ≤ u2.heap.size := hb.size
      have n_bS := bS.below hb
      clear bS
      have bS := n_bS
      clear n_bS
      have n_bD := bD.below hb
      clear bD
      have bD := n_bD
      clear n_bD
      have n_dA := dA.below hb
      clear dA
      have dA := n_dA
      clear n_dA
      have n_bR := bR.below hb
      clear bR
      have bR := n_bR
      clear n_bR
      have n_hE := hE.trans (hb.mono hE.size)
      clear hE
      have hE := n_hE
      clear n_hE
      clear hb
      by_cases hp : N ≤ Q - U
      case neg =>
        have hp' : Q - U < (cut.length : Int) := by omega
        have q_bS_0 := bS.now.cell 0 _ rfl
        have q_bS_1 := bS.now.cell 1 _ rfl
        have q_bS_2 := bS.now.cell 2 _ rfl
        have q_bS_3 := bS.now.cell 3 _ rfl
        have q_bS_4 := bS.now.cell 4 _ rfl
        have q_bS_5 := bS.now.cell 5 _ rfl
        have q_bS_6 := bS.now.cell 6 _ rfl
        have q_bS_7 := bS.now.cell 7 _ rfl
        have q_bS_8 := bS.now.cell 8 _ rfl
        have q_bS_9 := bS.now.cell 9 _ rfl
        have q_bS_l := bS.now.lt
        have q_bD_0 := bD.now.cell 0 _ rfl
        have f_bD_0 := bD.now.froz 0 (by simp)
        have q_bD_1 := bD.now.cell 1 _ rfl
        have f_bD_1 := bD.now.froz 1 (by simp)
        have q_bD_2 := bD.now.cell 2 _ rfl
        have f_bD_2 := bD.now.froz 2 (by simp)
        have q_bD_3 := bD.now.cell 3 _ rfl
        have f_bD_3 := bD.now.froz 3 (by simp)
        have q_bD_4 := bD.now.cell 4 _ rfl
        have f_bD_4 := bD.now.froz 4 (by simp)
        have q_bD_5 := bD.now.cell 5 _ rfl
        have f_bD_5 := bD.now.froz 5 (by simp)
        have q_bD_6 := bD.now.cell 6 _ rfl
        have f_bD_6 := bD.now.froz 6 (by simp)
        have q_bD_7 := bD.now.cell 7 _ rfl
        have f_bD_7 := bD.now.froz 7 (by simp)
        have q_bD_8 := bD.now.cell 8 _ rfl
        have f_bD_8 := bD.now.froz 8 (by simp)
        have q_bD_9 := bD.now.cell 9 _ rfl
        have f_bD_9 := bD.now.froz 9 (by simp)
        have q_bD_10 := bD.now.cell 10 _ rfl
        have f_bD_10 := bD.now.froz 10 (by simp)
        have q_bD_11 := bD.now.cell 11 _ rfl
        have f_bD_11 := bD.now.froz 11 (by simp)
        have q_bD_l := bD.now.lt
        go_wp2_with fail
        rw [show D = noD 4 by rw [HD.out, if_pos trivial, if_pos hr, if_neg (by omega)]]
        refine bodyPost_ret (v := dnV (noD 4) none 0 none 0) (by simp [results, Tryz.results15, go_sem, dnV, noD, q_bD_l, q_bD_0, q_bD_1, q_bD_2, q_bD_3, q_bD_4, q_bD_5, q_bD_6, q_bD_7, q_bD_8, q_bD_9, q_bD_10, q_bD_11]) rfl (dn_no rfl ?_)
        iterate 12 (refine Below.setCell ?_ (by show w.heap.size ≤ w.heap.size + 1; omega) _)
        exact hE
      have hp' : (cut.length : Int) ≤ Q - U := by omega
      have q_bS_0 := bS.now.cell 0 _ rfl
      have q_bS_1 := bS.now.cell 1 _ rfl
      have q_bS_2 := bS.now.cell 2 _ rfl
      have q_bS_3 := bS.now.cell 3 _ rfl
      have q_bS_4 := bS.now.cell 4 _ rfl
      have q_bS_5 := bS.now.cell 5 _ rfl
      have q_bS_6 := bS.now.cell 6 _ rfl
      have q_bS_7 := bS.now.cell 7 _ rfl
      have q_bS_8 := bS.now.cell 8 _ rfl
      have q_bS_9 := bS.now.cell 9 _ rfl
      have q_bS_l := bS.now.lt
      have q_bR_0 := bR.now.cell 0 _ rfl
      have q_bR_l := bR.now.lt
      go_wp2_with fail
      clear q_bS_0 q_bS_1 q_bS_2 q_bS_3 q_bS_4 q_bS_5 q_bS_6 q_bS_7 q_bS_8 q_bS_9 q_bS_l q_bR_0 q_bR_l
      obtain ⟨w9, e9⟩ : ∃ x, x = (u2.alloc (.cells #[.int .i64 (n : Int), .int .i64 S, .int .i64 L, .int .i64 T, .int .i64 H, .int .i64 F, .int .i64 R, .int .i64 U, .int .i64 O, .slice a5 A1.length c5] 35)).alloc (.cells #[] 75) := ⟨_, rfl⟩
      have hb9 : Below u2.heap.size u2 w9 := by rw [e9]; exact ((Below.refl _ _).alloc (Nat.le_refl _) _).alloc (by simp) _
      have hr9 : Row w9 u2.heap.size [.int .i64 (n : Int), .int .i64 S, .int .i64 L, .int .i64 T, .int .i64 H, .int .i64 F, .int .i64 R, .int .i64 U, .int .i64 O, .slice a5 A1.length c5] := by rw [e9]; exact (row_new u2 _ _).alloc _
      have ho9 : w9.ownsRow (u2.heap.size + 1) 75 3 (.slice (some ⟨u2.heap.size + 1, 0, none⟩) 0 0) 0 [] := by
        have := World.ownsRow_lit (u2.alloc (.cells #[.int .i64 (n : Int), .int .i64 S, .int .i64 L, .int .i64 T, .int .i64 H, .int .i64 F, .int .i64 R, .int .i64 U, .int .i64 O, .slice a5 A1.length c5] 35)) (base := u2.heap.size + 1) (e := 75) (size := 3) #[] 0 (by simp) (by simp) (by simp)
        rw [e9]; simpa using this
      rw [← e9]
      clear e9
      have HR9 := hid hr9
      have HO9 := hid ho9
      have HB9 := hid hb9
      clear hr9 ho9 hb9
      go_loopw [10, 11] (fun y i wr => ∃ k : Nat, k ≤ cut.length ∧ i = .int .i64 (k : Int) ∧ Row wr u2.heap.size [.int .i64 (n : Int), .int .i64 S, .int .i64 L, .int .i64 T, .int .i64 H, .int .i64 F, .int .i64 R, .int .i64 (U + (k : Int)), .int .i64 (O + (k : Int)), .slice a5 A1.length c5] ∧ wr.ownsRow (u2.heap.size + 1) 75 3 y k (opcells (putOps (q + U) (cut.take k))) ∧ Below u2.heap.size u2 wr) (fun _ i _ => cut.length - (intOf i).toNat)
      case atStart => exact ⟨0, Nat.zero_le _, rfl, by simpa using HR9.out, by simpa [putOps, opcells] using HO9.out, HB9.out⟩
      case round =>
        obtain ⟨k, hk, rfl, hrw, how, hbl⟩ := hrel
        have hsr := hrw.lt
        have hbz : u2.heap.size ≤ wr.heap.size := hbl.size
        obtain ⟨ya, yc, rfl⟩ : ∃ ya yc, u10 = Value.slice ya k yc := by
          rcases owns_forms how with ⟨e1, e2⟩ | ⟨g, cap, e1, _⟩
          · exact ⟨none, 0, by rw [e1, e2]⟩
          · exact ⟨_, cap, e1⟩
        have hkN : (k : Int) ≤ N := by omega
        by_cases hlt : k < cut.length
        · obtain ⟨g8, rfl, hr8⟩ := dC.now.resolve_left (by intro e; have := congrArg List.length e; simp at this; rw [this] at hlt; simp at hlt)
          have hg8 := hr8.lt
          have hck := hr8.cell k (.string (cut.getD k ByteArray.empty)) (by simp [hlt, List.getD])
          obtain ⟨pk, hpk⟩ : ∃ pk, pk = cut.getD k ByteArray.empty := ⟨_, rfl⟩
          rw [← hpk] at hck
          have hlt' : (k : Int) < (cut.length : Int) := by omega
          have hk0 : (0 : Int) ≤ (k : Int) := by omega
          have hx0 : IntKind.i64.wrap (q + (U + (k : Int))) = q + (U + (k : Int)) := by simp [IntKind.wrap, IntKind.bits, IntKind.signed]; omega
          have hx1 : IntKind.i64.wrap (U + (k : Int) + 1) = U + (k : Int) + 1 := by simp [IntKind.wrap, IntKind.bits, IntKind.signed]; omega
          have hx2 : IntKind.i64.wrap (O + (k : Int) + 1) = O + (k : Int) + 1 := by simp [IntKind.wrap, IntKind.bits, IntKind.signed]; omega
          have hu2w : w.heap.size < u2.heap.size := by omega
          have HK : Hid (∀ W, Below (u2.heap.size + 1) wr W → W.cell? ⟨w.heap.size, 1, none⟩ = some (.int .i64 S) ∧ W.cell? ⟨w.heap.size, 4, none⟩ = some (.int .i64 H) ∧ W.cell? ⟨u2.heap.size, 7, none⟩ = some (.int .i64 (U + (k : Int))) ∧ W.cell? ⟨g8, k, none⟩ = some (.string pk)) := fun W hb => ⟨(hb.cell (p := ⟨w.heap.size, 1, none⟩) (by show w.heap.size < _; omega)).trans ((hbl.cell (p := ⟨w.heap.size, 1, none⟩) hu2w).trans (bS.now.cell 1 _ rfl)), (hb.cell (p := ⟨w.heap.size, 4, none⟩) (by show w.heap.size < _; omega)).trans ((hbl.cell (p := ⟨w.heap.size, 4, none⟩) hu2w).trans (bS.now.cell 4 _ rfl)), (hb.cell (p := ⟨u2.heap.size, 7, none⟩) (by show u2.heap.size < _; omega)).trans (hrw.cell 7 _ rfl), (hb.cell (p := ⟨g8, k, none⟩) (by show g8 < _; omega)).trans ((hbl.cell (p := ⟨g8, k, none⟩) hg8).trans hck)⟩
          have HRW := hid hrw
          have HOW := hid how
          have HBL := hid hbl
          have HPK := hid hpk
          clear hrw how hbl hpk hck hr8
          go_wp2_with fail
          refine wp_region_held_drew (S := fun w' => w'.cell? ⟨w.heap.size, 1, none⟩ = some (.int .i64 S) ∧ w'.cell? ⟨w.heap.size, 4, none⟩ = some (.int .i64 H) ∧ w'.cell? ⟨u2.heap.size, 7, none⟩ = some (.int .i64 (U + (k : Int))) ∧ w'.cell? ⟨g8, k, none⟩ = some (.string pk)) (by kernel_rfl) (HK.out _ (Below.refl _ _).drew) (fun hHeld => ?_)
          refine wpAnyH_take (i := 0) (v := .slice ya k yc) rfl (by kernel_rfl) (by kernel_rfl) (by kernel_rfl) (fun _ _ _ h => h) (Or.inl ⟨by rfl, fun w hw => by obtain ⟨z0, z1, z2, z3⟩ := hw; go_simp⟩) hHeld ?_
          simp only [Act.put, List.getElem_toArray, List.getElem_cons_zero, List.getElem_cons_succ, List.setIfInBounds_toArray, List.set_cons_zero, List.set_cons_succ]
          refine wpAnyH_take (i := 1) (v := .pointer (some ⟨w.heap.size, 1, none⟩)) rfl (by kernel_rfl) (by kernel_rfl) (by kernel_rfl) (fun _ _ _ h => h) (Or.inl ⟨by rfl, fun w hw => by obtain ⟨z0, z1, z2, z3⟩ := hw; go_simp⟩) hHeld ?_
          simp only [Act.put, List.getElem_toArray, List.getElem_cons_zero, List.getElem_cons_succ, List.setIfInBounds_toArray, List.set_cons_zero, List.set_cons_succ]
          refine wpAnyH_take (i := 2) (v := .int .i64 S) rfl (by kernel_rfl) (by kernel_rfl) (by kernel_rfl) (fun _ _ _ h => h) (Or.inl ⟨by rfl, fun w hw => by obtain ⟨z0, z1, z2, z3⟩ := hw; go_simp⟩) hHeld ?_
          simp only [Act.put, List.getElem_toArray, List.getElem_cons_zero, List.getElem_cons_succ, List.setIfInBounds_toArray, List.set_cons_zero, List.set_cons_succ]
          refine wpAnyH_take (i := 3) (v := .pointer (some ⟨w.heap.size, 3, none⟩)) rfl (by kernel_rfl) (by kernel_rfl) (by kernel_rfl) (fun _ _ _ h => h) (Or.inl ⟨by rfl, fun w hw => by obtain ⟨z0, z1, z2, z3⟩ := hw; go_simp⟩) hHeld ?_
          simp only [Act.put, List.getElem_toArray, List.getElem_cons_zero, List.getElem_cons_succ, List.setIfInBounds_toArray, List.set_cons_zero, List.set_cons_succ]
          refine wpAnyH_take (i := 4) (v := .pointer (some ⟨w.heap.size, 4, none⟩)) rfl (by kernel_rfl) (by kernel_rfl) (by kernel_rfl) (fun _ _ _ h => h) (Or.inl ⟨by rfl, fun w hw => by obtain ⟨z0, z1, z2, z3⟩ := hw; go_simp⟩) hHeld ?_
          simp only [Act.put, List.getElem_toArray, List.getElem_cons_zero, List.getElem_cons_succ, List.setIfInBounds_toArray, List.set_cons_zero, List.set_cons_succ]
          refine wpAnyH_take (i := 5) (v := .int .i64 H) rfl (by kernel_rfl) (by kernel_rfl) (by kernel_rfl) (fun _ _ _ h => h) (Or.inl ⟨by rfl, fun w hw => by obtain ⟨z0, z1, z2, z3⟩ := hw; go_simp⟩) hHeld ?_
          simp only [Act.put, List.getElem_toArray, List.getElem_cons_zero, List.getElem_cons_succ, List.setIfInBounds_toArray, List.set_cons_zero, List.set_cons_succ]
          refine wpAnyH_take (i := 7) (v := .pointer (some ⟨u2.heap.size, 7, none⟩)) rfl (by kernel_rfl) (by kernel_rfl) (by kernel_rfl) (fun _ _ _ h => h) (Or.inl ⟨by rfl, fun w hw => by obtain ⟨z0, z1, z2, z3⟩ := hw; go_simp⟩) hHeld ?_
          simp only [Act.put, List.getElem_toArray, List.getElem_cons_zero, List.getElem_cons_succ, List.setIfInBounds_toArray, List.set_cons_zero, List.set_cons_succ]
          refine wpAnyH_take (i := 8) (v := .int .i64 (U + (k : Int))) rfl (by kernel_rfl) (by kernel_rfl) (by kernel_rfl) (fun _ _ _ h => h) (Or.inl ⟨by rfl, fun w hw => by obtain ⟨z0, z1, z2, z3⟩ := hw; go_simp⟩) hHeld ?_
          simp only [Act.put, List.getElem_toArray, List.getElem_cons_zero, List.getElem_cons_succ, List.setIfInBounds_toArray, List.set_cons_zero, List.set_cons_succ]
          refine wpAnyH_take (i := 10) (v := .slice (some ⟨g8, 0, none⟩) cut.length c8) rfl (by kernel_rfl) (by kernel_rfl) (by kernel_rfl) (fun _ _ _ h => h) (Or.inl ⟨by rfl, fun w hw => by obtain ⟨z0, z1, z2, z3⟩ := hw; go_simp⟩) hHeld ?_
          simp only [Act.put, List.getElem_toArray, List.getElem_cons_zero, List.getElem_cons_succ, List.setIfInBounds_toArray, List.set_cons_zero, List.set_cons_succ]
          refine wpAnyH_take (i := 11) (v := .int .i64 (k : Int)) rfl (by kernel_rfl) (by kernel_rfl) (by kernel_rfl) (fun _ _ _ h => h) (Or.inl ⟨by rfl, fun w hw => by obtain ⟨z0, z1, z2, z3⟩ := hw; go_simp⟩) hHeld ?_
          simp only [Act.put, List.getElem_toArray, List.getElem_cons_zero, List.getElem_cons_succ, List.setIfInBounds_toArray, List.set_cons_zero, List.set_cons_succ]
          refine wpAnyH_take (i := 12) (v := .pointer (some ⟨g8, k, none⟩)) rfl (by kernel_rfl) (by kernel_rfl) (by kernel_rfl) (fun _ _ _ h => h) (Or.inl ⟨by rfl, fun w hw => by obtain ⟨z0, z1, z2, z3⟩ := hw; go_simp⟩) hHeld ?_
          simp only [Act.put, List.getElem_toArray, List.getElem_cons_zero, List.getElem_cons_succ, List.setIfInBounds_toArray, List.set_cons_zero, List.set_cons_succ]
          refine wpAnyH_take (i := 13) (v := .string pk) rfl (by kernel_rfl) (by kernel_rfl) (by kernel_rfl) (fun _ _ _ h => h) (Or.inl ⟨by rfl, fun w hw => by obtain ⟨z0, z1, z2, z3⟩ := hw; go_simp⟩) hHeld ?_
          simp only [Act.put, List.getElem_toArray, List.getElem_cons_zero, List.getElem_cons_succ, List.setIfInBounds_toArray, List.set_cons_zero, List.set_cons_succ]
          refine wpAnyH_ready (rs := [6]) (by kernel_rfl) (by simp) ?_
          refine AllReadyH.cons rfl (fun K hK => ?_) AllReadyH.nil
          refine step_call (by rfl) 43 #[.int .i64 S, .int .i64 H] (by go_simp) (HB.out _) ?_
          rintro e wz ⟨rfl, rfl⟩
          refine ⟨_, rfl, ?_⟩
          refine hK.out _ _ hHeld (fun _ => ?_)
          clear hK K
          try simp only [Act.put, List.getElem_toArray, List.getElem_cons_zero, List.getElem_cons_succ, List.setIfInBounds_toArray, List.set_cons_zero, List.set_cons_succ]
          refine wpAnyH_take (i := 9) (v := .int .i64 (q + (U + (k : Int)))) rfl (by kernel_rfl) (by kernel_rfl) (by kernel_rfl) (fun _ _ _ h => h) (Or.inl ⟨by rfl, fun w hw => by obtain ⟨z0, z1, z2, z3⟩ := hw; go_simp⟩) hHeld ?_
          simp only [Act.put, List.getElem_toArray, List.getElem_cons_zero, List.getElem_cons_succ, List.setIfInBounds_toArray, List.set_cons_zero, List.set_cons_succ]
          refine wpAnyH_ready (rs := [14]) (by kernel_rfl) (by simp) ?_
          refine AllReadyH.cons rfl (fun K hK => ?_) AllReadyH.nil
          refine step_call (by rfl) 42 #[.int .i64 (q + (U + (k : Int))), .string pk] (by go_simp) (put_s _ _ _) ?_
          rintro e w4 ⟨rfl, hb4⟩
          refine ⟨_, rfl, ?_⟩
          have hb4' : Below wr.heap.size wr w4 := (Below.refl _ _).drew.trans hb4
          have HOA := hid ((owns_below HOW.out hb4').alloc (.cells #[.bool false, .int .i64 (q + (U + (k : Int))), .string pk] 75))
          have hs4 : u2.heap.size + 1 ≤ w4.heap.size := Nat.le_trans hsr hb4'.size
          refine hK.out _ _ (HK.out _ (hb4'.mono hsr)) (fun hHd2 => ?_)
          clear hK K
          try simp only [Act.put, List.getElem_toArray, List.getElem_cons_zero, List.getElem_cons_succ, List.setIfInBounds_toArray, List.set_cons_zero, List.set_cons_succ]
          refine wpAnyH_ready (rs := [15]) (by kernel_rfl) (by simp) ?_
          refine AllReadyH.cons rfl (fun K hK => ?_) AllReadyH.nil
          go_simp
          refine hK.out _ _ (HK.out _ ((hb4'.mono hsr).alloc hs4 _)) (fun hHd3 => ?_)
          clear hK K
          try simp only [Act.put, List.getElem_toArray, List.getElem_cons_zero, List.getElem_cons_succ, List.setIfInBounds_toArray, List.set_cons_zero, List.set_cons_succ]
          refine wpAnyH_ready (rs := [16]) (by kernel_rfl) (by simp) ?_
          refine AllReadyH.cons rfl (fun K hK => ?_) AllReadyH.nil
          refine step_append_lies _ (by rfl) _ _ _ (by rfl) (u2.heap.size + 1) 75 i0 (.agg #[.bool false, .int .i64 0, .string ByteArray.empty]) 3 32 Tryz.underlying36 HI.out.1 HI.out.2.1 HI.out.2.2.1 HI.out.2.2.2 rfl (by omega) (.slice ya k yc) k _ (by rfl) HOA.out ⟨w4.heap.size, 0, none⟩ 1 1 [.bool false, .int .i64 (q + (U + (k : Int))), .string pk] (by rfl) rfl (World.news_of_block (heap_alloc_new w4 _)) (oneOp _ _ _) (by omega) (by unfold maxLen; omega) (by omega) (by simp <;> omega) (w4.heap.size + 1) (by simp) ?_
          intro g9 cap9 w5 hown9 hgrow9 hat9 hlt9
          have hb5 : Below (u2.heap.size + 1) wr w5 := ((hb4'.mono hsr).alloc hs4 _).trans (below_of_grown hgrow9 (by simp; omega) (fun j hj => (HOW.out.lt j hj).1))
          have HO5 := hid hown9
          have HB5 := hid hb5
          have hr5 := HRW.out.below2 (N := u2.heap.size + 1) (by omega) hb5
          have HR5 := hid hr5
          have q57 := hr5.cell 7 _ rfl
          have q58 := hr5.cell 8 _ rfl
          have f57 := hr5.froz 7 (by simp)
          have f58 := hr5.froz 8 (by simp)
          have l5 := hr5.lt
          clear hown9 hgrow9 hat9 hr5
          refine hK.out _ _ (HK.out _ hb5) (fun hHd4 => ?_)
          clear hK K
          try simp only [Act.put, List.getElem_toArray, List.getElem_cons_zero, List.getElem_cons_succ, List.setIfInBounds_toArray, List.set_cons_zero, List.set_cons_succ]
          refine wpAnyH_ready (rs := [17]) (by kernel_rfl) (by simp) ?_
          refine AllReadyH.cons rfl (fun K hK => ?_) AllReadyH.nil
          go_simp
          refine hK.out _ _ hHd4 (fun _ => ?_)
          clear hK K
          try simp only [Act.put, List.getElem_toArray, List.getElem_cons_zero, List.getElem_cons_succ, List.setIfInBounds_toArray, List.set_cons_zero, List.set_cons_succ]
          refine wpAnyH_done (by kernel_rfl) ?_ _
          clear hb5
          go_wp2_with fail
          have hsn : putOps (q + U) (cut.take (k + 1)) = putOps (q + U) (cut.take k) ++ [(false, q + U + (k : Int), pk)] := by rw [takeR_snoc cut k ByteArray.empty hlt, putOps_snoc, ← HPK.out, List.length_take, show min k cut.length = k by omega]
          refine ⟨⟨k + 1, by omega, by go_num, ?_, ?_, ?_⟩, by simp [intOf]; omega⟩
          · have := (HR5.out.set 7 (by simp) (.int .i64 (U + (k : Int) + 1))).set 8 (by simp) (.int .i64 (O + (k : Int) + 1))
            simp only [List.set_cons_zero, List.set_cons_succ] at this
            have e1 : U + ((k + 1 : Nat) : Int) = U + (k : Int) + 1 := by omega
            have e2 : O + ((k + 1 : Nat) : Int) = O + (k : Int) + 1 := by omega
            rw [e1, e2]; exact this
          · rw [hsn, opcells_append]
            have := owns_span HO5.out (w' := (w5.setCell ⟨u2.heap.size, 7, none⟩ (.int .i64 (U + (k : Int) + 1))).setCell ⟨u2.heap.size, 8, none⟩ (.int .i64 (O + (k : Int) + 1))) (fun b h1 h2 => by rw [Below.heap_setCell _ _ _ b (by show b ≠ u2.heap.size; omega), Below.heap_setCell _ _ _ b (by show b ≠ u2.heap.size; omega)])
            have e3 : q + U + (k : Int) = q + (U + (k : Int)) := by omega
            rw [e3]; exact this
          · exact ((HBL.out.trans (HB5.out.mono (by omega))).setCell (p := ⟨u2.heap.size, 7, none⟩) (Nat.le_refl _) _).setCell (p := ⟨u2.heap.size, 8, none⟩) (Nat.le_refl _) _
        · have hkl : k = cut.length := by omega
          subst hkl
          have hrD := row_same (bD.now) (hbl.block (w.heap.size + 1) (by omega)) (by omega)
          have q_bD_0 := hrD.cell 0 _ rfl
          have f_bD_0 := hrD.froz 0 (by simp)
          have q_bD_1 := hrD.cell 1 _ rfl
          have f_bD_1 := hrD.froz 1 (by simp)
          have q_bD_2 := hrD.cell 2 _ rfl
          have f_bD_2 := hrD.froz 2 (by simp)
          have q_bD_3 := hrD.cell 3 _ rfl
          have f_bD_3 := hrD.froz 3 (by simp)
          have q_bD_4 := hrD.cell 4 _ rfl
          have f_bD_4 := hrD.froz 4 (by simp)
          have q_bD_5 := hrD.cell 5 _ rfl
          have f_bD_5 := hrD.froz 5 (by simp)
          have q_bD_6 := hrD.cell 6 _ rfl
          have f_bD_6 := hrD.froz 6 (by simp)
          have q_bD_7 := hrD.cell 7 _ rfl
          have f_bD_7 := hrD.froz 7 (by simp)
          have q_bD_8 := hrD.cell 8 _ rfl
          have f_bD_8 := hrD.froz 8 (by simp)
          have q_bD_9 := hrD.cell 9 _ rfl
          have f_bD_9 := hrD.froz 9 (by simp)
          have q_bD_10 := hrD.cell 10 _ rfl
          have f_bD_10 := hrD.froz 10 (by simp)
          have q_bD_11 := hrD.cell 11 _ rfl
          have f_bD_11 := hrD.froz 11 (by simp)
          have o_0 := hrw.cell 0 _ rfl
          have o_1 := hrw.cell 1 _ rfl
          have o_2 := hrw.cell 2 _ rfl
          have o_3 := hrw.cell 3 _ rfl
          have o_4 := hrw.cell 4 _ rfl
          have o_5 := hrw.cell 5 _ rfl
          have o_6 := hrw.cell 6 _ rfl
          have o_7 := hrw.cell 7 _ rfl
          have o_8 := hrw.cell 8 _ rfl
          have o_9 := hrw.cell 9 _ rfl
          have hlD := hrD.lt
          have hdA := (dA.below hbl).now
          have HBL := hid hbl
          have HOW := hid how
          have HDA := hid hdA
          clear hrD hrw how hbl hdA
          go_wp2_with fail
          rw [List.take_length] at HOW
          rw [show D = (⟨0, (n : Int), S, L, T, H, F, R, U + N, O + N, A1, putOps (q + U) cut⟩ : Dd) by rw [HD.out, if_pos trivial, if_pos hr, if_pos hp], ← hcl']
          have hyc : ∀ g, blk ya cut.length = some g → u2.heap.size + 1 ≤ g := fun g hg => by
            unfold blk at hg
            split at hg
            · cases hg
            · cases ya with
              | none => cases hg
              | some ad => simp at hg; subst hg; exact (HOW.out.lt ad.block rfl).1
          have hof : OwnS wr ya (opcells (putOps (q + U) cut)) := by
            rcases owns_forms HOW.out with ⟨_, e2⟩ | ⟨g, cap, e1, _, _, e4⟩
            · exact .inl (by rw [List.eq_nil_of_length_eq_zero e2]; rfl)
            · cases e1; exact .inr ⟨g, rfl, e4⟩
          have hpl : (putOps (q + U) cut).length = cut.length := putOps_length _ _
          refine bodyPost_ret (v := dnV ⟨0, (n : Int), S, L, T, H, F, R, U + (cut.length : Int), O + (cut.length : Int), A1, putOps (q + U) cut⟩ a5 c5 ya yc) (by simp [results, Tryz.results15, go_sem, dnV, putOps_length, q_bD_0, q_bD_1, q_bD_2, q_bD_3, q_bD_4, q_bD_5, q_bD_6, q_bD_7, q_bD_8, q_bD_9, q_bD_10, q_bD_11]) rfl ⟨a5, c5, ya, yc, rfl, hc5, ⟨?_, ?_, ?_⟩, ?_, ?_, ?_⟩
          · iterate 12 (refine OwnS.set' ?_ _ (fun g hg hne => by have := lo5 g (by subst hg; exact blk_pos _ _ _ (ne_of_prcells hne)); show w.heap.size + 1 ≠ g; omega) _)
            exact HDA.out
          · iterate 12 (refine OwnS.set' ?_ _ (fun g hg hne => by have := hyc g (by subst hg; exact blk_pos _ _ _ (by have := ne_of_opcells hne; rwa [hpl] at this)); show w.heap.size + 1 ≠ g; omega) _)
            exact hof
          · show Apart _ _ _ (putOps (q + U) cut).length
            rw [hpl]
            cases hb1 : blk a5 A1.length with
            | none => exact .inl hb1
            | some g =>
              cases hb2 : blk ya cut.length with
              | none => exact .inr (.inl hb2)
              | some g' =>
                have h1 := lo5 g hb1
                have h2 := hyc g' hb2
                refine .inr (.inr fun e => ?_)
                rw [hb1, hb2] at e
                cases e
                omega
          · exact fun g hg => by have := lo5 g hg; omega
          · exact fun g hg => by change blk _ (putOps (q + U) cut).length = _ at hg; rw [hpl] at hg; have := hyc g hg; omega
          · iterate 12 (refine Below.setCell ?_ (by show w.heap.size ≤ w.heap.size + 1; omega) _)
            exact hE.trans (HBL.out.mono hE.size)
end Go.Proofs.YtnmaknnnmjfhkafGreat

namespace Go.Proofs.YtnmaknnnmjfhkafGreat
open Go.RowKit Go.Lib
set_option linter.unusedVariables false
set_option linter.unusedSimpArgs false
set_option maxRecDepth 8000

/-- 'copy(d, s)' of elements of k cells into a row. -/
theorem run_copy_k {P : Program} (w : World) (dT sT ty elem : TypeId) (k g o dLen dCap : Nat) (a : Addr) (sLen sCap : Nat) (cur : Array Value) (t : TypeId) (cs : List Value) (n : Nat)
    (hu : P.underlying dT = some (.slice elem)) (hs : (P.info? elem).map (·.size) = some k)
    (hg : w.heap[g]? = some (.cells cur t (0, 0))) (hn : Nat.min sLen dLen = n) (hc : cs.length = n * k)
    (hsrc : ∀ j v, cs[j]? = some v → w.cell? (a.add j) = some v) (hfit : o + cs.length ≤ cur.size) (h1 : ∀ v ∈ cs, v.oneCell' = true) :
    (Builtin.copy_ #[dT, sT] ty #[.slice (some ⟨g, o, none⟩) dLen dCap, .slice (some a) sLen sCap]).run P w =
      .ok (goInt n) (w.setRow g (cur.toList.take o ++ cs ++ cur.toList.drop (o + cs.length)).toArray) := by
  have hl := run_loadCells_list (P := P) w a cs hsrc
  have hst := run_storeCells_at P g o t cs 0 cur w hg (by simpa using hfit) h1
  cases hq : P.info? elem with
  | none => simp [hq] at hs
  | some i =>
    have hi : i.size = k := by simpa [hq] using hs
    simp only [Nat.add_zero] at hst
    rw [hc] at hl
    simp [Builtin.copy_, run_underlying hu, Builtin.lenOf, Builtin.firstCells, sizeOf, typeInfo, hq, hi, hn, hl, hst]
/-- 'append(s, x...)' of elements of k cells where there is room. -/
theorem run_append_in {P : Program} (w : World) (t ty e : TypeId) (k g sLen sCap : Nat) (a : Addr) (n c : Nat) (cur : Array Value) (tt : TypeId) (cs : List Value)
    (ht : P.underlying t = some (.slice e)) (hs : (P.info? e).map (·.size) = some k)
    (hg : w.heap[g]? = some (.cells cur tt (0, 0))) (hroom : sLen + n ≤ sCap) (hc : cs.length = n * k)
    (hsrc : ∀ j v, cs[j]? = some v → w.cell? (a.add j) = some v) (hfit : sLen * k + cs.length ≤ cur.size) (h1 : ∀ v ∈ cs, v.oneCell' = true) :
    (Builtin.append_ #[t, t] ty #[.slice (some ⟨g, 0, none⟩) sLen sCap, .slice (some a) n c]).run P w =
      .ok (.slice (some ⟨g, 0, none⟩) (sLen + n) sCap) (w.setRow g (cur.toList.take (sLen * k) ++ cs ++ cur.toList.drop (sLen * k + cs.length)).toArray) := by
  have hl := run_loadCells_list (P := P) w a cs hsrc
  have hst := run_storeCells_at P g (sLen * k) tt cs 0 cur w hg (by simpa using hfit) h1
  have hadd : (⟨g, 0, none⟩ : Addr).add (sLen * k) = ⟨g, sLen * k, none⟩ := by rw [Addr.add_lit]; simp
  cases hq : P.info? e with
  | none => simp [hq] at hs
  | some i =>
    have hi : i.size = k := by simpa [hq] using hs
    simp only [Nat.add_zero] at hst
    rw [hc] at hl
    simp [Builtin.append_, run_underlying ht, Builtin.lenOf, Builtin.firstCells, sizeOf, typeInfo, hq, hi, hl, hst, hroom, hadd]
theorem run_clear_k {P : Program} (w : World) (t ty e : TypeId) (z : Value) (ht : P.underlying t = some (.slice e)) (hv : ∀ w, (zeroValue e).run P w = .ok z w) (g o n c : Nat) (hn : 0 < n) (cur : Array Value) (tt : TypeId) (cs : List Value)
    (hg : w.heap[g]? = some (.cells cur tt (0, 0))) (hcs : (Builtin.zeroCells z.cells n).toList = cs) (hfit : o + cs.length ≤ cur.size) (h1 : ∀ v ∈ cs, v.oneCell' = true) :
    (Builtin.clear_ #[t] ty #[.slice (some ⟨g, o, none⟩) n c]).run P w = .ok (.tuple #[]) (w.setRow g (cur.toList.take o ++ cs ++ cur.toList.drop (o + cs.length)).toArray) := by
  have hst := run_storeCells_at P g o tt cs 0 cur w hg (by simpa using hfit) h1
  simp only [Nat.add_zero] at hst
  obtain ⟨m, rfl⟩ : ∃ m, n = m + 1 := ⟨n - 1, by omega⟩
  simp [Builtin.clear_, run_underlying ht, hv, hcs, hst]
theorem setRow_grown (w : World) (g : Nat) (cs : Array Value) : w.grownBy (w.setRow g cs) (some g) := ⟨rfl, rfl, rfl, by simp [World.setRow], fun k _ hk => setRow_other w g k cs (fun e => hk (by rw [e]))⟩
theorem grown_trans' {w w1 w2 : World} {r : Option Nat} (h : w.grownBy w1 r) (k : w1.grownBy w2 r) : w.grownBy w2 r :=
  ⟨k.os.trans h.os, k.tape.trans h.tape, k.output.trans h.output, Nat.le_trans h.size k.size, fun j hj hne => (k.block j (Nat.lt_of_lt_of_le hj h.size) hne).trans (h.block j hj hne)⟩
theorem cell_of_row {w : World} {g : Nat} {cur : List Value} {t : TypeId} {fr : Nat × Nat} (h : w.heap[g]? = some (.cells cur.toArray t fr)) {j : Nat} {v : Value} (hv : cur[j]? = some v) : w.cell? ⟨g, j, none⟩ = some v := by
  simp [World.cell?, h, hv]
/-- 'append' as one step of a region that draws, by its run. -/
theorem step_append_run {P : Program} {ops : Array Oper} {o : Oper} {a : Act} {w : World} {K : Act → World → Prop} {Q : Exit → Act → World → Prop} {E : Prop}
    (hg : o.guard = none) (d x : Operand) (dT sT : TypeId) (hop : o.op = Op.call { callee := Callee.builtin Builtin.append, args := #[d, x], argTypes := #[dT, sT] })
    (v u : Value) (hd : a.eval d = v) (hx : a.eval x = u) {v' : Value} {w' : World} (hr : (Builtin.append_ #[dT, sT] o.type #[v, u]).run P w = .ok v' w') (hK : K (a.put o.dst v') w') :
    if Region.wanted o (yielded ops a.tmps) = true then Oper.wp P o a w K Q else E := by
  have hw : Region.wanted o (yielded ops a.tmps) = true := by simp [Region.wanted, hg]
  rw [if_pos hw]
  unfold Oper.wp
  simp [execOp, hop, resolve, invoke, builtin, hd, hx, hr, Result.andThen]
  exact hK
end Go.Proofs.YtnmaknnnmjfhkafGreat

namespace Go.Proofs.YtnmaknnnmjfhkafGreat
open Go.RowKit Go.Lib
set_option linter.unusedVariables false
set_option linter.unusedSimpArgs false
set_option maxRecDepth 8000

theorem szPrD : (Tryz.prog.info? 127).map (·.size) = some 2 := by kernel_rfl
theorem zvPrD (w : World) : (zeroValue 127).run Tryz.prog w = .ok (.agg #[.string ByteArray.empty, .string ByteArray.empty]) w := by kernel_rfl
/-- What is left in a row of which a pair was taken away. -/
def delRow (cur : List Value) (n p : Nat) : List Value := cur.take (p * 2) ++ (cur.drop (p * 2 + 2)).take ((n - p - 1) * 2) ++ [.string ByteArray.empty, .string ByteArray.empty] ++ cur.drop (n * 2)
theorem del_eq (cur : List Value) (n p : Nat) (hl : n * 2 ≤ cur.length) (hp : p < n) (cs c1 : List Value) (hcs : cs = (cur.drop (p * 2 + 2)).take ((n - p - 1) * 2)) (hc1 : c1 = cur.take (p * 2) ++ cs ++ cur.drop (p * 2 + cs.length)) :
    cs.length = (n - p - 1) * 2 ∧ c1.length = cur.length ∧ c1.take ((n - 1) * 2) ++ [.string ByteArray.empty, .string ByteArray.empty] ++ c1.drop ((n - 1) * 2 + 2) = delRow cur n p := by
  have e1 : cs.length = (n - p - 1) * 2 := by rw [hcs, List.length_take, List.length_drop]; omega
  have e2 : (cur.take (p * 2) ++ cs).length = (n - 1) * 2 := by rw [List.length_append, List.length_take, e1]; omega
  refine ⟨e1, by rw [hc1, List.length_append, e2, List.length_drop, e1]; omega, ?_⟩
  unfold delRow
  rw [← hcs, hc1, List.take_left' e2, List.drop_append, List.drop_of_length_le (by rw [e2]; omega), e2, List.nil_append, List.drop_drop, e1]
  congr 2
  omega
set_option maxHeartbeats 4000000 in
theorem delete_i (g n cap p : Nat) (cur : List Value) (w : World) (hg : w.heap[g]? = some (.cells cur.toArray 127 (0, 0))) (hl : cur.length = cap * 2) (hn : n ≤ cap) (hc : n ≤ 100000) (hp : p < n) (h1 : ∀ v ∈ cur.take (n * 2), v.oneCell' = true) :
    Calls Tryz.prog 138 #[.slice (some ⟨g, 0, none⟩) n cap, .int .i64 (p : Int), .int .i64 ((p : Int) + 1)] w fun e w' => e = .returned (.slice (some ⟨g, 0, none⟩) (n - 1) cap) ∧ w.grownBy w' (some g) ∧
      w'.heap[g]? = some (.cells (delRow cur n p).toArray 127 (0, 0)) := by
  have hz1 : ¬ ((p : Int) = (p : Int) + 1) := by omega
  have hb1 : (p : Int) ≤ (p : Int) + 1 := by omega
  have hb2 : (p : Int) + 1 ≤ (n : Int) := by omega
  have hb0 : (0 : Int) ≤ (p : Int) := by omega
  have hb3 : (0 : Int) ≤ (p : Int) + 1 := by omega
  have hb4 : (n : Int) ≤ (cap : Int) := by omega
  have hb5 : (p : Int) ≤ (cap : Int) := by omega
  have htn : ((p : Int) + 1).toNat = p + 1 := by omega
  have hpn : p + (n - (p + 1)) = n - 1 := by omega
  obtain ⟨cs, hcs⟩ : ∃ cs, cs = (cur.drop (p * 2 + 2)).take ((n - p - 1) * 2) := ⟨_, rfl⟩
  obtain ⟨c1, hc1⟩ : ∃ c1, c1 = cur.take (p * 2) ++ cs ++ cur.drop (p * 2 + cs.length) := ⟨_, rfl⟩
  obtain ⟨e1, e2, e3⟩ := del_eq cur n p (by omega) hp cs c1 hcs hc1
  have hcs1 : ∀ v ∈ cs, v.oneCell' = true := fun v hv => h1 v (by rw [hcs, show (n - p - 1) * 2 = n * 2 - (p * 2 + 2) by omega, ← List.drop_take] at hv; exact List.mem_of_mem_drop hv)
  have hcell : ∀ (D : Addr), (D = ⟨g, (p + 1) * 2, none⟩ ∨ cs = []) → ∀ j v, cs[j]? = some v → w.drew.cell? (D.add j) = some v := fun D hD j v hj => by
    rcases hD with rfl | h0
    · rw [Addr.add_lit]
      refine cell_of_row (w := w.drew) (cur := cur) hg ?_
      rw [hcs, List.getElem?_take] at hj
      split at hj
      · rw [List.getElem?_drop] at hj
        rw [← hj]; congr 1; omega
      · cases hj
    · rw [h0] at hj; cases hj
  have HAP : Hid (∀ D c ty, (D = ⟨g, (p + 1) * 2, none⟩ ∨ cs = []) → (Builtin.append_ #[31, 31] ty #[.slice (some ⟨g, 0, none⟩) p cap, .slice (some D) (n - (p + 1)) c]).run Tryz.prog w.drew = .ok (.slice (some ⟨g, 0, none⟩) (n - 1) cap) (w.drew.setRow g c1.toArray)) := fun D c ty hD => by
    have := run_append_in (P := Tryz.prog) w.drew 31 ty 127 2 g p cap D (n - (p + 1)) c cur.toArray 127 cs Tryz.underlying31 szPrD hg (by omega) (by rw [e1]; omega) (hcell D hD) (by rw [e1]; simp; omega) hcs1
    rw [hpn] at this
    rw [this, hc1]
  have HCL : Hid (∀ c ty, (Builtin.clear_ #[31] ty #[.slice (some ⟨g, (n - 1) * 2, none⟩) (n - (n - 1)) c]).run Tryz.prog (w.drew.setRow g c1.toArray) = .ok (.tuple #[]) ((w.drew.setRow g c1.toArray).setRow g (delRow cur n p).toArray)) := fun c ty => by
    rw [show n - (n - 1) = 1 by omega]
    have := run_clear_k (P := Tryz.prog) (w.drew.setRow g c1.toArray) 31 ty 127 _ Tryz.underlying31 zvPrD g ((n - 1) * 2) 1 c (by omega) c1.toArray 127 [.string ByteArray.empty, .string ByteArray.empty] (setRow_heap w.drew g cur.toArray c1.toArray 127 (0, 0) hg) (by kernel_rfl) (by simp; omega) (onePr _ _)
    rw [this, ← e3]
    simp
  have hcz0 : cap = p + 1 → cs = [] := fun h => List.eq_nil_of_length_eq_zero (by rw [e1]; omega)
  have HCZ := hid hcz0
  have HG := hid hg
  clear hcz0 hcell hcs hc1 e1 e2 e3 hcs1 h1 hg
  go_enter Tryz.func138, Tryz.ntmps138
  by_cases hcp : cap = p + 1
  case pos =>
    have hD : (⟨g, 0, none⟩ : Addr) = ⟨g, (p + 1) * 2, none⟩ ∨ cs = [] := .inr (HCZ.out hcp)
    go_wp2_with fail
    refine wp_region_held_drew (S := fun w' => True) (by kernel_rfl) (trivial) (fun hHeld => ?_)
    refine wpAnyH_take (i := 0) (v := .slice (some ⟨g, 0, none⟩) n cap) rfl (by kernel_rfl) (by kernel_rfl) (by kernel_rfl) (fun _ _ _ h => h) (Or.inl ⟨by rfl, fun w hw => by obtain z0 := hw; go_simp⟩) hHeld ?_
    simp only [Act.put, List.getElem_toArray, List.getElem_cons_zero, List.getElem_cons_succ, List.setIfInBounds_toArray, List.set_cons_zero, List.set_cons_succ]
    refine wpAnyH_take (i := 1) (v := .int .i64 (p : Int)) rfl (by kernel_rfl) (by kernel_rfl) (by kernel_rfl) (fun _ _ _ h => h) (Or.inl ⟨by rfl, fun w hw => by obtain z0 := hw; go_simp⟩) hHeld ?_
    simp only [Act.put, List.getElem_toArray, List.getElem_cons_zero, List.getElem_cons_succ, List.setIfInBounds_toArray, List.set_cons_zero, List.set_cons_succ]
    refine wpAnyH_take (i := 2) (v := .slice (some ⟨g, 0, none⟩) p cap) rfl (by kernel_rfl) (by kernel_rfl) (by kernel_rfl) (fun _ _ _ h => h) (Or.inl ⟨by rfl, fun w hw => by obtain z0 := hw; go_simp⟩) hHeld ?_
    simp only [Act.put, List.getElem_toArray, List.getElem_cons_zero, List.getElem_cons_succ, List.setIfInBounds_toArray, List.set_cons_zero, List.set_cons_succ]
    refine wpAnyH_take (i := 3) (v := .slice (some ⟨g, 0, none⟩) n cap) rfl (by kernel_rfl) (by kernel_rfl) (by kernel_rfl) (fun _ _ _ h => h) (Or.inl ⟨by rfl, fun w hw => by obtain z0 := hw; go_simp⟩) hHeld ?_
    simp only [Act.put, List.getElem_toArray, List.getElem_cons_zero, List.getElem_cons_succ, List.setIfInBounds_toArray, List.set_cons_zero, List.set_cons_succ]
    refine wpAnyH_take (i := 4) (v := .int .i64 ((p : Int) + 1)) rfl (by kernel_rfl) (by kernel_rfl) (by kernel_rfl) (fun _ _ _ h => h) (Or.inl ⟨by rfl, fun w hw => by obtain z0 := hw; go_simp⟩) hHeld ?_
    simp only [Act.put, List.getElem_toArray, List.getElem_cons_zero, List.getElem_cons_succ, List.setIfInBounds_toArray, List.set_cons_zero, List.set_cons_succ]
    refine wpAnyH_take (i := 5) (v := .slice (some ⟨g, 0, none⟩) (n - (p + 1)) (cap - (p + 1))) rfl (by kernel_rfl) (by kernel_rfl) (by kernel_rfl) (fun _ _ _ h => h) (Or.inl ⟨by rfl, fun w hw => by obtain z0 := hw; go_simp⟩) hHeld ?_
    simp only [Act.put, List.getElem_toArray, List.getElem_cons_zero, List.getElem_cons_succ, List.setIfInBounds_toArray, List.set_cons_zero, List.set_cons_succ]
    refine wpAnyH_ready (rs := [6]) (by kernel_rfl) (by simp) ?_
    refine AllReadyH.cons rfl (fun K hK => ?_) AllReadyH.nil
    refine step_append_run rfl _ _ 31 31 rfl (.slice (some ⟨g, 0, none⟩) p cap) (.slice (some ⟨g, 0, none⟩) (n - (p + 1)) (cap - (p + 1))) (by simp [Act.eval, Act.put]) (by simp [Act.eval, Act.put]) (HAP.out _ _ _ hD) ?_
    refine hK.out _ _ (trivial) (fun hHd1 => ?_)
    clear hK K
    try simp only [Act.put, List.getElem_toArray, List.getElem_cons_zero, List.getElem_cons_succ, List.setIfInBounds_toArray, List.set_cons_zero, List.set_cons_succ]
    refine wpAnyH_ready (rs := [7]) (by kernel_rfl) (by simp) ?_
    refine AllReadyH.cons rfl (fun K hK => ?_) AllReadyH.nil
    go_simp
    refine hK.out _ _ hHd1 (fun _ => ?_)
    clear hK K
    try simp only [Act.put, List.getElem_toArray, List.getElem_cons_zero, List.getElem_cons_succ, List.setIfInBounds_toArray, List.set_cons_zero, List.set_cons_succ]
    refine wpAnyH_done (by kernel_rfl) ?_ _
    have hcl := HCL.out
    go_wp2_with fail
    go_ret
    exact ⟨by first | rfl | (rw [hcp]; rfl), grown_trans' (undrewG (setRow_grown w.drew g _)) (setRow_grown _ g _), setRow_heap _ g _ _ 127 (0, 0) (setRow_heap w.drew g cur.toArray c1.toArray 127 (0, 0) HG.out)⟩
  case neg =>
    go_wp2_with fail
    refine wp_region_held_drew (S := fun w' => True) (by kernel_rfl) (trivial) (fun hHeld => ?_)
    refine wpAnyH_take (i := 0) (v := .slice (some ⟨g, 0, none⟩) n cap) rfl (by kernel_rfl) (by kernel_rfl) (by kernel_rfl) (fun _ _ _ h => h) (Or.inl ⟨by rfl, fun w hw => by obtain z0 := hw; go_simp⟩) hHeld ?_
    simp only [Act.put, List.getElem_toArray, List.getElem_cons_zero, List.getElem_cons_succ, List.setIfInBounds_toArray, List.set_cons_zero, List.set_cons_succ]
    refine wpAnyH_take (i := 1) (v := .int .i64 (p : Int)) rfl (by kernel_rfl) (by kernel_rfl) (by kernel_rfl) (fun _ _ _ h => h) (Or.inl ⟨by rfl, fun w hw => by obtain z0 := hw; go_simp⟩) hHeld ?_
    simp only [Act.put, List.getElem_toArray, List.getElem_cons_zero, List.getElem_cons_succ, List.setIfInBounds_toArray, List.set_cons_zero, List.set_cons_succ]
    refine wpAnyH_take (i := 2) (v := .slice (some ⟨g, 0, none⟩) p cap) rfl (by kernel_rfl) (by kernel_rfl) (by kernel_rfl) (fun _ _ _ h => h) (Or.inl ⟨by rfl, fun w hw => by obtain z0 := hw; go_simp⟩) hHeld ?_
    simp only [Act.put, List.getElem_toArray, List.getElem_cons_zero, List.getElem_cons_succ, List.setIfInBounds_toArray, List.set_cons_zero, List.set_cons_succ]
    refine wpAnyH_take (i := 3) (v := .slice (some ⟨g, 0, none⟩) n cap) rfl (by kernel_rfl) (by kernel_rfl) (by kernel_rfl) (fun _ _ _ h => h) (Or.inl ⟨by rfl, fun w hw => by obtain z0 := hw; go_simp⟩) hHeld ?_
    simp only [Act.put, List.getElem_toArray, List.getElem_cons_zero, List.getElem_cons_succ, List.setIfInBounds_toArray, List.set_cons_zero, List.set_cons_succ]
    refine wpAnyH_take (i := 4) (v := .int .i64 ((p : Int) + 1)) rfl (by kernel_rfl) (by kernel_rfl) (by kernel_rfl) (fun _ _ _ h => h) (Or.inl ⟨by rfl, fun w hw => by obtain z0 := hw; go_simp⟩) hHeld ?_
    simp only [Act.put, List.getElem_toArray, List.getElem_cons_zero, List.getElem_cons_succ, List.setIfInBounds_toArray, List.set_cons_zero, List.set_cons_succ]
    refine wpAnyH_take (i := 5) (v := .slice (some ⟨g, (p + 1) * 2, none⟩) (n - (p + 1)) (cap - (p + 1))) rfl (by kernel_rfl) (by kernel_rfl) (by kernel_rfl) (fun _ _ _ h => h) (Or.inl ⟨by rfl, fun w hw => by obtain z0 := hw; go_simp⟩) hHeld ?_
    simp only [Act.put, List.getElem_toArray, List.getElem_cons_zero, List.getElem_cons_succ, List.setIfInBounds_toArray, List.set_cons_zero, List.set_cons_succ]
    refine wpAnyH_ready (rs := [6]) (by kernel_rfl) (by simp) ?_
    refine AllReadyH.cons rfl (fun K hK => ?_) AllReadyH.nil
    refine step_append_run rfl _ _ 31 31 rfl (.slice (some ⟨g, 0, none⟩) p cap) (.slice (some ⟨g, (p + 1) * 2, none⟩) (n - (p + 1)) (cap - (p + 1))) (by simp [Act.eval, Act.put]) (by simp [Act.eval, Act.put]) (HAP.out _ _ _ (.inl rfl)) ?_
    refine hK.out _ _ (trivial) (fun hHd1 => ?_)
    clear hK K
    try simp only [Act.put, List.getElem_toArray, List.getElem_cons_zero, List.getElem_cons_succ, List.setIfInBounds_toArray, List.set_cons_zero, List.set_cons_succ]
    refine wpAnyH_ready (rs := [7]) (by kernel_rfl) (by simp) ?_
    refine AllReadyH.cons rfl (fun K hK => ?_) AllReadyH.nil
    go_simp
    refine hK.out _ _ hHd1 (fun _ => ?_)
    clear hK K
    try simp only [Act.put, List.getElem_toArray, List.getElem_cons_zero, List.getElem_cons_succ, List.setIfInBounds_toArray, List.set_cons_zero, List.set_cons_succ]
    refine wpAnyH_done (by kernel_rfl) ?_ _
    have hcl := HCL.out
    go_wp2_with fail
    go_ret
    exact ⟨by first | rfl | (rw [hcp]; rfl), grown_trans' (undrewG (setRow_grown w.drew g _)) (setRow_grown _ g _), setRow_heap _ g _ _ 127 (0, 0) (setRow_heap w.drew g cur.toArray c1.toArray 127 (0, 0) HG.out)⟩
end Go.Proofs.YtnmaknnnmjfhkafGreat

namespace Go.Proofs.YtnmaknnnmjfhkafGreat
open Go.RowKit Go.Lib
set_option linter.unusedVariables false
set_option linter.unusedSimpArgs false
set_option maxRecDepth 8000

/-- A row into which a pair was put. -/
def insRow (cur : List Value) (n p : Nat) (s0 s1 : ByteArray) : List Value := cur.take (p * 2) ++ [.string s0, .string s1] ++ (cur.drop (p * 2)).take ((n - p) * 2) ++ cur.drop (n * 2 + 2)
theorem ins_eq (cur : List Value) (n p : Nat) (s0 s1 : ByteArray) (hl : n * 2 + 2 ≤ cur.length) (hp : p < n) (cs c1 : List Value) (hcs : cs = (cur.drop (p * 2)).take ((n - p) * 2)) (hc1 : c1 = cur.take ((p + 1) * 2) ++ cs ++ cur.drop ((p + 1) * 2 + cs.length)) :
    cs.length = (n - p) * 2 ∧ c1.length = cur.length ∧ c1.take (p * 2) ++ [.string s0, .string s1] ++ c1.drop (p * 2 + 2) = insRow cur n p s0 s1 := by
  have e1 : cs.length = (n - p) * 2 := by rw [hcs, List.length_take, List.length_drop]; omega
  have e0 : (cur.take ((p + 1) * 2)).length = (p + 1) * 2 := by rw [List.length_take]; omega
  refine ⟨e1, by rw [hc1, List.length_append, List.length_append, e0, List.length_drop, e1]; omega, ?_⟩
  unfold insRow
  rw [← hcs, hc1, List.append_assoc (cur.take ((p + 1) * 2)), List.take_append_of_le_length (by rw [e0]; omega), List.take_take, show min (p * 2) ((p + 1) * 2) = p * 2 by omega]
  rw [show p * 2 + 2 = (p + 1) * 2 by omega, List.drop_left' e0, e1]
  rw [show (p + 1) * 2 + (n - p) * 2 = n * 2 + 2 by omega]
  simp
set_option maxHeartbeats 4000000 in
/-- There is room. -/
theorem insert_in (g n cap p gv : Nat) (s0 s1 : ByteArray) (cur : List Value) (w : World) (hg : w.heap[g]? = some (.cells cur.toArray 127 (0, 0))) (hv : w.heap[gv]? = some (.cells #[.string s0, .string s1] 127 (0, 0))) (hgv : gv ≠ g) (hl : cur.length = cap * 2) (hn : n < cap) (hc : n ≤ 100000) (hp : p < n) (h1 : ∀ v ∈ cur.take (n * 2), v.oneCell' = true) :
    Calls Tryz.prog 147 #[.slice (some ⟨g, 0, none⟩) n cap, .int .i64 (p : Int), .slice (some ⟨gv, 0, none⟩) 1 1] w fun e w' => e = .returned (.slice (some ⟨g, 0, none⟩) (n + 1) cap) ∧ w.grownBy w' (some g) ∧
      w'.heap[g]? = some (.cells (insRow cur n p s0 s1).toArray 127 (0, 0)) := by
  have hz1 : ¬ ((p : Int) = (n : Int)) := by omega
  have hb0 : (0 : Int) ≤ (p : Int) := by omega
  have hb1 : (p : Int) ≤ (n : Int) := by omega
  have hb2 : (p : Int) ≤ (n : Int) + 1 := by omega
  have hb3 : (p : Int) + 1 ≤ (n : Int) + 1 := by omega
  have hb4 : (0 : Int) ≤ (p : Int) + 1 := by omega
  have hb5 : ¬ ((cap : Int) < (n : Int) + 1) := by omega
  have hb6 : (n : Int) + 1 ≤ (cap : Int) := by omega
  have hb7 : (0 : Int) ≤ (n : Int) + 1 := by omega
  have hb8 : ¬ (cap = p) := by omega
  have hb9 : ¬ (cap = p + 1) := by omega
  have htn : ((p : Int) + 1).toNat = p + 1 := by omega
  have hwp : IntKind.i64.wrap ((p : Int) + 1) = (p : Int) + 1 := by simp [IntKind.wrap, IntKind.bits, IntKind.signed]; omega
  have htn2 : ((n : Int) + 1).toNat = n + 1 := by omega
  have hov : ∀ lb cb, (callFunc 148 #[.slice (some ⟨gv, 0, none⟩) 1 1, .slice (some ⟨g, (p + 1) * 2, none⟩) lb cb]).run Tryz.prog w = .ok (.value (.bool false)) w := fun lb cb => by
    rw [run_callFunc_extern Tryz.func148 (by kernel_rfl) (by kernel_rfl) (by kernel_rfl) (e := Extern.SlicesOverlaps.overlaps #[31, 31] #[4]) (by kernel_rfl),
      Lib.run_overlaps_apart w 31 4 127 Tryz.underlying31 2 Tryz.sizeOf127 ⟨gv, 0, none⟩ ⟨g, (p + 1) * 2, none⟩ 1 1 lb cb hgv 127 127 2 (cap * 2) (by simp [World.shape?, hv]) (by simp [World.shape?, hg, hl]) (by omega) (by simp [World.frozen?, hv]) (by simp [World.frozen?, hv])]
    rfl
  obtain ⟨cs, hcs⟩ : ∃ cs, cs = (cur.drop (p * 2)).take ((n - p) * 2) := ⟨_, rfl⟩
  obtain ⟨c1, hc1⟩ : ∃ c1, c1 = cur.take ((p + 1) * 2) ++ cs ++ cur.drop ((p + 1) * 2 + cs.length) := ⟨_, rfl⟩
  obtain ⟨e1, e2, e3⟩ := ins_eq cur n p s0 s1 (by omega) hp cs c1 hcs hc1
  have hcs1 : ∀ v ∈ cs, v.oneCell' = true := fun v hv => h1 v (by rw [hcs, show (n - p) * 2 = n * 2 - p * 2 by omega, ← List.drop_take] at hv; exact List.mem_of_mem_drop hv)
  have hcell : ∀ j v, cs[j]? = some v → w.drew.cell? ((⟨g, p * 2, none⟩ : Addr).add j) = some v := fun j v hj => by
    rw [Addr.add_lit]
    refine cell_of_row (w := w.drew) (cur := cur) hg ?_
    rw [hcs, List.getElem?_take] at hj
    split at hj
    · rw [List.getElem?_drop] at hj; exact hj
    · cases hj
  have HC1 : Hid (∀ ty, (Builtin.copy_ #[31, 31] ty #[.slice (some ⟨g, (p + 1) * 2, none⟩) (n + 1 - (p + 1)) (cap - (p + 1)), .slice (some ⟨g, p * 2, none⟩) (n + 1 - p) (cap - p)]).run Tryz.prog w.drew = .ok (goInt ((n - p : Nat) : Int)) (w.drew.setRow g c1.toArray)) := fun ty => by
    have := run_copy_k (P := Tryz.prog) w.drew 31 31 ty 127 2 g ((p + 1) * 2) (n + 1 - (p + 1)) (cap - (p + 1)) ⟨g, p * 2, none⟩ (n + 1 - p) (cap - p) cur.toArray 127 cs (n - p) Tryz.underlying31 szPrD hg (by simp only [Nat.min_def]; split <;> omega) e1 hcell (by rw [e1]; simp; omega) hcs1
    rw [this, hc1]
  have HC2 : Hid (∀ W : World, W.heap[g]? = some (.cells c1.toArray 127 (0, 0)) → W.heap[gv]? = some (.cells #[.string s0, .string s1] 127 (0, 0)) → ∀ ty, (Builtin.copy_ #[31, 31] ty #[.slice (some ⟨g, p * 2, none⟩) (n + 1 - p) (cap - p), .slice (some ⟨gv, 0, none⟩) 1 1]).run Tryz.prog W = .ok (goInt 1) (W.setRow g (insRow cur n p s0 s1).toArray)) := fun W hW hV ty => by
    have := run_copy_k (P := Tryz.prog) W 31 31 ty 127 2 g (p * 2) (n + 1 - p) (cap - p) ⟨gv, 0, none⟩ 1 1 c1.toArray 127 [.string s0, .string s1] 1 Tryz.underlying31 szPrD hW (by simp only [Nat.min_def]; split <;> omega) rfl (fun j v hj => by rw [Addr.add_lit, Nat.zero_add]; exact cell_of_row (cur := [.string s0, .string s1]) hV hj) (by simp; omega) (onePr _ _)
    rw [this, ← e3]
    simp
  have HG := hid hg
  have HV := hid hv
  clear hcell hcs hc1 e1 e2 e3 hcs1 h1 hg hv
  go_enter Tryz.func147, Tryz.ntmps147
  go_wp2_with (simp only [hov])

  refine wp_region_held_drew (S := fun w' => True) (by kernel_rfl) (trivial) (fun hHeld => ?_)
  refine wpAnyH_take (i := 0) (v := .slice (some ⟨g, 0, none⟩) (n + 1) cap) rfl (by kernel_rfl) (by kernel_rfl) (by kernel_rfl) (fun _ _ _ h => h) (Or.inl ⟨by rfl, fun w hw => by obtain z0 := hw; go_simp⟩) hHeld ?_
  simp only [Act.put, List.getElem_toArray, List.getElem_cons_zero, List.getElem_cons_succ, List.setIfInBounds_toArray, List.set_cons_zero, List.set_cons_succ]
  refine wpAnyH_take (i := 1) (v := .int .i64 (p : Int)) rfl (by kernel_rfl) (by kernel_rfl) (by kernel_rfl) (fun _ _ _ h => h) (Or.inl ⟨by rfl, fun w hw => by obtain z0 := hw; go_simp⟩) hHeld ?_
  simp only [Act.put, List.getElem_toArray, List.getElem_cons_zero, List.getElem_cons_succ, List.setIfInBounds_toArray, List.set_cons_zero, List.set_cons_succ]
  refine wpAnyH_take (i := 2) (v := .int .i64 1) rfl (by kernel_rfl) (by kernel_rfl) (by kernel_rfl) (fun _ _ _ h => h) (Or.inl ⟨by rfl, fun w hw => by obtain z0 := hw; go_simp⟩) hHeld ?_
  simp only [Act.put, List.getElem_toArray, List.getElem_cons_zero, List.getElem_cons_succ, List.setIfInBounds_toArray, List.set_cons_zero, List.set_cons_succ]
  refine wpAnyH_take (i := 3) (v := .int .i64 ((p : Int) + 1)) rfl (by kernel_rfl) (by kernel_rfl) (by kernel_rfl) (fun _ _ _ h => h) (Or.inl ⟨by rfl, fun w hw => by obtain z0 := hw; go_simp⟩) hHeld ?_
  simp only [Act.put, List.getElem_toArray, List.getElem_cons_zero, List.getElem_cons_succ, List.setIfInBounds_toArray, List.set_cons_zero, List.set_cons_succ]
  refine wpAnyH_take (i := 4) (v := .slice (some ⟨g, (p + 1) * 2, none⟩) (n + 1 - (p + 1)) (cap - (p + 1))) rfl (by kernel_rfl) (by kernel_rfl) (by kernel_rfl) (fun _ _ _ h => h) (Or.inl ⟨by rfl, fun w hw => by obtain z0 := hw; go_simp⟩) hHeld ?_
  simp only [Act.put, List.getElem_toArray, List.getElem_cons_zero, List.getElem_cons_succ, List.setIfInBounds_toArray, List.set_cons_zero, List.set_cons_succ]
  refine wpAnyH_take (i := 5) (v := .slice (some ⟨g, 0, none⟩) (n + 1) cap) rfl (by kernel_rfl) (by kernel_rfl) (by kernel_rfl) (fun _ _ _ h => h) (Or.inl ⟨by rfl, fun w hw => by obtain z0 := hw; go_simp⟩) hHeld ?_
  simp only [Act.put, List.getElem_toArray, List.getElem_cons_zero, List.getElem_cons_succ, List.setIfInBounds_toArray, List.set_cons_zero, List.set_cons_succ]
  refine wpAnyH_take (i := 6) (v := .int .i64 (p : Int)) rfl (by kernel_rfl) (by kernel_rfl) (by kernel_rfl) (fun _ _ _ h => h) (Or.inl ⟨by rfl, fun w hw => by obtain z0 := hw; go_simp⟩) hHeld ?_
  simp only [Act.put, List.getElem_toArray, List.getElem_cons_zero, List.getElem_cons_succ, List.setIfInBounds_toArray, List.set_cons_zero, List.set_cons_succ]
  refine wpAnyH_take (i := 7) (v := .slice (some ⟨g, p * 2, none⟩) (n + 1 - p) (cap - p)) rfl (by kernel_rfl) (by kernel_rfl) (by kernel_rfl) (fun _ _ _ h => h) (Or.inl ⟨by rfl, fun w hw => by obtain z0 := hw; go_simp⟩) hHeld ?_
  simp only [Act.put, List.getElem_toArray, List.getElem_cons_zero, List.getElem_cons_succ, List.setIfInBounds_toArray, List.set_cons_zero, List.set_cons_succ]
  refine wpAnyH_ready (rs := [8]) (by kernel_rfl) (by simp) ?_
  refine AllReadyH.cons rfl (fun K hK => ?_) AllReadyH.nil
  refine step_copy_runI rfl _ _ 31 31 rfl (.slice (some ⟨g, (p + 1) * 2, none⟩) (n + 1 - (p + 1)) (cap - (p + 1))) (.slice (some ⟨g, p * 2, none⟩) (n + 1 - p) (cap - p)) (by simp [Act.eval, Act.put]) (by simp [Act.eval, Act.put]) (HC1.out _) ?_
  refine hK.out _ _ (trivial) (fun hHd1 => ?_)
  clear hK K
  try simp only [Act.put, List.getElem_toArray, List.getElem_cons_zero, List.getElem_cons_succ, List.setIfInBounds_toArray, List.set_cons_zero, List.set_cons_succ]
  refine wpAnyH_done (by kernel_rfl) ?_ _
  have hw1 := setRow_heap w.drew g cur.toArray c1.toArray 127 (0, 0) HG.out
  have hv1 : (w.drew.setRow g c1.toArray).heap[gv]? = some (.cells #[.string s0, .string s1] 127 (0, 0)) := (setRow_other w.drew g gv _ hgv).trans HV.out
  have hcp2 := HC2.out _ hw1 hv1
  clear hHeld hHd1
  go_wp2_with fail
  go_ret
  exact ⟨rfl, grown_trans' (undrewG (setRow_grown w.drew g _)) (setRow_grown _ g _), setRow_heap _ g _ _ 127 (0, 0) hw1⟩
theorem zc_pr (n : Nat) : (Builtin.zeroCells (Value.agg #[.string ByteArray.empty, .string ByteArray.empty]).cells n).size = n * 2 := by simp [Builtin.zeroCells, Value.cells]
set_option maxHeartbeats 4000000 in
/-- There is no room. -/
theorem insert_gr (g n p gv : Nat) (s0 s1 : ByteArray) (cur : List Value) (w : World) (hg : w.heap[g]? = some (.cells cur.toArray 127 (0, 0))) (hv : w.heap[gv]? = some (.cells #[.string s0, .string s1] 127 (0, 0))) (hl : cur.length = n * 2) (hc : n ≤ 100000) (hp : p < n) (h1 : ∀ v ∈ cur.take (n * 2), v.oneCell' = true) :
    Calls Tryz.prog 147 #[.slice (some ⟨g, 0, none⟩) n n, .int .i64 (p : Int), .slice (some ⟨gv, 0, none⟩) 1 1] w fun e w' => ∃ (G : Nat) (row : List Value), e = .returned (.slice (some ⟨w.heap.size, 0, none⟩) (n + 1) G) ∧ n + 1 ≤ G ∧ G ≤ maxLen ∧ row.length = G * 2 ∧ row.take ((n + 1) * 2) = cur.take (p * 2) ++ [.string s0, .string s1] ++ cur.drop (p * 2) ∧ Below w.heap.size w w' ∧ w.heap.size < w'.heap.size ∧
      w'.heap[w.heap.size]? = some (.cells row.toArray 127 (0, 0)) := by
  obtain ⟨i0, hi0, hz0, hzs, hzb⟩ := info_partsP info_prC
  have hgl : g < w.heap.size := (Array.getElem?_eq_some_iff.1 hg).1
  have hvl : gv < w.heap.size := (Array.getElem?_eq_some_iff.1 hv).1
  have hz1 : ¬ ((p : Int) = (n : Int)) := by omega
  have hb0 : (0 : Int) ≤ (p : Int) := by omega
  have hb1 : (p : Int) ≤ (n : Int) := by omega
  have hb2 : (p : Int) ≤ (n : Int) + 1 := by omega
  have hb3 : (p : Int) + 1 ≤ (n : Int) + 1 := by omega
  have hb4 : (0 : Int) ≤ (p : Int) + 1 := by omega
  have hb5 : (n : Int) < (n : Int) + 1 := by omega
  have hb8 : ¬ (n = p) := by omega
  have htn : ((p : Int) + 1).toNat = p + 1 := by omega
  have hwp : IntKind.i64.wrap ((p : Int) + 1) = (p : Int) + 1 := by simp [IntKind.wrap, IntKind.bits, IntKind.signed]; omega
  have hkk : (n : Int) + 1 - (p : Int) = ((n + 1 - p : Nat) : Int) := by omega
  have hik : p + (n + 1 - p) = n + 1 := by omega
  have hold : (Builtin.firstCells i0.size p (.slice (some ⟨g, 0, none⟩) p n)).run Tryz.prog w.drew = .ok (cur.take (p * 2)).toArray w.drew := by
    rw [hzs]
    exact run_firstCells_some w.drew 2 p ⟨g, 0, none⟩ p n (cur.take (p * 2)) (by rw [List.length_take]; omega) (fun j v hj => by
      rw [Addr.add_lit, Nat.zero_add]
      rw [List.getElem?_take] at hj
      split at hj
      · exact cell_of_row (w := w.drew) (cur := cur) hg hj
      · cases hj)
  obtain ⟨G, hG⟩ : ∃ G, G = grownCap w (n + 1) n 127 := ⟨_, rfl⟩
  have hGn : n + 1 ≤ G := by rw [hG]; exact grownCap_ge w _ _ _
  have hGm : G ≤ maxLen := by rw [hG]; exact grownCap_le_maxLen w (n + 1) n _ (by unfold maxLen; omega)
  obtain ⟨ROW, hROW⟩ : ∃ ROW : List Value, ROW = cur.take (p * 2) ++ (Builtin.zeroCells (Value.agg #[.string ByteArray.empty, .string ByteArray.empty]).cells (n + 1 - p)).toList ++ (Builtin.zeroCells (Value.agg #[.string ByteArray.empty, .string ByteArray.empty]).cells (G - (n + 1))).toList := ⟨_, rfl⟩
  have hROWa : ROW.toArray = (cur.take (p * 2)).toArray ++ Builtin.zeroCells (Value.agg #[.string ByteArray.empty, .string ByteArray.empty]).cells (n + 1 - p) ++ Builtin.zeroCells (Value.agg #[.string ByteArray.empty, .string ByteArray.empty]).cells (G - (n + 1)) := by rw [hROW]; apply Array.ext'; simp
  have hRl : ROW.length = G * 2 := by rw [hROW]; simp only [List.length_append, List.length_take, Array.length_toList, zc_pr]; omega
  have hRt : ROW.take (p * 2) = cur.take (p * 2) := by rw [hROW, List.append_assoc]; exact List.take_left' (by rw [List.length_take]; omega)
  have hrz : ∀ ty, (Builtin.append_ #[31, 3] ty #[.slice (some ⟨g, 0, none⟩) p n, .int .i64 ((n : Int) + 1 - (p : Int))]).run Tryz.prog w = .ok (.slice (some ⟨w.heap.size, 0, none⟩) (n + 1) G) (w.drew.alloc (.cells ROW.toArray 127)) := fun ty => by
    have h := Lib.run_append_grow_zeros (P := Tryz.prog) w 31 3 ty 127 i0 _ .i64 .i64 Tryz.underlying31 Tryz.underlying3 hi0 hz0 (some ⟨g, 0, none⟩) p n (cur.take (p * 2)) hold (n + 1 - p) (by omega) (by omega) (by omega) (by omega) (by rw [hzb]; omega) (by rw [hzb, hik]; exact growslice_fits (by omega) (by omega))
    rw [hik, ← hG] at h
    rw [hkk, h, hROWa]
  have hG63 : G ≤ 9223372036854775807 := hGm
  have hGi : ¬ (G = p) := by omega
  have hGip : ¬ (G = p + 1) := by omega
  clear hkk hik hold hROW hROWa hG
  obtain ⟨w1, hw1⟩ : ∃ w1, w1 = w.drew.alloc (.cells ROW.toArray 127) := ⟨_, rfl⟩
  rw [← hw1] at hrz
  have hb1' : Below w.heap.size w w1 := by rw [hw1]; exact (Below.refl _ _).drew.alloc (Nat.le_refl _) _
  have hs1 : w1.heap.size = w.heap.size + 1 := by rw [hw1]; rw [World.size_alloc]; rfl
  have hN1 : w1.heap[w.heap.size]? = some (.cells ROW.toArray 127 (0, 0)) := by rw [hw1]; exact heap_alloc_new w.drew _
  have hV1 : w1.heap[gv]? = some (.cells #[.string s0, .string s1] 127 (0, 0)) := (hb1'.block gv hvl).trans hv
  have hG1 : w1.heap[g]? = some (.cells cur.toArray 127 (0, 0)) := (hb1'.block g hgl).trans hg
  clear hw1
  obtain ⟨c1, hc1⟩ : ∃ c1, c1 = ROW.take (p * 2) ++ [.string s0, .string s1] ++ ROW.drop (p * 2 + 2) := ⟨_, rfl⟩
  have hc1l : c1.length = G * 2 := by rw [hc1]; simp only [List.length_append, List.length_take, List.length_drop, List.length_cons, List.length_nil]; omega
  have hcpA : ∀ ty, (Builtin.copy_ #[31, 31] ty #[.slice (some ⟨w.heap.size, p * 2, none⟩) (n + 1 - p) (G - p), .slice (some ⟨gv, 0, none⟩) 1 1]).run Tryz.prog w1 = .ok (goInt 1) (w1.setRow w.heap.size c1.toArray) := fun ty => by
    have := run_copy_k (P := Tryz.prog) w1 31 31 ty 127 2 w.heap.size (p * 2) (n + 1 - p) (G - p) ⟨gv, 0, none⟩ 1 1 ROW.toArray 127 [.string s0, .string s1] 1 Tryz.underlying31 szPrD hN1 (by simp only [Nat.min_def]; split <;> omega) rfl (fun j v hj => by rw [Addr.add_lit, Nat.zero_add]; exact cell_of_row (cur := [.string s0, .string s1]) hV1 hj) (by simp; omega) (onePr _ _)
    rw [this, hc1]
    simp
  obtain ⟨w2, hw2⟩ : ∃ w2, w2 = w1.setRow w.heap.size c1.toArray := ⟨_, rfl⟩
  rw [← hw2] at hcpA
  have hN2 : w2.heap[w.heap.size]? = some (.cells c1.toArray 127 (0, 0)) := by rw [hw2]; exact setRow_heap w1 w.heap.size _ _ 127 (0, 0) hN1
  have hG2 : w2.heap[g]? = some (.cells cur.toArray 127 (0, 0)) := by rw [hw2]; exact (setRow_other w1 w.heap.size g _ (by omega)).trans hG1
  have hb2' : Below w.heap.size w w2 := by rw [hw2]; exact below_setRow hb1' (Nat.le_refl _) _
  have hs2 : w2.heap.size = w.heap.size + 1 := by rw [hw2]; simpa [World.setRow] using hs1
  clear hw2
  have hdl : (cur.drop (p * 2)).length = (n - p) * 2 := by rw [List.length_drop]; omega
  obtain ⟨c2, hc2⟩ : ∃ c2, c2 = c1.take ((p + 1) * 2) ++ cur.drop (p * 2) ++ c1.drop ((p + 1) * 2 + (n - p) * 2) := ⟨_, rfl⟩
  have HCB : Hid (∀ ty, (Builtin.copy_ #[31, 31] ty #[.slice (some ⟨w.heap.size, (p + 1) * 2, none⟩) (n + 1 - (p + 1)) (G - (p + 1)), .slice (some ⟨g, p * 2, none⟩) (n - p) (n - p)]).run Tryz.prog w2.drew = .ok (goInt ((n - p : Nat) : Int)) (w2.drew.setRow w.heap.size c2.toArray)) := fun ty => by
    have := run_copy_k (P := Tryz.prog) w2.drew 31 31 ty 127 2 w.heap.size ((p + 1) * 2) (n + 1 - (p + 1)) (G - (p + 1)) ⟨g, p * 2, none⟩ (n - p) (n - p) c1.toArray 127 (cur.drop (p * 2)) (n - p) Tryz.underlying31 szPrD hN2 (by simp only [Nat.min_def]; split <;> omega) hdl (fun j v hj => by rw [Addr.add_lit]; rw [List.getElem?_drop] at hj; exact cell_of_row (w := w2.drew) (cur := cur) hG2 hj) (by rw [hdl]; simp; omega) (fun v hv => h1 v (by rw [List.take_of_length_le (by omega)]; exact List.mem_of_mem_drop hv))
    rw [this, hc2, hdl]
  have hfin : c2.length = G * 2 ∧ c2.take ((n + 1) * 2) = cur.take (p * 2) ++ [.string s0, .string s1] ++ cur.drop (p * 2) := by
    have et : c1.take ((p + 1) * 2) = cur.take (p * 2) ++ [.string s0, .string s1] := by
      rw [hc1, hRt]
      exact List.take_left' (by simp; omega)
    have el : (c1.take ((p + 1) * 2) ++ cur.drop (p * 2)).length = (n + 1) * 2 := by rw [List.length_append, hdl, List.length_take, hc1l]; omega
    refine ⟨by rw [hc2, List.length_append, el, List.length_drop, hc1l]; omega, ?_⟩
    rw [hc2, List.take_left' el, et]
  have HF := hid hfin
  have HN2 := hid hN2
  have HB2 := hid hb2'
  clear hi0 hz0 hzs hzb hRl hRt hc1 hc1l hN1 hV1 hG1 hN2 hG2 hb1' hb2' hs1 hdl hc2 hfin hg hv h1
  go_enter Tryz.func147, Tryz.ntmps147
  go_wp2_with (first
    | (at_builtin; refine Lib.wpList_append_run _ rfl _ _ _ _ rfl _ _ rfl rfl _ _ (hrz _) ?_)
    | (at_builtin; refine wpList_copy_runI _ rfl _ _ 31 31 rfl _ _ rfl rfl (hcpA _) ?_))

  refine wp_region_held_drew (S := fun w' => True) (by kernel_rfl) (trivial) (fun hHeld => ?_)
  refine wpAnyH_take (i := 0) (v := .slice (some ⟨w.heap.size, 0, none⟩) (n + 1) G) rfl (by kernel_rfl) (by kernel_rfl) (by kernel_rfl) (fun _ _ _ h => h) (Or.inl ⟨by rfl, fun w hw => by obtain z0 := hw; go_simp⟩) hHeld ?_
  simp only [Act.put, List.getElem_toArray, List.getElem_cons_zero, List.getElem_cons_succ, List.setIfInBounds_toArray, List.set_cons_zero, List.set_cons_succ]
  refine wpAnyH_take (i := 1) (v := .int .i64 (p : Int)) rfl (by kernel_rfl) (by kernel_rfl) (by kernel_rfl) (fun _ _ _ h => h) (Or.inl ⟨by rfl, fun w hw => by obtain z0 := hw; go_simp⟩) hHeld ?_
  simp only [Act.put, List.getElem_toArray, List.getElem_cons_zero, List.getElem_cons_succ, List.setIfInBounds_toArray, List.set_cons_zero, List.set_cons_succ]
  refine wpAnyH_take (i := 2) (v := .int .i64 1) rfl (by kernel_rfl) (by kernel_rfl) (by kernel_rfl) (fun _ _ _ h => h) (Or.inl ⟨by rfl, fun w hw => by obtain z0 := hw; go_simp⟩) hHeld ?_
  simp only [Act.put, List.getElem_toArray, List.getElem_cons_zero, List.getElem_cons_succ, List.setIfInBounds_toArray, List.set_cons_zero, List.set_cons_succ]
  refine wpAnyH_take (i := 3) (v := .int .i64 ((p : Int) + 1)) rfl (by kernel_rfl) (by kernel_rfl) (by kernel_rfl) (fun _ _ _ h => h) (Or.inl ⟨by rfl, fun w hw => by obtain z0 := hw; go_simp⟩) hHeld ?_
  simp only [Act.put, List.getElem_toArray, List.getElem_cons_zero, List.getElem_cons_succ, List.setIfInBounds_toArray, List.set_cons_zero, List.set_cons_succ]
  refine wpAnyH_take (i := 4) (v := .slice (some ⟨w.heap.size, (p + 1) * 2, none⟩) (n + 1 - (p + 1)) (G - (p + 1))) rfl (by kernel_rfl) (by kernel_rfl) (by kernel_rfl) (fun _ _ _ h => h) (Or.inl ⟨by rfl, fun w hw => by obtain z0 := hw; go_simp⟩) hHeld ?_
  simp only [Act.put, List.getElem_toArray, List.getElem_cons_zero, List.getElem_cons_succ, List.setIfInBounds_toArray, List.set_cons_zero, List.set_cons_succ]
  refine wpAnyH_take (i := 5) (v := .slice (some ⟨g, 0, none⟩) n n) rfl (by kernel_rfl) (by kernel_rfl) (by kernel_rfl) (fun _ _ _ h => h) (Or.inl ⟨by rfl, fun w hw => by obtain z0 := hw; go_simp⟩) hHeld ?_
  simp only [Act.put, List.getElem_toArray, List.getElem_cons_zero, List.getElem_cons_succ, List.setIfInBounds_toArray, List.set_cons_zero, List.set_cons_succ]
  refine wpAnyH_take (i := 6) (v := .int .i64 (p : Int)) rfl (by kernel_rfl) (by kernel_rfl) (by kernel_rfl) (fun _ _ _ h => h) (Or.inl ⟨by rfl, fun w hw => by obtain z0 := hw; go_simp⟩) hHeld ?_
  simp only [Act.put, List.getElem_toArray, List.getElem_cons_zero, List.getElem_cons_succ, List.setIfInBounds_toArray, List.set_cons_zero, List.set_cons_succ]
  refine wpAnyH_take (i := 7) (v := .slice (some ⟨g, p * 2, none⟩) (n - p) (n - p)) rfl (by kernel_rfl) (by kernel_rfl) (by kernel_rfl) (fun _ _ _ h => h) (Or.inl ⟨by rfl, fun w hw => by obtain z0 := hw; go_simp⟩) hHeld ?_
  simp only [Act.put, List.getElem_toArray, List.getElem_cons_zero, List.getElem_cons_succ, List.setIfInBounds_toArray, List.set_cons_zero, List.set_cons_succ]
  refine wpAnyH_ready (rs := [8]) (by kernel_rfl) (by simp) ?_
  refine AllReadyH.cons rfl (fun K hK => ?_) AllReadyH.nil
  refine step_copy_runI rfl _ _ 31 31 rfl (.slice (some ⟨w.heap.size, (p + 1) * 2, none⟩) (n + 1 - (p + 1)) (G - (p + 1))) (.slice (some ⟨g, p * 2, none⟩) (n - p) (n - p)) (by simp [Act.eval, Act.put]) (by simp [Act.eval, Act.put]) (HCB.out _) ?_
  refine hK.out _ _ (trivial) (fun hHd1 => ?_)
  clear hK K
  try simp only [Act.put, List.getElem_toArray, List.getElem_cons_zero, List.getElem_cons_succ, List.setIfInBounds_toArray, List.set_cons_zero, List.set_cons_succ]
  refine wpAnyH_done (by kernel_rfl) ?_ _
  go_wp2_with fail
  go_ret
  exact ⟨G, c2, rfl, hGn, hGm, HF.out.1, HF.out.2, (below_setRow (HB2.out.drew) (Nat.le_refl _) _), by have : (w2.drew.setRow w.heap.size c2.toArray).heap.size = w2.heap.size := (by simp [World.setRow]); omega, setRow_heap w2.drew _ _ _ 127 (0, 0) HN2.out⟩
end Go.Proofs.YtnmaknnnmjfhkafGreat

namespace Go.Proofs.YtnmaknnnmjfhkafGreat
open Go.RowKit Go.Lib
set_option linter.unusedVariables false
set_option linter.unusedSimpArgs false
set_option maxRecDepth 8000

theorem pr_len (l : List Pr) : (prcells l).length = l.length * 2 := prcells_length l
theorem cut_row {cur : List Value} {a r : List Pr} {n p : Nat} (h : cur.take (n * 2) = prcells (a ++ r)) (hp : a.length = p) (hn : n = p + r.length) (hl : n * 2 ≤ cur.length) : cur.take (p * 2) = prcells a ∧ (cur.drop (p * 2)).take ((n - p) * 2) = prcells r := by
  rw [prcells_append] at h
  have e1 : (prcells a).length = p * 2 := by rw [pr_len, hp]
  constructor
  · have : (cur.take (n * 2)).take (p * 2) = cur.take (p * 2) := by rw [List.take_take, show min (p * 2) (n * 2) = p * 2 by omega]
    rw [← this, h, List.take_left' e1]
  · have : (cur.drop (p * 2)).take ((n - p) * 2) = (cur.take (n * 2)).drop (p * 2) := by rw [List.drop_take]; congr 1; omega
    rw [this, h, List.drop_left' e1]
theorem ins_take {cur : List Value} {a r : List Pr} {n p : Nat} {s0 s1 : ByteArray} (h : cur.take (n * 2) = prcells (a ++ r)) (hp : a.length = p) (hn : n = p + r.length) (hl : n * 2 + 2 ≤ cur.length) : (insRow cur n p s0 s1).take ((n + 1) * 2) = prcells (a ++ [(s0, s1)] ++ r) ∧ (insRow cur n p s0 s1).length = cur.length := by
  obtain ⟨h1, h2⟩ := cut_row h hp hn (by omega)
  unfold insRow
  rw [h1, h2]
  have e : (prcells a ++ [Value.string s0, .string s1] ++ prcells r).length = (n + 1) * 2 := by simp only [List.length_append, pr_len, List.length_cons, List.length_nil]; omega
  refine ⟨?_, by rw [List.length_append, e, List.length_drop]; omega⟩
  rw [List.take_left' e, prcells_append, prcells_append]
  rfl
theorem del_take {cur : List Value} {a r : List Pr} {x : Pr} {n p : Nat} (h : cur.take (n * 2) = prcells (a ++ [x] ++ r)) (hp : a.length = p) (hn : n = p + 1 + r.length) (hl : n * 2 ≤ cur.length) : (delRow cur n p).take ((n - 1) * 2) = prcells (a ++ r) ∧ (delRow cur n p).length = cur.length := by
  obtain ⟨h1, _⟩ := cut_row (a := a) (r := [x] ++ r) (by rw [h, List.append_assoc]) hp (by simp; omega) hl
  obtain ⟨_, h2⟩ := cut_row (a := a ++ [x]) (r := r) (p := p + 1) h (by simp [hp]) hn hl
  unfold delRow
  rw [h1, show p * 2 + 2 = (p + 1) * 2 by omega, show n - p - 1 = n - (p + 1) by omega, h2]
  have e : (prcells a ++ prcells r).length = (n - 1) * 2 := by simp only [List.length_append, pr_len]; omega
  refine ⟨?_, by simp only [List.length_append, pr_len, List.length_cons, List.length_nil, List.length_drop]; omega⟩
  rw [List.append_assoc, List.take_left' e, prcells_append]
theorem set_take {cur : List Value} {a r : List Pr} {k v v' : ByteArray} {n p : Nat} (h : cur.take (n * 2) = prcells (a ++ [(k, v)] ++ r)) (hp : a.length = p) (hn : n = p + 1 + r.length) : (cur.set (p * 2 + 1) (.string v')).take (n * 2) = prcells (a ++ [(k, v')] ++ r) := by
  rw [List.take_set, h, prcells_append, prcells_append, prcells_append, prcells_append, List.append_assoc, List.append_assoc, List.set_append_right _ _ (by rw [pr_len]; omega), pr_len, hp, show p * 2 + 1 - p * 2 = 1 by omega]
  rfl
/-- A row of pairs, whole. -/
theorem own_full {w : World} {base : Nat} {v : Value} {rs : List Pr} (h : w.ownsRow base 127 2 v rs.length (prcells rs)) (hn : 0 < rs.length) : ∃ g cap cur, v = .slice (some ⟨g, 0, none⟩) rs.length cap ∧ base ≤ g ∧ w.heap[g]? = some (.cells (List.toArray cur) 127 (0, 0)) ∧ rs.length ≤ cap ∧ cap ≤ maxLen ∧ cur.length = cap * 2 ∧ cur.take (rs.length * 2) = prcells rs := by
  rcases h.2 with ⟨_, e⟩ | ⟨g, cap, cur, e1, e2, e3, e4, e5, e6, e7⟩
  · omega
  · exact ⟨g, cap, cur.toList, e1, e2, by simpa using e3, e4, e5, by simpa using e6, e7⟩
theorem own_mk {w : World} {base g cap n : Nat} {cur : List Value} {rs : List Pr} (hb : base ≤ g) (hg : w.heap[g]? = some (.cells cur.toArray 127 (0, 0))) (hn : n ≤ cap) (hc : cap ≤ maxLen) (hl : cur.length = cap * 2) (ht : cur.take (n * 2) = prcells rs) (hr : rs.length = n) : w.ownsRow base 127 2 (.slice (some ⟨g, 0, none⟩) n cap) rs.length (prcells rs) := by
  subst hr
  exact ⟨pr_len rs, .inr ⟨g, cap, cur.toArray, rfl, hb, hg, hn, hc, by simpa using hl, by simpa using ht⟩⟩
theorem own_prs {w : World} {base : Nat} {v : Value} {rs : List Pr} (h : w.ownsRow base 127 2 v rs.length (prcells rs)) : ∃ a c, v = .slice a rs.length c ∧ Prs w a rs := by
  rcases owns_forms h with ⟨e1, e2⟩ | ⟨g, cap, e1, _, _, e4⟩
  · exact ⟨none, 0, by rw [e1, e2], .inl (List.eq_nil_of_length_eq_zero e2)⟩
  · exact ⟨_, cap, e1, e4.prs⟩
theorem pr_one (l : List Pr) : ∀ u ∈ prcells l, u.oneCell' = true := fun u hu => by
  unfold prcells at hu
  rw [List.mem_flatMap] at hu
  obtain ⟨x, _, hx⟩ := hu
  exact onePr x.1 x.2 u hx
set_option maxHeartbeats 4000000 in
theorem insert_end (base : Nat) (a : Option Addr) (c : Nat) (rs : List Pr) (gv : Nat) (s0 s1 : ByteArray) (w : World) (own : w.ownsRow base 127 2 (.slice a rs.length c) rs.length (prcells rs)) (hv : w.heap[gv]? = some (.cells #[.string s0, .string s1] 127 (0, 0))) (hl : rs.length ≤ 1000) (hb : base ≤ w.heap.size) :
    Calls Tryz.prog 147 #[.slice a rs.length c, .int .i64 (rs.length : Int), .slice (some ⟨gv, 0, none⟩) 1 1] w fun e w' => ∃ v', e = .returned v' ∧ w'.ownsRow base 127 2 v' (rs ++ [(s0, s1)]).length (prcells (rs ++ [(s0, s1)])) ∧ Below base w w' := by
  obtain ⟨i0, hi0, hz0, hz1, hz2⟩ := info_partsP info_prC
  have HI := hid (And.intro hi0 (And.intro hz0 (And.intro hz1 hz2)))
  clear hi0 hz0 hz1 hz2
  have hb0 : (0 : Int) ≤ (rs.length : Int) := by omega
  have hcap : rs.length ≤ c := by
    rcases own.2 with ⟨e1, e2⟩ | ⟨g, cap, cur, e1, _, _, h3, _⟩
    · omega
    · cases e1; exact h3
  have HN := hid (fun j u (hj : [Value.string s0, .string s1][j]? = some u) => show w.cell? ((⟨gv, 0, none⟩ : Addr).add j) = some u by rw [Addr.add_lit, Nat.zero_add]; exact cell_of_row (cur := [.string s0, .string s1]) hv hj)
  have HO := hid own
  clear own
  have key : ∀ (A : Option Addr), A = a → Calls Tryz.prog 147 #[.slice A rs.length c, .int .i64 (rs.length : Int), .slice (some ⟨gv, 0, none⟩) 1 1] w fun e w' => ∃ v', e = .returned v' ∧ w'.ownsRow base 127 2 v' (rs ++ [(s0, s1)]).length (prcells (rs ++ [(s0, s1)])) ∧ Below base w w' := by
    intro A hA
    subst hA
    cases A with
    | none =>
      go_enter Tryz.func147, Tryz.ntmps147
      go_wp2_with (at_builtin; refine wpList_append_lies _ rfl _ _ 31 rfl base 127 i0 (.agg #[.string ByteArray.empty, .string ByteArray.empty]) 2 32 Tryz.underlying31 HI.out.1 HI.out.2.1 HI.out.2.2.1 HI.out.2.2.2 rfl (by omega) _ rs.length _ rfl HO.out ⟨gv, 0, none⟩ 1 1 [.string s0, .string s1] rfl rfl HN.out (onePr _ _) (by omega) (by unfold maxLen; omega) (by omega) hb w.heap.size rfl ?_; intro g9 cap9 w9 hown9 hgrow9 hat9 hlt9; have HO9 := hid hown9; have HG9 := hid hgrow9; clear hown9 hgrow9 hat9)
      all_goals
        go_ret
        exact ⟨.slice (some ⟨g9, 0, none⟩) (rs.length + 1) cap9, rfl, by simpa only [prcells_snocA, List.length_append, List.length_singleton] using HO9.out, below_of_grown HG9.out hb (fun k hk => (HO.out.lt k hk).1)⟩
    | some ad =>
      go_enter Tryz.func147, Tryz.ntmps147
      go_wp2_with (at_builtin; refine wpList_append_lies _ rfl _ _ 31 rfl base 127 i0 (.agg #[.string ByteArray.empty, .string ByteArray.empty]) 2 32 Tryz.underlying31 HI.out.1 HI.out.2.1 HI.out.2.2.1 HI.out.2.2.2 rfl (by omega) _ rs.length _ rfl HO.out ⟨gv, 0, none⟩ 1 1 [.string s0, .string s1] rfl rfl HN.out (onePr _ _) (by omega) (by unfold maxLen; omega) (by omega) hb w.heap.size rfl ?_; intro g9 cap9 w9 hown9 hgrow9 hat9 hlt9; have HO9 := hid hown9; have HG9 := hid hgrow9; clear hown9 hgrow9 hat9)
      all_goals
        go_ret
        exact ⟨.slice (some ⟨g9, 0, none⟩) (rs.length + 1) cap9, rfl, by simpa only [prcells_snocA, List.length_append, List.length_singleton] using HO9.out, below_of_grown HG9.out hb (fun k hk => (HO.out.lt k hk).1)⟩
  exact key a rfl
theorem find_there {rs : List Pr} {key : ByteArray} {p : Nat} : (decide (p < rs.length ∧ cmpB (kAt rs p) key = 0)) = true ↔ p < rs.length ∧ cmpB (kAt rs p) key = 0 := by simp
set_option maxHeartbeats 4000000 in
theorem setap_i (base : Nat) (v : Value) (rs : List Pr) (key val : ByteArray) (w : World) (own : w.ownsRow base 127 2 v rs.length (prcells rs)) (hasc : ascP rs) (hl : rs.length ≤ 1000) (hb : base ≤ w.heap.size) :
    Calls Tryz.prog 145 #[.agg #[.string key, .string val], v] w fun e w' => ∃ v', e = .returned v' ∧ w'.ownsRow base 127 2 v' (chF (key, val, false) rs).length (prcells (chF (key, val, false) rs)) ∧ ascP (chF (key, val, false) rs) ∧ Below base w w' := by
  obtain ⟨a, c, rfl, hprs⟩ := own_prs own
  have hb0 : ∀ o, Below w.heap.size w (w.alloc o) := fun o => (Below.refl _ _).alloc (Nat.le_refl _) _
  have HF := hid (find_i a rs c key _ (hprs.below (hb0 (.cells #[.string key, .string val] 144))) (by omega) (asc_mono hasc key))
  go_enter Tryz.func145, Tryz.ntmps145
  go_wp2_with fail
  refine HF.out.mono ?_
  rintro e w2 ⟨p, hp, h1, h2, rfl, hb2⟩
  have hr := (row_new w #[.string key, .string val] 144).below hb2
  have q0 := hr.cell 0 _ rfl
  have q1 := hr.cell 1 _ rfl
  have lr := hr.lt
  have own2 := owns_below own ((hb0 _).trans (hb2.mono (hb0 _).size))
  have hbb : Below base w w2 := ((hb0 _).trans (hb2.mono (hb0 _).size)).mono hb
  have hs2 : w.heap.size < w2.heap.size := lr
  clear hr HF hb2
  by_cases ht : p < rs.length ∧ cmpB (kAt rs p) key = 0
  · obtain ⟨e1, e2, e3, e4⟩ := part_at hasc key p hp h1 h2 1 (by rw [if_pos ht])
    have e3' : ∃ v0, (rs.drop p).take 1 = [(key, v0)] := e3.resolve_left (by intro h0; have := congrArg List.length h0; rw [List.length_take, List.length_drop, List.length_nil] at this; omega)
    obtain ⟨v0, hv0⟩ := e3'
    have hF := chF_at (key, val, false) (rs.take p) ((rs.drop p).take 1) (rs.drop (p + 1)) e2 e3 e4
    have hA := chAt_asc (key, val, false) (rs.take p) ((rs.drop p).take 1) (rs.drop (p + 1)) (by rw [← e1]; exact hasc) e2 e4
    rw [← e1] at hF
    obtain ⟨g, cap, cur, ev, hg1, hg2, hg3, hg4, hg5, hg6⟩ := own_full own2 (by omega)
    cases ev
    rw [decide_eq_true ht]
    have hk0 : (0 : Int) ≤ (p : Int) := by omega
    have hk1 : (p : Int) < (rs.length : Int) := by omega
    have hcl : w2.cell? ⟨g, p * 2 + 1, none⟩ = some (.string v0) := by
      refine cell_of_row hg2 ?_
      have : (cur.take (rs.length * 2))[p * 2 + 1]? = some (.string v0) := by
        rw [hg6, e1, hv0, prcells_append, prcells_append, List.append_assoc, List.getElem?_append_right (by rw [pr_len, List.length_take]; omega), pr_len, List.length_take, show p * 2 + 1 - min p rs.length * 2 = 1 by rw [Nat.min_eq_left (by omega)]; omega]
        rfl
      rw [List.getElem?_take] at this
      split at this
      · exact this
      · cases this
    have hfz : w2.frozen? ⟨g, p * 2 + 1, none⟩ = false := by simp [World.frozen?, hg2]
    have hset := setCell_eq_setRow w2 g (p * 2 + 1) cur.toArray 127 (0, 0) (.string val) hg2
    have hown : (w2.setCell ⟨g, p * 2 + 1, none⟩ (.string val)).ownsRow base 127 2 (.slice (some ⟨g, 0, none⟩) rs.length c) (chF (key, val, false) rs).length (prcells (chF (key, val, false) rs)) := by
      rw [hF]
      unfold chAt
      simp only [Bool.false_eq_true, if_false]
      refine own_mk (cur := cur.set (p * 2 + 1) (.string val)) hg1 ?_ hg3 hg4 (by simpa using hg5) ?_ ?_
      · rw [hset, setRow_heap w2 g _ _ 127 (0, 0) hg2]; simp
      · rw [show rs.length * 2 = rs.length * 2 from rfl]
        refine set_take (k := key) (v := v0) (by rw [hg6]; congr 1; rw [← hv0]; exact e1) (by rw [List.length_take]; omega) (by rw [List.length_drop]; omega)
      · simp only [List.length_append, List.length_take, List.length_drop, List.length_cons, List.length_nil]; omega
    have HOWN := hid hown
    have HA : Hid (ascP (chF (key, val, false) rs)) := by show ascP _; rw [hF]; exact hA
    have hgl : g < w2.heap.size := (Array.getElem?_eq_some_iff.1 hg2).1
    clear hown hA hF e1 e2 e3 e4 hv0 hset hg2 hg6 hasc own own2 h1 h2
    go_wp2_with fail
    go_ret
    exact ⟨_, rfl, HOWN.out, HA.out, hbb.setCell (p := ⟨g, p * 2 + 1, none⟩) hg1 _⟩
  · obtain ⟨e1, e2, e3, e4⟩ := part_at hasc key p hp h1 h2 0 (by rw [if_neg ht])
    have hF := chF_at (key, val, false) (rs.take p) ((rs.drop p).take 0) (rs.drop (p + 0)) e2 e3 e4
    have hA := chAt_asc (key, val, false) (rs.take p) ((rs.drop p).take 0) (rs.drop (p + 0)) (by rw [← e1]; exact hasc) e2 e4
    rw [← e1] at hF
    rw [decide_eq_false ht]
    unfold chAt at hF hA
    simp only [Bool.false_eq_true, if_false, Nat.add_zero] at hF hA e1 e4
    have hF' : chF (key, val, false) rs = rs.take p ++ [(key, val)] ++ rs.drop p := hF
    have hk0 : (0 : Int) ≤ (p : Int) := by omega
    have hva : (w2.alloc (.cells #[.string key, .string val] 127)).heap[w2.heap.size]? = some (.cells #[.string key, .string val] 127 (0, 0)) := heap_alloc_new w2 _
    have owna := own2.alloc (.cells #[.string key, .string val] 127)
    have hba : Below base w (w2.alloc (.cells #[.string key, .string val] 127)) := hbb.alloc (by omega) _
    have HIN : Hid (Calls Tryz.prog 147 #[.slice a rs.length c, .int .i64 (p : Int), .slice (some ⟨w2.heap.size, 0, none⟩) 1 1] (w2.alloc (.cells #[.string key, .string val] 127)) fun e w' => ∃ v', e = .returned v' ∧ w'.ownsRow base 127 2 v' (chF (key, val, false) rs).length (prcells (chF (key, val, false) rs)) ∧ Below base (w2.alloc (.cells #[.string key, .string val] 127)) w') := by
      show Calls _ _ _ _ _
      rcases Nat.eq_or_lt_of_le hp with hpe | hpl
      · subst hpe
        rw [List.take_length, List.drop_length, List.append_nil] at hF'
        rw [hF']
        exact insert_end base a c rs w2.heap.size key val _ owna hva hl (by simp; omega)
      · obtain ⟨g, cap, cur, ev, hg1, hg2, hg3, hg4, hg5, hg6⟩ := own_full owna (by omega)
        cases ev
        have hone : ∀ u ∈ cur.take (rs.length * 2), u.oneCell' = true := by rw [hg6]; exact pr_one rs
        have hgl : g < w2.heap.size := by have := (own2.lt g rfl).2; exact this
        have hcut : cur.take (rs.length * 2) = prcells (rs.take p ++ rs.drop p) := by rw [List.take_append_drop]; exact hg6
        have hpl' : (rs.take p).length = p := by rw [List.length_take]; omega
        have hnl : rs.length = p + (rs.drop p).length := by rw [List.length_drop]; omega
        rcases Nat.eq_or_lt_of_le hg3 with hce | hcl
        · refine (insert_gr g rs.length p w2.heap.size key val cur _ hg2 hva (by rw [hg5, hce]) (by omega) hpl hone).mono ?_ |> (fun x => by rw [← hce]; exact x)
          rintro e w' ⟨G, row, rfl, h1, h2, h3, h4, h5, h6, h7⟩
          refine ⟨_, rfl, ?_, h5.mono (by simp; omega)⟩
          rw [hF']
          refine own_mk (cur := row) (by simp; omega) h7 h1 h2 h3 ?_ (by simp only [List.length_append, List.length_take, List.length_drop, List.length_cons, List.length_nil]; omega)
          rw [h4, prcells_append, prcells_append]
          obtain ⟨c1, c2⟩ := cut_row hcut hpl' hnl (by omega)
          rw [c1]
          rw [List.take_of_length_le (by rw [List.length_drop]; omega)] at c2
          rw [c2]
          rfl
        · refine (insert_in g rs.length c p w2.heap.size key val cur _ hg2 hva (by omega) hg5 hcl (by omega) hpl hone).mono ?_
          rintro e w' ⟨rfl, h1, h2⟩
          obtain ⟨t1, t2⟩ := ins_take (s0 := key) (s1 := val) hcut hpl' hnl (by omega)
          refine ⟨_, rfl, ?_, below_of_grown h1 (by simp; omega) (fun k hk => by cases hk; exact hg1)⟩
          rw [hF']
          exact own_mk hg1 h2 (by omega) hg4 (by rw [t2]; exact hg5) t1 (by simp only [List.length_append, List.length_take, List.length_drop, List.length_cons, List.length_nil]; omega)
    have HA : Hid (ascP (chF (key, val, false) rs)) := by show ascP _; rw [hF']; exact hA
    have HBA := hid hba
    clear hA hF hF' e1 e2 e3 e4 hasc own own2 owna h1 h2 hva hba hbb
    go_wp2_with (go_at_call 147; refine HIN.out.mono ?_; rintro e w5 ⟨v5, rfl, ho5, hb5⟩)
    go_ret
    exact ⟨_, rfl, ho5, HA.out, HBA.out.trans hb5⟩
end Go.Proofs.YtnmaknnnmjfhkafGreat

namespace Go.Proofs.YtnmaknnnmjfhkafGreat
open Go.RowKit Go.Lib
set_option linter.unusedVariables false
set_option linter.unusedSimpArgs false
set_option maxRecDepth 8000

set_option maxHeartbeats 4000000 in
theorem remap_i (base : Nat) (v : Value) (rs : List Pr) (key val : ByteArray) (w : World) (own : w.ownsRow base 127 2 v rs.length (prcells rs)) (hasc : ascP rs) (hl : rs.length ≤ 1000) (hb : base ≤ w.heap.size) :
    Calls Tryz.prog 136 #[.agg #[.string key], v] w fun e w' => ∃ v', e = .returned v' ∧ w'.ownsRow base 127 2 v' (chF (key, val, true) rs).length (prcells (chF (key, val, true) rs)) ∧ ascP (chF (key, val, true) rs) ∧ Below base w w' := by
  obtain ⟨a, c, rfl, hprs⟩ := own_prs own
  have hb0 : ∀ o, Below w.heap.size w (w.alloc o) := fun o => (Below.refl _ _).alloc (Nat.le_refl _) _
  have HF := hid (find_i a rs c key _ (hprs.below (hb0 (.cells #[.string key] 142))) (by omega) (asc_mono hasc key))
  go_enter Tryz.func136, Tryz.ntmps136
  go_wp2_with fail
  refine HF.out.mono ?_
  rintro e w2 ⟨p, hp, h1, h2, rfl, hb2⟩
  have lr : w.heap.size < w2.heap.size := Nat.lt_of_lt_of_le (by simp) hb2.size
  have own2 := owns_below own ((hb0 _).trans (hb2.mono (hb0 _).size))
  have hbb : Below base w w2 := ((hb0 _).trans (hb2.mono (hb0 _).size)).mono hb
  clear HF hb2
  by_cases ht : p < rs.length ∧ cmpB (kAt rs p) key = 0
  · obtain ⟨e1, e2, e3, e4⟩ := part_at hasc key p hp h1 h2 1 (by rw [if_pos ht])
    have e3' : ∃ v0, (rs.drop p).take 1 = [(key, v0)] := e3.resolve_left (by intro h0; have := congrArg List.length h0; rw [List.length_take, List.length_drop, List.length_nil] at this; omega)
    obtain ⟨v0, hv0⟩ := e3'
    have hF := chF_at (key, val, true) (rs.take p) ((rs.drop p).take 1) (rs.drop (p + 1)) e2 e3 e4
    have hA := chAt_asc (key, val, true) (rs.take p) ((rs.drop p).take 1) (rs.drop (p + 1)) (by rw [← e1]; exact hasc) e2 e4
    rw [← e1] at hF
    unfold chAt at hF hA
    simp only [if_true, List.append_nil] at hF hA
    obtain ⟨g, cap, cur, ev, hg1, hg2, hg3, hg4, hg5, hg6⟩ := own_full own2 (by omega)
    cases ev
    have hone : ∀ u ∈ cur.take (rs.length * 2), u.oneCell' = true := by rw [hg6]; exact pr_one rs
    have hw : IntKind.i64.wrap ((p : Int) + 1) = (p : Int) + 1 := by simp [IntKind.wrap, IntKind.bits, IntKind.signed]; omega
    rw [decide_eq_true ht]
    have HDL := hid (delete_i g rs.length c p cur w2 hg2 hg5 hg3 (by omega) ht.1 hone)
    obtain ⟨t1, t2⟩ := del_take (x := (key, v0)) (a := rs.take p) (r := rs.drop (p + 1)) (n := rs.length) (p := p) (by rw [hg6]; congr 1; rw [← hv0]; exact e1) (by rw [List.length_take]; omega) (by rw [List.length_drop]; omega) (by omega)
    have HT := hid (And.intro t1 t2)
    have HF := hid hF
    have HA := hid hA
    have hp1 := ht.1
    clear hF hA e1 e2 e3 e4 hv0 hg2 hg6 hasc own own2 h1 h2 t1 t2 hone
    go_wp2_with (go_at_call 138; refine HDL.out.mono ?_; rintro e w5 ⟨rfl, hg5', hr5⟩)
    go_ret
    refine ⟨_, rfl, ?_, by rw [HF.out]; exact HA.out, hbb.trans (below_of_grown hg5' (by omega) (fun k hk => by cases hk; exact hg1))⟩
    rw [HF.out]
    exact own_mk hg1 hr5 (by omega) hg4 (by rw [HT.out.2]; exact hg5) HT.out.1 (by rw [List.length_append, List.length_take, List.length_drop]; omega)
  · obtain ⟨e1, e2, e3, e4⟩ := part_at hasc key p hp h1 h2 0 (by rw [if_neg ht])
    have hF := chF_at (key, val, true) (rs.take p) ((rs.drop p).take 0) (rs.drop (p + 0)) e2 e3 e4
    rw [← e1] at hF
    unfold chAt at hF
    simp only [if_true, List.append_nil, Nat.add_zero, List.take_append_drop] at hF
    rw [decide_eq_false ht]
    have HF := hid hF
    have HO := hid own2
    have HA := hid hasc
    clear hF e1 e2 e3 e4 hasc own own2 h1 h2
    go_wp2_with fail
    go_ret
    exact ⟨_, rfl, by rw [HF.out]; exact HO.out, by rw [HF.out]; exact HA.out, hbb⟩
theorem meth_setA (j : Nat) (v v' : Value) (w : World) : Sem.run Tryz.prog (method (j + 1) 144 (.agg #[v, v']) "loop.example/kilnstone/impl.apply") w = .ok (145, .agg #[v, v']) w := by kernel_rfl
theorem meth_remA (j : Nat) (v : Value) (w : World) : Sem.run Tryz.prog (method (j + 1) 142 (.agg #[v]) "loop.example/kilnstone/impl.apply") w = .ok (136, .agg #[v]) w := by kernel_rfl
theorem fit_ok (a : Option Addr) (n c : Nat) (h : n ≤ 100) (w : World) : Calls Tryz.prog 109 #[.slice a n c] w fun e w' => (∃ x, e = .returned x) ∧ w' = w := by
  have h1 : ((n : Int) ≤ 100) := by omega
  go_enter Tryz.func109, Tryz.ntmps109
  go_wp2_with fail
  go_end0
  exact ⟨⟨_, rfl⟩, rfl⟩
theorem fit_no (a : Option Addr) (n c : Nat) (h : 100 < n) (w : World) : Calls Tryz.prog 109 #[.slice a n c] w fun e w' => e = .panicked [{ v := .iface 136 (.int .i64 2), recovered := false }] ∧ w' = w := by
  have h1 : ((100 : Int) < n) := by omega
  go_enter Tryz.func109, Tryz.ntmps109
  go_wp2_with fail
  simp [bodyPost]
theorem catch_idle (p q : Addr) (w : World) :
    CallsD Tryz.prog 108 #[.pointer (some p), .pointer (some q)] .returning w fun e u' w' => e = .returned (.tuple #[]) ∧ u' = .returning ∧ w' = w := by
  refine callsD_of_wpS Tryz.func108 rfl fun c₀ cs hu => ?_
  apply wpS_seq
  apply wpS_region
  simp [wpOpsS, go_sem, recoverD, hu, Tryz.ntmps108, Exit.thenS]
  refine wpS_of_wp ?_
  simp only [Array.replicate, List.replicate, List.setIfInBounds_toArray, List.set_cons_zero, List.set_cons_succ, List.append_toArray, List.cons_append, List.nil_append]
  go_wp2
  cases c₀
  simp_all [bodyPostS, results, Tryz.results108]
theorem catch_panic (p q : Addr) (old : List PanicEntry) (w : World) (x : Value) (y : Int) (hp : w.cell? p = some x) (hq : w.cell? q = some (.int .i64 y)) (fp : w.frozen? p = false) (fq : w.frozen? q = false) (hne : p ≠ q) :
    CallsD Tryz.prog 108 #[.pointer (some p), .pointer (some q)] (.panicking ({ v := .iface 136 (.int .i64 2), recovered := false } :: old)) w fun e u' w' =>
      e = .returned (.tuple #[]) ∧ u' = .panicking ({ v := .iface 136 (.int .i64 2), recovered := true } :: old) ∧ w' = (w.setCell p (.slice none 0 0)).setCell q (.int .i64 2) := by
  have hta : ∀ w, (Instr.typeAssert (.iface 136 (.int .i64 2)) 20 136 true).run Tryz.prog w = .ok (.tuple #[.int .i64 2, .bool true]) w := fun w => by kernel_rfl
  refine callsD_of_wpS Tryz.func108 rfl fun c₀ cs hu => ?_
  apply wpS_seq
  apply wpS_region
  simp [wpOpsS, go_sem, recoverD, hu, Tryz.ntmps108, Exit.thenS]
  refine wpS_of_wp ?_
  simp only [Array.replicate, List.replicate, List.setIfInBounds_toArray, List.set_cons_zero, List.set_cons_succ, List.append_toArray, List.cons_append, List.nil_append]
  go_wp2
  cases c₀
  simp_all [bodyPostS, results, Tryz.results108]
end Go.Proofs.YtnmaknnnmjfhkafGreat
