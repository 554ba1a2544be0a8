import Derived.Test.YtnmaknnnmjfhkadStE
import Derived.Test.YtnmaknnnmjfhkadStM
namespace Go.Proofs.Ytnmaknnnmjfhkad
open Go.RowKit
set_option maxRecDepth 8000
set_option linter.unusedVariables false
set_option linter.unusedSimpArgs false

/-- States with nothing in them. -/
abbrev nops (m : Nat) : List Value := List.replicate m (.slice none 0 0)

set_option maxHeartbeats 1000000 in
theorem eq_past (p q : Option Addr) (m c c' : Nat) (w : World) (h : OwnS w p (nops m)) (h' : OwnS w q (nops m)) (hm : m ≤ 1000) :
    Calls Try.prog 110 #[.slice p m c, .slice q m c'] w fun e w' => e = .returned (.bool true) ∧ Below w.heap.size w w' := by
  go_enter Try.func110, Try.ntmps110
  go_wp2
  go_loopw [5] (fun i wr => ∃ k : Nat, k ≤ m ∧ i = .int .i64 (k : Int) ∧ Below w.heap.size w wr) (fun i _ => m - (intOf i).toNat)
  case atStart => exact ⟨0, Nat.zero_le _, rfl, Below.refl _ _⟩
  case round =>
    obtain ⟨k, hk, rfl, hbel⟩ := hrel
    by_cases hlt : k < m
    · have hlt' : (k : Int) < (m : Int) := by omega
      have hk0 : (0 : Int) ≤ (k : Int) := by omega
      have hne : nops m ≠ [] := by intro e; have := congrArg List.length e; simp at this; omega
      obtain ⟨g, rfl, hr⟩ := (h.below hbel).resolve_left hne
      obtain ⟨g', rfl, hr'⟩ := (h'.below hbel).resolve_left hne
      have hc := hr.cell k (.slice none 0 0) (by simp [hlt])
      have hc' := hr'.cell k (.slice none 0 0) (by simp [hlt])
      have lg := hr.lt
      have lg' := hr'.lt
      have HBL := hid hbel
      have HE := hid (fun w' => eq_state none none [] 0 0 w' (.inl rfl) (.inl rfl) (by simp))
      clear hbel hr hr'
      go_wp2_with fail
      go_region_held3 (fun w' => w'.cell? ⟨g, k, none⟩ = some (.slice none 0 0) ∧ w'.cell? ⟨g', k, none⟩ = some (.slice none 0 0))
        (first | assumption | exact ⟨hc, hc'⟩ | exact ⟨(hb3.cell (p := ⟨g, k, none⟩) lg).trans hc, (hb3.cell (p := ⟨g', k, none⟩) lg').trans hc'⟩)
        (first | (go_at_call 22; refine (HE.out _).mono ?_; rintro e w3 ⟨rfl, hb3⟩))
      have HB3 := hid (HBL.out.trans ((((Below.refl _ _).drew).trans hb3).mono HBL.out.size))
      clear hb3
      go_wp2
      exact ⟨⟨k + 1, by omega, by go_num, HB3.out⟩, by simp [intOf]; omega⟩
    · go_wp2
      go_ret
      exact ⟨rfl, hbel⟩

set_option maxHeartbeats 1000000 in
theorem mark_past (p : Option Addr) (m c k : Nat) (w : World) (h : OwnS w p (nops m)) (hm : m ≤ 1000) (hk : 0 < k) (hk1 : k ≤ 1000000) :
    Calls Try.prog 112 #[.slice p m c, .int .i64 (k : Int)] w fun e w' => e = .returned (.int .i64 (k : Int)) ∧ Below w.heap.size w w' := by
  go_enter Try.func112, Try.ntmps112
  go_wp2
  go_loopw [1, 5] (fun x i wr => ∃ j : Nat, j ≤ m ∧ i = .int .i64 (j : Int) ∧ x = .int .i64 (k : Int) ∧ Below w.heap.size w wr) (fun _ i _ => m - (intOf i).toNat)
  case atStart => exact ⟨0, Nat.zero_le _, rfl, rfl, Below.refl _ _⟩
  case round =>
    obtain ⟨j, hj, rfl, rfl, hbel⟩ := hrel
    by_cases hlt : j < m
    · have hlt' : (j : Int) < (m : Int) := by omega
      have hj0 : (0 : Int) ≤ (j : Int) := by omega
      have hne : nops m ≠ [] := by intro e; have := congrArg List.length e; simp at this; omega
      obtain ⟨g, rfl, hr⟩ := (h.below hbel).resolve_left hne
      have hc := hr.cell j (.slice none 0 0) (by simp [hlt])
      have lg := hr.lt
      have HBL := hid hbel
      have HE := hid (fun w' => mark_prs none [] 0 k w' (.inl rfl) hk (by simp; omega))
      clear hbel hr
      go_wp2_with (go_at_call 96; refine (HE.out _).mono ?_; rintro e w3 ⟨rfl, hg3, _⟩)
      have hb3 := grown_below hg3 (Nat.le_refl _) (fun g hg => by cases hg)
      exact ⟨⟨j + 1, by omega, by go_num, rfl, HBL.out.trans (hb3.mono HBL.out.size)⟩, by simp [intOf]; omega⟩
    · go_wp2
      go_ret
      exact ⟨rfl, hbel⟩

set_option maxHeartbeats 1000000 in
theorem held_past (p : Option Addr) (m c k : Nat) (w : World) (h : OwnS w p (nops m)) (hm : m ≤ 1000) (hk : 0 < k) (hk1 : k ≤ 1000000) :
    Calls Try.prog 114 #[.slice p m c, .int .i64 (k : Int)] w fun e w' => e = .returned (.int .i64 (k : Int)) ∧ Below w.heap.size w w' := by
  have hk0 : (0 : Int) ≤ (k : Int) := by omega
  go_enter Try.func114, Try.ntmps114
  go_wp2
  go_loopw [1, 5] (fun x i wr => ∃ j : Nat, j ≤ m ∧ i = .int .i64 (j : Int) ∧ x = .int .i64 (k : Int) ∧ Below w.heap.size w wr) (fun _ i _ => m - (intOf i).toNat)
  case atStart => exact ⟨0, Nat.zero_le _, rfl, rfl, Below.refl _ _⟩
  case round =>
    obtain ⟨j, hj, rfl, rfl, hbel⟩ := hrel
    by_cases hlt : j < m
    · have hlt' : (j : Int) < (m : Int) := by omega
      have hj0 : (0 : Int) ≤ (j : Int) := by omega
      have hne : nops m ≠ [] := by intro e; have := congrArg List.length e; simp at this; omega
      obtain ⟨g, rfl, hr⟩ := (h.below hbel).resolve_left hne
      have hc := hr.cell j (.slice none 0 0) (by simp [hlt])
      have lg := hr.lt
      have HBL := hid hbel
      have HE := hid (fun w' => held_prs none 0 0 k w' (.inl rfl) hk (by omega))
      clear hbel hr
      go_wp2_with (go_at_call 98; refine (HE.out _).mono ?_; rintro e w3 ⟨rfl, hb3⟩)
      exact ⟨⟨j + 1, by omega, by go_num, rfl, HBL.out.trans (hb3.mono HBL.out.size)⟩, by simp [intOf]; omega⟩
    · go_wp2
      go_ret
      exact ⟨rfl, hbel⟩
end Go.Proofs.Ytnmaknnnmjfhkad
