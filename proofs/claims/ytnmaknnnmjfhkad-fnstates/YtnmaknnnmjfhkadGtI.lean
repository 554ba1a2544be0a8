import Derived.Test.YtnmaknnnmjfhkadGtF
namespace Go.Proofs.Ytnmaknnnmjfhkad
open Go.RowKit Go.Sort
set_option maxRecDepth 4000
set_option linter.unusedVariables false
set_option linter.unusedSimpArgs false

/-- What Get answers. -/
def gRes (rs : List (ByteArray × ByteArray)) (key : ByteArray) : Option ByteArray := if stateOk rs = true then (rs.find? (fun x => decide (x.1 = key))).map (·.2) else none
theorem find_at (rs : List (ByteArray × ByteArray)) (key : ByteArray) (k : Nat) (hk : k < rs.length) (h : ∀ t, t < k → kAt rs t ≠ key) (he : kAt rs k = key) : rs.find? (fun x => decide (x.1 = key)) = some (rs.getD k (ByteArray.empty, ByteArray.empty)) := by
  rw [List.find?_eq_some_iff_getElem]
  refine ⟨by unfold kAt at he; simpa using he, k, hk, by simp [List.getD, hk], fun j hj => ?_⟩
  have := h j hj
  unfold kAt at this
  simp only [List.getD, List.getElem?_eq_getElem (show j < rs.length by omega), Option.getD_some] at this
  simpa using this
theorem find_none (rs : List (ByteArray × ByteArray)) (key : ByteArray) (h : ∀ t, t < rs.length → kAt rs t ≠ key) : rs.find? (fun x => decide (x.1 = key)) = none := by
  rw [List.find?_eq_none]
  intro x hx
  obtain ⟨t, ht, rfl⟩ := List.mem_iff_getElem.1 hx
  have := h t ht
  unfold kAt at this
  simp only [List.getD, List.getElem?_eq_getElem ht, Option.getD_some] at this
  simpa using this

theorem gRes_no {rs : List (ByteArray × ByteArray)} {key : ByteArray} (h : stateOk rs = false) : gRes rs key = none := by unfold gRes; rw [if_neg (by simp [h])]
theorem gRes_hit {rs : List (ByteArray × ByteArray)} {key : ByteArray} {k : Nat} {s0 s1 : ByteArray} (hok : stateOk rs = true) (hS : (s0, s1) = rs.getD k (ByteArray.empty, ByteArray.empty)) (hk : k < rs.length) (h : ∀ t, t < k → kAt rs t ≠ key) (he : s0 = key) : gRes rs key = some s1 := by
  unfold gRes
  rw [if_pos hok, find_at rs key k hk h (by unfold kAt; rw [← hS]; exact he), ← hS]
  rfl
theorem gRes_miss {rs : List (ByteArray × ByteArray)} {key : ByteArray} (h : ∀ t, t < rs.length → kAt rs t ≠ key) : gRes rs key = none := by
  unfold gRes
  split
  · rw [find_none rs key h]; rfl
  · rfl

set_option maxHeartbeats 1000000 in
theorem get_i (a : Option Addr) (rs : List (ByteArray × ByteArray)) (c : Nat) (key : ByteArray) (w : World) (h : Prs w a rs) (hl : rs.length ≤ 1048576) (hs : ∀ x ∈ rs, x.1.size ≤ 1048576 ∧ x.2.size ≤ 1048576) :
    Calls Try.prog 13 #[.agg #[.slice a rs.length c], .string key] w fun e w' => e = .returned (.tuple #[.string ((gRes rs key).getD ⟨#[]⟩), .bool (gRes rs key).isSome]) ∧ Below w.heap.size w w' := by
  have hb0 : ∀ o, Below w.heap.size w (w.alloc o) := fun o => (Below.refl _ _).alloc (Nat.le_refl _) _
  obtain ⟨R, HR⟩ : ∃ R, Hid (R = gRes rs key) := ⟨_, hid rfl⟩
  rw [← HR.out]
  cases hok : stateOk rs with
  | false =>
    rw [gRes_no hok] at HR
    go_enter Try.func13, Try.ntmps13
    go_wp2_with (go_at_call 18; refine (vstate_i a rs c _ (h.below (hb0 _)) hl hs).mono ?_; rw [hok]; rintro e w2 ⟨rfl, hb2⟩)
    go_ret2
    exact ⟨by rw [HR.out]; rfl, (hb0 _).trans (hb2.mono (by simp))⟩
  | true =>
    have HM := hid (mono_of hok key)
    go_enter Try.func13, Try.ntmps13
    go_wp2_with (go_at_call 18; refine (vstate_i a rs c _ (h.below (hb0 _)) hl hs).mono ?_; rw [hok]; rintro e w2 ⟨rfl, hb2⟩; have q0 : w2.cell? ⟨w.heap.size, 0, none⟩ = some (.slice a rs.length c) := (hb2.cell (p := ⟨w.heap.size, 0, none⟩) (by simp)).trans (by go_simp); have HB2 := hid ((hb0 _).trans (hb2.mono (by simp))); have hs2 := hb2.size; clear hb2)
    refine (find_i a rs c key _ (h.below HB2.out) hl HM).mono ?_
    rintro e w3 ⟨p, h1, h2, h3, rfl, hb3⟩
    have q3 : w3.cell? ⟨w.heap.size, 0, none⟩ = some (.slice a rs.length c) := (hb3.cell (p := ⟨w.heap.size, 0, none⟩) (by have := hs2; simp at this; show w.heap.size < _; omega)).trans q0
    have HB3 := hid (HB2.out.trans (hb3.mono HB2.out.size))
    have H2 : Hid (∀ t, t < p → kAt rs t ≠ key) := fun t ht he => by have := h2 t ht; rw [(cmpB_zero _ _).2 he] at this; omega
    have H3 := hid h3
    clear h2 h3 q0 hb3
    by_cases hp : p < rs.length ∧ cmpB (kAt rs p) key = 0
    · rw [decide_eq_true hp]
      obtain ⟨b, o, s0, s1, rfl, hc0, hc1, HS⟩ := (h.below HB3.out).at hp.1
      have hp1 : (p : Int) < (rs.length : Int) := by omega
      have he : s0 = key := by have := (cmpB_zero _ _).1 hp.2; unfold kAt at this; rw [← HS.out] at this; exact this
      rw [gRes_hit hok HS.out hp.1 H2.out he] at HR
      clear hp he
      go_wp2
      go_ret2
      exact ⟨by rw [HR.out]; rfl, HB3.out⟩
    · rw [decide_eq_false hp]
      rw [gRes_miss (fun t ht he => ?miss)] at HR
      case miss =>
        rcases Nat.lt_or_ge t p with h4 | h4
        · exact H2.out t h4 he
        · have h5 := H3.out p (Nat.le_refl _) (by omega)
          rcases Nat.eq_or_lt_of_le h4 with h6 | h6
          · subst h6; exact hp ⟨ht, (cmpB_zero _ _).2 he⟩
          · have := asc' hok h6 ht
            rw [he] at this
            omega
      clear hp
      go_wp2
      go_ret2
      exact ⟨by rw [HR.out]; rfl, HB3.out⟩

end Go.Proofs.Ytnmaknnnmjfhkad
