import Derived.Test.YtnmaknnnmjfhkadGt
import Derived.Test.YtnmaknnnmjfhkadVS
namespace Go.Proofs.Ytnmaknnnmjfhkad
open Go.RowKit Go.Sort
set_option maxRecDepth 4000
set_option linter.unusedVariables false
set_option linter.unusedSimpArgs false

theorem cmpB_trans (a b c : ByteArray) (h1 : cmpB a b < 0) (h2 : cmpB b c < 0) : cmpB a c < 0 := by
  unfold cmpB at *
  rw [cb_lt] at *
  exact List.lt_trans h1 h2
theorem asc_step {rs : List (ByteArray × ByteArray)} (h : stateOk rs = true) (i : Nat) (hi : i + 1 < rs.length) : cmpB (kAt rs i) (kAt rs (i + 1)) < 0 := by
  have := (stateOk_of h).2 (i + 1) hi
  unfold prOk klt at this
  simp only [Nat.add_sub_cancel, Bool.and_eq_true, Bool.or_eq_true, decide_eq_true_eq] at this
  rw [cmpB_lt]
  rcases this.2 with h | h
  · omega
  · exact h
theorem asc {rs : List (ByteArray × ByteArray)} (h : stateOk rs = true) (t : Nat) : ∀ d, t + d + 1 < rs.length → cmpB (kAt rs t) (kAt rs (t + d + 1)) < 0
  | 0, hd => asc_step h t hd
  | d + 1, hd => cmpB_trans _ _ _ (asc h t d (by omega)) (asc_step h (t + d + 1) hd)
theorem asc' {rs : List (ByteArray × ByteArray)} (h : stateOk rs = true) {t u : Nat} (htu : t < u) (hu : u < rs.length) : cmpB (kAt rs t) (kAt rs u) < 0 := by
  obtain ⟨d, rfl⟩ : ∃ d, u = t + d + 1 := ⟨u - t - 1, by omega⟩
  exact asc h t d hu
theorem mono_of {rs : List (ByteArray × ByteArray)} (h : stateOk rs = true) (key : ByteArray) : ∀ t m, t ≤ m → m < rs.length → cmpB (kAt rs m) key < 0 → cmpB (kAt rs t) key < 0 := by
  intro t m htm hm hc
  rcases Nat.lt_or_ge t m with h1 | h1
  · exact cmpB_trans _ _ _ (asc' h h1 hm) hc
  · have : t = m := by omega
    subst this; exact hc
theorem find_i (a : Option Addr) (rs : List (ByteArray × ByteArray)) (c : Nat) (key : ByteArray) (w : World) (h : Prs w a rs) (hl : rs.length ≤ 1048576) (hmono : Hid (∀ t m, t ≤ m → m < rs.length → cmpB (kAt rs m) key < 0 → cmpB (kAt rs t) key < 0)) :
    Calls Try.prog 61 #[.agg #[.string key], .slice a rs.length c] w fun e w' =>
      ∃ p : Nat, p ≤ rs.length ∧ (∀ t, t < p → cmpB (kAt rs t) key < 0) ∧ (∀ t, p ≤ t → t < rs.length → 0 ≤ cmpB (kAt rs t) key) ∧ e = .returned (.tuple #[.int .i64 (p : Int), .bool (decide (p < rs.length ∧ cmpB (kAt rs p) key = 0))]) ∧ Below w.heap.size w w' := by
  have hb0 : ∀ o, Below w.heap.size w (w.alloc o) := fun o => (Below.refl _ _).alloc (Nat.le_refl _) _
  go_enter Try.func61, Try.ntmps61
  go_wp2_with fail
  refine (bs_i a rs c key _ (h.below (hb0 _)) hl hmono).mono ?_
  rintro e w2 ⟨p, h1, h2, h3, rfl, hb2⟩
  obtain ⟨B, HB⟩ : ∃ B, Hid (B = decide (p < rs.length ∧ cmpB (kAt rs p) key = 0)) := ⟨_, hid rfl⟩
  rw [← HB.out]
  have H2 := hid h2
  have H3 := hid h3
  clear h2 h3
  go_wp2
  go_ret2
  refine ⟨p, h1, H2.out, H3.out, by rw [← HB.out]; rfl, (hb0 _).trans (hb2.mono (by simp))⟩

end Go.Proofs.Ytnmaknnnmjfhkad
