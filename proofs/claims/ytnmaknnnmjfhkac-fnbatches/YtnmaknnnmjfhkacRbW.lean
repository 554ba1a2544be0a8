import Derived.Test.YtnmaknnnmjfhkacRbP
namespace Go.Proofs.Ytnmaknnnmjfhkac
open Go.RowKit
set_option maxRecDepth 4000
set_option linter.unusedVariables false
set_option linter.unusedSimpArgs false

def pcV (r : ByteArray) : Value := match pc r with | none => .tuple #[.string ⟨#[]⟩, .string ⟨#[]⟩, .bool false] | some (k, m) => .tuple #[.string k, .string m, .bool true]
theorem get0 (r : ByteArray) (h : 0 < r.size) : (r[0]'h).toNat = b0 r := by
  unfold b0
  have hl : 0 < r.data.toList.length := h
  rw [List.getD_eq_getElem?_getD, List.getElem?_eq_getElem hl]
  rfl
theorem piece_s (r : ByteArray) (w : World) (hs : r.size ≤ 1048576) : Calls Try.prog 46 #[.string r] w fun e w' => e = .returned (pcV r) ∧ Below w.heap.size w w' := by
  by_cases h0 : 0 < r.size
  · have hg := get0 r h0
    obtain ⟨b, hb⟩ : ∃ b, b = b0 r := ⟨_, rfl⟩
    obtain ⟨e, he⟩ : ∃ e, e = 1 + b := ⟨_, rfl⟩
    have hbl : b ≤ 255 := by rw [hb]; exact b0_lt r
    rw [← hb] at hg
    have h1 : (1 : Int) ≤ (r.size : Int) := by omega
    have hze : r.toList.isEmpty = false := by rw [isEmpty_size]; exact decide_eq_false (by omega)
    have hE : (1 : Int) + (b : Int) = (e : Int) := by omega
    have hE0 : (0 : Int) ≤ (e : Int) := by omega
    have hE1 : (1 : Int) ≤ (e : Int) := by omega
    have hEw : IntKind.i64.wrap (e : Int) = (e : Int) := by simp [IntKind.wrap, IntKind.bits, IntKind.signed]; omega
    by_cases h2 : 1 + b ≤ r.size
    · have HV : Hid (pcV r = .tuple #[.string (r.extract 1 e), .string (r.extract e r.size), .bool true]) := by
        show _ = _
        unfold pcV pc
        rw [← hb, if_pos ⟨by omega, h2⟩, ← he]
      have h2' : (e : Int) ≤ (r.size : Int) := by omega
      clear hb h2 he
      go_enter Try.func46, Try.ntmps46
      go_wp2
      go_quiet (fail)
      go_wp2
      go_ret3
      exact ⟨by rw [HV.out]; rfl, below_drewN (Below.refl _ _) _⟩
    · have HV : Hid (pcV r = .tuple #[.string ⟨#[]⟩, .string ⟨#[]⟩, .bool false]) := by
        show _ = _
        unfold pcV pc
        rw [← hb, if_neg (by omega)]
      have h2' : (r.size : Int) < (e : Int) := by omega
      clear hb h2 he
      go_enter Try.func46, Try.ntmps46
      go_wp2
      go_ret3
      exact ⟨by rw [HV.out]; rfl, Below.refl _ _⟩
  · have HV : Hid (pcV r = .tuple #[.string ⟨#[]⟩, .string ⟨#[]⟩, .bool false]) := by
      show _ = _
      unfold pcV pc
      rw [if_neg (by omega)]
    have hz : (r.size : Int) < 1 := by omega
    have hze : r.toList.isEmpty = true := by rw [isEmpty_size]; exact decide_eq_true (by omega)
    go_enter Try.func46, Try.ntmps46
    go_wp2
    go_ret3
    exact ⟨by rw [HV.out]; rfl, Below.refl _ _⟩
theorem sized_take_i (r : ByteArray) (w : World) (hs : r.size ≤ 1048576) : Calls Try.prog 79 #[.string r] w fun e w' => e = .returned (pcV r) ∧ Below w.heap.size w w' := by
  by_cases h0 : 0 < r.size
  · have hg := get0 r h0
    obtain ⟨b, hb⟩ : ∃ b, b = b0 r := ⟨_, rfl⟩
    obtain ⟨e, he⟩ : ∃ e, e = 1 + b := ⟨_, rfl⟩
    have hbl : b ≤ 255 := by rw [hb]; exact b0_lt r
    rw [← hb] at hg
    have h1 : (1 : Int) ≤ (r.size : Int) := by omega
    have hze : r.toList.isEmpty = false := by rw [isEmpty_size]; exact decide_eq_false (by omega)
    have hE : (1 : Int) + (b : Int) = (e : Int) := by omega
    have hE0 : (0 : Int) ≤ (e : Int) := by omega
    have hE1 : (1 : Int) ≤ (e : Int) := by omega
    have hEw : IntKind.i64.wrap (e : Int) = (e : Int) := by simp [IntKind.wrap, IntKind.bits, IntKind.signed]; omega
    by_cases h2 : 1 + b ≤ r.size
    · have HV : Hid (pcV r = .tuple #[.string (r.extract 1 e), .string (r.extract e r.size), .bool true]) := by
        show _ = _
        unfold pcV pc
        rw [← hb, if_pos ⟨by omega, h2⟩, ← he]
      have h2' : (e : Int) ≤ (r.size : Int) := by omega
      clear hb h2 he
      go_enter Try.func79, Try.ntmps79
      go_wp2
      go_quiet (fail)
      go_wp2
      go_ret3
      exact ⟨by rw [HV.out]; rfl, below_drewN (Below.refl _ _) _⟩
    · have HV : Hid (pcV r = .tuple #[.string ⟨#[]⟩, .string ⟨#[]⟩, .bool false]) := by
        show _ = _
        unfold pcV pc
        rw [← hb, if_neg (by omega)]
      have h2' : (r.size : Int) < (e : Int) := by omega
      clear hb h2 he
      go_enter Try.func79, Try.ntmps79
      go_wp2
      go_ret3
      exact ⟨by rw [HV.out]; rfl, Below.refl _ _⟩
  · have HV : Hid (pcV r = .tuple #[.string ⟨#[]⟩, .string ⟨#[]⟩, .bool false]) := by
      show _ = _
      unfold pcV pc
      rw [if_neg (by omega)]
    have hz : (r.size : Int) < 1 := by omega
    have hze : r.toList.isEmpty = true := by rw [isEmpty_size]; exact decide_eq_true (by omega)
    go_enter Try.func79, Try.ntmps79
    go_wp2
    go_ret3
    exact ⟨by rw [HV.out]; rfl, Below.refl _ _⟩

theorem bs0 {w w' : World} {o : Obj} (h : Below (w.alloc o).heap.size (w.alloc o) w') : Below w.heap.size w w' := ((Below.refl _ _).alloc (Nat.le_refl _) _).trans (h.mono (by simp))
/-- What a change that is taken off the front of a text reads as. -/
def stpV (r : ByteArray) : Option (Ch × ByteArray) := if 1 < b0 r then none else stp r
def chgPost (o : Option (Ch × ByteArray)) (e : Ending) : Prop := match o with
  | none => ∃ k v g b, e = .returned (.tuple #[.agg #[.string k, .string v, .bool g], .string b, .bool false])
  | some (c, r') => e = .returned (.tuple #[.agg #[.string c.1, .string c.2.1, .bool c.2.2], .string r', .bool true])
theorem pcV_none {r : ByteArray} (h : pc r = none) : pcV r = .tuple #[.string ⟨#[]⟩, .string ⟨#[]⟩, .bool false] := by unfold pcV; rw [h]
theorem pcV_some {r k m : ByteArray} (h : pc r = some (k, m)) : pcV r = .tuple #[.string k, .string m, .bool true] := by unfold pcV; rw [h]
end Go.Proofs.Ytnmaknnnmjfhkac
