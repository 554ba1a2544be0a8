import Derived.Test.YtnmaknnnmjfhkaeDoorMgXScan10
namespace Go.Proofs.YtnmaknnnmjfhkaeDoor
open Go.RowKit
set_option maxRecDepth 4000
set_option linter.unusedVariables false
set_option linter.unusedSimpArgs false

/-- Whether a page (Kind k, Life l) goes on behind another one (Kind wk, Life wl). -/
def goesP (wk wl k l : Int) : Bool := decide (wl ≤ l) && (if k = 3 then decide (wk ≠ 1) else (decide (k = 1) || decide (k = 2)) && (decide (wk ≠ 1) || decide (wl = l)))
/-- What a scan has: entries, Used, Life. -/
abbrev Scd := List ByteArray × Int × Int
/-- The sectors from a place on, so many, read page by page: what is behind the first of them. -/
def scanP (S : Nat → ByteArray) (frm : Nat) (first n : Int) : Nat → Nat → Int → Int → ByteArray → Scd → Scd
  | 0, _, _, _, _, out => out
  | f + 1, i, wk, wl, op, out =>
    match rpRes (S (frm + i)) n with
    | none => out
    | some (k, l, m, p) => if IntKind.i64.wrap (m - (i : Int)) = first ∧ goesP wk wl k l = true then
        (if k = 1 then scanP S frm first n f (i + 1) k l (op ++ p) out
         else scanP S frm first n f (i + 1) k l ByteArray.empty (if k = 2 then out.1 ++ [op ++ p] else out.1, (i : Int) + 1, l))
      else out
theorem scanP_none {S : Nat → ByteArray} {frm : Nat} {first n : Int} {f i : Nat} {wk wl : Int} {op : ByteArray} {out : Scd} (h : rpRes (S (frm + i)) n = none) : scanP S frm first n f i wk wl op out = out := by
  cases f with
  | zero => rfl
  | succ f => rw [scanP, h]
theorem scanP_no {S : Nat → ByteArray} {frm : Nat} {first n : Int} {f i : Nat} {wk wl k l m : Int} {p op : ByteArray} {out : Scd} (h : rpRes (S (frm + i)) n = some (k, l, m, p)) (hn : ¬ (IntKind.i64.wrap (m - (i : Int)) = first ∧ goesP wk wl k l = true)) : scanP S frm first n f i wk wl op out = out := by
  cases f with
  | zero => rfl
  | succ f => rw [scanP, h]; simp only; rw [if_neg hn]
theorem scanP_part {S : Nat → ByteArray} {frm : Nat} {first n : Int} {f i : Nat} {wk wl l m : Int} {p op : ByteArray} {out : Scd} (h : rpRes (S (frm + i)) n = some (1, l, m, p)) (hn : IntKind.i64.wrap (m - (i : Int)) = first) (hg : goesP wk wl 1 l = true) : scanP S frm first n (f + 1) i wk wl op out = scanP S frm first n f (i + 1) 1 l (op ++ p) out := by
  rw [scanP, h]; simp only; rw [if_pos ⟨hn, hg⟩, if_pos trivial]
theorem scanP_end {S : Nat → ByteArray} {frm : Nat} {first n : Int} {f i : Nat} {wk wl k l m : Int} {p op : ByteArray} {out : Scd} (h : rpRes (S (frm + i)) n = some (k, l, m, p)) (hn : IntKind.i64.wrap (m - (i : Int)) = first) (hg : goesP wk wl k l = true) (hk : k ≠ 1) : scanP S frm first n (f + 1) i wk wl op out = scanP S frm first n f (i + 1) k l ByteArray.empty (if k = 2 then out.1 ++ [op ++ p] else out.1, (i : Int) + 1, l) := by
  rw [scanP, h]; simp only; rw [if_pos ⟨hn, hg⟩, if_neg hk]
/-- The program's way to say it. -/
def goesI (wk wl k l : Int) : Bool := if k = 1 ∨ k = 2 then (decide (l = wl) || (!decide (wk = 1) && decide (wl < l))) else if k = 3 then decide (wl ≤ l) && !decide (wk = 1) else false
theorem goes_eq (wk wl k l : Int) : goesI wk wl k l = goesP wk wl k l := by
  unfold goesI goesP
  rw [Bool.eq_iff_iff]
  by_cases h3 : k = 3
  · subst h3
    simp
  · by_cases h12 : k = 1 ∨ k = 2
    · have hd : (decide (k = 1) || decide (k = 2)) = true := by simpa using h12
      rw [if_pos h12, if_neg h3, hd]
      by_cases h1 : wk = 1
      · subst h1; simp; omega
      · simp [h1]; omega
    · have hd : (decide (k = 1) || decide (k = 2)) = false := by simpa using h12
      rw [if_neg h12, if_neg h3, if_neg h3, hd]
      simp
/-- Ahead of the first page: Kind 0 or Kind 2 is the same. -/
theorem scanP_begin (S : Nat → ByteArray) (frm : Nat) (first n : Int) (f i : Nat) (wl : Int) (op : ByteArray) (out : Scd) : scanP S frm first n f i 2 wl op out = scanP S frm first n f i 0 wl op out := by
  cases f with
  | zero => rfl
  | succ f =>
    rw [scanP, scanP]
    have : ∀ k l, goesP 2 wl k l = goesP 0 wl k l := fun k l => by unfold goesP; simp
    simp only [this]
/-- How long the entries may be. -/
theorem scanP_size (S : Nat → ByteArray) (frm : Nat) (first n : Int) : ∀ (f i : Nat) (wk wl : Int) (op : ByteArray) (out : Scd) (B : Nat), op.size + 64 * f ≤ B → (∀ e ∈ out.1, e.size ≤ B) → (∀ e ∈ (scanP S frm first n f i wk wl op out).1, e.size ≤ B) ∧ (scanP S frm first n f i wk wl op out).1.length ≤ out.1.length + f
  | 0, i, wk, wl, op, out, B, _, h2 => ⟨h2, by simp [scanP]⟩
  | f + 1, i, wk, wl, op, out, B, h1, h2 => by
    rw [scanP]
    split
    · exact ⟨h2, by omega⟩
    · rename_i k l m p hp
      have hps := (rpRes_some hp).2.2.2.2.2.2
      split
      · split
        · have := scanP_size S frm first n f (i + 1) k l (op ++ p) out B (by rw [ByteArray.size_append]; omega) h2
          exact ⟨this.1, by omega⟩
        · have := scanP_size S frm first n f (i + 1) k l ByteArray.empty (if k = 2 then out.1 ++ [op ++ p] else out.1, (i : Int) + 1, l) B (by show 0 + _ ≤ _; omega) (by
            intro e he
            simp only at he
            split at he
            · rw [List.mem_append] at he
              rcases he with he | he
              · exact h2 e he
              · simp at he; subst he; rw [ByteArray.size_append]; omega
            · exact h2 e he)
          refine ⟨this.1, Nat.le_trans this.2 ?_⟩
          simp only
          split
          · simp; omega
          · omega
      · exact ⟨h2, by omega⟩
/-- What is used, and which Life. -/
theorem scanP_used (S : Nat → ByteArray) (frm : Nat) (first n : Int) : ∀ (f i : Nat) (wk wl : Int) (op : ByteArray) (out : Scd), (0 ≤ out.2.1 ∧ out.2.1 ≤ (i : Int)) → 0 ≤ (scanP S frm first n f i wk wl op out).2.1 ∧ (scanP S frm first n f i wk wl op out).2.1 ≤ (i : Int) + f
  | 0, i, wk, wl, op, out, h => by rw [scanP]; omega
  | f + 1, i, wk, wl, op, out, h => by
    rw [scanP]
    split
    · omega
    · rename_i k l m p hp
      split
      · split
        · have := scanP_used S frm first n f (i + 1) k l (op ++ p) out (by omega)
          omega
        · have := scanP_used S frm first n f (i + 1) k l ByteArray.empty (if k = 2 then out.1 ++ [op ++ p] else out.1, (i : Int) + 1, l) (by show 0 ≤ (i : Int) + 1 ∧ (i : Int) + 1 ≤ _; omega)
          omega
      · omega
theorem scanP_life (S : Nat → ByteArray) (frm : Nat) (first n : Int) : ∀ (f i : Nat) (wk wl : Int) (op : ByteArray) (out : Scd), (scanP S frm first n f i wk wl op out).2.2 = out.2.2 ∨ (1 ≤ (scanP S frm first n f i wk wl op out).2.2 ∧ (scanP S frm first n f i wk wl op out).2.2 ≤ 60000)
  | 0, i, wk, wl, op, out => .inl rfl
  | f + 1, i, wk, wl, op, out => by
    rw [scanP]
    split
    · exact .inl rfl
    · rename_i k l m p hp
      have hl := rpRes_some hp
      split
      · split
        · exact scanP_life S frm first n f (i + 1) k l (op ++ p) out
        · rcases scanP_life S frm first n f (i + 1) k l ByteArray.empty (if k = 2 then out.1 ++ [op ++ p] else out.1, (i : Int) + 1, l) with h | h
          · right
            rw [h]
            show 1 ≤ l ∧ l ≤ 60000
            omega
          · exact .inr h
      · exact .inl rfl
end Go.Proofs.YtnmaknnnmjfhkaeDoor
