import Derived.Test.YtnmaknnnmjfhkadNewI
import Derived.Test.YtnmaknnnmjfhkadCx
import Derived.Test.YtnmaknnnmjfhkadNwA
import Derived.Test.YtnmaknnnmjfhkadWd
namespace Go.Proofs.Ytnmaknnnmjfhkad.nw
open Go.RowKit
set_option maxRecDepth 8000
set_option linter.unusedVariables false
set_option linter.unusedSimpArgs false

set_option maxHeartbeats 400000 in
theorem new_s_no (n : Int) (w : World) (h : ¬ (8 ≤ n ∧ n ≤ 200)) :
    Calls Try.prog 105 #[.int .i64 n] w fun e w' => e = .returned (diskV none 0 0 none 0 0) ∧ Below w.heap.size w w' := by
  by_cases h8 : 8 ≤ n
  · have h2 : 200 < n := by omega
    go_enter Try.func105, Try.ntmps105
    go_wp2
    exact bodyPost_ret (v := diskV none 0 0 none 0 0) (by simp [results, Try.results105, go_sem]) rfl ⟨rfl, below_new _ _⟩
  · go_enter Try.func105, Try.ntmps105
    go_wp2
    exact bodyPost_ret (v := diskV none 0 0 none 0 0) (by simp [results, Try.results105, go_sem]) rfl ⟨rfl, below_new _ _⟩
set_option maxHeartbeats 400000 in
theorem new_i_no (n : Int) (w : World) (h : ¬ (8 ≤ n ∧ n ≤ 200)) :
    Calls Try.prog 108 #[.int .i64 n] w fun e w' => e = .returned (diskV none 0 0 none 0 0) ∧ Below w.heap.size w w' := by
  have hd : decide (8 ≤ n ∧ n ≤ 200) = false := decide_eq_false h
  go_enter Try.func108, Try.ntmps108
  go_wp2_with (go_at_call 107; refine (dsize_i _ _).mono ?_; rw [hd]; rintro e w' ⟨rfl, rfl⟩)
  exact bodyPost_ret (v := diskV none 0 0 none 0 0) (by simp [results, Try.results108, go_sem]) rfl ⟨rfl, below_new _ _⟩

/-- Both answers: a disk of these sectors with nothing pending, in memory of its own. -/
def newSS (n : Int) : List ByteArray := if 8 ≤ n ∧ n ≤ 200 then List.replicate n.toNat zeros else []
theorem newSS_len (n : Int) : (newSS n).length ≤ 200 := by unfold newSS; split <;> simp; omega
theorem new_s_any (n : Int) (w : World) :
    Calls Try.prog 105 #[.int .i64 n] w fun e w' => ∃ a c a' c', e = .returned (diskV a (newSS n).length c a' 0 c') ∧ OwnS w' a ((newSS n).map Value.string) ∧ (∀ g, blk a (newSS n).length = some g → w.heap.size ≤ g) ∧ Below w.heap.size w w' := by
  by_cases h : 8 ≤ n ∧ n ≤ 200
  · obtain ⟨m, rfl⟩ : ∃ m : Nat, n = (m : Int) := ⟨n.toNat, by omega⟩
    have e1 : newSS (m : Int) = List.replicate m zeros := by simp [newSS, h]
    rw [e1]
    refine (new_s m w (by omega) (by omega)).mono ?_
    rintro e w' ⟨g, c, rfl, hg, hr, hb⟩
    exact ⟨_, c, none, 0, by rw [List.length_replicate], .inr ⟨g, rfl, hr⟩, fun g' hg' => by rw [List.length_replicate, blk_pos g 0 m (by omega)] at hg'; cases hg'; exact hg, hb⟩
  · have e1 : newSS n = [] := by simp [newSS, h]
    rw [e1]
    refine (new_s_no n w h).mono ?_
    rintro e w' ⟨rfl, hb⟩
    exact ⟨none, 0, none, 0, rfl, .inl rfl, (fun g' hg' => by cases hg'), hb⟩
theorem new_i_any (n : Int) (w : World) :
    Calls Try.prog 108 #[.int .i64 n] w fun e w' => ∃ a c a' c', e = .returned (diskV a (newSS n).length c a' 0 c') ∧ OwnS w' a ((newSS n).map Value.string) ∧ (∀ g, blk a (newSS n).length = some g → w.heap.size ≤ g) ∧ Below w.heap.size w w' := by
  by_cases h : 8 ≤ n ∧ n ≤ 200
  · obtain ⟨m, rfl⟩ : ∃ m : Nat, n = (m : Int) := ⟨n.toNat, by omega⟩
    have e1 : newSS (m : Int) = List.replicate m zeros := by simp [newSS, h]
    rw [e1]
    refine (new_i m w (by omega) (by omega)).mono ?_
    rintro e w' ⟨g, c, a', c', rfl, hg, hr, hb⟩
    exact ⟨_, c, a', c', by rw [List.length_replicate], .inr ⟨g, rfl, hr⟩, fun g' hg' => by rw [List.length_replicate, blk_pos g 0 m (by omega)] at hg'; cases hg'; exact hg, hb⟩
  · have e1 : newSS n = [] := by simp [newSS, h]
    rw [e1]
    refine (new_i_no n w h).mono ?_
    rintro e w' ⟨rfl, hb⟩
    exact ⟨none, 0, none, 0, rfl, .inl rfl, (fun g' hg' => by cases hg'), hb⟩


/-- A world with nothing but a disk and states with nothing in them. -/
def worldV (wd : Int) (a : Option Addr) (n c : Nat) (a' : Option Addr) (c' : Nat) (p : Option Addr) (m cp : Nat) : Value := .agg #[.int .i64 wd, .slice a n c, .slice a' 0 c', .bool false, .int .i64 0, .int .i64 0, .int .i64 0, .int .i64 0, .int .i64 0, .int .i64 0, .int .i64 0, .int .i64 0, .int .i64 0, .slice none 0 0, .slice p m cp, .slice none 0 0]
abbrev nwOk (n wd : Int) : Prop := (8 ≤ n ∧ n ≤ 200) ∧ 1 ≤ wd ∧ wd ≤ 8
def nwS (n wd : Int) : List ByteArray := if nwOk n wd then newSS n else []
def nwM (n wd : Int) : Nat := if nwOk n wd then 1 else 0
def nwW (n wd : Int) : Int := if nwOk n wd then wd else 0
/-- What NewWorld gives, in memory of its own. -/
def NwPost (w w' : World) (e : Ending) (wd : Int) (ss : List ByteArray) (m : Nat) : Prop := ∃ a c a' c' p cp, e = .returned (worldV wd a ss.length c a' c' p m cp) ∧ OwnS w' a (ss.map Value.string) ∧ OwnS w' p (nops m) ∧ (∀ g, blk a ss.length = some g → w.heap.size ≤ g ∧ ∀ k, blk p m = some k → g ≠ k) ∧ (∀ g, blk p m = some g → w.heap.size ≤ g) ∧ Below w.heap.size w w'
theorem OwnS.setw {w : World} {a : Option Addr} {cs : List Value} (h : OwnS w a cs) (p : Addr) (hp : ∀ g, a = some ⟨g, 0, none⟩ → cs ≠ [] → p.block ≠ g) (v : Value) : OwnS (w.setCell p v) a cs := by
  by_cases h0 : cs = []
  · exact .inl h0
  · obtain ⟨g, rfl, hr⟩ := h.resolve_left h0
    exact .inr ⟨g, rfl, hr.other p (hp g rfl h0) v⟩
theorem row_atw {w : World} {A : Array Value} {t : TypeId} {g : Nat} (hg : w.heap.size = g) : Row (w.alloc (.cells A t)) g A.toList := by subst hg; exact row_new w A t

set_option maxHeartbeats 8000000 in
theorem nw_s_no (n wd : Int) (w : World) (h : ¬ nwOk n wd) :
    Calls Try.prog 45 #[.int .i64 n, .int .i64 wd] w fun e w' => NwPost w w' e 0 [] 0 := by
  have fin : ∀ w', Below w.heap.size w w' → NwPost w w' (.returned (worldV 0 none 0 0 none 0 none 0 0)) 0 [] 0 := fun w' hb => ⟨none, 0, none, 0, none, 0, rfl, .inl rfl, .inl rfl, fun g hg => (by cases hg), fun g hg => (by cases hg), hb⟩
  by_cases hn : 8 ≤ n ∧ n ≤ 200
  · have hwd : decide (1 ≤ wd ∧ wd ≤ 8) = false := decide_eq_false (fun x => h ⟨hn, x⟩)
    obtain ⟨m, hss⟩ : ∃ m : Nat, (newSS n).length = m := ⟨_, rfl⟩
    have hm : m ≠ 0 := by rw [← hss]; unfold newSS; rw [if_pos hn]; simp; omega
    have hm' : ¬ (m : Int) = 0 := by omega
    go_enter Try.func45, Try.ntmps45
    go_wp2_with (first | (go_at_call 105; refine (new_s_any n _).mono ?_; rintro e w1 ⟨a, c, a', c', rfl, _, _, hb1⟩; rw [hss]; have HB1 := hid (((Below.refl w.heap.size w).alloc (Nat.le_refl _) _).trans (hb1.mono (by simp))); have hl1 : w.heap.size < w1.heap.size := Nat.lt_of_lt_of_le (by simp) hb1.size; have w1r0 : w1.cell? ⟨w.heap.size, 0, none⟩ = some (.int .i64 0) := (hb1.cell (p := ⟨w.heap.size, 0, none⟩) (by simp <;> omega)).trans (by go_simp); have w1rf0 : w1.frozen? ⟨w.heap.size, 0, none⟩ = false := (hb1.frozen (p := ⟨w.heap.size, 0, none⟩) (by simp <;> omega)).trans (by go_simp); have w1r1 : w1.cell? ⟨w.heap.size, 1, none⟩ = some (.slice none 0 0) := (hb1.cell (p := ⟨w.heap.size, 1, none⟩) (by simp <;> omega)).trans (by go_simp); have w1rf1 : w1.frozen? ⟨w.heap.size, 1, none⟩ = false := (hb1.frozen (p := ⟨w.heap.size, 1, none⟩) (by simp <;> omega)).trans (by go_simp); have w1r2 : w1.cell? ⟨w.heap.size, 2, none⟩ = some (.slice none 0 0) := (hb1.cell (p := ⟨w.heap.size, 2, none⟩) (by simp <;> omega)).trans (by go_simp); have w1rf2 : w1.frozen? ⟨w.heap.size, 2, none⟩ = false := (hb1.frozen (p := ⟨w.heap.size, 2, none⟩) (by simp <;> omega)).trans (by go_simp); have w1r3 : w1.cell? ⟨w.heap.size, 3, none⟩ = some (.bool false) := (hb1.cell (p := ⟨w.heap.size, 3, none⟩) (by simp <;> omega)).trans (by go_simp); have w1rf3 : w1.frozen? ⟨w.heap.size, 3, none⟩ = false := (hb1.frozen (p := ⟨w.heap.size, 3, none⟩) (by simp <;> omega)).trans (by go_simp); have w1r4 : w1.cell? ⟨w.heap.size, 4, none⟩ = some (.int .i64 0) := (hb1.cell (p := ⟨w.heap.size, 4, none⟩) (by simp <;> omega)).trans (by go_simp); have w1rf4 : w1.frozen? ⟨w.heap.size, 4, none⟩ = false := (hb1.frozen (p := ⟨w.heap.size, 4, none⟩) (by simp <;> omega)).trans (by go_simp); have w1r5 : w1.cell? ⟨w.heap.size, 5, none⟩ = some (.int .i64 0) := (hb1.cell (p := ⟨w.heap.size, 5, none⟩) (by simp <;> omega)).trans (by go_simp); have w1rf5 : w1.frozen? ⟨w.heap.size, 5, none⟩ = false := (hb1.frozen (p := ⟨w.heap.size, 5, none⟩) (by simp <;> omega)).trans (by go_simp); have w1r6 : w1.cell? ⟨w.heap.size, 6, none⟩ = some (.int .i64 0) := (hb1.cell (p := ⟨w.heap.size, 6, none⟩) (by simp <;> omega)).trans (by go_simp); have w1rf6 : w1.frozen? ⟨w.heap.size, 6, none⟩ = false := (hb1.frozen (p := ⟨w.heap.size, 6, none⟩) (by simp <;> omega)).trans (by go_simp); have w1r7 : w1.cell? ⟨w.heap.size, 7, none⟩ = some (.int .i64 0) := (hb1.cell (p := ⟨w.heap.size, 7, none⟩) (by simp <;> omega)).trans (by go_simp); have w1rf7 : w1.frozen? ⟨w.heap.size, 7, none⟩ = false := (hb1.frozen (p := ⟨w.heap.size, 7, none⟩) (by simp <;> omega)).trans (by go_simp); have w1r8 : w1.cell? ⟨w.heap.size, 8, none⟩ = some (.int .i64 0) := (hb1.cell (p := ⟨w.heap.size, 8, none⟩) (by simp <;> omega)).trans (by go_simp); have w1rf8 : w1.frozen? ⟨w.heap.size, 8, none⟩ = false := (hb1.frozen (p := ⟨w.heap.size, 8, none⟩) (by simp <;> omega)).trans (by go_simp); have w1r9 : w1.cell? ⟨w.heap.size, 9, none⟩ = some (.int .i64 0) := (hb1.cell (p := ⟨w.heap.size, 9, none⟩) (by simp <;> omega)).trans (by go_simp); have w1rf9 : w1.frozen? ⟨w.heap.size, 9, none⟩ = false := (hb1.frozen (p := ⟨w.heap.size, 9, none⟩) (by simp <;> omega)).trans (by go_simp); have w1r10 : w1.cell? ⟨w.heap.size, 10, none⟩ = some (.int .i64 0) := (hb1.cell (p := ⟨w.heap.size, 10, none⟩) (by simp <;> omega)).trans (by go_simp); have w1rf10 : w1.frozen? ⟨w.heap.size, 10, none⟩ = false := (hb1.frozen (p := ⟨w.heap.size, 10, none⟩) (by simp <;> omega)).trans (by go_simp); have w1r11 : w1.cell? ⟨w.heap.size, 11, none⟩ = some (.int .i64 0) := (hb1.cell (p := ⟨w.heap.size, 11, none⟩) (by simp <;> omega)).trans (by go_simp); have w1rf11 : w1.frozen? ⟨w.heap.size, 11, none⟩ = false := (hb1.frozen (p := ⟨w.heap.size, 11, none⟩) (by simp <;> omega)).trans (by go_simp); have w1r12 : w1.cell? ⟨w.heap.size, 12, none⟩ = some (.int .i64 0) := (hb1.cell (p := ⟨w.heap.size, 12, none⟩) (by simp <;> omega)).trans (by go_simp); have w1rf12 : w1.frozen? ⟨w.heap.size, 12, none⟩ = false := (hb1.frozen (p := ⟨w.heap.size, 12, none⟩) (by simp <;> omega)).trans (by go_simp); have w1r13 : w1.cell? ⟨w.heap.size, 13, none⟩ = some (.slice none 0 0) := (hb1.cell (p := ⟨w.heap.size, 13, none⟩) (by simp <;> omega)).trans (by go_simp); have w1rf13 : w1.frozen? ⟨w.heap.size, 13, none⟩ = false := (hb1.frozen (p := ⟨w.heap.size, 13, none⟩) (by simp <;> omega)).trans (by go_simp); have w1r14 : w1.cell? ⟨w.heap.size, 14, none⟩ = some (.slice none 0 0) := (hb1.cell (p := ⟨w.heap.size, 14, none⟩) (by simp <;> omega)).trans (by go_simp); have w1rf14 : w1.frozen? ⟨w.heap.size, 14, none⟩ = false := (hb1.frozen (p := ⟨w.heap.size, 14, none⟩) (by simp <;> omega)).trans (by go_simp); have w1r15 : w1.cell? ⟨w.heap.size, 15, none⟩ = some (.slice none 0 0) := (hb1.cell (p := ⟨w.heap.size, 15, none⟩) (by simp <;> omega)).trans (by go_simp); have w1rf15 : w1.frozen? ⟨w.heap.size, 15, none⟩ = false := (hb1.frozen (p := ⟨w.heap.size, 15, none⟩) (by simp <;> omega)).trans (by go_simp); clear hb1) | (go_at_call 106; refine (width_s _ _).mono ?_; rw [hwd]; rintro e wz ⟨rfl, hwz⟩; rw [hwz]; clear hwz wz))
    refine bodyPost_ret (v := worldV 0 none 0 0 none 0 none 0 0) (by simp [results, Try.results45, go_sem, worldV, hl1, w1r0, w1r1, w1r2, w1r3, w1r4, w1r5, w1r6, w1r7, w1r8, w1r9, w1r10, w1r11, w1r12, w1r13, w1r14, w1r15]) rfl (fin _ ?_)
    refine Below.alloc ?_ (by simp; omega) _
    iterate 16 (refine Below.setCell ?_ (by show w.heap.size ≤ w.heap.size; omega) _)
    exact HB1.out
  · have hss : (newSS n).length = 0 := by unfold newSS; rw [if_neg hn]; rfl
    go_enter Try.func45, Try.ntmps45
    go_wp2_with (first | (go_at_call 105; refine (new_s_any n _).mono ?_; rintro e w1 ⟨a, c, a', c', rfl, _, _, hb1⟩; rw [hss]; have HB1 := hid (((Below.refl w.heap.size w).alloc (Nat.le_refl _) _).trans (hb1.mono (by simp))); have hl1 : w.heap.size < w1.heap.size := Nat.lt_of_lt_of_le (by simp) hb1.size; have w1r0 : w1.cell? ⟨w.heap.size, 0, none⟩ = some (.int .i64 0) := (hb1.cell (p := ⟨w.heap.size, 0, none⟩) (by simp <;> omega)).trans (by go_simp); have w1rf0 : w1.frozen? ⟨w.heap.size, 0, none⟩ = false := (hb1.frozen (p := ⟨w.heap.size, 0, none⟩) (by simp <;> omega)).trans (by go_simp); have w1r1 : w1.cell? ⟨w.heap.size, 1, none⟩ = some (.slice none 0 0) := (hb1.cell (p := ⟨w.heap.size, 1, none⟩) (by simp <;> omega)).trans (by go_simp); have w1rf1 : w1.frozen? ⟨w.heap.size, 1, none⟩ = false := (hb1.frozen (p := ⟨w.heap.size, 1, none⟩) (by simp <;> omega)).trans (by go_simp); have w1r2 : w1.cell? ⟨w.heap.size, 2, none⟩ = some (.slice none 0 0) := (hb1.cell (p := ⟨w.heap.size, 2, none⟩) (by simp <;> omega)).trans (by go_simp); have w1rf2 : w1.frozen? ⟨w.heap.size, 2, none⟩ = false := (hb1.frozen (p := ⟨w.heap.size, 2, none⟩) (by simp <;> omega)).trans (by go_simp); have w1r3 : w1.cell? ⟨w.heap.size, 3, none⟩ = some (.bool false) := (hb1.cell (p := ⟨w.heap.size, 3, none⟩) (by simp <;> omega)).trans (by go_simp); have w1rf3 : w1.frozen? ⟨w.heap.size, 3, none⟩ = false := (hb1.frozen (p := ⟨w.heap.size, 3, none⟩) (by simp <;> omega)).trans (by go_simp); have w1r4 : w1.cell? ⟨w.heap.size, 4, none⟩ = some (.int .i64 0) := (hb1.cell (p := ⟨w.heap.size, 4, none⟩) (by simp <;> omega)).trans (by go_simp); have w1rf4 : w1.frozen? ⟨w.heap.size, 4, none⟩ = false := (hb1.frozen (p := ⟨w.heap.size, 4, none⟩) (by simp <;> omega)).trans (by go_simp); have w1r5 : w1.cell? ⟨w.heap.size, 5, none⟩ = some (.int .i64 0) := (hb1.cell (p := ⟨w.heap.size, 5, none⟩) (by simp <;> omega)).trans (by go_simp); have w1rf5 : w1.frozen? ⟨w.heap.size, 5, none⟩ = false := (hb1.frozen (p := ⟨w.heap.size, 5, none⟩) (by simp <;> omega)).trans (by go_simp); have w1r6 : w1.cell? ⟨w.heap.size, 6, none⟩ = some (.int .i64 0) := (hb1.cell (p := ⟨w.heap.size, 6, none⟩) (by simp <;> omega)).trans (by go_simp); have w1rf6 : w1.frozen? ⟨w.heap.size, 6, none⟩ = false := (hb1.frozen (p := ⟨w.heap.size, 6, none⟩) (by simp <;> omega)).trans (by go_simp); have w1r7 : w1.cell? ⟨w.heap.size, 7, none⟩ = some (.int .i64 0) := (hb1.cell (p := ⟨w.heap.size, 7, none⟩) (by simp <;> omega)).trans (by go_simp); have w1rf7 : w1.frozen? ⟨w.heap.size, 7, none⟩ = false := (hb1.frozen (p := ⟨w.heap.size, 7, none⟩) (by simp <;> omega)).trans (by go_simp); have w1r8 : w1.cell? ⟨w.heap.size, 8, none⟩ = some (.int .i64 0) := (hb1.cell (p := ⟨w.heap.size, 8, none⟩) (by simp <;> omega)).trans (by go_simp); have w1rf8 : w1.frozen? ⟨w.heap.size, 8, none⟩ = false := (hb1.frozen (p := ⟨w.heap.size, 8, none⟩) (by simp <;> omega)).trans (by go_simp); have w1r9 : w1.cell? ⟨w.heap.size, 9, none⟩ = some (.int .i64 0) := (hb1.cell (p := ⟨w.heap.size, 9, none⟩) (by simp <;> omega)).trans (by go_simp); have w1rf9 : w1.frozen? ⟨w.heap.size, 9, none⟩ = false := (hb1.frozen (p := ⟨w.heap.size, 9, none⟩) (by simp <;> omega)).trans (by go_simp); have w1r10 : w1.cell? ⟨w.heap.size, 10, none⟩ = some (.int .i64 0) := (hb1.cell (p := ⟨w.heap.size, 10, none⟩) (by simp <;> omega)).trans (by go_simp); have w1rf10 : w1.frozen? ⟨w.heap.size, 10, none⟩ = false := (hb1.frozen (p := ⟨w.heap.size, 10, none⟩) (by simp <;> omega)).trans (by go_simp); have w1r11 : w1.cell? ⟨w.heap.size, 11, none⟩ = some (.int .i64 0) := (hb1.cell (p := ⟨w.heap.size, 11, none⟩) (by simp <;> omega)).trans (by go_simp); have w1rf11 : w1.frozen? ⟨w.heap.size, 11, none⟩ = false := (hb1.frozen (p := ⟨w.heap.size, 11, none⟩) (by simp <;> omega)).trans (by go_simp); have w1r12 : w1.cell? ⟨w.heap.size, 12, none⟩ = some (.int .i64 0) := (hb1.cell (p := ⟨w.heap.size, 12, none⟩) (by simp <;> omega)).trans (by go_simp); have w1rf12 : w1.frozen? ⟨w.heap.size, 12, none⟩ = false := (hb1.frozen (p := ⟨w.heap.size, 12, none⟩) (by simp <;> omega)).trans (by go_simp); have w1r13 : w1.cell? ⟨w.heap.size, 13, none⟩ = some (.slice none 0 0) := (hb1.cell (p := ⟨w.heap.size, 13, none⟩) (by simp <;> omega)).trans (by go_simp); have w1rf13 : w1.frozen? ⟨w.heap.size, 13, none⟩ = false := (hb1.frozen (p := ⟨w.heap.size, 13, none⟩) (by simp <;> omega)).trans (by go_simp); have w1r14 : w1.cell? ⟨w.heap.size, 14, none⟩ = some (.slice none 0 0) := (hb1.cell (p := ⟨w.heap.size, 14, none⟩) (by simp <;> omega)).trans (by go_simp); have w1rf14 : w1.frozen? ⟨w.heap.size, 14, none⟩ = false := (hb1.frozen (p := ⟨w.heap.size, 14, none⟩) (by simp <;> omega)).trans (by go_simp); have w1r15 : w1.cell? ⟨w.heap.size, 15, none⟩ = some (.slice none 0 0) := (hb1.cell (p := ⟨w.heap.size, 15, none⟩) (by simp <;> omega)).trans (by go_simp); have w1rf15 : w1.frozen? ⟨w.heap.size, 15, none⟩ = false := (hb1.frozen (p := ⟨w.heap.size, 15, none⟩) (by simp <;> omega)).trans (by go_simp); clear hb1))
    refine bodyPost_ret (v := worldV 0 none 0 0 none 0 none 0 0) (by simp [results, Try.results45, go_sem, worldV, hl1, w1r0, w1r1, w1r2, w1r3, w1r4, w1r5, w1r6, w1r7, w1r8, w1r9, w1r10, w1r11, w1r12, w1r13, w1r14, w1r15]) rfl (fin _ ?_)
    refine Below.alloc ?_ (by simp; omega) _
    iterate 16 (refine Below.setCell ?_ (by show w.heap.size ≤ w.heap.size; omega) _)
    exact HB1.out

set_option maxHeartbeats 8000000 in
theorem nw_i_no (n wd : Int) (w : World) (h : ¬ nwOk n wd) :
    Calls Try.prog 46 #[.int .i64 n, .int .i64 wd] w fun e w' => NwPost w w' e 0 [] 0 := by
  have fin : ∀ w', Below w.heap.size w w' → NwPost w w' (.returned (worldV 0 none 0 0 none 0 none 0 0)) 0 [] 0 := fun w' hb => ⟨none, 0, none, 0, none, 0, rfl, .inl rfl, .inl rfl, fun g hg => (by cases hg), fun g hg => (by cases hg), hb⟩
  by_cases hn : 8 ≤ n ∧ n ≤ 200
  · have hd : decide (8 ≤ n ∧ n ≤ 200) = true := decide_eq_true hn
    have hwd : decide (1 ≤ wd ∧ wd ≤ 8) = false := decide_eq_false (fun x => h ⟨hn, x⟩)
    go_enter Try.func46, Try.ntmps46
    go_wp2_with (first | (go_at_call 107; refine (dsize_i _ _).mono ?_; rw [hd]; rintro e wz ⟨rfl, hwz⟩; rw [hwz]; clear hwz wz) | (go_at_call 63; refine (width_i _ _).mono ?_; rw [hwd]; rintro e wz ⟨rfl, hwz⟩; rw [hwz]; clear hwz wz))
    refine bodyPost_ret (v := worldV 0 none 0 0 none 0 none 0 0) (by simp [results, Try.results46, go_sem, worldV]) rfl (fin _ ?_)
    exact (Below.refl _ _).alloc (Nat.le_refl _) _
  · have hd : decide (8 ≤ n ∧ n ≤ 200) = false := decide_eq_false hn
    go_enter Try.func46, Try.ntmps46
    go_wp2_with (first | (go_at_call 107; refine (dsize_i _ _).mono ?_; rw [hd]; rintro e wz ⟨rfl, hwz⟩; rw [hwz]; clear hwz wz))
    refine bodyPost_ret (v := worldV 0 none 0 0 none 0 none 0 0) (by simp [results, Try.results46, go_sem, worldV]) rfl (fin _ ?_)
    exact (Below.refl _ _).alloc (Nat.le_refl _) _

end Go.Proofs.Ytnmaknnnmjfhkad.nw
