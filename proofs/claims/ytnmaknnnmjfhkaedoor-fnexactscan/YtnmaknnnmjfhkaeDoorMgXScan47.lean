import Derived.Test.YtnmaknnnmjfhkaeDoorQxScanRow
import Derived.Test.YtnmaknnnmjfhkaeDoorMgXScan1
import Derived.Test.YtnmaknnnmjfhkaeDoorQxScanMkB

set_option maxHeartbeats 16000000
set_option maxRecDepth 8000
namespace Go.Proofs.YtnmaknnnmjfhkaeDoor
open Go.RowKit
set_option maxRecDepth 4000
set_option linter.unusedVariables false

/-- The decimal digits of a number, as bytes. -/
def digs (k : Nat) : List Int := if h : k = 0 then [] else digs (k / 10) ++ [48 + ((k % 10 : Nat) : Int)]
theorem digs_zero : digs 0 = [] := by unfold digs; simp
theorem digs_pos (k : Nat) (h : k ≠ 0) : digs k = digs (k / 10) ++ [48 + ((k % 10 : Nat) : Int)] := by
  conv => lhs; unfold digs
  simp [h]
theorem digs_length : ∀ (n k : Nat), k ≤ n → (digs k).length ≤ k
  | 0, k, h => by rw [show k = 0 by omega, digs_zero]; simp
  | n + 1, k, h => by
    by_cases hk : k = 0
    · rw [hk, digs_zero]; simp
    · rw [digs_pos k hk, List.length_append]
      have := digs_length n (k / 10) (by omega)
      simp; omega
/-- The text that marks a place. -/
def mtext (k : Nat) : ByteArray := ⟨#[109]⟩ ++ strOfNums (digs k)

set_option maxHeartbeats 16000000 in
theorem mark_text (k : Nat) (w : World) (h0 : 0 < k) (h1 : k ≤ 100000000) :
    Calls Tryd.prog 89 #[.int .i64 (k : Int)] w fun e w' => e = .returned (.string (mtext k)) ∧ Below w.heap.size w w' := by
  have hb1 := bytes1
  have h0' : (0 : Int) < (k : Int) := by omega
  have HD0 := hid (digs_length k k (Nat.le_refl _))
  go_enter Tryd.func89, Tryd.ntmps89
  go_wp2
  go_loopw [0, 3] (fun x o wr => ∃ (j : Nat) (r : List Int), j ≤ 100000000 ∧ r.length ≤ 100000000 ∧ x = .int .i64 (j : Int) ∧ o = .string (strOfNums r) ∧ Hid (digs k = digs j ++ r) ∧ Below w.heap.size w wr) (fun x _ _ => (intOf x).toNat)
  case atStart => exact ⟨k, [], h1, by simp, rfl, rfl, hid (by simp), Below.refl _ _⟩
  case round =>
    obtain ⟨j, r, hj, hr, rfl, rfl, HJ, hbel⟩ := hrel
    by_cases hp : 0 < j
    · have hp' : (0 : Int) < (j : Int) := by omega
      have hz1 : (strOfNums [48 + (j : Int) % 10]).size ≤ 1 := by rw [strOfNums_size]; simp
      have hz2 : (strOfNums r).size ≤ 100000000 := by rw [strOfNums_size]; exact hr
      have HN : Hid (digs k = digs (j / 10) ++ ((48 + (j : Int) % 10) :: r)) := by
        show _ = _
        rw [HJ.out, digs_pos j (by omega)]
        simp
      have HLN : Hid (((48 + (j : Int) % 10) :: r).length ≤ 100000000) := by
        have h1 := congrArg List.length HN.out
        have h2 := HD0.out
        rw [List.length_append] at h1
        show _ ≤ _
        omega
      go_wp2
      go_roundw
      case rel => exact ⟨j / 10, _, by omega, HLN.out, by go_num, by rw [← strOfNums_append]; rfl, HN, hbel.alloc hbel.size _⟩
      case measure => simp [intOf]; omega
    · have hz2 : (strOfNums r).size ≤ 100000000 := by rw [strOfNums_size]; exact hr
      have hj0 : Hid (j = 0) := by show _ = _; omega
      have hnp : ¬ ((0 : Int) < (j : Int)) := by omega
      go_wp2
      go_ret
      refine ⟨ret_str ?_, hbel⟩
      unfold mtext
      rw [HJ.out, hj0.out, digs_zero]
      rfl
theorem mark_text' (ki : Int) (k : Nat) (hki : ki = (k : Int)) (w : World) (h0 : 0 < k) (h1 : k ≤ 100000000) :
    Calls Tryd.prog 89 #[.int .i64 ki] w fun e w' => e = .returned (.string (mtext k)) ∧ Below w.heap.size w w' := by
  subst hki; exact mark_text k w h0 h1
end Go.Proofs.YtnmaknnnmjfhkaeDoor

namespace Go.Proofs.YtnmaknnnmjfhkaeDoor
open Go.RowKit
set_option maxRecDepth 4000
set_option linter.unusedVariables false

def marks (k n : Nat) : List ByteArray := (List.range n).map fun i => mtext (k + i)
theorem marks_length (k n : Nat) : (marks k n).length = n := by simp [marks]
theorem marks_succ (k n : Nat) : marks k (n + 1) = marks k n ++ [mtext (k + n)] := by simp [marks, List.range_succ]
def mixed (k i : Nat) (ss : List ByteArray) : List Value := (marks k i ++ ss.drop i).map Value.string
theorem mixed_length (k i : Nat) (ss : List ByteArray) (h : i ≤ ss.length) : (mixed k i ss).length = ss.length := by simp [mixed, marks_length]; omega
theorem mixed_set (k i : Nat) (ss : List ByteArray) (h : i < ss.length) : (mixed k i ss).set i (.string (mtext (k + i))) = mixed k (i + 1) ss := by
  unfold mixed
  rw [marks_succ, drop_at ss i ByteArray.empty h, List.map_append, List.map_append, List.map_append, List.map_cons, List.set_append_right _ _ (by simp [marks_length])]
  simp [marks_length]
set_option maxHeartbeats 16000000 in
theorem mark_strs (a : Option Addr) (ss : List ByteArray) (c k : Nat) (w : World) (h : OwnS w a (ss.map Value.string)) (hk : 0 < k) (hl : k + ss.length ≤ 100000000) :
    Calls Tryd.prog 65 #[.slice a ss.length c, .int .i64 (k : Int)] w fun e w' => e = .returned (.int .i64 ((k + ss.length : Nat) : Int)) ∧ w.grownBy w' (blk a ss.length) ∧ OwnS w' a ((marks k ss.length).map Value.string) := by
  by_cases hss : ss = []
  · subst hss
    go_enter Tryd.func65, Tryd.ntmps65
    go_wp2
    refine wp_loop_rounds 1 ?_
    rw [rounds_succ]
    go_wp2
    go_ret
    exact ⟨rfl, grown_refl _ _, .inl rfl⟩
  · obtain ⟨g, rfl, hrow⟩ := h.resolve_left (by simpa using hss)
    rw [blk_pos g 0 ss.length (fun e => hss (List.eq_nil_of_length_eq_zero e))]
    have hr0 : Row w g (mixed k 0 ss) := by simpa [mixed, marks] using hrow
    clear hrow hss
    go_enter Tryd.func65, Tryd.ntmps65
    go_wp2
    go_loopw [1, 5] (fun x i wr => ∃ j : Nat, j ≤ ss.length ∧ i = .int .i64 (j : Int) ∧ x = .int .i64 ((k + j : Nat) : Int) ∧ Row wr g (mixed k j ss) ∧ w.grownBy wr (some g)) (fun _ i _ => ss.length - (intOf i).toNat)
    case atStart => exact ⟨0, Nat.zero_le _, rfl, rfl, hr0, grown_refl _ _⟩
    case round =>
      clear hr0
      obtain ⟨j, hj, rfl, rfl, hrow, hgr⟩ := hrel
      have HR := hid hrow
      have HG := hid hgr
      clear hrow hgr
      by_cases hlt : j < ss.length
      · have HL := hid (mixed_length k j ss hj)
        have hkj : ((k + j : Nat) : Int) ≤ 100000000 := by omega
        have hkj0 : (0 : Int) < ((k + j : Nat) : Int) := by omega
        go_wp2_with (go_at_call 89; refine (mark_text (k + j) _ (by omega) (by omega)).mono ?_; rintro e w2 ⟨rfl, hb2⟩; have hr2 := HR.out.below hb2; obtain ⟨u, hu⟩ : ∃ u, w2.cell? ⟨g, j, none⟩ = some u := ⟨_, hr2.cell j _ (List.getElem?_eq_getElem (by rw [HL.out]; omega))⟩; have hf := hr2.froz j (by rw [HL.out]; omega); have HR2 := hid hr2; have HB2 := hid hb2; clear hr2 hb2)
        go_roundw
        case rel => exact ⟨j + 1, by omega, by go_num, by go_num, by rw [← mixed_set k j ss hlt]; exact HR2.out.set j (by rw [HL.out]; omega) _, grown_set (grown_trans HG.out (grown_of_below _ HB2.out)) _ _⟩
        case measure => simp [intOf]; omega
      · have hjl : Hid (j = ss.length) := by show _ = _; omega
        go_wp2
        go_ret
        refine ⟨ret_int (by rw [hjl.out]), HG.out, .inr ⟨g, rfl, ?_⟩⟩
        have := HR.out
        rw [hjl.out] at this
        simpa [mixed] using this

set_option maxHeartbeats 16000000 in
theorem held_strs (a : Option Addr) (n c k : Nat) (w : World) (h : OwnS w a ((marks k n).map Value.string)) (hk : 0 < k) (hl : k + n ≤ 100000000) :
    Calls Tryd.prog 67 #[.slice a n c, .int .i64 (k : Int)] w fun e w' => e = .returned (.int .i64 ((k + n : Nat) : Int)) ∧ Below w.heap.size w w' := by
  rcases h with h | ⟨g, rfl, hrow⟩
  · have hn : n = 0 := by have := congrArg List.length h; simpa [marks] using this
    subst hn
    go_enter Tryd.func67, Tryd.ntmps67
    go_wp2
    refine wp_loop_rounds 1 ?_
    rw [rounds_succ]
    go_wp2
    go_ret
    exact ⟨rfl, Below.refl _ _⟩
  · have HROW := hid hrow
    clear hrow
    go_enter Tryd.func67, Tryd.ntmps67
    go_wp2
    go_loopw [1, 5] (fun x i wr => ∃ j : Nat, j ≤ n ∧ i = .int .i64 (j : Int) ∧ x = .int .i64 ((k + j : Nat) : Int) ∧ Below w.heap.size w wr) (fun _ i _ => n - (intOf i).toNat)
    case atStart => exact ⟨0, Nat.zero_le _, rfl, rfl, Below.refl _ _⟩
    case round =>
      obtain ⟨j, hj, rfl, rfl, hbel⟩ := hrel
      have HR := hid (HROW.out.below hbel)
      have HB := hid hbel
      clear hbel
      by_cases hlt : j < n
      · have hkj : ((k + j : Nat) : Int) ≤ 100000000 := by omega
        have hkj0 : (0 : Int) < ((k + j : Nat) : Int) := by omega
        have hj0 : (0 : Int) ≤ (j : Int) := by omega
        have hj1 : (j : Int) < (n : Int) := by omega
        have HC : Hid (wr.cell? ⟨g, j, none⟩ = some (.string (mtext (k + j)))) := HR.out.cell j _ (by simp [marks, hlt])
        have lt1 : g < wr.heap.size := HR.out.lt
        go_wp2_with fail
        go_region_held3 (fun w' => w'.cell? ⟨g, j, none⟩ = some (.string (mtext (k + j))))
          (first | assumption | exact HC.out | exact (hb2.cell (p := ⟨g, j, none⟩) lt1).trans HC.out)
          (first | (go_at_call 89; refine (mark_text (k + j) _ (by omega) (by omega)).mono ?_; rintro e w2 ⟨rfl, hb2⟩))
        go_wp2
        go_roundw
        case rel => exact ⟨j + 1, by omega, by go_num, by go_num, HB.out.drew.trans (hb2.mono HB.out.size)⟩
        case measure => simp [intOf]; omega
      · have hjl : Hid (j = n) := by show _ = _; omega
        go_wp2
        go_ret
        exact ⟨ret_int (by rw [hjl.out]), HB.out⟩
end Go.Proofs.YtnmaknnnmjfhkaeDoor
