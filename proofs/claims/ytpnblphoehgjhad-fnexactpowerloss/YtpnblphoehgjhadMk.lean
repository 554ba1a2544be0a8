import Derived.Test.YtpnblphoehgjhadTo
import Derived.Test.YtpnblphoehgjhadBytes
namespace Go.Proofs.Ytpnblphoehgjhad
open Go.RowKit
set_option linter.unusedVariables false

/-- The decimal digits of a number, as bytes. -/
def digs (k : Nat) : List Int := if h : k = 0 then [] else digs (k / 10) ++ [48 + ((k % 10 : Nat) : Int)]
termination_by k
decreasing_by omega
theorem digs_zero : digs 0 = [] := by unfold digs; simp
theorem digs_pos (k : Nat) (h : k ≠ 0) : digs k = digs (k / 10) ++ [48 + ((k % 10 : Nat) : Int)] := by
  conv => lhs; unfold digs
  simp [h]
theorem digs_length : ∀ (n k : Nat), k ≤ n → (digs k).length ≤ k
  | 0, k, h => by rw [show k = 0 by omega, digs_zero]; simp
  | n + 1, k, h => by
    by_cases hk : k = 0
    · rw [hk, digs_zero]; simp
    · rw [digs_pos k hk, List.length_append]
      have := digs_length n (k / 10) (by omega)
      simp; omega
/-- The text that marks a place. -/
def mtext (k : Nat) : ByteArray := ⟨#[109]⟩ ++ strOfNums (digs k)

set_option maxHeartbeats 400000 in
theorem mark_text (k : Nat) (w : World) (h0 : 0 < k) (h1 : k ≤ 100000000) :
    Calls Try.prog 44 #[.int .i64 (k : Int)] w fun e w' => e = .returned (.string (mtext k)) ∧ Below w.heap.size w w' := by
  have hb1 := bytes1
  have h0' : (0 : Int) < (k : Int) := by omega
  have HD0 := hid (digs_length k k (Nat.le_refl _))
  go_enter Try.func44, Try.ntmps44
  go_wp2
  go_loopw [0, 3] (fun x o wr => ∃ (j : Nat) (r : List Int), j ≤ 100000000 ∧ r.length ≤ 100000000 ∧ x = .int .i64 (j : Int) ∧ o = .string (strOfNums r) ∧ Hid (digs k = digs j ++ r) ∧ Below w.heap.size w wr) (fun x _ _ => (intOf x).toNat)
  case atStart => exact ⟨k, [], h1, by simp, rfl, rfl, hid (by simp), Below.refl _ _⟩
  case round =>
    obtain ⟨j, r, hj, hr, rfl, rfl, HJ, hbel⟩ := hrel
    by_cases hp : 0 < j
    · have hp' : (0 : Int) < (j : Int) := by omega
      have hz1 : (strOfNums [48 + (j : Int) % 10]).size ≤ 1 := by rw [strOfNums_size]; simp
      have hz2 : (strOfNums r).size ≤ 100000000 := by rw [strOfNums_size]; exact hr
      have HN : Hid (digs k = digs (j / 10) ++ ((48 + (j : Int) % 10) :: r)) := by
        show _ = _
        rw [HJ.out, digs_pos j (by omega)]
        simp
      have HLN : Hid (((48 + (j : Int) % 10) :: r).length ≤ 100000000) := by
        have h1 := congrArg List.length HN.out
        have h2 := HD0.out
        rw [List.length_append] at h1
        show _ ≤ _
        omega
      go_wp2
      go_roundw
      case rel => exact ⟨j / 10, _, by omega, HLN.out, by go_num, by rw [← strOfNums_append]; rfl, HN, hbel.alloc hbel.size _⟩
      case measure => simp [intOf]; omega
    · have hz2 : (strOfNums r).size ≤ 100000000 := by rw [strOfNums_size]; exact hr
      have hj0 : Hid (j = 0) := by show _ = _; omega
      have hnp : ¬ ((0 : Int) < (j : Int)) := by omega
      go_wp2
      go_ret
      refine ⟨ret_str ?_, hbel⟩
      unfold mtext
      rw [HJ.out, hj0.out, digs_zero]
      rfl

theorem grown_trans {a b c : World} {r : Option Nat} (h : a.grownBy b r) (k : b.grownBy c r) : a.grownBy c r :=
  ⟨k.os.trans h.os, k.tape.trans h.tape, k.output.trans h.output, Nat.le_trans h.size k.size, fun i hi hr => (k.block i (Nat.lt_of_lt_of_le hi h.size) hr).trans (h.block i hi hr)⟩
theorem grown_of_below {a b : World} (r : Option Nat) (h : Below a.heap.size a b) : a.grownBy b r := ⟨h.os, h.tape, h.output, h.size, fun i hi _ => h.block i hi⟩
theorem grown_refl (a : World) (r : Option Nat) : a.grownBy a r := ⟨rfl, rfl, rfl, Nat.le_refl _, fun _ _ _ => rfl⟩
theorem grown_set {a b : World} {g : Nat} (h : a.grownBy b (some g)) (i : Nat) (v : Value) : a.grownBy (b.setCell ⟨g, i, none⟩ v) (some g) :=
  grown_trans h ⟨rfl, rfl, rfl, by simp [World.setCell], fun j _ hj => Below.heap_setCell _ _ _ _ (fun e => hj (by rw [e]))⟩
theorem grown_below {a b : World} {r : Option Nat} {B : Nat} (h : a.grownBy b r) (hB : B ≤ a.heap.size) (hr : ∀ g, r = some g → B ≤ g) : Below B a b :=
  ⟨h.os, h.tape, h.output, h.size, fun k hk => h.block k (by omega) (fun e => by have := hr k e.symm; omega)⟩
theorem Row.grown {w w' : World} {g : Nat} {cs : List Value} {r : Option Nat} (h : Row w g cs) (hg : w.grownBy w' r) (hn : some g ≠ r) : Row w' g cs :=
  ⟨Nat.lt_of_lt_of_le h.lt hg.size, fun i v hv => (World.cell?_of_block (a := ⟨g, i, none⟩) (hg.block g h.lt hn)).trans (h.cell i v hv), fun i hi => (World.frozen?_of_block (a := ⟨g, i, none⟩) (hg.block g h.lt hn)).trans (h.froz i hi)⟩
/-- A slice whose cells the call owns: nothing, or a row from its beginning. -/
def OwnS (w : World) (a : Option Addr) (cs : List Value) : Prop := cs = [] ∨ ∃ g, a = some ⟨g, 0, none⟩ ∧ Row w g cs
def marks (k n : Nat) : List ByteArray := (List.range n).map fun i => mtext (k + i)
theorem marks_length (k n : Nat) : (marks k n).length = n := by simp [marks]
theorem marks_succ (k n : Nat) : marks k (n + 1) = marks k n ++ [mtext (k + n)] := by simp [marks, List.range_succ]
def mixed (k i : Nat) (ss : List ByteArray) : List Value := (marks k i ++ ss.drop i).map Value.string
theorem mixed_length (k i : Nat) (ss : List ByteArray) (h : i ≤ ss.length) : (mixed k i ss).length = ss.length := by simp [mixed, marks_length]; omega
theorem mixed_set (k i : Nat) (ss : List ByteArray) (h : i < ss.length) : (mixed k i ss).set i (.string (mtext (k + i))) = mixed k (i + 1) ss := by
  unfold mixed
  rw [marks_succ, drop_at ss i ByteArray.empty h, List.map_append, List.map_append, List.map_append, List.map_cons, List.set_append_right _ _ (by simp [marks_length])]
  simp [marks_length]
/-- The block that a slice of so many elements lies in. -/
def blk (a : Option Addr) (n : Nat) : Option Nat := if n = 0 then none else a.map (·.block)
theorem blk_zero (a : Option Addr) : blk a 0 = none := rfl
theorem blk_pos (b o : Nat) (n : Nat) (h : n ≠ 0) : blk (some ⟨b, o, none⟩) n = some b := by simp [blk, h]

set_option maxHeartbeats 400000 in
theorem mark_strs (a : Option Addr) (ss : List ByteArray) (c k : Nat) (w : World) (h : OwnS w a (ss.map Value.string)) (hk : 0 < k) (hl : k + ss.length ≤ 100000000) :
    Calls Try.prog 34 #[.slice a ss.length c, .int .i64 (k : Int)] w fun e w' => e = .returned (.int .i64 ((k + ss.length : Nat) : Int)) ∧ w.grownBy w' (blk a ss.length) ∧ OwnS w' a ((marks k ss.length).map Value.string) := by
  by_cases hss : ss = []
  · subst hss
    go_enter Try.func34, Try.ntmps34
    go_wp2
    refine wp_loop_rounds 1 ?_
    rw [rounds_succ]
    go_wp2
    go_ret
    exact ⟨rfl, grown_refl _ _, .inl rfl⟩
  · obtain ⟨g, rfl, hrow⟩ := h.resolve_left (by simpa using hss)
    rw [blk_pos g 0 ss.length (fun e => hss (List.eq_nil_of_length_eq_zero e))]
    have hr0 : Row w g (mixed k 0 ss) := by simpa [mixed, marks] using hrow
    clear hrow hss
    go_enter Try.func34, Try.ntmps34
    go_wp2
    go_loopw [1, 5] (fun x i wr => ∃ j : Nat, j ≤ ss.length ∧ i = .int .i64 (j : Int) ∧ x = .int .i64 ((k + j : Nat) : Int) ∧ Row wr g (mixed k j ss) ∧ w.grownBy wr (some g)) (fun _ i _ => ss.length - (intOf i).toNat)
    case atStart => exact ⟨0, Nat.zero_le _, rfl, rfl, hr0, grown_refl _ _⟩
    case round =>
      clear hr0
      obtain ⟨j, hj, rfl, rfl, hrow, hgr⟩ := hrel
      have HR := hid hrow
      have HG := hid hgr
      clear hrow hgr
      by_cases hlt : j < ss.length
      · have HL := hid (mixed_length k j ss hj)
        have hkj : ((k + j : Nat) : Int) ≤ 100000000 := by omega
        have hkj0 : (0 : Int) < ((k + j : Nat) : Int) := by omega
        go_wp2_with (go_at_call 44; refine (mark_text (k + j) _ (by omega) (by omega)).mono ?_; rintro e w2 ⟨rfl, hb2⟩; have hr2 := HR.out.below hb2; obtain ⟨u, hu⟩ : ∃ u, w2.cell? ⟨g, j, none⟩ = some u := ⟨_, hr2.cell j _ (List.getElem?_eq_getElem (by rw [HL.out]; omega))⟩; have hf := hr2.froz j (by rw [HL.out]; omega); have HR2 := hid hr2; have HB2 := hid hb2; clear hr2 hb2)
        go_roundw
        case rel => exact ⟨j + 1, by omega, by go_num, by go_num, by rw [← mixed_set k j ss hlt]; exact HR2.out.set j (by rw [HL.out]; omega) _, grown_set (grown_trans HG.out (grown_of_below _ HB2.out)) _ _⟩
        case measure => simp [intOf]; omega
      · have hjl : Hid (j = ss.length) := by show _ = _; omega
        go_wp2
        go_ret
        refine ⟨ret_int (by rw [hjl.out]), HG.out, .inr ⟨g, rfl, ?_⟩⟩
        have := HR.out
        rw [hjl.out] at this
        simpa [mixed] using this

set_option maxHeartbeats 400000 in
theorem held_strs (a : Option Addr) (n c k : Nat) (w : World) (h : OwnS w a ((marks k n).map Value.string)) (hk : 0 < k) (hl : k + n ≤ 100000000) :
    Calls Try.prog 36 #[.slice a n c, .int .i64 (k : Int)] w fun e w' => e = .returned (.int .i64 ((k + n : Nat) : Int)) ∧ Below w.heap.size w w' := by
  rcases h with h | ⟨g, rfl, hrow⟩
  · have hn : n = 0 := by have := congrArg List.length h; simpa [marks] using this
    subst hn
    go_enter Try.func36, Try.ntmps36
    go_wp2
    refine wp_loop_rounds 1 ?_
    rw [rounds_succ]
    go_wp2
    go_ret
    exact ⟨rfl, Below.refl _ _⟩
  · have HROW := hid hrow
    clear hrow
    go_enter Try.func36, Try.ntmps36
    go_wp2
    go_loopw [1, 5] (fun x i wr => ∃ j : Nat, j ≤ n ∧ i = .int .i64 (j : Int) ∧ x = .int .i64 ((k + j : Nat) : Int) ∧ Below w.heap.size w wr) (fun _ i _ => n - (intOf i).toNat)
    case atStart => exact ⟨0, Nat.zero_le _, rfl, rfl, Below.refl _ _⟩
    case round =>
      obtain ⟨j, hj, rfl, rfl, hbel⟩ := hrel
      have HR := hid (HROW.out.below hbel)
      have HB := hid hbel
      clear hbel
      by_cases hlt : j < n
      · have hkj : ((k + j : Nat) : Int) ≤ 100000000 := by omega
        have hkj0 : (0 : Int) < ((k + j : Nat) : Int) := by omega
        have hj0 : (0 : Int) ≤ (j : Int) := by omega
        have hj1 : (j : Int) < (n : Int) := by omega
        have HC : Hid (wr.cell? ⟨g, j, none⟩ = some (.string (mtext (k + j)))) := HR.out.cell j _ (by simp [marks, hlt])
        have lt1 : g < wr.heap.size := HR.out.lt
        go_wp2_with fail
        go_region_held3 (fun w' => w'.cell? ⟨g, j, none⟩ = some (.string (mtext (k + j))))
          (first | assumption | exact HC.out | exact (hb2.cell (p := ⟨g, j, none⟩) lt1).trans HC.out)
          (first | (go_at_call 44; refine (mark_text (k + j) _ (by omega) (by omega)).mono ?_; rintro e w2 ⟨rfl, hb2⟩))
        go_wp2
        go_roundw
        case rel => exact ⟨j + 1, by omega, by go_num, by go_num, HB.out.drew.trans (hb2.mono HB.out.size)⟩
        case measure => simp [intOf]; omega
      · have hjl : Hid (j = n) := by show _ = _; omega
        go_wp2
        go_ret
        exact ⟨ret_int (by rw [hjl.out]), HB.out⟩

def wmarks (k n : Nat) : List (Int × ByteArray) := (List.range n).map fun i => (((k + 2 * i : Nat) : Int), mtext (k + 2 * i + 1))
theorem wmarks_length (k n : Nat) : (wmarks k n).length = n := by simp [wmarks]
theorem wmarks_succ (k n : Nat) : wmarks k (n + 1) = wmarks k n ++ [(((k + 2 * n : Nat) : Int), mtext (k + 2 * n + 1))] := by simp [wmarks, List.range_succ]
def wmixed (k i : Nat) (ws : List (Int × ByteArray)) : List Value := wcells (wmarks k i ++ ws.drop i)
theorem wmixed_length (k i : Nat) (ws : List (Int × ByteArray)) (h : i ≤ ws.length) : (wmixed k i ws).length = ws.length * 2 := by simp [wmixed, wcells_length, wmarks_length]; omega
theorem wmixed_set (k i : Nat) (ws : List (Int × ByteArray)) (h : i < ws.length) : ((wmixed k i ws).set (i * 2) (.int .i64 ((k + 2 * i : Nat) : Int))).set (i * 2 + 1) (.string (mtext (k + 2 * i + 1))) = wmixed k (i + 1) ws := by
  have el : (wcells (wmarks k i)).length = i * 2 := by rw [wcells_length, wmarks_length]
  unfold wmixed
  rw [wmarks_succ, drop_at ws i (0, ByteArray.empty) h, wcells_append, wcells_append, wcells_append, List.set_append_right _ _ (by omega), List.set_append_right _ _ (by omega), el]
  simp [wcells]

theorem mark_text' (ki : Int) (k : Nat) (hki : ki = (k : Int)) (w : World) (h0 : 0 < k) (h1 : k ≤ 100000000) :
    Calls Try.prog 44 #[.int .i64 ki] w fun e w' => e = .returned (.string (mtext k)) ∧ Below w.heap.size w w' := by
  subst hki; exact mark_text k w h0 h1

set_option maxHeartbeats 800000 in
theorem mark_wrs (a : Option Addr) (ws : List (Int × ByteArray)) (c k : Nat) (w : World) (h : OwnS w a (wcells ws)) (hk : 0 < k) (hl : k + 2 * ws.length ≤ 100000000) :
    Calls Try.prog 35 #[.slice a ws.length c, .int .i64 (k : Int)] w fun e w' => e = .returned (.int .i64 ((k + 2 * ws.length : Nat) : Int)) ∧ w.grownBy w' (blk a ws.length) ∧ OwnS w' a (wcells (wmarks k ws.length)) := by
  by_cases hss : ws = []
  · skip
    subst hss
    go_enter Try.func35, Try.ntmps35
    go_wp2
    refine wp_loop_rounds 1 ?_
    rw [rounds_succ]
    go_wp2
    go_ret
    exact ⟨rfl, grown_refl _ _, .inl rfl⟩
  · obtain ⟨g, rfl, hrow⟩ := h.resolve_left (fun e => hss (by have := congrArg List.length e; rw [wcells_length, List.length_nil] at this; exact List.eq_nil_of_length_eq_zero (by omega)))
    rw [blk_pos g 0 ws.length (fun e => hss (List.eq_nil_of_length_eq_zero e))]
    have hr0 : Row w g (wmixed k 0 ws) := by simpa [wmixed, wmarks] using hrow
    clear hrow hss
    go_enter Try.func35, Try.ntmps35
    go_wp2
    go_loopw [1, 5] (fun x i wr => ∃ j m : Nat, j ≤ ws.length ∧ i = .int .i64 (j : Int) ∧ x = .int .i64 (m : Int) ∧ Hid (m = k + 2 * j) ∧ Row wr g (wmixed k j ws) ∧ w.grownBy wr (some g)) (fun _ i _ => ws.length - (intOf i).toNat)
    case atStart => exact ⟨0, k, Nat.zero_le _, rfl, rfl, hid rfl, hr0, grown_refl _ _⟩
    case round =>
      clear hr0
      obtain ⟨j, m, hj, rfl, rfl, HM, hrow, hgr⟩ := hrel
      have HR := hid hrow
      have HG := hid hgr
      clear hgr
      by_cases hlt : j < ws.length
      · have hL := wmixed_length k j ws hj
        obtain ⟨u, hu⟩ : ∃ u, wr.cell? ⟨g, j * 2, none⟩ = some u := ⟨_, hrow.cell (j * 2) _ (List.getElem?_eq_getElem (by omega))⟩
        have hf := hrow.froz (j * 2) (by omega)
        have HL := hid hL
        have hmj : (m : Int) ≤ 99999999 := by have := HM.out; omega
        have hmj0 : (0 : Int) < (m : Int) := by have := HM.out; omega
        have HR1 := hid (hrow.set (j * 2) (by omega) (.int .i64 (m : Int)))
        clear hL hrow
        go_wp2_with (go_at_call 44; refine (mark_text' ((m : Int) + 1) (m + 1) (by omega) _ (by omega) (by omega)).mono ?_; rintro e w2 ⟨rfl, hb2⟩; have hr2 := HR1.out.below hb2; obtain ⟨u2, hu2⟩ : ∃ u, w2.cell? ⟨g, j * 2 + 1, none⟩ = some u := ⟨_, hr2.cell (j * 2 + 1) _ (List.getElem?_eq_getElem (by rw [List.length_set, HL.out]; omega))⟩; have hf2 := hr2.froz (j * 2 + 1) (by rw [List.length_set, HL.out]; omega); have HR2 := hid hr2; have HB2 := hid hb2; clear hr2 hb2)
        have hset : ((wmixed k j ws).set (j * 2) (.int .i64 (m : Int))).set (j * 2 + 1) (.string (mtext (m + 1))) = wmixed k (j + 1) ws := by
          rw [HM.out]; exact wmixed_set k j ws hlt
        go_roundw
        case rel => exact ⟨j + 1, m + 2, by omega, by go_num, by go_num, by show _ = _; have := HM.out; omega, by rw [← hset]; exact HR2.out.set (j * 2 + 1) (by rw [List.length_set, HL.out]; omega) _, grown_set (grown_trans (grown_set HG.out _ _) (grown_of_below _ HB2.out)) _ _⟩
        case measure => simp [intOf]; omega
      · have hjl : Hid (j = ws.length) := by show _ = _; omega
        clear hrow
        go_wp2
        go_ret
        refine ⟨ret_int (by rw [HM.out, hjl.out]), HG.out, .inr ⟨g, rfl, ?_⟩⟩
        have := HR.out
        rw [hjl.out] at this
        simpa [wmixed] using this

set_option maxHeartbeats 800000 in
theorem held_wrs (a : Option Addr) (n c k : Nat) (w : World) (h : OwnS w a (wcells (wmarks k n))) (hk : 0 < k) (hl : k + 2 * n ≤ 100000000) :
    Calls Try.prog 37 #[.slice a n c, .int .i64 (k : Int)] w fun e w' => e = .returned (.int .i64 ((k + 2 * n : Nat) : Int)) ∧ Below w.heap.size w w' := by
  rcases h with h | ⟨g, rfl, hrow⟩
  · have hn : n = 0 := by have := congrArg List.length h; rw [wcells_length, wmarks_length, List.length_nil] at this; omega
    subst hn
    go_enter Try.func37, Try.ntmps37
    go_wp2
    refine wp_loop_rounds 1 ?_
    rw [rounds_succ]
    go_wp2
    go_ret
    exact ⟨rfl, Below.refl _ _⟩
  · have HROW := hid hrow
    clear hrow
    go_enter Try.func37, Try.ntmps37
    go_wp2
    go_loopw [1, 5] (fun x i wr => ∃ j m : Nat, j ≤ n ∧ i = .int .i64 (j : Int) ∧ x = .int .i64 (m : Int) ∧ Hid (m = k + 2 * j) ∧ Below w.heap.size w wr) (fun _ i _ => n - (intOf i).toNat)
    case atStart => exact ⟨0, k, Nat.zero_le _, rfl, rfl, hid rfl, Below.refl _ _⟩
    case round =>
      obtain ⟨j, m, hj, rfl, rfl, HM, hbel⟩ := hrel
      have HR := hid (HROW.out.below hbel)
      have HB := hid hbel
      clear hbel
      by_cases hlt : j < n
      · have hmj : (m : Int) ≤ 99999999 := by have := HM.out; omega
        have hmj0 : (0 : Int) < (m : Int) := by have := HM.out; omega
        have hj0 : (0 : Int) ≤ (j : Int) := by omega
        have hj1 : (j : Int) < (n : Int) := by omega
        have hat := wcells_at (wmarks k n) j (by rw [wmarks_length]; exact hlt)
        have hgd : (wmarks k n).getD j (0, ByteArray.empty) = ((m : Int), mtext (m + 1)) := by rw [HM.out]; simp [wmarks, List.getD, hlt]
        rw [hgd] at hat
        have hc0 : wr.cell? ⟨g, j * 2, none⟩ = some (.int .i64 (m : Int)) := HR.out.cell _ _ hat.1
        have HC : Hid (wr.cell? ⟨g, j * 2 + 1, none⟩ = some (.string (mtext (m + 1)))) := HR.out.cell _ _ hat.2
        have lt1 : g < wr.heap.size := HR.out.lt
        clear hat hgd
        go_wp2_with fail
        clear hc0
        go_region_held3 (fun w' => w'.cell? ⟨g, j * 2 + 1, none⟩ = some (.string (mtext (m + 1))))
          (first | assumption | exact HC.out | exact (hb2.cell (p := ⟨g, j * 2 + 1, none⟩) lt1).trans HC.out)
          (first | (go_at_call 44; refine (mark_text' ((m : Int) + 1) (m + 1) (by omega) _ (by omega) (by omega)).mono ?_; rintro e w2 ⟨rfl, hb2⟩))
        go_wp2
        go_roundw
        case rel => exact ⟨j + 1, m + 2, by omega, by go_num, by go_num, by show _ = _; have := HM.out; omega, HB.out.drew.trans (hb2.mono HB.out.size)⟩
        case measure => simp [intOf]; omega
      · have hjl : Hid (j = n) := by show _ = _; omega
        go_wp2
        go_ret
        exact ⟨ret_int (by rw [HM.out, hjl.out]), HB.out⟩

/-- A disk whose two lists the call owns. -/
structure OwnD (w : World) (a : Option Addr) (ss : List ByteArray) (a' : Option Addr) (ws : List (Int × ByteArray)) : Prop where
  s : OwnS w a (ss.map Value.string)
  p : OwnS w a' (wcells ws)
  ne : blk a ss.length = none ∨ blk a' ws.length = none ∨ blk a ss.length ≠ blk a' ws.length
theorem OwnS.below {w w' : World} {a : Option Addr} {cs : List Value} (h : OwnS w a cs) (hb : Below w.heap.size w w') : OwnS w' a cs := by
  rcases h with h | ⟨g, h1, h2⟩
  · exact .inl h
  · exact .inr ⟨g, h1, h2.below hb⟩
theorem OwnS.grown {w w' : World} {a : Option Addr} {cs : List Value} {r : Option Nat} (h : OwnS w a cs) (hg : w.grownBy w' r) (hn : ∀ g, a = some ⟨g, 0, none⟩ → cs ≠ [] → some g ≠ r) : OwnS w' a cs := by
  by_cases hc : cs = []
  · exact .inl hc
  · obtain ⟨g, h1, h2⟩ := h.resolve_left hc
    exact .inr ⟨g, h1, h2.grown hg (hn g h1 hc)⟩
theorem OwnS.lt {w : World} {a : Option Addr} {cs : List Value} (h : OwnS w a cs) (n : Nat) (hn : n ≠ 0 → cs ≠ []) : ∀ g, blk a n = some g → g < w.heap.size := fun g hg => by
  by_cases h0 : n = 0
  · subst h0; cases hg
  · obtain ⟨g', rfl, h2⟩ := h.resolve_left (hn h0)
    rw [blk_pos g' 0 n h0] at hg
    cases hg
    exact h2.lt
theorem OwnD.below {w w' : World} {a a' : Option Addr} {ss : List ByteArray} {ws : List (Int × ByteArray)} (h : OwnD w a ss a' ws) (hb : Below w.heap.size w w') : OwnD w' a ss a' ws := ⟨h.s.below hb, h.p.below hb, h.ne⟩
theorem OwnS.strs {w : World} {a : Option Addr} {ss : List ByteArray} (h : OwnS w a (ss.map Value.string)) : Strs w a ss := by
  rcases h with h | ⟨g, rfl, h2⟩
  · exact .inl (by simpa using h)
  · exact h2.strs
theorem OwnS.wrs {w : World} {a : Option Addr} {ws : List (Int × ByteArray)} (h : OwnS w a (wcells ws)) : Wrs w a ws := by
  rcases h with h | ⟨g, rfl, h2⟩
  · exact .inl (by have := congrArg List.length h; rw [wcells_length, List.length_nil] at this; exact List.eq_nil_of_length_eq_zero (by omega))
  · exact h2.wrs

theorem strs_ne {ss : List ByteArray} (h : ss.length ≠ 0) : ss.map Value.string ≠ [] := fun e => h (by have := congrArg List.length e; simpa using this)
theorem wcells_ne {ws : List (Int × ByteArray)} (h : ws.length ≠ 0) : wcells ws ≠ [] := fun e => h (by have := congrArg List.length e; rw [wcells_length, List.length_nil] at this; omega)
theorem ne_of_strs {ss : List ByteArray} (h : ss.map Value.string ≠ []) : ss.length ≠ 0 := fun e => h (by rw [List.eq_nil_of_length_eq_zero e]; rfl)
theorem ne_of_wcells {ws : List (Int × ByteArray)} (h : wcells ws ≠ []) : ws.length ≠ 0 := fun e => h (by rw [List.eq_nil_of_length_eq_zero e]; rfl)

set_option maxHeartbeats 800000 in
theorem mark_disk (a : Option Addr) (ss : List ByteArray) (c : Nat) (a' : Option Addr) (ws : List (Int × ByteArray)) (c' k : Nat) (w : World) (h : OwnD w a ss a' ws) (hk : 0 < k) (hl : k + ss.length + 2 * ws.length ≤ 100000000) :
    Calls Try.prog 12 #[diskV a ss.length c a' ws.length c', .int .i64 (k : Int)] w fun e w' => e = .returned (.int .i64 ((k + ss.length + 2 * ws.length : Nat) : Int)) ∧ (∃ w1 w2, Below w.heap.size w w1 ∧ w1.grownBy w2 (blk a ss.length) ∧ w2.grownBy w' (blk a' ws.length)) ∧ OwnD w' a (marks k ss.length) a' (wmarks (k + ss.length) ws.length) := by
  have hb0 : ∀ o, Below w.heap.size w (w.alloc o) := fun o => (Below.refl _ _).alloc (Nat.le_refl _) _
  have l1 := h.s.lt ss.length strs_ne
  have l2 := h.p.lt ws.length wcells_ne
  go_enter Try.func12, Try.ntmps12
  go_wp2_with fail
  refine (mark_strs a ss c k _ (h.s.below (hb0 _)) hk (by omega)).mono ?_
  rintro e w1 ⟨rfl, hg1, ho1⟩
  have q1 : w1.cell? ⟨w.heap.size, 1, none⟩ = some (.slice a' ws.length c') := (World.cell?_of_block (a := ⟨w.heap.size, 1, none⟩) (hg1.block w.heap.size (by simp) (fun e => by have := l1 _ e.symm; omega))).trans (by go_simp)
  have hp1 : OwnS w1 a' (wcells ws) := (h.p.below (hb0 _)).grown hg1 (fun g hg hne => by
    rcases h.ne with h0 | h0 | h0
    · rw [h0]; simp
    · subst hg; rw [blk_pos g 0 _ (ne_of_wcells hne)] at h0; cases h0
    · subst hg; rw [blk_pos g 0 _ (ne_of_wcells hne)] at h0; exact fun e => h0 e.symm)
  have HG1 := hid hg1
  have HO1 := hid ho1
  obtain ⟨m, HM⟩ : ∃ m, Hid (m = k + ss.length) := ⟨_, hid rfl⟩
  rw [← HM.out]
  clear hg1 ho1
  go_wp2_with fail
  refine (mark_wrs a' ws c' m _ hp1 (by have := HM.out; omega) (by have := HM.out; omega)).mono ?_
  rintro e w2 ⟨rfl, hg2, ho2⟩
  clear q1 hp1
  have HG2 := hid hg2
  have HO2 := hid ho2
  clear hg2 ho2 l1 l2
  go_wp2
  go_ret
  refine ⟨ret_int (by have := HM.out; omega), ⟨_, w1, hb0 _, HG1.out, HG2.out⟩, ?_, ?_, ?_⟩
  · refine HO1.out.grown HG2.out (fun g hg hne => ?_)
    have hn1 : ss.length ≠ 0 := by have := ne_of_strs hne; rwa [marks_length] at this
    subst hg
    rcases h.ne with h0 | h0 | h0
    · rw [blk_pos g 0 _ hn1] at h0; cases h0
    · rw [h0]; simp
    · rwa [blk_pos g 0 _ hn1] at h0
  · rw [← HM.out]; exact HO2.out
  · rw [marks_length, wmarks_length]; exact h.ne

set_option maxHeartbeats 800000 in
theorem held_disk (a : Option Addr) (n c : Nat) (a' : Option Addr) (n' c' k : Nat) (w : World) (h : OwnS w a ((marks k n).map Value.string)) (h' : OwnS w a' (wcells (wmarks (k + n) n'))) (hk : 0 < k) (hl : k + n + 2 * n' ≤ 100000000) :
    Calls Try.prog 14 #[diskV a n c a' n' c', .int .i64 (k : Int)] w fun e w' => e = .returned (.int .i64 ((k + n + 2 * n' : Nat) : Int)) ∧ Below w.heap.size w w' := by
  have hb0 : ∀ o, Below w.heap.size w (w.alloc o) := fun o => (Below.refl _ _).alloc (Nat.le_refl _) _
  go_enter Try.func14, Try.ntmps14
  go_wp2_with fail
  refine (held_strs a n c k _ (h.below (hb0 _)) hk (by omega)).mono ?_
  rintro e w1 ⟨rfl, hb1⟩
  have q1 : w1.cell? ⟨w.heap.size, 1, none⟩ = some (.slice a' n' c') := (hb1.cell (p := ⟨w.heap.size, 1, none⟩) (by simp)).trans (by go_simp)
  have hB1 := (hb0 _).trans (hb1.mono (by simp))
  have HB1 := hid hB1
  obtain ⟨m, HM⟩ : ∃ m, Hid (m = k + n) := ⟨_, hid rfl⟩
  rw [← HM.out]
  rw [← HM.out] at h'
  clear hb1 hB1
  have hm0 : (0 : Int) ≤ (m : Int) := by omega
  go_wp2_with fail
  refine (held_wrs a' n' c' m _ (h'.below HB1.out) (by have := HM.out; omega) (by have := HM.out; omega)).mono ?_
  rintro e w2 ⟨rfl, hb2⟩
  clear q1
  have hm2 : (0 : Int) ≤ ((m + 2 * n' : Nat) : Int) := by omega
  go_wp2
  go_ret
  exact ⟨ret_int (by have := HM.out; omega), HB1.out.trans (hb2.mono HB1.out.size)⟩
end Go.Proofs.Ytpnblphoehgjhad
