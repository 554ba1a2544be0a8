import Derived.Test.YtnmaknnnmjfhkaeDoorPrVBs
import Derived.Test.YtnmaknnnmjfhkaeDoorPrG33
import Derived.Test.YtnmaknnnmjfhkaeDoorPrPk
import Derived.OrdersHeld
import Derived.Deep.RegionHeld
import Derived.WalkLawsBesides
import Derived.Test.YtnmaknnnmjfhkaeDoorPrG32
import Derived.Test.YtnmaknnnmjfhkaeDoorPrG46
import Derived.ChangeSlices
import Derived.OpenShut
set_option maxHeartbeats 16000000
set_option maxRecDepth 8000
namespace Go.Proofs.YtnmaknnnmjfhkaeDoor
open Go.RowKit
set_option linter.unusedVariables false
def chN (x : ByteArray × ByteArray × Bool) : List Int := if x.2.2 then [1] ++ ([(x.1.size : Int)] ++ nums x.1) else [0] ++ ([(x.1.size : Int)] ++ nums x.1) ++ ([(x.2.1.size : Int)] ++ nums x.2.1)
def bForm (rs : List (ByteArray × ByteArray × Bool)) : ByteArray := strOfNums (rs.flatMap chN)
theorem bForm_nil : bForm [] = ByteArray.empty := rfl
theorem chN_size (x : ByteArray × ByteArray × Bool) (h : chOk x = true) : (strOfNums (chN x)).size ≤ 123 := by
  rw [strOfNums_size]
  unfold chOk kOk vOk at h
  simp only [Bool.and_eq_true, decide_eq_true_eq] at h
  unfold chN
  split
  · simp [nums_length]; omega
  · simp [nums_length]; omega
theorem bForm_size (rs : List (ByteArray × ByteArray × Bool)) (h : ∀ x ∈ rs, chOk x = true) : (bForm rs).size ≤ 123 * rs.length := by
  induction rs with
  | nil => simp [bForm_nil]
  | cons x r ih =>
    have h1 := ih (fun y hy => h y (List.mem_cons_of_mem _ hy))
    have h2 := chN_size x (h x (List.mem_cons_self))
    have e : bForm (x :: r) = strOfNums (chN x) ++ bForm r := by unfold bForm; rw [List.flatMap_cons, strOfNums_append]
    rw [e, ByteArray.size_append, List.length_cons]
    omega
def bOut (rs : List (ByteArray × ByteArray × Bool)) : ByteArray := if batchOk rs = true then bForm rs else ByteArray.empty
end Go.Proofs.YtnmaknnnmjfhkaeDoor

namespace Go.Proofs.YtnmaknnnmjfhkaeDoor
open Go.RowKit
set_option maxRecDepth 4000
set_option linter.unusedVariables false
set_option linter.unusedSimpArgs false
theorem Rdr.set {w : World} {R : Nat} {a : Option Addr} {n c : Nat} {p : Int} (h : Rdr w R a n c p) (q : Int) (q0 : 0 ≤ q) (q1 : q ≤ 100000000) : Rdr (w.setCell ⟨R, 1, none⟩ (.int .i64 q)) R a n c q := by
  obtain ⟨g, o, ha, hx⟩ := h.bytes
  refine ⟨(World.cell?_setCell_other w ⟨R, 1, none⟩ ⟨R, 0, none⟩ _ (fun e => absurd (congrArg Addr.off e) (by show ¬ (1 = 0); decide))).trans h.b, World.cell?_setCell_same w _ _ h.pc, by rw [World.frozen?_setCell]; exact h.f, ⟨g, o, ha, fun i hi => ?_⟩, q0, q1, h.n1⟩
  obtain ⟨hgR, x, hc, hx0, hx1⟩ := hx i hi
  exact ⟨hgR, x, (World.cell?_setCell_far _ _ _ _ (fun e => hgR e.symm)).trans hc, hx0, hx1⟩
theorem Rdr.drew {w : World} {R : Nat} {a : Option Addr} {n c : Nat} {p : Int} (h : Rdr w R a n c p) : Rdr w.drew R a n c p := ⟨h.b, h.pc, h.f, h.bytes, h.p0, h.p1, h.n1⟩
theorem grown_self (w : World) (R : Nat) (v : Value) : w.grownBy (w.setCell ⟨R, 1, none⟩ v) (some R) :=
  ⟨rfl, rfl, rfl, by rw [World.size_setCell]; exact Nat.le_refl _, fun i hi hr => Below.heap_setCell _ _ _ _ (fun e => hr (congrArg some e))⟩
theorem pick_r (R : Nat) (a : Option Addr) (n c : Nat) (p m : Int) (w : World) (h : Rdr w R a n c p) (hp : p < 100000000) : Calls Tryd.prog 30 #[.pointer (some ⟨R, 0, none⟩), .int .i64 m] w fun e w' => (∃ v, e = .returned (.int .i64 v) ∧ 0 ≤ v ∧ (v = 0 ∨ v < m)) ∧ Rdr w' R a n c (p + 1) ∧ w.grownBy w' (some R) := by
  have p0 := h.p0
  refine (pick_s R a n c p m w h).mono fun e w' hh => ?_
  obtain ⟨hv, rfl | rfl⟩ := hh
  · exact ⟨hv, h.set (p + 1) (by omega) (by omega), grown_self w R _⟩
  · refine ⟨hv, (h.set (p + 1) (by omega) (by omega)).drew, ?_⟩
    have hg := grown_self w R (.int .i64 (p + 1))
    exact ⟨hg.os, hg.tape, hg.output, hg.size, hg.block⟩
def Bys (w : World) (a : Option Addr) (n : Nat) : Prop := ∃ g o, (n = 0 ∨ a = some ⟨g, o, none⟩) ∧ ∀ i, i < n → g < w.heap.size ∧ ∃ x : Int, w.cell? ⟨g, o + i, none⟩ = some (.int .u8 x) ∧ 0 ≤ x ∧ x ≤ 255
theorem Bys.below {w w' : World} {a : Option Addr} {n : Nat} (h : Bys w a n) (hb : Below w.heap.size w w') : Bys w' a n := by
  obtain ⟨g, o, ha, hx⟩ := h
  refine ⟨g, o, ha, fun i hi => ?_⟩
  obtain ⟨hg, x, hc, h0, h1⟩ := hx i hi
  exact ⟨Nat.lt_of_lt_of_le hg hb.size, x, (hb.cell (p := ⟨g, o + i, none⟩) hg).trans hc, h0, h1⟩
theorem Bys.rdr {w : World} {a : Option Addr} {n m : Nat} (h : Bys w a n) (hm : m ≤ n) (h2 : m ≤ 2000) (c : Nat) (t : TypeId) : Rdr (w.alloc (.cells #[.slice a m c, .int .i64 0] t)) w.heap.size a m c 0 := by
  obtain ⟨g, o, ha, hx⟩ := h
  refine ⟨by simp, by simp, ?_, ⟨g, o, ?_, fun i hi => ?_⟩, by omega, by omega, h2⟩
  · rw [frozen?_alloc_cells]
    have e : w.heap[w.heap.size]? = none := by simp
    simp [World.frozen?, e]
  · rcases ha with h | h
    · exact .inl (by omega)
    · exact .inr h
  · obtain ⟨hg, x, hc, h0, h1⟩ := hx i (by omega)
    exact ⟨by omega, x, (World.cell?_alloc_past _ _ _ (by exact hg)).trans hc, h0, h1⟩
theorem open_r (a : Option Addr) (n c : Nat) (w : World) (h : Bys w a n) (hn : n ≤ 1048576) (hc : n ≤ c) : Calls Tryd.prog 27 #[.slice a n c] w fun e w' => e = .returned (.pointer (some ⟨w.heap.size, 0, none⟩)) ∧ (∃ m c', Rdr w' w.heap.size a m c' 0) ∧ Below w.heap.size w w' := by
  by_cases h2 : n ≤ 2000
  · have h2' : (n : Int) ≤ 2000 := by omega
    go_enter Tryd.func27, Tryd.ntmps27
    go_wp2
    go_ret
    exact ⟨rfl, ⟨n, c, h.rdr (Nat.le_refl _) h2 c _⟩, (Below.refl _ _).alloc (Nat.le_refl _) _⟩
  · have h2' : 2000 < (n : Int) := by omega
    have hc2 : (2000 : Int) ≤ (c : Int) := by omega
    have HR := hid (h.rdr (m := 2000) (by omega) (Nat.le_refl _) c 113)
    obtain ⟨g, o, ha, hx⟩ := h
    obtain rfl : a = some ⟨g, o, none⟩ := ha.resolve_left (by omega)
    go_enter Tryd.func27, Tryd.ntmps27
    go_wp2
    go_ret
    exact ⟨rfl, ⟨2000, c, HR.out⟩, (Below.refl _ _).alloc (Nat.le_refl _) _⟩
theorem lt_of_cell {w : World} {g i : Nat} {v : Value} (h : w.cell? ⟨g, i, none⟩ = some v) : g < w.heap.size := by
  rcases Nat.lt_or_ge g w.heap.size with hl | hl
  · exact hl
  · exfalso
    have : w.heap[g]? = none := Array.getElem?_eq_none hl
    simp [World.cell?, this] at h
theorem Rdr.below {w w' : World} {R : Nat} {a : Option Addr} {n c : Nat} {p : Int} (h : Rdr w R a n c p) (hb : Below w.heap.size w w') : Rdr w' R a n c p := by
  obtain ⟨g, o, ha, hx⟩ := h.bytes
  have hR := lt_of_cell h.pc
  refine ⟨(hb.cell (p := ⟨R, 0, none⟩) hR).trans h.b, (hb.cell (p := ⟨R, 1, none⟩) hR).trans h.pc, (hb.frozen (p := ⟨R, 1, none⟩) hR).trans h.f, ⟨g, o, ha, fun i hi => ?_⟩, h.p0, h.p1, h.n1⟩
  obtain ⟨hgR, x, hc, hx0, hx1⟩ := hx i hi
  exact ⟨hgR, x, (hb.cell (p := ⟨g, o + i, none⟩) (lt_of_cell hc)).trans hc, hx0, hx1⟩
theorem cell_grown {w w' : World} {R b i : Nat} {v : Value} (hg : w.grownBy w' (some R)) (hne : b ≠ R) (h : w.cell? ⟨b, i, none⟩ = some v) : w'.cell? ⟨b, i, none⟩ = some v :=
  (World.cell?_of_block (a := ⟨b, i, none⟩) (hg.block b (lt_of_cell h) (fun e => hne (by injection e)))).trans h
end Go.Proofs.YtnmaknnnmjfhkaeDoor

namespace Go.Proofs.YtnmaknnnmjfhkaeDoor
open Go.RowKit
set_option maxRecDepth 4000
set_option linter.unusedVariables false
set_option linter.unusedSimpArgs false
theorem many_b0 (s : ByteArray) (n : Int) (hs : s.size ≤ 64) (hn : n ≤ 1000) : Hid (s.size * n.toNat + ByteArray.empty.size ≤ 64000) := by
  show _ ≤ _
  have h1 : n.toNat ≤ 1000 := by omega
  have h2 := Nat.mul_le_mul hs h1
  have h3 : ByteArray.empty.size = 0 := rfl
  omega
set_option maxHeartbeats 16000000 in
theorem many_r (s : ByteArray) (n : Int) (w : World) (hs : s.size ≤ 64) (hn : n ≤ 1000) : Calls Tryd.prog 31 #[.string s, .int .i64 n] w fun e w' => (∃ t : ByteArray, e = .returned (.string t) ∧ t.size ≤ 64000) ∧ Below w.heap.size w w' := by
  go_enter Tryd.func31, Tryd.ntmps31
  go_wp2
  go_loop [0, 1, 5] (fun sv nv ov => ∃ (t u : ByteArray) (m : Int), sv = .string t ∧ nv = .int .i64 m ∧ ov = .string u ∧ m ≤ 1000 ∧ Hid (t.size * m.toNat + u.size ≤ 64000) ∧ t.size ≤ 128000) (fun _ nv _ => (intOf nv).toNat)
  case atStart => exact ⟨s, ByteArray.empty, n, rfl, rfl, rfl, hn, many_b0 s n hs hn, by omega⟩
  case round =>
    obtain ⟨t, u, m, rfl, rfl, rfl, hm, HB, ht⟩ := hrel
    by_cases h0 : 0 < m
    · obtain ⟨q, r, hq, hr⟩ : ∃ q r : Nat, m.toNat = 2 * q + r ∧ r < 2 := ⟨m.toNat / 2, m.toNat % 2, by omega, by omega⟩
      have hmq : m = 2 * (q : Int) + (r : Int) := by omega
      have hb := HB.out
      rw [hq, Nat.mul_add] at hb
      have e2 : t.size * (2 * q) = 2 * (t.size * q) := by rw [Nat.mul_left_comm]
      rw [e2] at hb
      obtain ⟨P, hP⟩ : ∃ P, t.size * q = P := ⟨_, rfl⟩
      rw [hP] at hb
      have htb : t.size ≤ 64000 := by
        rcases Nat.eq_zero_or_pos r with h | h
        · subst h
          have hq1 : 1 ≤ q := by omega
          have : t.size ≤ t.size * q := Nat.le_mul_of_pos_right _ hq1
          omega
        · have : t.size * 1 ≤ t.size * r := Nat.mul_le_mul_left _ h
          omega
      have z1 : ¬ (9223372036854775807 < t.size + t.size) := by omega
      have hd : m.tdiv 2 = (q : Int) := by rw [Int.tdiv_eq_ediv_of_nonneg (by omega)]; omega
      have hd' : m / 2 = (q : Int) := by omega
      rcases Nat.eq_zero_or_pos r with h | h
      · subst h
        have hr0 : m % 2 = 0 := by omega
        have hr1 : ¬ (m % 2 = 1) := by omega
        have hr2 : ¬ (m.tmod 2 = 1) := by rw [Int.tmod_eq_emod_of_nonneg (by omega)]; omega
        have HN : Hid ((t ++ t).size * ((q : Int)).toNat + u.size ≤ 64000) := by
          show _ ≤ _
          rw [Int.toNat_natCast, ByteArray.size_append, Nat.add_mul, hP]
          omega
        clear HB hb hq
        go_wp2
        exact ⟨⟨_, _, _, rfl, rfl, rfl, by omega, HN.out, by rw [ByteArray.size_append]; omega⟩, by simp [intOf]; omega⟩
      · have hr1 : r = 1 := by omega
        subst hr1
        have hr1 : m % 2 = 1 := by omega
        have hr2 : m.tmod 2 = 1 := by rw [Int.tmod_eq_emod_of_nonneg (by omega)]; omega
        have z2 : ¬ (9223372036854775807 < u.size + t.size) := by omega
        have HN : Hid ((t ++ t).size * ((q : Int)).toNat + (u ++ t).size ≤ 64000) := by
          show _ ≤ _
          rw [Int.toNat_natCast, ByteArray.size_append, ByteArray.size_append, Nat.add_mul, hP]
          omega
        clear HB hb hq
        go_wp2
        exact ⟨⟨_, _, _, rfl, rfl, rfl, by omega, (by rw [show ((2 * (q : Int) + 1) / 2) = (q : Int) by omega]; exact HN.out), by rw [ByteArray.size_append]; omega⟩, by simp [intOf]; omega⟩
    · go_wp2
      go_ret
      exact ⟨⟨u, rfl, by have := HB.out; omega⟩, Below.refl _ _⟩
end Go.Proofs.YtnmaknnnmjfhkaeDoor

namespace Go.Proofs.YtnmaknnnmjfhkaeDoor
open Go.RowKit
set_option maxRecDepth 4000
set_option linter.unusedVariables false
set_option linter.unusedSimpArgs false
def RdTo (W : World) (R : Nat) (a : Option Addr) (n c : Nat) (p : Int) (d : Int) (w : World) : Prop := (∃ q, p ≤ q ∧ q ≤ p + d ∧ Rdr w R a n c q) ∧ W.grownBy w (some R)
theorem ext1 (t b : ByteArray) {k : Int} (h : (t.size : Int) + k ≤ 4) : ((t ++ b.extract 0 1).size : Int) + (k - 1) ≤ 4 := by
  rw [ByteArray.size_append]
  have : (b.extract 0 1).size ≤ 1 := by simp only [ByteArray.size_extract]; omega
  omega
set_option maxHeartbeats 16000000 in
theorem text_r (R : Nat) (a : Option Addr) (n c : Nat) (p : Int) (w : World) (h : Rdr w R a n c p) (hp : p < 99999000) : Calls Tryd.prog 91 #[.pointer (some ⟨R, 0, none⟩)] w fun e w' => (∃ t : ByteArray, e = .returned (.string t) ∧ t.size ≤ 64000) ∧ RdTo w R a n c p 10 w' := by
  have hR := lt_of_cell h.pc
  have p0 := h.p0
  go_enter Tryd.func91, Tryd.ntmps91
  go_wp2_with fail
  refine (pick_r R a n c p 8 _ h (by omega)).mono ?_
  rintro e w1 ⟨⟨v, rfl, v0, v1⟩, hr, hg⟩
  by_cases e0 : v = 0
  · subst e0
    go_wp2
    go_ret
    exact ⟨⟨_, rfl, by decide⟩, ⟨p + 1, by omega, by omega, hr⟩, hg⟩
  by_cases e1 : v = 1
  · subst e1
    go_wp2
    go_ret
    exact ⟨⟨_, rfl, by decide⟩, ⟨p + 1, by omega, by omega, hr⟩, hg⟩
  by_cases e2 : v = 2
  · subst e2
    go_wp2_with fail
    refine (pick_r R a n c (p + 1) 21 _ hr (by omega)).mono ?_
    rintro e w2 ⟨⟨u, rfl, u0, u1⟩, hr2, hg2⟩
    have hu : IntKind.i64.wrap (5 + u) = 5 + u := wrap_i64_id _ (by omega) (by omega)
    go_wp2_with fail
    refine (many_r _ (5 + u) _ (by decide) (by omega)).mono ?_
    rintro e w3 ⟨⟨t, rfl, ht⟩, hb3⟩
    go_wp2
    go_ret
    exact ⟨⟨t, rfl, ht⟩, ⟨p + 1 + 1, by omega, by omega, hr2.below hb3⟩, grown_trans (grown_trans hg hg2) (grown_of_below _ hb3)⟩
  by_cases e3 : v = 3
  · subst e3
    go_wp2
    go_ret
    exact ⟨⟨_, rfl, by decide⟩, ⟨p + 1, by omega, by omega, hr⟩, hg⟩
  go_wp2_with fail
  refine (pick_r R a n c (p + 1) 4 _ hr (by omega)).mono ?_
  rintro e w2 ⟨⟨u, rfl, u0, u1⟩, hr2, hg2⟩
  have hu : IntKind.i64.wrap (1 + u) = 1 + u := wrap_i64_id _ (by omega) (by omega)
  have HR2 := hid hr2
  have HG2 := hid (grown_trans hg hg2)
  clear hr hg hr2 hg2 h
  go_wp2
  go_loopw [3, 4] (fun ov nv wr => ∃ (t : ByteArray) (k q : Int), ov = .string t ∧ nv = .int .i64 k ∧ 0 ≤ k ∧ k ≤ 4 ∧ (t.size : Int) + k ≤ 4 ∧ p ≤ q ∧ q + k ≤ p + 6 ∧ Rdr wr R a n c q ∧ w.grownBy wr (some R)) (fun _ nv _ => (intOf nv).toNat)
  case atStart => exact ⟨⟨#[]⟩, 1 + u, p + 1 + 1, rfl, rfl, by omega, by omega, by show (0 : Int) + (1 + u) ≤ 4; omega, by omega, by omega, HR2.out, HG2.out⟩
  case round =>
    obtain ⟨t, k, q, rfl, rfl, k0, k1, htk, q0, q1, hrd, hgr⟩ := hrel
    by_cases hk : 0 < k
    · have HG := hid hgr
      clear hgr
      go_wp2_with fail
      refine (pick_r R a n c q 4 _ hrd (by omega)).mono ?_
      rintro e w3 ⟨⟨x, rfl, x0, x1⟩, hr3, hg3⟩
      have HR3 := hid hr3
      have HG3 := hid (grown_trans HG.out hg3)
      clear hr3 hg3 hrd HG
      have hkw : IntKind.i64.wrap (k - 1) = k - 1 := wrap_i64_id _ (by omega) (by omega)
      have hts : t.size ≤ 4 := by omega
      have z1 : ¬ (9223372036854775807 < t.size + 1) := by omega
      have hx : x = 0 ∨ x = 1 ∨ x = 2 ∨ x = 3 := by omega
      clear x0 x1
      rcases hx with rfl | rfl | rfl | rfl
      all_goals go_wp2
      all_goals go_roundw
      all_goals first
        | exact ⟨_, k - 1, q + 1, rfl, rfl, by omega, by omega, ext1 _ _ (by omega), by omega, by omega, HR3.out, HG3.out⟩
        | (simp [intOf]; omega)
    · go_wp2
      go_ret
      exact ⟨⟨t, rfl, by omega⟩, ⟨q, by omega, by omega, hrd⟩, hgr⟩
end Go.Proofs.YtnmaknnnmjfhkaeDoor

namespace Go.Proofs.YtnmaknnnmjfhkaeDoor
open Go.RowKit
set_option linter.unusedVariables false
theorem below_nw (w : World) (o : Obj) : Below w.heap.size w (w.alloc o) := (Below.refl _ _).alloc (Nat.le_refl _) _
theorem grown_setN {a b : World} {r : Option Nat} (h : a.grownBy b r) (p : Addr) (hp : a.heap.size ≤ p.block) (v : Value) : a.grownBy (b.setCell p v) r :=
  ⟨h.os, h.tape, h.output, by rw [World.size_setCell]; exact h.size, fun i hi hr => (Below.heap_setCell _ _ _ _ (fun e => by omega)).trans (h.block i hi hr)⟩
theorem Rdr.keep {w w' : World} {R N : Nat} {a : Option Addr} {n c : Nat} {p : Int} (h : Rdr w R a n c p) (hN : R < N) (hg : ∀ g o, a = some ⟨g, o, none⟩ → 0 < n → g < N) (hb : Below N w w') : Rdr w' R a n c p := by
  obtain ⟨g, o, ha, hx⟩ := h.bytes
  refine ⟨(hb.cell (p := ⟨R, 0, none⟩) hN).trans h.b, (hb.cell (p := ⟨R, 1, none⟩) hN).trans h.pc, (hb.frozen (p := ⟨R, 1, none⟩) hN).trans h.f, ⟨g, o, ha, fun i hi => ?_⟩, h.p0, h.p1, h.n1⟩
  obtain ⟨hgR, x, hc, hx0, hx1⟩ := hx i hi
  exact ⟨hgR, x, (hb.cell (p := ⟨g, o + i, none⟩) (hg g o (ha.resolve_left (by omega)) (by omega))).trans hc, hx0, hx1⟩
theorem Rdr.lts {w : World} {R : Nat} {a : Option Addr} {n c : Nat} {p : Int} (h : Rdr w R a n c p) : R < w.heap.size ∧ ∀ g o, a = some ⟨g, o, none⟩ → 0 < n → g < w.heap.size := by
  refine ⟨lt_of_cell h.pc, fun g o ha hn => ?_⟩
  obtain ⟨g', o', ha', hx⟩ := h.bytes
  have e := ha'.resolve_left (by omega)
  rw [ha] at e
  injection e with e
  injection e with e1 e2
  subst e1
  obtain ⟨_, x, hc, _⟩ := hx 0 hn
  exact lt_of_cell hc
end Go.Proofs.YtnmaknnnmjfhkaeDoor

namespace Go.Proofs.YtnmaknnnmjfhkaeDoor
open Go.RowKit
set_option maxRecDepth 4000
set_option linter.unusedVariables false
set_option linter.unusedSimpArgs false
def chsLe (rs : List (ByteArray × ByteArray × Bool)) (k v : Nat) : Prop := ∀ x ∈ rs, x.1.size ≤ k ∧ x.2.1.size ≤ v
theorem owns_slice {w : World} {B : Nat} {e : TypeId} {k : Nat} {y : Value} {m : Nat} {cs : List Value} (h : w.ownsRow B e k y m cs) : ∃ ya yc, y = .slice ya m yc := by
  rcases owns_forms h with ⟨h1, h2⟩ | ⟨g, cap, h1, _⟩
  · exact ⟨none, 0, by rw [h1, h2]⟩
  · exact ⟨_, cap, h1⟩
structure BdS (w0 w : World) (e : TypeId) (k : Nat) (R : Nat) (a : Option Addr) (n c : Nat) (q : Int) (y : Value) (m : Nat) (cs : List Value) : Prop where
  rd : Rdr w R a n c q
  own : w.ownsRow w0.heap.size e k y m cs
  gr : w0.grownBy w (some R)
  lR : R < w0.heap.size
  ga : ∀ g o, a = some ⟨g, o, none⟩ → 0 < n → g < w0.heap.size
theorem BdS.pick {w0 w w' : World} {e : TypeId} {k : Nat} {R : Nat} {a : Option Addr} {n c : Nat} {q q' : Int} {y : Value} {m : Nat} {cs : List Value} (h : BdS w0 w e k R a n c q y m cs) (hr : Rdr w' R a n c q') (hg : w.grownBy w' (some R)) : BdS w0 w' e k R a n c q' y m cs :=
  ⟨hr, h.own.kept hg (.inr (fun e => by have := (h.own.lt _ e).1; have := h.lR; omega)), grown_trans h.gr hg, h.lR, h.ga⟩
theorem BdS.below {w0 w w' : World} {e : TypeId} {k : Nat} {R : Nat} {a : Option Addr} {n c : Nat} {q : Int} {y : Value} {m : Nat} {cs : List Value} (h : BdS w0 w e k R a n c q y m cs) (hb : Below w.heap.size w w') : BdS w0 w' e k R a n c q y m cs :=
  ⟨h.rd.below hb, owns_below h.own hb, grown_trans h.gr (grown_of_below _ hb), h.lR, h.ga⟩
theorem BdS.drew {w0 w : World} {e : TypeId} {k : Nat} {R : Nat} {a : Option Addr} {n c : Nat} {q : Int} {y : Value} {m : Nat} {cs : List Value} (h : BdS w0 w e k R a n c q y m cs) : BdS w0 w.drew e k R a n c q y m cs := h.below (Below.refl _ _).drew
theorem BdS.lt {w0 w : World} {e : TypeId} {k : Nat} {R : Nat} {a : Option Addr} {n c : Nat} {q : Int} {y : Value} {m : Nat} {cs : List Value} (h : BdS w0 w e k R a n c q y m cs) : w0.heap.size ≤ w.heap.size := h.gr.size
theorem BdS.set {w0 w : World} {e : TypeId} {k : Nat} {R : Nat} {a : Option Addr} {n c : Nat} {q : Int} {y : Value} {m : Nat} {cs : List Value} (h : BdS w0 w e k R a n c q y m cs) (X i : Nat) (hX : w0.heap.size ≤ X) (hy : y.ownBlock ≠ some X) (v : Value) : BdS w0 (w.setCell ⟨X, i, none⟩ v) e k R a n c q y m cs := by
  have hl := h.lR
  refine ⟨h.rd.keep (N := w0.heap.size) hl h.ga ((Below.refl _ _).setCell hX _), ownsRow_setCell_other h.own hy v, grown_setN h.gr _ hX _, hl, h.ga⟩
theorem BdS.push {w0 w w' : World} {e : TypeId} {k : Nat} {R : Nat} {a : Option Addr} {n c : Nat} {q : Int} {y y' : Value} {m m' : Nat} {cs cs' : List Value} (h : BdS w0 w e k R a n c q y m cs) (hown : w'.ownsRow w0.heap.size e k y' m' cs') (hg : w.grownBy w' y.ownBlock) : BdS w0 w' e k R a n c q y' m' cs' := by
  have hb : Below w0.heap.size w w' := grown_below hg h.lt (fun g e => (h.own.lt _ e).1)
  exact ⟨h.rd.keep (N := w0.heap.size) h.lR h.ga hb, hown, ⟨hg.os.trans h.gr.os, hg.tape.trans h.gr.tape, hg.output.trans h.gr.output, Nat.le_trans h.gr.size hg.size, fun i hi hr => (hb.block i hi).trans (h.gr.block i hi hr)⟩, h.lR, h.ga⟩
structure BdX (w0 w : World) (e : TypeId) (k : Nat) (R : Nat) (a : Option Addr) (n c : Nat) (q : Int) (y : Value) (m : Nat) (cs : List Value) (X : Nat) (xs : List Value) : Prop where
  s : BdS w0 w e k R a n c q y m cs
  row : Row w X xs
  xo : y.ownBlock ≠ some X
  xb : w0.heap.size ≤ X
theorem BdX.ne {w0 w : World} {e : TypeId} {k : Nat} {R : Nat} {a : Option Addr} {n c : Nat} {q : Int} {y : Value} {m : Nat} {cs : List Value} {X : Nat} {xs : List Value} (h : BdX w0 w e k R a n c q y m cs X xs) : X ≠ R := by have := h.xb; have := h.s.lR; omega
theorem BdX.pick {w0 w w' : World} {e : TypeId} {k : Nat} {R : Nat} {a : Option Addr} {n c : Nat} {q q' : Int} {y : Value} {m : Nat} {cs : List Value} {X : Nat} {xs : List Value} (h : BdX w0 w e k R a n c q y m cs X xs) (hr : Rdr w' R a n c q') (hg : w.grownBy w' (some R)) : BdX w0 w' e k R a n c q' y m cs X xs :=
  ⟨h.s.pick hr hg, h.row.grown hg (fun e => h.ne (by injection e)), h.xo, h.xb⟩
theorem BdX.below {w0 w w' : World} {e : TypeId} {k : Nat} {R : Nat} {a : Option Addr} {n c : Nat} {q : Int} {y : Value} {m : Nat} {cs : List Value} {X : Nat} {xs : List Value} (h : BdX w0 w e k R a n c q y m cs X xs) (hb : Below w.heap.size w w') : BdX w0 w' e k R a n c q y m cs X xs :=
  ⟨h.s.below hb, h.row.below hb, h.xo, h.xb⟩
theorem BdX.drew {w0 w : World} {e : TypeId} {k : Nat} {R : Nat} {a : Option Addr} {n c : Nat} {q : Int} {y : Value} {m : Nat} {cs : List Value} {X : Nat} {xs : List Value} (h : BdX w0 w e k R a n c q y m cs X xs) : BdX w0 w.drew e k R a n c q y m cs X xs := h.below (Below.refl _ _).drew
theorem BdX.set {w0 w : World} {e : TypeId} {k : Nat} {R : Nat} {a : Option Addr} {n c : Nat} {q : Int} {y : Value} {m : Nat} {cs : List Value} {X : Nat} {xs : List Value} (h : BdX w0 w e k R a n c q y m cs X xs) (i : Nat) (hi : i < xs.length) (v : Value) : BdX w0 (w.setCell ⟨X, i, none⟩ v) e k R a n c q y m cs X (xs.set i v) :=
  ⟨h.s.set X i h.xb h.xo v, h.row.set i hi v, h.xo, h.xb⟩
theorem BdS.box {w0 w : World} {e : TypeId} {k : Nat} {R : Nat} {a : Option Addr} {n c : Nat} {q : Int} {y : Value} {m : Nat} {cs : List Value} (h : BdS w0 w e k R a n c q y m cs) (A : Array Value) (t : TypeId) : BdX w0 (w.alloc (.cells A t)) e k R a n c q y m cs w.heap.size A.toList :=
  ⟨h.below (below_nw _ _), row_new _ _ _, fun e => by have := (h.own.lt _ e).2; omega, h.lt⟩
theorem news_at (w : World) (cs : Array Value) (t : TypeId) : ∀ j u, cs.toList[j]? = some u → (w.alloc (.cells cs t)).cell? ((⟨w.heap.size, 0, none⟩ : Addr).add j) = some u := World.news_of_block (heap_alloc_new w (.cells cs t))
end Go.Proofs.YtnmaknnnmjfhkaeDoor

namespace Go.Proofs.YtnmaknnnmjfhkaeDoor
open Go.RowKit
set_option maxRecDepth 4000
set_option linter.unusedVariables false
set_option linter.unusedSimpArgs false
theorem width_r (R : Nat) (a : Option Addr) (n c : Nat) (p : Int) (w : World) (h : Rdr w R a n c p) (hp : p < 100000000) : Calls Tryd.prog 28 #[.pointer (some ⟨R, 0, none⟩)] w fun e w' => (∃ v, e = .returned (.int .i64 v) ∧ 1 ≤ v ∧ v ≤ 8) ∧ Rdr w' R a n c (p + 1) ∧ w.grownBy w' (some R) := by
  have hR := lt_of_cell h.pc
  go_enter Tryd.func28, Tryd.ntmps28
  go_wp2_with fail
  refine (pick_r R a n c p 6 _ (h.below ((Below.refl _ _).alloc (Nat.le_refl _) _)) hp).mono ?_
  rintro e w1 ⟨⟨v, rfl, v0, v1⟩, hr, hg⟩
  have d0 := cell_grown (b := w.heap.size) (i := 0) hg (by omega) (v := .int .i64 8) (by simp)
  have d1 := cell_grown (b := w.heap.size) (i := 1) hg (by omega) (v := .int .i64 8) (by simp)
  have d2 := cell_grown (b := w.heap.size) (i := 2) hg (by omega) (v := .int .i64 4) (by simp)
  have d3 := cell_grown (b := w.heap.size) (i := 3) hg (by omega) (v := .int .i64 2) (by simp)
  have d4 := cell_grown (b := w.heap.size) (i := 4) hg (by omega) (v := .int .i64 1) (by simp)
  have d5 := cell_grown (b := w.heap.size) (i := 5) hg (by omega) (v := .int .i64 1) (by simp)
  have HG := hid (grown_trans (grown_of_below (some R) ((Below.refl _ _).alloc (Nat.le_refl _) (.cells #[.int .i64 8, .int .i64 8, .int .i64 4, .int .i64 2, .int .i64 1, .int .i64 1] 3))) hg)
  have HR := hid hr
  clear hg hr
  have hv : v = 0 ∨ v = 1 ∨ v = 2 ∨ v = 3 ∨ v = 4 ∨ v = 5 := by omega
  clear v0 v1
  rcases hv with rfl | rfl | rfl | rfl | rfl | rfl <;> (go_wp2; go_ret; exact ⟨⟨_, rfl, by omega, by omega⟩, HR.out, HG.out⟩)
end Go.Proofs.YtnmaknnnmjfhkaeDoor

namespace Go.Proofs.YtnmaknnnmjfhkaeDoor
open Go.RowKit Go.ChangeShapes Go.WideShapes Go.Deep
set_option linter.unusedVariables false
set_option linter.unusedSimpArgs false
section
variable {H : Type} {enc : TypeId × Value → H} {P : Program} {w : World} {base : Nat} {spare : Nat → Bool} {held : Bool}
theorem bys_of_trod {t e : TypeId} {fuel : Nat} {v : Value} {x : DataW H × List MemPlace} (ht : P.underlying t = some (.slice e)) (he : P.underlying e = some (.int .u8)) (hc : P.cellsOf e = 1)
    (h : DataW.trod enc P w base spare held fuel t [v] = some x) : ∃ a n c, v = .slice a n c ∧ Bys w a n ∧ n ≤ c ∧ n ≤ maxLen := by
  rcases open_ints ht he hc h with ⟨hcs, _⟩ | ⟨a, len, cap, zs, hcs, _, hl, hm, hz, _, hcell, hwz⟩
  · simp at hcs
    exact ⟨none, 0, 0, by simpa using hcs, ⟨0, 0, .inl rfl, fun i hi => absurd hi (by omega)⟩, Nat.le_refl _, Nat.zero_le _⟩
  · simp at hcs
    have hlen : len ≤ zs.length := by rw [hz]; split <;> omega
    refine ⟨some a, len, cap, hcs, ?_, hl, by omega⟩
    by_cases h0 : len = 0
    · subst h0
      exact ⟨0, 0, .inl rfl, fun i hi => absurd hi (by omega)⟩
    · obtain ⟨b, o, rfl⟩ := add_none (hcell 0 (by omega)) ⟨_, hcell 0 (by omega)⟩
      have hb := World.block_lt_of_cell? w _ (hcell 0 (by omega))
      rw [add_mk] at hb
      refine ⟨b, o, .inr rfl, fun i hi => ⟨hb, zs.getD i 0, ?_, ?_⟩⟩
      · have := hcell i (by omega)
        rwa [add_mk] at this
      · rw [List.getD_eq_getElem?_getD]
        exact range_u8 hwz i
end
end Go.Proofs.YtnmaknnnmjfhkaeDoor
