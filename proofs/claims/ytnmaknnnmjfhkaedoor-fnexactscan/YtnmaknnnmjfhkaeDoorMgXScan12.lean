import Derived.Test.YtnmaknnnmjfhkaeDoorQxScanScP
import Derived.Test.YtnmaknnnmjfhkaeDoorQxScanRpS

set_option maxHeartbeats 16000000
set_option maxRecDepth 8000
namespace Go.Proofs.YtnmaknnnmjfhkaeDoor
open Go.RowKit
set_option maxRecDepth 4000
set_option linter.unusedVariables false
set_option linter.unusedSimpArgs false

/-- A region's value. -/
@[reducible] def regV (v0 v1 : Value) (frm size n : Int) : Value := .agg #[.iface 126 (.agg #[v0, v1]), .int .i64 frm, .int .i64 size, .int .i64 n]
/-- A place of a region that holds a page. -/
abbrev Pgs (S : Nat → ByteArray) (frm : Nat) (n : Int) (size : Nat) : Type := { x : Nat // x < size ∧ (rpRes (S (frm + x)) n).isSome = true }
/-- The page there. -/
def pgAt (S : Nat → ByteArray) (frm : Nat) (n : Int) (x : Nat) : Int × Int × Int × ByteArray := (rpRes (S (frm + x)) n).getD (0, 0, 0, ByteArray.empty)
theorem pgAt_some {S : Nat → ByteArray} {frm : Nat} {n : Int} {size : Nat} (x : Pgs S frm n size) {k l m : Int} {p : ByteArray} (h : pgAt S frm n x.1 = (k, l, m, p)) : rpRes (S (frm + x.1)) n = some (k, l, m, p) := by
  unfold pgAt at h
  obtain ⟨y, hy⟩ := Option.isSome_iff_exists.1 x.2.2
  rw [hy] at h ⊢
  simp at h
  rw [h]
/-- These places are one behind the other. -/
def Good {S : Nat → ByteArray} {frm : Nat} {n : Int} {size : Nat} (u : Nat) (pre : List (Pgs S frm n size)) : Prop := pre.map Subtype.val = List.range' u pre.length
theorem Good.nil {S : Nat → ByteArray} {frm : Nat} {n : Int} {size : Nat} (u : Nat) : Good u ([] : List (Pgs S frm n size)) := rfl
theorem Good.snoc {S : Nat → ByteArray} {frm : Nat} {n : Int} {size : Nat} {u : Nat} {pre : List (Pgs S frm n size)} {x : Pgs S frm n size} (h : Good u (pre ++ [x])) : Good u pre ∧ x.1 = u + pre.length := by
  unfold Good at h ⊢
  rw [List.map_append, List.length_append, List.length_singleton, List.range'_concat] at h
  have := List.append_inj h (by simp)
  exact ⟨this.1, by simpa using this.2⟩
theorem Good.push {S : Nat → ByteArray} {frm : Nat} {n : Int} {size : Nat} {u : Nat} {pre : List (Pgs S frm n size)} {x : Pgs S frm n size} (h : Good u pre) (hx : x.1 = u + pre.length) : Good u (pre ++ [x]) := by
  unfold Good at h ⊢
  rw [List.map_append, List.length_append, List.length_singleton, List.range'_concat, h]
  simp [hx]
/-- What is still to come of a scan, behind these pages. -/
def Chn {S : Nat → ByteArray} {frm : Nat} {n : Int} {size : Nat} (first : Int) (RES : Scd) (u : Nat) (pre : List (Pgs S frm n size)) (wk wl : Int) (op : ByteArray) (out : Scd) : Prop :=
  Good u pre → u + pre.length ≤ size ∧ scanP S frm first n (size - (u + pre.length)) (u + pre.length) wk wl op out = RES
section
variable {S : Nat → ByteArray} {frm : Nat} {n : Int} {size : Nat} {first : Int} {RES : Scd} {u : Nat} {pre : List (Pgs S frm n size)} {x : Pgs S frm n size} {wk wl k l m : Int} {p op : ByteArray} {out : Scd}
theorem num_eq {m first : Int} {x : Nat} (hm : 0 ≤ m ∧ m ≤ 4294967296) (hf : -9223372036854775808 ≤ first ∧ first ≤ 9223372036854775807) : IntKind.i64.wrap (m - (x : Int)) = first ↔ m = IntKind.i64.wrap (first + (x : Int)) := by
  simp [IntKind.wrap, IntKind.bits, IntKind.signed]
  omega
theorem Chn.no (h : Chn first RES u pre wk wl op out) (hp : pgAt S frm n x.1 = (k, l, m, p)) (hf : -9223372036854775808 ≤ first ∧ first ≤ 9223372036854775807) (hn : ¬ (m = IntKind.i64.wrap (first + (x.1 : Int)) ∧ goesP wk wl k l = true)) (hg : Good u (pre ++ [x])) : out = RES := by
  obtain ⟨hg1, hx⟩ := hg.snoc
  obtain ⟨h1, h2⟩ := h hg1
  have hr := pgAt_some x hp
  have hm := rpRes_some hr
  rw [← h2, ← hx]
  refine (scanP_no hr ?_).symm
  rw [num_eq (by omega) hf]
  exact hn
theorem Chn.part (h : Chn first RES u pre wk wl op out) (hp : pgAt S frm n x.1 = (1, l, m, p)) (hf : -9223372036854775808 ≤ first ∧ first ≤ 9223372036854775807) (hm1 : m = IntKind.i64.wrap (first + (x.1 : Int))) (hgo : goesP wk wl 1 l = true) : Chn first RES u (pre ++ [x]) 1 l (op ++ p) out := by
  intro hg
  obtain ⟨hg1, hx⟩ := hg.snoc
  obtain ⟨h1, h2⟩ := h hg1
  have hr := pgAt_some x hp
  have hm := rpRes_some hr
  have hlt := x.2.1
  rw [List.length_append, List.length_singleton]
  refine ⟨by omega, ?_⟩
  rw [← h2, show size - (u + pre.length) = (size - (u + (pre.length + 1))) + 1 by omega, ← hx, scanP_part hr ((num_eq (by omega) hf).2 hm1) hgo, show u + (pre.length + 1) = x.1 + 1 by omega]
theorem Chn.end (h : Chn first RES u pre wk wl op out) (hp : pgAt S frm n x.1 = (k, l, m, p)) (hf : -9223372036854775808 ≤ first ∧ first ≤ 9223372036854775807) (hm1 : m = IntKind.i64.wrap (first + (x.1 : Int))) (hgo : goesP wk wl k l = true) (hk : k ≠ 1) (hg : Good u (pre ++ [x])) :
    Chn first RES (x.1 + 1) ([] : List (Pgs S frm n size)) k l ByteArray.empty (if k = 2 then out.1 ++ [op ++ p] else out.1, (x.1 : Int) + 1, l) := by
  intro _
  obtain ⟨hg1, hx⟩ := hg.snoc
  obtain ⟨h1, h2⟩ := h hg1
  have hr := pgAt_some x hp
  have hm := rpRes_some hr
  have hlt := x.2.1
  refine ⟨by simp; omega, ?_⟩
  rw [← h2, show size - (u + pre.length) = (size - (x.1 + 1)) + 1 by omega, ← hx, scanP_end hr ((num_eq (by omega) hf).2 hm1) hgo hk]
  simp
theorem Chn.done (h : Chn first RES u pre wk wl op out) (hg : Good u pre) (he : size ≤ u + pre.length ∨ rpRes (S (frm + (u + pre.length))) n = none) : out = RES := by
  obtain ⟨h1, h2⟩ := h hg
  rw [← h2]
  rcases he with he | he
  · rw [show size - (u + pre.length) = 0 by omega]; rfl
  · exact (scanP_none he).symm
end
end Go.Proofs.YtnmaknnnmjfhkaeDoor

namespace Go.Proofs.YtnmaknnnmjfhkaeDoor
open Go.RowKit
set_option maxRecDepth 4000
set_option linter.unusedVariables false
set_option linter.unusedSimpArgs false

set_option maxHeartbeats 16000000 in
theorem readpage_s_any (s : ByteArray) (n : Int) (w : World) (hs : s.size ≤ 1048576) : Calls Tryd.prog 63 #[.string s, .int .i64 n] w fun e w' => e = .returned (rpV (rpRes s n)) ∧ Below w.heap.size w w' := by
  have hb0 : ∀ o, Below w.heap.size w (w.alloc o) := fun o => (Below.refl _ _).alloc (Nat.le_refl _) _
  by_cases hn : 1 ≤ n ∧ n ≤ 8
  · obtain ⟨m, rfl⟩ : ∃ m : Nat, n = (m : Int) := ⟨n.toNat, by omega⟩
    have hd : decide (1 ≤ (m : Int) ∧ (m : Int) ≤ 8) = true := by simp; omega
    by_cases h64 : s.size = 64
    · by_cases hN : rpN (s.extract m 64) ≤ 56 - m
      · exact readpage_s s m w h64 (by omega) (by omega) hN
      · have HR := hid0 (rpRes_no (s := s) (n := (m : Int)) (fun hh => hN (by have := hh.2.2.2.1; rw [Int.toNat_natCast] at this; omega)))
        have hs' : (s.size : Int) = 64 := by omega
        obtain ⟨b, hb⟩ : ∃ b, s.extract m 64 = b := ⟨_, rfl⟩
        have hbz : b.size = 64 - m := by rw [← hb]; simp only [ByteArray.size_extract]; omega
        obtain ⟨q, hq⟩ : ∃ q : Nat, b.size = q := ⟨_, rfl⟩
        have l7 : 7 < b.size := by omega
        have g7 := getb b 7 l7
        rw [hb] at hN
        obtain ⟨N, hN2⟩ : ∃ N, N = (b.data.toList.getD 7 0).toNat := ⟨_, rfl⟩
        rw [← hN2] at g7
        have hNl : (64 - (m : Int) - 8) < (N : Int) := by have : rpN b = N := hN2.symm; omega
        have hNb : N ≤ 255 := by rw [hN2]; have := UInt8.toNat_lt (b.data.toList.getD 7 0); omega
        have hm7 : (7 : Int) < (q : Int) := by omega
        have hm1 : m + q = 64 := by omega
        clear hbz hN2 hN
        go_enter Tryd.func63, Tryd.ntmps63
        go_wp2_with (first | (go_at_call 34; refine (width_s _ _).mono ?_; rw [hd]; rintro e w2 ⟨rfl, rfl⟩) | (go_at_call 32; refine (part_s _ _ (by omega) (by omega)).mono ?_; rintro e w2 ⟨rfl, rfl⟩))
        refine bodyPost_ret (v := .tuple #[pageV 0 0 0 ⟨#[]⟩, .bool false]) (by simp [results, Tryd.results63, go_sem]) rfl ⟨by rw [HR.out]; rfl, ?_⟩
        exact hb0 _
    · have HR := hid0 (rpRes_no (s := s) (n := (m : Int)) (fun hh => h64 hh.2.2.1))
      have hs' : ((s.size : Int) != 64) = true := by simp; omega
      clear h64
      go_enter Tryd.func63, Tryd.ntmps63
      go_wp2_with (first | (go_at_call 34; refine (width_s _ _).mono ?_; rw [hd]; rintro e w2 ⟨rfl, rfl⟩))
      refine bodyPost_ret (v := .tuple #[pageV 0 0 0 ⟨#[]⟩, .bool false]) (by simp [results, Tryd.results63, go_sem]) rfl ⟨by rw [HR.out]; rfl, ?_⟩
      exact hb0 _
  · have HR := hid0 (rpRes_no (s := s) (n := n) (fun hh => hn ⟨hh.1, hh.2.1⟩))
    have hd : decide (1 ≤ n ∧ n ≤ 8) = false := by simpa using hn
    clear hn
    go_enter Tryd.func63, Tryd.ntmps63
    go_wp2_with (first | (go_at_call 34; refine (width_s _ _).mono ?_; rw [hd]; rintro e w2 ⟨rfl, rfl⟩))
    refine bodyPost_ret (v := .tuple #[pageV 0 0 0 ⟨#[]⟩, .bool false]) (by simp [results, Tryd.results63, go_sem]) rfl ⟨by rw [HR.out]; rfl, ?_⟩
    exact hb0 _
end Go.Proofs.YtnmaknnnmjfhkaeDoor
