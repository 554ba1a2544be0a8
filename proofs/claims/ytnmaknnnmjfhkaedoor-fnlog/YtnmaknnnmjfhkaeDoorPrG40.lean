import Derived.Test.YtnmaknnnmjfhkaeDoorPrG39
set_option maxHeartbeats 16000000
set_option maxRecDepth 8000
namespace Go.Proofs.YtnmaknnnmjfhkaeDoor
open Go.RowKit
set_option maxRecDepth 4000
set_option linter.unusedVariables false
set_option linter.unusedSimpArgs false
structure LgOk (life first : Int) (n m : Nat) (e : ByteArray) : Prop where
  hm : n + m = 56
  hn : 1 ≤ n ∧ n ≤ 8
  hl : 1 ≤ life ∧ life ≤ 59998
  hf : 1 ≤ first ∧ first ≤ 999999900
  he : e.size ≤ 400
section
variable {life first : Int} {n m : Nat} {e : ByteArray}
theorem np_le (l m : Nat) (hm : 48 ≤ m) (hl : l ≤ 400) : nparts l m ≤ 9 := by
  unfold nparts
  split
  · omega
  · have h1 : (l - 1) / m ≤ 399 / 48 := Nat.le_trans (Nat.div_le_div_right (by omega)) (Nat.div_le_div_left hm (by omega))
    have : 399 / 48 = 8 := by decide
    omega
def lgP (e e3 : ByteArray) (life first : Int) (n m : Nat) : List ByteArray :=
  cutList e (life + 1) first n m (nparts e.size m) (nparts e.size m) ++ (cutList ByteArray.empty (life + 1) (first + (nparts e.size m : Int)) n m 1 1 ++ cutList e3 (life + 1) (first + (nparts e.size m : Int) + 1) n m (nparts e3.size m) (nparts e3.size m))
theorem lgP_length (e e3 : ByteArray) (life first : Int) (n m : Nat) : (lgP e e3 life first n m).length = nparts e.size m + 1 + nparts e3.size m := by
  unfold lgP
  simp [cutList_length]
  omega
theorem lgP_1 (e e3 : ByteArray) (life first : Int) (n m k : Nat) (h : k < nparts e.size m) : (lgP e e3 life first n m).getD k ByteArray.empty = cutAt e (life + 1) first n m (nparts e.size m) k := by
  unfold lgP
  rw [← cut_getD _ _ _ _ _ _ _ h]
  simp [List.getD, List.getElem?_append, cutList_length, h]
theorem lgP_2 (e e3 : ByteArray) (life first : Int) (n m : Nat) : (lgP e e3 life first n m).getD (nparts e.size m) ByteArray.empty = cutAt ByteArray.empty (life + 1) (first + (nparts e.size m : Int)) n m 1 0 := by
  unfold lgP
  rw [← cut_getD _ _ _ _ _ _ _ (show 0 < 1 by omega)]
  simp [List.getD, List.getElem?_append, cutList_length]
theorem lgP_3 (e e3 : ByteArray) (life first : Int) (n m k : Nat) (h : k < nparts e3.size m) : (lgP e e3 life first n m).getD (nparts e.size m + 1 + k) ByteArray.empty = cutAt e3 (life + 1) (first + (nparts e.size m : Int) + 1) n m (nparts e3.size m) k := by
  unfold lgP
  rw [← cut_getD _ _ _ _ _ _ _ h]
  have h1 : ¬ (nparts e.size m + 1 + k < nparts e.size m) := by omega
  have h2 : ¬ (nparts e.size m + 1 + k - nparts e.size m < 1) := by omega
  have h3 : nparts e.size m + 1 + k - nparts e.size m - 1 = k := by omega
  simp only [List.getD, List.getElem?_append, cutList_length, if_neg h1, if_neg h2, h3]
theorem lg_two {e3 : ByteArray} (h : LgOk life first n m e) (S : Nat → ByteArray) (f : Nat) (hS : ∀ i, i < nparts e.size m + 1 → S (2 + i) = (lgP e e3 life first n m).getD i ByteArray.empty) :
    scanP S 2 first (n : Int) (nparts e.size m + (1 + f)) 0 0 life ByteArray.empty ([], 0, life) = scanP S 2 first (n : Int) f (nparts e.size m + 1) 2 (life + 1) ByteArray.empty ([e, ByteArray.empty], ((nparts e.size m + 1 : Nat) : Int), life + 1) := by
  obtain ⟨hm, hn, hl, hf, he⟩ := h
  have n1 := np_le e.size m (by omega) he
  have a1 := scan_cut S 2 first n m e (life + 1) (nparts e.size m) 0 hm hn (by omega) (by omega) (by omega) rfl (fun k hk => by
    rw [Nat.zero_add, hS k (by omega), lgP_1 _ _ _ _ _ _ _ hk]
    simp) (1 + f) ([], 0, life) 0 life (by decide) (by omega)
  rw [a1, Nat.zero_add]
  have a2 := scan_cut S 2 first n m ByteArray.empty (life + 1) 1 (nparts e.size m) hm hn (by omega) (by omega) (by omega) (by simp [nparts]) (fun k hk => by
    have : k = 0 := by omega
    subst this
    rw [Nat.add_zero, hS _ (by omega), lgP_2]) f ([] ++ [e], ((nparts e.size m : Nat) : Int), life + 1) 2 (life + 1) (by decide) (by omega)
  rw [a2]
  rfl
theorem lg_all {e3 : ByteArray} (h : LgOk life first n m e) (h3 : e3.size ≤ 400) (S : Nat → ByteArray) (f : Nat) (hS : ∀ i, i < nparts e.size m + 1 + nparts e3.size m → S (2 + i) = (lgP e e3 life first n m).getD i ByteArray.empty) :
    scanP S 2 first (n : Int) (nparts e.size m + 1 + nparts e3.size m + f) 0 0 life ByteArray.empty ([], 0, life) = scanP S 2 first (n : Int) f (nparts e.size m + 1 + nparts e3.size m) 2 (life + 1) ByteArray.empty ([e, ByteArray.empty, e3], ((nparts e.size m + 1 + nparts e3.size m : Nat) : Int), life + 1) := by
  have := lg_two (e3 := e3) h S (nparts e3.size m + f) (fun i hi => hS i (by omega))
  rw [show nparts e.size m + 1 + nparts e3.size m + f = nparts e.size m + (1 + (nparts e3.size m + f)) by omega, this]
  obtain ⟨hm, hn, hl, hf, he⟩ := h
  have n1 := np_le e.size m (by omega) he
  have n3 := np_le e3.size m (by omega) h3
  rw [scan_cut S 2 first n m e3 (life + 1) (nparts e3.size m) (nparts e.size m + 1) hm hn (by omega) (by omega) (by omega) rfl (fun k hk => by
    rw [hS _ (by omega), lgP_3 _ _ _ _ _ _ _ hk]
    congr 1
    omega) f _ 2 (life + 1) (by decide) (by omega)]
  rfl
theorem lg_cut {e3 : ByteArray} (h : LgOk life first n m e) (h3 : e3.size ≤ 400) (S : Nat → ByteArray) (f : Nat) (hS : ∀ i, i < nparts e.size m + 1 + (nparts e3.size m - 1) → S (2 + i) = (lgP e e3 life first n m).getD i ByteArray.empty)
    (hz : f = 0 ∨ rpRes (S (2 + (nparts e.size m + 1 + (nparts e3.size m - 1)))) (n : Int) = none) :
    scanP S 2 first (n : Int) (nparts e.size m + 1 + (nparts e3.size m - 1) + f) 0 0 life ByteArray.empty ([], 0, life) = ([e, ByteArray.empty], ((nparts e.size m + 1 : Nat) : Int), life + 1) := by
  have := lg_two (e3 := e3) h S ((nparts e3.size m - 1) + f) (fun i hi => hS i (by omega))
  rw [show nparts e.size m + 1 + (nparts e3.size m - 1) + f = nparts e.size m + (1 + ((nparts e3.size m - 1) + f)) by omega, this]
  obtain ⟨hm, hn, hl, hf, he⟩ := h
  have n1 := np_le e.size m (by omega) he
  have n3 := np_le e3.size m (by omega) h3
  have n3p := nparts_pos e3.size m
  rw [scan_parts S 2 first n m e3 (life + 1) (nparts e3.size m) (nparts e.size m + 1) hm hn (by omega) (by omega) (by omega) f _ 2 (life + 1) (by decide) (by omega) (nparts e3.size m - 1) (by omega) (fun j hj => by
    rw [hS _ (by omega), lgP_3 _ _ _ _ _ _ _ (by omega)]
    congr 1
    omega)]
  rcases hz with rfl | hz
  · rfl
  · exact scanP_none hz
theorem lg_x {e3 : ByteArray} (h : LgOk life first n m e) (h3 : e3.size ≤ 400) (S : Nat → ByteArray) (f : Nat) (hS : ∀ i, i < nparts e.size m + 1 + nparts e3.size m → S (2 + i) = (lgP e e3 life first n m).getD i ByteArray.empty)
    (hz : rpRes (S (2 + (nparts e.size m + 1 + nparts e3.size m))) (n : Int) = none ∨ ∃ l p, rpRes (S (2 + (nparts e.size m + 1 + nparts e3.size m))) (n : Int) = some (2, l, first + ((nparts e.size m + 1 + nparts e3.size m : Nat) : Int), p) ∧ l ≤ life) :
    scanP S 2 first (n : Int) (nparts e.size m + 1 + nparts e3.size m + f) 0 0 life ByteArray.empty ([], 0, life) = ([e, ByteArray.empty, e3], ((nparts e.size m + 1 + nparts e3.size m : Nat) : Int), life + 1) := by
  rw [lg_all h h3 S f hS]
  rcases hz with hz | ⟨l, p, hz, hl⟩
  · exact scanP_none hz
  · refine scanP_no hz (fun hh => ?_)
    have := hh.2
    unfold goesP at this
    simp at this
    omega
theorem lg_u {e3 : ByteArray} (h : LgOk life first n m e) (h3 : e3.size ≤ 400) (S : Nat → ByteArray) (f : Nat) (hS : ∀ i, i < nparts e.size m + 1 + nparts e3.size m → S (2 + i) = (lgP e e3 life first n m).getD i ByteArray.empty) {k l : Int} {p p2 : ByteArray}
    (hz : rpRes (S (2 + (nparts e.size m + 1 + nparts e3.size m))) (n : Int) = some (1, life + 1, first + ((nparts e.size m + 1 + nparts e3.size m : Nat) : Int), p))
    (hz2 : rpRes (S (2 + (nparts e.size m + 1 + nparts e3.size m + 1))) (n : Int) = some (k, life + 2, l, p2)) (hk : k = 2 ∨ k = 3) :
    scanP S 2 first (n : Int) (nparts e.size m + 1 + nparts e3.size m + (f + 2)) 0 0 life ByteArray.empty ([], 0, life) = ([e, ByteArray.empty, e3], ((nparts e.size m + 1 + nparts e3.size m : Nat) : Int), life + 1) := by
  rw [lg_all h h3 S (f + 2) hS]
  have hw : IntKind.i64.wrap (first + ((nparts e.size m + 1 + nparts e3.size m : Nat) : Int) - ((nparts e.size m + 1 + nparts e3.size m : Nat) : Int)) = first := by
    have := h.hf
    rw [show first + ((nparts e.size m + 1 + nparts e3.size m : Nat) : Int) - ((nparts e.size m + 1 + nparts e3.size m : Nat) : Int) = first by omega]
    simp [IntKind.wrap, IntKind.bits, IntKind.signed]
    omega
  rw [show f + 2 = (f + 1) + 1 by omega, scanP_part hz hw (by unfold goesP; simp)]
  refine scanP_no hz2 (fun hh => ?_)
  have := hh.2
  unfold goesP at this
  rcases hk with rfl | rfl
  · simp at this
  · simp at this
theorem lg_last (h : LgOk life first n m e) (S : Nat → ByteArray) (f : Nat) {k l : Int} {p : ByteArray} (hz : rpRes (S (2 + 0)) (n : Int) = some (k, l, first, p)) : scanP S 2 (first + 1) (n : Int) f 0 0 life ByteArray.empty ([], 0, life) = ([], 0, life) := by
  refine scanP_no hz (fun hh => ?_)
  have h1 := hh.1
  have h2 := h.hf
  simp [IntKind.wrap, IntKind.bits, IntKind.signed] at h1
  omega
end
end Go.Proofs.YtnmaknnnmjfhkaeDoor

namespace Go.Proofs.YtnmaknnnmjfhkaeDoor
open Go.RowKit
set_option maxRecDepth 4000
set_option linter.unusedVariables false
set_option linter.unusedSimpArgs false
@[reducible] def regV (v0 v1 : Value) (frm size n : Int) : Value := .agg #[.iface 126 (.agg #[v0, v1]), .int .i64 frm, .int .i64 size, .int .i64 n]
abbrev Pgs (S : Nat → ByteArray) (frm : Nat) (n : Int) (size : Nat) : Type := { x : Nat // x < size ∧ (rpRes (S (frm + x)) n).isSome = true }
def pgAt (S : Nat → ByteArray) (frm : Nat) (n : Int) (x : Nat) : Int × Int × Int × ByteArray := (rpRes (S (frm + x)) n).getD (0, 0, 0, ByteArray.empty)
theorem pgAt_some {S : Nat → ByteArray} {frm : Nat} {n : Int} {size : Nat} (x : Pgs S frm n size) {k l m : Int} {p : ByteArray} (h : pgAt S frm n x.1 = (k, l, m, p)) : rpRes (S (frm + x.1)) n = some (k, l, m, p) := by
  unfold pgAt at h
  obtain ⟨y, hy⟩ := Option.isSome_iff_exists.1 x.2.2
  rw [hy] at h ⊢
  simp at h
  rw [h]
def Good {S : Nat → ByteArray} {frm : Nat} {n : Int} {size : Nat} (u : Nat) (pre : List (Pgs S frm n size)) : Prop := pre.map Subtype.val = List.range' u pre.length
theorem Good.nil {S : Nat → ByteArray} {frm : Nat} {n : Int} {size : Nat} (u : Nat) : Good u ([] : List (Pgs S frm n size)) := rfl
theorem Good.snoc {S : Nat → ByteArray} {frm : Nat} {n : Int} {size : Nat} {u : Nat} {pre : List (Pgs S frm n size)} {x : Pgs S frm n size} (h : Good u (pre ++ [x])) : Good u pre ∧ x.1 = u + pre.length := by
  unfold Good at h ⊢
  rw [List.map_append, List.length_append, List.length_singleton, List.range'_concat] at h
  have := List.append_inj h (by simp)
  exact ⟨this.1, by simpa using this.2⟩
theorem Good.push {S : Nat → ByteArray} {frm : Nat} {n : Int} {size : Nat} {u : Nat} {pre : List (Pgs S frm n size)} {x : Pgs S frm n size} (h : Good u pre) (hx : x.1 = u + pre.length) : Good u (pre ++ [x]) := by
  unfold Good at h ⊢
  rw [List.map_append, List.length_append, List.length_singleton, List.range'_concat, h]
  simp [hx]
def Chn {S : Nat → ByteArray} {frm : Nat} {n : Int} {size : Nat} (first : Int) (RES : Scd) (u : Nat) (pre : List (Pgs S frm n size)) (wk wl : Int) (op : ByteArray) (out : Scd) : Prop :=
  Good u pre → u + pre.length ≤ size ∧ scanP S frm first n (size - (u + pre.length)) (u + pre.length) wk wl op out = RES
section
variable {S : Nat → ByteArray} {frm : Nat} {n : Int} {size : Nat} {first : Int} {RES : Scd} {u : Nat} {pre : List (Pgs S frm n size)} {x : Pgs S frm n size} {wk wl k l m : Int} {p op : ByteArray} {out : Scd}
theorem num_eq {m first : Int} {x : Nat} (hm : 0 ≤ m ∧ m ≤ 4294967296) (hf : -9223372036854775808 ≤ first ∧ first ≤ 9223372036854775807) : IntKind.i64.wrap (m - (x : Int)) = first ↔ m = IntKind.i64.wrap (first + (x : Int)) := by
  simp [IntKind.wrap, IntKind.bits, IntKind.signed]
  omega
theorem Chn.no (h : Chn first RES u pre wk wl op out) (hp : pgAt S frm n x.1 = (k, l, m, p)) (hf : -9223372036854775808 ≤ first ∧ first ≤ 9223372036854775807) (hn : ¬ (m = IntKind.i64.wrap (first + (x.1 : Int)) ∧ goesP wk wl k l = true)) (hg : Good u (pre ++ [x])) : out = RES := by
  obtain ⟨hg1, hx⟩ := hg.snoc
  obtain ⟨h1, h2⟩ := h hg1
  have hr := pgAt_some x hp
  have hm := rpRes_some hr
  rw [← h2, ← hx]
  refine (scanP_no hr ?_).symm
  rw [num_eq (by omega) hf]
  exact hn
theorem Chn.part (h : Chn first RES u pre wk wl op out) (hp : pgAt S frm n x.1 = (1, l, m, p)) (hf : -9223372036854775808 ≤ first ∧ first ≤ 9223372036854775807) (hm1 : m = IntKind.i64.wrap (first + (x.1 : Int))) (hgo : goesP wk wl 1 l = true) : Chn first RES u (pre ++ [x]) 1 l (op ++ p) out := by
  intro hg
  obtain ⟨hg1, hx⟩ := hg.snoc
  obtain ⟨h1, h2⟩ := h hg1
  have hr := pgAt_some x hp
  have hm := rpRes_some hr
  have hlt := x.2.1
  rw [List.length_append, List.length_singleton]
  refine ⟨by omega, ?_⟩
  rw [← h2, show size - (u + pre.length) = (size - (u + (pre.length + 1))) + 1 by omega, ← hx, scanP_part hr ((num_eq (by omega) hf).2 hm1) hgo, show u + (pre.length + 1) = x.1 + 1 by omega]
theorem Chn.end (h : Chn first RES u pre wk wl op out) (hp : pgAt S frm n x.1 = (k, l, m, p)) (hf : -9223372036854775808 ≤ first ∧ first ≤ 9223372036854775807) (hm1 : m = IntKind.i64.wrap (first + (x.1 : Int))) (hgo : goesP wk wl k l = true) (hk : k ≠ 1) (hg : Good u (pre ++ [x])) :
    Chn first RES (x.1 + 1) ([] : List (Pgs S frm n size)) k l ByteArray.empty (if k = 2 then out.1 ++ [op ++ p] else out.1, (x.1 : Int) + 1, l) := by
  intro _
  obtain ⟨hg1, hx⟩ := hg.snoc
  obtain ⟨h1, h2⟩ := h hg1
  have hr := pgAt_some x hp
  have hm := rpRes_some hr
  have hlt := x.2.1
  refine ⟨by simp; omega, ?_⟩
  rw [← h2, show size - (u + pre.length) = (size - (x.1 + 1)) + 1 by omega, ← hx, scanP_end hr ((num_eq (by omega) hf).2 hm1) hgo hk]
  simp
theorem Chn.done (h : Chn first RES u pre wk wl op out) (hg : Good u pre) (he : size ≤ u + pre.length ∨ rpRes (S (frm + (u + pre.length))) n = none) : out = RES := by
  obtain ⟨h1, h2⟩ := h hg
  rw [← h2]
  rcases he with he | he
  · rw [show size - (u + pre.length) = 0 by omega]; rfl
  · exact (scanP_none he).symm
end
end Go.Proofs.YtnmaknnnmjfhkaeDoor
