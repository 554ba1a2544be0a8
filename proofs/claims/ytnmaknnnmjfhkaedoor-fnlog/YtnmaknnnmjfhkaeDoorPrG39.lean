import Derived.Test.YtnmaknnnmjfhkaeDoorPrRpS
import Derived.Test.YtnmaknnnmjfhkaeDoorPrRt
import Derived.Test.YtnmaknnnmjfhkaeDoorPrCutB
import Derived.Test.YtnmaknnnmjfhkaeDoorPrG29
set_option maxHeartbeats 16000000
set_option maxRecDepth 8000
namespace Go.Proofs.YtnmaknnnmjfhkaeDoor
open Go.RowKit
set_option maxRecDepth 4000
set_option linter.unusedVariables false
set_option linter.unusedSimpArgs false
theorem nums_range' (r : ByteArray) : ∀ y ∈ nums r, 0 ≤ y ∧ y ≤ 255 := by
  intro y hy
  unfold nums at hy
  obtain ⟨c, _, rfl⟩ := List.mem_map.1 hy
  have := UInt8.toNat_lt c
  omega
theorem nums_extract (b : ByteArray) (i j : Nat) : nums (b.extract i j) = ((nums b).take j).drop i := by
  unfold nums
  rw [← List.map_take, ← List.map_drop, ByteArray.data_extract, Array.toList_extract]
  simp [List.extract, List.drop_take]
theorem numOf_rng : ∀ (k : Nat) (ys : List Int), ys.length = k → (∀ y ∈ ys, 0 ≤ y ∧ y ≤ 255) → 0 ≤ numOf ys ∧ numOf ys < (256 : Int) ^ k := by
  intro k
  induction k with
  | zero => intro ys hl _; have : ys = [] := List.eq_nil_of_length_eq_zero hl; subst this; simp [numOf]
  | succ k ih =>
    intro ys hl hy
    have hne : ys ≠ [] := by intro h; subst h; simp at hl
    have hd := List.dropLast_concat_getLast hne
    have h1 := ih ys.dropLast (by simp; omega) (fun y h => hy y (List.dropLast_subset _ h))
    have h2 := hy _ (List.getLast_mem hne)
    rw [← hd, numOf_snoc, Int.pow_succ]
    omega
theorem numOf_one (y : Int) : numOf [y] = y := by simp [numOf]
theorem rp_fields (s : ByteArray) (n : Nat) (hs : s.size = 64) (h2 : n ≤ 8) {b : ByteArray} (hb : b = s.extract n 64) :
    (rpN b : Int) = numOf (((nums s).drop (n + 7)).take 1) ∧ rpK b = numOf (((nums s).drop n).take 1) ∧ rpL b = numOf (((nums s).drop (n + 1)).take 2) ∧ rpM b = numOf (((nums s).drop (n + 3)).take 4) ∧ rpP b = strOfNums (((nums s).drop (n + 8)).take (rpN b)) := by
  have hn : nums b = (nums s).drop n := by rw [hb, nums_extract, List.take_of_length_le (by rw [nums_length]; omega)]
  have hbz : b.data.toList.length = 64 - n := by have := nums_length s; have h := congrArg List.length hn; rw [List.length_drop, nums_length, nums_length, hs] at h; exact h
  have one : ∀ i, i < 64 - n → numOf (((nums s).drop (n + i)).take 1) = ((b.data.toList.getD i 0).toNat : Int) := fun i hi => by
    rw [← List.drop_drop, ← hn]
    unfold nums
    rw [← List.map_drop, ← List.map_take, List.drop_eq_getElem_cons (by omega)]
    simp only [List.take_succ_cons, List.take_zero, List.map_cons, List.map_nil, numOf_one]
    rw [List.getD_eq_getElem?_getD, List.getElem?_eq_getElem (by omega)]
    rfl
  refine ⟨?_, ?_, ?_, ?_, ?_⟩
  · rw [one 7 (by omega)]; rfl
  · have := one 0 (by omega); rw [Nat.add_zero] at this; rw [this]; rfl
  · unfold rpL; rw [nums_extract, hn]; simp [List.drop_take, List.drop_drop]
  · unfold rpM; rw [nums_extract, hn]; simp [List.drop_take, List.drop_drop]
  · unfold rpP
    rw [← strOfNums_nums (b.extract 8 (8 + rpN b)), nums_extract, hn]
    simp [List.drop_take, List.drop_drop]
end Go.Proofs.YtnmaknnnmjfhkaeDoor

namespace Go.Proofs.YtnmaknnnmjfhkaeDoor
open Go.RowKit
set_option maxRecDepth 4000
set_option linter.unusedVariables false
set_option linter.unusedSimpArgs false
theorem rpRes_some {s : ByteArray} {n k l m : Int} {p : ByteArray} (h : rpRes s n = some (k, l, m, p)) : s.size = 64 ∧ formOf k l m p n = s ∧ 1 ≤ m ∧ m ≤ 1000000000 ∧ 1 ≤ l ∧ l ≤ 60000 ∧ p.size ≤ 64 := by
  unfold rpRes at h
  split at h
  · rename_i hh
    obtain ⟨h1, h2, h3, h4, h5⟩ := hh
    simp only [Option.some.injEq, Prod.mk.injEq] at h
    obtain ⟨rfl, rfl, rfl, rfl⟩ := h
    refine ⟨h3, h5, ?_⟩
    have hok : pageOk (rpK (s.extract n.toNat 64)) (rpL (s.extract n.toNat 64)) (rpM (s.extract n.toNat 64)) (rpP (s.extract n.toNat 64)) n = true := by
      cases hc : pageOk (rpK (s.extract n.toNat 64)) (rpL (s.extract n.toNat 64)) (rpM (s.extract n.toNat 64)) (rpP (s.extract n.toNat 64)) n with
      | true => rfl
      | false =>
        exfalso
        unfold formOf at h5
        rw [hc, if_neg (by simp)] at h5
        rw [← h5] at h3
        exact absurd h3 (by decide)
    have hd := of_decide_eq_true (by unfold pageOk at hok; exact hok)
    omega
  · cases h
end Go.Proofs.YtnmaknnnmjfhkaeDoor

namespace Go.Proofs.YtnmaknnnmjfhkaeDoor
open Go.RowKit
set_option maxRecDepth 4000
set_option linter.unusedVariables false
set_option linter.unusedSimpArgs false
def goesP (wk wl k l : Int) : Bool := decide (wl ≤ l) && (if k = 3 then decide (wk ≠ 1) else (decide (k = 1) || decide (k = 2)) && (decide (wk ≠ 1) || decide (wl = l)))
abbrev Scd := List ByteArray × Int × Int
def scanP (S : Nat → ByteArray) (frm : Nat) (first n : Int) : Nat → Nat → Int → Int → ByteArray → Scd → Scd
  | 0, _, _, _, _, out => out
  | f + 1, i, wk, wl, op, out =>
    match rpRes (S (frm + i)) n with
    | none => out
    | some (k, l, m, p) => if IntKind.i64.wrap (m - (i : Int)) = first ∧ goesP wk wl k l = true then
        (if k = 1 then scanP S frm first n f (i + 1) k l (op ++ p) out
         else scanP S frm first n f (i + 1) k l ByteArray.empty (if k = 2 then out.1 ++ [op ++ p] else out.1, (i : Int) + 1, l))
      else out
theorem scanP_none {S : Nat → ByteArray} {frm : Nat} {first n : Int} {f i : Nat} {wk wl : Int} {op : ByteArray} {out : Scd} (h : rpRes (S (frm + i)) n = none) : scanP S frm first n f i wk wl op out = out := by
  cases f with
  | zero => rfl
  | succ f => rw [scanP, h]
theorem scanP_no {S : Nat → ByteArray} {frm : Nat} {first n : Int} {f i : Nat} {wk wl k l m : Int} {p op : ByteArray} {out : Scd} (h : rpRes (S (frm + i)) n = some (k, l, m, p)) (hn : ¬ (IntKind.i64.wrap (m - (i : Int)) = first ∧ goesP wk wl k l = true)) : scanP S frm first n f i wk wl op out = out := by
  cases f with
  | zero => rfl
  | succ f => rw [scanP, h]; simp only; rw [if_neg hn]
theorem scanP_part {S : Nat → ByteArray} {frm : Nat} {first n : Int} {f i : Nat} {wk wl l m : Int} {p op : ByteArray} {out : Scd} (h : rpRes (S (frm + i)) n = some (1, l, m, p)) (hn : IntKind.i64.wrap (m - (i : Int)) = first) (hg : goesP wk wl 1 l = true) : scanP S frm first n (f + 1) i wk wl op out = scanP S frm first n f (i + 1) 1 l (op ++ p) out := by
  rw [scanP, h]; simp only; rw [if_pos ⟨hn, hg⟩, if_pos trivial]
theorem scanP_end {S : Nat → ByteArray} {frm : Nat} {first n : Int} {f i : Nat} {wk wl k l m : Int} {p op : ByteArray} {out : Scd} (h : rpRes (S (frm + i)) n = some (k, l, m, p)) (hn : IntKind.i64.wrap (m - (i : Int)) = first) (hg : goesP wk wl k l = true) (hk : k ≠ 1) : scanP S frm first n (f + 1) i wk wl op out = scanP S frm first n f (i + 1) k l ByteArray.empty (if k = 2 then out.1 ++ [op ++ p] else out.1, (i : Int) + 1, l) := by
  rw [scanP, h]; simp only; rw [if_pos ⟨hn, hg⟩, if_neg hk]
def goesI (wk wl k l : Int) : Bool := if k = 1 ∨ k = 2 then (decide (l = wl) || (!decide (wk = 1) && decide (wl < l))) else if k = 3 then decide (wl ≤ l) && !decide (wk = 1) else false
theorem goes_eq (wk wl k l : Int) : goesI wk wl k l = goesP wk wl k l := by
  unfold goesI goesP
  rw [Bool.eq_iff_iff]
  by_cases h3 : k = 3
  · subst h3
    simp
  · by_cases h12 : k = 1 ∨ k = 2
    · have hd : (decide (k = 1) || decide (k = 2)) = true := by simpa using h12
      rw [if_pos h12, if_neg h3, hd]
      by_cases h1 : wk = 1
      · subst h1; simp; omega
      · simp [h1]; omega
    · have hd : (decide (k = 1) || decide (k = 2)) = false := by simpa using h12
      rw [if_neg h12, if_neg h3, if_neg h3, hd]
      simp
theorem scanP_begin (S : Nat → ByteArray) (frm : Nat) (first n : Int) (f i : Nat) (wl : Int) (op : ByteArray) (out : Scd) : scanP S frm first n f i 2 wl op out = scanP S frm first n f i 0 wl op out := by
  cases f with
  | zero => rfl
  | succ f =>
    rw [scanP, scanP]
    have : ∀ k l, goesP 2 wl k l = goesP 0 wl k l := fun k l => by unfold goesP; simp
    simp only [this]
end Go.Proofs.YtnmaknnnmjfhkaeDoor

namespace Go.Proofs.YtnmaknnnmjfhkaeDoor
open Go.RowKit
set_option linter.unusedVariables false
set_option linter.unusedSimpArgs false
theorem numOf_be1 (v : Int) (h0 : 0 ≤ v) (h1 : v < 256) : numOf (be 1 v) = v := by
  simp [be, List.range_succ, sh, numOf]
  omega
theorem numOf_be2 (v : Int) (h0 : 0 ≤ v) (h1 : v < 65536) : numOf (be 2 v) = v := by
  simp [be, List.range_succ, sh, numOf]
  omega
theorem numOf_be4 (v : Int) (h0 : 0 ≤ v) (h1 : v < 4294967296) : numOf (be 4 v) = v := by
  simp [be, List.range_succ, sh, numOf]
  omega
theorem tail_fields (k l m : Int) (p : ByteArray) (n : Nat) (s : ByteArray) (hs : s.size = 64) (hn : n ≤ 8) (hp : p.size + n ≤ 56) (hk0 : 0 ≤ k) (hk1 : k < 256) (hl0 : 0 ≤ l) (hl1 : l < 65536) (hm0 : 0 ≤ m) (hm1 : m < 4294967296)
    (hb : (nums s).drop n = pageBody k l m p n) {b : ByteArray} (he : b = s.extract n 64) : rpN b = p.size ∧ rpK b = k ∧ rpL b = l ∧ rpM b = m ∧ rpP b = p := by
  obtain ⟨fN, fK, fL, fM, fP⟩ := rp_fields s n hs hn he
  have d : ∀ i, (nums s).drop (n + i) = (pageBody k l m p n).drop i := fun i => by rw [← hb, List.drop_drop]
  have l1 : (be 1 k).length = 1 := be_length _ _
  have l2 : (be 2 l).length = 2 := be_length _ _
  have l3 : (be 4 m).length = 4 := be_length _ _
  have l4 : (be 1 (p.size : Int)).length = 1 := be_length _ _
  have l5 : (nums p).length = p.size := nums_length p
  have eb : pageBody k l m p n = be 1 k ++ (be 2 l ++ (be 4 m ++ (be 1 (p.size : Int) ++ (nums p ++ List.replicate (56 - n - p.size) 0)))) := by
    unfold pageBody pageHead
    simp only [List.append_assoc]
  have d0 := d 0
  rw [Nat.add_zero, List.drop_zero] at d0
  have e1 : (pageBody k l m p n).drop 1 = be 2 l ++ (be 4 m ++ (be 1 (p.size : Int) ++ (nums p ++ List.replicate (56 - n - p.size) 0))) := by rw [eb, List.drop_left' l1]
  have e3 : (pageBody k l m p n).drop 3 = be 4 m ++ (be 1 (p.size : Int) ++ (nums p ++ List.replicate (56 - n - p.size) 0)) := by
    have : (pageBody k l m p n).drop 3 = ((pageBody k l m p n).drop 1).drop 2 := by rw [List.drop_drop]
    rw [this, e1, List.drop_left' l2]
  have e7 : (pageBody k l m p n).drop 7 = be 1 (p.size : Int) ++ (nums p ++ List.replicate (56 - n - p.size) 0) := by
    have : (pageBody k l m p n).drop 7 = ((pageBody k l m p n).drop 3).drop 4 := by rw [List.drop_drop]
    rw [this, e3, List.drop_left' l3]
  have e8 : (pageBody k l m p n).drop 8 = nums p ++ List.replicate (56 - n - p.size) 0 := by
    have : (pageBody k l m p n).drop 8 = ((pageBody k l m p n).drop 7).drop 1 := by rw [List.drop_drop]
    rw [this, e7, List.drop_left' l4]
  rw [d 7, e7, List.take_left' l4, numOf_be1 _ (by omega) (by omega)] at fN
  have hN : rpN b = p.size := by omega
  rw [d0, eb, List.take_left' l1, numOf_be1 _ hk0 hk1] at fK
  rw [d 1, e1, List.take_left' l2, numOf_be2 _ hl0 hl1] at fL
  rw [d 3, e3, List.take_left' l3, numOf_be4 _ hm0 hm1] at fM
  rw [d 8, e8, hN, List.take_left' l5, strOfNums_nums] at fP
  exact ⟨hN, fK, fL, fM, fP⟩
theorem form_drop (k l m : Int) (p : ByteArray) (n : Nat) : (nums (pageForm k l m p n)).drop n = pageBody k l m p n := by
  unfold pageForm
  rw [nums_append, List.drop_left' (by rw [nums_length, sumN_size]), nums_strOfNums _ (body_bytes k l m p n)]
theorem rp_form (k l m : Int) (p : ByteArray) (n : Nat) (hok : pageOk k l m p (n : Int) = true) : rpRes (pageForm k l m p n) (n : Int) = some (k, l, m, p) := by
  have hd := of_decide_eq_true (by unfold pageOk at hok; exact hok)
  obtain ⟨h1, h2, h3, h4, h5, h6, h7, h8, h9, _⟩ := hd
  have hs := pageForm_size k l m p n (by omega)
  obtain ⟨a, b, c, d, e⟩ := tail_fields k l m p n _ hs (by omega) (by omega) (by omega) (by omega) (by omega) (by omega) (by omega) (by omega) (form_drop k l m p n) rfl
  unfold rpRes
  rw [Int.toNat_natCast, a, b, c, d, e]
  have hf : formOf k l m p (n : Int) = pageForm k l m p n := by unfold formOf; rw [hok, if_pos rfl, Int.toNat_natCast]
  rw [if_pos ⟨h1, h2, hs, by omega, hf⟩]
end Go.Proofs.YtnmaknnnmjfhkaeDoor

namespace Go.Proofs.YtnmaknnnmjfhkaeDoor
open Go.RowKit
set_option maxRecDepth 4000
set_option linter.unusedVariables false
set_option linter.unusedSimpArgs false
theorem extract_join (s : ByteArray) (a b : Nat) (h : a ≤ b) : s.extract 0 a ++ s.extract a b = s.extract 0 b := by
  apply ByteArray.ext
  rw [ByteArray.data_append, ByteArray.data_extract, ByteArray.data_extract, ByteArray.data_extract]
  rw [Array.extract_append_extract]
  simp [Nat.min_eq_left, Nat.max_eq_right h]
theorem extract_to_end (s : ByteArray) (b : Nat) (h : s.size ≤ b) : s.extract 0 b = s := by
  apply ByteArray.ext
  rw [ByteArray.data_extract]
  exact Array.extract_eq_self_of_le h
theorem nparts_end (l m : Nat) (hm : 0 < m) : l ≤ nparts l m * m := by
  unfold nparts
  split
  · omega
  · rename_i h
    have := Nat.div_add_mod (l - 1) m
    have h2 := Nat.mod_lt (l - 1) hm
    rw [Nat.add_mul, Nat.mul_comm]
    omega
theorem rp_cut (e : ByteArray) (life f : Int) (n m N k : Nat) (hm : n + m = 56) (hn : 1 ≤ n ∧ n ≤ 8) (hl : 1 ≤ life ∧ life ≤ 60000) (hf : 1 ≤ f + (k : Int) ∧ f + (k : Int) ≤ 1000000000) :
    rpRes (cutAt e life f n m N k) (n : Int) = some (if k + 1 = N then 2 else 1, life, f + (k : Int), e.extract (k * m) (k * m + m)) := by
  have hp : (e.extract (k * m) (k * m + m)).size ≤ m := by rw [ByteArray.size_extract]; omega
  have hok : pageOk (if k + 1 = N then 2 else 1) life (f + (k : Int)) (e.extract (k * m) (k * m + m)) (n : Int) = true := by
    unfold pageOk
    rw [decide_eq_true_eq]
    split
    · refine ⟨by omega, by omega, by omega, by omega, by omega, by omega, by omega, by omega, by omega, fun h => by omega⟩
    · refine ⟨by omega, by omega, by omega, by omega, by omega, by omega, by omega, by omega, by omega, fun h => by omega⟩
  unfold cutAt formOf
  rw [if_pos hok, Int.toNat_natCast]
  exact rp_form _ _ _ _ n hok
theorem wrap_num (first : Int) (hf : -9223372036854775808 ≤ first ∧ first ≤ 9223372036854775807) (i k : Nat) : IntKind.i64.wrap (first + (i : Int) + (k : Int) - ((i + k : Nat) : Int)) = first := by
  have : first + (i : Int) + (k : Int) - ((i + k : Nat) : Int) = first := by omega
  rw [this]
  simp [IntKind.wrap, IntKind.bits, IntKind.signed]
  omega
theorem scan_cut_from (S : Nat → ByteArray) (frm : Nat) (first : Int) (n m : Nat) (e : ByteArray) (life : Int) (N i : Nat) (hm : n + m = 56) (hn : 1 ≤ n ∧ n ≤ 8) (hl : 1 ≤ life ∧ life ≤ 60000) (hfr : -9223372036854775808 ≤ first ∧ first ≤ 9223372036854775807) (hf : 1 ≤ first + (i : Int) ∧ first + (i : Int) + (N : Int) ≤ 1000000001) (hN : N = nparts e.size m)
    (hS : ∀ k, k < N → S (frm + (i + k)) = cutAt e life (first + (i : Int)) n m N k) (f : Nat) (out : Scd) :
    ∀ (j k : Nat) (wk wl : Int), k + j = N → 0 < j → (k = 0 → wk ≠ 1 ∧ wl ≤ life) → (0 < k → wk = 1 ∧ wl = life) →
      scanP S frm first (n : Int) (j + f) (i + k) wk wl (e.extract 0 (k * m)) out = scanP S frm first (n : Int) f (i + N) 2 life ByteArray.empty (out.1 ++ [e], ((i + N : Nat) : Int), life)
  | 0, _, _, _, _, h, _, _ => absurd h (by omega)
  | j + 1, k, wk, wl, hk, _, h0, h1 => by
    have hr := rp_cut e life (first + (i : Int)) n m N k hm hn hl (by omega)
    rw [← hS k (by omega)] at hr
    have hw := wrap_num first hfr i k
    have hgo : ∀ kd : Int, kd = 1 ∨ kd = 2 → goesP wk wl kd life = true := fun kd hkd => by
      unfold goesP
      by_cases hk0 : k = 0
      · obtain ⟨a, b⟩ := h0 hk0
        rcases hkd with rfl | rfl <;> simp [a, b]
      · obtain ⟨a, b⟩ := h1 (by omega)
        subst a b
        rcases hkd with rfl | rfl <;> simp
    rw [show j + 1 + f = (j + f) + 1 by omega]
    by_cases hlast : k + 1 = N
    · have hj : j = 0 := by omega
      subst hj
      rw [if_pos hlast] at hr
      rw [scanP_end hr hw (hgo 2 (.inr rfl)) (by decide), if_pos rfl, extract_join _ _ _ (by omega)]
      have he : e.size ≤ k * m + m := by
        have := nparts_end e.size m (by omega)
        rw [← hN, ← hlast, Nat.add_mul] at this
        omega
      rw [extract_to_end _ _ he, show i + k + 1 = i + N by omega, Nat.zero_add]
      congr 2
      rw [← hlast]
      congr 1
    · rw [if_neg hlast] at hr
      rw [scanP_part hr hw (hgo 1 (.inl rfl)), extract_join _ _ _ (by omega), show k * m + m = (k + 1) * m by rw [Nat.add_mul]; omega, show i + k + 1 = i + (k + 1) by omega]
      exact scan_cut_from S frm first n m e life N i hm hn hl hfr hf hN hS f out j (k + 1) 1 life (by omega) (by omega) (fun h => by omega) (fun _ => ⟨rfl, rfl⟩)
theorem scan_cut (S : Nat → ByteArray) (frm : Nat) (first : Int) (n m : Nat) (e : ByteArray) (life : Int) (N i : Nat) (hm : n + m = 56) (hn : 1 ≤ n ∧ n ≤ 8) (hl : 1 ≤ life ∧ life ≤ 60000) (hfr : -9223372036854775808 ≤ first ∧ first ≤ 9223372036854775807) (hf : 1 ≤ first + (i : Int) ∧ first + (i : Int) + (N : Int) ≤ 1000000001) (hN : N = nparts e.size m)
    (hS : ∀ k, k < N → S (frm + (i + k)) = cutAt e life (first + (i : Int)) n m N k) (f : Nat) (out : Scd) (wk wl : Int) (hwk : wk ≠ 1) (hwl : wl ≤ life) :
    scanP S frm first (n : Int) (N + f) i wk wl ByteArray.empty out = scanP S frm first (n : Int) f (i + N) 2 life ByteArray.empty (out.1 ++ [e], ((i + N : Nat) : Int), life) := by
  have := scan_cut_from S frm first n m e life N i hm hn hl hfr hf hN hS f out N 0 wk wl (by omega) (by rw [hN]; exact nparts_pos _ _) (fun _ => ⟨hwk, hwl⟩) (fun h => by omega)
  rw [Nat.add_zero] at this
  rw [← this]
  congr 1
  apply ByteArray.ext
  simp [ByteArray.data_extract]
end Go.Proofs.YtnmaknnnmjfhkaeDoor

namespace Go.Proofs.YtnmaknnnmjfhkaeDoor
open Go.RowKit
set_option maxRecDepth 4000
set_option linter.unusedVariables false
set_option linter.unusedSimpArgs false
theorem scan_parts (S : Nat → ByteArray) (frm : Nat) (first : Int) (n m : Nat) (e : ByteArray) (life : Int) (N i : Nat) (hm : n + m = 56) (hn : 1 ≤ n ∧ n ≤ 8) (hl : 1 ≤ life ∧ life ≤ 60000) (hfr : -9223372036854775808 ≤ first ∧ first ≤ 9223372036854775807) (hf : 1 ≤ first + (i : Int) ∧ first + (i : Int) + (N : Int) ≤ 1000000001) (f : Nat) (out : Scd) (wk wl : Int) (hwk : wk ≠ 1) (hwl : wl ≤ life) :
    ∀ k : Nat, k < N → (∀ j, j < k → S (frm + (i + j)) = cutAt e life (first + (i : Int)) n m N j) →
      scanP S frm first (n : Int) (k + f) i wk wl ByteArray.empty out = scanP S frm first (n : Int) f (i + k) (if k = 0 then wk else 1) (if k = 0 then wl else life) (e.extract 0 (k * m)) out := by
  intro k
  induction k generalizing f with
  | zero =>
    intro _ _
    have : e.extract 0 (0 * m) = ByteArray.empty := by apply ByteArray.ext; simp [ByteArray.data_extract]
    rw [this]
    simp
  | succ k ih =>
    intro hk hS
    have hr := rp_cut e life (first + (i : Int)) n m N k hm hn hl (by omega)
    rw [← hS k (by omega), if_neg (by omega)] at hr
    have hw := wrap_num first hfr i k
    have := ih (f + 1) (by omega) (fun j hj => hS j (by omega))
    rw [show k + (f + 1) = k + 1 + f by omega] at this
    rw [this, scanP_part hr hw (by
      unfold goesP
      by_cases hk0 : k = 0
      · simp [hk0, hwk, hwl]
      · simp [hk0]), extract_join _ _ _ (by omega), show k * m + m = (k + 1) * m by rw [Nat.add_mul]; omega, show i + k + 1 = i + (k + 1) by omega]
    simp
def laidW (ps : List ByteArray) : List (Int × ByteArray) := ps.mapIdx fun i p => (((2 + i : Nat) : Int), p)
theorem laidW_snoc (ps : List ByteArray) (p : ByteArray) : laidW (ps ++ [p]) = laidW ps ++ [(((2 + ps.length : Nat) : Int), p)] := by
  unfold laidW
  rw [List.mapIdx_append]
  simp
theorem laidW_length (ps : List ByteArray) : (laidW ps).length = ps.length := by simp [laidW]
theorem syncs_snoc : ∀ (ws : List (Int × ByteArray)) (x : Int × ByteArray) (ss : List ByteArray), syncs (ws ++ [x]) ss = (syncs ws ss).set x.1.toNat x.2
  | [], x, ss => rfl
  | y :: r, x, ss => by
    show syncs (r ++ [x]) (ss.set y.1.toNat y.2) = _
    rw [syncs_snoc r x]
    rfl
theorem syncs_laidW (ss : List ByteArray) : ∀ (r : List ByteArray), r.length + 2 ≤ ss.length → ∀ i, (syncs (laidW r.reverse) ss).getD (2 + i) ByteArray.empty = if i < r.length then r.reverse.getD i ByteArray.empty else ss.getD (2 + i) ByteArray.empty
  | [], _, i => by simp [laidW, syncs]
  | p :: r, h, i => by
    have hl := syncs_length (laidW r.reverse) ss
    have ih := syncs_laidW ss r (by simp at h; omega) i
    simp only [List.length_cons] at h
    rw [List.reverse_cons, laidW_snoc, syncs_snoc]
    simp only [List.length_reverse, Int.toNat_natCast]
    by_cases hi : i = r.length
    · subst hi
      rw [if_pos (by simp)]
      have h1 : 2 + r.length < (syncs (laidW r.reverse) ss).length := by omega
      simp [List.getD, h1]
    · have e1 : ((syncs (laidW r.reverse) ss).set (2 + r.length) p).getD (2 + i) ByteArray.empty = (syncs (laidW r.reverse) ss).getD (2 + i) ByteArray.empty := by
        simp [List.getD, List.getElem?_set_ne (show 2 + r.length ≠ 2 + i by omega)]
      rw [e1, ih]
      by_cases hl2 : i < r.length
      · rw [if_pos hl2, if_pos (by simp; omega)]
        simp [List.getD, List.getElem?_append, hl2]
      · rw [if_neg hl2, if_neg (by simp; omega)]
theorem sec_laid (ps ss : List ByteArray) (h : ps.length + 2 ≤ ss.length) (i : Nat) : (syncs (laidW ps) ss).getD (2 + i) ByteArray.empty = if i < ps.length then ps.getD i ByteArray.empty else ss.getD (2 + i) ByteArray.empty := by
  have := syncs_laidW ss ps.reverse (by simpa using h) i
  simpa using this
theorem cut_getD (e : ByteArray) (l f : Int) (n m N k : Nat) (h : k < N) : (cutList e l f n m N N).getD k ByteArray.empty = cutAt e l f n m N k := by simp [cutList, List.getD, h]
theorem rp_zeros (n : Int) : rpRes (strOfNums (List.replicate 64 0)) n = none := by
  apply rpRes_no
  rintro ⟨h1, h2, h3, h4, h5⟩
  have hk : rpK ((strOfNums (List.replicate 64 0)).extract n.toNat 64) = 0 := by
    obtain ⟨k, rfl⟩ : ∃ k : Nat, n = (k : Int) := ⟨n.toNat, by omega⟩
    have : k = 1 ∨ k = 2 ∨ k = 3 ∨ k = 4 ∨ k = 5 ∨ k = 6 ∨ k = 7 ∨ k = 8 := by omega
    rcases this with rfl | rfl | rfl | rfl | rfl | rfl | rfl | rfl <;> decide
  rw [hk] at h5
  unfold formOf at h5
  rw [if_neg (by unfold pageOk; simp)] at h5
  have := congrArg ByteArray.size h5
  rw [h3] at this
  exact absurd this (by decide)
end Go.Proofs.YtnmaknnnmjfhkaeDoor
