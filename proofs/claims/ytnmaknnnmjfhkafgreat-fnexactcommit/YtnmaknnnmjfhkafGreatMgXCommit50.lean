import Derived.Test.YtnmaknnnmjfhkafGreatShc
import Derived.Test.YtnmaknnnmjfhkafGreatPrA
import Derived.Sort.Walk0
import Derived.WalkKit
import Derived.WalkSpells
import Derived.WalkLawsBesides
import Derived.Outline
import Derived.Test.YtnmaknnnmjfhkafGreatVS
import Derived.Test.YtnmaknnnmjfhkafGreatSnP
import Derived.Test.YtnmaknnnmjfhkafGreatDsk
import Derived.Test.YtnmaknnnmjfhkafGreatStp
import Derived.Test.YtnmaknnnmjfhkafGreatCpP
import Derived.Test.YtnmaknnnmjfhkafGreatSnS
import Derived.Test.YtnmaknnnmjfhkafGreatVB
import Derived.Test.YtnmaknnnmjfhkafGreatMvP
import Derived.Test.YtnmaknnnmjfhkafGreatDnQ
import Derived.Test.YtnmaknnnmjfhkafGreatVStS
import Derived.Test.YtnmaknnnmjfhkafGreatSnT
import Derived.Test.YtnmaknnnmjfhkafGreatPage3
import Derived.Test.YtnmaknnnmjfhkafGreatFbS
import Derived.Test.YtnmaknnnmjfhkafGreatHv
import Derived.Test.YtnmaknnnmjfhkafGreatMkB
import Derived.Test.YtnmaknnnmjfhkafGreatRt
import Derived.Test.YtnmaknnnmjfhkafGreatFill
import Derived.Test.YtnmaknnnmjfhkafGreatPageI
import Derived.Test.YtnmaknnnmjfhkafGreatCutB
namespace Go.Proofs.YtnmaknnnmjfhkafGreat
open Go.RowKit Go.Sort
set_option maxRecDepth 4000
set_option linter.unusedVariables false
set_option linter.unusedSimpArgs false

theorem u8_tri (a b : UInt8) (h1 : ¬ a < b) (h2 : ¬ b < a) : a = b := by
  apply UInt8.toNat_inj.1
  rw [UInt8.lt_iff_toNat_lt] at h1 h2
  omega
theorem cb_lt : ∀ (x y : List UInt8), Lib.compareBytes x y < 0 ↔ x < y
  | [], [] => by simp [Lib.compareBytes]
  | [], b :: l2 => by simp [Lib.compareBytes]
  | a :: l, [] => by simp [Lib.compareBytes]
  | a :: l, b :: l2 => by
    rw [List.cons_lt_cons_iff]
    unfold Lib.compareBytes
    split
    · rename_i h; simp [h]
    · rename_i h
      split
      · rename_i h2
        have hne : ¬ a = b := fun e => by subst e; exact h h2
        simp [h, hne]
      · rename_i h2
        have e := u8_tri a b h h2
        subst e
        rw [cb_lt l l2]
        simp [h]
theorem cb_zero : ∀ (x y : List UInt8), Lib.compareBytes x y = 0 ↔ x = y
  | [], [] => by simp [Lib.compareBytes]
  | [], b :: l2 => by simp [Lib.compareBytes]
  | a :: l, [] => by simp [Lib.compareBytes]
  | a :: l, b :: l2 => by
    unfold Lib.compareBytes
    split
    · rename_i h
      have hne : ¬ a = b := fun e => by subst e; rw [UInt8.lt_iff_toNat_lt] at h; omega
      simp [hne]
    · rename_i h
      split
      · rename_i h2
        have hne : ¬ a = b := fun e => by subst e; exact h h2
        simp [hne]
      · rename_i h2
        have e := u8_tri a b h h2
        subst e
        rw [cb_zero l l2]
        simp
theorem cmpB_lt (a b : ByteArray) : cmpB a b < 0 ↔ Op.bytesLess a.toList b.toList = true := by
  unfold cmpB
  rw [cb_lt, bytesLess_eq, decide_eq_true_eq, ByteArray.toList_eq, ByteArray.toList_eq]
theorem cmpB_zero (a b : ByteArray) : cmpB a b = 0 ↔ a = b := by
  unfold cmpB
  rw [cb_zero]
  constructor
  · intro h; exact ByteArray.ext (Array.ext' h)
  · intro h; rw [h]
theorem cmp_i (k v key : ByteArray) (w : World) : Calls Tryz.prog 140 #[.agg #[.string k, .string v], .string key] w fun e w' => e = .returned (.int .i64 (cmpB k key)) ∧ Below w.heap.size w w' := by
  go_enter Tryz.func140, Tryz.ntmps140
  go_wp2_with (go_at_call 141; refine (compare_i k key _).mono ?_; rintro e w2 ⟨rfl, rfl⟩)
  go_ret
  exact ⟨rfl, (Below.refl _ _).alloc (Nat.le_refl _) _⟩

/-- The key at a place of a list of pairs. -/
def kAt (rs : List (ByteArray × ByteArray)) (t : Nat) : ByteArray := (rs.getD t (ByteArray.empty, ByteArray.empty)).1

set_option maxHeartbeats 1000000 in
theorem bs_i (a : Option Addr) (rs : List (ByteArray × ByteArray)) (c : Nat) (key : ByteArray) (w : World) (h : Prs w a rs) (hl : rs.length ≤ 1048576) (hmono : Hid (∀ t m, t ≤ m → m < rs.length → cmpB (kAt rs m) key < 0 → cmpB (kAt rs t) key < 0)) :
    Calls Tryz.prog 139 #[.slice a rs.length c, .string key, .func (.func 140) #[] #[]] w fun e w' =>
      ∃ p : Nat, p ≤ rs.length ∧ (∀ t, t < p → cmpB (kAt rs t) key < 0) ∧ (∀ t, p ≤ t → t < rs.length → 0 ≤ cmpB (kAt rs t) key) ∧ e = .returned (.tuple #[.int .i64 (p : Int), .bool (decide (p < rs.length ∧ cmpB (kAt rs p) key = 0))]) ∧ Below w.heap.size w w' := by
  go_enter Tryz.func139, Tryz.ntmps139
  go_wp2_with fail
  go_loopw [9, 10, 11] (fun i j _ wr => ∃ p q : Nat, p ≤ q ∧ q ≤ rs.length ∧ i = .int .i64 (p : Int) ∧ j = .int .i64 (q : Int) ∧ Hid (∀ t, t < p → cmpB (kAt rs t) key < 0) ∧ Hid (∀ t, q ≤ t → t < rs.length → 0 ≤ cmpB (kAt rs t) key) ∧ Below w.heap.size w wr) (fun i j _ _ => (intOf j).toNat - (intOf i).toNat)
  case atStart => exact ⟨0, rs.length, Nat.zero_le _, Nat.le_refl _, rfl, rfl, fun t ht => by omega, fun t h1 h2 => by omega, Below.refl _ _⟩
  case round =>
    obtain ⟨p, q, hpq, hq, rfl, rfl, HA, HZ, hbel⟩ := hrel
    by_cases hlt : p < q
    · obtain ⟨m, hm⟩ : ∃ m : Nat, m = (p + q) / 2 := ⟨_, rfl⟩
      have hm1 : p ≤ m := by omega
      have hm2 : m < q := by omega
      have hmi : ((p : Int) + (q : Int)) / 2 = (m : Int) := by omega
      obtain ⟨b, o, s0, s1, rfl, hc0, hc1, HS⟩ := (h.below hbel).at (show m < rs.length by omega)
      have HK : Hid (s0 = kAt rs m) := by show _ = _; unfold kAt; rw [← HS.out]
      have hlt' : (p : Int) < (q : Int) := by omega
      obtain ⟨C, HC⟩ : ∃ C, Hid (C = cmpB s0 key) := ⟨_, hid rfl⟩
      clear hm
      have HZZ := HZ
      have HAA := HA
      clear HZ HA
      by_cases hC : C < 0
      · go_wp2_with (go_at_call 140; refine (cmp_i s0 s1 key _).mono ?_; rw [← HC.out]; rintro e w2 ⟨rfl, hb2⟩)
        refine ⟨⟨m + 1, q, by omega, hq, by go_num, rfl, fun t ht => ?_, HZZ.out, hbel.trans (hb2.mono hbel.size)⟩, by simp [intOf]; omega⟩
        exact hmono.out t m (by omega) (by omega) (by rw [← HK.out, ← HC.out]; exact hC)
      · go_wp2_with (go_at_call 140; refine (cmp_i s0 s1 key _).mono ?_; rw [← HC.out]; rintro e w2 ⟨rfl, hb2⟩)
        refine ⟨⟨p, m, by omega, by omega, rfl, rfl, HAA.out, fun t h1 h2 => Int.not_lt.1 (fun h3 => ?_), hbel.trans (hb2.mono hbel.size)⟩, by simp [intOf]; omega⟩
        have := hmono.out m t h1 h2 h3
        rw [← HK.out, ← HC.out] at this
        omega
    · have hpq' : p = q := by omega
      subst hpq'
      have HZZ := HZ
      have HAA := HA
      clear HZ HA
      by_cases hpn : p < rs.length
      · have hpn' : (p : Int) < (rs.length : Int) := by omega
        obtain ⟨b, o, s0, s1, rfl, hc0, hc1, HS⟩ := (h.below hbel).at hpn
        have HK : Hid (s0 = kAt rs p) := by show _ = _; unfold kAt; rw [← HS.out]
        obtain ⟨C, HC⟩ : ∃ C, Hid (C = cmpB s0 key) := ⟨_, hid rfl⟩
        go_wp2_with (go_at_call 140; refine (cmp_i s0 s1 key _).mono ?_; rw [← HC.out]; rintro e w2 ⟨rfl, hb2⟩)
        go_ret2
        refine ⟨p, hq, HAA.out, HZZ.out, ?_, hbel.trans (hb2.mono hbel.size)⟩
        rw [← HK.out, ← HC.out]
        simp [hpn]
        rw [Bool.eq_iff_iff]; simp
      · have hpn' : (rs.length : Int) ≤ (p : Int) := by omega
        go_wp2
        go_ret2
        refine ⟨p, hq, HAA.out, HZZ.out, ?_, hbel⟩
        simp [hpn]
end Go.Proofs.YtnmaknnnmjfhkafGreat

namespace Go.Proofs.YtnmaknnnmjfhkafGreat
open Go.RowKit Go.Sort
set_option maxRecDepth 4000
set_option linter.unusedVariables false
set_option linter.unusedSimpArgs false

theorem cmpB_trans (a b c : ByteArray) (h1 : cmpB a b < 0) (h2 : cmpB b c < 0) : cmpB a c < 0 := by
  unfold cmpB at *
  rw [cb_lt] at *
  exact List.lt_trans h1 h2
theorem asc_step {rs : List (ByteArray × ByteArray)} (h : stateOk rs = true) (i : Nat) (hi : i + 1 < rs.length) : cmpB (kAt rs i) (kAt rs (i + 1)) < 0 := by
  have := (stateOk_of h).2 (i + 1) hi
  unfold prOk klt at this
  simp only [Nat.add_sub_cancel, Bool.and_eq_true, Bool.or_eq_true, decide_eq_true_eq] at this
  rw [cmpB_lt]
  rcases this.2 with h | h
  · omega
  · exact h
theorem asc {rs : List (ByteArray × ByteArray)} (h : stateOk rs = true) (t : Nat) : ∀ d, t + d + 1 < rs.length → cmpB (kAt rs t) (kAt rs (t + d + 1)) < 0
  | 0, hd => asc_step h t hd
  | d + 1, hd => cmpB_trans _ _ _ (asc h t d (by omega)) (asc_step h (t + d + 1) hd)
theorem asc' {rs : List (ByteArray × ByteArray)} (h : stateOk rs = true) {t u : Nat} (htu : t < u) (hu : u < rs.length) : cmpB (kAt rs t) (kAt rs u) < 0 := by
  obtain ⟨d, rfl⟩ : ∃ d, u = t + d + 1 := ⟨u - t - 1, by omega⟩
  exact asc h t d hu
theorem mono_of {rs : List (ByteArray × ByteArray)} (h : stateOk rs = true) (key : ByteArray) : ∀ t m, t ≤ m → m < rs.length → cmpB (kAt rs m) key < 0 → cmpB (kAt rs t) key < 0 := by
  intro t m htm hm hc
  rcases Nat.lt_or_ge t m with h1 | h1
  · exact cmpB_trans _ _ _ (asc' h h1 hm) hc
  · have : t = m := by omega
    subst this; exact hc
theorem find_i (a : Option Addr) (rs : List (ByteArray × ByteArray)) (c : Nat) (key : ByteArray) (w : World) (h : Prs w a rs) (hl : rs.length ≤ 1048576) (hmono : Hid (∀ t m, t ≤ m → m < rs.length → cmpB (kAt rs m) key < 0 → cmpB (kAt rs t) key < 0)) :
    Calls Tryz.prog 135 #[.agg #[.string key], .slice a rs.length c] w fun e w' =>
      ∃ p : Nat, p ≤ rs.length ∧ (∀ t, t < p → cmpB (kAt rs t) key < 0) ∧ (∀ t, p ≤ t → t < rs.length → 0 ≤ cmpB (kAt rs t) key) ∧ e = .returned (.tuple #[.int .i64 (p : Int), .bool (decide (p < rs.length ∧ cmpB (kAt rs p) key = 0))]) ∧ Below w.heap.size w w' := by
  have hb0 : ∀ o, Below w.heap.size w (w.alloc o) := fun o => (Below.refl _ _).alloc (Nat.le_refl _) _
  go_enter Tryz.func135, Tryz.ntmps135
  go_wp2_with fail
  refine (bs_i a rs c key _ (h.below (hb0 _)) hl hmono).mono ?_
  rintro e w2 ⟨p, h1, h2, h3, rfl, hb2⟩
  obtain ⟨B, HB⟩ : ∃ B, Hid (B = decide (p < rs.length ∧ cmpB (kAt rs p) key = 0)) := ⟨_, hid rfl⟩
  rw [← HB.out]
  have H2 := hid h2
  have H3 := hid h3
  clear h2 h3
  go_wp2
  go_ret2
  refine ⟨p, h1, H2.out, H3.out, by rw [← HB.out]; rfl, (hb0 _).trans (hb2.mono (by simp))⟩

end Go.Proofs.YtnmaknnnmjfhkafGreat

namespace Go.Proofs.YtnmaknnnmjfhkafGreat
open Go.RowKit Go.Sort
set_option maxRecDepth 4000
set_option linter.unusedVariables false
set_option linter.unusedSimpArgs false

theorem cb_anti : ∀ (x y : List UInt8), 0 < Lib.compareBytes x y → Lib.compareBytes y x < 0
  | [], [] => by simp [Lib.compareBytes]
  | [], b :: l2 => by simp [Lib.compareBytes]
  | a :: l, [] => by simp [Lib.compareBytes]
  | a :: l, b :: l2 => by
    unfold Lib.compareBytes
    intro h
    by_cases h1 : a < b
    · simp [h1] at h
    · by_cases h2 : b < a
      · simp [h2]
      · simp only [h1, h2, if_false] at h ⊢
        exact cb_anti l l2 h
theorem cmpB_anti {a b : ByteArray} (h : 0 < cmpB a b) : klt b a = true := by
  have := cb_anti _ _ h
  exact (cmpB_lt b a).1 this
theorem cmpB_self (a : ByteArray) : cmpB a a = 0 := (cmpB_zero a a).2 rfl
theorem klt_no {a b : ByteArray} (h : cmpB a b < 0) : klt b a = false := by
  cases hk : klt b a with
  | false => rfl
  | true =>
    have h2 : cmpB b a < 0 := (cmpB_lt b a).2 hk
    have h3 := cmpB_trans a b a h h2
    rw [cmpB_self] at h3
    omega
theorem klt_self (a : ByteArray) : klt a a = false := by
  cases hk : klt a a with
  | false => rfl
  | true =>
    have h2 : cmpB a a < 0 := (cmpB_lt a a).2 hk
    rw [cmpB_self] at h2
    omega
/-- One pair of the document's change. -/
def stepC (key val : ByteArray) (st : Bool × List Pr) (p : Pr) : Bool × List Pr :=
  if p.1 = key then (if (!st.1 && klt key p.1) = true then (true, st.2 ++ [(key, val)]) else st)
  else (if (!st.1 && klt key p.1) = true then (true, st.2 ++ [(key, val)] ++ [p]) else (st.1, st.2 ++ [p]))
def chW (c : Ch) (rs : List Pr) : Bool × List Pr := rs.foldl (stepC c.1 c.2.1) (c.2.2, [])
/-- A change that is made. -/
def chF (c : Ch) (rs : List Pr) : List Pr := if (chW c rs).1 = true then (chW c rs).2 else (chW c rs).2 ++ [(c.1, c.2.1)]
theorem chW_snoc (c : Ch) (rs : List Pr) (p : Pr) : chW c (rs ++ [p]) = stepC c.1 c.2.1 (chW c rs) p := by unfold chW; rw [List.foldl_append]; rfl
def ascP (rs : List Pr) : Prop := rs.Pairwise fun x y => cmpB x.1 y.1 < 0
theorem stepA (key val : ByteArray) : ∀ (l : List Pr) (g : Bool) (out : List Pr), (∀ x ∈ l, cmpB x.1 key < 0) → l.foldl (stepC key val) (g, out) = (g, out ++ l)
  | [], g, out, _ => by simp
  | x :: l, g, out, h => by
    have hx := h x List.mem_cons_self
    have hne : ¬ x.1 = key := fun e => by rw [e, cmpB_self] at hx; omega
    rw [List.foldl_cons, stepC, if_neg hne, klt_no hx, Bool.and_false, if_neg (by simp)]
    rw [stepA key val l g (out ++ [x]) (fun y hy => h y (List.mem_cons_of_mem _ hy)), List.append_assoc]
    rfl
theorem stepB (key val : ByteArray) : ∀ (l : List Pr) (out : List Pr), (∀ x ∈ l, 0 < cmpB x.1 key) → l.foldl (stepC key val) (true, out) = (true, out ++ l)
  | [], out, _ => by simp
  | x :: l, out, h => by
    have hx := h x List.mem_cons_self
    have hne : ¬ x.1 = key := fun e => by rw [e, cmpB_self] at hx; omega
    rw [List.foldl_cons, stepC, if_neg hne, if_neg (by simp)]
    rw [stepB key val l (out ++ [x]) (fun y hy => h y (List.mem_cons_of_mem _ hy)), List.append_assoc]
    rfl
/-- The pairs ahead of a key, what is put in, and the pairs behind it. -/
def chAt (c : Ch) (a r : List Pr) : List Pr := a ++ (if c.2.2 = true then [] else [(c.1, c.2.1)]) ++ r
theorem chF_at (c : Ch) (a m r : List Pr) (ha : ∀ x ∈ a, cmpB x.1 c.1 < 0) (hm : m = [] ∨ ∃ v, m = [(c.1, v)]) (hr : ∀ x ∈ r, 0 < cmpB x.1 c.1) : chF c (a ++ m ++ r) = chAt c a r := by
  obtain ⟨key, val, g⟩ := c
  have e1 : chW (key, val, g) (a ++ m ++ r) = r.foldl (stepC key val) (g, a) := by
    unfold chW
    rw [List.append_assoc, List.foldl_append, stepA key val a g [] ha, List.nil_append, List.foldl_append]
    rcases hm with rfl | ⟨v, rfl⟩
    · rfl
    · rw [List.foldl_cons, List.foldl_nil, stepC, if_pos rfl, klt_self, Bool.and_false, if_neg (by simp)]
  unfold chF chAt
  rw [e1]
  cases g with
  | true => rw [stepB key val r a hr]; simp
  | false =>
    cases r with
    | nil => simp
    | cons x l =>
      have hx := hr x List.mem_cons_self
      have hne : ¬ x.1 = key := fun e => by rw [e, cmpB_self] at hx; omega
      rw [List.foldl_cons, stepC, if_neg hne]
      simp only [Bool.not_false, Bool.true_and]
      rw [cmpB_anti hx, if_pos rfl, stepB key val l _ (fun y hy => hr y (List.mem_cons_of_mem _ hy))]
      simp
theorem chAt_asc (c : Ch) (a m r : List Pr) (h : ascP (a ++ m ++ r)) (ha : ∀ x ∈ a, cmpB x.1 c.1 < 0) (hr : ∀ x ∈ r, 0 < cmpB x.1 c.1) : ascP (chAt c a r) := by
  unfold ascP chAt at *
  rw [List.pairwise_append, List.pairwise_append] at h
  obtain ⟨⟨h1, h2, h3⟩, h4, h5⟩ := h
  have har : ∀ x ∈ a, ∀ y ∈ r, cmpB x.1 y.1 < 0 := fun x hx y hy => h5 x (List.mem_append_left _ hx) y hy
  have hkr : ∀ y ∈ r, cmpB c.1 y.1 < 0 := fun y hy => (cmpB_lt _ _).2 (cmpB_anti (hr y hy))
  by_cases hg : c.2.2 = true
  · rw [if_pos hg, List.append_nil, List.pairwise_append]
    exact ⟨h1, h4, har⟩
  · rw [if_neg hg, List.pairwise_append, List.pairwise_append]
    refine ⟨⟨h1, by simp, fun x hx y hy => ?_⟩, h4, fun x hx y hy => ?_⟩
    · simp at hy; subst hy; exact ha x hx
    · rw [List.mem_append] at hx
      rcases hx with hx | hx
      · exact har x hx y hy
      · simp at hx; subst hx; exact hkr y hy
theorem getD_at {α : Type} (rs : List α) (i : Nat) (h : i < rs.length) {d : α} : rs.getD i d = rs[i] := by simp [List.getD, h]
theorem asc_of {rs : List Pr} (h : stateOk rs = true) : ascP rs := by
  unfold ascP
  rw [List.pairwise_iff_getElem]
  intro i j hi hj hij
  have := asc' h hij hj
  unfold kAt at this
  rwa [getD_at _ _ hi, getD_at _ _ hj] at this
theorem asc_mono {rs : List Pr} (h : ascP rs) (key : ByteArray) : ∀ t m, t ≤ m → m < rs.length → cmpB (kAt rs m) key < 0 → cmpB (kAt rs t) key < 0 := fun t m ht hm hk => by
  rcases Nat.eq_or_lt_of_le ht with e | e
  · subst e; exact hk
  · unfold ascP at h
    rw [List.pairwise_iff_getElem] at h
    have := h t m (by omega) hm e
    unfold kAt at *
    rw [getD_at _ _ hm] at hk
    rw [getD_at _ _ (by omega)]
    exact cmpB_trans _ _ _ this hk
/-- A state parted at a place that find tells. -/
theorem part_at {rs : List Pr} (h : ascP rs) (key : ByteArray) (p : Nat) (hp : p ≤ rs.length) (h1 : ∀ t, t < p → cmpB (kAt rs t) key < 0) (h2 : ∀ t, p ≤ t → t < rs.length → 0 ≤ cmpB (kAt rs t) key) (d : Nat) (hd : d = if p < rs.length ∧ cmpB (kAt rs p) key = 0 then 1 else 0) :
    rs = rs.take p ++ (rs.drop p).take d ++ rs.drop (p + d) ∧ (∀ x ∈ rs.take p, cmpB x.1 key < 0) ∧ ((rs.drop p).take d = [] ∨ ∃ v, (rs.drop p).take d = [(key, v)]) ∧ (∀ x ∈ rs.drop (p + d), 0 < cmpB x.1 key) := by
  have hasc := h
  unfold ascP at h
  rw [List.pairwise_iff_getElem] at h
  refine ⟨?_, ?_, ?_, ?_⟩
  · rw [List.append_assoc, ← List.drop_drop, List.take_append_drop, List.take_append_drop]
  · intro x hx
    obtain ⟨i, hi, rfl⟩ := List.getElem_of_mem hx
    rw [List.length_take] at hi
    have := h1 i (by omega)
    unfold kAt at this
    rw [getD_at _ _ (by omega)] at this
    rw [List.getElem_take]
    exact this
  · by_cases hc : p < rs.length ∧ cmpB (kAt rs p) key = 0
    · rw [if_pos hc] at hd
      subst hd
      right
      have e := (cmpB_zero _ _).1 hc.2
      unfold kAt at e
      rw [getD_at _ _ hc.1] at e
      refine ⟨(rs[p]'hc.1).2, ?_⟩
      rw [List.drop_eq_getElem_cons hc.1, List.take_succ_cons, List.take_zero]
      exact congrArg (fun k => [k]) (Prod.ext e rfl)
    · rw [if_neg hc] at hd
      subst hd
      exact .inl (by simp)
  · intro x hx
    obtain ⟨i, hi, rfl⟩ := List.getElem_of_mem hx
    rw [List.length_drop] at hi
    rw [List.getElem_drop]
    have hq := h2 (p + d + i) (by omega) (by omega)
    unfold kAt at hq
    rw [getD_at _ _ (by omega)] at hq
    rcases Int.lt_or_eq_of_le hq with h3 | h3
    · exact h3
    · exfalso
      have e := (cmpB_zero _ _).1 h3.symm
      by_cases hi0 : d + i = 0
      · have hd0 : d = 0 := by omega
        have hi0 : i = 0 := by omega
        subst hi0
        rw [hd0] at hd
        by_cases hc : p < rs.length ∧ cmpB (kAt rs p) key = 0
        · rw [if_pos hc] at hd; cases hd
        · refine hc ⟨by omega, ?_⟩
          unfold kAt
          rw [getD_at _ _ (by omega)]
          subst hd0
          exact h3.symm
      · have h4 := h p (p + d + i) (by omega) (by omega) (by omega)
        rw [e] at h4
        have h5 := h2 p (Nat.le_refl _) (by omega)
        unfold kAt at h5
        rw [getD_at _ _ (by omega)] at h5
        omega
/-- A batch that is applied, whatever its size. -/
def apU (rs : List Pr) (b : List Ch) : List Pr := b.foldl (fun s c => chF c s) rs
theorem apU_snoc (rs : List Pr) (b : List Ch) (c : Ch) : apU rs (b ++ [c]) = chF c (apU rs b) := by unfold apU; rw [List.foldl_append]; rfl
/-- What Apply gives: the pairs and the code. -/
def apC (rs : List Pr) (b : List Ch) : Int := if (stateOk rs && batchOk b) = true then (if (apU rs b).length ≤ 100 then 0 else 2) else 1
def apR (rs : List Pr) (b : List Ch) : List Pr := if apC rs b = 0 then apU rs b else []
theorem chW_len (c : Ch) : ∀ (rs : List Pr) (k : Nat), k = rs.length → (chW c rs).2.length ≤ rs.length + (if (chW c rs).1 = true ∧ c.2.2 = false then 1 else 0) ∧ (c.2.2 = true → (chW c rs).1 = true)
  | rs, 0, hk => by rw [List.eq_nil_of_length_eq_zero hk.symm]; simp [chW]
  | rs, k + 1, hk => by
    obtain ⟨b, bs, rfl⟩ : ∃ b bs, rs = bs ++ [b] := by
      rcases List.eq_nil_or_concat rs with h | ⟨l, a, h⟩
      · subst h; simp at hk
      · exact ⟨a, l, by simpa using h⟩
    have ih := chW_len c bs k (by simp at hk; omega)
    rw [chW_snoc]
    obtain ⟨key, val, g⟩ := c
    generalize chW (key, val, g) bs = st at ih ⊢
    obtain ⟨d, out⟩ := st
    unfold stepC
    rw [List.length_append, List.length_singleton]
    have hk3 := klt_self key
    cases d <;> cases hk2 : klt key b.1 <;> by_cases he : b.1 = key <;> cases g <;> simp [he, hk2, hk3] at ih hk2 ⊢ <;> omega
theorem chF_len (c : Ch) (rs : List Pr) : (chF c rs).length ≤ rs.length + 1 := by
  have := (chW_len c rs _ rfl).1
  unfold chF
  split
  · split at this <;> omega
  · rename_i h
    rw [if_neg (fun e => h e.1)] at this
    rw [List.length_append]
    simp
    omega
theorem apU_len (rs : List Pr) (b : List Ch) : ∀ k, (apU rs (b.take k)).length ≤ rs.length + k
  | 0 => by simp [apU]
  | k + 1 => by
    have ih := apU_len rs b k
    by_cases h : k < b.length
    · rw [List.take_succ_eq_append_getElem h, apU_snoc]
      have := chF_len b[k] (apU rs (b.take k))
      omega
    · rw [List.take_of_length_le (by omega)] at ih ⊢
      omega
end Go.Proofs.YtnmaknnnmjfhkafGreat

namespace Go.Proofs.YtnmaknnnmjfhkafGreat
open Go.RowKit
set_option linter.unusedVariables false

/-- A row of the call's own that is put behind, again and again: what lay in wS is as it was, the row's first block apart. -/
structure Grow (wS wr : World) (g0 : Option Nat) (base : Nat) (e : TypeId) (size : Nat) (v : Value) (n : Nat) (xs : List Value) : Prop where
  own : wr.ownsRow base e size v n xs
  gb : wS.grownBy wr g0
  at_ : ∀ k, v.ownBlock = some k → g0 = some k ∨ wS.heap.size ≤ k
theorem Grow.start {w : World} {base : Nat} {e : TypeId} {size : Nat} {v : Value} {n : Nat} {xs : List Value} (h : w.ownsRow base e size v n xs) : Grow w w v.ownBlock base e size v n xs := ⟨h, World.grownBy.refl _ _, fun k hk => .inl hk⟩
theorem Grow.below {wS wr w' : World} {g0 : Option Nat} {base : Nat} {e : TypeId} {size : Nat} {v : Value} {n : Nat} {xs : List Value} (h : Grow wS wr g0 base e size v n xs) (hb : Below wr.heap.size wr w') : Grow wS w' g0 base e size v n xs :=
  ⟨owns_below h.own hb, ⟨hb.os.trans h.gb.os, hb.tape.trans h.gb.tape, hb.output.trans h.gb.output, Nat.le_trans h.gb.size hb.size, fun k hk hne => (hb.block k (Nat.lt_of_lt_of_le hk h.gb.size)).trans (h.gb.block k hk hne)⟩, h.at_⟩
theorem grown_mono {wS wr w9 : World} {g0 r : Option Nat} (h : wS.grownBy wr g0) (hg : wr.grownBy w9 r) (hr : ∀ k, r = some k → g0 = some k ∨ wS.heap.size ≤ k) : wS.grownBy w9 g0 :=
  ⟨hg.os.trans h.os, hg.tape.trans h.tape, hg.output.trans h.output, Nat.le_trans h.size hg.size, fun k hk hne => (hg.block k (Nat.lt_of_lt_of_le hk h.size) (fun e => by
    rcases hr k e.symm with h1 | h1
    · exact hne h1.symm
    · omega)).trans (h.block k hk hne)⟩
theorem Grow.push {wS wr w9 : World} {g0 : Option Nat} {base : Nat} {e : TypeId} {size : Nat} {v v9 : Value} {n n9 H : Nat} {xs xs9 : List Value} (h : Grow wS wr g0 base e size v n xs) (hown : w9.ownsRow base e size v9 n9 xs9) (hg : wr.grownBy w9 v.ownBlock) (hat : v.ownBlock = v9.ownBlock ∨ v9.ownBlock = some H) (hH : wr.heap.size ≤ H) : Grow wS w9 g0 base e size v9 n9 xs9 :=
  ⟨hown, grown_mono h.gb hg h.at_, fun k hk => by
    rcases hat with h1 | h1
    · exact h.at_ k (h1.trans hk)
    · rw [h1] at hk; cases hk; exact .inr (Nat.le_trans h.gb.size hH)⟩
theorem Grow.trans {wS w4 wr : World} {g0 : Option Nat} {base : Nat} {e : TypeId} {size : Nat} {v v' : Value} {n n' : Nat} {xs xs' : List Value} (h : Grow wS w4 g0 base e size v n xs) (k : Grow w4 wr v.ownBlock base e size v' n' xs') : Grow wS wr g0 base e size v' n' xs' :=
  ⟨k.own, grown_mono h.gb k.gb h.at_, fun j hj => by
    rcases k.at_ j hj with h1 | h1
    · exact h.at_ j h1
    · exact .inr (Nat.le_trans h.gb.size h1)⟩
theorem below_of_grown {n : Nat} {w w' : World} {r : Option Nat} (hg : w.grownBy w' r) (hn : n ≤ w.heap.size) (hr : ∀ k, r = some k → n ≤ k) : Below n w w' :=
  ⟨hg.os, hg.tape, hg.output, hg.size, fun k hk => hg.block k (by omega) (fun e => by have := hr k e.symm; omega)⟩
theorem undrewG {w w' : World} {r : Option Nat} (h : w.drew.grownBy w' r) : w.grownBy w' r := ⟨h.os, h.tape, h.output, h.size, h.block⟩
theorem redrewG {w w' : World} {r : Option Nat} (h : w.grownBy w' r) : w.drew.grownBy w' r := ⟨h.os, h.tape, h.output, h.size, h.block⟩
end Go.Proofs.YtnmaknnnmjfhkafGreat

namespace Go.Proofs.YtnmaknnnmjfhkafGreat
open Go.RowKit
set_option linter.unusedVariables false
set_option linter.unusedSimpArgs false
set_option maxRecDepth 8000

theorem onePr (k v : ByteArray) : ∀ u ∈ [Value.string k, .string v], u.oneCell' = true := by
  intro u hu
  simp only [List.mem_cons, List.not_mem_nil, or_false] at hu
  rcases hu with rfl | rfl <;> rfl
theorem prcells_snocA (o : List Pr) (c : Pr) : prcells (o ++ [c]) = prcells o ++ [.string c.1, .string c.2] := by rw [prcells_append]; rfl
theorem row_atA {w : World} {A : Array Value} {t : TypeId} {g : Nat} (hg : w.heap.size = g) : Row (w.alloc (.cells A t)) g A.toList := by subst hg; exact row_new w A t
theorem undrewA {w w' : World} {o : Obj} {r : Option Nat} (h : (w.drew.alloc o).grownBy w' r) : (w.alloc o).grownBy w' r := ⟨h.os, h.tape, h.output, h.size, h.block⟩
theorem owns_span' {w w' : World} {base : Nat} {e : TypeId} {s : Nat} {v : Value} {n : Nat} {xs : List Value} (h : w.ownsRow base e s v n xs) (hk : ∀ b, base ≤ b → b < w.heap.size → w'.heap[b]? = w.heap[b]?) : w'.ownsRow base e s v n xs := by
  refine ⟨h.1, ?_⟩
  rcases h.2 with hn | ⟨g, cap, cur, rfl, hb, hgg, rest⟩
  · exact .inl hn
  · exact .inr ⟨g, cap, cur, rfl, hb, (hk g hb (Array.getElem?_eq_some_iff.1 hgg).1).trans hgg, rest⟩
theorem takeA_snoc {α : Type} (l : List α) (k : Nat) (d : α) (h : k < l.length) : l.take (k + 1) = l.take k ++ [l.getD k d] := by
  rw [List.take_succ_eq_append_getElem h]
  simp [List.getD, h]
/-- The variable out of a change, and its row. -/
structure OutX (w wb wr : World) (v : Value) (o : List Pr) : Prop where
  row : Row wr (w.heap.size + 1 + 1 + 1) [v]
  own : wr.ownsRow (w.heap.size + 1 + 1 + 1 + 1) 127 2 v o.length (prcells o)
  bel : Below (w.heap.size + 1 + 1 + 1) wb wr
theorem OutX.below {w wb wr w' : World} {v : Value} {o : List Pr} (h : OutX w wb wr v o) (hb : Below wr.heap.size wr w') : OutX w wb w' v o := ⟨h.row.below hb, owns_below h.own hb, h.bel.trans (hb.mono (by have := h.row.lt; omega))⟩
theorem OutX.sl {w wb wr : World} {v : Value} {o : List Pr} (h : OutX w wb wr v o) : ∃ va vc, v = Value.slice va o.length vc := by
  rcases owns_forms h.own with ⟨e1, e2⟩ | ⟨g, cap, e1, _⟩
  · exact ⟨none, 0, by rw [e1, e2]⟩
  · exact ⟨_, cap, e1⟩

theorem OutX.push {w wb wr w9 : World} {va : Option Addr} {vc g9 cap9 : Nat} {out : List Pr} {x : Pr} {o : Obj} (h : OutX w wb wr (.slice va out.length vc) out)
    (hown : w9.ownsRow (w.heap.size + 1 + 1 + 1 + 1) 127 2 (.slice (some ⟨g9, 0, none⟩) (out.length + 1) cap9) (out.length + 1) (prcells out ++ [.string x.1, .string x.2])) (hg : (wr.alloc o).grownBy w9 (Value.slice va out.length vc).ownBlock) :
    Row w9 (w.heap.size + 1 + 1 + 1) [.slice va out.length vc] ∧ OutX w wb (w9.setCell ⟨w.heap.size + 1 + 1 + 1, 0, none⟩ (.slice (some ⟨g9, 0, none⟩) (out.length + 1) cap9)) (.slice (some ⟨g9, 0, none⟩) (out.length + 1) cap9) (out ++ [x]) ∧ Below (w.heap.size + 1 + 1 + 1) wb w9 := by
  have hlt := h.row.lt
  have hr : Row w9 (w.heap.size + 1 + 1 + 1) [.slice va out.length vc] := (h.row.alloc o).grown hg (fun e => by have := (h.own.lt _ e.symm).1; omega)
  have hB9 : Below (w.heap.size + 1 + 1 + 1) wb w9 := h.bel.trans (below_of_grown (w := wr) ⟨hg.os, hg.tape, hg.output, Nat.le_trans (by simp) hg.size, fun k hk hne => (hg.block k (by simp; omega) hne).trans (((Below.refl wr.heap.size wr).alloc (Nat.le_refl _) o).block k hk)⟩ (by omega) (fun k hk => by have := (h.own.lt k hk).1; omega))
  have hg9 := (hown.lt g9 rfl).1
  refine ⟨hr, ⟨hr.set 0 (by simp) _, ?_, hB9.setCell (p := ⟨w.heap.size + 1 + 1 + 1, 0, none⟩) (Nat.le_refl _) _⟩, hB9⟩
  have hgs : w9.grownBy (w9.setCell ⟨w.heap.size + 1 + 1 + 1, 0, none⟩ (.slice (some ⟨g9, 0, none⟩) (out.length + 1) cap9)) (some (w.heap.size + 1 + 1 + 1)) := ⟨rfl, rfl, rfl, by simp [World.setCell], fun k _ hk => Below.heap_setCell _ _ _ k (fun e => hk (by rw [e]))⟩
  have := hown.kept hgs (.inr (by simp [Value.ownBlock]; omega))
  rw [List.length_append, prcells_snocA]
  exact this

/-- What a change gives, out of its variable. -/
theorem cp_of {w wb wr w' : World} {va : Option Addr} {vc : Nat} {out : List Pr} (h : OutX w wb wr (.slice va out.length vc) out) (hb : Below w.heap.size wr w') (hk : ∀ k, w.heap.size + 1 + 1 + 1 + 1 ≤ k → w'.heap[k]? = wr.heap[k]?) (hwb : Below w.heap.size w wb) (hs : w.heap.size + 1 + 1 + 1 + 1 ≤ wb.heap.size) : CpPost w w' (.returned (stV va out.length vc)) out := by
  have hcap : out.length ≤ vc := by
    rcases h.own.2 with ⟨e1, e2⟩ | ⟨g, cap, cur, e1, _, _, h3, _⟩
    · rw [e2]; omega
    · cases e1; exact h3
  have ho := owns_span' h.own (fun b h1 _ => hk b h1)
  refine ⟨va, vc, rfl, hcap, ?_, fun g hg => ?_, hwb.trans ((h.bel.mono (by omega)).trans hb)⟩
  · rcases owns_forms ho with ⟨_, e2⟩ | ⟨g, cap, e1, _, _, e4⟩
    · exact .inl (by rw [List.eq_nil_of_length_eq_zero e2]; rfl)
    · cases e1; exact .inr ⟨g, rfl, e4⟩
  · unfold blk at hg
    split at hg
    · cases hg
    · cases va with
      | none => cases hg
      | some ad =>
        simp at hg
        subst hg
        have := (h.own.lt ad.block rfl).1
        omega
set_option maxHeartbeats 8000000 in
theorem change_s (a : Option Addr) (rs : List Pr) (c : Nat) (key val : ByteArray) (gone : Bool) (w : World) (h : Prs w a rs) (hl : rs.length ≤ 100000) :
    Calls Tryz.prog 79 #[stV a rs.length c, .agg #[.string key, .string val, .bool gone]] w fun e w' => CpPost w w' e (chF (key, val, gone) rs) := by
  obtain ⟨i0, hi0, hz0, hz1, hz2⟩ := info_partsP info_prC
  have HI := hid (And.intro hi0 (And.intro hz0 (And.intro hz1 hz2)))
  clear hi0 hz0 hz1 hz2
  unfold stV
  obtain ⟨wb, HWB⟩ : ∃ wb, wb = (((w.alloc (.cells #[.slice a rs.length c] 33)).alloc (.cells #[.string key, .string val, .bool gone] 78)).alloc (.cells #[.slice none 0 0] 33)).alloc (.cells #[.slice none 0 0] 33) := ⟨_, rfl⟩
  have hwbs : wb.heap.size = w.heap.size + 1 + 1 + 1 + 1 := by rw [HWB]; simp
  have HBB : Hid (Below w.heap.size w wb) := by show Below _ _ _; rw [HWB]; exact ((((Below.refl _ _).alloc (Nat.le_refl _) _).alloc (by simp) _).alloc (by simp <;> omega) _).alloc (by simp <;> omega) _
  have HRW : Hid (∀ w', Below (w.heap.size + 1 + 1 + 1) wb w' → Row w' (w.heap.size) [.slice a rs.length c] ∧ Row w' (w.heap.size + 1) [.string key, .string val, .bool gone] ∧ Row w' (w.heap.size + 1 + 1) [.slice none 0 0]) := fun w' hb => by
    have r0 : Row wb (w.heap.size) [.slice a rs.length c] := by rw [HWB]; exact (((row_new w _ _).alloc _).alloc _).alloc _
    have r1 : Row wb (w.heap.size + 1) [.string key, .string val, .bool gone] := by rw [HWB]; exact ((row_atA (w := w.alloc _) (by simp)).alloc _).alloc _
    have r2 : Row wb (w.heap.size + 1 + 1) [.slice none 0 0] := by rw [HWB]; exact (row_atA (w := (w.alloc _).alloc _) (by simp)).alloc _
    have key : ∀ {g : Nat} {cs : List Value}, g < w.heap.size + 1 + 1 + 1 → Row wb g cs → Row w' g cs := fun hg r => ⟨Nat.lt_of_lt_of_le r.lt hb.size, fun i v hv => (hb.cell (p := ⟨_, i, none⟩) hg).trans (r.cell i v hv), fun i hi => (hb.frozen (p := ⟨_, i, none⟩) hg).trans (r.froz i hi)⟩
    exact ⟨key (by omega) r0, key (by omega) r1, key (by omega) r2⟩
  have hrow3 : Row wb (w.heap.size + 1 + 1 + 1) [.slice none 0 0] := by rw [HWB]; exact row_atA (w := ((w.alloc _).alloc _).alloc _) (by simp)
  have HOW : Hid (Row wb (w.heap.size + 1 + 1 + 1) [.slice none 0 0]) := hrow3
  clear hrow3
  go_enter Tryz.func79, Tryz.ntmps79
  go_wp2_with fail
  rw [← HWB]
  clear HWB
  go_loopw [6, 7] (fun d i wr => ∃ k : Nat, k ≤ rs.length ∧ i = .int .i64 (k : Int) ∧ d = .bool (chW (key, val, gone) (rs.take k)).1 ∧ ∃ y, OutX w wb wr y (chW (key, val, gone) (rs.take k)).2) (fun _ i _ => rs.length - (intOf i).toNat)
  case atStart => exact ⟨0, Nat.zero_le _, rfl, by simp [chW], .slice none 0 0, ⟨HOW.out, World.ownsRow_nil _ _ _ _, Below.refl _ _⟩⟩
  case round =>
    obtain ⟨k, hk, rfl, rfl, y, hx⟩ := hrel
    obtain ⟨out, hout⟩ : ∃ out, out = (chW (key, val, gone) (rs.take k)).2 := ⟨_, rfl⟩
    obtain ⟨d, hd⟩ : ∃ d, d = (chW (key, val, gone) (rs.take k)).1 := ⟨_, rfl⟩
    have hst : chW (key, val, gone) (rs.take k) = (d, out) := by rw [hd, hout]
    rw [← hout] at hx
    rw [← hd]
    have holen : out.length ≤ 100001 := by
      have := (chW_len (key, val, gone) (rs.take k) _ rfl).1
      rw [← hout, List.length_take] at this
      split at this <;> omega
    clear hout hd
    obtain ⟨va, vc, rfl⟩ := hx.sl
    obtain ⟨hR0, hR1, hR2⟩ := HRW.out _ hx.bel
    have q0 := hR0.cell 0 _ rfl
    have q10 := hR1.cell 0 _ rfl
    have q11 := hR1.cell 1 _ rfl
    have q3 := hx.row.cell 0 _ rfl
    have r3 := hx.row.froz 0 (by simp)
    have l3 := hx.row.lt
    have hbw : Below w.heap.size w wr := HBB.out.trans (hx.bel.mono (by omega))
    have HX := hid hx
    clear hx
    by_cases hlt : k < rs.length
    · obtain ⟨b, o, s0, s1, rfl, hc0, hc1, HS⟩ := (h.below hbw).at hlt
      have hlb : b < w.heap.size := by
        rcases h with h | ⟨b', o', h1, h2, _⟩
        · subst h; simp at hlt
        · cases h1; exact h2
      have hlt' : (k : Int) < (rs.length : Int) := by omega
      have hk0 : (0 : Int) ≤ (k : Int) := by omega
      have hstep : chW (key, val, gone) (rs.take (k + 1)) = stepC key val (d, out) (s0, s1) := by rw [takeA_snoc rs k (ByteArray.empty, ByteArray.empty) hlt, chW_snoc, ← HS.out, hst]
      have HSTEP := hid hstep
      clear hstep hst HS hR0 hR1 hR2
      have HCS : Hid (∀ w', Below (w.heap.size + 1 + 1 + 1) wr w' → w'.cell? ⟨w.heap.size, 0, none⟩ = some (.slice (some ⟨b, o, none⟩) rs.length c) ∧ w'.cell? ⟨b, o + k * 2, none⟩ = some (.string s0) ∧ w'.cell? ⟨b, o + k * 2 + 1, none⟩ = some (.string s1) ∧ w'.cell? ⟨w.heap.size + 1, 0, none⟩ = some (.string key) ∧ w'.cell? ⟨w.heap.size + 1, 1, none⟩ = some (.string val)) := fun w' hb => ⟨(hb.cell (p := ⟨w.heap.size, 0, none⟩) (by show w.heap.size < _; omega)).trans q0, (hb.cell (p := ⟨b, o + k * 2, none⟩) (by show b < _; omega)).trans hc0, (hb.cell (p := ⟨b, o + k * 2 + 1, none⟩) (by show b < _; omega)).trans hc1, (hb.cell (p := ⟨w.heap.size + 1, 0, none⟩) (by show w.heap.size + 1 < _; omega)).trans q10, (hb.cell (p := ⟨w.heap.size + 1, 1, none⟩) (by show w.heap.size + 1 < _; omega)).trans q11⟩
      have HPB : Hid (∀ w', Below w.heap.size w w' → w'.cell? ⟨b, o + k * 2, none⟩ = some (.string s0) ∧ w'.cell? ⟨b, o + k * 2 + 1, none⟩ = some (.string s1)) := fun w' hb => ⟨(hb.cell (p := ⟨b, o + k * 2, none⟩) hlb).trans ((hbw.cell (p := ⟨b, o + k * 2, none⟩) hlb).symm.trans hc0), (hb.cell (p := ⟨b, o + k * 2 + 1, none⟩) hlb).trans ((hbw.cell (p := ⟨b, o + k * 2 + 1, none⟩) hlb).symm.trans hc1)⟩
      cases d with
      | true =>
        go_wp2_with fail
        refine wp_region_held_drew (S := fun w' => w'.cell? ⟨w.heap.size, 0, none⟩ = some (.slice (some ⟨b, o, none⟩) rs.length c) ∧ w'.cell? ⟨b, o + k * 2, none⟩ = some (.string s0) ∧ w'.cell? ⟨b, o + k * 2 + 1, none⟩ = some (.string s1) ∧ w'.cell? ⟨w.heap.size + 1, 0, none⟩ = some (.string key) ∧ w'.cell? ⟨w.heap.size + 1, 1, none⟩ = some (.string val)) (by kernel_rfl) (HCS.out _ (Below.refl _ _).drew) (fun hHeld => ?_)
        refine wpAnyH_take (i := 0) (v := .bool true) rfl (by kernel_rfl) (by kernel_rfl) (by kernel_rfl) (fun _ _ _ h => h) (Or.inl ⟨by rfl, fun w hw => by obtain ⟨z0, z1, z2, z3, z4⟩ := hw; go_simp⟩) hHeld ?_
        simp only [Act.put, List.getElem_toArray, List.getElem_cons_zero, List.getElem_cons_succ, List.setIfInBounds_toArray, List.set_cons_zero, List.set_cons_succ]
        refine wpAnyH_take (i := 1) (v := .bool false) rfl (by kernel_rfl) (by kernel_rfl) (by kernel_rfl) (fun _ _ _ h => h) (Or.inl ⟨by rfl, fun w hw => by obtain ⟨z0, z1, z2, z3, z4⟩ := hw; go_simp⟩) hHeld ?_
        simp only [Act.put, List.getElem_toArray, List.getElem_cons_zero, List.getElem_cons_succ, List.setIfInBounds_toArray, List.set_cons_zero, List.set_cons_succ]
        refine wpAnyH_take (i := 2) (v := .bool false) rfl (by kernel_rfl) (by kernel_rfl) (by kernel_rfl) (fun _ _ _ h => h) (Or.inl ⟨by rfl, fun w hw => by obtain ⟨z0, z1, z2, z3, z4⟩ := hw; go_simp⟩) hHeld ?_
        simp only [Act.put, List.getElem_toArray, List.getElem_cons_zero, List.getElem_cons_succ, List.setIfInBounds_toArray, List.set_cons_zero, List.set_cons_succ]
        refine wpAnyH_take (i := 3) (v := undef) rfl (by kernel_rfl) (by kernel_rfl) (by kernel_rfl) (fun _ _ _ h => h) (Or.inr ⟨by kernel_rfl, rfl⟩) hHeld ?_
        simp only [Act.put, List.getElem_toArray, List.getElem_cons_zero, List.getElem_cons_succ, List.setIfInBounds_toArray, List.set_cons_zero, List.set_cons_succ]
        refine wpAnyH_take (i := 4) (v := undef) rfl (by kernel_rfl) (by kernel_rfl) (by kernel_rfl) (fun _ _ _ h => h) (Or.inr ⟨by kernel_rfl, rfl⟩) hHeld ?_
        simp only [Act.put, List.getElem_toArray, List.getElem_cons_zero, List.getElem_cons_succ, List.setIfInBounds_toArray, List.set_cons_zero, List.set_cons_succ]
        refine wpAnyH_take (i := 5) (v := undef) rfl (by kernel_rfl) (by kernel_rfl) (by kernel_rfl) (fun _ _ _ h => h) (Or.inr ⟨by kernel_rfl, rfl⟩) hHeld ?_
        simp only [Act.put, List.getElem_toArray, List.getElem_cons_zero, List.getElem_cons_succ, List.setIfInBounds_toArray, List.set_cons_zero, List.set_cons_succ]
        refine wpAnyH_take (i := 6) (v := undef) rfl (by kernel_rfl) (by kernel_rfl) (by kernel_rfl) (fun _ _ _ h => h) (Or.inr ⟨by kernel_rfl, rfl⟩) hHeld ?_
        simp only [Act.put, List.getElem_toArray, List.getElem_cons_zero, List.getElem_cons_succ, List.setIfInBounds_toArray, List.set_cons_zero, List.set_cons_succ]
        refine wpAnyH_take (i := 7) (v := undef) rfl (by kernel_rfl) (by kernel_rfl) (by kernel_rfl) (fun _ _ _ h => h) (Or.inr ⟨by kernel_rfl, rfl⟩) hHeld ?_
        simp only [Act.put, List.getElem_toArray, List.getElem_cons_zero, List.getElem_cons_succ, List.setIfInBounds_toArray, List.set_cons_zero, List.set_cons_succ]
        refine wpAnyH_take (i := 8) (v := undef) rfl (by kernel_rfl) (by kernel_rfl) (by kernel_rfl) (fun _ _ _ h => h) (Or.inr ⟨by kernel_rfl, rfl⟩) hHeld ?_
        simp only [Act.put, List.getElem_toArray, List.getElem_cons_zero, List.getElem_cons_succ, List.setIfInBounds_toArray, List.set_cons_zero, List.set_cons_succ]
        refine wpAnyH_take (i := 9) (v := undef) rfl (by kernel_rfl) (by kernel_rfl) (by kernel_rfl) (fun _ _ _ h => h) (Or.inr ⟨by kernel_rfl, rfl⟩) hHeld ?_
        simp only [Act.put, List.getElem_toArray, List.getElem_cons_zero, List.getElem_cons_succ, List.setIfInBounds_toArray, List.set_cons_zero, List.set_cons_succ]
        refine wpAnyH_take (i := 10) (v := undef) rfl (by kernel_rfl) (by kernel_rfl) (by kernel_rfl) (fun _ _ _ h => h) (Or.inr ⟨by kernel_rfl, rfl⟩) hHeld ?_
        simp only [Act.put, List.getElem_toArray, List.getElem_cons_zero, List.getElem_cons_succ, List.setIfInBounds_toArray, List.set_cons_zero, List.set_cons_succ]
        refine wpAnyH_take (i := 11) (v := undef) rfl (by kernel_rfl) (by kernel_rfl) (by kernel_rfl) (fun _ _ _ h => h) (Or.inr ⟨by kernel_rfl, rfl⟩) hHeld ?_
        simp only [Act.put, List.getElem_toArray, List.getElem_cons_zero, List.getElem_cons_succ, List.setIfInBounds_toArray, List.set_cons_zero, List.set_cons_succ]
        refine wpAnyH_take (i := 12) (v := .bool false) rfl (by kernel_rfl) (by kernel_rfl) (by kernel_rfl) (fun _ _ _ h => h) (Or.inl ⟨by rfl, fun w hw => by obtain ⟨z0, z1, z2, z3, z4⟩ := hw; go_simp⟩) hHeld ?_
        simp only [Act.put, List.getElem_toArray, List.getElem_cons_zero, List.getElem_cons_succ, List.setIfInBounds_toArray, List.set_cons_zero, List.set_cons_succ]
        refine wpAnyH_done (by kernel_rfl) ?_ _
        obtain ⟨wd0, hwd0⟩ : ∃ wd0, wd0 = wr.drew := ⟨_, rfl⟩
        have hbd0 : Below wr.heap.size wr wd0 := by rw [hwd0]; exact (Below.refl _ _).drew
        rw [← hwd0]
        have HX0 := HX
        have HCS0 := HCS
        have hbw0 : Below w.heap.size w wd0 := hbw.trans (hbd0.mono hbw.size)
        have HXz := hid (HX0.out.below hbd0)
        have HCSz : Hid (∀ w', Below (w.heap.size + 1 + 1 + 1) wd0 w' → w'.cell? ⟨w.heap.size, 0, none⟩ = some (.slice (some ⟨b, o, none⟩) rs.length c) ∧ w'.cell? ⟨b, o + k * 2, none⟩ = some (.string s0) ∧ w'.cell? ⟨b, o + k * 2 + 1, none⟩ = some (.string s1) ∧ w'.cell? ⟨w.heap.size + 1, 0, none⟩ = some (.string key) ∧ w'.cell? ⟨w.heap.size + 1, 1, none⟩ = some (.string val)) := fun w' hb => HCS0.out w' ((hbd0.mono (Nat.le_of_lt l3)).trans hb)
        clear hwd0 HX HCS hbw q0 q10 q11 q3 r3 l3 hc0 hc1 HX0 HCS0 hbd0 hHeld
        generalize wd0 = wr at *
        have HX := HXz
        have HCS := HCSz
        clear HXz HCSz
        have q3 := HX.out.row.cell 0 _ rfl
        have r3 := HX.out.row.froz 0 (by simp)
        have l3 := HX.out.row.lt
        have q10 := (HCS.out _ (Below.refl _ _)).2.2.2.1
        have q11 := (HCS.out _ (Below.refl _ _)).2.2.2.2
        go_wp2_with fail
        by_cases he : s0 = key
        · have HE := hid he
          clear he
          have he2 : (s0.toList == key.toList) = true := by rw [HE.out]; simp
          refine wp_region_held_drew (S := fun w' => w'.cell? ⟨w.heap.size, 0, none⟩ = some (.slice (some ⟨b, o, none⟩) rs.length c) ∧ w'.cell? ⟨b, o + k * 2, none⟩ = some (.string s0) ∧ w'.cell? ⟨b, o + k * 2 + 1, none⟩ = some (.string s1) ∧ w'.cell? ⟨w.heap.size + 1, 0, none⟩ = some (.string key) ∧ w'.cell? ⟨w.heap.size + 1, 1, none⟩ = some (.string val)) (by kernel_rfl) (HCS.out _ (Below.refl _ _).drew) (fun hHeld => ?_)
          refine wpAnyH_take (i := 0) (v := .pointer (some ⟨w.heap.size, 0, none⟩)) rfl (by kernel_rfl) (by kernel_rfl) (by kernel_rfl) (fun _ _ _ h => h) (Or.inl ⟨by rfl, fun w hw => by obtain ⟨z0, z1, z2, z3, z4⟩ := hw; go_simp⟩) hHeld ?_
          simp only [Act.put, List.getElem_toArray, List.getElem_cons_zero, List.getElem_cons_succ, List.setIfInBounds_toArray, List.set_cons_zero, List.set_cons_succ]
          refine wpAnyH_take (i := 1) (v := .slice (some ⟨b, o, none⟩) rs.length c) rfl (by kernel_rfl) (by kernel_rfl) (by kernel_rfl) (fun _ _ _ h => h) (Or.inl ⟨by rfl, fun w hw => by obtain ⟨z0, z1, z2, z3, z4⟩ := hw; go_simp⟩) hHeld ?_
          simp only [Act.put, List.getElem_toArray, List.getElem_cons_zero, List.getElem_cons_succ, List.setIfInBounds_toArray, List.set_cons_zero, List.set_cons_succ]
          refine wpAnyH_take (i := 2) (v := .int .i64 (k : Int)) rfl (by kernel_rfl) (by kernel_rfl) (by kernel_rfl) (fun _ _ _ h => h) (Or.inl ⟨by rfl, fun w hw => by obtain ⟨z0, z1, z2, z3, z4⟩ := hw; go_simp⟩) hHeld ?_
          simp only [Act.put, List.getElem_toArray, List.getElem_cons_zero, List.getElem_cons_succ, List.setIfInBounds_toArray, List.set_cons_zero, List.set_cons_succ]
          refine wpAnyH_take (i := 3) (v := .pointer (some ⟨b, o + k * 2, none⟩)) rfl (by kernel_rfl) (by kernel_rfl) (by kernel_rfl) (fun _ _ _ h => h) (Or.inl ⟨by rfl, fun w hw => by obtain ⟨z0, z1, z2, z3, z4⟩ := hw; go_simp⟩) hHeld ?_
          simp only [Act.put, List.getElem_toArray, List.getElem_cons_zero, List.getElem_cons_succ, List.setIfInBounds_toArray, List.set_cons_zero, List.set_cons_succ]
          refine wpAnyH_take (i := 4) (v := .pointer (some ⟨b, o + k * 2, none⟩)) rfl (by kernel_rfl) (by kernel_rfl) (by kernel_rfl) (fun _ _ _ h => h) (Or.inl ⟨by rfl, fun w hw => by obtain ⟨z0, z1, z2, z3, z4⟩ := hw; go_simp⟩) hHeld ?_
          simp only [Act.put, List.getElem_toArray, List.getElem_cons_zero, List.getElem_cons_succ, List.setIfInBounds_toArray, List.set_cons_zero, List.set_cons_succ]
          refine wpAnyH_take (i := 5) (v := .string s0) rfl (by kernel_rfl) (by kernel_rfl) (by kernel_rfl) (fun _ _ _ h => h) (Or.inl ⟨by rfl, fun w hw => by obtain ⟨z0, z1, z2, z3, z4⟩ := hw; go_simp⟩) hHeld ?_
          simp only [Act.put, List.getElem_toArray, List.getElem_cons_zero, List.getElem_cons_succ, List.setIfInBounds_toArray, List.set_cons_zero, List.set_cons_succ]
          refine wpAnyH_take (i := 6) (v := .pointer (some ⟨w.heap.size + 1, 0, none⟩)) rfl (by kernel_rfl) (by kernel_rfl) (by kernel_rfl) (fun _ _ _ h => h) (Or.inl ⟨by rfl, fun w hw => by obtain ⟨z0, z1, z2, z3, z4⟩ := hw; go_simp⟩) hHeld ?_
          simp only [Act.put, List.getElem_toArray, List.getElem_cons_zero, List.getElem_cons_succ, List.setIfInBounds_toArray, List.set_cons_zero, List.set_cons_succ]
          refine wpAnyH_take (i := 7) (v := .string key) rfl (by kernel_rfl) (by kernel_rfl) (by kernel_rfl) (fun _ _ _ h => h) (Or.inl ⟨by rfl, fun w hw => by obtain ⟨z0, z1, z2, z3, z4⟩ := hw; go_simp⟩) hHeld ?_
          simp only [Act.put, List.getElem_toArray, List.getElem_cons_zero, List.getElem_cons_succ, List.setIfInBounds_toArray, List.set_cons_zero, List.set_cons_succ]
          refine wpAnyH_take (i := 8) (v := .bool false) rfl (by kernel_rfl) (by kernel_rfl) (by kernel_rfl) (fun _ _ _ h => h) (Or.inl ⟨by rfl, fun w hw => by obtain ⟨z0, z1, z2, z3, z4⟩ := hw; go_simp⟩) hHeld ?_
          simp only [Act.put, List.getElem_toArray, List.getElem_cons_zero, List.getElem_cons_succ, List.setIfInBounds_toArray, List.set_cons_zero, List.set_cons_succ]
          refine wpAnyH_done (by kernel_rfl) ?_ _
          go_wp2
          have he := HE.out
          refine ⟨⟨k + 1, by omega, by go_num, by rw [HSTEP.out]; simp [stepC, he], .slice va out.length vc, ?_⟩, by simp [intOf]; omega⟩
          have hfe : (chW (key, val, gone) (rs.take (k + 1))).2 = out := by rw [HSTEP.out]; simp [stepC, he]
          rw [hfe]
          exact HX.out.below (Below.refl _ _).drew
        · have HE := hid he
          clear he
          have he2 : (s0.toList == key.toList) = false := by rw [beq_eq_false_iff_ne]; intro hh; rw [ByteArray.toList_eq, ByteArray.toList_eq] at hh; exact HE.out (ByteArray.ext (Array.ext' hh))
          refine wp_region_held_drew (S := fun w' => w'.cell? ⟨w.heap.size, 0, none⟩ = some (.slice (some ⟨b, o, none⟩) rs.length c) ∧ w'.cell? ⟨b, o + k * 2, none⟩ = some (.string s0) ∧ w'.cell? ⟨b, o + k * 2 + 1, none⟩ = some (.string s1) ∧ w'.cell? ⟨w.heap.size + 1, 0, none⟩ = some (.string key) ∧ w'.cell? ⟨w.heap.size + 1, 1, none⟩ = some (.string val)) (by kernel_rfl) (HCS.out _ (Below.refl _ _).drew) (fun hHeld => ?_)
          refine wpAnyH_take (i := 0) (v := .pointer (some ⟨w.heap.size, 0, none⟩)) rfl (by kernel_rfl) (by kernel_rfl) (by kernel_rfl) (fun _ _ _ h => h) (Or.inl ⟨by rfl, fun w hw => by obtain ⟨z0, z1, z2, z3, z4⟩ := hw; go_simp⟩) hHeld ?_
          simp only [Act.put, List.getElem_toArray, List.getElem_cons_zero, List.getElem_cons_succ, List.setIfInBounds_toArray, List.set_cons_zero, List.set_cons_succ]
          refine wpAnyH_take (i := 1) (v := .slice (some ⟨b, o, none⟩) rs.length c) rfl (by kernel_rfl) (by kernel_rfl) (by kernel_rfl) (fun _ _ _ h => h) (Or.inl ⟨by rfl, fun w hw => by obtain ⟨z0, z1, z2, z3, z4⟩ := hw; go_simp⟩) hHeld ?_
          simp only [Act.put, List.getElem_toArray, List.getElem_cons_zero, List.getElem_cons_succ, List.setIfInBounds_toArray, List.set_cons_zero, List.set_cons_succ]
          refine wpAnyH_take (i := 2) (v := .int .i64 (k : Int)) rfl (by kernel_rfl) (by kernel_rfl) (by kernel_rfl) (fun _ _ _ h => h) (Or.inl ⟨by rfl, fun w hw => by obtain ⟨z0, z1, z2, z3, z4⟩ := hw; go_simp⟩) hHeld ?_
          simp only [Act.put, List.getElem_toArray, List.getElem_cons_zero, List.getElem_cons_succ, List.setIfInBounds_toArray, List.set_cons_zero, List.set_cons_succ]
          refine wpAnyH_take (i := 3) (v := .pointer (some ⟨b, o + k * 2, none⟩)) rfl (by kernel_rfl) (by kernel_rfl) (by kernel_rfl) (fun _ _ _ h => h) (Or.inl ⟨by rfl, fun w hw => by obtain ⟨z0, z1, z2, z3, z4⟩ := hw; go_simp⟩) hHeld ?_
          simp only [Act.put, List.getElem_toArray, List.getElem_cons_zero, List.getElem_cons_succ, List.setIfInBounds_toArray, List.set_cons_zero, List.set_cons_succ]
          refine wpAnyH_take (i := 4) (v := .pointer (some ⟨b, o + k * 2, none⟩)) rfl (by kernel_rfl) (by kernel_rfl) (by kernel_rfl) (fun _ _ _ h => h) (Or.inl ⟨by rfl, fun w hw => by obtain ⟨z0, z1, z2, z3, z4⟩ := hw; go_simp⟩) hHeld ?_
          simp only [Act.put, List.getElem_toArray, List.getElem_cons_zero, List.getElem_cons_succ, List.setIfInBounds_toArray, List.set_cons_zero, List.set_cons_succ]
          refine wpAnyH_take (i := 5) (v := .string s0) rfl (by kernel_rfl) (by kernel_rfl) (by kernel_rfl) (fun _ _ _ h => h) (Or.inl ⟨by rfl, fun w hw => by obtain ⟨z0, z1, z2, z3, z4⟩ := hw; go_simp⟩) hHeld ?_
          simp only [Act.put, List.getElem_toArray, List.getElem_cons_zero, List.getElem_cons_succ, List.setIfInBounds_toArray, List.set_cons_zero, List.set_cons_succ]
          refine wpAnyH_take (i := 6) (v := .pointer (some ⟨w.heap.size + 1, 0, none⟩)) rfl (by kernel_rfl) (by kernel_rfl) (by kernel_rfl) (fun _ _ _ h => h) (Or.inl ⟨by rfl, fun w hw => by obtain ⟨z0, z1, z2, z3, z4⟩ := hw; go_simp⟩) hHeld ?_
          simp only [Act.put, List.getElem_toArray, List.getElem_cons_zero, List.getElem_cons_succ, List.setIfInBounds_toArray, List.set_cons_zero, List.set_cons_succ]
          refine wpAnyH_take (i := 7) (v := .string key) rfl (by kernel_rfl) (by kernel_rfl) (by kernel_rfl) (fun _ _ _ h => h) (Or.inl ⟨by rfl, fun w hw => by obtain ⟨z0, z1, z2, z3, z4⟩ := hw; go_simp⟩) hHeld ?_
          simp only [Act.put, List.getElem_toArray, List.getElem_cons_zero, List.getElem_cons_succ, List.setIfInBounds_toArray, List.set_cons_zero, List.set_cons_succ]
          refine wpAnyH_take (i := 8) (v := .bool true) rfl (by kernel_rfl) (by kernel_rfl) (by kernel_rfl) (fun _ _ _ h => h) (Or.inl ⟨by rfl, fun w hw => by obtain ⟨z0, z1, z2, z3, z4⟩ := hw; go_simp⟩) hHeld ?_
          simp only [Act.put, List.getElem_toArray, List.getElem_cons_zero, List.getElem_cons_succ, List.setIfInBounds_toArray, List.set_cons_zero, List.set_cons_succ]
          refine wpAnyH_done (by kernel_rfl) ?_ _
          obtain ⟨wd, hwd⟩ : ∃ wd, wd = wr.drew := ⟨_, rfl⟩
          have hbd : Below wr.heap.size wr wd := by rw [hwd]; exact (Below.refl _ _).drew
          rw [← hwd]
          clear hwd
          have HXd := hid (HX.out.below hbd)
          have qd := HXd.out.row.cell 0 _ rfl
          have rd := HXd.out.row.froz 0 (by simp)
          have ld := HXd.out.row.lt
          have HCSd : Hid (∀ w', Below (w.heap.size + 1 + 1 + 1) wd w' → w'.cell? ⟨w.heap.size, 0, none⟩ = some (.slice (some ⟨b, o, none⟩) rs.length c) ∧ w'.cell? ⟨b, o + k * 2, none⟩ = some (.string s0) ∧ w'.cell? ⟨b, o + k * 2 + 1, none⟩ = some (.string s1) ∧ w'.cell? ⟨w.heap.size + 1, 0, none⟩ = some (.string key) ∧ w'.cell? ⟨w.heap.size + 1, 1, none⟩ = some (.string val)) := fun w' hb => HCS.out w' ((hbd.mono (Nat.le_of_lt l3)).trans hb)
          clear hHeld
          go_wp2_with fail
          refine wp_region_held_drew (S := fun w' => w'.cell? ⟨w.heap.size, 0, none⟩ = some (.slice (some ⟨b, o, none⟩) rs.length c) ∧ w'.cell? ⟨b, o + k * 2, none⟩ = some (.string s0) ∧ w'.cell? ⟨b, o + k * 2 + 1, none⟩ = some (.string s1) ∧ w'.cell? ⟨w.heap.size + 1, 0, none⟩ = some (.string key) ∧ w'.cell? ⟨w.heap.size + 1, 1, none⟩ = some (.string val)) (by kernel_rfl) (HCSd.out _ (Below.refl _ _).drew) (fun hHeld => ?_)
          refine wpAnyH_take (i := 0) (v := .pointer (some ⟨w.heap.size + 1 + 1 + 1, 0, none⟩)) rfl (by kernel_rfl) (by kernel_rfl) (by kernel_rfl) (fun _ _ _ h => h) (Or.inl ⟨by rfl, fun w hw => by obtain ⟨z0, z1, z2, z3, z4⟩ := hw; go_simp⟩) hHeld ?_
          simp only [Act.put, List.getElem_toArray, List.getElem_cons_zero, List.getElem_cons_succ, List.setIfInBounds_toArray, List.set_cons_zero, List.set_cons_succ]
          refine wpAnyH_take (i := 2) (v := .pointer (some ⟨w.heap.size, 0, none⟩)) rfl (by kernel_rfl) (by kernel_rfl) (by kernel_rfl) (fun _ _ _ h => h) (Or.inl ⟨by rfl, fun w hw => by obtain ⟨z0, z1, z2, z3, z4⟩ := hw; go_simp⟩) hHeld ?_
          simp only [Act.put, List.getElem_toArray, List.getElem_cons_zero, List.getElem_cons_succ, List.setIfInBounds_toArray, List.set_cons_zero, List.set_cons_succ]
          refine wpAnyH_take (i := 3) (v := .slice (some ⟨b, o, none⟩) rs.length c) rfl (by kernel_rfl) (by kernel_rfl) (by kernel_rfl) (fun _ _ _ h => h) (Or.inl ⟨by rfl, fun w hw => by obtain ⟨z0, z1, z2, z3, z4⟩ := hw; go_simp⟩) hHeld ?_
          simp only [Act.put, List.getElem_toArray, List.getElem_cons_zero, List.getElem_cons_succ, List.setIfInBounds_toArray, List.set_cons_zero, List.set_cons_succ]
          refine wpAnyH_take (i := 4) (v := .int .i64 (k : Int)) rfl (by kernel_rfl) (by kernel_rfl) (by kernel_rfl) (fun _ _ _ h => h) (Or.inl ⟨by rfl, fun w hw => by obtain ⟨z0, z1, z2, z3, z4⟩ := hw; go_simp⟩) hHeld ?_
          simp only [Act.put, List.getElem_toArray, List.getElem_cons_zero, List.getElem_cons_succ, List.setIfInBounds_toArray, List.set_cons_zero, List.set_cons_succ]
          refine wpAnyH_take (i := 5) (v := .pointer (some ⟨b, o + k * 2, none⟩)) rfl (by kernel_rfl) (by kernel_rfl) (by kernel_rfl) (fun _ _ _ h => h) (Or.inl ⟨by rfl, fun w hw => by obtain ⟨z0, z1, z2, z3, z4⟩ := hw; go_simp⟩) hHeld ?_
          simp only [Act.put, List.getElem_toArray, List.getElem_cons_zero, List.getElem_cons_succ, List.setIfInBounds_toArray, List.set_cons_zero, List.set_cons_succ]
          refine wpAnyH_take (i := 6) (v := .agg #[.string s0, .string s1]) rfl (by kernel_rfl) (by kernel_rfl) (by kernel_rfl) (fun _ _ _ h => h) (Or.inl ⟨by rfl, fun w hw => by obtain ⟨z0, z1, z2, z3, z4⟩ := hw; go_simp⟩) hHeld ?_
          simp only [Act.put, List.getElem_toArray, List.getElem_cons_zero, List.getElem_cons_succ, List.setIfInBounds_toArray, List.set_cons_zero, List.set_cons_succ]
          refine wpAnyH_ready (rs := [1, 7]) (by kernel_rfl) (by simp) ?_
          refine AllReadyH.cons rfl (fun K hK => ?_) (AllReadyH.cons rfl (fun K hK => ?_) AllReadyH.nil)
          · go_simp
            refine hK.out _ _ hHeld (fun _ => ?_)
            clear hK K
            try simp only [Act.put, List.getElem_toArray, List.getElem_cons_zero, List.getElem_cons_succ, List.setIfInBounds_toArray, List.set_cons_zero, List.set_cons_succ]
            refine wpAnyH_ready (rs := [7]) (by kernel_rfl) (by simp) ?_
            refine AllReadyH.cons rfl (fun K hK => ?_) AllReadyH.nil
            go_simp
            refine hK.out _ _ (HCSd.out _ ((Below.refl _ _).drew.alloc (Nat.le_of_lt ld) _)) (fun hHd2 => ?_)
            clear hK K
            try simp only [Act.put, List.getElem_toArray, List.getElem_cons_zero, List.getElem_cons_succ, List.setIfInBounds_toArray, List.set_cons_zero, List.set_cons_succ]
            refine wpAnyH_ready (rs := [8]) (by kernel_rfl) (by simp) ?_
            refine AllReadyH.cons rfl (fun K hK => ?_) AllReadyH.nil
            refine step_append_lies _ (by rfl) _ _ _ (by rfl) (w.heap.size + 1 + 1 + 1 + 1) 127 i0 (.agg #[.string ByteArray.empty, .string ByteArray.empty]) 2 32 Tryz.underlying31 HI.out.1 HI.out.2.1 HI.out.2.2.1 HI.out.2.2.2 rfl (by omega) (.slice va out.length vc) out.length _ (by rfl) (owns_below HXd.out.own ((Below.refl _ _).drew.alloc (Nat.le_refl _) _)) ⟨wd.heap.size, 0, none⟩ 1 1 [.string s0, .string s1] (by rfl) rfl (World.news_of_block (heap_alloc_new wd.drew _)) (onePr _ _) (by omega) (by unfold maxLen; (try simp) <;> omega) (by (try simp) <;> omega) (by (try simp) <;> omega) (wd.heap.size + 1) (by simp) ?_
            intro g9 cap9 w9 hown9 hgrow9 hat9 hlt9
            have hpu := OutX.push (x := (s0, s1)) HXd.out hown9 (undrewA hgrow9)
            have q9 := hpu.1.cell 0 _ rfl
            have r9 := hpu.1.froz 0 (by simp)
            have l9 := hpu.1.lt
            have HP9 := hid hpu
            have hb9 : Below (w.heap.size + 1 + 1 + 1) wd w9 := below_of_grown ⟨hgrow9.os, hgrow9.tape, hgrow9.output, Nat.le_trans (by simp) hgrow9.size, fun k hk hne => (hgrow9.block k (by simp; omega) hne).trans (((Below.refl wd.heap.size wd).drew.alloc (Nat.le_refl _) _).block k hk)⟩ (Nat.le_of_lt ld) (fun k hk => by have := (HXd.out.own.lt k hk).1; omega)
            clear hown9 hgrow9 hat9 hpu
            refine hK.out _ _ (HCSd.out _ hb9) (fun hHd3 => ?_)
            clear hK K
            try simp only [Act.put, List.getElem_toArray, List.getElem_cons_zero, List.getElem_cons_succ, List.setIfInBounds_toArray, List.set_cons_zero, List.set_cons_succ]
            refine wpAnyH_take (i := 9) (v := .pointer (some ⟨w.heap.size + 1 + 1 + 1, 0, none⟩)) rfl (by kernel_rfl) (by kernel_rfl) (by kernel_rfl) (fun _ _ _ h => h) (Or.inl ⟨by rfl, fun w hw => by obtain ⟨z0, z1, z2, z3, z4⟩ := hw; go_simp⟩) hHd3 ?_
            simp only [Act.put, List.getElem_toArray, List.getElem_cons_zero, List.getElem_cons_succ, List.setIfInBounds_toArray, List.set_cons_zero, List.set_cons_succ]
            refine wpAnyH_ready (rs := [10]) (by kernel_rfl) (by simp) ?_
            refine AllReadyH.cons rfl (fun K hK => ?_) AllReadyH.nil
            go_simp
            refine hK.out _ _ (HCSd.out _ (hb9.setCell (p := ⟨w.heap.size + 1 + 1 + 1, 0, none⟩) (Nat.le_refl _) _)) (fun hHd4 => ?_)
            clear hK K
            try simp only [Act.put, List.getElem_toArray, List.getElem_cons_zero, List.getElem_cons_succ, List.setIfInBounds_toArray, List.set_cons_zero, List.set_cons_succ]
            refine wpAnyH_done (by kernel_rfl) ?_ _
            go_wp2
            have he := HE.out
            refine ⟨⟨k + 1, by omega, by go_num, by rw [HSTEP.out]; simp [stepC, he], .slice (some ⟨g9, 0, none⟩) (out.length + 1) cap9, ?_⟩, by simp [intOf]; omega⟩
            have hfe : (chW (key, val, gone) (rs.take (k + 1))).2 = out ++ [(s0, s1)] := by rw [HSTEP.out]; simp [stepC, he]
            rw [hfe]
            simpa only [List.length_append, List.length_singleton] using HP9.out.2.1
          · go_simp
            refine hK.out _ _ (HCSd.out _ ((Below.refl _ _).drew.alloc (Nat.le_of_lt ld) _)) (fun hHd5 => ?_)
            clear hK K
            try simp only [Act.put, List.getElem_toArray, List.getElem_cons_zero, List.getElem_cons_succ, List.setIfInBounds_toArray, List.set_cons_zero, List.set_cons_succ]
            refine wpAnyH_ready (rs := [1]) (by kernel_rfl) (by simp) ?_
            refine AllReadyH.cons rfl (fun K hK => ?_) AllReadyH.nil
            go_simp
            refine hK.out _ _ hHd5 (fun _ => ?_)
            clear hK K
            try simp only [Act.put, List.getElem_toArray, List.getElem_cons_zero, List.getElem_cons_succ, List.setIfInBounds_toArray, List.set_cons_zero, List.set_cons_succ]
            refine wpAnyH_ready (rs := [8]) (by kernel_rfl) (by simp) ?_
            refine AllReadyH.cons rfl (fun K hK => ?_) AllReadyH.nil
            refine step_append_lies _ (by rfl) _ _ _ (by rfl) (w.heap.size + 1 + 1 + 1 + 1) 127 i0 (.agg #[.string ByteArray.empty, .string ByteArray.empty]) 2 32 Tryz.underlying31 HI.out.1 HI.out.2.1 HI.out.2.2.1 HI.out.2.2.2 rfl (by omega) (.slice va out.length vc) out.length _ (by rfl) (owns_below HXd.out.own ((Below.refl _ _).drew.alloc (Nat.le_refl _) _)) ⟨wd.heap.size, 0, none⟩ 1 1 [.string s0, .string s1] (by rfl) rfl (World.news_of_block (heap_alloc_new wd.drew _)) (onePr _ _) (by omega) (by unfold maxLen; (try simp) <;> omega) (by (try simp) <;> omega) (by (try simp) <;> omega) (wd.heap.size + 1) (by simp) ?_
            intro g9 cap9 w9 hown9 hgrow9 hat9 hlt9
            have hpu := OutX.push (x := (s0, s1)) HXd.out hown9 (undrewA hgrow9)
            have q9 := hpu.1.cell 0 _ rfl
            have r9 := hpu.1.froz 0 (by simp)
            have l9 := hpu.1.lt
            have HP9 := hid hpu
            have hb9 : Below (w.heap.size + 1 + 1 + 1) wd w9 := below_of_grown ⟨hgrow9.os, hgrow9.tape, hgrow9.output, Nat.le_trans (by simp) hgrow9.size, fun k hk hne => (hgrow9.block k (by simp; omega) hne).trans (((Below.refl wd.heap.size wd).drew.alloc (Nat.le_refl _) _).block k hk)⟩ (Nat.le_of_lt ld) (fun k hk => by have := (HXd.out.own.lt k hk).1; omega)
            clear hown9 hgrow9 hat9 hpu
            refine hK.out _ _ (HCSd.out _ hb9) (fun hHd7 => ?_)
            clear hK K
            try simp only [Act.put, List.getElem_toArray, List.getElem_cons_zero, List.getElem_cons_succ, List.setIfInBounds_toArray, List.set_cons_zero, List.set_cons_succ]
            refine wpAnyH_take (i := 9) (v := .pointer (some ⟨w.heap.size + 1 + 1 + 1, 0, none⟩)) rfl (by kernel_rfl) (by kernel_rfl) (by kernel_rfl) (fun _ _ _ h => h) (Or.inl ⟨by rfl, fun w hw => by obtain ⟨z0, z1, z2, z3, z4⟩ := hw; go_simp⟩) hHd7 ?_
            simp only [Act.put, List.getElem_toArray, List.getElem_cons_zero, List.getElem_cons_succ, List.setIfInBounds_toArray, List.set_cons_zero, List.set_cons_succ]
            refine wpAnyH_ready (rs := [10]) (by kernel_rfl) (by simp) ?_
            refine AllReadyH.cons rfl (fun K hK => ?_) AllReadyH.nil
            go_simp
            refine hK.out _ _ (HCSd.out _ (hb9.setCell (p := ⟨w.heap.size + 1 + 1 + 1, 0, none⟩) (Nat.le_refl _) _)) (fun hHd8 => ?_)
            clear hK K
            try simp only [Act.put, List.getElem_toArray, List.getElem_cons_zero, List.getElem_cons_succ, List.setIfInBounds_toArray, List.set_cons_zero, List.set_cons_succ]
            refine wpAnyH_done (by kernel_rfl) ?_ _
            go_wp2
            have he := HE.out
            refine ⟨⟨k + 1, by omega, by go_num, by rw [HSTEP.out]; simp [stepC, he], .slice (some ⟨g9, 0, none⟩) (out.length + 1) cap9, ?_⟩, by simp [intOf]; omega⟩
            have hfe : (chW (key, val, gone) (rs.take (k + 1))).2 = out ++ [(s0, s1)] := by rw [HSTEP.out]; simp [stepC, he]
            rw [hfe]
            simpa only [List.length_append, List.length_singleton] using HP9.out.2.1
      | false =>
        rcases Int.lt_trichotomy (cmpB s0 key) 0 with hcm | hcm | hcm
        · have HDK : Hid (klt key s0 = false) := klt_no hcm
          have HE : Hid (¬ s0 = key) := fun e => by rw [e, cmpB_self] at hcm; omega
          have hb1 : Op.bytesLess s0.toList key.toList = true := (cmpB_lt _ _).1 hcm
          go_wp2_with fail
          refine wp_region_held_drew (S := fun w' => w'.cell? ⟨w.heap.size, 0, none⟩ = some (.slice (some ⟨b, o, none⟩) rs.length c) ∧ w'.cell? ⟨b, o + k * 2, none⟩ = some (.string s0) ∧ w'.cell? ⟨b, o + k * 2 + 1, none⟩ = some (.string s1) ∧ w'.cell? ⟨w.heap.size + 1, 0, none⟩ = some (.string key) ∧ w'.cell? ⟨w.heap.size + 1, 1, none⟩ = some (.string val)) (by kernel_rfl) (HCS.out _ (Below.refl _ _).drew) (fun hHeld => ?_)
          refine wpAnyH_take (i := 0) (v := .bool false) rfl (by kernel_rfl) (by kernel_rfl) (by kernel_rfl) (fun _ _ _ h => h) (Or.inl ⟨by rfl, fun w hw => by obtain ⟨z0, z1, z2, z3, z4⟩ := hw; go_simp⟩) hHeld ?_
          simp only [Act.put, List.getElem_toArray, List.getElem_cons_zero, List.getElem_cons_succ, List.setIfInBounds_toArray, List.set_cons_zero, List.set_cons_succ]
          refine wpAnyH_take (i := 1) (v := .bool true) rfl (by kernel_rfl) (by kernel_rfl) (by kernel_rfl) (fun _ _ _ h => h) (Or.inl ⟨by rfl, fun w hw => by obtain ⟨z0, z1, z2, z3, z4⟩ := hw; go_simp⟩) hHeld ?_
          simp only [Act.put, List.getElem_toArray, List.getElem_cons_zero, List.getElem_cons_succ, List.setIfInBounds_toArray, List.set_cons_zero, List.set_cons_succ]
          refine wpAnyH_take (i := 2) (v := .bool true) rfl (by kernel_rfl) (by kernel_rfl) (by kernel_rfl) (fun _ _ _ h => h) (Or.inl ⟨by rfl, fun w hw => by obtain ⟨z0, z1, z2, z3, z4⟩ := hw; go_simp⟩) hHeld ?_
          simp only [Act.put, List.getElem_toArray, List.getElem_cons_zero, List.getElem_cons_succ, List.setIfInBounds_toArray, List.set_cons_zero, List.set_cons_succ]
          refine wpAnyH_take (i := 3) (v := .pointer (some ⟨w.heap.size, 0, none⟩)) rfl (by kernel_rfl) (by kernel_rfl) (by kernel_rfl) (fun _ _ _ h => h) (Or.inl ⟨by rfl, fun w hw => by obtain ⟨z0, z1, z2, z3, z4⟩ := hw; go_simp⟩) hHeld ?_
          simp only [Act.put, List.getElem_toArray, List.getElem_cons_zero, List.getElem_cons_succ, List.setIfInBounds_toArray, List.set_cons_zero, List.set_cons_succ]
          refine wpAnyH_take (i := 4) (v := .slice (some ⟨b, o, none⟩) rs.length c) rfl (by kernel_rfl) (by kernel_rfl) (by kernel_rfl) (fun _ _ _ h => h) (Or.inl ⟨by rfl, fun w hw => by obtain ⟨z0, z1, z2, z3, z4⟩ := hw; go_simp⟩) hHeld ?_
          simp only [Act.put, List.getElem_toArray, List.getElem_cons_zero, List.getElem_cons_succ, List.setIfInBounds_toArray, List.set_cons_zero, List.set_cons_succ]
          refine wpAnyH_take (i := 5) (v := .int .i64 (k : Int)) rfl (by kernel_rfl) (by kernel_rfl) (by kernel_rfl) (fun _ _ _ h => h) (Or.inl ⟨by rfl, fun w hw => by obtain ⟨z0, z1, z2, z3, z4⟩ := hw; go_simp⟩) hHeld ?_
          simp only [Act.put, List.getElem_toArray, List.getElem_cons_zero, List.getElem_cons_succ, List.setIfInBounds_toArray, List.set_cons_zero, List.set_cons_succ]
          refine wpAnyH_take (i := 6) (v := .pointer (some ⟨b, o + k * 2, none⟩)) rfl (by kernel_rfl) (by kernel_rfl) (by kernel_rfl) (fun _ _ _ h => h) (Or.inl ⟨by rfl, fun w hw => by obtain ⟨z0, z1, z2, z3, z4⟩ := hw; go_simp⟩) hHeld ?_
          simp only [Act.put, List.getElem_toArray, List.getElem_cons_zero, List.getElem_cons_succ, List.setIfInBounds_toArray, List.set_cons_zero, List.set_cons_succ]
          refine wpAnyH_take (i := 7) (v := .pointer (some ⟨b, o + k * 2, none⟩)) rfl (by kernel_rfl) (by kernel_rfl) (by kernel_rfl) (fun _ _ _ h => h) (Or.inl ⟨by rfl, fun w hw => by obtain ⟨z0, z1, z2, z3, z4⟩ := hw; go_simp⟩) hHeld ?_
          simp only [Act.put, List.getElem_toArray, List.getElem_cons_zero, List.getElem_cons_succ, List.setIfInBounds_toArray, List.set_cons_zero, List.set_cons_succ]
          refine wpAnyH_take (i := 8) (v := .string s0) rfl (by kernel_rfl) (by kernel_rfl) (by kernel_rfl) (fun _ _ _ h => h) (Or.inl ⟨by rfl, fun w hw => by obtain ⟨z0, z1, z2, z3, z4⟩ := hw; go_simp⟩) hHeld ?_
          simp only [Act.put, List.getElem_toArray, List.getElem_cons_zero, List.getElem_cons_succ, List.setIfInBounds_toArray, List.set_cons_zero, List.set_cons_succ]
          refine wpAnyH_take (i := 9) (v := .pointer (some ⟨w.heap.size + 1, 0, none⟩)) rfl (by kernel_rfl) (by kernel_rfl) (by kernel_rfl) (fun _ _ _ h => h) (Or.inl ⟨by rfl, fun w hw => by obtain ⟨z0, z1, z2, z3, z4⟩ := hw; go_simp⟩) hHeld ?_
          simp only [Act.put, List.getElem_toArray, List.getElem_cons_zero, List.getElem_cons_succ, List.setIfInBounds_toArray, List.set_cons_zero, List.set_cons_succ]
          refine wpAnyH_take (i := 10) (v := .string key) rfl (by kernel_rfl) (by kernel_rfl) (by kernel_rfl) (fun _ _ _ h => h) (Or.inl ⟨by rfl, fun w hw => by obtain ⟨z0, z1, z2, z3, z4⟩ := hw; go_simp⟩) hHeld ?_
          simp only [Act.put, List.getElem_toArray, List.getElem_cons_zero, List.getElem_cons_succ, List.setIfInBounds_toArray, List.set_cons_zero, List.set_cons_succ]
          refine wpAnyH_take (i := 11) (v := .bool false) rfl (by kernel_rfl) (by kernel_rfl) (by kernel_rfl) (fun _ _ _ h => h) (Or.inl ⟨by rfl, fun w hw => by obtain ⟨z0, z1, z2, z3, z4⟩ := hw; go_simp⟩) hHeld ?_
          simp only [Act.put, List.getElem_toArray, List.getElem_cons_zero, List.getElem_cons_succ, List.setIfInBounds_toArray, List.set_cons_zero, List.set_cons_succ]
          refine wpAnyH_take (i := 12) (v := .bool false) rfl (by kernel_rfl) (by kernel_rfl) (by kernel_rfl) (fun _ _ _ h => h) (Or.inl ⟨by rfl, fun w hw => by obtain ⟨z0, z1, z2, z3, z4⟩ := hw; go_simp⟩) hHeld ?_
          simp only [Act.put, List.getElem_toArray, List.getElem_cons_zero, List.getElem_cons_succ, List.setIfInBounds_toArray, List.set_cons_zero, List.set_cons_succ]
          refine wpAnyH_done (by kernel_rfl) ?_ _
          obtain ⟨wd0, hwd0⟩ : ∃ wd0, wd0 = wr.drew := ⟨_, rfl⟩
          have hbd0 : Below wr.heap.size wr wd0 := by rw [hwd0]; exact (Below.refl _ _).drew
          rw [← hwd0]
          have HX0 := HX
          have HCS0 := HCS
          have hbw0 : Below w.heap.size w wd0 := hbw.trans (hbd0.mono hbw.size)
          have HXz := hid (HX0.out.below hbd0)
          have HCSz : Hid (∀ w', Below (w.heap.size + 1 + 1 + 1) wd0 w' → w'.cell? ⟨w.heap.size, 0, none⟩ = some (.slice (some ⟨b, o, none⟩) rs.length c) ∧ w'.cell? ⟨b, o + k * 2, none⟩ = some (.string s0) ∧ w'.cell? ⟨b, o + k * 2 + 1, none⟩ = some (.string s1) ∧ w'.cell? ⟨w.heap.size + 1, 0, none⟩ = some (.string key) ∧ w'.cell? ⟨w.heap.size + 1, 1, none⟩ = some (.string val)) := fun w' hb => HCS0.out w' ((hbd0.mono (Nat.le_of_lt l3)).trans hb)
          clear hwd0 HX HCS hbw q0 q10 q11 q3 r3 l3 hc0 hc1 HX0 HCS0 hbd0 hHeld
          generalize wd0 = wr at *
          have HX := HXz
          have HCS := HCSz
          clear HXz HCSz
          have q3 := HX.out.row.cell 0 _ rfl
          have r3 := HX.out.row.froz 0 (by simp)
          have l3 := HX.out.row.lt
          have q10 := (HCS.out _ (Below.refl _ _)).2.2.2.1
          have q11 := (HCS.out _ (Below.refl _ _)).2.2.2.2
          go_wp2_with fail
          have he2 : (s0.toList == key.toList) = false := by rw [beq_eq_false_iff_ne]; intro hh; rw [ByteArray.toList_eq, ByteArray.toList_eq] at hh; exact HE.out (ByteArray.ext (Array.ext' hh))
          refine wp_region_held_drew (S := fun w' => w'.cell? ⟨w.heap.size, 0, none⟩ = some (.slice (some ⟨b, o, none⟩) rs.length c) ∧ w'.cell? ⟨b, o + k * 2, none⟩ = some (.string s0) ∧ w'.cell? ⟨b, o + k * 2 + 1, none⟩ = some (.string s1) ∧ w'.cell? ⟨w.heap.size + 1, 0, none⟩ = some (.string key) ∧ w'.cell? ⟨w.heap.size + 1, 1, none⟩ = some (.string val)) (by kernel_rfl) (HCS.out _ (Below.refl _ _).drew) (fun hHeld => ?_)
          refine wpAnyH_take (i := 0) (v := .pointer (some ⟨w.heap.size, 0, none⟩)) rfl (by kernel_rfl) (by kernel_rfl) (by kernel_rfl) (fun _ _ _ h => h) (Or.inl ⟨by rfl, fun w hw => by obtain ⟨z0, z1, z2, z3, z4⟩ := hw; go_simp⟩) hHeld ?_
          simp only [Act.put, List.getElem_toArray, List.getElem_cons_zero, List.getElem_cons_succ, List.setIfInBounds_toArray, List.set_cons_zero, List.set_cons_succ]
          refine wpAnyH_take (i := 1) (v := .slice (some ⟨b, o, none⟩) rs.length c) rfl (by kernel_rfl) (by kernel_rfl) (by kernel_rfl) (fun _ _ _ h => h) (Or.inl ⟨by rfl, fun w hw => by obtain ⟨z0, z1, z2, z3, z4⟩ := hw; go_simp⟩) hHeld ?_
          simp only [Act.put, List.getElem_toArray, List.getElem_cons_zero, List.getElem_cons_succ, List.setIfInBounds_toArray, List.set_cons_zero, List.set_cons_succ]
          refine wpAnyH_take (i := 2) (v := .int .i64 (k : Int)) rfl (by kernel_rfl) (by kernel_rfl) (by kernel_rfl) (fun _ _ _ h => h) (Or.inl ⟨by rfl, fun w hw => by obtain ⟨z0, z1, z2, z3, z4⟩ := hw; go_simp⟩) hHeld ?_
          simp only [Act.put, List.getElem_toArray, List.getElem_cons_zero, List.getElem_cons_succ, List.setIfInBounds_toArray, List.set_cons_zero, List.set_cons_succ]
          refine wpAnyH_take (i := 3) (v := .pointer (some ⟨b, o + k * 2, none⟩)) rfl (by kernel_rfl) (by kernel_rfl) (by kernel_rfl) (fun _ _ _ h => h) (Or.inl ⟨by rfl, fun w hw => by obtain ⟨z0, z1, z2, z3, z4⟩ := hw; go_simp⟩) hHeld ?_
          simp only [Act.put, List.getElem_toArray, List.getElem_cons_zero, List.getElem_cons_succ, List.setIfInBounds_toArray, List.set_cons_zero, List.set_cons_succ]
          refine wpAnyH_take (i := 4) (v := .pointer (some ⟨b, o + k * 2, none⟩)) rfl (by kernel_rfl) (by kernel_rfl) (by kernel_rfl) (fun _ _ _ h => h) (Or.inl ⟨by rfl, fun w hw => by obtain ⟨z0, z1, z2, z3, z4⟩ := hw; go_simp⟩) hHeld ?_
          simp only [Act.put, List.getElem_toArray, List.getElem_cons_zero, List.getElem_cons_succ, List.setIfInBounds_toArray, List.set_cons_zero, List.set_cons_succ]
          refine wpAnyH_take (i := 5) (v := .string s0) rfl (by kernel_rfl) (by kernel_rfl) (by kernel_rfl) (fun _ _ _ h => h) (Or.inl ⟨by rfl, fun w hw => by obtain ⟨z0, z1, z2, z3, z4⟩ := hw; go_simp⟩) hHeld ?_
          simp only [Act.put, List.getElem_toArray, List.getElem_cons_zero, List.getElem_cons_succ, List.setIfInBounds_toArray, List.set_cons_zero, List.set_cons_succ]
          refine wpAnyH_take (i := 6) (v := .pointer (some ⟨w.heap.size + 1, 0, none⟩)) rfl (by kernel_rfl) (by kernel_rfl) (by kernel_rfl) (fun _ _ _ h => h) (Or.inl ⟨by rfl, fun w hw => by obtain ⟨z0, z1, z2, z3, z4⟩ := hw; go_simp⟩) hHeld ?_
          simp only [Act.put, List.getElem_toArray, List.getElem_cons_zero, List.getElem_cons_succ, List.setIfInBounds_toArray, List.set_cons_zero, List.set_cons_succ]
          refine wpAnyH_take (i := 7) (v := .string key) rfl (by kernel_rfl) (by kernel_rfl) (by kernel_rfl) (fun _ _ _ h => h) (Or.inl ⟨by rfl, fun w hw => by obtain ⟨z0, z1, z2, z3, z4⟩ := hw; go_simp⟩) hHeld ?_
          simp only [Act.put, List.getElem_toArray, List.getElem_cons_zero, List.getElem_cons_succ, List.setIfInBounds_toArray, List.set_cons_zero, List.set_cons_succ]
          refine wpAnyH_take (i := 8) (v := .bool true) rfl (by kernel_rfl) (by kernel_rfl) (by kernel_rfl) (fun _ _ _ h => h) (Or.inl ⟨by rfl, fun w hw => by obtain ⟨z0, z1, z2, z3, z4⟩ := hw; go_simp⟩) hHeld ?_
          simp only [Act.put, List.getElem_toArray, List.getElem_cons_zero, List.getElem_cons_succ, List.setIfInBounds_toArray, List.set_cons_zero, List.set_cons_succ]
          refine wpAnyH_done (by kernel_rfl) ?_ _
          obtain ⟨wd, hwd⟩ : ∃ wd, wd = wr.drew := ⟨_, rfl⟩
          have hbd : Below wr.heap.size wr wd := by rw [hwd]; exact (Below.refl _ _).drew
          rw [← hwd]
          clear hwd
          have HXd := hid (HX.out.below hbd)
          have qd := HXd.out.row.cell 0 _ rfl
          have rd := HXd.out.row.froz 0 (by simp)
          have ld := HXd.out.row.lt
          have HCSd : Hid (∀ w', Below (w.heap.size + 1 + 1 + 1) wd w' → w'.cell? ⟨w.heap.size, 0, none⟩ = some (.slice (some ⟨b, o, none⟩) rs.length c) ∧ w'.cell? ⟨b, o + k * 2, none⟩ = some (.string s0) ∧ w'.cell? ⟨b, o + k * 2 + 1, none⟩ = some (.string s1) ∧ w'.cell? ⟨w.heap.size + 1, 0, none⟩ = some (.string key) ∧ w'.cell? ⟨w.heap.size + 1, 1, none⟩ = some (.string val)) := fun w' hb => HCS.out w' ((hbd.mono (Nat.le_of_lt l3)).trans hb)
          clear hHeld
          go_wp2_with fail
          refine wp_region_held_drew (S := fun w' => w'.cell? ⟨w.heap.size, 0, none⟩ = some (.slice (some ⟨b, o, none⟩) rs.length c) ∧ w'.cell? ⟨b, o + k * 2, none⟩ = some (.string s0) ∧ w'.cell? ⟨b, o + k * 2 + 1, none⟩ = some (.string s1) ∧ w'.cell? ⟨w.heap.size + 1, 0, none⟩ = some (.string key) ∧ w'.cell? ⟨w.heap.size + 1, 1, none⟩ = some (.string val)) (by kernel_rfl) (HCSd.out _ (Below.refl _ _).drew) (fun hHeld => ?_)
          refine wpAnyH_take (i := 0) (v := .pointer (some ⟨w.heap.size + 1 + 1 + 1, 0, none⟩)) rfl (by kernel_rfl) (by kernel_rfl) (by kernel_rfl) (fun _ _ _ h => h) (Or.inl ⟨by rfl, fun w hw => by obtain ⟨z0, z1, z2, z3, z4⟩ := hw; go_simp⟩) hHeld ?_
          simp only [Act.put, List.getElem_toArray, List.getElem_cons_zero, List.getElem_cons_succ, List.setIfInBounds_toArray, List.set_cons_zero, List.set_cons_succ]
          refine wpAnyH_take (i := 2) (v := .pointer (some ⟨w.heap.size, 0, none⟩)) rfl (by kernel_rfl) (by kernel_rfl) (by kernel_rfl) (fun _ _ _ h => h) (Or.inl ⟨by rfl, fun w hw => by obtain ⟨z0, z1, z2, z3, z4⟩ := hw; go_simp⟩) hHeld ?_
          simp only [Act.put, List.getElem_toArray, List.getElem_cons_zero, List.getElem_cons_succ, List.setIfInBounds_toArray, List.set_cons_zero, List.set_cons_succ]
          refine wpAnyH_take (i := 3) (v := .slice (some ⟨b, o, none⟩) rs.length c) rfl (by kernel_rfl) (by kernel_rfl) (by kernel_rfl) (fun _ _ _ h => h) (Or.inl ⟨by rfl, fun w hw => by obtain ⟨z0, z1, z2, z3, z4⟩ := hw; go_simp⟩) hHeld ?_
          simp only [Act.put, List.getElem_toArray, List.getElem_cons_zero, List.getElem_cons_succ, List.setIfInBounds_toArray, List.set_cons_zero, List.set_cons_succ]
          refine wpAnyH_take (i := 4) (v := .int .i64 (k : Int)) rfl (by kernel_rfl) (by kernel_rfl) (by kernel_rfl) (fun _ _ _ h => h) (Or.inl ⟨by rfl, fun w hw => by obtain ⟨z0, z1, z2, z3, z4⟩ := hw; go_simp⟩) hHeld ?_
          simp only [Act.put, List.getElem_toArray, List.getElem_cons_zero, List.getElem_cons_succ, List.setIfInBounds_toArray, List.set_cons_zero, List.set_cons_succ]
          refine wpAnyH_take (i := 5) (v := .pointer (some ⟨b, o + k * 2, none⟩)) rfl (by kernel_rfl) (by kernel_rfl) (by kernel_rfl) (fun _ _ _ h => h) (Or.inl ⟨by rfl, fun w hw => by obtain ⟨z0, z1, z2, z3, z4⟩ := hw; go_simp⟩) hHeld ?_
          simp only [Act.put, List.getElem_toArray, List.getElem_cons_zero, List.getElem_cons_succ, List.setIfInBounds_toArray, List.set_cons_zero, List.set_cons_succ]
          refine wpAnyH_take (i := 6) (v := .agg #[.string s0, .string s1]) rfl (by kernel_rfl) (by kernel_rfl) (by kernel_rfl) (fun _ _ _ h => h) (Or.inl ⟨by rfl, fun w hw => by obtain ⟨z0, z1, z2, z3, z4⟩ := hw; go_simp⟩) hHeld ?_
          simp only [Act.put, List.getElem_toArray, List.getElem_cons_zero, List.getElem_cons_succ, List.setIfInBounds_toArray, List.set_cons_zero, List.set_cons_succ]
          refine wpAnyH_ready (rs := [1, 7]) (by kernel_rfl) (by simp) ?_
          refine AllReadyH.cons rfl (fun K hK => ?_) (AllReadyH.cons rfl (fun K hK => ?_) AllReadyH.nil)
          · go_simp
            refine hK.out _ _ hHeld (fun _ => ?_)
            clear hK K
            try simp only [Act.put, List.getElem_toArray, List.getElem_cons_zero, List.getElem_cons_succ, List.setIfInBounds_toArray, List.set_cons_zero, List.set_cons_succ]
            refine wpAnyH_ready (rs := [7]) (by kernel_rfl) (by simp) ?_
            refine AllReadyH.cons rfl (fun K hK => ?_) AllReadyH.nil
            go_simp
            refine hK.out _ _ (HCSd.out _ ((Below.refl _ _).drew.alloc (Nat.le_of_lt ld) _)) (fun hHd2 => ?_)
            clear hK K
            try simp only [Act.put, List.getElem_toArray, List.getElem_cons_zero, List.getElem_cons_succ, List.setIfInBounds_toArray, List.set_cons_zero, List.set_cons_succ]
            refine wpAnyH_ready (rs := [8]) (by kernel_rfl) (by simp) ?_
            refine AllReadyH.cons rfl (fun K hK => ?_) AllReadyH.nil
            refine step_append_lies _ (by rfl) _ _ _ (by rfl) (w.heap.size + 1 + 1 + 1 + 1) 127 i0 (.agg #[.string ByteArray.empty, .string ByteArray.empty]) 2 32 Tryz.underlying31 HI.out.1 HI.out.2.1 HI.out.2.2.1 HI.out.2.2.2 rfl (by omega) (.slice va out.length vc) out.length _ (by rfl) (owns_below HXd.out.own ((Below.refl _ _).drew.alloc (Nat.le_refl _) _)) ⟨wd.heap.size, 0, none⟩ 1 1 [.string s0, .string s1] (by rfl) rfl (World.news_of_block (heap_alloc_new wd.drew _)) (onePr _ _) (by omega) (by unfold maxLen; (try simp) <;> omega) (by (try simp) <;> omega) (by (try simp) <;> omega) (wd.heap.size + 1) (by simp) ?_
            intro g9 cap9 w9 hown9 hgrow9 hat9 hlt9
            have hpu := OutX.push (x := (s0, s1)) HXd.out hown9 (undrewA hgrow9)
            have q9 := hpu.1.cell 0 _ rfl
            have r9 := hpu.1.froz 0 (by simp)
            have l9 := hpu.1.lt
            have HP9 := hid hpu
            have hb9 : Below (w.heap.size + 1 + 1 + 1) wd w9 := below_of_grown ⟨hgrow9.os, hgrow9.tape, hgrow9.output, Nat.le_trans (by simp) hgrow9.size, fun k hk hne => (hgrow9.block k (by simp; omega) hne).trans (((Below.refl wd.heap.size wd).drew.alloc (Nat.le_refl _) _).block k hk)⟩ (Nat.le_of_lt ld) (fun k hk => by have := (HXd.out.own.lt k hk).1; omega)
            clear hown9 hgrow9 hat9 hpu
            refine hK.out _ _ (HCSd.out _ hb9) (fun hHd3 => ?_)
            clear hK K
            try simp only [Act.put, List.getElem_toArray, List.getElem_cons_zero, List.getElem_cons_succ, List.setIfInBounds_toArray, List.set_cons_zero, List.set_cons_succ]
            refine wpAnyH_take (i := 9) (v := .pointer (some ⟨w.heap.size + 1 + 1 + 1, 0, none⟩)) rfl (by kernel_rfl) (by kernel_rfl) (by kernel_rfl) (fun _ _ _ h => h) (Or.inl ⟨by rfl, fun w hw => by obtain ⟨z0, z1, z2, z3, z4⟩ := hw; go_simp⟩) hHd3 ?_
            simp only [Act.put, List.getElem_toArray, List.getElem_cons_zero, List.getElem_cons_succ, List.setIfInBounds_toArray, List.set_cons_zero, List.set_cons_succ]
            refine wpAnyH_ready (rs := [10]) (by kernel_rfl) (by simp) ?_
            refine AllReadyH.cons rfl (fun K hK => ?_) AllReadyH.nil
            go_simp
            refine hK.out _ _ (HCSd.out _ (hb9.setCell (p := ⟨w.heap.size + 1 + 1 + 1, 0, none⟩) (Nat.le_refl _) _)) (fun hHd4 => ?_)
            clear hK K
            try simp only [Act.put, List.getElem_toArray, List.getElem_cons_zero, List.getElem_cons_succ, List.setIfInBounds_toArray, List.set_cons_zero, List.set_cons_succ]
            refine wpAnyH_done (by kernel_rfl) ?_ _
            go_wp2
            have he := HE.out
            refine ⟨⟨k + 1, by omega, by go_num, by rw [HSTEP.out]; simp [stepC, he, HDK.out, klt_self], .slice (some ⟨g9, 0, none⟩) (out.length + 1) cap9, ?_⟩, by simp [intOf]; omega⟩
            have hfe : (chW (key, val, gone) (rs.take (k + 1))).2 = out ++ [(s0, s1)] := by rw [HSTEP.out]; simp [stepC, he, HDK.out, klt_self]
            rw [hfe]
            simpa only [List.length_append, List.length_singleton] using HP9.out.2.1
          · go_simp
            refine hK.out _ _ (HCSd.out _ ((Below.refl _ _).drew.alloc (Nat.le_of_lt ld) _)) (fun hHd5 => ?_)
            clear hK K
            try simp only [Act.put, List.getElem_toArray, List.getElem_cons_zero, List.getElem_cons_succ, List.setIfInBounds_toArray, List.set_cons_zero, List.set_cons_succ]
            refine wpAnyH_ready (rs := [1]) (by kernel_rfl) (by simp) ?_
            refine AllReadyH.cons rfl (fun K hK => ?_) AllReadyH.nil
            go_simp
            refine hK.out _ _ hHd5 (fun _ => ?_)
            clear hK K
            try simp only [Act.put, List.getElem_toArray, List.getElem_cons_zero, List.getElem_cons_succ, List.setIfInBounds_toArray, List.set_cons_zero, List.set_cons_succ]
            refine wpAnyH_ready (rs := [8]) (by kernel_rfl) (by simp) ?_
            refine AllReadyH.cons rfl (fun K hK => ?_) AllReadyH.nil
            refine step_append_lies _ (by rfl) _ _ _ (by rfl) (w.heap.size + 1 + 1 + 1 + 1) 127 i0 (.agg #[.string ByteArray.empty, .string ByteArray.empty]) 2 32 Tryz.underlying31 HI.out.1 HI.out.2.1 HI.out.2.2.1 HI.out.2.2.2 rfl (by omega) (.slice va out.length vc) out.length _ (by rfl) (owns_below HXd.out.own ((Below.refl _ _).drew.alloc (Nat.le_refl _) _)) ⟨wd.heap.size, 0, none⟩ 1 1 [.string s0, .string s1] (by rfl) rfl (World.news_of_block (heap_alloc_new wd.drew _)) (onePr _ _) (by omega) (by unfold maxLen; (try simp) <;> omega) (by (try simp) <;> omega) (by (try simp) <;> omega) (wd.heap.size + 1) (by simp) ?_
            intro g9 cap9 w9 hown9 hgrow9 hat9 hlt9
            have hpu := OutX.push (x := (s0, s1)) HXd.out hown9 (undrewA hgrow9)
            have q9 := hpu.1.cell 0 _ rfl
            have r9 := hpu.1.froz 0 (by simp)
            have l9 := hpu.1.lt
            have HP9 := hid hpu
            have hb9 : Below (w.heap.size + 1 + 1 + 1) wd w9 := below_of_grown ⟨hgrow9.os, hgrow9.tape, hgrow9.output, Nat.le_trans (by simp) hgrow9.size, fun k hk hne => (hgrow9.block k (by simp; omega) hne).trans (((Below.refl wd.heap.size wd).drew.alloc (Nat.le_refl _) _).block k hk)⟩ (Nat.le_of_lt ld) (fun k hk => by have := (HXd.out.own.lt k hk).1; omega)
            clear hown9 hgrow9 hat9 hpu
            refine hK.out _ _ (HCSd.out _ hb9) (fun hHd7 => ?_)
            clear hK K
            try simp only [Act.put, List.getElem_toArray, List.getElem_cons_zero, List.getElem_cons_succ, List.setIfInBounds_toArray, List.set_cons_zero, List.set_cons_succ]
            refine wpAnyH_take (i := 9) (v := .pointer (some ⟨w.heap.size + 1 + 1 + 1, 0, none⟩)) rfl (by kernel_rfl) (by kernel_rfl) (by kernel_rfl) (fun _ _ _ h => h) (Or.inl ⟨by rfl, fun w hw => by obtain ⟨z0, z1, z2, z3, z4⟩ := hw; go_simp⟩) hHd7 ?_
            simp only [Act.put, List.getElem_toArray, List.getElem_cons_zero, List.getElem_cons_succ, List.setIfInBounds_toArray, List.set_cons_zero, List.set_cons_succ]
            refine wpAnyH_ready (rs := [10]) (by kernel_rfl) (by simp) ?_
            refine AllReadyH.cons rfl (fun K hK => ?_) AllReadyH.nil
            go_simp
            refine hK.out _ _ (HCSd.out _ (hb9.setCell (p := ⟨w.heap.size + 1 + 1 + 1, 0, none⟩) (Nat.le_refl _) _)) (fun hHd8 => ?_)
            clear hK K
            try simp only [Act.put, List.getElem_toArray, List.getElem_cons_zero, List.getElem_cons_succ, List.setIfInBounds_toArray, List.set_cons_zero, List.set_cons_succ]
            refine wpAnyH_done (by kernel_rfl) ?_ _
            go_wp2
            have he := HE.out
            refine ⟨⟨k + 1, by omega, by go_num, by rw [HSTEP.out]; simp [stepC, he, HDK.out, klt_self], .slice (some ⟨g9, 0, none⟩) (out.length + 1) cap9, ?_⟩, by simp [intOf]; omega⟩
            have hfe : (chW (key, val, gone) (rs.take (k + 1))).2 = out ++ [(s0, s1)] := by rw [HSTEP.out]; simp [stepC, he, HDK.out, klt_self]
            rw [hfe]
            simpa only [List.length_append, List.length_singleton] using HP9.out.2.1
        · have he := (cmpB_zero _ _).1 hcm
          have HDK : Hid (klt key s0 = false) := by show _ = _; rw [he]; exact klt_self _
          have HE := hid he
          have hb1 : s0.toList = key.toList := by rw [he]
          clear he
          go_wp2_with fail
          refine wp_region_held_drew (S := fun w' => w'.cell? ⟨w.heap.size, 0, none⟩ = some (.slice (some ⟨b, o, none⟩) rs.length c) ∧ w'.cell? ⟨b, o + k * 2, none⟩ = some (.string s0) ∧ w'.cell? ⟨b, o + k * 2 + 1, none⟩ = some (.string s1) ∧ w'.cell? ⟨w.heap.size + 1, 0, none⟩ = some (.string key) ∧ w'.cell? ⟨w.heap.size + 1, 1, none⟩ = some (.string val)) (by kernel_rfl) (HCS.out _ (Below.refl _ _).drew) (fun hHeld => ?_)
          refine wpAnyH_take (i := 0) (v := .bool false) rfl (by kernel_rfl) (by kernel_rfl) (by kernel_rfl) (fun _ _ _ h => h) (Or.inl ⟨by rfl, fun w hw => by obtain ⟨z0, z1, z2, z3, z4⟩ := hw; go_simp⟩) hHeld ?_
          simp only [Act.put, List.getElem_toArray, List.getElem_cons_zero, List.getElem_cons_succ, List.setIfInBounds_toArray, List.set_cons_zero, List.set_cons_succ]
          refine wpAnyH_take (i := 1) (v := .bool true) rfl (by kernel_rfl) (by kernel_rfl) (by kernel_rfl) (fun _ _ _ h => h) (Or.inl ⟨by rfl, fun w hw => by obtain ⟨z0, z1, z2, z3, z4⟩ := hw; go_simp⟩) hHeld ?_
          simp only [Act.put, List.getElem_toArray, List.getElem_cons_zero, List.getElem_cons_succ, List.setIfInBounds_toArray, List.set_cons_zero, List.set_cons_succ]
          refine wpAnyH_take (i := 2) (v := .bool true) rfl (by kernel_rfl) (by kernel_rfl) (by kernel_rfl) (fun _ _ _ h => h) (Or.inl ⟨by rfl, fun w hw => by obtain ⟨z0, z1, z2, z3, z4⟩ := hw; go_simp⟩) hHeld ?_
          simp only [Act.put, List.getElem_toArray, List.getElem_cons_zero, List.getElem_cons_succ, List.setIfInBounds_toArray, List.set_cons_zero, List.set_cons_succ]
          refine wpAnyH_take (i := 3) (v := .pointer (some ⟨w.heap.size, 0, none⟩)) rfl (by kernel_rfl) (by kernel_rfl) (by kernel_rfl) (fun _ _ _ h => h) (Or.inl ⟨by rfl, fun w hw => by obtain ⟨z0, z1, z2, z3, z4⟩ := hw; go_simp⟩) hHeld ?_
          simp only [Act.put, List.getElem_toArray, List.getElem_cons_zero, List.getElem_cons_succ, List.setIfInBounds_toArray, List.set_cons_zero, List.set_cons_succ]
          refine wpAnyH_take (i := 4) (v := .slice (some ⟨b, o, none⟩) rs.length c) rfl (by kernel_rfl) (by kernel_rfl) (by kernel_rfl) (fun _ _ _ h => h) (Or.inl ⟨by rfl, fun w hw => by obtain ⟨z0, z1, z2, z3, z4⟩ := hw; go_simp⟩) hHeld ?_
          simp only [Act.put, List.getElem_toArray, List.getElem_cons_zero, List.getElem_cons_succ, List.setIfInBounds_toArray, List.set_cons_zero, List.set_cons_succ]
          refine wpAnyH_take (i := 5) (v := .int .i64 (k : Int)) rfl (by kernel_rfl) (by kernel_rfl) (by kernel_rfl) (fun _ _ _ h => h) (Or.inl ⟨by rfl, fun w hw => by obtain ⟨z0, z1, z2, z3, z4⟩ := hw; go_simp⟩) hHeld ?_
          simp only [Act.put, List.getElem_toArray, List.getElem_cons_zero, List.getElem_cons_succ, List.setIfInBounds_toArray, List.set_cons_zero, List.set_cons_succ]
          refine wpAnyH_take (i := 6) (v := .pointer (some ⟨b, o + k * 2, none⟩)) rfl (by kernel_rfl) (by kernel_rfl) (by kernel_rfl) (fun _ _ _ h => h) (Or.inl ⟨by rfl, fun w hw => by obtain ⟨z0, z1, z2, z3, z4⟩ := hw; go_simp⟩) hHeld ?_
          simp only [Act.put, List.getElem_toArray, List.getElem_cons_zero, List.getElem_cons_succ, List.setIfInBounds_toArray, List.set_cons_zero, List.set_cons_succ]
          refine wpAnyH_take (i := 7) (v := .pointer (some ⟨b, o + k * 2, none⟩)) rfl (by kernel_rfl) (by kernel_rfl) (by kernel_rfl) (fun _ _ _ h => h) (Or.inl ⟨by rfl, fun w hw => by obtain ⟨z0, z1, z2, z3, z4⟩ := hw; go_simp⟩) hHeld ?_
          simp only [Act.put, List.getElem_toArray, List.getElem_cons_zero, List.getElem_cons_succ, List.setIfInBounds_toArray, List.set_cons_zero, List.set_cons_succ]
          refine wpAnyH_take (i := 8) (v := .string s0) rfl (by kernel_rfl) (by kernel_rfl) (by kernel_rfl) (fun _ _ _ h => h) (Or.inl ⟨by rfl, fun w hw => by obtain ⟨z0, z1, z2, z3, z4⟩ := hw; go_simp⟩) hHeld ?_
          simp only [Act.put, List.getElem_toArray, List.getElem_cons_zero, List.getElem_cons_succ, List.setIfInBounds_toArray, List.set_cons_zero, List.set_cons_succ]
          refine wpAnyH_take (i := 9) (v := .pointer (some ⟨w.heap.size + 1, 0, none⟩)) rfl (by kernel_rfl) (by kernel_rfl) (by kernel_rfl) (fun _ _ _ h => h) (Or.inl ⟨by rfl, fun w hw => by obtain ⟨z0, z1, z2, z3, z4⟩ := hw; go_simp⟩) hHeld ?_
          simp only [Act.put, List.getElem_toArray, List.getElem_cons_zero, List.getElem_cons_succ, List.setIfInBounds_toArray, List.set_cons_zero, List.set_cons_succ]
          refine wpAnyH_take (i := 10) (v := .string key) rfl (by kernel_rfl) (by kernel_rfl) (by kernel_rfl) (fun _ _ _ h => h) (Or.inl ⟨by rfl, fun w hw => by obtain ⟨z0, z1, z2, z3, z4⟩ := hw; go_simp⟩) hHeld ?_
          simp only [Act.put, List.getElem_toArray, List.getElem_cons_zero, List.getElem_cons_succ, List.setIfInBounds_toArray, List.set_cons_zero, List.set_cons_succ]
          refine wpAnyH_take (i := 11) (v := .bool false) rfl (by kernel_rfl) (by kernel_rfl) (by kernel_rfl) (fun _ _ _ h => h) (Or.inl ⟨by rfl, fun w hw => by obtain ⟨z0, z1, z2, z3, z4⟩ := hw; go_simp⟩) hHeld ?_
          simp only [Act.put, List.getElem_toArray, List.getElem_cons_zero, List.getElem_cons_succ, List.setIfInBounds_toArray, List.set_cons_zero, List.set_cons_succ]
          refine wpAnyH_take (i := 12) (v := .bool false) rfl (by kernel_rfl) (by kernel_rfl) (by kernel_rfl) (fun _ _ _ h => h) (Or.inl ⟨by rfl, fun w hw => by obtain ⟨z0, z1, z2, z3, z4⟩ := hw; go_simp⟩) hHeld ?_
          simp only [Act.put, List.getElem_toArray, List.getElem_cons_zero, List.getElem_cons_succ, List.setIfInBounds_toArray, List.set_cons_zero, List.set_cons_succ]
          refine wpAnyH_done (by kernel_rfl) ?_ _
          obtain ⟨wd0, hwd0⟩ : ∃ wd0, wd0 = wr.drew := ⟨_, rfl⟩
          have hbd0 : Below wr.heap.size wr wd0 := by rw [hwd0]; exact (Below.refl _ _).drew
          rw [← hwd0]
          have HX0 := HX
          have HCS0 := HCS
          have hbw0 : Below w.heap.size w wd0 := hbw.trans (hbd0.mono hbw.size)
          have HXz := hid (HX0.out.below hbd0)
          have HCSz : Hid (∀ w', Below (w.heap.size + 1 + 1 + 1) wd0 w' → w'.cell? ⟨w.heap.size, 0, none⟩ = some (.slice (some ⟨b, o, none⟩) rs.length c) ∧ w'.cell? ⟨b, o + k * 2, none⟩ = some (.string s0) ∧ w'.cell? ⟨b, o + k * 2 + 1, none⟩ = some (.string s1) ∧ w'.cell? ⟨w.heap.size + 1, 0, none⟩ = some (.string key) ∧ w'.cell? ⟨w.heap.size + 1, 1, none⟩ = some (.string val)) := fun w' hb => HCS0.out w' ((hbd0.mono (Nat.le_of_lt l3)).trans hb)
          clear hwd0 HX HCS hbw q0 q10 q11 q3 r3 l3 hc0 hc1 HX0 HCS0 hbd0 hHeld
          generalize wd0 = wr at *
          have HX := HXz
          have HCS := HCSz
          clear HXz HCSz
          have q3 := HX.out.row.cell 0 _ rfl
          have r3 := HX.out.row.froz 0 (by simp)
          have l3 := HX.out.row.lt
          have q10 := (HCS.out _ (Below.refl _ _)).2.2.2.1
          have q11 := (HCS.out _ (Below.refl _ _)).2.2.2.2
          go_wp2_with fail
          have he2 : (s0.toList == key.toList) = true := by rw [HE.out]; simp
          refine wp_region_held_drew (S := fun w' => w'.cell? ⟨w.heap.size, 0, none⟩ = some (.slice (some ⟨b, o, none⟩) rs.length c) ∧ w'.cell? ⟨b, o + k * 2, none⟩ = some (.string s0) ∧ w'.cell? ⟨b, o + k * 2 + 1, none⟩ = some (.string s1) ∧ w'.cell? ⟨w.heap.size + 1, 0, none⟩ = some (.string key) ∧ w'.cell? ⟨w.heap.size + 1, 1, none⟩ = some (.string val)) (by kernel_rfl) (HCS.out _ (Below.refl _ _).drew) (fun hHeld => ?_)
          refine wpAnyH_take (i := 0) (v := .pointer (some ⟨w.heap.size, 0, none⟩)) rfl (by kernel_rfl) (by kernel_rfl) (by kernel_rfl) (fun _ _ _ h => h) (Or.inl ⟨by rfl, fun w hw => by obtain ⟨z0, z1, z2, z3, z4⟩ := hw; go_simp⟩) hHeld ?_
          simp only [Act.put, List.getElem_toArray, List.getElem_cons_zero, List.getElem_cons_succ, List.setIfInBounds_toArray, List.set_cons_zero, List.set_cons_succ]
          refine wpAnyH_take (i := 1) (v := .slice (some ⟨b, o, none⟩) rs.length c) rfl (by kernel_rfl) (by kernel_rfl) (by kernel_rfl) (fun _ _ _ h => h) (Or.inl ⟨by rfl, fun w hw => by obtain ⟨z0, z1, z2, z3, z4⟩ := hw; go_simp⟩) hHeld ?_
          simp only [Act.put, List.getElem_toArray, List.getElem_cons_zero, List.getElem_cons_succ, List.setIfInBounds_toArray, List.set_cons_zero, List.set_cons_succ]
          refine wpAnyH_take (i := 2) (v := .int .i64 (k : Int)) rfl (by kernel_rfl) (by kernel_rfl) (by kernel_rfl) (fun _ _ _ h => h) (Or.inl ⟨by rfl, fun w hw => by obtain ⟨z0, z1, z2, z3, z4⟩ := hw; go_simp⟩) hHeld ?_
          simp only [Act.put, List.getElem_toArray, List.getElem_cons_zero, List.getElem_cons_succ, List.setIfInBounds_toArray, List.set_cons_zero, List.set_cons_succ]
          refine wpAnyH_take (i := 3) (v := .pointer (some ⟨b, o + k * 2, none⟩)) rfl (by kernel_rfl) (by kernel_rfl) (by kernel_rfl) (fun _ _ _ h => h) (Or.inl ⟨by rfl, fun w hw => by obtain ⟨z0, z1, z2, z3, z4⟩ := hw; go_simp⟩) hHeld ?_
          simp only [Act.put, List.getElem_toArray, List.getElem_cons_zero, List.getElem_cons_succ, List.setIfInBounds_toArray, List.set_cons_zero, List.set_cons_succ]
          refine wpAnyH_take (i := 4) (v := .pointer (some ⟨b, o + k * 2, none⟩)) rfl (by kernel_rfl) (by kernel_rfl) (by kernel_rfl) (fun _ _ _ h => h) (Or.inl ⟨by rfl, fun w hw => by obtain ⟨z0, z1, z2, z3, z4⟩ := hw; go_simp⟩) hHeld ?_
          simp only [Act.put, List.getElem_toArray, List.getElem_cons_zero, List.getElem_cons_succ, List.setIfInBounds_toArray, List.set_cons_zero, List.set_cons_succ]
          refine wpAnyH_take (i := 5) (v := .string s0) rfl (by kernel_rfl) (by kernel_rfl) (by kernel_rfl) (fun _ _ _ h => h) (Or.inl ⟨by rfl, fun w hw => by obtain ⟨z0, z1, z2, z3, z4⟩ := hw; go_simp⟩) hHeld ?_
          simp only [Act.put, List.getElem_toArray, List.getElem_cons_zero, List.getElem_cons_succ, List.setIfInBounds_toArray, List.set_cons_zero, List.set_cons_succ]
          refine wpAnyH_take (i := 6) (v := .pointer (some ⟨w.heap.size + 1, 0, none⟩)) rfl (by kernel_rfl) (by kernel_rfl) (by kernel_rfl) (fun _ _ _ h => h) (Or.inl ⟨by rfl, fun w hw => by obtain ⟨z0, z1, z2, z3, z4⟩ := hw; go_simp⟩) hHeld ?_
          simp only [Act.put, List.getElem_toArray, List.getElem_cons_zero, List.getElem_cons_succ, List.setIfInBounds_toArray, List.set_cons_zero, List.set_cons_succ]
          refine wpAnyH_take (i := 7) (v := .string key) rfl (by kernel_rfl) (by kernel_rfl) (by kernel_rfl) (fun _ _ _ h => h) (Or.inl ⟨by rfl, fun w hw => by obtain ⟨z0, z1, z2, z3, z4⟩ := hw; go_simp⟩) hHeld ?_
          simp only [Act.put, List.getElem_toArray, List.getElem_cons_zero, List.getElem_cons_succ, List.setIfInBounds_toArray, List.set_cons_zero, List.set_cons_succ]
          refine wpAnyH_take (i := 8) (v := .bool false) rfl (by kernel_rfl) (by kernel_rfl) (by kernel_rfl) (fun _ _ _ h => h) (Or.inl ⟨by rfl, fun w hw => by obtain ⟨z0, z1, z2, z3, z4⟩ := hw; go_simp⟩) hHeld ?_
          simp only [Act.put, List.getElem_toArray, List.getElem_cons_zero, List.getElem_cons_succ, List.setIfInBounds_toArray, List.set_cons_zero, List.set_cons_succ]
          refine wpAnyH_done (by kernel_rfl) ?_ _
          go_wp2
          have he := HE.out
          refine ⟨⟨k + 1, by omega, by go_num, by rw [HSTEP.out]; simp [stepC, he, HDK.out, klt_self], .slice va out.length vc, ?_⟩, by simp [intOf]; omega⟩
          have hfe : (chW (key, val, gone) (rs.take (k + 1))).2 = out := by rw [HSTEP.out]; simp [stepC, he, HDK.out, klt_self]
          rw [hfe]
          exact HX.out.below (Below.refl _ _).drew
        · have HDK : Hid (klt key s0 = true) := cmpB_anti hcm
          have HE : Hid (¬ s0 = key) := fun e => by rw [e, cmpB_self] at hcm; omega
          have hb1 : ¬ (s0.toList = key.toList) := fun hh => by rw [ByteArray.toList_eq, ByteArray.toList_eq] at hh; exact HE.out (ByteArray.ext (Array.ext' hh))
          have hb2 : Op.bytesLess s0.toList key.toList = false := by cases hq : Op.bytesLess s0.toList key.toList with | false => rfl | true => (have := (cmpB_lt _ _).2 hq; omega)
          go_wp2_with fail
          refine wp_region_held_drew (S := fun w' => w'.cell? ⟨w.heap.size, 0, none⟩ = some (.slice (some ⟨b, o, none⟩) rs.length c) ∧ w'.cell? ⟨b, o + k * 2, none⟩ = some (.string s0) ∧ w'.cell? ⟨b, o + k * 2 + 1, none⟩ = some (.string s1) ∧ w'.cell? ⟨w.heap.size + 1, 0, none⟩ = some (.string key) ∧ w'.cell? ⟨w.heap.size + 1, 1, none⟩ = some (.string val)) (by kernel_rfl) (HCS.out _ (Below.refl _ _).drew) (fun hHeld => ?_)
          refine wpAnyH_take (i := 0) (v := .bool false) rfl (by kernel_rfl) (by kernel_rfl) (by kernel_rfl) (fun _ _ _ h => h) (Or.inl ⟨by rfl, fun w hw => by obtain ⟨z0, z1, z2, z3, z4⟩ := hw; go_simp⟩) hHeld ?_
          simp only [Act.put, List.getElem_toArray, List.getElem_cons_zero, List.getElem_cons_succ, List.setIfInBounds_toArray, List.set_cons_zero, List.set_cons_succ]
          refine wpAnyH_take (i := 1) (v := .bool true) rfl (by kernel_rfl) (by kernel_rfl) (by kernel_rfl) (fun _ _ _ h => h) (Or.inl ⟨by rfl, fun w hw => by obtain ⟨z0, z1, z2, z3, z4⟩ := hw; go_simp⟩) hHeld ?_
          simp only [Act.put, List.getElem_toArray, List.getElem_cons_zero, List.getElem_cons_succ, List.setIfInBounds_toArray, List.set_cons_zero, List.set_cons_succ]
          refine wpAnyH_take (i := 2) (v := .bool true) rfl (by kernel_rfl) (by kernel_rfl) (by kernel_rfl) (fun _ _ _ h => h) (Or.inl ⟨by rfl, fun w hw => by obtain ⟨z0, z1, z2, z3, z4⟩ := hw; go_simp⟩) hHeld ?_
          simp only [Act.put, List.getElem_toArray, List.getElem_cons_zero, List.getElem_cons_succ, List.setIfInBounds_toArray, List.set_cons_zero, List.set_cons_succ]
          refine wpAnyH_take (i := 3) (v := .pointer (some ⟨w.heap.size, 0, none⟩)) rfl (by kernel_rfl) (by kernel_rfl) (by kernel_rfl) (fun _ _ _ h => h) (Or.inl ⟨by rfl, fun w hw => by obtain ⟨z0, z1, z2, z3, z4⟩ := hw; go_simp⟩) hHeld ?_
          simp only [Act.put, List.getElem_toArray, List.getElem_cons_zero, List.getElem_cons_succ, List.setIfInBounds_toArray, List.set_cons_zero, List.set_cons_succ]
          refine wpAnyH_take (i := 4) (v := .slice (some ⟨b, o, none⟩) rs.length c) rfl (by kernel_rfl) (by kernel_rfl) (by kernel_rfl) (fun _ _ _ h => h) (Or.inl ⟨by rfl, fun w hw => by obtain ⟨z0, z1, z2, z3, z4⟩ := hw; go_simp⟩) hHeld ?_
          simp only [Act.put, List.getElem_toArray, List.getElem_cons_zero, List.getElem_cons_succ, List.setIfInBounds_toArray, List.set_cons_zero, List.set_cons_succ]
          refine wpAnyH_take (i := 5) (v := .int .i64 (k : Int)) rfl (by kernel_rfl) (by kernel_rfl) (by kernel_rfl) (fun _ _ _ h => h) (Or.inl ⟨by rfl, fun w hw => by obtain ⟨z0, z1, z2, z3, z4⟩ := hw; go_simp⟩) hHeld ?_
          simp only [Act.put, List.getElem_toArray, List.getElem_cons_zero, List.getElem_cons_succ, List.setIfInBounds_toArray, List.set_cons_zero, List.set_cons_succ]
          refine wpAnyH_take (i := 6) (v := .pointer (some ⟨b, o + k * 2, none⟩)) rfl (by kernel_rfl) (by kernel_rfl) (by kernel_rfl) (fun _ _ _ h => h) (Or.inl ⟨by rfl, fun w hw => by obtain ⟨z0, z1, z2, z3, z4⟩ := hw; go_simp⟩) hHeld ?_
          simp only [Act.put, List.getElem_toArray, List.getElem_cons_zero, List.getElem_cons_succ, List.setIfInBounds_toArray, List.set_cons_zero, List.set_cons_succ]
          refine wpAnyH_take (i := 7) (v := .pointer (some ⟨b, o + k * 2, none⟩)) rfl (by kernel_rfl) (by kernel_rfl) (by kernel_rfl) (fun _ _ _ h => h) (Or.inl ⟨by rfl, fun w hw => by obtain ⟨z0, z1, z2, z3, z4⟩ := hw; go_simp⟩) hHeld ?_
          simp only [Act.put, List.getElem_toArray, List.getElem_cons_zero, List.getElem_cons_succ, List.setIfInBounds_toArray, List.set_cons_zero, List.set_cons_succ]
          refine wpAnyH_take (i := 8) (v := .string s0) rfl (by kernel_rfl) (by kernel_rfl) (by kernel_rfl) (fun _ _ _ h => h) (Or.inl ⟨by rfl, fun w hw => by obtain ⟨z0, z1, z2, z3, z4⟩ := hw; go_simp⟩) hHeld ?_
          simp only [Act.put, List.getElem_toArray, List.getElem_cons_zero, List.getElem_cons_succ, List.setIfInBounds_toArray, List.set_cons_zero, List.set_cons_succ]
          refine wpAnyH_take (i := 9) (v := .pointer (some ⟨w.heap.size + 1, 0, none⟩)) rfl (by kernel_rfl) (by kernel_rfl) (by kernel_rfl) (fun _ _ _ h => h) (Or.inl ⟨by rfl, fun w hw => by obtain ⟨z0, z1, z2, z3, z4⟩ := hw; go_simp⟩) hHeld ?_
          simp only [Act.put, List.getElem_toArray, List.getElem_cons_zero, List.getElem_cons_succ, List.setIfInBounds_toArray, List.set_cons_zero, List.set_cons_succ]
          refine wpAnyH_take (i := 10) (v := .string key) rfl (by kernel_rfl) (by kernel_rfl) (by kernel_rfl) (fun _ _ _ h => h) (Or.inl ⟨by rfl, fun w hw => by obtain ⟨z0, z1, z2, z3, z4⟩ := hw; go_simp⟩) hHeld ?_
          simp only [Act.put, List.getElem_toArray, List.getElem_cons_zero, List.getElem_cons_succ, List.setIfInBounds_toArray, List.set_cons_zero, List.set_cons_succ]
          refine wpAnyH_take (i := 11) (v := .bool true) rfl (by kernel_rfl) (by kernel_rfl) (by kernel_rfl) (fun _ _ _ h => h) (Or.inl ⟨by rfl, fun w hw => by obtain ⟨z0, z1, z2, z3, z4⟩ := hw; go_simp⟩) hHeld ?_
          simp only [Act.put, List.getElem_toArray, List.getElem_cons_zero, List.getElem_cons_succ, List.setIfInBounds_toArray, List.set_cons_zero, List.set_cons_succ]
          refine wpAnyH_take (i := 12) (v := .bool true) rfl (by kernel_rfl) (by kernel_rfl) (by kernel_rfl) (fun _ _ _ h => h) (Or.inl ⟨by rfl, fun w hw => by obtain ⟨z0, z1, z2, z3, z4⟩ := hw; go_simp⟩) hHeld ?_
          simp only [Act.put, List.getElem_toArray, List.getElem_cons_zero, List.getElem_cons_succ, List.setIfInBounds_toArray, List.set_cons_zero, List.set_cons_succ]
          refine wpAnyH_done (by kernel_rfl) ?_ _
          obtain ⟨wd0, hwd0⟩ : ∃ wd0, wd0 = wr.drew := ⟨_, rfl⟩
          have hbd0 : Below wr.heap.size wr wd0 := by rw [hwd0]; exact (Below.refl _ _).drew
          rw [← hwd0]
          have HX0 := HX
          have HCS0 := HCS
          have hbw0 : Below w.heap.size w wd0 := hbw.trans (hbd0.mono hbw.size)
          have HXz := hid (HX0.out.below hbd0)
          have HCSz : Hid (∀ w', Below (w.heap.size + 1 + 1 + 1) wd0 w' → w'.cell? ⟨w.heap.size, 0, none⟩ = some (.slice (some ⟨b, o, none⟩) rs.length c) ∧ w'.cell? ⟨b, o + k * 2, none⟩ = some (.string s0) ∧ w'.cell? ⟨b, o + k * 2 + 1, none⟩ = some (.string s1) ∧ w'.cell? ⟨w.heap.size + 1, 0, none⟩ = some (.string key) ∧ w'.cell? ⟨w.heap.size + 1, 1, none⟩ = some (.string val)) := fun w' hb => HCS0.out w' ((hbd0.mono (Nat.le_of_lt l3)).trans hb)
          clear hwd0 HX HCS hbw q0 q10 q11 q3 r3 l3 hc0 hc1 HX0 HCS0 hbd0 hHeld
          generalize wd0 = wr at *
          have HX := HXz
          have HCS := HCSz
          clear HXz HCSz
          have q3 := HX.out.row.cell 0 _ rfl
          have r3 := HX.out.row.froz 0 (by simp)
          have l3 := HX.out.row.lt
          have q10 := (HCS.out _ (Below.refl _ _)).2.2.2.1
          have q11 := (HCS.out _ (Below.refl _ _)).2.2.2.2
          go_wp2_with (at_builtin; refine wpList_append_lies _ rfl _ _ 31 rfl (w.heap.size + 1 + 1 + 1 + 1) 127 i0 (.agg #[.string ByteArray.empty, .string ByteArray.empty]) 2 32 Tryz.underlying31 HI.out.1 HI.out.2.1 HI.out.2.2.1 HI.out.2.2.2 rfl (by omega) _ out.length _ rfl (HX.out.own.alloc _) ⟨wr.heap.size, 0, none⟩ 1 1 [.string key, .string val] rfl rfl (World.news_of_block (heap_alloc_new wr _)) (onePr _ _) (by omega) (by unfold maxLen; omega) (by omega) (by simp; omega) (wr.heap.size + 1) (by simp) ?_; intro g7 cap7 w7 hown7 hgrow7 hat7 hlt7; have hpu := OutX.push (x := (key, val)) HX.out hown7 hgrow7; have q7 := hpu.1.cell 0 _ rfl; have r7 := hpu.1.froz 0 (by simp); have l7 := hpu.1.lt; have q72 := (HRW.out _ hpu.2.2).2.2.cell 0 _ rfl; have r72 := (HRW.out _ hpu.2.2).2.2.froz 0 (by simp); have HPU := hid hpu; clear hown7 hgrow7 hat7 hpu)
          obtain ⟨w8, hw8⟩ : ∃ w8, w8 = w7.setCell ⟨w.heap.size + 1 + 1 + 1, 0, none⟩ (.slice (some ⟨g7, 0, none⟩) (out.length + 1) cap7) := ⟨_, rfl⟩
          have hx8 := HPU.out.2.1
          rw [← hw8] at hx8 ⊢
          clear hw8 q7 r7 l7 q72 r72 HPU
          have e8 : Value.slice (some ⟨g7, 0, none⟩) (out.length + 1) cap7 = .slice (some ⟨g7, 0, none⟩) (out ++ [(key, val)]).length cap7 := by rw [List.length_append]; rfl
          rw [e8] at hx8
          have q8 := hx8.row.cell 0 _ rfl
          have r8 := hx8.row.froz 0 (by simp)
          have l8 := hx8.row.lt
          have HX8 := hid hx8
          have HCS8 : Hid (∀ w', Below (w.heap.size + 1 + 1 + 1) w8 w' → w'.cell? ⟨w.heap.size, 0, none⟩ = some (.slice (some ⟨b, o, none⟩) rs.length c) ∧ w'.cell? ⟨b, o + k * 2, none⟩ = some (.string s0) ∧ w'.cell? ⟨b, o + k * 2 + 1, none⟩ = some (.string s1) ∧ w'.cell? ⟨w.heap.size + 1, 0, none⟩ = some (.string key) ∧ w'.cell? ⟨w.heap.size + 1, 1, none⟩ = some (.string val)) := fun w' hb => by
            obtain ⟨hR0, hR1, hR2⟩ := HRW.out _ (HX8.out.bel.trans hb)
            have hbx : Below w.heap.size w w' := HBB.out.trans ((HX8.out.bel.trans hb).mono (by omega))
            obtain ⟨hp0, hp1⟩ := HPB.out w' hbx
            exact ⟨hR0.cell 0 _ rfl, hp0, hp1, hR1.cell 0 _ rfl, hR1.cell 1 _ rfl⟩
          clear hx8
          have he2 : (s0.toList == key.toList) = false := by rw [beq_eq_false_iff_ne]; intro hh; rw [ByteArray.toList_eq, ByteArray.toList_eq] at hh; exact HE.out (ByteArray.ext (Array.ext' hh))
          refine wp_region_held_drew (S := fun w' => w'.cell? ⟨w.heap.size, 0, none⟩ = some (.slice (some ⟨b, o, none⟩) rs.length c) ∧ w'.cell? ⟨b, o + k * 2, none⟩ = some (.string s0) ∧ w'.cell? ⟨b, o + k * 2 + 1, none⟩ = some (.string s1) ∧ w'.cell? ⟨w.heap.size + 1, 0, none⟩ = some (.string key) ∧ w'.cell? ⟨w.heap.size + 1, 1, none⟩ = some (.string val)) (by kernel_rfl) (HCS8.out _ (Below.refl _ _).drew) (fun hHeld => ?_)
          refine wpAnyH_take (i := 0) (v := .pointer (some ⟨w.heap.size, 0, none⟩)) rfl (by kernel_rfl) (by kernel_rfl) (by kernel_rfl) (fun _ _ _ h => h) (Or.inl ⟨by rfl, fun w hw => by obtain ⟨z0, z1, z2, z3, z4⟩ := hw; go_simp⟩) hHeld ?_
          simp only [Act.put, List.getElem_toArray, List.getElem_cons_zero, List.getElem_cons_succ, List.setIfInBounds_toArray, List.set_cons_zero, List.set_cons_succ]
          refine wpAnyH_take (i := 1) (v := .slice (some ⟨b, o, none⟩) rs.length c) rfl (by kernel_rfl) (by kernel_rfl) (by kernel_rfl) (fun _ _ _ h => h) (Or.inl ⟨by rfl, fun w hw => by obtain ⟨z0, z1, z2, z3, z4⟩ := hw; go_simp⟩) hHeld ?_
          simp only [Act.put, List.getElem_toArray, List.getElem_cons_zero, List.getElem_cons_succ, List.setIfInBounds_toArray, List.set_cons_zero, List.set_cons_succ]
          refine wpAnyH_take (i := 2) (v := .int .i64 (k : Int)) rfl (by kernel_rfl) (by kernel_rfl) (by kernel_rfl) (fun _ _ _ h => h) (Or.inl ⟨by rfl, fun w hw => by obtain ⟨z0, z1, z2, z3, z4⟩ := hw; go_simp⟩) hHeld ?_
          simp only [Act.put, List.getElem_toArray, List.getElem_cons_zero, List.getElem_cons_succ, List.setIfInBounds_toArray, List.set_cons_zero, List.set_cons_succ]
          refine wpAnyH_take (i := 3) (v := .pointer (some ⟨b, o + k * 2, none⟩)) rfl (by kernel_rfl) (by kernel_rfl) (by kernel_rfl) (fun _ _ _ h => h) (Or.inl ⟨by rfl, fun w hw => by obtain ⟨z0, z1, z2, z3, z4⟩ := hw; go_simp⟩) hHeld ?_
          simp only [Act.put, List.getElem_toArray, List.getElem_cons_zero, List.getElem_cons_succ, List.setIfInBounds_toArray, List.set_cons_zero, List.set_cons_succ]
          refine wpAnyH_take (i := 4) (v := .pointer (some ⟨b, o + k * 2, none⟩)) rfl (by kernel_rfl) (by kernel_rfl) (by kernel_rfl) (fun _ _ _ h => h) (Or.inl ⟨by rfl, fun w hw => by obtain ⟨z0, z1, z2, z3, z4⟩ := hw; go_simp⟩) hHeld ?_
          simp only [Act.put, List.getElem_toArray, List.getElem_cons_zero, List.getElem_cons_succ, List.setIfInBounds_toArray, List.set_cons_zero, List.set_cons_succ]
          refine wpAnyH_take (i := 5) (v := .string s0) rfl (by kernel_rfl) (by kernel_rfl) (by kernel_rfl) (fun _ _ _ h => h) (Or.inl ⟨by rfl, fun w hw => by obtain ⟨z0, z1, z2, z3, z4⟩ := hw; go_simp⟩) hHeld ?_
          simp only [Act.put, List.getElem_toArray, List.getElem_cons_zero, List.getElem_cons_succ, List.setIfInBounds_toArray, List.set_cons_zero, List.set_cons_succ]
          refine wpAnyH_take (i := 6) (v := .pointer (some ⟨w.heap.size + 1, 0, none⟩)) rfl (by kernel_rfl) (by kernel_rfl) (by kernel_rfl) (fun _ _ _ h => h) (Or.inl ⟨by rfl, fun w hw => by obtain ⟨z0, z1, z2, z3, z4⟩ := hw; go_simp⟩) hHeld ?_
          simp only [Act.put, List.getElem_toArray, List.getElem_cons_zero, List.getElem_cons_succ, List.setIfInBounds_toArray, List.set_cons_zero, List.set_cons_succ]
          refine wpAnyH_take (i := 7) (v := .string key) rfl (by kernel_rfl) (by kernel_rfl) (by kernel_rfl) (fun _ _ _ h => h) (Or.inl ⟨by rfl, fun w hw => by obtain ⟨z0, z1, z2, z3, z4⟩ := hw; go_simp⟩) hHeld ?_
          simp only [Act.put, List.getElem_toArray, List.getElem_cons_zero, List.getElem_cons_succ, List.setIfInBounds_toArray, List.set_cons_zero, List.set_cons_succ]
          refine wpAnyH_take (i := 8) (v := .bool true) rfl (by kernel_rfl) (by kernel_rfl) (by kernel_rfl) (fun _ _ _ h => h) (Or.inl ⟨by rfl, fun w hw => by obtain ⟨z0, z1, z2, z3, z4⟩ := hw; go_simp⟩) hHeld ?_
          simp only [Act.put, List.getElem_toArray, List.getElem_cons_zero, List.getElem_cons_succ, List.setIfInBounds_toArray, List.set_cons_zero, List.set_cons_succ]
          refine wpAnyH_done (by kernel_rfl) ?_ _
          obtain ⟨wd, hwd⟩ : ∃ wd, wd = w8.drew := ⟨_, rfl⟩
          have hbd : Below w8.heap.size w8 wd := by rw [hwd]; exact (Below.refl _ _).drew
          rw [← hwd]
          clear hwd
          have HXd := hid (HX8.out.below hbd)
          have qd := HXd.out.row.cell 0 _ rfl
          have rd := HXd.out.row.froz 0 (by simp)
          have ld := HXd.out.row.lt
          have HCSd : Hid (∀ w', Below (w.heap.size + 1 + 1 + 1) wd w' → w'.cell? ⟨w.heap.size, 0, none⟩ = some (.slice (some ⟨b, o, none⟩) rs.length c) ∧ w'.cell? ⟨b, o + k * 2, none⟩ = some (.string s0) ∧ w'.cell? ⟨b, o + k * 2 + 1, none⟩ = some (.string s1) ∧ w'.cell? ⟨w.heap.size + 1, 0, none⟩ = some (.string key) ∧ w'.cell? ⟨w.heap.size + 1, 1, none⟩ = some (.string val)) := fun w' hb => HCS8.out w' ((hbd.mono (Nat.le_of_lt l8)).trans hb)
          clear hHeld
          go_wp2_with fail
          refine wp_region_held_drew (S := fun w' => w'.cell? ⟨w.heap.size, 0, none⟩ = some (.slice (some ⟨b, o, none⟩) rs.length c) ∧ w'.cell? ⟨b, o + k * 2, none⟩ = some (.string s0) ∧ w'.cell? ⟨b, o + k * 2 + 1, none⟩ = some (.string s1) ∧ w'.cell? ⟨w.heap.size + 1, 0, none⟩ = some (.string key) ∧ w'.cell? ⟨w.heap.size + 1, 1, none⟩ = some (.string val)) (by kernel_rfl) (HCSd.out _ (Below.refl _ _).drew) (fun hHeld => ?_)
          refine wpAnyH_take (i := 0) (v := .pointer (some ⟨w.heap.size + 1 + 1 + 1, 0, none⟩)) rfl (by kernel_rfl) (by kernel_rfl) (by kernel_rfl) (fun _ _ _ h => h) (Or.inl ⟨by rfl, fun w hw => by obtain ⟨z0, z1, z2, z3, z4⟩ := hw; go_simp⟩) hHeld ?_
          simp only [Act.put, List.getElem_toArray, List.getElem_cons_zero, List.getElem_cons_succ, List.setIfInBounds_toArray, List.set_cons_zero, List.set_cons_succ]
          refine wpAnyH_take (i := 2) (v := .pointer (some ⟨w.heap.size, 0, none⟩)) rfl (by kernel_rfl) (by kernel_rfl) (by kernel_rfl) (fun _ _ _ h => h) (Or.inl ⟨by rfl, fun w hw => by obtain ⟨z0, z1, z2, z3, z4⟩ := hw; go_simp⟩) hHeld ?_
          simp only [Act.put, List.getElem_toArray, List.getElem_cons_zero, List.getElem_cons_succ, List.setIfInBounds_toArray, List.set_cons_zero, List.set_cons_succ]
          refine wpAnyH_take (i := 3) (v := .slice (some ⟨b, o, none⟩) rs.length c) rfl (by kernel_rfl) (by kernel_rfl) (by kernel_rfl) (fun _ _ _ h => h) (Or.inl ⟨by rfl, fun w hw => by obtain ⟨z0, z1, z2, z3, z4⟩ := hw; go_simp⟩) hHeld ?_
          simp only [Act.put, List.getElem_toArray, List.getElem_cons_zero, List.getElem_cons_succ, List.setIfInBounds_toArray, List.set_cons_zero, List.set_cons_succ]
          refine wpAnyH_take (i := 4) (v := .int .i64 (k : Int)) rfl (by kernel_rfl) (by kernel_rfl) (by kernel_rfl) (fun _ _ _ h => h) (Or.inl ⟨by rfl, fun w hw => by obtain ⟨z0, z1, z2, z3, z4⟩ := hw; go_simp⟩) hHeld ?_
          simp only [Act.put, List.getElem_toArray, List.getElem_cons_zero, List.getElem_cons_succ, List.setIfInBounds_toArray, List.set_cons_zero, List.set_cons_succ]
          refine wpAnyH_take (i := 5) (v := .pointer (some ⟨b, o + k * 2, none⟩)) rfl (by kernel_rfl) (by kernel_rfl) (by kernel_rfl) (fun _ _ _ h => h) (Or.inl ⟨by rfl, fun w hw => by obtain ⟨z0, z1, z2, z3, z4⟩ := hw; go_simp⟩) hHeld ?_
          simp only [Act.put, List.getElem_toArray, List.getElem_cons_zero, List.getElem_cons_succ, List.setIfInBounds_toArray, List.set_cons_zero, List.set_cons_succ]
          refine wpAnyH_take (i := 6) (v := .agg #[.string s0, .string s1]) rfl (by kernel_rfl) (by kernel_rfl) (by kernel_rfl) (fun _ _ _ h => h) (Or.inl ⟨by rfl, fun w hw => by obtain ⟨z0, z1, z2, z3, z4⟩ := hw; go_simp⟩) hHeld ?_
          simp only [Act.put, List.getElem_toArray, List.getElem_cons_zero, List.getElem_cons_succ, List.setIfInBounds_toArray, List.set_cons_zero, List.set_cons_succ]
          refine wpAnyH_ready (rs := [1, 7]) (by kernel_rfl) (by simp) ?_
          refine AllReadyH.cons rfl (fun K hK => ?_) (AllReadyH.cons rfl (fun K hK => ?_) AllReadyH.nil)
          · go_simp
            refine hK.out _ _ hHeld (fun _ => ?_)
            clear hK K
            try simp only [Act.put, List.getElem_toArray, List.getElem_cons_zero, List.getElem_cons_succ, List.setIfInBounds_toArray, List.set_cons_zero, List.set_cons_succ]
            refine wpAnyH_ready (rs := [7]) (by kernel_rfl) (by simp) ?_
            refine AllReadyH.cons rfl (fun K hK => ?_) AllReadyH.nil
            go_simp
            refine hK.out _ _ (HCSd.out _ ((Below.refl _ _).drew.alloc (Nat.le_of_lt ld) _)) (fun hHd2 => ?_)
            clear hK K
            try simp only [Act.put, List.getElem_toArray, List.getElem_cons_zero, List.getElem_cons_succ, List.setIfInBounds_toArray, List.set_cons_zero, List.set_cons_succ]
            refine wpAnyH_ready (rs := [8]) (by kernel_rfl) (by simp) ?_
            refine AllReadyH.cons rfl (fun K hK => ?_) AllReadyH.nil
            refine step_append_lies _ (by rfl) _ _ _ (by rfl) (w.heap.size + 1 + 1 + 1 + 1) 127 i0 (.agg #[.string ByteArray.empty, .string ByteArray.empty]) 2 32 Tryz.underlying31 HI.out.1 HI.out.2.1 HI.out.2.2.1 HI.out.2.2.2 rfl (by omega) (.slice (some ⟨g7, 0, none⟩) (out ++ [(key, val)]).length cap7) (out ++ [(key, val)]).length _ (by rfl) (owns_below HXd.out.own ((Below.refl _ _).drew.alloc (Nat.le_refl _) _)) ⟨wd.heap.size, 0, none⟩ 1 1 [.string s0, .string s1] (by rfl) rfl (World.news_of_block (heap_alloc_new wd.drew _)) (onePr _ _) (by omega) (by unfold maxLen; (try simp) <;> omega) (by (try simp) <;> omega) (by (try simp) <;> omega) (wd.heap.size + 1) (by simp) ?_
            intro g9 cap9 w9 hown9 hgrow9 hat9 hlt9
            have hpu := OutX.push (x := (s0, s1)) HXd.out hown9 (undrewA hgrow9)
            have q9 := hpu.1.cell 0 _ rfl
            have r9 := hpu.1.froz 0 (by simp)
            have l9 := hpu.1.lt
            have HP9 := hid hpu
            have hb9 : Below (w.heap.size + 1 + 1 + 1) wd w9 := below_of_grown ⟨hgrow9.os, hgrow9.tape, hgrow9.output, Nat.le_trans (by simp) hgrow9.size, fun k hk hne => (hgrow9.block k (by simp; omega) hne).trans (((Below.refl wd.heap.size wd).drew.alloc (Nat.le_refl _) _).block k hk)⟩ (Nat.le_of_lt ld) (fun k hk => by have := (HXd.out.own.lt k hk).1; omega)
            clear hown9 hgrow9 hat9 hpu
            refine hK.out _ _ (HCSd.out _ hb9) (fun hHd3 => ?_)
            clear hK K
            try simp only [Act.put, List.getElem_toArray, List.getElem_cons_zero, List.getElem_cons_succ, List.setIfInBounds_toArray, List.set_cons_zero, List.set_cons_succ]
            refine wpAnyH_take (i := 9) (v := .pointer (some ⟨w.heap.size + 1 + 1 + 1, 0, none⟩)) rfl (by kernel_rfl) (by kernel_rfl) (by kernel_rfl) (fun _ _ _ h => h) (Or.inl ⟨by rfl, fun w hw => by obtain ⟨z0, z1, z2, z3, z4⟩ := hw; go_simp⟩) hHd3 ?_
            simp only [Act.put, List.getElem_toArray, List.getElem_cons_zero, List.getElem_cons_succ, List.setIfInBounds_toArray, List.set_cons_zero, List.set_cons_succ]
            refine wpAnyH_ready (rs := [10]) (by kernel_rfl) (by simp) ?_
            refine AllReadyH.cons rfl (fun K hK => ?_) AllReadyH.nil
            go_simp
            refine hK.out _ _ (HCSd.out _ (hb9.setCell (p := ⟨w.heap.size + 1 + 1 + 1, 0, none⟩) (Nat.le_refl _) _)) (fun hHd4 => ?_)
            clear hK K
            try simp only [Act.put, List.getElem_toArray, List.getElem_cons_zero, List.getElem_cons_succ, List.setIfInBounds_toArray, List.set_cons_zero, List.set_cons_succ]
            refine wpAnyH_done (by kernel_rfl) ?_ _
            go_wp2
            have he := HE.out
            refine ⟨⟨k + 1, by omega, by go_num, by rw [HSTEP.out]; simp [stepC, he, HDK.out, klt_self], .slice (some ⟨g9, 0, none⟩) ((out ++ [(key, val)]).length + 1) cap9, ?_⟩, by simp [intOf]; omega⟩
            have hfe : (chW (key, val, gone) (rs.take (k + 1))).2 = (out ++ [(key, val)]) ++ [(s0, s1)] := by rw [HSTEP.out]; simp [stepC, he, HDK.out, klt_self]
            rw [hfe]
            simpa only [List.length_append, List.length_singleton] using HP9.out.2.1
          · go_simp
            refine hK.out _ _ (HCSd.out _ ((Below.refl _ _).drew.alloc (Nat.le_of_lt ld) _)) (fun hHd5 => ?_)
            clear hK K
            try simp only [Act.put, List.getElem_toArray, List.getElem_cons_zero, List.getElem_cons_succ, List.setIfInBounds_toArray, List.set_cons_zero, List.set_cons_succ]
            refine wpAnyH_ready (rs := [1]) (by kernel_rfl) (by simp) ?_
            refine AllReadyH.cons rfl (fun K hK => ?_) AllReadyH.nil
            go_simp
            refine hK.out _ _ hHd5 (fun _ => ?_)
            clear hK K
            try simp only [Act.put, List.getElem_toArray, List.getElem_cons_zero, List.getElem_cons_succ, List.setIfInBounds_toArray, List.set_cons_zero, List.set_cons_succ]
            refine wpAnyH_ready (rs := [8]) (by kernel_rfl) (by simp) ?_
            refine AllReadyH.cons rfl (fun K hK => ?_) AllReadyH.nil
            refine step_append_lies _ (by rfl) _ _ _ (by rfl) (w.heap.size + 1 + 1 + 1 + 1) 127 i0 (.agg #[.string ByteArray.empty, .string ByteArray.empty]) 2 32 Tryz.underlying31 HI.out.1 HI.out.2.1 HI.out.2.2.1 HI.out.2.2.2 rfl (by omega) (.slice (some ⟨g7, 0, none⟩) (out ++ [(key, val)]).length cap7) (out ++ [(key, val)]).length _ (by rfl) (owns_below HXd.out.own ((Below.refl _ _).drew.alloc (Nat.le_refl _) _)) ⟨wd.heap.size, 0, none⟩ 1 1 [.string s0, .string s1] (by rfl) rfl (World.news_of_block (heap_alloc_new wd.drew _)) (onePr _ _) (by omega) (by unfold maxLen; (try simp) <;> omega) (by (try simp) <;> omega) (by (try simp) <;> omega) (wd.heap.size + 1) (by simp) ?_
            intro g9 cap9 w9 hown9 hgrow9 hat9 hlt9
            have hpu := OutX.push (x := (s0, s1)) HXd.out hown9 (undrewA hgrow9)
            have q9 := hpu.1.cell 0 _ rfl
            have r9 := hpu.1.froz 0 (by simp)
            have l9 := hpu.1.lt
            have HP9 := hid hpu
            have hb9 : Below (w.heap.size + 1 + 1 + 1) wd w9 := below_of_grown ⟨hgrow9.os, hgrow9.tape, hgrow9.output, Nat.le_trans (by simp) hgrow9.size, fun k hk hne => (hgrow9.block k (by simp; omega) hne).trans (((Below.refl wd.heap.size wd).drew.alloc (Nat.le_refl _) _).block k hk)⟩ (Nat.le_of_lt ld) (fun k hk => by have := (HXd.out.own.lt k hk).1; omega)
            clear hown9 hgrow9 hat9 hpu
            refine hK.out _ _ (HCSd.out _ hb9) (fun hHd7 => ?_)
            clear hK K
            try simp only [Act.put, List.getElem_toArray, List.getElem_cons_zero, List.getElem_cons_succ, List.setIfInBounds_toArray, List.set_cons_zero, List.set_cons_succ]
            refine wpAnyH_take (i := 9) (v := .pointer (some ⟨w.heap.size + 1 + 1 + 1, 0, none⟩)) rfl (by kernel_rfl) (by kernel_rfl) (by kernel_rfl) (fun _ _ _ h => h) (Or.inl ⟨by rfl, fun w hw => by obtain ⟨z0, z1, z2, z3, z4⟩ := hw; go_simp⟩) hHd7 ?_
            simp only [Act.put, List.getElem_toArray, List.getElem_cons_zero, List.getElem_cons_succ, List.setIfInBounds_toArray, List.set_cons_zero, List.set_cons_succ]
            refine wpAnyH_ready (rs := [10]) (by kernel_rfl) (by simp) ?_
            refine AllReadyH.cons rfl (fun K hK => ?_) AllReadyH.nil
            go_simp
            refine hK.out _ _ (HCSd.out _ (hb9.setCell (p := ⟨w.heap.size + 1 + 1 + 1, 0, none⟩) (Nat.le_refl _) _)) (fun hHd8 => ?_)
            clear hK K
            try simp only [Act.put, List.getElem_toArray, List.getElem_cons_zero, List.getElem_cons_succ, List.setIfInBounds_toArray, List.set_cons_zero, List.set_cons_succ]
            refine wpAnyH_done (by kernel_rfl) ?_ _
            go_wp2
            have he := HE.out
            refine ⟨⟨k + 1, by omega, by go_num, by rw [HSTEP.out]; simp [stepC, he, HDK.out, klt_self], .slice (some ⟨g9, 0, none⟩) ((out ++ [(key, val)]).length + 1) cap9, ?_⟩, by simp [intOf]; omega⟩
            have hfe : (chW (key, val, gone) (rs.take (k + 1))).2 = (out ++ [(key, val)]) ++ [(s0, s1)] := by rw [HSTEP.out]; simp [stepC, he, HDK.out, klt_self]
            rw [hfe]
            simpa only [List.length_append, List.length_singleton] using HP9.out.2.1
    · have hkl : k = rs.length := by omega
      subst hkl
      rw [List.take_length] at hst
      have q2 := hR2.cell 0 _ rfl
      have r2 := hR2.froz 0 (by simp)
      have l2 := hR2.lt
      clear hR0 hR1 hR2
      cases d with
      | true =>
        have hF : chF (key, val, gone) rs = out := by unfold chF; rw [hst]; rfl
        have HF := hid hF
        clear hst hF
        go_wp2_with fail
        rw [HF.out]
        refine bodyPost_ret (v := stV va out.length vc) (by simp [results, Tryz.results79, go_sem, stV, q2]) rfl (cp_of HX.out ?_ ?_ HBB.out (by omega))
        · exact ((Below.refl _ _).setCell (p := ⟨w.heap.size + 1 + 1, 0, none⟩) (by show w.heap.size ≤ w.heap.size + 1 + 1; omega) _)
        · exact fun k hk => Below.heap_setCell _ _ _ k (by show _ ≠ w.heap.size + 1 + 1; omega)
      | false =>
        have hF : chF (key, val, gone) rs = out ++ [(key, val)] := by unfold chF; rw [hst]; rfl
        have HF := hid hF
        clear hst hF
        go_wp2_with (at_builtin; refine wpList_append_lies _ rfl _ _ 31 rfl (w.heap.size + 1 + 1 + 1 + 1) 127 i0 (.agg #[.string ByteArray.empty, .string ByteArray.empty]) 2 32 Tryz.underlying31 HI.out.1 HI.out.2.1 HI.out.2.2.1 HI.out.2.2.2 rfl (by omega) _ out.length _ rfl (HX.out.own.alloc _) ⟨wr.heap.size, 0, none⟩ 1 1 [.string key, .string val] rfl rfl (World.news_of_block (heap_alloc_new wr _)) (onePr _ _) (by omega) (by unfold maxLen; omega) (by omega) (by simp; omega) (wr.heap.size + 1) (by simp) ?_; intro g7 cap7 w7 hown7 hgrow7 hat7 hlt7; have hpu := OutX.push (x := (key, val)) HX.out hown7 hgrow7; have q7 := hpu.1.cell 0 _ rfl; have r7 := hpu.1.froz 0 (by simp); have l7 := hpu.1.lt; have q72 := (HRW.out _ hpu.2.2).2.2.cell 0 _ rfl; have r72 := (HRW.out _ hpu.2.2).2.2.froz 0 (by simp); have HPU := hid hpu; clear hown7 hgrow7 hat7 hpu)
        have q72 : w7.cell? ⟨w.heap.size + 1 + 1, 0, none⟩ = some (.slice none 0 0) := (HRW.out _ HPU.out.2.2).2.2.cell 0 _ rfl
        rw [HF.out]
        have e8 : Value.slice (some ⟨g7, 0, none⟩) (out.length + 1) cap7 = .slice (some ⟨g7, 0, none⟩) (out ++ [(key, val)]).length cap7 := by rw [List.length_append]; rfl
        have hx8 := HPU.out.2.1
        rw [e8] at hx8
        refine bodyPost_ret (v := stV (some ⟨g7, 0, none⟩) (out ++ [(key, val)]).length cap7) (by simp [results, Tryz.results79, go_sem, stV, q72]) rfl (cp_of hx8 ?_ ?_ HBB.out (by omega))
        · rw [← e8]; exact ((Below.refl _ _).setCell (p := ⟨w.heap.size + 1 + 1, 0, none⟩) (by show w.heap.size ≤ w.heap.size + 1 + 1; omega) _)
        · rw [← e8]; exact fun k hk => Below.heap_setCell _ _ _ k (by show _ ≠ w.heap.size + 1 + 1; omega)
end Go.Proofs.YtnmaknnnmjfhkafGreat

namespace Go.Proofs.YtnmaknnnmjfhkafGreat
open Go.RowKit
set_option linter.unusedVariables false
set_option linter.unusedSimpArgs false
set_option maxRecDepth 8000

/-- What Apply gives, in memory of its own. -/
def ApPost (w w' : World) (e : Ending) (rs : List Pr) (code : Int) : Prop := ∃ a c, e = .returned (.tuple #[stV a rs.length c, .int .i64 code]) ∧ rs.length ≤ c ∧ OwnS w' a (prcells rs) ∧ (∀ g, blk a rs.length = some g → w.heap.size ≤ g) ∧ Below w.heap.size w w'
theorem ap_no {w w' : World} {e : Ending} {a : Option Addr} {c : Nat} {code : Int} (he : e = .returned (.tuple #[stV a 0 c, .int .i64 code])) (hb : Below w.heap.size w w') : ApPost w w' e [] code := ⟨a, c, he, Nat.zero_le _, .inl rfl, fun g h => (by cases h), hb⟩
theorem OwnS.setA {w : World} {a : Option Addr} {cs : List Value} (h : OwnS w a cs) (p : Addr) (hp : ∀ g, a = some ⟨g, 0, none⟩ → cs ≠ [] → p.block ≠ g) (v : Value) : OwnS (w.setCell p v) a cs := by
  by_cases h0 : cs = []
  · exact .inl h0
  · obtain ⟨g, rfl, hr⟩ := h.resolve_left h0
    exact .inr ⟨g, rfl, hr.other p (hp g rfl h0) v⟩
theorem OwnS.prsA {w : World} {a : Option Addr} {rs : List Pr} (h : OwnS w a (prcells rs)) : Prs w a rs := by
  rcases h with h | ⟨g, rfl, h⟩
  · exact .inl (by have := congrArg List.length h; rw [prcells_length, List.length_nil] at this; exact List.eq_nil_of_length_eq_zero (by omega))
  · exact h.prs
theorem prcells_neA {rs : List Pr} (h : prcells rs ≠ []) : rs.length ≠ 0 := fun e => h (by rw [List.eq_nil_of_length_eq_zero e]; rfl)
set_option maxHeartbeats 8000000 in
theorem apply_s (a : Option Addr) (rs : List Pr) (c : Nat) (a2 : Option Addr) (b : List Ch) (c2 : Nat) (w : World) (h : Prs w a rs) (hl : rs.length ≤ 1048576) (hs : ∀ x ∈ rs, x.1.size ≤ 1048576 ∧ x.2.size ≤ 1048576) (h2 : Chs w a2 b) (hl2 : b.length ≤ 1048576) (hs2 : ∀ x ∈ b, x.1.size ≤ 1048576 ∧ x.2.1.size ≤ 1048576) :
    Calls Tryz.prog 37 #[stV a rs.length c, .slice a2 b.length c2] w fun e w' => ApPost w w' e (apR rs b) (apC rs b) := by
  have hb0 : ∀ o1 o2, Below w.heap.size w ((w.alloc o1).alloc o2) := fun o1 o2 => ((Below.refl _ _).alloc (Nat.le_refl _) _).alloc (by simp) _
  have HVS := hid (fun w' h' => vstate_s a rs c w' h' hl hs)
  have HVB := hid (fun w' h' => vbatch_s a2 b c2 w' h' hl2 hs2)
  unfold stV
  unfold apR apC
  cases hok : stateOk rs with
  | false =>
    rw [hok] at HVS
    simp only [Bool.false_and, Bool.false_eq_true, if_false]
    rw [if_neg (by omega)]
    go_enter Tryz.func37, Tryz.ntmps37
    go_wp2_with (go_at_call 58; refine (HVS.out _ (h.below (hb0 _ _))).mono ?_; rintro e w3 ⟨rfl, hb3⟩; have q1 : w3.cell? ⟨w.heap.size + 1, 0, none⟩ = some (.slice none 0 0) := (hb3.cell (p := ⟨w.heap.size + 1, 0, none⟩) (by simp)).trans (by go_simp); have f1 : w3.frozen? ⟨w.heap.size + 1, 0, none⟩ = false := (hb3.frozen (p := ⟨w.heap.size + 1, 0, none⟩) (by simp)).trans (by go_simp); have l1 : w.heap.size + 1 < w3.heap.size := Nat.lt_of_lt_of_le (by simp) hb3.size)
    refine bodyPost_ret (v := .tuple #[stV none 0 0, .int .i64 1]) (by simp [results, Tryz.results37, go_sem, stV, q1]) rfl (ap_no rfl ?_)
    exact ((hb0 _ _).trans (hb3.mono (by simp; omega))).setCell (p := ⟨w.heap.size + 1, 0, none⟩) (by show w.heap.size ≤ w.heap.size + 1; omega) _
  | true =>
    rw [hok] at HVS
    simp only [Bool.true_and]
    cases hokb : batchOk b with
    | false =>
      rw [hokb] at HVB
      simp only [Bool.false_eq_true, if_false]
      rw [if_neg (by omega)]
      go_enter Tryz.func37, Tryz.ntmps37
      go_wp2_with (first | (go_at_call 58; refine (HVS.out _ (h.below (hb0 _ _))).mono ?_; rintro e w3 ⟨rfl, hb3⟩; have HB3 := hid hb3; clear hb3) | (go_at_call 36; refine (HVB.out _ (h2.below ((hb0 _ _).trans (HB3.out.mono (by simp; omega))))).mono ?_; rintro e w4 ⟨rfl, hb4⟩; have hb3 := HB3.out; have hb34 := hb3.trans (hb4.mono hb3.size); have q1 : w4.cell? ⟨w.heap.size + 1, 0, none⟩ = some (.slice none 0 0) := (hb34.cell (p := ⟨w.heap.size + 1, 0, none⟩) (by simp)).trans (by go_simp); have f1 : w4.frozen? ⟨w.heap.size + 1, 0, none⟩ = false := (hb34.frozen (p := ⟨w.heap.size + 1, 0, none⟩) (by simp)).trans (by go_simp); have l1 : w.heap.size + 1 < w4.heap.size := Nat.lt_of_lt_of_le (by simp) hb34.size))
      refine bodyPost_ret (v := .tuple #[stV none 0 0, .int .i64 1]) (by simp [results, Tryz.results37, go_sem, stV, q1]) rfl (ap_no rfl ?_)
      exact ((hb0 _ _).trans (hb34.mono (by simp; omega))).setCell (p := ⟨w.heap.size + 1, 0, none⟩) (by show w.heap.size ≤ w.heap.size + 1; omega) _
    | true =>
      rw [hokb] at HVB
      simp only [if_true]
      have hle : rs.length ≤ 100 := (stateOk_of hok).1
      have hle2 : b.length ≤ 20 := (batchOk_of hokb).1.2
      have HCP := hid (fun w' h' => copy_st_s a rs c w' h' hl)
      unfold CpPost stV at HCP
      have HLN := hid (apU_len rs b)
      go_enter Tryz.func37, Tryz.ntmps37
      go_wp2_with (first | (go_at_call 58; refine (HVS.out _ (h.below (hb0 _ _))).mono ?_; rintro e w3 ⟨rfl, hb3⟩; have HB3 := hid hb3; clear hb3) | (go_at_call 36; refine (HVB.out _ (h2.below ((hb0 _ _).trans (HB3.out.mono (by simp; omega))))).mono ?_; rintro e w4 ⟨rfl, hb4⟩; have HB4 := hid (HB3.out.trans (hb4.mono HB3.out.size)); clear hb4; have q0 : w4.cell? ⟨w.heap.size, 0, none⟩ = some (.slice a rs.length c) := (HB4.out.cell (p := ⟨w.heap.size, 0, none⟩) (by simp; omega)).trans (by go_simp)) | (go_at_call 62; refine (HCP.out _ (h.below ((hb0 _ _).trans (HB4.out.mono (by simp; omega))))).mono ?_; rintro e w5 ⟨a5, c5, rfl, hc5, ho5, hg5, hb5⟩; have HB5 := hid (HB4.out.trans (hb5.mono HB4.out.size)); have HO5 := hid ho5; have hc5' := hc5; have HG5 := hid hg5; have HW45 := hid hb5.size; clear ho5 hg5 hb5))

      have hs4 : w.heap.size + 1 < w4.heap.size := by have := HB4.out.size; simp at this; omega
      have hs5 : w4.heap.size ≤ w5.heap.size := HW45.out
      have HBW : Hid (Below w.heap.size w w5) := (hb0 _ _).trans (HB5.out.mono (by simp; omega))
      have HQ1 : Hid (∀ w', Below w5.heap.size w5 w' → Row w' (w.heap.size + 1) [.slice none 0 0]) := fun w' hb => ((row_atA (w := w.alloc (.cells #[.slice a rs.length c] 33)) (A := #[.slice none 0 0]) (t := 33) (g := w.heap.size + 1) (by simp)).below HB5.out).below hb
      go_loopw [7] (fun i wr => ∃ k : Nat, k ≤ b.length ∧ i = .int .i64 (k : Int) ∧ ∃ va vc, Row wr w5.heap.size [.slice va (apU rs (b.take k)).length vc] ∧ (apU rs (b.take k)).length ≤ vc ∧ OwnS wr va (prcells (apU rs (b.take k))) ∧ (∀ g, blk va (apU rs (b.take k)).length = some g → w.heap.size + 1 < g ∧ g ≠ w5.heap.size) ∧ Below w5.heap.size w5 wr) (fun i _ => b.length - (intOf i).toNat)
      case atStart => exact ⟨0, Nat.zero_le _, rfl, a5, c5, row_new w5 _ _, hc5', HO5.out.below ((Below.refl _ _).alloc (Nat.le_refl _) _), fun g hg => by have h1 := HG5.out g hg; have h2 := HO5.out.lt rs.length (fun h e => h (by have := congrArg List.length e; rw [prcells_length, List.length_nil] at this; omega)) g hg; omega, (Below.refl _ _).alloc (Nat.le_refl _) _⟩
      case round =>
        obtain ⟨k, hk, rfl, va, vc, hrw, hcv, how, hbk, hbl⟩ := hrel
        have hN := HLN.out k
        have hq6 := hrw.cell 0 _ rfl
        have hf6 := hrw.froz 0 (by simp)
        have hl6 := hrw.lt
        have hsr := hbl.size
        have HRW := hid hrw
        have HOW := hid how
        have HBK := hid hbk
        have HBL := hid hbl
        clear hrw how hbk hbl
        by_cases hlt : k < b.length
        · obtain ⟨bb, oo, s0, s1, g0, rfl, hc0, hc1, hc2, HS⟩ := (h2.below (HBW.out.trans (HBL.out.mono HBW.out.size))).at hlt
          have hlbb : bb < w.heap.size := by
            rcases h2 with h | ⟨b', o', h1, h2, _⟩
            · subst h; simp at hlt
            · cases h1; exact h2
          have hlt' : (k : Int) < (b.length : Int) := by omega
          have hk0 : (0 : Int) ≤ (k : Int) := by omega
          have hst : apU rs (b.take (k + 1)) = chF (s0, s1, g0) (apU rs (b.take k)) := by rw [takeA_snoc b k (ByteArray.empty, ByteArray.empty, false) hlt, apU_snoc, ← HS.out]
          have HST := hid hst
          have HCH := hid (fun W (hW : Prs W va (apU rs (b.take k))) => change_s va (apU rs (b.take k)) vc s0 s1 g0 W hW (by omega))
          obtain ⟨cur, hcur⟩ : ∃ cur, cur = apU rs (b.take k) := ⟨_, rfl⟩
          rw [← hcur] at HST HCH HRW HOW HBK hq6 hN hcv
          clear hst hcur HS
          unfold stV CpPost at HCH
          have HT : Hid (∀ w', Below w.heap.size wr w' → w'.cell? ⟨bb, oo + k * 3, none⟩ = some (.string s0) ∧ w'.cell? ⟨bb, oo + k * 3 + 1, none⟩ = some (.string s1) ∧ w'.cell? ⟨bb, oo + k * 3 + 2, none⟩ = some (.bool g0)) := fun w' hb => ⟨(hb.cell (p := ⟨bb, oo + k * 3, none⟩) hlbb).trans hc0, (hb.cell (p := ⟨bb, oo + k * 3 + 1, none⟩) hlbb).trans hc1, (hb.cell (p := ⟨bb, oo + k * 3 + 2, none⟩) hlbb).trans hc2⟩
          have hww : w.heap.size ≤ wr.heap.size := by omega
          go_wp2_with fail
          refine wp_region_held_drew (S := fun w' => w'.cell? ⟨bb, oo + k * 3, none⟩ = some (.string s0) ∧ w'.cell? ⟨bb, oo + k * 3 + 1, none⟩ = some (.string s1) ∧ w'.cell? ⟨bb, oo + k * 3 + 2, none⟩ = some (.bool g0)) (by kernel_rfl) (HT.out _ (Below.refl _ _).drew) (fun hHeld => ?_)
          refine wpAnyH_take (i := 1) (v := .slice (some ⟨bb, oo, none⟩) b.length c2) rfl (by kernel_rfl) (by kernel_rfl) (by kernel_rfl) (fun _ _ _ h => h) (Or.inl ⟨by rfl, fun w hw => by obtain ⟨z0, z1, z2⟩ := hw; go_simp⟩) hHeld ?_
          simp only [Act.put, List.getElem_toArray, List.getElem_cons_zero, List.getElem_cons_succ, List.setIfInBounds_toArray, List.set_cons_zero, List.set_cons_succ]
          refine wpAnyH_take (i := 2) (v := .int .i64 (k : Int)) rfl (by kernel_rfl) (by kernel_rfl) (by kernel_rfl) (fun _ _ _ h => h) (Or.inl ⟨by rfl, fun w hw => by obtain ⟨z0, z1, z2⟩ := hw; go_simp⟩) hHeld ?_
          simp only [Act.put, List.getElem_toArray, List.getElem_cons_zero, List.getElem_cons_succ, List.setIfInBounds_toArray, List.set_cons_zero, List.set_cons_succ]
          refine wpAnyH_take (i := 3) (v := .pointer (some ⟨bb, oo + k * 3, none⟩)) rfl (by kernel_rfl) (by kernel_rfl) (by kernel_rfl) (fun _ _ _ h => h) (Or.inl ⟨by rfl, fun w hw => by obtain ⟨z0, z1, z2⟩ := hw; go_simp⟩) hHeld ?_
          simp only [Act.put, List.getElem_toArray, List.getElem_cons_zero, List.getElem_cons_succ, List.setIfInBounds_toArray, List.set_cons_zero, List.set_cons_succ]
          refine wpAnyH_take (i := 4) (v := .agg #[.string s0, .string s1, .bool g0]) rfl (by kernel_rfl) (by kernel_rfl) (by kernel_rfl) (fun _ _ _ h => h) (Or.inl ⟨by rfl, fun w hw => by obtain ⟨z0, z1, z2⟩ := hw; go_simp⟩) hHeld ?_
          simp only [Act.put, List.getElem_toArray, List.getElem_cons_zero, List.getElem_cons_succ, List.setIfInBounds_toArray, List.set_cons_zero, List.set_cons_succ]
          refine wpAnyH_ready (rs := [0]) (by kernel_rfl) (by simp) ?_
          refine AllReadyH.cons rfl (fun K hK => ?_) AllReadyH.nil
          go_simp
          refine hK.out _ _ hHeld (fun _ => ?_)
          clear hK K
          try simp only [Act.put, List.getElem_toArray, List.getElem_cons_zero, List.getElem_cons_succ, List.setIfInBounds_toArray, List.set_cons_zero, List.set_cons_succ]
          refine wpAnyH_ready (rs := [5]) (by kernel_rfl) (by simp) ?_
          refine AllReadyH.cons rfl (fun K hK => ?_) AllReadyH.nil
          refine step_call (by rfl) 79 #[.agg #[.slice va cur.length vc], .agg #[.string s0, .string s1, .bool g0]] (by go_simp) (HCH.out _ ((HOW.out.below (Below.refl _ _).drew).prsA)) ?_
          rintro e w7 ⟨a7, c7, rfl, hc7, ho7, hg7, hb7⟩
          refine ⟨_, rfl, ?_⟩
          have hb7' : Below wr.heap.size wr w7 := (Below.refl _ _).drew.trans hb7
          have hr7 := HRW.out.below hb7'
          have q7 := hr7.cell 0 _ rfl
          have f7 := hr7.froz 0 (by simp)
          have l7 := hr7.lt
          refine hK.out _ _ (HT.out _ (hb7'.mono hww)) (fun hHd2 => ?_)
          clear hK K
          try simp only [Act.put, List.getElem_toArray, List.getElem_cons_zero, List.getElem_cons_succ, List.setIfInBounds_toArray, List.set_cons_zero, List.set_cons_succ]
          refine wpAnyH_ready (rs := [6]) (by kernel_rfl) (by simp) ?_
          refine AllReadyH.cons rfl (fun K hK => ?_) AllReadyH.nil
          go_simp
          refine hK.out _ _ (HT.out _ ((hb7'.mono hww).setCell (p := ⟨w5.heap.size, 0, none⟩) (by show w.heap.size ≤ w5.heap.size; omega) _)) (fun hHd3 => ?_)
          clear hK K
          try simp only [Act.put, List.getElem_toArray, List.getElem_cons_zero, List.getElem_cons_succ, List.setIfInBounds_toArray, List.set_cons_zero, List.set_cons_succ]
          refine wpAnyH_done (by kernel_rfl) ?_ _
          go_wp2
          refine ⟨⟨k + 1, by omega, by go_num, a7, c7, ?_, ?_, ?_, ?_, ?_⟩, by simp [intOf]; omega⟩
          · rw [HST.out]; exact hr7.set 0 (by simp) _
          · rw [HST.out]; exact hc7
          · rw [HST.out]; exact ho7.setA _ (fun g hg hne => by have : wr.heap.size ≤ g := hg7 g (by subst hg; exact blk_pos _ _ _ (prcells_neA hne)); show w5.heap.size ≠ g; omega) _
          · rw [HST.out]; exact fun g hg => by have : wr.heap.size ≤ g := hg7 g hg; omega
          · exact (HBL.out.trans (hb7'.mono hsr)).setCell (p := ⟨w5.heap.size, 0, none⟩) (Nat.le_refl _) _
        · have hkl : k = b.length := by omega
          subst hkl
          have hr1 := HQ1.out _ HBL.out
          have q1 := hr1.cell 0 _ rfl
          have f1 := hr1.froz 0 (by simp)
          have l1 := hr1.lt
          have hBn : w.heap.size + 1 ≠ w5.heap.size := by omega
          have hBn2 : ¬ w5.heap.size = w.heap.size + 1 := by omega
          rw [List.take_length] at hq6 hcv HRW HOW HBK
          clear hr1 hN
          by_cases h100 : (apU rs b).length ≤ 100
          · have HIF := hid h100
            have h100' : ((apU rs b).length : Int) ≤ 100 := by omega
            clear h100
            go_wp2_with fail
            refine bodyPost_ret (v := .tuple #[stV va (apU rs b).length vc, .int .i64 0]) (by simp [results, Tryz.results37, go_sem, stV, q1]) rfl ⟨va, vc, rfl, hcv, ?_, fun g hg => by have := (HBK.out g hg).1; omega, ?_⟩
            · exact HOW.out.setA _ (fun g hg hne => by have := (HBK.out g (by subst hg; exact blk_pos _ _ _ (prcells_neA hne))).1; show w.heap.size + 1 ≠ g; omega) _
            · exact (HBW.out.trans (HBL.out.mono HBW.out.size)).setCell (p := ⟨w.heap.size + 1, 0, none⟩) (by show w.heap.size ≤ w.heap.size + 1; omega) _
          · have HIF := hid h100
            have h100' : ¬ ((apU rs b).length : Int) ≤ 100 := by omega
            clear h100
            go_wp2_with fail
            refine bodyPost_ret (v := .tuple #[stV none 0 0, .int .i64 2]) (by simp [results, Tryz.results37, go_sem, stV, q1]) rfl (ap_no rfl ?_)
            exact (HBW.out.trans (HBL.out.mono HBW.out.size)).setCell (p := ⟨w.heap.size + 1, 0, none⟩) (by show w.heap.size ≤ w.heap.size + 1; omega) _
end Go.Proofs.YtnmaknnnmjfhkafGreat

namespace Go.Proofs.YtnmaknnnmjfhkafGreat
open Go.RowKit
set_option linter.unusedVariables false
set_option linter.unusedSimpArgs false
set_option maxRecDepth 4000

/-- What Commit gives. -/
def commitD (W S L T H F R U O : Int) (rs : List Pr) (b : List Ch) : Dd :=
  if (storeOk W S L T H F R U O rs && batchOk b) = true then
    if apC rs b = 0 then
      if roomOf (snapOf (apR rs b)) W ≤ hv S - 1 then
        if npages (bOut b).size W ≤ hv S - U then
          ⟨0, W, S, L, T, H, F, R, U + npages (bOut b).size W, O + npages (bOut b).size W, apR rs b, putOps (2 + H * hv S + U) (cutAll (bOut b) L (F + U) W.toNat (56 - W.toNat))⟩
        else noD 4
      else noD 3
    else noD 2
  else noD 1
theorem cutAll_len' (s : ByteArray) (l f : Int) (n m : Nat) (hm : n + m = 56) (h1 : 1 ≤ n) (h2 : n ≤ 8) (hl : 1 ≤ l ∧ l ≤ 60000) (hf : 1 ≤ f) (hN : f + npages s.size (n : Int) ≤ 1000000001) : ((cutAll s l f n m).length : Int) = npages s.size (n : Int) := by
  have e : (56 - (n : Int)).toNat = m := by omega
  unfold npages at hN ⊢
  rw [if_pos (by omega), e] at hN ⊢
  rw [cutAll_yes rfl (by omega), cutList_length]
theorem npages_tight (l : Nat) (n : Int) (h1 : 1 ≤ n) (h2 : n ≤ 8) : 0 ≤ npages l n ∧ npages l n ≤ (l : Int) / 48 + 1 := by
  unfold npages
  rw [if_pos ⟨h1, h2⟩]
  unfold nparts
  split
  · rename_i h; subst h; simp
  · have hm : 48 ≤ (56 - n).toNat := by omega
    have : (l - 1) / (56 - n).toNat ≤ l / 48 := Nat.le_trans (Nat.div_le_div_right (by omega)) (Nat.div_le_div_left hm (by omega))
    obtain ⟨z, hz⟩ : ∃ z, z = (l - 1) / (56 - n).toNat := ⟨_, rfl⟩
    rw [← hz] at this ⊢
    omega
theorem storeOk_of {W S L T H F R U O : Int} {rs : List Pr} (h : storeOk W S L T H F R U O rs = true) : (1 ≤ W ∧ W ≤ 8) ∧ (8 ≤ S ∧ S ≤ 200) ∧ (1 ≤ L ∧ L ≤ 60000) ∧ (0 ≤ T ∧ T ≤ 1000000000) ∧ (0 ≤ H ∧ H ≤ 1) ∧ (1 ≤ F ∧ F ≤ 999999000) ∧ (0 ≤ U ∧ U ≤ hv S) ∧ (0 ≤ O ∧ O ≤ U) ∧ stateOk rs = true := by
  unfold storeOk rootOk at h
  simp only [Bool.and_eq_true, decide_eq_true_eq] at h
  obtain ⟨⟨⟨⟨⟨⟨⟨h1, h2⟩, h3⟩, ⟨⟨h4, _⟩, h5⟩, h6⟩, h7⟩, h8⟩, h9⟩, _⟩ := h
  exact ⟨h1, h2, h3, h4, h5, h6, h7, h8, h9⟩
theorem apR_len (rs : List Pr) (b : List Ch) : (apR rs b).length ≤ 100 := by
  unfold apR
  by_cases hc : apC rs b = 0
  · rw [if_pos hc]
    unfold apC at hc
    by_cases h1 : (stateOk rs && batchOk b) = true
    · rw [if_pos h1] at hc
      by_cases h2 : (apU rs b).length ≤ 100
      · exact h2
      · rw [if_neg h2] at hc; omega
    · rw [if_neg h1] at hc; omega
  · rw [if_neg hc]; simp
theorem chF_mem (c : Ch) : ∀ (rs : List Pr) (k : Nat), k = rs.length → ∀ x ∈ (chW c rs).2, x ∈ rs ∨ x = (c.1, c.2.1)
  | rs, 0, hk => by rw [List.eq_nil_of_length_eq_zero hk.symm]; simp [chW]
  | rs, k + 1, hk => by
    obtain ⟨p, bs, rfl⟩ : ∃ b bs, rs = bs ++ [b] := by
      rcases List.eq_nil_or_concat rs with h | ⟨l, a, h⟩
      · subst h; simp at hk
      · exact ⟨a, l, by simpa using h⟩
    have ih := chF_mem c bs k (by simp at hk; omega)
    rw [chW_snoc]
    generalize chW c bs = st at ih ⊢
    intro x hx
    unfold stepC at hx
    have key : x ∈ st.2 ∨ x = (c.1, c.2.1) ∨ x = p := by
      split at hx
      · split at hx
        · rcases List.mem_append.1 hx with h | h
          · exact .inl h
          · exact .inr (.inl (List.mem_singleton.1 h))
        · exact .inl hx
      · split at hx
        · rcases List.mem_append.1 hx with h | h
          · rcases List.mem_append.1 h with h | h
            · exact .inl h
            · exact .inr (.inl (List.mem_singleton.1 h))
          · exact .inr (.inr (List.mem_singleton.1 h))
        · rcases List.mem_append.1 hx with h | h
          · exact .inl h
          · exact .inr (.inr (List.mem_singleton.1 h))
    rcases key with h | h | h
    · rcases ih x h with h | h
      · exact .inl (by simp [h])
      · exact .inr h
    · exact .inr h
    · exact .inl (by simp [h])
theorem apU_mem (rs : List Pr) (P : Pr → Prop) (h : ∀ x ∈ rs, P x) : ∀ (b : List Ch), (∀ c ∈ b, P (c.1, c.2.1)) → ∀ x ∈ apU rs b, P x := by
  intro b
  obtain ⟨k, hk⟩ : ∃ k, k = b.length := ⟨_, rfl⟩
  induction k generalizing b with
  | zero => intro _; rw [List.eq_nil_of_length_eq_zero hk.symm]; exact h
  | succ k ih =>
    intro hb
    obtain ⟨c, bs, rfl⟩ : ∃ c bs, b = bs ++ [c] := by
      rcases List.eq_nil_or_concat b with h | ⟨l, a, h⟩
      · subst h; simp at hk
      · exact ⟨a, l, by simpa using h⟩
    have i := ih bs (by simp at hk; omega) (fun c hc => hb c (by simp [hc]))
    rw [apU_snoc]
    intro x hx
    unfold chF at hx
    split at hx
    · rcases chF_mem c _ _ rfl x hx with h1 | h1
      · exact i x h1
      · rw [h1]; exact hb c (by simp)
    · rw [List.mem_append] at hx
      rcases hx with hx | hx
      · rcases chF_mem c _ _ rfl x hx with h1 | h1
        · exact i x h1
        · rw [h1]; exact hb c (by simp)
      · simp at hx; rw [hx]; exact hb c (by simp)
theorem apR_mem (rs : List Pr) (b : List Ch) (P : Pr → Prop) (h : ∀ x ∈ rs, P x) (hb : ∀ c ∈ b, P (c.1, c.2.1)) : ∀ x ∈ apR rs b, P x := by
  unfold apR
  split
  · exact apU_mem rs P h b hb
  · simp
theorem commitD_bound (W S L T H F R U O : Int) (rs : List Pr) (b : List Ch) : (commitD W S L T H F R U O rs b).rs.length ≤ 1048576 ∧ (commitD W S L T H F R U O rs b).ops.length ≤ 1000 := by
  unfold commitD
  split
  · rename_i h0
    rw [Bool.and_eq_true] at h0
    obtain ⟨h1, h2, h3, h4, h5, h6, h7, h8, h9⟩ := storeOk_of h0.1
    have hq := hv_yes h2
    split
    · split
      · split
        · rename_i hp
          refine ⟨by have := apR_len rs b; simp; omega, ?_⟩
          simp only [putOps_length]
          have := cutAll_len (bOut b) L (F + U) W.toNat (56 - W.toNat) (by omega) (by omega) (by omega)
          rw [show ((W.toNat : Nat) : Int) = W by omega] at this
          omega
        · simp [noD]
      · simp [noD]
    · simp [noD]
  · simp [noD]
end Go.Proofs.YtnmaknnnmjfhkafGreat

namespace Go.Proofs.YtnmaknnnmjfhkafGreat
open Go.RowKit
set_option maxRecDepth 8000
set_option linter.unusedVariables false
set_option linter.unusedSimpArgs false

theorem info_opW : (Tryz.prog.info? 75).map (fun i => (i.zero, i.size, i.bytes)) = some (some (.agg #[.bool false, .int .i64 0, .string ByteArray.empty]), 3, 32) := by kernel_rfl
/-- A writer: its ops are its own. -/
structure Wrt (w : World) (base g : Nat) (v : Value) (os : List OpT) (at_ nm lf wd : Int) : Prop where
  row : Row w g [v, .int .i64 at_, .int .i64 nm, .int .i64 lf, .int .i64 wd]
  own : w.ownsRow base 75 3 v os.length (opcells os)
  ge : base ≤ g
  ne : v.ownBlock ≠ some g
theorem Wrt.below {w w' : World} {base g : Nat} {v : Value} {os : List OpT} {at_ nm lf wd : Int} (h : Wrt w base g v os at_ nm lf wd) (hb : Below w.heap.size w w') : Wrt w' base g v os at_ nm lf wd := ⟨h.row.below hb, owns_below h.own hb, h.ge, h.ne⟩
theorem oneOp (b : Bool) (n : Int) (s : ByteArray) : ∀ u ∈ [Value.bool b, .int .i64 n, .string s], u.oneCell' = true := by
  intro u hu
  simp only [List.mem_cons, List.not_mem_nil, or_false] at hu
  rcases hu with rfl | rfl | rfl <;> rfl
theorem half_start (n h : Int) (h0 : 0 ≤ h) (h1 : h ≤ 1) (w : World) : Calls Tryz.prog 90 #[.int .i64 n, .int .i64 h] w fun e w' => e = .returned (.int .i64 (2 + h * hv n)) ∧ w' = w := by
  have hQ : 0 ≤ hv n ∧ hv n ≤ 99 := by by_cases h : 8 ≤ n ∧ n ≤ 200; have := hv_yes h; omega; rw [hv_no h]; omega
  obtain ⟨Q, HQ⟩ : ∃ Q, Hid (Q = hv n) := ⟨_, hid rfl⟩
  rw [← HQ.out] at hQ ⊢
  obtain ⟨q, hq⟩ : ∃ q, q = h * Q := ⟨_, rfl⟩
  have hqb : 0 ≤ q ∧ q ≤ 99 := by
    rcases (show h = 0 ∨ h = 1 by omega) with e | e
    · subst e; omega
    · subst e; omega
  have hw1 : IntKind.i64.wrap (h * Q) = q := by rw [← hq]; simp [IntKind.wrap, IntKind.bits, IntKind.signed]; omega
  have hw2 : IntKind.i64.wrap (2 + q) = 2 + q := by simp [IntKind.wrap, IntKind.bits, IntKind.signed]; omega
  rw [← hq]
  clear hq
  go_enter Tryz.func90, Tryz.ntmps90
  go_wp2_with (go_at_call 67; refine (halves_i _ _).mono ?_; rw [← HQ.out]; rintro e wz ⟨rfl, hwz⟩; rw [hwz]; clear hwz wz)
  go_ret
  exact ⟨rfl, rfl⟩

set_option maxHeartbeats 4000000 in
theorem writer_of (W S L T H F R U O : Int) (a : Option Addr) (n c : Nat) (w : World) (h0 : 0 ≤ H) (h1 : H ≤ 1) (f0 : 1 ≤ F) (f1 : F ≤ 999999000) (u0 : 0 ≤ U) (u1 : U ≤ 99) :
    Calls Tryz.prog 51 #[storeV W S L T H F R U O a n c] w fun e w' => ∃ g, e = .returned (.pointer (some ⟨g, 0, none⟩)) ∧ Wrt w' w.heap.size g (.slice none 0 0) [] (2 + H * hv S + U) (F + U) L W ∧ Below w.heap.size w w' := by
  have hQ : 0 ≤ hv S ∧ hv S ≤ 99 := by by_cases h : 8 ≤ S ∧ S ≤ 200; have := hv_yes h; omega; rw [hv_no h]; omega
  obtain ⟨q, hq⟩ : ∃ q, q = H * hv S := ⟨_, rfl⟩
  have hqb : 0 ≤ q ∧ q ≤ 99 := by
    rcases (show H = 0 ∨ H = 1 by omega) with e | e
    · subst e; omega
    · subst e; omega
  have HH := hid (fun w' => half_start S H h0 h1 w')
  rw [← hq] at HH ⊢
  clear hq
  have hw1 : IntKind.i64.wrap (2 + q + U) = 2 + q + U := by simp [IntKind.wrap, IntKind.bits, IntKind.signed]; omega
  have hw2 : IntKind.i64.wrap (F + U) = F + U := by simp [IntKind.wrap, IntKind.bits, IntKind.signed]; omega
  unfold storeV
  obtain ⟨wb, HWB⟩ : ∃ wb, wb = w.alloc (.cells #[.int .i64 W, .int .i64 S, .int .i64 L, .int .i64 T, .int .i64 H, .int .i64 F, .int .i64 R, .int .i64 U, .int .i64 O, .slice a n c] 35) := ⟨_, rfl⟩
  have HT : Hid (∀ w', Below wb.heap.size wb w' → w'.cell? ⟨w.heap.size, 0, none⟩ = some (.int .i64 W) ∧ w'.cell? ⟨w.heap.size, 1, none⟩ = some (.int .i64 S) ∧ w'.cell? ⟨w.heap.size, 2, none⟩ = some (.int .i64 L) ∧ w'.cell? ⟨w.heap.size, 4, none⟩ = some (.int .i64 H) ∧ w'.cell? ⟨w.heap.size, 5, none⟩ = some (.int .i64 F) ∧ w'.cell? ⟨w.heap.size, 7, none⟩ = some (.int .i64 U)) := fun w' hb => by
    have hsz : w.heap.size < wb.heap.size := by rw [HWB]; simp
    refine ⟨(hb.cell (p := ⟨w.heap.size, 0, none⟩) hsz).trans ?_, (hb.cell (p := ⟨w.heap.size, 1, none⟩) hsz).trans ?_, (hb.cell (p := ⟨w.heap.size, 2, none⟩) hsz).trans ?_, (hb.cell (p := ⟨w.heap.size, 4, none⟩) hsz).trans ?_, (hb.cell (p := ⟨w.heap.size, 5, none⟩) hsz).trans ?_, (hb.cell (p := ⟨w.heap.size, 7, none⟩) hsz).trans ?_⟩ <;> (rw [HWB]; go_simp)
  have HBB : Hid (Below w.heap.size w wb) := by show Below _ _ _; rw [HWB]; exact (Below.refl _ _).alloc (Nat.le_refl _) _
  go_enter Tryz.func51, Tryz.ntmps51
  go_wp2_with fail
  rw [← HWB]
  clear HWB
  go_region_held3 (fun w' => w'.cell? ⟨w.heap.size, 0, none⟩ = some (.int .i64 W) ∧ w'.cell? ⟨w.heap.size, 1, none⟩ = some (.int .i64 S) ∧ w'.cell? ⟨w.heap.size, 2, none⟩ = some (.int .i64 L) ∧ w'.cell? ⟨w.heap.size, 4, none⟩ = some (.int .i64 H) ∧ w'.cell? ⟨w.heap.size, 5, none⟩ = some (.int .i64 F) ∧ w'.cell? ⟨w.heap.size, 7, none⟩ = some (.int .i64 U))
    (first | assumption | exact HT.out _ ((Below.refl _ _).drew) | exact HT.out _ ((Below.refl _ _).drew.alloc (Nat.le_refl _) _))
    (first | (go_at_call 90; refine (HH.out _).mono ?_; rintro e wz ⟨rfl, rfl⟩))
  all_goals
    go_wp2
    go_ret
    refine ⟨wb.heap.size, rfl, ⟨row_at (w := wb.drew) rfl, World.ownsRow_nil _ _ _ _, HBB.out.size, by simp [Value.ownBlock]⟩, HBB.out.trans (((Below.refl _ _).drew.alloc (Nat.le_refl _) _).mono HBB.out.size)⟩

set_option maxHeartbeats 4000000 in
theorem sync_i (base g : Nat) (v : Value) (os : List OpT) (at_ nm lf wd : Int) (w : World) (h : Wrt w base g v os at_ nm lf wd) (hb : base ≤ w.heap.size) (hl : os.length ≤ 1000) :
    Calls Tryz.prog 72 #[.pointer (some ⟨g, 0, none⟩)] w fun e w' => (∃ x, e = .returned x) ∧ (∃ v', Wrt w' base g v' (os ++ [(true, 0, ByteArray.empty)]) at_ nm lf wd) ∧ Below base w w' := by
  obtain ⟨i0, hi0, hz0, hz1, hz2⟩ := info_partsP info_opW
  have HI := hid (And.intro hi0 (And.intro hz0 (And.intro hz1 hz2)))
  clear hi0 hz0 hz1 hz2
  obtain ⟨va, vc, rfl⟩ : ∃ va vc, v = Value.slice va os.length vc := by
    rcases owns_forms h.own with ⟨e1, e2⟩ | ⟨g, cap, e1, _⟩
    · exact ⟨none, 0, by rw [e1, e2]⟩
    · exact ⟨_, cap, e1⟩
  have q0 := h.row.cell 0 _ rfl
  have r0 := h.row.froz 0 (by simp)
  have lg := h.row.lt
  have HOA := hid (h.own.alloc (.cells #[.bool true, .int .i64 0, .string ⟨#[]⟩] 75))
  go_enter Tryz.func72, Tryz.ntmps72
  go_wp2_with (at_builtin; refine wpList_append_lies _ rfl _ _ 36 rfl base 75 i0 (.agg #[.bool false, .int .i64 0, .string ByteArray.empty]) 3 32 Tryz.underlying36 HI.out.1 HI.out.2.1 HI.out.2.2.1 HI.out.2.2.2 rfl (by omega) _ os.length _ rfl HOA.out ⟨w.heap.size, 0, none⟩ 1 1 [.bool true, .int .i64 0, .string ⟨#[]⟩] rfl rfl (World.news_of_block (heap_alloc_new w _)) (oneOp _ _ _) (by omega) (by unfold maxLen; omega) (by omega) (by simp; omega) (w.heap.size + 1) (by simp) ?_; intro g9 cap9 w9 hown9 hgrow9 hat9 hlt9; have HR9 := hid ((h.row.alloc _).grown hgrow9 (fun e => h.ne e.symm)); have q9 := HR9.out.cell 0 _ rfl; have r9 := HR9.out.froz 0 (by simp); have HO9 := hid hown9; have HB9 := hid (below_grownS ((Below.refl base w).alloc hb _) HOA.out hgrow9 (by simp; omega)); have hne9 : g9 ≠ g := (by rcases hat9 with e | e; exact fun e2 => h.ne (by rw [← e2]; exact e); omega); have HN9 := hid hne9; clear hown9 hgrow9 hat9 hne9)
  go_end0
  have hrow := HR9.out.set 0 (by simp) (.slice (some ⟨g9, 0, none⟩) (os.length + 1) cap9)
  refine ⟨⟨_, rfl⟩, ⟨.slice (some ⟨g9, 0, none⟩) (os.length + 1) cap9, hrow, ?_, h.ge, by simp [Value.ownBlock]; exact HN9.out⟩, HB9.out.setCell (p := ⟨g, 0, none⟩) h.ge _⟩
  have hgs : w9.grownBy (w9.setCell ⟨g, 0, none⟩ (.slice (some ⟨g9, 0, none⟩) (os.length + 1) cap9)) (some g) := ⟨rfl, rfl, rfl, by simp [World.setCell], fun k _ hk => Below.heap_setCell _ _ _ k (fun e => hk (by rw [e]))⟩
  have := HO9.out.kept hgs (.inr (by simp [Value.ownBlock]; exact HN9.out))
  rw [List.length_append, opcells_append]
  exact this
theorem Wrt.set {w : World} {base g : Nat} {v : Value} {os : List OpT} {at_ nm lf wd : Int} (h : Wrt w base g v os at_ nm lf wd) (b o : Nat) (hb : b < base) (u : Value) : Wrt (w.setCell ⟨b, o, none⟩ u) base g v os at_ nm lf wd := by
  have hgs : w.grownBy (w.setCell ⟨b, o, none⟩ u) (some b) := ⟨rfl, rfl, rfl, by simp [World.setCell], fun k _ hk => Below.heap_setCell _ _ _ k (fun e => hk (by rw [e]))⟩
  refine ⟨h.row.other _ (by show b ≠ g; have := h.ge; omega) _, h.own.kept hgs ?_, h.ge, h.ne⟩
  cases hk : v.ownBlock with
  | none => exact .inl rfl
  | some k =>
    refine .inr fun e => ?_
    cases e
    have := (h.own.lt b hk).1
    omega

end Go.Proofs.YtnmaknnnmjfhkafGreat

namespace Go.Proofs.YtnmaknnnmjfhkafGreat
open Go.RowKit
set_option linter.unusedVariables false
set_option linter.unusedSimpArgs false
set_option maxRecDepth 8000

theorem info_opS : (Tryz.prog.info? 75).map (fun i => (i.zero, i.size, i.bytes)) = some (some (.agg #[.bool false, .int .i64 0, .string ByteArray.empty]), 3, 32) := by kernel_rfl
theorem oneOp3 (b1 b2 b3 : Bool) (n1 n2 n3 : Int) (s1 s2 s3 : ByteArray) : ∀ u ∈ [Value.bool b1, .int .i64 n1, .string s1, .bool b2, .int .i64 n2, .string s2, .bool b3, .int .i64 n3, .string s3], u.oneCell' = true := by
  intro u hu
  simp only [List.mem_cons, List.not_mem_nil, or_false] at hu
  rcases hu with rfl | rfl | rfl | rfl | rfl | rfl | rfl | rfl | rfl <;> rfl
theorem base_s (n h : Int) (h0 : 0 ≤ h) (h1 : h ≤ 1) (w : World) : Calls Tryz.prog 43 #[.int .i64 n, .int .i64 h] w fun e w' => e = .returned (.int .i64 (2 + h * hv n)) ∧ w' = w := by
  have hQ : 0 ≤ hv n ∧ hv n ≤ 99 := by by_cases h : 8 ≤ n ∧ n ≤ 200; have := hv_yes h; omega; rw [hv_no h]; omega
  obtain ⟨Q, HQ⟩ : ∃ Q, Hid (Q = hv n) := ⟨_, hid rfl⟩
  rw [← HQ.out] at hQ ⊢
  obtain ⟨q, hq⟩ : ∃ q, q = h * Q := ⟨_, rfl⟩
  have hqb : 0 ≤ q ∧ q ≤ 99 := by
    rcases (show h = 0 ∨ h = 1 by omega) with e | e
    · subst e; omega
    · subst e; omega
  have hw1 : IntKind.i64.wrap (h * Q) = q := by rw [← hq]; simp [IntKind.wrap, IntKind.bits, IntKind.signed]; omega
  have hw2 : IntKind.i64.wrap (2 + q) = 2 + q := by simp [IntKind.wrap, IntKind.bits, IntKind.signed]; omega
  rw [← hq]
  clear hq
  go_enter Tryz.func43, Tryz.ntmps43
  go_wp2_with (go_at_call 38; refine (halves_s _ _).mono ?_; rw [← HQ.out]; rintro e wz ⟨rfl, hwz⟩; rw [hwz]; clear hwz wz)
  go_ret
  exact ⟨rfl, rfl⟩
theorem put_s (n : Int) (d : ByteArray) (w : World) : Calls Tryz.prog 42 #[.int .i64 n, .string d] w fun e w' => e = .returned (.agg #[.bool false, .int .i64 n, .string d]) ∧ Below w.heap.size w w' := by
  go_enter Tryz.func42, Tryz.ntmps42
  go_wp2
  refine bodyPost_ret (v := .agg #[.bool false, .int .i64 n, .string d]) (by simp [results, Tryz.results42, go_sem]) rfl ⟨rfl, (Below.refl _ _).alloc (Nat.le_refl _) _⟩

set_option maxHeartbeats 16000000 in
theorem move_s_ok (S L T H F R U O : Int) (n m : Nat) (a : Option Addr) (rs : List Pr) (c : Nat) (w : World) (h : Prs w a rs) (hl : rs.length ≤ 1048576) (hs : ∀ x ∈ rs, x.1.size ≤ 1048576 ∧ x.2.size ≤ 1048576) (hm : n + m = 56) (hn1 : 1 ≤ n) (hn8 : n ≤ 8) (hok : mvOk (n : Int) S L T H F rs) (hfit : T + 1 ≤ 1000000000 ∧ F + hv S ≤ 999999000) :
    Calls Tryz.prog 22 #[storeV (n : Int) S L T H F R U O a rs.length c] w fun x w' => DnPost w w' x (mvD (n : Int) S L T H F rs) := by
  obtain ⟨i0, hi0, hz0, hz1, hz2⟩ := info_partsP info_opS
  have HI := hid (And.intro hi0 (And.intro hz0 (And.intro hz1 hz2)))
  clear hi0 hz0 hz1 hz2
  obtain ⟨hW, hS, hL, hT, hH, hF, hroom⟩ := hok
  have hQ := hv_yes hS
  have HH := hid (fun w' => halves_s S w')
  have HB := hid (fun w' => base_s S (1 - H) (by omega) (by omega) w')
  unfold mvD storeV
  have e1 : (n : Int).toNat = n := by omega
  have e2 : 56 - n = m := by omega
  rw [e1, e2]
  obtain ⟨Q, HQ⟩ : ∃ Q, Hid (Q = hv S) := ⟨_, hid rfl⟩
  rw [← HQ.out] at hQ HH HB hroom hfit ⊢
  obtain ⟨q, hq⟩ : ∃ q, q = 2 + (1 - H) * Q := ⟨_, rfl⟩
  have hqb : 2 ≤ q ∧ q ≤ 101 := by
    rcases (show H = 0 ∨ H = 1 by omega) with e | e
    · subst e; omega
    · subst e; omega
  rw [← hq] at HB ⊢
  clear hq e1 e2
  obtain ⟨hf1, hf2⟩ := hfit
  obtain ⟨bss, hbss⟩ : ∃ bss, bss = snapOf rs := ⟨_, rfl⟩
  have hbl := snapOf_len rs
  have HMB : Hid (∀ b ∈ bss, b.length ≤ 1048576 ∧ ∀ x ∈ b, x.1.size ≤ 1048576 ∧ x.2.1.size ≤ 1048576) := by
    intro b hb
    rw [hbss] at hb
    obtain ⟨h1, h2⟩ := snapOf_mem hb
    exact ⟨by omega, fun x hx => hs _ (h2 x hx)⟩
  have HSN := hid (fun w' h' => snap_s a rs c w' h' hl hs)
  have HLEN := hid (fun k => mvPages_len L (F + Q) n m hm hn1 hn8 (bss.take k))
  have HROOM : Hid (∀ k, roomOf (bss.take k) (n : Int) ≤ Q - 1) := fun k => by
    have := room_take bss k (n : Int)
    rw [← hbss] at hroom
    omega
  rw [← hbss] at hbl HSN ⊢
  clear hbss hroom
  obtain ⟨rp, hrp⟩ : ∃ rp, rp = rtForm (T + 1) (1 - H) (F + Q) L (n : Int) := ⟨_, rfl⟩
  have HRP := hid (fun w' => rootpage_s_any (T + 1) (1 - H) (F + Q) L (n : Int) w')
  rw [← hrp] at HRP ⊢
  clear hrp
  obtain ⟨p0, hp0⟩ : ∃ p0, p0 = formOf 3 L (F + Q) ByteArray.empty (n : Int) := ⟨_, rfl⟩
  have HFP := hid (fun w' => form_s_any 3 L (F + Q) ByteArray.empty (n : Int) w' (by simp))
  rw [← hp0] at HFP
  have HP0 := hid hp0
  clear hp0
  obtain ⟨wb, HWB⟩ : ∃ wb, wb = ((w.alloc (.cells #[.int .i64 (n : Int), .int .i64 S, .int .i64 L, .int .i64 T, .int .i64 H, .int .i64 F, .int .i64 R, .int .i64 U, .int .i64 O, .slice a rs.length c] 35)).alloc (.cells #[.int .i64 0, .int .i64 0, .int .i64 0, .int .i64 0, .int .i64 0, .int .i64 0, .int .i64 0, .int .i64 0, .int .i64 0, .int .i64 0, .slice none 0 0, .slice none 0 0] 38)).alloc (.cells #[.int .i64 (T + 1), .int .i64 (1 - H), .int .i64 (F + Q), .int .i64 L] 30) := ⟨_, rfl⟩
  have hwbs : wb.heap.size = w.heap.size + 1 + 1 + 1 := by rw [HWB]; simp
  have HBB : Hid (Below w.heap.size w wb) := by show Below _ _ _; rw [HWB]; exact (((Below.refl _ _).alloc (Nat.le_refl _) _).alloc (by simp) _).alloc (by simp <;> omega) _
  have HRW : Hid (∀ w', Below (w.heap.size + 1 + 1 + 1) wb w' → Row w' (w.heap.size) [.int .i64 (n : Int), .int .i64 S, .int .i64 L, .int .i64 T, .int .i64 H, .int .i64 F, .int .i64 R, .int .i64 U, .int .i64 O, .slice a rs.length c] ∧ Row w' (w.heap.size + 1) [.int .i64 0, .int .i64 0, .int .i64 0, .int .i64 0, .int .i64 0, .int .i64 0, .int .i64 0, .int .i64 0, .int .i64 0, .int .i64 0, .slice none 0 0, .slice none 0 0] ∧ Row w' (w.heap.size + 1 + 1) [.int .i64 (T + 1), .int .i64 (1 - H), .int .i64 (F + Q), .int .i64 L]) := fun w' hb => by
    have hb' : Below wb.heap.size wb w' := by rw [hwbs]; exact hb
    have r0 : Row wb (w.heap.size) [.int .i64 (n : Int), .int .i64 S, .int .i64 L, .int .i64 T, .int .i64 H, .int .i64 F, .int .i64 R, .int .i64 U, .int .i64 O, .slice a rs.length c] := by rw [HWB]; exact ((row_new w _ _).alloc _).alloc _
    have r1 : Row wb (w.heap.size + 1) [.int .i64 0, .int .i64 0, .int .i64 0, .int .i64 0, .int .i64 0, .int .i64 0, .int .i64 0, .int .i64 0, .int .i64 0, .int .i64 0, .slice none 0 0, .slice none 0 0] := by rw [HWB]; exact (row_at (w := w.alloc _) (by simp)).alloc _
    have r2 : Row wb (w.heap.size + 1 + 1) [.int .i64 (T + 1), .int .i64 (1 - H), .int .i64 (F + Q), .int .i64 L] := by rw [HWB]; exact row_at (w := (w.alloc _).alloc _) (by simp)
    exact ⟨r0.below hb', r1.below hb', r2.below hb'⟩
  go_enter Tryz.func22, Tryz.ntmps22
  go_wp2_with (first | (go_at_call 38; refine (HH.out _).mono ?_; rintro e wz ⟨rfl, hwz⟩; rw [hwz]; clear hwz wz) | (go_at_call 43; refine (HB.out _).mono ?_; rintro e wz ⟨rfl, hwz⟩; rw [hwz]; clear hwz wz))
  rw [← HWB]
  clear HWB
  refine (HFP.out _).mono ?_
  rintro e w1 ⟨rfl, hb1⟩
  go_wp2_with fail
  refine (put_s _ _ _).mono ?_
  rintro e w2 ⟨rfl, hb2⟩
  have hb2' : Below (w.heap.size + 1 + 1 + 1) wb w2 := by rw [← hwbs]; exact hb1.trans (hb2.mono hb1.size)
  have hs2 : w.heap.size + 1 + 1 + 1 ≤ w2.heap.size := by have := hb2'.size; omega
  clear hb1 hb2 HFP HH HB
  have hs2a : w.heap.size < w2.heap.size := by omega
  obtain ⟨hR0, _, _⟩ := HRW.out _ hb2'
  have q9 := hR0.cell 9 _ rfl
  clear hR0
  go_wp2_with fail
  clear q9
  have hbx : Below (w.heap.size + 1 + 1 + 1) wb (w2.alloc (.cells #[.bool false, .int .i64 q, .string p0] 75)) := hb2'.alloc hs2 _
  refine (HSN.out _ (h.below (HBB.out.trans (hbx.mono (by omega))))).mono ?_
  rintro e w3 ⟨v, rfl, hbat, hb3⟩
  have hown3 : w3.ownsRow (w.heap.size + 1 + 1 + 1) 75 3 (.slice (some ⟨w2.heap.size, 0, none⟩) 1 1) 1 (opcells (putOps q (mvPages L (F + Q) n m (bss.take 0)))) := by
    have h0 := World.ownsRow_lit w2 (base := w.heap.size + 1 + 1 + 1) (e := 75) (size := 3) #[.bool false, .int .i64 q, .string p0] 1 hs2 (by unfold maxLen; omega) (by simp)
    rw [List.take_zero, mvPages_nil, ← HP0.out]
    have e0 : opcells (putOps q [p0]) = [.bool false, .int .i64 q, .string p0] := by simp [putOps, opcells]
    rw [e0]
    exact owns_below h0 hb3
  have hG0 := Grow.start hown3
  have hl0 : (mvPages L (F + Q) n m (bss.take 0)).length = 1 := by rw [List.take_zero, mvPages_nil]; rfl
  have hs3 : w2.heap.size < w3.heap.size := by have := hb3.size; simp at this; omega
  have hb3' : Below (w.heap.size + 1 + 1 + 1) wb w3 := hbx.trans (hb3.mono (by simp; omega))
  have HBA : Hid (Bat w3 (w2.heap.size + 1) v bss) := hbat.mono (by simp)
  obtain ⟨va, vc, rfl, _⟩ := hbat.bts
  clear hbat hb3 hbx hb2' hown3 HSN
  have HB3 := hid hb3'
  have HG0 := hid hG0
  clear hb3' hG0
  go_wp2_with fail
  go_loopw [6, 8, 9] (fun y u i wr => ∃ k : Nat, k ≤ bss.length ∧ i = .int .i64 (k : Int) ∧ u = .int .i64 ((mvPages L (F + Q) n m (bss.take k)).length : Int) ∧ Grow w3 wr (some w2.heap.size) (w.heap.size + 1 + 1 + 1) 75 3 y (mvPages L (F + Q) n m (bss.take k)).length (opcells (putOps q (mvPages L (F + Q) n m (bss.take k))))) (fun _ _ i _ => bss.length - (intOf i).toNat)
  case atStart => exact ⟨0, Nat.zero_le _, rfl, by rw [hl0]; rfl, by rw [hl0]; exact HG0.out⟩
  case round =>
    obtain ⟨k, hk, rfl, rfl, hgr⟩ := hrel
    have hbw : Below (w.heap.size + 1 + 1 + 1) wb wr := HB3.out.trans (below_of_grown hgr.gb (by omega) (fun k hk => by cases hk; omega))
    have hsr : w.heap.size + 1 + 1 + 1 ≤ wr.heap.size := by have := hbw.size; omega
    have hN : ((mvPages L (F + Q) n m (bss.take k)).length : Int) ≤ 99 := by have h1 := HLEN.out k; have h2 := HROOM.out k; omega
    obtain ⟨acc, hacc⟩ : ∃ acc, acc = mvPages L (F + Q) n m (bss.take k) := ⟨_, rfl⟩
    rw [← hacc] at hgr hN ⊢
    obtain ⟨ya, yc, rfl⟩ : ∃ ya yc, u6 = Value.slice ya acc.length yc := by
      rcases owns_forms hgr.own with ⟨e1, e2⟩ | ⟨g, cap, e1, _⟩
      · exact ⟨none, 0, by rw [e1, e2]⟩
      · exact ⟨_, cap, e1⟩
    obtain ⟨hR0, hR1, hR2⟩ := HRW.out _ hbw
    by_cases hlt : k < bss.length
    · have hba := HBA.out.kept hgr.gb (fun k hk => by cases hk; left; omega)
      obtain ⟨va', vc', ev, hbt⟩ := hba.bts
      cases ev
      obtain ⟨gl, p, cc, rfl, hgl, hcl, hch⟩ := hbt.at hlt
      have hlt' : (k : Int) < (bss.length : Int) := by omega
      have hk0 : (0 : Int) ≤ (k : Int) := by omega
      have hmem := HMB.out (bss.getD k []) (by simp [List.getD, hlt])
      have hN1 : ((mvPages L (F + Q) n m (bss.take (k + 1))).length : Int) ≤ 99 := by have h1 := HLEN.out (k + 1); have h2 := HROOM.out (k + 1); omega
      have hst : mvPages L (F + Q) n m (bss.take (k + 1)) = acc ++ cutAll (bOut (bss.getD k [])) L (F + Q + (acc.length : Int)) n m := by rw [takeR_snoc bss k [] hlt, mvPages_snoc, ← hacc]
      have hO := bOut_bound (bss.getD k [])
      obtain ⟨b, hb⟩ : ∃ b, b = bss.getD k [] := ⟨_, rfl⟩
      rw [← hb] at hcl hch hmem hst hO
      have HF := hid (fun W (hW : Chs W p b) => formbatch_s p b cc W hW hmem.1 hmem.2)
      obtain ⟨bo, hbo⟩ : ∃ bo, bo = bOut b := ⟨_, rfl⟩
      rw [← hbo] at HF hst hO
      have HC := hid (fun W => cut_s bo L (F + Q + (acc.length : Int)) n m W (by omega) hm hn1 hn8)
      obtain ⟨cut, hcut⟩ : ∃ cut, cut = cutAll bo L (F + Q + (acc.length : Int)) n m := ⟨_, rfl⟩
      rw [← hcut] at HC hst
      rw [hst, List.length_append] at hN1
      have HST := hid hst
      have HACC := hid hacc
      have hw0 : IntKind.i64.wrap (F + Q + (acc.length : Int)) = F + Q + (acc.length : Int) := by simp [IntKind.wrap, IntKind.bits, IntKind.signed]; omega
      have HT : Hid (∀ w', Below wr.heap.size wr w' → w'.cell? ⟨gl, k, none⟩ = some (.slice p b.length cc) ∧ w'.cell? ⟨w.heap.size, 0, none⟩ = some (.int .i64 (n : Int)) ∧ w'.cell? ⟨w.heap.size, 2, none⟩ = some (.int .i64 L) ∧ w'.cell? ⟨w.heap.size + 1 + 1, 2, none⟩ = some (.int .i64 (F + Q)) ∧ Below wr.heap.size wr w') := fun w' hb => ⟨(hb.cell (p := ⟨gl, k, none⟩) hgl).trans hcl, (hR0.below hb).cell 0 _ rfl, (hR0.below hb).cell 2 _ rfl, (hR2.below hb).cell 2 _ rfl, hb⟩
      have HCH := hid hch
      have HGR := hid hgr
      have HBW := hid hbw
      clear hb hbo hcut hst hacc hmem hch hgr hbw hR0 hR1 hR2 hba hcl hbt
      go_wp2_with fail
      refine wp_region_held_drew (S := fun w' => w'.cell? ⟨gl, k, none⟩ = some (.slice p b.length cc) ∧ w'.cell? ⟨w.heap.size, 0, none⟩ = some (.int .i64 (n : Int)) ∧ w'.cell? ⟨w.heap.size, 2, none⟩ = some (.int .i64 L) ∧ w'.cell? ⟨w.heap.size + 1 + 1, 2, none⟩ = some (.int .i64 (F + Q)) ∧ Below wr.heap.size wr w') (by kernel_rfl) (HT.out _ (Below.refl _ _).drew) (fun hHeld => ?_)
      refine wpAnyH_take (i := 0) (v := .slice (some ⟨gl, 0, none⟩) bss.length vc) rfl (by kernel_rfl) (by kernel_rfl) (by kernel_rfl) (fun _ _ _ h => h) (Or.inl ⟨by rfl, fun w hw => by obtain ⟨z0, z1, z2, z3, z4⟩ := hw; go_simp⟩) hHeld ?_
      simp only [Act.put, List.setIfInBounds_toArray, List.set_cons_zero, List.set_cons_succ]
      refine wpAnyH_take (i := 1) (v := .int .i64 (k : Int)) rfl (by kernel_rfl) (by kernel_rfl) (by kernel_rfl) (fun _ _ _ h => h) (Or.inl ⟨by rfl, fun w hw => by obtain ⟨z0, z1, z2, z3, z4⟩ := hw; go_simp⟩) hHeld ?_
      simp only [Act.put, List.setIfInBounds_toArray, List.set_cons_zero, List.set_cons_succ]
      refine wpAnyH_take (i := 2) (v := .pointer (some ⟨gl, k, none⟩)) rfl (by kernel_rfl) (by kernel_rfl) (by kernel_rfl) (fun _ _ _ h => h) (Or.inl ⟨by rfl, fun w hw => by obtain ⟨z0, z1, z2, z3, z4⟩ := hw; go_simp⟩) hHeld ?_
      simp only [Act.put, List.setIfInBounds_toArray, List.set_cons_zero, List.set_cons_succ]
      refine wpAnyH_take (i := 3) (v := .slice p b.length cc) rfl (by kernel_rfl) (by kernel_rfl) (by kernel_rfl) (fun _ _ _ h => h) (Or.inl ⟨by rfl, fun w hw => by obtain ⟨z0, z1, z2, z3, z4⟩ := hw; go_simp⟩) hHeld ?_
      simp only [Act.put, List.setIfInBounds_toArray, List.set_cons_zero, List.set_cons_succ]
      refine wpAnyH_take (i := 5) (v := .pointer (some ⟨w.heap.size, 2, none⟩)) rfl (by kernel_rfl) (by kernel_rfl) (by kernel_rfl) (fun _ _ _ h => h) (Or.inl ⟨by rfl, fun w hw => by obtain ⟨z0, z1, z2, z3, z4⟩ := hw; go_simp⟩) hHeld ?_
      simp only [Act.put, List.setIfInBounds_toArray, List.set_cons_zero, List.set_cons_succ]
      refine wpAnyH_take (i := 6) (v := .int .i64 L) rfl (by kernel_rfl) (by kernel_rfl) (by kernel_rfl) (fun _ _ _ h => h) (Or.inl ⟨by rfl, fun w hw => by obtain ⟨z0, z1, z2, z3, z4⟩ := hw; go_simp⟩) hHeld ?_
      simp only [Act.put, List.setIfInBounds_toArray, List.set_cons_zero, List.set_cons_succ]
      refine wpAnyH_take (i := 7) (v := .pointer (some ⟨w.heap.size + 1 + 1, 2, none⟩)) rfl (by kernel_rfl) (by kernel_rfl) (by kernel_rfl) (fun _ _ _ h => h) (Or.inl ⟨by rfl, fun w hw => by obtain ⟨z0, z1, z2, z3, z4⟩ := hw; go_simp⟩) hHeld ?_
      simp only [Act.put, List.setIfInBounds_toArray, List.set_cons_zero, List.set_cons_succ]
      refine wpAnyH_take (i := 8) (v := .int .i64 (F + Q)) rfl (by kernel_rfl) (by kernel_rfl) (by kernel_rfl) (fun _ _ _ h => h) (Or.inl ⟨by rfl, fun w hw => by obtain ⟨z0, z1, z2, z3, z4⟩ := hw; go_simp⟩) hHeld ?_
      simp only [Act.put, List.setIfInBounds_toArray, List.set_cons_zero, List.set_cons_succ]
      refine wpAnyH_take (i := 9) (v := .int .i64 (acc.length : Int)) rfl (by kernel_rfl) (by kernel_rfl) (by kernel_rfl) (fun _ _ _ h => h) (Or.inl ⟨by rfl, fun w hw => by obtain ⟨z0, z1, z2, z3, z4⟩ := hw; go_simp⟩) hHeld ?_
      simp only [Act.put, List.setIfInBounds_toArray, List.set_cons_zero, List.set_cons_succ]
      refine wpAnyH_take (i := 10) (v := .int .i64 (F + Q + (acc.length : Int))) rfl (by kernel_rfl) (by kernel_rfl) (by kernel_rfl) (fun _ _ _ h => h) (Or.inl ⟨by rfl, fun w hw => by obtain ⟨z0, z1, z2, z3, z4⟩ := hw; go_simp⟩) hHeld ?_
      simp only [Act.put, List.setIfInBounds_toArray, List.set_cons_zero, List.set_cons_succ]
      refine wpAnyH_take (i := 11) (v := .pointer (some ⟨w.heap.size, 0, none⟩)) rfl (by kernel_rfl) (by kernel_rfl) (by kernel_rfl) (fun _ _ _ h => h) (Or.inl ⟨by rfl, fun w hw => by obtain ⟨z0, z1, z2, z3, z4⟩ := hw; go_simp⟩) hHeld ?_
      simp only [Act.put, List.setIfInBounds_toArray, List.set_cons_zero, List.set_cons_succ]
      refine wpAnyH_take (i := 12) (v := .int .i64 (n : Int)) rfl (by kernel_rfl) (by kernel_rfl) (by kernel_rfl) (fun _ _ _ h => h) (Or.inl ⟨by rfl, fun w hw => by obtain ⟨z0, z1, z2, z3, z4⟩ := hw; go_simp⟩) hHeld ?_
      simp only [Act.put, List.setIfInBounds_toArray, List.set_cons_zero, List.set_cons_succ]
      refine wpAnyH_ready (rs := [4]) (by kernel_rfl) (by simp) ?_
      refine AllReadyH.cons rfl (fun K hK => ?_) AllReadyH.nil
      refine step_call (by rfl) 41 #[.slice p b.length cc] (by go_simp) (HF.out _ (HCH.out.below (Below.refl _ _).drew)) ?_
      rintro e w4 ⟨rfl, hb4⟩
      refine ⟨_, rfl, ?_⟩
      have hb4' : Below wr.heap.size wr w4 := (Below.refl _ _).drew.trans hb4
      refine hK.out _ _ (HT.out _ hb4') (fun hHd1 => ?_)
      clear hK K
      try simp only [Act.put, List.setIfInBounds_toArray, List.set_cons_zero, List.set_cons_succ]
      refine wpAnyH_ready (rs := [13]) (by kernel_rfl) (by simp) ?_
      refine AllReadyH.cons rfl (fun K hK => ?_) AllReadyH.nil
      refine step_call (by rfl) 40 #[.string bo, .int .i64 L, .int .i64 (F + Q + (acc.length : Int)), .int .i64 (n : Int)] (by go_simp) (HC.out _) ?_
      rintro e w5 ⟨a5, c5, rfl, ho5, hf5, hb5⟩
      refine ⟨_, rfl, ?_⟩
      have hb5' : Below wr.heap.size wr w5 := hb4'.trans (hb5.mono hb4'.size)
      refine hK.out _ _ (HT.out _ hb5') (fun hHd2 => ?_)
      clear hK K
      try simp only [Act.put, List.setIfInBounds_toArray, List.set_cons_zero, List.set_cons_succ]
      refine wpAnyH_ready (rs := [14]) (by kernel_rfl) (by simp) ?_
      refine AllReadyH.cons rfl (fun K hK => ?_) AllReadyH.nil
      go_simp
      refine hK.out _ _ hHd2 (fun _ => ?_)
      clear hK K
      try simp only [Act.put, List.setIfInBounds_toArray, List.set_cons_zero, List.set_cons_succ]
      refine wpAnyH_done (by kernel_rfl) ?_ _
      have HB5 := hid hb5'
      have HO5 := hid ho5
      have hfr : ∀ g, blk a5 cut.length = some g → wr.heap.size ≤ g := fun g hg => Nat.le_trans hb4'.size (hf5 g hg)
      have HFR := hid hfr
      have hs5 := hb5'.size
      clear hb5' hb5 ho5 hf5 hb4' hb4 hfr HT HF HC HCH hHeld hHd1 hHd2
      generalize wr = wo at *
      go_wp2_with fail
      go_loopw [6, 8, 11] (fun y2 u2 i2 wr => ∃ j : Nat, j ≤ cut.length ∧ i2 = .int .i64 (j : Int) ∧ u2 = .int .i64 ((acc ++ cut.take j).length : Int) ∧ Grow w5 wr (Value.slice ya acc.length yc).ownBlock (w.heap.size + 1 + 1 + 1) 75 3 y2 (acc ++ cut.take j).length (opcells (putOps q (acc ++ cut.take j)))) (fun _ _ i2 _ => cut.length - (intOf i2).toNat)
      case atStart => exact ⟨0, Nat.zero_le _, rfl, by simp, by rw [List.take_zero, List.append_nil]; exact Grow.start (owns_below HGR.out.own HB5.out)⟩
      case round =>
        obtain ⟨j, hj, rfl, rfl, hgr2⟩ := hrel
        have hN2 : (acc ++ cut.take j).length = acc.length + j := by rw [List.length_append, List.length_take]; omega
        obtain ⟨acc2, hacc2⟩ : ∃ acc2, acc2 = acc ++ cut.take j := ⟨_, rfl⟩
        rw [← hacc2] at hgr2 hN2 ⊢
        obtain ⟨y2a, y2c, rfl⟩ : ∃ y2a y2c, u6 = Value.slice y2a acc2.length y2c := by
          rcases owns_forms hgr2.own with ⟨e1, e2⟩ | ⟨g, cap, e1, _⟩
          · exact ⟨none, 0, by rw [e1, e2]⟩
          · exact ⟨_, cap, e1⟩
        have hsr2 : wo.heap.size ≤ wr.heap.size := Nat.le_trans hs5 hgr2.gb.size
        by_cases hlt2 : j < cut.length
        · obtain ⟨g5, rfl, hrow5⟩ := HO5.out.resolve_left (by intro e; have := congrArg List.length e; simp at this; rw [this] at hlt2; simp at hlt2)
          have hg5 : wo.heap.size ≤ g5 := HFR.out g5 (blk_pos _ _ _ (by omega))
          have hrow := hrow5.grown hgr2.gb (fun e => by have := (HGR.out.own.lt g5 e.symm).2; omega)
          have hcj := hrow.cell j (.string (cut.getD j ByteArray.empty)) (by simp [hlt2, List.getD])
          obtain ⟨pj, hpj⟩ : ∃ pj, pj = cut.getD j ByteArray.empty := ⟨_, rfl⟩
          rw [← hpj] at hcj
          have hg5l := hrow.lt
          have hlt2' : (j : Int) < (cut.length : Int) := by omega
          have hj0 : (0 : Int) ≤ (j : Int) := by omega
          have hx0 : IntKind.i64.wrap (q + (acc2.length : Int)) = q + (acc2.length : Int) := by simp [IntKind.wrap, IntKind.bits, IntKind.signed]; omega
          have hx1 : IntKind.i64.wrap ((acc2.length : Int) + 1) = (acc2.length : Int) + 1 := by simp [IntKind.wrap, IntKind.bits, IntKind.signed]; omega
          have HG2 := hid hgr2
          have HA2 := hid hacc2
          have HPJ := hid hpj
          have hal : acc2.length ≤ 200 := by omega
          clear hrow hrow5 hgr2 hacc2 hpj hN2
          go_wp2_with (first | (go_at_call 42; refine (put_s _ _ _).mono ?_; rintro e w6 ⟨rfl, hb6⟩; have HOA := hid ((owns_below HG2.out.own hb6).alloc (.cells #[.bool false, .int .i64 (q + (acc2.length : Int)), .string pj] 75)); have hs6 : w.heap.size + 1 + 1 + 1 ≤ w6.heap.size := Nat.le_trans (Nat.le_trans hsr hsr2) hb6.size) | (at_builtin; refine wpList_append_lies _ rfl _ _ 36 rfl (w.heap.size + 1 + 1 + 1) 75 i0 (.agg #[.bool false, .int .i64 0, .string ByteArray.empty]) 3 32 Tryz.underlying36 HI.out.1 HI.out.2.1 HI.out.2.2.1 HI.out.2.2.2 rfl (by omega) _ acc2.length _ rfl HOA.out ⟨w6.heap.size, 0, none⟩ 1 1 [.bool false, .int .i64 (q + (acc2.length : Int)), .string pj] rfl rfl (World.news_of_block (heap_alloc_new w6 _)) (oneOp _ _ _) (by omega) (by unfold maxLen; omega) (by omega) (by simp; omega) (w6.heap.size + 1) (by simp) ?_; intro g9 cap9 w9 hown9 hgrow9 hat9 hlt9; have HO9 := hid hown9; have HGW := hid hgrow9; have HAT := hid hat9; clear hown9 hgrow9 hat9))
          have hsn : acc ++ cut.take (j + 1) = acc2 ++ [pj] := by rw [takeR_snoc cut j ByteArray.empty hlt2, ← List.append_assoc, ← HA2.out, ← HPJ.out]
          refine ⟨⟨j + 1, by omega, by go_num, by rw [hsn, List.length_append]; go_num, ?_⟩, by simp [intOf]; omega⟩
          rw [hsn, putOps_snoc, opcells_append, List.length_append]
          refine ((HG2.out.below hb6).below ((Below.refl _ _).alloc (Nat.le_refl _) _)).push (H := w6.heap.size + 1) HO9.out HGW.out ?_ (by simp)
          rcases HAT.out with h | h
          · exact .inl h
          · right; rw [h]; rfl
        · have hje : j = cut.length := by omega
          subst hje
          have HG2 := hid hgr2
          have HA2 := hid hacc2
          clear hgr2 hacc2
          go_wp2_with fail
          have he : acc2 = mvPages L (F + Q) n m (bss.take (k + 1)) := by rw [HA2.out, HST.out, List.take_length]
          refine ⟨⟨k + 1, by omega, by go_num, by rw [← he], ?_⟩, by simp [intOf]; omega⟩
          rw [← he]
          exact (HGR.out.below HB5.out).trans HG2.out
    · have hkl : k = bss.length := by omega
      subst hkl
      have he : acc = mvPages L (F + Q) n m bss := by rw [hacc, List.take_length]
      clear hacc
      have HAE := hid he
      have HGR := hid hgr
      have HBW := hid hbw
      have HT : Hid (∀ w', Below (w.heap.size + 1 + 1 + 1) wr w' → w'.cell? ⟨w.heap.size, 0, none⟩ = some (.int .i64 (n : Int)) ∧ w'.cell? ⟨w.heap.size + 1 + 1, 0, none⟩ = some (.int .i64 (T + 1)) ∧ w'.cell? ⟨w.heap.size + 1 + 1, 1, none⟩ = some (.int .i64 (1 - H)) ∧ w'.cell? ⟨w.heap.size + 1 + 1, 2, none⟩ = some (.int .i64 (F + Q)) ∧ w'.cell? ⟨w.heap.size + 1 + 1, 3, none⟩ = some (.int .i64 L)) := fun w' hb => by
        obtain ⟨hR0, hR1, hR2⟩ := HRW.out _ (HBW.out.trans hb)
        exact ⟨hR0.cell 0 _ rfl, hR2.cell 0 _ rfl, hR2.cell 1 _ rfl, hR2.cell 2 _ rfl, hR2.cell 3 _ rfl⟩
      have htm : (T + 1).tmod 2 = (T + 1) % 2 := Int.tmod_eq_emod_of_nonneg (by omega)
      clear hgr hbw he hR0 hR1 hR2
      go_wp2_with fail
      refine wp_region_held_drew (S := fun w' => w'.cell? ⟨w.heap.size, 0, none⟩ = some (.int .i64 (n : Int)) ∧ w'.cell? ⟨w.heap.size + 1 + 1, 0, none⟩ = some (.int .i64 (T + 1)) ∧ w'.cell? ⟨w.heap.size + 1 + 1, 1, none⟩ = some (.int .i64 (1 - H)) ∧ w'.cell? ⟨w.heap.size + 1 + 1, 2, none⟩ = some (.int .i64 (F + Q)) ∧ w'.cell? ⟨w.heap.size + 1 + 1, 3, none⟩ = some (.int .i64 L)) (by kernel_rfl) (HT.out _ (Below.refl _ _).drew) (fun hHeld => ?_)
      refine wpAnyH_take (i := 0) (v := .slice ya acc.length yc) rfl (by kernel_rfl) (by kernel_rfl) (by kernel_rfl) (fun _ _ _ h => h) (Or.inl ⟨by rfl, fun w hw => by obtain ⟨z0, z1, z2, z3, z4⟩ := hw; go_simp⟩) hHeld ?_
      simp only [Act.put, List.setIfInBounds_toArray, List.set_cons_zero, List.set_cons_succ]
      refine wpAnyH_take (i := 1) (v := .agg #[.bool true, .int .i64 0, .string ⟨#[]⟩]) rfl (by kernel_rfl) (by kernel_rfl) (by kernel_rfl) (fun _ _ _ h => h) (Or.inl ⟨by rfl, fun w hw => by obtain ⟨z0, z1, z2, z3, z4⟩ := hw; go_simp⟩) hHeld ?_
      simp only [Act.put, List.setIfInBounds_toArray, List.set_cons_zero, List.set_cons_succ]
      refine wpAnyH_take (i := 2) (v := .pointer (some ⟨w.heap.size + 1 + 1, 0, none⟩)) rfl (by kernel_rfl) (by kernel_rfl) (by kernel_rfl) (fun _ _ _ h => h) (Or.inl ⟨by rfl, fun w hw => by obtain ⟨z0, z1, z2, z3, z4⟩ := hw; go_simp⟩) hHeld ?_
      simp only [Act.put, List.setIfInBounds_toArray, List.set_cons_zero, List.set_cons_succ]
      refine wpAnyH_take (i := 3) (v := .int .i64 (T + 1)) rfl (by kernel_rfl) (by kernel_rfl) (by kernel_rfl) (fun _ _ _ h => h) (Or.inl ⟨by rfl, fun w hw => by obtain ⟨z0, z1, z2, z3, z4⟩ := hw; go_simp⟩) hHeld ?_
      simp only [Act.put, List.setIfInBounds_toArray, List.set_cons_zero, List.set_cons_succ]
      refine wpAnyH_take (i := 4) (v := .int .i64 ((T + 1) % 2)) rfl (by kernel_rfl) (by kernel_rfl) (by kernel_rfl) (fun _ _ _ h => h) (Or.inl ⟨by rfl, fun w hw => by obtain ⟨z0, z1, z2, z3, z4⟩ := hw; go_simp⟩) hHeld ?_
      simp only [Act.put, List.setIfInBounds_toArray, List.set_cons_zero, List.set_cons_succ]
      refine wpAnyH_take (i := 5) (v := .agg #[.int .i64 (T + 1), .int .i64 (1 - H), .int .i64 (F + Q), .int .i64 L]) rfl (by kernel_rfl) (by kernel_rfl) (by kernel_rfl) (fun _ _ _ h => h) (Or.inl ⟨by rfl, fun w hw => by obtain ⟨z0, z1, z2, z3, z4⟩ := hw; go_simp⟩) hHeld ?_
      simp only [Act.put, List.setIfInBounds_toArray, List.set_cons_zero, List.set_cons_succ]
      refine wpAnyH_take (i := 6) (v := .pointer (some ⟨w.heap.size, 0, none⟩)) rfl (by kernel_rfl) (by kernel_rfl) (by kernel_rfl) (fun _ _ _ h => h) (Or.inl ⟨by rfl, fun w hw => by obtain ⟨z0, z1, z2, z3, z4⟩ := hw; go_simp⟩) hHeld ?_
      simp only [Act.put, List.setIfInBounds_toArray, List.set_cons_zero, List.set_cons_succ]
      refine wpAnyH_take (i := 7) (v := .int .i64 (n : Int)) rfl (by kernel_rfl) (by kernel_rfl) (by kernel_rfl) (fun _ _ _ h => h) (Or.inl ⟨by rfl, fun w hw => by obtain ⟨z0, z1, z2, z3, z4⟩ := hw; go_simp⟩) hHeld ?_
      simp only [Act.put, List.setIfInBounds_toArray, List.set_cons_zero, List.set_cons_succ]
      refine wpAnyH_take (i := 10) (v := .agg #[.bool true, .int .i64 0, .string ⟨#[]⟩]) rfl (by kernel_rfl) (by kernel_rfl) (by kernel_rfl) (fun _ _ _ h => h) (Or.inl ⟨by rfl, fun w hw => by obtain ⟨z0, z1, z2, z3, z4⟩ := hw; go_simp⟩) hHeld ?_
      simp only [Act.put, List.setIfInBounds_toArray, List.set_cons_zero, List.set_cons_succ]
      refine wpAnyH_ready (rs := [8]) (by kernel_rfl) (by simp) ?_
      refine AllReadyH.cons rfl (fun K hK => ?_) AllReadyH.nil
      refine step_call (by rfl) 61 #[rootV (T + 1) (1 - H) (F + Q) L, .int .i64 (n : Int)] (by go_simp) (HRP.out _) ?_
      rintro e w4 ⟨rfl, hb4⟩
      refine ⟨_, rfl, ?_⟩
      have hb4' : Below wr.heap.size wr w4 := (Below.refl _ _).drew.trans hb4
      refine hK.out _ _ (HT.out _ (hb4'.mono hsr)) (fun hHd1 => ?_)
      clear hK K
      try simp only [Act.put, List.setIfInBounds_toArray, List.set_cons_zero, List.set_cons_succ]
      refine wpAnyH_ready (rs := [9]) (by kernel_rfl) (by simp) ?_
      refine AllReadyH.cons rfl (fun K hK => ?_) AllReadyH.nil
      refine step_call (by rfl) 42 #[.int .i64 ((T + 1) % 2), .string rp] (by go_simp) (put_s _ _ _) ?_
      rintro e w5 ⟨rfl, hb5⟩
      refine ⟨_, rfl, ?_⟩
      have hb5' : Below wr.heap.size wr w5 := hb4'.trans (hb5.mono hb4'.size)
      have hs5 : w.heap.size + 1 + 1 + 1 ≤ w5.heap.size := Nat.le_trans hsr hb5'.size
      have HOA := hid ((owns_below HGR.out.own hb5').alloc (.cells #[.bool true, .int .i64 0, .string ⟨#[]⟩, .bool false, .int .i64 ((T + 1) % 2), .string rp, .bool true, .int .i64 0, .string ⟨#[]⟩] 75))
      refine hK.out _ _ (HT.out _ (hb5'.mono hsr)) (fun hHd2 => ?_)
      clear hK K
      try simp only [Act.put, List.setIfInBounds_toArray, List.set_cons_zero, List.set_cons_succ]
      refine wpAnyH_ready (rs := [11]) (by kernel_rfl) (by simp) ?_
      refine AllReadyH.cons rfl (fun K hK => ?_) AllReadyH.nil
      go_simp
      refine hK.out _ _ (HT.out _ ((hb5'.mono hsr).alloc hs5 _)) (fun hHd3 => ?_)
      clear hK K
      try simp only [Act.put, List.setIfInBounds_toArray, List.set_cons_zero, List.set_cons_succ]
      refine wpAnyH_ready (rs := [12]) (by kernel_rfl) (by simp) ?_
      refine AllReadyH.cons rfl (fun K hK => ?_) AllReadyH.nil
      refine step_append_lies _ (by rfl) _ _ _ (by rfl) (w.heap.size + 1 + 1 + 1) 75 i0 (.agg #[.bool false, .int .i64 0, .string ByteArray.empty]) 3 32 Tryz.underlying36 HI.out.1 HI.out.2.1 HI.out.2.2.1 HI.out.2.2.2 rfl (by omega) (.slice ya acc.length yc) acc.length _ (by rfl) HOA.out ⟨w5.heap.size, 0, none⟩ 3 3 [.bool true, .int .i64 0, .string ⟨#[]⟩, .bool false, .int .i64 ((T + 1) % 2), .string rp, .bool true, .int .i64 0, .string ⟨#[]⟩] (by rfl) rfl (World.news_of_block (heap_alloc_new w5 _)) (oneOp3 _ _ _ _ _ _ _ _ _) (by omega) (by unfold maxLen; omega) (by omega) (by simp <;> omega) (w5.heap.size + 1) (by simp) ?_
      intro g9 cap9 w9 hown9 hgrow9 hat9 hlt9
      have hG9 := ((HGR.out.below hb5').below ((Below.refl _ _).alloc (Nat.le_refl _) _)).push (H := w5.heap.size + 1) hown9 hgrow9 (by rcases hat9 with h | h; exact .inl h; right; rw [h]; rfl) (by simp)
      have hb9 : Below (w.heap.size + 1 + 1 + 1) wr w9 := ((hb5'.mono hsr).alloc hs5 _).trans (below_of_grown hgrow9 (by simp; omega) (fun k hk => (HGR.out.own.lt k hk).1))
      have HG9 := hid hG9
      have HB9 := hid (HBW.out.trans hb9)
      clear hown9 hgrow9 hat9 hG9
      refine hK.out _ _ (HT.out _ hb9) (fun hHd4 => ?_)
      clear hK K
      try simp only [Act.put, List.setIfInBounds_toArray, List.set_cons_zero, List.set_cons_succ]
      refine wpAnyH_ready (rs := [13]) (by kernel_rfl) (by simp) ?_
      refine AllReadyH.cons rfl (fun K hK => ?_) AllReadyH.nil
      go_simp
      refine hK.out _ _ hHd4 (fun _ => ?_)
      clear hK K
      try simp only [Act.put, List.setIfInBounds_toArray, List.set_cons_zero, List.set_cons_succ]
      refine wpAnyH_done (by kernel_rfl) ?_ _
      clear hb9 hb5' hb5 hb4' hb4 hHeld hHd1 hHd2 hHd3 hHd4 HOA HGR HBW HT
      obtain ⟨hR0, hR1, hR2⟩ := HRW.out _ HB9.out
      have c00 := hR0.cell 0 _ rfl
      have c01 := hR0.cell 1 _ rfl
      have c02 := hR0.cell 2 _ rfl
      have c03 := hR0.cell 3 _ rfl
      have c04 := hR0.cell 4 _ rfl
      have c05 := hR0.cell 5 _ rfl
      have c06 := hR0.cell 6 _ rfl
      have c07 := hR0.cell 7 _ rfl
      have c08 := hR0.cell 8 _ rfl
      have c09 := hR0.cell 9 _ rfl
      have c10 := hR1.cell 0 _ rfl
      have f10 := hR1.froz 0 (by simp)
      have c11 := hR1.cell 1 _ rfl
      have f11 := hR1.froz 1 (by simp)
      have c12 := hR1.cell 2 _ rfl
      have f12 := hR1.froz 2 (by simp)
      have c13 := hR1.cell 3 _ rfl
      have f13 := hR1.froz 3 (by simp)
      have c14 := hR1.cell 4 _ rfl
      have f14 := hR1.froz 4 (by simp)
      have c15 := hR1.cell 5 _ rfl
      have f15 := hR1.froz 5 (by simp)
      have c16 := hR1.cell 6 _ rfl
      have f16 := hR1.froz 6 (by simp)
      have c17 := hR1.cell 7 _ rfl
      have f17 := hR1.froz 7 (by simp)
      have c18 := hR1.cell 8 _ rfl
      have f18 := hR1.froz 8 (by simp)
      have c19 := hR1.cell 9 _ rfl
      have f19 := hR1.froz 9 (by simp)
      have c110 := hR1.cell 10 _ rfl
      have f110 := hR1.froz 10 (by simp)
      have c111 := hR1.cell 11 _ rfl
      have f111 := hR1.froz 11 (by simp)
      have c20 := hR2.cell 0 _ rfl
      have c21 := hR2.cell 1 _ rfl
      have c22 := hR2.cell 2 _ rfl
      have c23 := hR2.cell 3 _ rfl
      have hs9 : w.heap.size + 1 + 1 + 1 ≤ w9.heap.size := by have := HB9.out.size; omega
      have hlA : w.heap.size < w9.heap.size := by omega
      have hlB : w.heap.size + 1 < w9.heap.size := by omega
      have hlC : w.heap.size + 1 + 1 < w9.heap.size := by omega
      clear hR0 hR1 hR2
      have HXB := hid (HB9.out.alloc hs9 (.cells #[.int .i64 (n : Int), .int .i64 S, .int .i64 L, .int .i64 (T + 1), .int .i64 (1 - H), .int .i64 (F + Q), .int .i64 L, .int .i64 (acc.length : Int), .int .i64 0, .slice a rs.length c] 35))
      go_wp2_with (first | (go_at_call 62; refine (copy_st_s a rs c _ (h.below (HBB.out.trans (HXB.out.mono (by omega)))) hl).mono ?_; rintro x w10 ⟨a3, c3, rfl, hc3, ho3, hg3, hb10⟩; have hRo := (row_new w9 #[.int .i64 (n : Int), .int .i64 S, .int .i64 L, .int .i64 (T + 1), .int .i64 (1 - H), .int .i64 (F + Q), .int .i64 L, .int .i64 (acc.length : Int), .int .i64 0, .slice a rs.length c] 35).below hb10; have hRd := (HRW.out _ (HXB.out.trans (hb10.mono (by simp; omega)))).2.1; have o00 : w10.cell? ⟨w9.heap.size, 0, none⟩ = some (.int .i64 (n : Int)) := hRo.cell 0 _ rfl; have p00 := hRo.froz 0 (by simp); have o01 : w10.cell? ⟨w9.heap.size, 1, none⟩ = some (.int .i64 S) := hRo.cell 1 _ rfl; have p01 := hRo.froz 1 (by simp); have o02 : w10.cell? ⟨w9.heap.size, 2, none⟩ = some (.int .i64 L) := hRo.cell 2 _ rfl; have p02 := hRo.froz 2 (by simp); have o03 : w10.cell? ⟨w9.heap.size, 3, none⟩ = some (.int .i64 (T + 1)) := hRo.cell 3 _ rfl; have p03 := hRo.froz 3 (by simp); have o04 : w10.cell? ⟨w9.heap.size, 4, none⟩ = some (.int .i64 (1 - H)) := hRo.cell 4 _ rfl; have p04 := hRo.froz 4 (by simp); have o05 : w10.cell? ⟨w9.heap.size, 5, none⟩ = some (.int .i64 (F + Q)) := hRo.cell 5 _ rfl; have p05 := hRo.froz 5 (by simp); have o06 : w10.cell? ⟨w9.heap.size, 6, none⟩ = some (.int .i64 L) := hRo.cell 6 _ rfl; have p06 := hRo.froz 6 (by simp); have o07 : w10.cell? ⟨w9.heap.size, 7, none⟩ = some (.int .i64 (acc.length : Int)) := hRo.cell 7 _ rfl; have p07 := hRo.froz 7 (by simp); have o08 : w10.cell? ⟨w9.heap.size, 8, none⟩ = some (.int .i64 0) := hRo.cell 8 _ rfl; have p08 := hRo.froz 8 (by simp); have o09 : w10.cell? ⟨w9.heap.size, 9, none⟩ = some (.slice a rs.length c) := hRo.cell 9 _ rfl; have p09 := hRo.froz 9 (by simp); have d10 := hRd.cell 0 _ rfl; have g10 := hRd.froz 0 (by simp); have d11 := hRd.cell 1 _ rfl; have g11 := hRd.froz 1 (by simp); have d12 := hRd.cell 2 _ rfl; have g12 := hRd.froz 2 (by simp); have d13 := hRd.cell 3 _ rfl; have g13 := hRd.froz 3 (by simp); have d14 := hRd.cell 4 _ rfl; have g14 := hRd.froz 4 (by simp); have d15 := hRd.cell 5 _ rfl; have g15 := hRd.froz 5 (by simp); have d16 := hRd.cell 6 _ rfl; have g16 := hRd.froz 6 (by simp); have d17 := hRd.cell 7 _ rfl; have g17 := hRd.froz 7 (by simp); have d18 := hRd.cell 8 _ rfl; have g18 := hRd.froz 8 (by simp); have d19 := hRd.cell 9 _ rfl; have g19 := hRd.froz 9 (by simp); have d110 := hRd.cell 10 _ rfl; have g110 := hRd.froz 10 (by simp); have d111 := hRd.cell 11 _ rfl; have g111 := hRd.froz 11 (by simp); have HO3 := hid ho3; have HG3 := hid hg3; have hl10 : w9.heap.size < w10.heap.size := hRo.lt; have HB10 := hid (HXB.out.trans (hb10.mono (by simp; omega))); have HW9 := hid hb10; clear hRo hRd ho3 hg3 hb10))
      have hg9s := HG9.out.own.lt g9 rfl
      have hgn : ∀ g, a3 = some ⟨g, 0, none⟩ → prcells rs ≠ [] → w9.heap.size < g := fun g hg hne => by have := HG3.out g (by subst hg; exact blk_pos _ _ _ (ne_of_prcells hne)); simp at this; omega
      have hap : Apart a3 rs.length (some ⟨g9, 0, none⟩) (acc.length + 3) := by
        cases hb : blk a3 rs.length with
        | none => exact .inl hb
        | some g =>
          have := HG3.out g hb
          simp at this
          refine .inr (.inr fun e => ?_)
          rw [hb, blk_pos _ _ _ (by omega)] at e
          cases e
          omega
      have hrow9 : Row w10 g9 (opcells (putOps q acc ++ [(true, 0, ByteArray.empty), (false, (T + 1) % 2, rp), (true, 0, ByteArray.empty)])) := by
        rw [opcells_append]
        exact (owns_row HG9.out.own).below ((Below.refl _ _).alloc (Nat.le_refl _) _ |>.trans (HW9.out.mono (by simp)))
      rw [← HAE.out]
      have hlen : (putOps q acc ++ [(true, 0, ByteArray.empty), (false, (T + 1) % 2, rp), (true, 0, ByteArray.empty)]).length = acc.length + 3 := by simp [putOps_length]
      refine bodyPost_ret (v := dnV ⟨0, (n : Int), S, L, T + 1, 1 - H, F + Q, L, (acc.length : Int), 0, rs, putOps q acc ++ [(true, 0, ByteArray.empty), (false, (T + 1) % 2, rp), (true, 0, ByteArray.empty)]⟩ a3 c3 (some ⟨g9, 0, none⟩) cap9) (by simp [results, Tryz.results22, go_sem, dnV, hlen, putOps_length, d10, d11, d12, d13, d14, d15, d16, d17, d18, d19, d110, d111]) rfl ⟨a3, c3, _, cap9, rfl, hc3, ⟨?_, ?_, ?_⟩, ?_, ?_, ?_⟩
      · iterate 12 (refine OwnS.set' ?_ _ (fun g hg hne => by have := hgn g hg hne; show w.heap.size + 1 ≠ g; omega) _)
        exact OwnS.set' HO3.out _ (fun g hg hne => by have := hgn g hg hne; show w9.heap.size ≠ g; omega) _
      · refine .inr ⟨g9, rfl, ?_⟩
        iterate 12 (refine Row.other ?_ _ (by show w.heap.size + 1 ≠ g9; omega) _)
        exact hrow9.other _ (by show w9.heap.size ≠ g9; omega) _
      · show Apart _ _ _ (putOps q acc ++ _).length
        rw [hlen]; exact hap
      · exact fun g hg => by have := HG3.out g hg; simp at this; omega
      · exact fun g hg => by change blk _ (putOps q acc ++ _).length = _ at hg; rw [hlen, blk_pos _ _ _ (by omega)] at hg; cases hg; omega
      · iterate 12 (refine Below.setCell ?_ (by show w.heap.size ≤ w.heap.size + 1; omega) _)
        exact (HBB.out.trans (HB10.out.mono (by omega))).setCell (p := ⟨w9.heap.size, 9, none⟩) (by show w.heap.size ≤ w9.heap.size; omega) _
set_option maxHeartbeats 8000000 in
theorem move_s (W S L T H F R U O : Int) (a : Option Addr) (rs : List Pr) (c : Nat) (w : World) (h : Prs w a rs) (hl : rs.length ≤ 1048576) (hs : ∀ x ∈ rs, x.1.size ≤ 1048576 ∧ x.2.size ≤ 1048576) (hok : mvOk W S L T H F rs) :
    Calls Tryz.prog 22 #[storeV W S L T H F R U O a rs.length c] w fun x w' => DnPost w w' x (moveD W S L T H F rs) := by
  unfold moveD mvFit
  by_cases hfit : T + 1 ≤ 1000000000 ∧ F + hv S ≤ 999999000
  case pos =>
    rw [decide_eq_true hfit]
    simp only [if_true]
    obtain ⟨hW, _⟩ := id hok
    obtain ⟨n, rfl⟩ : ∃ n : Nat, W = (n : Int) := ⟨W.toNat, by omega⟩
    exact move_s_ok S L T H F R U O n (56 - n) a rs c w h hl hs (by omega) (by omega) (by omega) hok hfit
  case neg =>
    rw [decide_eq_false hfit]
    simp only [Bool.false_eq_true, if_false]
    obtain ⟨hW, hS, hL, hT, hH, hF, _⟩ := hok
    have hQ := hv_yes hS
    have HH := hid (fun w' => halves_s S w')
    unfold storeV
    obtain ⟨Q, HQ⟩ : ∃ Q, Hid (Q = hv S) := ⟨_, hid rfl⟩
    rw [← HQ.out] at hQ HH hfit
    clear h hl hs
    go_enter Tryz.func22, Tryz.ntmps22
    go_wp2_with (first | (go_at_call 38; refine (HH.out _).mono ?_; rintro e wz ⟨rfl, hwz⟩; rw [hwz]; clear hwz wz))
    all_goals
      refine bodyPost_ret (v := dnV (noD 4) none 0 none 0) (by simp [results, Tryz.results22, go_sem, dnV, noD]) rfl (dn_no rfl ?_)
      exact (((Below.refl _ _).alloc (Nat.le_refl _) _).alloc (by simp) _).alloc (by simp <;> omega) _
end Go.Proofs.YtnmaknnnmjfhkafGreat

namespace Go.Proofs.YtnmaknnnmjfhkafGreat
open Go.RowKit
set_option linter.unusedVariables false

/-- A fact that hangs on the blocks from lo up to hi alone. -/
structure Dep (w : World) (lo hi : Nat) (F : World → Prop) : Prop where
  now : F w
  top : hi ≤ w.heap.size
  keep : ∀ w' : World, (∀ b, lo ≤ b → b < hi → w'.heap[b]? = w.heap[b]?) → hi ≤ w'.heap.size → F w'
theorem Dep.below {w w' : World} {lo hi : Nat} {F : World → Prop} (h : Dep w lo hi F) (hb : Below w.heap.size w w') : Dep w' lo hi F :=
  ⟨h.keep w' (fun b _ h2 => hb.block b (Nat.lt_of_lt_of_le h2 h.top)) (Nat.le_trans h.top hb.size), Nat.le_trans h.top hb.size, fun w2 h2 h3 => h.keep w2 (fun b h4 h5 => (h2 b h4 h5).trans (hb.block b (Nat.lt_of_lt_of_le h5 h.top))) h3⟩
theorem Dep.grown {w w' : World} {lo hi : Nat} {F : World → Prop} {r : Option Nat} (h : Dep w lo hi F) (hg : w.grownBy w' r) (hr : ∀ g, r = some g → g < lo ∨ hi ≤ g) : Dep w' lo hi F := by
  have key : ∀ b, lo ≤ b → b < hi → w'.heap[b]? = w.heap[b]? := fun b h1 h2 => hg.block b (Nat.lt_of_lt_of_le h2 h.top) (fun e => by have := hr b e.symm; omega)
  exact ⟨h.keep w' key (Nat.le_trans h.top hg.size), Nat.le_trans h.top hg.size, fun w2 h2 h3 => h.keep w2 (fun b h4 h5 => (h2 b h4 h5).trans (key b h4 h5)) h3⟩
theorem Dep.and {w : World} {lo hi : Nat} {F G : World → Prop} (h : Dep w lo hi F) (k : Dep w lo hi G) : Dep w lo hi (fun w => F w ∧ G w) := ⟨⟨h.now, k.now⟩, h.top, fun w' h1 h2 => ⟨h.keep w' h1 h2, k.keep w' h1 h2⟩⟩
theorem Dep.wide {w : World} {lo hi lo' hi' : Nat} {F : World → Prop} (h : Dep w lo hi F) (h1 : lo' ≤ lo) (h2 : hi ≤ hi') (h3 : hi' ≤ w.heap.size) : Dep w lo' hi' F := ⟨h.now, h3, fun w' k1 k2 => h.keep w' (fun b a c => k1 b (by omega) (by omega)) (by omega)⟩
theorem row_same {w w' : World} {g : Nat} {cs : List Value} (h : Row w g cs) (e : w'.heap[g]? = w.heap[g]?) (hs : g < w'.heap.size) : Row w' g cs :=
  ⟨hs, fun i v hv => by rw [← h.cell i v hv]; simp [World.cell?, e], fun i hi => by rw [← h.froz i hi]; simp [World.frozen?, e]⟩
theorem dep_row {w : World} {g lo hi : Nat} {cs : List Value} (h : Row w g cs) (h1 : lo ≤ g) (h2 : g < hi) (h3 : hi ≤ w.heap.size) : Dep w lo hi (fun w => Row w g cs) := ⟨h, h3, fun w' k1 k2 => row_same h (k1 g h1 h2) (by omega)⟩
theorem dep_own {w : World} {a : Option Addr} {lo n : Nat} {cs : List Value} (h : OwnS w a cs) (hn : cs ≠ [] → n ≠ 0) (h1 : ∀ g, blk a n = some g → lo ≤ g) : Dep w lo w.heap.size (fun w => OwnS w a cs) :=
  ⟨h, Nat.le_refl _, fun w' k1 k2 => by
    by_cases h0 : cs = []
    · exact .inl h0
    · obtain ⟨g, rfl, hr⟩ := h.resolve_left h0
      exact .inr ⟨g, rfl, row_same hr (k1 g (h1 g (blk_pos _ _ _ (hn h0))) hr.lt) (Nat.lt_of_lt_of_le hr.lt k2)⟩⟩
theorem Dep.cut {w : World} {a : Option Addr} {lo hi : Nat} {cs : List Value} (h : Dep w lo w.heap.size (fun w => OwnS w a cs)) (h1 : ∀ g, a = some ⟨g, 0, none⟩ → cs ≠ [] → g < hi) (h2 : hi ≤ w.heap.size) (h3 : ∀ g, a = some ⟨g, 0, none⟩ → cs ≠ [] → lo ≤ g) : Dep w lo hi (fun w => OwnS w a cs) :=
  ⟨h.now, h2, fun w' k1 k2 => by
    by_cases h0 : cs = []
    · exact .inl h0
    · obtain ⟨g, rfl, hr⟩ := h.now.resolve_left h0
      exact .inr ⟨g, rfl, row_same hr (k1 g (h3 g rfl h0) (h1 g rfl h0)) (Nat.lt_of_lt_of_le (h1 g rfl h0) k2)⟩⟩
theorem blk_is {g n k : Nat} (h : blk (some ⟨g, 0, none⟩) n = some k) : k = g := by
  unfold blk at h
  split at h
  · cases h
  · simp at h; exact h.symm
theorem Dep.low {w w' : World} {lo hi N : Nat} {F : World → Prop} (h : Dep w lo hi F) (hb : Below N w w') (hN : hi ≤ N) : Dep w' lo hi F :=
  ⟨h.keep w' (fun b _ h2 => hb.block b (by omega)) (Nat.le_trans h.top hb.size), Nat.le_trans h.top hb.size, fun w2 h2 h3 => h.keep w2 (fun b h4 h5 => (h2 b h4 h5).trans (hb.block b (by omega))) h3⟩
theorem dep_box (w : World) (A : Array Value) (t : TypeId) : Dep (w.alloc (.cells A t)) w.heap.size (w.heap.size + 1) (fun W => Row W w.heap.size A.toList) := dep_row (row_new w A t) (Nat.le_refl _) (by omega) (by simp)
theorem blk_le {a : Option Addr} {n g : Nat} {cs : List Value} {w : World} (h : OwnS w a cs) (hn : n ≠ 0 → cs ≠ []) (hg : blk a n = some g) : g < w.heap.size := h.lt n hn g hg
end Go.Proofs.YtnmaknnnmjfhkafGreat

namespace Go.Proofs.YtnmaknnnmjfhkafGreat
open Go.RowKit
set_option linter.unusedVariables false
set_option linter.unusedSimpArgs false
set_option maxRecDepth 8000

/-- What a writer is behind one op more. -/
theorem wrt_push {W w w9 : World} {base g g9 cap9 : Nat} {va : Option Addr} {vc : Nat} {os : List OpT} {x : OpT} {at_ nm lf wd : Int} {o : Obj} (h : Wrt w base g (.slice va os.length vc) os at_ nm lf wd) (hb : base ≤ w.heap.size) (hB : Below base W w)
    (hown : w9.ownsRow base 75 3 (.slice (some ⟨g9, 0, none⟩) (os.length + 1) cap9) (os.length + 1) (opcells os ++ [.bool x.1, .int .i64 x.2.1, .string x.2.2])) (hg : (w.alloc o).grownBy w9 (Value.slice va os.length vc).ownBlock)
    (hat : (Value.slice va os.length vc).ownBlock = some g9 ∨ g9 = w.heap.size + 1) :
    Row w9 g [.slice va os.length vc, .int .i64 at_, .int .i64 nm, .int .i64 lf, .int .i64 wd] ∧ Wrt (w9.setCell ⟨g, 0, none⟩ (.slice (some ⟨g9, 0, none⟩) (os.length + 1) cap9)) base g (.slice (some ⟨g9, 0, none⟩) (os.length + 1) cap9) (os ++ [x]) at_ nm lf wd ∧ Below base W w9 ∧ Below base W (w9.setCell ⟨g, 0, none⟩ (.slice (some ⟨g9, 0, none⟩) (os.length + 1) cap9)) := by
  have hr := (h.row.alloc o).grown hg (fun e => h.ne e.symm)
  have lg := h.row.lt
  have hne9 : g9 ≠ g := by
    rcases hat with e | e
    · exact fun e2 => h.ne (by rw [← e2]; exact e)
    · omega
  have hB9 := below_grownS (hB.alloc hb _) (h.own.alloc o) hg (by simp; omega)
  have hrow := hr.set 0 (by simp) (.slice (some ⟨g9, 0, none⟩) (os.length + 1) cap9)
  refine ⟨hr, ⟨hrow, ?_, h.ge, by simp [Value.ownBlock]; exact hne9⟩, hB9, hB9.setCell (p := ⟨g, 0, none⟩) h.ge _⟩
  have hgs : w9.grownBy (w9.setCell ⟨g, 0, none⟩ (.slice (some ⟨g9, 0, none⟩) (os.length + 1) cap9)) (some g) := ⟨rfl, rfl, rfl, by simp [World.setCell], fun k _ hk => Below.heap_setCell _ _ _ k (fun e => hk (by rw [e]))⟩
  have := hown.kept hgs (.inr (by simp [Value.ownBlock]; exact hne9))
  obtain ⟨b, n, s⟩ := x
  rw [List.length_append, opcells_append]
  exact this
theorem Wrt.sl {w : World} {base g : Nat} {v : Value} {os : List OpT} {at_ nm lf wd : Int} (h : Wrt w base g v os at_ nm lf wd) : ∃ va vc, v = Value.slice va os.length vc := by
  rcases owns_forms h.own with ⟨e1, e2⟩ | ⟨g, cap, e1, _⟩
  · exact ⟨none, 0, by rw [e1, e2]⟩
  · exact ⟨_, cap, e1⟩

theorem Wrt.count {w : World} {base g : Nat} {v : Value} {os : List OpT} {at_ nm lf wd : Int} {x y : Int} (h : Wrt w base g v os at_ nm lf wd) : Wrt ((w.setCell ⟨g, 1, none⟩ (.int .i64 x)).setCell ⟨g, 2, none⟩ (.int .i64 y)) base g v os x y lf wd := by
  refine ⟨(h.row.set 1 (by simp) (.int .i64 x)).set 2 (by simp) (.int .i64 y), ?_, h.ge, h.ne⟩
  have hgs : w.grownBy ((w.setCell ⟨g, 1, none⟩ (.int .i64 x)).setCell ⟨g, 2, none⟩ (.int .i64 y)) (some g) := ⟨rfl, rfl, rfl, by simp [World.setCell], fun k _ hk => (Below.heap_setCell _ _ _ k (fun e => hk (by rw [e]))).trans (Below.heap_setCell _ _ _ k (fun e => hk (by rw [e])))⟩
  exact h.own.kept hgs (.inr h.ne)

/-- What a writer leaves as it was: all but itself and its row. -/
structure WK (g : Nat) (w : World) (v : Value) (w' : World) (v' : Value) : Prop where
  size : w.heap.size ≤ w'.heap.size
  own : ∀ k, v'.ownBlock = some k → v.ownBlock = some k ∨ w.heap.size ≤ k
  blk : ∀ b, b < w.heap.size → b ≠ g → some b ≠ v.ownBlock → w'.heap[b]? = w.heap[b]?
theorem WK.start (g : Nat) (w : World) (v : Value) : WK g w v w v := ⟨Nat.le_refl _, fun _ h => .inl h, fun _ _ _ _ => rfl⟩
theorem WK.trans {g : Nat} {w w1 w2 : World} {v v1 v2 : Value} (h : WK g w v w1 v1) (k : WK g w1 v1 w2 v2) : WK g w v w2 v2 :=
  ⟨Nat.le_trans h.size k.size, fun j hj => (k.own j hj).elim (h.own j) (fun e => .inr (Nat.le_trans h.size e)), fun b hb h1 h2 => (k.blk b (Nat.lt_of_lt_of_le hb h.size) h1 (fun e => (h.own b e.symm).elim (fun e => h2 e.symm) (fun e => by omega))).trans (h.blk b hb h1 h2)⟩
theorem WK.below {g : Nat} {w w1 w2 : World} {v v1 : Value} (h : WK g w v w1 v1) (k : Below w1.heap.size w1 w2) : WK g w v w2 v1 := h.trans ⟨k.size, fun _ h => .inl h, fun b hb _ _ => k.block b hb⟩
theorem Row.wk {w w' : World} {k g : Nat} {v v' : Value} {cs : List Value} (h : Row w k cs) (hk : WK g w v w' v') (h1 : k ≠ g) (h2 : some k ≠ v.ownBlock) : Row w' k cs := by
  have e := hk.blk k h.lt h1 h2
  refine ⟨Nat.lt_of_lt_of_le h.lt hk.size, fun i v hv => (?_ : w'.cell? ⟨k, i, none⟩ = some v), fun i hi => ?_⟩
  · rw [← h.cell i v hv]; simp [World.cell?, e]
  · rw [← h.froz i hi]; simp [World.frozen?, e]
theorem push_blocks {w w9 : World} {g : Nat} {r : Option Nat} {o : Obj} {u x y : Value} (hg : (w.alloc o).grownBy w9 r) : ∀ b, b < w.heap.size → b ≠ g → some b ≠ r → (((w9.setCell ⟨g, 0, none⟩ u).setCell ⟨g, 1, none⟩ x).setCell ⟨g, 2, none⟩ y).heap[b]? = w.heap[b]? := fun b hb h1 h2 => by
  rw [Below.heap_setCell _ _ _ b (fun e => h1 (by rw [e])), Below.heap_setCell _ _ _ b (fun e => h1 (by rw [e])), Below.heap_setCell _ _ _ b (fun e => h1 (by rw [e])), hg.block b (by simp; omega) h2]
  exact ((Below.refl w.heap.size w).alloc (Nat.le_refl _) o).block b hb
set_option maxHeartbeats 4000000 in
theorem page_i2 (base g : Nat) (v : Value) (os : List OpT) (at_ nm lf wd : Int) (form : ByteArray) (w : World) (h : Wrt w base g v os at_ nm lf wd) (hb : base ≤ w.heap.size) (hl : os.length ≤ 1000) (ha0 : 0 ≤ at_) (ha1 : at_ ≤ 100000) (hn0 : 0 ≤ nm) (hn1 : nm ≤ 2000000000) :
    Calls Tryz.prog 92 #[.pointer (some ⟨g, 0, none⟩), .string form] w fun e w' => (∃ x, e = .returned x) ∧ ∃ v', Wrt w' base g v' (os ++ [(false, at_, form)]) (at_ + 1) (nm + 1) lf wd ∧ Below base w w' ∧ WK g w v w' v' := by
  obtain ⟨i0, hi0, hz0, hz1, hz2⟩ := info_partsP info_opW
  have HI := hid (And.intro hi0 (And.intro hz0 (And.intro hz1 hz2)))
  clear hi0 hz0 hz1 hz2
  obtain ⟨va, vc, rfl⟩ := h.sl
  have q0 : w.drew.cell? ⟨g, 0, none⟩ = some (.slice va os.length vc) := h.row.drew.cell 0 _ rfl
  have qa : (w.drew.alloc (.cells #[.bool false, .int .i64 at_, .string form] 75)).cell? ⟨g, 0, none⟩ = some (.slice va os.length vc) := (h.row.drew.alloc _).cell 0 _ rfl
  have q00 : w.cell? ⟨g, 0, none⟩ = some (.slice va os.length vc) := h.row.cell 0 _ rfl
  have lg := h.row.lt
  have HW := hid h
  have HOA := hid (owns_below h.own ((Below.refl _ _).drew.alloc (Nat.le_refl _) (.cells #[.bool false, .int .i64 at_, .string form] 75)))
  have HSA : Hid ((w.drew.alloc (.cells #[.bool false, .int .i64 at_, .string form] 75)).cell? ⟨g, 1, none⟩ = some (.int .i64 at_) ∧ g < (w.drew.alloc (.cells #[.bool false, .int .i64 at_, .string form] 75)).heap.size) := ⟨(h.row.drew.alloc _).cell 1 _ rfl, (h.row.drew.alloc _).lt⟩
  go_enter Tryz.func92, Tryz.ntmps92
  go_wp2_with fail

  refine wp_region_held_drew (S := fun w' => w'.cell? ⟨g, 1, none⟩ = some (.int .i64 at_) ∧ g < w'.heap.size) (by kernel_rfl) (⟨h.row.drew.cell 1 _ rfl, h.row.drew.lt⟩) (fun hHeld => ?_)
  refine wpAnyH_take (i := 0) (v := .pointer (some ⟨g, 0, none⟩)) rfl (by kernel_rfl) (by kernel_rfl) (by kernel_rfl) (fun _ _ _ h => h) (Or.inl ⟨by rfl, fun w hw => by obtain ⟨z0, z1⟩ := hw; go_simp⟩) hHeld ?_
  simp only [Act.put, List.getElem_toArray, List.getElem_cons_zero, List.getElem_cons_succ, List.setIfInBounds_toArray, List.set_cons_zero, List.set_cons_succ]
  refine wpAnyH_take (i := 1) (v := .pointer (some ⟨g, 0, none⟩)) rfl (by kernel_rfl) (by kernel_rfl) (by kernel_rfl) (fun _ _ _ h => h) (Or.inl ⟨by rfl, fun w hw => by obtain ⟨z0, z1⟩ := hw; go_simp⟩) hHeld ?_
  simp only [Act.put, List.getElem_toArray, List.getElem_cons_zero, List.getElem_cons_succ, List.setIfInBounds_toArray, List.set_cons_zero, List.set_cons_succ]
  refine wpAnyH_take (i := 2) (v := .pointer (some ⟨g, 0, none⟩)) rfl (by kernel_rfl) (by kernel_rfl) (by kernel_rfl) (fun _ _ _ h => h) (Or.inl ⟨by rfl, fun w hw => by obtain ⟨z0, z1⟩ := hw; go_simp⟩) hHeld ?_
  simp only [Act.put, List.getElem_toArray, List.getElem_cons_zero, List.getElem_cons_succ, List.setIfInBounds_toArray, List.set_cons_zero, List.set_cons_succ]
  refine wpAnyH_take (i := 3) (v := .pointer (some ⟨g, 0, none⟩)) rfl (by kernel_rfl) (by kernel_rfl) (by kernel_rfl) (fun _ _ _ h => h) (Or.inl ⟨by rfl, fun w hw => by obtain ⟨z0, z1⟩ := hw; go_simp⟩) hHeld ?_
  simp only [Act.put, List.getElem_toArray, List.getElem_cons_zero, List.getElem_cons_succ, List.setIfInBounds_toArray, List.set_cons_zero, List.set_cons_succ]
  refine wpAnyH_take (i := 5) (v := .pointer (some ⟨g, 0, none⟩)) rfl (by kernel_rfl) (by kernel_rfl) (by kernel_rfl) (fun _ _ _ h => h) (Or.inl ⟨by rfl, fun w hw => by obtain ⟨z0, z1⟩ := hw; go_simp⟩) hHeld ?_
  simp only [Act.put, List.getElem_toArray, List.getElem_cons_zero, List.getElem_cons_succ, List.setIfInBounds_toArray, List.set_cons_zero, List.set_cons_succ]
  refine wpAnyH_take (i := 6) (v := .pointer (some ⟨g, 0, none⟩)) rfl (by kernel_rfl) (by kernel_rfl) (by kernel_rfl) (fun _ _ _ h => h) (Or.inl ⟨by rfl, fun w hw => by obtain ⟨z0, z1⟩ := hw; go_simp⟩) hHeld ?_
  simp only [Act.put, List.getElem_toArray, List.getElem_cons_zero, List.getElem_cons_succ, List.setIfInBounds_toArray, List.set_cons_zero, List.set_cons_succ]
  refine wpAnyH_take (i := 7) (v := .pointer (some ⟨g, 1, none⟩)) rfl (by kernel_rfl) (by kernel_rfl) (by kernel_rfl) (fun _ _ _ h => h) (Or.inl ⟨by rfl, fun w hw => by obtain ⟨z0, z1⟩ := hw; go_simp⟩) hHeld ?_
  simp only [Act.put, List.getElem_toArray, List.getElem_cons_zero, List.getElem_cons_succ, List.setIfInBounds_toArray, List.set_cons_zero, List.set_cons_succ]
  refine wpAnyH_take (i := 8) (v := .int .i64 at_) rfl (by kernel_rfl) (by kernel_rfl) (by kernel_rfl) (fun _ _ _ h => h) (Or.inl ⟨by rfl, fun w hw => by obtain ⟨z0, z1⟩ := hw; go_simp⟩) hHeld ?_
  simp only [Act.put, List.getElem_toArray, List.getElem_cons_zero, List.getElem_cons_succ, List.setIfInBounds_toArray, List.set_cons_zero, List.set_cons_succ]
  refine wpAnyH_take (i := 9) (v := .string form) rfl (by kernel_rfl) (by kernel_rfl) (by kernel_rfl) (fun _ _ _ h => h) (Or.inl ⟨by rfl, fun w hw => by obtain ⟨z0, z1⟩ := hw; go_simp⟩) hHeld ?_
  simp only [Act.put, List.getElem_toArray, List.getElem_cons_zero, List.getElem_cons_succ, List.setIfInBounds_toArray, List.set_cons_zero, List.set_cons_succ]
  refine wpAnyH_take (i := 10) (v := .agg #[.bool false, .int .i64 at_, .string form]) rfl (by kernel_rfl) (by kernel_rfl) (by kernel_rfl) (fun _ _ _ h => h) (Or.inl ⟨by rfl, fun w hw => by obtain ⟨z0, z1⟩ := hw; go_simp⟩) hHeld ?_
  simp only [Act.put, List.getElem_toArray, List.getElem_cons_zero, List.getElem_cons_succ, List.setIfInBounds_toArray, List.set_cons_zero, List.set_cons_succ]
  refine wpAnyH_ready (rs := [4, 11]) (by kernel_rfl) (by simp) ?_
  refine AllReadyH.cons rfl (fun K hK => ?_) (AllReadyH.cons rfl (fun K hK => ?_) AllReadyH.nil)
  · go_simp
    refine hK.out _ _ hHeld (fun _ => ?_)
    clear hK K
    try simp only [Act.put, List.getElem_toArray, List.getElem_cons_zero, List.getElem_cons_succ, List.setIfInBounds_toArray, List.set_cons_zero, List.set_cons_succ]
    refine wpAnyH_ready (rs := [11]) (by kernel_rfl) (by simp) ?_
    refine AllReadyH.cons rfl (fun K hK => ?_) AllReadyH.nil
    go_simp
    refine hK.out _ _ (HSA.out) (fun hHd2 => ?_)
    clear hK K
    try simp only [Act.put, List.getElem_toArray, List.getElem_cons_zero, List.getElem_cons_succ, List.setIfInBounds_toArray, List.set_cons_zero, List.set_cons_succ]
    refine wpAnyH_ready (rs := [12]) (by kernel_rfl) (by simp) ?_
    refine AllReadyH.cons rfl (fun K hK => ?_) AllReadyH.nil
    refine step_append_lies _ (by rfl) _ _ _ (by rfl) base 75 i0 (.agg #[.bool false, .int .i64 0, .string ByteArray.empty]) 3 32 Tryz.underlying36 HI.out.1 HI.out.2.1 HI.out.2.2.1 HI.out.2.2.2 rfl (by omega) (.slice va os.length vc) os.length _ (by rfl) HOA.out ⟨w.heap.size, 0, none⟩ 1 1 [.bool false, .int .i64 at_, .string form] (by rfl) rfl (World.news_of_block (heap_alloc_new w.drew _)) (oneOp _ _ _) (by omega) (by unfold maxLen; omega) (by omega) (by simp <;> omega) (w.heap.size + 1) (by simp) ?_
    intro g9 cap9 w9 hown9 hgrow9 hat9 hlt9
    have hend := wrt_push (x := (false, at_, form)) HW.out hb (Below.refl _ _) hown9 (undrew' hgrow9) hat9
    have HEND := hid hend
    have q9 := hend.1.cell 0 _ rfl
    have q91 := hend.1.cell 1 _ rfl
    have r9 := hend.1.froz 0 (by simp)
    have lg9 := hend.1.lt
    have HGR := hid (undrew' hgrow9)
    have HAT := hid hat9
    clear hown9 hgrow9 hat9 hend
    refine hK.out _ _ (⟨q91, lg9⟩) (fun hHd3 => ?_)
    clear hK K
    try simp only [Act.put, List.getElem_toArray, List.getElem_cons_zero, List.getElem_cons_succ, List.setIfInBounds_toArray, List.set_cons_zero, List.set_cons_succ]
    refine wpAnyH_take (i := 13) (v := .pointer (some ⟨g, 0, none⟩)) rfl (by kernel_rfl) (by kernel_rfl) (by kernel_rfl) (fun _ _ _ h => h) (Or.inl ⟨by rfl, fun w hw => by obtain ⟨z0, z1⟩ := hw; go_simp⟩) hHd3 ?_
    simp only [Act.put, List.getElem_toArray, List.getElem_cons_zero, List.getElem_cons_succ, List.setIfInBounds_toArray, List.set_cons_zero, List.set_cons_succ]
    refine wpAnyH_take (i := 14) (v := .pointer (some ⟨g, 0, none⟩)) rfl (by kernel_rfl) (by kernel_rfl) (by kernel_rfl) (fun _ _ _ h => h) (Or.inl ⟨by rfl, fun w hw => by obtain ⟨z0, z1⟩ := hw; go_simp⟩) hHd3 ?_
    simp only [Act.put, List.getElem_toArray, List.getElem_cons_zero, List.getElem_cons_succ, List.setIfInBounds_toArray, List.set_cons_zero, List.set_cons_succ]
    refine wpAnyH_ready (rs := [15]) (by kernel_rfl) (by simp) ?_
    refine AllReadyH.cons rfl (fun K hK => ?_) AllReadyH.nil
    go_simp
    refine hK.out _ _ (⟨by go_simp, by simpa [World.setCell] using lg9⟩) (fun hHd4 => ?_)
    clear hK K
    try simp only [Act.put, List.getElem_toArray, List.getElem_cons_zero, List.getElem_cons_succ, List.setIfInBounds_toArray, List.set_cons_zero, List.set_cons_succ]
    refine wpAnyH_done (by kernel_rfl) ?_ _
    have h1 := HEND.out.2.1.row.cell 1 _ rfl
    have h2 := HEND.out.2.1.row.cell 2 _ rfl
    have f1 := HEND.out.2.1.row.froz 1 (by simp)
    have f2 := HEND.out.2.1.row.froz 2 (by simp)
    have hl0 := HEND.out.2.1.row.lt
    clear q9 q91 r9 lg9
    have HPB := hid (fun x y => push_blocks (g := g) (u := .slice (some ⟨g9, 0, none⟩) (os.length + 1) cap9) (x := x) (y := y) HGR.out)
    obtain ⟨w8, hw8⟩ : ∃ w8, w8 = w9.setCell ⟨g, 0, none⟩ (.slice (some ⟨g9, 0, none⟩) (os.length + 1) cap9) := ⟨_, rfl⟩
    rw [← hw8] at h1 h2 f1 f2 HEND HPB hl0 ⊢
    clear hw8
    go_wp2
    go_end0
    refine ⟨⟨_, rfl⟩, .slice (some ⟨g9, 0, none⟩) (os.length + 1) cap9, HEND.out.2.1.count, (HEND.out.2.2.2.setCell (p := ⟨g, 1, none⟩) h.ge _).setCell (p := ⟨g, 2, none⟩) h.ge _, ((HEND.out.2.2.2.setCell (p := ⟨g, 1, none⟩) h.ge _).setCell (p := ⟨g, 2, none⟩) h.ge _).size, fun k hk => ?_, HPB.out _ _⟩
    have : k = g9 := by simp [Value.ownBlock] at hk; exact hk.symm
    subst this
    rcases HAT.out with h1 | h1
    · exact .inl h1
    · right; omega
  · go_simp
    refine hK.out _ _ (HSA.out) (fun hHd5 => ?_)
    clear hK K
    try simp only [Act.put, List.getElem_toArray, List.getElem_cons_zero, List.getElem_cons_succ, List.setIfInBounds_toArray, List.set_cons_zero, List.set_cons_succ]
    refine wpAnyH_ready (rs := [4]) (by kernel_rfl) (by simp) ?_
    refine AllReadyH.cons rfl (fun K hK => ?_) AllReadyH.nil
    go_simp
    refine hK.out _ _ hHd5 (fun _ => ?_)
    clear hK K
    try simp only [Act.put, List.getElem_toArray, List.getElem_cons_zero, List.getElem_cons_succ, List.setIfInBounds_toArray, List.set_cons_zero, List.set_cons_succ]
    refine wpAnyH_ready (rs := [12]) (by kernel_rfl) (by simp) ?_
    refine AllReadyH.cons rfl (fun K hK => ?_) AllReadyH.nil
    refine step_append_lies _ (by rfl) _ _ _ (by rfl) base 75 i0 (.agg #[.bool false, .int .i64 0, .string ByteArray.empty]) 3 32 Tryz.underlying36 HI.out.1 HI.out.2.1 HI.out.2.2.1 HI.out.2.2.2 rfl (by omega) (.slice va os.length vc) os.length _ (by rfl) HOA.out ⟨w.heap.size, 0, none⟩ 1 1 [.bool false, .int .i64 at_, .string form] (by rfl) rfl (World.news_of_block (heap_alloc_new w.drew _)) (oneOp _ _ _) (by omega) (by unfold maxLen; omega) (by omega) (by simp <;> omega) (w.heap.size + 1) (by simp) ?_
    intro g9 cap9 w9 hown9 hgrow9 hat9 hlt9
    have hend := wrt_push (x := (false, at_, form)) HW.out hb (Below.refl _ _) hown9 (undrew' hgrow9) hat9
    have HEND := hid hend
    have q9 := hend.1.cell 0 _ rfl
    have q91 := hend.1.cell 1 _ rfl
    have r9 := hend.1.froz 0 (by simp)
    have lg9 := hend.1.lt
    have HGR := hid (undrew' hgrow9)
    have HAT := hid hat9
    clear hown9 hgrow9 hat9 hend
    refine hK.out _ _ (⟨q91, lg9⟩) (fun hHd7 => ?_)
    clear hK K
    try simp only [Act.put, List.getElem_toArray, List.getElem_cons_zero, List.getElem_cons_succ, List.setIfInBounds_toArray, List.set_cons_zero, List.set_cons_succ]
    refine wpAnyH_take (i := 13) (v := .pointer (some ⟨g, 0, none⟩)) rfl (by kernel_rfl) (by kernel_rfl) (by kernel_rfl) (fun _ _ _ h => h) (Or.inl ⟨by rfl, fun w hw => by obtain ⟨z0, z1⟩ := hw; go_simp⟩) hHd7 ?_
    simp only [Act.put, List.getElem_toArray, List.getElem_cons_zero, List.getElem_cons_succ, List.setIfInBounds_toArray, List.set_cons_zero, List.set_cons_succ]
    refine wpAnyH_take (i := 14) (v := .pointer (some ⟨g, 0, none⟩)) rfl (by kernel_rfl) (by kernel_rfl) (by kernel_rfl) (fun _ _ _ h => h) (Or.inl ⟨by rfl, fun w hw => by obtain ⟨z0, z1⟩ := hw; go_simp⟩) hHd7 ?_
    simp only [Act.put, List.getElem_toArray, List.getElem_cons_zero, List.getElem_cons_succ, List.setIfInBounds_toArray, List.set_cons_zero, List.set_cons_succ]
    refine wpAnyH_ready (rs := [15]) (by kernel_rfl) (by simp) ?_
    refine AllReadyH.cons rfl (fun K hK => ?_) AllReadyH.nil
    go_simp
    refine hK.out _ _ (⟨by go_simp, by simpa [World.setCell] using lg9⟩) (fun hHd8 => ?_)
    clear hK K
    try simp only [Act.put, List.getElem_toArray, List.getElem_cons_zero, List.getElem_cons_succ, List.setIfInBounds_toArray, List.set_cons_zero, List.set_cons_succ]
    refine wpAnyH_done (by kernel_rfl) ?_ _
    have h1 := HEND.out.2.1.row.cell 1 _ rfl
    have h2 := HEND.out.2.1.row.cell 2 _ rfl
    have f1 := HEND.out.2.1.row.froz 1 (by simp)
    have f2 := HEND.out.2.1.row.froz 2 (by simp)
    have hl0 := HEND.out.2.1.row.lt
    clear q9 q91 r9 lg9
    have HPB := hid (fun x y => push_blocks (g := g) (u := .slice (some ⟨g9, 0, none⟩) (os.length + 1) cap9) (x := x) (y := y) HGR.out)
    obtain ⟨w8, hw8⟩ : ∃ w8, w8 = w9.setCell ⟨g, 0, none⟩ (.slice (some ⟨g9, 0, none⟩) (os.length + 1) cap9) := ⟨_, rfl⟩
    rw [← hw8] at h1 h2 f1 f2 HEND HPB hl0 ⊢
    clear hw8
    go_wp2
    go_end0
    refine ⟨⟨_, rfl⟩, .slice (some ⟨g9, 0, none⟩) (os.length + 1) cap9, HEND.out.2.1.count, (HEND.out.2.2.2.setCell (p := ⟨g, 1, none⟩) h.ge _).setCell (p := ⟨g, 2, none⟩) h.ge _, ((HEND.out.2.2.2.setCell (p := ⟨g, 1, none⟩) h.ge _).setCell (p := ⟨g, 2, none⟩) h.ge _).size, fun k hk => ?_, HPB.out _ _⟩
    have : k = g9 := by simp [Value.ownBlock] at hk; exact hk.symm
    subst this
    rcases HAT.out with h1 | h1
    · exact .inl h1
    · right; omega
theorem page_i (base g : Nat) (v : Value) (os : List OpT) (at_ nm lf wd : Int) (form : ByteArray) (w : World) (h : Wrt w base g v os at_ nm lf wd) (hb : base ≤ w.heap.size) (hl : os.length ≤ 1000) (ha0 : 0 ≤ at_) (ha1 : at_ ≤ 100000) (hn0 : 0 ≤ nm) (hn1 : nm ≤ 2000000000) :
    Calls Tryz.prog 92 #[.pointer (some ⟨g, 0, none⟩), .string form] w fun e w' => (∃ x, e = .returned x) ∧ (∃ v', Wrt w' base g v' (os ++ [(false, at_, form)]) (at_ + 1) (nm + 1) lf wd) ∧ Below base w w' :=
  (page_i2 base g v os at_ nm lf wd form w h hb hl ha0 ha1 hn0 hn1).mono fun e w' ⟨h1, v', h2, h3, _⟩ => ⟨h1, ⟨v', h2⟩, h3⟩
end Go.Proofs.YtnmaknnnmjfhkafGreat

namespace Go.Proofs.YtnmaknnnmjfhkafGreat
open Go.RowKit
set_option maxRecDepth 4000
set_option linter.unusedVariables false
set_option linter.unusedSimpArgs false
/-- A root's box and a row of bytes behind a world: the box stands. -/
structure RI (W w : World) (c0 c1 c2 c3 : Value) : Prop where
  size : W.heap.size + 2 ≤ w.heap.size
  bel : Below W.heap.size W w
  b0 : w.cell? ⟨W.heap.size, 0, none⟩ = some c0
  b1 : w.cell? ⟨W.heap.size, 1, none⟩ = some c1
  b2 : w.cell? ⟨W.heap.size, 2, none⟩ = some c2
  b3 : w.cell? ⟨W.heap.size, 3, none⟩ = some c3
section
variable {W w w' : World} {c0 c1 c2 c3 : Value}
theorem RI.drew (h : RI W w c0 c1 c2 c3) : RI W w.drew c0 c1 c2 c3 := ⟨h.size, h.bel.drew, h.b0, h.b1, h.b2, h.b3⟩
theorem RI.past (h : RI W w c0 c1 c2 c3) (hb : Below (W.heap.size + 1) w w') : RI W w' c0 c1 c2 c3 :=
  have hs := h.size
  ⟨Nat.le_trans hs hb.size, h.bel.trans (hb.mono (by omega)), (hb.cell (p := ⟨_, 0, none⟩) (by show W.heap.size < _; omega)).trans h.b0, (hb.cell (p := ⟨_, 1, none⟩) (by show W.heap.size < _; omega)).trans h.b1,
    (hb.cell (p := ⟨_, 2, none⟩) (by show W.heap.size < _; omega)).trans h.b2, (hb.cell (p := ⟨_, 3, none⟩) (by show W.heap.size < _; omega)).trans h.b3⟩
theorem RI.below (h : RI W w c0 c1 c2 c3) (hb : Below w.heap.size w w') : RI W w' c0 c1 c2 c3 := h.past (hb.mono (by have := h.size; omega))
theorem RI.wrote {o : Nat} {ys : List Int} (h : RI W w c0 c1 c2 c3) (hw : Wrote w w' (W.heap.size + 1) o ys) : RI W w' c0 c1 c2 c3 := h.past (hw.below (Nat.le_refl _))
theorem RI.toS (h : RI W w c0 c1 c2 c3) : w.cell? ⟨W.heap.size, 0, none⟩ = some c0 ∧ w.cell? ⟨W.heap.size, 1, none⟩ = some c1 ∧ w.cell? ⟨W.heap.size, 2, none⟩ = some c2 ∧ w.cell? ⟨W.heap.size, 3, none⟩ = some c3 ∧ RI W w c0 c1 c2 c3 := ⟨h.b0, h.b1, h.b2, h.b3, h⟩
theorem RI.ofS (h : w.cell? ⟨W.heap.size, 0, none⟩ = some c0 ∧ w.cell? ⟨W.heap.size, 1, none⟩ = some c1 ∧ w.cell? ⟨W.heap.size, 2, none⟩ = some c2 ∧ w.cell? ⟨W.heap.size, 3, none⟩ = some c3 ∧ RI W w c0 c1 c2 c3) : RI W w c0 c1 c2 c3 := h.2.2.2.2
end
theorem wp_start5 {P : Program} {c : Code} {Q : Exit → Act → World → Prop} {a : Act} (w : World) (c0 c1 c2 c3 : Value) (t1 t2 : TypeId)
    (h : ∀ wa, RI w wa c0 c1 c2 c3 → Fm wa (w.heap.size + 1) [0, 0, 0, 0, 0] → c.wp P Q a wa) :
    c.wp P Q a ((w.alloc (.cells #[c0, c1, c2, c3] t1)).alloc (.cells #[.int .u8 0, .int .u8 0, .int .u8 0, .int .u8 0, .int .u8 0] t2)) := by
  refine h _ ⟨by simp, ((Below.refl _ _).alloc (Nat.le_refl _) _).alloc (by simp) _, by simp, by simp, by simp, by simp⟩ ⟨fun i hi => ?_, fun i hi => ?_⟩
  · rw [World.cell?_alloc_at _ _ _ _ (by simp)]
    have hi' : i < 5 := hi
    have : i = 0 ∨ i = 1 ∨ i = 2 ∨ i = 3 ∨ i = 4 := by omega
    rcases this with h | h | h | h | h <;> subst h <;> rfl
  · rw [frozen?_alloc_cells, frozen?_alloc_cells]
    exact frozen_past _ _ _ (by omega)
theorem rt_list (h f : Int) {xs1 xs2 : List Int} (h1 : xs1 = spl [0, 0, 0, 0, 0] 0 (be 1 h)) (h2 : xs2 = spl xs1 1 (be 4 f)) : strOfNums xs2 = rtPart h f := by
  have a1 : (be 1 h).length = 1 := be_length _ _
  have a2 : (be 4 f).length = 4 := be_length _ _
  unfold rtPart
  rw [← strOfNums_append]
  subst h1 h2
  congr 1
theorem rootpage_i_no (t h f l n : Int) (w : World) (hno : ¬ rtOk h f) : Calls Tryz.prog 104 #[rootV t h f l, .int .i64 n] w fun e w' => e = .returned (.string ByteArray.empty) ∧ Below w.heap.size w w' := by
  have hb0 : ∀ o, Below w.heap.size w (w.alloc o) := fun o => (Below.refl _ _).alloc (Nat.le_refl _) _
  unfold rtOk at hno
  by_cases d1 : 0 ≤ h ∧ h ≤ 1
  · have d1' : decide (0 ≤ h ∧ h ≤ 1) = true := decide_eq_true d1
    have d2' : decide (1 ≤ f ∧ f ≤ 999999000) = false := by simp; omega
    clear hno d1
    go_enter Tryz.func104, Tryz.ntmps104
    go_wp2_with (first | (go_at_call 98; refine (half_i _ _).mono ?_; rw [d1']; rintro e w1 ⟨rfl, rfl⟩) | (go_at_call 99; refine (first_i _ _).mono ?_; rw [d2']; rintro e w2 ⟨rfl, rfl⟩))
    go_ret
    exact ⟨rfl, hb0 _⟩
  · have d1' : decide (0 ≤ h ∧ h ≤ 1) = false := decide_eq_false d1
    clear hno d1
    go_enter Tryz.func104, Tryz.ntmps104
    go_wp2_with (first | (go_at_call 98; refine (half_i _ _).mono ?_; rw [d1']; rintro e w1 ⟨rfl, rfl⟩))
    go_ret
    exact ⟨rfl, hb0 _⟩
set_option maxRecDepth 4000 in
set_option maxHeartbeats 1000000 in
theorem rootpage_i_ok (t h f l n : Int) (w : World) (hok : rtOk h f) : Calls Tryz.prog 104 #[rootV t h f l, .int .i64 n] w fun e w' => e = .returned (.string (formOf 4 l t (rtPart h f) n)) ∧ Below w.heap.size w w' := by
  obtain ⟨h1, h2, h3, h4⟩ := hok
  have d1 : decide (0 ≤ h ∧ h ≤ 1) = true := by simp; omega
  have d2 : decide (1 ≤ f ∧ f ≤ 999999000) = true := by simp; omega
  have u1 : IntKind.u64.wrap h = h := wrap_u64_id h (by omega) (by omega)
  have u2 : IntKind.u64.wrap f = f := wrap_u64_id f (by omega) (by omega)
  obtain ⟨pt, HPT⟩ : ∃ pt, Hid (pt = rtPart h f) := ⟨_, hide rfl⟩
  rw [← HPT.out]
  go_enter Tryz.func104, Tryz.ntmps104
  go_wp2_with (first | (go_at_call 98; refine (half_i _ _).mono ?_; rw [d1]; rintro e w1 ⟨rfl, rfl⟩) | (go_at_call 99; refine (first_i _ _).mono ?_; rw [d2]; rintro e w2 ⟨rfl, rfl⟩))
  refine wp_start5 w (.int .i64 t) (.int .i64 h) (.int .i64 f) (.int .i64 l) _ _ ?_
  intro wa hpi0 hfm0
  have HS0 := hide hpi0.toS
  clear hpi0
  go_region_held3 (fun w' => w'.cell? ⟨w.heap.size, 0, none⟩ = some (.int .i64 t) ∧ w'.cell? ⟨w.heap.size, 1, none⟩ = some (.int .i64 h) ∧ w'.cell? ⟨w.heap.size, 2, none⟩ = some (.int .i64 f) ∧ w'.cell? ⟨w.heap.size, 3, none⟩ = some (.int .i64 l) ∧ RI w w' (.int .i64 t) (.int .i64 h) (.int .i64 f) (.int .i64 l))
    (first | assumption | exact (RI.ofS HS0.out).drew.toS | exact (RI.wrote (RI.ofS (by assumption)) (by assumption)).toS)
    (first | (go_at_call 113; refine (put_any (w.heap.size + 1) 0 1 5 h _ (by omega) (by omega) (by omega) (fun i hi => ⟨_, hfm0.drew.cell (0 + i) (by simp; omega)⟩) (fun i hi => hfm0.drew.froz (0 + i) (by simp; omega))).mono ?_; rintro e wb ⟨rfl, hw0⟩))
  have hpi1 : RI w wb (.int .i64 t) (.int .i64 h) (.int .i64 f) (.int .i64 l) := RI.ofS (by assumption)
  have hfm1 := hfm0.drew.wrote hw0 (by rw [be_length]; simp)
  obtain ⟨xs1, HX1⟩ : ∃ xs1, Hid (xs1 = spl [0, 0, 0, 0, 0] 0 (be 1 h)) := ⟨_, hide rfl⟩
  have hl1 : xs1.length = 5 := by rw [HX1.out, spl_length _ _ _ (by rw [be_length]; simp)]; rfl
  rw [← HX1.out] at hfm1
  clear HS0 hw0 hfm0
  go_wp2_with fail
  have HS1 := hide hpi1.toS
  clear hpi1
  go_region_held3 (fun w' => w'.cell? ⟨w.heap.size, 0, none⟩ = some (.int .i64 t) ∧ w'.cell? ⟨w.heap.size, 1, none⟩ = some (.int .i64 h) ∧ w'.cell? ⟨w.heap.size, 2, none⟩ = some (.int .i64 f) ∧ w'.cell? ⟨w.heap.size, 3, none⟩ = some (.int .i64 l) ∧ RI w w' (.int .i64 t) (.int .i64 h) (.int .i64 f) (.int .i64 l))
    (first | assumption | exact (RI.ofS HS1.out).drew.toS | exact (RI.wrote (RI.ofS (by assumption)) (by assumption)).toS)
    (first | (go_at_call 113; refine (put_any (w.heap.size + 1) 1 4 4 f _ (by omega) (by omega) (by omega) (fun i hi => ⟨_, hfm1.drew.cell (1 + i) (by rw [hl1]; omega)⟩) (fun i hi => hfm1.drew.froz (1 + i) (by rw [hl1]; omega))).mono ?_; rintro e wc ⟨rfl, hw1⟩))
  have hpi2 : RI w wc (.int .i64 t) (.int .i64 h) (.int .i64 f) (.int .i64 l) := RI.ofS (by assumption)
  have hfm2 := hfm1.drew.wrote hw1 (by rw [be_length, hl1]; omega)
  obtain ⟨xs2, HX2⟩ : ∃ xs2, Hid (xs2 = spl xs1 1 (be 4 f)) := ⟨_, hide rfl⟩
  have hl2 : xs2.length = 5 := by rw [HX2.out, spl_length _ _ _ (by rw [be_length, hl1]; omega), hl1]
  rw [← HX2.out] at hfm2
  have hPt : strOfNums xs2 = rtPart h f := rt_list h f HX1.out HX2.out
  rw [← HPT.out] at hPt
  have hpz : pt.size ≤ 1048576 := by rw [← hPt, strOfNums_size, hl2]; omega
  have hcv : ∀ wx, Fm wx (w.heap.size + 1) xs2 → (convert 112 9 (.slice (some ⟨w.heap.size + 1, 0, none⟩) 5 5)).run Tryz.prog wx = .ok (.string pt) wx := fun wx hf => by
    have := hf.text (P := Tryz.prog) 112 5 9 Tryz.underlying112 Tryz.underlying5 Tryz.underlying9 0 5 5 (by omega)
    rw [List.drop_zero, List.take_of_length_le (by omega), hPt] at this
    exact this
  have HCV := hide hcv
  have HFM := hide hfm2
  clear HS1 hw1 hfm1 hfm2 hcv
  go_wp2_with fail
  have HS2 := hide hpi2.toS
  clear hpi2
  have hFl : w.heap.size + 1 < wc.heap.size := by have := (RI.ofS HS2.out).size; omega
  go_region_held3 (fun w' => (convert 112 9 (.slice (some ⟨w.heap.size + 1, 0, none⟩) 5 5)).run Tryz.prog w' = .ok (.string pt) w' ∧ w'.cell? ⟨w.heap.size, 0, none⟩ = some (.int .i64 t) ∧ w'.cell? ⟨w.heap.size, 3, none⟩ = some (.int .i64 l) ∧ RI w w' (.int .i64 t) (.int .i64 h) (.int .i64 f) (.int .i64 l))
    (first | assumption | exact ⟨HCV.out _ HFM.out.drew, (RI.ofS HS2.out).drew.b0, (RI.ofS HS2.out).drew.b3, (RI.ofS HS2.out).drew⟩ | exact ⟨HCV.out _ (HFM.out.drew.below hb4 hFl), ((RI.ofS HS2.out).drew.below hb4).b0, ((RI.ofS HS2.out).drew.below hb4).b3, (RI.ofS HS2.out).drew.below hb4⟩)
    (first | (go_at_call 111; refine (form_i_any 4 l t pt n _ hpz).mono ?_; rintro e w4 ⟨rfl, hb4⟩))
  rename_i hSl
  have hbl := hSl.2.2.2.bel
  clear hSl
  go_wp2
  go_ret
  exact ⟨rfl, hbl⟩
theorem rootpage_i_any (t h f l n : Int) (w : World) : Calls Tryz.prog 104 #[rootV t h f l, .int .i64 n] w fun e w' => e = .returned (.string (rtForm t h f l n)) ∧ Below w.heap.size w w' := by
  unfold rtForm
  by_cases hok : rtOk h f
  · rw [if_pos hok]; exact rootpage_i_ok t h f l n w hok
  · rw [if_neg hok]; exact rootpage_i_no t h f l n w hok
end Go.Proofs.YtnmaknnnmjfhkafGreat

namespace Go.Proofs.YtnmaknnnmjfhkafGreat
open Go.RowKit
set_option linter.unusedVariables false

theorem part_short (s r : ByteArray) (a m : Nat) (h : r = s.extract a s.size) (hm : r.size ≤ m) : r = s.extract a (a + m) := extract_all s r a m h hm
theorem rest_short (s r : ByteArray) (a m : Nat) (h : r = s.extract a s.size) (hm : r.size ≤ m) : ByteArray.empty = s.extract (a + m) s.size := by
  subst h
  simp only [ByteArray.size_extract] at hm
  apply ByteArray.ext
  symm
  apply Array.eq_empty_of_size_eq_zero
  show (ByteArray.size _) = 0
  simp only [ByteArray.size_extract]
  omega
theorem last_iff (s r : ByteArray) (k m N : Nat) (hN : N = nparts s.size m) (hm : 0 < m) (hk : k < N) (h : r = s.extract (k * m) s.size) : r.size ≤ m ↔ k + 1 = N := by
  subst h
  rw [hN] at hk ⊢
  rw [← nparts_last s.size m k hm hk]
  simp only [ByteArray.size_extract, Nat.add_mul, Nat.one_mul]
  omega
theorem pageOk_cut (K l x : Int) (p : ByteArray) (n m : Nat) (hm : n + m = 56) (h1 : 1 ≤ n) (h2 : n ≤ 8) (hK : K = 1 ∨ K = 2) (hp : p.size ≤ m) : pageOk K l x p (n : Int) = decide (1 ≤ l ∧ l ≤ 60000 ∧ 1 ≤ x ∧ x ≤ 1000000000) := by
  unfold pageOk
  apply decide_eq_decide.2
  rcases hK with rfl | rfl <;> constructor <;> intro h <;> omega
theorem notall {f : Int} {k : Nat} (l : Int) (P : Nat → Prop) (h : ∀ j, j < k → 1 ≤ l ∧ l ≤ 60000 ∧ 1 ≤ f + (j : Int) ∧ f + (j : Int) ≤ 1000000000) (hf1 : -9223372036854775808 ≤ f) (hf2 : f ≤ 9223372036854775807) (hk : k ≤ 1048577) : -9223372036854775808 ≤ f + (k : Int) ∧ f + (k : Int) ≤ 9223372036854775807 := by
  rcases Nat.eq_zero_or_pos k with h0 | h0
  · subst h0; simp; omega
  · have := h 0 h0; simp at this; omega
theorem formOf_empty (k l m : Int) (p : ByteArray) (n : Int) : (formOf k l m p n).toList.isEmpty = !pageOk k l m p n := by
  rw [isEmpty_size]
  unfold formOf
  cases h : pageOk k l m p n with
  | false => simp
  | true =>
    simp only [if_true]
    have hp : 1 ≤ n ∧ n ≤ 8 ∧ (p.size : Int) ≤ 56 - n := by unfold pageOk at h; simp at h; omega
    rw [pageForm_size k l m p n.toNat (by omega)]
    rfl

set_option maxRecDepth 4000 in
set_option maxHeartbeats 1000000 in
theorem cut_i (s : ByteArray) (l f : Int) (n m : Nat) (w : World) (hs : s.size ≤ 1048576) (hm : n + m = 56) (h1 : 1 ≤ n) (h2 : n ≤ 8) (hf1 : -9223372036854775808 ≤ f) (hf2 : f ≤ 9223372036854775807) :
    Calls Tryz.prog 91 #[.string s, .int .i64 l, .int .i64 f, .int .i64 (n : Int)] w fun e w' => NewS w w' e (cutAll s l f n m) := by
  obtain ⟨N, HN⟩ : ∃ N, Hid (N = nparts s.size m) := ⟨_, hid rfl⟩
  have hN1 : N ≤ 1048577 := by have := nparts_le s.size m; rw [HN.out]; omega
  have hN0 : 0 < N := by rw [HN.out]; exact nparts_pos _ _
  have HNP : Hid (npages s.size (n : Int) = (N : Int)) := by
    show _ = _
    unfold npages
    rw [if_pos (by omega), HN.out, show (56 - (n : Int)).toNat = m by omega]
  obtain ⟨R, HR⟩ : ∃ R, Hid (R = cutAll s l f n m) := ⟨_, hid rfl⟩
  rw [← HR.out]
  obtain ⟨i0, hi0, hz0, hz1, hz2⟩ := info_parts infoStr'
  have HI := hid (And.intro hi0 (And.intro hz0 (And.intro hz1 hz2)))
  clear hi0 hz0 hz1 hz2
  go_enter Tryz.func91, Tryz.ntmps91
  go_wp2_with (first | (go_at_call 48; refine (pages_i s n _ hs).mono ?_; rw [HNP.out]; rintro e w2 ⟨rfl, hb2⟩))
  go_loopw [0, 9, 10, 11, 12, 13, 17] (fun x y _ _ _ _ i wr => ∃ (k : Nat) (r : ByteArray), k ≤ N ∧ i = .int .i64 k ∧ x = .string r ∧ Hid (r = s.extract (k * m) s.size) ∧ r.size ≤ 1048576 ∧ Hid (∀ j, j < k → 1 ≤ l ∧ l ≤ 60000 ∧ 1 ≤ f + (j : Int) ∧ f + (j : Int) ≤ 1000000000) ∧ wr.ownsRow w.heap.size 9 1 y k ((cutList s l f n m N k).map Value.string) ∧ Below w.heap.size w wr) (fun _ _ _ _ _ _ i _ => N - (intOf i).toNat)
  case atStart => exact ⟨0, s, Nat.zero_le _, rfl, rfl, by show s = _; simp, hs, fun j hj => by omega, World.ownsRow_nil _ _ _ _, hb2⟩
  case round =>
    obtain ⟨k, r, hk, rfl, rfl, HX, hrz, HOK, hown, hbel⟩ := hrel
    by_cases hlt : k < N
    · have hsz : w.heap.size ≤ wr.heap.size := hbel.size
      have HB := hid hbel
      have HOWN := hid hown
      clear hbel hown
      obtain ⟨hfk1, hfk2⟩ := notall l (fun _ => True) HOK.out hf1 hf2 (by omega)
      by_cases hrm : m < r.size
      · have hrm' : (m : Int) < (r.size : Int) := by omega
        have hne : (r.extract m r.size).toList.isEmpty = false := by rw [isEmpty_size]; simp only [ByteArray.size_extract]; simp; omega
        have hpz : (r.extract 0 m).size ≤ 1048576 := by simp only [ByteArray.size_extract]; omega
        have HPZ : Hid ((r.extract 0 m).size ≤ m) := by show _ ≤ _; simp only [ByteArray.size_extract]; omega
        have HPE : Hid ((r.extract 0 m) = s.extract (k * m) (k * m + m)) := by show _ = _; exact extract_part s r _ m HX.out
        have HRE : Hid ((r.extract m r.size) = s.extract ((k + 1) * m) s.size) := by show _ = _; rw [Nat.add_mul, Nat.one_mul]; exact extract_rest s r _ m HX.out
        have HKN : Hid ((if k + 1 = N then (2 : Int) else 1) = 1) := by show _ = _; have := last_iff s r k m N HN.out (by omega) hlt HX.out; rw [if_neg (by omega)]
        obtain ⟨F, HF⟩ : ∃ F, Hid (F = formOf 1 l (f + (k : Int)) (r.extract 0 m) (n : Int)) := ⟨_, hid rfl⟩
        have HFC : Hid (F = cutAt s l f n m N k) := by show _ = _; rw [HF.out, HPE.out]; unfold cutAt; rw [HKN.out]
        have HFE : Hid (F.toList.isEmpty = !decide (1 ≤ l ∧ l ≤ 60000 ∧ 1 ≤ f + (k : Int) ∧ f + (k : Int) ≤ 1000000000)) := by show _ = _; rw [HF.out, formOf_empty, pageOk_cut 1 l _ _ n m hm h1 h2 (by omega) HPZ.out]
        by_cases hok : 1 ≤ l ∧ l ≤ 60000 ∧ 1 ≤ f + (k : Int) ∧ f + (k : Int) ≤ 1000000000
        · have hfe : F.toList.isEmpty = false := by rw [HFE.out]; simpa using hok
          have HOK2 := hid hok
          clear hok
          go_wp2_with (first | (go_at_call 88; refine (partw_i n m _ hm h1 h2).mono ?_; rintro e w4 ⟨rfl, rfl⟩) | (go_at_call 111; refine (form_i_any 1 l (f + (k : Int)) (r.extract 0 m) (n : Int) _ hpz).mono ?_; rw [← HF.out]; rintro e w5 ⟨rfl, hb5⟩; have hs5 := hb5.size; simp only [World.size_alloc] at hs5; have HB5 := hid (HB.out.trans ((((Below.refl _ _).alloc (Nat.le_refl _) _).trans (hb5.mono (by simp))).mono hsz)); have HO5 := hid ((owns_below HOWN.out (((Below.refl _ _).alloc (Nat.le_refl _) _).trans (hb5.mono (by simp)))).alloc (.cells #[.string F] 9)); clear hb5) | (at_builtin; refine wpList_append_lies _ rfl _ _ 71 rfl w.heap.size 9 i0 (.string ByteArray.empty) 1 16 Tryz.underlying71 HI.out.1 HI.out.2.1 HI.out.2.2.1 HI.out.2.2.2 rfl (by omega) _ k _ rfl HO5.out ⟨w5.heap.size, 0, none⟩ 1 1 [.string F] rfl rfl (World.news_of_block (heap_alloc_new w5 _)) (by intro u hu; simp at hu; subst hu; rfl) (by omega) (by unfold maxLen; omega) (by omega) (by simp; omega) (w5.heap.size + 1) (by simp) ?_; intro g' cap w7 hown7 hgrow7 hat7 hlt7; have HO7 := hid hown7; have HB7 := hid (below_grown (HB5.out.alloc (by omega) _) HO5.out hgrow7 (by simp; omega)); clear hown7 hgrow7 hat7))
          refine ⟨⟨k + 1, (r.extract m r.size), by omega, by go_num, rfl, HRE.out, by simp only [ByteArray.size_extract]; omega, fun j hj => ?_, ?_, HB7.out⟩, by simp [intOf]; omega⟩
          · rcases Nat.lt_or_ge j k with h | h
            · exact HOK.out j h
            · have : j = k := by omega
              subst this; exact HOK2.out
          · rw [cutList_succ, List.map_append, ← HFC.out]; exact HO7.out
        · have hfe : F.toList.isEmpty = true := by rw [HFE.out, decide_eq_false hok]; rfl
          have HRR : Hid (R = []) := by show _ = _; rw [HR.out]; exact cutAll_no HN.out (by omega)
          clear hok
          go_wp2_with (first | (go_at_call 88; refine (partw_i n m _ hm h1 h2).mono ?_; rintro e w4 ⟨rfl, rfl⟩) | (go_at_call 111; refine (form_i_any 1 l (f + (k : Int)) (r.extract 0 m) (n : Int) _ hpz).mono ?_; rw [← HF.out]; rintro e w5 ⟨rfl, hb5⟩; have hs5 := hb5.size; simp only [World.size_alloc] at hs5; have HB5 := hid (HB.out.trans ((((Below.refl _ _).alloc (Nat.le_refl _) _).trans (hb5.mono (by simp))).mono hsz)); have HO5 := hid ((owns_below HOWN.out (((Below.refl _ _).alloc (Nat.le_refl _) _).trans (hb5.mono (by simp)))).alloc (.cells #[.string F] 9)); clear hb5))
          go_ret
          rw [HRR.out]
          exact newS_nil rfl HB5.out
      · have hrm' : (r.size : Int) ≤ (m : Int) := by omega
        have hpz : r.size ≤ 1048576 := by omega
        have HPZ : Hid (r.size ≤ m) := by show _ ≤ _; omega
        have HPE : Hid (r = s.extract (k * m) (k * m + m)) := by show _ = _; exact part_short s r _ m HX.out (by omega)
        have HRE : Hid (ByteArray.empty = s.extract ((k + 1) * m) s.size) := by show _ = _; rw [Nat.add_mul, Nat.one_mul]; exact rest_short s r _ m HX.out (by omega)
        have HKN : Hid ((if k + 1 = N then (2 : Int) else 1) = 2) := by show _ = _; have := last_iff s r k m N HN.out (by omega) hlt HX.out; rw [if_pos (by omega)]
        obtain ⟨F, HF⟩ : ∃ F, Hid (F = formOf 2 l (f + (k : Int)) r (n : Int)) := ⟨_, hid rfl⟩
        have HFC : Hid (F = cutAt s l f n m N k) := by show _ = _; rw [HF.out, HPE.out]; unfold cutAt; rw [HKN.out]
        have HFE : Hid (F.toList.isEmpty = !decide (1 ≤ l ∧ l ≤ 60000 ∧ 1 ≤ f + (k : Int) ∧ f + (k : Int) ≤ 1000000000)) := by show _ = _; rw [HF.out, formOf_empty, pageOk_cut 2 l _ _ n m hm h1 h2 (by omega) HPZ.out]
        by_cases hok : 1 ≤ l ∧ l ≤ 60000 ∧ 1 ≤ f + (k : Int) ∧ f + (k : Int) ≤ 1000000000
        · have hfe : F.toList.isEmpty = false := by rw [HFE.out]; simpa using hok
          have HOK2 := hid hok
          clear hok
          go_wp2_with (first | (go_at_call 88; refine (partw_i n m _ hm h1 h2).mono ?_; rintro e w4 ⟨rfl, rfl⟩) | (go_at_call 111; refine (form_i_any 2 l (f + (k : Int)) r (n : Int) _ hpz).mono ?_; rw [← HF.out]; rintro e w5 ⟨rfl, hb5⟩; have hs5 := hb5.size; simp only [World.size_alloc] at hs5; have HB5 := hid (HB.out.trans ((((Below.refl _ _).alloc (Nat.le_refl _) _).trans (hb5.mono (by simp))).mono hsz)); have HO5 := hid ((owns_below HOWN.out (((Below.refl _ _).alloc (Nat.le_refl _) _).trans (hb5.mono (by simp)))).alloc (.cells #[.string F] 9)); clear hb5) | (at_builtin; refine wpList_append_lies _ rfl _ _ 71 rfl w.heap.size 9 i0 (.string ByteArray.empty) 1 16 Tryz.underlying71 HI.out.1 HI.out.2.1 HI.out.2.2.1 HI.out.2.2.2 rfl (by omega) _ k _ rfl HO5.out ⟨w5.heap.size, 0, none⟩ 1 1 [.string F] rfl rfl (World.news_of_block (heap_alloc_new w5 _)) (by intro u hu; simp at hu; subst hu; rfl) (by omega) (by unfold maxLen; omega) (by omega) (by simp; omega) (w5.heap.size + 1) (by simp) ?_; intro g' cap w7 hown7 hgrow7 hat7 hlt7; have HO7 := hid hown7; have HB7 := hid (below_grown (HB5.out.alloc (by omega) _) HO5.out hgrow7 (by simp; omega)); clear hown7 hgrow7 hat7))
          refine ⟨⟨k + 1, ByteArray.empty, by omega, by go_num, rfl, HRE.out, by simp, fun j hj => ?_, ?_, HB7.out⟩, by simp [intOf]; omega⟩
          · rcases Nat.lt_or_ge j k with h | h
            · exact HOK.out j h
            · have : j = k := by omega
              subst this; exact HOK2.out
          · rw [cutList_succ, List.map_append, ← HFC.out]; exact HO7.out
        · have hfe : F.toList.isEmpty = true := by rw [HFE.out, decide_eq_false hok]; rfl
          have HRR : Hid (R = []) := by show _ = _; rw [HR.out]; exact cutAll_no HN.out (by omega)
          clear hok
          go_wp2_with (first | (go_at_call 88; refine (partw_i n m _ hm h1 h2).mono ?_; rintro e w4 ⟨rfl, rfl⟩) | (go_at_call 111; refine (form_i_any 2 l (f + (k : Int)) r (n : Int) _ hpz).mono ?_; rw [← HF.out]; rintro e w5 ⟨rfl, hb5⟩; have hs5 := hb5.size; simp only [World.size_alloc] at hs5; have HB5 := hid (HB.out.trans ((((Below.refl _ _).alloc (Nat.le_refl _) _).trans (hb5.mono (by simp))).mono hsz)); have HO5 := hid ((owns_below HOWN.out (((Below.refl _ _).alloc (Nat.le_refl _) _).trans (hb5.mono (by simp)))).alloc (.cells #[.string F] 9)); clear hb5))
          go_ret
          rw [HRR.out]
          exact newS_nil rfl HB5.out
    · have hkN : k = N := by omega
      subst hkN
      have HRR : Hid (R = cutList s l f n m k k) := by
        show _ = _
        rw [HR.out]
        have h0 := HOK.out 0 hN0
        have h3 := HOK.out (k - 1) (by omega)
        exact cutAll_yes HN.out (by omega)
      have HO := hid hown
      clear hown
      go_wp2
      go_ret
      rw [HRR.out]
      exact newS_of HO.out (cutList_length _ _ _ _ _ _ _).symm hbel

theorem cut_i_no (s : ByteArray) (l f n : Int) (w : World) (hs : s.size ≤ 1048576) (hn : ¬ (1 ≤ n ∧ n ≤ 8)) :
    Calls Tryz.prog 91 #[.string s, .int .i64 l, .int .i64 f, .int .i64 n] w fun e w' => NewS w w' e [] := by
  have HNP : Hid (npages s.size n = 0) := by show _ = _; unfold npages; exact if_neg hn
  clear hn
  go_enter Tryz.func91, Tryz.ntmps91
  go_wp2_with (first | (go_at_call 48; refine (pages_i s n _ hs).mono ?_; rw [HNP.out]; rintro e w2 ⟨rfl, hb2⟩))
  go_loopw [9, 17] (fun y i wr => i = .int .i64 0 ∧ y = .slice none 0 0 ∧ Below w.heap.size w wr) (fun _ _ _ => 0)
  case atStart => exact ⟨rfl, rfl, hb2⟩
  case round =>
    obtain ⟨rfl, rfl, hbel⟩ := hrel
    go_wp2
    go_ret
    exact newS_nil rfl hbel
end Go.Proofs.YtnmaknnnmjfhkafGreat
