import Derived.Shelf.Small.Strs
import Derived.Test.YtnmaknnnmjfhkagGreatDoorProg
import Derived.Sort.Walk0
import Derived.WalkKit
import Derived.WalkSpells
import Derived.WalkLawsBesides
import Derived.Outline
import Derived.Test.YtnmaknnnmjfhkagGreatDoorPrG29
import Derived.Test.YtnmaknnnmjfhkagGreatDoorPrG30
set_option maxHeartbeats 16000000
set_option maxRecDepth 8000
namespace Go.Proofs.YtnmaknnnmjfhkagGreatDoor
open Go.Shelf
def cRen : Go.Shelf.Ren := ⟨fun | 106 => 207 | 213 => 256 | 265 => 282 | n => n, fun | 9 => 9 | 3 => 3 | n => n, fun | n => n⟩
theorem cLays106 : Go.Proofs.Lays.n106 Tryz.prog cRen := {
  mixed := by kernel_rfl
  f106 := Tryz.func207.trans (congrArg some (by kernel_rfl))
  f213 := Tryz.func256.trans (congrArg some (by kernel_rfl))
  f265 := Tryz.func282.trans (congrArg some (by kernel_rfl))
  t3 := Tryz.underlying3
  a3 := Tryz.isAgg3
  z3 := Tryz.sizeOf3
  v3 := Tryz.zeroValue3
  t9 := Tryz.underlying9
  a9 := Tryz.isAgg9
  z9 := Tryz.sizeOf9
  v9 := Tryz.zeroValue9 }
def cmpB (a b : ByteArray) : Int := Lib.compareBytes a.data.toList b.data.toList
open Go.RowKit in
theorem compare_i (a b : ByteArray) (w : World) : Calls Tryz.prog 207 #[.string a, .string b] w fun e w' => e = .returned (.int .i64 (cmpB a b)) ∧ w' = w := Any.strings_Compare cLays106 a b w
end Go.Proofs.YtnmaknnnmjfhkagGreatDoor

namespace Go.Proofs.YtnmaknnnmjfhkagGreatDoor
open Go.RowKit Go.Sort
set_option maxRecDepth 4000
set_option linter.unusedVariables false
set_option linter.unusedSimpArgs false
theorem u8_tri (a b : UInt8) (h1 : ¬ a < b) (h2 : ¬ b < a) : a = b := by
  apply UInt8.toNat_inj.1
  rw [UInt8.lt_iff_toNat_lt] at h1 h2
  omega
theorem cb_lt : ∀ (x y : List UInt8), Lib.compareBytes x y < 0 ↔ x < y
  | [], [] => by simp [Lib.compareBytes]
  | [], b :: l2 => by simp [Lib.compareBytes]
  | a :: l, [] => by simp [Lib.compareBytes]
  | a :: l, b :: l2 => by
    rw [List.cons_lt_cons_iff]
    unfold Lib.compareBytes
    split
    · rename_i h; simp [h]
    · rename_i h
      split
      · rename_i h2
        have hne : ¬ a = b := fun e => by subst e; exact h h2
        simp [h, hne]
      · rename_i h2
        have e := u8_tri a b h h2
        subst e
        rw [cb_lt l l2]
        simp [h]
theorem cb_zero : ∀ (x y : List UInt8), Lib.compareBytes x y = 0 ↔ x = y
  | [], [] => by simp [Lib.compareBytes]
  | [], b :: l2 => by simp [Lib.compareBytes]
  | a :: l, [] => by simp [Lib.compareBytes]
  | a :: l, b :: l2 => by
    unfold Lib.compareBytes
    split
    · rename_i h
      have hne : ¬ a = b := fun e => by subst e; rw [UInt8.lt_iff_toNat_lt] at h; omega
      simp [hne]
    · rename_i h
      split
      · rename_i h2
        have hne : ¬ a = b := fun e => by subst e; exact h h2
        simp [hne]
      · rename_i h2
        have e := u8_tri a b h h2
        subst e
        rw [cb_zero l l2]
        simp
theorem cmpB_lt (a b : ByteArray) : cmpB a b < 0 ↔ Op.bytesLess a.toList b.toList = true := by
  unfold cmpB
  rw [cb_lt, bytesLess_eq, decide_eq_true_eq, ByteArray.toList_eq, ByteArray.toList_eq]
theorem cmpB_zero (a b : ByteArray) : cmpB a b = 0 ↔ a = b := by
  unfold cmpB
  rw [cb_zero]
  constructor
  · intro h; exact ByteArray.ext (Array.ext' h)
  · intro h; rw [h]
theorem cmp_i (k v key : ByteArray) (w : World) : Calls Tryz.prog 206 #[.agg #[.string k, .string v], .string key] w fun e w' => e = .returned (.int .i64 (cmpB k key)) ∧ Below w.heap.size w w' := by
  go_enter Tryz.func206, Tryz.ntmps206
  go_wp2_with (go_at_call 207; refine (compare_i k key _).mono ?_; rintro e w2 ⟨rfl, rfl⟩)
  go_ret
  exact ⟨rfl, (Below.refl _ _).alloc (Nat.le_refl _) _⟩
def kAt (rs : List (ByteArray × ByteArray)) (t : Nat) : ByteArray := (rs.getD t (ByteArray.empty, ByteArray.empty)).1
set_option maxHeartbeats 16000000 in
theorem bs_i (a : Option Addr) (rs : List (ByteArray × ByteArray)) (c : Nat) (key : ByteArray) (w : World) (h : Prs w a rs) (hl : rs.length ≤ 1048576) (hmono : Hid (∀ t m, t ≤ m → m < rs.length → cmpB (kAt rs m) key < 0 → cmpB (kAt rs t) key < 0)) :
    Calls Tryz.prog 205 #[.slice a rs.length c, .string key, .func (.func 206) #[] #[]] w fun e w' =>
      ∃ p : Nat, p ≤ rs.length ∧ (∀ t, t < p → cmpB (kAt rs t) key < 0) ∧ (∀ t, p ≤ t → t < rs.length → 0 ≤ cmpB (kAt rs t) key) ∧ e = .returned (.tuple #[.int .i64 (p : Int), .bool (decide (p < rs.length ∧ cmpB (kAt rs p) key = 0))]) ∧ Below w.heap.size w w' := by
  go_enter Tryz.func205, Tryz.ntmps205
  go_wp2_with fail
  go_loopw [9, 10, 11] (fun i j _ wr => ∃ p q : Nat, p ≤ q ∧ q ≤ rs.length ∧ i = .int .i64 (p : Int) ∧ j = .int .i64 (q : Int) ∧ Hid (∀ t, t < p → cmpB (kAt rs t) key < 0) ∧ Hid (∀ t, q ≤ t → t < rs.length → 0 ≤ cmpB (kAt rs t) key) ∧ Below w.heap.size w wr) (fun i j _ _ => (intOf j).toNat - (intOf i).toNat)
  case atStart => exact ⟨0, rs.length, Nat.zero_le _, Nat.le_refl _, rfl, rfl, fun t ht => by omega, fun t h1 h2 => by omega, Below.refl _ _⟩
  case round =>
    obtain ⟨p, q, hpq, hq, rfl, rfl, HA, HZ, hbel⟩ := hrel
    by_cases hlt : p < q
    · obtain ⟨m, hm⟩ : ∃ m : Nat, m = (p + q) / 2 := ⟨_, rfl⟩
      have hm1 : p ≤ m := by omega
      have hm2 : m < q := by omega
      have hmi : ((p : Int) + (q : Int)) / 2 = (m : Int) := by omega
      obtain ⟨b, o, s0, s1, rfl, hc0, hc1, HS⟩ := (h.below hbel).at (show m < rs.length by omega)
      have HK : Hid (s0 = kAt rs m) := by show _ = _; unfold kAt; rw [← HS.out]
      have hlt' : (p : Int) < (q : Int) := by omega
      obtain ⟨C, HC⟩ : ∃ C, Hid (C = cmpB s0 key) := ⟨_, hid rfl⟩
      clear hm
      have HZZ := HZ
      have HAA := HA
      clear HZ HA
      by_cases hC : C < 0
      · go_wp2_with (go_at_call 206; refine (cmp_i s0 s1 key _).mono ?_; rw [← HC.out]; rintro e w2 ⟨rfl, hb2⟩)
        refine ⟨⟨m + 1, q, by omega, hq, by go_num, rfl, fun t ht => ?_, HZZ.out, hbel.trans (hb2.mono hbel.size)⟩, by simp [intOf]; omega⟩
        exact hmono.out t m (by omega) (by omega) (by rw [← HK.out, ← HC.out]; exact hC)
      · go_wp2_with (go_at_call 206; refine (cmp_i s0 s1 key _).mono ?_; rw [← HC.out]; rintro e w2 ⟨rfl, hb2⟩)
        refine ⟨⟨p, m, by omega, by omega, rfl, rfl, HAA.out, fun t h1 h2 => Int.not_lt.1 (fun h3 => ?_), hbel.trans (hb2.mono hbel.size)⟩, by simp [intOf]; omega⟩
        have := hmono.out m t h1 h2 h3
        rw [← HK.out, ← HC.out] at this
        omega
    · have hpq' : p = q := by omega
      subst hpq'
      have HZZ := HZ
      have HAA := HA
      clear HZ HA
      by_cases hpn : p < rs.length
      · have hpn' : (p : Int) < (rs.length : Int) := by omega
        obtain ⟨b, o, s0, s1, rfl, hc0, hc1, HS⟩ := (h.below hbel).at hpn
        have HK : Hid (s0 = kAt rs p) := by show _ = _; unfold kAt; rw [← HS.out]
        obtain ⟨C, HC⟩ : ∃ C, Hid (C = cmpB s0 key) := ⟨_, hid rfl⟩
        go_wp2_with (go_at_call 206; refine (cmp_i s0 s1 key _).mono ?_; rw [← HC.out]; rintro e w2 ⟨rfl, hb2⟩)
        go_ret2
        refine ⟨p, hq, HAA.out, HZZ.out, ?_, hbel.trans (hb2.mono hbel.size)⟩
        rw [← HK.out, ← HC.out]
        simp [hpn]
        rw [Bool.eq_iff_iff]; simp
      · have hpn' : (rs.length : Int) ≤ (p : Int) := by omega
        go_wp2
        go_ret2
        refine ⟨p, hq, HAA.out, HZZ.out, ?_, hbel⟩
        simp [hpn]
end Go.Proofs.YtnmaknnnmjfhkagGreatDoor

namespace Go.Proofs.YtnmaknnnmjfhkagGreatDoor
open Go.RowKit Go.Sort
set_option maxRecDepth 4000
set_option linter.unusedVariables false
set_option linter.unusedSimpArgs false
theorem cmpB_trans (a b c : ByteArray) (h1 : cmpB a b < 0) (h2 : cmpB b c < 0) : cmpB a c < 0 := by
  unfold cmpB at *
  rw [cb_lt] at *
  exact List.lt_trans h1 h2
theorem asc_step {rs : List (ByteArray × ByteArray)} (h : stateOk rs = true) (i : Nat) (hi : i + 1 < rs.length) : cmpB (kAt rs i) (kAt rs (i + 1)) < 0 := by
  have := (stateOk_of h).2 (i + 1) hi
  unfold prOk klt at this
  simp only [Nat.add_sub_cancel, Bool.and_eq_true, Bool.or_eq_true, decide_eq_true_eq] at this
  rw [cmpB_lt]
  rcases this.2 with h | h
  · omega
  · exact h
theorem asc {rs : List (ByteArray × ByteArray)} (h : stateOk rs = true) (t : Nat) : ∀ d, t + d + 1 < rs.length → cmpB (kAt rs t) (kAt rs (t + d + 1)) < 0
  | 0, hd => asc_step h t hd
  | d + 1, hd => cmpB_trans _ _ _ (asc h t d (by omega)) (asc_step h (t + d + 1) hd)
theorem asc' {rs : List (ByteArray × ByteArray)} (h : stateOk rs = true) {t u : Nat} (htu : t < u) (hu : u < rs.length) : cmpB (kAt rs t) (kAt rs u) < 0 := by
  obtain ⟨d, rfl⟩ : ∃ d, u = t + d + 1 := ⟨u - t - 1, by omega⟩
  exact asc h t d hu
theorem find_i (a : Option Addr) (rs : List (ByteArray × ByteArray)) (c : Nat) (key : ByteArray) (w : World) (h : Prs w a rs) (hl : rs.length ≤ 1048576) (hmono : Hid (∀ t m, t ≤ m → m < rs.length → cmpB (kAt rs m) key < 0 → cmpB (kAt rs t) key < 0)) :
    Calls Tryz.prog 119 #[.agg #[.string key], .slice a rs.length c] w fun e w' =>
      ∃ p : Nat, p ≤ rs.length ∧ (∀ t, t < p → cmpB (kAt rs t) key < 0) ∧ (∀ t, p ≤ t → t < rs.length → 0 ≤ cmpB (kAt rs t) key) ∧ e = .returned (.tuple #[.int .i64 (p : Int), .bool (decide (p < rs.length ∧ cmpB (kAt rs p) key = 0))]) ∧ Below w.heap.size w w' := by
  have hb0 : ∀ o, Below w.heap.size w (w.alloc o) := fun o => (Below.refl _ _).alloc (Nat.le_refl _) _
  go_enter Tryz.func119, Tryz.ntmps119
  go_wp2_with fail
  refine (bs_i a rs c key _ (h.below (hb0 _)) hl hmono).mono ?_
  rintro e w2 ⟨p, h1, h2, h3, rfl, hb2⟩
  obtain ⟨B, HB⟩ : ∃ B, Hid (B = decide (p < rs.length ∧ cmpB (kAt rs p) key = 0)) := ⟨_, hid rfl⟩
  rw [← HB.out]
  have H2 := hid h2
  have H3 := hid h3
  clear h2 h3
  go_wp2
  go_ret2
  refine ⟨p, h1, H2.out, H3.out, by rw [← HB.out]; rfl, (hb0 _).trans (hb2.mono (by simp))⟩
end Go.Proofs.YtnmaknnnmjfhkagGreatDoor

namespace Go.Proofs.YtnmaknnnmjfhkagGreatDoor
open Go.RowKit Go.Sort
set_option maxRecDepth 4000
set_option linter.unusedVariables false
set_option linter.unusedSimpArgs false
theorem cb_anti : ∀ (x y : List UInt8), 0 < Lib.compareBytes x y → Lib.compareBytes y x < 0
  | [], [] => by simp [Lib.compareBytes]
  | [], b :: l2 => by simp [Lib.compareBytes]
  | a :: l, [] => by simp [Lib.compareBytes]
  | a :: l, b :: l2 => by
    unfold Lib.compareBytes
    intro h
    by_cases h1 : a < b
    · simp [h1] at h
    · by_cases h2 : b < a
      · simp [h2]
      · simp only [h1, h2, if_false] at h ⊢
        exact cb_anti l l2 h
theorem cmpB_anti {a b : ByteArray} (h : 0 < cmpB a b) : klt b a = true := by
  have := cb_anti _ _ h
  exact (cmpB_lt b a).1 this
theorem cmpB_self (a : ByteArray) : cmpB a a = 0 := (cmpB_zero a a).2 rfl
theorem klt_no {a b : ByteArray} (h : cmpB a b < 0) : klt b a = false := by
  cases hk : klt b a with
  | false => rfl
  | true =>
    have h2 : cmpB b a < 0 := (cmpB_lt b a).2 hk
    have h3 := cmpB_trans a b a h h2
    rw [cmpB_self] at h3
    omega
theorem klt_self (a : ByteArray) : klt a a = false := by
  cases hk : klt a a with
  | false => rfl
  | true =>
    have h2 : cmpB a a < 0 := (cmpB_lt a a).2 hk
    rw [cmpB_self] at h2
    omega
def stepC (key val : ByteArray) (st : Bool × List Pr) (p : Pr) : Bool × List Pr :=
  if p.1 = key then (if (!st.1 && klt key p.1) = true then (true, st.2 ++ [(key, val)]) else st)
  else (if (!st.1 && klt key p.1) = true then (true, st.2 ++ [(key, val)] ++ [p]) else (st.1, st.2 ++ [p]))
def chW (c : Ch) (rs : List Pr) : Bool × List Pr := rs.foldl (stepC c.1 c.2.1) (c.2.2, [])
def chF (c : Ch) (rs : List Pr) : List Pr := if (chW c rs).1 = true then (chW c rs).2 else (chW c rs).2 ++ [(c.1, c.2.1)]
theorem chW_snoc (c : Ch) (rs : List Pr) (p : Pr) : chW c (rs ++ [p]) = stepC c.1 c.2.1 (chW c rs) p := by unfold chW; rw [List.foldl_append]; rfl
def ascP (rs : List Pr) : Prop := rs.Pairwise fun x y => cmpB x.1 y.1 < 0
theorem stepA (key val : ByteArray) : ∀ (l : List Pr) (g : Bool) (out : List Pr), (∀ x ∈ l, cmpB x.1 key < 0) → l.foldl (stepC key val) (g, out) = (g, out ++ l)
  | [], g, out, _ => by simp
  | x :: l, g, out, h => by
    have hx := h x List.mem_cons_self
    have hne : ¬ x.1 = key := fun e => by rw [e, cmpB_self] at hx; omega
    rw [List.foldl_cons, stepC, if_neg hne, klt_no hx, Bool.and_false, if_neg (by simp)]
    rw [stepA key val l g (out ++ [x]) (fun y hy => h y (List.mem_cons_of_mem _ hy)), List.append_assoc]
    rfl
theorem stepB (key val : ByteArray) : ∀ (l : List Pr) (out : List Pr), (∀ x ∈ l, 0 < cmpB x.1 key) → l.foldl (stepC key val) (true, out) = (true, out ++ l)
  | [], out, _ => by simp
  | x :: l, out, h => by
    have hx := h x List.mem_cons_self
    have hne : ¬ x.1 = key := fun e => by rw [e, cmpB_self] at hx; omega
    rw [List.foldl_cons, stepC, if_neg hne, if_neg (by simp)]
    rw [stepB key val l (out ++ [x]) (fun y hy => h y (List.mem_cons_of_mem _ hy)), List.append_assoc]
    rfl
def chAt (c : Ch) (a r : List Pr) : List Pr := a ++ (if c.2.2 = true then [] else [(c.1, c.2.1)]) ++ r
theorem chF_at (c : Ch) (a m r : List Pr) (ha : ∀ x ∈ a, cmpB x.1 c.1 < 0) (hm : m = [] ∨ ∃ v, m = [(c.1, v)]) (hr : ∀ x ∈ r, 0 < cmpB x.1 c.1) : chF c (a ++ m ++ r) = chAt c a r := by
  obtain ⟨key, val, g⟩ := c
  have e1 : chW (key, val, g) (a ++ m ++ r) = r.foldl (stepC key val) (g, a) := by
    unfold chW
    rw [List.append_assoc, List.foldl_append, stepA key val a g [] ha, List.nil_append, List.foldl_append]
    rcases hm with rfl | ⟨v, rfl⟩
    · rfl
    · rw [List.foldl_cons, List.foldl_nil, stepC, if_pos rfl, klt_self, Bool.and_false, if_neg (by simp)]
  unfold chF chAt
  rw [e1]
  cases g with
  | true => rw [stepB key val r a hr]; simp
  | false =>
    cases r with
    | nil => simp
    | cons x l =>
      have hx := hr x List.mem_cons_self
      have hne : ¬ x.1 = key := fun e => by rw [e, cmpB_self] at hx; omega
      rw [List.foldl_cons, stepC, if_neg hne]
      simp only [Bool.not_false, Bool.true_and]
      rw [cmpB_anti hx, if_pos rfl, stepB key val l _ (fun y hy => hr y (List.mem_cons_of_mem _ hy))]
      simp
theorem chAt_asc (c : Ch) (a m r : List Pr) (h : ascP (a ++ m ++ r)) (ha : ∀ x ∈ a, cmpB x.1 c.1 < 0) (hr : ∀ x ∈ r, 0 < cmpB x.1 c.1) : ascP (chAt c a r) := by
  unfold ascP chAt at *
  rw [List.pairwise_append, List.pairwise_append] at h
  obtain ⟨⟨h1, h2, h3⟩, h4, h5⟩ := h
  have har : ∀ x ∈ a, ∀ y ∈ r, cmpB x.1 y.1 < 0 := fun x hx y hy => h5 x (List.mem_append_left _ hx) y hy
  have hkr : ∀ y ∈ r, cmpB c.1 y.1 < 0 := fun y hy => (cmpB_lt _ _).2 (cmpB_anti (hr y hy))
  by_cases hg : c.2.2 = true
  · rw [if_pos hg, List.append_nil, List.pairwise_append]
    exact ⟨h1, h4, har⟩
  · rw [if_neg hg, List.pairwise_append, List.pairwise_append]
    refine ⟨⟨h1, by simp, fun x hx y hy => ?_⟩, h4, fun x hx y hy => ?_⟩
    · simp at hy; subst hy; exact ha x hx
    · rw [List.mem_append] at hx
      rcases hx with hx | hx
      · exact har x hx y hy
      · simp at hx; subst hx; exact hkr y hy
theorem getD_at {α : Type} (rs : List α) (i : Nat) (h : i < rs.length) {d : α} : rs.getD i d = rs[i] := by simp [List.getD, h]
theorem asc_of {rs : List Pr} (h : stateOk rs = true) : ascP rs := by
  unfold ascP
  rw [List.pairwise_iff_getElem]
  intro i j hi hj hij
  have := asc' h hij hj
  unfold kAt at this
  rwa [getD_at _ _ hi, getD_at _ _ hj] at this
theorem asc_mono {rs : List Pr} (h : ascP rs) (key : ByteArray) : ∀ t m, t ≤ m → m < rs.length → cmpB (kAt rs m) key < 0 → cmpB (kAt rs t) key < 0 := fun t m ht hm hk => by
  rcases Nat.eq_or_lt_of_le ht with e | e
  · subst e; exact hk
  · unfold ascP at h
    rw [List.pairwise_iff_getElem] at h
    have := h t m (by omega) hm e
    unfold kAt at *
    rw [getD_at _ _ hm] at hk
    rw [getD_at _ _ (by omega)]
    exact cmpB_trans _ _ _ this hk
theorem part_at {rs : List Pr} (h : ascP rs) (key : ByteArray) (p : Nat) (hp : p ≤ rs.length) (h1 : ∀ t, t < p → cmpB (kAt rs t) key < 0) (h2 : ∀ t, p ≤ t → t < rs.length → 0 ≤ cmpB (kAt rs t) key) (d : Nat) (hd : d = if p < rs.length ∧ cmpB (kAt rs p) key = 0 then 1 else 0) :
    rs = rs.take p ++ (rs.drop p).take d ++ rs.drop (p + d) ∧ (∀ x ∈ rs.take p, cmpB x.1 key < 0) ∧ ((rs.drop p).take d = [] ∨ ∃ v, (rs.drop p).take d = [(key, v)]) ∧ (∀ x ∈ rs.drop (p + d), 0 < cmpB x.1 key) := by
  have hasc := h
  unfold ascP at h
  rw [List.pairwise_iff_getElem] at h
  refine ⟨?_, ?_, ?_, ?_⟩
  · rw [List.append_assoc, ← List.drop_drop, List.take_append_drop, List.take_append_drop]
  · intro x hx
    obtain ⟨i, hi, rfl⟩ := List.getElem_of_mem hx
    rw [List.length_take] at hi
    have := h1 i (by omega)
    unfold kAt at this
    rw [getD_at _ _ (by omega)] at this
    rw [List.getElem_take]
    exact this
  · by_cases hc : p < rs.length ∧ cmpB (kAt rs p) key = 0
    · rw [if_pos hc] at hd
      subst hd
      right
      have e := (cmpB_zero _ _).1 hc.2
      unfold kAt at e
      rw [getD_at _ _ hc.1] at e
      refine ⟨(rs[p]'hc.1).2, ?_⟩
      rw [List.drop_eq_getElem_cons hc.1, List.take_succ_cons, List.take_zero]
      exact congrArg (fun k => [k]) (Prod.ext e rfl)
    · rw [if_neg hc] at hd
      subst hd
      exact .inl (by simp)
  · intro x hx
    obtain ⟨i, hi, rfl⟩ := List.getElem_of_mem hx
    rw [List.length_drop] at hi
    rw [List.getElem_drop]
    have hq := h2 (p + d + i) (by omega) (by omega)
    unfold kAt at hq
    rw [getD_at _ _ (by omega)] at hq
    rcases Int.lt_or_eq_of_le hq with h3 | h3
    · exact h3
    · exfalso
      have e := (cmpB_zero _ _).1 h3.symm
      by_cases hi0 : d + i = 0
      · have hd0 : d = 0 := by omega
        have hi0 : i = 0 := by omega
        subst hi0
        rw [hd0] at hd
        by_cases hc : p < rs.length ∧ cmpB (kAt rs p) key = 0
        · rw [if_pos hc] at hd; cases hd
        · refine hc ⟨by omega, ?_⟩
          unfold kAt
          rw [getD_at _ _ (by omega)]
          subst hd0
          exact h3.symm
      · have h4 := h p (p + d + i) (by omega) (by omega) (by omega)
        rw [e] at h4
        have h5 := h2 p (Nat.le_refl _) (by omega)
        unfold kAt at h5
        rw [getD_at _ _ (by omega)] at h5
        omega
def apU (rs : List Pr) (b : List Ch) : List Pr := b.foldl (fun s c => chF c s) rs
theorem apU_snoc (rs : List Pr) (b : List Ch) (c : Ch) : apU rs (b ++ [c]) = chF c (apU rs b) := by unfold apU; rw [List.foldl_append]; rfl
def apC (rs : List Pr) (b : List Ch) : Int := if (stateOk rs && batchOk b) = true then (if (apU rs b).length ≤ 100 then 0 else 2) else 1
def apR (rs : List Pr) (b : List Ch) : List Pr := if apC rs b = 0 then apU rs b else []
theorem chW_len (c : Ch) : ∀ (rs : List Pr) (k : Nat), k = rs.length → (chW c rs).2.length ≤ rs.length + (if (chW c rs).1 = true ∧ c.2.2 = false then 1 else 0) ∧ (c.2.2 = true → (chW c rs).1 = true)
  | rs, 0, hk => by rw [List.eq_nil_of_length_eq_zero hk.symm]; simp [chW]
  | rs, k + 1, hk => by
    obtain ⟨b, bs, rfl⟩ : ∃ b bs, rs = bs ++ [b] := by
      rcases List.eq_nil_or_concat rs with h | ⟨l, a, h⟩
      · subst h; simp at hk
      · exact ⟨a, l, by simpa using h⟩
    have ih := chW_len c bs k (by simp at hk; omega)
    rw [chW_snoc]
    obtain ⟨key, val, g⟩ := c
    generalize chW (key, val, g) bs = st at ih ⊢
    obtain ⟨d, out⟩ := st
    unfold stepC
    rw [List.length_append, List.length_singleton]
    have hk3 := klt_self key
    cases d <;> cases hk2 : klt key b.1 <;> by_cases he : b.1 = key <;> cases g <;> simp [he, hk2, hk3] at ih hk2 ⊢ <;> omega
theorem chF_len (c : Ch) (rs : List Pr) : (chF c rs).length ≤ rs.length + 1 := by
  have := (chW_len c rs _ rfl).1
  unfold chF
  split
  · split at this <;> omega
  · rename_i h
    rw [if_neg (fun e => h e.1)] at this
    rw [List.length_append]
    simp
    omega
theorem apU_len (rs : List Pr) (b : List Ch) : ∀ k, (apU rs (b.take k)).length ≤ rs.length + k
  | 0 => by simp [apU]
  | k + 1 => by
    have ih := apU_len rs b k
    by_cases h : k < b.length
    · rw [List.take_succ_eq_append_getElem h, apU_snoc]
      have := chF_len b[k] (apU rs (b.take k))
      omega
    · rw [List.take_of_length_le (by omega)] at ih ⊢
      omega
end Go.Proofs.YtnmaknnnmjfhkagGreatDoor

namespace Go.Proofs.YtnmaknnnmjfhkagGreatDoor
open Go.RowKit Go.Sort
set_option maxRecDepth 4000
set_option linter.unusedVariables false
set_option linter.unusedSimpArgs false
theorem cmpB_rev {a b : ByteArray} (h : cmpB a b < 0) : 0 < cmpB b a := by
  rcases Int.lt_trichotomy (cmpB b a) 0 with h1 | h1 | h1
  · have := cmpB_trans a b a h h1
    rw [cmpB_self] at this
    omega
  · have := (cmpB_zero _ _).1 h1
    subst this
    rw [cmpB_self] at h
    omega
  · exact h1
theorem stateOk_iff (rs : List Pr) : stateOk rs = true ↔ rs.length ≤ 100 ∧ (∀ x ∈ rs, kOk x.1 = true ∧ vOk x.2 = true) ∧ ascP rs := by
  constructor
  · intro h
    obtain ⟨h1, h2⟩ := stateOk_of h
    refine ⟨h1, fun x hx => ?_, asc_of h⟩
    obtain ⟨i, hi, rfl⟩ := List.getElem_of_mem hx
    have := h2 i hi
    unfold prOk at this
    rw [getD_at _ _ hi] at this
    simp only [Bool.and_eq_true] at this
    exact this.1
  · rintro ⟨h1, h2, h3⟩
    refine stateOk_yes h1 (fun k hk => ?_)
    unfold prOk
    have hm := h2 _ (List.getElem_mem hk)
    rw [getD_at _ _ hk, hm.1, hm.2]
    by_cases h0 : k = 0
    · simp [h0]
    · have hk1 : k - 1 < rs.length := by omega
      rw [getD_at _ _ hk1]
      unfold ascP at h3
      rw [List.pairwise_iff_getElem] at h3
      have := h3 (k - 1) k hk1 hk (by omega)
      have h4 : klt rs[k - 1].1 rs[k].1 = true := (cmpB_lt _ _).1 this
      simp [h4]
theorem split_at (key : ByteArray) : ∀ (rs : List Pr), ascP rs → ∃ a m r, rs = a ++ m ++ r ∧ (∀ x ∈ a, cmpB x.1 key < 0) ∧ (m = [] ∨ ∃ v, m = [(key, v)]) ∧ (∀ x ∈ r, 0 < cmpB x.1 key)
  | [], _ => ⟨[], [], [], rfl, by simp, .inl rfl, by simp⟩
  | x :: l, h => by
    unfold ascP at h
    rw [List.pairwise_cons] at h
    rcases Int.lt_trichotomy (cmpB x.1 key) 0 with h1 | h1 | h1
    · obtain ⟨a, m, r, e, ha, hm, hr⟩ := split_at key l h.2
      refine ⟨x :: a, m, r, by rw [e]; rfl, fun y hy => ?_, hm, hr⟩
      rcases List.mem_cons.1 hy with rfl | hy
      · exact h1
      · exact ha y hy
    · have e := (cmpB_zero _ _).1 h1
      refine ⟨[], [x], l, rfl, by simp, .inr ⟨x.2, by rw [← e]⟩, fun y hy => ?_⟩
      rw [← e]
      exact cmpB_rev (h.1 y hy)
    · refine ⟨[], [], x :: l, rfl, by simp, .inl rfl, fun y hy => ?_⟩
      rcases List.mem_cons.1 hy with rfl | hy
      · exact h1
      · have h2 : cmpB key x.1 < 0 := (cmpB_lt _ _).2 (cmpB_anti h1)
        exact cmpB_rev (cmpB_trans _ _ _ h2 (h.1 y hy))
theorem chF_split (c : Ch) (rs : List Pr) (h : ascP rs) : ∃ a m r, rs = a ++ m ++ r ∧ (∀ x ∈ a, cmpB x.1 c.1 < 0) ∧ (m = [] ∨ ∃ v, m = [(c.1, v)]) ∧ (∀ x ∈ r, 0 < cmpB x.1 c.1) ∧ chF c rs = chAt c a r := by
  obtain ⟨a, m, r, e, ha, hm, hr⟩ := split_at c.1 rs h
  exact ⟨a, m, r, e, ha, hm, hr, by rw [e]; exact chF_at c a m r ha hm hr⟩
theorem chF_asc (c : Ch) (rs : List Pr) (h : ascP rs) : ascP (chF c rs) := by
  obtain ⟨a, m, r, e, ha, hm, hr, hc⟩ := chF_split c rs h
  rw [hc]
  rw [e] at h
  exact chAt_asc c a m r h ha hr
theorem chF_mem (c : Ch) (rs : List Pr) (h : ascP rs) : ∀ x ∈ chF c rs, x ∈ rs ∨ (x = (c.1, c.2.1) ∧ c.2.2 = false) := by
  obtain ⟨a, m, r, e, ha, hm, hr, hc⟩ := chF_split c rs h
  rw [hc]
  intro x hx
  unfold chAt at hx
  rw [List.mem_append, List.mem_append] at hx
  rcases hx with (hx | hx) | hx
  · exact .inl (by rw [e]; simp [hx])
  · split at hx
    · simp at hx
    · rename_i hg
      simp at hx
      exact .inr ⟨hx, by simpa using hg⟩
  · exact .inl (by rw [e]; simp [hx])
theorem apU_asc (rs : List Pr) (h : ascP rs) : ∀ (b : List Ch), ascP (apU rs b) := by
  intro b
  unfold apU
  induction b generalizing rs with
  | nil => exact h
  | cons c l ih => exact ih _ (chF_asc c rs h)
theorem apU_mem (rs : List Pr) (h : ascP rs) : ∀ (b : List Ch), ∀ x ∈ apU rs b, x ∈ rs ∨ ∃ c ∈ b, x = (c.1, c.2.1) := by
  intro b
  unfold apU
  induction b generalizing rs with
  | nil => exact fun x hx => .inl hx
  | cons c l ih =>
    intro x hx
    rcases ih _ (chF_asc c rs h) x hx with h1 | ⟨c', h1, h2⟩
    · rcases chF_mem c rs h x h1 with h3 | h3
      · exact .inl h3
      · exact .inr ⟨c, List.mem_cons_self, h3.1⟩
    · exact .inr ⟨c', List.mem_cons_of_mem _ h1, h2⟩
theorem chOk_parts {c : Ch} (h : chOk c = true) : kOk c.1 = true ∧ vOk c.2.1 = true := by
  unfold chOk at h
  simp only [Bool.and_eq_true] at h
  exact h.1
theorem apC_zero {rs : List Pr} {b : List Ch} (h : apC rs b = 0) : stateOk rs = true ∧ batchOk b = true ∧ (apU rs b).length ≤ 100 := by
  unfold apC at h
  split at h
  · rename_i h1
    simp only [Bool.and_eq_true] at h1
    split at h
    · rename_i h2; exact ⟨h1.1, h1.2, h2⟩
    · cases h
  · cases h
theorem apU_ok {rs : List Pr} {b : List Ch} (h : apC rs b = 0) : stateOk (apU rs b) = true := by
  obtain ⟨h1, h2, h3⟩ := apC_zero h
  obtain ⟨_, k2, k3⟩ := (stateOk_iff rs).1 h1
  refine (stateOk_iff _).2 ⟨h3, fun x hx => ?_, apU_asc rs k3 b⟩
  rcases apU_mem rs k3 b x hx with h4 | ⟨c, h4, rfl⟩
  · exact k2 x h4
  · exact chOk_parts ((batchOk_of h2).2 c h4)
end Go.Proofs.YtnmaknnnmjfhkagGreatDoor
