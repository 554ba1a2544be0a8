import Derived.Test.YtnmaknnnmjfhkafGreatMgXCommit25
import Derived.Test.YtnmaknnnmjfhkafGreatQxCommitSnP
import Derived.Test.YtnmaknnnmjfhkafGreatMgXCommit21
import Derived.Test.YtnmaknnnmjfhkafGreatQxCommitVStS
import Derived.Test.YtnmaknnnmjfhkafGreatQxCommitCutB
import Derived.Test.YtnmaknnnmjfhkafGreatMgXCommit23
import Derived.Shelf.Small.Strs
import Derived.Test.YtnmaknnnmjfhkafGreatProg
import Derived.Test.YtnmaknnnmjfhkafGreatMgXCommit10
import Derived.Sort.Walk0
import Derived.WalkKit
import Derived.WalkSpells
import Derived.WalkLawsBesides
import Derived.Outline

set_option maxHeartbeats 16000000
set_option maxRecDepth 8000
namespace Go.Proofs.YtnmaknnnmjfhkafGreat
open Go.RowKit
set_option maxRecDepth 8000
set_option linter.unusedVariables false
set_option linter.unusedSimpArgs false

/-- What a call of the store comes to. -/
structure Dd where
  (C W S L T H F R U O : Int)
  rs : List Pr
  ops : List OpT
/-- It as a value. -/
def dnV (d : Dd) (a : Option Addr) (c : Nat) (b : Option Addr) (e : Nat) : Value := .agg #[.int .i64 d.C, .int .i64 d.W, .int .i64 d.S, .int .i64 d.L, .int .i64 d.T, .int .i64 d.H, .int .i64 d.F, .int .i64 d.R, .int .i64 d.U, .int .i64 d.O, .slice a d.rs.length c, .slice b d.ops.length e]
/-- Nothing of two rows is in one block. -/
def Apart (a : Option Addr) (n : Nat) (b : Option Addr) (m : Nat) : Prop := blk a n = none ∨ blk b m = none ∨ blk a n ≠ blk b m
/-- Its lists are its own. -/
structure OwnDn (w : World) (rs : List Pr) (ops : List OpT) (a b : Option Addr) : Prop where
  s : OwnS w a (prcells rs)
  p : OwnS w b (opcells ops)
  ne : Apart a rs.length b ops.length
theorem OwnDn.below {w w' : World} {rs : List Pr} {ops : List OpT} {a b : Option Addr} (h : OwnDn w rs ops a b) (hb : Below w.heap.size w w') : OwnDn w' rs ops a b := ⟨h.s.below hb, h.p.below hb, h.ne⟩
theorem OwnS.prs {w : World} {a : Option Addr} {rs : List Pr} (h : OwnS w a (prcells rs)) : Prs w a rs := by
  rcases h with h | ⟨g, rfl, h⟩
  · exact .inl (by have := congrArg List.length h; rw [prcells_length, List.length_nil] at this; exact List.eq_nil_of_length_eq_zero (by omega))
  · exact h.prs
theorem OwnS.ops {w : World} {a : Option Addr} {rs : List OpT} (h : OwnS w a (opcells rs)) : Ops w a rs := by
  rcases h with h | ⟨g, rfl, h⟩
  · exact .inl (by have := congrArg List.length h; rw [opcells_length, List.length_nil] at this; exact List.eq_nil_of_length_eq_zero (by omega))
  · exact h.ops
theorem prcells_ne {rs : List Pr} (h : rs.length ≠ 0) : prcells rs ≠ [] := fun e => h (by have := congrArg List.length e; rw [prcells_length, List.length_nil] at this; omega)
theorem opcells_ne {rs : List OpT} (h : rs.length ≠ 0) : opcells rs ≠ [] := fun e => h (by have := congrArg List.length e; rw [opcells_length, List.length_nil] at this; omega)
theorem ne_of_prcells {rs : List Pr} (h : prcells rs ≠ []) : rs.length ≠ 0 := fun e => h (by rw [List.eq_nil_of_length_eq_zero e]; rfl)
theorem ne_of_opcells {rs : List OpT} (h : opcells rs ≠ []) : rs.length ≠ 0 := fun e => h (by rw [List.eq_nil_of_length_eq_zero e]; rfl)

/-- What a call of the store gives, in memory of its own. -/
def DnPost (w w' : World) (x : Ending) (d : Dd) : Prop := ∃ a c b e, x = .returned (dnV d a c b e) ∧ d.rs.length ≤ c ∧ OwnDn w' d.rs d.ops a b ∧ (∀ g, blk a d.rs.length = some g → w.heap.size ≤ g) ∧ (∀ g, blk b d.ops.length = some g → w.heap.size ≤ g) ∧ Below w.heap.size w w'
def noD (C : Int) : Dd := ⟨C, 0, 0, 0, 0, 0, 0, 0, 0, 0, [], []⟩
theorem OwnS.set' {w : World} {a : Option Addr} {cs : List Value} (h : OwnS w a cs) (p : Addr) (hp : ∀ g, a = some ⟨g, 0, none⟩ → cs ≠ [] → p.block ≠ g) (v : Value) : OwnS (w.setCell p v) a cs := by
  by_cases h0 : cs = []
  · exact .inl h0
  · obtain ⟨g, rfl, hr⟩ := h.resolve_left h0
    exact .inr ⟨g, rfl, hr.other p (hp g rfl h0) v⟩
theorem OwnS.alloc' {w : World} {a : Option Addr} {cs : List Value} (h : OwnS w a cs) (o : Obj) : OwnS (w.alloc o) a cs := h.below ((Below.refl _ _).alloc (Nat.le_refl _) _)
theorem row_at {w : World} {A : Array Value} {t : TypeId} {g : Nat} (hg : w.heap.size = g) : Row (w.alloc (.cells A t)) g A.toList := by subst hg; exact row_new w A t
theorem dn_no {w w' : World} {x : Ending} {C : Int} {a b : Option Addr} {c e : Nat} (hx : x = .returned (dnV (noD C) a c b e)) (hb : Below w.heap.size w w') : DnPost w w' x (noD C) :=
  ⟨a, c, b, e, hx, Nat.zero_le _, ⟨.inl rfl, .inl rfl, .inl rfl⟩, fun g h => (by cases h), fun g h => (by cases h), hb⟩

theorem OwnS.drew' {w : World} {a : Option Addr} {cs : List Value} (h : OwnS w a cs) : OwnS w.drew a cs := h.below (Below.refl _ _).drew
end Go.Proofs.YtnmaknnnmjfhkafGreat

namespace Go.Proofs.YtnmaknnnmjfhkafGreat
open Go.RowKit
set_option linter.unusedVariables false
set_option linter.unusedSimpArgs false
set_option maxRecDepth 4000

/-- Pages that are put into sectors one behind the other. -/
def putOps (base : Int) (l : List ByteArray) : List OpT := l.mapIdx fun i p => (false, base + (i : Int), p)
theorem putOps_nil (base : Int) : putOps base [] = [] := rfl
theorem putOps_snoc (base : Int) (l : List ByteArray) (p : ByteArray) : putOps base (l ++ [p]) = putOps base l ++ [(false, base + (l.length : Int), p)] := by simp [putOps, List.mapIdx_append]
theorem putOps_length (base : Int) (l : List ByteArray) : (putOps base l).length = l.length := by simp [putOps]
/-- The pages of one batch more. -/
def mvStep (L F : Int) (n m : Nat) (acc : List ByteArray) (b : List Ch) : List ByteArray := acc ++ cutAll (bOut b) L (F + (acc.length : Int)) n m
/-- The pages of a state that is moved. -/
def mvPages (L F : Int) (n m : Nat) (bss : List (List Ch)) : List ByteArray := bss.foldl (mvStep L F n m) [formOf 3 L F ByteArray.empty (n : Int)]
theorem mvPages_nil (L F : Int) (n m : Nat) : mvPages L F n m [] = [formOf 3 L F ByteArray.empty (n : Int)] := rfl
theorem mvPages_snoc (L F : Int) (n m : Nat) (bss : List (List Ch)) (b : List Ch) : mvPages L F n m (bss ++ [b]) = mvPages L F n m bss ++ cutAll (bOut b) L (F + ((mvPages L F n m bss).length : Int)) n m := by
  unfold mvPages; rw [List.foldl_append]; rfl
theorem cutAll_len (s : ByteArray) (l f : Int) (n m : Nat) (hm : n + m = 56) (h1 : 1 ≤ n) (h2 : n ≤ 8) : ((cutAll s l f n m).length : Int) ≤ npages s.size (n : Int) := by
  have e : (56 - (n : Int)).toNat = m := by omega
  unfold npages
  rw [if_pos (by omega), e]
  unfold cutAll
  split
  · rw [cutList_length]; omega
  · simp
theorem mvPages_len (L F : Int) (n m : Nat) (hm : n + m = 56) (h1 : 1 ≤ n) (h2 : n ≤ 8) (bss : List (List Ch)) : ((mvPages L F n m bss).length : Int) ≤ 1 + roomOf bss (n : Int) := by
  obtain ⟨k, hk⟩ : ∃ k, k = bss.length := ⟨_, rfl⟩
  induction k generalizing bss with
  | zero => rw [List.eq_nil_of_length_eq_zero hk.symm, mvPages_nil, roomOf_nil]; simp
  | succ k ih =>
    obtain ⟨b, bs, rfl⟩ : ∃ b bs, bss = bs ++ [b] := by
      rcases List.eq_nil_or_concat bss with h | ⟨l, a, h⟩
      · subst h; simp at hk
      · exact ⟨a, l, by simpa using h⟩
    have := ih bs (by simp at hk; omega)
    rw [mvPages_snoc, roomOf_snoc, List.length_append]
    have := cutAll_len (bOut b) L (F + ((mvPages L F n m bs).length : Int)) n m hm h1 h2
    omega
theorem room_take (bss : List (List Ch)) (k : Nat) (n : Int) : roomOf (bss.take k) n ≤ roomOf bss n := by
  have e : roomOf bss n = roomOf (bss.take k) n + roomOf (bss.drop k) n := by
    unfold roomOf; rw [← List.sum_append, ← List.map_append, List.take_append_drop]
  have := (roomOf_bound (bss.drop k) n).1
  omega
/-- What a move asks of a store. -/
def mvOk (W S L T H F : Int) (rs : List Pr) : Prop := (1 ≤ W ∧ W ≤ 8) ∧ (8 ≤ S ∧ S ≤ 200) ∧ (1 ≤ L ∧ L ≤ 60000) ∧ (0 ≤ T ∧ T ≤ 1000000000) ∧ (0 ≤ H ∧ H ≤ 1) ∧ (1 ≤ F ∧ F ≤ 999999000) ∧ roomOf (snapOf rs) W ≤ hv S - 1
/-- Has the root of a move a place? -/
def mvFit (S T F : Int) : Bool := decide (T + 1 ≤ 1000000000 ∧ F + hv S ≤ 999999000)
def mvD (W S L T H F : Int) (rs : List Pr) : Dd := ⟨0, W, S, L, T + 1, 1 - H, F + hv S, L, ((mvPages L (F + hv S) W.toNat (56 - W.toNat) (snapOf rs)).length : Int), 0, rs, putOps (2 + (1 - H) * hv S) (mvPages L (F + hv S) W.toNat (56 - W.toNat) (snapOf rs)) ++ [(true, 0, ByteArray.empty), (false, (T + 1) % 2, rtForm (T + 1) (1 - H) (F + hv S) L W), (true, 0, ByteArray.empty)]⟩
/-- What a move gives. -/
def moveD (W S L T H F : Int) (rs : List Pr) : Dd := if mvFit S T F = true then mvD W S L T H F rs else noD 4
/-- What Compact gives. -/
def compactD (W S L T H F R U O : Int) (rs : List Pr) : Dd := if storeOk W S L T H F R U O rs = true then moveD W S L T H F rs else noD 1
theorem mvOk_of {W S L T H F R U O : Int} {rs : List Pr} (h : storeOk W S L T H F R U O rs = true) : mvOk W S L T H F rs := by
  unfold storeOk rootOk at h
  simp only [Bool.and_eq_true, decide_eq_true_eq] at h
  obtain ⟨⟨⟨⟨⟨⟨⟨h1, h2⟩, h3⟩, ⟨⟨h4, _⟩, h5⟩, h6⟩, _⟩, _⟩, _⟩, h7⟩ := h
  exact ⟨h1, h2, h3, h4, h5, h6, h7⟩
theorem compactD_bound (W S L T H F R U O : Int) (rs : List Pr) (hl : rs.length ≤ 1048576) : (compactD W S L T H F R U O rs).rs.length ≤ 1048576 ∧ (compactD W S L T H F R U O rs).ops.length ≤ 1000 := by
  unfold compactD moveD
  cases h : storeOk W S L T H F R U O rs with
  | false => simp [noD]
  | true =>
    cases h2 : mvFit S T F with
    | false => simp [noD]
    | true =>
      obtain ⟨⟨h1, h1'⟩, h3, h4, h5, h6, h7, h8⟩ := mvOk_of h
      have hq := hv_yes h3
      have hm := mvPages_len L (F + hv S) W.toNat (56 - W.toNat) (by omega) (by omega) (by omega) (snapOf rs)
      rw [show ((W.toNat : Nat) : Int) = W by omega] at hm
      simp only [if_true, mvD, List.length_append, putOps_length]
      refine ⟨hl, ?_⟩
      simp
      omega
end Go.Proofs.YtnmaknnnmjfhkafGreat

namespace Go.Proofs.YtnmaknnnmjfhkafGreat
open Go.Shelf
/-- Where this program has what the contract of strings.Compare speaks of. -/
def cRen : Go.Shelf.Ren := ⟨fun | 106 => 141 | 213 => 143 | 265 => 144 | n => n, fun | 9 => 9 | 3 => 3 | n => n, fun | n => n⟩
theorem cLays106 : Go.Proofs.Lays.n106 Tryz.prog cRen := {
  mixed := by kernel_rfl
  f106 := Tryz.func141.trans (congrArg some (by kernel_rfl))
  f213 := Tryz.func143.trans (congrArg some (by kernel_rfl))
  f265 := Tryz.func144.trans (congrArg some (by kernel_rfl))
  t3 := Tryz.underlying3
  a3 := Tryz.isAgg3
  z3 := Tryz.sizeOf3
  v3 := Tryz.zeroValue3
  t9 := Tryz.underlying9
  a9 := Tryz.isAgg9
  z9 := Tryz.sizeOf9
  v9 := Tryz.zeroValue9 }
/-- How two texts stand to each other. -/
def cmpB (a b : ByteArray) : Int := Lib.compareBytes a.data.toList b.data.toList
open Go.RowKit in
theorem compare_i (a b : ByteArray) (w : World) : Calls Tryz.prog 141 #[.string a, .string b] w fun e w' => e = .returned (.int .i64 (cmpB a b)) ∧ w' = w := Any.strings_Compare cLays106 a b w
end Go.Proofs.YtnmaknnnmjfhkafGreat

namespace Go.Proofs.YtnmaknnnmjfhkafGreat
open Go.RowKit Go.Sort
set_option maxRecDepth 4000
set_option linter.unusedVariables false
set_option linter.unusedSimpArgs false

theorem u8_tri (a b : UInt8) (h1 : ¬ a < b) (h2 : ¬ b < a) : a = b := by
  apply UInt8.toNat_inj.1
  rw [UInt8.lt_iff_toNat_lt] at h1 h2
  omega
theorem cb_lt : ∀ (x y : List UInt8), Lib.compareBytes x y < 0 ↔ x < y
  | [], [] => by simp [Lib.compareBytes]
  | [], b :: l2 => by simp [Lib.compareBytes]
  | a :: l, [] => by simp [Lib.compareBytes]
  | a :: l, b :: l2 => by
    rw [List.cons_lt_cons_iff]
    unfold Lib.compareBytes
    split
    · rename_i h; simp [h]
    · rename_i h
      split
      · rename_i h2
        have hne : ¬ a = b := fun e => by subst e; exact h h2
        simp [h, hne]
      · rename_i h2
        have e := u8_tri a b h h2
        subst e
        rw [cb_lt l l2]
        simp [h]
theorem cb_zero : ∀ (x y : List UInt8), Lib.compareBytes x y = 0 ↔ x = y
  | [], [] => by simp [Lib.compareBytes]
  | [], b :: l2 => by simp [Lib.compareBytes]
  | a :: l, [] => by simp [Lib.compareBytes]
  | a :: l, b :: l2 => by
    unfold Lib.compareBytes
    split
    · rename_i h
      have hne : ¬ a = b := fun e => by subst e; rw [UInt8.lt_iff_toNat_lt] at h; omega
      simp [hne]
    · rename_i h
      split
      · rename_i h2
        have hne : ¬ a = b := fun e => by subst e; exact h h2
        simp [hne]
      · rename_i h2
        have e := u8_tri a b h h2
        subst e
        rw [cb_zero l l2]
        simp
theorem cmpB_lt (a b : ByteArray) : cmpB a b < 0 ↔ Op.bytesLess a.toList b.toList = true := by
  unfold cmpB
  rw [cb_lt, bytesLess_eq, decide_eq_true_eq, ByteArray.toList_eq, ByteArray.toList_eq]
theorem cmpB_zero (a b : ByteArray) : cmpB a b = 0 ↔ a = b := by
  unfold cmpB
  rw [cb_zero]
  constructor
  · intro h; exact ByteArray.ext (Array.ext' h)
  · intro h; rw [h]
theorem cmp_i (k v key : ByteArray) (w : World) : Calls Tryz.prog 140 #[.agg #[.string k, .string v], .string key] w fun e w' => e = .returned (.int .i64 (cmpB k key)) ∧ Below w.heap.size w w' := by
  go_enter Tryz.func140, Tryz.ntmps140
  go_wp2_with (go_at_call 141; refine (compare_i k key _).mono ?_; rintro e w2 ⟨rfl, rfl⟩)
  go_ret
  exact ⟨rfl, (Below.refl _ _).alloc (Nat.le_refl _) _⟩

/-- The key at a place of a list of pairs. -/
def kAt (rs : List (ByteArray × ByteArray)) (t : Nat) : ByteArray := (rs.getD t (ByteArray.empty, ByteArray.empty)).1

set_option maxHeartbeats 16000000 in
theorem bs_i (a : Option Addr) (rs : List (ByteArray × ByteArray)) (c : Nat) (key : ByteArray) (w : World) (h : Prs w a rs) (hl : rs.length ≤ 1048576) (hmono : Hid (∀ t m, t ≤ m → m < rs.length → cmpB (kAt rs m) key < 0 → cmpB (kAt rs t) key < 0)) :
    Calls Tryz.prog 139 #[.slice a rs.length c, .string key, .func (.func 140) #[] #[]] w fun e w' =>
      ∃ p : Nat, p ≤ rs.length ∧ (∀ t, t < p → cmpB (kAt rs t) key < 0) ∧ (∀ t, p ≤ t → t < rs.length → 0 ≤ cmpB (kAt rs t) key) ∧ e = .returned (.tuple #[.int .i64 (p : Int), .bool (decide (p < rs.length ∧ cmpB (kAt rs p) key = 0))]) ∧ Below w.heap.size w w' := by
  go_enter Tryz.func139, Tryz.ntmps139
  go_wp2_with fail
  go_loopw [9, 10, 11] (fun i j _ wr => ∃ p q : Nat, p ≤ q ∧ q ≤ rs.length ∧ i = .int .i64 (p : Int) ∧ j = .int .i64 (q : Int) ∧ Hid (∀ t, t < p → cmpB (kAt rs t) key < 0) ∧ Hid (∀ t, q ≤ t → t < rs.length → 0 ≤ cmpB (kAt rs t) key) ∧ Below w.heap.size w wr) (fun i j _ _ => (intOf j).toNat - (intOf i).toNat)
  case atStart => exact ⟨0, rs.length, Nat.zero_le _, Nat.le_refl _, rfl, rfl, fun t ht => by omega, fun t h1 h2 => by omega, Below.refl _ _⟩
  case round =>
    obtain ⟨p, q, hpq, hq, rfl, rfl, HA, HZ, hbel⟩ := hrel
    by_cases hlt : p < q
    · obtain ⟨m, hm⟩ : ∃ m : Nat, m = (p + q) / 2 := ⟨_, rfl⟩
      have hm1 : p ≤ m := by omega
      have hm2 : m < q := by omega
      have hmi : ((p : Int) + (q : Int)) / 2 = (m : Int) := by omega
      obtain ⟨b, o, s0, s1, rfl, hc0, hc1, HS⟩ := (h.below hbel).at (show m < rs.length by omega)
      have HK : Hid (s0 = kAt rs m) := by show _ = _; unfold kAt; rw [← HS.out]
      have hlt' : (p : Int) < (q : Int) := by omega
      obtain ⟨C, HC⟩ : ∃ C, Hid (C = cmpB s0 key) := ⟨_, hid rfl⟩
      clear hm
      have HZZ := HZ
      have HAA := HA
      clear HZ HA
      by_cases hC : C < 0
      · go_wp2_with (go_at_call 140; refine (cmp_i s0 s1 key _).mono ?_; rw [← HC.out]; rintro e w2 ⟨rfl, hb2⟩)
        refine ⟨⟨m + 1, q, by omega, hq, by go_num, rfl, fun t ht => ?_, HZZ.out, hbel.trans (hb2.mono hbel.size)⟩, by simp [intOf]; omega⟩
        exact hmono.out t m (by omega) (by omega) (by rw [← HK.out, ← HC.out]; exact hC)
      · go_wp2_with (go_at_call 140; refine (cmp_i s0 s1 key _).mono ?_; rw [← HC.out]; rintro e w2 ⟨rfl, hb2⟩)
        refine ⟨⟨p, m, by omega, by omega, rfl, rfl, HAA.out, fun t h1 h2 => Int.not_lt.1 (fun h3 => ?_), hbel.trans (hb2.mono hbel.size)⟩, by simp [intOf]; omega⟩
        have := hmono.out m t h1 h2 h3
        rw [← HK.out, ← HC.out] at this
        omega
    · have hpq' : p = q := by omega
      subst hpq'
      have HZZ := HZ
      have HAA := HA
      clear HZ HA
      by_cases hpn : p < rs.length
      · have hpn' : (p : Int) < (rs.length : Int) := by omega
        obtain ⟨b, o, s0, s1, rfl, hc0, hc1, HS⟩ := (h.below hbel).at hpn
        have HK : Hid (s0 = kAt rs p) := by show _ = _; unfold kAt; rw [← HS.out]
        obtain ⟨C, HC⟩ : ∃ C, Hid (C = cmpB s0 key) := ⟨_, hid rfl⟩
        go_wp2_with (go_at_call 140; refine (cmp_i s0 s1 key _).mono ?_; rw [← HC.out]; rintro e w2 ⟨rfl, hb2⟩)
        go_ret2
        refine ⟨p, hq, HAA.out, HZZ.out, ?_, hbel.trans (hb2.mono hbel.size)⟩
        rw [← HK.out, ← HC.out]
        simp [hpn]
        rw [Bool.eq_iff_iff]; simp
      · have hpn' : (rs.length : Int) ≤ (p : Int) := by omega
        go_wp2
        go_ret2
        refine ⟨p, hq, HAA.out, HZZ.out, ?_, hbel⟩
        simp [hpn]
end Go.Proofs.YtnmaknnnmjfhkafGreat
