import Derived.Deep.AppendLies
import Derived.Deep.AppendSrc
import Derived.Test.YtnmaknnnmjfhkagGreatDoorPrG44
import Derived.Test.YtnmaknnnmjfhkagGreatDoorPrG43
import Derived.Shelf.Small.Strs
import Derived.Test.YtnmaknnnmjfhkagGreatDoorProg
import Derived.Sort.Walk0
import Derived.WalkKit
import Derived.WalkSpells
import Derived.WalkLawsBesides
import Derived.Outline
import Derived.ChangeKeysEq
import Derived.BigQuiet
import Derived.Deep.QuietTactic
import Derived.Deep.RegionHeld3
import Derived.SliceStrings
import Derived.Deep.SlicePairs
import Derived.ProofKit
import Derived.ChangeOld
set_option maxHeartbeats 16000000
set_option maxRecDepth 8000
namespace Go.Proofs.YtnmaknnnmjfhkagGreatDoor
open Go.RowKit
set_option linter.unusedVariables false
set_option linter.unusedSimpArgs false
set_option maxRecDepth 4000
theorem info_prC : (Tryz.prog.info? 144).map (fun i => (i.zero, i.size, i.bytes)) = some (some (.agg #[.string ByteArray.empty, .string ByteArray.empty]), 2, 32) := by kernel_rfl
theorem info_partsP {P : Program} {e : TypeId} {z : Value} {size bytes : Nat} (h : (P.info? e).map (fun i => (i.zero, i.size, i.bytes)) = some (some z, size, bytes)) : ∃ i, P.info? e = some i ∧ i.zero = some z ∧ i.size = size ∧ i.bytes = bytes := by
  obtain ⟨i, hi, hh⟩ := Option.map_eq_some_iff.1 h
  simp only [Prod.mk.injEq] at hh
  exact ⟨i, hi, hh⟩
theorem nscP (n : Nat) (h : 0 < n) : Builtin.nextslicecap n 0 = n := by
  unfold Builtin.nextslicecap
  simp
  omega
theorem copy_run {P : Program} {w : World} (t ty e : TypeId) (i : TypeInfo) (z : Value) (size bytes : Nat) (ht : P.underlying t = some (.slice e)) (hi : P.info? e = some i) (hz : i.zero = some z) (hsize : i.size = size) (hby : i.bytes = bytes)
    (base : Option Addr) (hbase : base = none ∨ ∃ b, base = some ⟨b, 0, none⟩) (v : Value) (n : Nat) (news : List Value) (hsrc : Src P size t v n news w) (hn : n ≤ 1048576) (hbn : n * bytes ≤ 281474976710656) :
    ∃ a' cap wx, (Builtin.append_ #[t, t] ty #[.slice base 0 0, v]).run P w = .ok (.slice a' n cap) wx ∧ n ≤ cap ∧ (n = 0 ∨ (a' = some ⟨w.heap.size, 0, none⟩ ∧ Row wx w.heap.size news)) ∧ Below w.heap.size w wx := by
  subst hsize hby
  by_cases h0 : n = 0
  · subst h0
    have hnil : news = [] := List.eq_nil_of_length_eq_zero (by have := hsrc.newsLen; omega)
    subst hnil
    rcases hbase with rfl | ⟨b, rfl⟩
    · refine ⟨none, 0, w, ?_, Nat.le_refl _, .inl rfl, Below.refl _ _⟩
      rcases hsrc.kind with ⟨e', hk⟩ | hk <;> simp [Builtin.append_, run_underlying ht, run_underlying hk, sizeOf, typeInfo, hi, hsrc.len, hsrc.cells]
    · have hrun := run_append_room_src (P := P) w t t ty e i ht hi b 0 0 0 v 0 [] hsrc (by omega) (by simp) (by simp)
      exact ⟨_, _, _, hrun, Nat.le_refl _, .inl rfl, Below.refl _ _⟩
  · have hold : (Builtin.firstCells i.size 0 (.slice base 0 0)).run P w.drew = .ok ([] : List Value).toArray w.drew := by
      rcases hbase with rfl | ⟨b, rfl⟩
      · simp [Builtin.firstCells, Sem.run_pure]
      · exact run_firstCells_some w.drew i.size 0 _ 0 0 [] (by simp) (by simp)
    have hrun := run_append_grow_src (P := P) w t t ty e i z ht hi hz base 0 0 [] hold v n news hsrc (by omega) (by omega) (by rw [Nat.zero_add, nscP n (by omega)]; exact hbn)
    refine ⟨_, _, _, by rw [hrun, Nat.zero_add], ?_, .inr ⟨rfl, ?_⟩, (Below.refl _ _).drew.alloc (Nat.le_refl _) _⟩
    · have := grownCap_ge w (0 + n) 0 e
      rw [Nat.zero_add] at this
      exact this
    have hr := row_new w.drew ((([] : List Value) ++ news).toArray ++ Builtin.zeroCells z.cells (grownCap w (0 + n) 0 e - (0 + n))) e
    refine ⟨by simp, fun j u hu => ?_, fun j hj => ?_⟩
    · have := hr.cell j u (by
        obtain ⟨hj, _⟩ := List.getElem?_eq_some_iff.1 hu
        simp [List.getElem?_append_left hj, hu])
      simpa using this
    · have := hr.froz j (by simp; omega)
      simpa using this
theorem wpList_append_copy {P : Program} {w : World} {ops : Array Oper} {rest : List Oper} {o : Oper} {a : Act} {Q : Exit → Act → World → Prop} (hgd : o.guard = none) (s x : Operand) (t : TypeId)
    (ho : o.op = .call { callee := .builtin .append, args := #[s, x], argTypes := #[t, t] }) (e : TypeId) (i : TypeInfo) (z : Value) (size bytes : Nat) (ht : P.underlying t = some (.slice e)) (hi : P.info? e = some i) (hz : i.zero = some z) (hsize : i.size = size) (hby : i.bytes = bytes)
    (base : Option Addr) (hs : a.eval s = .slice base 0 0) (hbase : base = none ∨ ∃ b, base = some ⟨b, 0, none⟩) (v : Value) (hx : a.eval x = v) (n : Nat) (news : List Value) (hsrc : Src P size t v n news w) (hn : n ≤ 1048576) (hbn : n * bytes ≤ 281474976710656)
    (h : ∀ a' cap wx, n ≤ cap → (n = 0 ∨ (a' = some ⟨w.heap.size, 0, none⟩ ∧ Row wx w.heap.size news)) → Below w.heap.size w wx → wpList P ops Q rest (a.put o.dst (.slice a' n cap)) wx) : wpList P ops Q (o :: rest) a w := by
  refine wpList_plain hgd fun K hK => ?_
  obtain ⟨a', cap, wx, hrun, h1, h2, h3⟩ := copy_run (P := P) (w := w) t o.type e i z size bytes ht hi hz hsize hby base hbase v n news hsrc hn hbn
  unfold Oper.wp
  simp [execOp, ho, resolve, invoke, builtin, hs, hx, hrun, Result.andThen]
  exact hK _ _ (h a' cap wx h1 h2 h3)
theorem src_prs {P : Program} {w : World} {a : Option Addr} {rs : List (ByteArray × ByteArray)} (h : Prs w a rs) (t e : TypeId) (ht : P.underlying t = some (.slice e)) (c : Nat) : Src P 2 t (.slice a rs.length c) rs.length (prcells rs) w := by
  rcases h with h | ⟨b, o, rfl, hb, hc⟩
  · subst h
    cases a with
    | none => exact Src.ofNil w ht c
    | some x => exact Src.ofSlice w ht x 0 c [] (by simp) (by simp) (by simp)
  · refine Src.ofSlice w ht ⟨b, o, none⟩ rs.length c _ (prcells_length rs) (fun j u hu => ?_) (fun u hu => ?_)
    · obtain ⟨hj, e⟩ := List.getElem?_eq_some_iff.1 hu
      rw [prcells_length] at hj
      have ha : (⟨b, o, none⟩ : Addr).add j = ⟨b, o + j, none⟩ := by unfold Addr.add; split <;> simp_all
      obtain ⟨q, hq⟩ : ∃ q, j = q * 2 ∨ j = q * 2 + 1 := ⟨j / 2, by omega⟩
      have hql : q < rs.length := by omega
      have hw := prcells_at rs q hql
      rcases hq with rfl | rfl
      · rw [ha, (hc q hql).1, ← hu, hw.1]
      · rw [ha, ← Nat.add_assoc, (hc q hql).2, ← hu, hw.2]
    · unfold prcells at hu
      obtain ⟨x, _, hx⟩ := List.mem_flatMap.1 hu
      simp at hx
      rcases hx with rfl | rfl <;> rfl
def CpPost (w w' : World) (e : Ending) (rs : List (ByteArray × ByteArray)) : Prop := ∃ a c, e = .returned (stV a rs.length c) ∧ rs.length ≤ c ∧ OwnS w' a (prcells rs) ∧ (∀ g, blk a rs.length = some g → w.heap.size ≤ g) ∧ Below w.heap.size w w'
theorem cp_endP {w wx : World} {a' : Option Addr} {rs : List (ByteArray × ByteArray)} {H : Nat} (h : rs.length = 0 ∨ (a' = some ⟨H, 0, none⟩ ∧ Row wx H (prcells rs))) (hH : w.heap.size ≤ H) : OwnS wx a' (prcells rs) ∧ (∀ g, blk a' rs.length = some g → w.heap.size ≤ g ∧ g = H) := by
  rcases h with h | ⟨rfl, hr⟩
  · have : rs = [] := List.eq_nil_of_length_eq_zero h
    subst this
    exact ⟨.inl rfl, fun g hg => by cases hg⟩
  · refine ⟨.inr ⟨H, rfl, hr⟩, fun g hg => ?_⟩
    by_cases h0 : rs.length = 0
    · rw [h0] at hg; cases hg
    · rw [blk_pos _ _ _ h0] at hg; cases hg; exact ⟨hH, rfl⟩
set_option maxHeartbeats 16000000 in
theorem copy_st_s (a : Option Addr) (rs : List (ByteArray × ByteArray)) (c : Nat) (w : World) (h : Prs w a rs) (hl : rs.length ≤ 1048576) :
    Calls Tryz.prog 104 #[stV a rs.length c] w fun e w' => CpPost w w' e rs := by
  obtain ⟨i0, hi0, hz0, hz1, hz2⟩ := info_partsP info_prC
  have HI := hid (And.intro hi0 (And.intro hz0 (And.intro hz1 hz2)))
  clear hi0 hz0 hz1 hz2
  have hb0 : ∀ o1 o2 o3, Below w.heap.size w (((w.alloc o1).alloc o2).alloc o3) := fun o1 o2 o3 => (((Below.refl _ _).alloc (Nat.le_refl _) _).alloc (by simp) _).alloc (by simp; omega) _
  go_enter Tryz.func104, Tryz.ntmps104
  go_wp2_with (at_builtin; refine wpList_append_copy rfl _ _ 29 rfl 144 i0 _ 2 32 Tryz.underlying29 HI.out.1 HI.out.2.1 HI.out.2.2.1 HI.out.2.2.2 _ rfl (.inr ⟨_, rfl⟩) _ rfl rs.length _ (src_prs (h.below (hb0 _ _ _)) _ _ Tryz.underlying29 c) hl (by omega) ?_; intro a' cap wx hcap hrow hbx; have c1 : wx.cell? ⟨w.heap.size + 1, 0, none⟩ = some (.slice none 0 0) := (hbx.cell (p := ⟨w.heap.size + 1, 0, none⟩) (by simp <;> omega)).trans (by go_simp); have f1 : wx.frozen? ⟨w.heap.size + 1, 0, none⟩ = false := (hbx.frozen (p := ⟨w.heap.size + 1, 0, none⟩) (by simp <;> omega)).trans (by go_simp); have HBX := hid ((hb0 _ _ _).trans (hbx.mono (by simp <;> omega))); have HRW := hid (cp_endP (w := w) hrow (by simp; omega)); have hszx : w.heap.size + 1 < wx.heap.size := Nat.lt_of_lt_of_le (by simp) hbx.size; clear hrow hbx)
  refine bodyPost_ret (v := stV a' rs.length cap) (by simp [results, Tryz.results104, go_sem, c1]) rfl ⟨a', cap, rfl, hcap, ?_, fun g hg => (HRW.out.2 g hg).1, HBX.out.setCell (by show w.heap.size ≤ w.heap.size + 1; omega) _⟩
  rcases HRW.out.1 with h1 | ⟨g, rfl, h1⟩
  · exact .inl h1
  · by_cases h0 : rs.length = 0
    · exact .inl (by rw [List.eq_nil_of_length_eq_zero h0]; rfl)
    · have := (HRW.out.2 g (blk_pos _ _ _ h0)).2
      exact .inr ⟨g, rfl, h1.other _ (by show w.heap.size + 1 ≠ g; rw [this]; simp <;> omega) _⟩
end Go.Proofs.YtnmaknnnmjfhkagGreatDoor

namespace Go.Proofs.YtnmaknnnmjfhkagGreatDoor
open Go.RowKit
abbrev OpT := Bool × Int × ByteArray
def Ops (w : World) (a : Option Addr) (rs : List (Bool × Int × ByteArray)) : Prop :=
  rs = [] ∨ ∃ b o, a = some ⟨b, o, none⟩ ∧ b < w.heap.size ∧ ∀ i, i < rs.length → w.cell? ⟨b, o + i * 3, none⟩ = some (.bool (rs.getD i (false, 0, ByteArray.empty)).1) ∧ w.cell? ⟨b, o + i * 3 + 1, none⟩ = some (.int .i64 (rs.getD i (false, 0, ByteArray.empty)).2.1) ∧ w.cell? ⟨b, o + i * 3 + 2, none⟩ = some (.string (rs.getD i (false, 0, ByteArray.empty)).2.2)
theorem Ops.below {w w' : World} {a : Option Addr} {rs : List (Bool × Int × ByteArray)} (h : Ops w a rs) (hb : Below w.heap.size w w') : Ops w' a rs := by
  rcases h with h | ⟨b, o, h1, h2, h3⟩
  · exact .inl h
  · exact .inr ⟨b, o, h1, Nat.lt_of_lt_of_le h2 hb.size, fun i hi => ⟨(hb.cell (p := ⟨b, o + i * 3, none⟩) h2).trans (h3 i hi).1, (hb.cell (p := ⟨b, o + i * 3 + 1, none⟩) h2).trans (h3 i hi).2.1, (hb.cell (p := ⟨b, o + i * 3 + 2, none⟩) h2).trans (h3 i hi).2.2⟩⟩
theorem Ops.at {w : World} {a : Option Addr} {rs : List (Bool × Int × ByteArray)} (h : Ops w a rs) {k : Nat} (hk : k < rs.length) : ∃ b o g0 n1 s2, a = some ⟨b, o, none⟩ ∧ w.cell? ⟨b, o + k * 3, none⟩ = some (.bool g0) ∧ w.cell? ⟨b, o + k * 3 + 1, none⟩ = some (.int .i64 n1) ∧ w.cell? ⟨b, o + k * 3 + 2, none⟩ = some (.string s2) ∧ Hid ((g0, n1, s2) = rs.getD k (false, 0, ByteArray.empty)) := by
  rcases h with h | ⟨b, o, h1, h2, h3⟩
  · subst h; simp at hk
  · exact ⟨b, o, _, _, _, h1, (h3 k hk).1, (h3 k hk).2.1, (h3 k hk).2.2, hid rfl⟩
def opcells (rs : List (Bool × Int × ByteArray)) : List Value := rs.flatMap fun x => [.bool x.1, .int .i64 x.2.1, .string x.2.2]
theorem opcells_append (a b : List (Bool × Int × ByteArray)) : opcells (a ++ b) = opcells a ++ opcells b := by simp [opcells]
theorem opcells_length (rs : List (Bool × Int × ByteArray)) : (opcells rs).length = rs.length * 3 := by
  induction rs with
  | nil => rfl
  | cons x r ih => simp [opcells] at ih ⊢; omega
theorem opcells_at : ∀ (rs : List (Bool × Int × ByteArray)) (i : Nat), i < rs.length → (opcells rs)[i * 3]? = some (.bool (rs.getD i (false, 0, ByteArray.empty)).1) ∧ (opcells rs)[i * 3 + 1]? = some (.int .i64 (rs.getD i (false, 0, ByteArray.empty)).2.1) ∧ (opcells rs)[i * 3 + 2]? = some (.string (rs.getD i (false, 0, ByteArray.empty)).2.2)
  | x :: r, 0, _ => by simp [opcells]
  | x :: r, i + 1, h => by
    have ih := opcells_at r i (by simpa using h)
    have e : opcells (x :: r) = .bool x.1 :: .int .i64 x.2.1 :: .string x.2.2 :: opcells r := by simp [opcells]
    rw [e, show (i + 1) * 3 = i * 3 + 3 by omega]
    simpa using ih
theorem Row.ops {w : World} {g : Nat} {rs : List (Bool × Int × ByteArray)} (h : Row w g (opcells rs)) : Ops w (some ⟨g, 0, none⟩) rs :=
  .inr ⟨g, 0, rfl, h.lt, fun i hi => by
    rw [Nat.zero_add]
    exact ⟨h.cell _ _ (opcells_at rs i hi).1, h.cell _ _ (opcells_at rs i hi).2.1, h.cell _ _ (opcells_at rs i hi).2.2⟩⟩
end Go.Proofs.YtnmaknnnmjfhkagGreatDoor

namespace Go.Proofs.YtnmaknnnmjfhkagGreatDoor
open Go.Shelf
def cRen : Go.Shelf.Ren := ⟨fun | 106 => 207 | 213 => 256 | 265 => 282 | n => n, fun | 9 => 9 | 3 => 3 | n => n, fun | n => n⟩
theorem cLays106 : Go.Proofs.Lays.n106 Tryz.prog cRen := {
  mixed := by kernel_rfl
  f106 := Tryz.func207.trans (congrArg some (by kernel_rfl))
  f213 := Tryz.func256.trans (congrArg some (by kernel_rfl))
  f265 := Tryz.func282.trans (congrArg some (by kernel_rfl))
  t3 := Tryz.underlying3
  a3 := Tryz.isAgg3
  z3 := Tryz.sizeOf3
  v3 := Tryz.zeroValue3
  t9 := Tryz.underlying9
  a9 := Tryz.isAgg9
  z9 := Tryz.sizeOf9
  v9 := Tryz.zeroValue9 }
def cmpB (a b : ByteArray) : Int := Lib.compareBytes a.data.toList b.data.toList
open Go.RowKit in
theorem compare_i (a b : ByteArray) (w : World) : Calls Tryz.prog 207 #[.string a, .string b] w fun e w' => e = .returned (.int .i64 (cmpB a b)) ∧ w' = w := Any.strings_Compare cLays106 a b w
end Go.Proofs.YtnmaknnnmjfhkagGreatDoor

namespace Go.Proofs.YtnmaknnnmjfhkagGreatDoor
open Go.RowKit Go.Sort
set_option maxRecDepth 4000
set_option linter.unusedVariables false
set_option linter.unusedSimpArgs false
theorem u8_tri (a b : UInt8) (h1 : ¬ a < b) (h2 : ¬ b < a) : a = b := by
  apply UInt8.toNat_inj.1
  rw [UInt8.lt_iff_toNat_lt] at h1 h2
  omega
theorem cb_lt : ∀ (x y : List UInt8), Lib.compareBytes x y < 0 ↔ x < y
  | [], [] => by simp [Lib.compareBytes]
  | [], b :: l2 => by simp [Lib.compareBytes]
  | a :: l, [] => by simp [Lib.compareBytes]
  | a :: l, b :: l2 => by
    rw [List.cons_lt_cons_iff]
    unfold Lib.compareBytes
    split
    · rename_i h; simp [h]
    · rename_i h
      split
      · rename_i h2
        have hne : ¬ a = b := fun e => by subst e; exact h h2
        simp [h, hne]
      · rename_i h2
        have e := u8_tri a b h h2
        subst e
        rw [cb_lt l l2]
        simp [h]
theorem cb_zero : ∀ (x y : List UInt8), Lib.compareBytes x y = 0 ↔ x = y
  | [], [] => by simp [Lib.compareBytes]
  | [], b :: l2 => by simp [Lib.compareBytes]
  | a :: l, [] => by simp [Lib.compareBytes]
  | a :: l, b :: l2 => by
    unfold Lib.compareBytes
    split
    · rename_i h
      have hne : ¬ a = b := fun e => by subst e; rw [UInt8.lt_iff_toNat_lt] at h; omega
      simp [hne]
    · rename_i h
      split
      · rename_i h2
        have hne : ¬ a = b := fun e => by subst e; exact h h2
        simp [hne]
      · rename_i h2
        have e := u8_tri a b h h2
        subst e
        rw [cb_zero l l2]
        simp
theorem cmpB_lt (a b : ByteArray) : cmpB a b < 0 ↔ Op.bytesLess a.toList b.toList = true := by
  unfold cmpB
  rw [cb_lt, bytesLess_eq, decide_eq_true_eq, ByteArray.toList_eq, ByteArray.toList_eq]
theorem cmpB_zero (a b : ByteArray) : cmpB a b = 0 ↔ a = b := by
  unfold cmpB
  rw [cb_zero]
  constructor
  · intro h; exact ByteArray.ext (Array.ext' h)
  · intro h; rw [h]
theorem cmp_i (k v key : ByteArray) (w : World) : Calls Tryz.prog 206 #[.agg #[.string k, .string v], .string key] w fun e w' => e = .returned (.int .i64 (cmpB k key)) ∧ Below w.heap.size w w' := by
  go_enter Tryz.func206, Tryz.ntmps206
  go_wp2_with (go_at_call 207; refine (compare_i k key _).mono ?_; rintro e w2 ⟨rfl, rfl⟩)
  go_ret
  exact ⟨rfl, (Below.refl _ _).alloc (Nat.le_refl _) _⟩
def kAt (rs : List (ByteArray × ByteArray)) (t : Nat) : ByteArray := (rs.getD t (ByteArray.empty, ByteArray.empty)).1
set_option maxHeartbeats 16000000 in
theorem bs_i (a : Option Addr) (rs : List (ByteArray × ByteArray)) (c : Nat) (key : ByteArray) (w : World) (h : Prs w a rs) (hl : rs.length ≤ 1048576) (hmono : Hid (∀ t m, t ≤ m → m < rs.length → cmpB (kAt rs m) key < 0 → cmpB (kAt rs t) key < 0)) :
    Calls Tryz.prog 205 #[.slice a rs.length c, .string key, .func (.func 206) #[] #[]] w fun e w' =>
      ∃ p : Nat, p ≤ rs.length ∧ (∀ t, t < p → cmpB (kAt rs t) key < 0) ∧ (∀ t, p ≤ t → t < rs.length → 0 ≤ cmpB (kAt rs t) key) ∧ e = .returned (.tuple #[.int .i64 (p : Int), .bool (decide (p < rs.length ∧ cmpB (kAt rs p) key = 0))]) ∧ Below w.heap.size w w' := by
  go_enter Tryz.func205, Tryz.ntmps205
  go_wp2_with fail
  go_loopw [9, 10, 11] (fun i j _ wr => ∃ p q : Nat, p ≤ q ∧ q ≤ rs.length ∧ i = .int .i64 (p : Int) ∧ j = .int .i64 (q : Int) ∧ Hid (∀ t, t < p → cmpB (kAt rs t) key < 0) ∧ Hid (∀ t, q ≤ t → t < rs.length → 0 ≤ cmpB (kAt rs t) key) ∧ Below w.heap.size w wr) (fun i j _ _ => (intOf j).toNat - (intOf i).toNat)
  case atStart => exact ⟨0, rs.length, Nat.zero_le _, Nat.le_refl _, rfl, rfl, fun t ht => by omega, fun t h1 h2 => by omega, Below.refl _ _⟩
  case round =>
    obtain ⟨p, q, hpq, hq, rfl, rfl, HA, HZ, hbel⟩ := hrel
    by_cases hlt : p < q
    · obtain ⟨m, hm⟩ : ∃ m : Nat, m = (p + q) / 2 := ⟨_, rfl⟩
      have hm1 : p ≤ m := by omega
      have hm2 : m < q := by omega
      have hmi : ((p : Int) + (q : Int)) / 2 = (m : Int) := by omega
      obtain ⟨b, o, s0, s1, rfl, hc0, hc1, HS⟩ := (h.below hbel).at (show m < rs.length by omega)
      have HK : Hid (s0 = kAt rs m) := by show _ = _; unfold kAt; rw [← HS.out]
      have hlt' : (p : Int) < (q : Int) := by omega
      obtain ⟨C, HC⟩ : ∃ C, Hid (C = cmpB s0 key) := ⟨_, hid rfl⟩
      clear hm
      have HZZ := HZ
      have HAA := HA
      clear HZ HA
      by_cases hC : C < 0
      · go_wp2_with (go_at_call 206; refine (cmp_i s0 s1 key _).mono ?_; rw [← HC.out]; rintro e w2 ⟨rfl, hb2⟩)
        refine ⟨⟨m + 1, q, by omega, hq, by go_num, rfl, fun t ht => ?_, HZZ.out, hbel.trans (hb2.mono hbel.size)⟩, by simp [intOf]; omega⟩
        exact hmono.out t m (by omega) (by omega) (by rw [← HK.out, ← HC.out]; exact hC)
      · go_wp2_with (go_at_call 206; refine (cmp_i s0 s1 key _).mono ?_; rw [← HC.out]; rintro e w2 ⟨rfl, hb2⟩)
        refine ⟨⟨p, m, by omega, by omega, rfl, rfl, HAA.out, fun t h1 h2 => Int.not_lt.1 (fun h3 => ?_), hbel.trans (hb2.mono hbel.size)⟩, by simp [intOf]; omega⟩
        have := hmono.out m t h1 h2 h3
        rw [← HK.out, ← HC.out] at this
        omega
    · have hpq' : p = q := by omega
      subst hpq'
      have HZZ := HZ
      have HAA := HA
      clear HZ HA
      by_cases hpn : p < rs.length
      · have hpn' : (p : Int) < (rs.length : Int) := by omega
        obtain ⟨b, o, s0, s1, rfl, hc0, hc1, HS⟩ := (h.below hbel).at hpn
        have HK : Hid (s0 = kAt rs p) := by show _ = _; unfold kAt; rw [← HS.out]
        obtain ⟨C, HC⟩ : ∃ C, Hid (C = cmpB s0 key) := ⟨_, hid rfl⟩
        go_wp2_with (go_at_call 206; refine (cmp_i s0 s1 key _).mono ?_; rw [← HC.out]; rintro e w2 ⟨rfl, hb2⟩)
        go_ret2
        refine ⟨p, hq, HAA.out, HZZ.out, ?_, hbel.trans (hb2.mono hbel.size)⟩
        rw [← HK.out, ← HC.out]
        simp [hpn]
        rw [Bool.eq_iff_iff]; simp
      · have hpn' : (rs.length : Int) ≤ (p : Int) := by omega
        go_wp2
        go_ret2
        refine ⟨p, hq, HAA.out, HZZ.out, ?_, hbel⟩
        simp [hpn]
end Go.Proofs.YtnmaknnnmjfhkagGreatDoor

namespace Go.Proofs.YtnmaknnnmjfhkagGreatDoor
open Go.RowKit
structure Cx (w : World) (B : Nat) (v0 v1 : Value) : Prop where
  lt : B < w.heap.size
  c0 : w.cell? ⟨B, 0, none⟩ = some v0
  c1 : w.cell? ⟨B, 1, none⟩ = some v1
theorem Cx.below {w w' : World} {B : Nat} {v0 v1 : Value} (h : Cx w B v0 v1) (hb : Below w.heap.size w w') : Cx w' B v0 v1 :=
  ⟨Nat.lt_of_lt_of_le h.lt hb.size, (hb.cell (p := ⟨_, 0, none⟩) h.lt).trans h.c0, (hb.cell (p := ⟨_, 1, none⟩) h.lt).trans h.c1⟩
theorem Cx.grown {w w' : World} {B : Nat} {v0 v1 : Value} {r : Option Nat} (h : Cx w B v0 v1) (hg : w.grownBy w' r) (hn : some B ≠ r) : Cx w' B v0 v1 :=
  ⟨Nat.lt_of_lt_of_le h.lt hg.size, (World.cell?_of_block (a := ⟨B, 0, none⟩) (hg.block B h.lt hn)).trans h.c0, (World.cell?_of_block (a := ⟨B, 1, none⟩) (hg.block B h.lt hn)).trans h.c1⟩
theorem Cx.drew {w : World} {B : Nat} {v0 v1 : Value} (h : Cx w B v0 v1) : Cx w.drew B v0 v1 := ⟨h.lt, h.c0, h.c1⟩
theorem Cx.new (w : World) (v0 v1 : Value) (t : TypeId) : Cx (w.alloc (.cells #[v0, v1] t)) w.heap.size v0 v1 :=
  ⟨by simp, by rw [World.cell?_alloc_at _ _ _ _ rfl]; rfl, by rw [World.cell?_alloc_at _ _ _ _ rfl]; rfl⟩
theorem below_new (w : World) (o : Obj) : Below w.heap.size w (w.alloc o) := (Below.refl _ _).alloc (Nat.le_refl _) _
theorem Below.then {B : Nat} {a b c : World} (h : Below B a b) (hB : B ≤ a.heap.size) (k : Below b.heap.size b c) : Below B a c := h.trans (k.mono (Nat.le_trans hB h.size))
end Go.Proofs.YtnmaknnnmjfhkagGreatDoor

namespace Go.Proofs.YtnmaknnnmjfhkagGreatDoor
structure Wr (p : Prop) : Prop where
  out : p
end Go.Proofs.YtnmaknnnmjfhkagGreatDoor

namespace Go.Proofs.YtnmaknnnmjfhkagGreatDoor
open Go.RowKit
set_option linter.unusedVariables false
structure Grow (wS wr : World) (g0 : Option Nat) (base : Nat) (e : TypeId) (size : Nat) (v : Value) (n : Nat) (xs : List Value) : Prop where
  own : wr.ownsRow base e size v n xs
  gb : wS.grownBy wr g0
  at_ : ∀ k, v.ownBlock = some k → g0 = some k ∨ wS.heap.size ≤ k
theorem Grow.start {w : World} {base : Nat} {e : TypeId} {size : Nat} {v : Value} {n : Nat} {xs : List Value} (h : w.ownsRow base e size v n xs) : Grow w w v.ownBlock base e size v n xs := ⟨h, World.grownBy.refl _ _, fun k hk => .inl hk⟩
theorem Grow.below {wS wr w' : World} {g0 : Option Nat} {base : Nat} {e : TypeId} {size : Nat} {v : Value} {n : Nat} {xs : List Value} (h : Grow wS wr g0 base e size v n xs) (hb : Below wr.heap.size wr w') : Grow wS w' g0 base e size v n xs :=
  ⟨owns_below h.own hb, ⟨hb.os.trans h.gb.os, hb.tape.trans h.gb.tape, hb.output.trans h.gb.output, Nat.le_trans h.gb.size hb.size, fun k hk hne => (hb.block k (Nat.lt_of_lt_of_le hk h.gb.size)).trans (h.gb.block k hk hne)⟩, h.at_⟩
theorem grown_mono {wS wr w9 : World} {g0 r : Option Nat} (h : wS.grownBy wr g0) (hg : wr.grownBy w9 r) (hr : ∀ k, r = some k → g0 = some k ∨ wS.heap.size ≤ k) : wS.grownBy w9 g0 :=
  ⟨hg.os.trans h.os, hg.tape.trans h.tape, hg.output.trans h.output, Nat.le_trans h.size hg.size, fun k hk hne => (hg.block k (Nat.lt_of_lt_of_le hk h.size) (fun e => by
    rcases hr k e.symm with h1 | h1
    · exact hne h1.symm
    · omega)).trans (h.block k hk hne)⟩
theorem Grow.push {wS wr w9 : World} {g0 : Option Nat} {base : Nat} {e : TypeId} {size : Nat} {v v9 : Value} {n n9 H : Nat} {xs xs9 : List Value} (h : Grow wS wr g0 base e size v n xs) (hown : w9.ownsRow base e size v9 n9 xs9) (hg : wr.grownBy w9 v.ownBlock) (hat : v.ownBlock = v9.ownBlock ∨ v9.ownBlock = some H) (hH : wr.heap.size ≤ H) : Grow wS w9 g0 base e size v9 n9 xs9 :=
  ⟨hown, grown_mono h.gb hg h.at_, fun k hk => by
    rcases hat with h1 | h1
    · exact h.at_ k (h1.trans hk)
    · rw [h1] at hk; cases hk; exact .inr (Nat.le_trans h.gb.size hH)⟩
theorem Grow.trans {wS w4 wr : World} {g0 : Option Nat} {base : Nat} {e : TypeId} {size : Nat} {v v' : Value} {n n' : Nat} {xs xs' : List Value} (h : Grow wS w4 g0 base e size v n xs) (k : Grow w4 wr v.ownBlock base e size v' n' xs') : Grow wS wr g0 base e size v' n' xs' :=
  ⟨k.own, grown_mono h.gb k.gb h.at_, fun j hj => by
    rcases k.at_ j hj with h1 | h1
    · exact h.at_ j h1
    · exact .inr (Nat.le_trans h.gb.size h1)⟩
theorem below_of_grown {n : Nat} {w w' : World} {r : Option Nat} (hg : w.grownBy w' r) (hn : n ≤ w.heap.size) (hr : ∀ k, r = some k → n ≤ k) : Below n w w' :=
  ⟨hg.os, hg.tape, hg.output, hg.size, fun k hk => hg.block k (by omega) (fun e => by have := hr k e.symm; omega)⟩
theorem undrewG {w w' : World} {r : Option Nat} (h : w.drew.grownBy w' r) : w.grownBy w' r := ⟨h.os, h.tape, h.output, h.size, h.block⟩
end Go.Proofs.YtnmaknnnmjfhkagGreatDoor

namespace Go.Proofs.YtnmaknnnmjfhkagGreatDoor
open Go.RowKit
set_option linter.unusedVariables false
structure Dep (w : World) (lo hi : Nat) (F : World → Prop) : Prop where
  now : F w
  top : hi ≤ w.heap.size
  keep : ∀ w' : World, (∀ b, lo ≤ b → b < hi → w'.heap[b]? = w.heap[b]?) → hi ≤ w'.heap.size → F w'
theorem Dep.below {w w' : World} {lo hi : Nat} {F : World → Prop} (h : Dep w lo hi F) (hb : Below w.heap.size w w') : Dep w' lo hi F :=
  ⟨h.keep w' (fun b _ h2 => hb.block b (Nat.lt_of_lt_of_le h2 h.top)) (Nat.le_trans h.top hb.size), Nat.le_trans h.top hb.size, fun w2 h2 h3 => h.keep w2 (fun b h4 h5 => (h2 b h4 h5).trans (hb.block b (Nat.lt_of_lt_of_le h5 h.top))) h3⟩
theorem Dep.grown {w w' : World} {lo hi : Nat} {F : World → Prop} {r : Option Nat} (h : Dep w lo hi F) (hg : w.grownBy w' r) (hr : ∀ g, r = some g → g < lo ∨ hi ≤ g) : Dep w' lo hi F := by
  have key : ∀ b, lo ≤ b → b < hi → w'.heap[b]? = w.heap[b]? := fun b h1 h2 => hg.block b (Nat.lt_of_lt_of_le h2 h.top) (fun e => by have := hr b e.symm; omega)
  exact ⟨h.keep w' key (Nat.le_trans h.top hg.size), Nat.le_trans h.top hg.size, fun w2 h2 h3 => h.keep w2 (fun b h4 h5 => (h2 b h4 h5).trans (key b h4 h5)) h3⟩
theorem Dep.and {w : World} {lo hi : Nat} {F G : World → Prop} (h : Dep w lo hi F) (k : Dep w lo hi G) : Dep w lo hi (fun w => F w ∧ G w) := ⟨⟨h.now, k.now⟩, h.top, fun w' h1 h2 => ⟨h.keep w' h1 h2, k.keep w' h1 h2⟩⟩
theorem Dep.wide {w : World} {lo hi lo' hi' : Nat} {F : World → Prop} (h : Dep w lo hi F) (h1 : lo' ≤ lo) (h2 : hi ≤ hi') (h3 : hi' ≤ w.heap.size) : Dep w lo' hi' F := ⟨h.now, h3, fun w' k1 k2 => h.keep w' (fun b a c => k1 b (by omega) (by omega)) (by omega)⟩
theorem row_same {w w' : World} {g : Nat} {cs : List Value} (h : Row w g cs) (e : w'.heap[g]? = w.heap[g]?) (hs : g < w'.heap.size) : Row w' g cs :=
  ⟨hs, fun i v hv => by rw [← h.cell i v hv]; simp [World.cell?, e], fun i hi => by rw [← h.froz i hi]; simp [World.frozen?, e]⟩
theorem dep_row {w : World} {g lo hi : Nat} {cs : List Value} (h : Row w g cs) (h1 : lo ≤ g) (h2 : g < hi) (h3 : hi ≤ w.heap.size) : Dep w lo hi (fun w => Row w g cs) := ⟨h, h3, fun w' k1 k2 => row_same h (k1 g h1 h2) (by omega)⟩
theorem dep_own {w : World} {a : Option Addr} {lo n : Nat} {cs : List Value} (h : OwnS w a cs) (hn : cs ≠ [] → n ≠ 0) (h1 : ∀ g, blk a n = some g → lo ≤ g) : Dep w lo w.heap.size (fun w => OwnS w a cs) :=
  ⟨h, Nat.le_refl _, fun w' k1 k2 => by
    by_cases h0 : cs = []
    · exact .inl h0
    · obtain ⟨g, rfl, hr⟩ := h.resolve_left h0
      exact .inr ⟨g, rfl, row_same hr (k1 g (h1 g (blk_pos _ _ _ (hn h0))) hr.lt) (Nat.lt_of_lt_of_le hr.lt k2)⟩⟩
theorem Dep.cut {w : World} {a : Option Addr} {lo hi : Nat} {cs : List Value} (h : Dep w lo w.heap.size (fun w => OwnS w a cs)) (h1 : ∀ g, a = some ⟨g, 0, none⟩ → cs ≠ [] → g < hi) (h2 : hi ≤ w.heap.size) (h3 : ∀ g, a = some ⟨g, 0, none⟩ → cs ≠ [] → lo ≤ g) : Dep w lo hi (fun w => OwnS w a cs) :=
  ⟨h.now, h2, fun w' k1 k2 => by
    by_cases h0 : cs = []
    · exact .inl h0
    · obtain ⟨g, rfl, hr⟩ := h.now.resolve_left h0
      exact .inr ⟨g, rfl, row_same hr (k1 g (h3 g rfl h0) (h1 g rfl h0)) (Nat.lt_of_lt_of_le (h1 g rfl h0) k2)⟩⟩
theorem blk_is {g n k : Nat} (h : blk (some ⟨g, 0, none⟩) n = some k) : k = g := by
  unfold blk at h
  split at h
  · cases h
  · simp at h; exact h.symm
theorem Dep.low {w w' : World} {lo hi N : Nat} {F : World → Prop} (h : Dep w lo hi F) (hb : Below N w w') (hN : hi ≤ N) : Dep w' lo hi F :=
  ⟨h.keep w' (fun b _ h2 => hb.block b (by omega)) (Nat.le_trans h.top hb.size), Nat.le_trans h.top hb.size, fun w2 h2 h3 => h.keep w2 (fun b h4 h5 => (h2 b h4 h5).trans (hb.block b (by omega))) h3⟩
theorem dep_box (w : World) (A : Array Value) (t : TypeId) : Dep (w.alloc (.cells A t)) w.heap.size (w.heap.size + 1) (fun W => Row W w.heap.size A.toList) := dep_row (row_new w A t) (Nat.le_refl _) (by omega) (by simp)
end Go.Proofs.YtnmaknnnmjfhkagGreatDoor

namespace Go.Proofs.YtnmaknnnmjfhkagGreatDoor
open Go.RowKit
set_option linter.unusedVariables false
set_option linter.unusedSimpArgs false
section
variable {P : Program} {e t : TypeId} {i : TypeInfo} {n : Nat}
theorem part_u8 (he : ∀ w, (isAgg e).run P w = .ok false w) (xs : List Int) (j : Nat) (hj : j < xs.length) (w : World) : (part e (xs.map (Value.int .u8)).toArray j).run P w = .ok (.int .u8 (xs.getD j 0)) w := by
  unfold part
  simp [he, Result.andThen, hj, List.getD]
theorem eq_u8 (hu : P.underlying e = some (.int .u8)) (d : Nat) (a b : Int) (w : World) : (Op.equalIn (d + 1) e (.int .u8 a) (.int .u8 b)).run P w = .ok (a == b) w := by
  simp [Op.equalIn, run_underlying hu, Result.andThen]
theorem eqItems_u8 (he : ∀ w, (isAgg e).run P w = .ok false w) (hu : P.underlying e = some (.int .u8)) (d : Nat) (xs ys : List Int) (w : World) : ∀ (js : List Nat), (∀ j ∈ js, j < xs.length ∧ j < ys.length) → (Op.eqItems (d + 1) e 1 (xs.map (Value.int .u8)).toArray (ys.map (Value.int .u8)).toArray js).run P w = .ok (js.all fun j => xs.getD j 0 == ys.getD j 0) w
  | [], _ => by simp [Op.eqItems]
  | j :: js, h => by
    have hj := h j (List.mem_cons_self)
    have ih := eqItems_u8 he hu d xs ys w js (fun q hq => h q (List.mem_cons_of_mem _ hq))
    simp only [Op.eqItems, Sem.run_bind, Nat.mul_one, part_u8 he xs j hj.1, part_u8 he ys j hj.2, eq_u8 hu, Result.andThen_ok]
    cases hc : (xs.getD j 0 == ys.getD j 0) with
    | false => simp only [Bool.not_false, if_true, Sem.run_pure, List.all_cons, hc, Bool.false_and]
    | true => simp only [Bool.not_true, Bool.false_eq_true, if_false, ih, List.all_cons, hc, Bool.true_and]
theorem all_eq (xs ys : List Int) (hl : xs.length = ys.length) : ((List.range xs.length).all fun j => xs.getD j 0 == ys.getD j 0) = decide (xs = ys) := by
  rw [Bool.eq_iff_iff]
  simp only [List.all_eq_true, List.mem_range, beq_iff_eq, decide_eq_true_eq]
  constructor
  · intro h
    apply List.ext_getElem hl
    intro j h1 h2
    have := h j h1
    simpa [List.getD, h1, h2] using this
  · intro h j hj; rw [h]
theorem run_neq_arr (hu : P.underlying t = some (.array n e)) (hi : P.info? e = some i) (hc : P.cellsOf e = 1) (he : ∀ w, (isAgg e).run P w = .ok false w) (hb : P.underlying e = some (.int .u8)) (xs ys : List Int) (hx : xs.length = n) (hy : ys.length = n) (w : World) :
    (binOp .neq t (.agg (xs.map (Value.int .u8)).toArray) (.agg (ys.map (Value.int .u8)).toArray)).run P w = .ok (.bool (!decide (xs = ys))) w := by
  have h := run_equalIn_array (w := w) 9999 (xs.map (Value.int .u8)).toArray (ys.map (Value.int .u8)).toArray hu hi
  rw [hc, ← hx, eqItems_u8 he hb 9998 xs ys w (List.range xs.length) (fun j hj => by have := List.mem_range.1 hj; omega), all_eq xs ys (by omega)] at h
  simp only [binOp]
  simp [Op.equal, Op.maxDepth, h, Result.andThen]
end
end Go.Proofs.YtnmaknnnmjfhkagGreatDoor

namespace Go.Proofs.YtnmaknnnmjfhkagGreatDoor
open Go.RowKit
set_option linter.unusedVariables false
set_option linter.unusedSimpArgs false
set_option maxRecDepth 8000
theorem eqroot' (t h f l : Int) (w : World) : Calls Tryz.prog 166 #[.agg #[.int .i64 t, .int .i64 h, .int .i64 f, .int .i64 l], .agg #[.int .i64 t, .int .i64 h, .int .i64 f, .int .i64 l]] w fun e w' => e = .returned (.bool true) ∧ Below w.heap.size w w' := by
  go_enter Tryz.func166, Tryz.ntmps166
  go_wp2
  all_goals go_ret
  all_goals exact ⟨rfl, ((Below.refl _ _).alloc (Nat.le_refl _) _).alloc (by simp) _⟩
set_option maxHeartbeats 16000000 in
theorem eq_store (W S L T H F R U O : Int) (a b : Option Addr) (rs : List (ByteArray × ByteArray)) (c d : Nat) (w : World) (h1 : Prs w a rs) (h2 : Prs w b rs) (hl : rs.length ≤ 1048576) :
    Calls Tryz.prog 70 #[storeV W S L T H F R U O a rs.length c, storeV W S L T H F R U O b rs.length d] w fun e w' => e = .returned (.bool true) ∧ Below w.heap.size w w' := by
  unfold storeV
  have hb0 : ∀ o1 o2, Below w.heap.size w ((w.alloc o1).alloc o2) := fun o1 o2 => ((Below.refl _ _).alloc (Nat.le_refl _) _).alloc (by simp) _
  go_enter Tryz.func70, Tryz.ntmps70
  go_wp2_with (first | (go_at_call 166; refine (eqroot' T H F R _).mono ?_; rintro e w1 ⟨rfl, hb1⟩; have HB1 := hid ((hb0 _ _).trans (hb1.mono (by simp <;> omega))); have w1p7 : w1.cell? ⟨w.heap.size, 7, none⟩ = some (.int .i64 U) := (hb1.cell (p := ⟨w.heap.size, 7, none⟩) (by simp <;> omega)).trans (by go_simp); have w1p8 : w1.cell? ⟨w.heap.size, 8, none⟩ = some (.int .i64 O) := (hb1.cell (p := ⟨w.heap.size, 8, none⟩) (by simp <;> omega)).trans (by go_simp); have w1p9 : w1.cell? ⟨w.heap.size, 9, none⟩ = some (.slice a rs.length c) := (hb1.cell (p := ⟨w.heap.size, 9, none⟩) (by simp <;> omega)).trans (by go_simp); have w1q7 : w1.cell? ⟨w.heap.size + 1, 7, none⟩ = some (.int .i64 U) := (hb1.cell (p := ⟨w.heap.size + 1, 7, none⟩) (by simp <;> omega)).trans (by go_simp); have w1q8 : w1.cell? ⟨w.heap.size + 1, 8, none⟩ = some (.int .i64 O) := (hb1.cell (p := ⟨w.heap.size + 1, 8, none⟩) (by simp <;> omega)).trans (by go_simp); have w1q9 : w1.cell? ⟨w.heap.size + 1, 9, none⟩ = some (.slice b rs.length d) := (hb1.cell (p := ⟨w.heap.size + 1, 9, none⟩) (by simp <;> omega)).trans (by go_simp); clear hb1) | (go_at_call 167; refine (eq_state a b rs c d _ (h1.below HB1.out) (h2.below HB1.out) hl).mono ?_; rintro e w2 ⟨rfl, hb2⟩))
  go_ret
  exact ⟨rfl, HB1.out.trans (hb2.mono HB1.out.size)⟩
end Go.Proofs.YtnmaknnnmjfhkagGreatDoor

namespace Go.Proofs.YtnmaknnnmjfhkagGreatDoor
open Go.RowKit
set_option maxRecDepth 4000
set_option linter.unusedVariables false
set_option linter.unusedSimpArgs false
set_option maxHeartbeats 16000000 in
theorem held_prs (a : Option Addr) (n c k : Nat) (w : World) (h : OwnS w a (prcells (prmarks k n))) (hk : 0 < k) (hl : k + 2 * n ≤ 100000000) :
    Calls Tryz.prog 231 #[.slice a n c, .int .i64 (k : Int)] w fun e w' => e = .returned (.int .i64 ((k + 2 * n : Nat) : Int)) ∧ Below w.heap.size w w' := by
  rcases h with h | ⟨g, rfl, hrow⟩
  · have hn : n = 0 := by have := congrArg List.length h; rw [prcells_length, prmarks_length, List.length_nil] at this; omega
    subst hn
    go_enter Tryz.func231, Tryz.ntmps231
    go_wp2
    refine wp_loop_rounds 1 ?_
    rw [rounds_succ]
    go_wp2
    go_ret
    exact ⟨rfl, Below.refl _ _⟩
  · have HROW := hid hrow
    clear hrow
    go_enter Tryz.func231, Tryz.ntmps231
    go_wp2
    go_loopw [1, 5] (fun x i wr => ∃ j m : Nat, j ≤ n ∧ i = .int .i64 (j : Int) ∧ x = .int .i64 (m : Int) ∧ Hid (m = k + 2 * j) ∧ Below w.heap.size w wr) (fun _ i _ => n - (intOf i).toNat)
    case atStart => exact ⟨0, k, Nat.zero_le _, rfl, rfl, hid rfl, Below.refl _ _⟩
    case round =>
      obtain ⟨j, m, hj, rfl, rfl, HM, hbel⟩ := hrel
      have HR := hid (HROW.out.below hbel)
      have HB := hid hbel
      clear hbel
      by_cases hlt : j < n
      · have hmj : (m : Int) ≤ 99999998 := by have := HM.out; omega
        have hmj0 : (0 : Int) < (m : Int) := by have := HM.out; omega
        have hj0 : (0 : Int) ≤ (j : Int) := by omega
        have hj1 : (j : Int) < (n : Int) := by omega
        have hat := prcells_at (prmarks k n) j (by rw [prmarks_length]; exact hlt)
        have hgd : (prmarks k n).getD j (ByteArray.empty, ByteArray.empty) = prm m := by rw [HM.out]; simp [prmarks, List.getD, hlt]
        rw [hgd] at hat
        have HC : Hid (wr.cell? ⟨g, j * 2, none⟩ = some (.string (mtext m)) ∧ wr.cell? ⟨g, j * 2 + 1, none⟩ = some (.string (mtext (m + 1)))) := ⟨HR.out.cell _ _ hat.1, HR.out.cell _ _ hat.2⟩
        have lt1 : g < wr.heap.size := HR.out.lt
        clear hat hgd
        go_wp2_with fail
        go_region_held3 (fun w' => w'.cell? ⟨g, j * 2, none⟩ = some (.string (mtext m)) ∧ w'.cell? ⟨g, j * 2 + 1, none⟩ = some (.string (mtext (m + 1))))
          (first | assumption | exact HC.out | exact ⟨(hb2.cell (p := ⟨g, j * 2, none⟩) lt1).trans HC.out.1, (hb2.cell (p := ⟨g, j * 2 + 1, none⟩) lt1).trans HC.out.2⟩)
          (first | (go_at_call 170; refine (mark_text m _ (by omega) (by omega)).mono ?_; rintro e w2 ⟨rfl, hb2⟩))
        have HC2 : Hid (w2.cell? ⟨g, j * 2, none⟩ = some (.string (mtext m)) ∧ w2.cell? ⟨g, j * 2 + 1, none⟩ = some (.string (mtext (m + 1)))) := ⟨(hb2.cell (p := ⟨g, j * 2, none⟩) lt1).trans HC.out.1, (hb2.cell (p := ⟨g, j * 2 + 1, none⟩) lt1).trans HC.out.2⟩
        have lt2 : g < w2.heap.size := Nat.lt_of_lt_of_le lt1 hb2.size
        have HB2 := hid (HB.out.drew.trans (hb2.mono HB.out.size))
        clear hb2 lt1
        go_wp2_with fail
        go_region_held3 (fun w' => w'.cell? ⟨g, j * 2, none⟩ = some (.string (mtext m)) ∧ w'.cell? ⟨g, j * 2 + 1, none⟩ = some (.string (mtext (m + 1))))
          (first | assumption | exact HC2.out | exact ⟨(hb3.cell (p := ⟨g, j * 2, none⟩) lt2).trans HC2.out.1, (hb3.cell (p := ⟨g, j * 2 + 1, none⟩) lt2).trans HC2.out.2⟩)
          (first | (go_at_call 170; refine (mark_text' ((m : Int) + 1) (m + 1) (by omega) _ (by omega) (by omega)).mono ?_; rintro e w3 ⟨rfl, hb3⟩))
        have HB3 := hid (HB2.out.drew.trans (hb3.mono HB2.out.size))
        clear hb3 lt2
        go_wp2
        exact ⟨⟨j + 1, m + 2, by omega, by go_num, by go_num, by show _ = _; have := HM.out; omega, HB3.out⟩, by simp [intOf]; omega⟩
      · have hjl : Hid (j = n) := by show _ = _; omega
        go_wp2
        go_ret
        exact ⟨ret_int (by rw [HM.out, hjl.out]), HB.out⟩
set_option maxHeartbeats 16000000 in
theorem held_state (a : Option Addr) (n c k : Nat) (w : World) (h : OwnS w a (prcells (prmarks k n))) (hk : 0 < k) (hl : k + 2 * n ≤ 100000000) :
    Calls Tryz.prog 172 #[stV a n c, .int .i64 (k : Int)] w fun e w' => e = .returned (.int .i64 ((k + 2 * n : Nat) : Int)) ∧ Below w.heap.size w w' := by
  have hb0 : ∀ o, Below w.heap.size w (w.alloc o) := fun o => (Below.refl _ _).alloc (Nat.le_refl _) _
  have hkn : ¬ ((k + 2 * n : Nat) : Int) < 0 := by omega
  obtain ⟨m, HM⟩ : ∃ m, Hid (m = k + 2 * n) := ⟨_, hid rfl⟩
  have HP := hid (fun w' h' => held_prs a n c k w' h' hk hl)
  rw [← HM.out] at HP hkn ⊢
  go_enter Tryz.func172, Tryz.ntmps172
  go_wp2_with (go_at_call 231; refine (HP.out _ (h.below (hb0 _))).mono ?_; rintro e w1 ⟨rfl, hb1⟩)
  go_ret
  exact ⟨rfl, (hb0 _).trans (hb1.mono (by simp))⟩
end Go.Proofs.YtnmaknnnmjfhkagGreatDoor

namespace Go.Proofs.YtnmaknnnmjfhkagGreatDoor
open Go.RowKit
set_option linter.unusedVariables false
set_option linter.unusedSimpArgs false
set_option maxRecDepth 8000
set_option maxHeartbeats 16000000 in
theorem mark_store (W S L T H F R U O : Int) (a : Option Addr) (rs : List (ByteArray × ByteArray)) (c k : Nat) (w : World) (h : OwnS w a (prcells rs)) (hk : 0 < k) (hl : k + 2 * rs.length ≤ 100000000) :
    Calls Tryz.prog 76 #[storeV W S L T H F R U O a rs.length c, .int .i64 (k : Int)] w fun e w' => e = .returned (.int .i64 ((k + 2 * rs.length : Nat) : Int)) ∧ w.grownBy w' (blk a rs.length) ∧ OwnS w' a (prcells (prmarks k rs.length)) := by
  have hb0 : ∀ o, Below w.heap.size w (w.alloc o) := fun o => (Below.refl _ _).alloc (Nat.le_refl _) _
  have HMS := hid (fun w' h' => mark_state a rs c k w' h' hk hl)
  obtain ⟨m, HM⟩ : ∃ m, Hid (m = k + 2 * rs.length) := ⟨_, hid rfl⟩
  rw [← HM.out] at HMS ⊢
  unfold storeV
  go_enter Tryz.func76, Tryz.ntmps76
  go_wp2_with (go_at_call 171; refine (HMS.out _ (h.below (hb0 _))).mono ?_; rintro e w1 ⟨rfl, hg1, ho1⟩; have HG := hid (grown_trans (grown_of_below (blk a rs.length) (hb0 _)) hg1); have HO := hid ho1; clear hg1 ho1)
  go_ret
  exact ⟨rfl, HG.out, HO.out⟩
set_option maxHeartbeats 16000000 in
theorem held_store (W S L T H F R U O : Int) (a : Option Addr) (n c k : Nat) (w : World) (h : OwnS w a (prcells (prmarks k n))) (hk : 0 < k) (hl : k + 2 * n ≤ 100000000) :
    Calls Tryz.prog 78 #[storeV W S L T H F R U O a n c, .int .i64 (k : Int)] w fun e w' => e = .returned (.int .i64 ((k + 2 * n : Nat) : Int)) ∧ Below w.heap.size w w' := by
  have hb0 : ∀ o, Below w.heap.size w (w.alloc o) := fun o => (Below.refl _ _).alloc (Nat.le_refl _) _
  have HMS := hid (fun w' h' => held_state a n c k w' h' hk hl)
  obtain ⟨m, HM⟩ : ∃ m, Hid (m = k + 2 * n) := ⟨_, hid rfl⟩
  have hm0 : (0 : Int) ≤ (m : Int) := by omega
  rw [← HM.out] at HMS ⊢
  unfold storeV
  go_enter Tryz.func78, Tryz.ntmps78
  go_wp2_with (go_at_call 172; refine (HMS.out _ (h.below (hb0 _))).mono ?_; rintro e w1 ⟨rfl, hb1⟩)
  go_ret
  exact ⟨rfl, (hb0 _).trans (hb1.mono (by simp))⟩
end Go.Proofs.YtnmaknnnmjfhkagGreatDoor

namespace Go.Proofs.YtnmaknnnmjfhkagGreatDoor
open Go.RowKit
set_option maxRecDepth 4000
set_option linter.unusedVariables false
set_option linter.unusedSimpArgs false
theorem getxo {w : World} {g : Nat} {cs : List Value} (h : Row w g cs) (i : Nat) (hi : i < cs.length) : (∃ u, w.cell? ⟨g, i, none⟩ = some u) ∧ w.frozen? ⟨g, i, none⟩ = false := ⟨⟨_, h.cell i _ (List.getElem?_eq_getElem hi)⟩, h.froz i hi⟩
def opm (m : Nat) : Bool × Int × ByteArray := (decide (m % 3 = 0), ((m + 1 : Nat) : Int), mtext (m + 2))
def opmarks (k n : Nat) : List (Bool × Int × ByteArray) := (List.range n).map fun i => opm (k + 3 * i)
theorem opmarks_length (k n : Nat) : (opmarks k n).length = n := by simp [opmarks]
theorem opmarks_succ (k n : Nat) : opmarks k (n + 1) = opmarks k n ++ [opm (k + 3 * n)] := by simp [opmarks, List.range_succ]
def opmixed (k i : Nat) (rs : List (Bool × Int × ByteArray)) : List Value := opcells (opmarks k i ++ rs.drop i)
theorem opmixed_length (k i : Nat) (rs : List (Bool × Int × ByteArray)) (h : i ≤ rs.length) : (opmixed k i rs).length = rs.length * 3 := by simp [opmixed, opcells_length, opmarks_length]; omega
theorem opmixed_set (k i : Nat) (rs : List (Bool × Int × ByteArray)) (h : i < rs.length) : (((opmixed k i rs).set (i * 3) (.bool (decide ((k + 3 * i) % 3 = 0)))).set (i * 3 + 1) (.int .i64 ((k + 3 * i + 1 : Nat) : Int))).set (i * 3 + 2) (.string (mtext (k + 3 * i + 2))) = opmixed k (i + 1) rs := by
  have el : (opcells (opmarks k i)).length = i * 3 := by rw [opcells_length, opmarks_length]
  unfold opmixed
  rw [opmarks_succ, drop_at rs i (false, 0, ByteArray.empty) h, opcells_append, opcells_append, opcells_append, List.set_append_right _ _ (by omega), List.set_append_right _ _ (by omega), List.set_append_right _ _ (by omega), el]
  simp [opcells, opm]
set_option maxHeartbeats 16000000 in
theorem mark_ops (a : Option Addr) (rs : List (Bool × Int × ByteArray)) (c k : Nat) (w : World) (h : OwnS w a (opcells rs)) (hk : 0 < k) (hl : k + 3 * rs.length ≤ 100000000) :
    Calls Tryz.prog 77 #[.slice a rs.length c, .int .i64 (k : Int)] w fun e w' => e = .returned (.int .i64 ((k + 3 * rs.length : Nat) : Int)) ∧ w.grownBy w' (blk a rs.length) ∧ OwnS w' a (opcells (opmarks k rs.length)) := by
  by_cases hss : rs = []
  · skip
    subst hss
    go_enter Tryz.func77, Tryz.ntmps77
    go_wp2
    refine wp_loop_rounds 1 ?_
    rw [rounds_succ]
    go_wp2
    go_ret
    exact ⟨rfl, grown_refl _ _, .inl rfl⟩
  · obtain ⟨g, rfl, hrow⟩ := h.resolve_left (fun e => hss (by have := congrArg List.length e; rw [opcells_length, List.length_nil] at this; exact List.eq_nil_of_length_eq_zero (by omega)))
    rw [blk_pos g 0 rs.length (fun e => hss (List.eq_nil_of_length_eq_zero e))]
    have hr0 : Row w g (opmixed k 0 rs) := by simpa [opmixed, opmarks] using hrow
    clear hrow hss
    go_enter Tryz.func77, Tryz.ntmps77
    go_wp2
    go_loopw [1, 5] (fun x i wr => ∃ j m : Nat, j ≤ rs.length ∧ i = .int .i64 (j : Int) ∧ x = .int .i64 (m : Int) ∧ Hid (m = k + 3 * j) ∧ Row wr g (opmixed k j rs) ∧ w.grownBy wr (some g)) (fun _ i _ => rs.length - (intOf i).toNat)
    case atStart => exact ⟨0, k, Nat.zero_le _, rfl, rfl, hid rfl, hr0, grown_refl _ _⟩
    case round =>
      clear hr0
      obtain ⟨j, m, hj, rfl, rfl, HM, hrow, hgr⟩ := hrel
      have HR := hid hrow
      have HG := hid hgr
      clear hgr hrow
      by_cases hlt : j < rs.length
      · have HL := hid (opmixed_length k j rs hj)
        have hmj : (m : Int) ≤ 99999997 := by have := HM.out; omega
        have hmj0 : (0 : Int) < (m : Int) := by have := HM.out; omega
        have hgn : (((m : Int)) % 3 == 0) = decide (m % 3 = 0) := by rw [Bool.eq_iff_iff]; simp; omega
        obtain ⟨⟨u0, hu0⟩, hf0⟩ := getxo HR.out (j * 3) (by rw [HL.out]; omega)
        obtain ⟨⟨u1, hu1⟩, hf1⟩ := getxo HR.out (j * 3 + 1) (by rw [HL.out]; omega)
        have HR1 := hid ((HR.out.set (j * 3) (by rw [HL.out]; omega) (.bool (decide (m % 3 = 0)))).set (j * 3 + 1) (by rw [List.length_set, HL.out]; omega) (.int .i64 ((m : Int) + 1)))
        go_wp2_with (go_at_call 170; refine (mark_text' ((m : Int) + 1 + 1) (m + 2) (by omega) _ (by omega) (by omega)).mono ?_; rintro e w3 ⟨rfl, hb3⟩; (try rw [hgn] at hb3); have HR3 := hid (HR1.out.below hb3); have hu4 := getxo HR3.out (j * 3 + 2) (by rw [List.length_set, List.length_set, HL.out]; omega); obtain ⟨⟨u4, hu4⟩, hf4⟩ := hu4; have HG3 := hid (grown_trans (grown_set (grown_set HG.out _ _) _ _) (grown_of_below _ hb3)); clear hb3)
        have hset : (((opmixed k j rs).set (j * 3) (.bool (decide (m % 3 = 0)))).set (j * 3 + 1) (.int .i64 ((m : Int) + 1))).set (j * 3 + 2) (.string (mtext (m + 2))) = opmixed k (j + 1) rs := by
          rw [HM.out, ← opmixed_set k j rs hlt]; rfl
        refine ⟨⟨j + 1, m + 3, by omega, by go_num, by go_num, by show _ = _; have := HM.out; omega, ?_, grown_set HG3.out _ _⟩, by simp [intOf]; omega⟩
        rw [← hset]
        exact HR3.out.set (j * 3 + 2) (by rw [List.length_set, List.length_set, HL.out]; omega) _
      · have hjl : Hid (j = rs.length) := by show _ = _; omega
        go_wp2
        go_ret
        refine ⟨ret_int (by rw [HM.out, hjl.out]), HG.out, .inr ⟨g, rfl, ?_⟩⟩
        have := HR.out
        rw [hjl.out] at this
        simpa [opmixed] using this
end Go.Proofs.YtnmaknnnmjfhkagGreatDoor

namespace Go.Proofs.YtnmaknnnmjfhkagGreatDoor
open Go.RowKit
set_option maxRecDepth 4000
set_option linter.unusedVariables false
set_option linter.unusedSimpArgs false
set_option maxHeartbeats 16000000 in
theorem held_ops (a : Option Addr) (n c k : Nat) (w : World) (h : OwnS w a (opcells (opmarks k n))) (hk : 0 < k) (hl : k + 3 * n ≤ 100000000) :
    Calls Tryz.prog 79 #[.slice a n c, .int .i64 (k : Int)] w fun e w' => e = .returned (.int .i64 ((k + 3 * n : Nat) : Int)) ∧ Below w.heap.size w w' := by
  rcases h with h | ⟨g, rfl, hrow⟩
  · have hn : n = 0 := by have := congrArg List.length h; rw [opcells_length, opmarks_length, List.length_nil] at this; omega
    subst hn
    go_enter Tryz.func79, Tryz.ntmps79
    go_wp2
    refine wp_loop_rounds 1 ?_
    rw [rounds_succ]
    go_wp2
    go_ret
    exact ⟨rfl, Below.refl _ _⟩
  · have HROW := hid hrow
    clear hrow
    go_enter Tryz.func79, Tryz.ntmps79
    go_wp2
    go_loopw [1, 5] (fun x i wr => ∃ j m : Nat, j ≤ n ∧ i = .int .i64 (j : Int) ∧ x = .int .i64 (m : Int) ∧ Hid (m = k + 3 * j) ∧ Below w.heap.size w wr) (fun _ i _ => n - (intOf i).toNat)
    case atStart => exact ⟨0, k, Nat.zero_le _, rfl, rfl, hid rfl, Below.refl _ _⟩
    case round =>
      obtain ⟨j, m, hj, rfl, rfl, HM, hbel⟩ := hrel
      have HR := hid (HROW.out.below hbel)
      have HB := hid hbel
      clear hbel
      by_cases hlt : j < n
      · have hmj : (m : Int) ≤ 99999997 := by have := HM.out; omega
        have hmj0 : (0 : Int) < (m : Int) := by have := HM.out; omega
        have hj0 : (0 : Int) ≤ (j : Int) := by omega
        have hj1 : (j : Int) < (n : Int) := by omega
        have hat := opcells_at (opmarks k n) j (by rw [opmarks_length]; exact hlt)
        have hgd : (opmarks k n).getD j (false, 0, ByteArray.empty) = opm m := by rw [HM.out]; simp [opmarks, List.getD, hlt]
        rw [hgd] at hat
        obtain ⟨G, HGG⟩ : ∃ G, Hid (G = decide (m % 3 = 0)) := ⟨_, hid rfl⟩
        have hgn : (((m : Int)) % 3 == 0) = G := by rw [HGG.out, Bool.eq_iff_iff]; simp; omega
        have hc0 : wr.cell? ⟨g, j * 3, none⟩ = some (.bool G) := by rw [HGG.out]; exact HR.out.cell _ _ hat.1
        have hc1 : wr.cell? ⟨g, j * 3 + 1, none⟩ = some (.int .i64 ((m : Int) + 1)) := HR.out.cell _ _ hat.2.1
        have hc2 : wr.cell? ⟨g, j * 3 + 2, none⟩ = some (.string (mtext (m + 2))) := HR.out.cell _ _ hat.2.2
        have lt1 : g < wr.heap.size := HR.out.lt
        have hgq : (G != G) = false := by simp
        clear hat hgd
        go_wp2_with fail
        go_region_held3 (fun w' => w'.cell? ⟨g, j * 3 + 2, none⟩ = some (.string (mtext (m + 2))))
          (first | assumption | exact hc2 | exact (hb2.cell (p := ⟨g, j * 3 + 2, none⟩) lt1).trans hc2)
          (first | (go_at_call 170; refine (mark_text' ((m : Int) + 1 + 1) (m + 2) (by omega) _ (by omega) (by omega)).mono ?_; rintro e w2 ⟨rfl, hb2⟩))
        have HB2 := hid (HB.out.drew.trans (hb2.mono HB.out.size))
        clear hb2
        go_wp2
        exact ⟨⟨j + 1, m + 3, by omega, by go_num, by go_num, by show _ = _; have := HM.out; omega, HB2.out⟩, by simp [intOf]; omega⟩
      · have hjl : Hid (j = n) := by show _ = _; omega
        go_wp2
        go_ret
        exact ⟨ret_int (by rw [HM.out, hjl.out]), HB.out⟩
end Go.Proofs.YtnmaknnnmjfhkagGreatDoor

namespace Go.Proofs.YtnmaknnnmjfhkagGreatDoor
open Go.RowKit
set_option maxRecDepth 4000
set_option linter.unusedVariables false
set_option maxHeartbeats 16000000 in
theorem eq_op (g0 : Bool) (n1 : Int) (s2 : ByteArray) (w : World) :
    Calls Tryz.prog 168 #[.agg #[.bool g0, .int .i64 n1, .string s2], .agg #[.bool g0, .int .i64 n1, .string s2]] w fun e w' => e = .returned (.bool true) ∧ Below w.heap.size w w' := by
  go_enter Tryz.func168, Tryz.ntmps168
  go_wp2
  go_ret
  exact ⟨rfl, ((Below.refl _ _).alloc (Nat.le_refl _) _).alloc (by simp) _⟩
set_option maxHeartbeats 16000000 in
theorem eq_ops (a b : Option Addr) (rs : List (Bool × Int × ByteArray)) (c c' : Nat) (w : World) (h : Ops w a rs) (h' : Ops w b rs) (hl : rs.length ≤ 1048576) :
    Calls Tryz.prog 71 #[.slice a rs.length c, .slice b rs.length c'] w fun e w' => e = .returned (.bool true) ∧ Below w.heap.size w w' := by
  go_enter Tryz.func71, Tryz.ntmps71
  go_wp2
  go_loopw [5] (fun i wr => ∃ k : Nat, k ≤ rs.length ∧ i = .int .i64 k ∧ Below w.heap.size w wr) (fun i _ => rs.length - (intOf i).toNat)
  case atStart => exact ⟨0, Nat.zero_le _, rfl, Below.refl _ _⟩
  case round =>
    obtain ⟨k, hk, rfl, hbel⟩ := hrel
    by_cases hlt : k < rs.length
    · obtain ⟨b1, o1, g0, n1, s2, rfl, hc0, hc1, hc2, HS⟩ := (h.below hbel).at hlt
      obtain ⟨b2, o2, g0x, n1x, s2x, rfl, hd0, hd1, hd2, HS'⟩ := (h'.below hbel).at hlt
      obtain ⟨rfl, rfl, rfl⟩ : g0 = g0x ∧ n1 = n1x ∧ s2 = s2x := by have := HS.out.trans HS'.out.symm; simpa using this
      have hk1 : (k : Int) < (rs.length : Int) := by omega
      have hk0 : (0 : Int) ≤ (k : Int) := by omega
      have lt1 : b1 < wr.heap.size := by have := World.block_lt_of_cell? wr _ hc0; simpa using this
      have lt2 : b2 < wr.heap.size := by have := World.block_lt_of_cell? wr _ hd0; simpa using this
      have HQ : Hid (wr.cell? ⟨b1, o1 + k * 3, none⟩ = some (.bool g0) ∧ wr.cell? ⟨b1, o1 + k * 3 + 1, none⟩ = some (.int .i64 n1) ∧ wr.cell? ⟨b1, o1 + k * 3 + 2, none⟩ = some (.string s2) ∧ wr.cell? ⟨b2, o2 + k * 3, none⟩ = some (.bool g0) ∧ wr.cell? ⟨b2, o2 + k * 3 + 1, none⟩ = some (.int .i64 n1) ∧ wr.cell? ⟨b2, o2 + k * 3 + 2, none⟩ = some (.string s2)) := ⟨hc0, hc1, hc2, hd0, hd1, hd2⟩
      clear HS HS' hc0 hc1 hc2 hd0 hd1 hd2
      go_wp2_with fail
      go_region_held3 (fun w' => w'.cell? ⟨b1, o1 + k * 3, none⟩ = some (.bool g0) ∧ w'.cell? ⟨b1, o1 + k * 3 + 1, none⟩ = some (.int .i64 n1) ∧ w'.cell? ⟨b1, o1 + k * 3 + 2, none⟩ = some (.string s2) ∧ w'.cell? ⟨b2, o2 + k * 3, none⟩ = some (.bool g0) ∧ w'.cell? ⟨b2, o2 + k * 3 + 1, none⟩ = some (.int .i64 n1) ∧ w'.cell? ⟨b2, o2 + k * 3 + 2, none⟩ = some (.string s2))
        (first | assumption | exact HQ.out | exact ⟨(hb2.cell (p := ⟨b1, _, none⟩) lt1).trans HQ.out.1, (hb2.cell (p := ⟨b1, _, none⟩) lt1).trans HQ.out.2.1, (hb2.cell (p := ⟨b1, _, none⟩) lt1).trans HQ.out.2.2.1, (hb2.cell (p := ⟨b2, _, none⟩) lt2).trans HQ.out.2.2.2.1, (hb2.cell (p := ⟨b2, _, none⟩) lt2).trans HQ.out.2.2.2.2.1, (hb2.cell (p := ⟨b2, _, none⟩) lt2).trans HQ.out.2.2.2.2.2⟩)
        (first | (go_at_call 168; refine (eq_op g0 n1 s2 _).mono ?_; rintro e w2 ⟨rfl, hb2⟩))
      go_wp2
      go_roundw
      case rel => exact ⟨k + 1, by omega, by go_num, hbel.drew.trans (hb2.mono hbel.size)⟩
      case measure => simp [intOf]; omega
    · go_wp2
      go_ret
      exact ⟨rfl, hbel⟩
end Go.Proofs.YtnmaknnnmjfhkagGreatDoor

namespace Go.Proofs.YtnmaknnnmjfhkagGreatDoor
open Go.RowKit Go.ChangeShapes Go.WideShapes Go.Deep
section
variable {H : Type} {enc : TypeId × Value → H} {P : Program} {w : World} {base : Nat} {spare : Nat → Bool} {held : Bool}
theorem add_none {a : Addr} {i : Nat} {v : Value} (h : w.cell? (a.add i) = some v) (h0 : ∃ u, w.cell? (a.add 0) = some u) : ∃ b o, a = ⟨b, o, none⟩ := by
  obtain ⟨b, o, s⟩ := a
  obtain ⟨u, hu⟩ := h0
  have hs : s = none := by simpa [Addr.add] using World.cell?_spot hu
  exact ⟨b, o, by rw [hs]⟩
theorem add_mk (b o i : Nat) : (⟨b, o, none⟩ : Addr).add i = ⟨b, o + i, none⟩ := by unfold Addr.add; split <;> simp_all
theorem strs_of_trod {t e : TypeId} {fuel : Nat} {v : Value} {x : DataW H × List MemPlace} (ht : P.underlying t = some (.slice e)) (he : P.underlying e = some .string) (hc : P.cellsOf e = 1)
    (h : DataW.trod enc P w base spare held fuel t [v] = some x) : ∃ a ss c, v = .slice a ss.length c ∧ Strs w a ss ∧ ss.length ≤ maxLen ∧ ∀ s ∈ ss, s.size ≤ maxLen := by
  rcases open_strings ht he hc h with ⟨hcs, _⟩ | ⟨a, len, cap, ss, hcs, _, hl, hm, hz, _, hcell, hw⟩
  · simp at hcs
    exact ⟨none, [], 0, by simpa using hcs, .inl rfl, by simp, by simp⟩
  · simp at hcs
    have hlen : len ≤ ss.length := by rw [hz]; split <;> omega
    have e1 : (ss.take len).length = len := by simp; omega
    refine ⟨some a, ss.take len, cap, by rw [e1]; exact hcs, ?_, by omega, fun s hs => hw s (List.mem_of_mem_take hs)⟩
    by_cases h0 : len = 0
    · exact .inl (by subst h0; simp)
    · obtain ⟨b, o, rfl⟩ := add_none (hcell 0 (by omega)) ⟨_, hcell 0 (by omega)⟩
      have hb := World.block_lt_of_cell? w _ (hcell 0 (by omega))
      rw [add_mk] at hb
      refine .inr ⟨b, o, rfl, hb, fun i hi => ?_⟩
      have := hcell i (by omega)
      rw [add_mk] at this
      rw [this]
      have hi' : i < len := by omega
      simp [List.getD, List.getElem?_take_of_lt hi']
theorem wrs_of_trod {t e : TypeId} {f0 f1 : Field} {fuel : Nat} {v : Value} {x : DataW H × List MemPlace} (ht : P.underlying t = some (.slice e)) (he : P.underlying e = some (.struct #[f0, f1]))
    (ce : P.cellsOf e = 2) (o0 : f0.offset = 0) (o1 : f1.offset = 1) (c0 : P.cellsOf f0.type = 1) (c1 : P.cellsOf f1.type = 1) (t0 : P.underlying f0.type = some (.int .i64)) (t1 : P.underlying f1.type = some .string)
    (h : DataW.trod enc P w base spare held fuel t [v] = some x) : ∃ a ws c, v = .slice a ws.length c ∧ Wrs w a ws ∧ ws.length ≤ maxLen ∧ (∀ s ∈ ws, s.2.size ≤ maxLen) ∧ ∀ s ∈ ws, (Lit.int .i64 s.1).wf = true := by
  rcases open_slice_pairs ht he ce o0 o1 c0 c1 h with ⟨hcs, _⟩ | ⟨a, len, cap, m, n, V0, V1, D0, D1, P0, P1, hcs, _, hl, hm, hz, _, hcell⟩
  · simp at hcs
    exact ⟨none, [], 0, by simpa using hcs, .inl rfl, by simp, by simp, by simp⟩
  · simp at hcs
    have hlm : len ≤ m := by rw [hz]; split <;> omega
    have each : ∀ i, i < len → ∃ q : Int × ByteArray, w.cell? (a.add (i * 2)) = some (.int .i64 q.1) ∧ w.cell? (a.add (i * 2 + 1)) = some (.string q.2) ∧ q.2.size ≤ maxLen ∧ (Lit.int .i64 q.1).wf = true := by
      intro i hi
      obtain ⟨h1, h2, h3, h4⟩ := hcell i (by omega)
      obtain ⟨y, ey, _, wy⟩ := DataW.trod_int t0 h3
      obtain ⟨s, es, _, ws⟩ := DataW.trod_string t1 h4
      simp at ey es
      rw [ey] at h1
      rw [es] at h2
      exact ⟨(y, s), h1, h2, ws, wy⟩
    obtain ⟨q, hq⟩ := choose_lt each
    have e1 : ((List.range len).map q).length = len := by simp
    refine ⟨some a, (List.range len).map q, cap, by rw [e1]; exact hcs, ?_, by omega, fun s hs => ?_, fun s hs => ?_⟩
    · by_cases h0 : len = 0
      · exact .inl (by subst h0; simp)
      · have hq0 := (hq 0 (by omega)).1
        obtain ⟨b, o, rfl⟩ := add_none hq0 ⟨_, hq0⟩
        have hb := World.block_lt_of_cell? w _ hq0
        rw [add_mk] at hb
        refine .inr ⟨b, o, rfl, hb, fun i hi => ?_⟩
        rw [e1] at hi
        obtain ⟨h1, h2, _⟩ := hq i hi
        rw [add_mk] at h1 h2
        simp [List.getD, hi, h1, ← Nat.add_assoc] at h2 ⊢
        exact h2
    · obtain ⟨i, hi, rfl⟩ := List.mem_map.1 hs
      exact (hq i (by simpa using hi)).2.2.1
    · obtain ⟨i, hi, rfl⟩ := List.mem_map.1 hs
      exact (hq i (by simpa using hi)).2.2.2
end
end Go.Proofs.YtnmaknnnmjfhkagGreatDoor
