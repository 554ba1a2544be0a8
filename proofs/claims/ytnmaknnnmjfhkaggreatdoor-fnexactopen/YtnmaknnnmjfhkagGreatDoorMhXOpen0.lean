import Derived.Laws.BytesArg
import Derived.WalkKit
import Derived.Laws.MakeOwn
import Derived.WalkSmall
import Derived.Deep.Draws
import Derived.WalkSpells
import Derived.WalkLawsBesides
import Derived.Outline
import Derived.Deep.RegionLaw
import Derived.Shelf.Strings.Builder1
import Derived.Test.YtnmaknnnmjfhkagGreatDoorProg
import Derived.BigQuiet
import Derived.Deep.QuietTactic
import Derived.Deep.RegionHeld3
import Derived.Shelf.Small.Strs
import Derived.Sort.Walk0
import Derived.ChangeKeysEq
import Derived.SliceStrings
import Derived.Deep.SlicePairs
import Derived.ProofKit
import Derived.ChangeOld

set_option maxHeartbeats 16000000
set_option maxRecDepth 8000
namespace Go.Proofs.YtnmaknnnmjfhkagGreatDoor
open Go.RowKit

/-- A number shifted down by so many bytes. -/
def sh : Nat → Int → Int
  | 0, v => v
  | j + 1, v => sh j v / 256
theorem sh_bd (j : Nat) (v : Int) (h0 : 0 ≤ v) (h1 : v ≤ 18446744073709551615) : 0 ≤ sh j v ∧ sh j v ≤ 18446744073709551615 := by
  induction j with
  | zero => exact ⟨h0, h1⟩
  | succ j ih => unfold sh; omega

theorem sh_bd2 (j : Nat) (v : Int) (h0 : 0 ≤ v) (h1 : v ≤ 9223372036854775807) : 0 ≤ sh j v ∧ sh j v ≤ 9223372036854775807 := by
  induction j with
  | zero => exact ⟨h0, h1⟩
  | succ j ih => unfold sh; omega

/-- The lowest n bytes of a number, the highest first. -/
def be (n : Nat) (v : Int) : List Int := (List.range n).map fun i => sh (n - 1 - i) v % 256
theorem be_length (n : Nat) (v : Int) : (be n v).length = n := by simp [be]
theorem be_succ (n : Nat) (v : Int) : be (n + 1) v = (sh n v % 256) :: be n v := by
  unfold be
  rw [List.range_succ_eq_map]
  simp only [List.map_cons, List.map_map, List.cons.injEq]
  refine ⟨by simp, ?_⟩
  apply List.map_congr_left
  intro i hi
  simp at hi
  simp only [Function.comp]
  rw [show n + 1 - 1 - (i + 1) = n - 1 - i by omega]
theorem be_get (n : Nat) (v : Int) (i : Nat) (h : i < n) : (be n v).getD i 0 = sh (n - 1 - i) v % 256 := by
  simp [be, List.getD, h]

theorem strOfNums_append (a b : List Int) : strOfNums (a ++ b) = strOfNums a ++ strOfNums b := by
  apply ByteArray.ext
  simp [strOfNums]
theorem strOfNums_cons (n : Int) (b : List Int) : strOfNums (n :: b) = strOfNums [n] ++ strOfNums b := strOfNums_append [n] b

/-- One byte into the sum. -/
def fnvStep (x : Int) (c : UInt8) : Int := IntKind.u64.wrap (bits BinOp.xor IntKind.u64 x (IntKind.u64.wrap (c.toNat : Int)) * 1099511628211)
def fnv (l : List UInt8) : Int := l.foldl fnvStep 14695981039346656037
theorem wrap_u64_bd (x : Int) : 0 ≤ IntKind.u64.wrap x ∧ IntKind.u64.wrap x ≤ 18446744073709551615 := by
  simp [IntKind.wrap, IntKind.bits, IntKind.signed]
  omega
theorem wrap_u64_id (x : Int) (h0 : 0 ≤ x) (h1 : x ≤ 18446744073709551615) : IntKind.u64.wrap x = x := by
  simp [IntKind.wrap, IntKind.bits, IntKind.signed]
  omega
theorem fnv_snoc (l : List UInt8) (c : UInt8) : fnv (l ++ [c]) = fnvStep (fnv l) c := by simp [fnv]
theorem fnv_bd (l : List UInt8) : 0 ≤ fnv l ∧ fnv l ≤ 18446744073709551615 := by
  rcases List.eq_nil_or_concat l with rfl | ⟨l', c, rfl⟩
  · unfold fnv; simp
  · rw [List.concat_eq_append, fnv_snoc]; exact wrap_u64_bd _
theorem take_snoc (s : ByteArray) (k : Nat) (h : k < s.size) : s.data.toList.take (k + 1) = s.data.toList.take k ++ [s[k]] := by
  rw [List.take_succ_eq_append_getElem (by simpa using h)]; rfl

/-- The sum of a text, of so many bytes. -/
def sumN (s : ByteArray) (n : Nat) : ByteArray := strOfNums (be n (fnv s.data.toList))
theorem sumN_size (s : ByteArray) (n : Nat) : (sumN s n).size = n := by unfold sumN; rw [strOfNums_size, be_length]

/-- 'a[l:]' of an array of one-cell elements in memory. -/
theorem slice_arr_from {P : Program} {t e : TypeId} {L : Nat} (ht : P.underlying t = some (.array L e)) (hz : ∀ w, (sizeOf e).run P w = .ok 1 w) (b off l : Nat) (hl : l < L) (k : IntKind) (li : Int) (hli : li = (l : Int)) (w : World) :
    (Instr.sliceAt t (.pointer (some ⟨b, off, none⟩)) (some (.int k li)) none none).run P w = .ok (.slice (some ⟨b, off + l, none⟩) (L - l) (L - l)) w := by
  have e1 : P.arrayLen t = L := by simp [Program.arrayLen, ht]
  have e2 : P.elem t = e := by simp [Program.elem, ht]
  rw [run_sliceAt_array_l (P := P) w t ⟨b, off, none⟩ (by rw [e1, e2]; exact ht) k li (by omega) (by omega), e1, e2, hz, hli]
  have e3 : L ≠ l := by omega
  simp [slicedAt, e3, Addr.add]
/-- 'a[:h]' of an array of one-cell elements in memory. -/
theorem slice_arr_to {P : Program} {t e : TypeId} {L : Nat} (ht : P.underlying t = some (.array L e)) (hz : ∀ w, (sizeOf e).run P w = .ok 1 w) (b off h : Nat) (hL : 0 < L) (hl : h ≤ L) (k : IntKind) (li : Int) (hli : li = (h : Int)) (w : World) :
    (Instr.sliceAt t (.pointer (some ⟨b, off, none⟩)) none (some (.int k li)) none).run P w = .ok (.slice (some ⟨b, off, none⟩) h L) w := by
  have e1 : P.arrayLen t = L := by simp [Program.arrayLen, ht]
  have e2 : P.elem t = e := by simp [Program.elem, ht]
  rw [run_sliceAt_array_h (P := P) w t ⟨b, off, none⟩ (by rw [e1, e2]; exact ht) k li (by omega) (by omega), e1, e2, hz, hli]
  have e3 : L ≠ 0 := by omega
  simp [slicedAt, Addr.add]

theorem isEmpty_size (p : ByteArray) : p.toList.isEmpty = decide (p.size = 0) := by
  rw [ByteArray.toList_eq]
  have e : p.size = p.data.toList.length := rfl
  rw [e]
  cases p.data.toList <;> simp

/-- The bytes of a text as numbers. -/
def nums (p : ByteArray) : List Int := p.data.toList.map fun c => (c.toNat : Int)
theorem nums_length (p : ByteArray) : (nums p).length = p.size := by simp [nums]
theorem strOfNums_nums (p : ByteArray) : strOfNums (nums p) = p := by
  apply ByteArray.ext
  simp [strOfNums, nums, Function.comp_def]
/-- The head of a page. -/
def pageHead (k l m : Int) (p : ByteArray) : List Int := be 1 k ++ be 2 l ++ be 4 m ++ be 1 (p.size : Int) ++ nums p
theorem pageHead_length (k l m : Int) (p : ByteArray) : (pageHead k l m p).length = 8 + p.size := by
  simp [pageHead, be_length, nums_length]; omega
def pageBody (k l m : Int) (p : ByteArray) (n : Nat) : List Int := pageHead k l m p ++ List.replicate (56 - n - p.size) 0
theorem pageBody_length (k l m : Int) (p : ByteArray) (n : Nat) (h : p.size + n ≤ 56) : (pageBody k l m p n).length = 64 - n := by
  simp [pageBody, pageHead_length]; omega
/-- The form of a page. -/
def pageForm (k l m : Int) (p : ByteArray) (n : Nat) : ByteArray := sumN (strOfNums (pageBody k l m p n)) n ++ strOfNums (pageBody k l m p n)

theorem pageForm_size (k l m : Int) (p : ByteArray) (n : Nat) (h : p.size + n ≤ 56) : (pageForm k l m p n).size = 64 := by
  unfold pageForm
  rw [ByteArray.size_append, sumN_size, strOfNums_size, pageBody_length k l m p n h]
  omega

/-- Behind some stores of bytes into one row: those cells hold these numbers, all else is as it was. -/
structure Wrote (w w' : World) (b off : Nat) (xs : List Int) : Prop where
  os : w'.os = w.os
  tape : w'.tape = w.tape
  output : w'.output = w.output
  size : w'.heap.size = w.heap.size
  others : ∀ k, k ≠ b → w'.heap[k]? = w.heap[k]?
  inside : ∀ i, i < xs.length → w'.cell? ⟨b, off + i, none⟩ = some (.int .u8 (xs.getD i 0))
  outside : ∀ o, (o < off ∨ off + xs.length ≤ o) → w'.cell? ⟨b, o, none⟩ = w.cell? ⟨b, o, none⟩
  frozen : ∀ a, w'.frozen? a = w.frozen? a
theorem Wrote.refl (w : World) (b off : Nat) : Wrote w w b off [] := ⟨rfl, rfl, rfl, rfl, fun _ _ => rfl, fun i h => by simp at h, fun _ _ => rfl, fun _ => rfl⟩
theorem Wrote.below {w w' : World} {b off : Nat} {xs : List Int} (h : Wrote w w' b off xs) {B : Nat} (hB : B ≤ b) : Below B w w' :=
  ⟨h.os, h.tape, h.output, by rw [h.size]; exact Nat.le_refl _, fun k hk => h.others k (by omega)⟩
theorem Wrote.step {w w' : World} {b off : Nat} {xs : List Int} (h : Wrote w w' b (off + 1) xs) (n : Int) {u : Value} (hc : w.cell? ⟨b, off, none⟩ = some u) : Wrote w (w'.setCell ⟨b, off, none⟩ (.int .u8 n)) b off (n :: xs) := by
  have hc' : w'.cell? ⟨b, off, none⟩ = some u := (h.outside off (.inl (by omega))).trans hc
  refine ⟨h.os, h.tape, h.output, ?_, fun k hk => ?_, fun i hi => ?_, fun o ho => ?_, fun a => ?_⟩
  · rw [← h.size]; simp [World.setCell]
  · rw [Below.heap_setCell _ _ _ _ hk]; exact h.others k hk
  · cases i with
    | zero => simpa using World.cell?_setCell_same w' ⟨b, off, none⟩ (.int .u8 n) hc'
    | succ i =>
      rw [World.cell?_setCell_other (w := w') (h := show (⟨b, off, none⟩ : Addr) ≠ ⟨b, off + (i + 1), none⟩ by simp)]
      have := h.inside i (by simpa using hi)
      rw [show off + (i + 1) = off + 1 + i by omega, this]
      simp
  · simp only [List.length_cons] at ho
    rw [World.cell?_setCell_other (w := w') (h := show (⟨b, off, none⟩ : Addr) ≠ ⟨b, o, none⟩ by simp <;> omega)]
    exact h.outside o (by omega)
  · rw [World.frozen?_setCell]; exact h.frozen a
end Go.Proofs.YtnmaknnnmjfhkagGreatDoor

namespace Go.Proofs.YtnmaknnnmjfhkagGreatDoor
open Go.RowKit

theorem hid {p : Prop} (h : p) : Hid p := h
theorem ret_int {k : IntKind} {a b : Int} (h : a = b) : Ending.returned (.int k a) = .returned (.int k b) := by rw [h]

/-- Texts in a row of memory: what a slice of them shows. -/
def Strs (w : World) (a : Option Addr) (ss : List ByteArray) : Prop :=
  ss = [] ∨ ∃ b o, a = some ⟨b, o, none⟩ ∧ b < w.heap.size ∧ ∀ i, i < ss.length → w.cell? ⟨b, o + i, none⟩ = some (.string (ss.getD i ByteArray.empty))
/-- Pairs of a number and a text in a row of memory. -/
def Wrs (w : World) (a : Option Addr) (ws : List (Int × ByteArray)) : Prop :=
  ws = [] ∨ ∃ b o, a = some ⟨b, o, none⟩ ∧ b < w.heap.size ∧ ∀ i, i < ws.length → w.cell? ⟨b, o + i * 2, none⟩ = some (.int .i64 (ws.getD i (0, ByteArray.empty)).1) ∧ w.cell? ⟨b, o + i * 2 + 1, none⟩ = some (.string (ws.getD i (0, ByteArray.empty)).2)
theorem Strs.below {w w' : World} {a : Option Addr} {ss : List ByteArray} (h : Strs w a ss) (hb : Below w.heap.size w w') : Strs w' a ss := by
  rcases h with h | ⟨b, o, h1, h2, h3⟩
  · exact .inl h
  · exact .inr ⟨b, o, h1, Nat.lt_of_lt_of_le h2 hb.size, fun i hi => (hb.cell (p := ⟨b, o + i, none⟩) h2).trans (h3 i hi)⟩
theorem Wrs.below {w w' : World} {a : Option Addr} {ws : List (Int × ByteArray)} (h : Wrs w a ws) (hb : Below w.heap.size w w') : Wrs w' a ws := by
  rcases h with h | ⟨b, o, h1, h2, h3⟩
  · exact .inl h
  · exact .inr ⟨b, o, h1, Nat.lt_of_lt_of_le h2 hb.size, fun i hi => ⟨(hb.cell (p := ⟨b, o + i * 2, none⟩) h2).trans (h3 i hi).1, (hb.cell (p := ⟨b, o + i * 2 + 1, none⟩) h2).trans (h3 i hi).2⟩⟩
theorem Strs.at {w : World} {a : Option Addr} {ss : List ByteArray} (h : Strs w a ss) {k : Nat} (hk : k < ss.length) : ∃ b o s, a = some ⟨b, o, none⟩ ∧ w.cell? ⟨b, o + k, none⟩ = some (.string s) ∧ Hid (s = ss.getD k ByteArray.empty) := by
  rcases h with h | ⟨b, o, h1, h2, h3⟩
  · subst h; simp at hk
  · exact ⟨b, o, _, h1, h3 k hk, hid rfl⟩
theorem Wrs.at {w : World} {a : Option Addr} {ws : List (Int × ByteArray)} (h : Wrs w a ws) {k : Nat} (hk : k < ws.length) : ∃ b o n s, a = some ⟨b, o, none⟩ ∧ w.cell? ⟨b, o + k * 2, none⟩ = some (.int .i64 n) ∧ w.cell? ⟨b, o + k * 2 + 1, none⟩ = some (.string s) ∧ Hid ((n, s) = ws.getD k (0, ByteArray.empty)) := by
  rcases h with h | ⟨b, o, h1, h2, h3⟩
  · subst h; simp at hk
  · exact ⟨b, o, _, _, h1, (h3 k hk).1, (h3 k hk).2, hid rfl⟩

/-- What is left of a number when sizes are taken off one by one: -1 as soon as it is below 0. -/
def szL : List Nat → Int → Int
  | [], x => x
  | n :: r, x => if x - (n : Int) < 0 then -1 else szL r (x - (n : Int))
theorem szL_bd : ∀ (l : List Nat) (x : Int), 0 ≤ x → szL l x = -1 ∨ (0 ≤ szL l x ∧ szL l x ≤ x)
  | [], x, h => .inr ⟨h, Int.le_refl _⟩
  | n :: r, x, h => by
    unfold szL
    split
    · exact .inl rfl
    · rcases szL_bd r (x - (n : Int)) (by omega) with h1 | h1
      · exact .inl h1
      · exact .inr ⟨h1.1, by omega⟩
theorem szL_cons_lt {n : Nat} {x : Int} (r : List Nat) (h : x - (n : Int) < 0) : szL (n :: r) x = -1 := by unfold szL; exact if_pos h
theorem szL_cons_ge {n : Nat} {x : Int} (r : List Nat) (h : ¬ x - (n : Int) < 0) : szL (n :: r) x = szL r (x - (n : Int)) := by
  show (if x - (n : Int) < 0 then -1 else szL r (x - (n : Int))) = _
  exact if_neg h
theorem szL_append_no : ∀ (l r : List Nat) (x : Int), 0 ≤ x → szL l x < 0 → szL (l ++ r) x = -1
  | [], r, x, h, hl => by have : szL [] x = x := rfl; omega
  | n :: l, r, x, h, hl => by
    by_cases hn : x - (n : Int) < 0
    · exact szL_cons_lt _ hn
    · rw [szL_cons_ge _ hn] at hl
      rw [List.cons_append, szL_cons_ge _ hn]
      exact szL_append_no l r _ (by omega) hl
theorem szL_append_yes : ∀ (l r : List Nat) (x : Int), 0 ≤ x → 0 ≤ szL l x → szL (l ++ r) x = szL r (szL l x)
  | [], r, x, h, hl => rfl
  | n :: l, r, x, h, hl => by
    by_cases hn : x - (n : Int) < 0
    · rw [szL_cons_lt _ hn] at hl; omega
    · rw [szL_cons_ge _ hn] at hl ⊢
      rw [List.cons_append, szL_cons_ge _ hn]
      exact szL_append_yes l r _ (by omega) hl
theorem szL_mem : ∀ (l : List Nat) (x : Int), 0 ≤ x → 0 ≤ szL l x → ∀ n ∈ l, (n : Int) ≤ x
  | [], _, _, _, n, hn => by simp at hn
  | m :: r, x, h, hz, n, hn => by
    unfold szL at hz
    by_cases hm : x - (m : Int) < 0
    · rw [if_pos hm] at hz; omega
    · rw [if_neg hm] at hz
      rcases List.mem_cons.1 hn with rfl | hn
      · omega
      · have := szL_mem r _ (by omega) hz n hn; omega
theorem drop_at {α : Type} (l : List α) (k : Nat) (d : α) (h : k < l.length) : l.drop k = l.getD k d :: l.drop (k + 1) := by
  rw [List.drop_eq_getElem_cons h]; simp [List.getD, h]
end Go.Proofs.YtnmaknnnmjfhkagGreatDoor

namespace Go.Proofs.YtnmaknnnmjfhkagGreatDoor
open Go.RowKit

/-- A row of cells that the call has made: they may be written. -/
structure Row (w : World) (g : Nat) (cs : List Value) : Prop where
  lt : g < w.heap.size
  cell : ∀ i v, cs[i]? = some v → w.cell? ⟨g, i, none⟩ = some v
  froz : ∀ i, i < cs.length → w.frozen? ⟨g, i, none⟩ = false
theorem Row.below {w w' : World} {g : Nat} {cs : List Value} (h : Row w g cs) (hb : Below w.heap.size w w') : Row w' g cs :=
  ⟨Nat.lt_of_lt_of_le h.lt hb.size, fun i v hv => (hb.cell (p := ⟨g, i, none⟩) h.lt).trans (h.cell i v hv), fun i hi => (hb.frozen (p := ⟨g, i, none⟩) h.lt).trans (h.froz i hi)⟩
theorem Row.set {w : World} {g : Nat} {cs : List Value} (h : Row w g cs) (k : Nat) (hk : k < cs.length) (v : Value) : Row (w.setCell ⟨g, k, none⟩ v) g (cs.set k v) := by
  refine ⟨by simpa [World.setCell] using h.lt, fun i u hu => ?_, fun i hi => ?_⟩
  · by_cases he : i = k
    · subst he
      rw [List.getElem?_set_self hk] at hu
      cases hu
      exact World.cell?_setCell_same w _ _ (h.cell i _ (List.getElem?_eq_getElem hk))
    · rw [List.getElem?_set_ne (fun e => he e.symm)] at hu
      rw [World.cell?_setCell_other (w := w) (h := show (⟨g, k, none⟩ : Addr) ≠ ⟨g, i, none⟩ by simp <;> omega)]
      exact h.cell i u hu
  · rw [World.frozen?_setCell]; exact h.froz i (by simpa using hi)
theorem Row.other {w : World} {g : Nat} {cs : List Value} (h : Row w g cs) (p : Addr) (hp : p.block ≠ g) (v : Value) : Row (w.setCell p v) g cs := by
  refine ⟨by simpa [World.setCell] using h.lt, fun i u hu => ?_, fun i hi => ?_⟩
  · rw [World.cell?_setCell_other (w := w) (h := fun e => hp (by rw [e]))]; exact h.cell i u hu
  · rw [World.frozen?_setCell]; exact h.froz i hi
theorem Row.drew {w : World} {g : Nat} {cs : List Value} (h : Row w g cs) : Row w.drew g cs := ⟨h.lt, h.cell, h.froz⟩
theorem Row.drewN {w : World} {g : Nat} {cs : List Value} (h : Row w g cs) (q : Nat) : Row (w.drewN q) g cs := h.below (below_drewN (Below.refl _ _) q)
theorem Row.alloc {w : World} {g : Nat} {cs : List Value} (h : Row w g cs) (o : Obj) : Row (w.alloc o) g cs := h.below ((Below.refl _ _).alloc (Nat.le_refl _) _)
theorem frozen_beyond (w : World) (b o : Nat) (h : w.heap.size ≤ b) : w.frozen? ⟨b, o, none⟩ = false := by
  have e : w.heap[b]? = none := by simp [h]
  simp [World.frozen?, e]
theorem row_new (w : World) (A : Array Value) (t : TypeId) : Row (w.alloc (.cells A t)) w.heap.size A.toList :=
  ⟨by simp, fun i v hv => by rw [World.cell?_alloc_at _ _ _ _ rfl]; simpa using hv, fun i hi => by rw [frozen?_alloc_cells]; exact frozen_beyond _ _ _ (Nat.le_refl _)⟩
theorem Row.strs {w : World} {g : Nat} {ss : List ByteArray} (h : Row w g (ss.map Value.string)) : Strs w (some ⟨g, 0, none⟩) ss :=
  .inr ⟨g, 0, rfl, h.lt, fun i hi => by
    rw [Nat.zero_add]
    exact h.cell i _ (by simp [List.getD, hi])⟩
/-- The cells of pairs. -/
def wcells (ws : List (Int × ByteArray)) : List Value := ws.flatMap fun x => [.int .i64 x.1, .string x.2]
theorem wcells_nil : wcells [] = [] := rfl
theorem wcells_append (a b : List (Int × ByteArray)) : wcells (a ++ b) = wcells a ++ wcells b := by simp [wcells]
theorem wcells_length (ws : List (Int × ByteArray)) : (wcells ws).length = ws.length * 2 := by
  induction ws with
  | nil => rfl
  | cons x r ih => simp [wcells] at ih ⊢; omega
theorem wcells_at : ∀ (ws : List (Int × ByteArray)) (i : Nat), i < ws.length → (wcells ws)[i * 2]? = some (.int .i64 (ws.getD i (0, ByteArray.empty)).1) ∧ (wcells ws)[i * 2 + 1]? = some (.string (ws.getD i (0, ByteArray.empty)).2)
  | x :: r, 0, _ => by simp [wcells]
  | x :: r, i + 1, h => by
    have ih := wcells_at r i (by simpa using h)
    have e : wcells (x :: r) = .int .i64 x.1 :: .string x.2 :: wcells r := by simp [wcells]
    rw [e, show (i + 1) * 2 = i * 2 + 2 by omega]
    simpa using ih
theorem Row.wrs {w : World} {g : Nat} {ws : List (Int × ByteArray)} (h : Row w g (wcells ws)) : Wrs w (some ⟨g, 0, none⟩) ws :=
  .inr ⟨g, 0, rfl, h.lt, fun i hi => by
    rw [Nat.zero_add]
    exact ⟨h.cell _ _ (wcells_at ws i hi).1, h.cell _ _ (wcells_at ws i hi).2⟩⟩

/-- Filled up to k, zeros behind. -/
def upTo (ss : List ByteArray) (k : Nat) : List Value := (ss.take k).map Value.string ++ List.replicate (ss.length - k) (.string ByteArray.empty)
theorem upTo_length (ss : List ByteArray) (k : Nat) (h : k ≤ ss.length) : (upTo ss k).length = ss.length := by simp [upTo]; omega
theorem upTo_all (ss : List ByteArray) (k : Nat) (h : ss.length ≤ k) : upTo ss k = ss.map Value.string := by
  unfold upTo; rw [List.take_of_length_le h, show ss.length - k = 0 by omega]; simp
theorem upTo_set (ss : List ByteArray) (k : Nat) (h : k < ss.length) : (upTo ss k).set k (.string (ss.getD k ByteArray.empty)) = upTo ss (k + 1) := by
  unfold upTo
  rw [List.set_append_right _ _ (by simp; omega)]
  have e1 : k - ((ss.take k).map Value.string).length = 0 := by simp; omega
  rw [e1, show ss.length - k = (ss.length - (k + 1)) + 1 by omega, List.replicate_succ, List.set_cons_zero, List.take_succ_eq_append_getElem h, List.map_append, List.append_assoc]
  simp [List.getD, h]
def wupTo (ws : List (Int × ByteArray)) (k : Nat) : List Value := wcells (ws.take k) ++ wcells (List.replicate (ws.length - k) (0, ByteArray.empty))
theorem wupTo_length (ws : List (Int × ByteArray)) (k : Nat) (h : k ≤ ws.length) : (wupTo ws k).length = ws.length * 2 := by simp [wupTo, wcells_length]; omega
theorem wupTo_all (ws : List (Int × ByteArray)) (k : Nat) (h : ws.length ≤ k) : wupTo ws k = wcells ws := by
  unfold wupTo; rw [List.take_of_length_le h, show ws.length - k = 0 by omega]; simp [wcells]
theorem wupTo_set (ws : List (Int × ByteArray)) (k : Nat) (h : k < ws.length) : ((wupTo ws k).set (k * 2) (.int .i64 (ws.getD k (0, ByteArray.empty)).1)).set (k * 2 + 1) (.string (ws.getD k (0, ByteArray.empty)).2) = wupTo ws (k + 1) := by
  unfold wupTo
  have el : (wcells (ws.take k)).length = k * 2 := by rw [wcells_length]; simp; omega
  rw [List.set_append_right _ _ (by omega), List.set_append_right _ _ (by omega), el, show k * 2 - k * 2 = 0 by omega, show k * 2 + 1 - k * 2 = 1 by omega,
    show ws.length - k = (ws.length - (k + 1)) + 1 by omega, List.replicate_succ, List.take_succ_eq_append_getElem h, wcells_append, List.append_assoc]
  congr 1
  simp [wcells, List.getD, h]

/-- 'make([]T, n)': a new row of zeros. -/
theorem wpList_make_new {P : Program} {w : World} {ops : Array Oper} {rest : List Oper} {o : Oper} {a : Act} {Q : Exit → Act → World → Prop}
    (hg : o.guard = none) (l c : Operand) (t : TypeId) (hop : o.op = Op.makeSlice t l c) (e : TypeId) (z : Value) (size bytes : Nat) (ht : P.underlying t = some (.slice e)) (hinfo : (P.info? e).map (fun i => (i.zero, i.size, i.bytes)) = some (some z, size, bytes))
    (n : Nat) (hl : a.eval l = .int .i64 (n : Int)) (hc : a.eval c = .int .i64 (n : Int)) (hb : bytes * n ≤ 281474976710656) (hn : n ≤ 281474976710656)
    (h : ∀ wx, Row wx w.heap.size (madeCells z.cells (n * size)).toList → Below w.heap.size w wx → wx.heap.size = w.heap.size + 1 → wpList P ops Q rest (a.put o.dst (.slice (some ⟨w.heap.size, 0, none⟩) n n)) wx) : wpList P ops Q (o :: rest) a w := by
  refine wpList_plain hg fun K hK => ?_
  obtain ⟨i, hi, hh⟩ := Option.map_eq_some_iff.1 hinfo
  simp only [Prod.mk.injEq] at hh
  obtain ⟨h1, h2, h3⟩ := hh
  subst h2 h3
  have hbi : (i.bytes : Int) * (n : Int) ≤ 281474976710656 := by
    have : ((i.bytes * n : Nat) : Int) ≤ 281474976710656 := by omega
    rwa [Int.natCast_mul] at this
  have hr := run_make (P := P) w t e i z ht hi h1 .i64 .i64 n n (by omega) (Int.le_refl _) hbi (by omega)
  simp only [Int.toNat_natCast] at hr
  unfold Oper.wp
  simp [execOp, hop, hl, hc, hr, Result.andThen]
  exact hK _ _ (h _ (row_new _ _ _) ((Below.refl _ _).alloc (Nat.le_refl _) _) (by simp))
theorem made_strs (n : Nat) : (madeCells (Value.string ByteArray.empty).cells (n * 1)).toList = List.replicate n (.string ByteArray.empty) := by
  unfold madeCells
  rw [Nat.mul_one, Array.toList_map, Array.toList_range]
  rw [List.eq_replicate_iff]
  refine ⟨by simp, fun b hb => ?_⟩
  obtain ⟨i, _, rfl⟩ := List.mem_map.1 hb
  have : i % (Value.string ByteArray.empty).cells.size = 0 := by simp [Value.cells, Nat.mod_one]
  rw [this]; rfl
theorem made_wrs : ∀ (n : Nat), (madeCells (Value.agg #[.int .i64 0, .string ByteArray.empty]).cells (n * 2)).toList = wcells (List.replicate n (0, ByteArray.empty))
  | 0 => by simp [madeCells, wcells]
  | n + 1 => by
    have ih := made_wrs n
    unfold madeCells at ih ⊢
    rw [Array.toList_map, Array.toList_range] at ih ⊢
    rw [show (n + 1) * 2 = n * 2 + 1 + 1 by omega, List.range_succ, List.range_succ, List.map_append, List.map_append, ih, List.replicate_succ', wcells_append, List.append_assoc]
    congr 1
    have e0 : n * 2 % (Value.agg #[.int .i64 0, .string ByteArray.empty]).cells.size = 0 := by simp [Value.cells]
    have e1 : (n * 2 + 1) % (Value.agg #[.int .i64 0, .string ByteArray.empty]).cells.size = 1 := by simp [Value.cells]
    simp only [List.map_cons, List.map_nil]
    rw [e0, e1]
    rfl
end Go.Proofs.YtnmaknnnmjfhkagGreatDoor

namespace Go.Proofs.YtnmaknnnmjfhkagGreatDoor
open Go.RowKit

abbrev PrT := ByteArray × ByteArray
/-- Records in a row of memory. -/
def Prs (w : World) (a : Option Addr) (rs : List (ByteArray × ByteArray)) : Prop :=
  rs = [] ∨ ∃ b o, a = some ⟨b, o, none⟩ ∧ b < w.heap.size ∧ ∀ i, i < rs.length → w.cell? ⟨b, o + i * 2, none⟩ = some (.string (rs.getD i (ByteArray.empty, ByteArray.empty)).1) ∧ w.cell? ⟨b, o + i * 2 + 1, none⟩ = some (.string (rs.getD i (ByteArray.empty, ByteArray.empty)).2)
theorem Prs.below {w w' : World} {a : Option Addr} {rs : List (ByteArray × ByteArray)} (h : Prs w a rs) (hb : Below w.heap.size w w') : Prs w' a rs := by
  rcases h with h | ⟨b, o, h1, h2, h3⟩
  · exact .inl h
  · exact .inr ⟨b, o, h1, Nat.lt_of_lt_of_le h2 hb.size, fun i hi => ⟨(hb.cell (p := ⟨b, o + i * 2, none⟩) h2).trans (h3 i hi).1, (hb.cell (p := ⟨b, o + i * 2 + 1, none⟩) h2).trans (h3 i hi).2⟩⟩
theorem Prs.at {w : World} {a : Option Addr} {rs : List (ByteArray × ByteArray)} (h : Prs w a rs) {k : Nat} (hk : k < rs.length) : ∃ b o s0 s1, a = some ⟨b, o, none⟩ ∧ w.cell? ⟨b, o + k * 2, none⟩ = some (.string s0) ∧ w.cell? ⟨b, o + k * 2 + 1, none⟩ = some (.string s1) ∧ Hid ((s0, s1) = rs.getD k (ByteArray.empty, ByteArray.empty)) := by
  rcases h with h | ⟨b, o, h1, h2, h3⟩
  · subst h; simp at hk
  · exact ⟨b, o, _, _, h1, (h3 k hk).1, (h3 k hk).2, hid rfl⟩
/-- The cells of records. -/
def prcells (rs : List (ByteArray × ByteArray)) : List Value := rs.flatMap fun x => [.string x.1, .string x.2]
theorem prcells_nil : prcells [] = [] := rfl
theorem prcells_append (a b : List (ByteArray × ByteArray)) : prcells (a ++ b) = prcells a ++ prcells b := by simp [prcells]
theorem prcells_length (rs : List (ByteArray × ByteArray)) : (prcells rs).length = rs.length * 2 := by
  induction rs with
  | nil => rfl
  | cons x r ih => simp [prcells] at ih ⊢; omega
theorem prcells_at : ∀ (rs : List (ByteArray × ByteArray)) (i : Nat), i < rs.length → (prcells rs)[i * 2]? = some (.string (rs.getD i (ByteArray.empty, ByteArray.empty)).1) ∧ (prcells rs)[i * 2 + 1]? = some (.string (rs.getD i (ByteArray.empty, ByteArray.empty)).2)
  | x :: r, 0, _ => by simp [prcells]
  | x :: r, i + 1, h => by
    have ih := prcells_at r i (by simpa using h)
    have e : prcells (x :: r) = .string x.1 :: .string x.2 :: prcells r := by simp [prcells]
    rw [e, show (i + 1) * 2 = i * 2 + 2 by omega]
    simpa using ih
theorem Row.prs {w : World} {g : Nat} {rs : List (ByteArray × ByteArray)} (h : Row w g (prcells rs)) : Prs w (some ⟨g, 0, none⟩) rs :=
  .inr ⟨g, 0, rfl, h.lt, fun i hi => by
    rw [Nat.zero_add]
    exact ⟨h.cell _ _ (prcells_at rs i hi).1, h.cell _ _ (prcells_at rs i hi).2⟩⟩
def prupTo (rs : List (ByteArray × ByteArray)) (k : Nat) : List Value := prcells (rs.take k) ++ prcells (List.replicate (rs.length - k) (ByteArray.empty, ByteArray.empty))
theorem prupTo_length (rs : List (ByteArray × ByteArray)) (k : Nat) (h : k ≤ rs.length) : (prupTo rs k).length = rs.length * 2 := by simp [prupTo, prcells_length]; omega
theorem prupTo_all (rs : List (ByteArray × ByteArray)) (k : Nat) (h : rs.length ≤ k) : prupTo rs k = prcells rs := by
  unfold prupTo; rw [List.take_of_length_le h, show rs.length - k = 0 by omega]; simp [prcells]
theorem prupTo_set (rs : List (ByteArray × ByteArray)) (k : Nat) (h : k < rs.length) : ((prupTo rs k).set (k * 2) (.string (rs.getD k (ByteArray.empty, ByteArray.empty)).1)).set (k * 2 + 1) (.string (rs.getD k (ByteArray.empty, ByteArray.empty)).2) = prupTo rs (k + 1) := by
  unfold prupTo
  have el : (prcells (rs.take k)).length = k * 2 := by rw [prcells_length]; simp; omega
  rw [List.set_append_right _ _ (by omega), List.set_append_right _ _ (by omega), el, show k * 2 - k * 2 = 0 by omega, show k * 2 + 1 - k * 2 = 1 by omega,
    show rs.length - k = (rs.length - (k + 1)) + 1 by omega, List.replicate_succ, List.take_succ_eq_append_getElem h, prcells_append, List.append_assoc]
  congr 1
  simp [prcells, List.getD, h]
theorem made_prs : ∀ (n : Nat), (madeCells (Value.agg #[.string ByteArray.empty, .string ByteArray.empty]).cells (n * 2)).toList = prcells (List.replicate n (ByteArray.empty, ByteArray.empty))
  | 0 => by simp [madeCells, prcells]
  | n + 1 => by
    have ih := made_prs n
    unfold madeCells at ih ⊢
    rw [Array.toList_map, Array.toList_range] at ih ⊢
    rw [show (n + 1) * 2 = n * 2 + 1 + 1 by omega, List.range_succ, List.range_succ, List.map_append, List.map_append, ih, List.replicate_succ', prcells_append, List.append_assoc]
    congr 1
    have e0 : (n * 2) % (Value.agg #[.string ByteArray.empty, .string ByteArray.empty]).cells.size = 0 := by simp [Value.cells] <;> omega
    have e1 : (n * 2 + 1) % (Value.agg #[.string ByteArray.empty, .string ByteArray.empty]).cells.size = 1 := by simp [Value.cells] <;> omega
    simp only [List.map_cons, List.map_nil]
    rw [e0, e1]
    rfl
/-- The sizes that are counted of a record. -/
def prsz (x : ByteArray × ByteArray) : List Nat := [x.1.size, x.2.size]
end Go.Proofs.YtnmaknnnmjfhkagGreatDoor

namespace Go.Proofs.YtnmaknnnmjfhkagGreatDoor
open Go.RowKit

abbrev ChT := ByteArray × ByteArray × Bool
/-- Records in a row of memory. -/
def Chs (w : World) (a : Option Addr) (rs : List (ByteArray × ByteArray × Bool)) : Prop :=
  rs = [] ∨ ∃ b o, a = some ⟨b, o, none⟩ ∧ b < w.heap.size ∧ ∀ i, i < rs.length → w.cell? ⟨b, o + i * 3, none⟩ = some (.string (rs.getD i (ByteArray.empty, ByteArray.empty, false)).1) ∧ w.cell? ⟨b, o + i * 3 + 1, none⟩ = some (.string (rs.getD i (ByteArray.empty, ByteArray.empty, false)).2.1) ∧ w.cell? ⟨b, o + i * 3 + 2, none⟩ = some (.bool (rs.getD i (ByteArray.empty, ByteArray.empty, false)).2.2)
theorem Chs.below {w w' : World} {a : Option Addr} {rs : List (ByteArray × ByteArray × Bool)} (h : Chs w a rs) (hb : Below w.heap.size w w') : Chs w' a rs := by
  rcases h with h | ⟨b, o, h1, h2, h3⟩
  · exact .inl h
  · exact .inr ⟨b, o, h1, Nat.lt_of_lt_of_le h2 hb.size, fun i hi => ⟨(hb.cell (p := ⟨b, o + i * 3, none⟩) h2).trans (h3 i hi).1, (hb.cell (p := ⟨b, o + i * 3 + 1, none⟩) h2).trans (h3 i hi).2.1, (hb.cell (p := ⟨b, o + i * 3 + 2, none⟩) h2).trans (h3 i hi).2.2⟩⟩
theorem Chs.at {w : World} {a : Option Addr} {rs : List (ByteArray × ByteArray × Bool)} (h : Chs w a rs) {k : Nat} (hk : k < rs.length) : ∃ b o s0 s1 g2, a = some ⟨b, o, none⟩ ∧ w.cell? ⟨b, o + k * 3, none⟩ = some (.string s0) ∧ w.cell? ⟨b, o + k * 3 + 1, none⟩ = some (.string s1) ∧ w.cell? ⟨b, o + k * 3 + 2, none⟩ = some (.bool g2) ∧ Hid ((s0, s1, g2) = rs.getD k (ByteArray.empty, ByteArray.empty, false)) := by
  rcases h with h | ⟨b, o, h1, h2, h3⟩
  · subst h; simp at hk
  · exact ⟨b, o, _, _, _, h1, (h3 k hk).1, (h3 k hk).2.1, (h3 k hk).2.2, hid rfl⟩
/-- The cells of records. -/
def chcells (rs : List (ByteArray × ByteArray × Bool)) : List Value := rs.flatMap fun x => [.string x.1, .string x.2.1, .bool x.2.2]
theorem chcells_nil : chcells [] = [] := rfl
theorem chcells_append (a b : List (ByteArray × ByteArray × Bool)) : chcells (a ++ b) = chcells a ++ chcells b := by simp [chcells]
theorem chcells_length (rs : List (ByteArray × ByteArray × Bool)) : (chcells rs).length = rs.length * 3 := by
  induction rs with
  | nil => rfl
  | cons x r ih => simp [chcells] at ih ⊢; omega
theorem chcells_at : ∀ (rs : List (ByteArray × ByteArray × Bool)) (i : Nat), i < rs.length → (chcells rs)[i * 3]? = some (.string (rs.getD i (ByteArray.empty, ByteArray.empty, false)).1) ∧ (chcells rs)[i * 3 + 1]? = some (.string (rs.getD i (ByteArray.empty, ByteArray.empty, false)).2.1) ∧ (chcells rs)[i * 3 + 2]? = some (.bool (rs.getD i (ByteArray.empty, ByteArray.empty, false)).2.2)
  | x :: r, 0, _ => by simp [chcells]
  | x :: r, i + 1, h => by
    have ih := chcells_at r i (by simpa using h)
    have e : chcells (x :: r) = .string x.1 :: .string x.2.1 :: .bool x.2.2 :: chcells r := by simp [chcells]
    rw [e, show (i + 1) * 3 = i * 3 + 3 by omega]
    simpa using ih
theorem Row.chs {w : World} {g : Nat} {rs : List (ByteArray × ByteArray × Bool)} (h : Row w g (chcells rs)) : Chs w (some ⟨g, 0, none⟩) rs :=
  .inr ⟨g, 0, rfl, h.lt, fun i hi => by
    rw [Nat.zero_add]
    exact ⟨h.cell _ _ (chcells_at rs i hi).1, h.cell _ _ (chcells_at rs i hi).2.1, h.cell _ _ (chcells_at rs i hi).2.2⟩⟩
def chupTo (rs : List (ByteArray × ByteArray × Bool)) (k : Nat) : List Value := chcells (rs.take k) ++ chcells (List.replicate (rs.length - k) (ByteArray.empty, ByteArray.empty, false))
theorem chupTo_length (rs : List (ByteArray × ByteArray × Bool)) (k : Nat) (h : k ≤ rs.length) : (chupTo rs k).length = rs.length * 3 := by simp [chupTo, chcells_length]; omega
theorem chupTo_all (rs : List (ByteArray × ByteArray × Bool)) (k : Nat) (h : rs.length ≤ k) : chupTo rs k = chcells rs := by
  unfold chupTo; rw [List.take_of_length_le h, show rs.length - k = 0 by omega]; simp [chcells]
theorem chupTo_set (rs : List (ByteArray × ByteArray × Bool)) (k : Nat) (h : k < rs.length) : (((chupTo rs k).set (k * 3) (.string (rs.getD k (ByteArray.empty, ByteArray.empty, false)).1)).set (k * 3 + 1) (.string (rs.getD k (ByteArray.empty, ByteArray.empty, false)).2.1)).set (k * 3 + 2) (.bool (rs.getD k (ByteArray.empty, ByteArray.empty, false)).2.2) = chupTo rs (k + 1) := by
  unfold chupTo
  have el : (chcells (rs.take k)).length = k * 3 := by rw [chcells_length]; simp; omega
  rw [List.set_append_right _ _ (by omega), List.set_append_right _ _ (by omega), List.set_append_right _ _ (by omega), el, show k * 3 - k * 3 = 0 by omega, show k * 3 + 1 - k * 3 = 1 by omega, show k * 3 + 2 - k * 3 = 2 by omega,
    show rs.length - k = (rs.length - (k + 1)) + 1 by omega, List.replicate_succ, List.take_succ_eq_append_getElem h, chcells_append, List.append_assoc]
  congr 1
  simp [chcells, List.getD, h]
theorem made_chs : ∀ (n : Nat), (madeCells (Value.agg #[.string ByteArray.empty, .string ByteArray.empty, .bool false]).cells (n * 3)).toList = chcells (List.replicate n (ByteArray.empty, ByteArray.empty, false))
  | 0 => by simp [madeCells, chcells]
  | n + 1 => by
    have ih := made_chs n
    unfold madeCells at ih ⊢
    rw [Array.toList_map, Array.toList_range] at ih ⊢
    rw [show (n + 1) * 3 = n * 3 + 1 + 1 + 1 by omega, List.range_succ, List.range_succ, List.range_succ, List.map_append, List.map_append, List.map_append, ih, List.replicate_succ', chcells_append, List.append_assoc, List.append_assoc]
    congr 1
    have e0 : (n * 3) % (Value.agg #[.string ByteArray.empty, .string ByteArray.empty, .bool false]).cells.size = 0 := by simp [Value.cells] <;> omega
    have e1 : (n * 3 + 1) % (Value.agg #[.string ByteArray.empty, .string ByteArray.empty, .bool false]).cells.size = 1 := by simp [Value.cells] <;> omega
    have e2 : (n * 3 + 1 + 1) % (Value.agg #[.string ByteArray.empty, .string ByteArray.empty, .bool false]).cells.size = 2 := by simp [Value.cells] <;> omega
    simp only [List.map_cons, List.map_nil]
    rw [e0, e1, e2]
    rfl
/-- The sizes that are counted of a record. -/
def chsz (x : ByteArray × ByteArray × Bool) : List Nat := [x.1.size, x.2.1.size]
end Go.Proofs.YtnmaknnnmjfhkagGreatDoor

namespace Go.Proofs.YtnmaknnnmjfhkagGreatDoor
open Go.RowKit
/-- A call of a Go function, by its contract, as one step of a region that draws its order. -/
theorem step_call {P : Program} {ops : Array Oper} {o : Oper} {a : Act} {w : World} {K : Act → World → Prop} {Q : Exit → Act → World → Prop} {E : Prop} (hgd : o.guard = none) (f : FuncId) (args : Array Value)
    (hrun : (execOp a.eval o).run P w = .ok (.enter f args) w) {C : Ending → World → Prop} (hc : Calls P f args w C) (h : ∀ e w', C e w' → ∃ v, e = .returned v ∧ K (a.put o.dst v) w') :
    if Region.wanted o (yielded ops a.tmps) = true then Oper.wp P o a w K Q else E := by
  have hw : Region.wanted o (yielded ops a.tmps) = true := by simp [Region.wanted, hgd]
  rw [if_pos hw]
  unfold Oper.wp
  rw [hrun, Oper.upon_enter]
  refine hc.mono fun e w'' hh => ?_
  obtain ⟨v, rfl, hk⟩ := h e w'' hh
  exact hk
end Go.Proofs.YtnmaknnnmjfhkagGreatDoor

namespace Go.Proofs.YtnmaknnnmjfhkagGreatDoor
open Go.Shelf

/-- Where this program has what the contracts of strings.Builder speak of. -/
def bRen : Go.Shelf.Ren := ⟨fun | 166 => 155 | 240 => 221 | 276 => 260 | 169 => 157 | n => n, fun | 0 => 0 | 3 => 3 | 4 => 4 | 5 => 5 | 9 => 9 | 20 => 20 | 37 => 47 | 70 => 208 | 72 => 210 | 75 => 215 | 80 => 219 | 164 => 302 | 127 => 279 | n => n, fun | n => n⟩
theorem bLays240 : Go.Proofs.Lays.n240 Tryz.prog bRen := {
  mixed := by kernel_rfl
  f240 := Tryz.func221.trans (congrArg some (by kernel_rfl))
  f276 := Tryz.func260.trans (congrArg some (by kernel_rfl))
  t0 := Tryz.underlying0
  a0 := Tryz.isAgg0
  z0 := Tryz.sizeOf0
  v0 := Tryz.zeroValue0
  t4 := Tryz.underlying4
  a4 := Tryz.isAgg4
  z4 := Tryz.sizeOf4
  v4 := Tryz.zeroValue4
  t9 := Tryz.underlying9
  a9 := Tryz.isAgg9
  z9 := Tryz.sizeOf9
  v9 := Tryz.zeroValue9
  t20 := Tryz.underlying20
  a20 := Tryz.isAgg20
  z20 := Tryz.sizeOf20
  v20 := Tryz.zeroValue20
  t70 := Tryz.underlying208
  a70 := Tryz.isAgg208
  z70 := Tryz.sizeOf208
  v70 := Tryz.zeroValue208
  t72 := Tryz.underlying210
  a72 := Tryz.isAgg210
  z72 := Tryz.sizeOf210
  v72 := Tryz.zeroValue210
  t164 := Tryz.underlying302
  a164 := Tryz.isAgg302
  z164 := Tryz.sizeOf302
  v164 := Tryz.zeroValue302 }
theorem bLays166 : Go.Proofs.Lays.n166 Tryz.prog bRen := {
  mixed := by kernel_rfl
  f166 := Tryz.func155.trans (congrArg some (by kernel_rfl))
  f240 := Tryz.func221.trans (congrArg some (by kernel_rfl))
  f276 := Tryz.func260.trans (congrArg some (by kernel_rfl))
  t0 := Tryz.underlying0
  a0 := Tryz.isAgg0
  z0 := Tryz.sizeOf0
  v0 := Tryz.zeroValue0
  t3 := Tryz.underlying3
  a3 := Tryz.isAgg3
  z3 := Tryz.sizeOf3
  v3 := Tryz.zeroValue3
  t4 := Tryz.underlying4
  a4 := Tryz.isAgg4
  z4 := Tryz.sizeOf4
  v4 := Tryz.zeroValue4
  t9 := Tryz.underlying9
  a9 := Tryz.isAgg9
  z9 := Tryz.sizeOf9
  v9 := Tryz.zeroValue9
  t20 := Tryz.underlying20
  a20 := Tryz.isAgg20
  z20 := Tryz.sizeOf20
  v20 := Tryz.zeroValue20
  t37 := Tryz.underlying47
  a37 := Tryz.isAgg47
  z37 := Tryz.sizeOf47
  v37 := Tryz.zeroValue47
  t70 := Tryz.underlying208
  a70 := Tryz.isAgg208
  z70 := Tryz.sizeOf208
  v70 := Tryz.zeroValue208
  t72 := Tryz.underlying210
  a72 := Tryz.isAgg210
  z72 := Tryz.sizeOf210
  v72 := Tryz.zeroValue210
  t75 := Tryz.underlying215
  a75 := Tryz.isAgg215
  z75 := Tryz.sizeOf215
  v75 := Tryz.zeroValue215
  t164 := Tryz.underlying302
  a164 := Tryz.isAgg302
  z164 := Tryz.sizeOf302
  v164 := Tryz.zeroValue302 }
theorem bLays169 : Go.Proofs.Lays.n169 Tryz.prog bRen := {
  mixed := by kernel_rfl
  f169 := Tryz.func157.trans (congrArg some (by kernel_rfl))
  t0 := Tryz.underlying0
  a0 := Tryz.isAgg0
  z0 := Tryz.sizeOf0
  v0 := Tryz.zeroValue0
  t3 := Tryz.underlying3
  a3 := Tryz.isAgg3
  z3 := Tryz.sizeOf3
  v3 := Tryz.zeroValue3
  t9 := Tryz.underlying9
  a9 := Tryz.isAgg9
  z9 := Tryz.sizeOf9
  v9 := Tryz.zeroValue9
  t37 := Tryz.underlying47
  a37 := Tryz.isAgg47
  z37 := Tryz.sizeOf47
  v37 := Tryz.zeroValue47
  t70 := Tryz.underlying208
  a70 := Tryz.isAgg208
  z70 := Tryz.sizeOf208
  v70 := Tryz.zeroValue208
  t72 := Tryz.underlying210
  a72 := Tryz.isAgg210
  z72 := Tryz.sizeOf210
  v72 := Tryz.zeroValue210
  t127 := Tryz.underlying279
  a127 := Tryz.isAgg279
  z127 := Tryz.sizeOf279
  v127 := Tryz.zeroValue279 }
theorem bX72 : Builder.X72 Tryz.prog bRen := {
  sizeBuilder := by kernel_rfl
  liesBuilder := by kernel_rfl }
theorem bExtra : Builder.Extra Tryz.prog bRen := {
  sizeBuilder := by kernel_rfl
  liesBuilder := by kernel_rfl
  t5 := Tryz.underlying5
  a5 := Tryz.isAgg5
  z5 := Tryz.sizeOf5
  v5 := Tryz.zeroValue5
  infoByte := by kernel_rfl
  cellsByte := by kernel_rfl
  sizeByte := by kernel_rfl
  neB5 := by decide }
open Go.RowKit in
theorem b_write (B b : Nat) (bs : List Value) (s : ByteArray) (w : World) (h : Lib.IsBuilder 210 5 B b bs w) (hlen : bs.length + s.size ≤ 140737488355328) (hBw : B ≤ w.heap.size) :
    Calls Tryz.prog 155 #[.pointer (some ⟨b, 0, none⟩), .string s] w fun e w' => e = .returned (.tuple #[.int .i64 s.size, .nilIface]) ∧ (Lib.BuilderAt 210 5 B b (.pointer (some ⟨b, 0, none⟩)) (bs ++ Lib.strCells s) w' ∧ Below B w w') := Any.Builder_WriteString bLays166 bExtra B b bs s w h hlen hBw
open Go.RowKit in
theorem b_string (B b : Nat) (l : List UInt8) (w : World) (h : Lib.IsBuilder 210 5 B b (Lib.byteCells l) w) (hBw : B ≤ w.heap.size) :
    Calls Tryz.prog 157 #[.pointer (some ⟨b, 0, none⟩)] w fun e w' => e = .returned (.string ⟨l.toArray⟩) ∧ Below B w w' := Any.Builder_String_any bLays169 bExtra B b l w h hBw
end Go.Proofs.YtnmaknnnmjfhkagGreatDoor

namespace Go.Proofs.YtnmaknnnmjfhkagGreatDoor
open Go.RowKit
set_option maxRecDepth 4000

theorem ret_str {a b : ByteArray} (h : a = b) : Ending.returned (.string a) = .returned (.string b) := by rw [h]
theorem bytes1 (w : World) (n : Int) : (convert 47 9 (.slice (some ⟨w.heap.size, 0, none⟩) 1 1)).run Tryz.prog (w.alloc (.cells #[.int .u8 n] 5)) = .ok (.string (strOfNums [n])) (w.alloc (.cells #[.int .u8 n] 5)) :=
  run_convert_bytes_arg (P := Tryz.prog) _ 47 5 Tryz.underlying47 Tryz.underlying5 w.heap.size 0 1 1 [n] rfl (fun i hi => by
    have : i = 0 := by omega
    subst this; simp) 9 Tryz.underlying9

end Go.Proofs.YtnmaknnnmjfhkagGreatDoor

namespace Go.Proofs.YtnmaknnnmjfhkagGreatDoor
open Go.RowKit
set_option maxRecDepth 4000

theorem width_s (n : Int) (w : World) : Calls Tryz.prog 49 #[.int .i64 n] w fun e w' => e = .returned (.bool (decide (1 ≤ n ∧ n ≤ 8))) ∧ w' = w := by
  by_cases h1 : 1 ≤ n
  · by_cases h2 : n ≤ 8
    · go_enter Tryz.func49, Tryz.ntmps49
      go_wp2
      go_ret
      exact ⟨by simp [h1, h2], rfl⟩
    · go_enter Tryz.func49, Tryz.ntmps49
      go_wp2
      go_ret
      exact ⟨by simp [h2], rfl⟩
  · go_enter Tryz.func49, Tryz.ntmps49
    go_wp2
    go_ret
    exact ⟨by simp; omega, rfl⟩

theorem width_i (n : Int) (w : World) : Calls Tryz.prog 60 #[.int .i64 n] w fun e w' => e = .returned (.bool (decide (1 ≤ n ∧ n ≤ 8))) ∧ w' = w := by
  by_cases h1 : 1 ≤ n
  · by_cases h2 : n ≤ 8
    · go_enter Tryz.func60, Tryz.ntmps60
      go_wp2
      go_ret
      exact ⟨by simp [h1, h2], rfl⟩
    · go_enter Tryz.func60, Tryz.ntmps60
      go_wp2
      go_ret
      exact ⟨by simp [h2], rfl⟩
  · go_enter Tryz.func60, Tryz.ntmps60
    go_wp2
    go_ret
    exact ⟨by simp; omega, rfl⟩

end Go.Proofs.YtnmaknnnmjfhkagGreatDoor

namespace Go.Proofs.YtnmaknnnmjfhkagGreatDoor
open Go.RowKit
set_option maxRecDepth 4000
set_option linter.unusedVariables false
set_option linter.unusedSimpArgs false
/-- How many sectors a half has. -/
def hv (n : Int) : Int := if 8 ≤ n ∧ n ≤ 200 then (n - 2) / 2 else 0
theorem isize_i (n : Int) (w : World) : Calls Tryz.prog 147 #[.int .i64 n] w fun e w' => e = .returned (.bool (decide (8 ≤ n ∧ n ≤ 200))) ∧ w' = w := by
  go_enter Tryz.func147, Tryz.ntmps147
  by_cases h1 : 8 ≤ n <;> by_cases h2 : n ≤ 200 <;> (go_wp2; go_ret; simp [h1, h2])
theorem halves_i (n : Int) (w : World) : Calls Tryz.prog 64 #[.int .i64 n] w fun e w' => e = .returned (.int .i64 (hv n)) ∧ w' = w := by
  by_cases h : 8 ≤ n ∧ n ≤ 200
  · have hd : decide (8 ≤ n ∧ n ≤ 200) = true := by simp [h]
    have hh : hv n = (n - 2) / 2 := by unfold hv; rw [if_pos h]
    obtain ⟨h1, h2⟩ := h
    go_enter Tryz.func64, Tryz.ntmps64
    go_wp2_with (go_at_call 147; refine (isize_i _ _).mono ?_; rw [hd]; rintro e w2 ⟨rfl, rfl⟩)
    go_ret
    refine ⟨?_, rfl⟩
    rw [hh]
    rfl
  · have hd : decide (8 ≤ n ∧ n ≤ 200) = false := by simpa using h
    have hh : hv n = 0 := by unfold hv; rw [if_neg h]
    rw [hh]
    go_enter Tryz.func64, Tryz.ntmps64
    go_wp2_with (go_at_call 147; refine (isize_i _ _).mono ?_; rw [hd]; rintro e w2 ⟨rfl, rfl⟩)
    go_ret
    exact ⟨rfl, rfl⟩
theorem halves_s (n : Int) (w : World) : Calls Tryz.prog 30 #[.int .i64 n] w fun e w' => e = .returned (.int .i64 (hv n)) ∧ w' = w := by
  by_cases h1 : 8 ≤ n
  · by_cases h2 : n ≤ 200
    · have hh : hv n = (n - 2) / 2 := by unfold hv; rw [if_pos ⟨h1, h2⟩]
      go_enter Tryz.func30, Tryz.ntmps30
      go_wp2
      go_ret
      refine ⟨?_, rfl⟩
      rw [hh]
      rfl
    · have hh : hv n = 0 := by unfold hv; rw [if_neg (fun x => h2 x.2)]
      rw [hh]
      go_enter Tryz.func30, Tryz.ntmps30
      go_wp2
      go_ret
      exact ⟨rfl, rfl⟩
  · have hh : hv n = 0 := by unfold hv; rw [if_neg (fun x => h1 x.1)]
    rw [hh]
    go_enter Tryz.func30, Tryz.ntmps30
    go_wp2
    go_ret
    exact ⟨rfl, rfl⟩
end Go.Proofs.YtnmaknnnmjfhkagGreatDoor

namespace Go.Proofs.YtnmaknnnmjfhkagGreatDoor
open Go.RowKit
set_option linter.unusedVariables false

/-- A store as a value. -/
def storeV (W S L T H F R U O : Int) (a : Option Addr) (n c : Nat) : Value := .agg #[.int .i64 W, .int .i64 S, .int .i64 L, .int .i64 T, .int .i64 H, .int .i64 F, .int .i64 R, .int .i64 U, .int .i64 O, .slice a n c]
end Go.Proofs.YtnmaknnnmjfhkagGreatDoor

namespace Go.Proofs.YtnmaknnnmjfhkagGreatDoor
open Go.RowKit
set_option maxRecDepth 4000

set_option maxHeartbeats 16000000 in
theorem sum_s (s : ByteArray) (w : World) (n : Nat) (hs : s.size ≤ 1048576) (h1 : 1 ≤ n) (h2 : n ≤ 8) :
    Calls Tryz.prog 145 #[.string s, .int .i64 (n : Int)] w fun e w' => e = .returned (.string (sumN s n)) ∧ Below w.heap.size w w' := by
  have hb1 := bytes1
  have h1' : (1 : Int) ≤ (n : Int) := by omega
  have h2' : (n : Int) ≤ 8 := by omega
  go_enter Tryz.func145, Tryz.ntmps145
  go_wp2
  go_loop [5, 6] (fun v i => ∃ k : Nat, k ≤ s.size ∧ i = .int .i64 k ∧ v = .int .u64 (fnv (s.data.toList.take k))) (fun _ i => s.size - (intOf i).toNat)
  case atStart => exact ⟨0, Nat.zero_le _, rfl, rfl⟩
  case round =>
    obtain ⟨k, hk, rfl, rfl⟩ := hrel
    by_cases hlt : k < s.size
    · have HS : Hid (fnv (s.data.toList.take (k + 1)) = fnvStep (fnv (s.data.toList.take k)) s[k]) := by show _ = _; rw [take_snoc s k hlt, fnv_snoc]
      go_wp2
      go_round
      case rel => exact ⟨k + 1, by omega, by go_num, by rw [HS.out]; rfl⟩
      case measure => simp [intOf]; omega
    · have hke : s.data.toList.take k = s.data.toList := List.take_of_length_le (by simp; omega)
      have HV : Hid (fnv (s.data.toList.take k) = fnv s.data.toList) := by show _ = _; rw [hke]
      clear hke
      obtain ⟨x, HX⟩ : ∃ x, Hid (x = fnv s.data.toList) := ⟨fnv s.data.toList, (rfl : fnv s.data.toList = fnv s.data.toList)⟩
      rw [HV.out, ← HX.out]
      have hx : 0 ≤ x ∧ x ≤ 18446744073709551615 := by rw [HX.out]; exact fnv_bd _
      go_wp2
      go_loopw [5, 7, 8] (fun v o i wr => ∃ k : Nat, k ≤ n ∧ i = .int .i64 k ∧ o = .string (strOfNums (be k x)) ∧ v = .int .u64 (sh k x) ∧ Below w.heap.size w wr) (fun _ _ i _ => n - (intOf i).toNat)
      case atStart => exact ⟨0, Nat.zero_le _, rfl, rfl, rfl, Below.refl _ _⟩
      case round =>
        obtain ⟨k, hk, rfl, rfl, rfl, hbel⟩ := hrel
        have hsb := sh_bd k x hx.1 hx.2
        by_cases hlt : k < n
        · have hz1 : (strOfNums [sh k x % 256]).size ≤ 1 := by rw [strOfNums_size]; simp
          have hz2 : (strOfNums (be k x)).size ≤ 8 := by rw [strOfNums_size, be_length]; omega
          go_wp2
          go_roundw
          case rel => exact ⟨k + 1, by omega, by go_num, by rw [be_succ, ← strOfNums_append]; rfl, rfl, hbel.alloc hbel.size _⟩
          case measure => simp [intOf]; omega
        · have hkn : k = n := by omega
          subst hkn
          go_wp2
          go_ret
          exact ⟨ret_str (by unfold sumN; rw [HX.out]), hbel⟩

theorem sum_s_no (s : ByteArray) (w : World) (n : Int) (h : ¬ (1 ≤ n ∧ n ≤ 8)) :
    Calls Tryz.prog 145 #[.string s, .int .i64 n] w fun e w' => e = .returned (.string ByteArray.empty) ∧ w' = w := by
  go_enter Tryz.func145, Tryz.ntmps145
  have hd : decide (1 ≤ n ∧ n ≤ 8) = false := by simpa using h
  go_wp2_with (go_at_call 49; refine (width_s _ _).mono ?_; rw [hd]; rintro e w' ⟨rfl, rfl⟩)
  go_ret
  exact ⟨rfl, rfl⟩

theorem sum_i_no (s : ByteArray) (w : World) (n : Int) (h : ¬ (1 ≤ n ∧ n ≤ 8)) :
    Calls Tryz.prog 268 #[.string s, .int .i64 n] w fun e w' => e = .returned (.string ByteArray.empty) ∧ w' = w := by
  go_enter Tryz.func268, Tryz.ntmps268
  have hd : decide (1 ≤ n ∧ n ≤ 8) = false := by simpa using h
  go_wp2_with (go_at_call 60; refine (width_i _ _).mono ?_; rw [hd]; rintro e w' ⟨rfl, rfl⟩)
  go_ret
  exact ⟨rfl, rfl⟩

set_option maxHeartbeats 16000000 in
theorem put_any (b off n cap : Nat) (x : Int) (w : World) (hn : n ≤ 64) (hx0 : 0 ≤ x) (hx1 : x ≤ 18446744073709551615)
    (hc : ∀ i, i < n → ∃ u, w.cell? ⟨b, off + i, none⟩ = some (.int .u8 u)) (hf : ∀ i, i < n → w.frozen? ⟨b, off + i, none⟩ = false) :
    Calls Tryz.prog 263 #[.slice (some ⟨b, off, none⟩) n cap, .int .u64 x] w fun e w' => e = .returned (.tuple #[]) ∧ Wrote w w' b off (be n x) := by
  go_enter Tryz.func263, Tryz.ntmps263
  go_wp2
  go_loopw [1, 4] (fun v i wr => ∃ k : Nat, k ≤ n ∧ i = .int .i64 ((n : Int) - 1 - k) ∧ v = .int .u64 (sh k x) ∧ Wrote w wr b (off + (n - k)) (be k x)) (fun _ i _ => (intOf i + 1).toNat)
  case atStart => exact ⟨0, Nat.zero_le _, by simp, rfl, by simpa [be] using Wrote.refl w b (off + n)⟩
  case round =>
    obtain ⟨k, hk, rfl, rfl, hwr⟩ := hrel
    have hsb := sh_bd k x hx0 hx1
    by_cases hlt : k < n
    · obtain ⟨u, hu⟩ := hc (n - 1 - k) (by omega)
      have hu' : wr.cell? ⟨b, off + (n - 1 - k), none⟩ = some (.int .u8 u) := (hwr.outside _ (.inl (by omega))).trans hu
      have hf' : wr.frozen? ⟨b, off + (n - 1 - k), none⟩ = false := (hwr.frozen _).trans (hf _ (by omega))
      go_wp2
      go_roundw
      case rel =>
        have hst := Wrote.step (off := off + (n - 1 - k)) (xs := be k x) (by rw [show off + (n - 1 - k) + 1 = off + (n - k) by omega]; exact hwr) (sh k x % 256) hu
        exact ⟨k + 1, by omega, by go_num, rfl, by rw [be_succ, show n - (k + 1) = n - 1 - k by omega]; exact hst⟩
      case measure => simp [intOf]; omega
    · have hkn : k = n := by omega
      subst hkn
      go_wp2
      go_end0
      exact ⟨rfl, by simpa using hwr⟩

set_option maxHeartbeats 16000000 in
theorem sum_i (s : ByteArray) (w : World) (n : Nat) (hs : s.size ≤ 1048576) (h1 : 1 ≤ n) (h2 : n ≤ 8) :
    Calls Tryz.prog 268 #[.string s, .int .i64 (n : Int)] w fun e w' => e = .returned (.string (sumN s n)) ∧ Below w.heap.size w w' := by
  have h1' : (1 : Int) ≤ (n : Int) := by omega
  have h2' : (n : Int) ≤ 8 := by omega
  go_enter Tryz.func268, Tryz.ntmps268
  go_wp2
  go_loop [5, 6] (fun v i => ∃ k : Nat, k ≤ s.size ∧ i = .int .i64 k ∧ v = .int .u64 (fnv (s.data.toList.take k))) (fun _ i => s.size - (intOf i).toNat)
  case atStart => exact ⟨0, Nat.zero_le _, rfl, rfl⟩
  case round =>
    obtain ⟨k, hk, rfl, rfl⟩ := hrel
    by_cases hlt : k < s.size
    · have HS : Hid (fnv (s.data.toList.take (k + 1)) = fnvStep (fnv (s.data.toList.take k)) s[k]) := by show _ = _; rw [take_snoc s k hlt, fnv_snoc]
      go_wp2
      go_round
      case rel => exact ⟨k + 1, by omega, by go_num, by rw [HS.out]; rfl⟩
      case measure => simp [intOf]; omega
    · have hke : s.data.toList.take k = s.data.toList := List.take_of_length_le (by simp; omega)
      have HV : Hid (fnv (s.data.toList.take k) = fnv s.data.toList) := by show _ = _; rw [hke]
      clear hke
      obtain ⟨x, HX⟩ : ∃ x, Hid (x = fnv s.data.toList) := ⟨fnv s.data.toList, (rfl : fnv s.data.toList = fnv s.data.toList)⟩
      rw [HV.out, ← HX.out]
      have hx : 0 ≤ x ∧ x ≤ 18446744073709551615 := by rw [HX.out]; exact fnv_bd _
      go_wp2_with fail
      refine (put_any w.heap.size 0 8 8 x _ (by omega) hx.1 hx.2 ?hc ?hf).mono ?_
      case hc => intro i hi; have : i = 0 ∨ i = 1 ∨ i = 2 ∨ i = 3 ∨ i = 4 ∨ i = 5 ∨ i = 6 ∨ i = 7 := by omega
                 rcases this with rfl | rfl | rfl | rfl | rfl | rfl | rfl | rfl <;> exact ⟨0, by simp⟩
      case hf => intro i hi; simp
      rintro e w1 ⟨rfl, hw1⟩
      have hbw : Below w.heap.size w w1 := ((Below.refl _ _).alloc (Nat.le_refl _) _).trans (hw1.below (Nat.le_refl _))
      have hcv := fun cap => run_convert_bytes_arg (P := Tryz.prog) w1 47 5 Tryz.underlying47 Tryz.underlying5 w.heap.size (8 - n) n cap (be n x) (be_length n x) (fun i hi => by
        have h := hw1.inside (8 - n + i) (by rw [be_length]; omega)
        rw [be_get _ _ _ (by omega)] at h
        rw [be_get _ _ _ (by omega), show n - 1 - i = 8 - 1 - (8 - n + i) by omega]
        simpa using h) 9 Tryz.underlying9
      clear hw1
      have hsl := fun wx => slice_arr_from (P := Tryz.prog) (t := 357) Tryz.underlying357 (fun _ => by kernel_rfl) w.heap.size 0 (8 - n) (by omega) .i64 (8 - (n : Int)) (by omega) wx
      rw [show 8 - (8 - n) = n by omega, Nat.zero_add] at hsl
      go_wp2
      go_ret
      exact ⟨ret_str (by unfold sumN; rw [HX.out]), hbw⟩
end Go.Proofs.YtnmaknnnmjfhkagGreatDoor

namespace Go.Proofs.YtnmaknnnmjfhkagGreatDoor
open Go.RowKit
set_option maxRecDepth 4000

theorem ret_bool {a b : Bool} (h : a = b) : Ending.returned (.bool a) = .returned (.bool b) := by rw [h]
def pageOk (k l m : Int) (p : ByteArray) (n : Int) : Bool := decide (1 ≤ n ∧ n ≤ 8 ∧ 1 ≤ k ∧ k ≤ 4 ∧ 1 ≤ l ∧ l ≤ 60000 ∧ 1 ≤ m ∧ m ≤ 1000000000 ∧ (p.size : Int) ≤ 56 - n ∧ (k = 3 → p.size = 0))

@[reducible] def pageV (k l m : Int) (p : ByteArray) : Value := .agg #[.int .i64 k, .int .i64 l, .int .i64 m, .string p]

set_option maxHeartbeats 16000000 in
theorem num_s (v : Int) (c : Nat) (w : World) (h0 : 0 ≤ v) (h1 : v ≤ 9223372036854775807) (hc : c ≤ 8) :
    Calls Tryz.prog 144 #[.int .i64 v, .int .i64 (c : Int)] w fun e w' => e = .returned (.string (strOfNums (be c v))) ∧ Below w.heap.size w w' := by
  have hb1 := bytes1
  go_enter Tryz.func144, Tryz.ntmps144
  go_wp2
  go_loopw [0, 5, 6] (fun x o i wr => ∃ k : Nat, k ≤ c ∧ i = .int .i64 k ∧ o = .string (strOfNums (be k v)) ∧ x = .int .i64 (sh k v) ∧ Below w.heap.size w wr) (fun _ _ i _ => c - (intOf i).toNat)
  case atStart => exact ⟨0, Nat.zero_le _, rfl, rfl, rfl, Below.refl _ _⟩
  case round =>
    obtain ⟨k, hk, rfl, rfl, rfl, hbel⟩ := hrel
    have hsb := sh_bd2 k v h0 h1
    by_cases hlt : k < c
    · have hz1 : (strOfNums [sh k v % 256]).size ≤ 1 := by rw [strOfNums_size]; simp
      have hz2 : (strOfNums (be k v)).size ≤ 8 := by rw [strOfNums_size, be_length]; omega
      go_wp2
      go_roundw
      case rel => exact ⟨k + 1, by omega, by go_num, by rw [be_succ, ← strOfNums_append]; rfl, rfl, hbel.alloc hbel.size _⟩
      case measure => simp [intOf]; omega
    · have hkn : k = c := by omega
      subst hkn
      go_wp2
      go_ret
      exact ⟨rfl, hbel⟩

theorem part_s (n : Int) (w : World) (h1 : 1 ≤ n) (h2 : n ≤ 8) : Calls Tryz.prog 192 #[.int .i64 n] w fun e w' => e = .returned (.int .i64 (64 - n - 8)) ∧ w' = w := by
  go_enter Tryz.func192, Tryz.ntmps192
  go_wp2
  go_ret
  exact ⟨rfl, rfl⟩
theorem part_i (n : Int) (w : World) (h1 : 1 ≤ n) (h2 : n ≤ 8) : Calls Tryz.prog 187 #[.int .i64 n] w fun e w' => e = .returned (.int .i64 (64 - n - 8)) ∧ w' = w := by
  go_enter Tryz.func187, Tryz.ntmps187
  go_wp2
  go_ret
  exact ⟨rfl, rfl⟩

set_option maxHeartbeats 16000000 in
theorem ok_i (k l m : Int) (p : ByteArray) (n : Int) (w : World) (hp : p.size ≤ 1048576) :
    Calls Tryz.prog 244 #[pageV k l m p, .int .i64 n] w fun e w' => e = .returned (.bool (pageOk k l m p n)) ∧ Below w.heap.size w w' := by
  by_cases hn : 1 ≤ n ∧ n ≤ 8
  · obtain ⟨hn1, hn2⟩ := hn
    go_enter Tryz.func244, Tryz.ntmps244
    go_wp2
    all_goals first
      | (go_ret; refine ⟨ret_bool ?_, (Below.refl _ _).alloc (Nat.le_refl _) _⟩; unfold pageOk; symm; apply decide_eq_false; intro h; omega)
      | (go_ret; refine ⟨ret_bool ?_, (Below.refl _ _).alloc (Nat.le_refl _) _⟩; have hk3 : (k == 3) = true := by assumption
         rw [isEmpty_size]; unfold pageOk; simp at hk3; apply decide_eq_decide.2; constructor <;> intro h <;> omega)
      | (go_quiet ((go_at_call 187; exact Calls.quiet_of_same (part_i _ _ hn1 hn2))); go_wp2; go_ret; refine ⟨ret_bool ?_, below_drewN ((Below.refl _ _).alloc (Nat.le_refl _) _) _⟩; have hk3 : (k == 3) = false := by assumption
         unfold pageOk; simp at hk3; apply decide_eq_decide.2; constructor <;> intro h <;> omega)
  · have hd : decide (1 ≤ n ∧ n ≤ 8) = false := by simpa using hn
    go_enter Tryz.func244, Tryz.ntmps244
    go_wp2_with (go_at_call 60; refine (width_i _ _).mono ?_; rw [hd]; rintro e w' ⟨rfl, rfl⟩)
    go_ret
    refine ⟨ret_bool ?_, (Below.refl _ _).alloc (Nat.le_refl _) _⟩
    unfold pageOk; symm; apply decide_eq_false; intro h; omega

set_option maxHeartbeats 16000000 in
theorem ok_s (k l m : Int) (p : ByteArray) (n : Int) (w : World) (hp : p.size ≤ 1048576) :
    Calls Tryz.prog 143 #[pageV k l m p, .int .i64 n] w fun e w' => e = .returned (.bool (pageOk k l m p n)) ∧ Below w.heap.size w w' := by
  by_cases hn : 1 ≤ n ∧ n ≤ 8
  · obtain ⟨hn1, hn2⟩ := hn
    by_cases h1 : 1 ≤ k ∧ k ≤ 4 ∧ 1 ≤ l ∧ l ≤ 60000 ∧ 1 ≤ m ∧ m ≤ 1000000000
    · obtain ⟨a1, a2, a3, a4, a5, a6⟩ := h1
      by_cases hz : (p.size : Int) ≤ 64 - n - 8
      · by_cases hk : k = 3
        · have hk' : (k != 3) = false := by simp [hk]
          have HK : Hid (k = 3) := hk
          clear hk
          go_enter Tryz.func143, Tryz.ntmps143
          go_wp2
          go_quiet ((go_at_call 192; exact Calls.quiet_of_same (part_s _ _ hn1 hn2)))
          go_wp2
          go_ret
          refine ⟨ret_bool ?_, below_drewN ((Below.refl _ _).alloc (Nat.le_refl _) _) _⟩
          rw [isEmpty_size]; unfold pageOk; have hk := HK.out; apply decide_eq_decide.2; constructor <;> intro h <;> omega
        · have hk' : (k != 3) = true := by simp [hk]
          go_enter Tryz.func143, Tryz.ntmps143
          go_wp2
          go_quiet ((go_at_call 192; exact Calls.quiet_of_same (part_s _ _ hn1 hn2)))
          go_wp2
          go_ret
          refine ⟨ret_bool ?_, below_drewN ((Below.refl _ _).alloc (Nat.le_refl _) _) _⟩
          unfold pageOk; symm; apply decide_eq_true; omega
      · have hz' : decide ((p.size : Int) ≤ 64 - n - 8) = false := by simpa using hz
        go_enter Tryz.func143, Tryz.ntmps143
        go_wp2
        go_quiet ((go_at_call 192; exact Calls.quiet_of_same (part_s _ _ hn1 hn2)))
        go_wp2
        go_ret
        refine ⟨ret_bool ?_, below_drewN ((Below.refl _ _).alloc (Nat.le_refl _) _) _⟩
        unfold pageOk; symm; apply decide_eq_false; intro h; omega
    · have hf : pageOk k l m p n = false := by unfold pageOk; apply decide_eq_false; intro h; omega
      have HF : Hid (pageOk k l m p n = false) := hf
      clear hf
      go_enter Tryz.func143, Tryz.ntmps143
      go_wp2
      all_goals (go_ret; exact ⟨ret_bool HF.out.symm, (Below.refl _ _).alloc (Nat.le_refl _) _⟩)
  · have hd : decide (1 ≤ n ∧ n ≤ 8) = false := by simpa using hn
    go_enter Tryz.func143, Tryz.ntmps143
    go_wp2_with (go_at_call 49; refine (width_s _ _).mono ?_; rw [hd]; rintro e w' ⟨rfl, rfl⟩)
    go_ret
    refine ⟨ret_bool ?_, (Below.refl _ _).alloc (Nat.le_refl _) _⟩
    unfold pageOk; symm; apply decide_eq_false; intro h; omega
end Go.Proofs.YtnmaknnnmjfhkagGreatDoor

namespace Go.Proofs.YtnmaknnnmjfhkagGreatDoor
open Go.RowKit
set_option maxRecDepth 4000
theorem hide {p : Prop} (h : p) : Hid p := h

/-- The text in a slot. -/
def strOf : Value → ByteArray
  | .string s => s
  | _ => ByteArray.empty
theorem head_str (k l m : Int) (p : ByteArray) : strOfNums (be 1 k) ++ strOfNums (be 2 l) ++ strOfNums (be 4 m) ++ strOfNums (be 1 (p.size : Int)) ++ p = strOfNums (pageHead k l m p ++ List.replicate 0 0) := by
  rw [List.replicate_zero, List.append_nil]
  unfold pageHead
  rw [strOfNums_append, strOfNums_append, strOfNums_append, strOfNums_append, strOfNums_nums]
theorem zero_str (xs : List Int) (j : Nat) : strOfNums (xs ++ List.replicate j 0) ++ ⟨#[0]⟩ = strOfNums (xs ++ List.replicate (j + 1) 0) := by
  rw [List.replicate_succ', ← List.append_assoc, strOfNums_append _ [0]]
  rfl
theorem num_s' (v : Int) (c : Nat) (ci : Int) (hci : ci = (c : Int)) (w : World) (h0 : 0 ≤ v) (h1 : v ≤ 9223372036854775807) (hc : c ≤ 8) :
    Calls Tryz.prog 144 #[.int .i64 v, .int .i64 ci] w fun e w' => e = .returned (.string (strOfNums (be c v))) ∧ Below w.heap.size w w' := by
  subst hci; exact num_s v c w h0 h1 hc

theorem keep4 {W : World} {v0 v1 v2 v3 : Value} {w w' : World} (hb : Below w.heap.size w w')
    (h : W.heap.size < w.heap.size ∧ w.cell? ⟨W.heap.size, 0, none⟩ = some v0 ∧ w.cell? ⟨W.heap.size, 1, none⟩ = some v1 ∧ w.cell? ⟨W.heap.size, 2, none⟩ = some v2 ∧ w.cell? ⟨W.heap.size, 3, none⟩ = some v3 ∧ Below W.heap.size W w) :
    W.heap.size < w'.heap.size ∧ w'.cell? ⟨W.heap.size, 0, none⟩ = some v0 ∧ w'.cell? ⟨W.heap.size, 1, none⟩ = some v1 ∧ w'.cell? ⟨W.heap.size, 2, none⟩ = some v2 ∧ w'.cell? ⟨W.heap.size, 3, none⟩ = some v3 ∧ Below W.heap.size W w' :=
  ⟨Nat.lt_of_lt_of_le h.1 hb.size, (hb.cell (p := ⟨_, 0, none⟩) h.1).trans h.2.1, (hb.cell (p := ⟨_, 1, none⟩) h.1).trans h.2.2.1, (hb.cell (p := ⟨_, 2, none⟩) h.1).trans h.2.2.2.1, (hb.cell (p := ⟨_, 3, none⟩) h.1).trans h.2.2.2.2.1,
    h.2.2.2.2.2.trans (hb.mono (Nat.le_of_lt h.1))⟩

set_option maxHeartbeats 16000000 in
theorem form_s (k l m : Int) (p : ByteArray) (n : Nat) (w : World) (hok : pageOk k l m p n = true) :
    Calls Tryz.prog 55 #[pageV k l m p, .int .i64 (n : Int)] w fun e w' => e = .returned (.string (pageForm k l m p n)) ∧ Below w.heap.size w w' := by
  have hok' := of_decide_eq_true (by unfold pageOk at hok; exact hok)
  obtain ⟨hn1, hn2, hk1, hk2, hl1, hl2, hm1, hm2, hp, _⟩ := hok'
  have z1 : (strOfNums (be 1 k)).size = 1 := by rw [strOfNums_size, be_length]
  have z2 : (strOfNums (be 2 l)).size = 2 := by rw [strOfNums_size, be_length]
  have z3 : (strOfNums (be 4 m)).size = 4 := by rw [strOfNums_size, be_length]
  have z4 : (strOfNums (be 1 (p.size : Int))).size = 1 := by rw [strOfNums_size, be_length]
  have z5 : ¬ (9223372036854775807 < 8 + p.size) := by omega
  go_enter Tryz.func55, Tryz.ntmps55
  go_wp2_with (go_at_call 143; refine (ok_s k l m p n _ (by omega)).mono ?_; rw [hok]; rintro e w1 ⟨rfl, hb1⟩)
  have hS : w.heap.size < w1.heap.size ∧ w1.cell? ⟨w.heap.size, 0, none⟩ = some (.int .i64 k) ∧ w1.cell? ⟨w.heap.size, 1, none⟩ = some (.int .i64 l) ∧ w1.cell? ⟨w.heap.size, 2, none⟩ = some (.int .i64 m) ∧ w1.cell? ⟨w.heap.size, 3, none⟩ = some (.string p) ∧ Below w.heap.size w w1 :=
    keep4 (v0 := .int .i64 k) (v1 := .int .i64 l) (v2 := .int .i64 m) (v3 := .string p) hb1 ⟨by simp, by simp, by simp, by simp, by simp, (Below.refl _ _).alloc (Nat.le_refl _) _⟩
  have HS := hide hS
  clear hS hb1
  go_region_held3 (fun w' => w.heap.size < w'.heap.size ∧ w'.cell? ⟨w.heap.size, 0, none⟩ = some (.int .i64 k) ∧ w'.cell? ⟨w.heap.size, 1, none⟩ = some (.int .i64 l) ∧ w'.cell? ⟨w.heap.size, 2, none⟩ = some (.int .i64 m) ∧ w'.cell? ⟨w.heap.size, 3, none⟩ = some (.string p) ∧ Below w.heap.size w w')
    (first | assumption | exact keep4 (below_drewN (Below.refl _ _) 1) HS.out | exact keep4 (by assumption) (by assumption))
    (first | (go_at_call_of 144 k; refine (num_s' k 1 _ rfl _ (by omega) (by omega) (by omega)).mono ?_; rintro e w2 ⟨rfl, hb2⟩) | (go_at_call_of 144 l; refine (num_s' l 2 _ rfl _ (by omega) (by omega) (by omega)).mono ?_; rintro e w3 ⟨rfl, hb3⟩) | (go_at_call_of 144 m; refine (num_s' m 4 _ rfl _ (by omega) (by omega) (by omega)).mono ?_; rintro e w4 ⟨rfl, hb4⟩) | (go_at_call_of 144 (p.size : Int); refine (num_s' (p.size : Int) 1 _ rfl _ (by omega) (by omega) (by omega)).mono ?_; rintro e w5 ⟨rfl, hb5⟩))
  clear HS
  rename_i hSl
  have hbl := hSl.2.2.2.2.2
  clear hSl
  go_wp2
  go_loop [5] (fun b => ∃ j : Nat, j ≤ 56 - n - p.size ∧ b = .string (strOfNums (pageHead k l m p ++ List.replicate j 0))) (fun b => 64 - (strOf b).size)
  case atStart => exact ⟨0, Nat.zero_le _, by rw [head_str]⟩
  case round =>
    obtain ⟨j, hj, rfl⟩ := hrel
    have hsz : (strOfNums (pageHead k l m p ++ List.replicate j 0)).size = 8 + p.size + j := by rw [strOfNums_size, List.length_append, pageHead_length, List.length_replicate]
    by_cases hlt : j < 56 - n - p.size
    · go_wp2
      go_round
      case rel => exact ⟨j + 1, by omega, by rw [zero_str]⟩
      case measure =>
        rw [zero_str]
        simp only [strOf, strOfNums_size, List.length_append, pageHead_length, List.length_replicate]
        omega
    · have hje : j = 56 - n - p.size := by omega
      subst hje
      have hz6 : (sumN (strOfNums (pageHead k l m p ++ List.replicate (56 - n - p.size) 0)) n).size = n := sumN_size _ _
      have hz7 : ¬ (9223372036854775807 < n + (8 + p.size + (56 - n - p.size))) := by omega
      go_wp2_with (go_at_call 145; refine (sum_s _ _ n (by rw [hsz]; omega) (by omega) (by omega)).mono ?_; rintro e w6 ⟨rfl, hb6⟩)
      go_ret
      exact ⟨rfl, hbl.trans (hb6.mono hbl.size)⟩

theorem form_s_no (k l m : Int) (p : ByteArray) (n : Int) (w : World) (hp : p.size ≤ 1048576) (hok : pageOk k l m p n = false) :
    Calls Tryz.prog 55 #[pageV k l m p, .int .i64 n] w fun e w' => e = .returned (.string ByteArray.empty) ∧ Below w.heap.size w w' := by
  go_enter Tryz.func55, Tryz.ntmps55
  go_wp2_with (go_at_call 143; refine (ok_s k l m p n _ hp).mono ?_; rw [hok]; rintro e w1 ⟨rfl, hb1⟩)
  go_ret
  exact ⟨rfl, ((Below.refl _ _).alloc (Nat.le_refl _) _).trans (hb1.mono (by simp))⟩
end Go.Proofs.YtnmaknnnmjfhkagGreatDoor

namespace Go.Proofs.YtnmaknnnmjfhkagGreatDoor
open Go.RowKit
set_option linter.unusedVariables false

theorem grown_trans {a b c : World} {r : Option Nat} (h : a.grownBy b r) (k : b.grownBy c r) : a.grownBy c r :=
  ⟨k.os.trans h.os, k.tape.trans h.tape, k.output.trans h.output, Nat.le_trans h.size k.size, fun i hi hr => (k.block i (Nat.lt_of_lt_of_le hi h.size) hr).trans (h.block i hi hr)⟩
theorem grown_of_below {a b : World} (r : Option Nat) (h : Below a.heap.size a b) : a.grownBy b r := ⟨h.os, h.tape, h.output, h.size, fun i hi _ => h.block i hi⟩
theorem grown_refl (a : World) (r : Option Nat) : a.grownBy a r := ⟨rfl, rfl, rfl, Nat.le_refl _, fun _ _ _ => rfl⟩
theorem grown_set {a b : World} {g : Nat} (h : a.grownBy b (some g)) (i : Nat) (v : Value) : a.grownBy (b.setCell ⟨g, i, none⟩ v) (some g) :=
  grown_trans h ⟨rfl, rfl, rfl, by simp [World.setCell], fun j _ hj => Below.heap_setCell _ _ _ _ (fun e => hj (by rw [e]))⟩
theorem grown_below {a b : World} {r : Option Nat} {B : Nat} (h : a.grownBy b r) (hB : B ≤ a.heap.size) (hr : ∀ g, r = some g → B ≤ g) : Below B a b :=
  ⟨h.os, h.tape, h.output, h.size, fun k hk => h.block k (by omega) (fun e => by have := hr k e.symm; omega)⟩
theorem Row.grown {w w' : World} {g : Nat} {cs : List Value} {r : Option Nat} (h : Row w g cs) (hg : w.grownBy w' r) (hn : some g ≠ r) : Row w' g cs :=
  ⟨Nat.lt_of_lt_of_le h.lt hg.size, fun i v hv => (World.cell?_of_block (a := ⟨g, i, none⟩) (hg.block g h.lt hn)).trans (h.cell i v hv), fun i hi => (World.frozen?_of_block (a := ⟨g, i, none⟩) (hg.block g h.lt hn)).trans (h.froz i hi)⟩
/-- A slice whose cells the call owns: nothing, or a row from its beginning. -/
def OwnS (w : World) (a : Option Addr) (cs : List Value) : Prop := cs = [] ∨ ∃ g, a = some ⟨g, 0, none⟩ ∧ Row w g cs
/-- The block that a slice of so many elements lies in. -/
def blk (a : Option Addr) (n : Nat) : Option Nat := if n = 0 then none else a.map (·.block)
theorem blk_zero (a : Option Addr) : blk a 0 = none := rfl
theorem blk_pos (b o : Nat) (n : Nat) (h : n ≠ 0) : blk (some ⟨b, o, none⟩) n = some b := by simp [blk, h]

/-- A disk whose two lists the call owns. -/
structure OwnD (w : World) (a : Option Addr) (ss : List ByteArray) (a' : Option Addr) (ws : List (Int × ByteArray)) : Prop where
  s : OwnS w a (ss.map Value.string)
  p : OwnS w a' (wcells ws)
  ne : blk a ss.length = none ∨ blk a' ws.length = none ∨ blk a ss.length ≠ blk a' ws.length
theorem OwnS.below {w w' : World} {a : Option Addr} {cs : List Value} (h : OwnS w a cs) (hb : Below w.heap.size w w') : OwnS w' a cs := by
  rcases h with h | ⟨g, h1, h2⟩
  · exact .inl h
  · exact .inr ⟨g, h1, h2.below hb⟩
theorem OwnS.grown {w w' : World} {a : Option Addr} {cs : List Value} {r : Option Nat} (h : OwnS w a cs) (hg : w.grownBy w' r) (hn : ∀ g, a = some ⟨g, 0, none⟩ → cs ≠ [] → some g ≠ r) : OwnS w' a cs := by
  by_cases hc : cs = []
  · exact .inl hc
  · obtain ⟨g, h1, h2⟩ := h.resolve_left hc
    exact .inr ⟨g, h1, h2.grown hg (hn g h1 hc)⟩
theorem OwnS.lt {w : World} {a : Option Addr} {cs : List Value} (h : OwnS w a cs) (n : Nat) (hn : n ≠ 0 → cs ≠ []) : ∀ g, blk a n = some g → g < w.heap.size := fun g hg => by
  by_cases h0 : n = 0
  · subst h0; cases hg
  · obtain ⟨g', rfl, h2⟩ := h.resolve_left (hn h0)
    rw [blk_pos g' 0 n h0] at hg
    cases hg
    exact h2.lt
theorem OwnD.below {w w' : World} {a a' : Option Addr} {ss : List ByteArray} {ws : List (Int × ByteArray)} (h : OwnD w a ss a' ws) (hb : Below w.heap.size w w') : OwnD w' a ss a' ws := ⟨h.s.below hb, h.p.below hb, h.ne⟩
theorem OwnS.strs {w : World} {a : Option Addr} {ss : List ByteArray} (h : OwnS w a (ss.map Value.string)) : Strs w a ss := by
  rcases h with h | ⟨g, rfl, h2⟩
  · exact .inl (by simpa using h)
  · exact h2.strs
theorem OwnS.wrs {w : World} {a : Option Addr} {ws : List (Int × ByteArray)} (h : OwnS w a (wcells ws)) : Wrs w a ws := by
  rcases h with h | ⟨g, rfl, h2⟩
  · exact .inl (by have := congrArg List.length h; rw [wcells_length, List.length_nil] at this; exact List.eq_nil_of_length_eq_zero (by omega))
  · exact h2.wrs

theorem strs_ne {ss : List ByteArray} (h : ss.length ≠ 0) : ss.map Value.string ≠ [] := fun e => h (by have := congrArg List.length e; simpa using this)
theorem wcells_ne {ws : List (Int × ByteArray)} (h : ws.length ≠ 0) : wcells ws ≠ [] := fun e => h (by have := congrArg List.length e; rw [wcells_length, List.length_nil] at this; omega)
theorem ne_of_strs {ss : List ByteArray} (h : ss.map Value.string ≠ []) : ss.length ≠ 0 := fun e => h (by rw [List.eq_nil_of_length_eq_zero e]; rfl)
theorem ne_of_wcells {ws : List (Int × ByteArray)} (h : wcells ws ≠ []) : ws.length ≠ 0 := fun e => h (by rw [List.eq_nil_of_length_eq_zero e]; rfl)

end Go.Proofs.YtnmaknnnmjfhkagGreatDoor

namespace Go.Proofs.YtnmaknnnmjfhkagGreatDoor
open Go.RowKit
set_option maxRecDepth 4000
set_option linter.unusedVariables false

/-- The decimal digits of a number, as bytes. -/
def digs (k : Nat) : List Int := if h : k = 0 then [] else digs (k / 10) ++ [48 + ((k % 10 : Nat) : Int)]
termination_by k
decreasing_by omega
theorem digs_zero : digs 0 = [] := by unfold digs; simp
theorem digs_pos (k : Nat) (h : k ≠ 0) : digs k = digs (k / 10) ++ [48 + ((k % 10 : Nat) : Int)] := by
  conv => lhs; unfold digs
  simp [h]
theorem digs_length : ∀ (n k : Nat), k ≤ n → (digs k).length ≤ k
  | 0, k, h => by rw [show k = 0 by omega, digs_zero]; simp
  | n + 1, k, h => by
    by_cases hk : k = 0
    · rw [hk, digs_zero]; simp
    · rw [digs_pos k hk, List.length_append]
      have := digs_length n (k / 10) (by omega)
      simp; omega
/-- The text that marks a place. -/
def mtext (k : Nat) : ByteArray := ⟨#[109]⟩ ++ strOfNums (digs k)

set_option maxHeartbeats 16000000 in
theorem mark_text (k : Nat) (w : World) (h0 : 0 < k) (h1 : k ≤ 100000000) :
    Calls Tryz.prog 170 #[.int .i64 (k : Int)] w fun e w' => e = .returned (.string (mtext k)) ∧ Below w.heap.size w w' := by
  have hb1 := bytes1
  have h0' : (0 : Int) < (k : Int) := by omega
  have HD0 := hid (digs_length k k (Nat.le_refl _))
  go_enter Tryz.func170, Tryz.ntmps170
  go_wp2
  go_loopw [0, 3] (fun x o wr => ∃ (j : Nat) (r : List Int), j ≤ 100000000 ∧ r.length ≤ 100000000 ∧ x = .int .i64 (j : Int) ∧ o = .string (strOfNums r) ∧ Hid (digs k = digs j ++ r) ∧ Below w.heap.size w wr) (fun x _ _ => (intOf x).toNat)
  case atStart => exact ⟨k, [], h1, by simp, rfl, rfl, hid (by simp), Below.refl _ _⟩
  case round =>
    obtain ⟨j, r, hj, hr, rfl, rfl, HJ, hbel⟩ := hrel
    by_cases hp : 0 < j
    · have hp' : (0 : Int) < (j : Int) := by omega
      have hz1 : (strOfNums [48 + (j : Int) % 10]).size ≤ 1 := by rw [strOfNums_size]; simp
      have hz2 : (strOfNums r).size ≤ 100000000 := by rw [strOfNums_size]; exact hr
      have HN : Hid (digs k = digs (j / 10) ++ ((48 + (j : Int) % 10) :: r)) := by
        show _ = _
        rw [HJ.out, digs_pos j (by omega)]
        simp
      have HLN : Hid (((48 + (j : Int) % 10) :: r).length ≤ 100000000) := by
        have h1 := congrArg List.length HN.out
        have h2 := HD0.out
        rw [List.length_append] at h1
        show _ ≤ _
        omega
      go_wp2
      go_roundw
      case rel => exact ⟨j / 10, _, by omega, HLN.out, by go_num, by rw [← strOfNums_append]; rfl, HN, hbel.alloc hbel.size _⟩
      case measure => simp [intOf]; omega
    · have hz2 : (strOfNums r).size ≤ 100000000 := by rw [strOfNums_size]; exact hr
      have hj0 : Hid (j = 0) := by show _ = _; omega
      have hnp : ¬ ((0 : Int) < (j : Int)) := by omega
      go_wp2
      go_ret
      refine ⟨ret_str ?_, hbel⟩
      unfold mtext
      rw [HJ.out, hj0.out, digs_zero]
      rfl
theorem mark_text' (ki : Int) (k : Nat) (hki : ki = (k : Int)) (w : World) (h0 : 0 < k) (h1 : k ≤ 100000000) :
    Calls Tryz.prog 170 #[.int .i64 ki] w fun e w' => e = .returned (.string (mtext k)) ∧ Below w.heap.size w w' := by
  subst hki; exact mark_text k w h0 h1
end Go.Proofs.YtnmaknnnmjfhkagGreatDoor

namespace Go.Proofs.YtnmaknnnmjfhkagGreatDoor
open Go.RowKit
set_option maxRecDepth 4000
set_option linter.unusedVariables false

theorem info_pr : (Tryz.prog.info? 144).map (fun i => (i.zero, i.size, i.bytes)) = some (some (.agg #[.string ByteArray.empty, .string ByteArray.empty]), 2, 32) := by kernel_rfl
set_option maxHeartbeats 16000000 in
theorem sz_pr (s0 : ByteArray) (s1 : ByteArray) (left : Int) (w : World) (h0 : 0 ≤ left) (h1 : left ≤ 1048576) (hs0 : s0.size ≤ 9223372036854775807) (hs1 : s1.size ≤ 9223372036854775807) :
    Calls Tryz.prog 283 #[.agg #[.string s0, .string s1], .int .i64 left] w fun e w' => e = .returned (.int .i64 (szL [s0.size, s1.size] left)) ∧ Below w.heap.size w w' := by
  by_cases c0 : left - (s0.size : Int) < 0
  · have HE : szL [s0.size, s1.size] left = -1 := by simp [szL, c0]
    go_enter Tryz.func283, Tryz.ntmps283
    go_wp2
    go_ret
    exact ⟨ret_int (by first | rfl | exact HE.symm), (Below.refl _ _).alloc (Nat.le_refl _) _⟩
  · by_cases c1 : left - (s0.size : Int) - (s1.size : Int) < 0
    · have HE : szL [s0.size, s1.size] left = -1 := by simp [szL, c0, c1]
      go_enter Tryz.func283, Tryz.ntmps283
      go_wp2
      go_ret
      exact ⟨ret_int (by first | rfl | exact HE.symm), (Below.refl _ _).alloc (Nat.le_refl _) _⟩
    · have HE : szL [s0.size, s1.size] left = left - (s0.size : Int) - (s1.size : Int) := by simp [szL, c0, c1]
      go_enter Tryz.func283, Tryz.ntmps283
      go_wp2
      go_ret
      exact ⟨ret_int (by first | rfl | exact HE.symm), (Below.refl _ _).alloc (Nat.le_refl _) _⟩

set_option maxHeartbeats 16000000 in
theorem sz_prs (a : Option Addr) (rs : List (ByteArray × ByteArray)) (c : Nat) (left : Int) (w : World) (h : Prs w a rs) (h0 : 0 ≤ left) (h1 : left ≤ 1048576) (hl : rs.length ≤ maxLen) (hs : ∀ s ∈ rs, s.1.size ≤ maxLen ∧ s.2.size ≤ maxLen) :
    Calls Tryz.prog 257 #[.slice a rs.length c, .int .i64 left] w fun e w' => e = .returned (.int .i64 (szL (rs.length :: rs.flatMap prsz) left)) ∧ Below w.heap.size w w' := by
  unfold maxLen at hl
  by_cases hn : left - (rs.length : Int) < 0
  · have HR := hid (szL_cons_lt (rs.flatMap prsz) hn)
    go_enter Tryz.func257, Tryz.ntmps257
    go_wp2
    go_ret
    exact ⟨ret_int HR.out.symm, Below.refl _ _⟩
  · have HR := hid (szL_cons_ge (rs.flatMap prsz) hn)
    obtain ⟨R, HE⟩ : ∃ R, Hid (R = szL (rs.length :: rs.flatMap prsz) left) := ⟨_, hid rfl⟩
    rw [← HE.out]
    go_enter Tryz.func257, Tryz.ntmps257
    go_wp2
    go_loopw [1, 5] (fun x i wr => ∃ (k : Nat) (y : Int), k ≤ rs.length ∧ i = .int .i64 k ∧ x = .int .i64 y ∧ 0 ≤ y ∧ y ≤ 1048576 ∧ Hid (szL ((rs.drop k).flatMap prsz) y = R) ∧ Below w.heap.size w wr) (fun _ i _ => rs.length - (intOf i).toNat)
    case atStart => exact ⟨0, _, Nat.zero_le _, rfl, rfl, by omega, by omega, by show _ = _; rw [HE.out, HR.out, List.drop_zero], Below.refl _ _⟩
    case round =>
      obtain ⟨k, y, hk, rfl, rfl, hy0, hy1, HZ, hbel⟩ := hrel
      by_cases hlt : k < rs.length
      · obtain ⟨b, o, s0, s1, rfl, hc0, hc1, HS⟩ := (h.below hbel).at hlt
        obtain ⟨q0, q1⟩ : s0.size ≤ 9223372036854775807 ∧ s1.size ≤ 9223372036854775807 := by
          have := hs (s0, s1) (by rw [HS.out]; simp [List.getD, hlt])
          unfold maxLen at this; exact this
        obtain ⟨y', HY⟩ : ∃ y', Hid (y' = szL [s0.size, s1.size] y) := ⟨_, hid rfl⟩
        have hbd := szL_bd [s0.size, s1.size] y hy0
        rw [← HY.out] at hbd
        have HD : Hid (szL ((rs.drop k).flatMap prsz) y = szL ([s0.size, s1.size] ++ (rs.drop (k + 1)).flatMap prsz) y) := by
          show _ = _
          rw [drop_at rs k (ByteArray.empty, ByteArray.empty) hlt, ← HS.out]
          rfl
        by_cases hy : y' < 0
        · have hy2 : y' = -1 := by omega
          have HN := hid (szL_append_no [s0.size, s1.size] ((rs.drop (k + 1)).flatMap prsz) y hy0 (by rw [← HY.out]; exact hy))
          clear hbd
          subst hy2
          go_wp2_with (go_at_call 283; refine (sz_pr s0 s1 y _ hy0 hy1 q0 q1).mono ?_; rw [← HY.out]; rintro e w2 ⟨rfl, hb2⟩)
          go_ret
          refine ⟨ret_int ?_, hbel.trans (hb2.mono hbel.size)⟩
          rw [← HZ.out, HD.out, HN.out]
        · have hy2 : 0 ≤ y' := by omega
          have hy3 : y' ≤ 1048576 := by omega
          have HN := hid (szL_append_yes [s0.size, s1.size] ((rs.drop (k + 1)).flatMap prsz) y hy0 (by rw [← HY.out]; exact hy2))
          clear hbd
          go_wp2_with (go_at_call 283; refine (sz_pr s0 s1 y _ hy0 hy1 q0 q1).mono ?_; rw [← HY.out]; rintro e w2 ⟨rfl, hb2⟩)
          go_roundw
          case rel => exact ⟨k + 1, _, by omega, by go_num, rfl, by omega, by omega, by show _ = _; rw [← HZ.out, HD.out, HN.out, ← HY.out], hbel.trans (hb2.mono hbel.size)⟩
          case measure => simp [intOf]; omega
      · go_wp2
        go_ret
        refine ⟨ret_int ?_, hbel⟩
        rw [← HZ.out, List.drop_of_length_le (by omega)]
        rfl

set_option maxHeartbeats 16000000 in
theorem to_pr (s0 : ByteArray) (s1 : ByteArray) (w : World) :
    Calls Tryz.prog 284 #[.agg #[.string s0, .string s1]] w fun e w' => e = .returned (.agg #[.string s0, .string s1]) ∧ Below w.heap.size w w' := by
  go_enter Tryz.func284, Tryz.ntmps284
  go_wp2
  exact bodyPost_ret (v := .agg #[.string s0, .string s1]) (by simp [results, Tryz.results284, go_sem]) rfl ⟨rfl, (((Below.refl _ _).alloc (Nat.le_refl _) _).alloc (by simp) _).alloc (by simp; omega) _⟩

set_option maxHeartbeats 16000000 in
theorem to_prs (a : Option Addr) (rs : List (ByteArray × ByteArray)) (c : Nat) (w : World) (h : Prs w a rs) (hl : rs.length ≤ 1048576) :
    Calls Tryz.prog 258 #[.slice a rs.length c] w fun e w' => ∃ g, e = .returned (.slice (some ⟨g, 0, none⟩) rs.length rs.length) ∧ w.heap.size ≤ g ∧ Row w' g (prcells rs) ∧ Below w.heap.size w w' := by
  go_enter Tryz.func258, Tryz.ntmps258
  go_wp2_with (at_make; refine wpList_make_new rfl _ _ 29 rfl 144 _ 2 _ Tryz.underlying29 info_pr rs.length rfl rfl (by omega) (by omega) ?_; intro wx hrow hbx hsx; rw [made_prs] at hrow)
  have hr0 : Row wx w.heap.size (prupTo rs 0) := by simpa [prupTo, prcells_nil] using hrow
  clear hrow
  go_loopw [4] (fun i wr => ∃ k : Nat, k ≤ rs.length ∧ i = .int .i64 k ∧ Row wr w.heap.size (prupTo rs k) ∧ Below w.heap.size w wr) (fun i _ => rs.length - (intOf i).toNat)
  case atStart => exact ⟨0, Nat.zero_le _, rfl, hr0, hbx⟩
  case round =>
    obtain ⟨k, hk, rfl, hrow, hbel⟩ := hrel
    by_cases hlt : k < rs.length
    · obtain ⟨b, o, s0, s1, rfl, hc0, hc1, HS⟩ := (h.below hbel).at hlt
      have HB := hid hbel
      have HR := hid hrow
      clear hrow hbel
      go_wp2_with (go_at_call 284; refine (to_pr s0 s1 _).mono ?_; rintro e w2 ⟨rfl, hb2⟩; have hr2 := HR.out.below hb2; have hl2 := prupTo_length rs k hk; obtain ⟨u0, hu0⟩ : ∃ u, w2.cell? ⟨w.heap.size, k * 2, none⟩ = some u := ⟨_, hr2.cell (k * 2) _ (List.getElem?_eq_getElem (by omega))⟩; obtain ⟨u1, hu1⟩ : ∃ u, w2.cell? ⟨w.heap.size, k * 2 + 1, none⟩ = some u := ⟨_, hr2.cell (k * 2 + 1) _ (List.getElem?_eq_getElem (by omega))⟩; have hf0 := hr2.froz (k * 2) (by omega); have hf1 := hr2.froz (k * 2 + 1) (by omega); have HR2 := hid hr2; have HL2 := hid hl2; clear hr2 hl2)
      have hrs := (HR2.out.set (k * 2) (by rw [HL2.out]; omega) (.string s0)).set (k * 2 + 1) (by rw [List.length_set, HL2.out]; omega) (.string s1)
      have hus : ((prupTo rs k).set (k * 2) (.string s0)).set (k * 2 + 1) (.string s1) = prupTo rs (k + 1) := by
        have e := HS.out
        rw [show s0 = (rs.getD k (ByteArray.empty, ByteArray.empty)).1 by rw [← e], show s1 = (rs.getD k (ByteArray.empty, ByteArray.empty)).2 by rw [← e]]
        exact prupTo_set rs k hlt
      rw [hus] at hrs
      go_roundw
      case rel => exact ⟨k + 1, by omega, by go_num, hrs, ((HB.out.trans (hb2.mono HB.out.size)).setCell (Nat.le_refl _) _).setCell (Nat.le_refl _) _⟩
      case measure => simp [intOf]; omega
    · go_wp2
      go_ret
      exact ⟨w.heap.size, rfl, Nat.le_refl _, by rw [← prupTo_all rs k (by omega)]; exact hrow, hbel⟩

end Go.Proofs.YtnmaknnnmjfhkagGreatDoor

namespace Go.Proofs.YtnmaknnnmjfhkagGreatDoor
open Go.RowKit
set_option maxRecDepth 4000
set_option linter.unusedVariables false

set_option maxHeartbeats 16000000 in
theorem eq_pr (s0 : ByteArray) (s1 : ByteArray) (w : World) :
    Calls Tryz.prog 264 #[.agg #[.string s0, .string s1], .agg #[.string s0, .string s1]] w fun e w' => e = .returned (.bool true) ∧ Below w.heap.size w w' := by
  go_enter Tryz.func264, Tryz.ntmps264
  go_wp2
  go_ret
  exact ⟨rfl, ((Below.refl _ _).alloc (Nat.le_refl _) _).alloc (by simp) _⟩

set_option maxHeartbeats 16000000 in
theorem eq_prs (a b : Option Addr) (rs : List (ByteArray × ByteArray)) (c c' : Nat) (w : World) (h : Prs w a rs) (h' : Prs w b rs) (hl : rs.length ≤ 1048576) :
    Calls Tryz.prog 229 #[.slice a rs.length c, .slice b rs.length c'] w fun e w' => e = .returned (.bool true) ∧ Below w.heap.size w w' := by
  go_enter Tryz.func229, Tryz.ntmps229
  go_wp2
  go_loopw [5] (fun i wr => ∃ k : Nat, k ≤ rs.length ∧ i = .int .i64 k ∧ Below w.heap.size w wr) (fun i _ => rs.length - (intOf i).toNat)
  case atStart => exact ⟨0, Nat.zero_le _, rfl, Below.refl _ _⟩
  case round =>
    obtain ⟨k, hk, rfl, hbel⟩ := hrel
    by_cases hlt : k < rs.length
    · obtain ⟨b1, o1, s0, s1, rfl, hc0, hc1, HS⟩ := (h.below hbel).at hlt
      obtain ⟨b2, o2, s0x, s1x, rfl, hd0, hd1, HS'⟩ := (h'.below hbel).at hlt
      obtain ⟨rfl, rfl⟩ : s0 = s0x ∧ s1 = s1x := by have := HS.out.trans HS'.out.symm; simpa using this
      have hk1 : (k : Int) < (rs.length : Int) := by omega
      have hk0 : (0 : Int) ≤ (k : Int) := by omega
      have lt1 : b1 < wr.heap.size := by have := World.block_lt_of_cell? wr _ hc0; simpa using this
      have lt2 : b2 < wr.heap.size := by have := World.block_lt_of_cell? wr _ hd0; simpa using this
      have HQ : Hid (wr.cell? ⟨b1, o1 + k * 2, none⟩ = some (.string s0) ∧ wr.cell? ⟨b1, o1 + k * 2 + 1, none⟩ = some (.string s1) ∧ wr.cell? ⟨b2, o2 + k * 2, none⟩ = some (.string s0) ∧ wr.cell? ⟨b2, o2 + k * 2 + 1, none⟩ = some (.string s1)) := ⟨hc0, hc1, hd0, hd1⟩
      clear HS HS' hc0 hc1 hd0 hd1
      go_wp2_with fail
      go_region_held3 (fun w' => w'.cell? ⟨b1, o1 + k * 2, none⟩ = some (.string s0) ∧ w'.cell? ⟨b1, o1 + k * 2 + 1, none⟩ = some (.string s1) ∧ w'.cell? ⟨b2, o2 + k * 2, none⟩ = some (.string s0) ∧ w'.cell? ⟨b2, o2 + k * 2 + 1, none⟩ = some (.string s1))
        (first | assumption | exact HQ.out | exact ⟨(hb2.cell (p := ⟨b1, _, none⟩) lt1).trans HQ.out.1, (hb2.cell (p := ⟨b1, _, none⟩) lt1).trans HQ.out.2.1, (hb2.cell (p := ⟨b2, _, none⟩) lt2).trans HQ.out.2.2.1, (hb2.cell (p := ⟨b2, _, none⟩) lt2).trans HQ.out.2.2.2⟩)
        (first | (go_at_call 264; refine (eq_pr s0 s1 _).mono ?_; rintro e w2 ⟨rfl, hb2⟩))
      go_wp2
      go_roundw
      case rel => exact ⟨k + 1, by omega, by go_num, hbel.drew.trans (hb2.mono hbel.size)⟩
      case measure => simp [intOf]; omega
    · go_wp2
      go_ret
      exact ⟨rfl, hbel⟩
end Go.Proofs.YtnmaknnnmjfhkagGreatDoor

namespace Go.Proofs.YtnmaknnnmjfhkagGreatDoor
open Go.RowKit
set_option maxRecDepth 4000
set_option linter.unusedVariables false

@[reducible] def stV (a : Option Addr) (n c : Nat) : Value := .agg #[.slice a n c]
theorem bcell1 {W w1 : World} (hb : Below W.heap.size W w1) : (∀ b o, b < W.heap.size → w1.cell? ⟨b, o, none⟩ = W.cell? ⟨b, o, none⟩) ∧ (∀ b o, b < W.heap.size → w1.frozen? ⟨b, o, none⟩ = W.frozen? ⟨b, o, none⟩) :=
  ⟨fun b o h => hb.cell (p := ⟨b, o, none⟩) h, fun b o h => hb.frozen (p := ⟨b, o, none⟩) h⟩
set_option maxHeartbeats 16000000 in
theorem sz_state (a : Option Addr) (rs : List (ByteArray × ByteArray)) (c : Nat) (w : World) (h : Prs w a rs) (left : Int) (h0 : 0 ≤ left) (h1 : left ≤ 1048576) (hl : rs.length ≤ maxLen) (hs : ∀ s ∈ rs, s.1.size ≤ maxLen ∧ s.2.size ≤ maxLen) :
    Calls Tryz.prog 209 #[stV a rs.length c, .int .i64 left] w fun e w' => e = .returned (.int .i64 (szL (rs.length :: rs.flatMap prsz) left)) ∧ Below w.heap.size w w' := by
  have hb0 : ∀ o, Below w.heap.size w (w.alloc o) := fun o => (Below.refl _ _).alloc (Nat.le_refl _) _
  have hbd := szL_bd (rs.length :: rs.flatMap prsz) left (by omega)
  obtain ⟨x, HX⟩ : ∃ x, Hid (x = szL (rs.length :: rs.flatMap prsz) left) := ⟨_, hid rfl⟩
  rw [← HX.out] at hbd ⊢
  by_cases hx : x < 0
  · have hx1 : x = -1 := by omega
    have HX1 := hid hx1
    clear hbd hx1
    go_enter Tryz.func209, Tryz.ntmps209
    go_wp2_with fail
    refine (sz_prs a rs c left _ (h.below (hb0 _)) (by omega) (by omega) hl hs).mono ?_
    rw [← HX.out]
    rintro e w1 ⟨rfl, hb1⟩
    go_wp2
    go_ret
    exact ⟨ret_int HX1.out.symm, (hb0 _).trans (hb1.mono (by simp))⟩
  · clear hbd
    go_enter Tryz.func209, Tryz.ntmps209
    go_wp2_with fail
    refine (sz_prs a rs c left _ (h.below (hb0 _)) (by omega) (by omega) hl hs).mono ?_
    rw [← HX.out]
    rintro e w1 ⟨rfl, hb1⟩
    go_wp2
    go_ret
    exact ⟨rfl, (hb0 _).trans (hb1.mono (by simp))⟩

set_option maxHeartbeats 16000000 in
theorem to_state (a : Option Addr) (rs : List (ByteArray × ByteArray)) (c : Nat) (w : World) (h : Prs w a rs) (hl : rs.length ≤ 1048576) :
    Calls Tryz.prog 211 #[stV a rs.length c] w fun e w' => ∃ g, e = .returned (stV (some ⟨g, 0, none⟩) rs.length rs.length) ∧ w.heap.size ≤ g ∧ Row w' g (prcells rs) ∧ Below w.heap.size w w' := by
  have hb0 : ∀ o1 o2 o3, Below w.heap.size w (((w.alloc o1).alloc o2).alloc o3) := fun o1 o2 o3 => (((Below.refl _ _).alloc (Nat.le_refl _) _).alloc (by simp) _).alloc (by simp; omega) _
  go_enter Tryz.func211, Tryz.ntmps211
  go_wp2_with fail
  refine (to_prs a rs c _ (h.below (hb0 _ _ _)) hl).mono ?_
  rintro e w1 ⟨g, rfl, hg, hr1, hb1⟩
  have hB1 := (hb0 _ _ _).trans (hb1.mono (by simp; omega))
  have hs1 := hb1.size
  simp only [World.size_alloc] at hg hs1
  have c20 : w1.cell? ⟨w.heap.size + 1 + 1, 0, none⟩ = some (.slice none 0 0) := (hb1.cell (p := ⟨w.heap.size + 1 + 1, 0, none⟩) (by simp)).trans (by go_simp)
  have f20 : w1.frozen? ⟨w.heap.size + 1 + 1, 0, none⟩ = false := (hb1.frozen (p := ⟨w.heap.size + 1 + 1, 0, none⟩) (by simp)).trans (by go_simp)
  have c10 : w1.cell? ⟨w.heap.size + 1, 0, none⟩ = some (.slice none 0 0) := (hb1.cell (p := ⟨w.heap.size + 1, 0, none⟩) (by simp <;> omega)).trans (by go_simp)
  have f10 : w1.frozen? ⟨w.heap.size + 1, 0, none⟩ = false := (hb1.frozen (p := ⟨w.heap.size + 1, 0, none⟩) (by simp <;> omega)).trans (by go_simp)
  have HR1 := hid hr1
  have HBB := hid hB1
  clear hb1 hr1 hB1
  go_wp2
  refine bodyPost_ret (v := stV (some ⟨g, 0, none⟩) rs.length rs.length) (by simp [results, Tryz.results211, go_sem, c10]) rfl ⟨g, rfl, by omega, ?_, ?_⟩
  · exact (HR1.out.other _ (by show w.heap.size + 1 + 1 ≠ g; omega) _).other _ (by show w.heap.size + 1 ≠ g; omega) _
  · exact (HBB.out.setCell (by show w.heap.size ≤ w.heap.size + 1 + 1; omega) _).setCell (by show w.heap.size ≤ w.heap.size + 1; omega) _

set_option maxHeartbeats 16000000 in
theorem eq_state (a b : Option Addr) (rs : List (ByteArray × ByteArray)) (c d : Nat) (w : World) (h1 : Prs w a rs) (h2 : Prs w b rs) (hl : rs.length ≤ 1048576) :
    Calls Tryz.prog 167 #[stV a rs.length c, stV b rs.length d] w fun e w' => e = .returned (.bool true) ∧ Below w.heap.size w w' := by
  have hb0 : ∀ o1 o2, Below w.heap.size w ((w.alloc o1).alloc o2) := fun o1 o2 => ((Below.refl _ _).alloc (Nat.le_refl _) _).alloc (by simp) _
  go_enter Tryz.func167, Tryz.ntmps167
  go_wp2_with fail
  refine (eq_prs a b rs c d _ (h1.below (hb0 _ _)) (h2.below (hb0 _ _)) hl).mono ?_
  rintro e w1 ⟨rfl, hb1⟩
  have hB1 := (hb0 _ _).trans (hb1.mono (by simp; omega))
  clear hb1
  go_wp2
  go_ret
  exact ⟨rfl, hB1⟩
end Go.Proofs.YtnmaknnnmjfhkagGreatDoor

namespace Go.Proofs.YtnmaknnnmjfhkagGreatDoor
open Go.RowKit
set_option maxRecDepth 4000
set_option linter.unusedVariables false
set_option linter.unusedSimpArgs false

theorem getxp {w : World} {g : Nat} {cs : List Value} (h : Row w g cs) (i : Nat) (hi : i < cs.length) : (∃ u, w.cell? ⟨g, i, none⟩ = some u) ∧ w.frozen? ⟨g, i, none⟩ = false := ⟨⟨_, h.cell i _ (List.getElem?_eq_getElem hi)⟩, h.froz i hi⟩
def prm (m : Nat) : ByteArray × ByteArray := (mtext m, mtext (m + 1))
def prmarks (k n : Nat) : List (ByteArray × ByteArray) := (List.range n).map fun i => prm (k + 2 * i)
theorem prmarks_length (k n : Nat) : (prmarks k n).length = n := by simp [prmarks]
theorem prmarks_succ (k n : Nat) : prmarks k (n + 1) = prmarks k n ++ [prm (k + 2 * n)] := by simp [prmarks, List.range_succ]
def prmixed (k i : Nat) (rs : List (ByteArray × ByteArray)) : List Value := prcells (prmarks k i ++ rs.drop i)
theorem prmixed_length (k i : Nat) (rs : List (ByteArray × ByteArray)) (h : i ≤ rs.length) : (prmixed k i rs).length = rs.length * 2 := by simp [prmixed, prcells_length, prmarks_length]; omega
theorem prmixed_set (k i : Nat) (rs : List (ByteArray × ByteArray)) (h : i < rs.length) : ((prmixed k i rs).set (i * 2) (.string (mtext (k + 2 * i)))).set (i * 2 + 1) (.string (mtext (k + 2 * i + 1))) = prmixed k (i + 1) rs := by
  have el : (prcells (prmarks k i)).length = i * 2 := by rw [prcells_length, prmarks_length]
  unfold prmixed
  rw [prmarks_succ, drop_at rs i (ByteArray.empty, ByteArray.empty) h, prcells_append, prcells_append, prcells_append, List.set_append_right _ _ (by omega), List.set_append_right _ _ (by omega), el]
  simp [prcells, prm]

set_option maxHeartbeats 16000000 in
theorem mark_prs (a : Option Addr) (rs : List (ByteArray × ByteArray)) (c k : Nat) (w : World) (h : OwnS w a (prcells rs)) (hk : 0 < k) (hl : k + 2 * rs.length ≤ 100000000) :
    Calls Tryz.prog 230 #[.slice a rs.length c, .int .i64 (k : Int)] w fun e w' => e = .returned (.int .i64 ((k + 2 * rs.length : Nat) : Int)) ∧ w.grownBy w' (blk a rs.length) ∧ OwnS w' a (prcells (prmarks k rs.length)) := by
  by_cases hss : rs = []
  · skip
    subst hss
    go_enter Tryz.func230, Tryz.ntmps230
    go_wp2
    refine wp_loop_rounds 1 ?_
    rw [rounds_succ]
    go_wp2
    go_ret
    exact ⟨rfl, grown_refl _ _, .inl rfl⟩
  · obtain ⟨g, rfl, hrow⟩ := h.resolve_left (fun e => hss (by have := congrArg List.length e; rw [prcells_length, List.length_nil] at this; exact List.eq_nil_of_length_eq_zero (by omega)))
    rw [blk_pos g 0 rs.length (fun e => hss (List.eq_nil_of_length_eq_zero e))]
    have hr0 : Row w g (prmixed k 0 rs) := by simpa [prmixed, prmarks] using hrow
    clear hrow hss
    go_enter Tryz.func230, Tryz.ntmps230
    go_wp2
    go_loopw [1, 5] (fun x i wr => ∃ j m : Nat, j ≤ rs.length ∧ i = .int .i64 (j : Int) ∧ x = .int .i64 (m : Int) ∧ Hid (m = k + 2 * j) ∧ Row wr g (prmixed k j rs) ∧ w.grownBy wr (some g)) (fun _ i _ => rs.length - (intOf i).toNat)
    case atStart => exact ⟨0, k, Nat.zero_le _, rfl, rfl, hid rfl, hr0, grown_refl _ _⟩
    case round =>
      clear hr0
      obtain ⟨j, m, hj, rfl, rfl, HM, hrow, hgr⟩ := hrel
      have HR := hid hrow
      have HG := hid hgr
      clear hgr hrow
      by_cases hlt : j < rs.length
      · have HL := hid (prmixed_length k j rs hj)
        have hmj : (m : Int) ≤ 99999998 := by have := HM.out; omega
        have hmj0 : (0 : Int) < (m : Int) := by have := HM.out; omega
        go_wp2_with (first | (have _g := HR2; go_at_call 170; refine (mark_text' ((m : Int) + 1) (m + 1) (by omega) _ (by omega) (by omega)).mono ?_; rintro e w3 ⟨rfl, hb3⟩; have HR3 := hid ((HR2.out.set (j * 2) (by rw [HL.out]; omega) (.string (mtext m))).below hb3); have hu3 := getxp HR3.out (j * 2 + 1) (by rw [List.length_set, HL.out]; omega); obtain ⟨⟨u3, hu3⟩, hf3⟩ := hu3; have HG3 := hid (grown_trans (grown_set HG2.out _ _) (grown_of_below _ hb3)); clear hb3) | (go_at_call 170; refine (mark_text m _ (by omega) (by omega)).mono ?_; rintro e w2 ⟨rfl, hb2⟩; have HR2 := hid (HR.out.below hb2); have hu2 := getxp HR2.out (j * 2) (by rw [HL.out]; omega); obtain ⟨⟨u2, hu2⟩, hf2⟩ := hu2; have HG2 := hid (grown_trans HG.out (grown_of_below _ hb2)); clear hb2))
        have hset : ((prmixed k j rs).set (j * 2) (.string (mtext m))).set (j * 2 + 1) (.string (mtext (m + 1))) = prmixed k (j + 1) rs := by
          rw [HM.out]; exact prmixed_set k j rs hlt
        refine ⟨⟨j + 1, m + 2, by omega, by go_num, by go_num, by show _ = _; have := HM.out; omega, ?_, grown_set HG3.out _ _⟩, by simp [intOf]; omega⟩
        rw [← hset]
        exact HR3.out.set (j * 2 + 1) (by rw [List.length_set, HL.out]; omega) _
      · have hjl : Hid (j = rs.length) := by show _ = _; omega
        go_wp2
        go_ret
        refine ⟨ret_int (by rw [HM.out, hjl.out]), HG.out, .inr ⟨g, rfl, ?_⟩⟩
        have := HR.out
        rw [hjl.out] at this
        simpa [prmixed] using this

set_option maxHeartbeats 16000000 in
theorem mark_state (a : Option Addr) (rs : List (ByteArray × ByteArray)) (c k : Nat) (w : World) (h : OwnS w a (prcells rs)) (hk : 0 < k) (hl : k + 2 * rs.length ≤ 100000000) :
    Calls Tryz.prog 171 #[stV a rs.length c, .int .i64 (k : Int)] w fun e w' => e = .returned (.int .i64 ((k + 2 * rs.length : Nat) : Int)) ∧ w.grownBy w' (blk a rs.length) ∧ OwnS w' a (prcells (prmarks k rs.length)) := by
  have hb0 : ∀ o, Below w.heap.size w (w.alloc o) := fun o => (Below.refl _ _).alloc (Nat.le_refl _) _
  go_enter Tryz.func171, Tryz.ntmps171
  go_wp2_with fail
  refine (mark_prs a rs c k _ (h.below (hb0 _)) hk hl).mono ?_
  rintro e w1 ⟨rfl, hg1, ho1⟩
  have HG := hid (grown_trans (grown_of_below (blk a rs.length) (hb0 _)) hg1)
  have HO := hid ho1
  clear hg1 ho1
  go_wp2
  go_ret
  exact ⟨rfl, HG.out, HO.out⟩

end Go.Proofs.YtnmaknnnmjfhkagGreatDoor

namespace Go.Proofs.YtnmaknnnmjfhkagGreatDoor
open Go.RowKit

abbrev OpT := Bool × Int × ByteArray
/-- Records in a row of memory. -/
def Ops (w : World) (a : Option Addr) (rs : List (Bool × Int × ByteArray)) : Prop :=
  rs = [] ∨ ∃ b o, a = some ⟨b, o, none⟩ ∧ b < w.heap.size ∧ ∀ i, i < rs.length → w.cell? ⟨b, o + i * 3, none⟩ = some (.bool (rs.getD i (false, 0, ByteArray.empty)).1) ∧ w.cell? ⟨b, o + i * 3 + 1, none⟩ = some (.int .i64 (rs.getD i (false, 0, ByteArray.empty)).2.1) ∧ w.cell? ⟨b, o + i * 3 + 2, none⟩ = some (.string (rs.getD i (false, 0, ByteArray.empty)).2.2)
theorem Ops.below {w w' : World} {a : Option Addr} {rs : List (Bool × Int × ByteArray)} (h : Ops w a rs) (hb : Below w.heap.size w w') : Ops w' a rs := by
  rcases h with h | ⟨b, o, h1, h2, h3⟩
  · exact .inl h
  · exact .inr ⟨b, o, h1, Nat.lt_of_lt_of_le h2 hb.size, fun i hi => ⟨(hb.cell (p := ⟨b, o + i * 3, none⟩) h2).trans (h3 i hi).1, (hb.cell (p := ⟨b, o + i * 3 + 1, none⟩) h2).trans (h3 i hi).2.1, (hb.cell (p := ⟨b, o + i * 3 + 2, none⟩) h2).trans (h3 i hi).2.2⟩⟩
theorem Ops.at {w : World} {a : Option Addr} {rs : List (Bool × Int × ByteArray)} (h : Ops w a rs) {k : Nat} (hk : k < rs.length) : ∃ b o g0 n1 s2, a = some ⟨b, o, none⟩ ∧ w.cell? ⟨b, o + k * 3, none⟩ = some (.bool g0) ∧ w.cell? ⟨b, o + k * 3 + 1, none⟩ = some (.int .i64 n1) ∧ w.cell? ⟨b, o + k * 3 + 2, none⟩ = some (.string s2) ∧ Hid ((g0, n1, s2) = rs.getD k (false, 0, ByteArray.empty)) := by
  rcases h with h | ⟨b, o, h1, h2, h3⟩
  · subst h; simp at hk
  · exact ⟨b, o, _, _, _, h1, (h3 k hk).1, (h3 k hk).2.1, (h3 k hk).2.2, hid rfl⟩
/-- The cells of records. -/
def opcells (rs : List (Bool × Int × ByteArray)) : List Value := rs.flatMap fun x => [.bool x.1, .int .i64 x.2.1, .string x.2.2]
theorem opcells_nil : opcells [] = [] := rfl
theorem opcells_append (a b : List (Bool × Int × ByteArray)) : opcells (a ++ b) = opcells a ++ opcells b := by simp [opcells]
theorem opcells_length (rs : List (Bool × Int × ByteArray)) : (opcells rs).length = rs.length * 3 := by
  induction rs with
  | nil => rfl
  | cons x r ih => simp [opcells] at ih ⊢; omega
theorem opcells_at : ∀ (rs : List (Bool × Int × ByteArray)) (i : Nat), i < rs.length → (opcells rs)[i * 3]? = some (.bool (rs.getD i (false, 0, ByteArray.empty)).1) ∧ (opcells rs)[i * 3 + 1]? = some (.int .i64 (rs.getD i (false, 0, ByteArray.empty)).2.1) ∧ (opcells rs)[i * 3 + 2]? = some (.string (rs.getD i (false, 0, ByteArray.empty)).2.2)
  | x :: r, 0, _ => by simp [opcells]
  | x :: r, i + 1, h => by
    have ih := opcells_at r i (by simpa using h)
    have e : opcells (x :: r) = .bool x.1 :: .int .i64 x.2.1 :: .string x.2.2 :: opcells r := by simp [opcells]
    rw [e, show (i + 1) * 3 = i * 3 + 3 by omega]
    simpa using ih
theorem Row.ops {w : World} {g : Nat} {rs : List (Bool × Int × ByteArray)} (h : Row w g (opcells rs)) : Ops w (some ⟨g, 0, none⟩) rs :=
  .inr ⟨g, 0, rfl, h.lt, fun i hi => by
    rw [Nat.zero_add]
    exact ⟨h.cell _ _ (opcells_at rs i hi).1, h.cell _ _ (opcells_at rs i hi).2.1, h.cell _ _ (opcells_at rs i hi).2.2⟩⟩
def opupTo (rs : List (Bool × Int × ByteArray)) (k : Nat) : List Value := opcells (rs.take k) ++ opcells (List.replicate (rs.length - k) (false, 0, ByteArray.empty))
theorem opupTo_length (rs : List (Bool × Int × ByteArray)) (k : Nat) (h : k ≤ rs.length) : (opupTo rs k).length = rs.length * 3 := by simp [opupTo, opcells_length]; omega
theorem opupTo_all (rs : List (Bool × Int × ByteArray)) (k : Nat) (h : rs.length ≤ k) : opupTo rs k = opcells rs := by
  unfold opupTo; rw [List.take_of_length_le h, show rs.length - k = 0 by omega]; simp [opcells]
theorem opupTo_set (rs : List (Bool × Int × ByteArray)) (k : Nat) (h : k < rs.length) : (((opupTo rs k).set (k * 3) (.bool (rs.getD k (false, 0, ByteArray.empty)).1)).set (k * 3 + 1) (.int .i64 (rs.getD k (false, 0, ByteArray.empty)).2.1)).set (k * 3 + 2) (.string (rs.getD k (false, 0, ByteArray.empty)).2.2) = opupTo rs (k + 1) := by
  unfold opupTo
  have el : (opcells (rs.take k)).length = k * 3 := by rw [opcells_length]; simp; omega
  rw [List.set_append_right _ _ (by omega), List.set_append_right _ _ (by omega), List.set_append_right _ _ (by omega), el, show k * 3 - k * 3 = 0 by omega, show k * 3 + 1 - k * 3 = 1 by omega, show k * 3 + 2 - k * 3 = 2 by omega,
    show rs.length - k = (rs.length - (k + 1)) + 1 by omega, List.replicate_succ, List.take_succ_eq_append_getElem h, opcells_append, List.append_assoc]
  congr 1
  simp [opcells, List.getD, h]
theorem made_ops : ∀ (n : Nat), (madeCells (Value.agg #[.bool false, .int .i64 0, .string ByteArray.empty]).cells (n * 3)).toList = opcells (List.replicate n (false, 0, ByteArray.empty))
  | 0 => by simp [madeCells, opcells]
  | n + 1 => by
    have ih := made_ops n
    unfold madeCells at ih ⊢
    rw [Array.toList_map, Array.toList_range] at ih ⊢
    rw [show (n + 1) * 3 = n * 3 + 1 + 1 + 1 by omega, List.range_succ, List.range_succ, List.range_succ, List.map_append, List.map_append, List.map_append, ih, List.replicate_succ', opcells_append, List.append_assoc, List.append_assoc]
    congr 1
    have e0 : (n * 3) % (Value.agg #[.bool false, .int .i64 0, .string ByteArray.empty]).cells.size = 0 := by simp [Value.cells] <;> omega
    have e1 : (n * 3 + 1) % (Value.agg #[.bool false, .int .i64 0, .string ByteArray.empty]).cells.size = 1 := by simp [Value.cells] <;> omega
    have e2 : (n * 3 + 1 + 1) % (Value.agg #[.bool false, .int .i64 0, .string ByteArray.empty]).cells.size = 2 := by simp [Value.cells] <;> omega
    simp only [List.map_cons, List.map_nil]
    rw [e0, e1, e2]
    rfl
/-- The sizes that are counted of a record. -/
def opsz (x : Bool × Int × ByteArray) : List Nat := [x.2.2.size]
end Go.Proofs.YtnmaknnnmjfhkagGreatDoor

namespace Go.Proofs.YtnmaknnnmjfhkagGreatDoor
open Go.Shelf
/-- Where this program has what the contract of strings.Compare speaks of. -/
def cRen : Go.Shelf.Ren := ⟨fun | 106 => 207 | 213 => 256 | 265 => 282 | n => n, fun | 9 => 9 | 3 => 3 | n => n, fun | n => n⟩
theorem cLays106 : Go.Proofs.Lays.n106 Tryz.prog cRen := {
  mixed := by kernel_rfl
  f106 := Tryz.func207.trans (congrArg some (by kernel_rfl))
  f213 := Tryz.func256.trans (congrArg some (by kernel_rfl))
  f265 := Tryz.func282.trans (congrArg some (by kernel_rfl))
  t3 := Tryz.underlying3
  a3 := Tryz.isAgg3
  z3 := Tryz.sizeOf3
  v3 := Tryz.zeroValue3
  t9 := Tryz.underlying9
  a9 := Tryz.isAgg9
  z9 := Tryz.sizeOf9
  v9 := Tryz.zeroValue9 }
/-- How two texts stand to each other. -/
def cmpB (a b : ByteArray) : Int := Lib.compareBytes a.data.toList b.data.toList
open Go.RowKit in
theorem compare_i (a b : ByteArray) (w : World) : Calls Tryz.prog 207 #[.string a, .string b] w fun e w' => e = .returned (.int .i64 (cmpB a b)) ∧ w' = w := Any.strings_Compare cLays106 a b w
end Go.Proofs.YtnmaknnnmjfhkagGreatDoor

namespace Go.Proofs.YtnmaknnnmjfhkagGreatDoor
open Go.RowKit Go.Sort
set_option maxRecDepth 4000
set_option linter.unusedVariables false
set_option linter.unusedSimpArgs false

theorem u8_tri (a b : UInt8) (h1 : ¬ a < b) (h2 : ¬ b < a) : a = b := by
  apply UInt8.toNat_inj.1
  rw [UInt8.lt_iff_toNat_lt] at h1 h2
  omega
theorem cb_lt : ∀ (x y : List UInt8), Lib.compareBytes x y < 0 ↔ x < y
  | [], [] => by simp [Lib.compareBytes]
  | [], b :: l2 => by simp [Lib.compareBytes]
  | a :: l, [] => by simp [Lib.compareBytes]
  | a :: l, b :: l2 => by
    rw [List.cons_lt_cons_iff]
    unfold Lib.compareBytes
    split
    · rename_i h; simp [h]
    · rename_i h
      split
      · rename_i h2
        have hne : ¬ a = b := fun e => by subst e; exact h h2
        simp [h, hne]
      · rename_i h2
        have e := u8_tri a b h h2
        subst e
        rw [cb_lt l l2]
        simp [h]
theorem cb_zero : ∀ (x y : List UInt8), Lib.compareBytes x y = 0 ↔ x = y
  | [], [] => by simp [Lib.compareBytes]
  | [], b :: l2 => by simp [Lib.compareBytes]
  | a :: l, [] => by simp [Lib.compareBytes]
  | a :: l, b :: l2 => by
    unfold Lib.compareBytes
    split
    · rename_i h
      have hne : ¬ a = b := fun e => by subst e; rw [UInt8.lt_iff_toNat_lt] at h; omega
      simp [hne]
    · rename_i h
      split
      · rename_i h2
        have hne : ¬ a = b := fun e => by subst e; exact h h2
        simp [hne]
      · rename_i h2
        have e := u8_tri a b h h2
        subst e
        rw [cb_zero l l2]
        simp
theorem cmpB_lt (a b : ByteArray) : cmpB a b < 0 ↔ Op.bytesLess a.toList b.toList = true := by
  unfold cmpB
  rw [cb_lt, bytesLess_eq, decide_eq_true_eq, ByteArray.toList_eq, ByteArray.toList_eq]
theorem cmpB_zero (a b : ByteArray) : cmpB a b = 0 ↔ a = b := by
  unfold cmpB
  rw [cb_zero]
  constructor
  · intro h; exact ByteArray.ext (Array.ext' h)
  · intro h; rw [h]
theorem cmp_i (k v key : ByteArray) (w : World) : Calls Tryz.prog 206 #[.agg #[.string k, .string v], .string key] w fun e w' => e = .returned (.int .i64 (cmpB k key)) ∧ Below w.heap.size w w' := by
  go_enter Tryz.func206, Tryz.ntmps206
  go_wp2_with (go_at_call 207; refine (compare_i k key _).mono ?_; rintro e w2 ⟨rfl, rfl⟩)
  go_ret
  exact ⟨rfl, (Below.refl _ _).alloc (Nat.le_refl _) _⟩

/-- The key at a place of a list of pairs. -/
def kAt (rs : List (ByteArray × ByteArray)) (t : Nat) : ByteArray := (rs.getD t (ByteArray.empty, ByteArray.empty)).1

set_option maxHeartbeats 16000000 in
theorem bs_i (a : Option Addr) (rs : List (ByteArray × ByteArray)) (c : Nat) (key : ByteArray) (w : World) (h : Prs w a rs) (hl : rs.length ≤ 1048576) (hmono : Hid (∀ t m, t ≤ m → m < rs.length → cmpB (kAt rs m) key < 0 → cmpB (kAt rs t) key < 0)) :
    Calls Tryz.prog 205 #[.slice a rs.length c, .string key, .func (.func 206) #[] #[]] w fun e w' =>
      ∃ p : Nat, p ≤ rs.length ∧ (∀ t, t < p → cmpB (kAt rs t) key < 0) ∧ (∀ t, p ≤ t → t < rs.length → 0 ≤ cmpB (kAt rs t) key) ∧ e = .returned (.tuple #[.int .i64 (p : Int), .bool (decide (p < rs.length ∧ cmpB (kAt rs p) key = 0))]) ∧ Below w.heap.size w w' := by
  go_enter Tryz.func205, Tryz.ntmps205
  go_wp2_with fail
  go_loopw [9, 10, 11] (fun i j _ wr => ∃ p q : Nat, p ≤ q ∧ q ≤ rs.length ∧ i = .int .i64 (p : Int) ∧ j = .int .i64 (q : Int) ∧ Hid (∀ t, t < p → cmpB (kAt rs t) key < 0) ∧ Hid (∀ t, q ≤ t → t < rs.length → 0 ≤ cmpB (kAt rs t) key) ∧ Below w.heap.size w wr) (fun i j _ _ => (intOf j).toNat - (intOf i).toNat)
  case atStart => exact ⟨0, rs.length, Nat.zero_le _, Nat.le_refl _, rfl, rfl, fun t ht => by omega, fun t h1 h2 => by omega, Below.refl _ _⟩
  case round =>
    obtain ⟨p, q, hpq, hq, rfl, rfl, HA, HZ, hbel⟩ := hrel
    by_cases hlt : p < q
    · obtain ⟨m, hm⟩ : ∃ m : Nat, m = (p + q) / 2 := ⟨_, rfl⟩
      have hm1 : p ≤ m := by omega
      have hm2 : m < q := by omega
      have hmi : ((p : Int) + (q : Int)) / 2 = (m : Int) := by omega
      obtain ⟨b, o, s0, s1, rfl, hc0, hc1, HS⟩ := (h.below hbel).at (show m < rs.length by omega)
      have HK : Hid (s0 = kAt rs m) := by show _ = _; unfold kAt; rw [← HS.out]
      have hlt' : (p : Int) < (q : Int) := by omega
      obtain ⟨C, HC⟩ : ∃ C, Hid (C = cmpB s0 key) := ⟨_, hid rfl⟩
      clear hm
      have HZZ := HZ
      have HAA := HA
      clear HZ HA
      by_cases hC : C < 0
      · go_wp2_with (go_at_call 206; refine (cmp_i s0 s1 key _).mono ?_; rw [← HC.out]; rintro e w2 ⟨rfl, hb2⟩)
        refine ⟨⟨m + 1, q, by omega, hq, by go_num, rfl, fun t ht => ?_, HZZ.out, hbel.trans (hb2.mono hbel.size)⟩, by simp [intOf]; omega⟩
        exact hmono.out t m (by omega) (by omega) (by rw [← HK.out, ← HC.out]; exact hC)
      · go_wp2_with (go_at_call 206; refine (cmp_i s0 s1 key _).mono ?_; rw [← HC.out]; rintro e w2 ⟨rfl, hb2⟩)
        refine ⟨⟨p, m, by omega, by omega, rfl, rfl, HAA.out, fun t h1 h2 => Int.not_lt.1 (fun h3 => ?_), hbel.trans (hb2.mono hbel.size)⟩, by simp [intOf]; omega⟩
        have := hmono.out m t h1 h2 h3
        rw [← HK.out, ← HC.out] at this
        omega
    · have hpq' : p = q := by omega
      subst hpq'
      have HZZ := HZ
      have HAA := HA
      clear HZ HA
      by_cases hpn : p < rs.length
      · have hpn' : (p : Int) < (rs.length : Int) := by omega
        obtain ⟨b, o, s0, s1, rfl, hc0, hc1, HS⟩ := (h.below hbel).at hpn
        have HK : Hid (s0 = kAt rs p) := by show _ = _; unfold kAt; rw [← HS.out]
        obtain ⟨C, HC⟩ : ∃ C, Hid (C = cmpB s0 key) := ⟨_, hid rfl⟩
        go_wp2_with (go_at_call 206; refine (cmp_i s0 s1 key _).mono ?_; rw [← HC.out]; rintro e w2 ⟨rfl, hb2⟩)
        go_ret2
        refine ⟨p, hq, HAA.out, HZZ.out, ?_, hbel.trans (hb2.mono hbel.size)⟩
        rw [← HK.out, ← HC.out]
        simp [hpn]
        rw [Bool.eq_iff_iff]; simp
      · have hpn' : (rs.length : Int) ≤ (p : Int) := by omega
        go_wp2
        go_ret2
        refine ⟨p, hq, HAA.out, HZZ.out, ?_, hbel⟩
        simp [hpn]
end Go.Proofs.YtnmaknnnmjfhkagGreatDoor

namespace Go.Proofs.YtnmaknnnmjfhkagGreatDoor
open Go.RowKit
set_option maxRecDepth 4000

set_option maxHeartbeats 16000000 in
theorem sz_strs (a : Option Addr) (ss : List ByteArray) (c : Nat) (left : Int) (w : World) (h : Strs w a ss) (h0 : 0 ≤ left) (h1 : left ≤ 1048576) (hl : ss.length ≤ maxLen) (hs : ∀ s ∈ ss, s.size ≤ maxLen) :
    Calls Tryz.prog 46 #[.slice a ss.length c, .int .i64 left] w fun e w' => e = .returned (.int .i64 (szL (ss.length :: ss.map ByteArray.size) left)) ∧ w' = w := by
  unfold maxLen at hl
  by_cases hn : left - (ss.length : Int) < 0
  · have HR := hid (szL_cons_lt (ss.map ByteArray.size) hn)
    go_enter Tryz.func46, Tryz.ntmps46
    go_wp2
    go_ret
    exact ⟨ret_int HR.out.symm, rfl⟩
  · have HR := hid (szL_cons_ge (ss.map ByteArray.size) hn)
    obtain ⟨R, HE⟩ : ∃ R, Hid (R = szL (ss.length :: ss.map ByteArray.size) left) := ⟨_, hid rfl⟩
    rw [← HE.out]
    go_enter Tryz.func46, Tryz.ntmps46
    go_wp2
    go_loop [1, 5] (fun x i => ∃ (k : Nat) (y : Int), k ≤ ss.length ∧ i = .int .i64 k ∧ x = .int .i64 y ∧ 0 ≤ y ∧ y ≤ 1048576 ∧ Hid (szL ((ss.map ByteArray.size).drop k) y = R)) (fun _ i => ss.length - (intOf i).toNat)
    case atStart => exact ⟨0, _, Nat.zero_le _, rfl, rfl, by omega, by omega, by show _ = _; rw [HE.out, HR.out, List.drop_zero]⟩
    case round =>
      obtain ⟨k, y, hk, rfl, rfl, hy0, hy1, HZ⟩ := hrel
      by_cases hlt : k < ss.length
      · obtain ⟨b, o, s, rfl, hc, HS⟩ := h.at hlt
        have hsz : s.size ≤ 9223372036854775807 := by
          have := hs s (by rw [HS.out]; simp [List.getD, hlt])
          unfold maxLen at this; exact this
        have HD := hid (drop_at (ss.map ByteArray.size) k 0 (by simpa using hlt))
        have HG : Hid ((ss.map ByteArray.size).getD k 0 = s.size) := by show _ = _; rw [HS.out]; simp [List.getD, hlt]
        by_cases hy : y - (s.size : Int) < 0
        · go_wp2
          go_ret
          refine ⟨ret_int ?_, rfl⟩
          rw [← HZ.out, HD.out, HG.out, szL_cons_lt _ hy]
        · go_wp2
          go_round
          case rel => exact ⟨k + 1, _, by omega, by go_num, rfl, by omega, by omega, by show _ = _; rw [← HZ.out, HD.out, HG.out, szL_cons_ge _ hy]⟩
          case measure => simp [intOf]; omega
      · go_wp2
        go_ret
        refine ⟨ret_int ?_, rfl⟩
        rw [← HZ.out, List.drop_of_length_le (by simp; omega)]
        rfl

set_option maxHeartbeats 16000000 in
theorem sz_wr (n : Int) (s : ByteArray) (y : Int) (w : World) (h0 : 0 ≤ y) (h1 : y ≤ 1048576) (hs : s.size ≤ 9223372036854775807) :
    Calls Tryz.prog 135 #[.agg #[.int .i64 n, .string s], .int .i64 y] w fun e w' => e = .returned (.int .i64 (if y - (s.size : Int) < 0 then -1 else y - (s.size : Int))) ∧ Below w.heap.size w w' := by
  by_cases hy : y - (s.size : Int) < 0
  · go_enter Tryz.func135, Tryz.ntmps135
    go_wp2
    go_ret
    exact ⟨rfl, (Below.refl _ _).alloc (Nat.le_refl _) _⟩
  · go_enter Tryz.func135, Tryz.ntmps135
    go_wp2
    go_ret
    exact ⟨rfl, (Below.refl _ _).alloc (Nat.le_refl _) _⟩

set_option maxHeartbeats 16000000 in
theorem sz_wrs (a : Option Addr) (ws : List (Int × ByteArray)) (c : Nat) (left : Int) (w : World) (h : Wrs w a ws) (h0 : 0 ≤ left) (h1 : left ≤ 1048576) (hl : ws.length ≤ maxLen) (hs : ∀ s ∈ ws, s.2.size ≤ maxLen) :
    Calls Tryz.prog 47 #[.slice a ws.length c, .int .i64 left] w fun e w' => e = .returned (.int .i64 (szL (ws.length :: ws.map fun x => x.2.size) left)) ∧ Below w.heap.size w w' := by
  unfold maxLen at hl
  by_cases hn : left - (ws.length : Int) < 0
  · have HR := hid (szL_cons_lt (ws.map fun x => x.2.size) hn)
    go_enter Tryz.func47, Tryz.ntmps47
    go_wp2
    go_ret
    exact ⟨ret_int HR.out.symm, Below.refl _ _⟩
  · have HR := hid (szL_cons_ge (ws.map fun x => x.2.size) hn)
    obtain ⟨R, HE⟩ : ∃ R, Hid (R = szL (ws.length :: ws.map fun x => x.2.size) left) := ⟨_, hid rfl⟩
    rw [← HE.out]
    go_enter Tryz.func47, Tryz.ntmps47
    go_wp2
    go_loopw [1, 5] (fun x i wr => ∃ (k : Nat) (y : Int), k ≤ ws.length ∧ i = .int .i64 k ∧ x = .int .i64 y ∧ 0 ≤ y ∧ y ≤ 1048576 ∧ Hid (szL ((ws.map fun x => x.2.size).drop k) y = R) ∧ Below w.heap.size w wr) (fun _ i _ => ws.length - (intOf i).toNat)
    case atStart => exact ⟨0, _, Nat.zero_le _, rfl, rfl, by omega, by omega, by show _ = _; rw [HE.out, HR.out, List.drop_zero], Below.refl _ _⟩
    case round =>
      obtain ⟨k, y, hk, rfl, rfl, hy0, hy1, HZ, hbel⟩ := hrel
      by_cases hlt : k < ws.length
      · obtain ⟨b, o, n, s, rfl, hc, hc2, HS⟩ := (h.below hbel).at hlt
        have hsz : s.size ≤ 9223372036854775807 := by
          have := hs (n, s) (by rw [HS.out]; simp [List.getD, hlt])
          unfold maxLen at this; exact this
        have HD := hid (drop_at (ws.map fun x => x.2.size) k 0 (by simpa using hlt))
        have HG : Hid ((ws.map fun x => x.2.size).getD k 0 = s.size) := by
          show _ = _
          have e := HS.out
          simp only [List.getD, List.getElem?_map]
          simp only [List.getD] at e
          rw [List.getElem?_eq_getElem hlt] at e ⊢
          simp only [Option.getD_some] at e
          simp [← e]
        by_cases hy : y - (s.size : Int) < 0
        · have hneg : (-1 : Int) < 0 := by omega
          go_wp2_with (go_at_call 135; refine (sz_wr n s y _ hy0 hy1 hsz).mono ?_; rw [if_pos hy]; rintro e w2 ⟨rfl, hb2⟩)
          go_ret
          refine ⟨ret_int ?_, hbel.trans (hb2.mono hbel.size)⟩
          rw [← HZ.out, HD.out, HG.out, szL_cons_lt _ hy]
        · have hy2 : 0 ≤ y - (s.size : Int) := by omega
          go_wp2_with (go_at_call 135; refine (sz_wr n s y _ hy0 hy1 hsz).mono ?_; rw [if_neg hy]; rintro e w2 ⟨rfl, hb2⟩)
          go_roundw
          case rel => exact ⟨k + 1, _, by omega, by go_num, rfl, by omega, by omega, by show _ = _; rw [← HZ.out, HD.out, HG.out, szL_cons_ge _ (by omega)], hbel.trans (hb2.mono hbel.size)⟩
          case measure => simp [intOf]; omega
      · go_wp2
        go_ret
        refine ⟨ret_int ?_, hbel⟩
        rw [← HZ.out, List.drop_of_length_le (by simp; omega)]
        rfl

@[reducible] def diskV (a : Option Addr) (n c : Nat) (a' : Option Addr) (n' c' : Nat) : Value := .agg #[.slice a n c, .slice a' n' c']
/-- The sizes that are counted of a disk. -/
def szs (ss : List ByteArray) (ws : List (Int × ByteArray)) : List Nat := (ss.length :: ss.map ByteArray.size) ++ (ws.length :: ws.map fun x => x.2.size)

set_option maxHeartbeats 16000000 in
theorem sz_disk (a : Option Addr) (ss : List ByteArray) (c : Nat) (a' : Option Addr) (ws : List (Int × ByteArray)) (c' : Nat) (w : World) (h : Strs w a ss) (h' : Wrs w a' ws)
    (hl : ss.length ≤ maxLen) (hs : ∀ s ∈ ss, s.size ≤ maxLen) (hl' : ws.length ≤ maxLen) (hs' : ∀ s ∈ ws, s.2.size ≤ maxLen) :
    Calls Tryz.prog 9 #[diskV a ss.length c a' ws.length c', .int .i64 1048576] w fun e w' => e = .returned (.int .i64 (szL (szs ss ws) 1048576)) ∧ Below w.heap.size w w' := by
  have hb0 : ∀ o, Below w.heap.size w (w.alloc o) := fun o => (Below.refl _ _).alloc (Nat.le_refl _) _
  have hbd := szL_bd (ss.length :: ss.map ByteArray.size) 1048576 (by omega)
  have hno := szL_append_no (ss.length :: ss.map ByteArray.size) (ws.length :: ws.map fun x => x.2.size) 1048576 (by omega)
  have hyes := szL_append_yes (ss.length :: ss.map ByteArray.size) (ws.length :: ws.map fun x => x.2.size) 1048576 (by omega)
  obtain ⟨x, HX⟩ : ∃ x, Hid (x = szL (ss.length :: ss.map ByteArray.size) 1048576) := ⟨_, hid rfl⟩
  obtain ⟨R, HR⟩ : ∃ R, Hid (R = szL (szs ss ws) 1048576) := ⟨_, hid rfl⟩
  rw [← HR.out]
  unfold szs at HR
  rw [← HX.out] at hbd hno hyes
  by_cases hx : x < 0
  · have hRm : R = -1 := by rw [HR.out, hno hx]
    have hx1 : x = -1 := by omega
    clear hno hyes hbd
    have HRm := hid hRm
    have HX1 := hid hx1
    clear hRm hx1
    go_enter Tryz.func9, Tryz.ntmps9
    go_wp2_with fail
    refine (sz_strs a ss c 1048576 _ (h.below (hb0 _)) (by omega) (by omega) hl hs).mono ?_
    rw [← HX.out]
    rintro e w1 ⟨rfl, rfl⟩
    go_wp2
    go_ret
    exact ⟨ret_int HRm.out.symm, hb0 _⟩
  · have HRm := hid (HR.out.trans (hyes (by omega)))
    have hx0 : 0 ≤ x := by omega
    have hx1 : x ≤ 1048576 := by omega
    clear hno hyes hbd hx
    have hbd2 := szL_bd (ws.length :: ws.map fun x => x.2.size) x hx0
    rw [← HRm.out] at hbd2
    go_enter Tryz.func9, Tryz.ntmps9
    go_wp2_with fail
    refine (sz_strs a ss c 1048576 _ (h.below (hb0 _)) (by omega) (by omega) hl hs).mono ?_
    rw [← HX.out]
    rintro e w1 ⟨rfl, rfl⟩
    go_wp2_with fail
    refine (sz_wrs a' ws c' x _ (h'.below (hb0 _)) hx0 hx1 hl' hs').mono ?_
    rw [← HRm.out]
    rintro e w1 ⟨rfl, hb1⟩
    have hb2 := (hb0 _).trans (hb1.mono (by simp))
    clear hb1
    by_cases hR : R < 0
    · have hR1 : Hid (R = -1) := by show R = -1; omega
      clear hbd2
      go_wp2
      go_ret
      exact ⟨ret_int hR1.out.symm, hb2⟩
    · clear hbd2
      go_wp2
      go_ret
      exact ⟨rfl, hb2⟩
end Go.Proofs.YtnmaknnnmjfhkagGreatDoor

namespace Go.Proofs.YtnmaknnnmjfhkagGreatDoor
open Go.RowKit
set_option maxRecDepth 4000

theorem infoStr : (Tryz.prog.info? 9).map (fun i => (i.zero, i.size, i.bytes)) = some (some (.string ByteArray.empty), 1, 16) := by kernel_rfl
theorem infoWr : (Tryz.prog.info? 183).map (fun i => (i.zero, i.size, i.bytes)) = some (some (.agg #[.int .i64 0, .string ByteArray.empty]), 2, 24) := by kernel_rfl

set_option maxHeartbeats 16000000 in
theorem to_strs (a : Option Addr) (ss : List ByteArray) (c : Nat) (w : World) (h : Strs w a ss) (hl : ss.length ≤ 1048576) :
    Calls Tryz.prog 57 #[.slice a ss.length c] w fun e w' => ∃ g, e = .returned (.slice (some ⟨g, 0, none⟩) ss.length ss.length) ∧ w.heap.size ≤ g ∧ Row w' g (ss.map Value.string) ∧ Below w.heap.size w w' := by
  go_enter Tryz.func57, Tryz.ntmps57
  go_wp2_with (at_make; refine wpList_make_new rfl _ _ 22 rfl 9 _ 1 16 Tryz.underlying22 infoStr ss.length rfl rfl (by omega) (by omega) ?_; intro wx hrow hbx hsx; rw [made_strs] at hrow)
  have hr0 : Row wx w.heap.size (upTo ss 0) := by simpa [upTo] using hrow
  clear hrow
  go_loopw [4] (fun i wr => ∃ k : Nat, k ≤ ss.length ∧ i = .int .i64 k ∧ Row wr w.heap.size (upTo ss k) ∧ Below w.heap.size w wr) (fun i _ => ss.length - (intOf i).toNat)
  case atStart => exact ⟨0, Nat.zero_le _, rfl, hr0, hbx⟩
  case round =>
    obtain ⟨k, hk, rfl, hrow, hbel⟩ := hrel
    by_cases hlt : k < ss.length
    · obtain ⟨b, o, s, rfl, hc, HS⟩ := (h.below hbel).at hlt
      have hlu := upTo_length ss k hk
      obtain ⟨u, hu⟩ : ∃ u, wr.cell? ⟨w.heap.size, k, none⟩ = some u := ⟨_, hrow.cell k _ (List.getElem?_eq_getElem (by omega))⟩
      have hf := hrow.froz k (by omega)
      have HR := hid (hrow.set k (by omega) (.string s))
      have HU : Hid ((upTo ss k).set k (.string s) = upTo ss (k + 1)) := by show _ = _; rw [HS.out]; exact upTo_set ss k hlt
      clear hrow hlu
      go_wp2
      go_roundw
      case rel => exact ⟨k + 1, by omega, by go_num, by rw [← HU.out]; exact HR.out, hbel.setCell (Nat.le_refl _) _⟩
      case measure => simp [intOf]; omega
    · go_wp2
      go_ret
      exact ⟨w.heap.size, rfl, Nat.le_refl _, by rw [← upTo_all ss k (by omega)]; exact hrow, hbel⟩

theorem bcell {W w1 : World} (hb : Below W.heap.size W w1) : (∀ b o, b < W.heap.size → w1.cell? ⟨b, o, none⟩ = W.cell? ⟨b, o, none⟩) ∧ (∀ b o, b < W.heap.size → w1.frozen? ⟨b, o, none⟩ = W.frozen? ⟨b, o, none⟩) :=
  ⟨fun b o h => hb.cell (p := ⟨b, o, none⟩) h, fun b o h => hb.frozen (p := ⟨b, o, none⟩) h⟩

set_option maxHeartbeats 16000000 in
theorem to_wr (n : Int) (s : ByteArray) (w : World) :
    Calls Tryz.prog 146 #[.agg #[.int .i64 n, .string s]] w fun e w' => e = .returned (.agg #[.int .i64 n, .string s]) ∧ Below w.heap.size w w' := by
  go_enter Tryz.func146, Tryz.ntmps146
  go_wp2
  exact bodyPost_ret (v := .agg #[.int .i64 n, .string s]) (by simp [results, Tryz.results146, go_sem]) rfl ⟨rfl, (((Below.refl _ _).alloc (Nat.le_refl _) _).alloc (by simp) _).alloc (by simp; omega) _⟩

set_option maxHeartbeats 16000000 in
theorem to_wrs (a : Option Addr) (ws : List (Int × ByteArray)) (c : Nat) (w : World) (h : Wrs w a ws) (hl : ws.length ≤ 1048576) :
    Calls Tryz.prog 58 #[.slice a ws.length c] w fun e w' => ∃ g, e = .returned (.slice (some ⟨g, 0, none⟩) ws.length ws.length) ∧ w.heap.size ≤ g ∧ Row w' g (wcells ws) ∧ Below w.heap.size w w' := by
  go_enter Tryz.func58, Tryz.ntmps58
  go_wp2_with (at_make; refine wpList_make_new rfl _ _ 38 rfl 183 _ 2 24 Tryz.underlying38 infoWr ws.length rfl rfl (by omega) (by omega) ?_; intro wx hrow hbx hsx; rw [made_wrs] at hrow)
  have hr0 : Row wx w.heap.size (wupTo ws 0) := by simpa [wupTo, wcells_nil] using hrow
  clear hrow
  go_loopw [4] (fun i wr => ∃ k : Nat, k ≤ ws.length ∧ i = .int .i64 k ∧ Row wr w.heap.size (wupTo ws k) ∧ Below w.heap.size w wr) (fun i _ => ws.length - (intOf i).toNat)
  case atStart => exact ⟨0, Nat.zero_le _, rfl, hr0, hbx⟩
  case round =>
    obtain ⟨k, hk, rfl, hrow, hbel⟩ := hrel
    by_cases hlt : k < ws.length
    · obtain ⟨b, o, n, s, rfl, hc, hc2, HS⟩ := (h.below hbel).at hlt
      have HB := hid hbel
      have HR := hid hrow
      clear hrow hbel
      go_wp2_with (go_at_call 146; refine (to_wr n s _).mono ?_; rintro e w2 ⟨rfl, hb2⟩; have hr2 := HR.out.below hb2; have hl2 := wupTo_length ws k hk; obtain ⟨u, hu⟩ : ∃ u, w2.cell? ⟨w.heap.size, k * 2, none⟩ = some u := ⟨_, hr2.cell (k * 2) _ (List.getElem?_eq_getElem (by omega))⟩; obtain ⟨u', hu'⟩ : ∃ u', w2.cell? ⟨w.heap.size, k * 2 + 1, none⟩ = some u' := ⟨_, hr2.cell (k * 2 + 1) _ (List.getElem?_eq_getElem (by omega))⟩; have hf := hr2.froz (k * 2) (by omega); have hf' := hr2.froz (k * 2 + 1) (by omega); have HR2 := hid hr2; have HL2 := hid hl2; clear hr2 hl2)
      have hrs := (HR2.out.set (k * 2) (by rw [HL2.out]; omega) (.int .i64 n)).set (k * 2 + 1) (by rw [List.length_set, HL2.out]; omega) (.string s)
      have hus : ((wupTo ws k).set (k * 2) (.int .i64 n)).set (k * 2 + 1) (.string s) = wupTo ws (k + 1) := by
        have e := HS.out
        rw [show n = (ws.getD k (0, ByteArray.empty)).1 by rw [← e], show s = (ws.getD k (0, ByteArray.empty)).2 by rw [← e]]
        exact wupTo_set ws k hlt
      rw [hus] at hrs
      go_roundw
      case rel => exact ⟨k + 1, by omega, by go_num, hrs, ((HB.out.trans (hb2.mono HB.out.size)).setCell (Nat.le_refl _) _).setCell (Nat.le_refl _) _⟩
      case measure => simp [intOf]; omega
    · go_wp2
      go_ret
      exact ⟨w.heap.size, rfl, Nat.le_refl _, by rw [← wupTo_all ws k (by omega)]; exact hrow, hbel⟩

set_option maxHeartbeats 16000000 in
theorem to_disk (a : Option Addr) (ss : List ByteArray) (c : Nat) (a' : Option Addr) (ws : List (Int × ByteArray)) (c' : Nat) (w : World) (h : Strs w a ss) (h' : Wrs w a' ws) (hl : ss.length ≤ 1048576) (hl' : ws.length ≤ 1048576) :
    Calls Tryz.prog 11 #[diskV a ss.length c a' ws.length c'] w fun e w' => ∃ g g', e = .returned (diskV (some ⟨g, 0, none⟩) ss.length ss.length (some ⟨g', 0, none⟩) ws.length ws.length) ∧ w.heap.size ≤ g ∧ w.heap.size ≤ g' ∧ g ≠ g' ∧ Row w' g (ss.map Value.string) ∧ Row w' g' (wcells ws) ∧ Below w.heap.size w w' := by
  have hb0 : ∀ o1 o2 o3, Below w.heap.size w (((w.alloc o1).alloc o2).alloc o3) := fun o1 o2 o3 => (((Below.refl _ _).alloc (Nat.le_refl _) _).alloc (by simp) _).alloc (by simp; omega) _
  go_enter Tryz.func11, Tryz.ntmps11
  go_wp2_with fail
  refine (to_strs a ss c _ (h.below (hb0 _ _ _)) hl).mono ?_
  rintro e w1 ⟨g, rfl, hg, hr1, hb1⟩
  have hB1 := (hb0 _ _ _).trans (hb1.mono (by simp; omega))
  have hs1 := hb1.size
  obtain ⟨q1, q2⟩ := bcell hb1
  simp only [World.size_alloc] at hg hs1
  have HB1 := hid hb1
  have HR1 := hid hr1
  have HBB := hid hB1
  clear hb1 hr1 hB1
  go_wp2_with fail
  have hBW := HBB.out.setCell (p := ⟨w.heap.size + 1 + 1, 0, none⟩) (by show w.heap.size ≤ w.heap.size + 1 + 1; omega) (Value.slice (some ⟨g, 0, none⟩) ss.length ss.length)
  have HRW := hid (HR1.out.other ⟨w.heap.size + 1 + 1, 0, none⟩ (by show w.heap.size + 1 + 1 ≠ g; omega) (Value.slice (some ⟨g, 0, none⟩) ss.length ss.length))
  refine (to_wrs a' ws c' _ (h'.below hBW) hl').mono ?_
  rintro e w2 ⟨g', rfl, hg', hr2, hb2⟩
  have HBW := hid (hBW.trans (hb2.mono hBW.size))
  have HRX := hid (HRW.out.below hb2)
  have HR2 := hid hr2
  simp only [World.size_setCell] at hg'
  have hgl : g < w1.heap.size := HR1.out.lt
  have hlt1 : w.heap.size + 1 + 1 < (w1.setCell ⟨w.heap.size + 1 + 1, 0, none⟩ (Value.slice (some ⟨g, 0, none⟩) ss.length ss.length)).heap.size := by simp only [World.size_setCell]; omega
  have c20 : w2.cell? ⟨w.heap.size + 1 + 1, 0, none⟩ = some (.slice (some ⟨g, 0, none⟩) ss.length ss.length) := (hb2.cell (p := ⟨w.heap.size + 1 + 1, 0, none⟩) hlt1).trans (by go_simp)
  have c21 : w2.cell? ⟨w.heap.size + 1 + 1, 1, none⟩ = some (.slice none 0 0) := (hb2.cell (p := ⟨w.heap.size + 1 + 1, 1, none⟩) hlt1).trans (by go_simp)
  have f21 : w2.frozen? ⟨w.heap.size + 1 + 1, 1, none⟩ = false := (hb2.frozen (p := ⟨w.heap.size + 1 + 1, 1, none⟩) hlt1).trans (by go_simp)
  have c10 : w2.cell? ⟨w.heap.size + 1, 0, none⟩ = some (.slice none 0 0) := (hb2.cell (p := ⟨w.heap.size + 1, 0, none⟩) (by show w.heap.size + 1 < _; omega)).trans (by go_simp)
  have c11 : w2.cell? ⟨w.heap.size + 1, 1, none⟩ = some (.slice none 0 0) := (hb2.cell (p := ⟨w.heap.size + 1, 1, none⟩) (by show w.heap.size + 1 < _; omega)).trans (by go_simp)
  have f10 : w2.frozen? ⟨w.heap.size + 1, 0, none⟩ = false := (hb2.frozen (p := ⟨w.heap.size + 1, 0, none⟩) (by show w.heap.size + 1 < _; omega)).trans (by go_simp)
  have f11 : w2.frozen? ⟨w.heap.size + 1, 1, none⟩ = false := (hb2.frozen (p := ⟨w.heap.size + 1, 1, none⟩) (by show w.heap.size + 1 < _; omega)).trans (by go_simp)
  clear hb2 hr2 HB1 HR1 HBB HRW hBW q1 q2 hlt1
  go_wp2
  have hgs : w.heap.size + 1 + 1 < g := by omega
  have hgs' : w.heap.size + 1 + 1 < g' := by omega
  refine bodyPost_ret (v := diskV (some ⟨g, 0, none⟩) ss.length ss.length (some ⟨g', 0, none⟩) ws.length ws.length) (by simp [results, Tryz.results11, go_sem, c10, c11]) rfl ⟨g, g', rfl, by omega, by omega, by omega, ?_, ?_, ?_⟩
  · exact ((HRX.out.other _ (by show w.heap.size + 1 + 1 ≠ g; omega) _).other _ (by show w.heap.size + 1 ≠ g; omega) _).other _ (by show w.heap.size + 1 ≠ g; omega) _
  · exact ((HR2.out.other _ (by show w.heap.size + 1 + 1 ≠ g'; omega) _).other _ (by show w.heap.size + 1 ≠ g'; omega) _).other _ (by show w.heap.size + 1 ≠ g'; omega) _
  · exact ((HBW.out.setCell (by show w.heap.size ≤ w.heap.size + 1 + 1; omega) _).setCell (by show w.heap.size ≤ w.heap.size + 1; omega) _).setCell (by show w.heap.size ≤ w.heap.size + 1; omega) _
end Go.Proofs.YtnmaknnnmjfhkagGreatDoor

namespace Go.Proofs.YtnmaknnnmjfhkagGreatDoor
open Go.RowKit

/-- A variable of two cells. -/
structure Cx (w : World) (B : Nat) (v0 v1 : Value) : Prop where
  lt : B < w.heap.size
  c0 : w.cell? ⟨B, 0, none⟩ = some v0
  c1 : w.cell? ⟨B, 1, none⟩ = some v1
theorem Cx.below {w w' : World} {B : Nat} {v0 v1 : Value} (h : Cx w B v0 v1) (hb : Below w.heap.size w w') : Cx w' B v0 v1 :=
  ⟨Nat.lt_of_lt_of_le h.lt hb.size, (hb.cell (p := ⟨_, 0, none⟩) h.lt).trans h.c0, (hb.cell (p := ⟨_, 1, none⟩) h.lt).trans h.c1⟩
theorem Cx.grown {w w' : World} {B : Nat} {v0 v1 : Value} {r : Option Nat} (h : Cx w B v0 v1) (hg : w.grownBy w' r) (hn : some B ≠ r) : Cx w' B v0 v1 :=
  ⟨Nat.lt_of_lt_of_le h.lt hg.size, (World.cell?_of_block (a := ⟨B, 0, none⟩) (hg.block B h.lt hn)).trans h.c0, (World.cell?_of_block (a := ⟨B, 1, none⟩) (hg.block B h.lt hn)).trans h.c1⟩
theorem Cx.drew {w : World} {B : Nat} {v0 v1 : Value} (h : Cx w B v0 v1) : Cx w.drew B v0 v1 := ⟨h.lt, h.c0, h.c1⟩
theorem Cx.new (w : World) (v0 v1 : Value) (t : TypeId) : Cx (w.alloc (.cells #[v0, v1] t)) w.heap.size v0 v1 :=
  ⟨by simp, by rw [World.cell?_alloc_at _ _ _ _ rfl]; rfl, by rw [World.cell?_alloc_at _ _ _ _ rfl]; rfl⟩
theorem below_new (w : World) (o : Obj) : Below w.heap.size w (w.alloc o) := (Below.refl _ _).alloc (Nat.le_refl _) _
theorem Below.then {B : Nat} {a b c : World} (h : Below B a b) (hB : B ≤ a.heap.size) (k : Below b.heap.size b c) : Below B a c := h.trans (k.mono (Nat.le_trans hB h.size))
end Go.Proofs.YtnmaknnnmjfhkagGreatDoor

namespace Go.Proofs.YtnmaknnnmjfhkagGreatDoor
open Go.RowKit
set_option maxRecDepth 4000

set_option maxHeartbeats 16000000 in
theorem eq_strs (a b : Option Addr) (ss : List ByteArray) (c c' : Nat) (w : World) (h : Strs w a ss) (h' : Strs w b ss) (hl : ss.length ≤ 1048576) :
    Calls Tryz.prog 72 #[.slice a ss.length c, .slice b ss.length c'] w fun e w' => e = .returned (.bool true) ∧ Below w.heap.size w w' := by
  go_enter Tryz.func72, Tryz.ntmps72
  go_wp2
  go_loopw [5] (fun i wr => ∃ k : Nat, k ≤ ss.length ∧ i = .int .i64 k ∧ Below w.heap.size w wr) (fun i _ => ss.length - (intOf i).toNat)
  case atStart => exact ⟨0, Nat.zero_le _, rfl, Below.refl _ _⟩
  case round =>
    obtain ⟨k, hk, rfl, hbel⟩ := hrel
    by_cases hlt : k < ss.length
    · obtain ⟨b1, o1, s, rfl, hc, HS⟩ := (h.below hbel).at hlt
      obtain ⟨b2, o2, s', rfl, hc', HS'⟩ := (h'.below hbel).at hlt
      obtain rfl : s = s' := HS.out.trans HS'.out.symm
      have hk1 : (k : Int) < (ss.length : Int) := by omega
      have hk0 : (0 : Int) ≤ (k : Int) := by omega
      clear HS HS'
      go_wp2_with fail
      go_quiet (fail)
      go_wp2
      go_roundw
      case rel => exact ⟨k + 1, by omega, by go_num, below_drewN hbel _⟩
      case measure => simp [intOf]; omega
    · go_wp2
      go_ret
      exact ⟨rfl, hbel⟩

set_option maxHeartbeats 16000000 in
theorem eq_wr (n : Int) (s : ByteArray) (w : World) :
    Calls Tryz.prog 169 #[.agg #[.int .i64 n, .string s], .agg #[.int .i64 n, .string s]] w fun e w' => e = .returned (.bool true) ∧ Below w.heap.size w w' := by
  go_enter Tryz.func169, Tryz.ntmps169
  go_wp2
  go_ret
  exact ⟨rfl, ((Below.refl _ _).alloc (Nat.le_refl _) _).alloc (by simp) _⟩

set_option maxHeartbeats 16000000 in
theorem eq_wrs (a b : Option Addr) (ws : List (Int × ByteArray)) (c c' : Nat) (w : World) (h : Wrs w a ws) (h' : Wrs w b ws) (hl : ws.length ≤ 1048576) :
    Calls Tryz.prog 73 #[.slice a ws.length c, .slice b ws.length c'] w fun e w' => e = .returned (.bool true) ∧ Below w.heap.size w w' := by
  go_enter Tryz.func73, Tryz.ntmps73
  go_wp2
  go_loopw [5] (fun i wr => ∃ k : Nat, k ≤ ws.length ∧ i = .int .i64 k ∧ Below w.heap.size w wr) (fun i _ => ws.length - (intOf i).toNat)
  case atStart => exact ⟨0, Nat.zero_le _, rfl, Below.refl _ _⟩
  case round =>
    obtain ⟨k, hk, rfl, hbel⟩ := hrel
    by_cases hlt : k < ws.length
    · obtain ⟨b1, o1, n, s, rfl, hc, hd, HS⟩ := (h.below hbel).at hlt
      obtain ⟨b2, o2, n', s', rfl, hc', hd', HS'⟩ := (h'.below hbel).at hlt
      obtain ⟨rfl, rfl⟩ : n = n' ∧ s = s' := by have := HS.out.trans HS'.out.symm; simpa using this
      have hk1 : (k : Int) < (ws.length : Int) := by omega
      have hk0 : (0 : Int) ≤ (k : Int) := by omega
      have lt1 : b1 < wr.heap.size := by have := World.block_lt_of_cell? wr _ hc; simpa using this
      have lt2 : b2 < wr.heap.size := by have := World.block_lt_of_cell? wr _ hc'; simpa using this
      have HQ := hid (And.intro hc (And.intro hd (And.intro hc' hd')))
      clear HS HS' hc hd hc' hd'
      go_wp2_with fail
      go_region_held3 (fun w' => w'.cell? ⟨b1, o1 + k * 2, none⟩ = some (.int .i64 n) ∧ w'.cell? ⟨b1, o1 + k * 2 + 1, none⟩ = some (.string s) ∧ w'.cell? ⟨b2, o2 + k * 2, none⟩ = some (.int .i64 n) ∧ w'.cell? ⟨b2, o2 + k * 2 + 1, none⟩ = some (.string s))
        (first | assumption | exact HQ.out | exact ⟨(hb2.cell (p := ⟨b1, _, none⟩) lt1).trans HQ.out.1, (hb2.cell (p := ⟨b1, _, none⟩) lt1).trans HQ.out.2.1, (hb2.cell (p := ⟨b2, _, none⟩) lt2).trans HQ.out.2.2.1, (hb2.cell (p := ⟨b2, _, none⟩) lt2).trans HQ.out.2.2.2⟩)
        (first | (go_at_call 169; refine (eq_wr n s _).mono ?_; rintro e w2 ⟨rfl, hb2⟩))
      go_wp2
      go_roundw
      case rel => exact ⟨k + 1, by omega, by go_num, hbel.drew.trans (hb2.mono hbel.size)⟩
      case measure => simp [intOf]; omega
    · go_wp2
      go_ret
      exact ⟨rfl, hbel⟩

set_option maxHeartbeats 16000000 in
theorem eq_disk (a b : Option Addr) (ss : List ByteArray) (c d : Nat) (a' b' : Option Addr) (ws : List (Int × ByteArray)) (c' d' : Nat) (w : World) (h1 : Strs w a ss) (h2 : Strs w b ss) (h3 : Wrs w a' ws) (h4 : Wrs w b' ws) (hl : ss.length ≤ 1048576) (hl' : ws.length ≤ 1048576) :
    Calls Tryz.prog 14 #[diskV a ss.length c a' ws.length c', diskV b ss.length d b' ws.length d'] w fun e w' => e = .returned (.bool true) ∧ Below w.heap.size w w' := by
  have hb0 : ∀ o1 o2, Below w.heap.size w ((w.alloc o1).alloc o2) := fun o1 o2 => ((Below.refl _ _).alloc (Nat.le_refl _) _).alloc (by simp) _
  go_enter Tryz.func14, Tryz.ntmps14
  go_wp2_with fail
  refine (eq_strs a b ss c d _ (h1.below (hb0 _ _)) (h2.below (hb0 _ _)) hl).mono ?_
  rintro e w1 ⟨rfl, hb1⟩
  have hB1 := (hb0 _ _).trans (hb1.mono (by simp; omega))
  obtain ⟨q1, q2⟩ := bcell hb1
  clear hb1
  go_wp2_with fail
  refine (eq_wrs a' b' ws c' d' _ (h3.below hB1) (h4.below hB1) hl').mono ?_
  rintro e w2 ⟨rfl, hb2⟩
  clear q1 q2
  go_wp2
  go_ret
  exact ⟨rfl, hB1.trans (hb2.mono hB1.size)⟩
end Go.Proofs.YtnmaknnnmjfhkagGreatDoor

namespace Go.Proofs.YtnmaknnnmjfhkagGreatDoor
/-- A goal in a box. -/
structure Wr (p : Prop) : Prop where
  out : p
end Go.Proofs.YtnmaknnnmjfhkagGreatDoor

namespace Go.Proofs.YtnmaknnnmjfhkagGreatDoor
open Go.RowKit
set_option linter.unusedVariables false

/-- A fact that hangs on the blocks from lo up to hi alone. -/
structure Dep (w : World) (lo hi : Nat) (F : World → Prop) : Prop where
  now : F w
  top : hi ≤ w.heap.size
  keep : ∀ w' : World, (∀ b, lo ≤ b → b < hi → w'.heap[b]? = w.heap[b]?) → hi ≤ w'.heap.size → F w'
theorem Dep.below {w w' : World} {lo hi : Nat} {F : World → Prop} (h : Dep w lo hi F) (hb : Below w.heap.size w w') : Dep w' lo hi F :=
  ⟨h.keep w' (fun b _ h2 => hb.block b (Nat.lt_of_lt_of_le h2 h.top)) (Nat.le_trans h.top hb.size), Nat.le_trans h.top hb.size, fun w2 h2 h3 => h.keep w2 (fun b h4 h5 => (h2 b h4 h5).trans (hb.block b (Nat.lt_of_lt_of_le h5 h.top))) h3⟩
theorem Dep.grown {w w' : World} {lo hi : Nat} {F : World → Prop} {r : Option Nat} (h : Dep w lo hi F) (hg : w.grownBy w' r) (hr : ∀ g, r = some g → g < lo ∨ hi ≤ g) : Dep w' lo hi F := by
  have key : ∀ b, lo ≤ b → b < hi → w'.heap[b]? = w.heap[b]? := fun b h1 h2 => hg.block b (Nat.lt_of_lt_of_le h2 h.top) (fun e => by have := hr b e.symm; omega)
  exact ⟨h.keep w' key (Nat.le_trans h.top hg.size), Nat.le_trans h.top hg.size, fun w2 h2 h3 => h.keep w2 (fun b h4 h5 => (h2 b h4 h5).trans (key b h4 h5)) h3⟩
theorem Dep.and {w : World} {lo hi : Nat} {F G : World → Prop} (h : Dep w lo hi F) (k : Dep w lo hi G) : Dep w lo hi (fun w => F w ∧ G w) := ⟨⟨h.now, k.now⟩, h.top, fun w' h1 h2 => ⟨h.keep w' h1 h2, k.keep w' h1 h2⟩⟩
theorem Dep.wide {w : World} {lo hi lo' hi' : Nat} {F : World → Prop} (h : Dep w lo hi F) (h1 : lo' ≤ lo) (h2 : hi ≤ hi') (h3 : hi' ≤ w.heap.size) : Dep w lo' hi' F := ⟨h.now, h3, fun w' k1 k2 => h.keep w' (fun b a c => k1 b (by omega) (by omega)) (by omega)⟩
theorem row_same {w w' : World} {g : Nat} {cs : List Value} (h : Row w g cs) (e : w'.heap[g]? = w.heap[g]?) (hs : g < w'.heap.size) : Row w' g cs :=
  ⟨hs, fun i v hv => by rw [← h.cell i v hv]; simp [World.cell?, e], fun i hi => by rw [← h.froz i hi]; simp [World.frozen?, e]⟩
theorem dep_row {w : World} {g lo hi : Nat} {cs : List Value} (h : Row w g cs) (h1 : lo ≤ g) (h2 : g < hi) (h3 : hi ≤ w.heap.size) : Dep w lo hi (fun w => Row w g cs) := ⟨h, h3, fun w' k1 k2 => row_same h (k1 g h1 h2) (by omega)⟩
theorem dep_own {w : World} {a : Option Addr} {lo n : Nat} {cs : List Value} (h : OwnS w a cs) (hn : cs ≠ [] → n ≠ 0) (h1 : ∀ g, blk a n = some g → lo ≤ g) : Dep w lo w.heap.size (fun w => OwnS w a cs) :=
  ⟨h, Nat.le_refl _, fun w' k1 k2 => by
    by_cases h0 : cs = []
    · exact .inl h0
    · obtain ⟨g, rfl, hr⟩ := h.resolve_left h0
      exact .inr ⟨g, rfl, row_same hr (k1 g (h1 g (blk_pos _ _ _ (hn h0))) hr.lt) (Nat.lt_of_lt_of_le hr.lt k2)⟩⟩
theorem Dep.cut {w : World} {a : Option Addr} {lo hi : Nat} {cs : List Value} (h : Dep w lo w.heap.size (fun w => OwnS w a cs)) (h1 : ∀ g, a = some ⟨g, 0, none⟩ → cs ≠ [] → g < hi) (h2 : hi ≤ w.heap.size) (h3 : ∀ g, a = some ⟨g, 0, none⟩ → cs ≠ [] → lo ≤ g) : Dep w lo hi (fun w => OwnS w a cs) :=
  ⟨h.now, h2, fun w' k1 k2 => by
    by_cases h0 : cs = []
    · exact .inl h0
    · obtain ⟨g, rfl, hr⟩ := h.now.resolve_left h0
      exact .inr ⟨g, rfl, row_same hr (k1 g (h3 g rfl h0) (h1 g rfl h0)) (Nat.lt_of_lt_of_le (h1 g rfl h0) k2)⟩⟩
theorem blk_is {g n k : Nat} (h : blk (some ⟨g, 0, none⟩) n = some k) : k = g := by
  unfold blk at h
  split at h
  · cases h
  · simp at h; exact h.symm
theorem Dep.low {w w' : World} {lo hi N : Nat} {F : World → Prop} (h : Dep w lo hi F) (hb : Below N w w') (hN : hi ≤ N) : Dep w' lo hi F :=
  ⟨h.keep w' (fun b _ h2 => hb.block b (by omega)) (Nat.le_trans h.top hb.size), Nat.le_trans h.top hb.size, fun w2 h2 h3 => h.keep w2 (fun b h4 h5 => (h2 b h4 h5).trans (hb.block b (by omega))) h3⟩
theorem dep_box (w : World) (A : Array Value) (t : TypeId) : Dep (w.alloc (.cells A t)) w.heap.size (w.heap.size + 1) (fun W => Row W w.heap.size A.toList) := dep_row (row_new w A t) (Nat.le_refl _) (by omega) (by simp)
theorem blk_le {a : Option Addr} {n g : Nat} {cs : List Value} {w : World} (h : OwnS w a cs) (hn : n ≠ 0 → cs ≠ []) (hg : blk a n = some g) : g < w.heap.size := h.lt n hn g hg
end Go.Proofs.YtnmaknnnmjfhkagGreatDoor

namespace Go.Proofs.YtnmaknnnmjfhkagGreatDoor
open Go.RowKit
set_option linter.unusedVariables false
set_option linter.unusedSimpArgs false
section
variable {P : Program} {e t : TypeId} {i : TypeInfo} {n : Nat}
theorem part_u8 (he : ∀ w, (isAgg e).run P w = .ok false w) (xs : List Int) (j : Nat) (hj : j < xs.length) (w : World) : (part e (xs.map (Value.int .u8)).toArray j).run P w = .ok (.int .u8 (xs.getD j 0)) w := by
  unfold part
  simp [he, Result.andThen, hj, List.getD]
theorem eq_u8 (hu : P.underlying e = some (.int .u8)) (d : Nat) (a b : Int) (w : World) : (Op.equalIn (d + 1) e (.int .u8 a) (.int .u8 b)).run P w = .ok (a == b) w := by
  simp [Op.equalIn, run_underlying hu, Result.andThen]
theorem eqItems_u8 (he : ∀ w, (isAgg e).run P w = .ok false w) (hu : P.underlying e = some (.int .u8)) (d : Nat) (xs ys : List Int) (w : World) : ∀ (js : List Nat), (∀ j ∈ js, j < xs.length ∧ j < ys.length) → (Op.eqItems (d + 1) e 1 (xs.map (Value.int .u8)).toArray (ys.map (Value.int .u8)).toArray js).run P w = .ok (js.all fun j => xs.getD j 0 == ys.getD j 0) w
  | [], _ => by simp [Op.eqItems]
  | j :: js, h => by
    have hj := h j (List.mem_cons_self)
    have ih := eqItems_u8 he hu d xs ys w js (fun q hq => h q (List.mem_cons_of_mem _ hq))
    simp only [Op.eqItems, Sem.run_bind, Nat.mul_one, part_u8 he xs j hj.1, part_u8 he ys j hj.2, eq_u8 hu, Result.andThen_ok]
    cases hc : (xs.getD j 0 == ys.getD j 0) with
    | false => simp only [Bool.not_false, if_true, Sem.run_pure, List.all_cons, hc, Bool.false_and]
    | true => simp only [Bool.not_true, Bool.false_eq_true, if_false, ih, List.all_cons, hc, Bool.true_and]
theorem all_eq (xs ys : List Int) (hl : xs.length = ys.length) : ((List.range xs.length).all fun j => xs.getD j 0 == ys.getD j 0) = decide (xs = ys) := by
  rw [Bool.eq_iff_iff]
  simp only [List.all_eq_true, List.mem_range, beq_iff_eq, decide_eq_true_eq]
  constructor
  · intro h
    apply List.ext_getElem hl
    intro j h1 h2
    have := h j h1
    simpa [List.getD, h1, h2] using this
  · intro h j hj; rw [h]
/-- '!=' of two arrays of bytes. -/
theorem run_neq_arr (hu : P.underlying t = some (.array n e)) (hi : P.info? e = some i) (hc : P.cellsOf e = 1) (he : ∀ w, (isAgg e).run P w = .ok false w) (hb : P.underlying e = some (.int .u8)) (xs ys : List Int) (hx : xs.length = n) (hy : ys.length = n) (w : World) :
    (binOp .neq t (.agg (xs.map (Value.int .u8)).toArray) (.agg (ys.map (Value.int .u8)).toArray)).run P w = .ok (.bool (!decide (xs = ys))) w := by
  have h := run_equalIn_array (w := w) 9999 (xs.map (Value.int .u8)).toArray (ys.map (Value.int .u8)).toArray hu hi
  rw [hc, ← hx, eqItems_u8 he hb 9998 xs ys w (List.range xs.length) (fun j hj => by have := List.mem_range.1 hj; omega), all_eq xs ys (by omega)] at h
  simp only [binOp]
  simp [Op.equal, Op.maxDepth, h, Result.andThen]
end
end Go.Proofs.YtnmaknnnmjfhkagGreatDoor

namespace Go.Proofs.YtnmaknnnmjfhkagGreatDoor
open Go.RowKit
set_option linter.unusedVariables false
set_option linter.unusedSimpArgs false
set_option maxRecDepth 8000

theorem eqroot' (t h f l : Int) (w : World) : Calls Tryz.prog 166 #[.agg #[.int .i64 t, .int .i64 h, .int .i64 f, .int .i64 l], .agg #[.int .i64 t, .int .i64 h, .int .i64 f, .int .i64 l]] w fun e w' => e = .returned (.bool true) ∧ Below w.heap.size w w' := by
  go_enter Tryz.func166, Tryz.ntmps166
  go_wp2
  all_goals go_ret
  all_goals exact ⟨rfl, ((Below.refl _ _).alloc (Nat.le_refl _) _).alloc (by simp) _⟩

set_option maxHeartbeats 16000000 in
theorem eq_store (W S L T H F R U O : Int) (a b : Option Addr) (rs : List (ByteArray × ByteArray)) (c d : Nat) (w : World) (h1 : Prs w a rs) (h2 : Prs w b rs) (hl : rs.length ≤ 1048576) :
    Calls Tryz.prog 70 #[storeV W S L T H F R U O a rs.length c, storeV W S L T H F R U O b rs.length d] w fun e w' => e = .returned (.bool true) ∧ Below w.heap.size w w' := by
  unfold storeV
  have hb0 : ∀ o1 o2, Below w.heap.size w ((w.alloc o1).alloc o2) := fun o1 o2 => ((Below.refl _ _).alloc (Nat.le_refl _) _).alloc (by simp) _
  go_enter Tryz.func70, Tryz.ntmps70
  go_wp2_with (first | (go_at_call 166; refine (eqroot' T H F R _).mono ?_; rintro e w1 ⟨rfl, hb1⟩; have HB1 := hid ((hb0 _ _).trans (hb1.mono (by simp <;> omega))); have w1p7 : w1.cell? ⟨w.heap.size, 7, none⟩ = some (.int .i64 U) := (hb1.cell (p := ⟨w.heap.size, 7, none⟩) (by simp <;> omega)).trans (by go_simp); have w1p8 : w1.cell? ⟨w.heap.size, 8, none⟩ = some (.int .i64 O) := (hb1.cell (p := ⟨w.heap.size, 8, none⟩) (by simp <;> omega)).trans (by go_simp); have w1p9 : w1.cell? ⟨w.heap.size, 9, none⟩ = some (.slice a rs.length c) := (hb1.cell (p := ⟨w.heap.size, 9, none⟩) (by simp <;> omega)).trans (by go_simp); have w1q7 : w1.cell? ⟨w.heap.size + 1, 7, none⟩ = some (.int .i64 U) := (hb1.cell (p := ⟨w.heap.size + 1, 7, none⟩) (by simp <;> omega)).trans (by go_simp); have w1q8 : w1.cell? ⟨w.heap.size + 1, 8, none⟩ = some (.int .i64 O) := (hb1.cell (p := ⟨w.heap.size + 1, 8, none⟩) (by simp <;> omega)).trans (by go_simp); have w1q9 : w1.cell? ⟨w.heap.size + 1, 9, none⟩ = some (.slice b rs.length d) := (hb1.cell (p := ⟨w.heap.size + 1, 9, none⟩) (by simp <;> omega)).trans (by go_simp); clear hb1) | (go_at_call 167; refine (eq_state a b rs c d _ (h1.below HB1.out) (h2.below HB1.out) hl).mono ?_; rintro e w2 ⟨rfl, hb2⟩))
  go_ret
  exact ⟨rfl, HB1.out.trans (hb2.mono HB1.out.size)⟩
end Go.Proofs.YtnmaknnnmjfhkagGreatDoor

namespace Go.Proofs.YtnmaknnnmjfhkagGreatDoor
open Go.RowKit
set_option maxRecDepth 4000
set_option linter.unusedVariables false
set_option linter.unusedSimpArgs false

set_option maxHeartbeats 16000000 in
theorem held_prs (a : Option Addr) (n c k : Nat) (w : World) (h : OwnS w a (prcells (prmarks k n))) (hk : 0 < k) (hl : k + 2 * n ≤ 100000000) :
    Calls Tryz.prog 231 #[.slice a n c, .int .i64 (k : Int)] w fun e w' => e = .returned (.int .i64 ((k + 2 * n : Nat) : Int)) ∧ Below w.heap.size w w' := by
  rcases h with h | ⟨g, rfl, hrow⟩
  · have hn : n = 0 := by have := congrArg List.length h; rw [prcells_length, prmarks_length, List.length_nil] at this; omega
    subst hn
    go_enter Tryz.func231, Tryz.ntmps231
    go_wp2
    refine wp_loop_rounds 1 ?_
    rw [rounds_succ]
    go_wp2
    go_ret
    exact ⟨rfl, Below.refl _ _⟩
  · have HROW := hid hrow
    clear hrow
    go_enter Tryz.func231, Tryz.ntmps231
    go_wp2
    go_loopw [1, 5] (fun x i wr => ∃ j m : Nat, j ≤ n ∧ i = .int .i64 (j : Int) ∧ x = .int .i64 (m : Int) ∧ Hid (m = k + 2 * j) ∧ Below w.heap.size w wr) (fun _ i _ => n - (intOf i).toNat)
    case atStart => exact ⟨0, k, Nat.zero_le _, rfl, rfl, hid rfl, Below.refl _ _⟩
    case round =>
      obtain ⟨j, m, hj, rfl, rfl, HM, hbel⟩ := hrel
      have HR := hid (HROW.out.below hbel)
      have HB := hid hbel
      clear hbel
      by_cases hlt : j < n
      · have hmj : (m : Int) ≤ 99999998 := by have := HM.out; omega
        have hmj0 : (0 : Int) < (m : Int) := by have := HM.out; omega
        have hj0 : (0 : Int) ≤ (j : Int) := by omega
        have hj1 : (j : Int) < (n : Int) := by omega
        have hat := prcells_at (prmarks k n) j (by rw [prmarks_length]; exact hlt)
        have hgd : (prmarks k n).getD j (ByteArray.empty, ByteArray.empty) = prm m := by rw [HM.out]; simp [prmarks, List.getD, hlt]
        rw [hgd] at hat
        have HC : Hid (wr.cell? ⟨g, j * 2, none⟩ = some (.string (mtext m)) ∧ wr.cell? ⟨g, j * 2 + 1, none⟩ = some (.string (mtext (m + 1)))) := ⟨HR.out.cell _ _ hat.1, HR.out.cell _ _ hat.2⟩
        have lt1 : g < wr.heap.size := HR.out.lt
        clear hat hgd
        go_wp2_with fail
        go_region_held3 (fun w' => w'.cell? ⟨g, j * 2, none⟩ = some (.string (mtext m)) ∧ w'.cell? ⟨g, j * 2 + 1, none⟩ = some (.string (mtext (m + 1))))
          (first | assumption | exact HC.out | exact ⟨(hb2.cell (p := ⟨g, j * 2, none⟩) lt1).trans HC.out.1, (hb2.cell (p := ⟨g, j * 2 + 1, none⟩) lt1).trans HC.out.2⟩)
          (first | (go_at_call 170; refine (mark_text m _ (by omega) (by omega)).mono ?_; rintro e w2 ⟨rfl, hb2⟩))
        have HC2 : Hid (w2.cell? ⟨g, j * 2, none⟩ = some (.string (mtext m)) ∧ w2.cell? ⟨g, j * 2 + 1, none⟩ = some (.string (mtext (m + 1)))) := ⟨(hb2.cell (p := ⟨g, j * 2, none⟩) lt1).trans HC.out.1, (hb2.cell (p := ⟨g, j * 2 + 1, none⟩) lt1).trans HC.out.2⟩
        have lt2 : g < w2.heap.size := Nat.lt_of_lt_of_le lt1 hb2.size
        have HB2 := hid (HB.out.drew.trans (hb2.mono HB.out.size))
        clear hb2 lt1
        go_wp2_with fail
        go_region_held3 (fun w' => w'.cell? ⟨g, j * 2, none⟩ = some (.string (mtext m)) ∧ w'.cell? ⟨g, j * 2 + 1, none⟩ = some (.string (mtext (m + 1))))
          (first | assumption | exact HC2.out | exact ⟨(hb3.cell (p := ⟨g, j * 2, none⟩) lt2).trans HC2.out.1, (hb3.cell (p := ⟨g, j * 2 + 1, none⟩) lt2).trans HC2.out.2⟩)
          (first | (go_at_call 170; refine (mark_text' ((m : Int) + 1) (m + 1) (by omega) _ (by omega) (by omega)).mono ?_; rintro e w3 ⟨rfl, hb3⟩))
        have HB3 := hid (HB2.out.drew.trans (hb3.mono HB2.out.size))
        clear hb3 lt2
        go_wp2
        exact ⟨⟨j + 1, m + 2, by omega, by go_num, by go_num, by show _ = _; have := HM.out; omega, HB3.out⟩, by simp [intOf]; omega⟩
      · have hjl : Hid (j = n) := by show _ = _; omega
        go_wp2
        go_ret
        exact ⟨ret_int (by rw [HM.out, hjl.out]), HB.out⟩

set_option maxHeartbeats 16000000 in
theorem held_state (a : Option Addr) (n c k : Nat) (w : World) (h : OwnS w a (prcells (prmarks k n))) (hk : 0 < k) (hl : k + 2 * n ≤ 100000000) :
    Calls Tryz.prog 172 #[stV a n c, .int .i64 (k : Int)] w fun e w' => e = .returned (.int .i64 ((k + 2 * n : Nat) : Int)) ∧ Below w.heap.size w w' := by
  have hb0 : ∀ o, Below w.heap.size w (w.alloc o) := fun o => (Below.refl _ _).alloc (Nat.le_refl _) _
  have hkn : ¬ ((k + 2 * n : Nat) : Int) < 0 := by omega
  obtain ⟨m, HM⟩ : ∃ m, Hid (m = k + 2 * n) := ⟨_, hid rfl⟩
  have HP := hid (fun w' h' => held_prs a n c k w' h' hk hl)
  rw [← HM.out] at HP hkn ⊢
  go_enter Tryz.func172, Tryz.ntmps172
  go_wp2_with (go_at_call 231; refine (HP.out _ (h.below (hb0 _))).mono ?_; rintro e w1 ⟨rfl, hb1⟩)
  go_ret
  exact ⟨rfl, (hb0 _).trans (hb1.mono (by simp))⟩
end Go.Proofs.YtnmaknnnmjfhkagGreatDoor

namespace Go.Proofs.YtnmaknnnmjfhkagGreatDoor
open Go.RowKit
set_option linter.unusedVariables false
set_option linter.unusedSimpArgs false
set_option maxRecDepth 8000

set_option maxHeartbeats 16000000 in
theorem mark_store (W S L T H F R U O : Int) (a : Option Addr) (rs : List (ByteArray × ByteArray)) (c k : Nat) (w : World) (h : OwnS w a (prcells rs)) (hk : 0 < k) (hl : k + 2 * rs.length ≤ 100000000) :
    Calls Tryz.prog 76 #[storeV W S L T H F R U O a rs.length c, .int .i64 (k : Int)] w fun e w' => e = .returned (.int .i64 ((k + 2 * rs.length : Nat) : Int)) ∧ w.grownBy w' (blk a rs.length) ∧ OwnS w' a (prcells (prmarks k rs.length)) := by
  have hb0 : ∀ o, Below w.heap.size w (w.alloc o) := fun o => (Below.refl _ _).alloc (Nat.le_refl _) _
  have HMS := hid (fun w' h' => mark_state a rs c k w' h' hk hl)
  obtain ⟨m, HM⟩ : ∃ m, Hid (m = k + 2 * rs.length) := ⟨_, hid rfl⟩
  rw [← HM.out] at HMS ⊢
  unfold storeV
  go_enter Tryz.func76, Tryz.ntmps76
  go_wp2_with (go_at_call 171; refine (HMS.out _ (h.below (hb0 _))).mono ?_; rintro e w1 ⟨rfl, hg1, ho1⟩; have HG := hid (grown_trans (grown_of_below (blk a rs.length) (hb0 _)) hg1); have HO := hid ho1; clear hg1 ho1)
  go_ret
  exact ⟨rfl, HG.out, HO.out⟩

set_option maxHeartbeats 16000000 in
theorem held_store (W S L T H F R U O : Int) (a : Option Addr) (n c k : Nat) (w : World) (h : OwnS w a (prcells (prmarks k n))) (hk : 0 < k) (hl : k + 2 * n ≤ 100000000) :
    Calls Tryz.prog 78 #[storeV W S L T H F R U O a n c, .int .i64 (k : Int)] w fun e w' => e = .returned (.int .i64 ((k + 2 * n : Nat) : Int)) ∧ Below w.heap.size w w' := by
  have hb0 : ∀ o, Below w.heap.size w (w.alloc o) := fun o => (Below.refl _ _).alloc (Nat.le_refl _) _
  have HMS := hid (fun w' h' => held_state a n c k w' h' hk hl)
  obtain ⟨m, HM⟩ : ∃ m, Hid (m = k + 2 * n) := ⟨_, hid rfl⟩
  have hm0 : (0 : Int) ≤ (m : Int) := by omega
  rw [← HM.out] at HMS ⊢
  unfold storeV
  go_enter Tryz.func78, Tryz.ntmps78
  go_wp2_with (go_at_call 172; refine (HMS.out _ (h.below (hb0 _))).mono ?_; rintro e w1 ⟨rfl, hb1⟩)
  go_ret
  exact ⟨rfl, (hb0 _).trans (hb1.mono (by simp))⟩

end Go.Proofs.YtnmaknnnmjfhkagGreatDoor

namespace Go.Proofs.YtnmaknnnmjfhkagGreatDoor
open Go.RowKit
set_option maxRecDepth 4000
set_option linter.unusedVariables false
set_option linter.unusedSimpArgs false

theorem getxo {w : World} {g : Nat} {cs : List Value} (h : Row w g cs) (i : Nat) (hi : i < cs.length) : (∃ u, w.cell? ⟨g, i, none⟩ = some u) ∧ w.frozen? ⟨g, i, none⟩ = false := ⟨⟨_, h.cell i _ (List.getElem?_eq_getElem hi)⟩, h.froz i hi⟩
def opm (m : Nat) : Bool × Int × ByteArray := (decide (m % 3 = 0), ((m + 1 : Nat) : Int), mtext (m + 2))
def opmarks (k n : Nat) : List (Bool × Int × ByteArray) := (List.range n).map fun i => opm (k + 3 * i)
theorem opmarks_length (k n : Nat) : (opmarks k n).length = n := by simp [opmarks]
theorem opmarks_succ (k n : Nat) : opmarks k (n + 1) = opmarks k n ++ [opm (k + 3 * n)] := by simp [opmarks, List.range_succ]
def opmixed (k i : Nat) (rs : List (Bool × Int × ByteArray)) : List Value := opcells (opmarks k i ++ rs.drop i)
theorem opmixed_length (k i : Nat) (rs : List (Bool × Int × ByteArray)) (h : i ≤ rs.length) : (opmixed k i rs).length = rs.length * 3 := by simp [opmixed, opcells_length, opmarks_length]; omega
theorem opmixed_set (k i : Nat) (rs : List (Bool × Int × ByteArray)) (h : i < rs.length) : (((opmixed k i rs).set (i * 3) (.bool (decide ((k + 3 * i) % 3 = 0)))).set (i * 3 + 1) (.int .i64 ((k + 3 * i + 1 : Nat) : Int))).set (i * 3 + 2) (.string (mtext (k + 3 * i + 2))) = opmixed k (i + 1) rs := by
  have el : (opcells (opmarks k i)).length = i * 3 := by rw [opcells_length, opmarks_length]
  unfold opmixed
  rw [opmarks_succ, drop_at rs i (false, 0, ByteArray.empty) h, opcells_append, opcells_append, opcells_append, List.set_append_right _ _ (by omega), List.set_append_right _ _ (by omega), List.set_append_right _ _ (by omega), el]
  simp [opcells, opm]

set_option maxHeartbeats 16000000 in
theorem mark_ops (a : Option Addr) (rs : List (Bool × Int × ByteArray)) (c k : Nat) (w : World) (h : OwnS w a (opcells rs)) (hk : 0 < k) (hl : k + 3 * rs.length ≤ 100000000) :
    Calls Tryz.prog 77 #[.slice a rs.length c, .int .i64 (k : Int)] w fun e w' => e = .returned (.int .i64 ((k + 3 * rs.length : Nat) : Int)) ∧ w.grownBy w' (blk a rs.length) ∧ OwnS w' a (opcells (opmarks k rs.length)) := by
  by_cases hss : rs = []
  · skip
    subst hss
    go_enter Tryz.func77, Tryz.ntmps77
    go_wp2
    refine wp_loop_rounds 1 ?_
    rw [rounds_succ]
    go_wp2
    go_ret
    exact ⟨rfl, grown_refl _ _, .inl rfl⟩
  · obtain ⟨g, rfl, hrow⟩ := h.resolve_left (fun e => hss (by have := congrArg List.length e; rw [opcells_length, List.length_nil] at this; exact List.eq_nil_of_length_eq_zero (by omega)))
    rw [blk_pos g 0 rs.length (fun e => hss (List.eq_nil_of_length_eq_zero e))]
    have hr0 : Row w g (opmixed k 0 rs) := by simpa [opmixed, opmarks] using hrow
    clear hrow hss
    go_enter Tryz.func77, Tryz.ntmps77
    go_wp2
    go_loopw [1, 5] (fun x i wr => ∃ j m : Nat, j ≤ rs.length ∧ i = .int .i64 (j : Int) ∧ x = .int .i64 (m : Int) ∧ Hid (m = k + 3 * j) ∧ Row wr g (opmixed k j rs) ∧ w.grownBy wr (some g)) (fun _ i _ => rs.length - (intOf i).toNat)
    case atStart => exact ⟨0, k, Nat.zero_le _, rfl, rfl, hid rfl, hr0, grown_refl _ _⟩
    case round =>
      clear hr0
      obtain ⟨j, m, hj, rfl, rfl, HM, hrow, hgr⟩ := hrel
      have HR := hid hrow
      have HG := hid hgr
      clear hgr hrow
      by_cases hlt : j < rs.length
      · have HL := hid (opmixed_length k j rs hj)
        have hmj : (m : Int) ≤ 99999997 := by have := HM.out; omega
        have hmj0 : (0 : Int) < (m : Int) := by have := HM.out; omega
        have hgn : (((m : Int)) % 3 == 0) = decide (m % 3 = 0) := by rw [Bool.eq_iff_iff]; simp; omega
        obtain ⟨⟨u0, hu0⟩, hf0⟩ := getxo HR.out (j * 3) (by rw [HL.out]; omega)
        obtain ⟨⟨u1, hu1⟩, hf1⟩ := getxo HR.out (j * 3 + 1) (by rw [HL.out]; omega)
        have HR1 := hid ((HR.out.set (j * 3) (by rw [HL.out]; omega) (.bool (decide (m % 3 = 0)))).set (j * 3 + 1) (by rw [List.length_set, HL.out]; omega) (.int .i64 ((m : Int) + 1)))
        go_wp2_with (go_at_call 170; refine (mark_text' ((m : Int) + 1 + 1) (m + 2) (by omega) _ (by omega) (by omega)).mono ?_; rintro e w3 ⟨rfl, hb3⟩; (try rw [hgn] at hb3); have HR3 := hid (HR1.out.below hb3); have hu4 := getxo HR3.out (j * 3 + 2) (by rw [List.length_set, List.length_set, HL.out]; omega); obtain ⟨⟨u4, hu4⟩, hf4⟩ := hu4; have HG3 := hid (grown_trans (grown_set (grown_set HG.out _ _) _ _) (grown_of_below _ hb3)); clear hb3)
        have hset : (((opmixed k j rs).set (j * 3) (.bool (decide (m % 3 = 0)))).set (j * 3 + 1) (.int .i64 ((m : Int) + 1))).set (j * 3 + 2) (.string (mtext (m + 2))) = opmixed k (j + 1) rs := by
          rw [HM.out, ← opmixed_set k j rs hlt]; rfl
        refine ⟨⟨j + 1, m + 3, by omega, by go_num, by go_num, by show _ = _; have := HM.out; omega, ?_, grown_set HG3.out _ _⟩, by simp [intOf]; omega⟩
        rw [← hset]
        exact HR3.out.set (j * 3 + 2) (by rw [List.length_set, List.length_set, HL.out]; omega) _
      · have hjl : Hid (j = rs.length) := by show _ = _; omega
        go_wp2
        go_ret
        refine ⟨ret_int (by rw [HM.out, hjl.out]), HG.out, .inr ⟨g, rfl, ?_⟩⟩
        have := HR.out
        rw [hjl.out] at this
        simpa [opmixed] using this

end Go.Proofs.YtnmaknnnmjfhkagGreatDoor

namespace Go.Proofs.YtnmaknnnmjfhkagGreatDoor
open Go.RowKit
set_option maxRecDepth 4000
set_option linter.unusedVariables false
set_option linter.unusedSimpArgs false

set_option maxHeartbeats 16000000 in
theorem held_ops (a : Option Addr) (n c k : Nat) (w : World) (h : OwnS w a (opcells (opmarks k n))) (hk : 0 < k) (hl : k + 3 * n ≤ 100000000) :
    Calls Tryz.prog 79 #[.slice a n c, .int .i64 (k : Int)] w fun e w' => e = .returned (.int .i64 ((k + 3 * n : Nat) : Int)) ∧ Below w.heap.size w w' := by
  rcases h with h | ⟨g, rfl, hrow⟩
  · have hn : n = 0 := by have := congrArg List.length h; rw [opcells_length, opmarks_length, List.length_nil] at this; omega
    subst hn
    go_enter Tryz.func79, Tryz.ntmps79
    go_wp2
    refine wp_loop_rounds 1 ?_
    rw [rounds_succ]
    go_wp2
    go_ret
    exact ⟨rfl, Below.refl _ _⟩
  · have HROW := hid hrow
    clear hrow
    go_enter Tryz.func79, Tryz.ntmps79
    go_wp2
    go_loopw [1, 5] (fun x i wr => ∃ j m : Nat, j ≤ n ∧ i = .int .i64 (j : Int) ∧ x = .int .i64 (m : Int) ∧ Hid (m = k + 3 * j) ∧ Below w.heap.size w wr) (fun _ i _ => n - (intOf i).toNat)
    case atStart => exact ⟨0, k, Nat.zero_le _, rfl, rfl, hid rfl, Below.refl _ _⟩
    case round =>
      obtain ⟨j, m, hj, rfl, rfl, HM, hbel⟩ := hrel
      have HR := hid (HROW.out.below hbel)
      have HB := hid hbel
      clear hbel
      by_cases hlt : j < n
      · have hmj : (m : Int) ≤ 99999997 := by have := HM.out; omega
        have hmj0 : (0 : Int) < (m : Int) := by have := HM.out; omega
        have hj0 : (0 : Int) ≤ (j : Int) := by omega
        have hj1 : (j : Int) < (n : Int) := by omega
        have hat := opcells_at (opmarks k n) j (by rw [opmarks_length]; exact hlt)
        have hgd : (opmarks k n).getD j (false, 0, ByteArray.empty) = opm m := by rw [HM.out]; simp [opmarks, List.getD, hlt]
        rw [hgd] at hat
        obtain ⟨G, HGG⟩ : ∃ G, Hid (G = decide (m % 3 = 0)) := ⟨_, hid rfl⟩
        have hgn : (((m : Int)) % 3 == 0) = G := by rw [HGG.out, Bool.eq_iff_iff]; simp; omega
        have hc0 : wr.cell? ⟨g, j * 3, none⟩ = some (.bool G) := by rw [HGG.out]; exact HR.out.cell _ _ hat.1
        have hc1 : wr.cell? ⟨g, j * 3 + 1, none⟩ = some (.int .i64 ((m : Int) + 1)) := HR.out.cell _ _ hat.2.1
        have hc2 : wr.cell? ⟨g, j * 3 + 2, none⟩ = some (.string (mtext (m + 2))) := HR.out.cell _ _ hat.2.2
        have lt1 : g < wr.heap.size := HR.out.lt
        have hgq : (G != G) = false := by simp
        clear hat hgd
        go_wp2_with fail
        go_region_held3 (fun w' => w'.cell? ⟨g, j * 3 + 2, none⟩ = some (.string (mtext (m + 2))))
          (first | assumption | exact hc2 | exact (hb2.cell (p := ⟨g, j * 3 + 2, none⟩) lt1).trans hc2)
          (first | (go_at_call 170; refine (mark_text' ((m : Int) + 1 + 1) (m + 2) (by omega) _ (by omega) (by omega)).mono ?_; rintro e w2 ⟨rfl, hb2⟩))
        have HB2 := hid (HB.out.drew.trans (hb2.mono HB.out.size))
        clear hb2
        go_wp2
        exact ⟨⟨j + 1, m + 3, by omega, by go_num, by go_num, by show _ = _; have := HM.out; omega, HB2.out⟩, by simp [intOf]; omega⟩
      · have hjl : Hid (j = n) := by show _ = _; omega
        go_wp2
        go_ret
        exact ⟨ret_int (by rw [HM.out, hjl.out]), HB.out⟩
end Go.Proofs.YtnmaknnnmjfhkagGreatDoor

namespace Go.Proofs.YtnmaknnnmjfhkagGreatDoor
open Go.RowKit
set_option maxRecDepth 4000
set_option linter.unusedVariables false

set_option maxHeartbeats 16000000 in
theorem eq_op (g0 : Bool) (n1 : Int) (s2 : ByteArray) (w : World) :
    Calls Tryz.prog 168 #[.agg #[.bool g0, .int .i64 n1, .string s2], .agg #[.bool g0, .int .i64 n1, .string s2]] w fun e w' => e = .returned (.bool true) ∧ Below w.heap.size w w' := by
  go_enter Tryz.func168, Tryz.ntmps168
  go_wp2
  go_ret
  exact ⟨rfl, ((Below.refl _ _).alloc (Nat.le_refl _) _).alloc (by simp) _⟩

set_option maxHeartbeats 16000000 in
theorem eq_ops (a b : Option Addr) (rs : List (Bool × Int × ByteArray)) (c c' : Nat) (w : World) (h : Ops w a rs) (h' : Ops w b rs) (hl : rs.length ≤ 1048576) :
    Calls Tryz.prog 71 #[.slice a rs.length c, .slice b rs.length c'] w fun e w' => e = .returned (.bool true) ∧ Below w.heap.size w w' := by
  go_enter Tryz.func71, Tryz.ntmps71
  go_wp2
  go_loopw [5] (fun i wr => ∃ k : Nat, k ≤ rs.length ∧ i = .int .i64 k ∧ Below w.heap.size w wr) (fun i _ => rs.length - (intOf i).toNat)
  case atStart => exact ⟨0, Nat.zero_le _, rfl, Below.refl _ _⟩
  case round =>
    obtain ⟨k, hk, rfl, hbel⟩ := hrel
    by_cases hlt : k < rs.length
    · obtain ⟨b1, o1, g0, n1, s2, rfl, hc0, hc1, hc2, HS⟩ := (h.below hbel).at hlt
      obtain ⟨b2, o2, g0x, n1x, s2x, rfl, hd0, hd1, hd2, HS'⟩ := (h'.below hbel).at hlt
      obtain ⟨rfl, rfl, rfl⟩ : g0 = g0x ∧ n1 = n1x ∧ s2 = s2x := by have := HS.out.trans HS'.out.symm; simpa using this
      have hk1 : (k : Int) < (rs.length : Int) := by omega
      have hk0 : (0 : Int) ≤ (k : Int) := by omega
      have lt1 : b1 < wr.heap.size := by have := World.block_lt_of_cell? wr _ hc0; simpa using this
      have lt2 : b2 < wr.heap.size := by have := World.block_lt_of_cell? wr _ hd0; simpa using this
      have HQ : Hid (wr.cell? ⟨b1, o1 + k * 3, none⟩ = some (.bool g0) ∧ wr.cell? ⟨b1, o1 + k * 3 + 1, none⟩ = some (.int .i64 n1) ∧ wr.cell? ⟨b1, o1 + k * 3 + 2, none⟩ = some (.string s2) ∧ wr.cell? ⟨b2, o2 + k * 3, none⟩ = some (.bool g0) ∧ wr.cell? ⟨b2, o2 + k * 3 + 1, none⟩ = some (.int .i64 n1) ∧ wr.cell? ⟨b2, o2 + k * 3 + 2, none⟩ = some (.string s2)) := ⟨hc0, hc1, hc2, hd0, hd1, hd2⟩
      clear HS HS' hc0 hc1 hc2 hd0 hd1 hd2
      go_wp2_with fail
      go_region_held3 (fun w' => w'.cell? ⟨b1, o1 + k * 3, none⟩ = some (.bool g0) ∧ w'.cell? ⟨b1, o1 + k * 3 + 1, none⟩ = some (.int .i64 n1) ∧ w'.cell? ⟨b1, o1 + k * 3 + 2, none⟩ = some (.string s2) ∧ w'.cell? ⟨b2, o2 + k * 3, none⟩ = some (.bool g0) ∧ w'.cell? ⟨b2, o2 + k * 3 + 1, none⟩ = some (.int .i64 n1) ∧ w'.cell? ⟨b2, o2 + k * 3 + 2, none⟩ = some (.string s2))
        (first | assumption | exact HQ.out | exact ⟨(hb2.cell (p := ⟨b1, _, none⟩) lt1).trans HQ.out.1, (hb2.cell (p := ⟨b1, _, none⟩) lt1).trans HQ.out.2.1, (hb2.cell (p := ⟨b1, _, none⟩) lt1).trans HQ.out.2.2.1, (hb2.cell (p := ⟨b2, _, none⟩) lt2).trans HQ.out.2.2.2.1, (hb2.cell (p := ⟨b2, _, none⟩) lt2).trans HQ.out.2.2.2.2.1, (hb2.cell (p := ⟨b2, _, none⟩) lt2).trans HQ.out.2.2.2.2.2⟩)
        (first | (go_at_call 168; refine (eq_op g0 n1 s2 _).mono ?_; rintro e w2 ⟨rfl, hb2⟩))
      go_wp2
      go_roundw
      case rel => exact ⟨k + 1, by omega, by go_num, hbel.drew.trans (hb2.mono hbel.size)⟩
      case measure => simp [intOf]; omega
    · go_wp2
      go_ret
      exact ⟨rfl, hbel⟩
end Go.Proofs.YtnmaknnnmjfhkagGreatDoor

namespace Go.Proofs.YtnmaknnnmjfhkagGreatDoor
open Go.RowKit
set_option maxRecDepth 4000
set_option linter.unusedVariables false

def marks (k n : Nat) : List ByteArray := (List.range n).map fun i => mtext (k + i)
theorem marks_length (k n : Nat) : (marks k n).length = n := by simp [marks]
theorem marks_succ (k n : Nat) : marks k (n + 1) = marks k n ++ [mtext (k + n)] := by simp [marks, List.range_succ]
def mixed (k i : Nat) (ss : List ByteArray) : List Value := (marks k i ++ ss.drop i).map Value.string
theorem mixed_length (k i : Nat) (ss : List ByteArray) (h : i ≤ ss.length) : (mixed k i ss).length = ss.length := by simp [mixed, marks_length]; omega
theorem mixed_set (k i : Nat) (ss : List ByteArray) (h : i < ss.length) : (mixed k i ss).set i (.string (mtext (k + i))) = mixed k (i + 1) ss := by
  unfold mixed
  rw [marks_succ, drop_at ss i ByteArray.empty h, List.map_append, List.map_append, List.map_append, List.map_cons, List.set_append_right _ _ (by simp [marks_length])]
  simp [marks_length]
set_option maxHeartbeats 16000000 in
theorem mark_strs (a : Option Addr) (ss : List ByteArray) (c k : Nat) (w : World) (h : OwnS w a (ss.map Value.string)) (hk : 0 < k) (hl : k + ss.length ≤ 100000000) :
    Calls Tryz.prog 74 #[.slice a ss.length c, .int .i64 (k : Int)] w fun e w' => e = .returned (.int .i64 ((k + ss.length : Nat) : Int)) ∧ w.grownBy w' (blk a ss.length) ∧ OwnS w' a ((marks k ss.length).map Value.string) := by
  by_cases hss : ss = []
  · subst hss
    go_enter Tryz.func74, Tryz.ntmps74
    go_wp2
    refine wp_loop_rounds 1 ?_
    rw [rounds_succ]
    go_wp2
    go_ret
    exact ⟨rfl, grown_refl _ _, .inl rfl⟩
  · obtain ⟨g, rfl, hrow⟩ := h.resolve_left (by simpa using hss)
    rw [blk_pos g 0 ss.length (fun e => hss (List.eq_nil_of_length_eq_zero e))]
    have hr0 : Row w g (mixed k 0 ss) := by simpa [mixed, marks] using hrow
    clear hrow hss
    go_enter Tryz.func74, Tryz.ntmps74
    go_wp2
    go_loopw [1, 5] (fun x i wr => ∃ j : Nat, j ≤ ss.length ∧ i = .int .i64 (j : Int) ∧ x = .int .i64 ((k + j : Nat) : Int) ∧ Row wr g (mixed k j ss) ∧ w.grownBy wr (some g)) (fun _ i _ => ss.length - (intOf i).toNat)
    case atStart => exact ⟨0, Nat.zero_le _, rfl, rfl, hr0, grown_refl _ _⟩
    case round =>
      clear hr0
      obtain ⟨j, hj, rfl, rfl, hrow, hgr⟩ := hrel
      have HR := hid hrow
      have HG := hid hgr
      clear hrow hgr
      by_cases hlt : j < ss.length
      · have HL := hid (mixed_length k j ss hj)
        have hkj : ((k + j : Nat) : Int) ≤ 100000000 := by omega
        have hkj0 : (0 : Int) < ((k + j : Nat) : Int) := by omega
        go_wp2_with (go_at_call 170; refine (mark_text (k + j) _ (by omega) (by omega)).mono ?_; rintro e w2 ⟨rfl, hb2⟩; have hr2 := HR.out.below hb2; obtain ⟨u, hu⟩ : ∃ u, w2.cell? ⟨g, j, none⟩ = some u := ⟨_, hr2.cell j _ (List.getElem?_eq_getElem (by rw [HL.out]; omega))⟩; have hf := hr2.froz j (by rw [HL.out]; omega); have HR2 := hid hr2; have HB2 := hid hb2; clear hr2 hb2)
        go_roundw
        case rel => exact ⟨j + 1, by omega, by go_num, by go_num, by rw [← mixed_set k j ss hlt]; exact HR2.out.set j (by rw [HL.out]; omega) _, grown_set (grown_trans HG.out (grown_of_below _ HB2.out)) _ _⟩
        case measure => simp [intOf]; omega
      · have hjl : Hid (j = ss.length) := by show _ = _; omega
        go_wp2
        go_ret
        refine ⟨ret_int (by rw [hjl.out]), HG.out, .inr ⟨g, rfl, ?_⟩⟩
        have := HR.out
        rw [hjl.out] at this
        simpa [mixed] using this

end Go.Proofs.YtnmaknnnmjfhkagGreatDoor

namespace Go.Proofs.YtnmaknnnmjfhkagGreatDoor
open Go.RowKit
set_option maxRecDepth 4000
set_option linter.unusedVariables false

def wmarks (k n : Nat) : List (Int × ByteArray) := (List.range n).map fun i => (((k + 2 * i : Nat) : Int), mtext (k + 2 * i + 1))
theorem wmarks_length (k n : Nat) : (wmarks k n).length = n := by simp [wmarks]
theorem wmarks_succ (k n : Nat) : wmarks k (n + 1) = wmarks k n ++ [(((k + 2 * n : Nat) : Int), mtext (k + 2 * n + 1))] := by simp [wmarks, List.range_succ]
def wmixed (k i : Nat) (ws : List (Int × ByteArray)) : List Value := wcells (wmarks k i ++ ws.drop i)
theorem wmixed_length (k i : Nat) (ws : List (Int × ByteArray)) (h : i ≤ ws.length) : (wmixed k i ws).length = ws.length * 2 := by simp [wmixed, wcells_length, wmarks_length]; omega
theorem wmixed_set (k i : Nat) (ws : List (Int × ByteArray)) (h : i < ws.length) : ((wmixed k i ws).set (i * 2) (.int .i64 ((k + 2 * i : Nat) : Int))).set (i * 2 + 1) (.string (mtext (k + 2 * i + 1))) = wmixed k (i + 1) ws := by
  have el : (wcells (wmarks k i)).length = i * 2 := by rw [wcells_length, wmarks_length]
  unfold wmixed
  rw [wmarks_succ, drop_at ws i (0, ByteArray.empty) h, wcells_append, wcells_append, wcells_append, List.set_append_right _ _ (by omega), List.set_append_right _ _ (by omega), el]
  simp [wcells]

set_option maxHeartbeats 16000000 in
theorem mark_wrs (a : Option Addr) (ws : List (Int × ByteArray)) (c k : Nat) (w : World) (h : OwnS w a (wcells ws)) (hk : 0 < k) (hl : k + 2 * ws.length ≤ 100000000) :
    Calls Tryz.prog 75 #[.slice a ws.length c, .int .i64 (k : Int)] w fun e w' => e = .returned (.int .i64 ((k + 2 * ws.length : Nat) : Int)) ∧ w.grownBy w' (blk a ws.length) ∧ OwnS w' a (wcells (wmarks k ws.length)) := by
  by_cases hss : ws = []
  · skip
    subst hss
    go_enter Tryz.func75, Tryz.ntmps75
    go_wp2
    refine wp_loop_rounds 1 ?_
    rw [rounds_succ]
    go_wp2
    go_ret
    exact ⟨rfl, grown_refl _ _, .inl rfl⟩
  · obtain ⟨g, rfl, hrow⟩ := h.resolve_left (fun e => hss (by have := congrArg List.length e; rw [wcells_length, List.length_nil] at this; exact List.eq_nil_of_length_eq_zero (by omega)))
    rw [blk_pos g 0 ws.length (fun e => hss (List.eq_nil_of_length_eq_zero e))]
    have hr0 : Row w g (wmixed k 0 ws) := by simpa [wmixed, wmarks] using hrow
    clear hrow hss
    go_enter Tryz.func75, Tryz.ntmps75
    go_wp2
    go_loopw [1, 5] (fun x i wr => ∃ j m : Nat, j ≤ ws.length ∧ i = .int .i64 (j : Int) ∧ x = .int .i64 (m : Int) ∧ Hid (m = k + 2 * j) ∧ Row wr g (wmixed k j ws) ∧ w.grownBy wr (some g)) (fun _ i _ => ws.length - (intOf i).toNat)
    case atStart => exact ⟨0, k, Nat.zero_le _, rfl, rfl, hid rfl, hr0, grown_refl _ _⟩
    case round =>
      clear hr0
      obtain ⟨j, m, hj, rfl, rfl, HM, hrow, hgr⟩ := hrel
      have HR := hid hrow
      have HG := hid hgr
      clear hgr
      by_cases hlt : j < ws.length
      · have hL := wmixed_length k j ws hj
        obtain ⟨u, hu⟩ : ∃ u, wr.cell? ⟨g, j * 2, none⟩ = some u := ⟨_, hrow.cell (j * 2) _ (List.getElem?_eq_getElem (by omega))⟩
        have hf := hrow.froz (j * 2) (by omega)
        have HL := hid hL
        have hmj : (m : Int) ≤ 99999999 := by have := HM.out; omega
        have hmj0 : (0 : Int) < (m : Int) := by have := HM.out; omega
        have HR1 := hid (hrow.set (j * 2) (by omega) (.int .i64 (m : Int)))
        clear hL hrow
        go_wp2_with (go_at_call 170; refine (mark_text' ((m : Int) + 1) (m + 1) (by omega) _ (by omega) (by omega)).mono ?_; rintro e w2 ⟨rfl, hb2⟩; have hr2 := HR1.out.below hb2; obtain ⟨u2, hu2⟩ : ∃ u, w2.cell? ⟨g, j * 2 + 1, none⟩ = some u := ⟨_, hr2.cell (j * 2 + 1) _ (List.getElem?_eq_getElem (by rw [List.length_set, HL.out]; omega))⟩; have hf2 := hr2.froz (j * 2 + 1) (by rw [List.length_set, HL.out]; omega); have HR2 := hid hr2; have HB2 := hid hb2; clear hr2 hb2)
        have hset : ((wmixed k j ws).set (j * 2) (.int .i64 (m : Int))).set (j * 2 + 1) (.string (mtext (m + 1))) = wmixed k (j + 1) ws := by
          rw [HM.out]; exact wmixed_set k j ws hlt
        go_roundw
        case rel => exact ⟨j + 1, m + 2, by omega, by go_num, by go_num, by show _ = _; have := HM.out; omega, by rw [← hset]; exact HR2.out.set (j * 2 + 1) (by rw [List.length_set, HL.out]; omega) _, grown_set (grown_trans (grown_set HG.out _ _) (grown_of_below _ HB2.out)) _ _⟩
        case measure => simp [intOf]; omega
      · have hjl : Hid (j = ws.length) := by show _ = _; omega
        clear hrow
        go_wp2
        go_ret
        refine ⟨ret_int (by rw [HM.out, hjl.out]), HG.out, .inr ⟨g, rfl, ?_⟩⟩
        have := HR.out
        rw [hjl.out] at this
        simpa [wmixed] using this

set_option maxHeartbeats 16000000 in
theorem mark_disk (a : Option Addr) (ss : List ByteArray) (c : Nat) (a' : Option Addr) (ws : List (Int × ByteArray)) (c' k : Nat) (w : World) (h : OwnD w a ss a' ws) (hk : 0 < k) (hl : k + ss.length + 2 * ws.length ≤ 100000000) :
    Calls Tryz.prog 15 #[diskV a ss.length c a' ws.length c', .int .i64 (k : Int)] w fun e w' => e = .returned (.int .i64 ((k + ss.length + 2 * ws.length : Nat) : Int)) ∧ (∃ w1 w2, Below w.heap.size w w1 ∧ w1.grownBy w2 (blk a ss.length) ∧ w2.grownBy w' (blk a' ws.length)) ∧ OwnD w' a (marks k ss.length) a' (wmarks (k + ss.length) ws.length) := by
  have hb0 : ∀ o, Below w.heap.size w (w.alloc o) := fun o => (Below.refl _ _).alloc (Nat.le_refl _) _
  have l1 := h.s.lt ss.length strs_ne
  have l2 := h.p.lt ws.length wcells_ne
  go_enter Tryz.func15, Tryz.ntmps15
  go_wp2_with fail
  refine (mark_strs a ss c k _ (h.s.below (hb0 _)) hk (by omega)).mono ?_
  rintro e w1 ⟨rfl, hg1, ho1⟩
  have q1 : w1.cell? ⟨w.heap.size, 1, none⟩ = some (.slice a' ws.length c') := (World.cell?_of_block (a := ⟨w.heap.size, 1, none⟩) (hg1.block w.heap.size (by simp) (fun e => by have := l1 _ e.symm; omega))).trans (by go_simp)
  have hp1 : OwnS w1 a' (wcells ws) := (h.p.below (hb0 _)).grown hg1 (fun g hg hne => by
    rcases h.ne with h0 | h0 | h0
    · rw [h0]; simp
    · subst hg; rw [blk_pos g 0 _ (ne_of_wcells hne)] at h0; cases h0
    · subst hg; rw [blk_pos g 0 _ (ne_of_wcells hne)] at h0; exact fun e => h0 e.symm)
  have HG1 := hid hg1
  have HO1 := hid ho1
  obtain ⟨m, HM⟩ : ∃ m, Hid (m = k + ss.length) := ⟨_, hid rfl⟩
  rw [← HM.out]
  clear hg1 ho1
  go_wp2_with fail
  refine (mark_wrs a' ws c' m _ hp1 (by have := HM.out; omega) (by have := HM.out; omega)).mono ?_
  rintro e w2 ⟨rfl, hg2, ho2⟩
  clear q1 hp1
  have HG2 := hid hg2
  have HO2 := hid ho2
  clear hg2 ho2 l1 l2
  go_wp2
  go_ret
  refine ⟨ret_int (by have := HM.out; omega), ⟨_, w1, hb0 _, HG1.out, HG2.out⟩, ?_, ?_, ?_⟩
  · refine HO1.out.grown HG2.out (fun g hg hne => ?_)
    have hn1 : ss.length ≠ 0 := by have := ne_of_strs hne; rwa [marks_length] at this
    subst hg
    rcases h.ne with h0 | h0 | h0
    · rw [blk_pos g 0 _ hn1] at h0; cases h0
    · rw [h0]; simp
    · rwa [blk_pos g 0 _ hn1] at h0
  · rw [← HM.out]; exact HO2.out
  · rw [marks_length, wmarks_length]; exact h.ne

end Go.Proofs.YtnmaknnnmjfhkagGreatDoor

namespace Go.Proofs.YtnmaknnnmjfhkagGreatDoor
open Go.RowKit Go.ChangeShapes Go.WideShapes Go.Deep
section
variable {H : Type} {enc : TypeId × Value → H} {P : Program} {w : World} {base : Nat} {spare : Nat → Bool} {held : Bool}

theorem add_none {a : Addr} {i : Nat} {v : Value} (h : w.cell? (a.add i) = some v) (h0 : ∃ u, w.cell? (a.add 0) = some u) : ∃ b o, a = ⟨b, o, none⟩ := by
  obtain ⟨b, o, s⟩ := a
  obtain ⟨u, hu⟩ := h0
  have hs : s = none := by simpa [Addr.add] using World.cell?_spot hu
  exact ⟨b, o, by rw [hs]⟩
theorem add_mk (b o i : Nat) : (⟨b, o, none⟩ : Addr).add i = ⟨b, o + i, none⟩ := by unfold Addr.add; split <;> simp_all

theorem strs_of_trod {t e : TypeId} {fuel : Nat} {v : Value} {x : DataW H × List MemPlace} (ht : P.underlying t = some (.slice e)) (he : P.underlying e = some .string) (hc : P.cellsOf e = 1)
    (h : DataW.trod enc P w base spare held fuel t [v] = some x) : ∃ a ss c, v = .slice a ss.length c ∧ Strs w a ss ∧ ss.length ≤ maxLen ∧ ∀ s ∈ ss, s.size ≤ maxLen := by
  rcases open_strings ht he hc h with ⟨hcs, _⟩ | ⟨a, len, cap, ss, hcs, _, hl, hm, hz, _, hcell, hw⟩
  · simp at hcs
    exact ⟨none, [], 0, by simpa using hcs, .inl rfl, by simp, by simp⟩
  · simp at hcs
    have hlen : len ≤ ss.length := by rw [hz]; split <;> omega
    have e1 : (ss.take len).length = len := by simp; omega
    refine ⟨some a, ss.take len, cap, by rw [e1]; exact hcs, ?_, by omega, fun s hs => hw s (List.mem_of_mem_take hs)⟩
    by_cases h0 : len = 0
    · exact .inl (by subst h0; simp)
    · obtain ⟨b, o, rfl⟩ := add_none (hcell 0 (by omega)) ⟨_, hcell 0 (by omega)⟩
      have hb := World.block_lt_of_cell? w _ (hcell 0 (by omega))
      rw [add_mk] at hb
      refine .inr ⟨b, o, rfl, hb, fun i hi => ?_⟩
      have := hcell i (by omega)
      rw [add_mk] at this
      rw [this]
      have hi' : i < len := by omega
      simp [List.getD, List.getElem?_take_of_lt hi']

theorem wrs_of_trod {t e : TypeId} {f0 f1 : Field} {fuel : Nat} {v : Value} {x : DataW H × List MemPlace} (ht : P.underlying t = some (.slice e)) (he : P.underlying e = some (.struct #[f0, f1]))
    (ce : P.cellsOf e = 2) (o0 : f0.offset = 0) (o1 : f1.offset = 1) (c0 : P.cellsOf f0.type = 1) (c1 : P.cellsOf f1.type = 1) (t0 : P.underlying f0.type = some (.int .i64)) (t1 : P.underlying f1.type = some .string)
    (h : DataW.trod enc P w base spare held fuel t [v] = some x) : ∃ a ws c, v = .slice a ws.length c ∧ Wrs w a ws ∧ ws.length ≤ maxLen ∧ (∀ s ∈ ws, s.2.size ≤ maxLen) ∧ ∀ s ∈ ws, (Lit.int .i64 s.1).wf = true := by
  rcases open_slice_pairs ht he ce o0 o1 c0 c1 h with ⟨hcs, _⟩ | ⟨a, len, cap, m, n, V0, V1, D0, D1, P0, P1, hcs, _, hl, hm, hz, _, hcell⟩
  · simp at hcs
    exact ⟨none, [], 0, by simpa using hcs, .inl rfl, by simp, by simp, by simp⟩
  · simp at hcs
    have hlm : len ≤ m := by rw [hz]; split <;> omega
    have each : ∀ i, i < len → ∃ q : Int × ByteArray, w.cell? (a.add (i * 2)) = some (.int .i64 q.1) ∧ w.cell? (a.add (i * 2 + 1)) = some (.string q.2) ∧ q.2.size ≤ maxLen ∧ (Lit.int .i64 q.1).wf = true := by
      intro i hi
      obtain ⟨h1, h2, h3, h4⟩ := hcell i (by omega)
      obtain ⟨y, ey, _, wy⟩ := DataW.trod_int t0 h3
      obtain ⟨s, es, _, ws⟩ := DataW.trod_string t1 h4
      simp at ey es
      rw [ey] at h1
      rw [es] at h2
      exact ⟨(y, s), h1, h2, ws, wy⟩
    obtain ⟨q, hq⟩ := choose_lt each
    have e1 : ((List.range len).map q).length = len := by simp
    refine ⟨some a, (List.range len).map q, cap, by rw [e1]; exact hcs, ?_, by omega, fun s hs => ?_, fun s hs => ?_⟩
    · by_cases h0 : len = 0
      · exact .inl (by subst h0; simp)
      · have hq0 := (hq 0 (by omega)).1
        obtain ⟨b, o, rfl⟩ := add_none hq0 ⟨_, hq0⟩
        have hb := World.block_lt_of_cell? w _ hq0
        rw [add_mk] at hb
        refine .inr ⟨b, o, rfl, hb, fun i hi => ?_⟩
        rw [e1] at hi
        obtain ⟨h1, h2, _⟩ := hq i hi
        rw [add_mk] at h1 h2
        simp [List.getD, hi, h1, ← Nat.add_assoc] at h2 ⊢
        exact h2
    · obtain ⟨i, hi, rfl⟩ := List.mem_map.1 hs
      exact (hq i (by simpa using hi)).2.2.1
    · obtain ⟨i, hi, rfl⟩ := List.mem_map.1 hs
      exact (hq i (by simpa using hi)).2.2.2
end
end Go.Proofs.YtnmaknnnmjfhkagGreatDoor
