import Derived.Laws.BytesArg
import Derived.WalkKit
import Derived.OrdersHeld
import Derived.Deep.RegionHeld
import Derived.WalkSpells
import Derived.WalkLawsBesides
import Derived.Outline
import Derived.Test.YtnmaknnnmjfhkaeDoorProg
set_option maxHeartbeats 16000000
set_option maxRecDepth 8000
namespace Go.Proofs.YtnmaknnnmjfhkaeDoor
open Go.RowKit
def sh : Nat → Int → Int
  | 0, v => v
  | j + 1, v => sh j v / 256
theorem sh_bd (j : Nat) (v : Int) (h0 : 0 ≤ v) (h1 : v ≤ 18446744073709551615) : 0 ≤ sh j v ∧ sh j v ≤ 18446744073709551615 := by
  induction j with
  | zero => exact ⟨h0, h1⟩
  | succ j ih => unfold sh; omega
theorem sh_bd2 (j : Nat) (v : Int) (h0 : 0 ≤ v) (h1 : v ≤ 9223372036854775807) : 0 ≤ sh j v ∧ sh j v ≤ 9223372036854775807 := by
  induction j with
  | zero => exact ⟨h0, h1⟩
  | succ j ih => unfold sh; omega
def be (n : Nat) (v : Int) : List Int := (List.range n).map fun i => sh (n - 1 - i) v % 256
theorem be_length (n : Nat) (v : Int) : (be n v).length = n := by simp [be]
theorem be_succ (n : Nat) (v : Int) : be (n + 1) v = (sh n v % 256) :: be n v := by
  unfold be
  rw [List.range_succ_eq_map]
  simp only [List.map_cons, List.map_map, List.cons.injEq]
  refine ⟨by simp, ?_⟩
  apply List.map_congr_left
  intro i hi
  simp at hi
  simp only [Function.comp]
  rw [show n + 1 - 1 - (i + 1) = n - 1 - i by omega]
theorem be_get (n : Nat) (v : Int) (i : Nat) (h : i < n) : (be n v).getD i 0 = sh (n - 1 - i) v % 256 := by
  simp [be, List.getD, h]
theorem strOfNums_append (a b : List Int) : strOfNums (a ++ b) = strOfNums a ++ strOfNums b := by
  apply ByteArray.ext
  simp [strOfNums]
def fnvStep (x : Int) (c : UInt8) : Int := IntKind.u64.wrap (bits BinOp.xor IntKind.u64 x (IntKind.u64.wrap (c.toNat : Int)) * 1099511628211)
def fnv (l : List UInt8) : Int := l.foldl fnvStep 14695981039346656037
theorem wrap_u64_bd (x : Int) : 0 ≤ IntKind.u64.wrap x ∧ IntKind.u64.wrap x ≤ 18446744073709551615 := by
  simp [IntKind.wrap, IntKind.bits, IntKind.signed]
  omega
theorem wrap_u64_id (x : Int) (h0 : 0 ≤ x) (h1 : x ≤ 18446744073709551615) : IntKind.u64.wrap x = x := by
  simp [IntKind.wrap, IntKind.bits, IntKind.signed]
  omega
theorem fnv_snoc (l : List UInt8) (c : UInt8) : fnv (l ++ [c]) = fnvStep (fnv l) c := by simp [fnv]
theorem fnv_bd (l : List UInt8) : 0 ≤ fnv l ∧ fnv l ≤ 18446744073709551615 := by
  rcases List.eq_nil_or_concat l with rfl | ⟨l', c, rfl⟩
  · unfold fnv; simp
  · rw [List.concat_eq_append, fnv_snoc]; exact wrap_u64_bd _
theorem take_snoc (s : ByteArray) (k : Nat) (h : k < s.size) : s.data.toList.take (k + 1) = s.data.toList.take k ++ [s[k]] := by
  rw [List.take_succ_eq_append_getElem (by simpa using h)]; rfl
def sumN (s : ByteArray) (n : Nat) : ByteArray := strOfNums (be n (fnv s.data.toList))
theorem sumN_size (s : ByteArray) (n : Nat) : (sumN s n).size = n := by unfold sumN; rw [strOfNums_size, be_length]
theorem slice_arr_from {P : Program} {t e : TypeId} {L : Nat} (ht : P.underlying t = some (.array L e)) (hz : ∀ w, (sizeOf e).run P w = .ok 1 w) (b off l : Nat) (hl : l < L) (k : IntKind) (li : Int) (hli : li = (l : Int)) (w : World) :
    (Instr.sliceAt t (.pointer (some ⟨b, off, none⟩)) (some (.int k li)) none none).run P w = .ok (.slice (some ⟨b, off + l, none⟩) (L - l) (L - l)) w := by
  have e1 : P.arrayLen t = L := by simp [Program.arrayLen, ht]
  have e2 : P.elem t = e := by simp [Program.elem, ht]
  rw [run_sliceAt_array_l (P := P) w t ⟨b, off, none⟩ (by rw [e1, e2]; exact ht) k li (by omega) (by omega), e1, e2, hz, hli]
  have e3 : L ≠ l := by omega
  simp [slicedAt, e3, Addr.add]
theorem slice_arr_to {P : Program} {t e : TypeId} {L : Nat} (ht : P.underlying t = some (.array L e)) (hz : ∀ w, (sizeOf e).run P w = .ok 1 w) (b off h : Nat) (hL : 0 < L) (hl : h ≤ L) (k : IntKind) (li : Int) (hli : li = (h : Int)) (w : World) :
    (Instr.sliceAt t (.pointer (some ⟨b, off, none⟩)) none (some (.int k li)) none).run P w = .ok (.slice (some ⟨b, off, none⟩) h L) w := by
  have e1 : P.arrayLen t = L := by simp [Program.arrayLen, ht]
  have e2 : P.elem t = e := by simp [Program.elem, ht]
  rw [run_sliceAt_array_h (P := P) w t ⟨b, off, none⟩ (by rw [e1, e2]; exact ht) k li (by omega) (by omega), e1, e2, hz, hli]
  have e3 : L ≠ 0 := by omega
  simp [slicedAt, Addr.add]
theorem isEmpty_size (p : ByteArray) : p.toList.isEmpty = decide (p.size = 0) := by
  rw [ByteArray.toList_eq]
  have e : p.size = p.data.toList.length := rfl
  rw [e]
  cases p.data.toList <;> simp
def nums (p : ByteArray) : List Int := p.data.toList.map fun c => (c.toNat : Int)
theorem nums_length (p : ByteArray) : (nums p).length = p.size := by simp [nums]
theorem strOfNums_nums (p : ByteArray) : strOfNums (nums p) = p := by
  apply ByteArray.ext
  simp [strOfNums, nums, Function.comp_def]
def pageHead (k l m : Int) (p : ByteArray) : List Int := be 1 k ++ be 2 l ++ be 4 m ++ be 1 (p.size : Int) ++ nums p
theorem pageHead_length (k l m : Int) (p : ByteArray) : (pageHead k l m p).length = 8 + p.size := by
  simp [pageHead, be_length, nums_length]; omega
def pageBody (k l m : Int) (p : ByteArray) (n : Nat) : List Int := pageHead k l m p ++ List.replicate (56 - n - p.size) 0
theorem pageBody_length (k l m : Int) (p : ByteArray) (n : Nat) (h : p.size + n ≤ 56) : (pageBody k l m p n).length = 64 - n := by
  simp [pageBody, pageHead_length]; omega
def pageForm (k l m : Int) (p : ByteArray) (n : Nat) : ByteArray := sumN (strOfNums (pageBody k l m p n)) n ++ strOfNums (pageBody k l m p n)
theorem pageForm_size (k l m : Int) (p : ByteArray) (n : Nat) (h : p.size + n ≤ 56) : (pageForm k l m p n).size = 64 := by
  unfold pageForm
  rw [ByteArray.size_append, sumN_size, strOfNums_size, pageBody_length k l m p n h]
  omega
structure Wrote (w w' : World) (b off : Nat) (xs : List Int) : Prop where
  os : w'.os = w.os
  tape : w'.tape = w.tape
  output : w'.output = w.output
  size : w'.heap.size = w.heap.size
  others : ∀ k, k ≠ b → w'.heap[k]? = w.heap[k]?
  inside : ∀ i, i < xs.length → w'.cell? ⟨b, off + i, none⟩ = some (.int .u8 (xs.getD i 0))
  outside : ∀ o, (o < off ∨ off + xs.length ≤ o) → w'.cell? ⟨b, o, none⟩ = w.cell? ⟨b, o, none⟩
  frozen : ∀ a, w'.frozen? a = w.frozen? a
theorem Wrote.refl (w : World) (b off : Nat) : Wrote w w b off [] := ⟨rfl, rfl, rfl, rfl, fun _ _ => rfl, fun i h => by simp at h, fun _ _ => rfl, fun _ => rfl⟩
theorem Wrote.below {w w' : World} {b off : Nat} {xs : List Int} (h : Wrote w w' b off xs) {B : Nat} (hB : B ≤ b) : Below B w w' :=
  ⟨h.os, h.tape, h.output, by rw [h.size]; exact Nat.le_refl _, fun k hk => h.others k (by omega)⟩
theorem Wrote.step {w w' : World} {b off : Nat} {xs : List Int} (h : Wrote w w' b (off + 1) xs) (n : Int) {u : Value} (hc : w.cell? ⟨b, off, none⟩ = some u) : Wrote w (w'.setCell ⟨b, off, none⟩ (.int .u8 n)) b off (n :: xs) := by
  have hc' : w'.cell? ⟨b, off, none⟩ = some u := (h.outside off (.inl (by omega))).trans hc
  refine ⟨h.os, h.tape, h.output, ?_, fun k hk => ?_, fun i hi => ?_, fun o ho => ?_, fun a => ?_⟩
  · rw [← h.size]; simp [World.setCell]
  · rw [Below.heap_setCell _ _ _ _ hk]; exact h.others k hk
  · cases i with
    | zero => simpa using World.cell?_setCell_same w' ⟨b, off, none⟩ (.int .u8 n) hc'
    | succ i =>
      rw [World.cell?_setCell_other (w := w') (h := show (⟨b, off, none⟩ : Addr) ≠ ⟨b, off + (i + 1), none⟩ by simp)]
      have := h.inside i (by simpa using hi)
      rw [show off + (i + 1) = off + 1 + i by omega, this]
      simp
  · simp only [List.length_cons] at ho
    rw [World.cell?_setCell_other (w := w') (h := show (⟨b, off, none⟩ : Addr) ≠ ⟨b, o, none⟩ by simp <;> omega)]
    exact h.outside o (by omega)
  · rw [World.frozen?_setCell]; exact h.frozen a
end Go.Proofs.YtnmaknnnmjfhkaeDoor

namespace Go.Proofs.YtnmaknnnmjfhkaeDoor
open Go.RowKit
set_option linter.unusedVariables false
/-- What a put into a frame that is written out comes to. -/
theorem PS : (∀ (a : Act) (t : Nat) (v : Value), a.put (some t) v = { a with tmps := a.tmps.setIfInBounds t v }) ∧ (∀ (a : Act) (v : Value), a.put none v = a) ∧ (∀ (l : List Value) (i : Nat) (v : Value), l.toArray.setIfInBounds i v = (l.set i v).toArray) ∧ (∀ (x y : Value) (l : List Value), (x :: l).set 0 y = y :: l) ∧ (∀ (x y : Value) (l : List Value) (n : Nat), (x :: l).set (n + 1) y = x :: l.set n y) ∧ (∀ (l : List Oper) (i : Nat) (h : i < l.toArray.size), l.toArray[i] = l[i]'(by simpa using h)) ∧ (∀ (x : Oper) (l : List Oper) (h : 0 < (x :: l).length), (x :: l)[0]'h = x) ∧ (∀ (x : Oper) (l : List Oper) (i : Nat) (h : i + 1 < (x :: l).length), (x :: l)[i + 1]'h = l[i]'(by simpa using h)) :=
  ⟨fun _ _ _ => rfl, fun _ _ => rfl, fun _ _ _ => by simp, fun _ _ _ => rfl, fun _ _ _ _ => rfl, fun _ _ _ => by simp, fun _ _ _ => rfl, fun _ _ _ _ => rfl⟩
/-- 'wpAnyH_take' with what the kernel reckons left to itself. -/
theorem TK {P : Program} {ops : Array Oper} {Q : Exit → Act → World → Prop} {md : Region.Mode} {S : World → Prop} {i : Nat} {oi : Oper} {v : Value} {fuel : Nat} {listed : Array Bool} {a : Act} {w : World} (hi : ops[i]? = some oi) (hy : YieldsIf P ops S oi v a) (hS : S w)
    (h : wpAnyH P md ops Q S fuel (listed.setIfInBounds i true) (a.put oi.dst v) w) (hs : Region.noSelect ops = true := by kernel_rfl) (hf : Region.free md ops listed i = true := by kernel_rfl) (hr : (Region.ready md ops listed).contains i = true := by kernel_rfl)
    (hQ : ∀ c a w, Q (.panic c) (a.put oi.dst v) w → Q (.panic c) a w := by exact fun _ _ _ h => h) : wpAnyH P md ops Q S (fuel + 1) listed a w := wpAnyH_take hi hs hf hr hQ hy hS h
end Go.Proofs.YtnmaknnnmjfhkaeDoor

namespace Go.Proofs.YtnmaknnnmjfhkaeDoor
open Go.RowKit
set_option maxRecDepth 4000
theorem ret_str {a b : ByteArray} (h : a = b) : Ending.returned (.string a) = .returned (.string b) := by rw [h]
theorem bytes1 (w : World) (n : Int) : (convert 22 9 (.slice (some ⟨w.heap.size, 0, none⟩) 1 1)).run Tryd.prog (w.alloc (.cells #[.int .u8 n] 5)) = .ok (.string (strOfNums [n])) (w.alloc (.cells #[.int .u8 n] 5)) :=
  run_convert_bytes_arg (P := Tryd.prog) _ 22 5 Tryd.underlying22 Tryd.underlying5 w.heap.size 0 1 1 [n] rfl (fun i hi => by
    have : i = 0 := by omega
    subst this; simp) 9 Tryd.underlying9
end Go.Proofs.YtnmaknnnmjfhkaeDoor

namespace Go.Proofs.YtnmaknnnmjfhkaeDoor
open Go.RowKit
set_option maxRecDepth 4000
theorem width_s (n : Int) (w : World) : Calls Tryd.prog 34 #[.int .i64 n] w fun e w' => e = .returned (.bool (decide (1 ≤ n ∧ n ≤ 8))) ∧ w' = w := by
  by_cases h1 : 1 ≤ n
  · by_cases h2 : n ≤ 8
    · go_enter Tryd.func34, Tryd.ntmps34
      go_wp2
      go_ret
      exact ⟨by simp [h1, h2], rfl⟩
    · go_enter Tryd.func34, Tryd.ntmps34
      go_wp2
      go_ret
      exact ⟨by simp [h2], rfl⟩
  · go_enter Tryd.func34, Tryd.ntmps34
    go_wp2
    go_ret
    exact ⟨by simp; omega, rfl⟩
theorem width_i (n : Int) (w : World) : Calls Tryd.prog 37 #[.int .i64 n] w fun e w' => e = .returned (.bool (decide (1 ≤ n ∧ n ≤ 8))) ∧ w' = w := by
  by_cases h1 : 1 ≤ n
  · by_cases h2 : n ≤ 8
    · go_enter Tryd.func37, Tryd.ntmps37
      go_wp2
      go_ret
      exact ⟨by simp [h1, h2], rfl⟩
    · go_enter Tryd.func37, Tryd.ntmps37
      go_wp2
      go_ret
      exact ⟨by simp [h2], rfl⟩
  · go_enter Tryd.func37, Tryd.ntmps37
    go_wp2
    go_ret
    exact ⟨by simp; omega, rfl⟩
end Go.Proofs.YtnmaknnnmjfhkaeDoor

namespace Go.Proofs.YtnmaknnnmjfhkaeDoor
open Go.RowKit
set_option maxRecDepth 4000
set_option maxHeartbeats 16000000 in
theorem sum_s (s : ByteArray) (w : World) (n : Nat) (hs : s.size ≤ 1048576) (h1 : 1 ≤ n) (h2 : n ≤ 8) :
    Calls Tryd.prog 72 #[.string s, .int .i64 (n : Int)] w fun e w' => e = .returned (.string (sumN s n)) ∧ Below w.heap.size w w' := by
  have hb1 := bytes1
  have h1' : (1 : Int) ≤ (n : Int) := by omega
  have h2' : (n : Int) ≤ 8 := by omega
  go_enter Tryd.func72, Tryd.ntmps72
  go_wp2
  go_loop [5, 6] (fun v i => ∃ k : Nat, k ≤ s.size ∧ i = .int .i64 k ∧ v = .int .u64 (fnv (s.data.toList.take k))) (fun _ i => s.size - (intOf i).toNat)
  case atStart => exact ⟨0, Nat.zero_le _, rfl, rfl⟩
  case round =>
    obtain ⟨k, hk, rfl, rfl⟩ := hrel
    by_cases hlt : k < s.size
    · have HS : Hid (fnv (s.data.toList.take (k + 1)) = fnvStep (fnv (s.data.toList.take k)) s[k]) := by show _ = _; rw [take_snoc s k hlt, fnv_snoc]
      go_wp2
      go_round
      case rel => exact ⟨k + 1, by omega, by go_num, by rw [HS.out]; rfl⟩
      case measure => simp [intOf]; omega
    · have hke : s.data.toList.take k = s.data.toList := List.take_of_length_le (by simp; omega)
      have HV : Hid (fnv (s.data.toList.take k) = fnv s.data.toList) := by show _ = _; rw [hke]
      clear hke
      obtain ⟨x, HX⟩ : ∃ x, Hid (x = fnv s.data.toList) := ⟨fnv s.data.toList, (rfl : fnv s.data.toList = fnv s.data.toList)⟩
      rw [HV.out, ← HX.out]
      have hx : 0 ≤ x ∧ x ≤ 18446744073709551615 := by rw [HX.out]; exact fnv_bd _
      go_wp2
      go_loopw [5, 7, 8] (fun v o i wr => ∃ k : Nat, k ≤ n ∧ i = .int .i64 k ∧ o = .string (strOfNums (be k x)) ∧ v = .int .u64 (sh k x) ∧ Below w.heap.size w wr) (fun _ _ i _ => n - (intOf i).toNat)
      case atStart => exact ⟨0, Nat.zero_le _, rfl, rfl, rfl, Below.refl _ _⟩
      case round =>
        obtain ⟨k, hk, rfl, rfl, rfl, hbel⟩ := hrel
        have hsb := sh_bd k x hx.1 hx.2
        by_cases hlt : k < n
        · have hz1 : (strOfNums [sh k x % 256]).size ≤ 1 := by rw [strOfNums_size]; simp
          have hz2 : (strOfNums (be k x)).size ≤ 8 := by rw [strOfNums_size, be_length]; omega
          go_wp2
          go_roundw
          case rel => exact ⟨k + 1, by omega, by go_num, by rw [be_succ, ← strOfNums_append]; rfl, rfl, hbel.alloc hbel.size _⟩
          case measure => simp [intOf]; omega
        · have hkn : k = n := by omega
          subst hkn
          go_wp2
          go_ret
          exact ⟨ret_str (by unfold sumN; rw [HX.out]), hbel⟩
set_option maxHeartbeats 16000000 in
theorem put_any (b off n cap : Nat) (x : Int) (w : World) (hn : n ≤ 64) (hx0 : 0 ≤ x) (hx1 : x ≤ 18446744073709551615)
    (hc : ∀ i, i < n → ∃ u, w.cell? ⟨b, off + i, none⟩ = some (.int .u8 u)) (hf : ∀ i, i < n → w.frozen? ⟨b, off + i, none⟩ = false) :
    Calls Tryd.prog 79 #[.slice (some ⟨b, off, none⟩) n cap, .int .u64 x] w fun e w' => e = .returned (.tuple #[]) ∧ Wrote w w' b off (be n x) := by
  go_enter Tryd.func79, Tryd.ntmps79
  go_wp2
  go_loopw [1, 4] (fun v i wr => ∃ k : Nat, k ≤ n ∧ i = .int .i64 ((n : Int) - 1 - k) ∧ v = .int .u64 (sh k x) ∧ Wrote w wr b (off + (n - k)) (be k x)) (fun _ i _ => (intOf i + 1).toNat)
  case atStart => exact ⟨0, Nat.zero_le _, by simp, rfl, by simpa [be] using Wrote.refl w b (off + n)⟩
  case round =>
    obtain ⟨k, hk, rfl, rfl, hwr⟩ := hrel
    have hsb := sh_bd k x hx0 hx1
    by_cases hlt : k < n
    · obtain ⟨u, hu⟩ := hc (n - 1 - k) (by omega)
      have hu' : wr.cell? ⟨b, off + (n - 1 - k), none⟩ = some (.int .u8 u) := (hwr.outside _ (.inl (by omega))).trans hu
      have hf' : wr.frozen? ⟨b, off + (n - 1 - k), none⟩ = false := (hwr.frozen _).trans (hf _ (by omega))
      go_wp2
      go_roundw
      case rel =>
        have hst := Wrote.step (off := off + (n - 1 - k)) (xs := be k x) (by rw [show off + (n - 1 - k) + 1 = off + (n - k) by omega]; exact hwr) (sh k x % 256) hu
        exact ⟨k + 1, by omega, by go_num, rfl, by rw [be_succ, show n - (k + 1) = n - 1 - k by omega]; exact hst⟩
      case measure => simp [intOf]; omega
    · have hkn : k = n := by omega
      subst hkn
      go_wp2
      go_end0
      exact ⟨rfl, by simpa using hwr⟩
set_option maxHeartbeats 16000000 in
theorem sum_i (s : ByteArray) (w : World) (n : Nat) (hs : s.size ≤ 1048576) (h1 : 1 ≤ n) (h2 : n ≤ 8) :
    Calls Tryd.prog 80 #[.string s, .int .i64 (n : Int)] w fun e w' => e = .returned (.string (sumN s n)) ∧ Below w.heap.size w w' := by
  have h1' : (1 : Int) ≤ (n : Int) := by omega
  have h2' : (n : Int) ≤ 8 := by omega
  go_enter Tryd.func80, Tryd.ntmps80
  go_wp2
  go_loop [5, 6] (fun v i => ∃ k : Nat, k ≤ s.size ∧ i = .int .i64 k ∧ v = .int .u64 (fnv (s.data.toList.take k))) (fun _ i => s.size - (intOf i).toNat)
  case atStart => exact ⟨0, Nat.zero_le _, rfl, rfl⟩
  case round =>
    obtain ⟨k, hk, rfl, rfl⟩ := hrel
    by_cases hlt : k < s.size
    · have HS : Hid (fnv (s.data.toList.take (k + 1)) = fnvStep (fnv (s.data.toList.take k)) s[k]) := by show _ = _; rw [take_snoc s k hlt, fnv_snoc]
      go_wp2
      go_round
      case rel => exact ⟨k + 1, by omega, by go_num, by rw [HS.out]; rfl⟩
      case measure => simp [intOf]; omega
    · have hke : s.data.toList.take k = s.data.toList := List.take_of_length_le (by simp; omega)
      have HV : Hid (fnv (s.data.toList.take k) = fnv s.data.toList) := by show _ = _; rw [hke]
      clear hke
      obtain ⟨x, HX⟩ : ∃ x, Hid (x = fnv s.data.toList) := ⟨fnv s.data.toList, (rfl : fnv s.data.toList = fnv s.data.toList)⟩
      rw [HV.out, ← HX.out]
      have hx : 0 ≤ x ∧ x ≤ 18446744073709551615 := by rw [HX.out]; exact fnv_bd _
      go_wp2_with fail
      refine (put_any w.heap.size 0 8 8 x _ (by omega) hx.1 hx.2 ?hc ?hf).mono ?_
      case hc => intro i hi; have : i = 0 ∨ i = 1 ∨ i = 2 ∨ i = 3 ∨ i = 4 ∨ i = 5 ∨ i = 6 ∨ i = 7 := by omega
                 rcases this with rfl | rfl | rfl | rfl | rfl | rfl | rfl | rfl <;> exact ⟨0, by simp⟩
      case hf => intro i hi; simp
      rintro e w1 ⟨rfl, hw1⟩
      have hbw : Below w.heap.size w w1 := ((Below.refl _ _).alloc (Nat.le_refl _) _).trans (hw1.below (Nat.le_refl _))
      have hcv := fun cap => run_convert_bytes_arg (P := Tryd.prog) w1 22 5 Tryd.underlying22 Tryd.underlying5 w.heap.size (8 - n) n cap (be n x) (be_length n x) (fun i hi => by
        have h := hw1.inside (8 - n + i) (by rw [be_length]; omega)
        rw [be_get _ _ _ (by omega)] at h
        rw [be_get _ _ _ (by omega), show n - 1 - i = 8 - 1 - (8 - n + i) by omega]
        simpa using h) 9 Tryd.underlying9
      clear hw1
      have hsl := fun wx => slice_arr_from (P := Tryd.prog) (t := 152) Tryd.underlying152 (fun _ => by kernel_rfl) w.heap.size 0 (8 - n) (by omega) .i64 (8 - (n : Int)) (by omega) wx
      rw [show 8 - (8 - n) = n by omega, Nat.zero_add] at hsl
      go_wp2
      go_ret
      exact ⟨ret_str (by unfold sumN; rw [HX.out]), hbw⟩
end Go.Proofs.YtnmaknnnmjfhkaeDoor
