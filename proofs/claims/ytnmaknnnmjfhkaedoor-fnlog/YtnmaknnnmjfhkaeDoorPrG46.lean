import Derived.Test.YtnmaknnnmjfhkaeDoorPrG33
import Derived.Test.YtnmaknnnmjfhkaeDoorPrG31
import Derived.Laws.Bits64b
import Derived.SliceStrings
import Derived.Deep.SlicePairs
import Derived.ProofKit
import Derived.ChangeOld
import Derived.Test.YtnmaknnnmjfhkaeDoorPrG32
set_option maxHeartbeats 16000000
set_option maxRecDepth 8000
namespace Go.Proofs.YtnmaknnnmjfhkaeDoor
open Go.RowKit
def Ops (w : World) (a : Option Addr) (rs : List (Bool × Int × ByteArray)) : Prop :=
  rs = [] ∨ ∃ b o, a = some ⟨b, o, none⟩ ∧ b < w.heap.size ∧ ∀ i, i < rs.length → w.cell? ⟨b, o + i * 3, none⟩ = some (.bool (rs.getD i (false, 0, ByteArray.empty)).1) ∧ w.cell? ⟨b, o + i * 3 + 1, none⟩ = some (.int .i64 (rs.getD i (false, 0, ByteArray.empty)).2.1) ∧ w.cell? ⟨b, o + i * 3 + 2, none⟩ = some (.string (rs.getD i (false, 0, ByteArray.empty)).2.2)
theorem Ops.below {w w' : World} {a : Option Addr} {rs : List (Bool × Int × ByteArray)} (h : Ops w a rs) (hb : Below w.heap.size w w') : Ops w' a rs := by
  rcases h with h | ⟨b, o, h1, h2, h3⟩
  · exact .inl h
  · exact .inr ⟨b, o, h1, Nat.lt_of_lt_of_le h2 hb.size, fun i hi => ⟨(hb.cell (p := ⟨b, o + i * 3, none⟩) h2).trans (h3 i hi).1, (hb.cell (p := ⟨b, o + i * 3 + 1, none⟩) h2).trans (h3 i hi).2.1, (hb.cell (p := ⟨b, o + i * 3 + 2, none⟩) h2).trans (h3 i hi).2.2⟩⟩
theorem Ops.at {w : World} {a : Option Addr} {rs : List (Bool × Int × ByteArray)} (h : Ops w a rs) {k : Nat} (hk : k < rs.length) : ∃ b o g0 n1 s2, a = some ⟨b, o, none⟩ ∧ w.cell? ⟨b, o + k * 3, none⟩ = some (.bool g0) ∧ w.cell? ⟨b, o + k * 3 + 1, none⟩ = some (.int .i64 n1) ∧ w.cell? ⟨b, o + k * 3 + 2, none⟩ = some (.string s2) ∧ Hid ((g0, n1, s2) = rs.getD k (false, 0, ByteArray.empty)) := by
  rcases h with h | ⟨b, o, h1, h2, h3⟩
  · subst h; simp at hk
  · exact ⟨b, o, _, _, _, h1, (h3 k hk).1, (h3 k hk).2.1, (h3 k hk).2.2, hid rfl⟩
def opcells (rs : List (Bool × Int × ByteArray)) : List Value := rs.flatMap fun x => [.bool x.1, .int .i64 x.2.1, .string x.2.2]
theorem opcells_at : ∀ (rs : List (Bool × Int × ByteArray)) (i : Nat), i < rs.length → (opcells rs)[i * 3]? = some (.bool (rs.getD i (false, 0, ByteArray.empty)).1) ∧ (opcells rs)[i * 3 + 1]? = some (.int .i64 (rs.getD i (false, 0, ByteArray.empty)).2.1) ∧ (opcells rs)[i * 3 + 2]? = some (.string (rs.getD i (false, 0, ByteArray.empty)).2.2)
  | x :: r, 0, _ => by simp [opcells]
  | x :: r, i + 1, h => by
    have ih := opcells_at r i (by simpa using h)
    have e : opcells (x :: r) = .bool x.1 :: .int .i64 x.2.1 :: .string x.2.2 :: opcells r := by simp [opcells]
    rw [e, show (i + 1) * 3 = i * 3 + 3 by omega]
    simpa using ih
theorem Row.ops {w : World} {g : Nat} {rs : List (Bool × Int × ByteArray)} (h : Row w g (opcells rs)) : Ops w (some ⟨g, 0, none⟩) rs :=
  .inr ⟨g, 0, rfl, h.lt, fun i hi => by
    rw [Nat.zero_add]
    exact ⟨h.cell _ _ (opcells_at rs i hi).1, h.cell _ _ (opcells_at rs i hi).2.1, h.cell _ _ (opcells_at rs i hi).2.2⟩⟩
end Go.Proofs.YtnmaknnnmjfhkaeDoor

namespace Go.Proofs.YtnmaknnnmjfhkaeDoor
structure Wr (p : Prop) : Prop where
  out : p
end Go.Proofs.YtnmaknnnmjfhkaeDoor

namespace Go.Proofs.YtnmaknnnmjfhkaeDoor
open Go.RowKit
set_option linter.unusedVariables false
structure Dep (w : World) (lo hi : Nat) (F : World → Prop) : Prop where
  now : F w
  top : hi ≤ w.heap.size
  keep : ∀ w' : World, (∀ b, lo ≤ b → b < hi → w'.heap[b]? = w.heap[b]?) → hi ≤ w'.heap.size → F w'
theorem Dep.below {w w' : World} {lo hi : Nat} {F : World → Prop} (h : Dep w lo hi F) (hb : Below w.heap.size w w') : Dep w' lo hi F :=
  ⟨h.keep w' (fun b _ h2 => hb.block b (Nat.lt_of_lt_of_le h2 h.top)) (Nat.le_trans h.top hb.size), Nat.le_trans h.top hb.size, fun w2 h2 h3 => h.keep w2 (fun b h4 h5 => (h2 b h4 h5).trans (hb.block b (Nat.lt_of_lt_of_le h5 h.top))) h3⟩
theorem Dep.grown {w w' : World} {lo hi : Nat} {F : World → Prop} {r : Option Nat} (h : Dep w lo hi F) (hg : w.grownBy w' r) (hr : ∀ g, r = some g → g < lo ∨ hi ≤ g) : Dep w' lo hi F := by
  have key : ∀ b, lo ≤ b → b < hi → w'.heap[b]? = w.heap[b]? := fun b h1 h2 => hg.block b (Nat.lt_of_lt_of_le h2 h.top) (fun e => by have := hr b e.symm; omega)
  exact ⟨h.keep w' key (Nat.le_trans h.top hg.size), Nat.le_trans h.top hg.size, fun w2 h2 h3 => h.keep w2 (fun b h4 h5 => (h2 b h4 h5).trans (key b h4 h5)) h3⟩
theorem Dep.and {w : World} {lo hi : Nat} {F G : World → Prop} (h : Dep w lo hi F) (k : Dep w lo hi G) : Dep w lo hi (fun w => F w ∧ G w) := ⟨⟨h.now, k.now⟩, h.top, fun w' h1 h2 => ⟨h.keep w' h1 h2, k.keep w' h1 h2⟩⟩
theorem Dep.wide {w : World} {lo hi lo' hi' : Nat} {F : World → Prop} (h : Dep w lo hi F) (h1 : lo' ≤ lo) (h2 : hi ≤ hi') (h3 : hi' ≤ w.heap.size) : Dep w lo' hi' F := ⟨h.now, h3, fun w' k1 k2 => h.keep w' (fun b a c => k1 b (by omega) (by omega)) (by omega)⟩
theorem row_same {w w' : World} {g : Nat} {cs : List Value} (h : Row w g cs) (e : w'.heap[g]? = w.heap[g]?) (hs : g < w'.heap.size) : Row w' g cs :=
  ⟨hs, fun i v hv => by rw [← h.cell i v hv]; simp [World.cell?, e], fun i hi => by rw [← h.froz i hi]; simp [World.frozen?, e]⟩
theorem Dep.cut {w : World} {a : Option Addr} {lo hi : Nat} {cs : List Value} (h : Dep w lo w.heap.size (fun w => OwnS w a cs)) (h1 : ∀ g, a = some ⟨g, 0, none⟩ → cs ≠ [] → g < hi) (h2 : hi ≤ w.heap.size) (h3 : ∀ g, a = some ⟨g, 0, none⟩ → cs ≠ [] → lo ≤ g) : Dep w lo hi (fun w => OwnS w a cs) :=
  ⟨h.now, h2, fun w' k1 k2 => by
    by_cases h0 : cs = []
    · exact .inl h0
    · obtain ⟨g, rfl, hr⟩ := h.now.resolve_left h0
      exact .inr ⟨g, rfl, row_same hr (k1 g (h3 g rfl h0) (h1 g rfl h0)) (Nat.lt_of_lt_of_le (h1 g rfl h0) k2)⟩⟩
theorem blk_is {g n k : Nat} (h : blk (some ⟨g, 0, none⟩) n = some k) : k = g := by
  unfold blk at h
  split at h
  · cases h
  · simp at h; exact h.symm
theorem Dep.low {w w' : World} {lo hi N : Nat} {F : World → Prop} (h : Dep w lo hi F) (hb : Below N w w') (hN : hi ≤ N) : Dep w' lo hi F :=
  ⟨h.keep w' (fun b _ h2 => hb.block b (by omega)) (Nat.le_trans h.top hb.size), Nat.le_trans h.top hb.size, fun w2 h2 h3 => h.keep w2 (fun b h4 h5 => (h2 b h4 h5).trans (hb.block b (by omega))) h3⟩
end Go.Proofs.YtnmaknnnmjfhkaeDoor

namespace Go.Proofs.YtnmaknnnmjfhkaeDoor
open Go.RowKit
set_option maxRecDepth 4000
set_option linter.unusedVariables false
theorem pages_s (s : ByteArray) (n : Int) (w : World) (hs : s.size ≤ 1048576) :
    Calls Tryd.prog 11 #[.string s, .int .i64 n] w fun e w' => e = .returned (.int .i64 (npages s.size n)) ∧ Below w.heap.size w w' := by
  unfold npages
  by_cases hn : 1 ≤ n ∧ n ≤ 8
  · rw [if_pos hn]
    obtain ⟨m, rfl⟩ : ∃ m : Nat, n = (m : Int) := ⟨n.toNat, by omega⟩
    obtain ⟨q, hq⟩ : ∃ q : Nat, m + q = 56 := ⟨56 - m, by omega⟩
    rw [show (56 - (m : Int)).toNat = q by omega]
    have hd : decide (1 ≤ (m : Int) ∧ (m : Int) ≤ 8) = true := by simp; omega
    go_enter Tryd.func11, Tryd.ntmps11
    go_wp2_with (first | (go_at_call 34; refine (width_s _ _).mono ?_; rw [hd]; rintro e w' ⟨rfl, rfl⟩) | (go_at_call 35; refine (parts_s s m q _ hs hq (by omega) (by omega)).mono ?_; rintro e w2 ⟨g, c, rfl, hg, hrow, hb⟩; clear hrow))
    go_ret
    exact ⟨rfl, hb⟩
  · rw [if_neg hn]
    have hd : decide (1 ≤ n ∧ n ≤ 8) = false := by simp; omega
    go_enter Tryd.func11, Tryd.ntmps11
    go_wp2_with (first | (go_at_call 34; refine (width_s _ _).mono ?_; rw [hd]; rintro e w' ⟨rfl, rfl⟩))
    go_ret
    exact ⟨rfl, Below.refl _ _⟩
end Go.Proofs.YtnmaknnnmjfhkaeDoor

namespace Go.Proofs.YtnmaknnnmjfhkaeDoor
open Go.RowKit
theorem bits_xor_i64_nat (a b : Nat) (ha : a < 4611686018427387904) (hb : b < 4611686018427387904) :
    bits .xor .i64 (a : Int) (b : Int) = ((a ^^^ b : Nat) : Int) := by
  have hx : a ^^^ b < 2 ^ 62 := Nat.xor_lt_two_pow (by omega) (by omega)
  have h1 : (BitVec.ofInt 64 (a : Int)).toNat = a := by
    rw [BitVec.ofInt_natCast, BitVec.toNat_ofNat]; exact Nat.mod_eq_of_lt (by omega)
  have h2 : (BitVec.ofInt 64 (b : Int)).toNat = b := by
    rw [BitVec.ofInt_natCast, BitVec.toNat_ofNat]; exact Nat.mod_eq_of_lt (by omega)
  show IntKind.i64.wrap ((BitVec.ofInt 64 (a : Int) ^^^ BitVec.ofInt 64 (b : Int)).toNat : Int) = _
  rw [BitVec.toNat_xor, h1, h2]
  simp [IntKind.wrap, IntKind.bits, IntKind.signed]
  omega
end Go.Proofs.YtnmaknnnmjfhkaeDoor

namespace Go.Proofs.YtnmaknnnmjfhkaeDoor
open Go.RowKit
def Chs (w : World) (a : Option Addr) (rs : List (ByteArray × ByteArray × Bool)) : Prop :=
  rs = [] ∨ ∃ b o, a = some ⟨b, o, none⟩ ∧ b < w.heap.size ∧ ∀ i, i < rs.length → w.cell? ⟨b, o + i * 3, none⟩ = some (.string (rs.getD i (ByteArray.empty, ByteArray.empty, false)).1) ∧ w.cell? ⟨b, o + i * 3 + 1, none⟩ = some (.string (rs.getD i (ByteArray.empty, ByteArray.empty, false)).2.1) ∧ w.cell? ⟨b, o + i * 3 + 2, none⟩ = some (.bool (rs.getD i (ByteArray.empty, ByteArray.empty, false)).2.2)
theorem Chs.below {w w' : World} {a : Option Addr} {rs : List (ByteArray × ByteArray × Bool)} (h : Chs w a rs) (hb : Below w.heap.size w w') : Chs w' a rs := by
  rcases h with h | ⟨b, o, h1, h2, h3⟩
  · exact .inl h
  · exact .inr ⟨b, o, h1, Nat.lt_of_lt_of_le h2 hb.size, fun i hi => ⟨(hb.cell (p := ⟨b, o + i * 3, none⟩) h2).trans (h3 i hi).1, (hb.cell (p := ⟨b, o + i * 3 + 1, none⟩) h2).trans (h3 i hi).2.1, (hb.cell (p := ⟨b, o + i * 3 + 2, none⟩) h2).trans (h3 i hi).2.2⟩⟩
theorem Chs.at {w : World} {a : Option Addr} {rs : List (ByteArray × ByteArray × Bool)} (h : Chs w a rs) {k : Nat} (hk : k < rs.length) : ∃ b o s0 s1 g2, a = some ⟨b, o, none⟩ ∧ w.cell? ⟨b, o + k * 3, none⟩ = some (.string s0) ∧ w.cell? ⟨b, o + k * 3 + 1, none⟩ = some (.string s1) ∧ w.cell? ⟨b, o + k * 3 + 2, none⟩ = some (.bool g2) ∧ Hid ((s0, s1, g2) = rs.getD k (ByteArray.empty, ByteArray.empty, false)) := by
  rcases h with h | ⟨b, o, h1, h2, h3⟩
  · subst h; simp at hk
  · exact ⟨b, o, _, _, _, h1, (h3 k hk).1, (h3 k hk).2.1, (h3 k hk).2.2, hid rfl⟩
def chcells (rs : List (ByteArray × ByteArray × Bool)) : List Value := rs.flatMap fun x => [.string x.1, .string x.2.1, .bool x.2.2]
theorem chcells_append (a b : List (ByteArray × ByteArray × Bool)) : chcells (a ++ b) = chcells a ++ chcells b := by simp [chcells]
theorem chcells_at : ∀ (rs : List (ByteArray × ByteArray × Bool)) (i : Nat), i < rs.length → (chcells rs)[i * 3]? = some (.string (rs.getD i (ByteArray.empty, ByteArray.empty, false)).1) ∧ (chcells rs)[i * 3 + 1]? = some (.string (rs.getD i (ByteArray.empty, ByteArray.empty, false)).2.1) ∧ (chcells rs)[i * 3 + 2]? = some (.bool (rs.getD i (ByteArray.empty, ByteArray.empty, false)).2.2)
  | x :: r, 0, _ => by simp [chcells]
  | x :: r, i + 1, h => by
    have ih := chcells_at r i (by simpa using h)
    have e : chcells (x :: r) = .string x.1 :: .string x.2.1 :: .bool x.2.2 :: chcells r := by simp [chcells]
    rw [e, show (i + 1) * 3 = i * 3 + 3 by omega]
    simpa using ih
theorem Row.chs {w : World} {g : Nat} {rs : List (ByteArray × ByteArray × Bool)} (h : Row w g (chcells rs)) : Chs w (some ⟨g, 0, none⟩) rs :=
  .inr ⟨g, 0, rfl, h.lt, fun i hi => by
    rw [Nat.zero_add]
    exact ⟨h.cell _ _ (chcells_at rs i hi).1, h.cell _ _ (chcells_at rs i hi).2.1, h.cell _ _ (chcells_at rs i hi).2.2⟩⟩
end Go.Proofs.YtnmaknnnmjfhkaeDoor

namespace Go.Proofs.YtnmaknnnmjfhkaeDoor
open Go.RowKit
set_option linter.unusedVariables false
structure Grow (wS wr : World) (g0 : Option Nat) (base : Nat) (e : TypeId) (size : Nat) (v : Value) (n : Nat) (xs : List Value) : Prop where
  own : wr.ownsRow base e size v n xs
  gb : wS.grownBy wr g0
  at_ : ∀ k, v.ownBlock = some k → g0 = some k ∨ wS.heap.size ≤ k
theorem Grow.start {w : World} {base : Nat} {e : TypeId} {size : Nat} {v : Value} {n : Nat} {xs : List Value} (h : w.ownsRow base e size v n xs) : Grow w w v.ownBlock base e size v n xs := ⟨h, World.grownBy.refl _ _, fun k hk => .inl hk⟩
theorem Grow.below {wS wr w' : World} {g0 : Option Nat} {base : Nat} {e : TypeId} {size : Nat} {v : Value} {n : Nat} {xs : List Value} (h : Grow wS wr g0 base e size v n xs) (hb : Below wr.heap.size wr w') : Grow wS w' g0 base e size v n xs :=
  ⟨owns_below h.own hb, ⟨hb.os.trans h.gb.os, hb.tape.trans h.gb.tape, hb.output.trans h.gb.output, Nat.le_trans h.gb.size hb.size, fun k hk hne => (hb.block k (Nat.lt_of_lt_of_le hk h.gb.size)).trans (h.gb.block k hk hne)⟩, h.at_⟩
theorem grown_mono {wS wr w9 : World} {g0 r : Option Nat} (h : wS.grownBy wr g0) (hg : wr.grownBy w9 r) (hr : ∀ k, r = some k → g0 = some k ∨ wS.heap.size ≤ k) : wS.grownBy w9 g0 :=
  ⟨hg.os.trans h.os, hg.tape.trans h.tape, hg.output.trans h.output, Nat.le_trans h.size hg.size, fun k hk hne => (hg.block k (Nat.lt_of_lt_of_le hk h.size) (fun e => by
    rcases hr k e.symm with h1 | h1
    · exact hne h1.symm
    · omega)).trans (h.block k hk hne)⟩
theorem Grow.push {wS wr w9 : World} {g0 : Option Nat} {base : Nat} {e : TypeId} {size : Nat} {v v9 : Value} {n n9 H : Nat} {xs xs9 : List Value} (h : Grow wS wr g0 base e size v n xs) (hown : w9.ownsRow base e size v9 n9 xs9) (hg : wr.grownBy w9 v.ownBlock) (hat : v.ownBlock = v9.ownBlock ∨ v9.ownBlock = some H) (hH : wr.heap.size ≤ H) : Grow wS w9 g0 base e size v9 n9 xs9 :=
  ⟨hown, grown_mono h.gb hg h.at_, fun k hk => by
    rcases hat with h1 | h1
    · exact h.at_ k (h1.trans hk)
    · rw [h1] at hk; cases hk; exact .inr (Nat.le_trans h.gb.size hH)⟩
theorem Grow.trans {wS w4 wr : World} {g0 : Option Nat} {base : Nat} {e : TypeId} {size : Nat} {v v' : Value} {n n' : Nat} {xs xs' : List Value} (h : Grow wS w4 g0 base e size v n xs) (k : Grow w4 wr v.ownBlock base e size v' n' xs') : Grow wS wr g0 base e size v' n' xs' :=
  ⟨k.own, grown_mono h.gb k.gb h.at_, fun j hj => by
    rcases k.at_ j hj with h1 | h1
    · exact h.at_ j h1
    · exact .inr (Nat.le_trans h.gb.size h1)⟩
end Go.Proofs.YtnmaknnnmjfhkaeDoor

namespace Go.Proofs.YtnmaknnnmjfhkaeDoor
open Go.RowKit Go.ChangeShapes Go.WideShapes Go.Deep
section
variable {H : Type} {enc : TypeId × Value → H} {P : Program} {w : World} {base : Nat} {spare : Nat → Bool} {held : Bool}
theorem add_none {a : Addr} {i : Nat} {v : Value} (h : w.cell? (a.add i) = some v) (h0 : ∃ u, w.cell? (a.add 0) = some u) : ∃ b o, a = ⟨b, o, none⟩ := by
  obtain ⟨b, o, s⟩ := a
  obtain ⟨u, hu⟩ := h0
  have hs : s = none := by simpa [Addr.add] using World.cell?_spot hu
  exact ⟨b, o, by rw [hs]⟩
theorem add_mk (b o i : Nat) : (⟨b, o, none⟩ : Addr).add i = ⟨b, o + i, none⟩ := by unfold Addr.add; split <;> simp_all
end
end Go.Proofs.YtnmaknnnmjfhkaeDoor
