import Derived.Test.YtnmaknnnmjfhkafGreatMgXCompact2
import Derived.Test.YtnmaknnnmjfhkafGreatPlain
import Derived.Test.YtnmaknnnmjfhkafGreatMgXCompact8
import Derived.Test.YtnmaknnnmjfhkafGreatQxCompactSnP

set_option maxHeartbeats 16000000
set_option maxRecDepth 8000
namespace Go.Proofs.YtnmaknnnmjfhkafGreat
open Go.RowKit

abbrev OpT := Bool × Int × ByteArray
/-- Records in a row of memory. -/
def Ops (w : World) (a : Option Addr) (rs : List (Bool × Int × ByteArray)) : Prop :=
  rs = [] ∨ ∃ b o, a = some ⟨b, o, none⟩ ∧ b < w.heap.size ∧ ∀ i, i < rs.length → w.cell? ⟨b, o + i * 3, none⟩ = some (.bool (rs.getD i (false, 0, ByteArray.empty)).1) ∧ w.cell? ⟨b, o + i * 3 + 1, none⟩ = some (.int .i64 (rs.getD i (false, 0, ByteArray.empty)).2.1) ∧ w.cell? ⟨b, o + i * 3 + 2, none⟩ = some (.string (rs.getD i (false, 0, ByteArray.empty)).2.2)
theorem Ops.below {w w' : World} {a : Option Addr} {rs : List (Bool × Int × ByteArray)} (h : Ops w a rs) (hb : Below w.heap.size w w') : Ops w' a rs := by
  rcases h with h | ⟨b, o, h1, h2, h3⟩
  · exact .inl h
  · exact .inr ⟨b, o, h1, Nat.lt_of_lt_of_le h2 hb.size, fun i hi => ⟨(hb.cell (p := ⟨b, o + i * 3, none⟩) h2).trans (h3 i hi).1, (hb.cell (p := ⟨b, o + i * 3 + 1, none⟩) h2).trans (h3 i hi).2.1, (hb.cell (p := ⟨b, o + i * 3 + 2, none⟩) h2).trans (h3 i hi).2.2⟩⟩
theorem Ops.at {w : World} {a : Option Addr} {rs : List (Bool × Int × ByteArray)} (h : Ops w a rs) {k : Nat} (hk : k < rs.length) : ∃ b o g0 n1 s2, a = some ⟨b, o, none⟩ ∧ w.cell? ⟨b, o + k * 3, none⟩ = some (.bool g0) ∧ w.cell? ⟨b, o + k * 3 + 1, none⟩ = some (.int .i64 n1) ∧ w.cell? ⟨b, o + k * 3 + 2, none⟩ = some (.string s2) ∧ Hid ((g0, n1, s2) = rs.getD k (false, 0, ByteArray.empty)) := by
  rcases h with h | ⟨b, o, h1, h2, h3⟩
  · subst h; simp at hk
  · exact ⟨b, o, _, _, _, h1, (h3 k hk).1, (h3 k hk).2.1, (h3 k hk).2.2, hid rfl⟩
/-- The cells of records. -/
def opcells (rs : List (Bool × Int × ByteArray)) : List Value := rs.flatMap fun x => [.bool x.1, .int .i64 x.2.1, .string x.2.2]
theorem opcells_nil : opcells [] = [] := rfl
theorem opcells_append (a b : List (Bool × Int × ByteArray)) : opcells (a ++ b) = opcells a ++ opcells b := by simp [opcells]
theorem opcells_length (rs : List (Bool × Int × ByteArray)) : (opcells rs).length = rs.length * 3 := by
  induction rs with
  | nil => rfl
  | cons x r ih => simp [opcells] at ih ⊢; omega
theorem opcells_at : ∀ (rs : List (Bool × Int × ByteArray)) (i : Nat), i < rs.length → (opcells rs)[i * 3]? = some (.bool (rs.getD i (false, 0, ByteArray.empty)).1) ∧ (opcells rs)[i * 3 + 1]? = some (.int .i64 (rs.getD i (false, 0, ByteArray.empty)).2.1) ∧ (opcells rs)[i * 3 + 2]? = some (.string (rs.getD i (false, 0, ByteArray.empty)).2.2)
  | x :: r, 0, _ => by simp [opcells]
  | x :: r, i + 1, h => by
    have ih := opcells_at r i (by simpa using h)
    have e : opcells (x :: r) = .bool x.1 :: .int .i64 x.2.1 :: .string x.2.2 :: opcells r := by simp [opcells]
    rw [e, show (i + 1) * 3 = i * 3 + 3 by omega]
    simpa using ih
theorem Row.ops {w : World} {g : Nat} {rs : List (Bool × Int × ByteArray)} (h : Row w g (opcells rs)) : Ops w (some ⟨g, 0, none⟩) rs :=
  .inr ⟨g, 0, rfl, h.lt, fun i hi => by
    rw [Nat.zero_add]
    exact ⟨h.cell _ _ (opcells_at rs i hi).1, h.cell _ _ (opcells_at rs i hi).2.1, h.cell _ _ (opcells_at rs i hi).2.2⟩⟩
def opupTo (rs : List (Bool × Int × ByteArray)) (k : Nat) : List Value := opcells (rs.take k) ++ opcells (List.replicate (rs.length - k) (false, 0, ByteArray.empty))
theorem opupTo_length (rs : List (Bool × Int × ByteArray)) (k : Nat) (h : k ≤ rs.length) : (opupTo rs k).length = rs.length * 3 := by simp [opupTo, opcells_length]; omega
theorem opupTo_all (rs : List (Bool × Int × ByteArray)) (k : Nat) (h : rs.length ≤ k) : opupTo rs k = opcells rs := by
  unfold opupTo; rw [List.take_of_length_le h, show rs.length - k = 0 by omega]; simp [opcells]
theorem opupTo_set (rs : List (Bool × Int × ByteArray)) (k : Nat) (h : k < rs.length) : (((opupTo rs k).set (k * 3) (.bool (rs.getD k (false, 0, ByteArray.empty)).1)).set (k * 3 + 1) (.int .i64 (rs.getD k (false, 0, ByteArray.empty)).2.1)).set (k * 3 + 2) (.string (rs.getD k (false, 0, ByteArray.empty)).2.2) = opupTo rs (k + 1) := by
  unfold opupTo
  have el : (opcells (rs.take k)).length = k * 3 := by rw [opcells_length]; simp; omega
  rw [List.set_append_right _ _ (by omega), List.set_append_right _ _ (by omega), List.set_append_right _ _ (by omega), el, show k * 3 - k * 3 = 0 by omega, show k * 3 + 1 - k * 3 = 1 by omega, show k * 3 + 2 - k * 3 = 2 by omega,
    show rs.length - k = (rs.length - (k + 1)) + 1 by omega, List.replicate_succ, List.take_succ_eq_append_getElem h, opcells_append, List.append_assoc]
  congr 1
  simp [opcells, List.getD, h]
theorem made_ops : ∀ (n : Nat), (madeCells (Value.agg #[.bool false, .int .i64 0, .string ByteArray.empty]).cells (n * 3)).toList = opcells (List.replicate n (false, 0, ByteArray.empty))
  | 0 => by simp [madeCells, opcells]
  | n + 1 => by
    have ih := made_ops n
    unfold madeCells at ih ⊢
    rw [Array.toList_map, Array.toList_range] at ih ⊢
    rw [show (n + 1) * 3 = n * 3 + 1 + 1 + 1 by omega, List.range_succ, List.range_succ, List.range_succ, List.map_append, List.map_append, List.map_append, ih, List.replicate_succ', opcells_append, List.append_assoc, List.append_assoc]
    congr 1
    have e0 : (n * 3) % (Value.agg #[.bool false, .int .i64 0, .string ByteArray.empty]).cells.size = 0 := by simp [Value.cells] <;> omega
    have e1 : (n * 3 + 1) % (Value.agg #[.bool false, .int .i64 0, .string ByteArray.empty]).cells.size = 1 := by simp [Value.cells] <;> omega
    have e2 : (n * 3 + 1 + 1) % (Value.agg #[.bool false, .int .i64 0, .string ByteArray.empty]).cells.size = 2 := by simp [Value.cells] <;> omega
    simp only [List.map_cons, List.map_nil]
    rw [e0, e1, e2]
    rfl
/-- The sizes that are counted of a record. -/
def opsz (x : Bool × Int × ByteArray) : List Nat := [x.2.2.size]
end Go.Proofs.YtnmaknnnmjfhkafGreat

namespace Go.Proofs.YtnmaknnnmjfhkafGreat
open Go.RowKit
set_option linter.unusedVariables false

/-- A store as a value. -/
def storeV (W S L T H F R U O : Int) (a : Option Addr) (n c : Nat) : Value := .agg #[.int .i64 W, .int .i64 S, .int .i64 L, .int .i64 T, .int .i64 H, .int .i64 F, .int .i64 R, .int .i64 U, .int .i64 O, .slice a n c]
end Go.Proofs.YtnmaknnnmjfhkafGreat

namespace Go.Proofs.YtnmaknnnmjfhkafGreat
open Go.RowKit
set_option maxRecDepth 8000
set_option linter.unusedVariables false
set_option linter.unusedSimpArgs false

/-- What a call of the store comes to. -/
structure Dd where
  (C W S L T H F R U O : Int)
  rs : List Pr
  ops : List OpT
/-- It as a value. -/
def dnV (d : Dd) (a : Option Addr) (c : Nat) (b : Option Addr) (e : Nat) : Value := .agg #[.int .i64 d.C, .int .i64 d.W, .int .i64 d.S, .int .i64 d.L, .int .i64 d.T, .int .i64 d.H, .int .i64 d.F, .int .i64 d.R, .int .i64 d.U, .int .i64 d.O, .slice a d.rs.length c, .slice b d.ops.length e]
/-- Nothing of two rows is in one block. -/
def Apart (a : Option Addr) (n : Nat) (b : Option Addr) (m : Nat) : Prop := blk a n = none ∨ blk b m = none ∨ blk a n ≠ blk b m
/-- Its lists are its own. -/
structure OwnDn (w : World) (rs : List Pr) (ops : List OpT) (a b : Option Addr) : Prop where
  s : OwnS w a (prcells rs)
  p : OwnS w b (opcells ops)
  ne : Apart a rs.length b ops.length
theorem OwnDn.below {w w' : World} {rs : List Pr} {ops : List OpT} {a b : Option Addr} (h : OwnDn w rs ops a b) (hb : Below w.heap.size w w') : OwnDn w' rs ops a b := ⟨h.s.below hb, h.p.below hb, h.ne⟩
theorem OwnS.prs {w : World} {a : Option Addr} {rs : List Pr} (h : OwnS w a (prcells rs)) : Prs w a rs := by
  rcases h with h | ⟨g, rfl, h⟩
  · exact .inl (by have := congrArg List.length h; rw [prcells_length, List.length_nil] at this; exact List.eq_nil_of_length_eq_zero (by omega))
  · exact h.prs
theorem OwnS.ops {w : World} {a : Option Addr} {rs : List OpT} (h : OwnS w a (opcells rs)) : Ops w a rs := by
  rcases h with h | ⟨g, rfl, h⟩
  · exact .inl (by have := congrArg List.length h; rw [opcells_length, List.length_nil] at this; exact List.eq_nil_of_length_eq_zero (by omega))
  · exact h.ops
theorem prcells_ne {rs : List Pr} (h : rs.length ≠ 0) : prcells rs ≠ [] := fun e => h (by have := congrArg List.length e; rw [prcells_length, List.length_nil] at this; omega)
theorem opcells_ne {rs : List OpT} (h : rs.length ≠ 0) : opcells rs ≠ [] := fun e => h (by have := congrArg List.length e; rw [opcells_length, List.length_nil] at this; omega)
theorem ne_of_prcells {rs : List Pr} (h : prcells rs ≠ []) : rs.length ≠ 0 := fun e => h (by rw [List.eq_nil_of_length_eq_zero e]; rfl)
theorem ne_of_opcells {rs : List OpT} (h : opcells rs ≠ []) : rs.length ≠ 0 := fun e => h (by rw [List.eq_nil_of_length_eq_zero e]; rfl)

/-- What a call of the store gives, in memory of its own. -/
def DnPost (w w' : World) (x : Ending) (d : Dd) : Prop := ∃ a c b e, x = .returned (dnV d a c b e) ∧ d.rs.length ≤ c ∧ OwnDn w' d.rs d.ops a b ∧ (∀ g, blk a d.rs.length = some g → w.heap.size ≤ g) ∧ (∀ g, blk b d.ops.length = some g → w.heap.size ≤ g) ∧ Below w.heap.size w w'
def noD (C : Int) : Dd := ⟨C, 0, 0, 0, 0, 0, 0, 0, 0, 0, [], []⟩
theorem OwnS.set' {w : World} {a : Option Addr} {cs : List Value} (h : OwnS w a cs) (p : Addr) (hp : ∀ g, a = some ⟨g, 0, none⟩ → cs ≠ [] → p.block ≠ g) (v : Value) : OwnS (w.setCell p v) a cs := by
  by_cases h0 : cs = []
  · exact .inl h0
  · obtain ⟨g, rfl, hr⟩ := h.resolve_left h0
    exact .inr ⟨g, rfl, hr.other p (hp g rfl h0) v⟩
theorem OwnS.alloc' {w : World} {a : Option Addr} {cs : List Value} (h : OwnS w a cs) (o : Obj) : OwnS (w.alloc o) a cs := h.below ((Below.refl _ _).alloc (Nat.le_refl _) _)
theorem row_at {w : World} {A : Array Value} {t : TypeId} {g : Nat} (hg : w.heap.size = g) : Row (w.alloc (.cells A t)) g A.toList := by subst hg; exact row_new w A t
theorem dn_no {w w' : World} {x : Ending} {C : Int} {a b : Option Addr} {c e : Nat} (hx : x = .returned (dnV (noD C) a c b e)) (hb : Below w.heap.size w w') : DnPost w w' x (noD C) :=
  ⟨a, c, b, e, hx, Nat.zero_le _, ⟨.inl rfl, .inl rfl, .inl rfl⟩, fun g h => (by cases h), fun g h => (by cases h), hb⟩

theorem OwnS.drew' {w : World} {a : Option Addr} {cs : List Value} (h : OwnS w a cs) : OwnS w.drew a cs := h.below (Below.refl _ _).drew
end Go.Proofs.YtnmaknnnmjfhkafGreat
