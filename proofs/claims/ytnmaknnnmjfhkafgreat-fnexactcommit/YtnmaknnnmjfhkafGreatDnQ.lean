import Derived.Test.YtnmaknnnmjfhkafGreatCpP
import Derived.Test.YtnmaknnnmjfhkafGreatSnP
import Derived.Test.YtnmaknnnmjfhkafGreatOpA
import Derived.Test.YtnmaknnnmjfhkafGreatStV
namespace Go.Proofs.YtnmaknnnmjfhkafGreat
open Go.RowKit
set_option maxRecDepth 8000
set_option linter.unusedVariables false
set_option linter.unusedSimpArgs false

/-- What a call of the store comes to. -/
structure Dd where
  (C W S L T H F R U O : Int)
  rs : List Pr
  ops : List OpT
/-- It as a value. -/
def dnV (d : Dd) (a : Option Addr) (c : Nat) (b : Option Addr) (e : Nat) : Value := .agg #[.int .i64 d.C, .int .i64 d.W, .int .i64 d.S, .int .i64 d.L, .int .i64 d.T, .int .i64 d.H, .int .i64 d.F, .int .i64 d.R, .int .i64 d.U, .int .i64 d.O, .slice a d.rs.length c, .slice b d.ops.length e]
/-- Nothing of two rows is in one block. -/
def Apart (a : Option Addr) (n : Nat) (b : Option Addr) (m : Nat) : Prop := blk a n = none ∨ blk b m = none ∨ blk a n ≠ blk b m
/-- Its lists are its own. -/
structure OwnDn (w : World) (rs : List Pr) (ops : List OpT) (a b : Option Addr) : Prop where
  s : OwnS w a (prcells rs)
  p : OwnS w b (opcells ops)
  ne : Apart a rs.length b ops.length
theorem OwnDn.below {w w' : World} {rs : List Pr} {ops : List OpT} {a b : Option Addr} (h : OwnDn w rs ops a b) (hb : Below w.heap.size w w') : OwnDn w' rs ops a b := ⟨h.s.below hb, h.p.below hb, h.ne⟩
theorem OwnS.prs {w : World} {a : Option Addr} {rs : List Pr} (h : OwnS w a (prcells rs)) : Prs w a rs := by
  rcases h with h | ⟨g, rfl, h⟩
  · exact .inl (by have := congrArg List.length h; rw [prcells_length, List.length_nil] at this; exact List.eq_nil_of_length_eq_zero (by omega))
  · exact h.prs
theorem OwnS.ops {w : World} {a : Option Addr} {rs : List OpT} (h : OwnS w a (opcells rs)) : Ops w a rs := by
  rcases h with h | ⟨g, rfl, h⟩
  · exact .inl (by have := congrArg List.length h; rw [opcells_length, List.length_nil] at this; exact List.eq_nil_of_length_eq_zero (by omega))
  · exact h.ops
theorem prcells_ne {rs : List Pr} (h : rs.length ≠ 0) : prcells rs ≠ [] := fun e => h (by have := congrArg List.length e; rw [prcells_length, List.length_nil] at this; omega)
theorem opcells_ne {rs : List OpT} (h : rs.length ≠ 0) : opcells rs ≠ [] := fun e => h (by have := congrArg List.length e; rw [opcells_length, List.length_nil] at this; omega)
theorem ne_of_prcells {rs : List Pr} (h : prcells rs ≠ []) : rs.length ≠ 0 := fun e => h (by rw [List.eq_nil_of_length_eq_zero e]; rfl)
theorem ne_of_opcells {rs : List OpT} (h : opcells rs ≠ []) : rs.length ≠ 0 := fun e => h (by rw [List.eq_nil_of_length_eq_zero e]; rfl)

/-- What a call of the store gives, in memory of its own. -/
def DnPost (w w' : World) (x : Ending) (d : Dd) : Prop := ∃ a c b e, x = .returned (dnV d a c b e) ∧ d.rs.length ≤ c ∧ OwnDn w' d.rs d.ops a b ∧ (∀ g, blk a d.rs.length = some g → w.heap.size ≤ g) ∧ (∀ g, blk b d.ops.length = some g → w.heap.size ≤ g) ∧ Below w.heap.size w w'
def noD (C : Int) : Dd := ⟨C, 0, 0, 0, 0, 0, 0, 0, 0, 0, [], []⟩
theorem OwnS.set' {w : World} {a : Option Addr} {cs : List Value} (h : OwnS w a cs) (p : Addr) (hp : ∀ g, a = some ⟨g, 0, none⟩ → cs ≠ [] → p.block ≠ g) (v : Value) : OwnS (w.setCell p v) a cs := by
  by_cases h0 : cs = []
  · exact .inl h0
  · obtain ⟨g, rfl, hr⟩ := h.resolve_left h0
    exact .inr ⟨g, rfl, hr.other p (hp g rfl h0) v⟩
theorem OwnS.alloc' {w : World} {a : Option Addr} {cs : List Value} (h : OwnS w a cs) (o : Obj) : OwnS (w.alloc o) a cs := h.below ((Below.refl _ _).alloc (Nat.le_refl _) _)
theorem row_at {w : World} {A : Array Value} {t : TypeId} {g : Nat} (hg : w.heap.size = g) : Row (w.alloc (.cells A t)) g A.toList := by subst hg; exact row_new w A t
theorem dn_no {w w' : World} {x : Ending} {C : Int} {a b : Option Addr} {c e : Nat} (hx : x = .returned (dnV (noD C) a c b e)) (hb : Below w.heap.size w w') : DnPost w w' x (noD C) :=
  ⟨a, c, b, e, hx, Nat.zero_le _, ⟨.inl rfl, .inl rfl, .inl rfl⟩, fun g h => (by cases h), fun g h => (by cases h), hb⟩

theorem OwnS.drew' {w : World} {a : Option Addr} {cs : List Value} (h : OwnS w a cs) : OwnS w.drew a cs := h.below (Below.refl _ _).drew
end Go.Proofs.YtnmaknnnmjfhkafGreat
