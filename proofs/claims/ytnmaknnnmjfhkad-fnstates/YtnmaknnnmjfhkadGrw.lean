import Derived.Test.YtnmaknnnmjfhkadDsk
namespace Go.Proofs.Ytnmaknnnmjfhkad
open Go.RowKit
set_option linter.unusedVariables false

/-- A row of the call's own that is put behind, again and again: what lay in wS is as it was, the row's first block apart. -/
structure Grow (wS wr : World) (g0 : Option Nat) (base : Nat) (e : TypeId) (size : Nat) (v : Value) (n : Nat) (xs : List Value) : Prop where
  own : wr.ownsRow base e size v n xs
  gb : wS.grownBy wr g0
  at_ : ∀ k, v.ownBlock = some k → g0 = some k ∨ wS.heap.size ≤ k
theorem Grow.start {w : World} {base : Nat} {e : TypeId} {size : Nat} {v : Value} {n : Nat} {xs : List Value} (h : w.ownsRow base e size v n xs) : Grow w w v.ownBlock base e size v n xs := ⟨h, World.grownBy.refl _ _, fun k hk => .inl hk⟩
theorem Grow.below {wS wr w' : World} {g0 : Option Nat} {base : Nat} {e : TypeId} {size : Nat} {v : Value} {n : Nat} {xs : List Value} (h : Grow wS wr g0 base e size v n xs) (hb : Below wr.heap.size wr w') : Grow wS w' g0 base e size v n xs :=
  ⟨owns_below h.own hb, ⟨hb.os.trans h.gb.os, hb.tape.trans h.gb.tape, hb.output.trans h.gb.output, Nat.le_trans h.gb.size hb.size, fun k hk hne => (hb.block k (Nat.lt_of_lt_of_le hk h.gb.size)).trans (h.gb.block k hk hne)⟩, h.at_⟩
theorem grown_mono {wS wr w9 : World} {g0 r : Option Nat} (h : wS.grownBy wr g0) (hg : wr.grownBy w9 r) (hr : ∀ k, r = some k → g0 = some k ∨ wS.heap.size ≤ k) : wS.grownBy w9 g0 :=
  ⟨hg.os.trans h.os, hg.tape.trans h.tape, hg.output.trans h.output, Nat.le_trans h.size hg.size, fun k hk hne => (hg.block k (Nat.lt_of_lt_of_le hk h.size) (fun e => by
    rcases hr k e.symm with h1 | h1
    · exact hne h1.symm
    · omega)).trans (h.block k hk hne)⟩
theorem Grow.push {wS wr w9 : World} {g0 : Option Nat} {base : Nat} {e : TypeId} {size : Nat} {v v9 : Value} {n n9 H : Nat} {xs xs9 : List Value} (h : Grow wS wr g0 base e size v n xs) (hown : w9.ownsRow base e size v9 n9 xs9) (hg : wr.grownBy w9 v.ownBlock) (hat : v.ownBlock = v9.ownBlock ∨ v9.ownBlock = some H) (hH : wr.heap.size ≤ H) : Grow wS w9 g0 base e size v9 n9 xs9 :=
  ⟨hown, grown_mono h.gb hg h.at_, fun k hk => by
    rcases hat with h1 | h1
    · exact h.at_ k (h1.trans hk)
    · rw [h1] at hk; cases hk; exact .inr (Nat.le_trans h.gb.size hH)⟩
theorem Grow.trans {wS w4 wr : World} {g0 : Option Nat} {base : Nat} {e : TypeId} {size : Nat} {v v' : Value} {n n' : Nat} {xs xs' : List Value} (h : Grow wS w4 g0 base e size v n xs) (k : Grow w4 wr v.ownBlock base e size v' n' xs') : Grow wS wr g0 base e size v' n' xs' :=
  ⟨k.own, grown_mono h.gb k.gb h.at_, fun j hj => by
    rcases k.at_ j hj with h1 | h1
    · exact h.at_ j h1
    · exact .inr (Nat.le_trans h.gb.size h1)⟩
theorem below_of_grown {n : Nat} {w w' : World} {r : Option Nat} (hg : w.grownBy w' r) (hn : n ≤ w.heap.size) (hr : ∀ k, r = some k → n ≤ k) : Below n w w' :=
  ⟨hg.os, hg.tape, hg.output, hg.size, fun k hk => hg.block k (by omega) (fun e => by have := hr k e.symm; omega)⟩
theorem undrewG {w w' : World} {r : Option Nat} (h : w.drew.grownBy w' r) : w.grownBy w' r := ⟨h.os, h.tape, h.output, h.size, h.block⟩
theorem redrewG {w w' : World} {r : Option Nat} (h : w.grownBy w' r) : w.drew.grownBy w' r := ⟨h.os, h.tape, h.output, h.size, h.block⟩
end Go.Proofs.Ytnmaknnnmjfhkad
