import Derived.Laws.MakeOwn
import Derived.WalkSmall
import Derived.Deep.Draws
import Derived.Test.YtnmaknnnmjfhkaeDoorPrG32
import Derived.Deep.AppendLies
import Derived.OneCell
import Derived.WalkKit
import Derived.WalkSpells
import Derived.WalkLawsBesides
import Derived.Outline
import Derived.Deep.RegionLaw
import Derived.Test.YtnmaknnnmjfhkaeDoorProg
import Derived.Test.YtnmaknnnmjfhkaeDoorPrG31
import Derived.BigQuiet
import Derived.Deep.QuietTactic
import Derived.Deep.RegionHeld3
set_option maxHeartbeats 16000000
set_option maxRecDepth 8000
namespace Go.Proofs.YtnmaknnnmjfhkaeDoor
open Go.RowKit
structure Row (w : World) (g : Nat) (cs : List Value) : Prop where
  lt : g < w.heap.size
  cell : ∀ i v, cs[i]? = some v → w.cell? ⟨g, i, none⟩ = some v
  froz : ∀ i, i < cs.length → w.frozen? ⟨g, i, none⟩ = false
theorem Row.below {w w' : World} {g : Nat} {cs : List Value} (h : Row w g cs) (hb : Below w.heap.size w w') : Row w' g cs :=
  ⟨Nat.lt_of_lt_of_le h.lt hb.size, fun i v hv => (hb.cell (p := ⟨g, i, none⟩) h.lt).trans (h.cell i v hv), fun i hi => (hb.frozen (p := ⟨g, i, none⟩) h.lt).trans (h.froz i hi)⟩
theorem Row.set {w : World} {g : Nat} {cs : List Value} (h : Row w g cs) (k : Nat) (hk : k < cs.length) (v : Value) : Row (w.setCell ⟨g, k, none⟩ v) g (cs.set k v) := by
  refine ⟨by simpa [World.setCell] using h.lt, fun i u hu => ?_, fun i hi => ?_⟩
  · by_cases he : i = k
    · subst he
      rw [List.getElem?_set_self hk] at hu
      cases hu
      exact World.cell?_setCell_same w _ _ (h.cell i _ (List.getElem?_eq_getElem hk))
    · rw [List.getElem?_set_ne (fun e => he e.symm)] at hu
      rw [World.cell?_setCell_other (w := w) (h := show (⟨g, k, none⟩ : Addr) ≠ ⟨g, i, none⟩ by simp <;> omega)]
      exact h.cell i u hu
  · rw [World.frozen?_setCell]; exact h.froz i (by simpa using hi)
theorem Row.other {w : World} {g : Nat} {cs : List Value} (h : Row w g cs) (p : Addr) (hp : p.block ≠ g) (v : Value) : Row (w.setCell p v) g cs := by
  refine ⟨by simpa [World.setCell] using h.lt, fun i u hu => ?_, fun i hi => ?_⟩
  · rw [World.cell?_setCell_other (w := w) (h := fun e => hp (by rw [e]))]; exact h.cell i u hu
  · rw [World.frozen?_setCell]; exact h.froz i hi
theorem Row.drew {w : World} {g : Nat} {cs : List Value} (h : Row w g cs) : Row w.drew g cs := ⟨h.lt, h.cell, h.froz⟩
theorem Row.drewN {w : World} {g : Nat} {cs : List Value} (h : Row w g cs) (q : Nat) : Row (w.drewN q) g cs := h.below (below_drewN (Below.refl _ _) q)
theorem Row.alloc {w : World} {g : Nat} {cs : List Value} (h : Row w g cs) (o : Obj) : Row (w.alloc o) g cs := h.below ((Below.refl _ _).alloc (Nat.le_refl _) _)
theorem frozen_beyond (w : World) (b o : Nat) (h : w.heap.size ≤ b) : w.frozen? ⟨b, o, none⟩ = false := by
  have e : w.heap[b]? = none := by simp [h]
  simp [World.frozen?, e]
theorem row_new (w : World) (A : Array Value) (t : TypeId) : Row (w.alloc (.cells A t)) w.heap.size A.toList :=
  ⟨by simp, fun i v hv => by rw [World.cell?_alloc_at _ _ _ _ rfl]; simpa using hv, fun i hi => by rw [frozen?_alloc_cells]; exact frozen_beyond _ _ _ (Nat.le_refl _)⟩
theorem Row.strs {w : World} {g : Nat} {ss : List ByteArray} (h : Row w g (ss.map Value.string)) : Strs w (some ⟨g, 0, none⟩) ss :=
  .inr ⟨g, 0, rfl, h.lt, fun i hi => by
    rw [Nat.zero_add]
    exact h.cell i _ (by simp [List.getD, hi])⟩
def wcells (ws : List (Int × ByteArray)) : List Value := ws.flatMap fun x => [.int .i64 x.1, .string x.2]
theorem wcells_append (a b : List (Int × ByteArray)) : wcells (a ++ b) = wcells a ++ wcells b := by simp [wcells]
theorem wcells_length (ws : List (Int × ByteArray)) : (wcells ws).length = ws.length * 2 := by
  induction ws with
  | nil => rfl
  | cons x r ih => simp [wcells] at ih ⊢; omega
theorem wcells_at : ∀ (ws : List (Int × ByteArray)) (i : Nat), i < ws.length → (wcells ws)[i * 2]? = some (.int .i64 (ws.getD i (0, ByteArray.empty)).1) ∧ (wcells ws)[i * 2 + 1]? = some (.string (ws.getD i (0, ByteArray.empty)).2)
  | x :: r, 0, _ => by simp [wcells]
  | x :: r, i + 1, h => by
    have ih := wcells_at r i (by simpa using h)
    have e : wcells (x :: r) = .int .i64 x.1 :: .string x.2 :: wcells r := by simp [wcells]
    rw [e, show (i + 1) * 2 = i * 2 + 2 by omega]
    simpa using ih
theorem Row.wrs {w : World} {g : Nat} {ws : List (Int × ByteArray)} (h : Row w g (wcells ws)) : Wrs w (some ⟨g, 0, none⟩) ws :=
  .inr ⟨g, 0, rfl, h.lt, fun i hi => by
    rw [Nat.zero_add]
    exact ⟨h.cell _ _ (wcells_at ws i hi).1, h.cell _ _ (wcells_at ws i hi).2⟩⟩
theorem wpList_make_new {P : Program} {w : World} {ops : Array Oper} {rest : List Oper} {o : Oper} {a : Act} {Q : Exit → Act → World → Prop}
    (hg : o.guard = none) (l c : Operand) (t : TypeId) (hop : o.op = Op.makeSlice t l c) (e : TypeId) (z : Value) (size bytes : Nat) (ht : P.underlying t = some (.slice e)) (hinfo : (P.info? e).map (fun i => (i.zero, i.size, i.bytes)) = some (some z, size, bytes))
    (n : Nat) (hl : a.eval l = .int .i64 (n : Int)) (hc : a.eval c = .int .i64 (n : Int)) (hb : bytes * n ≤ 281474976710656) (hn : n ≤ 281474976710656)
    (h : ∀ wx, Row wx w.heap.size (madeCells z.cells (n * size)).toList → Below w.heap.size w wx → wx.heap.size = w.heap.size + 1 → wpList P ops Q rest (a.put o.dst (.slice (some ⟨w.heap.size, 0, none⟩) n n)) wx) : wpList P ops Q (o :: rest) a w := by
  refine wpList_plain hg fun K hK => ?_
  obtain ⟨i, hi, hh⟩ := Option.map_eq_some_iff.1 hinfo
  simp only [Prod.mk.injEq] at hh
  obtain ⟨h1, h2, h3⟩ := hh
  subst h2 h3
  have hbi : (i.bytes : Int) * (n : Int) ≤ 281474976710656 := by
    have : ((i.bytes * n : Nat) : Int) ≤ 281474976710656 := by omega
    rwa [Int.natCast_mul] at this
  have hr := run_make (P := P) w t e i z ht hi h1 .i64 .i64 n n (by omega) (Int.le_refl _) hbi (by omega)
  simp only [Int.toNat_natCast] at hr
  unfold Oper.wp
  simp [execOp, hop, hl, hc, hr, Result.andThen]
  exact hK _ _ (h _ (row_new _ _ _) ((Below.refl _ _).alloc (Nat.le_refl _) _) (by simp))
end Go.Proofs.YtnmaknnnmjfhkaeDoor

namespace Go.Proofs.YtnmaknnnmjfhkaeDoor
open Go.RowKit
theorem owns_below {w w' : World} {base : Nat} {e : TypeId} {size : Nat} {v : Value} {n : Nat} {xs : List Value} (h : w.ownsRow base e size v n xs) (hb : Below w.heap.size w w') : w'.ownsRow base e size v n xs := by
  refine ⟨h.1, ?_⟩
  rcases h.2 with h0 | ⟨g, cap, cur, h1, h2, h3, h4⟩
  · exact .inl h0
  · refine .inr ⟨g, cap, cur, h1, h2, ?_, h4⟩
    have hlt : g < w.heap.size := by
      rcases Nat.lt_or_ge g w.heap.size with h | h
      · exact h
      · rw [Array.getElem?_eq_none h] at h3; cases h3
    rw [hb.block g hlt]; exact h3
theorem owns_row {w : World} {base : Nat} {e : TypeId} {size : Nat} {g n cap : Nat} {xs : List Value} (h : w.ownsRow base e size (.slice (some ⟨g, 0, none⟩) n cap) n xs) : Row w g xs := by
  have hl := (h.lt g rfl).2
  refine ⟨hl, fun i v hv => ?_, fun i hi => ?_⟩
  · have := h.cells (g := g) rfl i v hv
    have ha : (⟨g, 0, none⟩ : Addr).add i = ⟨g, i, none⟩ := by unfold Addr.add; split <;> simp_all
    rwa [ha] at this
  · rcases h.2 with ⟨h0, _⟩ | ⟨g', cap', cur, h1, _, h3, _⟩
    · cases h0
    · simp at h1
      rw [← h1.1] at h3
      simp [World.frozen?, h3]
theorem owns_forms {w : World} {base : Nat} {e : TypeId} {size : Nat} {v : Value} {n : Nat} {xs : List Value} (h : w.ownsRow base e size v n xs) : (v = .slice none 0 0 ∧ n = 0) ∨ ∃ g cap, v = .slice (some ⟨g, 0, none⟩) n cap ∧ base ≤ g ∧ g < w.heap.size ∧ Row w g xs := by
  rcases h.2 with h0 | ⟨g, cap, cur, h1, h2, h3, h4⟩
  · exact .inl h0
  · subst h1
    exact .inr ⟨g, cap, rfl, h2, (h.lt g rfl).2, owns_row h⟩
structure Dsk (W w : World) (R D base : Nat) (e e' : TypeId) (v v' : Value) (ss : List ByteArray) (ws : List (Int × ByteArray)) : Prop where
  hR : W.heap.size ≤ R
  hR' : R < base
  hD : W.heap.size ≤ D
  hD' : D < base
  ne : R ≠ D
  sz : base ≤ w.heap.size
  bel : Below W.heap.size W w
  r0 : w.cell? ⟨R, 0, none⟩ = some (.slice none 0 0)
  r1 : w.cell? ⟨R, 1, none⟩ = some (.slice none 0 0)
  fr0 : w.frozen? ⟨R, 0, none⟩ = false
  fr1 : w.frozen? ⟨R, 1, none⟩ = false
  d0 : w.cell? ⟨D, 0, none⟩ = some v
  d1 : w.cell? ⟨D, 1, none⟩ = some v'
  fd0 : w.frozen? ⟨D, 0, none⟩ = false
  fd1 : w.frozen? ⟨D, 1, none⟩ = false
  own : w.ownsRow base e 1 v ss.length (ss.map Value.string)
  own' : w.ownsRow base e' 2 v' ws.length (wcells ws)
  apart : v.ownBlock = none ∨ v'.ownBlock = none ∨ v.ownBlock ≠ v'.ownBlock
section
variable {W w w' : World} {R D base : Nat} {e e' : TypeId} {v v' : Value} {ss : List ByteArray} {ws : List (Int × ByteArray)}
theorem Dsk.below (h : Dsk W w R D base e e' v v' ss ws) (hb : Below w.heap.size w w') : Dsk W w' R D base e e' v v' ss ws :=
  have lR : R < w.heap.size := Nat.lt_of_lt_of_le h.hR' h.sz
  have lD : D < w.heap.size := Nat.lt_of_lt_of_le h.hD' h.sz
  have lW : W.heap.size ≤ w.heap.size := h.bel.size
  ⟨h.hR, h.hR', h.hD, h.hD', h.ne, Nat.le_trans h.sz hb.size, h.bel.trans (hb.mono lW), (hb.cell (p := ⟨R, 0, none⟩) lR).trans h.r0, (hb.cell (p := ⟨R, 1, none⟩) lR).trans h.r1, (hb.frozen (p := ⟨R, 0, none⟩) lR).trans h.fr0, (hb.frozen (p := ⟨R, 1, none⟩) lR).trans h.fr1,
    (hb.cell (p := ⟨D, 0, none⟩) lD).trans h.d0, (hb.cell (p := ⟨D, 1, none⟩) lD).trans h.d1, (hb.frozen (p := ⟨D, 0, none⟩) lD).trans h.fd0, (hb.frozen (p := ⟨D, 1, none⟩) lD).trans h.fd1, owns_below h.own hb, owns_below h.own' hb, h.apart⟩
theorem Dsk.drew (h : Dsk W w R D base e e' v v' ss ws) : Dsk W w.drew R D base e e' v v' ss ws := h.below ((Below.refl _ _).drew)
theorem Dsk.alloc (h : Dsk W w R D base e e' v v' ss ws) (o : Obj) : Dsk W (w.alloc o) R D base e e' v v' ss ws := h.below ((Below.refl _ _).alloc (Nat.le_refl _) _)
theorem Dsk.push (h : Dsk W w R D base e e' v v' ss ws) {w1 : World} {g cap H : Nat} {s : ByteArray} (hown : w1.ownsRow base e 1 (.slice (some ⟨g, 0, none⟩) (ss.length + 1) cap) (ss.length + 1) (ss.map Value.string ++ [.string s])) (hg : w.grownBy w1 v.ownBlock) (hat : v.ownBlock = some g ∨ g = H) (hH : w.heap.size = H) :
    Dsk W (w1.setCell ⟨D, 0, none⟩ (.slice (some ⟨g, 0, none⟩) (ss.length + 1) cap)) R D base e e' (.slice (some ⟨g, 0, none⟩) (ss.length + 1) cap) v' (ss ++ [s]) ws := by
  have lR : R < w.heap.size := Nat.lt_of_lt_of_le h.hR' h.sz
  have lD : D < w.heap.size := Nat.lt_of_lt_of_le h.hD' h.sz
  have lW : W.heap.size ≤ w.heap.size := h.bel.size
  have nb : ∀ k, k < base → some k ≠ v.ownBlock := fun k hk he => by have := (h.own.lt k he.symm).1; omega
  have cR : ∀ i, w1.cell? ⟨R, i, none⟩ = w.cell? ⟨R, i, none⟩ := fun i => hg.cell_far ⟨R, i, none⟩ lR (nb R h.hR')
  have cD : ∀ i, w1.cell? ⟨D, i, none⟩ = w.cell? ⟨D, i, none⟩ := fun i => hg.cell_far ⟨D, i, none⟩ lD (nb D h.hD')
  have fR : ∀ i, w1.frozen? ⟨R, i, none⟩ = w.frozen? ⟨R, i, none⟩ := fun i => hg.frozen_far ⟨R, i, none⟩ lR (nb R h.hR')
  have fD : ∀ i, w1.frozen? ⟨D, i, none⟩ = w.frozen? ⟨D, i, none⟩ := fun i => hg.frozen_far ⟨D, i, none⟩ lD (nb D h.hD')
  have gb : base ≤ g := (hown.lt g rfl).1
  have hbel : Below W.heap.size W w1 := h.bel.trans ⟨hg.os, hg.tape, hg.output, hg.size, fun k hk => hg.block k (by omega) (nb k (by have := h.hR; have := h.hR'; omega))⟩
  have ap : v'.ownBlock = none ∨ (Value.slice (some ⟨g, 0, none⟩) (ss.length + 1) cap).ownBlock ≠ v'.ownBlock := by
    cases hv' : v'.ownBlock with
    | none => exact .inl rfl
    | some g' =>
      refine .inr fun he => ?_
      have hgg : g = g' := by simpa [Value.ownBlock] using he
      have lt' := (h.own'.lt g' hv').2
      rcases hat with h1 | h1
      · rcases h.apart with h2 | h2 | h2
        · rw [h1] at h2; cases h2
        · rw [hv'] at h2; cases h2
        · rw [h1, hv', hgg] at h2; exact h2 rfl
      · omega
  refine ⟨h.hR, h.hR', h.hD, h.hD', h.ne, ?_, hbel.setCell h.hD _, ?_, ?_, ?_, ?_, ?_, ?_, ?_, ?_, ?_, ?_, ?_⟩
  · have := hg.size; have := h.sz; simp only [World.size_setCell]; omega
  · rw [World.cell?_setCell_other (w := w1) (h := show (⟨D, 0, none⟩ : Addr) ≠ ⟨R, 0, none⟩ from fun he => h.ne (by injection he with h1; exact h1.symm)), cR]; exact h.r0
  · rw [World.cell?_setCell_other (w := w1) (h := show (⟨D, 0, none⟩ : Addr) ≠ ⟨R, 1, none⟩ from fun he => h.ne (by injection he with h1; exact h1.symm)), cR]; exact h.r1
  · rw [World.frozen?_setCell, fR]; exact h.fr0
  · rw [World.frozen?_setCell, fR]; exact h.fr1
  · exact World.cell?_setCell_same w1 _ _ ((cD 0).trans h.d0)
  · rw [World.cell?_setCell_other (w := w1) (h := show (⟨D, 0, none⟩ : Addr) ≠ ⟨D, 1, none⟩ by simp), cD]; exact h.d1
  · rw [World.frozen?_setCell, fD]; exact h.fd0
  · rw [World.frozen?_setCell, fD]; exact h.fd1
  · have := ownsRow_setCell_below hown (a := ⟨D, 0, none⟩) h.hD' (.slice (some ⟨g, 0, none⟩) (ss.length + 1) cap)
    simpa using this
  · have k1 : w1.ownsRow base e' 2 v' ws.length (wcells ws) := h.own'.kept hg (by
      rcases h.apart with h2 | h2 | h2
      · cases hv' : v'.ownBlock with
        | none => exact .inl rfl
        | some _ => rw [h2]; exact .inr (by simp)
      · exact .inl h2
      · exact .inr (fun he => h2 he.symm))
    exact ownsRow_setCell_below k1 (a := ⟨D, 0, none⟩) h.hD' _
  · exact .inr ap
theorem Dsk.push2 (h : Dsk W w R D base e e' v v' ss ws) {w1 : World} {g cap H : Nat} {x : Int × ByteArray} (hown : w1.ownsRow base e' 2 (.slice (some ⟨g, 0, none⟩) (ws.length + 1) cap) (ws.length + 1) (wcells ws ++ [.int .i64 x.1, .string x.2])) (hg : w.grownBy w1 v'.ownBlock) (hat : v'.ownBlock = some g ∨ g = H) (hH : w.heap.size = H) :
    Dsk W (w1.setCell ⟨D, 1, none⟩ (.slice (some ⟨g, 0, none⟩) (ws.length + 1) cap)) R D base e e' v (.slice (some ⟨g, 0, none⟩) (ws.length + 1) cap) ss (ws ++ [x]) := by
  have lR : R < w.heap.size := Nat.lt_of_lt_of_le h.hR' h.sz
  have lD : D < w.heap.size := Nat.lt_of_lt_of_le h.hD' h.sz
  have lW : W.heap.size ≤ w.heap.size := h.bel.size
  have nb : ∀ k, k < base → some k ≠ v'.ownBlock := fun k hk he => by have := (h.own'.lt k he.symm).1; omega
  have cR : ∀ i, w1.cell? ⟨R, i, none⟩ = w.cell? ⟨R, i, none⟩ := fun i => hg.cell_far ⟨R, i, none⟩ lR (nb R h.hR')
  have cD : ∀ i, w1.cell? ⟨D, i, none⟩ = w.cell? ⟨D, i, none⟩ := fun i => hg.cell_far ⟨D, i, none⟩ lD (nb D h.hD')
  have fR : ∀ i, w1.frozen? ⟨R, i, none⟩ = w.frozen? ⟨R, i, none⟩ := fun i => hg.frozen_far ⟨R, i, none⟩ lR (nb R h.hR')
  have fD : ∀ i, w1.frozen? ⟨D, i, none⟩ = w.frozen? ⟨D, i, none⟩ := fun i => hg.frozen_far ⟨D, i, none⟩ lD (nb D h.hD')
  have gb : base ≤ g := (hown.lt g rfl).1
  have hbel : Below W.heap.size W w1 := h.bel.trans ⟨hg.os, hg.tape, hg.output, hg.size, fun k hk => hg.block k (by omega) (nb k (by have := h.hR; have := h.hR'; omega))⟩
  have ap : v.ownBlock = none ∨ v.ownBlock ≠ (Value.slice (some ⟨g, 0, none⟩) (ws.length + 1) cap).ownBlock := by
    cases hv : v.ownBlock with
    | none => exact .inl rfl
    | some g' =>
      refine .inr fun he => ?_
      have hgg : g' = g := by simpa [Value.ownBlock] using he
      have lt' := (h.own.lt g' hv).2
      rcases hat with h1 | h1
      · rcases h.apart with h2 | h2 | h2
        · rw [hv] at h2; cases h2
        · rw [h1] at h2; cases h2
        · rw [h1, hv, hgg] at h2; exact h2 rfl
      · omega
  refine ⟨h.hR, h.hR', h.hD, h.hD', h.ne, ?_, hbel.setCell h.hD _, ?_, ?_, ?_, ?_, ?_, ?_, ?_, ?_, ?_, ?_, ?_⟩
  · have := hg.size; have := h.sz; simp only [World.size_setCell]; omega
  · rw [World.cell?_setCell_other (w := w1) (h := show (⟨D, 1, none⟩ : Addr) ≠ ⟨R, 0, none⟩ from fun he => h.ne (by injection he with h1; exact h1.symm)), cR]; exact h.r0
  · rw [World.cell?_setCell_other (w := w1) (h := show (⟨D, 1, none⟩ : Addr) ≠ ⟨R, 1, none⟩ from fun he => h.ne (by injection he with h1; exact h1.symm)), cR]; exact h.r1
  · rw [World.frozen?_setCell, fR]; exact h.fr0
  · rw [World.frozen?_setCell, fR]; exact h.fr1
  · rw [World.cell?_setCell_other (w := w1) (h := show (⟨D, 1, none⟩ : Addr) ≠ ⟨D, 0, none⟩ by simp), cD]; exact h.d0
  · exact World.cell?_setCell_same w1 _ _ ((cD 1).trans h.d1)
  · rw [World.frozen?_setCell, fD]; exact h.fd0
  · rw [World.frozen?_setCell, fD]; exact h.fd1
  · have k1 : w1.ownsRow base e 1 v ss.length (ss.map Value.string) := h.own.kept hg (by
      rcases h.apart with h2 | h2 | h2
      · exact .inl h2
      · cases hv : v.ownBlock with
        | none => exact .inl rfl
        | some _ => rw [h2]; exact .inr (by simp)
      · exact .inr h2)
    exact ownsRow_setCell_below k1 (a := ⟨D, 1, none⟩) h.hD' _
  · have := ownsRow_setCell_below hown (a := ⟨D, 1, none⟩) h.hD' (.slice (some ⟨g, 0, none⟩) (ws.length + 1) cap)
    rw [List.length_append, wcells_append]
    exact this
  · rcases ap with h1 | h1
    · exact .inl h1
    · exact .inr (.inr h1)
theorem Dsk.grown {w1 : World} (h : Dsk W w R D base e e' v v' ss ws) (hg : w.grownBy w1 v.ownBlock) : w1.cell? ⟨D, 0, none⟩ = some v ∧ w1.frozen? ⟨D, 0, none⟩ = false := by
  have lD : D < w.heap.size := Nat.lt_of_lt_of_le h.hD' h.sz
  have nb : some D ≠ v.ownBlock := fun he => by have := (h.own.lt D he.symm).1; have := h.hD'; omega
  exact ⟨(hg.cell_far ⟨D, 0, none⟩ lD nb).trans h.d0, (hg.frozen_far ⟨D, 0, none⟩ lD nb).trans h.fd0⟩
theorem Dsk.grown2 {w1 : World} (h : Dsk W w R D base e e' v v' ss ws) (hg : w.grownBy w1 v'.ownBlock) : w1.cell? ⟨D, 1, none⟩ = some v' ∧ w1.frozen? ⟨D, 1, none⟩ = false := by
  have lD : D < w.heap.size := Nat.lt_of_lt_of_le h.hD' h.sz
  have nb : some D ≠ v'.ownBlock := fun he => by have := (h.own'.lt D he.symm).1; have := h.hD'; omega
  exact ⟨(hg.cell_far ⟨D, 1, none⟩ lD nb).trans h.d1, (hg.frozen_far ⟨D, 1, none⟩ lD nb).trans h.fd1⟩
end
end Go.Proofs.YtnmaknnnmjfhkaeDoor

namespace Go.Proofs.YtnmaknnnmjfhkaeDoor
open Go.RowKit
set_option maxRecDepth 4000
set_option linter.unusedVariables false
theorem infoStr' : (Tryd.prog.info? 9).map (fun i => (i.zero, i.size, i.bytes)) = some (some (.string ByteArray.empty), 1, 16) := by kernel_rfl
theorem partw_s (n m : Nat) (w : World) (h : n + m = 56) (h1 : 1 ≤ n) (h2 : n ≤ 8) : Calls Tryd.prog 32 #[.int .i64 (n : Int)] w fun e w' => e = .returned (.int .i64 (m : Int)) ∧ w' = w := by
  have hm : (64 - (n : Int) - 8) = (m : Int) := by omega
  go_enter Tryd.func32, Tryd.ntmps32
  go_wp2
  go_ret
  exact ⟨by first | rfl | exact congrArg _ (congrArg _ hm), rfl⟩
theorem below_grown {W w w1 : World} {e : TypeId} {size : Nat} {v : Value} {n B : Nat} {xs : List Value} (hb : Below B W w) (own : w.ownsRow B e size v n xs) (hg : w.grownBy w1 v.ownBlock) (hB : B ≤ w.heap.size) : Below B W w1 :=
  hb.trans ⟨hg.os, hg.tape, hg.output, hg.size, fun k hk => hg.block k (by omega) (fun he => by have := (own.lt k he.symm).1; omega)⟩
theorem own_alloc_size {w : World} {B : Nat} (h : B ≤ w.heap.size) (o : Obj) : B ≤ (w.alloc o).heap.size := by simp; omega
def pieces (s : ByteArray) (m k : Nat) : List ByteArray := (List.range k).map fun i => s.extract (i * m) (i * m + m)
theorem pieces_succ (s : ByteArray) (m k : Nat) : pieces s m (k + 1) = pieces s m k ++ [s.extract (k * m) (k * m + m)] := by simp [pieces, List.range_succ]
def nparts (l m : Nat) : Nat := if l = 0 then 1 else (l - 1) / m + 1
theorem extract_eq_right (s : ByteArray) {a b c : Nat} (h : min (b - a) (s.size - a) = min (c - a) (s.size - a)) : s.extract a b = s.extract a c := by
  apply ByteArray.ext
  simp only [ByteArray.data_extract]
  exact Array.extract_eq_extract_right.2 h
theorem extract_rest (s r : ByteArray) (a m : Nat) (h : r = s.extract a s.size) : r.extract m r.size = s.extract (a + m) s.size := by
  subst h
  rw [ByteArray.extract_extract]
  apply extract_eq_right
  simp only [ByteArray.size_extract]
  omega
theorem extract_part (s r : ByteArray) (a m : Nat) (h : r = s.extract a s.size) : r.extract 0 m = s.extract a (a + m) := by
  subst h
  rw [ByteArray.extract_extract, Nat.add_zero]
  apply extract_eq_right
  omega
theorem extract_all (s r : ByteArray) (a m : Nat) (h : r = s.extract a s.size) (hm : r.size ≤ m) : r = s.extract a (a + m) := by
  subst h
  simp only [ByteArray.size_extract] at hm
  apply extract_eq_right
  omega
theorem nparts_eq (l m k r : Nat) (hm : 0 < m) (hr : k * m + r = l) (h0 : k = 0 ∨ 0 < r) (h1 : r ≤ m) : nparts l m = k + 1 := by
  unfold nparts
  by_cases hl : l = 0
  · rw [if_pos hl]
    rcases h0 with h0 | h0
    · omega
    · omega
  · rw [if_neg hl]
    have : (l - 1) / m = k := by
      rw [Nat.div_eq_iff hm]
      rcases h0 with h0 | h0
      · subst h0; omega
      · omega
    omega
set_option maxHeartbeats 16000000 in
theorem parts_s (s : ByteArray) (n m : Nat) (w : World) (hs : s.size ≤ 1048576) (h : n + m = 56) (h1 : 1 ≤ n) (h2 : n ≤ 8) :
    Calls Tryd.prog 35 #[.string s, .int .i64 (n : Int)] w fun e w' => ∃ g c, e = .returned (.slice (some ⟨g, 0, none⟩) (nparts s.size m) c) ∧ w.heap.size ≤ g ∧ Row w' g ((pieces s m (nparts s.size m)).map Value.string) ∧ Below w.heap.size w w' := by
  obtain ⟨i0, hi0, hz0, hz1, hz2⟩ := info_parts infoStr'
  have HI := hid (And.intro hi0 (And.intro hz0 (And.intro hz1 hz2)))
  clear hi0 hz0 hz1 hz2
  go_enter Tryd.func35, Tryd.ntmps35
  go_wp2_with (go_at_call 32; refine (partw_s n m _ h h1 h2).mono ?_; rintro e w' ⟨rfl, rfl⟩)
  go_loopw [0, 5] (fun x y wr => ∃ (k : Nat) (r : ByteArray), x = .string r ∧ Hid (r = s.extract (k * m) s.size) ∧ k * m + r.size = s.size ∧ Hid (k = 0 ∨ 0 < r.size) ∧ wr.ownsRow w.heap.size 9 1 y k ((pieces s m k).map Value.string) ∧ Below w.heap.size w wr) (fun x _ _ => match x with | .string r => r.size | _ => 0)
  case atStart => exact ⟨0, s, rfl, by show s = _; simp, by simp, .inl rfl, World.ownsRow_lit _ #[] 0 (Nat.le_refl _) (by simp) (by simp), (Below.refl _ _).alloc (Nat.le_refl _) _⟩
  case round =>
    obtain ⟨k, r, rfl, HR, hr, H0, hown, hbel⟩ := hrel
    by_cases hlt : m < r.size
    · have hlt' : (m : Int) < (r.size : Int) := by omega
      have hk1 : k ≤ 1048576 := by have : k * 1 ≤ k * m := Nat.mul_le_mul_left k (by omega); omega
      have hsz : w.heap.size ≤ wr.heap.size := hbel.size
      have HB := hid hbel
      have HO := hid (hown.alloc (.cells #[.string (r.extract 0 m)] 9))
      clear hbel hown
      go_wp2_with (at_builtin; refine wpList_append_lies _ rfl _ _ 25 rfl w.heap.size 9 i0 (.string ByteArray.empty) 1 16 Tryd.underlying25 HI.out.1 HI.out.2.1 HI.out.2.2.1 HI.out.2.2.2 rfl (by omega) _ k _ rfl HO.out ⟨wr.heap.size, 0, none⟩ 1 1 [.string (r.extract 0 m)] rfl rfl (World.news_of_block (heap_alloc_new wr _)) (by intro u hu; simp at hu; subst hu; rfl) (by omega) (by unfold maxLen; omega) (by omega) (own_alloc_size hsz _) (wr.heap.size + 1) (by simp) ?_; intro g cap w3 hown3 hgrow hat hlt3; have HO3 := hid hown3; have HB3 := hid (below_grown (HB.out.alloc hsz _) HO.out hgrow (own_alloc_size hsz _)); clear hown3 hgrow hat)
      refine ⟨⟨k + 1, r.extract m r.size, rfl, ?_, ?_, ?_, ?_, HB3.out⟩, ?_⟩
      · show _ = _
        rw [extract_rest s r _ m HR.out, Nat.add_mul, Nat.one_mul]
      · rw [Nat.add_mul, Nat.one_mul]; simp only [ByteArray.size_extract]; omega
      · exact .inr (by simp only [ByteArray.size_extract]; omega)
      · have e := HO3.out
        rw [extract_part s r _ m HR.out] at e
        rw [pieces_succ, List.map_append]
        exact e
      · simp only [ByteArray.size_extract]; omega
    · have hk1 : k ≤ 1048576 := by have : k * 1 ≤ k * m := Nat.mul_le_mul_left k (by omega); omega
      have hsz : w.heap.size ≤ wr.heap.size := hbel.size
      have HB := hid hbel
      have HN := hid (nparts_eq s.size m k r.size (by omega) hr H0.out (by omega))
      have HO := hid (hown.alloc (.cells #[.string r] 9))
      clear hbel hown H0
      go_wp2_with (at_builtin; refine wpList_append_lies _ rfl _ _ 25 rfl w.heap.size 9 i0 (.string ByteArray.empty) 1 16 Tryd.underlying25 HI.out.1 HI.out.2.1 HI.out.2.2.1 HI.out.2.2.2 rfl (by omega) _ k _ rfl HO.out ⟨wr.heap.size, 0, none⟩ 1 1 [.string r] rfl rfl (World.news_of_block (heap_alloc_new wr _)) (by intro u hu; simp at hu; subst hu; rfl) (by omega) (by unfold maxLen; omega) (by omega) (own_alloc_size hsz _) (wr.heap.size + 1) (by simp) ?_; intro g cap w3 hown3 hgrow hat hlt3; have HO3 := hid hown3; have HB3 := hid (below_grown (HB.out.alloc hsz _) HO.out hgrow (own_alloc_size hsz _)); clear hown3 hgrow hat)
      go_ret
      refine ⟨g, cap, by rw [HN.out]; rfl, (HO3.out.lt g rfl).1, ?_, HB3.out⟩
      have e := owns_row HO3.out
      rw [HN.out, pieces_succ, List.map_append]
      rw [extract_all s r _ m HR.out (by omega)] at e
      exact e
end Go.Proofs.YtnmaknnnmjfhkaeDoor

namespace Go.Proofs.YtnmaknnnmjfhkaeDoor
open Go.RowKit
set_option maxRecDepth 4000
set_option linter.unusedVariables false
def npages (l : Nat) (n : Int) : Int := if 1 ≤ n ∧ n ≤ 8 then (nparts l (56 - n).toNat : Int) else 0
theorem partw_i (n m : Nat) (w : World) (h : n + m = 56) (h1 : 1 ≤ n) (h2 : n ≤ 8) : Calls Tryd.prog 33 #[.int .i64 (n : Int)] w fun e w' => e = .returned (.int .i64 (m : Int)) ∧ w' = w := by
  have hm : (64 - (n : Int) - 8) = (m : Int) := by omega
  go_enter Tryd.func33, Tryd.ntmps33
  go_wp2
  go_ret
  exact ⟨by first | rfl | exact congrArg _ (congrArg _ hm), rfl⟩
theorem pages_i (s : ByteArray) (n : Int) (w : World) (hs : s.size ≤ 1048576) :
    Calls Tryd.prog 10 #[.string s, .int .i64 n] w fun e w' => e = .returned (.int .i64 (npages s.size n)) ∧ Below w.heap.size w w' := by
  obtain ⟨R, HR⟩ : ∃ R, Hid (R = npages s.size n) := ⟨_, hid rfl⟩
  rw [← HR.out]
  by_cases hn : 1 ≤ n ∧ n ≤ 8
  · obtain ⟨m, rfl⟩ : ∃ m : Nat, n = (m : Int) := ⟨n.toNat, by omega⟩
    obtain ⟨q, hq⟩ : ∃ q : Nat, m + q = 56 := ⟨56 - m, by omega⟩
    have hd : decide (1 ≤ (m : Int) ∧ (m : Int) ≤ 8) = true := by simp; omega
    by_cases hz : s.size = 0
    · have hz' : s = ByteArray.empty := by apply ByteArray.ext; exact Array.eq_empty_of_size_eq_zero hz
      subst hz'
      have hR : R = 1 := by rw [HR.out]; unfold npages nparts; rw [if_pos hn]; simp
      clear HR
      subst hR
      go_enter Tryd.func10, Tryd.ntmps10
      go_wp2_with (first | (go_at_call 37; refine (width_i _ _).mono ?_; rw [hd]; rintro e w' ⟨rfl, rfl⟩))
      go_ret
      exact ⟨rfl, Below.refl _ _⟩
    · obtain ⟨l, hl⟩ : ∃ l : Nat, s.size = l + 1 := ⟨s.size - 1, by omega⟩
      have hR : R = ((l / q : Nat) : Int) + 1 := by
        rw [HR.out]; unfold npages nparts
        rw [if_pos hn, if_neg hz, show (56 - (m : Int)).toNat = q by omega, hl]
        simp
      obtain ⟨d, hdq⟩ : ∃ d : Nat, d = l / q := ⟨_, rfl⟩
      have hq1 : d ≤ l := by rw [hdq]; exact Nat.div_le_self _ _
      have hq2 : (l : Int) / (q : Int) = (d : Int) := by rw [hdq]; simp
      rw [← hdq] at hR
      clear HR hdq
      subst hR
      have hne : s.toList.isEmpty = false := by rw [isEmpty_size]; simp [hz]
      go_enter Tryd.func10, Tryd.ntmps10
      go_wp2_with (first | (go_at_call 37; refine (width_i _ _).mono ?_; rw [hd]; rintro e w' ⟨rfl, rfl⟩) | (go_at_call 33; refine (partw_i m q _ hq (by omega) (by omega)).mono ?_; rintro e w' ⟨rfl, rfl⟩))
      go_ret
      exact ⟨rfl, Below.refl _ _⟩
  · have hR : R = 0 := by rw [HR.out]; unfold npages; exact if_neg hn
    clear HR
    subst hR
    have hd : decide (1 ≤ n ∧ n ≤ 8) = false := by simp; omega
    go_enter Tryd.func10, Tryd.ntmps10
    go_wp2_with (first | (go_at_call 37; refine (width_i _ _).mono ?_; rw [hd]; rintro e w' ⟨rfl, rfl⟩))
    go_ret
    exact ⟨rfl, Below.refl _ _⟩
end Go.Proofs.YtnmaknnnmjfhkaeDoor

namespace Go.Proofs.YtnmaknnnmjfhkaeDoor
open Go.RowKit
set_option linter.unusedVariables false
theorem grown_trans {a b c : World} {r : Option Nat} (h : a.grownBy b r) (k : b.grownBy c r) : a.grownBy c r :=
  ⟨k.os.trans h.os, k.tape.trans h.tape, k.output.trans h.output, Nat.le_trans h.size k.size, fun i hi hr => (k.block i (Nat.lt_of_lt_of_le hi h.size) hr).trans (h.block i hi hr)⟩
theorem grown_of_below {a b : World} (r : Option Nat) (h : Below a.heap.size a b) : a.grownBy b r := ⟨h.os, h.tape, h.output, h.size, fun i hi _ => h.block i hi⟩
theorem grown_set {a b : World} {g : Nat} (h : a.grownBy b (some g)) (i : Nat) (v : Value) : a.grownBy (b.setCell ⟨g, i, none⟩ v) (some g) :=
  grown_trans h ⟨rfl, rfl, rfl, by simp [World.setCell], fun j _ hj => Below.heap_setCell _ _ _ _ (fun e => hj (by rw [e]))⟩
theorem grown_below {a b : World} {r : Option Nat} {B : Nat} (h : a.grownBy b r) (hB : B ≤ a.heap.size) (hr : ∀ g, r = some g → B ≤ g) : Below B a b :=
  ⟨h.os, h.tape, h.output, h.size, fun k hk => h.block k (by omega) (fun e => by have := hr k e.symm; omega)⟩
theorem Row.grown {w w' : World} {g : Nat} {cs : List Value} {r : Option Nat} (h : Row w g cs) (hg : w.grownBy w' r) (hn : some g ≠ r) : Row w' g cs :=
  ⟨Nat.lt_of_lt_of_le h.lt hg.size, fun i v hv => (World.cell?_of_block (a := ⟨g, i, none⟩) (hg.block g h.lt hn)).trans (h.cell i v hv), fun i hi => (World.frozen?_of_block (a := ⟨g, i, none⟩) (hg.block g h.lt hn)).trans (h.froz i hi)⟩
def OwnS (w : World) (a : Option Addr) (cs : List Value) : Prop := cs = [] ∨ ∃ g, a = some ⟨g, 0, none⟩ ∧ Row w g cs
def blk (a : Option Addr) (n : Nat) : Option Nat := if n = 0 then none else a.map (·.block)
theorem blk_pos (b o : Nat) (n : Nat) (h : n ≠ 0) : blk (some ⟨b, o, none⟩) n = some b := by simp [blk, h]
structure OwnD (w : World) (a : Option Addr) (ss : List ByteArray) (a' : Option Addr) (ws : List (Int × ByteArray)) : Prop where
  s : OwnS w a (ss.map Value.string)
  p : OwnS w a' (wcells ws)
  ne : blk a ss.length = none ∨ blk a' ws.length = none ∨ blk a ss.length ≠ blk a' ws.length
theorem OwnS.below {w w' : World} {a : Option Addr} {cs : List Value} (h : OwnS w a cs) (hb : Below w.heap.size w w') : OwnS w' a cs := by
  rcases h with h | ⟨g, h1, h2⟩
  · exact .inl h
  · exact .inr ⟨g, h1, h2.below hb⟩
theorem OwnS.grown {w w' : World} {a : Option Addr} {cs : List Value} {r : Option Nat} (h : OwnS w a cs) (hg : w.grownBy w' r) (hn : ∀ g, a = some ⟨g, 0, none⟩ → cs ≠ [] → some g ≠ r) : OwnS w' a cs := by
  by_cases hc : cs = []
  · exact .inl hc
  · obtain ⟨g, h1, h2⟩ := h.resolve_left hc
    exact .inr ⟨g, h1, h2.grown hg (hn g h1 hc)⟩
theorem OwnS.lt {w : World} {a : Option Addr} {cs : List Value} (h : OwnS w a cs) (n : Nat) (hn : n ≠ 0 → cs ≠ []) : ∀ g, blk a n = some g → g < w.heap.size := fun g hg => by
  by_cases h0 : n = 0
  · subst h0; cases hg
  · obtain ⟨g', rfl, h2⟩ := h.resolve_left (hn h0)
    rw [blk_pos g' 0 n h0] at hg
    cases hg
    exact h2.lt
theorem OwnD.below {w w' : World} {a a' : Option Addr} {ss : List ByteArray} {ws : List (Int × ByteArray)} (h : OwnD w a ss a' ws) (hb : Below w.heap.size w w') : OwnD w' a ss a' ws := ⟨h.s.below hb, h.p.below hb, h.ne⟩
theorem OwnS.strs {w : World} {a : Option Addr} {ss : List ByteArray} (h : OwnS w a (ss.map Value.string)) : Strs w a ss := by
  rcases h with h | ⟨g, rfl, h2⟩
  · exact .inl (by simpa using h)
  · exact h2.strs
theorem OwnS.wrs {w : World} {a : Option Addr} {ws : List (Int × ByteArray)} (h : OwnS w a (wcells ws)) : Wrs w a ws := by
  rcases h with h | ⟨g, rfl, h2⟩
  · exact .inl (by have := congrArg List.length h; rw [wcells_length, List.length_nil] at this; exact List.eq_nil_of_length_eq_zero (by omega))
  · exact h2.wrs
theorem strs_ne {ss : List ByteArray} (h : ss.length ≠ 0) : ss.map Value.string ≠ [] := fun e => h (by have := congrArg List.length e; simpa using this)
theorem wcells_ne {ws : List (Int × ByteArray)} (h : ws.length ≠ 0) : wcells ws ≠ [] := fun e => h (by have := congrArg List.length e; rw [wcells_length, List.length_nil] at this; omega)
end Go.Proofs.YtnmaknnnmjfhkaeDoor
