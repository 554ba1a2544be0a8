import Derived.Test.YtnmaknnnmjfhkaeDoorPrG27
import Derived.Laws.IdiomCopy
import Derived.Great.BuildSlice
import Derived.Laws.ResultCell
import Derived.WalkKit
import Derived.BigQuiet
import Derived.Deep.QuietTactic
import Derived.Deep.RegionHeld3
set_option maxHeartbeats 16000000
set_option maxRecDepth 8000
namespace Go.Proofs.YtnmaknnnmjfhkaeDoor
open Go.RowKit
set_option linter.unusedVariables false
structure PR (w : World) (g : Nat) (ps : List (List Int)) : Prop where
  lt : g < w.heap.size
  len : ∀ p ∈ ps, p.length = 64
  cell : ∀ k, k < ps.length → ∀ j, j < 64 → w.cell? ⟨g, k * 64 + j, none⟩ = some (.int .u8 ((ps.getD k []).getD j 0))
  froz : ∀ i, i < ps.length * 64 → w.frozen? ⟨g, i, none⟩ = false
theorem PR.below {w w' : World} {g : Nat} {ps : List (List Int)} (h : PR w g ps) (hb : Below w.heap.size w w') : PR w' g ps :=
  ⟨Nat.lt_of_lt_of_le h.lt hb.size, h.len, fun k hk j hj => (hb.cell (p := ⟨g, _, none⟩) h.lt).trans (h.cell k hk j hj), fun i hi => (hb.frozen (p := ⟨g, i, none⟩) h.lt).trans (h.froz i hi)⟩
theorem PR.grown {w w' : World} {g : Nat} {ps : List (List Int)} {r : Option Nat} (h : PR w g ps) (hg : w.grownBy w' r) (hn : some g ≠ r) : PR w' g ps :=
  ⟨Nat.lt_of_lt_of_le h.lt hg.size, h.len, fun k hk j hj => (World.cell?_of_block (a := ⟨g, _, none⟩) (hg.block g h.lt hn)).trans (h.cell k hk j hj), fun i hi => (World.frozen?_of_block (a := ⟨g, i, none⟩) (hg.block g h.lt hn)).trans (h.froz i hi)⟩
theorem PR.other {w : World} {g : Nat} {ps : List (List Int)} (h : PR w g ps) (p : Addr) (hp : p.block ≠ g) (v : Value) : PR (w.setCell p v) g ps := by
  refine ⟨by simpa [World.setCell] using h.lt, h.len, fun k hk j hj => ?_, fun i hi => ?_⟩
  · rw [World.cell?_setCell_other (w := w) (h := fun e => hp (by rw [e]))]; exact h.cell k hk j hj
  · rw [World.frozen?_setCell]; exact h.froz i hi
theorem getD_len {ps : List (List Int)} (h : ∀ p ∈ ps, p.length = 64) {k : Nat} (hk : k < ps.length) : (ps.getD k []).length = 64 := h _ (by simp [List.getD, hk])
theorem PR.there {w : World} {g : Nat} {ps : List (List Int)} (h : PR w g ps) {k : Nat} (hk : k < ps.length) : w.there g (k * 64) 64 := fun j hj => by
  rw [h.cell k hk j hj]; exact ⟨rfl, h.froz _ (by omega)⟩
theorem PR.range {w : World} {g : Nat} {ps : List (List Int)} (h : PR w g ps) {k : Nat} (hk : k < ps.length) : w.rangeAt g (k * 64) ((ps.getD k []).map (Value.int .u8)) := fun j v hv => by
  obtain ⟨hj, e⟩ := List.getElem?_eq_some_iff.1 hv
  simp only [List.length_map] at hj
  have h64 := getD_len h.len hk
  rw [h.cell k hk j (by omega)]
  rw [← e]
  simp only [List.getElem_map]
  rw [List.getD_eq_getElem?_getD (l := ps.getD k []), List.getElem?_eq_getElem hj]
  rfl
theorem PR.plt {w : World} {g : Nat} {ps : List (List Int)} (h : PR w g ps) : Plt w (some ⟨g, 0, none⟩) ps :=
  .inr ⟨g, 0, rfl, h.lt, fun i hi => by rw [Nat.zero_add]; exact h.range hi⟩
theorem PR.set {w : World} {g : Nat} {ps : List (List Int)} (h : PR w g ps) (k : Nat) (hk : k < ps.length) (x : List Int) (hx : x.length = 64) : PR (w.setCells g (k * 64) (x.map (Value.int .u8))) g (ps.set k x) := by
  have hl : (x.map (Value.int .u8)).length = 64 := by simp [hx]
  refine ⟨by rw [setCells_size]; exact h.lt, fun p hp => ?_, fun i hi j hj => ?_, fun i hi => ?_⟩
  · rcases List.mem_or_eq_of_mem_set hp with h1 | h1
    · exact h.len p h1
    · rw [h1]; exact hx
  · rw [List.length_set] at hi
    by_cases he : i = k
    · subst he
      have e1 : (ps.set i x).getD i [] = x := by rw [List.getD_eq_getElem?_getD, List.getElem?_set_self hk]; rfl
      rw [e1, World.cell?_setCells_in g _ (i * 64) w (fun j hj => by rw [hl] at hj; exact (h.there hk j hj).1) j (by omega)]
      simp [List.getD, show j < x.length by omega]
    · have e1 : (ps.set k x).getD i [] = ps.getD i [] := by rw [List.getD_eq_getElem?_getD, List.getElem?_set_ne (fun e => he e.symm), List.getD_eq_getElem?_getD]
      rw [e1, World.cell?_setCells_out g _ (k * 64) w ⟨g, i * 64 + j, none⟩ (fun _ _ => by rw [hl]; show i * 64 + j < k * 64 ∨ k * 64 + 64 ≤ i * 64 + j; omega)]
      exact h.cell i hi j hj
  · rw [World.frozen?_setCells]; exact h.froz i (by simpa using hi)
theorem pr_zero {w : World} {g n : Nat} (h : Row w g (List.replicate (n * 64) (.int .u8 0))) : PR w g (List.replicate n (List.replicate 64 0)) := by
  refine ⟨h.lt, fun p hp => by rw [List.eq_of_mem_replicate hp]; simp, fun k hk j hj => ?_, fun i hi => h.froz i (by simpa using hi)⟩
  rw [List.length_replicate] at hk
  have e1 : ((List.replicate n (List.replicate 64 (0 : Int))).getD k []).getD j 0 = 0 := by
    rw [List.getD_eq_getElem?_getD (l := List.replicate n _), List.getElem?_replicate, if_pos hk, Option.getD_some, List.getD_eq_getElem?_getD, List.getElem?_replicate, if_pos hj]
    rfl
  rw [e1]
  exact h.cell _ _ (by rw [List.getElem?_replicate, if_pos (by omega)])
def hcells (hs : List (Int × List Int)) : List Value := hs.flatMap fun x => .int .i64 x.1 :: x.2.map (Value.int .u8)
theorem hcells_append (a b : List (Int × List Int)) : hcells (a ++ b) = hcells a ++ hcells b := by simp [hcells]
theorem hcells_at : ∀ (hs : List (Int × List Int)), (∀ p ∈ hs, p.2.length = 64) → ∀ (i : Nat), i < hs.length → ∀ j, (Value.int .i64 (hs.getD i (0, [])).1 :: (hs.getD i (0, [])).2.map (Value.int .u8))[j]? ≠ none → (hcells hs)[i * 65 + j]? = (Value.int .i64 (hs.getD i (0, [])).1 :: (hs.getD i (0, [])).2.map (Value.int .u8))[j]?
  | x :: r, hl, 0, _, j, hj => by
    have e : hcells (x :: r) = (.int .i64 x.1 :: x.2.map (Value.int .u8)) ++ hcells r := by simp [hcells]
    have e2 : (x :: r).getD 0 (0, []) = x := rfl
    rw [e2] at hj ⊢
    rw [e, Nat.zero_mul, Nat.zero_add, List.getElem?_append_left]
    rcases Nat.lt_or_ge j (Value.int .i64 x.1 :: x.2.map (Value.int .u8)).length with h | h
    · exact h
    · exact absurd (List.getElem?_eq_none h) hj
  | x :: r, hl, i + 1, h, j, hj => by
    have e : hcells (x :: r) = (.int .i64 x.1 :: x.2.map (Value.int .u8)) ++ hcells r := by simp [hcells]
    have hx : (Value.int .i64 x.1 :: x.2.map (Value.int .u8)).length = 65 := by simp [hl x (by simp)]
    have e2 : (x :: r).getD (i + 1) (0, []) = r.getD i (0, []) := by simp [List.getD]
    rw [e2] at hj ⊢
    rw [e, List.getElem?_append_right (by omega), hx, show (i + 1) * 65 + j - 65 = i * 65 + j by omega]
    exact hcells_at r (fun p hp => hl p (by simp [hp])) i (by simpa using h) j hj
theorem hcells_length (hs : List (Int × List Int)) (hl : ∀ p ∈ hs, p.2.length = 64) : (hcells hs).length = hs.length * 65 := by
  induction hs with
  | nil => rfl
  | cons x r ih =>
    have e : hcells (x :: r) = (.int .i64 x.1 :: x.2.map (Value.int .u8)) ++ hcells r := by simp [hcells]
    rw [e, List.length_append, ih (fun p hp => hl p (by simp [hp]))]
    simp [hl x (by simp)]; omega
theorem Row.hld {w : World} {g : Nat} {hs : List (Int × List Int)} (h : Row w g (hcells hs)) (hl : ∀ p ∈ hs, p.2.length = 64) : Hld w (some ⟨g, 0, none⟩) hs :=
  .inr ⟨g, 0, rfl, h.lt, fun i hi j v hv => by
    rw [Nat.zero_add]
    exact h.cell _ _ ((hcells_at hs hl i hi j (by rw [hv]; simp)).trans hv)⟩
structure Drs (W w : World) (n : Nat) (box : Value) (e : TypeId) (v : Value) (ps : List (List Int)) (hs : List (Int × List Int)) : Prop where
  sz : W.heap.size + 1 + 1 + 1 + 1 ≤ w.heap.size
  bel : Below W.heap.size W w
  b1 : w.cell? ⟨W.heap.size, 1, none⟩ = some box
  r0 : w.cell? ⟨W.heap.size + 1, 0, none⟩ = some (.slice none 0 0)
  r1 : w.cell? ⟨W.heap.size + 1, 1, none⟩ = some (.slice none 0 0)
  fr0 : w.frozen? ⟨W.heap.size + 1, 0, none⟩ = false
  fr1 : w.frozen? ⟨W.heap.size + 1, 1, none⟩ = false
  d0 : w.cell? ⟨W.heap.size + 1 + 1 + 1, 0, none⟩ = some (.slice (some ⟨W.heap.size + 1 + 1, 0, none⟩) n n)
  d1 : w.cell? ⟨W.heap.size + 1 + 1 + 1, 1, none⟩ = some v
  fd1 : w.frozen? ⟨W.heap.size + 1 + 1 + 1, 1, none⟩ = false
  pr : PR w (W.heap.size + 1 + 1) ps
  len : ∀ p ∈ hs, p.2.length = 64
  own : w.ownsRow (W.heap.size + 1 + 1 + 1 + 1) e 65 v hs.length (hcells hs)
section
variable {W w w' : World} {n : Nat} {box v : Value} {e : TypeId} {ps : List (List Int)} {hs : List (Int × List Int)}
theorem Drs.below (h : Drs W w n box e v ps hs) (hb : Below w.heap.size w w') : Drs W w' n box e v ps hs :=
  have hs := h.sz
  have bc : ∀ b i, b < W.heap.size + 1 + 1 + 1 + 1 → w'.cell? ⟨b, i, none⟩ = w.cell? ⟨b, i, none⟩ := fun b i hi => hb.cell (p := ⟨b, i, none⟩) (by show b < _; omega)
  have bf : ∀ b i, b < W.heap.size + 1 + 1 + 1 + 1 → w'.frozen? ⟨b, i, none⟩ = w.frozen? ⟨b, i, none⟩ := fun b i hi => hb.frozen (p := ⟨b, i, none⟩) (by show b < _; omega)
  ⟨Nat.le_trans hs hb.size, h.bel.trans (hb.mono (by omega)), (bc _ _ (by omega)).trans h.b1, (bc _ _ (by omega)).trans h.r0, (bc _ _ (by omega)).trans h.r1, (bf _ _ (by omega)).trans h.fr0, (bf _ _ (by omega)).trans h.fr1,
    (bc _ _ (by omega)).trans h.d0, (bc _ _ (by omega)).trans h.d1, (bf _ _ (by omega)).trans h.fd1, h.pr.below hb, h.len, owns_below h.own hb⟩
theorem Drs.drew (h : Drs W w n box e v ps hs) : Drs W w.drew n box e v ps hs := h.below ((Below.refl _ _).drew)
theorem Drs.alloc (h : Drs W w n box e v ps hs) (o : Obj) : Drs W (w.alloc o) n box e v ps hs := h.below ((Below.refl _ _).alloc (Nat.le_refl _) _)
theorem Drs.fill (h : Drs W w n box e v ps []) (hv : v = .slice none 0 0) (k : Nat) (hk : k < ps.length) (x : List Int) (hx : x.length = 64) : Drs W (w.setCells (W.heap.size + 1 + 1) (k * 64) (x.map (Value.int .u8))) n box e v (ps.set k x) [] := by
  have hs := h.sz
  have co : ∀ b i, b ≠ W.heap.size + 1 + 1 → (w.setCells (W.heap.size + 1 + 1) (k * 64) (x.map (Value.int .u8))).cell? ⟨b, i, none⟩ = w.cell? ⟨b, i, none⟩ := fun b i hb => World.cell?_setCells_out _ _ _ _ _ (fun e => absurd e hb)
  exact ⟨by rw [setCells_size]; exact hs, Go.below_setCells (by omega) _ _ _ h.bel, (co _ _ (by omega)).trans h.b1, (co _ _ (by omega)).trans h.r0, (co _ _ (by omega)).trans h.r1, (World.frozen?_setCells _ _ _ _ _).trans h.fr0, (World.frozen?_setCells _ _ _ _ _).trans h.fr1,
    (co _ _ (by omega)).trans h.d0, (co _ _ (by omega)).trans h.d1, (World.frozen?_setCells _ _ _ _ _).trans h.fd1, h.pr.set k hk x hx, h.len, by rw [hv]; exact World.ownsRow_nil _ _ _ _⟩
theorem Drs.grown {w1 : World} (h : Drs W w n box e v ps hs) (hg : w.grownBy w1 v.ownBlock) : w1.cell? ⟨W.heap.size + 1 + 1 + 1, 1, none⟩ = some v ∧ w1.frozen? ⟨W.heap.size + 1 + 1 + 1, 1, none⟩ = false := by
  have hs := h.sz
  have nb : some (W.heap.size + 1 + 1 + 1) ≠ v.ownBlock := fun he => by have := (h.own.lt _ he.symm).1; omega
  exact ⟨(hg.cell_far ⟨W.heap.size + 1 + 1 + 1, 1, none⟩ (by show W.heap.size + 1 + 1 + 1 < _; omega) nb).trans h.d1, (hg.frozen_far ⟨W.heap.size + 1 + 1 + 1, 1, none⟩ (by show W.heap.size + 1 + 1 + 1 < _; omega) nb).trans h.fd1⟩
theorem Drs.push (h : Drs W w n box e v ps hs) {w1 : World} {g cap : Nat} {x : Int × List Int} (hx : x.2.length = 64) (hown : w1.ownsRow (W.heap.size + 1 + 1 + 1 + 1) e 65 (.slice (some ⟨g, 0, none⟩) (hs.length + 1) cap) (hs.length + 1) (hcells hs ++ (.int .i64 x.1 :: x.2.map (Value.int .u8)))) (hg : w.grownBy w1 v.ownBlock) :
    Drs W (w1.setCell ⟨W.heap.size + 1 + 1 + 1, 1, none⟩ (.slice (some ⟨g, 0, none⟩) (hs.length + 1) cap)) n box e (.slice (some ⟨g, 0, none⟩) (hs.length + 1) cap) ps (hs ++ [x]) := by
  have hs' := h.sz
  have nb : ∀ k, k < W.heap.size + 1 + 1 + 1 + 1 → some k ≠ v.ownBlock := fun k hk he => by have := (h.own.lt k he.symm).1; omega
  have lt : ∀ b, b < W.heap.size + 1 + 1 + 1 + 1 → b < w.heap.size := fun b hb => by omega
  have cc : ∀ b i, b < W.heap.size + 1 + 1 + 1 + 1 → w1.cell? ⟨b, i, none⟩ = w.cell? ⟨b, i, none⟩ := fun b i hb => hg.cell_far ⟨b, i, none⟩ (lt b hb) (nb b hb)
  have ff : ∀ b i, b < W.heap.size + 1 + 1 + 1 + 1 → w1.frozen? ⟨b, i, none⟩ = w.frozen? ⟨b, i, none⟩ := fun b i hb => hg.frozen_far ⟨b, i, none⟩ (lt b hb) (nb b hb)
  have so : ∀ b i, b < W.heap.size + 1 + 1 + 1 + 1 → b ≠ W.heap.size + 1 + 1 + 1 → (w1.setCell ⟨W.heap.size + 1 + 1 + 1, 1, none⟩ (.slice (some ⟨g, 0, none⟩) (hs.length + 1) cap)).cell? ⟨b, i, none⟩ = w.cell? ⟨b, i, none⟩ := fun b i hb hn => by
    rw [World.cell?_setCell_other (w := w1) (h := show (⟨W.heap.size + 1 + 1 + 1, 1, none⟩ : Addr) ≠ ⟨b, i, none⟩ from fun he => hn (by injection he with h1; exact h1.symm))]; exact cc b i hb
  have hbel : Below W.heap.size W w1 := h.bel.trans ⟨hg.os, hg.tape, hg.output, hg.size, fun k hk => hg.block k (by omega) (nb k (by omega))⟩
  refine ⟨by simp only [World.size_setCell]; have := hg.size; omega, hbel.setCell (by show W.heap.size ≤ W.heap.size + 1 + 1 + 1; omega) _, (so _ _ (by omega) (by omega)).trans h.b1, (so _ _ (by omega) (by omega)).trans h.r0, (so _ _ (by omega) (by omega)).trans h.r1,
    (World.frozen?_setCell _ _ _ _).trans ((ff _ _ (by omega)).trans h.fr0), (World.frozen?_setCell _ _ _ _).trans ((ff _ _ (by omega)).trans h.fr1), ?_, World.cell?_setCell_same w1 _ _ ((cc _ _ (by omega)).trans h.d1), (World.frozen?_setCell _ _ _ _).trans ((ff _ _ (by omega)).trans h.fd1), ?_, ?_, ?_⟩
  · rw [World.cell?_setCell_other (w := w1) (h := show (⟨W.heap.size + 1 + 1 + 1, 1, none⟩ : Addr) ≠ ⟨W.heap.size + 1 + 1 + 1, 0, none⟩ by simp)]; exact (cc _ _ (by omega)).trans h.d0
  · exact (h.pr.grown hg (nb _ (by omega))).other _ (by show W.heap.size + 1 + 1 + 1 ≠ W.heap.size + 1 + 1; omega) _
  · intro p hp
    rcases List.mem_append.1 hp with h1 | h1
    · exact h.len p h1
    · simp at h1; rw [h1]; exact hx
  · have k1 := ownsRow_setCell_below hown (a := ⟨W.heap.size + 1 + 1 + 1, 1, none⟩) (by show W.heap.size + 1 + 1 + 1 < _; omega) (.slice (some ⟨g, 0, none⟩) (hs.length + 1) cap)
    have e1 : hcells (hs ++ [x]) = hcells hs ++ (.int .i64 x.1 :: x.2.map (Value.int .u8)) := by rw [hcells_append]; simp [hcells]
    rw [List.length_append, e1]
    exact k1
theorem Drs.start (w wx : World) (n : Nat) (c0 c1 : Value) (t0 t1 t2 e : TypeId) (hb : Below ((w.alloc (.cells #[c0, c1] t0)).alloc (.cells #[.slice none 0 0, .slice none 0 0] t1)).heap.size ((w.alloc (.cells #[c0, c1] t0)).alloc (.cells #[.slice none 0 0, .slice none 0 0] t1)) wx)
    (hs : wx.heap.size = w.heap.size + 1 + 1 + 1) (hr : Row wx (w.heap.size + 1 + 1) (List.replicate (n * 64) (.int .u8 0))) :
    Drs w (wx.alloc (.cells #[.slice (some ⟨w.heap.size + 1 + 1, 0, none⟩) n n, .slice none 0 0] t2)) n c1 e (.slice none 0 0) (List.replicate n (List.replicate 64 0)) [] := by
  have rb := (((row_new w #[c0, c1] t0).alloc (.cells #[.slice none 0 0, .slice none 0 0] t1)).below hb).alloc (.cells #[.slice (some ⟨w.heap.size + 1 + 1, 0, none⟩) n n, .slice none 0 0] t2)
  have rr := ((row_new' (w.alloc (.cells #[c0, c1] t0)) #[.slice none 0 0, .slice none 0 0] t1 (w.heap.size + 1) (by simp)).below hb).alloc (.cells #[.slice (some ⟨w.heap.size + 1 + 1, 0, none⟩) n n, .slice none 0 0] t2)
  have rd := row_new' wx #[.slice (some ⟨w.heap.size + 1 + 1, 0, none⟩) n n, .slice none 0 0] t2 (w.heap.size + 1 + 1 + 1) hs.symm
  have hB : Below w.heap.size w wx := (((Below.refl _ _).alloc (Nat.le_refl _) _).alloc (by simp) _).trans (hb.mono (by simp; omega))
  exact ⟨by simp [hs], hB.alloc hB.size _, rb.cell 1 _ rfl, rr.cell 0 _ rfl, rr.cell 1 _ rfl, rr.froz 0 (by simp), rr.froz 1 (by simp), rd.cell 0 _ rfl, rd.cell 1 _ rfl, rd.froz 1 (by simp), pr_zero (hr.alloc _), by simp, World.ownsRow_nil _ _ _ _⟩
end
end Go.Proofs.YtnmaknnnmjfhkaeDoor

namespace Go.Proofs.YtnmaknnnmjfhkaeDoor
open Go.RowKit
set_option linter.unusedVariables false
theorem step_copy_cells {P : Program} {ops : Array Oper} {o : Oper} {a : Act} {w : World} {K : Act → World → Prop} {Q : Exit → Act → World → Prop} {E : Prop}
    (hg : o.guard = none) (d x : Operand) (dT sT : TypeId) (hop : o.op = Op.call { callee := Callee.builtin Builtin.copy, args := #[d, x], argTypes := #[dT, sT] })
    (elem : TypeId) (hu : P.underlying dT = some (.slice elem)) (hz : (P.info? elem).map (·.size) = some 1)
    (b off dLen dCap : Nat) (hd : a.eval d = .slice (some ⟨b, off, none⟩) dLen dCap) (s : Addr) (sLen sCap : Nat) (hx : a.eval x = .slice (some s) sLen sCap) (cs : List Value) (hn : cs.length = Nat.min sLen dLen)
    (hsrc : ∀ j v, cs[j]? = some v → w.cell? (s.add j) = some v) (hc : ∀ j, j < cs.length → (w.cell? ⟨b, off + j, none⟩).isSome = true) (hf : ∀ j, j < cs.length → w.frozen? ⟨b, off + j, none⟩ = false) (h1 : ∀ v ∈ cs, v.oneCell' = true)
    (hK : K (a.put o.dst (goInt cs.length)) (w.setCells b off cs)) :
    if Region.wanted o (yielded ops a.tmps) = true then Oper.wp P o a w K Q else E := by
  have hw : Region.wanted o (yielded ops a.tmps) = true := by simp [Region.wanted, hg]
  rw [if_pos hw]
  have hrun := run_copy_cells (P := P) w dT sT o.type elem b off dLen dCap s sLen sCap cs hu hz hn hsrc hc hf h1
  unfold Oper.wp
  simp [execOp, hop, resolve, invoke, builtin, hd, hx, hrun, Result.andThen]
  exact hK
def torn (k : Nat) (x y : List Int) : List Int := x.take k ++ y.drop k
theorem torn_length (k : Nat) (x y : List Int) (hk : k ≤ 64) (hx : x.length = 64) (hy : y.length = 64) : (torn k x y).length = 64 := by simp [torn]; omega
theorem PR.part {w : World} {g : Nat} {ps : List (List Int)} (h : PR w g ps) (i : Nat) (hi : i < ps.length) (k : Nat) (hk : k ≤ 64) (x : List Int) (hx : x.length = 64) : PR (w.setCells g (i * 64) ((x.take k).map (Value.int .u8))) g (ps.set i (torn k x (ps.getD i []))) := by
  have hl : ((x.take k).map (Value.int .u8)).length = k := by simp; omega
  have hy := getD_len h.len hi
  refine ⟨by rw [setCells_size]; exact h.lt, fun p hp => ?_, fun q hq j hj => ?_, fun q hq => ?_⟩
  · rcases List.mem_or_eq_of_mem_set hp with h1 | h1
    · exact h.len p h1
    · rw [h1]; exact torn_length k x _ hk hx hy
  · rw [List.length_set] at hq
    by_cases he : q = i
    · subst he
      have e1 : (ps.set q (torn k x (ps.getD q []))).getD q [] = torn k x (ps.getD q []) := by rw [List.getD_eq_getElem?_getD, List.getElem?_set_self hi]; rfl
      rw [e1]
      by_cases hjk : j < k
      · rw [World.cell?_setCells_in g _ (q * 64) w (fun j hj => by rw [hl] at hj; exact (h.there hi j (by omega)).1) j (by omega)]
        unfold torn
        rw [List.getD_eq_getElem?_getD, List.getElem?_append_left (by simp; omega), List.getElem?_take_of_lt hjk, List.getElem?_eq_getElem (by omega)]
        simp
      · rw [World.cell?_setCells_out g _ (q * 64) w ⟨g, q * 64 + j, none⟩ (fun _ _ => by rw [hl]; show q * 64 + j < q * 64 ∨ q * 64 + k ≤ q * 64 + j; omega), h.cell q hq j hj]
        unfold torn
        rw [List.getD_eq_getElem?_getD (l := x.take k ++ _), List.getElem?_append_right (by simp; omega), List.getElem?_drop]
        rw [show k + (j - (x.take k).length) = j by simp; omega, List.getD_eq_getElem?_getD]
    · have e1 : (ps.set i (torn k x (ps.getD i []))).getD q [] = ps.getD q [] := by rw [List.getD_eq_getElem?_getD, List.getElem?_set_ne (fun e => he e.symm), List.getD_eq_getElem?_getD]
      rw [e1, World.cell?_setCells_out g _ (i * 64) w ⟨g, q * 64 + j, none⟩ (fun _ _ => by rw [hl]; show q * 64 + j < i * 64 ∨ i * 64 + k ≤ q * 64 + j; omega)]
      exact h.cell q hq j hj
  · rw [World.frozen?_setCells]; exact h.froz q (by simpa using hq)
set_option maxRecDepth 100000 in
set_option maxHeartbeats 16000000 in
theorem lay_i (X g n c : Nat) (v : Value) (ps : List (List Int)) (m : Nat) (x : List Int) (k : Nat) (w : World) (hX : w.cell? ⟨X, 0, none⟩ = some (.slice (some ⟨g, 0, none⟩) n c)) (hXg : X ≠ g) (hp : PR w g ps) (hn : ps.length = n) (hm : m < n) (hn2 : n ≤ 200) (hnc : n ≤ c) (hx : x.length = 64) (hk : k ≤ 64) :
    Calls Tryd.prog 92 #[.pointer (some ⟨X, 0, none⟩), .agg (Value.int .i64 (m : Int) :: x.map (Value.int .u8)).toArray, .int .i64 (k : Int)] w fun e w' => e = .returned (.tuple #[]) ∧ PR w' g (ps.set m (torn k x (ps.getD m []))) ∧ w.grownBy w' (some g) := by
  have hlX : X < w.heap.size := by have := World.block_lt_of_cell? w _ hX; simpa using this
  have hlg := hp.lt
  go_enter Tryd.func92, Tryd.ntmps92
  go_wp2_with fail
  have hrow := row_new w (Value.int .i64 (m : Int) :: x.map (Value.int .u8)).toArray 119
  have hbn := below_new w (.cells (Value.int .i64 (m : Int) :: x.map (Value.int .u8)).toArray 119)
  obtain ⟨wy, HWY⟩ : ∃ wy, wy = w.alloc (.cells (Value.int .i64 (m : Int) :: x.map (Value.int .u8)).toArray 119) := ⟨_, rfl⟩
  rw [← HWY] at hrow hbn ⊢
  clear HWY
  have HPY := hid (hp.below hbn)
  have HQ := hid (And.intro ((hbn.cell (p := ⟨X, 0, none⟩) hlX).trans hX) (hrow.cell 0 (.int .i64 (m : Int)) rfl))
  have HBN := hid hbn
  have HSRC : Hid (∀ j v, ((x.take k).map (Value.int .u8))[j]? = some v → wy.drew.cell? ((⟨w.heap.size, 1, none⟩ : Addr).add j) = some v) := fun j v hv => by
    obtain ⟨hj, e⟩ := List.getElem?_eq_some_iff.1 hv
    have hj' : j < k := by simp at hj; omega
    have ha : (⟨w.heap.size, 1, none⟩ : Addr).add j = ⟨w.heap.size, j + 1, none⟩ := by unfold Addr.add; split <;> simp_all <;> omega
    rw [ha]
    refine hrow.cell (j + 1) v ?_
    rw [← hv]
    simp [List.getElem?_take_of_lt hj']
  have HL : Hid (((x.take k).map (Value.int .u8)).length = Nat.min k k) := by show _ = _; simp [Nat.min_def]; omega
  have hkl : ((x.take k).map (Value.int .u8)).length = k := by simp; omega
  have HT := hid (HPY.out.there (k := m) (by omega))
  have hs1 := fun wx => slice_arr_to (P := Tryd.prog) (t := 98) Tryd.underlying98 (fun _ => by kernel_rfl) g (m * 64) k (by omega) hk .i64 (k : Int) rfl wx
  have hs2 := fun wx => slice_arr_to (P := Tryd.prog) (t := 98) Tryd.underlying98 (fun _ => by kernel_rfl) w.heap.size 1 k (by omega) hk .i64 (k : Int) rfl wx
  have hm0 : (0 : Int) ≤ (m : Int) := by omega
  have hm1 : (m : Int) < (n : Int) := by omega
  have hgX : X ≠ g := hXg
  have hgw : w.heap.size ≠ g := by omega
  clear hX hp hrow hbn hXg
  go_region_held3 (fun w' => w'.cell? ⟨X, 0, none⟩ = some (.slice (some ⟨g, 0, none⟩) n c) ∧ w'.cell? ⟨w.heap.size, 0, none⟩ = some (.int .i64 (m : Int)))
    (first | assumption | exact HQ.out | exact ⟨(World.cell?_setCells_out _ _ _ _ _ (fun e => absurd e hgX)).trans HQ.out.1, (World.cell?_setCells_out _ _ _ _ _ (fun e => absurd e hgw)).trans HQ.out.2⟩)
    (first | (refine step_copy_cells (by rfl) _ _ _ _ (by rfl) 5 Tryd.underlying22 (by kernel_rfl) g (m * 64) k 64 (by rfl) ⟨w.heap.size, 1, none⟩ k 64 (by rfl) ((x.take k).map (Value.int .u8)) HL.out HSRC.out (fun j hj => (HT.out j (by omega)).1) (fun j hj => (HT.out j (by omega)).2) (ints_one _) ?_))
  have hfin := (HPY.out.below ((Below.refl _ wy).drew)).part m (by omega) k hk x hx
  have hgr : w.grownBy (wy.drew.setCells g (m * 64) ((x.take k).map (Value.int .u8))) (some g) := by
    have hos := setCells_os g ((x.take k).map (Value.int .u8)) (m * 64) wy.drew
    refine ⟨hos.1.trans HBN.out.os, hos.2.1.trans HBN.out.tape, hos.2.2.trans HBN.out.output, by rw [setCells_size]; exact HBN.out.size, fun i hi hne => ?_⟩
    rw [setCells_other g _ _ _ i (fun e => hne (by rw [e]))]
    exact HBN.out.block i hi
  have HFIN := hid hfin
  have HGR := hid hgr
  clear hfin hgr
  go_wp2
  go_end0
  exact ⟨rfl, HFIN.out, HGR.out⟩
end Go.Proofs.YtnmaknnnmjfhkaeDoor

namespace Go.Proofs.YtnmaknnnmjfhkaeDoor
open Go.RowKit
set_option maxRecDepth 4000
theorem fold_two' (v : Value) (cs : List Value) (z : Array Value) (hz : z.size = cs.length + 1) : List.foldl (fun (r : Array Value) (x : Value × Nat) => r.setIfInBounds (1 + x.snd) x.fst) (z.setIfInBounds 0 v) cs.zipIdx = (v :: cs).toArray := by
  obtain ⟨h3, h4⟩ := Great.foldl_set 1 cs 0 (z.setIfInBounds 0 v)
  apply Array.ext_getElem?
  intro k
  have e := h4 k
  rw [e, Array.size_setIfInBounds]
  by_cases hk : 1 ≤ k ∧ k < 1 + cs.length
  · rw [if_pos ⟨by omega, by omega, by omega⟩]
    obtain ⟨j, rfl⟩ : ∃ j, k = j + 1 := ⟨k - 1, by omega⟩
    simp
  · rw [if_neg (by omega)]
    by_cases h0 : k = 0
    · subst h0
      simp [show 0 < z.size by omega]
    · rw [Array.getElem?_eq_none (by simp; omega), Array.getElem?_eq_none (by simp; omega)]
theorem fold_tail (v : Value) (cs : List Value) (n : Nat) (hn : cs.length + 1 = n) (z : Array Value) (hz : z.size = n) (h0 : z[0]? = some v) : List.foldl (fun (r : Array Value) (x : Value × Nat) => r.setIfInBounds x.snd x.fst) z (cs.zipIdx 1) = (v :: cs).toArray := by
  obtain ⟨h3, h4⟩ := Great.foldl_set 0 cs 1 z
  have e0 : (fun (r : Array Value) (x : Value × Nat) => r.setIfInBounds (0 + x.2) x.1) = fun (r : Array Value) (x : Value × Nat) => r.setIfInBounds x.snd x.fst := by funext r x; rw [Nat.zero_add]
  rw [e0] at h3 h4
  apply Array.ext_getElem?
  intro k
  rw [h4 k]
  by_cases hk : 1 ≤ k ∧ k < 1 + cs.length
  · rw [if_pos ⟨by omega, by omega, by omega⟩]
    obtain ⟨j, rfl⟩ : ∃ j, k = j + 1 := ⟨k - 1, by omega⟩
    simp
  · rw [if_neg (by omega)]
    by_cases hk0 : k = 0
    · subst hk0; rw [h0]; simp
    · rw [Array.getElem?_eq_none (by omega), Array.getElem?_eq_none (by simp; omega)]
theorem heldZ_size : heldZ.size = 65 := by kernel_rfl
theorem heldZ_ne : ¬ (heldZ = #[]) := fun h => by have := congrArg Array.size h; rw [heldZ_size] at this; cases this
end Go.Proofs.YtnmaknnnmjfhkaeDoor

namespace Go.Proofs.YtnmaknnnmjfhkaeDoor
open Go.RowKit
set_option linter.unusedVariables false
theorem results_cell1_tmp {P : Program} {fn : Func} {p u : Tmp} {ty : TypeId} (h : fn.results = #[.cell p ty, .tmp u]) (tmps : Array Value) (w : World) (b o : Nat) (hp : tmps.getD p undef = .pointer (some ⟨b, o, none⟩))
    (cs : List Value) (d : TypeDesc) (hc : w.rangeAt b o cs) (hu : P.underlying ty = some d) (hd : d.isRow = true) (hi : (P.info? ty).map (·.size) = some cs.length) : (results fn tmps).run P w = .ok (.tuple #[.agg cs.toArray, tmps.getD u undef]) w := by
  have hl := run_loadVar_mid (P := P) w b o ty cs d hc hu hd hi
  rw [results_cell_tmp h]
  simp [hp, asAddr, hl, Result.andThen]
set_option maxRecDepth 100000 in
set_option maxHeartbeats 16000000 in
theorem rd_plate (g n c m : Nat) (ps : List (List Int)) (w : World) (hp : PR w g ps) (hl : ps.length = n) (hn2 : n ≤ 200) (hm : m < n) :
    Calls Tryd.prog 127 #[.slice (some ⟨g, 0, none⟩) n c, .int .i64 (m : Int)] w fun e w' => e = .returned (.tuple #[.agg ((ps.getD m []).map (Value.int .u8)).toArray, .bool true]) ∧ Below w.heap.size w w' := by
  have hrg : ∀ o, (w.alloc o).rangeAt g (m * 64) ((ps.getD m []).map (Value.int .u8)) := fun o => (hp.below (below_new w o)).range (k := m) (by omega)
  have hxl := getD_len hp.len (k := m) (by omega)
  obtain ⟨x, HX⟩ : ∃ x, Hid (x = ps.getD m []) := ⟨_, hid rfl⟩
  rw [← HX.out] at hrg hxl ⊢
  have hxm : (x.map (Value.int .u8)).toArray.size = 64 := by simp [hxl]
  have HI64 : Hid ((Tryd.prog.info? 98).map (·.size) = some (x.map (Value.int .u8)).length) := by show _ = _; rw [List.length_map, hxl]; kernel_rfl
  have HRG := hid hrg
  have hm0 : ¬ ((m : Int) < 0) := by omega
  have hm1 : ¬ (n ≤ m) := by omega
  clear hrg
  go_enter Tryd.func127, Tryd.ntmps127
  go_wp2_with (first | (with_reducible refine at_load 98 _ rfl ?_; refine wpList_load_mid rfl 98 _ rfl g (m * 64) rfl (x.map (Value.int .u8)) _ (by exact HRG.out _) Tryd.underlying98 rfl HI64.out ?_) | (with_reducible refine at_store 98 _ _ rfl ?_; refine wpList_store_mid rfl 98 _ _ rfl w.heap.size 0 (x.map (Value.int .u8)).toArray rfl rfl (by rw [hxm]; exact (row_new w _ _).there (by kernel_rfl)) (by rw [hxm]; kernel_rfl) (all_oneCell_toArray (ints_one x)) ?_))
  refine bodyPost_ret (v := .tuple #[.agg (x.map (Value.int .u8)).toArray, .bool true]) (results_cell1_tmp (p := 4) (u := 5) Tryd.results127 _ _ w.heap.size 0 rfl (x.map (Value.int .u8)) _ (World.rangeAt_setCells_same _ _ _ _ (by rw [List.length_map, hxl]; exact (row_new w _ _).there (by kernel_rfl))) Tryd.underlying98 rfl HI64.out) rfl ⟨rfl, ?_⟩
  exact Go.below_setCells (Nat.le_refl _) _ _ _ (below_new _ _)
set_option maxRecDepth 100000 in
set_option maxHeartbeats 16000000 in
theorem rdr (a a' : Option Addr) (n c n' c' : Nat) (w : World) :
    Calls Tryd.prog 44 #[.agg #[.slice a n c, .slice a' n' c']] w fun e w' => e = .returned (.iface 126 (.agg #[.slice a' n' c', .iface 69 (.slice a n c)])) ∧ Below w.heap.size w w' := by
  go_enter Tryd.func44, Tryd.ntmps44
  go_wp2
  go_ret
  exact ⟨rfl, below_new _ _⟩
end Go.Proofs.YtnmaknnnmjfhkaeDoor

namespace Go.Proofs.YtnmaknnnmjfhkaeDoor
open Go.RowKit
set_option maxRecDepth 4000
set_option linter.unusedVariables false
theorem infoU8 : (Tryd.prog.info? 5).map (fun i => (i.zero, i.size, i.bytes)) = some (some (.int .u8 0), 1, 1) := by kernel_rfl
def zeros : ByteArray := strOfNums (List.replicate 64 0)
end Go.Proofs.YtnmaknnnmjfhkaeDoor

namespace Go.Proofs.YtnmaknnnmjfhkaeDoor
open Go.RowKit
set_option maxRecDepth 4000
set_option linter.unusedVariables false
set_option linter.unusedSimpArgs false
set_option maxHeartbeats 16000000 in
theorem w_texts (a b : Option Addr) (ss : List ByteArray) (c c' : Nat) (w : World) (h : Strs w a ss) (h' : Strs w b ss) (hl : ss.length ≤ 1048576) :
    Calls Tryd.prog 8 #[.slice a ss.length c, .slice b ss.length c'] w fun e w' => e = .returned (.bool true) ∧ Below w.heap.size w w' := by
  go_enter Tryd.func8, Tryd.ntmps8
  go_wp2
  go_loopw [5] (fun i wr => ∃ k : Nat, k ≤ ss.length ∧ i = .int .i64 k ∧ Below w.heap.size w wr) (fun i _ => ss.length - (intOf i).toNat)
  case atStart => exact ⟨0, Nat.zero_le _, rfl, Below.refl _ _⟩
  case round =>
    obtain ⟨k, hk, rfl, hbel⟩ := hrel
    by_cases hlt : k < ss.length
    · obtain ⟨b1, o1, s, rfl, hc, HS⟩ := (h.below hbel).at hlt
      obtain ⟨b2, o2, s', rfl, hc', HS'⟩ := (h'.below hbel).at hlt
      obtain rfl : s = s' := HS.out.trans HS'.out.symm
      have hk1 : (k : Int) < (ss.length : Int) := by omega
      have hk0 : (0 : Int) ≤ (k : Int) := by omega
      clear HS HS'
      go_wp2_with fail
      go_quiet (fail)
      go_wp2
      go_roundw
      case rel => exact ⟨k + 1, by omega, by go_num, below_drewN hbel _⟩
      case measure => simp [intOf]; omega
    · go_wp2
      go_ret
      exact ⟨rfl, hbel⟩
end Go.Proofs.YtnmaknnnmjfhkaeDoor
