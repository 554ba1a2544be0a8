import Derived.Test.YtnmaknnnmjfhkagGreatDoorPrG49
import Derived.Test.YtnmaknnnmjfhkagGreatDoorPrG51
namespace Go.Proofs.YtnmaknnnmjfhkagGreatDoor
open Go.RowKit
set_option linter.unusedVariables false
structure PR (w : World) (g : Nat) (ps : List (List Int)) : Prop where
  lt : g < w.heap.size
  len : ∀ p ∈ ps, p.length = 64
  cell : ∀ k, k < ps.length → ∀ j, j < 64 → w.cell? ⟨g, k * 64 + j, none⟩ = some (.int .u8 ((ps.getD k []).getD j 0))
  froz : ∀ i, i < ps.length * 64 → w.frozen? ⟨g, i, none⟩ = false
theorem PR.below {w w' : World} {g : Nat} {ps : List (List Int)} (h : PR w g ps) (hb : Below w.heap.size w w') : PR w' g ps :=
  ⟨Nat.lt_of_lt_of_le h.lt hb.size, h.len, fun k hk j hj => (hb.cell (p := ⟨g, _, none⟩) h.lt).trans (h.cell k hk j hj), fun i hi => (hb.frozen (p := ⟨g, i, none⟩) h.lt).trans (h.froz i hi)⟩
theorem PR.grown {w w' : World} {g : Nat} {ps : List (List Int)} {r : Option Nat} (h : PR w g ps) (hg : w.grownBy w' r) (hn : some g ≠ r) : PR w' g ps :=
  ⟨Nat.lt_of_lt_of_le h.lt hg.size, h.len, fun k hk j hj => (World.cell?_of_block (a := ⟨g, _, none⟩) (hg.block g h.lt hn)).trans (h.cell k hk j hj), fun i hi => (World.frozen?_of_block (a := ⟨g, i, none⟩) (hg.block g h.lt hn)).trans (h.froz i hi)⟩
theorem PR.other {w : World} {g : Nat} {ps : List (List Int)} (h : PR w g ps) (p : Addr) (hp : p.block ≠ g) (v : Value) : PR (w.setCell p v) g ps := by
  refine ⟨by simpa [World.setCell] using h.lt, h.len, fun k hk j hj => ?_, fun i hi => ?_⟩
  · rw [World.cell?_setCell_other (w := w) (h := fun e => hp (by rw [e]))]; exact h.cell k hk j hj
  · rw [World.frozen?_setCell]; exact h.froz i hi
theorem getD_len {ps : List (List Int)} (h : ∀ p ∈ ps, p.length = 64) {k : Nat} (hk : k < ps.length) : (ps.getD k []).length = 64 := h _ (by simp [List.getD, hk])
theorem PR.there {w : World} {g : Nat} {ps : List (List Int)} (h : PR w g ps) {k : Nat} (hk : k < ps.length) : w.there g (k * 64) 64 := fun j hj => by
  rw [h.cell k hk j hj]; exact ⟨rfl, h.froz _ (by omega)⟩
theorem PR.range {w : World} {g : Nat} {ps : List (List Int)} (h : PR w g ps) {k : Nat} (hk : k < ps.length) : w.rangeAt g (k * 64) ((ps.getD k []).map (Value.int .u8)) := fun j v hv => by
  obtain ⟨hj, e⟩ := List.getElem?_eq_some_iff.1 hv
  simp only [List.length_map] at hj
  have h64 := getD_len h.len hk
  rw [h.cell k hk j (by omega)]
  rw [← e]
  simp only [List.getElem_map]
  rw [List.getD_eq_getElem?_getD (l := ps.getD k []), List.getElem?_eq_getElem hj]
  rfl
theorem PR.set {w : World} {g : Nat} {ps : List (List Int)} (h : PR w g ps) (k : Nat) (hk : k < ps.length) (x : List Int) (hx : x.length = 64) : PR (w.setCells g (k * 64) (x.map (Value.int .u8))) g (ps.set k x) := by
  have hl : (x.map (Value.int .u8)).length = 64 := by simp [hx]
  refine ⟨by rw [setCells_size]; exact h.lt, fun p hp => ?_, fun i hi j hj => ?_, fun i hi => ?_⟩
  · rcases List.mem_or_eq_of_mem_set hp with h1 | h1
    · exact h.len p h1
    · rw [h1]; exact hx
  · rw [List.length_set] at hi
    by_cases he : i = k
    · subst he
      have e1 : (ps.set i x).getD i [] = x := by rw [List.getD_eq_getElem?_getD, List.getElem?_set_self hk]; rfl
      rw [e1, World.cell?_setCells_in g _ (i * 64) w (fun j hj => by rw [hl] at hj; exact (h.there hk j hj).1) j (by omega)]
      simp [List.getD, show j < x.length by omega]
    · have e1 : (ps.set k x).getD i [] = ps.getD i [] := by rw [List.getD_eq_getElem?_getD, List.getElem?_set_ne (fun e => he e.symm), List.getD_eq_getElem?_getD]
      rw [e1, World.cell?_setCells_out g _ (k * 64) w ⟨g, i * 64 + j, none⟩ (fun _ _ => by rw [hl]; show i * 64 + j < k * 64 ∨ k * 64 + 64 ≤ i * 64 + j; omega)]
      exact h.cell i hi j hj
  · rw [World.frozen?_setCells]; exact h.froz i (by simpa using hi)
theorem pr_zero {w : World} {g n : Nat} (h : Row w g (List.replicate (n * 64) (.int .u8 0))) : PR w g (List.replicate n (List.replicate 64 0)) := by
  refine ⟨h.lt, fun p hp => by rw [List.eq_of_mem_replicate hp]; simp, fun k hk j hj => ?_, fun i hi => h.froz i (by simpa using hi)⟩
  rw [List.length_replicate] at hk
  have e1 : ((List.replicate n (List.replicate 64 (0 : Int))).getD k []).getD j 0 = 0 := by
    rw [List.getD_eq_getElem?_getD (l := List.replicate n _), List.getElem?_replicate, if_pos hk, Option.getD_some, List.getD_eq_getElem?_getD, List.getElem?_replicate, if_pos hj]
    rfl
  rw [e1]
  exact h.cell _ _ (by rw [List.getElem?_replicate, if_pos (by omega)])
def hcells (hs : List (Int × List Int)) : List Value := hs.flatMap fun x => .int .i64 x.1 :: x.2.map (Value.int .u8)
theorem hcells_append (a b : List (Int × List Int)) : hcells (a ++ b) = hcells a ++ hcells b := by simp [hcells]
theorem hcells_at : ∀ (hs : List (Int × List Int)), (∀ p ∈ hs, p.2.length = 64) → ∀ (i : Nat), i < hs.length → ∀ j, (Value.int .i64 (hs.getD i (0, [])).1 :: (hs.getD i (0, [])).2.map (Value.int .u8))[j]? ≠ none → (hcells hs)[i * 65 + j]? = (Value.int .i64 (hs.getD i (0, [])).1 :: (hs.getD i (0, [])).2.map (Value.int .u8))[j]?
  | x :: r, hl, 0, _, j, hj => by
    have e : hcells (x :: r) = (.int .i64 x.1 :: x.2.map (Value.int .u8)) ++ hcells r := by simp [hcells]
    have e2 : (x :: r).getD 0 (0, []) = x := rfl
    rw [e2] at hj ⊢
    rw [e, Nat.zero_mul, Nat.zero_add, List.getElem?_append_left]
    rcases Nat.lt_or_ge j (Value.int .i64 x.1 :: x.2.map (Value.int .u8)).length with h | h
    · exact h
    · exact absurd (List.getElem?_eq_none h) hj
  | x :: r, hl, i + 1, h, j, hj => by
    have e : hcells (x :: r) = (.int .i64 x.1 :: x.2.map (Value.int .u8)) ++ hcells r := by simp [hcells]
    have hx : (Value.int .i64 x.1 :: x.2.map (Value.int .u8)).length = 65 := by simp [hl x (by simp)]
    have e2 : (x :: r).getD (i + 1) (0, []) = r.getD i (0, []) := by simp [List.getD]
    rw [e2] at hj ⊢
    rw [e, List.getElem?_append_right (by omega), hx, show (i + 1) * 65 + j - 65 = i * 65 + j by omega]
    exact hcells_at r (fun p hp => hl p (by simp [hp])) i (by simpa using h) j hj
theorem hcells_length (hs : List (Int × List Int)) (hl : ∀ p ∈ hs, p.2.length = 64) : (hcells hs).length = hs.length * 65 := by
  induction hs with
  | nil => rfl
  | cons x r ih =>
    have e : hcells (x :: r) = (.int .i64 x.1 :: x.2.map (Value.int .u8)) ++ hcells r := by simp [hcells]
    rw [e, List.length_append, ih (fun p hp => hl p (by simp [hp]))]
    simp [hl x (by simp)]; omega
theorem Row.hld {w : World} {g : Nat} {hs : List (Int × List Int)} (h : Row w g (hcells hs)) (hl : ∀ p ∈ hs, p.2.length = 64) : Hld w (some ⟨g, 0, none⟩) hs :=
  .inr ⟨g, 0, rfl, h.lt, fun i hi j v hv => by
    rw [Nat.zero_add]
    exact h.cell _ _ ((hcells_at hs hl i hi j (by rw [hv]; simp)).trans hv)⟩
structure Drs (W w : World) (n : Nat) (box : Value) (e : TypeId) (v : Value) (ps : List (List Int)) (hs : List (Int × List Int)) : Prop where
  sz : W.heap.size + 1 + 1 + 1 + 1 ≤ w.heap.size
  bel : Below W.heap.size W w
  b1 : w.cell? ⟨W.heap.size, 1, none⟩ = some box
  r0 : w.cell? ⟨W.heap.size + 1, 0, none⟩ = some (.slice none 0 0)
  r1 : w.cell? ⟨W.heap.size + 1, 1, none⟩ = some (.slice none 0 0)
  fr0 : w.frozen? ⟨W.heap.size + 1, 0, none⟩ = false
  fr1 : w.frozen? ⟨W.heap.size + 1, 1, none⟩ = false
  d0 : w.cell? ⟨W.heap.size + 1 + 1 + 1, 0, none⟩ = some (.slice (some ⟨W.heap.size + 1 + 1, 0, none⟩) n n)
  d1 : w.cell? ⟨W.heap.size + 1 + 1 + 1, 1, none⟩ = some v
  fd1 : w.frozen? ⟨W.heap.size + 1 + 1 + 1, 1, none⟩ = false
  pr : PR w (W.heap.size + 1 + 1) ps
  len : ∀ p ∈ hs, p.2.length = 64
  own : w.ownsRow (W.heap.size + 1 + 1 + 1 + 1) e 65 v hs.length (hcells hs)
section
variable {W w w' : World} {n : Nat} {box v : Value} {e : TypeId} {ps : List (List Int)} {hs : List (Int × List Int)}
theorem Drs.below (h : Drs W w n box e v ps hs) (hb : Below w.heap.size w w') : Drs W w' n box e v ps hs :=
  have hs := h.sz
  have bc : ∀ b i, b < W.heap.size + 1 + 1 + 1 + 1 → w'.cell? ⟨b, i, none⟩ = w.cell? ⟨b, i, none⟩ := fun b i hi => hb.cell (p := ⟨b, i, none⟩) (by show b < _; omega)
  have bf : ∀ b i, b < W.heap.size + 1 + 1 + 1 + 1 → w'.frozen? ⟨b, i, none⟩ = w.frozen? ⟨b, i, none⟩ := fun b i hi => hb.frozen (p := ⟨b, i, none⟩) (by show b < _; omega)
  ⟨Nat.le_trans hs hb.size, h.bel.trans (hb.mono (by omega)), (bc _ _ (by omega)).trans h.b1, (bc _ _ (by omega)).trans h.r0, (bc _ _ (by omega)).trans h.r1, (bf _ _ (by omega)).trans h.fr0, (bf _ _ (by omega)).trans h.fr1,
    (bc _ _ (by omega)).trans h.d0, (bc _ _ (by omega)).trans h.d1, (bf _ _ (by omega)).trans h.fd1, h.pr.below hb, h.len, owns_below h.own hb⟩
theorem Drs.drew (h : Drs W w n box e v ps hs) : Drs W w.drew n box e v ps hs := h.below ((Below.refl _ _).drew)
theorem Drs.alloc (h : Drs W w n box e v ps hs) (o : Obj) : Drs W (w.alloc o) n box e v ps hs := h.below ((Below.refl _ _).alloc (Nat.le_refl _) _)
theorem Drs.fill (h : Drs W w n box e v ps []) (hv : v = .slice none 0 0) (k : Nat) (hk : k < ps.length) (x : List Int) (hx : x.length = 64) : Drs W (w.setCells (W.heap.size + 1 + 1) (k * 64) (x.map (Value.int .u8))) n box e v (ps.set k x) [] := by
  have hs := h.sz
  have co : ∀ b i, b ≠ W.heap.size + 1 + 1 → (w.setCells (W.heap.size + 1 + 1) (k * 64) (x.map (Value.int .u8))).cell? ⟨b, i, none⟩ = w.cell? ⟨b, i, none⟩ := fun b i hb => World.cell?_setCells_out _ _ _ _ _ (fun e => absurd e hb)
  exact ⟨by rw [setCells_size]; exact hs, Go.below_setCells (by omega) _ _ _ h.bel, (co _ _ (by omega)).trans h.b1, (co _ _ (by omega)).trans h.r0, (co _ _ (by omega)).trans h.r1, (World.frozen?_setCells _ _ _ _ _).trans h.fr0, (World.frozen?_setCells _ _ _ _ _).trans h.fr1,
    (co _ _ (by omega)).trans h.d0, (co _ _ (by omega)).trans h.d1, (World.frozen?_setCells _ _ _ _ _).trans h.fd1, h.pr.set k hk x hx, h.len, by rw [hv]; exact World.ownsRow_nil _ _ _ _⟩
theorem Drs.grown {w1 : World} (h : Drs W w n box e v ps hs) (hg : w.grownBy w1 v.ownBlock) : w1.cell? ⟨W.heap.size + 1 + 1 + 1, 1, none⟩ = some v ∧ w1.frozen? ⟨W.heap.size + 1 + 1 + 1, 1, none⟩ = false := by
  have hs := h.sz
  have nb : some (W.heap.size + 1 + 1 + 1) ≠ v.ownBlock := fun he => by have := (h.own.lt _ he.symm).1; omega
  exact ⟨(hg.cell_far ⟨W.heap.size + 1 + 1 + 1, 1, none⟩ (by show W.heap.size + 1 + 1 + 1 < _; omega) nb).trans h.d1, (hg.frozen_far ⟨W.heap.size + 1 + 1 + 1, 1, none⟩ (by show W.heap.size + 1 + 1 + 1 < _; omega) nb).trans h.fd1⟩
theorem Drs.push (h : Drs W w n box e v ps hs) {w1 : World} {g cap : Nat} {x : Int × List Int} (hx : x.2.length = 64) (hown : w1.ownsRow (W.heap.size + 1 + 1 + 1 + 1) e 65 (.slice (some ⟨g, 0, none⟩) (hs.length + 1) cap) (hs.length + 1) (hcells hs ++ (.int .i64 x.1 :: x.2.map (Value.int .u8)))) (hg : w.grownBy w1 v.ownBlock) :
    Drs W (w1.setCell ⟨W.heap.size + 1 + 1 + 1, 1, none⟩ (.slice (some ⟨g, 0, none⟩) (hs.length + 1) cap)) n box e (.slice (some ⟨g, 0, none⟩) (hs.length + 1) cap) ps (hs ++ [x]) := by
  have hs' := h.sz
  have nb : ∀ k, k < W.heap.size + 1 + 1 + 1 + 1 → some k ≠ v.ownBlock := fun k hk he => by have := (h.own.lt k he.symm).1; omega
  have lt : ∀ b, b < W.heap.size + 1 + 1 + 1 + 1 → b < w.heap.size := fun b hb => by omega
  have cc : ∀ b i, b < W.heap.size + 1 + 1 + 1 + 1 → w1.cell? ⟨b, i, none⟩ = w.cell? ⟨b, i, none⟩ := fun b i hb => hg.cell_far ⟨b, i, none⟩ (lt b hb) (nb b hb)
  have ff : ∀ b i, b < W.heap.size + 1 + 1 + 1 + 1 → w1.frozen? ⟨b, i, none⟩ = w.frozen? ⟨b, i, none⟩ := fun b i hb => hg.frozen_far ⟨b, i, none⟩ (lt b hb) (nb b hb)
  have so : ∀ b i, b < W.heap.size + 1 + 1 + 1 + 1 → b ≠ W.heap.size + 1 + 1 + 1 → (w1.setCell ⟨W.heap.size + 1 + 1 + 1, 1, none⟩ (.slice (some ⟨g, 0, none⟩) (hs.length + 1) cap)).cell? ⟨b, i, none⟩ = w.cell? ⟨b, i, none⟩ := fun b i hb hn => by
    rw [World.cell?_setCell_other (w := w1) (h := show (⟨W.heap.size + 1 + 1 + 1, 1, none⟩ : Addr) ≠ ⟨b, i, none⟩ from fun he => hn (by injection he with h1; exact h1.symm))]; exact cc b i hb
  have hbel : Below W.heap.size W w1 := h.bel.trans ⟨hg.os, hg.tape, hg.output, hg.size, fun k hk => hg.block k (by omega) (nb k (by omega))⟩
  refine ⟨by simp only [World.size_setCell]; have := hg.size; omega, hbel.setCell (by show W.heap.size ≤ W.heap.size + 1 + 1 + 1; omega) _, (so _ _ (by omega) (by omega)).trans h.b1, (so _ _ (by omega) (by omega)).trans h.r0, (so _ _ (by omega) (by omega)).trans h.r1,
    (World.frozen?_setCell _ _ _ _).trans ((ff _ _ (by omega)).trans h.fr0), (World.frozen?_setCell _ _ _ _).trans ((ff _ _ (by omega)).trans h.fr1), ?_, World.cell?_setCell_same w1 _ _ ((cc _ _ (by omega)).trans h.d1), (World.frozen?_setCell _ _ _ _).trans ((ff _ _ (by omega)).trans h.fd1), ?_, ?_, ?_⟩
  · rw [World.cell?_setCell_other (w := w1) (h := show (⟨W.heap.size + 1 + 1 + 1, 1, none⟩ : Addr) ≠ ⟨W.heap.size + 1 + 1 + 1, 0, none⟩ by simp)]; exact (cc _ _ (by omega)).trans h.d0
  · exact (h.pr.grown hg (nb _ (by omega))).other _ (by show W.heap.size + 1 + 1 + 1 ≠ W.heap.size + 1 + 1; omega) _
  · intro p hp
    rcases List.mem_append.1 hp with h1 | h1
    · exact h.len p h1
    · simp at h1; rw [h1]; exact hx
  · have k1 := ownsRow_setCell_below hown (a := ⟨W.heap.size + 1 + 1 + 1, 1, none⟩) (by show W.heap.size + 1 + 1 + 1 < _; omega) (.slice (some ⟨g, 0, none⟩) (hs.length + 1) cap)
    have e1 : hcells (hs ++ [x]) = hcells hs ++ (.int .i64 x.1 :: x.2.map (Value.int .u8)) := by rw [hcells_append]; simp [hcells]
    rw [List.length_append, e1]
    exact k1
theorem Drs.start (w wx : World) (n : Nat) (c0 c1 : Value) (t0 t1 t2 e : TypeId) (hb : Below ((w.alloc (.cells #[c0, c1] t0)).alloc (.cells #[.slice none 0 0, .slice none 0 0] t1)).heap.size ((w.alloc (.cells #[c0, c1] t0)).alloc (.cells #[.slice none 0 0, .slice none 0 0] t1)) wx)
    (hs : wx.heap.size = w.heap.size + 1 + 1 + 1) (hr : Row wx (w.heap.size + 1 + 1) (List.replicate (n * 64) (.int .u8 0))) :
    Drs w (wx.alloc (.cells #[.slice (some ⟨w.heap.size + 1 + 1, 0, none⟩) n n, .slice none 0 0] t2)) n c1 e (.slice none 0 0) (List.replicate n (List.replicate 64 0)) [] := by
  have rb := (((row_new w #[c0, c1] t0).alloc (.cells #[.slice none 0 0, .slice none 0 0] t1)).below hb).alloc (.cells #[.slice (some ⟨w.heap.size + 1 + 1, 0, none⟩) n n, .slice none 0 0] t2)
  have rr := ((row_new' (w.alloc (.cells #[c0, c1] t0)) #[.slice none 0 0, .slice none 0 0] t1 (w.heap.size + 1) (by simp)).below hb).alloc (.cells #[.slice (some ⟨w.heap.size + 1 + 1, 0, none⟩) n n, .slice none 0 0] t2)
  have rd := row_new' wx #[.slice (some ⟨w.heap.size + 1 + 1, 0, none⟩) n n, .slice none 0 0] t2 (w.heap.size + 1 + 1 + 1) hs.symm
  have hB : Below w.heap.size w wx := (((Below.refl _ _).alloc (Nat.le_refl _) _).alloc (by simp) _).trans (hb.mono (by simp; omega))
  exact ⟨by simp [hs], hB.alloc hB.size _, rb.cell 1 _ rfl, rr.cell 0 _ rfl, rr.cell 1 _ rfl, rr.froz 0 (by simp), rr.froz 1 (by simp), rd.cell 0 _ rfl, rd.cell 1 _ rfl, rd.froz 1 (by simp), pr_zero (hr.alloc _), by simp, World.ownsRow_nil _ _ _ _⟩
end
end Go.Proofs.YtnmaknnnmjfhkagGreatDoor
