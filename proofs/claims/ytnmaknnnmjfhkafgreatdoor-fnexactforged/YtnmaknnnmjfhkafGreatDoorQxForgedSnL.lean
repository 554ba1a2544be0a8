import Derived.Test.YtnmaknnnmjfhkafGreatDoorQxForgedChk
namespace Go.Proofs.YtnmaknnnmjfhkafGreatDoor
open Go.RowKit Go.Shelf
set_option linter.unusedVariables false
set_option linter.unusedSimpArgs false
set_option maxRecDepth 4000

/-- What a round keeps of what slices.Chunk reads again and again. -/
def KpC (n₀ Bs Bn : Nat) (A B : World) : Prop := Below n₀ A B ∧ B.cell? ⟨Bs, 0, none⟩ = A.cell? ⟨Bs, 0, none⟩ ∧ B.cell? ⟨Bn, 0, none⟩ = A.cell? ⟨Bn, 0, none⟩
theorem KpC.t {n₀ Bs Bn : Nat} {A B C : World} (h : KpC n₀ Bs Bn A B) (k : KpC n₀ Bs Bn B C) : KpC n₀ Bs Bn A C := ⟨h.1.trans k.1, k.2.1.trans h.2.1, k.2.2.trans h.2.2⟩
theorem KpC.b {n₀ Bs Bn : Nat} {w : World} (hn : n₀ ≤ w.heap.size) (h1 : Bs < w.heap.size) (h2 : Bn < w.heap.size) (W : World) (l : Nat) (o o' : Obj) (hl : w.heap.size ≤ l) (h : W.heap[l]? = some o) (hc : o.isCells = false) (hw : o.isWalk = false) : KpC n₀ Bs Bn W (W.putObj l o') :=
  ⟨belowK_b hn W l o o' hl h hc hw, World.cell?_of_block (World.putObj_heap_other (by show Bs ≠ l; omega)), World.cell?_of_block (World.putObj_heap_other (by show Bn ≠ l; omega))⟩
theorem Bat.boxed {w : World} {base B : Nat} {v u z : Value} {bss : List (List Ch)} (h : Bat w base v bss) (hb : Boxed w B 208 u) : Bat (w.setCell ⟨B, 0, none⟩ z) base v bss := by
  obtain ⟨vs, h1, h2, h3⟩ := h
  refine ⟨vs, h1.kept (grownBy_setCell' w B z) (.inr fun e => hb.not_row (by decide) h1 e.symm), fun i hi => (h2 i hi).kept (grownBy_setCell' w B z) (.inr fun e => hb.not_row (by decide) (h2 i hi) e.symm), h3⟩
theorem row_own {X Y : World} {row : Option Nat} {base : Nat} {e : TypeId} {s : Nat} {v : Value} {n : Nat} {xs : List Value} (h : X.ownsRow base e s v n xs) (hg : X.grownBy Y row) (hr : ∀ r, row = some r → ∃ o : Obj, X.heap[r]? = some o ∧ o.isCells = false) : Y.ownsRow base e s v n xs := by
  refine h.kept hg ?_
  rcases h.2 with ⟨rfl, _⟩ | ⟨g, cap, cur, rfl, _, hgb, _⟩
  · exact .inl rfl
  · refine .inr fun e' => ?_
    obtain ⟨o, ho, hc⟩ := hr g (by simpa [Value.ownBlock] using e'.symm)
    rw [hgb] at ho; cases ho; cases hc
theorem box_own {X Y : World} {row : Option Nat} {B : Nat} {t : TypeId} {v : Value} (h : Boxed X B t v) (hg : X.grownBy Y row) (hr : ∀ r, row = some r → ∃ o : Obj, X.heap[r]? = some o ∧ o.isCells = false) : Boxed Y B t v := by
  refine h.kept hg fun e => ?_
  obtain ⟨o, ho, hc⟩ := hr B e.symm
  rw [show X.heap[B]? = _ from h] at ho; cases ho; cases hc
/-- What lies in a round of Snapshot. -/
def InSn (n₀ B Bs Bn : Nat) (sv : Value) (bss : List (List Ch)) (W : World) : Prop := ∃ v, Boxed W B 208 v ∧ Bat W n₀ v bss ∧ Boxed W Bs 42 sv ∧ Boxed W Bn 3 (.int .i64 20)
theorem InSn.own (n₀ B Bs Bn : Nat) (sv : Value) (f : List Nat → List (List Ch)) : Own (fun pre W => InSn n₀ B Bs Bn sv (f pre) W) := by
  rintro s X Y row ⟨v, hv, ⟨vs, h1, h2, h3⟩, h4, h5⟩ hg hr
  exact ⟨v, box_own hv hg hr, ⟨vs, row_own h1 hg hr, fun i hi => row_own (h2 i hi) hg hr, h3⟩, box_own h4 hg hr, box_own h5 hg hr⟩
theorem keeps_below {W W' : World} (h : Below W.heap.size W W') : KeepsOthers W W' := ⟨h.size, fun k o hk _ => (h.block k (Array.getElem?_eq_some_iff.1 hk).1).trans hk⟩
theorem InSn.push {W wr w1 : World} {n₀ B Bs Bn : Nat} {sv v v' y : Value} {bss : List (List Ch)} {cs : List Ch} {vs : List Value} {tmp : Obj} (hn : n₀ ≤ W.heap.size) (hB : n₀ ≤ B) (hv : Boxed W B 208 v) (h1 : W.ownsRow n₀ 148 1 v bss.length vs) (h2 : ∀ i, i < bss.length → W.ownsRow n₀ 197 3 (vs.getD i nov) (bss.getD i []).length (chcells (bss.getD i [])))
    (h3 : ∀ i j k, i < j → j < bss.length → (vs.getD i nov).ownBlock = some k → (vs.getD j nov).ownBlock ≠ some k) (hs : Boxed W Bs 42 sv) (hm : Boxed W Bn 3 (.int .i64 20)) (hbw : Below W.heap.size W wr)
    (hy : wr.ownsRow W.heap.size 197 3 y cs.length (chcells cs)) (ho : w1.ownsRow n₀ 148 1 v' (bss.length + 1) (vs ++ [y])) (hg : (wr.alloc tmp).grownBy w1 v.ownBlock) :
    Boxed w1 B 208 v ∧ InSn n₀ B Bs Bn sv (bss ++ [cs]) (w1.setCell ⟨B, 0, none⟩ v') ∧ KeepsOthers W (w1.setCell ⟨B, 0, none⟩ v') ∧ KpC n₀ Bs Bn W (w1.setCell ⟨B, 0, none⟩ v') := by
  have bx : ∀ {b : Nat} {t : TypeId} {u : Value}, Boxed W b t u → Boxed wr b t u := fun h => (hbw.block _ h.lt).trans h
  have h1r := owns_below h1 hbw
  have hv1 : Boxed w1 B 208 v := ((bx hv).alloc tmp).kept hg ((bx hv).not_row (by decide) h1r)
  have hs1 : Boxed w1 Bs 42 sv := ((bx hs).alloc tmp).kept hg ((bx hs).not_row (by decide) h1r)
  have hm1 : Boxed w1 Bn 3 (.int .i64 20) := ((bx hm).alloc tmp).kept hg ((bx hm).not_row (by decide) h1r)
  have hbat : Bat w1 n₀ v' (bss ++ [cs]) := Bat.push (h1r.alloc tmp) (fun i hi => (owns_below (h2 i hi) hbw).alloc tmp) h3 ((owns_mono hy hn).alloc tmp) (fun i k hi he e => by
    have a1 := (h2 i hi).lt k he
    have a2 := hy.lt k e
    omega) ho hg
  have ns : Bs ≠ B := fun e => by
    have := (show W.heap[Bs]? = _ from hs)
    rw [e, show W.heap[B]? = _ from hv] at this
    simp at this
  have nm : Bn ≠ B := fun e => by
    have := (show W.heap[Bn]? = _ from hm)
    rw [e, show W.heap[B]? = _ from hv] at this
    simp at this
  have hs2 : Boxed (w1.setCell ⟨B, 0, none⟩ v') Bs 42 sv := hs1.kept (grownBy_setCell' w1 B v') (by simp [ns])
  have hm2 : Boxed (w1.setCell ⟨B, 0, none⟩ v') Bn 3 (.int .i64 20) := hm1.kept (grownBy_setCell' w1 B v') (by simp [nm])
  refine ⟨hv1, ⟨v', hv1.set v', hbat.boxed hv1, hs2, hm2⟩, ?_, ?_, hs2.cell.trans hs.cell.symm, hm2.cell.trans hm.cell.symm⟩
  · refine (((keeps_below hbw).trans (KeepsOthers.alloc _ tmp)).trans (KeepsOthers.of_grownBy hg fun j o ej hj => ?_)).trans (KeepsOthers.setCell _ _ _)
    rcases (h1r.alloc tmp).2 with ⟨rfl, _⟩ | ⟨g, cap, cur, rfl, _, hgb, _⟩
    · simp [Value.ownBlock] at ej
    · obtain rfl : g = j := by simpa [Value.ownBlock] using ej
      rw [hgb] at hj; cases hj; rfl
  · refine ((((Below.refl n₀ W).trans (hbw.mono hn)).alloc (by have := hbw.size; omega) tmp).grown hg (by have := hbw.size; simp; omega) fun j ej => ?_).setCell (p := ⟨B, 0, none⟩) hB v'
    exact (h1.lt j ej).1
theorem InSn.below {W W' : World} {n₀ B Bs Bn : Nat} {sv : Value} {bss : List (List Ch)} (h : InSn n₀ B Bs Bn sv bss W) (hb : Below W.heap.size W W') : InSn n₀ B Bs Bn sv bss W' := by
  obtain ⟨v, hv, h1, h2, h3⟩ := h
  exact ⟨v, (hb.block _ hv.lt).trans hv, h1.below hb, (hb.block _ h2.lt).trans h2, (hb.block _ h3.lt).trans h3⟩
theorem prs_part {w : World} {b o : Nat} {rs : List Pr} (h : Prs w (some ⟨b, o, none⟩) rs) (k : Nat) : Prs w (some ⟨b, o + k * 20 * 2, none⟩) ((rs.drop (k * 20)).take 20) := by
  rcases h with h | ⟨b', o', h1, h2, h3⟩
  · subst h; exact .inl (by simp)
  · cases h1
    refine .inr ⟨b, o + k * 20 * 2, rfl, h2, fun i hi => ?_⟩
    simp only [List.length_take, List.length_drop] at hi
    have := h3 (k * 20 + i) (by omega)
    rw [show o + k * 20 * 2 + i * 2 = o + (k * 20 + i) * 2 by omega]
    have e : ((rs.drop (k * 20)).take 20).getD i (ByteArray.empty, ByteArray.empty) = rs.getD (k * 20 + i) (ByteArray.empty, ByteArray.empty) := by
      simp [List.getD, List.getElem?_take, List.getElem?_drop, show i < 20 by omega]
    rw [e]
    exact this
end Go.Proofs.YtnmaknnnmjfhkafGreatDoor
