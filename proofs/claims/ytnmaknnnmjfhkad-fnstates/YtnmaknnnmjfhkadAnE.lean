import Derived.Test.YtnmaknnnmjfhkadBtF
import Derived.Test.YtnmaknnnmjfhkadApTo
import Derived.Test.YtnmaknnnmjfhkadApQ
namespace Go.Proofs.Ytnmaknnnmjfhkad
open Go.RowKit
set_option maxRecDepth 8000
set_option linter.unusedVariables false
set_option linter.unusedSimpArgs false

def psLe (rs : List Pr) (k v : Nat) : Prop := ∀ x ∈ rs, x.1.size ≤ k ∧ x.2.size ≤ v
theorem psLe.get {rs : List Pr} {k v : Nat} (h : psLe rs k v) (i : Nat) : (rs.getD i (ByteArray.empty, ByteArray.empty)).1.size ≤ k ∧ (rs.getD i (ByteArray.empty, ByteArray.empty)).2.size ≤ v := by
  by_cases hi : i < rs.length
  · have e : rs.getD i (ByteArray.empty, ByteArray.empty) = rs[i] := by simp [List.getD, hi]
    rw [e]
    exact h _ (List.getElem_mem hi)
  · have e : rs.getD i (ByteArray.empty, ByteArray.empty) = (ByteArray.empty, ByteArray.empty) := by simp [List.getD, hi]
    rw [e]
    exact ⟨Nat.zero_le _, Nat.zero_le _⟩
theorem psLe.set {rs : List Pr} {k v : Nat} (h : psLe rs k v) (i : Nat) (x : Pr) (h1 : x.1.size ≤ k) (h2 : x.2.size ≤ v) : psLe (rs.set i x) k v := fun y hy => by
  rcases List.mem_or_eq_of_mem_set hy with h3 | h3
  · exact h y h3
  · subst h3; exact ⟨h1, h2⟩
theorem psLe.snoc {rs : List Pr} {k v : Nat} (h : psLe rs k v) (x : Pr) (h1 : x.1.size ≤ k) (h2 : x.2.size ≤ v) : psLe (rs ++ [x]) k v := fun y hy => by
  rcases List.mem_append.1 hy with h3 | h3
  · exact h y h3
  · simp at h3; subst h3; exact ⟨h1, h2⟩
theorem psLe_ok {rs : List Pr} (h : stateOk rs = true) : psLe rs 64000 64000 := fun x hx => by
  obtain ⟨_, h2, _⟩ := (stateOk_iff rs).1 h
  have h3 := h2 x hx
  unfold kOk vOk at h3
  simp only [decide_eq_true_eq] at h3
  omega
theorem prcells_set : ∀ (rs : List Pr) (k : Nat) (x : Pr), k < rs.length → prcells (rs.set k x) = ((prcells rs).set (k * 2) (.string x.1)).set (k * 2 + 1) (.string x.2)
  | y :: r, 0, x, _ => by simp [prcells]
  | y :: r, k + 1, x, h => by
    have ih := prcells_set r k x (by simpa using h)
    have e : ∀ (z : Pr) (l : List Pr), prcells (z :: l) = .string z.1 :: .string z.2 :: prcells l := fun z l => by simp [prcells]
    rw [List.set_cons_succ, e, e, ih, show (k + 1) * 2 = k * 2 + 2 by omega]
    rfl
theorem prset_0 (rs : List Pr) (k : Nat) (hk : k < rs.length) (s : ByteArray) : (prcells rs).set (k * 2) (.string s) = prcells (rs.set k (s, (rs.getD k (ByteArray.empty, ByteArray.empty)).2)) := by
  obtain ⟨h0, h1⟩ := prcells_at rs k hk
  rw [prcells_set rs k _ hk, list_set_same ((prcells rs).set (k * 2) (.string s)) (k * 2 + 1) _ (by rw [List.getElem?_set_ne (by omega)]; exact h1)]
theorem prset_1 (rs : List Pr) (k : Nat) (hk : k < rs.length) (s : ByteArray) : (prcells rs).set (k * 2 + 1) (.string s) = prcells (rs.set k ((rs.getD k (ByteArray.empty, ByteArray.empty)).1, s)) := by
  obtain ⟨h0, h1⟩ := prcells_at rs k hk
  rw [prcells_set rs k _ hk, list_set_same (prcells rs) (k * 2) _ h0]
theorem owns_prs {w : World} {B : Nat} {e : TypeId} {y : Value} {o : List Pr} (h : w.ownsRow B e 2 y o.length (prcells o)) : ∃ a c, y = .slice a o.length c ∧ Prs w a o := by
  rcases owns_forms h with ⟨h1, h2⟩ | ⟨g, cap, h1, h2, _, h3⟩
  · have : o = [] := List.eq_nil_of_length_eq_zero h2
    subst this
    exact ⟨none, 0, h1, .inl rfl⟩
  · exact ⟨_, cap, h1, h3.prs⟩
theorem own_cap {w : World} {B : Nat} {e : TypeId} {k : Nat} {a : Option Addr} {m c : Nat} {xs : List Value} (h : w.ownsRow B e k (.slice a m c) m xs) : m ≤ c := by
  rcases h.2 with ⟨e1, e2⟩ | ⟨g, cap, cur, e1, _, _, h3, _⟩
  · cases e1; omega
  · cases e1; exact h3
theorem onePrA (k v : ByteArray) : ∀ u ∈ [Value.string k, .string v], u.oneCell' = true := by
  intro u hu
  simp only [List.mem_cons, List.not_mem_nil, or_false] at hu
  rcases hu with rfl | rfl <;> rfl
/-- While a state is drawn: the reader, the answer's block, the variable. -/
structure AnS (w0 w : World) (R : Nat) (a : Option Addr) (n c : Nat) (q : Int) (RB SB : Nat) (y : Value) (rs : List Pr) : Prop where
  x : BdX w0 w 101 2 R a n c q y rs.length (prcells rs) SB [y]
  rb : Row w RB [.slice none 0 0]
  ro : y.ownBlock ≠ some RB
  b0 : w0.heap.size ≤ RB
  bs : RB ≠ SB
section
variable {w0 w w' : World} {R : Nat} {a : Option Addr} {n c : Nat} {q q' : Int} {RB SB : Nat} {y : Value} {rs : List Pr}
theorem AnS.pick (h : AnS w0 w R a n c q RB SB y rs) (hr : Rdr w' R a n c q') (hg : w.grownBy w' (some R)) : AnS w0 w' R a n c q' RB SB y rs :=
  ⟨h.x.pick hr hg, h.rb.grown hg (fun e => by injection e with e; have := h.b0; have := h.x.s.lR; omega), h.ro, h.b0, h.bs⟩
theorem AnS.below (h : AnS w0 w R a n c q RB SB y rs) (hb : Below w.heap.size w w') : AnS w0 w' R a n c q RB SB y rs := ⟨h.x.below hb, h.rb.below hb, h.ro, h.b0, h.bs⟩
theorem AnS.drew (h : AnS w0 w R a n c q RB SB y rs) : AnS w0 w.drew R a n c q RB SB y rs := h.below (Below.refl _ _).drew
theorem AnS.rd (h : AnS w0 w R a n c q RB SB y rs) : Rdr w R a n c q := h.x.s.rd
theorem AnS.lt (h : AnS w0 w R a n c q RB SB y rs) : w0.heap.size ≤ w.heap.size := h.x.s.lt
/-- Another state is put into the variable. -/
theorem AnS.put (h : AnS w0 w R a n c q RB SB y rs) {y' : Value} {rs' : List Pr} (ho : w.ownsRow w0.heap.size 101 2 y' rs'.length (prcells rs')) (h1 : y'.ownBlock ≠ some RB) (h2 : y'.ownBlock ≠ some SB) : AnS w0 (w.setCell ⟨SB, 0, none⟩ y') R a n c q RB SB y' rs' := by
  have hb : Below w0.heap.size w (w.setCell ⟨SB, 0, none⟩ y') := (Below.refl _ _).setCell h.x.xb _
  exact ⟨⟨⟨h.rd.keep h.x.s.lR h.x.s.ga hb, ownsRow_setCell_other ho h2 _, grown_setN h.x.s.gr _ h.x.xb _, h.x.s.lR, h.x.s.ga⟩, h.x.row.set 0 (by simp) _, h2, h.x.xb⟩, h.rb.other _ (Ne.symm h.bs) _, h1, h.b0, h.bs⟩
/-- A pair is put behind. -/
theorem AnS.push (h : AnS w0 w R a n c q RB SB y rs) {g cap H : Nat} {rs' : List Pr} (hown : w'.ownsRow w0.heap.size 101 2 (.slice (some ⟨g, 0, none⟩) rs'.length cap) rs'.length (prcells rs')) (hg : w.grownBy w' y.ownBlock) (hat : y.ownBlock = some g ∨ g = H) (hH : w.heap.size ≤ H) :
    Row w' SB [y] ∧ AnS w0 (w'.setCell ⟨SB, 0, none⟩ (.slice (some ⟨g, 0, none⟩) rs'.length cap)) R a n c q RB SB (.slice (some ⟨g, 0, none⟩) rs'.length cap) rs' := by
  have hb : Below w0.heap.size w w' := grown_below hg h.lt (fun k e => (h.x.s.own.lt k e).1)
  have lS := h.x.row.lt
  have lR := h.rb.lt
  have n1 : (Value.slice (some ⟨g, 0, none⟩) rs'.length cap).ownBlock ≠ some RB := fun e => by
    have e' : g = RB := Option.some.inj e
    rcases hat with h1 | h1
    · exact h.ro (by rw [h1, e'])
    · omega
  have n2 : (Value.slice (some ⟨g, 0, none⟩) rs'.length cap).ownBlock ≠ some SB := fun e => by
    have e' : g = SB := Option.some.inj e
    rcases hat with h1 | h1
    · exact h.x.xo (by rw [h1, e'])
    · omega
  have r1 : Row w' SB [y] := h.x.row.grown hg (fun e => h.x.xo e.symm)
  have hb2 : Below w0.heap.size w' (w'.setCell ⟨SB, 0, none⟩ (.slice (some ⟨g, 0, none⟩) rs'.length cap)) := (Below.refl _ _).setCell h.x.xb _
  refine ⟨r1, ⟨⟨(h.rd.keep h.x.s.lR h.x.s.ga hb).keep h.x.s.lR h.x.s.ga hb2, ownsRow_setCell_other hown n2 _, ?_, h.x.s.lR, h.x.s.ga⟩, r1.set 0 (by simp) _, n2, h.x.xb⟩, (h.rb.grown hg (fun e => h.ro e.symm)).other _ (Ne.symm h.bs) _, n1, h.b0, h.bs⟩
  exact grown_setN (b := w') ⟨hg.os.trans h.x.s.gr.os, hg.tape.trans h.x.s.gr.tape, hg.output.trans h.x.s.gr.output, Nat.le_trans h.x.s.gr.size hg.size, fun i hi hr => (hb.block i hi).trans (h.x.s.gr.block i hi hr)⟩ _ h.x.xb _
/-- A field of a pair is set. -/
theorem AnS.stored {g cap : Nat} (h : AnS w0 w R a n c q RB SB (.slice (some ⟨g, 0, none⟩) rs.length cap) rs) (hm : 0 < rs.length) (j : Nat) (u : Value) (rs' : List Pr) (hl : rs'.length = rs.length) (he : (prcells rs).set j u = prcells rs') : AnS w0 (w.setCell ⟨g, j, none⟩ u) R a n c q RB SB (.slice (some ⟨g, 0, none⟩) rs'.length cap) rs' := by
  have b1 := h.x.s.stored hm j u
  have r1 := h.x.row.other ⟨g, j, none⟩ (fun e => h.x.xo (by rw [← e]; rfl)) u
  rw [he, ← hl] at b1
  rw [← hl] at r1
  exact ⟨⟨b1, r1, h.x.xo, h.x.xb⟩, h.rb.other _ (fun e => h.ro (by rw [← e]; rfl)) _, h.ro, h.b0, h.bs⟩
/-- A cell beside all these is set. -/
theorem AnS.far (h : AnS w0 w R a n c q RB SB y rs) (X i : Nat) (hX : w0.heap.size ≤ X) (h1 : X ≠ SB) (h2 : X ≠ RB) (h3 : y.ownBlock ≠ some X) (v : Value) : AnS w0 (w.setCell ⟨X, i, none⟩ v) R a n c q RB SB y rs :=
  ⟨⟨h.x.s.set X i hX h3 v, h.x.row.other _ h1 _, h.x.xo, h.x.xb⟩, h.rb.other _ h2 _, h.ro, h.b0, h.bs⟩
end
theorem prs_own {w : World} {B : Nat} {e : TypeId} {a : Option Addr} {c : Nat} {o : List Pr} (h : w.ownsRow B e 2 (.slice a o.length c) o.length (prcells o)) : Prs w a o := by
  obtain ⟨a', c', e1, h1⟩ := owns_prs h
  cases e1
  exact h1
theorem chs_own {w : World} {B : Nat} {e : TypeId} {a : Option Addr} {c : Nat} {o : List (ByteArray × ByteArray × Bool)} (h : w.ownsRow B e 3 (.slice a o.length c) o.length (chcells o)) : Chs w a o := by
  rcases owns_forms h with ⟨h1, h2⟩ | ⟨g, cap, h1, h2, _, h3⟩
  · exact .inl (List.eq_nil_of_length_eq_zero h2)
  · cases h1
    exact h3.chs
theorem apR_ok (rs : List Pr) (b : List Ch) (h : apC rs b = 0) : stateOk (apR rs b) = true := by unfold apR; rw [if_pos h]; exact apU_ok h
end Go.Proofs.Ytnmaknnnmjfhkad
