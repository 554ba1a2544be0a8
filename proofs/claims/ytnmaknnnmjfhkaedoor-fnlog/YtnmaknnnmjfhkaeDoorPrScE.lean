import Derived.Test.YtnmaknnnmjfhkaeDoorPrG39
import Derived.Test.YtnmaknnnmjfhkaeDoorPrRpS
import Derived.Test.YtnmaknnnmjfhkaeDoorPrG38
import Derived.Test.YtnmaknnnmjfhkaeDoorPrG29
import Derived.Test.YtnmaknnnmjfhkaeDoorPrG46
import Derived.Test.YtnmaknnnmjfhkaeDoorPrG33
namespace Go.Proofs.YtnmaknnnmjfhkaeDoor
open Go.RowKit
set_option maxRecDepth 4000
set_option linter.unusedVariables false
set_option linter.unusedSimpArgs false
abbrev scOk (ss : List ByteArray) (ws : List (Int × ByteArray)) (frm size n : Int) : Prop := diskOk ss ws = true ∧ (1 ≤ n ∧ n ≤ 8) ∧ 0 ≤ frm ∧ 0 ≤ size ∧ frm ≤ (ss.length : Int) ∧ size ≤ (ss.length : Int) - frm
def scD (ss : List ByteArray) (ws : List (Int × ByteArray)) (frm size first life n : Int) : Scd :=
  if scOk ss ws frm size n then scanP (fun k => (syncs ws ss).getD k ByteArray.empty) frm.toNat first n size.toNat 0 0 life ByteArray.empty ([], 0, life) else ([], 0, 0)
def ScPost (w w' : World) (e : Ending) (x : Scd) : Prop := ∃ y, e = .returned (.agg #[y, .int .i64 x.2.1, .int .i64 x.2.2]) ∧ w'.ownsRow w.heap.size 9 1 y x.1.length (x.1.map Value.string) ∧ Below w.heap.size w w'
structure ScB (w0 w : World) (RB G XB OT WS : Nat) (S : List Value) (cx : Nat) (xp : Value) (y : Value) (ents : List ByteArray) (u l wk wl wm : Int) (wp : ByteArray) : Prop where
  rb : Row w RB [.slice none 0 0, .int .i64 0, .int .i64 0]
  sec : Row w G S
  xb : Row w XB [.slice (some ⟨G, 0, none⟩) S.length cx, xp]
  ot : Row w OT [y, .int .i64 u, .int .i64 l]
  ws : Row w WS [.int .i64 wk, .int .i64 wl, .int .i64 wm, .string wp]
  own : w.ownsRow w0.heap.size 9 1 y ents.length (ents.map Value.string)
  o1 : w0.heap.size ≤ RB
  o2 : RB < G
  o3 : G < XB
  o4 : XB < OT
  o5 : OT < WS
  yo : ∀ k, y.ownBlock = some k → WS < k
  be : Below w0.heap.size w0 w
section
variable {w0 w w' : World} {RB G XB OT WS : Nat} {S : List Value} {cx : Nat} {xp : Value} {y : Value} {ents : List ByteArray} {u l wk wl wm : Int} {wp : ByteArray}
theorem ScB.below (h : ScB w0 w RB G XB OT WS S cx xp y ents u l wk wl wm wp) (hb : Below w.heap.size w w') : ScB w0 w' RB G XB OT WS S cx xp y ents u l wk wl wm wp :=
  ⟨h.rb.below hb, h.sec.below hb, h.xb.below hb, h.ot.below hb, h.ws.below hb, owns_below h.own hb, h.o1, h.o2, h.o3, h.o4, h.o5, h.yo, h.be.trans (hb.mono h.be.size)⟩
theorem ScB.own_ne (h : ScB w0 w RB G XB OT WS S cx xp y ents u l wk wl wm wp) {k : Nat} (hk : k ≤ WS) : y.ownBlock ≠ some k := fun e => by have := h.yo k e; omega
theorem ScB.setWas (h : ScB w0 w RB G XB OT WS S cx xp y ents u l wk wl wm wp) (k' l' m' : Int) (p' : ByteArray) :
    ScB w0 ((((w.setCell ⟨WS, 0, none⟩ (.int .i64 k')).setCell ⟨WS, 1, none⟩ (.int .i64 l')).setCell ⟨WS, 2, none⟩ (.int .i64 m')).setCell ⟨WS, 3, none⟩ (.string p')) RB G XB OT WS S cx xp y ents u l k' l' m' p' := by
  have o1 := h.o1; have o2 := h.o2; have o3 := h.o3; have o4 := h.o4; have o5 := h.o5
  have far : ∀ {g : Nat} {cs : List Value}, g ≠ WS → Row w g cs → Row ((((w.setCell ⟨WS, 0, none⟩ (.int .i64 k')).setCell ⟨WS, 1, none⟩ (.int .i64 l')).setCell ⟨WS, 2, none⟩ (.int .i64 m')).setCell ⟨WS, 3, none⟩ (.string p')) g cs := fun hg hr =>
    (((hr.other _ (Ne.symm hg) _).other _ (Ne.symm hg) _).other _ (Ne.symm hg) _).other _ (Ne.symm hg) _
  have hy := h.own_ne (Nat.le_refl WS)
  have bs : ∀ {x : World}, Below w0.heap.size w0 x → ∀ i v, Below w0.heap.size w0 (x.setCell ⟨WS, i, none⟩ v) := fun hx i v => hx.setCell (by show w0.heap.size ≤ WS; omega) _
  exact ⟨far (by omega) h.rb, far (by omega) h.sec, far (by omega) h.xb, far (by omega) h.ot, (((h.ws.set 0 (by simp) _).set 1 (by simp) _).set 2 (by simp) _).set 3 (by simp) _,
    ownsRow_setCell_other (ownsRow_setCell_other (ownsRow_setCell_other (ownsRow_setCell_other h.own hy _) hy _) hy _) hy _, o1, o2, o3, o4, o5, h.yo, bs (bs (bs (bs h.be _ _) _ _) _ _) _ _⟩
theorem ScB.push (h : ScB w0 w RB G XB OT WS S cx xp y ents u l wk wl wm wp) {y' : Value} {ents' : List ByteArray} {H : Nat} (hown : w'.ownsRow w0.heap.size 9 1 y' ents'.length (ents'.map Value.string)) (hg : w.grownBy w' y.ownBlock) (hat : y.ownBlock = y'.ownBlock ∨ y'.ownBlock = some H) (hH : w.heap.size ≤ H) :
    ScB w0 (w'.setCell ⟨OT, 0, none⟩ y') RB G XB OT WS S cx xp y' ents' u l wk wl wm wp := by
  have o1 := h.o1; have o2 := h.o2; have o3 := h.o3; have o4 := h.o4; have o5 := h.o5
  have lW := h.ws.lt
  have yo' : ∀ k, y'.ownBlock = some k → WS < k := fun k hk => by
    rcases hat with e | e
    · exact h.yo k (e.trans hk)
    · rw [e] at hk; cases hk; omega
  have gr : ∀ {g : Nat} {cs : List Value}, g ≤ WS → Row w g cs → Row w' g cs := fun hle hr => hr.grown hg (fun e => h.own_ne hle e.symm)
  have far : ∀ {g : Nat} {cs : List Value}, g ≠ OT → Row w' g cs → Row (w'.setCell ⟨OT, 0, none⟩ y') g cs := fun hg hr => hr.other _ (Ne.symm hg) _
  have hy' : y'.ownBlock ≠ some OT := fun e => by have := yo' OT e; omega
  have be' : Below w0.heap.size w0 w' := h.be.trans (grown_below hg h.be.size (fun g e => (h.own.lt g e).1))
  exact ⟨far (by omega) (gr (by omega) h.rb), far (by omega) (gr (by omega) h.sec), far (by omega) (gr (by omega) h.xb), (gr (by omega) h.ot).set 0 (by simp) _, far (by omega) (gr (Nat.le_refl _) h.ws),
    ownsRow_setCell_other hown hy' _, o1, o2, o3, o4, o5, yo', be'.setCell (by show w0.heap.size ≤ OT; omega) _⟩
end
end Go.Proofs.YtnmaknnnmjfhkaeDoor
