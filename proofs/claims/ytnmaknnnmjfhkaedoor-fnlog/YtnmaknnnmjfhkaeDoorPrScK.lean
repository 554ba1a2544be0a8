import Derived.Shelf.Strings.BuilderK
import Derived.Test.YtnmaknnnmjfhkaeDoorPrShf
import Derived.Test.YtnmaknnnmjfhkaeDoorPrScJ
import Derived.Test.YtnmaknnnmjfhkaeDoorPrScT
namespace Go.Proofs.YtnmaknnnmjfhkaeDoor
open Go.RowKit Go.Shelf
set_option linter.unusedVariables false
set_option linter.unusedSimpArgs false
set_option maxRecDepth 4000
theorem b_writek (B b : Nat) (bs : List Value) (s : ByteArray) (w : World) (h : Lib.IsBuilderF 85 5 B b bs w) (hlen : bs.length + s.size ≤ 140737488355328) (hBw : B ≤ w.heap.size) :
    Calls Tryd.prog 47 #[.pointer (some ⟨b, 0, none⟩), .string s] w fun e w' => e = .returned (.tuple #[.int .i64 s.size, .nilIface]) ∧ (Lib.BuilderAtF 85 5 B b (.pointer (some ⟨b, 0, none⟩)) (bs ++ Lib.strCells s) w' ∧ Below B w w' ∧ Lib.OthersKept 5 (some b) w w') := Any.Builder_WriteString_k bLays166 bExtra B b bs s w h hlen hBw
theorem b_stringk (B b : Nat) (l : List UInt8) (w : World) (h : Lib.IsBuilderF 85 5 B b (Lib.byteCells l) w) (hBw : B ≤ w.heap.size) :
    Calls Tryd.prog 49 #[.pointer (some ⟨b, 0, none⟩)] w fun e w' => e = .returned (.string ⟨l.toArray⟩) ∧ (Lib.IsBuilderF 85 5 B b (Lib.byteCells l) w' ∧ Below B w w' ∧ Lib.OthersKept 5 (some b) w w') := Any.Builder_String_any_k bLays169 bExtra B b l w h hBw
theorem row_is_cells {W : World} {g : Nat} {c : Value} {cs : List Value} (h : Row W g (c :: cs)) : ∃ a t z, W.heap[g]? = some (.cells a t z) := by
  have := h.cell 0 c rfl
  unfold World.cell? at this
  split at this
  · exact ⟨_, _, _, by assumption⟩
  · cases this
theorem row_kept {W W' : World} {g : Nat} {c : Value} {cs : List Value} {row : Option Nat} (h : Row W g (c :: cs)) (hg : W.grownBy W' row) (hr : ∀ r, row = some r → r ≠ g ∨ ∃ o : Obj, W.heap[r]? = some o ∧ o.isCells = false) : Row W' g (c :: cs) := by
  refine h.grown hg fun e => ?_
  rcases hr g e.symm with h1 | ⟨o, ho, hc⟩
  · exact h1 rfl
  · obtain ⟨a, t, z, hh⟩ := row_is_cells h
    rw [hh] at ho; cases ho; cases hc
theorem own_kept {W W' : World} {base : Nat} {e : TypeId} {s : Nat} {v : Value} {n : Nat} {xs : List Value} {row : Option Nat} (h : W.ownsRow base e s v n xs) (hg : W.grownBy W' row) (hr : ∀ r, row = some r → ∃ o : Obj, W.heap[r]? = some o ∧ o.isCells = false) : W'.ownsRow base e s v n xs := by
  refine h.kept hg ?_
  rcases h.2 with ⟨rfl, _⟩ | ⟨g, cap, cur, rfl, _, hgb, _⟩
  · exact .inl rfl
  · refine .inr fun e' => ?_
    obtain ⟨o, ho, hc⟩ := hr g (by simpa [Value.ownBlock] using e'.symm)
    rw [hgb] at ho; cases ho; cases hc
theorem bu_kept {T e : TypeId} {B b : Nat} {bs : List Value} {W W' : World} {row : Option Nat} (h : Lib.IsBuilderF T e B b bs W) (hg : W.grownBy W' row) (hr : ∀ r, row = some r → r < B ∨ ∃ o : Obj, W.heap[r]? = some o ∧ o.isCells = false) : Lib.IsBuilderF T e B b bs W' := by
  have key : ∀ p, Lib.BuilderAtF T e B b p bs W → Lib.BuilderAtF T e B b p bs W' := by
    rintro p ⟨hB, v, hb, hown, hne⟩
    have hlt : b < W.heap.size := (Array.getElem?_eq_some_iff.1 hb).1
    have h1 : some b ≠ row := fun e => by
      rcases hr b e.symm with h | ⟨o, ho, hc⟩
      · omega
      · rw [hb] at ho; cases ho; cases hc
    refine ⟨hB, v, (hg.block b hlt h1).trans hb, hown.kept hg ?_, hne⟩
    cases hv : v.ownBlock with
    | none => exact .inl rfl
    | some k =>
      refine .inr fun e' => ?_
      rcases hr k e'.symm with h | ⟨o, ho, hc⟩
      · have := (hown.lt k hv).1; omega
      · obtain ⟨c, fz, hk⟩ := Lib.ownsRowF_kind hown k hv
        rw [hk] at ho; cases ho; cases hc
  rcases h with h | h
  · exact .inl (key _ h)
  · exact .inr (key _ h)
theorem bu_block {T e : TypeId} {B b : Nat} {bs : List Value} {W : World} (h : Lib.IsBuilderF T e B b bs W) : ∃ a, W.heap[b]? = some (.cells a T (0, 0)) := by
  rcases h with ⟨_, v, hb, _⟩ | ⟨_, v, hb, _⟩ <;> exact ⟨_, hb⟩
theorem keeps_others {T : TypeId} {b : Nat} {W W' : World} {a : Array Value} {z : Nat × Nat} {e : TypeId} (hb : W.heap[b]? = some (.cells a T z)) (hk : Lib.OthersKept e (some b) W W') (hs : W.heap.size ≤ W'.heap.size) : KeepsOthers W W' :=
  ⟨hs, fun k o hko hc => hk k o hko (fun e => by cases e; rw [hb] at hko; cases hko; cases hc) (fun c fz e => by rw [e] at hc; cases hc)⟩
theorem keeps_below' {W W' : World} (h : Below W.heap.size W W') : KeepsOthers W W' := ⟨h.size, fun k o hk _ => (h.block k (Array.getElem?_eq_some_iff.1 hk).1).trans hk⟩
structure ScL (w3 W : World) (Rs : List Nat) (M : Nat) (c0 c1 c2 c3 : Value) (y : Value) (ents : List ByteArray) (u l wk wl wm : Int) (wp : ByteArray) : Prop where
  lb : Row W w3.heap.size [c0, c1, c2, c3]
  fb : Row W (w3.heap.size + 1) [y, .int .i64 u, .int .i64 l]
  bb : Row W (w3.heap.size + 2) [.int .i64 wk, .int .i64 wl, .int .i64 wm, .string wp]
  own : W.ownsRow w3.heap.size 9 1 y ents.length (ents.map Value.string)
  yo : ∀ k, y.ownBlock = some k → w3.heap.size + 2 < k
  be : Below w3.heap.size w3 W
  mr : ∀ r ∈ Rs, w3.heap.size ≤ r ∧ r < M ∧ W.heap[r]? = some (.deferred (some []))
  nd : Rs.Nodup
section
variable {w3 W W' : World} {Rs : List Nat} {M : Nat} {c0 c1 c2 c3 : Value} {y : Value} {ents : List ByteArray} {u l wk wl wm : Int} {wp : ByteArray}
theorem ScL.kept {row : Option Nat} (h : ScL w3 W Rs M c0 c1 c2 c3 y ents u l wk wl wm wp) (hM : w3.heap.size ≤ M) (hg : W.grownBy W' row) (hr : ∀ r, row = some r → M ≤ r ∧ ∃ o : Obj, W.heap[r]? = some o ∧ o.isCells = false) : ScL w3 W' Rs M c0 c1 c2 c3 y ents u l wk wl wm wp := by
  have hr' : ∀ g : Nat, ∀ r, row = some r → r ≠ g ∨ ∃ o : Obj, W.heap[r]? = some o ∧ o.isCells = false := fun g r e => .inr (hr r e).2
  refine ⟨row_kept h.lb hg (hr' _), row_kept h.fb hg (hr' _), row_kept h.bb hg (hr' _), own_kept h.own hg (fun r e => (hr r e).2), h.yo, h.be.grown hg h.be.size (fun k e => Nat.le_trans hM (hr k e).1), fun r hrr => ?_, h.nd⟩
  obtain ⟨h0, h1, h2⟩ := h.mr r hrr
  exact ⟨h0, h1, (hg.block r (Array.getElem?_eq_some_iff.1 h2).1 (fun e => by have := (hr r e.symm).1; omega)).trans h2⟩
theorem ScL.low (h : ScL w3 W Rs M c0 c1 c2 c3 y ents u l wk wl wm wp) (hb : Below M W W') (hM : w3.heap.size + 2 < M) (hyM : ∀ k, y.ownBlock = some k → k < M) : ScL w3 W' Rs M c0 c1 c2 c3 y ents u l wk wl wm wp := by
  have rw' : ∀ {g : Nat} {cs : List Value}, g < M → Row W g cs → Row W' g cs := fun hg hr => ⟨Nat.lt_of_lt_of_le hr.lt hb.size, fun i v hv => (World.cell?_of_block (a := ⟨_, i, none⟩) (hb.block _ hg)).trans (hr.cell i v hv), fun i hi => (World.frozen?_of_block (a := ⟨_, i, none⟩) (hb.block _ hg)).trans (hr.froz i hi)⟩
  have ow : W'.ownsRow w3.heap.size 9 1 y ents.length (ents.map Value.string) := by
    have h1 := h.own
    refine ⟨h1.1, ?_⟩
    rcases h1.2 with h2 | ⟨g, cap, cur, hv, hbg, hgb, hrest⟩
    · exact .inl h2
    · exact .inr ⟨g, cap, cur, hv, hbg, (hb.block g (hyM g (by rw [hv]; rfl))).trans hgb, hrest⟩
  exact ⟨rw' (by omega) h.lb, rw' (by omega) h.fb, rw' (by omega) h.bb, ow, h.yo, h.be.trans (hb.mono (by omega)), fun r hr => ⟨(h.mr r hr).1, (h.mr r hr).2.1, (hb.block r (h.mr r hr).2.1).trans (h.mr r hr).2.2⟩, h.nd⟩
theorem ScL.top (h : ScL w3 W Rs M c0 c1 c2 c3 y ents u l wk wl wm wp) : ScL w3 W Rs W.heap.size c0 c1 c2 c3 y ents u l wk wl wm wp :=
  ⟨h.lb, h.fb, h.bb, h.own, h.yo, h.be, fun r hr => ⟨(h.mr r hr).1, (Array.getElem?_eq_some_iff.1 (h.mr r hr).2.2).1, (h.mr r hr).2.2⟩, h.nd⟩
theorem ScL.below (h : ScL w3 W Rs M c0 c1 c2 c3 y ents u l wk wl wm wp) (hb : Below W.heap.size W W') : ScL w3 W' Rs M c0 c1 c2 c3 y ents u l wk wl wm wp :=
  ⟨h.lb.below hb, h.fb.below hb, h.bb.below hb, owns_below h.own hb, h.yo, h.be.trans (hb.mono h.be.size), fun r hr => ⟨(h.mr r hr).1, (h.mr r hr).2.1, (hb.block r (Array.getElem?_eq_some_iff.1 (h.mr r hr).2.2).1).trans (h.mr r hr).2.2⟩, h.nd⟩
theorem ScL.own_ne (h : ScL w3 W Rs M c0 c1 c2 c3 y ents u l wk wl wm wp) {k : Nat} (hk : k ≤ w3.heap.size + 2) : y.ownBlock ≠ some k := fun e => by have := h.yo k e; omega
theorem ScL.mk_ne (h : ScL w3 W Rs M c0 c1 c2 c3 y ents u l wk wl wm wp) {r : Nat} (hr : r ∈ Rs) : r ≠ w3.heap.size + 1 ∧ r ≠ w3.heap.size + 2 ∧ y.ownBlock ≠ some r := by
  have h2 := (h.mr r hr).2.2
  refine ⟨fun e => ?_, fun e => ?_, fun e => ?_⟩
  · obtain ⟨a, t, z, hh⟩ := row_is_cells h.fb
    rw [e, hh] at h2; cases h2
  · obtain ⟨a, t, z, hh⟩ := row_is_cells h.bb
    rw [e, hh] at h2; cases h2
  · rcases h.own.2 with ⟨rfl, _⟩ | ⟨g, cap, cur, rfl, _, hgb, _⟩
    · cases e
    · have : g = r := by simpa [Value.ownBlock] using e
      rw [this, h2] at hgb; cases hgb
theorem ScL.setWas (h : ScL w3 W Rs M c0 c1 c2 c3 y ents u l wk wl wm wp) (k' l' m' : Int) (p' : ByteArray) :
    ScL w3 ((((W.setCell ⟨w3.heap.size + 2, 0, none⟩ (.int .i64 k')).setCell ⟨w3.heap.size + 2, 1, none⟩ (.int .i64 l')).setCell ⟨w3.heap.size + 2, 2, none⟩ (.int .i64 m')).setCell ⟨w3.heap.size + 2, 3, none⟩ (.string p')) Rs M c0 c1 c2 c3 y ents u l k' l' m' p' := by
  have far : ∀ {g : Nat} {cs : List Value}, g ≠ w3.heap.size + 2 → Row W g cs → Row ((((W.setCell ⟨w3.heap.size + 2, 0, none⟩ (.int .i64 k')).setCell ⟨w3.heap.size + 2, 1, none⟩ (.int .i64 l')).setCell ⟨w3.heap.size + 2, 2, none⟩ (.int .i64 m')).setCell ⟨w3.heap.size + 2, 3, none⟩ (.string p')) g cs := fun hg hr =>
    (((hr.other _ (Ne.symm hg) _).other _ (Ne.symm hg) _).other _ (Ne.symm hg) _).other _ (Ne.symm hg) _
  have hy := h.own_ne (Nat.le_refl _)
  have bs : ∀ {x : World}, Below w3.heap.size w3 x → ∀ i v, Below w3.heap.size w3 (x.setCell ⟨w3.heap.size + 2, i, none⟩ v) := fun hx i v => hx.setCell (by show w3.heap.size ≤ w3.heap.size + 2; omega) _
  refine ⟨far (by omega) h.lb, far (by omega) h.fb, (((h.bb.set 0 (by simp) _).set 1 (by simp) _).set 2 (by simp) _).set 3 (by simp) _, ownsRow_setCell_other (ownsRow_setCell_other (ownsRow_setCell_other (ownsRow_setCell_other h.own hy _) hy _) hy _) hy _, h.yo, bs (bs (bs (bs h.be _ _) _ _) _ _) _ _, fun r hr => ⟨(h.mr r hr).1, (h.mr r hr).2.1, ?_⟩, h.nd⟩
  have hn := (h.mk_ne hr).2.1
  rw [Below.heap_setCell _ _ _ _ hn, Below.heap_setCell _ _ _ _ hn, Below.heap_setCell _ _ _ _ hn, Below.heap_setCell _ _ _ _ hn]
  exact (h.mr r hr).2.2
theorem ScL.take (h : ScL w3 W Rs M c0 c1 c2 c3 y ents u l wk wl wm wp) {ents' : List ByteArray} {u' l' : Int} (ht : TkPost w3.heap.size (w3.heap.size + 1) y W ents' u' l' W') : ∃ y', ScL w3 W' Rs M c0 c1 c2 c3 y' ents' u' l' wk wl wm wp := by
  obtain ⟨y', hr, ho, hat, hb, hk⟩ := ht
  have rw' : ∀ {g : Nat} {cs : List Value}, g ≤ w3.heap.size + 2 → g ≠ w3.heap.size + 1 → Row W g cs → Row W' g cs := fun hg hne hr => by
    have e := hk _ hr.lt hne (fun e => h.own_ne hg e.symm)
    exact ⟨Nat.lt_of_lt_of_le hr.lt hb.size, fun i v hv => (World.cell?_of_block (a := ⟨_, i, none⟩) e).trans (hr.cell i v hv), fun i hi => (World.frozen?_of_block (a := ⟨_, i, none⟩) e).trans (hr.froz i hi)⟩
  have l3 := h.bb.lt
  refine ⟨y', rw' (by omega) (by omega) h.lb, hr, rw' (by omega) (by omega) h.bb, ho, fun k e => ?_, h.be.trans hb, fun r hrr => ⟨(h.mr r hrr).1, (h.mr r hrr).2.1, ?_⟩, h.nd⟩
  · rcases hat with e2 | ⟨H, e2, hH⟩
    · exact h.yo k (e2.symm.trans e)
    · rw [e2] at e; cases e; omega
  · have hn := h.mk_ne hrr
    exact (hk r (Array.getElem?_eq_some_iff.1 (h.mr r hrr).2.2).1 hn.1 (fun e => hn.2.2 e.symm)).trans (h.mr r hrr).2.2
theorem ScL.takeKeeps (h : ScL w3 W Rs M c0 c1 c2 c3 y ents u l wk wl wm wp) {ents' : List ByteArray} {u' l' : Int} (ht : TkPost w3.heap.size (w3.heap.size + 1) y W ents' u' l' W') : KeepsOthers W W' := by
  obtain ⟨y', hr, ho, hat, hb, hk⟩ := ht
  refine ⟨hb.size, fun k o hko hc => (hk k (Array.getElem?_eq_some_iff.1 hko).1 (fun e => ?_) (fun e => ?_)).trans hko⟩
  · obtain ⟨a, t, z, hh⟩ := row_is_cells h.fb
    rw [e, hh] at hko; cases hko; cases hc
  · rcases h.own.2 with ⟨rfl, _⟩ | ⟨g, cap, cur, rfl, _, hgb, _⟩
    · cases e
    · have : k = g := by simpa [Value.ownBlock] using e
      rw [this, hgb] at hko; cases hko; cases hc
theorem ScL.push (h : ScL w3 W Rs M c0 c1 c2 c3 y ents u l wk wl wm wp) {D : Nat} (hD : W.heap[D]? = some (.deferred (some []))) (hn : M ≤ D) (h3 : w3.heap.size ≤ D) : ScL w3 W (D :: Rs) W.heap.size c0 c1 c2 c3 y ents u l wk wl wm wp :=
  ⟨h.lb, h.fb, h.bb, h.own, h.yo, h.be, fun r hr => by
    rcases List.mem_cons.1 hr with rfl | hr
    · exact ⟨h3, (Array.getElem?_eq_some_iff.1 hD).1, hD⟩
    · exact ⟨(h.mr r hr).1, (Array.getElem?_eq_some_iff.1 (h.mr r hr).2.2).1, (h.mr r hr).2.2⟩, List.nodup_cons.2 ⟨fun hm => by have := (h.mr D hm).2.1; omega, h.nd⟩⟩
end
structure ScN (w3 W : World) (Rs : List Nat) (b : Nat) (c0 c1 c2 c3 : Value) (y : Value) (ents : List ByteArray) (u l wk wl wm : Int) (wp op : ByteArray) : Prop where
  sl : ScL w3 W Rs b c0 c1 c2 c3 y ents u l wk wl wm wp
  bu : Lib.IsBuilderF 85 5 b b (Lib.byteCells op.data.toList) W
  g1 : W.heap[b + 1]? = some (.cells #[c0, c1, c2, c3] 82 (0, 0))
  g2 : W.heap[b + 2]? = some (.cells #[.int .i64 u] 3 (0, 0))
  yb : ∀ k, y.ownBlock = some k → k < b
  lo : w3.heap.size + 2 < b
section
variable {w3 W W' : World} {Rs : List Nat} {b : Nat} {c0 c1 c2 c3 : Value} {y : Value} {ents : List ByteArray} {u l wk wl wm : Int} {wp op : ByteArray}
theorem ScN.kept {row : Option Nat} (h : ScN w3 W Rs b c0 c1 c2 c3 y ents u l wk wl wm wp op) (hg : W.grownBy W' row) (hr : ∀ r, row = some r → b ≤ r ∧ ∃ o : Obj, W.heap[r]? = some o ∧ o.isCells = false) : ScN w3 W' Rs b c0 c1 c2 c3 y ents u l wk wl wm wp op := by
  have hb : ∀ {g : Nat} {a : Array Value} {t : TypeId} {z : Nat × Nat}, W.heap[g]? = some (.cells a t z) → W'.heap[g]? = some (.cells a t z) := fun hh => (hg.block _ (Array.getElem?_eq_some_iff.1 hh).1 (fun e => by
    obtain ⟨_, o, ho, hc⟩ := hr _ e.symm
    rw [hh] at ho; cases ho; cases hc)).trans hh
  exact ⟨h.sl.kept (by have := h.lo; omega) hg hr, bu_kept h.bu hg (fun r e => .inr (hr r e).2), hb h.g1, hb h.g2, h.yb, h.lo⟩
theorem ScN.alloc (h : ScN w3 W Rs b c0 c1 c2 c3 y ents u l wk wl wm wp op) (o : Obj) : ScN w3 (W.alloc o) Rs b c0 c1 c2 c3 y ents u l wk wl wm wp op := h.kept (World.grownBy_alloc W o none) (fun r e => by cases e)
theorem ScN.setWas (h : ScN w3 W Rs b c0 c1 c2 c3 y ents u l wk wl wm wp op) (k' l' m' : Int) (p' : ByteArray) :
    ScN w3 ((((W.setCell ⟨w3.heap.size + 2, 0, none⟩ (.int .i64 k')).setCell ⟨w3.heap.size + 2, 1, none⟩ (.int .i64 l')).setCell ⟨w3.heap.size + 2, 2, none⟩ (.int .i64 m')).setCell ⟨w3.heap.size + 2, 3, none⟩ (.string p')) Rs b c0 c1 c2 c3 y ents u l k' l' m' p' op := by
  have lo := h.lo
  have g : ∀ (X : World) (i : Nat) (v : Value), X.grownBy (X.setCell ⟨w3.heap.size + 2, i, none⟩ v) (some (w3.heap.size + 2)) := fun X i v => ⟨rfl, rfl, rfl, by simp, fun k _ hk => Below.heap_setCell _ _ _ _ (fun e => hk (by rw [e]))⟩
  have bs : ∀ {X : World}, Lib.IsBuilderF 85 5 b b (Lib.byteCells op.data.toList) X → ∀ i v, Lib.IsBuilderF 85 5 b b (Lib.byteCells op.data.toList) (X.setCell ⟨w3.heap.size + 2, i, none⟩ v) := fun hx i v => bu_kept hx (g _ i v) (fun r e => by cases e; exact .inl lo)
  have hs : ∀ {X : World} {k : Nat} {o : Obj}, k ≠ w3.heap.size + 2 → X.heap[k]? = some o → ∀ i v, (X.setCell ⟨w3.heap.size + 2, i, none⟩ v).heap[k]? = some o := fun hk hx i v => (Below.heap_setCell _ _ _ _ hk).trans hx
  have n1 : b + 1 ≠ w3.heap.size + 2 := by omega
  have n2 : b + 2 ≠ w3.heap.size + 2 := by omega
  exact ⟨h.sl.setWas k' l' m' p', bs (bs (bs (bs h.bu _ _) _ _) _ _) _ _, hs n1 (hs n1 (hs n1 (hs n1 h.g1 _ _) _ _) _ _) _ _, hs n2 (hs n2 (hs n2 (hs n2 h.g2 _ _) _ _) _ _) _ _, h.yb, h.lo⟩
theorem ScN.wrote (h : ScN w3 W Rs b c0 c1 c2 c3 y ents u l wk wl wm wp op) {op' : ByteArray} (hb : Below b W W') (hk : Lib.OthersKept 5 (some b) W W') (hbu : Lib.IsBuilderF 85 5 b b (Lib.byteCells op'.data.toList) W') :
    ScN w3 W' Rs b c0 c1 c2 c3 y ents u l wk wl wm wp op' :=
  ⟨h.sl.low hb h.lo h.yb, hbu, hk _ _ h.g1 (by simp) (by intro c fz e; simp at e), hk _ _ h.g2 (by simp) (by intro c fz e; simp at e), h.yb, h.lo⟩
end
def InS {SF : Nat → ByteArray} {fm : Nat} {wd : Int} {N : Nat} (first : Int) (RES : Scd) (w3 : World) (Rs : List Nat) (b : Nat) (c0 c1 c2 c3 : Value) (y : Value) (ents : List ByteArray) (u : Nat) (l : Int) (pre : List (Pgs SF fm wd N)) (W : World) : Prop :=
  ∃ wk wl wm wp op, ScN w3 W Rs b c0 c1 c2 c3 y ents (u : Int) l wk wl wm wp op ∧ op.size ≤ 64 * pre.length ∧ Chn first RES u pre wk wl op (ents, (u : Int), l)
def InX {SF : Nat → ByteArray} {fm : Nat} {wd : Int} {N : Nat} (first : Int) (RES : Scd) (w3 : World) (Rs : List Nat) (b : Nat) (c0 c1 c2 c3 : Value) (y : Value) (ents : List ByteArray) (u : Nat) (l : Int) (c : Code) (pre : List (Pgs SF fm wd N)) (W : World) : Prop :=
  (c = .exit 0 ∧ (∃ wk wl wm wp, ScL w3 W Rs b c0 c1 c2 c3 y ents (u : Int) l wk wl wm wp) ∧ (Good u pre → (ents, (u : Int), l) = RES)) ∨
  (c = .exit 1 ∧ ∃ (x : Nat) (y' : Value) (ents' : List ByteArray) (l' wk wl wm : Int) (wp : ByteArray), ScL w3 W Rs b c0 c1 c2 c3 y' ents' ((x + 1 : Nat) : Int) l' wk wl wm wp ∧ x < N ∧ (Good u pre → u ≤ x ∧ ents'.length ≤ ents.length + 1 ∧ Chn (S := SF) (frm := fm) (n := wd) (size := N) first RES (x + 1) [] wk wl ByteArray.empty (ents', ((x + 1 : Nat) : Int), l')))
section
variable {SF : Nat → ByteArray} {fm : Nat} {wd : Int} {N : Nat} {first : Int} {RES : Scd} {w3 : World} {Rs : List Nat} {b : Nat} {c0 c1 c2 c3 : Value} {y : Value} {ents : List ByteArray} {u : Nat} {l : Int}
theorem InS.own (B : Nat) (hB : b ≤ B) : OwnFrom B (fun (pre : List (Pgs SF fm wd N)) W => InS first RES w3 Rs b c0 c1 c2 c3 y ents u l pre W) := by
  rintro s X Y row ⟨wk, wl, wm, wp, op, hn, h1, h2⟩ hg hr
  exact ⟨wk, wl, wm, wp, op, hn.kept hg (fun r e => ⟨Nat.le_trans hB (hr r e).1, (hr r e).2⟩), h1, h2⟩
theorem InX.own (B : Nat) (hB : b ≤ B) (hlo : w3.heap.size ≤ b) (c : Code) : OwnFrom B (fun (pre : List (Pgs SF fm wd N)) W => InX first RES w3 Rs b c0 c1 c2 c3 y ents u l c pre W) := by
  rintro s X Y row h hg hr
  have hr' : ∀ r, row = some r → b ≤ r ∧ ∃ o : Obj, X.heap[r]? = some o ∧ o.isCells = false := fun r e => ⟨Nat.le_trans hB (hr r e).1, (hr r e).2⟩
  rcases h with ⟨hc, ⟨wk, wl, wm, wp, hl⟩, hg2⟩ | ⟨hc, x, y', ents', l', wk, wl, wm, wp, hl, hx, hg2⟩
  · exact .inl ⟨hc, ⟨wk, wl, wm, wp, hl.kept hlo hg hr'⟩, hg2⟩
  · exact .inr ⟨hc, x, y', ents', l', wk, wl, wm, wp, hl.kept hlo hg hr', hx, hg2⟩
end
theorem leaves_marks {F : Fence} {n : Nat} {P : Program} {fn : Func} {tmps : Array Value} {R : Ending → World → Prop} (B : Nat) (Pr : World → Prop) (hput : ∀ W r, B ≤ r → W.heap[r]? = some (.deferred (some [])) → Pr W → Pr (W.putObj r (.deferred none))) (hfin : ∀ W, Pr W → LeavesIn F n P fn tmps R [] .returning W) :
    ∀ (Rs : List Nat) (W : World), Rs.Nodup → (∀ r ∈ Rs, B ≤ r ∧ W.heap[r]? = some (.deferred (some []))) → Pr W → LeavesInM F n P fn tmps R (Rs.map (fun r => ({ target := .collected r, args := #[] } : Deferred))) .returning W
  | [], W, _, _, hp => hfin W hp
  | r :: Rs, W, hn, hm, hp => by
    have h0 := hm r (List.mem_cons_self ..)
    refine ⟨by simp, .inl ⟨r, _, rfl, run_takeDeferred h0.2, ?_⟩⟩
    have hnr := List.nodup_cons.1 hn
    refine leaves_marks B Pr hput hfin Rs _ hnr.2 (fun q hq => ?_) (hput W r h0.1 h0.2 hp)
    have h1 := hm q (List.mem_cons_of_mem _ hq)
    exact ⟨h1.1, (World.putObj_heap_other (fun e : q = r => hnr.1 (by rw [← e]; exact hq))).trans h1.2⟩
def ScF1 (w w3 : World) (RB : Nat) (y : Value) (ents : List ByteArray) (u l : Int) (X : World) : Prop := Row X RB [y, .int .i64 u, .int .i64 l] ∧ X.ownsRow w3.heap.size 9 1 y ents.length (ents.map Value.string) ∧ Below w.heap.size w X
theorem ScF1.put {w w3 : World} {RB : Nat} {y : Value} {ents : List ByteArray} {u l : Int} (hw : w.heap.size ≤ w3.heap.size) (X : World) (r : Nat) (hr : w3.heap.size ≤ r) (hd : X.heap[r]? = some (.deferred (some []))) (h : ScF1 w w3 RB y ents u l X) : ScF1 w w3 RB y ents u l (X.putObj r (.deferred none)) := by
  obtain ⟨h1, h2, h3⟩ := h
  have hrow : ∀ q, some r = some q → ∃ o : Obj, X.heap[q]? = some o ∧ o.isCells = false := fun q e => by cases e; exact ⟨_, hd, rfl⟩
  exact ⟨row_kept h1 (grownBy_putObj' X r _) (fun q e => .inr (hrow q e)), own_kept h2 (grownBy_putObj' X r _) hrow, h3.grown (grownBy_putObj' X r _) h3.size (fun k e => by cases e; omega)⟩
theorem ScL.fin {w w3 W : World} {Rs : List Nat} {M : Nat} {c0 c1 c2 c3 : Value} {y : Value} {ents : List ByteArray} {u l wk wl wm : Int} {wp : ByteArray} {RB : Nat} {r0 r1 r2 : Value} (h : ScL w3 W Rs M c0 c1 c2 c3 y ents u l wk wl wm wp) (hr : Row w3 RB [r0, r1, r2]) (hR : w.heap.size ≤ RB) (hb : Below w.heap.size w w3) :
    ScF1 w w3 RB y ents u l (((W.setCell ⟨RB, 0, none⟩ y).setCell ⟨RB, 1, none⟩ (.int .i64 u)).setCell ⟨RB, 2, none⟩ (.int .i64 l)) ∧ (∀ r ∈ Rs, w3.heap.size ≤ r ∧ (((W.setCell ⟨RB, 0, none⟩ y).setCell ⟨RB, 1, none⟩ (.int .i64 u)).setCell ⟨RB, 2, none⟩ (.int .i64 l)).heap[r]? = some (.deferred (some []))) := by
  have hl := hr.lt
  have hrW : Row W RB [r0, r1, r2] := ⟨Nat.lt_of_lt_of_le hl h.be.size, fun i v hv => (World.cell?_of_block (a := ⟨_, i, none⟩) (h.be.block _ hl)).trans (hr.cell i v hv), fun i hi => (World.frozen?_of_block (a := ⟨_, i, none⟩) (h.be.block _ hl)).trans (hr.froz i hi)⟩
  have hy : y.ownBlock ≠ some RB := fun e => by have := h.yo RB e; omega
  refine ⟨⟨((hrW.set 0 (by simp) _).set 1 (by simp) _).set 2 (by simp) _, ownsRow_setCell_other (ownsRow_setCell_other (ownsRow_setCell_other h.own hy _) hy _) hy _, (((hb.trans (h.be.mono hb.size)).setCell hR _).setCell hR _).setCell hR _⟩, fun r hrr => ⟨(h.mr r hrr).1, ?_⟩⟩
  have hn : r ≠ RB := by have := (h.mr r hrr).1; omega
  rw [Below.heap_setCell _ _ _ _ hn, Below.heap_setCell _ _ _ _ hn, Below.heap_setCell _ _ _ _ hn]
  exact (h.mr r hrr).2.2
end Go.Proofs.YtnmaknnnmjfhkaeDoor
