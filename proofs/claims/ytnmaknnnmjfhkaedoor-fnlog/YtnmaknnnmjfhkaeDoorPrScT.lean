import Derived.WalkLawsBesides
import Derived.Test.YtnmaknnnmjfhkaeDoorPrScE
namespace Go.Proofs.YtnmaknnnmjfhkaeDoor
open Go.RowKit
set_option maxRecDepth 8000
set_option linter.unusedVariables false
set_option linter.unusedSimpArgs false
set_option maxHeartbeats 4000000
theorem info_strT : (Tryd.prog.info? 9).map (fun i => (i.zero, i.size, i.bytes)) = some (some (.string ByteArray.empty), 1, 16) := by kernel_rfl
theorem info_partsT {P : Program} {e : TypeId} {z : Value} {size bytes : Nat} (h : (P.info? e).map (fun i => (i.zero, i.size, i.bytes)) = some (some z, size, bytes)) : ∃ i, P.info? e = some i ∧ i.zero = some z ∧ i.size = size ∧ i.bytes = bytes := by
  obtain ⟨i, hi, hh⟩ := Option.map_eq_some_iff.1 h
  simp only [Prod.mk.injEq] at hh
  exact ⟨i, hi, hh⟩
theorem news_atT (w : World) (cs : Array Value) (t : TypeId) : ∀ j u, cs.toList[j]? = some u → (w.alloc (.cells cs t)).cell? ((⟨w.heap.size, 0, none⟩ : Addr).add j) = some u := World.news_of_block (heap_alloc_new w (.cells cs t))
theorem oneST (k : ByteArray) : ∀ u ∈ [Value.string k], u.oneCell' = true := by
  intro u hu
  simp only [List.mem_cons, List.not_mem_nil, or_false] at hu
  subst hu
  rfl
def TkPost (N FB : Nat) (y : Value) (w : World) (ents' : List ByteArray) (u' l' : Int) (w' : World) : Prop :=
  ∃ y', Row w' FB [y', .int .i64 u', .int .i64 l'] ∧ w'.ownsRow N 9 1 y' ents'.length (ents'.map Value.string) ∧ (y'.ownBlock = y.ownBlock ∨ ∃ H, y'.ownBlock = some H ∧ w.heap.size ≤ H) ∧ Below N w w' ∧ (∀ b, b < w.heap.size → b ≠ FB → some b ≠ y.ownBlock → w'.heap[b]? = w.heap[b]?)
theorem stake_i (N FB : Nat) (y : Value) (ents : List ByteArray) (u0 l0 k l m : Int) (p entry : ByteArray) (x : Nat) (w : World)
    (hr : Row w FB [y, .int .i64 u0, .int .i64 l0]) (ho : w.ownsRow N 9 1 y ents.length (ents.map Value.string)) (hNF : N ≤ FB) (hNw : N ≤ w.heap.size) (hne : y.ownBlock ≠ some FB) (hx : x ≤ 200) (hel : ents.length ≤ 300) :
    Calls Tryd.prog 48 #[.pointer (some ⟨FB, 0, none⟩), pageV k l m p, .int .i64 (x : Int), .string entry] w fun e w' => e = .returned (.tuple #[]) ∧ TkPost N FB y w (if k = 2 then ents ++ [entry] else ents) ((x : Int) + 1) l w' := by
  have hx1 : IntKind.i64.wrap ((x : Int) + 1) = (x : Int) + 1 := by simp [IntKind.wrap, IntKind.bits, IntKind.signed]; omega
  obtain ⟨i0, hi0, hz0, hz1, hz2⟩ := info_partsT info_strT
  have HI := hid (And.intro hi0 (And.intro hz0 (And.intro hz1 hz2)))
  clear hi0 hz0 hz1 hz2
  obtain ⟨ya, yc, rfl⟩ : ∃ ya yc, y = .slice ya ents.length yc := by
    rcases owns_forms ho with ⟨h1, h2⟩ | ⟨gg, cap, h1, _⟩
    · exact ⟨none, 0, by rw [h1, h2]⟩
    · exact ⟨_, cap, h1⟩
  have c0 := hr.cell 0 _ rfl
  have c1 := hr.cell 1 _ rfl
  have c2 := hr.cell 2 _ rfl
  have f0 := hr.froz 0 (by simp)
  have f1 := hr.froz 1 (by simp)
  have f2 := hr.froz 2 (by simp)
  have hl := hr.lt
  have hnl : ¬ FB = w.heap.size := by omega
  have HR := hid (((hr.set 1 (by simp) (.int .i64 ((x : Int) + 1))).set 2 (by simp) (.int .i64 l)).alloc (.cells #[.int .i64 k, .int .i64 l, .int .i64 m, .string p] 42))
  have HO := hid ((ownsRow_setCell_other (ownsRow_setCell_other ho hne (a := ⟨FB, 1, none⟩) (.int .i64 ((x : Int) + 1))) hne (a := ⟨FB, 2, none⟩) (.int .i64 l)).alloc (.cells #[.int .i64 k, .int .i64 l, .int .i64 m, .string p] 42))
  have HB := hid ((((Below.refl N w).setCell (p := ⟨FB, 1, none⟩) hNF (.int .i64 ((x : Int) + 1))).setCell (p := ⟨FB, 2, none⟩) hNF (.int .i64 l)).alloc (by simpa using hNw) (.cells #[.int .i64 k, .int .i64 l, .int .i64 m, .string p] 42))
  have HG : Hid (∀ b, b < w.heap.size → b ≠ FB → (((w.setCell ⟨FB, 1, none⟩ (.int .i64 ((x : Int) + 1))).setCell ⟨FB, 2, none⟩ (.int .i64 l)).alloc (.cells #[.int .i64 k, .int .i64 l, .int .i64 m, .string p] 42)).heap[b]? = w.heap[b]?) := fun b hb hbn => by
    rw [heap_alloc_old _ _ (by simpa using hb), Below.heap_setCell _ _ _ _ hbn, Below.heap_setCell _ _ _ _ hbn]
  by_cases hk : k = 2
  · subst hk
    rw [if_pos rfl]
    go_enter Tryd.func48, Tryd.ntmps48
    go_wp2_with (first | (at_builtin; refine wpList_append_lies _ rfl _ _ 25 rfl N 9 i0 (.string ByteArray.empty) 1 16 Tryd.underlying25 HI.out.1 HI.out.2.1 HI.out.2.2.1 HI.out.2.2.2 rfl (by omega) _ ents.length _ rfl (HO.out.alloc _) ⟨w.heap.size + 1, 0, none⟩ 1 1 [.string entry] rfl rfl (by intro j z hj; have := news_atT (((w.setCell ⟨FB, 1, none⟩ (.int .i64 ((x : Int) + 1))).setCell ⟨FB, 2, none⟩ (.int .i64 l)).alloc (.cells #[.int .i64 2, .int .i64 l, .int .i64 m, .string p] 42)) #[.string entry] 9 j z hj; simpa using this) (oneST _) (by omega) (by unfold maxLen; omega) (by omega) (by simp; omega) (w.heap.size + 1 + 1) (by simp) ?_; intro gn cap w10 hown10 hgrow10 hat10 hlt10; have rF := (HR.out.alloc (.cells #[.string entry] 9)).grown hgrow10 (fun e => hne e.symm); have d0 := rF.cell 0 _ rfl; have e0 := rF.froz 0 (by simp); have dl := rF.lt; have HRF := hid rF; have HGR := hid hgrow10; have HOW := hid hown10; have HAT := hid hat10; clear rF hgrow10 hown10 hat10))
    go_end0
    have hyb : ∀ z, (Value.slice ya ents.length yc).ownBlock = some z → N ≤ z ∧ z < w.heap.size := fun z hz => ho.lt z hz
    have hby : ¬ gn = FB := fun e => by
      rcases HAT.out with h | h
      · exact hne (h.trans (by rw [e]))
      · omega
    refine ⟨rfl, .slice (some ⟨gn, 0, none⟩) (ents.length + 1) cap, HRF.out.set 0 (by simp) _, ?_, ?_, ?_, fun b hb hbn hbo => ?_⟩
    · rw [List.length_append, List.map_append]
      exact ownsRow_setCell_other HOW.out (by simpa [Value.ownBlock] using hby) _
    · rcases HAT.out with h | h
      · exact .inl h.symm
      · exact .inr ⟨gn, rfl, by omega⟩
    · exact (((HB.out.alloc (Nat.le_trans hNw HB.out.size) _).trans (grown_below HGR.out (Nat.le_trans hNw (by simp <;> omega)) (fun z hz => (hyb z hz).1))).setCell hNF _)
    · rw [Below.heap_setCell _ _ _ _ hbn, HGR.out.block b (by simp; omega) hbo, heap_alloc_old _ _ (by simp; omega)]
      exact HG.out b hb hbn
  · rw [if_neg hk]
    have hkb : (k == 2) = false := by simp [hk]
    go_enter Tryd.func48, Tryd.ntmps48
    go_wp2
    go_end0
    exact ⟨rfl, _, HR.out, HO.out, .inl rfl, HB.out, fun b hb hbn _ => HG.out b hb hbn⟩
end Go.Proofs.YtnmaknnnmjfhkaeDoor
