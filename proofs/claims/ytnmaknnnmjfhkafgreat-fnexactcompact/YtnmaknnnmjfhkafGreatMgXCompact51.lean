import Derived.Test.YtnmaknnnmjfhkafGreatWri
import Derived.Test.YtnmaknnnmjfhkafGreatMvP
import Derived.Test.YtnmaknnnmjfhkafGreatStp
import Derived.Test.YtnmaknnnmjfhkafGreatSnT
import Derived.Test.YtnmaknnnmjfhkafGreatRt
import Derived.Test.YtnmaknnnmjfhkafGreatFill
import Derived.Test.YtnmaknnnmjfhkafGreatPageI
import Derived.Test.YtnmaknnnmjfhkafGreatCutB
import Derived.Test.YtnmaknnnmjfhkafGreatVStS
import Derived.Test.YtnmaknnnmjfhkafGreatFbJ
import Derived.Test.YtnmaknnnmjfhkafGreatSnI
import Derived.Test.YtnmaknnnmjfhkafGreatDsk
import Derived.Test.YtnmaknnnmjfhkafGreatCpP
import Derived.Test.YtnmaknnnmjfhkafGreatPage3
import Derived.Test.YtnmaknnnmjfhkafGreatFbS
import Derived.Test.YtnmaknnnmjfhkafGreatHv
import Derived.Test.YtnmaknnnmjfhkafGreatCpI
import Derived.Test.YtnmaknnnmjfhkafGreatStV
import Derived.Test.YtnmaknnnmjfhkafGreatStB

set_option maxHeartbeats 16000000
set_option maxRecDepth 8000
namespace Go.Proofs.YtnmaknnnmjfhkafGreat
open Go.RowKit
set_option linter.unusedVariables false
set_option linter.unusedSimpArgs false
set_option maxRecDepth 8000

/-- What a writer is behind one op more. -/
theorem wrt_push {W w w9 : World} {base g g9 cap9 : Nat} {va : Option Addr} {vc : Nat} {os : List OpT} {x : OpT} {at_ nm lf wd : Int} {o : Obj} (h : Wrt w base g (.slice va os.length vc) os at_ nm lf wd) (hb : base ≤ w.heap.size) (hB : Below base W w)
    (hown : w9.ownsRow base 75 3 (.slice (some ⟨g9, 0, none⟩) (os.length + 1) cap9) (os.length + 1) (opcells os ++ [.bool x.1, .int .i64 x.2.1, .string x.2.2])) (hg : (w.alloc o).grownBy w9 (Value.slice va os.length vc).ownBlock)
    (hat : (Value.slice va os.length vc).ownBlock = some g9 ∨ g9 = w.heap.size + 1) :
    Row w9 g [.slice va os.length vc, .int .i64 at_, .int .i64 nm, .int .i64 lf, .int .i64 wd] ∧ Wrt (w9.setCell ⟨g, 0, none⟩ (.slice (some ⟨g9, 0, none⟩) (os.length + 1) cap9)) base g (.slice (some ⟨g9, 0, none⟩) (os.length + 1) cap9) (os ++ [x]) at_ nm lf wd ∧ Below base W w9 ∧ Below base W (w9.setCell ⟨g, 0, none⟩ (.slice (some ⟨g9, 0, none⟩) (os.length + 1) cap9)) := by
  have hr := (h.row.alloc o).grown hg (fun e => h.ne e.symm)
  have lg := h.row.lt
  have hne9 : g9 ≠ g := by
    rcases hat with e | e
    · exact fun e2 => h.ne (by rw [← e2]; exact e)
    · omega
  have hB9 := below_grownS (hB.alloc hb _) (h.own.alloc o) hg (by simp; omega)
  have hrow := hr.set 0 (by simp) (.slice (some ⟨g9, 0, none⟩) (os.length + 1) cap9)
  refine ⟨hr, ⟨hrow, ?_, h.ge, by simp [Value.ownBlock]; exact hne9⟩, hB9, hB9.setCell (p := ⟨g, 0, none⟩) h.ge _⟩
  have hgs : w9.grownBy (w9.setCell ⟨g, 0, none⟩ (.slice (some ⟨g9, 0, none⟩) (os.length + 1) cap9)) (some g) := ⟨rfl, rfl, rfl, by simp [World.setCell], fun k _ hk => Below.heap_setCell _ _ _ k (fun e => hk (by rw [e]))⟩
  have := hown.kept hgs (.inr (by simp [Value.ownBlock]; exact hne9))
  obtain ⟨b, n, s⟩ := x
  rw [List.length_append, opcells_append]
  exact this
theorem Wrt.sl {w : World} {base g : Nat} {v : Value} {os : List OpT} {at_ nm lf wd : Int} (h : Wrt w base g v os at_ nm lf wd) : ∃ va vc, v = Value.slice va os.length vc := by
  rcases owns_forms h.own with ⟨e1, e2⟩ | ⟨g, cap, e1, _⟩
  · exact ⟨none, 0, by rw [e1, e2]⟩
  · exact ⟨_, cap, e1⟩

theorem Wrt.count {w : World} {base g : Nat} {v : Value} {os : List OpT} {at_ nm lf wd : Int} {x y : Int} (h : Wrt w base g v os at_ nm lf wd) : Wrt ((w.setCell ⟨g, 1, none⟩ (.int .i64 x)).setCell ⟨g, 2, none⟩ (.int .i64 y)) base g v os x y lf wd := by
  refine ⟨(h.row.set 1 (by simp) (.int .i64 x)).set 2 (by simp) (.int .i64 y), ?_, h.ge, h.ne⟩
  have hgs : w.grownBy ((w.setCell ⟨g, 1, none⟩ (.int .i64 x)).setCell ⟨g, 2, none⟩ (.int .i64 y)) (some g) := ⟨rfl, rfl, rfl, by simp [World.setCell], fun k _ hk => (Below.heap_setCell _ _ _ k (fun e => hk (by rw [e]))).trans (Below.heap_setCell _ _ _ k (fun e => hk (by rw [e])))⟩
  exact h.own.kept hgs (.inr h.ne)

/-- What a writer leaves as it was: all but itself and its row. -/
structure WK (g : Nat) (w : World) (v : Value) (w' : World) (v' : Value) : Prop where
  size : w.heap.size ≤ w'.heap.size
  own : ∀ k, v'.ownBlock = some k → v.ownBlock = some k ∨ w.heap.size ≤ k
  blk : ∀ b, b < w.heap.size → b ≠ g → some b ≠ v.ownBlock → w'.heap[b]? = w.heap[b]?
theorem WK.start (g : Nat) (w : World) (v : Value) : WK g w v w v := ⟨Nat.le_refl _, fun _ h => .inl h, fun _ _ _ _ => rfl⟩
theorem WK.trans {g : Nat} {w w1 w2 : World} {v v1 v2 : Value} (h : WK g w v w1 v1) (k : WK g w1 v1 w2 v2) : WK g w v w2 v2 :=
  ⟨Nat.le_trans h.size k.size, fun j hj => (k.own j hj).elim (h.own j) (fun e => .inr (Nat.le_trans h.size e)), fun b hb h1 h2 => (k.blk b (Nat.lt_of_lt_of_le hb h.size) h1 (fun e => (h.own b e.symm).elim (fun e => h2 e.symm) (fun e => by omega))).trans (h.blk b hb h1 h2)⟩
theorem WK.below {g : Nat} {w w1 w2 : World} {v v1 : Value} (h : WK g w v w1 v1) (k : Below w1.heap.size w1 w2) : WK g w v w2 v1 := h.trans ⟨k.size, fun _ h => .inl h, fun b hb _ _ => k.block b hb⟩
theorem Row.wk {w w' : World} {k g : Nat} {v v' : Value} {cs : List Value} (h : Row w k cs) (hk : WK g w v w' v') (h1 : k ≠ g) (h2 : some k ≠ v.ownBlock) : Row w' k cs := by
  have e := hk.blk k h.lt h1 h2
  refine ⟨Nat.lt_of_lt_of_le h.lt hk.size, fun i v hv => (?_ : w'.cell? ⟨k, i, none⟩ = some v), fun i hi => ?_⟩
  · rw [← h.cell i v hv]; simp [World.cell?, e]
  · rw [← h.froz i hi]; simp [World.frozen?, e]
theorem push_blocks {w w9 : World} {g : Nat} {r : Option Nat} {o : Obj} {u x y : Value} (hg : (w.alloc o).grownBy w9 r) : ∀ b, b < w.heap.size → b ≠ g → some b ≠ r → (((w9.setCell ⟨g, 0, none⟩ u).setCell ⟨g, 1, none⟩ x).setCell ⟨g, 2, none⟩ y).heap[b]? = w.heap[b]? := fun b hb h1 h2 => by
  rw [Below.heap_setCell _ _ _ b (fun e => h1 (by rw [e])), Below.heap_setCell _ _ _ b (fun e => h1 (by rw [e])), Below.heap_setCell _ _ _ b (fun e => h1 (by rw [e])), hg.block b (by simp; omega) h2]
  exact ((Below.refl w.heap.size w).alloc (Nat.le_refl _) o).block b hb
set_option maxHeartbeats 16000000 in
theorem page_i2 (base g : Nat) (v : Value) (os : List OpT) (at_ nm lf wd : Int) (form : ByteArray) (w : World) (h : Wrt w base g v os at_ nm lf wd) (hb : base ≤ w.heap.size) (hl : os.length ≤ 1000) (ha0 : 0 ≤ at_) (ha1 : at_ ≤ 100000) (hn0 : 0 ≤ nm) (hn1 : nm ≤ 2000000000) :
    Calls Tryz.prog 92 #[.pointer (some ⟨g, 0, none⟩), .string form] w fun e w' => (∃ x, e = .returned x) ∧ ∃ v', Wrt w' base g v' (os ++ [(false, at_, form)]) (at_ + 1) (nm + 1) lf wd ∧ Below base w w' ∧ WK g w v w' v' := by
  obtain ⟨i0, hi0, hz0, hz1, hz2⟩ := info_partsP info_opW
  have HI := hid (And.intro hi0 (And.intro hz0 (And.intro hz1 hz2)))
  clear hi0 hz0 hz1 hz2
  obtain ⟨va, vc, rfl⟩ := h.sl
  have q0 : w.drew.cell? ⟨g, 0, none⟩ = some (.slice va os.length vc) := h.row.drew.cell 0 _ rfl
  have qa : (w.drew.alloc (.cells #[.bool false, .int .i64 at_, .string form] 75)).cell? ⟨g, 0, none⟩ = some (.slice va os.length vc) := (h.row.drew.alloc _).cell 0 _ rfl
  have q00 : w.cell? ⟨g, 0, none⟩ = some (.slice va os.length vc) := h.row.cell 0 _ rfl
  have lg := h.row.lt
  have HW := hid h
  have HOA := hid (owns_below h.own ((Below.refl _ _).drew.alloc (Nat.le_refl _) (.cells #[.bool false, .int .i64 at_, .string form] 75)))
  have HSA : Hid ((w.drew.alloc (.cells #[.bool false, .int .i64 at_, .string form] 75)).cell? ⟨g, 1, none⟩ = some (.int .i64 at_) ∧ g < (w.drew.alloc (.cells #[.bool false, .int .i64 at_, .string form] 75)).heap.size) := ⟨(h.row.drew.alloc _).cell 1 _ rfl, (h.row.drew.alloc _).lt⟩
  go_enter Tryz.func92, Tryz.ntmps92
  go_wp2_with fail

  refine wp_region_held_drew (S := fun w' => w'.cell? ⟨g, 1, none⟩ = some (.int .i64 at_) ∧ g < w'.heap.size) (by kernel_rfl) (⟨h.row.drew.cell 1 _ rfl, h.row.drew.lt⟩) (fun hHeld => ?_)
  refine wpAnyH_take (i := 0) (v := .pointer (some ⟨g, 0, none⟩)) rfl (by kernel_rfl) (by kernel_rfl) (by kernel_rfl) (fun _ _ _ h => h) (Or.inl ⟨by rfl, fun w hw => by obtain ⟨z0, z1⟩ := hw; go_simp⟩) hHeld ?_
  simp only [Act.put, List.getElem_toArray, List.getElem_cons_zero, List.getElem_cons_succ, List.setIfInBounds_toArray, List.set_cons_zero, List.set_cons_succ]
  refine wpAnyH_take (i := 1) (v := .pointer (some ⟨g, 0, none⟩)) rfl (by kernel_rfl) (by kernel_rfl) (by kernel_rfl) (fun _ _ _ h => h) (Or.inl ⟨by rfl, fun w hw => by obtain ⟨z0, z1⟩ := hw; go_simp⟩) hHeld ?_
  simp only [Act.put, List.getElem_toArray, List.getElem_cons_zero, List.getElem_cons_succ, List.setIfInBounds_toArray, List.set_cons_zero, List.set_cons_succ]
  refine wpAnyH_take (i := 2) (v := .pointer (some ⟨g, 0, none⟩)) rfl (by kernel_rfl) (by kernel_rfl) (by kernel_rfl) (fun _ _ _ h => h) (Or.inl ⟨by rfl, fun w hw => by obtain ⟨z0, z1⟩ := hw; go_simp⟩) hHeld ?_
  simp only [Act.put, List.getElem_toArray, List.getElem_cons_zero, List.getElem_cons_succ, List.setIfInBounds_toArray, List.set_cons_zero, List.set_cons_succ]
  refine wpAnyH_take (i := 3) (v := .pointer (some ⟨g, 0, none⟩)) rfl (by kernel_rfl) (by kernel_rfl) (by kernel_rfl) (fun _ _ _ h => h) (Or.inl ⟨by rfl, fun w hw => by obtain ⟨z0, z1⟩ := hw; go_simp⟩) hHeld ?_
  simp only [Act.put, List.getElem_toArray, List.getElem_cons_zero, List.getElem_cons_succ, List.setIfInBounds_toArray, List.set_cons_zero, List.set_cons_succ]
  refine wpAnyH_take (i := 5) (v := .pointer (some ⟨g, 0, none⟩)) rfl (by kernel_rfl) (by kernel_rfl) (by kernel_rfl) (fun _ _ _ h => h) (Or.inl ⟨by rfl, fun w hw => by obtain ⟨z0, z1⟩ := hw; go_simp⟩) hHeld ?_
  simp only [Act.put, List.getElem_toArray, List.getElem_cons_zero, List.getElem_cons_succ, List.setIfInBounds_toArray, List.set_cons_zero, List.set_cons_succ]
  refine wpAnyH_take (i := 6) (v := .pointer (some ⟨g, 0, none⟩)) rfl (by kernel_rfl) (by kernel_rfl) (by kernel_rfl) (fun _ _ _ h => h) (Or.inl ⟨by rfl, fun w hw => by obtain ⟨z0, z1⟩ := hw; go_simp⟩) hHeld ?_
  simp only [Act.put, List.getElem_toArray, List.getElem_cons_zero, List.getElem_cons_succ, List.setIfInBounds_toArray, List.set_cons_zero, List.set_cons_succ]
  refine wpAnyH_take (i := 7) (v := .pointer (some ⟨g, 1, none⟩)) rfl (by kernel_rfl) (by kernel_rfl) (by kernel_rfl) (fun _ _ _ h => h) (Or.inl ⟨by rfl, fun w hw => by obtain ⟨z0, z1⟩ := hw; go_simp⟩) hHeld ?_
  simp only [Act.put, List.getElem_toArray, List.getElem_cons_zero, List.getElem_cons_succ, List.setIfInBounds_toArray, List.set_cons_zero, List.set_cons_succ]
  refine wpAnyH_take (i := 8) (v := .int .i64 at_) rfl (by kernel_rfl) (by kernel_rfl) (by kernel_rfl) (fun _ _ _ h => h) (Or.inl ⟨by rfl, fun w hw => by obtain ⟨z0, z1⟩ := hw; go_simp⟩) hHeld ?_
  simp only [Act.put, List.getElem_toArray, List.getElem_cons_zero, List.getElem_cons_succ, List.setIfInBounds_toArray, List.set_cons_zero, List.set_cons_succ]
  refine wpAnyH_take (i := 9) (v := .string form) rfl (by kernel_rfl) (by kernel_rfl) (by kernel_rfl) (fun _ _ _ h => h) (Or.inl ⟨by rfl, fun w hw => by obtain ⟨z0, z1⟩ := hw; go_simp⟩) hHeld ?_
  simp only [Act.put, List.getElem_toArray, List.getElem_cons_zero, List.getElem_cons_succ, List.setIfInBounds_toArray, List.set_cons_zero, List.set_cons_succ]
  refine wpAnyH_take (i := 10) (v := .agg #[.bool false, .int .i64 at_, .string form]) rfl (by kernel_rfl) (by kernel_rfl) (by kernel_rfl) (fun _ _ _ h => h) (Or.inl ⟨by rfl, fun w hw => by obtain ⟨z0, z1⟩ := hw; go_simp⟩) hHeld ?_
  simp only [Act.put, List.getElem_toArray, List.getElem_cons_zero, List.getElem_cons_succ, List.setIfInBounds_toArray, List.set_cons_zero, List.set_cons_succ]
  refine wpAnyH_ready (rs := [4, 11]) (by kernel_rfl) (by simp) ?_
  refine AllReadyH.cons rfl (fun K hK => ?_) (AllReadyH.cons rfl (fun K hK => ?_) AllReadyH.nil)
  · go_simp
    refine hK.out _ _ hHeld (fun _ => ?_)
    clear hK K
    try simp only [Act.put, List.getElem_toArray, List.getElem_cons_zero, List.getElem_cons_succ, List.setIfInBounds_toArray, List.set_cons_zero, List.set_cons_succ]
    refine wpAnyH_ready (rs := [11]) (by kernel_rfl) (by simp) ?_
    refine AllReadyH.cons rfl (fun K hK => ?_) AllReadyH.nil
    go_simp
    refine hK.out _ _ (HSA.out) (fun hHd2 => ?_)
    clear hK K
    try simp only [Act.put, List.getElem_toArray, List.getElem_cons_zero, List.getElem_cons_succ, List.setIfInBounds_toArray, List.set_cons_zero, List.set_cons_succ]
    refine wpAnyH_ready (rs := [12]) (by kernel_rfl) (by simp) ?_
    refine AllReadyH.cons rfl (fun K hK => ?_) AllReadyH.nil
    refine step_append_lies _ (by rfl) _ _ _ (by rfl) base 75 i0 (.agg #[.bool false, .int .i64 0, .string ByteArray.empty]) 3 32 Tryz.underlying36 HI.out.1 HI.out.2.1 HI.out.2.2.1 HI.out.2.2.2 rfl (by omega) (.slice va os.length vc) os.length _ (by rfl) HOA.out ⟨w.heap.size, 0, none⟩ 1 1 [.bool false, .int .i64 at_, .string form] (by rfl) rfl (World.news_of_block (heap_alloc_new w.drew _)) (oneOp _ _ _) (by omega) (by unfold maxLen; omega) (by omega) (by simp <;> omega) (w.heap.size + 1) (by simp) ?_
    intro g9 cap9 w9 hown9 hgrow9 hat9 hlt9
    have hend := wrt_push (x := (false, at_, form)) HW.out hb (Below.refl _ _) hown9 (undrew' hgrow9) hat9
    have HEND := hid hend
    have q9 := hend.1.cell 0 _ rfl
    have q91 := hend.1.cell 1 _ rfl
    have r9 := hend.1.froz 0 (by simp)
    have lg9 := hend.1.lt
    have HGR := hid (undrew' hgrow9)
    have HAT := hid hat9
    clear hown9 hgrow9 hat9 hend
    refine hK.out _ _ (⟨q91, lg9⟩) (fun hHd3 => ?_)
    clear hK K
    try simp only [Act.put, List.getElem_toArray, List.getElem_cons_zero, List.getElem_cons_succ, List.setIfInBounds_toArray, List.set_cons_zero, List.set_cons_succ]
    refine wpAnyH_take (i := 13) (v := .pointer (some ⟨g, 0, none⟩)) rfl (by kernel_rfl) (by kernel_rfl) (by kernel_rfl) (fun _ _ _ h => h) (Or.inl ⟨by rfl, fun w hw => by obtain ⟨z0, z1⟩ := hw; go_simp⟩) hHd3 ?_
    simp only [Act.put, List.getElem_toArray, List.getElem_cons_zero, List.getElem_cons_succ, List.setIfInBounds_toArray, List.set_cons_zero, List.set_cons_succ]
    refine wpAnyH_take (i := 14) (v := .pointer (some ⟨g, 0, none⟩)) rfl (by kernel_rfl) (by kernel_rfl) (by kernel_rfl) (fun _ _ _ h => h) (Or.inl ⟨by rfl, fun w hw => by obtain ⟨z0, z1⟩ := hw; go_simp⟩) hHd3 ?_
    simp only [Act.put, List.getElem_toArray, List.getElem_cons_zero, List.getElem_cons_succ, List.setIfInBounds_toArray, List.set_cons_zero, List.set_cons_succ]
    refine wpAnyH_ready (rs := [15]) (by kernel_rfl) (by simp) ?_
    refine AllReadyH.cons rfl (fun K hK => ?_) AllReadyH.nil
    go_simp
    refine hK.out _ _ (⟨by go_simp, by simpa [World.setCell] using lg9⟩) (fun hHd4 => ?_)
    clear hK K
    try simp only [Act.put, List.getElem_toArray, List.getElem_cons_zero, List.getElem_cons_succ, List.setIfInBounds_toArray, List.set_cons_zero, List.set_cons_succ]
    refine wpAnyH_done (by kernel_rfl) ?_ _
    have h1 := HEND.out.2.1.row.cell 1 _ rfl
    have h2 := HEND.out.2.1.row.cell 2 _ rfl
    have f1 := HEND.out.2.1.row.froz 1 (by simp)
    have f2 := HEND.out.2.1.row.froz 2 (by simp)
    have hl0 := HEND.out.2.1.row.lt
    clear q9 q91 r9 lg9
    have HPB := hid (fun x y => push_blocks (g := g) (u := .slice (some ⟨g9, 0, none⟩) (os.length + 1) cap9) (x := x) (y := y) HGR.out)
    obtain ⟨w8, hw8⟩ : ∃ w8, w8 = w9.setCell ⟨g, 0, none⟩ (.slice (some ⟨g9, 0, none⟩) (os.length + 1) cap9) := ⟨_, rfl⟩
    rw [← hw8] at h1 h2 f1 f2 HEND HPB hl0 ⊢
    clear hw8
    go_wp2
    go_end0
    refine ⟨⟨_, rfl⟩, .slice (some ⟨g9, 0, none⟩) (os.length + 1) cap9, HEND.out.2.1.count, (HEND.out.2.2.2.setCell (p := ⟨g, 1, none⟩) h.ge _).setCell (p := ⟨g, 2, none⟩) h.ge _, ((HEND.out.2.2.2.setCell (p := ⟨g, 1, none⟩) h.ge _).setCell (p := ⟨g, 2, none⟩) h.ge _).size, fun k hk => ?_, HPB.out _ _⟩
    have : k = g9 := by simp [Value.ownBlock] at hk; exact hk.symm
    subst this
    rcases HAT.out with h1 | h1
    · exact .inl h1
    · right; omega
  · go_simp
    refine hK.out _ _ (HSA.out) (fun hHd5 => ?_)
    clear hK K
    try simp only [Act.put, List.getElem_toArray, List.getElem_cons_zero, List.getElem_cons_succ, List.setIfInBounds_toArray, List.set_cons_zero, List.set_cons_succ]
    refine wpAnyH_ready (rs := [4]) (by kernel_rfl) (by simp) ?_
    refine AllReadyH.cons rfl (fun K hK => ?_) AllReadyH.nil
    go_simp
    refine hK.out _ _ hHd5 (fun _ => ?_)
    clear hK K
    try simp only [Act.put, List.getElem_toArray, List.getElem_cons_zero, List.getElem_cons_succ, List.setIfInBounds_toArray, List.set_cons_zero, List.set_cons_succ]
    refine wpAnyH_ready (rs := [12]) (by kernel_rfl) (by simp) ?_
    refine AllReadyH.cons rfl (fun K hK => ?_) AllReadyH.nil
    refine step_append_lies _ (by rfl) _ _ _ (by rfl) base 75 i0 (.agg #[.bool false, .int .i64 0, .string ByteArray.empty]) 3 32 Tryz.underlying36 HI.out.1 HI.out.2.1 HI.out.2.2.1 HI.out.2.2.2 rfl (by omega) (.slice va os.length vc) os.length _ (by rfl) HOA.out ⟨w.heap.size, 0, none⟩ 1 1 [.bool false, .int .i64 at_, .string form] (by rfl) rfl (World.news_of_block (heap_alloc_new w.drew _)) (oneOp _ _ _) (by omega) (by unfold maxLen; omega) (by omega) (by simp <;> omega) (w.heap.size + 1) (by simp) ?_
    intro g9 cap9 w9 hown9 hgrow9 hat9 hlt9
    have hend := wrt_push (x := (false, at_, form)) HW.out hb (Below.refl _ _) hown9 (undrew' hgrow9) hat9
    have HEND := hid hend
    have q9 := hend.1.cell 0 _ rfl
    have q91 := hend.1.cell 1 _ rfl
    have r9 := hend.1.froz 0 (by simp)
    have lg9 := hend.1.lt
    have HGR := hid (undrew' hgrow9)
    have HAT := hid hat9
    clear hown9 hgrow9 hat9 hend
    refine hK.out _ _ (⟨q91, lg9⟩) (fun hHd7 => ?_)
    clear hK K
    try simp only [Act.put, List.getElem_toArray, List.getElem_cons_zero, List.getElem_cons_succ, List.setIfInBounds_toArray, List.set_cons_zero, List.set_cons_succ]
    refine wpAnyH_take (i := 13) (v := .pointer (some ⟨g, 0, none⟩)) rfl (by kernel_rfl) (by kernel_rfl) (by kernel_rfl) (fun _ _ _ h => h) (Or.inl ⟨by rfl, fun w hw => by obtain ⟨z0, z1⟩ := hw; go_simp⟩) hHd7 ?_
    simp only [Act.put, List.getElem_toArray, List.getElem_cons_zero, List.getElem_cons_succ, List.setIfInBounds_toArray, List.set_cons_zero, List.set_cons_succ]
    refine wpAnyH_take (i := 14) (v := .pointer (some ⟨g, 0, none⟩)) rfl (by kernel_rfl) (by kernel_rfl) (by kernel_rfl) (fun _ _ _ h => h) (Or.inl ⟨by rfl, fun w hw => by obtain ⟨z0, z1⟩ := hw; go_simp⟩) hHd7 ?_
    simp only [Act.put, List.getElem_toArray, List.getElem_cons_zero, List.getElem_cons_succ, List.setIfInBounds_toArray, List.set_cons_zero, List.set_cons_succ]
    refine wpAnyH_ready (rs := [15]) (by kernel_rfl) (by simp) ?_
    refine AllReadyH.cons rfl (fun K hK => ?_) AllReadyH.nil
    go_simp
    refine hK.out _ _ (⟨by go_simp, by simpa [World.setCell] using lg9⟩) (fun hHd8 => ?_)
    clear hK K
    try simp only [Act.put, List.getElem_toArray, List.getElem_cons_zero, List.getElem_cons_succ, List.setIfInBounds_toArray, List.set_cons_zero, List.set_cons_succ]
    refine wpAnyH_done (by kernel_rfl) ?_ _
    have h1 := HEND.out.2.1.row.cell 1 _ rfl
    have h2 := HEND.out.2.1.row.cell 2 _ rfl
    have f1 := HEND.out.2.1.row.froz 1 (by simp)
    have f2 := HEND.out.2.1.row.froz 2 (by simp)
    have hl0 := HEND.out.2.1.row.lt
    clear q9 q91 r9 lg9
    have HPB := hid (fun x y => push_blocks (g := g) (u := .slice (some ⟨g9, 0, none⟩) (os.length + 1) cap9) (x := x) (y := y) HGR.out)
    obtain ⟨w8, hw8⟩ : ∃ w8, w8 = w9.setCell ⟨g, 0, none⟩ (.slice (some ⟨g9, 0, none⟩) (os.length + 1) cap9) := ⟨_, rfl⟩
    rw [← hw8] at h1 h2 f1 f2 HEND HPB hl0 ⊢
    clear hw8
    go_wp2
    go_end0
    refine ⟨⟨_, rfl⟩, .slice (some ⟨g9, 0, none⟩) (os.length + 1) cap9, HEND.out.2.1.count, (HEND.out.2.2.2.setCell (p := ⟨g, 1, none⟩) h.ge _).setCell (p := ⟨g, 2, none⟩) h.ge _, ((HEND.out.2.2.2.setCell (p := ⟨g, 1, none⟩) h.ge _).setCell (p := ⟨g, 2, none⟩) h.ge _).size, fun k hk => ?_, HPB.out _ _⟩
    have : k = g9 := by simp [Value.ownBlock] at hk; exact hk.symm
    subst this
    rcases HAT.out with h1 | h1
    · exact .inl h1
    · right; omega
theorem page_i (base g : Nat) (v : Value) (os : List OpT) (at_ nm lf wd : Int) (form : ByteArray) (w : World) (h : Wrt w base g v os at_ nm lf wd) (hb : base ≤ w.heap.size) (hl : os.length ≤ 1000) (ha0 : 0 ≤ at_) (ha1 : at_ ≤ 100000) (hn0 : 0 ≤ nm) (hn1 : nm ≤ 2000000000) :
    Calls Tryz.prog 92 #[.pointer (some ⟨g, 0, none⟩), .string form] w fun e w' => (∃ x, e = .returned x) ∧ (∃ v', Wrt w' base g v' (os ++ [(false, at_, form)]) (at_ + 1) (nm + 1) lf wd) ∧ Below base w w' :=
  (page_i2 base g v os at_ nm lf wd form w h hb hl ha0 ha1 hn0 hn1).mono fun e w' ⟨h1, v', h2, h3, _⟩ => ⟨h1, ⟨v', h2⟩, h3⟩
end Go.Proofs.YtnmaknnnmjfhkafGreat

namespace Go.Proofs.YtnmaknnnmjfhkafGreat
open Go.RowKit
set_option maxRecDepth 4000
set_option linter.unusedVariables false
set_option linter.unusedSimpArgs false
/-- A root's box and a row of bytes behind a world: the box stands. -/
structure RI (W w : World) (c0 c1 c2 c3 : Value) : Prop where
  size : W.heap.size + 2 ≤ w.heap.size
  bel : Below W.heap.size W w
  b0 : w.cell? ⟨W.heap.size, 0, none⟩ = some c0
  b1 : w.cell? ⟨W.heap.size, 1, none⟩ = some c1
  b2 : w.cell? ⟨W.heap.size, 2, none⟩ = some c2
  b3 : w.cell? ⟨W.heap.size, 3, none⟩ = some c3
section
variable {W w w' : World} {c0 c1 c2 c3 : Value}
theorem RI.drew (h : RI W w c0 c1 c2 c3) : RI W w.drew c0 c1 c2 c3 := ⟨h.size, h.bel.drew, h.b0, h.b1, h.b2, h.b3⟩
theorem RI.past (h : RI W w c0 c1 c2 c3) (hb : Below (W.heap.size + 1) w w') : RI W w' c0 c1 c2 c3 :=
  have hs := h.size
  ⟨Nat.le_trans hs hb.size, h.bel.trans (hb.mono (by omega)), (hb.cell (p := ⟨_, 0, none⟩) (by show W.heap.size < _; omega)).trans h.b0, (hb.cell (p := ⟨_, 1, none⟩) (by show W.heap.size < _; omega)).trans h.b1,
    (hb.cell (p := ⟨_, 2, none⟩) (by show W.heap.size < _; omega)).trans h.b2, (hb.cell (p := ⟨_, 3, none⟩) (by show W.heap.size < _; omega)).trans h.b3⟩
theorem RI.below (h : RI W w c0 c1 c2 c3) (hb : Below w.heap.size w w') : RI W w' c0 c1 c2 c3 := h.past (hb.mono (by have := h.size; omega))
theorem RI.wrote {o : Nat} {ys : List Int} (h : RI W w c0 c1 c2 c3) (hw : Wrote w w' (W.heap.size + 1) o ys) : RI W w' c0 c1 c2 c3 := h.past (hw.below (Nat.le_refl _))
theorem RI.toS (h : RI W w c0 c1 c2 c3) : w.cell? ⟨W.heap.size, 0, none⟩ = some c0 ∧ w.cell? ⟨W.heap.size, 1, none⟩ = some c1 ∧ w.cell? ⟨W.heap.size, 2, none⟩ = some c2 ∧ w.cell? ⟨W.heap.size, 3, none⟩ = some c3 ∧ RI W w c0 c1 c2 c3 := ⟨h.b0, h.b1, h.b2, h.b3, h⟩
theorem RI.ofS (h : w.cell? ⟨W.heap.size, 0, none⟩ = some c0 ∧ w.cell? ⟨W.heap.size, 1, none⟩ = some c1 ∧ w.cell? ⟨W.heap.size, 2, none⟩ = some c2 ∧ w.cell? ⟨W.heap.size, 3, none⟩ = some c3 ∧ RI W w c0 c1 c2 c3) : RI W w c0 c1 c2 c3 := h.2.2.2.2
end
theorem wp_start5 {P : Program} {c : Code} {Q : Exit → Act → World → Prop} {a : Act} (w : World) (c0 c1 c2 c3 : Value) (t1 t2 : TypeId)
    (h : ∀ wa, RI w wa c0 c1 c2 c3 → Fm wa (w.heap.size + 1) [0, 0, 0, 0, 0] → c.wp P Q a wa) :
    c.wp P Q a ((w.alloc (.cells #[c0, c1, c2, c3] t1)).alloc (.cells #[.int .u8 0, .int .u8 0, .int .u8 0, .int .u8 0, .int .u8 0] t2)) := by
  refine h _ ⟨by simp, ((Below.refl _ _).alloc (Nat.le_refl _) _).alloc (by simp) _, by simp, by simp, by simp, by simp⟩ ⟨fun i hi => ?_, fun i hi => ?_⟩
  · rw [World.cell?_alloc_at _ _ _ _ (by simp)]
    have hi' : i < 5 := hi
    have : i = 0 ∨ i = 1 ∨ i = 2 ∨ i = 3 ∨ i = 4 := by omega
    rcases this with h | h | h | h | h <;> subst h <;> rfl
  · rw [frozen?_alloc_cells, frozen?_alloc_cells]
    exact frozen_past _ _ _ (by omega)
theorem rt_list (h f : Int) {xs1 xs2 : List Int} (h1 : xs1 = spl [0, 0, 0, 0, 0] 0 (be 1 h)) (h2 : xs2 = spl xs1 1 (be 4 f)) : strOfNums xs2 = rtPart h f := by
  have a1 : (be 1 h).length = 1 := be_length _ _
  have a2 : (be 4 f).length = 4 := be_length _ _
  unfold rtPart
  rw [← strOfNums_append]
  subst h1 h2
  congr 1
theorem rootpage_i_no (t h f l n : Int) (w : World) (hno : ¬ rtOk h f) : Calls Tryz.prog 104 #[rootV t h f l, .int .i64 n] w fun e w' => e = .returned (.string ByteArray.empty) ∧ Below w.heap.size w w' := by
  have hb0 : ∀ o, Below w.heap.size w (w.alloc o) := fun o => (Below.refl _ _).alloc (Nat.le_refl _) _
  unfold rtOk at hno
  by_cases d1 : 0 ≤ h ∧ h ≤ 1
  · have d1' : decide (0 ≤ h ∧ h ≤ 1) = true := decide_eq_true d1
    have d2' : decide (1 ≤ f ∧ f ≤ 999999000) = false := by simp; omega
    clear hno d1
    go_enter Tryz.func104, Tryz.ntmps104
    go_wp2_with (first | (go_at_call 98; refine (half_i _ _).mono ?_; rw [d1']; rintro e w1 ⟨rfl, rfl⟩) | (go_at_call 99; refine (first_i _ _).mono ?_; rw [d2']; rintro e w2 ⟨rfl, rfl⟩))
    go_ret
    exact ⟨rfl, hb0 _⟩
  · have d1' : decide (0 ≤ h ∧ h ≤ 1) = false := decide_eq_false d1
    clear hno d1
    go_enter Tryz.func104, Tryz.ntmps104
    go_wp2_with (first | (go_at_call 98; refine (half_i _ _).mono ?_; rw [d1']; rintro e w1 ⟨rfl, rfl⟩))
    go_ret
    exact ⟨rfl, hb0 _⟩
set_option maxRecDepth 4000 in
set_option maxHeartbeats 16000000 in
theorem rootpage_i_ok (t h f l n : Int) (w : World) (hok : rtOk h f) : Calls Tryz.prog 104 #[rootV t h f l, .int .i64 n] w fun e w' => e = .returned (.string (formOf 4 l t (rtPart h f) n)) ∧ Below w.heap.size w w' := by
  obtain ⟨h1, h2, h3, h4⟩ := hok
  have d1 : decide (0 ≤ h ∧ h ≤ 1) = true := by simp; omega
  have d2 : decide (1 ≤ f ∧ f ≤ 999999000) = true := by simp; omega
  have u1 : IntKind.u64.wrap h = h := wrap_u64_id h (by omega) (by omega)
  have u2 : IntKind.u64.wrap f = f := wrap_u64_id f (by omega) (by omega)
  obtain ⟨pt, HPT⟩ : ∃ pt, Hid (pt = rtPart h f) := ⟨_, hide rfl⟩
  rw [← HPT.out]
  go_enter Tryz.func104, Tryz.ntmps104
  go_wp2_with (first | (go_at_call 98; refine (half_i _ _).mono ?_; rw [d1]; rintro e w1 ⟨rfl, rfl⟩) | (go_at_call 99; refine (first_i _ _).mono ?_; rw [d2]; rintro e w2 ⟨rfl, rfl⟩))
  refine wp_start5 w (.int .i64 t) (.int .i64 h) (.int .i64 f) (.int .i64 l) _ _ ?_
  intro wa hpi0 hfm0
  have HS0 := hide hpi0.toS
  clear hpi0
  go_region_held3 (fun w' => w'.cell? ⟨w.heap.size, 0, none⟩ = some (.int .i64 t) ∧ w'.cell? ⟨w.heap.size, 1, none⟩ = some (.int .i64 h) ∧ w'.cell? ⟨w.heap.size, 2, none⟩ = some (.int .i64 f) ∧ w'.cell? ⟨w.heap.size, 3, none⟩ = some (.int .i64 l) ∧ RI w w' (.int .i64 t) (.int .i64 h) (.int .i64 f) (.int .i64 l))
    (first | assumption | exact (RI.ofS HS0.out).drew.toS | exact (RI.wrote (RI.ofS (by assumption)) (by assumption)).toS)
    (first | (go_at_call 113; refine (put_any (w.heap.size + 1) 0 1 5 h _ (by omega) (by omega) (by omega) (fun i hi => ⟨_, hfm0.drew.cell (0 + i) (by simp; omega)⟩) (fun i hi => hfm0.drew.froz (0 + i) (by simp; omega))).mono ?_; rintro e wb ⟨rfl, hw0⟩))
  have hpi1 : RI w wb (.int .i64 t) (.int .i64 h) (.int .i64 f) (.int .i64 l) := RI.ofS (by assumption)
  have hfm1 := hfm0.drew.wrote hw0 (by rw [be_length]; simp)
  obtain ⟨xs1, HX1⟩ : ∃ xs1, Hid (xs1 = spl [0, 0, 0, 0, 0] 0 (be 1 h)) := ⟨_, hide rfl⟩
  have hl1 : xs1.length = 5 := by rw [HX1.out, spl_length _ _ _ (by rw [be_length]; simp)]; rfl
  rw [← HX1.out] at hfm1
  clear HS0 hw0 hfm0
  go_wp2_with fail
  have HS1 := hide hpi1.toS
  clear hpi1
  go_region_held3 (fun w' => w'.cell? ⟨w.heap.size, 0, none⟩ = some (.int .i64 t) ∧ w'.cell? ⟨w.heap.size, 1, none⟩ = some (.int .i64 h) ∧ w'.cell? ⟨w.heap.size, 2, none⟩ = some (.int .i64 f) ∧ w'.cell? ⟨w.heap.size, 3, none⟩ = some (.int .i64 l) ∧ RI w w' (.int .i64 t) (.int .i64 h) (.int .i64 f) (.int .i64 l))
    (first | assumption | exact (RI.ofS HS1.out).drew.toS | exact (RI.wrote (RI.ofS (by assumption)) (by assumption)).toS)
    (first | (go_at_call 113; refine (put_any (w.heap.size + 1) 1 4 4 f _ (by omega) (by omega) (by omega) (fun i hi => ⟨_, hfm1.drew.cell (1 + i) (by rw [hl1]; omega)⟩) (fun i hi => hfm1.drew.froz (1 + i) (by rw [hl1]; omega))).mono ?_; rintro e wc ⟨rfl, hw1⟩))
  have hpi2 : RI w wc (.int .i64 t) (.int .i64 h) (.int .i64 f) (.int .i64 l) := RI.ofS (by assumption)
  have hfm2 := hfm1.drew.wrote hw1 (by rw [be_length, hl1]; omega)
  obtain ⟨xs2, HX2⟩ : ∃ xs2, Hid (xs2 = spl xs1 1 (be 4 f)) := ⟨_, hide rfl⟩
  have hl2 : xs2.length = 5 := by rw [HX2.out, spl_length _ _ _ (by rw [be_length, hl1]; omega), hl1]
  rw [← HX2.out] at hfm2
  have hPt : strOfNums xs2 = rtPart h f := rt_list h f HX1.out HX2.out
  rw [← HPT.out] at hPt
  have hpz : pt.size ≤ 1048576 := by rw [← hPt, strOfNums_size, hl2]; omega
  have hcv : ∀ wx, Fm wx (w.heap.size + 1) xs2 → (convert 112 9 (.slice (some ⟨w.heap.size + 1, 0, none⟩) 5 5)).run Tryz.prog wx = .ok (.string pt) wx := fun wx hf => by
    have := hf.text (P := Tryz.prog) 112 5 9 Tryz.underlying112 Tryz.underlying5 Tryz.underlying9 0 5 5 (by omega)
    rw [List.drop_zero, List.take_of_length_le (by omega), hPt] at this
    exact this
  have HCV := hide hcv
  have HFM := hide hfm2
  clear HS1 hw1 hfm1 hfm2 hcv
  go_wp2_with fail
  have HS2 := hide hpi2.toS
  clear hpi2
  have hFl : w.heap.size + 1 < wc.heap.size := by have := (RI.ofS HS2.out).size; omega
  go_region_held3 (fun w' => (convert 112 9 (.slice (some ⟨w.heap.size + 1, 0, none⟩) 5 5)).run Tryz.prog w' = .ok (.string pt) w' ∧ w'.cell? ⟨w.heap.size, 0, none⟩ = some (.int .i64 t) ∧ w'.cell? ⟨w.heap.size, 3, none⟩ = some (.int .i64 l) ∧ RI w w' (.int .i64 t) (.int .i64 h) (.int .i64 f) (.int .i64 l))
    (first | assumption | exact ⟨HCV.out _ HFM.out.drew, (RI.ofS HS2.out).drew.b0, (RI.ofS HS2.out).drew.b3, (RI.ofS HS2.out).drew⟩ | exact ⟨HCV.out _ (HFM.out.drew.below hb4 hFl), ((RI.ofS HS2.out).drew.below hb4).b0, ((RI.ofS HS2.out).drew.below hb4).b3, (RI.ofS HS2.out).drew.below hb4⟩)
    (first | (go_at_call 111; refine (form_i_any 4 l t pt n _ hpz).mono ?_; rintro e w4 ⟨rfl, hb4⟩))
  rename_i hSl
  have hbl := hSl.2.2.2.bel
  clear hSl
  go_wp2
  go_ret
  exact ⟨rfl, hbl⟩
theorem rootpage_i_any (t h f l n : Int) (w : World) : Calls Tryz.prog 104 #[rootV t h f l, .int .i64 n] w fun e w' => e = .returned (.string (rtForm t h f l n)) ∧ Below w.heap.size w w' := by
  unfold rtForm
  by_cases hok : rtOk h f
  · rw [if_pos hok]; exact rootpage_i_ok t h f l n w hok
  · rw [if_neg hok]; exact rootpage_i_no t h f l n w hok
end Go.Proofs.YtnmaknnnmjfhkafGreat

namespace Go.Proofs.YtnmaknnnmjfhkafGreat
open Go.RowKit
set_option linter.unusedVariables false

theorem part_short (s r : ByteArray) (a m : Nat) (h : r = s.extract a s.size) (hm : r.size ≤ m) : r = s.extract a (a + m) := extract_all s r a m h hm
theorem rest_short (s r : ByteArray) (a m : Nat) (h : r = s.extract a s.size) (hm : r.size ≤ m) : ByteArray.empty = s.extract (a + m) s.size := by
  subst h
  simp only [ByteArray.size_extract] at hm
  apply ByteArray.ext
  symm
  apply Array.eq_empty_of_size_eq_zero
  show (ByteArray.size _) = 0
  simp only [ByteArray.size_extract]
  omega
theorem last_iff (s r : ByteArray) (k m N : Nat) (hN : N = nparts s.size m) (hm : 0 < m) (hk : k < N) (h : r = s.extract (k * m) s.size) : r.size ≤ m ↔ k + 1 = N := by
  subst h
  rw [hN] at hk ⊢
  rw [← nparts_last s.size m k hm hk]
  simp only [ByteArray.size_extract, Nat.add_mul, Nat.one_mul]
  omega
theorem pageOk_cut (K l x : Int) (p : ByteArray) (n m : Nat) (hm : n + m = 56) (h1 : 1 ≤ n) (h2 : n ≤ 8) (hK : K = 1 ∨ K = 2) (hp : p.size ≤ m) : pageOk K l x p (n : Int) = decide (1 ≤ l ∧ l ≤ 60000 ∧ 1 ≤ x ∧ x ≤ 1000000000) := by
  unfold pageOk
  apply decide_eq_decide.2
  rcases hK with rfl | rfl <;> constructor <;> intro h <;> omega
theorem notall {f : Int} {k : Nat} (l : Int) (P : Nat → Prop) (h : ∀ j, j < k → 1 ≤ l ∧ l ≤ 60000 ∧ 1 ≤ f + (j : Int) ∧ f + (j : Int) ≤ 1000000000) (hf1 : -9223372036854775808 ≤ f) (hf2 : f ≤ 9223372036854775807) (hk : k ≤ 1048577) : -9223372036854775808 ≤ f + (k : Int) ∧ f + (k : Int) ≤ 9223372036854775807 := by
  rcases Nat.eq_zero_or_pos k with h0 | h0
  · subst h0; simp; omega
  · have := h 0 h0; simp at this; omega
theorem formOf_empty (k l m : Int) (p : ByteArray) (n : Int) : (formOf k l m p n).toList.isEmpty = !pageOk k l m p n := by
  rw [isEmpty_size]
  unfold formOf
  cases h : pageOk k l m p n with
  | false => simp
  | true =>
    simp only [if_true]
    have hp : 1 ≤ n ∧ n ≤ 8 ∧ (p.size : Int) ≤ 56 - n := by unfold pageOk at h; simp at h; omega
    rw [pageForm_size k l m p n.toNat (by omega)]
    rfl

set_option maxRecDepth 4000 in
set_option maxHeartbeats 16000000 in
theorem cut_i (s : ByteArray) (l f : Int) (n m : Nat) (w : World) (hs : s.size ≤ 1048576) (hm : n + m = 56) (h1 : 1 ≤ n) (h2 : n ≤ 8) (hf1 : -9223372036854775808 ≤ f) (hf2 : f ≤ 9223372036854775807) :
    Calls Tryz.prog 91 #[.string s, .int .i64 l, .int .i64 f, .int .i64 (n : Int)] w fun e w' => NewS w w' e (cutAll s l f n m) := by
  obtain ⟨N, HN⟩ : ∃ N, Hid (N = nparts s.size m) := ⟨_, hid rfl⟩
  have hN1 : N ≤ 1048577 := by have := nparts_le s.size m; rw [HN.out]; omega
  have hN0 : 0 < N := by rw [HN.out]; exact nparts_pos _ _
  have HNP : Hid (npages s.size (n : Int) = (N : Int)) := by
    show _ = _
    unfold npages
    rw [if_pos (by omega), HN.out, show (56 - (n : Int)).toNat = m by omega]
  obtain ⟨R, HR⟩ : ∃ R, Hid (R = cutAll s l f n m) := ⟨_, hid rfl⟩
  rw [← HR.out]
  obtain ⟨i0, hi0, hz0, hz1, hz2⟩ := info_parts infoStr'
  have HI := hid (And.intro hi0 (And.intro hz0 (And.intro hz1 hz2)))
  clear hi0 hz0 hz1 hz2
  go_enter Tryz.func91, Tryz.ntmps91
  go_wp2_with (first | (go_at_call 48; refine (pages_i s n _ hs).mono ?_; rw [HNP.out]; rintro e w2 ⟨rfl, hb2⟩))
  go_loopw [0, 9, 10, 11, 12, 13, 17] (fun x y _ _ _ _ i wr => ∃ (k : Nat) (r : ByteArray), k ≤ N ∧ i = .int .i64 k ∧ x = .string r ∧ Hid (r = s.extract (k * m) s.size) ∧ r.size ≤ 1048576 ∧ Hid (∀ j, j < k → 1 ≤ l ∧ l ≤ 60000 ∧ 1 ≤ f + (j : Int) ∧ f + (j : Int) ≤ 1000000000) ∧ wr.ownsRow w.heap.size 9 1 y k ((cutList s l f n m N k).map Value.string) ∧ Below w.heap.size w wr) (fun _ _ _ _ _ _ i _ => N - (intOf i).toNat)
  case atStart => exact ⟨0, s, Nat.zero_le _, rfl, rfl, by show s = _; simp, hs, fun j hj => by omega, World.ownsRow_nil _ _ _ _, hb2⟩
  case round =>
    obtain ⟨k, r, hk, rfl, rfl, HX, hrz, HOK, hown, hbel⟩ := hrel
    by_cases hlt : k < N
    · have hsz : w.heap.size ≤ wr.heap.size := hbel.size
      have HB := hid hbel
      have HOWN := hid hown
      clear hbel hown
      obtain ⟨hfk1, hfk2⟩ := notall l (fun _ => True) HOK.out hf1 hf2 (by omega)
      by_cases hrm : m < r.size
      · have hrm' : (m : Int) < (r.size : Int) := by omega
        have hne : (r.extract m r.size).toList.isEmpty = false := by rw [isEmpty_size]; simp only [ByteArray.size_extract]; simp; omega
        have hpz : (r.extract 0 m).size ≤ 1048576 := by simp only [ByteArray.size_extract]; omega
        have HPZ : Hid ((r.extract 0 m).size ≤ m) := by show _ ≤ _; simp only [ByteArray.size_extract]; omega
        have HPE : Hid ((r.extract 0 m) = s.extract (k * m) (k * m + m)) := by show _ = _; exact extract_part s r _ m HX.out
        have HRE : Hid ((r.extract m r.size) = s.extract ((k + 1) * m) s.size) := by show _ = _; rw [Nat.add_mul, Nat.one_mul]; exact extract_rest s r _ m HX.out
        have HKN : Hid ((if k + 1 = N then (2 : Int) else 1) = 1) := by show _ = _; have := last_iff s r k m N HN.out (by omega) hlt HX.out; rw [if_neg (by omega)]
        obtain ⟨F, HF⟩ : ∃ F, Hid (F = formOf 1 l (f + (k : Int)) (r.extract 0 m) (n : Int)) := ⟨_, hid rfl⟩
        have HFC : Hid (F = cutAt s l f n m N k) := by show _ = _; rw [HF.out, HPE.out]; unfold cutAt; rw [HKN.out]
        have HFE : Hid (F.toList.isEmpty = !decide (1 ≤ l ∧ l ≤ 60000 ∧ 1 ≤ f + (k : Int) ∧ f + (k : Int) ≤ 1000000000)) := by show _ = _; rw [HF.out, formOf_empty, pageOk_cut 1 l _ _ n m hm h1 h2 (by omega) HPZ.out]
        by_cases hok : 1 ≤ l ∧ l ≤ 60000 ∧ 1 ≤ f + (k : Int) ∧ f + (k : Int) ≤ 1000000000
        · have hfe : F.toList.isEmpty = false := by rw [HFE.out]; simpa using hok
          have HOK2 := hid hok
          clear hok
          go_wp2_with (first | (go_at_call 88; refine (partw_i n m _ hm h1 h2).mono ?_; rintro e w4 ⟨rfl, rfl⟩) | (go_at_call 111; refine (form_i_any 1 l (f + (k : Int)) (r.extract 0 m) (n : Int) _ hpz).mono ?_; rw [← HF.out]; rintro e w5 ⟨rfl, hb5⟩; have hs5 := hb5.size; simp only [World.size_alloc] at hs5; have HB5 := hid (HB.out.trans ((((Below.refl _ _).alloc (Nat.le_refl _) _).trans (hb5.mono (by simp))).mono hsz)); have HO5 := hid ((owns_below HOWN.out (((Below.refl _ _).alloc (Nat.le_refl _) _).trans (hb5.mono (by simp)))).alloc (.cells #[.string F] 9)); clear hb5) | (at_builtin; refine wpList_append_lies _ rfl _ _ 71 rfl w.heap.size 9 i0 (.string ByteArray.empty) 1 16 Tryz.underlying71 HI.out.1 HI.out.2.1 HI.out.2.2.1 HI.out.2.2.2 rfl (by omega) _ k _ rfl HO5.out ⟨w5.heap.size, 0, none⟩ 1 1 [.string F] rfl rfl (World.news_of_block (heap_alloc_new w5 _)) (by intro u hu; simp at hu; subst hu; rfl) (by omega) (by unfold maxLen; omega) (by omega) (by simp; omega) (w5.heap.size + 1) (by simp) ?_; intro g' cap w7 hown7 hgrow7 hat7 hlt7; have HO7 := hid hown7; have HB7 := hid (below_grown (HB5.out.alloc (by omega) _) HO5.out hgrow7 (by simp; omega)); clear hown7 hgrow7 hat7))
          refine ⟨⟨k + 1, (r.extract m r.size), by omega, by go_num, rfl, HRE.out, by simp only [ByteArray.size_extract]; omega, fun j hj => ?_, ?_, HB7.out⟩, by simp [intOf]; omega⟩
          · rcases Nat.lt_or_ge j k with h | h
            · exact HOK.out j h
            · have : j = k := by omega
              subst this; exact HOK2.out
          · rw [cutList_succ, List.map_append, ← HFC.out]; exact HO7.out
        · have hfe : F.toList.isEmpty = true := by rw [HFE.out, decide_eq_false hok]; rfl
          have HRR : Hid (R = []) := by show _ = _; rw [HR.out]; exact cutAll_no HN.out (by omega)
          clear hok
          go_wp2_with (first | (go_at_call 88; refine (partw_i n m _ hm h1 h2).mono ?_; rintro e w4 ⟨rfl, rfl⟩) | (go_at_call 111; refine (form_i_any 1 l (f + (k : Int)) (r.extract 0 m) (n : Int) _ hpz).mono ?_; rw [← HF.out]; rintro e w5 ⟨rfl, hb5⟩; have hs5 := hb5.size; simp only [World.size_alloc] at hs5; have HB5 := hid (HB.out.trans ((((Below.refl _ _).alloc (Nat.le_refl _) _).trans (hb5.mono (by simp))).mono hsz)); have HO5 := hid ((owns_below HOWN.out (((Below.refl _ _).alloc (Nat.le_refl _) _).trans (hb5.mono (by simp)))).alloc (.cells #[.string F] 9)); clear hb5))
          go_ret
          rw [HRR.out]
          exact newS_nil rfl HB5.out
      · have hrm' : (r.size : Int) ≤ (m : Int) := by omega
        have hpz : r.size ≤ 1048576 := by omega
        have HPZ : Hid (r.size ≤ m) := by show _ ≤ _; omega
        have HPE : Hid (r = s.extract (k * m) (k * m + m)) := by show _ = _; exact part_short s r _ m HX.out (by omega)
        have HRE : Hid (ByteArray.empty = s.extract ((k + 1) * m) s.size) := by show _ = _; rw [Nat.add_mul, Nat.one_mul]; exact rest_short s r _ m HX.out (by omega)
        have HKN : Hid ((if k + 1 = N then (2 : Int) else 1) = 2) := by show _ = _; have := last_iff s r k m N HN.out (by omega) hlt HX.out; rw [if_pos (by omega)]
        obtain ⟨F, HF⟩ : ∃ F, Hid (F = formOf 2 l (f + (k : Int)) r (n : Int)) := ⟨_, hid rfl⟩
        have HFC : Hid (F = cutAt s l f n m N k) := by show _ = _; rw [HF.out, HPE.out]; unfold cutAt; rw [HKN.out]
        have HFE : Hid (F.toList.isEmpty = !decide (1 ≤ l ∧ l ≤ 60000 ∧ 1 ≤ f + (k : Int) ∧ f + (k : Int) ≤ 1000000000)) := by show _ = _; rw [HF.out, formOf_empty, pageOk_cut 2 l _ _ n m hm h1 h2 (by omega) HPZ.out]
        by_cases hok : 1 ≤ l ∧ l ≤ 60000 ∧ 1 ≤ f + (k : Int) ∧ f + (k : Int) ≤ 1000000000
        · have hfe : F.toList.isEmpty = false := by rw [HFE.out]; simpa using hok
          have HOK2 := hid hok
          clear hok
          go_wp2_with (first | (go_at_call 88; refine (partw_i n m _ hm h1 h2).mono ?_; rintro e w4 ⟨rfl, rfl⟩) | (go_at_call 111; refine (form_i_any 2 l (f + (k : Int)) r (n : Int) _ hpz).mono ?_; rw [← HF.out]; rintro e w5 ⟨rfl, hb5⟩; have hs5 := hb5.size; simp only [World.size_alloc] at hs5; have HB5 := hid (HB.out.trans ((((Below.refl _ _).alloc (Nat.le_refl _) _).trans (hb5.mono (by simp))).mono hsz)); have HO5 := hid ((owns_below HOWN.out (((Below.refl _ _).alloc (Nat.le_refl _) _).trans (hb5.mono (by simp)))).alloc (.cells #[.string F] 9)); clear hb5) | (at_builtin; refine wpList_append_lies _ rfl _ _ 71 rfl w.heap.size 9 i0 (.string ByteArray.empty) 1 16 Tryz.underlying71 HI.out.1 HI.out.2.1 HI.out.2.2.1 HI.out.2.2.2 rfl (by omega) _ k _ rfl HO5.out ⟨w5.heap.size, 0, none⟩ 1 1 [.string F] rfl rfl (World.news_of_block (heap_alloc_new w5 _)) (by intro u hu; simp at hu; subst hu; rfl) (by omega) (by unfold maxLen; omega) (by omega) (by simp; omega) (w5.heap.size + 1) (by simp) ?_; intro g' cap w7 hown7 hgrow7 hat7 hlt7; have HO7 := hid hown7; have HB7 := hid (below_grown (HB5.out.alloc (by omega) _) HO5.out hgrow7 (by simp; omega)); clear hown7 hgrow7 hat7))
          refine ⟨⟨k + 1, ByteArray.empty, by omega, by go_num, rfl, HRE.out, by simp, fun j hj => ?_, ?_, HB7.out⟩, by simp [intOf]; omega⟩
          · rcases Nat.lt_or_ge j k with h | h
            · exact HOK.out j h
            · have : j = k := by omega
              subst this; exact HOK2.out
          · rw [cutList_succ, List.map_append, ← HFC.out]; exact HO7.out
        · have hfe : F.toList.isEmpty = true := by rw [HFE.out, decide_eq_false hok]; rfl
          have HRR : Hid (R = []) := by show _ = _; rw [HR.out]; exact cutAll_no HN.out (by omega)
          clear hok
          go_wp2_with (first | (go_at_call 88; refine (partw_i n m _ hm h1 h2).mono ?_; rintro e w4 ⟨rfl, rfl⟩) | (go_at_call 111; refine (form_i_any 2 l (f + (k : Int)) r (n : Int) _ hpz).mono ?_; rw [← HF.out]; rintro e w5 ⟨rfl, hb5⟩; have hs5 := hb5.size; simp only [World.size_alloc] at hs5; have HB5 := hid (HB.out.trans ((((Below.refl _ _).alloc (Nat.le_refl _) _).trans (hb5.mono (by simp))).mono hsz)); have HO5 := hid ((owns_below HOWN.out (((Below.refl _ _).alloc (Nat.le_refl _) _).trans (hb5.mono (by simp)))).alloc (.cells #[.string F] 9)); clear hb5))
          go_ret
          rw [HRR.out]
          exact newS_nil rfl HB5.out
    · have hkN : k = N := by omega
      subst hkN
      have HRR : Hid (R = cutList s l f n m k k) := by
        show _ = _
        rw [HR.out]
        have h0 := HOK.out 0 hN0
        have h3 := HOK.out (k - 1) (by omega)
        exact cutAll_yes HN.out (by omega)
      have HO := hid hown
      clear hown
      go_wp2
      go_ret
      rw [HRR.out]
      exact newS_of HO.out (cutList_length _ _ _ _ _ _ _).symm hbel

theorem cut_i_no (s : ByteArray) (l f n : Int) (w : World) (hs : s.size ≤ 1048576) (hn : ¬ (1 ≤ n ∧ n ≤ 8)) :
    Calls Tryz.prog 91 #[.string s, .int .i64 l, .int .i64 f, .int .i64 n] w fun e w' => NewS w w' e [] := by
  have HNP : Hid (npages s.size n = 0) := by show _ = _; unfold npages; exact if_neg hn
  clear hn
  go_enter Tryz.func91, Tryz.ntmps91
  go_wp2_with (first | (go_at_call 48; refine (pages_i s n _ hs).mono ?_; rw [HNP.out]; rintro e w2 ⟨rfl, hb2⟩))
  go_loopw [9, 17] (fun y i wr => i = .int .i64 0 ∧ y = .slice none 0 0 ∧ Below w.heap.size w wr) (fun _ _ _ => 0)
  case atStart => exact ⟨rfl, rfl, hb2⟩
  case round =>
    obtain ⟨rfl, rfl, hbel⟩ := hrel
    go_wp2
    go_ret
    exact newS_nil rfl hbel
end Go.Proofs.YtnmaknnnmjfhkafGreat

namespace Go.Proofs.YtnmaknnnmjfhkafGreat
open Go.RowKit
set_option linter.unusedVariables false
set_option linter.unusedSimpArgs false
set_option maxRecDepth 4000

theorem half_iV (n : Int) (w : World) : Calls Tryz.prog 98 #[.int .i64 n] w fun e w' => e = .returned (.bool (decide (0 ≤ n ∧ n ≤ 1))) ∧ w' = w := by
  go_enter Tryz.func98, Tryz.ntmps98
  by_cases h1 : n = 0
  · subst h1; go_wp2; go_ret; simp
  · by_cases h2 : n = 1
    · subst h2; go_wp2; go_ret; simp
    · have h3 : decide (0 ≤ n ∧ n ≤ 1) = false := by simp; omega
      rw [h3]; go_wp2; go_ret; simp [h1, h2]
theorem first_iV (n : Int) (w : World) : Calls Tryz.prog 99 #[.int .i64 n] w fun e w' => e = .returned (.bool (decide (1 ≤ n ∧ n ≤ 999999000))) ∧ w' = w := by
  go_enter Tryz.func99, Tryz.ntmps99
  by_cases h1 : 1 ≤ n <;> by_cases h2 : n ≤ 999999000 <;> (go_wp2; go_ret; simp [h1, h2])
theorem root_i (T H F R : Int) (w : World) : Calls Tryz.prog 66 #[.agg #[.int .i64 T, .int .i64 H, .int .i64 F, .int .i64 R]] w fun e w' => e = .returned (.bool (rootOk T H F R)) ∧ Below w.heap.size w w' := by
  have hb0 : ∀ o, Below w.heap.size w (w.alloc o) := fun o => (Below.refl _ _).alloc (Nat.le_refl _) _
  obtain ⟨E, HE⟩ : ∃ E, Hid (E = rootOk T H F R) := ⟨_, hid rfl⟩
  rw [← HE.out]
  unfold rootOk at HE
  by_cases c1 : 0 ≤ T
  case neg => 
    have he : E = false := by rw [HE.out]; simp; omega
    subst he
    go_enter Tryz.func66, Tryz.ntmps66; go_wp2; go_ret; exact ⟨rfl, hb0 _⟩
  by_cases c2 : T ≤ 1000000000
  case neg => 
    have he : E = false := by rw [HE.out]; simp; omega
    subst he
    go_enter Tryz.func66, Tryz.ntmps66; go_wp2; go_ret; exact ⟨rfl, hb0 _⟩
  by_cases c3 : 0 ≤ R
  case neg => 
    have he : E = false := by rw [HE.out]; simp; omega
    subst he
    go_enter Tryz.func66, Tryz.ntmps66; go_wp2; go_ret; exact ⟨rfl, hb0 _⟩
  by_cases c4 : R ≤ 60000
  case neg => 
    have he : E = false := by rw [HE.out]; simp; omega
    subst he
    go_enter Tryz.func66, Tryz.ntmps66; go_wp2; go_ret; exact ⟨rfl, hb0 _⟩
  by_cases c5 : 0 ≤ H ∧ H ≤ 1
  case neg => 
    have d5 : decide (0 ≤ H ∧ H ≤ 1) = false := decide_eq_false c5
    have he : E = false := by rw [HE.out, d5]; simp
    subst he
    go_enter Tryz.func66, Tryz.ntmps66
    go_wp2_with (first | (go_at_call 98; refine (half_iV _ _).mono ?_; rw [d5]; rintro e wz ⟨rfl, hwz⟩; rw [hwz]; clear hwz wz))
    go_ret; exact ⟨rfl, hb0 _⟩
  have d5 : decide (0 ≤ H ∧ H ≤ 1) = true := decide_eq_true c5
  by_cases c6 : 1 ≤ F ∧ F ≤ 999999000
  case neg => 
    have d6 : decide (1 ≤ F ∧ F ≤ 999999000) = false := decide_eq_false c6
    have he : E = false := by rw [HE.out, d6]; simp
    subst he
    go_enter Tryz.func66, Tryz.ntmps66
    go_wp2_with (first | (go_at_call 98; refine (half_iV _ _).mono ?_; rw [d5]; rintro e wz ⟨rfl, hwz⟩; rw [hwz]; clear hwz wz) | (go_at_call 99; refine (first_iV _ _).mono ?_; rw [d6]; rintro e wz ⟨rfl, hwz⟩; rw [hwz]; clear hwz wz))
    go_ret; exact ⟨rfl, hb0 _⟩
  have d6 : decide (1 ≤ F ∧ F ≤ 999999000) = true := decide_eq_true c6
  have he : E = true := by rw [HE.out, d5, d6]; simp; omega
  subst he
  go_enter Tryz.func66, Tryz.ntmps66
  go_wp2_with (first | (go_at_call 98; refine (half_iV _ _).mono ?_; rw [d5]; rintro e wz ⟨rfl, hwz⟩; rw [hwz]; clear hwz wz) | (go_at_call 99; refine (first_iV _ _).mono ?_; rw [d6]; rintro e wz ⟨rfl, hwz⟩; rw [hwz]; clear hwz wz))
  go_ret; exact ⟨rfl, hb0 _⟩

theorem halvesq_i (n Q : Int) (h : Q = hv n) (w : World) : Calls Tryz.prog 67 #[.int .i64 n] w fun e w' => e = .returned (.int .i64 Q) ∧ w' = w := by rw [h]; exact halves_i n w

set_option maxHeartbeats 16000000 in
theorem hasroom_i (W S L T H F R U O : Int) (a : Option Addr) (rs : List Pr) (c : Nat) (w : World) (h : Prs w a rs) (hc : rs.length ≤ c) (hl : rs.length ≤ 1048576) (hs : ∀ x ∈ rs, x.1.size ≤ 1048576 ∧ x.2.size ≤ 1048576) :
    Calls Tryz.prog 49 #[storeV W S L T H F R U O a rs.length c] w fun e w' => e = .returned (.bool (decide (roomOf (snapOf rs) W ≤ hv S - 1))) ∧ Below w.heap.size w w' := by
  unfold storeV
  obtain ⟨wb, HWB⟩ : ∃ wb, wb = w.alloc (.cells #[.int .i64 W, .int .i64 S, .int .i64 L, .int .i64 T, .int .i64 H, .int .i64 F, .int .i64 R, .int .i64 U, .int .i64 O, .slice a rs.length c] 35) := ⟨_, rfl⟩
  have q0 : wb.cell? ⟨w.heap.size, 0, none⟩ = some (.int .i64 W) := by rw [HWB]; go_simp
  have q1 : wb.cell? ⟨w.heap.size, 1, none⟩ = some (.int .i64 S) := by rw [HWB]; go_simp
  have q9 : wb.cell? ⟨w.heap.size, 9, none⟩ = some (.slice a rs.length c) := by rw [HWB]; go_simp
  have hbb : Below w.heap.size w wb := by rw [HWB]; exact (Below.refl _ _).alloc (Nat.le_refl _) _
  have hsz : w.heap.size < wb.heap.size := by rw [HWB]; simp
  have HT : Hid (∀ w', Below wb.heap.size wb w' → w'.cell? ⟨w.heap.size, 0, none⟩ = some (.int .i64 W) ∧ w'.cell? ⟨w.heap.size, 1, none⟩ = some (.int .i64 S) ∧ w'.cell? ⟨w.heap.size, 9, none⟩ = some (.slice a rs.length c) ∧ Below wb.heap.size wb w') := fun w' hb => ⟨(hb.cell (p := ⟨w.heap.size, 0, none⟩) hsz).trans q0, (hb.cell (p := ⟨w.heap.size, 1, none⟩) hsz).trans q1, (hb.cell (p := ⟨w.heap.size, 9, none⟩) hsz).trans q9, hb⟩
  have HRM := hid (room_i a rs c W wb.drew (h.below hbb.drew) hc hl hs)
  have hR := roomOf_bound (snapOf rs) W
  have hRl := snapOf_len rs
  have hQ : 0 ≤ hv S ∧ hv S ≤ 99 := by by_cases h : 8 ≤ S ∧ S ≤ 200; have := hv_yes h; omega; rw [hv_no h]; omega
  obtain ⟨G, HG⟩ : ∃ G, Hid (G = roomOf (snapOf rs) W) := ⟨_, hid rfl⟩
  obtain ⟨Q, HQ⟩ : ∃ Q, Hid (Q = hv S) := ⟨_, hid rfl⟩
  rw [← HG.out] at hR HRM ⊢
  rw [← HQ.out] at hQ ⊢
  have hw1 : IntKind.i64.wrap (Q - 1) = Q - 1 := by simp [IntKind.wrap, IntKind.bits, IntKind.signed]; omega
  have HBB := hid hbb
  clear hbb
  go_enter Tryz.func49, Tryz.ntmps49
  go_wp2_with fail
  rw [← HWB]
  clear HWB
  go_region_held3 (fun w' => w'.cell? ⟨w.heap.size, 0, none⟩ = some (.int .i64 W) ∧ w'.cell? ⟨w.heap.size, 1, none⟩ = some (.int .i64 S) ∧ w'.cell? ⟨w.heap.size, 9, none⟩ = some (.slice a rs.length c) ∧ Below wb.heap.size wb w')
    (first | assumption | exact HT.out _ ((Below.refl _ _).drew) | exact HT.out _ ((Below.refl _ _).drew.trans hb3))
    (first | (go_at_call 89; refine HRM.out.mono ?_; rintro e w3 ⟨rfl, hb3⟩) | (go_at_call 67; refine (halves_i _ _).mono ?_; rw [← HQ.out]; rintro e wz ⟨rfl, rfl⟩))
  all_goals
    go_wp2
    go_ret
    exact ⟨rfl, HBB.out.trans (((Below.refl _ _).drew.trans hb3).mono HBB.out.size)⟩

set_option maxHeartbeats 16000000 in
theorem vstore_i (W S L T H F R U O : Int) (a : Option Addr) (rs : List Pr) (c : Nat) (w : World) (h : Prs w a rs) (hc : rs.length ≤ c) (hl : rs.length ≤ 1048576) (hs : ∀ x ∈ rs, x.1.size ≤ 1048576 ∧ x.2.size ≤ 1048576) :
    Calls Tryz.prog 25 #[storeV W S L T H F R U O a rs.length c] w fun e w' => e = .returned (.bool (storeOk W S L T H F R U O rs)) ∧ Below w.heap.size w w' := by
  unfold storeV
  have hb0 : ∀ o, Below w.heap.size w (w.alloc o) := fun o => (Below.refl _ _).alloc (Nat.le_refl _) _
  have HVS := hid (fun w2 (h2 : Below w.heap.size w w2) => vstate_i a rs c w2 (h.below h2) hl hs)
  have HRM := hid (fun w2 (h2 : Below w.heap.size w w2) => hasroom_i W S L T H F R U O a rs c w2 (h.below h2) hc hl hs)
  unfold storeV at HRM
  have HB0 := hid hb0
  clear h hs
  obtain ⟨E, HE⟩ : ∃ E, Hid (E = storeOk W S L T H F R U O rs) := ⟨_, hid rfl⟩
  rw [← HE.out]
  obtain ⟨Q, hQ⟩ : ∃ Q, Q = hv S := ⟨_, rfl⟩
  have HQ := hid hQ
  have no := store_no W S L T H F R U O rs
  rw [← HE.out, ← hQ] at no
  rw [← hQ] at HRM
  have NO := hid no
  clear no hQ
  by_cases c1 : 1 ≤ W ∧ W ≤ 8
  case neg =>
    have d1 : decide (1 ≤ W ∧ W ≤ 8) = false := decide_eq_false c1
    have he : E = false := NO.out (.inl (c1))
    subst he
    go_enter Tryz.func25, Tryz.ntmps25
    go_wp2_with (first | (go_at_call 64; refine (width_i _ _).mono ?_; rw [d1]; rintro e wz ⟨rfl, hwz⟩; rw [hwz]; clear hwz wz) | (go_at_call 65; refine (isize_i _ _).mono ?_; rw [d2]; rintro e wz ⟨rfl, hwz⟩; rw [hwz]; clear hwz wz) | (go_at_call 67; refine (halves_i _ _).mono ?_; rw [← HQ.out]; rintro e wz ⟨rfl, hwz⟩; rw [hwz]; clear hwz wz))
    go_ret
    exact ⟨rfl, HB0.out _⟩
  have d1 : decide (1 ≤ W ∧ W ≤ 8) = true := decide_eq_true c1
  by_cases c2 : 8 ≤ S ∧ S ≤ 200
  case neg =>
    have d2 : decide (8 ≤ S ∧ S ≤ 200) = false := decide_eq_false c2
    have he : E = false := NO.out (.inr (.inl (c2)))
    subst he
    go_enter Tryz.func25, Tryz.ntmps25
    go_wp2_with (first | (go_at_call 64; refine (width_i _ _).mono ?_; rw [d1]; rintro e wz ⟨rfl, hwz⟩; rw [hwz]; clear hwz wz) | (go_at_call 65; refine (isize_i _ _).mono ?_; rw [d2]; rintro e wz ⟨rfl, hwz⟩; rw [hwz]; clear hwz wz) | (go_at_call 67; refine (halves_i _ _).mono ?_; rw [← HQ.out]; rintro e wz ⟨rfl, hwz⟩; rw [hwz]; clear hwz wz))
    go_ret
    exact ⟨rfl, HB0.out _⟩
  have d2 : decide (8 ≤ S ∧ S ≤ 200) = true := decide_eq_true c2
  have hqb : 3 ≤ Q ∧ Q ≤ 99 := by rw [HQ.out]; exact hv_yes c2
  by_cases c3 : 1 ≤ L
  case neg =>
    have he : E = false := NO.out (.inr (.inr (.inl (fun hh => c3 hh.1))))
    subst he
    go_enter Tryz.func25, Tryz.ntmps25
    go_wp2_with (first | (go_at_call 64; refine (width_i _ _).mono ?_; rw [d1]; rintro e wz ⟨rfl, hwz⟩; rw [hwz]; clear hwz wz) | (go_at_call 65; refine (isize_i _ _).mono ?_; rw [d2]; rintro e wz ⟨rfl, hwz⟩; rw [hwz]; clear hwz wz) | (go_at_call 67; refine (halves_i _ _).mono ?_; rw [← HQ.out]; rintro e wz ⟨rfl, hwz⟩; rw [hwz]; clear hwz wz))
    go_ret
    exact ⟨rfl, HB0.out _⟩
  by_cases c3b : L ≤ 60000
  case neg =>
    have he : E = false := NO.out (.inr (.inr (.inl (fun hh => c3b hh.2))))
    subst he
    go_enter Tryz.func25, Tryz.ntmps25
    go_wp2_with (first | (go_at_call 64; refine (width_i _ _).mono ?_; rw [d1]; rintro e wz ⟨rfl, hwz⟩; rw [hwz]; clear hwz wz) | (go_at_call 65; refine (isize_i _ _).mono ?_; rw [d2]; rintro e wz ⟨rfl, hwz⟩; rw [hwz]; clear hwz wz) | (go_at_call 67; refine (halves_i _ _).mono ?_; rw [← HQ.out]; rintro e wz ⟨rfl, hwz⟩; rw [hwz]; clear hwz wz))
    go_ret
    exact ⟨rfl, HB0.out _⟩
  cases d4 : rootOk T H F R with
  | false =>
    have he : E = false := NO.out (.inr (.inr (.inr (.inl (d4)))))
    subst he
    go_enter Tryz.func25, Tryz.ntmps25
    go_wp2_with (first | (go_at_call 64; refine (width_i _ _).mono ?_; rw [d1]; rintro e wz ⟨rfl, hwz⟩; rw [hwz]; clear hwz wz) | (go_at_call 65; refine (isize_i _ _).mono ?_; rw [d2]; rintro e wz ⟨rfl, hwz⟩; rw [hwz]; clear hwz wz) | (go_at_call 67; refine (halves_i _ _).mono ?_; rw [← HQ.out]; rintro e wz ⟨rfl, hwz⟩; rw [hwz]; clear hwz wz) | (go_at_call 66; refine (root_i _ _ _ _ _).mono ?_; rw [d4]; rintro e w2 ⟨rfl, hb2⟩; have HB2 := hid ((HB0.out _).trans (hb2.mono (by simp))); have w2q0 : w2.cell? ⟨w.heap.size, 0, none⟩ = some (.int .i64 W) := (hb2.cell (p := ⟨w.heap.size, 0, none⟩) (by simp)).trans (by go_simp); have w2q1 : w2.cell? ⟨w.heap.size, 1, none⟩ = some (.int .i64 S) := (hb2.cell (p := ⟨w.heap.size, 1, none⟩) (by simp)).trans (by go_simp); have w2q2 : w2.cell? ⟨w.heap.size, 2, none⟩ = some (.int .i64 L) := (hb2.cell (p := ⟨w.heap.size, 2, none⟩) (by simp)).trans (by go_simp); have w2q3 : w2.cell? ⟨w.heap.size, 3, none⟩ = some (.int .i64 T) := (hb2.cell (p := ⟨w.heap.size, 3, none⟩) (by simp)).trans (by go_simp); have w2q4 : w2.cell? ⟨w.heap.size, 4, none⟩ = some (.int .i64 H) := (hb2.cell (p := ⟨w.heap.size, 4, none⟩) (by simp)).trans (by go_simp); have w2q5 : w2.cell? ⟨w.heap.size, 5, none⟩ = some (.int .i64 F) := (hb2.cell (p := ⟨w.heap.size, 5, none⟩) (by simp)).trans (by go_simp); have w2q6 : w2.cell? ⟨w.heap.size, 6, none⟩ = some (.int .i64 R) := (hb2.cell (p := ⟨w.heap.size, 6, none⟩) (by simp)).trans (by go_simp); have w2q7 : w2.cell? ⟨w.heap.size, 7, none⟩ = some (.int .i64 U) := (hb2.cell (p := ⟨w.heap.size, 7, none⟩) (by simp)).trans (by go_simp); have w2q8 : w2.cell? ⟨w.heap.size, 8, none⟩ = some (.int .i64 O) := (hb2.cell (p := ⟨w.heap.size, 8, none⟩) (by simp)).trans (by go_simp); have w2q9 : w2.cell? ⟨w.heap.size, 9, none⟩ = some (.slice a rs.length c) := (hb2.cell (p := ⟨w.heap.size, 9, none⟩) (by simp)).trans (by go_simp); have hl2 : w.heap.size < w2.heap.size := Nat.lt_of_lt_of_le (by simp) hb2.size; clear hb2))
    go_ret
    exact ⟨rfl, HB2.out⟩
  | true =>
    by_cases c5 : 0 ≤ U
    case neg =>
      have he : E = false := NO.out (.inr (.inr (.inr (.inr (.inl (fun hh => c5 hh.1))))))
      subst he
      go_enter Tryz.func25, Tryz.ntmps25
      go_wp2_with (first | (go_at_call 64; refine (width_i _ _).mono ?_; rw [d1]; rintro e wz ⟨rfl, hwz⟩; rw [hwz]; clear hwz wz) | (go_at_call 65; refine (isize_i _ _).mono ?_; rw [d2]; rintro e wz ⟨rfl, hwz⟩; rw [hwz]; clear hwz wz) | (go_at_call 67; refine (halves_i _ _).mono ?_; rw [← HQ.out]; rintro e wz ⟨rfl, hwz⟩; rw [hwz]; clear hwz wz) | (go_at_call 66; refine (root_i _ _ _ _ _).mono ?_; rw [d4]; rintro e w2 ⟨rfl, hb2⟩; have HB2 := hid ((HB0.out _).trans (hb2.mono (by simp))); have w2q0 : w2.cell? ⟨w.heap.size, 0, none⟩ = some (.int .i64 W) := (hb2.cell (p := ⟨w.heap.size, 0, none⟩) (by simp)).trans (by go_simp); have w2q1 : w2.cell? ⟨w.heap.size, 1, none⟩ = some (.int .i64 S) := (hb2.cell (p := ⟨w.heap.size, 1, none⟩) (by simp)).trans (by go_simp); have w2q2 : w2.cell? ⟨w.heap.size, 2, none⟩ = some (.int .i64 L) := (hb2.cell (p := ⟨w.heap.size, 2, none⟩) (by simp)).trans (by go_simp); have w2q3 : w2.cell? ⟨w.heap.size, 3, none⟩ = some (.int .i64 T) := (hb2.cell (p := ⟨w.heap.size, 3, none⟩) (by simp)).trans (by go_simp); have w2q4 : w2.cell? ⟨w.heap.size, 4, none⟩ = some (.int .i64 H) := (hb2.cell (p := ⟨w.heap.size, 4, none⟩) (by simp)).trans (by go_simp); have w2q5 : w2.cell? ⟨w.heap.size, 5, none⟩ = some (.int .i64 F) := (hb2.cell (p := ⟨w.heap.size, 5, none⟩) (by simp)).trans (by go_simp); have w2q6 : w2.cell? ⟨w.heap.size, 6, none⟩ = some (.int .i64 R) := (hb2.cell (p := ⟨w.heap.size, 6, none⟩) (by simp)).trans (by go_simp); have w2q7 : w2.cell? ⟨w.heap.size, 7, none⟩ = some (.int .i64 U) := (hb2.cell (p := ⟨w.heap.size, 7, none⟩) (by simp)).trans (by go_simp); have w2q8 : w2.cell? ⟨w.heap.size, 8, none⟩ = some (.int .i64 O) := (hb2.cell (p := ⟨w.heap.size, 8, none⟩) (by simp)).trans (by go_simp); have w2q9 : w2.cell? ⟨w.heap.size, 9, none⟩ = some (.slice a rs.length c) := (hb2.cell (p := ⟨w.heap.size, 9, none⟩) (by simp)).trans (by go_simp); have hl2 : w.heap.size < w2.heap.size := Nat.lt_of_lt_of_le (by simp) hb2.size; clear hb2))
      go_quiet ((go_at_call 67; exact Calls.quiet_of_same (halvesq_i _ _ HQ.out _)))
      go_wp2_with fail
      go_ret
      exact ⟨rfl, below_drewN HB2.out nq⟩
    by_cases c5b : U ≤ Q
    case neg =>
      have he : E = false := NO.out (.inr (.inr (.inr (.inr (.inl (fun hh => c5b hh.2))))))
      subst he
      go_enter Tryz.func25, Tryz.ntmps25
      go_wp2_with (first | (go_at_call 64; refine (width_i _ _).mono ?_; rw [d1]; rintro e wz ⟨rfl, hwz⟩; rw [hwz]; clear hwz wz) | (go_at_call 65; refine (isize_i _ _).mono ?_; rw [d2]; rintro e wz ⟨rfl, hwz⟩; rw [hwz]; clear hwz wz) | (go_at_call 67; refine (halves_i _ _).mono ?_; rw [← HQ.out]; rintro e wz ⟨rfl, hwz⟩; rw [hwz]; clear hwz wz) | (go_at_call 66; refine (root_i _ _ _ _ _).mono ?_; rw [d4]; rintro e w2 ⟨rfl, hb2⟩; have HB2 := hid ((HB0.out _).trans (hb2.mono (by simp))); have w2q0 : w2.cell? ⟨w.heap.size, 0, none⟩ = some (.int .i64 W) := (hb2.cell (p := ⟨w.heap.size, 0, none⟩) (by simp)).trans (by go_simp); have w2q1 : w2.cell? ⟨w.heap.size, 1, none⟩ = some (.int .i64 S) := (hb2.cell (p := ⟨w.heap.size, 1, none⟩) (by simp)).trans (by go_simp); have w2q2 : w2.cell? ⟨w.heap.size, 2, none⟩ = some (.int .i64 L) := (hb2.cell (p := ⟨w.heap.size, 2, none⟩) (by simp)).trans (by go_simp); have w2q3 : w2.cell? ⟨w.heap.size, 3, none⟩ = some (.int .i64 T) := (hb2.cell (p := ⟨w.heap.size, 3, none⟩) (by simp)).trans (by go_simp); have w2q4 : w2.cell? ⟨w.heap.size, 4, none⟩ = some (.int .i64 H) := (hb2.cell (p := ⟨w.heap.size, 4, none⟩) (by simp)).trans (by go_simp); have w2q5 : w2.cell? ⟨w.heap.size, 5, none⟩ = some (.int .i64 F) := (hb2.cell (p := ⟨w.heap.size, 5, none⟩) (by simp)).trans (by go_simp); have w2q6 : w2.cell? ⟨w.heap.size, 6, none⟩ = some (.int .i64 R) := (hb2.cell (p := ⟨w.heap.size, 6, none⟩) (by simp)).trans (by go_simp); have w2q7 : w2.cell? ⟨w.heap.size, 7, none⟩ = some (.int .i64 U) := (hb2.cell (p := ⟨w.heap.size, 7, none⟩) (by simp)).trans (by go_simp); have w2q8 : w2.cell? ⟨w.heap.size, 8, none⟩ = some (.int .i64 O) := (hb2.cell (p := ⟨w.heap.size, 8, none⟩) (by simp)).trans (by go_simp); have w2q9 : w2.cell? ⟨w.heap.size, 9, none⟩ = some (.slice a rs.length c) := (hb2.cell (p := ⟨w.heap.size, 9, none⟩) (by simp)).trans (by go_simp); have hl2 : w.heap.size < w2.heap.size := Nat.lt_of_lt_of_le (by simp) hb2.size; clear hb2))
      go_quiet ((go_at_call 67; exact Calls.quiet_of_same (halvesq_i _ _ HQ.out _)))
      go_wp2_with fail
      go_ret
      exact ⟨rfl, below_drewN HB2.out nq⟩
    by_cases c6 : 0 ≤ O
    case neg =>
      have he : E = false := NO.out (.inr (.inr (.inr (.inr (.inr (.inl (fun hh => c6 hh.1)))))))
      subst he
      go_enter Tryz.func25, Tryz.ntmps25
      go_wp2_with (first | (go_at_call 64; refine (width_i _ _).mono ?_; rw [d1]; rintro e wz ⟨rfl, hwz⟩; rw [hwz]; clear hwz wz) | (go_at_call 65; refine (isize_i _ _).mono ?_; rw [d2]; rintro e wz ⟨rfl, hwz⟩; rw [hwz]; clear hwz wz) | (go_at_call 67; refine (halves_i _ _).mono ?_; rw [← HQ.out]; rintro e wz ⟨rfl, hwz⟩; rw [hwz]; clear hwz wz) | (go_at_call 66; refine (root_i _ _ _ _ _).mono ?_; rw [d4]; rintro e w2 ⟨rfl, hb2⟩; have HB2 := hid ((HB0.out _).trans (hb2.mono (by simp))); have w2q0 : w2.cell? ⟨w.heap.size, 0, none⟩ = some (.int .i64 W) := (hb2.cell (p := ⟨w.heap.size, 0, none⟩) (by simp)).trans (by go_simp); have w2q1 : w2.cell? ⟨w.heap.size, 1, none⟩ = some (.int .i64 S) := (hb2.cell (p := ⟨w.heap.size, 1, none⟩) (by simp)).trans (by go_simp); have w2q2 : w2.cell? ⟨w.heap.size, 2, none⟩ = some (.int .i64 L) := (hb2.cell (p := ⟨w.heap.size, 2, none⟩) (by simp)).trans (by go_simp); have w2q3 : w2.cell? ⟨w.heap.size, 3, none⟩ = some (.int .i64 T) := (hb2.cell (p := ⟨w.heap.size, 3, none⟩) (by simp)).trans (by go_simp); have w2q4 : w2.cell? ⟨w.heap.size, 4, none⟩ = some (.int .i64 H) := (hb2.cell (p := ⟨w.heap.size, 4, none⟩) (by simp)).trans (by go_simp); have w2q5 : w2.cell? ⟨w.heap.size, 5, none⟩ = some (.int .i64 F) := (hb2.cell (p := ⟨w.heap.size, 5, none⟩) (by simp)).trans (by go_simp); have w2q6 : w2.cell? ⟨w.heap.size, 6, none⟩ = some (.int .i64 R) := (hb2.cell (p := ⟨w.heap.size, 6, none⟩) (by simp)).trans (by go_simp); have w2q7 : w2.cell? ⟨w.heap.size, 7, none⟩ = some (.int .i64 U) := (hb2.cell (p := ⟨w.heap.size, 7, none⟩) (by simp)).trans (by go_simp); have w2q8 : w2.cell? ⟨w.heap.size, 8, none⟩ = some (.int .i64 O) := (hb2.cell (p := ⟨w.heap.size, 8, none⟩) (by simp)).trans (by go_simp); have w2q9 : w2.cell? ⟨w.heap.size, 9, none⟩ = some (.slice a rs.length c) := (hb2.cell (p := ⟨w.heap.size, 9, none⟩) (by simp)).trans (by go_simp); have hl2 : w.heap.size < w2.heap.size := Nat.lt_of_lt_of_le (by simp) hb2.size; clear hb2))
      go_quiet ((go_at_call 67; exact Calls.quiet_of_same (halvesq_i _ _ HQ.out _)))
      go_wp2_with fail
      go_ret
      exact ⟨rfl, below_drewN HB2.out nq⟩
    by_cases c6b : O ≤ U
    case neg =>
      have he : E = false := NO.out (.inr (.inr (.inr (.inr (.inr (.inl (fun hh => c6b hh.2)))))))
      subst he
      go_enter Tryz.func25, Tryz.ntmps25
      go_wp2_with (first | (go_at_call 64; refine (width_i _ _).mono ?_; rw [d1]; rintro e wz ⟨rfl, hwz⟩; rw [hwz]; clear hwz wz) | (go_at_call 65; refine (isize_i _ _).mono ?_; rw [d2]; rintro e wz ⟨rfl, hwz⟩; rw [hwz]; clear hwz wz) | (go_at_call 67; refine (halves_i _ _).mono ?_; rw [← HQ.out]; rintro e wz ⟨rfl, hwz⟩; rw [hwz]; clear hwz wz) | (go_at_call 66; refine (root_i _ _ _ _ _).mono ?_; rw [d4]; rintro e w2 ⟨rfl, hb2⟩; have HB2 := hid ((HB0.out _).trans (hb2.mono (by simp))); have w2q0 : w2.cell? ⟨w.heap.size, 0, none⟩ = some (.int .i64 W) := (hb2.cell (p := ⟨w.heap.size, 0, none⟩) (by simp)).trans (by go_simp); have w2q1 : w2.cell? ⟨w.heap.size, 1, none⟩ = some (.int .i64 S) := (hb2.cell (p := ⟨w.heap.size, 1, none⟩) (by simp)).trans (by go_simp); have w2q2 : w2.cell? ⟨w.heap.size, 2, none⟩ = some (.int .i64 L) := (hb2.cell (p := ⟨w.heap.size, 2, none⟩) (by simp)).trans (by go_simp); have w2q3 : w2.cell? ⟨w.heap.size, 3, none⟩ = some (.int .i64 T) := (hb2.cell (p := ⟨w.heap.size, 3, none⟩) (by simp)).trans (by go_simp); have w2q4 : w2.cell? ⟨w.heap.size, 4, none⟩ = some (.int .i64 H) := (hb2.cell (p := ⟨w.heap.size, 4, none⟩) (by simp)).trans (by go_simp); have w2q5 : w2.cell? ⟨w.heap.size, 5, none⟩ = some (.int .i64 F) := (hb2.cell (p := ⟨w.heap.size, 5, none⟩) (by simp)).trans (by go_simp); have w2q6 : w2.cell? ⟨w.heap.size, 6, none⟩ = some (.int .i64 R) := (hb2.cell (p := ⟨w.heap.size, 6, none⟩) (by simp)).trans (by go_simp); have w2q7 : w2.cell? ⟨w.heap.size, 7, none⟩ = some (.int .i64 U) := (hb2.cell (p := ⟨w.heap.size, 7, none⟩) (by simp)).trans (by go_simp); have w2q8 : w2.cell? ⟨w.heap.size, 8, none⟩ = some (.int .i64 O) := (hb2.cell (p := ⟨w.heap.size, 8, none⟩) (by simp)).trans (by go_simp); have w2q9 : w2.cell? ⟨w.heap.size, 9, none⟩ = some (.slice a rs.length c) := (hb2.cell (p := ⟨w.heap.size, 9, none⟩) (by simp)).trans (by go_simp); have hl2 : w.heap.size < w2.heap.size := Nat.lt_of_lt_of_le (by simp) hb2.size; clear hb2))
      go_quiet ((go_at_call 67; exact Calls.quiet_of_same (halvesq_i _ _ HQ.out _)))
      go_wp2_with fail
      go_ret
      exact ⟨rfl, below_drewN HB2.out nq⟩
    cases dS : stateOk rs with
    | false =>
      have he : E = false := NO.out (.inr (.inr (.inr (.inr (.inr (.inr (.inl (dS))))))))
      subst he
      go_enter Tryz.func25, Tryz.ntmps25
      go_wp2_with (first | (go_at_call 64; refine (width_i _ _).mono ?_; rw [d1]; rintro e wz ⟨rfl, hwz⟩; rw [hwz]; clear hwz wz) | (go_at_call 65; refine (isize_i _ _).mono ?_; rw [d2]; rintro e wz ⟨rfl, hwz⟩; rw [hwz]; clear hwz wz) | (go_at_call 67; refine (halves_i _ _).mono ?_; rw [← HQ.out]; rintro e wz ⟨rfl, hwz⟩; rw [hwz]; clear hwz wz) | (go_at_call 66; refine (root_i _ _ _ _ _).mono ?_; rw [d4]; rintro e w2 ⟨rfl, hb2⟩; have HB2 := hid ((HB0.out _).trans (hb2.mono (by simp))); have w2q0 : w2.cell? ⟨w.heap.size, 0, none⟩ = some (.int .i64 W) := (hb2.cell (p := ⟨w.heap.size, 0, none⟩) (by simp)).trans (by go_simp); have w2q1 : w2.cell? ⟨w.heap.size, 1, none⟩ = some (.int .i64 S) := (hb2.cell (p := ⟨w.heap.size, 1, none⟩) (by simp)).trans (by go_simp); have w2q2 : w2.cell? ⟨w.heap.size, 2, none⟩ = some (.int .i64 L) := (hb2.cell (p := ⟨w.heap.size, 2, none⟩) (by simp)).trans (by go_simp); have w2q3 : w2.cell? ⟨w.heap.size, 3, none⟩ = some (.int .i64 T) := (hb2.cell (p := ⟨w.heap.size, 3, none⟩) (by simp)).trans (by go_simp); have w2q4 : w2.cell? ⟨w.heap.size, 4, none⟩ = some (.int .i64 H) := (hb2.cell (p := ⟨w.heap.size, 4, none⟩) (by simp)).trans (by go_simp); have w2q5 : w2.cell? ⟨w.heap.size, 5, none⟩ = some (.int .i64 F) := (hb2.cell (p := ⟨w.heap.size, 5, none⟩) (by simp)).trans (by go_simp); have w2q6 : w2.cell? ⟨w.heap.size, 6, none⟩ = some (.int .i64 R) := (hb2.cell (p := ⟨w.heap.size, 6, none⟩) (by simp)).trans (by go_simp); have w2q7 : w2.cell? ⟨w.heap.size, 7, none⟩ = some (.int .i64 U) := (hb2.cell (p := ⟨w.heap.size, 7, none⟩) (by simp)).trans (by go_simp); have w2q8 : w2.cell? ⟨w.heap.size, 8, none⟩ = some (.int .i64 O) := (hb2.cell (p := ⟨w.heap.size, 8, none⟩) (by simp)).trans (by go_simp); have w2q9 : w2.cell? ⟨w.heap.size, 9, none⟩ = some (.slice a rs.length c) := (hb2.cell (p := ⟨w.heap.size, 9, none⟩) (by simp)).trans (by go_simp); have hl2 : w.heap.size < w2.heap.size := Nat.lt_of_lt_of_le (by simp) hb2.size; clear hb2))
      go_quiet ((go_at_call 67; exact Calls.quiet_of_same (halvesq_i _ _ HQ.out _)))
      go_wp2_with (first  | (go_at_call 68; refine (HVS.out _ (below_drewN HB2.out nq)).mono ?_; rw [dS]; rintro e w3 ⟨rfl, hb3⟩; have HB3 := hid ((below_drewN HB2.out nq).trans (hb3.mono HB2.out.size)); have w3q0 : w3.cell? ⟨w.heap.size, 0, none⟩ = some (.int .i64 W) := (hb3.cell (p := ⟨w.heap.size, 0, none⟩) hl2).trans w2q0; have w3q1 : w3.cell? ⟨w.heap.size, 1, none⟩ = some (.int .i64 S) := (hb3.cell (p := ⟨w.heap.size, 1, none⟩) hl2).trans w2q1; have w3q2 : w3.cell? ⟨w.heap.size, 2, none⟩ = some (.int .i64 L) := (hb3.cell (p := ⟨w.heap.size, 2, none⟩) hl2).trans w2q2; have w3q3 : w3.cell? ⟨w.heap.size, 3, none⟩ = some (.int .i64 T) := (hb3.cell (p := ⟨w.heap.size, 3, none⟩) hl2).trans w2q3; have w3q4 : w3.cell? ⟨w.heap.size, 4, none⟩ = some (.int .i64 H) := (hb3.cell (p := ⟨w.heap.size, 4, none⟩) hl2).trans w2q4; have w3q5 : w3.cell? ⟨w.heap.size, 5, none⟩ = some (.int .i64 F) := (hb3.cell (p := ⟨w.heap.size, 5, none⟩) hl2).trans w2q5; have w3q6 : w3.cell? ⟨w.heap.size, 6, none⟩ = some (.int .i64 R) := (hb3.cell (p := ⟨w.heap.size, 6, none⟩) hl2).trans w2q6; have w3q7 : w3.cell? ⟨w.heap.size, 7, none⟩ = some (.int .i64 U) := (hb3.cell (p := ⟨w.heap.size, 7, none⟩) hl2).trans w2q7; have w3q8 : w3.cell? ⟨w.heap.size, 8, none⟩ = some (.int .i64 O) := (hb3.cell (p := ⟨w.heap.size, 8, none⟩) hl2).trans w2q8; have w3q9 : w3.cell? ⟨w.heap.size, 9, none⟩ = some (.slice a rs.length c) := (hb3.cell (p := ⟨w.heap.size, 9, none⟩) hl2).trans w2q9; clear hb3))
      go_ret
      exact ⟨rfl, HB3.out⟩
    | true =>
      obtain ⟨D, HD⟩ : ∃ D, Hid (D = decide (roomOf (snapOf rs) W ≤ Q - 1)) := ⟨_, hid rfl⟩
      have he : E = D := by
        rw [HE.out, HD.out, HQ.out]
        rw [HQ.out] at c5b
        unfold storeOk
        simp [c1, c2, c3, c3b, d4, c5, c5b, c6, c6b, dS]
      rw [← HD.out] at HRM
      clear NO HE
      subst he
      go_enter Tryz.func25, Tryz.ntmps25
      go_wp2_with (first | (go_at_call 64; refine (width_i _ _).mono ?_; rw [d1]; rintro e wz ⟨rfl, hwz⟩; rw [hwz]; clear hwz wz) | (go_at_call 65; refine (isize_i _ _).mono ?_; rw [d2]; rintro e wz ⟨rfl, hwz⟩; rw [hwz]; clear hwz wz) | (go_at_call 67; refine (halves_i _ _).mono ?_; rw [← HQ.out]; rintro e wz ⟨rfl, hwz⟩; rw [hwz]; clear hwz wz) | (go_at_call 66; refine (root_i _ _ _ _ _).mono ?_; rw [d4]; rintro e w2 ⟨rfl, hb2⟩; have HB2 := hid ((HB0.out _).trans (hb2.mono (by simp))); have w2q0 : w2.cell? ⟨w.heap.size, 0, none⟩ = some (.int .i64 W) := (hb2.cell (p := ⟨w.heap.size, 0, none⟩) (by simp)).trans (by go_simp); have w2q1 : w2.cell? ⟨w.heap.size, 1, none⟩ = some (.int .i64 S) := (hb2.cell (p := ⟨w.heap.size, 1, none⟩) (by simp)).trans (by go_simp); have w2q2 : w2.cell? ⟨w.heap.size, 2, none⟩ = some (.int .i64 L) := (hb2.cell (p := ⟨w.heap.size, 2, none⟩) (by simp)).trans (by go_simp); have w2q3 : w2.cell? ⟨w.heap.size, 3, none⟩ = some (.int .i64 T) := (hb2.cell (p := ⟨w.heap.size, 3, none⟩) (by simp)).trans (by go_simp); have w2q4 : w2.cell? ⟨w.heap.size, 4, none⟩ = some (.int .i64 H) := (hb2.cell (p := ⟨w.heap.size, 4, none⟩) (by simp)).trans (by go_simp); have w2q5 : w2.cell? ⟨w.heap.size, 5, none⟩ = some (.int .i64 F) := (hb2.cell (p := ⟨w.heap.size, 5, none⟩) (by simp)).trans (by go_simp); have w2q6 : w2.cell? ⟨w.heap.size, 6, none⟩ = some (.int .i64 R) := (hb2.cell (p := ⟨w.heap.size, 6, none⟩) (by simp)).trans (by go_simp); have w2q7 : w2.cell? ⟨w.heap.size, 7, none⟩ = some (.int .i64 U) := (hb2.cell (p := ⟨w.heap.size, 7, none⟩) (by simp)).trans (by go_simp); have w2q8 : w2.cell? ⟨w.heap.size, 8, none⟩ = some (.int .i64 O) := (hb2.cell (p := ⟨w.heap.size, 8, none⟩) (by simp)).trans (by go_simp); have w2q9 : w2.cell? ⟨w.heap.size, 9, none⟩ = some (.slice a rs.length c) := (hb2.cell (p := ⟨w.heap.size, 9, none⟩) (by simp)).trans (by go_simp); have hl2 : w.heap.size < w2.heap.size := Nat.lt_of_lt_of_le (by simp) hb2.size; clear hb2))
      go_quiet ((go_at_call 67; exact Calls.quiet_of_same (halvesq_i _ _ HQ.out _)))
      go_wp2_with (first  | (go_at_call 68; refine (HVS.out _ (below_drewN HB2.out nq)).mono ?_; rw [dS]; rintro e w3 ⟨rfl, hb3⟩; have HB3 := hid ((below_drewN HB2.out nq).trans (hb3.mono HB2.out.size)); have w3q0 : w3.cell? ⟨w.heap.size, 0, none⟩ = some (.int .i64 W) := (hb3.cell (p := ⟨w.heap.size, 0, none⟩) hl2).trans w2q0; have w3q1 : w3.cell? ⟨w.heap.size, 1, none⟩ = some (.int .i64 S) := (hb3.cell (p := ⟨w.heap.size, 1, none⟩) hl2).trans w2q1; have w3q2 : w3.cell? ⟨w.heap.size, 2, none⟩ = some (.int .i64 L) := (hb3.cell (p := ⟨w.heap.size, 2, none⟩) hl2).trans w2q2; have w3q3 : w3.cell? ⟨w.heap.size, 3, none⟩ = some (.int .i64 T) := (hb3.cell (p := ⟨w.heap.size, 3, none⟩) hl2).trans w2q3; have w3q4 : w3.cell? ⟨w.heap.size, 4, none⟩ = some (.int .i64 H) := (hb3.cell (p := ⟨w.heap.size, 4, none⟩) hl2).trans w2q4; have w3q5 : w3.cell? ⟨w.heap.size, 5, none⟩ = some (.int .i64 F) := (hb3.cell (p := ⟨w.heap.size, 5, none⟩) hl2).trans w2q5; have w3q6 : w3.cell? ⟨w.heap.size, 6, none⟩ = some (.int .i64 R) := (hb3.cell (p := ⟨w.heap.size, 6, none⟩) hl2).trans w2q6; have w3q7 : w3.cell? ⟨w.heap.size, 7, none⟩ = some (.int .i64 U) := (hb3.cell (p := ⟨w.heap.size, 7, none⟩) hl2).trans w2q7; have w3q8 : w3.cell? ⟨w.heap.size, 8, none⟩ = some (.int .i64 O) := (hb3.cell (p := ⟨w.heap.size, 8, none⟩) hl2).trans w2q8; have w3q9 : w3.cell? ⟨w.heap.size, 9, none⟩ = some (.slice a rs.length c) := (hb3.cell (p := ⟨w.heap.size, 9, none⟩) hl2).trans w2q9; clear hb3) | (go_at_call 49; refine (HRM.out _ HB3.out).mono ?_; rintro e w4 ⟨rfl, hb4⟩))
      go_ret
      exact ⟨rfl, HB3.out.trans (hb4.mono HB3.out.size)⟩
end Go.Proofs.YtnmaknnnmjfhkafGreat

namespace Go.Proofs.YtnmaknnnmjfhkafGreat
open Go.RowKit
set_option linter.unusedVariables false
set_option linter.unusedSimpArgs false
set_option maxRecDepth 8000

set_option maxHeartbeats 16000000 in
theorem newlife_i (base g : Nat) (v : Value) (os : List OpT) (at_ nm lf wd : Int) (w : World) (h : Wrt w base g v os at_ nm lf wd) (hb : base ≤ w.heap.size) (hl : os.length ≤ 1000) (ha0 : 0 ≤ at_) (ha1 : at_ ≤ 100000) (hn0 : 0 ≤ nm) (hn1 : nm ≤ 2000000000) :
    Calls Tryz.prog 100 #[.pointer (some ⟨g, 0, none⟩)] w fun e w' => (∃ x, e = .returned x) ∧ ∃ v', Wrt w' base g v' (os ++ [(false, at_, formOf 3 lf nm ByteArray.empty wd)]) (at_ + 1) (nm + 1) lf wd ∧ Below base w w' ∧ WK g w v w' v' := by
  have q2 := h.row.cell 2 _ rfl
  have lg := h.row.lt
  go_enter Tryz.func100, Tryz.ntmps100
  go_wp2_with fail
  refine wp_region_held_drew (S := fun w' => w'.cell? ⟨g, 3, none⟩ = some (.int .i64 lf) ∧ w'.cell? ⟨g, 4, none⟩ = some (.int .i64 wd)) (by kernel_rfl) (⟨h.row.drew.cell 3 _ rfl, h.row.drew.cell 4 _ rfl⟩) (fun hHeld => ?_)
  refine wpAnyH_take (i := 0) (v := .pointer (some ⟨g, 0, none⟩)) rfl (by kernel_rfl) (by kernel_rfl) (by kernel_rfl) (fun _ _ _ h => h) (Or.inl ⟨by rfl, fun w hw => by obtain ⟨z0, z1⟩ := hw; go_simp⟩) hHeld ?_
  simp only [Act.put, List.getElem_toArray, List.getElem_cons_zero, List.getElem_cons_succ, List.setIfInBounds_toArray, List.set_cons_zero, List.set_cons_succ]
  refine wpAnyH_take (i := 1) (v := .pointer (some ⟨g, 0, none⟩)) rfl (by kernel_rfl) (by kernel_rfl) (by kernel_rfl) (fun _ _ _ h => h) (Or.inl ⟨by rfl, fun w hw => by obtain ⟨z0, z1⟩ := hw; go_simp⟩) hHeld ?_
  simp only [Act.put, List.getElem_toArray, List.getElem_cons_zero, List.getElem_cons_succ, List.setIfInBounds_toArray, List.set_cons_zero, List.set_cons_succ]
  refine wpAnyH_take (i := 2) (v := .pointer (some ⟨g, 0, none⟩)) rfl (by kernel_rfl) (by kernel_rfl) (by kernel_rfl) (fun _ _ _ h => h) (Or.inl ⟨by rfl, fun w hw => by obtain ⟨z0, z1⟩ := hw; go_simp⟩) hHeld ?_
  simp only [Act.put, List.getElem_toArray, List.getElem_cons_zero, List.getElem_cons_succ, List.setIfInBounds_toArray, List.set_cons_zero, List.set_cons_succ]
  refine wpAnyH_take (i := 3) (v := .pointer (some ⟨g, 3, none⟩)) rfl (by kernel_rfl) (by kernel_rfl) (by kernel_rfl) (fun _ _ _ h => h) (Or.inl ⟨by rfl, fun w hw => by obtain ⟨z0, z1⟩ := hw; go_simp⟩) hHeld ?_
  simp only [Act.put, List.getElem_toArray, List.getElem_cons_zero, List.getElem_cons_succ, List.setIfInBounds_toArray, List.set_cons_zero, List.set_cons_succ]
  refine wpAnyH_take (i := 4) (v := .int .i64 lf) rfl (by kernel_rfl) (by kernel_rfl) (by kernel_rfl) (fun _ _ _ h => h) (Or.inl ⟨by rfl, fun w hw => by obtain ⟨z0, z1⟩ := hw; go_simp⟩) hHeld ?_
  simp only [Act.put, List.getElem_toArray, List.getElem_cons_zero, List.getElem_cons_succ, List.setIfInBounds_toArray, List.set_cons_zero, List.set_cons_succ]
  refine wpAnyH_take (i := 5) (v := .pointer (some ⟨g, 0, none⟩)) rfl (by kernel_rfl) (by kernel_rfl) (by kernel_rfl) (fun _ _ _ h => h) (Or.inl ⟨by rfl, fun w hw => by obtain ⟨z0, z1⟩ := hw; go_simp⟩) hHeld ?_
  simp only [Act.put, List.getElem_toArray, List.getElem_cons_zero, List.getElem_cons_succ, List.setIfInBounds_toArray, List.set_cons_zero, List.set_cons_succ]
  refine wpAnyH_take (i := 6) (v := .pointer (some ⟨g, 0, none⟩)) rfl (by kernel_rfl) (by kernel_rfl) (by kernel_rfl) (fun _ _ _ h => h) (Or.inl ⟨by rfl, fun w hw => by obtain ⟨z0, z1⟩ := hw; go_simp⟩) hHeld ?_
  simp only [Act.put, List.getElem_toArray, List.getElem_cons_zero, List.getElem_cons_succ, List.setIfInBounds_toArray, List.set_cons_zero, List.set_cons_succ]
  refine wpAnyH_take (i := 7) (v := .pointer (some ⟨g, 2, none⟩)) rfl (by kernel_rfl) (by kernel_rfl) (by kernel_rfl) (fun _ _ _ h => h) (Or.inl ⟨by rfl, fun w hw => by obtain ⟨z0, z1⟩ := hw; go_simp⟩) hHeld ?_
  simp only [Act.put, List.getElem_toArray, List.getElem_cons_zero, List.getElem_cons_succ, List.setIfInBounds_toArray, List.set_cons_zero, List.set_cons_succ]
  refine wpAnyH_take (i := 10) (v := .pointer (some ⟨g, 0, none⟩)) rfl (by kernel_rfl) (by kernel_rfl) (by kernel_rfl) (fun _ _ _ h => h) (Or.inl ⟨by rfl, fun w hw => by obtain ⟨z0, z1⟩ := hw; go_simp⟩) hHeld ?_
  simp only [Act.put, List.getElem_toArray, List.getElem_cons_zero, List.getElem_cons_succ, List.setIfInBounds_toArray, List.set_cons_zero, List.set_cons_succ]
  refine wpAnyH_take (i := 11) (v := .pointer (some ⟨g, 0, none⟩)) rfl (by kernel_rfl) (by kernel_rfl) (by kernel_rfl) (fun _ _ _ h => h) (Or.inl ⟨by rfl, fun w hw => by obtain ⟨z0, z1⟩ := hw; go_simp⟩) hHeld ?_
  simp only [Act.put, List.getElem_toArray, List.getElem_cons_zero, List.getElem_cons_succ, List.setIfInBounds_toArray, List.set_cons_zero, List.set_cons_succ]
  refine wpAnyH_take (i := 12) (v := .pointer (some ⟨g, 4, none⟩)) rfl (by kernel_rfl) (by kernel_rfl) (by kernel_rfl) (fun _ _ _ h => h) (Or.inl ⟨by rfl, fun w hw => by obtain ⟨z0, z1⟩ := hw; go_simp⟩) hHeld ?_
  simp only [Act.put, List.getElem_toArray, List.getElem_cons_zero, List.getElem_cons_succ, List.setIfInBounds_toArray, List.set_cons_zero, List.set_cons_succ]
  refine wpAnyH_take (i := 13) (v := .int .i64 wd) rfl (by kernel_rfl) (by kernel_rfl) (by kernel_rfl) (fun _ _ _ h => h) (Or.inl ⟨by rfl, fun w hw => by obtain ⟨z0, z1⟩ := hw; go_simp⟩) hHeld ?_
  simp only [Act.put, List.getElem_toArray, List.getElem_cons_zero, List.getElem_cons_succ, List.setIfInBounds_toArray, List.set_cons_zero, List.set_cons_succ]
  refine wpAnyH_ready (rs := [8]) (by kernel_rfl) (by simp) ?_
  refine AllReadyH.cons rfl (fun K hK => ?_) AllReadyH.nil
  go_simp
  refine hK.out _ _ hHeld (fun _ => ?_)
  clear hK K
  try simp only [Act.put, List.getElem_toArray, List.getElem_cons_zero, List.getElem_cons_succ, List.setIfInBounds_toArray, List.set_cons_zero, List.set_cons_succ]
  refine wpAnyH_take (i := 9) (v := .agg #[.int .i64 3, .int .i64 lf, .int .i64 nm, .string ⟨#[]⟩]) rfl (by kernel_rfl) (by kernel_rfl) (by kernel_rfl) (fun _ _ _ h => h) (Or.inl ⟨by rfl, fun w hw => by obtain ⟨z0, z1⟩ := hw; go_simp⟩) hHeld ?_
  simp only [Act.put, List.getElem_toArray, List.getElem_cons_zero, List.getElem_cons_succ, List.setIfInBounds_toArray, List.set_cons_zero, List.set_cons_succ]
  refine wpAnyH_ready (rs := [14]) (by kernel_rfl) (by simp) ?_
  refine AllReadyH.cons rfl (fun K hK => ?_) AllReadyH.nil
  refine step_call (by rfl) 111 #[pageV 3 lf nm ⟨#[]⟩, .int .i64 wd] (by go_simp) (form_i_any 3 lf nm ByteArray.empty wd _ (by simp)) ?_
  rintro e w4 ⟨rfl, hb4⟩
  refine ⟨_, rfl, ?_⟩
  have hb4' : Below w.heap.size w w4 := (Below.refl _ _).drew.trans hb4
  have hW4 := h.below hb4'
  refine hK.out _ _ (⟨hW4.row.cell 3 _ rfl, hW4.row.cell 4 _ rfl⟩) (fun hHd2 => ?_)
  clear hK K
  try simp only [Act.put, List.getElem_toArray, List.getElem_cons_zero, List.getElem_cons_succ, List.setIfInBounds_toArray, List.set_cons_zero, List.set_cons_succ]
  refine wpAnyH_ready (rs := [15]) (by kernel_rfl) (by simp) ?_
  refine AllReadyH.cons rfl (fun K hK => ?_) AllReadyH.nil
  refine step_call (by rfl) 92 #[.pointer (some ⟨g, 0, none⟩), .string (formOf 3 lf nm ByteArray.empty wd)] (by go_simp) (page_i2 base g v os at_ nm lf wd _ _ hW4 (Nat.le_trans hb hb4'.size) hl ha0 ha1 hn0 hn1) ?_
  rintro e w5 ⟨⟨x, rfl⟩, v', hW5, hb5, hwk5⟩
  refine ⟨_, rfl, ?_⟩
  refine hK.out _ _ (⟨hW5.row.cell 3 _ rfl, hW5.row.cell 4 _ rfl⟩) (fun hHd3 => ?_)
  clear hK K
  try simp only [Act.put, List.getElem_toArray, List.getElem_cons_zero, List.getElem_cons_succ, List.setIfInBounds_toArray, List.set_cons_zero, List.set_cons_succ]
  refine wpAnyH_done (by kernel_rfl) ?_ _
  go_end0
  exact ⟨⟨_, rfl⟩, v', hW5, (hb4'.mono hb).trans hb5, (⟨hb4'.size, fun _ h => .inl h, fun b hb _ _ => hb4'.block b hb⟩ : WK g w v w4 v).trans hwk5⟩
set_option maxHeartbeats 16000000 in
theorem turned_i (T H F R S L : Int) (w : World) (hT : 0 ≤ T) (hT1 : T ≤ 1000000000) (hH : 0 ≤ H) (hH1 : H ≤ 1) (hF : 0 ≤ F) (hF1 : F ≤ 999999000) :
    Calls Tryz.prog 69 #[rootV T H F R, .int .i64 S, .int .i64 L] w fun e w' => e = .returned (rootV (T + 1) (1 - H) (F + hv S) L) ∧ Below w.heap.size w w' := by
  have hQ : 0 ≤ hv S ∧ hv S ≤ 99 := by by_cases h : 8 ≤ S ∧ S ≤ 200; have := hv_yes h; omega; rw [hv_no h]; omega
  have HH := hid (fun w' => halves_i S w')
  obtain ⟨Q, HQ⟩ : ∃ Q, Hid (Q = hv S) := ⟨_, hid rfl⟩
  rw [← HQ.out] at hQ HH ⊢
  have hw1 : IntKind.i64.wrap (T + 1) = T + 1 := by simp [IntKind.wrap, IntKind.bits, IntKind.signed]; omega
  have hw2 : IntKind.i64.wrap (1 - H) = 1 - H := by simp [IntKind.wrap, IntKind.bits, IntKind.signed]; omega
  have hw3 : IntKind.i64.wrap (F + Q) = F + Q := by simp [IntKind.wrap, IntKind.bits, IntKind.signed]; omega
  have hbb : ∀ {cs : Array Value} {cs' : Array Value} {t t' : TypeId}, Below w.heap.size w ((w.alloc (.cells cs t)).alloc (.cells cs' t')) := ((Below.refl _ _).alloc (Nat.le_refl _) _).alloc (by simp) _
  go_enter Tryz.func69, Tryz.ntmps69
  go_wp2_with fail
  refine wp_region_held_drew (S := fun w' => w'.cell? ⟨w.heap.size, 0, none⟩ = some (.int .i64 T) ∧ w'.cell? ⟨w.heap.size, 1, none⟩ = some (.int .i64 H) ∧ w'.cell? ⟨w.heap.size, 2, none⟩ = some (.int .i64 F)) (by kernel_rfl) (⟨by go_simp, by go_simp, by go_simp⟩) (fun hHeld => ?_)
  refine wpAnyH_take (i := 0) (v := .pointer (some ⟨w.heap.size, 0, none⟩)) rfl (by kernel_rfl) (by kernel_rfl) (by kernel_rfl) (fun _ _ _ h => h) (Or.inl ⟨by rfl, fun w hw => by obtain ⟨z0, z1, z2⟩ := hw; go_simp⟩) hHeld ?_
  simp only [Act.put, List.getElem_toArray, List.getElem_cons_zero, List.getElem_cons_succ, List.setIfInBounds_toArray, List.set_cons_zero, List.set_cons_succ]
  refine wpAnyH_take (i := 1) (v := .int .i64 T) rfl (by kernel_rfl) (by kernel_rfl) (by kernel_rfl) (fun _ _ _ h => h) (Or.inl ⟨by rfl, fun w hw => by obtain ⟨z0, z1, z2⟩ := hw; go_simp⟩) hHeld ?_
  simp only [Act.put, List.getElem_toArray, List.getElem_cons_zero, List.getElem_cons_succ, List.setIfInBounds_toArray, List.set_cons_zero, List.set_cons_succ]
  refine wpAnyH_take (i := 2) (v := .int .i64 (T + 1)) rfl (by kernel_rfl) (by kernel_rfl) (by kernel_rfl) (fun _ _ _ h => h) (Or.inl ⟨by rfl, fun w hw => by obtain ⟨z0, z1, z2⟩ := hw; go_simp⟩) hHeld ?_
  simp only [Act.put, List.getElem_toArray, List.getElem_cons_zero, List.getElem_cons_succ, List.setIfInBounds_toArray, List.set_cons_zero, List.set_cons_succ]
  refine wpAnyH_take (i := 3) (v := .pointer (some ⟨w.heap.size, 1, none⟩)) rfl (by kernel_rfl) (by kernel_rfl) (by kernel_rfl) (fun _ _ _ h => h) (Or.inl ⟨by rfl, fun w hw => by obtain ⟨z0, z1, z2⟩ := hw; go_simp⟩) hHeld ?_
  simp only [Act.put, List.getElem_toArray, List.getElem_cons_zero, List.getElem_cons_succ, List.setIfInBounds_toArray, List.set_cons_zero, List.set_cons_succ]
  refine wpAnyH_take (i := 4) (v := .int .i64 H) rfl (by kernel_rfl) (by kernel_rfl) (by kernel_rfl) (fun _ _ _ h => h) (Or.inl ⟨by rfl, fun w hw => by obtain ⟨z0, z1, z2⟩ := hw; go_simp⟩) hHeld ?_
  simp only [Act.put, List.getElem_toArray, List.getElem_cons_zero, List.getElem_cons_succ, List.setIfInBounds_toArray, List.set_cons_zero, List.set_cons_succ]
  refine wpAnyH_take (i := 5) (v := .int .i64 (1 - H)) rfl (by kernel_rfl) (by kernel_rfl) (by kernel_rfl) (fun _ _ _ h => h) (Or.inl ⟨by rfl, fun w hw => by obtain ⟨z0, z1, z2⟩ := hw; go_simp⟩) hHeld ?_
  simp only [Act.put, List.getElem_toArray, List.getElem_cons_zero, List.getElem_cons_succ, List.setIfInBounds_toArray, List.set_cons_zero, List.set_cons_succ]
  refine wpAnyH_take (i := 6) (v := .pointer (some ⟨w.heap.size, 2, none⟩)) rfl (by kernel_rfl) (by kernel_rfl) (by kernel_rfl) (fun _ _ _ h => h) (Or.inl ⟨by rfl, fun w hw => by obtain ⟨z0, z1, z2⟩ := hw; go_simp⟩) hHeld ?_
  simp only [Act.put, List.getElem_toArray, List.getElem_cons_zero, List.getElem_cons_succ, List.setIfInBounds_toArray, List.set_cons_zero, List.set_cons_succ]
  refine wpAnyH_take (i := 7) (v := .int .i64 F) rfl (by kernel_rfl) (by kernel_rfl) (by kernel_rfl) (fun _ _ _ h => h) (Or.inl ⟨by rfl, fun w hw => by obtain ⟨z0, z1, z2⟩ := hw; go_simp⟩) hHeld ?_
  simp only [Act.put, List.getElem_toArray, List.getElem_cons_zero, List.getElem_cons_succ, List.setIfInBounds_toArray, List.set_cons_zero, List.set_cons_succ]
  refine wpAnyH_take (i := 8) (v := .int .i64 S) rfl (by kernel_rfl) (by kernel_rfl) (by kernel_rfl) (fun _ _ _ h => h) (Or.inl ⟨by rfl, fun w hw => by obtain ⟨z0, z1, z2⟩ := hw; go_simp⟩) hHeld ?_
  simp only [Act.put, List.getElem_toArray, List.getElem_cons_zero, List.getElem_cons_succ, List.setIfInBounds_toArray, List.set_cons_zero, List.set_cons_succ]
  refine wpAnyH_take (i := 11) (v := .int .i64 L) rfl (by kernel_rfl) (by kernel_rfl) (by kernel_rfl) (fun _ _ _ h => h) (Or.inl ⟨by rfl, fun w hw => by obtain ⟨z0, z1, z2⟩ := hw; go_simp⟩) hHeld ?_
  simp only [Act.put, List.getElem_toArray, List.getElem_cons_zero, List.getElem_cons_succ, List.setIfInBounds_toArray, List.set_cons_zero, List.set_cons_succ]
  refine wpAnyH_ready (rs := [9]) (by kernel_rfl) (by simp) ?_
  refine AllReadyH.cons rfl (fun K hK => ?_) AllReadyH.nil
  refine step_call (by rfl) 67 #[.int .i64 S] (by go_simp) (HH.out _) ?_
  rintro e w4 ⟨rfl, rfl⟩
  refine ⟨_, rfl, ?_⟩
  refine hK.out _ _ hHeld (fun _ => ?_)
  clear hK K
  try simp only [Act.put, List.getElem_toArray, List.getElem_cons_zero, List.getElem_cons_succ, List.setIfInBounds_toArray, List.set_cons_zero, List.set_cons_succ]
  refine wpAnyH_take (i := 10) (v := .int .i64 (F + Q)) rfl (by kernel_rfl) (by kernel_rfl) (by kernel_rfl) (fun _ _ _ h => h) (Or.inl ⟨by rfl, fun w hw => by obtain ⟨z0, z1, z2⟩ := hw; go_simp⟩) hHeld ?_
  simp only [Act.put, List.getElem_toArray, List.getElem_cons_zero, List.getElem_cons_succ, List.setIfInBounds_toArray, List.set_cons_zero, List.set_cons_succ]
  refine wpAnyH_take (i := 12) (v := .agg #[.int .i64 (T + 1), .int .i64 (1 - H), .int .i64 (F + Q), .int .i64 L]) rfl (by kernel_rfl) (by kernel_rfl) (by kernel_rfl) (fun _ _ _ h => h) (Or.inl ⟨by rfl, fun w hw => by obtain ⟨z0, z1, z2⟩ := hw; go_simp⟩) hHeld ?_
  simp only [Act.put, List.getElem_toArray, List.getElem_cons_zero, List.getElem_cons_succ, List.setIfInBounds_toArray, List.set_cons_zero, List.set_cons_succ]
  refine wpAnyH_ready (rs := [13]) (by kernel_rfl) (by simp) ?_
  refine AllReadyH.cons rfl (fun K hK => ?_) AllReadyH.nil
  go_simp
  refine hK.out _ _ (⟨by go_simp, by go_simp, by go_simp⟩) (fun hHd2 => ?_)
  clear hK K
  try simp only [Act.put, List.getElem_toArray, List.getElem_cons_zero, List.getElem_cons_succ, List.setIfInBounds_toArray, List.set_cons_zero, List.set_cons_succ]
  refine wpAnyH_done (by kernel_rfl) ?_ _
  go_wp2
  refine bodyPost_ret (v := rootV (T + 1) (1 - H) (F + Q) L) (by simp [results, Tryz.results69, go_sem]) rfl ⟨rfl, ?_⟩
  exact hbb.drew
set_option maxHeartbeats 16000000 in
theorem entry_i (base g : Nat) (v : Value) (os : List OpT) (at_ nm lf : Int) (n m : Nat) (text : ByteArray) (w : World) (h : Wrt w base g v os at_ nm lf (n : Int)) (hb : base ≤ w.heap.size) (ht : text.size ≤ 100000) (hl : os.length + (cutAll text lf nm n m).length ≤ 1000) (hm : n + m = 56) (hn1 : 1 ≤ n) (hn8 : n ≤ 8) (ha0 : 0 ≤ at_) (ha1 : at_ ≤ 10000) (hm0 : 0 ≤ nm) (hm1 : nm ≤ 1900000000) :
    Calls Tryz.prog 52 #[.pointer (some ⟨g, 0, none⟩), .string text] w fun e w' => (∃ x, e = .returned x) ∧ ∃ v', Wrt w' base g v' (os ++ putOps at_ (cutAll text lf nm n m)) (at_ + ((cutAll text lf nm n m).length : Int)) (nm + ((cutAll text lf nm n m).length : Int)) lf (n : Int) ∧ Below base w w' ∧ WK g w v w' v' := by
  have HC := hid (fun W => cut_i text lf nm n m W (by omega) hm hn1 hn8 (by omega) (by omega))
  obtain ⟨cut, hcut⟩ : ∃ cut, cut = cutAll text lf nm n m := ⟨_, rfl⟩
  rw [← hcut] at HC hl ⊢
  clear hcut
  go_enter Tryz.func52, Tryz.ntmps52
  go_wp2_with fail
  refine wp_region_held_drew (S := fun w' => w'.cell? ⟨g, 2, none⟩ = some (.int .i64 nm) ∧ w'.cell? ⟨g, 3, none⟩ = some (.int .i64 lf) ∧ w'.cell? ⟨g, 4, none⟩ = some (.int .i64 (n : Int))) (by kernel_rfl) (⟨h.row.drew.cell 2 _ rfl, h.row.drew.cell 3 _ rfl, h.row.drew.cell 4 _ rfl⟩) (fun hHeld => ?_)
  refine wpAnyH_take (i := 0) (v := .string text) rfl (by kernel_rfl) (by kernel_rfl) (by kernel_rfl) (fun _ _ _ h => h) (Or.inl ⟨by rfl, fun w hw => by obtain ⟨z0, z1, z2⟩ := hw; go_simp⟩) hHeld ?_
  simp only [Act.put, List.getElem_toArray, List.getElem_cons_zero, List.getElem_cons_succ, List.setIfInBounds_toArray, List.set_cons_zero, List.set_cons_succ]
  refine wpAnyH_take (i := 1) (v := .pointer (some ⟨g, 0, none⟩)) rfl (by kernel_rfl) (by kernel_rfl) (by kernel_rfl) (fun _ _ _ h => h) (Or.inl ⟨by rfl, fun w hw => by obtain ⟨z0, z1, z2⟩ := hw; go_simp⟩) hHeld ?_
  simp only [Act.put, List.getElem_toArray, List.getElem_cons_zero, List.getElem_cons_succ, List.setIfInBounds_toArray, List.set_cons_zero, List.set_cons_succ]
  refine wpAnyH_take (i := 2) (v := .pointer (some ⟨g, 0, none⟩)) rfl (by kernel_rfl) (by kernel_rfl) (by kernel_rfl) (fun _ _ _ h => h) (Or.inl ⟨by rfl, fun w hw => by obtain ⟨z0, z1, z2⟩ := hw; go_simp⟩) hHeld ?_
  simp only [Act.put, List.getElem_toArray, List.getElem_cons_zero, List.getElem_cons_succ, List.setIfInBounds_toArray, List.set_cons_zero, List.set_cons_succ]
  refine wpAnyH_take (i := 3) (v := .pointer (some ⟨g, 3, none⟩)) rfl (by kernel_rfl) (by kernel_rfl) (by kernel_rfl) (fun _ _ _ h => h) (Or.inl ⟨by rfl, fun w hw => by obtain ⟨z0, z1, z2⟩ := hw; go_simp⟩) hHeld ?_
  simp only [Act.put, List.getElem_toArray, List.getElem_cons_zero, List.getElem_cons_succ, List.setIfInBounds_toArray, List.set_cons_zero, List.set_cons_succ]
  refine wpAnyH_take (i := 4) (v := .int .i64 lf) rfl (by kernel_rfl) (by kernel_rfl) (by kernel_rfl) (fun _ _ _ h => h) (Or.inl ⟨by rfl, fun w hw => by obtain ⟨z0, z1, z2⟩ := hw; go_simp⟩) hHeld ?_
  simp only [Act.put, List.getElem_toArray, List.getElem_cons_zero, List.getElem_cons_succ, List.setIfInBounds_toArray, List.set_cons_zero, List.set_cons_succ]
  refine wpAnyH_take (i := 5) (v := .pointer (some ⟨g, 0, none⟩)) rfl (by kernel_rfl) (by kernel_rfl) (by kernel_rfl) (fun _ _ _ h => h) (Or.inl ⟨by rfl, fun w hw => by obtain ⟨z0, z1, z2⟩ := hw; go_simp⟩) hHeld ?_
  simp only [Act.put, List.getElem_toArray, List.getElem_cons_zero, List.getElem_cons_succ, List.setIfInBounds_toArray, List.set_cons_zero, List.set_cons_succ]
  refine wpAnyH_take (i := 6) (v := .pointer (some ⟨g, 0, none⟩)) rfl (by kernel_rfl) (by kernel_rfl) (by kernel_rfl) (fun _ _ _ h => h) (Or.inl ⟨by rfl, fun w hw => by obtain ⟨z0, z1, z2⟩ := hw; go_simp⟩) hHeld ?_
  simp only [Act.put, List.getElem_toArray, List.getElem_cons_zero, List.getElem_cons_succ, List.setIfInBounds_toArray, List.set_cons_zero, List.set_cons_succ]
  refine wpAnyH_take (i := 7) (v := .pointer (some ⟨g, 2, none⟩)) rfl (by kernel_rfl) (by kernel_rfl) (by kernel_rfl) (fun _ _ _ h => h) (Or.inl ⟨by rfl, fun w hw => by obtain ⟨z0, z1, z2⟩ := hw; go_simp⟩) hHeld ?_
  simp only [Act.put, List.getElem_toArray, List.getElem_cons_zero, List.getElem_cons_succ, List.setIfInBounds_toArray, List.set_cons_zero, List.set_cons_succ]
  refine wpAnyH_take (i := 8) (v := .int .i64 nm) rfl (by kernel_rfl) (by kernel_rfl) (by kernel_rfl) (fun _ _ _ h => h) (Or.inl ⟨by rfl, fun w hw => by obtain ⟨z0, z1, z2⟩ := hw; go_simp⟩) hHeld ?_
  simp only [Act.put, List.getElem_toArray, List.getElem_cons_zero, List.getElem_cons_succ, List.setIfInBounds_toArray, List.set_cons_zero, List.set_cons_succ]
  refine wpAnyH_take (i := 9) (v := .pointer (some ⟨g, 0, none⟩)) rfl (by kernel_rfl) (by kernel_rfl) (by kernel_rfl) (fun _ _ _ h => h) (Or.inl ⟨by rfl, fun w hw => by obtain ⟨z0, z1, z2⟩ := hw; go_simp⟩) hHeld ?_
  simp only [Act.put, List.getElem_toArray, List.getElem_cons_zero, List.getElem_cons_succ, List.setIfInBounds_toArray, List.set_cons_zero, List.set_cons_succ]
  refine wpAnyH_take (i := 10) (v := .pointer (some ⟨g, 0, none⟩)) rfl (by kernel_rfl) (by kernel_rfl) (by kernel_rfl) (fun _ _ _ h => h) (Or.inl ⟨by rfl, fun w hw => by obtain ⟨z0, z1, z2⟩ := hw; go_simp⟩) hHeld ?_
  simp only [Act.put, List.getElem_toArray, List.getElem_cons_zero, List.getElem_cons_succ, List.setIfInBounds_toArray, List.set_cons_zero, List.set_cons_succ]
  refine wpAnyH_take (i := 11) (v := .pointer (some ⟨g, 4, none⟩)) rfl (by kernel_rfl) (by kernel_rfl) (by kernel_rfl) (fun _ _ _ h => h) (Or.inl ⟨by rfl, fun w hw => by obtain ⟨z0, z1, z2⟩ := hw; go_simp⟩) hHeld ?_
  simp only [Act.put, List.getElem_toArray, List.getElem_cons_zero, List.getElem_cons_succ, List.setIfInBounds_toArray, List.set_cons_zero, List.set_cons_succ]
  refine wpAnyH_take (i := 12) (v := .int .i64 (n : Int)) rfl (by kernel_rfl) (by kernel_rfl) (by kernel_rfl) (fun _ _ _ h => h) (Or.inl ⟨by rfl, fun w hw => by obtain ⟨z0, z1, z2⟩ := hw; go_simp⟩) hHeld ?_
  simp only [Act.put, List.getElem_toArray, List.getElem_cons_zero, List.getElem_cons_succ, List.setIfInBounds_toArray, List.set_cons_zero, List.set_cons_succ]
  refine wpAnyH_take (i := 15) (v := .int .i64 0) rfl (by kernel_rfl) (by kernel_rfl) (by kernel_rfl) (fun _ _ _ h => h) (Or.inl ⟨by rfl, fun w hw => by obtain ⟨z0, z1, z2⟩ := hw; go_simp⟩) hHeld ?_
  simp only [Act.put, List.getElem_toArray, List.getElem_cons_zero, List.getElem_cons_succ, List.setIfInBounds_toArray, List.set_cons_zero, List.set_cons_succ]
  refine wpAnyH_ready (rs := [13]) (by kernel_rfl) (by simp) ?_
  refine AllReadyH.cons rfl (fun K hK => ?_) AllReadyH.nil
  refine step_call (by rfl) 91 #[.string text, .int .i64 lf, .int .i64 nm, .int .i64 (n : Int)] (by go_simp) (HC.out _) ?_
  rintro e w4 ⟨a4, c4, rfl, ho4, hf4, hb4⟩
  refine ⟨_, rfl, ?_⟩
  have hb4' : Below w.heap.size w w4 := (Below.refl _ _).drew.trans hb4
  have hW4 := h.below hb4'
  refine hK.out _ _ (⟨hW4.row.cell 2 _ rfl, hW4.row.cell 3 _ rfl, hW4.row.cell 4 _ rfl⟩) (fun hHd1 => ?_)
  clear hK K
  try simp only [Act.put, List.getElem_toArray, List.getElem_cons_zero, List.getElem_cons_succ, List.setIfInBounds_toArray, List.set_cons_zero, List.set_cons_succ]
  refine wpAnyH_take (i := 14) (v := .int .i64 (cut.length : Int)) rfl (by kernel_rfl) (by kernel_rfl) (by kernel_rfl) (fun _ _ _ h => h) (Or.inl ⟨by rfl, fun w hw => by obtain ⟨z0, z1, z2⟩ := hw; go_simp⟩) hHd1 ?_
  simp only [Act.put, List.getElem_toArray, List.getElem_cons_zero, List.getElem_cons_succ, List.setIfInBounds_toArray, List.set_cons_zero, List.set_cons_succ]
  refine wpAnyH_done (by kernel_rfl) ?_ _
  have HO4 := hid ho4
  have HF4 := hid hf4
  have HW4 := hid hW4
  have HB4 := hid hb4'
  have hs4 := hb4'.size
  clear ho4 hf4 hW4 hb4' hb4 hHeld hHd1
  go_wp2_with fail
  go_loopw [21] (fun i wr => ∃ j : Nat, j ≤ cut.length ∧ i = .int .i64 (j : Int) ∧ ∃ v', Wrt wr base g v' (os ++ putOps at_ (cut.take j)) (at_ + (j : Int)) (nm + (j : Int)) lf (n : Int) ∧ Below base w wr ∧ WK g w4 v wr v') (fun i _ => cut.length - (intOf i).toNat)
  case atStart =>
    refine ⟨0, Nat.zero_le _, rfl, v, ?_, HB4.out.mono hb, WK.start _ _ _⟩
    rw [List.take_zero, putOps_nil, List.append_nil]; simpa using HW4.out
  case round =>
    obtain ⟨j, hj, rfl, v', hW, hbl, hwk⟩ := hrel
    by_cases hlt : j < cut.length
    · have hsz := hwk.size
      obtain ⟨g4, rfl, hr4⟩ := HO4.out.resolve_left (by intro e; have := congrArg List.length e; simp at this; rw [this] at hlt; simp at hlt)
      have hg4 : w.heap.size ≤ g4 := HF4.out g4 (blk_pos _ _ _ (by omega))
      have hgb := h.row.lt
      have hrow := hr4.wk hwk (by omega) (fun e => by have := (h.own.lt g4 e.symm).2; omega)
      have hcj := hrow.cell j (.string (cut.getD j ByteArray.empty)) (by simp [hlt, List.getD])
      obtain ⟨pj, hpj⟩ : ∃ pj, pj = cut.getD j ByteArray.empty := ⟨_, rfl⟩
      rw [← hpj] at hcj
      have hg4l := hrow.lt
      have hlt' : (j : Int) < (cut.length : Int) := by omega
      have hj0 : (0 : Int) ≤ (j : Int) := by omega
      have hsr : base ≤ wr.heap.size := by omega
      have HP := hid (page_i2 base g v' (os ++ putOps at_ (cut.take j)) (at_ + (j : Int)) (nm + (j : Int)) lf (n : Int) pj wr hW hsr (by simp [putOps_length]; omega) (by omega) (by omega) (by omega) (by omega))
      have HBL := hid hbl
      have HPJ := hid hpj
      have hgg := hW.row.lt
      have HWK := hid hwk
      clear hW hbl hrow hwk hpj
      go_wp2_with (go_at_call 92; refine HP.out.mono ?_; rintro e w5 ⟨⟨x, rfl⟩, v5, hW5, hb5, hwk5⟩)
      have hs5 := hb5.size
      have hsn : os ++ putOps at_ (cut.take (j + 1)) = os ++ putOps at_ (cut.take j) ++ [(false, at_ + (j : Int), pj)] := by rw [takeR_snoc cut j ByteArray.empty hlt, putOps_snoc, ← HPJ.out, List.append_assoc, List.length_take, show min j cut.length = j by omega]
      refine ⟨⟨j + 1, by omega, by go_num, v5, ?_, HBL.out.trans hb5, HWK.out.trans hwk5⟩, by simp [intOf]; omega⟩
      rw [hsn]; have e1 : at_ + ((j + 1 : Nat) : Int) = at_ + (j : Int) + 1 := by omega
      have e2 : nm + ((j + 1 : Nat) : Int) = nm + (j : Int) + 1 := by omega
      rw [e1, e2]; exact hW5
    · have hje : j = cut.length := by omega
      subst hje
      go_wp2_with fail
      go_end0
      rw [List.take_length] at hW
      exact ⟨⟨_, rfl⟩, v', hW, hbl, (⟨hs4, fun _ h => .inl h, fun b hb _ _ => HB4.out.block b hb⟩ : WK g w v w4 v).trans hwk⟩
end Go.Proofs.YtnmaknnnmjfhkafGreat

namespace Go.Proofs.YtnmaknnnmjfhkafGreat
open Go.RowKit
set_option linter.unusedVariables false
set_option linter.unusedSimpArgs false
set_option maxRecDepth 8000

theorem sector_i (t h f l : Int) (ht : 0 ≤ t) (w : World) : Calls Tryz.prog 103 #[rootV t h f l] w fun e w' => e = .returned (.int .i64 (t % 2)) ∧ Below w.heap.size w w' := by
  go_enter Tryz.func103, Tryz.ntmps103
  go_wp2
  go_ret
  exact ⟨rfl, (Below.refl _ _).alloc (Nat.le_refl _) _⟩

set_option maxHeartbeats 16000000 in
theorem wroot_i (base g : Nat) (v : Value) (os : List OpT) (at_ nm lf wd t hh f l : Int) (w : World) (h : Wrt w base g v os at_ nm lf wd) (hb : base ≤ w.heap.size) (hl : os.length ≤ 1000) (ht : 0 ≤ t) :
    Calls Tryz.prog 73 #[.pointer (some ⟨g, 0, none⟩), rootV t hh f l] w fun e w' => (∃ x, e = .returned x) ∧ (∃ v', Wrt w' base g v' (os ++ [(false, t % 2, rtForm t hh f l wd)]) at_ nm lf wd) ∧ Below base w w' := by
  obtain ⟨i0, hi0, hz0, hz1, hz2⟩ := info_partsP info_opW
  have HI := hid (And.intro hi0 (And.intro hz0 (And.intro hz1 hz2)))
  clear hi0 hz0 hz1 hz2
  obtain ⟨va, vc, rfl⟩ := h.sl
  have HRP := hid (fun w' => rootpage_i_any t hh f l wd w')
  obtain ⟨rp, hrp⟩ : ∃ rp, rp = rtForm t hh f l wd := ⟨_, rfl⟩
  rw [← hrp] at HRP ⊢
  clear hrp
  have lg := h.row.lt
  obtain ⟨wb, hwb⟩ : ∃ wb, wb = w.alloc (.cells #[.int .i64 t, .int .i64 hh, .int .i64 f, .int .i64 l] 30) := ⟨_, rfl⟩
  have hbb : Below w.heap.size w wb := by rw [hwb]; exact (Below.refl _ _).alloc (Nat.le_refl _) _
  have hws : wb.heap.size = w.heap.size + 1 := by rw [hwb]; simp
  have hBb : Row wb w.heap.size [.int .i64 t, .int .i64 hh, .int .i64 f, .int .i64 l] := by rw [hwb]; exact row_new w _ _
  have hWb := h.below hbb
  have q0b := hWb.row.cell 0 _ rfl
  go_enter Tryz.func73, Tryz.ntmps73
  go_wp2_with fail
  rw [← hwb]
  clear hwb
  refine wp_region_held_drew (S := fun w' => w'.cell? ⟨w.heap.size, 0, none⟩ = some (.int .i64 t) ∧ w'.cell? ⟨w.heap.size, 1, none⟩ = some (.int .i64 hh) ∧ w'.cell? ⟨w.heap.size, 2, none⟩ = some (.int .i64 f) ∧ w'.cell? ⟨w.heap.size, 3, none⟩ = some (.int .i64 l) ∧ w'.cell? ⟨g, 4, none⟩ = some (.int .i64 wd)) (by kernel_rfl) (⟨hBb.drew.cell 0 _ rfl, hBb.drew.cell 1 _ rfl, hBb.drew.cell 2 _ rfl, hBb.drew.cell 3 _ rfl, hWb.row.drew.cell 4 _ rfl⟩) (fun hHeld => ?_)
  refine wpAnyH_take (i := 0) (v := .pointer (some ⟨g, 0, none⟩)) rfl (by kernel_rfl) (by kernel_rfl) (by kernel_rfl) (fun _ _ _ h => h) (Or.inl ⟨by rfl, fun w hw => by obtain ⟨z0, z1, z2, z3, z4⟩ := hw; go_simp⟩) hHeld ?_
  simp only [Act.put, List.getElem_toArray, List.getElem_cons_zero, List.getElem_cons_succ, List.setIfInBounds_toArray, List.set_cons_zero, List.set_cons_succ]
  refine wpAnyH_take (i := 1) (v := .pointer (some ⟨g, 0, none⟩)) rfl (by kernel_rfl) (by kernel_rfl) (by kernel_rfl) (fun _ _ _ h => h) (Or.inl ⟨by rfl, fun w hw => by obtain ⟨z0, z1, z2, z3, z4⟩ := hw; go_simp⟩) hHeld ?_
  simp only [Act.put, List.getElem_toArray, List.getElem_cons_zero, List.getElem_cons_succ, List.setIfInBounds_toArray, List.set_cons_zero, List.set_cons_succ]
  refine wpAnyH_take (i := 2) (v := .pointer (some ⟨g, 0, none⟩)) rfl (by kernel_rfl) (by kernel_rfl) (by kernel_rfl) (fun _ _ _ h => h) (Or.inl ⟨by rfl, fun w hw => by obtain ⟨z0, z1, z2, z3, z4⟩ := hw; go_simp⟩) hHeld ?_
  simp only [Act.put, List.getElem_toArray, List.getElem_cons_zero, List.getElem_cons_succ, List.setIfInBounds_toArray, List.set_cons_zero, List.set_cons_succ]
  refine wpAnyH_take (i := 3) (v := .pointer (some ⟨g, 0, none⟩)) rfl (by kernel_rfl) (by kernel_rfl) (by kernel_rfl) (fun _ _ _ h => h) (Or.inl ⟨by rfl, fun w hw => by obtain ⟨z0, z1, z2, z3, z4⟩ := hw; go_simp⟩) hHeld ?_
  simp only [Act.put, List.getElem_toArray, List.getElem_cons_zero, List.getElem_cons_succ, List.setIfInBounds_toArray, List.set_cons_zero, List.set_cons_succ]
  refine wpAnyH_take (i := 5) (v := .agg #[.int .i64 t, .int .i64 hh, .int .i64 f, .int .i64 l]) rfl (by kernel_rfl) (by kernel_rfl) (by kernel_rfl) (fun _ _ _ h => h) (Or.inl ⟨by rfl, fun w hw => by obtain ⟨z0, z1, z2, z3, z4⟩ := hw; go_simp⟩) hHeld ?_
  simp only [Act.put, List.getElem_toArray, List.getElem_cons_zero, List.getElem_cons_succ, List.setIfInBounds_toArray, List.set_cons_zero, List.set_cons_succ]
  refine wpAnyH_take (i := 7) (v := .agg #[.int .i64 t, .int .i64 hh, .int .i64 f, .int .i64 l]) rfl (by kernel_rfl) (by kernel_rfl) (by kernel_rfl) (fun _ _ _ h => h) (Or.inl ⟨by rfl, fun w hw => by obtain ⟨z0, z1, z2, z3, z4⟩ := hw; go_simp⟩) hHeld ?_
  simp only [Act.put, List.getElem_toArray, List.getElem_cons_zero, List.getElem_cons_succ, List.setIfInBounds_toArray, List.set_cons_zero, List.set_cons_succ]
  refine wpAnyH_take (i := 8) (v := .pointer (some ⟨g, 0, none⟩)) rfl (by kernel_rfl) (by kernel_rfl) (by kernel_rfl) (fun _ _ _ h => h) (Or.inl ⟨by rfl, fun w hw => by obtain ⟨z0, z1, z2, z3, z4⟩ := hw; go_simp⟩) hHeld ?_
  simp only [Act.put, List.getElem_toArray, List.getElem_cons_zero, List.getElem_cons_succ, List.setIfInBounds_toArray, List.set_cons_zero, List.set_cons_succ]
  refine wpAnyH_take (i := 9) (v := .pointer (some ⟨g, 0, none⟩)) rfl (by kernel_rfl) (by kernel_rfl) (by kernel_rfl) (fun _ _ _ h => h) (Or.inl ⟨by rfl, fun w hw => by obtain ⟨z0, z1, z2, z3, z4⟩ := hw; go_simp⟩) hHeld ?_
  simp only [Act.put, List.getElem_toArray, List.getElem_cons_zero, List.getElem_cons_succ, List.setIfInBounds_toArray, List.set_cons_zero, List.set_cons_succ]
  refine wpAnyH_take (i := 10) (v := .pointer (some ⟨g, 4, none⟩)) rfl (by kernel_rfl) (by kernel_rfl) (by kernel_rfl) (fun _ _ _ h => h) (Or.inl ⟨by rfl, fun w hw => by obtain ⟨z0, z1, z2, z3, z4⟩ := hw; go_simp⟩) hHeld ?_
  simp only [Act.put, List.getElem_toArray, List.getElem_cons_zero, List.getElem_cons_succ, List.setIfInBounds_toArray, List.set_cons_zero, List.set_cons_succ]
  refine wpAnyH_take (i := 11) (v := .int .i64 wd) rfl (by kernel_rfl) (by kernel_rfl) (by kernel_rfl) (fun _ _ _ h => h) (Or.inl ⟨by rfl, fun w hw => by obtain ⟨z0, z1, z2, z3, z4⟩ := hw; go_simp⟩) hHeld ?_
  simp only [Act.put, List.getElem_toArray, List.getElem_cons_zero, List.getElem_cons_succ, List.setIfInBounds_toArray, List.set_cons_zero, List.set_cons_succ]
  refine wpAnyH_ready (rs := [4, 6]) (by kernel_rfl) (by simp) ?_
  refine AllReadyH.cons rfl (fun K hK => ?_) (AllReadyH.cons rfl (fun K hK => ?_) AllReadyH.nil)
  · go_simp
    refine hK.out _ _ hHeld (fun _ => ?_)
    clear hK K
    try simp only [Act.put, List.getElem_toArray, List.getElem_cons_zero, List.getElem_cons_succ, List.setIfInBounds_toArray, List.set_cons_zero, List.set_cons_succ]
    refine wpAnyH_ready (rs := [6]) (by kernel_rfl) (by simp) ?_
    refine AllReadyH.cons rfl (fun K hK => ?_) AllReadyH.nil
    refine step_call (by rfl) 103 #[rootV t hh f l] (by go_simp) (sector_i t hh f l ht _) ?_
    rintro e w4 ⟨rfl, hb4⟩
    refine ⟨_, rfl, ?_⟩
    have hb4' : Below wb.heap.size wb w4 := (Below.refl _ _).drew.trans hb4
    have hW4 := hWb.below hb4'
    have hB4 := hBb.below hb4'
    have q04 := hW4.row.cell 0 _ rfl
    refine hK.out _ _ (⟨hB4.cell 0 _ rfl, hB4.cell 1 _ rfl, hB4.cell 2 _ rfl, hB4.cell 3 _ rfl, hW4.row.cell 4 _ rfl⟩) (fun hHd2 => ?_)
    clear hK K
    try simp only [Act.put, List.getElem_toArray, List.getElem_cons_zero, List.getElem_cons_succ, List.setIfInBounds_toArray, List.set_cons_zero, List.set_cons_succ]
    refine wpAnyH_ready (rs := [12]) (by kernel_rfl) (by simp) ?_
    refine AllReadyH.cons rfl (fun K hK => ?_) AllReadyH.nil
    refine step_call (by rfl) 104 #[rootV t hh f l, .int .i64 wd] (by go_simp) (HRP.out _) ?_
    rintro e w5 ⟨rfl, hb5⟩
    refine ⟨_, rfl, ?_⟩
    have hb5' : Below wb.heap.size wb w5 := hb4'.trans (hb5.mono hb4'.size)
    have hW5 := hWb.below hb5'
    have hB5 := hBb.below hb5'
    have q05 := hW5.row.cell 0 _ rfl
    have lg5 := hW5.row.lt
    have hWa := hW5.below ((Below.refl _ _).alloc (Nat.le_refl _) (.cells #[.bool false, .int .i64 (t % 2), .string rp] 75))
    have hBa := hB5.alloc (.cells #[.bool false, .int .i64 (t % 2), .string rp] 75)
    refine hK.out _ _ (⟨hB5.cell 0 _ rfl, hB5.cell 1 _ rfl, hB5.cell 2 _ rfl, hB5.cell 3 _ rfl, hW5.row.cell 4 _ rfl⟩) (fun hHd3 => ?_)
    clear hK K
    try simp only [Act.put, List.getElem_toArray, List.getElem_cons_zero, List.getElem_cons_succ, List.setIfInBounds_toArray, List.set_cons_zero, List.set_cons_succ]
    refine wpAnyH_take (i := 13) (v := .agg #[.bool false, .int .i64 (t % 2), .string rp]) rfl (by kernel_rfl) (by kernel_rfl) (by kernel_rfl) (fun _ _ _ h => h) (Or.inl ⟨by rfl, fun w hw => by obtain ⟨z0, z1, z2, z3, z4⟩ := hw; go_simp⟩) hHd3 ?_
    simp only [Act.put, List.getElem_toArray, List.getElem_cons_zero, List.getElem_cons_succ, List.setIfInBounds_toArray, List.set_cons_zero, List.set_cons_succ]
    refine wpAnyH_ready (rs := [14]) (by kernel_rfl) (by simp) ?_
    refine AllReadyH.cons rfl (fun K hK => ?_) AllReadyH.nil
    go_simp
    refine hK.out _ _ (⟨hBa.cell 0 _ rfl, hBa.cell 1 _ rfl, hBa.cell 2 _ rfl, hBa.cell 3 _ rfl, hWa.row.cell 4 _ rfl⟩) (fun hHd4 => ?_)
    clear hK K
    try simp only [Act.put, List.getElem_toArray, List.getElem_cons_zero, List.getElem_cons_succ, List.setIfInBounds_toArray, List.set_cons_zero, List.set_cons_succ]
    refine wpAnyH_ready (rs := [15]) (by kernel_rfl) (by simp) ?_
    refine AllReadyH.cons rfl (fun K hK => ?_) AllReadyH.nil
    refine step_append_lies _ (by rfl) _ _ _ (by rfl) base 75 i0 (.agg #[.bool false, .int .i64 0, .string ByteArray.empty]) 3 32 Tryz.underlying36 HI.out.1 HI.out.2.1 HI.out.2.2.1 HI.out.2.2.2 rfl (by omega) (.slice va os.length vc) os.length _ (by rfl) hWa.own ⟨w5.heap.size, 0, none⟩ 1 1 [.bool false, .int .i64 (t % 2), .string rp] (by rfl) rfl (World.news_of_block (heap_alloc_new w5 _)) (oneOp _ _ _) (by omega) (by unfold maxLen; omega) (by omega) (by have := hb5'.size; simp <;> omega) (w5.heap.size + 1) (by simp) ?_
    intro g9 cap9 w9 hown9 hgrow9 hat9 hlt9
    have hend := wrt_push (W := w) (x := (false, t % 2, rp)) hW5 (by have := hb5'.size; omega) ((hbb.mono hb).trans (hb5'.mono (by omega))) hown9 hgrow9 hat9
    have hB9 := hBa.grown hgrow9 (fun e => by have := (h.own.lt w.heap.size e.symm).2; omega)
    have HEND := hid hend
    have q9 := hend.1.cell 0 _ rfl
    have q94 := hend.1.cell 4 _ rfl
    have r9 := hend.1.froz 0 (by simp)
    have lg9 := hend.1.lt
    have hBn : w.heap.size ≠ g := by omega
    clear hown9 hgrow9 hat9 hend
    refine hK.out _ _ (⟨hB9.cell 0 _ rfl, hB9.cell 1 _ rfl, hB9.cell 2 _ rfl, hB9.cell 3 _ rfl, q94⟩) (fun hHd5 => ?_)
    clear hK K
    try simp only [Act.put, List.getElem_toArray, List.getElem_cons_zero, List.getElem_cons_succ, List.setIfInBounds_toArray, List.set_cons_zero, List.set_cons_succ]
    refine wpAnyH_take (i := 16) (v := .pointer (some ⟨g, 0, none⟩)) rfl (by kernel_rfl) (by kernel_rfl) (by kernel_rfl) (fun _ _ _ h => h) (Or.inl ⟨by rfl, fun w hw => by obtain ⟨z0, z1, z2, z3, z4⟩ := hw; go_simp⟩) hHd5 ?_
    simp only [Act.put, List.getElem_toArray, List.getElem_cons_zero, List.getElem_cons_succ, List.setIfInBounds_toArray, List.set_cons_zero, List.set_cons_succ]
    refine wpAnyH_take (i := 17) (v := .pointer (some ⟨g, 0, none⟩)) rfl (by kernel_rfl) (by kernel_rfl) (by kernel_rfl) (fun _ _ _ h => h) (Or.inl ⟨by rfl, fun w hw => by obtain ⟨z0, z1, z2, z3, z4⟩ := hw; go_simp⟩) hHd5 ?_
    simp only [Act.put, List.getElem_toArray, List.getElem_cons_zero, List.getElem_cons_succ, List.setIfInBounds_toArray, List.set_cons_zero, List.set_cons_succ]
    refine wpAnyH_ready (rs := [18]) (by kernel_rfl) (by simp) ?_
    refine AllReadyH.cons rfl (fun K hK => ?_) AllReadyH.nil
    go_simp
    have hBs := hB9.other ⟨g, 0, none⟩ (by show g ≠ w.heap.size; omega) (.slice (some ⟨g9, 0, none⟩) (os.length + 1) cap9)
    refine hK.out _ _ (⟨hBs.cell 0 _ rfl, hBs.cell 1 _ rfl, hBs.cell 2 _ rfl, hBs.cell 3 _ rfl, HEND.out.2.1.row.cell 4 _ rfl⟩) (fun hHd6 => ?_)
    clear hK K
    try simp only [Act.put, List.getElem_toArray, List.getElem_cons_zero, List.getElem_cons_succ, List.setIfInBounds_toArray, List.set_cons_zero, List.set_cons_succ]
    refine wpAnyH_done (by kernel_rfl) ?_ _
    go_end0
    exact ⟨⟨_, rfl⟩, ⟨_, HEND.out.2.1⟩, HEND.out.2.2.2⟩
  · refine step_call (by rfl) 103 #[rootV t hh f l] (by go_simp) (sector_i t hh f l ht _) ?_
    rintro e w4 ⟨rfl, hb4⟩
    refine ⟨_, rfl, ?_⟩
    have hb4' : Below wb.heap.size wb w4 := (Below.refl _ _).drew.trans hb4
    have hW4 := hWb.below hb4'
    have hB4 := hBb.below hb4'
    have q04 := hW4.row.cell 0 _ rfl
    refine hK.out _ _ (⟨hB4.cell 0 _ rfl, hB4.cell 1 _ rfl, hB4.cell 2 _ rfl, hB4.cell 3 _ rfl, hW4.row.cell 4 _ rfl⟩) (fun hHd7 => ?_)
    clear hK K
    try simp only [Act.put, List.getElem_toArray, List.getElem_cons_zero, List.getElem_cons_succ, List.setIfInBounds_toArray, List.set_cons_zero, List.set_cons_succ]
    refine wpAnyH_ready (rs := [4, 12]) (by kernel_rfl) (by simp) ?_
    refine AllReadyH.cons rfl (fun K hK => ?_) (AllReadyH.cons rfl (fun K hK => ?_) AllReadyH.nil)
    · go_simp
      refine hK.out _ _ hHd7 (fun _ => ?_)
      clear hK K
      try simp only [Act.put, List.getElem_toArray, List.getElem_cons_zero, List.getElem_cons_succ, List.setIfInBounds_toArray, List.set_cons_zero, List.set_cons_succ]
      refine wpAnyH_ready (rs := [12]) (by kernel_rfl) (by simp) ?_
      refine AllReadyH.cons rfl (fun K hK => ?_) AllReadyH.nil
      refine step_call (by rfl) 104 #[rootV t hh f l, .int .i64 wd] (by go_simp) (HRP.out _) ?_
      rintro e w5 ⟨rfl, hb5⟩
      refine ⟨_, rfl, ?_⟩
      have hb5' : Below wb.heap.size wb w5 := hb4'.trans (hb5.mono hb4'.size)
      have hW5 := hWb.below hb5'
      have hB5 := hBb.below hb5'
      have q05 := hW5.row.cell 0 _ rfl
      have lg5 := hW5.row.lt
      have hWa := hW5.below ((Below.refl _ _).alloc (Nat.le_refl _) (.cells #[.bool false, .int .i64 (t % 2), .string rp] 75))
      have hBa := hB5.alloc (.cells #[.bool false, .int .i64 (t % 2), .string rp] 75)
      refine hK.out _ _ (⟨hB5.cell 0 _ rfl, hB5.cell 1 _ rfl, hB5.cell 2 _ rfl, hB5.cell 3 _ rfl, hW5.row.cell 4 _ rfl⟩) (fun hHd9 => ?_)
      clear hK K
      try simp only [Act.put, List.getElem_toArray, List.getElem_cons_zero, List.getElem_cons_succ, List.setIfInBounds_toArray, List.set_cons_zero, List.set_cons_succ]
      refine wpAnyH_take (i := 13) (v := .agg #[.bool false, .int .i64 (t % 2), .string rp]) rfl (by kernel_rfl) (by kernel_rfl) (by kernel_rfl) (fun _ _ _ h => h) (Or.inl ⟨by rfl, fun w hw => by obtain ⟨z0, z1, z2, z3, z4⟩ := hw; go_simp⟩) hHd9 ?_
      simp only [Act.put, List.getElem_toArray, List.getElem_cons_zero, List.getElem_cons_succ, List.setIfInBounds_toArray, List.set_cons_zero, List.set_cons_succ]
      refine wpAnyH_ready (rs := [14]) (by kernel_rfl) (by simp) ?_
      refine AllReadyH.cons rfl (fun K hK => ?_) AllReadyH.nil
      go_simp
      refine hK.out _ _ (⟨hBa.cell 0 _ rfl, hBa.cell 1 _ rfl, hBa.cell 2 _ rfl, hBa.cell 3 _ rfl, hWa.row.cell 4 _ rfl⟩) (fun hHd10 => ?_)
      clear hK K
      try simp only [Act.put, List.getElem_toArray, List.getElem_cons_zero, List.getElem_cons_succ, List.setIfInBounds_toArray, List.set_cons_zero, List.set_cons_succ]
      refine wpAnyH_ready (rs := [15]) (by kernel_rfl) (by simp) ?_
      refine AllReadyH.cons rfl (fun K hK => ?_) AllReadyH.nil
      refine step_append_lies _ (by rfl) _ _ _ (by rfl) base 75 i0 (.agg #[.bool false, .int .i64 0, .string ByteArray.empty]) 3 32 Tryz.underlying36 HI.out.1 HI.out.2.1 HI.out.2.2.1 HI.out.2.2.2 rfl (by omega) (.slice va os.length vc) os.length _ (by rfl) hWa.own ⟨w5.heap.size, 0, none⟩ 1 1 [.bool false, .int .i64 (t % 2), .string rp] (by rfl) rfl (World.news_of_block (heap_alloc_new w5 _)) (oneOp _ _ _) (by omega) (by unfold maxLen; omega) (by omega) (by have := hb5'.size; simp <;> omega) (w5.heap.size + 1) (by simp) ?_
      intro g9 cap9 w9 hown9 hgrow9 hat9 hlt9
      have hend := wrt_push (W := w) (x := (false, t % 2, rp)) hW5 (by have := hb5'.size; omega) ((hbb.mono hb).trans (hb5'.mono (by omega))) hown9 hgrow9 hat9
      have hB9 := hBa.grown hgrow9 (fun e => by have := (h.own.lt w.heap.size e.symm).2; omega)
      have HEND := hid hend
      have q9 := hend.1.cell 0 _ rfl
      have q94 := hend.1.cell 4 _ rfl
      have r9 := hend.1.froz 0 (by simp)
      have lg9 := hend.1.lt
      have hBn : w.heap.size ≠ g := by omega
      clear hown9 hgrow9 hat9 hend
      refine hK.out _ _ (⟨hB9.cell 0 _ rfl, hB9.cell 1 _ rfl, hB9.cell 2 _ rfl, hB9.cell 3 _ rfl, q94⟩) (fun hHd11 => ?_)
      clear hK K
      try simp only [Act.put, List.getElem_toArray, List.getElem_cons_zero, List.getElem_cons_succ, List.setIfInBounds_toArray, List.set_cons_zero, List.set_cons_succ]
      refine wpAnyH_take (i := 16) (v := .pointer (some ⟨g, 0, none⟩)) rfl (by kernel_rfl) (by kernel_rfl) (by kernel_rfl) (fun _ _ _ h => h) (Or.inl ⟨by rfl, fun w hw => by obtain ⟨z0, z1, z2, z3, z4⟩ := hw; go_simp⟩) hHd11 ?_
      simp only [Act.put, List.getElem_toArray, List.getElem_cons_zero, List.getElem_cons_succ, List.setIfInBounds_toArray, List.set_cons_zero, List.set_cons_succ]
      refine wpAnyH_take (i := 17) (v := .pointer (some ⟨g, 0, none⟩)) rfl (by kernel_rfl) (by kernel_rfl) (by kernel_rfl) (fun _ _ _ h => h) (Or.inl ⟨by rfl, fun w hw => by obtain ⟨z0, z1, z2, z3, z4⟩ := hw; go_simp⟩) hHd11 ?_
      simp only [Act.put, List.getElem_toArray, List.getElem_cons_zero, List.getElem_cons_succ, List.setIfInBounds_toArray, List.set_cons_zero, List.set_cons_succ]
      refine wpAnyH_ready (rs := [18]) (by kernel_rfl) (by simp) ?_
      refine AllReadyH.cons rfl (fun K hK => ?_) AllReadyH.nil
      go_simp
      have hBs := hB9.other ⟨g, 0, none⟩ (by show g ≠ w.heap.size; omega) (.slice (some ⟨g9, 0, none⟩) (os.length + 1) cap9)
      refine hK.out _ _ (⟨hBs.cell 0 _ rfl, hBs.cell 1 _ rfl, hBs.cell 2 _ rfl, hBs.cell 3 _ rfl, HEND.out.2.1.row.cell 4 _ rfl⟩) (fun hHd12 => ?_)
      clear hK K
      try simp only [Act.put, List.getElem_toArray, List.getElem_cons_zero, List.getElem_cons_succ, List.setIfInBounds_toArray, List.set_cons_zero, List.set_cons_succ]
      refine wpAnyH_done (by kernel_rfl) ?_ _
      go_end0
      exact ⟨⟨_, rfl⟩, ⟨_, HEND.out.2.1⟩, HEND.out.2.2.2⟩
    · refine step_call (by rfl) 104 #[rootV t hh f l, .int .i64 wd] (by go_simp) (HRP.out _) ?_
      rintro e w5 ⟨rfl, hb5⟩
      refine ⟨_, rfl, ?_⟩
      have hb5' : Below wb.heap.size wb w5 := hb4'.trans (hb5.mono hb4'.size)
      have hW5 := hWb.below hb5'
      have hB5 := hBb.below hb5'
      have q05 := hW5.row.cell 0 _ rfl
      have lg5 := hW5.row.lt
      have hWa := hW5.below ((Below.refl _ _).alloc (Nat.le_refl _) (.cells #[.bool false, .int .i64 (t % 2), .string rp] 75))
      have hBa := hB5.alloc (.cells #[.bool false, .int .i64 (t % 2), .string rp] 75)
      refine hK.out _ _ (⟨hB5.cell 0 _ rfl, hB5.cell 1 _ rfl, hB5.cell 2 _ rfl, hB5.cell 3 _ rfl, hW5.row.cell 4 _ rfl⟩) (fun hHd13 => ?_)
      clear hK K
      try simp only [Act.put, List.getElem_toArray, List.getElem_cons_zero, List.getElem_cons_succ, List.setIfInBounds_toArray, List.set_cons_zero, List.set_cons_succ]
      refine wpAnyH_take (i := 13) (v := .agg #[.bool false, .int .i64 (t % 2), .string rp]) rfl (by kernel_rfl) (by kernel_rfl) (by kernel_rfl) (fun _ _ _ h => h) (Or.inl ⟨by rfl, fun w hw => by obtain ⟨z0, z1, z2, z3, z4⟩ := hw; go_simp⟩) hHd13 ?_
      simp only [Act.put, List.getElem_toArray, List.getElem_cons_zero, List.getElem_cons_succ, List.setIfInBounds_toArray, List.set_cons_zero, List.set_cons_succ]
      refine wpAnyH_ready (rs := [4, 14]) (by kernel_rfl) (by simp) ?_
      refine AllReadyH.cons rfl (fun K hK => ?_) (AllReadyH.cons rfl (fun K hK => ?_) AllReadyH.nil)
      · go_simp
        refine hK.out _ _ hHd13 (fun _ => ?_)
        clear hK K
        try simp only [Act.put, List.getElem_toArray, List.getElem_cons_zero, List.getElem_cons_succ, List.setIfInBounds_toArray, List.set_cons_zero, List.set_cons_succ]
        refine wpAnyH_ready (rs := [14]) (by kernel_rfl) (by simp) ?_
        refine AllReadyH.cons rfl (fun K hK => ?_) AllReadyH.nil
        go_simp
        refine hK.out _ _ (⟨hBa.cell 0 _ rfl, hBa.cell 1 _ rfl, hBa.cell 2 _ rfl, hBa.cell 3 _ rfl, hWa.row.cell 4 _ rfl⟩) (fun hHd15 => ?_)
        clear hK K
        try simp only [Act.put, List.getElem_toArray, List.getElem_cons_zero, List.getElem_cons_succ, List.setIfInBounds_toArray, List.set_cons_zero, List.set_cons_succ]
        refine wpAnyH_ready (rs := [15]) (by kernel_rfl) (by simp) ?_
        refine AllReadyH.cons rfl (fun K hK => ?_) AllReadyH.nil
        refine step_append_lies _ (by rfl) _ _ _ (by rfl) base 75 i0 (.agg #[.bool false, .int .i64 0, .string ByteArray.empty]) 3 32 Tryz.underlying36 HI.out.1 HI.out.2.1 HI.out.2.2.1 HI.out.2.2.2 rfl (by omega) (.slice va os.length vc) os.length _ (by rfl) hWa.own ⟨w5.heap.size, 0, none⟩ 1 1 [.bool false, .int .i64 (t % 2), .string rp] (by rfl) rfl (World.news_of_block (heap_alloc_new w5 _)) (oneOp _ _ _) (by omega) (by unfold maxLen; omega) (by omega) (by have := hb5'.size; simp <;> omega) (w5.heap.size + 1) (by simp) ?_
        intro g9 cap9 w9 hown9 hgrow9 hat9 hlt9
        have hend := wrt_push (W := w) (x := (false, t % 2, rp)) hW5 (by have := hb5'.size; omega) ((hbb.mono hb).trans (hb5'.mono (by omega))) hown9 hgrow9 hat9
        have hB9 := hBa.grown hgrow9 (fun e => by have := (h.own.lt w.heap.size e.symm).2; omega)
        have HEND := hid hend
        have q9 := hend.1.cell 0 _ rfl
        have q94 := hend.1.cell 4 _ rfl
        have r9 := hend.1.froz 0 (by simp)
        have lg9 := hend.1.lt
        have hBn : w.heap.size ≠ g := by omega
        clear hown9 hgrow9 hat9 hend
        refine hK.out _ _ (⟨hB9.cell 0 _ rfl, hB9.cell 1 _ rfl, hB9.cell 2 _ rfl, hB9.cell 3 _ rfl, q94⟩) (fun hHd16 => ?_)
        clear hK K
        try simp only [Act.put, List.getElem_toArray, List.getElem_cons_zero, List.getElem_cons_succ, List.setIfInBounds_toArray, List.set_cons_zero, List.set_cons_succ]
        refine wpAnyH_take (i := 16) (v := .pointer (some ⟨g, 0, none⟩)) rfl (by kernel_rfl) (by kernel_rfl) (by kernel_rfl) (fun _ _ _ h => h) (Or.inl ⟨by rfl, fun w hw => by obtain ⟨z0, z1, z2, z3, z4⟩ := hw; go_simp⟩) hHd16 ?_
        simp only [Act.put, List.getElem_toArray, List.getElem_cons_zero, List.getElem_cons_succ, List.setIfInBounds_toArray, List.set_cons_zero, List.set_cons_succ]
        refine wpAnyH_take (i := 17) (v := .pointer (some ⟨g, 0, none⟩)) rfl (by kernel_rfl) (by kernel_rfl) (by kernel_rfl) (fun _ _ _ h => h) (Or.inl ⟨by rfl, fun w hw => by obtain ⟨z0, z1, z2, z3, z4⟩ := hw; go_simp⟩) hHd16 ?_
        simp only [Act.put, List.getElem_toArray, List.getElem_cons_zero, List.getElem_cons_succ, List.setIfInBounds_toArray, List.set_cons_zero, List.set_cons_succ]
        refine wpAnyH_ready (rs := [18]) (by kernel_rfl) (by simp) ?_
        refine AllReadyH.cons rfl (fun K hK => ?_) AllReadyH.nil
        go_simp
        have hBs := hB9.other ⟨g, 0, none⟩ (by show g ≠ w.heap.size; omega) (.slice (some ⟨g9, 0, none⟩) (os.length + 1) cap9)
        refine hK.out _ _ (⟨hBs.cell 0 _ rfl, hBs.cell 1 _ rfl, hBs.cell 2 _ rfl, hBs.cell 3 _ rfl, HEND.out.2.1.row.cell 4 _ rfl⟩) (fun hHd17 => ?_)
        clear hK K
        try simp only [Act.put, List.getElem_toArray, List.getElem_cons_zero, List.getElem_cons_succ, List.setIfInBounds_toArray, List.set_cons_zero, List.set_cons_succ]
        refine wpAnyH_done (by kernel_rfl) ?_ _
        go_end0
        exact ⟨⟨_, rfl⟩, ⟨_, HEND.out.2.1⟩, HEND.out.2.2.2⟩
      · go_simp
        refine hK.out _ _ (⟨hBa.cell 0 _ rfl, hBa.cell 1 _ rfl, hBa.cell 2 _ rfl, hBa.cell 3 _ rfl, hWa.row.cell 4 _ rfl⟩) (fun hHd18 => ?_)
        clear hK K
        try simp only [Act.put, List.getElem_toArray, List.getElem_cons_zero, List.getElem_cons_succ, List.setIfInBounds_toArray, List.set_cons_zero, List.set_cons_succ]
        refine wpAnyH_ready (rs := [4]) (by kernel_rfl) (by simp) ?_
        refine AllReadyH.cons rfl (fun K hK => ?_) AllReadyH.nil
        go_simp
        refine hK.out _ _ hHd18 (fun _ => ?_)
        clear hK K
        try simp only [Act.put, List.getElem_toArray, List.getElem_cons_zero, List.getElem_cons_succ, List.setIfInBounds_toArray, List.set_cons_zero, List.set_cons_succ]
        refine wpAnyH_ready (rs := [15]) (by kernel_rfl) (by simp) ?_
        refine AllReadyH.cons rfl (fun K hK => ?_) AllReadyH.nil
        refine step_append_lies _ (by rfl) _ _ _ (by rfl) base 75 i0 (.agg #[.bool false, .int .i64 0, .string ByteArray.empty]) 3 32 Tryz.underlying36 HI.out.1 HI.out.2.1 HI.out.2.2.1 HI.out.2.2.2 rfl (by omega) (.slice va os.length vc) os.length _ (by rfl) hWa.own ⟨w5.heap.size, 0, none⟩ 1 1 [.bool false, .int .i64 (t % 2), .string rp] (by rfl) rfl (World.news_of_block (heap_alloc_new w5 _)) (oneOp _ _ _) (by omega) (by unfold maxLen; omega) (by omega) (by have := hb5'.size; simp <;> omega) (w5.heap.size + 1) (by simp) ?_
        intro g9 cap9 w9 hown9 hgrow9 hat9 hlt9
        have hend := wrt_push (W := w) (x := (false, t % 2, rp)) hW5 (by have := hb5'.size; omega) ((hbb.mono hb).trans (hb5'.mono (by omega))) hown9 hgrow9 hat9
        have hB9 := hBa.grown hgrow9 (fun e => by have := (h.own.lt w.heap.size e.symm).2; omega)
        have HEND := hid hend
        have q9 := hend.1.cell 0 _ rfl
        have q94 := hend.1.cell 4 _ rfl
        have r9 := hend.1.froz 0 (by simp)
        have lg9 := hend.1.lt
        have hBn : w.heap.size ≠ g := by omega
        clear hown9 hgrow9 hat9 hend
        refine hK.out _ _ (⟨hB9.cell 0 _ rfl, hB9.cell 1 _ rfl, hB9.cell 2 _ rfl, hB9.cell 3 _ rfl, q94⟩) (fun hHd20 => ?_)
        clear hK K
        try simp only [Act.put, List.getElem_toArray, List.getElem_cons_zero, List.getElem_cons_succ, List.setIfInBounds_toArray, List.set_cons_zero, List.set_cons_succ]
        refine wpAnyH_take (i := 16) (v := .pointer (some ⟨g, 0, none⟩)) rfl (by kernel_rfl) (by kernel_rfl) (by kernel_rfl) (fun _ _ _ h => h) (Or.inl ⟨by rfl, fun w hw => by obtain ⟨z0, z1, z2, z3, z4⟩ := hw; go_simp⟩) hHd20 ?_
        simp only [Act.put, List.getElem_toArray, List.getElem_cons_zero, List.getElem_cons_succ, List.setIfInBounds_toArray, List.set_cons_zero, List.set_cons_succ]
        refine wpAnyH_take (i := 17) (v := .pointer (some ⟨g, 0, none⟩)) rfl (by kernel_rfl) (by kernel_rfl) (by kernel_rfl) (fun _ _ _ h => h) (Or.inl ⟨by rfl, fun w hw => by obtain ⟨z0, z1, z2, z3, z4⟩ := hw; go_simp⟩) hHd20 ?_
        simp only [Act.put, List.getElem_toArray, List.getElem_cons_zero, List.getElem_cons_succ, List.setIfInBounds_toArray, List.set_cons_zero, List.set_cons_succ]
        refine wpAnyH_ready (rs := [18]) (by kernel_rfl) (by simp) ?_
        refine AllReadyH.cons rfl (fun K hK => ?_) AllReadyH.nil
        go_simp
        have hBs := hB9.other ⟨g, 0, none⟩ (by show g ≠ w.heap.size; omega) (.slice (some ⟨g9, 0, none⟩) (os.length + 1) cap9)
        refine hK.out _ _ (⟨hBs.cell 0 _ rfl, hBs.cell 1 _ rfl, hBs.cell 2 _ rfl, hBs.cell 3 _ rfl, HEND.out.2.1.row.cell 4 _ rfl⟩) (fun hHd21 => ?_)
        clear hK K
        try simp only [Act.put, List.getElem_toArray, List.getElem_cons_zero, List.getElem_cons_succ, List.setIfInBounds_toArray, List.set_cons_zero, List.set_cons_succ]
        refine wpAnyH_done (by kernel_rfl) ?_ _
        go_end0
        exact ⟨⟨_, rfl⟩, ⟨_, HEND.out.2.1⟩, HEND.out.2.2.2⟩
theorem mover_i (base g : Nat) (v : Value) (os : List OpT) (at_ nm lf wd : Int) (w : World) (h : Wrt w base g v os at_ nm lf wd) (hb : base ≤ w.heap.size) (hl : os.length ≤ 1000) (ha0 : 0 ≤ at_) (ha1 : at_ ≤ 100000) (hn0 : 0 ≤ nm) (hn1 : nm ≤ 2000000000) :
    Calls Tryz.prog 70 #[.pointer (some ⟨g, 0, none⟩)] w fun e w' => e = .returned (.func (.func 101) #[] #[.pointer (some ⟨w.heap.size, 0, none⟩)]) ∧ Row w' w.heap.size [.pointer (some ⟨g, 0, none⟩)] ∧ (∃ v', Wrt w' base g v' (os ++ [(false, at_, formOf 3 lf nm ByteArray.empty wd)]) (at_ + 1) (nm + 1) lf wd ∧ ∀ k, v'.ownBlock = some k → k ≠ w.heap.size) ∧ Below base w w' := by
  have hmf : ∀ (fn : Fn) (first cap : Array Value) (w : World), (Instr.makeFunc fn first cap).run Tryz.prog w = .ok (.func fn first cap) w := fun _ _ _ _ => rfl
  have hbb : ∀ o, Below w.heap.size w (w.alloc o) := fun o => (Below.refl _ _).alloc (Nat.le_refl _) _
  have HN := hid (newlife_i base g v os at_ nm lf wd _ (h.below (hbb (.cells #[.pointer (some ⟨g, 0, none⟩)] 83))) (Nat.le_trans hb (hbb _).size) hl ha0 ha1 hn0 hn1)
  go_enter Tryz.func70, Tryz.ntmps70
  go_wp2_with (go_at_call 100; refine HN.out.mono ?_; rintro e w1 ⟨⟨x, rfl⟩, v', hW, hb1, hwk⟩)
  go_ret
  have lg := h.row.lt
  refine ⟨rfl, (row_new w #[.pointer (some ⟨g, 0, none⟩)] 83).wk hwk (by omega) (fun e => by have := (h.own.lt w.heap.size e.symm).2; omega), ⟨v', hW, fun k hk e => ?_⟩, ((hbb _).mono hb).trans hb1⟩
  subst e
  rcases hwk.own _ hk with h1 | h1
  · have := (h.own.lt _ h1).2; omega
  · rw [World.size_alloc] at h1; omega
  
set_option maxHeartbeats 16000000 in
theorem take_i (base g B : Nat) (v : Value) (os : List OpT) (at_ nm lf : Int) (n m : Nat) (p : Option Addr) (b : List Ch) (cc : Nat) (w : World) (h : Wrt w base g v os at_ nm lf (n : Int)) (hB : Row w B [.pointer (some ⟨g, 0, none⟩)]) (hBg : B ≠ g) (hBo : some B ≠ v.ownBlock) (hch : Chs w p b) (hbl : b.length ≤ 1048576) (hbs : ∀ x ∈ b, x.1.size ≤ 1048576 ∧ x.2.1.size ≤ 1048576) (hb : base ≤ w.heap.size) (hl : os.length + (cutAll (bOut b) lf nm n m).length ≤ 1000) (hm : n + m = 56) (hn1 : 1 ≤ n) (hn8 : n ≤ 8) (ha0 : 0 ≤ at_) (ha1 : at_ ≤ 10000) (hm0 : 0 ≤ nm) (hm1 : nm ≤ 1900000000) :
    Calls Tryz.prog 101 #[.slice p b.length cc, .pointer (some ⟨B, 0, none⟩)] w fun e w' => (∃ x, e = .returned x) ∧ ∃ v', Wrt w' base g v' (os ++ putOps at_ (cutAll (bOut b) lf nm n m)) (at_ + ((cutAll (bOut b) lf nm n m).length : Int)) (nm + ((cutAll (bOut b) lf nm n m).length : Int)) lf (n : Int) ∧ Below base w w' ∧ WK g w v w' v' := by
  have HF := hid (fun W (hW : Chs W p b) => formbatch_i p b cc W hW hbl hbs)
  have hO := bOut_bound b
  go_enter Tryz.func101, Tryz.ntmps101
  go_wp2_with fail
  refine wp_region_held_drew (S := fun w' => w'.cell? ⟨B, 0, none⟩ = some (.pointer (some ⟨g, 0, none⟩))) (by kernel_rfl) (hB.drew.cell 0 _ rfl) (fun hHeld => ?_)
  refine wpAnyH_take (i := 0) (v := .pointer (some ⟨g, 0, none⟩)) rfl (by kernel_rfl) (by kernel_rfl) (by kernel_rfl) (fun _ _ _ h => h) (Or.inl ⟨by rfl, fun w hw => by obtain z0 := hw; go_simp⟩) hHeld ?_
  simp only [Act.put, List.getElem_toArray, List.getElem_cons_zero, List.getElem_cons_succ, List.setIfInBounds_toArray, List.set_cons_zero, List.set_cons_succ]
  refine wpAnyH_take (i := 1) (v := .slice p b.length cc) rfl (by kernel_rfl) (by kernel_rfl) (by kernel_rfl) (fun _ _ _ h => h) (Or.inl ⟨by rfl, fun w hw => by obtain z0 := hw; go_simp⟩) hHeld ?_
  simp only [Act.put, List.getElem_toArray, List.getElem_cons_zero, List.getElem_cons_succ, List.setIfInBounds_toArray, List.set_cons_zero, List.set_cons_succ]
  refine wpAnyH_ready (rs := [2]) (by kernel_rfl) (by simp) ?_
  refine AllReadyH.cons rfl (fun K hK => ?_) AllReadyH.nil
  refine step_call (by rfl) 47 #[.slice p b.length cc] (by go_simp) (HF.out _ (hch.below (Below.refl _ _).drew)) ?_
  rintro e w4 ⟨rfl, hb4⟩
  refine ⟨_, rfl, ?_⟩
  have hb4' : Below w.heap.size w w4 := (Below.refl _ _).drew.trans hb4
  have hB4 := hB.below hb4'
  refine hK.out _ _ (hB4.cell 0 _ rfl) (fun hHd1 => ?_)
  clear hK K
  try simp only [Act.put, List.getElem_toArray, List.getElem_cons_zero, List.getElem_cons_succ, List.setIfInBounds_toArray, List.set_cons_zero, List.set_cons_succ]
  refine wpAnyH_ready (rs := [3]) (by kernel_rfl) (by simp) ?_
  refine AllReadyH.cons rfl (fun K hK => ?_) AllReadyH.nil
  refine step_call (by rfl) 52 #[.pointer (some ⟨g, 0, none⟩), .string (bOut b)] (by go_simp) (entry_i base g v os at_ nm lf n m _ _ (h.below hb4') (Nat.le_trans hb hb4'.size) (by omega) hl hm hn1 hn8 ha0 ha1 hm0 hm1) ?_
  rintro e w5 ⟨⟨x, rfl⟩, v', hW5, hb5, hwk5⟩
  refine ⟨_, rfl, ?_⟩
  have hB5 := hB4.wk hwk5 hBg hBo
  refine hK.out _ _ (hB5.cell 0 _ rfl) (fun hHd2 => ?_)
  clear hK K
  try simp only [Act.put, List.getElem_toArray, List.getElem_cons_zero, List.getElem_cons_succ, List.setIfInBounds_toArray, List.set_cons_zero, List.set_cons_succ]
  refine wpAnyH_done (by kernel_rfl) ?_ _
  go_end0
  exact ⟨⟨_, rfl⟩, v', hW5, (hb4'.mono hb).trans hb5, (⟨hb4'.size, fun _ h => .inl h, fun b hb _ _ => hb4'.block b hb⟩ : WK g w v w4 v).trans hwk5⟩
end Go.Proofs.YtnmaknnnmjfhkafGreat

namespace Go.Proofs.YtnmaknnnmjfhkafGreat
open Go.RowKit
set_option linter.unusedVariables false
set_option linter.unusedSimpArgs false
set_option maxRecDepth 8000

theorem owns_span {w w' : World} {base : Nat} {e : TypeId} {s : Nat} {v : Value} {n : Nat} {xs : List Value} (h : w.ownsRow base e s v n xs) (hk : ∀ b, base ≤ b → b < w.heap.size → w'.heap[b]? = w.heap[b]?) : w'.ownsRow base e s v n xs := by
  refine ⟨h.1, ?_⟩
  rcases h.2 with hn | ⟨g, cap, cur, rfl, hb, hgg, rest⟩
  · exact .inl hn
  · exact .inr ⟨g, cap, cur, rfl, hb, (hk g hb (Array.getElem?_eq_some_iff.1 hgg).1).trans hgg, rest⟩
theorem Bat.span {w w' : World} {base : Nat} {v : Value} {bss : List (List Ch)} (h : Bat w base v bss) (hk : ∀ b, base ≤ b → b < w.heap.size → w'.heap[b]? = w.heap[b]?) : Bat w' base v bss := by
  obtain ⟨vs, h1, h2, h3⟩ := h
  exact ⟨vs, owns_span h1 hk, fun i hi => owns_span (h2 i hi) hk, h3⟩
theorem putOps_append (q : Int) (l r : List ByteArray) : putOps q (l ++ r) = putOps q l ++ putOps (q + (l.length : Int)) r := by
  unfold putOps
  rw [List.mapIdx_append]
  congr 1
  apply List.ext_getElem
  · simp
  · intro i h1 h2
    simp
    omega
theorem Row.below2 {w w' : World} {N g : Nat} {cs : List Value} (h : Row w g cs) (hg : g < N) (hb : Below N w w') : Row w' g cs :=
  ⟨Nat.lt_of_lt_of_le h.lt hb.size, fun i v hv => (hb.cell (p := ⟨g, i, none⟩) hg).trans (h.cell i v hv), fun i hi => (hb.frozen (p := ⟨g, i, none⟩) hg).trans (h.froz i hi)⟩
/-- What the program's move gives: the state's pairs are those that came in. -/
def MvPost (w w' : World) (x : Ending) (d : Dd) (a : Option Addr) (c : Nat) : Prop := ∃ b e, x = .returned (dnV d a c b e) ∧ OwnS w' b (opcells d.ops) ∧ (∀ g, blk b d.ops.length = some g → w.heap.size ≤ g) ∧ Below w.heap.size w w'

set_option maxHeartbeats 16000000 in
theorem move_i_ok (S L T H F R U O : Int) (n m : Nat) (a : Option Addr) (rs : List Pr) (c : Nat) (w : World) (h : Prs w a rs) (hc : rs.length ≤ c) (hl : rs.length ≤ 1048576) (hs : ∀ x ∈ rs, x.1.size ≤ 1048576 ∧ x.2.size ≤ 1048576) (hm : n + m = 56) (hn1 : 1 ≤ n) (hn8 : n ≤ 8) (hok : mvOk (n : Int) S L T H F rs) (hfit : T + 1 ≤ 1000000000 ∧ F + hv S ≤ 999999000) :
    Calls Tryz.prog 27 #[storeV (n : Int) S L T H F R U O a rs.length c] w fun x w' => MvPost w w' x (mvD (n : Int) S L T H F rs) a c := by
  obtain ⟨hW, hS, hL, hT, hH, hF, hroom⟩ := hok
  have hQ := hv_yes hS
  have HTU := hid (fun w' => turned_i T H F R S L w' (by omega) (by omega) (by omega) (by omega) (by omega) (by omega))
  have hro : rootOk (T + 1) (1 - H) (F + hv S) L = true := by unfold rootOk; simp; omega
  have HSR := hid (fun w' => root_i (T + 1) (1 - H) (F + hv S) L w')
  rw [hro] at HSR
  have HWO := hid (fun w' => writer_of (n : Int) S L (T + 1) (1 - H) (F + hv S) L 0 0 a rs.length c w' (by omega) (by omega) (by omega) (by omega) (by omega) (by omega))
  unfold mvD
  unfold storeV at HWO ⊢
  have e1 : (n : Int).toNat = n := by omega
  have e2 : 56 - n = m := by omega
  rw [e1, e2]
  obtain ⟨Q, HQ⟩ : ∃ Q, Hid (Q = hv S) := ⟨_, hid rfl⟩
  rw [← HQ.out] at hQ HTU HSR HWO hroom hfit ⊢
  obtain ⟨q, hq⟩ : ∃ q, q = 2 + (1 - H) * Q := ⟨_, rfl⟩
  have hqb : 2 ≤ q ∧ q ≤ 101 := by
    rcases (show H = 0 ∨ H = 1 by omega) with e | e
    · subst e; omega
    · subst e; omega
  rw [← hq] at HWO ⊢
  simp only [Int.add_zero] at HWO
  clear hq e1 e2 hro
  obtain ⟨hf1, hf2⟩ := hfit
  obtain ⟨bss, hbss⟩ : ∃ bss, bss = snapOf rs := ⟨_, rfl⟩
  have hbl := snapOf_len rs
  have HMB : Hid (∀ b ∈ bss, b.length ≤ 1048576 ∧ ∀ x ∈ b, x.1.size ≤ 1048576 ∧ x.2.1.size ≤ 1048576) := by
    intro b hb
    rw [hbss] at hb
    obtain ⟨h1, h2⟩ := snapOf_mem hb
    exact ⟨by omega, fun x hx => hs _ (h2 x hx)⟩
  have HSN := hid (fun w' h' => snap_i a rs c w' h' hc hl hs)
  have HLEN := hid (fun k => mvPages_len L (F + Q) n m hm hn1 hn8 (bss.take k))
  have HROOM : Hid (∀ k, roomOf (bss.take k) (n : Int) ≤ Q - 1) := fun k => by
    have := room_take bss k (n : Int)
    rw [← hbss] at hroom
    omega
  rw [← hbss] at hbl HSN ⊢
  clear hbss hroom
  have HBB : Hid (Below w.heap.size w ((w.alloc (.cells #[.int .i64 (n : Int), .int .i64 S, .int .i64 L, .int .i64 T, .int .i64 H, .int .i64 F, .int .i64 R, .int .i64 U, .int .i64 O, .slice a rs.length c] 35)).alloc (.cells #[.int .i64 0, .int .i64 0, .int .i64 0, .int .i64 0, .int .i64 0, .int .i64 0, .int .i64 0, .int .i64 0, .int .i64 0, .int .i64 0, .slice none 0 0, .slice none 0 0] 38))) := ((Below.refl _ _).alloc (Nat.le_refl _) _).alloc (by simp) _
  go_enter Tryz.func27, Tryz.ntmps27
  go_wp2_with fail
  refine (HTU.out _).mono ?_
  rintro e w1 ⟨rfl, hb1⟩
  have r0 := ((row_new w #[.int .i64 (n : Int), .int .i64 S, .int .i64 L, .int .i64 T, .int .i64 H, .int .i64 F, .int .i64 R, .int .i64 U, .int .i64 O, .slice a rs.length c] 35).alloc (.cells #[.int .i64 0, .int .i64 0, .int .i64 0, .int .i64 0, .int .i64 0, .int .i64 0, .int .i64 0, .int .i64 0, .int .i64 0, .int .i64 0, .slice none 0 0, .slice none 0 0] 38)).below hb1
  have r1 := (row_at (w := w.alloc (.cells #[.int .i64 (n : Int), .int .i64 S, .int .i64 L, .int .i64 T, .int .i64 H, .int .i64 F, .int .i64 R, .int .i64 U, .int .i64 O, .slice a rs.length c] 35)) (A := #[.int .i64 0, .int .i64 0, .int .i64 0, .int .i64 0, .int .i64 0, .int .i64 0, .int .i64 0, .int .i64 0, .int .i64 0, .int .i64 0, .slice none 0 0, .slice none 0 0]) (t := 38) (g := w.heap.size + 1) (by simp)).below hb1
  have HBE := hid (HBB.out.trans (hb1.mono (by simp; omega)))
  have xc0 := r0.cell 0 _ rfl
  have xf0 := r0.froz 0 (by simp)
  have xc1 := r0.cell 1 _ rfl
  have xf1 := r0.froz 1 (by simp)
  have xc2 := r0.cell 2 _ rfl
  have xf2 := r0.froz 2 (by simp)
  have xc3 := r0.cell 3 _ rfl
  have xf3 := r0.froz 3 (by simp)
  have xc4 := r0.cell 4 _ rfl
  have xf4 := r0.froz 4 (by simp)
  have xc5 := r0.cell 5 _ rfl
  have xf5 := r0.froz 5 (by simp)
  have xc6 := r0.cell 6 _ rfl
  have xf6 := r0.froz 6 (by simp)
  have xc7 := r0.cell 7 _ rfl
  have xf7 := r0.froz 7 (by simp)
  have xc8 := r0.cell 8 _ rfl
  have xf8 := r0.froz 8 (by simp)
  have xc9 := r0.cell 9 _ rfl
  have xf9 := r0.froz 9 (by simp)
  have HR0 := hid r0
  have HR1 := hid r1
  clear r0 r1 hb1
  go_wp2_with fail
  refine (HSR.out _).mono ?_
  rintro e w2 ⟨rfl, hb2⟩
  clear xc0 xf0 xc1 xf1 xc2 xf2 xc3 xf3 xc4 xf4 xc5 xf5 xc6 xf6 xc7 xf7 xc8 xf8 xc9 xf9
  have r0 := ((((HR0.out.set 3 (by simp) _).set 4 (by simp) _).set 5 (by simp) _).set 6 (by simp) _).below hb2
  have r1 := ((((HR1.out.other ⟨w.heap.size, 3, none⟩ (by show w.heap.size ≠ _; omega) _).other ⟨w.heap.size, 4, none⟩ (by show w.heap.size ≠ _; omega) _).other ⟨w.heap.size, 5, none⟩ (by show w.heap.size ≠ _; omega) _).other ⟨w.heap.size, 6, none⟩ (by show w.heap.size ≠ _; omega) _).below hb2
  have hbe := ((((HBE.out.setCell (p := ⟨w.heap.size, 3, none⟩) (Nat.le_refl _) (.int .i64 (T + 1))).setCell (p := ⟨w.heap.size, 4, none⟩) (Nat.le_refl _) (.int .i64 (1 - H))).setCell (p := ⟨w.heap.size, 5, none⟩) (Nat.le_refl _) (.int .i64 (F + Q))).setCell (p := ⟨w.heap.size, 6, none⟩) (Nat.le_refl _) (.int .i64 L))
  have HBF := hid (hbe.trans (hb2.mono hbe.size))
  simp only [List.set_cons_zero, List.set_cons_succ] at r0
  clear hb2 hbe HBE HR0 HR1
  have xc0 := r0.cell 0 _ rfl
  have xf0 := r0.froz 0 (by simp)
  have xc1 := r0.cell 1 _ rfl
  have xf1 := r0.froz 1 (by simp)
  have xc2 := r0.cell 2 _ rfl
  have xf2 := r0.froz 2 (by simp)
  have xc3 := r0.cell 3 _ rfl
  have xf3 := r0.froz 3 (by simp)
  have xc4 := r0.cell 4 _ rfl
  have xf4 := r0.froz 4 (by simp)
  have xc5 := r0.cell 5 _ rfl
  have xf5 := r0.froz 5 (by simp)
  have xc6 := r0.cell 6 _ rfl
  have xf6 := r0.froz 6 (by simp)
  have xc7 := r0.cell 7 _ rfl
  have xf7 := r0.froz 7 (by simp)
  have xc8 := r0.cell 8 _ rfl
  have xf8 := r0.froz 8 (by simp)
  have xc9 := r0.cell 9 _ rfl
  have xf9 := r0.froz 9 (by simp)
  have HR0 := hid r0
  have HR1 := hid r1
  clear r0 r1
  go_wp2_with fail
  clear xc0 xf0 xc1 xf1 xc2 xf2 xc3 xf3 xc4 xf4 xc5 xf5 xc6 xf6 xc7 xf7 xc8 xf8 xc9 xf9
  obtain ⟨w3, hw3⟩ : ∃ w3, w3 = (w2.setCell ⟨w.heap.size, 7, none⟩ (.int .i64 0)).setCell ⟨w.heap.size, 8, none⟩ (.int .i64 0) := ⟨_, rfl⟩
  have r0 : Row w3 (w.heap.size) [.int .i64 (n : Int), .int .i64 S, .int .i64 L, .int .i64 (T + 1), .int .i64 (1 - H), .int .i64 (F + Q), .int .i64 L, .int .i64 0, .int .i64 0, .slice a rs.length c] := by rw [hw3]; exact (HR0.out.set 7 (by simp) _).set 8 (by simp) _
  have r1 : Row w3 (w.heap.size + 1) [.int .i64 0, .int .i64 0, .int .i64 0, .int .i64 0, .int .i64 0, .int .i64 0, .int .i64 0, .int .i64 0, .int .i64 0, .int .i64 0, .slice none 0 0, .slice none 0 0] := by rw [hw3]; exact (HR1.out.other ⟨w.heap.size, 7, none⟩ (by show w.heap.size ≠ _; omega) _).other ⟨w.heap.size, 8, none⟩ (by show w.heap.size ≠ _; omega) _
  have hb3 : Below w.heap.size w w3 := by rw [hw3]; exact (HBF.out.setCell (p := ⟨w.heap.size, 7, none⟩) (Nat.le_refl _) _).setCell (p := ⟨w.heap.size, 8, none⟩) (Nat.le_refl _) _
  rw [← hw3]
  clear hw3 HR0 HR1 HBF
  refine (HWO.out _).mono ?_
  rintro e w4 ⟨g, rfl, hW, hb4⟩
  have hgg := hW.ge
  have hgl := hW.row.lt
  have hs4 := hb4.size
  have HW := hid hW
  have HB4 := hid hb4
  have HR0 := hid r0
  have HR1 := hid r1
  have HB3 := hid hb3
  have hlA := r0.lt
  have hlB := r1.lt
  clear hW hb4 r0 r1 hb3 HWO HTU HSR HBB
  go_wp2_with fail
  refine (mover_i w3.heap.size g _ _ q (F + Q) L (n : Int) _ HW.out hs4 (by simp) (by omega) (by omega) (by omega) (by omega)).mono ?_
  rintro e w5 ⟨rfl, hBm, ⟨v5, hW5, hv5⟩, hb5⟩
  have hb35 : Below w3.heap.size w3 w5 := HB4.out.trans hb5
  have r0 := HR0.out.below hb35
  have x9 := r0.cell 9 _ rfl
  have hs5 := hb5.size
  have hBl := hBm.lt
  clear r0
  go_wp2_with fail
  clear x9
  refine (HSN.out _ (h.below (HB3.out.trans (hb35.mono HB3.out.size)))).mono ?_
  rintro e w6 ⟨v6, rfl, hbat, hb6⟩
  obtain ⟨va, vc, rfl, _⟩ := hbat.bts
  have hs6 := hb6.size
  have HBA := hid hbat
  have HBM := hid (hBm.below hb6)
  have HV5 := hid hv5
  have hov : ∀ k, v5.ownBlock = some k → k < w5.heap.size := fun k hk => (hW5.own.lt k hk).2
  have HOV := hid hov
  have HW6 := hid (hW5.below hb6)
  have HB6 := hid (hb35.trans (hb6.mono hb35.size))
  clear hbat hBm hv5 hov hW5 hb6 hb5 hb35 HSN HW HB4
  go_wp2_with fail
  go_loopw [30] (fun i wr => ∃ k : Nat, k ≤ bss.length ∧ i = .int .i64 (k : Int) ∧ ∃ v', Wrt wr w3.heap.size g v' (putOps q (mvPages L (F + Q) n m (bss.take k))) (q + ((mvPages L (F + Q) n m (bss.take k)).length : Int)) (F + Q + ((mvPages L (F + Q) n m (bss.take k)).length : Int)) L (n : Int) ∧ Below w3.heap.size w3 wr ∧ WK g w6 v5 wr v') (fun i _ => bss.length - (intOf i).toNat)
  case atStart =>
    refine ⟨0, Nat.zero_le _, rfl, v5, ?_, HB6.out, WK.start _ _ _⟩
    rw [List.take_zero, mvPages_nil]
    have e0 : putOps q [formOf 3 L (F + Q) ByteArray.empty (n : Int)] = [] ++ [(false, q, formOf 3 L (F + Q) ByteArray.empty (n : Int))] := by simp [putOps]
    rw [e0]
    exact HW6.out
  case round =>
    obtain ⟨k, hk, rfl, v', hW, hbw, hwk⟩ := hrel
    have hN : ((mvPages L (F + Q) n m (bss.take k)).length : Int) ≤ 99 := by have h1 := HLEN.out k; have h2 := HROOM.out k; omega
    obtain ⟨acc, hacc⟩ : ∃ acc, acc = mvPages L (F + Q) n m (bss.take k) := ⟨_, rfl⟩
    rw [← hacc] at hW hN
    have hsr : w3.heap.size ≤ wr.heap.size := hbw.size
    by_cases hlt : k < bss.length
    · have hba := HBA.out.span (w' := wr) (fun b h1 h2 => hwk.blk b h2 (by omega) (fun e => by have := HOV.out b e.symm; omega))
      obtain ⟨va', vc', ev, hbt⟩ := hba.bts
      cases ev
      obtain ⟨gl, p, cc, rfl, hgl2, hcl, hch⟩ := hbt.at hlt
      have hlt' : (k : Int) < (bss.length : Int) := by omega
      have hk0 : (0 : Int) ≤ (k : Int) := by omega
      have hmem := HMB.out (bss.getD k []) (by simp [List.getD, hlt])
      have hN1 : ((mvPages L (F + Q) n m (bss.take (k + 1))).length : Int) ≤ 99 := by have h1 := HLEN.out (k + 1); have h2 := HROOM.out (k + 1); omega
      have hst : mvPages L (F + Q) n m (bss.take (k + 1)) = acc ++ cutAll (bOut (bss.getD k [])) L (F + Q + (acc.length : Int)) n m := by rw [takeR_snoc bss k [] hlt, mvPages_snoc, ← hacc]
      obtain ⟨b, hb⟩ : ∃ b, b = bss.getD k [] := ⟨_, rfl⟩
      rw [← hb] at hcl hch hmem hst
      rw [hst, List.length_append] at hN1
      have HTK := hid (take_i w3.heap.size g w4.heap.size v' (putOps q acc) (q + (acc.length : Int)) (F + Q + (acc.length : Int)) L n m p b cc wr hW (HBM.out.wk hwk (by omega) (fun e => HV5.out _ e.symm rfl)) (by omega) (fun e => by rcases hwk.own _ e.symm with h1 | h1; exact HV5.out _ h1 rfl; omega) hch hmem.1 hmem.2 hsr (by rw [putOps_length]; omega) hm hn1 hn8 (by omega) (by omega) (by omega) (by omega))
      have HST := hid hst
      have HBW := hid hbw
      have HWK := hid hwk
      clear hb hst hacc hmem hch hbw hba hbt hwk hW
      go_wp2_with (go_at_call 101; refine HTK.out.mono ?_; rintro e w7 ⟨⟨x, rfl⟩, v7, hW7, hb7, hwk7⟩)
      refine ⟨⟨k + 1, by omega, by go_num, v7, ?_, HBW.out.trans hb7, HWK.out.trans hwk7⟩, by simp [intOf]; omega⟩
      rw [HST.out, putOps_append, List.length_append]
      have e1 : q + ((acc.length + (cutAll (bOut b) L (F + Q + (acc.length : Int)) n m).length : Nat) : Int) = q + (acc.length : Int) + ((cutAll (bOut b) L (F + Q + (acc.length : Int)) n m).length : Int) := by omega
      have e2 : F + Q + ((acc.length + (cutAll (bOut b) L (F + Q + (acc.length : Int)) n m).length : Nat) : Int) = F + Q + (acc.length : Int) + ((cutAll (bOut b) L (F + Q + (acc.length : Int)) n m).length : Int) := by omega
      rw [e1, e2]
      exact hW7
    · have hkl : k = bss.length := by omega
      subst hkl
      have he : acc = mvPages L (F + Q) n m bss := by rw [hacc, List.take_length]
      clear hacc
      have HAE := hid he
      obtain ⟨ya, yc, rfl⟩ := hW.sl
      rw [putOps_length] at hW
      have y0 := hW.row.cell 0 _ rfl
      have r0 := HR0.out.below hbw
      have r1 := HR1.out.below hbw
      have hgr := hW.row.lt
      have xc0 := r0.cell 0 _ rfl
      have xf0 := r0.froz 0 (by simp)
      have xc1 := r0.cell 1 _ rfl
      have xf1 := r0.froz 1 (by simp)
      have xc2 := r0.cell 2 _ rfl
      have xf2 := r0.froz 2 (by simp)
      have xc3 := r0.cell 3 _ rfl
      have xf3 := r0.froz 3 (by simp)
      have xc4 := r0.cell 4 _ rfl
      have xf4 := r0.froz 4 (by simp)
      have xc5 := r0.cell 5 _ rfl
      have xf5 := r0.froz 5 (by simp)
      have xc6 := r0.cell 6 _ rfl
      have xf6 := r0.froz 6 (by simp)
      have xc7 := r0.cell 7 _ rfl
      have xf7 := r0.froz 7 (by simp)
      have xc8 := r0.cell 8 _ rfl
      have xf8 := r0.froz 8 (by simp)
      have xc9 := r0.cell 9 _ rfl
      have xf9 := r0.froz 9 (by simp)
      have HW9 := hid hW
      have HBW := hid hbw
      have HX0 := hid r0
      have HX1 := hid r1
      clear hW hbw r0 r1 hwk he
      go_wp2_with fail
      clear xc0 xf0 xc1 xf1 xc2 xf2 xc3 xf3 xc4 xf4 xc5 xf5 xc6 xf6 xc7 xf7 xc8 xf8 xc9 xf9
      clear y0
      obtain ⟨w7, hw7⟩ : ∃ w7, w7 = wr.setCell ⟨w.heap.size, 7, none⟩ (.int .i64 (acc.length : Int)) := ⟨_, rfl⟩
      rw [← hw7]
      have hW7 := HW9.out.set w.heap.size 7 hlA (.int .i64 (acc.length : Int))
      have r0 := HX0.out.set 7 (by simp) (.int .i64 (acc.length : Int))
      have r1 := HX1.out.other ⟨w.heap.size, 7, none⟩ (by show w.heap.size ≠ _; omega) (.int .i64 (acc.length : Int))
      have hbx : Below w.heap.size w w7 := by rw [hw7]; exact (HB3.out.trans (HBW.out.mono HB3.out.size)).setCell (p := ⟨w.heap.size, 7, none⟩) (Nat.le_refl _) _
      have hs7 : w3.heap.size ≤ w7.heap.size := by rw [hw7]; simpa [World.setCell] using hsr
      simp only [List.set_cons_zero, List.set_cons_succ] at r0
      rw [← hw7] at hW7 r0 r1
      clear hw7 HX0 HX1 HW9
      refine (sync_i w3.heap.size g _ _ _ _ _ _ _ hW7 hs7 (by rw [putOps_length]; omega)).mono ?_
      rintro e w8 ⟨⟨x8, rfl⟩, ⟨v8, hW8⟩, hb8⟩
      have r08 := r0.below2 hlA hb8
      have r18 := r1.below2 hlB hb8
      have hs8 : w3.heap.size ≤ w8.heap.size := Nat.le_trans hs7 hb8.size
      have x0 := r08.cell 0 _ rfl
      have x1 := r08.cell 1 _ rfl
      have x2 := r08.cell 2 _ rfl
      have x3 := r08.cell 3 _ rfl
      have x4 := r08.cell 4 _ rfl
      have x5 := r08.cell 5 _ rfl
      have x6 := r08.cell 6 _ rfl
      have x7 := r08.cell 7 _ rfl
      have x8 := r08.cell 8 _ rfl
      have x9 := r08.cell 9 _ rfl
      have HW8 := hid hW8
      clear hW8
      go_wp2_with fail
      refine (wroot_i w3.heap.size g _ _ _ _ _ _ _ _ _ _ _ HW8.out hs8 (by simp [putOps_length]; omega) (by omega)).mono ?_
      rintro e w9 ⟨⟨x9', rfl⟩, ⟨v9, hW9⟩, hb9⟩
      clear x0 x1 x2 x3 x4 x5 x6 x7 x8 x9
      have r09 := r08.below2 hlA hb9
      have r19 := r18.below2 hlB hb9
      have hs9 : w3.heap.size ≤ w9.heap.size := Nat.le_trans hs8 hb9.size
      go_wp2_with fail
      refine (sync_i w3.heap.size g _ _ _ _ _ _ _ hW9 hs9 (by simp [putOps_length]; omega)).mono ?_
      rintro e w10 ⟨⟨x10', rfl⟩, ⟨v10, hW10⟩, hb10⟩
      have r010 := r09.below2 hlA hb10
      have r110 := r19.below2 hlB hb10
      have hs10 : w3.heap.size ≤ w10.heap.size := Nat.le_trans hs9 hb10.size
      have hbz : Below w.heap.size w w10 := ((hbx.trans (hb8.mono (by omega))).trans (hb9.mono (by omega))).trans (hb10.mono (by omega))
      have HBZ := hid hbz
      obtain ⟨za, zc, rfl⟩ := hW10.sl
      have hlen : (putOps q acc ++ [(true, 0, ByteArray.empty)] ++ [(false, (T + 1) % 2, rtForm (T + 1) (1 - H) (F + Q) L (n : Int))] ++ [(true, 0, ByteArray.empty)]).length = acc.length + 3 := by simp [putOps_length]
      obtain ⟨go, cap, ez, hgo1, hgo2, hrow⟩ : ∃ go cap, Value.slice za (putOps q acc ++ [(true, 0, ByteArray.empty)] ++ [(false, (T + 1) % 2, rtForm (T + 1) (1 - H) (F + Q) L (n : Int))] ++ [(true, 0, ByteArray.empty)]).length zc = Value.slice (some ⟨go, 0, none⟩) (acc.length + 3) cap ∧ w3.heap.size ≤ go ∧ go < w10.heap.size ∧ Row w10 go (opcells (putOps q acc ++ [(true, 0, ByteArray.empty)] ++ [(false, (T + 1) % 2, rtForm (T + 1) (1 - H) (F + Q) L (n : Int))] ++ [(true, 0, ByteArray.empty)])) := by
        rcases owns_forms hW10.own with ⟨e1, e2⟩ | ⟨g, cap, e1, e2, e3, e4⟩
        · simp at e2
        · exact ⟨g, cap, by rw [e1, hlen], e2, e3, e4⟩
      have y0 := hW10.row.cell 0 _ rfl
      rw [ez] at y0
      have hg10 := hW10.row.lt
      have hgn : w.heap.size ≠ g := by omega
      have hgn1 : w.heap.size + 1 ≠ g := by omega
      have hgn2 : ¬ g = w.heap.size + 1 := by omega
      have x0 := r010.cell 0 _ rfl
      have x1 := r010.cell 1 _ rfl
      have x2 := r010.cell 2 _ rfl
      have x3 := r010.cell 3 _ rfl
      have x4 := r010.cell 4 _ rfl
      have x5 := r010.cell 5 _ rfl
      have x6 := r010.cell 6 _ rfl
      have x7 := r010.cell 7 _ rfl
      have x8 := r010.cell 8 _ rfl
      have x9 := r010.cell 9 _ rfl
      have d0 := r110.cell 0 _ rfl
      have df0 := r110.froz 0 (by simp)
      have d1 := r110.cell 1 _ rfl
      have df1 := r110.froz 1 (by simp)
      have d2 := r110.cell 2 _ rfl
      have df2 := r110.froz 2 (by simp)
      have d3 := r110.cell 3 _ rfl
      have df3 := r110.froz 3 (by simp)
      have d4 := r110.cell 4 _ rfl
      have df4 := r110.froz 4 (by simp)
      have d5 := r110.cell 5 _ rfl
      have df5 := r110.froz 5 (by simp)
      have d6 := r110.cell 6 _ rfl
      have df6 := r110.froz 6 (by simp)
      have d7 := r110.cell 7 _ rfl
      have df7 := r110.froz 7 (by simp)
      have d8 := r110.cell 8 _ rfl
      have df8 := r110.froz 8 (by simp)
      have d9 := r110.cell 9 _ rfl
      have df9 := r110.froz 9 (by simp)
      have d10 := r110.cell 10 _ rfl
      have df10 := r110.froz 10 (by simp)
      have d11 := r110.cell 11 _ rfl
      have df11 := r110.froz 11 (by simp)
      have hlx : w.heap.size < w10.heap.size := by omega
      have hly : w.heap.size + 1 < w10.heap.size := by omega
      have HROW := hid hrow
      clear hW10 hb10 hb9 hb8 hbx hbz hW9 hW7 r0 r1 r08 r18 r09 r19 r010 r110 HW8 hrow ez
      go_wp2_with fail
      refine wp_region_held_drew (S := fun w' => w'.cell? ⟨w.heap.size, 0, none⟩ = some (.int .i64 (n : Int)) ∧ w'.cell? ⟨w.heap.size, 1, none⟩ = some (.int .i64 S) ∧ w'.cell? ⟨w.heap.size, 2, none⟩ = some (.int .i64 L) ∧ w'.cell? ⟨w.heap.size, 3, none⟩ = some (.int .i64 (T + 1)) ∧ w'.cell? ⟨w.heap.size, 4, none⟩ = some (.int .i64 (1 - H)) ∧ w'.cell? ⟨w.heap.size, 5, none⟩ = some (.int .i64 (F + Q)) ∧ w'.cell? ⟨w.heap.size, 6, none⟩ = some (.int .i64 L) ∧ w'.cell? ⟨w.heap.size, 7, none⟩ = some (.int .i64 (acc.length : Int)) ∧ w'.cell? ⟨w.heap.size, 8, none⟩ = some (.int .i64 0) ∧ w'.cell? ⟨w.heap.size, 9, none⟩ = some (.slice a rs.length c) ∧ w'.cell? ⟨g, 0, none⟩ = some (.slice (some ⟨go, 0, none⟩) (acc.length + 3) cap)) (by kernel_rfl) (⟨by go_simp, by go_simp, by go_simp, by go_simp, by go_simp, by go_simp, by go_simp, by go_simp, by go_simp, by go_simp, by go_simp⟩) (fun hHeld => ?_)
      refine wpAnyH_take (i := 0) (v := .agg #[.int .i64 (n : Int), .int .i64 S, .int .i64 L, .int .i64 (T + 1), .int .i64 (1 - H), .int .i64 (F + Q), .int .i64 L, .int .i64 (acc.length : Int), .int .i64 0, .slice a rs.length c]) rfl (by kernel_rfl) (by kernel_rfl) (by kernel_rfl) (fun _ _ _ h => h) (Or.inl ⟨by rfl, fun w hw => by obtain ⟨z0, z1, z2, z3, z4, z5, z6, z7, z8, z9, z10⟩ := hw; go_simp⟩) hHeld ?_
      simp only [Act.put, List.getElem_toArray, List.getElem_cons_zero, List.getElem_cons_succ, List.setIfInBounds_toArray, List.set_cons_zero, List.set_cons_succ]
      refine wpAnyH_take (i := 1) (v := .pointer (some ⟨g, 0, none⟩)) rfl (by kernel_rfl) (by kernel_rfl) (by kernel_rfl) (fun _ _ _ h => h) (Or.inl ⟨by rfl, fun w hw => by obtain ⟨z0, z1, z2, z3, z4, z5, z6, z7, z8, z9, z10⟩ := hw; go_simp⟩) hHeld ?_
      simp only [Act.put, List.getElem_toArray, List.getElem_cons_zero, List.getElem_cons_succ, List.setIfInBounds_toArray, List.set_cons_zero, List.set_cons_succ]
      refine wpAnyH_take (i := 2) (v := .pointer (some ⟨g, 0, none⟩)) rfl (by kernel_rfl) (by kernel_rfl) (by kernel_rfl) (fun _ _ _ h => h) (Or.inl ⟨by rfl, fun w hw => by obtain ⟨z0, z1, z2, z3, z4, z5, z6, z7, z8, z9, z10⟩ := hw; go_simp⟩) hHeld ?_
      simp only [Act.put, List.getElem_toArray, List.getElem_cons_zero, List.getElem_cons_succ, List.setIfInBounds_toArray, List.set_cons_zero, List.set_cons_succ]
      refine wpAnyH_take (i := 3) (v := .pointer (some ⟨g, 0, none⟩)) rfl (by kernel_rfl) (by kernel_rfl) (by kernel_rfl) (fun _ _ _ h => h) (Or.inl ⟨by rfl, fun w hw => by obtain ⟨z0, z1, z2, z3, z4, z5, z6, z7, z8, z9, z10⟩ := hw; go_simp⟩) hHeld ?_
      simp only [Act.put, List.getElem_toArray, List.getElem_cons_zero, List.getElem_cons_succ, List.setIfInBounds_toArray, List.set_cons_zero, List.set_cons_succ]
      refine wpAnyH_take (i := 4) (v := .slice (some ⟨go, 0, none⟩) (acc.length + 3) cap) rfl (by kernel_rfl) (by kernel_rfl) (by kernel_rfl) (fun _ _ _ h => h) (Or.inl ⟨by rfl, fun w hw => by obtain ⟨z0, z1, z2, z3, z4, z5, z6, z7, z8, z9, z10⟩ := hw; go_simp⟩) hHeld ?_
      simp only [Act.put, List.getElem_toArray, List.getElem_cons_zero, List.getElem_cons_succ, List.setIfInBounds_toArray, List.set_cons_zero, List.set_cons_succ]
      refine wpAnyH_take (i := 5) (v := .agg #[.int .i64 0, .int .i64 (n : Int), .int .i64 S, .int .i64 L, .int .i64 (T + 1), .int .i64 (1 - H), .int .i64 (F + Q), .int .i64 L, .int .i64 (acc.length : Int), .int .i64 0, .slice a rs.length c, .slice (some ⟨go, 0, none⟩) (acc.length + 3) cap]) rfl (by kernel_rfl) (by kernel_rfl) (by kernel_rfl) (fun _ _ _ h => h) (Or.inl ⟨by rfl, fun w hw => by obtain ⟨z0, z1, z2, z3, z4, z5, z6, z7, z8, z9, z10⟩ := hw; go_simp⟩) hHeld ?_
      simp only [Act.put, List.getElem_toArray, List.getElem_cons_zero, List.getElem_cons_succ, List.setIfInBounds_toArray, List.set_cons_zero, List.set_cons_succ]
      refine wpAnyH_ready (rs := [6]) (by kernel_rfl) (by simp) ?_
      refine AllReadyH.cons rfl (fun K hK => ?_) AllReadyH.nil
      go_simp
      refine hK.out _ _ (⟨by go_simp, by go_simp, by go_simp, by go_simp, by go_simp, by go_simp, by go_simp, by go_simp, by go_simp, by go_simp, by go_simp⟩) (fun hHd1 => ?_)
      clear hK K
      try simp only [Act.put, List.getElem_toArray, List.getElem_cons_zero, List.getElem_cons_succ, List.setIfInBounds_toArray, List.set_cons_zero, List.set_cons_succ]
      refine wpAnyH_done (by kernel_rfl) ?_ _
      go_wp2
      rw [← HAE.out]
      have hops : putOps q acc ++ [(true, 0, ByteArray.empty), (false, (T + 1) % 2, rtForm (T + 1) (1 - H) (F + Q) L (n : Int)), (true, 0, ByteArray.empty)] = (putOps q acc ++ [(true, 0, ByteArray.empty)] ++ [(false, (T + 1) % 2, rtForm (T + 1) (1 - H) (F + Q) L (n : Int))] ++ [(true, 0, ByteArray.empty)]) := by simp
      rw [hops]
      refine bodyPost_ret (v := dnV ⟨0, (n : Int), S, L, T + 1, 1 - H, F + Q, L, (acc.length : Int), 0, rs, (putOps q acc ++ [(true, 0, ByteArray.empty)] ++ [(false, (T + 1) % 2, rtForm (T + 1) (1 - H) (F + Q) L (n : Int))] ++ [(true, 0, ByteArray.empty)])⟩ a c (some ⟨go, 0, none⟩) cap) (by simp [results, Tryz.results27, go_sem, dnV, putOps_length, d0, d1, d2, d3, d4, d5, d6, d7, d8, d9, d10, d11]) rfl ⟨_, cap, rfl, ?_, ?_, ?_⟩
      · refine .inr ⟨go, rfl, ?_⟩
        refine Row.drew ?_
        iterate 12 (refine Row.other ?_ _ (by show w.heap.size + 1 ≠ go; omega) _)
        exact HROW.out
      · exact fun g hg => by change blk _ (putOps q acc ++ [(true, 0, ByteArray.empty)] ++ [(false, (T + 1) % 2, rtForm (T + 1) (1 - H) (F + Q) L (n : Int))] ++ [(true, 0, ByteArray.empty)]).length = _ at hg; rw [hlen, blk_pos _ _ _ (by omega)] at hg; cases hg; omega
      · refine Below.drew ?_
        iterate 12 (refine Below.setCell ?_ (by show w.heap.size ≤ w.heap.size + 1; omega) _)
        exact HBZ.out
set_option maxHeartbeats 16000000 in
theorem move_i_no (W S L T H F R U O : Int) (a : Option Addr) (rs : List Pr) (c : Nat) (w : World) (hok : mvOk W S L T H F rs) (hfit : ¬ (T + 1 ≤ 1000000000 ∧ F + hv S ≤ 999999000)) :
    Calls Tryz.prog 27 #[storeV W S L T H F R U O a rs.length c] w fun x w' => x = .returned (dnV (noD 4) none 0 none 0) ∧ Below w.heap.size w w' := by
  obtain ⟨hW, hS, hL, hT, hH, hF, hroom⟩ := hok
  have hQ := hv_yes hS
  have HTU := hid (fun w' => turned_i T H F R S L w' (by omega) (by omega) (by omega) (by omega) (by omega) (by omega))
  have hro : rootOk (T + 1) (1 - H) (F + hv S) L = false := by
    refine root_no _ _ _ _ ?_
    by_cases h1 : T + 1 ≤ 1000000000
    · exact .inr (.inr (.inr (by omega)))
    · exact .inl (by omega)
  have HSR := hid (fun w' => root_i (T + 1) (1 - H) (F + hv S) L w')
  rw [hro] at HSR
  unfold storeV
  obtain ⟨Q, HQ⟩ : ∃ Q, Hid (Q = hv S) := ⟨_, hid rfl⟩
  rw [← HQ.out] at hQ HTU HSR hfit
  clear hro hfit
  have HBB : Hid (Below w.heap.size w ((w.alloc (.cells #[.int .i64 W, .int .i64 S, .int .i64 L, .int .i64 T, .int .i64 H, .int .i64 F, .int .i64 R, .int .i64 U, .int .i64 O, .slice a rs.length c] 35)).alloc (.cells #[.int .i64 0, .int .i64 0, .int .i64 0, .int .i64 0, .int .i64 0, .int .i64 0, .int .i64 0, .int .i64 0, .int .i64 0, .int .i64 0, .slice none 0 0, .slice none 0 0] 38))) := ((Below.refl _ _).alloc (Nat.le_refl _) _).alloc (by simp) _
  go_enter Tryz.func27, Tryz.ntmps27
  go_wp2_with fail
  refine (HTU.out _).mono ?_
  rintro e w1 ⟨rfl, hb1⟩
  have r0 := ((row_new w #[.int .i64 W, .int .i64 S, .int .i64 L, .int .i64 T, .int .i64 H, .int .i64 F, .int .i64 R, .int .i64 U, .int .i64 O, .slice a rs.length c] 35).alloc (.cells #[.int .i64 0, .int .i64 0, .int .i64 0, .int .i64 0, .int .i64 0, .int .i64 0, .int .i64 0, .int .i64 0, .int .i64 0, .int .i64 0, .slice none 0 0, .slice none 0 0] 38)).below hb1
  have r1 := (row_at (w := w.alloc (.cells #[.int .i64 W, .int .i64 S, .int .i64 L, .int .i64 T, .int .i64 H, .int .i64 F, .int .i64 R, .int .i64 U, .int .i64 O, .slice a rs.length c] 35)) (A := #[.int .i64 0, .int .i64 0, .int .i64 0, .int .i64 0, .int .i64 0, .int .i64 0, .int .i64 0, .int .i64 0, .int .i64 0, .int .i64 0, .slice none 0 0, .slice none 0 0]) (t := 38) (g := w.heap.size + 1) (by simp)).below hb1
  have HBE := hid (HBB.out.trans (hb1.mono (by simp; omega)))
  have HR0 := hid r0
  have HR1 := hid r1
  have xc0 := r0.cell 0 _ rfl
  have xf0 := r0.froz 0 (by simp)
  have xc1 := r0.cell 1 _ rfl
  have xf1 := r0.froz 1 (by simp)
  have xc2 := r0.cell 2 _ rfl
  have xf2 := r0.froz 2 (by simp)
  have xc3 := r0.cell 3 _ rfl
  have xf3 := r0.froz 3 (by simp)
  have xc4 := r0.cell 4 _ rfl
  have xf4 := r0.froz 4 (by simp)
  have xc5 := r0.cell 5 _ rfl
  have xf5 := r0.froz 5 (by simp)
  have xc6 := r0.cell 6 _ rfl
  have xf6 := r0.froz 6 (by simp)
  have xc7 := r0.cell 7 _ rfl
  have xf7 := r0.froz 7 (by simp)
  have xc8 := r0.cell 8 _ rfl
  have xf8 := r0.froz 8 (by simp)
  have xc9 := r0.cell 9 _ rfl
  have xf9 := r0.froz 9 (by simp)
  clear r0 r1 hb1
  go_wp2_with fail
  refine (HSR.out _).mono ?_
  rintro e w2 ⟨rfl, hb2⟩
  clear xc0 xf0 xc1 xf1 xc2 xf2 xc3 xf3 xc4 xf4 xc5 xf5 xc6 xf6 xc7 xf7 xc8 xf8 xc9 xf9
  have r1 := ((((HR1.out.other ⟨w.heap.size, 3, none⟩ (by show w.heap.size ≠ _; omega) _).other ⟨w.heap.size, 4, none⟩ (by show w.heap.size ≠ _; omega) _).other ⟨w.heap.size, 5, none⟩ (by show w.heap.size ≠ _; omega) _).other ⟨w.heap.size, 6, none⟩ (by show w.heap.size ≠ _; omega) _).below hb2
  have hbe := ((((HBE.out.setCell (p := ⟨w.heap.size, 3, none⟩) (Nat.le_refl _) (.int .i64 (T + 1))).setCell (p := ⟨w.heap.size, 4, none⟩) (Nat.le_refl _) (.int .i64 (1 - H))).setCell (p := ⟨w.heap.size, 5, none⟩) (Nat.le_refl _) (.int .i64 (F + Q))).setCell (p := ⟨w.heap.size, 6, none⟩) (Nat.le_refl _) (.int .i64 L))
  have HBF := hid (hbe.trans (hb2.mono hbe.size))
  have d0 := r1.cell 0 _ rfl
  have df0 := r1.froz 0 (by simp)
  have d1 := r1.cell 1 _ rfl
  have df1 := r1.froz 1 (by simp)
  have d2 := r1.cell 2 _ rfl
  have df2 := r1.froz 2 (by simp)
  have d3 := r1.cell 3 _ rfl
  have df3 := r1.froz 3 (by simp)
  have d4 := r1.cell 4 _ rfl
  have df4 := r1.froz 4 (by simp)
  have d5 := r1.cell 5 _ rfl
  have df5 := r1.froz 5 (by simp)
  have d6 := r1.cell 6 _ rfl
  have df6 := r1.froz 6 (by simp)
  have d7 := r1.cell 7 _ rfl
  have df7 := r1.froz 7 (by simp)
  have d8 := r1.cell 8 _ rfl
  have df8 := r1.froz 8 (by simp)
  have d9 := r1.cell 9 _ rfl
  have df9 := r1.froz 9 (by simp)
  have d10 := r1.cell 10 _ rfl
  have df10 := r1.froz 10 (by simp)
  have d11 := r1.cell 11 _ rfl
  have df11 := r1.froz 11 (by simp)
  have hly := r1.lt
  clear hb2 hbe HBE HR0 HR1 r1
  go_wp2_with fail
  refine bodyPost_ret (v := dnV (noD 4) none 0 none 0) (by simp [results, Tryz.results27, go_sem, dnV, noD, d0, d1, d2, d3, d4, d5, d6, d7, d8, d9, d10, d11]) rfl ⟨rfl, ?_⟩
  iterate 12 (refine Below.setCell ?_ (by show w.heap.size ≤ w.heap.size + 1; omega) _)
  exact HBF.out
end Go.Proofs.YtnmaknnnmjfhkafGreat

namespace Go.Proofs.YtnmaknnnmjfhkafGreat
open Go.RowKit
set_option linter.unusedVariables false

/-- A row of the call's own that is put behind, again and again: what lay in wS is as it was, the row's first block apart. -/
structure Grow (wS wr : World) (g0 : Option Nat) (base : Nat) (e : TypeId) (size : Nat) (v : Value) (n : Nat) (xs : List Value) : Prop where
  own : wr.ownsRow base e size v n xs
  gb : wS.grownBy wr g0
  at_ : ∀ k, v.ownBlock = some k → g0 = some k ∨ wS.heap.size ≤ k
theorem Grow.start {w : World} {base : Nat} {e : TypeId} {size : Nat} {v : Value} {n : Nat} {xs : List Value} (h : w.ownsRow base e size v n xs) : Grow w w v.ownBlock base e size v n xs := ⟨h, World.grownBy.refl _ _, fun k hk => .inl hk⟩
theorem Grow.below {wS wr w' : World} {g0 : Option Nat} {base : Nat} {e : TypeId} {size : Nat} {v : Value} {n : Nat} {xs : List Value} (h : Grow wS wr g0 base e size v n xs) (hb : Below wr.heap.size wr w') : Grow wS w' g0 base e size v n xs :=
  ⟨owns_below h.own hb, ⟨hb.os.trans h.gb.os, hb.tape.trans h.gb.tape, hb.output.trans h.gb.output, Nat.le_trans h.gb.size hb.size, fun k hk hne => (hb.block k (Nat.lt_of_lt_of_le hk h.gb.size)).trans (h.gb.block k hk hne)⟩, h.at_⟩
theorem grown_mono {wS wr w9 : World} {g0 r : Option Nat} (h : wS.grownBy wr g0) (hg : wr.grownBy w9 r) (hr : ∀ k, r = some k → g0 = some k ∨ wS.heap.size ≤ k) : wS.grownBy w9 g0 :=
  ⟨hg.os.trans h.os, hg.tape.trans h.tape, hg.output.trans h.output, Nat.le_trans h.size hg.size, fun k hk hne => (hg.block k (Nat.lt_of_lt_of_le hk h.size) (fun e => by
    rcases hr k e.symm with h1 | h1
    · exact hne h1.symm
    · omega)).trans (h.block k hk hne)⟩
theorem Grow.push {wS wr w9 : World} {g0 : Option Nat} {base : Nat} {e : TypeId} {size : Nat} {v v9 : Value} {n n9 H : Nat} {xs xs9 : List Value} (h : Grow wS wr g0 base e size v n xs) (hown : w9.ownsRow base e size v9 n9 xs9) (hg : wr.grownBy w9 v.ownBlock) (hat : v.ownBlock = v9.ownBlock ∨ v9.ownBlock = some H) (hH : wr.heap.size ≤ H) : Grow wS w9 g0 base e size v9 n9 xs9 :=
  ⟨hown, grown_mono h.gb hg h.at_, fun k hk => by
    rcases hat with h1 | h1
    · exact h.at_ k (h1.trans hk)
    · rw [h1] at hk; cases hk; exact .inr (Nat.le_trans h.gb.size hH)⟩
theorem Grow.trans {wS w4 wr : World} {g0 : Option Nat} {base : Nat} {e : TypeId} {size : Nat} {v v' : Value} {n n' : Nat} {xs xs' : List Value} (h : Grow wS w4 g0 base e size v n xs) (k : Grow w4 wr v.ownBlock base e size v' n' xs') : Grow wS wr g0 base e size v' n' xs' :=
  ⟨k.own, grown_mono h.gb k.gb h.at_, fun j hj => by
    rcases k.at_ j hj with h1 | h1
    · exact h.at_ j h1
    · exact .inr (Nat.le_trans h.gb.size h1)⟩
theorem below_of_grown {n : Nat} {w w' : World} {r : Option Nat} (hg : w.grownBy w' r) (hn : n ≤ w.heap.size) (hr : ∀ k, r = some k → n ≤ k) : Below n w w' :=
  ⟨hg.os, hg.tape, hg.output, hg.size, fun k hk => hg.block k (by omega) (fun e => by have := hr k e.symm; omega)⟩
theorem undrewG {w w' : World} {r : Option Nat} (h : w.drew.grownBy w' r) : w.grownBy w' r := ⟨h.os, h.tape, h.output, h.size, h.block⟩
theorem redrewG {w w' : World} {r : Option Nat} (h : w.grownBy w' r) : w.drew.grownBy w' r := ⟨h.os, h.tape, h.output, h.size, h.block⟩
end Go.Proofs.YtnmaknnnmjfhkafGreat

namespace Go.Proofs.YtnmaknnnmjfhkafGreat
open Go.RowKit
set_option linter.unusedVariables false
set_option linter.unusedSimpArgs false
set_option maxRecDepth 8000

theorem info_opS : (Tryz.prog.info? 75).map (fun i => (i.zero, i.size, i.bytes)) = some (some (.agg #[.bool false, .int .i64 0, .string ByteArray.empty]), 3, 32) := by kernel_rfl
theorem oneOp3 (b1 b2 b3 : Bool) (n1 n2 n3 : Int) (s1 s2 s3 : ByteArray) : ∀ u ∈ [Value.bool b1, .int .i64 n1, .string s1, .bool b2, .int .i64 n2, .string s2, .bool b3, .int .i64 n3, .string s3], u.oneCell' = true := by
  intro u hu
  simp only [List.mem_cons, List.not_mem_nil, or_false] at hu
  rcases hu with rfl | rfl | rfl | rfl | rfl | rfl | rfl | rfl | rfl <;> rfl
theorem base_s (n h : Int) (h0 : 0 ≤ h) (h1 : h ≤ 1) (w : World) : Calls Tryz.prog 43 #[.int .i64 n, .int .i64 h] w fun e w' => e = .returned (.int .i64 (2 + h * hv n)) ∧ w' = w := by
  have hQ : 0 ≤ hv n ∧ hv n ≤ 99 := by by_cases h : 8 ≤ n ∧ n ≤ 200; have := hv_yes h; omega; rw [hv_no h]; omega
  obtain ⟨Q, HQ⟩ : ∃ Q, Hid (Q = hv n) := ⟨_, hid rfl⟩
  rw [← HQ.out] at hQ ⊢
  obtain ⟨q, hq⟩ : ∃ q, q = h * Q := ⟨_, rfl⟩
  have hqb : 0 ≤ q ∧ q ≤ 99 := by
    rcases (show h = 0 ∨ h = 1 by omega) with e | e
    · subst e; omega
    · subst e; omega
  have hw1 : IntKind.i64.wrap (h * Q) = q := by rw [← hq]; simp [IntKind.wrap, IntKind.bits, IntKind.signed]; omega
  have hw2 : IntKind.i64.wrap (2 + q) = 2 + q := by simp [IntKind.wrap, IntKind.bits, IntKind.signed]; omega
  rw [← hq]
  clear hq
  go_enter Tryz.func43, Tryz.ntmps43
  go_wp2_with (go_at_call 38; refine (halves_s _ _).mono ?_; rw [← HQ.out]; rintro e wz ⟨rfl, hwz⟩; rw [hwz]; clear hwz wz)
  go_ret
  exact ⟨rfl, rfl⟩
theorem put_s (n : Int) (d : ByteArray) (w : World) : Calls Tryz.prog 42 #[.int .i64 n, .string d] w fun e w' => e = .returned (.agg #[.bool false, .int .i64 n, .string d]) ∧ Below w.heap.size w w' := by
  go_enter Tryz.func42, Tryz.ntmps42
  go_wp2
  refine bodyPost_ret (v := .agg #[.bool false, .int .i64 n, .string d]) (by simp [results, Tryz.results42, go_sem]) rfl ⟨rfl, (Below.refl _ _).alloc (Nat.le_refl _) _⟩

set_option maxHeartbeats 16000000 in
theorem move_s_ok (S L T H F R U O : Int) (n m : Nat) (a : Option Addr) (rs : List Pr) (c : Nat) (w : World) (h : Prs w a rs) (hl : rs.length ≤ 1048576) (hs : ∀ x ∈ rs, x.1.size ≤ 1048576 ∧ x.2.size ≤ 1048576) (hm : n + m = 56) (hn1 : 1 ≤ n) (hn8 : n ≤ 8) (hok : mvOk (n : Int) S L T H F rs) (hfit : T + 1 ≤ 1000000000 ∧ F + hv S ≤ 999999000) :
    Calls Tryz.prog 22 #[storeV (n : Int) S L T H F R U O a rs.length c] w fun x w' => DnPost w w' x (mvD (n : Int) S L T H F rs) := by
  obtain ⟨i0, hi0, hz0, hz1, hz2⟩ := info_partsP info_opS
  have HI := hid (And.intro hi0 (And.intro hz0 (And.intro hz1 hz2)))
  clear hi0 hz0 hz1 hz2
  obtain ⟨hW, hS, hL, hT, hH, hF, hroom⟩ := hok
  have hQ := hv_yes hS
  have HH := hid (fun w' => halves_s S w')
  have HB := hid (fun w' => base_s S (1 - H) (by omega) (by omega) w')
  unfold mvD storeV
  have e1 : (n : Int).toNat = n := by omega
  have e2 : 56 - n = m := by omega
  rw [e1, e2]
  obtain ⟨Q, HQ⟩ : ∃ Q, Hid (Q = hv S) := ⟨_, hid rfl⟩
  rw [← HQ.out] at hQ HH HB hroom hfit ⊢
  obtain ⟨q, hq⟩ : ∃ q, q = 2 + (1 - H) * Q := ⟨_, rfl⟩
  have hqb : 2 ≤ q ∧ q ≤ 101 := by
    rcases (show H = 0 ∨ H = 1 by omega) with e | e
    · subst e; omega
    · subst e; omega
  rw [← hq] at HB ⊢
  clear hq e1 e2
  obtain ⟨hf1, hf2⟩ := hfit
  obtain ⟨bss, hbss⟩ : ∃ bss, bss = snapOf rs := ⟨_, rfl⟩
  have hbl := snapOf_len rs
  have HMB : Hid (∀ b ∈ bss, b.length ≤ 1048576 ∧ ∀ x ∈ b, x.1.size ≤ 1048576 ∧ x.2.1.size ≤ 1048576) := by
    intro b hb
    rw [hbss] at hb
    obtain ⟨h1, h2⟩ := snapOf_mem hb
    exact ⟨by omega, fun x hx => hs _ (h2 x hx)⟩
  have HSN := hid (fun w' h' => snap_s a rs c w' h' hl hs)
  have HLEN := hid (fun k => mvPages_len L (F + Q) n m hm hn1 hn8 (bss.take k))
  have HROOM : Hid (∀ k, roomOf (bss.take k) (n : Int) ≤ Q - 1) := fun k => by
    have := room_take bss k (n : Int)
    rw [← hbss] at hroom
    omega
  rw [← hbss] at hbl HSN ⊢
  clear hbss hroom
  obtain ⟨rp, hrp⟩ : ∃ rp, rp = rtForm (T + 1) (1 - H) (F + Q) L (n : Int) := ⟨_, rfl⟩
  have HRP := hid (fun w' => rootpage_s_any (T + 1) (1 - H) (F + Q) L (n : Int) w')
  rw [← hrp] at HRP ⊢
  clear hrp
  obtain ⟨p0, hp0⟩ : ∃ p0, p0 = formOf 3 L (F + Q) ByteArray.empty (n : Int) := ⟨_, rfl⟩
  have HFP := hid (fun w' => form_s_any 3 L (F + Q) ByteArray.empty (n : Int) w' (by simp))
  rw [← hp0] at HFP
  have HP0 := hid hp0
  clear hp0
  obtain ⟨wb, HWB⟩ : ∃ wb, wb = ((w.alloc (.cells #[.int .i64 (n : Int), .int .i64 S, .int .i64 L, .int .i64 T, .int .i64 H, .int .i64 F, .int .i64 R, .int .i64 U, .int .i64 O, .slice a rs.length c] 35)).alloc (.cells #[.int .i64 0, .int .i64 0, .int .i64 0, .int .i64 0, .int .i64 0, .int .i64 0, .int .i64 0, .int .i64 0, .int .i64 0, .int .i64 0, .slice none 0 0, .slice none 0 0] 38)).alloc (.cells #[.int .i64 (T + 1), .int .i64 (1 - H), .int .i64 (F + Q), .int .i64 L] 30) := ⟨_, rfl⟩
  have hwbs : wb.heap.size = w.heap.size + 1 + 1 + 1 := by rw [HWB]; simp
  have HBB : Hid (Below w.heap.size w wb) := by show Below _ _ _; rw [HWB]; exact (((Below.refl _ _).alloc (Nat.le_refl _) _).alloc (by simp) _).alloc (by simp <;> omega) _
  have HRW : Hid (∀ w', Below (w.heap.size + 1 + 1 + 1) wb w' → Row w' (w.heap.size) [.int .i64 (n : Int), .int .i64 S, .int .i64 L, .int .i64 T, .int .i64 H, .int .i64 F, .int .i64 R, .int .i64 U, .int .i64 O, .slice a rs.length c] ∧ Row w' (w.heap.size + 1) [.int .i64 0, .int .i64 0, .int .i64 0, .int .i64 0, .int .i64 0, .int .i64 0, .int .i64 0, .int .i64 0, .int .i64 0, .int .i64 0, .slice none 0 0, .slice none 0 0] ∧ Row w' (w.heap.size + 1 + 1) [.int .i64 (T + 1), .int .i64 (1 - H), .int .i64 (F + Q), .int .i64 L]) := fun w' hb => by
    have hb' : Below wb.heap.size wb w' := by rw [hwbs]; exact hb
    have r0 : Row wb (w.heap.size) [.int .i64 (n : Int), .int .i64 S, .int .i64 L, .int .i64 T, .int .i64 H, .int .i64 F, .int .i64 R, .int .i64 U, .int .i64 O, .slice a rs.length c] := by rw [HWB]; exact ((row_new w _ _).alloc _).alloc _
    have r1 : Row wb (w.heap.size + 1) [.int .i64 0, .int .i64 0, .int .i64 0, .int .i64 0, .int .i64 0, .int .i64 0, .int .i64 0, .int .i64 0, .int .i64 0, .int .i64 0, .slice none 0 0, .slice none 0 0] := by rw [HWB]; exact (row_at (w := w.alloc _) (by simp)).alloc _
    have r2 : Row wb (w.heap.size + 1 + 1) [.int .i64 (T + 1), .int .i64 (1 - H), .int .i64 (F + Q), .int .i64 L] := by rw [HWB]; exact row_at (w := (w.alloc _).alloc _) (by simp)
    exact ⟨r0.below hb', r1.below hb', r2.below hb'⟩
  go_enter Tryz.func22, Tryz.ntmps22
  go_wp2_with (first | (go_at_call 38; refine (HH.out _).mono ?_; rintro e wz ⟨rfl, hwz⟩; rw [hwz]; clear hwz wz) | (go_at_call 43; refine (HB.out _).mono ?_; rintro e wz ⟨rfl, hwz⟩; rw [hwz]; clear hwz wz))
  rw [← HWB]
  clear HWB
  refine (HFP.out _).mono ?_
  rintro e w1 ⟨rfl, hb1⟩
  go_wp2_with fail
  refine (put_s _ _ _).mono ?_
  rintro e w2 ⟨rfl, hb2⟩
  have hb2' : Below (w.heap.size + 1 + 1 + 1) wb w2 := by rw [← hwbs]; exact hb1.trans (hb2.mono hb1.size)
  have hs2 : w.heap.size + 1 + 1 + 1 ≤ w2.heap.size := by have := hb2'.size; omega
  clear hb1 hb2 HFP HH HB
  have hs2a : w.heap.size < w2.heap.size := by omega
  obtain ⟨hR0, _, _⟩ := HRW.out _ hb2'
  have q9 := hR0.cell 9 _ rfl
  clear hR0
  go_wp2_with fail
  clear q9
  have hbx : Below (w.heap.size + 1 + 1 + 1) wb (w2.alloc (.cells #[.bool false, .int .i64 q, .string p0] 75)) := hb2'.alloc hs2 _
  refine (HSN.out _ (h.below (HBB.out.trans (hbx.mono (by omega))))).mono ?_
  rintro e w3 ⟨v, rfl, hbat, hb3⟩
  have hown3 : w3.ownsRow (w.heap.size + 1 + 1 + 1) 75 3 (.slice (some ⟨w2.heap.size, 0, none⟩) 1 1) 1 (opcells (putOps q (mvPages L (F + Q) n m (bss.take 0)))) := by
    have h0 := World.ownsRow_lit w2 (base := w.heap.size + 1 + 1 + 1) (e := 75) (size := 3) #[.bool false, .int .i64 q, .string p0] 1 hs2 (by unfold maxLen; omega) (by simp)
    rw [List.take_zero, mvPages_nil, ← HP0.out]
    have e0 : opcells (putOps q [p0]) = [.bool false, .int .i64 q, .string p0] := by simp [putOps, opcells]
    rw [e0]
    exact owns_below h0 hb3
  have hG0 := Grow.start hown3
  have hl0 : (mvPages L (F + Q) n m (bss.take 0)).length = 1 := by rw [List.take_zero, mvPages_nil]; rfl
  have hs3 : w2.heap.size < w3.heap.size := by have := hb3.size; simp at this; omega
  have hb3' : Below (w.heap.size + 1 + 1 + 1) wb w3 := hbx.trans (hb3.mono (by simp; omega))
  have HBA : Hid (Bat w3 (w2.heap.size + 1) v bss) := hbat.mono (by simp)
  obtain ⟨va, vc, rfl, _⟩ := hbat.bts
  clear hbat hb3 hbx hb2' hown3 HSN
  have HB3 := hid hb3'
  have HG0 := hid hG0
  clear hb3' hG0
  go_wp2_with fail
  go_loopw [6, 8, 9] (fun y u i wr => ∃ k : Nat, k ≤ bss.length ∧ i = .int .i64 (k : Int) ∧ u = .int .i64 ((mvPages L (F + Q) n m (bss.take k)).length : Int) ∧ Grow w3 wr (some w2.heap.size) (w.heap.size + 1 + 1 + 1) 75 3 y (mvPages L (F + Q) n m (bss.take k)).length (opcells (putOps q (mvPages L (F + Q) n m (bss.take k))))) (fun _ _ i _ => bss.length - (intOf i).toNat)
  case atStart => exact ⟨0, Nat.zero_le _, rfl, by rw [hl0]; rfl, by rw [hl0]; exact HG0.out⟩
  case round =>
    obtain ⟨k, hk, rfl, rfl, hgr⟩ := hrel
    have hbw : Below (w.heap.size + 1 + 1 + 1) wb wr := HB3.out.trans (below_of_grown hgr.gb (by omega) (fun k hk => by cases hk; omega))
    have hsr : w.heap.size + 1 + 1 + 1 ≤ wr.heap.size := by have := hbw.size; omega
    have hN : ((mvPages L (F + Q) n m (bss.take k)).length : Int) ≤ 99 := by have h1 := HLEN.out k; have h2 := HROOM.out k; omega
    obtain ⟨acc, hacc⟩ : ∃ acc, acc = mvPages L (F + Q) n m (bss.take k) := ⟨_, rfl⟩
    rw [← hacc] at hgr hN ⊢
    obtain ⟨ya, yc, rfl⟩ : ∃ ya yc, u6 = Value.slice ya acc.length yc := by
      rcases owns_forms hgr.own with ⟨e1, e2⟩ | ⟨g, cap, e1, _⟩
      · exact ⟨none, 0, by rw [e1, e2]⟩
      · exact ⟨_, cap, e1⟩
    obtain ⟨hR0, hR1, hR2⟩ := HRW.out _ hbw
    by_cases hlt : k < bss.length
    · have hba := HBA.out.kept hgr.gb (fun k hk => by cases hk; left; omega)
      obtain ⟨va', vc', ev, hbt⟩ := hba.bts
      cases ev
      obtain ⟨gl, p, cc, rfl, hgl, hcl, hch⟩ := hbt.at hlt
      have hlt' : (k : Int) < (bss.length : Int) := by omega
      have hk0 : (0 : Int) ≤ (k : Int) := by omega
      have hmem := HMB.out (bss.getD k []) (by simp [List.getD, hlt])
      have hN1 : ((mvPages L (F + Q) n m (bss.take (k + 1))).length : Int) ≤ 99 := by have h1 := HLEN.out (k + 1); have h2 := HROOM.out (k + 1); omega
      have hst : mvPages L (F + Q) n m (bss.take (k + 1)) = acc ++ cutAll (bOut (bss.getD k [])) L (F + Q + (acc.length : Int)) n m := by rw [takeR_snoc bss k [] hlt, mvPages_snoc, ← hacc]
      have hO := bOut_bound (bss.getD k [])
      obtain ⟨b, hb⟩ : ∃ b, b = bss.getD k [] := ⟨_, rfl⟩
      rw [← hb] at hcl hch hmem hst hO
      have HF := hid (fun W (hW : Chs W p b) => formbatch_s p b cc W hW hmem.1 hmem.2)
      obtain ⟨bo, hbo⟩ : ∃ bo, bo = bOut b := ⟨_, rfl⟩
      rw [← hbo] at HF hst hO
      have HC := hid (fun W => cut_s bo L (F + Q + (acc.length : Int)) n m W (by omega) hm hn1 hn8)
      obtain ⟨cut, hcut⟩ : ∃ cut, cut = cutAll bo L (F + Q + (acc.length : Int)) n m := ⟨_, rfl⟩
      rw [← hcut] at HC hst
      rw [hst, List.length_append] at hN1
      have HST := hid hst
      have HACC := hid hacc
      have hw0 : IntKind.i64.wrap (F + Q + (acc.length : Int)) = F + Q + (acc.length : Int) := by simp [IntKind.wrap, IntKind.bits, IntKind.signed]; omega
      have HT : Hid (∀ w', Below wr.heap.size wr w' → w'.cell? ⟨gl, k, none⟩ = some (.slice p b.length cc) ∧ w'.cell? ⟨w.heap.size, 0, none⟩ = some (.int .i64 (n : Int)) ∧ w'.cell? ⟨w.heap.size, 2, none⟩ = some (.int .i64 L) ∧ w'.cell? ⟨w.heap.size + 1 + 1, 2, none⟩ = some (.int .i64 (F + Q)) ∧ Below wr.heap.size wr w') := fun w' hb => ⟨(hb.cell (p := ⟨gl, k, none⟩) hgl).trans hcl, (hR0.below hb).cell 0 _ rfl, (hR0.below hb).cell 2 _ rfl, (hR2.below hb).cell 2 _ rfl, hb⟩
      have HCH := hid hch
      have HGR := hid hgr
      have HBW := hid hbw
      clear hb hbo hcut hst hacc hmem hch hgr hbw hR0 hR1 hR2 hba hcl hbt
      go_wp2_with fail
      refine wp_region_held_drew (S := fun w' => w'.cell? ⟨gl, k, none⟩ = some (.slice p b.length cc) ∧ w'.cell? ⟨w.heap.size, 0, none⟩ = some (.int .i64 (n : Int)) ∧ w'.cell? ⟨w.heap.size, 2, none⟩ = some (.int .i64 L) ∧ w'.cell? ⟨w.heap.size + 1 + 1, 2, none⟩ = some (.int .i64 (F + Q)) ∧ Below wr.heap.size wr w') (by kernel_rfl) (HT.out _ (Below.refl _ _).drew) (fun hHeld => ?_)
      refine wpAnyH_take (i := 0) (v := .slice (some ⟨gl, 0, none⟩) bss.length vc) rfl (by kernel_rfl) (by kernel_rfl) (by kernel_rfl) (fun _ _ _ h => h) (Or.inl ⟨by rfl, fun w hw => by obtain ⟨z0, z1, z2, z3, z4⟩ := hw; go_simp⟩) hHeld ?_
      simp only [Act.put, List.setIfInBounds_toArray, List.set_cons_zero, List.set_cons_succ]
      refine wpAnyH_take (i := 1) (v := .int .i64 (k : Int)) rfl (by kernel_rfl) (by kernel_rfl) (by kernel_rfl) (fun _ _ _ h => h) (Or.inl ⟨by rfl, fun w hw => by obtain ⟨z0, z1, z2, z3, z4⟩ := hw; go_simp⟩) hHeld ?_
      simp only [Act.put, List.setIfInBounds_toArray, List.set_cons_zero, List.set_cons_succ]
      refine wpAnyH_take (i := 2) (v := .pointer (some ⟨gl, k, none⟩)) rfl (by kernel_rfl) (by kernel_rfl) (by kernel_rfl) (fun _ _ _ h => h) (Or.inl ⟨by rfl, fun w hw => by obtain ⟨z0, z1, z2, z3, z4⟩ := hw; go_simp⟩) hHeld ?_
      simp only [Act.put, List.setIfInBounds_toArray, List.set_cons_zero, List.set_cons_succ]
      refine wpAnyH_take (i := 3) (v := .slice p b.length cc) rfl (by kernel_rfl) (by kernel_rfl) (by kernel_rfl) (fun _ _ _ h => h) (Or.inl ⟨by rfl, fun w hw => by obtain ⟨z0, z1, z2, z3, z4⟩ := hw; go_simp⟩) hHeld ?_
      simp only [Act.put, List.setIfInBounds_toArray, List.set_cons_zero, List.set_cons_succ]
      refine wpAnyH_take (i := 5) (v := .pointer (some ⟨w.heap.size, 2, none⟩)) rfl (by kernel_rfl) (by kernel_rfl) (by kernel_rfl) (fun _ _ _ h => h) (Or.inl ⟨by rfl, fun w hw => by obtain ⟨z0, z1, z2, z3, z4⟩ := hw; go_simp⟩) hHeld ?_
      simp only [Act.put, List.setIfInBounds_toArray, List.set_cons_zero, List.set_cons_succ]
      refine wpAnyH_take (i := 6) (v := .int .i64 L) rfl (by kernel_rfl) (by kernel_rfl) (by kernel_rfl) (fun _ _ _ h => h) (Or.inl ⟨by rfl, fun w hw => by obtain ⟨z0, z1, z2, z3, z4⟩ := hw; go_simp⟩) hHeld ?_
      simp only [Act.put, List.setIfInBounds_toArray, List.set_cons_zero, List.set_cons_succ]
      refine wpAnyH_take (i := 7) (v := .pointer (some ⟨w.heap.size + 1 + 1, 2, none⟩)) rfl (by kernel_rfl) (by kernel_rfl) (by kernel_rfl) (fun _ _ _ h => h) (Or.inl ⟨by rfl, fun w hw => by obtain ⟨z0, z1, z2, z3, z4⟩ := hw; go_simp⟩) hHeld ?_
      simp only [Act.put, List.setIfInBounds_toArray, List.set_cons_zero, List.set_cons_succ]
      refine wpAnyH_take (i := 8) (v := .int .i64 (F + Q)) rfl (by kernel_rfl) (by kernel_rfl) (by kernel_rfl) (fun _ _ _ h => h) (Or.inl ⟨by rfl, fun w hw => by obtain ⟨z0, z1, z2, z3, z4⟩ := hw; go_simp⟩) hHeld ?_
      simp only [Act.put, List.setIfInBounds_toArray, List.set_cons_zero, List.set_cons_succ]
      refine wpAnyH_take (i := 9) (v := .int .i64 (acc.length : Int)) rfl (by kernel_rfl) (by kernel_rfl) (by kernel_rfl) (fun _ _ _ h => h) (Or.inl ⟨by rfl, fun w hw => by obtain ⟨z0, z1, z2, z3, z4⟩ := hw; go_simp⟩) hHeld ?_
      simp only [Act.put, List.setIfInBounds_toArray, List.set_cons_zero, List.set_cons_succ]
      refine wpAnyH_take (i := 10) (v := .int .i64 (F + Q + (acc.length : Int))) rfl (by kernel_rfl) (by kernel_rfl) (by kernel_rfl) (fun _ _ _ h => h) (Or.inl ⟨by rfl, fun w hw => by obtain ⟨z0, z1, z2, z3, z4⟩ := hw; go_simp⟩) hHeld ?_
      simp only [Act.put, List.setIfInBounds_toArray, List.set_cons_zero, List.set_cons_succ]
      refine wpAnyH_take (i := 11) (v := .pointer (some ⟨w.heap.size, 0, none⟩)) rfl (by kernel_rfl) (by kernel_rfl) (by kernel_rfl) (fun _ _ _ h => h) (Or.inl ⟨by rfl, fun w hw => by obtain ⟨z0, z1, z2, z3, z4⟩ := hw; go_simp⟩) hHeld ?_
      simp only [Act.put, List.setIfInBounds_toArray, List.set_cons_zero, List.set_cons_succ]
      refine wpAnyH_take (i := 12) (v := .int .i64 (n : Int)) rfl (by kernel_rfl) (by kernel_rfl) (by kernel_rfl) (fun _ _ _ h => h) (Or.inl ⟨by rfl, fun w hw => by obtain ⟨z0, z1, z2, z3, z4⟩ := hw; go_simp⟩) hHeld ?_
      simp only [Act.put, List.setIfInBounds_toArray, List.set_cons_zero, List.set_cons_succ]
      refine wpAnyH_ready (rs := [4]) (by kernel_rfl) (by simp) ?_
      refine AllReadyH.cons rfl (fun K hK => ?_) AllReadyH.nil
      refine step_call (by rfl) 41 #[.slice p b.length cc] (by go_simp) (HF.out _ (HCH.out.below (Below.refl _ _).drew)) ?_
      rintro e w4 ⟨rfl, hb4⟩
      refine ⟨_, rfl, ?_⟩
      have hb4' : Below wr.heap.size wr w4 := (Below.refl _ _).drew.trans hb4
      refine hK.out _ _ (HT.out _ hb4') (fun hHd1 => ?_)
      clear hK K
      try simp only [Act.put, List.setIfInBounds_toArray, List.set_cons_zero, List.set_cons_succ]
      refine wpAnyH_ready (rs := [13]) (by kernel_rfl) (by simp) ?_
      refine AllReadyH.cons rfl (fun K hK => ?_) AllReadyH.nil
      refine step_call (by rfl) 40 #[.string bo, .int .i64 L, .int .i64 (F + Q + (acc.length : Int)), .int .i64 (n : Int)] (by go_simp) (HC.out _) ?_
      rintro e w5 ⟨a5, c5, rfl, ho5, hf5, hb5⟩
      refine ⟨_, rfl, ?_⟩
      have hb5' : Below wr.heap.size wr w5 := hb4'.trans (hb5.mono hb4'.size)
      refine hK.out _ _ (HT.out _ hb5') (fun hHd2 => ?_)
      clear hK K
      try simp only [Act.put, List.setIfInBounds_toArray, List.set_cons_zero, List.set_cons_succ]
      refine wpAnyH_ready (rs := [14]) (by kernel_rfl) (by simp) ?_
      refine AllReadyH.cons rfl (fun K hK => ?_) AllReadyH.nil
      go_simp
      refine hK.out _ _ hHd2 (fun _ => ?_)
      clear hK K
      try simp only [Act.put, List.setIfInBounds_toArray, List.set_cons_zero, List.set_cons_succ]
      refine wpAnyH_done (by kernel_rfl) ?_ _
      have HB5 := hid hb5'
      have HO5 := hid ho5
      have hfr : ∀ g, blk a5 cut.length = some g → wr.heap.size ≤ g := fun g hg => Nat.le_trans hb4'.size (hf5 g hg)
      have HFR := hid hfr
      have hs5 := hb5'.size
      clear hb5' hb5 ho5 hf5 hb4' hb4 hfr HT HF HC HCH hHeld hHd1 hHd2
      generalize wr = wo at *
      go_wp2_with fail
      go_loopw [6, 8, 11] (fun y2 u2 i2 wr => ∃ j : Nat, j ≤ cut.length ∧ i2 = .int .i64 (j : Int) ∧ u2 = .int .i64 ((acc ++ cut.take j).length : Int) ∧ Grow w5 wr (Value.slice ya acc.length yc).ownBlock (w.heap.size + 1 + 1 + 1) 75 3 y2 (acc ++ cut.take j).length (opcells (putOps q (acc ++ cut.take j)))) (fun _ _ i2 _ => cut.length - (intOf i2).toNat)
      case atStart => exact ⟨0, Nat.zero_le _, rfl, by simp, by rw [List.take_zero, List.append_nil]; exact Grow.start (owns_below HGR.out.own HB5.out)⟩
      case round =>
        obtain ⟨j, hj, rfl, rfl, hgr2⟩ := hrel
        have hN2 : (acc ++ cut.take j).length = acc.length + j := by rw [List.length_append, List.length_take]; omega
        obtain ⟨acc2, hacc2⟩ : ∃ acc2, acc2 = acc ++ cut.take j := ⟨_, rfl⟩
        rw [← hacc2] at hgr2 hN2 ⊢
        obtain ⟨y2a, y2c, rfl⟩ : ∃ y2a y2c, u6 = Value.slice y2a acc2.length y2c := by
          rcases owns_forms hgr2.own with ⟨e1, e2⟩ | ⟨g, cap, e1, _⟩
          · exact ⟨none, 0, by rw [e1, e2]⟩
          · exact ⟨_, cap, e1⟩
        have hsr2 : wo.heap.size ≤ wr.heap.size := Nat.le_trans hs5 hgr2.gb.size
        by_cases hlt2 : j < cut.length
        · obtain ⟨g5, rfl, hrow5⟩ := HO5.out.resolve_left (by intro e; have := congrArg List.length e; simp at this; rw [this] at hlt2; simp at hlt2)
          have hg5 : wo.heap.size ≤ g5 := HFR.out g5 (blk_pos _ _ _ (by omega))
          have hrow := hrow5.grown hgr2.gb (fun e => by have := (HGR.out.own.lt g5 e.symm).2; omega)
          have hcj := hrow.cell j (.string (cut.getD j ByteArray.empty)) (by simp [hlt2, List.getD])
          obtain ⟨pj, hpj⟩ : ∃ pj, pj = cut.getD j ByteArray.empty := ⟨_, rfl⟩
          rw [← hpj] at hcj
          have hg5l := hrow.lt
          have hlt2' : (j : Int) < (cut.length : Int) := by omega
          have hj0 : (0 : Int) ≤ (j : Int) := by omega
          have hx0 : IntKind.i64.wrap (q + (acc2.length : Int)) = q + (acc2.length : Int) := by simp [IntKind.wrap, IntKind.bits, IntKind.signed]; omega
          have hx1 : IntKind.i64.wrap ((acc2.length : Int) + 1) = (acc2.length : Int) + 1 := by simp [IntKind.wrap, IntKind.bits, IntKind.signed]; omega
          have HG2 := hid hgr2
          have HA2 := hid hacc2
          have HPJ := hid hpj
          have hal : acc2.length ≤ 200 := by omega
          clear hrow hrow5 hgr2 hacc2 hpj hN2
          go_wp2_with (first | (go_at_call 42; refine (put_s _ _ _).mono ?_; rintro e w6 ⟨rfl, hb6⟩; have HOA := hid ((owns_below HG2.out.own hb6).alloc (.cells #[.bool false, .int .i64 (q + (acc2.length : Int)), .string pj] 75)); have hs6 : w.heap.size + 1 + 1 + 1 ≤ w6.heap.size := Nat.le_trans (Nat.le_trans hsr hsr2) hb6.size) | (at_builtin; refine wpList_append_lies _ rfl _ _ 36 rfl (w.heap.size + 1 + 1 + 1) 75 i0 (.agg #[.bool false, .int .i64 0, .string ByteArray.empty]) 3 32 Tryz.underlying36 HI.out.1 HI.out.2.1 HI.out.2.2.1 HI.out.2.2.2 rfl (by omega) _ acc2.length _ rfl HOA.out ⟨w6.heap.size, 0, none⟩ 1 1 [.bool false, .int .i64 (q + (acc2.length : Int)), .string pj] rfl rfl (World.news_of_block (heap_alloc_new w6 _)) (oneOp _ _ _) (by omega) (by unfold maxLen; omega) (by omega) (by simp; omega) (w6.heap.size + 1) (by simp) ?_; intro g9 cap9 w9 hown9 hgrow9 hat9 hlt9; have HO9 := hid hown9; have HGW := hid hgrow9; have HAT := hid hat9; clear hown9 hgrow9 hat9))
          have hsn : acc ++ cut.take (j + 1) = acc2 ++ [pj] := by rw [takeR_snoc cut j ByteArray.empty hlt2, ← List.append_assoc, ← HA2.out, ← HPJ.out]
          refine ⟨⟨j + 1, by omega, by go_num, by rw [hsn, List.length_append]; go_num, ?_⟩, by simp [intOf]; omega⟩
          rw [hsn, putOps_snoc, opcells_append, List.length_append]
          refine ((HG2.out.below hb6).below ((Below.refl _ _).alloc (Nat.le_refl _) _)).push (H := w6.heap.size + 1) HO9.out HGW.out ?_ (by simp)
          rcases HAT.out with h | h
          · exact .inl h
          · right; rw [h]; rfl
        · have hje : j = cut.length := by omega
          subst hje
          have HG2 := hid hgr2
          have HA2 := hid hacc2
          clear hgr2 hacc2
          go_wp2_with fail
          have he : acc2 = mvPages L (F + Q) n m (bss.take (k + 1)) := by rw [HA2.out, HST.out, List.take_length]
          refine ⟨⟨k + 1, by omega, by go_num, by rw [← he], ?_⟩, by simp [intOf]; omega⟩
          rw [← he]
          exact (HGR.out.below HB5.out).trans HG2.out
    · have hkl : k = bss.length := by omega
      subst hkl
      have he : acc = mvPages L (F + Q) n m bss := by rw [hacc, List.take_length]
      clear hacc
      have HAE := hid he
      have HGR := hid hgr
      have HBW := hid hbw
      have HT : Hid (∀ w', Below (w.heap.size + 1 + 1 + 1) wr w' → w'.cell? ⟨w.heap.size, 0, none⟩ = some (.int .i64 (n : Int)) ∧ w'.cell? ⟨w.heap.size + 1 + 1, 0, none⟩ = some (.int .i64 (T + 1)) ∧ w'.cell? ⟨w.heap.size + 1 + 1, 1, none⟩ = some (.int .i64 (1 - H)) ∧ w'.cell? ⟨w.heap.size + 1 + 1, 2, none⟩ = some (.int .i64 (F + Q)) ∧ w'.cell? ⟨w.heap.size + 1 + 1, 3, none⟩ = some (.int .i64 L)) := fun w' hb => by
        obtain ⟨hR0, hR1, hR2⟩ := HRW.out _ (HBW.out.trans hb)
        exact ⟨hR0.cell 0 _ rfl, hR2.cell 0 _ rfl, hR2.cell 1 _ rfl, hR2.cell 2 _ rfl, hR2.cell 3 _ rfl⟩
      have htm : (T + 1).tmod 2 = (T + 1) % 2 := Int.tmod_eq_emod_of_nonneg (by omega)
      clear hgr hbw he hR0 hR1 hR2
      go_wp2_with fail
      refine wp_region_held_drew (S := fun w' => w'.cell? ⟨w.heap.size, 0, none⟩ = some (.int .i64 (n : Int)) ∧ w'.cell? ⟨w.heap.size + 1 + 1, 0, none⟩ = some (.int .i64 (T + 1)) ∧ w'.cell? ⟨w.heap.size + 1 + 1, 1, none⟩ = some (.int .i64 (1 - H)) ∧ w'.cell? ⟨w.heap.size + 1 + 1, 2, none⟩ = some (.int .i64 (F + Q)) ∧ w'.cell? ⟨w.heap.size + 1 + 1, 3, none⟩ = some (.int .i64 L)) (by kernel_rfl) (HT.out _ (Below.refl _ _).drew) (fun hHeld => ?_)
      refine wpAnyH_take (i := 0) (v := .slice ya acc.length yc) rfl (by kernel_rfl) (by kernel_rfl) (by kernel_rfl) (fun _ _ _ h => h) (Or.inl ⟨by rfl, fun w hw => by obtain ⟨z0, z1, z2, z3, z4⟩ := hw; go_simp⟩) hHeld ?_
      simp only [Act.put, List.setIfInBounds_toArray, List.set_cons_zero, List.set_cons_succ]
      refine wpAnyH_take (i := 1) (v := .agg #[.bool true, .int .i64 0, .string ⟨#[]⟩]) rfl (by kernel_rfl) (by kernel_rfl) (by kernel_rfl) (fun _ _ _ h => h) (Or.inl ⟨by rfl, fun w hw => by obtain ⟨z0, z1, z2, z3, z4⟩ := hw; go_simp⟩) hHeld ?_
      simp only [Act.put, List.setIfInBounds_toArray, List.set_cons_zero, List.set_cons_succ]
      refine wpAnyH_take (i := 2) (v := .pointer (some ⟨w.heap.size + 1 + 1, 0, none⟩)) rfl (by kernel_rfl) (by kernel_rfl) (by kernel_rfl) (fun _ _ _ h => h) (Or.inl ⟨by rfl, fun w hw => by obtain ⟨z0, z1, z2, z3, z4⟩ := hw; go_simp⟩) hHeld ?_
      simp only [Act.put, List.setIfInBounds_toArray, List.set_cons_zero, List.set_cons_succ]
      refine wpAnyH_take (i := 3) (v := .int .i64 (T + 1)) rfl (by kernel_rfl) (by kernel_rfl) (by kernel_rfl) (fun _ _ _ h => h) (Or.inl ⟨by rfl, fun w hw => by obtain ⟨z0, z1, z2, z3, z4⟩ := hw; go_simp⟩) hHeld ?_
      simp only [Act.put, List.setIfInBounds_toArray, List.set_cons_zero, List.set_cons_succ]
      refine wpAnyH_take (i := 4) (v := .int .i64 ((T + 1) % 2)) rfl (by kernel_rfl) (by kernel_rfl) (by kernel_rfl) (fun _ _ _ h => h) (Or.inl ⟨by rfl, fun w hw => by obtain ⟨z0, z1, z2, z3, z4⟩ := hw; go_simp⟩) hHeld ?_
      simp only [Act.put, List.setIfInBounds_toArray, List.set_cons_zero, List.set_cons_succ]
      refine wpAnyH_take (i := 5) (v := .agg #[.int .i64 (T + 1), .int .i64 (1 - H), .int .i64 (F + Q), .int .i64 L]) rfl (by kernel_rfl) (by kernel_rfl) (by kernel_rfl) (fun _ _ _ h => h) (Or.inl ⟨by rfl, fun w hw => by obtain ⟨z0, z1, z2, z3, z4⟩ := hw; go_simp⟩) hHeld ?_
      simp only [Act.put, List.setIfInBounds_toArray, List.set_cons_zero, List.set_cons_succ]
      refine wpAnyH_take (i := 6) (v := .pointer (some ⟨w.heap.size, 0, none⟩)) rfl (by kernel_rfl) (by kernel_rfl) (by kernel_rfl) (fun _ _ _ h => h) (Or.inl ⟨by rfl, fun w hw => by obtain ⟨z0, z1, z2, z3, z4⟩ := hw; go_simp⟩) hHeld ?_
      simp only [Act.put, List.setIfInBounds_toArray, List.set_cons_zero, List.set_cons_succ]
      refine wpAnyH_take (i := 7) (v := .int .i64 (n : Int)) rfl (by kernel_rfl) (by kernel_rfl) (by kernel_rfl) (fun _ _ _ h => h) (Or.inl ⟨by rfl, fun w hw => by obtain ⟨z0, z1, z2, z3, z4⟩ := hw; go_simp⟩) hHeld ?_
      simp only [Act.put, List.setIfInBounds_toArray, List.set_cons_zero, List.set_cons_succ]
      refine wpAnyH_take (i := 10) (v := .agg #[.bool true, .int .i64 0, .string ⟨#[]⟩]) rfl (by kernel_rfl) (by kernel_rfl) (by kernel_rfl) (fun _ _ _ h => h) (Or.inl ⟨by rfl, fun w hw => by obtain ⟨z0, z1, z2, z3, z4⟩ := hw; go_simp⟩) hHeld ?_
      simp only [Act.put, List.setIfInBounds_toArray, List.set_cons_zero, List.set_cons_succ]
      refine wpAnyH_ready (rs := [8]) (by kernel_rfl) (by simp) ?_
      refine AllReadyH.cons rfl (fun K hK => ?_) AllReadyH.nil
      refine step_call (by rfl) 61 #[rootV (T + 1) (1 - H) (F + Q) L, .int .i64 (n : Int)] (by go_simp) (HRP.out _) ?_
      rintro e w4 ⟨rfl, hb4⟩
      refine ⟨_, rfl, ?_⟩
      have hb4' : Below wr.heap.size wr w4 := (Below.refl _ _).drew.trans hb4
      refine hK.out _ _ (HT.out _ (hb4'.mono hsr)) (fun hHd1 => ?_)
      clear hK K
      try simp only [Act.put, List.setIfInBounds_toArray, List.set_cons_zero, List.set_cons_succ]
      refine wpAnyH_ready (rs := [9]) (by kernel_rfl) (by simp) ?_
      refine AllReadyH.cons rfl (fun K hK => ?_) AllReadyH.nil
      refine step_call (by rfl) 42 #[.int .i64 ((T + 1) % 2), .string rp] (by go_simp) (put_s _ _ _) ?_
      rintro e w5 ⟨rfl, hb5⟩
      refine ⟨_, rfl, ?_⟩
      have hb5' : Below wr.heap.size wr w5 := hb4'.trans (hb5.mono hb4'.size)
      have hs5 : w.heap.size + 1 + 1 + 1 ≤ w5.heap.size := Nat.le_trans hsr hb5'.size
      have HOA := hid ((owns_below HGR.out.own hb5').alloc (.cells #[.bool true, .int .i64 0, .string ⟨#[]⟩, .bool false, .int .i64 ((T + 1) % 2), .string rp, .bool true, .int .i64 0, .string ⟨#[]⟩] 75))
      refine hK.out _ _ (HT.out _ (hb5'.mono hsr)) (fun hHd2 => ?_)
      clear hK K
      try simp only [Act.put, List.setIfInBounds_toArray, List.set_cons_zero, List.set_cons_succ]
      refine wpAnyH_ready (rs := [11]) (by kernel_rfl) (by simp) ?_
      refine AllReadyH.cons rfl (fun K hK => ?_) AllReadyH.nil
      go_simp
      refine hK.out _ _ (HT.out _ ((hb5'.mono hsr).alloc hs5 _)) (fun hHd3 => ?_)
      clear hK K
      try simp only [Act.put, List.setIfInBounds_toArray, List.set_cons_zero, List.set_cons_succ]
      refine wpAnyH_ready (rs := [12]) (by kernel_rfl) (by simp) ?_
      refine AllReadyH.cons rfl (fun K hK => ?_) AllReadyH.nil
      refine step_append_lies _ (by rfl) _ _ _ (by rfl) (w.heap.size + 1 + 1 + 1) 75 i0 (.agg #[.bool false, .int .i64 0, .string ByteArray.empty]) 3 32 Tryz.underlying36 HI.out.1 HI.out.2.1 HI.out.2.2.1 HI.out.2.2.2 rfl (by omega) (.slice ya acc.length yc) acc.length _ (by rfl) HOA.out ⟨w5.heap.size, 0, none⟩ 3 3 [.bool true, .int .i64 0, .string ⟨#[]⟩, .bool false, .int .i64 ((T + 1) % 2), .string rp, .bool true, .int .i64 0, .string ⟨#[]⟩] (by rfl) rfl (World.news_of_block (heap_alloc_new w5 _)) (oneOp3 _ _ _ _ _ _ _ _ _) (by omega) (by unfold maxLen; omega) (by omega) (by simp <;> omega) (w5.heap.size + 1) (by simp) ?_
      intro g9 cap9 w9 hown9 hgrow9 hat9 hlt9
      have hG9 := ((HGR.out.below hb5').below ((Below.refl _ _).alloc (Nat.le_refl _) _)).push (H := w5.heap.size + 1) hown9 hgrow9 (by rcases hat9 with h | h; exact .inl h; right; rw [h]; rfl) (by simp)
      have hb9 : Below (w.heap.size + 1 + 1 + 1) wr w9 := ((hb5'.mono hsr).alloc hs5 _).trans (below_of_grown hgrow9 (by simp; omega) (fun k hk => (HGR.out.own.lt k hk).1))
      have HG9 := hid hG9
      have HB9 := hid (HBW.out.trans hb9)
      clear hown9 hgrow9 hat9 hG9
      refine hK.out _ _ (HT.out _ hb9) (fun hHd4 => ?_)
      clear hK K
      try simp only [Act.put, List.setIfInBounds_toArray, List.set_cons_zero, List.set_cons_succ]
      refine wpAnyH_ready (rs := [13]) (by kernel_rfl) (by simp) ?_
      refine AllReadyH.cons rfl (fun K hK => ?_) AllReadyH.nil
      go_simp
      refine hK.out _ _ hHd4 (fun _ => ?_)
      clear hK K
      try simp only [Act.put, List.setIfInBounds_toArray, List.set_cons_zero, List.set_cons_succ]
      refine wpAnyH_done (by kernel_rfl) ?_ _
      clear hb9 hb5' hb5 hb4' hb4 hHeld hHd1 hHd2 hHd3 hHd4 HOA HGR HBW HT
      obtain ⟨hR0, hR1, hR2⟩ := HRW.out _ HB9.out
      have c00 := hR0.cell 0 _ rfl
      have c01 := hR0.cell 1 _ rfl
      have c02 := hR0.cell 2 _ rfl
      have c03 := hR0.cell 3 _ rfl
      have c04 := hR0.cell 4 _ rfl
      have c05 := hR0.cell 5 _ rfl
      have c06 := hR0.cell 6 _ rfl
      have c07 := hR0.cell 7 _ rfl
      have c08 := hR0.cell 8 _ rfl
      have c09 := hR0.cell 9 _ rfl
      have c10 := hR1.cell 0 _ rfl
      have f10 := hR1.froz 0 (by simp)
      have c11 := hR1.cell 1 _ rfl
      have f11 := hR1.froz 1 (by simp)
      have c12 := hR1.cell 2 _ rfl
      have f12 := hR1.froz 2 (by simp)
      have c13 := hR1.cell 3 _ rfl
      have f13 := hR1.froz 3 (by simp)
      have c14 := hR1.cell 4 _ rfl
      have f14 := hR1.froz 4 (by simp)
      have c15 := hR1.cell 5 _ rfl
      have f15 := hR1.froz 5 (by simp)
      have c16 := hR1.cell 6 _ rfl
      have f16 := hR1.froz 6 (by simp)
      have c17 := hR1.cell 7 _ rfl
      have f17 := hR1.froz 7 (by simp)
      have c18 := hR1.cell 8 _ rfl
      have f18 := hR1.froz 8 (by simp)
      have c19 := hR1.cell 9 _ rfl
      have f19 := hR1.froz 9 (by simp)
      have c110 := hR1.cell 10 _ rfl
      have f110 := hR1.froz 10 (by simp)
      have c111 := hR1.cell 11 _ rfl
      have f111 := hR1.froz 11 (by simp)
      have c20 := hR2.cell 0 _ rfl
      have c21 := hR2.cell 1 _ rfl
      have c22 := hR2.cell 2 _ rfl
      have c23 := hR2.cell 3 _ rfl
      have hs9 : w.heap.size + 1 + 1 + 1 ≤ w9.heap.size := by have := HB9.out.size; omega
      have hlA : w.heap.size < w9.heap.size := by omega
      have hlB : w.heap.size + 1 < w9.heap.size := by omega
      have hlC : w.heap.size + 1 + 1 < w9.heap.size := by omega
      clear hR0 hR1 hR2
      have HXB := hid (HB9.out.alloc hs9 (.cells #[.int .i64 (n : Int), .int .i64 S, .int .i64 L, .int .i64 (T + 1), .int .i64 (1 - H), .int .i64 (F + Q), .int .i64 L, .int .i64 (acc.length : Int), .int .i64 0, .slice a rs.length c] 35))
      go_wp2_with (first | (go_at_call 62; refine (copy_st_s a rs c _ (h.below (HBB.out.trans (HXB.out.mono (by omega)))) hl).mono ?_; rintro x w10 ⟨a3, c3, rfl, hc3, ho3, hg3, hb10⟩; have hRo := (row_new w9 #[.int .i64 (n : Int), .int .i64 S, .int .i64 L, .int .i64 (T + 1), .int .i64 (1 - H), .int .i64 (F + Q), .int .i64 L, .int .i64 (acc.length : Int), .int .i64 0, .slice a rs.length c] 35).below hb10; have hRd := (HRW.out _ (HXB.out.trans (hb10.mono (by simp; omega)))).2.1; have o00 : w10.cell? ⟨w9.heap.size, 0, none⟩ = some (.int .i64 (n : Int)) := hRo.cell 0 _ rfl; have p00 := hRo.froz 0 (by simp); have o01 : w10.cell? ⟨w9.heap.size, 1, none⟩ = some (.int .i64 S) := hRo.cell 1 _ rfl; have p01 := hRo.froz 1 (by simp); have o02 : w10.cell? ⟨w9.heap.size, 2, none⟩ = some (.int .i64 L) := hRo.cell 2 _ rfl; have p02 := hRo.froz 2 (by simp); have o03 : w10.cell? ⟨w9.heap.size, 3, none⟩ = some (.int .i64 (T + 1)) := hRo.cell 3 _ rfl; have p03 := hRo.froz 3 (by simp); have o04 : w10.cell? ⟨w9.heap.size, 4, none⟩ = some (.int .i64 (1 - H)) := hRo.cell 4 _ rfl; have p04 := hRo.froz 4 (by simp); have o05 : w10.cell? ⟨w9.heap.size, 5, none⟩ = some (.int .i64 (F + Q)) := hRo.cell 5 _ rfl; have p05 := hRo.froz 5 (by simp); have o06 : w10.cell? ⟨w9.heap.size, 6, none⟩ = some (.int .i64 L) := hRo.cell 6 _ rfl; have p06 := hRo.froz 6 (by simp); have o07 : w10.cell? ⟨w9.heap.size, 7, none⟩ = some (.int .i64 (acc.length : Int)) := hRo.cell 7 _ rfl; have p07 := hRo.froz 7 (by simp); have o08 : w10.cell? ⟨w9.heap.size, 8, none⟩ = some (.int .i64 0) := hRo.cell 8 _ rfl; have p08 := hRo.froz 8 (by simp); have o09 : w10.cell? ⟨w9.heap.size, 9, none⟩ = some (.slice a rs.length c) := hRo.cell 9 _ rfl; have p09 := hRo.froz 9 (by simp); have d10 := hRd.cell 0 _ rfl; have g10 := hRd.froz 0 (by simp); have d11 := hRd.cell 1 _ rfl; have g11 := hRd.froz 1 (by simp); have d12 := hRd.cell 2 _ rfl; have g12 := hRd.froz 2 (by simp); have d13 := hRd.cell 3 _ rfl; have g13 := hRd.froz 3 (by simp); have d14 := hRd.cell 4 _ rfl; have g14 := hRd.froz 4 (by simp); have d15 := hRd.cell 5 _ rfl; have g15 := hRd.froz 5 (by simp); have d16 := hRd.cell 6 _ rfl; have g16 := hRd.froz 6 (by simp); have d17 := hRd.cell 7 _ rfl; have g17 := hRd.froz 7 (by simp); have d18 := hRd.cell 8 _ rfl; have g18 := hRd.froz 8 (by simp); have d19 := hRd.cell 9 _ rfl; have g19 := hRd.froz 9 (by simp); have d110 := hRd.cell 10 _ rfl; have g110 := hRd.froz 10 (by simp); have d111 := hRd.cell 11 _ rfl; have g111 := hRd.froz 11 (by simp); have HO3 := hid ho3; have HG3 := hid hg3; have hl10 : w9.heap.size < w10.heap.size := hRo.lt; have HB10 := hid (HXB.out.trans (hb10.mono (by simp; omega))); have HW9 := hid hb10; clear hRo hRd ho3 hg3 hb10))
      have hg9s := HG9.out.own.lt g9 rfl
      have hgn : ∀ g, a3 = some ⟨g, 0, none⟩ → prcells rs ≠ [] → w9.heap.size < g := fun g hg hne => by have := HG3.out g (by subst hg; exact blk_pos _ _ _ (ne_of_prcells hne)); simp at this; omega
      have hap : Apart a3 rs.length (some ⟨g9, 0, none⟩) (acc.length + 3) := by
        cases hb : blk a3 rs.length with
        | none => exact .inl hb
        | some g =>
          have := HG3.out g hb
          simp at this
          refine .inr (.inr fun e => ?_)
          rw [hb, blk_pos _ _ _ (by omega)] at e
          cases e
          omega
      have hrow9 : Row w10 g9 (opcells (putOps q acc ++ [(true, 0, ByteArray.empty), (false, (T + 1) % 2, rp), (true, 0, ByteArray.empty)])) := by
        rw [opcells_append]
        exact (owns_row HG9.out.own).below ((Below.refl _ _).alloc (Nat.le_refl _) _ |>.trans (HW9.out.mono (by simp)))
      rw [← HAE.out]
      have hlen : (putOps q acc ++ [(true, 0, ByteArray.empty), (false, (T + 1) % 2, rp), (true, 0, ByteArray.empty)]).length = acc.length + 3 := by simp [putOps_length]
      refine bodyPost_ret (v := dnV ⟨0, (n : Int), S, L, T + 1, 1 - H, F + Q, L, (acc.length : Int), 0, rs, putOps q acc ++ [(true, 0, ByteArray.empty), (false, (T + 1) % 2, rp), (true, 0, ByteArray.empty)]⟩ a3 c3 (some ⟨g9, 0, none⟩) cap9) (by simp [results, Tryz.results22, go_sem, dnV, hlen, putOps_length, d10, d11, d12, d13, d14, d15, d16, d17, d18, d19, d110, d111]) rfl ⟨a3, c3, _, cap9, rfl, hc3, ⟨?_, ?_, ?_⟩, ?_, ?_, ?_⟩
      · iterate 12 (refine OwnS.set' ?_ _ (fun g hg hne => by have := hgn g hg hne; show w.heap.size + 1 ≠ g; omega) _)
        exact OwnS.set' HO3.out _ (fun g hg hne => by have := hgn g hg hne; show w9.heap.size ≠ g; omega) _
      · refine .inr ⟨g9, rfl, ?_⟩
        iterate 12 (refine Row.other ?_ _ (by show w.heap.size + 1 ≠ g9; omega) _)
        exact hrow9.other _ (by show w9.heap.size ≠ g9; omega) _
      · show Apart _ _ _ (putOps q acc ++ _).length
        rw [hlen]; exact hap
      · exact fun g hg => by have := HG3.out g hg; simp at this; omega
      · exact fun g hg => by change blk _ (putOps q acc ++ _).length = _ at hg; rw [hlen, blk_pos _ _ _ (by omega)] at hg; cases hg; omega
      · iterate 12 (refine Below.setCell ?_ (by show w.heap.size ≤ w.heap.size + 1; omega) _)
        exact (HBB.out.trans (HB10.out.mono (by omega))).setCell (p := ⟨w9.heap.size, 9, none⟩) (by show w.heap.size ≤ w9.heap.size; omega) _
set_option maxHeartbeats 16000000 in
theorem move_s (W S L T H F R U O : Int) (a : Option Addr) (rs : List Pr) (c : Nat) (w : World) (h : Prs w a rs) (hl : rs.length ≤ 1048576) (hs : ∀ x ∈ rs, x.1.size ≤ 1048576 ∧ x.2.size ≤ 1048576) (hok : mvOk W S L T H F rs) :
    Calls Tryz.prog 22 #[storeV W S L T H F R U O a rs.length c] w fun x w' => DnPost w w' x (moveD W S L T H F rs) := by
  unfold moveD mvFit
  by_cases hfit : T + 1 ≤ 1000000000 ∧ F + hv S ≤ 999999000
  case pos =>
    rw [decide_eq_true hfit]
    simp only [if_true]
    obtain ⟨hW, _⟩ := id hok
    obtain ⟨n, rfl⟩ : ∃ n : Nat, W = (n : Int) := ⟨W.toNat, by omega⟩
    exact move_s_ok S L T H F R U O n (56 - n) a rs c w h hl hs (by omega) (by omega) (by omega) hok hfit
  case neg =>
    rw [decide_eq_false hfit]
    simp only [Bool.false_eq_true, if_false]
    obtain ⟨hW, hS, hL, hT, hH, hF, _⟩ := hok
    have hQ := hv_yes hS
    have HH := hid (fun w' => halves_s S w')
    unfold storeV
    obtain ⟨Q, HQ⟩ : ∃ Q, Hid (Q = hv S) := ⟨_, hid rfl⟩
    rw [← HQ.out] at hQ HH hfit
    clear h hl hs
    go_enter Tryz.func22, Tryz.ntmps22
    go_wp2_with (first | (go_at_call 38; refine (HH.out _).mono ?_; rintro e wz ⟨rfl, hwz⟩; rw [hwz]; clear hwz wz))
    all_goals
      refine bodyPost_ret (v := dnV (noD 4) none 0 none 0) (by simp [results, Tryz.results22, go_sem, dnV, noD]) rfl (dn_no rfl ?_)
      exact (((Below.refl _ _).alloc (Nat.le_refl _) _).alloc (by simp) _).alloc (by simp <;> omega) _
end Go.Proofs.YtnmaknnnmjfhkafGreat

namespace Go.Proofs.YtnmaknnnmjfhkafGreat
open Go.RowKit
set_option linter.unusedVariables false
set_option linter.unusedSimpArgs false
set_option maxRecDepth 8000

set_option maxHeartbeats 16000000 in
theorem compact_s (W S L T H F R U O : Int) (a : Option Addr) (rs : List Pr) (c : Nat) (w : World) (h : Prs w a rs) (hl : rs.length ≤ 1048576) (hs : ∀ x ∈ rs, x.1.size ≤ 1048576 ∧ x.2.size ≤ 1048576) :
    Calls Tryz.prog 6 #[storeV W S L T H F R U O a rs.length c] w fun x w' => DnPost w w' x (compactD W S L T H F R U O rs) := by
  have HVS := hid (fun w' h' => vstore_s W S L T H F R U O a rs c w' h' hl hs)
  have hb0 : ∀ o1 o2, Below w.heap.size w ((w.alloc o1).alloc o2) := fun o1 o2 => ((Below.refl _ _).alloc (Nat.le_refl _) _).alloc (by simp) _
  unfold storeV at HVS ⊢
  unfold compactD
  cases hok : storeOk W S L T H F R U O rs with
  | false =>
    rw [hok] at HVS
    simp only [Bool.false_eq_true, if_false]
    go_enter Tryz.func6, Tryz.ntmps6
    go_wp2_with (go_at_call 21; refine (HVS.out _ (h.below (hb0 _ _))).mono ?_; rintro x w2 ⟨rfl, hb2⟩; have HB2 := hid ((hb0 _ _).trans (hb2.mono (by simp <;> omega))); have hl2 : w.heap.size + 1 < w2.heap.size := Nat.lt_of_lt_of_le (by simp) hb2.size; have hl2a : w.heap.size < w2.heap.size := Nat.lt_of_succ_lt hl2; have r1 := (row_at (w := w.alloc (.cells #[.int .i64 W, .int .i64 S, .int .i64 L, .int .i64 T, .int .i64 H, .int .i64 F, .int .i64 R, .int .i64 U, .int .i64 O, .slice a rs.length c] 35)) (A := #[.int .i64 0, .int .i64 0, .int .i64 0, .int .i64 0, .int .i64 0, .int .i64 0, .int .i64 0, .int .i64 0, .int .i64 0, .int .i64 0, .slice none 0 0, .slice none 0 0]) (t := 38) (g := w.heap.size + 1) (by simp)).below hb2; have d0 := r1.cell 0 _ rfl; have df0 := r1.froz 0 (by simp); have d1 := r1.cell 1 _ rfl; have df1 := r1.froz 1 (by simp); have d2 := r1.cell 2 _ rfl; have df2 := r1.froz 2 (by simp); have d3 := r1.cell 3 _ rfl; have df3 := r1.froz 3 (by simp); have d4 := r1.cell 4 _ rfl; have df4 := r1.froz 4 (by simp); have d5 := r1.cell 5 _ rfl; have df5 := r1.froz 5 (by simp); have d6 := r1.cell 6 _ rfl; have df6 := r1.froz 6 (by simp); have d7 := r1.cell 7 _ rfl; have df7 := r1.froz 7 (by simp); have d8 := r1.cell 8 _ rfl; have df8 := r1.froz 8 (by simp); have d9 := r1.cell 9 _ rfl; have df9 := r1.froz 9 (by simp); have d10 := r1.cell 10 _ rfl; have df10 := r1.froz 10 (by simp); have d11 := r1.cell 11 _ rfl; have df11 := r1.froz 11 (by simp); clear r1)
    refine bodyPost_ret (v := dnV (noD 1) none 0 none 0) (by simp [results, Tryz.results6, go_sem, dnV, noD, d0, d1, d2, d3, d4, d5, d6, d7, d8, d9, d10, d11]) rfl (dn_no rfl ?_)
    iterate 12 (refine Below.setCell ?_ (by show w.heap.size ≤ w.heap.size + 1; omega) _)
    exact HB2.out
  | true =>
    have hmv := mvOk_of hok
    rw [hok] at HVS
    simp only [if_true]
    have HMV := hid (fun w' h' => move_s W S L T H F R U O a rs c w' h' hl hs hmv)
    obtain ⟨D, HD⟩ : ∃ D, Hid (D = moveD W S L T H F rs) := ⟨_, hid rfl⟩
    rw [← HD.out] at HMV ⊢
    clear HD
    obtain ⟨C0, W0, S0, L0, T0, H0, F0, R0, U0, O0, ds, os⟩ := D
    unfold storeV at HMV
    unfold DnPost dnV at HMV
    simp only at HMV
    go_enter Tryz.func6, Tryz.ntmps6
    go_wp2_with (first | (go_at_call 21; refine (HVS.out _ (h.below (hb0 _ _))).mono ?_; rintro x w2 ⟨rfl, hb2⟩; have HB2 := hid ((hb0 _ _).trans (hb2.mono (by simp <;> omega))); have hl2 : w.heap.size + 1 < w2.heap.size := Nat.lt_of_lt_of_le (by simp) hb2.size; have hl2a : w.heap.size < w2.heap.size := Nat.lt_of_succ_lt hl2; have r0 := ((row_new w #[.int .i64 W, .int .i64 S, .int .i64 L, .int .i64 T, .int .i64 H, .int .i64 F, .int .i64 R, .int .i64 U, .int .i64 O, .slice a rs.length c] 35).alloc (.cells #[.int .i64 0, .int .i64 0, .int .i64 0, .int .i64 0, .int .i64 0, .int .i64 0, .int .i64 0, .int .i64 0, .int .i64 0, .int .i64 0, .slice none 0 0, .slice none 0 0] 38)).below hb2; have r1 := (row_at (w := w.alloc (.cells #[.int .i64 W, .int .i64 S, .int .i64 L, .int .i64 T, .int .i64 H, .int .i64 F, .int .i64 R, .int .i64 U, .int .i64 O, .slice a rs.length c] 35)) (A := #[.int .i64 0, .int .i64 0, .int .i64 0, .int .i64 0, .int .i64 0, .int .i64 0, .int .i64 0, .int .i64 0, .int .i64 0, .int .i64 0, .slice none 0 0, .slice none 0 0]) (t := 38) (g := w.heap.size + 1) (by simp)).below hb2; have x0 := r0.cell 0 _ rfl; have xf0 := r0.froz 0 (by simp); have x1 := r0.cell 1 _ rfl; have xf1 := r0.froz 1 (by simp); have x2 := r0.cell 2 _ rfl; have xf2 := r0.froz 2 (by simp); have x3 := r0.cell 3 _ rfl; have xf3 := r0.froz 3 (by simp); have x4 := r0.cell 4 _ rfl; have xf4 := r0.froz 4 (by simp); have x5 := r0.cell 5 _ rfl; have xf5 := r0.froz 5 (by simp); have x6 := r0.cell 6 _ rfl; have xf6 := r0.froz 6 (by simp); have x7 := r0.cell 7 _ rfl; have xf7 := r0.froz 7 (by simp); have x8 := r0.cell 8 _ rfl; have xf8 := r0.froz 8 (by simp); have x9 := r0.cell 9 _ rfl; have xf9 := r0.froz 9 (by simp); have HR1 := hid r1; clear r0 r1) | (go_at_call 22; refine (HMV.out _ (h.below HB2.out)).mono ?_; rintro x w3 ⟨az, cz, bz, ez, rfl, hcz, hoz, hz1, hz2, hb3⟩; have r1 := HR1.out.below hb3; have e0 := r1.cell 0 _ rfl; have ef0 := r1.froz 0 (by simp); have e1 := r1.cell 1 _ rfl; have ef1 := r1.froz 1 (by simp); have e2 := r1.cell 2 _ rfl; have ef2 := r1.froz 2 (by simp); have e3 := r1.cell 3 _ rfl; have ef3 := r1.froz 3 (by simp); have e4 := r1.cell 4 _ rfl; have ef4 := r1.froz 4 (by simp); have e5 := r1.cell 5 _ rfl; have ef5 := r1.froz 5 (by simp); have e6 := r1.cell 6 _ rfl; have ef6 := r1.froz 6 (by simp); have e7 := r1.cell 7 _ rfl; have ef7 := r1.froz 7 (by simp); have e8 := r1.cell 8 _ rfl; have ef8 := r1.froz 8 (by simp); have e9 := r1.cell 9 _ rfl; have ef9 := r1.froz 9 (by simp); have e10 := r1.cell 10 _ rfl; have ef10 := r1.froz 10 (by simp); have e11 := r1.cell 11 _ rfl; have ef11 := r1.froz 11 (by simp); have hl3 := r1.lt; clear r1))
    have hs2 := HB2.out.size
    have hn1 : ∀ g, az = some ⟨g, 0, none⟩ → prcells ds ≠ [] → w.heap.size + 1 ≠ g := fun g hg hne => by have := hz1 g (by subst hg; exact blk_pos _ _ _ (ne_of_prcells hne)); omega
    have hn2 : ∀ g, bz = some ⟨g, 0, none⟩ → opcells os ≠ [] → w.heap.size + 1 ≠ g := fun g hg hne => by have := hz2 g (by subst hg; exact blk_pos _ _ _ (ne_of_opcells hne)); omega
    refine bodyPost_ret (v := dnV ⟨C0, W0, S0, L0, T0, H0, F0, R0, U0, O0, ds, os⟩ az cz bz ez) (by simp [results, Tryz.results6, go_sem, dnV, e0, e1, e2, e3, e4, e5, e6, e7, e8, e9, e10, e11]) rfl ⟨az, cz, bz, ez, rfl, hcz, ⟨?_, ?_, hoz.ne⟩, ?_, ?_, ?_⟩
    · iterate 12 (refine OwnS.set' ?_ _ (fun g hg hne => hn1 g hg hne) _)
      exact hoz.s
    · iterate 12 (refine OwnS.set' ?_ _ (fun g hg hne => hn2 g hg hne) _)
      exact hoz.p
    · exact fun g hg => by have := hz1 g hg; omega
    · exact fun g hg => by have := hz2 g hg; omega
    · iterate 12 (refine Below.setCell ?_ (by show w.heap.size ≤ w.heap.size + 1; omega) _)
      exact HB2.out.trans (hb3.mono hs2)
set_option maxHeartbeats 16000000 in
theorem compact_i (W S L T H F R U O : Int) (a : Option Addr) (rs : List Pr) (c : Nat) (w : World) (h : Prs w a rs) (hc : rs.length ≤ c) (hl : rs.length ≤ 1048576) (hs : ∀ x ∈ rs, x.1.size ≤ 1048576 ∧ x.2.size ≤ 1048576) :
    Calls Tryz.prog 8 #[storeV W S L T H F R U O a rs.length c] w fun x w' => DnPost w w' x (compactD W S L T H F R U O rs) := by
  have HVS := hid (fun w' h' => vstore_i W S L T H F R U O a rs c w' h' hc hl hs)
  have hb0 : ∀ o1 o2, Below w.heap.size w ((w.alloc o1).alloc o2) := fun o1 o2 => ((Below.refl _ _).alloc (Nat.le_refl _) _).alloc (by simp) _
  unfold storeV at HVS ⊢
  unfold compactD
  cases hok : storeOk W S L T H F R U O rs with
  | false =>
    rw [hok] at HVS
    simp only [Bool.false_eq_true, if_false]
    go_enter Tryz.func8, Tryz.ntmps8
    go_wp2_with (go_at_call 25; refine (HVS.out _ (h.below (hb0 _ _))).mono ?_; rintro x w2 ⟨rfl, hb2⟩; have HB2 := hid ((hb0 _ _).trans (hb2.mono (by simp <;> omega))); have hl2 : w.heap.size + 1 < w2.heap.size := Nat.lt_of_lt_of_le (by simp) hb2.size; have hl2a : w.heap.size < w2.heap.size := Nat.lt_of_succ_lt hl2; have r1 := (row_at (w := w.alloc (.cells #[.int .i64 W, .int .i64 S, .int .i64 L, .int .i64 T, .int .i64 H, .int .i64 F, .int .i64 R, .int .i64 U, .int .i64 O, .slice a rs.length c] 35)) (A := #[.int .i64 0, .int .i64 0, .int .i64 0, .int .i64 0, .int .i64 0, .int .i64 0, .int .i64 0, .int .i64 0, .int .i64 0, .int .i64 0, .slice none 0 0, .slice none 0 0]) (t := 38) (g := w.heap.size + 1) (by simp)).below hb2; have d0 := r1.cell 0 _ rfl; have df0 := r1.froz 0 (by simp); have d1 := r1.cell 1 _ rfl; have df1 := r1.froz 1 (by simp); have d2 := r1.cell 2 _ rfl; have df2 := r1.froz 2 (by simp); have d3 := r1.cell 3 _ rfl; have df3 := r1.froz 3 (by simp); have d4 := r1.cell 4 _ rfl; have df4 := r1.froz 4 (by simp); have d5 := r1.cell 5 _ rfl; have df5 := r1.froz 5 (by simp); have d6 := r1.cell 6 _ rfl; have df6 := r1.froz 6 (by simp); have d7 := r1.cell 7 _ rfl; have df7 := r1.froz 7 (by simp); have d8 := r1.cell 8 _ rfl; have df8 := r1.froz 8 (by simp); have d9 := r1.cell 9 _ rfl; have df9 := r1.froz 9 (by simp); have d10 := r1.cell 10 _ rfl; have df10 := r1.froz 10 (by simp); have d11 := r1.cell 11 _ rfl; have df11 := r1.froz 11 (by simp); clear r1)
    refine bodyPost_ret (v := dnV (noD 1) none 0 none 0) (by simp [results, Tryz.results8, go_sem, dnV, noD, d0, d1, d2, d3, d4, d5, d6, d7, d8, d9, d10, d11]) rfl (dn_no rfl ?_)
    iterate 12 (refine Below.setCell ?_ (by show w.heap.size ≤ w.heap.size + 1; omega) _)
    exact HB2.out
  | true =>
    have hmv := mvOk_of hok
    rw [hok] at HVS
    simp only [if_true]
    have hW := hmv.1
    have HCP := hid (fun w' h' => copy_st_i a rs c w' h' hl)
    unfold CpPost stV at HCP
    unfold moveD
    cases hfit : mvFit S T F with
    | false =>
      unfold mvFit at hfit
      have hfit' := of_decide_eq_false hfit
      have HMV := hid (fun a' c' w' => move_i_no W S L T H F R U O a' rs c' w' hmv hfit')
      unfold storeV dnV noD at HMV
      simp only [List.length_nil] at HMV
      simp only [Bool.false_eq_true, if_false]
      clear hmv hfit hfit'
      go_enter Tryz.func8, Tryz.ntmps8
      go_wp2_with (first | (go_at_call 25; refine (HVS.out _ (h.below (hb0 _ _))).mono ?_; rintro x w2 ⟨rfl, hb2⟩; have HB2 := hid ((hb0 _ _).trans (hb2.mono (by simp <;> omega))); have hl2 : w.heap.size + 1 < w2.heap.size := Nat.lt_of_lt_of_le (by simp) hb2.size; have hl2a : w.heap.size < w2.heap.size := Nat.lt_of_succ_lt hl2; have r0 := ((row_new w #[.int .i64 W, .int .i64 S, .int .i64 L, .int .i64 T, .int .i64 H, .int .i64 F, .int .i64 R, .int .i64 U, .int .i64 O, .slice a rs.length c] 35).alloc (.cells #[.int .i64 0, .int .i64 0, .int .i64 0, .int .i64 0, .int .i64 0, .int .i64 0, .int .i64 0, .int .i64 0, .int .i64 0, .int .i64 0, .slice none 0 0, .slice none 0 0] 38)).below hb2; have r1 := (row_at (w := w.alloc (.cells #[.int .i64 W, .int .i64 S, .int .i64 L, .int .i64 T, .int .i64 H, .int .i64 F, .int .i64 R, .int .i64 U, .int .i64 O, .slice a rs.length c] 35)) (A := #[.int .i64 0, .int .i64 0, .int .i64 0, .int .i64 0, .int .i64 0, .int .i64 0, .int .i64 0, .int .i64 0, .int .i64 0, .int .i64 0, .slice none 0 0, .slice none 0 0]) (t := 38) (g := w.heap.size + 1) (by simp)).below hb2; have x0 := r0.cell 0 _ rfl; have xf0 := r0.froz 0 (by simp); have x1 := r0.cell 1 _ rfl; have xf1 := r0.froz 1 (by simp); have x2 := r0.cell 2 _ rfl; have xf2 := r0.froz 2 (by simp); have x3 := r0.cell 3 _ rfl; have xf3 := r0.froz 3 (by simp); have x4 := r0.cell 4 _ rfl; have xf4 := r0.froz 4 (by simp); have x5 := r0.cell 5 _ rfl; have xf5 := r0.froz 5 (by simp); have x6 := r0.cell 6 _ rfl; have xf6 := r0.froz 6 (by simp); have x7 := r0.cell 7 _ rfl; have xf7 := r0.froz 7 (by simp); have x8 := r0.cell 8 _ rfl; have xf8 := r0.froz 8 (by simp); have x9 := r0.cell 9 _ rfl; have xf9 := r0.froz 9 (by simp); have HR0 := hid r0; have HR1a := hid r1; clear r0 r1) | (go_at_call 26; refine (HCP.out _ (h.below HB2.out)).mono ?_; rintro x w4 ⟨a4, c4, rfl, hc4, ho4, hg4, hb4⟩; have HO4 := hid ho4; have hg4' : ∀ g, blk a4 rs.length = some g → w.heap.size + 1 < g := (fun g hg => Nat.lt_of_lt_of_le hl2 (hg4 g hg)); have HG4 := hid hg4'; have r0 := HR0.out.below hb4; have HR1 := hid (HR1a.out.below hb4); have HB4a := hid (HB2.out.trans (hb4.mono HB2.out.size)); have y0 := r0.cell 0 _ rfl; have yf0 := r0.froz 0 (by simp); have y1 := r0.cell 1 _ rfl; have yf1 := r0.froz 1 (by simp); have y2 := r0.cell 2 _ rfl; have yf2 := r0.froz 2 (by simp); have y3 := r0.cell 3 _ rfl; have yf3 := r0.froz 3 (by simp); have y4 := r0.cell 4 _ rfl; have yf4 := r0.froz 4 (by simp); have y5 := r0.cell 5 _ rfl; have yf5 := r0.froz 5 (by simp); have y6 := r0.cell 6 _ rfl; have yf6 := r0.froz 6 (by simp); have y7 := r0.cell 7 _ rfl; have yf7 := r0.froz 7 (by simp); have y8 := r0.cell 8 _ rfl; have yf8 := r0.froz 8 (by simp); have y9 := r0.cell 9 _ rfl; have yf9 := r0.froz 9 (by simp); have hl4 : w.heap.size + 1 < w4.heap.size := HR1.out.lt; have hl4a : w.heap.size < w4.heap.size := Nat.lt_of_succ_lt hl4; clear ho4 hg4 hg4' r0 hb4; have HB4 := hid (HB4a.out.setCell (p := ⟨w.heap.size, 9, none⟩) (Nat.le_refl _) (.slice a4 rs.length c4))) | (go_at_call 27; refine (HMV.out _ _ _).mono ?_; rintro x w5 ⟨rfl, hb5⟩; have r1 := (HR1.out.other ⟨w.heap.size, 9, none⟩ (by show w.heap.size ≠ _; omega) _).below hb5; have e0 := r1.cell 0 _ rfl; have ef0 := r1.froz 0 (by simp); have e1 := r1.cell 1 _ rfl; have ef1 := r1.froz 1 (by simp); have e2 := r1.cell 2 _ rfl; have ef2 := r1.froz 2 (by simp); have e3 := r1.cell 3 _ rfl; have ef3 := r1.froz 3 (by simp); have e4 := r1.cell 4 _ rfl; have ef4 := r1.froz 4 (by simp); have e5 := r1.cell 5 _ rfl; have ef5 := r1.froz 5 (by simp); have e6 := r1.cell 6 _ rfl; have ef6 := r1.froz 6 (by simp); have e7 := r1.cell 7 _ rfl; have ef7 := r1.froz 7 (by simp); have e8 := r1.cell 8 _ rfl; have ef8 := r1.froz 8 (by simp); have e9 := r1.cell 9 _ rfl; have ef9 := r1.froz 9 (by simp); have e10 := r1.cell 10 _ rfl; have ef10 := r1.froz 10 (by simp); have e11 := r1.cell 11 _ rfl; have ef11 := r1.froz 11 (by simp); have hl5 := r1.lt; clear r1))
      refine bodyPost_ret (v := dnV (noD 4) none 0 none 0) (by simp [results, Tryz.results8, go_sem, dnV, noD, e0, e1, e2, e3, e4, e5, e6, e7, e8, e9, e10, e11]) rfl (dn_no rfl ?_)
      iterate 12 (refine Below.setCell ?_ (by show w.heap.size ≤ w.heap.size + 1; omega) _)
      exact HB4.out.trans (hb5.mono HB4.out.size)
    | true =>
      unfold mvFit at hfit
      have hfit' := of_decide_eq_true hfit
      obtain ⟨n, rfl⟩ : ∃ n : Nat, W = (n : Int) := ⟨W.toNat, by omega⟩
      have HMV := hid (fun a' c' w' h' hc' => move_i_ok S L T H F R U O n (56 - n) a' rs c' w' h' hc' hl hs (by omega) (by omega) (by omega) hmv hfit')
      have hrs : (mvD (n : Int) S L T H F rs).rs = rs := rfl
      simp only [if_true]
      obtain ⟨D, HD⟩ : ∃ D, Hid (D = mvD (n : Int) S L T H F rs) := ⟨_, hid rfl⟩
      rw [← HD.out] at HMV hrs ⊢
      clear HD hmv hfit hfit'
      obtain ⟨C0, W0, S0, L0, T0, H0, F0, R0, U0, O0, ds, os⟩ := D
      simp only at hrs
      subst hrs
      unfold storeV at HMV
      unfold MvPost dnV at HMV
      simp only at HMV
      go_enter Tryz.func8, Tryz.ntmps8
      go_wp2_with (first | (go_at_call 25; refine (HVS.out _ (h.below (hb0 _ _))).mono ?_; rintro x w2 ⟨rfl, hb2⟩; have HB2 := hid ((hb0 _ _).trans (hb2.mono (by simp <;> omega))); have hl2 : w.heap.size + 1 < w2.heap.size := Nat.lt_of_lt_of_le (by simp) hb2.size; have hl2a : w.heap.size < w2.heap.size := Nat.lt_of_succ_lt hl2; have r0 := ((row_new w #[.int .i64 (n : Int), .int .i64 S, .int .i64 L, .int .i64 T, .int .i64 H, .int .i64 F, .int .i64 R, .int .i64 U, .int .i64 O, .slice a ds.length c] 35).alloc (.cells #[.int .i64 0, .int .i64 0, .int .i64 0, .int .i64 0, .int .i64 0, .int .i64 0, .int .i64 0, .int .i64 0, .int .i64 0, .int .i64 0, .slice none 0 0, .slice none 0 0] 38)).below hb2; have r1 := (row_at (w := w.alloc (.cells #[.int .i64 (n : Int), .int .i64 S, .int .i64 L, .int .i64 T, .int .i64 H, .int .i64 F, .int .i64 R, .int .i64 U, .int .i64 O, .slice a ds.length c] 35)) (A := #[.int .i64 0, .int .i64 0, .int .i64 0, .int .i64 0, .int .i64 0, .int .i64 0, .int .i64 0, .int .i64 0, .int .i64 0, .int .i64 0, .slice none 0 0, .slice none 0 0]) (t := 38) (g := w.heap.size + 1) (by simp)).below hb2; have x0 := r0.cell 0 _ rfl; have xf0 := r0.froz 0 (by simp); have x1 := r0.cell 1 _ rfl; have xf1 := r0.froz 1 (by simp); have x2 := r0.cell 2 _ rfl; have xf2 := r0.froz 2 (by simp); have x3 := r0.cell 3 _ rfl; have xf3 := r0.froz 3 (by simp); have x4 := r0.cell 4 _ rfl; have xf4 := r0.froz 4 (by simp); have x5 := r0.cell 5 _ rfl; have xf5 := r0.froz 5 (by simp); have x6 := r0.cell 6 _ rfl; have xf6 := r0.froz 6 (by simp); have x7 := r0.cell 7 _ rfl; have xf7 := r0.froz 7 (by simp); have x8 := r0.cell 8 _ rfl; have xf8 := r0.froz 8 (by simp); have x9 := r0.cell 9 _ rfl; have xf9 := r0.froz 9 (by simp); have HR0 := hid r0; have HR1a := hid r1; clear r0 r1) | (go_at_call 26; refine (HCP.out _ (h.below HB2.out)).mono ?_; rintro x w4 ⟨a4, c4, rfl, hc4, ho4, hg4, hb4⟩; have HO4 := hid ho4; have hg4' : ∀ g, blk a4 ds.length = some g → w.heap.size + 1 < g := (fun g hg => Nat.lt_of_lt_of_le hl2 (hg4 g hg)); have HG4 := hid hg4'; have r0 := HR0.out.below hb4; have HR1 := hid (HR1a.out.below hb4); have HB4a := hid (HB2.out.trans (hb4.mono HB2.out.size)); have y0 := r0.cell 0 _ rfl; have yf0 := r0.froz 0 (by simp); have y1 := r0.cell 1 _ rfl; have yf1 := r0.froz 1 (by simp); have y2 := r0.cell 2 _ rfl; have yf2 := r0.froz 2 (by simp); have y3 := r0.cell 3 _ rfl; have yf3 := r0.froz 3 (by simp); have y4 := r0.cell 4 _ rfl; have yf4 := r0.froz 4 (by simp); have y5 := r0.cell 5 _ rfl; have yf5 := r0.froz 5 (by simp); have y6 := r0.cell 6 _ rfl; have yf6 := r0.froz 6 (by simp); have y7 := r0.cell 7 _ rfl; have yf7 := r0.froz 7 (by simp); have y8 := r0.cell 8 _ rfl; have yf8 := r0.froz 8 (by simp); have y9 := r0.cell 9 _ rfl; have yf9 := r0.froz 9 (by simp); have hl4 : w.heap.size + 1 < w4.heap.size := HR1.out.lt; have hl4a : w.heap.size < w4.heap.size := Nat.lt_of_succ_lt hl4; clear ho4 hg4 hg4' r0 hb4; have HB4 := hid (HB4a.out.setCell (p := ⟨w.heap.size, 9, none⟩) (Nat.le_refl _) (.slice a4 ds.length c4))) | (go_at_call 27; refine (HMV.out _ _ _ ((HO4.out.set' ⟨w.heap.size, 9, none⟩ (fun g hg hne => by have := HG4.out g (by subst hg; exact blk_pos _ _ _ (ne_of_prcells hne)); show w.heap.size ≠ g; omega) _).prs) hc4).mono ?_; rintro x w5 ⟨bz, ez, rfl, hoz, hz2, hb5⟩; have r1 := (HR1.out.other ⟨w.heap.size, 9, none⟩ (by show w.heap.size ≠ _; omega) _).below hb5; have e0 := r1.cell 0 _ rfl; have ef0 := r1.froz 0 (by simp); have e1 := r1.cell 1 _ rfl; have ef1 := r1.froz 1 (by simp); have e2 := r1.cell 2 _ rfl; have ef2 := r1.froz 2 (by simp); have e3 := r1.cell 3 _ rfl; have ef3 := r1.froz 3 (by simp); have e4 := r1.cell 4 _ rfl; have ef4 := r1.froz 4 (by simp); have e5 := r1.cell 5 _ rfl; have ef5 := r1.froz 5 (by simp); have e6 := r1.cell 6 _ rfl; have ef6 := r1.froz 6 (by simp); have e7 := r1.cell 7 _ rfl; have ef7 := r1.froz 7 (by simp); have e8 := r1.cell 8 _ rfl; have ef8 := r1.froz 8 (by simp); have e9 := r1.cell 9 _ rfl; have ef9 := r1.froz 9 (by simp); have e10 := r1.cell 10 _ rfl; have ef10 := r1.froz 10 (by simp); have e11 := r1.cell 11 _ rfl; have ef11 := r1.froz 11 (by simp); have hl5 := r1.lt; clear r1))
      have hs4 := HB4.out.size
      have hn1 : ∀ g, a4 = some ⟨g, 0, none⟩ → prcells ds ≠ [] → w.heap.size + 1 ≠ g := fun g hg hne => by have := HG4.out g (by subst hg; exact blk_pos _ _ _ (ne_of_prcells hne)); omega
      have hn2 : ∀ g, bz = some ⟨g, 0, none⟩ → opcells os ≠ [] → w.heap.size + 1 ≠ g := fun g hg hne => by have := hz2 g (by subst hg; exact blk_pos _ _ _ (ne_of_opcells hne)); simp [World.setCell] at this; omega
      have hap : Apart a4 ds.length bz os.length := by
        cases hb : blk a4 ds.length with
        | none => exact .inl hb
        | some g =>
          cases hb' : blk bz os.length with
          | none => exact .inr (.inl hb')
          | some g' =>
            have h1 := HO4.out.lt ds.length prcells_ne g hb
            have h2 := hz2 g' hb'
            simp [World.setCell] at h2
            refine .inr (.inr fun e => ?_)
            rw [hb, hb'] at e
            cases e
            omega
      refine bodyPost_ret (v := dnV ⟨C0, W0, S0, L0, T0, H0, F0, R0, U0, O0, ds, os⟩ a4 c4 bz ez) (by simp [results, Tryz.results8, go_sem, dnV, e0, e1, e2, e3, e4, e5, e6, e7, e8, e9, e10, e11]) rfl ⟨a4, c4, bz, ez, rfl, hc4, ⟨?_, ?_, hap⟩, ?_, ?_, ?_⟩
      · iterate 12 (refine OwnS.set' ?_ _ (fun g hg hne => hn1 g hg hne) _)
        refine OwnS.below ?_ hb5
        exact OwnS.set' HO4.out _ (fun g hg hne => by have := HG4.out g (by subst hg; exact blk_pos _ _ _ (ne_of_prcells hne)); show w.heap.size ≠ g; omega) _
      · iterate 12 (refine OwnS.set' ?_ _ (fun g hg hne => hn2 g hg hne) _)
        exact hoz
      · exact fun g hg => by have := HG4.out g hg; omega
      · exact fun g hg => by have := hz2 g hg; simp [World.setCell] at this; omega
      · iterate 12 (refine Below.setCell ?_ (by show w.heap.size ≤ w.heap.size + 1; omega) _)
        exact HB4.out.trans (hb5.mono HB4.out.size)
end Go.Proofs.YtnmaknnnmjfhkafGreat

namespace Go.Proofs.YtnmaknnnmjfhkafGreat
open Go.RowKit
set_option linter.unusedVariables false
set_option linter.unusedSimpArgs false
set_option maxRecDepth 8000

theorem eqroot' (t h f l : Int) (w : World) : Calls Tryz.prog 29 #[.agg #[.int .i64 t, .int .i64 h, .int .i64 f, .int .i64 l], .agg #[.int .i64 t, .int .i64 h, .int .i64 f, .int .i64 l]] w fun e w' => e = .returned (.bool true) ∧ Below w.heap.size w w' := by
  go_enter Tryz.func29, Tryz.ntmps29
  go_wp2
  all_goals go_ret
  all_goals exact ⟨rfl, ((Below.refl _ _).alloc (Nat.le_refl _) _).alloc (by simp) _⟩

set_option maxHeartbeats 16000000 in
theorem eq_store (W S L T H F R U O : Int) (a b : Option Addr) (rs : List (ByteArray × ByteArray)) (c d : Nat) (w : World) (h1 : Prs w a rs) (h2 : Prs w b rs) (hl : rs.length ≤ 1048576) :
    Calls Tryz.prog 10 #[storeV W S L T H F R U O a rs.length c, storeV W S L T H F R U O b rs.length d] w fun e w' => e = .returned (.bool true) ∧ Below w.heap.size w w' := by
  unfold storeV
  have hb0 : ∀ o1 o2, Below w.heap.size w ((w.alloc o1).alloc o2) := fun o1 o2 => ((Below.refl _ _).alloc (Nat.le_refl _) _).alloc (by simp) _
  go_enter Tryz.func10, Tryz.ntmps10
  go_wp2_with (first | (go_at_call 29; refine (eqroot' T H F R _).mono ?_; rintro e w1 ⟨rfl, hb1⟩; have HB1 := hid ((hb0 _ _).trans (hb1.mono (by simp <;> omega))); have w1p7 : w1.cell? ⟨w.heap.size, 7, none⟩ = some (.int .i64 U) := (hb1.cell (p := ⟨w.heap.size, 7, none⟩) (by simp <;> omega)).trans (by go_simp); have w1p8 : w1.cell? ⟨w.heap.size, 8, none⟩ = some (.int .i64 O) := (hb1.cell (p := ⟨w.heap.size, 8, none⟩) (by simp <;> omega)).trans (by go_simp); have w1p9 : w1.cell? ⟨w.heap.size, 9, none⟩ = some (.slice a rs.length c) := (hb1.cell (p := ⟨w.heap.size, 9, none⟩) (by simp <;> omega)).trans (by go_simp); have w1q7 : w1.cell? ⟨w.heap.size + 1, 7, none⟩ = some (.int .i64 U) := (hb1.cell (p := ⟨w.heap.size + 1, 7, none⟩) (by simp <;> omega)).trans (by go_simp); have w1q8 : w1.cell? ⟨w.heap.size + 1, 8, none⟩ = some (.int .i64 O) := (hb1.cell (p := ⟨w.heap.size + 1, 8, none⟩) (by simp <;> omega)).trans (by go_simp); have w1q9 : w1.cell? ⟨w.heap.size + 1, 9, none⟩ = some (.slice b rs.length d) := (hb1.cell (p := ⟨w.heap.size + 1, 9, none⟩) (by simp <;> omega)).trans (by go_simp); clear hb1) | (go_at_call 30; refine (eq_state a b rs c d _ (h1.below HB1.out) (h2.below HB1.out) hl).mono ?_; rintro e w2 ⟨rfl, hb2⟩))
  go_ret
  exact ⟨rfl, HB1.out.trans (hb2.mono HB1.out.size)⟩
end Go.Proofs.YtnmaknnnmjfhkafGreat
