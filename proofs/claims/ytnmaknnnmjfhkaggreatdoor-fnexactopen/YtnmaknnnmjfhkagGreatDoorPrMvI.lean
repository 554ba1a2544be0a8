import Derived.Test.YtnmaknnnmjfhkagGreatDoorPrG43
import Derived.Test.YtnmaknnnmjfhkagGreatDoorPrG42
import Derived.Test.YtnmaknnnmjfhkagGreatDoorPrG41
import Derived.Test.YtnmaknnnmjfhkagGreatDoorPrG44
import Derived.Test.YtnmaknnnmjfhkagGreatDoorPrSnT
namespace Go.Proofs.YtnmaknnnmjfhkagGreatDoor
open Go.RowKit
set_option linter.unusedVariables false
set_option linter.unusedSimpArgs false
set_option maxRecDepth 8000
theorem wrt_push {W w w9 : World} {base g g9 cap9 : Nat} {va : Option Addr} {vc : Nat} {os : List OpT} {x : OpT} {at_ nm lf wd : Int} {o : Obj} (h : Wrt w base g (.slice va os.length vc) os at_ nm lf wd) (hb : base ≤ w.heap.size) (hB : Below base W w)
    (hown : w9.ownsRow base 110 3 (.slice (some ⟨g9, 0, none⟩) (os.length + 1) cap9) (os.length + 1) (opcells os ++ [.bool x.1, .int .i64 x.2.1, .string x.2.2])) (hg : (w.alloc o).grownBy w9 (Value.slice va os.length vc).ownBlock)
    (hat : (Value.slice va os.length vc).ownBlock = some g9 ∨ g9 = w.heap.size + 1) :
    Row w9 g [.slice va os.length vc, .int .i64 at_, .int .i64 nm, .int .i64 lf, .int .i64 wd] ∧ Wrt (w9.setCell ⟨g, 0, none⟩ (.slice (some ⟨g9, 0, none⟩) (os.length + 1) cap9)) base g (.slice (some ⟨g9, 0, none⟩) (os.length + 1) cap9) (os ++ [x]) at_ nm lf wd ∧ Below base W w9 ∧ Below base W (w9.setCell ⟨g, 0, none⟩ (.slice (some ⟨g9, 0, none⟩) (os.length + 1) cap9)) := by
  have hr := (h.row.alloc o).grown hg (fun e => h.ne e.symm)
  have lg := h.row.lt
  have hne9 : g9 ≠ g := by
    rcases hat with e | e
    · exact fun e2 => h.ne (by rw [← e2]; exact e)
    · omega
  have hB9 := below_grownS (hB.alloc hb _) (h.own.alloc o) hg (by simp; omega)
  have hrow := hr.set 0 (by simp) (.slice (some ⟨g9, 0, none⟩) (os.length + 1) cap9)
  refine ⟨hr, ⟨hrow, ?_, h.ge, by simp [Value.ownBlock]; exact hne9⟩, hB9, hB9.setCell (p := ⟨g, 0, none⟩) h.ge _⟩
  have hgs : w9.grownBy (w9.setCell ⟨g, 0, none⟩ (.slice (some ⟨g9, 0, none⟩) (os.length + 1) cap9)) (some g) := ⟨rfl, rfl, rfl, by simp [World.setCell], fun k _ hk => Below.heap_setCell _ _ _ k (fun e => hk (by rw [e]))⟩
  have := hown.kept hgs (.inr (by simp [Value.ownBlock]; exact hne9))
  obtain ⟨b, n, s⟩ := x
  rw [List.length_append, opcells_append]
  exact this
theorem Wrt.sl {w : World} {base g : Nat} {v : Value} {os : List OpT} {at_ nm lf wd : Int} (h : Wrt w base g v os at_ nm lf wd) : ∃ va vc, v = Value.slice va os.length vc := by
  rcases owns_forms h.own with ⟨e1, e2⟩ | ⟨g, cap, e1, _⟩
  · exact ⟨none, 0, by rw [e1, e2]⟩
  · exact ⟨_, cap, e1⟩
theorem Wrt.count {w : World} {base g : Nat} {v : Value} {os : List OpT} {at_ nm lf wd : Int} {x y : Int} (h : Wrt w base g v os at_ nm lf wd) : Wrt ((w.setCell ⟨g, 1, none⟩ (.int .i64 x)).setCell ⟨g, 2, none⟩ (.int .i64 y)) base g v os x y lf wd := by
  refine ⟨(h.row.set 1 (by simp) (.int .i64 x)).set 2 (by simp) (.int .i64 y), ?_, h.ge, h.ne⟩
  have hgs : w.grownBy ((w.setCell ⟨g, 1, none⟩ (.int .i64 x)).setCell ⟨g, 2, none⟩ (.int .i64 y)) (some g) := ⟨rfl, rfl, rfl, by simp [World.setCell], fun k _ hk => (Below.heap_setCell _ _ _ k (fun e => hk (by rw [e]))).trans (Below.heap_setCell _ _ _ k (fun e => hk (by rw [e])))⟩
  exact h.own.kept hgs (.inr h.ne)
structure WK (g : Nat) (w : World) (v : Value) (w' : World) (v' : Value) : Prop where
  size : w.heap.size ≤ w'.heap.size
  own : ∀ k, v'.ownBlock = some k → v.ownBlock = some k ∨ w.heap.size ≤ k
  blk : ∀ b, b < w.heap.size → b ≠ g → some b ≠ v.ownBlock → w'.heap[b]? = w.heap[b]?
theorem WK.start (g : Nat) (w : World) (v : Value) : WK g w v w v := ⟨Nat.le_refl _, fun _ h => .inl h, fun _ _ _ _ => rfl⟩
theorem WK.trans {g : Nat} {w w1 w2 : World} {v v1 v2 : Value} (h : WK g w v w1 v1) (k : WK g w1 v1 w2 v2) : WK g w v w2 v2 :=
  ⟨Nat.le_trans h.size k.size, fun j hj => (k.own j hj).elim (h.own j) (fun e => .inr (Nat.le_trans h.size e)), fun b hb h1 h2 => (k.blk b (Nat.lt_of_lt_of_le hb h.size) h1 (fun e => (h.own b e.symm).elim (fun e => h2 e.symm) (fun e => by omega))).trans (h.blk b hb h1 h2)⟩
theorem WK.below {g : Nat} {w w1 w2 : World} {v v1 : Value} (h : WK g w v w1 v1) (k : Below w1.heap.size w1 w2) : WK g w v w2 v1 := h.trans ⟨k.size, fun _ h => .inl h, fun b hb _ _ => k.block b hb⟩
theorem Row.wk {w w' : World} {k g : Nat} {v v' : Value} {cs : List Value} (h : Row w k cs) (hk : WK g w v w' v') (h1 : k ≠ g) (h2 : some k ≠ v.ownBlock) : Row w' k cs := by
  have e := hk.blk k h.lt h1 h2
  refine ⟨Nat.lt_of_lt_of_le h.lt hk.size, fun i v hv => (?_ : w'.cell? ⟨k, i, none⟩ = some v), fun i hi => ?_⟩
  · rw [← h.cell i v hv]; simp [World.cell?, e]
  · rw [← h.froz i hi]; simp [World.frozen?, e]
theorem push_blocks {w w9 : World} {g : Nat} {r : Option Nat} {o : Obj} {u x y : Value} (hg : (w.alloc o).grownBy w9 r) : ∀ b, b < w.heap.size → b ≠ g → some b ≠ r → (((w9.setCell ⟨g, 0, none⟩ u).setCell ⟨g, 1, none⟩ x).setCell ⟨g, 2, none⟩ y).heap[b]? = w.heap[b]? := fun b hb h1 h2 => by
  rw [Below.heap_setCell _ _ _ b (fun e => h1 (by rw [e])), Below.heap_setCell _ _ _ b (fun e => h1 (by rw [e])), Below.heap_setCell _ _ _ b (fun e => h1 (by rw [e])), hg.block b (by simp; omega) h2]
  exact ((Below.refl w.heap.size w).alloc (Nat.le_refl _) o).block b hb
set_option maxHeartbeats 4000000 in
theorem page_i2 (base g : Nat) (v : Value) (os : List OpT) (at_ nm lf wd : Int) (form : ByteArray) (w : World) (h : Wrt w base g v os at_ nm lf wd) (hb : base ≤ w.heap.size) (hl : os.length ≤ 1000) (ha0 : 0 ≤ at_) (ha1 : at_ ≤ 100000) (hn0 : 0 ≤ nm) (hn1 : nm ≤ 2000000000) :
    Calls Tryz.prog 189 #[.pointer (some ⟨g, 0, none⟩), .string form] w fun e w' => (∃ x, e = .returned x) ∧ ∃ v', Wrt w' base g v' (os ++ [(false, at_, form)]) (at_ + 1) (nm + 1) lf wd ∧ Below base w w' ∧ WK g w v w' v' := by
  obtain ⟨i0, hi0, hz0, hz1, hz2⟩ := info_partsP info_opW
  have HI := hid (And.intro hi0 (And.intro hz0 (And.intro hz1 hz2)))
  clear hi0 hz0 hz1 hz2
  obtain ⟨va, vc, rfl⟩ := h.sl
  have q0 : w.drew.cell? ⟨g, 0, none⟩ = some (.slice va os.length vc) := h.row.drew.cell 0 _ rfl
  have qa : (w.drew.alloc (.cells #[.bool false, .int .i64 at_, .string form] 110)).cell? ⟨g, 0, none⟩ = some (.slice va os.length vc) := (h.row.drew.alloc _).cell 0 _ rfl
  have q00 : w.cell? ⟨g, 0, none⟩ = some (.slice va os.length vc) := h.row.cell 0 _ rfl
  have lg := h.row.lt
  have HW := hid h
  have HOA := hid (owns_below h.own ((Below.refl _ _).drew.alloc (Nat.le_refl _) (.cells #[.bool false, .int .i64 at_, .string form] 110)))
  have HSA : Hid ((w.drew.alloc (.cells #[.bool false, .int .i64 at_, .string form] 110)).cell? ⟨g, 1, none⟩ = some (.int .i64 at_) ∧ g < (w.drew.alloc (.cells #[.bool false, .int .i64 at_, .string form] 110)).heap.size) := ⟨(h.row.drew.alloc _).cell 1 _ rfl, (h.row.drew.alloc _).lt⟩
  go_enter Tryz.func189, Tryz.ntmps189
  go_wp2_with fail
  refine wp_region_held_drew (S := fun w' => w'.cell? ⟨g, 1, none⟩ = some (.int .i64 at_) ∧ g < w'.heap.size) (by kernel_rfl) (⟨h.row.drew.cell 1 _ rfl, h.row.drew.lt⟩) (fun hHeld => ?_)
  refine TK (i := 0) (v := .pointer (some ⟨g, 0, none⟩)) rfl (Or.inl ⟨by rfl, fun w hw => by obtain ⟨z0, z1⟩ := hw; go_simp⟩) hHeld ?_
  simp only [PS]
  refine TK (i := 1) (v := .pointer (some ⟨g, 0, none⟩)) rfl (Or.inl ⟨by rfl, fun w hw => by obtain ⟨z0, z1⟩ := hw; go_simp⟩) hHeld ?_
  simp only [PS]
  refine TK (i := 2) (v := .pointer (some ⟨g, 0, none⟩)) rfl (Or.inl ⟨by rfl, fun w hw => by obtain ⟨z0, z1⟩ := hw; go_simp⟩) hHeld ?_
  simp only [PS]
  refine TK (i := 3) (v := .pointer (some ⟨g, 0, none⟩)) rfl (Or.inl ⟨by rfl, fun w hw => by obtain ⟨z0, z1⟩ := hw; go_simp⟩) hHeld ?_
  simp only [PS]
  refine TK (i := 5) (v := .pointer (some ⟨g, 0, none⟩)) rfl (Or.inl ⟨by rfl, fun w hw => by obtain ⟨z0, z1⟩ := hw; go_simp⟩) hHeld ?_
  simp only [PS]
  refine TK (i := 6) (v := .pointer (some ⟨g, 0, none⟩)) rfl (Or.inl ⟨by rfl, fun w hw => by obtain ⟨z0, z1⟩ := hw; go_simp⟩) hHeld ?_
  simp only [PS]
  refine TK (i := 7) (v := .pointer (some ⟨g, 1, none⟩)) rfl (Or.inl ⟨by rfl, fun w hw => by obtain ⟨z0, z1⟩ := hw; go_simp⟩) hHeld ?_
  simp only [PS]
  refine TK (i := 8) (v := .int .i64 at_) rfl (Or.inl ⟨by rfl, fun w hw => by obtain ⟨z0, z1⟩ := hw; go_simp⟩) hHeld ?_
  simp only [PS]
  refine TK (i := 9) (v := .string form) rfl (Or.inl ⟨by rfl, fun w hw => by obtain ⟨z0, z1⟩ := hw; go_simp⟩) hHeld ?_
  simp only [PS]
  refine TK (i := 10) (v := .agg #[.bool false, .int .i64 at_, .string form]) rfl (Or.inl ⟨by rfl, fun w hw => by obtain ⟨z0, z1⟩ := hw; go_simp⟩) hHeld ?_
  simp only [PS]
  refine wpAnyH_ready (rs := [4, 11]) (by kernel_rfl) (by simp) ?_
  refine AllReadyH.cons rfl (fun K hK => ?_) (AllReadyH.cons rfl (fun K hK => ?_) AllReadyH.nil)
  · go_simp
    refine hK.out _ _ hHeld (fun _ => ?_)
    clear hK K
    try simp only [PS]
    refine wpAnyH_ready (rs := [11]) (by kernel_rfl) (by simp) ?_
    refine AllReadyH.cons rfl (fun K hK => ?_) AllReadyH.nil
    go_simp
    refine hK.out _ _ (HSA.out) (fun hHd2 => ?_)
    clear hK K
    try simp only [PS]
    refine wpAnyH_ready (rs := [12]) (by kernel_rfl) (by simp) ?_
    refine AllReadyH.cons rfl (fun K hK => ?_) AllReadyH.nil
    refine step_append_lies _ (by rfl) _ _ _ (by rfl) base 110 i0 (.agg #[.bool false, .int .i64 0, .string ByteArray.empty]) 3 32 Tryz.underlying34 HI.out.1 HI.out.2.1 HI.out.2.2.1 HI.out.2.2.2 rfl (by omega) (.slice va os.length vc) os.length _ (by rfl) HOA.out ⟨w.heap.size, 0, none⟩ 1 1 [.bool false, .int .i64 at_, .string form] (by rfl) rfl (World.news_of_block (heap_alloc_new w.drew _)) (oneOp _ _ _) (by omega) (by unfold maxLen; omega) (by omega) (by simp <;> omega) (w.heap.size + 1) (by simp) ?_
    intro g9 cap9 w9 hown9 hgrow9 hat9 hlt9
    have hend := wrt_push (x := (false, at_, form)) HW.out hb (Below.refl _ _) hown9 (undrew' hgrow9) hat9
    have HEND := hid hend
    have q9 := hend.1.cell 0 _ rfl
    have q91 := hend.1.cell 1 _ rfl
    have r9 := hend.1.froz 0 (by simp)
    have lg9 := hend.1.lt
    have HGR := hid (undrew' hgrow9)
    have HAT := hid hat9
    clear hown9 hgrow9 hat9 hend
    refine hK.out _ _ (⟨q91, lg9⟩) (fun hHd3 => ?_)
    clear hK K
    try simp only [PS]
    refine TK (i := 13) (v := .pointer (some ⟨g, 0, none⟩)) rfl (Or.inl ⟨by rfl, fun w hw => by obtain ⟨z0, z1⟩ := hw; go_simp⟩) hHd3 ?_
    simp only [PS]
    refine TK (i := 14) (v := .pointer (some ⟨g, 0, none⟩)) rfl (Or.inl ⟨by rfl, fun w hw => by obtain ⟨z0, z1⟩ := hw; go_simp⟩) hHd3 ?_
    simp only [PS]
    refine wpAnyH_ready (rs := [15]) (by kernel_rfl) (by simp) ?_
    refine AllReadyH.cons rfl (fun K hK => ?_) AllReadyH.nil
    go_simp
    refine hK.out _ _ (⟨by go_simp, by simpa [World.setCell] using lg9⟩) (fun hHd4 => ?_)
    clear hK K
    try simp only [PS]
    refine wpAnyH_done (by kernel_rfl) ?_ _
    have h1 := HEND.out.2.1.row.cell 1 _ rfl
    have h2 := HEND.out.2.1.row.cell 2 _ rfl
    have f1 := HEND.out.2.1.row.froz 1 (by simp)
    have f2 := HEND.out.2.1.row.froz 2 (by simp)
    have hl0 := HEND.out.2.1.row.lt
    clear q9 q91 r9 lg9
    have HPB := hid (fun x y => push_blocks (g := g) (u := .slice (some ⟨g9, 0, none⟩) (os.length + 1) cap9) (x := x) (y := y) HGR.out)
    obtain ⟨w8, hw8⟩ : ∃ w8, w8 = w9.setCell ⟨g, 0, none⟩ (.slice (some ⟨g9, 0, none⟩) (os.length + 1) cap9) := ⟨_, rfl⟩
    rw [← hw8] at h1 h2 f1 f2 HEND HPB hl0 ⊢
    clear hw8
    go_wp2
    go_end0
    refine ⟨⟨_, rfl⟩, .slice (some ⟨g9, 0, none⟩) (os.length + 1) cap9, HEND.out.2.1.count, (HEND.out.2.2.2.setCell (p := ⟨g, 1, none⟩) h.ge _).setCell (p := ⟨g, 2, none⟩) h.ge _, ((HEND.out.2.2.2.setCell (p := ⟨g, 1, none⟩) h.ge _).setCell (p := ⟨g, 2, none⟩) h.ge _).size, fun k hk => ?_, HPB.out _ _⟩
    have : k = g9 := by simp [Value.ownBlock] at hk; exact hk.symm
    subst this
    rcases HAT.out with h1 | h1
    · exact .inl h1
    · right; omega
  · go_simp
    refine hK.out _ _ (HSA.out) (fun hHd5 => ?_)
    clear hK K
    try simp only [PS]
    refine wpAnyH_ready (rs := [4]) (by kernel_rfl) (by simp) ?_
    refine AllReadyH.cons rfl (fun K hK => ?_) AllReadyH.nil
    go_simp
    refine hK.out _ _ hHd5 (fun _ => ?_)
    clear hK K
    try simp only [PS]
    refine wpAnyH_ready (rs := [12]) (by kernel_rfl) (by simp) ?_
    refine AllReadyH.cons rfl (fun K hK => ?_) AllReadyH.nil
    refine step_append_lies _ (by rfl) _ _ _ (by rfl) base 110 i0 (.agg #[.bool false, .int .i64 0, .string ByteArray.empty]) 3 32 Tryz.underlying34 HI.out.1 HI.out.2.1 HI.out.2.2.1 HI.out.2.2.2 rfl (by omega) (.slice va os.length vc) os.length _ (by rfl) HOA.out ⟨w.heap.size, 0, none⟩ 1 1 [.bool false, .int .i64 at_, .string form] (by rfl) rfl (World.news_of_block (heap_alloc_new w.drew _)) (oneOp _ _ _) (by omega) (by unfold maxLen; omega) (by omega) (by simp <;> omega) (w.heap.size + 1) (by simp) ?_
    intro g9 cap9 w9 hown9 hgrow9 hat9 hlt9
    have hend := wrt_push (x := (false, at_, form)) HW.out hb (Below.refl _ _) hown9 (undrew' hgrow9) hat9
    have HEND := hid hend
    have q9 := hend.1.cell 0 _ rfl
    have q91 := hend.1.cell 1 _ rfl
    have r9 := hend.1.froz 0 (by simp)
    have lg9 := hend.1.lt
    have HGR := hid (undrew' hgrow9)
    have HAT := hid hat9
    clear hown9 hgrow9 hat9 hend
    refine hK.out _ _ (⟨q91, lg9⟩) (fun hHd7 => ?_)
    clear hK K
    try simp only [PS]
    refine TK (i := 13) (v := .pointer (some ⟨g, 0, none⟩)) rfl (Or.inl ⟨by rfl, fun w hw => by obtain ⟨z0, z1⟩ := hw; go_simp⟩) hHd7 ?_
    simp only [PS]
    refine TK (i := 14) (v := .pointer (some ⟨g, 0, none⟩)) rfl (Or.inl ⟨by rfl, fun w hw => by obtain ⟨z0, z1⟩ := hw; go_simp⟩) hHd7 ?_
    simp only [PS]
    refine wpAnyH_ready (rs := [15]) (by kernel_rfl) (by simp) ?_
    refine AllReadyH.cons rfl (fun K hK => ?_) AllReadyH.nil
    go_simp
    refine hK.out _ _ (⟨by go_simp, by simpa [World.setCell] using lg9⟩) (fun hHd8 => ?_)
    clear hK K
    try simp only [PS]
    refine wpAnyH_done (by kernel_rfl) ?_ _
    have h1 := HEND.out.2.1.row.cell 1 _ rfl
    have h2 := HEND.out.2.1.row.cell 2 _ rfl
    have f1 := HEND.out.2.1.row.froz 1 (by simp)
    have f2 := HEND.out.2.1.row.froz 2 (by simp)
    have hl0 := HEND.out.2.1.row.lt
    clear q9 q91 r9 lg9
    have HPB := hid (fun x y => push_blocks (g := g) (u := .slice (some ⟨g9, 0, none⟩) (os.length + 1) cap9) (x := x) (y := y) HGR.out)
    obtain ⟨w8, hw8⟩ : ∃ w8, w8 = w9.setCell ⟨g, 0, none⟩ (.slice (some ⟨g9, 0, none⟩) (os.length + 1) cap9) := ⟨_, rfl⟩
    rw [← hw8] at h1 h2 f1 f2 HEND HPB hl0 ⊢
    clear hw8
    go_wp2
    go_end0
    refine ⟨⟨_, rfl⟩, .slice (some ⟨g9, 0, none⟩) (os.length + 1) cap9, HEND.out.2.1.count, (HEND.out.2.2.2.setCell (p := ⟨g, 1, none⟩) h.ge _).setCell (p := ⟨g, 2, none⟩) h.ge _, ((HEND.out.2.2.2.setCell (p := ⟨g, 1, none⟩) h.ge _).setCell (p := ⟨g, 2, none⟩) h.ge _).size, fun k hk => ?_, HPB.out _ _⟩
    have : k = g9 := by simp [Value.ownBlock] at hk; exact hk.symm
    subst this
    rcases HAT.out with h1 | h1
    · exact .inl h1
    · right; omega
end Go.Proofs.YtnmaknnnmjfhkagGreatDoor
