import Derived.Test.YtnmaknnnmjfhkadCpy
namespace Go.Proofs.Ytnmaknnnmjfhkad
open Go.RowKit
set_option linter.unusedVariables false

/-- As step_append_copy; the copy may be put behind. -/
theorem step_append_copy2 {P : Program} {ops : Array Oper} {o : Oper} {a : Act} {w : World} {K : Act → World → Prop} {Q : Exit → Act → World → Prop} {E : Prop} (B : Nat)
    (hgd : o.guard = none) (s x : Operand) (t : TypeId) (hop : o.op = .call { callee := .builtin .append, args := #[s, x], argTypes := #[t, t] })
    (e : TypeId) (i : TypeInfo) (z : Value) (size bytes : Nat) (ht : P.underlying t = some (.slice e)) (hi : P.info? e = some i) (hz : i.zero = some z) (hsize : i.size = size) (hby : i.bytes = bytes)
    (b : Nat) (hs : a.eval s = .slice (some ⟨b, 0, none⟩) 0 0) (v : Value) (hx : a.eval x = v) (n : Nat) (news : List Value) (hsrc : Src P size t v n news w) (hl : news.length = n * size) (hn : n ≤ 1048576) (hbn : n * bytes ≤ 281474976710656) (hB : B ≤ w.heap.size) (hzs : z.cells.size = size)
    (h : ∀ g cap wx, ((n = 0 ∧ cap = 0) ∨ (g = w.heap.size ∧ Row wx g news ∧ wx.ownsRow B e size (.slice (some ⟨g, 0, none⟩) n cap) n news ∧ n ≠ 0)) → Below w.heap.size w wx → K (a.put o.dst (.slice (some ⟨g, 0, none⟩) n cap)) wx) :
    if Region.wanted o (yielded ops a.tmps) = true then Oper.wp P o a w K Q else E := by
  have hw : Region.wanted o (yielded ops a.tmps) = true := by simp [Region.wanted, hgd]
  rw [if_pos hw]
  subst hsize hby
  by_cases h0 : n = 0
  · subst h0
    have hnil : news = [] := List.eq_nil_of_length_eq_zero (by omega)
    subst hnil
    have hrun := run_append_room_src (P := P) w t t o.type e i ht hi b 0 0 0 v 0 [] hsrc (by omega) (by simp) (by simp)
    unfold Oper.wp
    simp [execOp, hop, resolve, invoke, builtin, hs, hx, hrun, Result.andThen]
    exact h b 0 _ (.inl ⟨rfl, rfl⟩) (Below.refl _ _)
  · have hold : (Builtin.firstCells i.size 0 (.slice (some ⟨b, 0, none⟩) 0 0)).run P w.drew = .ok ([] : List Value).toArray w.drew := run_firstCells_some w.drew i.size 0 _ 0 0 [] (by simp) (by simp)
    have hrun := run_append_grow_src (P := P) w t t o.type e i z ht hi hz (some ⟨b, 0, none⟩) 0 0 [] hold v n news hsrc (by omega) (by omega) (by rw [Nat.zero_add, nsc n (by omega)]; exact hbn)
    unfold Oper.wp
    simp [execOp, hop, resolve, invoke, builtin, hs, hx, hrun, Result.andThen]
    refine h w.heap.size _ _ (.inr ⟨rfl, ?_, ?_, h0⟩) ((Below.refl _ _).drew.alloc (Nat.le_refl _) _)
    · have hr := row_new w.drew ((([] : List Value) ++ news).toArray ++ Builtin.zeroCells z.cells (grownCap w (0 + n) 0 e - (0 + n))) e
      refine ⟨by simp, fun j u hu => ?_, fun j hj => ?_⟩
      · have := hr.cell j u (by
          obtain ⟨hj, _⟩ := List.getElem?_eq_some_iff.1 hu
          simp [List.getElem?_append_left hj, hu])
        simpa using this
      · have := hr.froz j (by simp; omega)
        simpa using this
    · have hge := grownCap_ge w n 0 e
      have hle := grownCap_le_maxLen w n 0 e (by unfold maxLen; omega)
      refine ⟨hl, .inr ⟨w.heap.size, _, _, rfl, hB, heap_alloc_new w.drew _, hge, hle, ?_, ?_⟩⟩
      · simp [size_zeroCells, hl, hzs]
        rw [← Nat.add_mul]
        congr 1
        omega
      · simp [hl]

set_option maxRecDepth 4000 in
set_option maxHeartbeats 1000000 in
theorem copy_s2 (a : Option Addr) (ss : List ByteArray) (c : Nat) (a' : Option Addr) (ws : List (Int × ByteArray)) (c' : Nat) (w : World) (h : Strs w a ss) (h' : Wrs w a' ws) (hl : ss.length ≤ 200) (hl' : ws.length ≤ 300) :
    Calls Try.prog 79 #[diskV a ss.length c a' ws.length c'] w fun e w' => ∃ g c1 g' c1', e = .returned (diskV (some ⟨g, 0, none⟩) ss.length c1 (some ⟨g', 0, none⟩) ws.length c1') ∧ OwnD w' (some ⟨g, 0, none⟩) ss (some ⟨g', 0, none⟩) ws ∧ (∀ k, blk (some ⟨g, 0, none⟩) ss.length = some k → w.heap.size ≤ k) ∧ (∀ k, blk (some ⟨g', 0, none⟩) ws.length = some k → w.heap.size ≤ k) ∧ ((ws = [] ∧ c1' = 0) ∨ w'.ownsRow (w.heap.size + 1 + 1) 130 2 (.slice (some ⟨g', 0, none⟩) ws.length c1') ws.length (wcells ws) ∧ ws.length ≠ 0) ∧ Below w.heap.size w w' := by
  obtain ⟨i0, hi0, hz0, hz1, hz2⟩ := info_parts' infoStr
  have HI := hid (And.intro hi0 (And.intro hz0 (And.intro hz1 hz2)))
  clear hi0 hz0 hz1 hz2
  obtain ⟨i1, hi0, hz0, hz1, hz2⟩ := info_parts' infoWr
  have HI1 := hid (And.intro hi0 (And.intro hz0 (And.intro hz1 hz2)))
  clear hi0 hz0 hz1 hz2
  have hb0 : ∀ o1 o2, Below w.heap.size w ((w.alloc o1).alloc o2) := fun o1 o2 => ((Below.refl _ _).alloc (Nat.le_refl _) _).alloc (by simp) _
  go_enter Try.func79, Try.ntmps79
  go_wp2_with fail
  have hxb := (Cx.new w (.slice a ss.length c) (.slice a' ws.length c') 57).below (below_new _ (.cells #[.slice none 0 0, .slice none 0 0] 57))
  have rR := row_new' (w.alloc (.cells #[.slice a ss.length c, .slice a' ws.length c'] 57)) #[.slice none 0 0, .slice none 0 0] 57 (w.heap.size + 1) (by simp)
  have hB := hb0 (.cells #[.slice a ss.length c, .slice a' ws.length c'] 57) (.cells #[.slice none 0 0, .slice none 0 0] 57)
  have hsy : ((w.alloc (.cells #[.slice a ss.length c, .slice a' ws.length c'] 57)).alloc (.cells #[.slice none 0 0, .slice none 0 0] 57)).heap.size = w.heap.size + 1 + 1 := by simp
  obtain ⟨wy, HWY⟩ : ∃ wy, wy = (w.alloc (.cells #[.slice a ss.length c, .slice a' ws.length c'] 57)).alloc (.cells #[.slice none 0 0, .slice none 0 0] 57) := ⟨_, rfl⟩
  rw [← HWY] at hxb rR hB hsy ⊢
  clear HWY
  have HX := hid hxb
  have HR := hid rR
  have HB := hid hB
  have HSY := hid hsy
  clear hxb rR hB hsy
  have hk0 : KeepC wy w.heap.size (.slice a ss.length c) (.slice a' ws.length c') wy := ⟨HX.out.c0, HX.out.c1, cval_some (cval_is (HR.out.cell 0 _ rfl)), cval_some (cval_is (HR.out.cell 1 _ rfl)), HR.out.froz 0 (by simp), HR.out.froz 1 (by simp), ⟨rfl, rfl, rfl, Nat.le_refl _, fun _ _ _ => rfl⟩, by rw [HSY.out]; omega⟩
  have HK := hid hk0
  clear hk0
  have hbz : ∀ wz, KeepC wy w.heap.size (.slice a ss.length c) (.slice a' ws.length c') wz → Below w.heap.size w wz := fun wz hz => HB.out.trans (grown_below hz.2.2.2.2.2.2.1 (by rw [HSY.out]; omega) (fun g hg => by injection hg with hg; omega))
  have HBZ := hid hbz
  clear hbz
  go_region_held3 (fun w' => w'.cell? ⟨w.heap.size, 0, none⟩ = some (.slice a ss.length c) ∧ w'.cell? ⟨w.heap.size, 1, none⟩ = some (.slice a' ws.length c') ∧ w'.cell? ⟨w.heap.size + 1, 0, none⟩ = some (cval w' ⟨w.heap.size + 1, 0, none⟩) ∧ w'.cell? ⟨w.heap.size + 1, 1, none⟩ = some (cval w' ⟨w.heap.size + 1, 1, none⟩) ∧ w'.frozen? ⟨w.heap.size + 1, 0, none⟩ = false ∧ w'.frozen? ⟨w.heap.size + 1, 1, none⟩ = false ∧ wy.grownBy w' (some (w.heap.size + 1)) ∧ w.heap.size + 1 < w'.heap.size)
    (first | assumption | exact HK.out.below ((Below.refl _ _).drew) | exact KeepC.below (by assumption) (by assumption) | exact KeepC.below (by assumption) (below_new _ _) | exact KeepC.set (KeepC.set (by assumption) 0 _) 1 _)
    (first | (refine step_append_copy (by rfl) _ _ 49 (by rfl) 9 _ _ 1 16 Try.underlying49 HI.out.1 HI.out.2.1 HI.out.2.2.1 HI.out.2.2.2 _ (by rfl) _ (by rfl) ss.length _ (by exact src_strs (h.below (HBZ.out _ (by assumption))) _ _ (by rfl) _) (by simp) (by omega) (by omega) ?_; intro g1 c1 wx1 hg1 hb1) | (refine step_append_copy2 (w.heap.size + 1 + 1) (by rfl) _ _ 55 (by rfl) 130 _ _ 2 24 Try.underlying55 HI1.out.1 HI1.out.2.1 HI1.out.2.2.1 HI1.out.2.2.2 _ (by rfl) _ (by rfl) ws.length _ (by exact src_wrs (h'.below (HBZ.out _ (by assumption))) _ _ (by rfl) _) (by exact wcells_length ws) (by omega) (by omega) (by refine Nat.succ_le_of_lt (And.right (And.right (And.right (And.right (And.right (And.right (And.right (?_ : KeepC wy w.heap.size (.slice a ss.length c) (.slice a' ws.length c') _)))))))); assumption) (by rfl) ?_; intro g2 c2 wx2 hgo hb2; have hg2 : ws.length = 0 ∨ (g2 = _ ∧ Row wx2 g2 (wcells ws)) := (hgo.imp (fun h => h.1) (fun h => ⟨h.1, h.2.1⟩)); have ho2 := hgo.imp id (fun h => h.2.2); clear hgo; have hk2 : KeepC wy w.heap.size (.slice a ss.length c) (.slice a' ws.length c') wx2 := KeepC.below (by assumption) hb2))
  all_goals
    rename_i hHeld
    have hzz := hHeld
    clear hHeld
    have hfb := HBZ.out _ hzz
    have hend := by
      first
      | exact cp_end w.heap.size (w.heap.size + 1) wx1 wx2 ss ws g1 g2 _ _ (Value.slice (some ⟨g1, 0, none⟩) ss.length c1) (Value.slice (some ⟨g2, 0, none⟩) ws.length c2) (by simp [HSY.out] <;> omega) (by simp [HSY.out] <;> omega) hg1 hb2 hb1.size (Nat.le_refl _) hg2
      | exact cp_end w.heap.size (w.heap.size + 1) wx1 wx2 ss ws g1 g2 _ _ (Value.slice (some ⟨g1, 0, none⟩) ss.length c1) (Value.slice (some ⟨g2, 0, none⟩) ws.length c2) (by simp [HSY.out] <;> omega) (by simp [HSY.out] <;> omega) hg1 (Go.Proofs.Ytnmaknnnmjfhkad.Below.then (below_new wx1 _) (Nat.le_refl _) hb2) hb1.size (by simp) hg2
    have hend' := hid hend
    have hi0 := cval_is hk2.2.2.1
    have hi1 := cval_is hk2.2.2.2.1
    have HO2 := hid ho2
    clear hend hg1 hb1 hg2 hb2 hk2 hzz ho2
    go_wp2
    exact bodyPost_ret (v := diskV (some ⟨g1, 0, none⟩) ss.length c1 (some ⟨g2, 0, none⟩) ws.length c2) (by simp [results, Try.results79, go_sem, hi0, hi1]) rfl ⟨g1, c1, g2, c2, rfl, hend'.out.1, hend'.out.2.1, hend'.out.2.2, HO2.out.imp (fun h => ⟨List.eq_nil_of_length_eq_zero h.1, h.2⟩) (fun h => ⟨ownsRow_setCell_below (ownsRow_setCell_below h.1 (a := ⟨w.heap.size + 1, 0, none⟩) (by show w.heap.size + 1 < _; omega) _) (a := ⟨w.heap.size + 1, 1, none⟩) (by show w.heap.size + 1 < _; omega) _, by have := h.2; simpa using this⟩), hfb⟩
end Go.Proofs.Ytnmaknnnmjfhkad
