import Derived.Deep.AppendSrc
import Derived.Test.YtnmaknnnmjfhkagGreatDoorPrG44
import Derived.Test.YtnmaknnnmjfhkagGreatDoorPrG49
import Derived.Test.YtnmaknnnmjfhkagGreatDoorPrG51
namespace Go.Proofs.YtnmaknnnmjfhkagGreatDoor
open Go.RowKit
set_option linter.unusedVariables false
theorem nsc (n : Nat) (h : 0 < n) : Builtin.nextslicecap n 0 = n := by
  unfold Builtin.nextslicecap
  simp
  omega
theorem step_append_copy {P : Program} {ops : Array Oper} {o : Oper} {a : Act} {w : World} {K : Act → World → Prop} {Q : Exit → Act → World → Prop} {E : Prop}
    (hgd : o.guard = none) (s x : Operand) (t : TypeId) (hop : o.op = .call { callee := .builtin .append, args := #[s, x], argTypes := #[t, t] })
    (e : TypeId) (i : TypeInfo) (z : Value) (size bytes : Nat) (ht : P.underlying t = some (.slice e)) (hi : P.info? e = some i) (hz : i.zero = some z) (hsize : i.size = size) (hby : i.bytes = bytes)
    (b : Nat) (hs : a.eval s = .slice (some ⟨b, 0, none⟩) 0 0) (v : Value) (hx : a.eval x = v) (n : Nat) (news : List Value) (hsrc : Src P size t v n news w) (hl : news.length = n * size) (hn : n ≤ 1048576) (hbn : n * bytes ≤ 281474976710656)
    (h : ∀ g cap wx, (n = 0 ∨ (g = w.heap.size ∧ Row wx g news)) → Below w.heap.size w wx → K (a.put o.dst (.slice (some ⟨g, 0, none⟩) n cap)) wx) :
    if Region.wanted o (yielded ops a.tmps) = true then Oper.wp P o a w K Q else E := by
  have hw : Region.wanted o (yielded ops a.tmps) = true := by simp [Region.wanted, hgd]
  rw [if_pos hw]
  subst hsize hby
  by_cases h0 : n = 0
  · subst h0
    have hnil : news = [] := List.eq_nil_of_length_eq_zero (by omega)
    subst hnil
    have hrun := run_append_room_src (P := P) w t t o.type e i ht hi b 0 0 0 v 0 [] hsrc (by omega) (by simp) (by simp)
    unfold Oper.wp
    simp [execOp, hop, resolve, invoke, builtin, hs, hx, hrun, Result.andThen]
    exact h b 0 _ (.inl rfl) (Below.refl _ _)
  · have hold : (Builtin.firstCells i.size 0 (.slice (some ⟨b, 0, none⟩) 0 0)).run P w.drew = .ok ([] : List Value).toArray w.drew := run_firstCells_some w.drew i.size 0 _ 0 0 [] (by simp) (by simp)
    have hrun := run_append_grow_src (P := P) w t t o.type e i z ht hi hz (some ⟨b, 0, none⟩) 0 0 [] hold v n news hsrc (by omega) (by omega) (by rw [Nat.zero_add, nsc n (by omega)]; exact hbn)
    unfold Oper.wp
    simp [execOp, hop, resolve, invoke, builtin, hs, hx, hrun, Result.andThen]
    refine h w.heap.size _ _ (.inr ⟨rfl, ?_⟩) ((Below.refl _ _).drew.alloc (Nat.le_refl _) _)
    have hr := row_new w.drew ((([] : List Value) ++ news).toArray ++ Builtin.zeroCells z.cells (grownCap w (0 + n) 0 e - (0 + n))) e
    refine ⟨by simp, fun j u hu => ?_, fun j hj => ?_⟩
    · have := hr.cell j u (by
        obtain ⟨hj, _⟩ := List.getElem?_eq_some_iff.1 hu
        simp [List.getElem?_append_left hj, hu])
      simpa using this
    · have := hr.froz j (by simp; omega)
      simpa using this
theorem src_strs {P : Program} {w : World} {a : Option Addr} {ss : List ByteArray} (h : Strs w a ss) (t e : TypeId) (ht : P.underlying t = some (.slice e)) (c : Nat) : Src P 1 t (.slice a ss.length c) ss.length (ss.map Value.string) w := by
  rcases h with h | ⟨b, o, rfl, hb, hc⟩
  · subst h
    cases a with
    | none => exact Src.ofNil w ht c
    | some x => exact Src.ofSlice w ht x 0 c [] (by simp) (by simp) (by simp)
  · refine Src.ofSlice w ht ⟨b, o, none⟩ ss.length c _ (by simp) (fun j u hu => ?_) (fun u hu => by obtain ⟨s, _, rfl⟩ := List.mem_map.1 hu; rfl)
    obtain ⟨hj, e⟩ := List.getElem?_eq_some_iff.1 hu
    simp only [List.length_map] at hj
    have ha : (⟨b, o, none⟩ : Addr).add j = ⟨b, o + j, none⟩ := by unfold Addr.add; split <;> simp_all
    rw [ha, hc j hj, ← e]
    simp [List.getD, hj]
theorem src_wrs {P : Program} {w : World} {a : Option Addr} {ws : List (Int × ByteArray)} (h : Wrs w a ws) (t e : TypeId) (ht : P.underlying t = some (.slice e)) (c : Nat) : Src P 2 t (.slice a ws.length c) ws.length (wcells ws) w := by
  rcases h with h | ⟨b, o, rfl, hb, hc⟩
  · subst h
    cases a with
    | none => exact Src.ofNil w ht c
    | some x => exact Src.ofSlice w ht x 0 c [] (by simp) (by simp) (by simp)
  · refine Src.ofSlice w ht ⟨b, o, none⟩ ws.length c _ (wcells_length ws) (fun j u hu => ?_) (fun u hu => ?_)
    · obtain ⟨hj, e⟩ := List.getElem?_eq_some_iff.1 hu
      rw [wcells_length] at hj
      have ha : (⟨b, o, none⟩ : Addr).add j = ⟨b, o + j, none⟩ := by unfold Addr.add; split <;> simp_all
      obtain ⟨q, hq⟩ : ∃ q, j = q * 2 ∨ j = q * 2 + 1 := ⟨j / 2, by omega⟩
      have hql : q < ws.length := by omega
      have hw := wcells_at ws q hql
      rcases hq with rfl | rfl
      · rw [ha, (hc q hql).1, ← hu, hw.1]
      · rw [ha, ← Nat.add_assoc, (hc q hql).2, ← hu, hw.2]
    · unfold wcells at hu
      obtain ⟨x, _, hx⟩ := List.mem_flatMap.1 hu
      simp at hx
      rcases hx with rfl | rfl <;> rfl
def cval (w : World) (p : Addr) : Value := (w.cell? p).getD (.int .i64 0)
theorem cval_some {w : World} {p : Addr} (h : (w.cell? p).isSome = true) : w.cell? p = some (cval w p) := by
  unfold cval
  cases e : w.cell? p with
  | none => rw [e] at h; exact absurd h (by simp)
  | some v => rfl
theorem cval_is {w : World} {p : Addr} {v : Value} (h : w.cell? p = some v) : (w.cell? p).isSome = true := by rw [h]; rfl
def KeepC (wy : World) (X : Nat) (v0 v1 : Value) (w : World) : Prop :=
  w.cell? ⟨X, 0, none⟩ = some v0 ∧ w.cell? ⟨X, 1, none⟩ = some v1 ∧ w.cell? ⟨X + 1, 0, none⟩ = some (cval w ⟨X + 1, 0, none⟩) ∧ w.cell? ⟨X + 1, 1, none⟩ = some (cval w ⟨X + 1, 1, none⟩) ∧ w.frozen? ⟨X + 1, 0, none⟩ = false ∧ w.frozen? ⟨X + 1, 1, none⟩ = false ∧ wy.grownBy w (some (X + 1)) ∧ X + 1 < w.heap.size
theorem KeepC.below {wy w w' : World} {X : Nat} {v0 v1 : Value} (h : KeepC wy X v0 v1 w) (hb : Below w.heap.size w w') : KeepC wy X v0 v1 w' := by
  obtain ⟨h1, h2, h3, h4, h5, h6, h7, h8⟩ := h
  refine ⟨(hb.cell (p := ⟨X, 0, none⟩) (by show X < _; omega)).trans h1, (hb.cell (p := ⟨X, 1, none⟩) (by show X < _; omega)).trans h2, ?_, ?_, ?_, ?_, ⟨hb.os.trans h7.os, hb.tape.trans h7.tape, hb.output.trans h7.output, Nat.le_trans h7.size hb.size, fun i hi hne => (hb.block i (Nat.lt_of_lt_of_le hi h7.size)).trans (h7.block i hi hne)⟩, Nat.lt_of_lt_of_le h8 hb.size⟩
  · exact cval_some (by rw [hb.cell (p := ⟨X + 1, 0, none⟩) h8]; exact cval_is h3)
  · exact cval_some (by rw [hb.cell (p := ⟨X + 1, 1, none⟩) h8]; exact cval_is h4)
  · rw [hb.frozen (p := ⟨X + 1, 0, none⟩) h8]; exact h5
  · rw [hb.frozen (p := ⟨X + 1, 1, none⟩) h8]; exact h6
theorem KeepC.set {wy w : World} {X : Nat} {v0 v1 : Value} (h : KeepC wy X v0 v1 w) (j : Nat) (v : Value) : KeepC wy X v0 v1 (w.setCell ⟨X + 1, j, none⟩ v) := by
  obtain ⟨h1, h2, h3, h4, h5, h6, h7, h8⟩ := h
  have hs : ∀ p, (w.cell? p).isSome = true → ((w.setCell ⟨X + 1, j, none⟩ v).cell? p).isSome = true := fun p hp => by
    by_cases e : (⟨X + 1, j, none⟩ : Addr) = p
    · subst e
      obtain ⟨u, hu⟩ := Option.isSome_iff_exists.1 hp
      rw [World.cell?_setCell_same (w := w) (h := hu)]; rfl
    · rw [World.cell?_setCell_other (w := w) (h := e)]; exact hp
  refine ⟨(World.cell?_setCell_far _ _ _ _ (by show X + 1 ≠ X; omega)).trans h1, (World.cell?_setCell_far _ _ _ _ (by show X + 1 ≠ X; omega)).trans h2, cval_some (hs _ (cval_is h3)), cval_some (hs _ (cval_is h4)), by rw [World.frozen?_setCell]; exact h5, by rw [World.frozen?_setCell]; exact h6, ⟨(setCells_os (X + 1) [v] j w).1.trans h7.os, (setCells_os (X + 1) [v] j w).2.1.trans h7.tape, (setCells_os (X + 1) [v] j w).2.2.trans h7.output, by simpa using h7.size, fun i hi hne => ?_⟩, by simpa using h8⟩
  rw [← h7.block i hi hne]
  exact setCells_other (X + 1) [v] j w i (fun e => hne (by rw [e]))
theorem cp_end (B R : Nat) (wx1 wx2 : World) (ss : List ByteArray) (ws : List (Int × ByteArray)) (g1 g2 n1 n2 : Nat) (v0 v1 : Value) (hn1 : B ≤ n1) (hR : R < n1) (hg1 : ss.length = 0 ∨ g1 = n1 ∧ Row wx1 g1 (ss.map Value.string)) (hb2 : Below wx1.heap.size wx1 wx2) (hs1 : n1 ≤ wx1.heap.size) (hn2 : wx1.heap.size ≤ n2) (hg2 : ws.length = 0 ∨ g2 = n2 ∧ Row wx2 g2 (wcells ws)) :
    OwnD ((wx2.setCell ⟨R, 0, none⟩ v0).setCell ⟨R, 1, none⟩ v1) (some ⟨g1, 0, none⟩) ss (some ⟨g2, 0, none⟩) ws ∧ (∀ k, blk (some ⟨g1, 0, none⟩) ss.length = some k → B ≤ k) ∧ (∀ k, blk (some ⟨g2, 0, none⟩) ws.length = some k → B ≤ k) := by
  have hk1 : ∀ k, blk (some ⟨g1, 0, none⟩) ss.length = some k → k = n1 ∧ k < wx1.heap.size := fun k hk => by
    unfold blk at hk
    split at hk
    · exact absurd hk (by simp)
    · rename_i h0
      rcases hg1 with e | ⟨rfl, hr⟩
      · exact absurd e h0
      · simp at hk
        exact ⟨hk.symm, by rw [← hk]; exact hr.lt⟩
  have hk2 : ∀ k, blk (some ⟨g2, 0, none⟩) ws.length = some k → k = n2 := fun k hk => by
    unfold blk at hk
    split at hk
    · exact absurd hk (by simp)
    · rename_i h0
      rcases hg2 with e | ⟨rfl, hr⟩
      · exact absurd e h0
      · simp at hk
        exact hk.symm
  refine ⟨⟨?_, ?_, ?_⟩, fun k hk => by have := hk1 k hk; omega, fun k hk => by have := hk2 k hk; omega⟩
  · rcases hg1 with e | ⟨rfl, hr⟩
    · exact .inl (by rw [List.eq_nil_of_length_eq_zero e]; rfl)
    · exact .inr ⟨g1, rfl, ((hr.below hb2).other ⟨R, 0, none⟩ (by show R ≠ _; omega) _).other ⟨R, 1, none⟩ (by show R ≠ _; omega) _⟩
  · rcases hg2 with e | ⟨rfl, hr⟩
    · exact .inl (by rw [List.eq_nil_of_length_eq_zero e]; rfl)
    · exact .inr ⟨g2, rfl, (hr.other ⟨R, 0, none⟩ (by show R ≠ _; omega) _).other ⟨R, 1, none⟩ (by show R ≠ _; omega) _⟩
  · cases e1 : blk (some ⟨g1, 0, none⟩) ss.length with
    | none => exact .inl rfl
    | some k1 =>
      cases e2 : blk (some ⟨g2, 0, none⟩) ws.length with
      | none => exact .inr (.inl rfl)
      | some k2 =>
        have h1 := hk1 k1 e1
        have h2 := hk2 k2 e2
        exact .inr (.inr (fun e => by injection e with e; omega))
set_option maxRecDepth 4000 in
set_option maxHeartbeats 1000000 in
theorem copy_s (a : Option Addr) (ss : List ByteArray) (c : Nat) (a' : Option Addr) (ws : List (Int × ByteArray)) (c' : Nat) (w : World) (h : Strs w a ss) (h' : Wrs w a' ws) (hl : ss.length ≤ 200) (hl' : ws.length ≤ 300) :
    Calls Tryz.prog 138 #[diskV a ss.length c a' ws.length c'] w fun e w' => ∃ g c1 g' c1', e = .returned (diskV (some ⟨g, 0, none⟩) ss.length c1 (some ⟨g', 0, none⟩) ws.length c1') ∧ OwnD w' (some ⟨g, 0, none⟩) ss (some ⟨g', 0, none⟩) ws ∧ (∀ k, blk (some ⟨g, 0, none⟩) ss.length = some k → w.heap.size ≤ k) ∧ (∀ k, blk (some ⟨g', 0, none⟩) ws.length = some k → w.heap.size ≤ k) ∧ Below w.heap.size w w' := by
  obtain ⟨i0, hi0, hz0, hz1, hz2⟩ := info_parts' infoStr
  have HI := hid (And.intro hi0 (And.intro hz0 (And.intro hz1 hz2)))
  clear hi0 hz0 hz1 hz2
  obtain ⟨i1, hi0, hz0, hz1, hz2⟩ := info_parts' infoWr
  have HI1 := hid (And.intro hi0 (And.intro hz0 (And.intro hz1 hz2)))
  clear hi0 hz0 hz1 hz2
  have hb0 : ∀ o1 o2, Below w.heap.size w ((w.alloc o1).alloc o2) := fun o1 o2 => ((Below.refl _ _).alloc (Nat.le_refl _) _).alloc (by simp) _
  go_enter Tryz.func138, Tryz.ntmps138
  go_wp2_with fail
  have hxb := (Cx.new w (.slice a ss.length c) (.slice a' ws.length c') 40).below (below_new _ (.cells #[.slice none 0 0, .slice none 0 0] 40))
  have rR := row_new' (w.alloc (.cells #[.slice a ss.length c, .slice a' ws.length c'] 40)) #[.slice none 0 0, .slice none 0 0] 40 (w.heap.size + 1) (by simp)
  have hB := hb0 (.cells #[.slice a ss.length c, .slice a' ws.length c'] 40) (.cells #[.slice none 0 0, .slice none 0 0] 40)
  have hsy : ((w.alloc (.cells #[.slice a ss.length c, .slice a' ws.length c'] 40)).alloc (.cells #[.slice none 0 0, .slice none 0 0] 40)).heap.size = w.heap.size + 1 + 1 := by simp
  obtain ⟨wy, HWY⟩ : ∃ wy, wy = (w.alloc (.cells #[.slice a ss.length c, .slice a' ws.length c'] 40)).alloc (.cells #[.slice none 0 0, .slice none 0 0] 40) := ⟨_, rfl⟩
  rw [← HWY] at hxb rR hB hsy ⊢
  clear HWY
  have HX := hid hxb
  have HR := hid rR
  have HB := hid hB
  have HSY := hid hsy
  clear hxb rR hB hsy
  have hk0 : KeepC wy w.heap.size (.slice a ss.length c) (.slice a' ws.length c') wy := ⟨HX.out.c0, HX.out.c1, cval_some (cval_is (HR.out.cell 0 _ rfl)), cval_some (cval_is (HR.out.cell 1 _ rfl)), HR.out.froz 0 (by simp), HR.out.froz 1 (by simp), ⟨rfl, rfl, rfl, Nat.le_refl _, fun _ _ _ => rfl⟩, by rw [HSY.out]; omega⟩
  have HK := hid hk0
  clear hk0
  have hbz : ∀ wz, KeepC wy w.heap.size (.slice a ss.length c) (.slice a' ws.length c') wz → Below w.heap.size w wz := fun wz hz => HB.out.trans (grown_below hz.2.2.2.2.2.2.1 (by rw [HSY.out]; omega) (fun g hg => by injection hg with hg; omega))
  have HBZ := hid hbz
  clear hbz
  go_region_held3 (fun w' => w'.cell? ⟨w.heap.size, 0, none⟩ = some (.slice a ss.length c) ∧ w'.cell? ⟨w.heap.size, 1, none⟩ = some (.slice a' ws.length c') ∧ w'.cell? ⟨w.heap.size + 1, 0, none⟩ = some (cval w' ⟨w.heap.size + 1, 0, none⟩) ∧ w'.cell? ⟨w.heap.size + 1, 1, none⟩ = some (cval w' ⟨w.heap.size + 1, 1, none⟩) ∧ w'.frozen? ⟨w.heap.size + 1, 0, none⟩ = false ∧ w'.frozen? ⟨w.heap.size + 1, 1, none⟩ = false ∧ wy.grownBy w' (some (w.heap.size + 1)) ∧ w.heap.size + 1 < w'.heap.size)
    (first | assumption | exact HK.out.below ((Below.refl _ _).drew) | exact KeepC.below (by assumption) (by assumption) | exact KeepC.below (by assumption) (below_new _ _) | exact KeepC.set (KeepC.set (by assumption) 0 _) 1 _)
    (first | (refine step_append_copy (by rfl) _ _ 22 (by rfl) 9 _ _ 1 16 Tryz.underlying22 HI.out.1 HI.out.2.1 HI.out.2.2.1 HI.out.2.2.2 _ (by rfl) _ (by rfl) ss.length _ (by exact src_strs (h.below (HBZ.out _ (by assumption))) _ _ (by rfl) _) (by simp) (by omega) (by omega) ?_; intro g1 c1 wx1 hg1 hb1) | (refine step_append_copy (by rfl) _ _ 38 (by rfl) 183 _ _ 2 24 Tryz.underlying38 HI1.out.1 HI1.out.2.1 HI1.out.2.2.1 HI1.out.2.2.2 _ (by rfl) _ (by rfl) ws.length _ (by exact src_wrs (h'.below (HBZ.out _ (by assumption))) _ _ (by rfl) _) (by exact wcells_length ws) (by omega) (by omega) ?_; intro g2 c2 wx2 hg2 hb2; have hk2 : KeepC wy w.heap.size (.slice a ss.length c) (.slice a' ws.length c') wx2 := KeepC.below (by assumption) hb2))
  all_goals
    rename_i hHeld
    have hzz := hHeld
    clear hHeld
    have hfb := HBZ.out _ hzz
    have hend := by
      first
      | exact cp_end w.heap.size (w.heap.size + 1) wx1 wx2 ss ws g1 g2 _ _ (Value.slice (some ⟨g1, 0, none⟩) ss.length c1) (Value.slice (some ⟨g2, 0, none⟩) ws.length c2) (by simp [HSY.out] <;> omega) (by simp [HSY.out] <;> omega) hg1 hb2 hb1.size (Nat.le_refl _) hg2
      | exact cp_end w.heap.size (w.heap.size + 1) wx1 wx2 ss ws g1 g2 _ _ (Value.slice (some ⟨g1, 0, none⟩) ss.length c1) (Value.slice (some ⟨g2, 0, none⟩) ws.length c2) (by simp [HSY.out] <;> omega) (by simp [HSY.out] <;> omega) hg1 (Go.Proofs.YtnmaknnnmjfhkagGreatDoor.Below.then (below_new wx1 _) (Nat.le_refl _) hb2) hb1.size (by simp) hg2
    have hend' := hid hend
    have hi0 := cval_is hk2.2.2.1
    have hi1 := cval_is hk2.2.2.2.1
    clear hend hg1 hb1 hg2 hb2 hk2 hzz
    go_wp2
    exact bodyPost_ret (v := diskV (some ⟨g1, 0, none⟩) ss.length c1 (some ⟨g2, 0, none⟩) ws.length c2) (by simp [results, Tryz.results138, go_sem, hi0, hi1]) rfl ⟨g1, c1, g2, ⟨c2, rfl⟩, hend'.out.1, hend'.out.2.1, hend'.out.2.2, hfb⟩
end Go.Proofs.YtnmaknnnmjfhkagGreatDoor
