import Derived.Test.YtnmaknnnmjfhkaeRows
import Derived.Test.YtnmaknnnmjfhkaeStO
import Derived.Test.YtnmaknnnmjfhkaeStB
import Derived.Test.YtnmaknnnmjfhkaeStD
import Derived.WalkKit
import Derived.ProofKit
import Derived.OpenShut
import Derived.ShutString
import Derived.ChangeOld
import Derived.ChangeSlices
import Derived.Below
import Derived.Lib.SmallJoins
namespace Go.Proofs.Ytnmaknnnmjfhkae.fnExactValidStore
open Go.ChangeShapes Go.WideShapes Go.ChangeAt Go.RowKit Go.Joins
open Go.ChangeMaps (open_string shut_string)
set_option linter.unusedVariables false

theorem own : ownKnob Try.prog.godebug = none := by kernel_rfl
theorem laidOut : laidOutB Try.prog = true := by kernel_rfl

/-- A box right behind a world, and what was there stands. -/
structure Bn (W w : World) (cs : List Value) : Prop where
  lt : W.heap.size < w.heap.size
  cell : ∀ i v, cs[i]? = some v → w.cell? ⟨W.heap.size, i, none⟩ = some v
  bel : Below W.heap.size W w
theorem Bn.below {W w w' : World} {cs : List Value} (h : Bn W w cs) (hb : Below w.heap.size w w') : Bn W w' cs :=
  ⟨Nat.lt_of_lt_of_le h.lt hb.size, fun i v hv => (hb.cell (p := ⟨_, i, none⟩) h.lt).trans (h.cell i v hv), h.bel.trans (hb.mono (Nat.le_of_lt h.lt))⟩
theorem Bn.drew {W w : World} {cs : List Value} (h : Bn W w cs) : Bn W w.drew cs := ⟨h.lt, h.cell, h.bel.drew⟩
theorem Bn.new (W : World) (cs : Array Value) (t : TypeId) : Bn W (W.alloc (.cells cs t)) cs.toList :=
  ⟨by simp, fun i v hv => by rw [World.cell?_alloc_at _ _ _ _ rfl]; simpa using hv, (Below.refl _ _).alloc (Nat.le_refl _) _⟩

set_option maxHeartbeats 8000000 in
theorem walk (W S L T H F R U O : Int) (a : Option Addr) (rs : List (ByteArray × ByteArray)) (c : Nat) (w : World) (h : Prs w a rs) (hl : rs.length ≤ maxLen) (hs : ∀ s ∈ rs, s.1.size ≤ maxLen ∧ s.2.size ≤ maxLen) :
    Calls Try.prog 3 #[storeV W S L T H F R U O a rs.length c] w fun e w' => e = .returned (.bool true) ∧ Below w.heap.size w w' := by
  have hb0 : ∀ o, Below w.heap.size w (w.alloc o) := fun o => (Below.refl _ _).alloc (Nat.le_refl _) _
  have hbd := szL_bd (rs.length :: rs.flatMap prsz) 1048576 (by omega)
  obtain ⟨R0, HR⟩ : ∃ R0, Hid (R0 = szL (rs.length :: rs.flatMap prsz) 1048576) := ⟨_, hid rfl⟩
  rw [← HR.out] at hbd
  have HSZ := hid (fun w' h' => sz_store W S L T H F R U O a rs c w' h' 1048576 (by omega) (by omega) hl hs)
  have HTO := hid (fun m1 w' h' => to_store W S L T H F R U O a rs c w' h' m1)
  unfold storeV at HSZ HTO ⊢
  rw [← HR.out] at HSZ
  by_cases hR : R0 < 0
  · clear hbd
    go_enter Try.func3, Try.ntmps3
    go_wp2_with (go_at_call 6; refine (HSZ.out _ (h.below (hb0 _))).mono ?_; rintro e w1 ⟨rfl, hb1⟩)
    go_ret
    exact ⟨rfl, (hb0 _).trans (hb1.mono (by simp))⟩
  · have hmem := szL_mem (rs.length :: rs.flatMap prsz) 1048576 (by omega) (by rw [← HR.out]; omega)
    have m1 : rs.length ≤ 1048576 := by have := hmem rs.length (by simp); omega
    have M3 : Hid (∀ x ∈ rs, x.1.size ≤ 1048576 ∧ x.2.size ≤ 1048576) := fun x hx => by
      have h1 := hmem x.1.size (List.mem_cons_of_mem _ (List.mem_flatMap.2 ⟨x, hx, by simp [prsz]⟩))
      have h2 := hmem x.2.size (List.mem_cons_of_mem _ (List.mem_flatMap.2 ⟨x, hx, by simp [prsz]⟩))
      omega
    have hR0 : 0 ≤ R0 := by omega
    obtain ⟨B, HB⟩ : ∃ B, Hid (B = storeOk W S L T H F R U O rs) := ⟨_, hid rfl⟩
    have HSP := hid (fun g w' h' => vstore_s W S L T H F R U O (some ⟨g, 0, none⟩) rs rs.length w' h' m1 M3.out)
    have HIM := hid (fun g w' h' => vstore_i W S L T H F R U O (some ⟨g, 0, none⟩) rs rs.length w' h' (Nat.le_refl _) m1 M3.out)
    have HEQ := hid (fun g g2 w' h' h2 => eq_store W S L T H F R U O (some ⟨g, 0, none⟩) (some ⟨g2, 0, none⟩) rs rs.length rs.length w' h' h2 m1)
    unfold storeV at HSP HIM HEQ
    rw [← HB.out] at HSP HIM
    clear hmem hbd hR
    go_enter Try.func3, Try.ntmps3
    go_wp2_with fail
    refine (HSZ.out _ (h.below (hb0 _))).mono ?_
    rintro e w1 ⟨rfl, hb1⟩
    have hx1 := (Bn.new w #[.int .i64 W, .int .i64 S, .int .i64 L, .int .i64 T, .int .i64 H, .int .i64 F, .int .i64 R, .int .i64 U, .int .i64 O, .slice a rs.length c] 28).below hb1
    clear hb1 HSZ
    have k0 := hx1.cell 0 _ rfl
    have k1 := hx1.cell 1 _ rfl
    have k2 := hx1.cell 2 _ rfl
    have k3 := hx1.cell 3 _ rfl
    have k4 := hx1.cell 4 _ rfl
    have k5 := hx1.cell 5 _ rfl
    have k6 := hx1.cell 6 _ rfl
    have k7 := hx1.cell 7 _ rfl
    have k8 := hx1.cell 8 _ rfl
    have k9 := hx1.cell 9 _ rfl
    go_wp2_with fail
    refine (HTO.out m1 _ (h.below hx1.bel)).mono ?_
    rintro e w2 ⟨g, rfl, _, hr, hb2⟩
    have hx2 := hx1.below hb2
    clear hb2 k0 k1 k2 k3 k4 k5 k6 k7 k8 k9 hx1
    have sg := hr.prs
    clear hr
    go_wp2_with fail
    refine (HSP.out _ _ sg).mono ?_
    rintro e w3 ⟨rfl, hb3⟩
    have hx3 := hx2.below hb3
    clear hx2 hb3 sg HSP
    have k0 := hx3.cell 0 _ rfl
    have k1 := hx3.cell 1 _ rfl
    have k2 := hx3.cell 2 _ rfl
    have k3 := hx3.cell 3 _ rfl
    have k4 := hx3.cell 4 _ rfl
    have k5 := hx3.cell 5 _ rfl
    have k6 := hx3.cell 6 _ rfl
    have k7 := hx3.cell 7 _ rfl
    have k8 := hx3.cell 8 _ rfl
    have k9 := hx3.cell 9 _ rfl
    go_wp2_with fail
    refine (HTO.out m1 _ (h.below hx3.bel)).mono ?_
    rintro e w4 ⟨g, rfl, _, hr, hb4⟩
    have hx4 := hx3.below hb4
    clear hb4 k0 k1 k2 k3 k4 k5 k6 k7 k8 k9 hx3
    have SG := hid hr.prs
    clear hr
    have hx5 := hx4.below ((Below.refl _ _).alloc (Nat.le_refl _) (.cells #[.int .i64 W, .int .i64 S, .int .i64 L, .int .i64 T, .int .i64 H, .int .i64 F, .int .i64 R, .int .i64 U, .int .i64 O, .slice (some ⟨g, 0, none⟩) rs.length rs.length] 36))
    go_wp2_with fail
    refine (HIM.out _ _ (SG.out.below ((Below.refl _ _).alloc (Nat.le_refl _) _))).mono ?_
    rintro e w6 ⟨rfl, hb6⟩
    have hx6 := hx5.below hb6
    have hy6 := (Bn.new w4 #[.int .i64 W, .int .i64 S, .int .i64 L, .int .i64 T, .int .i64 H, .int .i64 F, .int .i64 R, .int .i64 U, .int .i64 O, .slice (some ⟨g, 0, none⟩) rs.length rs.length] 36).below hb6
    have SH := hid ((SG.out.below ((Below.refl _ _).alloc (Nat.le_refl _) _)).below hb6)
    clear hx4 hx5 hb6 SG HIM
    have HK : Hid (∀ w', Bn w w' [.int .i64 W, .int .i64 S, .int .i64 L, .int .i64 T, .int .i64 H, .int .i64 F, .int .i64 R, .int .i64 U, .int .i64 O, .slice a rs.length c] → Bn w4 w' [.int .i64 W, .int .i64 S, .int .i64 L, .int .i64 T, .int .i64 H, .int .i64 F, .int .i64 R, .int .i64 U, .int .i64 O, .slice (some ⟨g, 0, none⟩) rs.length rs.length] → w'.cell? ⟨w.heap.size, 0, none⟩ = some (.int .i64 W) ∧ w'.cell? ⟨w.heap.size, 1, none⟩ = some (.int .i64 S) ∧ w'.cell? ⟨w.heap.size, 2, none⟩ = some (.int .i64 L) ∧ w'.cell? ⟨w.heap.size, 3, none⟩ = some (.int .i64 T) ∧ w'.cell? ⟨w.heap.size, 4, none⟩ = some (.int .i64 H) ∧ w'.cell? ⟨w.heap.size, 5, none⟩ = some (.int .i64 F) ∧ w'.cell? ⟨w.heap.size, 6, none⟩ = some (.int .i64 R) ∧ w'.cell? ⟨w.heap.size, 7, none⟩ = some (.int .i64 U) ∧ w'.cell? ⟨w.heap.size, 8, none⟩ = some (.int .i64 O) ∧ w'.cell? ⟨w.heap.size, 9, none⟩ = some (.slice a rs.length c) ∧ w'.cell? ⟨w4.heap.size, 0, none⟩ = some (.int .i64 W) ∧ w'.cell? ⟨w4.heap.size, 1, none⟩ = some (.int .i64 S) ∧ w'.cell? ⟨w4.heap.size, 2, none⟩ = some (.int .i64 L) ∧ w'.cell? ⟨w4.heap.size, 3, none⟩ = some (.int .i64 T) ∧ w'.cell? ⟨w4.heap.size, 4, none⟩ = some (.int .i64 H) ∧ w'.cell? ⟨w4.heap.size, 5, none⟩ = some (.int .i64 F) ∧ w'.cell? ⟨w4.heap.size, 6, none⟩ = some (.int .i64 R) ∧ w'.cell? ⟨w4.heap.size, 7, none⟩ = some (.int .i64 U) ∧ w'.cell? ⟨w4.heap.size, 8, none⟩ = some (.int .i64 O) ∧ w'.cell? ⟨w4.heap.size, 9, none⟩ = some (.slice (some ⟨g, 0, none⟩) rs.length rs.length)) := fun w' hx hy => ⟨hx.cell 0 _ rfl, hx.cell 1 _ rfl, hx.cell 2 _ rfl, hx.cell 3 _ rfl, hx.cell 4 _ rfl, hx.cell 5 _ rfl, hx.cell 6 _ rfl, hx.cell 7 _ rfl, hx.cell 8 _ rfl, hx.cell 9 _ rfl, hy.cell 0 _ rfl, hy.cell 1 _ rfl, hy.cell 2 _ rfl, hy.cell 3 _ rfl, hy.cell 4 _ rfl, hy.cell 5 _ rfl, hy.cell 6 _ rfl, hy.cell 7 _ rfl, hy.cell 8 _ rfl, hy.cell 9 _ rfl⟩
    have HX := hid hx6
    have HY := hid hy6
    clear hx6 hy6
    go_wp2_with fail
    go_region_held3 (fun w' => w'.cell? ⟨w.heap.size, 0, none⟩ = some (.int .i64 W) ∧ w'.cell? ⟨w.heap.size, 1, none⟩ = some (.int .i64 S) ∧ w'.cell? ⟨w.heap.size, 2, none⟩ = some (.int .i64 L) ∧ w'.cell? ⟨w.heap.size, 3, none⟩ = some (.int .i64 T) ∧ w'.cell? ⟨w.heap.size, 4, none⟩ = some (.int .i64 H) ∧ w'.cell? ⟨w.heap.size, 5, none⟩ = some (.int .i64 F) ∧ w'.cell? ⟨w.heap.size, 6, none⟩ = some (.int .i64 R) ∧ w'.cell? ⟨w.heap.size, 7, none⟩ = some (.int .i64 U) ∧ w'.cell? ⟨w.heap.size, 8, none⟩ = some (.int .i64 O) ∧ w'.cell? ⟨w.heap.size, 9, none⟩ = some (.slice a rs.length c) ∧ w'.cell? ⟨w4.heap.size, 0, none⟩ = some (.int .i64 W) ∧ w'.cell? ⟨w4.heap.size, 1, none⟩ = some (.int .i64 S) ∧ w'.cell? ⟨w4.heap.size, 2, none⟩ = some (.int .i64 L) ∧ w'.cell? ⟨w4.heap.size, 3, none⟩ = some (.int .i64 T) ∧ w'.cell? ⟨w4.heap.size, 4, none⟩ = some (.int .i64 H) ∧ w'.cell? ⟨w4.heap.size, 5, none⟩ = some (.int .i64 F) ∧ w'.cell? ⟨w4.heap.size, 6, none⟩ = some (.int .i64 R) ∧ w'.cell? ⟨w4.heap.size, 7, none⟩ = some (.int .i64 U) ∧ w'.cell? ⟨w4.heap.size, 8, none⟩ = some (.int .i64 O) ∧ w'.cell? ⟨w4.heap.size, 9, none⟩ = some (.slice (some ⟨g, 0, none⟩) rs.length rs.length))
      (first | assumption | exact HK.out _ HX.out.drew HY.out.drew | exact HK.out _ (HX.out.drew.below hb7) (HY.out.drew.below hb7) | exact HK.out _ ((HX.out.drew.below hb7).below hb8) ((HY.out.drew.below hb7).below hb8))
      (first | (go_at_call 8; refine (HTO.out m1 _ (h.below HX.out.bel.drew)).mono ?_; rintro e w7 ⟨g2, rfl, _, hr7, hb7⟩) | (go_at_call 10; refine (HEQ.out _ _ _ (SH.out.below ((Below.refl _ _).drew.trans hb7)) hr7.prs).mono ?_; rintro e w8 ⟨rfl, hb8⟩))
    have hfin := ((HX.out.drew.below hb7).below hb8).bel
    clear hb7 hb8 hr7
    go_wp2
    go_ret
    exact ⟨rfl, hfin⟩

theorem cellsT : Try.prog.cellsOf 28 = 10 := by kernel_rfl
set_option maxRecDepth 100000 in
theorem lifted (os : Os) (started : os.Started) (H : Type) (enc : TypeId × Value → H) :
    ReturnsInHanded {} Try.checked os 3 .any (Rows.fnExactValidStoreSpec.pre6 enc Try.prog Try.f3 Rows.fnExactValidStoreRow.domain false) (Rows.fnExactValidStoreSpec.post enc Try.prog Try.f3 false true false false) := by
  refine returnsInHanded_of_change (C := Try.checked) own started (by kernel_rfl) Try.func3
    (ChangeSpec.witness6 (enc := enc) (C := Try.checked) false ⟨#[], #[.agg #[.int .i64 0, .int .i64 0, .int .i64 0, .int .i64 0, .int .i64 0, .int .i64 0, .int .i64 0, .int .i64 0, .int .i64 0, .slice none 0 0]], []⟩ 8 (by kernel_rfl) (by kernel_rfl) (by kernel_rfl) (by kernel_rfl)) ?_
  intro W base args ds gs before hval0 hW hcnd _
  have hval : ∀ (j : Nat) t v, Try.f3.params[j]? = some t → args[j]? = some v → Value.okWide Try.prog W .any base t v := hval0
  have hW' := hW
  obtain ⟨p, q, hA0, hV, rfl, hfz, hnd⟩ := hW
  have hA : DataW.TrodAll enc Try.prog W 0 (fun _ => true) true Try.f3.params.toList args.toList ds p := hA0
  rw [Try.params3] at hA hval
  obtain ⟨v0, vs0, d0, ds0, p0, q0, hargs, rfl, rfl, h0, r0⟩ := trodAll_cons hA
  obtain ⟨rfl, rfl, rfl⟩ := trodAll_nil r0
  obtain rfl : args = #[v0] := by cases args; simp_all
  obtain ⟨rfl, rfl⟩ := trodVars_none hV
  have k0 := h0
  have lt0 : ∀ x ∈ p0, x.block < W.heap.size := by obtain ⟨m, hm⟩ := k0; exact DataW.trod_lt m _ _ _ hm
  obtain ⟨cs, rfl, hsz⟩ := okWide_struct Try.underlying28 (hval 0 28 v0 rfl rfl)
  obtain ⟨fuel, hf⟩ := h0
  obtain ⟨W0, S0, L0, T0, H0, F0, R0, U0, O0, a, rs, c, hcs, hS, hl, hs⟩ := store_of_trod hf
  obtain rfl : cs = #[.int .i64 W0, .int .i64 S0, .int .i64 L0, .int .i64 T0, .int .i64 H0, .int .i64 F0, .int .i64 R0, .int .i64 U0, .int .i64 O0, .slice a rs.length c] := by
    apply Array.toList_inj.1
    simpa [Value.cells] using hcs
  clear hA0 hval0
  refine (walk W0 S0 L0 T0 H0 F0 R0 U0 O0 a rs c W hS hl hs).mono fun e W' ⟨he, bel⟩ => ?_
  subst he
  exact ⟨_, rfl, _, _, _, [], _, [], hW', trodAll_mk1 (shut_bool Try.underlying4 _), (trodAll_cons_mk (Below.trod laidOut (by kernel_rfl) (of_decide_eq_true (by kernel_rfl)) k0 bel lt0) trodAll_mk0), rfl, bel.frame _, fun h => by cases h⟩

theorem over : Rows.fnExactValidStoreRow.holds Try.pinned (OpenSpec.ofChange Rows.fnExactValidStoreSpec) :=
  OpenClaim.holds_of_wide 3 Try.f3 rfl rfl rfl rfl rfl rfl rfl ⟨rfl, rfl, rfl, rfl, rfl⟩ rfl rfl rfl rfl rfl (by kernel_rfl) Try.func3 (by kernel_rfl)
    (of_decide_eq_true (by kernel_rfl)) (by unfold Func.isWrapper; first | (rw [if_pos (by decide +kernel)]; kernel_rfl) | (rw [if_neg (by decide +kernel)]; exact ⟨rfl, rfl⟩))
    (fun os started H enc _ => lifted os started H enc)

theorem proved : Rows.FnExactValidStoreSaid := over
#print axioms proved
end Go.Proofs.Ytnmaknnnmjfhkae.fnExactValidStore
