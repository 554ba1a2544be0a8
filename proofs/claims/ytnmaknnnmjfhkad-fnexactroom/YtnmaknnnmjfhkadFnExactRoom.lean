import Derived.Test.YtnmaknnnmjfhkadRows
import Derived.Test.YtnmaknnnmjfhkadRm
import Derived.Test.YtnmaknnnmjfhkadStB
import Derived.Test.YtnmaknnnmjfhkadStC
import Derived.WalkKit
import Derived.ProofKit
import Derived.OpenShut
import Derived.ShutString
import Derived.ChangeOld
import Derived.ChangeSlices
import Derived.Below
import Derived.Lib.SmallJoins
namespace Go.Proofs.Ytnmaknnnmjfhkad.fnExactRoom
open Go.ChangeShapes Go.WideShapes Go.ChangeAt Go.RowKit Go.Joins
open Go.ChangeMaps (open_string shut_string)
set_option linter.unusedVariables false

theorem own : ownKnob Try.prog.godebug = none := by kernel_rfl
theorem laidOut : laidOutB Try.prog = true := by kernel_rfl

/-- A box of one cell right behind a world, and what was there stands. -/
structure Bx (W w : World) (v0 : Value) : Prop where
  lt : W.heap.size < w.heap.size
  c0 : w.cell? ⟨W.heap.size, 0, none⟩ = some v0
  bel : Below W.heap.size W w
theorem Bx.below {W w w' : World} {v0 : Value} (h : Bx W w v0) (hb : Below w.heap.size w w') : Bx W w' v0 :=
  ⟨Nat.lt_of_lt_of_le h.lt hb.size, (hb.cell (p := ⟨_, 0, none⟩) h.lt).trans h.c0, h.bel.trans (hb.mono (Nat.le_of_lt h.lt))⟩
theorem Bx.drew {W w : World} {v0 : Value} (h : Bx W w v0) : Bx W w.drew v0 := ⟨h.lt, h.c0, h.bel.drew⟩
theorem Bx.new (W : World) (v0 : Value) (t : TypeId) : Bx W (W.alloc (.cells #[v0] t)) v0 :=
  ⟨by simp, by rw [World.cell?_alloc_at _ _ _ _ rfl]; rfl, (Below.refl _ _).alloc (Nat.le_refl _) _⟩

set_option maxHeartbeats 800000 in
theorem walk (a : Option Addr) (rs : List (ByteArray × ByteArray)) (c : Nat) (n : Int) (w : World) (h : Prs w a rs) (hl : rs.length ≤ maxLen) (hs : ∀ s ∈ rs, s.1.size ≤ maxLen ∧ s.2.size ≤ maxLen) :
    Calls Try.prog 4 #[stV a rs.length c, .int .i64 n] w fun e w' => e = .returned (.bool true) ∧ Below w.heap.size w w' := by
  have hb0 : ∀ o, Below w.heap.size w (w.alloc o) := fun o => (Below.refl _ _).alloc (Nat.le_refl _) _
  have hbd := szL_bd (rs.length :: rs.flatMap prsz) 1048576 (by omega)
  obtain ⟨R, HR⟩ : ∃ R, Hid (R = szL (rs.length :: rs.flatMap prsz) 1048576) := ⟨_, hid rfl⟩
  rw [← HR.out] at hbd
  by_cases hR : R < 0
  · clear hbd
    go_enter Try.func4, Try.ntmps4
    go_wp2_with fail
    refine (sz_state a rs c _ (h.below (hb0 _)) 1048576 (by omega) (by omega) hl hs).mono ?_
    rw [← HR.out]
    rintro e w1 ⟨rfl, hb1⟩
    go_wp2
    go_ret
    exact ⟨rfl, (hb0 _).trans (hb1.mono (by simp))⟩
  · have hmem := szL_mem (rs.length :: rs.flatMap prsz) 1048576 (by omega) (by rw [← HR.out]; omega)
    have m1 : rs.length ≤ 1048576 := by have := hmem rs.length (by simp); omega
    have M3 : Hid (∀ x ∈ rs, x.1.size ≤ 1048576 ∧ x.2.size ≤ 1048576) := fun x hx => by
      have h1 := hmem x.1.size (List.mem_cons_of_mem _ (List.mem_flatMap.2 ⟨x, hx, by simp [prsz]⟩))
      have h2 := hmem x.2.size (List.mem_cons_of_mem _ (List.mem_flatMap.2 ⟨x, hx, by simp [prsz]⟩))
      omega
    have hR0 : 0 ≤ R := by omega
    obtain ⟨B, HB⟩ : ∃ B, Hid (B = roomOf (snapOf rs) n) := ⟨_, hid rfl⟩
    clear hmem hbd hR
    go_enter Try.func4, Try.ntmps4
    go_wp2_with fail
    refine (sz_state a rs c _ (h.below (hb0 _)) 1048576 (by omega) (by omega) hl hs).mono ?_
    rw [← HR.out]
    rintro e w1 ⟨rfl, hb1⟩
    have hx1 := (Bx.new w (.slice a rs.length c) 45).below hb1
    clear hb1
    obtain ⟨l1, c0, bl1⟩ := hx1
    go_wp2_with fail
    refine (to_state a rs c _ (h.below bl1) m1).mono ?_
    rintro e w2 ⟨g, rfl, _, hr, hb2⟩
    have hx2 := Bx.below ⟨l1, c0, bl1⟩ hb2
    clear l1 c0 bl1 hb2
    have sg := hr.prs
    clear hr
    go_wp2_with fail
    refine (room_s _ rs _ n _ sg m1 M3.out).mono ?_
    rw [← HB.out]
    rintro e w3 ⟨rfl, hb3⟩
    have hx3 := hx2.below hb3
    clear hx2 hb3 sg
    obtain ⟨l1, c0, bl1⟩ := hx3
    go_wp2_with fail
    refine (to_state a rs c _ (h.below bl1) m1).mono ?_
    rintro e w4 ⟨g, rfl, _, hr, hb4⟩
    have hx4 := Bx.below ⟨l1, c0, bl1⟩ hb4
    clear l1 c0 bl1 hb4
    have SG := hid hr.prs
    clear hr
    have hx5 := hx4.below ((Below.refl _ _).alloc (Nat.le_refl _) (.cells #[.slice (some ⟨g, 0, none⟩) rs.length rs.length] 25))
    go_wp2_with fail
    refine (room_i _ rs _ n _ (SG.out.below ((Below.refl _ _).alloc (Nat.le_refl _) _)) (Nat.le_refl _) m1 M3.out).mono ?_
    rw [← HB.out]
    rintro e w6 ⟨rfl, hb6⟩
    have hx6 := hx5.below hb6
    have hy6 := (Bx.new w4 (.slice (some ⟨g, 0, none⟩) rs.length rs.length) 25).below hb6
    have SH := hid ((SG.out.below ((Below.refl _ _).alloc (Nat.le_refl _) _)).below hb6)
    clear hx4 hx5 hb6 SG
    have HX := hid hx6
    have HY := hid hy6
    clear hx6 hy6
    go_wp2_with fail
    go_region_held3 (fun w' => w'.cell? ⟨w.heap.size, 0, none⟩ = some (.slice a rs.length c) ∧ w'.cell? ⟨w4.heap.size, 0, none⟩ = some (.slice (some ⟨g, 0, none⟩) rs.length rs.length))
      (first | assumption | exact ⟨HX.out.drew.c0, HY.out.drew.c0⟩ | exact ⟨(HX.out.drew.below hb7).c0, (HY.out.drew.below hb7).c0⟩ | exact ⟨((HX.out.drew.below hb7).below hb8).c0, ((HY.out.drew.below hb7).below hb8).c0⟩)
      (first | (go_at_call 21; refine (to_state a rs c _ (h.below HX.out.bel.drew) m1).mono ?_; rintro e w7 ⟨g2, rfl, _, hr7, hb7⟩) | (go_at_call 22; refine (eq_state _ _ rs _ _ _ (SH.out.below ((Below.refl _ _).drew.trans hb7)) hr7.prs m1).mono ?_; rintro e w8 ⟨rfl, hb8⟩))
    have hfin := ((HX.out.drew.below hb7).below hb8).bel
    clear hb7 hb8 hr7
    go_wp2
    go_ret
    exact ⟨rfl, hfin⟩

theorem cells2 : Try.prog.cellsOf 184 = 2 := by kernel_rfl
theorem cellsS : Try.prog.cellsOf 45 = 1 := by kernel_rfl
set_option maxRecDepth 100000 in
theorem lifted (os : Os) (started : os.Started) (H : Type) (enc : TypeId × Value → H) :
    ReturnsInHanded {} Try.checked os 4 .any (Rows.fnExactRoomSpec.pre6 enc Try.prog Try.f4 Rows.fnExactRoomRow.domain false) (Rows.fnExactRoomSpec.post enc Try.prog Try.f4 false true false false) := by
  refine returnsInHanded_of_change (C := Try.checked) own started (by kernel_rfl) Try.func4
    (ChangeSpec.witness6 (enc := enc) (C := Try.checked) false ⟨#[], #[.agg #[.slice none 0 0], .int .i64 0], []⟩ 8 (by kernel_rfl) (by kernel_rfl) (by kernel_rfl) (by kernel_rfl)) ?_
  intro W base args ds gs before hval0 hW hcnd _
  have hval : ∀ (j : Nat) t v, Try.f4.params[j]? = some t → args[j]? = some v → Value.okWide Try.prog W .any base t v := hval0
  have hW' := hW
  obtain ⟨p, q, hA0, hV, rfl, hfz, hnd⟩ := hW
  have hA : DataW.TrodAll enc Try.prog W 0 (fun _ => true) true Try.f4.params.toList args.toList ds p := hA0
  rw [Try.params4] at hA hval
  obtain ⟨v0, vs0, d0, ds0, p0, q0, hargs, rfl, rfl, h0, r0⟩ := trodAll_cons hA
  obtain ⟨v1, vs1, d1, ds1, p1, q1, rfl, rfl, rfl, h1, r1⟩ := trodAll_cons r0
  obtain ⟨rfl, rfl, rfl⟩ := trodAll_nil r1
  obtain rfl : args = #[v0, v1] := by cases args; simp_all
  obtain ⟨rfl, rfl⟩ := trodVars_none hV
  have k0 := h0
  have lt0 : ∀ x ∈ p0, x.block < W.heap.size := by obtain ⟨m, hm⟩ := k0; exact DataW.trod_lt m _ _ _ hm
  obtain ⟨c0, y0, mm, rfl, hy0⟩ := open_agg1' Try.underlying45 rfl (by kernel_rfl) cellsS (hval 0 45 v0 rfl rfl) h0
  obtain ⟨a, rs, c, rfl, hS, hl, hs⟩ := prs_of_trod Try.underlying43 Try.underlying184 cells2 rfl rfl (by kernel_rfl) (by kernel_rfl) Try.underlying9 Try.underlying9 hy0
  obtain ⟨b1, rfl, rfl, rfl, wz⟩ := open_int Try.underlying3 (hval 1 3 v1 rfl rfl) h1
  clear hA0 hval0
  refine (walk a rs c b1 W hS hl hs).mono fun e W' ⟨he, bel⟩ => ?_
  subst he
  exact ⟨_, rfl, _, _, _, [], _, [], hW', trodAll_mk1 (shut_bool Try.underlying4 _), (trodAll_cons_mk (Below.trod laidOut (by kernel_rfl) (of_decide_eq_true (by kernel_rfl)) k0 bel lt0) (trodAll_cons_mk (shut_int Try.underlying3 wz) trodAll_mk0)), rfl, bel.frame _, fun h => by cases h⟩

theorem over : Rows.fnExactRoomRow.holds Try.pinned (OpenSpec.ofChange Rows.fnExactRoomSpec) :=
  OpenClaim.holds_of_wide 4 Try.f4 rfl rfl rfl rfl rfl rfl rfl ⟨rfl, rfl, rfl, rfl, rfl⟩ rfl rfl rfl rfl rfl (by kernel_rfl) Try.func4 (by kernel_rfl)
    (of_decide_eq_true (by kernel_rfl)) (by unfold Func.isWrapper; first | (rw [if_pos (by decide +kernel)]; kernel_rfl) | (rw [if_neg (by decide +kernel)]; exact ⟨rfl, rfl⟩))
    (fun os started H enc _ => lifted os started H enc)

theorem proved : Rows.FnExactRoomSaid := over
#print axioms proved
end Go.Proofs.Ytnmaknnnmjfhkad.fnExactRoom
