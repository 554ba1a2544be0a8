import Derived.Test.YtnmaknnnmjfhkabRows
import Derived.Test.YtnmaknnnmjfhkabValid
import Derived.Test.YtnmaknnnmjfhkabOpn
import Derived.WalkKit
import Derived.ProofKit
import Derived.OpenShut
import Derived.ShutString
import Derived.ChangeOld
import Derived.Below
import Derived.Lib.SmallJoins
namespace Go.Proofs.Ytnmaknnnmjfhkab.fnExactValidDisk
open Go.ChangeShapes Go.WideShapes Go.ChangeAt Go.RowKit Go.Joins
open Go.ChangeMaps (open_string shut_string)
set_option linter.unusedVariables false

theorem own : ownKnob Try.prog.godebug = none := by kernel_rfl
theorem laidOut : laidOutB Try.prog = true := by kernel_rfl

/-- A box of two cells right behind a world, and what was there stands. -/
structure Bx (W w : World) (v0 v1 : Value) : Prop where
  lt : W.heap.size < w.heap.size
  c0 : w.cell? ⟨W.heap.size, 0, none⟩ = some v0
  c1 : w.cell? ⟨W.heap.size, 1, none⟩ = some v1
  bel : Below W.heap.size W w
theorem Bx.below {W w w' : World} {v0 v1 : Value} (h : Bx W w v0 v1) (hb : Below w.heap.size w w') : Bx W w' v0 v1 :=
  ⟨Nat.lt_of_lt_of_le h.lt hb.size, (hb.cell (p := ⟨_, 0, none⟩) h.lt).trans h.c0, (hb.cell (p := ⟨_, 1, none⟩) h.lt).trans h.c1, h.bel.trans (hb.mono (Nat.le_of_lt h.lt))⟩
theorem Bx.drew {W w : World} {v0 v1 : Value} (h : Bx W w v0 v1) : Bx W w.drew v0 v1 := ⟨h.lt, h.c0, h.c1, h.bel.drew⟩
theorem bx_two {W W' w : World} {v0 v1 u0 u1 : Value} (h : Bx W w v0 v1) (h' : Bx W' w u0 u1) : w.cell? ⟨W.heap.size, 0, none⟩ = some v0 ∧ w.cell? ⟨W.heap.size, 1, none⟩ = some v1 ∧ w.cell? ⟨W'.heap.size, 0, none⟩ = some u0 ∧ w.cell? ⟨W'.heap.size, 1, none⟩ = some u1 := ⟨h.c0, h.c1, h'.c0, h'.c1⟩
theorem Bx.new (W : World) (v0 v1 : Value) (t : TypeId) : Bx W (W.alloc (.cells #[v0, v1] t)) v0 v1 :=
  ⟨by simp, by rw [World.cell?_alloc_at _ _ _ _ rfl]; rfl, by rw [World.cell?_alloc_at _ _ _ _ rfl]; rfl, (Below.refl _ _).alloc (Nat.le_refl _) _⟩

set_option maxHeartbeats 800000 in
theorem walk (a : Option Addr) (ss : List ByteArray) (c : Nat) (a' : Option Addr) (ws : List (Int × ByteArray)) (c' : Nat) (w : World) (h : Strs w a ss) (h' : Wrs w a' ws)
    (hl : ss.length ≤ maxLen) (hs : ∀ s ∈ ss, s.size ≤ maxLen) (hl' : ws.length ≤ maxLen) (hs' : ∀ s ∈ ws, s.2.size ≤ maxLen) :
    Calls Try.prog 8 #[diskV a ss.length c a' ws.length c'] w fun e w' => e = .returned (.bool true) ∧ Below w.heap.size w w' := by
  have hb0 : ∀ o, Below w.heap.size w (w.alloc o) := fun o => (Below.refl _ _).alloc (Nat.le_refl _) _
  have hbd := szL_bd (szs ss ws) 1048576 (by omega)
  obtain ⟨R, HR⟩ : ∃ R, Hid (R = szL (szs ss ws) 1048576) := ⟨_, hid rfl⟩
  rw [← HR.out] at hbd
  by_cases hR : R < 0
  · clear hbd
    go_enter Try.func8, Try.ntmps8
    go_wp2_with fail
    refine (sz_disk a ss c a' ws c' _ (h.below (hb0 _)) (h'.below (hb0 _)) hl hs hl' hs').mono ?_
    rw [← HR.out]
    rintro e w1 ⟨rfl, hb1⟩
    go_wp2
    go_ret
    exact ⟨rfl, (hb0 _).trans (hb1.mono (by simp))⟩
  · have hmem := szL_mem (szs ss ws) 1048576 (by omega) (by rw [← HR.out]; omega)
    have m1 : ss.length ≤ 1048576 := by have := hmem ss.length (by simp [szs]); omega
    have m2 : ws.length ≤ 1048576 := by have := hmem ws.length (by simp [szs]); omega
    have M3 : Hid (∀ s ∈ ss, s.size ≤ 1048576) := fun s hs => by
      have := hmem s.size (by simp only [szs, List.mem_append, List.mem_cons, List.mem_map]; exact .inl (.inr ⟨s, hs, rfl⟩)); omega
    have M4 : Hid (∀ x ∈ ws, x.2.size ≤ 1048576) := fun x hx => by
      have := hmem x.2.size (by simp only [szs, List.mem_append, List.mem_cons, List.mem_map]; exact .inr (.inr ⟨x, hx, rfl⟩)); omega
    have hR0 : 0 ≤ R := by omega
    clear hmem hbd hR
    go_enter Try.func8, Try.ntmps8
    go_wp2_with fail
    refine (sz_disk a ss c a' ws c' _ (h.below (hb0 _)) (h'.below (hb0 _)) hl hs hl' hs').mono ?_
    rw [← HR.out]
    rintro e w1 ⟨rfl, hb1⟩
    have hx1 := (Bx.new w (.slice a ss.length c) (.slice a' ws.length c') 63).below hb1
    clear hb1
    obtain ⟨l1, c0, c1, bl1⟩ := hx1
    go_wp2_with fail
    refine (to_disk a ss c a' ws c' _ (h.below bl1) (h'.below bl1) m1 m2).mono ?_
    rintro e w2 ⟨g, g', rfl, _, _, _, hr, hr', hb2⟩
    have hx2 := Bx.below ⟨l1, c0, c1, bl1⟩ hb2
    clear l1 c0 c1 bl1 hb2
    have sg := hr.strs
    have sg' := hr'.wrs
    clear hr hr'
    go_wp2_with fail
    refine (valid_s _ ss _ _ ws _ _ sg sg' m1 m2 M3.out M4.out).mono ?_
    rintro e w3 ⟨rfl, hb3⟩
    have hx3 := hx2.below hb3
    clear hx2 hb3 sg sg'
    obtain ⟨l1, c0, c1, bl1⟩ := hx3
    go_wp2_with fail
    refine (to_disk a ss c a' ws c' _ (h.below bl1) (h'.below bl1) m1 m2).mono ?_
    rintro e w4 ⟨g, g', rfl, _, _, _, hr, hr', hb4⟩
    have hx4 := Bx.below ⟨l1, c0, c1, bl1⟩ hb4
    clear l1 c0 c1 bl1 hb4
    have SG := hid hr.strs
    have SG' := hid hr'.wrs
    clear hr hr'
    have hx5 := hx4.below ((Below.refl _ _).alloc (Nat.le_refl _) (.cells #[.slice (some ⟨g, 0, none⟩) ss.length ss.length, .slice (some ⟨g', 0, none⟩) ws.length ws.length] 32))
    go_wp2_with fail
    refine (valid_i _ ss _ _ ws _ _ (SG.out.below ((Below.refl _ _).alloc (Nat.le_refl _) _)) (SG'.out.below ((Below.refl _ _).alloc (Nat.le_refl _) _)) m1 m2 M3.out M4.out).mono ?_
    rintro e w6 ⟨rfl, hb6⟩
    have hx6 := hx5.below hb6
    have hy6 := (Bx.new w4 (.slice (some ⟨g, 0, none⟩) ss.length ss.length) (.slice (some ⟨g', 0, none⟩) ws.length ws.length) 32).below hb6
    have SH := hid ((SG.out.below ((Below.refl _ _).alloc (Nat.le_refl _) _)).below hb6)
    have SH' := hid ((SG'.out.below ((Below.refl _ _).alloc (Nat.le_refl _) _)).below hb6)
    clear hx4 hx5 hb6 SG SG'
    have HX := hid hx6
    have HY := hid hy6
    clear hx6 hy6
    go_wp2_with fail
    go_region_held3 (fun w' => w'.cell? ⟨w.heap.size, 0, none⟩ = some (.slice a ss.length c) ∧ w'.cell? ⟨w.heap.size, 1, none⟩ = some (.slice a' ws.length c') ∧ w'.cell? ⟨w4.heap.size, 0, none⟩ = some (.slice (some ⟨g, 0, none⟩) ss.length ss.length) ∧ w'.cell? ⟨w4.heap.size, 1, none⟩ = some (.slice (some ⟨g', 0, none⟩) ws.length ws.length))
      (first | assumption | exact bx_two HX.out.drew HY.out.drew | exact bx_two (HX.out.drew.below hb7) (HY.out.drew.below hb7) | exact bx_two ((HX.out.drew.below hb7).below hb8) ((HY.out.drew.below hb7).below hb8))
      (first | (go_at_call 33; refine (to_disk a ss c a' ws c' _ (h.below HX.out.bel.drew) (h'.below HX.out.bel.drew) m1 m2).mono ?_; rintro e w7 ⟨g2, g2', rfl, _, _, _, hr7, hr7', hb7⟩) | (go_at_call 15; refine (eq_disk _ _ ss _ _ _ _ ws _ _ _ (SH.out.below ((Below.refl _ _).drew.trans hb7)) hr7.strs (SH'.out.below ((Below.refl _ _).drew.trans hb7)) hr7'.wrs m1 m2).mono ?_; rintro e w8 ⟨rfl, hb8⟩))
    have hfin := ((HX.out.drew.below hb7).below hb8).bel
    clear hb7 hb8 hr7 hr7'
    go_wp2
    go_ret
    exact ⟨rfl, hfin⟩

theorem cells1 : Try.prog.cellsOf 9 = 1 := by kernel_rfl
theorem cells2 : Try.prog.cellsOf 129 = 2 := by kernel_rfl
theorem cellsD : Try.prog.cellsOf 63 = 2 := by kernel_rfl
set_option maxRecDepth 100000 in
theorem lifted (os : Os) (started : os.Started) (H : Type) (enc : TypeId × Value → H) :
    ReturnsInHanded {} Try.checked os 8 .any (Rows.fnExactValidDiskSpec.pre6 enc Try.prog Try.f8 Rows.fnExactValidDiskRow.domain false) (Rows.fnExactValidDiskSpec.post enc Try.prog Try.f8 false true false false) := by
  refine returnsInHanded_of_change (C := Try.checked) own started (by kernel_rfl) Try.func8
    (ChangeSpec.witness6 (enc := enc) (C := Try.checked) false ⟨#[], #[.agg #[.slice none 0 0, .slice none 0 0]], []⟩ 8 (by kernel_rfl) (by kernel_rfl) (by kernel_rfl) (by kernel_rfl)) ?_
  intro W base args ds gs before hval0 hW hcnd _
  have hval : ∀ (j : Nat) t v, Try.f8.params[j]? = some t → args[j]? = some v → Value.okWide Try.prog W .any base t v := hval0
  have hW' := hW
  obtain ⟨p, q, hA0, hV, rfl, hfz, hnd⟩ := hW
  have hA : DataW.TrodAll enc Try.prog W 0 (fun _ => true) true Try.f8.params.toList args.toList ds p := hA0
  rw [Try.params8] at hA hval
  obtain ⟨v0, vs0, d0, ds0, p0, q0, hargs, rfl, rfl, h0, r0⟩ := trodAll_cons hA
  obtain ⟨rfl, rfl, rfl⟩ := trodAll_nil r0
  obtain rfl : args = #[v0] := by cases args; simp_all
  obtain ⟨rfl, rfl⟩ := trodVars_none hV
  have k0 := h0
  have lt0 : ∀ x ∈ p0, x.block < W.heap.size := by obtain ⟨m, hm⟩ := k0; exact DataW.trod_lt m _ _ _ hm
  obtain ⟨c0, c1, y0, y1, mm, rfl, _, _, hy0, hy1⟩ := open_agg2 Try.underlying63 (by kernel_rfl) cellsD (hval 0 63 v0 rfl rfl) h0
  obtain ⟨a, ss, c, rfl, hS, hl, hs⟩ := strs_of_trod Try.underlying29 Try.underlying9 cells1 hy0
  obtain ⟨a', ws, c', rfl, hS', hl', hs', _⟩ := wrs_of_trod Try.underlying61 Try.underlying129 cells2 rfl rfl (by kernel_rfl) (by kernel_rfl) Try.underlying3 Try.underlying9 hy1
  clear hA0 hval0
  refine (walk a ss c a' ws c' W hS hS' hl hs hl' hs').mono fun e W' ⟨he, bel⟩ => ?_
  subst he
  exact ⟨_, rfl, _, _, _, [], _, [], hW', trodAll_mk1 (shut_bool Try.underlying4 _), (trodAll_cons_mk (Below.trod laidOut (by kernel_rfl) (of_decide_eq_true (by kernel_rfl)) k0 bel lt0) trodAll_mk0), rfl, bel.frame _, fun h => by cases h⟩

theorem over : Rows.fnExactValidDiskRow.holds Try.pinned (OpenSpec.ofChange Rows.fnExactValidDiskSpec) :=
  OpenClaim.holds_of_wide 8 Try.f8 rfl rfl rfl rfl rfl rfl rfl ⟨rfl, rfl, rfl, rfl, rfl⟩ rfl rfl rfl rfl rfl (by kernel_rfl) Try.func8 (by kernel_rfl)
    (of_decide_eq_true (by kernel_rfl)) (by unfold Func.isWrapper; first | (rw [if_pos (by decide +kernel)]; kernel_rfl) | (rw [if_neg (by decide +kernel)]; exact ⟨rfl, rfl⟩))
    (fun os started H enc _ => lifted os started H enc)

theorem proved : Rows.FnExactValidDiskSaid := over
#print axioms proved
end Go.Proofs.Ytnmaknnnmjfhkab.fnExactValidDisk
