import Derived.Test.YtnmaknnnmjfhkacRows
import Derived.Test.YtnmaknnnmjfhkacRx
import Derived.Test.YtnmaknnnmjfhkacOpn
import Derived.WalkKit
import Derived.ProofKit
import Derived.OpenShut
import Derived.ShutString
import Derived.ChangeOld
import Derived.Below
import Derived.Lib.SmallJoins
namespace Go.Proofs.Ytnmaknnnmjfhkac.fnExactSector
open Go.ChangeShapes Go.WideShapes Go.ChangeAt Go.RowKit Go.Joins
open Go.ChangeMaps (open_string shut_string)
set_option linter.unusedVariables false

theorem own : ownKnob Try.prog.godebug = none := by kernel_rfl
theorem laidOut : laidOutB Try.prog = true := by kernel_rfl

theorem blk_is {g n k : Nat} (h : blk (some ⟨g, 0, none⟩) n = some k) : k = g := by
  unfold blk at h
  split at h
  · cases h
  · injection h with h; exact h.symm
theorem ne_blk {g n B : Nat} (h : B ≠ g) : some B ≠ blk (some ⟨g, 0, none⟩) n := fun e => h (blk_is e.symm)
theorem ne_some {g B : Nat} (h : B ≠ g) : some B ≠ some g := fun e => h (by injection e)
theorem own_ne {g g' n n' : Nat} (h : g ≠ g') : blk (some ⟨g, 0, none⟩) n = none ∨ blk (some ⟨g', 0, none⟩) n' = none ∨ blk (some ⟨g, 0, none⟩) n ≠ blk (some ⟨g', 0, none⟩) n' := by
  cases e1 : blk (some ⟨g, 0, none⟩) n with
  | none => exact .inl rfl
  | some k =>
    cases e2 : blk (some ⟨g', 0, none⟩) n' with
    | none => exact .inr (.inl rfl)
    | some k' => exact .inr (.inr (fun e => h (by have h1 := blk_is e1; have h2 := blk_is e2; injection e with e; omega)))
theorem cx_two {w : World} {B B' : Nat} {v0 v1 u0 u1 : Value} (h : Cx w B v0 v1) (h' : Cx w B' u0 u1) : w.cell? ⟨B, 0, none⟩ = some v0 ∧ w.cell? ⟨B, 1, none⟩ = some v1 ∧ w.cell? ⟨B', 0, none⟩ = some u0 ∧ w.cell? ⟨B', 1, none⟩ = some u1 := ⟨h.c0, h.c1, h'.c0, h'.c1⟩

set_option maxRecDepth 100000 in
set_option maxHeartbeats 4000000 in
theorem walk (a : Option Addr) (ss : List ByteArray) (c : Nat) (a' : Option Addr) (ws : List (Int × ByteArray)) (c' : Nat) (n : Int) (w : World) (h : Strs w a ss) (h' : Wrs w a' ws)
    (hl : ss.length ≤ maxLen) (hs : ∀ s ∈ ss, s.size ≤ maxLen) (hl' : ws.length ≤ maxLen) (hs' : ∀ s ∈ ws, s.2.size ≤ maxLen) :
    Calls Try.prog 5 #[diskV a ss.length c a' ws.length c', .int .i64 n] w fun e w' => e = .returned (.bool true) ∧ Below w.heap.size w w' := by
  have hb0 : ∀ o, Below w.heap.size w (w.alloc o) := fun o => (Below.refl _ _).alloc (Nat.le_refl _) _
  have hbd := szL_bd (szs ss ws) 1048576 (by omega)
  obtain ⟨R, HR⟩ : ∃ R, Hid (R = szL (szs ss ws) 1048576) := ⟨_, hid rfl⟩
  rw [← HR.out] at hbd
  by_cases hR : R < 0
  · clear hbd
    go_enter Try.func5, Try.ntmps5
    go_wp2_with fail
    refine (sz_disk a ss c a' ws c' _ (h.below (hb0 _)) (h'.below (hb0 _)) hl hs hl' hs').mono ?_
    rw [← HR.out]
    rintro e w1 ⟨rfl, hb1⟩
    go_wp2
    go_ret
    exact ⟨rfl, (hb0 _).trans (hb1.mono (by simp))⟩
  have hmem := szL_mem (szs ss ws) 1048576 (by omega) (by rw [← HR.out]; omega)
  have m1 : ss.length ≤ 1048576 := by have := hmem ss.length (by simp [szs]); omega
  have m2 : ws.length ≤ 1048576 := by have := hmem ws.length (by simp [szs]); omega
  have M3 : Hid (∀ s ∈ ss, s.size ≤ 1048576) := fun s hs => by
    have := hmem s.size (by simp only [szs, List.mem_append, List.mem_cons, List.mem_map]; exact .inl (.inr ⟨s, hs, rfl⟩)); omega
  have M4 : Hid (∀ x ∈ ws, x.2.size ≤ 1048576) := fun x hx => by
    have := hmem x.2.size (by simp only [szs, List.mem_append, List.mem_cons, List.mem_map]; exact .inr (.inr ⟨x, hx, rfl⟩)); omega
  have hR0 : 0 ≤ R := by omega
  have HI := hid (fun (a : Option Addr) c (a' : Option Addr) c' w h h' => sct_i a ss c a' ws c' n w h h' m1 m2 M3.out M4.out)
  have HS := hid (fun (a : Option Addr) c (a' : Option Addr) c' w h h' => sct_s a ss c a' ws c' n w h h' m1 m2 M3.out M4.out)
  obtain ⟨rs, HRS⟩ : ∃ rs, Hid (rs = sctOf ss ws n) := ⟨_, hid rfl⟩
  rw [← HRS.out] at HI HS
  clear hmem hbd hR
  go_enter Try.func5, Try.ntmps5
  go_wp2_with fail
  refine (sz_disk a ss c a' ws c' _ (h.below (hb0 _)) (h'.below (hb0 _)) hl hs hl' hs').mono ?_
  rw [← HR.out]
  rintro e w1 ⟨rfl, hb1⟩
  have HXA1 := hid ((Cx.new w (.slice a ss.length c) (.slice a' ws.length c') 39).below hb1)
  have HBE1 := hid (Below.then (hb0 (.cells #[.slice a ss.length c, .slice a' ws.length c'] 39)) (Nat.le_refl _) hb1)
  clear hb1
  have q00 := HXA1.out.c0
  have q01 := HXA1.out.c1
  have q02 := HXA1.out.lt
  go_wp2_with fail
  refine (to_disk a ss c a' ws c' _ (h.below HBE1.out) (h'.below HBE1.out) m1 m2).mono ?_
  rintro e w2 ⟨g1, g1', rfl, _, _, _, hr, hr', hb⟩
  clear q00 q01 q02
  have HXA2 := hid (HXA1.out.below hb)
  have HBE2 := hid (Below.then HBE1.out (Nat.le_refl _) hb)
  clear HXA1 HBE1
  have HS12 := hid (hr.strs)
  have HS22 := hid (hr'.wrs)
  clear hr hr' hb
  go_wp2_with fail
  refine (HS.out _ _ _ _ _ HS12.out HS22.out).mono ?_
  rintro e w3 ⟨rfl, hb⟩
  have HXA3 := hid (HXA2.out.below hb)
  have HBE3 := hid (Below.then HBE2.out (Nat.le_refl _) hb)
  clear HXA2 HBE2 HS12 HS22
  clear hb
  have q00 := HXA3.out.c0
  have q01 := HXA3.out.c1
  have q02 := HXA3.out.lt
  go_wp2_with fail
  refine (to_disk a ss c a' ws c' _ (h.below HBE3.out) (h'.below HBE3.out) m1 m2).mono ?_
  rintro e w4 ⟨g, g', rfl, _, _, _, hr, hr', hb⟩
  clear q00 q01 q02
  have HXA4 := hid (HXA3.out.below hb)
  have HBE4 := hid (Below.then HBE3.out (Nat.le_refl _) hb)
  clear HXA3 HBE3
  have HRX4 := hid (hr)
  have HRY4 := hid (hr')
  clear hr hr' hb
  have HXA5 := hid (HXA4.out.below (below_new w4 (.cells #[.slice (some ⟨g, 0, none⟩) ss.length ss.length, .slice (some ⟨g', 0, none⟩) ws.length ws.length] 44)))
  have HBE5 := hid (Below.then HBE4.out (Nat.le_refl _) (below_new w4 (.cells #[.slice (some ⟨g, 0, none⟩) ss.length ss.length, .slice (some ⟨g', 0, none⟩) ws.length ws.length] 44)))
  have HRX5 := hid (HRX4.out.below (below_new w4 (.cells #[.slice (some ⟨g, 0, none⟩) ss.length ss.length, .slice (some ⟨g', 0, none⟩) ws.length ws.length] 44)))
  have HRY5 := hid (HRY4.out.below (below_new w4 (.cells #[.slice (some ⟨g, 0, none⟩) ss.length ss.length, .slice (some ⟨g', 0, none⟩) ws.length ws.length] 44)))
  clear HXA4 HBE4 HRX4 HRY4
  have HXX5 := hid (Cx.new w4 (.slice (some ⟨g, 0, none⟩) ss.length ss.length) (.slice (some ⟨g', 0, none⟩) ws.length ws.length) 44)
  have q00 := HXX5.out.c0
  have q01 := HXX5.out.c1
  have q02 := HXX5.out.lt
  go_wp2_with fail
  refine (HI.out _ _ _ _ _ HRX5.out.strs HRY5.out.wrs).mono ?_
  rintro e w5 ⟨rfl, hb⟩
  clear q00 q01 q02
  have HXA6 := hid (HXA5.out.below hb)
  have HBE6 := hid (Below.then HBE5.out (Nat.le_refl _) hb)
  have HRX6 := hid (HRX5.out.below hb)
  have HRY6 := hid (HRY5.out.below hb)
  have HXX6 := hid (HXX5.out.below hb)
  clear HXA5 HBE5 HRX5 HRY5 HXX5
  clear hb
  go_wp2_with fail
  go_region_held3 (fun w' => w'.cell? ⟨w.heap.size, 0, none⟩ = some (.slice a ss.length c) ∧ w'.cell? ⟨w.heap.size, 1, none⟩ = some (.slice a' ws.length c') ∧ w'.cell? ⟨w4.heap.size, 0, none⟩ = some (.slice (some ⟨g, 0, none⟩) ss.length ss.length) ∧ w'.cell? ⟨w4.heap.size, 1, none⟩ = some (.slice (some ⟨g', 0, none⟩) ws.length ws.length))
    (first | assumption | exact cx_two HXA6.out.drew HXX6.out.drew | exact cx_two (HXA6.out.drew.below hb9) (HXX6.out.drew.below hb9) | exact cx_two ((HXA6.out.drew.below hb9).below hb10) ((HXX6.out.drew.below hb9).below hb10))
    (first | (go_at_call 22; refine (to_disk a ss c a' ws c' _ (h.below HBE6.out.drew) (h'.below HBE6.out.drew) m1 m2).mono ?_; rintro e w9 ⟨g9, g9', rfl, _, _, _, hr9, hr9', hb9⟩) | (go_at_call 24; refine (eq_disk _ _ ss _ _ _ _ ws _ _ _ (HRX6.out.drew.below hb9).strs hr9.strs (HRY6.out.drew.below hb9).wrs hr9'.wrs m1 m2).mono ?_; rintro e w10 ⟨rfl, hb10⟩))
  have hfin := Below.then HBE6.out (Nat.le_refl _) (Below.then (Below.then ((Below.refl w5.heap.size w5).drew) (Nat.le_refl _) hb9) (Nat.le_refl _) hb10)
  clear hr9 hr9' hb9 hb10
  go_wp2
  go_ret
  exact ⟨rfl, hfin⟩

theorem cells1 : Try.prog.cellsOf 9 = 1 := by kernel_rfl
theorem cells2 : Try.prog.cellsOf 141 = 2 := by kernel_rfl
theorem cellsD : Try.prog.cellsOf 39 = 2 := by kernel_rfl
set_option maxHeartbeats 1000000 in
set_option maxRecDepth 100000 in
theorem lifted (os : Os) (started : os.Started) (H : Type) (enc : TypeId × Value → H) :
    ReturnsInHanded {} Try.checked os 5 .any (Rows.fnExactSectorSpec.pre6 enc Try.prog Try.f5 Rows.fnExactSectorRow.domain false) (Rows.fnExactSectorSpec.post enc Try.prog Try.f5 false true false false) := by
  refine returnsInHanded_of_change (C := Try.checked) own started (by kernel_rfl) Try.func5
    (ChangeSpec.witness6 (enc := enc) (C := Try.checked) false ⟨#[], #[.agg #[.slice none 0 0, .slice none 0 0], .int .i64 0], []⟩ 8 (by kernel_rfl) (by kernel_rfl) (by kernel_rfl) (by kernel_rfl)) ?_
  intro W base args ds gs before hval0 hW hcnd _
  have hval : ∀ (j : Nat) t v, Try.f5.params[j]? = some t → args[j]? = some v → Value.okWide Try.prog W .any base t v := hval0
  have hW' := hW
  obtain ⟨p, q, hA0, hV, rfl, hfz, hnd⟩ := hW
  have hA : DataW.TrodAll enc Try.prog W 0 (fun _ => true) true Try.f5.params.toList args.toList ds p := hA0
  rw [Try.params5] at hA hval
  obtain ⟨v0, vs0, d0, ds0, p0, q0, hargs, rfl, rfl, h0, r0⟩ := trodAll_cons hA
  obtain ⟨v1, vs1, d1, ds1, p1, q1, rfl, rfl, rfl, h1, r1⟩ := trodAll_cons r0
  obtain ⟨rfl, rfl, rfl⟩ := trodAll_nil r1
  obtain rfl : args = #[v0, v1] := by cases args; simp_all
  obtain ⟨rfl, rfl⟩ := trodVars_none hV
  have k0 := h0
  have lt0 : ∀ x ∈ p0, x.block < W.heap.size := by obtain ⟨m, hm⟩ := k0; exact DataW.trod_lt m _ _ _ hm
  obtain ⟨c0, c1, y0, y1, mm, rfl, _, _, hy0, hy1⟩ := open_agg2 Try.underlying39 (by kernel_rfl) cellsD (hval 0 39 v0 rfl rfl) h0
  obtain ⟨a, ss, c, rfl, hS, hl, hs⟩ := strs_of_trod Try.underlying32 Try.underlying9 cells1 hy0
  obtain ⟨a', ws, c', rfl, hS', hl', hs', _⟩ := wrs_of_trod Try.underlying37 Try.underlying141 cells2 rfl rfl (by kernel_rfl) (by kernel_rfl) Try.underlying3 Try.underlying9 hy1
  obtain ⟨b1, rfl, rfl, rfl, wz⟩ := open_int Try.underlying3 (hval 1 3 v1 rfl rfl) h1
  clear hA0 hval0
  refine (walk a ss c a' ws c' b1 W hS hS' hl hs hl' hs').mono fun e W' ⟨he, bel⟩ => ?_
  subst he
  exact ⟨_, rfl, _, _, _, [], _, [], hW', trodAll_mk1 (shut_bool Try.underlying4 _), (trodAll_cons_mk (Below.trod laidOut (by kernel_rfl) (of_decide_eq_true (by kernel_rfl)) k0 bel lt0) (trodAll_cons_mk (shut_int Try.underlying3 wz) trodAll_mk0)), rfl, bel.frame _, fun h => by cases h⟩

theorem over : Rows.fnExactSectorRow.holds Try.pinned (OpenSpec.ofChange Rows.fnExactSectorSpec) :=
  OpenClaim.holds_of_wide 5 Try.f5 rfl rfl rfl rfl rfl rfl rfl ⟨rfl, rfl, rfl, rfl, rfl⟩ rfl rfl rfl rfl rfl (by kernel_rfl) Try.func5 (by kernel_rfl)
    (of_decide_eq_true (by kernel_rfl)) (by unfold Func.isWrapper; first | (rw [if_pos (by decide +kernel)]; kernel_rfl) | (rw [if_neg (by decide +kernel)]; exact ⟨rfl, rfl⟩))
    (fun os started H enc _ => lifted os started H enc)

theorem proved : Rows.FnExactSectorSaid := over
#print axioms proved
end Go.Proofs.Ytnmaknnnmjfhkac.fnExactSector
