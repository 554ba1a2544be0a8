import Derived.Test.YtnmaknnnmjfhkaaRows
import Derived.Test.YtnmaknnnmjfhkaaChE
import Derived.Test.YtnmaknnnmjfhkaaFbJ
import Derived.Test.YtnmaknnnmjfhkaaFbS
import Derived.Test.YtnmaknnnmjfhkaaChC
import Derived.Test.YtnmaknnnmjfhkaaChB
import Derived.WalkKit
import Derived.ProofKit
import Derived.OpenShut
import Derived.ShutString
import Derived.ChangeOld
import Derived.ChangeSlices
import Derived.Below
import Derived.Lib.SmallJoins
namespace Go.Proofs.Ytnmaknnnmjfhkaa.fnExactFormBatch
open Go.ChangeShapes Go.WideShapes Go.ChangeAt Go.RowKit Go.Joins
open Go.ChangeMaps (open_string shut_string)
set_option linter.unusedVariables false

theorem own : ownKnob Try.prog.godebug = none := by kernel_rfl
theorem laidOut : laidOutB Try.prog = true := by kernel_rfl

set_option maxHeartbeats 800000 in
theorem walk (a : Option Addr) (rs : List (ByteArray × ByteArray × Bool)) (c : Nat) (w : World) (h : Chs w a rs) (hl : rs.length ≤ maxLen) (hs : ∀ s ∈ rs, s.1.size ≤ maxLen ∧ s.2.1.size ≤ maxLen) :
    Calls Try.prog 7 #[.slice a rs.length c] w fun e w' => e = .returned (.bool true) ∧ Below w.heap.size w w' := by
  have hbd := szL_bd (rs.length :: rs.flatMap chsz) 1048576 (by omega)
  obtain ⟨R, HR⟩ : ∃ R, Hid (R = szL (rs.length :: rs.flatMap chsz) 1048576) := ⟨_, hid rfl⟩
  rw [← HR.out] at hbd
  by_cases hR : R < 0
  · clear hbd
    go_enter Try.func7, Try.ntmps7
    go_wp2_with fail
    refine (sz_chs a rs c 1048576 _ h (by omega) (by omega) hl hs).mono ?_
    rw [← HR.out]
    rintro e w1 ⟨rfl, hb1⟩
    go_wp2
    go_ret
    exact ⟨rfl, hb1⟩
  · have hmem := szL_mem (rs.length :: rs.flatMap chsz) 1048576 (by omega) (by rw [← HR.out]; omega)
    have m1 : rs.length ≤ 1048576 := by have := hmem rs.length (by simp); omega
    have M3 : Hid (∀ x ∈ rs, x.1.size ≤ 1048576 ∧ x.2.1.size ≤ 1048576) := fun x hx => by
      have h1 := hmem x.1.size (List.mem_cons_of_mem _ (List.mem_flatMap.2 ⟨x, hx, by simp [chsz]⟩))
      have h2 := hmem x.2.1.size (List.mem_cons_of_mem _ (List.mem_flatMap.2 ⟨x, hx, by simp [chsz]⟩))
      omega
    have hR0 : 0 ≤ R := by omega
    obtain ⟨B, HB⟩ : ∃ B, Hid (B = bOut rs) := ⟨_, hid rfl⟩
    clear hmem hbd hR
    go_enter Try.func7, Try.ntmps7
    go_wp2_with fail
    refine (sz_chs a rs c 1048576 _ h (by omega) (by omega) hl hs).mono ?_
    rw [← HR.out]
    rintro e w1 ⟨rfl, hb1⟩
    go_wp2_with fail
    refine (to_chs a rs c _ (h.below hb1) m1).mono ?_
    rintro e w2 ⟨g, rfl, hg, hr, hb2⟩
    have hB2 := hb1.trans (hb2.mono hb1.size)
    have sg := hr.chs
    clear hr hb1 hb2
    go_wp2_with fail
    refine (formbatch_s _ rs _ _ sg m1 M3.out).mono ?_
    rw [← HB.out]
    rintro e w3 ⟨rfl, hb3⟩
    have hB3 := hB2.trans (hb3.mono hB2.size)
    clear hB2 hb3 sg
    go_wp2_with fail
    refine (to_chs a rs c _ (h.below hB3) m1).mono ?_
    rintro e w4 ⟨g4, rfl, hg4, hr4, hb4⟩
    have hB4 := hB3.trans (hb4.mono hB3.size)
    have sg4 := hr4.chs
    clear hr4 hB3 hb4
    go_wp2_with fail
    refine (formbatch_i _ rs _ _ sg4 m1 M3.out).mono ?_
    rw [← HB.out]
    rintro e w5 ⟨rfl, hb5⟩
    have hB5 := hB4.trans (hb5.mono hB4.size)
    have SG5 := hid (sg4.below hb5)
    clear hB4 hb5 sg4
    go_wp2_with fail
    refine (to_chs a rs c _ (h.below hB5) m1).mono ?_
    rintro e w7 ⟨g7, rfl, hg7, hr7, hb7⟩
    have hB7 := hB5.trans (hb7.mono hB5.size)
    have sg7 := hr7.chs
    have SG7 := hid (SG5.out.below hb7)
    clear hr7 hB5 hb7
    go_wp2_with fail
    refine (eq_chs _ _ rs _ _ _ SG7.out sg7 m1).mono ?_
    rintro e w8 ⟨rfl, hb8⟩
    have hB8 := hB7.trans (hb8.mono hB7.size)
    clear hB7 hb8 sg7
    go_wp2
    go_ret
    exact ⟨rfl, hB8⟩

theorem cells3 : Try.prog.cellsOf 54 = 3 := by kernel_rfl
set_option maxRecDepth 100000 in
theorem lifted (os : Os) (started : os.Started) (H : Type) (enc : TypeId × Value → H) :
    ReturnsInHanded {} Try.checked os 7 .any (Rows.fnExactFormBatchSpec.pre6 enc Try.prog Try.f7 Rows.fnExactFormBatchRow.domain false) (Rows.fnExactFormBatchSpec.post enc Try.prog Try.f7 false true false false) := by
  refine returnsInHanded_of_change (C := Try.checked) own started (by kernel_rfl) Try.func7
    (ChangeSpec.witness6 (enc := enc) (C := Try.checked) false ⟨#[], #[.slice none 0 0], []⟩ 8 (by kernel_rfl) (by kernel_rfl) (by kernel_rfl) (by kernel_rfl)) ?_
  intro W base args ds gs before hval0 hW hcnd _
  have hval : ∀ (j : Nat) t v, Try.f7.params[j]? = some t → args[j]? = some v → Value.okWide Try.prog W .any base t v := hval0
  have hW' := hW
  obtain ⟨p, q, hA0, hV, rfl, hfz, hnd⟩ := hW
  have hA : DataW.TrodAll enc Try.prog W 0 (fun _ => true) true Try.f7.params.toList args.toList ds p := hA0
  rw [Try.params7] at hA hval
  obtain ⟨v0, vs0, d0, ds0, p0, q0, hargs, rfl, rfl, h0, r0⟩ := trodAll_cons hA
  obtain ⟨rfl, rfl, rfl⟩ := trodAll_nil r0
  obtain rfl : args = #[v0] := by cases args; simp_all
  obtain ⟨rfl, rfl⟩ := trodVars_none hV
  have k0 := h0
  have lt0 : ∀ x ∈ p0, x.block < W.heap.size := by obtain ⟨m, hm⟩ := k0; exact DataW.trod_lt m _ _ _ hm
  obtain ⟨za, zl, zc, rfl⟩ := okWide_slice Try.underlying27 (hval 0 27 v0 rfl rfl)
  obtain ⟨mz, hmz⟩ := h0
  obtain ⟨f, rs, cf, hze, hZ, hlz, hsz⟩ := chs_of_trod Try.underlying27 Try.underlying54 cells3 rfl rfl rfl (by kernel_rfl) (by kernel_rfl) (by kernel_rfl) Try.underlying9 Try.underlying9 Try.underlying4 hmz
  injection hze with hz1 hz2 hz3
  subst hz1 hz2 hz3
  clear hA0 hval0
  refine (walk za rs zc W hZ hlz hsz).mono fun e W' ⟨he, bel⟩ => ?_
  subst he
  exact ⟨_, rfl, _, _, _, [], _, [], hW', trodAll_mk1 (shut_bool Try.underlying4 _), (trodAll_cons_mk (Below.trod laidOut (by kernel_rfl) (of_decide_eq_true (by kernel_rfl)) k0 bel lt0) trodAll_mk0), rfl, bel.frame _, fun h => by cases h⟩

theorem over : Rows.fnExactFormBatchRow.holds Try.pinned (OpenSpec.ofChange Rows.fnExactFormBatchSpec) :=
  OpenClaim.holds_of_wide 7 Try.f7 rfl rfl rfl rfl rfl rfl rfl ⟨rfl, rfl, rfl, rfl, rfl⟩ rfl rfl rfl rfl rfl (by kernel_rfl) Try.func7 (by kernel_rfl)
    (of_decide_eq_true (by kernel_rfl)) (by unfold Func.isWrapper; first | (rw [if_pos (by decide +kernel)]; kernel_rfl) | (rw [if_neg (by decide +kernel)]; exact ⟨rfl, rfl⟩))
    (fun os started H enc _ => lifted os started H enc)

theorem proved : Rows.FnExactFormBatchSaid := over
#print axioms proved
end Go.Proofs.Ytnmaknnnmjfhkaa.fnExactFormBatch
