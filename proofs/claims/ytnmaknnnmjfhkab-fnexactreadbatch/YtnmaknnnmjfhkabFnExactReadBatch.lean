import Derived.Test.YtnmaknnnmjfhkabRows
import Derived.Test.YtnmaknnnmjfhkabRbS
import Derived.Test.YtnmaknnnmjfhkabMkC
import Derived.Test.YtnmaknnnmjfhkabMkCH
import Derived.Test.YtnmaknnnmjfhkabChE
import Derived.WalkKit
import Derived.ProofKit
import Derived.OpenShut
import Derived.ShutString
import Derived.ChangeOld
import Derived.Below
namespace Go.Proofs.Ytnmaknnnmjfhkab.fnExactReadBatch
open Go.ChangeShapes Go.WideShapes Go.ChangeAt Go.RowKit
open Go.ChangeMaps (open_string shut_string)
set_option linter.unusedVariables false

theorem own : ownKnob Try.prog.godebug = none := by kernel_rfl
theorem laidOut : laidOutB Try.prog = true := by kernel_rfl

theorem ownS_chs {w : World} {a : Option Addr} {o : List Ch} (h : OwnS w a (chcells o)) : Chs w a o := by
  rcases h with h | ⟨g, rfl, h2⟩
  · exact .inl (by have := congrArg List.length h; rw [chcells_length, List.length_nil] at this; exact List.eq_nil_of_length_eq_zero (by omega))
  · exact h2.chs
theorem res_len (s : ByteArray) : ((resI s).getD []).length ≤ 20 := by
  unfold resI
  split
  · simp
  · split
    · rename_i o _ _ h; simp only [Option.getD_some]; exact (batchOk_of h).1.2
    · simp

set_option maxRecDepth 4000 in
set_option maxHeartbeats 1000000 in
theorem walk (s : ByteArray) (hs : s.size ≤ maxLen) (w : World) :
    Calls Try.prog 6 #[.string s] w fun e w' => e = .returned (.bool true) ∧ Below w.heap.size w w' := by
  unfold maxLen at hs
  by_cases hl : s.size ≤ 1048576
  · obtain ⟨R, HR⟩ : ∃ R, Hid (R = (resI s).getD []) := ⟨_, hid rfl⟩
    obtain ⟨B, HB⟩ : ∃ B, Hid (B = (resI s).isSome) := ⟨_, hid rfl⟩
    have hRl : R.length ≤ 20 := by rw [HR.out]; exact res_len s
    have hBB : (B != B) = false := by simp
    go_enter Try.func6, Try.ntmps6
    go_wp2_with fail
    refine (read_s s _ hl).mono ?_
    unfold RbPost
    rw [← res_eq, ← HR.out, ← HB.out]
    rintro e w1 ⟨a1, c1, rfl, o1, _, hb1⟩
    have S1 := hid (ownS_chs o1)
    have HB1 := hid hb1
    clear o1 hb1
    go_wp2_with fail
    refine (read_i s _ hl).mono ?_
    unfold RbPost
    rw [← HR.out, ← HB.out]
    rintro e w2 ⟨a2, c2, rfl, o2, n2, hb2⟩
    have O2 := hid o2
    have N2 : Hid (∀ g, blk a2 R.length = some g → w1.heap.size ≤ g) := n2
    have B2 := hid hb2
    have hs2 := hb2.size
    clear o2 n2 hb2
    go_wp2_with fail
    refine (eq_chs a2 a1 R c2 c1 _ (ownS_chs O2.out) (S1.out.below B2.out) (by omega)).mono ?_
    rintro e w3 ⟨rfl, hb3⟩
    have O3 := hid (O2.out.below hb3)
    have B3 := hid (B2.out.trans (hb3.mono hs2))
    have hs3 := B3.out.size
    clear hb3 O2 B2 hs2
    go_wp2_with fail
    refine (mark_chs a2 R c2 1 _ O3.out (by omega) (by omega)).mono ?_
    rintro e w4 ⟨rfl, hg4, o4⟩
    have O4 := hid o4
    have B4 := hid (B3.out.trans (grown_below hg4 hs3 N2.out))
    have hs4 := B4.out.size
    clear hg4 o4 O3 B3 hs3
    go_wp2_with fail
    refine (held_chs a2 R.length c2 1 _ O4.out (by omega) (by omega)).mono ?_
    rintro e w5 ⟨rfl, hb5⟩
    have O5 := hid (O4.out.below hb5)
    have B5 := hid (B4.out.trans (hb5.mono hs4))
    have hs5 := B5.out.size
    clear hb5 O4 B4 hs4
    go_wp2_with fail
    refine (read_i s _ hl).mono ?_
    unfold RbPost
    rw [← HR.out, ← HB.out]
    rintro e w6 ⟨a6, c6, rfl, o6, _, hb6⟩
    have O6 := hid o6
    have O7 := hid (O5.out.below hb6)
    have B6 := hid (B5.out.trans (hb6.mono hs5))
    have hs6 := B6.out.size
    clear o6 hb6 O5 B5 hs5
    go_wp2_with fail
    refine (eq_chs a6 a1 R c6 c1 _ (ownS_chs O6.out) (S1.out.below B6.out) (by omega)).mono ?_
    rintro e w7 ⟨rfl, hb7⟩
    have O8 := hid (O7.out.below hb7)
    have B7 := hid (B6.out.trans (hb7.mono hs6))
    have hs7 := B7.out.size
    clear hb7 O7 O6 B6 hs6
    go_wp2_with fail
    refine (held_chs a2 R.length c2 1 _ O8.out (by omega) (by omega)).mono ?_
    rintro e w8 ⟨rfl, hb8⟩
    have B8 := hid (B7.out.trans (hb8.mono hs7))
    clear hb8 O8 B7 hs7
    go_wp2
    go_ret
    exact ⟨rfl, HB1.out.trans (B8.out.mono HB1.out.size)⟩
  · have hl' : 1048576 < (s.size : Int) := by omega
    go_enter Try.func6, Try.ntmps6
    go_wp2
    go_ret
    exact ⟨rfl, Below.refl _ _⟩

set_option maxRecDepth 100000 in
theorem lifted (os : Os) (started : os.Started) (H : Type) (enc : TypeId × Value → H) :
    ReturnsInHanded {} Try.checked os 6 .any (Rows.fnExactReadBatchSpec.pre6 enc Try.prog Try.f6 Rows.fnExactReadBatchRow.domain false) (Rows.fnExactReadBatchSpec.post enc Try.prog Try.f6 false true false false) := by
  refine returnsInHanded_of_change (C := Try.checked) own started (by kernel_rfl) Try.func6
    (ChangeSpec.witness6 (enc := enc) (C := Try.checked) false ⟨#[], #[.string ByteArray.empty], []⟩ 8 (by kernel_rfl) (by kernel_rfl) (by kernel_rfl) (by kernel_rfl)) ?_
  intro W base args ds gs before hval0 hW hcnd _
  have hval : ∀ (j : Nat) t v, Try.f6.params[j]? = some t → args[j]? = some v → Value.okWide Try.prog W .any base t v := hval0
  have hW' := hW
  obtain ⟨p, q, hA0, hV, rfl, hfz, hnd⟩ := hW
  have hA : DataW.TrodAll enc Try.prog W 0 (fun _ => true) true Try.f6.params.toList args.toList ds p := hA0
  rw [Try.params6] at hA hval
  obtain ⟨v0, vs0, d0, ds0, p0, q0, hargs, rfl, rfl, h0, r0⟩ := trodAll_cons hA
  obtain ⟨rfl, rfl, rfl⟩ := trodAll_nil r0
  obtain rfl : args = #[v0] := by cases args; simp_all
  obtain ⟨rfl, rfl⟩ := trodVars_none hV
  obtain ⟨a0, rfl, rfl, rfl, w0⟩ := open_string Try.underlying9 (hval 0 9 v0 rfl rfl) h0
  clear hA0 hval0
  simp only [List.append_nil] at hW'
  refine (walk a0 w0 W).mono fun e W' ⟨he, bel⟩ => ?_
  subst he
  exact ⟨_, rfl, _, _, _, [], _, [], hW', trodAll_mk1 (shut_bool Try.underlying4 _), (trodAll_cons_mk (shut_string Try.underlying9 w0) trodAll_mk0), rfl, bel.frame _, fun h => by cases h⟩

theorem over : Rows.fnExactReadBatchRow.holds Try.pinned (OpenSpec.ofChange Rows.fnExactReadBatchSpec) :=
  OpenClaim.holds_of_wide 6 Try.f6 rfl rfl rfl rfl rfl rfl rfl ⟨rfl, rfl, rfl, rfl, rfl⟩ rfl rfl rfl rfl rfl (by kernel_rfl) Try.func6 (by kernel_rfl)
    (of_decide_eq_true (by kernel_rfl)) (by unfold Func.isWrapper; first | (rw [if_pos (by decide +kernel)]; kernel_rfl) | (rw [if_neg (by decide +kernel)]; exact ⟨rfl, rfl⟩))
    (fun os started H enc _ => lifted os started H enc)

theorem proved : Rows.FnExactReadBatchSaid := over
#print axioms proved
end Go.Proofs.Ytnmaknnnmjfhkab.fnExactReadBatch
