import Derived.Test.YtnmaknnnmjfhkacRows
import Derived.Test.YtnmaknnnmjfhkacCutI
import Derived.Test.YtnmaknnnmjfhkacMkS
import Derived.Test.YtnmaknnnmjfhkacEq
import Derived.WalkKit
import Derived.ProofKit
import Derived.OpenShut
import Derived.ShutString
import Derived.ChangeOld
import Derived.Below
namespace Go.Proofs.Ytnmaknnnmjfhkac.fnExactCut
open Go.ChangeShapes Go.WideShapes Go.ChangeAt Go.RowKit
open Go.ChangeMaps (open_string shut_string)
set_option linter.unusedVariables false

theorem own : ownKnob Try.prog.godebug = none := by kernel_rfl
theorem laidOut : laidOutB Try.prog = true := by kernel_rfl

/-- What Cut answers. -/
def cutOf (s : ByteArray) (l f n : Int) : List ByteArray := if 1 ≤ n ∧ n ≤ 8 then cutAll s l f n.toNat (56 - n.toNat) else []
theorem cut_s' (s : ByteArray) (l f n : Int) (w : World) (hs : s.size ≤ 1048576) :
    Calls Try.prog 15 #[.string s, .int .i64 l, .int .i64 f, .int .i64 n] w fun e w' => NewS w w' e (cutOf s l f n) := by
  unfold cutOf
  by_cases hn : 1 ≤ n ∧ n ≤ 8
  · rw [if_pos hn]
    obtain ⟨m, rfl⟩ : ∃ m : Nat, n = (m : Int) := ⟨n.toNat, by omega⟩
    rw [Int.toNat_natCast]
    exact cut_s s l f m (56 - m) w hs (by omega) (by omega) (by omega)
  · rw [if_neg hn]; exact cut_s_no s l f n w hn
theorem cut_i' (s : ByteArray) (l f n : Int) (w : World) (hs : s.size ≤ 1048576) (hf1 : -9223372036854775808 ≤ f) (hf2 : f ≤ 9223372036854775807) :
    Calls Try.prog 16 #[.string s, .int .i64 l, .int .i64 f, .int .i64 n] w fun e w' => NewS w w' e (cutOf s l f n) := by
  unfold cutOf
  by_cases hn : 1 ≤ n ∧ n ≤ 8
  · rw [if_pos hn]
    obtain ⟨m, rfl⟩ : ∃ m : Nat, n = (m : Int) := ⟨n.toNat, by omega⟩
    rw [Int.toNat_natCast]
    exact cut_i s l f m (56 - m) w hs (by omega) (by omega) (by omega) hf1 hf2
  · rw [if_neg hn]; exact cut_i_no s l f n w hs hn
theorem nparts_le' (l m : Nat) (h : l ≤ 1048576) : nparts l m ≤ 1048576 := by
  unfold nparts
  split
  · omega
  · have := Nat.div_le_self (l - 1) m; omega
theorem cutOf_length (s : ByteArray) (l f n : Int) (hs : s.size ≤ 1048576) : (cutOf s l f n).length ≤ 1048576 := by
  unfold cutOf
  split
  · unfold cutAll
    split
    · rw [cutList_length]; exact nparts_le' s.size (56 - n.toNat) hs
    · simp
  · simp
theorem i64_bd {f : Int} (h : (Lit.int .i64 f).wf = true) : -9223372036854775808 ≤ f ∧ f ≤ 9223372036854775807 := by
  simp [Lit.wf, IntKind.min, IntKind.max, IntKind.bits, IntKind.signed] at h
  omega

set_option maxRecDepth 4000 in
set_option maxHeartbeats 1000000 in
theorem walk (s : ByteArray) (l f n : Int) (hs : s.size ≤ maxLen) (hf1 : -9223372036854775808 ≤ f) (hf2 : f ≤ 9223372036854775807) (w : World) :
    Calls Try.prog 4 #[.string s, .int .i64 l, .int .i64 f, .int .i64 n] w fun e w' => e = .returned (.bool true) ∧ Below w.heap.size w w' := by
  unfold maxLen at hs
  by_cases hl : s.size ≤ 1048576
  · obtain ⟨R, HR⟩ : ∃ R, Hid (R = cutOf s l f n) := ⟨_, hid rfl⟩
    have hRl : R.length ≤ 1048576 := by rw [HR.out]; exact cutOf_length s l f n hl
    go_enter Try.func4, Try.ntmps4
    go_wp2_with fail
    refine (cut_s' s l f n _ hl).mono ?_
    rw [← HR.out]
    rintro e w1 ⟨a1, c1, rfl, o1, _, hb1⟩
    have S1 := hid o1.strs
    have HB1 := hid hb1
    clear o1 hb1
    go_wp2_with fail
    refine (cut_i' s l f n _ hl hf1 hf2).mono ?_
    rw [← HR.out]
    rintro e w2 ⟨a2, c2, rfl, o2, n2, hb2⟩
    have O2 := hid o2
    have N2 : Hid (∀ g, blk a2 R.length = some g → w1.heap.size ≤ g) := n2
    have B2 := hid hb2
    have hs2 := hb2.size
    clear o2 n2 hb2
    go_wp2_with fail
    refine (eq_strs a2 a1 R c2 c1 _ O2.out.strs (S1.out.below B2.out) hRl).mono ?_
    rintro e w3 ⟨rfl, hb3⟩
    have O3 := hid (O2.out.below hb3)
    have B3 := hid (B2.out.trans (hb3.mono hs2))
    have hs3 := B3.out.size
    clear hb3 O2 B2 hs2
    go_wp2_with fail
    refine (mark_strs a2 R c2 1 _ O3.out (by omega) (by omega)).mono ?_
    rintro e w4 ⟨rfl, hg4, o4⟩
    have O4 := hid o4
    have B4 := hid (B3.out.trans (grown_below hg4 hs3 N2.out))
    have hs4 := B4.out.size
    clear hg4 o4 O3 B3 hs3
    go_wp2_with fail
    refine (held_strs a2 R.length c2 1 _ O4.out (by omega) (by omega)).mono ?_
    rintro e w5 ⟨rfl, hb5⟩
    have O5 := hid (O4.out.below hb5)
    have B5 := hid (B4.out.trans (hb5.mono hs4))
    have hs5 := B5.out.size
    clear hb5 O4 B4 hs4
    go_wp2_with fail
    refine (cut_i' s l f n _ hl hf1 hf2).mono ?_
    rw [← HR.out]
    rintro e w6 ⟨a6, c6, rfl, o6, _, hb6⟩
    have O6 := hid o6
    have O7 := hid (O5.out.below hb6)
    have B6 := hid (B5.out.trans (hb6.mono hs5))
    have hs6 := B6.out.size
    clear o6 hb6 O5 B5 hs5
    go_wp2_with fail
    refine (eq_strs a6 a1 R c6 c1 _ O6.out.strs (S1.out.below B6.out) hRl).mono ?_
    rintro e w7 ⟨rfl, hb7⟩
    have O8 := hid (O7.out.below hb7)
    have B7 := hid (B6.out.trans (hb7.mono hs6))
    have hs7 := B7.out.size
    clear hb7 O7 O6 B6 hs6
    go_wp2_with fail
    refine (held_strs a2 R.length c2 1 _ O8.out (by omega) (by omega)).mono ?_
    rintro e w8 ⟨rfl, hb8⟩
    have B8 := hid (B7.out.trans (hb8.mono hs7))
    clear hb8 O8 B7 hs7
    go_wp2
    go_ret
    exact ⟨rfl, HB1.out.trans (B8.out.mono HB1.out.size)⟩
  · have hl' : 1048576 < (s.size : Int) := by omega
    go_enter Try.func4, Try.ntmps4
    go_wp2
    go_ret
    exact ⟨rfl, Below.refl _ _⟩
set_option maxRecDepth 100000 in
theorem lifted (os : Os) (started : os.Started) (H : Type) (enc : TypeId × Value → H) :
    ReturnsInHanded {} Try.checked os 4 .any (Rows.fnExactCutSpec.pre6 enc Try.prog Try.f4 Rows.fnExactCutRow.domain false) (Rows.fnExactCutSpec.post enc Try.prog Try.f4 false true false false) := by
  refine returnsInHanded_of_change (C := Try.checked) own started (by kernel_rfl) Try.func4
    (ChangeSpec.witness6 (enc := enc) (C := Try.checked) false ⟨#[], #[.string ByteArray.empty, .int .i64 0, .int .i64 0, .int .i64 0], []⟩ 8 (by kernel_rfl) (by kernel_rfl) (by kernel_rfl) (by kernel_rfl)) ?_
  intro W base args ds gs before hval0 hW hcnd _
  have hval : ∀ (j : Nat) t v, Try.f4.params[j]? = some t → args[j]? = some v → Value.okWide Try.prog W .any base t v := hval0
  have hW' := hW
  obtain ⟨p, q, hA0, hV, rfl, hfz, hnd⟩ := hW
  have hA : DataW.TrodAll enc Try.prog W 0 (fun _ => true) true Try.f4.params.toList args.toList ds p := hA0
  rw [Try.params4] at hA hval
  obtain ⟨v0, vs0, d0, ds0, p0, q0, hargs, rfl, rfl, h0, r0⟩ := trodAll_cons hA
  obtain ⟨v1, vs1, d1, ds1, p1, q1, rfl, rfl, rfl, h1, r1⟩ := trodAll_cons r0
  obtain ⟨v2, vs2, d2, ds2, p2, q2, rfl, rfl, rfl, h2, r2⟩ := trodAll_cons r1
  obtain ⟨v3, vs3, d3, ds3, p3, q3, rfl, rfl, rfl, h3, r3⟩ := trodAll_cons r2
  obtain ⟨rfl, rfl, rfl⟩ := trodAll_nil r3
  obtain rfl : args = #[v0, v1, v2, v3] := by cases args; simp_all
  obtain ⟨rfl, rfl⟩ := trodVars_none hV
  obtain ⟨a0, rfl, rfl, rfl, w0⟩ := open_string Try.underlying9 (hval 0 9 v0 rfl rfl) h0
  obtain ⟨a1, rfl, rfl, rfl, w1⟩ := open_int Try.underlying3 (hval 1 3 v1 rfl rfl) h1
  obtain ⟨a2, rfl, rfl, rfl, w2⟩ := open_int Try.underlying3 (hval 2 3 v2 rfl rfl) h2
  obtain ⟨a3, rfl, rfl, rfl, w3⟩ := open_int Try.underlying3 (hval 3 3 v3 rfl rfl) h3
  obtain ⟨hf1, hf2⟩ := i64_bd w2
  clear hA0 hval0
  simp only [List.append_nil] at hW'
  refine (walk a0 a1 a2 a3 w0 hf1 hf2 W).mono fun e W' ⟨he, bel⟩ => ?_
  subst he
  exact ⟨_, rfl, _, _, _, [], _, [], hW', trodAll_mk1 (shut_bool Try.underlying4 _), (trodAll_cons_mk (shut_string Try.underlying9 w0) (trodAll_cons_mk (shut_int Try.underlying3 w1) (trodAll_cons_mk (shut_int Try.underlying3 w2) (trodAll_cons_mk (shut_int Try.underlying3 w3) trodAll_mk0)))), rfl, bel.frame _, fun h => by cases h⟩

theorem over : Rows.fnExactCutRow.holds Try.pinned (OpenSpec.ofChange Rows.fnExactCutSpec) :=
  OpenClaim.holds_of_wide 4 Try.f4 rfl rfl rfl rfl rfl rfl rfl ⟨rfl, rfl, rfl, rfl, rfl⟩ rfl rfl rfl rfl rfl (by kernel_rfl) Try.func4 (by kernel_rfl)
    (of_decide_eq_true (by kernel_rfl)) (by unfold Func.isWrapper; first | (rw [if_pos (by decide +kernel)]; kernel_rfl) | (rw [if_neg (by decide +kernel)]; exact ⟨rfl, rfl⟩))
    (fun os started H enc _ => lifted os started H enc)

theorem proved : Rows.FnExactCutSaid := over
#print axioms proved
end Go.Proofs.Ytnmaknnnmjfhkac.fnExactCut
