import Derived.Test.YtnmaknnnmjfhkabRows
import Derived.Test.YtnmaknnnmjfhkabNewI
import Derived.Test.YtnmaknnnmjfhkabCx
import Derived.WalkKit
import Derived.ProofKit
import Derived.OpenShut
import Derived.ShutString
import Derived.ChangeOld
import Derived.Below
namespace Go.Proofs.Ytnmaknnnmjfhkab.fnExactNewDisk
open Go.ChangeShapes Go.WideShapes Go.ChangeAt Go.RowKit
set_option linter.unusedVariables false

theorem own : ownKnob Try.prog.godebug = none := by kernel_rfl
theorem laidOut : laidOutB Try.prog = true := by kernel_rfl

set_option maxHeartbeats 400000 in
theorem new_s_no (n : Int) (w : World) (h : ¬ (8 ≤ n ∧ n ≤ 200)) :
    Calls Try.prog 13 #[.int .i64 n] w fun e w' => e = .returned (diskV none 0 0 none 0 0) ∧ Below w.heap.size w w' := by
  by_cases h8 : 8 ≤ n
  · have h2 : 200 < n := by omega
    go_enter Try.func13, Try.ntmps13
    go_wp2
    exact bodyPost_ret (v := diskV none 0 0 none 0 0) (by simp [results, Try.results13, go_sem]) rfl ⟨rfl, below_new _ _⟩
  · go_enter Try.func13, Try.ntmps13
    go_wp2
    exact bodyPost_ret (v := diskV none 0 0 none 0 0) (by simp [results, Try.results13, go_sem]) rfl ⟨rfl, below_new _ _⟩
set_option maxHeartbeats 400000 in
theorem new_i_no (n : Int) (w : World) (h : ¬ (8 ≤ n ∧ n ≤ 200)) :
    Calls Try.prog 14 #[.int .i64 n] w fun e w' => e = .returned (diskV none 0 0 none 0 0) ∧ Below w.heap.size w w' := by
  have hd : decide (8 ≤ n ∧ n ≤ 200) = false := decide_eq_false h
  go_enter Try.func14, Try.ntmps14
  go_wp2_with (go_at_call 41; refine (dsize_i _ _).mono ?_; rw [hd]; rintro e w' ⟨rfl, rfl⟩)
  exact bodyPost_ret (v := diskV none 0 0 none 0 0) (by simp [results, Try.results14, go_sem]) rfl ⟨rfl, below_new _ _⟩

/-- Both answers: a disk of these sectors with nothing pending, in memory of its own. -/
def newSS (n : Int) : List ByteArray := if 8 ≤ n ∧ n ≤ 200 then List.replicate n.toNat zeros else []
theorem newSS_len (n : Int) : (newSS n).length ≤ 200 := by unfold newSS; split <;> simp; omega
theorem new_s_any (n : Int) (w : World) :
    Calls Try.prog 13 #[.int .i64 n] w fun e w' => ∃ a c a' c', e = .returned (diskV a (newSS n).length c a' 0 c') ∧ OwnS w' a ((newSS n).map Value.string) ∧ (∀ g, blk a (newSS n).length = some g → w.heap.size ≤ g) ∧ Below w.heap.size w w' := by
  by_cases h : 8 ≤ n ∧ n ≤ 200
  · obtain ⟨m, rfl⟩ : ∃ m : Nat, n = (m : Int) := ⟨n.toNat, by omega⟩
    have e1 : newSS (m : Int) = List.replicate m zeros := by simp [newSS, h]
    rw [e1]
    refine (new_s m w (by omega) (by omega)).mono ?_
    rintro e w' ⟨g, c, rfl, hg, hr, hb⟩
    exact ⟨_, c, none, 0, by rw [List.length_replicate], .inr ⟨g, rfl, hr⟩, fun g' hg' => by rw [List.length_replicate, blk_pos g 0 m (by omega)] at hg'; cases hg'; exact hg, hb⟩
  · have e1 : newSS n = [] := by simp [newSS, h]
    rw [e1]
    refine (new_s_no n w h).mono ?_
    rintro e w' ⟨rfl, hb⟩
    exact ⟨none, 0, none, 0, rfl, .inl rfl, (fun g' hg' => by cases hg'), hb⟩
theorem new_i_any (n : Int) (w : World) :
    Calls Try.prog 14 #[.int .i64 n] w fun e w' => ∃ a c a' c', e = .returned (diskV a (newSS n).length c a' 0 c') ∧ OwnS w' a ((newSS n).map Value.string) ∧ (∀ g, blk a (newSS n).length = some g → w.heap.size ≤ g) ∧ Below w.heap.size w w' := by
  by_cases h : 8 ≤ n ∧ n ≤ 200
  · obtain ⟨m, rfl⟩ : ∃ m : Nat, n = (m : Int) := ⟨n.toNat, by omega⟩
    have e1 : newSS (m : Int) = List.replicate m zeros := by simp [newSS, h]
    rw [e1]
    refine (new_i m w (by omega) (by omega)).mono ?_
    rintro e w' ⟨g, c, a', c', rfl, hg, hr, hb⟩
    exact ⟨_, c, a', c', by rw [List.length_replicate], .inr ⟨g, rfl, hr⟩, fun g' hg' => by rw [List.length_replicate, blk_pos g 0 m (by omega)] at hg'; cases hg'; exact hg, hb⟩
  · have e1 : newSS n = [] := by simp [newSS, h]
    rw [e1]
    refine (new_i_no n w h).mono ?_
    rintro e w' ⟨rfl, hb⟩
    exact ⟨none, 0, none, 0, rfl, .inl rfl, (fun g' hg' => by cases hg'), hb⟩

set_option maxHeartbeats 1000000 in
theorem walk (n : Int) (w : World) :
    Calls Try.prog 4 #[.int .i64 n] w fun e w' => e = .returned (.bool true) ∧ Below w.heap.size w w' := by
  have hlen := newSS_len n
  obtain ⟨ss, HSS⟩ : ∃ ss, Hid (ss = newSS n) := ⟨_, hid rfl⟩
  have hS := new_s_any n
  have hI := new_i_any n
  rw [← HSS.out] at hlen hS hI
  have HS := hid hS
  have HI := hid hI
  clear hS hI
  go_enter Try.func4, Try.ntmps4
  go_wp2_with fail
  refine (HS.out _).mono ?_
  rintro e w1 ⟨a, c, a', c', rfl, ho, hg, hb1⟩
  have HL1 := hid (ho.lt ss.length strs_ne)
  have HW01 := hid hb1.size
  have hx := Cx.new w1 (.slice a ss.length c) (.slice a' 0 c') 32
  have ho' := ho.below (below_new w1 (.cells #[.slice a ss.length c, .slice a' 0 c'] 32))
  have hB := Below.then hb1 (Nat.le_refl _) (below_new w1 (.cells #[.slice a ss.length c, .slice a' 0 c'] 32))
  have HX := hid hx
  have HO := hid ho'
  have HB := hid hB
  clear ho hg hb1 hx ho' hB
  go_wp2_with fail
  refine (HI.out _).mono ?_
  rintro e w2 ⟨d, f, d', f', rfl, ho2, hg2, hb2⟩
  have hx2 := (HX.out.below hb2).below (below_new w2 (.cells #[.slice d ss.length f, .slice d' 0 f'] 32))
  have hy2 := Cx.new w2 (.slice d ss.length f) (.slice d' 0 f') 32
  have HG2 := hid hg2
  have HL2 := hid (ho2.lt ss.length strs_ne)
  have HO2 := hid ((HO.out.below hb2).below (below_new w2 (.cells #[.slice d ss.length f, .slice d' 0 f'] 32)))
  have HP2 := hid (ho2.below (below_new w2 (.cells #[.slice d ss.length f, .slice d' 0 f'] 32)))
  have HB2 := hid (Below.then (Below.then HB.out (Nat.le_refl _) hb2) (Nat.le_refl _) (below_new w2 (.cells #[.slice d ss.length f, .slice d' 0 f'] 32)))
  have HX2 := hid hx2
  have HY2 := hid hy2
  have hq1 := HX.out.below hb2
  have q0 := hq1.c0
  have q1 := hq1.c1
  have q2 := hq1.lt
  have HW12 : Hid (w1.heap.size + 1 ≤ w2.heap.size) := by have := hb2.size; show _ ≤ _; simpa using this
  clear hg2 hb2 ho2 hx2 hy2 HO HX HB hq1
  go_wp2_with fail
  refine (eq_disk d a ss f c d' a' [] f' c' _ HP2.out.strs HO2.out.strs (.inl rfl) (.inl rfl) (by omega) (by simp)).mono ?_
  rintro e w3 ⟨rfl, hb3⟩
  clear q0 q1 q2
  have HX3 := hid (HX2.out.below hb3)
  have HY3 := hid (HY2.out.below hb3)
  have HO3 := hid (HO2.out.below hb3)
  have HP3 := hid (HP2.out.below hb3)
  have HB3 := hid (Below.then HB2.out (Nat.le_refl _) hb3)
  have q0 := HY3.out.c0
  have q1 := HY3.out.c1
  clear hb3 HX2 HY2 HO2 HP2 HB2
  go_wp2_with fail
  refine (mark_disk d ss f d' [] f' 1 _ ⟨HP3.out, .inl rfl, .inr (.inl rfl)⟩ (by omega) (by simp; omega)).mono ?_
  rintro e w4 ⟨rfl, ⟨wa, wb, ma, mb, mc⟩, hd4⟩
  clear q0 q1
  have HM4 := hid hd4.s
  have hne1 : ∀ B : Nat, (∀ g, blk d ss.length = some g → g ≠ B) → some B ≠ blk d ss.length := fun B hB e => hB B e.symm rfl
  have nx : some w1.heap.size ≠ blk d ss.length := hne1 _ (fun g hg e => by have h1 := HG2.out g hg; simp at h1; omega)
  have ny : some w2.heap.size ≠ blk d ss.length := hne1 _ (fun g hg e => by have := HL2.out g hg; omega)
  have HX4 := hid (((HX3.out.below ma).grown mb nx).grown mc (by simp [blk]))
  have HY4 := hid (((HY3.out.below ma).grown mb ny).grown mc (by simp [blk]))
  have HO4 : Hid (OwnS w4 a (ss.map Value.string)) := ((HO3.out.below ma).grown mb (fun g hg hne e => by
    have h1 := HG2.out g e.symm
    have h2 := HL1.out g (by rw [hg]; exact blk_pos g 0 _ (ne_of_strs hne))
    simp at h1
    omega)).grown mc (fun g hg hne => by simp [blk])
  have HB4 : Hid (Below w.heap.size w w4) := (Below.then HB3.out (Nat.le_refl _) ma).trans ((grown_below mb (Nat.le_trans HB3.out.size ma.size) (fun g hg => by
    have h1 := HG2.out g hg
    have h2 := HB3.out.size
    have h3 := HW12.out
    have h4 : w.heap.size ≤ w1.heap.size := HW01.out
    simp at h1
    omega)).trans (grown_below mc (by have := HB3.out.size; have := ma.size; have := mb.size; omega) (fun g hg => by simp [blk] at hg)))
  clear ma mb mc hd4 HX3 HY3 HO3 HP3 HB3 hne1 nx ny
  obtain ⟨m, HM⟩ : ∃ m, Hid (m = 1 + ss.length) := ⟨_, hid rfl⟩
  rw [show ((1 + ss.length + 2 * ([] : List (Int × ByteArray)).length : Nat) : Int) = (m : Int) by rw [HM.out]; simp]
  have q0 := HY4.out.c0
  have q1 := HY4.out.c1
  have hm0 : (0 : Int) ≤ (m : Int) := by omega
  go_wp2_with fail
  refine (held_disk d ss.length f d' 0 f' 1 _ HM4.out (.inl rfl) (by omega) (by omega)).mono ?_
  rw [show ((1 + ss.length + 2 * 0 : Nat) : Int) = (m : Int) by rw [HM.out]; simp]
  rintro e w5 ⟨rfl, hb5⟩
  clear q0 q1
  have HX5 := hid (HX4.out.below hb5)
  have HY5 := hid (HY4.out.below hb5)
  have HO5 := hid (HO4.out.below hb5)
  have HM5 := hid (HM4.out.below hb5)
  have HB5 := hid (Below.then HB4.out (Nat.le_refl _) hb5)
  clear hb5 HX4 HY4 HO4 HM4 HB4
  go_wp2_with fail
  refine (HI.out _).mono ?_
  rintro e w6 ⟨t, u, t', u', rfl, ho6, hg6, hb6⟩
  have HX6 := hid ((HX5.out.below hb6).below (below_new w6 (.cells #[.slice t ss.length u, .slice t' 0 u'] 32)))
  have HY6 := hid ((HY5.out.below hb6).below (below_new w6 (.cells #[.slice t ss.length u, .slice t' 0 u'] 32)))
  have HO6 := hid ((HO5.out.below hb6).below (below_new w6 (.cells #[.slice t ss.length u, .slice t' 0 u'] 32)))
  have HM6 := hid ((HM5.out.below hb6).below (below_new w6 (.cells #[.slice t ss.length u, .slice t' 0 u'] 32)))
  have HP6 := hid (ho6.below (below_new w6 (.cells #[.slice t ss.length u, .slice t' 0 u'] 32)))
  have HB6 := hid (Below.then (Below.then HB5.out (Nat.le_refl _) hb6) (Nat.le_refl _) (below_new w6 (.cells #[.slice t ss.length u, .slice t' 0 u'] 32)))
  have hq := HX5.out.below hb6
  have q0 := hq.c0
  have q1 := hq.c1
  have q2 := hq.lt
  clear hg6 hb6 ho6 HX5 HY5 HO5 HM5 HB5 hq
  go_wp2_with fail
  refine (eq_disk t a ss u c t' a' [] u' c' _ HP6.out.strs HO6.out.strs (.inl rfl) (.inl rfl) (by omega) (by simp)).mono ?_
  rintro e w7 ⟨rfl, hb7⟩
  clear q0 q1 q2
  have HY7 := hid (HY6.out.below hb7)
  have HM7 := hid (HM6.out.below hb7)
  have HB7 := hid (Below.then HB6.out (Nat.le_refl _) hb7)
  have q0 := HY7.out.c0
  have q1 := HY7.out.c1
  clear hb7 HX6 HY6 HO6 HM6 HP6 HB6
  go_wp2_with fail
  refine (held_disk d ss.length f d' 0 f' 1 _ HM7.out (.inl rfl) (by omega) (by omega)).mono ?_
  rw [show ((1 + ss.length + 2 * 0 : Nat) : Int) = (m : Int) by rw [HM.out]; simp]
  rintro e w8 ⟨rfl, hb8⟩
  clear q0 q1
  go_wp2
  go_ret
  exact ⟨rfl, Below.then HB7.out (Nat.le_refl _) hb8⟩

set_option maxRecDepth 100000 in
theorem lifted (os : Os) (started : os.Started) (H : Type) (enc : TypeId × Value → H) :
    ReturnsInHanded {} Try.checked os 4 .any (Rows.fnExactNewDiskSpec.pre6 enc Try.prog Try.f4 Rows.fnExactNewDiskRow.domain false) (Rows.fnExactNewDiskSpec.post enc Try.prog Try.f4 false true false false) := by
  refine returnsInHanded_of_change (C := Try.checked) own started (by kernel_rfl) Try.func4
    (ChangeSpec.witness6 (enc := enc) (C := Try.checked) false ⟨#[], #[.int .i64 0], []⟩ 8 (by kernel_rfl) (by kernel_rfl) (by kernel_rfl) (by kernel_rfl)) ?_
  intro W base args ds gs before hval0 hW hcnd _
  have hval : ∀ (j : Nat) t v, Try.f4.params[j]? = some t → args[j]? = some v → Value.okWide Try.prog W .any base t v := hval0
  have hW' := hW
  obtain ⟨p, q, hA0, hV, rfl, hfz, hnd⟩ := hW
  have hA : DataW.TrodAll enc Try.prog W 0 (fun _ => true) true Try.f4.params.toList args.toList ds p := hA0
  rw [Try.params4] at hA hval
  obtain ⟨v0, vs0, d0, ds0, p0, q0, hargs, rfl, rfl, h0, r0⟩ := trodAll_cons hA
  obtain ⟨rfl, rfl, rfl⟩ := trodAll_nil r0
  obtain rfl : args = #[v0] := by cases args; simp_all
  obtain ⟨rfl, rfl⟩ := trodVars_none hV
  obtain ⟨b1, rfl, rfl, rfl, w1⟩ := open_int Try.underlying3 (hval 0 3 v0 rfl rfl) h0
  clear hA0 hval0
  simp only [List.append_nil] at hW'
  refine (walk b1 W).mono fun e W' ⟨he, bel⟩ => ?_
  subst he
  exact ⟨_, rfl, _, _, _, [], _, [], hW', trodAll_mk1 (shut_bool Try.underlying4 _), (trodAll_cons_mk (shut_int Try.underlying3 w1) trodAll_mk0), rfl, bel.frame _, fun h => by cases h⟩

theorem over : Rows.fnExactNewDiskRow.holds Try.pinned (OpenSpec.ofChange Rows.fnExactNewDiskSpec) :=
  OpenClaim.holds_of_wide 4 Try.f4 rfl rfl rfl rfl rfl rfl rfl ⟨rfl, rfl, rfl, rfl, rfl⟩ rfl rfl rfl rfl rfl (by kernel_rfl) Try.func4 (by kernel_rfl)
    (of_decide_eq_true (by kernel_rfl)) (by unfold Func.isWrapper; first | (rw [if_pos (by decide +kernel)]; kernel_rfl) | (rw [if_neg (by decide +kernel)]; exact ⟨rfl, rfl⟩))
    (fun os started H enc _ => lifted os started H enc)

theorem proved : Rows.FnExactNewDiskSaid := over
#print axioms proved
end Go.Proofs.Ytnmaknnnmjfhkab.fnExactNewDisk
