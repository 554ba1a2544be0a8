import Derived.Test.YtnmaknnnmjfhkacRows
import Derived.Test.YtnmaknnnmjfhkacBtG
import Derived.Test.YtnmaknnnmjfhkacBtP
import Derived.Test.YtnmaknnnmjfhkacFbJ
import Derived.Test.YtnmaknnnmjfhkacRbS
import Derived.Test.YtnmaknnnmjfhkacOpnB
import Derived.WalkKit
import Derived.ProofKit
import Derived.OpenShut
import Derived.ShutString
import Derived.ChangeOld
import Derived.Below
namespace Go.Proofs.Ytnmaknnnmjfhkac.fnBatches
open Go.ChangeShapes Go.WideShapes Go.ChangeAt Go.RowKit
open Go.ChangeMaps (open_string shut_string)
set_option linter.unusedVariables false
set_option linter.unusedSimpArgs false
set_option maxRecDepth 8000

theorem own : ownKnob Try.prog.godebug = none := by kernel_rfl
theorem laidOut : laidOutB Try.prog = true := by kernel_rfl
theorem emp_iff (s : ByteArray) : s.toList.isEmpty = decide (s.size = 0) := by
  rw [Bool.eq_iff_iff, List.isEmpty_iff, decide_eq_true_eq, ByteArray.toList_eq]
  constructor
  · intro h
    show s.data.size = 0
    rw [← Array.length_toList, h]
    rfl
  · intro h
    exact List.eq_nil_of_length_eq_zero h
theorem ownS_chs {w : World} {a : Option Addr} {o : List Ch} (h : OwnS w a (chcells o)) : Chs w a o := by
  rcases h with h | ⟨g, rfl, h2⟩
  · exact .inl (by have := congrArg List.length h; rw [chcells_length, List.length_nil] at this; exact List.eq_nil_of_length_eq_zero (by omega))
  · exact h2.chs
set_option maxHeartbeats 8000000 in
theorem walk (a : Option Addr) (n c : Nat) (w : World) (h : Bys w a n) (hc : n ≤ c) (hm : n ≤ maxLen) :
    Calls Try.prog 3 #[.slice a n c] w fun e w' => e = .returned (.bool true) ∧ Below w.heap.size w w' := by
  unfold maxLen at hm
  by_cases hn : n ≤ 1048576
  · have hn' : ¬ (1048576 < (n : Int)) := by omega
    have HBY := hid h
    clear h
    go_enter Try.func3, Try.ntmps3
    go_wp2_with fail
    refine (dfb_r a n c _ HBY.out hn hc).mono ?_
    rintro e w1 ⟨⟨v, rs, rfl, hown, hl, hle⟩, be1⟩
    obtain ⟨va, vc, rfl, hch⟩ := own_chsG hown
    have hsz : ∀ x ∈ rs, x.1.size ≤ 1048576 ∧ x.2.1.size ≤ 1048576 := fun x hx => ⟨Nat.le_trans (hle x hx).1 (by omega), Nat.le_trans (hle x hx).2 (by omega)⟩
    clear hown hle
    go_wp2_with fail
    refine (formbatch_i va rs vc _ hch (by omega) hsz).mono ?_
    rintro e w2 ⟨rfl, hb2⟩
    have be2 := be1.trans (hb2.mono be1.size)
    have hch := hch.below hb2
    clear hb2
    go_wp2_with fail
    refine (formbatch_s va rs vc _ hch (by omega) hsz).mono ?_
    rintro e w3 ⟨rfl, hb3⟩
    have be3 := be2.trans (hb3.mono be2.size)
    have hch := hch.below hb3
    clear hb3
    have hSs := bOut_size rs
    cases hok : batchOk rs with
    | true =>
      have hSe : (bOut rs).toList.isEmpty = false := by unfold bOut; rw [if_pos hok, emp_iff]; exact decide_eq_false (bForm_ne rs hok)
      have hres : resI (bOut rs) = some rs := by rw [res_eq]; unfold bOut; rw [if_pos hok]; exact res_form rs hok
      have HVB := hid (fun wx h' => vbatch_s va rs vc wx h' (by omega) hsz)
      rw [hok] at HVB
      have HRI := hid (fun wx => read_i (bOut rs) wx (by omega))
      unfold RbPost at HRI
      rw [hres] at HRI
      simp only [Option.getD_some, Option.isSome_some] at HRI
      obtain ⟨S, e_S⟩ : ∃ S, S = bOut rs := ⟨_, rfl⟩
      rw [← e_S] at hSe hSs HRI ⊢
      clear e_S hres
      go_wp2_with (first | (go_at_call 10; refine (HVB.out _ hch).mono ?_; rintro e w4 ⟨rfl, hb4⟩; have be4 := be3.trans (hb4.mono be3.size); have hch := hch.below hb4; clear hb4))
      refine (HRI.out _).mono ?_
      rintro e w5 ⟨a5, c5, rfl, o5, _, hb5⟩
      have be5 := be4.trans (hb5.mono be4.size)
      have hch := hch.below hb5
      have hx5 := ownS_chs o5
      clear o5 hb5
      go_wp2_with (first | (go_at_call 12; refine (wbatch_eq a5 va rs c5 vc _ hx5 hch (by omega)).mono ?_; rintro e w6 ⟨rfl, hb6⟩; have be6 := be5.trans (hb6.mono be5.size); clear hb6))
      refine (drb_r a n c _ (HBY.out.below be6) hn hc).mono ?_
      rintro e w7 ⟨⟨t, rfl, ht⟩, hb7⟩
      have be7 := be6.trans (hb7.mono be6.size)
      clear hb7
      have HI7 := hid (fun wx => read_i t wx ht)
      have HS7 := hid (fun wx => read_s t wx ht)
      unfold RbPost at HI7 HS7
      rw [res_eq] at HI7
      cases hR : resS t with
      | none =>
        rw [hR] at HI7 HS7
        simp only [Option.getD_none, Option.isSome_none, List.length_nil] at HI7 HS7
        go_wp2_with fail
        refine (HI7.out _).mono ?_
        rintro e w8 ⟨a8, c8, rfl, _, _, hb8⟩
        have be8 := be7.trans (hb8.mono be7.size)
        go_wp2_with fail
        refine (HS7.out _).mono ?_
        rintro e w9 ⟨a9, c9, rfl, _, _, hb9⟩
        have be9 := be8.trans (hb9.mono be8.size)
        go_wp2
        go_ret
        exact ⟨rfl, be9⟩
      | some o =>
        obtain ⟨hbo, hbk⟩ := res_out hR
        rw [hR] at HI7 HS7
        simp only [Option.getD_some, Option.isSome_some] at HI7 HS7
        have hbl := (batchOk_of hbk).1
        have hbs : ∀ x ∈ o, x.1.size ≤ 1048576 ∧ x.2.1.size ≤ 1048576 := fun x hx => by have := chOk_size ((batchOk_of hbk).2 x hx); omega
        clear hR hbk
        go_wp2_with fail
        refine (HI7.out _).mono ?_
        rintro e w8 ⟨a8, c8, rfl, o8, _, hb8⟩
        have be8 := be7.trans (hb8.mono be7.size)
        have h8 := ownS_chs o8
        go_wp2_with fail
        refine (HS7.out _).mono ?_
        rintro e w9 ⟨a9, c9, rfl, _, _, hb9⟩
        have be9 := be8.trans (hb9.mono be8.size)
        have h9 := h8.below hb9
        have HF9 := hid (formbatch_i a8 o c8 _ h9 (by omega) hbs)
        rw [hbo] at HF9
        clear hb8 hb9 h8 o8
        go_wp2_with (first | (go_at_call 8; refine HF9.out.mono ?_; rintro e w10 ⟨rfl, hb10⟩; have be10 := be9.trans (hb10.mono be9.size); clear hb10))
        go_ret
        exact ⟨rfl, be10⟩
    | false =>
      have hSe : (bOut rs).toList.isEmpty = true := by unfold bOut; rw [if_neg (by simp [hok]), emp_iff]; decide
      have hres : resI (bOut rs) = none := by rw [res_eq]; unfold bOut; rw [if_neg (by simp [hok])]; exact res_empty
      have HVB := hid (fun wx h' => vbatch_s va rs vc wx h' (by omega) hsz)
      rw [hok] at HVB
      have HRI := hid (fun wx => read_i (bOut rs) wx (by omega))
      unfold RbPost at HRI
      rw [hres] at HRI
      simp only [Option.getD_none, Option.isSome_none, List.length_nil] at HRI
      obtain ⟨S, e_S⟩ : ∃ S, S = bOut rs := ⟨_, rfl⟩
      rw [← e_S] at hSe hSs HRI ⊢
      clear e_S hres
      go_wp2_with (first | (go_at_call 10; refine (HVB.out _ hch).mono ?_; rintro e w4 ⟨rfl, hb4⟩; have be4 := be3.trans (hb4.mono be3.size); have hch := hch.below hb4; clear hb4))
      refine (HRI.out _).mono ?_
      rintro e w6 ⟨a5, c5, rfl, o5, _, hb5⟩
      have be6 := be4.trans (hb5.mono be4.size)
      clear o5 hb5
      go_wp2_with fail
      refine (drb_r a n c _ (HBY.out.below be6) hn hc).mono ?_
      rintro e w7 ⟨⟨t, rfl, ht⟩, hb7⟩
      have be7 := be6.trans (hb7.mono be6.size)
      clear hb7
      have HI7 := hid (fun wx => read_i t wx ht)
      have HS7 := hid (fun wx => read_s t wx ht)
      unfold RbPost at HI7 HS7
      rw [res_eq] at HI7
      cases hR : resS t with
      | none =>
        rw [hR] at HI7 HS7
        simp only [Option.getD_none, Option.isSome_none, List.length_nil] at HI7 HS7
        go_wp2_with fail
        refine (HI7.out _).mono ?_
        rintro e w8 ⟨a8, c8, rfl, _, _, hb8⟩
        have be8 := be7.trans (hb8.mono be7.size)
        go_wp2_with fail
        refine (HS7.out _).mono ?_
        rintro e w9 ⟨a9, c9, rfl, _, _, hb9⟩
        have be9 := be8.trans (hb9.mono be8.size)
        go_wp2
        go_ret
        exact ⟨rfl, be9⟩
      | some o =>
        obtain ⟨hbo, hbk⟩ := res_out hR
        rw [hR] at HI7 HS7
        simp only [Option.getD_some, Option.isSome_some] at HI7 HS7
        have hbl := (batchOk_of hbk).1
        have hbs : ∀ x ∈ o, x.1.size ≤ 1048576 ∧ x.2.1.size ≤ 1048576 := fun x hx => by have := chOk_size ((batchOk_of hbk).2 x hx); omega
        clear hR hbk
        go_wp2_with fail
        refine (HI7.out _).mono ?_
        rintro e w8 ⟨a8, c8, rfl, o8, _, hb8⟩
        have be8 := be7.trans (hb8.mono be7.size)
        have h8 := ownS_chs o8
        go_wp2_with fail
        refine (HS7.out _).mono ?_
        rintro e w9 ⟨a9, c9, rfl, _, _, hb9⟩
        have be9 := be8.trans (hb9.mono be8.size)
        have h9 := h8.below hb9
        have HF9 := hid (formbatch_i a8 o c8 _ h9 (by omega) hbs)
        rw [hbo] at HF9
        clear hb8 hb9 h8 o8
        go_wp2_with (first | (go_at_call 8; refine HF9.out.mono ?_; rintro e w10 ⟨rfl, hb10⟩; have be10 := be9.trans (hb10.mono be9.size); clear hb10))
        go_ret
        exact ⟨rfl, be10⟩
  · have hn' : 1048576 < (n : Int) := by omega
    go_enter Try.func3, Try.ntmps3
    go_wp2
    go_ret
    exact ⟨rfl, Below.refl _ _⟩

set_option maxRecDepth 100000 in
theorem lifted (os : Os) (started : os.Started) (H : Type) (enc : TypeId × Value → H) :
    ReturnsInHanded {} Try.checked os 3 .any (Rows.fnBatchesSpec.pre6 enc Try.prog Try.f3 Rows.fnBatchesRow.domain false) (Rows.fnBatchesSpec.post enc Try.prog Try.f3 false true false false) := by
  refine returnsInHanded_of_change (C := Try.checked) own started (by kernel_rfl) Try.func3
    (ChangeSpec.witness6 (enc := enc) (C := Try.checked) false ⟨#[], #[.slice none 0 0], []⟩ 8 (by kernel_rfl) (by kernel_rfl) (by kernel_rfl) (by kernel_rfl)) ?_
  intro W base args ds gs before hval0 hW hcnd _
  have hval : ∀ (j : Nat) t v, Try.f3.params[j]? = some t → args[j]? = some v → Value.okWide Try.prog W .any base t v := hval0
  have hW' := hW
  obtain ⟨p, q, hA0, hV, rfl, hfz, hnd⟩ := hW
  have hA : DataW.TrodAll enc Try.prog W 0 (fun _ => true) true Try.f3.params.toList args.toList ds p := hA0
  rw [Try.params3] at hA hval
  obtain ⟨v0, vs0, d0, ds0, p0, q0, hargs, rfl, rfl, h0, r0⟩ := trodAll_cons hA
  obtain ⟨rfl, rfl, rfl⟩ := trodAll_nil r0
  obtain rfl : args = #[v0] := by cases args; simp_all
  obtain ⟨rfl, rfl⟩ := trodVars_none hV
  have k0 := h0
  have lt0 : ∀ x ∈ p0, x.block < W.heap.size := by obtain ⟨m, hm⟩ := k0; exact DataW.trod_lt m _ _ _ hm
  obtain ⟨a1, len, cap, rfl⟩ := okWide_slice Try.underlying22 (hval 0 22 v0 rfl rfl)
  obtain ⟨fuel0, hf⟩ := h0
  obtain ⟨a0, n0, c0, hv0, hB, hnc, hnm⟩ := bys_of_trod Try.underlying22 Try.underlying5 (by kernel_rfl) hf
  injection hv0 with e1 e2 e3
  subst e1 e2 e3
  clear hA0 hval0
  simp only [List.append_nil] at hW'
  refine (walk _ _ _ W hB hnc hnm).mono fun e W' ⟨he, bel⟩ => ?_
  subst he
  exact ⟨_, rfl, _, _, _, [], _, [], hW', trodAll_mk1 (shut_bool Try.underlying4 _), (trodAll_cons_mk (Below.trod laidOut (by kernel_rfl) (of_decide_eq_true (by kernel_rfl)) k0 bel lt0) trodAll_mk0), rfl, bel.frame _, fun h => by cases h⟩

theorem over : Rows.fnBatchesRow.holds Try.pinned (OpenSpec.ofChange Rows.fnBatchesSpec) :=
  OpenClaim.holds_of_wide 3 Try.f3 rfl rfl rfl rfl rfl rfl rfl ⟨rfl, rfl, rfl, rfl, rfl⟩ rfl rfl rfl rfl rfl (by kernel_rfl) Try.func3 (by kernel_rfl)
    (of_decide_eq_true (by kernel_rfl)) (by unfold Func.isWrapper; first | (rw [if_pos (by decide +kernel)]; kernel_rfl) | (rw [if_neg (by decide +kernel)]; exact ⟨rfl, rfl⟩))
    (fun os started H enc _ => lifted os started H enc)

theorem proved : Rows.FnBatchesSaid := over
#print axioms proved
end Go.Proofs.Ytnmaknnnmjfhkac.fnBatches
