import Derived.Test.YtnmaknnnmjfhkacDoorCards
import Derived.Test.YtnmaknnnmjfhkacDoorTie
import Derived.Test.YtnmaknnnmjfhkacDoorRpM
import Derived.Test.YtnmaknnnmjfhkacDoorRpT
import Derived.Test.YtnmaknnnmjfhkacDoorPgD
import Derived.Test.YtnmaknnnmjfhkacDoorPq
import Derived.Test.YtnmaknnnmjfhkacDoorPageI
import Derived.Test.YtnmaknnnmjfhkacDoorOpnB
import Derived.WalkKit
import Derived.ProofKit
import Derived.OpenShut
import Derived.ShutString
import Derived.ChangeOld
import Derived.Below
import Derived.OpenVars
import Derived.LaidLaws
import Derived.LaidHandle
import Derived.Deep.DeepHandedRow
namespace Go.Proofs.YtnmaknnnmjfhkacDoor.fnPages
open Go.ChangeShapes Go.WideShapes Go.ChangeAt Go.RowKit
open Go.ChangeMaps (open_string shut_string)
set_option linter.unusedVariables false
set_option linter.unusedSimpArgs false
set_option maxRecDepth 8000

theorem own : ownKnob Tryd.prog.godebug = none := by kernel_rfl
theorem laidOut : laidOutB Tryd.prog = true := by kernel_rfl
theorem gEt : Tryd.prog.globalNamed "errors.errorType" = some 0 := by kernel_rfl
theorem gEn : Tryd.prog.globalNamed "loop.example/kilnstone/impl.errNoPage" = some 1 := by kernel_rfl
theorem gEnT : (Tryd.prog.globals[1]?).map (·.type) = some 40 := by kernel_rfl
theorem rt : (Tryd.prog.cutTypes.find? (·.1 == "internal/reflectlite.rtype")).map (·.2) = some 84 := by kernel_rfl
theorem oneRow : ((List.range Tryd.prog.types.size).filter fun t => Tryd.prog.rowNamed t [101, 114, 114, 111, 114]) = [40] := by kernel_rfl

/-- What the list gives: the handle of error, and an error. -/
theorem of_laid {W : World} (h : laidMetH Tryd.prog Rows.fnPagesRow.laid W) : W.cell? ⟨0, 0, none⟩ = some (.iface 84 (.agg #[.pointer (some ⟨2, 40, none⟩)])) ∧ (∃ ty v, W.cell? ⟨1, 0, none⟩ = some (.iface ty v)) ∧ 1 < W.heap.size := by
  have h' : laidMet Tryd.prog [("loop.example/kilnstone/impl.errNoPage", Rows.laid_loop_example_kilnstone_impl_errNoPage)] W ∧ handlesMet Tryd.prog [("errors.errorType", Rows.laid_errors_errorType)] W := h
  obtain ⟨name, u, ty, e1, e2, e3, e4, e5⟩ := h'.2 _ (List.mem_singleton.2 rfl)
  have en : name = [101, 114, 114, 111, 114] := (Option.some.inj e1).symm
  subst en
  obtain rfl := Option.some.inj (rt.symm.trans e2)
  have hm : ty ∈ (List.range Tryd.prog.types.size).filter fun t => Tryd.prog.rowNamed t [101, 114, 114, 111, 114] := List.mem_filter.2 ⟨List.mem_range.2 e3, e4⟩
  rw [oneRow] at hm
  obtain rfl := List.mem_singleton.1 hm
  have hh : typeHandle Tryd.prog 40 = .pointer (some ⟨2, 40, none⟩) := by kernel_rfl
  rw [hh] at e5
  obtain ⟨ps, ⟨g0, t0, cs0, f0, p0, q0, hg0, ht0, hv0, hd0, _, _⟩, _, _⟩ := h'.1
  obtain rfl := Option.some.inj (gEn.symm.trans hg0)
  obtain rfl := Option.some.inj (gEnT.symm.trans ht0)
  obtain ⟨l0⟩ := cs0
  obtain ⟨_, u, v, hcs, _, _⟩ := iface_of_trod Tryd.underlying40 hd0
  have hc1 : W.cell? ⟨1, 0, none⟩ = some (.iface u v) := by
    have := World.var?_cell gEn hv0 0
    simp at hcs
    subst hcs
    simpa using this
  refine ⟨by simpa using World.var?_cell gEt e5 0, ⟨u, v, hc1⟩, ?_⟩
  rcases Nat.lt_or_ge 1 W.heap.size with hl | hl
  · exact hl
  · exfalso
    have : W.heap[1]? = none := Array.getElem?_eq_none hl
    simp [World.cell?, this] at hc1

theorem step_callG {P : Program} {ops : Array Oper} {o : Oper} {a : Act} {w : World} {K : Act → World → Prop} {Q : Exit → Act → World → Prop} {E : Prop} (hw : Region.wanted o (yielded ops a.tmps) = true) (f : FuncId) (args : Array Value)
    (hrun : (execOp a.eval o).run P w = .ok (.enter f args) w) {C : Ending → World → Prop} (hc : Calls P f args w C) (h : ∀ e w', C e w' → ∃ v, e = .returned v ∧ K (a.put o.dst v) w') :
    if Region.wanted o (yielded ops a.tmps) = true then Oper.wp P o a w K Q else E := by
  rw [if_pos hw]
  unfold Oper.wp
  rw [hrun, Oper.upon_enter]
  refine hc.mono fun e w'' hh => ?_
  obtain ⟨v, rfl, hk⟩ := h e w'' hh
  exact hk
theorem xor_one (B : Nat) (h : B ≤ 255) : ∃ Y : Nat, bits .xor .u8 (B : Int) 1 = (Y : Int) ∧ Y ≤ 255 ∧ Y ≠ B := by
  have key : ∀ B : Fin 256, bits .xor .u8 (B.val : Int) 1 = ((B.val ^^^ 1 : Nat) : Int) ∧ B.val ^^^ 1 ≤ 255 ∧ B.val ^^^ 1 ≠ B.val := by decide +kernel
  exact ⟨B ^^^ 1, key ⟨B, by omega⟩⟩
theorem rp_back {s : ByteArray} {n k l m : Int} {p : ByteArray} (h : rpRes s n = some (k, l, m, p)) : formOf k l m p n = s ∧ p.size ≤ 64 := by
  unfold rpRes at h
  split at h
  · rename_i hh
    obtain ⟨h1, h2, h3, h4, h5⟩ := hh
    simp only [Option.some.injEq, Prod.mk.injEq] at h
    obtain ⟨rfl, rfl, rfl, rfl⟩ := h
    refine ⟨h5, ?_⟩
    cases hc : pageOk (rpK (s.extract n.toNat 64)) (rpL (s.extract n.toNat 64)) (rpM (s.extract n.toNat 64)) (rpP (s.extract n.toNat 64)) n with
    | true =>
      have hd := of_decide_eq_true (by unfold pageOk at hc; exact hc)
      omega
    | false =>
      exfalso
      unfold formOf at h5
      rw [hc, if_neg (by simp)] at h5
      rw [← h5] at h3
      exact absurd h3 (by decide)
  · cases h
theorem emp_iff (s : ByteArray) : s.toList.isEmpty = decide (s.size = 0) := by
  rw [Bool.eq_iff_iff, List.isEmpty_iff, decide_eq_true_eq, ByteArray.toList_eq]
  constructor
  · intro h
    show s.data.size = 0
    rw [← Array.length_toList, h]
    rfl
  · intro h
    exact List.eq_nil_of_length_eq_zero h
/-- What is bent, and that it is not read. -/
theorem bent_no (k l m : Int) (t : ByteArray) (n : Nat) (hok : pageOk k l m t (n : Int) = true) (Y : Nat) (hY : Y ≤ 255) (hne : Y ≠ ((pageForm k l m t n).data.toList.getD 0 0).toNat) : rpRes (strOfNums [(Y : Int)] ++ (pageForm k l m t n).extract 1 (pageForm k l m t n).size) (n : Int) = none := by
  have hd := of_decide_eq_true (by unfold pageOk at hok; exact hok)
  obtain ⟨h1, h2, h3, h4, h5, h6, h7, h8, h9, _⟩ := hd
  have hs := pageForm_size k l m t n (by omega)
  have e1 : nums (strOfNums [(Y : Int)]) = [(Y : Int)] := nums_strOfNums _ (by intro y hy; simp at hy; omega)
  have e2 : nums (strOfNums [(Y : Int)] ++ (pageForm k l m t n).extract 1 (pageForm k l m t n).size) = (Y : Int) :: (nums (pageForm k l m t n)).drop 1 := by
    rw [nums_append, e1, nums_extract, List.take_of_length_le (by rw [nums_length]; omega)]
    rfl
  refine rp_bent k l m t n hok _ ?_ ?_
  · rw [e2]
    obtain ⟨j, rfl⟩ : ∃ j, n = j + 1 := ⟨n - 1, by omega⟩
    rw [List.drop_succ_cons, List.drop_drop, Nat.add_comm 1 j]
    exact form_drop k l m t (j + 1)
  · intro he
    have := congrArg nums he
    rw [e2] at this
    have hl : 0 < (pageForm k l m t n).data.toList.length := by show 0 < (pageForm k l m t n).size; omega
    unfold nums at this
    rw [List.getD_eq_getElem?_getD, List.getElem?_eq_getElem hl] at hne
    match hx : (pageForm k l m t n).data.toList, hl with
    | x :: r, _ =>
      simp only [hx, List.map_cons, List.cons.injEq] at this
      simp only [hx, List.getElem_cons_zero, Option.getD_some] at hne
      omega

set_option maxHeartbeats 16000000 in
theorem walk (a : Option Addr) (n c : Nat) (w : World) (h : Bys w a n) (hc : n ≤ c) (hm : n ≤ maxLen) (hL : laidMetH Tryd.prog Rows.fnPagesRow.laid w) :
    Calls Tryd.prog 4 #[.slice a n c] w fun e w' => e = .returned (.bool true) ∧ Below w.heap.size w w' := by
  obtain ⟨g0, ⟨ty, gv, g1⟩, gl⟩ := of_laid hL
  clear hL
  unfold maxLen at hm
  by_cases hn : n ≤ 1048576
  · have hn' : ¬ (1048576 < (n : Int)) := by omega
    have HRP : Hid (∀ s m wx, Below w.heap.size w wx → Calls Tryd.prog 6 #[.string s, .int .i64 m] wx fun e w' => e = .returned (rpV (rpRes s m)) ∧ Below wx.heap.size wx w') := fun s m wx hb => readpage_i s m wx ty gv ((hb.cell (p := ⟨1, 0, none⟩) gl).trans g1) ((hb.cell (p := ⟨0, 0, none⟩) (by show 0 < _; omega)).trans g0) (by have := hb.size; omega)
    have HBY := hid h
    clear g0 g1 gl h
    go_enter Tryd.func4, Tryd.ntmps4
    go_wp2_with fail
    refine (dfp_r a n c _ HBY.out hn hc).mono ?_
    rintro e w1 ⟨⟨k, l, m, t, wd, rfl, ht⟩, be1⟩
    have rP := row_new w1 #[.int .i64 k, .int .i64 l, .int .i64 m, .string t] 23
    have be2 := be1.trans ((below_nw w1 (.cells #[.int .i64 k, .int .i64 l, .int .i64 m, .string t] 23)).mono be1.size)
    obtain ⟨P, e_P⟩ : ∃ x, x = w1.heap.size := ⟨_, rfl⟩
    obtain ⟨w2, e_w2⟩ : ∃ x, x = w1.alloc (.cells #[.int .i64 k, .int .i64 l, .int .i64 m, .string t] 23) := ⟨_, rfl⟩
    rw [← e_w2, ← e_P] at rP
    rw [← e_w2] at be2
    have p0 := rP.cell 0 _ rfl
    have p1 := rP.cell 1 _ rfl
    have p2 := rP.cell 2 _ rfl
    have p3 := rP.cell 3 _ rfl
    have pl := rP.lt
    go_wp2_with fail
    rw [← e_w2, ← e_P]
    clear e_w2 e_P
    refine (form_i_any k l m t wd _ (by omega)).mono ?_
    rintro e w3 ⟨rfl, hb3⟩
    have rP := rP.below hb3
    have be3 := be2.trans (hb3.mono be2.size)
    clear p0 p1 p2 p3 pl
    have p0 := rP.cell 0 _ rfl
    have p1 := rP.cell 1 _ rfl
    have p2 := rP.cell 2 _ rfl
    have p3 := rP.cell 3 _ rfl
    have pl := rP.lt
    go_wp2_with fail
    refine (form_s_any k l m t wd _ (by omega)).mono ?_
    rintro e w4 ⟨rfl, hb4⟩
    have rP := rP.below hb4
    have be4 := be3.trans (hb4.mono be3.size)
    clear p0 p1 p2 p3 pl
    clear hb3 hb4
    cases hok : pageOk k l m t wd with
    | false =>
      have hFe : (formOf k l m t wd).toList.isEmpty = true := by unfold formOf; rw [hok, if_neg (by simp), emp_iff]; decide
      obtain ⟨F, e_F⟩ : ∃ F, F = formOf k l m t wd := ⟨_, rfl⟩
      rw [← e_F] at hFe ⊢
      clear e_F hok
      go_wp2_with fail
      refine (drp_r a n c _ (HBY.out.below be4) hn hc).mono ?_
      rintro e wa ⟨⟨s2, v2, rfl, hs2⟩, hba⟩
      have bea := be4.trans (hba.mono be4.size)
      have HI := HRP.out s2 v2
      have HS := fun wx => readpage_s_any s2 v2 wx (by omega)
      cases hR : rpRes s2 v2 with
      | none =>
        rw [hR] at HI HS
        clear hR
        simp only [rpV] at HI HS
        have HI := hid HI
        have HS := hid HS
        go_wp2_with fail
        refine (HI.out _ bea).mono ?_
        rintro e wb ⟨rfl, hbb⟩
        have beb := bea.trans (hbb.mono bea.size)
        clear hbb
        have rQ2 := row_new wb #[.int .i64 0, .int .i64 0, .int .i64 0, .string ⟨#[]⟩] 23
        have bec := beb.trans ((below_nw wb (.cells #[.int .i64 0, .int .i64 0, .int .i64 0, .string ⟨#[]⟩] 23)).mono beb.size)
        obtain ⟨Q2, e_Q2⟩ : ∃ x, x = wb.heap.size := ⟨_, rfl⟩
        obtain ⟨wc, e_wc⟩ : ∃ x, x = wb.alloc (.cells #[.int .i64 0, .int .i64 0, .int .i64 0, .string ⟨#[]⟩] 23) := ⟨_, rfl⟩
        rw [← e_wc, ← e_Q2] at rQ2
        rw [← e_wc] at bec
        go_wp2_with fail
        rw [← e_wc, ← e_Q2]
        clear e_wc e_Q2
        refine (HS.out _).mono ?_
        rintro e wd1 ⟨rfl, hbd⟩
        have bed := bec.trans (hbd.mono bec.size)
        have rQ2 := rQ2.below hbd
        clear hbd
        have bee := bed.trans ((below_nw wd1 (.cells #[.int .i64 0, .int .i64 0, .int .i64 0, .string ⟨#[]⟩] 23)).mono bed.size)
        go_wp2
        go_ret
        exact ⟨rfl, bee⟩
      | some xr =>
        obtain ⟨k2, l2, m2, p2⟩ := xr
        obtain ⟨hfo, hp2⟩ := rp_back hR
        have HFO := hid hfo
        clear hfo
        rw [hR] at HI HS
        clear hR
        simp only [rpV] at HI HS
        have HI := hid HI
        have HS := hid HS
        go_wp2_with fail
        refine (HI.out _ bea).mono ?_
        rintro e wb ⟨rfl, hbb⟩
        have beb := bea.trans (hbb.mono bea.size)
        clear hbb
        have rQ2 := row_new wb #[.int .i64 k2, .int .i64 l2, .int .i64 m2, .string p2] 23
        have bec := beb.trans ((below_nw wb (.cells #[.int .i64 k2, .int .i64 l2, .int .i64 m2, .string p2] 23)).mono beb.size)
        obtain ⟨Q2, e_Q2⟩ : ∃ x, x = wb.heap.size := ⟨_, rfl⟩
        obtain ⟨wc, e_wc⟩ : ∃ x, x = wb.alloc (.cells #[.int .i64 k2, .int .i64 l2, .int .i64 m2, .string p2] 23) := ⟨_, rfl⟩
        rw [← e_wc, ← e_Q2] at rQ2
        rw [← e_wc] at bec
        go_wp2_with fail
        rw [← e_wc, ← e_Q2]
        clear e_wc e_Q2
        refine (HS.out _).mono ?_
        rintro e wd1 ⟨rfl, hbd⟩
        have bed := bec.trans (hbd.mono bec.size)
        have rQ2 := rQ2.below hbd
        clear hbd
        have bee := bed.trans ((below_nw wd1 (.cells #[.int .i64 k2, .int .i64 l2, .int .i64 m2, .string p2] 23)).mono bed.size)
        have rQ2 := rQ2.alloc (.cells #[.int .i64 k2, .int .i64 l2, .int .i64 m2, .string p2] 23)
        have y0 := rQ2.cell 0 _ rfl
        have y1 := rQ2.cell 1 _ rfl
        have y2 := rQ2.cell 2 _ rfl
        have y3 := rQ2.cell 3 _ rfl
        have yl := rQ2.lt
        go_wp2_with fail
        refine (form_i_any k2 l2 m2 p2 v2 _ (by omega)).mono ?_
        rw [HFO.out]
        rintro e wf ⟨rfl, hbf⟩
        have bef := bee.trans (hbf.mono bee.size)
        go_wp2
        go_ret
        exact ⟨rfl, bef⟩
    | true =>
      have hdk := of_decide_eq_true (by unfold pageOk at hok; exact hok)
      obtain ⟨wn, rfl⟩ : ∃ x : Nat, wd = (x : Int) := ⟨wd.toNat, by omega⟩
      have hw1 : 1 ≤ wn := by omega
      have hw2 : wn ≤ 8 := by omega
      have hpz : t.size + wn ≤ 56 := by omega
      clear hdk
      have e_F : formOf k l m t (wn : Int) = pageForm k l m t wn := by unfold formOf; rw [hok, if_pos rfl, Int.toNat_natCast]
      rw [e_F]
      clear e_F
      have hFs := pageForm_size k l m t wn hpz
      have hrd := rp_form k l m t wn hok
      have hbt := fun Y hY hne => bent_no k l m t wn hok Y hY hne
      obtain ⟨hpt1, hpt2⟩ := form_parts k l m t wn hpz
      obtain ⟨F, e_F⟩ : ∃ F, F = pageForm k l m t wn := ⟨_, rfl⟩
      rw [← e_F] at hFs hrd hbt hpt1 hpt2 ⊢
      rw [← hpt1] at hpt2
      clear e_F hok hpt1
      have hFe : F.toList.isEmpty = false := by rw [emp_iff]; simp [hFs]
      have hFi : (F.size : Int) = 64 := by omega
      have hF1 : (1 : Int) ≤ (F.size : Int) := by omega
      have hF0 : 0 < F.size := by omega
      have hFw : (wn : Int) ≤ (F.size : Int) := by omega
      have HFS := hid hFs
      have HI := HRP.out F (wn : Int)
      rw [hrd] at HI
      simp only [rpV] at HI
      have HI := hid HI
      clear hrd
      have gb := getb F 0 hF0
      obtain ⟨b0, hb0⟩ : ∃ x : Nat, x = (F.data.toList.getD 0 0).toNat := ⟨_, rfl⟩
      rw [← hb0] at gb hbt
      have hb1 : b0 ≤ 255 := by rw [hb0]; have := UInt8.toNat_lt (F.data.toList.getD 0 0); omega
      clear hb0
      obtain ⟨Y, hY1, hY2, hY3⟩ := xor_one b0 hb1
      have HBT := HRP.out (strOfNums [(Y : Int)] ++ F.extract 1 F.size) (wn : Int)
      rw [hbt Y hY2 hY3] at HBT
      simp only [rpV] at HBT
      have hTs : (strOfNums [(Y : Int)]).size = 1 := by rw [strOfNums_size]; rfl
      have HCV : Hid (∀ wx b, wx.cell? ⟨b, 0, none⟩ = some (.int .u8 (Y : Int)) → (convert 28 9 (.slice (some ⟨b, 0, none⟩) 1 1)).run Tryd.prog wx = .ok (.string (strOfNums [(Y : Int)])) wx) := fun wx b hh => bytes_1 wx b _ hh
      obtain ⟨T1, e_T1⟩ : ∃ x, x = strOfNums [(Y : Int)] := ⟨_, rfl⟩
      rw [← e_T1] at HBT hTs HCV
      clear e_T1 hbt hY3
      have HBT := hid HBT
      have hXs : (F.extract 1 F.size).size = 63 := by simp only [ByteArray.size_extract]; omega
      have z1 : ¬ (9223372036854775807 < T1.size + (F.extract 1 F.size).size) := by omega
      have z2 : 1 + (F.size - 1) ≤ 9223372036854775807 := by omega
      have z3 : ¬ (64 < (wn : Int)) := by omega
      have z4 : (wn : Int) ≤ 64 := by omega
      have HXS := hid hXs
      clear hFs hXs
      go_wp2_with fail
      refine (HI.out _ be4).mono ?_
      rintro e w5 ⟨rfl, hb5⟩
      have be5 := be4.trans (hb5.mono be4.size)
      have rP := rP.below hb5
      clear hb5
      have rQ := row_new w5 #[.int .i64 k, .int .i64 l, .int .i64 m, .string t] 23
      have be6 := be5.trans ((below_nw w5 (.cells #[.int .i64 k, .int .i64 l, .int .i64 m, .string t] 23)).mono be5.size)
      obtain ⟨Q, e_Q⟩ : ∃ x, x = w5.heap.size := ⟨_, rfl⟩
      obtain ⟨w6, e_w6⟩ : ∃ x, x = w5.alloc (.cells #[.int .i64 k, .int .i64 l, .int .i64 m, .string t] 23) := ⟨_, rfl⟩
      rw [← e_w6, ← e_Q] at rQ
      rw [← e_w6] at be6
      have rP := rP.alloc (.cells #[.int .i64 k, .int .i64 l, .int .i64 m, .string t] 23)
      rw [← e_w6] at rP
      have neW : 1 = 1 := rfl
      go_wp2_with fail
      rw [← e_w6, ← e_Q]
      clear e_w6 e_Q
      refine wp_region_held_drew (S := fun w' => True) (by kernel_rfl) (trivial) (fun hHeld => ?_)
      refine wpAnyH_take (i := 0) (v := .string F) rfl (by kernel_rfl) (by kernel_rfl) (by kernel_rfl) (fun _ _ _ h => h) (Or.inl ⟨by rfl, fun w hw => by obtain z0 := hw; go_simp⟩) hHeld ?_
      simp only [Act.put, List.getElem_toArray, List.getElem_cons_zero, List.getElem_cons_succ, List.setIfInBounds_toArray, List.set_cons_zero, List.set_cons_succ]
      refine wpAnyH_take (i := 1) (v := .int .u8 (b0 : Int)) rfl (by kernel_rfl) (by kernel_rfl) (by kernel_rfl) (fun _ _ _ h => h) (Or.inl ⟨by rfl, fun w hw => by obtain z0 := hw; go_simp⟩) hHeld ?_
      simp only [Act.put, List.getElem_toArray, List.getElem_cons_zero, List.getElem_cons_succ, List.setIfInBounds_toArray, List.set_cons_zero, List.set_cons_succ]
      refine wpAnyH_take (i := 2) (v := .int .u8 (Y : Int)) rfl (by kernel_rfl) (by kernel_rfl) (by kernel_rfl) (fun _ _ _ h => h) (Or.inl ⟨by rfl, fun w hw => by obtain z0 := hw; go_simp⟩) hHeld ?_
      simp only [Act.put, List.getElem_toArray, List.getElem_cons_zero, List.getElem_cons_succ, List.setIfInBounds_toArray, List.set_cons_zero, List.set_cons_succ]
      refine wpAnyH_take (i := 5) (v := .string F) rfl (by kernel_rfl) (by kernel_rfl) (by kernel_rfl) (fun _ _ _ h => h) (Or.inl ⟨by rfl, fun w hw => by obtain z0 := hw; go_simp⟩) hHeld ?_
      simp only [Act.put, List.getElem_toArray, List.getElem_cons_zero, List.getElem_cons_succ, List.setIfInBounds_toArray, List.set_cons_zero, List.set_cons_succ]
      refine wpAnyH_take (i := 6) (v := .string (F.extract 1 F.size)) rfl (by kernel_rfl) (by kernel_rfl) (by kernel_rfl) (fun _ _ _ h => h) (Or.inl ⟨by rfl, fun w hw => by obtain z0 := hw; go_simp⟩) hHeld ?_
      simp only [Act.put, List.getElem_toArray, List.getElem_cons_zero, List.getElem_cons_succ, List.setIfInBounds_toArray, List.set_cons_zero, List.set_cons_succ]
      refine wpAnyH_ready (rs := [3]) (by kernel_rfl) (by simp) ?_
      refine AllReadyH.cons rfl (fun K hK => ?_) AllReadyH.nil
      go_simp
      have r4 : Row ((w6.alloc (.cells #[.int .u8 (Y : Int)] 5)).drew) w6.heap.size [.int .u8 (Y : Int)] := (row_new _ _ _).drew
      have hcv := HCV.out _ _ (r4.cell 0 _ rfl)
      have be7 : Below w.heap.size w ((w6.alloc (.cells #[.int .u8 (Y : Int)] 5)).drew) := (be6.trans ((below_nw _ _).mono be6.size)).drew
      have rP := (rP.alloc (.cells #[.int .u8 (Y : Int)] 5)).drew
      have rQ := (rQ.alloc (.cells #[.int .u8 (Y : Int)] 5)).drew
      obtain ⟨w7, e_w7⟩ : ∃ x, x = (w6.alloc (.cells #[.int .u8 (Y : Int)] 5)).drew := ⟨_, rfl⟩
      rw [← e_w7] at hcv be7 rP rQ ⊢
      clear e_w7 r4
      refine hK.out _ _ hHeld (fun _ => ?_)
      clear hK K
      try simp only [Act.put, List.getElem_toArray, List.getElem_cons_zero, List.getElem_cons_succ, List.setIfInBounds_toArray, List.set_cons_zero, List.set_cons_succ]
      refine wpAnyH_ready (rs := [4]) (by kernel_rfl) (by simp) ?_
      refine AllReadyH.cons rfl (fun K hK => ?_) AllReadyH.nil
      have _c := hcv
      go_simp
      refine hK.out _ _ hHeld (fun _ => ?_)
      clear hK K
      try simp only [Act.put, List.getElem_toArray, List.getElem_cons_zero, List.getElem_cons_succ, List.setIfInBounds_toArray, List.set_cons_zero, List.set_cons_succ]
      refine wpAnyH_take (i := 7) (v := .string (T1 ++ F.extract 1 F.size)) rfl (by kernel_rfl) (by kernel_rfl) (by kernel_rfl) (fun _ _ _ h => h) (Or.inl ⟨by rfl, fun w hw => by obtain z0 := hw; go_simp⟩) hHeld ?_
      simp only [Act.put, List.getElem_toArray, List.getElem_cons_zero, List.getElem_cons_succ, List.setIfInBounds_toArray, List.set_cons_zero, List.set_cons_succ]
      refine wpAnyH_ready (rs := [8]) (by kernel_rfl) (by simp) ?_
      refine AllReadyH.cons rfl (fun K hK => ?_) AllReadyH.nil
      go_simp
      refine hK.out _ _ hHeld (fun _ => ?_)
      clear hK K
      try simp only [Act.put, List.getElem_toArray, List.getElem_cons_zero, List.getElem_cons_succ, List.setIfInBounds_toArray, List.set_cons_zero, List.set_cons_succ]
      refine wpAnyH_done (by kernel_rfl) ?_ _
      clear hcv
      go_wp2_with fail
      refine (HBT.out _ be7).mono ?_
      rintro e w8 ⟨rfl, hb8⟩
      have be8 := be7.trans (hb8.mono be7.size)
      have rP := (rP.below hb8).alloc (.cells #[.int .i64 0, .int .i64 0, .int .i64 0, .string ⟨#[]⟩] 23)
      have rQ := (rQ.below hb8).alloc (.cells #[.int .i64 0, .int .i64 0, .int .i64 0, .string ⟨#[]⟩] 23)
      have be9 := be8.trans ((below_nw w8 (.cells #[.int .i64 0, .int .i64 0, .int .i64 0, .string ⟨#[]⟩] 23)).mono be8.size)
      clear hb8
      obtain ⟨w9, e_w9⟩ : ∃ x, x = w8.alloc (.cells #[.int .i64 0, .int .i64 0, .int .i64 0, .string ⟨#[]⟩] 23) := ⟨_, rfl⟩
      rw [← e_w9] at rP rQ be9
      have hU : (F.extract wn F.size).size ≤ 64 := by simp only [ByteArray.size_extract]; have := HFS.out; omega
      have hpt3 : F.extract 0 wn = sumN (F.extract wn F.size) wn := by rw [HFS.out]; exact hpt2
      clear hpt2
      obtain ⟨U, e_U⟩ : ∃ x, x = F.extract wn F.size := ⟨_, rfl⟩
      rw [← e_U] at hU hpt3
      have HSM := hid (fun wx => sum_i U wx wn (by omega) hw1 hw2)
      obtain ⟨V, e_V⟩ : ∃ x, x = sumN U wn := ⟨_, rfl⟩
      rw [← e_V] at hpt3 HSM
      clear e_V
      have e_U2 : F.extract wn F.size = U := e_U.symm
      clear e_U
      go_wp2_with fail
      rw [← e_w9]
      clear e_w9
      refine wp_region_held_drew (S := fun w' => w'.cell? ⟨P, 0, none⟩ = some (.int .i64 k) ∧ w'.cell? ⟨P, 1, none⟩ = some (.int .i64 l) ∧ w'.cell? ⟨P, 2, none⟩ = some (.int .i64 m) ∧ w'.cell? ⟨P, 3, none⟩ = some (.string t) ∧ w'.cell? ⟨Q, 0, none⟩ = some (.int .i64 k) ∧ w'.cell? ⟨Q, 1, none⟩ = some (.int .i64 l) ∧ w'.cell? ⟨Q, 2, none⟩ = some (.int .i64 m) ∧ w'.cell? ⟨Q, 3, none⟩ = some (.string t)) (by kernel_rfl) (⟨rP.drew.cell 0 _ rfl, rP.drew.cell 1 _ rfl, rP.drew.cell 2 _ rfl, rP.drew.cell 3 _ rfl, rQ.drew.cell 0 _ rfl, rQ.drew.cell 1 _ rfl, rQ.drew.cell 2 _ rfl, rQ.drew.cell 3 _ rfl⟩) (fun hHeld => ?_)
      refine wpAnyH_take (i := 0) (v := .bool true) rfl (by kernel_rfl) (by kernel_rfl) (by kernel_rfl) (fun _ _ _ h => h) (Or.inl ⟨by rfl, fun w hw => by obtain ⟨z0, z1, z2, z3, z4, z5, z6, z7⟩ := hw; go_simp⟩) hHeld ?_
      simp only [Act.put, List.getElem_toArray, List.getElem_cons_zero, List.getElem_cons_succ, List.setIfInBounds_toArray, List.set_cons_zero, List.set_cons_succ]
      refine wpAnyH_take (i := 1) (v := .bool false) rfl (by kernel_rfl) (by kernel_rfl) (by kernel_rfl) (fun _ _ _ h => h) (Or.inl ⟨by rfl, fun w hw => by obtain ⟨z0, z1, z2, z3, z4, z5, z6, z7⟩ := hw; go_simp⟩) hHeld ?_
      simp only [Act.put, List.getElem_toArray, List.getElem_cons_zero, List.getElem_cons_succ, List.setIfInBounds_toArray, List.set_cons_zero, List.set_cons_succ]
      refine wpAnyH_take (i := 2) (v := .bool false) rfl (by kernel_rfl) (by kernel_rfl) (by kernel_rfl) (fun _ _ _ h => h) (Or.inl ⟨by rfl, fun w hw => by obtain ⟨z0, z1, z2, z3, z4, z5, z6, z7⟩ := hw; go_simp⟩) hHeld ?_
      simp only [Act.put, List.getElem_toArray, List.getElem_cons_zero, List.getElem_cons_succ, List.setIfInBounds_toArray, List.set_cons_zero, List.set_cons_succ]
      refine wpAnyH_take (i := 3) (v := .agg #[.int .i64 k, .int .i64 l, .int .i64 m, .string t]) rfl (by kernel_rfl) (by kernel_rfl) (by kernel_rfl) (fun _ _ _ h => h) (Or.inl ⟨by rfl, fun w hw => by obtain ⟨z0, z1, z2, z3, z4, z5, z6, z7⟩ := hw; go_simp⟩) hHeld ?_
      simp only [Act.put, List.getElem_toArray, List.getElem_cons_zero, List.getElem_cons_succ, List.setIfInBounds_toArray, List.set_cons_zero, List.set_cons_succ]
      refine wpAnyH_take (i := 4) (v := .agg #[.int .i64 k, .int .i64 l, .int .i64 m, .string t]) rfl (by kernel_rfl) (by kernel_rfl) (by kernel_rfl) (fun _ _ _ h => h) (Or.inl ⟨by rfl, fun w hw => by obtain ⟨z0, z1, z2, z3, z4, z5, z6, z7⟩ := hw; go_simp⟩) hHeld ?_
      simp only [Act.put, List.getElem_toArray, List.getElem_cons_zero, List.getElem_cons_succ, List.setIfInBounds_toArray, List.set_cons_zero, List.set_cons_succ]
      refine wpAnyH_take (i := 5) (v := .bool false) rfl (by kernel_rfl) (by kernel_rfl) (by kernel_rfl) (fun _ _ _ h => h) (Or.inl ⟨by rfl, fun w hw => by obtain ⟨z0, z1, z2, z3, z4, z5, z6, z7⟩ := hw; go_simp⟩) hHeld ?_
      simp only [Act.put, List.getElem_toArray, List.getElem_cons_zero, List.getElem_cons_succ, List.setIfInBounds_toArray, List.set_cons_zero, List.set_cons_succ]
      refine wpAnyH_take (i := 6) (v := .bool false) rfl (by kernel_rfl) (by kernel_rfl) (by kernel_rfl) (fun _ _ _ h => h) (Or.inl ⟨by rfl, fun w hw => by obtain ⟨z0, z1, z2, z3, z4, z5, z6, z7⟩ := hw; go_simp⟩) hHeld ?_
      simp only [Act.put, List.getElem_toArray, List.getElem_cons_zero, List.getElem_cons_succ, List.setIfInBounds_toArray, List.set_cons_zero, List.set_cons_succ]
      refine wpAnyH_take (i := 7) (v := .bool false) rfl (by kernel_rfl) (by kernel_rfl) (by kernel_rfl) (fun _ _ _ h => h) (Or.inl ⟨by rfl, fun w hw => by obtain ⟨z0, z1, z2, z3, z4, z5, z6, z7⟩ := hw; go_simp⟩) hHeld ?_
      simp only [Act.put, List.getElem_toArray, List.getElem_cons_zero, List.getElem_cons_succ, List.setIfInBounds_toArray, List.set_cons_zero, List.set_cons_succ]
      refine wpAnyH_take (i := 8) (v := .bool false) rfl (by kernel_rfl) (by kernel_rfl) (by kernel_rfl) (fun _ _ _ h => h) (Or.inl ⟨by rfl, fun w hw => by obtain ⟨z0, z1, z2, z3, z4, z5, z6, z7⟩ := hw; go_simp⟩) hHeld ?_
      simp only [Act.put, List.getElem_toArray, List.getElem_cons_zero, List.getElem_cons_succ, List.setIfInBounds_toArray, List.set_cons_zero, List.set_cons_succ]
      refine wpAnyH_take (i := 9) (v := .bool false) rfl (by kernel_rfl) (by kernel_rfl) (by kernel_rfl) (fun _ _ _ h => h) (Or.inl ⟨by rfl, fun w hw => by obtain ⟨z0, z1, z2, z3, z4, z5, z6, z7⟩ := hw; go_simp⟩) hHeld ?_
      simp only [Act.put, List.getElem_toArray, List.getElem_cons_zero, List.getElem_cons_succ, List.setIfInBounds_toArray, List.set_cons_zero, List.set_cons_succ]
      refine wpAnyH_take (i := 10) (v := .bool false) rfl (by kernel_rfl) (by kernel_rfl) (by kernel_rfl) (fun _ _ _ h => h) (Or.inl ⟨by rfl, fun w hw => by obtain ⟨z0, z1, z2, z3, z4, z5, z6, z7⟩ := hw; go_simp⟩) hHeld ?_
      simp only [Act.put, List.getElem_toArray, List.getElem_cons_zero, List.getElem_cons_succ, List.setIfInBounds_toArray, List.set_cons_zero, List.set_cons_succ]
      refine wpAnyH_take (i := 11) (v := .string F) rfl (by kernel_rfl) (by kernel_rfl) (by kernel_rfl) (fun _ _ _ h => h) (Or.inl ⟨by rfl, fun w hw => by obtain ⟨z0, z1, z2, z3, z4, z5, z6, z7⟩ := hw; go_simp⟩) hHeld ?_
      simp only [Act.put, List.getElem_toArray, List.getElem_cons_zero, List.getElem_cons_succ, List.setIfInBounds_toArray, List.set_cons_zero, List.set_cons_succ]
      refine wpAnyH_take (i := 12) (v := .int .i64 (F.size : Int)) rfl (by kernel_rfl) (by kernel_rfl) (by kernel_rfl) (fun _ _ _ h => h) (Or.inl ⟨by rfl, fun w hw => by obtain ⟨z0, z1, z2, z3, z4, z5, z6, z7⟩ := hw; go_simp⟩) hHeld ?_
      simp only [Act.put, List.getElem_toArray, List.getElem_cons_zero, List.getElem_cons_succ, List.setIfInBounds_toArray, List.set_cons_zero, List.set_cons_succ]
      refine wpAnyH_take (i := 13) (v := .bool false) rfl (by kernel_rfl) (by kernel_rfl) (by kernel_rfl) (fun _ _ _ h => h) (Or.inl ⟨by rfl, fun w hw => by obtain ⟨z0, z1, z2, z3, z4, z5, z6, z7⟩ := hw; go_simp⟩) hHeld ?_
      simp only [Act.put, List.getElem_toArray, List.getElem_cons_zero, List.getElem_cons_succ, List.setIfInBounds_toArray, List.set_cons_zero, List.set_cons_succ]
      refine wpAnyH_take (i := 14) (v := .bool false) rfl (by kernel_rfl) (by kernel_rfl) (by kernel_rfl) (fun _ _ _ h => h) (Or.inl ⟨by rfl, fun w hw => by obtain ⟨z0, z1, z2, z3, z4, z5, z6, z7⟩ := hw; go_simp⟩) hHeld ?_
      simp only [Act.put, List.getElem_toArray, List.getElem_cons_zero, List.getElem_cons_succ, List.setIfInBounds_toArray, List.set_cons_zero, List.set_cons_succ]
      refine wpAnyH_take (i := 15) (v := .bool false) rfl (by kernel_rfl) (by kernel_rfl) (by kernel_rfl) (fun _ _ _ h => h) (Or.inl ⟨by rfl, fun w hw => by obtain ⟨z0, z1, z2, z3, z4, z5, z6, z7⟩ := hw; go_simp⟩) hHeld ?_
      simp only [Act.put, List.getElem_toArray, List.getElem_cons_zero, List.getElem_cons_succ, List.setIfInBounds_toArray, List.set_cons_zero, List.set_cons_succ]
      refine wpAnyH_take (i := 16) (v := .string F) rfl (by kernel_rfl) (by kernel_rfl) (by kernel_rfl) (fun _ _ _ h => h) (Or.inl ⟨by rfl, fun w hw => by obtain ⟨z0, z1, z2, z3, z4, z5, z6, z7⟩ := hw; go_simp⟩) hHeld ?_
      simp only [Act.put, List.getElem_toArray, List.getElem_cons_zero, List.getElem_cons_succ, List.setIfInBounds_toArray, List.set_cons_zero, List.set_cons_succ]
      refine wpAnyH_take (i := 17) (v := .int .i64 (wn : Int)) rfl (by kernel_rfl) (by kernel_rfl) (by kernel_rfl) (fun _ _ _ h => h) (Or.inl ⟨by rfl, fun w hw => by obtain ⟨z0, z1, z2, z3, z4, z5, z6, z7⟩ := hw; go_simp⟩) hHeld ?_
      simp only [Act.put, List.getElem_toArray, List.getElem_cons_zero, List.getElem_cons_succ, List.setIfInBounds_toArray, List.set_cons_zero, List.set_cons_succ]
      refine wpAnyH_take (i := 18) (v := .string U) rfl (by kernel_rfl) (by kernel_rfl) (by kernel_rfl) (fun _ _ _ h => h) (Or.inl ⟨by rfl, fun w hw => by obtain ⟨z0, z1, z2, z3, z4, z5, z6, z7⟩ := hw; go_simp⟩) hHeld ?_
      simp only [Act.put, List.getElem_toArray, List.getElem_cons_zero, List.getElem_cons_succ, List.setIfInBounds_toArray, List.set_cons_zero, List.set_cons_succ]
      refine wpAnyH_take (i := 19) (v := .int .i64 (wn : Int)) rfl (by kernel_rfl) (by kernel_rfl) (by kernel_rfl) (fun _ _ _ h => h) (Or.inl ⟨by rfl, fun w hw => by obtain ⟨z0, z1, z2, z3, z4, z5, z6, z7⟩ := hw; go_simp⟩) hHeld ?_
      simp only [Act.put, List.getElem_toArray, List.getElem_cons_zero, List.getElem_cons_succ, List.setIfInBounds_toArray, List.set_cons_zero, List.set_cons_succ]
      refine wpAnyH_take (i := 21) (v := .string F) rfl (by kernel_rfl) (by kernel_rfl) (by kernel_rfl) (fun _ _ _ h => h) (Or.inl ⟨by rfl, fun w hw => by obtain ⟨z0, z1, z2, z3, z4, z5, z6, z7⟩ := hw; go_simp⟩) hHeld ?_
      simp only [Act.put, List.getElem_toArray, List.getElem_cons_zero, List.getElem_cons_succ, List.setIfInBounds_toArray, List.set_cons_zero, List.set_cons_succ]
      refine wpAnyH_take (i := 22) (v := .int .i64 (wn : Int)) rfl (by kernel_rfl) (by kernel_rfl) (by kernel_rfl) (fun _ _ _ h => h) (Or.inl ⟨by rfl, fun w hw => by obtain ⟨z0, z1, z2, z3, z4, z5, z6, z7⟩ := hw; go_simp⟩) hHeld ?_
      simp only [Act.put, List.getElem_toArray, List.getElem_cons_zero, List.getElem_cons_succ, List.setIfInBounds_toArray, List.set_cons_zero, List.set_cons_succ]
      refine wpAnyH_take (i := 23) (v := .string V) rfl (by kernel_rfl) (by kernel_rfl) (by kernel_rfl) (fun _ _ _ h => h) (Or.inl ⟨by rfl, fun w hw => by obtain ⟨z0, z1, z2, z3, z4, z5, z6, z7⟩ := hw; go_simp⟩) hHeld ?_
      simp only [Act.put, List.getElem_toArray, List.getElem_cons_zero, List.getElem_cons_succ, List.setIfInBounds_toArray, List.set_cons_zero, List.set_cons_succ]
      refine wpAnyH_ready (rs := [20]) (by kernel_rfl) (by simp) ?_
      refine AllReadyH.cons rfl (fun K hK => ?_) AllReadyH.nil
      refine step_callG (by kernel_rfl) 11 #[.string U, .int .i64 (wn : Int)] (by go_simp) (HSM.out _) ?_
      rintro e w10 ⟨rfl, hb10⟩
      refine ⟨_, rfl, ?_⟩
      have be10 := (be9.trans ((Below.refl _ _).drew.mono be9.size)).trans (hb10.mono be9.size)
      have rP := rP.drew.below hb10
      have rQ := rQ.drew.below hb10
      clear hb10
      refine hK.out _ _ (⟨rP.cell 0 _ rfl, rP.cell 1 _ rfl, rP.cell 2 _ rfl, rP.cell 3 _ rfl, rQ.cell 0 _ rfl, rQ.cell 1 _ rfl, rQ.cell 2 _ rfl, rQ.cell 3 _ rfl⟩) (fun hHd1 => ?_)
      clear hK K
      try simp only [Act.put, List.getElem_toArray, List.getElem_cons_zero, List.getElem_cons_succ, List.setIfInBounds_toArray, List.set_cons_zero, List.set_cons_succ]
      refine wpAnyH_take (i := 24) (v := .bool false) rfl (by kernel_rfl) (by kernel_rfl) (by kernel_rfl) (fun _ _ _ h => h) (Or.inl ⟨by rfl, fun w hw => by obtain ⟨z0, z1, z2, z3, z4, z5, z6, z7⟩ := hw; go_simp⟩) hHd1 ?_
      simp only [Act.put, List.getElem_toArray, List.getElem_cons_zero, List.getElem_cons_succ, List.setIfInBounds_toArray, List.set_cons_zero, List.set_cons_succ]
      refine wpAnyH_take (i := 25) (v := .bool false) rfl (by kernel_rfl) (by kernel_rfl) (by kernel_rfl) (fun _ _ _ h => h) (Or.inl ⟨by rfl, fun w hw => by obtain ⟨z0, z1, z2, z3, z4, z5, z6, z7⟩ := hw; go_simp⟩) hHd1 ?_
      simp only [Act.put, List.getElem_toArray, List.getElem_cons_zero, List.getElem_cons_succ, List.setIfInBounds_toArray, List.set_cons_zero, List.set_cons_succ]
      refine wpAnyH_done (by kernel_rfl) ?_ _
      go_wp2_with fail
      refine (drp_r a n c _ (HBY.out.below be10) hn hc).mono ?_
      rintro e wa ⟨⟨s2, v2, rfl, hs2⟩, hba⟩
      have bea := be10.trans (hba.mono be10.size)
      have HI := HRP.out s2 v2
      have HS := fun wx => readpage_s_any s2 v2 wx (by omega)
      cases hR : rpRes s2 v2 with
      | none =>
        rw [hR] at HI HS
        clear hR
        simp only [rpV] at HI HS
        have HI := hid HI
        have HS := hid HS
        go_wp2_with fail
        refine (HI.out _ bea).mono ?_
        rintro e wb ⟨rfl, hbb⟩
        have beb := bea.trans (hbb.mono bea.size)
        clear hbb
        have rQ2 := row_new wb #[.int .i64 0, .int .i64 0, .int .i64 0, .string ⟨#[]⟩] 23
        have bec := beb.trans ((below_nw wb (.cells #[.int .i64 0, .int .i64 0, .int .i64 0, .string ⟨#[]⟩] 23)).mono beb.size)
        obtain ⟨Q2, e_Q2⟩ : ∃ x, x = wb.heap.size := ⟨_, rfl⟩
        obtain ⟨wc, e_wc⟩ : ∃ x, x = wb.alloc (.cells #[.int .i64 0, .int .i64 0, .int .i64 0, .string ⟨#[]⟩] 23) := ⟨_, rfl⟩
        rw [← e_wc, ← e_Q2] at rQ2
        rw [← e_wc] at bec
        go_wp2_with fail
        rw [← e_wc, ← e_Q2]
        clear e_wc e_Q2
        refine (HS.out _).mono ?_
        rintro e wd1 ⟨rfl, hbd⟩
        have bed := bec.trans (hbd.mono bec.size)
        have rQ2 := rQ2.below hbd
        clear hbd
        have bee := bed.trans ((below_nw wd1 (.cells #[.int .i64 0, .int .i64 0, .int .i64 0, .string ⟨#[]⟩] 23)).mono bed.size)
        go_wp2
        go_ret
        exact ⟨rfl, bee⟩
      | some xr =>
        obtain ⟨k2, l2, m2, p2⟩ := xr
        obtain ⟨hfo, hp2⟩ := rp_back hR
        have HFO := hid hfo
        clear hfo
        rw [hR] at HI HS
        clear hR
        simp only [rpV] at HI HS
        have HI := hid HI
        have HS := hid HS
        go_wp2_with fail
        refine (HI.out _ bea).mono ?_
        rintro e wb ⟨rfl, hbb⟩
        have beb := bea.trans (hbb.mono bea.size)
        clear hbb
        have rQ2 := row_new wb #[.int .i64 k2, .int .i64 l2, .int .i64 m2, .string p2] 23
        have bec := beb.trans ((below_nw wb (.cells #[.int .i64 k2, .int .i64 l2, .int .i64 m2, .string p2] 23)).mono beb.size)
        obtain ⟨Q2, e_Q2⟩ : ∃ x, x = wb.heap.size := ⟨_, rfl⟩
        obtain ⟨wc, e_wc⟩ : ∃ x, x = wb.alloc (.cells #[.int .i64 k2, .int .i64 l2, .int .i64 m2, .string p2] 23) := ⟨_, rfl⟩
        rw [← e_wc, ← e_Q2] at rQ2
        rw [← e_wc] at bec
        go_wp2_with fail
        rw [← e_wc, ← e_Q2]
        clear e_wc e_Q2
        refine (HS.out _).mono ?_
        rintro e wd1 ⟨rfl, hbd⟩
        have bed := bec.trans (hbd.mono bec.size)
        have rQ2 := rQ2.below hbd
        clear hbd
        have bee := bed.trans ((below_nw wd1 (.cells #[.int .i64 k2, .int .i64 l2, .int .i64 m2, .string p2] 23)).mono bed.size)
        have rQ2 := rQ2.alloc (.cells #[.int .i64 k2, .int .i64 l2, .int .i64 m2, .string p2] 23)
        have y0 := rQ2.cell 0 _ rfl
        have y1 := rQ2.cell 1 _ rfl
        have y2 := rQ2.cell 2 _ rfl
        have y3 := rQ2.cell 3 _ rfl
        have yl := rQ2.lt
        go_wp2_with fail
        refine (form_i_any k2 l2 m2 p2 v2 _ (by omega)).mono ?_
        rw [HFO.out]
        rintro e wf ⟨rfl, hbf⟩
        have bef := bee.trans (hbf.mono bee.size)
        go_wp2
        go_ret
        exact ⟨rfl, bef⟩
  · have hn' : 1048576 < (n : Int) := by omega
    go_enter Tryd.func4, Tryd.ntmps4
    go_wp2
    go_ret
    exact ⟨rfl, Below.refl _ _⟩

set_option maxRecDepth 100000 in
theorem contract (H : Type) (enc : TypeId × Value → H) (W : World) (base : Nat) (args : Array Value) (ds gs : List (DataW H)) (before : List MemPlace)
    (hval : ∀ (j : Nat) t v, Tryd.f4.params[j]? = some t → args[j]? = some v → Value.okWide Tryd.prog W .any base t v)
    (hW : DataW.Whole enc Tryd.prog Tryd.f4.params.toList Rows.fnPagesSpec.vars false W args.toList ds gs before) (hL : laidMetH Tryd.prog Rows.fnPagesRow.laid W) :
    Calls Tryd.prog 4 args W fun e W' => ∃ v, e = .returned v ∧ Rows.fnPagesSpec.post enc Tryd.prog Tryd.f4 false true false false W args v W' := by
  have hW' := hW
  obtain ⟨p, q, hA0, hV0, rfl, hfz, hnd⟩ := hW
  have hA : DataW.TrodAll enc Tryd.prog W 0 (fun _ => true) true Tryd.f4.params.toList args.toList ds p := hA0
  have hV : DataW.TrodVars enc Tryd.prog W (fun _ => true) ["loop.example/kilnstone/impl.errNoPage"] gs q := hV0
  rw [Tryd.params4] at hA hval
  obtain ⟨v0, vs0, d0, ds0, p0, q0, hargs, rfl, rfl, h0, r0⟩ := trodAll_cons hA
  obtain ⟨rfl, rfl, rfl⟩ := trodAll_nil r0
  obtain rfl : args = #[v0] := by cases args; simp_all
  have k0 := h0
  have lt0 : ∀ x ∈ p0, x.block < W.heap.size := by obtain ⟨m, hm⟩ := k0; exact DataW.trod_lt m _ _ _ hm
  obtain ⟨a1, len, cap, rfl⟩ := okWide_slice Tryd.underlying28 (hval 0 28 v0 rfl rfl)
  obtain ⟨fuel0, hf⟩ := h0
  obtain ⟨a0, n0, c0, hv0, hB, hnc, hnm⟩ := bys_of_trod Tryd.underlying28 Tryd.underlying5 (by kernel_rfl) hf
  injection hv0 with e1 e2 e3
  subst e1 e2 e3
  have hV1 := hV
  obtain ⟨g, t, csv, fuel, d, pp, rfl, _⟩ := trodVars_one hV
  clear hA0
  refine (walk _ _ _ W hB hnc hnm hL).mono fun e W' ⟨he, bel⟩ => ?_
  subst he
  exact ⟨_, rfl, _, _, _, [], _, _, hW', trodAll_mk1 (shut_bool Tryd.underlying4 _), (trodAll_cons_mk (Below.trod laidOut (by kernel_rfl) (of_decide_eq_true (by kernel_rfl)) k0 bel lt0) trodAll_mk0), Below.trodVars laidOut bel (by kernel_rfl) hV1, bel.frame _, fun h => by cases h⟩

/-- A world for the witness: the settled one, both variables laid. -/
noncomputable def laidWorld (os : Os) : World :=
  let w0 := World.holding Tryd.prog os ⟨#[.cells #[.string ⟨#[110, 111, 32, 112, 97, 103, 101]⟩] 119], #[], []⟩
  { w0 with heap := (w0.heap.modify 0 fun
      | .cells _ t frozen => .cells #[.iface 84 (.agg #[.pointer (some ⟨2, 40, none⟩)])] t frozen
      | o => o).modify 1 fun
      | .cells _ t frozen => .cells #[.iface 97 (.pointer (some ⟨(begin Tryd.prog (fun _ _ => 0) default).world.heap.size, 0, none⟩))] t frozen
      | o => o }
set_option maxRecDepth 100000 in
theorem laid_met (os : Os) : laidMetH Tryd.prog Rows.fnPagesRow.laid ((laidWorld os).forCall (fun _ _ => 0) ⟨#[], #[.slice none 0 0], []⟩).memory :=
  laidMetH_of_parts (laidMet_of_run' 8 (by kernel_rfl) (by kernel_rfl)) (by kernel_rfl)
set_option maxRecDepth 100000 in
theorem reads (os : Os) {H : Type} (enc : TypeId × Value → H) : ∃ x, DataW.whole enc Tryd.prog ((laidWorld os).forCall (fun _ _ => 0) ⟨#[], #[.slice none 0 0], []⟩).memory Tryd.f4.params.toList Rows.fnPagesSpec.vars false #[Value.slice none 0 0].toList 8 = some x :=
  Option.isSome_iff_exists.1 (by kernel_rfl)

set_option maxRecDepth 100000 in
theorem lifted (os : Os) (started : os.Started) (H : Type) (enc : TypeId × Value → H) (F : Stop.Interp) :
    ReturnsInHanded {} Tryd.checked os 4 .any ((OpenSpec.ofChange Rows.fnPagesSpec).preRow enc Tryd.prog Tryd.f4 Rows.fnPagesRow.domain false Rows.fnPagesRow.laid) (((OpenSpec.ofChange Rows.fnPagesSpec).at F).post enc Tryd.prog Tryd.f4 false true false false) := by
  obtain ⟨x, hx⟩ := reads os enc
  refine returnsInHanded_of_row (C := Tryd.checked) (s := OpenSpec.ofChange Rows.fnPagesSpec) own started (by kernel_rfl) Tryd.func4
    (witness_row_at (enc := enc) (C := Tryd.checked) false (laidWorld os) #[.slice none 0 0] rfl (by kernel_rfl) (by kernel_rfl) (by kernel_rfl)
      (OpenSpec.preRow_of_cond 8 hx (by kernel_rfl) (fun k hk => by cases hk) (by kernel_rfl) (laid_met os))) ?_
  intro W base args ds gs before hval hW _ _ _ hL _ _
  exact contract H enc W base args ds gs before hval hW hL

set_option maxRecDepth 100000 in
theorem said : Rows.FnPagesSaid :=
  OpenClaim.holds_of_cond 4 Tryd.f4 rfl rfl rfl rfl rfl rfl rfl ⟨rfl, rfl, rfl, rfl, rfl⟩ rfl rfl rfl rfl rfl (by kernel_rfl) Tryd.func4 (by kernel_rfl)
    (of_decide_eq_true (by kernel_rfl)) (by unfold Func.isWrapper; first | (rw [if_pos (by decide +kernel)]; kernel_rfl) | (rw [if_neg (by decide +kernel)]; exact ⟨rfl, rfl⟩))
    (fun os started H enc _ F => by rw [OpenClaim.pre_eq_preRow]; exact lifted os started H enc F)

set_option maxRecDepth 100000 in
theorem plain (f : FuncId) (fn : Func) (hf : Tryd.pinned.checked.prog.funcNamed "loop.example/kilnstone/laws.FnPages" = some f) (hfn : Tryd.pinned.checked.prog.funcs[f]? = some fn) :
    true = Tryd.pinned.checked.prog.looks [] ∧ ∀ (j : Nat) t, fn.params[j]? = some t → Tryd.pinned.checked.prog.wantsStandIn t = false := by
  obtain rfl : f = 4 := Option.some.inj ((show Tryd.prog.funcNamed "loop.example/kilnstone/laws.FnPages" = some 4 by kernel_rfl).symm.trans hf) |>.symm
  obtain rfl : fn = Tryd.f4 := (Option.some.inj (Tryd.func4.symm.trans hfn)).symm
  refine ⟨by kernel_rfl, fun j t ht => ?_⟩
  rw [Tryd.params4] at ht
  have hm : t = 28 := by simpa using Array.mem_of_getElem? ht
  subst hm
  exact (show Tryd.prog.wantsStandIn 28 = false by kernel_rfl)

theorem proved : Rows.FnPagesCardSaid :=
  Claim7.holds_tied_plain_at .later [] _ _ _ _ said (fun _ h => by cases h) (by kernel_rfl) (fun _ h => by cases h) fnPages_row_tie rfl ⟨rfl, rfl⟩ (by kernel_rfl) rfl plain (by kernel_rfl)
#print axioms proved
end Go.Proofs.YtnmaknnnmjfhkacDoor.fnPages
