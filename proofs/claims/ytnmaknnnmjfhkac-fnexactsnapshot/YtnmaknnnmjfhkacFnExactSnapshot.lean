import Derived.Test.YtnmaknnnmjfhkacRows
import Derived.Test.YtnmaknnnmjfhkacSsB
import Derived.Test.YtnmaknnnmjfhkacMkP
import Derived.Test.YtnmaknnnmjfhkacStB
import Derived.Test.YtnmaknnnmjfhkacStC
import Derived.WalkKit
import Derived.ProofKit
import Derived.OpenShut
import Derived.ShutString
import Derived.ChangeOld
import Derived.ChangeSlices
import Derived.Below
import Derived.Lib.SmallJoins
namespace Go.Proofs.Ytnmaknnnmjfhkac.fnExactSnapshot
open Go.ChangeShapes Go.WideShapes Go.ChangeAt Go.RowKit Go.Joins
open Go.ChangeMaps (open_string shut_string)
set_option linter.unusedVariables false

theorem own : ownKnob Try.prog.godebug = none := by kernel_rfl
theorem laidOut : laidOutB Try.prog = true := by kernel_rfl

/-- A box of one cell right behind a world, and what was there stands. -/
structure Bx (W w : World) (v0 : Value) : Prop where
  lt : W.heap.size < w.heap.size
  c0 : w.cell? ⟨W.heap.size, 0, none⟩ = some v0
  bel : Below W.heap.size W w
theorem Bx.below {W w w' : World} {v0 : Value} (h : Bx W w v0) (hb : Below w.heap.size w w') : Bx W w' v0 :=
  ⟨Nat.lt_of_lt_of_le h.lt hb.size, (hb.cell (p := ⟨_, 0, none⟩) h.lt).trans h.c0, h.bel.trans (hb.mono (Nat.le_of_lt h.lt))⟩
theorem Bx.drew {W w : World} {v0 : Value} (h : Bx W w v0) : Bx W w.drew v0 := ⟨h.lt, h.c0, h.bel.drew⟩
theorem Bx.new (W : World) (v0 : Value) (t : TypeId) : Bx W (W.alloc (.cells #[v0] t)) v0 :=
  ⟨by simp, by rw [World.cell?_alloc_at _ _ _ _ rfl]; rfl, (Below.refl _ _).alloc (Nat.le_refl _) _⟩

theorem bat_set {w w' : World} {base : Nat} {v : Value} {bss : List (List Ch)} {gx n : Nat} (h : Bat w base v bss) (hg : w.grownBy w' (blk (some ⟨gx, 0, none⟩) n)) (hlt : gx < base) : Bat w' base v bss := h.kept hg (fun k hk => by
  unfold blk at hk
  split at hk
  · cases hk
  · simp at hk; left; omega)
set_option maxHeartbeats 8000000 in
theorem walk (a : Option Addr) (rs : List (ByteArray × ByteArray)) (c : Nat) (w : World) (h : Prs w a rs) (hl : rs.length ≤ maxLen) (hs : ∀ s ∈ rs, s.1.size ≤ maxLen ∧ s.2.size ≤ maxLen) :
    Calls Try.prog 6 #[stV a rs.length c] w fun e w' => e = .returned (.bool true) ∧ Below w.heap.size w w' := by
  have hb0 : ∀ o, Below w.heap.size w (w.alloc o) := fun o => (Below.refl _ _).alloc (Nat.le_refl _) _
  have hbd := szL_bd (rs.length :: rs.flatMap prsz) 1048576 (by omega)
  obtain ⟨R, HR⟩ : ∃ R, Hid (R = szL (rs.length :: rs.flatMap prsz) 1048576) := ⟨_, hid rfl⟩
  rw [← HR.out] at hbd
  have HSZ := hid (fun w' h' => sz_state a rs c w' h' 1048576 (by omega) (by omega) hl hs)
  rw [← HR.out] at HSZ
  by_cases hR : R < 0
  · clear hbd
    go_enter Try.func6, Try.ntmps6
    go_wp2_with (go_at_call 25; refine (HSZ.out _ (h.below (hb0 _))).mono ?_; rintro e w1 ⟨rfl, hb1⟩)
    go_ret
    exact ⟨rfl, (hb0 _).trans (hb1.mono (by simp))⟩
  · have hmem := szL_mem (rs.length :: rs.flatMap prsz) 1048576 (by omega) (by rw [← HR.out]; omega)
    have m1 : rs.length ≤ 1048576 := by have := hmem rs.length (by simp); omega
    have M3 : Hid (∀ x ∈ rs, x.1.size ≤ 1048576 ∧ x.2.size ≤ 1048576) := fun x hx => by
      have h1 := hmem x.1.size (List.mem_cons_of_mem _ (List.mem_flatMap.2 ⟨x, hx, by simp [prsz]⟩))
      have h2 := hmem x.2.size (List.mem_cons_of_mem _ (List.mem_flatMap.2 ⟨x, hx, by simp [prsz]⟩))
      omega
    have hR0 : 0 ≤ R := by omega
    obtain ⟨bss, hbss⟩ : ∃ bss, bss = snapOf rs := ⟨_, rfl⟩
    have hbl := snapOf_len rs
    have HBM : Hid (∀ b ∈ bss, b.length ≤ 20) := fun b hb => by rw [hbss] at hb; exact (snapOf_mem hb).1
    rw [← hbss] at hbl
    have HSP := hid (fun g w' h' => snap_s (some ⟨g, 0, none⟩) rs rs.length w' h' m1 M3.out)
    have HIM := hid (fun g w' h' => snap_i (some ⟨g, 0, none⟩) rs rs.length w' h' (Nat.le_refl _) m1 M3.out)
    rw [← hbss] at HSP HIM
    have HEQ := hid (fun a1 b1 c1 c2 w' h1 h2 => eq_ss a1 b1 bss c1 c2 w' h1 h2 hbl (fun x hx => by have := HBM.out x hx; omega))
    have HTO := hid (fun w' h' => to_state a rs c w' h' m1)
    have HES := hid (fun g g2 w' h1 h2 => eq_state (some ⟨g, 0, none⟩) (some ⟨g2, 0, none⟩) rs rs.length rs.length w' h1 h2 m1)
    have HMS := hid (fun g w' h' => mark_state (some ⟨g, 0, none⟩) rs rs.length 1 w' h' (by omega) (by omega))
    obtain ⟨k1, HK1⟩ : ∃ k1 : Nat, Hid (k1 = 1 + 2 * rs.length) := ⟨_, hid rfl⟩
    rw [← HK1.out] at HMS
    have hk0 : (0 : Int) ≤ (k1 : Int) := by omega
    clear hmem hbd hR hbss
    go_enter Try.func6, Try.ntmps6
    go_wp2_with fail
    refine (HSZ.out _ (h.below (hb0 _))).mono ?_
    rintro e w1 ⟨rfl, hb1⟩
    have hA := (Bx.new w (.slice a rs.length c) 50).below hb1
    clear hb1 HSZ
    have q0 := hA.c0
    have q1 := hA.lt
    have HA := hid hA
    clear hA
    go_wp2_with fail
    refine (HTO.out _ (h.below HA.out.bel)).mono ?_
    rintro e w2 ⟨g1, rfl, _, hr, hb⟩
    have HA2 := hid (HA.out.below hb)
    have HS := hid hr.prs
    clear hr hb q0 q1 HA
    go_wp2_with fail
    refine (HSP.out _ _ HS.out).mono ?_
    rintro e w3 ⟨v0, rfl, hbat, hb⟩
    have HA3 := hid (HA2.out.below hb)
    obtain ⟨az, cz, rfl, hbt⟩ := hbat.bts
    have HZ : Hid (∀ w', Below w3.heap.size w3 w' → Bts w' az bss) := hid (fun w' hb => hbt.below hb)
    clear hbat hb hbt HA2 HS HSP
    have q0 := HA3.out.c0
    have q1 := HA3.out.lt
    go_wp2_with fail
    refine (HTO.out _ (h.below HA3.out.bel)).mono ?_
    rintro e w4 ⟨gx, rfl, hgx, hr, hb⟩
    have hs4 := hb.size
    have hgxl := hr.lt
    have HE4 := hid hb
    have HRX := hid hr
    clear hr hb q0 q1
    have hbn : Below w4.heap.size w4 (w4.alloc (.cells #[.slice (some ⟨gx, 0, none⟩) rs.length rs.length] 56)) := (Below.refl _ _).alloc (Nat.le_refl _) _
    have HRX5 := hid (HRX.out.below hbn)
    have HE5 := hid (HE4.out.trans (hbn.mono HE4.out.size))
    clear hbn HRX HE4
    go_wp2_with fail
    refine (HIM.out _ _ HRX5.out.prs).mono ?_
    rintro e w5 ⟨vg, rfl, hbat, hb⟩
    simp only [World.size_alloc] at hbat
    have HY5 := hid ((Bx.new w4 (.slice (some ⟨gx, 0, none⟩) rs.length rs.length) 56).below hb)
    have HRX6 := hid (HRX5.out.below hb)
    have HE6 := hid (HE5.out.trans (hb.mono HE5.out.size))
    obtain ⟨ag, cg, rfl, _⟩ := hbat.bts
    have HG := hid hbat
    clear hbat hb HRX5 HE5
    go_wp2_with fail
    obtain ⟨_, _, hv, hgt⟩ := HG.out.bts
    cases hv
    refine (HEQ.out _ _ _ _ _ hgt (HZ.out _ HE6.out)).mono ?_
    rintro e w6 ⟨rfl, hb⟩
    clear hgt
    have HE7 := hid (HE6.out.trans (hb.mono HE6.out.size))
    have HY7 := hid (HY5.out.below hb)
    have HRX7 := hid (HRX6.out.below hb)
    have HG7 := hid (HG.out.below hb)
    clear hb HE6 HY5 HRX6 HG
    have HA7 := hid (HA3.out.below HE7.out)
    go_wp2_with fail
    go_region_held3 (fun w' => w'.cell? ⟨w.heap.size, 0, none⟩ = some (.slice a rs.length c) ∧ w'.cell? ⟨w4.heap.size, 0, none⟩ = some (.slice (some ⟨gx, 0, none⟩) rs.length rs.length))
      (first | assumption | exact ⟨HA7.out.drew.c0, HY7.out.drew.c0⟩ | exact ⟨(HA7.out.drew.below hb7).c0, (HY7.out.drew.below hb7).c0⟩ | exact ⟨((HA7.out.drew.below hb7).below hb8).c0, ((HY7.out.drew.below hb7).below hb8).c0⟩)
      (first | (go_at_call 27; refine (HTO.out _ (h.below HA7.out.bel.drew)).mono ?_; rintro e w7 ⟨g2, rfl, _, hr7, hb7⟩) | (go_at_call 30; refine (HES.out _ _ _ (HRX7.out.prs.below ((Below.refl _ _).drew.trans hb7)) hr7.prs).mono ?_; rintro e w8 ⟨rfl, hb8⟩))
    have hb : Below w6.heap.size w6 w8 := ((Below.refl _ _).drew).trans ((hb7.trans (hb8.mono hb7.size)).mono (Nat.le_refl _))
    clear hb7 hb8 hr7 HA7 HES
    have HE8 := hid (HE7.out.trans (hb.mono HE7.out.size))
    have HY8 := hid (HY7.out.below hb)
    have HRX8 := hid (HRX7.out.below hb)
    have HG8 := hid (HG7.out.below hb)
    clear hb HE7 HY7 HRX7 HG7
    have q0 := HY8.out.c0
    have q1 := HY8.out.lt
    go_wp2_with fail
    refine (HMS.out _ _ (.inr ⟨gx, rfl, HRX8.out⟩)).mono ?_
    rintro e w9 ⟨rfl, hg, _⟩
    have hgr : ∀ k, blk (some ⟨gx, 0, none⟩) rs.length = some k → w3.heap.size ≤ k := fun k hk => by unfold blk at hk; split at hk; cases hk; simp at hk; omega
    have HG9 := hid (bat_set HG8.out hg (by omega))
    have HE9 := hid (HE8.out.trans (grown_below hg HE8.out.size hgr))
    have hs9 : w4.heap.size + 1 ≤ w9.heap.size := Nat.le_trans HY8.out.lt hg.size
    clear hg hgr q0 q1 HE8 HY8 HRX8 HG8 HMS
    go_wp2_with fail
    obtain ⟨_, _, hv, hgt⟩ := HG9.out.bts
    cases hv
    refine (HEQ.out _ _ _ _ _ hgt (HZ.out _ HE9.out)).mono ?_
    rintro e w10 ⟨rfl, hb⟩
    clear hgt
    have HE10 := hid (HE9.out.trans (hb.mono HE9.out.size))
    have HG10 := hid (HG9.out.below hb)
    have hs10 : w4.heap.size + 1 ≤ w10.heap.size := Nat.le_trans hs9 hb.size
    clear hb HE9 HG9
    obtain ⟨M, hM⟩ := mark_bat HG10.out hbl HBM.out hs10
    have HM := hid hM
    clear hM
    have hM0 : (0 : Int) ≤ (M : Int) := by omega
    go_wp2_with fail
    refine HM.out.mono ?_
    rintro e w11 ⟨rfl, hbm, hb⟩
    have HBmm := hid hbm
    have HE11 := hid (HE10.out.trans (hb.mono (by omega)))
    clear hbm hb HM HE10 HG10
    go_wp2_with fail
    refine (HBmm.out.held _ (Below.refl _ _)).mono ?_
    rintro e w12 ⟨rfl, hb⟩
    have HB12 := hid (HBmm.out.below hb)
    have HE12 := hid (HE11.out.trans (hb.mono HE11.out.size))
    clear hb HE11 HBmm
    have HA12 := hid (HA3.out.below HE12.out)
    have q0 := HA12.out.c0
    have q1 := HA12.out.lt
    go_wp2_with fail
    refine (HTO.out _ (h.below HA12.out.bel)).mono ?_
    rintro e w13 ⟨g5, rfl, _, hr, hb⟩
    have HS := hid hr.prs
    have HB13 := hid (HB12.out.below hb)
    have HE13 := hid (HE12.out.trans (hb.mono HE12.out.size))
    clear hr hb q0 q1 HB12 HE12 HA12
    go_wp2_with fail
    refine (HIM.out _ _ HS.out).mono ?_
    rintro e w14 ⟨vh, rfl, hbat, hb⟩
    obtain ⟨ah, ch, rfl, hht⟩ := hbat.bts
    have HHT := hid hht
    have HB14 := hid (HB13.out.below hb)
    have HE14 := hid (HE13.out.trans (hb.mono HE13.out.size))
    clear hbat hb hht HB13 HE13 HS
    go_wp2_with fail
    refine (HEQ.out _ _ _ _ _ HHT.out (HZ.out _ HE14.out)).mono ?_
    rintro e w15 ⟨rfl, hb⟩
    have HB15 := hid (HB14.out.below hb)
    have HE15 := hid (HE14.out.trans (hb.mono HE14.out.size))
    clear hb HB14 HE14 HHT
    go_wp2_with fail
    refine (HB15.out.held _ (Below.refl _ _)).mono ?_
    rintro e w16 ⟨rfl, hb⟩
    have HE16 := hid (HE15.out.trans (hb.mono HE15.out.size))
    clear hb HB15 HE15
    go_wp2
    go_ret
    exact ⟨rfl, (HA3.out.below HE16.out).bel⟩

theorem cells2 : Try.prog.cellsOf 153 = 2 := by kernel_rfl
theorem cellsS : Try.prog.cellsOf 50 = 1 := by kernel_rfl
set_option maxRecDepth 100000 in
theorem lifted (os : Os) (started : os.Started) (H : Type) (enc : TypeId × Value → H) :
    ReturnsInHanded {} Try.checked os 6 .any (Rows.fnExactSnapshotSpec.pre6 enc Try.prog Try.f6 Rows.fnExactSnapshotRow.domain false) (Rows.fnExactSnapshotSpec.post enc Try.prog Try.f6 false true false false) := by
  refine returnsInHanded_of_change (C := Try.checked) own started (by kernel_rfl) Try.func6
    (ChangeSpec.witness6 (enc := enc) (C := Try.checked) false ⟨#[], #[.agg #[.slice none 0 0]], []⟩ 8 (by kernel_rfl) (by kernel_rfl) (by kernel_rfl) (by kernel_rfl)) ?_
  intro W base args ds gs before hval0 hW hcnd _
  have hval : ∀ (j : Nat) t v, Try.f6.params[j]? = some t → args[j]? = some v → Value.okWide Try.prog W .any base t v := hval0
  have hW' := hW
  obtain ⟨p, q, hA0, hV, rfl, hfz, hnd⟩ := hW
  have hA : DataW.TrodAll enc Try.prog W 0 (fun _ => true) true Try.f6.params.toList args.toList ds p := hA0
  rw [Try.params6] at hA hval
  obtain ⟨v0, vs0, d0, ds0, p0, q0, hargs, rfl, rfl, h0, r0⟩ := trodAll_cons hA
  obtain ⟨rfl, rfl, rfl⟩ := trodAll_nil r0
  obtain rfl : args = #[v0] := by cases args; simp_all
  obtain ⟨rfl, rfl⟩ := trodVars_none hV
  have k0 := h0
  have lt0 : ∀ x ∈ p0, x.block < W.heap.size := by obtain ⟨m, hm⟩ := k0; exact DataW.trod_lt m _ _ _ hm
  obtain ⟨c0, y0, mm, rfl, hy0⟩ := open_agg1' Try.underlying50 rfl (by kernel_rfl) cellsS (hval 0 50 v0 rfl rfl) h0
  obtain ⟨a, rs, c, rfl, hS, hl, hs⟩ := prs_of_trod Try.underlying48 Try.underlying153 cells2 rfl rfl (by kernel_rfl) (by kernel_rfl) Try.underlying9 Try.underlying9 hy0
  clear hA0 hval0
  refine (walk a rs c W hS hl hs).mono fun e W' ⟨he, bel⟩ => ?_
  subst he
  exact ⟨_, rfl, _, _, _, [], _, [], hW', trodAll_mk1 (shut_bool Try.underlying4 _), (trodAll_cons_mk (Below.trod laidOut (by kernel_rfl) (of_decide_eq_true (by kernel_rfl)) k0 bel lt0) trodAll_mk0), rfl, bel.frame _, fun h => by cases h⟩

theorem over : Rows.fnExactSnapshotRow.holds Try.pinned (OpenSpec.ofChange Rows.fnExactSnapshotSpec) :=
  OpenClaim.holds_of_wide 6 Try.f6 rfl rfl rfl rfl rfl rfl rfl ⟨rfl, rfl, rfl, rfl, rfl⟩ rfl rfl rfl rfl rfl (by kernel_rfl) Try.func6 (by kernel_rfl)
    (of_decide_eq_true (by kernel_rfl)) (by unfold Func.isWrapper; first | (rw [if_pos (by decide +kernel)]; kernel_rfl) | (rw [if_neg (by decide +kernel)]; exact ⟨rfl, rfl⟩))
    (fun os started H enc _ => lifted os started H enc)

theorem proved : Rows.FnExactSnapshotSaid := over
#print axioms proved
end Go.Proofs.Ytnmaknnnmjfhkac.fnExactSnapshot
