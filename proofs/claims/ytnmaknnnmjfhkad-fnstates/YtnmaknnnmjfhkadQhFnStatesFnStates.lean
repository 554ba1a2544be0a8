import Derived.Test.YtnmaknnnmjfhkadRows
import Derived.Test.YtnmaknnnmjfhkadAnD
import Derived.Test.YtnmaknnnmjfhkadMhFnStates2
import Derived.Test.YtnmaknnnmjfhkadApT
import Derived.Test.YtnmaknnnmjfhkadMhFnStates3
import Derived.Test.YtnmaknnnmjfhkadMhFnStates5
import Derived.Test.YtnmaknnnmjfhkadGtI
import Derived.Test.YtnmaknnnmjfhkadMhFnStates4
import Derived.Test.YtnmaknnnmjfhkadMhFnStates6
import Derived.WalkKit
import Derived.ProofKit
import Derived.OpenShut
import Derived.ShutString
import Derived.ChangeOld
import Derived.Below
import Derived.BigQuiet
import Derived.Deep.QuietTactic
import Derived.Deep.Cut
import Derived.Deep.CutRange
namespace Go.Proofs.Ytnmaknnnmjfhkad.fnStates
open Go.ChangeShapes Go.WideShapes Go.ChangeAt Go.RowKit
open Go.ChangeMaps (open_string shut_string)
set_option linter.unusedVariables false
set_option linter.unusedSimpArgs false
set_option maxRecDepth 8000

theorem own : ownKnob Try.prog.godebug = none := by kernel_rfl
theorem laidOut : laidOutB Try.prog = true := by kernel_rfl
theorem prs_ownS {w : World} {a : Option Addr} {rs : List Pr} (h : OwnS w a (prcells rs)) : Prs w a rs := h.prsA
theorem snap_at {X : List Pr} (h : stateOk X = true) : (snapOf X).length = (X.length + 19) / 20 ∧ ∀ k, k < (snapOf X).length → (snapOf X).getD k [] = chunkAt X k := by
  have e : snapOf X = (List.range ((X.length + 19) / 20)).map (chunkAt X) := by unfold snapOf; rw [if_pos h, snapU_all]
  rw [e]
  refine ⟨by simp, fun k hk => ?_⟩
  simp at hk
  simp [List.getD, hk]
theorem room_step (bss : List (List Ch)) (k : Nat) (h : k < bss.length) (n : Int) : roomOf (bss.take (k + 1)) n = roomOf (bss.take k) n + npages (bOut (bss.getD k [])).size n := by
  rw [takeR_snoc bss k [] h, roomOf_snoc]
theorem psz {rs : List Pr} (h : psLe rs 64000 64000) : ∀ x ∈ rs, x.1.size ≤ 1048576 ∧ x.2.size ≤ 1048576 := fun x hx => by have := h x hx; omega
theorem csz {rs : List (ByteArray × ByteArray × Bool)} (h : chsLe rs 64000 64000) : ∀ x ∈ rs, x.1.size ≤ 1048576 ∧ x.2.1.size ≤ 1048576 := fun x hx => by have := h x hx; omega
set_option maxHeartbeats 64000000 in
theorem walk (a : Option Addr) (n c : Nat) (w : World) (h : Bys w a n) (hc : n ≤ c) (hm : n ≤ maxLen) :
    Calls Try.prog 3 #[.slice a n c] w fun e w' => e = .returned (.bool true) ∧ Below w.heap.size w w' := by
  unfold maxLen at hm
  by_cases hn : n ≤ 1048576
  · have hn' : ¬ (1048576 < (n : Int)) := by omega
    go_enter Try.func3, Try.ntmps3
    go_wp2_with fail
    refine (das_r a n c _ h hn hc).mono ?_
    rintro e w1 ⟨⟨ya, yc, rs, ba, bc, b, rfl, hpr, hch, hrl, hps, hbl, hbs⟩, be1⟩
    have rS := row_new w1 #[.slice ya rs.length yc] 25
    have hpr := hpr.below (below_nw w1 (.cells #[.slice ya rs.length yc] 25))
    have hch := hch.below (below_nw w1 (.cells #[.slice ya rs.length yc] 25))
    have be2 := be1.trans ((below_nw w1 (.cells #[.slice ya rs.length yc] 25)).mono be1.size)
    have s0 := rS.cell 0 _ rfl
    have s1 := rS.lt
    go_wp2_with fail
    obtain ⟨w2, e_w2⟩ : ∃ z, z = w1.alloc (.cells #[.slice ya rs.length yc] 25) := ⟨_, rfl⟩
    obtain ⟨SBk, e_S⟩ : ∃ z, z = w1.heap.size := ⟨_, rfl⟩
    rw [← e_w2] at rS hpr hch be2
    rw [← e_S] at rS
    rw [← e_w2, ← e_S]
    clear e_w2 e_S s0 s1
    refine (apply_i ya rs yc ba b bc _ hpr (by omega) (psz hps) hch (by omega) (csz hbs)).mono ?_
    rintro e w3 ⟨a3, c3, rfl, hc3, ho3, hg3, hb3⟩
    have rS := (rS.below hb3).alloc (.cells #[.slice a3 (apR rs b).length c3] 25)
    have rX := row_new w3 #[.slice a3 (apR rs b).length c3] 25
    have hb34 := hb3.trans ((below_nw w3 (.cells #[.slice a3 (apR rs b).length c3] 25)).mono hb3.size)
    have hpr := hpr.below hb34
    have hch := hch.below hb34
    have hpX := ho3.prsA.below (below_nw w3 (.cells #[.slice a3 (apR rs b).length c3] 25))
    have be4 := be2.trans (hb34.mono be2.size)
    have s0 := rS.cell 0 _ rfl
    have s1 := rS.lt
    clear ho3 hg3 hb3 hb34
    go_wp2_with fail
    obtain ⟨w4, e_w4⟩ : ∃ z, z = w3.alloc (.cells #[.slice a3 (apR rs b).length c3] 25) := ⟨_, rfl⟩
    obtain ⟨XB, e_X⟩ : ∃ z, z = w3.heap.size := ⟨_, rfl⟩
    rw [← e_w4] at rS rX hpr hch hpX be4
    rw [← e_X] at rX
    rw [← e_w4, ← e_X]
    clear e_w4 e_X s0 s1
    refine (apply_s ya rs yc ba b bc _ hpr (by omega) (psz hps) hch (by omega) (csz hbs)).mono ?_
    rintro e w5 ⟨a5, c5, rfl, hc5, ho5, hg5, hb5⟩
    have hb56 := hb5.trans ((below_nw w5 (.cells #[.slice a5 (apR rs b).length c5] 25)).mono hb5.size)
    have rX := rX.below hb56
    have rW := row_new w5 #[.slice a5 (apR rs b).length c5] 25
    have hpX := hpX.below hb56
    have hpW := ho5.prsA.below (below_nw w5 (.cells #[.slice a5 (apR rs b).length c5] 25))
    have hch := hch.below hb56
    have be6 := be4.trans (hb56.mono be4.size)
    have x0 := rX.cell 0 _ rfl
    have x1 := rX.lt
    have wl0 := rW.cell 0 _ rfl
    have wl1 := rW.lt
    clear ho5 hg5 hb5 hb56 hpr rS
    have hXl : (apR rs b).length ≤ 102 + 21 := by
      unfold apR
      split
      · have := apU_len rs b b.length
        rw [List.take_length] at this
        omega
      · simp
    have HEQ := hid (fun wx h1 h2 => wstate_eq a3 a5 (apR rs b) c3 c5 wx h1 h2 (by omega))
    cases hcode : decide (apC rs b = 0) with
    | false =>
      have hc0 : ¬ apC rs b = 0 := of_decide_eq_false hcode
      have hcb : (apC rs b == 0) = false := by simp [hc0]
      have hX0 : apR rs b = [] := by unfold apR; rw [if_neg hc0]
      have hXl0 : ((apR rs b).length : Int) = 0 := by rw [hX0]; rfl
      have HX0 := hid hX0
      clear hX0 hcode
      obtain ⟨cd, e_cd⟩ : ∃ z, z = apC rs b := ⟨_, rfl⟩
      obtain ⟨X, e_X⟩ : ∃ z, z = apR rs b := ⟨_, rfl⟩
      rw [← e_X] at rX rW hpX hpW be6 hch x0 wl0 HEQ hXl0 HX0 hXl ⊢
      rw [← e_cd] at hc0 hcb ⊢
      clear e_cd e_X
      go_wp2_with fail
      have HDX := hid (And.intro rX (And.intro rW (And.intro hpX (And.intro hpW be6))))
      obtain ⟨w6, e_w6⟩ : ∃ z, z = w5.alloc (.cells #[.slice a5 X.length c5] 25) := ⟨_, rfl⟩
      rw [← e_w6] at HDX
      rw [← e_w6]
      clear e_w6 rX rW hpX hpW be6 x0 x1 wl0 wl1 hch
      refine (HEQ.out _ HDX.out.2.2.1 HDX.out.2.2.2.1).mono ?_
      rintro e w7 ⟨rfl, hb7⟩
      have rX := HDX.out.1.below hb7
      have x0 := rX.cell 0 _ rfl
      have x1 := rX.lt
      have be7 := HDX.out.2.2.2.2.trans (hb7.mono HDX.out.2.2.2.2.size)
      go_wp2
      go_ret
      exact ⟨rfl, be7⟩
    | true =>
      have hc0 : apC rs b = 0 := of_decide_eq_true hcode
      have hokX := apR_ok rs b hc0
      obtain ⟨hokS, hokB, _⟩ := apC_zero hc0
      have HLK := hid (fun j hj hl => look_apU rs (asc_of hokS) (ByteArray.empty, ByteArray.empty, false) b.length b rfl j hj hl)
      have hXU : apR rs b = apU rs b := by unfold apR; rw [if_pos hc0]
      rw [← hXU] at HLK
      rw [hc0]
      obtain ⟨X, e_X⟩ : ∃ z, z = apR rs b := ⟨_, rfl⟩
      rw [← e_X] at rX rW hpX hpW be6 hch x0 wl0 HEQ hXl HLK hokX hc3 ⊢
      clear e_X hXU hc0 hcode
      have hX100 : X.length ≤ 100 := ((stateOk_iff X).1 hokX).1
      have hpsX := psLe_ok hokX
      go_wp2_with fail
      obtain ⟨w6, e_w6⟩ : ∃ z, z = w5.alloc (.cells #[.slice a5 X.length c5] 25) := ⟨_, rfl⟩
      obtain ⟨WB, e_W⟩ : ∃ z, z = w5.heap.size := ⟨_, rfl⟩
      rw [← e_w6] at rX rW hpX hpW be6 hch
      rw [← e_W] at rW
      rw [← e_w6, ← e_W]
      clear e_w6 e_W x0 x1 wl0 wl1
      refine (HEQ.out _ hpX hpW).mono ?_
      rintro e w7 ⟨rfl, hb7⟩
      have rX := rX.below hb7
      have rW := rW.below hb7
      have hpX := hpX.below hb7
      have hpW := hpW.below hb7
      have hch := hch.below hb7
      have be7 := be6.trans (hb7.mono be6.size)
      clear hb7 be6
      go_wp2
      go_loopw [9, 10, 11, 12, 13] (fun iv _ _ _ _ wr => ∃ (i : Nat) (W : World), W = wr ∧ iv = .int .i64 (i : Int) ∧ i ≤ b.length ∧ Below w7.heap.size w7 W) (fun iv _ _ _ _ _ => b.length - (intOf iv).toNat)
      case atStart => exact ⟨0, _, rfl, rfl, Nat.zero_le _, Below.refl _ _⟩
      case round =>
        obtain ⟨i, wr, rfl, rfl, hi, hbel⟩ := hrel
        by_cases hlt : i < b.length
        · have hlti : (i : Int) < (b.length : Int) := by omega
          have hi0 : (0 : Int) ≤ (i : Int) := by omega
          have hiw : IntKind.i64.wrap ((i : Int) + 1) = (i : Int) + 1 := wrap_i64_id _ (by omega) (by omega)
          obtain ⟨bb, oo, k0, v0, g0, e_ba, _, _, _, HS0⟩ := hch.at hlt
          subst e_ba
          go_wp2
          go_loopw [10, 11] (fun lv kv wq => ∃ (l k : Nat) (W : World), W = wq ∧ lv = .int .i64 (l : Int) ∧ kv = .int .i64 (k : Int) ∧ i ≤ k ∧ k ≤ b.length ∧ i ≤ l ∧ l < b.length ∧ Hid ((b.getD l (ByteArray.empty, ByteArray.empty, false)).1 = k0 ∧ ∀ j, l < j → j < k → (b.getD j (ByteArray.empty, ByteArray.empty, false)).1 ≠ k0) ∧ Below wr.heap.size wr W) (fun _ kv _ => b.length - (intOf kv).toNat)
          case atStart => exact ⟨i, i, _, rfl, rfl, rfl, Nat.le_refl _, hi, Nat.le_refl _, hlt, ⟨(congrArg Prod.fst HS0.out).symm, fun j h1 h2 => absurd h1 (by omega)⟩, Below.refl _ _⟩
          case round =>
            obtain ⟨l, k, wq, rfl, rfl, rfl, hik, hkb, hil, hlb, HLL, hbq⟩ := hrel
            have hchq := (hch.below hbel).below hbq
            obtain ⟨b2, o2, k0', v0', g0', e2, ci0, _, _, HSi⟩ := hchq.at hlt
            cases e2
            obtain ⟨rfl, rfl, rfl⟩ : k0 = k0' ∧ v0 = v0' ∧ g0 = g0' := by have := HS0.out.trans HSi.out.symm; simpa using this
            clear HSi
            by_cases hkl : k < b.length
            · have hkli : (k : Int) < (b.length : Int) := by omega
              have hk0 : (0 : Int) ≤ (k : Int) := by omega
              have hkw : IntKind.i64.wrap ((k : Int) + 1) = (k : Int) + 1 := wrap_i64_id _ (by omega) (by omega)
              obtain ⟨b3, o3, k1, v1, g1, e3, ck0, _, _, HSk⟩ := hchq.at hkl
              cases e3
              by_cases heq : k1 = k0
              · subst heq
                have HL2 : Hid ((b.getD k (ByteArray.empty, ByteArray.empty, false)).1 = k1 ∧ ∀ j, k < j → j < k + 1 → (b.getD j (ByteArray.empty, ByteArray.empty, false)).1 ≠ k1) := ⟨(congrArg Prod.fst HSk.out).symm, fun j h1 h2 => absurd h1 (by omega)⟩
                clear HSk
                go_wp2_with fail
                go_quiet (fail)
                have hbq2 := below_drewN hbq nq
                go_wp2
                exact ⟨⟨k, k + 1, _, rfl, rfl, by simp, by omega, by omega, hik, hkl, HL2.out, hbq2⟩, by simp [intOf]; omega⟩
              · have hne : (k1.toList == k0.toList) = false := by simp only [beq_eq_false_iff_ne]; intro hh; rw [ByteArray.toList_eq, ByteArray.toList_eq] at hh; exact heq (ByteArray.ext (Array.ext' hh))
                have HL2 : Hid ((b.getD l (ByteArray.empty, ByteArray.empty, false)).1 = k0 ∧ ∀ j, l < j → j < k + 1 → (b.getD j (ByteArray.empty, ByteArray.empty, false)).1 ≠ k0) := ⟨HLL.out.1, fun j h1 h2 => by
                  by_cases hj : j = k
                  · subst hj
                    have := congrArg Prod.fst HSk.out
                    exact fun e => heq (this.trans e)
                  · exact HLL.out.2 j h1 (by omega)⟩
                clear HSk
                go_wp2_with fail
                go_quiet (fail)
                have hbq2 := below_drewN hbq nq
                go_wp2
                exact ⟨⟨l, k + 1, _, rfl, rfl, by simp, by omega, by omega, hil, hlb, HL2.out, hbq2⟩, by simp [intOf]; omega⟩
            · have hkk : k = b.length := by omega
              have hlk := HLK.out l hlb (fun j h1 h2 => by rw [HLL.out.1]; exact HLL.out.2 j h1 (by omega))
              rw [HLL.out.1] at hlk
              have hlbi : (l : Int) < (b.length : Int) := by omega
              have hl0 : (0 : Int) ≤ (l : Int) := by omega
              have hkli : ¬ ((k : Int) < (b.length : Int)) := by omega
              obtain ⟨b3, o3, k1, v1, g1, e3, cl0, cl1, cl2, HSl⟩ := hchq.at hlb
              cases e3
              rw [← HSl.out] at hlk
              simp only at hlk
              have hres : gRes X k0 = if g1 = true then none else some v1 := (gRes_look k0 hokX).trans hlk
              have hbw := hbel.trans (hbq.mono hbel.size)
              have rXq := rX.below hbw
              have x0 := rXq.cell 0 _ rfl
              have x1 := rXq.lt
              have HG := hid (fun wx (hb : Below wq.heap.size wq wx) => get_i a3 X c3 k0 wx ((hpX.below hbw).below hb) (by omega) (psz hpsX))
              have HCL := hid (fun wx (hb : Below wq.heap.size wq wx) => (hchq.below hb).at hlb)
              rw [hres] at HG
              have hbbl : bb < wq.heap.size := lt_of_cell cl0
              clear hlk hres HLL
              go_wp2_with fail
              refine wp_region_held_drew (S := fun w' => w'.cell? ⟨XB, 0, none⟩ = some (.slice a3 X.length c3) ∧ w'.cell? ⟨bb, oo + i * 3, none⟩ = some (.string k0)) (by kernel_rfl) (⟨rXq.drew.cell 0 _ rfl, ci0⟩) (fun hHeld => ?_)
              refine wpAnyH_take (i := 0) (v := .agg #[.slice a3 X.length c3]) rfl (by kernel_rfl) (by kernel_rfl) (by kernel_rfl) (fun _ _ _ h => h) (Or.inl ⟨by rfl, fun w hw => by obtain ⟨z0, z1⟩ := hw; go_simp⟩) hHeld ?_
              simp only [Act.put, List.getElem_toArray, List.getElem_cons_zero, List.getElem_cons_succ, List.setIfInBounds_toArray, List.set_cons_zero, List.set_cons_succ]
              refine wpAnyH_take (i := 1) (v := .slice (some ⟨bb, oo, none⟩) b.length bc) rfl (by kernel_rfl) (by kernel_rfl) (by kernel_rfl) (fun _ _ _ h => h) (Or.inl ⟨by rfl, fun w hw => by obtain ⟨z0, z1⟩ := hw; go_simp⟩) hHeld ?_
              simp only [Act.put, List.getElem_toArray, List.getElem_cons_zero, List.getElem_cons_succ, List.setIfInBounds_toArray, List.set_cons_zero, List.set_cons_succ]
              refine wpAnyH_take (i := 2) (v := .int .i64 (i : Int)) rfl (by kernel_rfl) (by kernel_rfl) (by kernel_rfl) (fun _ _ _ h => h) (Or.inl ⟨by rfl, fun w hw => by obtain ⟨z0, z1⟩ := hw; go_simp⟩) hHeld ?_
              simp only [Act.put, List.getElem_toArray, List.getElem_cons_zero, List.getElem_cons_succ, List.setIfInBounds_toArray, List.set_cons_zero, List.set_cons_succ]
              refine wpAnyH_take (i := 3) (v := .pointer (some ⟨bb, oo + i * 3, none⟩)) rfl (by kernel_rfl) (by kernel_rfl) (by kernel_rfl) (fun _ _ _ h => h) (Or.inl ⟨by rfl, fun w hw => by obtain ⟨z0, z1⟩ := hw; go_simp⟩) hHeld ?_
              simp only [Act.put, List.getElem_toArray, List.getElem_cons_zero, List.getElem_cons_succ, List.setIfInBounds_toArray, List.set_cons_zero, List.set_cons_succ]
              refine wpAnyH_take (i := 4) (v := .pointer (some ⟨bb, oo + i * 3, none⟩)) rfl (by kernel_rfl) (by kernel_rfl) (by kernel_rfl) (fun _ _ _ h => h) (Or.inl ⟨by rfl, fun w hw => by obtain ⟨z0, z1⟩ := hw; go_simp⟩) hHeld ?_
              simp only [Act.put, List.getElem_toArray, List.getElem_cons_zero, List.getElem_cons_succ, List.setIfInBounds_toArray, List.set_cons_zero, List.set_cons_succ]
              refine wpAnyH_take (i := 5) (v := .string k0) rfl (by kernel_rfl) (by kernel_rfl) (by kernel_rfl) (fun _ _ _ h => h) (Or.inl ⟨by rfl, fun w hw => by obtain ⟨z0, z1⟩ := hw; go_simp⟩) hHeld ?_
              simp only [Act.put, List.getElem_toArray, List.getElem_cons_zero, List.getElem_cons_succ, List.setIfInBounds_toArray, List.set_cons_zero, List.set_cons_succ]
              refine wpAnyH_ready (rs := [6]) (by kernel_rfl) (by simp) ?_
              refine AllReadyH.cons rfl (fun K hK => ?_) AllReadyH.nil
              obtain ⟨gv, gb, HGV, HGR⟩ : ∃ gv gb, Hid (gb = !g1 ∧ (g1 = false → gv = v1)) ∧ Hid (∀ wx, Below wq.heap.size wq wx → Calls Try.prog 13 #[.agg #[.slice a3 X.length c3], .string k0] wx fun e w' => e = .returned (.tuple #[.string gv, .bool gb]) ∧ Below wx.heap.size wx w') := by
                cases g1 with
                | true => exact ⟨_, _, ⟨rfl, fun h => by cases h⟩, fun wx hb => HG.out wx hb⟩
                | false => exact ⟨_, _, ⟨rfl, fun _ => rfl⟩, fun wx hb => HG.out wx hb⟩
              refine step_call (by rfl) 13 #[.agg #[.slice a3 X.length c3], .string k0] (by go_simp) (HGR.out _ (Below.refl _ _).drew) ?_
              rintro e w8 ⟨rfl, hb8⟩
              refine ⟨_, rfl, ?_⟩
              have hbq8 : Below wq.heap.size wq w8 := (Below.refl _ _).drew.trans hb8
              clear hb8 HGR HG
              refine hK.out _ _ (⟨(rXq.below hbq8).cell 0 _ rfl, (hbq8.cell (p := ⟨bb, oo + i * 3, none⟩) hbbl).trans ci0⟩) (fun hHd1 => ?_)
              clear hK K
              try simp only [Act.put, List.getElem_toArray, List.getElem_cons_zero, List.getElem_cons_succ, List.setIfInBounds_toArray, List.set_cons_zero, List.set_cons_succ]
              refine wpAnyH_take (i := 7) (v := .tuple #[.string gv, .bool gb]) rfl (by kernel_rfl) (by kernel_rfl) (by kernel_rfl) (fun _ _ _ h => h) (Or.inl ⟨by rfl, fun w hw => by obtain ⟨z0, z1⟩ := hw; go_simp⟩) hHd1 ?_
              simp only [Act.put, List.getElem_toArray, List.getElem_cons_zero, List.getElem_cons_succ, List.setIfInBounds_toArray, List.set_cons_zero, List.set_cons_succ]
              refine wpAnyH_take (i := 8) (v := .string gv) rfl (by kernel_rfl) (by kernel_rfl) (by kernel_rfl) (fun _ _ _ h => h) (Or.inl ⟨by rfl, fun w hw => by obtain ⟨z0, z1⟩ := hw; go_simp⟩) hHd1 ?_
              simp only [Act.put, List.getElem_toArray, List.getElem_cons_zero, List.getElem_cons_succ, List.setIfInBounds_toArray, List.set_cons_zero, List.set_cons_succ]
              refine wpAnyH_take (i := 9) (v := .bool gb) rfl (by kernel_rfl) (by kernel_rfl) (by kernel_rfl) (fun _ _ _ h => h) (Or.inl ⟨by rfl, fun w hw => by obtain ⟨z0, z1⟩ := hw; go_simp⟩) hHd1 ?_
              simp only [Act.put, List.getElem_toArray, List.getElem_cons_zero, List.getElem_cons_succ, List.setIfInBounds_toArray, List.set_cons_zero, List.set_cons_succ]
              refine wpAnyH_ready (rs := [10]) (by kernel_rfl) (by simp) ?_
              refine AllReadyH.cons rfl (fun K hK => ?_) AllReadyH.nil
              go_simp
              refine hK.out _ _ hHd1 (fun _ => ?_)
              clear hK K
              try simp only [Act.put, List.getElem_toArray, List.getElem_cons_zero, List.getElem_cons_succ, List.setIfInBounds_toArray, List.set_cons_zero, List.set_cons_succ]
              refine wpAnyH_ready (rs := [11]) (by kernel_rfl) (by simp) ?_
              refine AllReadyH.cons rfl (fun K hK => ?_) AllReadyH.nil
              go_simp
              refine hK.out _ _ hHd1 (fun _ => ?_)
              clear hK K
              try simp only [Act.put, List.getElem_toArray, List.getElem_cons_zero, List.getElem_cons_succ, List.setIfInBounds_toArray, List.set_cons_zero, List.set_cons_succ]
              refine wpAnyH_done (by kernel_rfl) ?_ _
              obtain ⟨b4, o4, k4, v4, g4, e4, cm0, cm1, cm2, HSm⟩ := HCL.out _ hbq8
              cases e4
              obtain ⟨rfl, rfl, rfl⟩ : k1 = k4 ∧ v1 = v4 ∧ g1 = g4 := by have := HSl.out.trans HSm.out.symm; simpa using this
              have hbb8 : bb < w8.heap.size := lt_of_cell cm0
              have be8 := hbw.trans (hbq8.mono hbw.size)
              clear HSm HSl
              obtain ⟨hgb, hgv⟩ := HGV.out
              cases g1 with
              | true =>
                obtain rfl : gb = false := hgb
                clear hgv
                go_wp2
                exact ⟨⟨i + 1, _, rfl, by simp, by omega, be8⟩, by simp [intOf]; omega⟩
              | false =>
                obtain rfl : gb = true := hgb
                obtain rfl : gv = v1 := hgv rfl
                go_wp2
                exact ⟨⟨i + 1, _, rfl, by simp, by omega, be8⟩, by simp [intOf]; omega⟩
        · have hlti : ¬ ((i : Int) < (b.length : Int)) := by omega
          have HRF := hid (fun wx (hb : Below wr.heap.size wr wx) => And.intro ((rX.below hbel).below hb) (And.intro ((rW.below hbel).below hb) (And.intro ((hpX.below hbel).below hb) (And.intro ((hpW.below hbel).below hb) ((be7.trans (hbel.mono be7.size)).trans (hb.mono (be7.trans (hbel.mono be7.size)).size))))))
          clear hch
          have hbY := below_nw wr (.cells #[.slice none 0 0] 25)
          have rY := row_new wr #[.slice none 0 0] 25
          have x0 := (HRF.out _ hbY).1.cell 0 _ rfl
          have x1 := (HRF.out _ hbY).1.lt
          go_wp2_with fail
          obtain ⟨wy, e_wy⟩ : ∃ z, z = wr.alloc (.cells #[.slice none 0 0] 25) := ⟨_, rfl⟩
          obtain ⟨YB, e_Y⟩ : ∃ z, z = wr.heap.size := ⟨_, rfl⟩
          have sy : wy.heap.size = YB + 1 := by rw [e_wy, e_Y]; simp
          rw [← e_wy] at hbY rY
          rw [← e_Y] at rY
          rw [← e_wy, ← e_Y]
          have HYE := hid e_Y
          have HSY := hid sy
          clear e_wy x0 x1 e_Y sy
          refine (snap_i a3 X c3 _ (HRF.out _ hbY).2.2.1 hc3 (by omega) (psz hpsX)).mono ?_
          rintro e ws ⟨lv, rfl, hbat, hbS⟩
          have rY := rY.below hbS
          have hbW := hbY.trans (hbS.mono hbY.size)
          obtain ⟨hsl, hsg⟩ := snap_at hokX
          obtain ⟨bss, e_b⟩ : ∃ z, z = snapOf X := ⟨_, rfl⟩
          have HRM := hid (fun wx h' => room_i a3 X c3 8 wx h' hc3 (by omega) (psz hpsX))
          have HVS := hid (fun wx h' => vstate_i a3 X c3 wx h' (by omega) (psz hpsX))
          rw [hokX] at HVS
          rw [← e_b] at hbat hsl hsg HRM
          have HSG := hid hsg
          have hb5 : bss.length ≤ 5 := by rw [hsl]; omega
          have HSL := hid hsl
          clear e_b hsg hbS hbY hsl
          obtain ⟨la, lc, e_lv, _⟩ := hbat.bts
          subst e_lv
          go_wp2
          go_loopw [16, 17, 18, 19] (fun nv iv _ _ wq => ∃ (k : Nat) (yy : Option Addr) (cy : Nat) (W : World), W = wq ∧ iv = .int .i64 (k : Int) ∧ k ≤ bss.length ∧ nv = .int .i64 (roomOf (bss.take k) 8) ∧ Row W YB [.slice yy (X.take (k * 20)).length cy] ∧ (X.take (k * 20)).length ≤ cy ∧ OwnS W yy (prcells (X.take (k * 20))) ∧ (∀ g, blk yy (X.take (k * 20)).length = some g → YB < g) ∧ Bat W wy.heap.size (.slice la bss.length lc) bss ∧ Below wr.heap.size wr W) (fun _ iv _ _ _ => bss.length - (intOf iv).toNat)
          case atStart => exact ⟨0, none, 0, _, rfl, rfl, Nat.zero_le _, by rw [List.take_zero, roomOf_nil], by rw [Nat.zero_mul, List.take_zero]; exact rY, by simp, .inl (by simp [prcells]), (fun g hg => by rw [Nat.zero_mul, List.take_zero] at hg; cases hg), hbat, hbW⟩
          case round =>
            obtain ⟨k, yy, cy, wq, rfl, rfl, hk, rfl, rY, hcy, hoy, hgy, hbat, hbq⟩ := hrel
            obtain ⟨T0, e_T0⟩ : ∃ z, z = X.take (k * 20) := ⟨_, rfl⟩
            have hT0l : T0.length ≤ 100 := by rw [e_T0, List.length_take]; omega
            rw [← e_T0] at rY hcy hoy hgy
            have E0 := hid e_T0
            clear e_T0
            have y0 := rY.cell 0 _ rfl
            have y2 := rY.lt
            by_cases hkl : k < bss.length
            · have hkli : (k : Int) < (bss.length : Int) := by omega
              have hk0 : (0 : Int) ≤ (k : Int) := by omega
              have hkw : IntKind.i64.wrap ((k : Int) + 1) = (k : Int) + 1 := wrap_i64_id _ (by omega) (by omega)
              have hk20 : k * 20 < X.length := by have := HSL.out; omega
              obtain ⟨hap1, hap2⟩ := chunk_ap hokX k hk20
              obtain ⟨T1, e_T1⟩ : ∃ z, z = X.take ((k + 1) * 20) := ⟨_, rfl⟩
              rw [← E0.out] at hap1 hap2
              rw [← e_T1] at hap2
              have E1 := hid e_T1
              clear e_T1
              have hbk := HSG.out k hkl
              have hokc := chunk_ok hokX k hk20
              obtain ⟨BK, e_BK⟩ : ∃ z, z = bss.getD k [] := ⟨_, rfl⟩
              rw [← e_BK] at hbk
              rw [← hbk] at hap1 hap2 hokc
              have hbb := (batchOk_of hokc).1
              have hbsz : ∀ x ∈ BK, x.1.size ≤ 1048576 ∧ x.2.1.size ≤ 1048576 := fun x hx => by have := chOk_parts ((batchOk_of hokc).2 x hx); unfold kOk vOk at this; simp only [decide_eq_true_eq] at this; omega
              have hbl20 : ¬ (20 < (BK.length : Int)) := by omega
              obtain ⟨_, _, e0, hbts⟩ := hbat.bts
              cases e0
              obtain ⟨gl, pa, pcc, e_la, hgl, hcl, hchs⟩ := hbts.at hkl
              rw [← e_BK] at hcl hchs
              have HBK := hid e_BK
              clear e_BK
              subst e_la
              have hXt : psLe T0 64000 64000 := fun x hx => hpsX x (List.mem_of_mem_take (by rw [← E0.out]; exact hx))
              have HAP := hid (fun wx (hb : Below wq.heap.size wq wx) => apply_i yy T0 cy pa BK pcc wx (hoy.prsA.below hb) (by omega) (psz hXt) (hchs.below hb) (by omega) hbsz)
              rw [hap1, hap2] at HAP
              unfold ApPost stV at HAP
              clear hap1 hap2 hbk hokc
              have hYq : YB < wq.heap.size := y2
              go_upto_region 28 with fail
              go_cut [18, 19] from 113 to 146 (fun xv cv wx => ∃ (XN : Nat) (a9 : Option Addr) (c9 : Nat), xv = .pointer (some ⟨XN, 0, none⟩) ∧ cv = .int .i64 0 ∧ T1.length ≤ c9 ∧ Row wx XN [.slice a9 T1.length c9] ∧ OwnS wx a9 (prcells T1) ∧ (∀ g, blk a9 T1.length = some g → YB < g) ∧ wq.heap.size ≤ XN ∧ Below wq.heap.size wq wx)
              case first =>
                refine wp_region_held_drew (S := fun w' => w'.cell? ⟨YB, 0, none⟩ = some (.slice yy T0.length cy) ∧ w'.cell? ⟨gl, k, none⟩ = some (.slice pa BK.length pcc)) (by kernel_rfl) (⟨rY.drew.cell 0 _ rfl, hcl⟩) (fun hHeld => ?_)
                refine wpAnyH_take (i := 0) (v := .agg #[.slice yy T0.length cy]) rfl (by kernel_rfl) (by kernel_rfl) (by kernel_rfl) (fun _ _ _ h => h) (Or.inl ⟨by rfl, fun w hw => by obtain ⟨z0, z1⟩ := hw; go_simp⟩) hHeld ?_
                simp only [Act.put, List.getElem_toArray, List.getElem_cons_zero, List.getElem_cons_succ, List.setIfInBounds_toArray, List.set_cons_zero, List.set_cons_succ]
                refine wpAnyH_take (i := 1) (v := .slice (some ⟨gl, 0, none⟩) bss.length lc) rfl (by kernel_rfl) (by kernel_rfl) (by kernel_rfl) (fun _ _ _ h => h) (Or.inl ⟨by rfl, fun w hw => by obtain ⟨z0, z1⟩ := hw; go_simp⟩) hHeld ?_
                simp only [Act.put, List.getElem_toArray, List.getElem_cons_zero, List.getElem_cons_succ, List.setIfInBounds_toArray, List.set_cons_zero, List.set_cons_succ]
                refine wpAnyH_take (i := 2) (v := .int .i64 (k : Int)) rfl (by kernel_rfl) (by kernel_rfl) (by kernel_rfl) (fun _ _ _ h => h) (Or.inl ⟨by rfl, fun w hw => by obtain ⟨z0, z1⟩ := hw; go_simp⟩) hHeld ?_
                simp only [Act.put, List.getElem_toArray, List.getElem_cons_zero, List.getElem_cons_succ, List.setIfInBounds_toArray, List.set_cons_zero, List.set_cons_succ]
                refine wpAnyH_take (i := 3) (v := .pointer (some ⟨gl, k, none⟩)) rfl (by kernel_rfl) (by kernel_rfl) (by kernel_rfl) (fun _ _ _ h => h) (Or.inl ⟨by rfl, fun w hw => by obtain ⟨z0, z1⟩ := hw; go_simp⟩) hHeld ?_
                simp only [Act.put, List.getElem_toArray, List.getElem_cons_zero, List.getElem_cons_succ, List.setIfInBounds_toArray, List.set_cons_zero, List.set_cons_succ]
                refine wpAnyH_take (i := 4) (v := .slice pa BK.length pcc) rfl (by kernel_rfl) (by kernel_rfl) (by kernel_rfl) (fun _ _ _ h => h) (Or.inl ⟨by rfl, fun w hw => by obtain ⟨z0, z1⟩ := hw; go_simp⟩) hHeld ?_
                simp only [Act.put, List.getElem_toArray, List.getElem_cons_zero, List.getElem_cons_succ, List.setIfInBounds_toArray, List.set_cons_zero, List.set_cons_succ]
                refine wpAnyH_ready (rs := [5, 9]) (by kernel_rfl) (by simp) ?_
                refine AllReadyH.cons rfl (fun K hK => ?_) (AllReadyH.cons rfl (fun K hK => ?_) AllReadyH.nil)
                · refine step_call (by rfl) 10 #[.agg #[.slice yy T0.length cy], .slice pa BK.length pcc] (by go_simp) (HAP.out _ (Below.refl wq.heap.size wq).drew) ?_
                  rintro e w9 ⟨a9, c9, rfl, hc9, ho9, hg9, hb9⟩
                  refine ⟨_, rfl, ?_⟩
                  have hbr9 : Below wq.heap.size wq w9 := (Below.refl wq.heap.size wq).drew.trans (hb9.mono (Below.refl wq.heap.size wq).drew.size)
                  refine hK.out _ _ (⟨(rY.below hbr9).cell 0 _ rfl, (hbr9.cell (p := ⟨gl, k, none⟩) hgl).trans hcl⟩) (fun hHd1 => ?_)
                  clear hK K
                  try simp only [Act.put, List.getElem_toArray, List.getElem_cons_zero, List.getElem_cons_succ, List.setIfInBounds_toArray, List.set_cons_zero, List.set_cons_succ]
                  refine wpAnyH_take (i := 6) (v := .tuple #[.agg #[.slice a9 T1.length c9], .int .i64 0]) rfl (by kernel_rfl) (by kernel_rfl) (by kernel_rfl) (fun _ _ _ h => h) (Or.inl ⟨by rfl, fun w hw => by obtain ⟨z0, z1⟩ := hw; go_simp⟩) hHd1 ?_
                  simp only [Act.put, List.getElem_toArray, List.getElem_cons_zero, List.getElem_cons_succ, List.setIfInBounds_toArray, List.set_cons_zero, List.set_cons_succ]
                  refine wpAnyH_take (i := 7) (v := .agg #[.slice a9 T1.length c9]) rfl (by kernel_rfl) (by kernel_rfl) (by kernel_rfl) (fun _ _ _ h => h) (Or.inl ⟨by rfl, fun w hw => by obtain ⟨z0, z1⟩ := hw; go_simp⟩) hHd1 ?_
                  simp only [Act.put, List.getElem_toArray, List.getElem_cons_zero, List.getElem_cons_succ, List.setIfInBounds_toArray, List.set_cons_zero, List.set_cons_succ]
                  refine wpAnyH_take (i := 8) (v := .int .i64 0) rfl (by kernel_rfl) (by kernel_rfl) (by kernel_rfl) (fun _ _ _ h => h) (Or.inl ⟨by rfl, fun w hw => by obtain ⟨z0, z1⟩ := hw; go_simp⟩) hHd1 ?_
                  simp only [Act.put, List.getElem_toArray, List.getElem_cons_zero, List.getElem_cons_succ, List.setIfInBounds_toArray, List.set_cons_zero, List.set_cons_succ]
                  refine wpAnyH_ready (rs := [9]) (by kernel_rfl) (by simp) ?_
                  refine AllReadyH.cons rfl (fun K hK => ?_) AllReadyH.nil
                  go_simp
                  have rN := (row_new w9 #[.slice none 0 0] 25)
                  have hbz : Below w9.heap.size w9 ((w9.alloc (.cells #[.slice none 0 0] 25))) := (below_nw _ _)
                  obtain ⟨XN, e_N⟩ : ∃ z, z = w9.heap.size := ⟨_, rfl⟩
                  obtain ⟨wz, e_z⟩ : ∃ z, z = (w9.alloc (.cells #[.slice none 0 0] 25)) := ⟨_, rfl⟩
                  have hXN : wq.heap.size ≤ XN := by have := hbr9.size; omega
                  have hn9 : ∀ gg, a9 = some ⟨gg, 0, none⟩ → prcells T1 ≠ [] → XN ≠ gg := fun gg hgg hne => by have := ho9.lt T1.length (fun h e => h (by have := congrArg List.length e; rw [prcells_length, List.length_nil] at this; omega)) gg (by subst hgg; exact blk_pos _ _ _ (prcells_neA hne)); omega
                  rw [← e_z] at rN hbz
                  rw [← e_N] at rN
                  rw [← e_z, ← e_N]
                  clear e_z e_N
                  have ho9 := ho9.below hbz
                  have hbr9 := hbr9.trans (hbz.mono hbr9.size)
                  refine hK.out _ _ (⟨(rY.below hbr9).cell 0 _ rfl, (hbr9.cell (p := ⟨gl, k, none⟩) hgl).trans hcl⟩) (fun hHd2 => ?_)
                  clear hK K
                  try simp only [Act.put, List.getElem_toArray, List.getElem_cons_zero, List.getElem_cons_succ, List.setIfInBounds_toArray, List.set_cons_zero, List.set_cons_succ]
                  refine wpAnyH_ready (rs := [10]) (by kernel_rfl) (by simp) ?_
                  refine AllReadyH.cons rfl (fun K hK => ?_) AllReadyH.nil
                  have u0 := rN.cell 0 _ rfl
                  have u1 := rN.froz 0 (by simp)
                  have u2 := rN.lt
                  go_simp
                  have rN2 := rN.set 0 (by simp) (.slice a9 T1.length c9)
                  have ho10 := ho9.setA ⟨XN, 0, none⟩ hn9 (.slice a9 T1.length c9)
                  have hb10 : Below wq.heap.size wq (wz.setCell ⟨XN, 0, none⟩ (.slice a9 T1.length c9)) := hbr9.setCell (p := ⟨XN, 0, none⟩) hXN _
                  refine hK.out _ _ (⟨(rY.below hb10).cell 0 _ rfl, (hb10.cell (p := ⟨gl, k, none⟩) hgl).trans hcl⟩) (fun hHd3 => ?_)
                  clear hK K
                  try simp only [Act.put, List.getElem_toArray, List.getElem_cons_zero, List.getElem_cons_succ, List.setIfInBounds_toArray, List.set_cons_zero, List.set_cons_succ]
                  refine wpAnyH_ready (rs := [11]) (by kernel_rfl) (by simp) ?_
                  refine AllReadyH.cons rfl (fun K hK => ?_) AllReadyH.nil
                  go_simp
                  refine hK.out _ _ hHd3 (fun _ => ?_)
                  clear hK K
                  try simp only [Act.put, List.getElem_toArray, List.getElem_cons_zero, List.getElem_cons_succ, List.setIfInBounds_toArray, List.set_cons_zero, List.set_cons_succ]
                  refine wpAnyH_done (by kernel_rfl) ?_ _
                  go_wp2_with fail
                  go_meet
                  exact ⟨XN, a9, c9, rfl, rfl, hc9, rN2, ho10, (fun gg hgg => by have h1 := hg9 gg hgg; have h2 := hYq; first | exact Nat.lt_of_lt_of_le h2 h1 | exact Nat.lt_of_lt_of_le h2 (Nat.le_trans hbz.size h1)), hXN, hb10⟩
                · go_simp
                  have rN := (row_new wq #[.slice none 0 0] 25).drew
                  have hbz : Below wq.heap.size wq ((wq.alloc (.cells #[.slice none 0 0] 25)).drew) := (below_nw _ _).drew
                  obtain ⟨XN, e_N⟩ : ∃ z, z = wq.heap.size := ⟨_, rfl⟩
                  obtain ⟨wz, e_z⟩ : ∃ z, z = (wq.alloc (.cells #[.slice none 0 0] 25)).drew := ⟨_, rfl⟩
                  have hXN : wq.heap.size ≤ XN := by omega
                  rw [← e_z] at rN hbz
                  rw [← e_N] at rN
                  rw [← e_z, ← e_N]
                  clear e_z e_N
                  refine hK.out _ _ (⟨(rY.below hbz).cell 0 _ rfl, (hbz.cell (p := ⟨gl, k, none⟩) hgl).trans hcl⟩) (fun hHd5 => ?_)
                  clear hK K
                  try simp only [Act.put, List.getElem_toArray, List.getElem_cons_zero, List.getElem_cons_succ, List.setIfInBounds_toArray, List.set_cons_zero, List.set_cons_succ]
                  refine wpAnyH_ready (rs := [5]) (by kernel_rfl) (by simp) ?_
                  refine AllReadyH.cons rfl (fun K hK => ?_) AllReadyH.nil
                  refine step_call (by rfl) 10 #[.agg #[.slice yy T0.length cy], .slice pa BK.length pcc] (by go_simp) (HAP.out _ hbz) ?_
                  rintro e w9 ⟨a9, c9, rfl, hc9, ho9, hg9, hb9⟩
                  refine ⟨_, rfl, ?_⟩
                  have hbr9 : Below wq.heap.size wq w9 := hbz.trans (hb9.mono hbz.size)
                  have hn9 : ∀ gg, a9 = some ⟨gg, 0, none⟩ → prcells T1 ≠ [] → XN ≠ gg := fun gg hgg hne => by have := hg9 gg (by subst hgg; exact blk_pos _ _ _ (prcells_neA hne)); have := rN.lt; omega
                  have rN := rN.below hb9
                  refine hK.out _ _ (⟨(rY.below hbr9).cell 0 _ rfl, (hbr9.cell (p := ⟨gl, k, none⟩) hgl).trans hcl⟩) (fun hHd6 => ?_)
                  clear hK K
                  try simp only [Act.put, List.getElem_toArray, List.getElem_cons_zero, List.getElem_cons_succ, List.setIfInBounds_toArray, List.set_cons_zero, List.set_cons_succ]
                  refine wpAnyH_take (i := 6) (v := .tuple #[.agg #[.slice a9 T1.length c9], .int .i64 0]) rfl (by kernel_rfl) (by kernel_rfl) (by kernel_rfl) (fun _ _ _ h => h) (Or.inl ⟨by rfl, fun w hw => by obtain ⟨z0, z1⟩ := hw; go_simp⟩) hHd6 ?_
                  simp only [Act.put, List.getElem_toArray, List.getElem_cons_zero, List.getElem_cons_succ, List.setIfInBounds_toArray, List.set_cons_zero, List.set_cons_succ]
                  refine wpAnyH_take (i := 7) (v := .agg #[.slice a9 T1.length c9]) rfl (by kernel_rfl) (by kernel_rfl) (by kernel_rfl) (fun _ _ _ h => h) (Or.inl ⟨by rfl, fun w hw => by obtain ⟨z0, z1⟩ := hw; go_simp⟩) hHd6 ?_
                  simp only [Act.put, List.getElem_toArray, List.getElem_cons_zero, List.getElem_cons_succ, List.setIfInBounds_toArray, List.set_cons_zero, List.set_cons_succ]
                  refine wpAnyH_take (i := 8) (v := .int .i64 0) rfl (by kernel_rfl) (by kernel_rfl) (by kernel_rfl) (fun _ _ _ h => h) (Or.inl ⟨by rfl, fun w hw => by obtain ⟨z0, z1⟩ := hw; go_simp⟩) hHd6 ?_
                  simp only [Act.put, List.getElem_toArray, List.getElem_cons_zero, List.getElem_cons_succ, List.setIfInBounds_toArray, List.set_cons_zero, List.set_cons_succ]
                  refine wpAnyH_ready (rs := [10]) (by kernel_rfl) (by simp) ?_
                  refine AllReadyH.cons rfl (fun K hK => ?_) AllReadyH.nil
                  have u0 := rN.cell 0 _ rfl
                  have u1 := rN.froz 0 (by simp)
                  have u2 := rN.lt
                  go_simp
                  have rN2 := rN.set 0 (by simp) (.slice a9 T1.length c9)
                  have ho10 := ho9.setA ⟨XN, 0, none⟩ hn9 (.slice a9 T1.length c9)
                  have hb10 : Below wq.heap.size wq (w9.setCell ⟨XN, 0, none⟩ (.slice a9 T1.length c9)) := hbr9.setCell (p := ⟨XN, 0, none⟩) hXN _
                  refine hK.out _ _ (⟨(rY.below hb10).cell 0 _ rfl, (hb10.cell (p := ⟨gl, k, none⟩) hgl).trans hcl⟩) (fun hHd7 => ?_)
                  clear hK K
                  try simp only [Act.put, List.getElem_toArray, List.getElem_cons_zero, List.getElem_cons_succ, List.setIfInBounds_toArray, List.set_cons_zero, List.set_cons_succ]
                  refine wpAnyH_ready (rs := [11]) (by kernel_rfl) (by simp) ?_
                  refine AllReadyH.cons rfl (fun K hK => ?_) AllReadyH.nil
                  go_simp
                  refine hK.out _ _ hHd7 (fun _ => ?_)
                  clear hK K
                  try simp only [Act.put, List.getElem_toArray, List.getElem_cons_zero, List.getElem_cons_succ, List.setIfInBounds_toArray, List.set_cons_zero, List.set_cons_succ]
                  refine wpAnyH_done (by kernel_rfl) ?_ _
                  go_wp2_with fail
                  go_meet
                  exact ⟨XN, a9, c9, rfl, rfl, hc9, rN2, ho10, (fun gg hgg => by have h1 := hg9 gg hgg; have h2 := hYq; first | exact Nat.lt_of_lt_of_le h2 h1 | exact Nat.lt_of_lt_of_le h2 (Nat.le_trans hbz.size h1)), hXN, hb10⟩
              case rest =>
                obtain ⟨XN, a9, c9, rfl, rfl, hc9, rN, ho9, hg9, hXN, hb10⟩ := hcut
                have hbt10 := hbat.below hb10
                have rY10 := rY.below hb10
                have hgs : wc.grownBy (wc.setCell ⟨YB, 0, none⟩ (.slice a9 T1.length c9)) (some YB) := ⟨rfl, rfl, rfl, by rw [World.size_setCell]; exact Nat.le_refl _, fun i hi hr => Below.heap_setCell _ _ _ _ (fun e => hr (congrArg some e))⟩
                have hbt11 := hbt10.kept hgs (fun j hj => by cases hj; left; have := HSY.out; omega)
                have rY11 := rY10.set 0 (by simp) (.slice a9 T1.length c9)
                have ho11 := ho9.setA ⟨YB, 0, none⟩ (fun gg hgg hne => by have := hg9 gg (by subst hgg; exact blk_pos _ _ _ (prcells_neA hne)); show YB ≠ gg; omega) (.slice a9 T1.length c9)
                have hb11 : Below wr.heap.size wr (wc.setCell ⟨YB, 0, none⟩ (.slice a9 T1.length c9)) := (hbq.trans (hb10.mono hbq.size)).setCell (p := ⟨YB, 0, none⟩) (by show wr.heap.size ≤ YB; have := HYE.out; omega) _
                obtain ⟨_, _, e1, hbts1⟩ := hbt10.bts
                cases e1
                obtain ⟨gl1, pa1, pc1, e2, hgl1, hcl1, _⟩ := hbts1.at hkl
                rw [← HBK.out] at hcl1
                cases e2
                obtain ⟨_, _, e3, hbts2⟩ := hbt11.bts
                cases e3
                obtain ⟨gl2, pa2, pc2, e4, hgl2, hcl2, hchs2⟩ := hbts2.at hkl
                rw [← HBK.out] at hcl2 hchs2
                cases e4
                have n0 := rN.cell 0 _ rfl
                have n1 := rN.lt
                have q0 := rY10.cell 0 _ rfl
                have q1 := rY10.froz 0 (by simp)
                have q2 := rY10.lt
                have hgY : YB < gl := by obtain ⟨vs, h1, _⟩ := hbat; have := (h1.lt gl rfl).1; have := HSY.out; omega
                have hgY2 : ¬ (gl = YB) := by omega
                have hgY3 : ¬ (YB = gl) := by omega
                have e5 := (World.cell?_setCell_far wc ⟨YB, 0, none⟩ ⟨gl, k, none⟩ (.slice a9 T1.length c9) hgY3).symm.trans hcl2
                rw [hcl1] at e5
                injection e5 with e5
                injection e5 with e5a e5b e5c
                subst e5a e5c
                clear hcl2 e5b
                have HFB := hid (formbatch_i pa1 BK pc1 _ hchs2 (by omega) hbsz)
                have hbo := bOut_bound BK
                have HPG := hid (fun wx => pages_i (bOut BK) 8 wx (by omega))
                have hrm := room_step bss k hkl 8
                rw [← HBK.out] at hrm
                have hnb := npages_bound (bOut BK).size 8
                have hrb := roomOf_bound (bss.take k) 8
                rw [List.length_take] at hrb
                obtain ⟨RM, e_RM⟩ : ∃ z, z = roomOf (bss.take k) 8 := ⟨_, rfl⟩
                obtain ⟨NP, e_NP⟩ : ∃ z, z = npages (bOut BK).size 8 := ⟨_, rfl⟩
                rw [← e_RM] at hrb hrm ⊢
                rw [← e_NP] at hnb hrm HPG
                have hRN : IntKind.i64.wrap (RM + NP) = RM + NP := wrap_i64_id _ (by omega) (by omega)
                have HRMN := hid hrm
                clear hrm e_RM e_NP hbt10 hgs
                have HE := hid (And.intro rY11 (And.intro ho11 (And.intro hbt11 hb11)))
                clear rY11 ho11 hbt11 hb11 hb10 hbq hbat
                go_wp2_with (first | (go_at_call 16; refine HFB.out.mono ?_; rintro e w12 ⟨rfl, hb12⟩; have HB12 := hid hb12; clear hb12) | (go_at_call 15; refine (HPG.out _).mono ?_; rintro e w13 ⟨rfl, hb13⟩; have HB13 := hid (HB12.out.trans (hb13.mono HB12.out.size)); clear hb13))
                refine ⟨⟨k + 1, a9, c9, _, rfl, by simp, by omega, (by rw [HRMN.out]), (by rw [← E1.out]; exact HE.out.1.below HB13.out), (by rw [← E1.out]; exact hc9), (by rw [← E1.out]; exact HE.out.2.1.below HB13.out), (by rw [← E1.out]; exact hg9), HE.out.2.2.1.below HB13.out, HE.out.2.2.2.trans (HB13.out.mono HE.out.2.2.2.size)⟩, by simp [intOf]; omega⟩
            · have hkk : k = bss.length := by omega
              subst hkk
              have hXX : T0 = X := by rw [E0.out]; exact List.take_of_length_le (by have := HSL.out; omega)
              rw [hXX] at rY hoy hcy y0
              clear hXX E0 hgy hT0l
              rw [List.take_length]
              have hwl := (HRF.out _ hbq).2.1.cell 0 _ rfl
              have hwl1 := (HRF.out _ hbq).2.1.lt
              have HEQ2 := hid (fun wx h1 h2 => wstate_eq yy a5 X cy c5 wx h1 h2 (by omega))
              go_wp2_with fail
              refine (HEQ2.out _ hoy.prsA (HRF.out _ hbq).2.2.2.1).mono ?_
              rintro e w14 ⟨rfl, hb14⟩
              have hbr14 := hbq.trans (hb14.mono hbq.size)
              have x0 := (HRF.out _ hbr14).1.cell 0 _ rfl
              have x1 := (HRF.out _ hbr14).1.lt
              go_wp2_with fail
              refine (HRM.out _ (HRF.out _ hbr14).2.2.1).mono ?_
              rintro e w15 ⟨rfl, hb15⟩
              have hbr15 := hbr14.trans (hb15.mono hbr14.size)
              clear x0 x1
              have x0 := (HRF.out _ hbr15).1.cell 0 _ rfl
              have x1 := (HRF.out _ hbr15).1.lt
              go_wp2_with fail
              refine (HVS.out _ (HRF.out _ hbr15).2.2.1).mono ?_
              rintro e w16 ⟨rfl, hb16⟩
              have hbr16 := hbr15.trans (hb16.mono hbr15.size)
              go_wp2
              go_ret
              exact ⟨rfl, (HRF.out _ hbr16).2.2.2.2⟩
  · have hn' : 1048576 < (n : Int) := by omega
    go_enter Try.func3, Try.ntmps3
    go_wp2
    go_ret
    exact ⟨rfl, Below.refl _ _⟩

set_option maxRecDepth 100000 in
theorem lifted (os : Os) (started : os.Started) (H : Type) (enc : TypeId × Value → H) :
    ReturnsInHanded {} Try.checked os 3 .any (Rows.fnStatesSpec.pre6 enc Try.prog Try.f3 Rows.fnStatesRow.domain false) (Rows.fnStatesSpec.post enc Try.prog Try.f3 false true false false) := by
  refine returnsInHanded_of_change (C := Try.checked) own started (by kernel_rfl) Try.func3
    (ChangeSpec.witness6 (enc := enc) (C := Try.checked) false ⟨#[], #[.slice none 0 0], []⟩ 8 (by kernel_rfl) (by kernel_rfl) (by kernel_rfl) (by kernel_rfl)) ?_
  intro W base args ds gs before hval0 hW hcnd _
  have hval : ∀ (j : Nat) t v, Try.f3.params[j]? = some t → args[j]? = some v → Value.okWide Try.prog W .any base t v := hval0
  have hW' := hW
  obtain ⟨p, q, hA0, hV, rfl, hfz, hnd⟩ := hW
  have hA : DataW.TrodAll enc Try.prog W 0 (fun _ => true) true Try.f3.params.toList args.toList ds p := hA0
  rw [Try.params3] at hA hval
  obtain ⟨v0, vs0, d0, ds0, p0, q0, hargs, rfl, rfl, h0, r0⟩ := trodAll_cons hA
  obtain ⟨rfl, rfl, rfl⟩ := trodAll_nil r0
  obtain rfl : args = #[v0] := by cases args; simp_all
  obtain ⟨rfl, rfl⟩ := trodVars_none hV
  have k0 := h0
  have lt0 : ∀ x ∈ p0, x.block < W.heap.size := by obtain ⟨m, hm⟩ := k0; exact DataW.trod_lt m _ _ _ hm
  obtain ⟨a1, len, cap, rfl⟩ := okWide_slice Try.underlying22 (hval 0 22 v0 rfl rfl)
  obtain ⟨fuel0, hf⟩ := h0
  obtain ⟨a0, n0, c0, hv0, hB, hnc, hnm⟩ := bys_of_trod Try.underlying22 Try.underlying5 (by kernel_rfl) hf
  injection hv0 with e1 e2 e3
  subst e1 e2 e3
  clear hA0 hval0
  simp only [List.append_nil] at hW'
  refine (walk _ _ _ W hB hnc hnm).mono fun e W' ⟨he, bel⟩ => ?_
  subst he
  exact ⟨_, rfl, _, _, _, [], _, [], hW', trodAll_mk1 (shut_bool Try.underlying4 _), (trodAll_cons_mk (Below.trod laidOut (by kernel_rfl) (of_decide_eq_true (by kernel_rfl)) k0 bel lt0) trodAll_mk0), rfl, bel.frame _, fun h => by cases h⟩

theorem over : Rows.fnStatesRow.holds Try.pinned (OpenSpec.ofChange Rows.fnStatesSpec) :=
  OpenClaim.holds_of_wide 3 Try.f3 rfl rfl rfl rfl rfl rfl rfl ⟨rfl, rfl, rfl, rfl, rfl⟩ rfl rfl rfl rfl rfl (by kernel_rfl) Try.func3 (by kernel_rfl)
    (of_decide_eq_true (by kernel_rfl)) (by unfold Func.isWrapper; first | (rw [if_pos (by decide +kernel)]; kernel_rfl) | (rw [if_neg (by decide +kernel)]; exact ⟨rfl, rfl⟩))
    (fun os started H enc _ => lifted os started H enc)

theorem proved : Rows.FnStatesSaid := over
#print axioms proved
end Go.Proofs.Ytnmaknnnmjfhkad.fnStates
