import Derived.Test.YtbjeomlpcdaieaeDoorFrK
import Derived.Test.YtbjeomlpcdaieaeDoorFrD
import Derived.Test.YtbjeomlpcdaieaeDoorB4s
namespace Go.Proofs.YtbjeomlpcdaieaeDoor
open Go.RowKit
set_option maxRecDepth 4000
set_option linter.unusedVariables false
set_option linter.unusedSimpArgs false
set_option maxHeartbeats 4000000
theorem fr_i_no (a : Option Addr) (ss : List ByteArray) (c : Nat) (a' : Option Addr) (ws : List (Int × ByteArray)) (c' : Nat) (n : Int) (w : World) (h : Strs w a ss) (h' : Wrs w a' ws) (hl : ss.length ≤ 1048576) (hl' : ws.length ≤ 1048576) (hs : ∀ s ∈ ss, s.size ≤ 1048576) (hs' : ∀ x ∈ ws, x.2.size ≤ 1048576) (hno : ¬ (diskOk ss ws = true ∧ 1 ≤ n ∧ n ≤ 8)) :
    Calls Tryd.prog 19 #[diskV a ss.length c a' ws.length c', .int .i64 n] w fun e w' => e = .returned (rootV 0 0 0 0) ∧ Below w.heap.size w w' := by
  have hb0 : ∀ o1 o2, Below w.heap.size w ((w.alloc o1).alloc o2) := fun o1 o2 => ((Below.refl _ _).alloc (Nat.le_refl _) _).alloc (by simp) _
  cases hok : diskOk ss ws with
  | false =>
    clear hno
    go_enter Tryd.func19, Tryd.ntmps19
    go_wp2_with fail
    refine (valid_i a ss c a' ws c' _ (h.below (hb0 _ _)) (h'.below (hb0 _ _)) hl hl' hs hs').mono ?_
    rw [hok]
    rintro e w1 ⟨rfl, hb1⟩
    have hr := ((B4.new (w.alloc (.cells #[.slice a ss.length c, .slice a' ws.length c'] 31)) (.int .i64 0) (.int .i64 0) (.int .i64 0) (.int .i64 0) 49).below hb1)
    rw [World.size_alloc] at hr
    have HB1 := hid ((hb0 (.cells #[.slice a ss.length c, .slice a' ws.length c'] 31) (.cells #[.int .i64 0, .int .i64 0, .int .i64 0, .int .i64 0] 49)).trans (hb1.mono (by simp <;> omega)))
    clear hb1
    have c0 := hr.c0
    have c1 := hr.c1
    have c2 := hr.c2
    have c3 := hr.c3
    have f0 := hr.f0
    have f1 := hr.f1
    have f2 := hr.f2
    have f3 := hr.f3
    clear hr
    go_wp2
    refine bodyPost_ret (v := rootV 0 0 0 0) (by simp [results, Tryd.results19, go_sem, c0, c1, c2, c3]) rfl ⟨rfl, ?_⟩
    exact (((HB1.out.setCell (by show _ ≤ w.heap.size + 1; omega) _).setCell (by show _ ≤ w.heap.size + 1; omega) _).setCell (by show _ ≤ w.heap.size + 1; omega) _).setCell (by show _ ≤ w.heap.size + 1; omega) _
  | true =>
    have hd : decide (1 ≤ n ∧ n ≤ 8) = false := decide_eq_false (fun x => hno ⟨hok, x⟩)
    clear hno
    go_enter Tryd.func19, Tryd.ntmps19
    go_wp2_with fail
    refine (valid_i a ss c a' ws c' _ (h.below (hb0 _ _)) (h'.below (hb0 _ _)) hl hl' hs hs').mono ?_
    rw [hok]
    rintro e w1 ⟨rfl, hb1⟩
    have hr := ((B4.new (w.alloc (.cells #[.slice a ss.length c, .slice a' ws.length c'] 31)) (.int .i64 0) (.int .i64 0) (.int .i64 0) (.int .i64 0) 49).below hb1)
    rw [World.size_alloc] at hr
    have HB1 := hid ((hb0 (.cells #[.slice a ss.length c, .slice a' ws.length c'] 31) (.cells #[.int .i64 0, .int .i64 0, .int .i64 0, .int .i64 0] 49)).trans (hb1.mono (by simp <;> omega)))
    clear hb1
    have c0 := hr.c0
    have c1 := hr.c1
    have c2 := hr.c2
    have c3 := hr.c3
    have f0 := hr.f0
    have f1 := hr.f1
    have f2 := hr.f2
    have f3 := hr.f3
    clear hr
    go_wp2_with (first | (go_at_call 37; refine (width_i _ _).mono ?_; rw [hd]; rintro e wz ⟨rfl, hwz⟩; rw [hwz]; clear hwz wz))
    refine bodyPost_ret (v := rootV 0 0 0 0) (by simp [results, Tryd.results19, go_sem, c0, c1, c2, c3]) rfl ⟨rfl, ?_⟩
    exact (((HB1.out.setCell (by show _ ≤ w.heap.size + 1; omega) _).setCell (by show _ ≤ w.heap.size + 1; omega) _).setCell (by show _ ≤ w.heap.size + 1; omega) _).setCell (by show _ ≤ w.heap.size + 1; omega) _
theorem fr_i_yes (a : Option Addr) (ss : List ByteArray) (c : Nat) (a' : Option Addr) (ws : List (Int × ByteArray)) (c' : Nat) (n : Int) (w : World) (h : Strs w a ss) (h' : Wrs w a' ws) (hl : ss.length ≤ 1048576) (hl' : ws.length ≤ 1048576) (hs : ∀ s ∈ ss, s.size ≤ 1048576) (hs' : ∀ x ∈ ws, x.2.size ≤ 1048576) (ty : TypeId) (v : Value) (hv : w.cell? ⟨1, 0, none⟩ = some (.iface ty v)) (h0 : w.cell? ⟨0, 0, none⟩ = some (.iface 177 (.agg #[.pointer (some ⟨2, 91, none⟩)]))) (hg : 1 < w.heap.size) (hok : diskOk ss ws = true) (hn : 1 ≤ n ∧ n ≤ 8) :
    Calls Tryd.prog 19 #[diskV a ss.length c a' ws.length c', .int .i64 n] w fun e w' => e = .returned (rtV (frD ss ws n)) ∧ Below w.heap.size w w' := by
  have hb0 : ∀ o1 o2, Below w.heap.size w ((w.alloc o1).alloc o2) := fun o1 o2 => ((Below.refl _ _).alloc (Nat.le_refl _) _).alloc (by simp) _
  have hd : decide (1 ≤ n ∧ n ≤ 8) = true := decide_eq_true hn
  obtain ⟨RES, HRES⟩ : ∃ RES, Hid (RES = frD ss ws n) := ⟨_, hid rfl⟩
  rw [← HRES.out]
  obtain ⟨⟨hn1, hn2, hn3⟩, h64, hw⟩ := diskOk_of hok
  go_enter Tryd.func19, Tryd.ntmps19
  go_wp2_with fail
  refine (valid_i a ss c a' ws c' _ (h.below (hb0 _ _)) (h'.below (hb0 _ _)) hl hl' hs hs').mono ?_
  rw [hok]
  rintro e w1 ⟨rfl, hb1⟩
  have HX := hid ((((Cx.new w (.slice a ss.length c) (.slice a' ws.length c') 31)).below (below_new _ (.cells #[.int .i64 0, .int .i64 0, .int .i64 0, .int .i64 0] 49))).below hb1)
  have hr1 := ((B4.new (w.alloc (.cells #[.slice a ss.length c, .slice a' ws.length c'] 31)) (.int .i64 0) (.int .i64 0) (.int .i64 0) (.int .i64 0) 49).below hb1)
  rw [World.size_alloc] at hr1
  have HR1 := hid hr1
  have HB1 := hid ((hb0 (.cells #[.slice a ss.length c, .slice a' ws.length c'] 31) (.cells #[.int .i64 0, .int .i64 0, .int .i64 0, .int .i64 0] 49)).trans (hb1.mono (by simp <;> omega)))
  clear hb1 hr1
  have q0 := HX.out.c0
  have q1 := HX.out.c1
  go_wp2_with (first | (go_at_call 37; refine (width_i _ _).mono ?_; rw [hd]; rintro e wz ⟨rfl, hwz⟩; rw [hwz]; clear hwz wz))
  refine (drv_i a ss c a' ws c' _ (h.below HB1.out) (h'.below HB1.out) hn2 hn3 (fun s hs => by have := h64 s hs; omega) (fun x hx => by have := of_decide_eq_true (hw x hx); omega)).mono ?_
  rintro e w2 ⟨g, vv, rfl, hpr, hown, hgw, hb2⟩
  clear q0 q1
  obtain ⟨a2, c2, hvv, ho2⟩ : ∃ a2 c2, vv = .slice a2 (hsOf ws).length c2 ∧ OwnS w2 a2 (hcells (hsOf ws)) := by
    rw [hsOf_length]
    rcases owns_forms hown with ⟨e, h0⟩ | ⟨g2, cap, e, h1, h2, hr⟩
    · have : ws = [] := List.eq_nil_of_length_eq_zero h0
      subst this
      exact ⟨none, 0, e, .inl rfl⟩
    · exact ⟨_, cap, e, .inr ⟨g2, rfl, hr⟩⟩
  subst hvv
  have HB2 := hid (Below.then HB1.out (Nat.le_refl _) hb2)
  have HR2 := hid (HR1.out.below hb2)
  clear hb2 hown
  go_wp2_with fail
  refine (rdr _ _ _ _ _ _ _).mono ?_
  rintro e w3 ⟨rfl, hb3⟩
  have HB3 := hid (Below.then HB2.out (Nat.le_refl _) hb3)
  have HR3 := hid (HR2.out.below hb3)
  have HPR := hid (hpr.below hb3)
  have HO := hid (ho2.below hb3)
  clear hpr ho2 hb3
  have hh64 : ∀ p ∈ hsOf ws, p.2.length = 64 := fun p hp => by
    obtain ⟨x, hx, rfl⟩ := List.mem_map.1 hp
    have := of_decide_eq_true (hw x hx)
    show (nums x.2).length = 64
    rw [nums_length]; omega
  have hhld : Hld w3 a2 (hsOf ws) := by
    rcases HO.out with h0 | ⟨g2, rfl, h2⟩
    · refine .inl (List.eq_nil_of_length_eq_zero ?_)
      have := congrArg List.length h0
      rw [hcells_length _ hh64, List.length_nil] at this; omega
    · exact h2.hld hh64
  obtain ⟨X, HXs⟩ : ∃ X : Nat → List Int, Hid (X = fun m => (covs (hsOf ws) (ss.map nums)).getD m []) := ⟨_, hid rfl⟩
  have HXe : Hid (∀ m : Nat, X m = (covs (hsOf ws) (ss.map nums)).getD m []) := fun m => by rw [HXs.out]
  have HXL : Hid (∀ m : Nat, m < 2 → (X m).length = 64) := fun m hm => by
    rw [HXe.out]
    exact getD_len (covs_all _ _ hh64 HPR.out.len) (by rw [covs_length]; simp; omega)
  have HXR : Hid (∀ m : Nat, m < 2 → ∀ wx, Below w3.heap.size w3 wx → Calls Tryd.prog 129 #[.agg #[.slice a2 (hsOf ws).length c2, .iface 69 (.slice (some ⟨g, 0, none⟩) ss.length ss.length)], .int .i64 (m : Int)] wx fun e w' => e = .returned (.tuple #[.agg ((X m).map (Value.int .u8)).toArray, .bool true]) ∧ Below wx.heap.size wx w') := fun m hm wx hb => by
    rw [HXe.out]
    exact rd_cover a2 (hsOf ws) c2 g ss.length ss.length m (ss.map nums) wx (hhld.below hb) hh64 (fun p hp => by obtain ⟨y, hy, rfl⟩ := List.mem_map.1 hp; exact (of_decide_eq_true (hw y hy)).1) (by rw [hsOf_length]; exact hn3) (HPR.out.below hb) (by simp) hn2 (by omega)
  have HF : Hid (RES = if rtStep (rtStep rtZ ((rootOf (strOfNums (X 0)) 0 n).getD rtZ)) ((rootOf (strOfNums (X 1)) 1 n).getD rtZ) = rtZ then ((0, 0, 1, 0) : RtT) else rtStep (rtStep rtZ ((rootOf (strOfNums (X 0)) 0 n).getD rtZ)) ((rootOf (strOfNums (X 1)) 1 n).getD rtZ)) := by
    show _ = _
    have hX : ∀ m : Nat, m < 2 → strOfNums (X m) = (syncs ws ss).getD m ByteArray.empty := fun m hm => by
      have hrl : m < (covs (hsOf ws) (ss.map nums)).length := by rw [covs_length]; simp; omega
      rw [HXe.out, ← secs_covs]
      simp [secs, List.getD, hrl]
    rw [hX 0 (by omega), hX 1 (by omega), fr_eq, HRES.out]
    unfold frD
    rw [if_pos ⟨hok, hn⟩]
  obtain ⟨cv, HCV⟩ : ∃ cv, Hid (cv = Value.iface 69 (.slice (some ⟨g, 0, none⟩) ss.length ss.length)) := ⟨_, hid rfl⟩
  rw [← HCV.out] at HXR ⊢
  clear HO HPR hhld HR1 HR2 HB1 HB2 HX
  have hwl3 : w.heap.size ≤ w3.heap.size := HB3.out.size
  have hRl3 := HR3.out.lt
  obtain ⟨A0, HA0⟩ : ∃ A0, Hid (A0 = (rootOf (strOfNums (X 0)) 0 n).getD rtZ) := ⟨_, hid rfl⟩
  obtain ⟨A1, HA1⟩ : ∃ A1, Hid (A1 = (rootOf (strOfNums (X 1)) 1 n).getD rtZ) := ⟨_, hid rfl⟩
  rw [← HA0.out, ← HA1.out] at HF
  have HGV := hid (fun wx (hb : Below w.heap.size w wx) => ((hb.cell (p := ⟨1, 0, none⟩) hg).trans hv))
  have HG0 := hid (fun wx (hb : Below w.heap.size w wx) => ((hb.cell (p := ⟨0, 0, none⟩) (by show 0 < _; omega)).trans h0))
  clear hv h0
  go_wp2_with fail
  have hbx := B4.new w3 (.int .i64 0) (.int .i64 0) (.int .i64 0) (.int .i64 0) 49
  have hbw : Below w3.heap.size w3 (w3.alloc (.cells #[.int .i64 0, .int .i64 0, .int .i64 0, .int .i64 0] 49)) := (Below.refl _ _).alloc (Nat.le_refl _) _
  have hsb : (w3.alloc (.cells #[.int .i64 0, .int .i64 0, .int .i64 0, .int .i64 0] 49)).heap.size = w3.heap.size + 1 := by simp
  obtain ⟨wb, HWB⟩ : ∃ wb, wb = w3.alloc (.cells #[.int .i64 0, .int .i64 0, .int .i64 0, .int .i64 0] 49) := ⟨_, rfl⟩
  rw [← HWB] at hbx hbw hsb ⊢
  have HBX := hid hbx
  have HBW := hid hbw
  have HRB := hid (HR3.out.below hbw)
  have HBB := hid (HB3.out.trans (hbw.mono HB3.out.size))
  clear HWB hbx hbw HR3 HB3
  go_loopw [21] (fun i wr => ∃ (k : Nat) (b : RtT), k ≤ 2 ∧ i = .int .i64 (k : Int) ∧ Hid ((k = 0 → b = rtZ) ∧ (k = 1 → b = rtStep rtZ A0) ∧ (k = 2 → b = rtStep (rtStep rtZ A0) A1)) ∧ Below w3.heap.size wb wr ∧ B4 wr w3.heap.size (.int .i64 b.1) (.int .i64 b.2.1) (.int .i64 b.2.2.1) (.int .i64 b.2.2.2)) (fun i _ => 2 - (intOf i).toNat)
  case atStart => exact ⟨0, rtZ, by omega, rfl, ⟨fun _ => rfl, fun h => absurd h (by decide), fun h => absurd h (by decide)⟩, Below.refl _ _, HBX.out⟩
  case round =>
    obtain ⟨k, ⟨b0, b1, b2, b3⟩, hk, rfl, HBk, hbel, hbest⟩ := hrel
    have HBEL := hid hbel
    have HBST := hid hbest
    have hbl := hbel.size
    by_cases hlt : k < 2
    · have hlt' : (k : Int) < 2 := by omega
      have HBW2 := hid (HBB.out.trans (hbel.mono (by omega)))
      have HW3 := hid (HBW.out.trans (hbel.mono (Nat.le_refl _)))
      clear hbel hbest
      obtain ⟨r, HRr⟩ : ∃ r : RtT, Hid (r = (rootOf (strOfNums (X k)) (k : Int) n).getD rtZ) := ⟨_, hid rfl⟩
      have HNX : Hid (∀ b' : RtT, b' = rtStep (b0, b1, b2, b3) r → (k + 1 = 0 → b' = rtZ) ∧ (k + 1 = 1 → b' = rtStep rtZ A0) ∧ (k + 1 = 2 → b' = rtStep (rtStep rtZ A0) A1)) := fun b' hb' => by
        refine ⟨fun h => absurd h (by omega), fun h => ?_, fun h => ?_⟩
        · have hk0 : k = 0 := by omega
          subst hk0
          rw [hb', HBk.out.1 rfl, HRr.out, HA0.out]
          rfl
        · have hk1 : k = 1 := by omega
          subst hk1
          rw [hb', HBk.out.2.1 rfl, HRr.out, HA1.out]
          rfl
      have HRT := hid (rootat_i (.slice a2 (hsOf ws).length c2) cv (X k) (k : Int) n wr (by omega) (HXL.out k hlt) (fun wx hb => HXR.out k hlt wx (HW3.out.trans (hb.mono (by have := HW3.out.size; omega)))) ty v (HGV.out _ HBW2.out) (HG0.out _ HBW2.out) (by have := HBW2.out.size; omega))
      rw [← HRr.out] at HRT
      obtain ⟨t, h9, f, l⟩ := r
      go_wp2_with fail
      refine HRT.out.mono ?_
      rintro e w5 ⟨rfl, hb5⟩
      have HB5 := hid (HBEL.out.trans (hb5.mono (by omega)))
      have HT5 := hid (HBST.out.below hb5)
      have hs5 := hb5.size
      clear hb5 HBEL HBST HRT
      have c0 := fun o => (HT5.out.alloc o).c0
      have c1 := fun o => (HT5.out.alloc o).c1
      have c2 := fun o => (HT5.out.alloc o).c2
      have c3 := fun o => (HT5.out.alloc o).c3
      have f0 := fun o => (HT5.out.alloc o).f0
      have f1 := fun o => (HT5.out.alloc o).f1
      have f2 := fun o => (HT5.out.alloc o).f2
      have f3 := fun o => (HT5.out.alloc o).f3
      have HBA := hid (fun o => HB5.out.alloc (by omega) o)
      by_cases hgt : b0 < t
      · have hm := HNX.out (t, h9, f, l) (by simp [rtStep, hgt])
        have HM := hid hm
        clear hm
        go_wp2
        go_roundw
        case rel => exact ⟨k + 1, (t, h9, f, l), by omega, by go_num, HM.out, ((((HBA.out _).setCell (Nat.le_refl _) _).setCell (Nat.le_refl _) _).setCell (Nat.le_refl _) _).setCell (Nat.le_refl _) _, (HT5.out.alloc _).set4 _ _ _ _⟩
        case measure => simp [intOf]; omega
      · have hm := HNX.out (b0, b1, b2, b3) (by simp [rtStep, hgt])
        have HM := hid hm
        clear hm
        go_wp2
        go_roundw
        case rel => exact ⟨k + 1, (b0, b1, b2, b3), by omega, by go_num, HM.out, HBA.out _, HT5.out.alloc _⟩
        case measure => simp [intOf]; omega
    · have hk2 : k = 2 := by omega
      subst hk2
      have HE : Hid (RES = if ((b0, b1, b2, b3) : RtT) = rtZ then (0, 0, 1, 0) else (b0, b1, b2, b3)) := by
        show _ = _
        rw [HF.out, ← HBk.out.2.2 rfl]
      have hr := HRB.out.past (N := w3.heap.size) hRl3 hbel
      have c0 := hr.c0
      have c1 := hr.c1
      have c2 := hr.c2
      have c3 := hr.c3
      have f0 := hr.f0
      have f1 := hr.f1
      have f2 := hr.f2
      have f3 := hr.f3
      have d0 := hbest.c0
      have d1 := hbest.c1
      have d2 := hbest.c2
      have d3 := hbest.c3
      have HBZ := hid (HBB.out.trans (hbel.mono (by omega)))
      clear hr hbel hbest
      by_cases hz : ((b0, b1, b2, b3) : RtT) = rtZ
      · have HE2 : Hid (RES = (0, 0, 1, 0)) := by show _ = _; rw [HE.out, if_pos hz]
        have z0 : b0 = 0 := congrArg (fun x : RtT => x.1) hz
        have z1 : b1 = 0 := congrArg (fun x : RtT => x.2.1) hz
        have z2 : b2 = 0 := congrArg (fun x : RtT => x.2.2.1) hz
        have z3 : b3 = 0 := congrArg (fun x : RtT => x.2.2.2) hz
        clear hz HE
        subst z0 z1 z2 z3
        go_wp2
        refine bodyPost_ret (v := rootV 0 0 1 0) (by simp [results, Tryd.results19, go_sem, c0, c1, c2, c3]) rfl ⟨by rw [HE2.out], ?_⟩
        exact (((HBZ.out.setCell (by show _ ≤ w.heap.size + 1; omega) _).setCell (by show _ ≤ w.heap.size + 1; omega) _).setCell (by show _ ≤ w.heap.size + 1; omega) _).setCell (by show _ ≤ w.heap.size + 1; omega) _
      · have HE2 : Hid (RES = (b0, b1, b2, b3)) := by show _ = _; rw [HE.out, if_neg hz]
        have hz4 : ¬ (b0 = 0 ∧ b1 = 0 ∧ b2 = 0 ∧ b3 = 0) := fun h => hz (by rw [h.1, h.2.1, h.2.2.1, h.2.2.2]; rfl)
        clear hz HE
        go_wp2
        all_goals first
          | (exfalso; omega)
          | (refine bodyPost_ret (v := rootV b0 b1 b2 b3) (by simp [results, Tryd.results19, go_sem, c0, c1, c2, c3] <;> omega) rfl ⟨by rw [HE2.out], ?_⟩
             exact (((HBZ.out.setCell (by show _ ≤ w.heap.size + 1; omega) _).setCell (by show _ ≤ w.heap.size + 1; omega) _).setCell (by show _ ≤ w.heap.size + 1; omega) _).setCell (by show _ ≤ w.heap.size + 1; omega) _)
theorem fr_i (a : Option Addr) (ss : List ByteArray) (c : Nat) (a' : Option Addr) (ws : List (Int × ByteArray)) (c' : Nat) (n : Int) (w : World) (h : Strs w a ss) (h' : Wrs w a' ws) (hl : ss.length ≤ 1048576) (hl' : ws.length ≤ 1048576) (hs : ∀ s ∈ ss, s.size ≤ 1048576) (hs' : ∀ x ∈ ws, x.2.size ≤ 1048576) (ty : TypeId) (v : Value) (hv : w.cell? ⟨1, 0, none⟩ = some (.iface ty v)) (h0 : w.cell? ⟨0, 0, none⟩ = some (.iface 177 (.agg #[.pointer (some ⟨2, 91, none⟩)]))) (hg : 1 < w.heap.size) :
    Calls Tryd.prog 19 #[diskV a ss.length c a' ws.length c', .int .i64 n] w fun e w' => e = .returned (rtV (frD ss ws n)) ∧ Below w.heap.size w w' := by
  by_cases hy : diskOk ss ws = true ∧ 1 ≤ n ∧ n ≤ 8
  · exact fr_i_yes a ss c a' ws c' n w h h' hl hl' hs hs' ty v hv h0 hg hy.1 hy.2
  · have e : frD ss ws n = rtZ := by unfold frD; rw [if_neg hy]
    rw [e]
    exact fr_i_no a ss c a' ws c' n w h h' hl hl' hs hs' hy
end Go.Proofs.YtbjeomlpcdaieaeDoor
