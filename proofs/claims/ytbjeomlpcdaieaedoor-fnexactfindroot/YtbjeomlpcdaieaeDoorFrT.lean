import Derived.Test.YtbjeomlpcdaieaeDoorFrS
import Derived.Test.YtbjeomlpcdaieaeDoorSyn
import Derived.Test.YtbjeomlpcdaieaeDoorB4s
import Derived.Test.YtbjeomlpcdaieaeDoorFrD
namespace Go.Proofs.YtbjeomlpcdaieaeDoor
open Go.RowKit
set_option maxRecDepth 4000
set_option linter.unusedVariables false
set_option linter.unusedSimpArgs false
@[reducible] def rtW (x : RtT) : Value := rootV x.1 x.2.1 x.2.2.1 x.2.2.2
theorem syncs_le : ∀ (ws : List (Int × ByteArray)) (ss : List ByteArray), (∀ s ∈ ss, s.size ≤ 1048576) → (∀ x ∈ ws, x.2.size ≤ 1048576) → ∀ k, ((syncs ws ss).getD k ByteArray.empty).size ≤ 1048576
  | [], ss, h, _, k => by
    show (ss.getD k ByteArray.empty).size ≤ _
    by_cases hk : k < ss.length
    · have e : ss.getD k ByteArray.empty = ss[k] := by simp [List.getD, hk]
      rw [e]; exact h _ (List.getElem_mem hk)
    · have e : ss.getD k ByteArray.empty = ByteArray.empty := by simp [List.getD, hk]
      rw [e]; decide
  | x :: r, ss, h, h', k => syncs_le r _ (fun s hs => by
      rcases List.mem_or_eq_of_mem_set hs with h3 | h3
      · exact h s h3
      · rw [h3]; exact h' x (List.mem_cons_self ..)) (fun y hy => h' y (List.mem_cons_of_mem _ hy)) k
set_option maxHeartbeats 4000000 in
theorem fr_s_yes (a : Option Addr) (ss : List ByteArray) (c : Nat) (a' : Option Addr) (ws : List (Int × ByteArray)) (c' : Nat) (n : Int) (w : World) (h : Strs w a ss) (h' : Wrs w a' ws) (hl : ss.length ≤ 1048576) (hl' : ws.length ≤ 1048576) (hs : ∀ s ∈ ss, s.size ≤ 1048576) (hs' : ∀ x ∈ ws, x.2.size ≤ 1048576) (hok : diskOk ss ws = true) (hn : 1 ≤ n ∧ n ≤ 8) :
    Calls Tryd.prog 17 #[diskV a ss.length c a' ws.length c', .int .i64 n] w fun e w' => e = .returned (rtW (frD ss ws n)) ∧ Below w.heap.size w w' := by
  have hb0 : ∀ o1 o2, Below w.heap.size w ((w.alloc o1).alloc o2) := fun o1 o2 => ((Below.refl _ _).alloc (Nat.le_refl _) _).alloc (by simp) _
  have hd : decide (1 ≤ n ∧ n ≤ 8) = true := decide_eq_true hn
  obtain ⟨RES, HRES⟩ : ∃ RES, Hid (RES = frD ss ws n) := ⟨_, hid rfl⟩
  rw [← HRES.out]
  obtain ⟨⟨hn1, hn2, hn3⟩, h64, hw⟩ := diskOk_of hok
  go_enter Tryd.func17, Tryd.ntmps17
  go_wp2_with fail
  refine (valid_s a ss c a' ws c' _ (h.below (hb0 _ _)) (h'.below (hb0 _ _)) hl hl' hs hs').mono ?_
  rw [hok]
  rintro e w1 ⟨rfl, hb1⟩
  have HX := hid ((((Cx.new w (.slice a ss.length c) (.slice a' ws.length c') 31)).below (below_new _ (.cells #[.int .i64 0, .int .i64 0, .int .i64 0, .int .i64 0] 49))).below hb1)
  have HR1 := hid ((B4.new (w.alloc (.cells #[.slice a ss.length c, .slice a' ws.length c'] 31)) (.int .i64 0) (.int .i64 0) (.int .i64 0) (.int .i64 0) 49).below hb1)
  have HB1 := hid ((hb0 (.cells #[.slice a ss.length c, .slice a' ws.length c'] 31) (.cells #[.int .i64 0, .int .i64 0, .int .i64 0, .int .i64 0] 49)).trans (hb1.mono (by simp <;> omega)))
  clear hb1
  have q0 := HX.out.c0
  have q1 := HX.out.c1
  go_wp2_with (first | (go_at_call 34; refine (width_s _ _).mono ?_; rw [hd]; rintro e wz ⟨rfl, hwz⟩; rw [hwz]; clear hwz wz))
  refine (copy_s a ss c a' ws c' _ (h.below HB1.out) (h'.below HB1.out) hn2 hn3).mono ?_
  rintro e w2 ⟨g, c1, g', c1', rfl, hod, hg, hg', hb2⟩
  have HB2 := hid (Below.then HB1.out (Nat.le_refl _) hb2)
  have HR2 := hid (HR1.out.below hb2)
  have hw12 := hb2.size
  have hlen : ss.length ≠ 0 := by omega
  have hg1 : w1.heap.size ≤ g := hg g (by unfold blk; rw [if_neg hlen]; rfl)
  have hrs : Row w2 g (ss.map Value.string) := by
    rcases hod.s with e | ⟨b, e, hr⟩
    · exact absurd (congrArg List.length e) (by rw [List.length_map, List.length_nil]; omega)
    · cases e; exact hr
  have hne : wcells ws ≠ [] → g' ≠ g := fun hc => by
    have hl : ws.length ≠ 0 := fun e => hc (by rw [List.eq_nil_of_length_eq_zero e]; rfl)
    rcases hod.ne with e | e | e
    · unfold blk at e; rw [if_neg hlen] at e; exact absurd e (by simp)
    · unfold blk at e; rw [if_neg hl] at e; exact absurd e (by simp)
    · unfold blk at e; rw [if_neg hlen, if_neg hl] at e; exact fun e2 => e (by rw [e2])
  have HY := hid (sync_s g g' ss c1 ws c1' w2 hrs hod.p hne hn2 hn3 (fun x hx => by have := of_decide_eq_true (hw x hx); omega))
  have hwg : w.heap.size ≤ g := Nat.le_trans HB1.out.size hg1
  have hRlt := HR1.out.lt
  clear q0 q1 hod hg hg' hb2 hrs hne
  go_wp2_with fail
  refine HY.out.mono ?_
  rintro e w3 ⟨x, rfl, hx1, hx2, hr3, hgr⟩
  have HB3 := hid (HB2.out.trans (grown_below hgr HB2.out.size (fun k hk => by cases hk; exact hwg)))
  have HR3 := hid (HR2.out.past (N := w1.heap.size) hRlt (grown_below hgr hw12 (fun k hk => by cases hk; exact hg1)))
  have hgl3 : g < w3.heap.size := hr3.lt
  have hRl3 := HR3.out.lt
  rw [World.size_alloc] at HR3 hRl3
  have hwl3 : w.heap.size ≤ w3.heap.size := HB3.out.size
  obtain ⟨S, HS⟩ : ∃ S : Nat → ByteArray, Hid (S = fun k => (syncs ws ss).getD k ByteArray.empty) := ⟨_, hid rfl⟩
  have HSZ : Hid (∀ k, (S k).size ≤ 1048576) := fun k => by
    rw [HS.out]
    exact syncs_le ws ss hs hs' k
  have HRW : Hid (∀ k, k < ss.length → w3.cell? ⟨g, k, none⟩ = some (.string (S k))) := fun k hk => by
    rw [HS.out]
    exact hr3.cell k _ (by simp [List.getD, syncs_length, hk])
  have HF : Hid (RES = rtMax (rtMax (0, 0, 1, 0) (rootOf (S 0) 0 n)) (rootOf (S 1) 1 n)) := by
    show _ = _
    rw [HRES.out, HS.out]
    unfold frD
    rw [if_pos ⟨hok, hn⟩]
    rfl
  clear HY HR2 HR1 HB2 HB1 hr3 hgr HX
  go_wp2_with fail
  have hbx := ((B4.new (w3.alloc (.cells #[.slice (some ⟨g, 0, none⟩) ss.length c1, .slice (some ⟨x, 0, none⟩) 0 0] 31)) (.int .i64 0) (.int .i64 0) (.int .i64 1) (.int .i64 0) 49))
  have hbw : Below w3.heap.size w3 ((w3.alloc (.cells #[.slice (some ⟨g, 0, none⟩) ss.length c1, .slice (some ⟨x, 0, none⟩) 0 0] 31)).alloc (.cells #[.int .i64 0, .int .i64 0, .int .i64 1, .int .i64 0] 49)) := ((Below.refl _ _).alloc (Nat.le_refl _) _).alloc (by simp) _
  have hx0 : ((w3.alloc (.cells #[.slice (some ⟨g, 0, none⟩) ss.length c1, .slice (some ⟨x, 0, none⟩) 0 0] 31)).alloc (.cells #[.int .i64 0, .int .i64 0, .int .i64 1, .int .i64 0] 49)).cell? ⟨w3.heap.size, 0, none⟩ = some (.slice (some ⟨g, 0, none⟩) ss.length c1) := by go_simp
  have hsb : ((w3.alloc (.cells #[.slice (some ⟨g, 0, none⟩) ss.length c1, .slice (some ⟨x, 0, none⟩) 0 0] 31)).alloc (.cells #[.int .i64 0, .int .i64 0, .int .i64 1, .int .i64 0] 49)).heap.size = w3.heap.size + 2 := by simp
  obtain ⟨wb, HWB⟩ : ∃ wb, wb = ((w3.alloc (.cells #[.slice (some ⟨g, 0, none⟩) ss.length c1, .slice (some ⟨x, 0, none⟩) 0 0] 31)).alloc (.cells #[.int .i64 0, .int .i64 0, .int .i64 1, .int .i64 0] 49)) := ⟨_, rfl⟩
  rw [World.size_alloc] at hbx
  rw [← HWB] at hbx hbw hx0 hsb ⊢
  have HX0 := hid hx0
  have HBX := hid hbx
  have HRWB : Hid (∀ k, k < ss.length → wb.cell? ⟨g, k, none⟩ = some (.string (S k))) := fun k hk => (hbw.cell (p := ⟨g, k, none⟩) hgl3).trans (HRW.out k hk)
  have HRB := hid (HR3.out.below hbw)
  have HBB := hid (HB3.out.trans (hbw.mono HB3.out.size))
  clear HWB hbx hx0 hbw HRW HR3 HB3
  go_loopw [7] (fun i wr => ∃ (k : Nat) (b : RtT), k ≤ 2 ∧ i = .int .i64 (k : Int) ∧ Hid ((k = 0 → b = (0, 0, 1, 0)) ∧ (k = 1 → b = rtMax (0, 0, 1, 0) (rootOf (S 0) 0 n)) ∧ (k = 2 → b = RES)) ∧ Below (w3.heap.size + 1) wb wr ∧ B4 wr (w3.heap.size + 1) (.int .i64 b.1) (.int .i64 b.2.1) (.int .i64 b.2.2.1) (.int .i64 b.2.2.2)) (fun i _ => 2 - (intOf i).toNat)
  case atStart => exact ⟨0, (0, 0, 1, 0), by omega, rfl, ⟨fun _ => rfl, fun h => absurd h (by decide), fun h => absurd h (by decide)⟩, Below.refl _ _, HBX.out⟩
  case round =>
    obtain ⟨k, ⟨b0, b1, b2, b3⟩, hk, rfl, HBk, hbel, hbest⟩ := hrel
    have HBEL := hid hbel
    have HBST := hid hbest
    by_cases hlt : k < 2
    · have hkl : k < ss.length := by omega
      have hkl' : (k : Int) < (ss.length : Int) := by omega
      have hlt' : (k : Int) < 2 := by omega
      have x0 : wr.cell? ⟨w3.heap.size, 0, none⟩ = some (.slice (some ⟨g, 0, none⟩) ss.length c1) := (hbel.cell (p := ⟨w3.heap.size, 0, none⟩) (by show w3.heap.size < _; omega)).trans HX0.out
      have xk : wr.cell? ⟨g, k, none⟩ = some (.string (S k)) := (hbel.cell (p := ⟨g, k, none⟩) (by show g < _; omega)).trans (HRWB.out k hkl)
      clear hbel hbest
      have HNX : Hid (∀ b' : RtT, b' = rtMax (b0, b1, b2, b3) (rootOf (S k) (k : Int) n) → (k + 1 = 0 → b' = (0, 0, 1, 0)) ∧ (k + 1 = 1 → b' = rtMax (0, 0, 1, 0) (rootOf (S 0) 0 n)) ∧ (k + 1 = 2 → b' = RES)) := fun b' hb' => by
        refine ⟨fun h => absurd h (by omega), fun h => ?_, fun h => ?_⟩
        · have hk0 : k = 0 := by omega
          subst hk0
          rw [hb', HBk.out.1 rfl]
          rfl
        · have hk1 : k = 1 := by omega
          subst hk1
          rw [hb', HBk.out.2.1 rfl, HF.out]
          rfl
      go_wp2_with fail
      refine (l5at_s (S k) (k : Int) n _ (HSZ.out k)).mono ?_
      rintro e w5 ⟨⟨t, h9, f, l, bb, rfl, hro⟩, hb5⟩
      have HB5 := hid (HBEL.out.trans (hb5.mono (by have := HBEL.out.size; omega)))
      have HT5 := hid (HBST.out.below hb5)
      have HRO := hid hro
      clear hro hb5 HBEL HBST x0 xk
      have hs5 : w3.heap.size + 2 ≤ w5.heap.size := by have := HB5.out.size; omega
      have c0 := fun o => (HT5.out.alloc o).c0
      have c1 := fun o => (HT5.out.alloc o).c1
      have c2 := fun o => (HT5.out.alloc o).c2
      have c3 := fun o => (HT5.out.alloc o).c3
      have f0 := fun o => (HT5.out.alloc o).f0
      have f1 := fun o => (HT5.out.alloc o).f1
      have f2 := fun o => (HT5.out.alloc o).f2
      have f3 := fun o => (HT5.out.alloc o).f3
      have HBA := hid (fun o => HB5.out.alloc (by omega) o)
      cases bb with
      | false =>
        have hm := HNX.out (b0, b1, b2, b3) (by rw [HRO.out]; rfl)
        have HM := hid hm
        clear hm
        go_wp2
        go_roundw
        case rel => exact ⟨k + 1, (b0, b1, b2, b3), by omega, by go_num, HM.out, HBA.out _, HT5.out.alloc _⟩
        case measure => simp [intOf]; omega
      | true =>
        by_cases hgt : b0 < t
        · have hm := HNX.out (t, h9, f, l) (by rw [HRO.out]; simp [rtMax, hgt])
          have HM := hid hm
          clear hm
          go_wp2
          go_roundw
          case rel => exact ⟨k + 1, (t, h9, f, l), by omega, by go_num, HM.out, ((((HBA.out _).setCell (Nat.le_refl _) _).setCell (Nat.le_refl _) _).setCell (Nat.le_refl _) _).setCell (Nat.le_refl _) _, (HT5.out.alloc _).set4 _ _ _ _⟩
          case measure => simp [intOf]; omega
        · have hm := HNX.out (b0, b1, b2, b3) (by rw [HRO.out]; simp [rtMax, hgt])
          have HM := hid hm
          clear hm
          go_wp2
          go_roundw
          case rel => exact ⟨k + 1, (b0, b1, b2, b3), by omega, by go_num, HM.out, HBA.out _, HT5.out.alloc _⟩
          case measure => simp [intOf]; omega
    · have hk2 : k = 2 := by omega
      subst hk2
      have HE : Hid (RES = (b0, b1, b2, b3)) := (HBk.out.2.2 rfl).symm
      have hr := HRB.out.past (N := w3.heap.size + 1) (by omega) hbel
      have c0 := hr.c0
      have c1 := hr.c1
      have c2 := hr.c2
      have c3 := hr.c3
      have f0 := hr.f0
      have f1 := hr.f1
      have f2 := hr.f2
      have f3 := hr.f3
      have d0 := hbest.c0
      have d1 := hbest.c1
      have d2 := hbest.c2
      have d3 := hbest.c3
      clear hr hbel hbest
      go_wp2
      refine bodyPost_ret (v := rootV b0 b1 b2 b3) (by simp [results, Tryd.results17, go_sem, c0, c1, c2, c3]) rfl ⟨by rw [HE.out], ?_⟩
      have hbz := HBB.out.trans (HBEL.out.mono (by omega))
      exact (((hbz.setCell (by show _ ≤ w.heap.size + 1; omega) _).setCell (by show _ ≤ w.heap.size + 1; omega) _).setCell (by show _ ≤ w.heap.size + 1; omega) _).setCell (by show _ ≤ w.heap.size + 1; omega) _
theorem fr_s_no (a : Option Addr) (ss : List ByteArray) (c : Nat) (a' : Option Addr) (ws : List (Int × ByteArray)) (c' : Nat) (n : Int) (w : World) (h : Strs w a ss) (h' : Wrs w a' ws) (hl : ss.length ≤ 1048576) (hl' : ws.length ≤ 1048576) (hs : ∀ s ∈ ss, s.size ≤ 1048576) (hs' : ∀ x ∈ ws, x.2.size ≤ 1048576) (hno : ¬ (diskOk ss ws = true ∧ 1 ≤ n ∧ n ≤ 8)) :
    Calls Tryd.prog 17 #[diskV a ss.length c a' ws.length c', .int .i64 n] w fun e w' => e = .returned (rootV 0 0 0 0) ∧ Below w.heap.size w w' := by
  have hb0 : ∀ o1 o2, Below w.heap.size w ((w.alloc o1).alloc o2) := fun o1 o2 => ((Below.refl _ _).alloc (Nat.le_refl _) _).alloc (by simp) _
  cases hok : diskOk ss ws with
  | false =>
    clear hno
    go_enter Tryd.func17, Tryd.ntmps17
    go_wp2_with fail
    refine (valid_s a ss c a' ws c' _ (h.below (hb0 _ _)) (h'.below (hb0 _ _)) hl hl' hs hs').mono ?_
    rw [hok]
    rintro e w1 ⟨rfl, hb1⟩
    have hr := ((B4.new (w.alloc (.cells #[.slice a ss.length c, .slice a' ws.length c'] 31)) (.int .i64 0) (.int .i64 0) (.int .i64 0) (.int .i64 0) 49).below hb1)
    rw [World.size_alloc] at hr
    have HB1 := hid ((hb0 (.cells #[.slice a ss.length c, .slice a' ws.length c'] 31) (.cells #[.int .i64 0, .int .i64 0, .int .i64 0, .int .i64 0] 49)).trans (hb1.mono (by simp <;> omega)))
    clear hb1
    have c0 := hr.c0
    have c1 := hr.c1
    have c2 := hr.c2
    have c3 := hr.c3
    have f0 := hr.f0
    have f1 := hr.f1
    have f2 := hr.f2
    have f3 := hr.f3
    clear hr
    go_wp2
    refine bodyPost_ret (v := rootV 0 0 0 0) (by simp [results, Tryd.results17, go_sem, c0, c1, c2, c3]) rfl ⟨rfl, ?_⟩
    exact (((HB1.out.setCell (by show _ ≤ w.heap.size + 1; omega) _).setCell (by show _ ≤ w.heap.size + 1; omega) _).setCell (by show _ ≤ w.heap.size + 1; omega) _).setCell (by show _ ≤ w.heap.size + 1; omega) _
  | true =>
    have hd : decide (1 ≤ n ∧ n ≤ 8) = false := decide_eq_false (fun x => hno ⟨hok, x⟩)
    clear hno
    go_enter Tryd.func17, Tryd.ntmps17
    go_wp2_with fail
    refine (valid_s a ss c a' ws c' _ (h.below (hb0 _ _)) (h'.below (hb0 _ _)) hl hl' hs hs').mono ?_
    rw [hok]
    rintro e w1 ⟨rfl, hb1⟩
    have hr := ((B4.new (w.alloc (.cells #[.slice a ss.length c, .slice a' ws.length c'] 31)) (.int .i64 0) (.int .i64 0) (.int .i64 0) (.int .i64 0) 49).below hb1)
    rw [World.size_alloc] at hr
    have HB1 := hid ((hb0 (.cells #[.slice a ss.length c, .slice a' ws.length c'] 31) (.cells #[.int .i64 0, .int .i64 0, .int .i64 0, .int .i64 0] 49)).trans (hb1.mono (by simp <;> omega)))
    clear hb1
    have c0 := hr.c0
    have c1 := hr.c1
    have c2 := hr.c2
    have c3 := hr.c3
    have f0 := hr.f0
    have f1 := hr.f1
    have f2 := hr.f2
    have f3 := hr.f3
    clear hr
    go_wp2_with (first | (go_at_call 34; refine (width_s _ _).mono ?_; rw [hd]; rintro e wz ⟨rfl, hwz⟩; rw [hwz]; clear hwz wz))
    refine bodyPost_ret (v := rootV 0 0 0 0) (by simp [results, Tryd.results17, go_sem, c0, c1, c2, c3]) rfl ⟨rfl, ?_⟩
    exact (((HB1.out.setCell (by show _ ≤ w.heap.size + 1; omega) _).setCell (by show _ ≤ w.heap.size + 1; omega) _).setCell (by show _ ≤ w.heap.size + 1; omega) _).setCell (by show _ ≤ w.heap.size + 1; omega) _
theorem fr_s (a : Option Addr) (ss : List ByteArray) (c : Nat) (a' : Option Addr) (ws : List (Int × ByteArray)) (c' : Nat) (n : Int) (w : World) (h : Strs w a ss) (h' : Wrs w a' ws) (hl : ss.length ≤ 1048576) (hl' : ws.length ≤ 1048576) (hs : ∀ s ∈ ss, s.size ≤ 1048576) (hs' : ∀ x ∈ ws, x.2.size ≤ 1048576) :
    Calls Tryd.prog 17 #[diskV a ss.length c a' ws.length c', .int .i64 n] w fun e w' => e = .returned (rtW (frD ss ws n)) ∧ Below w.heap.size w w' := by
  by_cases hy : diskOk ss ws = true ∧ 1 ≤ n ∧ n ≤ 8
  · exact fr_s_yes a ss c a' ws c' n w h h' hl hl' hs hs' hy.1 hy.2
  · have e : frD ss ws n = rtZ := by unfold frD; rw [if_neg hy]
    rw [e]
    exact fr_s_no a ss c a' ws c' n w h h' hl hl' hs hs' hy
end Go.Proofs.YtbjeomlpcdaieaeDoor
