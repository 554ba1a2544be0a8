import Derived.Test.YtnmaknnnmjfhkaeDoorMgXScan12
import Derived.Test.YtnmaknnnmjfhkaeDoorQxScanScE
import Derived.Test.YtnmaknnnmjfhkaeDoorQxScanFnB

set_option maxHeartbeats 16000000
set_option maxRecDepth 8000
namespace Go.Proofs.YtnmaknnnmjfhkaeDoor
open Go.RowKit
set_option maxRecDepth 4000
set_option linter.unusedVariables false
set_option linter.unusedSimpArgs false
set_option maxHeartbeats 16000000

/-- The page at a place of a region. -/
theorem rpage_i (v0 v1 : Value) (x : List Int) (frm size n : Int) (m : Int) (w : World) (hxl : x.length = 64) (hfm : IntKind.i64.wrap (frm + m) = frm + m)
    (HRD : ∀ wx, Below w.heap.size w wx → Calls Tryd.prog 129 #[.agg #[v0, v1], .int .i64 (frm + m)] wx fun e w' => e = .returned (.tuple #[.agg (x.map (Value.int .u8)).toArray, .bool true]) ∧ Below wx.heap.size wx w')
    (ty : TypeId) (v : Value) (hv : w.cell? ⟨1, 0, none⟩ = some (.iface ty v)) (h0 : w.cell? ⟨0, 0, none⟩ = some (.iface 177 (.agg #[.pointer (some ⟨2, 91, none⟩)]))) (hg : 1 < w.heap.size) :
    Calls Tryd.prog 77 #[regV v0 v1 frm size n, .int .i64 m] w fun e w' => e = .returned (rpV (rpRes (strOfNums x) n)) ∧ Below w.heap.size w w' := by
  have hb0 : ∀ o1 o2, Below w.heap.size w ((w.alloc o1).alloc o2) := fun o1 o2 => ((Below.refl _ _).alloc (Nat.le_refl _) _).alloc (by simp) _
  have HRP := hid (fun wx (hb : Below w.heap.size w wx) => readpage_i (strOfNums x) n wx ty v ((hb.cell (p := ⟨1, 0, none⟩) hg).trans hv) ((hb.cell (p := ⟨0, 0, none⟩) (by show 0 < _; omega)).trans h0) (by have := hb.size; omega))
  obtain ⟨k, l, q, p, b, hRR⟩ : ∃ k l q p b, rpV (rpRes (strOfNums x) n) = .tuple #[pageV k l q p, .bool b] := by
    cases rpRes (strOfNums x) n with
    | none => exact ⟨_, _, _, _, _, rfl⟩
    | some y => obtain ⟨k, l, q, p⟩ := y; exact ⟨_, _, _, _, _, rfl⟩
  rw [hRR] at HRP ⊢
  clear hRR hv h0
  have hxm : (x.map (Value.int .u8)).toArray.size = 64 := by simp [hxl]
  have HI64 : Hid ((Tryd.prog.info? 98).map (·.size) = some (x.map (Value.int .u8)).length) := by show _ = _; rw [List.length_map, hxl]; kernel_rfl
  have hmc := fun k wx => meth_cover k v0 v1 wx
  obtain ⟨sx, HSX⟩ : ∃ sx, Hid (sx = strOfNums x) := ⟨_, hid rfl⟩
  rw [← HSX.out] at HRP
  have HRDh := hid HRD
  clear HRD
  go_enter Tryd.func77, Tryd.ntmps77
  go_wp2_with fail
  refine (HRDh.out _ (hb0 _ _)).mono ?_
  rintro e w2 ⟨rfl, hb2⟩
  have HQ2 := hid (((B4.new w (.iface 126 (.agg #[v0, v1])) (.int .i64 frm) (.int .i64 size) (.int .i64 n) 82).alloc (.cells #[.int .i64 0, .int .i64 0, .int .i64 0, .string ByteArray.empty] 42)).below hb2)
  have hr2 := (B4.new (w.alloc (.cells #[.iface 126 (.agg #[v0, v1]), .int .i64 frm, .int .i64 size, .int .i64 n] 82)) (.int .i64 0) (.int .i64 0) (.int .i64 0) (.string ByteArray.empty) 42).below hb2
  rw [World.size_alloc] at hr2
  have HR2 := hid hr2
  have HB2 := hid ((hb0 (.cells #[.iface 126 (.agg #[v0, v1]), .int .i64 frm, .int .i64 size, .int .i64 n] 82) (.cells #[.int .i64 0, .int .i64 0, .int .i64 0, .string ByteArray.empty] 42)).trans (hb2.mono (by simp <;> omega)))
  clear hb2 hmc hr2
  go_wp2_with (first
      | (with_reducible refine at_store 98 _ _ rfl ?_; refine wpList_store_cells rfl 98 _ _ rfl (x.map (Value.int .u8)) (ints_one x) rfl rfl _ _ (by rw [List.length_map, hxl]; kernel_rfl) HI64.out ?_; intro wx hrow hbx hsx; have hcv := hrow.text (P := Tryd.prog) x 0 64 64 hxl (fun i hi => by simp [List.getD, show i < x.length by omega]) 22 5 9 Tryd.underlying22 Tryd.underlying5 Tryd.underlying9; rw [← HSX.out] at hcv; have hcvd := hrow.drew.text (P := Tryd.prog) x 0 64 64 hxl (fun i hi => by simp [List.getD, show i < x.length by omega]) 22 5 9 Tryd.underlying22 Tryd.underlying5 Tryd.underlying9; rw [← HSX.out] at hcvd; have HRX := hid (HR2.out.below hbx); have HQX := hid (HQ2.out.below hbx); have HBX := hid (HB2.out.trans (hbx.mono HB2.out.size)); clear hbx hsx hrow)
      | fail)
  have r0 := HRX.out.c0
  have r1 := HRX.out.c1
  have r2 := HRX.out.c2
  have r3 := HRX.out.c3
  have f0 := HRX.out.f0
  have f1 := HRX.out.f1
  have f2 := HRX.out.f2
  have f3 := HRX.out.f3
  have q3 := HQX.out.c3
  have hcv' : (convert 22 9 (.slice (some ⟨w2.heap.size, 0, none⟩) 64 64)).run Tryd.prog wx.drew = .ok (.string sx) wx.drew := hcvd
  go_region_with (first | (go_at_call 93; refine (HRP.out _ (HBX.out.drew)).mono ?_; rintro e w3 ⟨rfl, hb3⟩; have hr3 := HRX.out.drew.below hb3; have HB3 := hid (HBX.out.drew.trans (hb3.mono HBX.out.drew.size)); have c0 := hr3.c0; have c1 := hr3.c1; have c2 := hr3.c2; have c3 := hr3.c3; have f0 := hr3.f0; have f1 := hr3.f1; have f2 := hr3.f2; have f3 := hr3.f3; clear hb3 hr3))
  all_goals
    go_wp2
    refine bodyPost_ret (v := .tuple #[pageV k l q p, .bool b]) (by simp [results, Tryd.results77, go_sem, c0, c1, c2, c3]) rfl ⟨rfl, ?_⟩
    exact (((HB3.out.setCell (by show _ ≤ w.heap.size + 1; omega) _).setCell (by show _ ≤ w.heap.size + 1; omega) _).setCell (by show _ ≤ w.heap.size + 1; omega) _).setCell (by show _ ≤ w.heap.size + 1; omega) _
end Go.Proofs.YtnmaknnnmjfhkaeDoor

namespace Go.Proofs.YtnmaknnnmjfhkaeDoor
open Go.RowKit
set_option maxRecDepth 4000
set_option linter.unusedVariables false
set_option linter.unusedSimpArgs false

set_option maxHeartbeats 16000000 in
theorem goes_i (wk wl wm : Int) (wp : ByteArray) (k l m : Int) (p : ByteArray) (w : World) : Calls Tryd.prog 46 #[pageV wk wl wm wp, pageV k l m p] w fun e w' => e = .returned (.bool (goesP wk wl k l)) ∧ Below w.heap.size w w' := by
  have hb2 : ∀ o1 o2, Below w.heap.size w ((w.alloc o1).alloc o2) := fun o1 o2 => ((Below.refl _ _).alloc (Nat.le_refl _) _).alloc (by simp) _
  rw [← goes_eq]
  obtain ⟨B, hB⟩ : ∃ B, goesI wk wl k l = B := ⟨_, rfl⟩
  have HB := hid hB
  rw [hB]
  clear hB
  by_cases h12 : k = 1 ∨ k = 2
  · by_cases hl : l = wl
    · have e : B = true := by rw [← HB.out]; unfold goesI; rw [if_pos h12]; simp [hl]
      subst e
      subst hl
      clear HB
      rcases h12 with rfl | rfl <;> (go_enter Tryd.func46, Tryd.ntmps46; go_wp2; all_goals (go_ret; exact ⟨rfl, hb2 _ _⟩))
    · have hlb : (l == wl) = false := by simp [hl]
      by_cases hw : wk = 1
      · subst hw
        have e : B = false := by rw [← HB.out]; unfold goesI; rw [if_pos h12]; simp [hl]
        subst e
        clear HB
        rcases h12 with rfl | rfl <;> (go_enter Tryd.func46, Tryd.ntmps46; go_wp2; all_goals (go_ret; exact ⟨rfl, hb2 _ _⟩))
      · have hwb : (wk == 1) = false := by simp [hw]
        by_cases hlt : wl < l
        · have e : B = true := by rw [← HB.out]; unfold goesI; rw [if_pos h12]; simp [hw, hlt]
          subst e
          clear HB
          rcases h12 with rfl | rfl <;> (go_enter Tryd.func46, Tryd.ntmps46; go_wp2; all_goals (go_ret; exact ⟨by simp [hlt], hb2 _ _⟩))
        · have e : B = false := by rw [← HB.out]; unfold goesI; rw [if_pos h12]; simp [hw, hlt, hl]
          subst e
          clear HB
          rcases h12 with rfl | rfl <;> (go_enter Tryd.func46, Tryd.ntmps46; go_wp2; all_goals (go_ret; exact ⟨by simp [hlt], hb2 _ _⟩))
  · have hk1 : ¬ k = 1 := fun e => h12 (.inl e)
    have hk2 : ¬ k = 2 := fun e => h12 (.inr e)
    have hk1b : (k == 1) = false := by simp [hk1]
    have hk2b : (k == 2) = false := by simp [hk2]
    by_cases h3 : k = 3
    · subst h3
      by_cases hle : wl ≤ l
      · by_cases hw : wk = 1
        · subst hw
          have e : B = false := by rw [← HB.out]; unfold goesI; simp
          subst e
          clear HB h12
          go_enter Tryd.func46, Tryd.ntmps46
          go_wp2
          all_goals (go_ret; exact ⟨rfl, hb2 _ _⟩)
        · have hwb : (wk == 1) = false := by simp [hw]
          have e : B = true := by rw [← HB.out]; unfold goesI; simp [hw, hle]
          subst e
          clear HB h12
          go_enter Tryd.func46, Tryd.ntmps46
          go_wp2
          all_goals (go_ret; exact ⟨rfl, hb2 _ _⟩)
      · have e : B = false := by rw [← HB.out]; unfold goesI; simp [hle]
        subst e
        clear HB h12
        go_enter Tryd.func46, Tryd.ntmps46
        go_wp2
        all_goals (go_ret; exact ⟨rfl, hb2 _ _⟩)
    · have hk3b : (k == 3) = false := by simp [h3]
      have e : B = false := by rw [← HB.out]; unfold goesI; rw [if_neg h12, if_neg h3]
      subst e
      clear HB h12
      go_enter Tryd.func46, Tryd.ntmps46
      go_wp2
      all_goals (go_ret; exact ⟨rfl, hb2 _ _⟩)
theorem there_i (n : Nat) (f s : Int) (hn : n ≤ 1048576) (hf0 : -9223372036854775808 ≤ f) (hf1 : f ≤ 9223372036854775807) (w : World) : Calls Tryd.prog 43 #[.int .i64 (n : Int), .int .i64 f, .int .i64 s] w fun e w' => e = .returned (.bool (decide (0 ≤ f ∧ 0 ≤ s ∧ s ≤ (n : Int) - f))) ∧ w' = w := by
  by_cases h1 : 0 ≤ f
  · have hw : IntKind.i64.wrap ((n : Int) - f) = (n : Int) - f := by simp [IntKind.wrap, IntKind.bits, IntKind.signed]; omega
    by_cases h2 : 0 ≤ s
    · by_cases h3 : s ≤ (n : Int) - f
      · have e : decide (0 ≤ f ∧ 0 ≤ s ∧ s ≤ (n : Int) - f) = true := decide_eq_true ⟨h1, h2, h3⟩
        rw [e]
        go_enter Tryd.func43, Tryd.ntmps43
        go_wp2
        go_ret
        exact ⟨by simp [h3], rfl⟩
      · have e : decide (0 ≤ f ∧ 0 ≤ s ∧ s ≤ (n : Int) - f) = false := decide_eq_false (fun h => h3 h.2.2)
        rw [e]
        go_enter Tryd.func43, Tryd.ntmps43
        go_wp2
        go_ret
        exact ⟨by simp [h3], rfl⟩
    · have e : decide (0 ≤ f ∧ 0 ≤ s ∧ s ≤ (n : Int) - f) = false := decide_eq_false (fun h => h2 h.2.1)
      rw [e]
      go_enter Tryd.func43, Tryd.ntmps43
      go_wp2
      go_ret
      exact ⟨rfl, rfl⟩
  · have e : decide (0 ≤ f ∧ 0 ≤ s ∧ s ≤ (n : Int) - f) = false := decide_eq_false (fun h => h1 h.1)
    rw [e]
    go_enter Tryd.func43, Tryd.ntmps43
    go_wp2
    go_ret
    exact ⟨rfl, rfl⟩
end Go.Proofs.YtnmaknnnmjfhkaeDoor
