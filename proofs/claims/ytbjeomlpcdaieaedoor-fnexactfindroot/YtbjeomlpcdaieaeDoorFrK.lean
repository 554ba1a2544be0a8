import Derived.Test.YtbjeomlpcdaieaeDoorFrJ
namespace Go.Proofs.YtbjeomlpcdaieaeDoor
open Go.RowKit
set_option maxRecDepth 4000
set_option linter.unusedVariables false
set_option linter.unusedSimpArgs false
set_option maxHeartbeats 2000000 in
theorem rootat_i (v0 v1 : Value) (x : List Int) (a n : Int) (w : World) (ha : a = 0 ∨ a = 1) (hxl : x.length = 64)
    (HRD : ∀ wx, Below w.heap.size w wx → Calls Tryd.prog 129 #[.agg #[v0, v1], .int .i64 a] wx fun e w' => e = .returned (.tuple #[.agg (x.map (Value.int .u8)).toArray, .bool true]) ∧ Below wx.heap.size wx w')
    (ty : TypeId) (v : Value) (hv : w.cell? ⟨1, 0, none⟩ = some (.iface ty v)) (h0 : w.cell? ⟨0, 0, none⟩ = some (.iface 177 (.agg #[.pointer (some ⟨2, 91, none⟩)]))) (hg : 1 < w.heap.size) :
    Calls Tryd.prog 60 #[.iface 126 (.agg #[v0, v1]), .int .i64 a, .int .i64 n] w fun e w' => e = .returned (rtV ((rootOf (strOfNums x) a n).getD rtZ)) ∧ Below w.heap.size w w' := by
  have hb0 : ∀ o, Below w.heap.size w (w.alloc o) := fun o => (Below.refl _ _).alloc (Nat.le_refl _) _
  rw [← rr_root _ a n ha]
  have HRR := fun wx (hb : Below w.heap.size w wx) => readroot_i (strOfNums x) n wx ty v ((hb.cell (p := ⟨1, 0, none⟩) hg).trans hv) ((hb.cell (p := ⟨0, 0, none⟩) (by show 0 < _; omega)).trans h0) (by have := hb.size; omega)
  have hpos := rr_pos (strOfNums x) n
  obtain ⟨RR, hRR⟩ : ∃ RR, rrOf (strOfNums x) n = RR := ⟨_, rfl⟩
  rw [hRR] at HRR hpos ⊢
  clear hRR hv h0
  obtain ⟨t, h, f, l⟩ := RR
  have hxm : (x.map (Value.int .u8)).toArray.size = 64 := by simp [hxl]
  have HI64 : Hid ((Tryd.prog.info? 98).map (·.size) = some (x.map (Value.int .u8)).length) := by show _ = _; rw [List.length_map, hxl]; kernel_rfl
  have hmc := fun k wx => meth_cover k v0 v1 wx
  obtain ⟨sx, HSX⟩ : ∃ sx, Hid (sx = strOfNums x) := ⟨_, hid rfl⟩
  rw [← HSX.out] at HRR
  have HSC := hid (fun wx => sector_i (t, h, f, l) wx hpos)
  have HRRh := hid HRR
  have HRDh := hid HRD
  clear HRR HRD
  by_cases he : t % 2 = a
  · have hge : (if ((t, h, f, l) : RtT).1 % 2 = a then ((t, h, f, l) : RtT) else rtZ) = (t, h, f, l) := if_pos he
    rw [hge]
    clear hge
    go_enter Tryd.func60, Tryd.ntmps60
    go_wp2_with fail
    refine (HRDh.out _ (hb0 _)).mono ?_
    rintro e w2 ⟨rfl, hb2⟩
    have HR2 := hid ((B4.new w (.int .i64 0) (.int .i64 0) (.int .i64 0) (.int .i64 0) 49).below hb2)
    have HB2 := hid ((hb0 (.cells #[.int .i64 0, .int .i64 0, .int .i64 0, .int .i64 0] 49)).trans (hb2.mono (by simp)))
    clear hb2 hmc
    go_wp2_with (first
      | (with_reducible refine at_store 98 _ _ rfl ?_; refine wpList_store_cells rfl 98 _ _ rfl (x.map (Value.int .u8)) (ints_one x) rfl rfl _ _ (by rw [List.length_map, hxl]; kernel_rfl) HI64.out ?_; intro wx hrow hbx hsx; have hcv := hrow.text (P := Tryd.prog) x 0 64 64 hxl (fun i hi => by simp [List.getD, show i < x.length by omega]) 22 5 9 Tryd.underlying22 Tryd.underlying5 Tryd.underlying9; rw [← HSX.out] at hcv; have HRX := hid (HR2.out.below hbx); have HBX := hid (HB2.out.trans (hbx.mono HB2.out.size)); clear hbx hsx hrow)
      | (go_at_call 86; refine (HRRh.out _ HBX.out).mono ?_; rintro e w3 ⟨rfl, hb3⟩; have HR3 := hid (HRX.out.below hb3); have HB3 := hid (HBX.out.trans (hb3.mono HBX.out.size)); clear hb3)
      | (go_at_call 87; refine (HSC.out _).mono ?_; rintro e w4 ⟨rfl, hb4⟩; have HR4 := hid ((HR3.out.alloc _).below hb4); have hq4 := (B4.new w3 (.int .i64 t) (.int .i64 h) (.int .i64 f) (.int .i64 l) 49).below hb4; have HB4 := hid ((HB3.out.alloc HB3.out.size _).trans (hb4.mono (HB3.out.alloc HB3.out.size _).size)); clear hb4; have r0 := hq4.c0; have r1 := hq4.c1; have r2 := hq4.c2; have r3 := hq4.c3; clear hq4; have hr4 := HR4.out; have c0 := hr4.c0; have c1 := hr4.c1; have c2 := hr4.c2; have c3 := hr4.c3; have f0 := hr4.f0; have f1 := hr4.f1; have f2 := hr4.f2; have f3 := hr4.f3; clear hr4))
    refine bodyPost_ret (v := rootV t h f l) (by simp [results, Tryd.results60, go_sem, c0, c1, c2, c3]) rfl ⟨rfl, ?_⟩
    exact (((HB4.out.setCell (Nat.le_refl _) _).setCell (Nat.le_refl _) _).setCell (Nat.le_refl _) _).setCell (Nat.le_refl _) _
  · have hge : (if ((t, h, f, l) : RtT).1 % 2 = a then ((t, h, f, l) : RtT) else rtZ) = rtZ := if_neg he
    rw [hge]
    clear hge
    go_enter Tryd.func60, Tryd.ntmps60
    go_wp2_with fail
    refine (HRDh.out _ (hb0 _)).mono ?_
    rintro e w2 ⟨rfl, hb2⟩
    have HR2 := hid ((B4.new w (.int .i64 0) (.int .i64 0) (.int .i64 0) (.int .i64 0) 49).below hb2)
    have HB2 := hid ((hb0 (.cells #[.int .i64 0, .int .i64 0, .int .i64 0, .int .i64 0] 49)).trans (hb2.mono (by simp)))
    clear hb2 hmc
    go_wp2_with (first
      | (with_reducible refine at_store 98 _ _ rfl ?_; refine wpList_store_cells rfl 98 _ _ rfl (x.map (Value.int .u8)) (ints_one x) rfl rfl _ _ (by rw [List.length_map, hxl]; kernel_rfl) HI64.out ?_; intro wx hrow hbx hsx; have hcv := hrow.text (P := Tryd.prog) x 0 64 64 hxl (fun i hi => by simp [List.getD, show i < x.length by omega]) 22 5 9 Tryd.underlying22 Tryd.underlying5 Tryd.underlying9; rw [← HSX.out] at hcv; have HRX := hid (HR2.out.below hbx); have HBX := hid (HB2.out.trans (hbx.mono HB2.out.size)); clear hbx hsx hrow)
      | (go_at_call 86; refine (HRRh.out _ HBX.out).mono ?_; rintro e w3 ⟨rfl, hb3⟩; have HR3 := hid (HRX.out.below hb3); have HB3 := hid (HBX.out.trans (hb3.mono HBX.out.size)); clear hb3)
      | (go_at_call 87; refine (HSC.out _).mono ?_; rintro e w4 ⟨rfl, hb4⟩; have HR4 := hid ((HR3.out.alloc _).below hb4); have hq4 := (B4.new w3 (.int .i64 t) (.int .i64 h) (.int .i64 f) (.int .i64 l) 49).below hb4; have HB4 := hid ((HB3.out.alloc HB3.out.size _).trans (hb4.mono (HB3.out.alloc HB3.out.size _).size)); clear hb4; have r0 := hq4.c0; have r1 := hq4.c1; have r2 := hq4.c2; have r3 := hq4.c3; clear hq4; have hr4 := HR4.out; have c0 := hr4.c0; have c1 := hr4.c1; have c2 := hr4.c2; have c3 := hr4.c3; have f0 := hr4.f0; have f1 := hr4.f1; have f2 := hr4.f2; have f3 := hr4.f3; clear hr4))
    refine bodyPost_ret (v := rootV 0 0 0 0) (by simp [results, Tryd.results60, go_sem, c0, c1, c2, c3]) rfl ⟨rfl, ?_⟩
    exact (((HB4.out.setCell (Nat.le_refl _) _).setCell (Nat.le_refl _) _).setCell (Nat.le_refl _) _).setCell (Nat.le_refl _) _
end Go.Proofs.YtbjeomlpcdaieaeDoor
