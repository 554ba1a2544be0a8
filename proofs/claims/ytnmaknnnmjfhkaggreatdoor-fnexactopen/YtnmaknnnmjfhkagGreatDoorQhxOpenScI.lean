import Derived.Test.YtnmaknnnmjfhkagGreatDoorMhXOpen3
import Derived.Test.YtnmaknnnmjfhkagGreatDoorMhXOpen4
import Derived.Test.YtnmaknnnmjfhkagGreatDoorQhxOpenFnB
namespace Go.Proofs.YtnmaknnnmjfhkagGreatDoor
open Go.RowKit
set_option maxRecDepth 4000
set_option linter.unusedVariables false
set_option linter.unusedSimpArgs false
set_option maxHeartbeats 4000000

/-- The page at a place of a region. -/
theorem rpage_i (v0 v1 : Value) (x : List Int) (frm size n : Int) (m : Int) (w : World) (hxl : x.length = 64) (hfm : IntKind.i64.wrap (frm + m) = frm + m)
    (HRD : ∀ wx, Below w.heap.size w wx → Calls Tryz.prog 313 #[.agg #[v0, v1], .int .i64 (frm + m)] wx fun e w' => e = .returned (.tuple #[.agg (x.map (Value.int .u8)).toArray, .bool true]) ∧ Below wx.heap.size wx w')
    (ty : TypeId) (v : Value) (hv : w.cell? ⟨1, 0, none⟩ = some (.iface ty v)) (h0 : w.cell? ⟨0, 0, none⟩ = some (.iface 332 (.agg #[.pointer (some ⟨3, 215, none⟩)]))) (hg : 1 < w.heap.size) :
    Calls Tryz.prog 220 #[regV v0 v1 frm size n, .int .i64 m] w fun e w' => e = .returned (rpV (rpRes (strOfNums x) n)) ∧ Below w.heap.size w w' := by
  have hb0 : ∀ o1 o2, Below w.heap.size w ((w.alloc o1).alloc o2) := fun o1 o2 => ((Below.refl _ _).alloc (Nat.le_refl _) _).alloc (by simp) _
  have HRP := hid (fun wx (hb : Below w.heap.size w wx) => readpage_i (strOfNums x) n wx ty v ((hb.cell (p := ⟨1, 0, none⟩) hg).trans hv) ((hb.cell (p := ⟨0, 0, none⟩) (by show 0 < _; omega)).trans h0) (by have := hb.size; omega))
  obtain ⟨k, l, q, p, b, hRR⟩ : ∃ k l q p b, rpV (rpRes (strOfNums x) n) = .tuple #[pageV k l q p, .bool b] := by
    cases rpRes (strOfNums x) n with
    | none => exact ⟨_, _, _, _, _, rfl⟩
    | some y => obtain ⟨k, l, q, p⟩ := y; exact ⟨_, _, _, _, _, rfl⟩
  rw [hRR] at HRP ⊢
  clear hRR hv h0
  have hxm : (x.map (Value.int .u8)).toArray.size = 64 := by simp [hxl]
  have HI64 : Hid ((Tryz.prog.info? 267).map (·.size) = some (x.map (Value.int .u8)).length) := by show _ = _; rw [List.length_map, hxl]; kernel_rfl
  have hmc := fun k wx => meth_cover k v0 v1 wx
  obtain ⟨sx, HSX⟩ : ∃ sx, Hid (sx = strOfNums x) := ⟨_, hid rfl⟩
  rw [← HSX.out] at HRP
  have HRDh := hid HRD
  clear HRD
  go_enter Tryz.func220, Tryz.ntmps220
  go_wp2_with fail
  refine (HRDh.out _ (hb0 _ _)).mono ?_
  rintro e w2 ⟨rfl, hb2⟩
  have HQ2 := hid (((B4.new w (.iface 272 (.agg #[v0, v1])) (.int .i64 frm) (.int .i64 size) (.int .i64 n) 207).alloc (.cells #[.int .i64 0, .int .i64 0, .int .i64 0, .string ByteArray.empty] 108)).below hb2)
  have hr2 := (B4.new (w.alloc (.cells #[.iface 272 (.agg #[v0, v1]), .int .i64 frm, .int .i64 size, .int .i64 n] 207)) (.int .i64 0) (.int .i64 0) (.int .i64 0) (.string ByteArray.empty) 108).below hb2
  rw [World.size_alloc] at hr2
  have HR2 := hid hr2
  have HB2 := hid ((hb0 (.cells #[.iface 272 (.agg #[v0, v1]), .int .i64 frm, .int .i64 size, .int .i64 n] 207) (.cells #[.int .i64 0, .int .i64 0, .int .i64 0, .string ByteArray.empty] 108)).trans (hb2.mono (by simp <;> omega)))
  clear hb2 hmc hr2
  go_wp2_with (first
      | (with_reducible refine at_store 267 _ _ rfl ?_; refine wpList_store_cells rfl 267 _ _ rfl (x.map (Value.int .u8)) (ints_one x) rfl rfl _ _ (by rw [List.length_map, hxl]; kernel_rfl) HI64.out ?_; intro wx hrow hbx hsx; have hcv := hrow.text (P := Tryz.prog) x 0 64 64 hxl (fun i hi => by simp [List.getD, show i < x.length by omega]) 47 5 9 Tryz.underlying47 Tryz.underlying5 Tryz.underlying9; rw [← HSX.out] at hcv; have hcvd := hrow.drew.text (P := Tryz.prog) x 0 64 64 hxl (fun i hi => by simp [List.getD, show i < x.length by omega]) 47 5 9 Tryz.underlying47 Tryz.underlying5 Tryz.underlying9; rw [← HSX.out] at hcvd; have HRX := hid (HR2.out.below hbx); have HQX := hid (HQ2.out.below hbx); have HBX := hid (HB2.out.trans (hbx.mono HB2.out.size)); clear hbx hsx hrow)
      | fail)
  have r0 := HRX.out.c0
  have r1 := HRX.out.c1
  have r2 := HRX.out.c2
  have r3 := HRX.out.c3
  have f0 := HRX.out.f0
  have f1 := HRX.out.f1
  have f2 := HRX.out.f2
  have f3 := HRX.out.f3
  have q3 := HQX.out.c3
  have hcv' : (convert 47 9 (.slice (some ⟨w2.heap.size, 0, none⟩) 64 64)).run Tryz.prog wx.drew = .ok (.string sx) wx.drew := hcvd
  go_region_with (first | (go_at_call 109; refine (HRP.out _ (HBX.out.drew)).mono ?_; rintro e w3 ⟨rfl, hb3⟩; have hr3 := HRX.out.drew.below hb3; have HB3 := hid (HBX.out.drew.trans (hb3.mono HBX.out.drew.size)); have c0 := hr3.c0; have c1 := hr3.c1; have c2 := hr3.c2; have c3 := hr3.c3; have f0 := hr3.f0; have f1 := hr3.f1; have f2 := hr3.f2; have f3 := hr3.f3; clear hb3 hr3))
  all_goals
    go_wp2
    refine bodyPost_ret (v := .tuple #[pageV k l q p, .bool b]) (by simp [results, Tryz.results220, go_sem, c0, c1, c2, c3]) rfl ⟨rfl, ?_⟩
    exact (((HB3.out.setCell (by show _ ≤ w.heap.size + 1; omega) _).setCell (by show _ ≤ w.heap.size + 1; omega) _).setCell (by show _ ≤ w.heap.size + 1; omega) _).setCell (by show _ ≤ w.heap.size + 1; omega) _
end Go.Proofs.YtnmaknnnmjfhkagGreatDoor
