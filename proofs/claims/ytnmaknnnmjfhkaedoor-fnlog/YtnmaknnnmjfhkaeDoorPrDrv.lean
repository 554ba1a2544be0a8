import Derived.Test.YtnmaknnnmjfhkaeDoorPrG27
namespace Go.Proofs.YtnmaknnnmjfhkaeDoor
open Go.RowKit
set_option linter.unusedVariables false
set_option maxRecDepth 100000 in
set_option maxHeartbeats 1000000 in
theorem disk_i (a : Option Addr) (ps : List (List Int)) (c : Nat) (a' : Option Addr) (hs : List (Int × List Int)) (c' : Nat) (w : World) (h : Plt w a ps) (h' : Hld w a' hs) (hl : ps.length ≤ 200) (hl' : hs.length ≤ 300) (h64 : ∀ p ∈ ps, p.length = 64) (h64' : ∀ p ∈ hs, p.2.length = 64) :
    Calls Tryd.prog 39 #[diskV a ps.length c a' hs.length c'] w fun e w' => ∃ v v', e = .returned (.agg #[v, v']) ∧ w'.ownsRow w.heap.size 9 1 v ps.length ((secs ps).map Value.string) ∧ w'.ownsRow w.heap.size 121 2 v' hs.length (wcells (held hs)) ∧ (v.ownBlock = none ∨ v'.ownBlock = none ∨ v.ownBlock ≠ v'.ownBlock) ∧ Below w.heap.size w w' := by
  obtain ⟨i0, hi0, hz0, hz1, hz2⟩ := info_parts' infoStr
  have HI := hid (And.intro hi0 (And.intro hz0 (And.intro hz1 hz2)))
  clear hi0 hz0 hz1 hz2
  obtain ⟨i1, hi0, hz0, hz1, hz2⟩ := info_parts' infoWr
  have HI1 := hid (And.intro hi0 (And.intro hz0 (And.intro hz1 hz2)))
  clear hi0 hz0 hz1 hz2
  go_enter Tryd.func39, Tryd.ntmps39
  go_wp2
  go_loopw [5, 11] (fun _ i wr => ∃ (k : Nat) (v : Value), k ≤ ps.length ∧ i = .int .i64 k ∧ Dsk w wr (w.heap.size + 1) (w.heap.size + 1 + 1) (w.heap.size + 1 + 1 + 1) 9 121 v (.slice none 0 0) (secs (ps.take k)) [] ∧ wr.cell? ⟨w.heap.size, 1, none⟩ = some (.slice a' hs.length c')) (fun _ i _ => ps.length - (intOf i).toNat)
  case atStart => exact ⟨0, _, Nat.zero_le _, rfl, Dsk.start3 _ _ _ _ _ _ _ _, by go_simp⟩
  case round =>
    obtain ⟨k, v, hk, rfl, hd, hq⟩ := hrel
    by_cases hlt : k < ps.length
    · obtain ⟨b, o, x, rfl, hlb, hrg, HS⟩ := (h.below hd.bel).at hlt
      have hxl : x.length = 64 := by rw [HS.out]; exact h64 _ (by simp [List.getD, hlt])
      have hxm : (x.map (Value.int .u8)).length = 64 := by simp [hxl]
      have hsl : (secs (ps.take k)).length = k := by simp [secs]; omega
      have HL := hid hsl
      have HD := hid hd
      have HQ := hid hq
      clear hd hq hsl
      have HI64 : Hid ((Tryd.prog.info? 98).map (·.size) = some (x.map (Value.int .u8)).length) := by rw [hxm]; show _ = _; kernel_rfl
      have HXM := hid hxm.symm
      clear hxm
      go_wp2_with (first | (with_reducible refine at_load 98 _ rfl ?_; refine wpList_load_mid rfl 98 _ rfl b (o + k * 64) rfl (x.map (Value.int .u8)) _ hrg Tryd.underlying98 rfl HI64.out ?_) | (with_reducible refine at_store 98 _ _ rfl ?_; refine wpList_store_cells rfl 98 _ _ rfl (x.map (Value.int .u8)) (ints_one x) rfl rfl _ _ (by rw [← HXM.out]; kernel_rfl) HI64.out ?_; intro wx hrow hbx hsx))
      have HDX := hid (HD.out.below hbx)
      have q0 := (HD.out.below hbx).d0
      have q1 := (HD.out.below hbx).fd0
      have hlx : w.heap.size + 1 + 1 < wx.heap.size := by have := HDX.out.sz; omega
      have hbase : w.heap.size + 1 + 1 + 1 ≤ wx.heap.size := HDX.out.sz
      have hcv := hrow.drew.text (P := Tryd.prog) x 0 64 64 hxl (fun i hi => by simp [List.getD, show i < x.length by omega]) 22 5 9 Tryd.underlying22 Tryd.underlying5 Tryd.underlying9
      have HQX : Hid (wx.cell? ⟨w.heap.size, 1, none⟩ = some (.slice a' hs.length c')) := (hbx.cell (p := ⟨w.heap.size, 1, none⟩) (by have := HD.out.sz; show w.heap.size < wr.heap.size; omega)).trans HQ.out
      have HO := hid (HDX.out.drew.own.alloc (.cells #[.string (strOfNums x)] 9))
      have HDA := hid (HDX.out.drew.alloc (.cells #[.string (strOfNums x)] 9))
      clear hrow hbx hsx HD HQ hrg
      go_region_law (first | (refine step_append_lies _ (by rfl) _ _ _ (by rfl) (w.heap.size + 1 + 1 + 1) 9 i0 (.string ByteArray.empty) 1 16 Tryd.underlying25 HI.out.1 HI.out.2.1 HI.out.2.2.1 HI.out.2.2.2 rfl (by omega) v (secs (ps.take k)).length ((secs (ps.take k)).map Value.string) (by rfl) HO.out ⟨wx.heap.size, 0, none⟩ 1 1 [.string (strOfNums x)] (by rfl) rfl (World.news_of_block (heap_alloc_new wx.drew _)) (by intro u hu; simp at hu; subst hu; rfl) (by omega) (by rw [HL.out]; unfold maxLen; omega) (by rw [HL.out]; omega) (by simp <;> omega) (wx.heap.size + 1) (by simp) ?_; intro g cap w3 hown hgrow hat hlt3; obtain ⟨q4, q5⟩ := HDA.out.grown hgrow; have HOW := hid hown; have HGR := hid hgrow; have HAT := hid hat; clear hown hgrow hat))
      all_goals
        have hpush := HDA.out.push HOW.out HGR.out HAT.out (by simp)
        have hfar := (HDA.out.far HGR.out w.heap.size 1 0 (by omega) (by omega) (.slice (some ⟨g, 0, none⟩) ((secs (ps.take k)).length + 1) cap)).trans ((World.cell?_alloc_past (w := wx.drew) _ w.heap.size 1 (by show w.heap.size < wx.heap.size; omega)).trans HQX.out)
        rw [HS.out, ← secs_take ps k hlt] at hpush
        have HP := hid hpush
        have HF := hid hfar
        clear hpush hfar
        go_wp2
        go_roundw
        case rel => exact ⟨k + 1, _, by omega, by go_num, HP.out, HF.out⟩
        case measure => simp [intOf]; omega
    · have hkn : Hid (ps.take k = ps) := List.take_of_length_le (by omega)
      rw [hkn.out] at hd
      have hlt0 : w.heap.size < wr.heap.size := by have := hd.sz; omega
      go_wp2
      go_loopw [7, 26] (fun _ i wr => ∃ (k : Nat) (v' : Value), k ≤ hs.length ∧ i = .int .i64 k ∧ Dsk w wr (w.heap.size + 1) (w.heap.size + 1 + 1) (w.heap.size + 1 + 1 + 1) 9 121 v v' (secs ps) (held (hs.take k))) (fun _ i _ => hs.length - (intOf i).toNat)
      case atStart => exact ⟨0, _, Nat.zero_le _, rfl, hd⟩
      case round =>
        clear hd hq hlt0
        obtain ⟨k2, v', hk2, rfl, hd⟩ := hrel
        by_cases hlt2 : k2 < hs.length
        · obtain ⟨b, o, n, x, rfl, hlb, hrg, HS⟩ := (h'.below hd.bel).at hlt2
          have hxl : x.length = 64 := by
            have := h64' (n, x) (by rw [HS.out]; simp [List.getD, hlt2])
            exact this
          have hxm : (Value.int .i64 n :: x.map (Value.int .u8)).length = 65 := by simp [hxl]
          have hsl : (held (hs.take k2)).length = k2 := by simp [held]; omega
          have HL := hid hsl
          have HD := hid hd
          clear hd hsl
          have HI65 : Hid ((Tryd.prog.info? 119).map (·.size) = some (Value.int .i64 n :: x.map (Value.int .u8)).length) := by rw [hxm]; show _ = _; kernel_rfl
          have HXM := hid hxm.symm
          clear hxm
          have hzh := zeroHeld
          go_wp2_with (first | (with_reducible refine at_load 119 _ rfl ?_; refine wpList_load_mid rfl 119 _ rfl b (o + k2 * 65) rfl (Value.int .i64 n :: x.map (Value.int .u8)) _ hrg Tryd.underlying119 rfl HI65.out ?_) | (with_reducible refine at_store 119 _ _ rfl ?_; refine wpList_store_cells rfl 119 _ _ rfl (Value.int .i64 n :: x.map (Value.int .u8)) (held_one n x) rfl rfl _ _ (by rw [← HXM.out]; kernel_rfl) HI65.out ?_; intro wx hrow hbx hsx))
          have HDX := hid (HD.out.below hbx)
          have q0 := (HD.out.below hbx).d1
          have q1 := (HD.out.below hbx).fd1
          have hlx : w.heap.size + 1 + 1 < wx.heap.size := by have := HDX.out.sz; omega
          have hlr : wr.heap.size < wx.heap.size := by omega
          have hbase : w.heap.size + 1 + 1 + 1 ≤ wx.heap.size := HDX.out.sz
          have hc0 : wx.cell? ⟨wr.heap.size, 0, none⟩ = some (.int .i64 n) := hrow.cell 0 _ rfl
          have hcv := hrow.drew.text (P := Tryd.prog) x 1 64 64 hxl (fun i hi => by rw [show 1 + i = i + 1 by omega]; simp [List.getD, show i < x.length by omega]) 22 5 9 Tryd.underlying22 Tryd.underlying5 Tryd.underlying9
          have HO := hid (HDX.out.drew.own'.alloc (.cells #[.int .i64 n, .string (strOfNums x)] 121))
          have HDA := hid (HDX.out.drew.alloc (.cells #[.int .i64 n, .string (strOfNums x)] 121))
          clear hrow hbx hsx HD hrg
          go_region_law (first | (refine step_append_lies _ (by rfl) _ _ _ (by rfl) (w.heap.size + 1 + 1 + 1) 121 i1 (.agg #[.int .i64 0, .string ByteArray.empty]) 2 24 Tryd.underlying29 HI1.out.1 HI1.out.2.1 HI1.out.2.2.1 HI1.out.2.2.2 rfl (by omega) v' (held (hs.take k2)).length (wcells (held (hs.take k2))) (by rfl) HO.out ⟨wx.heap.size, 0, none⟩ 1 1 [.int .i64 n, .string (strOfNums x)] (by rfl) rfl (World.news_of_block (heap_alloc_new wx.drew _)) (by intro u hu; simp at hu; rcases hu with rfl | rfl <;> rfl) (by omega) (by rw [HL.out]; unfold maxLen; omega) (by rw [HL.out]; omega) (by simp <;> omega) (wx.heap.size + 1) (by simp) ?_; intro g cap w3 hown hgrow hat hlt3; obtain ⟨q4, q5⟩ := HDA.out.grown2 hgrow; have HOW := hid hown; have HGR := hid hgrow; have HAT := hid hat; clear hown hgrow hat))
          all_goals
            have hpush := HDA.out.push2 (x := (n, strOfNums x)) HOW.out HGR.out HAT.out (by simp)
            rw [show (n, strOfNums x) = ((hs.getD k2 (0, [])).1, strOfNums (hs.getD k2 (0, [])).2) by rw [← HS.out], ← held_take hs k2 hlt2] at hpush
            have HP := hid hpush
            clear hpush
            go_wp2
            go_roundw
            case rel => exact ⟨k2 + 1, _, by omega, by go_num, HP.out⟩
            case measure => simp [intOf]; omega
        · have hkn2 : Hid (hs.take k2 = hs) := List.take_of_length_le (by omega)
          rw [hkn2.out] at hd
          have HD := hid hd
          have q0 := hd.d0
          have q1 := hd.d1
          have q2 := hd.r0
          have q3 := hd.r1
          have q4 := hd.fr0
          have q5 := hd.fr1
          have o1 := hd.own
          have o2 := hd.own'
          obtain ⟨av, nv, cv, rfl⟩ : ∃ a n c, v = .slice a n c := by rcases owns_forms hd.own with ⟨e, _⟩ | ⟨g, c, e, _⟩ <;> exact ⟨_, _, _, e⟩
          obtain ⟨av', nv', cv', rfl⟩ : ∃ a n c, v' = .slice a n c := by rcases owns_forms hd.own' with ⟨e, _⟩ | ⟨g, c, e, _⟩ <;> exact ⟨_, _, _, e⟩
          clear hd o1 o2
          go_wp2
          have hsl : (secs ps).length = ps.length := by simp [secs]
          have hsl' : (held hs).length = hs.length := by simp [held]
          have own1 := ownsRow_setCell_below (ownsRow_setCell_below HD.out.own (a := ⟨w.heap.size + 1, 0, none⟩) (by show w.heap.size + 1 < _; omega) (.slice av nv cv)) (a := ⟨w.heap.size + 1, 1, none⟩) (by show w.heap.size + 1 < _; omega) (.slice av' nv' cv')
          have own2 := ownsRow_setCell_below (ownsRow_setCell_below HD.out.own' (a := ⟨w.heap.size + 1, 0, none⟩) (by show w.heap.size + 1 < _; omega) (.slice av nv cv)) (a := ⟨w.heap.size + 1, 1, none⟩) (by show w.heap.size + 1 < _; omega) (.slice av' nv' cv')
          rw [hsl] at own1
          rw [hsl'] at own2
          refine bodyPost_ret (v := .agg #[.slice av nv cv, .slice av' nv' cv']) (by simp [results, Tryd.results39, go_sem, q2, q3]) rfl ⟨_, _, rfl, own1.mono (by omega), own2.mono (by omega), HD.out.apart, ?_⟩
          exact (HD.out.bel.setCell (by show w.heap.size ≤ w.heap.size + 1; omega) _).setCell (by show w.heap.size ≤ w.heap.size + 1; omega) _
end Go.Proofs.YtnmaknnnmjfhkaeDoor
