import Derived.Test.YtnmaknnnmjfhkagGreatDoorPrG49
import Derived.Test.YtnmaknnnmjfhkagGreatDoorPrFbS
namespace Go.Proofs.YtnmaknnnmjfhkagGreatDoor
open Go.RowKit
set_option maxRecDepth 4000
set_option linter.unusedVariables false
set_option linter.unusedSimpArgs false
theorem own_set {w : World} {B : Nat} {e : TypeId} {size : Nat} {y : Value} {n b i : Nat} {xs : List Value} (h : w.ownsRow B e size y n xs) (hne : y.ownBlock ≠ some b) (u : Value) : (w.setCell ⟨b, i, none⟩ u).ownsRow B e size y n xs := ownsRow_setCell_other h hne u
theorem news3 (X : World) (b : Nat) (hb : X.heap.size = b) (cs : Array Value) (t : TypeId) : ∀ j u, cs.toList[j]? = some u → (X.alloc (.cells cs t)).cell? ((⟨b, 0, none⟩ : Addr).add j) = some u := by
  subst hb; exact World.news_of_block (heap_alloc_new X _)
set_option maxHeartbeats 4000000 in
theorem read_s (s : ByteArray) (w : World) (hs : s.size ≤ 1048576) : Calls Tryz.prog 141 #[.string s] w fun e w' => RbPost w w' e (resS s) := by
  have hb0 : ∀ o, Below w.heap.size w (w.alloc o) := fun o => (Below.refl _ _).alloc (Nat.le_refl _) _
  obtain ⟨R, HR⟩ : ∃ R, Hid (R = resS s) := ⟨_, hid rfl⟩
  rw [← HR.out]
  obtain ⟨i0, hi0, hz0, hz1, hz2⟩ := info_partsC info_ch'
  have HI := hid (And.intro hi0 (And.intro hz0 (And.intro hz1 hz2)))
  clear hi0 hz0 hz1 hz2
  go_enter Tryz.func141, Tryz.ntmps141
  go_wp2_with fail
  go_loopw [4, 5] (fun y x wr => ∃ (j : Nat) (o : List Ch) (r : ByteArray), x = .string r ∧ j + o.length = 21 ∧ r.size ≤ 1048576 ∧ Hid (run j r o = run 21 s []) ∧ Hid (∀ z ∈ o, z.1.size ≤ 1048576 ∧ z.2.1.size ≤ 1048576) ∧ wr.ownsRow w.heap.size 69 3 y o.length (chcells o) ∧ Below w.heap.size w wr) (fun _ x _ => match x with | .string r => r.size | _ => 0)
  case atStart => exact ⟨21, [], s, rfl, rfl, hs, rfl, fun z hz => (by simp at hz), World.ownsRow_lit _ #[] 0 (Nat.le_refl _) (by simp) (by simp), hb0 _⟩
  case round =>
    obtain ⟨j, o, r, rfl, hj, hrz, HRN, HOZ, hown, hbel⟩ := hrel
    obtain ⟨ya, yc, rfl, hchs⟩ := owns_chs hown
    have HO := hid hown
    have HB := hid hbel
    have hsz := hbel.size
    have HC := hid hchs
    clear hown hbel hchs
    have hneq : (Value.slice ya o.length yc).ownBlock ≠ some wr.heap.size := fun h => by have := (HO.out.lt _ h).2; omega
    have fin : Hid (run j r o = some (o, r)) → Hid (R = if s.size ≠ 0 ∧ bOut o = s then some o else none) := fun hh => by
      show _ = _
      have := HRN.out
      rw [hh.out] at this
      rw [HR.out]
      unfold resS
      rw [← this]
    by_cases h0 : 0 < (r.size : Int)
    · by_cases hl : (o.length : Int) ≤ 20
      · obtain ⟨j', rfl⟩ : ∃ j', j = j' + 1 := ⟨j - 1, by omega⟩
        have HRN2 := HRN.out
        rw [run, if_neg (by omega)] at HRN2
        have hg := get0 r (by omega)
        obtain ⟨b, hb⟩ : ∃ b, b = b0 r := ⟨_, rfl⟩
        have hbl : b ≤ 255 := by rw [hb]; exact b0_lt r
        rw [← hb] at hg
        have hsz1 : (r.extract 1 r.size).size ≤ 1048576 := by simp only [ByteArray.size_extract]; omega
        clear fin
        cases hp : pc (r.extract 1 r.size) with
        | none =>
          have HP := hid (pcV_none hp)
          have HF : Hid (R = none) := by
            show _ = _
            have e : stp r = none := by unfold stp; rw [hp]
            rw [e] at HRN2
            rw [HR.out]; unfold resS; rw [← HRN2]
          clear hp hb HRN2
          by_cases hb1 : b = 1
          · subst hb1
            go_wp2_with (go_at_call 215; refine (piece_s _ _ hsz1).mono ?_; rw [HP.out]; rintro e w2 ⟨rfl, hb2⟩; have hsw2 := hb2.size; simp only [World.size_alloc, World.size_setCell] at hsw2; have c0 : w2.cell? ⟨wr.heap.size, 0, none⟩ = some (.string ⟨#[]⟩) := (hb2.cell (p := ⟨wr.heap.size, 0, none⟩) (by simp <;> omega)).trans (by go_simp); have cf0 : w2.frozen? ⟨wr.heap.size, 0, none⟩ = false := (hb2.frozen (p := ⟨wr.heap.size, 0, none⟩) (by simp <;> omega)).trans (by go_simp); have c1 : w2.cell? ⟨wr.heap.size, 1, none⟩ = some (.string ⟨#[]⟩) := (hb2.cell (p := ⟨wr.heap.size, 1, none⟩) (by simp <;> omega)).trans (by go_simp); have cf1 : w2.frozen? ⟨wr.heap.size, 1, none⟩ = false := (hb2.frozen (p := ⟨wr.heap.size, 1, none⟩) (by simp <;> omega)).trans (by go_simp); have c2 : w2.cell? ⟨wr.heap.size, 2, none⟩ = some (.bool true) := (hb2.cell (p := ⟨wr.heap.size, 2, none⟩) (by simp <;> omega)).trans (by go_simp); have cf2 : w2.frozen? ⟨wr.heap.size, 2, none⟩ = false := (hb2.frozen (p := ⟨wr.heap.size, 2, none⟩) (by simp <;> omega)).trans (by go_simp); have HB2 := hid (HB.out.trans ((bs0 hb2).mono hsz)); have HO2 := hid (owns_below (HO.out.alloc _) hb2); clear hb2)
            go_ret2
            rw [HF.out]
            exact rbPost_none rfl (HB2.out.alloc (by omega) _)
          · have hb2 : ((b : Int) == 1) = false := by simp; omega
            go_wp2_with (go_at_call 215; refine (piece_s _ _ hsz1).mono ?_; rw [HP.out]; rintro e w2 ⟨rfl, hb2⟩; have hsw2 := hb2.size; simp only [World.size_alloc, World.size_setCell] at hsw2; have c0 : w2.cell? ⟨wr.heap.size, 0, none⟩ = some (.string ⟨#[]⟩) := (hb2.cell (p := ⟨wr.heap.size, 0, none⟩) (by simp <;> omega)).trans (by go_simp); have cf0 : w2.frozen? ⟨wr.heap.size, 0, none⟩ = false := (hb2.frozen (p := ⟨wr.heap.size, 0, none⟩) (by simp <;> omega)).trans (by go_simp); have c1 : w2.cell? ⟨wr.heap.size, 1, none⟩ = some (.string ⟨#[]⟩) := (hb2.cell (p := ⟨wr.heap.size, 1, none⟩) (by simp <;> omega)).trans (by go_simp); have cf1 : w2.frozen? ⟨wr.heap.size, 1, none⟩ = false := (hb2.frozen (p := ⟨wr.heap.size, 1, none⟩) (by simp <;> omega)).trans (by go_simp); have c2 : w2.cell? ⟨wr.heap.size, 2, none⟩ = some (.bool false) := (hb2.cell (p := ⟨wr.heap.size, 2, none⟩) (by simp <;> omega)).trans (by go_simp); have cf2 : w2.frozen? ⟨wr.heap.size, 2, none⟩ = false := (hb2.frozen (p := ⟨wr.heap.size, 2, none⟩) (by simp <;> omega)).trans (by go_simp); have HB2 := hid (HB.out.trans ((bs0 hb2).mono hsz)); have HO2 := hid (owns_below (HO.out.alloc _) hb2); clear hb2)
            go_ret2
            rw [HF.out]
            exact rbPost_none rfl (HB2.out.alloc (by omega) _)
        | some p =>
          obtain ⟨k, m⟩ := p
          have HP := hid (pcV_some hp)
          have hmz : m.size ≤ 1048576 := by have := pc_size hp; simp only [ByteArray.size_extract] at this; omega
          by_cases hb1 : b = 1
          · have e : stp r = some ((k, ByteArray.empty, true), m) := by unfold stp; rw [hp]; simp only; rw [if_pos (by omega)]
            obtain ⟨q1, q2, q3⟩ := stp_size (by omega) e
            rw [e] at HRN2
            have HR2 : Hid (run j' m (o ++ [(k, ByteArray.empty, true)]) = run 21 s []) := HRN2
            simp only at q2 q3
            clear hp hb HRN2 e
            subst hb1
            go_wp2_with (first | (go_at_call 215; refine (piece_s _ _ hsz1).mono ?_; rw [HP.out]; rintro e w2 ⟨rfl, hb2⟩; have hsw2 := hb2.size; simp only [World.size_alloc, World.size_setCell] at hsw2; have c0 : w2.cell? ⟨wr.heap.size, 0, none⟩ = some (.string ⟨#[]⟩) := (hb2.cell (p := ⟨wr.heap.size, 0, none⟩) (by simp <;> omega)).trans (by go_simp); have cf0 : w2.frozen? ⟨wr.heap.size, 0, none⟩ = false := (hb2.frozen (p := ⟨wr.heap.size, 0, none⟩) (by simp <;> omega)).trans (by go_simp); have c1 : w2.cell? ⟨wr.heap.size, 1, none⟩ = some (.string ⟨#[]⟩) := (hb2.cell (p := ⟨wr.heap.size, 1, none⟩) (by simp <;> omega)).trans (by go_simp); have cf1 : w2.frozen? ⟨wr.heap.size, 1, none⟩ = false := (hb2.frozen (p := ⟨wr.heap.size, 1, none⟩) (by simp <;> omega)).trans (by go_simp); have c2 : w2.cell? ⟨wr.heap.size, 2, none⟩ = some (.bool true) := (hb2.cell (p := ⟨wr.heap.size, 2, none⟩) (by simp <;> omega)).trans (by go_simp); have cf2 : w2.frozen? ⟨wr.heap.size, 2, none⟩ = false := (hb2.frozen (p := ⟨wr.heap.size, 2, none⟩) (by simp <;> omega)).trans (by go_simp); have HB2 := hid (HB.out.trans ((bs0 hb2).mono hsz)); have HO2 := hid (owns_below (HO.out.alloc _) hb2); clear hb2) | (at_builtin; refine wpList_append_lies _ rfl _ _ 54 rfl w.heap.size 69 i0 (.agg #[.string ByteArray.empty, .string ByteArray.empty, .bool false]) 3 40 Tryz.underlying54 HI.out.1 HI.out.2.1 HI.out.2.2.1 HI.out.2.2.2 rfl (by omega) _ o.length _ rfl ((own_set HO2.out hneq (.string k)).alloc (.cells #[.string k, .string ⟨#[]⟩, .bool true] 69)) ⟨w2.heap.size, 0, none⟩ 1 1 [.string k, .string ⟨#[]⟩, .bool true] rfl rfl (news3 _ _ (by simp) _ _) (oneC _ _ _) (by omega) (by unfold maxLen; omega) (by omega) (by simp; omega) (w2.heap.size + 1) (by simp) ?_; intro ga cap w7 hown7 hgrow7 hat7 hlt7; have HO7 := hid hown7; have HB7 := hid (below_grownC ((HB2.out.setCell (p := ⟨wr.heap.size, 0, none⟩) hsz (.string k)).alloc (by simp; omega) _) ((own_set HO2.out hneq (.string k)).alloc _) hgrow7 (by simp; omega)); clear hown7 hgrow7 hat7))
            refine ⟨⟨j', o ++ [(k, ByteArray.empty, true)], m, rfl, by simp; omega, by omega, HR2.out, fun z hz => ?_, ?_, HB7.out⟩, by simp only; omega⟩
            · rcases List.mem_append.1 hz with hz | hz
              · exact HOZ.out z hz
              · simp at hz; subst hz; exact ⟨by simp only; omega, by simp only; first | omega | simp⟩
            · rw [chcells_snoc, List.length_append]; exact HO7.out
          · have hb2 : ((b : Int) == 1) = false := by simp; omega
            have hszm : m.size ≤ 1048576 := hmz
            cases hq : pc m with
            | none =>
              have HQ := hid (pcV_none hq)
              have HF : Hid (R = none) := by
                show _ = _
                have e : stp r = none := by unfold stp; rw [hp]; simp only; rw [if_neg (by omega), hq]
                rw [e] at HRN2
                rw [HR.out]; unfold resS; rw [← HRN2]
              clear hp hq hb HRN2
              go_wp2_with (first | (have _g := HB2; go_at_call 215; refine (piece_s _ _ hszm).mono ?_; rw [HQ.out]; rintro e w3 ⟨rfl, hb3⟩; have hsw3 := hb3.size; simp only [World.size_alloc, World.size_setCell] at hsw3; have d0 : w3.cell? ⟨wr.heap.size, 0, none⟩ = some (.string k) := (hb3.cell (p := ⟨wr.heap.size, 0, none⟩) (by simp <;> omega)).trans (by go_simp); have df0 : w3.frozen? ⟨wr.heap.size, 0, none⟩ = false := (hb3.frozen (p := ⟨wr.heap.size, 0, none⟩) (by simp <;> omega)).trans (by go_simp); have d1 : w3.cell? ⟨wr.heap.size, 1, none⟩ = some (.string ⟨#[]⟩) := (hb3.cell (p := ⟨wr.heap.size, 1, none⟩) (by simp <;> omega)).trans (by go_simp); have df1 : w3.frozen? ⟨wr.heap.size, 1, none⟩ = false := (hb3.frozen (p := ⟨wr.heap.size, 1, none⟩) (by simp <;> omega)).trans (by go_simp); have d2 : w3.cell? ⟨wr.heap.size, 2, none⟩ = some (.bool false) := (hb3.cell (p := ⟨wr.heap.size, 2, none⟩) (by simp <;> omega)).trans (by go_simp); have df2 : w3.frozen? ⟨wr.heap.size, 2, none⟩ = false := (hb3.frozen (p := ⟨wr.heap.size, 2, none⟩) (by simp <;> omega)).trans (by go_simp); have HB3 := hid ((HB2.out.setCell (p := ⟨wr.heap.size, 0, none⟩) hsz (.string k)).trans (hb3.mono (by simp <;> omega))); have HO3 := hid (owns_below (own_set HO2.out hneq (.string k)) hb3); clear hb3 c0 c1 c2 cf0 cf1 cf2) | (go_at_call 215; refine (piece_s _ _ hsz1).mono ?_; rw [HP.out]; rintro e w2 ⟨rfl, hb2⟩; have hsw2 := hb2.size; simp only [World.size_alloc, World.size_setCell] at hsw2; have c0 : w2.cell? ⟨wr.heap.size, 0, none⟩ = some (.string ⟨#[]⟩) := (hb2.cell (p := ⟨wr.heap.size, 0, none⟩) (by simp <;> omega)).trans (by go_simp); have cf0 : w2.frozen? ⟨wr.heap.size, 0, none⟩ = false := (hb2.frozen (p := ⟨wr.heap.size, 0, none⟩) (by simp <;> omega)).trans (by go_simp); have c1 : w2.cell? ⟨wr.heap.size, 1, none⟩ = some (.string ⟨#[]⟩) := (hb2.cell (p := ⟨wr.heap.size, 1, none⟩) (by simp <;> omega)).trans (by go_simp); have cf1 : w2.frozen? ⟨wr.heap.size, 1, none⟩ = false := (hb2.frozen (p := ⟨wr.heap.size, 1, none⟩) (by simp <;> omega)).trans (by go_simp); have c2 : w2.cell? ⟨wr.heap.size, 2, none⟩ = some (.bool false) := (hb2.cell (p := ⟨wr.heap.size, 2, none⟩) (by simp <;> omega)).trans (by go_simp); have cf2 : w2.frozen? ⟨wr.heap.size, 2, none⟩ = false := (hb2.frozen (p := ⟨wr.heap.size, 2, none⟩) (by simp <;> omega)).trans (by go_simp); have HB2 := hid (HB.out.trans ((bs0 hb2).mono hsz)); have HO2 := hid (owns_below (HO.out.alloc _) hb2); clear hb2))
              go_ret2
              rw [HF.out]
              exact rbPost_none rfl (HB3.out.alloc (by omega) _)
            | some q =>
              obtain ⟨v, m'⟩ := q
              have HQ := hid (pcV_some hq)
              have e : stp r = some ((k, v, false), m') := by unfold stp; rw [hp]; simp only; rw [if_neg (by omega), hq]
              obtain ⟨q1, q2, q3⟩ := stp_size (by omega) e
              rw [e] at HRN2
              have HR2 : Hid (run j' m' (o ++ [(k, v, false)]) = run 21 s []) := HRN2
              simp only at q2 q3
              clear hp hq hb HRN2 e
              go_wp2_with (first | (have _g := HB2; go_at_call 215; refine (piece_s _ _ hszm).mono ?_; rw [HQ.out]; rintro e w3 ⟨rfl, hb3⟩; have hsw3 := hb3.size; simp only [World.size_alloc, World.size_setCell] at hsw3; have d0 : w3.cell? ⟨wr.heap.size, 0, none⟩ = some (.string k) := (hb3.cell (p := ⟨wr.heap.size, 0, none⟩) (by simp <;> omega)).trans (by go_simp); have df0 : w3.frozen? ⟨wr.heap.size, 0, none⟩ = false := (hb3.frozen (p := ⟨wr.heap.size, 0, none⟩) (by simp <;> omega)).trans (by go_simp); have d1 : w3.cell? ⟨wr.heap.size, 1, none⟩ = some (.string ⟨#[]⟩) := (hb3.cell (p := ⟨wr.heap.size, 1, none⟩) (by simp <;> omega)).trans (by go_simp); have df1 : w3.frozen? ⟨wr.heap.size, 1, none⟩ = false := (hb3.frozen (p := ⟨wr.heap.size, 1, none⟩) (by simp <;> omega)).trans (by go_simp); have d2 : w3.cell? ⟨wr.heap.size, 2, none⟩ = some (.bool false) := (hb3.cell (p := ⟨wr.heap.size, 2, none⟩) (by simp <;> omega)).trans (by go_simp); have df2 : w3.frozen? ⟨wr.heap.size, 2, none⟩ = false := (hb3.frozen (p := ⟨wr.heap.size, 2, none⟩) (by simp <;> omega)).trans (by go_simp); have HB3 := hid ((HB2.out.setCell (p := ⟨wr.heap.size, 0, none⟩) hsz (.string k)).trans (hb3.mono (by simp <;> omega))); have HO3 := hid (owns_below (own_set HO2.out hneq (.string k)) hb3); clear hb3 c0 c1 c2 cf0 cf1 cf2) | (go_at_call 215; refine (piece_s _ _ hsz1).mono ?_; rw [HP.out]; rintro e w2 ⟨rfl, hb2⟩; have hsw2 := hb2.size; simp only [World.size_alloc, World.size_setCell] at hsw2; have c0 : w2.cell? ⟨wr.heap.size, 0, none⟩ = some (.string ⟨#[]⟩) := (hb2.cell (p := ⟨wr.heap.size, 0, none⟩) (by simp <;> omega)).trans (by go_simp); have cf0 : w2.frozen? ⟨wr.heap.size, 0, none⟩ = false := (hb2.frozen (p := ⟨wr.heap.size, 0, none⟩) (by simp <;> omega)).trans (by go_simp); have c1 : w2.cell? ⟨wr.heap.size, 1, none⟩ = some (.string ⟨#[]⟩) := (hb2.cell (p := ⟨wr.heap.size, 1, none⟩) (by simp <;> omega)).trans (by go_simp); have cf1 : w2.frozen? ⟨wr.heap.size, 1, none⟩ = false := (hb2.frozen (p := ⟨wr.heap.size, 1, none⟩) (by simp <;> omega)).trans (by go_simp); have c2 : w2.cell? ⟨wr.heap.size, 2, none⟩ = some (.bool false) := (hb2.cell (p := ⟨wr.heap.size, 2, none⟩) (by simp <;> omega)).trans (by go_simp); have cf2 : w2.frozen? ⟨wr.heap.size, 2, none⟩ = false := (hb2.frozen (p := ⟨wr.heap.size, 2, none⟩) (by simp <;> omega)).trans (by go_simp); have HB2 := hid (HB.out.trans ((bs0 hb2).mono hsz)); have HO2 := hid (owns_below (HO.out.alloc _) hb2); clear hb2) | (at_builtin; refine wpList_append_lies _ rfl _ _ 54 rfl w.heap.size 69 i0 (.agg #[.string ByteArray.empty, .string ByteArray.empty, .bool false]) 3 40 Tryz.underlying54 HI.out.1 HI.out.2.1 HI.out.2.2.1 HI.out.2.2.2 rfl (by omega) _ o.length _ rfl ((own_set HO3.out hneq (.string v)).alloc (.cells #[.string k, .string v, .bool false] 69)) ⟨w3.heap.size, 0, none⟩ 1 1 [.string k, .string v, .bool false] rfl rfl (news3 _ _ (by simp) _ _) (oneC _ _ _) (by omega) (by unfold maxLen; omega) (by omega) (by simp; omega) (w3.heap.size + 1) (by simp) ?_; intro ga cap w7 hown7 hgrow7 hat7 hlt7; have HO7 := hid hown7; have HB7 := hid (below_grownC ((HB3.out.setCell (p := ⟨wr.heap.size, 1, none⟩) hsz (.string v)).alloc (by simp; omega) _) ((own_set HO3.out hneq (.string v)).alloc _) hgrow7 (by simp; omega)); clear hown7 hgrow7 hat7))
              refine ⟨⟨j', o ++ [(k, v, false)], m', rfl, by simp; omega, by omega, HR2.out, fun z hz => ?_, ?_, HB7.out⟩, by simp only; omega⟩
              · rcases List.mem_append.1 hz with hz | hz
                · exact HOZ.out z hz
                · simp at hz; subst hz; exact ⟨by simp only; omega, by simp only; first | omega | simp⟩
              · rw [chcells_snoc, List.length_append]; exact HO7.out
      · have hj0 : j = 0 := by omega
        subst hj0
        have HF := fin rfl
        clear fin HRN
        by_cases hz : s.size = 0
        · have hz1 : ((s.size : Int) == 0) = true := by rw [beq_iff_eq]; omega
          rw [if_neg (fun hh => hh.1 hz)] at HF
          go_wp2
          go_ret2
          rw [HF.out]
          exact rbPost_none rfl (HB.out.alloc hsz _)
        · have hz1 : ((s.size : Int) == 0) = false := by rw [beq_eq_false_iff_ne]; omega
          by_cases hF : bOut o = s
          · rw [if_pos ⟨hz, hF⟩] at HF
            have HFF := hid hF
            clear hF
            go_wp2_with (go_at_call 103; refine (formbatch_s _ o _ _ HC.out (by omega) HOZ.out).mono ?_; rw [HFF.out]; rintro e w2 ⟨rfl, hb2⟩)
            go_ret2
            rw [HF.out]
            exact rbPost_some (owns_below HO.out hb2) rfl (HB.out.trans (hb2.mono hsz))
          · rw [if_neg (fun hh => hF hh.2)] at HF
            obtain ⟨G, HG⟩ : ∃ G, Hid (G = bOut o) := ⟨_, hid rfl⟩
            have hG : (!G.toList == s.toList) = true := by rw [HG.out]; simp only [Bool.not_eq_true', beq_eq_false_iff_ne]; intro hh; rw [ByteArray.toList_eq, ByteArray.toList_eq] at hh; exact hF (ByteArray.ext (Array.ext' hh))
            clear hF
            go_wp2_with (go_at_call 103; refine (formbatch_s _ o _ _ HC.out (by omega) HOZ.out).mono ?_; rw [← HG.out]; rintro e w2 ⟨rfl, hb2⟩)
            go_ret2
            rw [HF.out]
            exact rbPost_none rfl ((HB.out.trans (hb2.mono hsz)).alloc (by have := hb2.size; omega) _)
    · have HF := fin (by show _ = _; exact run_nil _ _ _ (by omega))
      clear fin HRN
      by_cases hz : s.size = 0
      · have hz1 : ((s.size : Int) == 0) = true := by rw [beq_iff_eq]; omega
        rw [if_neg (fun hh => hh.1 hz)] at HF
        go_wp2
        go_ret2
        rw [HF.out]
        exact rbPost_none rfl (HB.out.alloc hsz _)
      · have hz1 : ((s.size : Int) == 0) = false := by rw [beq_eq_false_iff_ne]; omega
        by_cases hF : bOut o = s
        · rw [if_pos ⟨hz, hF⟩] at HF
          have HFF := hid hF
          clear hF
          go_wp2_with (go_at_call 103; refine (formbatch_s _ o _ _ HC.out (by omega) HOZ.out).mono ?_; rw [HFF.out]; rintro e w2 ⟨rfl, hb2⟩)
          go_ret2
          rw [HF.out]
          exact rbPost_some (owns_below HO.out hb2) rfl (HB.out.trans (hb2.mono hsz))
        · rw [if_neg (fun hh => hF hh.2)] at HF
          obtain ⟨G, HG⟩ : ∃ G, Hid (G = bOut o) := ⟨_, hid rfl⟩
          have hG : (!G.toList == s.toList) = true := by rw [HG.out]; simp only [Bool.not_eq_true', beq_eq_false_iff_ne]; intro hh; rw [ByteArray.toList_eq, ByteArray.toList_eq] at hh; exact hF (ByteArray.ext (Array.ext' hh))
          clear hF
          go_wp2_with (go_at_call 103; refine (formbatch_s _ o _ _ HC.out (by omega) HOZ.out).mono ?_; rw [← HG.out]; rintro e w2 ⟨rfl, hb2⟩)
          go_ret2
          rw [HF.out]
          exact rbPost_none rfl ((HB.out.trans (hb2.mono hsz)).alloc (by have := hb2.size; omega) _)
end Go.Proofs.YtnmaknnnmjfhkagGreatDoor
