import Derived.WalkKit
import Derived.WalkSpells
import Derived.Outline
import Derived.BigQuiet
import Derived.Deep.QuietTactic
import Derived.Deep.RegionHeld3
import Derived.Deep.Cut
import Derived.Deep.CutRange
import Derived.Test.YtnmaknnnmjfhkaeDoorProg
import Derived.Test.YtnmaknnnmjfhkaeDoorPrG31
import Derived.Test.YtnmaknnnmjfhkaeDoorPrG26
namespace Go.Proofs.YtnmaknnnmjfhkaeDoor
open Go.RowKit
set_option maxRecDepth 8000
set_option linter.unusedVariables false
set_option linter.unusedSimpArgs false
theorem info_chB : (Tryd.prog.info? 147).map (fun i => (i.zero, i.size, i.bytes)) = some (some (.agg #[.string ByteArray.empty, .string ByteArray.empty, .bool false]), 3, 40) := by kernel_rfl
theorem info_partsB {P : Program} {e : TypeId} {z : Value} {size bytes : Nat} (h : (P.info? e).map (fun i => (i.zero, i.size, i.bytes)) = some (some z, size, bytes)) : ∃ i, P.info? e = some i ∧ i.zero = some z ∧ i.size = size ∧ i.bytes = bytes := by
  cases h1 : P.info? e with
  | none => rw [h1] at h; cases h
  | some i => rw [h1] at h; simp at h; exact ⟨i, rfl, h.1, h.2.1, h.2.2⟩
theorem oneCB (k v : ByteArray) (g : Bool) : ∀ u ∈ [Value.string k, .string v, .bool g], u.oneCell' = true := by
  intro u hu
  simp only [List.mem_cons, List.not_mem_nil, or_false] at hu
  rcases hu with rfl | rfl | rfl <;> rfl
theorem chcells_snocB (o : List (ByteArray × ByteArray × Bool)) (c : ByteArray × ByteArray × Bool) : chcells (o ++ [c]) = chcells o ++ [.string c.1, .string c.2.1, .bool c.2.2] := by rw [chcells_append]; rfl
set_option maxHeartbeats 32000000 in
theorem batch_r (R : Nat) (a : Option Addr) (n c : Nat) (p : Int) (w : World) (h : Rdr w R a n c p) (hp : p < 99990000) : Calls Tryd.prog 69 #[.pointer (some ⟨R, 0, none⟩)] w fun e w' => (∃ v rs, e = .returned v ∧ w'.ownsRow w.heap.size 147 3 v rs.length (chcells rs) ∧ (1 ≤ rs.length ∧ rs.length ≤ 20) ∧ chsLe rs 3 100) ∧ RdTo w R a n c p 600 w' := by
  have p0 := h.p0
  obtain ⟨i0, hi0, hz0, hz1, hz2⟩ := info_partsB info_chB
  have HI := hid (And.intro hi0 (And.intro hz0 (And.intro hz1 hz2)))
  clear hi0 hz0 hz1 hz2
  have D0 : BdS w (w.alloc (.cells #[] 147)) 147 3 R a n c p (.slice (some ⟨w.heap.size, 0, none⟩) 0 0) 0 [] :=
    ⟨h.below (below_nw _ _), World.ownsRow_lit _ #[] 0 (Nat.le_refl _) (by simp) (by simp), grown_of_below _ (below_nw _ _), h.lts.1, h.lts.2⟩
  clear h
  go_enter Tryd.func69, Tryd.ntmps69
  go_wp2_with fail
  refine (pick_r R a n c p 4 _ D0.rd (by omega)).mono ?_
  rintro e w1 ⟨⟨v, rfl, v0, v1⟩, hr1, hg1⟩
  have D1 := D0.pick hr1 hg1
  have hv : IntKind.i64.wrap (1 + v) = 1 + v := wrap_i64_id _ (by omega) (by omega)
  clear D0 hr1 hg1
  go_wp2_with fail
  refine (pick_r R a n c (p + 1) 10 _ D1.rd (by omega)).mono ?_
  rintro e w2 ⟨⟨u, rfl, u0, u1⟩, hr2, hg2⟩
  have D2 := D1.pick hr2 hg2
  clear D1 hr2 hg2
  go_upto_if 13 with fail
  go_cut [4] from 11 to 16 (fun nv wx => ∃ (N q : Int), nv = .int .i64 N ∧ 1 ≤ N ∧ N ≤ 20 ∧ p ≤ q ∧ q ≤ p + 3 ∧ BdS w wx 147 3 R a n c q (.slice (some ⟨w.heap.size, 0, none⟩) 0 0) 0 [])
  case first =>
    by_cases hu : u = 0
    · subst hu
      go_wp2_with fail
      refine (pick_r R a n c (p + 1 + 1) 2 _ D2.rd (by omega)).mono ?_
      rintro e w3 ⟨⟨z, rfl, z0, z1⟩, hr3, hg3⟩
      have D3 := D2.pick hr3 hg3
      have hz : IntKind.i64.wrap (20 - z) = 20 - z := wrap_i64_id _ (by omega) (by omega)
      clear D2 hr3 hg3
      go_wp2_with fail
      go_meet
      exact ⟨20 - z, p + 1 + 1 + 1, rfl, by omega, by omega, by omega, by omega, D3⟩
    · go_wp2_with fail
      go_meet
      exact ⟨1 + v, p + 1 + 1, rfl, by omega, by omega, by omega, by omega, D2⟩
  case rest =>
  obtain ⟨N, q, rfl, N0, N1, hq0, hq1, D3⟩ := hcut
  clear D2 u0 u1 hv v0 v1
  go_wp2
  go_loopw [3, 5] (fun y iv wr => ∃ (rs : List (ByteArray × ByteArray × Bool)) (q : Int) (Y : Value), Y = y ∧ iv = .int .i64 (rs.length : Int) ∧ (rs.length : Int) ≤ N ∧ p ≤ q ∧ q ≤ p + 3 + 20 * (rs.length : Int) ∧ chsLe rs 3 100 ∧ BdS w wr 147 3 R a n c q y rs.length (chcells rs)) (fun _ iv _ => (N - intOf iv).toNat)
  case atStart => exact ⟨[], q, _, rfl, rfl, by simp; omega, by omega, by simp; omega, (fun x hx => by simp at hx), D3⟩
  case round =>
    obtain ⟨rs, q, y, rfl, rfl, hl, q0, q1, hrs, DR⟩ := hrel
    have HRS := hid hrs
    clear hrs
    have hrl : rs.length ≤ 20 := by omega
    by_cases hlt : (rs.length : Int) < N
    · have hNN : ¬ N ≤ (rs.length : Int) := by omega
      obtain ⟨ya, yc, rfl⟩ := owns_slice DR.own
      have hw1 : IntKind.i64.wrap ((rs.length : Int) + 1) = (rs.length : Int) + 1 := wrap_i64_id _ (by omega) (by omega)
      go_upto_region 8 with fail
      go_cut [6] from 17 to 58 (fun xv wx => ∃ (X : Nat) (KY : ByteArray) (gn : Bool), xv = .pointer (some ⟨X, 0, none⟩) ∧ KY.size = 2 ∧ BdX w wx 147 3 R a n c (q + 1 + 1) (.slice ya rs.length yc) rs.length (chcells rs) X [.string KY, .string ⟨#[]⟩, .bool gn])
      case first =>
        refine wp_region_held_drew (S := fun w' => True) (by kernel_rfl) (trivial) (fun hHeld => ?_)
        refine TK (i := 0) (v := .pointer (some ⟨R, 0, none⟩)) rfl (Or.inl ⟨by rfl, fun w hw => by obtain z0 := hw; go_simp⟩) hHeld ?_
        simp only [PS]
        refine TK (i := 5) (v := .pointer (some ⟨R, 0, none⟩)) rfl (Or.inl ⟨by rfl, fun w hw => by obtain z0 := hw; go_simp⟩) hHeld ?_
        simp only [PS]
        refine wpAnyH_ready (rs := [1, 9]) (by kernel_rfl) (by simp) ?_
        refine AllReadyH.cons rfl (fun K hK => ?_) (AllReadyH.cons rfl (fun K hK => ?_) AllReadyH.nil)
        · refine step_call (by rfl) 30 #[.pointer (some ⟨R, 0, none⟩), .int .i64 8] (by go_simp) (pick_r R a n c q 8 _ DR.drew.rd (by omega)) ?_
          rintro e w4 ⟨⟨x', rfl, x0, x1⟩, hr4, hg4⟩
          refine ⟨_, rfl, ?_⟩
          have F1 := DR.drew.pick hr4 hg4
          clear hr4 hg4
          obtain ⟨x, rfl⟩ : ∃ k : Nat, x' = (k : Int) := ⟨x'.toNat, by omega⟩
          have hx8 : (x : Int) ≤ 8 := by omega
          have hx8n : x < 8 := by omega
          clear x0 x1
          have hT8 : ((⟨#[97, 98, 99, 100, 101, 102, 103, 104]⟩ : ByteArray).extract x 8).size = 8 - x := by simp only [ByteArray.size_extract]; show min 8 8 - x = 8 - x; omega
          have hT8i : (1 : Int) ≤ (((8 - x : Nat)) : Int) := by omega
          obtain ⟨k1, e_k1⟩ : ∃ z, ((⟨#[97, 98, 99, 100, 101, 102, 103, 104]⟩ : ByteArray).extract x 8).extract 0 1 = z := ⟨_, rfl⟩
          have hk1 : k1.size = 1 := by rw [← e_k1]; simp only [ByteArray.size_extract]; show min 1 (min 8 8 - x) - 0 = 1; omega
          obtain ⟨KY, e_KY⟩ : ∃ z, (⟨#[107]⟩ : ByteArray) ++ k1 = z := ⟨_, rfl⟩
          have hKY : KY.size = 2 := by rw [← e_KY, ByteArray.size_append]; show 1 + k1.size = 2; omega
          have zk1 : ¬ (9223372036854775807 < 1 + k1.size) := by omega
          refine hK.out _ _ hHeld (fun _ => ?_)
          clear hK K
          try simp only [PS]
          refine TK (i := 2) (v := .string ((⟨#[97, 98, 99, 100, 101, 102, 103, 104]⟩ : ByteArray).extract x 8)) rfl (Or.inl ⟨by rfl, fun w hw => by obtain z0 := hw; go_simp⟩) hHeld ?_
          simp only [PS]
          refine TK (i := 3) (v := .string k1) rfl (Or.inl ⟨by rfl, fun w hw => by obtain z0 := hw; go_simp⟩) hHeld ?_
          simp only [PS]
          refine TK (i := 4) (v := .string KY) rfl (Or.inl ⟨by rfl, fun w hw => by obtain z0 := hw; go_simp⟩) hHeld ?_
          simp only [PS]
          refine wpAnyH_ready (rs := [6, 9]) (by kernel_rfl) (by simp) ?_
          refine AllReadyH.cons rfl (fun K hK => ?_) (AllReadyH.cons rfl (fun K hK => ?_) AllReadyH.nil)
          · refine step_call (by rfl) 30 #[.pointer (some ⟨R, 0, none⟩), .int .i64 4] (by go_simp) (pick_r R a n c (q + 1) 4 _ F1.rd (by omega)) ?_
            rintro e w5 ⟨⟨u', rfl, u0, u1⟩, hr5, hg5⟩
            refine ⟨_, rfl, ?_⟩
            have F6 := F1.pick hr5 hg5
            clear hr5 hg5
            obtain ⟨gn, hgn⟩ : ∃ g : Bool, (u' == 0) = g := ⟨_, rfl⟩
            have hgn2 : decide (u' = 0) = gn := by rw [← hgn]; rfl
            refine hK.out _ _ hHeld (fun _ => ?_)
            clear hK K
            try simp only [PS]
            refine TK (i := 7) (v := .bool gn) rfl (Or.inl ⟨by rfl, fun w hw => by obtain z0 := hw; go_simp⟩) hHeld ?_
            simp only [PS]
            refine TK (i := 8) (v := .agg #[.string KY, .string ⟨#[]⟩, .bool gn]) rfl (Or.inl ⟨by rfl, fun w hw => by obtain z0 := hw; go_simp⟩) hHeld ?_
            simp only [PS]
            refine wpAnyH_ready (rs := [9]) (by kernel_rfl) (by simp) ?_
            refine AllReadyH.cons rfl (fun K hK => ?_) AllReadyH.nil
            go_simp
            have F9 := (F6.box #[.string ⟨#[]⟩, .string ⟨#[]⟩, .bool false] 147)
            obtain ⟨X, e_X⟩ : ∃ z, z = w5.heap.size := ⟨_, rfl⟩
            obtain ⟨wx, e_wx⟩ : ∃ z, z = (w5.alloc (.cells #[.string ⟨#[]⟩, .string ⟨#[]⟩, .bool false] 147)) := ⟨_, rfl⟩
            rw [← e_wx, ← e_X] at F9
            rw [← e_wx, ← e_X]
            clear e_wx e_X
            refine hK.out _ _ hHeld (fun _ => ?_)
            clear hK K
            try simp only [PS]
            refine wpAnyH_ready (rs := [10]) (by kernel_rfl) (by simp) ?_
            refine AllReadyH.cons rfl (fun K hK => ?_) AllReadyH.nil
            have G8 := F9
            have l0 := G8.row.cell 0 _ rfl
            have lf0 := G8.row.froz 0 (by simp)
            have l1 := G8.row.cell 1 _ rfl
            have lf1 := G8.row.froz 1 (by simp)
            have l2 := G8.row.cell 2 _ rfl
            have lf2 := G8.row.froz 2 (by simp)
            have ll := G8.row.lt
            go_simp
            refine hK.out _ _ hHeld (fun _ => ?_)
            clear hK K
            try simp only [PS]
            refine wpAnyH_done (by kernel_rfl) ?_ _
            have G9 : BdX w (((wx.setCell ⟨X, 0, none⟩ (.string KY)).setCell ⟨X, 1, none⟩ (.string ⟨#[]⟩)).setCell ⟨X, 2, none⟩ (.bool gn)) 147 3 R a n c (q + 1 + 1) (.slice ya rs.length yc) rs.length (chcells rs) X [.string KY, .string ⟨#[]⟩, .bool gn] := ((G8.set 0 (by simp) (.string KY)).set 1 (by simp) (.string ⟨#[]⟩)).set 2 (by simp) (.bool gn)
            go_wp2_with fail
            go_meet
            exact ⟨X, KY, gn, rfl, hKY, G9⟩
          · go_simp
            have F9 := (F1.box #[.string ⟨#[]⟩, .string ⟨#[]⟩, .bool false] 147)
            obtain ⟨X, e_X⟩ : ∃ z, z = w4.heap.size := ⟨_, rfl⟩
            obtain ⟨wx, e_wx⟩ : ∃ z, z = (w4.alloc (.cells #[.string ⟨#[]⟩, .string ⟨#[]⟩, .bool false] 147)) := ⟨_, rfl⟩
            rw [← e_wx, ← e_X] at F9
            rw [← e_wx, ← e_X]
            clear e_wx e_X
            refine hK.out _ _ hHeld (fun _ => ?_)
            clear hK K
            try simp only [PS]
            refine wpAnyH_ready (rs := [6]) (by kernel_rfl) (by simp) ?_
            refine AllReadyH.cons rfl (fun K hK => ?_) AllReadyH.nil
            refine step_call (by rfl) 30 #[.pointer (some ⟨R, 0, none⟩), .int .i64 4] (by go_simp) (pick_r R a n c (q + 1) 4 _ F9.s.rd (by omega)) ?_
            rintro e w5 ⟨⟨u', rfl, u0, u1⟩, hr5, hg5⟩
            refine ⟨_, rfl, ?_⟩
            have F6 := F9.pick hr5 hg5
            clear hr5 hg5
            obtain ⟨gn, hgn⟩ : ∃ g : Bool, (u' == 0) = g := ⟨_, rfl⟩
            have hgn2 : decide (u' = 0) = gn := by rw [← hgn]; rfl
            refine hK.out _ _ hHeld (fun _ => ?_)
            clear hK K
            try simp only [PS]
            refine TK (i := 7) (v := .bool gn) rfl (Or.inl ⟨by rfl, fun w hw => by obtain z0 := hw; go_simp⟩) hHeld ?_
            simp only [PS]
            refine TK (i := 8) (v := .agg #[.string KY, .string ⟨#[]⟩, .bool gn]) rfl (Or.inl ⟨by rfl, fun w hw => by obtain z0 := hw; go_simp⟩) hHeld ?_
            simp only [PS]
            refine wpAnyH_ready (rs := [10]) (by kernel_rfl) (by simp) ?_
            refine AllReadyH.cons rfl (fun K hK => ?_) AllReadyH.nil
            have G8 := F6
            have l0 := G8.row.cell 0 _ rfl
            have lf0 := G8.row.froz 0 (by simp)
            have l1 := G8.row.cell 1 _ rfl
            have lf1 := G8.row.froz 1 (by simp)
            have l2 := G8.row.cell 2 _ rfl
            have lf2 := G8.row.froz 2 (by simp)
            have ll := G8.row.lt
            go_simp
            refine hK.out _ _ hHeld (fun _ => ?_)
            clear hK K
            try simp only [PS]
            refine wpAnyH_done (by kernel_rfl) ?_ _
            have G9 : BdX w (((w5.setCell ⟨X, 0, none⟩ (.string KY)).setCell ⟨X, 1, none⟩ (.string ⟨#[]⟩)).setCell ⟨X, 2, none⟩ (.bool gn)) 147 3 R a n c (q + 1 + 1) (.slice ya rs.length yc) rs.length (chcells rs) X [.string KY, .string ⟨#[]⟩, .bool gn] := ((G8.set 0 (by simp) (.string KY)).set 1 (by simp) (.string ⟨#[]⟩)).set 2 (by simp) (.bool gn)
            go_wp2_with fail
            go_meet
            exact ⟨X, KY, gn, rfl, hKY, G9⟩
        · go_simp
          have F9 := (DR.box #[.string ⟨#[]⟩, .string ⟨#[]⟩, .bool false] 147).drew
          obtain ⟨X, e_X⟩ : ∃ z, z = wr.heap.size := ⟨_, rfl⟩
          obtain ⟨wx, e_wx⟩ : ∃ z, z = (wr.alloc (.cells #[.string ⟨#[]⟩, .string ⟨#[]⟩, .bool false] 147)).drew := ⟨_, rfl⟩
          rw [← e_wx, ← e_X] at F9
          rw [← e_wx, ← e_X]
          clear e_wx e_X
          refine hK.out _ _ hHeld (fun _ => ?_)
          clear hK K
          try simp only [PS]
          refine wpAnyH_ready (rs := [1]) (by kernel_rfl) (by simp) ?_
          refine AllReadyH.cons rfl (fun K hK => ?_) AllReadyH.nil
          refine step_call (by rfl) 30 #[.pointer (some ⟨R, 0, none⟩), .int .i64 8] (by go_simp) (pick_r R a n c q 8 _ F9.s.rd (by omega)) ?_
          rintro e w4 ⟨⟨x', rfl, x0, x1⟩, hr4, hg4⟩
          refine ⟨_, rfl, ?_⟩
          have F1 := F9.pick hr4 hg4
          clear hr4 hg4
          obtain ⟨x, rfl⟩ : ∃ k : Nat, x' = (k : Int) := ⟨x'.toNat, by omega⟩
          have hx8 : (x : Int) ≤ 8 := by omega
          have hx8n : x < 8 := by omega
          clear x0 x1
          have hT8 : ((⟨#[97, 98, 99, 100, 101, 102, 103, 104]⟩ : ByteArray).extract x 8).size = 8 - x := by simp only [ByteArray.size_extract]; show min 8 8 - x = 8 - x; omega
          have hT8i : (1 : Int) ≤ (((8 - x : Nat)) : Int) := by omega
          obtain ⟨k1, e_k1⟩ : ∃ z, ((⟨#[97, 98, 99, 100, 101, 102, 103, 104]⟩ : ByteArray).extract x 8).extract 0 1 = z := ⟨_, rfl⟩
          have hk1 : k1.size = 1 := by rw [← e_k1]; simp only [ByteArray.size_extract]; show min 1 (min 8 8 - x) - 0 = 1; omega
          obtain ⟨KY, e_KY⟩ : ∃ z, (⟨#[107]⟩ : ByteArray) ++ k1 = z := ⟨_, rfl⟩
          have hKY : KY.size = 2 := by rw [← e_KY, ByteArray.size_append]; show 1 + k1.size = 2; omega
          have zk1 : ¬ (9223372036854775807 < 1 + k1.size) := by omega
          refine hK.out _ _ hHeld (fun _ => ?_)
          clear hK K
          try simp only [PS]
          refine TK (i := 2) (v := .string ((⟨#[97, 98, 99, 100, 101, 102, 103, 104]⟩ : ByteArray).extract x 8)) rfl (Or.inl ⟨by rfl, fun w hw => by obtain z0 := hw; go_simp⟩) hHeld ?_
          simp only [PS]
          refine TK (i := 3) (v := .string k1) rfl (Or.inl ⟨by rfl, fun w hw => by obtain z0 := hw; go_simp⟩) hHeld ?_
          simp only [PS]
          refine TK (i := 4) (v := .string KY) rfl (Or.inl ⟨by rfl, fun w hw => by obtain z0 := hw; go_simp⟩) hHeld ?_
          simp only [PS]
          refine wpAnyH_ready (rs := [6]) (by kernel_rfl) (by simp) ?_
          refine AllReadyH.cons rfl (fun K hK => ?_) AllReadyH.nil
          refine step_call (by rfl) 30 #[.pointer (some ⟨R, 0, none⟩), .int .i64 4] (by go_simp) (pick_r R a n c (q + 1) 4 _ F1.s.rd (by omega)) ?_
          rintro e w5 ⟨⟨u', rfl, u0, u1⟩, hr5, hg5⟩
          refine ⟨_, rfl, ?_⟩
          have F6 := F1.pick hr5 hg5
          clear hr5 hg5
          obtain ⟨gn, hgn⟩ : ∃ g : Bool, (u' == 0) = g := ⟨_, rfl⟩
          have hgn2 : decide (u' = 0) = gn := by rw [← hgn]; rfl
          refine hK.out _ _ hHeld (fun _ => ?_)
          clear hK K
          try simp only [PS]
          refine TK (i := 7) (v := .bool gn) rfl (Or.inl ⟨by rfl, fun w hw => by obtain z0 := hw; go_simp⟩) hHeld ?_
          simp only [PS]
          refine TK (i := 8) (v := .agg #[.string KY, .string ⟨#[]⟩, .bool gn]) rfl (Or.inl ⟨by rfl, fun w hw => by obtain z0 := hw; go_simp⟩) hHeld ?_
          simp only [PS]
          refine wpAnyH_ready (rs := [10]) (by kernel_rfl) (by simp) ?_
          refine AllReadyH.cons rfl (fun K hK => ?_) AllReadyH.nil
          have G8 := F6
          have l0 := G8.row.cell 0 _ rfl
          have lf0 := G8.row.froz 0 (by simp)
          have l1 := G8.row.cell 1 _ rfl
          have lf1 := G8.row.froz 1 (by simp)
          have l2 := G8.row.cell 2 _ rfl
          have lf2 := G8.row.froz 2 (by simp)
          have ll := G8.row.lt
          go_simp
          refine hK.out _ _ hHeld (fun _ => ?_)
          clear hK K
          try simp only [PS]
          refine wpAnyH_done (by kernel_rfl) ?_ _
          have G9 : BdX w (((w5.setCell ⟨X, 0, none⟩ (.string KY)).setCell ⟨X, 1, none⟩ (.string ⟨#[]⟩)).setCell ⟨X, 2, none⟩ (.bool gn)) 147 3 R a n c (q + 1 + 1) (.slice ya rs.length yc) rs.length (chcells rs) X [.string KY, .string ⟨#[]⟩, .bool gn] := ((G8.set 0 (by simp) (.string KY)).set 1 (by simp) (.string ⟨#[]⟩)).set 2 (by simp) (.bool gn)
          go_wp2_with fail
          go_meet
          exact ⟨X, KY, gn, rfl, hKY, G9⟩
      case rest =>
      obtain ⟨X, KY, gn, rfl, hKY, G9⟩ := hcut
      clear DR
      go_upto_if 32 with fail
      go_cut [] from 17 to 58 (fun wx => ∃ (K2 : ByteArray) (q2 : Int), K2.size ≤ 3 ∧ q ≤ q2 ∧ q2 ≤ q + 3 ∧ BdX w wx 147 3 R a n c q2 (.slice ya rs.length yc) rs.length (chcells rs) X [.string K2, .string ⟨#[]⟩, .bool gn])
      case first =>
        by_cases hN8 : 8 < N
        · go_upto_region 10 with fail
          refine wp_region_held_drew (S := fun w' => True) (by kernel_rfl) (trivial) (fun hHeld => ?_)
          refine TK (i := 0) (v := .pointer (some ⟨X, 0, none⟩)) rfl (Or.inl ⟨by rfl, fun w hw => by obtain z0 := hw; go_simp⟩) hHeld ?_
          simp only [PS]
          refine TK (i := 2) (v := .pointer (some ⟨R, 0, none⟩)) rfl (Or.inl ⟨by rfl, fun w hw => by obtain z0 := hw; go_simp⟩) hHeld ?_
          simp only [PS]
          refine wpAnyH_ready (rs := [1, 3]) (by kernel_rfl) (by simp) ?_
          refine AllReadyH.cons rfl (fun K hK => ?_) (AllReadyH.cons rfl (fun K hK => ?_) AllReadyH.nil)
          · have l0 := G9.drew.row.cell 0 _ rfl
            go_simp
            refine hK.out _ _ hHeld (fun _ => ?_)
            clear hK K
            try simp only [PS]
            refine wpAnyH_ready (rs := [3]) (by kernel_rfl) (by simp) ?_
            refine AllReadyH.cons rfl (fun K hK => ?_) AllReadyH.nil
            refine step_call (by rfl) 30 #[.pointer (some ⟨R, 0, none⟩), .int .i64 3] (by go_simp) (pick_r R a n c (q + 1 + 1) 3 _ G9.drew.s.rd (by omega)) ?_
            rintro e w6 ⟨⟨z', rfl, z0, z1⟩, hr6, hg6⟩
            refine ⟨_, rfl, ?_⟩
            have E6 := G9.drew.pick hr6 hg6
            clear hr6 hg6
            obtain ⟨z, rfl⟩ : ∃ k : Nat, z' = (k : Int) := ⟨z'.toNat, by omega⟩
            have hz3 : (z : Int) ≤ 3 := by omega
            have hz3n : z < 3 := by omega
            clear z0 z1
            have hT3 : ((⟨#[120, 121, 122]⟩ : ByteArray).extract z 3).size = 3 - z := by simp only [ByteArray.size_extract]; show min 3 3 - z = 3 - z; omega
            have hT3i : (1 : Int) ≤ (((3 - z : Nat)) : Int) := by omega
            obtain ⟨k2, e_k2⟩ : ∃ x, ((⟨#[120, 121, 122]⟩ : ByteArray).extract z 3).extract 0 1 = x := ⟨_, rfl⟩
            have hk2 : k2.size = 1 := by rw [← e_k2]; simp only [ByteArray.size_extract]; show min 1 (min 3 3 - z) - 0 = 1; omega
            have zk : ¬ (9223372036854775807 < KY.size + k2.size) := by omega
            refine hK.out _ _ hHeld (fun _ => ?_)
            clear hK K
            try simp only [PS]
            refine TK (i := 4) (v := .string ((⟨#[120, 121, 122]⟩ : ByteArray).extract z 3)) rfl (Or.inl ⟨by rfl, fun w hw => by obtain z0 := hw; go_simp⟩) hHeld ?_
            simp only [PS]
            refine TK (i := 5) (v := .string k2) rfl (Or.inl ⟨by rfl, fun w hw => by obtain z0 := hw; go_simp⟩) hHeld ?_
            simp only [PS]
            refine TK (i := 6) (v := .string (KY ++ k2)) rfl (Or.inl ⟨by rfl, fun w hw => by obtain z0 := hw; go_simp⟩) hHeld ?_
            simp only [PS]
            refine TK (i := 7) (v := .pointer (some ⟨X, 0, none⟩)) rfl (Or.inl ⟨by rfl, fun w hw => by obtain z0 := hw; go_simp⟩) hHeld ?_
            simp only [PS]
            refine wpAnyH_ready (rs := [8]) (by kernel_rfl) (by simp) ?_
            refine AllReadyH.cons rfl (fun K hK => ?_) AllReadyH.nil
            have l0 := E6.row.cell 0 _ rfl
            have lf := E6.row.froz 0 (by simp)
            have ll := E6.row.lt
            go_simp
            refine hK.out _ _ hHeld (fun _ => ?_)
            clear hK K
            try simp only [PS]
            refine wpAnyH_done (by kernel_rfl) ?_ _
            have E7 : BdX w (w6.setCell ⟨X, 0, none⟩ (.string (KY ++ k2))) 147 3 R a n c (q + 1 + 1 + 1) (.slice ya rs.length yc) rs.length (chcells rs) X [.string (KY ++ k2), .string ⟨#[]⟩, .bool gn] := E6.set 0 (by simp) (.string (KY ++ k2))
            go_wp2_with fail
            go_meet
            exact ⟨KY ++ k2, q + 1 + 1 + 1, by rw [ByteArray.size_append]; omega, by omega, by omega, E7⟩
          · refine step_call (by rfl) 30 #[.pointer (some ⟨R, 0, none⟩), .int .i64 3] (by go_simp) (pick_r R a n c (q + 1 + 1) 3 _ G9.drew.s.rd (by omega)) ?_
            rintro e w6 ⟨⟨z', rfl, z0, z1⟩, hr6, hg6⟩
            refine ⟨_, rfl, ?_⟩
            have E6 := G9.drew.pick hr6 hg6
            clear hr6 hg6
            obtain ⟨z, rfl⟩ : ∃ k : Nat, z' = (k : Int) := ⟨z'.toNat, by omega⟩
            have hz3 : (z : Int) ≤ 3 := by omega
            have hz3n : z < 3 := by omega
            clear z0 z1
            have hT3 : ((⟨#[120, 121, 122]⟩ : ByteArray).extract z 3).size = 3 - z := by simp only [ByteArray.size_extract]; show min 3 3 - z = 3 - z; omega
            have hT3i : (1 : Int) ≤ (((3 - z : Nat)) : Int) := by omega
            obtain ⟨k2, e_k2⟩ : ∃ x, ((⟨#[120, 121, 122]⟩ : ByteArray).extract z 3).extract 0 1 = x := ⟨_, rfl⟩
            have hk2 : k2.size = 1 := by rw [← e_k2]; simp only [ByteArray.size_extract]; show min 1 (min 3 3 - z) - 0 = 1; omega
            have zk : ¬ (9223372036854775807 < KY.size + k2.size) := by omega
            refine hK.out _ _ hHeld (fun _ => ?_)
            clear hK K
            try simp only [PS]
            refine TK (i := 4) (v := .string ((⟨#[120, 121, 122]⟩ : ByteArray).extract z 3)) rfl (Or.inl ⟨by rfl, fun w hw => by obtain z0 := hw; go_simp⟩) hHeld ?_
            simp only [PS]
            refine TK (i := 5) (v := .string k2) rfl (Or.inl ⟨by rfl, fun w hw => by obtain z0 := hw; go_simp⟩) hHeld ?_
            simp only [PS]
            refine wpAnyH_ready (rs := [1]) (by kernel_rfl) (by simp) ?_
            refine AllReadyH.cons rfl (fun K hK => ?_) AllReadyH.nil
            have l0 := E6.row.cell 0 _ rfl
            go_simp
            refine hK.out _ _ hHeld (fun _ => ?_)
            clear hK K
            try simp only [PS]
            refine TK (i := 6) (v := .string (KY ++ k2)) rfl (Or.inl ⟨by rfl, fun w hw => by obtain z0 := hw; go_simp⟩) hHeld ?_
            simp only [PS]
            refine TK (i := 7) (v := .pointer (some ⟨X, 0, none⟩)) rfl (Or.inl ⟨by rfl, fun w hw => by obtain z0 := hw; go_simp⟩) hHeld ?_
            simp only [PS]
            refine wpAnyH_ready (rs := [8]) (by kernel_rfl) (by simp) ?_
            refine AllReadyH.cons rfl (fun K hK => ?_) AllReadyH.nil
            have l0 := E6.row.cell 0 _ rfl
            have lf := E6.row.froz 0 (by simp)
            have ll := E6.row.lt
            go_simp
            refine hK.out _ _ hHeld (fun _ => ?_)
            clear hK K
            try simp only [PS]
            refine wpAnyH_done (by kernel_rfl) ?_ _
            have E7 : BdX w (w6.setCell ⟨X, 0, none⟩ (.string (KY ++ k2))) 147 3 R a n c (q + 1 + 1 + 1) (.slice ya rs.length yc) rs.length (chcells rs) X [.string (KY ++ k2), .string ⟨#[]⟩, .bool gn] := E6.set 0 (by simp) (.string (KY ++ k2))
            go_wp2_with fail
            go_meet
            exact ⟨KY ++ k2, q + 1 + 1 + 1, by rw [ByteArray.size_append]; omega, by omega, by omega, E7⟩
        · go_wp2_with fail
          go_meet
          exact ⟨KY, q + 1 + 1, by omega, by omega, by omega, G9⟩
      case rest =>
      obtain ⟨K2, q2, hK2, q20, q21, G10⟩ := hcut
      have m0 := G10.row.cell 0 _ rfl
      have m1 := G10.row.cell 1 _ rfl
      have m2 := G10.row.cell 2 _ rfl
      have ml := G10.row.lt
      go_upto_if 43 with fail
      clear m0 m1 m2 ml
      go_cut [] from 17 to 58 (fun wx => ∃ (t : ByteArray) (q3 : Int), t.size ≤ 64000 ∧ q ≤ q3 ∧ q3 ≤ q + 15 ∧ BdX w wx 147 3 R a n c q3 (.slice ya rs.length yc) rs.length (chcells rs) X [.string K2, .string t, .bool gn])
      case first =>
        cases gn with
        | true =>
          go_wp2_with fail
          go_meet
          exact ⟨⟨#[]⟩, q2, by decide, by omega, by omega, G10⟩
        | false =>
          go_wp2_with fail
          refine (text_r R a n c q2 _ G10.s.rd (by omega)).mono ?_
          rintro e w7 ⟨⟨t, rfl, ht⟩, ⟨q7, q70, q71, hr7⟩, hg7⟩
          have D7 := G10.pick hr7 hg7
          clear hr7 hg7
          have m0 := D7.row.cell 0 _ rfl
          have m1 := D7.row.cell 1 _ rfl
          have m2 := D7.row.cell 2 _ rfl
          have mf := D7.row.froz 1 (by simp)
          have ml := D7.row.lt
          have D8 : BdX w (w7.setCell ⟨X, 1, none⟩ (.string t)) 147 3 R a n c q7 (.slice ya rs.length yc) rs.length (chcells rs) X [.string K2, .string t, .bool false] := D7.set 1 (by simp) (.string t)
          go_wp2_with fail
          go_meet
          exact ⟨t, q7, ht, by omega, by omega, D8⟩
      case rest =>
      obtain ⟨t, q3, ht, q30, q31, G11⟩ := hcut
      have m0 := G11.row.cell 0 _ rfl
      have m1 := G11.row.cell 1 _ rfl
      have m2 := G11.row.cell 2 _ rfl
      have mf := G11.row.froz 1 (by simp)
      have ml := G11.row.lt
      go_upto_if 50 with fail
      go_cut [] from 17 to 58 (fun wx => ∃ (t : ByteArray), t.size ≤ 100 ∧ BdX w wx 147 3 R a n c q3 (.slice ya rs.length yc) rs.length (chcells rs) X [.string K2, .string t, .bool gn])
      case first =>
        by_cases ht1 : t.size ≤ 100
        · have ht2 : ¬ (100 < (t.size : Int)) := by omega
          go_wp2_with fail
          go_meet
          exact ⟨t, ht1, G11⟩
        · have ht2 : 100 < (t.size : Int) := by omega
          have ht3 : (100 : Int) ≤ (t.size : Int) := by omega
          have D9' : BdX w (_) 147 3 R a n c q3 (.slice ya rs.length yc) rs.length (chcells rs) X [.string K2, .string (t.extract 0 100), .bool gn] := G11.set 1 (by simp) (.string (t.extract 0 100))
          go_wp2_with fail
          go_meet
          exact ⟨t.extract 0 100, by simp only [ByteArray.size_extract]; omega, D9'⟩
      case rest =>
      clear m0 m1 m2 mf ml G11
      obtain ⟨t9, ht9, G12⟩ := hcut
      have x0 := G12.row.cell 0 _ rfl
      have x1 := G12.row.cell 1 _ rfl
      have x2 := G12.row.cell 2 _ rfl
      have xl := G12.row.lt
      have D9 := G12.s.below (below_nw _ (.cells #[.string K2, .string t9, .bool gn] 147))
      have HO9 := hid D9.own
      have hy0 := G12.s.lt
      go_wp2_with (first | (at_builtin; refine wpList_append_lies _ rfl _ _ 115 rfl w.heap.size 147 i0 (.agg #[.string ByteArray.empty, .string ByteArray.empty, .bool false]) 3 40 Tryd.underlying115 HI.out.1 HI.out.2.1 HI.out.2.2.1 HI.out.2.2.2 rfl (by omega) _ rs.length _ rfl HO9.out ⟨wc.heap.size, 0, none⟩ 1 1 [.string K2, .string t9, .bool gn] rfl rfl (news_at _ _ _) (oneCB _ _ _) (by omega) (by unfold maxLen; omega) (by omega) (by simp; omega) (wc.heap.size + 1) (by simp) ?_; intro g cap w10 hown10 hgrow10 hat10 hlt10; have D10 := D9.push hown10 hgrow10; clear hown10 hgrow10 hat10))
      go_roundw
      case rel =>
        refine ⟨rs ++ [(K2, t9, gn)], q3, _, rfl, by simp, by simp; omega, by omega, by simp; omega, ?_, ?_⟩
        · intro x hx
          rcases List.mem_append.1 hx with hx | hx
          · exact HRS.out x hx
          · simp at hx; subst hx; exact ⟨hK2, ht9⟩
        · rw [chcells_snocB, List.length_append]; exact D10
      all_goals (simp [intOf]; omega)
    · go_wp2
      go_ret
      exact ⟨⟨_, rfl, rs, DR.own, ⟨by omega, hrl⟩, HRS.out⟩, ⟨q, q0, by omega, DR.rd⟩, DR.gr⟩
end Go.Proofs.YtnmaknnnmjfhkaeDoor
