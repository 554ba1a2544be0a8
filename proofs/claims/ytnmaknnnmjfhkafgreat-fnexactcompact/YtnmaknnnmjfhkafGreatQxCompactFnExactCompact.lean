import Derived.Test.YtnmaknnnmjfhkafGreatRows
import Derived.Test.YtnmaknnnmjfhkafGreatQxCompactMvC
import Derived.Test.YtnmaknnnmjfhkafGreatQxCompactDnB
import Derived.Test.YtnmaknnnmjfhkafGreatMgXCompact6
import Derived.Test.YtnmaknnnmjfhkafGreatMgXCompact51
import Derived.WalkKit
import Derived.ProofKit
import Derived.OpenShut
import Derived.ShutString
import Derived.ChangeOld
import Derived.ChangeSlices
import Derived.Below
import Derived.Lib.SmallJoins
namespace Go.Proofs.YtnmaknnnmjfhkafGreat.fnExactCompact
open Go.ChangeShapes Go.WideShapes Go.ChangeAt Go.RowKit Go.Joins
open Go.ChangeMaps (open_string shut_string)
set_option linter.unusedVariables false

theorem own : ownKnob Tryz.prog.godebug = none := by kernel_rfl
theorem laidOut : laidOutB Tryz.prog = true := by kernel_rfl

set_option maxHeartbeats 16000000 in
theorem walk (W S L T H F R U O : Int) (a : Option Addr) (rs : List (ByteArray × ByteArray)) (c : Nat) (w : World) (h : Prs w a rs) (hl : rs.length ≤ maxLen) (hs : ∀ s ∈ rs, s.1.size ≤ maxLen ∧ s.2.size ≤ maxLen) :
    Calls Tryz.prog 3 #[storeV W S L T H F R U O a rs.length c] w fun e w' => e = .returned (.bool true) ∧ Below w.heap.size w w' := by
  have hb0 : ∀ o, Below w.heap.size w (w.alloc o) := fun o => (Below.refl _ _).alloc (Nat.le_refl _) _
  have hbd := szL_bd (rs.length :: rs.flatMap prsz) 1048576 (by omega)
  obtain ⟨R1, HR⟩ : ∃ R1, Hid (R1 = szL (rs.length :: rs.flatMap prsz) 1048576) := ⟨_, hid rfl⟩
  rw [← HR.out] at hbd
  have HSZ := hid (fun w' h' => sz_store W S L T H F R U O a rs c w' h' 1048576 (by omega) (by omega) hl hs)
  have HTO := hid (fun m1 w' h' => to_store W S L T H F R U O a rs c w' h' m1)
  unfold storeV at HSZ HTO ⊢
  rw [← HR.out] at HSZ
  by_cases hR : R1 < 0
  · clear hbd
    go_enter Tryz.func3, Tryz.ntmps3
    go_wp2_with (go_at_call 5; refine (HSZ.out _ (h.below (hb0 _))).mono ?_; rintro e w1 ⟨rfl, hb1⟩)
    go_ret
    exact ⟨rfl, (hb0 _).trans (hb1.mono (by simp))⟩
  · have hmem := szL_mem (rs.length :: rs.flatMap prsz) 1048576 (by omega) (by rw [← HR.out]; omega)
    have m1 : rs.length ≤ 1048576 := by have := hmem rs.length (by simp); omega
    have M3 : Hid (∀ x ∈ rs, x.1.size ≤ 1048576 ∧ x.2.size ≤ 1048576) := fun x hx => by
      have h1 := hmem x.1.size (List.mem_cons_of_mem _ (List.mem_flatMap.2 ⟨x, hx, by simp [prsz]⟩))
      have h2 := hmem x.2.size (List.mem_cons_of_mem _ (List.mem_flatMap.2 ⟨x, hx, by simp [prsz]⟩))
      omega
    have hR0 : 0 ≤ R1 := by omega
    obtain ⟨D, HD⟩ : ∃ D, Hid (D = compactD W S L T H F R U O rs) := ⟨_, hid rfl⟩
    have hdb := compactD_bound W S L T H F R U O rs m1
    have HSP := hid (fun g w' h' => compact_s W S L T H F R U O (some ⟨g, 0, none⟩) rs rs.length w' h' m1 M3.out)
    have HIM := hid (fun g w' h' => compact_i W S L T H F R U O (some ⟨g, 0, none⟩) rs rs.length w' h' (Nat.le_refl _) m1 M3.out)
    rw [← HD.out] at HSP HIM hdb
    have HEQ := hid (fun a1 c1 b1 e1 a2 c2 b2 e2 w' h1 h2 h3 h4 => eq_done D a1 c1 b1 e1 a2 c2 b2 e2 w' h1 h2 h3 h4 hdb.1 (by omega))
    have HMD := hid (fun a1 c1 b1 e1 w' h1 => mark_done D a1 c1 b1 e1 1 w' h1 (by omega) (by omega))
    have HHD := hid (fun a1 c1 b1 e1 w' h1 h2 => held_done D a1 c1 b1 e1 1 w' h1 h2 (by omega) (by omega))
    have HES := hid (fun g g2 w' h' h2 => eq_store W S L T H F R U O (some ⟨g, 0, none⟩) (some ⟨g2, 0, none⟩) rs rs.length rs.length w' h' h2 m1)
    have HMS := hid (fun g w' h' => mark_store W S L T H F R U O (some ⟨g, 0, none⟩) rs rs.length 1 w' h' (by omega) (by omega))
    clear HD
    obtain ⟨C0, W0, S0, L0, T0, H0, F0, R0, U0, O0, ds, os⟩ := D
    unfold storeV at HSP HIM HES HMS
    unfold dnV at HEQ HMD HHD
    unfold DnPost dnV at HSP HIM
    simp only at HEQ HMD HHD HSP HIM hdb
    obtain ⟨k1, HK1⟩ : ∃ k1 : Nat, Hid (k1 = 1 + 2 * rs.length) := ⟨_, hid rfl⟩
    obtain ⟨m2, HM2⟩ : ∃ m2 : Nat, Hid (m2 = 1 + 2 * ds.length + 3 * os.length) := ⟨_, hid rfl⟩
    rw [← HK1.out] at HMS
    rw [← HM2.out] at HMD HHD
    have hk0 : (0 : Int) ≤ (k1 : Int) := by omega
    have hm0 : (0 : Int) ≤ (m2 : Int) := by omega
    clear hmem hbd hR
    go_enter Tryz.func3, Tryz.ntmps3
    go_wp2_with fail
    refine (HSZ.out _ (h.below (hb0 _))).mono ?_
    rintro e w1 ⟨rfl, hb1⟩
    have hA := (Boxd.new w #[.int .i64 W, .int .i64 S, .int .i64 L, .int .i64 T, .int .i64 H, .int .i64 F, .int .i64 R, .int .i64 U, .int .i64 O, .slice a rs.length c] 28).below hb1
    have hE := (hb0 (.cells #[.int .i64 W, .int .i64 S, .int .i64 L, .int .i64 T, .int .i64 H, .int .i64 F, .int .i64 R, .int .i64 U, .int .i64 O, .slice a rs.length c] 28)).trans (hb1.mono (by simp))
    clear hb1 HSZ
    have q0 := hA.cell 0 _ rfl
    have q1 := hA.cell 1 _ rfl
    have q2 := hA.cell 2 _ rfl
    have q3 := hA.cell 3 _ rfl
    have q4 := hA.cell 4 _ rfl
    have q5 := hA.cell 5 _ rfl
    have q6 := hA.cell 6 _ rfl
    have q7 := hA.cell 7 _ rfl
    have q8 := hA.cell 8 _ rfl
    have q9 := hA.cell 9 _ rfl
    have qlt := hA.lt
    have Hh_hA := hid hA
    clear hA
    have Hh_hE := hid hE
    clear hE
    go_wp2_with fail
    have hA := Hh_hA.out
    clear Hh_hA
    have hE := Hh_hE.out
    clear Hh_hE
    clear q0 q1 q2 q3 q4 q5 q6 q7 q8 q9 qlt
    refine (HTO.out m1 _ (h.below hE)).mono ?_
    rintro e w2 ⟨g1, rfl, _, hr, hb⟩
    have n_hA := hA.below hb
    have n_hE := hE.trans (hb.mono hE.size)
    clear hA
    clear hE
    have hA := n_hA
    clear n_hA
    have hE := n_hE
    clear n_hE
    have hs2 := hE.size
    have sg := hr.prs
    clear hr hb
    have HSG := hid sg
    clear sg
    have Hh_hA := hid hA
    clear hA
    have Hh_hE := hid hE
    clear hE
    go_wp2_with fail
    have hA := Hh_hA.out
    clear Hh_hA
    have hE := Hh_hE.out
    clear Hh_hE
    refine (HSP.out _ _ HSG.out).mono ?_
    rintro e w3 ⟨az, cz, bz, ez, rfl, _, hoz, hz1, hz2, hb⟩
    clear HSG HSP
    have n_hA := hA.below hb
    have n_hE := hE.trans (hb.mono hE.size)
    clear hA
    clear hE
    have hA := n_hA
    clear n_hA
    have hE := n_hE
    clear n_hE
    have hs3 := hb.size
    clear hb
    have hZ : DnBox (w3.alloc (.cells #[.int .i64 C0, .int .i64 W0, .int .i64 S0, .int .i64 L0, .int .i64 T0, .int .i64 H0, .int .i64 F0, .int .i64 R0, .int .i64 U0, .int .i64 O0, .slice az ds.length cz, .slice bz os.length ez] 38)) w3.heap.size ⟨C0, W0, S0, L0, T0, H0, F0, R0, U0, O0, ds, os⟩ az bz cz ez w2.heap.size w3.heap.size := dnbox_new (w0 := w2) (d := ⟨C0, W0, S0, L0, T0, H0, F0, R0, U0, O0, ds, os⟩) _ hoz hz1 hz2
    clear hoz hz1 hz2
    have hbn : Below w3.heap.size w3 (w3.alloc (.cells #[.int .i64 C0, .int .i64 W0, .int .i64 S0, .int .i64 L0, .int .i64 T0, .int .i64 H0, .int .i64 F0, .int .i64 R0, .int .i64 U0, .int .i64 O0, .slice az ds.length cz, .slice bz os.length ez] 38)) := (Below.refl _ _).alloc (Nat.le_refl _) _
    have n_hA := hA.below hbn
    have n_hE := hE.trans (hbn.mono hE.size)
    clear hA
    clear hE
    have hA := n_hA
    clear n_hA
    have hE := n_hE
    clear n_hE
    clear hbn
    have q0 := hA.cell 0 _ rfl
    have q1 := hA.cell 1 _ rfl
    have q2 := hA.cell 2 _ rfl
    have q3 := hA.cell 3 _ rfl
    have q4 := hA.cell 4 _ rfl
    have q5 := hA.cell 5 _ rfl
    have q6 := hA.cell 6 _ rfl
    have q7 := hA.cell 7 _ rfl
    have q8 := hA.cell 8 _ rfl
    have q9 := hA.cell 9 _ rfl
    have qlt := hA.lt
    have Hh_hA := hid hA
    clear hA
    have Hh_hE := hid hE
    clear hE
    have Hh_hZ := hid hZ
    clear hZ
    go_wp2_with fail
    have hA := Hh_hA.out
    clear Hh_hA
    have hE := Hh_hE.out
    clear Hh_hE
    have hZ := Hh_hZ.out
    clear Hh_hZ
    clear q0 q1 q2 q3 q4 q5 q6 q7 q8 q9 qlt
    refine (HTO.out m1 _ (h.below hE)).mono ?_
    rintro e w4 ⟨gx, rfl, hgx, hr, hb⟩
    have hs4 := hb.size
    simp only [World.size_alloc] at hgx hs4
    have hgxl := hr.lt
    have n_hA := hA.below hb
    have n_hE := hE.trans (hb.mono hE.size)
    have n_hZ := hZ.below hb
    clear hA
    clear hE
    clear hZ
    have hA := n_hA
    clear n_hA
    have hE := n_hE
    clear n_hE
    have hZ := n_hZ
    clear n_hZ
    clear hb
    have hbn : Below w4.heap.size w4 (w4.alloc (.cells #[.int .i64 W, .int .i64 S, .int .i64 L, .int .i64 T, .int .i64 H, .int .i64 F, .int .i64 R, .int .i64 U, .int .i64 O, .slice (some ⟨gx, 0, none⟩) rs.length rs.length] 35)) := (Below.refl _ _).alloc (Nat.le_refl _) _
    have hX : StBox (w4.alloc (.cells #[.int .i64 W, .int .i64 S, .int .i64 L, .int .i64 T, .int .i64 H, .int .i64 F, .int .i64 R, .int .i64 U, .int .i64 O, .slice (some ⟨gx, 0, none⟩) rs.length rs.length] 35)) w4.heap.size gx [.int .i64 W, .int .i64 S, .int .i64 L, .int .i64 T, .int .i64 H, .int .i64 F, .int .i64 R, .int .i64 U, .int .i64 O, .slice (some ⟨gx, 0, none⟩) rs.length rs.length] rs := ⟨Boxd.new w4 #[.int .i64 W, .int .i64 S, .int .i64 L, .int .i64 T, .int .i64 H, .int .i64 F, .int .i64 R, .int .i64 U, .int .i64 O, .slice (some ⟨gx, 0, none⟩) rs.length rs.length] 35, hr.below hbn⟩
    clear hr
    have n_hA := hA.below hbn
    have n_hE := hE.trans (hbn.mono hE.size)
    have n_hZ := hZ.below hbn
    clear hA
    clear hE
    clear hZ
    have hA := n_hA
    clear n_hA
    have hE := n_hE
    clear n_hE
    have hZ := n_hZ
    clear n_hZ
    clear hbn
    have Hh_hA := hid hA
    clear hA
    have Hh_hE := hid hE
    clear hE
    have Hh_hZ := hid hZ
    clear hZ
    have Hh_hX := hid hX
    clear hX
    go_wp2_with fail
    have hA := Hh_hA.out
    clear Hh_hA
    have hE := Hh_hE.out
    clear Hh_hE
    have hZ := Hh_hZ.out
    clear Hh_hZ
    have hX := Hh_hX.out
    clear Hh_hX
    refine (HIM.out _ _ hX.row.prs).mono ?_
    rintro e w5 ⟨ag, cg, bg, eg, rfl, _, hog, hg1, hg2, hb⟩
    have hs5 := hb.size
    simp only [World.size_alloc] at hg1 hg2 hs5
    have n_hA := hA.below hb
    have n_hE := hE.trans (hb.mono hE.size)
    have n_hZ := hZ.below hb
    have n_hX := hX.below hb
    clear hA
    clear hE
    clear hZ
    clear hX
    have hA := n_hA
    clear n_hA
    have hE := n_hE
    clear n_hE
    have hZ := n_hZ
    clear n_hZ
    have hX := n_hX
    clear n_hX
    clear hb
    have hG : DnBox (w5.alloc (.cells #[.int .i64 C0, .int .i64 W0, .int .i64 S0, .int .i64 L0, .int .i64 T0, .int .i64 H0, .int .i64 F0, .int .i64 R0, .int .i64 U0, .int .i64 O0, .slice ag ds.length cg, .slice bg os.length eg] 38)) w5.heap.size ⟨C0, W0, S0, L0, T0, H0, F0, R0, U0, O0, ds, os⟩ ag bg cg eg (w4.heap.size + 1) w5.heap.size := by
      have := dnbox_new (w0 := w4.alloc (.cells #[] 38)) (w := w5) (d := ⟨C0, W0, S0, L0, T0, H0, F0, R0, U0, O0, ds, os⟩) (c := cg) (e := eg) 38 hog (by simpa using hg1) (by simpa using hg2)
      simpa [dcells] using this
    clear hog hg1 hg2
    have hbn : Below w5.heap.size w5 (w5.alloc (.cells #[.int .i64 C0, .int .i64 W0, .int .i64 S0, .int .i64 L0, .int .i64 T0, .int .i64 H0, .int .i64 F0, .int .i64 R0, .int .i64 U0, .int .i64 O0, .slice ag ds.length cg, .slice bg os.length eg] 38)) := (Below.refl _ _).alloc (Nat.le_refl _) _
    have n_hA := hA.below hbn
    have n_hE := hE.trans (hbn.mono hE.size)
    have n_hZ := hZ.below hbn
    have n_hX := hX.below hbn
    clear hA
    clear hE
    clear hZ
    clear hX
    have hA := n_hA
    clear n_hA
    have hE := n_hE
    clear n_hE
    have hZ := n_hZ
    clear n_hZ
    have hX := n_hX
    clear n_hX
    clear hbn
    have q0 := hZ.box.cell 0 _ rfl
    have q1 := hZ.box.cell 1 _ rfl
    have q2 := hZ.box.cell 2 _ rfl
    have q3 := hZ.box.cell 3 _ rfl
    have q4 := hZ.box.cell 4 _ rfl
    have q5 := hZ.box.cell 5 _ rfl
    have q6 := hZ.box.cell 6 _ rfl
    have q7 := hZ.box.cell 7 _ rfl
    have q8 := hZ.box.cell 8 _ rfl
    have q9 := hZ.box.cell 9 _ rfl
    have q10 := hZ.box.cell 10 _ rfl
    have q11 := hZ.box.cell 11 _ rfl
    have qlt := hZ.box.lt
    have Hh_hA := hid hA
    clear hA
    have Hh_hE := hid hE
    clear hE
    have Hh_hZ := hid hZ
    clear hZ
    have Hh_hX := hid hX
    clear hX
    have Hh_hG := hid hG
    clear hG
    go_wp2_with fail
    have hA := Hh_hA.out
    clear Hh_hA
    have hE := Hh_hE.out
    clear Hh_hE
    have hZ := Hh_hZ.out
    clear Hh_hZ
    have hX := Hh_hX.out
    clear Hh_hX
    have hG := Hh_hG.out
    clear Hh_hG
    clear q0 q1 q2 q3 q4 q5 q6 q7 q8 q9 q10 q11 qlt
    refine (HEQ.out _ _ _ _ _ _ _ _ _ hG.own.s.prs hG.own.p.ops hZ.own.s.prs hZ.own.p.ops).mono ?_
    rintro e w6 ⟨rfl, hb⟩
    have n_hA := hA.below hb
    have n_hE := hE.trans (hb.mono hE.size)
    have n_hZ := hZ.below hb
    have n_hX := hX.below hb
    have n_hG := hG.below hb
    clear hA
    clear hE
    clear hZ
    clear hX
    clear hG
    have hA := n_hA
    clear n_hA
    have hE := n_hE
    clear n_hE
    have hZ := n_hZ
    clear n_hZ
    have hX := n_hX
    clear n_hX
    have hG := n_hG
    clear n_hG
    clear hb
    have HK : Hid (∀ w', Boxd w' w.heap.size [.int .i64 W, .int .i64 S, .int .i64 L, .int .i64 T, .int .i64 H, .int .i64 F, .int .i64 R, .int .i64 U, .int .i64 O, .slice a rs.length c] → Boxd w' w4.heap.size [.int .i64 W, .int .i64 S, .int .i64 L, .int .i64 T, .int .i64 H, .int .i64 F, .int .i64 R, .int .i64 U, .int .i64 O, .slice (some ⟨gx, 0, none⟩) rs.length rs.length] → w'.cell? ⟨w.heap.size, 0, none⟩ = some (.int .i64 W) ∧ w'.cell? ⟨w.heap.size, 1, none⟩ = some (.int .i64 S) ∧ w'.cell? ⟨w.heap.size, 2, none⟩ = some (.int .i64 L) ∧ w'.cell? ⟨w.heap.size, 3, none⟩ = some (.int .i64 T) ∧ w'.cell? ⟨w.heap.size, 4, none⟩ = some (.int .i64 H) ∧ w'.cell? ⟨w.heap.size, 5, none⟩ = some (.int .i64 F) ∧ w'.cell? ⟨w.heap.size, 6, none⟩ = some (.int .i64 R) ∧ w'.cell? ⟨w.heap.size, 7, none⟩ = some (.int .i64 U) ∧ w'.cell? ⟨w.heap.size, 8, none⟩ = some (.int .i64 O) ∧ w'.cell? ⟨w.heap.size, 9, none⟩ = some (.slice a rs.length c) ∧ w'.cell? ⟨w4.heap.size, 0, none⟩ = some (.int .i64 W) ∧ w'.cell? ⟨w4.heap.size, 1, none⟩ = some (.int .i64 S) ∧ w'.cell? ⟨w4.heap.size, 2, none⟩ = some (.int .i64 L) ∧ w'.cell? ⟨w4.heap.size, 3, none⟩ = some (.int .i64 T) ∧ w'.cell? ⟨w4.heap.size, 4, none⟩ = some (.int .i64 H) ∧ w'.cell? ⟨w4.heap.size, 5, none⟩ = some (.int .i64 F) ∧ w'.cell? ⟨w4.heap.size, 6, none⟩ = some (.int .i64 R) ∧ w'.cell? ⟨w4.heap.size, 7, none⟩ = some (.int .i64 U) ∧ w'.cell? ⟨w4.heap.size, 8, none⟩ = some (.int .i64 O) ∧ w'.cell? ⟨w4.heap.size, 9, none⟩ = some (.slice (some ⟨gx, 0, none⟩) rs.length rs.length)) := fun w' hx hy => ⟨hx.cell 0 _ rfl, hx.cell 1 _ rfl, hx.cell 2 _ rfl, hx.cell 3 _ rfl, hx.cell 4 _ rfl, hx.cell 5 _ rfl, hx.cell 6 _ rfl, hx.cell 7 _ rfl, hx.cell 8 _ rfl, hx.cell 9 _ rfl, hy.cell 0 _ rfl, hy.cell 1 _ rfl, hy.cell 2 _ rfl, hy.cell 3 _ rfl, hy.cell 4 _ rfl, hy.cell 5 _ rfl, hy.cell 6 _ rfl, hy.cell 7 _ rfl, hy.cell 8 _ rfl, hy.cell 9 _ rfl⟩
    have hbd6 : Below w6.heap.size w6 w6.drew := (Below.refl _ _).drew
    have HA6 := hid (hA.below hbd6)
    have HX6 := hid (hX.below hbd6)
    have HE6 := hid (hE.trans (hbd6.mono hE.size))
    have Hh_hA := hid hA
    clear hA
    have Hh_hE := hid hE
    clear hE
    have Hh_hZ := hid hZ
    clear hZ
    have Hh_hX := hid hX
    clear hX
    have Hh_hG := hid hG
    clear hG
    go_wp2_with fail
    go_region_held3 (fun w' => w'.cell? ⟨w.heap.size, 0, none⟩ = some (.int .i64 W) ∧ w'.cell? ⟨w.heap.size, 1, none⟩ = some (.int .i64 S) ∧ w'.cell? ⟨w.heap.size, 2, none⟩ = some (.int .i64 L) ∧ w'.cell? ⟨w.heap.size, 3, none⟩ = some (.int .i64 T) ∧ w'.cell? ⟨w.heap.size, 4, none⟩ = some (.int .i64 H) ∧ w'.cell? ⟨w.heap.size, 5, none⟩ = some (.int .i64 F) ∧ w'.cell? ⟨w.heap.size, 6, none⟩ = some (.int .i64 R) ∧ w'.cell? ⟨w.heap.size, 7, none⟩ = some (.int .i64 U) ∧ w'.cell? ⟨w.heap.size, 8, none⟩ = some (.int .i64 O) ∧ w'.cell? ⟨w.heap.size, 9, none⟩ = some (.slice a rs.length c) ∧ w'.cell? ⟨w4.heap.size, 0, none⟩ = some (.int .i64 W) ∧ w'.cell? ⟨w4.heap.size, 1, none⟩ = some (.int .i64 S) ∧ w'.cell? ⟨w4.heap.size, 2, none⟩ = some (.int .i64 L) ∧ w'.cell? ⟨w4.heap.size, 3, none⟩ = some (.int .i64 T) ∧ w'.cell? ⟨w4.heap.size, 4, none⟩ = some (.int .i64 H) ∧ w'.cell? ⟨w4.heap.size, 5, none⟩ = some (.int .i64 F) ∧ w'.cell? ⟨w4.heap.size, 6, none⟩ = some (.int .i64 R) ∧ w'.cell? ⟨w4.heap.size, 7, none⟩ = some (.int .i64 U) ∧ w'.cell? ⟨w4.heap.size, 8, none⟩ = some (.int .i64 O) ∧ w'.cell? ⟨w4.heap.size, 9, none⟩ = some (.slice (some ⟨gx, 0, none⟩) rs.length rs.length))
      (first | assumption | exact HK.out _ HA6.out HX6.out.box | exact HK.out _ (HA6.out.below hb7) (HX6.out.box.below hb7) | exact HK.out _ ((HA6.out.below hb7).below hb8) ((HX6.out.box.below hb7).below hb8))
      (first | (go_at_call 7; refine (HTO.out m1 _ (h.below HE6.out)).mono ?_; rintro e w7 ⟨g2, rfl, _, hr7, hb7⟩) | (go_at_call 10; refine (HES.out _ _ _ (HX6.out.below hb7).row.prs hr7.prs).mono ?_; rintro e w8 ⟨rfl, hb8⟩))
    have hA := Hh_hA.out
    clear Hh_hA
    have hE := Hh_hE.out
    clear Hh_hE
    have hZ := Hh_hZ.out
    clear Hh_hZ
    have hX := Hh_hX.out
    clear Hh_hX
    have hG := Hh_hG.out
    clear Hh_hG
    have hb : Below w6.heap.size w6 w8 := hbd6.trans ((hb7.trans (hb8.mono hb7.size)).mono (Nat.le_refl _))
    clear HA6 HX6 HE6 HK hb7 hb8 hr7 hbd6
    have n_hA := hA.below hb
    have n_hE := hE.trans (hb.mono hE.size)
    have n_hZ := hZ.below hb
    have n_hX := hX.below hb
    have n_hG := hG.below hb
    clear hA
    clear hE
    clear hZ
    clear hX
    clear hG
    have hA := n_hA
    clear n_hA
    have hE := n_hE
    clear n_hE
    have hZ := n_hZ
    clear n_hZ
    have hX := n_hX
    clear n_hX
    have hG := n_hG
    clear n_hG
    clear hb HES
    have q0 := hX.box.cell 0 _ rfl
    have q1 := hX.box.cell 1 _ rfl
    have q2 := hX.box.cell 2 _ rfl
    have q3 := hX.box.cell 3 _ rfl
    have q4 := hX.box.cell 4 _ rfl
    have q5 := hX.box.cell 5 _ rfl
    have q6 := hX.box.cell 6 _ rfl
    have q7 := hX.box.cell 7 _ rfl
    have q8 := hX.box.cell 8 _ rfl
    have q9 := hX.box.cell 9 _ rfl
    have qlt := hX.box.lt
    have Hh_hA := hid hA
    clear hA
    have Hh_hE := hid hE
    clear hE
    have Hh_hZ := hid hZ
    clear hZ
    have Hh_hX := hid hX
    clear hX
    have Hh_hG := hid hG
    clear hG
    go_wp2_with fail
    have hA := Hh_hA.out
    clear Hh_hA
    have hE := Hh_hE.out
    clear Hh_hE
    have hZ := Hh_hZ.out
    clear Hh_hZ
    have hX := Hh_hX.out
    clear Hh_hX
    have hG := Hh_hG.out
    clear Hh_hG
    clear q0 q1 q2 q3 q4 q5 q6 q7 q8 q9 qlt
    refine (HMS.out _ _ (.inr ⟨gx, rfl, hX.row⟩)).mono ?_
    rintro e w9 ⟨rfl, hg, _⟩
    have hgr : ∀ g, blk (some ⟨gx, 0, none⟩) rs.length = some g → g = gx := fun g hg => blk_one hg
    have n_hA := hA.grown hg (fun e => by have := hgr _ e.symm; have := hE.size; have := hZ.box.lt; omega)
    have n_hZ := hZ.grown hg (fun g hg' => by have := hgr g hg'; omega)
    have n_hG := hG.grown hg (fun g hg' => by have := hgr g hg'; omega)
    have n_hE := hE.trans (grown_below hg hE.size (fun g hg' => by have := hgr g hg'; omega))
    clear hA hZ hG hE hX hg hgr HMS
    have hA := n_hA
    clear n_hA
    have hE := n_hE
    clear n_hE
    have hZ := n_hZ
    clear n_hZ
    have hG := n_hG
    clear n_hG
    have q0 := hZ.box.cell 0 _ rfl
    have q1 := hZ.box.cell 1 _ rfl
    have q2 := hZ.box.cell 2 _ rfl
    have q3 := hZ.box.cell 3 _ rfl
    have q4 := hZ.box.cell 4 _ rfl
    have q5 := hZ.box.cell 5 _ rfl
    have q6 := hZ.box.cell 6 _ rfl
    have q7 := hZ.box.cell 7 _ rfl
    have q8 := hZ.box.cell 8 _ rfl
    have q9 := hZ.box.cell 9 _ rfl
    have q10 := hZ.box.cell 10 _ rfl
    have q11 := hZ.box.cell 11 _ rfl
    have qlt := hZ.box.lt
    have p0 := hG.box.cell 0 _ rfl
    have p1 := hG.box.cell 1 _ rfl
    have p2 := hG.box.cell 2 _ rfl
    have p3 := hG.box.cell 3 _ rfl
    have p4 := hG.box.cell 4 _ rfl
    have p5 := hG.box.cell 5 _ rfl
    have p6 := hG.box.cell 6 _ rfl
    have p7 := hG.box.cell 7 _ rfl
    have p8 := hG.box.cell 8 _ rfl
    have p9 := hG.box.cell 9 _ rfl
    have p10 := hG.box.cell 10 _ rfl
    have p11 := hG.box.cell 11 _ rfl
    have plt := hG.box.lt
    have Hh_hA := hid hA
    clear hA
    have Hh_hE := hid hE
    clear hE
    have Hh_hZ := hid hZ
    clear hZ
    have Hh_hG := hid hG
    clear hG
    go_wp2_with fail
    have hA := Hh_hA.out
    clear Hh_hA
    have hE := Hh_hE.out
    clear Hh_hE
    have hZ := Hh_hZ.out
    clear Hh_hZ
    have hG := Hh_hG.out
    clear Hh_hG
    clear q0 q1 q2 q3 q4 q5 q6 q7 q8 q9 q10 q11 qlt
    clear p0 p1 p2 p3 p4 p5 p6 p7 p8 p9 p10 p11 plt
    refine (HEQ.out _ _ _ _ _ _ _ _ _ hG.own.s.prs hG.own.p.ops hZ.own.s.prs hZ.own.p.ops).mono ?_
    rintro e w10 ⟨rfl, hb⟩
    have n_hA := hA.below hb
    have n_hE := hE.trans (hb.mono hE.size)
    have n_hZ := hZ.below hb
    have n_hG := hG.below hb
    clear hA
    clear hE
    clear hZ
    clear hG
    have hA := n_hA
    clear n_hA
    have hE := n_hE
    clear n_hE
    have hZ := n_hZ
    clear n_hZ
    have hG := n_hG
    clear n_hG
    clear hb
    have p0 := hG.box.cell 0 _ rfl
    have p1 := hG.box.cell 1 _ rfl
    have p2 := hG.box.cell 2 _ rfl
    have p3 := hG.box.cell 3 _ rfl
    have p4 := hG.box.cell 4 _ rfl
    have p5 := hG.box.cell 5 _ rfl
    have p6 := hG.box.cell 6 _ rfl
    have p7 := hG.box.cell 7 _ rfl
    have p8 := hG.box.cell 8 _ rfl
    have p9 := hG.box.cell 9 _ rfl
    have p10 := hG.box.cell 10 _ rfl
    have p11 := hG.box.cell 11 _ rfl
    have plt := hG.box.lt
    have Hh_hA := hid hA
    clear hA
    have Hh_hE := hid hE
    clear hE
    have Hh_hZ := hid hZ
    clear hZ
    have Hh_hG := hid hG
    clear hG
    go_wp2_with fail
    have hA := Hh_hA.out
    clear Hh_hA
    have hE := Hh_hE.out
    clear Hh_hE
    have hZ := Hh_hZ.out
    clear Hh_hZ
    have hG := Hh_hG.out
    clear Hh_hG
    clear p0 p1 p2 p3 p4 p5 p6 p7 p8 p9 p10 p11 plt
    refine (HMD.out _ _ _ _ _ hG.own).mono ?_
    rintro e w11 ⟨rfl, ⟨wa, wb, ma, mb, mc⟩, hMM⟩
    have hr1 := hG.one
    have hr2 := hG.two
    have hZl := hZ.box.lt
    have n_hA := ((hA.below ma).grown mb (fun e => by have := hr1 _ e.symm; omega)).grown mc (fun e => by have := hr2 _ e.symm; omega)
    have n_hZ := ((hZ.below ma).grown mb (fun g hg' => by have := hr1 g hg'; omega)).grown mc (fun g hg' => by have := hr2 g hg'; omega)
    have n_hG := ((hG.box.below ma).grown mb (fun e => by have := hr1 _ e.symm; omega)).grown mc (fun e => by have := hr2 _ e.symm; omega)
    have hE1 := hE.trans (ma.mono hE.size)
    have hE2 := hE1.trans (grown_below mb hE1.size (fun g hg' => by have := hr1 g hg'; omega))
    have n_hE := hE2.trans (grown_below mc hE2.size (fun g hg' => by have := hr2 g hg'; omega))
    clear hA hZ hG hE hE1 hE2 ma mb mc hr1 hr2 hZl HMD
    have hA := n_hA
    clear n_hA
    have hE := n_hE
    clear n_hE
    have hZ := n_hZ
    clear n_hZ
    have hG := n_hG
    clear n_hG
    have p0 := hG.cell 0 _ rfl
    have p1 := hG.cell 1 _ rfl
    have p2 := hG.cell 2 _ rfl
    have p3 := hG.cell 3 _ rfl
    have p4 := hG.cell 4 _ rfl
    have p5 := hG.cell 5 _ rfl
    have p6 := hG.cell 6 _ rfl
    have p7 := hG.cell 7 _ rfl
    have p8 := hG.cell 8 _ rfl
    have p9 := hG.cell 9 _ rfl
    have p10 := hG.cell 10 _ rfl
    have p11 := hG.cell 11 _ rfl
    have plt := hG.lt
    have Hh_hA := hid hA
    clear hA
    have Hh_hE := hid hE
    clear hE
    have Hh_hZ := hid hZ
    clear hZ
    have Hh_hG := hid hG
    clear hG
    have Hh_hMM := hid hMM
    clear hMM
    go_wp2_with fail
    have hA := Hh_hA.out
    clear Hh_hA
    have hE := Hh_hE.out
    clear Hh_hE
    have hZ := Hh_hZ.out
    clear Hh_hZ
    have hG := Hh_hG.out
    clear Hh_hG
    have hMM := Hh_hMM.out
    clear Hh_hMM
    clear p0 p1 p2 p3 p4 p5 p6 p7 p8 p9 p10 p11 plt
    refine (HHD.out _ _ _ _ _ hMM.s hMM.p).mono ?_
    rintro e w12 ⟨rfl, hb⟩
    have n_hA := hA.below hb
    have n_hE := hE.trans (hb.mono hE.size)
    have n_hZ := hZ.below hb
    have n_hG := hG.below hb
    have n_hMM := hMM.below hb
    clear hA
    clear hE
    clear hZ
    clear hG
    clear hMM
    have hA := n_hA
    clear n_hA
    have hE := n_hE
    clear n_hE
    have hZ := n_hZ
    clear n_hZ
    have hG := n_hG
    clear n_hG
    have hMM := n_hMM
    clear n_hMM
    clear hb
    have q0 := hA.cell 0 _ rfl
    have q1 := hA.cell 1 _ rfl
    have q2 := hA.cell 2 _ rfl
    have q3 := hA.cell 3 _ rfl
    have q4 := hA.cell 4 _ rfl
    have q5 := hA.cell 5 _ rfl
    have q6 := hA.cell 6 _ rfl
    have q7 := hA.cell 7 _ rfl
    have q8 := hA.cell 8 _ rfl
    have q9 := hA.cell 9 _ rfl
    have qlt := hA.lt
    have Hh_hA := hid hA
    clear hA
    have Hh_hE := hid hE
    clear hE
    have Hh_hZ := hid hZ
    clear hZ
    have Hh_hG := hid hG
    clear hG
    have Hh_hMM := hid hMM
    clear hMM
    go_wp2_with fail
    have hA := Hh_hA.out
    clear Hh_hA
    have hE := Hh_hE.out
    clear Hh_hE
    have hZ := Hh_hZ.out
    clear Hh_hZ
    have hG := Hh_hG.out
    clear Hh_hG
    have hMM := Hh_hMM.out
    clear Hh_hMM
    clear q0 q1 q2 q3 q4 q5 q6 q7 q8 q9 qlt
    refine (HTO.out m1 _ (h.below hE)).mono ?_
    rintro e w13 ⟨g5, rfl, _, hr, hb⟩
    have n_hA := hA.below hb
    have n_hE := hE.trans (hb.mono hE.size)
    have n_hZ := hZ.below hb
    have n_hG := hG.below hb
    have n_hMM := hMM.below hb
    clear hA
    clear hE
    clear hZ
    clear hG
    clear hMM
    have hA := n_hA
    clear n_hA
    have hE := n_hE
    clear n_hE
    have hZ := n_hZ
    clear n_hZ
    have hG := n_hG
    clear n_hG
    have hMM := n_hMM
    clear n_hMM
    have HS5 := hid hr.prs
    clear hr hb
    have Hh_hA := hid hA
    clear hA
    have Hh_hE := hid hE
    clear hE
    have Hh_hZ := hid hZ
    clear hZ
    have Hh_hG := hid hG
    clear hG
    have Hh_hMM := hid hMM
    clear hMM
    go_wp2_with fail
    have hA := Hh_hA.out
    clear Hh_hA
    have hE := Hh_hE.out
    clear Hh_hE
    have hZ := Hh_hZ.out
    clear Hh_hZ
    have hG := Hh_hG.out
    clear Hh_hG
    have hMM := Hh_hMM.out
    clear Hh_hMM
    refine (HIM.out _ _ HS5.out).mono ?_
    rintro e w14 ⟨ah, ch, bh, eh, rfl, _, hoh, _, _, hb⟩
    have n_hA := hA.below hb
    have n_hE := hE.trans (hb.mono hE.size)
    have n_hZ := hZ.below hb
    have n_hG := hG.below hb
    have n_hMM := hMM.below hb
    clear hA
    clear hE
    clear hZ
    clear hG
    clear hMM
    have hA := n_hA
    clear n_hA
    have hE := n_hE
    clear n_hE
    have hZ := n_hZ
    clear n_hZ
    have hG := n_hG
    clear n_hG
    have hMM := n_hMM
    clear n_hMM
    clear hb HS5
    have hbn : Below w14.heap.size w14 (w14.alloc (.cells #[.int .i64 C0, .int .i64 W0, .int .i64 S0, .int .i64 L0, .int .i64 T0, .int .i64 H0, .int .i64 F0, .int .i64 R0, .int .i64 U0, .int .i64 O0, .slice ah ds.length ch, .slice bh os.length eh] 38)) := (Below.refl _ _).alloc (Nat.le_refl _) _
    have hoh2 := hoh.below hbn
    clear hoh
    have n_hA := hA.below hbn
    have n_hE := hE.trans (hbn.mono hE.size)
    have n_hZ := hZ.below hbn
    have n_hG := hG.below hbn
    have n_hMM := hMM.below hbn
    clear hA
    clear hE
    clear hZ
    clear hG
    clear hMM
    have hA := n_hA
    clear n_hA
    have hE := n_hE
    clear n_hE
    have hZ := n_hZ
    clear n_hZ
    have hG := n_hG
    clear n_hG
    have hMM := n_hMM
    clear n_hMM
    clear hbn
    have q0 := hZ.box.cell 0 _ rfl
    have q1 := hZ.box.cell 1 _ rfl
    have q2 := hZ.box.cell 2 _ rfl
    have q3 := hZ.box.cell 3 _ rfl
    have q4 := hZ.box.cell 4 _ rfl
    have q5 := hZ.box.cell 5 _ rfl
    have q6 := hZ.box.cell 6 _ rfl
    have q7 := hZ.box.cell 7 _ rfl
    have q8 := hZ.box.cell 8 _ rfl
    have q9 := hZ.box.cell 9 _ rfl
    have q10 := hZ.box.cell 10 _ rfl
    have q11 := hZ.box.cell 11 _ rfl
    have qlt := hZ.box.lt
    have Hh_hA := hid hA
    clear hA
    have Hh_hE := hid hE
    clear hE
    have Hh_hZ := hid hZ
    clear hZ
    have Hh_hG := hid hG
    clear hG
    have Hh_hMM := hid hMM
    clear hMM
    have Hh_hoh2 := hid hoh2
    clear hoh2
    go_wp2_with fail
    have hA := Hh_hA.out
    clear Hh_hA
    have hE := Hh_hE.out
    clear Hh_hE
    have hZ := Hh_hZ.out
    clear Hh_hZ
    have hG := Hh_hG.out
    clear Hh_hG
    have hMM := Hh_hMM.out
    clear Hh_hMM
    have hoh2 := Hh_hoh2.out
    clear Hh_hoh2
    clear q0 q1 q2 q3 q4 q5 q6 q7 q8 q9 q10 q11 qlt
    refine (HEQ.out _ _ _ _ _ _ _ _ _ hoh2.s.prs hoh2.p.ops hZ.own.s.prs hZ.own.p.ops).mono ?_
    rintro e w15 ⟨rfl, hb⟩
    have n_hA := hA.below hb
    have n_hE := hE.trans (hb.mono hE.size)
    have n_hZ := hZ.below hb
    have n_hG := hG.below hb
    have n_hMM := hMM.below hb
    have n_hoh2 := hoh2.below hb
    clear hA
    clear hE
    clear hZ
    clear hG
    clear hMM
    clear hoh2
    have hA := n_hA
    clear n_hA
    have hE := n_hE
    clear n_hE
    have hZ := n_hZ
    clear n_hZ
    have hG := n_hG
    clear n_hG
    have hMM := n_hMM
    clear n_hMM
    have hoh2 := n_hoh2
    clear n_hoh2
    clear hb
    have p0 := hG.cell 0 _ rfl
    have p1 := hG.cell 1 _ rfl
    have p2 := hG.cell 2 _ rfl
    have p3 := hG.cell 3 _ rfl
    have p4 := hG.cell 4 _ rfl
    have p5 := hG.cell 5 _ rfl
    have p6 := hG.cell 6 _ rfl
    have p7 := hG.cell 7 _ rfl
    have p8 := hG.cell 8 _ rfl
    have p9 := hG.cell 9 _ rfl
    have p10 := hG.cell 10 _ rfl
    have p11 := hG.cell 11 _ rfl
    have plt := hG.lt
    have Hh_hA := hid hA
    clear hA
    have Hh_hE := hid hE
    clear hE
    have Hh_hZ := hid hZ
    clear hZ
    have Hh_hG := hid hG
    clear hG
    have Hh_hMM := hid hMM
    clear hMM
    have Hh_hoh2 := hid hoh2
    clear hoh2
    go_wp2_with fail
    have hA := Hh_hA.out
    clear Hh_hA
    have hE := Hh_hE.out
    clear Hh_hE
    have hZ := Hh_hZ.out
    clear Hh_hZ
    have hG := Hh_hG.out
    clear Hh_hG
    have hMM := Hh_hMM.out
    clear Hh_hMM
    have hoh2 := Hh_hoh2.out
    clear Hh_hoh2
    clear p0 p1 p2 p3 p4 p5 p6 p7 p8 p9 p10 p11 plt
    refine (HHD.out _ _ _ _ _ hMM.s hMM.p).mono ?_
    rintro e w16 ⟨rfl, hb⟩
    have n_hA := hA.below hb
    have n_hE := hE.trans (hb.mono hE.size)
    have n_hZ := hZ.below hb
    have n_hG := hG.below hb
    have n_hMM := hMM.below hb
    have n_hoh2 := hoh2.below hb
    clear hA
    clear hE
    clear hZ
    clear hG
    clear hMM
    clear hoh2
    have hA := n_hA
    clear n_hA
    have hE := n_hE
    clear n_hE
    have hZ := n_hZ
    clear n_hZ
    have hG := n_hG
    clear n_hG
    have hMM := n_hMM
    clear n_hMM
    have hoh2 := n_hoh2
    clear n_hoh2
    clear hb
    have Hh_hA := hid hA
    clear hA
    have Hh_hE := hid hE
    clear hE
    have Hh_hZ := hid hZ
    clear hZ
    have Hh_hG := hid hG
    clear hG
    have Hh_hMM := hid hMM
    clear hMM
    have Hh_hoh2 := hid hoh2
    clear hoh2
    go_wp2
    go_ret
    exact ⟨rfl, Hh_hE.out⟩

theorem cellsT : Tryz.prog.cellsOf 28 = 10 := by kernel_rfl
set_option maxRecDepth 100000 in
theorem lifted (os : Os) (started : os.Started) (H : Type) (enc : TypeId × Value → H) :
    ReturnsInHanded {} Tryz.checked os 3 .any (Rows.fnExactCompactSpec.pre6 enc Tryz.prog Tryz.f3 Rows.fnExactCompactRow.domain false) (Rows.fnExactCompactSpec.post enc Tryz.prog Tryz.f3 false true false false) := by
  refine returnsInHanded_of_change (C := Tryz.checked) own started (by kernel_rfl) Tryz.func3
    (ChangeSpec.witness6 (enc := enc) (C := Tryz.checked) false ⟨#[], #[.agg #[.int .i64 0, .int .i64 0, .int .i64 0, .int .i64 0, .int .i64 0, .int .i64 0, .int .i64 0, .int .i64 0, .int .i64 0, .slice none 0 0]], []⟩ 8 (by kernel_rfl) (by kernel_rfl) (by kernel_rfl) (by kernel_rfl)) ?_
  intro W base args ds gs before hval0 hW hcnd _
  have hval : ∀ (j : Nat) t v, Tryz.f3.params[j]? = some t → args[j]? = some v → Value.okWide Tryz.prog W .any base t v := hval0
  have hW' := hW
  obtain ⟨p, q, hA0, hV, rfl, hfz, hnd⟩ := hW
  have hA : DataW.TrodAll enc Tryz.prog W 0 (fun _ => true) true Tryz.f3.params.toList args.toList ds p := hA0
  rw [Tryz.params3] at hA hval
  obtain ⟨v0, vs0, d0, ds0, p0, q0, hargs, rfl, rfl, h0, r0⟩ := trodAll_cons hA
  obtain ⟨rfl, rfl, rfl⟩ := trodAll_nil r0
  obtain rfl : args = #[v0] := by cases args; simp_all
  obtain ⟨rfl, rfl⟩ := trodVars_none hV
  have k0 := h0
  have lt0 : ∀ x ∈ p0, x.block < W.heap.size := by obtain ⟨m, hm⟩ := k0; exact DataW.trod_lt m _ _ _ hm
  obtain ⟨cs, rfl, hsz⟩ := okWide_struct Tryz.underlying28 (hval 0 28 v0 rfl rfl)
  obtain ⟨fuel, hf⟩ := h0
  obtain ⟨W0, S0, L0, T0, H0, F0, R0, U0, O0, a, rs, c, hcs, hS, hl, hs⟩ := store_of_trod hf
  obtain rfl : cs = #[.int .i64 W0, .int .i64 S0, .int .i64 L0, .int .i64 T0, .int .i64 H0, .int .i64 F0, .int .i64 R0, .int .i64 U0, .int .i64 O0, .slice a rs.length c] := by
    apply Array.toList_inj.1
    simpa [Value.cells] using hcs
  clear hA0 hval0
  refine (walk W0 S0 L0 T0 H0 F0 R0 U0 O0 a rs c W hS hl hs).mono fun e W' ⟨he, bel⟩ => ?_
  subst he
  exact ⟨_, rfl, _, _, _, [], _, [], hW', trodAll_mk1 (shut_bool Tryz.underlying4 _), (trodAll_cons_mk (Below.trod laidOut (by kernel_rfl) (of_decide_eq_true (by kernel_rfl)) k0 bel lt0) trodAll_mk0), rfl, bel.frame _, fun h => by cases h⟩

theorem over : Rows.fnExactCompactRow.holds Tryz.pinned (OpenSpec.ofChange Rows.fnExactCompactSpec) :=
  OpenClaim.holds_of_wide 3 Tryz.f3 rfl rfl rfl rfl rfl rfl rfl ⟨rfl, rfl, rfl, rfl, rfl⟩ rfl rfl rfl rfl rfl (by kernel_rfl) Tryz.func3 (by kernel_rfl)
    (of_decide_eq_true (by kernel_rfl)) (by unfold Func.isWrapper; first | (rw [if_pos (by decide +kernel)]; kernel_rfl) | (rw [if_neg (by decide +kernel)]; exact ⟨rfl, rfl⟩))
    (fun os started H enc _ => lifted os started H enc)

theorem proved : Rows.FnExactCompactSaid := over
#print axioms proved
end Go.Proofs.YtnmaknnnmjfhkafGreat.fnExactCompact
