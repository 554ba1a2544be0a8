import Derived.Test.YtnmaknnnmjfhkadPrB
import Derived.Test.YtnmaknnnmjfhkadPrE
namespace Go.Proofs.Ytnmaknnnmjfhkad
open Go.RowKit
set_option maxRecDepth 4000
set_option linter.unusedVariables false

@[reducible] def stV (a : Option Addr) (n c : Nat) : Value := .agg #[.slice a n c]
theorem bcell1 {W w1 : World} (hb : Below W.heap.size W w1) : (∀ b o, b < W.heap.size → w1.cell? ⟨b, o, none⟩ = W.cell? ⟨b, o, none⟩) ∧ (∀ b o, b < W.heap.size → w1.frozen? ⟨b, o, none⟩ = W.frozen? ⟨b, o, none⟩) :=
  ⟨fun b o h => hb.cell (p := ⟨b, o, none⟩) h, fun b o h => hb.frozen (p := ⟨b, o, none⟩) h⟩
set_option maxHeartbeats 400000 in
theorem sz_state (a : Option Addr) (rs : List (ByteArray × ByteArray)) (c : Nat) (w : World) (h : Prs w a rs) (left : Int) (h0 : 0 ≤ left) (h1 : left ≤ 1048576) (hl : rs.length ≤ maxLen) (hs : ∀ s ∈ rs, s.1.size ≤ maxLen ∧ s.2.size ≤ maxLen) :
    Calls Try.prog 19 #[stV a rs.length c, .int .i64 left] w fun e w' => e = .returned (.int .i64 (szL (rs.length :: rs.flatMap prsz) left)) ∧ Below w.heap.size w w' := by
  have hb0 : ∀ o, Below w.heap.size w (w.alloc o) := fun o => (Below.refl _ _).alloc (Nat.le_refl _) _
  have hbd := szL_bd (rs.length :: rs.flatMap prsz) left (by omega)
  obtain ⟨x, HX⟩ : ∃ x, Hid (x = szL (rs.length :: rs.flatMap prsz) left) := ⟨_, hid rfl⟩
  rw [← HX.out] at hbd ⊢
  by_cases hx : x < 0
  · have hx1 : x = -1 := by omega
    have HX1 := hid hx1
    clear hbd hx1
    go_enter Try.func19, Try.ntmps19
    go_wp2_with fail
    refine (sz_prs a rs c left _ (h.below (hb0 _)) (by omega) (by omega) hl hs).mono ?_
    rw [← HX.out]
    rintro e w1 ⟨rfl, hb1⟩
    go_wp2
    go_ret
    exact ⟨ret_int HX1.out.symm, (hb0 _).trans (hb1.mono (by simp))⟩
  · clear hbd
    go_enter Try.func19, Try.ntmps19
    go_wp2_with fail
    refine (sz_prs a rs c left _ (h.below (hb0 _)) (by omega) (by omega) hl hs).mono ?_
    rw [← HX.out]
    rintro e w1 ⟨rfl, hb1⟩
    go_wp2
    go_ret
    exact ⟨rfl, (hb0 _).trans (hb1.mono (by simp))⟩

set_option maxHeartbeats 800000 in
theorem to_state (a : Option Addr) (rs : List (ByteArray × ByteArray)) (c : Nat) (w : World) (h : Prs w a rs) (hl : rs.length ≤ 1048576) :
    Calls Try.prog 21 #[stV a rs.length c] w fun e w' => ∃ g, e = .returned (stV (some ⟨g, 0, none⟩) rs.length rs.length) ∧ w.heap.size ≤ g ∧ Row w' g (prcells rs) ∧ Below w.heap.size w w' := by
  have hb0 : ∀ o1 o2 o3, Below w.heap.size w (((w.alloc o1).alloc o2).alloc o3) := fun o1 o2 o3 => (((Below.refl _ _).alloc (Nat.le_refl _) _).alloc (by simp) _).alloc (by simp; omega) _
  go_enter Try.func21, Try.ntmps21
  go_wp2_with fail
  refine (to_prs a rs c _ (h.below (hb0 _ _ _)) hl).mono ?_
  rintro e w1 ⟨g, rfl, hg, hr1, hb1⟩
  have hB1 := (hb0 _ _ _).trans (hb1.mono (by simp; omega))
  have hs1 := hb1.size
  simp only [World.size_alloc] at hg hs1
  have c20 : w1.cell? ⟨w.heap.size + 1 + 1, 0, none⟩ = some (.slice none 0 0) := (hb1.cell (p := ⟨w.heap.size + 1 + 1, 0, none⟩) (by simp)).trans (by go_simp)
  have f20 : w1.frozen? ⟨w.heap.size + 1 + 1, 0, none⟩ = false := (hb1.frozen (p := ⟨w.heap.size + 1 + 1, 0, none⟩) (by simp)).trans (by go_simp)
  have c10 : w1.cell? ⟨w.heap.size + 1, 0, none⟩ = some (.slice none 0 0) := (hb1.cell (p := ⟨w.heap.size + 1, 0, none⟩) (by simp <;> omega)).trans (by go_simp)
  have f10 : w1.frozen? ⟨w.heap.size + 1, 0, none⟩ = false := (hb1.frozen (p := ⟨w.heap.size + 1, 0, none⟩) (by simp <;> omega)).trans (by go_simp)
  have HR1 := hid hr1
  have HBB := hid hB1
  clear hb1 hr1 hB1
  go_wp2
  refine bodyPost_ret (v := stV (some ⟨g, 0, none⟩) rs.length rs.length) (by simp [results, Try.results21, go_sem, c10]) rfl ⟨g, rfl, by omega, ?_, ?_⟩
  · exact (HR1.out.other _ (by show w.heap.size + 1 + 1 ≠ g; omega) _).other _ (by show w.heap.size + 1 ≠ g; omega) _
  · exact (HBB.out.setCell (by show w.heap.size ≤ w.heap.size + 1 + 1; omega) _).setCell (by show w.heap.size ≤ w.heap.size + 1; omega) _

set_option maxHeartbeats 400000 in
theorem eq_state (a b : Option Addr) (rs : List (ByteArray × ByteArray)) (c d : Nat) (w : World) (h1 : Prs w a rs) (h2 : Prs w b rs) (hl : rs.length ≤ 1048576) :
    Calls Try.prog 22 #[stV a rs.length c, stV b rs.length d] w fun e w' => e = .returned (.bool true) ∧ Below w.heap.size w w' := by
  have hb0 : ∀ o1 o2, Below w.heap.size w ((w.alloc o1).alloc o2) := fun o1 o2 => ((Below.refl _ _).alloc (Nat.le_refl _) _).alloc (by simp) _
  go_enter Try.func22, Try.ntmps22
  go_wp2_with fail
  refine (eq_prs a b rs c d _ (h1.below (hb0 _ _)) (h2.below (hb0 _ _)) hl).mono ?_
  rintro e w1 ⟨rfl, hb1⟩
  have hB1 := (hb0 _ _).trans (hb1.mono (by simp; omega))
  clear hb1
  go_wp2
  go_ret
  exact ⟨rfl, hB1⟩
end Go.Proofs.Ytnmaknnnmjfhkad
