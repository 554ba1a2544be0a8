import Derived.Test.YtnmaknnnmjfhkadPLS
import Derived.Test.YtnmaknnnmjfhkadInt
namespace Go.Proofs.Ytnmaknnnmjfhkad
open Go.RowKit
set_option maxRecDepth 4000
set_option linter.unusedVariables false

set_option maxHeartbeats 1000000 in
theorem pl_i_no (a : Option Addr) (ss : List ByteArray) (c : Nat) (a' : Option Addr) (ws : List (Int × ByteArray)) (c' : Nat) (v : Value) (w : World) (h : Strs w a ss) (h' : Wrs w a' ws) (hl : ss.length ≤ 1048576) (hl' : ws.length ≤ 1048576) (hs : ∀ s ∈ ss, s.size ≤ 1048576) (hs' : ∀ x ∈ ws, x.2.size ≤ 1048576) (hok : diskOk ss ws = false) :
    Calls Try.prog 27 #[diskV a ss.length c a' ws.length c', v] w fun e w' => e = .returned (diskV none 0 0 none 0 0) ∧ Below w.heap.size w w' := by
  have hb0 : ∀ o1 o2, Below w.heap.size w ((w.alloc o1).alloc o2) := fun o1 o2 => ((Below.refl _ _).alloc (Nat.le_refl _) _).alloc (by simp) _
  go_enter Try.func27, Try.ntmps27
  go_wp2_with fail
  refine (valid_i a ss c a' ws c' _ (h.below (hb0 _ _)) (h'.below (hb0 _ _)) hl hl' hs hs').mono ?_
  rw [hok]
  rintro e w1 ⟨rfl, hb1⟩
  have HB1 := hid ((hb0 _ _).trans (hb1.mono (by simp; omega)))
  have rR := (row_new' (w.alloc (.cells #[.slice a ss.length c, .slice a' ws.length c'] 57)) #[.slice none 0 0, .slice none 0 0] 57 (w.heap.size + 1) (by simp)).below hb1
  have r0 := rR.cell 0 _ rfl
  have r1 := rR.cell 1 _ rfl
  have fr0 := rR.froz 0 (by simp)
  have fr1 := rR.froz 1 (by simp)
  clear rR hb1
  go_wp2
  exact bodyPost_ret (v := diskV none 0 0 none 0 0) (by simp [results, Try.results27, go_sem, r0, r1]) rfl ⟨rfl, (HB1.out.setCell (by show w.heap.size ≤ w.heap.size + 1; omega) _).setCell (by show w.heap.size ≤ w.heap.size + 1; omega) _⟩

set_option maxHeartbeats 1000000 in
theorem pl_s_no (a : Option Addr) (ss : List ByteArray) (c : Nat) (a' : Option Addr) (ws : List (Int × ByteArray)) (c' : Nat) (v : Value) (w : World) (h : Strs w a ss) (h' : Wrs w a' ws) (hl : ss.length ≤ 1048576) (hl' : ws.length ≤ 1048576) (hs : ∀ s ∈ ss, s.size ≤ 1048576) (hs' : ∀ x ∈ ws, x.2.size ≤ 1048576) (hok : diskOk ss ws = false) :
    Calls Try.prog 24 #[diskV a ss.length c a' ws.length c', v] w fun e w' => e = .returned (diskV none 0 0 none 0 0) ∧ Below w.heap.size w w' := by
  have hb0 : ∀ o1 o2, Below w.heap.size w ((w.alloc o1).alloc o2) := fun o1 o2 => ((Below.refl _ _).alloc (Nat.le_refl _) _).alloc (by simp) _
  go_enter Try.func24, Try.ntmps24
  go_wp2_with fail
  refine (valid_s a ss c a' ws c' _ (h.below (hb0 _ _)) (h'.below (hb0 _ _)) hl hl' hs hs').mono ?_
  rw [hok]
  rintro e w1 ⟨rfl, hb1⟩
  have HB1 := hid ((hb0 _ _).trans (hb1.mono (by simp; omega)))
  have rR := (row_new' (w.alloc (.cells #[.slice a ss.length c, .slice a' ws.length c'] 57)) #[.slice none 0 0, .slice none 0 0] 57 (w.heap.size + 1) (by simp)).below hb1
  have r0 := rR.cell 0 _ rfl
  have r1 := rR.cell 1 _ rfl
  have fr0 := rR.froz 0 (by simp)
  have fr1 := rR.froz 1 (by simp)
  clear rR hb1
  go_wp2
  exact bodyPost_ret (v := diskV none 0 0 none 0 0) (by simp [results, Try.results24, go_sem, r0, r1]) rfl ⟨rfl, (HB1.out.setCell (by show w.heap.size ≤ w.heap.size + 1; omega) _).setCell (by show w.heap.size ≤ w.heap.size + 1; omega) _⟩

/-- The sectors after a loss of power; none where the disk is no disk. -/
def plSS (zs : List Int) (ss : List ByteArray) (ws : List (Int × ByteArray)) : List ByteArray := if diskOk ss ws = true then secs (lays zs 0 (hsOf ws) (ss.map nums)) else []
theorem plSS_len (zs : List Int) (ss : List ByteArray) (ws : List (Int × ByteArray)) : (plSS zs ss ws).length ≤ 200 := by
  unfold plSS
  split
  · rename_i h
    have := (diskOk_of h).1
    simp [secs, lays_length]; omega
  · simp
theorem pl_i_any (a : Option Addr) (ss : List ByteArray) (c : Nat) (a' : Option Addr) (ws : List (Int × ByteArray)) (c' : Nat) (f : Option Addr) (zs : List Int) (cf : Nat) (w : World) (h : Strs w a ss) (h' : Wrs w a' ws) (hz : Ints w f zs) (hlz : zs.length ≤ 1048576) (hl : ss.length ≤ 1048576) (hl' : ws.length ≤ 1048576) (hs : ∀ s ∈ ss, s.size ≤ 1048576) (hs' : ∀ x ∈ ws, x.2.size ≤ 1048576) :
    Calls Try.prog 27 #[diskV a ss.length c a' ws.length c', .slice f zs.length cf] w fun e w' => ∃ a1 c1 a1' c1', e = .returned (diskV a1 (plSS zs ss ws).length c1 a1' 0 c1') ∧ OwnS w' a1 ((plSS zs ss ws).map Value.string) ∧ (∀ g, blk a1 (plSS zs ss ws).length = some g → w.heap.size ≤ g) ∧ Below w.heap.size w w' := by
  by_cases hok : diskOk ss ws = true
  · have e1 : plSS zs ss ws = secs (lays zs 0 (hsOf ws) (ss.map nums)) := by simp [plSS, hok]
    have e2 : (plSS zs ss ws).length = ss.length := by rw [e1]; simp [secs, lays_length]
    refine (pl_i a ss c a' ws c' f zs cf w h h' hz hlz hok).mono ?_
    rintro e w' ⟨a1, c1, a1', c1', rfl, ho, hg, hb⟩
    rw [e2]
    exact ⟨a1, c1, a1', c1', rfl, by rw [e1]; exact ho.s, hg, hb⟩
  · have e1 : plSS zs ss ws = [] := by simp [plSS, hok]
    rw [e1]
    refine (pl_i_no a ss c a' ws c' _ w h h' hl hl' hs hs' (by simpa using hok)).mono ?_
    rintro e w' ⟨rfl, hb⟩
    exact ⟨none, 0, none, 0, rfl, .inl rfl, (fun g hg => by cases hg), hb⟩
theorem pl_s_any (a : Option Addr) (ss : List ByteArray) (c : Nat) (a' : Option Addr) (ws : List (Int × ByteArray)) (c' : Nat) (f : Option Addr) (zs : List Int) (cf : Nat) (w : World) (h : Strs w a ss) (h' : Wrs w a' ws) (hz : Ints w f zs) (hlz : zs.length ≤ 1048576) (hl : ss.length ≤ 1048576) (hl' : ws.length ≤ 1048576) (hs : ∀ s ∈ ss, s.size ≤ 1048576) (hs' : ∀ x ∈ ws, x.2.size ≤ 1048576) :
    Calls Try.prog 24 #[diskV a ss.length c a' ws.length c', .slice f zs.length cf] w fun e w' => ∃ a1 c1 a1' c1', e = .returned (diskV a1 (plSS zs ss ws).length c1 a1' 0 c1') ∧ OwnS w' a1 ((plSS zs ss ws).map Value.string) ∧ (∀ g, blk a1 (plSS zs ss ws).length = some g → w.heap.size ≤ g) ∧ Below w.heap.size w w' := by
  by_cases hok : diskOk ss ws = true
  · have e1 : plSS zs ss ws = secs (lays zs 0 (hsOf ws) (ss.map nums)) := by simp [plSS, hok]
    have e2 : (plSS zs ss ws).length = ss.length := by rw [e1]; simp [secs, lays_length]
    refine (pl_s a ss c a' ws c' f zs cf w h h' hz hlz hok).mono ?_
    rintro e w' ⟨a1, c1, a1', c1', rfl, ho, hg, hb⟩
    rw [e2]
    exact ⟨a1, c1, a1', c1', rfl, by rw [e1]; exact ho.s, hg, hb⟩
  · have e1 : plSS zs ss ws = [] := by simp [plSS, hok]
    rw [e1]
    refine (pl_s_no a ss c a' ws c' _ w h h' hl hl' hs hs' (by simpa using hok)).mono ?_
    rintro e w' ⟨rfl, hb⟩
    exact ⟨none, 0, none, 0, rfl, .inl rfl, (fun g hg => by cases hg), hb⟩
end Go.Proofs.Ytnmaknnnmjfhkad
