import Derived.Test.YtnmaknnnmjfhkaeDoorQxScanCpy
import Derived.Test.YtnmaknnnmjfhkaeDoorQxScanValid
import Derived.Test.YtnmaknnnmjfhkaeDoorMgXScan1

set_option maxHeartbeats 16000000
set_option maxRecDepth 8000
namespace Go.Proofs.YtnmaknnnmjfhkaeDoor
open Go.RowKit
set_option linter.unusedVariables false
set_option linter.unusedSimpArgs false

/-- The writes that are pending get into their sectors, in order. -/
def syncs : List (Int × ByteArray) → List ByteArray → List ByteArray
  | [], ss => ss
  | x :: r, ss => syncs r (ss.set x.1.toNat x.2)
theorem syncs_length : ∀ (ws : List (Int × ByteArray)) (ss : List ByteArray), (syncs ws ss).length = ss.length
  | [], _ => rfl
  | x :: r, ss => by rw [syncs, syncs_length r]; simp

/-- While the pending writes are made safe: the answer's block, the disk's variable, its sectors, what is pending. -/
structure SYs (W w : World) (R X g g' n n' c1 c1' : Nat) (ws : List (Int × ByteArray)) (ts : List ByteArray) : Prop where
  gr : W.grownBy w (some g)
  rr : Row w R [.slice none 0 0, .slice none 0 0]
  rx : Row w X [.slice (some ⟨g, 0, none⟩) n c1, .slice (some ⟨g', 0, none⟩) n' c1']
  rs : Row w g (ts.map Value.string)
  own : OwnS w (some ⟨g', 0, none⟩) (wcells ws)
section
variable {W w w' : World} {R X g g' n n' c1 c1' : Nat} {ws : List (Int × ByteArray)} {ts : List ByteArray}
theorem SYs.below (h : SYs W w R X g g' n n' c1 c1' ws ts) (hb : Below w.heap.size w w') : SYs W w' R X g g' n n' c1 c1' ws ts :=
  ⟨grown_trans h.gr (grown_of_below _ hb), h.rr.below hb, h.rx.below hb, h.rs.below hb, h.own.below hb⟩
theorem SYs.drew (h : SYs W w R X g g' n n' c1 c1' ws ts) : SYs W w.drew R X g g' n n' c1 c1' ws ts := h.below ((Below.refl _ _).drew)
theorem SYs.set (h : SYs W w R X g g' n n' c1 c1' ws ts) (m : Nat) (hm : m < ts.length) (s : ByteArray) (h2 : R ≠ g) (h3 : X ≠ g) (h4 : wcells ws ≠ [] → g' ≠ g) : SYs W (w.setCell ⟨g, m, none⟩ (.string s)) R X g g' n n' c1 c1' ws (ts.set m s) := by
  refine ⟨grown_set h.gr _ _, h.rr.other _ (fun e => h2 e.symm) _, h.rx.other _ (fun e => h3 e.symm) _, ?_, ?_⟩
  · rw [List.map_set]; exact h.rs.set m (by simpa using hm) _
  · rcases h.own with ho | ⟨b, e, hr⟩
    · exact .inl ho
    · injection e with e; injection e with e
      by_cases hc : wcells ws = []
      · exact .inl hc
      · exact .inr ⟨g', rfl, (e ▸ hr).other _ (fun e2 => h4 hc e2.symm) _⟩
end

theorem grown_setnew {a b : World} {r : Option Nat} (h : a.grownBy b r) (p : Addr) (hp : a.heap.size ≤ p.block) (v : Value) : a.grownBy (b.setCell p v) r :=
  ⟨h.os, h.tape, h.output, by rw [World.size_setCell]; exact h.size, fun i hi hr => (Below.heap_setCell _ _ _ _ (fun e => by omega)).trans (h.block i hi hr)⟩

set_option maxRecDepth 100000 in
set_option maxHeartbeats 16000000 in
theorem sync_s (g g' : Nat) (ss : List ByteArray) (c : Nat) (ws : List (Int × ByteArray)) (c' : Nat) (w : World) (hrs : Row w g (ss.map Value.string)) (hp : OwnS w (some ⟨g', 0, none⟩) (wcells ws)) (hne : wcells ws ≠ [] → g' ≠ g) (hl : ss.length ≤ 200) (hl' : ws.length ≤ 300) (hok : ∀ x ∈ ws, 0 ≤ x.1 ∧ x.1 < (ss.length : Int)) :
    Calls Tryd.prog 55 #[diskV (some ⟨g, 0, none⟩) ss.length c (some ⟨g', 0, none⟩) ws.length c'] w fun e w' => ∃ x, e = .returned (diskV (some ⟨g, 0, none⟩) ss.length c (some ⟨x, 0, none⟩) 0 0) ∧ w.heap.size ≤ x ∧ x < w'.heap.size ∧ Row w' g ((syncs ws ss).map Value.string) ∧ w.grownBy w' (some g) := by
  obtain ⟨RES, HRES⟩ : ∃ RES, Hid (RES = syncs ws ss) := ⟨_, hid rfl⟩
  rw [← HRES.out]
  have hgl := hrs.lt
  go_enter Tryd.func55, Tryd.ntmps55
  go_wp2
  have hst : SYs w ((w.alloc (.cells #[.slice (some ⟨g, 0, none⟩) ss.length c, .slice (some ⟨g', 0, none⟩) ws.length c'] 31)).alloc (.cells #[.slice none 0 0, .slice none 0 0] 31)) (w.heap.size + 1) w.heap.size g g' ss.length ws.length c c' ws ss :=
    ⟨grown_of_below _ (((Below.refl _ _).alloc (Nat.le_refl _) _).alloc (by simp) _), row_new' _ _ _ _ (by simp), (row_new _ _ _).alloc _, (hrs.alloc _).alloc _, (hp.below (below_new _ _)).below (below_new _ _)⟩
  have HST := hid hst
  have HOK := hid hok
  have HNE := hid hne
  clear hst hrs hp hok hne
  go_loopw [3] (fun i wr => ∃ (k : Nat) (ts : List ByteArray), k ≤ ws.length ∧ i = .int .i64 k ∧ ts.length = ss.length ∧ Hid (syncs (ws.drop k) ts = RES) ∧ SYs w wr (w.heap.size + 1) w.heap.size g g' ss.length ws.length c c' ws ts) (fun i _ => ws.length - (intOf i).toNat)
  case atStart => exact ⟨0, ss, Nat.zero_le _, rfl, rfl, by show _ = _; rw [List.drop_zero, HRES.out], HST.out⟩
  case round =>
    clear HST
    obtain ⟨k, ts, hk, rfl, htl, HK, hst⟩ := hrel
    by_cases hlt : k < ws.length
    · obtain ⟨b, o, m0, d, he, hc0, hc1, HX⟩ := hst.own.wrs.at hlt
      obtain ⟨rfl, rfl⟩ : g' = b ∧ o = 0 := by cases he; exact ⟨rfl, rfl⟩
      rw [Nat.zero_add] at hc0 hc1
      clear he
      have hyw := HOK.out (m0, d) (by rw [HX.out]; simp [List.getD, hlt])
      obtain ⟨m, rfl, hm⟩ : ∃ m : Nat, m0 = (m : Int) ∧ m < ss.length := ⟨m0.toNat, by have := hyw.1; simp at *; omega, by have := hyw.1; have := hyw.2; simp at *; omega⟩
      have hwne : wcells ws ≠ [] := fun e => by have := congrArg List.length e; rw [wcells_length, List.length_nil] at this; omega
      have hgg := HNE.out hwne
      have hcg := cval_some (cval_is (hst.rs.cell m (.string (ts.getD m ByteArray.empty)) (by simp [List.getD, htl, hm])))
      have hfo := hst.rs.froz m (by simp [htl, hm])
      have hlX := hst.rx.lt
      have x0 := hst.rx.cell 0 _ rfl
      have x1 := hst.rx.cell 1 _ rfl
      have HS0 := hid (And.intro x0 (And.intro x1 (And.intro hc0 (And.intro hc1 (And.intro hcg hfo)))))
      have HSR := hid hst
      have hk0 : (0 : Int) ≤ (k : Int) := by omega
      have hk1 : (k : Int) < (ws.length : Int) := by omega
      have hm0 : (0 : Int) ≤ (m : Int) := by omega
      have hm1 : (m : Int) < (ss.length : Int) := by omega
      clear hst hyw hcg hfo hc0 hc1 hwne
      go_wp2_with fail
      clear x0 x1
      go_region_held3 (fun w' => w'.cell? ⟨w.heap.size, 0, none⟩ = some (.slice (some ⟨g, 0, none⟩) ss.length c) ∧ w'.cell? ⟨w.heap.size, 1, none⟩ = some (.slice (some ⟨g', 0, none⟩) ws.length c') ∧ w'.cell? ⟨g', k * 2, none⟩ = some (.int .i64 (m : Int)) ∧ w'.cell? ⟨g', k * 2 + 1, none⟩ = some (.string d) ∧ w'.cell? ⟨g, m, none⟩ = some (cval w' ⟨g, m, none⟩) ∧ w'.frozen? ⟨g, m, none⟩ = false)
        (first | assumption | exact HS0.out | exact ⟨(World.cell?_setCell_far _ _ _ _ (by show g ≠ w.heap.size; omega)).trans HS0.out.1, (World.cell?_setCell_far _ _ _ _ (by show g ≠ w.heap.size; omega)).trans HS0.out.2.1, (World.cell?_setCell_far _ _ _ _ (by show g ≠ g'; omega)).trans HS0.out.2.2.1, (World.cell?_setCell_far _ _ _ _ (by show g ≠ g'; omega)).trans HS0.out.2.2.2.1, cval_some (cval_is (World.cell?_setCell_same' wr _ (.string d) (cval_is HS0.out.2.2.2.2.1))), (World.frozen?_setCell wr _ _ _).trans HS0.out.2.2.2.2.2⟩)
        (fail)
      have HST' := hid (HSR.out.drew.set m (by omega) d (by omega) (by omega) HNE.out)
      have HK' : Hid (syncs (ws.drop (k + 1)) (ts.set m d) = RES) := by
        show _ = _
        rw [← HK.out, drop_at ws k (0, ByteArray.empty) hlt, ← HX.out, syncs, Int.toNat_natCast]
      rename_i hHeld
      clear hHeld HS0
      go_wp2
      go_roundw
      case rel => exact ⟨k + 1, _, by omega, by go_num, by simp [htl], HK', HST'.out⟩
      case measure => simp [intOf]; omega
    · have hres : Hid (ts = RES) := by
        have := HK.out
        rw [List.drop_of_length_le (by omega)] at this
        exact this
      rw [hres.out] at hst
      have HSR := hid hst
      have q0 := hst.rx.cell 0 _ rfl
      have q1 := hst.rx.cell 1 _ rfl
      have f1 := hst.rx.froz 1 (by simp)
      have r0 := hst.rr.cell 0 _ rfl
      have r1 := hst.rr.cell 1 _ rfl
      have fr0 := hst.rr.froz 0 (by simp)
      have fr1 := hst.rr.froz 1 (by simp)
      have hlX := hst.rx.lt
      have hlR := hst.rr.lt
      have n1 : w.heap.size ≠ w.heap.size + 1 := by omega
      clear hst
      go_wp2
      have ne0 : wr.heap.size ≠ w.heap.size + 1 := by omega
      refine bodyPost_ret (v := diskV (some ⟨g, 0, none⟩) ss.length c (some ⟨wr.heap.size, 0, none⟩) 0 0) (by simp [results, Tryd.results55, go_sem, r0, r1, n1, ne0, hlR]) rfl ⟨_, rfl, by omega, by simp, ?_, ?_⟩
      · exact (((HSR.out.rs.other _ (by show w.heap.size ≠ g; omega) _).other _ (by show w.heap.size + 1 ≠ g; omega) _).other _ (by show w.heap.size + 1 ≠ g; omega) _).alloc _
      · exact grown_trans (grown_setnew (grown_setnew (grown_setnew HSR.out.gr ⟨w.heap.size, 1, none⟩ (by show w.heap.size ≤ w.heap.size; omega) _) ⟨w.heap.size + 1, 0, none⟩ (by show w.heap.size ≤ w.heap.size + 1; omega) _) ⟨w.heap.size + 1, 1, none⟩ (by show w.heap.size ≤ w.heap.size + 1; omega) _) (grown_of_below _ (below_new _ _))
end Go.Proofs.YtnmaknnnmjfhkaeDoor

namespace Go.Proofs.YtnmaknnnmjfhkaeDoor
/-- A goal in a box. -/
structure Wr (p : Prop) : Prop where
  out : p
end Go.Proofs.YtnmaknnnmjfhkaeDoor
