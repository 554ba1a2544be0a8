import Derived.Test.YtnmaknnnmjfhkafGreatDoorMgXForged22
import Derived.Test.YtnmaknnnmjfhkafGreatDoorMgXForged18
import Derived.Test.YtnmaknnnmjfhkafGreatDoorQxForgedFbS
import Derived.Test.YtnmaknnnmjfhkafGreatDoorQxForgedFbJ
import Derived.Test.YtnmaknnnmjfhkafGreatDoorProg
import Derived.Test.YtnmaknnnmjfhkafGreatDoorMgXForged0

set_option maxHeartbeats 16000000
set_option maxRecDepth 8000
namespace Go.Proofs.YtnmaknnnmjfhkafGreatDoor
open Go.RowKit
set_option maxRecDepth 4000
set_option linter.unusedVariables false

theorem pages_s (s : ByteArray) (n : Int) (w : World) (hs : s.size ≤ 1048576) :
    Calls Tryz.prog 133 #[.string s, .int .i64 n] w fun e w' => e = .returned (.int .i64 (npages s.size n)) ∧ Below w.heap.size w w' := by
  unfold npages
  by_cases hn : 1 ≤ n ∧ n ≤ 8
  · rw [if_pos hn]
    obtain ⟨m, rfl⟩ : ∃ m : Nat, n = (m : Int) := ⟨n.toNat, by omega⟩
    obtain ⟨q, hq⟩ : ∃ q : Nat, m + q = 56 := ⟨56 - m, by omega⟩
    rw [show (56 - (m : Int)).toNat = q by omega]
    have hd : decide (1 ≤ (m : Int) ∧ (m : Int) ≤ 8) = true := by simp; omega
    go_enter Tryz.func133, Tryz.ntmps133
    go_wp2_with (first | (go_at_call 55; refine (width_s _ _).mono ?_; rw [hd]; rintro e w' ⟨rfl, rfl⟩) | (go_at_call 157; refine (parts_s s m q _ hs hq (by omega) (by omega)).mono ?_; rintro e w2 ⟨g, c, rfl, hg, hrow, hb⟩; clear hrow))
    go_ret
    exact ⟨rfl, hb⟩
  · rw [if_neg hn]
    have hd : decide (1 ≤ n ∧ n ≤ 8) = false := by simp; omega
    go_enter Tryz.func133, Tryz.ntmps133
    go_wp2_with (first | (go_at_call 55; refine (width_s _ _).mono ?_; rw [hd]; rintro e w' ⟨rfl, rfl⟩))
    go_ret
    exact ⟨rfl, Below.refl _ _⟩

end Go.Proofs.YtnmaknnnmjfhkafGreatDoor

namespace Go.Proofs.YtnmaknnnmjfhkafGreatDoor
open Go.RowKit
set_option linter.unusedVariables false
set_option linter.unusedSimpArgs false
set_option maxRecDepth 4000

/-- How many pages batches have together. -/
def roomOf (bss : List (List Ch)) (n : Int) : Int := (bss.map fun b => npages (bOut b).size n).sum
theorem npages_bound (l : Nat) (n : Int) : 0 ≤ npages l n ∧ npages l n ≤ (l : Int) + 1 := by
  unfold npages nparts
  split
  · split
    · omega
    · have h := Nat.div_le_self (l - 1) (56 - n).toNat
      obtain ⟨q, hq⟩ : ∃ q, q = (l - 1) / (56 - n).toNat := ⟨_, rfl⟩
      rw [← hq] at h ⊢
      omega
  · omega
theorem bOut_bound (b : List Ch) : (bOut b).size ≤ 2460 := by
  unfold bOut
  split
  · rename_i h
    obtain ⟨h1, h2⟩ := batchOk_of h
    have := bForm_size b h2
    omega
  · simp
theorem roomOf_nil (n : Int) : roomOf [] n = 0 := rfl
theorem roomOf_snoc (bss : List (List Ch)) (b : List Ch) (n : Int) : roomOf (bss ++ [b]) n = roomOf bss n + npages (bOut b).size n := by simp [roomOf]
theorem roomOf_bound (bss : List (List Ch)) (n : Int) : 0 ≤ roomOf bss n ∧ roomOf bss n ≤ 2461 * (bss.length : Int) := by
  induction bss with
  | nil => exact ⟨Int.le_refl _, by simp [roomOf]⟩
  | cons b r ih =>
    have e : roomOf (b :: r) n = npages (bOut b).size n + roomOf r n := by simp [roomOf]
    have h1 := npages_bound (bOut b).size n
    have h2 := bOut_bound b
    rw [e, List.length_cons]
    omega
theorem takeR_snoc {α : Type} (l : List α) (k : Nat) (d : α) (h : k < l.length) : l.take (k + 1) = l.take k ++ [l.getD k d] := by
  rw [List.take_succ_eq_append_getElem h]
  simp [List.getD, h]

set_option maxHeartbeats 16000000 in
theorem room_s (a : Option Addr) (rs : List Pr) (c : Nat) (n : Int) (w : World) (h : Prs w a rs) (hl : rs.length ≤ 1048576) (hs : ∀ x ∈ rs, x.1.size ≤ 1048576 ∧ x.2.size ≤ 1048576) :
    Calls Tryz.prog 101 #[.agg #[.slice a rs.length c], .int .i64 n] w fun e w' => e = .returned (.int .i64 (roomOf (snapOf rs) n)) ∧ Below w.heap.size w w' := by
  have hb0 : Below w.heap.size w (w.alloc (.cells #[.slice a rs.length c] 44)) := (Below.refl _ _).alloc (Nat.le_refl _) _
  have hv := snap_s a rs c (w.alloc (.cells #[.slice a rs.length c] 44)) (h.below hb0) hl hs
  have HV := hid hv
  have HB0 := hid hb0
  clear hv hb0
  obtain ⟨bss, hbss⟩ : ∃ bss, bss = snapOf rs := ⟨_, rfl⟩
  have hbl := snapOf_len rs
  have HMB : Hid (∀ b ∈ bss, b.length ≤ 1048576 ∧ ∀ x ∈ b, x.1.size ≤ 1048576 ∧ x.2.1.size ≤ 1048576) := by
    intro b hb
    rw [hbss] at hb
    obtain ⟨h1, h2⟩ := snapOf_mem hb
    exact ⟨by omega, fun x hx => hs _ (h2 x hx)⟩
  rw [← hbss] at HV hbl ⊢
  clear hbss
  go_enter Tryz.func101, Tryz.ntmps101
  go_wp2_with (go_at_call 132; refine HV.out.mono ?_; rintro e w2 ⟨v, rfl, hbat, hb2⟩)
  obtain ⟨va, vc, rfl, hbt⟩ := hbat.bts
  have HBT := hid hbt
  have HBW := hid (HB0.out.trans (hb2.mono HB0.out.size))
  clear hbat hb2 hbt HV HB0
  go_loopw [5, 7] (fun y i wr => ∃ k : Nat, k ≤ bss.length ∧ i = .int .i64 (k : Int) ∧ y = .int .i64 (roomOf (bss.take k) n) ∧ Below w2.heap.size w2 wr) (fun _ i _ => bss.length - (intOf i).toNat)
  case atStart => exact ⟨0, Nat.zero_le _, rfl, rfl, Below.refl _ _⟩
  case round =>
    obtain ⟨k, hk, rfl, rfl, hbel⟩ := hrel
    by_cases hlt : k < bss.length
    · obtain ⟨g, p, cc, rfl, hg, hc, hch⟩ := (HBT.out.below hbel).at hlt
      have hlt' : (k : Int) < (bss.length : Int) := by omega
      have hk0 : (0 : Int) ≤ (k : Int) := by omega
      have hmem := HMB.out (bss.getD k []) (by simp [List.getD, hlt])
      have HST := hid (roomOf_snoc (bss.take k) (bss.getD k []) n)
      rw [← takeR_snoc bss k [] hlt] at HST
      have hR := roomOf_bound (bss.take k) n
      have hRl : (bss.take k).length ≤ 5 := by rw [List.length_take]; omega
      have hP := npages_bound (bOut (bss.getD k [])).size n
      have hO := bOut_bound (bss.getD k [])
      obtain ⟨b, hb⟩ : ∃ b, b = bss.getD k [] := ⟨_, rfl⟩
      rw [← hb] at hc hch hmem HST hP hO
      obtain ⟨r, hr⟩ : ∃ r, r = roomOf (bss.take k) n := ⟨_, rfl⟩
      rw [← hr] at HST hR ⊢
      have HF := hid (fun W (hW : Chs W p b) => formbatch_s p b cc W hW hmem.1 hmem.2)
      have HG := hid (fun W => pages_s (bOut b) n W (by omega))
      have HCH := hid hch
      have HBL := hid hbel
      obtain ⟨q, hq⟩ : ∃ q, q = npages (bOut b).size n := ⟨_, rfl⟩
      rw [← hq] at HG hP HST
      obtain ⟨bo, hbo⟩ : ∃ bo, bo = bOut b := ⟨_, rfl⟩
      rw [← hbo] at HF HG hP hO
      have hw0 : IntKind.i64.wrap (r + q) = r + q := by simp [IntKind.wrap, IntKind.bits, IntKind.signed]; omega
      clear hb hr hq hbo hmem hch hbel
      go_wp2_with (first | (go_at_call 134; refine (HF.out _ HCH.out).mono ?_; rintro e w3 ⟨rfl, hb3⟩) | (go_at_call 133; refine (HG.out _).mono ?_; rintro e w4 ⟨rfl, hb4⟩))
      refine ⟨⟨k + 1, by omega, by go_num, ?_, ?_⟩, by simp [intOf]; omega⟩
      · rw [HST.out]
      · exact HBL.out.trans ((hb3.trans (hb4.mono hb3.size)).mono HBL.out.size)
    · have hkl : k = bss.length := by omega
      subst hkl
      go_wp2
      go_ret
      exact ⟨by simp, HBW.out.trans (hbel.mono HBW.out.size)⟩
set_option maxHeartbeats 16000000 in
theorem room_i (a : Option Addr) (rs : List Pr) (c : Nat) (n : Int) (w : World) (h : Prs w a rs) (hc0 : rs.length ≤ c) (hl : rs.length ≤ 1048576) (hs : ∀ x ∈ rs, x.1.size ≤ 1048576 ∧ x.2.size ≤ 1048576) :
    Calls Tryz.prog 158 #[.agg #[.slice a rs.length c], .int .i64 n] w fun e w' => e = .returned (.int .i64 (roomOf (snapOf rs) n)) ∧ Below w.heap.size w w' := by
  have hb0 : Below w.heap.size w (w.alloc (.cells #[.slice a rs.length c] 44)) := (Below.refl _ _).alloc (Nat.le_refl _) _
  have hv := snap_i a rs c (w.alloc (.cells #[.slice a rs.length c] 44)) (h.below hb0) hc0 hl hs
  have HV := hid hv
  have HB0 := hid hb0
  clear hv hb0
  obtain ⟨bss, hbss⟩ : ∃ bss, bss = snapOf rs := ⟨_, rfl⟩
  have hbl := snapOf_len rs
  have HMB : Hid (∀ b ∈ bss, b.length ≤ 1048576 ∧ ∀ x ∈ b, x.1.size ≤ 1048576 ∧ x.2.1.size ≤ 1048576) := by
    intro b hb
    rw [hbss] at hb
    obtain ⟨h1, h2⟩ := snapOf_mem hb
    exact ⟨by omega, fun x hx => hs _ (h2 x hx)⟩
  rw [← hbss] at HV hbl ⊢
  clear hbss
  go_enter Tryz.func158, Tryz.ntmps158
  go_wp2_with (go_at_call 163; refine HV.out.mono ?_; rintro e w2 ⟨v, rfl, hbat, hb2⟩; obtain ⟨va, vc, rfl, hbt⟩ := hbat.bts)
  have HBT := hid hbt
  have HBW := hid (HB0.out.trans (hb2.mono HB0.out.size))
  clear hbat hb2 hbt HV HB0
  go_loopw [5, 11] (fun y i wr => ∃ k : Nat, k ≤ bss.length ∧ i = .int .i64 (k : Int) ∧ y = .int .i64 (roomOf (bss.take k) n) ∧ Below w2.heap.size w2 wr) (fun _ i _ => bss.length - (intOf i).toNat)
  case atStart => exact ⟨0, Nat.zero_le _, rfl, rfl, Below.refl _ _⟩
  case round =>
    obtain ⟨k, hk, rfl, rfl, hbel⟩ := hrel
    by_cases hlt : k < bss.length
    · obtain ⟨g, p, cc, rfl, hg, hc, hch⟩ := (HBT.out.below hbel).at hlt
      have hlt' : (k : Int) < (bss.length : Int) := by omega
      have hk0 : (0 : Int) ≤ (k : Int) := by omega
      have hmem := HMB.out (bss.getD k []) (by simp [List.getD, hlt])
      have HST := hid (roomOf_snoc (bss.take k) (bss.getD k []) n)
      rw [← takeR_snoc bss k [] hlt] at HST
      have hR := roomOf_bound (bss.take k) n
      have hRl : (bss.take k).length ≤ 5 := by rw [List.length_take]; omega
      have hP := npages_bound (bOut (bss.getD k [])).size n
      have hO := bOut_bound (bss.getD k [])
      obtain ⟨b, hb⟩ : ∃ b, b = bss.getD k [] := ⟨_, rfl⟩
      rw [← hb] at hc hch hmem HST hP hO
      obtain ⟨r, hr⟩ : ∃ r, r = roomOf (bss.take k) n := ⟨_, rfl⟩
      rw [← hr] at HST hR ⊢
      have HF := hid (fun W (hW : Chs W p b) => formbatch_i p b cc W hW hmem.1 hmem.2)
      have HG := hid (fun W => pages_i (bOut b) n W (by omega))
      have HCH := hid hch
      have HBL := hid hbel
      obtain ⟨q, hq⟩ : ∃ q, q = npages (bOut b).size n := ⟨_, rfl⟩
      rw [← hq] at HG hP HST
      obtain ⟨bo, hbo⟩ : ∃ bo, bo = bOut b := ⟨_, rfl⟩
      rw [← hbo] at HF HG hP hO
      have hw0 : IntKind.i64.wrap (r + q) = r + q := by simp [IntKind.wrap, IntKind.bits, IntKind.signed]; omega
      clear hb hr hq hbo hmem hch hbel
      go_wp2_with (first | (go_at_call 165; refine (HF.out _ HCH.out).mono ?_; rintro e w3 ⟨rfl, hb3⟩) | (go_at_call 164; refine (HG.out _).mono ?_; rintro e w4 ⟨rfl, hb4⟩))
      refine ⟨⟨k + 1, by omega, by go_num, ?_, ?_⟩, by simp [intOf]; omega⟩
      · rw [HST.out]
      · exact HBL.out.trans ((hb3.trans (hb4.mono hb3.size)).mono HBL.out.size)
    · have hkl : k = bss.length := by omega
      subst hkl
      go_wp2
      go_ret
      exact ⟨by simp, HBW.out.trans (hbel.mono HBW.out.size)⟩
end Go.Proofs.YtnmaknnnmjfhkafGreatDoor

namespace Go.Proofs.YtnmaknnnmjfhkafGreatDoor
open Go.RowKit
set_option maxRecDepth 4000
set_option linter.unusedVariables false
set_option linter.unusedSimpArgs false
/-- How many sectors a half has. -/
def hv (n : Int) : Int := if 8 ≤ n ∧ n ≤ 200 then (n - 2) / 2 else 0
theorem isize_i (n : Int) (w : World) : Calls Tryz.prog 61 #[.int .i64 n] w fun e w' => e = .returned (.bool (decide (8 ≤ n ∧ n ≤ 200))) ∧ w' = w := by
  go_enter Tryz.func61, Tryz.ntmps61
  by_cases h1 : 8 ≤ n <;> by_cases h2 : n ≤ 200 <;> (go_wp2; go_ret; simp [h1, h2])
theorem halves_i (n : Int) (w : World) : Calls Tryz.prog 138 #[.int .i64 n] w fun e w' => e = .returned (.int .i64 (hv n)) ∧ w' = w := by
  by_cases h : 8 ≤ n ∧ n ≤ 200
  · have hd : decide (8 ≤ n ∧ n ≤ 200) = true := by simp [h]
    have hh : hv n = (n - 2) / 2 := by unfold hv; rw [if_pos h]
    obtain ⟨h1, h2⟩ := h
    go_enter Tryz.func138, Tryz.ntmps138
    go_wp2_with (go_at_call 61; refine (isize_i _ _).mono ?_; rw [hd]; rintro e w2 ⟨rfl, rfl⟩)
    go_ret
    refine ⟨?_, rfl⟩
    rw [hh]
    rfl
  · have hd : decide (8 ≤ n ∧ n ≤ 200) = false := by simpa using h
    have hh : hv n = 0 := by unfold hv; rw [if_neg h]
    rw [hh]
    go_enter Tryz.func138, Tryz.ntmps138
    go_wp2_with (go_at_call 61; refine (isize_i _ _).mono ?_; rw [hd]; rintro e w2 ⟨rfl, rfl⟩)
    go_ret
    exact ⟨rfl, rfl⟩
theorem halves_s (n : Int) (w : World) : Calls Tryz.prog 100 #[.int .i64 n] w fun e w' => e = .returned (.int .i64 (hv n)) ∧ w' = w := by
  by_cases h1 : 8 ≤ n
  · by_cases h2 : n ≤ 200
    · have hh : hv n = (n - 2) / 2 := by unfold hv; rw [if_pos ⟨h1, h2⟩]
      go_enter Tryz.func100, Tryz.ntmps100
      go_wp2
      go_ret
      refine ⟨?_, rfl⟩
      rw [hh]
      rfl
    · have hh : hv n = 0 := by unfold hv; rw [if_neg (fun x => h2 x.2)]
      rw [hh]
      go_enter Tryz.func100, Tryz.ntmps100
      go_wp2
      go_ret
      exact ⟨rfl, rfl⟩
  · have hh : hv n = 0 := by unfold hv; rw [if_neg (fun x => h1 x.1)]
    rw [hh]
    go_enter Tryz.func100, Tryz.ntmps100
    go_wp2
    go_ret
    exact ⟨rfl, rfl⟩
end Go.Proofs.YtnmaknnnmjfhkafGreatDoor
