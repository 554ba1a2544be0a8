import Derived.Test.YtnmaknnnmjfhkadFate
import Derived.Test.YtnmaknnnmjfhkadMk
namespace Go.Proofs.Ytnmaknnnmjfhkad
open Go.RowKit
set_option maxRecDepth 4000
set_option linter.unusedVariables false

theorem infoInt : (Try.prog.info? 3).map (fun i => (i.zero, i.size, i.bytes)) = some (some (.int .i64 0), 1, 8) := by kernel_rfl
def icells (zs : List Int) : List Value := zs.map (Value.int .i64)
def iupTo (zs : List Int) (k : Nat) : List Value := icells (zs.take k) ++ List.replicate (zs.length - k) (.int .i64 0)
theorem iupTo_length (zs : List Int) (k : Nat) (h : k ≤ zs.length) : (iupTo zs k).length = zs.length := by simp [iupTo, icells]; omega
theorem iupTo_all (zs : List Int) (k : Nat) (h : zs.length ≤ k) : iupTo zs k = icells zs := by
  unfold iupTo
  rw [List.take_of_length_le h, show zs.length - k = 0 by omega]; simp
theorem iupTo_set (zs : List Int) (k : Nat) (h : k < zs.length) : (iupTo zs k).set k (.int .i64 (zs.getD k 0)) = iupTo zs (k + 1) := by
  apply List.ext_getElem?
  intro i
  unfold iupTo icells
  rw [List.getElem?_set]
  by_cases hi : k = i
  · subst hi
    have hlen : k < (List.map (Value.int .i64) (zs.take k) ++ List.replicate (zs.length - k) (Value.int .i64 0)).length := by simp; omega
    rw [if_pos rfl, if_pos hlen, List.getElem?_append_left (by simp; omega)]
    simp [List.getD, h]
  · rw [if_neg hi]
    by_cases h1 : i < k
    · rw [List.getElem?_append_left (by simp; omega), List.getElem?_append_left (by simp; omega)]
      simp [h1, show i < k + 1 by omega]
    · rw [List.getElem?_append_right (by simp; omega), List.getElem?_append_right (by simp; omega)]
      simp [List.getElem?_replicate]
      by_cases h2 : i < zs.length
      · rw [if_pos (by omega), if_pos (by omega)]
      · rw [if_neg (by omega), if_neg (by omega)]
theorem made_ints (n : Nat) : (madeCells (Value.int .i64 0).cells (n * 1)).toList = List.replicate n (.int .i64 0) := by
  unfold madeCells
  rw [Nat.mul_one, Array.toList_map, Array.toList_range]
  rw [List.eq_replicate_iff]
  refine ⟨by simp, fun b hb => ?_⟩
  obtain ⟨i, _, rfl⟩ := List.mem_map.1 hb
  have : i % (Value.int .i64 0).cells.size = 0 := by simp [Value.cells, Nat.mod_one]
  rw [this]; rfl
theorem Row.ints {w : World} {g : Nat} {zs : List Int} (h : Row w g (icells zs)) : Ints w (some ⟨g, 0, none⟩) zs :=
  .inr ⟨g, 0, rfl, h.lt, fun i hi => by rw [Nat.zero_add]; exact h.cell i _ (by simp [icells, List.getD, hi])⟩

set_option maxHeartbeats 400000 in
theorem to_ints (a : Option Addr) (zs : List Int) (c : Nat) (w : World) (h : Ints w a zs) (hl : zs.length ≤ 1048576) :
    Calls Try.prog 26 #[.slice a zs.length c] w fun e w' => ∃ g, e = .returned (.slice (some ⟨g, 0, none⟩) zs.length zs.length) ∧ w.heap.size ≤ g ∧ Row w' g (icells zs) ∧ Below w.heap.size w w' := by
  go_enter Try.func26, Try.ntmps26
  go_wp2_with (at_make; refine wpList_make_new rfl _ _ 53 rfl 3 _ 1 8 Try.underlying53 infoInt zs.length rfl rfl (by omega) (by omega) ?_; intro wx hrow hbx hsx; rw [made_ints] at hrow)
  have hr0 : Row wx w.heap.size (iupTo zs 0) := by simpa [iupTo, icells] using hrow
  clear hrow
  go_loopw [4] (fun i wr => ∃ k : Nat, k ≤ zs.length ∧ i = .int .i64 k ∧ Row wr w.heap.size (iupTo zs k) ∧ Below w.heap.size w wr) (fun i _ => zs.length - (intOf i).toNat)
  case atStart => exact ⟨0, Nat.zero_le _, rfl, hr0, hbx⟩
  case round =>
    obtain ⟨k, hk, rfl, hrow, hbel⟩ := hrel
    by_cases hlt : k < zs.length
    · obtain ⟨b, o, s, rfl, hlb, hc, HS⟩ := (h.below hbel).at hlt
      have hlu := iupTo_length zs k hk
      obtain ⟨u, hu⟩ : ∃ u, wr.cell? ⟨w.heap.size, k, none⟩ = some u := ⟨_, hrow.cell k _ (List.getElem?_eq_getElem (by omega))⟩
      have hf := hrow.froz k (by omega)
      have HR := hid (hrow.set k (by omega) (.int .i64 s))
      have HU : Hid ((iupTo zs k).set k (.int .i64 s) = iupTo zs (k + 1)) := by show _ = _; rw [HS.out]; exact iupTo_set zs k hlt
      clear hrow hlu
      go_wp2
      go_roundw
      case rel => exact ⟨k + 1, by omega, by go_num, by rw [← HU.out]; exact HR.out, hbel.setCell (Nat.le_refl _) _⟩
      case measure => simp [intOf]; omega
    · go_wp2
      go_ret
      exact ⟨w.heap.size, rfl, Nat.le_refl _, by rw [← iupTo_all zs k (by omega)]; exact hrow, hbel⟩

set_option maxHeartbeats 400000 in
theorem eq_ints (a b : Option Addr) (zs : List Int) (c c' : Nat) (w : World) (h : Ints w a zs) (h' : Ints w b zs) (hl : zs.length ≤ 1048576) :
    Calls Try.prog 29 #[.slice a zs.length c, .slice b zs.length c'] w fun e w' => e = .returned (.bool true) ∧ Below w.heap.size w w' := by
  go_enter Try.func29, Try.ntmps29
  go_wp2
  go_loopw [5] (fun i wr => ∃ k : Nat, k ≤ zs.length ∧ i = .int .i64 k ∧ Below w.heap.size w wr) (fun i _ => zs.length - (intOf i).toNat)
  case atStart => exact ⟨0, Nat.zero_le _, rfl, Below.refl _ _⟩
  case round =>
    obtain ⟨k, hk, rfl, hbel⟩ := hrel
    by_cases hlt : k < zs.length
    · obtain ⟨b1, o1, s, rfl, _, hc, HS⟩ := (h.below hbel).at hlt
      obtain ⟨b2, o2, s', rfl, _, hc', HS'⟩ := (h'.below hbel).at hlt
      obtain rfl : s = s' := HS.out.trans HS'.out.symm
      have hk1 : (k : Int) < (zs.length : Int) := by omega
      have hk0 : (0 : Int) ≤ (k : Int) := by omega
      clear HS HS'
      go_wp2_with fail
      go_quiet (fail)
      go_wp2
      go_roundw
      case rel => exact ⟨k + 1, by omega, by go_num, below_drewN hbel _⟩
      case measure => simp [intOf]; omega
    · go_wp2
      go_ret
      exact ⟨rfl, hbel⟩

set_option maxHeartbeats 400000 in
theorem mark_ints (g n c k : Nat) (cs : List Value) (hn : cs.length = n) (w : World) (h : Row w g cs) (hl : k + n ≤ 100000000) :
    Calls Try.prog 31 #[.slice (some ⟨g, 0, none⟩) n c, .int .i64 (k : Int)] w fun e w' => e = .returned (.int .i64 ((k + n : Nat) : Int)) ∧ w.grownBy w' (some g) := by
  go_enter Try.func31, Try.ntmps31
  go_wp2
  go_loopw [1, 5] (fun x i wr => ∃ (j : Nat) (cs : List Value), j ≤ n ∧ i = .int .i64 (j : Int) ∧ x = .int .i64 ((k + j : Nat) : Int) ∧ cs.length = n ∧ Row wr g cs ∧ w.grownBy wr (some g)) (fun _ i _ => n - (intOf i).toNat)
  case atStart => exact ⟨0, cs, Nat.zero_le _, rfl, rfl, hn, h, grown_refl _ _⟩
  case round =>
    obtain ⟨j, ds, hj, rfl, rfl, hdl, hrow, hgr⟩ := hrel
    by_cases hlt : j < n
    · have hkj : ((k + j : Nat) : Int) ≤ 100000000 := by omega
      obtain ⟨u, hu⟩ : ∃ u, wr.cell? ⟨g, j, none⟩ = some u := ⟨_, hrow.cell j _ (List.getElem?_eq_getElem (by omega))⟩
      have hf := hrow.froz j (by omega)
      have HR := hid hrow
      have HG := hid hgr
      clear hrow hgr
      go_wp2
      go_roundw
      case rel => exact ⟨j + 1, _, by omega, by go_num, by go_num, by rw [List.length_set]; exact hdl, HR.out.set j (by omega) _, grown_set HG.out _ _⟩
      case measure => simp [intOf]; omega
    · have hjl : Hid (j = n) := by show _ = _; omega
      have HG := hid hgr
      clear hgr
      go_wp2
      go_ret
      exact ⟨ret_int (by rw [hjl.out]), HG.out⟩
end Go.Proofs.Ytnmaknnnmjfhkad
