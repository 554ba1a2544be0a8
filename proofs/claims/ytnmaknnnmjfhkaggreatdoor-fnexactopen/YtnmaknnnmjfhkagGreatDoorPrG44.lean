import Derived.WalkKit
import Derived.WalkSpells
import Derived.WalkLawsBesides
import Derived.Outline
import Derived.Deep.RegionLaw
import Derived.Test.YtnmaknnnmjfhkagGreatDoorPrG43
import Derived.Test.YtnmaknnnmjfhkagGreatDoorProg
import Derived.BigQuiet
import Derived.Deep.QuietTactic
import Derived.Deep.RegionHeld3
set_option maxHeartbeats 16000000
set_option maxRecDepth 8000
namespace Go.Proofs.YtnmaknnnmjfhkagGreatDoor
open Go.RowKit
theorem step_call {P : Program} {ops : Array Oper} {o : Oper} {a : Act} {w : World} {K : Act → World → Prop} {Q : Exit → Act → World → Prop} {E : Prop} (hgd : o.guard = none) (f : FuncId) (args : Array Value)
    (hrun : (execOp a.eval o).run P w = .ok (.enter f args) w) {C : Ending → World → Prop} (hc : Calls P f args w C) (h : ∀ e w', C e w' → ∃ v, e = .returned v ∧ K (a.put o.dst v) w') :
    if Region.wanted o (yielded ops a.tmps) = true then Oper.wp P o a w K Q else E := by
  have hw : Region.wanted o (yielded ops a.tmps) = true := by simp [Region.wanted, hgd]
  rw [if_pos hw]
  unfold Oper.wp
  rw [hrun, Oper.upon_enter]
  refine hc.mono fun e w'' hh => ?_
  obtain ⟨v, rfl, hk⟩ := h e w'' hh
  exact hk
end Go.Proofs.YtnmaknnnmjfhkagGreatDoor

namespace Go.Proofs.YtnmaknnnmjfhkagGreatDoor
open Go.RowKit
set_option maxRecDepth 4000
set_option linter.unusedVariables false
theorem edit_i0 (k v : ByteArray) (w : World) : Calls Tryz.prog 186 #[.agg #[.string k, .string v, .bool false]] w fun e w' => e = .returned (.iface 298 (.agg #[.string k, .string v])) ∧ Below w.heap.size w w' := by
  go_enter Tryz.func186, Tryz.ntmps186
  go_wp2
  go_ret
  exact ⟨rfl, (Below.refl _ _).alloc (Nat.le_refl _) _⟩
theorem edit_i1 (k v : ByteArray) (w : World) : Calls Tryz.prog 186 #[.agg #[.string k, .string v, .bool true]] w fun e w' => e = .returned (.iface 296 (.agg #[.string k])) ∧ Below w.heap.size w w' := by
  go_enter Tryz.func186, Tryz.ntmps186
  go_wp2
  go_ret
  exact ⟨rfl, (Below.refl _ _).alloc (Nat.le_refl _) _⟩
end Go.Proofs.YtnmaknnnmjfhkagGreatDoor

namespace Go.Proofs.YtnmaknnnmjfhkagGreatDoor
open Go.RowKit
set_option maxRecDepth 4000
theorem ret_str {a b : ByteArray} (h : a = b) : Ending.returned (.string a) = .returned (.string b) := by rw [h]
theorem bytes1 (w : World) (n : Int) : (convert 47 9 (.slice (some ⟨w.heap.size, 0, none⟩) 1 1)).run Tryz.prog (w.alloc (.cells #[.int .u8 n] 5)) = .ok (.string (strOfNums [n])) (w.alloc (.cells #[.int .u8 n] 5)) :=
  run_convert_bytes_arg (P := Tryz.prog) _ 47 5 Tryz.underlying47 Tryz.underlying5 w.heap.size 0 1 1 [n] rfl (fun i hi => by
    have : i = 0 := by omega
    subst this; simp) 9 Tryz.underlying9
end Go.Proofs.YtnmaknnnmjfhkagGreatDoor

namespace Go.Proofs.YtnmaknnnmjfhkagGreatDoor
open Go.RowKit
set_option maxRecDepth 4000
set_option linter.unusedVariables false
theorem infoStr' : (Tryz.prog.info? 9).map (fun i => (i.zero, i.size, i.bytes)) = some (some (.string ByteArray.empty), 1, 16) := by kernel_rfl
theorem partw_s (n m : Nat) (w : World) (h : n + m = 56) (h1 : 1 ≤ n) (h2 : n ≤ 8) : Calls Tryz.prog 192 #[.int .i64 (n : Int)] w fun e w' => e = .returned (.int .i64 (m : Int)) ∧ w' = w := by
  have hm : (64 - (n : Int) - 8) = (m : Int) := by omega
  go_enter Tryz.func192, Tryz.ntmps192
  go_wp2
  go_ret
  exact ⟨by first | rfl | exact congrArg _ (congrArg _ hm), rfl⟩
theorem below_grown {W w w1 : World} {e : TypeId} {size : Nat} {v : Value} {n B : Nat} {xs : List Value} (hb : Below B W w) (own : w.ownsRow B e size v n xs) (hg : w.grownBy w1 v.ownBlock) (hB : B ≤ w.heap.size) : Below B W w1 :=
  hb.trans ⟨hg.os, hg.tape, hg.output, hg.size, fun k hk => hg.block k (by omega) (fun he => by have := (own.lt k he.symm).1; omega)⟩
theorem own_alloc_size {w : World} {B : Nat} (h : B ≤ w.heap.size) (o : Obj) : B ≤ (w.alloc o).heap.size := by simp; omega
def pieces (s : ByteArray) (m k : Nat) : List ByteArray := (List.range k).map fun i => s.extract (i * m) (i * m + m)
theorem pieces_succ (s : ByteArray) (m k : Nat) : pieces s m (k + 1) = pieces s m k ++ [s.extract (k * m) (k * m + m)] := by simp [pieces, List.range_succ]
def nparts (l m : Nat) : Nat := if l = 0 then 1 else (l - 1) / m + 1
theorem extract_eq_right (s : ByteArray) {a b c : Nat} (h : min (b - a) (s.size - a) = min (c - a) (s.size - a)) : s.extract a b = s.extract a c := by
  apply ByteArray.ext
  simp only [ByteArray.data_extract]
  exact Array.extract_eq_extract_right.2 h
theorem extract_rest (s r : ByteArray) (a m : Nat) (h : r = s.extract a s.size) : r.extract m r.size = s.extract (a + m) s.size := by
  subst h
  rw [ByteArray.extract_extract]
  apply extract_eq_right
  simp only [ByteArray.size_extract]
  omega
theorem extract_part (s r : ByteArray) (a m : Nat) (h : r = s.extract a s.size) : r.extract 0 m = s.extract a (a + m) := by
  subst h
  rw [ByteArray.extract_extract, Nat.add_zero]
  apply extract_eq_right
  omega
theorem extract_all (s r : ByteArray) (a m : Nat) (h : r = s.extract a s.size) (hm : r.size ≤ m) : r = s.extract a (a + m) := by
  subst h
  simp only [ByteArray.size_extract] at hm
  apply extract_eq_right
  omega
theorem nparts_eq (l m k r : Nat) (hm : 0 < m) (hr : k * m + r = l) (h0 : k = 0 ∨ 0 < r) (h1 : r ≤ m) : nparts l m = k + 1 := by
  unfold nparts
  by_cases hl : l = 0
  · rw [if_pos hl]
    rcases h0 with h0 | h0
    · omega
    · omega
  · rw [if_neg hl]
    have : (l - 1) / m = k := by
      rw [Nat.div_eq_iff hm]
      rcases h0 with h0 | h0
      · subst h0; omega
      · omega
    omega
set_option maxHeartbeats 16000000 in
theorem parts_s (s : ByteArray) (n m : Nat) (w : World) (hs : s.size ≤ 1048576) (h : n + m = 56) (h1 : 1 ≤ n) (h2 : n ≤ 8) :
    Calls Tryz.prog 191 #[.string s, .int .i64 (n : Int)] w fun e w' => ∃ g c, e = .returned (.slice (some ⟨g, 0, none⟩) (nparts s.size m) c) ∧ w.heap.size ≤ g ∧ Row w' g ((pieces s m (nparts s.size m)).map Value.string) ∧ Below w.heap.size w w' := by
  obtain ⟨i0, hi0, hz0, hz1, hz2⟩ := info_parts infoStr'
  have HI := hid (And.intro hi0 (And.intro hz0 (And.intro hz1 hz2)))
  clear hi0 hz0 hz1 hz2
  go_enter Tryz.func191, Tryz.ntmps191
  go_wp2_with (go_at_call 192; refine (partw_s n m _ h h1 h2).mono ?_; rintro e w' ⟨rfl, rfl⟩)
  go_loopw [0, 5] (fun x y wr => ∃ (k : Nat) (r : ByteArray), x = .string r ∧ Hid (r = s.extract (k * m) s.size) ∧ k * m + r.size = s.size ∧ Hid (k = 0 ∨ 0 < r.size) ∧ wr.ownsRow w.heap.size 9 1 y k ((pieces s m k).map Value.string) ∧ Below w.heap.size w wr) (fun x _ _ => match x with | .string r => r.size | _ => 0)
  case atStart => exact ⟨0, s, rfl, by show s = _; simp, by simp, .inl rfl, World.ownsRow_lit _ #[] 0 (Nat.le_refl _) (by simp) (by simp), (Below.refl _ _).alloc (Nat.le_refl _) _⟩
  case round =>
    obtain ⟨k, r, rfl, HR, hr, H0, hown, hbel⟩ := hrel
    by_cases hlt : m < r.size
    · have hlt' : (m : Int) < (r.size : Int) := by omega
      have hk1 : k ≤ 1048576 := by have : k * 1 ≤ k * m := Nat.mul_le_mul_left k (by omega); omega
      have hsz : w.heap.size ≤ wr.heap.size := hbel.size
      have HB := hid hbel
      have HO := hid (hown.alloc (.cells #[.string (r.extract 0 m)] 9))
      clear hbel hown
      go_wp2_with (at_builtin; refine wpList_append_lies _ rfl _ _ 22 rfl w.heap.size 9 i0 (.string ByteArray.empty) 1 16 Tryz.underlying22 HI.out.1 HI.out.2.1 HI.out.2.2.1 HI.out.2.2.2 rfl (by omega) _ k _ rfl HO.out ⟨wr.heap.size, 0, none⟩ 1 1 [.string (r.extract 0 m)] rfl rfl (World.news_of_block (heap_alloc_new wr _)) (by intro u hu; simp at hu; subst hu; rfl) (by omega) (by unfold maxLen; omega) (by omega) (own_alloc_size hsz _) (wr.heap.size + 1) (by simp) ?_; intro g cap w3 hown3 hgrow hat hlt3; have HO3 := hid hown3; have HB3 := hid (below_grown (HB.out.alloc hsz _) HO.out hgrow (own_alloc_size hsz _)); clear hown3 hgrow hat)
      refine ⟨⟨k + 1, r.extract m r.size, rfl, ?_, ?_, ?_, ?_, HB3.out⟩, ?_⟩
      · show _ = _
        rw [extract_rest s r _ m HR.out, Nat.add_mul, Nat.one_mul]
      · rw [Nat.add_mul, Nat.one_mul]; simp only [ByteArray.size_extract]; omega
      · exact .inr (by simp only [ByteArray.size_extract]; omega)
      · have e := HO3.out
        rw [extract_part s r _ m HR.out] at e
        rw [pieces_succ, List.map_append]
        exact e
      · simp only [ByteArray.size_extract]; omega
    · have hk1 : k ≤ 1048576 := by have : k * 1 ≤ k * m := Nat.mul_le_mul_left k (by omega); omega
      have hsz : w.heap.size ≤ wr.heap.size := hbel.size
      have HB := hid hbel
      have HN := hid (nparts_eq s.size m k r.size (by omega) hr H0.out (by omega))
      have HO := hid (hown.alloc (.cells #[.string r] 9))
      clear hbel hown H0
      go_wp2_with (at_builtin; refine wpList_append_lies _ rfl _ _ 22 rfl w.heap.size 9 i0 (.string ByteArray.empty) 1 16 Tryz.underlying22 HI.out.1 HI.out.2.1 HI.out.2.2.1 HI.out.2.2.2 rfl (by omega) _ k _ rfl HO.out ⟨wr.heap.size, 0, none⟩ 1 1 [.string r] rfl rfl (World.news_of_block (heap_alloc_new wr _)) (by intro u hu; simp at hu; subst hu; rfl) (by omega) (by unfold maxLen; omega) (by omega) (own_alloc_size hsz _) (wr.heap.size + 1) (by simp) ?_; intro g cap w3 hown3 hgrow hat hlt3; have HO3 := hid hown3; have HB3 := hid (below_grown (HB.out.alloc hsz _) HO.out hgrow (own_alloc_size hsz _)); clear hown3 hgrow hat)
      go_ret
      refine ⟨g, cap, by rw [HN.out]; rfl, (HO3.out.lt g rfl).1, ?_, HB3.out⟩
      have e := owns_row HO3.out
      rw [HN.out, pieces_succ, List.map_append]
      rw [extract_all s r _ m HR.out (by omega)] at e
      exact e
end Go.Proofs.YtnmaknnnmjfhkagGreatDoor

namespace Go.Proofs.YtnmaknnnmjfhkagGreatDoor
open Go.RowKit
set_option maxRecDepth 4000
theorem width_s (n : Int) (w : World) : Calls Tryz.prog 49 #[.int .i64 n] w fun e w' => e = .returned (.bool (decide (1 ≤ n ∧ n ≤ 8))) ∧ w' = w := by
  by_cases h1 : 1 ≤ n
  · by_cases h2 : n ≤ 8
    · go_enter Tryz.func49, Tryz.ntmps49
      go_wp2
      go_ret
      exact ⟨by simp [h1, h2], rfl⟩
    · go_enter Tryz.func49, Tryz.ntmps49
      go_wp2
      go_ret
      exact ⟨by simp [h2], rfl⟩
  · go_enter Tryz.func49, Tryz.ntmps49
    go_wp2
    go_ret
    exact ⟨by simp; omega, rfl⟩
theorem width_i (n : Int) (w : World) : Calls Tryz.prog 60 #[.int .i64 n] w fun e w' => e = .returned (.bool (decide (1 ≤ n ∧ n ≤ 8))) ∧ w' = w := by
  by_cases h1 : 1 ≤ n
  · by_cases h2 : n ≤ 8
    · go_enter Tryz.func60, Tryz.ntmps60
      go_wp2
      go_ret
      exact ⟨by simp [h1, h2], rfl⟩
    · go_enter Tryz.func60, Tryz.ntmps60
      go_wp2
      go_ret
      exact ⟨by simp [h2], rfl⟩
  · go_enter Tryz.func60, Tryz.ntmps60
    go_wp2
    go_ret
    exact ⟨by simp; omega, rfl⟩
end Go.Proofs.YtnmaknnnmjfhkagGreatDoor

namespace Go.Proofs.YtnmaknnnmjfhkagGreatDoor
open Go.RowKit
set_option maxRecDepth 4000
set_option linter.unusedVariables false
def npages (l : Nat) (n : Int) : Int := if 1 ≤ n ∧ n ≤ 8 then (nparts l (56 - n).toNat : Int) else 0
theorem partw_i (n m : Nat) (w : World) (h : n + m = 56) (h1 : 1 ≤ n) (h2 : n ≤ 8) : Calls Tryz.prog 187 #[.int .i64 (n : Int)] w fun e w' => e = .returned (.int .i64 (m : Int)) ∧ w' = w := by
  have hm : (64 - (n : Int) - 8) = (m : Int) := by omega
  go_enter Tryz.func187, Tryz.ntmps187
  go_wp2
  go_ret
  exact ⟨by first | rfl | exact congrArg _ (congrArg _ hm), rfl⟩
theorem pages_i (s : ByteArray) (n : Int) (w : World) (hs : s.size ≤ 1048576) :
    Calls Tryz.prog 95 #[.string s, .int .i64 n] w fun e w' => e = .returned (.int .i64 (npages s.size n)) ∧ Below w.heap.size w w' := by
  obtain ⟨R, HR⟩ : ∃ R, Hid (R = npages s.size n) := ⟨_, hid rfl⟩
  rw [← HR.out]
  by_cases hn : 1 ≤ n ∧ n ≤ 8
  · obtain ⟨m, rfl⟩ : ∃ m : Nat, n = (m : Int) := ⟨n.toNat, by omega⟩
    obtain ⟨q, hq⟩ : ∃ q : Nat, m + q = 56 := ⟨56 - m, by omega⟩
    have hd : decide (1 ≤ (m : Int) ∧ (m : Int) ≤ 8) = true := by simp; omega
    by_cases hz : s.size = 0
    · have hz' : s = ByteArray.empty := by apply ByteArray.ext; exact Array.eq_empty_of_size_eq_zero hz
      subst hz'
      have hR : R = 1 := by rw [HR.out]; unfold npages nparts; rw [if_pos hn]; simp
      clear HR
      subst hR
      go_enter Tryz.func95, Tryz.ntmps95
      go_wp2_with (first | (go_at_call 60; refine (width_i _ _).mono ?_; rw [hd]; rintro e w' ⟨rfl, rfl⟩))
      go_ret
      exact ⟨rfl, Below.refl _ _⟩
    · obtain ⟨l, hl⟩ : ∃ l : Nat, s.size = l + 1 := ⟨s.size - 1, by omega⟩
      have hR : R = ((l / q : Nat) : Int) + 1 := by
        rw [HR.out]; unfold npages nparts
        rw [if_pos hn, if_neg hz, show (56 - (m : Int)).toNat = q by omega, hl]
        simp
      obtain ⟨d, hdq⟩ : ∃ d : Nat, d = l / q := ⟨_, rfl⟩
      have hq1 : d ≤ l := by rw [hdq]; exact Nat.div_le_self _ _
      have hq2 : (l : Int) / (q : Int) = (d : Int) := by rw [hdq]; simp
      rw [← hdq] at hR
      clear HR hdq
      subst hR
      have hne : s.toList.isEmpty = false := by rw [isEmpty_size]; simp [hz]
      go_enter Tryz.func95, Tryz.ntmps95
      go_wp2_with (first | (go_at_call 60; refine (width_i _ _).mono ?_; rw [hd]; rintro e w' ⟨rfl, rfl⟩) | (go_at_call 187; refine (partw_i m q _ hq (by omega) (by omega)).mono ?_; rintro e w' ⟨rfl, rfl⟩))
      go_ret
      exact ⟨rfl, Below.refl _ _⟩
  · have hR : R = 0 := by rw [HR.out]; unfold npages; exact if_neg hn
    clear HR
    subst hR
    have hd : decide (1 ≤ n ∧ n ≤ 8) = false := by simp; omega
    go_enter Tryz.func95, Tryz.ntmps95
    go_wp2_with (first | (go_at_call 60; refine (width_i _ _).mono ?_; rw [hd]; rintro e w' ⟨rfl, rfl⟩))
    go_ret
    exact ⟨rfl, Below.refl _ _⟩
end Go.Proofs.YtnmaknnnmjfhkagGreatDoor

namespace Go.Proofs.YtnmaknnnmjfhkagGreatDoor
open Go.RowKit
set_option maxRecDepth 4000
set_option linter.unusedVariables false
theorem pages_s (s : ByteArray) (n : Int) (w : World) (hs : s.size ≤ 1048576) :
    Calls Tryz.prog 106 #[.string s, .int .i64 n] w fun e w' => e = .returned (.int .i64 (npages s.size n)) ∧ Below w.heap.size w w' := by
  unfold npages
  by_cases hn : 1 ≤ n ∧ n ≤ 8
  · rw [if_pos hn]
    obtain ⟨m, rfl⟩ : ∃ m : Nat, n = (m : Int) := ⟨n.toNat, by omega⟩
    obtain ⟨q, hq⟩ : ∃ q : Nat, m + q = 56 := ⟨56 - m, by omega⟩
    rw [show (56 - (m : Int)).toNat = q by omega]
    have hd : decide (1 ≤ (m : Int) ∧ (m : Int) ≤ 8) = true := by simp; omega
    go_enter Tryz.func106, Tryz.ntmps106
    go_wp2_with (first | (go_at_call 49; refine (width_s _ _).mono ?_; rw [hd]; rintro e w' ⟨rfl, rfl⟩) | (go_at_call 191; refine (parts_s s m q _ hs hq (by omega) (by omega)).mono ?_; rintro e w2 ⟨g, c, rfl, hg, hrow, hb⟩; clear hrow))
    go_ret
    exact ⟨rfl, hb⟩
  · rw [if_neg hn]
    have hd : decide (1 ≤ n ∧ n ≤ 8) = false := by simp; omega
    go_enter Tryz.func106, Tryz.ntmps106
    go_wp2_with (first | (go_at_call 49; refine (width_s _ _).mono ?_; rw [hd]; rintro e w' ⟨rfl, rfl⟩))
    go_ret
    exact ⟨rfl, Below.refl _ _⟩
end Go.Proofs.YtnmaknnnmjfhkagGreatDoor

namespace Go.Proofs.YtnmaknnnmjfhkagGreatDoor
open Go.RowKit
set_option maxRecDepth 4000
set_option linter.unusedVariables false
set_option linter.unusedSimpArgs false
def hv (n : Int) : Int := if 8 ≤ n ∧ n ≤ 200 then (n - 2) / 2 else 0
theorem isize_i (n : Int) (w : World) : Calls Tryz.prog 147 #[.int .i64 n] w fun e w' => e = .returned (.bool (decide (8 ≤ n ∧ n ≤ 200))) ∧ w' = w := by
  go_enter Tryz.func147, Tryz.ntmps147
  by_cases h1 : 8 ≤ n <;> by_cases h2 : n ≤ 200 <;> (go_wp2; go_ret; simp [h1, h2])
theorem halves_i (n : Int) (w : World) : Calls Tryz.prog 64 #[.int .i64 n] w fun e w' => e = .returned (.int .i64 (hv n)) ∧ w' = w := by
  by_cases h : 8 ≤ n ∧ n ≤ 200
  · have hd : decide (8 ≤ n ∧ n ≤ 200) = true := by simp [h]
    have hh : hv n = (n - 2) / 2 := by unfold hv; rw [if_pos h]
    obtain ⟨h1, h2⟩ := h
    go_enter Tryz.func64, Tryz.ntmps64
    go_wp2_with (go_at_call 147; refine (isize_i _ _).mono ?_; rw [hd]; rintro e w2 ⟨rfl, rfl⟩)
    go_ret
    refine ⟨?_, rfl⟩
    rw [hh]
    rfl
  · have hd : decide (8 ≤ n ∧ n ≤ 200) = false := by simpa using h
    have hh : hv n = 0 := by unfold hv; rw [if_neg h]
    rw [hh]
    go_enter Tryz.func64, Tryz.ntmps64
    go_wp2_with (go_at_call 147; refine (isize_i _ _).mono ?_; rw [hd]; rintro e w2 ⟨rfl, rfl⟩)
    go_ret
    exact ⟨rfl, rfl⟩
theorem halves_s (n : Int) (w : World) : Calls Tryz.prog 30 #[.int .i64 n] w fun e w' => e = .returned (.int .i64 (hv n)) ∧ w' = w := by
  by_cases h1 : 8 ≤ n
  · by_cases h2 : n ≤ 200
    · have hh : hv n = (n - 2) / 2 := by unfold hv; rw [if_pos ⟨h1, h2⟩]
      go_enter Tryz.func30, Tryz.ntmps30
      go_wp2
      go_ret
      refine ⟨?_, rfl⟩
      rw [hh]
      rfl
    · have hh : hv n = 0 := by unfold hv; rw [if_neg (fun x => h2 x.2)]
      rw [hh]
      go_enter Tryz.func30, Tryz.ntmps30
      go_wp2
      go_ret
      exact ⟨rfl, rfl⟩
  · have hh : hv n = 0 := by unfold hv; rw [if_neg (fun x => h1 x.1)]
    rw [hh]
    go_enter Tryz.func30, Tryz.ntmps30
    go_wp2
    go_ret
    exact ⟨rfl, rfl⟩
end Go.Proofs.YtnmaknnnmjfhkagGreatDoor

namespace Go.Proofs.YtnmaknnnmjfhkagGreatDoor
open Go.RowKit
set_option linter.unusedVariables false
def storeV (W S L T H F R U O : Int) (a : Option Addr) (n c : Nat) : Value := .agg #[.int .i64 W, .int .i64 S, .int .i64 L, .int .i64 T, .int .i64 H, .int .i64 F, .int .i64 R, .int .i64 U, .int .i64 O, .slice a n c]
end Go.Proofs.YtnmaknnnmjfhkagGreatDoor

namespace Go.Proofs.YtnmaknnnmjfhkagGreatDoor
open Go.RowKit
set_option maxRecDepth 4000
set_option maxHeartbeats 16000000 in
theorem sum_s (s : ByteArray) (w : World) (n : Nat) (hs : s.size ≤ 1048576) (h1 : 1 ≤ n) (h2 : n ≤ 8) :
    Calls Tryz.prog 145 #[.string s, .int .i64 (n : Int)] w fun e w' => e = .returned (.string (sumN s n)) ∧ Below w.heap.size w w' := by
  have hb1 := bytes1
  have h1' : (1 : Int) ≤ (n : Int) := by omega
  have h2' : (n : Int) ≤ 8 := by omega
  go_enter Tryz.func145, Tryz.ntmps145
  go_wp2
  go_loop [5, 6] (fun v i => ∃ k : Nat, k ≤ s.size ∧ i = .int .i64 k ∧ v = .int .u64 (fnv (s.data.toList.take k))) (fun _ i => s.size - (intOf i).toNat)
  case atStart => exact ⟨0, Nat.zero_le _, rfl, rfl⟩
  case round =>
    obtain ⟨k, hk, rfl, rfl⟩ := hrel
    by_cases hlt : k < s.size
    · have HS : Hid (fnv (s.data.toList.take (k + 1)) = fnvStep (fnv (s.data.toList.take k)) s[k]) := by show _ = _; rw [take_snoc s k hlt, fnv_snoc]
      go_wp2
      go_round
      case rel => exact ⟨k + 1, by omega, by go_num, by rw [HS.out]; rfl⟩
      case measure => simp [intOf]; omega
    · have hke : s.data.toList.take k = s.data.toList := List.take_of_length_le (by simp; omega)
      have HV : Hid (fnv (s.data.toList.take k) = fnv s.data.toList) := by show _ = _; rw [hke]
      clear hke
      obtain ⟨x, HX⟩ : ∃ x, Hid (x = fnv s.data.toList) := ⟨fnv s.data.toList, (rfl : fnv s.data.toList = fnv s.data.toList)⟩
      rw [HV.out, ← HX.out]
      have hx : 0 ≤ x ∧ x ≤ 18446744073709551615 := by rw [HX.out]; exact fnv_bd _
      go_wp2
      go_loopw [5, 7, 8] (fun v o i wr => ∃ k : Nat, k ≤ n ∧ i = .int .i64 k ∧ o = .string (strOfNums (be k x)) ∧ v = .int .u64 (sh k x) ∧ Below w.heap.size w wr) (fun _ _ i _ => n - (intOf i).toNat)
      case atStart => exact ⟨0, Nat.zero_le _, rfl, rfl, rfl, Below.refl _ _⟩
      case round =>
        obtain ⟨k, hk, rfl, rfl, rfl, hbel⟩ := hrel
        have hsb := sh_bd k x hx.1 hx.2
        by_cases hlt : k < n
        · have hz1 : (strOfNums [sh k x % 256]).size ≤ 1 := by rw [strOfNums_size]; simp
          have hz2 : (strOfNums (be k x)).size ≤ 8 := by rw [strOfNums_size, be_length]; omega
          go_wp2
          go_roundw
          case rel => exact ⟨k + 1, by omega, by go_num, by rw [be_succ, ← strOfNums_append]; rfl, rfl, hbel.alloc hbel.size _⟩
          case measure => simp [intOf]; omega
        · have hkn : k = n := by omega
          subst hkn
          go_wp2
          go_ret
          exact ⟨ret_str (by unfold sumN; rw [HX.out]), hbel⟩
set_option maxHeartbeats 16000000 in
theorem put_any (b off n cap : Nat) (x : Int) (w : World) (hn : n ≤ 64) (hx0 : 0 ≤ x) (hx1 : x ≤ 18446744073709551615)
    (hc : ∀ i, i < n → ∃ u, w.cell? ⟨b, off + i, none⟩ = some (.int .u8 u)) (hf : ∀ i, i < n → w.frozen? ⟨b, off + i, none⟩ = false) :
    Calls Tryz.prog 263 #[.slice (some ⟨b, off, none⟩) n cap, .int .u64 x] w fun e w' => e = .returned (.tuple #[]) ∧ Wrote w w' b off (be n x) := by
  go_enter Tryz.func263, Tryz.ntmps263
  go_wp2
  go_loopw [1, 4] (fun v i wr => ∃ k : Nat, k ≤ n ∧ i = .int .i64 ((n : Int) - 1 - k) ∧ v = .int .u64 (sh k x) ∧ Wrote w wr b (off + (n - k)) (be k x)) (fun _ i _ => (intOf i + 1).toNat)
  case atStart => exact ⟨0, Nat.zero_le _, by simp, rfl, by simpa [be] using Wrote.refl w b (off + n)⟩
  case round =>
    obtain ⟨k, hk, rfl, rfl, hwr⟩ := hrel
    have hsb := sh_bd k x hx0 hx1
    by_cases hlt : k < n
    · obtain ⟨u, hu⟩ := hc (n - 1 - k) (by omega)
      have hu' : wr.cell? ⟨b, off + (n - 1 - k), none⟩ = some (.int .u8 u) := (hwr.outside _ (.inl (by omega))).trans hu
      have hf' : wr.frozen? ⟨b, off + (n - 1 - k), none⟩ = false := (hwr.frozen _).trans (hf _ (by omega))
      go_wp2
      go_roundw
      case rel =>
        have hst := Wrote.step (off := off + (n - 1 - k)) (xs := be k x) (by rw [show off + (n - 1 - k) + 1 = off + (n - k) by omega]; exact hwr) (sh k x % 256) hu
        exact ⟨k + 1, by omega, by go_num, rfl, by rw [be_succ, show n - (k + 1) = n - 1 - k by omega]; exact hst⟩
      case measure => simp [intOf]; omega
    · have hkn : k = n := by omega
      subst hkn
      go_wp2
      go_end0
      exact ⟨rfl, by simpa using hwr⟩
set_option maxHeartbeats 16000000 in
theorem sum_i (s : ByteArray) (w : World) (n : Nat) (hs : s.size ≤ 1048576) (h1 : 1 ≤ n) (h2 : n ≤ 8) :
    Calls Tryz.prog 268 #[.string s, .int .i64 (n : Int)] w fun e w' => e = .returned (.string (sumN s n)) ∧ Below w.heap.size w w' := by
  have h1' : (1 : Int) ≤ (n : Int) := by omega
  have h2' : (n : Int) ≤ 8 := by omega
  go_enter Tryz.func268, Tryz.ntmps268
  go_wp2
  go_loop [5, 6] (fun v i => ∃ k : Nat, k ≤ s.size ∧ i = .int .i64 k ∧ v = .int .u64 (fnv (s.data.toList.take k))) (fun _ i => s.size - (intOf i).toNat)
  case atStart => exact ⟨0, Nat.zero_le _, rfl, rfl⟩
  case round =>
    obtain ⟨k, hk, rfl, rfl⟩ := hrel
    by_cases hlt : k < s.size
    · have HS : Hid (fnv (s.data.toList.take (k + 1)) = fnvStep (fnv (s.data.toList.take k)) s[k]) := by show _ = _; rw [take_snoc s k hlt, fnv_snoc]
      go_wp2
      go_round
      case rel => exact ⟨k + 1, by omega, by go_num, by rw [HS.out]; rfl⟩
      case measure => simp [intOf]; omega
    · have hke : s.data.toList.take k = s.data.toList := List.take_of_length_le (by simp; omega)
      have HV : Hid (fnv (s.data.toList.take k) = fnv s.data.toList) := by show _ = _; rw [hke]
      clear hke
      obtain ⟨x, HX⟩ : ∃ x, Hid (x = fnv s.data.toList) := ⟨fnv s.data.toList, (rfl : fnv s.data.toList = fnv s.data.toList)⟩
      rw [HV.out, ← HX.out]
      have hx : 0 ≤ x ∧ x ≤ 18446744073709551615 := by rw [HX.out]; exact fnv_bd _
      go_wp2_with fail
      refine (put_any w.heap.size 0 8 8 x _ (by omega) hx.1 hx.2 ?hc ?hf).mono ?_
      case hc => intro i hi; have : i = 0 ∨ i = 1 ∨ i = 2 ∨ i = 3 ∨ i = 4 ∨ i = 5 ∨ i = 6 ∨ i = 7 := by omega
                 rcases this with rfl | rfl | rfl | rfl | rfl | rfl | rfl | rfl <;> exact ⟨0, by simp⟩
      case hf => intro i hi; simp
      rintro e w1 ⟨rfl, hw1⟩
      have hbw : Below w.heap.size w w1 := ((Below.refl _ _).alloc (Nat.le_refl _) _).trans (hw1.below (Nat.le_refl _))
      have hcv := fun cap => run_convert_bytes_arg (P := Tryz.prog) w1 47 5 Tryz.underlying47 Tryz.underlying5 w.heap.size (8 - n) n cap (be n x) (be_length n x) (fun i hi => by
        have h := hw1.inside (8 - n + i) (by rw [be_length]; omega)
        rw [be_get _ _ _ (by omega)] at h
        rw [be_get _ _ _ (by omega), show n - 1 - i = 8 - 1 - (8 - n + i) by omega]
        simpa using h) 9 Tryz.underlying9
      clear hw1
      have hsl := fun wx => slice_arr_from (P := Tryz.prog) (t := 357) Tryz.underlying357 (fun _ => by kernel_rfl) w.heap.size 0 (8 - n) (by omega) .i64 (8 - (n : Int)) (by omega) wx
      rw [show 8 - (8 - n) = n by omega, Nat.zero_add] at hsl
      go_wp2
      go_ret
      exact ⟨ret_str (by unfold sumN; rw [HX.out]), hbw⟩
end Go.Proofs.YtnmaknnnmjfhkagGreatDoor

namespace Go.Proofs.YtnmaknnnmjfhkagGreatDoor
open Go.RowKit
set_option maxRecDepth 4000
theorem ret_bool {a b : Bool} (h : a = b) : Ending.returned (.bool a) = .returned (.bool b) := by rw [h]
def pageOk (k l m : Int) (p : ByteArray) (n : Int) : Bool := decide (1 ≤ n ∧ n ≤ 8 ∧ 1 ≤ k ∧ k ≤ 4 ∧ 1 ≤ l ∧ l ≤ 60000 ∧ 1 ≤ m ∧ m ≤ 1000000000 ∧ (p.size : Int) ≤ 56 - n ∧ (k = 3 → p.size = 0))
@[reducible] def pageV (k l m : Int) (p : ByteArray) : Value := .agg #[.int .i64 k, .int .i64 l, .int .i64 m, .string p]
set_option maxHeartbeats 16000000 in
theorem num_s (v : Int) (c : Nat) (w : World) (h0 : 0 ≤ v) (h1 : v ≤ 9223372036854775807) (hc : c ≤ 8) :
    Calls Tryz.prog 144 #[.int .i64 v, .int .i64 (c : Int)] w fun e w' => e = .returned (.string (strOfNums (be c v))) ∧ Below w.heap.size w w' := by
  have hb1 := bytes1
  go_enter Tryz.func144, Tryz.ntmps144
  go_wp2
  go_loopw [0, 5, 6] (fun x o i wr => ∃ k : Nat, k ≤ c ∧ i = .int .i64 k ∧ o = .string (strOfNums (be k v)) ∧ x = .int .i64 (sh k v) ∧ Below w.heap.size w wr) (fun _ _ i _ => c - (intOf i).toNat)
  case atStart => exact ⟨0, Nat.zero_le _, rfl, rfl, rfl, Below.refl _ _⟩
  case round =>
    obtain ⟨k, hk, rfl, rfl, rfl, hbel⟩ := hrel
    have hsb := sh_bd2 k v h0 h1
    by_cases hlt : k < c
    · have hz1 : (strOfNums [sh k v % 256]).size ≤ 1 := by rw [strOfNums_size]; simp
      have hz2 : (strOfNums (be k v)).size ≤ 8 := by rw [strOfNums_size, be_length]; omega
      go_wp2
      go_roundw
      case rel => exact ⟨k + 1, by omega, by go_num, by rw [be_succ, ← strOfNums_append]; rfl, rfl, hbel.alloc hbel.size _⟩
      case measure => simp [intOf]; omega
    · have hkn : k = c := by omega
      subst hkn
      go_wp2
      go_ret
      exact ⟨rfl, hbel⟩
theorem part_s (n : Int) (w : World) (h1 : 1 ≤ n) (h2 : n ≤ 8) : Calls Tryz.prog 192 #[.int .i64 n] w fun e w' => e = .returned (.int .i64 (64 - n - 8)) ∧ w' = w := by
  go_enter Tryz.func192, Tryz.ntmps192
  go_wp2
  go_ret
  exact ⟨rfl, rfl⟩
theorem part_i (n : Int) (w : World) (h1 : 1 ≤ n) (h2 : n ≤ 8) : Calls Tryz.prog 187 #[.int .i64 n] w fun e w' => e = .returned (.int .i64 (64 - n - 8)) ∧ w' = w := by
  go_enter Tryz.func187, Tryz.ntmps187
  go_wp2
  go_ret
  exact ⟨rfl, rfl⟩
set_option maxHeartbeats 16000000 in
theorem ok_i (k l m : Int) (p : ByteArray) (n : Int) (w : World) (hp : p.size ≤ 1048576) :
    Calls Tryz.prog 244 #[pageV k l m p, .int .i64 n] w fun e w' => e = .returned (.bool (pageOk k l m p n)) ∧ Below w.heap.size w w' := by
  by_cases hn : 1 ≤ n ∧ n ≤ 8
  · obtain ⟨hn1, hn2⟩ := hn
    go_enter Tryz.func244, Tryz.ntmps244
    go_wp2
    all_goals first
      | (go_ret; refine ⟨ret_bool ?_, (Below.refl _ _).alloc (Nat.le_refl _) _⟩; unfold pageOk; symm; apply decide_eq_false; intro h; omega)
      | (go_ret; refine ⟨ret_bool ?_, (Below.refl _ _).alloc (Nat.le_refl _) _⟩; have hk3 : (k == 3) = true := by assumption
         rw [isEmpty_size]; unfold pageOk; simp at hk3; apply decide_eq_decide.2; constructor <;> intro h <;> omega)
      | (go_quiet ((go_at_call 187; exact Calls.quiet_of_same (part_i _ _ hn1 hn2))); go_wp2; go_ret; refine ⟨ret_bool ?_, below_drewN ((Below.refl _ _).alloc (Nat.le_refl _) _) _⟩; have hk3 : (k == 3) = false := by assumption
         unfold pageOk; simp at hk3; apply decide_eq_decide.2; constructor <;> intro h <;> omega)
  · have hd : decide (1 ≤ n ∧ n ≤ 8) = false := by simpa using hn
    go_enter Tryz.func244, Tryz.ntmps244
    go_wp2_with (go_at_call 60; refine (width_i _ _).mono ?_; rw [hd]; rintro e w' ⟨rfl, rfl⟩)
    go_ret
    refine ⟨ret_bool ?_, (Below.refl _ _).alloc (Nat.le_refl _) _⟩
    unfold pageOk; symm; apply decide_eq_false; intro h; omega
set_option maxHeartbeats 16000000 in
theorem ok_s (k l m : Int) (p : ByteArray) (n : Int) (w : World) (hp : p.size ≤ 1048576) :
    Calls Tryz.prog 143 #[pageV k l m p, .int .i64 n] w fun e w' => e = .returned (.bool (pageOk k l m p n)) ∧ Below w.heap.size w w' := by
  by_cases hn : 1 ≤ n ∧ n ≤ 8
  · obtain ⟨hn1, hn2⟩ := hn
    by_cases h1 : 1 ≤ k ∧ k ≤ 4 ∧ 1 ≤ l ∧ l ≤ 60000 ∧ 1 ≤ m ∧ m ≤ 1000000000
    · obtain ⟨a1, a2, a3, a4, a5, a6⟩ := h1
      by_cases hz : (p.size : Int) ≤ 64 - n - 8
      · by_cases hk : k = 3
        · have hk' : (k != 3) = false := by simp [hk]
          have HK : Hid (k = 3) := hk
          clear hk
          go_enter Tryz.func143, Tryz.ntmps143
          go_wp2
          go_quiet ((go_at_call 192; exact Calls.quiet_of_same (part_s _ _ hn1 hn2)))
          go_wp2
          go_ret
          refine ⟨ret_bool ?_, below_drewN ((Below.refl _ _).alloc (Nat.le_refl _) _) _⟩
          rw [isEmpty_size]; unfold pageOk; have hk := HK.out; apply decide_eq_decide.2; constructor <;> intro h <;> omega
        · have hk' : (k != 3) = true := by simp [hk]
          go_enter Tryz.func143, Tryz.ntmps143
          go_wp2
          go_quiet ((go_at_call 192; exact Calls.quiet_of_same (part_s _ _ hn1 hn2)))
          go_wp2
          go_ret
          refine ⟨ret_bool ?_, below_drewN ((Below.refl _ _).alloc (Nat.le_refl _) _) _⟩
          unfold pageOk; symm; apply decide_eq_true; omega
      · have hz' : decide ((p.size : Int) ≤ 64 - n - 8) = false := by simpa using hz
        go_enter Tryz.func143, Tryz.ntmps143
        go_wp2
        go_quiet ((go_at_call 192; exact Calls.quiet_of_same (part_s _ _ hn1 hn2)))
        go_wp2
        go_ret
        refine ⟨ret_bool ?_, below_drewN ((Below.refl _ _).alloc (Nat.le_refl _) _) _⟩
        unfold pageOk; symm; apply decide_eq_false; intro h; omega
    · have hf : pageOk k l m p n = false := by unfold pageOk; apply decide_eq_false; intro h; omega
      have HF : Hid (pageOk k l m p n = false) := hf
      clear hf
      go_enter Tryz.func143, Tryz.ntmps143
      go_wp2
      all_goals (go_ret; exact ⟨ret_bool HF.out.symm, (Below.refl _ _).alloc (Nat.le_refl _) _⟩)
  · have hd : decide (1 ≤ n ∧ n ≤ 8) = false := by simpa using hn
    go_enter Tryz.func143, Tryz.ntmps143
    go_wp2_with (go_at_call 49; refine (width_s _ _).mono ?_; rw [hd]; rintro e w' ⟨rfl, rfl⟩)
    go_ret
    refine ⟨ret_bool ?_, (Below.refl _ _).alloc (Nat.le_refl _) _⟩
    unfold pageOk; symm; apply decide_eq_false; intro h; omega
end Go.Proofs.YtnmaknnnmjfhkagGreatDoor

namespace Go.Proofs.YtnmaknnnmjfhkagGreatDoor
open Go.RowKit
set_option maxRecDepth 4000
theorem hide {p : Prop} (h : p) : Hid p := h
def strOf : Value → ByteArray
  | .string s => s
  | _ => ByteArray.empty
theorem head_str (k l m : Int) (p : ByteArray) : strOfNums (be 1 k) ++ strOfNums (be 2 l) ++ strOfNums (be 4 m) ++ strOfNums (be 1 (p.size : Int)) ++ p = strOfNums (pageHead k l m p ++ List.replicate 0 0) := by
  rw [List.replicate_zero, List.append_nil]
  unfold pageHead
  rw [strOfNums_append, strOfNums_append, strOfNums_append, strOfNums_append, strOfNums_nums]
theorem zero_str (xs : List Int) (j : Nat) : strOfNums (xs ++ List.replicate j 0) ++ ⟨#[0]⟩ = strOfNums (xs ++ List.replicate (j + 1) 0) := by
  rw [List.replicate_succ', ← List.append_assoc, strOfNums_append _ [0]]
  rfl
theorem num_s' (v : Int) (c : Nat) (ci : Int) (hci : ci = (c : Int)) (w : World) (h0 : 0 ≤ v) (h1 : v ≤ 9223372036854775807) (hc : c ≤ 8) :
    Calls Tryz.prog 144 #[.int .i64 v, .int .i64 ci] w fun e w' => e = .returned (.string (strOfNums (be c v))) ∧ Below w.heap.size w w' := by
  subst hci; exact num_s v c w h0 h1 hc
theorem keep4 {W : World} {v0 v1 v2 v3 : Value} {w w' : World} (hb : Below w.heap.size w w')
    (h : W.heap.size < w.heap.size ∧ w.cell? ⟨W.heap.size, 0, none⟩ = some v0 ∧ w.cell? ⟨W.heap.size, 1, none⟩ = some v1 ∧ w.cell? ⟨W.heap.size, 2, none⟩ = some v2 ∧ w.cell? ⟨W.heap.size, 3, none⟩ = some v3 ∧ Below W.heap.size W w) :
    W.heap.size < w'.heap.size ∧ w'.cell? ⟨W.heap.size, 0, none⟩ = some v0 ∧ w'.cell? ⟨W.heap.size, 1, none⟩ = some v1 ∧ w'.cell? ⟨W.heap.size, 2, none⟩ = some v2 ∧ w'.cell? ⟨W.heap.size, 3, none⟩ = some v3 ∧ Below W.heap.size W w' :=
  ⟨Nat.lt_of_lt_of_le h.1 hb.size, (hb.cell (p := ⟨_, 0, none⟩) h.1).trans h.2.1, (hb.cell (p := ⟨_, 1, none⟩) h.1).trans h.2.2.1, (hb.cell (p := ⟨_, 2, none⟩) h.1).trans h.2.2.2.1, (hb.cell (p := ⟨_, 3, none⟩) h.1).trans h.2.2.2.2.1,
    h.2.2.2.2.2.trans (hb.mono (Nat.le_of_lt h.1))⟩
set_option maxHeartbeats 16000000 in
theorem form_s (k l m : Int) (p : ByteArray) (n : Nat) (w : World) (hok : pageOk k l m p n = true) :
    Calls Tryz.prog 55 #[pageV k l m p, .int .i64 (n : Int)] w fun e w' => e = .returned (.string (pageForm k l m p n)) ∧ Below w.heap.size w w' := by
  have hok' := of_decide_eq_true (by unfold pageOk at hok; exact hok)
  obtain ⟨hn1, hn2, hk1, hk2, hl1, hl2, hm1, hm2, hp, _⟩ := hok'
  have z1 : (strOfNums (be 1 k)).size = 1 := by rw [strOfNums_size, be_length]
  have z2 : (strOfNums (be 2 l)).size = 2 := by rw [strOfNums_size, be_length]
  have z3 : (strOfNums (be 4 m)).size = 4 := by rw [strOfNums_size, be_length]
  have z4 : (strOfNums (be 1 (p.size : Int))).size = 1 := by rw [strOfNums_size, be_length]
  have z5 : ¬ (9223372036854775807 < 8 + p.size) := by omega
  go_enter Tryz.func55, Tryz.ntmps55
  go_wp2_with (go_at_call 143; refine (ok_s k l m p n _ (by omega)).mono ?_; rw [hok]; rintro e w1 ⟨rfl, hb1⟩)
  have hS : w.heap.size < w1.heap.size ∧ w1.cell? ⟨w.heap.size, 0, none⟩ = some (.int .i64 k) ∧ w1.cell? ⟨w.heap.size, 1, none⟩ = some (.int .i64 l) ∧ w1.cell? ⟨w.heap.size, 2, none⟩ = some (.int .i64 m) ∧ w1.cell? ⟨w.heap.size, 3, none⟩ = some (.string p) ∧ Below w.heap.size w w1 :=
    keep4 (v0 := .int .i64 k) (v1 := .int .i64 l) (v2 := .int .i64 m) (v3 := .string p) hb1 ⟨by simp, by simp, by simp, by simp, by simp, (Below.refl _ _).alloc (Nat.le_refl _) _⟩
  have HS := hide hS
  clear hS hb1
  go_region_held3 (fun w' => w.heap.size < w'.heap.size ∧ w'.cell? ⟨w.heap.size, 0, none⟩ = some (.int .i64 k) ∧ w'.cell? ⟨w.heap.size, 1, none⟩ = some (.int .i64 l) ∧ w'.cell? ⟨w.heap.size, 2, none⟩ = some (.int .i64 m) ∧ w'.cell? ⟨w.heap.size, 3, none⟩ = some (.string p) ∧ Below w.heap.size w w')
    (first | assumption | exact keep4 (below_drewN (Below.refl _ _) 1) HS.out | exact keep4 (by assumption) (by assumption))
    (first | (go_at_call_of 144 k; refine (num_s' k 1 _ rfl _ (by omega) (by omega) (by omega)).mono ?_; rintro e w2 ⟨rfl, hb2⟩) | (go_at_call_of 144 l; refine (num_s' l 2 _ rfl _ (by omega) (by omega) (by omega)).mono ?_; rintro e w3 ⟨rfl, hb3⟩) | (go_at_call_of 144 m; refine (num_s' m 4 _ rfl _ (by omega) (by omega) (by omega)).mono ?_; rintro e w4 ⟨rfl, hb4⟩) | (go_at_call_of 144 (p.size : Int); refine (num_s' (p.size : Int) 1 _ rfl _ (by omega) (by omega) (by omega)).mono ?_; rintro e w5 ⟨rfl, hb5⟩))
  clear HS
  rename_i hSl
  have hbl := hSl.2.2.2.2.2
  clear hSl
  go_wp2
  go_loop [5] (fun b => ∃ j : Nat, j ≤ 56 - n - p.size ∧ b = .string (strOfNums (pageHead k l m p ++ List.replicate j 0))) (fun b => 64 - (strOf b).size)
  case atStart => exact ⟨0, Nat.zero_le _, by rw [head_str]⟩
  case round =>
    obtain ⟨j, hj, rfl⟩ := hrel
    have hsz : (strOfNums (pageHead k l m p ++ List.replicate j 0)).size = 8 + p.size + j := by rw [strOfNums_size, List.length_append, pageHead_length, List.length_replicate]
    by_cases hlt : j < 56 - n - p.size
    · go_wp2
      go_round
      case rel => exact ⟨j + 1, by omega, by rw [zero_str]⟩
      case measure =>
        rw [zero_str]
        simp only [strOf, strOfNums_size, List.length_append, pageHead_length, List.length_replicate]
        omega
    · have hje : j = 56 - n - p.size := by omega
      subst hje
      have hz6 : (sumN (strOfNums (pageHead k l m p ++ List.replicate (56 - n - p.size) 0)) n).size = n := sumN_size _ _
      have hz7 : ¬ (9223372036854775807 < n + (8 + p.size + (56 - n - p.size))) := by omega
      go_wp2_with (go_at_call 145; refine (sum_s _ _ n (by rw [hsz]; omega) (by omega) (by omega)).mono ?_; rintro e w6 ⟨rfl, hb6⟩)
      go_ret
      exact ⟨rfl, hbl.trans (hb6.mono hbl.size)⟩
theorem form_s_no (k l m : Int) (p : ByteArray) (n : Int) (w : World) (hp : p.size ≤ 1048576) (hok : pageOk k l m p n = false) :
    Calls Tryz.prog 55 #[pageV k l m p, .int .i64 n] w fun e w' => e = .returned (.string ByteArray.empty) ∧ Below w.heap.size w w' := by
  go_enter Tryz.func55, Tryz.ntmps55
  go_wp2_with (go_at_call 143; refine (ok_s k l m p n _ hp).mono ?_; rw [hok]; rintro e w1 ⟨rfl, hb1⟩)
  go_ret
  exact ⟨rfl, ((Below.refl _ _).alloc (Nat.le_refl _) _).trans (hb1.mono (by simp))⟩
end Go.Proofs.YtnmaknnnmjfhkagGreatDoor

namespace Go.Proofs.YtnmaknnnmjfhkagGreatDoor
open Go.RowKit
set_option linter.unusedVariables false
theorem grown_trans {a b c : World} {r : Option Nat} (h : a.grownBy b r) (k : b.grownBy c r) : a.grownBy c r :=
  ⟨k.os.trans h.os, k.tape.trans h.tape, k.output.trans h.output, Nat.le_trans h.size k.size, fun i hi hr => (k.block i (Nat.lt_of_lt_of_le hi h.size) hr).trans (h.block i hi hr)⟩
theorem grown_of_below {a b : World} (r : Option Nat) (h : Below a.heap.size a b) : a.grownBy b r := ⟨h.os, h.tape, h.output, h.size, fun i hi _ => h.block i hi⟩
theorem grown_refl (a : World) (r : Option Nat) : a.grownBy a r := ⟨rfl, rfl, rfl, Nat.le_refl _, fun _ _ _ => rfl⟩
theorem grown_set {a b : World} {g : Nat} (h : a.grownBy b (some g)) (i : Nat) (v : Value) : a.grownBy (b.setCell ⟨g, i, none⟩ v) (some g) :=
  grown_trans h ⟨rfl, rfl, rfl, by simp [World.setCell], fun j _ hj => Below.heap_setCell _ _ _ _ (fun e => hj (by rw [e]))⟩
theorem grown_below {a b : World} {r : Option Nat} {B : Nat} (h : a.grownBy b r) (hB : B ≤ a.heap.size) (hr : ∀ g, r = some g → B ≤ g) : Below B a b :=
  ⟨h.os, h.tape, h.output, h.size, fun k hk => h.block k (by omega) (fun e => by have := hr k e.symm; omega)⟩
theorem Row.grown {w w' : World} {g : Nat} {cs : List Value} {r : Option Nat} (h : Row w g cs) (hg : w.grownBy w' r) (hn : some g ≠ r) : Row w' g cs :=
  ⟨Nat.lt_of_lt_of_le h.lt hg.size, fun i v hv => (World.cell?_of_block (a := ⟨g, i, none⟩) (hg.block g h.lt hn)).trans (h.cell i v hv), fun i hi => (World.frozen?_of_block (a := ⟨g, i, none⟩) (hg.block g h.lt hn)).trans (h.froz i hi)⟩
def OwnS (w : World) (a : Option Addr) (cs : List Value) : Prop := cs = [] ∨ ∃ g, a = some ⟨g, 0, none⟩ ∧ Row w g cs
def blk (a : Option Addr) (n : Nat) : Option Nat := if n = 0 then none else a.map (·.block)
theorem blk_pos (b o : Nat) (n : Nat) (h : n ≠ 0) : blk (some ⟨b, o, none⟩) n = some b := by simp [blk, h]
structure OwnD (w : World) (a : Option Addr) (ss : List ByteArray) (a' : Option Addr) (ws : List (Int × ByteArray)) : Prop where
  s : OwnS w a (ss.map Value.string)
  p : OwnS w a' (wcells ws)
  ne : blk a ss.length = none ∨ blk a' ws.length = none ∨ blk a ss.length ≠ blk a' ws.length
theorem OwnS.below {w w' : World} {a : Option Addr} {cs : List Value} (h : OwnS w a cs) (hb : Below w.heap.size w w') : OwnS w' a cs := by
  rcases h with h | ⟨g, h1, h2⟩
  · exact .inl h
  · exact .inr ⟨g, h1, h2.below hb⟩
theorem OwnS.grown {w w' : World} {a : Option Addr} {cs : List Value} {r : Option Nat} (h : OwnS w a cs) (hg : w.grownBy w' r) (hn : ∀ g, a = some ⟨g, 0, none⟩ → cs ≠ [] → some g ≠ r) : OwnS w' a cs := by
  by_cases hc : cs = []
  · exact .inl hc
  · obtain ⟨g, h1, h2⟩ := h.resolve_left hc
    exact .inr ⟨g, h1, h2.grown hg (hn g h1 hc)⟩
theorem OwnS.lt {w : World} {a : Option Addr} {cs : List Value} (h : OwnS w a cs) (n : Nat) (hn : n ≠ 0 → cs ≠ []) : ∀ g, blk a n = some g → g < w.heap.size := fun g hg => by
  by_cases h0 : n = 0
  · subst h0; cases hg
  · obtain ⟨g', rfl, h2⟩ := h.resolve_left (hn h0)
    rw [blk_pos g' 0 n h0] at hg
    cases hg
    exact h2.lt
theorem OwnD.below {w w' : World} {a a' : Option Addr} {ss : List ByteArray} {ws : List (Int × ByteArray)} (h : OwnD w a ss a' ws) (hb : Below w.heap.size w w') : OwnD w' a ss a' ws := ⟨h.s.below hb, h.p.below hb, h.ne⟩
theorem OwnS.strs {w : World} {a : Option Addr} {ss : List ByteArray} (h : OwnS w a (ss.map Value.string)) : Strs w a ss := by
  rcases h with h | ⟨g, rfl, h2⟩
  · exact .inl (by simpa using h)
  · exact h2.strs
theorem OwnS.wrs {w : World} {a : Option Addr} {ws : List (Int × ByteArray)} (h : OwnS w a (wcells ws)) : Wrs w a ws := by
  rcases h with h | ⟨g, rfl, h2⟩
  · exact .inl (by have := congrArg List.length h; rw [wcells_length, List.length_nil] at this; exact List.eq_nil_of_length_eq_zero (by omega))
  · exact h2.wrs
theorem strs_ne {ss : List ByteArray} (h : ss.length ≠ 0) : ss.map Value.string ≠ [] := fun e => h (by have := congrArg List.length e; simpa using this)
theorem wcells_ne {ws : List (Int × ByteArray)} (h : ws.length ≠ 0) : wcells ws ≠ [] := fun e => h (by have := congrArg List.length e; rw [wcells_length, List.length_nil] at this; omega)
theorem ne_of_strs {ss : List ByteArray} (h : ss.map Value.string ≠ []) : ss.length ≠ 0 := fun e => h (by rw [List.eq_nil_of_length_eq_zero e]; rfl)
theorem ne_of_wcells {ws : List (Int × ByteArray)} (h : wcells ws ≠ []) : ws.length ≠ 0 := fun e => h (by rw [List.eq_nil_of_length_eq_zero e]; rfl)
end Go.Proofs.YtnmaknnnmjfhkagGreatDoor

namespace Go.Proofs.YtnmaknnnmjfhkagGreatDoor
open Go.RowKit
set_option maxRecDepth 4000
set_option linter.unusedVariables false
def digs (k : Nat) : List Int := if h : k = 0 then [] else digs (k / 10) ++ [48 + ((k % 10 : Nat) : Int)]
termination_by k
decreasing_by omega
theorem digs_zero : digs 0 = [] := by unfold digs; simp
theorem digs_pos (k : Nat) (h : k ≠ 0) : digs k = digs (k / 10) ++ [48 + ((k % 10 : Nat) : Int)] := by
  conv => lhs; unfold digs
  simp [h]
theorem digs_length : ∀ (n k : Nat), k ≤ n → (digs k).length ≤ k
  | 0, k, h => by rw [show k = 0 by omega, digs_zero]; simp
  | n + 1, k, h => by
    by_cases hk : k = 0
    · rw [hk, digs_zero]; simp
    · rw [digs_pos k hk, List.length_append]
      have := digs_length n (k / 10) (by omega)
      simp; omega
def mtext (k : Nat) : ByteArray := ⟨#[109]⟩ ++ strOfNums (digs k)
set_option maxHeartbeats 16000000 in
theorem mark_text (k : Nat) (w : World) (h0 : 0 < k) (h1 : k ≤ 100000000) :
    Calls Tryz.prog 170 #[.int .i64 (k : Int)] w fun e w' => e = .returned (.string (mtext k)) ∧ Below w.heap.size w w' := by
  have hb1 := bytes1
  have h0' : (0 : Int) < (k : Int) := by omega
  have HD0 := hid (digs_length k k (Nat.le_refl _))
  go_enter Tryz.func170, Tryz.ntmps170
  go_wp2
  go_loopw [0, 3] (fun x o wr => ∃ (j : Nat) (r : List Int), j ≤ 100000000 ∧ r.length ≤ 100000000 ∧ x = .int .i64 (j : Int) ∧ o = .string (strOfNums r) ∧ Hid (digs k = digs j ++ r) ∧ Below w.heap.size w wr) (fun x _ _ => (intOf x).toNat)
  case atStart => exact ⟨k, [], h1, by simp, rfl, rfl, hid (by simp), Below.refl _ _⟩
  case round =>
    obtain ⟨j, r, hj, hr, rfl, rfl, HJ, hbel⟩ := hrel
    by_cases hp : 0 < j
    · have hp' : (0 : Int) < (j : Int) := by omega
      have hz1 : (strOfNums [48 + (j : Int) % 10]).size ≤ 1 := by rw [strOfNums_size]; simp
      have hz2 : (strOfNums r).size ≤ 100000000 := by rw [strOfNums_size]; exact hr
      have HN : Hid (digs k = digs (j / 10) ++ ((48 + (j : Int) % 10) :: r)) := by
        show _ = _
        rw [HJ.out, digs_pos j (by omega)]
        simp
      have HLN : Hid (((48 + (j : Int) % 10) :: r).length ≤ 100000000) := by
        have h1 := congrArg List.length HN.out
        have h2 := HD0.out
        rw [List.length_append] at h1
        show _ ≤ _
        omega
      go_wp2
      go_roundw
      case rel => exact ⟨j / 10, _, by omega, HLN.out, by go_num, by rw [← strOfNums_append]; rfl, HN, hbel.alloc hbel.size _⟩
      case measure => simp [intOf]; omega
    · have hz2 : (strOfNums r).size ≤ 100000000 := by rw [strOfNums_size]; exact hr
      have hj0 : Hid (j = 0) := by show _ = _; omega
      have hnp : ¬ ((0 : Int) < (j : Int)) := by omega
      go_wp2
      go_ret
      refine ⟨ret_str ?_, hbel⟩
      unfold mtext
      rw [HJ.out, hj0.out, digs_zero]
      rfl
theorem mark_text' (ki : Int) (k : Nat) (hki : ki = (k : Int)) (w : World) (h0 : 0 < k) (h1 : k ≤ 100000000) :
    Calls Tryz.prog 170 #[.int .i64 ki] w fun e w' => e = .returned (.string (mtext k)) ∧ Below w.heap.size w w' := by
  subst hki; exact mark_text k w h0 h1
end Go.Proofs.YtnmaknnnmjfhkagGreatDoor

namespace Go.Proofs.YtnmaknnnmjfhkagGreatDoor
open Go.RowKit
set_option maxRecDepth 4000
set_option linter.unusedVariables false
set_option maxHeartbeats 16000000 in
theorem eq_pr (s0 : ByteArray) (s1 : ByteArray) (w : World) :
    Calls Tryz.prog 264 #[.agg #[.string s0, .string s1], .agg #[.string s0, .string s1]] w fun e w' => e = .returned (.bool true) ∧ Below w.heap.size w w' := by
  go_enter Tryz.func264, Tryz.ntmps264
  go_wp2
  go_ret
  exact ⟨rfl, ((Below.refl _ _).alloc (Nat.le_refl _) _).alloc (by simp) _⟩
set_option maxHeartbeats 16000000 in
theorem eq_prs (a b : Option Addr) (rs : List (ByteArray × ByteArray)) (c c' : Nat) (w : World) (h : Prs w a rs) (h' : Prs w b rs) (hl : rs.length ≤ 1048576) :
    Calls Tryz.prog 229 #[.slice a rs.length c, .slice b rs.length c'] w fun e w' => e = .returned (.bool true) ∧ Below w.heap.size w w' := by
  go_enter Tryz.func229, Tryz.ntmps229
  go_wp2
  go_loopw [5] (fun i wr => ∃ k : Nat, k ≤ rs.length ∧ i = .int .i64 k ∧ Below w.heap.size w wr) (fun i _ => rs.length - (intOf i).toNat)
  case atStart => exact ⟨0, Nat.zero_le _, rfl, Below.refl _ _⟩
  case round =>
    obtain ⟨k, hk, rfl, hbel⟩ := hrel
    by_cases hlt : k < rs.length
    · obtain ⟨b1, o1, s0, s1, rfl, hc0, hc1, HS⟩ := (h.below hbel).at hlt
      obtain ⟨b2, o2, s0x, s1x, rfl, hd0, hd1, HS'⟩ := (h'.below hbel).at hlt
      obtain ⟨rfl, rfl⟩ : s0 = s0x ∧ s1 = s1x := by have := HS.out.trans HS'.out.symm; simpa using this
      have hk1 : (k : Int) < (rs.length : Int) := by omega
      have hk0 : (0 : Int) ≤ (k : Int) := by omega
      have lt1 : b1 < wr.heap.size := by have := World.block_lt_of_cell? wr _ hc0; simpa using this
      have lt2 : b2 < wr.heap.size := by have := World.block_lt_of_cell? wr _ hd0; simpa using this
      have HQ : Hid (wr.cell? ⟨b1, o1 + k * 2, none⟩ = some (.string s0) ∧ wr.cell? ⟨b1, o1 + k * 2 + 1, none⟩ = some (.string s1) ∧ wr.cell? ⟨b2, o2 + k * 2, none⟩ = some (.string s0) ∧ wr.cell? ⟨b2, o2 + k * 2 + 1, none⟩ = some (.string s1)) := ⟨hc0, hc1, hd0, hd1⟩
      clear HS HS' hc0 hc1 hd0 hd1
      go_wp2_with fail
      go_region_held3 (fun w' => w'.cell? ⟨b1, o1 + k * 2, none⟩ = some (.string s0) ∧ w'.cell? ⟨b1, o1 + k * 2 + 1, none⟩ = some (.string s1) ∧ w'.cell? ⟨b2, o2 + k * 2, none⟩ = some (.string s0) ∧ w'.cell? ⟨b2, o2 + k * 2 + 1, none⟩ = some (.string s1))
        (first | assumption | exact HQ.out | exact ⟨(hb2.cell (p := ⟨b1, _, none⟩) lt1).trans HQ.out.1, (hb2.cell (p := ⟨b1, _, none⟩) lt1).trans HQ.out.2.1, (hb2.cell (p := ⟨b2, _, none⟩) lt2).trans HQ.out.2.2.1, (hb2.cell (p := ⟨b2, _, none⟩) lt2).trans HQ.out.2.2.2⟩)
        (first | (go_at_call 264; refine (eq_pr s0 s1 _).mono ?_; rintro e w2 ⟨rfl, hb2⟩))
      go_wp2
      go_roundw
      case rel => exact ⟨k + 1, by omega, by go_num, hbel.drew.trans (hb2.mono hbel.size)⟩
      case measure => simp [intOf]; omega
    · go_wp2
      go_ret
      exact ⟨rfl, hbel⟩
end Go.Proofs.YtnmaknnnmjfhkagGreatDoor

namespace Go.Proofs.YtnmaknnnmjfhkagGreatDoor
open Go.RowKit
set_option maxRecDepth 4000
set_option linter.unusedVariables false
@[reducible] def stV (a : Option Addr) (n c : Nat) : Value := .agg #[.slice a n c]
set_option maxHeartbeats 16000000 in
theorem eq_state (a b : Option Addr) (rs : List (ByteArray × ByteArray)) (c d : Nat) (w : World) (h1 : Prs w a rs) (h2 : Prs w b rs) (hl : rs.length ≤ 1048576) :
    Calls Tryz.prog 167 #[stV a rs.length c, stV b rs.length d] w fun e w' => e = .returned (.bool true) ∧ Below w.heap.size w w' := by
  have hb0 : ∀ o1 o2, Below w.heap.size w ((w.alloc o1).alloc o2) := fun o1 o2 => ((Below.refl _ _).alloc (Nat.le_refl _) _).alloc (by simp) _
  go_enter Tryz.func167, Tryz.ntmps167
  go_wp2_with fail
  refine (eq_prs a b rs c d _ (h1.below (hb0 _ _)) (h2.below (hb0 _ _)) hl).mono ?_
  rintro e w1 ⟨rfl, hb1⟩
  have hB1 := (hb0 _ _).trans (hb1.mono (by simp; omega))
  clear hb1
  go_wp2
  go_ret
  exact ⟨rfl, hB1⟩
end Go.Proofs.YtnmaknnnmjfhkagGreatDoor

namespace Go.Proofs.YtnmaknnnmjfhkagGreatDoor
open Go.RowKit
set_option maxRecDepth 4000
set_option linter.unusedVariables false
set_option linter.unusedSimpArgs false
theorem getxp {w : World} {g : Nat} {cs : List Value} (h : Row w g cs) (i : Nat) (hi : i < cs.length) : (∃ u, w.cell? ⟨g, i, none⟩ = some u) ∧ w.frozen? ⟨g, i, none⟩ = false := ⟨⟨_, h.cell i _ (List.getElem?_eq_getElem hi)⟩, h.froz i hi⟩
def prm (m : Nat) : ByteArray × ByteArray := (mtext m, mtext (m + 1))
def prmarks (k n : Nat) : List (ByteArray × ByteArray) := (List.range n).map fun i => prm (k + 2 * i)
theorem prmarks_length (k n : Nat) : (prmarks k n).length = n := by simp [prmarks]
theorem prmarks_succ (k n : Nat) : prmarks k (n + 1) = prmarks k n ++ [prm (k + 2 * n)] := by simp [prmarks, List.range_succ]
def prmixed (k i : Nat) (rs : List (ByteArray × ByteArray)) : List Value := prcells (prmarks k i ++ rs.drop i)
theorem prmixed_length (k i : Nat) (rs : List (ByteArray × ByteArray)) (h : i ≤ rs.length) : (prmixed k i rs).length = rs.length * 2 := by simp [prmixed, prcells_length, prmarks_length]; omega
theorem prmixed_set (k i : Nat) (rs : List (ByteArray × ByteArray)) (h : i < rs.length) : ((prmixed k i rs).set (i * 2) (.string (mtext (k + 2 * i)))).set (i * 2 + 1) (.string (mtext (k + 2 * i + 1))) = prmixed k (i + 1) rs := by
  have el : (prcells (prmarks k i)).length = i * 2 := by rw [prcells_length, prmarks_length]
  unfold prmixed
  rw [prmarks_succ, drop_at rs i (ByteArray.empty, ByteArray.empty) h, prcells_append, prcells_append, prcells_append, List.set_append_right _ _ (by omega), List.set_append_right _ _ (by omega), el]
  simp [prcells, prm]
set_option maxHeartbeats 16000000 in
theorem mark_prs (a : Option Addr) (rs : List (ByteArray × ByteArray)) (c k : Nat) (w : World) (h : OwnS w a (prcells rs)) (hk : 0 < k) (hl : k + 2 * rs.length ≤ 100000000) :
    Calls Tryz.prog 230 #[.slice a rs.length c, .int .i64 (k : Int)] w fun e w' => e = .returned (.int .i64 ((k + 2 * rs.length : Nat) : Int)) ∧ w.grownBy w' (blk a rs.length) ∧ OwnS w' a (prcells (prmarks k rs.length)) := by
  by_cases hss : rs = []
  · skip
    subst hss
    go_enter Tryz.func230, Tryz.ntmps230
    go_wp2
    refine wp_loop_rounds 1 ?_
    rw [rounds_succ]
    go_wp2
    go_ret
    exact ⟨rfl, grown_refl _ _, .inl rfl⟩
  · obtain ⟨g, rfl, hrow⟩ := h.resolve_left (fun e => hss (by have := congrArg List.length e; rw [prcells_length, List.length_nil] at this; exact List.eq_nil_of_length_eq_zero (by omega)))
    rw [blk_pos g 0 rs.length (fun e => hss (List.eq_nil_of_length_eq_zero e))]
    have hr0 : Row w g (prmixed k 0 rs) := by simpa [prmixed, prmarks] using hrow
    clear hrow hss
    go_enter Tryz.func230, Tryz.ntmps230
    go_wp2
    go_loopw [1, 5] (fun x i wr => ∃ j m : Nat, j ≤ rs.length ∧ i = .int .i64 (j : Int) ∧ x = .int .i64 (m : Int) ∧ Hid (m = k + 2 * j) ∧ Row wr g (prmixed k j rs) ∧ w.grownBy wr (some g)) (fun _ i _ => rs.length - (intOf i).toNat)
    case atStart => exact ⟨0, k, Nat.zero_le _, rfl, rfl, hid rfl, hr0, grown_refl _ _⟩
    case round =>
      clear hr0
      obtain ⟨j, m, hj, rfl, rfl, HM, hrow, hgr⟩ := hrel
      have HR := hid hrow
      have HG := hid hgr
      clear hgr hrow
      by_cases hlt : j < rs.length
      · have HL := hid (prmixed_length k j rs hj)
        have hmj : (m : Int) ≤ 99999998 := by have := HM.out; omega
        have hmj0 : (0 : Int) < (m : Int) := by have := HM.out; omega
        go_wp2_with (first | (have _g := HR2; go_at_call 170; refine (mark_text' ((m : Int) + 1) (m + 1) (by omega) _ (by omega) (by omega)).mono ?_; rintro e w3 ⟨rfl, hb3⟩; have HR3 := hid ((HR2.out.set (j * 2) (by rw [HL.out]; omega) (.string (mtext m))).below hb3); have hu3 := getxp HR3.out (j * 2 + 1) (by rw [List.length_set, HL.out]; omega); obtain ⟨⟨u3, hu3⟩, hf3⟩ := hu3; have HG3 := hid (grown_trans (grown_set HG2.out _ _) (grown_of_below _ hb3)); clear hb3) | (go_at_call 170; refine (mark_text m _ (by omega) (by omega)).mono ?_; rintro e w2 ⟨rfl, hb2⟩; have HR2 := hid (HR.out.below hb2); have hu2 := getxp HR2.out (j * 2) (by rw [HL.out]; omega); obtain ⟨⟨u2, hu2⟩, hf2⟩ := hu2; have HG2 := hid (grown_trans HG.out (grown_of_below _ hb2)); clear hb2))
        have hset : ((prmixed k j rs).set (j * 2) (.string (mtext m))).set (j * 2 + 1) (.string (mtext (m + 1))) = prmixed k (j + 1) rs := by
          rw [HM.out]; exact prmixed_set k j rs hlt
        refine ⟨⟨j + 1, m + 2, by omega, by go_num, by go_num, by show _ = _; have := HM.out; omega, ?_, grown_set HG3.out _ _⟩, by simp [intOf]; omega⟩
        rw [← hset]
        exact HR3.out.set (j * 2 + 1) (by rw [List.length_set, HL.out]; omega) _
      · have hjl : Hid (j = rs.length) := by show _ = _; omega
        go_wp2
        go_ret
        refine ⟨ret_int (by rw [HM.out, hjl.out]), HG.out, .inr ⟨g, rfl, ?_⟩⟩
        have := HR.out
        rw [hjl.out] at this
        simpa [prmixed] using this
set_option maxHeartbeats 16000000 in
theorem mark_state (a : Option Addr) (rs : List (ByteArray × ByteArray)) (c k : Nat) (w : World) (h : OwnS w a (prcells rs)) (hk : 0 < k) (hl : k + 2 * rs.length ≤ 100000000) :
    Calls Tryz.prog 171 #[stV a rs.length c, .int .i64 (k : Int)] w fun e w' => e = .returned (.int .i64 ((k + 2 * rs.length : Nat) : Int)) ∧ w.grownBy w' (blk a rs.length) ∧ OwnS w' a (prcells (prmarks k rs.length)) := by
  have hb0 : ∀ o, Below w.heap.size w (w.alloc o) := fun o => (Below.refl _ _).alloc (Nat.le_refl _) _
  go_enter Tryz.func171, Tryz.ntmps171
  go_wp2_with fail
  refine (mark_prs a rs c k _ (h.below (hb0 _)) hk hl).mono ?_
  rintro e w1 ⟨rfl, hg1, ho1⟩
  have HG := hid (grown_trans (grown_of_below (blk a rs.length) (hb0 _)) hg1)
  have HO := hid ho1
  clear hg1 ho1
  go_wp2
  go_ret
  exact ⟨rfl, HG.out, HO.out⟩
end Go.Proofs.YtnmaknnnmjfhkagGreatDoor
