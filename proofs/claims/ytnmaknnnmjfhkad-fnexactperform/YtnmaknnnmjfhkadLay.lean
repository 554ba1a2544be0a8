import Derived.Test.YtnmaknnnmjfhkadDrs
import Derived.Laws.IdiomCopy
namespace Go.Proofs.Ytnmaknnnmjfhkad
open Go.RowKit
set_option linter.unusedVariables false

/-- 'copy(dst, src)' of two slices as one step of a region that draws its order. -/
theorem step_copy_cells {P : Program} {ops : Array Oper} {o : Oper} {a : Act} {w : World} {K : Act → World → Prop} {Q : Exit → Act → World → Prop} {E : Prop}
    (hg : o.guard = none) (d x : Operand) (dT sT : TypeId) (hop : o.op = Op.call { callee := Callee.builtin Builtin.copy, args := #[d, x], argTypes := #[dT, sT] })
    (elem : TypeId) (hu : P.underlying dT = some (.slice elem)) (hz : (P.info? elem).map (·.size) = some 1)
    (b off dLen dCap : Nat) (hd : a.eval d = .slice (some ⟨b, off, none⟩) dLen dCap) (s : Addr) (sLen sCap : Nat) (hx : a.eval x = .slice (some s) sLen sCap) (cs : List Value) (hn : cs.length = Nat.min sLen dLen)
    (hsrc : ∀ j v, cs[j]? = some v → w.cell? (s.add j) = some v) (hc : ∀ j, j < cs.length → (w.cell? ⟨b, off + j, none⟩).isSome = true) (hf : ∀ j, j < cs.length → w.frozen? ⟨b, off + j, none⟩ = false) (h1 : ∀ v ∈ cs, v.oneCell' = true)
    (hK : K (a.put o.dst (goInt cs.length)) (w.setCells b off cs)) :
    if Region.wanted o (yielded ops a.tmps) = true then Oper.wp P o a w K Q else E := by
  have hw : Region.wanted o (yielded ops a.tmps) = true := by simp [Region.wanted, hg]
  rw [if_pos hw]
  have hrun := run_copy_cells (P := P) w dT sT o.type elem b off dLen dCap s sLen sCap cs hu hz hn hsrc hc hf h1
  unfold Oper.wp
  simp [execOp, hop, resolve, invoke, builtin, hd, hx, hrun, Result.andThen]
  exact hK

/-- The first k bytes of one sector, the others of another. -/
def torn (k : Nat) (x y : List Int) : List Int := x.take k ++ y.drop k
theorem torn_length (k : Nat) (x y : List Int) (hk : k ≤ 64) (hx : x.length = 64) (hy : y.length = 64) : (torn k x y).length = 64 := by simp [torn]; omega
/-- The first bytes of a sector are written over. -/
theorem PR.part {w : World} {g : Nat} {ps : List (List Int)} (h : PR w g ps) (i : Nat) (hi : i < ps.length) (k : Nat) (hk : k ≤ 64) (x : List Int) (hx : x.length = 64) : PR (w.setCells g (i * 64) ((x.take k).map (Value.int .u8))) g (ps.set i (torn k x (ps.getD i []))) := by
  have hl : ((x.take k).map (Value.int .u8)).length = k := by simp; omega
  have hy := getD_len h.len hi
  refine ⟨by rw [setCells_size]; exact h.lt, fun p hp => ?_, fun q hq j hj => ?_, fun q hq => ?_⟩
  · rcases List.mem_or_eq_of_mem_set hp with h1 | h1
    · exact h.len p h1
    · rw [h1]; exact torn_length k x _ hk hx hy
  · rw [List.length_set] at hq
    by_cases he : q = i
    · subst he
      have e1 : (ps.set q (torn k x (ps.getD q []))).getD q [] = torn k x (ps.getD q []) := by rw [List.getD_eq_getElem?_getD, List.getElem?_set_self hi]; rfl
      rw [e1]
      by_cases hjk : j < k
      · rw [World.cell?_setCells_in g _ (q * 64) w (fun j hj => by rw [hl] at hj; exact (h.there hi j (by omega)).1) j (by omega)]
        unfold torn
        rw [List.getD_eq_getElem?_getD, List.getElem?_append_left (by simp; omega), List.getElem?_take_of_lt hjk, List.getElem?_eq_getElem (by omega)]
        simp
      · rw [World.cell?_setCells_out g _ (q * 64) w ⟨g, q * 64 + j, none⟩ (fun _ _ => by rw [hl]; show q * 64 + j < q * 64 ∨ q * 64 + k ≤ q * 64 + j; omega), h.cell q hq j hj]
        unfold torn
        rw [List.getD_eq_getElem?_getD (l := x.take k ++ _), List.getElem?_append_right (by simp; omega), List.getElem?_drop]
        rw [show k + (j - (x.take k).length) = j by simp; omega, List.getD_eq_getElem?_getD]
    · have e1 : (ps.set i (torn k x (ps.getD i []))).getD q [] = ps.getD q [] := by rw [List.getD_eq_getElem?_getD, List.getElem?_set_ne (fun e => he e.symm), List.getD_eq_getElem?_getD]
      rw [e1, World.cell?_setCells_out g _ (i * 64) w ⟨g, q * 64 + j, none⟩ (fun _ _ => by rw [hl]; show q * 64 + j < i * 64 ∨ i * 64 + k ≤ q * 64 + j; omega)]
      exact h.cell q hq j hj
  · rw [World.frozen?_setCells]; exact h.froz q (by simpa using hq)

set_option maxRecDepth 100000 in
set_option maxHeartbeats 1000000 in
theorem lay_i (X g n c : Nat) (v : Value) (ps : List (List Int)) (m : Nat) (x : List Int) (k : Nat) (w : World) (hX : w.cell? ⟨X, 0, none⟩ = some (.slice (some ⟨g, 0, none⟩) n c)) (hXg : X ≠ g) (hp : PR w g ps) (hn : ps.length = n) (hm : m < n) (hn2 : n ≤ 200) (hnc : n ≤ c) (hx : x.length = 64) (hk : k ≤ 64) :
    Calls Try.prog 84 #[.pointer (some ⟨X, 0, none⟩), .agg (Value.int .i64 (m : Int) :: x.map (Value.int .u8)).toArray, .int .i64 (k : Int)] w fun e w' => e = .returned (.tuple #[]) ∧ PR w' g (ps.set m (torn k x (ps.getD m []))) ∧ w.grownBy w' (some g) := by
  have hlX : X < w.heap.size := by have := World.block_lt_of_cell? w _ hX; simpa using this
  have hlg := hp.lt
  go_enter Try.func84, Try.ntmps84
  go_wp2_with fail
  have hrow := row_new w (Value.int .i64 (m : Int) :: x.map (Value.int .u8)).toArray 142
  have hbn := below_new w (.cells (Value.int .i64 (m : Int) :: x.map (Value.int .u8)).toArray 142)
  obtain ⟨wy, HWY⟩ : ∃ wy, wy = w.alloc (.cells (Value.int .i64 (m : Int) :: x.map (Value.int .u8)).toArray 142) := ⟨_, rfl⟩
  rw [← HWY] at hrow hbn ⊢
  clear HWY
  have HPY := hid (hp.below hbn)
  have HQ := hid (And.intro ((hbn.cell (p := ⟨X, 0, none⟩) hlX).trans hX) (hrow.cell 0 (.int .i64 (m : Int)) rfl))
  have HBN := hid hbn
  have HSRC : Hid (∀ j v, ((x.take k).map (Value.int .u8))[j]? = some v → wy.drew.cell? ((⟨w.heap.size, 1, none⟩ : Addr).add j) = some v) := fun j v hv => by
    obtain ⟨hj, e⟩ := List.getElem?_eq_some_iff.1 hv
    have hj' : j < k := by simp at hj; omega
    have ha : (⟨w.heap.size, 1, none⟩ : Addr).add j = ⟨w.heap.size, j + 1, none⟩ := by unfold Addr.add; split <;> simp_all <;> omega
    rw [ha]
    refine hrow.cell (j + 1) v ?_
    rw [← hv]
    simp [List.getElem?_take_of_lt hj']
  have HL : Hid (((x.take k).map (Value.int .u8)).length = Nat.min k k) := by show _ = _; simp [Nat.min_def]; omega
  have hkl : ((x.take k).map (Value.int .u8)).length = k := by simp; omega
  have HT := hid (HPY.out.there (k := m) (by omega))
  have hs1 := fun wx => slice_arr_to (P := Try.prog) (t := 140) Try.underlying140 (fun _ => by kernel_rfl) g (m * 64) k (by omega) hk .i64 (k : Int) rfl wx
  have hs2 := fun wx => slice_arr_to (P := Try.prog) (t := 140) Try.underlying140 (fun _ => by kernel_rfl) w.heap.size 1 k (by omega) hk .i64 (k : Int) rfl wx
  have hm0 : (0 : Int) ≤ (m : Int) := by omega
  have hm1 : (m : Int) < (n : Int) := by omega
  have hgX : X ≠ g := hXg
  have hgw : w.heap.size ≠ g := by omega
  clear hX hp hrow hbn hXg
  go_region_held3 (fun w' => w'.cell? ⟨X, 0, none⟩ = some (.slice (some ⟨g, 0, none⟩) n c) ∧ w'.cell? ⟨w.heap.size, 0, none⟩ = some (.int .i64 (m : Int)))
    (first | assumption | exact HQ.out | exact ⟨(World.cell?_setCells_out _ _ _ _ _ (fun e => absurd e hgX)).trans HQ.out.1, (World.cell?_setCells_out _ _ _ _ _ (fun e => absurd e hgw)).trans HQ.out.2⟩)
    (first | (refine step_copy_cells (by rfl) _ _ _ _ (by rfl) 5 Try.underlying22 (by kernel_rfl) g (m * 64) k 64 (by rfl) ⟨w.heap.size, 1, none⟩ k 64 (by rfl) ((x.take k).map (Value.int .u8)) HL.out HSRC.out (fun j hj => (HT.out j (by omega)).1) (fun j hj => (HT.out j (by omega)).2) (ints_one _) ?_))
  have hfin := (HPY.out.below ((Below.refl _ wy).drew)).part m (by omega) k hk x hx
  have hgr : w.grownBy (wy.drew.setCells g (m * 64) ((x.take k).map (Value.int .u8))) (some g) := by
    have hos := setCells_os g ((x.take k).map (Value.int .u8)) (m * 64) wy.drew
    refine ⟨hos.1.trans HBN.out.os, hos.2.1.trans HBN.out.tape, hos.2.2.trans HBN.out.output, by rw [setCells_size]; exact HBN.out.size, fun i hi hne => ?_⟩
    rw [setCells_other g _ _ _ i (fun e => hne (by rw [e]))]
    exact HBN.out.block i hi
  have HFIN := hid hfin
  have HGR := hid hgr
  clear hfin hgr
  go_wp2
  go_end0
  exact ⟨rfl, HFIN.out, HGR.out⟩
end Go.Proofs.Ytnmaknnnmjfhkad
