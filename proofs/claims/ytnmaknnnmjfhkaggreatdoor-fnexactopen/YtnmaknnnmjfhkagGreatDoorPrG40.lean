import Derived.Shelf.Spec.SlicesInsert
import Derived.Lib.AppendZerosOnto
import Derived.Lib.Overlaps
import Derived.Laws.Externs
import Derived.Laws.CopyRow
import Derived.Laws.CopyOwn
import Derived.Test.YtnmaknnnmjfhkagGreatDoorPrApS
import Derived.Test.YtnmaknnnmjfhkagGreatDoorPrG43
import Derived.Test.YtnmaknnnmjfhkagGreatDoorPrRpL
import Derived.Test.YtnmaknnnmjfhkagGreatDoorPrAs
import Derived.Test.YtnmaknnnmjfhkagGreatDoorPrG47
import Derived.Test.YtnmaknnnmjfhkagGreatDoorPrDrvOf
set_option maxHeartbeats 16000000
set_option maxRecDepth 8000
namespace Go.Proofs.YtnmaknnnmjfhkagGreatDoor
open Go.RowKit Go.Lib
set_option linter.unusedVariables false
set_option linter.unusedSimpArgs false
set_option maxRecDepth 8000
theorem run_copy_k {P : Program} (w : World) (dT sT ty elem : TypeId) (k g o dLen dCap : Nat) (a : Addr) (sLen sCap : Nat) (cur : Array Value) (t : TypeId) (cs : List Value) (n : Nat)
    (hu : P.underlying dT = some (.slice elem)) (hs : (P.info? elem).map (·.size) = some k)
    (hg : w.heap[g]? = some (.cells cur t (0, 0))) (hn : Nat.min sLen dLen = n) (hc : cs.length = n * k)
    (hsrc : ∀ j v, cs[j]? = some v → w.cell? (a.add j) = some v) (hfit : o + cs.length ≤ cur.size) (h1 : ∀ v ∈ cs, v.oneCell' = true) :
    (Builtin.copy_ #[dT, sT] ty #[.slice (some ⟨g, o, none⟩) dLen dCap, .slice (some a) sLen sCap]).run P w =
      .ok (goInt n) (w.setRow g (cur.toList.take o ++ cs ++ cur.toList.drop (o + cs.length)).toArray) := by
  have hl := run_loadCells_list (P := P) w a cs hsrc
  have hst := run_storeCells_at P g o t cs 0 cur w hg (by simpa using hfit) h1
  cases hq : P.info? elem with
  | none => simp [hq] at hs
  | some i =>
    have hi : i.size = k := by simpa [hq] using hs
    simp only [Nat.add_zero] at hst
    rw [hc] at hl
    simp [Builtin.copy_, run_underlying hu, Builtin.lenOf, Builtin.firstCells, sizeOf, typeInfo, hq, hi, hn, hl, hst]
theorem run_append_in {P : Program} (w : World) (t ty e : TypeId) (k g sLen sCap : Nat) (a : Addr) (n c : Nat) (cur : Array Value) (tt : TypeId) (cs : List Value)
    (ht : P.underlying t = some (.slice e)) (hs : (P.info? e).map (·.size) = some k)
    (hg : w.heap[g]? = some (.cells cur tt (0, 0))) (hroom : sLen + n ≤ sCap) (hc : cs.length = n * k)
    (hsrc : ∀ j v, cs[j]? = some v → w.cell? (a.add j) = some v) (hfit : sLen * k + cs.length ≤ cur.size) (h1 : ∀ v ∈ cs, v.oneCell' = true) :
    (Builtin.append_ #[t, t] ty #[.slice (some ⟨g, 0, none⟩) sLen sCap, .slice (some a) n c]).run P w =
      .ok (.slice (some ⟨g, 0, none⟩) (sLen + n) sCap) (w.setRow g (cur.toList.take (sLen * k) ++ cs ++ cur.toList.drop (sLen * k + cs.length)).toArray) := by
  have hl := run_loadCells_list (P := P) w a cs hsrc
  have hst := run_storeCells_at P g (sLen * k) tt cs 0 cur w hg (by simpa using hfit) h1
  have hadd : (⟨g, 0, none⟩ : Addr).add (sLen * k) = ⟨g, sLen * k, none⟩ := by rw [Addr.add_lit]; simp
  cases hq : P.info? e with
  | none => simp [hq] at hs
  | some i =>
    have hi : i.size = k := by simpa [hq] using hs
    simp only [Nat.add_zero] at hst
    rw [hc] at hl
    simp [Builtin.append_, run_underlying ht, Builtin.lenOf, Builtin.firstCells, sizeOf, typeInfo, hq, hi, hl, hst, hroom, hadd]
theorem run_clear_k {P : Program} (w : World) (t ty e : TypeId) (z : Value) (ht : P.underlying t = some (.slice e)) (hv : ∀ w, (zeroValue e).run P w = .ok z w) (g o n c : Nat) (hn : 0 < n) (cur : Array Value) (tt : TypeId) (cs : List Value)
    (hg : w.heap[g]? = some (.cells cur tt (0, 0))) (hcs : (Builtin.zeroCells z.cells n).toList = cs) (hfit : o + cs.length ≤ cur.size) (h1 : ∀ v ∈ cs, v.oneCell' = true) :
    (Builtin.clear_ #[t] ty #[.slice (some ⟨g, o, none⟩) n c]).run P w = .ok (.tuple #[]) (w.setRow g (cur.toList.take o ++ cs ++ cur.toList.drop (o + cs.length)).toArray) := by
  have hst := run_storeCells_at P g o tt cs 0 cur w hg (by simpa using hfit) h1
  simp only [Nat.add_zero] at hst
  obtain ⟨m, rfl⟩ : ∃ m, n = m + 1 := ⟨n - 1, by omega⟩
  simp [Builtin.clear_, run_underlying ht, hv, hcs, hst]
theorem setRow_grown (w : World) (g : Nat) (cs : Array Value) : w.grownBy (w.setRow g cs) (some g) := ⟨rfl, rfl, rfl, by simp [World.setRow], fun k _ hk => setRow_other w g k cs (fun e => hk (by rw [e]))⟩
theorem grown_trans' {w w1 w2 : World} {r : Option Nat} (h : w.grownBy w1 r) (k : w1.grownBy w2 r) : w.grownBy w2 r :=
  ⟨k.os.trans h.os, k.tape.trans h.tape, k.output.trans h.output, Nat.le_trans h.size k.size, fun j hj hne => (k.block j (Nat.lt_of_lt_of_le hj h.size) hne).trans (h.block j hj hne)⟩
theorem cell_of_row {w : World} {g : Nat} {cur : List Value} {t : TypeId} {fr : Nat × Nat} (h : w.heap[g]? = some (.cells cur.toArray t fr)) {j : Nat} {v : Value} (hv : cur[j]? = some v) : w.cell? ⟨g, j, none⟩ = some v := by
  simp [World.cell?, h, hv]
theorem step_append_run {P : Program} {ops : Array Oper} {o : Oper} {a : Act} {w : World} {K : Act → World → Prop} {Q : Exit → Act → World → Prop} {E : Prop}
    (hg : o.guard = none) (d x : Operand) (dT sT : TypeId) (hop : o.op = Op.call { callee := Callee.builtin Builtin.append, args := #[d, x], argTypes := #[dT, sT] })
    (v u : Value) (hd : a.eval d = v) (hx : a.eval x = u) {v' : Value} {w' : World} (hr : (Builtin.append_ #[dT, sT] o.type #[v, u]).run P w = .ok v' w') (hK : K (a.put o.dst v') w') :
    if Region.wanted o (yielded ops a.tmps) = true then Oper.wp P o a w K Q else E := by
  have hw : Region.wanted o (yielded ops a.tmps) = true := by simp [Region.wanted, hg]
  rw [if_pos hw]
  unfold Oper.wp
  simp [execOp, hop, resolve, invoke, builtin, hd, hx, hr, Result.andThen]
  exact hK
end Go.Proofs.YtnmaknnnmjfhkagGreatDoor

namespace Go.Proofs.YtnmaknnnmjfhkagGreatDoor
open Go.RowKit Go.Lib
set_option linter.unusedVariables false
set_option linter.unusedSimpArgs false
set_option maxRecDepth 8000
theorem szPrD : (Tryz.prog.info? 144).map (·.size) = some 2 := by kernel_rfl
theorem zvPrD (w : World) : (zeroValue 144).run Tryz.prog w = .ok (.agg #[.string ByteArray.empty, .string ByteArray.empty]) w := by kernel_rfl
def delRow (cur : List Value) (n p : Nat) : List Value := cur.take (p * 2) ++ (cur.drop (p * 2 + 2)).take ((n - p - 1) * 2) ++ [.string ByteArray.empty, .string ByteArray.empty] ++ cur.drop (n * 2)
theorem del_eq (cur : List Value) (n p : Nat) (hl : n * 2 ≤ cur.length) (hp : p < n) (cs c1 : List Value) (hcs : cs = (cur.drop (p * 2 + 2)).take ((n - p - 1) * 2)) (hc1 : c1 = cur.take (p * 2) ++ cs ++ cur.drop (p * 2 + cs.length)) :
    cs.length = (n - p - 1) * 2 ∧ c1.length = cur.length ∧ c1.take ((n - 1) * 2) ++ [.string ByteArray.empty, .string ByteArray.empty] ++ c1.drop ((n - 1) * 2 + 2) = delRow cur n p := by
  have e1 : cs.length = (n - p - 1) * 2 := by rw [hcs, List.length_take, List.length_drop]; omega
  have e2 : (cur.take (p * 2) ++ cs).length = (n - 1) * 2 := by rw [List.length_append, List.length_take, e1]; omega
  refine ⟨e1, by rw [hc1, List.length_append, e2, List.length_drop, e1]; omega, ?_⟩
  unfold delRow
  rw [← hcs, hc1, List.take_left' e2, List.drop_append, List.drop_of_length_le (by rw [e2]; omega), e2, List.nil_append, List.drop_drop, e1]
  congr 2
  omega
set_option maxHeartbeats 16000000 in
theorem delete_i (g n cap p : Nat) (cur : List Value) (w : World) (hg : w.heap[g]? = some (.cells cur.toArray 144 (0, 0))) (hl : cur.length = cap * 2) (hn : n ≤ cap) (hc : n ≤ 100000) (hp : p < n) (h1 : ∀ v ∈ cur.take (n * 2), v.oneCell' = true) :
    Calls Tryz.prog 316 #[.slice (some ⟨g, 0, none⟩) n cap, .int .i64 (p : Int), .int .i64 ((p : Int) + 1)] w fun e w' => e = .returned (.slice (some ⟨g, 0, none⟩) (n - 1) cap) ∧ w.grownBy w' (some g) ∧
      w'.heap[g]? = some (.cells (delRow cur n p).toArray 144 (0, 0)) := by
  have hz1 : ¬ ((p : Int) = (p : Int) + 1) := by omega
  have hb1 : (p : Int) ≤ (p : Int) + 1 := by omega
  have hb2 : (p : Int) + 1 ≤ (n : Int) := by omega
  have hb0 : (0 : Int) ≤ (p : Int) := by omega
  have hb3 : (0 : Int) ≤ (p : Int) + 1 := by omega
  have hb4 : (n : Int) ≤ (cap : Int) := by omega
  have hb5 : (p : Int) ≤ (cap : Int) := by omega
  have htn : ((p : Int) + 1).toNat = p + 1 := by omega
  have hpn : p + (n - (p + 1)) = n - 1 := by omega
  obtain ⟨cs, hcs⟩ : ∃ cs, cs = (cur.drop (p * 2 + 2)).take ((n - p - 1) * 2) := ⟨_, rfl⟩
  obtain ⟨c1, hc1⟩ : ∃ c1, c1 = cur.take (p * 2) ++ cs ++ cur.drop (p * 2 + cs.length) := ⟨_, rfl⟩
  obtain ⟨e1, e2, e3⟩ := del_eq cur n p (by omega) hp cs c1 hcs hc1
  have hcs1 : ∀ v ∈ cs, v.oneCell' = true := fun v hv => h1 v (by rw [hcs, show (n - p - 1) * 2 = n * 2 - (p * 2 + 2) by omega, ← List.drop_take] at hv; exact List.mem_of_mem_drop hv)
  have hcell : ∀ (D : Addr), (D = ⟨g, (p + 1) * 2, none⟩ ∨ cs = []) → ∀ j v, cs[j]? = some v → w.drew.cell? (D.add j) = some v := fun D hD j v hj => by
    rcases hD with rfl | h0
    · rw [Addr.add_lit]
      refine cell_of_row (w := w.drew) (cur := cur) hg ?_
      rw [hcs, List.getElem?_take] at hj
      split at hj
      · rw [List.getElem?_drop] at hj
        rw [← hj]; congr 1; omega
      · cases hj
    · rw [h0] at hj; cases hj
  have HAP : Hid (∀ D c ty, (D = ⟨g, (p + 1) * 2, none⟩ ∨ cs = []) → (Builtin.append_ #[29, 29] ty #[.slice (some ⟨g, 0, none⟩) p cap, .slice (some D) (n - (p + 1)) c]).run Tryz.prog w.drew = .ok (.slice (some ⟨g, 0, none⟩) (n - 1) cap) (w.drew.setRow g c1.toArray)) := fun D c ty hD => by
    have := run_append_in (P := Tryz.prog) w.drew 29 ty 144 2 g p cap D (n - (p + 1)) c cur.toArray 144 cs Tryz.underlying29 szPrD hg (by omega) (by rw [e1]; omega) (hcell D hD) (by rw [e1]; simp; omega) hcs1
    rw [hpn] at this
    rw [this, hc1]
  have HCL : Hid (∀ c ty, (Builtin.clear_ #[29] ty #[.slice (some ⟨g, (n - 1) * 2, none⟩) (n - (n - 1)) c]).run Tryz.prog (w.drew.setRow g c1.toArray) = .ok (.tuple #[]) ((w.drew.setRow g c1.toArray).setRow g (delRow cur n p).toArray)) := fun c ty => by
    rw [show n - (n - 1) = 1 by omega]
    have := run_clear_k (P := Tryz.prog) (w.drew.setRow g c1.toArray) 29 ty 144 _ Tryz.underlying29 zvPrD g ((n - 1) * 2) 1 c (by omega) c1.toArray 144 [.string ByteArray.empty, .string ByteArray.empty] (setRow_heap w.drew g cur.toArray c1.toArray 144 (0, 0) hg) (by kernel_rfl) (by simp; omega) (onePr _ _)
    rw [this, ← e3]
    simp
  have hcz0 : cap = p + 1 → cs = [] := fun h => List.eq_nil_of_length_eq_zero (by rw [e1]; omega)
  have HCZ := hid hcz0
  have HG := hid hg
  clear hcz0 hcell hcs hc1 e1 e2 e3 hcs1 h1 hg
  go_enter Tryz.func316, Tryz.ntmps316
  by_cases hcp : cap = p + 1
  case pos =>
    have hD : (⟨g, 0, none⟩ : Addr) = ⟨g, (p + 1) * 2, none⟩ ∨ cs = [] := .inr (HCZ.out hcp)
    go_wp2_with fail
    refine wp_region_held_drew (S := fun w' => True) (by kernel_rfl) (trivial) (fun hHeld => ?_)
    refine TK (i := 0) (v := .slice (some ⟨g, 0, none⟩) n cap) rfl (Or.inl ⟨by rfl, fun w hw => by obtain z0 := hw; go_simp⟩) hHeld ?_
    simp only [PS]
    refine TK (i := 1) (v := .int .i64 (p : Int)) rfl (Or.inl ⟨by rfl, fun w hw => by obtain z0 := hw; go_simp⟩) hHeld ?_
    simp only [PS]
    refine TK (i := 2) (v := .slice (some ⟨g, 0, none⟩) p cap) rfl (Or.inl ⟨by rfl, fun w hw => by obtain z0 := hw; go_simp⟩) hHeld ?_
    simp only [PS]
    refine TK (i := 3) (v := .slice (some ⟨g, 0, none⟩) n cap) rfl (Or.inl ⟨by rfl, fun w hw => by obtain z0 := hw; go_simp⟩) hHeld ?_
    simp only [PS]
    refine TK (i := 4) (v := .int .i64 ((p : Int) + 1)) rfl (Or.inl ⟨by rfl, fun w hw => by obtain z0 := hw; go_simp⟩) hHeld ?_
    simp only [PS]
    refine TK (i := 5) (v := .slice (some ⟨g, 0, none⟩) (n - (p + 1)) (cap - (p + 1))) rfl (Or.inl ⟨by rfl, fun w hw => by obtain z0 := hw; go_simp⟩) hHeld ?_
    simp only [PS]
    refine wpAnyH_ready (rs := [6]) (by kernel_rfl) (by simp) ?_
    refine AllReadyH.cons rfl (fun K hK => ?_) AllReadyH.nil
    refine step_append_run rfl _ _ 29 29 rfl (.slice (some ⟨g, 0, none⟩) p cap) (.slice (some ⟨g, 0, none⟩) (n - (p + 1)) (cap - (p + 1))) (by simp [Act.eval, Act.put]) (by simp [Act.eval, Act.put]) (HAP.out _ _ _ hD) ?_
    refine hK.out _ _ (trivial) (fun hHd1 => ?_)
    clear hK K
    try simp only [PS]
    refine wpAnyH_ready (rs := [7]) (by kernel_rfl) (by simp) ?_
    refine AllReadyH.cons rfl (fun K hK => ?_) AllReadyH.nil
    go_simp
    refine hK.out _ _ hHd1 (fun _ => ?_)
    clear hK K
    try simp only [PS]
    refine wpAnyH_done (by kernel_rfl) ?_ _
    have hcl := HCL.out
    go_wp2_with fail
    go_ret
    exact ⟨by first | rfl | (rw [hcp]; rfl), grown_trans' (undrewG (setRow_grown w.drew g _)) (setRow_grown _ g _), setRow_heap _ g _ _ 144 (0, 0) (setRow_heap w.drew g cur.toArray c1.toArray 144 (0, 0) HG.out)⟩
  case neg =>
    go_wp2_with fail
    refine wp_region_held_drew (S := fun w' => True) (by kernel_rfl) (trivial) (fun hHeld => ?_)
    refine TK (i := 0) (v := .slice (some ⟨g, 0, none⟩) n cap) rfl (Or.inl ⟨by rfl, fun w hw => by obtain z0 := hw; go_simp⟩) hHeld ?_
    simp only [PS]
    refine TK (i := 1) (v := .int .i64 (p : Int)) rfl (Or.inl ⟨by rfl, fun w hw => by obtain z0 := hw; go_simp⟩) hHeld ?_
    simp only [PS]
    refine TK (i := 2) (v := .slice (some ⟨g, 0, none⟩) p cap) rfl (Or.inl ⟨by rfl, fun w hw => by obtain z0 := hw; go_simp⟩) hHeld ?_
    simp only [PS]
    refine TK (i := 3) (v := .slice (some ⟨g, 0, none⟩) n cap) rfl (Or.inl ⟨by rfl, fun w hw => by obtain z0 := hw; go_simp⟩) hHeld ?_
    simp only [PS]
    refine TK (i := 4) (v := .int .i64 ((p : Int) + 1)) rfl (Or.inl ⟨by rfl, fun w hw => by obtain z0 := hw; go_simp⟩) hHeld ?_
    simp only [PS]
    refine TK (i := 5) (v := .slice (some ⟨g, (p + 1) * 2, none⟩) (n - (p + 1)) (cap - (p + 1))) rfl (Or.inl ⟨by rfl, fun w hw => by obtain z0 := hw; go_simp⟩) hHeld ?_
    simp only [PS]
    refine wpAnyH_ready (rs := [6]) (by kernel_rfl) (by simp) ?_
    refine AllReadyH.cons rfl (fun K hK => ?_) AllReadyH.nil
    refine step_append_run rfl _ _ 29 29 rfl (.slice (some ⟨g, 0, none⟩) p cap) (.slice (some ⟨g, (p + 1) * 2, none⟩) (n - (p + 1)) (cap - (p + 1))) (by simp [Act.eval, Act.put]) (by simp [Act.eval, Act.put]) (HAP.out _ _ _ (.inl rfl)) ?_
    refine hK.out _ _ (trivial) (fun hHd1 => ?_)
    clear hK K
    try simp only [PS]
    refine wpAnyH_ready (rs := [7]) (by kernel_rfl) (by simp) ?_
    refine AllReadyH.cons rfl (fun K hK => ?_) AllReadyH.nil
    go_simp
    refine hK.out _ _ hHd1 (fun _ => ?_)
    clear hK K
    try simp only [PS]
    refine wpAnyH_done (by kernel_rfl) ?_ _
    have hcl := HCL.out
    go_wp2_with fail
    go_ret
    exact ⟨by first | rfl | (rw [hcp]; rfl), grown_trans' (undrewG (setRow_grown w.drew g _)) (setRow_grown _ g _), setRow_heap _ g _ _ 144 (0, 0) (setRow_heap w.drew g cur.toArray c1.toArray 144 (0, 0) HG.out)⟩
end Go.Proofs.YtnmaknnnmjfhkagGreatDoor

namespace Go.Proofs.YtnmaknnnmjfhkagGreatDoor
open Go.RowKit
set_option maxRecDepth 4000
set_option linter.unusedVariables false
set_option linter.unusedSimpArgs false
theorem parse_any (s : ByteArray) (n : Int) (w : World) (ty : TypeId) (v : Value) (hv : w.cell? ⟨1, 0, none⟩ = some (.iface ty v)) (hg : 1 < w.heap.size) : Calls Tryz.prog 197 #[.string s, .int .i64 n] w fun e w' => (∃ E, e = .returned (prV E (rpRes s n))) ∧ Below w.heap.size w w' := by
  by_cases hn : 1 ≤ n ∧ n ≤ 8
  · obtain ⟨m, rfl⟩ : ∃ m : Nat, n = (m : Int) := ⟨n.toNat, by omega⟩
    by_cases hs : s.size = 64
    · obtain ⟨fN, fK, fL, fM, fP⟩ := rp_fields s m hs (by omega) rfl
      have ln : (nums s).length = 64 := by rw [nums_length, hs]
      have rg := nums_range' s
      have sub : ∀ o k, ∀ y ∈ ((nums s).drop o).take k, 0 ≤ y ∧ y ≤ 255 := fun o k y hy => rg y (List.mem_of_mem_drop (List.mem_of_mem_take hy))
      have bN := numOf_rng 1 _ (by simp; omega) (sub (m + 7) 1)
      have bK := numOf_rng 1 _ (by simp; omega) (sub m 1)
      have bL := numOf_rng 2 _ (by simp; omega) (sub (m + 1) 2)
      have bM := numOf_rng 4 _ (by simp; omega) (sub (m + 3) 4)
      rw [← fN] at bN
      rw [← fK] at bK
      rw [← fL] at bL
      rw [← fM] at bM
      by_cases hN : rpN (s.extract m 64) + m ≤ 56
      · have h := parse_main s m _ _ _ _ _ w ty v hv hg hs (by omega) (by omega) fN hN fK fL fM fP bK.1 (by have := bK.2; omega) bL.1 (by have := bL.2; omega) bM.1 (by have := bM.2; omega)
        have hR : rpRes s (m : Int) = if formOf (rpK (s.extract m 64)) (rpL (s.extract m 64)) (rpM (s.extract m 64)) (rpP (s.extract m 64)) (m : Int) = s then some (rpK (s.extract m 64), rpL (s.extract m 64), rpM (s.extract m 64), rpP (s.extract m 64)) else none := by
          unfold rpRes
          rw [Int.toNat_natCast]
          by_cases hF : formOf (rpK (s.extract m 64)) (rpL (s.extract m 64)) (rpM (s.extract m 64)) (rpP (s.extract m 64)) (m : Int) = s
          · rw [if_pos hF, if_pos ⟨by omega, by omega, hs, by omega, hF⟩]
          · rw [if_neg hF, if_neg (fun hh => hF hh.2.2.2.2)]
        rw [hR]
        exact h
      · rw [rpRes_no (fun hh => hN (by have := hh.2.2.2.1; rw [Int.toNat_natCast] at this; omega))]
        exact parse_no_part s m _ w ty v hv hg hs (by omega) (by omega) fN (by omega) (by have := bN.2; omega)
    · rw [rpRes_no (fun hh => hs hh.2.2.1)]
      exact parse_no_size s m w ty v hv hg hn hs
  · rw [rpRes_no (fun hh => hn ⟨hh.1, hh.2.1⟩)]
    exact parse_no_width s n w ty v hv hg hn
theorem as_hit_b (e t : Addr) (old : Value) (w : World) (hg : w.cell? ⟨0, 0, none⟩ = some (.iface 332 (.agg #[.pointer (some ⟨3, 215, none⟩)]))) (ht0 : w.cell? t = some old) (hf0 : w.frozen? t = false) (hlt : t.block < w.heap.size) :
    Calls Tryz.prog 198 #[.iface 246 (.pointer (some e)), .iface 248 (.pointer (some t))] w fun ev w' => ev = .returned (.bool true) ∧ Below t.block w w' :=
  (as_hit e t old w hg ht0 hf0).mono fun ev w' h => ⟨h.1, by
    rw [h.2]
    exact (((((Below.refl t.block w).alloc (by omega) _).alloc (by simp; omega) _).alloc (by simp; omega) _).alloc (by simp; omega) _).setCell (Nat.le_refl _) _⟩
theorem as_nil_b (t : Value) (w : World) : Calls Tryz.prog 198 #[.nilIface, t] w fun e w' => e = .returned (.bool false) ∧ Below w.heap.size w w' :=
  (as_nil t w).mono fun e w' h => ⟨h.1, by rw [h.2]; exact Below.refl _ _⟩
theorem RB.past {W w w' : World} (h : RB W w) {B : Nat} (hB : W.heap.size < B) (hb : Below B w w') : RB W w' := by
  have hs := h.size
  have hc : ∀ i, w'.cell? ⟨W.heap.size, i, none⟩ = w.cell? ⟨W.heap.size, i, none⟩ := fun i => hb.cell (p := ⟨W.heap.size, i, none⟩) (by show W.heap.size < _; omega)
  have hf : ∀ i, w'.frozen? ⟨W.heap.size, i, none⟩ = w.frozen? ⟨W.heap.size, i, none⟩ := fun i => hb.frozen (p := ⟨W.heap.size, i, none⟩) (by show W.heap.size < _; omega)
  exact ⟨Nat.le_trans hs hb.size, h.bel.trans (hb.mono (by omega)), (hc _).trans h.c0, (hc _).trans h.c1, (hc _).trans h.c2, (hc _).trans h.c3, (hf _).trans h.f0, (hf _).trans h.f1, (hf _).trans h.f2, (hf _).trans h.f3⟩
set_option maxHeartbeats 16000000 in
theorem readpage_i (s : ByteArray) (n : Int) (w : World) (ty : TypeId) (v : Value) (hv : w.cell? ⟨1, 0, none⟩ = some (.iface ty v)) (h0 : w.cell? ⟨0, 0, none⟩ = some (.iface 332 (.agg #[.pointer (some ⟨3, 215, none⟩)]))) (hg : 1 < w.heap.size) : Calls Tryz.prog 109 #[.string s, .int .i64 n] w fun e w' => e = .returned (rpV (rpRes s n)) ∧ Below w.heap.size w w' := by
  obtain ⟨R, HR⟩ : ∃ R, Hid (R = rpRes s n) := ⟨_, hid0 rfl⟩
  rw [← HR.out]
  have hb0 : ∀ o, Below w.heap.size w (w.alloc o) := fun o => (Below.refl _ _).alloc (Nat.le_refl _) _
  have hva : ∀ o, (w.alloc o).cell? ⟨1, 0, none⟩ = some (.iface ty v) := fun o => (World.cell?_alloc_past _ _ _ (by exact hg)).trans hv
  have HG : Hid (∀ w', Below w.heap.size w w' → w'.cell? ⟨0, 0, none⟩ = some (.iface 332 (.agg #[.pointer (some ⟨3, 215, none⟩)]))) := fun w' hb => (hb.cell (p := ⟨0, 0, none⟩) (by show 0 < _; omega)).trans h0
  have par := fun o => parse_any s n (w.alloc o) ty v (hva o) (by simp; omega)
  rw [← HR.out] at par
  cases R with
  | none =>
    simp only [prV] at par
    go_enter Tryz.func109, Tryz.ntmps109
    go_wp2_with (first | (go_at_call 197; refine (par _).mono ?_; rintro e w2 ⟨⟨E, rfl⟩, hb2⟩; have HB2 := hid0 ((RB.new w _).below hb2); clear hb2) | (go_at_call 198; refine (as_hit_b E ⟨w2.heap.size + 1, 0, none⟩ (.pointer none) _ (HG.out _ ((HB2.out.alloc _).alloc _).bel) (by go_simp) (by go_simp) (by simp)).mono ?_; rintro e w4 ⟨rfl, hb4⟩; have hr4 := ((HB2.out.alloc _).alloc _).past (B := w2.heap.size + 1) (by have := HB2.out.size; omega) hb4; clear hb4; have c0 := hr4.c0; have c1 := hr4.c1; have c2 := hr4.c2; have c3 := hr4.c3; have f0 := hr4.f0; have f1 := hr4.f1; have f2 := hr4.f2; have f3 := hr4.f3; have HR4 := hid0 hr4; clear hr4))
    refine bodyPost_ret (v := .tuple #[pageV 0 0 0 ⟨#[]⟩, .bool false]) (by simp [results, Tryz.results109, go_sem, c0, c1, c2, c3]) rfl ⟨rfl, ?_⟩
    exact (((HR4.out.bel.setCell (Nat.le_refl _) _).setCell (Nat.le_refl _) _).setCell (Nat.le_refl _) _).setCell (Nat.le_refl _) _
  | some x =>
    obtain ⟨k, l, m, p⟩ := x
    simp only [prV] at par
    go_enter Tryz.func109, Tryz.ntmps109
    go_wp2_with (first | (go_at_call 197; refine (par _).mono ?_; rintro e w2 ⟨⟨E, rfl⟩, hb2⟩; have HB2 := hid0 ((RB.new w _).below hb2); clear hb2) | (go_at_call 198; refine (as_nil_b _ _).mono ?_; rintro e w4 ⟨rfl, hb4⟩; have hr4 := ((HB2.out.alloc _).alloc _).below hb4; have hp := ((pg_new w2 w2.heap.size rfl (.int .i64 k) (.int .i64 l) (.int .i64 m) (.string p) _).below ((Below.refl _ _).alloc (Nat.le_refl _) _) (by simp)).below hb4 (by simp <;> omega); clear hb4; have p0 := hp.c0; have p1 := hp.c1; have p2 := hp.c2; have p3 := hp.c3; clear hp; have c0 := hr4.c0; have c1 := hr4.c1; have c2 := hr4.c2; have c3 := hr4.c3; have f0 := hr4.f0; have f1 := hr4.f1; have f2 := hr4.f2; have f3 := hr4.f3; have HR4 := hid0 hr4; clear hr4))
    refine bodyPost_ret (v := .tuple #[pageV k l m p, .bool true]) (by simp [results, Tryz.results109, go_sem, c0, c1, c2, c3]) rfl ⟨rfl, ?_⟩
    exact (((HR4.out.bel.setCell (Nat.le_refl _) _).setCell (Nat.le_refl _) _).setCell (Nat.le_refl _) _).setCell (Nat.le_refl _) _
end Go.Proofs.YtnmaknnnmjfhkagGreatDoor

namespace Go.Proofs.YtnmaknnnmjfhkagGreatDoor
open Go.RowKit
set_option linter.unusedVariables false
def covs : List (Int × List Int) → List (List Int) → List (List Int)
  | [], ps => ps
  | x :: r, ps => covs r (ps.set x.1.toNat x.2)
theorem covs_length : ∀ (hs : List (Int × List Int)) (ps : List (List Int)), (covs hs ps).length = ps.length
  | [], _ => rfl
  | x :: r, ps => by rw [covs, covs_length r]; simp
theorem covs_append : ∀ (hs : List (Int × List Int)) (x : Int × List Int) (ps : List (List Int)), covs (hs ++ [x]) ps = (covs hs ps).set x.1.toNat x.2
  | [], _, _ => rfl
  | y :: r, x, ps => by rw [List.cons_append, covs, covs_append r]; rfl
theorem covs_take (hs : List (Int × List Int)) (ps : List (List Int)) (k : Nat) (h : k < hs.length) : covs (hs.take (k + 1)) ps = (covs (hs.take k) ps).set (hs.getD k (0, [])).1.toNat (hs.getD k (0, [])).2 := by
  rw [List.take_succ_eq_append_getElem h, covs_append]
  simp [List.getD, h]
theorem meth_plate (k : Nat) (a : Option Addr) (n c : Nat) (w : World) : Sem.run Tryz.prog (method (k + 1) 199 (.slice a n c) "loop.example/kilnstone/impl.read") w = .ok (309, .slice a n c) w := by kernel_rfl
theorem meth_cover (k : Nat) (v v' : Value) (w : World) : Sem.run Tryz.prog (method (k + 1) 272 (.agg #[v, v']) "loop.example/kilnstone/impl.read") w = .ok (313, .agg #[v, v']) w := by kernel_rfl
set_option maxRecDepth 100000 in
set_option maxHeartbeats 16000000 in
theorem rd_cover (a : Option Addr) (hs : List (Int × List Int)) (c : Nat) (g n cg m : Nat) (ps : List (List Int)) (w : World) (h : Hld w a hs) (h64 : ∀ p ∈ hs, p.2.length = 64) (hpos : ∀ p ∈ hs, 0 ≤ p.1) (hl : hs.length ≤ 300) (hp : PR w g ps) (hpl : ps.length = n) (hn2 : n ≤ 200) (hm : m < n) :
    Calls Tryz.prog 313 #[.agg #[.slice a hs.length c, .iface 199 (.slice (some ⟨g, 0, none⟩) n cg)], .int .i64 (m : Int)] w fun e w' => e = .returned (.tuple #[.agg (((covs hs ps).getD m []).map (Value.int .u8)).toArray, .bool true]) ∧ Below w.heap.size w w' := by
  obtain ⟨RES, HRES⟩ : ∃ RES, Hid (RES = (covs hs ps).getD m []) := ⟨_, hid rfl⟩
  rw [← HRES.out]
  have hb0 : ∀ o1 o2, Below w.heap.size w ((w.alloc o1).alloc o2) := fun o1 o2 => ((Below.refl _ _).alloc (Nat.le_refl _) _).alloc (by simp) _
  go_enter Tryz.func313, Tryz.ntmps313
  go_wp2_with fail
  obtain ⟨wy, HWY⟩ : ∃ wy, wy = ((w.alloc (.cells #[.slice a hs.length c, .iface 199 (.slice (some ⟨g, 0, none⟩) n cg)] 272)).alloc (.cells sec64 267)) := ⟨_, rfl⟩
  have hby := hb0 (.cells #[.slice a hs.length c, .iface 199 (.slice (some ⟨g, 0, none⟩) n cg)] 272) (.cells sec64 267)
  have hcx := (Cx.new w (.slice a hs.length c) (.iface 199 (.slice (some ⟨g, 0, none⟩) n cg)) 272).below (below_new _ (.cells sec64 267))
  have hrr := row_new' (w.alloc (.cells #[.slice a hs.length c, .iface 199 (.slice (some ⟨g, 0, none⟩) n cg)] 272)) sec64 267 (w.heap.size + 1) (by simp)
  rw [← HWY] at hby hcx hrr
  go_loopw [6] (fun i wr => ∃ k : Nat, k ≤ hs.length ∧ i = .int .i64 ((k : Int) - 1) ∧ Hid (RES = (covs (hs.take k) ps).getD m []) ∧ wr = wy) (fun i _ => ((intOf i) + 1).toNat)
  case atStart => exact ⟨hs.length, Nat.le_refl _, rfl, by show _ = _; rw [List.take_length, HRES.out], by rw [HWY]; kernel_rfl⟩
  case round =>
    obtain ⟨k, hk, rfl, HK, rfl⟩ := hrel
    have q0 := hcx.c0
    have q1 := hcx.c1
    have HRR := hid hrr
    have HBY := hid hby
    clear hrr HWY
    rcases k with _ | j
    · have hpw := hp.below hby
      have hmp := fun k => meth_plate k (some ⟨g, 0, none⟩) n cg wr
      have hxl : RES.length = 64 := by rw [HK.out]; exact getD_len hp.len (by omega)
      have hxm : (RES.map (Value.int .u8)).toArray.size = 64 := by simp [hxl]
      have HI64 : Hid ((Tryz.prog.info? 267).map (·.size) = some (RES.map (Value.int .u8)).length) := by show _ = _; rw [List.length_map, hxl]; kernel_rfl
      have HKR : Hid (ps.getD m [] = RES) := HK.out.symm
      go_wp2_with fail
      refine (rd_plate g n cg m ps _ hpw hpl hn2 hm).mono ?_
      rw [HKR.out]
      rintro e w2 ⟨rfl, hb2⟩
      have hth := (HRR.out.below hb2).there (n := 64) (by kernel_rfl)
      have HB2 := hid (Below.then HBY.out (Nat.le_refl _) hb2)
      clear hb2 hpw hmp q0 q1
      go_wp2_with (with_reducible refine at_store 267 _ _ rfl ?_; refine wpList_store_mid rfl 267 _ _ rfl (w.heap.size + 1) 0 (RES.map (Value.int .u8)).toArray rfl rfl (by rw [hxm]; exact hth) (by rw [hxm]; kernel_rfl) (all_oneCell_toArray (ints_one RES)) ?_)
      refine bodyPost_ret (v := .tuple #[.agg (RES.map (Value.int .u8)).toArray, .bool true]) (results_cell1_tmp (p := 4) (u := 5) Tryz.results313 _ _ (w.heap.size + 1) 0 rfl (RES.map (Value.int .u8)) _ (World.rangeAt_setCells_same _ _ _ _ (by rw [List.length_map, hxl]; exact hth)) Tryz.underlying267 rfl HI64.out) rfl ⟨rfl, ?_⟩
      exact Go.below_setCells (by omega) _ _ _ HB2.out
    · have hj : j < hs.length := by omega
      obtain ⟨b, o, m0, x, rfl, hlb, hrg, HX⟩ := (h.below hby).at hj
      have hxl : x.length = 64 := h64 (m0, x) (by rw [HX.out]; simp [List.getD, hj])
      have hc0 := hrg 0 _ rfl
      rw [Nat.add_zero] at hc0
      have e1 : ((j + 1 : Nat) : Int) - 1 = (j : Int) := by omega
      rw [e1]
      clear e1
      by_cases hmm : m0 = (m : Int)
      · subst hmm
        have hmc : m < (covs (hs.take j) ps).length := by rw [covs_length]; omega
        have HKR : Hid (x = RES) := by
          show _ = _
          rw [HK.out, covs_take hs ps j hj, ← HX.out, Int.toNat_natCast]
          simp [List.getD, hmc]
        rw [HKR.out] at hrg hxl
        have hxm : (RES.map (Value.int .u8)).toArray.size = 64 := by simp [hxl]
        have HI64 : Hid ((Tryz.prog.info? 267).map (·.size) = some (RES.map (Value.int .u8)).length) := by show _ = _; rw [List.length_map, hxl]; kernel_rfl
        have HRG : Hid (wr.rangeAt b (o + j * 65 + 1) (RES.map (Value.int .u8))) := fun i v hv => by
          have := hrg (i + 1) v (by simpa using hv)
          rw [← this]; congr 2; omega
        have hth := HRR.out.there (n := 64) (by kernel_rfl)
        clear hrg
        go_wp2_with (first | (with_reducible refine at_load 267 _ rfl ?_; refine wpList_load_mid rfl 267 _ rfl b (o + j * 65 + 1) rfl (RES.map (Value.int .u8)) _ HRG.out Tryz.underlying267 rfl HI64.out ?_) | (with_reducible refine at_store 267 _ _ rfl ?_; refine wpList_store_mid rfl 267 _ _ rfl (w.heap.size + 1) 0 (RES.map (Value.int .u8)).toArray rfl rfl (by rw [hxm]; exact hth) (by rw [hxm]; kernel_rfl) (all_oneCell_toArray (ints_one RES)) ?_))
        refine bodyPost_ret (v := .tuple #[.agg (RES.map (Value.int .u8)).toArray, .bool true]) (results_cell1_tmp (p := 4) (u := 5) Tryz.results313 _ _ (w.heap.size + 1) 0 rfl (RES.map (Value.int .u8)) _ (World.rangeAt_setCells_same _ _ _ _ (by rw [List.length_map, hxl]; exact hth)) Tryz.underlying267 rfl HI64.out) rfl ⟨rfl, ?_⟩
        exact Go.below_setCells (by omega) _ _ _ HBY.out
      · have HK' : Hid (RES = (covs (hs.take j) ps).getD m []) := by
          show _ = _
          rw [HK.out, covs_take hs ps j hj, ← HX.out]
          have h0 : 0 ≤ m0 := hpos (m0, x) (by rw [HX.out]; simp [List.getD, hj])
          have hne : m0.toNat ≠ m := by omega
          simp [List.getD, List.getElem?_set_ne hne]
        clear hrg
        go_wp2
        go_roundw
        case rel => exact ⟨j, by omega, by go_num, HK', trivial⟩
        case measure => simp [intOf]
end Go.Proofs.YtnmaknnnmjfhkagGreatDoor

namespace Go.Proofs.YtnmaknnnmjfhkagGreatDoor
open Go.RowKit
set_option linter.unusedVariables false
theorem covs_all : ∀ (hs : List (Int × List Int)) (ps : List (List Int)), (∀ p ∈ hs, p.2.length = 64) → (∀ p ∈ ps, p.length = 64) → ∀ p ∈ covs hs ps, p.length = 64
  | [], ps, _, h => h
  | x :: r, ps, h1, h2 => covs_all r _ (fun p hp => h1 p (List.mem_cons_of_mem _ hp)) (fun p hp => by
    rcases List.mem_or_eq_of_mem_set hp with h3 | h3
    · exact h2 p h3
    · rw [h3]; exact h1 x (List.mem_cons_self ..))
theorem secs_covs : ∀ (ws : List (Int × ByteArray)) (ss : List ByteArray), secs (covs (hsOf ws) (ss.map nums)) = syncs ws ss
  | [], ss => by
    show (ss.map nums).map strOfNums = ss
    rw [List.map_map]
    exact List.map_id'' (fun s => strOfNums_nums s) ss
  | x :: r, ss => by
    have := secs_covs r (ss.set x.1.toNat x.2)
    rw [List.map_set] at this
    exact this
end Go.Proofs.YtnmaknnnmjfhkagGreatDoor
