import Derived.RangeFuncNested
import Derived.RangeFuncBound
import Derived.RangeFuncCalls
import Derived.RangeFuncLeaves
import Derived.RangeFuncBox
import Derived.Shelf.Abstract
import Derived.Shelf.RegionOpenV
import Derived.WalkKit
import Derived.OwnWalkIn
import Derived.TacticsInMore
import Derived.LoopNIn
import Derived.LoopIn
import Derived.Sort.QuietIn
import Derived.Maps.AppendAt
import Derived.Maps.OwnIn
import Derived.Test.YtnmaknnnmjfhkagGreatDoorQhxOpenSnT
import Derived.Test.YtnmaknnnmjfhkagGreatDoorQhxOpenRpS
import Derived.Test.YtnmaknnnmjfhkagGreatDoorMhXOpen2
import Derived.Test.YtnmaknnnmjfhkagGreatDoorQhxOpenRbWd
import Derived.Test.YtnmaknnnmjfhkagGreatDoorMhXOpen0
import Derived.Test.YtnmaknnnmjfhkagGreatDoorQhxOpenApS
import Derived.Shelf.Spec.SlicesInsert
import Derived.Lib.AppendZerosOnto
import Derived.Lib.Overlaps
import Derived.Laws.Externs
import Derived.Laws.CopyRow
import Derived.Laws.CopyOwn
import Derived.Test.YtnmaknnnmjfhkagGreatDoorMhXOpen1
import Derived.Test.YtnmaknnnmjfhkagGreatDoorQhxOpenPage3
import Derived.Laws.Bits64b

set_option maxHeartbeats 16000000
set_option maxRecDepth 8000
namespace Go.Proofs.YtnmaknnnmjfhkagGreatDoor
open Go.RowKit Go.Shelf
set_option linter.unusedVariables false
set_option linter.unusedSimpArgs false
set_option maxRecDepth 4000
attribute [local go_sem] Oper.semAt_some

/-- The part of a row of pairs that is handed out in a round. -/
def partV (b off len k : Nat) : Value := .slice (some ⟨b, off + k * 20 * 2, none⟩) (min 20 (len - k * 20)) (min 20 (len - k * 20))

theorem grown_drewN (w : World) (q : Nat) : w.grownBy (w.drewN q) none := ⟨rfl, rfl, rfl, Nat.le_refl _, fun _ _ _ => rfl⟩

set_option maxHeartbeats 16000000 in
theorem chunk1_in (F : Fence) (n : Nat) (hf : F.fn 262) (hro : F.round = none) (hn : 1 ≤ n) (l Bs Bn b off len cap : Nat) (hlen : len ≤ 100) (hcap : len ≤ cap) (Kp : World → World → Prop) (hK : ∀ A B, Kp A B → B.cell? ⟨Bs, 0, none⟩ = A.cell? ⟨Bs, 0, none⟩ ∧ B.cell? ⟨Bn, 0, none⟩ = A.cell? ⟨Bn, 0, none⟩) (J Jx : List Nat → World → Prop)
    (hY : ∀ pre x W, J pre W → pre.length < (len + 19) / 20 → YieldAt F (n - 1) Tryz.prog l #[partV b off len x] W fun e W' =>
      (e = .returned (.bool true) ∧ J (pre ++ [x]) W' ∧ Kp W W') ∨ (e = .returned (.bool false) ∧ Jx (pre ++ [x]) W'))
    (W : World) (hBs : W.cell? ⟨Bs, 0, none⟩ = some (.slice (some ⟨b, off, none⟩) len cap)) (hBn : W.cell? ⟨Bn, 0, none⟩ = some (.int .i64 20)) (h0 : J [] W) (hJ : ∀ s A B, J s A → A.grownBy B none → J s B) :
    CallsIn F n Tryz.prog 262 #[.func (.yield l) #[] #[], .pointer (some ⟨Bs, 0, none⟩), .pointer (some ⟨Bn, 0, none⟩)] W fun e W' => (∃ v, e = .returned v) ∧
      ((∃ ys, ys = List.range ((len + 19) / 20) ∧ J ys W') ∨ (∃ pre, True ∧ Jx pre W')) := by
  refine callsIn_of_wp Tryz.func262 rfl hf ?_ hro
  simp only [Tryz.ntmps262, List.size_toArray, List.length_cons, List.length_nil, Nat.reduceAdd, Nat.reduceSub, Array.replicate_succ, Array.replicate_zero, List.push_toArray, List.append_toArray, List.nil_append, List.cons_append]
  gi_wp2
  gi_loopw [4] (fun i wr => ∃ k q : Nat, q = k * 20 ∧ k ≤ (len + 19) / 20 ∧ i = .int .i64 (q : Int) ∧ J (List.range k) wr ∧ wr.cell? ⟨Bs, 0, none⟩ = some (.slice (some ⟨b, off, none⟩) len cap) ∧ wr.cell? ⟨Bn, 0, none⟩ = some (.int .i64 20)) (fun i _ => len + 20 - (intOf i).toNat)
  case atStart => exact ⟨0, 0, rfl, Nat.zero_le _, rfl, h0, hBs, hBn⟩
  case round =>
    obtain ⟨k, q, hq, hk, rfl, hJs, hcs, hcn⟩ := hrel
    have HQ := hid hq
    clear hq
    have hmx : Tryz.prog.follows .mixedOrders = true := by kernel_rfl
    by_cases hlt : q < len
    · have hq0 : (0 : Int) ≤ (q : Int) := by omega
      have hq1 : (q : Int) ≤ (len : Int) := by omega
      have hq2 : (q : Int) < (len : Int) := by omega
      have hq3 : (len : Int) ≤ (cap : Int) := by omega
      by_cases hc : 20 ≤ len - q
      · have HC : Hid (min 20 (len - q) = 20) := by show _ = _; omega
        have hc2 : (q : Int) + 20 ≤ (len : Int) := by omega
        have hc3 : (q : Int) + 20 ≤ (cap : Int) := by omega
        gi_wp2
        gi_big_quiet_th_v (fail)
        obtain ⟨fn, tmps, assign, body, hy, hR⟩ := hY _ k (wr.drewN nq) (hJ _ _ _ hJs (grown_drewN wr nq)) (by have := HQ.out; rw [List.length_range]; omega)
        have hcs1 : (wr.drewN nq).cell? ⟨Bs, 0, none⟩ = some (.slice (some ⟨b, off, none⟩) len cap) := hcs
        unfold partV at hy
        rw [← HQ.out, HC.out] at hy
        gi_wp2
        refine hR.mono ?_
        rintro e W3 (⟨rfl, hJ3, hk3⟩ | ⟨rfl, hJx3⟩)
        · have hcn3 := (hK _ _ hk3).2.trans (show (wr.drewN nq).cell? ⟨Bn, 0, none⟩ = some (.int .i64 20) from hcn)
          have hcs3 := (hK _ _ hk3).1.trans hcs1
          gi_wp2
          go_roundw
          case rel => exact ⟨k + 1, q + 20, by have := HQ.out; omega, by have := HQ.out; omega, by simp, by rw [List.range_succ]; exact hJ3, hcs3, hcn3⟩
          case measure => simp [intOf]; omega
        · gi_wp2
          refine bodyPost_ret (results_none rfl _ _ _) rfl ?_
          exact ⟨⟨_, rfl⟩, .inr ⟨_, trivial, hJx3⟩⟩
      · have HC : Hid (min 20 (len - q) = len - q) := by show _ = _; omega
        have hc2 : (q : Int) + ((len - q : Nat) : Int) = (len : Int) := by omega
        gi_wp2
        gi_big_quiet_th_v (fail)
        obtain ⟨fn, tmps, assign, body, hy, hR⟩ := hY _ k (wr.drewN nq) (hJ _ _ _ hJs (grown_drewN wr nq)) (by have := HQ.out; rw [List.length_range]; omega)
        have hcs1 : (wr.drewN nq).cell? ⟨Bs, 0, none⟩ = some (.slice (some ⟨b, off, none⟩) len cap) := hcs
        unfold partV at hy
        rw [← HQ.out, HC.out] at hy
        gi_wp2
        refine hR.mono ?_
        rintro e W3 (⟨rfl, hJ3, hk3⟩ | ⟨rfl, hJx3⟩)
        · have hcn3 := (hK _ _ hk3).2.trans (show (wr.drewN nq).cell? ⟨Bn, 0, none⟩ = some (.int .i64 20) from hcn)
          have hcs3 := (hK _ _ hk3).1.trans hcs1
          gi_wp2
          go_roundw
          case rel => exact ⟨k + 1, q + 20, by have := HQ.out; omega, by have := HQ.out; omega, by simp, by rw [List.range_succ]; exact hJ3, hcs3, hcn3⟩
          case measure => simp [intOf]; omega
        · gi_wp2
          refine bodyPost_ret (results_none rfl _ _ _) rfl ?_
          exact ⟨⟨_, rfl⟩, .inr ⟨_, trivial, hJx3⟩⟩
    · have hkk : k = (len + 19) / 20 := by have := HQ.out; omega
      gi_wp2
      go_end0
      exact ⟨⟨_, rfl⟩, .inl ⟨_, by rw [hkk], hJs⟩⟩

set_option maxHeartbeats 16000000 in
theorem chunk1_nil (F : Fence) (n : Nat) (hf : F.fn 262) (hro : F.round = none) (l Bs Bn c : Nat) (a : Option Addr) (J : List Nat → World → Prop) (W : World) (hBs : W.cell? ⟨Bs, 0, none⟩ = some (.slice a 0 c)) (h0 : J [] W) :
    CallsIn F n Tryz.prog 262 #[.func (.yield l) #[] #[], .pointer (some ⟨Bs, 0, none⟩), .pointer (some ⟨Bn, 0, none⟩)] W fun e W' => (∃ v, e = .returned v) ∧ J [] W' := by
  refine callsIn_of_wp Tryz.func262 rfl hf ?_ hro
  simp only [Tryz.ntmps262, List.size_toArray, List.length_cons, List.length_nil, Nat.reduceAdd, Nat.reduceSub, Array.replicate_succ, Array.replicate_zero, List.push_toArray, List.append_toArray, List.nil_append, List.cons_append]
  gi_wp2
  gi_loopw [4] (fun i wr => i = .int .i64 0 ∧ wr = W) (fun _ _ => 0)
  case atStart => exact ⟨rfl, rfl⟩
  case round =>
    obtain ⟨rfl, rfl⟩ := hrel
    gi_wp2
    go_end0
    exact ⟨⟨_, rfl⟩, h0⟩

set_option maxHeartbeats 16000000 in
/-- The two arguments are boxed; the function value captures the boxes. -/
theorem chunk_in (F : Fence) (n : Nat) (hf : F.fn 226) (hro : F.round = none) (a : Option Addr) (len cap : Nat) (w : World) :
    CallsIn F n Tryz.prog 226 #[.slice a len cap, .int .i64 20] w fun e w' => e = .returned (.func (.func 262) #[] #[.pointer (some ⟨w.heap.size, 0, none⟩), .pointer (some ⟨w.heap.size + 1, 0, none⟩)]) ∧ w' = (w.alloc (.cells #[.slice a len cap] 29)).alloc (.cells #[.int .i64 20] 3) := by
  refine callsIn_of_wp Tryz.func226 rfl hf ?_ hro
  simp only [Tryz.ntmps226, List.size_toArray, List.length_cons, List.length_nil, Nat.reduceAdd, Nat.reduceSub, Array.replicate_succ, Array.replicate_zero, List.push_toArray, List.append_toArray, List.nil_append, List.cons_append]
  gi_wp2
  go_ret
  exact ⟨rfl, rfl⟩

/-- What slices.Chunk hands back gives the parts of a row, one by one. -/
theorem chunk_stops (F : Fence) (n : Nat) (hf : F.fn 262) (hro : F.round = none) (hn : 1 ≤ n) (Bs Bn b off len cap : Nat) (a : Option Addr) (hlen : len ≤ 100) (hcap : len ≤ cap) (w : World) (hbs : Bs < w.heap.size) (hbn : Bn < w.heap.size) (Kp : World → World → Prop) (hK : ∀ A B, Kp A B → B.cell? ⟨Bs, 0, none⟩ = A.cell? ⟨Bs, 0, none⟩ ∧ B.cell? ⟨Bn, 0, none⟩ = A.cell? ⟨Bn, 0, none⟩)
    (hs : w.cell? ⟨Bs, 0, none⟩ = some (.slice a len cap)) (hc : w.cell? ⟨Bn, 0, none⟩ = some (.int .i64 20)) (ha : len = 0 ∨ a = some ⟨b, off, none⟩) :
    SeqStopsK F n Tryz.prog 262 #[.pointer (some ⟨Bs, 0, none⟩), .pointer (some ⟨Bn, 0, none⟩)] (fun x : Nat => #[partV b off len x]) Kp (fun ys => ys = List.range ((len + 19) / 20)) (fun _ => True) ((len + 19) / 20) w := fun l J Jx W hW hJ hJx hY h0 => by
  have hs' := (hW.cell (p := ⟨Bs, 0, none⟩) hbs).trans hs
  have hc' := (hW.cell (p := ⟨Bn, 0, none⟩) hbn).trans hc
  rcases ha with rfl | rfl
  · exact (chunk1_nil F n hf hro l Bs Bn cap a J W hs' h0).mono fun e W' ⟨he, hj⟩ => ⟨he, .inl ⟨_, rfl, hj⟩⟩
  · exact chunk1_in F n hf hro hn l Bs Bn b off len cap hlen hcap Kp hK J Jx hY W hs' hc' h0 (fun s A B hs hg => hJ s A B none hs hg (fun r e => (by cases e)))
end Go.Proofs.YtnmaknnnmjfhkagGreatDoor

namespace Go.Proofs.YtnmaknnnmjfhkagGreatDoor
open Go.RowKit Go.Shelf
set_option linter.unusedVariables false
set_option linter.unusedSimpArgs false
set_option maxRecDepth 4000

/-- What a round keeps of what slices.Chunk reads again and again. -/
def KpC (n₀ Bs Bn : Nat) (A B : World) : Prop := Below n₀ A B ∧ B.cell? ⟨Bs, 0, none⟩ = A.cell? ⟨Bs, 0, none⟩ ∧ B.cell? ⟨Bn, 0, none⟩ = A.cell? ⟨Bn, 0, none⟩
theorem KpC.t {n₀ Bs Bn : Nat} {A B C : World} (h : KpC n₀ Bs Bn A B) (k : KpC n₀ Bs Bn B C) : KpC n₀ Bs Bn A C := ⟨h.1.trans k.1, k.2.1.trans h.2.1, k.2.2.trans h.2.2⟩
theorem KpC.b {n₀ Bs Bn : Nat} {w : World} (hn : n₀ ≤ w.heap.size) (h1 : Bs < w.heap.size) (h2 : Bn < w.heap.size) (W : World) (l : Nat) (o o' : Obj) (hl : w.heap.size ≤ l) (h : W.heap[l]? = some o) (hc : o.isCells = false) (hw : o.isWalk = false) : KpC n₀ Bs Bn W (W.putObj l o') :=
  ⟨belowK_b hn W l o o' hl h hc hw, World.cell?_of_block (World.putObj_heap_other (by show Bs ≠ l; omega)), World.cell?_of_block (World.putObj_heap_other (by show Bn ≠ l; omega))⟩
theorem Bat.boxed {w : World} {base B : Nat} {v u z : Value} {bss : List (List Ch)} (h : Bat w base v bss) (hb : Boxed w B 145 u) : Bat (w.setCell ⟨B, 0, none⟩ z) base v bss := by
  obtain ⟨vs, h1, h2, h3⟩ := h
  refine ⟨vs, h1.kept (grownBy_setCell' w B z) (.inr fun e => hb.not_row (by decide) h1 e.symm), fun i hi => (h2 i hi).kept (grownBy_setCell' w B z) (.inr fun e => hb.not_row (by decide) (h2 i hi) e.symm), h3⟩
theorem row_own {X Y : World} {row : Option Nat} {base : Nat} {e : TypeId} {s : Nat} {v : Value} {n : Nat} {xs : List Value} (h : X.ownsRow base e s v n xs) (hg : X.grownBy Y row) (hr : ∀ r, row = some r → ∃ o : Obj, X.heap[r]? = some o ∧ o.isCells = false) : Y.ownsRow base e s v n xs := by
  refine h.kept hg ?_
  rcases h.2 with ⟨rfl, _⟩ | ⟨g, cap, cur, rfl, _, hgb, _⟩
  · exact .inl rfl
  · refine .inr fun e' => ?_
    obtain ⟨o, ho, hc⟩ := hr g (by simpa [Value.ownBlock] using e'.symm)
    rw [hgb] at ho; cases ho; cases hc
theorem box_own {X Y : World} {row : Option Nat} {B : Nat} {t : TypeId} {v : Value} (h : Boxed X B t v) (hg : X.grownBy Y row) (hr : ∀ r, row = some r → ∃ o : Obj, X.heap[r]? = some o ∧ o.isCells = false) : Boxed Y B t v := by
  refine h.kept hg fun e => ?_
  obtain ⟨o, ho, hc⟩ := hr B e.symm
  rw [show X.heap[B]? = _ from h] at ho; cases ho; cases hc
/-- What lies in a round of Snapshot. -/
def InSn (n₀ B Bs Bn : Nat) (sv : Value) (bss : List (List Ch)) (W : World) : Prop := ∃ v, Boxed W B 145 v ∧ Bat W n₀ v bss ∧ Boxed W Bs 29 sv ∧ Boxed W Bn 3 (.int .i64 20)
theorem InSn.own (n₀ B Bs Bn : Nat) (sv : Value) (f : List Nat → List (List Ch)) : Own (fun pre W => InSn n₀ B Bs Bn sv (f pre) W) := by
  rintro s X Y row ⟨v, hv, ⟨vs, h1, h2, h3⟩, h4, h5⟩ hg hr
  exact ⟨v, box_own hv hg hr, ⟨vs, row_own h1 hg hr, fun i hi => row_own (h2 i hi) hg hr, h3⟩, box_own h4 hg hr, box_own h5 hg hr⟩
theorem keeps_below {W W' : World} (h : Below W.heap.size W W') : KeepsOthers W W' := ⟨h.size, fun k o hk _ => (h.block k (Array.getElem?_eq_some_iff.1 hk).1).trans hk⟩
theorem InSn.push {W wr w1 : World} {n₀ B Bs Bn : Nat} {sv v v' y : Value} {bss : List (List Ch)} {cs : List Ch} {vs : List Value} {tmp : Obj} (hn : n₀ ≤ W.heap.size) (hB : n₀ ≤ B) (hv : Boxed W B 145 v) (h1 : W.ownsRow n₀ 54 1 v bss.length vs) (h2 : ∀ i, i < bss.length → W.ownsRow n₀ 69 3 (vs.getD i nov) (bss.getD i []).length (chcells (bss.getD i [])))
    (h3 : ∀ i j k, i < j → j < bss.length → (vs.getD i nov).ownBlock = some k → (vs.getD j nov).ownBlock ≠ some k) (hs : Boxed W Bs 29 sv) (hm : Boxed W Bn 3 (.int .i64 20)) (hbw : Below W.heap.size W wr)
    (hy : wr.ownsRow W.heap.size 69 3 y cs.length (chcells cs)) (ho : w1.ownsRow n₀ 54 1 v' (bss.length + 1) (vs ++ [y])) (hg : (wr.alloc tmp).grownBy w1 v.ownBlock) :
    Boxed w1 B 145 v ∧ InSn n₀ B Bs Bn sv (bss ++ [cs]) (w1.setCell ⟨B, 0, none⟩ v') ∧ KeepsOthers W (w1.setCell ⟨B, 0, none⟩ v') ∧ KpC n₀ Bs Bn W (w1.setCell ⟨B, 0, none⟩ v') := by
  have bx : ∀ {b : Nat} {t : TypeId} {u : Value}, Boxed W b t u → Boxed wr b t u := fun h => (hbw.block _ h.lt).trans h
  have h1r := owns_below h1 hbw
  have hv1 : Boxed w1 B 145 v := ((bx hv).alloc tmp).kept hg ((bx hv).not_row (by decide) h1r)
  have hs1 : Boxed w1 Bs 29 sv := ((bx hs).alloc tmp).kept hg ((bx hs).not_row (by decide) h1r)
  have hm1 : Boxed w1 Bn 3 (.int .i64 20) := ((bx hm).alloc tmp).kept hg ((bx hm).not_row (by decide) h1r)
  have hbat : Bat w1 n₀ v' (bss ++ [cs]) := Bat.push (h1r.alloc tmp) (fun i hi => (owns_below (h2 i hi) hbw).alloc tmp) h3 ((owns_mono hy hn).alloc tmp) (fun i k hi he e => by
    have a1 := (h2 i hi).lt k he
    have a2 := hy.lt k e
    omega) ho hg
  have ns : Bs ≠ B := fun e => by
    have := (show W.heap[Bs]? = _ from hs)
    rw [e, show W.heap[B]? = _ from hv] at this
    simp at this
  have nm : Bn ≠ B := fun e => by
    have := (show W.heap[Bn]? = _ from hm)
    rw [e, show W.heap[B]? = _ from hv] at this
    simp at this
  have hs2 : Boxed (w1.setCell ⟨B, 0, none⟩ v') Bs 29 sv := hs1.kept (grownBy_setCell' w1 B v') (by simp [ns])
  have hm2 : Boxed (w1.setCell ⟨B, 0, none⟩ v') Bn 3 (.int .i64 20) := hm1.kept (grownBy_setCell' w1 B v') (by simp [nm])
  refine ⟨hv1, ⟨v', hv1.set v', hbat.boxed hv1, hs2, hm2⟩, ?_, ?_, hs2.cell.trans hs.cell.symm, hm2.cell.trans hm.cell.symm⟩
  · refine (((keeps_below hbw).trans (KeepsOthers.alloc _ tmp)).trans (KeepsOthers.of_grownBy hg fun j o ej hj => ?_)).trans (KeepsOthers.setCell _ _ _)
    rcases (h1r.alloc tmp).2 with ⟨rfl, _⟩ | ⟨g, cap, cur, rfl, _, hgb, _⟩
    · simp [Value.ownBlock] at ej
    · obtain rfl : g = j := by simpa [Value.ownBlock] using ej
      rw [hgb] at hj; cases hj; rfl
  · refine ((((Below.refl n₀ W).trans (hbw.mono hn)).alloc (by have := hbw.size; omega) tmp).grown hg (by have := hbw.size; simp; omega) fun j ej => ?_).setCell (p := ⟨B, 0, none⟩) hB v'
    exact (h1.lt j ej).1
theorem InSn.below {W W' : World} {n₀ B Bs Bn : Nat} {sv : Value} {bss : List (List Ch)} (h : InSn n₀ B Bs Bn sv bss W) (hb : Below W.heap.size W W') : InSn n₀ B Bs Bn sv bss W' := by
  obtain ⟨v, hv, h1, h2, h3⟩ := h
  exact ⟨v, (hb.block _ hv.lt).trans hv, h1.below hb, (hb.block _ h2.lt).trans h2, (hb.block _ h3.lt).trans h3⟩
theorem prs_part {w : World} {b o : Nat} {rs : List Pr} (h : Prs w (some ⟨b, o, none⟩) rs) (k : Nat) : Prs w (some ⟨b, o + k * 20 * 2, none⟩) ((rs.drop (k * 20)).take 20) := by
  rcases h with h | ⟨b', o', h1, h2, h3⟩
  · subst h; exact .inl (by simp)
  · cases h1
    refine .inr ⟨b, o + k * 20 * 2, rfl, h2, fun i hi => ?_⟩
    simp only [List.length_take, List.length_drop] at hi
    have := h3 (k * 20 + i) (by omega)
    rw [show o + k * 20 * 2 + i * 2 = o + (k * 20 + i) * 2 by omega]
    have e : ((rs.drop (k * 20)).take 20).getD i (ByteArray.empty, ByteArray.empty) = rs.getD (k * 20 + i) (ByteArray.empty, ByteArray.empty) := by
      simp [List.getD, List.getElem?_take, List.getElem?_drop, show i < 20 by omega]
    rw [e]
    exact this
end Go.Proofs.YtnmaknnnmjfhkagGreatDoor

namespace Go.Proofs.YtnmaknnnmjfhkagGreatDoor
open Go.RowKit
set_option maxRecDepth 4000
set_option linter.unusedVariables false
set_option linter.unusedSimpArgs false
theorem nums_range' (r : ByteArray) : ∀ y ∈ nums r, 0 ≤ y ∧ y ≤ 255 := by
  intro y hy
  unfold nums at hy
  obtain ⟨c, _, rfl⟩ := List.mem_map.1 hy
  have := UInt8.toNat_lt c
  omega
theorem nums_extract (b : ByteArray) (i j : Nat) : nums (b.extract i j) = ((nums b).take j).drop i := by
  unfold nums
  rw [← List.map_take, ← List.map_drop, ByteArray.data_extract, Array.toList_extract]
  simp [List.extract, List.drop_take]
theorem numOf_rng : ∀ (k : Nat) (ys : List Int), ys.length = k → (∀ y ∈ ys, 0 ≤ y ∧ y ≤ 255) → 0 ≤ numOf ys ∧ numOf ys < (256 : Int) ^ k := by
  intro k
  induction k with
  | zero => intro ys hl _; have : ys = [] := List.eq_nil_of_length_eq_zero hl; subst this; simp [numOf]
  | succ k ih =>
    intro ys hl hy
    have hne : ys ≠ [] := by intro h; subst h; simp at hl
    have hd := List.dropLast_concat_getLast hne
    have h1 := ih ys.dropLast (by simp; omega) (fun y h => hy y (List.dropLast_subset _ h))
    have h2 := hy _ (List.getLast_mem hne)
    rw [← hd, numOf_snoc, Int.pow_succ]
    omega
theorem numOf_one (y : Int) : numOf [y] = y := by simp [numOf]
/-- The fields of the page that a text would be, out of its bytes. -/
theorem rp_fields (s : ByteArray) (n : Nat) (hs : s.size = 64) (h2 : n ≤ 8) {b : ByteArray} (hb : b = s.extract n 64) :
    (rpN b : Int) = numOf (((nums s).drop (n + 7)).take 1) ∧ rpK b = numOf (((nums s).drop n).take 1) ∧ rpL b = numOf (((nums s).drop (n + 1)).take 2) ∧ rpM b = numOf (((nums s).drop (n + 3)).take 4) ∧ rpP b = strOfNums (((nums s).drop (n + 8)).take (rpN b)) := by
  have hn : nums b = (nums s).drop n := by rw [hb, nums_extract, List.take_of_length_le (by rw [nums_length]; omega)]
  have hbz : b.data.toList.length = 64 - n := by have := nums_length s; have h := congrArg List.length hn; rw [List.length_drop, nums_length, nums_length, hs] at h; exact h
  have one : ∀ i, i < 64 - n → numOf (((nums s).drop (n + i)).take 1) = ((b.data.toList.getD i 0).toNat : Int) := fun i hi => by
    rw [← List.drop_drop, ← hn]
    unfold nums
    rw [← List.map_drop, ← List.map_take, List.drop_eq_getElem_cons (by omega)]
    simp only [List.take_succ_cons, List.take_zero, List.map_cons, List.map_nil, numOf_one]
    rw [List.getD_eq_getElem?_getD, List.getElem?_eq_getElem (by omega)]
    rfl
  refine ⟨?_, ?_, ?_, ?_, ?_⟩
  · rw [one 7 (by omega)]; rfl
  · have := one 0 (by omega); rw [Nat.add_zero] at this; rw [this]; rfl
  · unfold rpL; rw [nums_extract, hn]; simp [List.drop_take, List.drop_drop]
  · unfold rpM; rw [nums_extract, hn]; simp [List.drop_take, List.drop_drop]
  · unfold rpP
    rw [← strOfNums_nums (b.extract 8 (8 + rpN b)), nums_extract, hn]
    simp [List.drop_take, List.drop_drop]
end Go.Proofs.YtnmaknnnmjfhkagGreatDoor

namespace Go.Proofs.YtnmaknnnmjfhkagGreatDoor
open Go.RowKit
set_option maxRecDepth 4000
set_option linter.unusedVariables false
set_option linter.unusedSimpArgs false
abbrev RtT := Int × Int × Int × Int
/-- Half and First out of a root's Part. -/
def ptH (p : ByteArray) : Int := numOf ((nums p).take 1)
def ptF (p : ByteArray) : Int := numOf (((nums p).drop 1).take 4)
/-- The root that counts in a sector. -/
def rootOf (s : ByteArray) (a n : Int) : Option RtT :=
  match rpRes s n with
  | none => none
  | some (_, l, m, p) => if p.size = 5 ∧ rtForm m (ptH p) (ptF p) l n = s ∧ m % 2 = a then some (m, ptH p, ptF p, l) else none
theorem rpRes_some {s : ByteArray} {n k l m : Int} {p : ByteArray} (h : rpRes s n = some (k, l, m, p)) : s.size = 64 ∧ formOf k l m p n = s ∧ 1 ≤ m ∧ m ≤ 1000000000 ∧ 1 ≤ l ∧ l ≤ 60000 ∧ p.size ≤ 64 := by
  unfold rpRes at h
  split at h
  · rename_i hh
    obtain ⟨h1, h2, h3, h4, h5⟩ := hh
    simp only [Option.some.injEq, Prod.mk.injEq] at h
    obtain ⟨rfl, rfl, rfl, rfl⟩ := h
    refine ⟨h3, h5, ?_⟩
    have hok : pageOk (rpK (s.extract n.toNat 64)) (rpL (s.extract n.toNat 64)) (rpM (s.extract n.toNat 64)) (rpP (s.extract n.toNat 64)) n = true := by
      cases hc : pageOk (rpK (s.extract n.toNat 64)) (rpL (s.extract n.toNat 64)) (rpM (s.extract n.toNat 64)) (rpP (s.extract n.toNat 64)) n with
      | true => rfl
      | false =>
        exfalso
        unfold formOf at h5
        rw [hc, if_neg (by simp)] at h5
        rw [← h5] at h3
        exact absurd h3 (by decide)
    have hd := of_decide_eq_true (by unfold pageOk at hok; exact hok)
    omega
  · cases h
theorem rootOf_turn {s : ByteArray} {a n : Int} {x : RtT} (h : rootOf s a n = some x) : 1 ≤ x.1 := by
  unfold rootOf at h
  split at h
  · cases h
  · rename_i k l m p hp
    split at h
    · simp only [Option.some.injEq] at h
      subst h
      exact (rpRes_some hp).2.2.1
    · cases h
/-- The better of two roots. -/
def rtMax (b : RtT) (o : Option RtT) : RtT := match o with
  | none => b
  | some r => if b.1 < r.1 then r else b
/-- What FindRoot finds in the sectors 0 and 1. -/
def frOf (s0 s1 : ByteArray) (n : Int) : RtT := rtMax (rtMax (0, 0, 1, 0) (rootOf s0 0 n)) (rootOf s1 1 n)
def rtZ : RtT := (0, 0, 0, 0)
/-- As the program goes about it. -/
def rtStep (b r : RtT) : RtT := if b.1 < r.1 then r else b
theorem fr_eq (s0 s1 : ByteArray) (n : Int) : (if rtStep (rtStep rtZ ((rootOf s0 0 n).getD rtZ)) ((rootOf s1 1 n).getD rtZ) = rtZ then ((0, 0, 1, 0) : RtT) else rtStep (rtStep rtZ ((rootOf s0 0 n).getD rtZ)) ((rootOf s1 1 n).getD rtZ)) = frOf s0 s1 n := by
  unfold frOf
  cases h0 : rootOf s0 0 n with
  | none =>
    cases h1 : rootOf s1 1 n with
    | none => simp [rtStep, rtZ, rtMax]
    | some y =>
      have := rootOf_turn h1
      obtain ⟨y1, y2, y3, y4⟩ := y
      have hy : (0 : Int) < y1 := by show 0 < y1; have : 1 ≤ y1 := this; omega
      have hne : ¬ y1 = 0 := by omega
      simp [rtStep, rtZ, rtMax, hy, hne]
  | some x =>
    have hx1 := rootOf_turn h0
    obtain ⟨x1, x2, x3, x4⟩ := x
    have hx : (0 : Int) < x1 := by have : 1 ≤ x1 := hx1; omega
    have hnx : ¬ x1 = 0 := by omega
    cases h1 : rootOf s1 1 n with
    | none =>
      have hl : ¬ x1 < 0 := by omega
      simp [rtStep, rtZ, rtMax, hx, hnx, hl]
    | some y =>
      have hy1 := rootOf_turn h1
      obtain ⟨y1, y2, y3, y4⟩ := y
      have hny : ¬ y1 = 0 := by have : 1 ≤ y1 := hy1; omega
      by_cases hxy : x1 < y1
      · simp [rtStep, rtZ, rtMax, hx, hnx, hxy, hny]
      · simp [rtStep, rtZ, rtMax, hx, hnx, hxy, hny]
end Go.Proofs.YtnmaknnnmjfhkagGreatDoor

namespace Go.Proofs.YtnmaknnnmjfhkagGreatDoor
open Go.RowKit
set_option maxRecDepth 4000
set_option linter.unusedVariables false
set_option linter.unusedSimpArgs false

/-- Whether a page (Kind k, Life l) goes on behind another one (Kind wk, Life wl). -/
def goesP (wk wl k l : Int) : Bool := decide (wl ≤ l) && (if k = 3 then decide (wk ≠ 1) else (decide (k = 1) || decide (k = 2)) && (decide (wk ≠ 1) || decide (wl = l)))
/-- What a scan has: entries, Used, Life. -/
abbrev Scd := List ByteArray × Int × Int
/-- The sectors from a place on, so many, read page by page: what is behind the first of them. -/
def scanP (S : Nat → ByteArray) (frm : Nat) (first n : Int) : Nat → Nat → Int → Int → ByteArray → Scd → Scd
  | 0, _, _, _, _, out => out
  | f + 1, i, wk, wl, op, out =>
    match rpRes (S (frm + i)) n with
    | none => out
    | some (k, l, m, p) => if IntKind.i64.wrap (m - (i : Int)) = first ∧ goesP wk wl k l = true then
        (if k = 1 then scanP S frm first n f (i + 1) k l (op ++ p) out
         else scanP S frm first n f (i + 1) k l ByteArray.empty (if k = 2 then out.1 ++ [op ++ p] else out.1, (i : Int) + 1, l))
      else out
theorem scanP_none {S : Nat → ByteArray} {frm : Nat} {first n : Int} {f i : Nat} {wk wl : Int} {op : ByteArray} {out : Scd} (h : rpRes (S (frm + i)) n = none) : scanP S frm first n f i wk wl op out = out := by
  cases f with
  | zero => rfl
  | succ f => rw [scanP, h]
theorem scanP_no {S : Nat → ByteArray} {frm : Nat} {first n : Int} {f i : Nat} {wk wl k l m : Int} {p op : ByteArray} {out : Scd} (h : rpRes (S (frm + i)) n = some (k, l, m, p)) (hn : ¬ (IntKind.i64.wrap (m - (i : Int)) = first ∧ goesP wk wl k l = true)) : scanP S frm first n f i wk wl op out = out := by
  cases f with
  | zero => rfl
  | succ f => rw [scanP, h]; simp only; rw [if_neg hn]
theorem scanP_part {S : Nat → ByteArray} {frm : Nat} {first n : Int} {f i : Nat} {wk wl l m : Int} {p op : ByteArray} {out : Scd} (h : rpRes (S (frm + i)) n = some (1, l, m, p)) (hn : IntKind.i64.wrap (m - (i : Int)) = first) (hg : goesP wk wl 1 l = true) : scanP S frm first n (f + 1) i wk wl op out = scanP S frm first n f (i + 1) 1 l (op ++ p) out := by
  rw [scanP, h]; simp only; rw [if_pos ⟨hn, hg⟩, if_pos trivial]
theorem scanP_end {S : Nat → ByteArray} {frm : Nat} {first n : Int} {f i : Nat} {wk wl k l m : Int} {p op : ByteArray} {out : Scd} (h : rpRes (S (frm + i)) n = some (k, l, m, p)) (hn : IntKind.i64.wrap (m - (i : Int)) = first) (hg : goesP wk wl k l = true) (hk : k ≠ 1) : scanP S frm first n (f + 1) i wk wl op out = scanP S frm first n f (i + 1) k l ByteArray.empty (if k = 2 then out.1 ++ [op ++ p] else out.1, (i : Int) + 1, l) := by
  rw [scanP, h]; simp only; rw [if_pos ⟨hn, hg⟩, if_neg hk]
/-- The program's way to say it. -/
def goesI (wk wl k l : Int) : Bool := if k = 1 ∨ k = 2 then (decide (l = wl) || (!decide (wk = 1) && decide (wl < l))) else if k = 3 then decide (wl ≤ l) && !decide (wk = 1) else false
theorem goes_eq (wk wl k l : Int) : goesI wk wl k l = goesP wk wl k l := by
  unfold goesI goesP
  rw [Bool.eq_iff_iff]
  by_cases h3 : k = 3
  · subst h3
    simp
  · by_cases h12 : k = 1 ∨ k = 2
    · have hd : (decide (k = 1) || decide (k = 2)) = true := by simpa using h12
      rw [if_pos h12, if_neg h3, hd]
      by_cases h1 : wk = 1
      · subst h1; simp; omega
      · simp [h1]; omega
    · have hd : (decide (k = 1) || decide (k = 2)) = false := by simpa using h12
      rw [if_neg h12, if_neg h3, if_neg h3, hd]
      simp
/-- Ahead of the first page: Kind 0 or Kind 2 is the same. -/
theorem scanP_begin (S : Nat → ByteArray) (frm : Nat) (first n : Int) (f i : Nat) (wl : Int) (op : ByteArray) (out : Scd) : scanP S frm first n f i 2 wl op out = scanP S frm first n f i 0 wl op out := by
  cases f with
  | zero => rfl
  | succ f =>
    rw [scanP, scanP]
    have : ∀ k l, goesP 2 wl k l = goesP 0 wl k l := fun k l => by unfold goesP; simp
    simp only [this]
/-- How long the entries may be. -/
theorem scanP_size (S : Nat → ByteArray) (frm : Nat) (first n : Int) : ∀ (f i : Nat) (wk wl : Int) (op : ByteArray) (out : Scd) (B : Nat), op.size + 64 * f ≤ B → (∀ e ∈ out.1, e.size ≤ B) → (∀ e ∈ (scanP S frm first n f i wk wl op out).1, e.size ≤ B) ∧ (scanP S frm first n f i wk wl op out).1.length ≤ out.1.length + f
  | 0, i, wk, wl, op, out, B, _, h2 => ⟨h2, by simp [scanP]⟩
  | f + 1, i, wk, wl, op, out, B, h1, h2 => by
    rw [scanP]
    split
    · exact ⟨h2, by omega⟩
    · rename_i k l m p hp
      have hps := (rpRes_some hp).2.2.2.2.2.2
      split
      · split
        · have := scanP_size S frm first n f (i + 1) k l (op ++ p) out B (by rw [ByteArray.size_append]; omega) h2
          exact ⟨this.1, by omega⟩
        · have := scanP_size S frm first n f (i + 1) k l ByteArray.empty (if k = 2 then out.1 ++ [op ++ p] else out.1, (i : Int) + 1, l) B (by show 0 + _ ≤ _; omega) (by
            intro e he
            simp only at he
            split at he
            · rw [List.mem_append] at he
              rcases he with he | he
              · exact h2 e he
              · simp at he; subst he; rw [ByteArray.size_append]; omega
            · exact h2 e he)
          refine ⟨this.1, Nat.le_trans this.2 ?_⟩
          simp only
          split
          · simp; omega
          · omega
      · exact ⟨h2, by omega⟩
/-- What is used, and which Life. -/
theorem scanP_used (S : Nat → ByteArray) (frm : Nat) (first n : Int) : ∀ (f i : Nat) (wk wl : Int) (op : ByteArray) (out : Scd), (0 ≤ out.2.1 ∧ out.2.1 ≤ (i : Int)) → 0 ≤ (scanP S frm first n f i wk wl op out).2.1 ∧ (scanP S frm first n f i wk wl op out).2.1 ≤ (i : Int) + f
  | 0, i, wk, wl, op, out, h => by rw [scanP]; omega
  | f + 1, i, wk, wl, op, out, h => by
    rw [scanP]
    split
    · omega
    · rename_i k l m p hp
      split
      · split
        · have := scanP_used S frm first n f (i + 1) k l (op ++ p) out (by omega)
          omega
        · have := scanP_used S frm first n f (i + 1) k l ByteArray.empty (if k = 2 then out.1 ++ [op ++ p] else out.1, (i : Int) + 1, l) (by show 0 ≤ (i : Int) + 1 ∧ (i : Int) + 1 ≤ _; omega)
          omega
      · omega
theorem scanP_life (S : Nat → ByteArray) (frm : Nat) (first n : Int) : ∀ (f i : Nat) (wk wl : Int) (op : ByteArray) (out : Scd), (scanP S frm first n f i wk wl op out).2.2 = out.2.2 ∨ (1 ≤ (scanP S frm first n f i wk wl op out).2.2 ∧ (scanP S frm first n f i wk wl op out).2.2 ≤ 60000)
  | 0, i, wk, wl, op, out => .inl rfl
  | f + 1, i, wk, wl, op, out => by
    rw [scanP]
    split
    · exact .inl rfl
    · rename_i k l m p hp
      have hl := rpRes_some hp
      split
      · split
        · exact scanP_life S frm first n f (i + 1) k l (op ++ p) out
        · rcases scanP_life S frm first n f (i + 1) k l ByteArray.empty (if k = 2 then out.1 ++ [op ++ p] else out.1, (i : Int) + 1, l) with h | h
          · right
            rw [h]
            show 1 ≤ l ∧ l ≤ 60000
            omega
          · exact .inr h
      · exact .inl rfl
end Go.Proofs.YtnmaknnnmjfhkagGreatDoor

namespace Go.Proofs.YtnmaknnnmjfhkagGreatDoor
open Go.RowKit
set_option maxRecDepth 4000
set_option linter.unusedVariables false
set_option linter.unusedSimpArgs false

set_option maxHeartbeats 16000000 in
theorem readpage_s_any (s : ByteArray) (n : Int) (w : World) (hs : s.size ≤ 1048576) : Calls Tryz.prog 107 #[.string s, .int .i64 n] w fun e w' => e = .returned (rpV (rpRes s n)) ∧ Below w.heap.size w w' := by
  have hb0 : ∀ o, Below w.heap.size w (w.alloc o) := fun o => (Below.refl _ _).alloc (Nat.le_refl _) _
  by_cases hn : 1 ≤ n ∧ n ≤ 8
  · obtain ⟨m, rfl⟩ : ∃ m : Nat, n = (m : Int) := ⟨n.toNat, by omega⟩
    have hd : decide (1 ≤ (m : Int) ∧ (m : Int) ≤ 8) = true := by simp; omega
    by_cases h64 : s.size = 64
    · by_cases hN : rpN (s.extract m 64) ≤ 56 - m
      · exact readpage_s s m w h64 (by omega) (by omega) hN
      · have HR := hid0 (rpRes_no (s := s) (n := (m : Int)) (fun hh => hN (by have := hh.2.2.2.1; rw [Int.toNat_natCast] at this; omega)))
        have hs' : (s.size : Int) = 64 := by omega
        obtain ⟨b, hb⟩ : ∃ b, s.extract m 64 = b := ⟨_, rfl⟩
        have hbz : b.size = 64 - m := by rw [← hb]; simp only [ByteArray.size_extract]; omega
        obtain ⟨q, hq⟩ : ∃ q : Nat, b.size = q := ⟨_, rfl⟩
        have l7 : 7 < b.size := by omega
        have g7 := getb b 7 l7
        rw [hb] at hN
        obtain ⟨N, hN2⟩ : ∃ N, N = (b.data.toList.getD 7 0).toNat := ⟨_, rfl⟩
        rw [← hN2] at g7
        have hNl : (64 - (m : Int) - 8) < (N : Int) := by have : rpN b = N := hN2.symm; omega
        have hNb : N ≤ 255 := by rw [hN2]; have := UInt8.toNat_lt (b.data.toList.getD 7 0); omega
        have hm7 : (7 : Int) < (q : Int) := by omega
        have hm1 : m + q = 64 := by omega
        clear hbz hN2 hN
        go_enter Tryz.func107, Tryz.ntmps107
        go_wp2_with (first | (go_at_call 49; refine (width_s _ _).mono ?_; rw [hd]; rintro e w2 ⟨rfl, rfl⟩) | (go_at_call 192; refine (part_s _ _ (by omega) (by omega)).mono ?_; rintro e w2 ⟨rfl, rfl⟩))
        refine bodyPost_ret (v := .tuple #[pageV 0 0 0 ⟨#[]⟩, .bool false]) (by simp [results, Tryz.results107, go_sem]) rfl ⟨by rw [HR.out]; rfl, ?_⟩
        exact hb0 _
    · have HR := hid0 (rpRes_no (s := s) (n := (m : Int)) (fun hh => h64 hh.2.2.1))
      have hs' : ((s.size : Int) != 64) = true := by simp; omega
      clear h64
      go_enter Tryz.func107, Tryz.ntmps107
      go_wp2_with (first | (go_at_call 49; refine (width_s _ _).mono ?_; rw [hd]; rintro e w2 ⟨rfl, rfl⟩))
      refine bodyPost_ret (v := .tuple #[pageV 0 0 0 ⟨#[]⟩, .bool false]) (by simp [results, Tryz.results107, go_sem]) rfl ⟨by rw [HR.out]; rfl, ?_⟩
      exact hb0 _
  · have HR := hid0 (rpRes_no (s := s) (n := n) (fun hh => hn ⟨hh.1, hh.2.1⟩))
    have hd : decide (1 ≤ n ∧ n ≤ 8) = false := by simpa using hn
    clear hn
    go_enter Tryz.func107, Tryz.ntmps107
    go_wp2_with (first | (go_at_call 49; refine (width_s _ _).mono ?_; rw [hd]; rintro e w2 ⟨rfl, rfl⟩))
    refine bodyPost_ret (v := .tuple #[pageV 0 0 0 ⟨#[]⟩, .bool false]) (by simp [results, Tryz.results107, go_sem]) rfl ⟨by rw [HR.out]; rfl, ?_⟩
    exact hb0 _
end Go.Proofs.YtnmaknnnmjfhkagGreatDoor

namespace Go.Proofs.YtnmaknnnmjfhkagGreatDoor
open Go.RowKit
set_option maxRecDepth 4000
set_option linter.unusedVariables false
set_option linter.unusedSimpArgs false

theorem pc_size {r k m : ByteArray} (h : pc r = some (k, m)) : m.size ≤ r.size := by
  have := congrArg List.length (pc_some h).1
  simp [nums_length] at this
  omega
theorem change_i (r : ByteArray) (w : World) (hs : r.size ≤ 1048576) (h0 : 0 < r.size) : Calls Tryz.prog 222 #[.string r] w fun e w' => chgPost (stpV r) e ∧ Below w.heap.size w w' := by
  unfold stpV
  by_cases hb : 1 < b0 r
  · rw [if_pos hb]; exact change_bad r w hs h0 hb
  · rw [if_neg hb]
    unfold stp
    cases hp : pc (r.extract 1 r.size) with
    | none =>
      rcases Nat.eq_zero_or_pos (b0 r) with h1 | h1
      · exact change_sn r w hs h0 h1 hp
      · exact change_gn r w hs h0 (by omega) hp
    | some p =>
      obtain ⟨k, m⟩ := p
      have hmz : m.size ≤ 1048576 := by have := pc_size hp; simp only [ByteArray.size_extract] at this; omega
      rcases Nat.eq_zero_or_pos (b0 r) with h1 | h1
      · simp only
        rw [if_neg (by omega)]
        cases hq : pc m with
        | none => exact change_ssn r w hs h0 h1 k m hp hmz hq
        | some q =>
          obtain ⟨v, m'⟩ := q
          exact rbchange_s r w hs h0 h1 k m hp hmz v m' hq
      · simp only
        rw [if_pos (by omega)]
        exact change_g r w hs h0 (by omega) k m hp
end Go.Proofs.YtnmaknnnmjfhkagGreatDoor

namespace Go.Proofs.YtnmaknnnmjfhkagGreatDoor
open Go.RowKit
set_option maxRecDepth 4000
set_option linter.unusedVariables false
set_option linter.unusedSimpArgs false

theorem info_ch' : (Tryz.prog.info? 69).map (fun i => (i.zero, i.size, i.bytes)) = some (some (.agg #[.string ByteArray.empty, .string ByteArray.empty, .bool false]), 3, 40) := by kernel_rfl
theorem info_partsC {P : Program} {e : TypeId} {z : Value} {size bytes : Nat} (h : (P.info? e).map (fun i => (i.zero, i.size, i.bytes)) = some (some z, size, bytes)) : ∃ i, P.info? e = some i ∧ i.zero = some z ∧ i.size = size ∧ i.bytes = bytes := by
  obtain ⟨i, hi, hh⟩ := Option.map_eq_some_iff.1 h
  simp only [Prod.mk.injEq] at hh
  exact ⟨i, hi, hh⟩
theorem below_grownC {W w w1 : World} {e : TypeId} {size : Nat} {v : Value} {n B : Nat} {xs : List Value} (hb : Below B W w) (own : w.ownsRow B e size v n xs) (hg : w.grownBy w1 v.ownBlock) (hB : B ≤ w.heap.size) : Below B W w1 :=
  hb.trans ⟨hg.os, hg.tape, hg.output, hg.size, fun k hk => hg.block k (by omega) (fun he => by have := (own.lt k he.symm).1; omega)⟩
theorem stp_size {r r1 : ByteArray} {c : Ch} (hr : 0 < r.size) (h : stp r = some (c, r1)) : r1.size < r.size ∧ c.1.size ≤ 255 ∧ c.2.1.size ≤ 255 := by
  obtain ⟨k1, k2, t, k3, k4⟩ := stp_some hr h
  refine ⟨?_, k1, k2⟩
  have e1 := congrArg List.length k3
  have e2 := congrArg List.length k4
  rw [nums_length] at e2
  rw [List.length_append, nums_length] at e1
  have e3 : 2 ≤ (chN c).length := by unfold chN; split <;> simp <;> omega
  simp only [List.length_cons] at e1 e2
  omega
/-- What ReadBatch answers, and that what it answers is its own. -/
def RbPost (w w' : World) (e : Ending) (res : Option (List Ch)) : Prop := ∃ a c, e = .returned (.tuple #[.slice a (res.getD []).length c, .bool res.isSome]) ∧ OwnS w' a (chcells (res.getD [])) ∧ (∀ g, blk a (res.getD []).length = some g → w.heap.size ≤ g) ∧ Below w.heap.size w w'
theorem rbPost_none {w w' : World} {v : Value} {a : Option Addr} {c : Nat} (hv : v = .tuple #[.slice a 0 c, .bool false]) (hb : Below w.heap.size w w') : RbPost w w' (.returned v) none := ⟨a, c, by rw [hv]; rfl, .inl rfl, fun g h => (by cases h), hb⟩
theorem rbPost_some {w w' : World} {v y : Value} {o : List Ch} {e : TypeId} (h : w'.ownsRow w.heap.size e 3 y o.length (chcells o)) (hv : v = .tuple #[y, .bool true]) (hb : Below w.heap.size w w') : RbPost w w' (.returned v) (some o) := by
  rcases owns_forms h with ⟨h1, h2⟩ | ⟨g, cap, h1, h2, _, h3⟩
  · have : o = [] := List.eq_nil_of_length_eq_zero h2
    subst this
    exact ⟨none, 0, by rw [hv, h1]; rfl, .inl rfl, fun g h => (by cases h), hb⟩
  · refine ⟨_, cap, by rw [hv, h1]; rfl, .inr ⟨g, rfl, h3⟩, fun g' hg' => ?_, hb⟩
    simp only [Option.getD_some] at hg'
    by_cases h0 : o.length = 0
    · rw [h0] at hg'; cases hg'
    · rw [blk_pos g 0 _ h0] at hg'; cases hg'; exact h2
theorem owns_chs {w : World} {B : Nat} {e : TypeId} {y : Value} {o : List Ch} (h : w.ownsRow B e 3 y o.length (chcells o)) : ∃ a c, y = .slice a o.length c ∧ Chs w a o := by
  rcases owns_forms h with ⟨h1, h2⟩ | ⟨g, cap, h1, h2, _, h3⟩
  · have : o = [] := List.eq_nil_of_length_eq_zero h2
    subst this
    exact ⟨none, 0, h1, .inl rfl⟩
  · exact ⟨_, cap, h1, h3.chs⟩
theorem chcells_snoc (o : List Ch) (c : Ch) : chcells (o ++ [c]) = chcells o ++ [.string c.1, .string c.2.1, .bool c.2.2] := by rw [chcells_append]; rfl
theorem news2 (w : World) (A : Obj) (cs : Array Value) (t : TypeId) : ∀ j u, cs.toList[j]? = some u → ((w.alloc A).alloc (.cells cs t)).cell? ((⟨w.heap.size + 1, 0, none⟩ : Addr).add j) = some u := by
  have h := heap_alloc_new (w.alloc A) (.cells cs t)
  rw [World.size_alloc] at h
  exact World.news_of_block h
theorem oneC (k v : ByteArray) (g : Bool) : ∀ u ∈ [Value.string k, .string v, .bool g], u.oneCell' = true := by
  intro u hu
  simp only [List.mem_cons, List.not_mem_nil, or_false] at hu
  rcases hu with rfl | rfl | rfl <;> rfl

set_option maxHeartbeats 16000000 in
theorem read_i (s : ByteArray) (w : World) (hs : s.size ≤ 1048576) : Calls Tryz.prog 158 #[.string s] w fun e w' => RbPost w w' e (resI s) := by
  obtain ⟨R, HR⟩ : ∃ R, Hid (R = resI s) := ⟨_, hid rfl⟩
  rw [← HR.out]
  obtain ⟨i0, hi0, hz0, hz1, hz2⟩ := info_partsC info_ch'
  have HI := hid (And.intro hi0 (And.intro hz0 (And.intro hz1 hz2)))
  clear hi0 hz0 hz1 hz2
  go_enter Tryz.func158, Tryz.ntmps158
  go_wp2_with fail
  go_loopw [0, 4] (fun x y wr => ∃ (j : Nat) (o : List Ch) (r : ByteArray), x = .string r ∧ j + o.length = 21 ∧ r.size ≤ 1048576 ∧ Hid (runI j r o = runI 21 s []) ∧ Hid (∀ z ∈ o, z.1.size ≤ 1048576 ∧ z.2.1.size ≤ 1048576) ∧ wr.ownsRow w.heap.size 69 3 y o.length (chcells o) ∧ Below w.heap.size w wr) (fun x _ _ => match x with | .string r => r.size | _ => 0)
  case atStart => exact ⟨21, [], s, rfl, rfl, hs, rfl, fun z hz => (by simp at hz), World.ownsRow_nil _ _ _ _, Below.refl _ _⟩
  case round =>
    obtain ⟨j, o, r, rfl, hj, hrz, HRN, HOZ, hown, hbel⟩ := hrel
    obtain ⟨ya, yc, rfl, hchs⟩ := owns_chs hown
    have HO := hid hown
    have HB := hid hbel
    have hsz := hbel.size
    have HC := hid hchs
    clear hown hbel hchs
    have fin : ∀ (b : Bool), Hid (runI j r o = some (o, r)) → Hid (R = if batchOk o = true then some o else none) := fun b hh => by
      show _ = _
      have := HRN.out
      rw [hh.out] at this
      rw [HR.out]
      unfold resI
      rw [← this]
    by_cases h0 : r.size = 0
    · have he : r.toList.isEmpty = true := by rw [isEmpty_size]; exact decide_eq_true h0
      have HF := fin true (by show _ = _; cases j <;> simp [runI, h0])
      clear fin
      cases hok : batchOk o with
      | true =>
        rw [hok, if_pos rfl] at HF
        go_wp2_with (go_at_call 92; refine (vbatch_i _ o _ _ HC.out (by omega) HOZ.out).mono ?_; rw [hok]; rintro e w2 ⟨rfl, hb2⟩)
        go_ret2
        rw [HF.out]
        exact rbPost_some (owns_below HO.out hb2) rfl (HB.out.trans (hb2.mono hsz))
      | false =>
        rw [hok, if_neg (by simp)] at HF
        go_wp2_with (go_at_call 92; refine (vbatch_i _ o _ _ HC.out (by omega) HOZ.out).mono ?_; rw [hok]; rintro e w2 ⟨rfl, hb2⟩)
        go_ret2
        rw [HF.out]
        exact rbPost_none rfl (by first | exact HB.out.trans (hb2.mono hsz) | exact (HB.out.trans (hb2.mono hsz)).alloc (by have := hb2.size; omega) _)
    · have he : r.toList.isEmpty = false := by rw [isEmpty_size]; exact decide_eq_false h0
      by_cases hl : (o.length : Int) ≤ 20
      · obtain ⟨j', rfl⟩ : ∃ j', j = j' + 1 := ⟨j - 1, by omega⟩
        have HRN2 := HRN.out
        rw [runI, if_neg h0] at HRN2
        have HPC := hid (change_i r · hrz (by omega))
        clear fin
        by_cases hbad : 1 < b0 r
        · have hst : stpV r = none := by unfold stpV; exact if_pos hbad
          rw [if_pos hbad] at HRN2
          have HF : Hid (R = none) := by show _ = _; rw [HR.out]; unfold resI; rw [← HRN2]
          rw [hst] at HPC
          clear hbad hst
          go_wp2_with (go_at_call 222; refine (HPC.out _).mono ?_; rintro e w2 ⟨⟨a1, a2, a3, a4, rfl⟩, hb2⟩)
          go_ret2
          rw [HF.out]
          exact rbPost_none rfl (by first | exact HB.out.trans (hb2.mono hsz) | exact (HB.out.trans (hb2.mono hsz)).alloc (by have := hb2.size; omega) _)
        · rw [if_neg hbad] at HRN2
          have hst : stpV r = stp r := by unfold stpV; exact if_neg hbad
          rw [hst] at HPC
          clear hbad hst
          cases hq : stp r with
          | none =>
            rw [hq] at HRN2 HPC
            have HF : Hid (R = none) := by show _ = _; rw [HR.out]; unfold resI; rw [← HRN2]
            clear hq
            go_wp2_with (go_at_call 222; refine (HPC.out _).mono ?_; rintro e w2 ⟨⟨a1, a2, a3, a4, rfl⟩, hb2⟩)
            go_ret2
            rw [HF.out]
            exact rbPost_none rfl (by first | exact HB.out.trans (hb2.mono hsz) | exact (HB.out.trans (hb2.mono hsz)).alloc (by have := hb2.size; omega) _)
          | some p =>
            obtain ⟨⟨ck, cv, cg⟩, r1⟩ := p
            obtain ⟨q1, q2, q3⟩ := stp_size (by omega) hq
            rw [hq] at HRN2 HPC
            have HR2 : Hid (runI j' r1 (o ++ [(ck, cv, cg)]) = runI 21 s []) := HRN2
            clear hq HRN2 HRN
            simp only at q2 q3
            go_wp2_with (first | (go_at_call 222; refine (HPC.out _).mono ?_; rintro e w2 ⟨he2, hb2⟩; simp only [chgPost] at he2; subst he2; have hs2 := hb2.size; have HO5 := hid (((owns_below HO.out hb2).alloc (.cells #[.string ck, .string cv, .bool cg] 69)).alloc (.cells #[.string ck, .string cv, .bool cg] 69)); have HB5 := hid (((HB.out.trans (hb2.mono hsz)).alloc (by omega) (.cells #[.string ck, .string cv, .bool cg] 69)).alloc (by simp; omega) (.cells #[.string ck, .string cv, .bool cg] 69)); clear hb2) | (at_builtin; refine wpList_append_lies _ rfl _ _ 54 rfl w.heap.size 69 i0 (.agg #[.string ByteArray.empty, .string ByteArray.empty, .bool false]) 3 40 Tryz.underlying54 HI.out.1 HI.out.2.1 HI.out.2.2.1 HI.out.2.2.2 rfl (by omega) _ o.length _ rfl HO5.out ⟨w2.heap.size + 1, 0, none⟩ 1 1 [.string ck, .string cv, .bool cg] rfl rfl (news2 w2 _ _ _) (oneC _ _ _) (by omega) (by unfold maxLen; omega) (by omega) (by simp; omega) (w2.heap.size + 1 + 1) (by simp) ?_; intro g cap w7 hown7 hgrow7 hat7 hlt7; have HO7 := hid hown7; have HB7 := hid (below_grownC HB5.out HO5.out hgrow7 (by simp; omega)); clear hown7 hgrow7 hat7))
            refine ⟨⟨j', o ++ [(ck, cv, cg)], r1, rfl, by simp; omega, by omega, HR2.out, fun z hz => ?_, ?_, HB7.out⟩, by simp only; omega⟩
            · rcases List.mem_append.1 hz with hz | hz
              · exact HOZ.out z hz
              · simp at hz; subst hz; exact ⟨by simp only; omega, by simp only; omega⟩
            · rw [chcells_snoc, List.length_append]; exact HO7.out
      · have hj0 : j = 0 := by omega
        subst hj0
        have HF := fin true rfl
        clear fin
        have hok : batchOk o = false := batchOk_no1 (by omega)
        rw [hok, if_neg (by simp)] at HF
        go_wp2_with (go_at_call 92; refine (vbatch_i _ o _ _ HC.out (by omega) HOZ.out).mono ?_; rw [hok]; rintro e w2 ⟨rfl, hb2⟩)
        go_ret2
        rw [HF.out]
        exact rbPost_none rfl (HB.out.trans (hb2.mono hsz))
end Go.Proofs.YtnmaknnnmjfhkagGreatDoor

namespace Go.Proofs.YtnmaknnnmjfhkagGreatDoor
open Go.RowKit Go.Lib
set_option linter.unusedVariables false
set_option linter.unusedSimpArgs false
set_option maxRecDepth 8000

/-- 'copy(d, s)' of elements of k cells into a row. -/
theorem run_copy_k {P : Program} (w : World) (dT sT ty elem : TypeId) (k g o dLen dCap : Nat) (a : Addr) (sLen sCap : Nat) (cur : Array Value) (t : TypeId) (cs : List Value) (n : Nat)
    (hu : P.underlying dT = some (.slice elem)) (hs : (P.info? elem).map (·.size) = some k)
    (hg : w.heap[g]? = some (.cells cur t (0, 0))) (hn : Nat.min sLen dLen = n) (hc : cs.length = n * k)
    (hsrc : ∀ j v, cs[j]? = some v → w.cell? (a.add j) = some v) (hfit : o + cs.length ≤ cur.size) (h1 : ∀ v ∈ cs, v.oneCell' = true) :
    (Builtin.copy_ #[dT, sT] ty #[.slice (some ⟨g, o, none⟩) dLen dCap, .slice (some a) sLen sCap]).run P w =
      .ok (goInt n) (w.setRow g (cur.toList.take o ++ cs ++ cur.toList.drop (o + cs.length)).toArray) := by
  have hl := run_loadCells_list (P := P) w a cs hsrc
  have hst := run_storeCells_at P g o t cs 0 cur w hg (by simpa using hfit) h1
  cases hq : P.info? elem with
  | none => simp [hq] at hs
  | some i =>
    have hi : i.size = k := by simpa [hq] using hs
    simp only [Nat.add_zero] at hst
    rw [hc] at hl
    simp [Builtin.copy_, run_underlying hu, Builtin.lenOf, Builtin.firstCells, sizeOf, typeInfo, hq, hi, hn, hl, hst]
/-- 'append(s, x...)' of elements of k cells where there is room. -/
theorem run_append_in {P : Program} (w : World) (t ty e : TypeId) (k g sLen sCap : Nat) (a : Addr) (n c : Nat) (cur : Array Value) (tt : TypeId) (cs : List Value)
    (ht : P.underlying t = some (.slice e)) (hs : (P.info? e).map (·.size) = some k)
    (hg : w.heap[g]? = some (.cells cur tt (0, 0))) (hroom : sLen + n ≤ sCap) (hc : cs.length = n * k)
    (hsrc : ∀ j v, cs[j]? = some v → w.cell? (a.add j) = some v) (hfit : sLen * k + cs.length ≤ cur.size) (h1 : ∀ v ∈ cs, v.oneCell' = true) :
    (Builtin.append_ #[t, t] ty #[.slice (some ⟨g, 0, none⟩) sLen sCap, .slice (some a) n c]).run P w =
      .ok (.slice (some ⟨g, 0, none⟩) (sLen + n) sCap) (w.setRow g (cur.toList.take (sLen * k) ++ cs ++ cur.toList.drop (sLen * k + cs.length)).toArray) := by
  have hl := run_loadCells_list (P := P) w a cs hsrc
  have hst := run_storeCells_at P g (sLen * k) tt cs 0 cur w hg (by simpa using hfit) h1
  have hadd : (⟨g, 0, none⟩ : Addr).add (sLen * k) = ⟨g, sLen * k, none⟩ := by rw [Addr.add_lit]; simp
  cases hq : P.info? e with
  | none => simp [hq] at hs
  | some i =>
    have hi : i.size = k := by simpa [hq] using hs
    simp only [Nat.add_zero] at hst
    rw [hc] at hl
    simp [Builtin.append_, run_underlying ht, Builtin.lenOf, Builtin.firstCells, sizeOf, typeInfo, hq, hi, hl, hst, hroom, hadd]
theorem run_clear_k {P : Program} (w : World) (t ty e : TypeId) (z : Value) (ht : P.underlying t = some (.slice e)) (hv : ∀ w, (zeroValue e).run P w = .ok z w) (g o n c : Nat) (hn : 0 < n) (cur : Array Value) (tt : TypeId) (cs : List Value)
    (hg : w.heap[g]? = some (.cells cur tt (0, 0))) (hcs : (Builtin.zeroCells z.cells n).toList = cs) (hfit : o + cs.length ≤ cur.size) (h1 : ∀ v ∈ cs, v.oneCell' = true) :
    (Builtin.clear_ #[t] ty #[.slice (some ⟨g, o, none⟩) n c]).run P w = .ok (.tuple #[]) (w.setRow g (cur.toList.take o ++ cs ++ cur.toList.drop (o + cs.length)).toArray) := by
  have hst := run_storeCells_at P g o tt cs 0 cur w hg (by simpa using hfit) h1
  simp only [Nat.add_zero] at hst
  obtain ⟨m, rfl⟩ : ∃ m, n = m + 1 := ⟨n - 1, by omega⟩
  simp [Builtin.clear_, run_underlying ht, hv, hcs, hst]
theorem setRow_grown (w : World) (g : Nat) (cs : Array Value) : w.grownBy (w.setRow g cs) (some g) := ⟨rfl, rfl, rfl, by simp [World.setRow], fun k _ hk => setRow_other w g k cs (fun e => hk (by rw [e]))⟩
theorem grown_trans' {w w1 w2 : World} {r : Option Nat} (h : w.grownBy w1 r) (k : w1.grownBy w2 r) : w.grownBy w2 r :=
  ⟨k.os.trans h.os, k.tape.trans h.tape, k.output.trans h.output, Nat.le_trans h.size k.size, fun j hj hne => (k.block j (Nat.lt_of_lt_of_le hj h.size) hne).trans (h.block j hj hne)⟩
theorem cell_of_row {w : World} {g : Nat} {cur : List Value} {t : TypeId} {fr : Nat × Nat} (h : w.heap[g]? = some (.cells cur.toArray t fr)) {j : Nat} {v : Value} (hv : cur[j]? = some v) : w.cell? ⟨g, j, none⟩ = some v := by
  simp [World.cell?, h, hv]
/-- 'append' as one step of a region that draws, by its run. -/
theorem step_append_run {P : Program} {ops : Array Oper} {o : Oper} {a : Act} {w : World} {K : Act → World → Prop} {Q : Exit → Act → World → Prop} {E : Prop}
    (hg : o.guard = none) (d x : Operand) (dT sT : TypeId) (hop : o.op = Op.call { callee := Callee.builtin Builtin.append, args := #[d, x], argTypes := #[dT, sT] })
    (v u : Value) (hd : a.eval d = v) (hx : a.eval x = u) {v' : Value} {w' : World} (hr : (Builtin.append_ #[dT, sT] o.type #[v, u]).run P w = .ok v' w') (hK : K (a.put o.dst v') w') :
    if Region.wanted o (yielded ops a.tmps) = true then Oper.wp P o a w K Q else E := by
  have hw : Region.wanted o (yielded ops a.tmps) = true := by simp [Region.wanted, hg]
  rw [if_pos hw]
  unfold Oper.wp
  simp [execOp, hop, resolve, invoke, builtin, hd, hx, hr, Result.andThen]
  exact hK
end Go.Proofs.YtnmaknnnmjfhkagGreatDoor

namespace Go.Proofs.YtnmaknnnmjfhkagGreatDoor
open Go.RowKit
set_option maxRecDepth 4000
set_option linter.unusedVariables false
set_option linter.unusedSimpArgs false

/-- A region's value. -/
@[reducible] def regV (v0 v1 : Value) (frm size n : Int) : Value := .agg #[.iface 272 (.agg #[v0, v1]), .int .i64 frm, .int .i64 size, .int .i64 n]
/-- A place of a region that holds a page. -/
abbrev Pgs (S : Nat → ByteArray) (frm : Nat) (n : Int) (size : Nat) : Type := { x : Nat // x < size ∧ (rpRes (S (frm + x)) n).isSome = true }
/-- The page there. -/
def pgAt (S : Nat → ByteArray) (frm : Nat) (n : Int) (x : Nat) : Int × Int × Int × ByteArray := (rpRes (S (frm + x)) n).getD (0, 0, 0, ByteArray.empty)
theorem pgAt_some {S : Nat → ByteArray} {frm : Nat} {n : Int} {size : Nat} (x : Pgs S frm n size) {k l m : Int} {p : ByteArray} (h : pgAt S frm n x.1 = (k, l, m, p)) : rpRes (S (frm + x.1)) n = some (k, l, m, p) := by
  unfold pgAt at h
  obtain ⟨y, hy⟩ := Option.isSome_iff_exists.1 x.2.2
  rw [hy] at h ⊢
  simp at h
  rw [h]
/-- These places are one behind the other. -/
def Good {S : Nat → ByteArray} {frm : Nat} {n : Int} {size : Nat} (u : Nat) (pre : List (Pgs S frm n size)) : Prop := pre.map Subtype.val = List.range' u pre.length
theorem Good.nil {S : Nat → ByteArray} {frm : Nat} {n : Int} {size : Nat} (u : Nat) : Good u ([] : List (Pgs S frm n size)) := rfl
theorem Good.snoc {S : Nat → ByteArray} {frm : Nat} {n : Int} {size : Nat} {u : Nat} {pre : List (Pgs S frm n size)} {x : Pgs S frm n size} (h : Good u (pre ++ [x])) : Good u pre ∧ x.1 = u + pre.length := by
  unfold Good at h ⊢
  rw [List.map_append, List.length_append, List.length_singleton, List.range'_concat] at h
  have := List.append_inj h (by simp)
  exact ⟨this.1, by simpa using this.2⟩
theorem Good.push {S : Nat → ByteArray} {frm : Nat} {n : Int} {size : Nat} {u : Nat} {pre : List (Pgs S frm n size)} {x : Pgs S frm n size} (h : Good u pre) (hx : x.1 = u + pre.length) : Good u (pre ++ [x]) := by
  unfold Good at h ⊢
  rw [List.map_append, List.length_append, List.length_singleton, List.range'_concat, h]
  simp [hx]
/-- What is still to come of a scan, behind these pages. -/
def Chn {S : Nat → ByteArray} {frm : Nat} {n : Int} {size : Nat} (first : Int) (RES : Scd) (u : Nat) (pre : List (Pgs S frm n size)) (wk wl : Int) (op : ByteArray) (out : Scd) : Prop :=
  Good u pre → u + pre.length ≤ size ∧ scanP S frm first n (size - (u + pre.length)) (u + pre.length) wk wl op out = RES
section
variable {S : Nat → ByteArray} {frm : Nat} {n : Int} {size : Nat} {first : Int} {RES : Scd} {u : Nat} {pre : List (Pgs S frm n size)} {x : Pgs S frm n size} {wk wl k l m : Int} {p op : ByteArray} {out : Scd}
theorem num_eq {m first : Int} {x : Nat} (hm : 0 ≤ m ∧ m ≤ 4294967296) (hf : -9223372036854775808 ≤ first ∧ first ≤ 9223372036854775807) : IntKind.i64.wrap (m - (x : Int)) = first ↔ m = IntKind.i64.wrap (first + (x : Int)) := by
  simp [IntKind.wrap, IntKind.bits, IntKind.signed]
  omega
theorem Chn.no (h : Chn first RES u pre wk wl op out) (hp : pgAt S frm n x.1 = (k, l, m, p)) (hf : -9223372036854775808 ≤ first ∧ first ≤ 9223372036854775807) (hn : ¬ (m = IntKind.i64.wrap (first + (x.1 : Int)) ∧ goesP wk wl k l = true)) (hg : Good u (pre ++ [x])) : out = RES := by
  obtain ⟨hg1, hx⟩ := hg.snoc
  obtain ⟨h1, h2⟩ := h hg1
  have hr := pgAt_some x hp
  have hm := rpRes_some hr
  rw [← h2, ← hx]
  refine (scanP_no hr ?_).symm
  rw [num_eq (by omega) hf]
  exact hn
theorem Chn.part (h : Chn first RES u pre wk wl op out) (hp : pgAt S frm n x.1 = (1, l, m, p)) (hf : -9223372036854775808 ≤ first ∧ first ≤ 9223372036854775807) (hm1 : m = IntKind.i64.wrap (first + (x.1 : Int))) (hgo : goesP wk wl 1 l = true) : Chn first RES u (pre ++ [x]) 1 l (op ++ p) out := by
  intro hg
  obtain ⟨hg1, hx⟩ := hg.snoc
  obtain ⟨h1, h2⟩ := h hg1
  have hr := pgAt_some x hp
  have hm := rpRes_some hr
  have hlt := x.2.1
  rw [List.length_append, List.length_singleton]
  refine ⟨by omega, ?_⟩
  rw [← h2, show size - (u + pre.length) = (size - (u + (pre.length + 1))) + 1 by omega, ← hx, scanP_part hr ((num_eq (by omega) hf).2 hm1) hgo, show u + (pre.length + 1) = x.1 + 1 by omega]
theorem Chn.end (h : Chn first RES u pre wk wl op out) (hp : pgAt S frm n x.1 = (k, l, m, p)) (hf : -9223372036854775808 ≤ first ∧ first ≤ 9223372036854775807) (hm1 : m = IntKind.i64.wrap (first + (x.1 : Int))) (hgo : goesP wk wl k l = true) (hk : k ≠ 1) (hg : Good u (pre ++ [x])) :
    Chn first RES (x.1 + 1) ([] : List (Pgs S frm n size)) k l ByteArray.empty (if k = 2 then out.1 ++ [op ++ p] else out.1, (x.1 : Int) + 1, l) := by
  intro _
  obtain ⟨hg1, hx⟩ := hg.snoc
  obtain ⟨h1, h2⟩ := h hg1
  have hr := pgAt_some x hp
  have hm := rpRes_some hr
  have hlt := x.2.1
  refine ⟨by simp; omega, ?_⟩
  rw [← h2, show size - (u + pre.length) = (size - (x.1 + 1)) + 1 by omega, ← hx, scanP_end hr ((num_eq (by omega) hf).2 hm1) hgo hk]
  simp
theorem Chn.done (h : Chn first RES u pre wk wl op out) (hg : Good u pre) (he : size ≤ u + pre.length ∨ rpRes (S (frm + (u + pre.length))) n = none) : out = RES := by
  obtain ⟨h1, h2⟩ := h hg
  rw [← h2]
  rcases he with he | he
  · rw [show size - (u + pre.length) = 0 by omega]; rfl
  · exact (scanP_none he).symm
end
end Go.Proofs.YtnmaknnnmjfhkagGreatDoor

namespace Go.Proofs.YtnmaknnnmjfhkagGreatDoor
open Go.RowKit
set_option maxRecDepth 4000
set_option linter.unusedVariables false
set_option linter.unusedSimpArgs false

theorem or_step (y b : Int) (hy0 : 0 ≤ y) (hy1 : y ≤ 1099511627776) (hb0 : 0 ≤ b) (hb1 : b ≤ 255) : bits .or .u64 (IntKind.u64.wrap (y * 256)) (IntKind.u64.wrap b) = y * 256 + b := by
  rw [wrap_u64_id _ (by omega) (by omega), wrap_u64_id _ (by omega) (by omega)]
  obtain ⟨Y, rfl⟩ : ∃ Y : Nat, y = (Y : Int) := ⟨y.toNat, by omega⟩
  obtain ⟨C, rfl⟩ : ∃ C : Nat, b = (C : Int) := ⟨b.toNat, by omega⟩
  have e : ((Y : Int) * 256) = ((256 * Y : Nat) : Int) := by omega
  rw [e, bits_or_u64_nat _ _ (by omega) (by omega)]
  have := Nat.two_pow_add_eq_or_of_lt (i := 8) (b := C) (by omega) Y
  simp only [Nat.reducePow] at this
  rw [← this]
  omega
theorem nopage_i (s : ByteArray) (ty : TypeId) (v : Value) (w : World) (hv : w.cell? ⟨1, 0, none⟩ = some (.iface ty v)) : Calls Tryz.prog 242 #[.string s] w fun e w' => e = .returned (.iface 246 (.pointer (some ⟨w.heap.size, 0, none⟩))) ∧ w' = w.alloc (.cells #[.string s, .iface ty v] 330) := by
  go_enter Tryz.func242, Tryz.ntmps242
  go_wp2
  go_ret
  exact ⟨rfl, rfl⟩

theorem take_i (F o : Nat) (ys : List Int) (c : Nat) (w : World) (hr : ∀ y ∈ ys, 0 ≤ y ∧ y ≤ 255) (hl : ys.length ≤ 4) (hc : ∀ i, i < ys.length → w.cell? ⟨F, o + i, none⟩ = some (.int .u8 (ys.getD i 0))) : Calls Tryz.prog 243 #[.slice (some ⟨F, o, none⟩) ys.length c] w fun e w' => e = .returned (.int .u64 (numOf ys)) ∧ w' = w := by
  have HC := hid0 hc
  clear hc
  go_enter Tryz.func243, Tryz.ntmps243
  go_wp2
  go_loop [3, 5, 8] (fun x _ i => ∃ (k : Nat) (y : Int), k ≤ ys.length ∧ i = .int .i64 (k : Int) ∧ x = .int .u64 y ∧ Hid (y = numOf (ys.take k)) ∧ 0 ≤ y ∧ Hid (y < (256 : Int) ^ k)) (fun _ _ i => ys.length - (intOf i).toNat)
  case atStart => exact ⟨0, 0, Nat.zero_le _, rfl, rfl, by show _ = _; simp [numOf], by omega, by show _ < _; simp⟩
  case round =>
    obtain ⟨k, y, hk, rfl, rfl, HY, hy0, HY1⟩ := hrel
    by_cases hlt : k < ys.length
    · have hck := HC.out k hlt
      obtain ⟨b, hb⟩ : ∃ b, ys.getD k 0 = b := ⟨_, rfl⟩
      rw [hb] at hck
      obtain ⟨hb0, hb1⟩ : 0 ≤ b ∧ b ≤ 255 := by rw [← hb]; exact hr _ (by simp [List.getD, hlt])
      have hlt' : (k : Int) < (ys.length : Int) := by omega
      have h256 : (256 : Int) ^ k ≤ 16777216 := by
        have : k = 0 ∨ k = 1 ∨ k = 2 ∨ k = 3 := by omega
        rcases this with h | h | h | h <;> rw [h] <;> decide
      have HN : Hid (y * 256 + b = numOf (ys.take (k + 1))) := by
        show _ = _
        rw [List.take_succ_eq_append_getElem hlt, numOf_snoc, ← HY.out, ← hb]
        simp [List.getD, hlt]
      have hst := or_step y b hy0 (by have := HY1.out; omega) hb0 hb1
      have HST : Hid (bits .or .u64 (IntKind.u64.wrap (y * 256)) b = y * 256 + b) := by show _ = _; rw [wrap_u64_id b (by omega) (by omega)] at hst; exact hst
      have hb2 : 0 ≤ y * 256 + b := by omega
      clear hst
      have H3 : Hid (y * 256 + b < (256 : Int) ^ (k + 1)) := by show _ < _; rw [Int.pow_succ]; have := HY1.out; omega
      clear hb h256
      go_wp2
      go_round
      case rel => exact ⟨k + 1, y * 256 + b, by omega, by go_num, congrArg _ HST.out, HN.out, hb2, H3.out⟩
      case measure => simp [intOf]; omega
    · go_wp2
      go_ret
      refine ⟨ret_int' ?_, rfl⟩
      rw [HY.out, List.take_of_length_le (by omega)]
end Go.Proofs.YtnmaknnnmjfhkagGreatDoor

namespace Go.Proofs.YtnmaknnnmjfhkagGreatDoor
open Go.RowKit
set_option maxRecDepth 4000
set_option linter.unusedVariables false
set_option linter.unusedSimpArgs false
/-- What parsePage answers: the page or a fault. -/
def prV (E : Addr) (o : Option (Int × Int × Int × ByteArray)) : Value := match o with
  | none => .tuple #[pageV 0 0 0 ⟨#[]⟩, .iface 246 (.pointer (some E))]
  | some (k, l, m, p) => .tuple #[pageV k l m p, .nilIface]
/-- A number read out of a form. -/
theorem take_fm (F : Nat) (xs : List Int) (hr : Hid (∀ y ∈ xs, 0 ≤ y ∧ y ≤ 255)) (o k c : Nat) (hk : k ≤ 4) (ho : o + k ≤ xs.length) (w : World) (hf : Fm w F xs) (V : Int) (hV : V = numOf ((xs.drop o).take k)) : Calls Tryz.prog 243 #[.slice (some ⟨F, o, none⟩) k c] w fun e w' => e = .returned (.int .u64 V) ∧ w' = w := by
  have hl : ((xs.drop o).take k).length = k := by simp; omega
  have h := take_i F o ((xs.drop o).take k) c w (fun y hy => hr.out y (List.mem_of_mem_drop (List.mem_of_mem_take hy))) (by omega) (fun i hi => by
    rw [hf.cell (o + i) (by omega)]
    rw [hl] at hi
    simp [List.getD, List.getElem?_take_of_lt hi, List.getElem?_drop])
  rw [hl, ← hV] at h
  exact h

set_option maxHeartbeats 16000000 in
theorem parse_no_width (s : ByteArray) (n : Int) (w : World) (ty : TypeId) (v : Value) (hv : w.cell? ⟨1, 0, none⟩ = some (.iface ty v)) (hg : 1 < w.heap.size) (hn : ¬ (1 ≤ n ∧ n ≤ 8)) : Calls Tryz.prog 197 #[.string s, .int .i64 n] w fun e w' => (∃ E, e = .returned (prV E none)) ∧ Below w.heap.size w w' := by
  have hd : decide (1 ≤ n ∧ n ≤ 8) = false := by simpa using hn
  have hb0 : ∀ o o', Below w.heap.size w ((w.alloc o).alloc o') := fun o o' => ((Below.refl _ _).alloc (Nat.le_refl _) _).alloc (by simp) _
  have hva : ∀ o, (w.alloc o).cell? ⟨1, 0, none⟩ = some (.iface ty v) := fun o => (World.cell?_alloc_past _ _ _ (by exact hg)).trans hv
  clear hn
  go_enter Tryz.func197, Tryz.ntmps197
  go_wp2_with (first | (go_at_call 60; refine (width_i _ _).mono ?_; rw [hd]; rintro e w2 ⟨rfl, rfl⟩) | (go_at_call 242; refine (nopage_i _ ty v _ (hva _)).mono ?_; rintro e w2 ⟨rfl, rfl⟩))
  refine bodyPost_ret (v := .tuple #[pageV 0 0 0 ⟨#[]⟩, .iface 246 (.pointer (some ⟨w.heap.size + 1, 0, none⟩))]) (by simp [results, Tryz.results197, go_sem]) rfl ⟨⟨_, rfl⟩, ?_⟩
  exact hb0 _ _
set_option maxHeartbeats 16000000 in
theorem parse_no_size (s : ByteArray) (n : Int) (w : World) (ty : TypeId) (v : Value) (hv : w.cell? ⟨1, 0, none⟩ = some (.iface ty v)) (hg : 1 < w.heap.size) (hn : 1 ≤ n ∧ n ≤ 8) (hs : s.size ≠ 64) : Calls Tryz.prog 197 #[.string s, .int .i64 n] w fun e w' => (∃ E, e = .returned (prV E none)) ∧ Below w.heap.size w w' := by
  have hd : decide (1 ≤ n ∧ n ≤ 8) = true := by simpa using hn
  have hs' : ((s.size : Int) != 64) = true := by simp; omega
  have hb0 : ∀ o o', Below w.heap.size w ((w.alloc o).alloc o') := fun o o' => ((Below.refl _ _).alloc (Nat.le_refl _) _).alloc (by simp) _
  have hva : ∀ o, (w.alloc o).cell? ⟨1, 0, none⟩ = some (.iface ty v) := fun o => (World.cell?_alloc_past _ _ _ (by exact hg)).trans hv
  clear hn hs
  go_enter Tryz.func197, Tryz.ntmps197
  go_wp2_with (first | (go_at_call 60; refine (width_i _ _).mono ?_; rw [hd]; rintro e w2 ⟨rfl, rfl⟩) | (go_at_call 242; refine (nopage_i _ ty v _ (hva _)).mono ?_; rintro e w2 ⟨rfl, rfl⟩))
  refine bodyPost_ret (v := .tuple #[pageV 0 0 0 ⟨#[]⟩, .iface 246 (.pointer (some ⟨w.heap.size + 1, 0, none⟩))]) (by simp [results, Tryz.results197, go_sem]) rfl ⟨⟨_, rfl⟩, ?_⟩
  exact hb0 _ _
end Go.Proofs.YtnmaknnnmjfhkagGreatDoor

namespace Go.Proofs.YtnmaknnnmjfhkagGreatDoor
open Go.RowKit
set_option maxRecDepth 4000
set_option linter.unusedVariables false
set_option linter.unusedSimpArgs false
/-- The answer's block, all zero, behind a world. -/
structure RB (W w : World) : Prop where
  size : W.heap.size + 1 ≤ w.heap.size
  bel : Below W.heap.size W w
  c0 : w.cell? ⟨W.heap.size, 0, none⟩ = some (.int .i64 0)
  c1 : w.cell? ⟨W.heap.size, 1, none⟩ = some (.int .i64 0)
  c2 : w.cell? ⟨W.heap.size, 2, none⟩ = some (.int .i64 0)
  c3 : w.cell? ⟨W.heap.size, 3, none⟩ = some (.string ⟨#[]⟩)
  f0 : w.frozen? ⟨W.heap.size, 0, none⟩ = false
  f1 : w.frozen? ⟨W.heap.size, 1, none⟩ = false
  f2 : w.frozen? ⟨W.heap.size, 2, none⟩ = false
  f3 : w.frozen? ⟨W.heap.size, 3, none⟩ = false
theorem RB.below {W w w' : World} (h : RB W w) (hb : Below w.heap.size w w') : RB W w' := by
  have hs := h.size
  have hc : ∀ i, w'.cell? ⟨W.heap.size, i, none⟩ = w.cell? ⟨W.heap.size, i, none⟩ := fun i => hb.cell (p := ⟨W.heap.size, i, none⟩) (by show W.heap.size < _; omega)
  have hf : ∀ i, w'.frozen? ⟨W.heap.size, i, none⟩ = w.frozen? ⟨W.heap.size, i, none⟩ := fun i => hb.frozen (p := ⟨W.heap.size, i, none⟩) (by show W.heap.size < _; omega)
  exact ⟨Nat.le_trans hs hb.size, h.bel.trans (hb.mono (by omega)), (hc _).trans h.c0, (hc _).trans h.c1, (hc _).trans h.c2, (hc _).trans h.c3, (hf _).trans h.f0, (hf _).trans h.f1, (hf _).trans h.f2, (hf _).trans h.f3⟩
theorem RB.drew {W w : World} (h : RB W w) : RB W w.drew := ⟨h.size, h.bel.drew, h.c0, h.c1, h.c2, h.c3, h.f0, h.f1, h.f2, h.f3⟩
theorem RB.alloc {W w : World} (h : RB W w) (o : Obj) : RB W (w.alloc o) := h.below ((Below.refl _ _).alloc (Nat.le_refl _) _)
theorem RB.new (W : World) (t : TypeId) : RB W (W.alloc (.cells #[.int .i64 0, .int .i64 0, .int .i64 0, .string ⟨#[]⟩] t)) := by
  refine ⟨by simp, (Below.refl _ _).alloc (Nat.le_refl _) _, ?_, ?_, ?_, ?_, ?_, ?_, ?_, ?_⟩ <;> first | (simp; done) | (rw [frozen?_alloc_cells]; exact frozen_past _ _ _ (Nat.le_refl _))
theorem nopage_b (s : ByteArray) (ty : TypeId) (v : Value) (w : World) (hv : w.cell? ⟨1, 0, none⟩ = some (.iface ty v)) : Calls Tryz.prog 242 #[.string s] w fun e w' => (∃ E, e = .returned (.iface 246 (.pointer (some E)))) ∧ Below w.heap.size w w' :=
  (nopage_i s ty v w hv).mono fun e w' h => ⟨⟨_, h.1⟩, by rw [h.2]; exact (Below.refl _ _).alloc (Nat.le_refl _) _⟩
set_option maxRecDepth 4000 in
set_option maxHeartbeats 16000000 in
theorem parse_no_part (s : ByteArray) (n N : Nat) (w : World) (ty : TypeId) (v : Value) (hv : w.cell? ⟨1, 0, none⟩ = some (.iface ty v)) (hg : 1 < w.heap.size) (hs : s.size = 64) (h1 : 1 ≤ n) (h2 : n ≤ 8) (hN : (N : Int) = numOf (((nums s).drop (n + 7)).take 1)) (hN1 : 56 < N + n) (hN2 : N ≤ 255) : Calls Tryz.prog 197 #[.string s, .int .i64 (n : Int)] w fun e w' => (∃ E, e = .returned (prV E none)) ∧ Below w.heap.size w w' := by
  have hd : decide (1 ≤ (n : Int) ∧ (n : Int) ≤ 8) = true := by simp; omega
  have hs' : (s.size : Int) = 64 := by omega
  have hb0 : ∀ o, Below w.heap.size w (w.alloc o) := fun o => (Below.refl _ _).alloc (Nat.le_refl _) _
  have hva : ∀ w', Below w.heap.size w w' → w'.cell? ⟨1, 0, none⟩ = some (.iface ty v) := fun w' hb => (hb.cell (p := ⟨1, 0, none⟩) hg).trans hv
  obtain ⟨xs, HX⟩ : ∃ xs, Hid (xs = nums s) := ⟨_, hid0 rfl⟩
  have hln : xs.length = 64 := by rw [HX.out, nums_length]; exact hs
  have hsz : (xs.map (Value.int .u8)).toArray.size = 64 := by simp [hln]
  have HRG : Hid (∀ y ∈ xs, 0 ≤ y ∧ y ≤ 255) := by rw [HX.out]; exact nums_range' s
  have HS := hid0 hs
  clear hs
  have hsl := fun g wx => slice_arr_from (P := Tryz.prog) (t := 267) Tryz.underlying267 (fun _ => by kernel_rfl) g 0 n (by omega) .i64 (n : Int) rfl wx
  obtain ⟨q, hq⟩ : ∃ q, 64 - n = q := ⟨_, rfl⟩
  rw [hq] at hsl
  have hq8 : (8 : Int) ≤ (q : Int) := by omega
  have hq7 : (7 : Int) ≤ (q : Int) := by omega
  have HN : Hid ((N : Int) = numOf ((xs.drop (n + 7)).take 1)) := by rw [HX.out]; exact hid0 hN
  clear hN
  have hnn : (64 - (n : Int) - 8) < (N : Int) := by omega
  go_enter Tryz.func197, Tryz.ntmps197
  go_wp2_with (first | (go_at_call 60; refine (width_i _ _).mono ?_; rw [hd]; rintro e w2 ⟨rfl, rfl⟩) | (go_at_call 187; refine (part_i _ _ (by omega) (by omega)).mono ?_; rintro e w3 ⟨rfl, rfl⟩) | (go_at_call 216; refine (sec_i s _ HS.out).mono ?_; rw [← HX.out]; rintro e w2 ⟨rfl, hb2⟩; have HB2 := hid0 ((RB.new w _).below hb2); clear hb2) | (refine wpList_store_new rfl 267 _ _ rfl xs rfl rfl _ _ (.int .u8 0) (by rw [hln]; rfl) (by rw [hln]; kernel_rfl) ?_; intro wx hfm hbx hsx; have HFM := hid0 hfm; clear hfm; have HBX := hid0 (HB2.out.below hbx); clear hbx hsx) | (go_at_call 243; refine (take_fm w2.heap.size xs HRG (n + 7) 1 _ (by omega) (by omega) _ HFM.out (N : Int) HN.out).mono ?_; rintro e w3 ⟨rfl, rfl⟩) | (go_at_call 242; refine (nopage_b _ ty v _ (hva _ HBX.out.bel)).mono ?_; rintro e w4 ⟨⟨E, rfl⟩, hb4⟩; have hr4 := HBX.out.below hb4; clear hb4; have c0 := hr4.c0; have c1 := hr4.c1; have c2 := hr4.c2; have c3 := hr4.c3; have f0 := hr4.f0; have f1 := hr4.f1; have f2 := hr4.f2; have f3 := hr4.f3; have HR4 := hid0 hr4; clear hr4))
  refine bodyPost_ret (v := .tuple #[pageV 0 0 0 ⟨#[]⟩, .iface 246 (.pointer (some E))]) (by simp [results, Tryz.results197, go_sem, c0, c1, c2, c3]) rfl ⟨⟨E, rfl⟩, ?_⟩
  exact (((HR4.out.bel.setCell (Nat.le_refl _) _).setCell (Nat.le_refl _) _).setCell (Nat.le_refl _) _).setCell (Nat.le_refl _) _
end Go.Proofs.YtnmaknnnmjfhkagGreatDoor
