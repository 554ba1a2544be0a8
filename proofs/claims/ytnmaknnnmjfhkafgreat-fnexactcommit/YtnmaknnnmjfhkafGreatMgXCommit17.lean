import Derived.RangeFuncNested
import Derived.RangeFuncBound
import Derived.RangeFuncCalls
import Derived.RangeFuncLeaves
import Derived.RangeFuncBox
import Derived.Shelf.Abstract
import Derived.Shelf.RegionOpenV
import Derived.WalkKit
import Derived.OwnWalkIn
import Derived.TacticsInMore
import Derived.LoopNIn
import Derived.LoopIn
import Derived.Sort.QuietIn
import Derived.Maps.AppendAt
import Derived.Maps.OwnIn
import Derived.Test.YtnmaknnnmjfhkafGreatQxCommitSnT

set_option maxHeartbeats 16000000
set_option maxRecDepth 8000
namespace Go.Proofs.YtnmaknnnmjfhkafGreat
open Go.RowKit Go.Shelf
set_option linter.unusedVariables false
set_option linter.unusedSimpArgs false
set_option maxRecDepth 4000
attribute [local go_sem] Oper.semAt_some

/-- The part of a row of pairs that is handed out in a round. -/
def partV (b off len k : Nat) : Value := .slice (some ⟨b, off + k * 20 * 2, none⟩) (min 20 (len - k * 20)) (min 20 (len - k * 20))

theorem grown_drewN (w : World) (q : Nat) : w.grownBy (w.drewN q) none := ⟨rfl, rfl, rfl, Nat.le_refl _, fun _ _ _ => rfl⟩

set_option maxHeartbeats 16000000 in
theorem chunk1_in (F : Fence) (n : Nat) (hf : F.fn 112) (hro : F.round = none) (hn : 1 ≤ n) (l Bs Bn b off len cap : Nat) (hlen : len ≤ 100) (hcap : len ≤ cap) (Kp : World → World → Prop) (hK : ∀ A B, Kp A B → B.cell? ⟨Bs, 0, none⟩ = A.cell? ⟨Bs, 0, none⟩ ∧ B.cell? ⟨Bn, 0, none⟩ = A.cell? ⟨Bn, 0, none⟩) (J Jx : List Nat → World → Prop)
    (hY : ∀ pre x W, J pre W → pre.length < (len + 19) / 20 → YieldAt F (n - 1) Tryz.prog l #[partV b off len x] W fun e W' =>
      (e = .returned (.bool true) ∧ J (pre ++ [x]) W' ∧ Kp W W') ∨ (e = .returned (.bool false) ∧ Jx (pre ++ [x]) W'))
    (W : World) (hBs : W.cell? ⟨Bs, 0, none⟩ = some (.slice (some ⟨b, off, none⟩) len cap)) (hBn : W.cell? ⟨Bn, 0, none⟩ = some (.int .i64 20)) (h0 : J [] W) (hJ : ∀ s A B, J s A → A.grownBy B none → J s B) :
    CallsIn F n Tryz.prog 112 #[.func (.yield l) #[] #[], .pointer (some ⟨Bs, 0, none⟩), .pointer (some ⟨Bn, 0, none⟩)] W fun e W' => (∃ v, e = .returned v) ∧
      ((∃ ys, ys = List.range ((len + 19) / 20) ∧ J ys W') ∨ (∃ pre, True ∧ Jx pre W')) := by
  refine callsIn_of_wp Tryz.func112 rfl hf ?_ hro
  simp only [Tryz.ntmps112, List.size_toArray, List.length_cons, List.length_nil, Nat.reduceAdd, Nat.reduceSub, Array.replicate_succ, Array.replicate_zero, List.push_toArray, List.append_toArray, List.nil_append, List.cons_append]
  gi_wp2
  gi_loopw [4] (fun i wr => ∃ k q : Nat, q = k * 20 ∧ k ≤ (len + 19) / 20 ∧ i = .int .i64 (q : Int) ∧ J (List.range k) wr ∧ wr.cell? ⟨Bs, 0, none⟩ = some (.slice (some ⟨b, off, none⟩) len cap) ∧ wr.cell? ⟨Bn, 0, none⟩ = some (.int .i64 20)) (fun i _ => len + 20 - (intOf i).toNat)
  case atStart => exact ⟨0, 0, rfl, Nat.zero_le _, rfl, h0, hBs, hBn⟩
  case round =>
    obtain ⟨k, q, hq, hk, rfl, hJs, hcs, hcn⟩ := hrel
    have HQ := hid hq
    clear hq
    have hmx : Tryz.prog.follows .mixedOrders = true := by kernel_rfl
    by_cases hlt : q < len
    · have hq0 : (0 : Int) ≤ (q : Int) := by omega
      have hq1 : (q : Int) ≤ (len : Int) := by omega
      have hq2 : (q : Int) < (len : Int) := by omega
      have hq3 : (len : Int) ≤ (cap : Int) := by omega
      by_cases hc : 20 ≤ len - q
      · have HC : Hid (min 20 (len - q) = 20) := by show _ = _; omega
        have hc2 : (q : Int) + 20 ≤ (len : Int) := by omega
        have hc3 : (q : Int) + 20 ≤ (cap : Int) := by omega
        gi_wp2
        gi_big_quiet_th_v (fail)
        obtain ⟨fn, tmps, assign, body, hy, hR⟩ := hY _ k (wr.drewN nq) (hJ _ _ _ hJs (grown_drewN wr nq)) (by have := HQ.out; rw [List.length_range]; omega)
        have hcs1 : (wr.drewN nq).cell? ⟨Bs, 0, none⟩ = some (.slice (some ⟨b, off, none⟩) len cap) := hcs
        unfold partV at hy
        rw [← HQ.out, HC.out] at hy
        gi_wp2
        refine hR.mono ?_
        rintro e W3 (⟨rfl, hJ3, hk3⟩ | ⟨rfl, hJx3⟩)
        · have hcn3 := (hK _ _ hk3).2.trans (show (wr.drewN nq).cell? ⟨Bn, 0, none⟩ = some (.int .i64 20) from hcn)
          have hcs3 := (hK _ _ hk3).1.trans hcs1
          gi_wp2
          go_roundw
          case rel => exact ⟨k + 1, q + 20, by have := HQ.out; omega, by have := HQ.out; omega, by simp, by rw [List.range_succ]; exact hJ3, hcs3, hcn3⟩
          case measure => simp [intOf]; omega
        · gi_wp2
          refine bodyPost_ret (results_none rfl _ _ _) rfl ?_
          exact ⟨⟨_, rfl⟩, .inr ⟨_, trivial, hJx3⟩⟩
      · have HC : Hid (min 20 (len - q) = len - q) := by show _ = _; omega
        have hc2 : (q : Int) + ((len - q : Nat) : Int) = (len : Int) := by omega
        gi_wp2
        gi_big_quiet_th_v (fail)
        obtain ⟨fn, tmps, assign, body, hy, hR⟩ := hY _ k (wr.drewN nq) (hJ _ _ _ hJs (grown_drewN wr nq)) (by have := HQ.out; rw [List.length_range]; omega)
        have hcs1 : (wr.drewN nq).cell? ⟨Bs, 0, none⟩ = some (.slice (some ⟨b, off, none⟩) len cap) := hcs
        unfold partV at hy
        rw [← HQ.out, HC.out] at hy
        gi_wp2
        refine hR.mono ?_
        rintro e W3 (⟨rfl, hJ3, hk3⟩ | ⟨rfl, hJx3⟩)
        · have hcn3 := (hK _ _ hk3).2.trans (show (wr.drewN nq).cell? ⟨Bn, 0, none⟩ = some (.int .i64 20) from hcn)
          have hcs3 := (hK _ _ hk3).1.trans hcs1
          gi_wp2
          go_roundw
          case rel => exact ⟨k + 1, q + 20, by have := HQ.out; omega, by have := HQ.out; omega, by simp, by rw [List.range_succ]; exact hJ3, hcs3, hcn3⟩
          case measure => simp [intOf]; omega
        · gi_wp2
          refine bodyPost_ret (results_none rfl _ _ _) rfl ?_
          exact ⟨⟨_, rfl⟩, .inr ⟨_, trivial, hJx3⟩⟩
    · have hkk : k = (len + 19) / 20 := by have := HQ.out; omega
      gi_wp2
      go_end0
      exact ⟨⟨_, rfl⟩, .inl ⟨_, by rw [hkk], hJs⟩⟩

set_option maxHeartbeats 16000000 in
theorem chunk1_nil (F : Fence) (n : Nat) (hf : F.fn 112) (hro : F.round = none) (l Bs Bn c : Nat) (a : Option Addr) (J : List Nat → World → Prop) (W : World) (hBs : W.cell? ⟨Bs, 0, none⟩ = some (.slice a 0 c)) (h0 : J [] W) :
    CallsIn F n Tryz.prog 112 #[.func (.yield l) #[] #[], .pointer (some ⟨Bs, 0, none⟩), .pointer (some ⟨Bn, 0, none⟩)] W fun e W' => (∃ v, e = .returned v) ∧ J [] W' := by
  refine callsIn_of_wp Tryz.func112 rfl hf ?_ hro
  simp only [Tryz.ntmps112, List.size_toArray, List.length_cons, List.length_nil, Nat.reduceAdd, Nat.reduceSub, Array.replicate_succ, Array.replicate_zero, List.push_toArray, List.append_toArray, List.nil_append, List.cons_append]
  gi_wp2
  gi_loopw [4] (fun i wr => i = .int .i64 0 ∧ wr = W) (fun _ _ => 0)
  case atStart => exact ⟨rfl, rfl⟩
  case round =>
    obtain ⟨rfl, rfl⟩ := hrel
    gi_wp2
    go_end0
    exact ⟨⟨_, rfl⟩, h0⟩

set_option maxHeartbeats 16000000 in
/-- The two arguments are boxed; the function value captures the boxes. -/
theorem chunk_in (F : Fence) (n : Nat) (hf : F.fn 102) (hro : F.round = none) (a : Option Addr) (len cap : Nat) (w : World) :
    CallsIn F n Tryz.prog 102 #[.slice a len cap, .int .i64 20] w fun e w' => e = .returned (.func (.func 112) #[] #[.pointer (some ⟨w.heap.size, 0, none⟩), .pointer (some ⟨w.heap.size + 1, 0, none⟩)]) ∧ w' = (w.alloc (.cells #[.slice a len cap] 31)).alloc (.cells #[.int .i64 20] 3) := by
  refine callsIn_of_wp Tryz.func102 rfl hf ?_ hro
  simp only [Tryz.ntmps102, List.size_toArray, List.length_cons, List.length_nil, Nat.reduceAdd, Nat.reduceSub, Array.replicate_succ, Array.replicate_zero, List.push_toArray, List.append_toArray, List.nil_append, List.cons_append]
  gi_wp2
  go_ret
  exact ⟨rfl, rfl⟩

/-- What slices.Chunk hands back gives the parts of a row, one by one. -/
theorem chunk_stops (F : Fence) (n : Nat) (hf : F.fn 112) (hro : F.round = none) (hn : 1 ≤ n) (Bs Bn b off len cap : Nat) (a : Option Addr) (hlen : len ≤ 100) (hcap : len ≤ cap) (w : World) (hbs : Bs < w.heap.size) (hbn : Bn < w.heap.size) (Kp : World → World → Prop) (hK : ∀ A B, Kp A B → B.cell? ⟨Bs, 0, none⟩ = A.cell? ⟨Bs, 0, none⟩ ∧ B.cell? ⟨Bn, 0, none⟩ = A.cell? ⟨Bn, 0, none⟩)
    (hs : w.cell? ⟨Bs, 0, none⟩ = some (.slice a len cap)) (hc : w.cell? ⟨Bn, 0, none⟩ = some (.int .i64 20)) (ha : len = 0 ∨ a = some ⟨b, off, none⟩) :
    SeqStopsK F n Tryz.prog 112 #[.pointer (some ⟨Bs, 0, none⟩), .pointer (some ⟨Bn, 0, none⟩)] (fun x : Nat => #[partV b off len x]) Kp (fun ys => ys = List.range ((len + 19) / 20)) (fun _ => True) ((len + 19) / 20) w := fun l J Jx W hW hJ hJx hY h0 => by
  have hs' := (hW.cell (p := ⟨Bs, 0, none⟩) hbs).trans hs
  have hc' := (hW.cell (p := ⟨Bn, 0, none⟩) hbn).trans hc
  rcases ha with rfl | rfl
  · exact (chunk1_nil F n hf hro l Bs Bn cap a J W hs' h0).mono fun e W' ⟨he, hj⟩ => ⟨he, .inl ⟨_, rfl, hj⟩⟩
  · exact chunk1_in F n hf hro hn l Bs Bn b off len cap hlen hcap Kp hK J Jx hY W hs' hc' h0 (fun s A B hs hg => hJ s A B none hs hg (fun r e => (by cases e)))
end Go.Proofs.YtnmaknnnmjfhkafGreat

namespace Go.Proofs.YtnmaknnnmjfhkafGreat
open Go.RowKit Go.Shelf
set_option linter.unusedVariables false
set_option linter.unusedSimpArgs false
set_option maxRecDepth 4000

/-- What a round keeps of what slices.Chunk reads again and again. -/
def KpC (n₀ Bs Bn : Nat) (A B : World) : Prop := Below n₀ A B ∧ B.cell? ⟨Bs, 0, none⟩ = A.cell? ⟨Bs, 0, none⟩ ∧ B.cell? ⟨Bn, 0, none⟩ = A.cell? ⟨Bn, 0, none⟩
theorem KpC.t {n₀ Bs Bn : Nat} {A B C : World} (h : KpC n₀ Bs Bn A B) (k : KpC n₀ Bs Bn B C) : KpC n₀ Bs Bn A C := ⟨h.1.trans k.1, k.2.1.trans h.2.1, k.2.2.trans h.2.2⟩
theorem KpC.b {n₀ Bs Bn : Nat} {w : World} (hn : n₀ ≤ w.heap.size) (h1 : Bs < w.heap.size) (h2 : Bn < w.heap.size) (W : World) (l : Nat) (o o' : Obj) (hl : w.heap.size ≤ l) (h : W.heap[l]? = some o) (hc : o.isCells = false) (hw : o.isWalk = false) : KpC n₀ Bs Bn W (W.putObj l o') :=
  ⟨belowK_b hn W l o o' hl h hc hw, World.cell?_of_block (World.putObj_heap_other (by show Bs ≠ l; omega)), World.cell?_of_block (World.putObj_heap_other (by show Bn ≠ l; omega))⟩
theorem Bat.boxed {w : World} {base B : Nat} {v u z : Value} {bss : List (List Ch)} (h : Bat w base v bss) (hb : Boxed w B 97 u) : Bat (w.setCell ⟨B, 0, none⟩ z) base v bss := by
  obtain ⟨vs, h1, h2, h3⟩ := h
  refine ⟨vs, h1.kept (grownBy_setCell' w B z) (.inr fun e => hb.not_row (by decide) h1 e.symm), fun i hi => (h2 i hi).kept (grownBy_setCell' w B z) (.inr fun e => hb.not_row (by decide) (h2 i hi) e.symm), h3⟩
theorem row_own {X Y : World} {row : Option Nat} {base : Nat} {e : TypeId} {s : Nat} {v : Value} {n : Nat} {xs : List Value} (h : X.ownsRow base e s v n xs) (hg : X.grownBy Y row) (hr : ∀ r, row = some r → ∃ o : Obj, X.heap[r]? = some o ∧ o.isCells = false) : Y.ownsRow base e s v n xs := by
  refine h.kept hg ?_
  rcases h.2 with ⟨rfl, _⟩ | ⟨g, cap, cur, rfl, _, hgb, _⟩
  · exact .inl rfl
  · refine .inr fun e' => ?_
    obtain ⟨o, ho, hc⟩ := hr g (by simpa [Value.ownBlock] using e'.symm)
    rw [hgb] at ho; cases ho; cases hc
theorem box_own {X Y : World} {row : Option Nat} {B : Nat} {t : TypeId} {v : Value} (h : Boxed X B t v) (hg : X.grownBy Y row) (hr : ∀ r, row = some r → ∃ o : Obj, X.heap[r]? = some o ∧ o.isCells = false) : Boxed Y B t v := by
  refine h.kept hg fun e => ?_
  obtain ⟨o, ho, hc⟩ := hr B e.symm
  rw [show X.heap[B]? = _ from h] at ho; cases ho; cases hc
/-- What lies in a round of Snapshot. -/
def InSn (n₀ B Bs Bn : Nat) (sv : Value) (bss : List (List Ch)) (W : World) : Prop := ∃ v, Boxed W B 97 v ∧ Bat W n₀ v bss ∧ Boxed W Bs 31 sv ∧ Boxed W Bn 3 (.int .i64 20)
theorem InSn.own (n₀ B Bs Bn : Nat) (sv : Value) (f : List Nat → List (List Ch)) : Own (fun pre W => InSn n₀ B Bs Bn sv (f pre) W) := by
  rintro s X Y row ⟨v, hv, ⟨vs, h1, h2, h3⟩, h4, h5⟩ hg hr
  exact ⟨v, box_own hv hg hr, ⟨vs, row_own h1 hg hr, fun i hi => row_own (h2 i hi) hg hr, h3⟩, box_own h4 hg hr, box_own h5 hg hr⟩
theorem keeps_below {W W' : World} (h : Below W.heap.size W W') : KeepsOthers W W' := ⟨h.size, fun k o hk _ => (h.block k (Array.getElem?_eq_some_iff.1 hk).1).trans hk⟩
theorem InSn.push {W wr w1 : World} {n₀ B Bs Bn : Nat} {sv v v' y : Value} {bss : List (List Ch)} {cs : List Ch} {vs : List Value} {tmp : Obj} (hn : n₀ ≤ W.heap.size) (hB : n₀ ≤ B) (hv : Boxed W B 97 v) (h1 : W.ownsRow n₀ 49 1 v bss.length vs) (h2 : ∀ i, i < bss.length → W.ownsRow n₀ 78 3 (vs.getD i nov) (bss.getD i []).length (chcells (bss.getD i [])))
    (h3 : ∀ i j k, i < j → j < bss.length → (vs.getD i nov).ownBlock = some k → (vs.getD j nov).ownBlock ≠ some k) (hs : Boxed W Bs 31 sv) (hm : Boxed W Bn 3 (.int .i64 20)) (hbw : Below W.heap.size W wr)
    (hy : wr.ownsRow W.heap.size 78 3 y cs.length (chcells cs)) (ho : w1.ownsRow n₀ 49 1 v' (bss.length + 1) (vs ++ [y])) (hg : (wr.alloc tmp).grownBy w1 v.ownBlock) :
    Boxed w1 B 97 v ∧ InSn n₀ B Bs Bn sv (bss ++ [cs]) (w1.setCell ⟨B, 0, none⟩ v') ∧ KeepsOthers W (w1.setCell ⟨B, 0, none⟩ v') ∧ KpC n₀ Bs Bn W (w1.setCell ⟨B, 0, none⟩ v') := by
  have bx : ∀ {b : Nat} {t : TypeId} {u : Value}, Boxed W b t u → Boxed wr b t u := fun h => (hbw.block _ h.lt).trans h
  have h1r := owns_below h1 hbw
  have hv1 : Boxed w1 B 97 v := ((bx hv).alloc tmp).kept hg ((bx hv).not_row (by decide) h1r)
  have hs1 : Boxed w1 Bs 31 sv := ((bx hs).alloc tmp).kept hg ((bx hs).not_row (by decide) h1r)
  have hm1 : Boxed w1 Bn 3 (.int .i64 20) := ((bx hm).alloc tmp).kept hg ((bx hm).not_row (by decide) h1r)
  have hbat : Bat w1 n₀ v' (bss ++ [cs]) := Bat.push (h1r.alloc tmp) (fun i hi => (owns_below (h2 i hi) hbw).alloc tmp) h3 ((owns_mono hy hn).alloc tmp) (fun i k hi he e => by
    have a1 := (h2 i hi).lt k he
    have a2 := hy.lt k e
    omega) ho hg
  have ns : Bs ≠ B := fun e => by
    have := (show W.heap[Bs]? = _ from hs)
    rw [e, show W.heap[B]? = _ from hv] at this
    simp at this
  have nm : Bn ≠ B := fun e => by
    have := (show W.heap[Bn]? = _ from hm)
    rw [e, show W.heap[B]? = _ from hv] at this
    simp at this
  have hs2 : Boxed (w1.setCell ⟨B, 0, none⟩ v') Bs 31 sv := hs1.kept (grownBy_setCell' w1 B v') (by simp [ns])
  have hm2 : Boxed (w1.setCell ⟨B, 0, none⟩ v') Bn 3 (.int .i64 20) := hm1.kept (grownBy_setCell' w1 B v') (by simp [nm])
  refine ⟨hv1, ⟨v', hv1.set v', hbat.boxed hv1, hs2, hm2⟩, ?_, ?_, hs2.cell.trans hs.cell.symm, hm2.cell.trans hm.cell.symm⟩
  · refine (((keeps_below hbw).trans (KeepsOthers.alloc _ tmp)).trans (KeepsOthers.of_grownBy hg fun j o ej hj => ?_)).trans (KeepsOthers.setCell _ _ _)
    rcases (h1r.alloc tmp).2 with ⟨rfl, _⟩ | ⟨g, cap, cur, rfl, _, hgb, _⟩
    · simp [Value.ownBlock] at ej
    · obtain rfl : g = j := by simpa [Value.ownBlock] using ej
      rw [hgb] at hj; cases hj; rfl
  · refine ((((Below.refl n₀ W).trans (hbw.mono hn)).alloc (by have := hbw.size; omega) tmp).grown hg (by have := hbw.size; simp; omega) fun j ej => ?_).setCell (p := ⟨B, 0, none⟩) hB v'
    exact (h1.lt j ej).1
theorem InSn.below {W W' : World} {n₀ B Bs Bn : Nat} {sv : Value} {bss : List (List Ch)} (h : InSn n₀ B Bs Bn sv bss W) (hb : Below W.heap.size W W') : InSn n₀ B Bs Bn sv bss W' := by
  obtain ⟨v, hv, h1, h2, h3⟩ := h
  exact ⟨v, (hb.block _ hv.lt).trans hv, h1.below hb, (hb.block _ h2.lt).trans h2, (hb.block _ h3.lt).trans h3⟩
theorem prs_part {w : World} {b o : Nat} {rs : List Pr} (h : Prs w (some ⟨b, o, none⟩) rs) (k : Nat) : Prs w (some ⟨b, o + k * 20 * 2, none⟩) ((rs.drop (k * 20)).take 20) := by
  rcases h with h | ⟨b', o', h1, h2, h3⟩
  · subst h; exact .inl (by simp)
  · cases h1
    refine .inr ⟨b, o + k * 20 * 2, rfl, h2, fun i hi => ?_⟩
    simp only [List.length_take, List.length_drop] at hi
    have := h3 (k * 20 + i) (by omega)
    rw [show o + k * 20 * 2 + i * 2 = o + (k * 20 + i) * 2 by omega]
    have e : ((rs.drop (k * 20)).take 20).getD i (ByteArray.empty, ByteArray.empty) = rs.getD (k * 20 + i) (ByteArray.empty, ByteArray.empty) := by
      simp [List.getD, List.getElem?_take, List.getElem?_drop, show i < 20 by omega]
    rw [e]
    exact this
end Go.Proofs.YtnmaknnnmjfhkafGreat
