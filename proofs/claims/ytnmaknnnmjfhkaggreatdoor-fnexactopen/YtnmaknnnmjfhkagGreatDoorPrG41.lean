import Derived.RangeFuncNested
import Derived.RangeFuncBound
import Derived.RangeFuncCalls
import Derived.RangeFuncLeaves
import Derived.RangeFuncBox
import Derived.Shelf.Abstract
import Derived.Shelf.RegionOpenV
import Derived.WalkKit
import Derived.OwnWalkIn
import Derived.TacticsInMore
import Derived.LoopNIn
import Derived.LoopIn
import Derived.Sort.QuietIn
import Derived.Maps.AppendAt
import Derived.Maps.OwnIn
import Derived.Test.YtnmaknnnmjfhkagGreatDoorPrSnT
import Derived.Test.YtnmaknnnmjfhkagGreatDoorPrFbS
import Derived.Test.YtnmaknnnmjfhkagGreatDoorPrG47
import Derived.Test.YtnmaknnnmjfhkagGreatDoorPrG44
import Derived.Test.YtnmaknnnmjfhkagGreatDoorPrG48
import Derived.Test.YtnmaknnnmjfhkagGreatDoorPrG46
import Derived.Test.YtnmaknnnmjfhkagGreatDoorPrFnA
import Derived.Test.YtnmaknnnmjfhkagGreatDoorPrG43
set_option maxHeartbeats 16000000
set_option maxRecDepth 8000
namespace Go.Proofs.YtnmaknnnmjfhkagGreatDoor
open Go.RowKit Go.Shelf
set_option linter.unusedVariables false
set_option linter.unusedSimpArgs false
set_option maxRecDepth 4000
attribute [local go_sem] Oper.semAt_some
def partV (b off len k : Nat) : Value := .slice (some ⟨b, off + k * 20 * 2, none⟩) (min 20 (len - k * 20)) (min 20 (len - k * 20))
theorem grown_drewN (w : World) (q : Nat) : w.grownBy (w.drewN q) none := ⟨rfl, rfl, rfl, Nat.le_refl _, fun _ _ _ => rfl⟩
set_option maxHeartbeats 16000000 in
theorem chunk1_in (F : Fence) (n : Nat) (hf : F.fn 262) (hro : F.round = none) (hn : 1 ≤ n) (l Bs Bn b off len cap : Nat) (hlen : len ≤ 100) (hcap : len ≤ cap) (Kp : World → World → Prop) (hK : ∀ A B, Kp A B → B.cell? ⟨Bs, 0, none⟩ = A.cell? ⟨Bs, 0, none⟩ ∧ B.cell? ⟨Bn, 0, none⟩ = A.cell? ⟨Bn, 0, none⟩) (J Jx : List Nat → World → Prop)
    (hY : ∀ pre x W, J pre W → pre.length < (len + 19) / 20 → YieldAt F (n - 1) Tryz.prog l #[partV b off len x] W fun e W' =>
      (e = .returned (.bool true) ∧ J (pre ++ [x]) W' ∧ Kp W W') ∨ (e = .returned (.bool false) ∧ Jx (pre ++ [x]) W'))
    (W : World) (hBs : W.cell? ⟨Bs, 0, none⟩ = some (.slice (some ⟨b, off, none⟩) len cap)) (hBn : W.cell? ⟨Bn, 0, none⟩ = some (.int .i64 20)) (h0 : J [] W) (hJ : ∀ s A B, J s A → A.grownBy B none → J s B) :
    CallsIn F n Tryz.prog 262 #[.func (.yield l) #[] #[], .pointer (some ⟨Bs, 0, none⟩), .pointer (some ⟨Bn, 0, none⟩)] W fun e W' => (∃ v, e = .returned v) ∧
      ((∃ ys, ys = List.range ((len + 19) / 20) ∧ J ys W') ∨ (∃ pre, True ∧ Jx pre W')) := by
  refine callsIn_of_wp Tryz.func262 rfl hf ?_ hro
  simp only [Tryz.ntmps262, List.size_toArray, List.length_cons, List.length_nil, Nat.reduceAdd, Nat.reduceSub, Array.replicate_succ, Array.replicate_zero, List.push_toArray, List.append_toArray, List.nil_append, List.cons_append]
  gi_wp2
  gi_loopw [4] (fun i wr => ∃ k q : Nat, q = k * 20 ∧ k ≤ (len + 19) / 20 ∧ i = .int .i64 (q : Int) ∧ J (List.range k) wr ∧ wr.cell? ⟨Bs, 0, none⟩ = some (.slice (some ⟨b, off, none⟩) len cap) ∧ wr.cell? ⟨Bn, 0, none⟩ = some (.int .i64 20)) (fun i _ => len + 20 - (intOf i).toNat)
  case atStart => exact ⟨0, 0, rfl, Nat.zero_le _, rfl, h0, hBs, hBn⟩
  case round =>
    obtain ⟨k, q, hq, hk, rfl, hJs, hcs, hcn⟩ := hrel
    have HQ := hid hq
    clear hq
    have hmx : Tryz.prog.follows .mixedOrders = true := by kernel_rfl
    by_cases hlt : q < len
    · have hq0 : (0 : Int) ≤ (q : Int) := by omega
      have hq1 : (q : Int) ≤ (len : Int) := by omega
      have hq2 : (q : Int) < (len : Int) := by omega
      have hq3 : (len : Int) ≤ (cap : Int) := by omega
      by_cases hc : 20 ≤ len - q
      · have HC : Hid (min 20 (len - q) = 20) := by show _ = _; omega
        have hc2 : (q : Int) + 20 ≤ (len : Int) := by omega
        have hc3 : (q : Int) + 20 ≤ (cap : Int) := by omega
        gi_wp2
        gi_big_quiet_th_v (fail)
        obtain ⟨fn, tmps, assign, body, hy, hR⟩ := hY _ k (wr.drewN nq) (hJ _ _ _ hJs (grown_drewN wr nq)) (by have := HQ.out; rw [List.length_range]; omega)
        have hcs1 : (wr.drewN nq).cell? ⟨Bs, 0, none⟩ = some (.slice (some ⟨b, off, none⟩) len cap) := hcs
        unfold partV at hy
        rw [← HQ.out, HC.out] at hy
        gi_wp2
        refine hR.mono ?_
        rintro e W3 (⟨rfl, hJ3, hk3⟩ | ⟨rfl, hJx3⟩)
        · have hcn3 := (hK _ _ hk3).2.trans (show (wr.drewN nq).cell? ⟨Bn, 0, none⟩ = some (.int .i64 20) from hcn)
          have hcs3 := (hK _ _ hk3).1.trans hcs1
          gi_wp2
          go_roundw
          case rel => exact ⟨k + 1, q + 20, by have := HQ.out; omega, by have := HQ.out; omega, by simp, by rw [List.range_succ]; exact hJ3, hcs3, hcn3⟩
          case measure => simp [intOf]; omega
        · gi_wp2
          refine bodyPost_ret (results_none rfl _ _ _) rfl ?_
          exact ⟨⟨_, rfl⟩, .inr ⟨_, trivial, hJx3⟩⟩
      · have HC : Hid (min 20 (len - q) = len - q) := by show _ = _; omega
        have hc2 : (q : Int) + ((len - q : Nat) : Int) = (len : Int) := by omega
        gi_wp2
        gi_big_quiet_th_v (fail)
        obtain ⟨fn, tmps, assign, body, hy, hR⟩ := hY _ k (wr.drewN nq) (hJ _ _ _ hJs (grown_drewN wr nq)) (by have := HQ.out; rw [List.length_range]; omega)
        have hcs1 : (wr.drewN nq).cell? ⟨Bs, 0, none⟩ = some (.slice (some ⟨b, off, none⟩) len cap) := hcs
        unfold partV at hy
        rw [← HQ.out, HC.out] at hy
        gi_wp2
        refine hR.mono ?_
        rintro e W3 (⟨rfl, hJ3, hk3⟩ | ⟨rfl, hJx3⟩)
        · have hcn3 := (hK _ _ hk3).2.trans (show (wr.drewN nq).cell? ⟨Bn, 0, none⟩ = some (.int .i64 20) from hcn)
          have hcs3 := (hK _ _ hk3).1.trans hcs1
          gi_wp2
          go_roundw
          case rel => exact ⟨k + 1, q + 20, by have := HQ.out; omega, by have := HQ.out; omega, by simp, by rw [List.range_succ]; exact hJ3, hcs3, hcn3⟩
          case measure => simp [intOf]; omega
        · gi_wp2
          refine bodyPost_ret (results_none rfl _ _ _) rfl ?_
          exact ⟨⟨_, rfl⟩, .inr ⟨_, trivial, hJx3⟩⟩
    · have hkk : k = (len + 19) / 20 := by have := HQ.out; omega
      gi_wp2
      go_end0
      exact ⟨⟨_, rfl⟩, .inl ⟨_, by rw [hkk], hJs⟩⟩
set_option maxHeartbeats 16000000 in
theorem chunk1_nil (F : Fence) (n : Nat) (hf : F.fn 262) (hro : F.round = none) (l Bs Bn c : Nat) (a : Option Addr) (J : List Nat → World → Prop) (W : World) (hBs : W.cell? ⟨Bs, 0, none⟩ = some (.slice a 0 c)) (h0 : J [] W) :
    CallsIn F n Tryz.prog 262 #[.func (.yield l) #[] #[], .pointer (some ⟨Bs, 0, none⟩), .pointer (some ⟨Bn, 0, none⟩)] W fun e W' => (∃ v, e = .returned v) ∧ J [] W' := by
  refine callsIn_of_wp Tryz.func262 rfl hf ?_ hro
  simp only [Tryz.ntmps262, List.size_toArray, List.length_cons, List.length_nil, Nat.reduceAdd, Nat.reduceSub, Array.replicate_succ, Array.replicate_zero, List.push_toArray, List.append_toArray, List.nil_append, List.cons_append]
  gi_wp2
  gi_loopw [4] (fun i wr => i = .int .i64 0 ∧ wr = W) (fun _ _ => 0)
  case atStart => exact ⟨rfl, rfl⟩
  case round =>
    obtain ⟨rfl, rfl⟩ := hrel
    gi_wp2
    go_end0
    exact ⟨⟨_, rfl⟩, h0⟩
set_option maxHeartbeats 16000000 in
theorem chunk_in (F : Fence) (n : Nat) (hf : F.fn 226) (hro : F.round = none) (a : Option Addr) (len cap : Nat) (w : World) :
    CallsIn F n Tryz.prog 226 #[.slice a len cap, .int .i64 20] w fun e w' => e = .returned (.func (.func 262) #[] #[.pointer (some ⟨w.heap.size, 0, none⟩), .pointer (some ⟨w.heap.size + 1, 0, none⟩)]) ∧ w' = (w.alloc (.cells #[.slice a len cap] 29)).alloc (.cells #[.int .i64 20] 3) := by
  refine callsIn_of_wp Tryz.func226 rfl hf ?_ hro
  simp only [Tryz.ntmps226, List.size_toArray, List.length_cons, List.length_nil, Nat.reduceAdd, Nat.reduceSub, Array.replicate_succ, Array.replicate_zero, List.push_toArray, List.append_toArray, List.nil_append, List.cons_append]
  gi_wp2
  go_ret
  exact ⟨rfl, rfl⟩
theorem chunk_stops (F : Fence) (n : Nat) (hf : F.fn 262) (hro : F.round = none) (hn : 1 ≤ n) (Bs Bn b off len cap : Nat) (a : Option Addr) (hlen : len ≤ 100) (hcap : len ≤ cap) (w : World) (hbs : Bs < w.heap.size) (hbn : Bn < w.heap.size) (Kp : World → World → Prop) (hK : ∀ A B, Kp A B → B.cell? ⟨Bs, 0, none⟩ = A.cell? ⟨Bs, 0, none⟩ ∧ B.cell? ⟨Bn, 0, none⟩ = A.cell? ⟨Bn, 0, none⟩)
    (hs : w.cell? ⟨Bs, 0, none⟩ = some (.slice a len cap)) (hc : w.cell? ⟨Bn, 0, none⟩ = some (.int .i64 20)) (ha : len = 0 ∨ a = some ⟨b, off, none⟩) :
    SeqStopsK F n Tryz.prog 262 #[.pointer (some ⟨Bs, 0, none⟩), .pointer (some ⟨Bn, 0, none⟩)] (fun x : Nat => #[partV b off len x]) Kp (fun ys => ys = List.range ((len + 19) / 20)) (fun _ => True) ((len + 19) / 20) w := fun l J Jx W hW hJ hJx hY h0 => by
  have hs' := (hW.cell (p := ⟨Bs, 0, none⟩) hbs).trans hs
  have hc' := (hW.cell (p := ⟨Bn, 0, none⟩) hbn).trans hc
  rcases ha with rfl | rfl
  · exact (chunk1_nil F n hf hro l Bs Bn cap a J W hs' h0).mono fun e W' ⟨he, hj⟩ => ⟨he, .inl ⟨_, rfl, hj⟩⟩
  · exact chunk1_in F n hf hro hn l Bs Bn b off len cap hlen hcap Kp hK J Jx hY W hs' hc' h0 (fun s A B hs hg => hJ s A B none hs hg (fun r e => (by cases e)))
end Go.Proofs.YtnmaknnnmjfhkagGreatDoor

namespace Go.Proofs.YtnmaknnnmjfhkagGreatDoor
open Go.RowKit Go.Shelf
set_option linter.unusedVariables false
set_option linter.unusedSimpArgs false
set_option maxRecDepth 4000
def KpC (n₀ Bs Bn : Nat) (A B : World) : Prop := Below n₀ A B ∧ B.cell? ⟨Bs, 0, none⟩ = A.cell? ⟨Bs, 0, none⟩ ∧ B.cell? ⟨Bn, 0, none⟩ = A.cell? ⟨Bn, 0, none⟩
theorem KpC.t {n₀ Bs Bn : Nat} {A B C : World} (h : KpC n₀ Bs Bn A B) (k : KpC n₀ Bs Bn B C) : KpC n₀ Bs Bn A C := ⟨h.1.trans k.1, k.2.1.trans h.2.1, k.2.2.trans h.2.2⟩
theorem KpC.b {n₀ Bs Bn : Nat} {w : World} (hn : n₀ ≤ w.heap.size) (h1 : Bs < w.heap.size) (h2 : Bn < w.heap.size) (W : World) (l : Nat) (o o' : Obj) (hl : w.heap.size ≤ l) (h : W.heap[l]? = some o) (hc : o.isCells = false) (hw : o.isWalk = false) : KpC n₀ Bs Bn W (W.putObj l o') :=
  ⟨belowK_b hn W l o o' hl h hc hw, World.cell?_of_block (World.putObj_heap_other (by show Bs ≠ l; omega)), World.cell?_of_block (World.putObj_heap_other (by show Bn ≠ l; omega))⟩
theorem Bat.boxed {w : World} {base B : Nat} {v u z : Value} {bss : List (List Ch)} (h : Bat w base v bss) (hb : Boxed w B 145 u) : Bat (w.setCell ⟨B, 0, none⟩ z) base v bss := by
  obtain ⟨vs, h1, h2, h3⟩ := h
  refine ⟨vs, h1.kept (grownBy_setCell' w B z) (.inr fun e => hb.not_row (by decide) h1 e.symm), fun i hi => (h2 i hi).kept (grownBy_setCell' w B z) (.inr fun e => hb.not_row (by decide) (h2 i hi) e.symm), h3⟩
theorem row_own {X Y : World} {row : Option Nat} {base : Nat} {e : TypeId} {s : Nat} {v : Value} {n : Nat} {xs : List Value} (h : X.ownsRow base e s v n xs) (hg : X.grownBy Y row) (hr : ∀ r, row = some r → ∃ o : Obj, X.heap[r]? = some o ∧ o.isCells = false) : Y.ownsRow base e s v n xs := by
  refine h.kept hg ?_
  rcases h.2 with ⟨rfl, _⟩ | ⟨g, cap, cur, rfl, _, hgb, _⟩
  · exact .inl rfl
  · refine .inr fun e' => ?_
    obtain ⟨o, ho, hc⟩ := hr g (by simpa [Value.ownBlock] using e'.symm)
    rw [hgb] at ho; cases ho; cases hc
theorem box_own {X Y : World} {row : Option Nat} {B : Nat} {t : TypeId} {v : Value} (h : Boxed X B t v) (hg : X.grownBy Y row) (hr : ∀ r, row = some r → ∃ o : Obj, X.heap[r]? = some o ∧ o.isCells = false) : Boxed Y B t v := by
  refine h.kept hg fun e => ?_
  obtain ⟨o, ho, hc⟩ := hr B e.symm
  rw [show X.heap[B]? = _ from h] at ho; cases ho; cases hc
def InSn (n₀ B Bs Bn : Nat) (sv : Value) (bss : List (List Ch)) (W : World) : Prop := ∃ v, Boxed W B 145 v ∧ Bat W n₀ v bss ∧ Boxed W Bs 29 sv ∧ Boxed W Bn 3 (.int .i64 20)
theorem InSn.own (n₀ B Bs Bn : Nat) (sv : Value) (f : List Nat → List (List Ch)) : Own (fun pre W => InSn n₀ B Bs Bn sv (f pre) W) := by
  rintro s X Y row ⟨v, hv, ⟨vs, h1, h2, h3⟩, h4, h5⟩ hg hr
  exact ⟨v, box_own hv hg hr, ⟨vs, row_own h1 hg hr, fun i hi => row_own (h2 i hi) hg hr, h3⟩, box_own h4 hg hr, box_own h5 hg hr⟩
theorem keeps_below {W W' : World} (h : Below W.heap.size W W') : KeepsOthers W W' := ⟨h.size, fun k o hk _ => (h.block k (Array.getElem?_eq_some_iff.1 hk).1).trans hk⟩
theorem InSn.push {W wr w1 : World} {n₀ B Bs Bn : Nat} {sv v v' y : Value} {bss : List (List Ch)} {cs : List Ch} {vs : List Value} {tmp : Obj} (hn : n₀ ≤ W.heap.size) (hB : n₀ ≤ B) (hv : Boxed W B 145 v) (h1 : W.ownsRow n₀ 54 1 v bss.length vs) (h2 : ∀ i, i < bss.length → W.ownsRow n₀ 69 3 (vs.getD i nov) (bss.getD i []).length (chcells (bss.getD i [])))
    (h3 : ∀ i j k, i < j → j < bss.length → (vs.getD i nov).ownBlock = some k → (vs.getD j nov).ownBlock ≠ some k) (hs : Boxed W Bs 29 sv) (hm : Boxed W Bn 3 (.int .i64 20)) (hbw : Below W.heap.size W wr)
    (hy : wr.ownsRow W.heap.size 69 3 y cs.length (chcells cs)) (ho : w1.ownsRow n₀ 54 1 v' (bss.length + 1) (vs ++ [y])) (hg : (wr.alloc tmp).grownBy w1 v.ownBlock) :
    Boxed w1 B 145 v ∧ InSn n₀ B Bs Bn sv (bss ++ [cs]) (w1.setCell ⟨B, 0, none⟩ v') ∧ KeepsOthers W (w1.setCell ⟨B, 0, none⟩ v') ∧ KpC n₀ Bs Bn W (w1.setCell ⟨B, 0, none⟩ v') := by
  have bx : ∀ {b : Nat} {t : TypeId} {u : Value}, Boxed W b t u → Boxed wr b t u := fun h => (hbw.block _ h.lt).trans h
  have h1r := owns_below h1 hbw
  have hv1 : Boxed w1 B 145 v := ((bx hv).alloc tmp).kept hg ((bx hv).not_row (by decide) h1r)
  have hs1 : Boxed w1 Bs 29 sv := ((bx hs).alloc tmp).kept hg ((bx hs).not_row (by decide) h1r)
  have hm1 : Boxed w1 Bn 3 (.int .i64 20) := ((bx hm).alloc tmp).kept hg ((bx hm).not_row (by decide) h1r)
  have hbat : Bat w1 n₀ v' (bss ++ [cs]) := Bat.push (h1r.alloc tmp) (fun i hi => (owns_below (h2 i hi) hbw).alloc tmp) h3 ((owns_mono hy hn).alloc tmp) (fun i k hi he e => by
    have a1 := (h2 i hi).lt k he
    have a2 := hy.lt k e
    omega) ho hg
  have ns : Bs ≠ B := fun e => by
    have := (show W.heap[Bs]? = _ from hs)
    rw [e, show W.heap[B]? = _ from hv] at this
    simp at this
  have nm : Bn ≠ B := fun e => by
    have := (show W.heap[Bn]? = _ from hm)
    rw [e, show W.heap[B]? = _ from hv] at this
    simp at this
  have hs2 : Boxed (w1.setCell ⟨B, 0, none⟩ v') Bs 29 sv := hs1.kept (grownBy_setCell' w1 B v') (by simp [ns])
  have hm2 : Boxed (w1.setCell ⟨B, 0, none⟩ v') Bn 3 (.int .i64 20) := hm1.kept (grownBy_setCell' w1 B v') (by simp [nm])
  refine ⟨hv1, ⟨v', hv1.set v', hbat.boxed hv1, hs2, hm2⟩, ?_, ?_, hs2.cell.trans hs.cell.symm, hm2.cell.trans hm.cell.symm⟩
  · refine (((keeps_below hbw).trans (KeepsOthers.alloc _ tmp)).trans (KeepsOthers.of_grownBy hg fun j o ej hj => ?_)).trans (KeepsOthers.setCell _ _ _)
    rcases (h1r.alloc tmp).2 with ⟨rfl, _⟩ | ⟨g, cap, cur, rfl, _, hgb, _⟩
    · simp [Value.ownBlock] at ej
    · obtain rfl : g = j := by simpa [Value.ownBlock] using ej
      rw [hgb] at hj; cases hj; rfl
  · refine ((((Below.refl n₀ W).trans (hbw.mono hn)).alloc (by have := hbw.size; omega) tmp).grown hg (by have := hbw.size; simp; omega) fun j ej => ?_).setCell (p := ⟨B, 0, none⟩) hB v'
    exact (h1.lt j ej).1
theorem InSn.below {W W' : World} {n₀ B Bs Bn : Nat} {sv : Value} {bss : List (List Ch)} (h : InSn n₀ B Bs Bn sv bss W) (hb : Below W.heap.size W W') : InSn n₀ B Bs Bn sv bss W' := by
  obtain ⟨v, hv, h1, h2, h3⟩ := h
  exact ⟨v, (hb.block _ hv.lt).trans hv, h1.below hb, (hb.block _ h2.lt).trans h2, (hb.block _ h3.lt).trans h3⟩
theorem prs_part {w : World} {b o : Nat} {rs : List Pr} (h : Prs w (some ⟨b, o, none⟩) rs) (k : Nat) : Prs w (some ⟨b, o + k * 20 * 2, none⟩) ((rs.drop (k * 20)).take 20) := by
  rcases h with h | ⟨b', o', h1, h2, h3⟩
  · subst h; exact .inl (by simp)
  · cases h1
    refine .inr ⟨b, o + k * 20 * 2, rfl, h2, fun i hi => ?_⟩
    simp only [List.length_take, List.length_drop] at hi
    have := h3 (k * 20 + i) (by omega)
    rw [show o + k * 20 * 2 + i * 2 = o + (k * 20 + i) * 2 by omega]
    have e : ((rs.drop (k * 20)).take 20).getD i (ByteArray.empty, ByteArray.empty) = rs.getD (k * 20 + i) (ByteArray.empty, ByteArray.empty) := by
      simp [List.getD, List.getElem?_take, List.getElem?_drop, show i < 20 by omega]
    rw [e]
    exact this
end Go.Proofs.YtnmaknnnmjfhkagGreatDoor

namespace Go.Proofs.YtnmaknnnmjfhkagGreatDoor
open Go.RowKit Go.Shelf
set_option linter.unusedVariables false
set_option linter.unusedSimpArgs false
set_option maxRecDepth 4000
attribute [local go_sem] Oper.semAt_some
set_option maxHeartbeats 16000000 in
theorem snap_i (a : Option Addr) (rs : List Pr) (c : Nat) (w : World) (h : Prs w a rs) (hc : rs.length ≤ c) (hl : rs.length ≤ 1048576) (hs : ∀ x ∈ rs, x.1.size ≤ 1048576 ∧ x.2.size ≤ 1048576) :
    Calls Tryz.prog 163 #[.agg #[.slice a rs.length c]] w fun e w' => ∃ v, e = .returned v ∧ Bat w' w.heap.size v (snapOf rs) ∧ Below w.heap.size w w' := by
  refine (callsIn_wide (n := 4)).1 ?_
  unfold snapOf
  have hb0 : Below w.heap.size w (w.alloc (.cells #[.slice a rs.length c] 31)) := (Below.refl _ _).alloc (Nat.le_refl _) _
  have hv := vstate_i a rs c (w.alloc (.cells #[.slice a rs.length c] 31)) (h.below hb0) hl hs
  have HV := hid hv
  have HB0 := hid hb0
  clear hv hb0
  refine callsIn_of_wp_marks Tryz.func163 rfl trivial ?_ rfl
  simp only [Tryz.ntmps163, List.size_toArray, List.length_cons, List.length_nil, Nat.reduceAdd, Nat.reduceSub, Array.replicate_succ, Array.replicate_zero, List.push_toArray, List.append_toArray, List.nil_append, List.cons_append]
  cases hok : stateOk rs with
  | false =>
    rw [hok] at HV
    simp only [Bool.false_eq_true, if_false]
    gi_wp2_with (refine ⟨trivial, ?_⟩; gi_at_call 118; refine (callsIn_wide.2 HV.out).mono ?_; rintro e w2 ⟨rfl, hb2⟩)
    exact ⟨_, results_tmp rfl _ _ _, _, rfl, Bat.nil _ _, HB0.out.trans (hb2.mono HB0.out.size)⟩
  | true =>
    rw [hok] at HV
    simp only [if_true]
    have hle : rs.length ≤ 100 := (stateOk_of hok).1
    gi_wp2_with (first | (refine ⟨trivial, ?_⟩; gi_at_call 118; refine (callsIn_wide.2 HV.out).mono ?_; rintro e w2 ⟨rfl, hb2⟩; have q2 : w2.cell? ⟨w.heap.size, 0, none⟩ = some (.slice a rs.length c) := (hb2.cell (p := ⟨w.heap.size, 0, none⟩) (by simp)).trans (by go_simp); have hs2 : w.heap.size < w2.heap.size := Nat.lt_of_lt_of_le (by simp) hb2.size) | (refine ⟨trivial, ?_⟩; gi_at_call 226; refine (chunk_in Fence.wide _ trivial rfl _ _ _ _).mono ?_; rintro e w4 ⟨rfl, rfl⟩))
    obtain ⟨b, o, hab, hp⟩ : ∃ b o, (rs.length = 0 ∨ a = some ⟨b, o, none⟩) ∧ Prs w (some ⟨b, o, none⟩) rs := by
      rcases h with h | ⟨b, o, h1, h2, h3⟩
      · exact ⟨0, 0, .inl (by rw [h]; rfl), .inl h⟩
      · exact ⟨b, o, .inr h1, .inr ⟨b, o, rfl, h2, h3⟩⟩
    have hpw := hp.below (HB0.out.trans (hb2.mono HB0.out.size))
    have HP := hid hpw
    have HBW := hid (HB0.out.trans (hb2.mono HB0.out.size))
    have HAB := hid hab
    clear hp hpw hab h HV HB0 hb2 q2
    obtain ⟨i0, hi0, hz0, hz1, hz2⟩ := info_partsS info_chS
    have HI := hid (And.intro hi0 (And.intro hz0 (And.intro hz1 hz2)))
    obtain ⟨i1, hj0, hy0, hy1, hy2⟩ := info_partsS info_slS
    have HJ := hid (And.intro hj0 (And.intro hy0 (And.intro hy1 hy2)))
    clear hi0 hz0 hz1 hz2 hj0 hy0 hy1 hy2
    have bO := Boxed.new w2 145 (.slice none 0 0)
    have bS := Boxed.new (w2.alloc (.cells #[.slice none 0 0] 145)) 29 (.slice a rs.length c)
    have bN := Boxed.new ((w2.alloc (.cells #[.slice none 0 0] 145)).alloc (.cells #[.slice a rs.length c] 29)) 3 (.int .i64 20)
    simp only [World.size_alloc] at bS bN
    have hB0 : Below w2.heap.size w2 (((w2.alloc (.cells #[.slice none 0 0] 145)).alloc (.cells #[.slice a rs.length c] 29)).alloc (.cells #[.int .i64 20] 3)) := (((Below.refl _ w2).alloc (Nat.le_refl _) _).alloc (by simp) _).alloc (by simp; omega) _
    refine wpIn_rangeFunc_ownG rfl (by omega) (gf := 262) (lb := #[.pointer (some ⟨w2.heap.size + 1, 0, none⟩), .pointer (some ⟨w2.heap.size + 1 + 1, 0, none⟩)]) rfl trivial (enters_of Tryz.func262 (by kernel_rfl) rfl)
      (chunk_stops Fence.wide 3 trivial rfl (by omega) (w2.heap.size + 1) (w2.heap.size + 1 + 1) b o rs.length c a hle hc _ (by simp) (by simp) (KpC w2.heap.size (w2.heap.size + 1) (w2.heap.size + 1 + 1)) (fun A B h => h.2) (bS.alloc _).cell bN.cell HAB.out)
      KpC.t (KpC.b (by simp; omega) (by simp) (by simp)) (Below.refl _ _) (fun _ => rfl)
      (fun pre W => InSn w2.heap.size w2.heap.size (w2.heap.size + 1) (w2.heap.size + 1 + 1) (.slice a rs.length c) (pre.map (chunkAt rs)) W ∧ Below w2.heap.size w2 W)
      (fun _ _ _ => False)
      (OwnFrom.and (Own.from (InSn.own _ _ _ _ _ (fun pre => pre.map (chunkAt rs))) _) (ownFrom_below (Nat.le_refl _) (by simp; omega)))
      (fun _ _ _ _ _ hs _ _ => hs)
      ⟨⟨_, (bO.alloc _).alloc _, Bat.nil _ _, bS.alloc _, bN⟩, hB0⟩
      (fun x => { tmps := #[.agg #[.slice a rs.length c], .pointer (some ⟨w.heap.size, 0, none⟩), .slice none 0 0, .pointer (some ⟨w2.heap.size, 0, none⟩), partV b o rs.length x, undef, undef, undef, .agg #[.slice a rs.length c], .bool true, .bool false, .pointer (some ⟨w.heap.size, 0, none⟩), .slice a rs.length c, .func (.func 262) #[] #[.pointer (some ⟨w2.heap.size + 1, 0, none⟩), .pointer (some ⟨w2.heap.size + 1 + 1, 0, none⟩)], partV b o rs.length x, undef, undef, undef, undef, undef, undef, undef, undef, undef, undef, undef, undef, undef, undef, undef, undef, undef, undef, undef, undef], defers := [] }) ?assign ?body ?done ?stop
    case assign =>
      intro l x W K hK
      gi_wp2
      exact hK
    case body =>
      rintro l pre x W ⟨⟨v, hv, ⟨vs, h1, h2, h3⟩, hsb, hmb⟩, hB⟩ hlt
      have hpp := prs_part (HP.out.below hB) x
      obtain ⟨cs, hcs⟩ : ∃ cs, cs = (rs.drop (x * 20)).take 20 := ⟨_, rfl⟩
      have hcl : cs.length = min 20 (rs.length - x * 20) := by rw [hcs]; simp
      have HCH : Hid (chunkAt rs x = cs.map chOf) := by show _ = _; rw [hcs]; rfl
      obtain ⟨oo, hoo⟩ : ∃ oo, oo = o + x * 20 * 2 := ⟨_, rfl⟩
      unfold partV
      rw [← hcl, ← hoo]
      rw [← hcs, ← hoo] at hpp
      have hn20 : cs.length ≤ 20 := by omega
      have HPP := hid hpp
      have H1 := hid h1
      have H2 := hid h2
      have H3 := hid h3
      have HVB := hid hv
      have HSB := hid hsb
      have HMB := hid hmb
      have HB := hid hB
      clear hpp h1 h2 h3 hv hsb hmb hcs hoo hcl
      gi_wp2
      gi_loopw [5, 17] (fun y i wr => ∃ j : Nat, j ≤ cs.length ∧ i = .int .i64 (j : Int) ∧ wr.ownsRow W.heap.size 69 3 y j (chcells ((cs.map chOf).take j)) ∧ Below W.heap.size W wr) (fun _ i _ => cs.length - (intOf i).toNat)
      case atStart => exact ⟨0, Nat.zero_le _, rfl, World.ownsRow_nil _ _ _ _, Below.refl _ _⟩
      case round =>
        obtain ⟨j, hj, rfl, hown, hbel⟩ := hrel
        have HBL := hid hbel
        by_cases hjl : j < cs.length
        · obtain ⟨bb, ob, s0, s1, he, hc0, hc1, HS⟩ := (HPP.out.below hbel).at hjl
          obtain ⟨rfl, rfl⟩ : b = bb ∧ oo = ob := by cases he; exact ⟨rfl, rfl⟩
          clear he
          have hjl' : (j : Int) < (cs.length : Int) := by omega
          have hj0 : (0 : Int) ≤ (j : Int) := by omega
          have HO5 := hid ((hown.alloc (.cells #[.string s0, .string s1] 144)).alloc (.cells #[.string s0, .string s1, .bool false] 69))
          have hsz := hbel.size
          have hlb : b < wr.heap.size := by have := World.block_lt_of_cell? wr _ hc0; simpa using this
          gi_wp2_with (gi_at_builtin; refine wpListIn_append_own _ rfl _ _ 54 rfl W.heap.size 69 i0 (.agg #[.string ByteArray.empty, .string ByteArray.empty, .bool false]) 3 40 Tryz.underlying54 HI.out.1 HI.out.2.1 HI.out.2.2.1 HI.out.2.2.2 rfl (by omega) _ j _ rfl HO5.out ⟨wr.heap.size + 1, 0, none⟩ 1 1 [.string s0, .string s1, .bool false] rfl rfl (news1 wr _ _ _) (oneCS _ _ _) (by unfold maxLen; omega) (by omega) (by simp; omega) ?_; intro v' w7 hown7 hgrow7 _; have HO7 := hid hown7; have HB7 := hid (below_grownS (((HBL.out.alloc hsz _).alloc (by simp; omega) _)) HO5.out hgrow7 (by simp; omega)); clear hown7 hgrow7)
          go_roundw
          case rel =>
            refine ⟨j + 1, by omega, by go_num, ?_, HB7.out⟩
            have e2 : (cs.map chOf).take (j + 1) = (cs.map chOf).take j ++ [(s0, s1, false)] := by
              rw [List.take_succ_eq_append_getElem (by simpa using hjl)]
              congr 2
              have := HS.out
              simp [List.getD, hjl] at this
              rw [List.getElem_map, ← this]; rfl
            rw [e2, chcells_snocS]
            exact HO7.out
          case measure => simp [intOf]; omega
        · have hjj : j = cs.length := by omega
          subst hjj
          rw [List.take_of_length_le (by simp)] at hown
          obtain ⟨ya, yc, rfl⟩ : ∃ ya yc, u5 = Value.slice ya cs.length yc := by
            rcases owns_forms hown with ⟨e1, e2⟩ | ⟨g, cap, e1, _⟩
            · exact ⟨none, 0, by rw [e1, e2]⟩
            · exact ⟨_, cap, e1⟩
          have hyo : wr.ownsRow W.heap.size 69 3 (.slice ya cs.length yc) (chunkAt rs x).length (chcells (chunkAt rs x)) := by rw [HCH.out, List.length_map]; exact hown
          have HYO := hid hyo
          have qv : wr.cell? ⟨w2.heap.size, 0, none⟩ = some v := (hbel.cell (p := ⟨w2.heap.size, 0, none⟩) HVB.out.lt).trans HVB.out.cell
          have lv : w2.heap.size < wr.heap.size := Nat.lt_of_lt_of_le HVB.out.lt hbel.size
          obtain ⟨va, vc, hva⟩ : ∃ va vc, v = Value.slice va (pre.map (chunkAt rs)).length vc := by
            rcases owns_forms H1.out with ⟨e1, e2⟩ | ⟨g, cap, e1, _⟩
            · exact ⟨none, 0, by rw [e1, e2]⟩
            · exact ⟨_, cap, e1⟩
          have hnW : w2.heap.size ≤ W.heap.size := HB.out.size
          have hnr : w2.heap.size ≤ wr.heap.size := by omega
          have hpl : (pre.map (chunkAt rs)).length ≤ 10 := by rw [List.length_map]; omega
          obtain ⟨bss, hbss⟩ : ∃ bss, bss = pre.map (chunkAt rs) := ⟨_, rfl⟩
          have HBS : Hid ((pre ++ [x]).map (chunkAt rs) = bss ++ [chunkAt rs x]) := by show _ = _; rw [hbss]; simp
          rw [← hbss] at H1 H2 H3 hva hpl
          subst hva
          have H1R := hid ((owns_below H1.out hbel).alloc (.cells #[.slice ya cs.length yc] 54))
          clear hown hbel hyo hbss
          gi_wp2_with (gi_at_builtin; refine wpListIn_append_own _ rfl _ _ 145 rfl w2.heap.size 54 i1 (.slice none 0 0) 1 24 Tryz.underlying145 HJ.out.1 HJ.out.2.1 HJ.out.2.2.1 HJ.out.2.2.2 rfl (by omega) _ bss.length _ rfl H1R.out ⟨wr.heap.size, 0, none⟩ 1 1 [.slice ya cs.length yc] rfl rfl (cell_one_new _ _ _) (by simp [Value.oneCell']) (by unfold maxLen; omega) (by omega) (by simp; omega) ?_; intro v' w9 hown9 hgrow9 _; obtain ⟨g', cap', rfl⟩ := ownsRow_succ hown9; obtain ⟨hv1, hin, hko, hkp⟩ := InSn.push hnW (Nat.le_refl _) HVB.out H1.out H2.out H3.out HSB.out HMB.out HBL.out HYO.out hown9 hgrow9; have q9 := hv1.cell; have r9 := hv1.frozen; have HE := hid (And.intro hin (And.intro hko hkp)); clear hown9 hgrow9 hv1 hin hko hkp)
          exact ⟨HE.out.2.1.from _, HE.out.2.2, by rw [HBS.out]; exact HE.out.1, HB.out.trans HE.out.2.2.1⟩
    case done =>
      rintro D ys W hD rfl ⟨⟨v, hv, hbat, hsb, hmb⟩, hB⟩ hK
      have hcv := hv.cell
      gi_wp2
      refine ⟨by simp, .inl ⟨_, _, rfl, run_takeDeferred hK, ?_⟩⟩
      have hend : Bat (W.putObj D (.deferred none)) w2.heap.size v (snapU rs rs.length) := by
        obtain ⟨vs, h1, h2, h3⟩ := hbat
        rw [snapU_all]
        exact ⟨vs, ownsRow_putObj h1 _ hK rfl, fun i hi => ownsRow_putObj (h2 i hi) _ hK rfl, h3⟩
      exact ⟨_, results_tmp rfl _ _ _, v, rfl, hend.mono HBW.out.size, HBW.out.trans ((hB.trans (belowK_b (w := w2) (Nat.le_refl _) W D _ _ (by simp at hD; omega) hK rfl rfl)).mono HBW.out.size)⟩
    case stop =>
      rintro D c pre W _ _ h _
      exact h.elim
theorem snapOf_len (rs : List Pr) : (snapOf rs).length ≤ 5 := by
  unfold snapOf
  split
  · rename_i h; exact snapU_le rs _ (stateOk_of h).1
  · simp
theorem snapOf_mem {rs : List Pr} {b : List Ch} (h : b ∈ snapOf rs) : b.length ≤ 20 ∧ ∀ x ∈ b, (x.1, x.2.1) ∈ rs := by
  unfold snapOf at h
  split at h
  · exact snap_mem h
  · simp at h
end Go.Proofs.YtnmaknnnmjfhkagGreatDoor

namespace Go.Proofs.YtnmaknnnmjfhkagGreatDoor
open Go.RowKit
set_option linter.unusedVariables false
set_option linter.unusedSimpArgs false
set_option maxRecDepth 4000
def roomOf (bss : List (List Ch)) (n : Int) : Int := (bss.map fun b => npages (bOut b).size n).sum
theorem npages_bound (l : Nat) (n : Int) : 0 ≤ npages l n ∧ npages l n ≤ (l : Int) + 1 := by
  unfold npages nparts
  split
  · split
    · omega
    · have h := Nat.div_le_self (l - 1) (56 - n).toNat
      obtain ⟨q, hq⟩ : ∃ q, q = (l - 1) / (56 - n).toNat := ⟨_, rfl⟩
      rw [← hq] at h ⊢
      omega
  · omega
theorem bOut_bound (b : List Ch) : (bOut b).size ≤ 2460 := by
  unfold bOut
  split
  · rename_i h
    obtain ⟨h1, h2⟩ := batchOk_of h
    have := bForm_size b h2
    omega
  · simp
theorem roomOf_nil (n : Int) : roomOf [] n = 0 := rfl
theorem roomOf_snoc (bss : List (List Ch)) (b : List Ch) (n : Int) : roomOf (bss ++ [b]) n = roomOf bss n + npages (bOut b).size n := by simp [roomOf]
theorem roomOf_bound (bss : List (List Ch)) (n : Int) : 0 ≤ roomOf bss n ∧ roomOf bss n ≤ 2461 * (bss.length : Int) := by
  induction bss with
  | nil => exact ⟨Int.le_refl _, by simp [roomOf]⟩
  | cons b r ih =>
    have e : roomOf (b :: r) n = npages (bOut b).size n + roomOf r n := by simp [roomOf]
    have h1 := npages_bound (bOut b).size n
    have h2 := bOut_bound b
    rw [e, List.length_cons]
    omega
theorem takeR_snoc {α : Type} (l : List α) (k : Nat) (d : α) (h : k < l.length) : l.take (k + 1) = l.take k ++ [l.getD k d] := by
  rw [List.take_succ_eq_append_getElem h]
  simp [List.getD, h]
set_option maxHeartbeats 16000000 in
theorem room_s (a : Option Addr) (rs : List Pr) (c : Nat) (n : Int) (w : World) (h : Prs w a rs) (hl : rs.length ≤ 1048576) (hs : ∀ x ∈ rs, x.1.size ≤ 1048576 ∧ x.2.size ≤ 1048576) :
    Calls Tryz.prog 31 #[.agg #[.slice a rs.length c], .int .i64 n] w fun e w' => e = .returned (.int .i64 (roomOf (snapOf rs) n)) ∧ Below w.heap.size w w' := by
  have hb0 : Below w.heap.size w (w.alloc (.cells #[.slice a rs.length c] 31)) := (Below.refl _ _).alloc (Nat.le_refl _) _
  have hv := snap_s a rs c (w.alloc (.cells #[.slice a rs.length c] 31)) (h.below hb0) hl hs
  have HV := hid hv
  have HB0 := hid hb0
  clear hv hb0
  obtain ⟨bss, hbss⟩ : ∃ bss, bss = snapOf rs := ⟨_, rfl⟩
  have hbl := snapOf_len rs
  have HMB : Hid (∀ b ∈ bss, b.length ≤ 1048576 ∧ ∀ x ∈ b, x.1.size ≤ 1048576 ∧ x.2.1.size ≤ 1048576) := by
    intro b hb
    rw [hbss] at hb
    obtain ⟨h1, h2⟩ := snapOf_mem hb
    exact ⟨by omega, fun x hx => hs _ (h2 x hx)⟩
  rw [← hbss] at HV hbl ⊢
  clear hbss
  go_enter Tryz.func31, Tryz.ntmps31
  go_wp2_with (go_at_call 105; refine HV.out.mono ?_; rintro e w2 ⟨v, rfl, hbat, hb2⟩)
  obtain ⟨va, vc, rfl, hbt⟩ := hbat.bts
  have HBT := hid hbt
  have HBW := hid (HB0.out.trans (hb2.mono HB0.out.size))
  clear hbat hb2 hbt HV HB0
  go_loopw [5, 7] (fun y i wr => ∃ k : Nat, k ≤ bss.length ∧ i = .int .i64 (k : Int) ∧ y = .int .i64 (roomOf (bss.take k) n) ∧ Below w2.heap.size w2 wr) (fun _ i _ => bss.length - (intOf i).toNat)
  case atStart => exact ⟨0, Nat.zero_le _, rfl, rfl, Below.refl _ _⟩
  case round =>
    obtain ⟨k, hk, rfl, rfl, hbel⟩ := hrel
    by_cases hlt : k < bss.length
    · obtain ⟨g, p, cc, rfl, hg, hc, hch⟩ := (HBT.out.below hbel).at hlt
      have hlt' : (k : Int) < (bss.length : Int) := by omega
      have hk0 : (0 : Int) ≤ (k : Int) := by omega
      have hmem := HMB.out (bss.getD k []) (by simp [List.getD, hlt])
      have HST := hid (roomOf_snoc (bss.take k) (bss.getD k []) n)
      rw [← takeR_snoc bss k [] hlt] at HST
      have hR := roomOf_bound (bss.take k) n
      have hRl : (bss.take k).length ≤ 5 := by rw [List.length_take]; omega
      have hP := npages_bound (bOut (bss.getD k [])).size n
      have hO := bOut_bound (bss.getD k [])
      obtain ⟨b, hb⟩ : ∃ b, b = bss.getD k [] := ⟨_, rfl⟩
      rw [← hb] at hc hch hmem HST hP hO
      obtain ⟨r, hr⟩ : ∃ r, r = roomOf (bss.take k) n := ⟨_, rfl⟩
      rw [← hr] at HST hR ⊢
      have HF := hid (fun W (hW : Chs W p b) => formbatch_s p b cc W hW hmem.1 hmem.2)
      have HG := hid (fun W => pages_s (bOut b) n W (by omega))
      have HCH := hid hch
      have HBL := hid hbel
      obtain ⟨q, hq⟩ : ∃ q, q = npages (bOut b).size n := ⟨_, rfl⟩
      rw [← hq] at HG hP HST
      obtain ⟨bo, hbo⟩ : ∃ bo, bo = bOut b := ⟨_, rfl⟩
      rw [← hbo] at HF HG hP hO
      have hw0 : IntKind.i64.wrap (r + q) = r + q := by simp [IntKind.wrap, IntKind.bits, IntKind.signed]; omega
      clear hb hr hq hbo hmem hch hbel
      go_wp2_with (first | (go_at_call 103; refine (HF.out _ HCH.out).mono ?_; rintro e w3 ⟨rfl, hb3⟩) | (go_at_call 106; refine (HG.out _).mono ?_; rintro e w4 ⟨rfl, hb4⟩))
      refine ⟨⟨k + 1, by omega, by go_num, ?_, ?_⟩, by simp [intOf]; omega⟩
      · rw [HST.out]
      · exact HBL.out.trans ((hb3.trans (hb4.mono hb3.size)).mono HBL.out.size)
    · have hkl : k = bss.length := by omega
      subst hkl
      go_wp2
      go_ret
      exact ⟨by simp, HBW.out.trans (hbel.mono HBW.out.size)⟩
set_option maxHeartbeats 16000000 in
theorem room_i (a : Option Addr) (rs : List Pr) (c : Nat) (n : Int) (w : World) (h : Prs w a rs) (hc0 : rs.length ≤ c) (hl : rs.length ≤ 1048576) (hs : ∀ x ∈ rs, x.1.size ≤ 1048576 ∧ x.2.size ≤ 1048576) :
    Calls Tryz.prog 159 #[.agg #[.slice a rs.length c], .int .i64 n] w fun e w' => e = .returned (.int .i64 (roomOf (snapOf rs) n)) ∧ Below w.heap.size w w' := by
  have hb0 : Below w.heap.size w (w.alloc (.cells #[.slice a rs.length c] 31)) := (Below.refl _ _).alloc (Nat.le_refl _) _
  have hv := snap_i a rs c (w.alloc (.cells #[.slice a rs.length c] 31)) (h.below hb0) hc0 hl hs
  have HV := hid hv
  have HB0 := hid hb0
  clear hv hb0
  obtain ⟨bss, hbss⟩ : ∃ bss, bss = snapOf rs := ⟨_, rfl⟩
  have hbl := snapOf_len rs
  have HMB : Hid (∀ b ∈ bss, b.length ≤ 1048576 ∧ ∀ x ∈ b, x.1.size ≤ 1048576 ∧ x.2.1.size ≤ 1048576) := by
    intro b hb
    rw [hbss] at hb
    obtain ⟨h1, h2⟩ := snapOf_mem hb
    exact ⟨by omega, fun x hx => hs _ (h2 x hx)⟩
  rw [← hbss] at HV hbl ⊢
  clear hbss
  go_enter Tryz.func159, Tryz.ntmps159
  go_wp2_with (go_at_call 163; refine HV.out.mono ?_; rintro e w2 ⟨v, rfl, hbat, hb2⟩; obtain ⟨va, vc, rfl, hbt⟩ := hbat.bts)
  have HBT := hid hbt
  have HBW := hid (HB0.out.trans (hb2.mono HB0.out.size))
  clear hbat hb2 hbt HV HB0
  go_loopw [5, 11] (fun y i wr => ∃ k : Nat, k ≤ bss.length ∧ i = .int .i64 (k : Int) ∧ y = .int .i64 (roomOf (bss.take k) n) ∧ Below w2.heap.size w2 wr) (fun _ i _ => bss.length - (intOf i).toNat)
  case atStart => exact ⟨0, Nat.zero_le _, rfl, rfl, Below.refl _ _⟩
  case round =>
    obtain ⟨k, hk, rfl, rfl, hbel⟩ := hrel
    by_cases hlt : k < bss.length
    · obtain ⟨g, p, cc, rfl, hg, hc, hch⟩ := (HBT.out.below hbel).at hlt
      have hlt' : (k : Int) < (bss.length : Int) := by omega
      have hk0 : (0 : Int) ≤ (k : Int) := by omega
      have hmem := HMB.out (bss.getD k []) (by simp [List.getD, hlt])
      have HST := hid (roomOf_snoc (bss.take k) (bss.getD k []) n)
      rw [← takeR_snoc bss k [] hlt] at HST
      have hR := roomOf_bound (bss.take k) n
      have hRl : (bss.take k).length ≤ 5 := by rw [List.length_take]; omega
      have hP := npages_bound (bOut (bss.getD k [])).size n
      have hO := bOut_bound (bss.getD k [])
      obtain ⟨b, hb⟩ : ∃ b, b = bss.getD k [] := ⟨_, rfl⟩
      rw [← hb] at hc hch hmem HST hP hO
      obtain ⟨r, hr⟩ : ∃ r, r = roomOf (bss.take k) n := ⟨_, rfl⟩
      rw [← hr] at HST hR ⊢
      have HF := hid (fun W (hW : Chs W p b) => formbatch_i p b cc W hW hmem.1 hmem.2)
      have HG := hid (fun W => pages_i (bOut b) n W (by omega))
      have HCH := hid hch
      have HBL := hid hbel
      obtain ⟨q, hq⟩ : ∃ q, q = npages (bOut b).size n := ⟨_, rfl⟩
      rw [← hq] at HG hP HST
      obtain ⟨bo, hbo⟩ : ∃ bo, bo = bOut b := ⟨_, rfl⟩
      rw [← hbo] at HF HG hP hO
      have hw0 : IntKind.i64.wrap (r + q) = r + q := by simp [IntKind.wrap, IntKind.bits, IntKind.signed]; omega
      clear hb hr hq hbo hmem hch hbel
      go_wp2_with (first | (go_at_call 94; refine (HF.out _ HCH.out).mono ?_; rintro e w3 ⟨rfl, hb3⟩) | (go_at_call 95; refine (HG.out _).mono ?_; rintro e w4 ⟨rfl, hb4⟩))
      refine ⟨⟨k + 1, by omega, by go_num, ?_, ?_⟩, by simp [intOf]; omega⟩
      · rw [HST.out]
      · exact HBL.out.trans ((hb3.trans (hb4.mono hb3.size)).mono HBL.out.size)
    · have hkl : k = bss.length := by omega
      subst hkl
      go_wp2
      go_ret
      exact ⟨by simp, HBW.out.trans (hbel.mono HBW.out.size)⟩
end Go.Proofs.YtnmaknnnmjfhkagGreatDoor

namespace Go.Proofs.YtnmaknnnmjfhkagGreatDoor
open Go.RowKit
set_option linter.unusedVariables false
set_option linter.unusedSimpArgs false
set_option maxRecDepth 4000
def rootOk (T H F R : Int) : Bool := decide (0 ≤ T ∧ T ≤ 1000000000) && decide (0 ≤ R ∧ R ≤ 60000) && decide (0 ≤ H ∧ H ≤ 1) && decide (1 ≤ F ∧ F ≤ 999999000)
theorem hv_yes {S : Int} (h : 8 ≤ S ∧ S ≤ 200) : 3 ≤ hv S ∧ hv S ≤ 99 := by unfold hv; rw [if_pos h]; omega
theorem hv_no {S : Int} (h : ¬ (8 ≤ S ∧ S ≤ 200)) : hv S = 0 := by unfold hv; rw [if_neg h]
theorem root_no (T H F R : Int) (h : ¬ (0 ≤ T ∧ T ≤ 1000000000) ∨ ¬ (0 ≤ R ∧ R ≤ 60000) ∨ ¬ (0 ≤ H ∧ H ≤ 1) ∨ ¬ (1 ≤ F ∧ F ≤ 999999000)) : rootOk T H F R = false := by
  unfold rootOk
  rcases h with h | h | h | h <;> simp [h]
end Go.Proofs.YtnmaknnnmjfhkagGreatDoor

namespace Go.Proofs.YtnmaknnnmjfhkagGreatDoor
open Go.RowKit
set_option linter.unusedVariables false
set_option linter.unusedSimpArgs false
set_option maxRecDepth 4000
def putOps (base : Int) (l : List ByteArray) : List OpT := l.mapIdx fun i p => (false, base + (i : Int), p)
theorem putOps_nil (base : Int) : putOps base [] = [] := rfl
theorem putOps_snoc (base : Int) (l : List ByteArray) (p : ByteArray) : putOps base (l ++ [p]) = putOps base l ++ [(false, base + (l.length : Int), p)] := by simp [putOps, List.mapIdx_append]
theorem putOps_length (base : Int) (l : List ByteArray) : (putOps base l).length = l.length := by simp [putOps]
def mvStep (L F : Int) (n m : Nat) (acc : List ByteArray) (b : List Ch) : List ByteArray := acc ++ cutAll (bOut b) L (F + (acc.length : Int)) n m
def mvPages (L F : Int) (n m : Nat) (bss : List (List Ch)) : List ByteArray := bss.foldl (mvStep L F n m) [formOf 3 L F ByteArray.empty (n : Int)]
theorem mvPages_nil (L F : Int) (n m : Nat) : mvPages L F n m [] = [formOf 3 L F ByteArray.empty (n : Int)] := rfl
theorem mvPages_snoc (L F : Int) (n m : Nat) (bss : List (List Ch)) (b : List Ch) : mvPages L F n m (bss ++ [b]) = mvPages L F n m bss ++ cutAll (bOut b) L (F + ((mvPages L F n m bss).length : Int)) n m := by
  unfold mvPages; rw [List.foldl_append]; rfl
theorem cutAll_len (s : ByteArray) (l f : Int) (n m : Nat) (hm : n + m = 56) (h1 : 1 ≤ n) (h2 : n ≤ 8) : ((cutAll s l f n m).length : Int) ≤ npages s.size (n : Int) := by
  have e : (56 - (n : Int)).toNat = m := by omega
  unfold npages
  rw [if_pos (by omega), e]
  unfold cutAll
  split
  · rw [cutList_length]; omega
  · simp
theorem mvPages_len (L F : Int) (n m : Nat) (hm : n + m = 56) (h1 : 1 ≤ n) (h2 : n ≤ 8) (bss : List (List Ch)) : ((mvPages L F n m bss).length : Int) ≤ 1 + roomOf bss (n : Int) := by
  obtain ⟨k, hk⟩ : ∃ k, k = bss.length := ⟨_, rfl⟩
  induction k generalizing bss with
  | zero => rw [List.eq_nil_of_length_eq_zero hk.symm, mvPages_nil, roomOf_nil]; simp
  | succ k ih =>
    obtain ⟨b, bs, rfl⟩ : ∃ b bs, bss = bs ++ [b] := by
      rcases List.eq_nil_or_concat bss with h | ⟨l, a, h⟩
      · subst h; simp at hk
      · exact ⟨a, l, by simpa using h⟩
    have := ih bs (by simp at hk; omega)
    rw [mvPages_snoc, roomOf_snoc, List.length_append]
    have := cutAll_len (bOut b) L (F + ((mvPages L F n m bs).length : Int)) n m hm h1 h2
    omega
theorem room_take (bss : List (List Ch)) (k : Nat) (n : Int) : roomOf (bss.take k) n ≤ roomOf bss n := by
  have e : roomOf bss n = roomOf (bss.take k) n + roomOf (bss.drop k) n := by
    unfold roomOf; rw [← List.sum_append, ← List.map_append, List.take_append_drop]
  have := (roomOf_bound (bss.drop k) n).1
  omega
def mvOk (W S L T H F : Int) (rs : List Pr) : Prop := (1 ≤ W ∧ W ≤ 8) ∧ (8 ≤ S ∧ S ≤ 200) ∧ (1 ≤ L ∧ L ≤ 60000) ∧ (0 ≤ T ∧ T ≤ 1000000000) ∧ (0 ≤ H ∧ H ≤ 1) ∧ (1 ≤ F ∧ F ≤ 999999000) ∧ roomOf (snapOf rs) W ≤ hv S - 1
def mvFit (S T F : Int) : Bool := decide (T + 1 ≤ 1000000000 ∧ F + hv S ≤ 999999000)
def mvD (W S L T H F : Int) (rs : List Pr) : Dd := ⟨0, W, S, L, T + 1, 1 - H, F + hv S, L, ((mvPages L (F + hv S) W.toNat (56 - W.toNat) (snapOf rs)).length : Int), 0, rs, putOps (2 + (1 - H) * hv S) (mvPages L (F + hv S) W.toNat (56 - W.toNat) (snapOf rs)) ++ [(true, 0, ByteArray.empty), (false, (T + 1) % 2, rtForm (T + 1) (1 - H) (F + hv S) L W), (true, 0, ByteArray.empty)]⟩
def moveD (W S L T H F : Int) (rs : List Pr) : Dd := if mvFit S T F = true then mvD W S L T H F rs else noD 4
end Go.Proofs.YtnmaknnnmjfhkagGreatDoor

namespace Go.Proofs.YtnmaknnnmjfhkagGreatDoor
open Go.RowKit
set_option maxRecDepth 4000
set_option linter.unusedVariables false
set_option linter.unusedSimpArgs false
def scOk (ss : List ByteArray) (ws : List (Int × ByteArray)) (frm size n : Int) : Prop := diskOk ss ws = true ∧ (1 ≤ n ∧ n ≤ 8) ∧ 0 ≤ frm ∧ 0 ≤ size ∧ frm ≤ (ss.length : Int) ∧ size ≤ (ss.length : Int) - frm
instance (ss : List ByteArray) (ws : List (Int × ByteArray)) (frm size n : Int) : Decidable (scOk ss ws frm size n) := by unfold scOk; infer_instance
def scD (ss : List ByteArray) (ws : List (Int × ByteArray)) (frm size first life n : Int) : Scd :=
  if scOk ss ws frm size n then scanP (fun k => (syncs ws ss).getD k ByteArray.empty) frm.toNat first n size.toNat 0 0 life ByteArray.empty ([], 0, life) else ([], 0, 0)
def ScPost (w w' : World) (e : Ending) (x : Scd) : Prop := ∃ y, e = .returned (.agg #[y, .int .i64 x.2.1, .int .i64 x.2.2]) ∧ w'.ownsRow w.heap.size 9 1 y x.1.length (x.1.map Value.string) ∧ Below w.heap.size w w'
structure ScB (w0 w : World) (RB G XB OT WS : Nat) (S : List Value) (cx : Nat) (xp : Value) (y : Value) (ents : List ByteArray) (u l wk wl wm : Int) (wp : ByteArray) : Prop where
  rb : Row w RB [.slice none 0 0, .int .i64 0, .int .i64 0]
  sec : Row w G S
  xb : Row w XB [.slice (some ⟨G, 0, none⟩) S.length cx, xp]
  ot : Row w OT [y, .int .i64 u, .int .i64 l]
  ws : Row w WS [.int .i64 wk, .int .i64 wl, .int .i64 wm, .string wp]
  own : w.ownsRow w0.heap.size 9 1 y ents.length (ents.map Value.string)
  o1 : w0.heap.size ≤ RB
  o2 : RB < G
  o3 : G < XB
  o4 : XB < OT
  o5 : OT < WS
  yo : ∀ k, y.ownBlock = some k → WS < k
  be : Below w0.heap.size w0 w
section
variable {w0 w w' : World} {RB G XB OT WS : Nat} {S : List Value} {cx : Nat} {xp : Value} {y : Value} {ents : List ByteArray} {u l wk wl wm : Int} {wp : ByteArray}
theorem ScB.below (h : ScB w0 w RB G XB OT WS S cx xp y ents u l wk wl wm wp) (hb : Below w.heap.size w w') : ScB w0 w' RB G XB OT WS S cx xp y ents u l wk wl wm wp :=
  ⟨h.rb.below hb, h.sec.below hb, h.xb.below hb, h.ot.below hb, h.ws.below hb, owns_below h.own hb, h.o1, h.o2, h.o3, h.o4, h.o5, h.yo, h.be.trans (hb.mono h.be.size)⟩
theorem ScB.own_ne (h : ScB w0 w RB G XB OT WS S cx xp y ents u l wk wl wm wp) {k : Nat} (hk : k ≤ WS) : y.ownBlock ≠ some k := fun e => by have := h.yo k e; omega
theorem ScB.setWas (h : ScB w0 w RB G XB OT WS S cx xp y ents u l wk wl wm wp) (k' l' m' : Int) (p' : ByteArray) :
    ScB w0 ((((w.setCell ⟨WS, 0, none⟩ (.int .i64 k')).setCell ⟨WS, 1, none⟩ (.int .i64 l')).setCell ⟨WS, 2, none⟩ (.int .i64 m')).setCell ⟨WS, 3, none⟩ (.string p')) RB G XB OT WS S cx xp y ents u l k' l' m' p' := by
  have o1 := h.o1; have o2 := h.o2; have o3 := h.o3; have o4 := h.o4; have o5 := h.o5
  have far : ∀ {g : Nat} {cs : List Value}, g ≠ WS → Row w g cs → Row ((((w.setCell ⟨WS, 0, none⟩ (.int .i64 k')).setCell ⟨WS, 1, none⟩ (.int .i64 l')).setCell ⟨WS, 2, none⟩ (.int .i64 m')).setCell ⟨WS, 3, none⟩ (.string p')) g cs := fun hg hr =>
    (((hr.other _ (Ne.symm hg) _).other _ (Ne.symm hg) _).other _ (Ne.symm hg) _).other _ (Ne.symm hg) _
  have hy := h.own_ne (Nat.le_refl WS)
  have bs : ∀ {x : World}, Below w0.heap.size w0 x → ∀ i v, Below w0.heap.size w0 (x.setCell ⟨WS, i, none⟩ v) := fun hx i v => hx.setCell (by show w0.heap.size ≤ WS; omega) _
  exact ⟨far (by omega) h.rb, far (by omega) h.sec, far (by omega) h.xb, far (by omega) h.ot, (((h.ws.set 0 (by simp) _).set 1 (by simp) _).set 2 (by simp) _).set 3 (by simp) _,
    ownsRow_setCell_other (ownsRow_setCell_other (ownsRow_setCell_other (ownsRow_setCell_other h.own hy _) hy _) hy _) hy _, o1, o2, o3, o4, o5, h.yo, bs (bs (bs (bs h.be _ _) _ _) _ _) _ _⟩
theorem ScB.setEnd (h : ScB w0 w RB G XB OT WS S cx xp y ents u l wk wl wm wp) (u' l' : Int) :
    ScB w0 ((w.setCell ⟨OT, 1, none⟩ (.int .i64 u')).setCell ⟨OT, 2, none⟩ (.int .i64 l')) RB G XB OT WS S cx xp y ents u' l' wk wl wm wp := by
  have o1 := h.o1; have o2 := h.o2; have o3 := h.o3; have o4 := h.o4; have o5 := h.o5
  have far : ∀ {g : Nat} {cs : List Value}, g ≠ OT → Row w g cs → Row ((w.setCell ⟨OT, 1, none⟩ (.int .i64 u')).setCell ⟨OT, 2, none⟩ (.int .i64 l')) g cs := fun hg hr => (hr.other _ (Ne.symm hg) _).other _ (Ne.symm hg) _
  have hy := h.own_ne (k := OT) (by omega)
  have bs : ∀ {x : World}, Below w0.heap.size w0 x → ∀ i v, Below w0.heap.size w0 (x.setCell ⟨OT, i, none⟩ v) := fun hx i v => hx.setCell (by show w0.heap.size ≤ OT; omega) _
  exact ⟨far (by omega) h.rb, far (by omega) h.sec, far (by omega) h.xb, (h.ot.set 1 (by simp) _).set 2 (by simp) _, far (by omega) h.ws,
    ownsRow_setCell_other (ownsRow_setCell_other h.own hy _) hy _, o1, o2, o3, o4, o5, h.yo, bs (bs h.be _ _) _ _⟩
theorem ScB.push (h : ScB w0 w RB G XB OT WS S cx xp y ents u l wk wl wm wp) {y' : Value} {ents' : List ByteArray} {H : Nat} (hown : w'.ownsRow w0.heap.size 9 1 y' ents'.length (ents'.map Value.string)) (hg : w.grownBy w' y.ownBlock) (hat : y.ownBlock = y'.ownBlock ∨ y'.ownBlock = some H) (hH : w.heap.size ≤ H) :
    ScB w0 (w'.setCell ⟨OT, 0, none⟩ y') RB G XB OT WS S cx xp y' ents' u l wk wl wm wp := by
  have o1 := h.o1; have o2 := h.o2; have o3 := h.o3; have o4 := h.o4; have o5 := h.o5
  have lW := h.ws.lt
  have yo' : ∀ k, y'.ownBlock = some k → WS < k := fun k hk => by
    rcases hat with e | e
    · exact h.yo k (e.trans hk)
    · rw [e] at hk; cases hk; omega
  have gr : ∀ {g : Nat} {cs : List Value}, g ≤ WS → Row w g cs → Row w' g cs := fun hle hr => hr.grown hg (fun e => h.own_ne hle e.symm)
  have far : ∀ {g : Nat} {cs : List Value}, g ≠ OT → Row w' g cs → Row (w'.setCell ⟨OT, 0, none⟩ y') g cs := fun hg hr => hr.other _ (Ne.symm hg) _
  have hy' : y'.ownBlock ≠ some OT := fun e => by have := yo' OT e; omega
  have be' : Below w0.heap.size w0 w' := h.be.trans (grown_below hg h.be.size (fun g e => (h.own.lt g e).1))
  exact ⟨far (by omega) (gr (by omega) h.rb), far (by omega) (gr (by omega) h.sec), far (by omega) (gr (by omega) h.xb), (gr (by omega) h.ot).set 0 (by simp) _, far (by omega) (gr (Nat.le_refl _) h.ws),
    ownsRow_setCell_other hown hy' _, o1, o2, o3, o4, o5, yo', be'.setCell (by show w0.heap.size ≤ OT; omega) _⟩
end
set_option maxHeartbeats 16000000 in
theorem goes_s (wk wl wm : Int) (wp : ByteArray) (k l m : Int) (p : ByteArray) (w : World) : Calls Tryz.prog 140 #[pageV wk wl wm wp, pageV k l m p] w fun e w' => e = .returned (.bool (goesP wk wl k l)) ∧ Below w.heap.size w w' := by
  have hb2 : ∀ o1 o2, Below w.heap.size w ((w.alloc o1).alloc o2) := fun o1 o2 => ((Below.refl _ _).alloc (Nat.le_refl _) _).alloc (by simp) _
  obtain ⟨B, hB⟩ : ∃ B, goesP wk wl k l = B := ⟨_, rfl⟩
  have HB := hid hB
  rw [hB]
  clear hB
  by_cases h1 : l < wl
  · have e : B = false := by rw [← HB.out]; unfold goesP; simp; omega
    subst e
    clear HB
    go_enter Tryz.func140, Tryz.ntmps140
    go_wp2
    go_ret
    exact ⟨rfl, hb2 _ _⟩
  · by_cases h3 : k = 3
    · subst h3
      by_cases hw : wk = 1
      · have e : B = false := by rw [← HB.out]; unfold goesP; simp [hw]
        subst e
        clear HB
        go_enter Tryz.func140, Tryz.ntmps140
        go_wp2
        go_ret
        exact ⟨rfl, hb2 _ _⟩
      · have e : B = true := by rw [← HB.out]; unfold goesP; simp [hw]; omega
        have hwb : (wk != 1) = true := by simp [hw]
        subst e
        clear HB
        go_enter Tryz.func140, Tryz.ntmps140
        go_wp2
        go_ret
        exact ⟨rfl, hb2 _ _⟩
    · by_cases h12 : k = 1 ∨ k = 2
      · by_cases hw : wk = 1
        · by_cases hl : wl = l
          · have e : B = true := by rw [← HB.out]; unfold goesP; rcases h12 with rfl | rfl <;> simp [hw, hl]
            subst e
            clear HB
            rcases h12 with rfl | rfl <;> (go_enter Tryz.func140, Tryz.ntmps140; go_wp2; go_ret; exact ⟨rfl, hb2 _ _⟩)
          · have e : B = false := by rw [← HB.out]; unfold goesP; rcases h12 with rfl | rfl <;> simp [hw, hl]
            have hlb : (wl == l) = false := by simp [hl]
            subst e
            clear HB
            rcases h12 with rfl | rfl <;> (go_enter Tryz.func140, Tryz.ntmps140; go_wp2; go_ret; exact ⟨rfl, hb2 _ _⟩)
        · have e : B = true := by rw [← HB.out]; unfold goesP; rcases h12 with rfl | rfl <;> simp [hw] <;> omega
          have hwb : (wk != 1) = true := by simp [hw]
          subst e
          clear HB
          rcases h12 with rfl | rfl <;> (go_enter Tryz.func140, Tryz.ntmps140; go_wp2; go_ret; exact ⟨rfl, hb2 _ _⟩)
      · have hk1 : ¬ k = 1 := fun e => h12 (.inl e)
        have hk2 : ¬ k = 2 := fun e => h12 (.inr e)
        have e : B = false := by rw [← HB.out]; unfold goesP; simp [h3, hk1, hk2]
        subst e
        clear HB h12
        go_enter Tryz.func140, Tryz.ntmps140
        go_wp2
        go_ret
        exact ⟨rfl, hb2 _ _⟩
end Go.Proofs.YtnmaknnnmjfhkagGreatDoor

namespace Go.Proofs.YtnmaknnnmjfhkagGreatDoor
open Go.RowKit
set_option maxRecDepth 4000
set_option linter.unusedVariables false
set_option linter.unusedSimpArgs false
def foldE : List ByteArray → List Pr → Option (List Pr)
  | [], rs => some rs
  | e :: es, rs => match resS e with
    | none => none
    | some b => if apC rs b = 0 then foldE es (apU rs b) else none
theorem foldE_ok : ∀ (es : List ByteArray) (rs : List Pr), stateOk rs = true → ∀ r, foldE es rs = some r → stateOk r = true
  | [], rs, h, r, hr => by cases hr; exact h
  | e :: es, rs, h, r, hr => by
    rw [foldE] at hr
    split at hr
    · cases hr
    · split at hr
      · rename_i hc
        exact foldE_ok es _ (apU_ok hc) r hr
      · cases hr
theorem foldE_none {e : ByteArray} {es : List ByteArray} {rs : List Pr} (h : resS e = none) : foldE (e :: es) rs = none := by rw [foldE, h]
theorem foldE_no {e : ByteArray} {es : List ByteArray} {rs : List Pr} {b : List Ch} (h : resS e = some b) (hc : apC rs b ≠ 0) : foldE (e :: es) rs = none := by rw [foldE, h]; simp only; rw [if_neg hc]
theorem foldE_yes {e : ByteArray} {es : List ByteArray} {rs : List Pr} {b : List Ch} (h : resS e = some b) (hc : apC rs b = 0) : foldE (e :: es) rs = foldE es (apU rs b) := by rw [foldE, h]; simp only; rw [if_pos hc]
theorem stateOk_nil : stateOk [] = true := by decide
theorem stateOk_sizes {rs : List Pr} (h : stateOk rs = true) : rs.length ≤ 100 ∧ ∀ x ∈ rs, x.1.size ≤ 1048576 ∧ x.2.size ≤ 1048576 := by
  obtain ⟨h1, h2, h3⟩ := (stateOk_iff rs).1 h
  refine ⟨h1, fun x hx => ?_⟩
  obtain ⟨k1, k2⟩ := h2 x hx
  unfold kOk at k1
  unfold vOk at k2
  simp at k1 k2
  omega
theorem batchOk_sizes {b : List Ch} (h : batchOk b = true) : b.length ≤ 20 ∧ ∀ x ∈ b, x.1.size ≤ 1048576 ∧ x.2.1.size ≤ 1048576 := by
  obtain ⟨h1, h2⟩ := batchOk_of h
  refine ⟨by omega, fun x hx => ?_⟩
  obtain ⟨k1, k2⟩ := chOk_parts (h2 x hx)
  unfold kOk at k1
  unfold vOk at k2
  simp at k1 k2
  omega
def rtGood (x : RtT) : Prop := (0 ≤ x.1 ∧ x.1 ≤ 1000000000) ∧ (0 ≤ x.2.1 ∧ x.2.1 ≤ 1) ∧ (1 ≤ x.2.2.1 ∧ x.2.2.1 ≤ 999999000) ∧ (0 ≤ x.2.2.2 ∧ x.2.2.2 ≤ 60000)
theorem rootOf_good {s : ByteArray} {a n : Int} {x : RtT} (h : rootOf s a n = some x) : rtGood x := by
  unfold rootOf at h
  split at h
  · cases h
  · rename_i k l m p hp
    have hr := rpRes_some hp
    split at h
    · rename_i hh
      cases h
      obtain ⟨h1, h2, h3⟩ := hh
      have hf : rtOk (ptH p) (ptF p) := by
        by_cases e : rtOk (ptH p) (ptF p)
        · exact e
        · exfalso
          unfold rtForm at h2
          rw [if_neg e] at h2
          have h64 := hr.1
          rw [← h2] at h64
          exact absurd h64 (by decide)
      unfold rtOk at hf
      unfold rtGood
      simp only
      omega
    · cases h
theorem rtMax_good {b : RtT} {o : Option RtT} (hb : rtGood b) (ho : ∀ x, o = some x → rtGood x) : rtGood (rtMax b o) := by
  unfold rtMax
  split
  · exact hb
  · rename_i r
    split
    · exact ho _ rfl
    · exact hb
theorem frOf_good (s0 s1 : ByteArray) (n : Int) : rtGood (frOf s0 s1 n) := by
  unfold frOf
  exact rtMax_good (rtMax_good (by unfold rtGood; simp) (fun x hx => rootOf_good hx)) (fun x hx => rootOf_good hx)
theorem frD_good {ss : List ByteArray} {ws : List (Int × ByteArray)} {n : Int} (h : diskOk ss ws = true ∧ 1 ≤ n ∧ n ≤ 8) : rtGood (frD ss ws n) := by
  unfold frD
  rw [if_pos h]
  exact frOf_good _ _ _
def opX (ss : List ByteArray) (ws : List (Int × ByteArray)) (n : Int) : Scd := scD ss ws (2 + (frD ss ws n).2.1 * hv ss.length) (hv ss.length) (frD ss ws n).2.2.1 (frD ss ws n).2.2.2 n
theorem hv_half {S : Int} (h : 8 ≤ S ∧ S ≤ 200) : 2 + 2 * hv S ≤ S := by unfold hv; rw [if_pos h]; omega
theorem half_mul {H q : Int} (h : 0 ≤ H ∧ H ≤ 1) (hq : 0 ≤ q) : 0 ≤ H * q ∧ H * q ≤ q := by
  have : H = 0 ∨ H = 1 := by omega
  rcases this with rfl | rfl <;> omega
theorem opX_ok {ss : List ByteArray} {ws : List (Int × ByteArray)} {n : Int} (h : diskOk ss ws = true ∧ 1 ≤ n ∧ n ≤ 8) : scOk ss ws (2 + (frD ss ws n).2.1 * hv ss.length) (hv ss.length) n := by
  have hg := frD_good h
  obtain ⟨⟨hn1, hn2, hn3⟩, h64, hw⟩ := diskOk_of h.1
  have h1 := hv_yes (S := (ss.length : Int)) (by omega)
  have h2 := hv_half (S := (ss.length : Int)) (by omega)
  have h3 := half_mul hg.2.1 (q := hv ss.length) (by omega)
  exact ⟨h.1, h.2, by omega, by omega, by omega, by omega⟩
theorem opX_rng {ss : List ByteArray} {ws : List (Int × ByteArray)} {n : Int} (h : diskOk ss ws = true ∧ 1 ≤ n ∧ n ≤ 8) : (0 ≤ (opX ss ws n).2.1 ∧ (opX ss ws n).2.1 ≤ hv ss.length) ∧ (0 ≤ (opX ss ws n).2.2 ∧ (opX ss ws n).2.2 ≤ 60000) ∧ (opX ss ws n).1.length ≤ 99 ∧ ∀ e ∈ (opX ss ws n).1, e.size ≤ 6336 := by
  have hg := frD_good h
  have hok := opX_ok h
  obtain ⟨⟨hn1, hn2, hn3⟩, h64, hw⟩ := diskOk_of h.1
  have h1 := hv_yes (S := (ss.length : Int)) (by omega)
  unfold opX scD
  rw [if_pos hok]
  obtain ⟨q, hq⟩ : ∃ q : Nat, hv ss.length = (q : Int) := ⟨(hv ss.length).toNat, by omega⟩
  rw [hq] at h1 ⊢
  simp only [Int.toNat_natCast]
  have u1 := scanP_used (fun k => (syncs ws ss).getD k ByteArray.empty) (2 + (frD ss ws n).2.1 * (q : Int)).toNat (frD ss ws n).2.2.1 n q 0 0 (frD ss ws n).2.2.2 ByteArray.empty ([], 0, (frD ss ws n).2.2.2) (by simp)
  have u2 := scanP_life (fun k => (syncs ws ss).getD k ByteArray.empty) (2 + (frD ss ws n).2.1 * (q : Int)).toNat (frD ss ws n).2.2.1 n q 0 0 (frD ss ws n).2.2.2 ByteArray.empty ([], 0, (frD ss ws n).2.2.2)
  have u3 := scanP_size (fun k => (syncs ws ss).getD k ByteArray.empty) (2 + (frD ss ws n).2.1 * (q : Int)).toNat (frD ss ws n).2.2.1 n q 0 0 (frD ss ws n).2.2.2 ByteArray.empty ([], 0, (frD ss ws n).2.2.2) 6336 (by show 0 + 64 * q ≤ 6336; omega) (by intro e he; cases he)
  simp only [List.length_nil] at u3
  refine ⟨by omega, ?_, by omega, u3.1⟩
  have := hg.2.2.2
  rcases u2 with u2 | u2
  · rw [u2]; exact this
  · omega
def openD (ss : List ByteArray) (ws : List (Int × ByteArray)) (n : Int) : Dd :=
  if diskOk ss ws = true ∧ 1 ≤ n ∧ n ≤ 8 then
    match foldE (opX ss ws n).1 [] with
    | none => noD 2
    | some rs =>
      if 60000 < (opX ss ws n).2.2 + 1 then noD 3
      else if hv ss.length - 1 < roomOf (snapOf rs) n then noD 4
      else if hv ss.length ≤ (opX ss ws n).2.1 then moveD n ss.length ((opX ss ws n).2.2 + 1) (frD ss ws n).1 (frD ss ws n).2.1 (frD ss ws n).2.2.1 rs
      else ⟨0, n, ss.length, (opX ss ws n).2.2 + 1, (frD ss ws n).1, (frD ss ws n).2.1, (frD ss ws n).2.2.1, (frD ss ws n).2.2.2, (opX ss ws n).2.1 + 1, 0, rs,
        [(false, 2 + (frD ss ws n).2.1 * hv ss.length + (opX ss ws n).2.1, formOf 3 ((opX ss ws n).2.2 + 1) ((frD ss ws n).2.2.1 + (opX ss ws n).2.1) ByteArray.empty n), (true, 0, ByteArray.empty)]⟩
  else noD 1
section
variable {ss : List ByteArray} {ws : List (Int × ByteArray)} {n T H F R U L : Int} {es : List ByteArray} {rs : List Pr}
theorem openD_1 (h : ¬ (diskOk ss ws = true ∧ 1 ≤ n ∧ n ≤ 8)) : openD ss ws n = noD 1 := by unfold openD; rw [if_neg h]
theorem openD_2 (h : diskOk ss ws = true ∧ 1 ≤ n ∧ n ≤ 8) (h2 : opX ss ws n = (es, U, L)) (h3 : foldE es [] = none) : openD ss ws n = noD 2 := by
  unfold openD; rw [if_pos h, h2]; simp only; rw [h3]
theorem openD_3 (h : diskOk ss ws = true ∧ 1 ≤ n ∧ n ≤ 8) (h2 : opX ss ws n = (es, U, L)) (h3 : foldE es [] = some rs) (h4 : 60000 < L + 1) : openD ss ws n = noD 3 := by
  unfold openD; rw [if_pos h, h2]; simp only; rw [h3]; simp only; rw [if_pos h4]
theorem openD_4 (h : diskOk ss ws = true ∧ 1 ≤ n ∧ n ≤ 8) (h2 : opX ss ws n = (es, U, L)) (h3 : foldE es [] = some rs) (h4 : ¬ 60000 < L + 1) (h5 : hv ss.length - 1 < roomOf (snapOf rs) n) : openD ss ws n = noD 4 := by
  unfold openD; rw [if_pos h, h2]; simp only; rw [h3]; simp only; rw [if_neg h4, if_pos h5]
theorem openD_5 (h : diskOk ss ws = true ∧ 1 ≤ n ∧ n ≤ 8) (h1 : frD ss ws n = (T, H, F, R)) (h2 : opX ss ws n = (es, U, L)) (h3 : foldE es [] = some rs) (h4 : ¬ 60000 < L + 1) (h5 : ¬ hv ss.length - 1 < roomOf (snapOf rs) n) (h6 : hv ss.length ≤ U) : openD ss ws n = moveD n ss.length (L + 1) T H F rs := by
  unfold openD; rw [if_pos h, h2, h1]; simp only; rw [h3]; simp only; rw [if_neg h4, if_neg h5, if_pos h6]
theorem openD_6 (h : diskOk ss ws = true ∧ 1 ≤ n ∧ n ≤ 8) (h1 : frD ss ws n = (T, H, F, R)) (h2 : opX ss ws n = (es, U, L)) (h3 : foldE es [] = some rs) (h4 : ¬ 60000 < L + 1) (h5 : ¬ hv ss.length - 1 < roomOf (snapOf rs) n) (h6 : ¬ hv ss.length ≤ U) :
    openD ss ws n = ⟨0, n, ss.length, L + 1, T, H, F, R, U + 1, 0, rs, [(false, 2 + H * hv ss.length + U, formOf 3 (L + 1) (F + U) ByteArray.empty n), (true, 0, ByteArray.empty)]⟩ := by
  unfold openD; rw [if_pos h, h2, h1]; simp only; rw [h3]; simp only; rw [if_neg h4, if_neg h5, if_neg h6]
end
theorem moveD_bound {W S L T H F : Int} {rs : List Pr} (hl : rs.length ≤ 1048576) (hok : mvOk W S L T H F rs) : (moveD W S L T H F rs).rs.length ≤ 1048576 ∧ (moveD W S L T H F rs).ops.length ≤ 1000 := by
  unfold moveD
  cases h2 : mvFit S T F with
  | false => simp [noD]
  | true =>
    obtain ⟨⟨h1, h1'⟩, h3, h4, h5, h6, h7, h8⟩ := hok
    have hq := hv_yes h3
    have hm := mvPages_len L (F + hv S) W.toNat (56 - W.toNat) (by omega) (by omega) (by omega) (snapOf rs)
    rw [show ((W.toNat : Nat) : Int) = W by omega] at hm
    simp only [if_true, mvD, List.length_append, putOps_length]
    refine ⟨hl, ?_⟩
    simp
    omega
theorem openD_bound (ss : List ByteArray) (ws : List (Int × ByteArray)) (n : Int) : (openD ss ws n).rs.length ≤ 1048576 ∧ (openD ss ws n).ops.length ≤ 1000 := by
  by_cases h : diskOk ss ws = true ∧ 1 ≤ n ∧ n ≤ 8
  · obtain ⟨T, H, F, R, hFR⟩ : ∃ T H F R, frD ss ws n = (T, H, F, R) := ⟨_, _, _, _, rfl⟩
    obtain ⟨es, U, L, hX⟩ : ∃ es U L, opX ss ws n = (es, U, L) := ⟨_, _, _, rfl⟩
    have hg := frD_good h
    have hx := opX_rng h
    rw [hFR] at hg
    rw [hX] at hx
    unfold rtGood at hg
    simp only at hg hx
    obtain ⟨⟨hn1, hn2, hn3⟩, _, _⟩ := diskOk_of h.1
    cases hf : foldE es [] with
    | none => rw [openD_2 h hX hf]; simp [noD]
    | some rs =>
      have hrs := (stateOk_sizes (foldE_ok es [] stateOk_nil rs hf)).1
      by_cases h4 : 60000 < L + 1
      · rw [openD_3 h hX hf h4]; simp [noD]
      · by_cases h5 : hv ss.length - 1 < roomOf (snapOf rs) n
        · rw [openD_4 h hX hf h4 h5]; simp [noD]
        · by_cases h6 : hv ss.length ≤ U
          · rw [openD_5 h hFR hX hf h4 h5 h6]
            exact moveD_bound (by omega) ⟨h.2, by omega, by omega, hg.1, hg.2.1, hg.2.2.1, by omega⟩
          · rw [openD_6 h hFR hX hf h4 h5 h6]
            simp
            omega
  · rw [openD_1 h]; simp [noD]
end Go.Proofs.YtnmaknnnmjfhkagGreatDoor
