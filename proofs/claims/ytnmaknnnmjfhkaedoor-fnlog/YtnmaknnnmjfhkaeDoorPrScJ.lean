import Derived.RangeFuncNested
import Derived.RangeFuncBound
import Derived.RangeFuncCalls
import Derived.RangeFuncLeaves
import Derived.RangeFuncBox
import Derived.Shelf.Abstract
import Derived.Shelf.RegionOpenV
import Derived.WalkKit
import Derived.OwnWalkIn
import Derived.TacticsInMore
import Derived.LoopNIn
import Derived.LoopIn
import Derived.Sort.QuietIn
import Derived.Maps.AppendAt
import Derived.Maps.OwnIn
import Derived.Test.YtnmaknnnmjfhkaeDoorPrG40
import Derived.Test.YtnmaknnnmjfhkaeDoorPrScE
namespace Go.Proofs.YtnmaknnnmjfhkaeDoor
open Go.RowKit Go.Shelf
set_option linter.unusedVariables false
set_option linter.unusedSimpArgs false
set_option maxRecDepth 4000
attribute [local go_sem] Oper.semAt_some
@[reducible] def pgV (x : Int × Int × Int × ByteArray) : Value := pageV x.1 x.2.1 x.2.2.1 x.2.2.2
@[reducible] def pgE {SF : Nat → ByteArray} {fm : Nat} {wd : Int} {N : Nat} (x : Pgs SF fm wd N) : Array Value := #[.int .i64 (x.1 : Int), pgV (pgAt SF fm wd x.1)]
def KpP (n3 g1 g2 : Nat) (A B : World) : Prop := Below n3 A B ∧ B.heap[g1]? = A.heap[g1]? ∧ B.heap[g2]? = A.heap[g2]?
theorem KpP.t {n3 g1 g2 : Nat} {A B C : World} (h : KpP n3 g1 g2 A B) (k : KpP n3 g1 g2 B C) : KpP n3 g1 g2 A C := ⟨h.1.trans k.1, k.2.1.trans h.2.1, k.2.2.trans h.2.2⟩
theorem KpP.b {n3 g1 g2 : Nat} {w : World} (hn : n3 ≤ w.heap.size) (h1 : g1 < w.heap.size) (h2 : g2 < w.heap.size) (W : World) (l : Nat) (o o' : Obj) (hl : w.heap.size ≤ l) (h : W.heap[l]? = some o) (hc : o.isCells = false) (hw : o.isWalk = false) : KpP n3 g1 g2 W (W.putObj l o') :=
  ⟨belowK_b hn W l o o' hl h hc hw, World.putObj_heap_other (by omega), World.putObj_heap_other (by omega)⟩
theorem KpP.grown {n3 g1 g2 : Nat} {A B C : World} (h : KpP n3 g1 g2 A B) (hg : Below B.heap.size B C) (h0 : n3 ≤ B.heap.size) (h1 : g1 < B.heap.size) (h2 : g2 < B.heap.size) : KpP n3 g1 g2 A C :=
  ⟨h.1.trans (hg.mono h0), (hg.block g1 h1).trans h.2.1, (hg.block g2 h2).trans h.2.2⟩
def PgEnd {SF : Nat → ByteArray} {fm : Nat} {wd : Int} {N : Nat} (u : Nat) (ys : List (Pgs SF fm wd N)) : Prop := Good u ys ∧ (N ≤ u + ys.length ∨ rpRes (SF (fm + (u + ys.length))) wd = none)
theorem heap_cell {w : World} {g : Nat} {cs : Array Value} {t : TypeId} {z : Nat × Nat} (h : w.heap[g]? = some (.cells cs t z)) (i : Nat) (v : Value) (hv : cs[i]? = some v) : w.cell? ⟨g, i, none⟩ = some v := by
  simp [World.cell?, h, hv]
theorem below_grown0 {A B : World} (h : Below A.heap.size A B) : A.grownBy B none := ⟨h.os, h.tape, h.output, h.size, fun k hk _ => h.block k hk⟩
set_option maxHeartbeats 8000000 in
theorem pages1_in (n : Nat) (hn : 1 ≤ n) (l g1 g2 fm N u : Nat) (SF : Nat → ByteArray) (wd : Int) (v0 v1 : Value) (w3 : World) (hN : N ≤ 200) (hu : u ≤ N)
    (HPG : Hid (∀ wx, Below w3.heap.size w3 wx → ∀ m : Nat, m < N → Calls Tryd.prog 77 #[regV v0 v1 (fm : Int) (N : Int) wd, .int .i64 (m : Int)] wx fun e w' => e = .returned (rpV (rpRes (SF (fm + m)) wd)) ∧ Below wx.heap.size wx w'))
    (J Jx : List (Pgs SF fm wd N) → World → Prop)
    (hY : ∀ pre x W1, J pre W1 → pre.length < N → YieldAt Fence.wide (n - 1) Tryd.prog l (pgE x) W1 fun e W' => (e = .returned (.bool true) ∧ J (pre ++ [x]) W' ∧ KpP w3.heap.size g1 g2 W1 W') ∨ (e = .returned (.bool false) ∧ Jx (pre ++ [x]) W'))
    (W : World) (hW : Below w3.heap.size w3 W) (hb1 : W.heap[g1]? = some (.cells #[.iface 126 (.agg #[v0, v1]), .int .i64 (fm : Int), .int .i64 (N : Int), .int .i64 wd] 82 (0, 0))) (hb2 : W.heap[g2]? = some (.cells #[.int .i64 (u : Int)] 3 (0, 0)))
    (h0 : J [] W) (hJ : ∀ s A B, J s A → A.grownBy B none → J s B) :
    CallsIn Fence.wide n Tryd.prog 76 #[.func (.yield l) #[] #[], .pointer (some ⟨g2, 0, none⟩), .pointer (some ⟨g1, 0, none⟩)] W fun e W' => (∃ v, e = .returned v) ∧
      ((∃ ys, PgEnd u ys ∧ J ys W') ∨ (∃ pre, Good u pre ∧ Jx pre W')) := by
  refine callsIn_of_wp Tryd.func76 rfl trivial ?_ rfl
  simp only [Tryd.ntmps76, List.size_toArray, List.length_cons, List.length_nil, Nat.reduceAdd, Nat.reduceSub, Array.replicate_succ, Array.replicate_zero, List.push_toArray, List.append_toArray, List.nil_append, List.cons_append]
  have HY := hid hY
  have HJ := hid hJ
  clear hY hJ
  have q0 := heap_cell hb2 0 (.int .i64 (u : Int)) rfl
  gi_wp2
  clear q0
  gi_loopw [4] (fun i wr => ∃ (k : Nat) (pre : List (Pgs SF fm wd N)), pre.length = k ∧ Good u pre ∧ u + k ≤ N ∧ i = .int .i64 ((u + k : Nat) : Int) ∧ J pre wr ∧ Below w3.heap.size w3 wr ∧ wr.heap[g1]? = some (.cells #[.iface 126 (.agg #[v0, v1]), .int .i64 (fm : Int), .int .i64 (N : Int), .int .i64 wd] 82 (0, 0))) (fun i _ => N - (intOf i).toNat)
  case atStart => exact ⟨0, [], rfl, Good.nil u, hu, rfl, h0, hW, hb1⟩
  case round =>
    obtain ⟨k, pre, hpl, hgd, huk, rfl, hJs, hbw, hg1⟩ := hrel
    obtain ⟨q, hq⟩ : ∃ q, q = u + k := ⟨_, rfl⟩
    rw [← hq]
    have HQ := hid hq
    have HPL := hid hpl
    have HGD := hid hgd
    have HJS := hid hJs
    have HBW := hid hbw
    have huq : q ≤ N := by omega
    have HG1 := hid hg1
    have hlg := (Array.getElem?_eq_some_iff.1 hg1).1
    clear hpl hgd hJs huk
    have c0 := heap_cell hg1 0 (.iface 126 (.agg #[v0, v1])) rfl
    have c1 := heap_cell hg1 1 (.int .i64 (fm : Int)) rfl
    have c2 := heap_cell hg1 2 (.int .i64 (N : Int)) rfl
    have c3 := heap_cell hg1 3 (.int .i64 wd) rfl
    clear hg1 hq hb1 hb2 hW h0
    by_cases hlt : q < N
    · have hlt' : (q : Int) < (N : Int) := by omega
      have hw1 : IntKind.i64.wrap ((q : Int) + 1) = (q : Int) + 1 := by simp [IntKind.wrap, IntKind.bits, IntKind.signed]; omega
      have hpg := HPG.out wr HBW.out q hlt
      clear hbw
      cases hR : rpRes (SF (fm + q)) wd with
      | none =>
        rw [hR] at hpg
        simp only [rpV] at hpg
        have HR := hid hR
        have HP := hid hpg
        clear hR hpg
        gi_wp2_with (refine ⟨trivial, ?_⟩; gi_at_call 77; refine (callsIn_wide.2 HP.out).mono ?_; rintro e w5 ⟨rfl, hb5⟩)
        refine ⟨fun f hf => (by cases hf), ?_⟩
        gi_wp2
        refine bodyPost_ret (results_none rfl _ _ _) rfl ?_
        refine ⟨⟨_, rfl⟩, .inl ⟨pre, ⟨HGD.out, .inr ?_⟩, HJ.out _ _ _ HJS.out (below_grown0 (hb5.alloc hb5.size _))⟩⟩
        rw [HPL.out, ← HQ.out]
        exact HR.out
      | some pg =>
        obtain ⟨pk, pl, pm, pp⟩ := pg
        rw [hR] at hpg
        simp only [rpV] at hpg
        obtain ⟨xx, hxx⟩ : ∃ xx : Pgs SF fm wd N, xx.1 = q := ⟨⟨q, hlt, by rw [hR]; rfl⟩, rfl⟩
        have hpx : pgE xx = #[.int .i64 (q : Int), .agg #[.int .i64 pk, .int .i64 pl, .int .i64 pm, .string pp]] := by unfold pgE pgV pgAt; rw [hxx, hR]; rfl
        have HPX := hid hpx
        have HXX := hid hxx
        have HR := hid hR
        have HP := hid hpg
        clear hR hpg hpx hxx
        gi_wp2_with (refine ⟨trivial, ?_⟩; gi_at_call 77; refine (callsIn_wide.2 HP.out).mono ?_; rintro e w5 ⟨rfl, hb5⟩)
        obtain ⟨fn, tmps, assign, body, hy, hRR⟩ := HY.out pre xx (w5.alloc (.cells #[.int .i64 pk, .int .i64 pl, .int .i64 pm, .string pp] 42)) (HJ.out _ _ _ HJS.out (below_grown0 (hb5.alloc hb5.size _))) (by rw [HPL.out]; have := HQ.out; omega)
        rw [HPX.out] at hy
        have hk5 := hb5.size
        have HG5 := hid ((hb5.alloc hb5.size (.cells #[.int .i64 pk, .int .i64 pl, .int .i64 pm, .string pp] 42)).block _ hlg)
        have HB5 := hid (HBW.out.trans ((hb5.alloc hb5.size (.cells #[.int .i64 pk, .int .i64 pl, .int .i64 pm, .string pp] 42)).mono HBW.out.size))
        clear hb5
        rw [hy, Oper.uponIn_round]
        refine ⟨fun _ => hn, ?_⟩
        refine hRR.mono ?_
        rintro e W6 (⟨rfl, hJ6, hk6⟩ | ⟨rfl, hJx6⟩)
        · have HG6 := hid (hk6.2.1.trans (HG5.out.trans HG1.out))
          have HB6 := hid (HB5.out.trans hk6.1)
          have HJ6 := hid hJ6
          clear hJ6 hk6 hRR hy
          gi_wp2
          go_roundw
          case rel => exact ⟨k + 1, pre ++ [xx], by rw [List.length_append, HPL.out]; rfl, HGD.out.push (by rw [HXX.out, HPL.out, HQ.out]), by have := HQ.out; omega, by have := HQ.out; simp; omega, HJ6.out, HB6.out, HG6.out⟩
          case measure => simp [intOf]; omega
        · have HJ6 := hid hJx6
          clear hJx6 hRR hy
          gi_wp2
          refine bodyPost_ret (results_none rfl _ _ _) rfl ?_
          exact ⟨⟨_, rfl⟩, .inr ⟨pre ++ [xx], HGD.out.push (by rw [HXX.out, HPL.out, HQ.out]), HJ6.out⟩⟩
    · gi_wp2
      go_end0
      exact ⟨⟨_, rfl⟩, .inl ⟨pre, ⟨HGD.out, .inl (by rw [HPL.out, ← HQ.out]; omega)⟩, HJS.out⟩⟩
set_option maxHeartbeats 1000000 in
theorem pages_in (n : Nat) (v0 v1 : Value) (fm N : Int) (wd : Int) (u : Int) (w : World) :
    CallsIn Fence.wide n Tryd.prog 45 #[regV v0 v1 fm N wd, .int .i64 u] w fun e w' => e = .returned (.func (.func 76) #[] #[.pointer (some ⟨w.heap.size + 1, 0, none⟩), .pointer (some ⟨w.heap.size, 0, none⟩)]) ∧ w' = (w.alloc (.cells #[.iface 126 (.agg #[v0, v1]), .int .i64 fm, .int .i64 N, .int .i64 wd] 82)).alloc (.cells #[.int .i64 u] 3) := by
  refine callsIn_of_wp Tryd.func45 rfl trivial ?_ rfl
  simp only [Tryd.ntmps45, List.size_toArray, List.length_cons, List.length_nil, Nat.reduceAdd, Nat.reduceSub, Array.replicate_succ, Array.replicate_zero, List.push_toArray, List.append_toArray, List.nil_append, List.cons_append]
  gi_wp2
  go_ret
  exact ⟨rfl, rfl⟩
theorem pages_stops (n : Nat) (hn : 1 ≤ n) (g1 g2 fm N u : Nat) (SF : Nat → ByteArray) (wd : Int) (v0 v1 : Value) (w3 w : World) (hN : N ≤ 200) (hu : u ≤ N) (h3 : Below w3.heap.size w3 w)
    (HPG : Hid (∀ wx, Below w3.heap.size w3 wx → ∀ m : Nat, m < N → Calls Tryd.prog 77 #[regV v0 v1 (fm : Int) (N : Int) wd, .int .i64 (m : Int)] wx fun e w' => e = .returned (rpV (rpRes (SF (fm + m)) wd)) ∧ Below wx.heap.size wx w'))
    (hb1 : w.heap[g1]? = some (.cells #[.iface 126 (.agg #[v0, v1]), .int .i64 (fm : Int), .int .i64 (N : Int), .int .i64 wd] 82 (0, 0))) (hb2 : w.heap[g2]? = some (.cells #[.int .i64 (u : Int)] 3 (0, 0))) :
    SeqStopsK Fence.wide n Tryd.prog 76 #[.pointer (some ⟨g2, 0, none⟩), .pointer (some ⟨g1, 0, none⟩)] (fun x : Pgs SF fm wd N => pgE x) (KpP w3.heap.size g1 g2) (PgEnd u) (Good u) N w := fun l J Jx W hW hJ hJx hY h0 =>
  pages1_in n hn l g1 g2 fm N u SF wd v0 v1 w3 hN hu HPG J Jx hY W (h3.trans (hW.mono h3.size)) ((hW.block _ (Array.getElem?_eq_some_iff.1 hb1).1).trans hb1) ((hW.block _ (Array.getElem?_eq_some_iff.1 hb2).1).trans hb2) h0 (fun s A B hs hg => hJ s A B none hs hg (fun r e => (by cases e)))
end Go.Proofs.YtnmaknnnmjfhkaeDoor
