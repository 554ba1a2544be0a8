import Derived.Test.YtnmaknnnmjfhkafGreatMgXCommit24
import Derived.Test.YtnmaknnnmjfhkafGreatQxCommitDsk
import Derived.Deep.AppendLies
import Derived.Deep.AppendSrc
import Derived.Test.YtnmaknnnmjfhkafGreatMgXCommit5

set_option maxHeartbeats 16000000
set_option maxRecDepth 8000
namespace Go.Proofs.YtnmaknnnmjfhkafGreat
open Go.RowKit
set_option linter.unusedVariables false
set_option linter.unusedSimpArgs false
set_option maxRecDepth 4000

theorem info_prC : (Tryz.prog.info? 127).map (fun i => (i.zero, i.size, i.bytes)) = some (some (.agg #[.string ByteArray.empty, .string ByteArray.empty]), 2, 32) := by kernel_rfl
theorem info_partsP {P : Program} {e : TypeId} {z : Value} {size bytes : Nat} (h : (P.info? e).map (fun i => (i.zero, i.size, i.bytes)) = some (some z, size, bytes)) : ∃ i, P.info? e = some i ∧ i.zero = some z ∧ i.size = size ∧ i.bytes = bytes := by
  obtain ⟨i, hi, hh⟩ := Option.map_eq_some_iff.1 h
  simp only [Prod.mk.injEq] at hh
  exact ⟨i, hi, hh⟩
theorem nscP (n : Nat) (h : 0 < n) : Builtin.nextslicecap n 0 = n := by
  unfold Builtin.nextslicecap
  simp
  omega
/-- 'append(S{}, src...)' and 'append(S(nil), src...)': a copy in a row of its own. -/
theorem copy_run {P : Program} {w : World} (t ty e : TypeId) (i : TypeInfo) (z : Value) (size bytes : Nat) (ht : P.underlying t = some (.slice e)) (hi : P.info? e = some i) (hz : i.zero = some z) (hsize : i.size = size) (hby : i.bytes = bytes)
    (base : Option Addr) (hbase : base = none ∨ ∃ b, base = some ⟨b, 0, none⟩) (v : Value) (n : Nat) (news : List Value) (hsrc : Src P size t v n news w) (hn : n ≤ 1048576) (hbn : n * bytes ≤ 281474976710656) :
    ∃ a' cap wx, (Builtin.append_ #[t, t] ty #[.slice base 0 0, v]).run P w = .ok (.slice a' n cap) wx ∧ n ≤ cap ∧ (n = 0 ∨ (a' = some ⟨w.heap.size, 0, none⟩ ∧ Row wx w.heap.size news)) ∧ Below w.heap.size w wx := by
  subst hsize hby
  by_cases h0 : n = 0
  · subst h0
    have hnil : news = [] := List.eq_nil_of_length_eq_zero (by have := hsrc.newsLen; omega)
    subst hnil
    rcases hbase with rfl | ⟨b, rfl⟩
    · refine ⟨none, 0, w, ?_, Nat.le_refl _, .inl rfl, Below.refl _ _⟩
      rcases hsrc.kind with ⟨e', hk⟩ | hk <;> simp [Builtin.append_, run_underlying ht, run_underlying hk, sizeOf, typeInfo, hi, hsrc.len, hsrc.cells]
    · have hrun := run_append_room_src (P := P) w t t ty e i ht hi b 0 0 0 v 0 [] hsrc (by omega) (by simp) (by simp)
      exact ⟨_, _, _, hrun, Nat.le_refl _, .inl rfl, Below.refl _ _⟩
  · have hold : (Builtin.firstCells i.size 0 (.slice base 0 0)).run P w.drew = .ok ([] : List Value).toArray w.drew := by
      rcases hbase with rfl | ⟨b, rfl⟩
      · simp [Builtin.firstCells, Sem.run_pure]
      · exact run_firstCells_some w.drew i.size 0 _ 0 0 [] (by simp) (by simp)
    have hrun := run_append_grow_src (P := P) w t t ty e i z ht hi hz base 0 0 [] hold v n news hsrc (by omega) (by omega) (by rw [Nat.zero_add, nscP n (by omega)]; exact hbn)
    refine ⟨_, _, _, by rw [hrun, Nat.zero_add], ?_, .inr ⟨rfl, ?_⟩, (Below.refl _ _).drew.alloc (Nat.le_refl _) _⟩
    · have := grownCap_ge w (0 + n) 0 e
      rw [Nat.zero_add] at this
      exact this
    have hr := row_new w.drew ((([] : List Value) ++ news).toArray ++ Builtin.zeroCells z.cells (grownCap w (0 + n) 0 e - (0 + n))) e
    refine ⟨by simp, fun j u hu => ?_, fun j hj => ?_⟩
    · have := hr.cell j u (by
        obtain ⟨hj, _⟩ := List.getElem?_eq_some_iff.1 hu
        simp [List.getElem?_append_left hj, hu])
      simpa using this
    · have := hr.froz j (by simp; omega)
      simpa using this
/-- The same as one step of a walk. -/
theorem wpList_append_copy {P : Program} {w : World} {ops : Array Oper} {rest : List Oper} {o : Oper} {a : Act} {Q : Exit → Act → World → Prop} (hgd : o.guard = none) (s x : Operand) (t : TypeId)
    (ho : o.op = .call { callee := .builtin .append, args := #[s, x], argTypes := #[t, t] }) (e : TypeId) (i : TypeInfo) (z : Value) (size bytes : Nat) (ht : P.underlying t = some (.slice e)) (hi : P.info? e = some i) (hz : i.zero = some z) (hsize : i.size = size) (hby : i.bytes = bytes)
    (base : Option Addr) (hs : a.eval s = .slice base 0 0) (hbase : base = none ∨ ∃ b, base = some ⟨b, 0, none⟩) (v : Value) (hx : a.eval x = v) (n : Nat) (news : List Value) (hsrc : Src P size t v n news w) (hn : n ≤ 1048576) (hbn : n * bytes ≤ 281474976710656)
    (h : ∀ a' cap wx, n ≤ cap → (n = 0 ∨ (a' = some ⟨w.heap.size, 0, none⟩ ∧ Row wx w.heap.size news)) → Below w.heap.size w wx → wpList P ops Q rest (a.put o.dst (.slice a' n cap)) wx) : wpList P ops Q (o :: rest) a w := by
  refine wpList_plain hgd fun K hK => ?_
  obtain ⟨a', cap, wx, hrun, h1, h2, h3⟩ := copy_run (P := P) (w := w) t o.type e i z size bytes ht hi hz hsize hby base hbase v n news hsrc hn hbn
  unfold Oper.wp
  simp [execOp, ho, resolve, invoke, builtin, hs, hx, hrun, Result.andThen]
  exact hK _ _ (h a' cap wx h1 h2 h3)
theorem src_prs {P : Program} {w : World} {a : Option Addr} {rs : List (ByteArray × ByteArray)} (h : Prs w a rs) (t e : TypeId) (ht : P.underlying t = some (.slice e)) (c : Nat) : Src P 2 t (.slice a rs.length c) rs.length (prcells rs) w := by
  rcases h with h | ⟨b, o, rfl, hb, hc⟩
  · subst h
    cases a with
    | none => exact Src.ofNil w ht c
    | some x => exact Src.ofSlice w ht x 0 c [] (by simp) (by simp) (by simp)
  · refine Src.ofSlice w ht ⟨b, o, none⟩ rs.length c _ (prcells_length rs) (fun j u hu => ?_) (fun u hu => ?_)
    · obtain ⟨hj, e⟩ := List.getElem?_eq_some_iff.1 hu
      rw [prcells_length] at hj
      have ha : (⟨b, o, none⟩ : Addr).add j = ⟨b, o + j, none⟩ := by unfold Addr.add; split <;> simp_all
      obtain ⟨q, hq⟩ : ∃ q, j = q * 2 ∨ j = q * 2 + 1 := ⟨j / 2, by omega⟩
      have hql : q < rs.length := by omega
      have hw := prcells_at rs q hql
      rcases hq with rfl | rfl
      · rw [ha, (hc q hql).1, ← hu, hw.1]
      · rw [ha, ← Nat.add_assoc, (hc q hql).2, ← hu, hw.2]
    · unfold prcells at hu
      obtain ⟨x, _, hx⟩ := List.mem_flatMap.1 hu
      simp at hx
      rcases hx with rfl | rfl <;> rfl
/-- A copy of a state: its own. -/
def CpPost (w w' : World) (e : Ending) (rs : List (ByteArray × ByteArray)) : Prop := ∃ a c, e = .returned (stV a rs.length c) ∧ rs.length ≤ c ∧ OwnS w' a (prcells rs) ∧ (∀ g, blk a rs.length = some g → w.heap.size ≤ g) ∧ Below w.heap.size w w'
theorem cp_endP {w wx : World} {a' : Option Addr} {rs : List (ByteArray × ByteArray)} {H : Nat} (h : rs.length = 0 ∨ (a' = some ⟨H, 0, none⟩ ∧ Row wx H (prcells rs))) (hH : w.heap.size ≤ H) : OwnS wx a' (prcells rs) ∧ (∀ g, blk a' rs.length = some g → w.heap.size ≤ g ∧ g = H) := by
  rcases h with h | ⟨rfl, hr⟩
  · have : rs = [] := List.eq_nil_of_length_eq_zero h
    subst this
    exact ⟨.inl rfl, fun g hg => by cases hg⟩
  · refine ⟨.inr ⟨H, rfl, hr⟩, fun g hg => ?_⟩
    by_cases h0 : rs.length = 0
    · rw [h0] at hg; cases hg
    · rw [blk_pos _ _ _ h0] at hg; cases hg; exact ⟨hH, rfl⟩

set_option maxHeartbeats 16000000 in
theorem copy_st_s (a : Option Addr) (rs : List (ByteArray × ByteArray)) (c : Nat) (w : World) (h : Prs w a rs) (hl : rs.length ≤ 1048576) :
    Calls Tryz.prog 62 #[stV a rs.length c] w fun e w' => CpPost w w' e rs := by
  obtain ⟨i0, hi0, hz0, hz1, hz2⟩ := info_partsP info_prC
  have HI := hid (And.intro hi0 (And.intro hz0 (And.intro hz1 hz2)))
  clear hi0 hz0 hz1 hz2
  have hb0 : ∀ o1 o2 o3, Below w.heap.size w (((w.alloc o1).alloc o2).alloc o3) := fun o1 o2 o3 => (((Below.refl _ _).alloc (Nat.le_refl _) _).alloc (by simp) _).alloc (by simp; omega) _
  go_enter Tryz.func62, Tryz.ntmps62
  go_wp2_with (at_builtin; refine wpList_append_copy rfl _ _ 31 rfl 127 i0 _ 2 32 Tryz.underlying31 HI.out.1 HI.out.2.1 HI.out.2.2.1 HI.out.2.2.2 _ rfl (.inr ⟨_, rfl⟩) _ rfl rs.length _ (src_prs (h.below (hb0 _ _ _)) _ _ Tryz.underlying31 c) hl (by omega) ?_; intro a' cap wx hcap hrow hbx; have c1 : wx.cell? ⟨w.heap.size + 1, 0, none⟩ = some (.slice none 0 0) := (hbx.cell (p := ⟨w.heap.size + 1, 0, none⟩) (by simp <;> omega)).trans (by go_simp); have f1 : wx.frozen? ⟨w.heap.size + 1, 0, none⟩ = false := (hbx.frozen (p := ⟨w.heap.size + 1, 0, none⟩) (by simp <;> omega)).trans (by go_simp); have HBX := hid ((hb0 _ _ _).trans (hbx.mono (by simp <;> omega))); have HRW := hid (cp_endP (w := w) hrow (by simp; omega)); have hszx : w.heap.size + 1 < wx.heap.size := Nat.lt_of_lt_of_le (by simp) hbx.size; clear hrow hbx)
  refine bodyPost_ret (v := stV a' rs.length cap) (by simp [results, Tryz.results62, go_sem, c1]) rfl ⟨a', cap, rfl, hcap, ?_, fun g hg => (HRW.out.2 g hg).1, HBX.out.setCell (by show w.heap.size ≤ w.heap.size + 1; omega) _⟩
  rcases HRW.out.1 with h1 | ⟨g, rfl, h1⟩
  · exact .inl h1
  · by_cases h0 : rs.length = 0
    · exact .inl (by rw [List.eq_nil_of_length_eq_zero h0]; rfl)
    · have := (HRW.out.2 g (blk_pos _ _ _ h0)).2
      exact .inr ⟨g, rfl, h1.other _ (by show w.heap.size + 1 ≠ g; rw [this]; simp <;> omega) _⟩
end Go.Proofs.YtnmaknnnmjfhkafGreat

namespace Go.Proofs.YtnmaknnnmjfhkafGreat
open Go.RowKit

abbrev OpT := Bool × Int × ByteArray
/-- Records in a row of memory. -/
def Ops (w : World) (a : Option Addr) (rs : List (Bool × Int × ByteArray)) : Prop :=
  rs = [] ∨ ∃ b o, a = some ⟨b, o, none⟩ ∧ b < w.heap.size ∧ ∀ i, i < rs.length → w.cell? ⟨b, o + i * 3, none⟩ = some (.bool (rs.getD i (false, 0, ByteArray.empty)).1) ∧ w.cell? ⟨b, o + i * 3 + 1, none⟩ = some (.int .i64 (rs.getD i (false, 0, ByteArray.empty)).2.1) ∧ w.cell? ⟨b, o + i * 3 + 2, none⟩ = some (.string (rs.getD i (false, 0, ByteArray.empty)).2.2)
theorem Ops.below {w w' : World} {a : Option Addr} {rs : List (Bool × Int × ByteArray)} (h : Ops w a rs) (hb : Below w.heap.size w w') : Ops w' a rs := by
  rcases h with h | ⟨b, o, h1, h2, h3⟩
  · exact .inl h
  · exact .inr ⟨b, o, h1, Nat.lt_of_lt_of_le h2 hb.size, fun i hi => ⟨(hb.cell (p := ⟨b, o + i * 3, none⟩) h2).trans (h3 i hi).1, (hb.cell (p := ⟨b, o + i * 3 + 1, none⟩) h2).trans (h3 i hi).2.1, (hb.cell (p := ⟨b, o + i * 3 + 2, none⟩) h2).trans (h3 i hi).2.2⟩⟩
theorem Ops.at {w : World} {a : Option Addr} {rs : List (Bool × Int × ByteArray)} (h : Ops w a rs) {k : Nat} (hk : k < rs.length) : ∃ b o g0 n1 s2, a = some ⟨b, o, none⟩ ∧ w.cell? ⟨b, o + k * 3, none⟩ = some (.bool g0) ∧ w.cell? ⟨b, o + k * 3 + 1, none⟩ = some (.int .i64 n1) ∧ w.cell? ⟨b, o + k * 3 + 2, none⟩ = some (.string s2) ∧ Hid ((g0, n1, s2) = rs.getD k (false, 0, ByteArray.empty)) := by
  rcases h with h | ⟨b, o, h1, h2, h3⟩
  · subst h; simp at hk
  · exact ⟨b, o, _, _, _, h1, (h3 k hk).1, (h3 k hk).2.1, (h3 k hk).2.2, hid rfl⟩
/-- The cells of records. -/
def opcells (rs : List (Bool × Int × ByteArray)) : List Value := rs.flatMap fun x => [.bool x.1, .int .i64 x.2.1, .string x.2.2]
theorem opcells_nil : opcells [] = [] := rfl
theorem opcells_append (a b : List (Bool × Int × ByteArray)) : opcells (a ++ b) = opcells a ++ opcells b := by simp [opcells]
theorem opcells_length (rs : List (Bool × Int × ByteArray)) : (opcells rs).length = rs.length * 3 := by
  induction rs with
  | nil => rfl
  | cons x r ih => simp [opcells] at ih ⊢; omega
theorem opcells_at : ∀ (rs : List (Bool × Int × ByteArray)) (i : Nat), i < rs.length → (opcells rs)[i * 3]? = some (.bool (rs.getD i (false, 0, ByteArray.empty)).1) ∧ (opcells rs)[i * 3 + 1]? = some (.int .i64 (rs.getD i (false, 0, ByteArray.empty)).2.1) ∧ (opcells rs)[i * 3 + 2]? = some (.string (rs.getD i (false, 0, ByteArray.empty)).2.2)
  | x :: r, 0, _ => by simp [opcells]
  | x :: r, i + 1, h => by
    have ih := opcells_at r i (by simpa using h)
    have e : opcells (x :: r) = .bool x.1 :: .int .i64 x.2.1 :: .string x.2.2 :: opcells r := by simp [opcells]
    rw [e, show (i + 1) * 3 = i * 3 + 3 by omega]
    simpa using ih
theorem Row.ops {w : World} {g : Nat} {rs : List (Bool × Int × ByteArray)} (h : Row w g (opcells rs)) : Ops w (some ⟨g, 0, none⟩) rs :=
  .inr ⟨g, 0, rfl, h.lt, fun i hi => by
    rw [Nat.zero_add]
    exact ⟨h.cell _ _ (opcells_at rs i hi).1, h.cell _ _ (opcells_at rs i hi).2.1, h.cell _ _ (opcells_at rs i hi).2.2⟩⟩
def opupTo (rs : List (Bool × Int × ByteArray)) (k : Nat) : List Value := opcells (rs.take k) ++ opcells (List.replicate (rs.length - k) (false, 0, ByteArray.empty))
theorem opupTo_length (rs : List (Bool × Int × ByteArray)) (k : Nat) (h : k ≤ rs.length) : (opupTo rs k).length = rs.length * 3 := by simp [opupTo, opcells_length]; omega
theorem opupTo_all (rs : List (Bool × Int × ByteArray)) (k : Nat) (h : rs.length ≤ k) : opupTo rs k = opcells rs := by
  unfold opupTo; rw [List.take_of_length_le h, show rs.length - k = 0 by omega]; simp [opcells]
theorem opupTo_set (rs : List (Bool × Int × ByteArray)) (k : Nat) (h : k < rs.length) : (((opupTo rs k).set (k * 3) (.bool (rs.getD k (false, 0, ByteArray.empty)).1)).set (k * 3 + 1) (.int .i64 (rs.getD k (false, 0, ByteArray.empty)).2.1)).set (k * 3 + 2) (.string (rs.getD k (false, 0, ByteArray.empty)).2.2) = opupTo rs (k + 1) := by
  unfold opupTo
  have el : (opcells (rs.take k)).length = k * 3 := by rw [opcells_length]; simp; omega
  rw [List.set_append_right _ _ (by omega), List.set_append_right _ _ (by omega), List.set_append_right _ _ (by omega), el, show k * 3 - k * 3 = 0 by omega, show k * 3 + 1 - k * 3 = 1 by omega, show k * 3 + 2 - k * 3 = 2 by omega,
    show rs.length - k = (rs.length - (k + 1)) + 1 by omega, List.replicate_succ, List.take_succ_eq_append_getElem h, opcells_append, List.append_assoc]
  congr 1
  simp [opcells, List.getD, h]
theorem made_ops : ∀ (n : Nat), (madeCells (Value.agg #[.bool false, .int .i64 0, .string ByteArray.empty]).cells (n * 3)).toList = opcells (List.replicate n (false, 0, ByteArray.empty))
  | 0 => by simp [madeCells, opcells]
  | n + 1 => by
    have ih := made_ops n
    unfold madeCells at ih ⊢
    rw [Array.toList_map, Array.toList_range] at ih ⊢
    rw [show (n + 1) * 3 = n * 3 + 1 + 1 + 1 by omega, List.range_succ, List.range_succ, List.range_succ, List.map_append, List.map_append, List.map_append, ih, List.replicate_succ', opcells_append, List.append_assoc, List.append_assoc]
    congr 1
    have e0 : (n * 3) % (Value.agg #[.bool false, .int .i64 0, .string ByteArray.empty]).cells.size = 0 := by simp [Value.cells] <;> omega
    have e1 : (n * 3 + 1) % (Value.agg #[.bool false, .int .i64 0, .string ByteArray.empty]).cells.size = 1 := by simp [Value.cells] <;> omega
    have e2 : (n * 3 + 1 + 1) % (Value.agg #[.bool false, .int .i64 0, .string ByteArray.empty]).cells.size = 2 := by simp [Value.cells] <;> omega
    simp only [List.map_cons, List.map_nil]
    rw [e0, e1, e2]
    rfl
/-- The sizes that are counted of a record. -/
def opsz (x : Bool × Int × ByteArray) : List Nat := [x.2.2.size]
end Go.Proofs.YtnmaknnnmjfhkafGreat
