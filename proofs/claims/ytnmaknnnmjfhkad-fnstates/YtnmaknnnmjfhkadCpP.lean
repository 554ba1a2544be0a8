import Derived.Test.YtnmaknnnmjfhkadMkP
import Derived.Test.YtnmaknnnmjfhkadDsk
import Derived.Deep.AppendLies
import Derived.Deep.AppendSrc
namespace Go.Proofs.Ytnmaknnnmjfhkad
open Go.RowKit
set_option linter.unusedVariables false
set_option linter.unusedSimpArgs false
set_option maxRecDepth 4000

theorem info_prC : (Try.prog.info? 101).map (fun i => (i.zero, i.size, i.bytes)) = some (some (.agg #[.string ByteArray.empty, .string ByteArray.empty]), 2, 32) := by kernel_rfl
theorem info_partsP {P : Program} {e : TypeId} {z : Value} {size bytes : Nat} (h : (P.info? e).map (fun i => (i.zero, i.size, i.bytes)) = some (some z, size, bytes)) : ∃ i, P.info? e = some i ∧ i.zero = some z ∧ i.size = size ∧ i.bytes = bytes := by
  obtain ⟨i, hi, hh⟩ := Option.map_eq_some_iff.1 h
  simp only [Prod.mk.injEq] at hh
  exact ⟨i, hi, hh⟩
theorem nscP (n : Nat) (h : 0 < n) : Builtin.nextslicecap n 0 = n := by
  unfold Builtin.nextslicecap
  simp
  omega
/-- 'append(S{}, src...)' and 'append(S(nil), src...)': a copy in a row of its own. -/
theorem copy_run {P : Program} {w : World} (t ty e : TypeId) (i : TypeInfo) (z : Value) (size bytes : Nat) (ht : P.underlying t = some (.slice e)) (hi : P.info? e = some i) (hz : i.zero = some z) (hsize : i.size = size) (hby : i.bytes = bytes)
    (base : Option Addr) (hbase : base = none ∨ ∃ b, base = some ⟨b, 0, none⟩) (v : Value) (n : Nat) (news : List Value) (hsrc : Src P size t v n news w) (hn : n ≤ 1048576) (hbn : n * bytes ≤ 281474976710656) :
    ∃ a' cap wx, (Builtin.append_ #[t, t] ty #[.slice base 0 0, v]).run P w = .ok (.slice a' n cap) wx ∧ n ≤ cap ∧ (n = 0 ∨ (a' = some ⟨w.heap.size, 0, none⟩ ∧ Row wx w.heap.size news)) ∧ Below w.heap.size w wx := by
  subst hsize hby
  by_cases h0 : n = 0
  · subst h0
    have hnil : news = [] := List.eq_nil_of_length_eq_zero (by have := hsrc.newsLen; omega)
    subst hnil
    rcases hbase with rfl | ⟨b, rfl⟩
    · refine ⟨none, 0, w, ?_, Nat.le_refl _, .inl rfl, Below.refl _ _⟩
      rcases hsrc.kind with ⟨e', hk⟩ | hk <;> simp [Builtin.append_, run_underlying ht, run_underlying hk, sizeOf, typeInfo, hi, hsrc.len, hsrc.cells]
    · have hrun := run_append_room_src (P := P) w t t ty e i ht hi b 0 0 0 v 0 [] hsrc (by omega) (by simp) (by simp)
      exact ⟨_, _, _, hrun, Nat.le_refl _, .inl rfl, Below.refl _ _⟩
  · have hold : (Builtin.firstCells i.size 0 (.slice base 0 0)).run P w.drew = .ok ([] : List Value).toArray w.drew := by
      rcases hbase with rfl | ⟨b, rfl⟩
      · simp [Builtin.firstCells, Sem.run_pure]
      · exact run_firstCells_some w.drew i.size 0 _ 0 0 [] (by simp) (by simp)
    have hrun := run_append_grow_src (P := P) w t t ty e i z ht hi hz base 0 0 [] hold v n news hsrc (by omega) (by omega) (by rw [Nat.zero_add, nscP n (by omega)]; exact hbn)
    refine ⟨_, _, _, by rw [hrun, Nat.zero_add], ?_, .inr ⟨rfl, ?_⟩, (Below.refl _ _).drew.alloc (Nat.le_refl _) _⟩
    · have := grownCap_ge w (0 + n) 0 e
      rw [Nat.zero_add] at this
      exact this
    have hr := row_new w.drew ((([] : List Value) ++ news).toArray ++ Builtin.zeroCells z.cells (grownCap w (0 + n) 0 e - (0 + n))) e
    refine ⟨by simp, fun j u hu => ?_, fun j hj => ?_⟩
    · have := hr.cell j u (by
        obtain ⟨hj, _⟩ := List.getElem?_eq_some_iff.1 hu
        simp [List.getElem?_append_left hj, hu])
      simpa using this
    · have := hr.froz j (by simp; omega)
      simpa using this
/-- The same as one step of a walk. -/
theorem wpList_append_copy {P : Program} {w : World} {ops : Array Oper} {rest : List Oper} {o : Oper} {a : Act} {Q : Exit → Act → World → Prop} (hgd : o.guard = none) (s x : Operand) (t : TypeId)
    (ho : o.op = .call { callee := .builtin .append, args := #[s, x], argTypes := #[t, t] }) (e : TypeId) (i : TypeInfo) (z : Value) (size bytes : Nat) (ht : P.underlying t = some (.slice e)) (hi : P.info? e = some i) (hz : i.zero = some z) (hsize : i.size = size) (hby : i.bytes = bytes)
    (base : Option Addr) (hs : a.eval s = .slice base 0 0) (hbase : base = none ∨ ∃ b, base = some ⟨b, 0, none⟩) (v : Value) (hx : a.eval x = v) (n : Nat) (news : List Value) (hsrc : Src P size t v n news w) (hn : n ≤ 1048576) (hbn : n * bytes ≤ 281474976710656)
    (h : ∀ a' cap wx, n ≤ cap → (n = 0 ∨ (a' = some ⟨w.heap.size, 0, none⟩ ∧ Row wx w.heap.size news)) → Below w.heap.size w wx → wpList P ops Q rest (a.put o.dst (.slice a' n cap)) wx) : wpList P ops Q (o :: rest) a w := by
  refine wpList_plain hgd fun K hK => ?_
  obtain ⟨a', cap, wx, hrun, h1, h2, h3⟩ := copy_run (P := P) (w := w) t o.type e i z size bytes ht hi hz hsize hby base hbase v n news hsrc hn hbn
  unfold Oper.wp
  simp [execOp, ho, resolve, invoke, builtin, hs, hx, hrun, Result.andThen]
  exact hK _ _ (h a' cap wx h1 h2 h3)
theorem src_prs {P : Program} {w : World} {a : Option Addr} {rs : List (ByteArray × ByteArray)} (h : Prs w a rs) (t e : TypeId) (ht : P.underlying t = some (.slice e)) (c : Nat) : Src P 2 t (.slice a rs.length c) rs.length (prcells rs) w := by
  rcases h with h | ⟨b, o, rfl, hb, hc⟩
  · subst h
    cases a with
    | none => exact Src.ofNil w ht c
    | some x => exact Src.ofSlice w ht x 0 c [] (by simp) (by simp) (by simp)
  · refine Src.ofSlice w ht ⟨b, o, none⟩ rs.length c _ (prcells_length rs) (fun j u hu => ?_) (fun u hu => ?_)
    · obtain ⟨hj, e⟩ := List.getElem?_eq_some_iff.1 hu
      rw [prcells_length] at hj
      have ha : (⟨b, o, none⟩ : Addr).add j = ⟨b, o + j, none⟩ := by unfold Addr.add; split <;> simp_all
      obtain ⟨q, hq⟩ : ∃ q, j = q * 2 ∨ j = q * 2 + 1 := ⟨j / 2, by omega⟩
      have hql : q < rs.length := by omega
      have hw := prcells_at rs q hql
      rcases hq with rfl | rfl
      · rw [ha, (hc q hql).1, ← hu, hw.1]
      · rw [ha, ← Nat.add_assoc, (hc q hql).2, ← hu, hw.2]
    · unfold prcells at hu
      obtain ⟨x, _, hx⟩ := List.mem_flatMap.1 hu
      simp at hx
      rcases hx with rfl | rfl <;> rfl
/-- A copy of a state: its own. -/
def CpPost (w w' : World) (e : Ending) (rs : List (ByteArray × ByteArray)) : Prop := ∃ a c, e = .returned (stV a rs.length c) ∧ rs.length ≤ c ∧ OwnS w' a (prcells rs) ∧ (∀ g, blk a rs.length = some g → w.heap.size ≤ g) ∧ Below w.heap.size w w'
theorem cp_endP {w wx : World} {a' : Option Addr} {rs : List (ByteArray × ByteArray)} {H : Nat} (h : rs.length = 0 ∨ (a' = some ⟨H, 0, none⟩ ∧ Row wx H (prcells rs))) (hH : w.heap.size ≤ H) : OwnS wx a' (prcells rs) ∧ (∀ g, blk a' rs.length = some g → w.heap.size ≤ g ∧ g = H) := by
  rcases h with h | ⟨rfl, hr⟩
  · have : rs = [] := List.eq_nil_of_length_eq_zero h
    subst this
    exact ⟨.inl rfl, fun g hg => by cases hg⟩
  · refine ⟨.inr ⟨H, rfl, hr⟩, fun g hg => ?_⟩
    by_cases h0 : rs.length = 0
    · rw [h0] at hg; cases hg
    · rw [blk_pos _ _ _ h0] at hg; cases hg; exact ⟨hH, rfl⟩

set_option maxHeartbeats 1000000 in
theorem copy_st_s (a : Option Addr) (rs : List (ByteArray × ByteArray)) (c : Nat) (w : World) (h : Prs w a rs) (hl : rs.length ≤ 1048576) :
    Calls Try.prog 59 #[stV a rs.length c] w fun e w' => CpPost w w' e rs := by
  obtain ⟨i0, hi0, hz0, hz1, hz2⟩ := info_partsP info_prC
  have HI := hid (And.intro hi0 (And.intro hz0 (And.intro hz1 hz2)))
  clear hi0 hz0 hz1 hz2
  have hb0 : ∀ o1 o2 o3, Below w.heap.size w (((w.alloc o1).alloc o2).alloc o3) := fun o1 o2 o3 => (((Below.refl _ _).alloc (Nat.le_refl _) _).alloc (by simp) _).alloc (by simp; omega) _
  go_enter Try.func59, Try.ntmps59
  go_wp2_with (at_builtin; refine wpList_append_copy rfl _ _ 23 rfl 101 i0 _ 2 32 Try.underlying23 HI.out.1 HI.out.2.1 HI.out.2.2.1 HI.out.2.2.2 _ rfl (.inr ⟨_, rfl⟩) _ rfl rs.length _ (src_prs (h.below (hb0 _ _ _)) _ _ Try.underlying23 c) hl (by omega) ?_; intro a' cap wx hcap hrow hbx; have c1 : wx.cell? ⟨w.heap.size + 1, 0, none⟩ = some (.slice none 0 0) := (hbx.cell (p := ⟨w.heap.size + 1, 0, none⟩) (by simp <;> omega)).trans (by go_simp); have f1 : wx.frozen? ⟨w.heap.size + 1, 0, none⟩ = false := (hbx.frozen (p := ⟨w.heap.size + 1, 0, none⟩) (by simp <;> omega)).trans (by go_simp); have HBX := hid ((hb0 _ _ _).trans (hbx.mono (by simp <;> omega))); have HRW := hid (cp_endP (w := w) hrow (by simp; omega)); have hszx : w.heap.size + 1 < wx.heap.size := Nat.lt_of_lt_of_le (by simp) hbx.size; clear hrow hbx)
  refine bodyPost_ret (v := stV a' rs.length cap) (by simp [results, Try.results59, go_sem, c1]) rfl ⟨a', cap, rfl, hcap, ?_, fun g hg => (HRW.out.2 g hg).1, HBX.out.setCell (by show w.heap.size ≤ w.heap.size + 1; omega) _⟩
  rcases HRW.out.1 with h1 | ⟨g, rfl, h1⟩
  · exact .inl h1
  · by_cases h0 : rs.length = 0
    · exact .inl (by rw [List.eq_nil_of_length_eq_zero h0]; rfl)
    · have := (HRW.out.2 g (blk_pos _ _ _ h0)).2
      exact .inr ⟨g, rfl, h1.other _ (by show w.heap.size + 1 ≠ g; rw [this]; simp <;> omega) _⟩
end Go.Proofs.Ytnmaknnnmjfhkad
