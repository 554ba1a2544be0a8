import Derived.WalkKit
import Derived.WalkSpells
import Derived.WalkLawsBesides
import Derived.Outline
import Derived.BigQuiet
import Derived.Deep.QuietTactic
import Derived.Deep.RegionHeld3
import Derived.Test.YtnmaknnnmjfhkagGreatDoorPrG32
import Derived.Test.YtnmaknnnmjfhkagGreatDoorPrG29
import Derived.Test.YtnmaknnnmjfhkagGreatDoorPrG43
import Derived.Deep.AppendLies
import Derived.Deep.AppendSrc
import Derived.Test.YtnmaknnnmjfhkagGreatDoorPrG30
import Derived.Test.YtnmaknnnmjfhkagGreatDoorProg
set_option maxHeartbeats 16000000
set_option maxRecDepth 8000
namespace Go.Proofs.YtnmaknnnmjfhkagGreatDoor
open Go.RowKit
set_option maxRecDepth 4000
set_option linter.unusedVariables false
set_option linter.unusedSimpArgs false
theorem getxp {w : World} {g : Nat} {cs : List Value} (h : Row w g cs) (i : Nat) (hi : i < cs.length) : (∃ u, w.cell? ⟨g, i, none⟩ = some u) ∧ w.frozen? ⟨g, i, none⟩ = false := ⟨⟨_, h.cell i _ (List.getElem?_eq_getElem hi)⟩, h.froz i hi⟩
def prm (m : Nat) : ByteArray × ByteArray := (mtext m, mtext (m + 1))
def prmarks (k n : Nat) : List (ByteArray × ByteArray) := (List.range n).map fun i => prm (k + 2 * i)
theorem prmarks_length (k n : Nat) : (prmarks k n).length = n := by simp [prmarks]
theorem prmarks_succ (k n : Nat) : prmarks k (n + 1) = prmarks k n ++ [prm (k + 2 * n)] := by simp [prmarks, List.range_succ]
def prmixed (k i : Nat) (rs : List (ByteArray × ByteArray)) : List Value := prcells (prmarks k i ++ rs.drop i)
theorem prmixed_length (k i : Nat) (rs : List (ByteArray × ByteArray)) (h : i ≤ rs.length) : (prmixed k i rs).length = rs.length * 2 := by simp [prmixed, prcells_length, prmarks_length]; omega
theorem prmixed_set (k i : Nat) (rs : List (ByteArray × ByteArray)) (h : i < rs.length) : ((prmixed k i rs).set (i * 2) (.string (mtext (k + 2 * i)))).set (i * 2 + 1) (.string (mtext (k + 2 * i + 1))) = prmixed k (i + 1) rs := by
  have el : (prcells (prmarks k i)).length = i * 2 := by rw [prcells_length, prmarks_length]
  unfold prmixed
  rw [prmarks_succ, drop_at rs i (ByteArray.empty, ByteArray.empty) h, prcells_append, prcells_append, prcells_append, List.set_append_right _ _ (by omega), List.set_append_right _ _ (by omega), el]
  simp [prcells, prm]
set_option maxHeartbeats 16000000 in
theorem mark_prs (a : Option Addr) (rs : List (ByteArray × ByteArray)) (c k : Nat) (w : World) (h : OwnS w a (prcells rs)) (hk : 0 < k) (hl : k + 2 * rs.length ≤ 100000000) :
    Calls Tryz.prog 230 #[.slice a rs.length c, .int .i64 (k : Int)] w fun e w' => e = .returned (.int .i64 ((k + 2 * rs.length : Nat) : Int)) ∧ w.grownBy w' (blk a rs.length) ∧ OwnS w' a (prcells (prmarks k rs.length)) := by
  by_cases hss : rs = []
  · skip
    subst hss
    go_enter Tryz.func230, Tryz.ntmps230
    go_wp2
    refine wp_loop_rounds 1 ?_
    rw [rounds_succ]
    go_wp2
    go_ret
    exact ⟨rfl, grown_refl _ _, .inl rfl⟩
  · obtain ⟨g, rfl, hrow⟩ := h.resolve_left (fun e => hss (by have := congrArg List.length e; rw [prcells_length, List.length_nil] at this; exact List.eq_nil_of_length_eq_zero (by omega)))
    rw [blk_pos g 0 rs.length (fun e => hss (List.eq_nil_of_length_eq_zero e))]
    have hr0 : Row w g (prmixed k 0 rs) := by simpa [prmixed, prmarks] using hrow
    clear hrow hss
    go_enter Tryz.func230, Tryz.ntmps230
    go_wp2
    go_loopw [1, 5] (fun x i wr => ∃ j m : Nat, j ≤ rs.length ∧ i = .int .i64 (j : Int) ∧ x = .int .i64 (m : Int) ∧ Hid (m = k + 2 * j) ∧ Row wr g (prmixed k j rs) ∧ w.grownBy wr (some g)) (fun _ i _ => rs.length - (intOf i).toNat)
    case atStart => exact ⟨0, k, Nat.zero_le _, rfl, rfl, hid rfl, hr0, grown_refl _ _⟩
    case round =>
      clear hr0
      obtain ⟨j, m, hj, rfl, rfl, HM, hrow, hgr⟩ := hrel
      have HR := hid hrow
      have HG := hid hgr
      clear hgr hrow
      by_cases hlt : j < rs.length
      · have HL := hid (prmixed_length k j rs hj)
        have hmj : (m : Int) ≤ 99999998 := by have := HM.out; omega
        have hmj0 : (0 : Int) < (m : Int) := by have := HM.out; omega
        go_wp2_with (first | (have _g := HR2; go_at_call 170; refine (mark_text' ((m : Int) + 1) (m + 1) (by omega) _ (by omega) (by omega)).mono ?_; rintro e w3 ⟨rfl, hb3⟩; have HR3 := hid ((HR2.out.set (j * 2) (by rw [HL.out]; omega) (.string (mtext m))).below hb3); have hu3 := getxp HR3.out (j * 2 + 1) (by rw [List.length_set, HL.out]; omega); obtain ⟨⟨u3, hu3⟩, hf3⟩ := hu3; have HG3 := hid (grown_trans (grown_set HG2.out _ _) (grown_of_below _ hb3)); clear hb3) | (go_at_call 170; refine (mark_text m _ (by omega) (by omega)).mono ?_; rintro e w2 ⟨rfl, hb2⟩; have HR2 := hid (HR.out.below hb2); have hu2 := getxp HR2.out (j * 2) (by rw [HL.out]; omega); obtain ⟨⟨u2, hu2⟩, hf2⟩ := hu2; have HG2 := hid (grown_trans HG.out (grown_of_below _ hb2)); clear hb2))
        have hset : ((prmixed k j rs).set (j * 2) (.string (mtext m))).set (j * 2 + 1) (.string (mtext (m + 1))) = prmixed k (j + 1) rs := by
          rw [HM.out]; exact prmixed_set k j rs hlt
        refine ⟨⟨j + 1, m + 2, by omega, by go_num, by go_num, by show _ = _; have := HM.out; omega, ?_, grown_set HG3.out _ _⟩, by simp [intOf]; omega⟩
        rw [← hset]
        exact HR3.out.set (j * 2 + 1) (by rw [List.length_set, HL.out]; omega) _
      · have hjl : Hid (j = rs.length) := by show _ = _; omega
        go_wp2
        go_ret
        refine ⟨ret_int (by rw [HM.out, hjl.out]), HG.out, .inr ⟨g, rfl, ?_⟩⟩
        have := HR.out
        rw [hjl.out] at this
        simpa [prmixed] using this
set_option maxHeartbeats 16000000 in
theorem mark_state (a : Option Addr) (rs : List (ByteArray × ByteArray)) (c k : Nat) (w : World) (h : OwnS w a (prcells rs)) (hk : 0 < k) (hl : k + 2 * rs.length ≤ 100000000) :
    Calls Tryz.prog 171 #[stV a rs.length c, .int .i64 (k : Int)] w fun e w' => e = .returned (.int .i64 ((k + 2 * rs.length : Nat) : Int)) ∧ w.grownBy w' (blk a rs.length) ∧ OwnS w' a (prcells (prmarks k rs.length)) := by
  have hb0 : ∀ o, Below w.heap.size w (w.alloc o) := fun o => (Below.refl _ _).alloc (Nat.le_refl _) _
  go_enter Tryz.func171, Tryz.ntmps171
  go_wp2_with fail
  refine (mark_prs a rs c k _ (h.below (hb0 _)) hk hl).mono ?_
  rintro e w1 ⟨rfl, hg1, ho1⟩
  have HG := hid (grown_trans (grown_of_below (blk a rs.length) (hb0 _)) hg1)
  have HO := hid ho1
  clear hg1 ho1
  go_wp2
  go_ret
  exact ⟨rfl, HG.out, HO.out⟩
end Go.Proofs.YtnmaknnnmjfhkagGreatDoor

namespace Go.Proofs.YtnmaknnnmjfhkagGreatDoor
open Go.RowKit
set_option linter.unusedVariables false
set_option linter.unusedSimpArgs false
set_option maxRecDepth 4000
theorem info_prC : (Tryz.prog.info? 144).map (fun i => (i.zero, i.size, i.bytes)) = some (some (.agg #[.string ByteArray.empty, .string ByteArray.empty]), 2, 32) := by kernel_rfl
theorem info_partsP {P : Program} {e : TypeId} {z : Value} {size bytes : Nat} (h : (P.info? e).map (fun i => (i.zero, i.size, i.bytes)) = some (some z, size, bytes)) : ∃ i, P.info? e = some i ∧ i.zero = some z ∧ i.size = size ∧ i.bytes = bytes := by
  obtain ⟨i, hi, hh⟩ := Option.map_eq_some_iff.1 h
  simp only [Prod.mk.injEq] at hh
  exact ⟨i, hi, hh⟩
theorem nscP (n : Nat) (h : 0 < n) : Builtin.nextslicecap n 0 = n := by
  unfold Builtin.nextslicecap
  simp
  omega
theorem copy_run {P : Program} {w : World} (t ty e : TypeId) (i : TypeInfo) (z : Value) (size bytes : Nat) (ht : P.underlying t = some (.slice e)) (hi : P.info? e = some i) (hz : i.zero = some z) (hsize : i.size = size) (hby : i.bytes = bytes)
    (base : Option Addr) (hbase : base = none ∨ ∃ b, base = some ⟨b, 0, none⟩) (v : Value) (n : Nat) (news : List Value) (hsrc : Src P size t v n news w) (hn : n ≤ 1048576) (hbn : n * bytes ≤ 281474976710656) :
    ∃ a' cap wx, (Builtin.append_ #[t, t] ty #[.slice base 0 0, v]).run P w = .ok (.slice a' n cap) wx ∧ n ≤ cap ∧ (n = 0 ∨ (a' = some ⟨w.heap.size, 0, none⟩ ∧ Row wx w.heap.size news)) ∧ Below w.heap.size w wx := by
  subst hsize hby
  by_cases h0 : n = 0
  · subst h0
    have hnil : news = [] := List.eq_nil_of_length_eq_zero (by have := hsrc.newsLen; omega)
    subst hnil
    rcases hbase with rfl | ⟨b, rfl⟩
    · refine ⟨none, 0, w, ?_, Nat.le_refl _, .inl rfl, Below.refl _ _⟩
      rcases hsrc.kind with ⟨e', hk⟩ | hk <;> simp [Builtin.append_, run_underlying ht, run_underlying hk, sizeOf, typeInfo, hi, hsrc.len, hsrc.cells]
    · have hrun := run_append_room_src (P := P) w t t ty e i ht hi b 0 0 0 v 0 [] hsrc (by omega) (by simp) (by simp)
      exact ⟨_, _, _, hrun, Nat.le_refl _, .inl rfl, Below.refl _ _⟩
  · have hold : (Builtin.firstCells i.size 0 (.slice base 0 0)).run P w.drew = .ok ([] : List Value).toArray w.drew := by
      rcases hbase with rfl | ⟨b, rfl⟩
      · simp [Builtin.firstCells, Sem.run_pure]
      · exact run_firstCells_some w.drew i.size 0 _ 0 0 [] (by simp) (by simp)
    have hrun := run_append_grow_src (P := P) w t t ty e i z ht hi hz base 0 0 [] hold v n news hsrc (by omega) (by omega) (by rw [Nat.zero_add, nscP n (by omega)]; exact hbn)
    refine ⟨_, _, _, by rw [hrun, Nat.zero_add], ?_, .inr ⟨rfl, ?_⟩, (Below.refl _ _).drew.alloc (Nat.le_refl _) _⟩
    · have := grownCap_ge w (0 + n) 0 e
      rw [Nat.zero_add] at this
      exact this
    have hr := row_new w.drew ((([] : List Value) ++ news).toArray ++ Builtin.zeroCells z.cells (grownCap w (0 + n) 0 e - (0 + n))) e
    refine ⟨by simp, fun j u hu => ?_, fun j hj => ?_⟩
    · have := hr.cell j u (by
        obtain ⟨hj, _⟩ := List.getElem?_eq_some_iff.1 hu
        simp [List.getElem?_append_left hj, hu])
      simpa using this
    · have := hr.froz j (by simp; omega)
      simpa using this
theorem wpList_append_copy {P : Program} {w : World} {ops : Array Oper} {rest : List Oper} {o : Oper} {a : Act} {Q : Exit → Act → World → Prop} (hgd : o.guard = none) (s x : Operand) (t : TypeId)
    (ho : o.op = .call { callee := .builtin .append, args := #[s, x], argTypes := #[t, t] }) (e : TypeId) (i : TypeInfo) (z : Value) (size bytes : Nat) (ht : P.underlying t = some (.slice e)) (hi : P.info? e = some i) (hz : i.zero = some z) (hsize : i.size = size) (hby : i.bytes = bytes)
    (base : Option Addr) (hs : a.eval s = .slice base 0 0) (hbase : base = none ∨ ∃ b, base = some ⟨b, 0, none⟩) (v : Value) (hx : a.eval x = v) (n : Nat) (news : List Value) (hsrc : Src P size t v n news w) (hn : n ≤ 1048576) (hbn : n * bytes ≤ 281474976710656)
    (h : ∀ a' cap wx, n ≤ cap → (n = 0 ∨ (a' = some ⟨w.heap.size, 0, none⟩ ∧ Row wx w.heap.size news)) → Below w.heap.size w wx → wpList P ops Q rest (a.put o.dst (.slice a' n cap)) wx) : wpList P ops Q (o :: rest) a w := by
  refine wpList_plain hgd fun K hK => ?_
  obtain ⟨a', cap, wx, hrun, h1, h2, h3⟩ := copy_run (P := P) (w := w) t o.type e i z size bytes ht hi hz hsize hby base hbase v n news hsrc hn hbn
  unfold Oper.wp
  simp [execOp, ho, resolve, invoke, builtin, hs, hx, hrun, Result.andThen]
  exact hK _ _ (h a' cap wx h1 h2 h3)
theorem src_prs {P : Program} {w : World} {a : Option Addr} {rs : List (ByteArray × ByteArray)} (h : Prs w a rs) (t e : TypeId) (ht : P.underlying t = some (.slice e)) (c : Nat) : Src P 2 t (.slice a rs.length c) rs.length (prcells rs) w := by
  rcases h with h | ⟨b, o, rfl, hb, hc⟩
  · subst h
    cases a with
    | none => exact Src.ofNil w ht c
    | some x => exact Src.ofSlice w ht x 0 c [] (by simp) (by simp) (by simp)
  · refine Src.ofSlice w ht ⟨b, o, none⟩ rs.length c _ (prcells_length rs) (fun j u hu => ?_) (fun u hu => ?_)
    · obtain ⟨hj, e⟩ := List.getElem?_eq_some_iff.1 hu
      rw [prcells_length] at hj
      have ha : (⟨b, o, none⟩ : Addr).add j = ⟨b, o + j, none⟩ := by unfold Addr.add; split <;> simp_all
      obtain ⟨q, hq⟩ : ∃ q, j = q * 2 ∨ j = q * 2 + 1 := ⟨j / 2, by omega⟩
      have hql : q < rs.length := by omega
      have hw := prcells_at rs q hql
      rcases hq with rfl | rfl
      · rw [ha, (hc q hql).1, ← hu, hw.1]
      · rw [ha, ← Nat.add_assoc, (hc q hql).2, ← hu, hw.2]
    · unfold prcells at hu
      obtain ⟨x, _, hx⟩ := List.mem_flatMap.1 hu
      simp at hx
      rcases hx with rfl | rfl <;> rfl
def CpPost (w w' : World) (e : Ending) (rs : List (ByteArray × ByteArray)) : Prop := ∃ a c, e = .returned (stV a rs.length c) ∧ rs.length ≤ c ∧ OwnS w' a (prcells rs) ∧ (∀ g, blk a rs.length = some g → w.heap.size ≤ g) ∧ Below w.heap.size w w'
theorem cp_endP {w wx : World} {a' : Option Addr} {rs : List (ByteArray × ByteArray)} {H : Nat} (h : rs.length = 0 ∨ (a' = some ⟨H, 0, none⟩ ∧ Row wx H (prcells rs))) (hH : w.heap.size ≤ H) : OwnS wx a' (prcells rs) ∧ (∀ g, blk a' rs.length = some g → w.heap.size ≤ g ∧ g = H) := by
  rcases h with h | ⟨rfl, hr⟩
  · have : rs = [] := List.eq_nil_of_length_eq_zero h
    subst this
    exact ⟨.inl rfl, fun g hg => by cases hg⟩
  · refine ⟨.inr ⟨H, rfl, hr⟩, fun g hg => ?_⟩
    by_cases h0 : rs.length = 0
    · rw [h0] at hg; cases hg
    · rw [blk_pos _ _ _ h0] at hg; cases hg; exact ⟨hH, rfl⟩
set_option maxHeartbeats 16000000 in
theorem copy_st_s (a : Option Addr) (rs : List (ByteArray × ByteArray)) (c : Nat) (w : World) (h : Prs w a rs) (hl : rs.length ≤ 1048576) :
    Calls Tryz.prog 104 #[stV a rs.length c] w fun e w' => CpPost w w' e rs := by
  obtain ⟨i0, hi0, hz0, hz1, hz2⟩ := info_partsP info_prC
  have HI := hid (And.intro hi0 (And.intro hz0 (And.intro hz1 hz2)))
  clear hi0 hz0 hz1 hz2
  have hb0 : ∀ o1 o2 o3, Below w.heap.size w (((w.alloc o1).alloc o2).alloc o3) := fun o1 o2 o3 => (((Below.refl _ _).alloc (Nat.le_refl _) _).alloc (by simp) _).alloc (by simp; omega) _
  go_enter Tryz.func104, Tryz.ntmps104
  go_wp2_with (at_builtin; refine wpList_append_copy rfl _ _ 29 rfl 144 i0 _ 2 32 Tryz.underlying29 HI.out.1 HI.out.2.1 HI.out.2.2.1 HI.out.2.2.2 _ rfl (.inr ⟨_, rfl⟩) _ rfl rs.length _ (src_prs (h.below (hb0 _ _ _)) _ _ Tryz.underlying29 c) hl (by omega) ?_; intro a' cap wx hcap hrow hbx; have c1 : wx.cell? ⟨w.heap.size + 1, 0, none⟩ = some (.slice none 0 0) := (hbx.cell (p := ⟨w.heap.size + 1, 0, none⟩) (by simp <;> omega)).trans (by go_simp); have f1 : wx.frozen? ⟨w.heap.size + 1, 0, none⟩ = false := (hbx.frozen (p := ⟨w.heap.size + 1, 0, none⟩) (by simp <;> omega)).trans (by go_simp); have HBX := hid ((hb0 _ _ _).trans (hbx.mono (by simp <;> omega))); have HRW := hid (cp_endP (w := w) hrow (by simp; omega)); have hszx : w.heap.size + 1 < wx.heap.size := Nat.lt_of_lt_of_le (by simp) hbx.size; clear hrow hbx)
  refine bodyPost_ret (v := stV a' rs.length cap) (by simp [results, Tryz.results104, go_sem, c1]) rfl ⟨a', cap, rfl, hcap, ?_, fun g hg => (HRW.out.2 g hg).1, HBX.out.setCell (by show w.heap.size ≤ w.heap.size + 1; omega) _⟩
  rcases HRW.out.1 with h1 | ⟨g, rfl, h1⟩
  · exact .inl h1
  · by_cases h0 : rs.length = 0
    · exact .inl (by rw [List.eq_nil_of_length_eq_zero h0]; rfl)
    · have := (HRW.out.2 g (blk_pos _ _ _ h0)).2
      exact .inr ⟨g, rfl, h1.other _ (by show w.heap.size + 1 ≠ g; rw [this]; simp <;> omega) _⟩
end Go.Proofs.YtnmaknnnmjfhkagGreatDoor

namespace Go.Proofs.YtnmaknnnmjfhkagGreatDoor
open Go.RowKit
abbrev OpT := Bool × Int × ByteArray
def Ops (w : World) (a : Option Addr) (rs : List (Bool × Int × ByteArray)) : Prop :=
  rs = [] ∨ ∃ b o, a = some ⟨b, o, none⟩ ∧ b < w.heap.size ∧ ∀ i, i < rs.length → w.cell? ⟨b, o + i * 3, none⟩ = some (.bool (rs.getD i (false, 0, ByteArray.empty)).1) ∧ w.cell? ⟨b, o + i * 3 + 1, none⟩ = some (.int .i64 (rs.getD i (false, 0, ByteArray.empty)).2.1) ∧ w.cell? ⟨b, o + i * 3 + 2, none⟩ = some (.string (rs.getD i (false, 0, ByteArray.empty)).2.2)
theorem Ops.below {w w' : World} {a : Option Addr} {rs : List (Bool × Int × ByteArray)} (h : Ops w a rs) (hb : Below w.heap.size w w') : Ops w' a rs := by
  rcases h with h | ⟨b, o, h1, h2, h3⟩
  · exact .inl h
  · exact .inr ⟨b, o, h1, Nat.lt_of_lt_of_le h2 hb.size, fun i hi => ⟨(hb.cell (p := ⟨b, o + i * 3, none⟩) h2).trans (h3 i hi).1, (hb.cell (p := ⟨b, o + i * 3 + 1, none⟩) h2).trans (h3 i hi).2.1, (hb.cell (p := ⟨b, o + i * 3 + 2, none⟩) h2).trans (h3 i hi).2.2⟩⟩
theorem Ops.at {w : World} {a : Option Addr} {rs : List (Bool × Int × ByteArray)} (h : Ops w a rs) {k : Nat} (hk : k < rs.length) : ∃ b o g0 n1 s2, a = some ⟨b, o, none⟩ ∧ w.cell? ⟨b, o + k * 3, none⟩ = some (.bool g0) ∧ w.cell? ⟨b, o + k * 3 + 1, none⟩ = some (.int .i64 n1) ∧ w.cell? ⟨b, o + k * 3 + 2, none⟩ = some (.string s2) ∧ Hid ((g0, n1, s2) = rs.getD k (false, 0, ByteArray.empty)) := by
  rcases h with h | ⟨b, o, h1, h2, h3⟩
  · subst h; simp at hk
  · exact ⟨b, o, _, _, _, h1, (h3 k hk).1, (h3 k hk).2.1, (h3 k hk).2.2, hid rfl⟩
def opcells (rs : List (Bool × Int × ByteArray)) : List Value := rs.flatMap fun x => [.bool x.1, .int .i64 x.2.1, .string x.2.2]
theorem opcells_append (a b : List (Bool × Int × ByteArray)) : opcells (a ++ b) = opcells a ++ opcells b := by simp [opcells]
theorem opcells_length (rs : List (Bool × Int × ByteArray)) : (opcells rs).length = rs.length * 3 := by
  induction rs with
  | nil => rfl
  | cons x r ih => simp [opcells] at ih ⊢; omega
theorem opcells_at : ∀ (rs : List (Bool × Int × ByteArray)) (i : Nat), i < rs.length → (opcells rs)[i * 3]? = some (.bool (rs.getD i (false, 0, ByteArray.empty)).1) ∧ (opcells rs)[i * 3 + 1]? = some (.int .i64 (rs.getD i (false, 0, ByteArray.empty)).2.1) ∧ (opcells rs)[i * 3 + 2]? = some (.string (rs.getD i (false, 0, ByteArray.empty)).2.2)
  | x :: r, 0, _ => by simp [opcells]
  | x :: r, i + 1, h => by
    have ih := opcells_at r i (by simpa using h)
    have e : opcells (x :: r) = .bool x.1 :: .int .i64 x.2.1 :: .string x.2.2 :: opcells r := by simp [opcells]
    rw [e, show (i + 1) * 3 = i * 3 + 3 by omega]
    simpa using ih
theorem Row.ops {w : World} {g : Nat} {rs : List (Bool × Int × ByteArray)} (h : Row w g (opcells rs)) : Ops w (some ⟨g, 0, none⟩) rs :=
  .inr ⟨g, 0, rfl, h.lt, fun i hi => by
    rw [Nat.zero_add]
    exact ⟨h.cell _ _ (opcells_at rs i hi).1, h.cell _ _ (opcells_at rs i hi).2.1, h.cell _ _ (opcells_at rs i hi).2.2⟩⟩
end Go.Proofs.YtnmaknnnmjfhkagGreatDoor

namespace Go.Proofs.YtnmaknnnmjfhkagGreatDoor
open Go.RowKit
set_option maxRecDepth 8000
set_option linter.unusedVariables false
set_option linter.unusedSimpArgs false
structure Dd where
  (C W S L T H F R U O : Int)
  rs : List Pr
  ops : List OpT
def dnV (d : Dd) (a : Option Addr) (c : Nat) (b : Option Addr) (e : Nat) : Value := .agg #[.int .i64 d.C, .int .i64 d.W, .int .i64 d.S, .int .i64 d.L, .int .i64 d.T, .int .i64 d.H, .int .i64 d.F, .int .i64 d.R, .int .i64 d.U, .int .i64 d.O, .slice a d.rs.length c, .slice b d.ops.length e]
def Apart (a : Option Addr) (n : Nat) (b : Option Addr) (m : Nat) : Prop := blk a n = none ∨ blk b m = none ∨ blk a n ≠ blk b m
structure OwnDn (w : World) (rs : List Pr) (ops : List OpT) (a b : Option Addr) : Prop where
  s : OwnS w a (prcells rs)
  p : OwnS w b (opcells ops)
  ne : Apart a rs.length b ops.length
theorem OwnDn.below {w w' : World} {rs : List Pr} {ops : List OpT} {a b : Option Addr} (h : OwnDn w rs ops a b) (hb : Below w.heap.size w w') : OwnDn w' rs ops a b := ⟨h.s.below hb, h.p.below hb, h.ne⟩
theorem OwnS.prs {w : World} {a : Option Addr} {rs : List Pr} (h : OwnS w a (prcells rs)) : Prs w a rs := by
  rcases h with h | ⟨g, rfl, h⟩
  · exact .inl (by have := congrArg List.length h; rw [prcells_length, List.length_nil] at this; exact List.eq_nil_of_length_eq_zero (by omega))
  · exact h.prs
theorem OwnS.ops {w : World} {a : Option Addr} {rs : List OpT} (h : OwnS w a (opcells rs)) : Ops w a rs := by
  rcases h with h | ⟨g, rfl, h⟩
  · exact .inl (by have := congrArg List.length h; rw [opcells_length, List.length_nil] at this; exact List.eq_nil_of_length_eq_zero (by omega))
  · exact h.ops
theorem prcells_ne {rs : List Pr} (h : rs.length ≠ 0) : prcells rs ≠ [] := fun e => h (by have := congrArg List.length e; rw [prcells_length, List.length_nil] at this; omega)
theorem opcells_ne {rs : List OpT} (h : rs.length ≠ 0) : opcells rs ≠ [] := fun e => h (by have := congrArg List.length e; rw [opcells_length, List.length_nil] at this; omega)
theorem ne_of_prcells {rs : List Pr} (h : prcells rs ≠ []) : rs.length ≠ 0 := fun e => h (by rw [List.eq_nil_of_length_eq_zero e]; rfl)
theorem ne_of_opcells {rs : List OpT} (h : opcells rs ≠ []) : rs.length ≠ 0 := fun e => h (by rw [List.eq_nil_of_length_eq_zero e]; rfl)
def DnPost (w w' : World) (x : Ending) (d : Dd) : Prop := ∃ a c b e, x = .returned (dnV d a c b e) ∧ d.rs.length ≤ c ∧ OwnDn w' d.rs d.ops a b ∧ (∀ g, blk a d.rs.length = some g → w.heap.size ≤ g) ∧ (∀ g, blk b d.ops.length = some g → w.heap.size ≤ g) ∧ Below w.heap.size w w'
def noD (C : Int) : Dd := ⟨C, 0, 0, 0, 0, 0, 0, 0, 0, 0, [], []⟩
theorem OwnS.set' {w : World} {a : Option Addr} {cs : List Value} (h : OwnS w a cs) (p : Addr) (hp : ∀ g, a = some ⟨g, 0, none⟩ → cs ≠ [] → p.block ≠ g) (v : Value) : OwnS (w.setCell p v) a cs := by
  by_cases h0 : cs = []
  · exact .inl h0
  · obtain ⟨g, rfl, hr⟩ := h.resolve_left h0
    exact .inr ⟨g, rfl, hr.other p (hp g rfl h0) v⟩
theorem row_at {w : World} {A : Array Value} {t : TypeId} {g : Nat} (hg : w.heap.size = g) : Row (w.alloc (.cells A t)) g A.toList := by subst hg; exact row_new w A t
theorem dn_no {w w' : World} {x : Ending} {C : Int} {a b : Option Addr} {c e : Nat} (hx : x = .returned (dnV (noD C) a c b e)) (hb : Below w.heap.size w w') : DnPost w w' x (noD C) :=
  ⟨a, c, b, e, hx, Nat.zero_le _, ⟨.inl rfl, .inl rfl, .inl rfl⟩, fun g h => (by cases h), fun g h => (by cases h), hb⟩
theorem OwnS.drew' {w : World} {a : Option Addr} {cs : List Value} (h : OwnS w a cs) : OwnS w.drew a cs := h.below (Below.refl _ _).drew
end Go.Proofs.YtnmaknnnmjfhkagGreatDoor

namespace Go.Proofs.YtnmaknnnmjfhkagGreatDoor
open Go.RowKit
set_option maxRecDepth 4000
set_option linter.unusedVariables false
set_option linter.unusedSimpArgs false
set_option maxHeartbeats 16000000 in
theorem held_prs (a : Option Addr) (n c k : Nat) (w : World) (h : OwnS w a (prcells (prmarks k n))) (hk : 0 < k) (hl : k + 2 * n ≤ 100000000) :
    Calls Tryz.prog 231 #[.slice a n c, .int .i64 (k : Int)] w fun e w' => e = .returned (.int .i64 ((k + 2 * n : Nat) : Int)) ∧ Below w.heap.size w w' := by
  rcases h with h | ⟨g, rfl, hrow⟩
  · have hn : n = 0 := by have := congrArg List.length h; rw [prcells_length, prmarks_length, List.length_nil] at this; omega
    subst hn
    go_enter Tryz.func231, Tryz.ntmps231
    go_wp2
    refine wp_loop_rounds 1 ?_
    rw [rounds_succ]
    go_wp2
    go_ret
    exact ⟨rfl, Below.refl _ _⟩
  · have HROW := hid hrow
    clear hrow
    go_enter Tryz.func231, Tryz.ntmps231
    go_wp2
    go_loopw [1, 5] (fun x i wr => ∃ j m : Nat, j ≤ n ∧ i = .int .i64 (j : Int) ∧ x = .int .i64 (m : Int) ∧ Hid (m = k + 2 * j) ∧ Below w.heap.size w wr) (fun _ i _ => n - (intOf i).toNat)
    case atStart => exact ⟨0, k, Nat.zero_le _, rfl, rfl, hid rfl, Below.refl _ _⟩
    case round =>
      obtain ⟨j, m, hj, rfl, rfl, HM, hbel⟩ := hrel
      have HR := hid (HROW.out.below hbel)
      have HB := hid hbel
      clear hbel
      by_cases hlt : j < n
      · have hmj : (m : Int) ≤ 99999998 := by have := HM.out; omega
        have hmj0 : (0 : Int) < (m : Int) := by have := HM.out; omega
        have hj0 : (0 : Int) ≤ (j : Int) := by omega
        have hj1 : (j : Int) < (n : Int) := by omega
        have hat := prcells_at (prmarks k n) j (by rw [prmarks_length]; exact hlt)
        have hgd : (prmarks k n).getD j (ByteArray.empty, ByteArray.empty) = prm m := by rw [HM.out]; simp [prmarks, List.getD, hlt]
        rw [hgd] at hat
        have HC : Hid (wr.cell? ⟨g, j * 2, none⟩ = some (.string (mtext m)) ∧ wr.cell? ⟨g, j * 2 + 1, none⟩ = some (.string (mtext (m + 1)))) := ⟨HR.out.cell _ _ hat.1, HR.out.cell _ _ hat.2⟩
        have lt1 : g < wr.heap.size := HR.out.lt
        clear hat hgd
        go_wp2_with fail
        go_region_held3 (fun w' => w'.cell? ⟨g, j * 2, none⟩ = some (.string (mtext m)) ∧ w'.cell? ⟨g, j * 2 + 1, none⟩ = some (.string (mtext (m + 1))))
          (first | assumption | exact HC.out | exact ⟨(hb2.cell (p := ⟨g, j * 2, none⟩) lt1).trans HC.out.1, (hb2.cell (p := ⟨g, j * 2 + 1, none⟩) lt1).trans HC.out.2⟩)
          (first | (go_at_call 170; refine (mark_text m _ (by omega) (by omega)).mono ?_; rintro e w2 ⟨rfl, hb2⟩))
        have HC2 : Hid (w2.cell? ⟨g, j * 2, none⟩ = some (.string (mtext m)) ∧ w2.cell? ⟨g, j * 2 + 1, none⟩ = some (.string (mtext (m + 1)))) := ⟨(hb2.cell (p := ⟨g, j * 2, none⟩) lt1).trans HC.out.1, (hb2.cell (p := ⟨g, j * 2 + 1, none⟩) lt1).trans HC.out.2⟩
        have lt2 : g < w2.heap.size := Nat.lt_of_lt_of_le lt1 hb2.size
        have HB2 := hid (HB.out.drew.trans (hb2.mono HB.out.size))
        clear hb2 lt1
        go_wp2_with fail
        go_region_held3 (fun w' => w'.cell? ⟨g, j * 2, none⟩ = some (.string (mtext m)) ∧ w'.cell? ⟨g, j * 2 + 1, none⟩ = some (.string (mtext (m + 1))))
          (first | assumption | exact HC2.out | exact ⟨(hb3.cell (p := ⟨g, j * 2, none⟩) lt2).trans HC2.out.1, (hb3.cell (p := ⟨g, j * 2 + 1, none⟩) lt2).trans HC2.out.2⟩)
          (first | (go_at_call 170; refine (mark_text' ((m : Int) + 1) (m + 1) (by omega) _ (by omega) (by omega)).mono ?_; rintro e w3 ⟨rfl, hb3⟩))
        have HB3 := hid (HB2.out.drew.trans (hb3.mono HB2.out.size))
        clear hb3 lt2
        go_wp2
        exact ⟨⟨j + 1, m + 2, by omega, by go_num, by go_num, by show _ = _; have := HM.out; omega, HB3.out⟩, by simp [intOf]; omega⟩
      · have hjl : Hid (j = n) := by show _ = _; omega
        go_wp2
        go_ret
        exact ⟨ret_int (by rw [HM.out, hjl.out]), HB.out⟩
set_option maxHeartbeats 16000000 in
theorem held_state (a : Option Addr) (n c k : Nat) (w : World) (h : OwnS w a (prcells (prmarks k n))) (hk : 0 < k) (hl : k + 2 * n ≤ 100000000) :
    Calls Tryz.prog 172 #[stV a n c, .int .i64 (k : Int)] w fun e w' => e = .returned (.int .i64 ((k + 2 * n : Nat) : Int)) ∧ Below w.heap.size w w' := by
  have hb0 : ∀ o, Below w.heap.size w (w.alloc o) := fun o => (Below.refl _ _).alloc (Nat.le_refl _) _
  have hkn : ¬ ((k + 2 * n : Nat) : Int) < 0 := by omega
  obtain ⟨m, HM⟩ : ∃ m, Hid (m = k + 2 * n) := ⟨_, hid rfl⟩
  have HP := hid (fun w' h' => held_prs a n c k w' h' hk hl)
  rw [← HM.out] at HP hkn ⊢
  go_enter Tryz.func172, Tryz.ntmps172
  go_wp2_with (go_at_call 231; refine (HP.out _ (h.below (hb0 _))).mono ?_; rintro e w1 ⟨rfl, hb1⟩)
  go_ret
  exact ⟨rfl, (hb0 _).trans (hb1.mono (by simp))⟩
end Go.Proofs.YtnmaknnnmjfhkagGreatDoor

namespace Go.Proofs.YtnmaknnnmjfhkagGreatDoor
open Go.RowKit
set_option linter.unusedVariables false
set_option linter.unusedSimpArgs false
set_option maxRecDepth 8000
set_option maxHeartbeats 16000000 in
theorem mark_store (W S L T H F R U O : Int) (a : Option Addr) (rs : List (ByteArray × ByteArray)) (c k : Nat) (w : World) (h : OwnS w a (prcells rs)) (hk : 0 < k) (hl : k + 2 * rs.length ≤ 100000000) :
    Calls Tryz.prog 76 #[storeV W S L T H F R U O a rs.length c, .int .i64 (k : Int)] w fun e w' => e = .returned (.int .i64 ((k + 2 * rs.length : Nat) : Int)) ∧ w.grownBy w' (blk a rs.length) ∧ OwnS w' a (prcells (prmarks k rs.length)) := by
  have hb0 : ∀ o, Below w.heap.size w (w.alloc o) := fun o => (Below.refl _ _).alloc (Nat.le_refl _) _
  have HMS := hid (fun w' h' => mark_state a rs c k w' h' hk hl)
  obtain ⟨m, HM⟩ : ∃ m, Hid (m = k + 2 * rs.length) := ⟨_, hid rfl⟩
  rw [← HM.out] at HMS ⊢
  unfold storeV
  go_enter Tryz.func76, Tryz.ntmps76
  go_wp2_with (go_at_call 171; refine (HMS.out _ (h.below (hb0 _))).mono ?_; rintro e w1 ⟨rfl, hg1, ho1⟩; have HG := hid (grown_trans (grown_of_below (blk a rs.length) (hb0 _)) hg1); have HO := hid ho1; clear hg1 ho1)
  go_ret
  exact ⟨rfl, HG.out, HO.out⟩
set_option maxHeartbeats 16000000 in
theorem held_store (W S L T H F R U O : Int) (a : Option Addr) (n c k : Nat) (w : World) (h : OwnS w a (prcells (prmarks k n))) (hk : 0 < k) (hl : k + 2 * n ≤ 100000000) :
    Calls Tryz.prog 78 #[storeV W S L T H F R U O a n c, .int .i64 (k : Int)] w fun e w' => e = .returned (.int .i64 ((k + 2 * n : Nat) : Int)) ∧ Below w.heap.size w w' := by
  have hb0 : ∀ o, Below w.heap.size w (w.alloc o) := fun o => (Below.refl _ _).alloc (Nat.le_refl _) _
  have HMS := hid (fun w' h' => held_state a n c k w' h' hk hl)
  obtain ⟨m, HM⟩ : ∃ m, Hid (m = k + 2 * n) := ⟨_, hid rfl⟩
  have hm0 : (0 : Int) ≤ (m : Int) := by omega
  rw [← HM.out] at HMS ⊢
  unfold storeV
  go_enter Tryz.func78, Tryz.ntmps78
  go_wp2_with (go_at_call 172; refine (HMS.out _ (h.below (hb0 _))).mono ?_; rintro e w1 ⟨rfl, hb1⟩)
  go_ret
  exact ⟨rfl, (hb0 _).trans (hb1.mono (by simp))⟩
end Go.Proofs.YtnmaknnnmjfhkagGreatDoor

namespace Go.Proofs.YtnmaknnnmjfhkagGreatDoor
open Go.RowKit
set_option maxRecDepth 4000
set_option linter.unusedVariables false
set_option linter.unusedSimpArgs false
theorem getxo {w : World} {g : Nat} {cs : List Value} (h : Row w g cs) (i : Nat) (hi : i < cs.length) : (∃ u, w.cell? ⟨g, i, none⟩ = some u) ∧ w.frozen? ⟨g, i, none⟩ = false := ⟨⟨_, h.cell i _ (List.getElem?_eq_getElem hi)⟩, h.froz i hi⟩
def opm (m : Nat) : Bool × Int × ByteArray := (decide (m % 3 = 0), ((m + 1 : Nat) : Int), mtext (m + 2))
def opmarks (k n : Nat) : List (Bool × Int × ByteArray) := (List.range n).map fun i => opm (k + 3 * i)
theorem opmarks_length (k n : Nat) : (opmarks k n).length = n := by simp [opmarks]
theorem opmarks_succ (k n : Nat) : opmarks k (n + 1) = opmarks k n ++ [opm (k + 3 * n)] := by simp [opmarks, List.range_succ]
def opmixed (k i : Nat) (rs : List (Bool × Int × ByteArray)) : List Value := opcells (opmarks k i ++ rs.drop i)
theorem opmixed_length (k i : Nat) (rs : List (Bool × Int × ByteArray)) (h : i ≤ rs.length) : (opmixed k i rs).length = rs.length * 3 := by simp [opmixed, opcells_length, opmarks_length]; omega
theorem opmixed_set (k i : Nat) (rs : List (Bool × Int × ByteArray)) (h : i < rs.length) : (((opmixed k i rs).set (i * 3) (.bool (decide ((k + 3 * i) % 3 = 0)))).set (i * 3 + 1) (.int .i64 ((k + 3 * i + 1 : Nat) : Int))).set (i * 3 + 2) (.string (mtext (k + 3 * i + 2))) = opmixed k (i + 1) rs := by
  have el : (opcells (opmarks k i)).length = i * 3 := by rw [opcells_length, opmarks_length]
  unfold opmixed
  rw [opmarks_succ, drop_at rs i (false, 0, ByteArray.empty) h, opcells_append, opcells_append, opcells_append, List.set_append_right _ _ (by omega), List.set_append_right _ _ (by omega), List.set_append_right _ _ (by omega), el]
  simp [opcells, opm]
set_option maxHeartbeats 16000000 in
theorem mark_ops (a : Option Addr) (rs : List (Bool × Int × ByteArray)) (c k : Nat) (w : World) (h : OwnS w a (opcells rs)) (hk : 0 < k) (hl : k + 3 * rs.length ≤ 100000000) :
    Calls Tryz.prog 77 #[.slice a rs.length c, .int .i64 (k : Int)] w fun e w' => e = .returned (.int .i64 ((k + 3 * rs.length : Nat) : Int)) ∧ w.grownBy w' (blk a rs.length) ∧ OwnS w' a (opcells (opmarks k rs.length)) := by
  by_cases hss : rs = []
  · skip
    subst hss
    go_enter Tryz.func77, Tryz.ntmps77
    go_wp2
    refine wp_loop_rounds 1 ?_
    rw [rounds_succ]
    go_wp2
    go_ret
    exact ⟨rfl, grown_refl _ _, .inl rfl⟩
  · obtain ⟨g, rfl, hrow⟩ := h.resolve_left (fun e => hss (by have := congrArg List.length e; rw [opcells_length, List.length_nil] at this; exact List.eq_nil_of_length_eq_zero (by omega)))
    rw [blk_pos g 0 rs.length (fun e => hss (List.eq_nil_of_length_eq_zero e))]
    have hr0 : Row w g (opmixed k 0 rs) := by simpa [opmixed, opmarks] using hrow
    clear hrow hss
    go_enter Tryz.func77, Tryz.ntmps77
    go_wp2
    go_loopw [1, 5] (fun x i wr => ∃ j m : Nat, j ≤ rs.length ∧ i = .int .i64 (j : Int) ∧ x = .int .i64 (m : Int) ∧ Hid (m = k + 3 * j) ∧ Row wr g (opmixed k j rs) ∧ w.grownBy wr (some g)) (fun _ i _ => rs.length - (intOf i).toNat)
    case atStart => exact ⟨0, k, Nat.zero_le _, rfl, rfl, hid rfl, hr0, grown_refl _ _⟩
    case round =>
      clear hr0
      obtain ⟨j, m, hj, rfl, rfl, HM, hrow, hgr⟩ := hrel
      have HR := hid hrow
      have HG := hid hgr
      clear hgr hrow
      by_cases hlt : j < rs.length
      · have HL := hid (opmixed_length k j rs hj)
        have hmj : (m : Int) ≤ 99999997 := by have := HM.out; omega
        have hmj0 : (0 : Int) < (m : Int) := by have := HM.out; omega
        have hgn : (((m : Int)) % 3 == 0) = decide (m % 3 = 0) := by rw [Bool.eq_iff_iff]; simp; omega
        obtain ⟨⟨u0, hu0⟩, hf0⟩ := getxo HR.out (j * 3) (by rw [HL.out]; omega)
        obtain ⟨⟨u1, hu1⟩, hf1⟩ := getxo HR.out (j * 3 + 1) (by rw [HL.out]; omega)
        have HR1 := hid ((HR.out.set (j * 3) (by rw [HL.out]; omega) (.bool (decide (m % 3 = 0)))).set (j * 3 + 1) (by rw [List.length_set, HL.out]; omega) (.int .i64 ((m : Int) + 1)))
        go_wp2_with (go_at_call 170; refine (mark_text' ((m : Int) + 1 + 1) (m + 2) (by omega) _ (by omega) (by omega)).mono ?_; rintro e w3 ⟨rfl, hb3⟩; (try rw [hgn] at hb3); have HR3 := hid (HR1.out.below hb3); have hu4 := getxo HR3.out (j * 3 + 2) (by rw [List.length_set, List.length_set, HL.out]; omega); obtain ⟨⟨u4, hu4⟩, hf4⟩ := hu4; have HG3 := hid (grown_trans (grown_set (grown_set HG.out _ _) _ _) (grown_of_below _ hb3)); clear hb3)
        have hset : (((opmixed k j rs).set (j * 3) (.bool (decide (m % 3 = 0)))).set (j * 3 + 1) (.int .i64 ((m : Int) + 1))).set (j * 3 + 2) (.string (mtext (m + 2))) = opmixed k (j + 1) rs := by
          rw [HM.out, ← opmixed_set k j rs hlt]; rfl
        refine ⟨⟨j + 1, m + 3, by omega, by go_num, by go_num, by show _ = _; have := HM.out; omega, ?_, grown_set HG3.out _ _⟩, by simp [intOf]; omega⟩
        rw [← hset]
        exact HR3.out.set (j * 3 + 2) (by rw [List.length_set, List.length_set, HL.out]; omega) _
      · have hjl : Hid (j = rs.length) := by show _ = _; omega
        go_wp2
        go_ret
        refine ⟨ret_int (by rw [HM.out, hjl.out]), HG.out, .inr ⟨g, rfl, ?_⟩⟩
        have := HR.out
        rw [hjl.out] at this
        simpa [opmixed] using this
end Go.Proofs.YtnmaknnnmjfhkagGreatDoor

namespace Go.Proofs.YtnmaknnnmjfhkagGreatDoor
open Go.RowKit
set_option maxRecDepth 4000
set_option linter.unusedVariables false
set_option linter.unusedSimpArgs false
set_option maxHeartbeats 16000000 in
theorem held_ops (a : Option Addr) (n c k : Nat) (w : World) (h : OwnS w a (opcells (opmarks k n))) (hk : 0 < k) (hl : k + 3 * n ≤ 100000000) :
    Calls Tryz.prog 79 #[.slice a n c, .int .i64 (k : Int)] w fun e w' => e = .returned (.int .i64 ((k + 3 * n : Nat) : Int)) ∧ Below w.heap.size w w' := by
  rcases h with h | ⟨g, rfl, hrow⟩
  · have hn : n = 0 := by have := congrArg List.length h; rw [opcells_length, opmarks_length, List.length_nil] at this; omega
    subst hn
    go_enter Tryz.func79, Tryz.ntmps79
    go_wp2
    refine wp_loop_rounds 1 ?_
    rw [rounds_succ]
    go_wp2
    go_ret
    exact ⟨rfl, Below.refl _ _⟩
  · have HROW := hid hrow
    clear hrow
    go_enter Tryz.func79, Tryz.ntmps79
    go_wp2
    go_loopw [1, 5] (fun x i wr => ∃ j m : Nat, j ≤ n ∧ i = .int .i64 (j : Int) ∧ x = .int .i64 (m : Int) ∧ Hid (m = k + 3 * j) ∧ Below w.heap.size w wr) (fun _ i _ => n - (intOf i).toNat)
    case atStart => exact ⟨0, k, Nat.zero_le _, rfl, rfl, hid rfl, Below.refl _ _⟩
    case round =>
      obtain ⟨j, m, hj, rfl, rfl, HM, hbel⟩ := hrel
      have HR := hid (HROW.out.below hbel)
      have HB := hid hbel
      clear hbel
      by_cases hlt : j < n
      · have hmj : (m : Int) ≤ 99999997 := by have := HM.out; omega
        have hmj0 : (0 : Int) < (m : Int) := by have := HM.out; omega
        have hj0 : (0 : Int) ≤ (j : Int) := by omega
        have hj1 : (j : Int) < (n : Int) := by omega
        have hat := opcells_at (opmarks k n) j (by rw [opmarks_length]; exact hlt)
        have hgd : (opmarks k n).getD j (false, 0, ByteArray.empty) = opm m := by rw [HM.out]; simp [opmarks, List.getD, hlt]
        rw [hgd] at hat
        obtain ⟨G, HGG⟩ : ∃ G, Hid (G = decide (m % 3 = 0)) := ⟨_, hid rfl⟩
        have hgn : (((m : Int)) % 3 == 0) = G := by rw [HGG.out, Bool.eq_iff_iff]; simp; omega
        have hc0 : wr.cell? ⟨g, j * 3, none⟩ = some (.bool G) := by rw [HGG.out]; exact HR.out.cell _ _ hat.1
        have hc1 : wr.cell? ⟨g, j * 3 + 1, none⟩ = some (.int .i64 ((m : Int) + 1)) := HR.out.cell _ _ hat.2.1
        have hc2 : wr.cell? ⟨g, j * 3 + 2, none⟩ = some (.string (mtext (m + 2))) := HR.out.cell _ _ hat.2.2
        have lt1 : g < wr.heap.size := HR.out.lt
        have hgq : (G != G) = false := by simp
        clear hat hgd
        go_wp2_with fail
        go_region_held3 (fun w' => w'.cell? ⟨g, j * 3 + 2, none⟩ = some (.string (mtext (m + 2))))
          (first | assumption | exact hc2 | exact (hb2.cell (p := ⟨g, j * 3 + 2, none⟩) lt1).trans hc2)
          (first | (go_at_call 170; refine (mark_text' ((m : Int) + 1 + 1) (m + 2) (by omega) _ (by omega) (by omega)).mono ?_; rintro e w2 ⟨rfl, hb2⟩))
        have HB2 := hid (HB.out.drew.trans (hb2.mono HB.out.size))
        clear hb2
        go_wp2
        exact ⟨⟨j + 1, m + 3, by omega, by go_num, by go_num, by show _ = _; have := HM.out; omega, HB2.out⟩, by simp [intOf]; omega⟩
      · have hjl : Hid (j = n) := by show _ = _; omega
        go_wp2
        go_ret
        exact ⟨ret_int (by rw [HM.out, hjl.out]), HB.out⟩
end Go.Proofs.YtnmaknnnmjfhkagGreatDoor

namespace Go.Proofs.YtnmaknnnmjfhkagGreatDoor
open Go.RowKit
set_option maxRecDepth 4000
set_option linter.unusedVariables false
set_option maxHeartbeats 16000000 in
theorem eq_op (g0 : Bool) (n1 : Int) (s2 : ByteArray) (w : World) :
    Calls Tryz.prog 168 #[.agg #[.bool g0, .int .i64 n1, .string s2], .agg #[.bool g0, .int .i64 n1, .string s2]] w fun e w' => e = .returned (.bool true) ∧ Below w.heap.size w w' := by
  go_enter Tryz.func168, Tryz.ntmps168
  go_wp2
  go_ret
  exact ⟨rfl, ((Below.refl _ _).alloc (Nat.le_refl _) _).alloc (by simp) _⟩
set_option maxHeartbeats 16000000 in
theorem eq_ops (a b : Option Addr) (rs : List (Bool × Int × ByteArray)) (c c' : Nat) (w : World) (h : Ops w a rs) (h' : Ops w b rs) (hl : rs.length ≤ 1048576) :
    Calls Tryz.prog 71 #[.slice a rs.length c, .slice b rs.length c'] w fun e w' => e = .returned (.bool true) ∧ Below w.heap.size w w' := by
  go_enter Tryz.func71, Tryz.ntmps71
  go_wp2
  go_loopw [5] (fun i wr => ∃ k : Nat, k ≤ rs.length ∧ i = .int .i64 k ∧ Below w.heap.size w wr) (fun i _ => rs.length - (intOf i).toNat)
  case atStart => exact ⟨0, Nat.zero_le _, rfl, Below.refl _ _⟩
  case round =>
    obtain ⟨k, hk, rfl, hbel⟩ := hrel
    by_cases hlt : k < rs.length
    · obtain ⟨b1, o1, g0, n1, s2, rfl, hc0, hc1, hc2, HS⟩ := (h.below hbel).at hlt
      obtain ⟨b2, o2, g0x, n1x, s2x, rfl, hd0, hd1, hd2, HS'⟩ := (h'.below hbel).at hlt
      obtain ⟨rfl, rfl, rfl⟩ : g0 = g0x ∧ n1 = n1x ∧ s2 = s2x := by have := HS.out.trans HS'.out.symm; simpa using this
      have hk1 : (k : Int) < (rs.length : Int) := by omega
      have hk0 : (0 : Int) ≤ (k : Int) := by omega
      have lt1 : b1 < wr.heap.size := by have := World.block_lt_of_cell? wr _ hc0; simpa using this
      have lt2 : b2 < wr.heap.size := by have := World.block_lt_of_cell? wr _ hd0; simpa using this
      have HQ : Hid (wr.cell? ⟨b1, o1 + k * 3, none⟩ = some (.bool g0) ∧ wr.cell? ⟨b1, o1 + k * 3 + 1, none⟩ = some (.int .i64 n1) ∧ wr.cell? ⟨b1, o1 + k * 3 + 2, none⟩ = some (.string s2) ∧ wr.cell? ⟨b2, o2 + k * 3, none⟩ = some (.bool g0) ∧ wr.cell? ⟨b2, o2 + k * 3 + 1, none⟩ = some (.int .i64 n1) ∧ wr.cell? ⟨b2, o2 + k * 3 + 2, none⟩ = some (.string s2)) := ⟨hc0, hc1, hc2, hd0, hd1, hd2⟩
      clear HS HS' hc0 hc1 hc2 hd0 hd1 hd2
      go_wp2_with fail
      go_region_held3 (fun w' => w'.cell? ⟨b1, o1 + k * 3, none⟩ = some (.bool g0) ∧ w'.cell? ⟨b1, o1 + k * 3 + 1, none⟩ = some (.int .i64 n1) ∧ w'.cell? ⟨b1, o1 + k * 3 + 2, none⟩ = some (.string s2) ∧ w'.cell? ⟨b2, o2 + k * 3, none⟩ = some (.bool g0) ∧ w'.cell? ⟨b2, o2 + k * 3 + 1, none⟩ = some (.int .i64 n1) ∧ w'.cell? ⟨b2, o2 + k * 3 + 2, none⟩ = some (.string s2))
        (first | assumption | exact HQ.out | exact ⟨(hb2.cell (p := ⟨b1, _, none⟩) lt1).trans HQ.out.1, (hb2.cell (p := ⟨b1, _, none⟩) lt1).trans HQ.out.2.1, (hb2.cell (p := ⟨b1, _, none⟩) lt1).trans HQ.out.2.2.1, (hb2.cell (p := ⟨b2, _, none⟩) lt2).trans HQ.out.2.2.2.1, (hb2.cell (p := ⟨b2, _, none⟩) lt2).trans HQ.out.2.2.2.2.1, (hb2.cell (p := ⟨b2, _, none⟩) lt2).trans HQ.out.2.2.2.2.2⟩)
        (first | (go_at_call 168; refine (eq_op g0 n1 s2 _).mono ?_; rintro e w2 ⟨rfl, hb2⟩))
      go_wp2
      go_roundw
      case rel => exact ⟨k + 1, by omega, by go_num, hbel.drew.trans (hb2.mono hbel.size)⟩
      case measure => simp [intOf]; omega
    · go_wp2
      go_ret
      exact ⟨rfl, hbel⟩
end Go.Proofs.YtnmaknnnmjfhkagGreatDoor
