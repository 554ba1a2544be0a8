import Derived.Test.YtnmaknnnmjfhkacRbWf
import Derived.Test.YtnmaknnnmjfhkacMkB
namespace Go.Proofs.Ytnmaknnnmjfhkac
open Go.RowKit
set_option maxRecDepth 4000
set_option linter.unusedVariables false
set_option linter.unusedSimpArgs false

theorem info_ch' : (Try.prog.info? 72).map (fun i => (i.zero, i.size, i.bytes)) = some (some (.agg #[.string ByteArray.empty, .string ByteArray.empty, .bool false]), 3, 40) := by kernel_rfl
theorem info_partsC {P : Program} {e : TypeId} {z : Value} {size bytes : Nat} (h : (P.info? e).map (fun i => (i.zero, i.size, i.bytes)) = some (some z, size, bytes)) : ∃ i, P.info? e = some i ∧ i.zero = some z ∧ i.size = size ∧ i.bytes = bytes := by
  obtain ⟨i, hi, hh⟩ := Option.map_eq_some_iff.1 h
  simp only [Prod.mk.injEq] at hh
  exact ⟨i, hi, hh⟩
theorem below_grownC {W w w1 : World} {e : TypeId} {size : Nat} {v : Value} {n B : Nat} {xs : List Value} (hb : Below B W w) (own : w.ownsRow B e size v n xs) (hg : w.grownBy w1 v.ownBlock) (hB : B ≤ w.heap.size) : Below B W w1 :=
  hb.trans ⟨hg.os, hg.tape, hg.output, hg.size, fun k hk => hg.block k (by omega) (fun he => by have := (own.lt k he.symm).1; omega)⟩
theorem stp_size {r r1 : ByteArray} {c : Ch} (hr : 0 < r.size) (h : stp r = some (c, r1)) : r1.size < r.size ∧ c.1.size ≤ 255 ∧ c.2.1.size ≤ 255 := by
  obtain ⟨k1, k2, t, k3, k4⟩ := stp_some hr h
  refine ⟨?_, k1, k2⟩
  have e1 := congrArg List.length k3
  have e2 := congrArg List.length k4
  rw [nums_length] at e2
  rw [List.length_append, nums_length] at e1
  have e3 : 2 ≤ (chN c).length := by unfold chN; split <;> simp <;> omega
  simp only [List.length_cons] at e1 e2
  omega
/-- What ReadBatch answers, and that what it answers is its own. -/
def RbPost (w w' : World) (e : Ending) (res : Option (List Ch)) : Prop := ∃ a c, e = .returned (.tuple #[.slice a (res.getD []).length c, .bool res.isSome]) ∧ OwnS w' a (chcells (res.getD [])) ∧ (∀ g, blk a (res.getD []).length = some g → w.heap.size ≤ g) ∧ Below w.heap.size w w'
theorem rbPost_none {w w' : World} {v : Value} {a : Option Addr} {c : Nat} (hv : v = .tuple #[.slice a 0 c, .bool false]) (hb : Below w.heap.size w w') : RbPost w w' (.returned v) none := ⟨a, c, by rw [hv]; rfl, .inl rfl, fun g h => (by cases h), hb⟩
theorem rbPost_some {w w' : World} {v y : Value} {o : List Ch} {e : TypeId} (h : w'.ownsRow w.heap.size e 3 y o.length (chcells o)) (hv : v = .tuple #[y, .bool true]) (hb : Below w.heap.size w w') : RbPost w w' (.returned v) (some o) := by
  rcases owns_forms h with ⟨h1, h2⟩ | ⟨g, cap, h1, h2, _, h3⟩
  · have : o = [] := List.eq_nil_of_length_eq_zero h2
    subst this
    exact ⟨none, 0, by rw [hv, h1]; rfl, .inl rfl, fun g h => (by cases h), hb⟩
  · refine ⟨_, cap, by rw [hv, h1]; rfl, .inr ⟨g, rfl, h3⟩, fun g' hg' => ?_, hb⟩
    simp only [Option.getD_some] at hg'
    by_cases h0 : o.length = 0
    · rw [h0] at hg'; cases hg'
    · rw [blk_pos g 0 _ h0] at hg'; cases hg'; exact h2
theorem owns_chs {w : World} {B : Nat} {e : TypeId} {y : Value} {o : List Ch} (h : w.ownsRow B e 3 y o.length (chcells o)) : ∃ a c, y = .slice a o.length c ∧ Chs w a o := by
  rcases owns_forms h with ⟨h1, h2⟩ | ⟨g, cap, h1, h2, _, h3⟩
  · have : o = [] := List.eq_nil_of_length_eq_zero h2
    subst this
    exact ⟨none, 0, h1, .inl rfl⟩
  · exact ⟨_, cap, h1, h3.chs⟩
theorem chcells_snoc (o : List Ch) (c : Ch) : chcells (o ++ [c]) = chcells o ++ [.string c.1, .string c.2.1, .bool c.2.2] := by rw [chcells_append]; rfl
theorem news2 (w : World) (A : Obj) (cs : Array Value) (t : TypeId) : ∀ j u, cs.toList[j]? = some u → ((w.alloc A).alloc (.cells cs t)).cell? ((⟨w.heap.size + 1, 0, none⟩ : Addr).add j) = some u := by
  have h := heap_alloc_new (w.alloc A) (.cells cs t)
  rw [World.size_alloc] at h
  exact World.news_of_block h
theorem oneC (k v : ByteArray) (g : Bool) : ∀ u ∈ [Value.string k, .string v, .bool g], u.oneCell' = true := by
  intro u hu
  simp only [List.mem_cons, List.not_mem_nil, or_false] at hu
  rcases hu with rfl | rfl | rfl <;> rfl

set_option maxHeartbeats 1000000 in
theorem read_i (s : ByteArray) (w : World) (hs : s.size ≤ 1048576) : Calls Try.prog 11 #[.string s] w fun e w' => RbPost w w' e (resI s) := by
  obtain ⟨R, HR⟩ : ∃ R, Hid (R = resI s) := ⟨_, hid rfl⟩
  rw [← HR.out]
  obtain ⟨i0, hi0, hz0, hz1, hz2⟩ := info_partsC info_ch'
  have HI := hid (And.intro hi0 (And.intro hz0 (And.intro hz1 hz2)))
  clear hi0 hz0 hz1 hz2
  go_enter Try.func11, Try.ntmps11
  go_wp2_with fail
  go_loopw [0, 4] (fun x y wr => ∃ (j : Nat) (o : List Ch) (r : ByteArray), x = .string r ∧ j + o.length = 21 ∧ r.size ≤ 1048576 ∧ Hid (runI j r o = runI 21 s []) ∧ Hid (∀ z ∈ o, z.1.size ≤ 1048576 ∧ z.2.1.size ≤ 1048576) ∧ wr.ownsRow w.heap.size 72 3 y o.length (chcells o) ∧ Below w.heap.size w wr) (fun x _ _ => match x with | .string r => r.size | _ => 0)
  case atStart => exact ⟨21, [], s, rfl, rfl, hs, rfl, fun z hz => (by simp at hz), World.ownsRow_nil _ _ _ _, Below.refl _ _⟩
  case round =>
    obtain ⟨j, o, r, rfl, hj, hrz, HRN, HOZ, hown, hbel⟩ := hrel
    obtain ⟨ya, yc, rfl, hchs⟩ := owns_chs hown
    have HO := hid hown
    have HB := hid hbel
    have hsz := hbel.size
    have HC := hid hchs
    clear hown hbel hchs
    have fin : ∀ (b : Bool), Hid (runI j r o = some (o, r)) → Hid (R = if batchOk o = true then some o else none) := fun b hh => by
      show _ = _
      have := HRN.out
      rw [hh.out] at this
      rw [HR.out]
      unfold resI
      rw [← this]
    by_cases h0 : r.size = 0
    · have he : r.toList.isEmpty = true := by rw [isEmpty_size]; exact decide_eq_true h0
      have HF := fin true (by show _ = _; cases j <;> simp [runI, h0])
      clear fin
      cases hok : batchOk o with
      | true =>
        rw [hok, if_pos rfl] at HF
        go_wp2_with (go_at_call 38; refine (vbatch_i _ o _ _ HC.out (by omega) HOZ.out).mono ?_; rw [hok]; rintro e w2 ⟨rfl, hb2⟩)
        go_ret2
        rw [HF.out]
        exact rbPost_some (owns_below HO.out hb2) rfl (HB.out.trans (hb2.mono hsz))
      | false =>
        rw [hok, if_neg (by simp)] at HF
        go_wp2_with (go_at_call 38; refine (vbatch_i _ o _ _ HC.out (by omega) HOZ.out).mono ?_; rw [hok]; rintro e w2 ⟨rfl, hb2⟩)
        go_ret2
        rw [HF.out]
        exact rbPost_none rfl (by first | exact HB.out.trans (hb2.mono hsz) | exact (HB.out.trans (hb2.mono hsz)).alloc (by have := hb2.size; omega) _)
    · have he : r.toList.isEmpty = false := by rw [isEmpty_size]; exact decide_eq_false h0
      by_cases hl : (o.length : Int) ≤ 20
      · obtain ⟨j', rfl⟩ : ∃ j', j = j' + 1 := ⟨j - 1, by omega⟩
        have HRN2 := HRN.out
        rw [runI, if_neg h0] at HRN2
        have HPC := hid (change_i r · hrz (by omega))
        clear fin
        by_cases hbad : 1 < b0 r
        · have hst : stpV r = none := by unfold stpV; exact if_pos hbad
          rw [if_pos hbad] at HRN2
          have HF : Hid (R = none) := by show _ = _; rw [HR.out]; unfold resI; rw [← HRN2]
          rw [hst] at HPC
          clear hbad hst
          go_wp2_with (go_at_call 43; refine (HPC.out _).mono ?_; rintro e w2 ⟨⟨a1, a2, a3, a4, rfl⟩, hb2⟩)
          go_ret2
          rw [HF.out]
          exact rbPost_none rfl (by first | exact HB.out.trans (hb2.mono hsz) | exact (HB.out.trans (hb2.mono hsz)).alloc (by have := hb2.size; omega) _)
        · rw [if_neg hbad] at HRN2
          have hst : stpV r = stp r := by unfold stpV; exact if_neg hbad
          rw [hst] at HPC
          clear hbad hst
          cases hq : stp r with
          | none =>
            rw [hq] at HRN2 HPC
            have HF : Hid (R = none) := by show _ = _; rw [HR.out]; unfold resI; rw [← HRN2]
            clear hq
            go_wp2_with (go_at_call 43; refine (HPC.out _).mono ?_; rintro e w2 ⟨⟨a1, a2, a3, a4, rfl⟩, hb2⟩)
            go_ret2
            rw [HF.out]
            exact rbPost_none rfl (by first | exact HB.out.trans (hb2.mono hsz) | exact (HB.out.trans (hb2.mono hsz)).alloc (by have := hb2.size; omega) _)
          | some p =>
            obtain ⟨⟨ck, cv, cg⟩, r1⟩ := p
            obtain ⟨q1, q2, q3⟩ := stp_size (by omega) hq
            rw [hq] at HRN2 HPC
            have HR2 : Hid (runI j' r1 (o ++ [(ck, cv, cg)]) = runI 21 s []) := HRN2
            clear hq HRN2 HRN
            simp only at q2 q3
            go_wp2_with (first | (go_at_call 43; refine (HPC.out _).mono ?_; rintro e w2 ⟨he2, hb2⟩; simp only [chgPost] at he2; subst he2; have hs2 := hb2.size; have HO5 := hid (((owns_below HO.out hb2).alloc (.cells #[.string ck, .string cv, .bool cg] 72)).alloc (.cells #[.string ck, .string cv, .bool cg] 72)); have HB5 := hid (((HB.out.trans (hb2.mono hsz)).alloc (by omega) (.cells #[.string ck, .string cv, .bool cg] 72)).alloc (by simp; omega) (.cells #[.string ck, .string cv, .bool cg] 72)); clear hb2) | (at_builtin; refine wpList_append_lies _ rfl _ _ 23 rfl w.heap.size 72 i0 (.agg #[.string ByteArray.empty, .string ByteArray.empty, .bool false]) 3 40 Try.underlying23 HI.out.1 HI.out.2.1 HI.out.2.2.1 HI.out.2.2.2 rfl (by omega) _ o.length _ rfl HO5.out ⟨w2.heap.size + 1, 0, none⟩ 1 1 [.string ck, .string cv, .bool cg] rfl rfl (news2 w2 _ _ _) (oneC _ _ _) (by omega) (by unfold maxLen; omega) (by omega) (by simp; omega) (w2.heap.size + 1 + 1) (by simp) ?_; intro g cap w7 hown7 hgrow7 hat7 hlt7; have HO7 := hid hown7; have HB7 := hid (below_grownC HB5.out HO5.out hgrow7 (by simp; omega)); clear hown7 hgrow7 hat7))
            refine ⟨⟨j', o ++ [(ck, cv, cg)], r1, rfl, by simp; omega, by omega, HR2.out, fun z hz => ?_, ?_, HB7.out⟩, by simp only; omega⟩
            · rcases List.mem_append.1 hz with hz | hz
              · exact HOZ.out z hz
              · simp at hz; subst hz; exact ⟨by simp only; omega, by simp only; omega⟩
            · rw [chcells_snoc, List.length_append]; exact HO7.out
      · have hj0 : j = 0 := by omega
        subst hj0
        have HF := fin true rfl
        clear fin
        have hok : batchOk o = false := batchOk_no1 (by omega)
        rw [hok, if_neg (by simp)] at HF
        go_wp2_with (go_at_call 38; refine (vbatch_i _ o _ _ HC.out (by omega) HOZ.out).mono ?_; rw [hok]; rintro e w2 ⟨rfl, hb2⟩)
        go_ret2
        rw [HF.out]
        exact rbPost_none rfl (HB.out.trans (hb2.mono hsz))
end Go.Proofs.Ytnmaknnnmjfhkac
