import Derived.Test.YtnmaknnnmjfhkagGreatDoorPrApI
namespace Go.Proofs.YtnmaknnnmjfhkagGreatDoor
open Go.RowKit Go.Lib
set_option linter.unusedVariables false
set_option linter.unusedSimpArgs false
set_option maxRecDepth 8000
theorem pr_len (l : List Pr) : (prcells l).length = l.length * 2 := prcells_length l
theorem cut_row {cur : List Value} {a r : List Pr} {n p : Nat} (h : cur.take (n * 2) = prcells (a ++ r)) (hp : a.length = p) (hn : n = p + r.length) (hl : n * 2 ≤ cur.length) : cur.take (p * 2) = prcells a ∧ (cur.drop (p * 2)).take ((n - p) * 2) = prcells r := by
  rw [prcells_append] at h
  have e1 : (prcells a).length = p * 2 := by rw [pr_len, hp]
  constructor
  · have : (cur.take (n * 2)).take (p * 2) = cur.take (p * 2) := by rw [List.take_take, show min (p * 2) (n * 2) = p * 2 by omega]
    rw [← this, h, List.take_left' e1]
  · have : (cur.drop (p * 2)).take ((n - p) * 2) = (cur.take (n * 2)).drop (p * 2) := by rw [List.drop_take]; congr 1; omega
    rw [this, h, List.drop_left' e1]
theorem ins_take {cur : List Value} {a r : List Pr} {n p : Nat} {s0 s1 : ByteArray} (h : cur.take (n * 2) = prcells (a ++ r)) (hp : a.length = p) (hn : n = p + r.length) (hl : n * 2 + 2 ≤ cur.length) : (insRow cur n p s0 s1).take ((n + 1) * 2) = prcells (a ++ [(s0, s1)] ++ r) ∧ (insRow cur n p s0 s1).length = cur.length := by
  obtain ⟨h1, h2⟩ := cut_row h hp hn (by omega)
  unfold insRow
  rw [h1, h2]
  have e : (prcells a ++ [Value.string s0, .string s1] ++ prcells r).length = (n + 1) * 2 := by simp only [List.length_append, pr_len, List.length_cons, List.length_nil]; omega
  refine ⟨?_, by rw [List.length_append, e, List.length_drop]; omega⟩
  rw [List.take_left' e, prcells_append, prcells_append]
  rfl
theorem del_take {cur : List Value} {a r : List Pr} {x : Pr} {n p : Nat} (h : cur.take (n * 2) = prcells (a ++ [x] ++ r)) (hp : a.length = p) (hn : n = p + 1 + r.length) (hl : n * 2 ≤ cur.length) : (delRow cur n p).take ((n - 1) * 2) = prcells (a ++ r) ∧ (delRow cur n p).length = cur.length := by
  obtain ⟨h1, _⟩ := cut_row (a := a) (r := [x] ++ r) (by rw [h, List.append_assoc]) hp (by simp; omega) hl
  obtain ⟨_, h2⟩ := cut_row (a := a ++ [x]) (r := r) (p := p + 1) h (by simp [hp]) hn hl
  unfold delRow
  rw [h1, show p * 2 + 2 = (p + 1) * 2 by omega, show n - p - 1 = n - (p + 1) by omega, h2]
  have e : (prcells a ++ prcells r).length = (n - 1) * 2 := by simp only [List.length_append, pr_len]; omega
  refine ⟨?_, by simp only [List.length_append, pr_len, List.length_cons, List.length_nil, List.length_drop]; omega⟩
  rw [List.append_assoc, List.take_left' e, prcells_append]
theorem set_take {cur : List Value} {a r : List Pr} {k v v' : ByteArray} {n p : Nat} (h : cur.take (n * 2) = prcells (a ++ [(k, v)] ++ r)) (hp : a.length = p) (hn : n = p + 1 + r.length) : (cur.set (p * 2 + 1) (.string v')).take (n * 2) = prcells (a ++ [(k, v')] ++ r) := by
  rw [List.take_set, h, prcells_append, prcells_append, prcells_append, prcells_append, List.append_assoc, List.append_assoc, List.set_append_right _ _ (by rw [pr_len]; omega), pr_len, hp, show p * 2 + 1 - p * 2 = 1 by omega]
  rfl
theorem own_full {w : World} {base : Nat} {v : Value} {rs : List Pr} (h : w.ownsRow base 144 2 v rs.length (prcells rs)) (hn : 0 < rs.length) : ∃ g cap cur, v = .slice (some ⟨g, 0, none⟩) rs.length cap ∧ base ≤ g ∧ w.heap[g]? = some (.cells (List.toArray cur) 144 (0, 0)) ∧ rs.length ≤ cap ∧ cap ≤ maxLen ∧ cur.length = cap * 2 ∧ cur.take (rs.length * 2) = prcells rs := by
  rcases h.2 with ⟨_, e⟩ | ⟨g, cap, cur, e1, e2, e3, e4, e5, e6, e7⟩
  · omega
  · exact ⟨g, cap, cur.toList, e1, e2, by simpa using e3, e4, e5, by simpa using e6, e7⟩
theorem own_mk {w : World} {base g cap n : Nat} {cur : List Value} {rs : List Pr} (hb : base ≤ g) (hg : w.heap[g]? = some (.cells cur.toArray 144 (0, 0))) (hn : n ≤ cap) (hc : cap ≤ maxLen) (hl : cur.length = cap * 2) (ht : cur.take (n * 2) = prcells rs) (hr : rs.length = n) : w.ownsRow base 144 2 (.slice (some ⟨g, 0, none⟩) n cap) rs.length (prcells rs) := by
  subst hr
  exact ⟨pr_len rs, .inr ⟨g, cap, cur.toArray, rfl, hb, hg, hn, hc, by simpa using hl, by simpa using ht⟩⟩
theorem own_prs {w : World} {base : Nat} {v : Value} {rs : List Pr} (h : w.ownsRow base 144 2 v rs.length (prcells rs)) : ∃ a c, v = .slice a rs.length c ∧ Prs w a rs := by
  rcases owns_forms h with ⟨e1, e2⟩ | ⟨g, cap, e1, _, _, e4⟩
  · exact ⟨none, 0, by rw [e1, e2], .inl (List.eq_nil_of_length_eq_zero e2)⟩
  · exact ⟨_, cap, e1, e4.prs⟩
theorem pr_one (l : List Pr) : ∀ u ∈ prcells l, u.oneCell' = true := fun u hu => by
  unfold prcells at hu
  rw [List.mem_flatMap] at hu
  obtain ⟨x, _, hx⟩ := hu
  exact onePr x.1 x.2 u hx
set_option maxHeartbeats 4000000 in
theorem insert_end (base : Nat) (a : Option Addr) (c : Nat) (rs : List Pr) (gv : Nat) (s0 s1 : ByteArray) (w : World) (own : w.ownsRow base 144 2 (.slice a rs.length c) rs.length (prcells rs)) (hv : w.heap[gv]? = some (.cells #[.string s0, .string s1] 144 (0, 0))) (hl : rs.length ≤ 1000) (hb : base ≤ w.heap.size) :
    Calls Tryz.prog 320 #[.slice a rs.length c, .int .i64 (rs.length : Int), .slice (some ⟨gv, 0, none⟩) 1 1] w fun e w' => ∃ v', e = .returned v' ∧ w'.ownsRow base 144 2 v' (rs ++ [(s0, s1)]).length (prcells (rs ++ [(s0, s1)])) ∧ Below base w w' := by
  obtain ⟨i0, hi0, hz0, hz1, hz2⟩ := info_partsP info_prC
  have HI := hid (And.intro hi0 (And.intro hz0 (And.intro hz1 hz2)))
  clear hi0 hz0 hz1 hz2
  have hb0 : (0 : Int) ≤ (rs.length : Int) := by omega
  have hcap : rs.length ≤ c := by
    rcases own.2 with ⟨e1, e2⟩ | ⟨g, cap, cur, e1, _, _, h3, _⟩
    · omega
    · cases e1; exact h3
  have HN := hid (fun j u (hj : [Value.string s0, .string s1][j]? = some u) => show w.cell? ((⟨gv, 0, none⟩ : Addr).add j) = some u by rw [Addr.add_lit, Nat.zero_add]; exact cell_of_row (cur := [.string s0, .string s1]) hv hj)
  have HO := hid own
  clear own
  have key : ∀ (A : Option Addr), A = a → Calls Tryz.prog 320 #[.slice A rs.length c, .int .i64 (rs.length : Int), .slice (some ⟨gv, 0, none⟩) 1 1] w fun e w' => ∃ v', e = .returned v' ∧ w'.ownsRow base 144 2 v' (rs ++ [(s0, s1)]).length (prcells (rs ++ [(s0, s1)])) ∧ Below base w w' := by
    intro A hA
    subst hA
    cases A with
    | none =>
      go_enter Tryz.func320, Tryz.ntmps320
      go_wp2_with (at_builtin; refine wpList_append_lies _ rfl _ _ 29 rfl base 144 i0 (.agg #[.string ByteArray.empty, .string ByteArray.empty]) 2 32 Tryz.underlying29 HI.out.1 HI.out.2.1 HI.out.2.2.1 HI.out.2.2.2 rfl (by omega) _ rs.length _ rfl HO.out ⟨gv, 0, none⟩ 1 1 [.string s0, .string s1] rfl rfl HN.out (onePr _ _) (by omega) (by unfold maxLen; omega) (by omega) hb w.heap.size rfl ?_; intro g9 cap9 w9 hown9 hgrow9 hat9 hlt9; have HO9 := hid hown9; have HG9 := hid hgrow9; clear hown9 hgrow9 hat9)
      all_goals
        go_ret
        exact ⟨.slice (some ⟨g9, 0, none⟩) (rs.length + 1) cap9, rfl, by simpa only [prcells_snocA, List.length_append, List.length_singleton] using HO9.out, below_of_grown HG9.out hb (fun k hk => (HO.out.lt k hk).1)⟩
    | some ad =>
      go_enter Tryz.func320, Tryz.ntmps320
      go_wp2_with (at_builtin; refine wpList_append_lies _ rfl _ _ 29 rfl base 144 i0 (.agg #[.string ByteArray.empty, .string ByteArray.empty]) 2 32 Tryz.underlying29 HI.out.1 HI.out.2.1 HI.out.2.2.1 HI.out.2.2.2 rfl (by omega) _ rs.length _ rfl HO.out ⟨gv, 0, none⟩ 1 1 [.string s0, .string s1] rfl rfl HN.out (onePr _ _) (by omega) (by unfold maxLen; omega) (by omega) hb w.heap.size rfl ?_; intro g9 cap9 w9 hown9 hgrow9 hat9 hlt9; have HO9 := hid hown9; have HG9 := hid hgrow9; clear hown9 hgrow9 hat9)
      all_goals
        go_ret
        exact ⟨.slice (some ⟨g9, 0, none⟩) (rs.length + 1) cap9, rfl, by simpa only [prcells_snocA, List.length_append, List.length_singleton] using HO9.out, below_of_grown HG9.out hb (fun k hk => (HO.out.lt k hk).1)⟩
  exact key a rfl
set_option maxHeartbeats 4000000 in
theorem setap_i (base : Nat) (v : Value) (rs : List Pr) (key val : ByteArray) (w : World) (own : w.ownsRow base 144 2 v rs.length (prcells rs)) (hasc : ascP rs) (hl : rs.length ≤ 1000) (hb : base ≤ w.heap.size) :
    Calls Tryz.prog 318 #[.agg #[.string key, .string val], v] w fun e w' => ∃ v', e = .returned v' ∧ w'.ownsRow base 144 2 v' (chF (key, val, false) rs).length (prcells (chF (key, val, false) rs)) ∧ ascP (chF (key, val, false) rs) ∧ Below base w w' := by
  obtain ⟨a, c, rfl, hprs⟩ := own_prs own
  have hb0 : ∀ o, Below w.heap.size w (w.alloc o) := fun o => (Below.refl _ _).alloc (Nat.le_refl _) _
  have HF := hid (find_i a rs c key _ (hprs.below (hb0 (.cells #[.string key, .string val] 298))) (by omega) (asc_mono hasc key))
  go_enter Tryz.func318, Tryz.ntmps318
  go_wp2_with fail
  refine HF.out.mono ?_
  rintro e w2 ⟨p, hp, h1, h2, rfl, hb2⟩
  have hr := (row_new w #[.string key, .string val] 298).below hb2
  have q0 := hr.cell 0 _ rfl
  have q1 := hr.cell 1 _ rfl
  have lr := hr.lt
  have own2 := owns_below own ((hb0 _).trans (hb2.mono (hb0 _).size))
  have hbb : Below base w w2 := ((hb0 _).trans (hb2.mono (hb0 _).size)).mono hb
  have hs2 : w.heap.size < w2.heap.size := lr
  clear hr HF hb2
  by_cases ht : p < rs.length ∧ cmpB (kAt rs p) key = 0
  · obtain ⟨e1, e2, e3, e4⟩ := part_at hasc key p hp h1 h2 1 (by rw [if_pos ht])
    have e3' : ∃ v0, (rs.drop p).take 1 = [(key, v0)] := e3.resolve_left (by intro h0; have := congrArg List.length h0; rw [List.length_take, List.length_drop, List.length_nil] at this; omega)
    obtain ⟨v0, hv0⟩ := e3'
    have hF := chF_at (key, val, false) (rs.take p) ((rs.drop p).take 1) (rs.drop (p + 1)) e2 e3 e4
    have hA := chAt_asc (key, val, false) (rs.take p) ((rs.drop p).take 1) (rs.drop (p + 1)) (by rw [← e1]; exact hasc) e2 e4
    rw [← e1] at hF
    obtain ⟨g, cap, cur, ev, hg1, hg2, hg3, hg4, hg5, hg6⟩ := own_full own2 (by omega)
    cases ev
    rw [decide_eq_true ht]
    have hk0 : (0 : Int) ≤ (p : Int) := by omega
    have hk1 : (p : Int) < (rs.length : Int) := by omega
    have hcl : w2.cell? ⟨g, p * 2 + 1, none⟩ = some (.string v0) := by
      refine cell_of_row hg2 ?_
      have : (cur.take (rs.length * 2))[p * 2 + 1]? = some (.string v0) := by
        rw [hg6, e1, hv0, prcells_append, prcells_append, List.append_assoc, List.getElem?_append_right (by rw [pr_len, List.length_take]; omega), pr_len, List.length_take, show p * 2 + 1 - min p rs.length * 2 = 1 by rw [Nat.min_eq_left (by omega)]; omega]
        rfl
      rw [List.getElem?_take] at this
      split at this
      · exact this
      · cases this
    have hfz : w2.frozen? ⟨g, p * 2 + 1, none⟩ = false := by simp [World.frozen?, hg2]
    have hset := setCell_eq_setRow w2 g (p * 2 + 1) cur.toArray 144 (0, 0) (.string val) hg2
    have hown : (w2.setCell ⟨g, p * 2 + 1, none⟩ (.string val)).ownsRow base 144 2 (.slice (some ⟨g, 0, none⟩) rs.length c) (chF (key, val, false) rs).length (prcells (chF (key, val, false) rs)) := by
      rw [hF]
      unfold chAt
      simp only [Bool.false_eq_true, if_false]
      refine own_mk (cur := cur.set (p * 2 + 1) (.string val)) hg1 ?_ hg3 hg4 (by simpa using hg5) ?_ ?_
      · rw [hset, setRow_heap w2 g _ _ 144 (0, 0) hg2]; simp
      · rw [show rs.length * 2 = rs.length * 2 from rfl]
        refine set_take (k := key) (v := v0) (by rw [hg6]; congr 1; rw [← hv0]; exact e1) (by rw [List.length_take]; omega) (by rw [List.length_drop]; omega)
      · simp only [List.length_append, List.length_take, List.length_drop, List.length_cons, List.length_nil]; omega
    have HOWN := hid hown
    have HA : Hid (ascP (chF (key, val, false) rs)) := by show ascP _; rw [hF]; exact hA
    have hgl : g < w2.heap.size := (Array.getElem?_eq_some_iff.1 hg2).1
    clear hown hA hF e1 e2 e3 e4 hv0 hset hg2 hg6 hasc own own2 h1 h2
    go_wp2_with fail
    go_ret
    exact ⟨_, rfl, HOWN.out, HA.out, hbb.setCell (p := ⟨g, p * 2 + 1, none⟩) hg1 _⟩
  · obtain ⟨e1, e2, e3, e4⟩ := part_at hasc key p hp h1 h2 0 (by rw [if_neg ht])
    have hF := chF_at (key, val, false) (rs.take p) ((rs.drop p).take 0) (rs.drop (p + 0)) e2 e3 e4
    have hA := chAt_asc (key, val, false) (rs.take p) ((rs.drop p).take 0) (rs.drop (p + 0)) (by rw [← e1]; exact hasc) e2 e4
    rw [← e1] at hF
    rw [decide_eq_false ht]
    unfold chAt at hF hA
    simp only [Bool.false_eq_true, if_false, Nat.add_zero] at hF hA e1 e4
    have hF' : chF (key, val, false) rs = rs.take p ++ [(key, val)] ++ rs.drop p := hF
    have hk0 : (0 : Int) ≤ (p : Int) := by omega
    have hva : (w2.alloc (.cells #[.string key, .string val] 144)).heap[w2.heap.size]? = some (.cells #[.string key, .string val] 144 (0, 0)) := heap_alloc_new w2 _
    have owna := own2.alloc (.cells #[.string key, .string val] 144)
    have hba : Below base w (w2.alloc (.cells #[.string key, .string val] 144)) := hbb.alloc (by omega) _
    have HIN : Hid (Calls Tryz.prog 320 #[.slice a rs.length c, .int .i64 (p : Int), .slice (some ⟨w2.heap.size, 0, none⟩) 1 1] (w2.alloc (.cells #[.string key, .string val] 144)) fun e w' => ∃ v', e = .returned v' ∧ w'.ownsRow base 144 2 v' (chF (key, val, false) rs).length (prcells (chF (key, val, false) rs)) ∧ Below base (w2.alloc (.cells #[.string key, .string val] 144)) w') := by
      show Calls _ _ _ _ _
      rcases Nat.eq_or_lt_of_le hp with hpe | hpl
      · subst hpe
        rw [List.take_length, List.drop_length, List.append_nil] at hF'
        rw [hF']
        exact insert_end base a c rs w2.heap.size key val _ owna hva hl (by simp; omega)
      · obtain ⟨g, cap, cur, ev, hg1, hg2, hg3, hg4, hg5, hg6⟩ := own_full owna (by omega)
        cases ev
        have hone : ∀ u ∈ cur.take (rs.length * 2), u.oneCell' = true := by rw [hg6]; exact pr_one rs
        have hgl : g < w2.heap.size := by have := (own2.lt g rfl).2; exact this
        have hcut : cur.take (rs.length * 2) = prcells (rs.take p ++ rs.drop p) := by rw [List.take_append_drop]; exact hg6
        have hpl' : (rs.take p).length = p := by rw [List.length_take]; omega
        have hnl : rs.length = p + (rs.drop p).length := by rw [List.length_drop]; omega
        rcases Nat.eq_or_lt_of_le hg3 with hce | hcl
        · refine (insert_gr g rs.length p w2.heap.size key val cur _ hg2 hva (by rw [hg5, hce]) (by omega) hpl hone).mono ?_ |> (fun x => by rw [← hce]; exact x)
          rintro e w' ⟨G, row, rfl, h1, h2, h3, h4, h5, h6, h7⟩
          refine ⟨_, rfl, ?_, h5.mono (by simp; omega)⟩
          rw [hF']
          refine own_mk (cur := row) (by simp; omega) h7 h1 h2 h3 ?_ (by simp only [List.length_append, List.length_take, List.length_drop, List.length_cons, List.length_nil]; omega)
          rw [h4, prcells_append, prcells_append]
          obtain ⟨c1, c2⟩ := cut_row hcut hpl' hnl (by omega)
          rw [c1]
          rw [List.take_of_length_le (by rw [List.length_drop]; omega)] at c2
          rw [c2]
          rfl
        · refine (insert_in g rs.length c p w2.heap.size key val cur _ hg2 hva (by omega) hg5 hcl (by omega) hpl hone).mono ?_
          rintro e w' ⟨rfl, h1, h2⟩
          obtain ⟨t1, t2⟩ := ins_take (s0 := key) (s1 := val) hcut hpl' hnl (by omega)
          refine ⟨_, rfl, ?_, below_of_grown h1 (by simp; omega) (fun k hk => by cases hk; exact hg1)⟩
          rw [hF']
          exact own_mk hg1 h2 (by omega) hg4 (by rw [t2]; exact hg5) t1 (by simp only [List.length_append, List.length_take, List.length_drop, List.length_cons, List.length_nil]; omega)
    have HA : Hid (ascP (chF (key, val, false) rs)) := by show ascP _; rw [hF']; exact hA
    have HBA := hid hba
    clear hA hF hF' e1 e2 e3 e4 hasc own own2 owna h1 h2 hva hba hbb
    go_wp2_with (go_at_call 320; refine HIN.out.mono ?_; rintro e w5 ⟨v5, rfl, ho5, hb5⟩)
    go_ret
    exact ⟨_, rfl, ho5, HA.out, HBA.out.trans hb5⟩
end Go.Proofs.YtnmaknnnmjfhkagGreatDoor
