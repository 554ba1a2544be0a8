import Derived.Recover
import Derived.Defers
import Derived.Test.YtnmaknnnmjfhkagGreatDoorPrApJ
import Derived.Test.YtnmaknnnmjfhkagGreatDoorPrG44
import Derived.Test.YtnmaknnnmjfhkagGreatDoorPrScM
set_option maxHeartbeats 16000000
set_option maxRecDepth 8000
namespace Go.Proofs.YtnmaknnnmjfhkagGreatDoor
open Go.RowKit Go.Lib
set_option linter.unusedVariables false
set_option linter.unusedSimpArgs false
set_option maxRecDepth 8000
set_option maxHeartbeats 16000000 in
theorem remap_i (base : Nat) (v : Value) (rs : List Pr) (key val : ByteArray) (w : World) (own : w.ownsRow base 144 2 v rs.length (prcells rs)) (hasc : ascP rs) (hl : rs.length ≤ 1000) (hb : base ≤ w.heap.size) :
    Calls Tryz.prog 314 #[.agg #[.string key], v] w fun e w' => ∃ v', e = .returned v' ∧ w'.ownsRow base 144 2 v' (chF (key, val, true) rs).length (prcells (chF (key, val, true) rs)) ∧ ascP (chF (key, val, true) rs) ∧ Below base w w' := by
  obtain ⟨a, c, rfl, hprs⟩ := own_prs own
  have hb0 : ∀ o, Below w.heap.size w (w.alloc o) := fun o => (Below.refl _ _).alloc (Nat.le_refl _) _
  have HF := hid (find_i a rs c key _ (hprs.below (hb0 (.cells #[.string key] 296))) (by omega) (asc_mono hasc key))
  go_enter Tryz.func314, Tryz.ntmps314
  go_wp2_with fail
  refine HF.out.mono ?_
  rintro e w2 ⟨p, hp, h1, h2, rfl, hb2⟩
  have lr : w.heap.size < w2.heap.size := Nat.lt_of_lt_of_le (by simp) hb2.size
  have own2 := owns_below own ((hb0 _).trans (hb2.mono (hb0 _).size))
  have hbb : Below base w w2 := ((hb0 _).trans (hb2.mono (hb0 _).size)).mono hb
  clear HF hb2
  by_cases ht : p < rs.length ∧ cmpB (kAt rs p) key = 0
  · obtain ⟨e1, e2, e3, e4⟩ := part_at hasc key p hp h1 h2 1 (by rw [if_pos ht])
    have e3' : ∃ v0, (rs.drop p).take 1 = [(key, v0)] := e3.resolve_left (by intro h0; have := congrArg List.length h0; rw [List.length_take, List.length_drop, List.length_nil] at this; omega)
    obtain ⟨v0, hv0⟩ := e3'
    have hF := chF_at (key, val, true) (rs.take p) ((rs.drop p).take 1) (rs.drop (p + 1)) e2 e3 e4
    have hA := chAt_asc (key, val, true) (rs.take p) ((rs.drop p).take 1) (rs.drop (p + 1)) (by rw [← e1]; exact hasc) e2 e4
    rw [← e1] at hF
    unfold chAt at hF hA
    simp only [if_true, List.append_nil] at hF hA
    obtain ⟨g, cap, cur, ev, hg1, hg2, hg3, hg4, hg5, hg6⟩ := own_full own2 (by omega)
    cases ev
    have hone : ∀ u ∈ cur.take (rs.length * 2), u.oneCell' = true := by rw [hg6]; exact pr_one rs
    have hw : IntKind.i64.wrap ((p : Int) + 1) = (p : Int) + 1 := by simp [IntKind.wrap, IntKind.bits, IntKind.signed]; omega
    rw [decide_eq_true ht]
    have HDL := hid (delete_i g rs.length c p cur w2 hg2 hg5 hg3 (by omega) ht.1 hone)
    obtain ⟨t1, t2⟩ := del_take (x := (key, v0)) (a := rs.take p) (r := rs.drop (p + 1)) (n := rs.length) (p := p) (by rw [hg6]; congr 1; rw [← hv0]; exact e1) (by rw [List.length_take]; omega) (by rw [List.length_drop]; omega) (by omega)
    have HT := hid (And.intro t1 t2)
    have HF := hid hF
    have HA := hid hA
    have hp1 := ht.1
    clear hF hA e1 e2 e3 e4 hv0 hg2 hg6 hasc own own2 h1 h2 t1 t2 hone
    go_wp2_with (go_at_call 316; refine HDL.out.mono ?_; rintro e w5 ⟨rfl, hg5', hr5⟩)
    go_ret
    refine ⟨_, rfl, ?_, by rw [HF.out]; exact HA.out, hbb.trans (below_of_grown hg5' (by omega) (fun k hk => by cases hk; exact hg1))⟩
    rw [HF.out]
    exact own_mk hg1 hr5 (by omega) hg4 (by rw [HT.out.2]; exact hg5) HT.out.1 (by rw [List.length_append, List.length_take, List.length_drop]; omega)
  · obtain ⟨e1, e2, e3, e4⟩ := part_at hasc key p hp h1 h2 0 (by rw [if_neg ht])
    have hF := chF_at (key, val, true) (rs.take p) ((rs.drop p).take 0) (rs.drop (p + 0)) e2 e3 e4
    rw [← e1] at hF
    unfold chAt at hF
    simp only [if_true, List.append_nil, Nat.add_zero, List.take_append_drop] at hF
    rw [decide_eq_false ht]
    have HF := hid hF
    have HO := hid own2
    have HA := hid hasc
    clear hF e1 e2 e3 e4 hasc own own2 h1 h2
    go_wp2_with fail
    go_ret
    exact ⟨_, rfl, by rw [HF.out]; exact HO.out, by rw [HF.out]; exact HA.out, hbb⟩
theorem meth_setA (j : Nat) (v v' : Value) (w : World) : Sem.run Tryz.prog (method (j + 1) 298 (.agg #[v, v']) "loop.example/kilnstone/impl.apply") w = .ok (318, .agg #[v, v']) w := by kernel_rfl
theorem meth_remA (j : Nat) (v : Value) (w : World) : Sem.run Tryz.prog (method (j + 1) 296 (.agg #[v]) "loop.example/kilnstone/impl.apply") w = .ok (314, .agg #[v]) w := by kernel_rfl
theorem fit_ok (a : Option Addr) (n c : Nat) (h : n ≤ 100) (w : World) : Calls Tryz.prog 240 #[.slice a n c] w fun e w' => (∃ x, e = .returned x) ∧ w' = w := by
  have h1 : ((n : Int) ≤ 100) := by omega
  go_enter Tryz.func240, Tryz.ntmps240
  go_wp2_with fail
  go_end0
  exact ⟨⟨_, rfl⟩, rfl⟩
theorem fit_no (a : Option Addr) (n c : Nat) (h : 100 < n) (w : World) : Calls Tryz.prog 240 #[.slice a n c] w fun e w' => e = .panicked [{ v := .iface 292 (.int .i64 2), recovered := false }] ∧ w' = w := by
  have h1 : ((100 : Int) < n) := by omega
  go_enter Tryz.func240, Tryz.ntmps240
  go_wp2_with fail
  simp [bodyPost]
theorem catch_idle (p q : Addr) (w : World) :
    CallsD Tryz.prog 239 #[.pointer (some p), .pointer (some q)] .returning w fun e u' w' => e = .returned (.tuple #[]) ∧ u' = .returning ∧ w' = w := by
  refine callsD_of_wpS Tryz.func239 rfl fun c₀ cs hu => ?_
  apply wpS_seq
  apply wpS_region
  simp [wpOpsS, go_sem, recoverD, hu, Tryz.ntmps239, Exit.thenS]
  refine wpS_of_wp ?_
  simp only [Array.replicate, List.replicate, List.setIfInBounds_toArray, List.set_cons_zero, List.set_cons_succ, List.append_toArray, List.cons_append, List.nil_append]
  go_wp2
  cases c₀
  simp_all [bodyPostS, results, Tryz.results239]
theorem catch_panic (p q : Addr) (old : List PanicEntry) (w : World) (x : Value) (y : Int) (hp : w.cell? p = some x) (hq : w.cell? q = some (.int .i64 y)) (fp : w.frozen? p = false) (fq : w.frozen? q = false) (hne : p ≠ q) :
    CallsD Tryz.prog 239 #[.pointer (some p), .pointer (some q)] (.panicking ({ v := .iface 292 (.int .i64 2), recovered := false } :: old)) w fun e u' w' =>
      e = .returned (.tuple #[]) ∧ u' = .panicking ({ v := .iface 292 (.int .i64 2), recovered := true } :: old) ∧ w' = (w.setCell p (.slice none 0 0)).setCell q (.int .i64 2) := by
  have hta : ∀ w, (Instr.typeAssert (.iface 292 (.int .i64 2)) 20 292 true).run Tryz.prog w = .ok (.tuple #[.int .i64 2, .bool true]) w := fun w => by kernel_rfl
  refine callsD_of_wpS Tryz.func239 rfl fun c₀ cs hu => ?_
  apply wpS_seq
  apply wpS_region
  simp [wpOpsS, go_sem, recoverD, hu, Tryz.ntmps239, Exit.thenS]
  refine wpS_of_wp ?_
  simp only [Array.replicate, List.replicate, List.setIfInBounds_toArray, List.set_cons_zero, List.set_cons_succ, List.append_toArray, List.cons_append, List.nil_append]
  go_wp2
  cases c₀
  simp_all [bodyPostS, results, Tryz.results239]
end Go.Proofs.YtnmaknnnmjfhkagGreatDoor

namespace Go.Proofs.YtnmaknnnmjfhkagGreatDoor
open Go.RowKit
set_option maxRecDepth 8000
set_option linter.unusedVariables false
set_option linter.unusedSimpArgs false
set_option maxHeartbeats 16000000 in
theorem scan_i_no (a : Option Addr) (ss : List ByteArray) (c : Nat) (a' : Option Addr) (ws : List (Int × ByteArray)) (c' : Nat) (frm size first life n : Int) (w : World) (h : Strs w a ss) (h' : Wrs w a' ws) (hl : ss.length ≤ 1048576) (hl' : ws.length ≤ 1048576) (hs : ∀ s ∈ ss, s.size ≤ 1048576) (hs' : ∀ x ∈ ws, x.2.size ≤ 1048576) (hfr : -9223372036854775808 ≤ frm ∧ frm ≤ 9223372036854775807) (hno : ¬ scOk ss ws frm size n) :
    Calls Tryz.prog 62 #[diskV a ss.length c a' ws.length c', .int .i64 frm, .int .i64 size, .int .i64 first, .int .i64 life, .int .i64 n] w fun e w' => ScPost w w' e ([], 0, 0) := by
  have hb0 : ∀ o1 o2 o3, Below w.heap.size w (((w.alloc o1).alloc o2).alloc o3) := fun o1 o2 o3 => (((Below.refl _ _).alloc (Nat.le_refl _) _).alloc (by simp) _).alloc (by simp; omega) _
  have HV := hid (fun (wx : World) (hb : Below w.heap.size w wx) => valid_i a ss c a' ws c' wx (h.below hb) (h'.below hb) hl hl' hs hs')
  have HT := hid (fun wx => there_i ss.length frm size hl hfr.1 hfr.2 wx)
  cases hok : diskOk ss ws with
  | false =>
    have hd : decide (1 ≤ n ∧ n ≤ 8) = decide (1 ≤ n ∧ n ≤ 8) := rfl
    have ht : decide (0 ≤ frm ∧ 0 ≤ size ∧ size ≤ (ss.length : Int) - frm) = decide (0 ≤ frm ∧ 0 ≤ size ∧ size ≤ (ss.length : Int) - frm) := rfl
    clear hno
    go_enter Tryz.func62, Tryz.ntmps62
    go_wp2
    refine wp_scope_straight ?_
    go_wp2_with (first | (go_at_call 59; refine (HV.out _ (hb0 _ _ _)).mono ?_; rw [hok]; rintro e w1 ⟨rfl, hb1⟩; have r6 := (((row_new' w #[.slice a ss.length c, .slice a' ws.length c'] 40 w.heap.size rfl).alloc (.cells #[.int .i64 first] 3)).alloc (.cells #[.slice none 0 0, .int .i64 0, .int .i64 0] 101)).below hb1; have rRB := (row_new' ((w.alloc (.cells #[.slice a ss.length c, .slice a' ws.length c'] 40)).alloc (.cells #[.int .i64 first] 3)) #[.slice none 0 0, .int .i64 0, .int .i64 0] 101 (w.heap.size + 1 + 1) (by simp)).below hb1; have HB := hid ((hb0 (.cells #[.slice a ss.length c, .slice a' ws.length c'] 40) (.cells #[.int .i64 first] 3) (.cells #[.slice none 0 0, .int .i64 0, .int .i64 0] 101)).trans (hb1.mono (by simp <;> omega))); have q0 := r6.cell 0 _ rfl; have ql := r6.lt; have b0 := rRB.cell 0 _ rfl; have b1 := rRB.cell 1 _ rfl; have b2 := rRB.cell 2 _ rfl; have bf0 := rRB.froz 0 (by simp); have bf1 := rRB.froz 1 (by simp); have bf2 := rRB.froz 2 (by simp); have bl := rRB.lt; clear hb1 r6 rRB) | (go_at_call 60; refine (width_i _ _).mono ?_; rw [hd]; rintro e wz ⟨rfl, hwz⟩; rw [hwz]; clear hwz wz) | (go_at_call 152; refine (HT.out _).mono ?_; rw [ht]; rintro e wz ⟨rfl, hwz⟩; rw [hwz]; clear hwz wz))
    try simp only [Exit.noGoto]
    refine bodyPost_ret (v := .agg #[.slice none 0 0, .int .i64 0, .int .i64 0]) (by simp [results, Tryz.results62, go_sem, b0, b1, b2]) rfl ?_
    exact ⟨.slice none 0 0, rfl, World.ownsRow_nil _ _ _ _, ((HB.out.setCell (by show w.heap.size ≤ w.heap.size + 1 + 1; omega) _).setCell (by show w.heap.size ≤ w.heap.size + 1 + 1; omega) _).setCell (by show w.heap.size ≤ w.heap.size + 1 + 1; omega) _⟩
  | true =>
    by_cases hn : 1 ≤ n ∧ n ≤ 8
    · have hd : decide (1 ≤ n ∧ n ≤ 8) = true := decide_eq_true hn
      have ht : decide (0 ≤ frm ∧ 0 ≤ size ∧ size ≤ (ss.length : Int) - frm) = false := decide_eq_false (fun hh => hno ⟨hok, hn, hh.1, hh.2.1, by omega, hh.2.2⟩)
      clear hno
      go_enter Tryz.func62, Tryz.ntmps62
      go_wp2
      refine wp_scope_straight ?_
      go_wp2_with (first | (go_at_call 59; refine (HV.out _ (hb0 _ _ _)).mono ?_; rw [hok]; rintro e w1 ⟨rfl, hb1⟩; have r6 := (((row_new' w #[.slice a ss.length c, .slice a' ws.length c'] 40 w.heap.size rfl).alloc (.cells #[.int .i64 first] 3)).alloc (.cells #[.slice none 0 0, .int .i64 0, .int .i64 0] 101)).below hb1; have rRB := (row_new' ((w.alloc (.cells #[.slice a ss.length c, .slice a' ws.length c'] 40)).alloc (.cells #[.int .i64 first] 3)) #[.slice none 0 0, .int .i64 0, .int .i64 0] 101 (w.heap.size + 1 + 1) (by simp)).below hb1; have HB := hid ((hb0 (.cells #[.slice a ss.length c, .slice a' ws.length c'] 40) (.cells #[.int .i64 first] 3) (.cells #[.slice none 0 0, .int .i64 0, .int .i64 0] 101)).trans (hb1.mono (by simp <;> omega))); have q0 := r6.cell 0 _ rfl; have ql := r6.lt; have b0 := rRB.cell 0 _ rfl; have b1 := rRB.cell 1 _ rfl; have b2 := rRB.cell 2 _ rfl; have bf0 := rRB.froz 0 (by simp); have bf1 := rRB.froz 1 (by simp); have bf2 := rRB.froz 2 (by simp); have bl := rRB.lt; clear hb1 r6 rRB) | (go_at_call 60; refine (width_i _ _).mono ?_; rw [hd]; rintro e wz ⟨rfl, hwz⟩; rw [hwz]; clear hwz wz) | (go_at_call 152; refine (HT.out _).mono ?_; rw [ht]; rintro e wz ⟨rfl, hwz⟩; rw [hwz]; clear hwz wz))
      try simp only [Exit.noGoto]
      refine bodyPost_ret (v := .agg #[.slice none 0 0, .int .i64 0, .int .i64 0]) (by simp [results, Tryz.results62, go_sem, b0, b1, b2]) rfl ?_
      exact ⟨.slice none 0 0, rfl, World.ownsRow_nil _ _ _ _, ((HB.out.setCell (by show w.heap.size ≤ w.heap.size + 1 + 1; omega) _).setCell (by show w.heap.size ≤ w.heap.size + 1 + 1; omega) _).setCell (by show w.heap.size ≤ w.heap.size + 1 + 1; omega) _⟩
    · have hd : decide (1 ≤ n ∧ n ≤ 8) = false := decide_eq_false hn
      have ht : decide (0 ≤ frm ∧ 0 ≤ size ∧ size ≤ (ss.length : Int) - frm) = decide (0 ≤ frm ∧ 0 ≤ size ∧ size ≤ (ss.length : Int) - frm) := rfl
      clear hno
      go_enter Tryz.func62, Tryz.ntmps62
      go_wp2
      refine wp_scope_straight ?_
      go_wp2_with (first | (go_at_call 59; refine (HV.out _ (hb0 _ _ _)).mono ?_; rw [hok]; rintro e w1 ⟨rfl, hb1⟩; have r6 := (((row_new' w #[.slice a ss.length c, .slice a' ws.length c'] 40 w.heap.size rfl).alloc (.cells #[.int .i64 first] 3)).alloc (.cells #[.slice none 0 0, .int .i64 0, .int .i64 0] 101)).below hb1; have rRB := (row_new' ((w.alloc (.cells #[.slice a ss.length c, .slice a' ws.length c'] 40)).alloc (.cells #[.int .i64 first] 3)) #[.slice none 0 0, .int .i64 0, .int .i64 0] 101 (w.heap.size + 1 + 1) (by simp)).below hb1; have HB := hid ((hb0 (.cells #[.slice a ss.length c, .slice a' ws.length c'] 40) (.cells #[.int .i64 first] 3) (.cells #[.slice none 0 0, .int .i64 0, .int .i64 0] 101)).trans (hb1.mono (by simp <;> omega))); have q0 := r6.cell 0 _ rfl; have ql := r6.lt; have b0 := rRB.cell 0 _ rfl; have b1 := rRB.cell 1 _ rfl; have b2 := rRB.cell 2 _ rfl; have bf0 := rRB.froz 0 (by simp); have bf1 := rRB.froz 1 (by simp); have bf2 := rRB.froz 2 (by simp); have bl := rRB.lt; clear hb1 r6 rRB) | (go_at_call 60; refine (width_i _ _).mono ?_; rw [hd]; rintro e wz ⟨rfl, hwz⟩; rw [hwz]; clear hwz wz) | (go_at_call 152; refine (HT.out _).mono ?_; rw [ht]; rintro e wz ⟨rfl, hwz⟩; rw [hwz]; clear hwz wz))
      try simp only [Exit.noGoto]
      refine bodyPost_ret (v := .agg #[.slice none 0 0, .int .i64 0, .int .i64 0]) (by simp [results, Tryz.results62, go_sem, b0, b1, b2]) rfl ?_
      exact ⟨.slice none 0 0, rfl, World.ownsRow_nil _ _ _ _, ((HB.out.setCell (by show w.heap.size ≤ w.heap.size + 1 + 1; omega) _).setCell (by show w.heap.size ≤ w.heap.size + 1 + 1; omega) _).setCell (by show w.heap.size ≤ w.heap.size + 1 + 1; omega) _⟩
theorem scan_i (a : Option Addr) (ss : List ByteArray) (c : Nat) (a' : Option Addr) (ws : List (Int × ByteArray)) (c' : Nat) (frm size first life n : Int) (w : World) (h : Strs w a ss) (h' : Wrs w a' ws) (hl : ss.length ≤ 1048576) (hl' : ws.length ≤ 1048576) (hs : ∀ s ∈ ss, s.size ≤ 1048576) (hs' : ∀ x ∈ ws, x.2.size ≤ 1048576) (hfr : -9223372036854775808 ≤ frm ∧ frm ≤ 9223372036854775807) (hfi : -9223372036854775808 ≤ first ∧ first ≤ 9223372036854775807)
    (ty : TypeId) (v : Value) (hv : w.cell? ⟨1, 0, none⟩ = some (.iface ty v)) (h0 : w.cell? ⟨0, 0, none⟩ = some (.iface 332 (.agg #[.pointer (some ⟨3, 215, none⟩)]))) (hg : 1 < w.heap.size) :
    Calls Tryz.prog 62 #[diskV a ss.length c a' ws.length c', .int .i64 frm, .int .i64 size, .int .i64 first, .int .i64 life, .int .i64 n] w fun e w' => ScPost w w' e (scD ss ws frm size first life n) := by
  by_cases hyes : scOk ss ws frm size n
  · exact scan_i_yes a ss c a' ws c' frm size first life n w h h' hl hl' hs hs' hfi ty v hv h0 hg hyes
  · have e : scD ss ws frm size first life n = ([], 0, 0) := by unfold scD; rw [if_neg hyes]
    rw [e]
    exact scan_i_no a ss c a' ws c' frm size first life n w h h' hl hl' hs hs' hfr hyes
end Go.Proofs.YtnmaknnnmjfhkagGreatDoor
