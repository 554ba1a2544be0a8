import Derived.Test.YtnmaknnnmjfhkaeDoorQxScanScM
namespace Go.Proofs.YtnmaknnnmjfhkaeDoor
open Go.RowKit
set_option maxRecDepth 8000
set_option linter.unusedVariables false
set_option linter.unusedSimpArgs false

set_option maxHeartbeats 8000000 in
theorem scan_i_no (a : Option Addr) (ss : List ByteArray) (c : Nat) (a' : Option Addr) (ws : List (Int × ByteArray)) (c' : Nat) (frm size first life n : Int) (w : World) (h : Strs w a ss) (h' : Wrs w a' ws) (hl : ss.length ≤ 1048576) (hl' : ws.length ≤ 1048576) (hs : ∀ s ∈ ss, s.size ≤ 1048576) (hs' : ∀ x ∈ ws, x.2.size ≤ 1048576) (hfr : -9223372036854775808 ≤ frm ∧ frm ≤ 9223372036854775807) (hno : ¬ scOk ss ws frm size n) :
    Calls Tryd.prog 14 #[diskV a ss.length c a' ws.length c', .int .i64 frm, .int .i64 size, .int .i64 first, .int .i64 life, .int .i64 n] w fun e w' => ScPost w w' e ([], 0, 0) := by
  have hb0 : ∀ o1 o2 o3, Below w.heap.size w (((w.alloc o1).alloc o2).alloc o3) := fun o1 o2 o3 => (((Below.refl _ _).alloc (Nat.le_refl _) _).alloc (by simp) _).alloc (by simp; omega) _
  have HV := hid (fun (wx : World) (hb : Below w.heap.size w wx) => valid_i a ss c a' ws c' wx (h.below hb) (h'.below hb) hl hl' hs hs')
  have HT := hid (fun wx => there_i ss.length frm size hl hfr.1 hfr.2 wx)
  cases hok : diskOk ss ws with
  | false =>
    have hd : decide (1 ≤ n ∧ n ≤ 8) = decide (1 ≤ n ∧ n ≤ 8) := rfl
    have ht : decide (0 ≤ frm ∧ 0 ≤ size ∧ size ≤ (ss.length : Int) - frm) = decide (0 ≤ frm ∧ 0 ≤ size ∧ size ≤ (ss.length : Int) - frm) := rfl
    clear hno
    go_enter Tryd.func14, Tryd.ntmps14
    go_wp2
    refine wp_scope_straight ?_
    go_wp2_with (first | (go_at_call 40; refine (HV.out _ (hb0 _ _ _)).mono ?_; rw [hok]; rintro e w1 ⟨rfl, hb1⟩; have r6 := (((row_new' w #[.slice a ss.length c, .slice a' ws.length c'] 31 w.heap.size rfl).alloc (.cells #[.int .i64 first] 3)).alloc (.cells #[.slice none 0 0, .int .i64 0, .int .i64 0] 38)).below hb1; have rRB := (row_new' ((w.alloc (.cells #[.slice a ss.length c, .slice a' ws.length c'] 31)).alloc (.cells #[.int .i64 first] 3)) #[.slice none 0 0, .int .i64 0, .int .i64 0] 38 (w.heap.size + 1 + 1) (by simp)).below hb1; have HB := hid ((hb0 (.cells #[.slice a ss.length c, .slice a' ws.length c'] 31) (.cells #[.int .i64 first] 3) (.cells #[.slice none 0 0, .int .i64 0, .int .i64 0] 38)).trans (hb1.mono (by simp <;> omega))); have q0 := r6.cell 0 _ rfl; have ql := r6.lt; have b0 := rRB.cell 0 _ rfl; have b1 := rRB.cell 1 _ rfl; have b2 := rRB.cell 2 _ rfl; have bf0 := rRB.froz 0 (by simp); have bf1 := rRB.froz 1 (by simp); have bf2 := rRB.froz 2 (by simp); have bl := rRB.lt; clear hb1 r6 rRB) | (go_at_call 37; refine (width_i _ _).mono ?_; rw [hd]; rintro e wz ⟨rfl, hwz⟩; rw [hwz]; clear hwz wz) | (go_at_call 43; refine (HT.out _).mono ?_; rw [ht]; rintro e wz ⟨rfl, hwz⟩; rw [hwz]; clear hwz wz))
    try simp only [Exit.noGoto]
    refine bodyPost_ret (v := .agg #[.slice none 0 0, .int .i64 0, .int .i64 0]) (by simp [results, Tryd.results14, go_sem, b0, b1, b2]) rfl ?_
    exact ⟨.slice none 0 0, rfl, World.ownsRow_nil _ _ _ _, ((HB.out.setCell (by show w.heap.size ≤ w.heap.size + 1 + 1; omega) _).setCell (by show w.heap.size ≤ w.heap.size + 1 + 1; omega) _).setCell (by show w.heap.size ≤ w.heap.size + 1 + 1; omega) _⟩
  | true =>
    by_cases hn : 1 ≤ n ∧ n ≤ 8
    · have hd : decide (1 ≤ n ∧ n ≤ 8) = true := decide_eq_true hn
      have ht : decide (0 ≤ frm ∧ 0 ≤ size ∧ size ≤ (ss.length : Int) - frm) = false := decide_eq_false (fun hh => hno ⟨hok, hn, hh.1, hh.2.1, by omega, hh.2.2⟩)
      clear hno
      go_enter Tryd.func14, Tryd.ntmps14
      go_wp2
      refine wp_scope_straight ?_
      go_wp2_with (first | (go_at_call 40; refine (HV.out _ (hb0 _ _ _)).mono ?_; rw [hok]; rintro e w1 ⟨rfl, hb1⟩; have r6 := (((row_new' w #[.slice a ss.length c, .slice a' ws.length c'] 31 w.heap.size rfl).alloc (.cells #[.int .i64 first] 3)).alloc (.cells #[.slice none 0 0, .int .i64 0, .int .i64 0] 38)).below hb1; have rRB := (row_new' ((w.alloc (.cells #[.slice a ss.length c, .slice a' ws.length c'] 31)).alloc (.cells #[.int .i64 first] 3)) #[.slice none 0 0, .int .i64 0, .int .i64 0] 38 (w.heap.size + 1 + 1) (by simp)).below hb1; have HB := hid ((hb0 (.cells #[.slice a ss.length c, .slice a' ws.length c'] 31) (.cells #[.int .i64 first] 3) (.cells #[.slice none 0 0, .int .i64 0, .int .i64 0] 38)).trans (hb1.mono (by simp <;> omega))); have q0 := r6.cell 0 _ rfl; have ql := r6.lt; have b0 := rRB.cell 0 _ rfl; have b1 := rRB.cell 1 _ rfl; have b2 := rRB.cell 2 _ rfl; have bf0 := rRB.froz 0 (by simp); have bf1 := rRB.froz 1 (by simp); have bf2 := rRB.froz 2 (by simp); have bl := rRB.lt; clear hb1 r6 rRB) | (go_at_call 37; refine (width_i _ _).mono ?_; rw [hd]; rintro e wz ⟨rfl, hwz⟩; rw [hwz]; clear hwz wz) | (go_at_call 43; refine (HT.out _).mono ?_; rw [ht]; rintro e wz ⟨rfl, hwz⟩; rw [hwz]; clear hwz wz))
      try simp only [Exit.noGoto]
      refine bodyPost_ret (v := .agg #[.slice none 0 0, .int .i64 0, .int .i64 0]) (by simp [results, Tryd.results14, go_sem, b0, b1, b2]) rfl ?_
      exact ⟨.slice none 0 0, rfl, World.ownsRow_nil _ _ _ _, ((HB.out.setCell (by show w.heap.size ≤ w.heap.size + 1 + 1; omega) _).setCell (by show w.heap.size ≤ w.heap.size + 1 + 1; omega) _).setCell (by show w.heap.size ≤ w.heap.size + 1 + 1; omega) _⟩
    · have hd : decide (1 ≤ n ∧ n ≤ 8) = false := decide_eq_false hn
      have ht : decide (0 ≤ frm ∧ 0 ≤ size ∧ size ≤ (ss.length : Int) - frm) = decide (0 ≤ frm ∧ 0 ≤ size ∧ size ≤ (ss.length : Int) - frm) := rfl
      clear hno
      go_enter Tryd.func14, Tryd.ntmps14
      go_wp2
      refine wp_scope_straight ?_
      go_wp2_with (first | (go_at_call 40; refine (HV.out _ (hb0 _ _ _)).mono ?_; rw [hok]; rintro e w1 ⟨rfl, hb1⟩; have r6 := (((row_new' w #[.slice a ss.length c, .slice a' ws.length c'] 31 w.heap.size rfl).alloc (.cells #[.int .i64 first] 3)).alloc (.cells #[.slice none 0 0, .int .i64 0, .int .i64 0] 38)).below hb1; have rRB := (row_new' ((w.alloc (.cells #[.slice a ss.length c, .slice a' ws.length c'] 31)).alloc (.cells #[.int .i64 first] 3)) #[.slice none 0 0, .int .i64 0, .int .i64 0] 38 (w.heap.size + 1 + 1) (by simp)).below hb1; have HB := hid ((hb0 (.cells #[.slice a ss.length c, .slice a' ws.length c'] 31) (.cells #[.int .i64 first] 3) (.cells #[.slice none 0 0, .int .i64 0, .int .i64 0] 38)).trans (hb1.mono (by simp <;> omega))); have q0 := r6.cell 0 _ rfl; have ql := r6.lt; have b0 := rRB.cell 0 _ rfl; have b1 := rRB.cell 1 _ rfl; have b2 := rRB.cell 2 _ rfl; have bf0 := rRB.froz 0 (by simp); have bf1 := rRB.froz 1 (by simp); have bf2 := rRB.froz 2 (by simp); have bl := rRB.lt; clear hb1 r6 rRB) | (go_at_call 37; refine (width_i _ _).mono ?_; rw [hd]; rintro e wz ⟨rfl, hwz⟩; rw [hwz]; clear hwz wz) | (go_at_call 43; refine (HT.out _).mono ?_; rw [ht]; rintro e wz ⟨rfl, hwz⟩; rw [hwz]; clear hwz wz))
      try simp only [Exit.noGoto]
      refine bodyPost_ret (v := .agg #[.slice none 0 0, .int .i64 0, .int .i64 0]) (by simp [results, Tryd.results14, go_sem, b0, b1, b2]) rfl ?_
      exact ⟨.slice none 0 0, rfl, World.ownsRow_nil _ _ _ _, ((HB.out.setCell (by show w.heap.size ≤ w.heap.size + 1 + 1; omega) _).setCell (by show w.heap.size ≤ w.heap.size + 1 + 1; omega) _).setCell (by show w.heap.size ≤ w.heap.size + 1 + 1; omega) _⟩
theorem scan_i (a : Option Addr) (ss : List ByteArray) (c : Nat) (a' : Option Addr) (ws : List (Int × ByteArray)) (c' : Nat) (frm size first life n : Int) (w : World) (h : Strs w a ss) (h' : Wrs w a' ws) (hl : ss.length ≤ 1048576) (hl' : ws.length ≤ 1048576) (hs : ∀ s ∈ ss, s.size ≤ 1048576) (hs' : ∀ x ∈ ws, x.2.size ≤ 1048576) (hfr : -9223372036854775808 ≤ frm ∧ frm ≤ 9223372036854775807) (hfi : -9223372036854775808 ≤ first ∧ first ≤ 9223372036854775807)
    (ty : TypeId) (v : Value) (hv : w.cell? ⟨1, 0, none⟩ = some (.iface ty v)) (h0 : w.cell? ⟨0, 0, none⟩ = some (.iface 177 (.agg #[.pointer (some ⟨2, 91, none⟩)]))) (hg : 1 < w.heap.size) :
    Calls Tryd.prog 14 #[diskV a ss.length c a' ws.length c', .int .i64 frm, .int .i64 size, .int .i64 first, .int .i64 life, .int .i64 n] w fun e w' => ScPost w w' e (scD ss ws frm size first life n) := by
  by_cases hyes : scOk ss ws frm size n
  · exact scan_i_yes a ss c a' ws c' frm size first life n w h h' hl hl' hs hs' hfi ty v hv h0 hg hyes
  · have e : scD ss ws frm size first life n = ([], 0, 0) := by unfold scD; rw [if_neg hyes]
    rw [e]
    exact scan_i_no a ss c a' ws c' frm size first life n w h h' hl hl' hs hs' hfr hyes
end Go.Proofs.YtnmaknnnmjfhkaeDoor
