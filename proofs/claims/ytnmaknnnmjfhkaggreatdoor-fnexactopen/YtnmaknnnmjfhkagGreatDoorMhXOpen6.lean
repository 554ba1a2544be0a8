import Derived.Test.YtnmaknnnmjfhkagGreatDoorMhXOpen5
import Derived.Test.YtnmaknnnmjfhkagGreatDoorQhxOpenApU
import Derived.Test.YtnmaknnnmjfhkagGreatDoorMhXOpen3
import Derived.Test.YtnmaknnnmjfhkagGreatDoorQhxOpenScM
import Derived.Test.YtnmaknnnmjfhkagGreatDoorMhXOpen2
import Derived.Test.YtnmaknnnmjfhkagGreatDoorQhxOpenStO
import Derived.Test.YtnmaknnnmjfhkagGreatDoorMhXOpen0

set_option maxHeartbeats 16000000
set_option maxRecDepth 8000
namespace Go.Proofs.YtnmaknnnmjfhkagGreatDoor
open Go.RowKit
set_option maxRecDepth 8000
set_option linter.unusedVariables false
set_option linter.unusedSimpArgs false


set_option maxHeartbeats 16000000 in
theorem fold_i (a : Option Addr) (es : List ByteArray) (c : Nat) (w : World) (h : Strs w a es) (hl : es.length ≤ 1000) (hs : ∀ e ∈ es, e.size ≤ 1048576) :
    Calls Tryz.prog 65 #[.slice a es.length c] w fun e w' => FdPost w w' e (foldE es []) := by
  obtain ⟨RES, HRES⟩ : ∃ RES, Hid (RES = foldE es []) := ⟨_, hid rfl⟩
  rw [← HRES.out]
  have HH := hid h
  have HS := hid hs
  clear h hs
  go_enter Tryz.func65, Tryz.ntmps65
  go_wp2
  go_loopw [13] (fun iv wr => ∃ (i : Nat) (rs : List Pr) (sa : Option Addr) (sc : Nat) (W : World), W = wr ∧ iv = .int .i64 (i : Int) ∧ i ≤ es.length ∧ stateOk rs = true ∧ Hid (foldE (es.drop i) rs = RES) ∧ FdB w W rs sa sc) (fun iv _ => ((es.length : Int) - intOf iv).toNat)
  case atStart => exact ⟨0, [], none, 0, _, rfl, rfl, Nat.zero_le _, stateOk_nil, by show _ = _; rw [HRES.out]; rfl, FdB.new w⟩
  case round =>
    obtain ⟨i, rs, sa, sc, wr, rfl, rfl, hi, hok, HF, D⟩ := hrel
    have HD := hid D
    have d1 := D.st.cell 0 _ rfl
    have d1l := D.st.lt
    have d0 := D.rb.cell 0 _ rfl
    have d0l := D.rb.lt
    have d0f := D.rb.froz 0 (by simp)
    have hok' := stateOk_sizes hok
    have hrl := hok'.1
    have HOK := hid hok
    have HSZ := hid hok'.2
    clear hok hok' D
    by_cases hlt : i < es.length
    · have hlt' : (i : Int) < (es.length : Int) := by omega
      have hi0 : (0 : Int) ≤ (i : Int) := by omega
      have hw1 : IntKind.i64.wrap ((i : Int) + 1) = (i : Int) + 1 := by simp [IntKind.wrap, IntKind.bits, IntKind.signed]; omega
      obtain ⟨b, o, s, rfl, hc, HE⟩ := (HH.out.below HD.out.be).at hlt
      have hes : s.size ≤ 1048576 := HS.out s (by rw [HE.out]; simp [List.getD, hlt])
      have hdr : es.drop i = s :: es.drop (i + 1) := by rw [HE.out]; simp [List.getD, hlt]
      have hbl : b < wr.heap.size := by have := World.block_lt_of_cell? wr _ hc; simpa using this
      have HRB := hid (fun wx => read_i s wx hes)
      rw [res_eq] at HRB
      rw [hdr] at HF
      have HDR := hid hdr
      clear hdr
      cases hR : resS s with
      | none =>
        rw [hR] at HRB
        have HN : Hid (RES = none) := by show _ = _; rw [← HF.out]; exact foldE_none hR
        clear hR
        go_wp2_with fail
        refine (HRB.out _).mono ?_
        rintro e w5 ⟨ab, cb, rfl, _, _, hb5⟩
        simp only [Option.getD_none, Option.isSome_none, List.length_nil]
        have D5 := HD.out.below hb5
        have HD5 := hid D5
        have r0 := D5.rb.cell 0 _ rfl
        have r0l := D5.rb.lt
        have r0f := D5.rb.froz 0 (by simp)
        clear d1 d1l d0 d0l d0f D5 hb5 hc
        go_wp2
        refine bodyPost_ret (v := .tuple #[stV none 0 0, .bool false]) (by simp [results, Tryz.results65, go_sem, r0, stV]) rfl ?_
        rw [HN.out]
        exact ⟨none, 0, rfl, Nat.le_refl _, .inl rfl, fun g hg => (by cases hg), HD5.out.be.setCell (by show w.heap.size ≤ w.heap.size; omega) _⟩
      | some bb =>
        rw [hR] at HRB
        have hbs := batchOk_sizes (resS_ok hR)
        have HBS := hid hbs.2
        have hbl2 := hbs.1
        clear hbs
        by_cases hc0 : apC rs bb = 0
        · have HN : Hid (foldE (es.drop (i + 1)) (apU rs bb) = RES) := by show _ = _; rw [← HF.out]; exact (foldE_yes hR hc0).symm
          have hU : apR rs bb = apU rs bb := by unfold apR; rw [if_pos hc0]
          have HOU := hid (apU_ok hc0)
          clear hR
          go_wp2_with fail
          refine (HRB.out _).mono ?_
          rintro e w5 ⟨ab, cb, rfl, ho5, hg5, hb5⟩
          simp only [Option.getD_some, Option.isSome_some] at ho5 hg5 ⊢
          have D5 := HD.out.below hb5
          have HD5 := hid D5
          have r1 := D5.st.cell 0 _ rfl
          have r1l := D5.st.lt
          have HAP := hid (apply_i sa rs sc ab bb cb w5 D5.own.prs (by omega) HSZ.out (ownS_chs ho5) (by omega) HBS.out)
          rw [hU, hc0] at HAP
          clear d1 d1l d0 d0l d0f D5 hb5 hc ho5 hg5
          go_wp2_with fail
          refine HAP.out.mono ?_
          rintro e w6 ⟨a6, c6, rfl, hc6, ho6, hg6, hb6⟩
          have D6 := (HD5.out.below hb6).below (below_new w6 (.cells #[.slice a6 (apU rs bb).length c6] 31))
          have HD6 := hid (D6.set ho6 hc6 (fun g hg => by have := hg6 g hg; omega))
          have x1 := D6.st.cell 0 _ rfl
          have x1f := D6.st.froz 0 (by simp)
          have x1l := D6.st.lt
          have x6 : w6.heap.size ≠ w.heap.size + 1 := by have := (HD5.out.below hb6).st.lt; omega
          clear r1 r1l D6 hb6 ho6 hg6 hc0 hU
          go_wp2
          exact ⟨⟨i + 1, _, a6, c6, _, rfl, by simp, by omega, HOU.out, HN, HD6.out⟩, by simp [intOf]; omega⟩
        · have HN : Hid (RES = none) := by show _ = _; rw [← HF.out]; exact foldE_no hR hc0
          have hU : apR rs bb = [] := by unfold apR; rw [if_neg hc0]
          have hcb : (apC rs bb == 0) = false := by simp [hc0]
          have hcb2 : (apC rs bb != 0) = true := by simp [hc0]
          clear hR
          go_wp2_with fail
          refine (HRB.out _).mono ?_
          rintro e w5 ⟨ab, cb, rfl, ho5, hg5, hb5⟩
          simp only [Option.getD_some, Option.isSome_some] at ho5 hg5 ⊢
          have D5 := HD.out.below hb5
          have HD5 := hid D5
          have r1 := D5.st.cell 0 _ rfl
          have r1l := D5.st.lt
          have HAP := hid (apply_i sa rs sc ab bb cb w5 D5.own.prs (by omega) HSZ.out (ownS_chs ho5) (by omega) HBS.out)
          rw [hU] at HAP
          clear d1 d1l d0 d0l d0f D5 hb5 hc ho5 hg5 hU
          go_wp2_with fail
          refine HAP.out.mono ?_
          rintro e w6 ⟨a6, c6, rfl, hc6, ho6, hg6, hb6⟩
          have D6 := (HD5.out.below hb6).below (below_new w6 (.cells #[.slice a6 0 c6] 31))
          have HD6 := hid D6
          have r0 := D6.rb.cell 0 _ rfl
          have r0l := D6.rb.lt
          have r0f := D6.rb.froz 0 (by simp)
          clear r1 r1l D6 hb6 ho6 hg6
          go_wp2
          refine bodyPost_ret (v := .tuple #[stV none 0 0, .bool false]) (by simp [results, Tryz.results65, go_sem, r0, stV]) rfl ?_
          rw [HN.out]
          exact ⟨none, 0, rfl, Nat.le_refl _, .inl rfl, fun g hg => (by cases hg), HD6.out.be.setCell (by show w.heap.size ≤ w.heap.size; omega) _⟩
    · have HN : Hid (RES = some rs) := by show _ = _; rw [← HF.out, List.drop_of_length_le (by omega)]; rfl
      have hlt' : ¬ ((i : Int) < (es.length : Int)) := by omega
      have hne : ¬ (w.heap.size = w.heap.size + 1) := by omega
      go_wp2
      refine bodyPost_ret (v := .tuple #[stV sa rs.length sc, .bool true]) (by simp [results, Tryz.results65, go_sem, d0, stV]) rfl ?_
      rw [HN.out]
      refine ⟨sa, sc, rfl, HD.out.cap, OwnS.setF HD.out.own ⟨w.heap.size, 0, none⟩ (fun g hg hn => ?_) _, fun g hg => by have := HD.out.lo g hg; omega, HD.out.be.setCell (by show w.heap.size ≤ w.heap.size; omega) _⟩
      have := HD.out.lo g (by subst hg; exact blk_pos _ _ _ (prcells_neF hn))
      show w.heap.size ≠ g
      omega
end Go.Proofs.YtnmaknnnmjfhkagGreatDoor

namespace Go.Proofs.YtnmaknnnmjfhkagGreatDoor
open Go.RowKit
set_option maxRecDepth 8000
set_option linter.unusedVariables false
set_option linter.unusedSimpArgs false

set_option maxHeartbeats 16000000 in
theorem scan_i_no (a : Option Addr) (ss : List ByteArray) (c : Nat) (a' : Option Addr) (ws : List (Int × ByteArray)) (c' : Nat) (frm size first life n : Int) (w : World) (h : Strs w a ss) (h' : Wrs w a' ws) (hl : ss.length ≤ 1048576) (hl' : ws.length ≤ 1048576) (hs : ∀ s ∈ ss, s.size ≤ 1048576) (hs' : ∀ x ∈ ws, x.2.size ≤ 1048576) (hfr : -9223372036854775808 ≤ frm ∧ frm ≤ 9223372036854775807) (hno : ¬ scOk ss ws frm size n) :
    Calls Tryz.prog 62 #[diskV a ss.length c a' ws.length c', .int .i64 frm, .int .i64 size, .int .i64 first, .int .i64 life, .int .i64 n] w fun e w' => ScPost w w' e ([], 0, 0) := by
  have hb0 : ∀ o1 o2 o3, Below w.heap.size w (((w.alloc o1).alloc o2).alloc o3) := fun o1 o2 o3 => (((Below.refl _ _).alloc (Nat.le_refl _) _).alloc (by simp) _).alloc (by simp; omega) _
  have HV := hid (fun (wx : World) (hb : Below w.heap.size w wx) => valid_i a ss c a' ws c' wx (h.below hb) (h'.below hb) hl hl' hs hs')
  have HT := hid (fun wx => there_i ss.length frm size hl hfr.1 hfr.2 wx)
  cases hok : diskOk ss ws with
  | false =>
    have hd : decide (1 ≤ n ∧ n ≤ 8) = decide (1 ≤ n ∧ n ≤ 8) := rfl
    have ht : decide (0 ≤ frm ∧ 0 ≤ size ∧ size ≤ (ss.length : Int) - frm) = decide (0 ≤ frm ∧ 0 ≤ size ∧ size ≤ (ss.length : Int) - frm) := rfl
    clear hno
    go_enter Tryz.func62, Tryz.ntmps62
    go_wp2
    refine wp_scope_straight ?_
    go_wp2_with (first | (go_at_call 59; refine (HV.out _ (hb0 _ _ _)).mono ?_; rw [hok]; rintro e w1 ⟨rfl, hb1⟩; have r6 := (((row_new' w #[.slice a ss.length c, .slice a' ws.length c'] 40 w.heap.size rfl).alloc (.cells #[.int .i64 first] 3)).alloc (.cells #[.slice none 0 0, .int .i64 0, .int .i64 0] 101)).below hb1; have rRB := (row_new' ((w.alloc (.cells #[.slice a ss.length c, .slice a' ws.length c'] 40)).alloc (.cells #[.int .i64 first] 3)) #[.slice none 0 0, .int .i64 0, .int .i64 0] 101 (w.heap.size + 1 + 1) (by simp)).below hb1; have HB := hid ((hb0 (.cells #[.slice a ss.length c, .slice a' ws.length c'] 40) (.cells #[.int .i64 first] 3) (.cells #[.slice none 0 0, .int .i64 0, .int .i64 0] 101)).trans (hb1.mono (by simp <;> omega))); have q0 := r6.cell 0 _ rfl; have ql := r6.lt; have b0 := rRB.cell 0 _ rfl; have b1 := rRB.cell 1 _ rfl; have b2 := rRB.cell 2 _ rfl; have bf0 := rRB.froz 0 (by simp); have bf1 := rRB.froz 1 (by simp); have bf2 := rRB.froz 2 (by simp); have bl := rRB.lt; clear hb1 r6 rRB) | (go_at_call 60; refine (width_i _ _).mono ?_; rw [hd]; rintro e wz ⟨rfl, hwz⟩; rw [hwz]; clear hwz wz) | (go_at_call 152; refine (HT.out _).mono ?_; rw [ht]; rintro e wz ⟨rfl, hwz⟩; rw [hwz]; clear hwz wz))
    try simp only [Exit.noGoto]
    refine bodyPost_ret (v := .agg #[.slice none 0 0, .int .i64 0, .int .i64 0]) (by simp [results, Tryz.results62, go_sem, b0, b1, b2]) rfl ?_
    exact ⟨.slice none 0 0, rfl, World.ownsRow_nil _ _ _ _, ((HB.out.setCell (by show w.heap.size ≤ w.heap.size + 1 + 1; omega) _).setCell (by show w.heap.size ≤ w.heap.size + 1 + 1; omega) _).setCell (by show w.heap.size ≤ w.heap.size + 1 + 1; omega) _⟩
  | true =>
    by_cases hn : 1 ≤ n ∧ n ≤ 8
    · have hd : decide (1 ≤ n ∧ n ≤ 8) = true := decide_eq_true hn
      have ht : decide (0 ≤ frm ∧ 0 ≤ size ∧ size ≤ (ss.length : Int) - frm) = false := decide_eq_false (fun hh => hno ⟨hok, hn, hh.1, hh.2.1, by omega, hh.2.2⟩)
      clear hno
      go_enter Tryz.func62, Tryz.ntmps62
      go_wp2
      refine wp_scope_straight ?_
      go_wp2_with (first | (go_at_call 59; refine (HV.out _ (hb0 _ _ _)).mono ?_; rw [hok]; rintro e w1 ⟨rfl, hb1⟩; have r6 := (((row_new' w #[.slice a ss.length c, .slice a' ws.length c'] 40 w.heap.size rfl).alloc (.cells #[.int .i64 first] 3)).alloc (.cells #[.slice none 0 0, .int .i64 0, .int .i64 0] 101)).below hb1; have rRB := (row_new' ((w.alloc (.cells #[.slice a ss.length c, .slice a' ws.length c'] 40)).alloc (.cells #[.int .i64 first] 3)) #[.slice none 0 0, .int .i64 0, .int .i64 0] 101 (w.heap.size + 1 + 1) (by simp)).below hb1; have HB := hid ((hb0 (.cells #[.slice a ss.length c, .slice a' ws.length c'] 40) (.cells #[.int .i64 first] 3) (.cells #[.slice none 0 0, .int .i64 0, .int .i64 0] 101)).trans (hb1.mono (by simp <;> omega))); have q0 := r6.cell 0 _ rfl; have ql := r6.lt; have b0 := rRB.cell 0 _ rfl; have b1 := rRB.cell 1 _ rfl; have b2 := rRB.cell 2 _ rfl; have bf0 := rRB.froz 0 (by simp); have bf1 := rRB.froz 1 (by simp); have bf2 := rRB.froz 2 (by simp); have bl := rRB.lt; clear hb1 r6 rRB) | (go_at_call 60; refine (width_i _ _).mono ?_; rw [hd]; rintro e wz ⟨rfl, hwz⟩; rw [hwz]; clear hwz wz) | (go_at_call 152; refine (HT.out _).mono ?_; rw [ht]; rintro e wz ⟨rfl, hwz⟩; rw [hwz]; clear hwz wz))
      try simp only [Exit.noGoto]
      refine bodyPost_ret (v := .agg #[.slice none 0 0, .int .i64 0, .int .i64 0]) (by simp [results, Tryz.results62, go_sem, b0, b1, b2]) rfl ?_
      exact ⟨.slice none 0 0, rfl, World.ownsRow_nil _ _ _ _, ((HB.out.setCell (by show w.heap.size ≤ w.heap.size + 1 + 1; omega) _).setCell (by show w.heap.size ≤ w.heap.size + 1 + 1; omega) _).setCell (by show w.heap.size ≤ w.heap.size + 1 + 1; omega) _⟩
    · have hd : decide (1 ≤ n ∧ n ≤ 8) = false := decide_eq_false hn
      have ht : decide (0 ≤ frm ∧ 0 ≤ size ∧ size ≤ (ss.length : Int) - frm) = decide (0 ≤ frm ∧ 0 ≤ size ∧ size ≤ (ss.length : Int) - frm) := rfl
      clear hno
      go_enter Tryz.func62, Tryz.ntmps62
      go_wp2
      refine wp_scope_straight ?_
      go_wp2_with (first | (go_at_call 59; refine (HV.out _ (hb0 _ _ _)).mono ?_; rw [hok]; rintro e w1 ⟨rfl, hb1⟩; have r6 := (((row_new' w #[.slice a ss.length c, .slice a' ws.length c'] 40 w.heap.size rfl).alloc (.cells #[.int .i64 first] 3)).alloc (.cells #[.slice none 0 0, .int .i64 0, .int .i64 0] 101)).below hb1; have rRB := (row_new' ((w.alloc (.cells #[.slice a ss.length c, .slice a' ws.length c'] 40)).alloc (.cells #[.int .i64 first] 3)) #[.slice none 0 0, .int .i64 0, .int .i64 0] 101 (w.heap.size + 1 + 1) (by simp)).below hb1; have HB := hid ((hb0 (.cells #[.slice a ss.length c, .slice a' ws.length c'] 40) (.cells #[.int .i64 first] 3) (.cells #[.slice none 0 0, .int .i64 0, .int .i64 0] 101)).trans (hb1.mono (by simp <;> omega))); have q0 := r6.cell 0 _ rfl; have ql := r6.lt; have b0 := rRB.cell 0 _ rfl; have b1 := rRB.cell 1 _ rfl; have b2 := rRB.cell 2 _ rfl; have bf0 := rRB.froz 0 (by simp); have bf1 := rRB.froz 1 (by simp); have bf2 := rRB.froz 2 (by simp); have bl := rRB.lt; clear hb1 r6 rRB) | (go_at_call 60; refine (width_i _ _).mono ?_; rw [hd]; rintro e wz ⟨rfl, hwz⟩; rw [hwz]; clear hwz wz) | (go_at_call 152; refine (HT.out _).mono ?_; rw [ht]; rintro e wz ⟨rfl, hwz⟩; rw [hwz]; clear hwz wz))
      try simp only [Exit.noGoto]
      refine bodyPost_ret (v := .agg #[.slice none 0 0, .int .i64 0, .int .i64 0]) (by simp [results, Tryz.results62, go_sem, b0, b1, b2]) rfl ?_
      exact ⟨.slice none 0 0, rfl, World.ownsRow_nil _ _ _ _, ((HB.out.setCell (by show w.heap.size ≤ w.heap.size + 1 + 1; omega) _).setCell (by show w.heap.size ≤ w.heap.size + 1 + 1; omega) _).setCell (by show w.heap.size ≤ w.heap.size + 1 + 1; omega) _⟩
theorem scan_i (a : Option Addr) (ss : List ByteArray) (c : Nat) (a' : Option Addr) (ws : List (Int × ByteArray)) (c' : Nat) (frm size first life n : Int) (w : World) (h : Strs w a ss) (h' : Wrs w a' ws) (hl : ss.length ≤ 1048576) (hl' : ws.length ≤ 1048576) (hs : ∀ s ∈ ss, s.size ≤ 1048576) (hs' : ∀ x ∈ ws, x.2.size ≤ 1048576) (hfr : -9223372036854775808 ≤ frm ∧ frm ≤ 9223372036854775807) (hfi : -9223372036854775808 ≤ first ∧ first ≤ 9223372036854775807)
    (ty : TypeId) (v : Value) (hv : w.cell? ⟨1, 0, none⟩ = some (.iface ty v)) (h0 : w.cell? ⟨0, 0, none⟩ = some (.iface 332 (.agg #[.pointer (some ⟨3, 215, none⟩)]))) (hg : 1 < w.heap.size) :
    Calls Tryz.prog 62 #[diskV a ss.length c a' ws.length c', .int .i64 frm, .int .i64 size, .int .i64 first, .int .i64 life, .int .i64 n] w fun e w' => ScPost w w' e (scD ss ws frm size first life n) := by
  by_cases hyes : scOk ss ws frm size n
  · exact scan_i_yes a ss c a' ws c' frm size first life n w h h' hl hl' hs hs' hfi ty v hv h0 hg hyes
  · have e : scD ss ws frm size first life n = ([], 0, 0) := by unfold scD; rw [if_neg hyes]
    rw [e]
    exact scan_i_no a ss c a' ws c' frm size first life n w h h' hl hl' hs hs' hfr hyes
end Go.Proofs.YtnmaknnnmjfhkagGreatDoor

namespace Go.Proofs.YtnmaknnnmjfhkagGreatDoor
open Go.RowKit
set_option maxRecDepth 8000
set_option linter.unusedVariables false
set_option linter.unusedSimpArgs false

theorem own_apart {w w1 : World} {ops : List OpT} {a b : Option Addr} {n : Nat} (h : OwnS w b (opcells ops)) (hg : w.grownBy w1 (blk a n)) (ne : Apart a n b ops.length) : OwnS w1 b (opcells ops) :=
  h.grown hg (fun g hg hne => by
    rcases ne with h0 | h0 | h0
    · rw [h0]; simp
    · subst hg; rw [blk_pos g 0 _ (ne_of_opcells hne)] at h0; cases h0
    · subst hg; rw [blk_pos g 0 _ (ne_of_opcells hne)] at h0; exact fun e => h0 e.symm)

set_option maxHeartbeats 16000000 in
theorem eq_done (d : Dd) (a : Option Addr) (c : Nat) (b : Option Addr) (e : Nat) (a' : Option Addr) (c' : Nat) (b' : Option Addr) (e' : Nat) (w : World) (h1 : Prs w a d.rs) (h2 : Ops w b d.ops) (h3 : Prs w a' d.rs) (h4 : Ops w b' d.ops) (hl : d.rs.length ≤ 1048576) (hl2 : d.ops.length ≤ 1048576) :
    Calls Tryz.prog 13 #[dnV d a c b e, dnV d a' c' b' e'] w fun x w' => x = .returned (.bool true) ∧ Below w.heap.size w w' := by
  obtain ⟨C, W, S, L, T, H, F, R, U, O, rs, ops⟩ := d
  have hb0 : ∀ o1 o2, Below w.heap.size w ((w.alloc o1).alloc o2) := fun o1 o2 => ((Below.refl _ _).alloc (Nat.le_refl _) _).alloc (by simp) _
  have HES := hid (fun w' h' h'' => eq_store W S L T H F R U O a a' rs c c' w' h' h'' hl)
  unfold storeV at HES
  unfold dnV
  simp only at h1 h2 h3 h4 hl hl2
  go_enter Tryz.func13, Tryz.ntmps13
  go_wp2_with (first | (go_at_call 70; refine (HES.out _ (h1.below (hb0 _ _)) (h3.below (hb0 _ _))).mono ?_; rintro x w1 ⟨rfl, hb1⟩; have HB1 := hid ((hb0 _ _).trans (hb1.mono (by simp <;> omega))); have q1 : w1.cell? ⟨w.heap.size, 11, none⟩ = some (.slice b ops.length e) := (hb1.cell (p := ⟨w.heap.size, 11, none⟩) (by simp <;> omega)).trans (by go_simp); have q2 : w1.cell? ⟨w.heap.size + 1, 11, none⟩ = some (.slice b' ops.length e') := (hb1.cell (p := ⟨w.heap.size + 1, 11, none⟩) (by simp <;> omega)).trans (by go_simp); clear hb1) | (go_at_call 71; refine (eq_ops b b' ops e e' _ (h2.below HB1.out) (h4.below HB1.out) hl2).mono ?_; rintro x w2 ⟨rfl, hb2⟩))
  go_ret
  exact ⟨rfl, HB1.out.trans (hb2.mono HB1.out.size)⟩

set_option maxHeartbeats 16000000 in
theorem mark_done (d : Dd) (a : Option Addr) (c : Nat) (b : Option Addr) (e k : Nat) (w : World) (h : OwnDn w d.rs d.ops a b) (hk : 0 < k) (hl : k + 2 * d.rs.length + 3 * d.ops.length ≤ 100000000) :
    Calls Tryz.prog 16 #[dnV d a c b e, .int .i64 (k : Int)] w fun x w' => x = .returned (.int .i64 ((k + 2 * d.rs.length + 3 * d.ops.length : Nat) : Int)) ∧ (∃ w1 w2, Below w.heap.size w w1 ∧ w1.grownBy w2 (blk a d.rs.length) ∧ w2.grownBy w' (blk b d.ops.length)) ∧ OwnDn w' (prmarks k d.rs.length) (opmarks (k + 2 * d.rs.length) d.ops.length) a b := by
  obtain ⟨C, W, S, L, T, H, F, R, U, O, rs, ops⟩ := d
  simp only at h hl ⊢
  have hb0 : ∀ o, Below w.heap.size w (w.alloc o) := fun o => (Below.refl _ _).alloc (Nat.le_refl _) _
  have l1 := h.s.lt rs.length prcells_ne
  have l2 := h.p.lt ops.length opcells_ne
  have HMS := hid (fun w' h' => mark_store W S L T H F R U O a rs c k w' h' hk (by omega))
  obtain ⟨m, HM⟩ : ∃ m, Hid (m = k + 2 * rs.length) := ⟨_, hid rfl⟩
  have HMO := hid (fun w' h' => mark_ops b ops e m w' h' (by have := HM.out; omega) (by have := HM.out; omega))
  rw [← HM.out] at HMS ⊢
  unfold storeV at HMS
  unfold dnV
  simp only
  go_enter Tryz.func16, Tryz.ntmps16
  go_wp2_with (first | (go_at_call 76; refine (HMS.out _ (h.s.below (hb0 _))).mono ?_; rintro x w1 ⟨rfl, hg1, ho1⟩; have q1 : w1.cell? ⟨w.heap.size, 11, none⟩ = some (.slice b ops.length e) := (World.cell?_of_block (a := ⟨w.heap.size, 11, none⟩) (hg1.block w.heap.size (by simp) (fun e => by have := l1 _ e.symm; omega))).trans (by go_simp); have HG1 := hid hg1; have HO1 := hid ho1; clear hg1 ho1) | (go_at_call 77; refine (HMO.out _ (own_apart (h.p.below (hb0 _)) HG1.out h.ne)).mono ?_; rintro x w2 ⟨rfl, hg2, ho2⟩; have HG2 := hid hg2; have HO2 := hid ho2; clear hg2 ho2))
  go_ret
  refine ⟨rfl, ⟨_, w1, hb0 _, HG1.out, HG2.out⟩, ?_, HO2.out, ?_⟩
  · refine HO1.out.grown HG2.out (fun g hg hne => ?_)
    have hn1 : rs.length ≠ 0 := by have := ne_of_prcells hne; rwa [prmarks_length] at this
    subst hg
    rcases h.ne with h0 | h0 | h0
    · rw [blk_pos g 0 _ hn1] at h0; cases h0
    · rw [h0]; simp
    · rwa [blk_pos g 0 _ hn1] at h0
  · rw [prmarks_length, opmarks_length]; exact h.ne

set_option maxHeartbeats 16000000 in
theorem held_done (d : Dd) (a : Option Addr) (c : Nat) (b : Option Addr) (e k : Nat) (w : World) (h : OwnS w a (prcells (prmarks k d.rs.length))) (h' : OwnS w b (opcells (opmarks (k + 2 * d.rs.length) d.ops.length))) (hk : 0 < k) (hl : k + 2 * d.rs.length + 3 * d.ops.length ≤ 100000000) :
    Calls Tryz.prog 17 #[dnV d a c b e, .int .i64 (k : Int)] w fun x w' => x = .returned (.int .i64 ((k + 2 * d.rs.length + 3 * d.ops.length : Nat) : Int)) ∧ Below w.heap.size w w' := by
  obtain ⟨C, W, S, L, T, H, F, R, U, O, rs, ops⟩ := d
  simp only at h h' hl ⊢
  have hb0 : ∀ o, Below w.heap.size w (w.alloc o) := fun o => (Below.refl _ _).alloc (Nat.le_refl _) _
  have HMS := hid (fun w' h' => held_store W S L T H F R U O a rs.length c k w' h' hk (by omega))
  obtain ⟨m, HM⟩ : ∃ m, Hid (m = k + 2 * rs.length) := ⟨_, hid rfl⟩
  have HMO := hid (fun w' h' => held_ops b ops.length e m w' h' (by have := HM.out; omega) (by have := HM.out; omega))
  rw [← HM.out] at HMS h' ⊢
  obtain ⟨m2, HM2⟩ : ∃ m2, Hid (m2 = m + 3 * ops.length) := ⟨_, hid rfl⟩
  rw [← HM2.out] at HMO ⊢
  have hm0 : (0 : Int) ≤ (m : Int) := by omega
  have hm2 : (0 : Int) ≤ (m2 : Int) := by omega
  unfold storeV at HMS
  unfold dnV
  simp only
  go_enter Tryz.func17, Tryz.ntmps17
  go_wp2_with (first | (go_at_call 78; refine (HMS.out _ (h.below (hb0 _))).mono ?_; rintro x w1 ⟨rfl, hb1⟩; have q1 : w1.cell? ⟨w.heap.size, 11, none⟩ = some (.slice b ops.length e) := (hb1.cell (p := ⟨w.heap.size, 11, none⟩) (by simp)).trans (by go_simp); have HB1 := hid ((hb0 _).trans (hb1.mono (by simp))); clear hb1) | (go_at_call 79; refine (HMO.out _ (h'.below HB1.out)).mono ?_; rintro x w2 ⟨rfl, hb2⟩))
  go_ret
  exact ⟨rfl, HB1.out.trans (hb2.mono HB1.out.size)⟩
end Go.Proofs.YtnmaknnnmjfhkagGreatDoor
