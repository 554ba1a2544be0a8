import Derived.Test.YtnmaknnnmjfhkaeDoorPrScM
import Derived.Test.YtnmaknnnmjfhkaeDoorPrG40
import Derived.Test.YtnmaknnnmjfhkaeDoorPrG37
import Derived.Test.YtnmaknnnmjfhkaeDoorPrScR
import Derived.Test.YtnmaknnnmjfhkaeDoorPrCutI
import Derived.Test.YtnmaknnnmjfhkaeDoorPrG30
import Derived.Test.YtnmaknnnmjfhkaeDoorPrG28
import Derived.Test.YtnmaknnnmjfhkaeDoorPrG46
import Derived.Test.YtnmaknnnmjfhkaeDoorPrG33
import Derived.Test.YtnmaknnnmjfhkaeDoorPrG39
import Derived.Test.YtnmaknnnmjfhkaeDoorPrPk
import Derived.Test.YtnmaknnnmjfhkaeDoorPrPageI
set_option maxHeartbeats 16000000
set_option maxRecDepth 8000
namespace Go.Proofs.YtnmaknnnmjfhkaeDoor
open Go.RowKit
set_option maxRecDepth 8000
set_option linter.unusedVariables false
set_option linter.unusedSimpArgs false
set_option maxHeartbeats 16000000 in
theorem scan_i_no (a : Option Addr) (ss : List ByteArray) (c : Nat) (a' : Option Addr) (ws : List (Int × ByteArray)) (c' : Nat) (frm size first life n : Int) (w : World) (h : Strs w a ss) (h' : Wrs w a' ws) (hl : ss.length ≤ 1048576) (hl' : ws.length ≤ 1048576) (hs : ∀ s ∈ ss, s.size ≤ 1048576) (hs' : ∀ x ∈ ws, x.2.size ≤ 1048576) (hfr : -9223372036854775808 ≤ frm ∧ frm ≤ 9223372036854775807) (hno : ¬ scOk ss ws frm size n) :
    Calls Tryd.prog 14 #[diskV a ss.length c a' ws.length c', .int .i64 frm, .int .i64 size, .int .i64 first, .int .i64 life, .int .i64 n] w fun e w' => ScPost w w' e ([], 0, 0) := by
  have hb0 : ∀ o1 o2 o3, Below w.heap.size w (((w.alloc o1).alloc o2).alloc o3) := fun o1 o2 o3 => (((Below.refl _ _).alloc (Nat.le_refl _) _).alloc (by simp) _).alloc (by simp; omega) _
  have HV := hid (fun (wx : World) (hb : Below w.heap.size w wx) => valid_i a ss c a' ws c' wx (h.below hb) (h'.below hb) hl hl' hs hs')
  have HT := hid (fun wx => there_i ss.length frm size hl hfr.1 hfr.2 wx)
  cases hok : diskOk ss ws with
  | false =>
    have hd : decide (1 ≤ n ∧ n ≤ 8) = decide (1 ≤ n ∧ n ≤ 8) := rfl
    have ht : decide (0 ≤ frm ∧ 0 ≤ size ∧ size ≤ (ss.length : Int) - frm) = decide (0 ≤ frm ∧ 0 ≤ size ∧ size ≤ (ss.length : Int) - frm) := rfl
    clear hno
    go_enter Tryd.func14, Tryd.ntmps14
    go_wp2
    refine wp_scope_straight ?_
    go_wp2_with (first | (go_at_call 40; refine (HV.out _ (hb0 _ _ _)).mono ?_; rw [hok]; rintro e w1 ⟨rfl, hb1⟩; have r6 := (((row_new' w #[.slice a ss.length c, .slice a' ws.length c'] 31 w.heap.size rfl).alloc (.cells #[.int .i64 first] 3)).alloc (.cells #[.slice none 0 0, .int .i64 0, .int .i64 0] 38)).below hb1; have rRB := (row_new' ((w.alloc (.cells #[.slice a ss.length c, .slice a' ws.length c'] 31)).alloc (.cells #[.int .i64 first] 3)) #[.slice none 0 0, .int .i64 0, .int .i64 0] 38 (w.heap.size + 1 + 1) (by simp)).below hb1; have HB := hid ((hb0 (.cells #[.slice a ss.length c, .slice a' ws.length c'] 31) (.cells #[.int .i64 first] 3) (.cells #[.slice none 0 0, .int .i64 0, .int .i64 0] 38)).trans (hb1.mono (by simp <;> omega))); have q0 := r6.cell 0 _ rfl; have ql := r6.lt; have b0 := rRB.cell 0 _ rfl; have b1 := rRB.cell 1 _ rfl; have b2 := rRB.cell 2 _ rfl; have bf0 := rRB.froz 0 (by simp); have bf1 := rRB.froz 1 (by simp); have bf2 := rRB.froz 2 (by simp); have bl := rRB.lt; clear hb1 r6 rRB) | (go_at_call 37; refine (width_i _ _).mono ?_; rw [hd]; rintro e wz ⟨rfl, hwz⟩; rw [hwz]; clear hwz wz) | (go_at_call 43; refine (HT.out _).mono ?_; rw [ht]; rintro e wz ⟨rfl, hwz⟩; rw [hwz]; clear hwz wz))
    try simp only [Exit.noGoto]
    refine bodyPost_ret (v := .agg #[.slice none 0 0, .int .i64 0, .int .i64 0]) (by simp [results, Tryd.results14, go_sem, b0, b1, b2]) rfl ?_
    exact ⟨.slice none 0 0, rfl, World.ownsRow_nil _ _ _ _, ((HB.out.setCell (by show w.heap.size ≤ w.heap.size + 1 + 1; omega) _).setCell (by show w.heap.size ≤ w.heap.size + 1 + 1; omega) _).setCell (by show w.heap.size ≤ w.heap.size + 1 + 1; omega) _⟩
  | true =>
    by_cases hn : 1 ≤ n ∧ n ≤ 8
    · have hd : decide (1 ≤ n ∧ n ≤ 8) = true := decide_eq_true hn
      have ht : decide (0 ≤ frm ∧ 0 ≤ size ∧ size ≤ (ss.length : Int) - frm) = false := decide_eq_false (fun hh => hno ⟨hok, hn, hh.1, hh.2.1, by omega, hh.2.2⟩)
      clear hno
      go_enter Tryd.func14, Tryd.ntmps14
      go_wp2
      refine wp_scope_straight ?_
      go_wp2_with (first | (go_at_call 40; refine (HV.out _ (hb0 _ _ _)).mono ?_; rw [hok]; rintro e w1 ⟨rfl, hb1⟩; have r6 := (((row_new' w #[.slice a ss.length c, .slice a' ws.length c'] 31 w.heap.size rfl).alloc (.cells #[.int .i64 first] 3)).alloc (.cells #[.slice none 0 0, .int .i64 0, .int .i64 0] 38)).below hb1; have rRB := (row_new' ((w.alloc (.cells #[.slice a ss.length c, .slice a' ws.length c'] 31)).alloc (.cells #[.int .i64 first] 3)) #[.slice none 0 0, .int .i64 0, .int .i64 0] 38 (w.heap.size + 1 + 1) (by simp)).below hb1; have HB := hid ((hb0 (.cells #[.slice a ss.length c, .slice a' ws.length c'] 31) (.cells #[.int .i64 first] 3) (.cells #[.slice none 0 0, .int .i64 0, .int .i64 0] 38)).trans (hb1.mono (by simp <;> omega))); have q0 := r6.cell 0 _ rfl; have ql := r6.lt; have b0 := rRB.cell 0 _ rfl; have b1 := rRB.cell 1 _ rfl; have b2 := rRB.cell 2 _ rfl; have bf0 := rRB.froz 0 (by simp); have bf1 := rRB.froz 1 (by simp); have bf2 := rRB.froz 2 (by simp); have bl := rRB.lt; clear hb1 r6 rRB) | (go_at_call 37; refine (width_i _ _).mono ?_; rw [hd]; rintro e wz ⟨rfl, hwz⟩; rw [hwz]; clear hwz wz) | (go_at_call 43; refine (HT.out _).mono ?_; rw [ht]; rintro e wz ⟨rfl, hwz⟩; rw [hwz]; clear hwz wz))
      try simp only [Exit.noGoto]
      refine bodyPost_ret (v := .agg #[.slice none 0 0, .int .i64 0, .int .i64 0]) (by simp [results, Tryd.results14, go_sem, b0, b1, b2]) rfl ?_
      exact ⟨.slice none 0 0, rfl, World.ownsRow_nil _ _ _ _, ((HB.out.setCell (by show w.heap.size ≤ w.heap.size + 1 + 1; omega) _).setCell (by show w.heap.size ≤ w.heap.size + 1 + 1; omega) _).setCell (by show w.heap.size ≤ w.heap.size + 1 + 1; omega) _⟩
    · have hd : decide (1 ≤ n ∧ n ≤ 8) = false := decide_eq_false hn
      have ht : decide (0 ≤ frm ∧ 0 ≤ size ∧ size ≤ (ss.length : Int) - frm) = decide (0 ≤ frm ∧ 0 ≤ size ∧ size ≤ (ss.length : Int) - frm) := rfl
      clear hno
      go_enter Tryd.func14, Tryd.ntmps14
      go_wp2
      refine wp_scope_straight ?_
      go_wp2_with (first | (go_at_call 40; refine (HV.out _ (hb0 _ _ _)).mono ?_; rw [hok]; rintro e w1 ⟨rfl, hb1⟩; have r6 := (((row_new' w #[.slice a ss.length c, .slice a' ws.length c'] 31 w.heap.size rfl).alloc (.cells #[.int .i64 first] 3)).alloc (.cells #[.slice none 0 0, .int .i64 0, .int .i64 0] 38)).below hb1; have rRB := (row_new' ((w.alloc (.cells #[.slice a ss.length c, .slice a' ws.length c'] 31)).alloc (.cells #[.int .i64 first] 3)) #[.slice none 0 0, .int .i64 0, .int .i64 0] 38 (w.heap.size + 1 + 1) (by simp)).below hb1; have HB := hid ((hb0 (.cells #[.slice a ss.length c, .slice a' ws.length c'] 31) (.cells #[.int .i64 first] 3) (.cells #[.slice none 0 0, .int .i64 0, .int .i64 0] 38)).trans (hb1.mono (by simp <;> omega))); have q0 := r6.cell 0 _ rfl; have ql := r6.lt; have b0 := rRB.cell 0 _ rfl; have b1 := rRB.cell 1 _ rfl; have b2 := rRB.cell 2 _ rfl; have bf0 := rRB.froz 0 (by simp); have bf1 := rRB.froz 1 (by simp); have bf2 := rRB.froz 2 (by simp); have bl := rRB.lt; clear hb1 r6 rRB) | (go_at_call 37; refine (width_i _ _).mono ?_; rw [hd]; rintro e wz ⟨rfl, hwz⟩; rw [hwz]; clear hwz wz) | (go_at_call 43; refine (HT.out _).mono ?_; rw [ht]; rintro e wz ⟨rfl, hwz⟩; rw [hwz]; clear hwz wz))
      try simp only [Exit.noGoto]
      refine bodyPost_ret (v := .agg #[.slice none 0 0, .int .i64 0, .int .i64 0]) (by simp [results, Tryd.results14, go_sem, b0, b1, b2]) rfl ?_
      exact ⟨.slice none 0 0, rfl, World.ownsRow_nil _ _ _ _, ((HB.out.setCell (by show w.heap.size ≤ w.heap.size + 1 + 1; omega) _).setCell (by show w.heap.size ≤ w.heap.size + 1 + 1; omega) _).setCell (by show w.heap.size ≤ w.heap.size + 1 + 1; omega) _⟩
theorem scan_i (a : Option Addr) (ss : List ByteArray) (c : Nat) (a' : Option Addr) (ws : List (Int × ByteArray)) (c' : Nat) (frm size first life n : Int) (w : World) (h : Strs w a ss) (h' : Wrs w a' ws) (hl : ss.length ≤ 1048576) (hl' : ws.length ≤ 1048576) (hs : ∀ s ∈ ss, s.size ≤ 1048576) (hs' : ∀ x ∈ ws, x.2.size ≤ 1048576) (hfr : -9223372036854775808 ≤ frm ∧ frm ≤ 9223372036854775807) (hfi : -9223372036854775808 ≤ first ∧ first ≤ 9223372036854775807)
    (ty : TypeId) (v : Value) (hv : w.cell? ⟨1, 0, none⟩ = some (.iface ty v)) (h0 : w.cell? ⟨0, 0, none⟩ = some (.iface 177 (.agg #[.pointer (some ⟨2, 91, none⟩)]))) (hg : 1 < w.heap.size) :
    Calls Tryd.prog 14 #[diskV a ss.length c a' ws.length c', .int .i64 frm, .int .i64 size, .int .i64 first, .int .i64 life, .int .i64 n] w fun e w' => ScPost w w' e (scD ss ws frm size first life n) := by
  by_cases hyes : scOk ss ws frm size n
  · exact scan_i_yes a ss c a' ws c' frm size first life n w h h' hl hl' hs hs' hfi ty v hv h0 hg hyes
  · have e : scD ss ws frm size first life n = ([], 0, 0) := by unfold scD; rw [if_neg hyes]
    rw [e]
    exact scan_i_no a ss c a' ws c' frm size first life n w h h' hl hl' hs hs' hfr hyes
end Go.Proofs.YtnmaknnnmjfhkaeDoor

namespace Go.Proofs.YtnmaknnnmjfhkaeDoor
open Go.RowKit
set_option maxRecDepth 4000
set_option linter.unusedVariables false
set_option linter.unusedSimpArgs false
def lgS : List ByteArray := List.replicate 100 zeros
theorem zeros_size : zeros.size = 64 := by decide
theorem lgS_len : lgS.length = 100 := by simp [lgS]
theorem lgS_mem {s : ByteArray} (h : s ∈ lgS) : s = zeros := by
  unfold lgS at h
  exact List.eq_of_mem_replicate h
def WsOk (ws : List (Int × ByteArray)) : Prop := ws.length ≤ 200 ∧ ∀ x ∈ ws, wOk 100 x = true
theorem WsOk.disk {ws : List (Int × ByteArray)} (h : WsOk ws) : diskOk lgS ws = true := by
  refine diskOk_yes (by rw [lgS_len]; have := h.1; omega) (fun s hs => by rw [lgS_mem hs, zeros_size]; rfl) (fun x hx => ?_)
  rw [lgS_len]
  exact h.2 x hx
theorem WsOk.size {ws : List (Int × ByteArray)} (h : WsOk ws) : ∀ x ∈ ws, x.2.size ≤ 1048576 := fun x hx => by
  have := h.2 x hx
  simp only [wOk, decide_eq_true_eq] at this
  omega
theorem WsOk.snoc {ws : List (Int × ByteArray)} (h : WsOk ws) {k : Nat} {p : ByteArray} (hl : ws.length < 200) (hk : k < 100) (hp : p.size = 64) : WsOk (ws ++ [((k : Int), p)]) := by
  refine ⟨by simp; omega, fun x hx => ?_⟩
  rcases List.mem_append.1 hx with hx | hx
  · exact h.2 x hx
  · simp only [List.mem_singleton] at hx
    subst hx
    simp [wOk]
    omega
theorem pfR_one {ws : List (Int × ByteArray)} {x : Int × ByteArray} (h : WsOk ws) (hx : WsOk (ws ++ [x])) : pfR lgS ws [(false, x)] 1 = (lgS, ws ++ [x]) := by
  have hw := hx.2 x (by simp)
  have hl := hx.1
  simp only [List.length_append, List.length_cons, List.length_nil] at hl
  have e1 : ([(false, x)] : List (Bool × Int × ByteArray)).take (pfN 1 1) = [(false, x)] := rfl
  unfold pfR
  rw [if_pos h.disk]
  simp only [List.length_cons, List.length_nil, Nat.zero_add]
  rw [e1]
  show opD (lgS, ws) (false, x) = _
  exact opD_yes _ _ (by show wOk lgS.length x = true; rw [lgS_len]; exact hw) (by show ws.length < 300; omega)
structure LgD (w : World) (a a' : Option Addr) (ws : List (Int × ByteArray)) : Prop where
  s : OwnS w a (lgS.map Value.string)
  p : OwnS w a' (wcells ws)
theorem LgD.below {w w' : World} {a a' : Option Addr} {ws : List (Int × ByteArray)} (h : LgD w a a' ws) (hb : Below w.heap.size w w') : LgD w' a a' ws := ⟨h.s.below hb, h.p.below hb⟩
theorem LgD.set {w : World} {a a' : Option Addr} {ws : List (Int × ByteArray)} (h : LgD w a a' ws) {q B i : Nat} (hq : ws.length = q) (n1 : ∀ g, blk a 100 = some g → g ≠ B) (n2 : ∀ g, blk a' q = some g → g ≠ B) (v : Value) : LgD (w.setCell ⟨B, i, none⟩ v) a a' ws := by
  refine ⟨?_, ?_⟩
  · rcases h.s with h1 | ⟨g, e, hr⟩
    · exact .inl h1
    · subst e
      exact .inr ⟨g, rfl, hr.other _ (fun e => n1 g rfl (Eq.symm e)) _⟩
  · rcases h.p with h1 | ⟨g, e, hr⟩
    · exact .inl h1
    · subst e
      by_cases hz : q = 0
      · have : ws = [] := List.eq_nil_of_length_eq_zero (by omega)
        subst this
        exact .inl rfl
      · exact .inr ⟨g, rfl, hr.other _ (fun e => n2 g (blk_pos _ _ _ hz) (Eq.symm e)) _⟩
theorem pf_one (a : Option Addr) (c : Nat) (a' : Option Addr) (c' : Nat) (ws : List (Int × ByteArray)) (q q' : Nat) (x : Int × ByteArray) (f : Nat) (cf : Nat) (w : World) (h : LgD w a a' ws) (hq : ws.length = q) (hq' : q + 1 = q') (hw : WsOk ws) (hx : WsOk (ws ++ [x])) (hz : Row w f [.bool false, .int .i64 x.1, .string x.2]) (hcf : 1 ≤ cf) :
    Calls Tryd.prog 13 #[diskV a 100 c a' q c', .slice (some ⟨f, 0, none⟩) 1 cf, .int .i64 1] w fun e w' => ∃ a1 c1 a2 c2, e = .returned (diskV a1 100 c1 a2 q' c2) ∧ LgD w' a1 a2 (ws ++ [x]) ∧ (∀ g, blk a1 100 = some g → w.heap.size ≤ g) ∧ (∀ g, blk a2 q' = some g → w.heap.size ≤ g) ∧ Below w.heap.size w w' := by
  subst hq
  subst hq'
  have hO : Ops w (some ⟨f, 0, none⟩) [(false, x)] := .inr ⟨f, 0, rfl, hz.lt, fun i hi => by
    have : i = 0 := by simpa using hi
    subst this
    exact ⟨hz.cell 0 _ rfl, hz.cell 1 _ rfl, hz.cell 2 _ rfl⟩⟩
  have hs := hx.size x (by simp)
  have := pf_i_any a lgS c a' ws c' (some ⟨f, 0, none⟩) [(false, x)] cf 1 w h.s.strs h.p.wrs hO hcf (by simp) (fun y hy => by simp only [List.mem_singleton] at hy; subst hy; exact hs) (by rw [lgS_len]; omega) (by have := hw.1; omega) (fun s hs => by rw [lgS_mem hs, zeros_size]; omega) hw.size
  rw [pfR_one hw hx] at this
  simp only [lgS_len, List.length_append, List.length_cons, List.length_nil, Nat.zero_add] at this
  refine this.mono ?_
  rintro e w' ⟨a1, c1, a2, c2, rfl, ho, k1, k2, hb⟩
  exact ⟨a1, c1, a2, c2, rfl, ⟨ho.s, ho.p⟩, k1, k2, hb⟩
theorem sc_one (a : Option Addr) (c : Nat) (a' : Option Addr) (c' : Nat) (ws : List (Int × ByteArray)) (q : Nat) (size : Nat) (first life : Int) (n : Nat) (es : List ByteArray) (k : Nat) (U V : Int) (w : World) (h : LgD w a a' ws) (hq : ws.length = q) (hw : WsOk ws) (hn : 1 ≤ n ∧ n ≤ 8) (hs : size ≤ 98) (hfi : 0 ≤ first ∧ first ≤ 1000000001)
    (hX : scanP (fun k => (syncs ws lgS).getD k ByteArray.empty) 2 first (n : Int) size 0 0 life ByteArray.empty ([], 0, life) = (es, U, V)) (hk : es.length = k)
    (ty : TypeId) (gv : Value) (hv : w.cell? ⟨1, 0, none⟩ = some (.iface ty gv)) (h0 : w.cell? ⟨0, 0, none⟩ = some (.iface 177 (.agg #[.pointer (some ⟨2, 91, none⟩)]))) (hg : 1 < w.heap.size) :
    Calls Tryd.prog 14 #[diskV a 100 c a' q c', .int .i64 2, .int .i64 (size : Int), .int .i64 first, .int .i64 life, .int .i64 (n : Int)] w fun e w' => ∃ ax cx, e = .returned (.agg #[.slice ax k cx, .int .i64 U, .int .i64 V]) ∧ Strs w' ax es ∧ (∀ g o, ax = some ⟨g, o, none⟩ → k ≠ 0 → w.heap.size ≤ g) ∧ Below w.heap.size w w' := by
  subst hq hk
  have := scan_i a lgS c a' ws c' 2 (size : Int) first life (n : Int) w h.s.strs h.p.wrs (by rw [lgS_len]; omega) (by have := hw.1; omega) (fun s hs => by rw [lgS_mem hs, zeros_size]; omega) hw.size (by omega) (by omega) ty gv hv h0 hg
  have e1 : scD lgS ws 2 (size : Int) first life (n : Int) = (es, U, V) := by
    unfold scD
    rw [if_pos ⟨hw.disk, by omega, by omega, by omega, by rw [lgS_len]; omega, by rw [lgS_len]; omega⟩, ← hX]
    rfl
  rw [e1, lgS_len] at this
  refine this.mono ?_
  intro e w' hp
  obtain ⟨a1, c1, rfl, ho, hg, hb⟩ := scpost_own hp
  exact ⟨a1, c1, rfl, ho.strs, fun g o e hk => hg g (by subst e; exact blk_pos _ _ _ hk), hb⟩
theorem ct_one (s : ByteArray) (l f : Int) (n m : Nat) (L : List ByteArray) (k : Nat) (w : World) (hs : s.size ≤ 1048576) (hm : n + m = 56) (hn : 1 ≤ n ∧ n ≤ 8) (hf : -1 ≤ f ∧ f ≤ 1000000001) (hL : cutAll s l f n m = L) (hk : L.length = k) :
    Calls Tryd.prog 7 #[.string s, .int .i64 l, .int .i64 f, .int .i64 (n : Int)] w fun e w' => ∃ a c, e = .returned (.slice a k c) ∧ Strs w' a L ∧ (∀ g o, a = some ⟨g, o, none⟩ → k ≠ 0 → w.heap.size ≤ g) ∧ Below w.heap.size w w' := by
  subst hk
  have := cut_i s l f n m w hs hm hn.1 hn.2 (by omega) (by omega)
  rw [hL] at this
  refine this.mono ?_
  rintro e w' ⟨a, c, rfl, ho, hg, hb⟩
  exact ⟨a, c, rfl, ho.strs, fun g o e hk => hg g (by subst e; exact blk_pos _ _ _ hk), hb⟩
theorem wt_k (a b : Option Addr) (ss : List ByteArray) (k c c' : Nat) (w : World) (h : Strs w a ss) (h' : Strs w b ss) (hk : ss.length = k) (hl : k ≤ 1048576) :
    Calls Tryd.prog 8 #[.slice a k c, .slice b k c'] w fun e w' => e = .returned (.bool true) ∧ Below w.heap.size w w' := by
  subst hk
  exact w_texts a b ss c c' w h h' hl
theorem cs_one (s : ByteArray) (l f : Int) (n m : Nat) (L : List ByteArray) (k : Nat) (w : World) (hs : s.size ≤ 1048576) (hm : n + m = 56) (hn : 1 ≤ n ∧ n ≤ 8) (hL : cutAll s l f n m = L) (hk : L.length = k) :
    Calls Tryd.prog 9 #[.string s, .int .i64 l, .int .i64 f, .int .i64 (n : Int)] w fun e w' => ∃ a c, e = .returned (.slice a k c) ∧ Strs w' a L ∧ Below w.heap.size w w' := by
  subst hk
  have := cut_s s l f n m w hs hm hn.1 hn.2
  rw [hL] at this
  refine this.mono ?_
  rintro e w' ⟨a, c, rfl, ho, hg, hb⟩
  exact ⟨a, c, rfl, ho.strs, hb⟩
theorem nw_one (w : World) : Calls Tryd.prog 12 #[.int .i64 100] w fun e w' => ∃ a c a' c', e = .returned (diskV a 100 c a' 0 c') ∧ LgD w' a a' [] ∧ Below w.heap.size w w' := by
  refine (new_i 100 w (by omega) (by omega)).mono ?_
  rintro e w' ⟨g, c, a', c', rfl, hg, hr, hb⟩
  exact ⟨some ⟨g, 0, none⟩, c, a', c', rfl, ⟨.inr ⟨g, rfl, hr⟩, .inl rfl⟩, hb⟩
end Go.Proofs.YtnmaknnnmjfhkaeDoor

namespace Go.Proofs.YtnmaknnnmjfhkaeDoor
open Go.RowKit
set_option maxRecDepth 4000
set_option linter.unusedVariables false
set_option linter.unusedSimpArgs false
section
variable {life first : Int} {n m : Nat} {e : ByteArray}
theorem cutAt_size (s : ByteArray) (l f : Int) (n m N k : Nat) (hm : n + m = 56) (hn : 1 ≤ n ∧ n ≤ 8) (hl : 1 ≤ l ∧ l ≤ 60000) (hf : 1 ≤ f + (k : Int) ∧ f + (k : Int) ≤ 1000000000) : (cutAt s l f n m N k).size = 64 := by
  have hp : (s.extract (k * m) (k * m + m)).size ≤ m := by rw [ByteArray.size_extract]; omega
  unfold cutAt formOf
  rw [pageOk_cut _ _ _ _ n m hm hn.1 hn.2 (by split <;> simp) hp, if_pos (by simp; omega), Int.toNat_natCast]
  exact pageForm_size _ _ _ _ _ (by omega)
theorem lgP_size {e3 : ByteArray} (h : LgOk life first n m e) (h3 : e3.size ≤ 400) : ∀ p ∈ lgP e e3 life first n m, p.size = 64 := by
  obtain ⟨hm, hn, hl, hf, he⟩ := h
  have n1 := np_le e.size m (by omega) he
  have n3 := np_le e3.size m (by omega) h3
  intro p hp
  unfold lgP cutList at hp
  simp only [List.mem_append, List.mem_map, List.mem_range] at hp
  rcases hp with ⟨k, hk, rfl⟩ | ⟨k, hk, rfl⟩ | ⟨k, hk, rfl⟩ <;> exact cutAt_size _ _ _ _ _ _ _ hm hn (by omega) (by omega)
theorem laidW_ok (Q : List ByteArray) (hl : Q.length ≤ 98) (h : ∀ p ∈ Q, p.size = 64) : WsOk (laidW Q) := by
  refine ⟨by rw [laidW_length]; omega, fun x hx => ?_⟩
  unfold laidW at hx
  rw [List.mem_mapIdx] at hx
  obtain ⟨i, hi, rfl⟩ := hx
  have := h _ (List.getElem_mem hi)
  simp [wOk, this]
  omega
theorem lgS_at (i : Nat) (h : i < 100) : lgS.getD i ByteArray.empty = zeros := by
  unfold lgS
  rw [List.getD, List.getElem?_replicate, if_pos h]
  rfl
theorem sec_at (Q : List ByteArray) (hl : Q.length ≤ 97) (i : Nat) (hi : i < 98) : (syncs (laidW Q) lgS).getD (2 + i) ByteArray.empty = if i < Q.length then Q.getD i ByteArray.empty else zeros := by
  rw [sec_laid Q lgS (by rw [lgS_len]; omega) i, lgS_at _ (by omega)]
structure Lg (e e3 : ByteArray) (life first : Int) (n m N1 N3 NN : Nat) : Prop where
  ok : LgOk life first n m e
  h3 : e3.size ≤ 400
  n1 : N1 = nparts e.size m
  n3 : N3 = nparts e3.size m
  nn : NN = N1 + 1 + N3
variable {e3 : ByteArray} {N1 N3 NN : Nat}
theorem Lg.b (h : Lg e e3 life first n m N1 N3 NN) : N1 ≤ 9 ∧ 1 ≤ N1 ∧ N3 ≤ 9 ∧ 1 ≤ N3 ∧ NN = N1 + 1 + N3 := by
  have a1 := np_le e.size m (by have := h.ok.hm; have := h.ok.hn; omega) h.ok.he
  have a3 := np_le e3.size m (by have := h.ok.hm; have := h.ok.hn; omega) h.h3
  have b1 := nparts_pos e.size m
  have b3 := nparts_pos e3.size m
  have := h.n1
  have := h.n3
  have := h.nn
  omega
theorem Lg.len (h : Lg e e3 life first n m N1 N3 NN) : (lgP e e3 life first n m).length = NN := by rw [lgP_length, h.nn, h.n1, h.n3]
theorem Lg.at' (h : Lg e e3 life first n m N1 N3 NN) (R : List ByteArray) (hR : R.length ≤ 3) (i : Nat) (hi : i < NN) : (syncs (laidW (lgP e e3 life first n m ++ R)) lgS).getD (2 + i) ByteArray.empty = (lgP e e3 life first n m).getD i ByteArray.empty := by
  have hb := h.b
  have hl := h.len
  rw [sec_at _ (by rw [List.length_append]; omega) i (by omega), if_pos (by rw [List.length_append]; omega)]
  simp [List.getD, List.getElem?_append, hl, hi]
theorem Lg.off (h : Lg e e3 life first n m N1 N3 NN) (R : List ByteArray) (hR : R.length ≤ 3) (i : Nat) (hi : i < 3) : (syncs (laidW (lgP e e3 life first n m ++ R)) lgS).getD (2 + (NN + i)) ByteArray.empty = if i < R.length then R.getD i ByteArray.empty else zeros := by
  have hb := h.b
  have hl := h.len
  rw [sec_at _ (by rw [List.length_append]; omega) _ (by omega)]
  by_cases hh : i < R.length
  · rw [if_pos (by rw [List.length_append]; omega), if_pos hh]
    rw [List.getD, List.getElem?_append, hl, if_neg (by omega), Nat.add_sub_cancel_left]
    rfl
  · rw [if_neg (by rw [List.length_append]; omega), if_neg hh]
theorem Lg.ws (h : Lg e e3 life first n m N1 N3 NN) (R : List ByteArray) (hR : R.length ≤ 3) (h64 : ∀ p ∈ R, p.size = 64) : WsOk (laidW (lgP e e3 life first n m ++ R)) := by
  have hb := h.b
  refine laidW_ok _ (by rw [List.length_append, h.len]; omega) (fun p hp => ?_)
  rcases List.mem_append.1 hp with hp | hp
  · exact lgP_size h.ok h.h3 p hp
  · exact h64 p hp
abbrev SC (ws : List (Int × ByteArray)) (first : Int) (n size : Nat) (life : Int) : Scd := scanP (fun k => (syncs ws lgS).getD k ByteArray.empty) 2 first (n : Int) size 0 0 life ByteArray.empty ([], 0, life)
theorem rp_zer (n : Int) : rpRes zeros n = none := rp_zeros n
theorem Lg.scx (h : Lg e e3 life first n m N1 N3 NN) : SC (laidW (lgP e e3 life first n m)) first n 90 life = ([e, ByteArray.empty, e3], (NN : Int), life + 1) := by
  have hb := h.b
  have := lg_x h.ok h.h3 (fun k => (syncs (laidW (lgP e e3 life first n m)) lgS).getD k ByteArray.empty) (90 - NN) (fun i hi => by
    have := h.at' [] (by simp) i (by rw [h.nn, h.n1, h.n3]; exact hi)
    rw [List.append_nil] at this
    exact this) (.inl (by
    have := h.off [] (by simp) 0 (by omega)
    rw [List.append_nil, Nat.add_zero, if_neg (by simp)] at this
    rw [← h.n1, ← h.n3, ← h.nn]
    show rpRes ((syncs (laidW (lgP e e3 life first n m)) lgS).getD (2 + NN) ByteArray.empty) n = none
    rw [this]
    exact rp_zer _))
  rw [← h.n1, ← h.n3, ← h.nn, show NN + (90 - NN) = 90 by omega] at this
  exact this
theorem Lg.scy (h : Lg e e3 life first n m N1 N3 NN) (o : ByteArray) : SC (laidW (lgP e e3 life first n m ++ [cutAt o life (first + (NN : Int)) n m 1 0])) first n 90 life = ([e, ByteArray.empty, e3], (NN : Int), life + 1) := by
  have hb := h.b
  have hok := h.ok
  obtain ⟨hm, hn, hl, hf, he⟩ := hok
  have := lg_x h.ok h.h3 (fun k => (syncs (laidW (lgP e e3 life first n m ++ [cutAt o life (first + (NN : Int)) n m 1 0])) lgS).getD k ByteArray.empty) (90 - NN) (fun i hi => h.at' _ (by simp) i (by rw [h.nn, h.n1, h.n3]; exact hi)) (.inr (by
    have := h.off [cutAt o life (first + (NN : Int)) n m 1 0] (by simp) 0 (by omega)
    rw [Nat.add_zero, if_pos (by simp)] at this
    rw [← h.n1, ← h.n3, ← h.nn]
    refine ⟨life, o.extract (0 * m) (0 * m + m), ?_, Int.le_refl _⟩
    show rpRes ((syncs (laidW (lgP e e3 life first n m ++ [cutAt o life (first + (NN : Int)) n m 1 0])) lgS).getD (2 + NN) ByteArray.empty) n = _
    rw [this]
    have := rp_cut o life (first + (NN : Int)) n m 1 0 hm hn (by omega) (by omega)
    rw [if_pos rfl] at this
    simpa using this))
  rw [← h.n1, ← h.n3, ← h.nn, show NN + (90 - NN) = 90 by omega] at this
  exact this
theorem Lg.scs (h : Lg e e3 life first n m N1 N3 NN) : SC (laidW (lgP e e3 life first n m)) first n (NN - 1) life = ([e, ByteArray.empty], ((N1 + 1 : Nat) : Int), life + 1) := by
  have hb := h.b
  have := lg_cut h.ok h.h3 (fun k => (syncs (laidW (lgP e e3 life first n m)) lgS).getD k ByteArray.empty) 0 (fun i hi => by
    have := h.at' [] (by simp) i (by rw [h.nn, h.n1, h.n3]; omega)
    rw [List.append_nil] at this
    exact this) (.inl rfl)
  rw [← h.n1, ← h.n3, show N1 + 1 + (N3 - 1) + 0 = NN - 1 by omega] at this
  exact this
theorem Lg.scz (h : Lg e e3 life first n m N1 N3 NN) : SC (laidW (lgP e e3 life first n m) ++ [(((1 + NN : Nat) : Int), zeros)]) first n 90 life = ([e, ByteArray.empty], ((N1 + 1 : Nat) : Int), life + 1) := by
  have hb := h.b
  have hln : (syncs (laidW (lgP e e3 life first n m)) lgS).length = 100 := by rw [syncs_length, lgS_len]
  have := lg_cut h.ok h.h3 (fun k => (syncs (laidW (lgP e e3 life first n m) ++ [(((1 + NN : Nat) : Int), zeros)]) lgS).getD k ByteArray.empty) (91 - NN) (fun i hi => by
    have hi' : i < NN - 1 := by rw [h.nn, h.n1, h.n3]; rw [← h.n1, ← h.n3] at hi ⊢; omega
    have := h.at' [] (by simp) i (by omega)
    rw [List.append_nil] at this
    rw [← this]
    show (syncs (laidW (lgP e e3 life first n m) ++ [(((1 + NN : Nat) : Int), zeros)]) lgS).getD (2 + i) ByteArray.empty = _
    rw [syncs_snoc]
    simp only [Int.toNat_natCast]
    simp [List.getD, List.getElem?_set_ne (show 1 + NN ≠ 2 + i by omega)]) (.inr (by
    rw [← h.n1, ← h.n3]
    show rpRes ((syncs (laidW (lgP e e3 life first n m) ++ [(((1 + NN : Nat) : Int), zeros)]) lgS).getD (2 + (N1 + 1 + (N3 - 1))) ByteArray.empty) n = none
    rw [syncs_snoc]
    simp only [Int.toNat_natCast]
    have e1 : 2 + (N1 + 1 + (N3 - 1)) = 1 + NN := by omega
    rw [e1]
    simp only [List.getD]
    rw [List.getElem?_set_self (by omega)]
    exact rp_zer _))
  rw [← h.n1, ← h.n3, show N1 + 1 + (N3 - 1) + (91 - NN) = 90 by omega] at this
  exact this
theorem Lg.scu (h : Lg e e3 life first n m N1 N3 NN) (o p : ByteArray) {k l : Int} {p2 : ByteArray} (hp : rpRes p (n : Int) = some (k, life + 2, l, p2)) (hk : k = 2 ∨ k = 3) : SC (laidW (lgP e e3 life first n m ++ [cutAt o (life + 1) (first + (NN : Int)) n m 3 0, p])) first n 90 life = ([e, ByteArray.empty, e3], (NN : Int), life + 1) := by
  have hb := h.b
  have hok := h.ok
  obtain ⟨hm, hn, hl, hf, he⟩ := hok
  have := lg_u (k := k) (l := l) (p2 := p2) (p := o.extract (0 * m) (0 * m + m)) h.ok h.h3 (fun k => (syncs (laidW (lgP e e3 life first n m ++ [cutAt o (life + 1) (first + (NN : Int)) n m 3 0, p])) lgS).getD k ByteArray.empty) (88 - NN) (fun i hi => h.at' _ (by simp) i (by rw [h.nn, h.n1, h.n3]; exact hi)) (by
    have := h.off [cutAt o (life + 1) (first + (NN : Int)) n m 3 0, p] (by simp) 0 (by omega)
    rw [Nat.add_zero, if_pos (by simp)] at this
    rw [← h.n1, ← h.n3, ← h.nn]
    show rpRes ((syncs (laidW (lgP e e3 life first n m ++ [cutAt o (life + 1) (first + (NN : Int)) n m 3 0, p])) lgS).getD (2 + NN) ByteArray.empty) n = _
    rw [this]
    have := rp_cut o (life + 1) (first + (NN : Int)) n m 3 0 hm hn (by omega) (by omega)
    rw [if_neg (by omega)] at this
    simpa using this) (by
    have := h.off [cutAt o (life + 1) (first + (NN : Int)) n m 3 0, p] (by simp) 1 (by omega)
    rw [if_pos (by simp)] at this
    rw [← h.n1, ← h.n3, ← h.nn]
    show rpRes ((syncs (laidW (lgP e e3 life first n m ++ [cutAt o (life + 1) (first + (NN : Int)) n m 3 0, p])) lgS).getD (2 + (NN + 1)) ByteArray.empty) n = _
    rw [this]
    exact hp) hk
  rw [← h.n1, ← h.n3, ← h.nn, show NN + (88 - NN + 2) = 90 by omega] at this
  exact this
theorem Lg.scl (h : Lg e e3 life first n m N1 N3 NN) : SC (laidW (lgP e e3 life first n m)) (first + 1) n 90 life = ([], 0, life) := by
  have hb := h.b
  have hok := h.ok
  obtain ⟨hm, hn, hl, hf, he⟩ := hok
  refine lg_last (k := if 0 + 1 = nparts e.size m then 2 else 1) (l := life + 1) (p := e.extract (0 * m) (0 * m + m)) h.ok _ 90 ?_
  have := h.at' [] (by simp) 0 (by omega)
  rw [List.append_nil] at this
  show rpRes ((syncs (laidW (lgP e e3 life first n m)) lgS).getD (2 + 0) ByteArray.empty) n = _
  rw [this, lgP_1 _ _ _ _ _ _ _ (by rw [← h.n1]; omega)]
  have := rp_cut e (life + 1) first n m (nparts e.size m) 0 hm hn (by omega) (by omega)
  simpa using this
theorem Lg.rp_next (h : Lg e e3 life first n m N1 N3 NN) (o : ByteArray) : ∃ p2, rpRes (cutAt o (life + 2) (first + (NN : Int) + 1) n m 1 0) (n : Int) = some (2, life + 2, first + (NN : Int) + 1, p2) := by
  have hb := h.b
  obtain ⟨hm, hn, hl, hf, he⟩ := h.ok
  have := rp_cut o (life + 2) (first + (NN : Int) + 1) n m 1 0 hm hn (by omega) (by omega)
  rw [if_pos rfl] at this
  exact ⟨_, by simpa using this⟩
theorem Lg.begun_ok (h : Lg e e3 life first n m N1 N3 NN) : pageOk 3 (life + 2) (first + (NN : Int) + 1) ⟨#[]⟩ (n : Int) = true := by
  have hb := h.b
  obtain ⟨hm, hn, hl, hf, he⟩ := h.ok
  have hz : ByteArray.size ⟨#[]⟩ = 0 := rfl
  unfold pageOk
  rw [decide_eq_true_eq]
  refine ⟨by omega, by omega, by omega, by omega, by omega, by omega, by omega, by omega, ?_, fun _ => hz⟩
  rw [hz]
  omega
theorem Lg.rp_begun (h : Lg e e3 life first n m N1 N3 NN) : rpRes (formOf 3 (life + 2) (first + (NN : Int) + 1) ⟨#[]⟩ (n : Int)) (n : Int) = some (3, life + 2, first + (NN : Int) + 1, ⟨#[]⟩) ∧ (formOf 3 (life + 2) (first + (NN : Int) + 1) ⟨#[]⟩ (n : Int)).size = 64 := by
  have hok := h.begun_ok
  obtain ⟨hm, hn, hl, hf, he⟩ := h.ok
  have e1 : formOf 3 (life + 2) (first + (NN : Int) + 1) ⟨#[]⟩ (n : Int) = pageForm 3 (life + 2) (first + (NN : Int) + 1) ⟨#[]⟩ n := by
    unfold formOf
    rw [if_pos hok, Int.toNat_natCast]
  rw [e1]
  exact ⟨rp_form _ _ _ _ n hok, pageForm_size _ _ _ _ _ (by show 0 + n ≤ 56; omega)⟩
theorem cut_some {s : ByteArray} {l f : Int} {n m K : Nat} (hK : (cutAll s l f n m).length = K) (h : K ≠ 0) : K = nparts s.size m ∧ 1 ≤ l ∧ l ≤ 60000 ∧ 1 ≤ f := by
  by_cases hh : 1 ≤ l ∧ l ≤ 60000 ∧ 1 ≤ f ∧ f + (nparts s.size m : Int) ≤ 1000000001
  · rw [cutAll_yes rfl hh, cutList_length] at hK
    omega
  · rw [cutAll_no rfl hh] at hK
    exact absurd hK.symm h
theorem npg_eq (l n m : Nat) (hm : n + m = 56) (hn : 1 ≤ n ∧ n ≤ 8) : npages l (n : Int) = (nparts l m : Int) := by
  unfold npages
  rw [if_pos (by omega), show (56 - (n : Int)).toNat = m by omega]
theorem np_small (l m : Nat) (h1 : 0 < l) (h : l ≤ m) : nparts l m = 1 := by
  unfold nparts
  rw [if_neg (by omega), Nat.div_eq_of_lt (by omega)]
theorem np_120 (m : Nat) (h1 : 48 ≤ m) (h2 : m ≤ 55) : nparts 120 m = 3 := by
  have : m = 48 ∨ m = 49 ∨ m = 50 ∨ m = 51 ∨ m = 52 ∨ m = 53 ∨ m = 54 ∨ m = 55 := by omega
  rcases this with rfl | rfl | rfl | rfl | rfl | rfl | rfl | rfl <;> rfl
theorem laid_two (Q : List ByteArray) (N : Nat) (hN : Q.length = N) (p : ByteArray) : laidW Q ++ [(2 + (N : Int), p)] = laidW (Q ++ [p]) := by
  rw [laidW_snoc, hN]
  simp
theorem laid_three (Q : List ByteArray) (N : Nat) (hN : Q.length = N) (p p2 : ByteArray) : (laidW Q ++ [(2 + (N : Int), p)]) ++ [(3 + (N : Int), p2)] = laidW (Q ++ [p, p2]) := by
  rw [laid_two Q N hN, show Q ++ [p, p2] = (Q ++ [p]) ++ [p2] by simp, laidW_snoc (Q ++ [p]) p2]
  have e1 : ((2 + (Q ++ [p]).length : Nat) : Int) = 3 + (N : Int) := by
    rw [List.length_append, hN]
    simp only [List.length_cons, List.length_nil]
    omega
  rw [e1]
theorem Lg.w0 (h : Lg e e3 life first n m N1 N3 NN) : WsOk (laidW (lgP e e3 life first n m)) := by
  have := h.ws [] (by simp) (by simp)
  rwa [List.append_nil] at this
theorem Lg.w1 (h : Lg e e3 life first n m N1 N3 NN) (p : ByteArray) (hp : p.size = 64) : WsOk (laidW (lgP e e3 life first n m) ++ [(2 + (NN : Int), p)]) := by
  rw [laid_two _ _ h.len]
  exact h.ws [p] (by simp) (by simpa using hp)
theorem Lg.w2 (h : Lg e e3 life first n m N1 N3 NN) (p p2 : ByteArray) (hp : p.size = 64) (hp2 : p2.size = 64) : WsOk ((laidW (lgP e e3 life first n m) ++ [(2 + (NN : Int), p)]) ++ [(3 + (NN : Int), p2)]) := by
  rw [laid_three _ _ h.len]
  exact h.ws [p, p2] (by simp) (by simp [hp, hp2])
theorem Lg.wz (h : Lg e e3 life first n m N1 N3 NN) : WsOk (laidW (lgP e e3 life first n m) ++ [(1 + (NN : Int), zeros)]) := by
  have hb := h.b
  have := h.w0.snoc (k := 1 + NN) (p := zeros) (by rw [laidW_length, h.len]; omega) (by omega) zeros_size
  rwa [show ((1 + NN : Nat) : Int) = 1 + (NN : Int) by omega] at this
theorem Lg.sy (h : Lg e e3 life first n m N1 N3 NN) (o : ByteArray) : SC (laidW (lgP e e3 life first n m) ++ [(2 + (NN : Int), cutAt o life (first + (NN : Int)) n m 1 0)]) first n 90 life = ([e, ByteArray.empty, e3], (NN : Int), life + 1) := by
  rw [laid_two _ _ h.len]
  exact h.scy o
theorem Lg.su (h : Lg e e3 life first n m N1 N3 NN) (o p : ByteArray) {k l : Int} {p2 : ByteArray} (hp : rpRes p (n : Int) = some (k, life + 2, l, p2)) (hk : k = 2 ∨ k = 3) : SC ((laidW (lgP e e3 life first n m) ++ [(2 + (NN : Int), cutAt o (life + 1) (first + (NN : Int)) n m 3 0)]) ++ [(3 + (NN : Int), p)]) first n 90 life = ([e, ByteArray.empty, e3], (NN : Int), life + 1) := by
  rw [laid_three _ _ h.len]
  exact h.scu o p hp hk
theorem Lg.sz (h : Lg e e3 life first n m N1 N3 NN) : SC (laidW (lgP e e3 life first n m) ++ [(1 + (NN : Int), zeros)]) first n 90 life = ([e, ByteArray.empty], (N1 : Int) + 1, life + 1) := by
  have := h.scz
  rwa [show ((1 + NN : Nat) : Int) = 1 + (NN : Int) by omega, show ((N1 + 1 : Nat) : Int) = (N1 : Int) + 1 by omega] at this
theorem Lg.ss (h : Lg e e3 life first n m N1 N3 NN) : SC (laidW (lgP e e3 life first n m)) first n (NN - 1) life = ([e, ByteArray.empty], (N1 : Int) + 1, life + 1) := by
  have := h.scs
  rwa [show ((N1 + 1 : Nat) : Int) = (N1 : Int) + 1 by omega] at this
def lgOff (N1 N3 i : Nat) : Nat := if i = 0 then 0 else if i = 1 then N1 else if i = 2 then N1 + 1 else N1 + 1 + N3
theorem Lg.round (h : Lg e e3 life first n m N1 N3 NN) (i : Nat) (hi : i < 3) : ∃ (s : ByteArray) (L : List ByteArray) (len : Nat), ([.string e, .string ⟨#[]⟩, .string e3] : List Value)[i]? = some (.string s) ∧ s.size ≤ 400 ∧ cutAll s (life + 1) (first + (lgOff N1 N3 i : Int)) n m = L ∧ L.length = len ∧ (len ≤ 9 ∧ 1 ≤ len) ∧ lgOff N1 N3 (i + 1) = lgOff N1 N3 i + len ∧ lgOff N1 N3 (i + 1) ≤ NN ∧
    ∀ k, k < len → (lgP e e3 life first n m).take (lgOff N1 N3 i + k + 1) = (lgP e e3 life first n m).take (lgOff N1 N3 i + k) ++ [L.getD k ByteArray.empty] := by
  have hb := h.b
  have hl := h.len
  obtain ⟨hm, hn, hlf, hf, he⟩ := h.ok
  have key : ∀ (o : Nat) (L : List ByteArray) (len : Nat), L.length = len → o + len ≤ NN → (∀ k, k < len → (lgP e e3 life first n m).getD (o + k) ByteArray.empty = L.getD k ByteArray.empty) → ∀ k, k < len → (lgP e e3 life first n m).take (o + k + 1) = (lgP e e3 life first n m).take (o + k) ++ [L.getD k ByteArray.empty] := by
    intro o L len h1 h2 h3 k hk
    have hlt : o + k < (lgP e e3 life first n m).length := by omega
    rw [List.take_add_one, List.getElem?_eq_getElem hlt, ← h3 k hk]
    simp [List.getD, List.getElem?_eq_getElem hlt]
  have hi3 : i = 0 ∨ i = 1 ∨ i = 2 := by omega
  rcases hi3 with rfl | rfl | rfl
  · refine ⟨e, _, N1, rfl, he, rfl, ?_, ⟨hb.1, hb.2.1⟩, by simp [lgOff], by simp [lgOff]; omega, ?_⟩
    · rw [show first + (lgOff N1 N3 0 : Int) = first by simp [lgOff], cutAll_yes h.n1 (by omega), cutList_length]
    · rw [show first + (lgOff N1 N3 0 : Int) = first by simp [lgOff], cutAll_yes h.n1 (by omega)]
      refine key _ _ N1 (cutList_length _ _ _ _ _ _ _) (by simp [lgOff]; omega) (fun k hk => ?_)
      rw [show lgOff N1 N3 0 + k = k by simp [lgOff], lgP_1 _ _ _ _ _ _ _ (by rw [← h.n1]; exact hk), cut_getD _ _ _ _ _ _ _ hk, h.n1]
  · have e0 : (1 : Nat) = nparts ByteArray.empty.size m := by simp [nparts]
    refine ⟨ByteArray.empty, _, 1, rfl, by simp, rfl, ?_, ⟨by omega, by omega⟩, by simp [lgOff], by simp [lgOff]; omega, ?_⟩
    · rw [show first + (lgOff N1 N3 1 : Int) = first + (N1 : Int) by simp [lgOff], cutAll_yes e0 (by omega), cutList_length]
    · rw [show first + (lgOff N1 N3 1 : Int) = first + (N1 : Int) by simp [lgOff], cutAll_yes e0 (by omega)]
      refine key _ _ 1 (cutList_length _ _ _ _ _ _ _) (by simp [lgOff]; omega) (fun k hk => ?_)
      have : k = 0 := by omega
      subst this
      rw [show lgOff N1 N3 1 + 0 = nparts e.size m by simp [lgOff, h.n1], lgP_2, cut_getD _ _ _ _ _ _ _ hk, h.n1]
  · refine ⟨e3, _, N3, rfl, h.h3, rfl, ?_, ⟨hb.2.2.1, hb.2.2.2.1⟩, by simp [lgOff], by simp [lgOff]; omega, ?_⟩
    · rw [show first + (lgOff N1 N3 2 : Int) = first + (N1 : Int) + 1 by simp [lgOff]; omega, cutAll_yes h.n3 (by omega), cutList_length]
    · rw [show first + (lgOff N1 N3 2 : Int) = first + (N1 : Int) + 1 by simp [lgOff]; omega, cutAll_yes h.n3 (by omega)]
      refine key _ _ N3 (cutList_length _ _ _ _ _ _ _) (by simp [lgOff]; omega) (fun k hk => ?_)
      rw [show lgOff N1 N3 2 + k = nparts e.size m + 1 + k by simp [lgOff, h.n1], lgP_3 _ _ _ _ _ _ _ (by rw [← h.n3]; exact hk), cut_getD _ _ _ _ _ _ _ hk, h.n1, h.n3]
theorem Lg.wt (h : Lg e e3 life first n m N1 N3 NN) (j : Nat) : WsOk (laidW ((lgP e e3 life first n m).take j)) := by
  have hb := h.b
  refine laidW_ok _ (by rw [List.length_take, h.len]; omega) (fun p hp => lgP_size h.ok h.h3 p (List.mem_of_mem_take hp))
theorem Lg.tk (h : Lg e e3 life first n m N1 N3 NN) (j : Nat) (hj : j ≤ NN) : ((lgP e e3 life first n m).take j).length = j := by
  rw [List.length_take, h.len]
  omega
structure LgI (w0 w : World) (B G : Nat) (e e3 : ByteArray) (Q : List ByteArray) (q : Nat) (a0 : Option Addr) (c0 : Nat) (a1 : Option Addr) (c1 : Nat) : Prop where
  be : Below w0.heap.size w0 w
  rB : Row w B [.slice a0 100 c0, .slice a1 q c1]
  dk : LgD w a0 a1 (laidW Q)
  hq : (laidW Q).length = q
  n1 : ∀ g, blk a0 100 = some g → g ≠ B
  n2 : ∀ g, blk a1 q = some g → g ≠ B
  rG : Row w G [.string e, .string ⟨#[]⟩, .string e3]
theorem LgI.below {w0 w w' : World} {B G : Nat} {e e3 : ByteArray} {Q : List ByteArray} {q : Nat} {a0 : Option Addr} {c0 : Nat} {a1 : Option Addr} {c1 : Nat} (h : LgI w0 w B G e e3 Q q a0 c0 a1 c1) (hb : Below w.heap.size w w') : LgI w0 w' B G e e3 Q q a0 c0 a1 c1 :=
  ⟨h.be.trans (hb.mono h.be.size), h.rB.below hb, h.dk.below hb, h.hq, h.n1, h.n2, h.rG.below hb⟩
theorem strs_set {w : World} {a : Option Addr} {L : List ByteArray} (h : Strs w a L) {B i : Nat} (hne : ∀ g o, a = some ⟨g, o, none⟩ → g ≠ B) (v : Value) : Strs (w.setCell ⟨B, i, none⟩ v) a L := by
  rcases h with h | ⟨b, o, h1, h2, h3⟩
  · exact .inl h
  · refine .inr ⟨b, o, h1, by simpa [World.setCell] using h2, fun j hj => ?_⟩
    rw [World.cell?_setCell_other (w := w) (h := fun e => hne b o h1 (by injection e with e1; exact e1.symm))]
    exact h3 j hj
end
end Go.Proofs.YtnmaknnnmjfhkaeDoor

namespace Go.Proofs.YtnmaknnnmjfhkaeDoor
open Go.RowKit
set_option linter.unusedVariables false
set_option linter.unusedSimpArgs false
set_option maxRecDepth 8000
structure LgF (t e3 : ByteArray) (PP : List ByteArray) (l f : Int) (wn m K N3 q : Nat) (pO pP pX pB Z ZR : ByteArray) (PZ : List ByteArray) : Prop where
  w0 : WsOk (laidW PP)
  sx : SC (laidW PP) f wn 90 l = ([t, ByteArray.empty, e3], (q : Int), l + 1)
  ss : SC (laidW PP) f wn (q - 1) l = ([t, ByteArray.empty], (K : Int) + 1, l + 1)
  sl : SC (laidW PP) (f + 1) wn 90 l = ([], 0, l)
  wz : WsOk (laidW PP ++ [(1 + (q : Int), ZR)])
  sz : SC (laidW PP ++ [(1 + (q : Int), ZR)]) f wn 90 l = ([t, ByteArray.empty], (K : Int) + 1, l + 1)
  wy : WsOk (laidW PP ++ [(2 + (q : Int), pO)])
  sy : SC (laidW PP ++ [(2 + (q : Int), pO)]) f wn 90 l = ([t, ByteArray.empty, e3], (q : Int), l + 1)
  wp : WsOk (laidW PP ++ [(2 + (q : Int), pP)])
  wu : WsOk ((laidW PP ++ [(2 + (q : Int), pP)]) ++ [(3 + (q : Int), pX)])
  su : SC ((laidW PP ++ [(2 + (q : Int), pP)]) ++ [(3 + (q : Int), pX)]) f wn 90 l = ([t, ByteArray.empty, e3], (q : Int), l + 1)
  wv : WsOk ((laidW PP ++ [(2 + (q : Int), pP)]) ++ [(3 + (q : Int), pB)])
  sv : SC ((laidW PP ++ [(2 + (q : Int), pP)]) ++ [(3 + (q : Int), pB)]) f wn 90 l = ([t, ByteArray.empty, e3], (q : Int), l + 1)
  co : ∀ wx, Calls Tryd.prog 7 #[.string ⟨#[111, 108, 100]⟩, .int .i64 l, .int .i64 (f + (q : Int)), .int .i64 (wn : Int)] wx fun e w' => ∃ a c, e = .returned (.slice a 1 c) ∧ Strs w' a [pO] ∧ (∀ g o, a = some ⟨g, o, none⟩ → 1 ≠ 0 → wx.heap.size ≤ g) ∧ Below wx.heap.size wx w'
  cp : ∀ wx, Calls Tryd.prog 7 #[.string Z, .int .i64 (l + 1), .int .i64 (f + (q : Int)), .int .i64 (wn : Int)] wx fun e w' => ∃ a c, e = .returned (.slice a 3 c) ∧ Strs w' a PZ ∧ (∀ g o, a = some ⟨g, o, none⟩ → 3 ≠ 0 → wx.heap.size ≤ g) ∧ Below wx.heap.size wx w'
  cx : ∀ wx, Calls Tryd.prog 7 #[.string ⟨#[110, 101, 120, 116]⟩, .int .i64 (l + 2), .int .i64 (f + (q : Int) + 1), .int .i64 (wn : Int)] wx fun e w' => ∃ a c, e = .returned (.slice a 1 c) ∧ Strs w' a [pX] ∧ (∀ g o, a = some ⟨g, o, none⟩ → 1 ≠ 0 → wx.heap.size ≤ g) ∧ Below wx.heap.size wx w'
  p0 : PZ.getD 0 ByteArray.empty = pP
  pl : PZ.length = 3
  q3 : (laidW PP ++ [(2 + (q : Int), pP)]).length = q + 1
  fb : ∀ wx, Calls Tryd.prog 15 #[pageV 3 (l + 2) (f + (q : Int) + 1) ⟨#[]⟩, .int .i64 (wn : Int)] wx fun e w' => e = .returned (.string pB) ∧ Below wx.heap.size wx w'
  pg : ∀ wx, Calls Tryd.prog 11 #[.string t, .int .i64 (wn : Int)] wx fun e w' => e = .returned (.int .i64 (K : Int)) ∧ Below wx.heap.size wx w'
  ph : ∀ wx, Calls Tryd.prog 11 #[.string (t ++ ⟨#[101, 110, 100]⟩), .int .i64 (wn : Int)] wx fun e w' => e = .returned (.int .i64 (N3 : Int)) ∧ Below wx.heap.size wx w'
  zc : ∀ (wx : World) (b : Nat), (∀ i, i < 120 → wx.cell? ⟨b, i, none⟩ = some (.int .u8 0)) → (convert 22 9 (.slice (some ⟨b, 0, none⟩) 120 120)).run Tryd.prog wx = .ok (.string Z) wx
  zd : ∀ (wx : World) (b : Nat), (∀ i, i < 64 → wx.cell? ⟨b, i, none⟩ = some (.int .u8 0)) → (convert 22 9 (.slice (some ⟨b, 0, none⟩) 64 64)).run Tryd.prog wx = .ok (.string ZR) wx
  sm : (K : Int) + 1 + (N3 : Int) = (q : Int)
  ff : 0 ≤ f ∧ f ≤ 1000000001
  fg : 0 ≤ f + 1 ∧ f + 1 ≤ 1000000001
  q1 : q - 1 ≤ 98
  qc : ((q - 1 : Nat) : Int) = (q : Int) - 1
  nn : ¬ (9223372036854775807 < t.size + 3)
  k0 : IntKind.i64.wrap (l + 1) = l + 1
  k1 : IntKind.i64.wrap (f + (q : Int)) = f + (q : Int)
  k2 : IntKind.i64.wrap (2 + (q : Int)) = 2 + (q : Int)
  k3 : IntKind.i64.wrap (3 + (q : Int)) = 3 + (q : Int)
  k4 : IntKind.i64.wrap (1 + (q : Int)) = 1 + (q : Int)
  k5 : IntKind.i64.wrap (l + 2) = l + 2
  k6 : IntKind.i64.wrap (f + (q : Int) + 1) = f + (q : Int) + 1
  k7 : IntKind.i64.wrap ((K : Int) + 1) = (K : Int) + 1
  k8 : IntKind.i64.wrap ((q : Int) - 1) = (q : Int) - 1
  k9 : IntKind.i64.wrap (f + 1) = f + 1
theorem lg_facts {t e3 : ByteArray} {PP : List ByteArray} {l f : Int} {wn m K N3 q : Nat} (h : Lg t e3 l f wn m K N3 q) (he3 : e3 = t ++ ⟨#[101, 110, 100]⟩) (ht : t.size ≤ 300) (hPP : PP = lgP t e3 l f wn m) : ∃ (pO pP pX pB Z ZR : ByteArray) (PZ : List ByteArray), LgF t e3 PP l f wn m K N3 q pO pP pX pB Z ZR PZ := by
  subst hPP
  have hb := h.b
  have hes : e3.size = t.size + 3 := by rw [he3, ByteArray.size_append]; rfl
  obtain ⟨hmm, hw8, hl, hf, -⟩ := h.ok
  obtain ⟨Z, hZ⟩ : ∃ x, x = strOfNums (List.replicate 120 0) := ⟨_, rfl⟩
  have hZs : Z.size = 120 := by rw [hZ, strOfNums_size, List.length_replicate]
  have hOs : (cutAt ⟨#[111, 108, 100]⟩ l (f + (q : Int)) wn m 1 0).size = 64 := cutAt_size _ _ _ _ _ _ _ hmm hw8 (by omega) (by omega)
  have hPs : (cutAt Z (l + 1) (f + (q : Int)) wn m 3 0).size = 64 := cutAt_size _ _ _ _ _ _ _ hmm hw8 (by omega) (by omega)
  have hXs : (cutAt ⟨#[110, 101, 120, 116]⟩ (l + 2) (f + (q : Int) + 1) wn m 1 0).size = 64 := cutAt_size _ _ _ _ _ _ _ hmm hw8 (by omega) (by omega)
  have hn3 : nparts (ByteArray.size ⟨#[111, 108, 100]⟩) m = 1 := np_small _ _ (by show 0 < 3; omega) (by show 3 ≤ m; omega)
  have hn4 : nparts (ByteArray.size ⟨#[110, 101, 120, 116]⟩) m = 1 := np_small _ _ (by show 0 < 4; omega) (by show 4 ≤ m; omega)
  obtain ⟨px, hpx⟩ := h.rp_next ⟨#[110, 101, 120, 116]⟩
  obtain ⟨hrb, hrs⟩ := h.rp_begun
  refine ⟨cutAt ⟨#[111, 108, 100]⟩ l (f + (q : Int)) wn m 1 0, cutAt Z (l + 1) (f + (q : Int)) wn m 3 0, cutAt ⟨#[110, 101, 120, 116]⟩ (l + 2) (f + (q : Int) + 1) wn m 1 0, formOf 3 (l + 2) (f + (q : Int) + 1) ⟨#[]⟩ (wn : Int), Z, zeros, cutList Z (l + 1) (f + (q : Int)) wn m 3 3, ?_⟩
  exact {
    w0 := h.w0,
    sx := h.scx,
    ss := h.ss,
    sl := h.scl,
    wz := h.wz,
    sz := h.sz,
    wy := h.w1 _ hOs,
    sy := h.sy _,
    wp := h.w1 _ hPs,
    wu := h.w2 _ _ hPs hXs,
    su := h.su _ _ hpx (.inl rfl),
    wv := h.w2 _ _ hPs hrs,
    sv := h.su _ _ hrb (.inr rfl),
    co := fun wx => ct_one ⟨#[111, 108, 100]⟩ l (f + (q : Int)) wn m _ 1 wx (by show 3 ≤ 1048576; omega) hmm hw8 (by omega) (by rw [cutAll_yes hn3.symm (by omega)]; rfl) rfl,
    cp := fun wx => ct_one Z (l + 1) (f + (q : Int)) wn m _ 3 wx (by omega) hmm hw8 (by omega) (by rw [cutAll_yes (show 3 = nparts Z.size m by rw [hZs, np_120 m (by omega) (by omega)]) (by omega)]) (cutList_length _ _ _ _ _ _ _),
    cx := fun wx => ct_one ⟨#[110, 101, 120, 116]⟩ (l + 2) (f + (q : Int) + 1) wn m _ 1 wx (by show 4 ≤ 1048576; omega) hmm hw8 (by omega) (by rw [cutAll_yes hn4.symm (by omega)]; rfl) rfl,
    p0 := rfl,
    pl := cutList_length _ _ _ _ _ _ _,
    q3 := by rw [List.length_append, laidW_length, h.len]; rfl,
    fb := fun wx => form_i_any 3 (l + 2) (f + (q : Int) + 1) ⟨#[]⟩ (wn : Int) wx (by show 0 ≤ 1048576; omega),
    pg := fun wx => by have := pages_s t (wn : Int) wx (by omega); rwa [npg_eq t.size wn m hmm hw8, ← h.n1] at this,
    ph := fun wx => by have := pages_s (t ++ ⟨#[101, 110, 100]⟩) (wn : Int) wx (by rw [← he3]; omega); have hh : nparts (t ++ ⟨#[101, 110, 100]⟩).size m = N3 := (by rw [← he3]; exact h.n3.symm); rwa [npg_eq _ wn m hmm hw8, hh] at this,
    zc := by rw [hZ]; exact fun wx b hh => run_convert_bytes_arg (P := Tryd.prog) wx 22 5 Tryd.underlying22 Tryd.underlying5 b 0 120 120 (List.replicate 120 0) rfl (fun i hi => by rw [Nat.zero_add, hh i hi, List.getD_eq_getElem?_getD, List.getElem?_replicate, if_pos hi]; rfl) 9 Tryd.underlying9,
    zd := fun wx b hh => run_convert_bytes_arg (P := Tryd.prog) wx 22 5 Tryd.underlying22 Tryd.underlying5 b 0 64 64 (List.replicate 64 0) rfl (fun i hi => by rw [Nat.zero_add, hh i hi, List.getD_eq_getElem?_getD, List.getElem?_replicate, if_pos hi]; rfl) 9 Tryd.underlying9,
    sm := by omega,
    ff := by omega,
    fg := by omega,
    q1 := by omega,
    qc := by omega,
    nn := by omega,
    k0 := wrap_i64_id _ (by omega) (by omega),
    k1 := wrap_i64_id _ (by omega) (by omega),
    k2 := wrap_i64_id _ (by omega) (by omega),
    k3 := wrap_i64_id _ (by omega) (by omega),
    k4 := wrap_i64_id _ (by omega) (by omega),
    k5 := wrap_i64_id _ (by omega) (by omega),
    k6 := wrap_i64_id _ (by omega) (by omega),
    k7 := wrap_i64_id _ (by omega) (by omega),
    k8 := wrap_i64_id _ (by omega) (by omega),
    k9 := wrap_i64_id _ (by omega) (by omega) }
theorem step_make {P : Program} {ops : Array Oper} {o : Oper} {a : Act} {w : World} {K : Act → World → Prop} {Q : Exit → Act → World → Prop} {E : Prop} (hgd : o.guard = none)
    (l c : Operand) (t : TypeId) (hop : o.op = Op.makeSlice t l c) (e : TypeId) (z : Value) (size bytes : Nat) (ht : P.underlying t = some (.slice e)) (hinfo : (P.info? e).map (fun i => (i.zero, i.size, i.bytes)) = some (some z, size, bytes))
    (n : Nat) (hl : a.eval l = .int .i64 (n : Int)) (hc : a.eval c = .int .i64 (n : Int)) (hb : bytes * n ≤ 281474976710656) (hn : n ≤ 281474976710656)
    (h : ∀ wx, Row wx w.heap.size (madeCells z.cells (n * size)).toList → Below w.heap.size w wx → K (a.put o.dst (.slice (some ⟨w.heap.size, 0, none⟩) n n)) wx) :
    if Region.wanted o (yielded ops a.tmps) = true then Oper.wp P o a w K Q else E := by
  have hw : Region.wanted o (yielded ops a.tmps) = true := by simp [Region.wanted, hgd]
  rw [if_pos hw]
  obtain ⟨i, hi, hh⟩ := Option.map_eq_some_iff.1 hinfo
  simp only [Prod.mk.injEq] at hh
  obtain ⟨h1, h2, h3⟩ := hh
  subst h2 h3
  have hbi : (i.bytes : Int) * (n : Int) ≤ 281474976710656 := by
    have : ((i.bytes * n : Nat) : Int) ≤ 281474976710656 := by omega
    rwa [Int.natCast_mul] at this
  have hr := run_make (P := P) w t e i z ht hi h1 .i64 .i64 n n (by omega) (Int.le_refl _) hbi (by omega)
  simp only [Int.toNat_natCast] at hr
  unfold Oper.wp
  simp [execOp, hop, hl, hc, hr, Result.andThen]
  exact h _ (row_new _ _ _) ((Below.refl _ _).alloc (Nat.le_refl _) _)
theorem strs_lt {w : World} {a : Option Addr} {L : List ByteArray} (h : Strs w a L) (hL : L ≠ []) {g o : Nat} (e : a = some ⟨g, o, none⟩) : g < w.heap.size := by
  rcases h with h | ⟨b, o', h1, h2, -⟩
  · exact absurd h hL
  · rw [h1] at e
    injection e with e
    injection e with e1 e2
    rw [← e1]
    exact h2
end Go.Proofs.YtnmaknnnmjfhkaeDoor
