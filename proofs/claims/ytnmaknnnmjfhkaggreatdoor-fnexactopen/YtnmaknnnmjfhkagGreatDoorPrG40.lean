import Derived.Test.YtnmaknnnmjfhkagGreatDoorPrG39
import Derived.Test.YtnmaknnnmjfhkagGreatDoorPrG31
import Derived.Test.YtnmaknnnmjfhkagGreatDoorPrG34
import Derived.Test.YtnmaknnnmjfhkagGreatDoorPrFnA
import Derived.Test.YtnmaknnnmjfhkagGreatDoorPrG32
import Derived.Test.YtnmaknnnmjfhkagGreatDoorPrG30
import Derived.Test.YtnmaknnnmjfhkagGreatDoorPrG38
import Derived.Test.YtnmaknnnmjfhkagGreatDoorPrG48
import Derived.Test.YtnmaknnnmjfhkagGreatDoorPrG47
import Derived.Test.YtnmaknnnmjfhkagGreatDoorPrG25
import Derived.Test.YtnmaknnnmjfhkagGreatDoorPrG49
import Derived.Test.YtnmaknnnmjfhkagGreatDoorPrApU
set_option maxHeartbeats 16000000
set_option maxRecDepth 8000
namespace Go.Proofs.YtnmaknnnmjfhkagGreatDoor
open Go.RowKit
set_option maxRecDepth 4000
set_option linter.unusedVariables false
set_option linter.unusedSimpArgs false
abbrev scOk (ss : List ByteArray) (ws : List (Int × ByteArray)) (frm size n : Int) : Prop := diskOk ss ws = true ∧ (1 ≤ n ∧ n ≤ 8) ∧ 0 ≤ frm ∧ 0 ≤ size ∧ frm ≤ (ss.length : Int) ∧ size ≤ (ss.length : Int) - frm
def scD (ss : List ByteArray) (ws : List (Int × ByteArray)) (frm size first life n : Int) : Scd :=
  if scOk ss ws frm size n then scanP (fun k => (syncs ws ss).getD k ByteArray.empty) frm.toNat first n size.toNat 0 0 life ByteArray.empty ([], 0, life) else ([], 0, 0)
def ScPost (w w' : World) (e : Ending) (x : Scd) : Prop := ∃ y, e = .returned (.agg #[y, .int .i64 x.2.1, .int .i64 x.2.2]) ∧ w'.ownsRow w.heap.size 9 1 y x.1.length (x.1.map Value.string) ∧ Below w.heap.size w w'
structure ScB (w0 w : World) (RB G XB OT WS : Nat) (S : List Value) (cx : Nat) (xp : Value) (y : Value) (ents : List ByteArray) (u l wk wl wm : Int) (wp : ByteArray) : Prop where
  rb : Row w RB [.slice none 0 0, .int .i64 0, .int .i64 0]
  sec : Row w G S
  xb : Row w XB [.slice (some ⟨G, 0, none⟩) S.length cx, xp]
  ot : Row w OT [y, .int .i64 u, .int .i64 l]
  ws : Row w WS [.int .i64 wk, .int .i64 wl, .int .i64 wm, .string wp]
  own : w.ownsRow w0.heap.size 9 1 y ents.length (ents.map Value.string)
  o1 : w0.heap.size ≤ RB
  o2 : RB < G
  o3 : G < XB
  o4 : XB < OT
  o5 : OT < WS
  yo : ∀ k, y.ownBlock = some k → WS < k
  be : Below w0.heap.size w0 w
section
variable {w0 w w' : World} {RB G XB OT WS : Nat} {S : List Value} {cx : Nat} {xp : Value} {y : Value} {ents : List ByteArray} {u l wk wl wm : Int} {wp : ByteArray}
theorem ScB.below (h : ScB w0 w RB G XB OT WS S cx xp y ents u l wk wl wm wp) (hb : Below w.heap.size w w') : ScB w0 w' RB G XB OT WS S cx xp y ents u l wk wl wm wp :=
  ⟨h.rb.below hb, h.sec.below hb, h.xb.below hb, h.ot.below hb, h.ws.below hb, owns_below h.own hb, h.o1, h.o2, h.o3, h.o4, h.o5, h.yo, h.be.trans (hb.mono h.be.size)⟩
theorem ScB.own_ne (h : ScB w0 w RB G XB OT WS S cx xp y ents u l wk wl wm wp) {k : Nat} (hk : k ≤ WS) : y.ownBlock ≠ some k := fun e => by have := h.yo k e; omega
theorem ScB.setWas (h : ScB w0 w RB G XB OT WS S cx xp y ents u l wk wl wm wp) (k' l' m' : Int) (p' : ByteArray) :
    ScB w0 ((((w.setCell ⟨WS, 0, none⟩ (.int .i64 k')).setCell ⟨WS, 1, none⟩ (.int .i64 l')).setCell ⟨WS, 2, none⟩ (.int .i64 m')).setCell ⟨WS, 3, none⟩ (.string p')) RB G XB OT WS S cx xp y ents u l k' l' m' p' := by
  have o1 := h.o1; have o2 := h.o2; have o3 := h.o3; have o4 := h.o4; have o5 := h.o5
  have far : ∀ {g : Nat} {cs : List Value}, g ≠ WS → Row w g cs → Row ((((w.setCell ⟨WS, 0, none⟩ (.int .i64 k')).setCell ⟨WS, 1, none⟩ (.int .i64 l')).setCell ⟨WS, 2, none⟩ (.int .i64 m')).setCell ⟨WS, 3, none⟩ (.string p')) g cs := fun hg hr =>
    (((hr.other _ (Ne.symm hg) _).other _ (Ne.symm hg) _).other _ (Ne.symm hg) _).other _ (Ne.symm hg) _
  have hy := h.own_ne (Nat.le_refl WS)
  have bs : ∀ {x : World}, Below w0.heap.size w0 x → ∀ i v, Below w0.heap.size w0 (x.setCell ⟨WS, i, none⟩ v) := fun hx i v => hx.setCell (by show w0.heap.size ≤ WS; omega) _
  exact ⟨far (by omega) h.rb, far (by omega) h.sec, far (by omega) h.xb, far (by omega) h.ot, (((h.ws.set 0 (by simp) _).set 1 (by simp) _).set 2 (by simp) _).set 3 (by simp) _,
    ownsRow_setCell_other (ownsRow_setCell_other (ownsRow_setCell_other (ownsRow_setCell_other h.own hy _) hy _) hy _) hy _, o1, o2, o3, o4, o5, h.yo, bs (bs (bs (bs h.be _ _) _ _) _ _) _ _⟩
theorem ScB.setEnd (h : ScB w0 w RB G XB OT WS S cx xp y ents u l wk wl wm wp) (u' l' : Int) :
    ScB w0 ((w.setCell ⟨OT, 1, none⟩ (.int .i64 u')).setCell ⟨OT, 2, none⟩ (.int .i64 l')) RB G XB OT WS S cx xp y ents u' l' wk wl wm wp := by
  have o1 := h.o1; have o2 := h.o2; have o3 := h.o3; have o4 := h.o4; have o5 := h.o5
  have far : ∀ {g : Nat} {cs : List Value}, g ≠ OT → Row w g cs → Row ((w.setCell ⟨OT, 1, none⟩ (.int .i64 u')).setCell ⟨OT, 2, none⟩ (.int .i64 l')) g cs := fun hg hr => (hr.other _ (Ne.symm hg) _).other _ (Ne.symm hg) _
  have hy := h.own_ne (k := OT) (by omega)
  have bs : ∀ {x : World}, Below w0.heap.size w0 x → ∀ i v, Below w0.heap.size w0 (x.setCell ⟨OT, i, none⟩ v) := fun hx i v => hx.setCell (by show w0.heap.size ≤ OT; omega) _
  exact ⟨far (by omega) h.rb, far (by omega) h.sec, far (by omega) h.xb, (h.ot.set 1 (by simp) _).set 2 (by simp) _, far (by omega) h.ws,
    ownsRow_setCell_other (ownsRow_setCell_other h.own hy _) hy _, o1, o2, o3, o4, o5, h.yo, bs (bs h.be _ _) _ _⟩
theorem ScB.push (h : ScB w0 w RB G XB OT WS S cx xp y ents u l wk wl wm wp) {y' : Value} {ents' : List ByteArray} {H : Nat} (hown : w'.ownsRow w0.heap.size 9 1 y' ents'.length (ents'.map Value.string)) (hg : w.grownBy w' y.ownBlock) (hat : y.ownBlock = y'.ownBlock ∨ y'.ownBlock = some H) (hH : w.heap.size ≤ H) :
    ScB w0 (w'.setCell ⟨OT, 0, none⟩ y') RB G XB OT WS S cx xp y' ents' u l wk wl wm wp := by
  have o1 := h.o1; have o2 := h.o2; have o3 := h.o3; have o4 := h.o4; have o5 := h.o5
  have lW := h.ws.lt
  have yo' : ∀ k, y'.ownBlock = some k → WS < k := fun k hk => by
    rcases hat with e | e
    · exact h.yo k (e.trans hk)
    · rw [e] at hk; cases hk; omega
  have gr : ∀ {g : Nat} {cs : List Value}, g ≤ WS → Row w g cs → Row w' g cs := fun hle hr => hr.grown hg (fun e => h.own_ne hle e.symm)
  have far : ∀ {g : Nat} {cs : List Value}, g ≠ OT → Row w' g cs → Row (w'.setCell ⟨OT, 0, none⟩ y') g cs := fun hg hr => hr.other _ (Ne.symm hg) _
  have hy' : y'.ownBlock ≠ some OT := fun e => by have := yo' OT e; omega
  have be' : Below w0.heap.size w0 w' := h.be.trans (grown_below hg h.be.size (fun g e => (h.own.lt g e).1))
  exact ⟨far (by omega) (gr (by omega) h.rb), far (by omega) (gr (by omega) h.sec), far (by omega) (gr (by omega) h.xb), (gr (by omega) h.ot).set 0 (by simp) _, far (by omega) (gr (Nat.le_refl _) h.ws),
    ownsRow_setCell_other hown hy' _, o1, o2, o3, o4, o5, yo', be'.setCell (by show w0.heap.size ≤ OT; omega) _⟩
end
set_option maxHeartbeats 16000000 in
theorem goes_s (wk wl wm : Int) (wp : ByteArray) (k l m : Int) (p : ByteArray) (w : World) : Calls Tryz.prog 140 #[pageV wk wl wm wp, pageV k l m p] w fun e w' => e = .returned (.bool (goesP wk wl k l)) ∧ Below w.heap.size w w' := by
  have hb2 : ∀ o1 o2, Below w.heap.size w ((w.alloc o1).alloc o2) := fun o1 o2 => ((Below.refl _ _).alloc (Nat.le_refl _) _).alloc (by simp) _
  obtain ⟨B, hB⟩ : ∃ B, goesP wk wl k l = B := ⟨_, rfl⟩
  have HB := hid hB
  rw [hB]
  clear hB
  by_cases h1 : l < wl
  · have e : B = false := by rw [← HB.out]; unfold goesP; simp; omega
    subst e
    clear HB
    go_enter Tryz.func140, Tryz.ntmps140
    go_wp2
    go_ret
    exact ⟨rfl, hb2 _ _⟩
  · by_cases h3 : k = 3
    · subst h3
      by_cases hw : wk = 1
      · have e : B = false := by rw [← HB.out]; unfold goesP; simp [hw]
        subst e
        clear HB
        go_enter Tryz.func140, Tryz.ntmps140
        go_wp2
        go_ret
        exact ⟨rfl, hb2 _ _⟩
      · have e : B = true := by rw [← HB.out]; unfold goesP; simp [hw]; omega
        have hwb : (wk != 1) = true := by simp [hw]
        subst e
        clear HB
        go_enter Tryz.func140, Tryz.ntmps140
        go_wp2
        go_ret
        exact ⟨rfl, hb2 _ _⟩
    · by_cases h12 : k = 1 ∨ k = 2
      · by_cases hw : wk = 1
        · by_cases hl : wl = l
          · have e : B = true := by rw [← HB.out]; unfold goesP; rcases h12 with rfl | rfl <;> simp [hw, hl]
            subst e
            clear HB
            rcases h12 with rfl | rfl <;> (go_enter Tryz.func140, Tryz.ntmps140; go_wp2; go_ret; exact ⟨rfl, hb2 _ _⟩)
          · have e : B = false := by rw [← HB.out]; unfold goesP; rcases h12 with rfl | rfl <;> simp [hw, hl]
            have hlb : (wl == l) = false := by simp [hl]
            subst e
            clear HB
            rcases h12 with rfl | rfl <;> (go_enter Tryz.func140, Tryz.ntmps140; go_wp2; go_ret; exact ⟨rfl, hb2 _ _⟩)
        · have e : B = true := by rw [← HB.out]; unfold goesP; rcases h12 with rfl | rfl <;> simp [hw] <;> omega
          have hwb : (wk != 1) = true := by simp [hw]
          subst e
          clear HB
          rcases h12 with rfl | rfl <;> (go_enter Tryz.func140, Tryz.ntmps140; go_wp2; go_ret; exact ⟨rfl, hb2 _ _⟩)
      · have hk1 : ¬ k = 1 := fun e => h12 (.inl e)
        have hk2 : ¬ k = 2 := fun e => h12 (.inr e)
        have e : B = false := by rw [← HB.out]; unfold goesP; simp [h3, hk1, hk2]
        subst e
        clear HB h12
        go_enter Tryz.func140, Tryz.ntmps140
        go_wp2
        go_ret
        exact ⟨rfl, hb2 _ _⟩
end Go.Proofs.YtnmaknnnmjfhkagGreatDoor

namespace Go.Proofs.YtnmaknnnmjfhkagGreatDoor
open Go.RowKit
set_option maxRecDepth 4000
set_option linter.unusedVariables false
set_option linter.unusedSimpArgs false
def foldE : List ByteArray → List Pr → Option (List Pr)
  | [], rs => some rs
  | e :: es, rs => match resS e with
    | none => none
    | some b => if apC rs b = 0 then foldE es (apU rs b) else none
theorem foldE_ok : ∀ (es : List ByteArray) (rs : List Pr), stateOk rs = true → ∀ r, foldE es rs = some r → stateOk r = true
  | [], rs, h, r, hr => by cases hr; exact h
  | e :: es, rs, h, r, hr => by
    rw [foldE] at hr
    split at hr
    · cases hr
    · split at hr
      · rename_i hc
        exact foldE_ok es _ (apU_ok hc) r hr
      · cases hr
theorem foldE_none {e : ByteArray} {es : List ByteArray} {rs : List Pr} (h : resS e = none) : foldE (e :: es) rs = none := by rw [foldE, h]
theorem foldE_no {e : ByteArray} {es : List ByteArray} {rs : List Pr} {b : List Ch} (h : resS e = some b) (hc : apC rs b ≠ 0) : foldE (e :: es) rs = none := by rw [foldE, h]; simp only; rw [if_neg hc]
theorem foldE_yes {e : ByteArray} {es : List ByteArray} {rs : List Pr} {b : List Ch} (h : resS e = some b) (hc : apC rs b = 0) : foldE (e :: es) rs = foldE es (apU rs b) := by rw [foldE, h]; simp only; rw [if_pos hc]
theorem stateOk_nil : stateOk [] = true := by decide
theorem stateOk_sizes {rs : List Pr} (h : stateOk rs = true) : rs.length ≤ 100 ∧ ∀ x ∈ rs, x.1.size ≤ 1048576 ∧ x.2.size ≤ 1048576 := by
  obtain ⟨h1, h2, h3⟩ := (stateOk_iff rs).1 h
  refine ⟨h1, fun x hx => ?_⟩
  obtain ⟨k1, k2⟩ := h2 x hx
  unfold kOk at k1
  unfold vOk at k2
  simp at k1 k2
  omega
theorem batchOk_sizes {b : List Ch} (h : batchOk b = true) : b.length ≤ 20 ∧ ∀ x ∈ b, x.1.size ≤ 1048576 ∧ x.2.1.size ≤ 1048576 := by
  obtain ⟨h1, h2⟩ := batchOk_of h
  refine ⟨by omega, fun x hx => ?_⟩
  obtain ⟨k1, k2⟩ := chOk_parts (h2 x hx)
  unfold kOk at k1
  unfold vOk at k2
  simp at k1 k2
  omega
def rtGood (x : RtT) : Prop := (0 ≤ x.1 ∧ x.1 ≤ 1000000000) ∧ (0 ≤ x.2.1 ∧ x.2.1 ≤ 1) ∧ (1 ≤ x.2.2.1 ∧ x.2.2.1 ≤ 999999000) ∧ (0 ≤ x.2.2.2 ∧ x.2.2.2 ≤ 60000)
theorem rootOf_good {s : ByteArray} {a n : Int} {x : RtT} (h : rootOf s a n = some x) : rtGood x := by
  unfold rootOf at h
  split at h
  · cases h
  · rename_i k l m p hp
    have hr := rpRes_some hp
    split at h
    · rename_i hh
      cases h
      obtain ⟨h1, h2, h3⟩ := hh
      have hf : rtOk (ptH p) (ptF p) := by
        by_cases e : rtOk (ptH p) (ptF p)
        · exact e
        · exfalso
          unfold rtForm at h2
          rw [if_neg e] at h2
          have h64 := hr.1
          rw [← h2] at h64
          exact absurd h64 (by decide)
      unfold rtOk at hf
      unfold rtGood
      simp only
      omega
    · cases h
theorem rtMax_good {b : RtT} {o : Option RtT} (hb : rtGood b) (ho : ∀ x, o = some x → rtGood x) : rtGood (rtMax b o) := by
  unfold rtMax
  split
  · exact hb
  · rename_i r
    split
    · exact ho _ rfl
    · exact hb
theorem frOf_good (s0 s1 : ByteArray) (n : Int) : rtGood (frOf s0 s1 n) := by
  unfold frOf
  exact rtMax_good (rtMax_good (by unfold rtGood; simp) (fun x hx => rootOf_good hx)) (fun x hx => rootOf_good hx)
theorem frD_good {ss : List ByteArray} {ws : List (Int × ByteArray)} {n : Int} (h : diskOk ss ws = true ∧ 1 ≤ n ∧ n ≤ 8) : rtGood (frD ss ws n) := by
  unfold frD
  rw [if_pos h]
  exact frOf_good _ _ _
def opX (ss : List ByteArray) (ws : List (Int × ByteArray)) (n : Int) : Scd := scD ss ws (2 + (frD ss ws n).2.1 * hv ss.length) (hv ss.length) (frD ss ws n).2.2.1 (frD ss ws n).2.2.2 n
theorem hv_half {S : Int} (h : 8 ≤ S ∧ S ≤ 200) : 2 + 2 * hv S ≤ S := by unfold hv; rw [if_pos h]; omega
theorem half_mul {H q : Int} (h : 0 ≤ H ∧ H ≤ 1) (hq : 0 ≤ q) : 0 ≤ H * q ∧ H * q ≤ q := by
  have : H = 0 ∨ H = 1 := by omega
  rcases this with rfl | rfl <;> omega
theorem opX_ok {ss : List ByteArray} {ws : List (Int × ByteArray)} {n : Int} (h : diskOk ss ws = true ∧ 1 ≤ n ∧ n ≤ 8) : scOk ss ws (2 + (frD ss ws n).2.1 * hv ss.length) (hv ss.length) n := by
  have hg := frD_good h
  obtain ⟨⟨hn1, hn2, hn3⟩, h64, hw⟩ := diskOk_of h.1
  have h1 := hv_yes (S := (ss.length : Int)) (by omega)
  have h2 := hv_half (S := (ss.length : Int)) (by omega)
  have h3 := half_mul hg.2.1 (q := hv ss.length) (by omega)
  exact ⟨h.1, h.2, by omega, by omega, by omega, by omega⟩
theorem opX_rng {ss : List ByteArray} {ws : List (Int × ByteArray)} {n : Int} (h : diskOk ss ws = true ∧ 1 ≤ n ∧ n ≤ 8) : (0 ≤ (opX ss ws n).2.1 ∧ (opX ss ws n).2.1 ≤ hv ss.length) ∧ (0 ≤ (opX ss ws n).2.2 ∧ (opX ss ws n).2.2 ≤ 60000) ∧ (opX ss ws n).1.length ≤ 99 ∧ ∀ e ∈ (opX ss ws n).1, e.size ≤ 6336 := by
  have hg := frD_good h
  have hok := opX_ok h
  obtain ⟨⟨hn1, hn2, hn3⟩, h64, hw⟩ := diskOk_of h.1
  have h1 := hv_yes (S := (ss.length : Int)) (by omega)
  unfold opX scD
  rw [if_pos hok]
  obtain ⟨q, hq⟩ : ∃ q : Nat, hv ss.length = (q : Int) := ⟨(hv ss.length).toNat, by omega⟩
  rw [hq] at h1 ⊢
  simp only [Int.toNat_natCast]
  have u1 := scanP_used (fun k => (syncs ws ss).getD k ByteArray.empty) (2 + (frD ss ws n).2.1 * (q : Int)).toNat (frD ss ws n).2.2.1 n q 0 0 (frD ss ws n).2.2.2 ByteArray.empty ([], 0, (frD ss ws n).2.2.2) (by simp)
  have u2 := scanP_life (fun k => (syncs ws ss).getD k ByteArray.empty) (2 + (frD ss ws n).2.1 * (q : Int)).toNat (frD ss ws n).2.2.1 n q 0 0 (frD ss ws n).2.2.2 ByteArray.empty ([], 0, (frD ss ws n).2.2.2)
  have u3 := scanP_size (fun k => (syncs ws ss).getD k ByteArray.empty) (2 + (frD ss ws n).2.1 * (q : Int)).toNat (frD ss ws n).2.2.1 n q 0 0 (frD ss ws n).2.2.2 ByteArray.empty ([], 0, (frD ss ws n).2.2.2) 6336 (by show 0 + 64 * q ≤ 6336; omega) (by intro e he; cases he)
  simp only [List.length_nil] at u3
  refine ⟨by omega, ?_, by omega, u3.1⟩
  have := hg.2.2.2
  rcases u2 with u2 | u2
  · rw [u2]; exact this
  · omega
def openD (ss : List ByteArray) (ws : List (Int × ByteArray)) (n : Int) : Dd :=
  if diskOk ss ws = true ∧ 1 ≤ n ∧ n ≤ 8 then
    match foldE (opX ss ws n).1 [] with
    | none => noD 2
    | some rs =>
      if 60000 < (opX ss ws n).2.2 + 1 then noD 3
      else if hv ss.length - 1 < roomOf (snapOf rs) n then noD 4
      else if hv ss.length ≤ (opX ss ws n).2.1 then moveD n ss.length ((opX ss ws n).2.2 + 1) (frD ss ws n).1 (frD ss ws n).2.1 (frD ss ws n).2.2.1 rs
      else ⟨0, n, ss.length, (opX ss ws n).2.2 + 1, (frD ss ws n).1, (frD ss ws n).2.1, (frD ss ws n).2.2.1, (frD ss ws n).2.2.2, (opX ss ws n).2.1 + 1, 0, rs,
        [(false, 2 + (frD ss ws n).2.1 * hv ss.length + (opX ss ws n).2.1, formOf 3 ((opX ss ws n).2.2 + 1) ((frD ss ws n).2.2.1 + (opX ss ws n).2.1) ByteArray.empty n), (true, 0, ByteArray.empty)]⟩
  else noD 1
section
variable {ss : List ByteArray} {ws : List (Int × ByteArray)} {n T H F R U L : Int} {es : List ByteArray} {rs : List Pr}
theorem openD_1 (h : ¬ (diskOk ss ws = true ∧ 1 ≤ n ∧ n ≤ 8)) : openD ss ws n = noD 1 := by unfold openD; rw [if_neg h]
theorem openD_2 (h : diskOk ss ws = true ∧ 1 ≤ n ∧ n ≤ 8) (h2 : opX ss ws n = (es, U, L)) (h3 : foldE es [] = none) : openD ss ws n = noD 2 := by
  unfold openD; rw [if_pos h, h2]; simp only; rw [h3]
theorem openD_3 (h : diskOk ss ws = true ∧ 1 ≤ n ∧ n ≤ 8) (h2 : opX ss ws n = (es, U, L)) (h3 : foldE es [] = some rs) (h4 : 60000 < L + 1) : openD ss ws n = noD 3 := by
  unfold openD; rw [if_pos h, h2]; simp only; rw [h3]; simp only; rw [if_pos h4]
theorem openD_4 (h : diskOk ss ws = true ∧ 1 ≤ n ∧ n ≤ 8) (h2 : opX ss ws n = (es, U, L)) (h3 : foldE es [] = some rs) (h4 : ¬ 60000 < L + 1) (h5 : hv ss.length - 1 < roomOf (snapOf rs) n) : openD ss ws n = noD 4 := by
  unfold openD; rw [if_pos h, h2]; simp only; rw [h3]; simp only; rw [if_neg h4, if_pos h5]
theorem openD_5 (h : diskOk ss ws = true ∧ 1 ≤ n ∧ n ≤ 8) (h1 : frD ss ws n = (T, H, F, R)) (h2 : opX ss ws n = (es, U, L)) (h3 : foldE es [] = some rs) (h4 : ¬ 60000 < L + 1) (h5 : ¬ hv ss.length - 1 < roomOf (snapOf rs) n) (h6 : hv ss.length ≤ U) : openD ss ws n = moveD n ss.length (L + 1) T H F rs := by
  unfold openD; rw [if_pos h, h2, h1]; simp only; rw [h3]; simp only; rw [if_neg h4, if_neg h5, if_pos h6]
theorem openD_6 (h : diskOk ss ws = true ∧ 1 ≤ n ∧ n ≤ 8) (h1 : frD ss ws n = (T, H, F, R)) (h2 : opX ss ws n = (es, U, L)) (h3 : foldE es [] = some rs) (h4 : ¬ 60000 < L + 1) (h5 : ¬ hv ss.length - 1 < roomOf (snapOf rs) n) (h6 : ¬ hv ss.length ≤ U) :
    openD ss ws n = ⟨0, n, ss.length, L + 1, T, H, F, R, U + 1, 0, rs, [(false, 2 + H * hv ss.length + U, formOf 3 (L + 1) (F + U) ByteArray.empty n), (true, 0, ByteArray.empty)]⟩ := by
  unfold openD; rw [if_pos h, h2, h1]; simp only; rw [h3]; simp only; rw [if_neg h4, if_neg h5, if_neg h6]
end
theorem moveD_bound {W S L T H F : Int} {rs : List Pr} (hl : rs.length ≤ 1048576) (hok : mvOk W S L T H F rs) : (moveD W S L T H F rs).rs.length ≤ 1048576 ∧ (moveD W S L T H F rs).ops.length ≤ 1000 := by
  unfold moveD
  cases h2 : mvFit S T F with
  | false => simp [noD]
  | true =>
    obtain ⟨⟨h1, h1'⟩, h3, h4, h5, h6, h7, h8⟩ := hok
    have hq := hv_yes h3
    have hm := mvPages_len L (F + hv S) W.toNat (56 - W.toNat) (by omega) (by omega) (by omega) (snapOf rs)
    rw [show ((W.toNat : Nat) : Int) = W by omega] at hm
    simp only [if_true, mvD, List.length_append, putOps_length]
    refine ⟨hl, ?_⟩
    simp
    omega
theorem openD_bound (ss : List ByteArray) (ws : List (Int × ByteArray)) (n : Int) : (openD ss ws n).rs.length ≤ 1048576 ∧ (openD ss ws n).ops.length ≤ 1000 := by
  by_cases h : diskOk ss ws = true ∧ 1 ≤ n ∧ n ≤ 8
  · obtain ⟨T, H, F, R, hFR⟩ : ∃ T H F R, frD ss ws n = (T, H, F, R) := ⟨_, _, _, _, rfl⟩
    obtain ⟨es, U, L, hX⟩ : ∃ es U L, opX ss ws n = (es, U, L) := ⟨_, _, _, rfl⟩
    have hg := frD_good h
    have hx := opX_rng h
    rw [hFR] at hg
    rw [hX] at hx
    unfold rtGood at hg
    simp only at hg hx
    obtain ⟨⟨hn1, hn2, hn3⟩, _, _⟩ := diskOk_of h.1
    cases hf : foldE es [] with
    | none => rw [openD_2 h hX hf]; simp [noD]
    | some rs =>
      have hrs := (stateOk_sizes (foldE_ok es [] stateOk_nil rs hf)).1
      by_cases h4 : 60000 < L + 1
      · rw [openD_3 h hX hf h4]; simp [noD]
      · by_cases h5 : hv ss.length - 1 < roomOf (snapOf rs) n
        · rw [openD_4 h hX hf h4 h5]; simp [noD]
        · by_cases h6 : hv ss.length ≤ U
          · rw [openD_5 h hFR hX hf h4 h5 h6]
            exact moveD_bound (by omega) ⟨h.2, by omega, by omega, hg.1, hg.2.1, hg.2.2.1, by omega⟩
          · rw [openD_6 h hFR hX hf h4 h5 h6]
            simp
            omega
  · rw [openD_1 h]; simp [noD]
end Go.Proofs.YtnmaknnnmjfhkagGreatDoor

namespace Go.Proofs.YtnmaknnnmjfhkagGreatDoor
open Go.RowKit
set_option maxRecDepth 8000
set_option linter.unusedVariables false
set_option linter.unusedSimpArgs false
def FdPost (w w' : World) (e : Ending) (res : Option (List Pr)) : Prop := ∃ a c, e = .returned (.tuple #[stV a (res.getD []).length c, .bool res.isSome]) ∧ (res.getD []).length ≤ c ∧ OwnS w' a (prcells (res.getD [])) ∧ (∀ g, blk a (res.getD []).length = some g → w.heap.size ≤ g) ∧ Below w.heap.size w w'
theorem resS_ok {s : ByteArray} {o : List Ch} (h : resS s = some o) : batchOk o = true := by
  rw [← res_eq] at h
  unfold resI at h
  split at h
  · cases h
  · split at h
    · rename_i hh; cases h; exact hh
    · cases h
theorem ownS_chs {w : World} {a : Option Addr} {rs : List Ch} (h : OwnS w a (chcells rs)) : Chs w a rs := by
  rcases h with h | ⟨g, rfl, h⟩
  · refine .inl ?_
    cases rs with
    | nil => rfl
    | cons x r => obtain ⟨x0, x1, x2⟩ := x; exact absurd h (by simp [chcells])
  · exact h.chs
theorem prcells_neF {l : List Pr} (h : prcells l ≠ []) : l.length ≠ 0 := fun e => h (by rw [List.eq_nil_of_length_eq_zero e]; rfl)
theorem OwnS.setF {w : World} {a : Option Addr} {cs : List Value} (h : OwnS w a cs) (p : Addr) (hp : ∀ g, a = some ⟨g, 0, none⟩ → cs ≠ [] → p.block ≠ g) (v : Value) : OwnS (w.setCell p v) a cs := by
  by_cases h0 : cs = []
  · exact .inl h0
  · rcases h with h | ⟨g, rfl, hr⟩
    · exact absurd h h0
    · exact .inr ⟨g, rfl, hr.other p (hp g rfl h0) v⟩
structure FdB (w W : World) (rs : List Pr) (sa : Option Addr) (sc : Nat) : Prop where
  rb : Row W w.heap.size [.slice none 0 0]
  st : Row W (w.heap.size + 1) [.slice sa rs.length sc]
  own : OwnS W sa (prcells rs)
  lo : ∀ g, blk sa rs.length = some g → w.heap.size + 2 ≤ g
  cap : rs.length ≤ sc
  be : Below w.heap.size w W
theorem FdB.new (w : World) : FdB w ((w.alloc (.cells #[.slice none 0 0] 31)).alloc (.cells #[.slice none 0 0] 31)) [] none 0 :=
  ⟨(row_new' w #[.slice none 0 0] 31 w.heap.size rfl).alloc _, row_new' _ #[.slice none 0 0] 31 _ (by simp), .inl rfl, fun g hg => (by cases hg), Nat.le_refl _, ((Below.refl _ _).alloc (Nat.le_refl _) _).alloc (by simp) _⟩
theorem FdB.below {w W W' : World} {rs : List Pr} {sa : Option Addr} {sc : Nat} (h : FdB w W rs sa sc) (hb : Below W.heap.size W W') : FdB w W' rs sa sc := ⟨h.rb.below hb, h.st.below hb, h.own.below hb, h.lo, h.cap, h.be.trans (hb.mono h.be.size)⟩
theorem FdB.set {w X : World} {W' : Obj} {rs rs' : List Pr} {sa sa' : Option Addr} {sc sc' : Nat} (h : FdB w (X.alloc W') rs sa sc) (ho : OwnS X sa' (prcells rs')) (hc : rs'.length ≤ sc') (hlo : ∀ g, blk sa' rs'.length = some g → w.heap.size + 2 ≤ g) :
    FdB w ((X.alloc W').setCell ⟨w.heap.size + 1, 0, none⟩ (.slice sa' rs'.length sc')) rs' sa' sc' := by
  refine ⟨h.rb.other _ (by show w.heap.size + 1 ≠ w.heap.size; omega) _, h.st.set 0 (by simp) _, OwnS.setF (ho.below ((Below.refl _ _).alloc (Nat.le_refl _) _)) _ (fun g hg hn => ?_) _, hlo, hc, h.be.setCell (by show w.heap.size ≤ w.heap.size + 1; omega) _⟩
  have := hlo g (by subst hg; exact blk_pos _ _ _ (prcells_neF hn))
  show w.heap.size + 1 ≠ g
  omega
set_option maxHeartbeats 16000000 in
theorem fold_s (a : Option Addr) (es : List ByteArray) (c : Nat) (w : World) (h : Strs w a es) (hl : es.length ≤ 1000) (hs : ∀ e ∈ es, e.size ≤ 1048576) :
    Calls Tryz.prog 53 #[.slice a es.length c] w fun e w' => FdPost w w' e (foldE es []) := by
  obtain ⟨RES, HRES⟩ : ∃ RES, Hid (RES = foldE es []) := ⟨_, hid rfl⟩
  rw [← HRES.out]
  have HH := hid h
  have HS := hid hs
  clear h hs
  go_enter Tryz.func53, Tryz.ntmps53
  go_wp2
  go_loopw [5] (fun iv wr => ∃ (i : Nat) (rs : List Pr) (sa : Option Addr) (sc : Nat) (W : World), W = wr ∧ iv = .int .i64 (i : Int) ∧ i ≤ es.length ∧ stateOk rs = true ∧ Hid (foldE (es.drop i) rs = RES) ∧ FdB w W rs sa sc) (fun iv _ => ((es.length : Int) - intOf iv).toNat)
  case atStart => exact ⟨0, [], none, 0, _, rfl, rfl, Nat.zero_le _, stateOk_nil, by show _ = _; rw [HRES.out]; rfl, FdB.new w⟩
  case round =>
    obtain ⟨i, rs, sa, sc, wr, rfl, rfl, hi, hok, HF, D⟩ := hrel
    have HD := hid D
    have d1 := D.st.cell 0 _ rfl
    have d1l := D.st.lt
    have d0 := D.rb.cell 0 _ rfl
    have d0l := D.rb.lt
    have d0f := D.rb.froz 0 (by simp)
    have hok' := stateOk_sizes hok
    have hrl := hok'.1
    have HOK := hid hok
    have HSZ := hid hok'.2
    clear hok hok' D
    by_cases hlt : i < es.length
    · have hlt' : (i : Int) < (es.length : Int) := by omega
      have hi0 : (0 : Int) ≤ (i : Int) := by omega
      have hw1 : IntKind.i64.wrap ((i : Int) + 1) = (i : Int) + 1 := by simp [IntKind.wrap, IntKind.bits, IntKind.signed]; omega
      obtain ⟨b, o, s, rfl, hc, HE⟩ := (HH.out.below HD.out.be).at hlt
      have hes : s.size ≤ 1048576 := HS.out s (by rw [HE.out]; simp [List.getD, hlt])
      have hdr : es.drop i = s :: es.drop (i + 1) := by rw [HE.out]; simp [List.getD, hlt]
      have hbl : b < wr.heap.size := by have := World.block_lt_of_cell? wr _ hc; simpa using this
      have HRB := hid (fun wx => read_s s wx hes)
      skip
      rw [hdr] at HF
      have HDR := hid hdr
      clear hdr
      cases hR : resS s with
      | none =>
        rw [hR] at HRB
        have HN : Hid (RES = none) := by show _ = _; rw [← HF.out]; exact foldE_none hR
        clear hR
        go_wp2_with fail
        refine (HRB.out _).mono ?_
        rintro e w5 ⟨ab, cb, rfl, _, _, hb5⟩
        simp only [Option.getD_none, Option.isSome_none, List.length_nil]
        have D5 := HD.out.below hb5
        have HD5 := hid D5
        have r0 := D5.rb.cell 0 _ rfl
        have r0l := D5.rb.lt
        have r0f := D5.rb.froz 0 (by simp)
        clear d1 d1l d0 d0l d0f D5 hb5 hc
        go_wp2
        refine bodyPost_ret (v := .tuple #[stV none 0 0, .bool false]) (by simp [results, Tryz.results53, go_sem, r0, stV]) rfl ?_
        rw [HN.out]
        exact ⟨none, 0, rfl, Nat.le_refl _, .inl rfl, fun g hg => (by cases hg), HD5.out.be.setCell (by show w.heap.size ≤ w.heap.size; omega) _⟩
      | some bb =>
        rw [hR] at HRB
        have hbs := batchOk_sizes (resS_ok hR)
        have HBS := hid hbs.2
        have hbl2 := hbs.1
        clear hbs
        by_cases hc0 : apC rs bb = 0
        · have HN : Hid (foldE (es.drop (i + 1)) (apU rs bb) = RES) := by show _ = _; rw [← HF.out]; exact (foldE_yes hR hc0).symm
          have hU : apR rs bb = apU rs bb := by unfold apR; rw [if_pos hc0]
          have HOU := hid (apU_ok hc0)
          clear hR
          go_wp2_with fail
          refine (HRB.out _).mono ?_
          rintro e w5 ⟨ab, cb, rfl, ho5, hg5, hb5⟩
          simp only [Option.getD_some, Option.isSome_some] at ho5 hg5 ⊢
          have D5 := HD.out.below hb5
          have HD5 := hid D5
          have r1 := D5.st.cell 0 _ rfl
          have r1l := D5.st.lt
          have HAP := hid (apply_s sa rs sc ab bb cb w5 D5.own.prs (by omega) HSZ.out (ownS_chs ho5) (by omega) HBS.out)
          rw [hU, hc0] at HAP
          clear d1 d1l d0 d0l d0f D5 hb5 hc ho5 hg5
          go_wp2_with fail
          refine HAP.out.mono ?_
          rintro e w6 ⟨a6, c6, rfl, hc6, ho6, hg6, hb6⟩
          have D6 := (HD5.out.below hb6).below (below_new w6 (.cells #[.slice a6 (apU rs bb).length c6] 31))
          have HD6 := hid (D6.set ho6 hc6 (fun g hg => by have := hg6 g hg; omega))
          have x1 := D6.st.cell 0 _ rfl
          have x1f := D6.st.froz 0 (by simp)
          have x1l := D6.st.lt
          have x6 : w6.heap.size ≠ w.heap.size + 1 := by have := (HD5.out.below hb6).st.lt; omega
          clear r1 r1l D6 hb6 ho6 hg6 hc0 hU
          go_wp2
          exact ⟨⟨i + 1, _, a6, c6, _, rfl, by simp, by omega, HOU.out, HN, HD6.out⟩, by simp [intOf]; omega⟩
        · have HN : Hid (RES = none) := by show _ = _; rw [← HF.out]; exact foldE_no hR hc0
          have hU : apR rs bb = [] := by unfold apR; rw [if_neg hc0]
          have hcb : (apC rs bb == 0) = false := by simp [hc0]
          have hcb2 : (apC rs bb != 0) = true := by simp [hc0]
          clear hR
          go_wp2_with fail
          refine (HRB.out _).mono ?_
          rintro e w5 ⟨ab, cb, rfl, ho5, hg5, hb5⟩
          simp only [Option.getD_some, Option.isSome_some] at ho5 hg5 ⊢
          have D5 := HD.out.below hb5
          have HD5 := hid D5
          have r1 := D5.st.cell 0 _ rfl
          have r1l := D5.st.lt
          have HAP := hid (apply_s sa rs sc ab bb cb w5 D5.own.prs (by omega) HSZ.out (ownS_chs ho5) (by omega) HBS.out)
          rw [hU] at HAP
          clear d1 d1l d0 d0l d0f D5 hb5 hc ho5 hg5 hU
          go_wp2_with fail
          refine HAP.out.mono ?_
          rintro e w6 ⟨a6, c6, rfl, hc6, ho6, hg6, hb6⟩
          have D6 := (HD5.out.below hb6).below (below_new w6 (.cells #[.slice a6 0 c6] 31))
          have HD6 := hid D6
          have r0 := D6.rb.cell 0 _ rfl
          have r0l := D6.rb.lt
          have r0f := D6.rb.froz 0 (by simp)
          clear r1 r1l D6 hb6 ho6 hg6
          go_wp2
          refine bodyPost_ret (v := .tuple #[stV none 0 0, .bool false]) (by simp [results, Tryz.results53, go_sem, r0, stV]) rfl ?_
          rw [HN.out]
          exact ⟨none, 0, rfl, Nat.le_refl _, .inl rfl, fun g hg => (by cases hg), HD6.out.be.setCell (by show w.heap.size ≤ w.heap.size; omega) _⟩
    · have HN : Hid (RES = some rs) := by show _ = _; rw [← HF.out, List.drop_of_length_le (by omega)]; rfl
      have hlt' : ¬ ((i : Int) < (es.length : Int)) := by omega
      have hne : ¬ (w.heap.size = w.heap.size + 1) := by omega
      go_wp2
      refine bodyPost_ret (v := .tuple #[stV sa rs.length sc, .bool true]) (by simp [results, Tryz.results53, go_sem, d0, stV]) rfl ?_
      rw [HN.out]
      refine ⟨sa, sc, rfl, HD.out.cap, OwnS.setF HD.out.own ⟨w.heap.size, 0, none⟩ (fun g hg hn => ?_) _, fun g hg => by have := HD.out.lo g hg; omega, HD.out.be.setCell (by show w.heap.size ≤ w.heap.size; omega) _⟩
      have := HD.out.lo g (by subst hg; exact blk_pos _ _ _ (prcells_neF hn))
      show w.heap.size ≠ g
      omega
end Go.Proofs.YtnmaknnnmjfhkagGreatDoor

namespace Go.Proofs.YtnmaknnnmjfhkagGreatDoor
open Go.RowKit
set_option maxRecDepth 4000
set_option linter.unusedVariables false
set_option linter.unusedSimpArgs false
@[reducible] def scV (a : Option Addr) (n c : Nat) (u l : Int) : Value := .agg #[.slice a n c, .int .i64 u, .int .i64 l]
theorem scpost_own {w w' : World} {e : Ending} {x : Scd} (h : ScPost w w' e x) : ∃ a c, e = .returned (scV a x.1.length c x.2.1 x.2.2) ∧ OwnS w' a (x.1.map Value.string) ∧ (∀ g, blk a x.1.length = some g → w.heap.size ≤ g) ∧ Below w.heap.size w w' := by
  obtain ⟨y, rfl, ho, hb⟩ := h
  rcases owns_forms ho with ⟨e1, e2⟩ | ⟨g, cap, e1, h1, h2, hr⟩
  · subst e1
    have : x.1 = [] := List.eq_nil_of_length_eq_zero e2
    exact ⟨none, 0, by rw [e2], .inl (by rw [this]; rfl), fun g hg => (by rw [e2] at hg; cases hg), hb⟩
  · subst e1
    refine ⟨_, cap, rfl, .inr ⟨g, rfl, hr⟩, fun g' hg => ?_, hb⟩
    have := blk_is hg
    omega
end Go.Proofs.YtnmaknnnmjfhkagGreatDoor

namespace Go.Proofs.YtnmaknnnmjfhkagGreatDoor
open Go.RowKit
set_option maxRecDepth 8000
set_option linter.unusedVariables false
set_option linter.unusedSimpArgs false
set_option maxHeartbeats 16000000 in
theorem fold_i (a : Option Addr) (es : List ByteArray) (c : Nat) (w : World) (h : Strs w a es) (hl : es.length ≤ 1000) (hs : ∀ e ∈ es, e.size ≤ 1048576) :
    Calls Tryz.prog 65 #[.slice a es.length c] w fun e w' => FdPost w w' e (foldE es []) := by
  obtain ⟨RES, HRES⟩ : ∃ RES, Hid (RES = foldE es []) := ⟨_, hid rfl⟩
  rw [← HRES.out]
  have HH := hid h
  have HS := hid hs
  clear h hs
  go_enter Tryz.func65, Tryz.ntmps65
  go_wp2
  go_loopw [13] (fun iv wr => ∃ (i : Nat) (rs : List Pr) (sa : Option Addr) (sc : Nat) (W : World), W = wr ∧ iv = .int .i64 (i : Int) ∧ i ≤ es.length ∧ stateOk rs = true ∧ Hid (foldE (es.drop i) rs = RES) ∧ FdB w W rs sa sc) (fun iv _ => ((es.length : Int) - intOf iv).toNat)
  case atStart => exact ⟨0, [], none, 0, _, rfl, rfl, Nat.zero_le _, stateOk_nil, by show _ = _; rw [HRES.out]; rfl, FdB.new w⟩
  case round =>
    obtain ⟨i, rs, sa, sc, wr, rfl, rfl, hi, hok, HF, D⟩ := hrel
    have HD := hid D
    have d1 := D.st.cell 0 _ rfl
    have d1l := D.st.lt
    have d0 := D.rb.cell 0 _ rfl
    have d0l := D.rb.lt
    have d0f := D.rb.froz 0 (by simp)
    have hok' := stateOk_sizes hok
    have hrl := hok'.1
    have HOK := hid hok
    have HSZ := hid hok'.2
    clear hok hok' D
    by_cases hlt : i < es.length
    · have hlt' : (i : Int) < (es.length : Int) := by omega
      have hi0 : (0 : Int) ≤ (i : Int) := by omega
      have hw1 : IntKind.i64.wrap ((i : Int) + 1) = (i : Int) + 1 := by simp [IntKind.wrap, IntKind.bits, IntKind.signed]; omega
      obtain ⟨b, o, s, rfl, hc, HE⟩ := (HH.out.below HD.out.be).at hlt
      have hes : s.size ≤ 1048576 := HS.out s (by rw [HE.out]; simp [List.getD, hlt])
      have hdr : es.drop i = s :: es.drop (i + 1) := by rw [HE.out]; simp [List.getD, hlt]
      have hbl : b < wr.heap.size := by have := World.block_lt_of_cell? wr _ hc; simpa using this
      have HRB := hid (fun wx => read_i s wx hes)
      rw [res_eq] at HRB
      rw [hdr] at HF
      have HDR := hid hdr
      clear hdr
      cases hR : resS s with
      | none =>
        rw [hR] at HRB
        have HN : Hid (RES = none) := by show _ = _; rw [← HF.out]; exact foldE_none hR
        clear hR
        go_wp2_with fail
        refine (HRB.out _).mono ?_
        rintro e w5 ⟨ab, cb, rfl, _, _, hb5⟩
        simp only [Option.getD_none, Option.isSome_none, List.length_nil]
        have D5 := HD.out.below hb5
        have HD5 := hid D5
        have r0 := D5.rb.cell 0 _ rfl
        have r0l := D5.rb.lt
        have r0f := D5.rb.froz 0 (by simp)
        clear d1 d1l d0 d0l d0f D5 hb5 hc
        go_wp2
        refine bodyPost_ret (v := .tuple #[stV none 0 0, .bool false]) (by simp [results, Tryz.results65, go_sem, r0, stV]) rfl ?_
        rw [HN.out]
        exact ⟨none, 0, rfl, Nat.le_refl _, .inl rfl, fun g hg => (by cases hg), HD5.out.be.setCell (by show w.heap.size ≤ w.heap.size; omega) _⟩
      | some bb =>
        rw [hR] at HRB
        have hbs := batchOk_sizes (resS_ok hR)
        have HBS := hid hbs.2
        have hbl2 := hbs.1
        clear hbs
        by_cases hc0 : apC rs bb = 0
        · have HN : Hid (foldE (es.drop (i + 1)) (apU rs bb) = RES) := by show _ = _; rw [← HF.out]; exact (foldE_yes hR hc0).symm
          have hU : apR rs bb = apU rs bb := by unfold apR; rw [if_pos hc0]
          have HOU := hid (apU_ok hc0)
          clear hR
          go_wp2_with fail
          refine (HRB.out _).mono ?_
          rintro e w5 ⟨ab, cb, rfl, ho5, hg5, hb5⟩
          simp only [Option.getD_some, Option.isSome_some] at ho5 hg5 ⊢
          have D5 := HD.out.below hb5
          have HD5 := hid D5
          have r1 := D5.st.cell 0 _ rfl
          have r1l := D5.st.lt
          have HAP := hid (apply_i sa rs sc ab bb cb w5 D5.own.prs (by omega) HSZ.out (ownS_chs ho5) (by omega) HBS.out)
          rw [hU, hc0] at HAP
          clear d1 d1l d0 d0l d0f D5 hb5 hc ho5 hg5
          go_wp2_with fail
          refine HAP.out.mono ?_
          rintro e w6 ⟨a6, c6, rfl, hc6, ho6, hg6, hb6⟩
          have D6 := (HD5.out.below hb6).below (below_new w6 (.cells #[.slice a6 (apU rs bb).length c6] 31))
          have HD6 := hid (D6.set ho6 hc6 (fun g hg => by have := hg6 g hg; omega))
          have x1 := D6.st.cell 0 _ rfl
          have x1f := D6.st.froz 0 (by simp)
          have x1l := D6.st.lt
          have x6 : w6.heap.size ≠ w.heap.size + 1 := by have := (HD5.out.below hb6).st.lt; omega
          clear r1 r1l D6 hb6 ho6 hg6 hc0 hU
          go_wp2
          exact ⟨⟨i + 1, _, a6, c6, _, rfl, by simp, by omega, HOU.out, HN, HD6.out⟩, by simp [intOf]; omega⟩
        · have HN : Hid (RES = none) := by show _ = _; rw [← HF.out]; exact foldE_no hR hc0
          have hU : apR rs bb = [] := by unfold apR; rw [if_neg hc0]
          have hcb : (apC rs bb == 0) = false := by simp [hc0]
          have hcb2 : (apC rs bb != 0) = true := by simp [hc0]
          clear hR
          go_wp2_with fail
          refine (HRB.out _).mono ?_
          rintro e w5 ⟨ab, cb, rfl, ho5, hg5, hb5⟩
          simp only [Option.getD_some, Option.isSome_some] at ho5 hg5 ⊢
          have D5 := HD.out.below hb5
          have HD5 := hid D5
          have r1 := D5.st.cell 0 _ rfl
          have r1l := D5.st.lt
          have HAP := hid (apply_i sa rs sc ab bb cb w5 D5.own.prs (by omega) HSZ.out (ownS_chs ho5) (by omega) HBS.out)
          rw [hU] at HAP
          clear d1 d1l d0 d0l d0f D5 hb5 hc ho5 hg5 hU
          go_wp2_with fail
          refine HAP.out.mono ?_
          rintro e w6 ⟨a6, c6, rfl, hc6, ho6, hg6, hb6⟩
          have D6 := (HD5.out.below hb6).below (below_new w6 (.cells #[.slice a6 0 c6] 31))
          have HD6 := hid D6
          have r0 := D6.rb.cell 0 _ rfl
          have r0l := D6.rb.lt
          have r0f := D6.rb.froz 0 (by simp)
          clear r1 r1l D6 hb6 ho6 hg6
          go_wp2
          refine bodyPost_ret (v := .tuple #[stV none 0 0, .bool false]) (by simp [results, Tryz.results65, go_sem, r0, stV]) rfl ?_
          rw [HN.out]
          exact ⟨none, 0, rfl, Nat.le_refl _, .inl rfl, fun g hg => (by cases hg), HD6.out.be.setCell (by show w.heap.size ≤ w.heap.size; omega) _⟩
    · have HN : Hid (RES = some rs) := by show _ = _; rw [← HF.out, List.drop_of_length_le (by omega)]; rfl
      have hlt' : ¬ ((i : Int) < (es.length : Int)) := by omega
      have hne : ¬ (w.heap.size = w.heap.size + 1) := by omega
      go_wp2
      refine bodyPost_ret (v := .tuple #[stV sa rs.length sc, .bool true]) (by simp [results, Tryz.results65, go_sem, d0, stV]) rfl ?_
      rw [HN.out]
      refine ⟨sa, sc, rfl, HD.out.cap, OwnS.setF HD.out.own ⟨w.heap.size, 0, none⟩ (fun g hg hn => ?_) _, fun g hg => by have := HD.out.lo g hg; omega, HD.out.be.setCell (by show w.heap.size ≤ w.heap.size; omega) _⟩
      have := HD.out.lo g (by subst hg; exact blk_pos _ _ _ (prcells_neF hn))
      show w.heap.size ≠ g
      omega
end Go.Proofs.YtnmaknnnmjfhkagGreatDoor
