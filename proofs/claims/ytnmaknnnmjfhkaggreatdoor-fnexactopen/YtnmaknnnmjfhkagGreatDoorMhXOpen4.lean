import Derived.Test.YtnmaknnnmjfhkagGreatDoorQhxOpenSnI
import Derived.Test.YtnmaknnnmjfhkagGreatDoorQhxOpenFbS
import Derived.Test.YtnmaknnnmjfhkagGreatDoorMhXOpen1
import Derived.Test.YtnmaknnnmjfhkagGreatDoorMhXOpen3
import Derived.Test.YtnmaknnnmjfhkagGreatDoorMhXOpen2
import Derived.Test.YtnmaknnnmjfhkagGreatDoorQhxOpenFnA
import Derived.Test.YtnmaknnnmjfhkagGreatDoorMhXOpen0
import Derived.Test.YtnmaknnnmjfhkagGreatDoorQhxOpenDsk
import Derived.RangeFuncNested
import Derived.RangeFuncBound
import Derived.RangeFuncCalls
import Derived.RangeFuncLeaves
import Derived.RangeFuncBox
import Derived.Shelf.Abstract
import Derived.Shelf.RegionOpenV
import Derived.WalkKit
import Derived.OwnWalkIn
import Derived.TacticsInMore
import Derived.LoopNIn
import Derived.LoopIn
import Derived.Sort.QuietIn
import Derived.Maps.AppendAt
import Derived.Maps.OwnIn
import Derived.WalkLawsBesides
import Derived.Test.YtnmaknnnmjfhkagGreatDoorQhxOpenRpL
import Derived.Test.YtnmaknnnmjfhkagGreatDoorAs

set_option maxHeartbeats 16000000
set_option maxRecDepth 8000
namespace Go.Proofs.YtnmaknnnmjfhkagGreatDoor
open Go.RowKit
set_option linter.unusedVariables false
set_option linter.unusedSimpArgs false
set_option maxRecDepth 4000

/-- How many pages batches have together. -/
def roomOf (bss : List (List Ch)) (n : Int) : Int := (bss.map fun b => npages (bOut b).size n).sum
theorem npages_bound (l : Nat) (n : Int) : 0 ≤ npages l n ∧ npages l n ≤ (l : Int) + 1 := by
  unfold npages nparts
  split
  · split
    · omega
    · have h := Nat.div_le_self (l - 1) (56 - n).toNat
      obtain ⟨q, hq⟩ : ∃ q, q = (l - 1) / (56 - n).toNat := ⟨_, rfl⟩
      rw [← hq] at h ⊢
      omega
  · omega
theorem bOut_bound (b : List Ch) : (bOut b).size ≤ 2460 := by
  unfold bOut
  split
  · rename_i h
    obtain ⟨h1, h2⟩ := batchOk_of h
    have := bForm_size b h2
    omega
  · simp
theorem roomOf_nil (n : Int) : roomOf [] n = 0 := rfl
theorem roomOf_snoc (bss : List (List Ch)) (b : List Ch) (n : Int) : roomOf (bss ++ [b]) n = roomOf bss n + npages (bOut b).size n := by simp [roomOf]
theorem roomOf_bound (bss : List (List Ch)) (n : Int) : 0 ≤ roomOf bss n ∧ roomOf bss n ≤ 2461 * (bss.length : Int) := by
  induction bss with
  | nil => exact ⟨Int.le_refl _, by simp [roomOf]⟩
  | cons b r ih =>
    have e : roomOf (b :: r) n = npages (bOut b).size n + roomOf r n := by simp [roomOf]
    have h1 := npages_bound (bOut b).size n
    have h2 := bOut_bound b
    rw [e, List.length_cons]
    omega
theorem takeR_snoc {α : Type} (l : List α) (k : Nat) (d : α) (h : k < l.length) : l.take (k + 1) = l.take k ++ [l.getD k d] := by
  rw [List.take_succ_eq_append_getElem h]
  simp [List.getD, h]

set_option maxHeartbeats 16000000 in
theorem room_s (a : Option Addr) (rs : List Pr) (c : Nat) (n : Int) (w : World) (h : Prs w a rs) (hl : rs.length ≤ 1048576) (hs : ∀ x ∈ rs, x.1.size ≤ 1048576 ∧ x.2.size ≤ 1048576) :
    Calls Tryz.prog 31 #[.agg #[.slice a rs.length c], .int .i64 n] w fun e w' => e = .returned (.int .i64 (roomOf (snapOf rs) n)) ∧ Below w.heap.size w w' := by
  have hb0 : Below w.heap.size w (w.alloc (.cells #[.slice a rs.length c] 31)) := (Below.refl _ _).alloc (Nat.le_refl _) _
  have hv := snap_s a rs c (w.alloc (.cells #[.slice a rs.length c] 31)) (h.below hb0) hl hs
  have HV := hid hv
  have HB0 := hid hb0
  clear hv hb0
  obtain ⟨bss, hbss⟩ : ∃ bss, bss = snapOf rs := ⟨_, rfl⟩
  have hbl := snapOf_len rs
  have HMB : Hid (∀ b ∈ bss, b.length ≤ 1048576 ∧ ∀ x ∈ b, x.1.size ≤ 1048576 ∧ x.2.1.size ≤ 1048576) := by
    intro b hb
    rw [hbss] at hb
    obtain ⟨h1, h2⟩ := snapOf_mem hb
    exact ⟨by omega, fun x hx => hs _ (h2 x hx)⟩
  rw [← hbss] at HV hbl ⊢
  clear hbss
  go_enter Tryz.func31, Tryz.ntmps31
  go_wp2_with (go_at_call 105; refine HV.out.mono ?_; rintro e w2 ⟨v, rfl, hbat, hb2⟩)
  obtain ⟨va, vc, rfl, hbt⟩ := hbat.bts
  have HBT := hid hbt
  have HBW := hid (HB0.out.trans (hb2.mono HB0.out.size))
  clear hbat hb2 hbt HV HB0
  go_loopw [5, 7] (fun y i wr => ∃ k : Nat, k ≤ bss.length ∧ i = .int .i64 (k : Int) ∧ y = .int .i64 (roomOf (bss.take k) n) ∧ Below w2.heap.size w2 wr) (fun _ i _ => bss.length - (intOf i).toNat)
  case atStart => exact ⟨0, Nat.zero_le _, rfl, rfl, Below.refl _ _⟩
  case round =>
    obtain ⟨k, hk, rfl, rfl, hbel⟩ := hrel
    by_cases hlt : k < bss.length
    · obtain ⟨g, p, cc, rfl, hg, hc, hch⟩ := (HBT.out.below hbel).at hlt
      have hlt' : (k : Int) < (bss.length : Int) := by omega
      have hk0 : (0 : Int) ≤ (k : Int) := by omega
      have hmem := HMB.out (bss.getD k []) (by simp [List.getD, hlt])
      have HST := hid (roomOf_snoc (bss.take k) (bss.getD k []) n)
      rw [← takeR_snoc bss k [] hlt] at HST
      have hR := roomOf_bound (bss.take k) n
      have hRl : (bss.take k).length ≤ 5 := by rw [List.length_take]; omega
      have hP := npages_bound (bOut (bss.getD k [])).size n
      have hO := bOut_bound (bss.getD k [])
      obtain ⟨b, hb⟩ : ∃ b, b = bss.getD k [] := ⟨_, rfl⟩
      rw [← hb] at hc hch hmem HST hP hO
      obtain ⟨r, hr⟩ : ∃ r, r = roomOf (bss.take k) n := ⟨_, rfl⟩
      rw [← hr] at HST hR ⊢
      have HF := hid (fun W (hW : Chs W p b) => formbatch_s p b cc W hW hmem.1 hmem.2)
      have HG := hid (fun W => pages_s (bOut b) n W (by omega))
      have HCH := hid hch
      have HBL := hid hbel
      obtain ⟨q, hq⟩ : ∃ q, q = npages (bOut b).size n := ⟨_, rfl⟩
      rw [← hq] at HG hP HST
      obtain ⟨bo, hbo⟩ : ∃ bo, bo = bOut b := ⟨_, rfl⟩
      rw [← hbo] at HF HG hP hO
      have hw0 : IntKind.i64.wrap (r + q) = r + q := by simp [IntKind.wrap, IntKind.bits, IntKind.signed]; omega
      clear hb hr hq hbo hmem hch hbel
      go_wp2_with (first | (go_at_call 103; refine (HF.out _ HCH.out).mono ?_; rintro e w3 ⟨rfl, hb3⟩) | (go_at_call 106; refine (HG.out _).mono ?_; rintro e w4 ⟨rfl, hb4⟩))
      refine ⟨⟨k + 1, by omega, by go_num, ?_, ?_⟩, by simp [intOf]; omega⟩
      · rw [HST.out]
      · exact HBL.out.trans ((hb3.trans (hb4.mono hb3.size)).mono HBL.out.size)
    · have hkl : k = bss.length := by omega
      subst hkl
      go_wp2
      go_ret
      exact ⟨by simp, HBW.out.trans (hbel.mono HBW.out.size)⟩
set_option maxHeartbeats 16000000 in
theorem room_i (a : Option Addr) (rs : List Pr) (c : Nat) (n : Int) (w : World) (h : Prs w a rs) (hc0 : rs.length ≤ c) (hl : rs.length ≤ 1048576) (hs : ∀ x ∈ rs, x.1.size ≤ 1048576 ∧ x.2.size ≤ 1048576) :
    Calls Tryz.prog 159 #[.agg #[.slice a rs.length c], .int .i64 n] w fun e w' => e = .returned (.int .i64 (roomOf (snapOf rs) n)) ∧ Below w.heap.size w w' := by
  have hb0 : Below w.heap.size w (w.alloc (.cells #[.slice a rs.length c] 31)) := (Below.refl _ _).alloc (Nat.le_refl _) _
  have hv := snap_i a rs c (w.alloc (.cells #[.slice a rs.length c] 31)) (h.below hb0) hc0 hl hs
  have HV := hid hv
  have HB0 := hid hb0
  clear hv hb0
  obtain ⟨bss, hbss⟩ : ∃ bss, bss = snapOf rs := ⟨_, rfl⟩
  have hbl := snapOf_len rs
  have HMB : Hid (∀ b ∈ bss, b.length ≤ 1048576 ∧ ∀ x ∈ b, x.1.size ≤ 1048576 ∧ x.2.1.size ≤ 1048576) := by
    intro b hb
    rw [hbss] at hb
    obtain ⟨h1, h2⟩ := snapOf_mem hb
    exact ⟨by omega, fun x hx => hs _ (h2 x hx)⟩
  rw [← hbss] at HV hbl ⊢
  clear hbss
  go_enter Tryz.func159, Tryz.ntmps159
  go_wp2_with (go_at_call 163; refine HV.out.mono ?_; rintro e w2 ⟨v, rfl, hbat, hb2⟩; obtain ⟨va, vc, rfl, hbt⟩ := hbat.bts)
  have HBT := hid hbt
  have HBW := hid (HB0.out.trans (hb2.mono HB0.out.size))
  clear hbat hb2 hbt HV HB0
  go_loopw [5, 11] (fun y i wr => ∃ k : Nat, k ≤ bss.length ∧ i = .int .i64 (k : Int) ∧ y = .int .i64 (roomOf (bss.take k) n) ∧ Below w2.heap.size w2 wr) (fun _ i _ => bss.length - (intOf i).toNat)
  case atStart => exact ⟨0, Nat.zero_le _, rfl, rfl, Below.refl _ _⟩
  case round =>
    obtain ⟨k, hk, rfl, rfl, hbel⟩ := hrel
    by_cases hlt : k < bss.length
    · obtain ⟨g, p, cc, rfl, hg, hc, hch⟩ := (HBT.out.below hbel).at hlt
      have hlt' : (k : Int) < (bss.length : Int) := by omega
      have hk0 : (0 : Int) ≤ (k : Int) := by omega
      have hmem := HMB.out (bss.getD k []) (by simp [List.getD, hlt])
      have HST := hid (roomOf_snoc (bss.take k) (bss.getD k []) n)
      rw [← takeR_snoc bss k [] hlt] at HST
      have hR := roomOf_bound (bss.take k) n
      have hRl : (bss.take k).length ≤ 5 := by rw [List.length_take]; omega
      have hP := npages_bound (bOut (bss.getD k [])).size n
      have hO := bOut_bound (bss.getD k [])
      obtain ⟨b, hb⟩ : ∃ b, b = bss.getD k [] := ⟨_, rfl⟩
      rw [← hb] at hc hch hmem HST hP hO
      obtain ⟨r, hr⟩ : ∃ r, r = roomOf (bss.take k) n := ⟨_, rfl⟩
      rw [← hr] at HST hR ⊢
      have HF := hid (fun W (hW : Chs W p b) => formbatch_i p b cc W hW hmem.1 hmem.2)
      have HG := hid (fun W => pages_i (bOut b) n W (by omega))
      have HCH := hid hch
      have HBL := hid hbel
      obtain ⟨q, hq⟩ : ∃ q, q = npages (bOut b).size n := ⟨_, rfl⟩
      rw [← hq] at HG hP HST
      obtain ⟨bo, hbo⟩ : ∃ bo, bo = bOut b := ⟨_, rfl⟩
      rw [← hbo] at HF HG hP hO
      have hw0 : IntKind.i64.wrap (r + q) = r + q := by simp [IntKind.wrap, IntKind.bits, IntKind.signed]; omega
      clear hb hr hq hbo hmem hch hbel
      go_wp2_with (first | (go_at_call 94; refine (HF.out _ HCH.out).mono ?_; rintro e w3 ⟨rfl, hb3⟩) | (go_at_call 95; refine (HG.out _).mono ?_; rintro e w4 ⟨rfl, hb4⟩))
      refine ⟨⟨k + 1, by omega, by go_num, ?_, ?_⟩, by simp [intOf]; omega⟩
      · rw [HST.out]
      · exact HBL.out.trans ((hb3.trans (hb4.mono hb3.size)).mono HBL.out.size)
    · have hkl : k = bss.length := by omega
      subst hkl
      go_wp2
      go_ret
      exact ⟨by simp, HBW.out.trans (hbel.mono HBW.out.size)⟩
end Go.Proofs.YtnmaknnnmjfhkagGreatDoor

namespace Go.Proofs.YtnmaknnnmjfhkagGreatDoor
open Go.RowKit
set_option maxRecDepth 4000
set_option linter.unusedVariables false
set_option linter.unusedSimpArgs false

/-- What Scan answers. -/
def scOk (ss : List ByteArray) (ws : List (Int × ByteArray)) (frm size n : Int) : Prop := diskOk ss ws = true ∧ (1 ≤ n ∧ n ≤ 8) ∧ 0 ≤ frm ∧ 0 ≤ size ∧ frm ≤ (ss.length : Int) ∧ size ≤ (ss.length : Int) - frm
instance (ss : List ByteArray) (ws : List (Int × ByteArray)) (frm size n : Int) : Decidable (scOk ss ws frm size n) := by unfold scOk; infer_instance
def scD (ss : List ByteArray) (ws : List (Int × ByteArray)) (frm size first life n : Int) : Scd :=
  if scOk ss ws frm size n then scanP (fun k => (syncs ws ss).getD k ByteArray.empty) frm.toNat first n size.toNat 0 0 life ByteArray.empty ([], 0, life) else ([], 0, 0)
/-- What a call leaves whose answer is a Scanned of its own. -/
def ScPost (w w' : World) (e : Ending) (x : Scd) : Prop := ∃ y, e = .returned (.agg #[y, .int .i64 x.2.1, .int .i64 x.2.2]) ∧ w'.ownsRow w.heap.size 9 1 y x.1.length (x.1.map Value.string) ∧ Below w.heap.size w w'
/-- While the document scans: its boxes. -/
structure ScB (w0 w : World) (RB G XB OT WS : Nat) (S : List Value) (cx : Nat) (xp : Value) (y : Value) (ents : List ByteArray) (u l wk wl wm : Int) (wp : ByteArray) : Prop where
  rb : Row w RB [.slice none 0 0, .int .i64 0, .int .i64 0]
  sec : Row w G S
  xb : Row w XB [.slice (some ⟨G, 0, none⟩) S.length cx, xp]
  ot : Row w OT [y, .int .i64 u, .int .i64 l]
  ws : Row w WS [.int .i64 wk, .int .i64 wl, .int .i64 wm, .string wp]
  own : w.ownsRow w0.heap.size 9 1 y ents.length (ents.map Value.string)
  o1 : w0.heap.size ≤ RB
  o2 : RB < G
  o3 : G < XB
  o4 : XB < OT
  o5 : OT < WS
  yo : ∀ k, y.ownBlock = some k → WS < k
  be : Below w0.heap.size w0 w
section
variable {w0 w w' : World} {RB G XB OT WS : Nat} {S : List Value} {cx : Nat} {xp : Value} {y : Value} {ents : List ByteArray} {u l wk wl wm : Int} {wp : ByteArray}
theorem ScB.below (h : ScB w0 w RB G XB OT WS S cx xp y ents u l wk wl wm wp) (hb : Below w.heap.size w w') : ScB w0 w' RB G XB OT WS S cx xp y ents u l wk wl wm wp :=
  ⟨h.rb.below hb, h.sec.below hb, h.xb.below hb, h.ot.below hb, h.ws.below hb, owns_below h.own hb, h.o1, h.o2, h.o3, h.o4, h.o5, h.yo, h.be.trans (hb.mono h.be.size)⟩
theorem ScB.own_ne (h : ScB w0 w RB G XB OT WS S cx xp y ents u l wk wl wm wp) {k : Nat} (hk : k ≤ WS) : y.ownBlock ≠ some k := fun e => by have := h.yo k e; omega
/-- The page that was last is set. -/
theorem ScB.setWas (h : ScB w0 w RB G XB OT WS S cx xp y ents u l wk wl wm wp) (k' l' m' : Int) (p' : ByteArray) :
    ScB w0 ((((w.setCell ⟨WS, 0, none⟩ (.int .i64 k')).setCell ⟨WS, 1, none⟩ (.int .i64 l')).setCell ⟨WS, 2, none⟩ (.int .i64 m')).setCell ⟨WS, 3, none⟩ (.string p')) RB G XB OT WS S cx xp y ents u l k' l' m' p' := by
  have o1 := h.o1; have o2 := h.o2; have o3 := h.o3; have o4 := h.o4; have o5 := h.o5
  have far : ∀ {g : Nat} {cs : List Value}, g ≠ WS → Row w g cs → Row ((((w.setCell ⟨WS, 0, none⟩ (.int .i64 k')).setCell ⟨WS, 1, none⟩ (.int .i64 l')).setCell ⟨WS, 2, none⟩ (.int .i64 m')).setCell ⟨WS, 3, none⟩ (.string p')) g cs := fun hg hr =>
    (((hr.other _ (Ne.symm hg) _).other _ (Ne.symm hg) _).other _ (Ne.symm hg) _).other _ (Ne.symm hg) _
  have hy := h.own_ne (Nat.le_refl WS)
  have bs : ∀ {x : World}, Below w0.heap.size w0 x → ∀ i v, Below w0.heap.size w0 (x.setCell ⟨WS, i, none⟩ v) := fun hx i v => hx.setCell (by show w0.heap.size ≤ WS; omega) _
  exact ⟨far (by omega) h.rb, far (by omega) h.sec, far (by omega) h.xb, far (by omega) h.ot, (((h.ws.set 0 (by simp) _).set 1 (by simp) _).set 2 (by simp) _).set 3 (by simp) _,
    ownsRow_setCell_other (ownsRow_setCell_other (ownsRow_setCell_other (ownsRow_setCell_other h.own hy _) hy _) hy _) hy _, o1, o2, o3, o4, o5, h.yo, bs (bs (bs (bs h.be _ _) _ _) _ _) _ _⟩
/-- What is found is set: Used and Life. -/
theorem ScB.setEnd (h : ScB w0 w RB G XB OT WS S cx xp y ents u l wk wl wm wp) (u' l' : Int) :
    ScB w0 ((w.setCell ⟨OT, 1, none⟩ (.int .i64 u')).setCell ⟨OT, 2, none⟩ (.int .i64 l')) RB G XB OT WS S cx xp y ents u' l' wk wl wm wp := by
  have o1 := h.o1; have o2 := h.o2; have o3 := h.o3; have o4 := h.o4; have o5 := h.o5
  have far : ∀ {g : Nat} {cs : List Value}, g ≠ OT → Row w g cs → Row ((w.setCell ⟨OT, 1, none⟩ (.int .i64 u')).setCell ⟨OT, 2, none⟩ (.int .i64 l')) g cs := fun hg hr => (hr.other _ (Ne.symm hg) _).other _ (Ne.symm hg) _
  have hy := h.own_ne (k := OT) (by omega)
  have bs : ∀ {x : World}, Below w0.heap.size w0 x → ∀ i v, Below w0.heap.size w0 (x.setCell ⟨OT, i, none⟩ v) := fun hx i v => hx.setCell (by show w0.heap.size ≤ OT; omega) _
  exact ⟨far (by omega) h.rb, far (by omega) h.sec, far (by omega) h.xb, (h.ot.set 1 (by simp) _).set 2 (by simp) _, far (by omega) h.ws,
    ownsRow_setCell_other (ownsRow_setCell_other h.own hy _) hy _, o1, o2, o3, o4, o5, h.yo, bs (bs h.be _ _) _ _⟩
/-- An entry is put behind. -/
theorem ScB.push (h : ScB w0 w RB G XB OT WS S cx xp y ents u l wk wl wm wp) {y' : Value} {ents' : List ByteArray} {H : Nat} (hown : w'.ownsRow w0.heap.size 9 1 y' ents'.length (ents'.map Value.string)) (hg : w.grownBy w' y.ownBlock) (hat : y.ownBlock = y'.ownBlock ∨ y'.ownBlock = some H) (hH : w.heap.size ≤ H) :
    ScB w0 (w'.setCell ⟨OT, 0, none⟩ y') RB G XB OT WS S cx xp y' ents' u l wk wl wm wp := by
  have o1 := h.o1; have o2 := h.o2; have o3 := h.o3; have o4 := h.o4; have o5 := h.o5
  have lW := h.ws.lt
  have yo' : ∀ k, y'.ownBlock = some k → WS < k := fun k hk => by
    rcases hat with e | e
    · exact h.yo k (e.trans hk)
    · rw [e] at hk; cases hk; omega
  have gr : ∀ {g : Nat} {cs : List Value}, g ≤ WS → Row w g cs → Row w' g cs := fun hle hr => hr.grown hg (fun e => h.own_ne hle e.symm)
  have far : ∀ {g : Nat} {cs : List Value}, g ≠ OT → Row w' g cs → Row (w'.setCell ⟨OT, 0, none⟩ y') g cs := fun hg hr => hr.other _ (Ne.symm hg) _
  have hy' : y'.ownBlock ≠ some OT := fun e => by have := yo' OT e; omega
  have be' : Below w0.heap.size w0 w' := h.be.trans (grown_below hg h.be.size (fun g e => (h.own.lt g e).1))
  exact ⟨far (by omega) (gr (by omega) h.rb), far (by omega) (gr (by omega) h.sec), far (by omega) (gr (by omega) h.xb), (gr (by omega) h.ot).set 0 (by simp) _, far (by omega) (gr (Nat.le_refl _) h.ws),
    ownsRow_setCell_other hown hy' _, o1, o2, o3, o4, o5, yo', be'.setCell (by show w0.heap.size ≤ OT; omega) _⟩
end
set_option maxHeartbeats 16000000 in
theorem goes_s (wk wl wm : Int) (wp : ByteArray) (k l m : Int) (p : ByteArray) (w : World) : Calls Tryz.prog 140 #[pageV wk wl wm wp, pageV k l m p] w fun e w' => e = .returned (.bool (goesP wk wl k l)) ∧ Below w.heap.size w w' := by
  have hb2 : ∀ o1 o2, Below w.heap.size w ((w.alloc o1).alloc o2) := fun o1 o2 => ((Below.refl _ _).alloc (Nat.le_refl _) _).alloc (by simp) _
  obtain ⟨B, hB⟩ : ∃ B, goesP wk wl k l = B := ⟨_, rfl⟩
  have HB := hid hB
  rw [hB]
  clear hB
  by_cases h1 : l < wl
  · have e : B = false := by rw [← HB.out]; unfold goesP; simp; omega
    subst e
    clear HB
    go_enter Tryz.func140, Tryz.ntmps140
    go_wp2
    go_ret
    exact ⟨rfl, hb2 _ _⟩
  · by_cases h3 : k = 3
    · subst h3
      by_cases hw : wk = 1
      · have e : B = false := by rw [← HB.out]; unfold goesP; simp [hw]
        subst e
        clear HB
        go_enter Tryz.func140, Tryz.ntmps140
        go_wp2
        go_ret
        exact ⟨rfl, hb2 _ _⟩
      · have e : B = true := by rw [← HB.out]; unfold goesP; simp [hw]; omega
        have hwb : (wk != 1) = true := by simp [hw]
        subst e
        clear HB
        go_enter Tryz.func140, Tryz.ntmps140
        go_wp2
        go_ret
        exact ⟨rfl, hb2 _ _⟩
    · by_cases h12 : k = 1 ∨ k = 2
      · by_cases hw : wk = 1
        · by_cases hl : wl = l
          · have e : B = true := by rw [← HB.out]; unfold goesP; rcases h12 with rfl | rfl <;> simp [hw, hl]
            subst e
            clear HB
            rcases h12 with rfl | rfl <;> (go_enter Tryz.func140, Tryz.ntmps140; go_wp2; go_ret; exact ⟨rfl, hb2 _ _⟩)
          · have e : B = false := by rw [← HB.out]; unfold goesP; rcases h12 with rfl | rfl <;> simp [hw, hl]
            have hlb : (wl == l) = false := by simp [hl]
            subst e
            clear HB
            rcases h12 with rfl | rfl <;> (go_enter Tryz.func140, Tryz.ntmps140; go_wp2; go_ret; exact ⟨rfl, hb2 _ _⟩)
        · have e : B = true := by rw [← HB.out]; unfold goesP; rcases h12 with rfl | rfl <;> simp [hw] <;> omega
          have hwb : (wk != 1) = true := by simp [hw]
          subst e
          clear HB
          rcases h12 with rfl | rfl <;> (go_enter Tryz.func140, Tryz.ntmps140; go_wp2; go_ret; exact ⟨rfl, hb2 _ _⟩)
      · have hk1 : ¬ k = 1 := fun e => h12 (.inl e)
        have hk2 : ¬ k = 2 := fun e => h12 (.inr e)
        have e : B = false := by rw [← HB.out]; unfold goesP; simp [h3, hk1, hk2]
        subst e
        clear HB h12
        go_enter Tryz.func140, Tryz.ntmps140
        go_wp2
        go_ret
        exact ⟨rfl, hb2 _ _⟩
end Go.Proofs.YtnmaknnnmjfhkagGreatDoor

namespace Go.Proofs.YtnmaknnnmjfhkagGreatDoor
open Go.RowKit
set_option maxRecDepth 4000
set_option linter.unusedVariables false
set_option linter.unusedSimpArgs false

@[reducible] def scV (a : Option Addr) (n c : Nat) (u l : Int) : Value := .agg #[.slice a n c, .int .i64 u, .int .i64 l]
theorem scpost_own {w w' : World} {e : Ending} {x : Scd} (h : ScPost w w' e x) : ∃ a c, e = .returned (scV a x.1.length c x.2.1 x.2.2) ∧ OwnS w' a (x.1.map Value.string) ∧ (∀ g, blk a x.1.length = some g → w.heap.size ≤ g) ∧ Below w.heap.size w w' := by
  obtain ⟨y, rfl, ho, hb⟩ := h
  rcases owns_forms ho with ⟨e1, e2⟩ | ⟨g, cap, e1, h1, h2, hr⟩
  · subst e1
    have : x.1 = [] := List.eq_nil_of_length_eq_zero e2
    exact ⟨none, 0, by rw [e2], .inl (by rw [this]; rfl), fun g hg => (by rw [e2] at hg; cases hg), hb⟩
  · subst e1
    refine ⟨_, cap, rfl, .inr ⟨g, rfl, hr⟩, fun g' hg => ?_, hb⟩
    have := blk_is hg
    omega
theorem scD_len (ss : List ByteArray) (ws : List (Int × ByteArray)) (frm size first life n : Int) : (scD ss ws frm size first life n).1.length ≤ 200 := by
  unfold scD
  split
  · rename_i h
    obtain ⟨hok, hn, f0, s0, f1, s1⟩ := h
    have h2 := (diskOk_of hok).1
    have := (scanP_size (fun k => (syncs ws ss).getD k ByteArray.empty) frm.toNat first n size.toNat 0 0 life ByteArray.empty ([], 0, life) (64 * size.toNat) (by simp) (by intro e he; cases he)).2
    simp only [List.length_nil] at this
    omega
  · simp
end Go.Proofs.YtnmaknnnmjfhkagGreatDoor

namespace Go.Proofs.YtnmaknnnmjfhkagGreatDoor
open Go.RowKit Go.Shelf
set_option linter.unusedVariables false
set_option linter.unusedSimpArgs false
set_option maxRecDepth 4000
attribute [local go_sem] Oper.semAt_some

/-- A page's value. -/
@[reducible] def pgV (x : Int × Int × Int × ByteArray) : Value := pageV x.1 x.2.1 x.2.2.1 x.2.2.2
/-- What a round is handed. -/
@[reducible] def pgE {SF : Nat → ByteArray} {fm : Nat} {wd : Int} {N : Nat} (x : Pgs SF fm wd N) : Array Value := #[.int .i64 (x.1 : Int), pgV (pgAt SF fm wd x.1)]
/-- What a round keeps of what the pages' iterator reads again and again. -/
def KpP (n3 g1 g2 : Nat) (A B : World) : Prop := Below n3 A B ∧ B.heap[g1]? = A.heap[g1]? ∧ B.heap[g2]? = A.heap[g2]?
theorem KpP.t {n3 g1 g2 : Nat} {A B C : World} (h : KpP n3 g1 g2 A B) (k : KpP n3 g1 g2 B C) : KpP n3 g1 g2 A C := ⟨h.1.trans k.1, k.2.1.trans h.2.1, k.2.2.trans h.2.2⟩
theorem KpP.b {n3 g1 g2 : Nat} {w : World} (hn : n3 ≤ w.heap.size) (h1 : g1 < w.heap.size) (h2 : g2 < w.heap.size) (W : World) (l : Nat) (o o' : Obj) (hl : w.heap.size ≤ l) (h : W.heap[l]? = some o) (hc : o.isCells = false) (hw : o.isWalk = false) : KpP n3 g1 g2 W (W.putObj l o') :=
  ⟨belowK_b hn W l o o' hl h hc hw, World.putObj_heap_other (by omega), World.putObj_heap_other (by omega)⟩
theorem KpP.grown {n3 g1 g2 : Nat} {A B C : World} (h : KpP n3 g1 g2 A B) (hg : Below B.heap.size B C) (h0 : n3 ≤ B.heap.size) (h1 : g1 < B.heap.size) (h2 : g2 < B.heap.size) : KpP n3 g1 g2 A C :=
  ⟨h.1.trans (hg.mono h0), (hg.block g1 h1).trans h.2.1, (hg.block g2 h2).trans h.2.2⟩
/-- The pages from a place on have come to their end. -/
def PgEnd {SF : Nat → ByteArray} {fm : Nat} {wd : Int} {N : Nat} (u : Nat) (ys : List (Pgs SF fm wd N)) : Prop := Good u ys ∧ (N ≤ u + ys.length ∨ rpRes (SF (fm + (u + ys.length))) wd = none)
theorem heap_cell {w : World} {g : Nat} {cs : Array Value} {t : TypeId} {z : Nat × Nat} (h : w.heap[g]? = some (.cells cs t z)) (i : Nat) (v : Value) (hv : cs[i]? = some v) : w.cell? ⟨g, i, none⟩ = some v := by
  simp [World.cell?, h, hv]
theorem below_grown0 {A B : World} (h : Below A.heap.size A B) : A.grownBy B none := ⟨h.os, h.tape, h.output, h.size, fun k hk _ => h.block k hk⟩

set_option maxHeartbeats 16000000 in
theorem pages1_in (n : Nat) (hn : 1 ≤ n) (l g1 g2 fm N u : Nat) (SF : Nat → ByteArray) (wd : Int) (v0 v1 : Value) (w3 : World) (hN : N ≤ 200) (hu : u ≤ N)
    (HPG : Hid (∀ wx, Below w3.heap.size w3 wx → ∀ m : Nat, m < N → Calls Tryz.prog 220 #[regV v0 v1 (fm : Int) (N : Int) wd, .int .i64 (m : Int)] wx fun e w' => e = .returned (rpV (rpRes (SF (fm + m)) wd)) ∧ Below wx.heap.size wx w'))
    (J Jx : List (Pgs SF fm wd N) → World → Prop)
    (hY : ∀ pre x W1, J pre W1 → pre.length < N → YieldAt Fence.wide (n - 1) Tryz.prog l (pgE x) W1 fun e W' => (e = .returned (.bool true) ∧ J (pre ++ [x]) W' ∧ KpP w3.heap.size g1 g2 W1 W') ∨ (e = .returned (.bool false) ∧ Jx (pre ++ [x]) W'))
    (W : World) (hW : Below w3.heap.size w3 W) (hb1 : W.heap[g1]? = some (.cells #[.iface 272 (.agg #[v0, v1]), .int .i64 (fm : Int), .int .i64 (N : Int), .int .i64 wd] 207 (0, 0))) (hb2 : W.heap[g2]? = some (.cells #[.int .i64 (u : Int)] 3 (0, 0)))
    (h0 : J [] W) (hJ : ∀ s A B, J s A → A.grownBy B none → J s B) :
    CallsIn Fence.wide n Tryz.prog 219 #[.func (.yield l) #[] #[], .pointer (some ⟨g2, 0, none⟩), .pointer (some ⟨g1, 0, none⟩)] W fun e W' => (∃ v, e = .returned v) ∧
      ((∃ ys, PgEnd u ys ∧ J ys W') ∨ (∃ pre, Good u pre ∧ Jx pre W')) := by
  refine callsIn_of_wp Tryz.func219 rfl trivial ?_ rfl
  simp only [Tryz.ntmps219, List.size_toArray, List.length_cons, List.length_nil, Nat.reduceAdd, Nat.reduceSub, Array.replicate_succ, Array.replicate_zero, List.push_toArray, List.append_toArray, List.nil_append, List.cons_append]
  have HY := hid hY
  have HJ := hid hJ
  clear hY hJ
  have q0 := heap_cell hb2 0 (.int .i64 (u : Int)) rfl
  gi_wp2
  clear q0
  gi_loopw [4] (fun i wr => ∃ (k : Nat) (pre : List (Pgs SF fm wd N)), pre.length = k ∧ Good u pre ∧ u + k ≤ N ∧ i = .int .i64 ((u + k : Nat) : Int) ∧ J pre wr ∧ Below w3.heap.size w3 wr ∧ wr.heap[g1]? = some (.cells #[.iface 272 (.agg #[v0, v1]), .int .i64 (fm : Int), .int .i64 (N : Int), .int .i64 wd] 207 (0, 0))) (fun i _ => N - (intOf i).toNat)
  case atStart => exact ⟨0, [], rfl, Good.nil u, hu, rfl, h0, hW, hb1⟩
  case round =>
    obtain ⟨k, pre, hpl, hgd, huk, rfl, hJs, hbw, hg1⟩ := hrel
    obtain ⟨q, hq⟩ : ∃ q, q = u + k := ⟨_, rfl⟩
    rw [← hq]
    have HQ := hid hq
    have HPL := hid hpl
    have HGD := hid hgd
    have HJS := hid hJs
    have HBW := hid hbw
    have huq : q ≤ N := by omega
    have HG1 := hid hg1
    have hlg := (Array.getElem?_eq_some_iff.1 hg1).1
    clear hpl hgd hJs huk
    have c0 := heap_cell hg1 0 (.iface 272 (.agg #[v0, v1])) rfl
    have c1 := heap_cell hg1 1 (.int .i64 (fm : Int)) rfl
    have c2 := heap_cell hg1 2 (.int .i64 (N : Int)) rfl
    have c3 := heap_cell hg1 3 (.int .i64 wd) rfl
    clear hg1 hq hb1 hb2 hW h0
    by_cases hlt : q < N
    · have hlt' : (q : Int) < (N : Int) := by omega
      have hw1 : IntKind.i64.wrap ((q : Int) + 1) = (q : Int) + 1 := by simp [IntKind.wrap, IntKind.bits, IntKind.signed]; omega
      have hpg := HPG.out wr HBW.out q hlt
      clear hbw
      cases hR : rpRes (SF (fm + q)) wd with
      | none =>
        rw [hR] at hpg
        simp only [rpV] at hpg
        have HR := hid hR
        have HP := hid hpg
        clear hR hpg
        gi_wp2_with (refine ⟨trivial, ?_⟩; gi_at_call 220; refine (callsIn_wide.2 HP.out).mono ?_; rintro e w5 ⟨rfl, hb5⟩)
        refine ⟨fun f hf => (by cases hf), ?_⟩
        gi_wp2
        refine bodyPost_ret (results_none rfl _ _ _) rfl ?_
        refine ⟨⟨_, rfl⟩, .inl ⟨pre, ⟨HGD.out, .inr ?_⟩, HJ.out _ _ _ HJS.out (below_grown0 (hb5.alloc hb5.size _))⟩⟩
        rw [HPL.out, ← HQ.out]
        exact HR.out
      | some pg =>
        obtain ⟨pk, pl, pm, pp⟩ := pg
        rw [hR] at hpg
        simp only [rpV] at hpg
        obtain ⟨xx, hxx⟩ : ∃ xx : Pgs SF fm wd N, xx.1 = q := ⟨⟨q, hlt, by rw [hR]; rfl⟩, rfl⟩
        have hpx : pgE xx = #[.int .i64 (q : Int), .agg #[.int .i64 pk, .int .i64 pl, .int .i64 pm, .string pp]] := by unfold pgE pgV pgAt; rw [hxx, hR]; rfl
        have HPX := hid hpx
        have HXX := hid hxx
        have HR := hid hR
        have HP := hid hpg
        clear hR hpg hpx hxx
        gi_wp2_with (refine ⟨trivial, ?_⟩; gi_at_call 220; refine (callsIn_wide.2 HP.out).mono ?_; rintro e w5 ⟨rfl, hb5⟩)
        obtain ⟨fn, tmps, assign, body, hy, hRR⟩ := HY.out pre xx (w5.alloc (.cells #[.int .i64 pk, .int .i64 pl, .int .i64 pm, .string pp] 108)) (HJ.out _ _ _ HJS.out (below_grown0 (hb5.alloc hb5.size _))) (by rw [HPL.out]; have := HQ.out; omega)
        rw [HPX.out] at hy
        have hk5 := hb5.size
        have HG5 := hid ((hb5.alloc hb5.size (.cells #[.int .i64 pk, .int .i64 pl, .int .i64 pm, .string pp] 108)).block _ hlg)
        have HB5 := hid (HBW.out.trans ((hb5.alloc hb5.size (.cells #[.int .i64 pk, .int .i64 pl, .int .i64 pm, .string pp] 108)).mono HBW.out.size))
        clear hb5
        rw [hy, Oper.uponIn_round]
        refine ⟨fun _ => hn, ?_⟩
        refine hRR.mono ?_
        rintro e W6 (⟨rfl, hJ6, hk6⟩ | ⟨rfl, hJx6⟩)
        · have HG6 := hid (hk6.2.1.trans (HG5.out.trans HG1.out))
          have HB6 := hid (HB5.out.trans hk6.1)
          have HJ6 := hid hJ6
          clear hJ6 hk6 hRR hy
          gi_wp2
          go_roundw
          case rel => exact ⟨k + 1, pre ++ [xx], by rw [List.length_append, HPL.out]; rfl, HGD.out.push (by rw [HXX.out, HPL.out, HQ.out]), by have := HQ.out; omega, by have := HQ.out; simp; omega, HJ6.out, HB6.out, HG6.out⟩
          case measure => simp [intOf]; omega
        · have HJ6 := hid hJx6
          clear hJx6 hRR hy
          gi_wp2
          refine bodyPost_ret (results_none rfl _ _ _) rfl ?_
          exact ⟨⟨_, rfl⟩, .inr ⟨pre ++ [xx], HGD.out.push (by rw [HXX.out, HPL.out, HQ.out]), HJ6.out⟩⟩
    · gi_wp2
      go_end0
      exact ⟨⟨_, rfl⟩, .inl ⟨pre, ⟨HGD.out, .inl (by rw [HPL.out, ← HQ.out]; omega)⟩, HJS.out⟩⟩

set_option maxHeartbeats 16000000 in
/-- The two are boxed; the function value captures the boxes. -/
theorem pages_in (n : Nat) (v0 v1 : Value) (fm N : Int) (wd : Int) (u : Int) (w : World) :
    CallsIn Fence.wide n Tryz.prog 153 #[regV v0 v1 fm N wd, .int .i64 u] w fun e w' => e = .returned (.func (.func 219) #[] #[.pointer (some ⟨w.heap.size + 1, 0, none⟩), .pointer (some ⟨w.heap.size, 0, none⟩)]) ∧ w' = (w.alloc (.cells #[.iface 272 (.agg #[v0, v1]), .int .i64 fm, .int .i64 N, .int .i64 wd] 207)).alloc (.cells #[.int .i64 u] 3) := by
  refine callsIn_of_wp Tryz.func153 rfl trivial ?_ rfl
  simp only [Tryz.ntmps153, List.size_toArray, List.length_cons, List.length_nil, Nat.reduceAdd, Nat.reduceSub, Array.replicate_succ, Array.replicate_zero, List.push_toArray, List.append_toArray, List.nil_append, List.cons_append]
  gi_wp2
  go_ret
  exact ⟨rfl, rfl⟩
/-- What pages hands back gives the pages of a region from a place on, one by one. -/
theorem pages_stops (n : Nat) (hn : 1 ≤ n) (g1 g2 fm N u : Nat) (SF : Nat → ByteArray) (wd : Int) (v0 v1 : Value) (w3 w : World) (hN : N ≤ 200) (hu : u ≤ N) (h3 : Below w3.heap.size w3 w)
    (HPG : Hid (∀ wx, Below w3.heap.size w3 wx → ∀ m : Nat, m < N → Calls Tryz.prog 220 #[regV v0 v1 (fm : Int) (N : Int) wd, .int .i64 (m : Int)] wx fun e w' => e = .returned (rpV (rpRes (SF (fm + m)) wd)) ∧ Below wx.heap.size wx w'))
    (hb1 : w.heap[g1]? = some (.cells #[.iface 272 (.agg #[v0, v1]), .int .i64 (fm : Int), .int .i64 (N : Int), .int .i64 wd] 207 (0, 0))) (hb2 : w.heap[g2]? = some (.cells #[.int .i64 (u : Int)] 3 (0, 0))) :
    SeqStopsK Fence.wide n Tryz.prog 219 #[.pointer (some ⟨g2, 0, none⟩), .pointer (some ⟨g1, 0, none⟩)] (fun x : Pgs SF fm wd N => pgE x) (KpP w3.heap.size g1 g2) (PgEnd u) (Good u) N w := fun l J Jx W hW hJ hJx hY h0 =>
  pages1_in n hn l g1 g2 fm N u SF wd v0 v1 w3 hN hu HPG J Jx hY W (h3.trans (hW.mono h3.size)) ((hW.block _ (Array.getElem?_eq_some_iff.1 hb1).1).trans hb1) ((hW.block _ (Array.getElem?_eq_some_iff.1 hb2).1).trans hb2) h0 (fun s A B hs hg => hJ s A B none hs hg (fun r e => (by cases e)))
end Go.Proofs.YtnmaknnnmjfhkagGreatDoor

namespace Go.Proofs.YtnmaknnnmjfhkagGreatDoor
open Go.RowKit
set_option maxRecDepth 8000
set_option linter.unusedVariables false
set_option linter.unusedSimpArgs false
set_option maxHeartbeats 16000000
theorem info_strT : (Tryz.prog.info? 9).map (fun i => (i.zero, i.size, i.bytes)) = some (some (.string ByteArray.empty), 1, 16) := by kernel_rfl
theorem info_partsT {P : Program} {e : TypeId} {z : Value} {size bytes : Nat} (h : (P.info? e).map (fun i => (i.zero, i.size, i.bytes)) = some (some z, size, bytes)) : ∃ i, P.info? e = some i ∧ i.zero = some z ∧ i.size = size ∧ i.bytes = bytes := by
  obtain ⟨i, hi, hh⟩ := Option.map_eq_some_iff.1 h
  simp only [Prod.mk.injEq] at hh
  exact ⟨i, hi, hh⟩
theorem news_atT (w : World) (cs : Array Value) (t : TypeId) : ∀ j u, cs.toList[j]? = some u → (w.alloc (.cells cs t)).cell? ((⟨w.heap.size, 0, none⟩ : Addr).add j) = some u := World.news_of_block (heap_alloc_new w (.cells cs t))
theorem oneST (k : ByteArray) : ∀ u ∈ [Value.string k], u.oneCell' = true := by
  intro u hu
  simp only [List.mem_cons, List.not_mem_nil, or_false] at hu
  subst hu
  rfl
/-- What take leaves. -/
def TkPost (N FB : Nat) (y : Value) (w : World) (ents' : List ByteArray) (u' l' : Int) (w' : World) : Prop :=
  ∃ y', Row w' FB [y', .int .i64 u', .int .i64 l'] ∧ w'.ownsRow N 9 1 y' ents'.length (ents'.map Value.string) ∧ (y'.ownBlock = y.ownBlock ∨ ∃ H, y'.ownBlock = some H ∧ w.heap.size ≤ H) ∧ Below N w w' ∧ (∀ b, b < w.heap.size → b ≠ FB → some b ≠ y.ownBlock → w'.heap[b]? = w.heap[b]?)
theorem stake_i (N FB : Nat) (y : Value) (ents : List ByteArray) (u0 l0 k l m : Int) (p entry : ByteArray) (x : Nat) (w : World)
    (hr : Row w FB [y, .int .i64 u0, .int .i64 l0]) (ho : w.ownsRow N 9 1 y ents.length (ents.map Value.string)) (hNF : N ≤ FB) (hNw : N ≤ w.heap.size) (hne : y.ownBlock ≠ some FB) (hx : x ≤ 200) (hel : ents.length ≤ 300) :
    Calls Tryz.prog 156 #[.pointer (some ⟨FB, 0, none⟩), pageV k l m p, .int .i64 (x : Int), .string entry] w fun e w' => e = .returned (.tuple #[]) ∧ TkPost N FB y w (if k = 2 then ents ++ [entry] else ents) ((x : Int) + 1) l w' := by
  have hx1 : IntKind.i64.wrap ((x : Int) + 1) = (x : Int) + 1 := by simp [IntKind.wrap, IntKind.bits, IntKind.signed]; omega
  obtain ⟨i0, hi0, hz0, hz1, hz2⟩ := info_partsT info_strT
  have HI := hid (And.intro hi0 (And.intro hz0 (And.intro hz1 hz2)))
  clear hi0 hz0 hz1 hz2
  obtain ⟨ya, yc, rfl⟩ : ∃ ya yc, y = .slice ya ents.length yc := by
    rcases owns_forms ho with ⟨h1, h2⟩ | ⟨gg, cap, h1, _⟩
    · exact ⟨none, 0, by rw [h1, h2]⟩
    · exact ⟨_, cap, h1⟩
  have c0 := hr.cell 0 _ rfl
  have c1 := hr.cell 1 _ rfl
  have c2 := hr.cell 2 _ rfl
  have f0 := hr.froz 0 (by simp)
  have f1 := hr.froz 1 (by simp)
  have f2 := hr.froz 2 (by simp)
  have hl := hr.lt
  have hnl : ¬ FB = w.heap.size := by omega
  have HR := hid (((hr.set 1 (by simp) (.int .i64 ((x : Int) + 1))).set 2 (by simp) (.int .i64 l)).alloc (.cells #[.int .i64 k, .int .i64 l, .int .i64 m, .string p] 108))
  have HO := hid ((ownsRow_setCell_other (ownsRow_setCell_other ho hne (a := ⟨FB, 1, none⟩) (.int .i64 ((x : Int) + 1))) hne (a := ⟨FB, 2, none⟩) (.int .i64 l)).alloc (.cells #[.int .i64 k, .int .i64 l, .int .i64 m, .string p] 108))
  have HB := hid ((((Below.refl N w).setCell (p := ⟨FB, 1, none⟩) hNF (.int .i64 ((x : Int) + 1))).setCell (p := ⟨FB, 2, none⟩) hNF (.int .i64 l)).alloc (by simpa using hNw) (.cells #[.int .i64 k, .int .i64 l, .int .i64 m, .string p] 108))
  have HG : Hid (∀ b, b < w.heap.size → b ≠ FB → (((w.setCell ⟨FB, 1, none⟩ (.int .i64 ((x : Int) + 1))).setCell ⟨FB, 2, none⟩ (.int .i64 l)).alloc (.cells #[.int .i64 k, .int .i64 l, .int .i64 m, .string p] 108)).heap[b]? = w.heap[b]?) := fun b hb hbn => by
    rw [heap_alloc_old _ _ (by simpa using hb), Below.heap_setCell _ _ _ _ hbn, Below.heap_setCell _ _ _ _ hbn]
  by_cases hk : k = 2
  · subst hk
    rw [if_pos rfl]
    go_enter Tryz.func156, Tryz.ntmps156
    go_wp2_with (first | (at_builtin; refine wpList_append_lies _ rfl _ _ 22 rfl N 9 i0 (.string ByteArray.empty) 1 16 Tryz.underlying22 HI.out.1 HI.out.2.1 HI.out.2.2.1 HI.out.2.2.2 rfl (by omega) _ ents.length _ rfl (HO.out.alloc _) ⟨w.heap.size + 1, 0, none⟩ 1 1 [.string entry] rfl rfl (by intro j z hj; have := news_atT (((w.setCell ⟨FB, 1, none⟩ (.int .i64 ((x : Int) + 1))).setCell ⟨FB, 2, none⟩ (.int .i64 l)).alloc (.cells #[.int .i64 2, .int .i64 l, .int .i64 m, .string p] 108)) #[.string entry] 9 j z hj; simpa using this) (oneST _) (by omega) (by unfold maxLen; omega) (by omega) (by simp; omega) (w.heap.size + 1 + 1) (by simp) ?_; intro gn cap w10 hown10 hgrow10 hat10 hlt10; have rF := (HR.out.alloc (.cells #[.string entry] 9)).grown hgrow10 (fun e => hne e.symm); have d0 := rF.cell 0 _ rfl; have e0 := rF.froz 0 (by simp); have dl := rF.lt; have HRF := hid rF; have HGR := hid hgrow10; have HOW := hid hown10; have HAT := hid hat10; clear rF hgrow10 hown10 hat10))
    go_end0
    have hyb : ∀ z, (Value.slice ya ents.length yc).ownBlock = some z → N ≤ z ∧ z < w.heap.size := fun z hz => ho.lt z hz
    have hby : ¬ gn = FB := fun e => by
      rcases HAT.out with h | h
      · exact hne (h.trans (by rw [e]))
      · omega
    refine ⟨rfl, .slice (some ⟨gn, 0, none⟩) (ents.length + 1) cap, HRF.out.set 0 (by simp) _, ?_, ?_, ?_, fun b hb hbn hbo => ?_⟩
    · rw [List.length_append, List.map_append]
      exact ownsRow_setCell_other HOW.out (by simpa [Value.ownBlock] using hby) _
    · rcases HAT.out with h | h
      · exact .inl h.symm
      · exact .inr ⟨gn, rfl, by omega⟩
    · exact (((HB.out.alloc (Nat.le_trans hNw HB.out.size) _).trans (grown_below HGR.out (Nat.le_trans hNw (by simp <;> omega)) (fun z hz => (hyb z hz).1))).setCell hNF _)
    · rw [Below.heap_setCell _ _ _ _ hbn, HGR.out.block b (by simp; omega) hbo, heap_alloc_old _ _ (by simp; omega)]
      exact HG.out b hb hbn
  · rw [if_neg hk]
    have hkb : (k == 2) = false := by simp [hk]
    go_enter Tryz.func156, Tryz.ntmps156
    go_wp2
    go_end0
    exact ⟨rfl, _, HR.out, HO.out, .inl rfl, HB.out, fun b hb hbn _ => HG.out b hb hbn⟩
end Go.Proofs.YtnmaknnnmjfhkagGreatDoor

namespace Go.Proofs.YtnmaknnnmjfhkagGreatDoor
open Go.RowKit
set_option maxRecDepth 4000
set_option linter.unusedVariables false
set_option linter.unusedSimpArgs false
theorem parse_any (s : ByteArray) (n : Int) (w : World) (ty : TypeId) (v : Value) (hv : w.cell? ⟨1, 0, none⟩ = some (.iface ty v)) (hg : 1 < w.heap.size) : Calls Tryz.prog 197 #[.string s, .int .i64 n] w fun e w' => (∃ E, e = .returned (prV E (rpRes s n))) ∧ Below w.heap.size w w' := by
  by_cases hn : 1 ≤ n ∧ n ≤ 8
  · obtain ⟨m, rfl⟩ : ∃ m : Nat, n = (m : Int) := ⟨n.toNat, by omega⟩
    by_cases hs : s.size = 64
    · obtain ⟨fN, fK, fL, fM, fP⟩ := rp_fields s m hs (by omega) rfl
      have ln : (nums s).length = 64 := by rw [nums_length, hs]
      have rg := nums_range' s
      have sub : ∀ o k, ∀ y ∈ ((nums s).drop o).take k, 0 ≤ y ∧ y ≤ 255 := fun o k y hy => rg y (List.mem_of_mem_drop (List.mem_of_mem_take hy))
      have bN := numOf_rng 1 _ (by simp; omega) (sub (m + 7) 1)
      have bK := numOf_rng 1 _ (by simp; omega) (sub m 1)
      have bL := numOf_rng 2 _ (by simp; omega) (sub (m + 1) 2)
      have bM := numOf_rng 4 _ (by simp; omega) (sub (m + 3) 4)
      rw [← fN] at bN
      rw [← fK] at bK
      rw [← fL] at bL
      rw [← fM] at bM
      by_cases hN : rpN (s.extract m 64) + m ≤ 56
      · have h := parse_main s m _ _ _ _ _ w ty v hv hg hs (by omega) (by omega) fN hN fK fL fM fP bK.1 (by have := bK.2; omega) bL.1 (by have := bL.2; omega) bM.1 (by have := bM.2; omega)
        have hR : rpRes s (m : Int) = if formOf (rpK (s.extract m 64)) (rpL (s.extract m 64)) (rpM (s.extract m 64)) (rpP (s.extract m 64)) (m : Int) = s then some (rpK (s.extract m 64), rpL (s.extract m 64), rpM (s.extract m 64), rpP (s.extract m 64)) else none := by
          unfold rpRes
          rw [Int.toNat_natCast]
          by_cases hF : formOf (rpK (s.extract m 64)) (rpL (s.extract m 64)) (rpM (s.extract m 64)) (rpP (s.extract m 64)) (m : Int) = s
          · rw [if_pos hF, if_pos ⟨by omega, by omega, hs, by omega, hF⟩]
          · rw [if_neg hF, if_neg (fun hh => hF hh.2.2.2.2)]
        rw [hR]
        exact h
      · rw [rpRes_no (fun hh => hN (by have := hh.2.2.2.1; rw [Int.toNat_natCast] at this; omega))]
        exact parse_no_part s m _ w ty v hv hg hs (by omega) (by omega) fN (by omega) (by have := bN.2; omega)
    · rw [rpRes_no (fun hh => hs hh.2.2.1)]
      exact parse_no_size s m w ty v hv hg hn hs
  · rw [rpRes_no (fun hh => hn ⟨hh.1, hh.2.1⟩)]
    exact parse_no_width s n w ty v hv hg hn
theorem as_hit_b (e t : Addr) (old : Value) (w : World) (hg : w.cell? ⟨0, 0, none⟩ = some (.iface 332 (.agg #[.pointer (some ⟨3, 215, none⟩)]))) (ht0 : w.cell? t = some old) (hf0 : w.frozen? t = false) (hlt : t.block < w.heap.size) :
    Calls Tryz.prog 198 #[.iface 246 (.pointer (some e)), .iface 248 (.pointer (some t))] w fun ev w' => ev = .returned (.bool true) ∧ Below t.block w w' :=
  (as_hit e t old w hg ht0 hf0).mono fun ev w' h => ⟨h.1, by
    rw [h.2]
    exact (((((Below.refl t.block w).alloc (by omega) _).alloc (by simp; omega) _).alloc (by simp; omega) _).alloc (by simp; omega) _).setCell (Nat.le_refl _) _⟩
theorem as_nil_b (t : Value) (w : World) : Calls Tryz.prog 198 #[.nilIface, t] w fun e w' => e = .returned (.bool false) ∧ Below w.heap.size w w' :=
  (as_nil t w).mono fun e w' h => ⟨h.1, by rw [h.2]; exact Below.refl _ _⟩
theorem RB.past {W w w' : World} (h : RB W w) {B : Nat} (hB : W.heap.size < B) (hb : Below B w w') : RB W w' := by
  have hs := h.size
  have hc : ∀ i, w'.cell? ⟨W.heap.size, i, none⟩ = w.cell? ⟨W.heap.size, i, none⟩ := fun i => hb.cell (p := ⟨W.heap.size, i, none⟩) (by show W.heap.size < _; omega)
  have hf : ∀ i, w'.frozen? ⟨W.heap.size, i, none⟩ = w.frozen? ⟨W.heap.size, i, none⟩ := fun i => hb.frozen (p := ⟨W.heap.size, i, none⟩) (by show W.heap.size < _; omega)
  exact ⟨Nat.le_trans hs hb.size, h.bel.trans (hb.mono (by omega)), (hc _).trans h.c0, (hc _).trans h.c1, (hc _).trans h.c2, (hc _).trans h.c3, (hf _).trans h.f0, (hf _).trans h.f1, (hf _).trans h.f2, (hf _).trans h.f3⟩
set_option maxHeartbeats 16000000 in
theorem readpage_i (s : ByteArray) (n : Int) (w : World) (ty : TypeId) (v : Value) (hv : w.cell? ⟨1, 0, none⟩ = some (.iface ty v)) (h0 : w.cell? ⟨0, 0, none⟩ = some (.iface 332 (.agg #[.pointer (some ⟨3, 215, none⟩)]))) (hg : 1 < w.heap.size) : Calls Tryz.prog 109 #[.string s, .int .i64 n] w fun e w' => e = .returned (rpV (rpRes s n)) ∧ Below w.heap.size w w' := by
  obtain ⟨R, HR⟩ : ∃ R, Hid (R = rpRes s n) := ⟨_, hid0 rfl⟩
  rw [← HR.out]
  have hb0 : ∀ o, Below w.heap.size w (w.alloc o) := fun o => (Below.refl _ _).alloc (Nat.le_refl _) _
  have hva : ∀ o, (w.alloc o).cell? ⟨1, 0, none⟩ = some (.iface ty v) := fun o => (World.cell?_alloc_past _ _ _ (by exact hg)).trans hv
  have HG : Hid (∀ w', Below w.heap.size w w' → w'.cell? ⟨0, 0, none⟩ = some (.iface 332 (.agg #[.pointer (some ⟨3, 215, none⟩)]))) := fun w' hb => (hb.cell (p := ⟨0, 0, none⟩) (by show 0 < _; omega)).trans h0
  have par := fun o => parse_any s n (w.alloc o) ty v (hva o) (by simp; omega)
  rw [← HR.out] at par
  cases R with
  | none =>
    simp only [prV] at par
    go_enter Tryz.func109, Tryz.ntmps109
    go_wp2_with (first | (go_at_call 197; refine (par _).mono ?_; rintro e w2 ⟨⟨E, rfl⟩, hb2⟩; have HB2 := hid0 ((RB.new w _).below hb2); clear hb2) | (go_at_call 198; refine (as_hit_b E ⟨w2.heap.size + 1, 0, none⟩ (.pointer none) _ (HG.out _ ((HB2.out.alloc _).alloc _).bel) (by go_simp) (by go_simp) (by simp)).mono ?_; rintro e w4 ⟨rfl, hb4⟩; have hr4 := ((HB2.out.alloc _).alloc _).past (B := w2.heap.size + 1) (by have := HB2.out.size; omega) hb4; clear hb4; have c0 := hr4.c0; have c1 := hr4.c1; have c2 := hr4.c2; have c3 := hr4.c3; have f0 := hr4.f0; have f1 := hr4.f1; have f2 := hr4.f2; have f3 := hr4.f3; have HR4 := hid0 hr4; clear hr4))
    refine bodyPost_ret (v := .tuple #[pageV 0 0 0 ⟨#[]⟩, .bool false]) (by simp [results, Tryz.results109, go_sem, c0, c1, c2, c3]) rfl ⟨rfl, ?_⟩
    exact (((HR4.out.bel.setCell (Nat.le_refl _) _).setCell (Nat.le_refl _) _).setCell (Nat.le_refl _) _).setCell (Nat.le_refl _) _
  | some x =>
    obtain ⟨k, l, m, p⟩ := x
    simp only [prV] at par
    go_enter Tryz.func109, Tryz.ntmps109
    go_wp2_with (first | (go_at_call 197; refine (par _).mono ?_; rintro e w2 ⟨⟨E, rfl⟩, hb2⟩; have HB2 := hid0 ((RB.new w _).below hb2); clear hb2) | (go_at_call 198; refine (as_nil_b _ _).mono ?_; rintro e w4 ⟨rfl, hb4⟩; have hr4 := ((HB2.out.alloc _).alloc _).below hb4; have hp := ((pg_new w2 w2.heap.size rfl (.int .i64 k) (.int .i64 l) (.int .i64 m) (.string p) _).below ((Below.refl _ _).alloc (Nat.le_refl _) _) (by simp)).below hb4 (by simp <;> omega); clear hb4; have p0 := hp.c0; have p1 := hp.c1; have p2 := hp.c2; have p3 := hp.c3; clear hp; have c0 := hr4.c0; have c1 := hr4.c1; have c2 := hr4.c2; have c3 := hr4.c3; have f0 := hr4.f0; have f1 := hr4.f1; have f2 := hr4.f2; have f3 := hr4.f3; have HR4 := hid0 hr4; clear hr4))
    refine bodyPost_ret (v := .tuple #[pageV k l m p, .bool true]) (by simp [results, Tryz.results109, go_sem, c0, c1, c2, c3]) rfl ⟨rfl, ?_⟩
    exact (((HR4.out.bel.setCell (Nat.le_refl _) _).setCell (Nat.le_refl _) _).setCell (Nat.le_refl _) _).setCell (Nat.le_refl _) _
end Go.Proofs.YtnmaknnnmjfhkagGreatDoor

namespace Go.Proofs.YtnmaknnnmjfhkagGreatDoor
open Go.RowKit
set_option maxRecDepth 4000
set_option linter.unusedVariables false
set_option linter.unusedSimpArgs false

set_option maxHeartbeats 16000000 in
theorem goes_i (wk wl wm : Int) (wp : ByteArray) (k l m : Int) (p : ByteArray) (w : World) : Calls Tryz.prog 154 #[pageV wk wl wm wp, pageV k l m p] w fun e w' => e = .returned (.bool (goesP wk wl k l)) ∧ Below w.heap.size w w' := by
  have hb2 : ∀ o1 o2, Below w.heap.size w ((w.alloc o1).alloc o2) := fun o1 o2 => ((Below.refl _ _).alloc (Nat.le_refl _) _).alloc (by simp) _
  rw [← goes_eq]
  obtain ⟨B, hB⟩ : ∃ B, goesI wk wl k l = B := ⟨_, rfl⟩
  have HB := hid hB
  rw [hB]
  clear hB
  by_cases h12 : k = 1 ∨ k = 2
  · by_cases hl : l = wl
    · have e : B = true := by rw [← HB.out]; unfold goesI; rw [if_pos h12]; simp [hl]
      subst e
      subst hl
      clear HB
      rcases h12 with rfl | rfl <;> (go_enter Tryz.func154, Tryz.ntmps154; go_wp2; all_goals (go_ret; exact ⟨rfl, hb2 _ _⟩))
    · have hlb : (l == wl) = false := by simp [hl]
      by_cases hw : wk = 1
      · subst hw
        have e : B = false := by rw [← HB.out]; unfold goesI; rw [if_pos h12]; simp [hl]
        subst e
        clear HB
        rcases h12 with rfl | rfl <;> (go_enter Tryz.func154, Tryz.ntmps154; go_wp2; all_goals (go_ret; exact ⟨rfl, hb2 _ _⟩))
      · have hwb : (wk == 1) = false := by simp [hw]
        by_cases hlt : wl < l
        · have e : B = true := by rw [← HB.out]; unfold goesI; rw [if_pos h12]; simp [hw, hlt]
          subst e
          clear HB
          rcases h12 with rfl | rfl <;> (go_enter Tryz.func154, Tryz.ntmps154; go_wp2; all_goals (go_ret; exact ⟨by simp [hlt], hb2 _ _⟩))
        · have e : B = false := by rw [← HB.out]; unfold goesI; rw [if_pos h12]; simp [hw, hlt, hl]
          subst e
          clear HB
          rcases h12 with rfl | rfl <;> (go_enter Tryz.func154, Tryz.ntmps154; go_wp2; all_goals (go_ret; exact ⟨by simp [hlt], hb2 _ _⟩))
  · have hk1 : ¬ k = 1 := fun e => h12 (.inl e)
    have hk2 : ¬ k = 2 := fun e => h12 (.inr e)
    have hk1b : (k == 1) = false := by simp [hk1]
    have hk2b : (k == 2) = false := by simp [hk2]
    by_cases h3 : k = 3
    · subst h3
      by_cases hle : wl ≤ l
      · by_cases hw : wk = 1
        · subst hw
          have e : B = false := by rw [← HB.out]; unfold goesI; simp
          subst e
          clear HB h12
          go_enter Tryz.func154, Tryz.ntmps154
          go_wp2
          all_goals (go_ret; exact ⟨rfl, hb2 _ _⟩)
        · have hwb : (wk == 1) = false := by simp [hw]
          have e : B = true := by rw [← HB.out]; unfold goesI; simp [hw, hle]
          subst e
          clear HB h12
          go_enter Tryz.func154, Tryz.ntmps154
          go_wp2
          all_goals (go_ret; exact ⟨rfl, hb2 _ _⟩)
      · have e : B = false := by rw [← HB.out]; unfold goesI; simp [hle]
        subst e
        clear HB h12
        go_enter Tryz.func154, Tryz.ntmps154
        go_wp2
        all_goals (go_ret; exact ⟨rfl, hb2 _ _⟩)
    · have hk3b : (k == 3) = false := by simp [h3]
      have e : B = false := by rw [← HB.out]; unfold goesI; rw [if_neg h12, if_neg h3]
      subst e
      clear HB h12
      go_enter Tryz.func154, Tryz.ntmps154
      go_wp2
      all_goals (go_ret; exact ⟨rfl, hb2 _ _⟩)
theorem there_i (n : Nat) (f s : Int) (hn : n ≤ 1048576) (hf0 : -9223372036854775808 ≤ f) (hf1 : f ≤ 9223372036854775807) (w : World) : Calls Tryz.prog 152 #[.int .i64 (n : Int), .int .i64 f, .int .i64 s] w fun e w' => e = .returned (.bool (decide (0 ≤ f ∧ 0 ≤ s ∧ s ≤ (n : Int) - f))) ∧ w' = w := by
  by_cases h1 : 0 ≤ f
  · have hw : IntKind.i64.wrap ((n : Int) - f) = (n : Int) - f := by simp [IntKind.wrap, IntKind.bits, IntKind.signed]; omega
    by_cases h2 : 0 ≤ s
    · by_cases h3 : s ≤ (n : Int) - f
      · have e : decide (0 ≤ f ∧ 0 ≤ s ∧ s ≤ (n : Int) - f) = true := decide_eq_true ⟨h1, h2, h3⟩
        rw [e]
        go_enter Tryz.func152, Tryz.ntmps152
        go_wp2
        go_ret
        exact ⟨by simp [h3], rfl⟩
      · have e : decide (0 ≤ f ∧ 0 ≤ s ∧ s ≤ (n : Int) - f) = false := decide_eq_false (fun h => h3 h.2.2)
        rw [e]
        go_enter Tryz.func152, Tryz.ntmps152
        go_wp2
        go_ret
        exact ⟨by simp [h3], rfl⟩
    · have e : decide (0 ≤ f ∧ 0 ≤ s ∧ s ≤ (n : Int) - f) = false := decide_eq_false (fun h => h2 h.2.1)
      rw [e]
      go_enter Tryz.func152, Tryz.ntmps152
      go_wp2
      go_ret
      exact ⟨rfl, rfl⟩
  · have e : decide (0 ≤ f ∧ 0 ≤ s ∧ s ≤ (n : Int) - f) = false := decide_eq_false (fun h => h1 h.1)
    rw [e]
    go_enter Tryz.func152, Tryz.ntmps152
    go_wp2
    go_ret
    exact ⟨rfl, rfl⟩
end Go.Proofs.YtnmaknnnmjfhkagGreatDoor
