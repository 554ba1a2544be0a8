import Derived.Test.YtnmaknnnmjfhkadDrvOf
import Derived.Test.YtnmaknnnmjfhkadLay
import Derived.Test.YtnmaknnnmjfhkadFate
import Derived.Test.YtnmaknnnmjfhkadValid
import Derived.Test.YtnmaknnnmjfhkadDrv2
namespace Go.Proofs.Ytnmaknnnmjfhkad
open Go.RowKit
set_option linter.unusedVariables false

/-- The writes that are pending get into their sectors, in order, each as far as its fate says. -/
def lays (zs : List Int) : Nat → List (Int × List Int) → List (List Int) → List (List Int)
  | _, [], ps => ps
  | i, x :: r, ps => lays zs (i + 1) r (ps.set x.1.toNat (torn (fate zs i) x.2 (ps.getD x.1.toNat [])))
theorem lays_length (zs : List Int) : ∀ (hs : List (Int × List Int)) (i : Nat) (ps : List (List Int)), (lays zs i hs ps).length = ps.length
  | [], _, _ => rfl
  | x :: r, i, ps => by rw [lays, lays_length zs r]; simp

theorem OwnS.hld {w : World} {a : Option Addr} {hs : List (Int × List Int)} (h : OwnS w a (hcells hs)) (hl : ∀ p ∈ hs, p.2.length = 64) : Hld w a hs := by
  rcases h with h | ⟨g, rfl, h2⟩
  · refine .inl (List.eq_nil_of_length_eq_zero ?_)
    have := congrArg List.length h
    rw [hcells_length hs hl, List.length_nil] at this; omega
  · exact h2.hld hl

/-- While the power goes: the answer's block, the drive's variable, its plate, what is pending. -/
structure PLs (W w : World) (R X g : Nat) (xs : List Value) (a2 : Option Addr) (hs : List (Int × List Int)) (ps : List (List Int)) : Prop where
  bel : Below W.heap.size W w
  rr : Row w R [.slice none 0 0, .slice none 0 0]
  rx : Row w X xs
  pr : PR w g ps
  own : OwnS w a2 (hcells hs)
section
variable {W w w' : World} {R X g : Nat} {xs : List Value} {a2 : Option Addr} {hs : List (Int × List Int)} {ps ps' : List (List Int)}
theorem PLs.below (h : PLs W w R X g xs a2 hs ps) (hb : Below w.heap.size w w') : PLs W w' R X g xs a2 hs ps :=
  ⟨h.bel.trans (hb.mono h.bel.size), h.rr.below hb, h.rx.below hb, h.pr.below hb, h.own.below hb⟩
theorem PLs.drew (h : PLs W w R X g xs a2 hs ps) : PLs W w.drew R X g xs a2 hs ps := h.below ((Below.refl _ _).drew)
theorem PLs.grown (h : PLs W w R X g xs a2 hs ps) (hg : w.grownBy w' (some g)) (hp : PR w' g ps') (h1 : W.heap.size ≤ g) (h2 : R ≠ g) (h3 : X ≠ g) (h4 : ∀ b, a2 = some ⟨b, 0, none⟩ → hcells hs ≠ [] → b ≠ g) : PLs W w' R X g xs a2 hs ps' :=
  ⟨h.bel.trans (grown_below hg h.bel.size (fun k hk => by cases hk; exact h1)), h.rr.grown hg (fun e => h2 (by injection e)), h.rx.grown hg (fun e => h3 (by injection e)), hp, h.own.grown hg (fun b hb hne e => h4 b hb hne (by injection e))⟩
end
theorem hsOf_64 {ws : List (Int × ByteArray)} (h : ∀ x ∈ ws, x.2.size = 64) : ∀ p ∈ hsOf ws, p.2.length = 64 := fun p hp => by
  obtain ⟨x, hx, rfl⟩ := List.mem_map.1 hp
  show (nums x.2).length = 64
  rw [nums_length, h x hx]

set_option maxRecDepth 100000 in
set_option maxHeartbeats 2000000 in
theorem pl_i (a : Option Addr) (ss : List ByteArray) (c : Nat) (a' : Option Addr) (ws : List (Int × ByteArray)) (c' : Nat) (f : Option Addr) (zs : List Int) (cf : Nat) (w : World) (h : Strs w a ss) (h' : Wrs w a' ws) (hz : Ints w f zs) (hlz : zs.length ≤ 1048576) (hok : diskOk ss ws = true) :
    Calls Try.prog 27 #[diskV a ss.length c a' ws.length c', .slice f zs.length cf] w fun e w' => ∃ a1 c1 a1' c1', e = .returned (diskV a1 ss.length c1 a1' 0 c1') ∧ OwnD w' a1 (secs (lays zs 0 (hsOf ws) (ss.map nums))) a1' [] ∧ (∀ g, blk a1 ss.length = some g → w.heap.size ≤ g) ∧ Below w.heap.size w w' := by
  obtain ⟨⟨hn1, hn2, hn3⟩, h64, hw⟩ := diskOk_of hok
  have hb0 : ∀ o1 o2, Below w.heap.size w ((w.alloc o1).alloc o2) := fun o1 o2 => ((Below.refl _ _).alloc (Nat.le_refl _) _).alloc (by simp) _
  obtain ⟨RES, HRES⟩ : ∃ RES, Hid (RES = lays zs 0 (hsOf ws) (ss.map nums)) := ⟨_, hid rfl⟩
  rw [← HRES.out]
  go_enter Try.func27, Try.ntmps27
  go_wp2_with fail
  refine (valid_i a ss c a' ws c' _ (h.below (hb0 _ _)) (h'.below (hb0 _ _)) (by omega) (by omega) (fun s hs => by have := h64 s hs; omega) (fun x hx => by have := of_decide_eq_true (hw x hx); omega)).mono ?_
  rw [hok]
  rintro e w1 ⟨rfl, hb1⟩
  have hB1 := (hb0 _ _).trans (hb1.mono (by simp; omega))
  obtain ⟨q1, q2⟩ := bcell hb1
  have rR := (row_new' (w.alloc (.cells #[.slice a ss.length c, .slice a' ws.length c'] 57)) #[.slice none 0 0, .slice none 0 0] 57 (w.heap.size + 1) (by simp)).below hb1
  have HRR := hid rR
  have HB1 := hid hB1
  clear rR hb1 hB1
  go_wp2_with fail
  refine (drv_i a ss c a' ws c' _ (h.below HB1.out) (h'.below HB1.out) hn2 hn3 (fun s hs => by have := h64 s hs; omega) (fun x hx => by have := of_decide_eq_true (hw x hx); omega)).mono ?_
  rintro e w2 ⟨g, v, rfl, hpr, hown, hg, hb2⟩
  clear q1 q2
  have HRR2 := hid (HRR.out.below hb2)
  have HRR1 : Hid (w.heap.size + 1 + 1 ≤ g) := by have := HRR.out.lt; show _ ≤ _; omega
  have HB2 := hid (Below.then HB1.out (Nat.le_refl _) hb2)
  obtain ⟨a2, c2, hv, ho2, hne⟩ : ∃ a2 c2, v = .slice a2 ws.length c2 ∧ OwnS w2 a2 (hcells (hsOf ws)) ∧ ∀ g2, a2 = some ⟨g2, 0, none⟩ → ws ≠ [] → g2 ≠ g ∧ g2 < w2.heap.size := by
    rcases owns_forms hown with ⟨e, h0⟩ | ⟨g2, cap, e, h1, h2, hr⟩
    · have : ws = [] := List.eq_nil_of_length_eq_zero h0
      subst this
      exact ⟨none, 0, e, .inl rfl, fun _ _ hh => absurd rfl hh⟩
    · exact ⟨_, cap, e, .inr ⟨g2, rfl, hr⟩, fun g' hg' _ => by cases hg'; exact ⟨by omega, h2⟩⟩
  subst hv
  have HPR := hid hpr
  have HO2 := hid ho2
  clear hpr hown ho2 hb2 HB1 HRR
  go_wp2
  have hw64 : ∀ x ∈ ws, x.2.size = 64 := fun x hx => by have := of_decide_eq_true (hw x hx); omega
  have HH64 := hid (hsOf_64 hw64)
  have hne' : ∀ b, a2 = some ⟨b, 0, none⟩ → hcells (hsOf ws) ≠ [] → b ≠ g := fun b hb hc => (hne b hb (fun e => hc (by rw [e]; rfl))).1
  have hgl : g < w2.heap.size := HPR.out.lt
  have hRg : w.heap.size + 1 ≠ g := by have := HRR1.out; omega
  have hwg : w.heap.size ≤ g := by have := HRR1.out; omega
  have hst : PLs w (w2.alloc (.cells #[.slice (some ⟨g, 0, none⟩) ss.length ss.length, .slice a2 ws.length c2] 137)) (w.heap.size + 1) w2.heap.size g [.slice (some ⟨g, 0, none⟩) ss.length ss.length, .slice a2 ws.length c2] a2 (hsOf ws) (ss.map nums) :=
    ⟨Below.then HB2.out (Nat.le_refl _) (below_new _ _), HRR2.out.alloc _, row_new _ _ _, HPR.out.below (below_new _ _), HO2.out.below (below_new _ _)⟩
  have HST := hid hst
  have HW := hid hw
  clear hst HPR HO2 HB2 HRR2 hne hw hw64
  go_loopw [6, 7, 17] (fun _ _ i wr => ∃ (k : Nat) (ps : List (List Int)), k ≤ ws.length ∧ i = .int .i64 k ∧ ps.length = ss.length ∧ Hid (lays zs k ((hsOf ws).drop k) ps = RES) ∧ PLs w wr (w.heap.size + 1) w2.heap.size g [.slice (some ⟨g, 0, none⟩) ss.length ss.length, .slice a2 ws.length c2] a2 (hsOf ws) ps) (fun _ _ i _ => ws.length - (intOf i).toNat)
  case atStart => exact ⟨0, _, Nat.zero_le _, rfl, by simp, by show _ = _; rw [List.drop_zero, HRES.out], HST.out⟩
  case round =>
    clear HST
    obtain ⟨k, ps, hk, rfl, hpl, HK, hst⟩ := hrel
    have hrl : RES.length = ss.length := by rw [← HK.out, lays_length, hpl]
    by_cases hlt : k < ws.length
    · obtain ⟨b, o, m0, x, rfl, hlb, hrg, HX⟩ := (hst.own.hld HH64.out).at (k := k) (by rw [hsOf_length]; exact hlt)
      have hmem : Hid ((m0, x) ∈ hsOf ws) := by show _ ∈ _; rw [HX.out]; simp [List.getD, hsOf_length, hlt]
      have hxl : x.length = 64 := HH64.out (m0, x) hmem.out
      obtain ⟨m, rfl, hm⟩ : ∃ m : Nat, m0 = (m : Int) ∧ m < ss.length := by
        obtain ⟨y, hy, e⟩ := List.mem_map.1 hmem.out
        have hyw := of_decide_eq_true (HW.out y hy)
        have e1 : y.1 = m0 := by rw [Prod.mk.injEq] at e; exact e.1
        exact ⟨m0.toNat, by omega, by omega⟩
      have hxm : (Value.int .i64 (m : Int) :: x.map (Value.int .u8)).length = 65 := by simp [hxl]
      have HI65 : Hid ((Try.prog.info? 142).map (·.size) = some (Value.int .i64 (m : Int) :: x.map (Value.int .u8)).length) := by rw [hxm]; show _ = _; kernel_rfl
      have HXM := hid hxm.symm
      have hzh := zeroHeld
      have HSR := hid hst
      clear hxm hst
      go_wp2_with (first | (with_reducible refine at_load 142 _ rfl ?_; refine wpList_load_mid rfl 142 _ rfl b (o + k * 65) rfl (Value.int .i64 (m : Int) :: x.map (Value.int .u8)) _ hrg Try.underlying142 rfl HI65.out ?_) | (with_reducible refine at_store 142 _ _ rfl ?_; refine wpList_store_cells rfl 142 _ _ rfl (Value.int .i64 (m : Int) :: x.map (Value.int .u8)) (held_one (m : Int) x) rfl rfl _ _ (by rw [← HXM.out]; kernel_rfl) HI65.out ?_; intro wx hrow hbx hsx))
      have HSX := hid (HSR.out.below hbx)
      have hrx := hrow.range
      have HROW := hid hrow
      have hlY : wr.heap.size ≠ g := by have := HSR.out.pr.lt; omega
      have hfl := fate_le zs k
      obtain ⟨F, HF⟩ : ∃ F, Hid (F = fate zs k) := ⟨_, hid rfl⟩
      rw [← HF.out] at hfl
      have HZX := hid (((hz.below HSX.out.bel)))
      clear hrow hrg hbx hsx hrx
      refine wp_region_held_drew (S := fun w' => w'.rangeAt wr.heap.size 0 (Value.int .i64 (m : Int) :: x.map (Value.int .u8))) (by kernel_rfl) HROW.out.drew.range (fun hHeld => ?_)
      refine wpAnyH_take (i := 0) (v := .agg (Value.int .i64 (m : Int) :: x.map (Value.int .u8)).toArray) rfl (by kernel_rfl) (by kernel_rfl) (by kernel_rfl) (fun _ _ _ h => h) (yieldsIf_load_mid (by rfl) _ _ rfl wr.heap.size 0 rfl (Value.int .i64 (m : Int) :: x.map (Value.int .u8)) _ (fun w hw => hw) Try.underlying142 rfl HI65.out) hHeld ?_
      simp only [Act.put, List.setIfInBounds_toArray]
      refine wpAnyH_take (i := 1) (v := .slice f zs.length cf) rfl (by kernel_rfl) (by kernel_rfl) (by kernel_rfl) (fun _ _ _ h => h) (Or.inl ⟨by rfl, fun w hw => by go_simp⟩) hHeld ?_
      simp only [Act.put]
      refine wpAnyH_take (i := 2) (v := .int .i64 (k : Int)) rfl (by kernel_rfl) (by kernel_rfl) (by kernel_rfl) (fun _ _ _ h => h) (Or.inl ⟨by rfl, fun w hw => by go_simp⟩) hHeld ?_
      simp only [Act.put]
      refine wpAnyH_ready (rs := [3]) (by kernel_rfl) (by simp) ?_
      refine AllReadyH.cons rfl (fun K hK => ?_) AllReadyH.nil
      refine step_call (by rfl) 85 #[.slice f zs.length cf, .int .i64 (k : Int)] (by go_simp) (fate_i f zs cf k _ (hz.below HSX.out.drew.bel) hlz (by omega)) ?_
      rw [← HF.out]
      rintro e w3 ⟨rfl, rfl⟩
      refine ⟨_, rfl, ?_⟩
      refine hK.out _ _ hHeld (fun _ => ?_)
      clear hK K
      simp only [Act.put]
      refine wpAnyH_ready (rs := [4]) (by kernel_rfl) (by simp) ?_
      refine AllReadyH.cons rfl (fun K hK => ?_) AllReadyH.nil
      refine step_call (by rfl) 84 #[.pointer (some ⟨w2.heap.size, 0, none⟩), .agg (Value.int .i64 (m : Int) :: x.map (Value.int .u8)).toArray, .int .i64 (F : Int)] (by go_simp) (lay_i w2.heap.size g ss.length ss.length (.slice none 0 0) ps m x F _ (HSX.out.drew.rx.cell 0 _ rfl) (by omega) HSX.out.drew.pr hpl hm hn2 (Nat.le_refl _) hxl hfl) ?_
      rintro e w4 ⟨rfl, hpr4, hgr⟩
      refine ⟨_, rfl, ?_⟩
      refine hK.out _ _ (HROW.out.drew.grown hgr (fun e => hlY (by injection e))).range (fun _ => ?_)
      clear hK K
      simp only [Act.put]
      refine wpAnyH_done (by kernel_rfl) ?_ _
      have hst' := HSX.out.drew.grown hgr hpr4 hwg hRg (by omega) hne'
      have HST' := hid hst'
      have HK' : Hid (lays zs (k + 1) ((hsOf ws).drop (k + 1)) (ps.set m (torn F x (ps.getD m []))) = RES) := by
        show _ = _
        rw [← HK.out, drop_at (hsOf ws) k (0, []) (by rw [hsOf_length]; exact hlt), ← HX.out, lays, Int.toNat_natCast, HF.out]
      clear hst' hpr4 hgr hHeld
      go_wp2
      go_roundw
      case rel => exact ⟨k + 1, _, by omega, by go_num, by simp [hpl], HK', HST'.out⟩
      case measure => simp [intOf]; omega
    · have hres : Hid (ps = RES) := by
        have := HK.out
        rw [List.drop_of_length_le (by rw [hsOf_length]; omega)] at this
        exact this
      rw [hres.out] at hst
      have HSR := hid hst
      have q0 := hst.rx.cell 0 _ rfl
      have q1 := hst.rx.cell 1 _ rfl
      have f1 := hst.rx.froz 1 (by simp)
      clear hst
      go_wp2_with fail
      have hXg : w2.heap.size ≠ g := by omega
      have hlX : w.heap.size + 1 < w2.heap.size := by have := HRR1.out; omega
      have hprS := HSR.out.pr.other ⟨w2.heap.size, 1, none⟩ hXg (.slice none 0 0)
      have hrrS := HSR.out.rr.other ⟨w2.heap.size, 1, none⟩ (by show w2.heap.size ≠ w.heap.size + 1; omega) (.slice none 0 0)
      have hbS := HSR.out.bel.setCell (p := ⟨w2.heap.size, 1, none⟩) (by show w.heap.size ≤ w2.heap.size; omega) (.slice none 0 0)
      refine (disk_i' (some ⟨g, 0, none⟩) RES ss.length ss.length none [] 0 0 hrl rfl _ hprS.plt (.inl rfl) hn2 (by omega) hprS.len (fun p hp => by simp at hp)).mono ?_
      rintro e w5 ⟨a1, c1, a1', c1', rfl, hod, hg1, hg2, hb5⟩
      have rR := hrrS.below hb5
      have r0 := rR.cell 0 _ rfl
      have r1 := rR.cell 1 _ rfl
      have fr0 := rR.froz 0 (by simp)
      have fr1 := rR.froz 1 (by simp)
      have HB5 := hid (Below.then hbS (Nat.le_refl _) hb5)
      have hbb := hbS.size
      have HOD := hid hod
      have HG1 : Hid (∀ g, blk a1 ss.length = some g → w.heap.size + 1 < g) := fun g hg => by
        have h1 := hg1 g hg
        have h2 := hrrS.lt
        omega
      clear hod hg1 hg2 hb5 rR hprS hrrS hbS q0 q1 f1 hbb
      go_wp2
      have hseg : (secs RES).length = ss.length := by simp [secs, hrl]
      refine bodyPost_ret (v := diskV a1 ss.length c1 a1' 0 c1') (by simp [results, Try.results27, go_sem, r0, r1]) rfl ⟨a1, c1, a1', c1', rfl, ⟨?_, .inl rfl, .inr (.inl rfl)⟩, fun g hg => by have := HG1.out g hg; omega, ?_⟩
      · have hs1 : ∀ (wz : World) (u : Value) (i : Nat), OwnS wz a1 ((secs RES).map Value.string) → OwnS (wz.setCell ⟨w.heap.size + 1, i, none⟩ u) a1 ((secs RES).map Value.string) := fun wz u i ho => by
          rcases ho with ho | ⟨g3, e3, hr3⟩
          · exact .inl ho
          · refine .inr ⟨g3, e3, hr3.other _ (fun e => ?_) _⟩
            have := HG1.out g3 (by rw [e3]; exact blk_pos g3 0 _ (by omega))
            have e' : w.heap.size + 1 = g3 := e
            omega
        exact hs1 _ _ _ (hs1 _ _ _ HOD.out.s)
      · exact (HB5.out.setCell (by show w.heap.size ≤ w.heap.size + 1; omega) _).setCell (by show w.heap.size ≤ w.heap.size + 1; omega) _
end Go.Proofs.Ytnmaknnnmjfhkad
