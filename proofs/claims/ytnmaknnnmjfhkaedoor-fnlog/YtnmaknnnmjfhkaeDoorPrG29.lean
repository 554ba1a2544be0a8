import Derived.Test.YtnmaknnnmjfhkaeDoorPrCpy
import Derived.Test.YtnmaknnnmjfhkaeDoorPrValid
import Derived.Test.YtnmaknnnmjfhkaeDoorPrG28
import Derived.Test.YtnmaknnnmjfhkaeDoorPrDrvOf
import Derived.Test.YtnmaknnnmjfhkaeDoorPrG46
import Derived.Test.YtnmaknnnmjfhkaeDoorPrDrv
import Derived.Test.YtnmaknnnmjfhkaeDoorPrG27
import Derived.Test.YtnmaknnnmjfhkaeDoorPrG33
set_option maxHeartbeats 16000000
set_option maxRecDepth 8000
namespace Go.Proofs.YtnmaknnnmjfhkaeDoor
open Go.RowKit
set_option linter.unusedVariables false
set_option linter.unusedSimpArgs false
def syncs : List (Int × ByteArray) → List ByteArray → List ByteArray
  | [], ss => ss
  | x :: r, ss => syncs r (ss.set x.1.toNat x.2)
theorem syncs_length : ∀ (ws : List (Int × ByteArray)) (ss : List ByteArray), (syncs ws ss).length = ss.length
  | [], _ => rfl
  | x :: r, ss => by rw [syncs, syncs_length r]; simp
structure SYs (W w : World) (R X g g' n n' c1 c1' : Nat) (ws : List (Int × ByteArray)) (ts : List ByteArray) : Prop where
  gr : W.grownBy w (some g)
  rr : Row w R [.slice none 0 0, .slice none 0 0]
  rx : Row w X [.slice (some ⟨g, 0, none⟩) n c1, .slice (some ⟨g', 0, none⟩) n' c1']
  rs : Row w g (ts.map Value.string)
  own : OwnS w (some ⟨g', 0, none⟩) (wcells ws)
section
variable {W w w' : World} {R X g g' n n' c1 c1' : Nat} {ws : List (Int × ByteArray)} {ts : List ByteArray}
theorem SYs.below (h : SYs W w R X g g' n n' c1 c1' ws ts) (hb : Below w.heap.size w w') : SYs W w' R X g g' n n' c1 c1' ws ts :=
  ⟨grown_trans h.gr (grown_of_below _ hb), h.rr.below hb, h.rx.below hb, h.rs.below hb, h.own.below hb⟩
theorem SYs.drew (h : SYs W w R X g g' n n' c1 c1' ws ts) : SYs W w.drew R X g g' n n' c1 c1' ws ts := h.below ((Below.refl _ _).drew)
theorem SYs.set (h : SYs W w R X g g' n n' c1 c1' ws ts) (m : Nat) (hm : m < ts.length) (s : ByteArray) (h2 : R ≠ g) (h3 : X ≠ g) (h4 : wcells ws ≠ [] → g' ≠ g) : SYs W (w.setCell ⟨g, m, none⟩ (.string s)) R X g g' n n' c1 c1' ws (ts.set m s) := by
  refine ⟨grown_set h.gr _ _, h.rr.other _ (fun e => h2 e.symm) _, h.rx.other _ (fun e => h3 e.symm) _, ?_, ?_⟩
  · rw [List.map_set]; exact h.rs.set m (by simpa using hm) _
  · rcases h.own with ho | ⟨b, e, hr⟩
    · exact .inl ho
    · injection e with e; injection e with e
      by_cases hc : wcells ws = []
      · exact .inl hc
      · exact .inr ⟨g', rfl, (e ▸ hr).other _ (fun e2 => h4 hc e2.symm) _⟩
end
end Go.Proofs.YtnmaknnnmjfhkaeDoor

namespace Go.Proofs.YtnmaknnnmjfhkaeDoor
open Go.RowKit
set_option linter.unusedVariables false
def opD (d : List ByteArray × List (Int × ByteArray)) (o : Bool × Int × ByteArray) : List ByteArray × List (Int × ByteArray) :=
  if o.1 = true then (syncs d.2 d.1, []) else if wOk d.1.length o.2 = true ∧ d.2.length < 300 then (d.1, d.2 ++ [o.2]) else d
def opsD : List (Bool × Int × ByteArray) → List ByteArray × List (Int × ByteArray) → List ByteArray × List (Int × ByteArray)
  | [], d => d
  | o :: r, d => opsD r (opD d o)
theorem opD_sync (d : List ByteArray × List (Int × ByteArray)) (x : Int × ByteArray) : opD d (true, x) = (syncs d.2 d.1, []) := by simp [opD]
theorem opD_yes (d : List ByteArray × List (Int × ByteArray)) (x : Int × ByteArray) (h : wOk d.1.length x = true) (h2 : d.2.length < 300) : opD d (false, x) = (d.1, d.2 ++ [x]) := by simp [opD, h, h2]
theorem opD_no (d : List ByteArray × List (Int × ByteArray)) (x : Int × ByteArray) (h : wOk d.1.length x = false ∨ ¬ d.2.length < 300) : opD d (false, x) = d := by
  unfold opD
  rw [if_neg (by simp), if_neg]
  rintro ⟨h1, h2⟩
  rcases h with h | h
  · rw [h] at h1; cases h1
  · exact h h2
theorem opD_len (d : List ByteArray × List (Int × ByteArray)) (o : Bool × Int × ByteArray) : (opD d o).1.length = d.1.length := by
  unfold opD
  split
  · exact syncs_length _ _
  · split <;> rfl
theorem syncs_64 : ∀ (ws : List (Int × ByteArray)) (ss : List ByteArray), (∀ s ∈ ss, (s.size : Int) = 64) → (∀ x ∈ ws, (x.2.size : Int) = 64) → ∀ s ∈ syncs ws ss, (s.size : Int) = 64
  | [], ss, h, _ => h
  | x :: r, ss, h, hw => syncs_64 r _ (fun s hs => by
      rcases List.mem_or_eq_of_mem_set hs with h3 | h3
      · exact h s h3
      · rw [h3]; exact hw x (List.mem_cons_self ..)) (fun y hy => hw y (List.mem_cons_of_mem _ hy))
theorem wOk_64 {n : Nat} {x : Int × ByteArray} (h : wOk n x = true) : (0 ≤ x.1 ∧ x.1 < (n : Int)) ∧ (x.2.size : Int) = 64 := by
  have := of_decide_eq_true h
  omega
theorem diskOk_mk {ss : List ByteArray} {ws : List (Int × ByteArray)} (h1 : 8 ≤ ss.length ∧ ss.length ≤ 200 ∧ ws.length ≤ 300) (h2 : ∀ s ∈ ss, (s.size : Int) = 64) (h3 : ∀ x ∈ ws, wOk ss.length x = true) : diskOk ss ws = true := by
  unfold diskOk
  rw [Bool.and_eq_true, Bool.and_eq_true]
  exact ⟨⟨decide_eq_true h1, List.all_eq_true.2 fun s hs => decide_eq_true (h2 s hs)⟩, List.all_eq_true.2 h3⟩
theorem opD_ok (d : List ByteArray × List (Int × ByteArray)) (o : Bool × Int × ByteArray) (h : diskOk d.1 d.2 = true) : diskOk (opD d o).1 (opD d o).2 = true := by
  obtain ⟨h1, h2, h3⟩ := diskOk_of h
  unfold opD
  split
  · refine diskOk_mk ?_ (syncs_64 _ _ h2 fun x hx => (wOk_64 (h3 x hx)).2) (fun x hx => by simp at hx)
    show 8 ≤ (syncs d.2 d.1).length ∧ (syncs d.2 d.1).length ≤ 200 ∧ 0 ≤ 300
    rw [syncs_length]; omega
  · split
    · rename_i hc
      refine diskOk_mk ?_ h2 (fun x hx => ?_)
      · show 8 ≤ d.1.length ∧ d.1.length ≤ 200 ∧ (d.2 ++ [o.2]).length ≤ 300
        rw [List.length_append]; have := hc.2; simp; omega
      · rcases List.mem_append.1 hx with hx | hx
        · exact h3 x hx
        · rw [List.mem_singleton.1 hx]; exact hc.1
    · exact h
theorem torn_all (x y : List Int) (hx : x.length = 64) (hy : y.length = 64) : torn 64 x y = x := by
  unfold torn
  rw [List.take_of_length_le (by omega), List.drop_of_length_le (by omega), List.append_nil]
structure DV (w : World) (base X g n : Nat) (v : Value) (ps : List (List Int)) (hs : List (Int × List Int)) : Prop where
  rx : Row w X [.slice (some ⟨g, 0, none⟩) n n, v]
  pr : PR w g ps
  own : w.ownsRow base 119 65 v hs.length (hcells hs)
  nx : v.ownBlock ≠ some X
  ng : v.ownBlock ≠ some g
  xg : X ≠ g
  bx : base ≤ X
  bg : base ≤ g
theorem DV.below {w w' : World} {base X g n : Nat} {v : Value} {ps : List (List Int)} {hs : List (Int × List Int)} (h : DV w base X g n v ps hs) (hb : Below w.heap.size w w') : DV w' base X g n v ps hs :=
  ⟨h.rx.below hb, h.pr.below hb, owns_below h.own hb, h.nx, h.ng, h.xg, h.bx, h.bg⟩
end Go.Proofs.YtnmaknnnmjfhkaeDoor

namespace Go.Proofs.YtnmaknnnmjfhkaeDoor
open Go.RowKit
set_option maxRecDepth 4000
set_option linter.unusedVariables false
theorem disk_i' (a : Option Addr) (ps : List (List Int)) (n c : Nat) (a' : Option Addr) (hs : List (Int × List Int)) (n' c' : Nat) (hn : ps.length = n) (hn' : hs.length = n') (w : World) (h : Plt w a ps) (h' : Hld w a' hs) (hl : n ≤ 200) (hl' : n' ≤ 300) (h64 : ∀ p ∈ ps, p.length = 64) (h64' : ∀ p ∈ hs, p.2.length = 64) :
    Calls Tryd.prog 39 #[diskV a n c a' n' c'] w fun e w' => ∃ a1 c1 a1' c1', e = .returned (diskV a1 n c1 a1' n' c1') ∧ OwnD w' a1 (secs ps) a1' (held hs) ∧ (∀ g, blk a1 n = some g → w.heap.size ≤ g) ∧ (∀ g, blk a1' n' = some g → w.heap.size ≤ g) ∧ Below w.heap.size w w' := by
  subst hn hn'
  refine (disk_i a ps c a' hs c' w h h' hl hl' h64 h64').mono ?_
  rintro e w' ⟨v, v', rfl, o1, o2, hap, hb⟩
  have l1 : (secs ps).length = ps.length := by simp [secs]
  have l2 : (held hs).length = hs.length := by simp [held]
  have f1 : ∃ a1 c1, v = .slice a1 ps.length c1 ∧ OwnS w' a1 ((secs ps).map Value.string) ∧ (∀ g, blk a1 ps.length = some g → w.heap.size ≤ g) ∧ (blk a1 ps.length = none ∨ blk a1 ps.length = v.ownBlock) := by
    rcases owns_forms o1 with ⟨e, h0⟩ | ⟨g, cap, e, h1, _, hr⟩
    · refine ⟨none, 0, by rw [h0]; exact e, .inl ?_, fun g hg => ?_, .inl ?_⟩
      · rw [List.eq_nil_of_length_eq_zero (l1.trans h0)]; rfl
      · rw [h0] at hg; cases hg
      · rw [h0]; rfl
    · refine ⟨_, cap, e, .inr ⟨g, rfl, hr⟩, fun g' hg => ?_, ?_⟩
      · unfold blk at hg; split at hg
        · cases hg
        · cases hg; exact h1
      · unfold blk; split
        · exact .inl rfl
        · right; rw [e]; rfl
  have f2 : ∃ a1 c1, v' = .slice a1 hs.length c1 ∧ OwnS w' a1 (wcells (held hs)) ∧ (∀ g, blk a1 hs.length = some g → w.heap.size ≤ g) ∧ (blk a1 hs.length = none ∨ blk a1 hs.length = v'.ownBlock) := by
    rcases owns_forms o2 with ⟨e, h0⟩ | ⟨g, cap, e, h1, _, hr⟩
    · refine ⟨none, 0, by rw [h0]; exact e, .inl ?_, fun g hg => ?_, .inl ?_⟩
      · rw [List.eq_nil_of_length_eq_zero (l2.trans h0)]; rfl
      · rw [h0] at hg; cases hg
      · rw [h0]; rfl
    · refine ⟨_, cap, e, .inr ⟨g, rfl, hr⟩, fun g' hg => ?_, ?_⟩
      · unfold blk at hg; split at hg
        · cases hg
        · cases hg; exact h1
      · unfold blk; split
        · exact .inl rfl
        · right; rw [e]; rfl
  obtain ⟨a1, c1, e1, g1, g2, g3⟩ := f1
  obtain ⟨a2, c2, e2, k1, k2, k3⟩ := f2
  refine ⟨a1, c1, a2, c2, by rw [e1, e2], ⟨g1, k1, ?_⟩, g2, k2, hb⟩
  rw [l1, l2]
  rcases g3 with g3 | g3
  · exact .inl g3
  · rcases k3 with k3 | k3
    · exact .inr (.inl k3)
    · rw [g3, k3]; exact hap
end Go.Proofs.YtnmaknnnmjfhkaeDoor

namespace Go.Proofs.YtnmaknnnmjfhkaeDoor
open Go.RowKit
set_option linter.unusedVariables false
theorem OwnS.hld {w : World} {a : Option Addr} {hs : List (Int × List Int)} (h : OwnS w a (hcells hs)) (hl : ∀ p ∈ hs, p.2.length = 64) : Hld w a hs := by
  rcases h with h | ⟨g, rfl, h2⟩
  · refine .inl (List.eq_nil_of_length_eq_zero ?_)
    have := congrArg List.length h
    rw [hcells_length hs hl, List.length_nil] at this; omega
  · exact h2.hld hl
theorem hsOf_64 {ws : List (Int × ByteArray)} (h : ∀ x ∈ ws, x.2.size = 64) : ∀ p ∈ hsOf ws, p.2.length = 64 := fun p hp => by
  obtain ⟨x, hx, rfl⟩ := List.mem_map.1 hp
  show (nums x.2).length = 64
  rw [nums_length, h x hx]
end Go.Proofs.YtnmaknnnmjfhkaeDoor

namespace Go.Proofs.YtnmaknnnmjfhkaeDoor
open Go.RowKit
set_option linter.unusedVariables false
set_option linter.unusedSimpArgs false
def cvs : List (Int × List Int) → List (List Int) → List (List Int)
  | [], ps => ps
  | x :: r, ps => cvs r (ps.set x.1.toNat x.2)
theorem cvs_set (ws : List (Int × ByteArray)) : ∀ (ss : List ByteArray), cvs (hsOf ws) (ss.map nums) = (syncs ws ss).map nums := by
  induction ws with
  | nil => intro ss; rfl
  | cons x r ih =>
    intro ss
    have := ih (ss.set x.1.toNat x.2)
    rw [List.map_set] at this
    exact this
theorem DV.lay {w w' : World} {base X g n : Nat} {v : Value} {ps ps' : List (List Int)} {hs : List (Int × List Int)} (h : DV w base X g n v ps hs) (hg : w.grownBy w' (some g)) (hp : PR w' g ps') : DV w' base X g n v ps' hs :=
  ⟨h.rx.grown hg (fun e => h.xg (by injection e)), hp, h.own.kept hg (.inr h.ng), h.nx, h.ng, h.xg, h.bx, h.bg⟩
set_option maxRecDepth 100000 in
set_option maxHeartbeats 16000000 in
theorem sync_d (base X g n : Nat) (v : Value) (ps : List (List Int)) (hs : List (Int × List Int)) (w : World) (h : DV w base X g n v ps hs) (hn : ps.length = n) (hn2 : n ≤ 200) (hl : hs.length ≤ 300) (h64 : ∀ p ∈ hs, p.2.length = 64) (hat : ∀ p ∈ hs, 0 ≤ p.1 ∧ p.1 < (n : Int)) (hbw : base ≤ w.heap.size) :
    Calls Tryd.prog 75 #[.pointer (some ⟨X, 0, none⟩)] w fun e w' => (∃ x, e = .returned x) ∧ DV w' base X g n (.slice none 0 0) (cvs hs ps) [] ∧ Below base w w' := by
  obtain ⟨RES, HRES⟩ : ∃ RES, Hid (RES = cvs hs ps) := ⟨_, hid rfl⟩
  rw [← HRES.out]
  obtain ⟨a2, c2, hv, ho2⟩ : ∃ a2 c2, v = .slice a2 hs.length c2 ∧ (hs = [] ∨ ∃ g2, a2 = some ⟨g2, 0, none⟩ ∧ v.ownBlock = some g2) := by
    rcases owns_forms h.own with ⟨e, h0⟩ | ⟨g2, cap, e, h1, h2, hr⟩
    · exact ⟨none, 0, by rw [e, h0], .inl (List.eq_nil_of_length_eq_zero h0)⟩
    · exact ⟨_, cap, e, .inr ⟨g2, rfl, by rw [e]; rfl⟩⟩
  have q1 := h.rx.cell 1 _ rfl
  rw [hv] at q1
  go_enter Tryd.func75, Tryd.ntmps75
  go_wp2
  have HD := hid h
  have HH64 := hid h64
  have HAT := hid hat
  clear h h64 hat q1
  go_loopw [3, 9] (fun _ i wr => ∃ (k : Nat) (qs : List (List Int)), k ≤ hs.length ∧ i = .int .i64 k ∧ qs.length = n ∧ Hid (cvs (hs.drop k) qs = RES) ∧ DV wr base X g n v qs hs ∧ Below base w wr) (fun _ i _ => hs.length - (intOf i).toNat)
  case atStart => exact ⟨0, ps, Nat.zero_le _, rfl, hn, by show _ = _; rw [List.drop_zero, HRES.out], HD.out, Below.refl _ _⟩
  case round =>
    clear HD
    obtain ⟨k, qs, hk, rfl, hql, HK, hst, hbel⟩ := hrel
    by_cases hlt : k < hs.length
    · obtain ⟨b, hb2, hrow0⟩ : ∃ b, a2 = some ⟨b, 0, none⟩ ∧ Row wr b (hcells hs) := by
        rcases owns_forms hst.own with ⟨e, h0⟩ | ⟨g2, cap, e, h1, h2, hr⟩
        · omega
        · rw [hv] at e
          injection e with e1 e2 e3
          exact ⟨g2, e1, hr⟩
      subst hb2
      obtain ⟨b', o, m0, x, he, hlb, hrg, HX⟩ := (hrow0.hld HH64.out).at (k := k) hlt
      obtain ⟨rfl, rfl⟩ : b = b' ∧ o = 0 := by cases he; exact ⟨rfl, rfl⟩
      clear he hrow0
      rw [Nat.zero_add] at hrg
      have hmem : Hid ((m0, x) ∈ hs) := by show _ ∈ _; rw [HX.out]; simp [List.getD, hlt]
      have hxl : x.length = 64 := HH64.out (m0, x) hmem.out
      obtain ⟨m, rfl, hm⟩ : ∃ m : Nat, m0 = (m : Int) ∧ m < n := by
        have := HAT.out (m0, x) hmem.out
        exact ⟨m0.toNat, by simp at this; omega, by simp at this; omega⟩
      have hxm : (Value.int .i64 (m : Int) :: x.map (Value.int .u8)).length = 65 := by simp [hxl]
      have HI65 : Hid ((Tryd.prog.info? 119).map (·.size) = some (Value.int .i64 (m : Int) :: x.map (Value.int .u8)).length) := by rw [hxm]; show _ = _; kernel_rfl
      have HXM := hid hxm.symm
      have hzh := zeroHeld
      have HSR := hid hst
      clear hxm hst
      go_wp2_with (first | (with_reducible refine at_load 119 _ rfl ?_; refine wpList_load_mid rfl 119 _ rfl b (k * 65) rfl (Value.int .i64 (m : Int) :: x.map (Value.int .u8)) _ hrg Tryd.underlying119 rfl HI65.out ?_) | (with_reducible refine at_load 119 _ rfl ?_; refine wpList_load_mid rfl 119 _ rfl wr.heap.size 0 rfl (Value.int .i64 (m : Int) :: x.map (Value.int .u8)) _ hrow.range Tryd.underlying119 rfl HI65.out ?_) | (with_reducible refine at_store 119 _ _ rfl ?_; refine wpList_store_cells rfl 119 _ _ rfl (Value.int .i64 (m : Int) :: x.map (Value.int .u8)) (held_one (m : Int) x) rfl rfl _ _ (by rw [← HXM.out]; kernel_rfl) HI65.out ?_; intro wx hrow hbx hsx) | (go_at_call 92; refine (lay_i X g n n (.slice none 0 0) qs m x 64 _ ((HSR.out.below hbx).rx.cell 0 _ rfl) HSR.out.xg (HSR.out.below hbx).pr hql hm hn2 (Nat.le_refl _) hxl (Nat.le_refl _)).mono ?_; rintro e w4 ⟨rfl, hpr4, hgr⟩))
      have HST' := hid ((HSR.out.below hbx).lay hgr hpr4)
      have HBE' := hid ((hbel.trans (hbx.mono (Nat.le_trans hbw hbel.size))).trans (grown_below hgr (Nat.le_trans hbw (Nat.le_trans hbel.size hbx.size)) (fun k hk => by cases hk; exact HSR.out.bg)))
      have HK' : Hid (cvs (hs.drop (k + 1)) (qs.set m (torn 64 x (qs.getD m []))) = RES) := by
        show _ = _
        rw [torn_all x _ hxl (getD_len HSR.out.pr.len (by omega)), ← HK.out, drop_at hs k (0, []) hlt, ← HX.out, cvs, Int.toNat_natCast]
      clear hgr hpr4 hbx hrow hrg hsx
      go_wp2
      go_roundw
      case rel => exact ⟨k + 1, _, by omega, by go_num, by simp [hql], HK', HST'.out, HBE'.out⟩
      case measure => simp [intOf]; omega
    · have hres : Hid (qs = RES) := by
        have := HK.out
        rw [List.drop_of_length_le (by omega)] at this
        exact this
      rw [hres.out] at hst
      have HSR := hid hst
      have q1 := hst.rx.cell 1 _ rfl
      have f1 := hst.rx.froz 1 (by simp)
      clear hst
      go_wp2
      go_end0
      refine ⟨⟨_, rfl⟩, ⟨HSR.out.rx.set 1 (by simp) _, HSR.out.pr.other _ HSR.out.xg _, World.ownsRow_nil _ _ _ _, by simp [Value.ownBlock], by simp [Value.ownBlock], HSR.out.xg, HSR.out.bx, HSR.out.bg⟩, hbel.setCell HSR.out.bx _⟩
end Go.Proofs.YtnmaknnnmjfhkaeDoor
