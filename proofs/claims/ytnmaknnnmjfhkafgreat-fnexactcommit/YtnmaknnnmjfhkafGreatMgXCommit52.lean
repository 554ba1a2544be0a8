import Derived.Test.YtnmaknnnmjfhkafGreatMgXCommit51
import Derived.Test.YtnmaknnnmjfhkafGreatMgXCommit50
import Derived.Test.YtnmaknnnmjfhkafGreatPgI
import Derived.Test.YtnmaknnnmjfhkafGreatStV
import Derived.Test.YtnmaknnnmjfhkafGreatStB
import Derived.Test.YtnmaknnnmjfhkafGreatMkP
import Derived.Test.YtnmaknnnmjfhkafGreatMkB
import Derived.Test.YtnmaknnnmjfhkafGreatMkT
import Derived.Test.YtnmaknnnmjfhkafGreatOpA
import Derived.WalkKit
import Derived.WalkSpells
import Derived.WalkLawsBesides
import Derived.Outline
import Derived.BigQuiet
import Derived.Deep.QuietTactic
import Derived.Deep.RegionHeld3
import Derived.Test.YtnmaknnnmjfhkafGreatProg
import Derived.Test.YtnmaknnnmjfhkafGreatDnQ
import Derived.Test.YtnmaknnnmjfhkafGreatDk
import Derived.SliceStrings
import Derived.Deep.SlicePairs
import Derived.ProofKit
import Derived.ChangeOld
import Derived.Test.YtnmaknnnmjfhkafGreatPrA
import Derived.Deep.Slices
import Derived.Lib.SmallJoins
import Derived.Test.YtnmaknnnmjfhkafGreatChA
namespace Go.Proofs.YtnmaknnnmjfhkafGreat
open Go.RowKit
set_option linter.unusedVariables false
set_option linter.unusedSimpArgs false
set_option maxRecDepth 8000

theorem Row.below3 {w w' : World} {N g : Nat} {cs : List Value} (h : Row w g cs) (hg : g < N) (hb : Below N w w') : Row w' g cs :=
  ⟨Nat.lt_of_lt_of_le h.lt hb.size, fun i v hv => (hb.cell (p := ⟨g, i, none⟩) hg).trans (h.cell i v hv), fun i hi => (hb.frozen (p := ⟨g, i, none⟩) hg).trans (h.froz i hi)⟩
theorem prs_news {w : World} {b o : Nat} {rs : List Pr} (h : Prs w (some ⟨b, o, none⟩) rs) : ∀ j u, (prcells rs)[j]? = some u → w.cell? ((⟨b, o, none⟩ : Addr).add j) = some u := fun j u hj => by
  rw [Addr.add_lit]
  have hjl : j < rs.length * 2 := by have := (List.getElem?_eq_some_iff.1 hj).1; rw [pr_len] at this; exact this
  obtain ⟨b', o', s0, s1, e, h0, h1, HS⟩ := h.at (k := j / 2) (by omega)
  cases e
  have hp := prcells_at rs (j / 2) (by omega)
  rcases (show j = j / 2 * 2 ∨ j = j / 2 * 2 + 1 by omega) with e | e
  · rw [e] at hj ⊢
    rw [hp.1, ← HS.out] at hj
    rw [← hj]; exact h0
  · rw [e] at hj ⊢
    rw [hp.2, ← HS.out] at hj
    rw [← hj, ← Nat.add_assoc]; exact h1
theorem app_nil (t e ty : TypeId) (ht : Tryz.prog.underlying t = some (.slice e)) (hs : ((Tryz.prog.info? e).map (·.size)).isSome = true) (a : Option Addr) (c : Nat) (w : World) : (Builtin.append_ #[t, t] ty #[.slice none 0 0, .slice a 0 c]).run Tryz.prog w = .ok (.slice none 0 0) w := by
  cases hq : Tryz.prog.info? e with
  | none => simp [hq] at hs
  | some i =>
    cases a with
    | none => simp [Builtin.append_, run_underlying ht, Builtin.lenOf, Builtin.firstCells, sizeOf, typeInfo, hq]
    | some ad => simp [Builtin.append_, run_underlying ht, Builtin.lenOf, Builtin.firstCells, sizeOf, typeInfo, hq, loadCells, loadCellsFrom]

/-- The place of tryBatch's variables. -/
structure TB (w wr : World) (y : Value) (cur : List Pr) : Prop where
  own : wr.ownsRow (w.heap.size + 1 + 1 + 1) 127 2 y cur.length (prcells cur)
  asc : ascP cur
  r1 : Row wr (w.heap.size + 1) [.slice none 0 0]
  r2 : Row wr (w.heap.size + 1 + 1) [.int .i64 0]
  bel : Below w.heap.size w wr
theorem TB.post {w wr : World} {ya : Option Addr} {yc : Nat} {cur : List Pr} {x : Value} (h : TB w wr (.slice ya cur.length yc) cur) : ApPost w ((wr.setCell ⟨w.heap.size + 1, 0, none⟩ (.slice ya cur.length yc)).setCell ⟨w.heap.size + 1 + 1, 0, none⟩ x) (.returned (.tuple #[.agg #[.slice ya cur.length yc], .int .i64 0])) cur 0 := by
  have hcap : cur.length ≤ yc := by
    rcases h.own.2 with ⟨e1, e2⟩ | ⟨g, cap, cc, e1, _, _, h3, _⟩
    · rw [e2]; omega
    · cases e1; exact h3
  have hof : OwnS wr ya (prcells cur) := by
    rcases owns_forms h.own with ⟨_, e2⟩ | ⟨g, cap, e1, _, _, e4⟩
    · exact .inl (by rw [List.eq_nil_of_length_eq_zero e2]; rfl)
    · cases e1; exact .inr ⟨g, rfl, e4⟩
  have hge : ∀ g, ya = some ⟨g, 0, none⟩ → prcells cur ≠ [] → w.heap.size + 1 + 1 < g := fun g hg hne => by subst hg; have := (h.own.lt g rfl).1; omega
  refine ⟨ya, yc, rfl, hcap, (hof.setA _ (fun g hg hne => by have := hge g hg hne; show w.heap.size + 1 ≠ g; omega) _).setA _ (fun g hg hne => by have := hge g hg hne; show w.heap.size + 1 + 1 ≠ g; omega) _, fun g hg => ?_, (h.bel.setCell (p := ⟨w.heap.size + 1, 0, none⟩) (by show w.heap.size ≤ w.heap.size + 1; omega) _).setCell (p := ⟨w.heap.size + 1 + 1, 0, none⟩) (by show w.heap.size ≤ w.heap.size + 1 + 1; omega) _⟩
  unfold blk at hg
  split at hg
  · cases hg
  · cases ya with
    | none => cases hg
    | some ad =>
      simp at hg
      subst hg
      have := (h.own.lt ad.block rfl).1
      omega

set_option maxHeartbeats 8000000 in
theorem try_i (a : Option Addr) (rs : List Pr) (c : Nat) (a2 : Option Addr) (b : List Ch) (c2 : Nat) (w : World) (h : Prs w a rs) (hok : stateOk rs = true) (h2 : Chs w a2 b) (hokb : batchOk b = true) :
    Calls Tryz.prog 84 #[stV a rs.length c, .slice a2 b.length c2] w fun e w' => ApPost w w' e (apR rs b) (apC rs b) := by
  obtain ⟨i0, hi0, hz0, hz1, hz2⟩ := info_partsP info_prC
  have HI := hid (And.intro hi0 (And.intro hz0 (And.intro hz1 hz2)))
  clear hi0 hz0 hz1 hz2
  have hle : rs.length ≤ 100 := (stateOk_of hok).1
  have hle2 : b.length ≤ 20 := (batchOk_of hokb).1.2
  have hasc := asc_of hok
  have HLN := hid (apU_len rs b)
  unfold stV
  unfold apR apC
  rw [hok, hokb]
  simp only [Bool.and_self, if_true]
  have hmf : ∀ (fn : Fn) (first cap : Array Value) (w : World), (Instr.makeFunc fn first cap).run Tryz.prog w = .ok (.func fn first cap) w := fun _ _ _ _ => rfl
  obtain ⟨wb, hwb⟩ : ∃ wb, wb = ((w.alloc (.cells #[.slice a rs.length c] 33)).alloc (.cells #[.slice none 0 0] 33)).alloc (.cells #[.int .i64 0] 3) := ⟨_, rfl⟩
  have hwbs : wb.heap.size = w.heap.size + 1 + 1 + 1 := by rw [hwb]; simp
  have hbb : Below w.heap.size w wb := by rw [hwb]; exact (((Below.refl _ _).alloc (Nat.le_refl _) _).alloc (by simp) _).alloc (by simp <;> omega) _
  have r0 : Row wb w.heap.size [.slice a rs.length c] := by rw [hwb]; exact ((row_new w _ _).alloc _).alloc _
  have r1 : Row wb (w.heap.size + 1) [.slice none 0 0] := by rw [hwb]; exact (row_atA (w := w.alloc _) (by simp)).alloc _
  have r2 : Row wb (w.heap.size + 1 + 1) [.int .i64 0] := by rw [hwb]; exact row_atA (w := (w.alloc _).alloc _) (by simp)
  have q0 := r0.cell 0 _ rfl
  have l0 := r0.lt
  have HR1 := hid r1
  have HR2 := hid r2
  have HBB := hid hbb
  have HPR := hid (h.below hbb)
  have HAS := hid hasc
  clear r0 r1 r2 hbb hasc hok hokb
  by_cases hz : rs.length = 0
  case pos =>
    obtain rfl := List.eq_nil_of_length_eq_zero hz
    have HTB : Hid (TB w wb (.slice none 0 0) []) := ⟨World.ownsRow_nil _ _ _ _, HAS.out, HR1.out, HR2.out, HBB.out⟩
    go_enter_defers Tryz.func84, Tryz.ntmps84
    go_wp2_with (at_builtin; refine Lib.wpList_append_run _ rfl _ _ 31 31 rfl _ _ rfl rfl _ _ (app_nil _ 127 _ Tryz.underlying31 (by kernel_rfl) a c _) ?_)
    simp only [List.length_nil] at hwb
    rw [← hwb]
    clear hwb q0 l0
    go_wp2_with fail
    go_loopw [6, 15] (fun y i wr => ∃ k : Nat, k ≤ b.length ∧ i = .int .i64 (k : Int) ∧ TB w wr y (apU [] (b.take k))) (fun _ i _ => b.length - (intOf i).toNat)
    case atStart => exact ⟨0, Nat.zero_le _, rfl, HTB.out⟩
    case round =>
      obtain ⟨k, hk, rfl, htb⟩ := hrel
      have hN := HLN.out k
      have hsr : w.heap.size + 1 < wr.heap.size := htb.r1.lt
      have hsr2 : w.heap.size + 1 + 1 < wr.heap.size := htb.r2.lt
      by_cases hlt : k < b.length
      · obtain ⟨bb, oo, s0, s1, g0, rfl, hc0, hc1, hc2, HS⟩ := (h2.below htb.bel).at hlt
        have hlbb : bb < w.heap.size := by
          rcases h2 with h | ⟨b', o', h1, h2, _⟩
          · subst h; simp at hlt
          · cases h1; exact h2
        have hlt' : (k : Int) < (b.length : Int) := by omega
        have hk0 : (0 : Int) ≤ (k : Int) := by omega
        have hst : apU [] (b.take (k + 1)) = chF (s0, s1, g0) (apU [] (b.take k)) := by rw [takeA_snoc b k (ByteArray.empty, ByteArray.empty, false) hlt, apU_snoc, ← HS.out]
        have HST := hid hst
        obtain ⟨cur, hcur⟩ : ∃ cur, cur = apU [] (b.take k) := ⟨_, rfl⟩
        rw [← hcur] at htb HST hN
        have HTB2 := hid htb
        clear hst hcur HS htb
        have meth1 := meth_setA
        have meth2 := meth_remA
        cases g0 with
        | false =>
          go_wp2_with (first | (go_at_call 86; refine (edit_i0 s0 s1 _).mono ?_; rintro e w5 ⟨rfl, hb5⟩; have hb5' := ((Below.refl wr.heap.size wr).alloc (Nat.le_refl _) (.cells #[.string s0, .string s1, .bool false] 78)).trans (hb5.mono (by simp)); have HAP := hid (setap_i (w.heap.size + 1 + 1 + 1) _ cur s0 s1 w5 (owns_below HTB2.out.own hb5') HTB2.out.asc (by omega) (by have := hb5'.size; omega)); have HB5 := hid hb5'; clear hb5 hb5') | (go_at_call 145; refine HAP.out.mono ?_; rintro e w6 ⟨v6, rfl, ho6, ha6, hb6⟩))
          refine ⟨⟨k + 1, by omega, by go_num, ?_⟩, by simp [intOf]; omega⟩
          rw [HST.out]
          exact ⟨ho6, ha6, (HTB2.out.r1.below HB5.out).below3 (by omega) hb6, (HTB2.out.r2.below HB5.out).below3 (by omega) hb6, HTB2.out.bel.trans ((HB5.out.mono HTB2.out.bel.size).trans (hb6.mono (by omega)))⟩
        | true =>
          go_wp2_with (first | (go_at_call 86; refine (edit_i1 s0 s1 _).mono ?_; rintro e w5 ⟨rfl, hb5⟩; have hb5' := ((Below.refl wr.heap.size wr).alloc (Nat.le_refl _) (.cells #[.string s0, .string s1, .bool true] 78)).trans (hb5.mono (by simp)); have HAP := hid (remap_i (w.heap.size + 1 + 1 + 1) _ cur s0 s1 w5 (owns_below HTB2.out.own hb5') HTB2.out.asc (by omega) (by have := hb5'.size; omega)); have HB5 := hid hb5'; clear hb5 hb5') | (go_at_call 136; refine HAP.out.mono ?_; rintro e w6 ⟨v6, rfl, ho6, ha6, hb6⟩))
          refine ⟨⟨k + 1, by omega, by go_num, ?_⟩, by simp [intOf]; omega⟩
          rw [HST.out]
          exact ⟨ho6, ha6, (HTB2.out.r1.below HB5.out).below3 (by omega) hb6, (HTB2.out.r2.below HB5.out).below3 (by omega) hb6, HTB2.out.bel.trans ((HB5.out.mono HTB2.out.bel.size).trans (hb6.mono (by omega)))⟩
      · have hkl : k = b.length := by omega
        subst hkl
        rw [List.take_length] at htb
        obtain ⟨ya, yc, rfl, hyp⟩ := own_prs htb.own
        have q1 := htb.r1.cell 0 _ rfl
        have f1 := htb.r1.froz 0 (by simp)
        have q2 := htb.r2.cell 0 _ rfl
        have f2 := htb.r2.froz 0 (by simp)
        have HTB2 := hid htb
        clear htb hyp
        by_cases h100 : (apU [] b).length ≤ 100
        · go_wp2_with (go_at_call 109; refine (fit_ok _ _ _ h100 _).mono ?_; rintro e w5 ⟨⟨x, rfl⟩, rfl⟩)
          refine leaves_cons (f := 108) (args := #[.pointer (some ⟨w.heap.size + 1, 0, none⟩), .pointer (some ⟨w.heap.size + 1 + 1, 0, none⟩)]) (by simp) (by simp [go_sem]) ?_
          refine (catch_idle _ _ _).mono ?_
          rintro e u' w'' ⟨rfl, rfl, rfl⟩
          simp [Leaves, settle, results, Tryz.results84, go_sem, q1, q2]
          exact HTB2.out.post
        · go_wp2_with (go_at_call 109; refine (fit_no _ _ _ (by omega) _).mono ?_; rintro e w5 ⟨rfl, rfl⟩)
          refine leaves_cons (f := 108) (args := #[.pointer (some ⟨w.heap.size + 1, 0, none⟩), .pointer (some ⟨w.heap.size + 1 + 1, 0, none⟩)]) (by simp) (by simp [go_sem]) ?_
          refine (catch_panic _ _ [] _ _ _ q1 q2 f1 f2 (by simp)).mono ?_
          rintro e u' w'' ⟨rfl, rfl, rfl⟩
          simp [Leaves, settle, results, Tryz.results84, go_sem, q1, q2]
          exact ap_no rfl ((HTB2.out.bel.setCell (p := ⟨w.heap.size + 1, 0, none⟩) (by show w.heap.size ≤ w.heap.size + 1; omega) _).setCell (p := ⟨w.heap.size + 1 + 1, 0, none⟩) (by show w.heap.size ≤ w.heap.size + 1 + 1; omega) _)
  case neg =>
    have hpr := HPR.out
    rcases hpr with h0 | ⟨ab, ao, rfl, hal, hac⟩
    · exact absurd (by rw [h0]; rfl) hz
    have HNW := hid (prs_news HPR.out)
    have hm0 : 0 < rs.length := by omega
    go_enter_defers Tryz.func84, Tryz.ntmps84
    go_wp2_with (at_builtin; rw [← hwb]; refine wpList_append_lies _ rfl _ _ 31 rfl (w.heap.size + 1 + 1 + 1) 127 i0 (.agg #[.string ByteArray.empty, .string ByteArray.empty]) 2 32 Tryz.underlying31 HI.out.1 HI.out.2.1 HI.out.2.2.1 HI.out.2.2.2 rfl (by omega) _ 0 [] rfl (World.ownsRow_nil _ _ _ _) ⟨ab, ao, none⟩ rs.length c (prcells rs) rfl (pr_len rs) HNW.out (pr_one rs) hm0 (by unfold maxLen; omega) (by omega) (by omega) wb.heap.size rfl ?_; intro g9 cap9 w9 hown9 hgrow9 hat9 hlt9; have hb9 : Below wb.heap.size wb w9 := below_of_grown hgrow9 (Nat.le_refl _) (fun k hk => by cases hk); have HTB : Hid (TB w w9 (.slice (some ⟨g9, 0, none⟩) (0 + rs.length) cap9) rs) := hid (by rw [Nat.zero_add] at hown9; exact ⟨by rw [Nat.zero_add]; simpa using hown9, HAS.out, HR1.out.below hb9, HR2.out.below hb9, HBB.out.trans (hb9.mono (by omega))⟩); clear hown9 hgrow9 hat9 hb9)
    clear hwb q0 l0 hal hac HNW
    go_wp2_with fail
    go_loopw [6, 15] (fun y i wr => ∃ k : Nat, k ≤ b.length ∧ i = .int .i64 (k : Int) ∧ TB w wr y (apU rs (b.take k))) (fun _ i _ => b.length - (intOf i).toNat)
    case atStart => exact ⟨0, Nat.zero_le _, rfl, by rw [Nat.zero_add] at HTB; exact HTB.out⟩
    case round =>
      obtain ⟨k, hk, rfl, htb⟩ := hrel
      have hN := HLN.out k
      have hsr : w.heap.size + 1 < wr.heap.size := htb.r1.lt
      have hsr2 : w.heap.size + 1 + 1 < wr.heap.size := htb.r2.lt
      by_cases hlt : k < b.length
      · obtain ⟨bb, oo, s0, s1, g0, rfl, hc0, hc1, hc2, HS⟩ := (h2.below htb.bel).at hlt
        have hlbb : bb < w.heap.size := by
          rcases h2 with h | ⟨b', o', h1, h2, _⟩
          · subst h; simp at hlt
          · cases h1; exact h2
        have hlt' : (k : Int) < (b.length : Int) := by omega
        have hk0 : (0 : Int) ≤ (k : Int) := by omega
        have hst : apU rs (b.take (k + 1)) = chF (s0, s1, g0) (apU rs (b.take k)) := by rw [takeA_snoc b k (ByteArray.empty, ByteArray.empty, false) hlt, apU_snoc, ← HS.out]
        have HST := hid hst
        obtain ⟨cur, hcur⟩ : ∃ cur, cur = apU rs (b.take k) := ⟨_, rfl⟩
        rw [← hcur] at htb HST hN
        have HTB2 := hid htb
        clear hst hcur HS htb
        have meth1 := meth_setA
        have meth2 := meth_remA
        cases g0 with
        | false =>
          go_wp2_with (first | (go_at_call 86; refine (edit_i0 s0 s1 _).mono ?_; rintro e w5 ⟨rfl, hb5⟩; have hb5' := ((Below.refl wr.heap.size wr).alloc (Nat.le_refl _) (.cells #[.string s0, .string s1, .bool false] 78)).trans (hb5.mono (by simp)); have HAP := hid (setap_i (w.heap.size + 1 + 1 + 1) _ cur s0 s1 w5 (owns_below HTB2.out.own hb5') HTB2.out.asc (by omega) (by have := hb5'.size; omega)); have HB5 := hid hb5'; clear hb5 hb5') | (go_at_call 145; refine HAP.out.mono ?_; rintro e w6 ⟨v6, rfl, ho6, ha6, hb6⟩))
          refine ⟨⟨k + 1, by omega, by go_num, ?_⟩, by simp [intOf]; omega⟩
          rw [HST.out]
          exact ⟨ho6, ha6, (HTB2.out.r1.below HB5.out).below3 (by omega) hb6, (HTB2.out.r2.below HB5.out).below3 (by omega) hb6, HTB2.out.bel.trans ((HB5.out.mono HTB2.out.bel.size).trans (hb6.mono (by omega)))⟩
        | true =>
          go_wp2_with (first | (go_at_call 86; refine (edit_i1 s0 s1 _).mono ?_; rintro e w5 ⟨rfl, hb5⟩; have hb5' := ((Below.refl wr.heap.size wr).alloc (Nat.le_refl _) (.cells #[.string s0, .string s1, .bool true] 78)).trans (hb5.mono (by simp)); have HAP := hid (remap_i (w.heap.size + 1 + 1 + 1) _ cur s0 s1 w5 (owns_below HTB2.out.own hb5') HTB2.out.asc (by omega) (by have := hb5'.size; omega)); have HB5 := hid hb5'; clear hb5 hb5') | (go_at_call 136; refine HAP.out.mono ?_; rintro e w6 ⟨v6, rfl, ho6, ha6, hb6⟩))
          refine ⟨⟨k + 1, by omega, by go_num, ?_⟩, by simp [intOf]; omega⟩
          rw [HST.out]
          exact ⟨ho6, ha6, (HTB2.out.r1.below HB5.out).below3 (by omega) hb6, (HTB2.out.r2.below HB5.out).below3 (by omega) hb6, HTB2.out.bel.trans ((HB5.out.mono HTB2.out.bel.size).trans (hb6.mono (by omega)))⟩
      · have hkl : k = b.length := by omega
        subst hkl
        rw [List.take_length] at htb
        obtain ⟨ya, yc, rfl, hyp⟩ := own_prs htb.own
        have q1 := htb.r1.cell 0 _ rfl
        have f1 := htb.r1.froz 0 (by simp)
        have q2 := htb.r2.cell 0 _ rfl
        have f2 := htb.r2.froz 0 (by simp)
        have HTB2 := hid htb
        clear htb hyp
        by_cases h100 : (apU rs b).length ≤ 100
        · go_wp2_with (go_at_call 109; refine (fit_ok _ _ _ h100 _).mono ?_; rintro e w5 ⟨⟨x, rfl⟩, rfl⟩)
          refine leaves_cons (f := 108) (args := #[.pointer (some ⟨w.heap.size + 1, 0, none⟩), .pointer (some ⟨w.heap.size + 1 + 1, 0, none⟩)]) (by simp) (by simp [go_sem]) ?_
          refine (catch_idle _ _ _).mono ?_
          rintro e u' w'' ⟨rfl, rfl, rfl⟩
          simp [Leaves, settle, results, Tryz.results84, go_sem, q1, q2]
          exact HTB2.out.post
        · go_wp2_with (go_at_call 109; refine (fit_no _ _ _ (by omega) _).mono ?_; rintro e w5 ⟨rfl, rfl⟩)
          refine leaves_cons (f := 108) (args := #[.pointer (some ⟨w.heap.size + 1, 0, none⟩), .pointer (some ⟨w.heap.size + 1 + 1, 0, none⟩)]) (by simp) (by simp [go_sem]) ?_
          refine (catch_panic _ _ [] _ _ _ q1 q2 f1 f2 (by simp)).mono ?_
          rintro e u' w'' ⟨rfl, rfl, rfl⟩
          simp [Leaves, settle, results, Tryz.results84, go_sem, q1, q2]
          exact ap_no rfl ((HTB2.out.bel.setCell (p := ⟨w.heap.size + 1, 0, none⟩) (by show w.heap.size ≤ w.heap.size + 1; omega) _).setCell (p := ⟨w.heap.size + 1 + 1, 0, none⟩) (by show w.heap.size ≤ w.heap.size + 1 + 1; omega) _)

set_option maxHeartbeats 4000000 in
theorem apply_i (a : Option Addr) (rs : List Pr) (c : Nat) (a2 : Option Addr) (b : List Ch) (c2 : Nat) (w : World) (h : Prs w a rs) (hl : rs.length ≤ 1048576) (hs : ∀ x ∈ rs, x.1.size ≤ 1048576 ∧ x.2.size ≤ 1048576) (h2 : Chs w a2 b) (hl2 : b.length ≤ 1048576) (hs2 : ∀ x ∈ b, x.1.size ≤ 1048576 ∧ x.2.1.size ≤ 1048576) :
    Calls Tryz.prog 46 #[stV a rs.length c, .slice a2 b.length c2] w fun e w' => ApPost w w' e (apR rs b) (apC rs b) := by
  have HVS := hid (fun w' h' => vstate_i a rs c w' h' hl hs)
  have HVB := hid (fun w' h' => vbatch_i a2 b c2 w' h' hl2 hs2)
  have HTR := hid (fun w' h' hok h2' hokb => try_i a rs c a2 b c2 w' h' hok h2' hokb)
  have hb0 : ∀ o1 o2, Below w.heap.size w ((w.alloc o1).alloc o2) := fun o1 o2 => ((Below.refl _ _).alloc (Nat.le_refl _) _).alloc (by simp) _
  obtain ⟨R, hR⟩ : ∃ R, R = apR rs b := ⟨_, rfl⟩
  obtain ⟨C, hC⟩ : ∃ C, C = apC rs b := ⟨_, rfl⟩
  rw [← hR, ← hC] at HTR ⊢
  unfold ApPost at HTR
  unfold stV at HTR ⊢
  cases hok : stateOk rs with
  | false =>
    have h1 : C = 1 := by rw [hC]; unfold apC; rw [hok]; rfl
    have h0 : R = [] := by rw [hR]; unfold apR; rw [← hC, h1]; rfl
    subst h0 h1
    rw [hok] at HVS
    clear hR hC
    go_enter Tryz.func46, Tryz.ntmps46
    go_wp2_with (go_at_call 68; refine (HVS.out _ (h.below (hb0 _ _))).mono ?_; rintro e w3 ⟨rfl, hb3⟩; have q1 : w3.cell? ⟨w.heap.size + 1, 0, none⟩ = some (.slice none 0 0) := (hb3.cell (p := ⟨w.heap.size + 1, 0, none⟩) (by simp)).trans (by go_simp); have f1 : w3.frozen? ⟨w.heap.size + 1, 0, none⟩ = false := (hb3.frozen (p := ⟨w.heap.size + 1, 0, none⟩) (by simp)).trans (by go_simp); have l1 : w.heap.size + 1 < w3.heap.size := Nat.lt_of_lt_of_le (by simp) hb3.size)
    refine bodyPost_ret (v := .tuple #[stV none 0 0, .int .i64 1]) (by simp [results, Tryz.results46, go_sem, stV, q1]) rfl (ap_no rfl ?_)
    exact ((hb0 _ _).trans (hb3.mono (by simp; omega))).setCell (p := ⟨w.heap.size + 1, 0, none⟩) (by show w.heap.size ≤ w.heap.size + 1; omega) _
  | true =>
    rw [hok] at HVS
    cases hokb : batchOk b with
    | false =>
      have h1 : C = 1 := by rw [hC]; unfold apC; rw [hok, hokb]; rfl
      have h0 : R = [] := by rw [hR]; unfold apR; rw [← hC, h1]; rfl
      subst h0 h1
      rw [hokb] at HVB
      clear hR hC
      go_enter Tryz.func46, Tryz.ntmps46
      go_wp2_with (first | (go_at_call 68; refine (HVS.out _ (h.below (hb0 _ _))).mono ?_; rintro e w3 ⟨rfl, hb3⟩; have HB3 := hid hb3; clear hb3) | (go_at_call 45; refine (HVB.out _ (h2.below ((hb0 _ _).trans (HB3.out.mono (by simp; omega))))).mono ?_; rintro e w4 ⟨rfl, hb4⟩; have hb3 := HB3.out; have hb34 := hb3.trans (hb4.mono hb3.size); have q1 : w4.cell? ⟨w.heap.size + 1, 0, none⟩ = some (.slice none 0 0) := (hb34.cell (p := ⟨w.heap.size + 1, 0, none⟩) (by simp)).trans (by go_simp); have f1 : w4.frozen? ⟨w.heap.size + 1, 0, none⟩ = false := (hb34.frozen (p := ⟨w.heap.size + 1, 0, none⟩) (by simp)).trans (by go_simp); have l1 : w.heap.size + 1 < w4.heap.size := Nat.lt_of_lt_of_le (by simp) hb34.size))
      refine bodyPost_ret (v := .tuple #[stV none 0 0, .int .i64 1]) (by simp [results, Tryz.results46, go_sem, stV, q1]) rfl (ap_no rfl ?_)
      exact ((hb0 _ _).trans (hb34.mono (by simp; omega))).setCell (p := ⟨w.heap.size + 1, 0, none⟩) (by show w.heap.size ≤ w.heap.size + 1; omega) _
    | true =>
      rw [hokb] at HVB
      clear hR hC
      have HOK := hid hok
      have HOKB := hid hokb
      clear hok hokb
      go_enter Tryz.func46, Tryz.ntmps46
      go_wp2_with (first | (go_at_call 68; refine (HVS.out _ (h.below (hb0 _ _))).mono ?_; rintro e w3 ⟨rfl, hb3⟩; have HB3 := hid hb3; clear hb3) | (go_at_call 45; refine (HVB.out _ (h2.below ((hb0 _ _).trans (HB3.out.mono (by simp; omega))))).mono ?_; rintro e w4 ⟨rfl, hb4⟩; have HB4 := hid (HB3.out.trans (hb4.mono HB3.out.size)); clear hb4; have q0 : w4.cell? ⟨w.heap.size, 0, none⟩ = some (.slice a rs.length c) := (HB4.out.cell (p := ⟨w.heap.size, 0, none⟩) (by simp; omega)).trans (by go_simp)) | (go_at_call 84; have hbw : Below w.heap.size w w4 := (hb0 _ _).trans (HB4.out.mono (by simp; omega)); refine (HTR.out _ (h.below hbw) HOK.out (h2.below hbw) HOKB.out).mono ?_; rintro e w5 ⟨a5, c5, rfl, hc5, ho5, hg5, hb5⟩; have hb45 := HB4.out.trans (hb5.mono HB4.out.size); have q1 : w5.cell? ⟨w.heap.size + 1, 0, none⟩ = some (.slice none 0 0) := (hb45.cell (p := ⟨w.heap.size + 1, 0, none⟩) (by simp)).trans (by go_simp); have f1 : w5.frozen? ⟨w.heap.size + 1, 0, none⟩ = false := (hb45.frozen (p := ⟨w.heap.size + 1, 0, none⟩) (by simp)).trans (by go_simp); have l1 : w.heap.size + 1 < w5.heap.size := Nat.lt_of_lt_of_le (by simp) hb45.size; have hs4 : w.heap.size + 1 < w4.heap.size := Nat.lt_of_lt_of_le (by simp) HB4.out.size; have HO5 := hid ho5; have HG5 := hid hg5; have HB5 := hid (hbw.trans (hb5.mono hbw.size)); clear ho5 hg5 hb5 hb45 hbw))
      refine bodyPost_ret (v := .tuple #[stV a5 R.length c5, .int .i64 C]) (by simp [results, Tryz.results46, go_sem, stV, q1]) rfl ⟨a5, c5, rfl, hc5, ?_, fun g hg => by have := HG5.out g hg; omega, ?_⟩
      · exact HO5.out.setA _ (fun g hg hne => by have := HG5.out g (by subst hg; exact blk_pos _ _ _ (prcells_neA hne)); show w.heap.size + 1 ≠ g; omega) _
      · exact HB5.out.setCell (p := ⟨w.heap.size + 1, 0, none⟩) (by show w.heap.size ≤ w.heap.size + 1; omega) _
end Go.Proofs.YtnmaknnnmjfhkafGreat

namespace Go.Proofs.YtnmaknnnmjfhkafGreat
open Go.RowKit
set_option linter.unusedVariables false
set_option linter.unusedSimpArgs false
set_option maxRecDepth 8000

set_option maxHeartbeats 4000000 in
theorem left_i (W S L T H F R U O : Int) (a : Option Addr) (n c : Nat) (w : World) (hU : 0 ≤ U) (hU1 : U ≤ 100000) :
    Calls Tryz.prog 50 #[storeV W S L T H F R U O a n c] w fun e w' => e = .returned (.int .i64 (hv S - U)) ∧ Below w.heap.size w w' := by
  have hQ : 0 ≤ hv S ∧ hv S ≤ 99 := by by_cases h : 8 ≤ S ∧ S ≤ 200; have := hv_yes h; omega; rw [hv_no h]; omega
  have HH := hid (fun w' => halves_i S w')
  obtain ⟨Q, HQ⟩ : ∃ Q, Hid (Q = hv S) := ⟨_, hid rfl⟩
  rw [← HQ.out] at hQ HH ⊢
  have hw : IntKind.i64.wrap (Q - U) = Q - U := by simp [IntKind.wrap, IntKind.bits, IntKind.signed]; omega
  unfold storeV
  go_enter Tryz.func50, Tryz.ntmps50
  go_wp2_with fail
  refine wp_region_held_drew (S := fun w' => w'.cell? ⟨w.heap.size, 1, none⟩ = some (.int .i64 S) ∧ w'.cell? ⟨w.heap.size, 7, none⟩ = some (.int .i64 U)) (by kernel_rfl) (⟨by go_simp, by go_simp⟩) (fun hHeld => ?_)
  refine wpAnyH_take (i := 0) (v := .pointer (some ⟨w.heap.size, 1, none⟩)) rfl (by kernel_rfl) (by kernel_rfl) (by kernel_rfl) (fun _ _ _ h => h) (Or.inl ⟨by rfl, fun w hw => by obtain ⟨z0, z1⟩ := hw; go_simp⟩) hHeld ?_
  simp only [Act.put, List.getElem_toArray, List.getElem_cons_zero, List.getElem_cons_succ, List.setIfInBounds_toArray, List.set_cons_zero, List.set_cons_succ]
  refine wpAnyH_take (i := 1) (v := .int .i64 S) rfl (by kernel_rfl) (by kernel_rfl) (by kernel_rfl) (fun _ _ _ h => h) (Or.inl ⟨by rfl, fun w hw => by obtain ⟨z0, z1⟩ := hw; go_simp⟩) hHeld ?_
  simp only [Act.put, List.getElem_toArray, List.getElem_cons_zero, List.getElem_cons_succ, List.setIfInBounds_toArray, List.set_cons_zero, List.set_cons_succ]
  refine wpAnyH_take (i := 3) (v := .pointer (some ⟨w.heap.size, 7, none⟩)) rfl (by kernel_rfl) (by kernel_rfl) (by kernel_rfl) (fun _ _ _ h => h) (Or.inl ⟨by rfl, fun w hw => by obtain ⟨z0, z1⟩ := hw; go_simp⟩) hHeld ?_
  simp only [Act.put, List.getElem_toArray, List.getElem_cons_zero, List.getElem_cons_succ, List.setIfInBounds_toArray, List.set_cons_zero, List.set_cons_succ]
  refine wpAnyH_take (i := 4) (v := .int .i64 U) rfl (by kernel_rfl) (by kernel_rfl) (by kernel_rfl) (fun _ _ _ h => h) (Or.inl ⟨by rfl, fun w hw => by obtain ⟨z0, z1⟩ := hw; go_simp⟩) hHeld ?_
  simp only [Act.put, List.getElem_toArray, List.getElem_cons_zero, List.getElem_cons_succ, List.setIfInBounds_toArray, List.set_cons_zero, List.set_cons_succ]
  refine wpAnyH_ready (rs := [2]) (by kernel_rfl) (by simp) ?_
  refine AllReadyH.cons rfl (fun K hK => ?_) AllReadyH.nil
  refine step_call (by rfl) 67 #[.int .i64 S] (by go_simp) (HH.out _) ?_
  rintro e wz ⟨rfl, rfl⟩
  refine ⟨_, rfl, ?_⟩
  refine hK.out _ _ hHeld (fun _ => ?_)
  clear hK K
  try simp only [Act.put, List.getElem_toArray, List.getElem_cons_zero, List.getElem_cons_succ, List.setIfInBounds_toArray, List.set_cons_zero, List.set_cons_succ]
  refine wpAnyH_take (i := 5) (v := .int .i64 (Q - U)) rfl (by kernel_rfl) (by kernel_rfl) (by kernel_rfl) (fun _ _ _ h => h) (Or.inl ⟨by rfl, fun w hw => by obtain ⟨z0, z1⟩ := hw; go_simp⟩) hHeld ?_
  simp only [Act.put, List.getElem_toArray, List.getElem_cons_zero, List.getElem_cons_succ, List.setIfInBounds_toArray, List.set_cons_zero, List.set_cons_succ]
  refine wpAnyH_ready (rs := [6]) (by kernel_rfl) (by simp) ?_
  refine AllReadyH.cons rfl (fun K hK => ?_) AllReadyH.nil
  go_simp
  refine hK.out _ _ hHeld (fun _ => ?_)
  clear hK K
  try simp only [Act.put, List.getElem_toArray, List.getElem_cons_zero, List.getElem_cons_succ, List.setIfInBounds_toArray, List.set_cons_zero, List.set_cons_succ]
  refine wpAnyH_done (by kernel_rfl) ?_ _
  go_wp2
  go_ret
  exact ⟨rfl, ((Below.refl _ _).alloc (Nat.le_refl _) _).drew⟩
set_option maxHeartbeats 16000000 in
theorem commit_i (W S L T H F R U O : Int) (a : Option Addr) (rs : List Pr) (c : Nat) (a2 : Option Addr) (b : List Ch) (c2 : Nat) (w : World) (h : Prs w a rs) (hc : rs.length ≤ c) (hl : rs.length ≤ 1048576) (hs : ∀ x ∈ rs, x.1.size ≤ 1048576 ∧ x.2.size ≤ 1048576) (h2 : Chs w a2 b) (hl2 : b.length ≤ 1048576) (hs2 : ∀ x ∈ b, x.1.size ≤ 1048576 ∧ x.2.1.size ≤ 1048576) :
    Calls Tryz.prog 17 #[storeV W S L T H F R U O a rs.length c, .slice a2 b.length c2] w fun x w' => DnPost w w' x (commitD W S L T H F R U O rs b) := by
  have HVS := hid (fun w' h' => vstore_i W S L T H F R U O a rs c w' h' hc hl hs)
  have HVB := hid (fun w' h' => vbatch_i a2 b c2 w' h' hl2 hs2)
  have HAP := hid (fun w' h' h'' => apply_i a rs c a2 b c2 w' h' hl hs h'' hl2 hs2)
  unfold ApPost stV at HAP
  have hAl := apR_len rs b
  have HAM := hid (apR_mem rs b (fun x => x.1.size ≤ 1048576 ∧ x.2.size ≤ 1048576) hs hs2)
  unfold storeV at HVS ⊢
  unfold commitD
  obtain ⟨A1, HA1⟩ : ∃ A1, Hid (A1 = apR rs b) := ⟨_, hid rfl⟩
  obtain ⟨C1, HC1⟩ : ∃ C1, Hid (C1 = apC rs b) := ⟨_, hid rfl⟩
  rw [← HA1.out] at hAl HAM
  rw [← HA1.out, ← HC1.out] at HAP ⊢
  cases hok : storeOk W S L T H F R U O rs with
  | false =>
    rw [hok] at HVS
    simp only [Bool.false_and, Bool.false_eq_true, if_false]
    go_enter Tryz.func17, Tryz.ntmps17
    go_wp2_with fail
    obtain ⟨v0, e0⟩ : ∃ x, x = (w.alloc (.cells #[.int .i64 W, .int .i64 S, .int .i64 L, .int .i64 T, .int .i64 H, .int .i64 F, .int .i64 R, .int .i64 U, .int .i64 O, .slice a rs.length c] 35)).alloc (.cells #[.int .i64 0, .int .i64 0, .int .i64 0, .int .i64 0, .int .i64 0, .int .i64 0, .int .i64 0, .int .i64 0, .int .i64 0, .int .i64 0, .slice none 0 0, .slice none 0 0] 38) := ⟨_, rfl⟩
    have hE : Below w.heap.size w v0 := by rw [e0]; exact ((Below.refl _ _).alloc (Nat.le_refl _) _).alloc (by simp) _
    have s_v0 : w.heap.size + 1 + 1 ≤ v0.heap.size := by rw [e0]; simp
    have bS : Dep v0 w.heap.size (w.heap.size + 1) (fun W' => Row W' w.heap.size [.int .i64 W, .int .i64 S, .int .i64 L, .int .i64 T, .int .i64 H, .int .i64 F, .int .i64 R, .int .i64 U, .int .i64 O, .slice a rs.length c]) := by rw [e0]; exact (dep_box w _ _).below ((Below.refl _ _).alloc (Nat.le_refl _) _)
    have bD : Dep v0 (w.heap.size + 1) (w.heap.size + 1 + 1) (fun W' => Row W' (w.heap.size + 1) [.int .i64 0, .int .i64 0, .int .i64 0, .int .i64 0, .int .i64 0, .int .i64 0, .int .i64 0, .int .i64 0, .int .i64 0, .int .i64 0, .slice none 0 0, .slice none 0 0]) := by rw [e0]; exact dep_row (row_at (w := w.alloc _) (by simp)) (Nat.le_refl _) (by omega) (by simp)
    rw [← e0]
    clear e0
    refine (HVS.out _ (h.below hE)).mono ?_
    rintro e v1 ⟨rfl, hb⟩
    have s_v1 : v0.heap.size ≤ v1.heap.size := hb.size
    have n_bS := bS.below hb
    clear bS
    have bS := n_bS
    clear n_bS
    have n_bD := bD.below hb
    clear bD
    have bD := n_bD
    clear n_bD
    have n_hE := hE.trans (hb.mono hE.size)
    clear hE
    have hE := n_hE
    clear n_hE
    clear hb
    have q_bD_0 := bD.now.cell 0 _ rfl
    have f_bD_0 := bD.now.froz 0 (by simp)
    have q_bD_1 := bD.now.cell 1 _ rfl
    have f_bD_1 := bD.now.froz 1 (by simp)
    have q_bD_2 := bD.now.cell 2 _ rfl
    have f_bD_2 := bD.now.froz 2 (by simp)
    have q_bD_3 := bD.now.cell 3 _ rfl
    have f_bD_3 := bD.now.froz 3 (by simp)
    have q_bD_4 := bD.now.cell 4 _ rfl
    have f_bD_4 := bD.now.froz 4 (by simp)
    have q_bD_5 := bD.now.cell 5 _ rfl
    have f_bD_5 := bD.now.froz 5 (by simp)
    have q_bD_6 := bD.now.cell 6 _ rfl
    have f_bD_6 := bD.now.froz 6 (by simp)
    have q_bD_7 := bD.now.cell 7 _ rfl
    have f_bD_7 := bD.now.froz 7 (by simp)
    have q_bD_8 := bD.now.cell 8 _ rfl
    have f_bD_8 := bD.now.froz 8 (by simp)
    have q_bD_9 := bD.now.cell 9 _ rfl
    have f_bD_9 := bD.now.froz 9 (by simp)
    have q_bD_10 := bD.now.cell 10 _ rfl
    have f_bD_10 := bD.now.froz 10 (by simp)
    have q_bD_11 := bD.now.cell 11 _ rfl
    have f_bD_11 := bD.now.froz 11 (by simp)
    have q_bD_l := bD.now.lt
    go_wp2_with fail
    refine bodyPost_ret (v := dnV (noD 1) none 0 none 0) (by simp [results, Tryz.results17, go_sem, dnV, noD, q_bD_l, q_bD_0, q_bD_1, q_bD_2, q_bD_3, q_bD_4, q_bD_5, q_bD_6, q_bD_7, q_bD_8, q_bD_9, q_bD_10, q_bD_11]) rfl (dn_no rfl ?_)
    iterate 12 (refine Below.setCell ?_ (by show w.heap.size ≤ w.heap.size + 1; omega) _)
    exact hE
  | true =>
    rw [hok] at HVS
    simp only [Bool.true_and]
    cases hokb : batchOk b with
    | false =>
      rw [hokb] at HVB
      simp only [Bool.false_eq_true, if_false]
      go_enter Tryz.func17, Tryz.ntmps17
      go_wp2_with fail
      obtain ⟨v0, e0⟩ : ∃ x, x = (w.alloc (.cells #[.int .i64 W, .int .i64 S, .int .i64 L, .int .i64 T, .int .i64 H, .int .i64 F, .int .i64 R, .int .i64 U, .int .i64 O, .slice a rs.length c] 35)).alloc (.cells #[.int .i64 0, .int .i64 0, .int .i64 0, .int .i64 0, .int .i64 0, .int .i64 0, .int .i64 0, .int .i64 0, .int .i64 0, .int .i64 0, .slice none 0 0, .slice none 0 0] 38) := ⟨_, rfl⟩
      have hE : Below w.heap.size w v0 := by rw [e0]; exact ((Below.refl _ _).alloc (Nat.le_refl _) _).alloc (by simp) _
      have s_v0 : w.heap.size + 1 + 1 ≤ v0.heap.size := by rw [e0]; simp
      have bS : Dep v0 w.heap.size (w.heap.size + 1) (fun W' => Row W' w.heap.size [.int .i64 W, .int .i64 S, .int .i64 L, .int .i64 T, .int .i64 H, .int .i64 F, .int .i64 R, .int .i64 U, .int .i64 O, .slice a rs.length c]) := by rw [e0]; exact (dep_box w _ _).below ((Below.refl _ _).alloc (Nat.le_refl _) _)
      have bD : Dep v0 (w.heap.size + 1) (w.heap.size + 1 + 1) (fun W' => Row W' (w.heap.size + 1) [.int .i64 0, .int .i64 0, .int .i64 0, .int .i64 0, .int .i64 0, .int .i64 0, .int .i64 0, .int .i64 0, .int .i64 0, .int .i64 0, .slice none 0 0, .slice none 0 0]) := by rw [e0]; exact dep_row (row_at (w := w.alloc _) (by simp)) (Nat.le_refl _) (by omega) (by simp)
      rw [← e0]
      clear e0
      refine (HVS.out _ (h.below hE)).mono ?_
      rintro e v1 ⟨rfl, hb⟩
      have s_v1 : v0.heap.size ≤ v1.heap.size := hb.size
      have n_bS := bS.below hb
      clear bS
      have bS := n_bS
      clear n_bS
      have n_bD := bD.below hb
      clear bD
      have bD := n_bD
      clear n_bD
      have n_hE := hE.trans (hb.mono hE.size)
      clear hE
      have hE := n_hE
      clear n_hE
      clear hb
      go_wp2_with fail
      refine (HVB.out _ (h2.below hE)).mono ?_
      rintro e v2 ⟨rfl, hb⟩
      have s_v2 : v1.heap.size ≤ v2.heap.size := hb.size
      have n_bS := bS.below hb
      clear bS
      have bS := n_bS
      clear n_bS
      have n_bD := bD.below hb
      clear bD
      have bD := n_bD
      clear n_bD
      have n_hE := hE.trans (hb.mono hE.size)
      clear hE
      have hE := n_hE
      clear n_hE
      clear hb
      have q_bD_0 := bD.now.cell 0 _ rfl
      have f_bD_0 := bD.now.froz 0 (by simp)
      have q_bD_1 := bD.now.cell 1 _ rfl
      have f_bD_1 := bD.now.froz 1 (by simp)
      have q_bD_2 := bD.now.cell 2 _ rfl
      have f_bD_2 := bD.now.froz 2 (by simp)
      have q_bD_3 := bD.now.cell 3 _ rfl
      have f_bD_3 := bD.now.froz 3 (by simp)
      have q_bD_4 := bD.now.cell 4 _ rfl
      have f_bD_4 := bD.now.froz 4 (by simp)
      have q_bD_5 := bD.now.cell 5 _ rfl
      have f_bD_5 := bD.now.froz 5 (by simp)
      have q_bD_6 := bD.now.cell 6 _ rfl
      have f_bD_6 := bD.now.froz 6 (by simp)
      have q_bD_7 := bD.now.cell 7 _ rfl
      have f_bD_7 := bD.now.froz 7 (by simp)
      have q_bD_8 := bD.now.cell 8 _ rfl
      have f_bD_8 := bD.now.froz 8 (by simp)
      have q_bD_9 := bD.now.cell 9 _ rfl
      have f_bD_9 := bD.now.froz 9 (by simp)
      have q_bD_10 := bD.now.cell 10 _ rfl
      have f_bD_10 := bD.now.froz 10 (by simp)
      have q_bD_11 := bD.now.cell 11 _ rfl
      have f_bD_11 := bD.now.froz 11 (by simp)
      have q_bD_l := bD.now.lt
      go_wp2_with fail
      refine bodyPost_ret (v := dnV (noD 1) none 0 none 0) (by simp [results, Tryz.results17, go_sem, dnV, noD, q_bD_l, q_bD_0, q_bD_1, q_bD_2, q_bD_3, q_bD_4, q_bD_5, q_bD_6, q_bD_7, q_bD_8, q_bD_9, q_bD_10, q_bD_11]) rfl (dn_no rfl ?_)
      iterate 12 (refine Below.setCell ?_ (by show w.heap.size ≤ w.heap.size + 1; omega) _)
      exact hE
    | true =>
      rw [hokb] at HVB
      simp only [if_true]
      obtain ⟨hW, hS, hLL, hT, hH, hF, hU, hO, _⟩ := storeOk_of hok
      have hQ := hv_yes hS
      clear hok hokb
      obtain ⟨n, rfl⟩ : ∃ n : Nat, W = (n : Int) := ⟨W.toNat, by omega⟩
      have en : (n : Int).toNat = n := by omega
      rw [en]
      obtain ⟨m, hm⟩ : ∃ m, m = 56 - n := ⟨_, rfl⟩
      rw [← hm]
      have hnm : n + m = 56 := by omega
      clear en hm
      have HF := hid (fun w' h' => formbatch_i a2 b c2 w' h' hl2 hs2)
      have hbo := bOut_bound b
      have HPG := hid (fun w' => pages_i (bOut b) (n : Int) w' (by omega))
      have hnp := npages_tight (bOut b).size (n : Int) (by omega) (by omega)
      have hcl := cutAll_len' (bOut b) L (F + U) n m hnm (by omega) (by omega) hLL (by omega)
      have HRM := hid (fun a' c' w' h' hc' => hasroom_i (n : Int) S L T H F R U O a' A1 c' w' h' hc' (by omega) HAM.out)
      have HLF := hid (fun a' c' w' => left_i (n : Int) S L T H F R U O a' A1.length c' w' hU.1 (by omega))
      have HWO := hid (fun a' c' w' => writer_of (n : Int) S L T H F R U O a' A1.length c' w' hH.1 hH.2 hF.1 hF.2 hU.1 (by omega))
      have HEN := hid (fun base g v os w' hW hb hos => entry_i base g v os (2 + H * hv S + U) (F + U) L n m (bOut b) w' hW hb (by omega) hos hnm (by omega) (by omega) (by have : 0 ≤ H * hv S := Int.mul_nonneg hH.1 (by omega); omega) (by rcases (show H = 0 ∨ H = 1 by omega) with e | e <;> subst e <;> omega) (by omega) (by omega))
      unfold storeV at HRM HLF HWO
      obtain ⟨Q, HQ⟩ : ∃ Q, Hid (Q = hv S) := ⟨_, hid rfl⟩
      obtain ⟨N, HN⟩ : ∃ N, Hid (N = npages (bOut b).size (n : Int)) := ⟨_, hid rfl⟩
      obtain ⟨bo, hbo1⟩ : ∃ bo, bo = bOut b := ⟨_, rfl⟩
      obtain ⟨cut, hcut⟩ : ∃ cut, cut = cutAll (bOut b) L (F + U) n m := ⟨_, rfl⟩
      have hcl' : (cut.length : Int) = N := by rw [hcut, HN.out]; exact hcl (by omega)
      rw [← hcut] at HEN ⊢
      rw [← hbo1] at HF HPG HEN hbo hnp
      rw [← hbo1] at HN
      rw [← HN.out] at hnp HPG
      rw [← HQ.out] at hQ hU HRM HLF HWO HEN ⊢
      rw [← hbo1, ← HN.out]
      clear hcl hcut hbo1
      obtain ⟨q, hq⟩ : ∃ q, q = 2 + H * Q := ⟨_, rfl⟩
      have hqb : 2 ≤ q ∧ q ≤ 101 := by
        rcases (show H = 0 ∨ H = 1 by omega) with e | e
        · subst e; omega
        · subst e; omega
      rw [← hq] at HWO HEN ⊢
      clear hq
      obtain ⟨r, HRR⟩ : ∃ r, Hid (r = roomOf (snapOf A1) (n : Int)) := ⟨_, hid rfl⟩
      rw [← HRR.out] at HRM ⊢
      obtain ⟨D, HD⟩ : ∃ D, Hid (D = if C1 = 0 then if r ≤ Q - 1 then if N ≤ Q - U then (⟨0, (n : Int), S, L, T, H, F, R, U + N, O + N, A1, putOps (q + U) cut⟩ : Dd) else noD 4 else noD 3 else noD 2) := ⟨_, hid rfl⟩
      rw [← HD.out]
      have hw1 : IntKind.i64.wrap (U + N) = U + N := by simp [IntKind.wrap, IntKind.bits, IntKind.signed]; omega
      have hw2 : IntKind.i64.wrap (O + N) = O + N := by simp [IntKind.wrap, IntKind.bits, IntKind.signed]; omega
      go_enter Tryz.func17, Tryz.ntmps17
      go_wp2_with fail
      obtain ⟨v0, e0⟩ : ∃ x, x = (w.alloc (.cells #[.int .i64 (n : Int), .int .i64 S, .int .i64 L, .int .i64 T, .int .i64 H, .int .i64 F, .int .i64 R, .int .i64 U, .int .i64 O, .slice a rs.length c] 35)).alloc (.cells #[.int .i64 0, .int .i64 0, .int .i64 0, .int .i64 0, .int .i64 0, .int .i64 0, .int .i64 0, .int .i64 0, .int .i64 0, .int .i64 0, .slice none 0 0, .slice none 0 0] 38) := ⟨_, rfl⟩
      have hE : Below w.heap.size w v0 := by rw [e0]; exact ((Below.refl _ _).alloc (Nat.le_refl _) _).alloc (by simp) _
      have s_v0 : w.heap.size + 1 + 1 ≤ v0.heap.size := by rw [e0]; simp
      have bS : Dep v0 w.heap.size (w.heap.size + 1) (fun W' => Row W' w.heap.size [.int .i64 (n : Int), .int .i64 S, .int .i64 L, .int .i64 T, .int .i64 H, .int .i64 F, .int .i64 R, .int .i64 U, .int .i64 O, .slice a rs.length c]) := by rw [e0]; exact (dep_box w _ _).below ((Below.refl _ _).alloc (Nat.le_refl _) _)
      have bD : Dep v0 (w.heap.size + 1) (w.heap.size + 1 + 1) (fun W' => Row W' (w.heap.size + 1) [.int .i64 0, .int .i64 0, .int .i64 0, .int .i64 0, .int .i64 0, .int .i64 0, .int .i64 0, .int .i64 0, .int .i64 0, .int .i64 0, .slice none 0 0, .slice none 0 0]) := by rw [e0]; exact dep_row (row_at (w := w.alloc _) (by simp)) (Nat.le_refl _) (by omega) (by simp)
      rw [← e0]
      clear e0
      refine (HVS.out _ (h.below hE)).mono ?_
      rintro e v1 ⟨rfl, hb⟩
      have s_v1 : v0.heap.size ≤ v1.heap.size := hb.size
      have n_bS := bS.below hb
      clear bS
      have bS := n_bS
      clear n_bS
      have n_bD := bD.below hb
      clear bD
      have bD := n_bD
      clear n_bD
      have n_hE := hE.trans (hb.mono hE.size)
      clear hE
      have hE := n_hE
      clear n_hE
      clear hb
      go_wp2_with fail
      refine (HVB.out _ (h2.below hE)).mono ?_
      rintro e v2 ⟨rfl, hb⟩
      have s_v2 : v1.heap.size ≤ v2.heap.size := hb.size
      have n_bS := bS.below hb
      clear bS
      have bS := n_bS
      clear n_bS
      have n_bD := bD.below hb
      clear bD
      have bD := n_bD
      clear n_bD
      have n_hE := hE.trans (hb.mono hE.size)
      clear hE
      have hE := n_hE
      clear n_hE
      clear hb
      have q_bS_0 := bS.now.cell 0 _ rfl
      have q_bS_1 := bS.now.cell 1 _ rfl
      have q_bS_2 := bS.now.cell 2 _ rfl
      have q_bS_3 := bS.now.cell 3 _ rfl
      have q_bS_4 := bS.now.cell 4 _ rfl
      have q_bS_5 := bS.now.cell 5 _ rfl
      have q_bS_6 := bS.now.cell 6 _ rfl
      have q_bS_7 := bS.now.cell 7 _ rfl
      have q_bS_8 := bS.now.cell 8 _ rfl
      have q_bS_9 := bS.now.cell 9 _ rfl
      have q_bS_l := bS.now.lt
      go_wp2_with fail
      clear q_bS_0 q_bS_1 q_bS_2 q_bS_3 q_bS_4 q_bS_5 q_bS_6 q_bS_7 q_bS_8 q_bS_9 q_bS_l
      refine (HAP.out _ (h.below hE) (h2.below hE)).mono ?_
      rintro e v3 ⟨a5, c5, rfl, hc5, ho, hg, hb⟩
      have s_v3 : v2.heap.size ≤ v3.heap.size := hb.size
      have n_bS := bS.below hb
      clear bS
      have bS := n_bS
      clear n_bS
      have n_bD := bD.below hb
      clear bD
      have bD := n_bD
      clear n_bD
      have n_hE := hE.trans (hb.mono hE.size)
      clear hE
      have hE := n_hE
      clear n_hE
      have dA : Dep v3 v2.heap.size v3.heap.size (fun W => OwnS W a5 (prcells A1)) := dep_own ho prcells_neA hg
      have lo5 : ∀ g, blk a5 A1.length = some g → v2.heap.size ≤ g ∧ g < v3.heap.size := fun g hg' => ⟨hg g hg', ho.lt _ (fun h e => h (by have := congrArg List.length e; rw [prcells_length, List.length_nil] at this; omega)) g hg'⟩
      clear ho hg
      clear hb
      by_cases hC : C1 = 0
      case neg =>
        have q_bD_0 := bD.now.cell 0 _ rfl
        have f_bD_0 := bD.now.froz 0 (by simp)
        have q_bD_1 := bD.now.cell 1 _ rfl
        have f_bD_1 := bD.now.froz 1 (by simp)
        have q_bD_2 := bD.now.cell 2 _ rfl
        have f_bD_2 := bD.now.froz 2 (by simp)
        have q_bD_3 := bD.now.cell 3 _ rfl
        have f_bD_3 := bD.now.froz 3 (by simp)
        have q_bD_4 := bD.now.cell 4 _ rfl
        have f_bD_4 := bD.now.froz 4 (by simp)
        have q_bD_5 := bD.now.cell 5 _ rfl
        have f_bD_5 := bD.now.froz 5 (by simp)
        have q_bD_6 := bD.now.cell 6 _ rfl
        have f_bD_6 := bD.now.froz 6 (by simp)
        have q_bD_7 := bD.now.cell 7 _ rfl
        have f_bD_7 := bD.now.froz 7 (by simp)
        have q_bD_8 := bD.now.cell 8 _ rfl
        have f_bD_8 := bD.now.froz 8 (by simp)
        have q_bD_9 := bD.now.cell 9 _ rfl
        have f_bD_9 := bD.now.froz 9 (by simp)
        have q_bD_10 := bD.now.cell 10 _ rfl
        have f_bD_10 := bD.now.froz 10 (by simp)
        have q_bD_11 := bD.now.cell 11 _ rfl
        have f_bD_11 := bD.now.froz 11 (by simp)
        have q_bD_l := bD.now.lt
        go_wp2_with fail
        rw [show D = noD 2 by rw [HD.out, if_neg hC]]
        refine bodyPost_ret (v := dnV (noD 2) none 0 none 0) (by simp [results, Tryz.results17, go_sem, dnV, noD, q_bD_l, q_bD_0, q_bD_1, q_bD_2, q_bD_3, q_bD_4, q_bD_5, q_bD_6, q_bD_7, q_bD_8, q_bD_9, q_bD_10, q_bD_11]) rfl (dn_no rfl ?_)
        refine (fun hbz => Below.alloc hbz (Below.size hbz) _) ?_
        iterate 12 (refine Below.setCell ?_ (by show w.heap.size ≤ w.heap.size + 1; omega) _)
        exact hE
      subst hC
      have q_bS_0 := bS.now.cell 0 _ rfl
      have f_bS_0 := bS.now.froz 0 (by simp)
      have q_bS_1 := bS.now.cell 1 _ rfl
      have f_bS_1 := bS.now.froz 1 (by simp)
      have q_bS_2 := bS.now.cell 2 _ rfl
      have f_bS_2 := bS.now.froz 2 (by simp)
      have q_bS_3 := bS.now.cell 3 _ rfl
      have f_bS_3 := bS.now.froz 3 (by simp)
      have q_bS_4 := bS.now.cell 4 _ rfl
      have f_bS_4 := bS.now.froz 4 (by simp)
      have q_bS_5 := bS.now.cell 5 _ rfl
      have f_bS_5 := bS.now.froz 5 (by simp)
      have q_bS_6 := bS.now.cell 6 _ rfl
      have f_bS_6 := bS.now.froz 6 (by simp)
      have q_bS_7 := bS.now.cell 7 _ rfl
      have f_bS_7 := bS.now.froz 7 (by simp)
      have q_bS_8 := bS.now.cell 8 _ rfl
      have f_bS_8 := bS.now.froz 8 (by simp)
      have q_bS_9 := bS.now.cell 9 _ rfl
      have f_bS_9 := bS.now.froz 9 (by simp)
      have q_bS_l := bS.now.lt
      go_wp2_with fail
      clear q_bS_0 f_bS_0 q_bS_1 f_bS_1 q_bS_2 f_bS_2 q_bS_3 f_bS_3 q_bS_4 f_bS_4 q_bS_5 f_bS_5 q_bS_6 f_bS_6 q_bS_7 f_bS_7 q_bS_8 f_bS_8 q_bS_9 f_bS_9 q_bS_l
      obtain ⟨v4, e4⟩ : ∃ x, x = (v3.setCell ⟨w.heap.size, 9, none⟩ (.slice a5 A1.length c5)).alloc (.cells #[.slice a5 A1.length c5] 33) := ⟨_, rfl⟩
      have s_v4 : v3.heap.size + 1 ≤ v4.heap.size := by rw [e4]; simp [World.setCell]
      have hgw : v3.grownBy v4 (some w.heap.size) := by rw [e4]; exact grown_trans' (w1 := v3.setCell ⟨w.heap.size, 9, none⟩ (.slice a5 A1.length c5)) ⟨rfl, rfl, rfl, by simp [World.setCell], fun k _ hk => Below.heap_setCell _ _ _ k (fun e => hk (by rw [e]))⟩ (World.grownBy_alloc _ _ _)
      have bS' : Dep v4 w.heap.size (w.heap.size + 1) (fun W' => Row W' w.heap.size [.int .i64 (n : Int), .int .i64 S, .int .i64 L, .int .i64 T, .int .i64 H, .int .i64 F, .int .i64 R, .int .i64 U, .int .i64 O, .slice a5 A1.length c5]) := by
        have := bS.now.set 9 (by simp) (.slice a5 A1.length c5)
        simp only [List.set_cons_zero, List.set_cons_succ] at this
        refine dep_row ?_ (Nat.le_refl _) (by omega) (by omega)
        rw [e4]; exact this.alloc _
      have bD' := bD.grown hgw (fun g hg => by cases hg; left; omega)
      have dA' := dA.grown hgw (fun g hg => by cases hg; left; omega)
      have hE' := hE.trans (below_of_grown hgw hE.size (fun g hg => by cases hg; exact Nat.le_refl _))
      rw [← e4]
      clear e4 hgw bS bD dA hE
      have bS := bS'
      clear bS'
      have bD := bD'
      clear bD'
      have dA := dA'
      clear dA'
      have hE := hE'
      clear hE'
      refine (HF.out _ (h2.below hE)).mono ?_
      rintro e v5 ⟨rfl, hb⟩
      have s_v5 : v4.heap.size ≤ v5.heap.size := hb.size
      have n_bS := bS.below hb
      clear bS
      have bS := n_bS
      clear n_bS
      have n_bD := bD.below hb
      clear bD
      have bD := n_bD
      clear n_bD
      have n_dA := dA.below hb
      clear dA
      have dA := n_dA
      clear n_dA
      have n_hE := hE.trans (hb.mono hE.size)
      clear hE
      have hE := n_hE
      clear n_hE
      clear hb
      have q_bS_0 := bS.now.cell 0 _ rfl
      have q_bS_1 := bS.now.cell 1 _ rfl
      have q_bS_2 := bS.now.cell 2 _ rfl
      have q_bS_3 := bS.now.cell 3 _ rfl
      have q_bS_4 := bS.now.cell 4 _ rfl
      have q_bS_5 := bS.now.cell 5 _ rfl
      have q_bS_6 := bS.now.cell 6 _ rfl
      have q_bS_7 := bS.now.cell 7 _ rfl
      have q_bS_8 := bS.now.cell 8 _ rfl
      have q_bS_9 := bS.now.cell 9 _ rfl
      have q_bS_l := bS.now.lt
      go_wp2_with fail
      clear q_bS_0 q_bS_1 q_bS_2 q_bS_3 q_bS_4 q_bS_5 q_bS_6 q_bS_7 q_bS_8 q_bS_9 q_bS_l
      refine (HPG.out _).mono ?_
      rintro e v6 ⟨rfl, hb⟩
      have s_v6 : v5.heap.size ≤ v6.heap.size := hb.size
      have n_bS := bS.below hb
      clear bS
      have bS := n_bS
      clear n_bS
      have n_bD := bD.below hb
      clear bD
      have bD := n_bD
      clear n_bD
      have n_dA := dA.below hb
      clear dA
      have dA := n_dA
      clear n_dA
      have n_hE := hE.trans (hb.mono hE.size)
      clear hE
      have hE := n_hE
      clear n_hE
      clear hb
      have q_bS_0 := bS.now.cell 0 _ rfl
      have q_bS_1 := bS.now.cell 1 _ rfl
      have q_bS_2 := bS.now.cell 2 _ rfl
      have q_bS_3 := bS.now.cell 3 _ rfl
      have q_bS_4 := bS.now.cell 4 _ rfl
      have q_bS_5 := bS.now.cell 5 _ rfl
      have q_bS_6 := bS.now.cell 6 _ rfl
      have q_bS_7 := bS.now.cell 7 _ rfl
      have q_bS_8 := bS.now.cell 8 _ rfl
      have q_bS_9 := bS.now.cell 9 _ rfl
      have q_bS_l := bS.now.lt
      go_wp2_with fail
      clear q_bS_0 q_bS_1 q_bS_2 q_bS_3 q_bS_4 q_bS_5 q_bS_6 q_bS_7 q_bS_8 q_bS_9 q_bS_l
      refine (HRM.out _ _ _ dA.now.prsA hc5).mono ?_
      rintro e v7 ⟨rfl, hb⟩
      have s_v7 : v6.heap.size ≤ v7.heap.size := hb.size
      have n_bS := bS.below hb
      clear bS
      have bS := n_bS
      clear n_bS
      have n_bD := bD.below hb
      clear bD
      have bD := n_bD
      clear n_bD
      have n_dA := dA.below hb
      clear dA
      have dA := n_dA
      clear n_dA
      have n_hE := hE.trans (hb.mono hE.size)
      clear hE
      have hE := n_hE
      clear n_hE
      clear hb
      by_cases hr : r ≤ Q - 1
      case neg =>
        rw [decide_eq_false hr]
        have q_bD_0 := bD.now.cell 0 _ rfl
        have f_bD_0 := bD.now.froz 0 (by simp)
        have q_bD_1 := bD.now.cell 1 _ rfl
        have f_bD_1 := bD.now.froz 1 (by simp)
        have q_bD_2 := bD.now.cell 2 _ rfl
        have f_bD_2 := bD.now.froz 2 (by simp)
        have q_bD_3 := bD.now.cell 3 _ rfl
        have f_bD_3 := bD.now.froz 3 (by simp)
        have q_bD_4 := bD.now.cell 4 _ rfl
        have f_bD_4 := bD.now.froz 4 (by simp)
        have q_bD_5 := bD.now.cell 5 _ rfl
        have f_bD_5 := bD.now.froz 5 (by simp)
        have q_bD_6 := bD.now.cell 6 _ rfl
        have f_bD_6 := bD.now.froz 6 (by simp)
        have q_bD_7 := bD.now.cell 7 _ rfl
        have f_bD_7 := bD.now.froz 7 (by simp)
        have q_bD_8 := bD.now.cell 8 _ rfl
        have f_bD_8 := bD.now.froz 8 (by simp)
        have q_bD_9 := bD.now.cell 9 _ rfl
        have f_bD_9 := bD.now.froz 9 (by simp)
        have q_bD_10 := bD.now.cell 10 _ rfl
        have f_bD_10 := bD.now.froz 10 (by simp)
        have q_bD_11 := bD.now.cell 11 _ rfl
        have f_bD_11 := bD.now.froz 11 (by simp)
        have q_bD_l := bD.now.lt
        go_wp2_with fail
        rw [show D = noD 3 by rw [HD.out, if_pos trivial, if_neg (by omega)]]
        refine bodyPost_ret (v := dnV (noD 3) none 0 none 0) (by simp [results, Tryz.results17, go_sem, dnV, noD, q_bD_l, q_bD_0, q_bD_1, q_bD_2, q_bD_3, q_bD_4, q_bD_5, q_bD_6, q_bD_7, q_bD_8, q_bD_9, q_bD_10, q_bD_11]) rfl (dn_no rfl ?_)
        iterate 12 (refine Below.setCell ?_ (by show w.heap.size ≤ w.heap.size + 1; omega) _)
        exact hE
      rw [decide_eq_true hr]
      have q_bS_0 := bS.now.cell 0 _ rfl
      have q_bS_1 := bS.now.cell 1 _ rfl
      have q_bS_2 := bS.now.cell 2 _ rfl
      have q_bS_3 := bS.now.cell 3 _ rfl
      have q_bS_4 := bS.now.cell 4 _ rfl
      have q_bS_5 := bS.now.cell 5 _ rfl
      have q_bS_6 := bS.now.cell 6 _ rfl
      have q_bS_7 := bS.now.cell 7 _ rfl
      have q_bS_8 := bS.now.cell 8 _ rfl
      have q_bS_9 := bS.now.cell 9 _ rfl
      have q_bS_l := bS.now.lt
      go_wp2_with fail
      clear q_bS_0 q_bS_1 q_bS_2 q_bS_3 q_bS_4 q_bS_5 q_bS_6 q_bS_7 q_bS_8 q_bS_9 q_bS_l
      refine (HLF.out _ _ _).mono ?_
      rintro e v8 ⟨rfl, hb⟩
      have s_v8 : v7.heap.size ≤ v8.heap.size := hb.size
      have n_bS := bS.below hb
      clear bS
      have bS := n_bS
      clear n_bS
      have n_bD := bD.below hb
      clear bD
      have bD := n_bD
      clear n_bD
      have n_dA := dA.below hb
      clear dA
      have dA := n_dA
      clear n_dA
      have n_hE := hE.trans (hb.mono hE.size)
      clear hE
      have hE := n_hE
      clear n_hE
      clear hb
      by_cases hp : N ≤ Q - U
      case neg =>
        have hp' : Q - U < N := by omega
        have q_bD_0 := bD.now.cell 0 _ rfl
        have f_bD_0 := bD.now.froz 0 (by simp)
        have q_bD_1 := bD.now.cell 1 _ rfl
        have f_bD_1 := bD.now.froz 1 (by simp)
        have q_bD_2 := bD.now.cell 2 _ rfl
        have f_bD_2 := bD.now.froz 2 (by simp)
        have q_bD_3 := bD.now.cell 3 _ rfl
        have f_bD_3 := bD.now.froz 3 (by simp)
        have q_bD_4 := bD.now.cell 4 _ rfl
        have f_bD_4 := bD.now.froz 4 (by simp)
        have q_bD_5 := bD.now.cell 5 _ rfl
        have f_bD_5 := bD.now.froz 5 (by simp)
        have q_bD_6 := bD.now.cell 6 _ rfl
        have f_bD_6 := bD.now.froz 6 (by simp)
        have q_bD_7 := bD.now.cell 7 _ rfl
        have f_bD_7 := bD.now.froz 7 (by simp)
        have q_bD_8 := bD.now.cell 8 _ rfl
        have f_bD_8 := bD.now.froz 8 (by simp)
        have q_bD_9 := bD.now.cell 9 _ rfl
        have f_bD_9 := bD.now.froz 9 (by simp)
        have q_bD_10 := bD.now.cell 10 _ rfl
        have f_bD_10 := bD.now.froz 10 (by simp)
        have q_bD_11 := bD.now.cell 11 _ rfl
        have f_bD_11 := bD.now.froz 11 (by simp)
        have q_bD_l := bD.now.lt
        go_wp2_with fail
        rw [show D = noD 4 by rw [HD.out, if_pos trivial, if_pos hr, if_neg (by omega)]]
        refine bodyPost_ret (v := dnV (noD 4) none 0 none 0) (by simp [results, Tryz.results17, go_sem, dnV, noD, q_bD_l, q_bD_0, q_bD_1, q_bD_2, q_bD_3, q_bD_4, q_bD_5, q_bD_6, q_bD_7, q_bD_8, q_bD_9, q_bD_10, q_bD_11]) rfl (dn_no rfl ?_)
        iterate 12 (refine Below.setCell ?_ (by show w.heap.size ≤ w.heap.size + 1; omega) _)
        exact hE
      have q_bS_0 := bS.now.cell 0 _ rfl
      have q_bS_1 := bS.now.cell 1 _ rfl
      have q_bS_2 := bS.now.cell 2 _ rfl
      have q_bS_3 := bS.now.cell 3 _ rfl
      have q_bS_4 := bS.now.cell 4 _ rfl
      have q_bS_5 := bS.now.cell 5 _ rfl
      have q_bS_6 := bS.now.cell 6 _ rfl
      have q_bS_7 := bS.now.cell 7 _ rfl
      have q_bS_8 := bS.now.cell 8 _ rfl
      have q_bS_9 := bS.now.cell 9 _ rfl
      have q_bS_l := bS.now.lt
      go_wp2_with fail
      clear q_bS_0 q_bS_1 q_bS_2 q_bS_3 q_bS_4 q_bS_5 q_bS_6 q_bS_7 q_bS_8 q_bS_9 q_bS_l
      refine (HWO.out _ _ _).mono ?_
      rintro e v9 ⟨g, rfl, hWr, hb⟩
      have s_v9 : v8.heap.size ≤ v9.heap.size := hb.size
      have n_bS := bS.below hb
      clear bS
      have bS := n_bS
      clear n_bS
      have n_bD := bD.below hb
      clear bD
      have bD := n_bD
      clear n_bD
      have n_dA := dA.below hb
      clear dA
      have dA := n_dA
      clear n_dA
      have n_hE := hE.trans (hb.mono hE.size)
      clear hE
      have hE := n_hE
      clear n_hE
      clear hb
      have hgg := hWr.ge
      have HWR := hid hWr
      clear hWr
      go_wp2_with fail
      refine (HEN.out _ _ _ _ _ HWR.out (by omega) (by simp; omega)).mono ?_
      rintro e x1 ⟨⟨x, rfl⟩, v9, hW9, hb9, _⟩
      have s_x1 := hb9.size
      have n_bS := bS.low hb9 (by omega)
      clear bS
      have bS := n_bS
      clear n_bS
      have n_bD := bD.low hb9 (by omega)
      clear bD
      have bD := n_bD
      clear n_bD
      have n_dA := dA.low hb9 (by omega)
      clear dA
      have dA := n_dA
      clear n_dA
      have n_hE := hE.trans (hb9.mono (by omega))
      clear hE
      have hE := n_hE
      clear n_hE
      simp only [List.nil_append] at hW9
      obtain ⟨ya, yc, rfl⟩ := hW9.sl
      have hpl : (putOps (q + U) cut).length = cut.length := putOps_length _ _
      rw [hpl] at hW9
      have y0 := hW9.row.cell 0 _ rfl
      have yl := hW9.row.lt
      have hgn : w.heap.size ≠ g := by omega
      have hgn1 : w.heap.size + 1 ≠ g := by omega
      have hgn2 : ¬ g = w.heap.size + 1 := by omega
      have hgn3 : ¬ g = w.heap.size := by omega
      have HW9 := hid hW9
      clear hW9
      have q_bS_0 := bS.now.cell 0 _ rfl
      have f_bS_0 := bS.now.froz 0 (by simp)
      have q_bS_1 := bS.now.cell 1 _ rfl
      have f_bS_1 := bS.now.froz 1 (by simp)
      have q_bS_2 := bS.now.cell 2 _ rfl
      have f_bS_2 := bS.now.froz 2 (by simp)
      have q_bS_3 := bS.now.cell 3 _ rfl
      have f_bS_3 := bS.now.froz 3 (by simp)
      have q_bS_4 := bS.now.cell 4 _ rfl
      have f_bS_4 := bS.now.froz 4 (by simp)
      have q_bS_5 := bS.now.cell 5 _ rfl
      have f_bS_5 := bS.now.froz 5 (by simp)
      have q_bS_6 := bS.now.cell 6 _ rfl
      have f_bS_6 := bS.now.froz 6 (by simp)
      have q_bS_7 := bS.now.cell 7 _ rfl
      have f_bS_7 := bS.now.froz 7 (by simp)
      have q_bS_8 := bS.now.cell 8 _ rfl
      have f_bS_8 := bS.now.froz 8 (by simp)
      have q_bS_9 := bS.now.cell 9 _ rfl
      have f_bS_9 := bS.now.froz 9 (by simp)
      have q_bS_l := bS.now.lt
      have q_bD_0 := bD.now.cell 0 _ rfl
      have f_bD_0 := bD.now.froz 0 (by simp)
      have q_bD_1 := bD.now.cell 1 _ rfl
      have f_bD_1 := bD.now.froz 1 (by simp)
      have q_bD_2 := bD.now.cell 2 _ rfl
      have f_bD_2 := bD.now.froz 2 (by simp)
      have q_bD_3 := bD.now.cell 3 _ rfl
      have f_bD_3 := bD.now.froz 3 (by simp)
      have q_bD_4 := bD.now.cell 4 _ rfl
      have f_bD_4 := bD.now.froz 4 (by simp)
      have q_bD_5 := bD.now.cell 5 _ rfl
      have f_bD_5 := bD.now.froz 5 (by simp)
      have q_bD_6 := bD.now.cell 6 _ rfl
      have f_bD_6 := bD.now.froz 6 (by simp)
      have q_bD_7 := bD.now.cell 7 _ rfl
      have f_bD_7 := bD.now.froz 7 (by simp)
      have q_bD_8 := bD.now.cell 8 _ rfl
      have f_bD_8 := bD.now.froz 8 (by simp)
      have q_bD_9 := bD.now.cell 9 _ rfl
      have f_bD_9 := bD.now.froz 9 (by simp)
      have q_bD_10 := bD.now.cell 10 _ rfl
      have f_bD_10 := bD.now.froz 10 (by simp)
      have q_bD_11 := bD.now.cell 11 _ rfl
      have f_bD_11 := bD.now.froz 11 (by simp)
      have q_bD_l := bD.now.lt
      go_wp2_with fail
      refine wp_region_held_drew (S := fun w' => w'.cell? ⟨w.heap.size, 0, none⟩ = some (.int .i64 (n : Int)) ∧ w'.cell? ⟨w.heap.size, 1, none⟩ = some (.int .i64 S) ∧ w'.cell? ⟨w.heap.size, 2, none⟩ = some (.int .i64 L) ∧ w'.cell? ⟨w.heap.size, 3, none⟩ = some (.int .i64 T) ∧ w'.cell? ⟨w.heap.size, 4, none⟩ = some (.int .i64 H) ∧ w'.cell? ⟨w.heap.size, 5, none⟩ = some (.int .i64 F) ∧ w'.cell? ⟨w.heap.size, 6, none⟩ = some (.int .i64 R) ∧ w'.cell? ⟨w.heap.size, 7, none⟩ = some (.int .i64 (U + N)) ∧ w'.cell? ⟨w.heap.size, 8, none⟩ = some (.int .i64 (O + N)) ∧ w'.cell? ⟨w.heap.size, 9, none⟩ = some (.slice a5 A1.length c5) ∧ w'.cell? ⟨g, 0, none⟩ = some (.slice ya cut.length yc)) (by kernel_rfl) (⟨by go_simp, by go_simp, by go_simp, by go_simp, by go_simp, by go_simp, by go_simp, by go_simp, by go_simp, by go_simp, by go_simp⟩) (fun hHeld => ?_)
      refine wpAnyH_take (i := 0) (v := .agg #[.int .i64 (n : Int), .int .i64 S, .int .i64 L, .int .i64 T, .int .i64 H, .int .i64 F, .int .i64 R, .int .i64 (U + N), .int .i64 (O + N), .slice a5 A1.length c5]) rfl (by kernel_rfl) (by kernel_rfl) (by kernel_rfl) (fun _ _ _ h => h) (Or.inl ⟨by rfl, fun w hw => by obtain ⟨z0, z1, z2, z3, z4, z5, z6, z7, z8, z9, z10⟩ := hw; go_simp⟩) hHeld ?_
      simp only [Act.put, List.getElem_toArray, List.getElem_cons_zero, List.getElem_cons_succ, List.setIfInBounds_toArray, List.set_cons_zero, List.set_cons_succ]
      refine wpAnyH_take (i := 1) (v := .pointer (some ⟨g, 0, none⟩)) rfl (by kernel_rfl) (by kernel_rfl) (by kernel_rfl) (fun _ _ _ h => h) (Or.inl ⟨by rfl, fun w hw => by obtain ⟨z0, z1, z2, z3, z4, z5, z6, z7, z8, z9, z10⟩ := hw; go_simp⟩) hHeld ?_
      simp only [Act.put, List.getElem_toArray, List.getElem_cons_zero, List.getElem_cons_succ, List.setIfInBounds_toArray, List.set_cons_zero, List.set_cons_succ]
      refine wpAnyH_take (i := 2) (v := .pointer (some ⟨g, 0, none⟩)) rfl (by kernel_rfl) (by kernel_rfl) (by kernel_rfl) (fun _ _ _ h => h) (Or.inl ⟨by rfl, fun w hw => by obtain ⟨z0, z1, z2, z3, z4, z5, z6, z7, z8, z9, z10⟩ := hw; go_simp⟩) hHeld ?_
      simp only [Act.put, List.getElem_toArray, List.getElem_cons_zero, List.getElem_cons_succ, List.setIfInBounds_toArray, List.set_cons_zero, List.set_cons_succ]
      refine wpAnyH_take (i := 3) (v := .pointer (some ⟨g, 0, none⟩)) rfl (by kernel_rfl) (by kernel_rfl) (by kernel_rfl) (fun _ _ _ h => h) (Or.inl ⟨by rfl, fun w hw => by obtain ⟨z0, z1, z2, z3, z4, z5, z6, z7, z8, z9, z10⟩ := hw; go_simp⟩) hHeld ?_
      simp only [Act.put, List.getElem_toArray, List.getElem_cons_zero, List.getElem_cons_succ, List.setIfInBounds_toArray, List.set_cons_zero, List.set_cons_succ]
      refine wpAnyH_take (i := 4) (v := .slice ya cut.length yc) rfl (by kernel_rfl) (by kernel_rfl) (by kernel_rfl) (fun _ _ _ h => h) (Or.inl ⟨by rfl, fun w hw => by obtain ⟨z0, z1, z2, z3, z4, z5, z6, z7, z8, z9, z10⟩ := hw; go_simp⟩) hHeld ?_
      simp only [Act.put, List.getElem_toArray, List.getElem_cons_zero, List.getElem_cons_succ, List.setIfInBounds_toArray, List.set_cons_zero, List.set_cons_succ]
      refine wpAnyH_take (i := 5) (v := .agg #[.int .i64 0, .int .i64 (n : Int), .int .i64 S, .int .i64 L, .int .i64 T, .int .i64 H, .int .i64 F, .int .i64 R, .int .i64 (U + N), .int .i64 (O + N), .slice a5 A1.length c5, .slice ya cut.length yc]) rfl (by kernel_rfl) (by kernel_rfl) (by kernel_rfl) (fun _ _ _ h => h) (Or.inl ⟨by rfl, fun w hw => by obtain ⟨z0, z1, z2, z3, z4, z5, z6, z7, z8, z9, z10⟩ := hw; go_simp⟩) hHeld ?_
      simp only [Act.put, List.getElem_toArray, List.getElem_cons_zero, List.getElem_cons_succ, List.setIfInBounds_toArray, List.set_cons_zero, List.set_cons_succ]
      refine wpAnyH_ready (rs := [6]) (by kernel_rfl) (by simp) ?_
      refine AllReadyH.cons rfl (fun K hK => ?_) AllReadyH.nil
      go_simp
      refine hK.out _ _ (⟨by go_simp, by go_simp, by go_simp, by go_simp, by go_simp, by go_simp, by go_simp, by go_simp, by go_simp, by go_simp, by go_simp⟩) (fun hHd1 => ?_)
      clear hK K
      try simp only [Act.put, List.getElem_toArray, List.getElem_cons_zero, List.getElem_cons_succ, List.setIfInBounds_toArray, List.set_cons_zero, List.set_cons_succ]
      refine wpAnyH_done (by kernel_rfl) ?_ _
      go_wp2
      rw [show D = (⟨0, (n : Int), S, L, T, H, F, R, U + N, O + N, A1, putOps (q + U) cut⟩ : Dd) by rw [HD.out, if_pos trivial, if_pos hr, if_pos hp]]
      have hyc : ∀ g, blk ya cut.length = some g → v8.heap.size ≤ g := fun g hg => by
        unfold blk at hg
        split at hg
        · cases hg
        · cases ya with
          | none => cases hg
          | some ad => simp at hg; subst hg; exact (HW9.out.own.lt ad.block rfl).1
      have hof : OwnS x1 ya (opcells (putOps (q + U) cut)) := by
        rcases owns_forms HW9.out.own with ⟨_, e2⟩ | ⟨g, cap, e1, _, _, e4⟩
        · exact .inl (by rw [List.eq_nil_of_length_eq_zero e2]; rfl)
        · have e5 : ya = some ⟨g, 0, none⟩ := by injection e1
          subst e5; exact .inr ⟨g, rfl, e4⟩
      refine bodyPost_ret (v := dnV ⟨0, (n : Int), S, L, T, H, F, R, U + N, O + N, A1, putOps (q + U) cut⟩ a5 c5 ya yc) (by simp [results, Tryz.results17, go_sem, dnV, putOps_length, q_bD_0, q_bD_1, q_bD_2, q_bD_3, q_bD_4, q_bD_5, q_bD_6, q_bD_7, q_bD_8, q_bD_9, q_bD_10, q_bD_11]) rfl ⟨a5, c5, ya, yc, rfl, hc5, ⟨?_, ?_, ?_⟩, ?_, ?_, ?_⟩
      · refine OwnS.drew' ?_
        iterate 12 (refine OwnS.set' ?_ _ (fun g hg hne => by have := lo5 g (by subst hg; exact blk_pos _ _ _ (ne_of_prcells hne)); show w.heap.size + 1 ≠ g; omega) _)
        iterate 2 (refine OwnS.set' ?_ _ (fun g hg hne => by have := lo5 g (by subst hg; exact blk_pos _ _ _ (ne_of_prcells hne)); show w.heap.size ≠ g; omega) _)
        exact dA.now
      · refine OwnS.drew' ?_
        iterate 12 (refine OwnS.set' ?_ _ (fun g hg hne => by have := hyc g (by subst hg; exact blk_pos _ _ _ (by have := ne_of_opcells hne; rwa [hpl] at this)); show w.heap.size + 1 ≠ g; omega) _)
        iterate 2 (refine OwnS.set' ?_ _ (fun g hg hne => by have := hyc g (by subst hg; exact blk_pos _ _ _ (by have := ne_of_opcells hne; rwa [hpl] at this)); show w.heap.size ≠ g; omega) _)
        exact hof
      · show Apart _ _ _ (putOps (q + U) cut).length
        rw [hpl]
        cases hb1 : blk a5 A1.length with
        | none => exact .inl hb1
        | some g =>
          cases hb2 : blk ya cut.length with
          | none => exact .inr (.inl hb2)
          | some g' =>
            have h1 := lo5 g hb1
            have h2 := hyc g' hb2
            refine .inr (.inr fun e => ?_)
            rw [hb1, hb2] at e
            cases e
            omega
      · exact fun g hg => by have := lo5 g hg; omega
      · exact fun g hg => by change blk _ (putOps (q + U) cut).length = _ at hg; rw [hpl] at hg; have := hyc g hg; omega
      · refine Below.drew ?_
        iterate 12 (refine Below.setCell ?_ (by show w.heap.size ≤ w.heap.size + 1; omega) _)
        iterate 2 (refine Below.setCell ?_ (by show w.heap.size ≤ w.heap.size; omega) _)
        exact hE
end Go.Proofs.YtnmaknnnmjfhkafGreat

namespace Go.Proofs.YtnmaknnnmjfhkafGreat
open Go.RowKit
set_option linter.unusedVariables false
set_option linter.unusedSimpArgs false
set_option maxRecDepth 8000

theorem eqroot' (t h f l : Int) (w : World) : Calls Tryz.prog 29 #[.agg #[.int .i64 t, .int .i64 h, .int .i64 f, .int .i64 l], .agg #[.int .i64 t, .int .i64 h, .int .i64 f, .int .i64 l]] w fun e w' => e = .returned (.bool true) ∧ Below w.heap.size w w' := by
  go_enter Tryz.func29, Tryz.ntmps29
  go_wp2
  all_goals go_ret
  all_goals exact ⟨rfl, ((Below.refl _ _).alloc (Nat.le_refl _) _).alloc (by simp) _⟩

set_option maxHeartbeats 8000000 in
theorem eq_store (W S L T H F R U O : Int) (a b : Option Addr) (rs : List (ByteArray × ByteArray)) (c d : Nat) (w : World) (h1 : Prs w a rs) (h2 : Prs w b rs) (hl : rs.length ≤ 1048576) :
    Calls Tryz.prog 10 #[storeV W S L T H F R U O a rs.length c, storeV W S L T H F R U O b rs.length d] w fun e w' => e = .returned (.bool true) ∧ Below w.heap.size w w' := by
  unfold storeV
  have hb0 : ∀ o1 o2, Below w.heap.size w ((w.alloc o1).alloc o2) := fun o1 o2 => ((Below.refl _ _).alloc (Nat.le_refl _) _).alloc (by simp) _
  go_enter Tryz.func10, Tryz.ntmps10
  go_wp2_with (first | (go_at_call 29; refine (eqroot' T H F R _).mono ?_; rintro e w1 ⟨rfl, hb1⟩; have HB1 := hid ((hb0 _ _).trans (hb1.mono (by simp <;> omega))); have w1p7 : w1.cell? ⟨w.heap.size, 7, none⟩ = some (.int .i64 U) := (hb1.cell (p := ⟨w.heap.size, 7, none⟩) (by simp <;> omega)).trans (by go_simp); have w1p8 : w1.cell? ⟨w.heap.size, 8, none⟩ = some (.int .i64 O) := (hb1.cell (p := ⟨w.heap.size, 8, none⟩) (by simp <;> omega)).trans (by go_simp); have w1p9 : w1.cell? ⟨w.heap.size, 9, none⟩ = some (.slice a rs.length c) := (hb1.cell (p := ⟨w.heap.size, 9, none⟩) (by simp <;> omega)).trans (by go_simp); have w1q7 : w1.cell? ⟨w.heap.size + 1, 7, none⟩ = some (.int .i64 U) := (hb1.cell (p := ⟨w.heap.size + 1, 7, none⟩) (by simp <;> omega)).trans (by go_simp); have w1q8 : w1.cell? ⟨w.heap.size + 1, 8, none⟩ = some (.int .i64 O) := (hb1.cell (p := ⟨w.heap.size + 1, 8, none⟩) (by simp <;> omega)).trans (by go_simp); have w1q9 : w1.cell? ⟨w.heap.size + 1, 9, none⟩ = some (.slice b rs.length d) := (hb1.cell (p := ⟨w.heap.size + 1, 9, none⟩) (by simp <;> omega)).trans (by go_simp); clear hb1) | (go_at_call 30; refine (eq_state a b rs c d _ (h1.below HB1.out) (h2.below HB1.out) hl).mono ?_; rintro e w2 ⟨rfl, hb2⟩))
  go_ret
  exact ⟨rfl, HB1.out.trans (hb2.mono HB1.out.size)⟩
end Go.Proofs.YtnmaknnnmjfhkafGreat

namespace Go.Proofs.YtnmaknnnmjfhkafGreat
open Go.RowKit
set_option linter.unusedVariables false
set_option linter.unusedSimpArgs false
set_option maxRecDepth 8000

set_option maxHeartbeats 400000 in
theorem toroot' (t h f l : Int) (w : World) :
    Calls Tryz.prog 23 #[.agg #[.int .i64 t, .int .i64 h, .int .i64 f, .int .i64 l]] w fun e w' => e = .returned (.agg #[.int .i64 t, .int .i64 h, .int .i64 f, .int .i64 l]) ∧ Below w.heap.size w w' := by
  go_enter Tryz.func23, Tryz.ntmps23
  go_wp2
  exact bodyPost_ret (v := .agg #[.int .i64 t, .int .i64 h, .int .i64 f, .int .i64 l]) (by simp [results, Tryz.results23, go_sem]) rfl ⟨rfl, (((Below.refl _ _).alloc (Nat.le_refl _) _).alloc (by simp) _).alloc (by simp; omega) _⟩
set_option maxHeartbeats 400000 in
theorem sz_store (W S L T H F R U O : Int) (a : Option Addr) (rs : List Pr) (c : Nat) (w : World) (h : Prs w a rs) (left : Int) (h0 : 0 ≤ left) (h1 : left ≤ 1048576) (hl : rs.length ≤ maxLen) (hs : ∀ s ∈ rs, s.1.size ≤ maxLen ∧ s.2.size ≤ maxLen) :
    Calls Tryz.prog 5 #[storeV W S L T H F R U O a rs.length c, .int .i64 left] w fun e w' => e = .returned (.int .i64 (szL (rs.length :: rs.flatMap prsz) left)) ∧ Below w.heap.size w w' := by
  unfold storeV
  have hb0 : ∀ o, Below w.heap.size w (w.alloc o) := fun o => (Below.refl _ _).alloc (Nat.le_refl _) _
  have hbd := szL_bd (rs.length :: rs.flatMap prsz) left (by omega)
  obtain ⟨x, HX⟩ : ∃ x, Hid (x = szL (rs.length :: rs.flatMap prsz) left) := ⟨_, hid rfl⟩
  rw [← HX.out] at hbd ⊢
  by_cases hx : x < 0
  · have hx1 : x = -1 := by omega
    have HX1 := hid hx1
    clear hbd hx1
    go_enter Tryz.func5, Tryz.ntmps5
    go_wp2_with fail
    refine (sz_state a rs c _ (h.below (hb0 _)) left (by omega) (by omega) hl hs).mono ?_
    rw [← HX.out]
    rintro e w1 ⟨rfl, hb1⟩
    go_wp2
    go_ret
    exact ⟨ret_int HX1.out.symm, (hb0 _).trans (hb1.mono (by simp))⟩
  · clear hbd
    go_enter Tryz.func5, Tryz.ntmps5
    go_wp2_with fail
    refine (sz_state a rs c _ (h.below (hb0 _)) left (by omega) (by omega) hl hs).mono ?_
    rw [← HX.out]
    rintro e w1 ⟨rfl, hb1⟩
    go_wp2
    go_ret
    exact ⟨rfl, (hb0 _).trans (hb1.mono (by simp))⟩

set_option maxHeartbeats 8000000 in
theorem to_store (W S L T H F R U O : Int) (a : Option Addr) (rs : List Pr) (c : Nat) (w : World) (h : Prs w a rs) (hl : rs.length ≤ 1048576) :
    Calls Tryz.prog 7 #[storeV W S L T H F R U O a rs.length c] w fun e w' => ∃ g, e = .returned (storeV W S L T H F R U O (some ⟨g, 0, none⟩) rs.length rs.length) ∧ w.heap.size ≤ g ∧ Row w' g (prcells rs) ∧ Below w.heap.size w w' := by
  unfold storeV
  have hb0 : ∀ o1 o2 o3, Below w.heap.size w (((w.alloc o1).alloc o2).alloc o3) := fun o1 o2 o3 => (((Below.refl _ _).alloc (Nat.le_refl _) _).alloc (by simp) _).alloc (by simp; omega) _
  go_enter Tryz.func7, Tryz.ntmps7
  go_wp2_with (first | (go_at_call 23; refine (toroot' T H F R _).mono ?_; rintro e w1 ⟨rfl, hb1⟩; have HB1 := hid ((hb0 _ _ _).trans (hb1.mono (by simp <;> omega))); have hl1 : w.heap.size + 1 + 1 < w1.heap.size := Nat.lt_of_lt_of_le (by simp) hb1.size; have w1p7 : w1.cell? ⟨w.heap.size, 7, none⟩ = some (.int .i64 U) := (hb1.cell (p := ⟨w.heap.size, 7, none⟩) (by simp <;> omega)).trans (by go_simp); have w1p8 : w1.cell? ⟨w.heap.size, 8, none⟩ = some (.int .i64 O) := (hb1.cell (p := ⟨w.heap.size, 8, none⟩) (by simp <;> omega)).trans (by go_simp); have w1p9 : w1.cell? ⟨w.heap.size, 9, none⟩ = some (.slice a rs.length c) := (hb1.cell (p := ⟨w.heap.size, 9, none⟩) (by simp <;> omega)).trans (by go_simp); have w1o0 : w1.cell? ⟨w.heap.size + 1 + 1, 0, none⟩ = some (.int .i64 W) := (hb1.cell (p := ⟨w.heap.size + 1 + 1, 0, none⟩) (by simp <;> omega)).trans (by go_simp); have w1of0 : w1.frozen? ⟨w.heap.size + 1 + 1, 0, none⟩ = false := (hb1.frozen (p := ⟨w.heap.size + 1 + 1, 0, none⟩) (by simp <;> omega)).trans (by go_simp); have w1o1 : w1.cell? ⟨w.heap.size + 1 + 1, 1, none⟩ = some (.int .i64 S) := (hb1.cell (p := ⟨w.heap.size + 1 + 1, 1, none⟩) (by simp <;> omega)).trans (by go_simp); have w1of1 : w1.frozen? ⟨w.heap.size + 1 + 1, 1, none⟩ = false := (hb1.frozen (p := ⟨w.heap.size + 1 + 1, 1, none⟩) (by simp <;> omega)).trans (by go_simp); have w1o2 : w1.cell? ⟨w.heap.size + 1 + 1, 2, none⟩ = some (.int .i64 L) := (hb1.cell (p := ⟨w.heap.size + 1 + 1, 2, none⟩) (by simp <;> omega)).trans (by go_simp); have w1of2 : w1.frozen? ⟨w.heap.size + 1 + 1, 2, none⟩ = false := (hb1.frozen (p := ⟨w.heap.size + 1 + 1, 2, none⟩) (by simp <;> omega)).trans (by go_simp); have w1o3 : w1.cell? ⟨w.heap.size + 1 + 1, 3, none⟩ = some (.int .i64 0) := (hb1.cell (p := ⟨w.heap.size + 1 + 1, 3, none⟩) (by simp <;> omega)).trans (by go_simp); have w1of3 : w1.frozen? ⟨w.heap.size + 1 + 1, 3, none⟩ = false := (hb1.frozen (p := ⟨w.heap.size + 1 + 1, 3, none⟩) (by simp <;> omega)).trans (by go_simp); have w1o4 : w1.cell? ⟨w.heap.size + 1 + 1, 4, none⟩ = some (.int .i64 0) := (hb1.cell (p := ⟨w.heap.size + 1 + 1, 4, none⟩) (by simp <;> omega)).trans (by go_simp); have w1of4 : w1.frozen? ⟨w.heap.size + 1 + 1, 4, none⟩ = false := (hb1.frozen (p := ⟨w.heap.size + 1 + 1, 4, none⟩) (by simp <;> omega)).trans (by go_simp); have w1o5 : w1.cell? ⟨w.heap.size + 1 + 1, 5, none⟩ = some (.int .i64 0) := (hb1.cell (p := ⟨w.heap.size + 1 + 1, 5, none⟩) (by simp <;> omega)).trans (by go_simp); have w1of5 : w1.frozen? ⟨w.heap.size + 1 + 1, 5, none⟩ = false := (hb1.frozen (p := ⟨w.heap.size + 1 + 1, 5, none⟩) (by simp <;> omega)).trans (by go_simp); have w1o6 : w1.cell? ⟨w.heap.size + 1 + 1, 6, none⟩ = some (.int .i64 0) := (hb1.cell (p := ⟨w.heap.size + 1 + 1, 6, none⟩) (by simp <;> omega)).trans (by go_simp); have w1of6 : w1.frozen? ⟨w.heap.size + 1 + 1, 6, none⟩ = false := (hb1.frozen (p := ⟨w.heap.size + 1 + 1, 6, none⟩) (by simp <;> omega)).trans (by go_simp); have w1o7 : w1.cell? ⟨w.heap.size + 1 + 1, 7, none⟩ = some (.int .i64 0) := (hb1.cell (p := ⟨w.heap.size + 1 + 1, 7, none⟩) (by simp <;> omega)).trans (by go_simp); have w1of7 : w1.frozen? ⟨w.heap.size + 1 + 1, 7, none⟩ = false := (hb1.frozen (p := ⟨w.heap.size + 1 + 1, 7, none⟩) (by simp <;> omega)).trans (by go_simp); have w1o8 : w1.cell? ⟨w.heap.size + 1 + 1, 8, none⟩ = some (.int .i64 0) := (hb1.cell (p := ⟨w.heap.size + 1 + 1, 8, none⟩) (by simp <;> omega)).trans (by go_simp); have w1of8 : w1.frozen? ⟨w.heap.size + 1 + 1, 8, none⟩ = false := (hb1.frozen (p := ⟨w.heap.size + 1 + 1, 8, none⟩) (by simp <;> omega)).trans (by go_simp); have w1o9 : w1.cell? ⟨w.heap.size + 1 + 1, 9, none⟩ = some (.slice none 0 0) := (hb1.cell (p := ⟨w.heap.size + 1 + 1, 9, none⟩) (by simp <;> omega)).trans (by go_simp); have w1of9 : w1.frozen? ⟨w.heap.size + 1 + 1, 9, none⟩ = false := (hb1.frozen (p := ⟨w.heap.size + 1 + 1, 9, none⟩) (by simp <;> omega)).trans (by go_simp); have w1r0 : w1.cell? ⟨w.heap.size + 1, 0, none⟩ = some (.int .i64 0) := (hb1.cell (p := ⟨w.heap.size + 1, 0, none⟩) (by simp <;> omega)).trans (by go_simp); have w1rf0 : w1.frozen? ⟨w.heap.size + 1, 0, none⟩ = false := (hb1.frozen (p := ⟨w.heap.size + 1, 0, none⟩) (by simp <;> omega)).trans (by go_simp); have w1r1 : w1.cell? ⟨w.heap.size + 1, 1, none⟩ = some (.int .i64 0) := (hb1.cell (p := ⟨w.heap.size + 1, 1, none⟩) (by simp <;> omega)).trans (by go_simp); have w1rf1 : w1.frozen? ⟨w.heap.size + 1, 1, none⟩ = false := (hb1.frozen (p := ⟨w.heap.size + 1, 1, none⟩) (by simp <;> omega)).trans (by go_simp); have w1r2 : w1.cell? ⟨w.heap.size + 1, 2, none⟩ = some (.int .i64 0) := (hb1.cell (p := ⟨w.heap.size + 1, 2, none⟩) (by simp <;> omega)).trans (by go_simp); have w1rf2 : w1.frozen? ⟨w.heap.size + 1, 2, none⟩ = false := (hb1.frozen (p := ⟨w.heap.size + 1, 2, none⟩) (by simp <;> omega)).trans (by go_simp); have w1r3 : w1.cell? ⟨w.heap.size + 1, 3, none⟩ = some (.int .i64 0) := (hb1.cell (p := ⟨w.heap.size + 1, 3, none⟩) (by simp <;> omega)).trans (by go_simp); have w1rf3 : w1.frozen? ⟨w.heap.size + 1, 3, none⟩ = false := (hb1.frozen (p := ⟨w.heap.size + 1, 3, none⟩) (by simp <;> omega)).trans (by go_simp); have w1r4 : w1.cell? ⟨w.heap.size + 1, 4, none⟩ = some (.int .i64 0) := (hb1.cell (p := ⟨w.heap.size + 1, 4, none⟩) (by simp <;> omega)).trans (by go_simp); have w1rf4 : w1.frozen? ⟨w.heap.size + 1, 4, none⟩ = false := (hb1.frozen (p := ⟨w.heap.size + 1, 4, none⟩) (by simp <;> omega)).trans (by go_simp); have w1r5 : w1.cell? ⟨w.heap.size + 1, 5, none⟩ = some (.int .i64 0) := (hb1.cell (p := ⟨w.heap.size + 1, 5, none⟩) (by simp <;> omega)).trans (by go_simp); have w1rf5 : w1.frozen? ⟨w.heap.size + 1, 5, none⟩ = false := (hb1.frozen (p := ⟨w.heap.size + 1, 5, none⟩) (by simp <;> omega)).trans (by go_simp); have w1r6 : w1.cell? ⟨w.heap.size + 1, 6, none⟩ = some (.int .i64 0) := (hb1.cell (p := ⟨w.heap.size + 1, 6, none⟩) (by simp <;> omega)).trans (by go_simp); have w1rf6 : w1.frozen? ⟨w.heap.size + 1, 6, none⟩ = false := (hb1.frozen (p := ⟨w.heap.size + 1, 6, none⟩) (by simp <;> omega)).trans (by go_simp); have w1r7 : w1.cell? ⟨w.heap.size + 1, 7, none⟩ = some (.int .i64 0) := (hb1.cell (p := ⟨w.heap.size + 1, 7, none⟩) (by simp <;> omega)).trans (by go_simp); have w1rf7 : w1.frozen? ⟨w.heap.size + 1, 7, none⟩ = false := (hb1.frozen (p := ⟨w.heap.size + 1, 7, none⟩) (by simp <;> omega)).trans (by go_simp); have w1r8 : w1.cell? ⟨w.heap.size + 1, 8, none⟩ = some (.int .i64 0) := (hb1.cell (p := ⟨w.heap.size + 1, 8, none⟩) (by simp <;> omega)).trans (by go_simp); have w1rf8 : w1.frozen? ⟨w.heap.size + 1, 8, none⟩ = false := (hb1.frozen (p := ⟨w.heap.size + 1, 8, none⟩) (by simp <;> omega)).trans (by go_simp); have w1r9 : w1.cell? ⟨w.heap.size + 1, 9, none⟩ = some (.slice none 0 0) := (hb1.cell (p := ⟨w.heap.size + 1, 9, none⟩) (by simp <;> omega)).trans (by go_simp); have w1rf9 : w1.frozen? ⟨w.heap.size + 1, 9, none⟩ = false := (hb1.frozen (p := ⟨w.heap.size + 1, 9, none⟩) (by simp <;> omega)).trans (by go_simp); clear hb1) | (go_at_call 24; have HX2 := ((((((HB1.out.setCell (p := ⟨w.heap.size + 1 + 1, 3, none⟩) (by show w.heap.size ≤ w.heap.size + 1 + 1; omega) (.int .i64 T)).setCell (p := ⟨w.heap.size + 1 + 1, 4, none⟩) (by show w.heap.size ≤ w.heap.size + 1 + 1; omega) (.int .i64 H)).setCell (p := ⟨w.heap.size + 1 + 1, 5, none⟩) (by show w.heap.size ≤ w.heap.size + 1 + 1; omega) (.int .i64 F)).setCell (p := ⟨w.heap.size + 1 + 1, 6, none⟩) (by show w.heap.size ≤ w.heap.size + 1 + 1; omega) (.int .i64 R)).setCell (p := ⟨w.heap.size + 1 + 1, 7, none⟩) (by show w.heap.size ≤ w.heap.size + 1 + 1; omega) (.int .i64 U)).setCell (p := ⟨w.heap.size + 1 + 1, 8, none⟩) (by show w.heap.size ≤ w.heap.size + 1 + 1; omega) (.int .i64 O)); refine (to_state a rs c _ (h.below HX2) hl).mono ?_; rintro e w2 ⟨g, rfl, hg, hr2, hb2⟩; have HB2 := hid (HX2.trans (hb2.mono HX2.size)); have HR2 := hid hr2; have hl2 : w.heap.size + 1 + 1 < w2.heap.size := Nat.lt_of_lt_of_le (by simpa using hl1) hb2.size; have hg2 : w.heap.size + 1 + 1 < g := Nat.lt_of_lt_of_le (by simpa using hl1) hg; have w2o0 : w2.cell? ⟨w.heap.size + 1 + 1, 0, none⟩ = some (.int .i64 W) := (hb2.cell (p := ⟨w.heap.size + 1 + 1, 0, none⟩) (by simp <;> omega)).trans (by go_simp); have w2of0 : w2.frozen? ⟨w.heap.size + 1 + 1, 0, none⟩ = false := (hb2.frozen (p := ⟨w.heap.size + 1 + 1, 0, none⟩) (by simp <;> omega)).trans (by go_simp); have w2o1 : w2.cell? ⟨w.heap.size + 1 + 1, 1, none⟩ = some (.int .i64 S) := (hb2.cell (p := ⟨w.heap.size + 1 + 1, 1, none⟩) (by simp <;> omega)).trans (by go_simp); have w2of1 : w2.frozen? ⟨w.heap.size + 1 + 1, 1, none⟩ = false := (hb2.frozen (p := ⟨w.heap.size + 1 + 1, 1, none⟩) (by simp <;> omega)).trans (by go_simp); have w2o2 : w2.cell? ⟨w.heap.size + 1 + 1, 2, none⟩ = some (.int .i64 L) := (hb2.cell (p := ⟨w.heap.size + 1 + 1, 2, none⟩) (by simp <;> omega)).trans (by go_simp); have w2of2 : w2.frozen? ⟨w.heap.size + 1 + 1, 2, none⟩ = false := (hb2.frozen (p := ⟨w.heap.size + 1 + 1, 2, none⟩) (by simp <;> omega)).trans (by go_simp); have w2o3 : w2.cell? ⟨w.heap.size + 1 + 1, 3, none⟩ = some (.int .i64 T) := (hb2.cell (p := ⟨w.heap.size + 1 + 1, 3, none⟩) (by simp <;> omega)).trans (by go_simp); have w2of3 : w2.frozen? ⟨w.heap.size + 1 + 1, 3, none⟩ = false := (hb2.frozen (p := ⟨w.heap.size + 1 + 1, 3, none⟩) (by simp <;> omega)).trans (by go_simp); have w2o4 : w2.cell? ⟨w.heap.size + 1 + 1, 4, none⟩ = some (.int .i64 H) := (hb2.cell (p := ⟨w.heap.size + 1 + 1, 4, none⟩) (by simp <;> omega)).trans (by go_simp); have w2of4 : w2.frozen? ⟨w.heap.size + 1 + 1, 4, none⟩ = false := (hb2.frozen (p := ⟨w.heap.size + 1 + 1, 4, none⟩) (by simp <;> omega)).trans (by go_simp); have w2o5 : w2.cell? ⟨w.heap.size + 1 + 1, 5, none⟩ = some (.int .i64 F) := (hb2.cell (p := ⟨w.heap.size + 1 + 1, 5, none⟩) (by simp <;> omega)).trans (by go_simp); have w2of5 : w2.frozen? ⟨w.heap.size + 1 + 1, 5, none⟩ = false := (hb2.frozen (p := ⟨w.heap.size + 1 + 1, 5, none⟩) (by simp <;> omega)).trans (by go_simp); have w2o6 : w2.cell? ⟨w.heap.size + 1 + 1, 6, none⟩ = some (.int .i64 R) := (hb2.cell (p := ⟨w.heap.size + 1 + 1, 6, none⟩) (by simp <;> omega)).trans (by go_simp); have w2of6 : w2.frozen? ⟨w.heap.size + 1 + 1, 6, none⟩ = false := (hb2.frozen (p := ⟨w.heap.size + 1 + 1, 6, none⟩) (by simp <;> omega)).trans (by go_simp); have w2o7 : w2.cell? ⟨w.heap.size + 1 + 1, 7, none⟩ = some (.int .i64 U) := (hb2.cell (p := ⟨w.heap.size + 1 + 1, 7, none⟩) (by simp <;> omega)).trans (by go_simp); have w2of7 : w2.frozen? ⟨w.heap.size + 1 + 1, 7, none⟩ = false := (hb2.frozen (p := ⟨w.heap.size + 1 + 1, 7, none⟩) (by simp <;> omega)).trans (by go_simp); have w2o8 : w2.cell? ⟨w.heap.size + 1 + 1, 8, none⟩ = some (.int .i64 O) := (hb2.cell (p := ⟨w.heap.size + 1 + 1, 8, none⟩) (by simp <;> omega)).trans (by go_simp); have w2of8 : w2.frozen? ⟨w.heap.size + 1 + 1, 8, none⟩ = false := (hb2.frozen (p := ⟨w.heap.size + 1 + 1, 8, none⟩) (by simp <;> omega)).trans (by go_simp); have w2o9 : w2.cell? ⟨w.heap.size + 1 + 1, 9, none⟩ = some (.slice none 0 0) := (hb2.cell (p := ⟨w.heap.size + 1 + 1, 9, none⟩) (by simp <;> omega)).trans (by go_simp); have w2of9 : w2.frozen? ⟨w.heap.size + 1 + 1, 9, none⟩ = false := (hb2.frozen (p := ⟨w.heap.size + 1 + 1, 9, none⟩) (by simp <;> omega)).trans (by go_simp); have w2r0 : w2.cell? ⟨w.heap.size + 1, 0, none⟩ = some (.int .i64 0) := (hb2.cell (p := ⟨w.heap.size + 1, 0, none⟩) (by simp <;> omega)).trans (by go_simp); have w2rf0 : w2.frozen? ⟨w.heap.size + 1, 0, none⟩ = false := (hb2.frozen (p := ⟨w.heap.size + 1, 0, none⟩) (by simp <;> omega)).trans (by go_simp); have w2r1 : w2.cell? ⟨w.heap.size + 1, 1, none⟩ = some (.int .i64 0) := (hb2.cell (p := ⟨w.heap.size + 1, 1, none⟩) (by simp <;> omega)).trans (by go_simp); have w2rf1 : w2.frozen? ⟨w.heap.size + 1, 1, none⟩ = false := (hb2.frozen (p := ⟨w.heap.size + 1, 1, none⟩) (by simp <;> omega)).trans (by go_simp); have w2r2 : w2.cell? ⟨w.heap.size + 1, 2, none⟩ = some (.int .i64 0) := (hb2.cell (p := ⟨w.heap.size + 1, 2, none⟩) (by simp <;> omega)).trans (by go_simp); have w2rf2 : w2.frozen? ⟨w.heap.size + 1, 2, none⟩ = false := (hb2.frozen (p := ⟨w.heap.size + 1, 2, none⟩) (by simp <;> omega)).trans (by go_simp); have w2r3 : w2.cell? ⟨w.heap.size + 1, 3, none⟩ = some (.int .i64 0) := (hb2.cell (p := ⟨w.heap.size + 1, 3, none⟩) (by simp <;> omega)).trans (by go_simp); have w2rf3 : w2.frozen? ⟨w.heap.size + 1, 3, none⟩ = false := (hb2.frozen (p := ⟨w.heap.size + 1, 3, none⟩) (by simp <;> omega)).trans (by go_simp); have w2r4 : w2.cell? ⟨w.heap.size + 1, 4, none⟩ = some (.int .i64 0) := (hb2.cell (p := ⟨w.heap.size + 1, 4, none⟩) (by simp <;> omega)).trans (by go_simp); have w2rf4 : w2.frozen? ⟨w.heap.size + 1, 4, none⟩ = false := (hb2.frozen (p := ⟨w.heap.size + 1, 4, none⟩) (by simp <;> omega)).trans (by go_simp); have w2r5 : w2.cell? ⟨w.heap.size + 1, 5, none⟩ = some (.int .i64 0) := (hb2.cell (p := ⟨w.heap.size + 1, 5, none⟩) (by simp <;> omega)).trans (by go_simp); have w2rf5 : w2.frozen? ⟨w.heap.size + 1, 5, none⟩ = false := (hb2.frozen (p := ⟨w.heap.size + 1, 5, none⟩) (by simp <;> omega)).trans (by go_simp); have w2r6 : w2.cell? ⟨w.heap.size + 1, 6, none⟩ = some (.int .i64 0) := (hb2.cell (p := ⟨w.heap.size + 1, 6, none⟩) (by simp <;> omega)).trans (by go_simp); have w2rf6 : w2.frozen? ⟨w.heap.size + 1, 6, none⟩ = false := (hb2.frozen (p := ⟨w.heap.size + 1, 6, none⟩) (by simp <;> omega)).trans (by go_simp); have w2r7 : w2.cell? ⟨w.heap.size + 1, 7, none⟩ = some (.int .i64 0) := (hb2.cell (p := ⟨w.heap.size + 1, 7, none⟩) (by simp <;> omega)).trans (by go_simp); have w2rf7 : w2.frozen? ⟨w.heap.size + 1, 7, none⟩ = false := (hb2.frozen (p := ⟨w.heap.size + 1, 7, none⟩) (by simp <;> omega)).trans (by go_simp); have w2r8 : w2.cell? ⟨w.heap.size + 1, 8, none⟩ = some (.int .i64 0) := (hb2.cell (p := ⟨w.heap.size + 1, 8, none⟩) (by simp <;> omega)).trans (by go_simp); have w2rf8 : w2.frozen? ⟨w.heap.size + 1, 8, none⟩ = false := (hb2.frozen (p := ⟨w.heap.size + 1, 8, none⟩) (by simp <;> omega)).trans (by go_simp); have w2r9 : w2.cell? ⟨w.heap.size + 1, 9, none⟩ = some (.slice none 0 0) := (hb2.cell (p := ⟨w.heap.size + 1, 9, none⟩) (by simp <;> omega)).trans (by go_simp); have w2rf9 : w2.frozen? ⟨w.heap.size + 1, 9, none⟩ = false := (hb2.frozen (p := ⟨w.heap.size + 1, 9, none⟩) (by simp <;> omega)).trans (by go_simp); clear hb2 hr2 HX2 hg))
  refine bodyPost_ret (v := .agg #[.int .i64 W, .int .i64 S, .int .i64 L, .int .i64 T, .int .i64 H, .int .i64 F, .int .i64 R, .int .i64 U, .int .i64 O, .slice (some ⟨g, 0, none⟩) rs.length rs.length]) (by simp [results, Tryz.results7, go_sem, w2r0, w2r1, w2r2, w2r3, w2r4, w2r5, w2r6, w2r7, w2r8, w2r9]) rfl ⟨g, rfl, by omega, ?_, ?_⟩
  · iterate 11 (refine Row.other ?_ _ (by first | (show w.heap.size + 1 + 1 ≠ g; omega) | (show w.heap.size + 1 ≠ g; omega)) _)
    exact HR2.out
  · iterate 11 (refine Below.setCell ?_ (by first | (show w.heap.size ≤ w.heap.size + 1 + 1; omega) | (show w.heap.size ≤ w.heap.size + 1; omega)) _)
    exact HB2.out

end Go.Proofs.YtnmaknnnmjfhkafGreat

namespace Go.Proofs.YtnmaknnnmjfhkafGreat
open Go.RowKit
set_option maxRecDepth 4000
set_option linter.unusedVariables false
set_option linter.unusedSimpArgs false

set_option maxHeartbeats 1600000 in
theorem held_prs (a : Option Addr) (n c k : Nat) (w : World) (h : OwnS w a (prcells (prmarks k n))) (hk : 0 < k) (hl : k + 2 * n ≤ 100000000) :
    Calls Tryz.prog 106 #[.slice a n c, .int .i64 (k : Int)] w fun e w' => e = .returned (.int .i64 ((k + 2 * n : Nat) : Int)) ∧ Below w.heap.size w w' := by
  rcases h with h | ⟨g, rfl, hrow⟩
  · have hn : n = 0 := by have := congrArg List.length h; rw [prcells_length, prmarks_length, List.length_nil] at this; omega
    subst hn
    go_enter Tryz.func106, Tryz.ntmps106
    go_wp2
    refine wp_loop_rounds 1 ?_
    rw [rounds_succ]
    go_wp2
    go_ret
    exact ⟨rfl, Below.refl _ _⟩
  · have HROW := hid hrow
    clear hrow
    go_enter Tryz.func106, Tryz.ntmps106
    go_wp2
    go_loopw [1, 5] (fun x i wr => ∃ j m : Nat, j ≤ n ∧ i = .int .i64 (j : Int) ∧ x = .int .i64 (m : Int) ∧ Hid (m = k + 2 * j) ∧ Below w.heap.size w wr) (fun _ i _ => n - (intOf i).toNat)
    case atStart => exact ⟨0, k, Nat.zero_le _, rfl, rfl, hid rfl, Below.refl _ _⟩
    case round =>
      obtain ⟨j, m, hj, rfl, rfl, HM, hbel⟩ := hrel
      have HR := hid (HROW.out.below hbel)
      have HB := hid hbel
      clear hbel
      by_cases hlt : j < n
      · have hmj : (m : Int) ≤ 99999998 := by have := HM.out; omega
        have hmj0 : (0 : Int) < (m : Int) := by have := HM.out; omega
        have hj0 : (0 : Int) ≤ (j : Int) := by omega
        have hj1 : (j : Int) < (n : Int) := by omega
        have hat := prcells_at (prmarks k n) j (by rw [prmarks_length]; exact hlt)
        have hgd : (prmarks k n).getD j (ByteArray.empty, ByteArray.empty) = prm m := by rw [HM.out]; simp [prmarks, List.getD, hlt]
        rw [hgd] at hat
        have HC : Hid (wr.cell? ⟨g, j * 2, none⟩ = some (.string (mtext m)) ∧ wr.cell? ⟨g, j * 2 + 1, none⟩ = some (.string (mtext (m + 1)))) := ⟨HR.out.cell _ _ hat.1, HR.out.cell _ _ hat.2⟩
        have lt1 : g < wr.heap.size := HR.out.lt
        clear hat hgd
        go_wp2_with fail
        go_region_held3 (fun w' => w'.cell? ⟨g, j * 2, none⟩ = some (.string (mtext m)) ∧ w'.cell? ⟨g, j * 2 + 1, none⟩ = some (.string (mtext (m + 1))))
          (first | assumption | exact HC.out | exact ⟨(hb2.cell (p := ⟨g, j * 2, none⟩) lt1).trans HC.out.1, (hb2.cell (p := ⟨g, j * 2 + 1, none⟩) lt1).trans HC.out.2⟩)
          (first | (go_at_call 54; refine (mark_text m _ (by omega) (by omega)).mono ?_; rintro e w2 ⟨rfl, hb2⟩))
        have HC2 : Hid (w2.cell? ⟨g, j * 2, none⟩ = some (.string (mtext m)) ∧ w2.cell? ⟨g, j * 2 + 1, none⟩ = some (.string (mtext (m + 1)))) := ⟨(hb2.cell (p := ⟨g, j * 2, none⟩) lt1).trans HC.out.1, (hb2.cell (p := ⟨g, j * 2 + 1, none⟩) lt1).trans HC.out.2⟩
        have lt2 : g < w2.heap.size := Nat.lt_of_lt_of_le lt1 hb2.size
        have HB2 := hid (HB.out.drew.trans (hb2.mono HB.out.size))
        clear hb2 lt1
        go_wp2_with fail
        go_region_held3 (fun w' => w'.cell? ⟨g, j * 2, none⟩ = some (.string (mtext m)) ∧ w'.cell? ⟨g, j * 2 + 1, none⟩ = some (.string (mtext (m + 1))))
          (first | assumption | exact HC2.out | exact ⟨(hb3.cell (p := ⟨g, j * 2, none⟩) lt2).trans HC2.out.1, (hb3.cell (p := ⟨g, j * 2 + 1, none⟩) lt2).trans HC2.out.2⟩)
          (first | (go_at_call 54; refine (mark_text' ((m : Int) + 1) (m + 1) (by omega) _ (by omega) (by omega)).mono ?_; rintro e w3 ⟨rfl, hb3⟩))
        have HB3 := hid (HB2.out.drew.trans (hb3.mono HB2.out.size))
        clear hb3 lt2
        go_wp2
        exact ⟨⟨j + 1, m + 2, by omega, by go_num, by go_num, by show _ = _; have := HM.out; omega, HB3.out⟩, by simp [intOf]; omega⟩
      · have hjl : Hid (j = n) := by show _ = _; omega
        go_wp2
        go_ret
        exact ⟨ret_int (by rw [HM.out, hjl.out]), HB.out⟩

set_option maxHeartbeats 400000 in
theorem held_state (a : Option Addr) (n c k : Nat) (w : World) (h : OwnS w a (prcells (prmarks k n))) (hk : 0 < k) (hl : k + 2 * n ≤ 100000000) :
    Calls Tryz.prog 77 #[stV a n c, .int .i64 (k : Int)] w fun e w' => e = .returned (.int .i64 ((k + 2 * n : Nat) : Int)) ∧ Below w.heap.size w w' := by
  have hb0 : ∀ o, Below w.heap.size w (w.alloc o) := fun o => (Below.refl _ _).alloc (Nat.le_refl _) _
  have hkn : ¬ ((k + 2 * n : Nat) : Int) < 0 := by omega
  obtain ⟨m, HM⟩ : ∃ m, Hid (m = k + 2 * n) := ⟨_, hid rfl⟩
  have HP := hid (fun w' h' => held_prs a n c k w' h' hk hl)
  rw [← HM.out] at HP hkn ⊢
  go_enter Tryz.func77, Tryz.ntmps77
  go_wp2_with (go_at_call 106; refine (HP.out _ (h.below (hb0 _))).mono ?_; rintro e w1 ⟨rfl, hb1⟩)
  go_ret
  exact ⟨rfl, (hb0 _).trans (hb1.mono (by simp))⟩
end Go.Proofs.YtnmaknnnmjfhkafGreat

namespace Go.Proofs.YtnmaknnnmjfhkafGreat
open Go.RowKit
set_option linter.unusedVariables false
set_option linter.unusedSimpArgs false
set_option maxRecDepth 8000

set_option maxHeartbeats 1000000 in
theorem mark_store (W S L T H F R U O : Int) (a : Option Addr) (rs : List (ByteArray × ByteArray)) (c k : Nat) (w : World) (h : OwnS w a (prcells rs)) (hk : 0 < k) (hl : k + 2 * rs.length ≤ 100000000) :
    Calls Tryz.prog 11 #[storeV W S L T H F R U O a rs.length c, .int .i64 (k : Int)] w fun e w' => e = .returned (.int .i64 ((k + 2 * rs.length : Nat) : Int)) ∧ w.grownBy w' (blk a rs.length) ∧ OwnS w' a (prcells (prmarks k rs.length)) := by
  have hb0 : ∀ o, Below w.heap.size w (w.alloc o) := fun o => (Below.refl _ _).alloc (Nat.le_refl _) _
  have HMS := hid (fun w' h' => mark_state a rs c k w' h' hk hl)
  obtain ⟨m, HM⟩ : ∃ m, Hid (m = k + 2 * rs.length) := ⟨_, hid rfl⟩
  rw [← HM.out] at HMS ⊢
  unfold storeV
  go_enter Tryz.func11, Tryz.ntmps11
  go_wp2_with (go_at_call 31; refine (HMS.out _ (h.below (hb0 _))).mono ?_; rintro e w1 ⟨rfl, hg1, ho1⟩; have HG := hid (grown_trans (grown_of_below (blk a rs.length) (hb0 _)) hg1); have HO := hid ho1; clear hg1 ho1)
  go_ret
  exact ⟨rfl, HG.out, HO.out⟩

set_option maxHeartbeats 1000000 in
theorem held_store (W S L T H F R U O : Int) (a : Option Addr) (n c k : Nat) (w : World) (h : OwnS w a (prcells (prmarks k n))) (hk : 0 < k) (hl : k + 2 * n ≤ 100000000) :
    Calls Tryz.prog 33 #[storeV W S L T H F R U O a n c, .int .i64 (k : Int)] w fun e w' => e = .returned (.int .i64 ((k + 2 * n : Nat) : Int)) ∧ Below w.heap.size w w' := by
  have hb0 : ∀ o, Below w.heap.size w (w.alloc o) := fun o => (Below.refl _ _).alloc (Nat.le_refl _) _
  have HMS := hid (fun w' h' => held_state a n c k w' h' hk hl)
  obtain ⟨m, HM⟩ : ∃ m, Hid (m = k + 2 * n) := ⟨_, hid rfl⟩
  have hm0 : (0 : Int) ≤ (m : Int) := by omega
  rw [← HM.out] at HMS ⊢
  unfold storeV
  go_enter Tryz.func33, Tryz.ntmps33
  go_wp2_with (go_at_call 77; refine (HMS.out _ (h.below (hb0 _))).mono ?_; rintro e w1 ⟨rfl, hb1⟩)
  go_ret
  exact ⟨rfl, (hb0 _).trans (hb1.mono (by simp))⟩

end Go.Proofs.YtnmaknnnmjfhkafGreat

namespace Go.Proofs.YtnmaknnnmjfhkafGreat
open Go.RowKit
set_option maxRecDepth 4000
set_option linter.unusedVariables false
set_option linter.unusedSimpArgs false

theorem getxo {w : World} {g : Nat} {cs : List Value} (h : Row w g cs) (i : Nat) (hi : i < cs.length) : (∃ u, w.cell? ⟨g, i, none⟩ = some u) ∧ w.frozen? ⟨g, i, none⟩ = false := ⟨⟨_, h.cell i _ (List.getElem?_eq_getElem hi)⟩, h.froz i hi⟩
def opm (m : Nat) : Bool × Int × ByteArray := (decide (m % 3 = 0), ((m + 1 : Nat) : Int), mtext (m + 2))
def opmarks (k n : Nat) : List (Bool × Int × ByteArray) := (List.range n).map fun i => opm (k + 3 * i)
theorem opmarks_length (k n : Nat) : (opmarks k n).length = n := by simp [opmarks]
theorem opmarks_succ (k n : Nat) : opmarks k (n + 1) = opmarks k n ++ [opm (k + 3 * n)] := by simp [opmarks, List.range_succ]
def opmixed (k i : Nat) (rs : List (Bool × Int × ByteArray)) : List Value := opcells (opmarks k i ++ rs.drop i)
theorem opmixed_length (k i : Nat) (rs : List (Bool × Int × ByteArray)) (h : i ≤ rs.length) : (opmixed k i rs).length = rs.length * 3 := by simp [opmixed, opcells_length, opmarks_length]; omega
theorem opmixed_set (k i : Nat) (rs : List (Bool × Int × ByteArray)) (h : i < rs.length) : (((opmixed k i rs).set (i * 3) (.bool (decide ((k + 3 * i) % 3 = 0)))).set (i * 3 + 1) (.int .i64 ((k + 3 * i + 1 : Nat) : Int))).set (i * 3 + 2) (.string (mtext (k + 3 * i + 2))) = opmixed k (i + 1) rs := by
  have el : (opcells (opmarks k i)).length = i * 3 := by rw [opcells_length, opmarks_length]
  unfold opmixed
  rw [opmarks_succ, drop_at rs i (false, 0, ByteArray.empty) h, opcells_append, opcells_append, opcells_append, List.set_append_right _ _ (by omega), List.set_append_right _ _ (by omega), List.set_append_right _ _ (by omega), el]
  simp [opcells, opm]

set_option maxHeartbeats 1600000 in
theorem mark_ops (a : Option Addr) (rs : List (Bool × Int × ByteArray)) (c k : Nat) (w : World) (h : OwnS w a (opcells rs)) (hk : 0 < k) (hl : k + 3 * rs.length ≤ 100000000) :
    Calls Tryz.prog 32 #[.slice a rs.length c, .int .i64 (k : Int)] w fun e w' => e = .returned (.int .i64 ((k + 3 * rs.length : Nat) : Int)) ∧ w.grownBy w' (blk a rs.length) ∧ OwnS w' a (opcells (opmarks k rs.length)) := by
  by_cases hss : rs = []
  · skip
    subst hss
    go_enter Tryz.func32, Tryz.ntmps32
    go_wp2
    refine wp_loop_rounds 1 ?_
    rw [rounds_succ]
    go_wp2
    go_ret
    exact ⟨rfl, grown_refl _ _, .inl rfl⟩
  · obtain ⟨g, rfl, hrow⟩ := h.resolve_left (fun e => hss (by have := congrArg List.length e; rw [opcells_length, List.length_nil] at this; exact List.eq_nil_of_length_eq_zero (by omega)))
    rw [blk_pos g 0 rs.length (fun e => hss (List.eq_nil_of_length_eq_zero e))]
    have hr0 : Row w g (opmixed k 0 rs) := by simpa [opmixed, opmarks] using hrow
    clear hrow hss
    go_enter Tryz.func32, Tryz.ntmps32
    go_wp2
    go_loopw [1, 5] (fun x i wr => ∃ j m : Nat, j ≤ rs.length ∧ i = .int .i64 (j : Int) ∧ x = .int .i64 (m : Int) ∧ Hid (m = k + 3 * j) ∧ Row wr g (opmixed k j rs) ∧ w.grownBy wr (some g)) (fun _ i _ => rs.length - (intOf i).toNat)
    case atStart => exact ⟨0, k, Nat.zero_le _, rfl, rfl, hid rfl, hr0, grown_refl _ _⟩
    case round =>
      clear hr0
      obtain ⟨j, m, hj, rfl, rfl, HM, hrow, hgr⟩ := hrel
      have HR := hid hrow
      have HG := hid hgr
      clear hgr hrow
      by_cases hlt : j < rs.length
      · have HL := hid (opmixed_length k j rs hj)
        have hmj : (m : Int) ≤ 99999997 := by have := HM.out; omega
        have hmj0 : (0 : Int) < (m : Int) := by have := HM.out; omega
        have hgn : (((m : Int)) % 3 == 0) = decide (m % 3 = 0) := by rw [Bool.eq_iff_iff]; simp; omega
        obtain ⟨⟨u0, hu0⟩, hf0⟩ := getxo HR.out (j * 3) (by rw [HL.out]; omega)
        obtain ⟨⟨u1, hu1⟩, hf1⟩ := getxo HR.out (j * 3 + 1) (by rw [HL.out]; omega)
        have HR1 := hid ((HR.out.set (j * 3) (by rw [HL.out]; omega) (.bool (decide (m % 3 = 0)))).set (j * 3 + 1) (by rw [List.length_set, HL.out]; omega) (.int .i64 ((m : Int) + 1)))
        go_wp2_with (go_at_call 54; refine (mark_text' ((m : Int) + 1 + 1) (m + 2) (by omega) _ (by omega) (by omega)).mono ?_; rintro e w3 ⟨rfl, hb3⟩; (try rw [hgn] at hb3); have HR3 := hid (HR1.out.below hb3); have hu4 := getxo HR3.out (j * 3 + 2) (by rw [List.length_set, List.length_set, HL.out]; omega); obtain ⟨⟨u4, hu4⟩, hf4⟩ := hu4; have HG3 := hid (grown_trans (grown_set (grown_set HG.out _ _) _ _) (grown_of_below _ hb3)); clear hb3)
        have hset : (((opmixed k j rs).set (j * 3) (.bool (decide (m % 3 = 0)))).set (j * 3 + 1) (.int .i64 ((m : Int) + 1))).set (j * 3 + 2) (.string (mtext (m + 2))) = opmixed k (j + 1) rs := by
          rw [HM.out, ← opmixed_set k j rs hlt]; rfl
        refine ⟨⟨j + 1, m + 3, by omega, by go_num, by go_num, by show _ = _; have := HM.out; omega, ?_, grown_set HG3.out _ _⟩, by simp [intOf]; omega⟩
        rw [← hset]
        exact HR3.out.set (j * 3 + 2) (by rw [List.length_set, List.length_set, HL.out]; omega) _
      · have hjl : Hid (j = rs.length) := by show _ = _; omega
        go_wp2
        go_ret
        refine ⟨ret_int (by rw [HM.out, hjl.out]), HG.out, .inr ⟨g, rfl, ?_⟩⟩
        have := HR.out
        rw [hjl.out] at this
        simpa [opmixed] using this

end Go.Proofs.YtnmaknnnmjfhkafGreat

namespace Go.Proofs.YtnmaknnnmjfhkafGreat
open Go.RowKit
set_option maxRecDepth 4000
set_option linter.unusedVariables false
set_option linter.unusedSimpArgs false

set_option maxHeartbeats 1600000 in
theorem held_ops (a : Option Addr) (n c k : Nat) (w : World) (h : OwnS w a (opcells (opmarks k n))) (hk : 0 < k) (hl : k + 3 * n ≤ 100000000) :
    Calls Tryz.prog 34 #[.slice a n c, .int .i64 (k : Int)] w fun e w' => e = .returned (.int .i64 ((k + 3 * n : Nat) : Int)) ∧ Below w.heap.size w w' := by
  rcases h with h | ⟨g, rfl, hrow⟩
  · have hn : n = 0 := by have := congrArg List.length h; rw [opcells_length, opmarks_length, List.length_nil] at this; omega
    subst hn
    go_enter Tryz.func34, Tryz.ntmps34
    go_wp2
    refine wp_loop_rounds 1 ?_
    rw [rounds_succ]
    go_wp2
    go_ret
    exact ⟨rfl, Below.refl _ _⟩
  · have HROW := hid hrow
    clear hrow
    go_enter Tryz.func34, Tryz.ntmps34
    go_wp2
    go_loopw [1, 5] (fun x i wr => ∃ j m : Nat, j ≤ n ∧ i = .int .i64 (j : Int) ∧ x = .int .i64 (m : Int) ∧ Hid (m = k + 3 * j) ∧ Below w.heap.size w wr) (fun _ i _ => n - (intOf i).toNat)
    case atStart => exact ⟨0, k, Nat.zero_le _, rfl, rfl, hid rfl, Below.refl _ _⟩
    case round =>
      obtain ⟨j, m, hj, rfl, rfl, HM, hbel⟩ := hrel
      have HR := hid (HROW.out.below hbel)
      have HB := hid hbel
      clear hbel
      by_cases hlt : j < n
      · have hmj : (m : Int) ≤ 99999997 := by have := HM.out; omega
        have hmj0 : (0 : Int) < (m : Int) := by have := HM.out; omega
        have hj0 : (0 : Int) ≤ (j : Int) := by omega
        have hj1 : (j : Int) < (n : Int) := by omega
        have hat := opcells_at (opmarks k n) j (by rw [opmarks_length]; exact hlt)
        have hgd : (opmarks k n).getD j (false, 0, ByteArray.empty) = opm m := by rw [HM.out]; simp [opmarks, List.getD, hlt]
        rw [hgd] at hat
        obtain ⟨G, HGG⟩ : ∃ G, Hid (G = decide (m % 3 = 0)) := ⟨_, hid rfl⟩
        have hgn : (((m : Int)) % 3 == 0) = G := by rw [HGG.out, Bool.eq_iff_iff]; simp; omega
        have hc0 : wr.cell? ⟨g, j * 3, none⟩ = some (.bool G) := by rw [HGG.out]; exact HR.out.cell _ _ hat.1
        have hc1 : wr.cell? ⟨g, j * 3 + 1, none⟩ = some (.int .i64 ((m : Int) + 1)) := HR.out.cell _ _ hat.2.1
        have hc2 : wr.cell? ⟨g, j * 3 + 2, none⟩ = some (.string (mtext (m + 2))) := HR.out.cell _ _ hat.2.2
        have lt1 : g < wr.heap.size := HR.out.lt
        have hgq : (G != G) = false := by simp
        clear hat hgd
        go_wp2_with fail
        go_region_held3 (fun w' => w'.cell? ⟨g, j * 3 + 2, none⟩ = some (.string (mtext (m + 2))))
          (first | assumption | exact hc2 | exact (hb2.cell (p := ⟨g, j * 3 + 2, none⟩) lt1).trans hc2)
          (first | (go_at_call 54; refine (mark_text' ((m : Int) + 1 + 1) (m + 2) (by omega) _ (by omega) (by omega)).mono ?_; rintro e w2 ⟨rfl, hb2⟩))
        have HB2 := hid (HB.out.drew.trans (hb2.mono HB.out.size))
        clear hb2
        go_wp2
        exact ⟨⟨j + 1, m + 3, by omega, by go_num, by go_num, by show _ = _; have := HM.out; omega, HB2.out⟩, by simp [intOf]; omega⟩
      · have hjl : Hid (j = n) := by show _ = _; omega
        go_wp2
        go_ret
        exact ⟨ret_int (by rw [HM.out, hjl.out]), HB.out⟩
end Go.Proofs.YtnmaknnnmjfhkafGreat

namespace Go.Proofs.YtnmaknnnmjfhkafGreat
open Go.RowKit
set_option maxRecDepth 4000
set_option linter.unusedVariables false

set_option maxHeartbeats 400000 in
theorem eq_op (g0 : Bool) (n1 : Int) (s2 : ByteArray) (w : World) :
    Calls Tryz.prog 74 #[.agg #[.bool g0, .int .i64 n1, .string s2], .agg #[.bool g0, .int .i64 n1, .string s2]] w fun e w' => e = .returned (.bool true) ∧ Below w.heap.size w w' := by
  go_enter Tryz.func74, Tryz.ntmps74
  go_wp2
  go_ret
  exact ⟨rfl, ((Below.refl _ _).alloc (Nat.le_refl _) _).alloc (by simp) _⟩

set_option maxHeartbeats 400000 in
theorem eq_ops (a b : Option Addr) (rs : List (Bool × Int × ByteArray)) (c c' : Nat) (w : World) (h : Ops w a rs) (h' : Ops w b rs) (hl : rs.length ≤ 1048576) :
    Calls Tryz.prog 28 #[.slice a rs.length c, .slice b rs.length c'] w fun e w' => e = .returned (.bool true) ∧ Below w.heap.size w w' := by
  go_enter Tryz.func28, Tryz.ntmps28
  go_wp2
  go_loopw [5] (fun i wr => ∃ k : Nat, k ≤ rs.length ∧ i = .int .i64 k ∧ Below w.heap.size w wr) (fun i _ => rs.length - (intOf i).toNat)
  case atStart => exact ⟨0, Nat.zero_le _, rfl, Below.refl _ _⟩
  case round =>
    obtain ⟨k, hk, rfl, hbel⟩ := hrel
    by_cases hlt : k < rs.length
    · obtain ⟨b1, o1, g0, n1, s2, rfl, hc0, hc1, hc2, HS⟩ := (h.below hbel).at hlt
      obtain ⟨b2, o2, g0x, n1x, s2x, rfl, hd0, hd1, hd2, HS'⟩ := (h'.below hbel).at hlt
      obtain ⟨rfl, rfl, rfl⟩ : g0 = g0x ∧ n1 = n1x ∧ s2 = s2x := by have := HS.out.trans HS'.out.symm; simpa using this
      have hk1 : (k : Int) < (rs.length : Int) := by omega
      have hk0 : (0 : Int) ≤ (k : Int) := by omega
      have lt1 : b1 < wr.heap.size := by have := World.block_lt_of_cell? wr _ hc0; simpa using this
      have lt2 : b2 < wr.heap.size := by have := World.block_lt_of_cell? wr _ hd0; simpa using this
      have HQ : Hid (wr.cell? ⟨b1, o1 + k * 3, none⟩ = some (.bool g0) ∧ wr.cell? ⟨b1, o1 + k * 3 + 1, none⟩ = some (.int .i64 n1) ∧ wr.cell? ⟨b1, o1 + k * 3 + 2, none⟩ = some (.string s2) ∧ wr.cell? ⟨b2, o2 + k * 3, none⟩ = some (.bool g0) ∧ wr.cell? ⟨b2, o2 + k * 3 + 1, none⟩ = some (.int .i64 n1) ∧ wr.cell? ⟨b2, o2 + k * 3 + 2, none⟩ = some (.string s2)) := ⟨hc0, hc1, hc2, hd0, hd1, hd2⟩
      clear HS HS' hc0 hc1 hc2 hd0 hd1 hd2
      go_wp2_with fail
      go_region_held3 (fun w' => w'.cell? ⟨b1, o1 + k * 3, none⟩ = some (.bool g0) ∧ w'.cell? ⟨b1, o1 + k * 3 + 1, none⟩ = some (.int .i64 n1) ∧ w'.cell? ⟨b1, o1 + k * 3 + 2, none⟩ = some (.string s2) ∧ w'.cell? ⟨b2, o2 + k * 3, none⟩ = some (.bool g0) ∧ w'.cell? ⟨b2, o2 + k * 3 + 1, none⟩ = some (.int .i64 n1) ∧ w'.cell? ⟨b2, o2 + k * 3 + 2, none⟩ = some (.string s2))
        (first | assumption | exact HQ.out | exact ⟨(hb2.cell (p := ⟨b1, _, none⟩) lt1).trans HQ.out.1, (hb2.cell (p := ⟨b1, _, none⟩) lt1).trans HQ.out.2.1, (hb2.cell (p := ⟨b1, _, none⟩) lt1).trans HQ.out.2.2.1, (hb2.cell (p := ⟨b2, _, none⟩) lt2).trans HQ.out.2.2.2.1, (hb2.cell (p := ⟨b2, _, none⟩) lt2).trans HQ.out.2.2.2.2.1, (hb2.cell (p := ⟨b2, _, none⟩) lt2).trans HQ.out.2.2.2.2.2⟩)
        (first | (go_at_call 74; refine (eq_op g0 n1 s2 _).mono ?_; rintro e w2 ⟨rfl, hb2⟩))
      go_wp2
      go_roundw
      case rel => exact ⟨k + 1, by omega, by go_num, hbel.drew.trans (hb2.mono hbel.size)⟩
      case measure => simp [intOf]; omega
    · go_wp2
      go_ret
      exact ⟨rfl, hbel⟩
end Go.Proofs.YtnmaknnnmjfhkafGreat

namespace Go.Proofs.YtnmaknnnmjfhkafGreat
open Go.RowKit
set_option maxRecDepth 8000
set_option linter.unusedVariables false
set_option linter.unusedSimpArgs false

theorem own_apart {w w1 : World} {ops : List OpT} {a b : Option Addr} {n : Nat} (h : OwnS w b (opcells ops)) (hg : w.grownBy w1 (blk a n)) (ne : Apart a n b ops.length) : OwnS w1 b (opcells ops) :=
  h.grown hg (fun g hg hne => by
    rcases ne with h0 | h0 | h0
    · rw [h0]; simp
    · subst hg; rw [blk_pos g 0 _ (ne_of_opcells hne)] at h0; cases h0
    · subst hg; rw [blk_pos g 0 _ (ne_of_opcells hne)] at h0; exact fun e => h0 e.symm)

set_option maxHeartbeats 4000000 in
theorem eq_done (d : Dd) (a : Option Addr) (c : Nat) (b : Option Addr) (e : Nat) (a' : Option Addr) (c' : Nat) (b' : Option Addr) (e' : Nat) (w : World) (h1 : Prs w a d.rs) (h2 : Ops w b d.ops) (h3 : Prs w a' d.rs) (h4 : Ops w b' d.ops) (hl : d.rs.length ≤ 1048576) (hl2 : d.ops.length ≤ 1048576) :
    Calls Tryz.prog 9 #[dnV d a c b e, dnV d a' c' b' e'] w fun x w' => x = .returned (.bool true) ∧ Below w.heap.size w w' := by
  obtain ⟨C, W, S, L, T, H, F, R, U, O, rs, ops⟩ := d
  have hb0 : ∀ o1 o2, Below w.heap.size w ((w.alloc o1).alloc o2) := fun o1 o2 => ((Below.refl _ _).alloc (Nat.le_refl _) _).alloc (by simp) _
  have HES := hid (fun w' h' h'' => eq_store W S L T H F R U O a a' rs c c' w' h' h'' hl)
  unfold storeV at HES
  unfold dnV
  simp only at h1 h2 h3 h4 hl hl2
  go_enter Tryz.func9, Tryz.ntmps9
  go_wp2_with (first | (go_at_call 10; refine (HES.out _ (h1.below (hb0 _ _)) (h3.below (hb0 _ _))).mono ?_; rintro x w1 ⟨rfl, hb1⟩; have HB1 := hid ((hb0 _ _).trans (hb1.mono (by simp <;> omega))); have q1 : w1.cell? ⟨w.heap.size, 11, none⟩ = some (.slice b ops.length e) := (hb1.cell (p := ⟨w.heap.size, 11, none⟩) (by simp <;> omega)).trans (by go_simp); have q2 : w1.cell? ⟨w.heap.size + 1, 11, none⟩ = some (.slice b' ops.length e') := (hb1.cell (p := ⟨w.heap.size + 1, 11, none⟩) (by simp <;> omega)).trans (by go_simp); clear hb1) | (go_at_call 28; refine (eq_ops b b' ops e e' _ (h2.below HB1.out) (h4.below HB1.out) hl2).mono ?_; rintro x w2 ⟨rfl, hb2⟩))
  go_ret
  exact ⟨rfl, HB1.out.trans (hb2.mono HB1.out.size)⟩

set_option maxHeartbeats 4000000 in
theorem mark_done (d : Dd) (a : Option Addr) (c : Nat) (b : Option Addr) (e k : Nat) (w : World) (h : OwnDn w d.rs d.ops a b) (hk : 0 < k) (hl : k + 2 * d.rs.length + 3 * d.ops.length ≤ 100000000) :
    Calls Tryz.prog 12 #[dnV d a c b e, .int .i64 (k : Int)] w fun x w' => x = .returned (.int .i64 ((k + 2 * d.rs.length + 3 * d.ops.length : Nat) : Int)) ∧ (∃ w1 w2, Below w.heap.size w w1 ∧ w1.grownBy w2 (blk a d.rs.length) ∧ w2.grownBy w' (blk b d.ops.length)) ∧ OwnDn w' (prmarks k d.rs.length) (opmarks (k + 2 * d.rs.length) d.ops.length) a b := by
  obtain ⟨C, W, S, L, T, H, F, R, U, O, rs, ops⟩ := d
  simp only at h hl ⊢
  have hb0 : ∀ o, Below w.heap.size w (w.alloc o) := fun o => (Below.refl _ _).alloc (Nat.le_refl _) _
  have l1 := h.s.lt rs.length prcells_ne
  have l2 := h.p.lt ops.length opcells_ne
  have HMS := hid (fun w' h' => mark_store W S L T H F R U O a rs c k w' h' hk (by omega))
  obtain ⟨m, HM⟩ : ∃ m, Hid (m = k + 2 * rs.length) := ⟨_, hid rfl⟩
  have HMO := hid (fun w' h' => mark_ops b ops e m w' h' (by have := HM.out; omega) (by have := HM.out; omega))
  rw [← HM.out] at HMS ⊢
  unfold storeV at HMS
  unfold dnV
  simp only
  go_enter Tryz.func12, Tryz.ntmps12
  go_wp2_with (first | (go_at_call 11; refine (HMS.out _ (h.s.below (hb0 _))).mono ?_; rintro x w1 ⟨rfl, hg1, ho1⟩; have q1 : w1.cell? ⟨w.heap.size, 11, none⟩ = some (.slice b ops.length e) := (World.cell?_of_block (a := ⟨w.heap.size, 11, none⟩) (hg1.block w.heap.size (by simp) (fun e => by have := l1 _ e.symm; omega))).trans (by go_simp); have HG1 := hid hg1; have HO1 := hid ho1; clear hg1 ho1) | (go_at_call 32; refine (HMO.out _ (own_apart (h.p.below (hb0 _)) HG1.out h.ne)).mono ?_; rintro x w2 ⟨rfl, hg2, ho2⟩; have HG2 := hid hg2; have HO2 := hid ho2; clear hg2 ho2))
  go_ret
  refine ⟨rfl, ⟨_, w1, hb0 _, HG1.out, HG2.out⟩, ?_, HO2.out, ?_⟩
  · refine HO1.out.grown HG2.out (fun g hg hne => ?_)
    have hn1 : rs.length ≠ 0 := by have := ne_of_prcells hne; rwa [prmarks_length] at this
    subst hg
    rcases h.ne with h0 | h0 | h0
    · rw [blk_pos g 0 _ hn1] at h0; cases h0
    · rw [h0]; simp
    · rwa [blk_pos g 0 _ hn1] at h0
  · rw [prmarks_length, opmarks_length]; exact h.ne

set_option maxHeartbeats 4000000 in
theorem held_done (d : Dd) (a : Option Addr) (c : Nat) (b : Option Addr) (e k : Nat) (w : World) (h : OwnS w a (prcells (prmarks k d.rs.length))) (h' : OwnS w b (opcells (opmarks (k + 2 * d.rs.length) d.ops.length))) (hk : 0 < k) (hl : k + 2 * d.rs.length + 3 * d.ops.length ≤ 100000000) :
    Calls Tryz.prog 13 #[dnV d a c b e, .int .i64 (k : Int)] w fun x w' => x = .returned (.int .i64 ((k + 2 * d.rs.length + 3 * d.ops.length : Nat) : Int)) ∧ Below w.heap.size w w' := by
  obtain ⟨C, W, S, L, T, H, F, R, U, O, rs, ops⟩ := d
  simp only at h h' hl ⊢
  have hb0 : ∀ o, Below w.heap.size w (w.alloc o) := fun o => (Below.refl _ _).alloc (Nat.le_refl _) _
  have HMS := hid (fun w' h' => held_store W S L T H F R U O a rs.length c k w' h' hk (by omega))
  obtain ⟨m, HM⟩ : ∃ m, Hid (m = k + 2 * rs.length) := ⟨_, hid rfl⟩
  have HMO := hid (fun w' h' => held_ops b ops.length e m w' h' (by have := HM.out; omega) (by have := HM.out; omega))
  rw [← HM.out] at HMS h' ⊢
  obtain ⟨m2, HM2⟩ : ∃ m2, Hid (m2 = m + 3 * ops.length) := ⟨_, hid rfl⟩
  rw [← HM2.out] at HMO ⊢
  have hm0 : (0 : Int) ≤ (m : Int) := by omega
  have hm2 : (0 : Int) ≤ (m2 : Int) := by omega
  unfold storeV at HMS
  unfold dnV
  simp only
  go_enter Tryz.func13, Tryz.ntmps13
  go_wp2_with (first | (go_at_call 33; refine (HMS.out _ (h.below (hb0 _))).mono ?_; rintro x w1 ⟨rfl, hb1⟩; have q1 : w1.cell? ⟨w.heap.size, 11, none⟩ = some (.slice b ops.length e) := (hb1.cell (p := ⟨w.heap.size, 11, none⟩) (by simp)).trans (by go_simp); have HB1 := hid ((hb0 _).trans (hb1.mono (by simp))); clear hb1) | (go_at_call 34; refine (HMO.out _ (h'.below HB1.out)).mono ?_; rintro x w2 ⟨rfl, hb2⟩))
  go_ret
  exact ⟨rfl, HB1.out.trans (hb2.mono HB1.out.size)⟩
end Go.Proofs.YtnmaknnnmjfhkafGreat

namespace Go.Proofs.YtnmaknnnmjfhkafGreat
open Go.RowKit Go.ChangeShapes Go.WideShapes Go.Deep
section
variable {H : Type} {enc : TypeId × Value → H} {P : Program} {w : World} {base : Nat} {spare : Nat → Bool} {held : Bool}

theorem add_none {a : Addr} {i : Nat} {v : Value} (h : w.cell? (a.add i) = some v) (h0 : ∃ u, w.cell? (a.add 0) = some u) : ∃ b o, a = ⟨b, o, none⟩ := by
  obtain ⟨b, o, s⟩ := a
  obtain ⟨u, hu⟩ := h0
  have hs : s = none := by simpa [Addr.add] using World.cell?_spot hu
  exact ⟨b, o, by rw [hs]⟩
theorem add_mk (b o i : Nat) : (⟨b, o, none⟩ : Addr).add i = ⟨b, o + i, none⟩ := by unfold Addr.add; split <;> simp_all

theorem strs_of_trod {t e : TypeId} {fuel : Nat} {v : Value} {x : DataW H × List MemPlace} (ht : P.underlying t = some (.slice e)) (he : P.underlying e = some .string) (hc : P.cellsOf e = 1)
    (h : DataW.trod enc P w base spare held fuel t [v] = some x) : ∃ a ss c, v = .slice a ss.length c ∧ Strs w a ss ∧ ss.length ≤ maxLen ∧ ∀ s ∈ ss, s.size ≤ maxLen := by
  rcases open_strings ht he hc h with ⟨hcs, _⟩ | ⟨a, len, cap, ss, hcs, _, hl, hm, hz, _, hcell, hw⟩
  · simp at hcs
    exact ⟨none, [], 0, by simpa using hcs, .inl rfl, by simp, by simp⟩
  · simp at hcs
    have hlen : len ≤ ss.length := by rw [hz]; split <;> omega
    have e1 : (ss.take len).length = len := by simp; omega
    refine ⟨some a, ss.take len, cap, by rw [e1]; exact hcs, ?_, by omega, fun s hs => hw s (List.mem_of_mem_take hs)⟩
    by_cases h0 : len = 0
    · exact .inl (by subst h0; simp)
    · obtain ⟨b, o, rfl⟩ := add_none (hcell 0 (by omega)) ⟨_, hcell 0 (by omega)⟩
      have hb := World.block_lt_of_cell? w _ (hcell 0 (by omega))
      rw [add_mk] at hb
      refine .inr ⟨b, o, rfl, hb, fun i hi => ?_⟩
      have := hcell i (by omega)
      rw [add_mk] at this
      rw [this]
      have hi' : i < len := by omega
      simp [List.getD, List.getElem?_take_of_lt hi']

theorem wrs_of_trod {t e : TypeId} {f0 f1 : Field} {fuel : Nat} {v : Value} {x : DataW H × List MemPlace} (ht : P.underlying t = some (.slice e)) (he : P.underlying e = some (.struct #[f0, f1]))
    (ce : P.cellsOf e = 2) (o0 : f0.offset = 0) (o1 : f1.offset = 1) (c0 : P.cellsOf f0.type = 1) (c1 : P.cellsOf f1.type = 1) (t0 : P.underlying f0.type = some (.int .i64)) (t1 : P.underlying f1.type = some .string)
    (h : DataW.trod enc P w base spare held fuel t [v] = some x) : ∃ a ws c, v = .slice a ws.length c ∧ Wrs w a ws ∧ ws.length ≤ maxLen ∧ (∀ s ∈ ws, s.2.size ≤ maxLen) ∧ ∀ s ∈ ws, (Lit.int .i64 s.1).wf = true := by
  rcases open_slice_pairs ht he ce o0 o1 c0 c1 h with ⟨hcs, _⟩ | ⟨a, len, cap, m, n, V0, V1, D0, D1, P0, P1, hcs, _, hl, hm, hz, _, hcell⟩
  · simp at hcs
    exact ⟨none, [], 0, by simpa using hcs, .inl rfl, by simp, by simp, by simp⟩
  · simp at hcs
    have hlm : len ≤ m := by rw [hz]; split <;> omega
    have each : ∀ i, i < len → ∃ q : Int × ByteArray, w.cell? (a.add (i * 2)) = some (.int .i64 q.1) ∧ w.cell? (a.add (i * 2 + 1)) = some (.string q.2) ∧ q.2.size ≤ maxLen ∧ (Lit.int .i64 q.1).wf = true := by
      intro i hi
      obtain ⟨h1, h2, h3, h4⟩ := hcell i (by omega)
      obtain ⟨y, ey, _, wy⟩ := DataW.trod_int t0 h3
      obtain ⟨s, es, _, ws⟩ := DataW.trod_string t1 h4
      simp at ey es
      rw [ey] at h1
      rw [es] at h2
      exact ⟨(y, s), h1, h2, ws, wy⟩
    obtain ⟨q, hq⟩ := choose_lt each
    have e1 : ((List.range len).map q).length = len := by simp
    refine ⟨some a, (List.range len).map q, cap, by rw [e1]; exact hcs, ?_, by omega, fun s hs => ?_, fun s hs => ?_⟩
    · by_cases h0 : len = 0
      · exact .inl (by subst h0; simp)
      · have hq0 := (hq 0 (by omega)).1
        obtain ⟨b, o, rfl⟩ := add_none hq0 ⟨_, hq0⟩
        have hb := World.block_lt_of_cell? w _ hq0
        rw [add_mk] at hb
        refine .inr ⟨b, o, rfl, hb, fun i hi => ?_⟩
        rw [e1] at hi
        obtain ⟨h1, h2, _⟩ := hq i hi
        rw [add_mk] at h1 h2
        simp [List.getD, hi, h1, ← Nat.add_assoc] at h2 ⊢
        exact h2
    · obtain ⟨i, hi, rfl⟩ := List.mem_map.1 hs
      exact (hq i (by simpa using hi)).2.2.1
    · obtain ⟨i, hi, rfl⟩ := List.mem_map.1 hs
      exact (hq i (by simpa using hi)).2.2.2
end
end Go.Proofs.YtnmaknnnmjfhkafGreat

namespace Go.Proofs.YtnmaknnnmjfhkafGreat
open Go.RowKit Go.ChangeShapes Go.WideShapes Go.Deep
section
variable {H : Type} {enc : TypeId × Value → H} {P : Program} {w : World} {base : Nat} {spare : Nat → Bool} {held : Bool}
theorem prs_of_trod {t e : TypeId} {f0 f1 : Field} {fuel : Nat} {v : Value} {x : DataW H × List MemPlace} (ht : P.underlying t = some (.slice e)) (he : P.underlying e = some (.struct #[f0, f1]))
    (ce : P.cellsOf e = 2) (o0 : f0.offset = 0) (o1 : f1.offset = 1) (c0 : P.cellsOf f0.type = 1) (c1 : P.cellsOf f1.type = 1) (t0 : P.underlying f0.type = some .string) (t1 : P.underlying f1.type = some .string)
    (h : DataW.trod enc P w base spare held fuel t [v] = some x) : ∃ a rs c, v = .slice a rs.length c ∧ Prs w a rs ∧ rs.length ≤ maxLen ∧ (∀ s ∈ rs, s.1.size ≤ maxLen ∧ s.2.size ≤ maxLen) := by
  rcases open_slice ht h with ⟨hcs, _⟩ | ⟨a, len, cap, m, n, D, Pl, hcs, hb, hl, hm, hmm, _, hx⟩
  · simp at hcs
    exact ⟨none, [], 0, by simpa using hcs, .inl rfl, by simp, by simp⟩
  · simp at hcs
    have hlm : len ≤ m := by rw [hmm]; split <;> omega
    have each : ∀ i, i < len → ∃ q : ByteArray × ByteArray, w.cell? (a.add (i * 2)) = some (.string q.1) ∧ w.cell? (a.add (i * 2 + 1)) = some (.string q.2) ∧ q.1.size ≤ maxLen ∧ q.2.size ≤ maxLen := by
      intro i hi
      obtain ⟨cs', h1, h2⟩ := hx i (by omega)
      rw [ce] at h1
      obtain ⟨_, hlen, hcell⟩ := World.cells?_some h1
      obtain ⟨xs, k, hk, hxy, _, hxl, hf⟩ := DataW.trod_struct he h2
      match xs, hxl, cs', hlen with
      | [y0, y1], _, [v0, v1], _ =>
        have g0 := hf 0 f0 rfl
        have g1 := hf 1 f1 rfl
        simp [o0, o1, c0, c1] at g0 g1
        have e0 := hcell 0 (by omega)
        have e1 := hcell 1 (by omega)
        rw [add_add] at e0 e1
        obtain ⟨z0, ez0, _, wz0⟩ := DataW.trod_string t0 g0
        simp at ez0
        subst ez0
        obtain ⟨z1, ez1, _, wz1⟩ := DataW.trod_string t1 g1
        simp at ez1
        subst ez1
        exact ⟨(z0, z1), by simpa using e0, by simpa using e1, wz0, wz1⟩
    obtain ⟨q, hq⟩ := choose_lt each
    have e1 : ((List.range len).map q).length = len := by simp
    refine ⟨some a, (List.range len).map q, cap, by rw [e1]; exact hcs, ?_, by omega, fun s hs => ?_⟩
    · by_cases h0 : len = 0
      · exact .inl (by subst h0; simp)
      · have hq0 := (hq 0 (by omega)).1
        obtain ⟨b, o, rfl⟩ := add_none hq0 ⟨_, hq0⟩
        have hb := World.block_lt_of_cell? w _ hq0
        rw [add_mk] at hb
        refine .inr ⟨b, o, rfl, hb, fun i hi => ?_⟩
        rw [e1] at hi
        obtain ⟨h0, h1, _⟩ := hq i hi
        rw [add_mk] at h0 h1
        have eg : ((List.range len).map q).getD i (ByteArray.empty, ByteArray.empty) = q i := by simp [List.getD, hi]
        rw [eg]
        exact ⟨h0, by rw [Nat.add_assoc]; exact h1⟩
    · obtain ⟨i, hi, rfl⟩ := List.mem_map.1 hs
      exact (hq i (by simpa using hi)).2.2
end
end Go.Proofs.YtnmaknnnmjfhkafGreat

namespace Go.Proofs.YtnmaknnnmjfhkafGreat
open Go.RowKit Go.ChangeShapes Go.WideShapes Go.Deep Go.Joins
section
variable {H : Type} {enc : TypeId × Value → H} {P : Program} {w : World} {base : Nat} {spare : Nat → Bool} {held : Bool}
theorem open_agg1' {r : Reach} {b0 : Nat} {t : TypeId} {f0 : Field} {v : Value} {d : DataW H} {p : List MemPlace} (hs : P.underlying t = some (.struct #[f0])) (o0 : f0.offset = 0) (k0 : P.cellsOf f0.type = 1) (hC : P.cellsOf t = 1)
    (hv : Value.okWide P w r b0 t v) (h : DataW.Trod enc P w base spare held t v d p) :
    ∃ (v0 : Value) (y0 : DataW H × List MemPlace) (n : Nat), v = .agg #[v0] ∧ DataW.trod enc P w base spare held n f0.type [v0] = some y0 := by
  obtain ⟨cs, rfl, hsz⟩ := okWide_struct hs hv
  obtain ⟨c0, rfl⟩ : ∃ c0, cs = #[c0] := by
    have h1 : cs.size = 1 := hsz.trans hC
    exact Array.size_eq_one_iff.1 h1
  obtain ⟨fuel, hf⟩ := h
  obtain ⟨xs, k, hk, hxy, _, hxl, hf'⟩ := DataW.trod_struct hs hf
  match xs, hxl with
  | [y0], _ =>
    have g0 := hf' 0 f0 rfl
    simp [o0, k0, Value.cells] at g0
    exact ⟨c0, y0, k, rfl, g0⟩
end
end Go.Proofs.YtnmaknnnmjfhkafGreat

namespace Go.Proofs.YtnmaknnnmjfhkafGreat
open Go.RowKit Go.ChangeShapes Go.WideShapes Go.Deep Go.Joins
set_option linter.unusedVariables false
set_option linter.unusedSimpArgs false
section
variable {H : Type} {enc : TypeId × Value → H} {w : World} {base : Nat} {spare : Nat → Bool} {held : Bool}
theorem openS {P : Program} {t : TypeId} {f0 : Field} {n : Nat} {cs : List Value} {x : DataW H × List MemPlace} (hs : P.underlying t = some (.struct #[f0])) (o0 : f0.offset = 0) (k0 : P.cellsOf f0.type = 1) (hC : P.cellsOf t = 1) (h : DataW.trod enc P w base spare held n t cs = some x) :
    ∃ (c0 : Value) (y0 : DataW H × List MemPlace) (m : Nat), cs = [c0] ∧ DataW.trod enc P w base spare held m f0.type [c0] = some y0 := by
  obtain ⟨xs, m, _, _, hl, hxl, hf⟩ := DataW.trod_struct hs h
  rw [hC] at hl
  match cs, hl, xs, hxl with
  | [c0], _, [y0], _ =>
    have g0 := hf 0 f0 rfl
    rw [o0, k0] at g0
    exact ⟨c0, y0, m, rfl, g0⟩
theorem cells2' : Tryz.prog.cellsOf 126 = 2 := by kernel_rfl
theorem state_of_trod {n : Nat} {cs : List Value} {x : DataW H × List MemPlace} (h : DataW.trod enc Tryz.prog w base spare held n 26 cs = some x) : ∃ a rs c, cs = [.slice a rs.length c] ∧ Prs w a rs ∧ rs.length ≤ maxLen ∧ (∀ s ∈ rs, s.1.size ≤ maxLen ∧ s.2.size ≤ maxLen) := by
  obtain ⟨c0, y0, m, rfl, g0⟩ := openS Tryz.underlying26 rfl (by kernel_rfl) (by kernel_rfl) h
  obtain ⟨a, rs, c, rfl, h1, h2, h3⟩ := prs_of_trod Tryz.underlying24 Tryz.underlying126 cells2' rfl rfl (by kernel_rfl) (by kernel_rfl) Tryz.underlying9 Tryz.underlying9 g0
  exact ⟨a, rs, c, rfl, h1, h2, h3⟩
theorem int_of_trod {n : Nat} {v : Value} {x : DataW H × List MemPlace} (h : DataW.trod enc Tryz.prog w base spare held n 3 [v] = some x) : ∃ a, v = .int .i64 a := by
  obtain ⟨a, e, _, _⟩ := DataW.trod_int Tryz.underlying3 h
  simp at e
  exact ⟨a, e⟩
end
end Go.Proofs.YtnmaknnnmjfhkafGreat

namespace Go.Proofs.YtnmaknnnmjfhkafGreat
open Go.RowKit Go.ChangeShapes Go.WideShapes Go.Deep Go.Joins
set_option linter.unusedVariables false
set_option linter.unusedSimpArgs false
section
variable {H : Type} {enc : TypeId × Value → H} {w : World} {base : Nat} {spare : Nat → Bool} {held : Bool}
theorem openR {P : Program} {t : TypeId} {f0 f1 f2 f3 : Field} {n : Nat} {cs : List Value} {x : DataW H × List MemPlace} (hs : P.underlying t = some (.struct #[f0, f1, f2, f3])) (o0 : f0.offset = 0) (o1 : f1.offset = 1) (o2 : f2.offset = 2) (o3 : f3.offset = 3) (k0 : P.cellsOf f0.type = 1) (k1 : P.cellsOf f1.type = 1) (k2 : P.cellsOf f2.type = 1) (k3 : P.cellsOf f3.type = 1) (hC : P.cellsOf t = 4) (h : DataW.trod enc P w base spare held n t cs = some x) :
    ∃ (c0 c1 c2 c3 : Value) (y0 y1 y2 y3 : DataW H × List MemPlace) (m : Nat), cs = [c0, c1, c2, c3] ∧ DataW.trod enc P w base spare held m f0.type [c0] = some y0 ∧ DataW.trod enc P w base spare held m f1.type [c1] = some y1 ∧ DataW.trod enc P w base spare held m f2.type [c2] = some y2 ∧ DataW.trod enc P w base spare held m f3.type [c3] = some y3 := by
  obtain ⟨xs, m, _, _, hl, hxl, hf⟩ := DataW.trod_struct hs h
  rw [hC] at hl
  match cs, hl, xs, hxl with
  | [c0, c1, c2, c3], _, [y0, y1, y2, y3], _ =>
    have g0 := hf 0 f0 rfl
    rw [o0, k0] at g0
    have g1 := hf 1 f1 rfl
    rw [o1, k1] at g1
    have g2 := hf 2 f2 rfl
    rw [o2, k2] at g2
    have g3 := hf 3 f3 rfl
    rw [o3, k3] at g3
    exact ⟨c0, c1, c2, c3, y0, y1, y2, y3, m, rfl, g0, g1, g2, g3⟩
theorem openT {P : Program} {t : TypeId} {f0 f1 f2 f3 f4 f5 f6 : Field} {n : Nat} {cs : List Value} {x : DataW H × List MemPlace} (hs : P.underlying t = some (.struct #[f0, f1, f2, f3, f4, f5, f6])) (o0 : f0.offset = 0) (o1 : f1.offset = 1) (o2 : f2.offset = 2) (o3 : f3.offset = 3) (o4 : f4.offset = 7) (o5 : f5.offset = 8) (o6 : f6.offset = 9) (k0 : P.cellsOf f0.type = 1) (k1 : P.cellsOf f1.type = 1) (k2 : P.cellsOf f2.type = 1) (k3 : P.cellsOf f3.type = 4) (k4 : P.cellsOf f4.type = 1) (k5 : P.cellsOf f5.type = 1) (k6 : P.cellsOf f6.type = 1) (hC : P.cellsOf t = 10) (h : DataW.trod enc P w base spare held n t cs = some x) :
    ∃ (c0 c1 c2 c3 c4 c5 c6 c7 c8 c9 : Value) (y0 y1 y2 y3 y4 y5 y6 : DataW H × List MemPlace) (m : Nat), cs = [c0, c1, c2, c3, c4, c5, c6, c7, c8, c9] ∧ DataW.trod enc P w base spare held m f0.type [c0] = some y0 ∧ DataW.trod enc P w base spare held m f1.type [c1] = some y1 ∧ DataW.trod enc P w base spare held m f2.type [c2] = some y2 ∧ DataW.trod enc P w base spare held m f3.type [c3, c4, c5, c6] = some y3 ∧ DataW.trod enc P w base spare held m f4.type [c7] = some y4 ∧ DataW.trod enc P w base spare held m f5.type [c8] = some y5 ∧ DataW.trod enc P w base spare held m f6.type [c9] = some y6 := by
  obtain ⟨xs, m, _, _, hl, hxl, hf⟩ := DataW.trod_struct hs h
  rw [hC] at hl
  match cs, hl, xs, hxl with
  | [c0, c1, c2, c3, c4, c5, c6, c7, c8, c9], _, [y0, y1, y2, y3, y4, y5, y6], _ =>
    have g0 := hf 0 f0 rfl
    rw [o0, k0] at g0
    have g1 := hf 1 f1 rfl
    rw [o1, k1] at g1
    have g2 := hf 2 f2 rfl
    rw [o2, k2] at g2
    have g3 := hf 3 f3 rfl
    rw [o3, k3] at g3
    have g4 := hf 4 f4 rfl
    rw [o4, k4] at g4
    have g5 := hf 5 f5 rfl
    rw [o5, k5] at g5
    have g6 := hf 6 f6 rfl
    rw [o6, k6] at g6
    exact ⟨c0, c1, c2, c3, c4, c5, c6, c7, c8, c9, y0, y1, y2, y3, y4, y5, y6, m, rfl, g0, g1, g2, g3, g4, g5, g6⟩
theorem root_of_trod {n : Nat} {cs : List Value} {x : DataW H × List MemPlace} (h : DataW.trod enc Tryz.prog w base spare held n 23 cs = some x) : ∃ T Hh F R, cs = [.int .i64 T, .int .i64 Hh, .int .i64 F, .int .i64 R] := by
  obtain ⟨c0, c1, c2, c3, y0, y1, y2, y3, m, rfl, g0, g1, g2, g3⟩ := openR Tryz.underlying23 rfl rfl rfl rfl (by kernel_rfl) (by kernel_rfl) (by kernel_rfl) (by kernel_rfl) (by kernel_rfl) h
  obtain ⟨a0, rfl⟩ := int_of_trod g0
  obtain ⟨a1, rfl⟩ := int_of_trod g1
  obtain ⟨a2, rfl⟩ := int_of_trod g2
  obtain ⟨a3, rfl⟩ := int_of_trod g3
  exact ⟨a0, a1, a2, a3, rfl⟩
theorem store_of_trod {n : Nat} {cs : List Value} {x : DataW H × List MemPlace} (h : DataW.trod enc Tryz.prog w base spare held n 28 cs = some x) : ∃ W S L T Hh F R U O a rs c, cs = [.int .i64 W, .int .i64 S, .int .i64 L, .int .i64 T, .int .i64 Hh, .int .i64 F, .int .i64 R, .int .i64 U, .int .i64 O, .slice a rs.length c] ∧ Prs w a rs ∧ rs.length ≤ maxLen ∧ (∀ s ∈ rs, s.1.size ≤ maxLen ∧ s.2.size ≤ maxLen) := by
  obtain ⟨c0, c1, c2, c3, c4, c5, c6, c7, c8, c9, y0, y1, y2, y3, y4, y5, y6, m, rfl, g0, g1, g2, g3, g4, g5, g6⟩ := openT Tryz.underlying28 rfl rfl rfl rfl rfl rfl rfl (by kernel_rfl) (by kernel_rfl) (by kernel_rfl) (by kernel_rfl) (by kernel_rfl) (by kernel_rfl) (by kernel_rfl) (by kernel_rfl) h
  obtain ⟨a0, rfl⟩ := int_of_trod g0
  obtain ⟨a1, rfl⟩ := int_of_trod g1
  obtain ⟨a2, rfl⟩ := int_of_trod g2
  obtain ⟨T, Hh, F, R, e3⟩ := root_of_trod g3
  obtain ⟨a4, rfl⟩ := int_of_trod g4
  obtain ⟨a5, rfl⟩ := int_of_trod g5
  obtain ⟨a, rs, c, e6, h1, h2, h3⟩ := state_of_trod g6
  simp only [List.cons.injEq, and_true] at e3 e6
  obtain ⟨rfl, rfl, rfl, rfl⟩ := e3
  subst e6
  exact ⟨a0, a1, a2, T, Hh, F, R, a4, a5, a, rs, c, rfl, h1, h2, h3⟩
end
end Go.Proofs.YtnmaknnnmjfhkafGreat

namespace Go.Proofs.YtnmaknnnmjfhkafGreat
open Go.RowKit
set_option maxRecDepth 4000
set_option linter.unusedVariables false

theorem info_ch : (Tryz.prog.info? 78).map (fun i => (i.zero, i.size, i.bytes)) = some (some (.agg #[.string ByteArray.empty, .string ByteArray.empty, .bool false]), 3, 40) := by kernel_rfl
set_option maxHeartbeats 400000 in
theorem sz_ch (s0 : ByteArray) (s1 : ByteArray) (g2 : Bool) (left : Int) (w : World) (h0 : 0 ≤ left) (h1 : left ≤ 1048576) (hs0 : s0.size ≤ 9223372036854775807) (hs1 : s1.size ≤ 9223372036854775807) :
    Calls Tryz.prog 35 #[.agg #[.string s0, .string s1, .bool g2], .int .i64 left] w fun e w' => e = .returned (.int .i64 (szL [s0.size, s1.size] left)) ∧ Below w.heap.size w w' := by
  by_cases c0 : left - (s0.size : Int) < 0
  · have HE : szL [s0.size, s1.size] left = -1 := by simp [szL, c0]
    go_enter Tryz.func35, Tryz.ntmps35
    go_wp2
    go_ret
    exact ⟨ret_int (by first | rfl | exact HE.symm), (Below.refl _ _).alloc (Nat.le_refl _) _⟩
  · by_cases c1 : left - (s0.size : Int) - (s1.size : Int) < 0
    · have HE : szL [s0.size, s1.size] left = -1 := by simp [szL, c0, c1]
      go_enter Tryz.func35, Tryz.ntmps35
      go_wp2
      go_ret
      exact ⟨ret_int (by first | rfl | exact HE.symm), (Below.refl _ _).alloc (Nat.le_refl _) _⟩
    · have HE : szL [s0.size, s1.size] left = left - (s0.size : Int) - (s1.size : Int) := by simp [szL, c0, c1]
      go_enter Tryz.func35, Tryz.ntmps35
      go_wp2
      go_ret
      exact ⟨ret_int (by first | rfl | exact HE.symm), (Below.refl _ _).alloc (Nat.le_refl _) _⟩

set_option maxHeartbeats 400000 in
theorem sz_chs (a : Option Addr) (rs : List (ByteArray × ByteArray × Bool)) (c : Nat) (left : Int) (w : World) (h : Chs w a rs) (h0 : 0 ≤ left) (h1 : left ≤ 1048576) (hl : rs.length ≤ maxLen) (hs : ∀ s ∈ rs, s.1.size ≤ maxLen ∧ s.2.1.size ≤ maxLen) :
    Calls Tryz.prog 14 #[.slice a rs.length c, .int .i64 left] w fun e w' => e = .returned (.int .i64 (szL (rs.length :: rs.flatMap chsz) left)) ∧ Below w.heap.size w w' := by
  unfold maxLen at hl
  by_cases hn : left - (rs.length : Int) < 0
  · have HR := hid (szL_cons_lt (rs.flatMap chsz) hn)
    go_enter Tryz.func14, Tryz.ntmps14
    go_wp2
    go_ret
    exact ⟨ret_int HR.out.symm, Below.refl _ _⟩
  · have HR := hid (szL_cons_ge (rs.flatMap chsz) hn)
    obtain ⟨R, HE⟩ : ∃ R, Hid (R = szL (rs.length :: rs.flatMap chsz) left) := ⟨_, hid rfl⟩
    rw [← HE.out]
    go_enter Tryz.func14, Tryz.ntmps14
    go_wp2
    go_loopw [1, 5] (fun x i wr => ∃ (k : Nat) (y : Int), k ≤ rs.length ∧ i = .int .i64 k ∧ x = .int .i64 y ∧ 0 ≤ y ∧ y ≤ 1048576 ∧ Hid (szL ((rs.drop k).flatMap chsz) y = R) ∧ Below w.heap.size w wr) (fun _ i _ => rs.length - (intOf i).toNat)
    case atStart => exact ⟨0, _, Nat.zero_le _, rfl, rfl, by omega, by omega, by show _ = _; rw [HE.out, HR.out, List.drop_zero], Below.refl _ _⟩
    case round =>
      obtain ⟨k, y, hk, rfl, rfl, hy0, hy1, HZ, hbel⟩ := hrel
      by_cases hlt : k < rs.length
      · obtain ⟨b, o, s0, s1, g2, rfl, hc0, hc1, hc2, HS⟩ := (h.below hbel).at hlt
        obtain ⟨q0, q1⟩ : s0.size ≤ 9223372036854775807 ∧ s1.size ≤ 9223372036854775807 := by
          have := hs (s0, s1, g2) (by rw [HS.out]; simp [List.getD, hlt])
          unfold maxLen at this; exact this
        obtain ⟨y', HY⟩ : ∃ y', Hid (y' = szL [s0.size, s1.size] y) := ⟨_, hid rfl⟩
        have hbd := szL_bd [s0.size, s1.size] y hy0
        rw [← HY.out] at hbd
        have HD : Hid (szL ((rs.drop k).flatMap chsz) y = szL ([s0.size, s1.size] ++ (rs.drop (k + 1)).flatMap chsz) y) := by
          show _ = _
          rw [drop_at rs k (ByteArray.empty, ByteArray.empty, false) hlt, ← HS.out]
          rfl
        by_cases hy : y' < 0
        · have hy2 : y' = -1 := by omega
          have HN := hid (szL_append_no [s0.size, s1.size] ((rs.drop (k + 1)).flatMap chsz) y hy0 (by rw [← HY.out]; exact hy))
          clear hbd
          subst hy2
          go_wp2_with (go_at_call 35; refine (sz_ch s0 s1 g2 y _ hy0 hy1 q0 q1).mono ?_; rw [← HY.out]; rintro e w2 ⟨rfl, hb2⟩)
          go_ret
          refine ⟨ret_int ?_, hbel.trans (hb2.mono hbel.size)⟩
          rw [← HZ.out, HD.out, HN.out]
        · have hy2 : 0 ≤ y' := by omega
          have hy3 : y' ≤ 1048576 := by omega
          have HN := hid (szL_append_yes [s0.size, s1.size] ((rs.drop (k + 1)).flatMap chsz) y hy0 (by rw [← HY.out]; exact hy2))
          clear hbd
          go_wp2_with (go_at_call 35; refine (sz_ch s0 s1 g2 y _ hy0 hy1 q0 q1).mono ?_; rw [← HY.out]; rintro e w2 ⟨rfl, hb2⟩)
          go_roundw
          case rel => exact ⟨k + 1, _, by omega, by go_num, rfl, by omega, by omega, by show _ = _; rw [← HZ.out, HD.out, HN.out, ← HY.out], hbel.trans (hb2.mono hbel.size)⟩
          case measure => simp [intOf]; omega
      · go_wp2
        go_ret
        refine ⟨ret_int ?_, hbel⟩
        rw [← HZ.out, List.drop_of_length_le (by omega)]
        rfl

set_option maxHeartbeats 400000 in
theorem to_ch (s0 : ByteArray) (s1 : ByteArray) (g2 : Bool) (w : World) :
    Calls Tryz.prog 44 #[.agg #[.string s0, .string s1, .bool g2]] w fun e w' => e = .returned (.agg #[.string s0, .string s1, .bool g2]) ∧ Below w.heap.size w w' := by
  go_enter Tryz.func44, Tryz.ntmps44
  go_wp2
  exact bodyPost_ret (v := .agg #[.string s0, .string s1, .bool g2]) (by simp [results, Tryz.results44, go_sem]) rfl ⟨rfl, (((Below.refl _ _).alloc (Nat.le_refl _) _).alloc (by simp) _).alloc (by simp; omega) _⟩

set_option maxHeartbeats 800000 in
theorem to_chs (a : Option Addr) (rs : List (ByteArray × ByteArray × Bool)) (c : Nat) (w : World) (h : Chs w a rs) (hl : rs.length ≤ 1048576) :
    Calls Tryz.prog 16 #[.slice a rs.length c] w fun e w' => ∃ g, e = .returned (.slice (some ⟨g, 0, none⟩) rs.length rs.length) ∧ w.heap.size ≤ g ∧ Row w' g (chcells rs) ∧ Below w.heap.size w w' := by
  go_enter Tryz.func16, Tryz.ntmps16
  go_wp2_with (at_make; refine wpList_make_new rfl _ _ 49 rfl 78 _ 3 _ Tryz.underlying49 info_ch rs.length rfl rfl (by omega) (by omega) ?_; intro wx hrow hbx hsx; rw [made_chs] at hrow)
  have hr0 : Row wx w.heap.size (chupTo rs 0) := by simpa [chupTo, chcells_nil] using hrow
  clear hrow
  go_loopw [4] (fun i wr => ∃ k : Nat, k ≤ rs.length ∧ i = .int .i64 k ∧ Row wr w.heap.size (chupTo rs k) ∧ Below w.heap.size w wr) (fun i _ => rs.length - (intOf i).toNat)
  case atStart => exact ⟨0, Nat.zero_le _, rfl, hr0, hbx⟩
  case round =>
    obtain ⟨k, hk, rfl, hrow, hbel⟩ := hrel
    by_cases hlt : k < rs.length
    · obtain ⟨b, o, s0, s1, g2, rfl, hc0, hc1, hc2, HS⟩ := (h.below hbel).at hlt
      have HB := hid hbel
      have HR := hid hrow
      clear hrow hbel
      go_wp2_with (go_at_call 44; refine (to_ch s0 s1 g2 _).mono ?_; rintro e w2 ⟨rfl, hb2⟩; have hr2 := HR.out.below hb2; have hl2 := chupTo_length rs k hk; obtain ⟨u0, hu0⟩ : ∃ u, w2.cell? ⟨w.heap.size, k * 3, none⟩ = some u := ⟨_, hr2.cell (k * 3) _ (List.getElem?_eq_getElem (by omega))⟩; obtain ⟨u1, hu1⟩ : ∃ u, w2.cell? ⟨w.heap.size, k * 3 + 1, none⟩ = some u := ⟨_, hr2.cell (k * 3 + 1) _ (List.getElem?_eq_getElem (by omega))⟩; obtain ⟨u2, hu2⟩ : ∃ u, w2.cell? ⟨w.heap.size, k * 3 + 2, none⟩ = some u := ⟨_, hr2.cell (k * 3 + 2) _ (List.getElem?_eq_getElem (by omega))⟩; have hf0 := hr2.froz (k * 3) (by omega); have hf1 := hr2.froz (k * 3 + 1) (by omega); have hf2 := hr2.froz (k * 3 + 2) (by omega); have HR2 := hid hr2; have HL2 := hid hl2; clear hr2 hl2)
      have hrs := ((HR2.out.set (k * 3) (by rw [HL2.out]; omega) (.string s0)).set (k * 3 + 1) (by rw [List.length_set, HL2.out]; omega) (.string s1)).set (k * 3 + 2) (by rw [List.length_set, List.length_set, HL2.out]; omega) (.bool g2)
      have hus : (((chupTo rs k).set (k * 3) (.string s0)).set (k * 3 + 1) (.string s1)).set (k * 3 + 2) (.bool g2) = chupTo rs (k + 1) := by
        have e := HS.out
        rw [show s0 = (rs.getD k (ByteArray.empty, ByteArray.empty, false)).1 by rw [← e], show s1 = (rs.getD k (ByteArray.empty, ByteArray.empty, false)).2.1 by rw [← e], show g2 = (rs.getD k (ByteArray.empty, ByteArray.empty, false)).2.2 by rw [← e]]
        exact chupTo_set rs k hlt
      rw [hus] at hrs
      go_roundw
      case rel => exact ⟨k + 1, by omega, by go_num, hrs, (((HB.out.trans (hb2.mono HB.out.size)).setCell (Nat.le_refl _) _).setCell (Nat.le_refl _) _).setCell (Nat.le_refl _) _⟩
      case measure => simp [intOf]; omega
    · go_wp2
      go_ret
      exact ⟨w.heap.size, rfl, Nat.le_refl _, by rw [← chupTo_all rs k (by omega)]; exact hrow, hbel⟩

end Go.Proofs.YtnmaknnnmjfhkafGreat

namespace Go.Proofs.YtnmaknnnmjfhkafGreat
open Go.RowKit
set_option maxRecDepth 4000
set_option linter.unusedVariables false

set_option maxHeartbeats 400000 in
theorem eq_ch (s0 : ByteArray) (s1 : ByteArray) (g2 : Bool) (w : World) :
    Calls Tryz.prog 53 #[.agg #[.string s0, .string s1, .bool g2], .agg #[.string s0, .string s1, .bool g2]] w fun e w' => e = .returned (.bool true) ∧ Below w.heap.size w w' := by
  go_enter Tryz.func53, Tryz.ntmps53
  go_wp2
  go_ret
  exact ⟨rfl, ((Below.refl _ _).alloc (Nat.le_refl _) _).alloc (by simp) _⟩

set_option maxHeartbeats 400000 in
theorem eq_chs (a b : Option Addr) (rs : List (ByteArray × ByteArray × Bool)) (c c' : Nat) (w : World) (h : Chs w a rs) (h' : Chs w b rs) (hl : rs.length ≤ 1048576) :
    Calls Tryz.prog 18 #[.slice a rs.length c, .slice b rs.length c'] w fun e w' => e = .returned (.bool true) ∧ Below w.heap.size w w' := by
  go_enter Tryz.func18, Tryz.ntmps18
  go_wp2
  go_loopw [5] (fun i wr => ∃ k : Nat, k ≤ rs.length ∧ i = .int .i64 k ∧ Below w.heap.size w wr) (fun i _ => rs.length - (intOf i).toNat)
  case atStart => exact ⟨0, Nat.zero_le _, rfl, Below.refl _ _⟩
  case round =>
    obtain ⟨k, hk, rfl, hbel⟩ := hrel
    by_cases hlt : k < rs.length
    · obtain ⟨b1, o1, s0, s1, g2, rfl, hc0, hc1, hc2, HS⟩ := (h.below hbel).at hlt
      obtain ⟨b2, o2, s0x, s1x, g2x, rfl, hd0, hd1, hd2, HS'⟩ := (h'.below hbel).at hlt
      obtain ⟨rfl, rfl, rfl⟩ : s0 = s0x ∧ s1 = s1x ∧ g2 = g2x := by have := HS.out.trans HS'.out.symm; simpa using this
      have hk1 : (k : Int) < (rs.length : Int) := by omega
      have hk0 : (0 : Int) ≤ (k : Int) := by omega
      have lt1 : b1 < wr.heap.size := by have := World.block_lt_of_cell? wr _ hc0; simpa using this
      have lt2 : b2 < wr.heap.size := by have := World.block_lt_of_cell? wr _ hd0; simpa using this
      have HQ : Hid (wr.cell? ⟨b1, o1 + k * 3, none⟩ = some (.string s0) ∧ wr.cell? ⟨b1, o1 + k * 3 + 1, none⟩ = some (.string s1) ∧ wr.cell? ⟨b1, o1 + k * 3 + 2, none⟩ = some (.bool g2) ∧ wr.cell? ⟨b2, o2 + k * 3, none⟩ = some (.string s0) ∧ wr.cell? ⟨b2, o2 + k * 3 + 1, none⟩ = some (.string s1) ∧ wr.cell? ⟨b2, o2 + k * 3 + 2, none⟩ = some (.bool g2)) := ⟨hc0, hc1, hc2, hd0, hd1, hd2⟩
      clear HS HS' hc0 hc1 hc2 hd0 hd1 hd2
      go_wp2_with fail
      go_region_held3 (fun w' => w'.cell? ⟨b1, o1 + k * 3, none⟩ = some (.string s0) ∧ w'.cell? ⟨b1, o1 + k * 3 + 1, none⟩ = some (.string s1) ∧ w'.cell? ⟨b1, o1 + k * 3 + 2, none⟩ = some (.bool g2) ∧ w'.cell? ⟨b2, o2 + k * 3, none⟩ = some (.string s0) ∧ w'.cell? ⟨b2, o2 + k * 3 + 1, none⟩ = some (.string s1) ∧ w'.cell? ⟨b2, o2 + k * 3 + 2, none⟩ = some (.bool g2))
        (first | assumption | exact HQ.out | exact ⟨(hb2.cell (p := ⟨b1, _, none⟩) lt1).trans HQ.out.1, (hb2.cell (p := ⟨b1, _, none⟩) lt1).trans HQ.out.2.1, (hb2.cell (p := ⟨b1, _, none⟩) lt1).trans HQ.out.2.2.1, (hb2.cell (p := ⟨b2, _, none⟩) lt2).trans HQ.out.2.2.2.1, (hb2.cell (p := ⟨b2, _, none⟩) lt2).trans HQ.out.2.2.2.2.1, (hb2.cell (p := ⟨b2, _, none⟩) lt2).trans HQ.out.2.2.2.2.2⟩)
        (first | (go_at_call 53; refine (eq_ch s0 s1 g2 _).mono ?_; rintro e w2 ⟨rfl, hb2⟩))
      go_wp2
      go_roundw
      case rel => exact ⟨k + 1, by omega, by go_num, hbel.drew.trans (hb2.mono hbel.size)⟩
      case measure => simp [intOf]; omega
    · go_wp2
      go_ret
      exact ⟨rfl, hbel⟩
end Go.Proofs.YtnmaknnnmjfhkafGreat

namespace Go.Proofs.YtnmaknnnmjfhkafGreat
open Go.RowKit Go.ChangeShapes Go.WideShapes Go.Deep
section
variable {H : Type} {enc : TypeId × Value → H} {P : Program} {w : World} {base : Nat} {spare : Nat → Bool} {held : Bool}
theorem chs_of_trod {t e : TypeId} {f0 f1 f2 : Field} {fuel : Nat} {v : Value} {x : DataW H × List MemPlace} (ht : P.underlying t = some (.slice e)) (he : P.underlying e = some (.struct #[f0, f1, f2]))
    (ce : P.cellsOf e = 3) (o0 : f0.offset = 0) (o1 : f1.offset = 1) (o2 : f2.offset = 2) (c0 : P.cellsOf f0.type = 1) (c1 : P.cellsOf f1.type = 1) (c2 : P.cellsOf f2.type = 1) (t0 : P.underlying f0.type = some .string) (t1 : P.underlying f1.type = some .string) (t2 : P.underlying f2.type = some .bool)
    (h : DataW.trod enc P w base spare held fuel t [v] = some x) : ∃ a rs c, v = .slice a rs.length c ∧ Chs w a rs ∧ rs.length ≤ maxLen ∧ (∀ s ∈ rs, s.1.size ≤ maxLen ∧ s.2.1.size ≤ maxLen) := by
  rcases open_slice ht h with ⟨hcs, _⟩ | ⟨a, len, cap, m, n, D, Pl, hcs, hb, hl, hm, hmm, _, hx⟩
  · simp at hcs
    exact ⟨none, [], 0, by simpa using hcs, .inl rfl, by simp, by simp⟩
  · simp at hcs
    have hlm : len ≤ m := by rw [hmm]; split <;> omega
    have each : ∀ i, i < len → ∃ q : ByteArray × ByteArray × Bool, w.cell? (a.add (i * 3)) = some (.string q.1) ∧ w.cell? (a.add (i * 3 + 1)) = some (.string q.2.1) ∧ w.cell? (a.add (i * 3 + 2)) = some (.bool q.2.2) ∧ q.1.size ≤ maxLen ∧ q.2.1.size ≤ maxLen := by
      intro i hi
      obtain ⟨cs', h1, h2⟩ := hx i (by omega)
      rw [ce] at h1
      obtain ⟨_, hlen, hcell⟩ := World.cells?_some h1
      obtain ⟨xs, k, hk, hxy, _, hxl, hf⟩ := DataW.trod_struct he h2
      match xs, hxl, cs', hlen with
      | [y0, y1, y2], _, [v0, v1, v2], _ =>
        have g0 := hf 0 f0 rfl
        have g1 := hf 1 f1 rfl
        have g2 := hf 2 f2 rfl
        simp [o0, o1, o2, c0, c1, c2] at g0 g1 g2
        have e0 := hcell 0 (by omega)
        have e1 := hcell 1 (by omega)
        have e2 := hcell 2 (by omega)
        rw [add_add] at e0 e1 e2
        obtain ⟨z0, ez0, _, wz0⟩ := DataW.trod_string t0 g0
        simp at ez0
        subst ez0
        obtain ⟨z1, ez1, _, wz1⟩ := DataW.trod_string t1 g1
        simp at ez1
        subst ez1
        obtain ⟨z2, ez2, _⟩ := DataW.trod_bool t2 g2
        simp at ez2
        subst ez2
        exact ⟨(z0, z1, z2), by simpa using e0, by simpa using e1, by simpa using e2, wz0, wz1⟩
    obtain ⟨q, hq⟩ := choose_lt each
    have e1 : ((List.range len).map q).length = len := by simp
    refine ⟨some a, (List.range len).map q, cap, by rw [e1]; exact hcs, ?_, by omega, fun s hs => ?_⟩
    · by_cases h0 : len = 0
      · exact .inl (by subst h0; simp)
      · have hq0 := (hq 0 (by omega)).1
        obtain ⟨b, o, rfl⟩ := add_none hq0 ⟨_, hq0⟩
        have hb := World.block_lt_of_cell? w _ hq0
        rw [add_mk] at hb
        refine .inr ⟨b, o, rfl, hb, fun i hi => ?_⟩
        rw [e1] at hi
        obtain ⟨h0, h1, h2, _⟩ := hq i hi
        rw [add_mk] at h0 h1 h2
        have eg : ((List.range len).map q).getD i (ByteArray.empty, ByteArray.empty, false) = q i := by simp [List.getD, hi]
        rw [eg]
        exact ⟨h0, by rw [Nat.add_assoc]; exact h1, by rw [Nat.add_assoc]; exact h2⟩
    · obtain ⟨i, hi, rfl⟩ := List.mem_map.1 hs
      exact (hq i (by simpa using hi)).2.2.2
end
end Go.Proofs.YtnmaknnnmjfhkafGreat

namespace Go.Proofs.YtnmaknnnmjfhkafGreat
open Go.RowKit
set_option maxRecDepth 4000
set_option linter.unusedVariables false
set_option linter.unusedSimpArgs false

theorem getx {w : World} {g : Nat} {cs : List Value} (h : Row w g cs) (i : Nat) (hi : i < cs.length) : (∃ u, w.cell? ⟨g, i, none⟩ = some u) ∧ w.frozen? ⟨g, i, none⟩ = false := ⟨⟨_, h.cell i _ (List.getElem?_eq_getElem hi)⟩, h.froz i hi⟩
def chm (m : Nat) : ByteArray × ByteArray × Bool := (mtext m, mtext (m + 1), decide ((m + 2) % 3 = 0))
def chmarks (k n : Nat) : List (ByteArray × ByteArray × Bool) := (List.range n).map fun i => chm (k + 3 * i)
theorem chmarks_length (k n : Nat) : (chmarks k n).length = n := by simp [chmarks]
theorem chmarks_succ (k n : Nat) : chmarks k (n + 1) = chmarks k n ++ [chm (k + 3 * n)] := by simp [chmarks, List.range_succ]
def chmixed (k i : Nat) (rs : List (ByteArray × ByteArray × Bool)) : List Value := chcells (chmarks k i ++ rs.drop i)
theorem chmixed_length (k i : Nat) (rs : List (ByteArray × ByteArray × Bool)) (h : i ≤ rs.length) : (chmixed k i rs).length = rs.length * 3 := by simp [chmixed, chcells_length, chmarks_length]; omega
theorem chmixed_set (k i : Nat) (rs : List (ByteArray × ByteArray × Bool)) (h : i < rs.length) : (((chmixed k i rs).set (i * 3) (.string (mtext (k + 3 * i)))).set (i * 3 + 1) (.string (mtext (k + 3 * i + 1)))).set (i * 3 + 2) (.bool (decide ((k + 3 * i + 2) % 3 = 0))) = chmixed k (i + 1) rs := by
  have el : (chcells (chmarks k i)).length = i * 3 := by rw [chcells_length, chmarks_length]
  unfold chmixed
  rw [chmarks_succ, drop_at rs i (ByteArray.empty, ByteArray.empty, false) h, chcells_append, chcells_append, chcells_append, List.set_append_right _ _ (by omega), List.set_append_right _ _ (by omega), List.set_append_right _ _ (by omega), el]
  simp [chcells, chm]

set_option maxHeartbeats 1600000 in
theorem mark_chs (a : Option Addr) (rs : List (ByteArray × ByteArray × Bool)) (c k : Nat) (w : World) (h : OwnS w a (chcells rs)) (hk : 0 < k) (hl : k + 3 * rs.length ≤ 100000000) :
    Calls Tryz.prog 19 #[.slice a rs.length c, .int .i64 (k : Int)] w fun e w' => e = .returned (.int .i64 ((k + 3 * rs.length : Nat) : Int)) ∧ w.grownBy w' (blk a rs.length) ∧ OwnS w' a (chcells (chmarks k rs.length)) := by
  by_cases hss : rs = []
  · skip
    subst hss
    go_enter Tryz.func19, Tryz.ntmps19
    go_wp2
    refine wp_loop_rounds 1 ?_
    rw [rounds_succ]
    go_wp2
    go_ret
    exact ⟨rfl, grown_refl _ _, .inl rfl⟩
  · obtain ⟨g, rfl, hrow⟩ := h.resolve_left (fun e => hss (by have := congrArg List.length e; rw [chcells_length, List.length_nil] at this; exact List.eq_nil_of_length_eq_zero (by omega)))
    rw [blk_pos g 0 rs.length (fun e => hss (List.eq_nil_of_length_eq_zero e))]
    have hr0 : Row w g (chmixed k 0 rs) := by simpa [chmixed, chmarks] using hrow
    clear hrow hss
    go_enter Tryz.func19, Tryz.ntmps19
    go_wp2
    go_loopw [1, 5] (fun x i wr => ∃ j m : Nat, j ≤ rs.length ∧ i = .int .i64 (j : Int) ∧ x = .int .i64 (m : Int) ∧ Hid (m = k + 3 * j) ∧ Row wr g (chmixed k j rs) ∧ w.grownBy wr (some g)) (fun _ i _ => rs.length - (intOf i).toNat)
    case atStart => exact ⟨0, k, Nat.zero_le _, rfl, rfl, hid rfl, hr0, grown_refl _ _⟩
    case round =>
      clear hr0
      obtain ⟨j, m, hj, rfl, rfl, HM, hrow, hgr⟩ := hrel
      have HR := hid hrow
      have HG := hid hgr
      clear hgr hrow
      by_cases hlt : j < rs.length
      · have HL := hid (chmixed_length k j rs hj)
        have hmj : (m : Int) ≤ 99999997 := by have := HM.out; omega
        have hmj0 : (0 : Int) < (m : Int) := by have := HM.out; omega
        go_wp2_with (first | (have _g := HR2; go_at_call 54; refine (mark_text' ((m : Int) + 1) (m + 1) (by omega) _ (by omega) (by omega)).mono ?_; rintro e w3 ⟨rfl, hb3⟩; have HR3 := hid ((HR2.out.set (j * 3) (by rw [HL.out]; omega) (.string (mtext m))).below hb3); have hu3 := getx HR3.out (j * 3 + 1) (by rw [List.length_set, HL.out]; omega); have hu4 := getx HR3.out (j * 3 + 2) (by rw [List.length_set, HL.out]; omega); obtain ⟨⟨u3, hu3⟩, hf3⟩ := hu3; obtain ⟨⟨u4, hu4⟩, hf4⟩ := hu4; have HG3 := hid (grown_trans (grown_set HG2.out _ _) (grown_of_below _ hb3)); clear hb3) | (go_at_call 54; refine (mark_text m _ (by omega) (by omega)).mono ?_; rintro e w2 ⟨rfl, hb2⟩; have HR2 := hid (HR.out.below hb2); have hu2 := getx HR2.out (j * 3) (by rw [HL.out]; omega); obtain ⟨⟨u2, hu2⟩, hf2⟩ := hu2; have HG2 := hid (grown_trans HG.out (grown_of_below _ hb2)); clear hb2))
        have hgn : (((m : Int) + 1 + 1) % 3 == 0) = decide ((m + 2) % 3 = 0) := by rw [Bool.eq_iff_iff]; simp; omega
        have hset : (((chmixed k j rs).set (j * 3) (.string (mtext m))).set (j * 3 + 1) (.string (mtext (m + 1)))).set (j * 3 + 2) (.bool (decide ((m + 2) % 3 = 0))) = chmixed k (j + 1) rs := by
          rw [HM.out]; exact chmixed_set k j rs hlt
        rw [hgn]
        refine ⟨⟨j + 1, m + 3, by omega, by go_num, by go_num, by show _ = _; have := HM.out; omega, ?_, grown_set (grown_set HG3.out _ _) _ _⟩, by simp [intOf]; omega⟩
        rw [← hset]
        exact (HR3.out.set (j * 3 + 1) (by rw [List.length_set, HL.out]; omega) _).set (j * 3 + 2) (by rw [List.length_set, List.length_set, HL.out]; omega) _
      · have hjl : Hid (j = rs.length) := by show _ = _; omega
        go_wp2
        go_ret
        refine ⟨ret_int (by rw [HM.out, hjl.out]), HG.out, .inr ⟨g, rfl, ?_⟩⟩
        have := HR.out
        rw [hjl.out] at this
        simpa [chmixed] using this

end Go.Proofs.YtnmaknnnmjfhkafGreat
