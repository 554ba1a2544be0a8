import Derived.Test.YtnmaknnnmjfhkadRows
import Derived.Test.YtnmaknnnmjfhkadNwD
import Derived.Test.YtnmaknnnmjfhkadCx
import Derived.WalkKit
import Derived.ProofKit
import Derived.OpenShut
import Derived.ShutString
import Derived.ChangeOld
import Derived.Below
namespace Go.Proofs.Ytnmaknnnmjfhkad.fnExactNewWorld
open Go.ChangeShapes Go.WideShapes Go.ChangeAt Go.RowKit
set_option linter.unusedVariables false

theorem own : ownKnob Try.prog.godebug = none := by kernel_rfl
theorem laidOut : laidOutB Try.prog = true := by kernel_rfl

open Go.Proofs.Ytnmaknnnmjfhkad.nw
/-- A block with these cells ahead. -/
structure Bq (w : World) (B : Nat) (cs : List Value) : Prop where
  lt : B < w.heap.size
  cell : ∀ i v, cs[i]? = some v → w.cell? ⟨B, i, none⟩ = some v
theorem Bq.below {w w' : World} {B : Nat} {cs : List Value} (h : Bq w B cs) (hb : Below w.heap.size w w') : Bq w' B cs :=
  ⟨Nat.lt_of_lt_of_le h.lt hb.size, fun i v hv => (hb.cell (p := ⟨B, i, none⟩) h.lt).trans (h.cell i v hv)⟩
theorem Bq.grown {w w' : World} {B : Nat} {cs : List Value} {r : Option Nat} (h : Bq w B cs) (hg : w.grownBy w' r) (hn : some B ≠ r) : Bq w' B cs :=
  ⟨Nat.lt_of_lt_of_le h.lt hg.size, fun i v hv => (World.cell?_of_block (a := ⟨B, i, none⟩) (hg.block B h.lt hn)).trans (h.cell i v hv)⟩
theorem Bq.new (w : World) (cs : Array Value) (t : TypeId) : Bq (w.alloc (.cells cs t)) w.heap.size cs.toList :=
  ⟨by simp, fun i v hv => by rw [World.cell?_alloc_at _ _ _ _ rfl]; simpa using hv⟩
theorem nops_blk {p : Option Addr} {m g : Nat} (hp : p = some ⟨g, 0, none⟩) (hne : nops m ≠ []) : blk p m = some g := by
  have hm0 : m ≠ 0 := fun e => hne (by rw [e]; rfl)
  subst hp; exact blk_pos _ _ _ hm0
theorem nops_ne {m : Nat} (h : m ≠ 0) : nops m ≠ [] := fun e => h (by have := congrArg List.length e; simpa using this)

set_option maxRecDepth 8000 in
set_option maxHeartbeats 16000000 in
theorem walk (n x : Int) (w : World) :
    Calls Try.prog 8 #[.int .i64 n, .int .i64 x] w fun e w' => e = .returned (.bool true) ∧ Below w.heap.size w w' := by
  have hm : nwM n x ≤ 1000 := by unfold nwM; split <;> omega
  have hl : (nwS n x).length ≤ 200 := by unfold nwS; split; exact newSS_len n; simp
  have HSP := hid (fun w' => nw_s n x w')
  have HIM := hid (fun w' => nw_i n x w')
  obtain ⟨ss, hss⟩ : ∃ ss, ss = nwS n x := ⟨_, rfl⟩
  obtain ⟨m, hmm⟩ : ∃ m, m = nwM n x := ⟨_, rfl⟩
  obtain ⟨wd, hwd⟩ : ∃ wd, wd = nwW n x := ⟨_, rfl⟩
  rw [← hss, ← hmm, ← hwd] at HSP HIM
  rw [← hss] at hl
  rw [← hmm] at hm
  clear hss hmm hwd
  have HEQ := hid (fun a c a' c' p cp b d b' d' q dq w' h1 h2 h3 h4 => eq_world wd ss m a c a' c' p cp b d b' d' q dq w' h1 h2 h3 h4 hl hm)
  have HMK := hid (fun a c a' c' p cp w' h1 h3 hap => mark_world wd ss m a c a' c' p cp 1 w' h1 h3 hap hl hm (by omega) (by omega))
  have HHD := hid (fun a c a' c' p cp w' h1 h3 => held_world wd ss m a c a' c' p cp 1 w' h1 h3 hl hm (by omega) (by omega))
  unfold NwPost at HSP HIM
  unfold worldV at HSP HIM HEQ HMK HHD
  obtain ⟨k2, HK2⟩ : ∃ k2 : Nat, Hid (k2 = 1 + ss.length) := ⟨_, hid rfl⟩
  rw [← HK2.out] at HMK HHD
  have hk0 : (0 : Int) ≤ (k2 : Int) := by omega
  go_enter Try.func8, Try.ntmps8
  go_wp2_with fail
  refine (HSP.out _).mono ?_
  rintro e w1 ⟨az, cz, bz, dz, pz, ez, rfl, hz1, hz2, hz3, hz4, hE⟩
  have hz5 := hz1.lt ss.length strs_ne
  have hz6 := hz2.lt m nops_ne
  have hEs := hE.size
  have hbn : Below w1.heap.size w1 (w1.alloc (.cells #[.int .i64 wd, .slice az ss.length cz, .slice bz 0 dz, .bool false, .int .i64 0, .int .i64 0, .int .i64 0, .int .i64 0, .int .i64 0, .int .i64 0, .int .i64 0, .int .i64 0, .int .i64 0, .slice none 0 0, .slice pz m ez, .slice none 0 0] 86)) := (Below.refl _ _).alloc (Nat.le_refl _) _
  have hZ := Bq.new w1 #[.int .i64 wd, .slice az ss.length cz, .slice bz 0 dz, .bool false, .int .i64 0, .int .i64 0, .int .i64 0, .int .i64 0, .int .i64 0, .int .i64 0, .int .i64 0, .int .i64 0, .int .i64 0, .slice none 0 0, .slice pz m ez, .slice none 0 0] 86
  have y1 := hz1.below hbn
  have y2 := hz2.below hbn
  have yE := hE.trans (hbn.mono hE.size)
  clear hz1 hz2 hE hbn hz3 hz4 HSP
  have HZ := hid hZ
  have Y1 := hid y1
  have Y2 := hid y2
  have YE := hid yE
  clear hZ y1 y2 yE
  as_aux_lemma =>
    go_wp2_with fail
    refine (HIM.out _).mono ?_
    rintro e w2 ⟨ag, cg, bg, dg, pg, eg, rfl, hg1, hg2, hg3, hg4, hb⟩
    have hs2 := hb.size
    simp only [World.size_alloc] at hg3 hg4 hs2
    have hg5 := hg1.lt ss.length strs_ne
    have hg6 := hg2.lt m nops_ne
    have hbn : Below w2.heap.size w2 (w2.alloc (.cells #[.int .i64 wd, .slice ag ss.length cg, .slice bg 0 dg, .bool false, .int .i64 0, .int .i64 0, .int .i64 0, .int .i64 0, .int .i64 0, .int .i64 0, .int .i64 0, .int .i64 0, .int .i64 0, .slice none 0 0, .slice pg m eg, .slice none 0 0] 86)) := (Below.refl _ _).alloc (Nat.le_refl _) _
    have hbb := hb.trans (hbn.mono hb.size)
    have HZ2 := hid (HZ.out.below hbb)
    have Y12 := hid (Y1.out.below hbb)
    have Y22 := hid (Y2.out.below hbb)
    have YE2 := hid (YE.out.trans (hbb.mono YE.out.size))
    have HG2 := hid (Bq.new w2 #[.int .i64 wd, .slice ag ss.length cg, .slice bg 0 dg, .bool false, .int .i64 0, .int .i64 0, .int .i64 0, .int .i64 0, .int .i64 0, .int .i64 0, .int .i64 0, .int .i64 0, .int .i64 0, .slice none 0 0, .slice pg m eg, .slice none 0 0] 86)
    have G12 := hid (hg1.below hbn)
    have G22 := hid (hg2.below hbn)
    clear hg1 hg2 hb hbn hbb HZ Y1 Y2 YE
    as_aux_lemma =>
      have q0 := HZ2.out.cell 0 _ rfl
      have q1 := HZ2.out.cell 1 _ rfl
      have q2 := HZ2.out.cell 2 _ rfl
      have q3 := HZ2.out.cell 3 _ rfl
      have q4 := HZ2.out.cell 4 _ rfl
      have q5 := HZ2.out.cell 5 _ rfl
      have q6 := HZ2.out.cell 6 _ rfl
      have q7 := HZ2.out.cell 7 _ rfl
      have q8 := HZ2.out.cell 8 _ rfl
      have q9 := HZ2.out.cell 9 _ rfl
      have q10 := HZ2.out.cell 10 _ rfl
      have q11 := HZ2.out.cell 11 _ rfl
      have q12 := HZ2.out.cell 12 _ rfl
      have q13 := HZ2.out.cell 13 _ rfl
      have q14 := HZ2.out.cell 14 _ rfl
      have q15 := HZ2.out.cell 15 _ rfl
      have qlt := HZ2.out.lt
      go_wp2_with fail
      clear q0 q1 q2 q3 q4 q5 q6 q7 q8 q9 q10 q11 q12 q13 q14 q15 qlt
      refine (HEQ.out _ _ _ _ _ _ _ _ _ _ _ _ _ G12.out.strs Y12.out.strs G22.out Y22.out).mono ?_
      rintro e w3 ⟨rfl, hb⟩
      have HZ3 := hid (HZ2.out.below hb)
      have Y13 := hid (Y12.out.below hb)
      have Y23 := hid (Y22.out.below hb)
      have YE3 := hid (YE2.out.trans (hb.mono YE2.out.size))
      have HG3 := hid (HG2.out.below hb)
      have G13 := hid (G12.out.below hb)
      have G23 := hid (G22.out.below hb)
      clear HZ2 Y12 Y22 YE2 HG2 G12 G22
      clear hb
      as_aux_lemma =>
        have q0 := HG3.out.cell 0 _ rfl
        have q1 := HG3.out.cell 1 _ rfl
        have q2 := HG3.out.cell 2 _ rfl
        have q3 := HG3.out.cell 3 _ rfl
        have q4 := HG3.out.cell 4 _ rfl
        have q5 := HG3.out.cell 5 _ rfl
        have q6 := HG3.out.cell 6 _ rfl
        have q7 := HG3.out.cell 7 _ rfl
        have q8 := HG3.out.cell 8 _ rfl
        have q9 := HG3.out.cell 9 _ rfl
        have q10 := HG3.out.cell 10 _ rfl
        have q11 := HG3.out.cell 11 _ rfl
        have q12 := HG3.out.cell 12 _ rfl
        have q13 := HG3.out.cell 13 _ rfl
        have q14 := HG3.out.cell 14 _ rfl
        have q15 := HG3.out.cell 15 _ rfl
        have qlt := HG3.out.lt
        go_wp2_with fail
        clear q0 q1 q2 q3 q4 q5 q6 q7 q8 q9 q10 q11 q12 q13 q14 q15 qlt
        refine (HMK.out _ _ _ _ _ _ _ G13.out G23.out (fun g hg j hj => (hg3 g hg).2 j hj)).mono ?_
        rintro e w4 ⟨rfl, hg, hM⟩
        have hgb : ∀ g, blk ag ss.length = some g → w1.heap.size + 1 ≤ g ∧ g < w2.heap.size := fun g hg => ⟨(hg3 g hg).1, hg5 g hg⟩
        have HZ4 := hid (HZ3.out.grown hg (fun e => by have := hgb _ e.symm; omega))
        have HG4 := hid (HG3.out.grown hg (fun e => by have := hgb _ e.symm; omega))
        have Y14 := hid (Y13.out.grown hg (fun g hg' hne e => by have h1 := hgb g e.symm; have h2 := hz5 g (by subst hg'; exact blk_pos _ _ _ (ne_of_strs hne)); omega))
        have Y24 := hid (Y23.out.grown hg (fun g hg' hne e => by have h1 := hgb g e.symm; have h2 := hz6 g (nops_blk hg' hne); omega))
        have G24 := hid (G23.out.grown hg (fun g hg' hne e => (hg3 g e.symm).2 g (nops_blk hg' hne) rfl))
        have G14 := hid hM
        have YE4 := hid (YE3.out.trans (grown_below hg YE3.out.size (fun g hg => by have := hgb g hg; omega)))
        clear hg hM HZ3 HG3 Y13 Y23 G13 G23 YE3 hgb HMK
        as_aux_lemma =>
          have q0 := HG4.out.cell 0 _ rfl
          have q1 := HG4.out.cell 1 _ rfl
          have q2 := HG4.out.cell 2 _ rfl
          have q3 := HG4.out.cell 3 _ rfl
          have q4 := HG4.out.cell 4 _ rfl
          have q5 := HG4.out.cell 5 _ rfl
          have q6 := HG4.out.cell 6 _ rfl
          have q7 := HG4.out.cell 7 _ rfl
          have q8 := HG4.out.cell 8 _ rfl
          have q9 := HG4.out.cell 9 _ rfl
          have q10 := HG4.out.cell 10 _ rfl
          have q11 := HG4.out.cell 11 _ rfl
          have q12 := HG4.out.cell 12 _ rfl
          have q13 := HG4.out.cell 13 _ rfl
          have q14 := HG4.out.cell 14 _ rfl
          have q15 := HG4.out.cell 15 _ rfl
          have qlt := HG4.out.lt
          go_wp2_with fail
          clear q0 q1 q2 q3 q4 q5 q6 q7 q8 q9 q10 q11 q12 q13 q14 q15 qlt
          refine (HHD.out _ _ _ _ _ _ _ G14.out G24.out).mono ?_
          rintro e w5 ⟨rfl, hb⟩
          have HZ5 := hid (HZ4.out.below hb)
          have Y15 := hid (Y14.out.below hb)
          have Y25 := hid (Y24.out.below hb)
          have YE5 := hid (YE4.out.trans (hb.mono YE4.out.size))
          have HG5 := hid (HG4.out.below hb)
          have G15 := hid (G14.out.below hb)
          have G25 := hid (G24.out.below hb)
          clear HZ4 Y14 Y24 YE4 HG4 G14 G24
          clear hb
          as_aux_lemma =>
            go_wp2_with fail
            refine (HIM.out _).mono ?_
            rintro e w6 ⟨ah, ch, bh, dh, ph, eh, rfl, hh1, hh2, _, _, hb⟩
            have hbn : Below w6.heap.size w6 (w6.alloc (.cells #[.int .i64 wd, .slice ah ss.length ch, .slice bh 0 dh, .bool false, .int .i64 0, .int .i64 0, .int .i64 0, .int .i64 0, .int .i64 0, .int .i64 0, .int .i64 0, .int .i64 0, .int .i64 0, .slice none 0 0, .slice ph m eh, .slice none 0 0] 86)) := (Below.refl _ _).alloc (Nat.le_refl _) _
            have hbb := hb.trans (hbn.mono hb.size)
            have K1 := hid (hh1.below hbn)
            have K2 := hid (hh2.below hbn)
            have HZ6 := hid (HZ5.out.below hbb)
            have Y16 := hid (Y15.out.below hbb)
            have Y26 := hid (Y25.out.below hbb)
            have YE6 := hid (YE5.out.trans (hbb.mono YE5.out.size))
            have HG6 := hid (HG5.out.below hbb)
            have G16 := hid (G15.out.below hbb)
            have G26 := hid (G25.out.below hbb)
            clear HZ5 Y15 Y25 YE5 HG5 G15 G25
            clear hh1 hh2 hb hbn hbb HIM
            as_aux_lemma =>
              have q0 := HZ6.out.cell 0 _ rfl
              have q1 := HZ6.out.cell 1 _ rfl
              have q2 := HZ6.out.cell 2 _ rfl
              have q3 := HZ6.out.cell 3 _ rfl
              have q4 := HZ6.out.cell 4 _ rfl
              have q5 := HZ6.out.cell 5 _ rfl
              have q6 := HZ6.out.cell 6 _ rfl
              have q7 := HZ6.out.cell 7 _ rfl
              have q8 := HZ6.out.cell 8 _ rfl
              have q9 := HZ6.out.cell 9 _ rfl
              have q10 := HZ6.out.cell 10 _ rfl
              have q11 := HZ6.out.cell 11 _ rfl
              have q12 := HZ6.out.cell 12 _ rfl
              have q13 := HZ6.out.cell 13 _ rfl
              have q14 := HZ6.out.cell 14 _ rfl
              have q15 := HZ6.out.cell 15 _ rfl
              have qlt := HZ6.out.lt
              go_wp2_with fail
              clear q0 q1 q2 q3 q4 q5 q6 q7 q8 q9 q10 q11 q12 q13 q14 q15 qlt
              refine (HEQ.out _ _ _ _ _ _ _ _ _ _ _ _ _ K1.out.strs Y16.out.strs K2.out Y26.out).mono ?_
              rintro e w7 ⟨rfl, hb⟩
              have HZ7 := hid (HZ6.out.below hb)
              have Y17 := hid (Y16.out.below hb)
              have Y27 := hid (Y26.out.below hb)
              have YE7 := hid (YE6.out.trans (hb.mono YE6.out.size))
              have HG7 := hid (HG6.out.below hb)
              have G17 := hid (G16.out.below hb)
              have G27 := hid (G26.out.below hb)
              clear HZ6 Y16 Y26 YE6 HG6 G16 G26
              clear hb K1 K2 HEQ
              as_aux_lemma =>
                have q0 := HG7.out.cell 0 _ rfl
                have q1 := HG7.out.cell 1 _ rfl
                have q2 := HG7.out.cell 2 _ rfl
                have q3 := HG7.out.cell 3 _ rfl
                have q4 := HG7.out.cell 4 _ rfl
                have q5 := HG7.out.cell 5 _ rfl
                have q6 := HG7.out.cell 6 _ rfl
                have q7 := HG7.out.cell 7 _ rfl
                have q8 := HG7.out.cell 8 _ rfl
                have q9 := HG7.out.cell 9 _ rfl
                have q10 := HG7.out.cell 10 _ rfl
                have q11 := HG7.out.cell 11 _ rfl
                have q12 := HG7.out.cell 12 _ rfl
                have q13 := HG7.out.cell 13 _ rfl
                have q14 := HG7.out.cell 14 _ rfl
                have q15 := HG7.out.cell 15 _ rfl
                have qlt := HG7.out.lt
                go_wp2_with fail
                clear q0 q1 q2 q3 q4 q5 q6 q7 q8 q9 q10 q11 q12 q13 q14 q15 qlt
                refine (HHD.out _ _ _ _ _ _ _ G17.out G27.out).mono ?_
                rintro e w8 ⟨rfl, hb⟩
                have HZ8 := hid (HZ7.out.below hb)
                have Y18 := hid (Y17.out.below hb)
                have Y28 := hid (Y27.out.below hb)
                have YE8 := hid (YE7.out.trans (hb.mono YE7.out.size))
                have HG8 := hid (HG7.out.below hb)
                have G18 := hid (G17.out.below hb)
                have G28 := hid (G27.out.below hb)
                clear HZ7 Y17 Y27 YE7 HG7 G17 G27
                clear hb HHD
                go_wp2
                go_ret
                exact ⟨rfl, YE8.out⟩

set_option maxRecDepth 100000 in
theorem lifted (os : Os) (started : os.Started) (H : Type) (enc : TypeId × Value → H) :
    ReturnsInHanded {} Try.checked os 8 .any (Rows.fnExactNewWorldSpec.pre6 enc Try.prog Try.f8 Rows.fnExactNewWorldRow.domain false) (Rows.fnExactNewWorldSpec.post enc Try.prog Try.f8 false true false false) := by
  refine returnsInHanded_of_change (C := Try.checked) own started (by kernel_rfl) Try.func8
    (ChangeSpec.witness6 (enc := enc) (C := Try.checked) false ⟨#[], #[.int .i64 0, .int .i64 0], []⟩ 8 (by kernel_rfl) (by kernel_rfl) (by kernel_rfl) (by kernel_rfl)) ?_
  intro W base args ds gs before hval0 hW hcnd _
  have hval : ∀ (j : Nat) t v, Try.f8.params[j]? = some t → args[j]? = some v → Value.okWide Try.prog W .any base t v := hval0
  have hW' := hW
  obtain ⟨p, q, hA0, hV, rfl, hfz, hnd⟩ := hW
  have hA : DataW.TrodAll enc Try.prog W 0 (fun _ => true) true Try.f8.params.toList args.toList ds p := hA0
  rw [Try.params8] at hA hval
  obtain ⟨v0, vs0, d0, ds0, p0, q0, hargs, rfl, rfl, h0, r0⟩ := trodAll_cons hA
  obtain ⟨v1, vs1, d1, ds1, p1, q1, rfl, rfl, rfl, h1, r1⟩ := trodAll_cons r0
  obtain ⟨rfl, rfl, rfl⟩ := trodAll_nil r1
  obtain rfl : args = #[v0, v1] := by cases args; simp_all
  obtain ⟨rfl, rfl⟩ := trodVars_none hV
  obtain ⟨b1, rfl, rfl, rfl, w1⟩ := open_int Try.underlying3 (hval 0 3 v0 rfl rfl) h0
  obtain ⟨b2, rfl, rfl, rfl, w2⟩ := open_int Try.underlying3 (hval 1 3 v1 rfl rfl) h1
  clear hA0 hval0
  simp only [List.append_nil] at hW'
  refine (walk b1 b2 W).mono fun e W' ⟨he, bel⟩ => ?_
  subst he
  exact ⟨_, rfl, _, _, _, [], _, [], hW', trodAll_mk1 (shut_bool Try.underlying4 _), (trodAll_cons_mk (shut_int Try.underlying3 w1) (trodAll_cons_mk (shut_int Try.underlying3 w2) trodAll_mk0)), rfl, bel.frame _, fun h => by cases h⟩

theorem over : Rows.fnExactNewWorldRow.holds Try.pinned (OpenSpec.ofChange Rows.fnExactNewWorldSpec) :=
  OpenClaim.holds_of_wide 8 Try.f8 rfl rfl rfl rfl rfl rfl rfl ⟨rfl, rfl, rfl, rfl, rfl⟩ rfl rfl rfl rfl rfl (by kernel_rfl) Try.func8 (by kernel_rfl)
    (of_decide_eq_true (by kernel_rfl)) (by unfold Func.isWrapper; first | (rw [if_pos (by decide +kernel)]; kernel_rfl) | (rw [if_neg (by decide +kernel)]; exact ⟨rfl, rfl⟩))
    (fun os started H enc _ => lifted os started H enc)

theorem proved : Rows.FnExactNewWorldSaid := over
#print axioms proved
end Go.Proofs.Ytnmaknnnmjfhkad.fnExactNewWorld
