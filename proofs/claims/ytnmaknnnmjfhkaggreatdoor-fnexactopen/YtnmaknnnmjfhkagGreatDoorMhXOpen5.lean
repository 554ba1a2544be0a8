import Derived.Test.YtnmaknnnmjfhkagGreatDoorQhxOpenVStS
import Derived.Test.YtnmaknnnmjfhkagGreatDoorQhxOpenCutB
import Derived.Test.YtnmaknnnmjfhkagGreatDoorMhXOpen2
import Derived.Test.YtnmaknnnmjfhkagGreatDoorQhxOpenRbP
import Derived.Test.YtnmaknnnmjfhkagGreatDoorMhXOpen4
import Derived.Test.YtnmaknnnmjfhkagGreatDoorQhxOpenApT
import Derived.Test.YtnmaknnnmjfhkagGreatDoorQhxOpenRbS
import Derived.Test.YtnmaknnnmjfhkagGreatDoorMhXOpen3
import Derived.Test.YtnmaknnnmjfhkagGreatDoorMhXOpen0
import Derived.WalkKit
import Derived.BigQuiet
import Derived.Deep.QuietTactic
import Derived.Deep.RegionHeld3

set_option maxHeartbeats 16000000
set_option maxRecDepth 8000
namespace Go.Proofs.YtnmaknnnmjfhkagGreatDoor
open Go.RowKit
set_option linter.unusedVariables false
set_option linter.unusedSimpArgs false
set_option maxRecDepth 4000

/-- Pages that are put into sectors one behind the other. -/
def putOps (base : Int) (l : List ByteArray) : List OpT := l.mapIdx fun i p => (false, base + (i : Int), p)
theorem putOps_nil (base : Int) : putOps base [] = [] := rfl
theorem putOps_snoc (base : Int) (l : List ByteArray) (p : ByteArray) : putOps base (l ++ [p]) = putOps base l ++ [(false, base + (l.length : Int), p)] := by simp [putOps, List.mapIdx_append]
theorem putOps_length (base : Int) (l : List ByteArray) : (putOps base l).length = l.length := by simp [putOps]
/-- The pages of one batch more. -/
def mvStep (L F : Int) (n m : Nat) (acc : List ByteArray) (b : List Ch) : List ByteArray := acc ++ cutAll (bOut b) L (F + (acc.length : Int)) n m
/-- The pages of a state that is moved. -/
def mvPages (L F : Int) (n m : Nat) (bss : List (List Ch)) : List ByteArray := bss.foldl (mvStep L F n m) [formOf 3 L F ByteArray.empty (n : Int)]
theorem mvPages_nil (L F : Int) (n m : Nat) : mvPages L F n m [] = [formOf 3 L F ByteArray.empty (n : Int)] := rfl
theorem mvPages_snoc (L F : Int) (n m : Nat) (bss : List (List Ch)) (b : List Ch) : mvPages L F n m (bss ++ [b]) = mvPages L F n m bss ++ cutAll (bOut b) L (F + ((mvPages L F n m bss).length : Int)) n m := by
  unfold mvPages; rw [List.foldl_append]; rfl
theorem cutAll_len (s : ByteArray) (l f : Int) (n m : Nat) (hm : n + m = 56) (h1 : 1 ≤ n) (h2 : n ≤ 8) : ((cutAll s l f n m).length : Int) ≤ npages s.size (n : Int) := by
  have e : (56 - (n : Int)).toNat = m := by omega
  unfold npages
  rw [if_pos (by omega), e]
  unfold cutAll
  split
  · rw [cutList_length]; omega
  · simp
theorem mvPages_len (L F : Int) (n m : Nat) (hm : n + m = 56) (h1 : 1 ≤ n) (h2 : n ≤ 8) (bss : List (List Ch)) : ((mvPages L F n m bss).length : Int) ≤ 1 + roomOf bss (n : Int) := by
  obtain ⟨k, hk⟩ : ∃ k, k = bss.length := ⟨_, rfl⟩
  induction k generalizing bss with
  | zero => rw [List.eq_nil_of_length_eq_zero hk.symm, mvPages_nil, roomOf_nil]; simp
  | succ k ih =>
    obtain ⟨b, bs, rfl⟩ : ∃ b bs, bss = bs ++ [b] := by
      rcases List.eq_nil_or_concat bss with h | ⟨l, a, h⟩
      · subst h; simp at hk
      · exact ⟨a, l, by simpa using h⟩
    have := ih bs (by simp at hk; omega)
    rw [mvPages_snoc, roomOf_snoc, List.length_append]
    have := cutAll_len (bOut b) L (F + ((mvPages L F n m bs).length : Int)) n m hm h1 h2
    omega
theorem room_take (bss : List (List Ch)) (k : Nat) (n : Int) : roomOf (bss.take k) n ≤ roomOf bss n := by
  have e : roomOf bss n = roomOf (bss.take k) n + roomOf (bss.drop k) n := by
    unfold roomOf; rw [← List.sum_append, ← List.map_append, List.take_append_drop]
  have := (roomOf_bound (bss.drop k) n).1
  omega
/-- What a move asks of a store. -/
def mvOk (W S L T H F : Int) (rs : List Pr) : Prop := (1 ≤ W ∧ W ≤ 8) ∧ (8 ≤ S ∧ S ≤ 200) ∧ (1 ≤ L ∧ L ≤ 60000) ∧ (0 ≤ T ∧ T ≤ 1000000000) ∧ (0 ≤ H ∧ H ≤ 1) ∧ (1 ≤ F ∧ F ≤ 999999000) ∧ roomOf (snapOf rs) W ≤ hv S - 1
/-- Has the root of a move a place? -/
def mvFit (S T F : Int) : Bool := decide (T + 1 ≤ 1000000000 ∧ F + hv S ≤ 999999000)
def mvD (W S L T H F : Int) (rs : List Pr) : Dd := ⟨0, W, S, L, T + 1, 1 - H, F + hv S, L, ((mvPages L (F + hv S) W.toNat (56 - W.toNat) (snapOf rs)).length : Int), 0, rs, putOps (2 + (1 - H) * hv S) (mvPages L (F + hv S) W.toNat (56 - W.toNat) (snapOf rs)) ++ [(true, 0, ByteArray.empty), (false, (T + 1) % 2, rtForm (T + 1) (1 - H) (F + hv S) L W), (true, 0, ByteArray.empty)]⟩
/-- What a move gives. -/
def moveD (W S L T H F : Int) (rs : List Pr) : Dd := if mvFit S T F = true then mvD W S L T H F rs else noD 4
/-- What Compact gives. -/
def compactD (W S L T H F R U O : Int) (rs : List Pr) : Dd := if storeOk W S L T H F R U O rs = true then moveD W S L T H F rs else noD 1
theorem mvOk_of {W S L T H F R U O : Int} {rs : List Pr} (h : storeOk W S L T H F R U O rs = true) : mvOk W S L T H F rs := by
  unfold storeOk rootOk at h
  simp only [Bool.and_eq_true, decide_eq_true_eq] at h
  obtain ⟨⟨⟨⟨⟨⟨⟨h1, h2⟩, h3⟩, ⟨⟨h4, _⟩, h5⟩, h6⟩, _⟩, _⟩, _⟩, h7⟩ := h
  exact ⟨h1, h2, h3, h4, h5, h6, h7⟩
theorem compactD_bound (W S L T H F R U O : Int) (rs : List Pr) (hl : rs.length ≤ 1048576) : (compactD W S L T H F R U O rs).rs.length ≤ 1048576 ∧ (compactD W S L T H F R U O rs).ops.length ≤ 1000 := by
  unfold compactD moveD
  cases h : storeOk W S L T H F R U O rs with
  | false => simp [noD]
  | true =>
    cases h2 : mvFit S T F with
    | false => simp [noD]
    | true =>
      obtain ⟨⟨h1, h1'⟩, h3, h4, h5, h6, h7, h8⟩ := mvOk_of h
      have hq := hv_yes h3
      have hm := mvPages_len L (F + hv S) W.toNat (56 - W.toNat) (by omega) (by omega) (by omega) (snapOf rs)
      rw [show ((W.toNat : Nat) : Int) = W by omega] at hm
      simp only [if_true, mvD, List.length_append, putOps_length]
      refine ⟨hl, ?_⟩
      simp
      omega
end Go.Proofs.YtnmaknnnmjfhkagGreatDoor

namespace Go.Proofs.YtnmaknnnmjfhkagGreatDoor
open Go.RowKit
set_option maxRecDepth 4000
set_option linter.unusedVariables false
set_option linter.unusedSimpArgs false

/-- Entries, one after the other, applied to a state; none if one cannot be. -/
def foldE : List ByteArray → List Pr → Option (List Pr)
  | [], rs => some rs
  | e :: es, rs => match resS e with
    | none => none
    | some b => if apC rs b = 0 then foldE es (apU rs b) else none
theorem foldE_ok : ∀ (es : List ByteArray) (rs : List Pr), stateOk rs = true → ∀ r, foldE es rs = some r → stateOk r = true
  | [], rs, h, r, hr => by cases hr; exact h
  | e :: es, rs, h, r, hr => by
    rw [foldE] at hr
    split at hr
    · cases hr
    · split at hr
      · rename_i hc
        exact foldE_ok es _ (apU_ok hc) r hr
      · cases hr
theorem foldE_none {e : ByteArray} {es : List ByteArray} {rs : List Pr} (h : resS e = none) : foldE (e :: es) rs = none := by rw [foldE, h]
theorem foldE_no {e : ByteArray} {es : List ByteArray} {rs : List Pr} {b : List Ch} (h : resS e = some b) (hc : apC rs b ≠ 0) : foldE (e :: es) rs = none := by rw [foldE, h]; simp only; rw [if_neg hc]
theorem foldE_yes {e : ByteArray} {es : List ByteArray} {rs : List Pr} {b : List Ch} (h : resS e = some b) (hc : apC rs b = 0) : foldE (e :: es) rs = foldE es (apU rs b) := by rw [foldE, h]; simp only; rw [if_pos hc]
theorem stateOk_nil : stateOk [] = true := by decide
theorem stateOk_sizes {rs : List Pr} (h : stateOk rs = true) : rs.length ≤ 100 ∧ ∀ x ∈ rs, x.1.size ≤ 1048576 ∧ x.2.size ≤ 1048576 := by
  obtain ⟨h1, h2, h3⟩ := (stateOk_iff rs).1 h
  refine ⟨h1, fun x hx => ?_⟩
  obtain ⟨k1, k2⟩ := h2 x hx
  unfold kOk at k1
  unfold vOk at k2
  simp at k1 k2
  omega
theorem batchOk_sizes {b : List Ch} (h : batchOk b = true) : b.length ≤ 20 ∧ ∀ x ∈ b, x.1.size ≤ 1048576 ∧ x.2.1.size ≤ 1048576 := by
  obtain ⟨h1, h2⟩ := batchOk_of h
  refine ⟨by omega, fun x hx => ?_⟩
  obtain ⟨k1, k2⟩ := chOk_parts (h2 x hx)
  unfold kOk at k1
  unfold vOk at k2
  simp at k1 k2
  omega
/-- What a root that is found may be. -/
def rtGood (x : RtT) : Prop := (0 ≤ x.1 ∧ x.1 ≤ 1000000000) ∧ (0 ≤ x.2.1 ∧ x.2.1 ≤ 1) ∧ (1 ≤ x.2.2.1 ∧ x.2.2.1 ≤ 999999000) ∧ (0 ≤ x.2.2.2 ∧ x.2.2.2 ≤ 60000)
theorem rootOf_good {s : ByteArray} {a n : Int} {x : RtT} (h : rootOf s a n = some x) : rtGood x := by
  unfold rootOf at h
  split at h
  · cases h
  · rename_i k l m p hp
    have hr := rpRes_some hp
    split at h
    · rename_i hh
      cases h
      obtain ⟨h1, h2, h3⟩ := hh
      have hf : rtOk (ptH p) (ptF p) := by
        by_cases e : rtOk (ptH p) (ptF p)
        · exact e
        · exfalso
          unfold rtForm at h2
          rw [if_neg e] at h2
          have h64 := hr.1
          rw [← h2] at h64
          exact absurd h64 (by decide)
      unfold rtOk at hf
      unfold rtGood
      simp only
      omega
    · cases h
theorem rtMax_good {b : RtT} {o : Option RtT} (hb : rtGood b) (ho : ∀ x, o = some x → rtGood x) : rtGood (rtMax b o) := by
  unfold rtMax
  split
  · exact hb
  · rename_i r
    split
    · exact ho _ rfl
    · exact hb
theorem frOf_good (s0 s1 : ByteArray) (n : Int) : rtGood (frOf s0 s1 n) := by
  unfold frOf
  exact rtMax_good (rtMax_good (by unfold rtGood; simp) (fun x hx => rootOf_good hx)) (fun x hx => rootOf_good hx)
theorem frD_good {ss : List ByteArray} {ws : List (Int × ByteArray)} {n : Int} (h : diskOk ss ws = true ∧ 1 ≤ n ∧ n ≤ 8) : rtGood (frD ss ws n) := by
  unfold frD
  rw [if_pos h]
  exact frOf_good _ _ _
/-- What is scanned of the half that a root tells of. -/
def opX (ss : List ByteArray) (ws : List (Int × ByteArray)) (n : Int) : Scd := scD ss ws (2 + (frD ss ws n).2.1 * hv ss.length) (hv ss.length) (frD ss ws n).2.2.1 (frD ss ws n).2.2.2 n
theorem hv_half {S : Int} (h : 8 ≤ S ∧ S ≤ 200) : 2 + 2 * hv S ≤ S := by unfold hv; rw [if_pos h]; omega
theorem half_mul {H q : Int} (h : 0 ≤ H ∧ H ≤ 1) (hq : 0 ≤ q) : 0 ≤ H * q ∧ H * q ≤ q := by
  have : H = 0 ∨ H = 1 := by omega
  rcases this with rfl | rfl <;> omega
theorem opX_ok {ss : List ByteArray} {ws : List (Int × ByteArray)} {n : Int} (h : diskOk ss ws = true ∧ 1 ≤ n ∧ n ≤ 8) : scOk ss ws (2 + (frD ss ws n).2.1 * hv ss.length) (hv ss.length) n := by
  have hg := frD_good h
  obtain ⟨⟨hn1, hn2, hn3⟩, h64, hw⟩ := diskOk_of h.1
  have h1 := hv_yes (S := (ss.length : Int)) (by omega)
  have h2 := hv_half (S := (ss.length : Int)) (by omega)
  have h3 := half_mul hg.2.1 (q := hv ss.length) (by omega)
  exact ⟨h.1, h.2, by omega, by omega, by omega, by omega⟩
theorem opX_rng {ss : List ByteArray} {ws : List (Int × ByteArray)} {n : Int} (h : diskOk ss ws = true ∧ 1 ≤ n ∧ n ≤ 8) : (0 ≤ (opX ss ws n).2.1 ∧ (opX ss ws n).2.1 ≤ hv ss.length) ∧ (0 ≤ (opX ss ws n).2.2 ∧ (opX ss ws n).2.2 ≤ 60000) ∧ (opX ss ws n).1.length ≤ 99 ∧ ∀ e ∈ (opX ss ws n).1, e.size ≤ 6336 := by
  have hg := frD_good h
  have hok := opX_ok h
  obtain ⟨⟨hn1, hn2, hn3⟩, h64, hw⟩ := diskOk_of h.1
  have h1 := hv_yes (S := (ss.length : Int)) (by omega)
  unfold opX scD
  rw [if_pos hok]
  obtain ⟨q, hq⟩ : ∃ q : Nat, hv ss.length = (q : Int) := ⟨(hv ss.length).toNat, by omega⟩
  rw [hq] at h1 ⊢
  simp only [Int.toNat_natCast]
  have u1 := scanP_used (fun k => (syncs ws ss).getD k ByteArray.empty) (2 + (frD ss ws n).2.1 * (q : Int)).toNat (frD ss ws n).2.2.1 n q 0 0 (frD ss ws n).2.2.2 ByteArray.empty ([], 0, (frD ss ws n).2.2.2) (by simp)
  have u2 := scanP_life (fun k => (syncs ws ss).getD k ByteArray.empty) (2 + (frD ss ws n).2.1 * (q : Int)).toNat (frD ss ws n).2.2.1 n q 0 0 (frD ss ws n).2.2.2 ByteArray.empty ([], 0, (frD ss ws n).2.2.2)
  have u3 := scanP_size (fun k => (syncs ws ss).getD k ByteArray.empty) (2 + (frD ss ws n).2.1 * (q : Int)).toNat (frD ss ws n).2.2.1 n q 0 0 (frD ss ws n).2.2.2 ByteArray.empty ([], 0, (frD ss ws n).2.2.2) 6336 (by show 0 + 64 * q ≤ 6336; omega) (by intro e he; cases he)
  simp only [List.length_nil] at u3
  refine ⟨by omega, ?_, by omega, u3.1⟩
  have := hg.2.2.2
  rcases u2 with u2 | u2
  · rw [u2]; exact this
  · omega
/-- What Open comes to. -/
def openD (ss : List ByteArray) (ws : List (Int × ByteArray)) (n : Int) : Dd :=
  if diskOk ss ws = true ∧ 1 ≤ n ∧ n ≤ 8 then
    match foldE (opX ss ws n).1 [] with
    | none => noD 2
    | some rs =>
      if 60000 < (opX ss ws n).2.2 + 1 then noD 3
      else if hv ss.length - 1 < roomOf (snapOf rs) n then noD 4
      else if hv ss.length ≤ (opX ss ws n).2.1 then moveD n ss.length ((opX ss ws n).2.2 + 1) (frD ss ws n).1 (frD ss ws n).2.1 (frD ss ws n).2.2.1 rs
      else ⟨0, n, ss.length, (opX ss ws n).2.2 + 1, (frD ss ws n).1, (frD ss ws n).2.1, (frD ss ws n).2.2.1, (frD ss ws n).2.2.2, (opX ss ws n).2.1 + 1, 0, rs,
        [(false, 2 + (frD ss ws n).2.1 * hv ss.length + (opX ss ws n).2.1, formOf 3 ((opX ss ws n).2.2 + 1) ((frD ss ws n).2.2.1 + (opX ss ws n).2.1) ByteArray.empty n), (true, 0, ByteArray.empty)]⟩
  else noD 1
section
variable {ss : List ByteArray} {ws : List (Int × ByteArray)} {n T H F R U L : Int} {es : List ByteArray} {rs : List Pr}
theorem openD_1 (h : ¬ (diskOk ss ws = true ∧ 1 ≤ n ∧ n ≤ 8)) : openD ss ws n = noD 1 := by unfold openD; rw [if_neg h]
theorem openD_2 (h : diskOk ss ws = true ∧ 1 ≤ n ∧ n ≤ 8) (h2 : opX ss ws n = (es, U, L)) (h3 : foldE es [] = none) : openD ss ws n = noD 2 := by
  unfold openD; rw [if_pos h, h2]; simp only; rw [h3]
theorem openD_3 (h : diskOk ss ws = true ∧ 1 ≤ n ∧ n ≤ 8) (h2 : opX ss ws n = (es, U, L)) (h3 : foldE es [] = some rs) (h4 : 60000 < L + 1) : openD ss ws n = noD 3 := by
  unfold openD; rw [if_pos h, h2]; simp only; rw [h3]; simp only; rw [if_pos h4]
theorem openD_4 (h : diskOk ss ws = true ∧ 1 ≤ n ∧ n ≤ 8) (h2 : opX ss ws n = (es, U, L)) (h3 : foldE es [] = some rs) (h4 : ¬ 60000 < L + 1) (h5 : hv ss.length - 1 < roomOf (snapOf rs) n) : openD ss ws n = noD 4 := by
  unfold openD; rw [if_pos h, h2]; simp only; rw [h3]; simp only; rw [if_neg h4, if_pos h5]
theorem openD_5 (h : diskOk ss ws = true ∧ 1 ≤ n ∧ n ≤ 8) (h1 : frD ss ws n = (T, H, F, R)) (h2 : opX ss ws n = (es, U, L)) (h3 : foldE es [] = some rs) (h4 : ¬ 60000 < L + 1) (h5 : ¬ hv ss.length - 1 < roomOf (snapOf rs) n) (h6 : hv ss.length ≤ U) : openD ss ws n = moveD n ss.length (L + 1) T H F rs := by
  unfold openD; rw [if_pos h, h2, h1]; simp only; rw [h3]; simp only; rw [if_neg h4, if_neg h5, if_pos h6]
theorem openD_6 (h : diskOk ss ws = true ∧ 1 ≤ n ∧ n ≤ 8) (h1 : frD ss ws n = (T, H, F, R)) (h2 : opX ss ws n = (es, U, L)) (h3 : foldE es [] = some rs) (h4 : ¬ 60000 < L + 1) (h5 : ¬ hv ss.length - 1 < roomOf (snapOf rs) n) (h6 : ¬ hv ss.length ≤ U) :
    openD ss ws n = ⟨0, n, ss.length, L + 1, T, H, F, R, U + 1, 0, rs, [(false, 2 + H * hv ss.length + U, formOf 3 (L + 1) (F + U) ByteArray.empty n), (true, 0, ByteArray.empty)]⟩ := by
  unfold openD; rw [if_pos h, h2, h1]; simp only; rw [h3]; simp only; rw [if_neg h4, if_neg h5, if_neg h6]
end
theorem moveD_bound {W S L T H F : Int} {rs : List Pr} (hl : rs.length ≤ 1048576) (hok : mvOk W S L T H F rs) : (moveD W S L T H F rs).rs.length ≤ 1048576 ∧ (moveD W S L T H F rs).ops.length ≤ 1000 := by
  unfold moveD
  cases h2 : mvFit S T F with
  | false => simp [noD]
  | true =>
    obtain ⟨⟨h1, h1'⟩, h3, h4, h5, h6, h7, h8⟩ := hok
    have hq := hv_yes h3
    have hm := mvPages_len L (F + hv S) W.toNat (56 - W.toNat) (by omega) (by omega) (by omega) (snapOf rs)
    rw [show ((W.toNat : Nat) : Int) = W by omega] at hm
    simp only [if_true, mvD, List.length_append, putOps_length]
    refine ⟨hl, ?_⟩
    simp
    omega
theorem openD_bound (ss : List ByteArray) (ws : List (Int × ByteArray)) (n : Int) : (openD ss ws n).rs.length ≤ 1048576 ∧ (openD ss ws n).ops.length ≤ 1000 := by
  by_cases h : diskOk ss ws = true ∧ 1 ≤ n ∧ n ≤ 8
  · obtain ⟨T, H, F, R, hFR⟩ : ∃ T H F R, frD ss ws n = (T, H, F, R) := ⟨_, _, _, _, rfl⟩
    obtain ⟨es, U, L, hX⟩ : ∃ es U L, opX ss ws n = (es, U, L) := ⟨_, _, _, rfl⟩
    have hg := frD_good h
    have hx := opX_rng h
    rw [hFR] at hg
    rw [hX] at hx
    unfold rtGood at hg
    simp only at hg hx
    obtain ⟨⟨hn1, hn2, hn3⟩, _, _⟩ := diskOk_of h.1
    cases hf : foldE es [] with
    | none => rw [openD_2 h hX hf]; simp [noD]
    | some rs =>
      have hrs := (stateOk_sizes (foldE_ok es [] stateOk_nil rs hf)).1
      by_cases h4 : 60000 < L + 1
      · rw [openD_3 h hX hf h4]; simp [noD]
      · by_cases h5 : hv ss.length - 1 < roomOf (snapOf rs) n
        · rw [openD_4 h hX hf h4 h5]; simp [noD]
        · by_cases h6 : hv ss.length ≤ U
          · rw [openD_5 h hFR hX hf h4 h5 h6]
            exact moveD_bound (by omega) ⟨h.2, by omega, by omega, hg.1, hg.2.1, hg.2.2.1, by omega⟩
          · rw [openD_6 h hFR hX hf h4 h5 h6]
            simp
            omega
  · rw [openD_1 h]; simp [noD]
end Go.Proofs.YtnmaknnnmjfhkagGreatDoor

namespace Go.Proofs.YtnmaknnnmjfhkagGreatDoor
open Go.RowKit
set_option maxRecDepth 8000
set_option linter.unusedVariables false
set_option linter.unusedSimpArgs false

/-- What a call leaves whose answer is a state of its own, and whether there is one. -/
def FdPost (w w' : World) (e : Ending) (res : Option (List Pr)) : Prop := ∃ a c, e = .returned (.tuple #[stV a (res.getD []).length c, .bool res.isSome]) ∧ (res.getD []).length ≤ c ∧ OwnS w' a (prcells (res.getD [])) ∧ (∀ g, blk a (res.getD []).length = some g → w.heap.size ≤ g) ∧ Below w.heap.size w w'
theorem resS_ok {s : ByteArray} {o : List Ch} (h : resS s = some o) : batchOk o = true := by
  rw [← res_eq] at h
  unfold resI at h
  split at h
  · cases h
  · split at h
    · rename_i hh; cases h; exact hh
    · cases h
theorem ownS_chs {w : World} {a : Option Addr} {rs : List Ch} (h : OwnS w a (chcells rs)) : Chs w a rs := by
  rcases h with h | ⟨g, rfl, h⟩
  · refine .inl ?_
    cases rs with
    | nil => rfl
    | cons x r => obtain ⟨x0, x1, x2⟩ := x; exact absurd h (by simp [chcells])
  · exact h.chs
theorem prcells_neF {l : List Pr} (h : prcells l ≠ []) : l.length ≠ 0 := fun e => h (by rw [List.eq_nil_of_length_eq_zero e]; rfl)
theorem OwnS.setF {w : World} {a : Option Addr} {cs : List Value} (h : OwnS w a cs) (p : Addr) (hp : ∀ g, a = some ⟨g, 0, none⟩ → cs ≠ [] → p.block ≠ g) (v : Value) : OwnS (w.setCell p v) a cs := by
  by_cases h0 : cs = []
  · exact .inl h0
  · rcases h with h | ⟨g, rfl, hr⟩
    · exact absurd h h0
    · exact .inr ⟨g, rfl, hr.other p (hp g rfl h0) v⟩
/-- While entries are applied: the answer's box, the state's box. -/
structure FdB (w W : World) (rs : List Pr) (sa : Option Addr) (sc : Nat) : Prop where
  rb : Row W w.heap.size [.slice none 0 0]
  st : Row W (w.heap.size + 1) [.slice sa rs.length sc]
  own : OwnS W sa (prcells rs)
  lo : ∀ g, blk sa rs.length = some g → w.heap.size + 2 ≤ g
  cap : rs.length ≤ sc
  be : Below w.heap.size w W
theorem FdB.new (w : World) : FdB w ((w.alloc (.cells #[.slice none 0 0] 31)).alloc (.cells #[.slice none 0 0] 31)) [] none 0 :=
  ⟨(row_new' w #[.slice none 0 0] 31 w.heap.size rfl).alloc _, row_new' _ #[.slice none 0 0] 31 _ (by simp), .inl rfl, fun g hg => (by cases hg), Nat.le_refl _, ((Below.refl _ _).alloc (Nat.le_refl _) _).alloc (by simp) _⟩
theorem FdB.below {w W W' : World} {rs : List Pr} {sa : Option Addr} {sc : Nat} (h : FdB w W rs sa sc) (hb : Below W.heap.size W W') : FdB w W' rs sa sc := ⟨h.rb.below hb, h.st.below hb, h.own.below hb, h.lo, h.cap, h.be.trans (hb.mono h.be.size)⟩
theorem FdB.set {w X : World} {W' : Obj} {rs rs' : List Pr} {sa sa' : Option Addr} {sc sc' : Nat} (h : FdB w (X.alloc W') rs sa sc) (ho : OwnS X sa' (prcells rs')) (hc : rs'.length ≤ sc') (hlo : ∀ g, blk sa' rs'.length = some g → w.heap.size + 2 ≤ g) :
    FdB w ((X.alloc W').setCell ⟨w.heap.size + 1, 0, none⟩ (.slice sa' rs'.length sc')) rs' sa' sc' := by
  refine ⟨h.rb.other _ (by show w.heap.size + 1 ≠ w.heap.size; omega) _, h.st.set 0 (by simp) _, OwnS.setF (ho.below ((Below.refl _ _).alloc (Nat.le_refl _) _)) _ (fun g hg hn => ?_) _, hlo, hc, h.be.setCell (by show w.heap.size ≤ w.heap.size + 1; omega) _⟩
  have := hlo g (by subst hg; exact blk_pos _ _ _ (prcells_neF hn))
  show w.heap.size + 1 ≠ g
  omega

set_option maxHeartbeats 16000000 in
theorem fold_s (a : Option Addr) (es : List ByteArray) (c : Nat) (w : World) (h : Strs w a es) (hl : es.length ≤ 1000) (hs : ∀ e ∈ es, e.size ≤ 1048576) :
    Calls Tryz.prog 53 #[.slice a es.length c] w fun e w' => FdPost w w' e (foldE es []) := by
  obtain ⟨RES, HRES⟩ : ∃ RES, Hid (RES = foldE es []) := ⟨_, hid rfl⟩
  rw [← HRES.out]
  have HH := hid h
  have HS := hid hs
  clear h hs
  go_enter Tryz.func53, Tryz.ntmps53
  go_wp2
  go_loopw [5] (fun iv wr => ∃ (i : Nat) (rs : List Pr) (sa : Option Addr) (sc : Nat) (W : World), W = wr ∧ iv = .int .i64 (i : Int) ∧ i ≤ es.length ∧ stateOk rs = true ∧ Hid (foldE (es.drop i) rs = RES) ∧ FdB w W rs sa sc) (fun iv _ => ((es.length : Int) - intOf iv).toNat)
  case atStart => exact ⟨0, [], none, 0, _, rfl, rfl, Nat.zero_le _, stateOk_nil, by show _ = _; rw [HRES.out]; rfl, FdB.new w⟩
  case round =>
    obtain ⟨i, rs, sa, sc, wr, rfl, rfl, hi, hok, HF, D⟩ := hrel
    have HD := hid D
    have d1 := D.st.cell 0 _ rfl
    have d1l := D.st.lt
    have d0 := D.rb.cell 0 _ rfl
    have d0l := D.rb.lt
    have d0f := D.rb.froz 0 (by simp)
    have hok' := stateOk_sizes hok
    have hrl := hok'.1
    have HOK := hid hok
    have HSZ := hid hok'.2
    clear hok hok' D
    by_cases hlt : i < es.length
    · have hlt' : (i : Int) < (es.length : Int) := by omega
      have hi0 : (0 : Int) ≤ (i : Int) := by omega
      have hw1 : IntKind.i64.wrap ((i : Int) + 1) = (i : Int) + 1 := by simp [IntKind.wrap, IntKind.bits, IntKind.signed]; omega
      obtain ⟨b, o, s, rfl, hc, HE⟩ := (HH.out.below HD.out.be).at hlt
      have hes : s.size ≤ 1048576 := HS.out s (by rw [HE.out]; simp [List.getD, hlt])
      have hdr : es.drop i = s :: es.drop (i + 1) := by rw [HE.out]; simp [List.getD, hlt]
      have hbl : b < wr.heap.size := by have := World.block_lt_of_cell? wr _ hc; simpa using this
      have HRB := hid (fun wx => read_s s wx hes)
      skip
      rw [hdr] at HF
      have HDR := hid hdr
      clear hdr
      cases hR : resS s with
      | none =>
        rw [hR] at HRB
        have HN : Hid (RES = none) := by show _ = _; rw [← HF.out]; exact foldE_none hR
        clear hR
        go_wp2_with fail
        refine (HRB.out _).mono ?_
        rintro e w5 ⟨ab, cb, rfl, _, _, hb5⟩
        simp only [Option.getD_none, Option.isSome_none, List.length_nil]
        have D5 := HD.out.below hb5
        have HD5 := hid D5
        have r0 := D5.rb.cell 0 _ rfl
        have r0l := D5.rb.lt
        have r0f := D5.rb.froz 0 (by simp)
        clear d1 d1l d0 d0l d0f D5 hb5 hc
        go_wp2
        refine bodyPost_ret (v := .tuple #[stV none 0 0, .bool false]) (by simp [results, Tryz.results53, go_sem, r0, stV]) rfl ?_
        rw [HN.out]
        exact ⟨none, 0, rfl, Nat.le_refl _, .inl rfl, fun g hg => (by cases hg), HD5.out.be.setCell (by show w.heap.size ≤ w.heap.size; omega) _⟩
      | some bb =>
        rw [hR] at HRB
        have hbs := batchOk_sizes (resS_ok hR)
        have HBS := hid hbs.2
        have hbl2 := hbs.1
        clear hbs
        by_cases hc0 : apC rs bb = 0
        · have HN : Hid (foldE (es.drop (i + 1)) (apU rs bb) = RES) := by show _ = _; rw [← HF.out]; exact (foldE_yes hR hc0).symm
          have hU : apR rs bb = apU rs bb := by unfold apR; rw [if_pos hc0]
          have HOU := hid (apU_ok hc0)
          clear hR
          go_wp2_with fail
          refine (HRB.out _).mono ?_
          rintro e w5 ⟨ab, cb, rfl, ho5, hg5, hb5⟩
          simp only [Option.getD_some, Option.isSome_some] at ho5 hg5 ⊢
          have D5 := HD.out.below hb5
          have HD5 := hid D5
          have r1 := D5.st.cell 0 _ rfl
          have r1l := D5.st.lt
          have HAP := hid (apply_s sa rs sc ab bb cb w5 D5.own.prs (by omega) HSZ.out (ownS_chs ho5) (by omega) HBS.out)
          rw [hU, hc0] at HAP
          clear d1 d1l d0 d0l d0f D5 hb5 hc ho5 hg5
          go_wp2_with fail
          refine HAP.out.mono ?_
          rintro e w6 ⟨a6, c6, rfl, hc6, ho6, hg6, hb6⟩
          have D6 := (HD5.out.below hb6).below (below_new w6 (.cells #[.slice a6 (apU rs bb).length c6] 31))
          have HD6 := hid (D6.set ho6 hc6 (fun g hg => by have := hg6 g hg; omega))
          have x1 := D6.st.cell 0 _ rfl
          have x1f := D6.st.froz 0 (by simp)
          have x1l := D6.st.lt
          have x6 : w6.heap.size ≠ w.heap.size + 1 := by have := (HD5.out.below hb6).st.lt; omega
          clear r1 r1l D6 hb6 ho6 hg6 hc0 hU
          go_wp2
          exact ⟨⟨i + 1, _, a6, c6, _, rfl, by simp, by omega, HOU.out, HN, HD6.out⟩, by simp [intOf]; omega⟩
        · have HN : Hid (RES = none) := by show _ = _; rw [← HF.out]; exact foldE_no hR hc0
          have hU : apR rs bb = [] := by unfold apR; rw [if_neg hc0]
          have hcb : (apC rs bb == 0) = false := by simp [hc0]
          have hcb2 : (apC rs bb != 0) = true := by simp [hc0]
          clear hR
          go_wp2_with fail
          refine (HRB.out _).mono ?_
          rintro e w5 ⟨ab, cb, rfl, ho5, hg5, hb5⟩
          simp only [Option.getD_some, Option.isSome_some] at ho5 hg5 ⊢
          have D5 := HD.out.below hb5
          have HD5 := hid D5
          have r1 := D5.st.cell 0 _ rfl
          have r1l := D5.st.lt
          have HAP := hid (apply_s sa rs sc ab bb cb w5 D5.own.prs (by omega) HSZ.out (ownS_chs ho5) (by omega) HBS.out)
          rw [hU] at HAP
          clear d1 d1l d0 d0l d0f D5 hb5 hc ho5 hg5 hU
          go_wp2_with fail
          refine HAP.out.mono ?_
          rintro e w6 ⟨a6, c6, rfl, hc6, ho6, hg6, hb6⟩
          have D6 := (HD5.out.below hb6).below (below_new w6 (.cells #[.slice a6 0 c6] 31))
          have HD6 := hid D6
          have r0 := D6.rb.cell 0 _ rfl
          have r0l := D6.rb.lt
          have r0f := D6.rb.froz 0 (by simp)
          clear r1 r1l D6 hb6 ho6 hg6
          go_wp2
          refine bodyPost_ret (v := .tuple #[stV none 0 0, .bool false]) (by simp [results, Tryz.results53, go_sem, r0, stV]) rfl ?_
          rw [HN.out]
          exact ⟨none, 0, rfl, Nat.le_refl _, .inl rfl, fun g hg => (by cases hg), HD6.out.be.setCell (by show w.heap.size ≤ w.heap.size; omega) _⟩
    · have HN : Hid (RES = some rs) := by show _ = _; rw [← HF.out, List.drop_of_length_le (by omega)]; rfl
      have hlt' : ¬ ((i : Int) < (es.length : Int)) := by omega
      have hne : ¬ (w.heap.size = w.heap.size + 1) := by omega
      go_wp2
      refine bodyPost_ret (v := .tuple #[stV sa rs.length sc, .bool true]) (by simp [results, Tryz.results53, go_sem, d0, stV]) rfl ?_
      rw [HN.out]
      refine ⟨sa, sc, rfl, HD.out.cap, OwnS.setF HD.out.own ⟨w.heap.size, 0, none⟩ (fun g hg hn => ?_) _, fun g hg => by have := HD.out.lo g hg; omega, HD.out.be.setCell (by show w.heap.size ≤ w.heap.size; omega) _⟩
      have := HD.out.lo g (by subst hg; exact blk_pos _ _ _ (prcells_neF hn))
      show w.heap.size ≠ g
      omega
end Go.Proofs.YtnmaknnnmjfhkagGreatDoor

namespace Go.Proofs.YtnmaknnnmjfhkagGreatDoor
open Go.RowKit
set_option maxRecDepth 8000
set_option linter.unusedVariables false
set_option linter.unusedSimpArgs false

theorem info_opW : (Tryz.prog.info? 110).map (fun i => (i.zero, i.size, i.bytes)) = some (some (.agg #[.bool false, .int .i64 0, .string ByteArray.empty]), 3, 32) := by kernel_rfl
/-- A writer: its ops are its own. -/
structure Wrt (w : World) (base g : Nat) (v : Value) (os : List OpT) (at_ nm lf wd : Int) : Prop where
  row : Row w g [v, .int .i64 at_, .int .i64 nm, .int .i64 lf, .int .i64 wd]
  own : w.ownsRow base 110 3 v os.length (opcells os)
  ge : base ≤ g
  ne : v.ownBlock ≠ some g
theorem Wrt.below {w w' : World} {base g : Nat} {v : Value} {os : List OpT} {at_ nm lf wd : Int} (h : Wrt w base g v os at_ nm lf wd) (hb : Below w.heap.size w w') : Wrt w' base g v os at_ nm lf wd := ⟨h.row.below hb, owns_below h.own hb, h.ge, h.ne⟩
theorem oneOp (b : Bool) (n : Int) (s : ByteArray) : ∀ u ∈ [Value.bool b, .int .i64 n, .string s], u.oneCell' = true := by
  intro u hu
  simp only [List.mem_cons, List.not_mem_nil, or_false] at hu
  rcases hu with rfl | rfl | rfl <;> rfl
theorem half_start (n h : Int) (h0 : 0 ≤ h) (h1 : h ≤ 1) (w : World) : Calls Tryz.prog 63 #[.int .i64 n, .int .i64 h] w fun e w' => e = .returned (.int .i64 (2 + h * hv n)) ∧ w' = w := by
  have hQ : 0 ≤ hv n ∧ hv n ≤ 99 := by by_cases h : 8 ≤ n ∧ n ≤ 200; have := hv_yes h; omega; rw [hv_no h]; omega
  obtain ⟨Q, HQ⟩ : ∃ Q, Hid (Q = hv n) := ⟨_, hid rfl⟩
  rw [← HQ.out] at hQ ⊢
  obtain ⟨q, hq⟩ : ∃ q, q = h * Q := ⟨_, rfl⟩
  have hqb : 0 ≤ q ∧ q ≤ 99 := by
    rcases (show h = 0 ∨ h = 1 by omega) with e | e
    · subst e; omega
    · subst e; omega
  have hw1 : IntKind.i64.wrap (h * Q) = q := by rw [← hq]; simp [IntKind.wrap, IntKind.bits, IntKind.signed]; omega
  have hw2 : IntKind.i64.wrap (2 + q) = 2 + q := by simp [IntKind.wrap, IntKind.bits, IntKind.signed]; omega
  rw [← hq]
  clear hq
  go_enter Tryz.func63, Tryz.ntmps63
  go_wp2_with (go_at_call 64; refine (halves_i _ _).mono ?_; rw [← HQ.out]; rintro e wz ⟨rfl, hwz⟩; rw [hwz]; clear hwz wz)
  go_ret
  exact ⟨rfl, rfl⟩

set_option maxHeartbeats 16000000 in
theorem writer_of (W S L T H F R U O : Int) (a : Option Addr) (n c : Nat) (w : World) (h0 : 0 ≤ H) (h1 : H ≤ 1) (f0 : 1 ≤ F) (f1 : F ≤ 999999000) (u0 : 0 ≤ U) (u1 : U ≤ 99) :
    Calls Tryz.prog 96 #[storeV W S L T H F R U O a n c] w fun e w' => ∃ g, e = .returned (.pointer (some ⟨g, 0, none⟩)) ∧ Wrt w' w.heap.size g (.slice none 0 0) [] (2 + H * hv S + U) (F + U) L W ∧ Below w.heap.size w w' := by
  have hQ : 0 ≤ hv S ∧ hv S ≤ 99 := by by_cases h : 8 ≤ S ∧ S ≤ 200; have := hv_yes h; omega; rw [hv_no h]; omega
  obtain ⟨q, hq⟩ : ∃ q, q = H * hv S := ⟨_, rfl⟩
  have hqb : 0 ≤ q ∧ q ≤ 99 := by
    rcases (show H = 0 ∨ H = 1 by omega) with e | e
    · subst e; omega
    · subst e; omega
  have HH := hid (fun w' => half_start S H h0 h1 w')
  rw [← hq] at HH ⊢
  clear hq
  have hw1 : IntKind.i64.wrap (2 + q + U) = 2 + q + U := by simp [IntKind.wrap, IntKind.bits, IntKind.signed]; omega
  have hw2 : IntKind.i64.wrap (F + U) = F + U := by simp [IntKind.wrap, IntKind.bits, IntKind.signed]; omega
  unfold storeV
  obtain ⟨wb, HWB⟩ : ∃ wb, wb = w.alloc (.cells #[.int .i64 W, .int .i64 S, .int .i64 L, .int .i64 T, .int .i64 H, .int .i64 F, .int .i64 R, .int .i64 U, .int .i64 O, .slice a n c] 33) := ⟨_, rfl⟩
  have HT : Hid (∀ w', Below wb.heap.size wb w' → w'.cell? ⟨w.heap.size, 0, none⟩ = some (.int .i64 W) ∧ w'.cell? ⟨w.heap.size, 1, none⟩ = some (.int .i64 S) ∧ w'.cell? ⟨w.heap.size, 2, none⟩ = some (.int .i64 L) ∧ w'.cell? ⟨w.heap.size, 4, none⟩ = some (.int .i64 H) ∧ w'.cell? ⟨w.heap.size, 5, none⟩ = some (.int .i64 F) ∧ w'.cell? ⟨w.heap.size, 7, none⟩ = some (.int .i64 U)) := fun w' hb => by
    have hsz : w.heap.size < wb.heap.size := by rw [HWB]; simp
    refine ⟨(hb.cell (p := ⟨w.heap.size, 0, none⟩) hsz).trans ?_, (hb.cell (p := ⟨w.heap.size, 1, none⟩) hsz).trans ?_, (hb.cell (p := ⟨w.heap.size, 2, none⟩) hsz).trans ?_, (hb.cell (p := ⟨w.heap.size, 4, none⟩) hsz).trans ?_, (hb.cell (p := ⟨w.heap.size, 5, none⟩) hsz).trans ?_, (hb.cell (p := ⟨w.heap.size, 7, none⟩) hsz).trans ?_⟩ <;> (rw [HWB]; go_simp)
  have HBB : Hid (Below w.heap.size w wb) := by show Below _ _ _; rw [HWB]; exact (Below.refl _ _).alloc (Nat.le_refl _) _
  go_enter Tryz.func96, Tryz.ntmps96
  go_wp2_with fail
  rw [← HWB]
  clear HWB
  go_region_held3 (fun w' => w'.cell? ⟨w.heap.size, 0, none⟩ = some (.int .i64 W) ∧ w'.cell? ⟨w.heap.size, 1, none⟩ = some (.int .i64 S) ∧ w'.cell? ⟨w.heap.size, 2, none⟩ = some (.int .i64 L) ∧ w'.cell? ⟨w.heap.size, 4, none⟩ = some (.int .i64 H) ∧ w'.cell? ⟨w.heap.size, 5, none⟩ = some (.int .i64 F) ∧ w'.cell? ⟨w.heap.size, 7, none⟩ = some (.int .i64 U))
    (first | assumption | exact HT.out _ ((Below.refl _ _).drew) | exact HT.out _ ((Below.refl _ _).drew.alloc (Nat.le_refl _) _))
    (first | (go_at_call 63; refine (HH.out _).mono ?_; rintro e wz ⟨rfl, rfl⟩))
  all_goals
    go_wp2
    go_ret
    refine ⟨wb.heap.size, rfl, ⟨row_at (w := wb.drew) rfl, World.ownsRow_nil _ _ _ _, HBB.out.size, by simp [Value.ownBlock]⟩, HBB.out.trans (((Below.refl _ _).drew.alloc (Nat.le_refl _) _).mono HBB.out.size)⟩

set_option maxHeartbeats 16000000 in
theorem sync_i (base g : Nat) (v : Value) (os : List OpT) (at_ nm lf wd : Int) (w : World) (h : Wrt w base g v os at_ nm lf wd) (hb : base ≤ w.heap.size) (hl : os.length ≤ 1000) :
    Calls Tryz.prog 98 #[.pointer (some ⟨g, 0, none⟩)] w fun e w' => (∃ x, e = .returned x) ∧ (∃ v', Wrt w' base g v' (os ++ [(true, 0, ByteArray.empty)]) at_ nm lf wd) ∧ Below base w w' := by
  obtain ⟨i0, hi0, hz0, hz1, hz2⟩ := info_partsP info_opW
  have HI := hid (And.intro hi0 (And.intro hz0 (And.intro hz1 hz2)))
  clear hi0 hz0 hz1 hz2
  obtain ⟨va, vc, rfl⟩ : ∃ va vc, v = Value.slice va os.length vc := by
    rcases owns_forms h.own with ⟨e1, e2⟩ | ⟨g, cap, e1, _⟩
    · exact ⟨none, 0, by rw [e1, e2]⟩
    · exact ⟨_, cap, e1⟩
  have q0 := h.row.cell 0 _ rfl
  have r0 := h.row.froz 0 (by simp)
  have lg := h.row.lt
  have HOA := hid (h.own.alloc (.cells #[.bool true, .int .i64 0, .string ⟨#[]⟩] 110))
  go_enter Tryz.func98, Tryz.ntmps98
  go_wp2_with (at_builtin; refine wpList_append_lies _ rfl _ _ 34 rfl base 110 i0 (.agg #[.bool false, .int .i64 0, .string ByteArray.empty]) 3 32 Tryz.underlying34 HI.out.1 HI.out.2.1 HI.out.2.2.1 HI.out.2.2.2 rfl (by omega) _ os.length _ rfl HOA.out ⟨w.heap.size, 0, none⟩ 1 1 [.bool true, .int .i64 0, .string ⟨#[]⟩] rfl rfl (World.news_of_block (heap_alloc_new w _)) (oneOp _ _ _) (by omega) (by unfold maxLen; omega) (by omega) (by simp; omega) (w.heap.size + 1) (by simp) ?_; intro g9 cap9 w9 hown9 hgrow9 hat9 hlt9; have HR9 := hid ((h.row.alloc _).grown hgrow9 (fun e => h.ne e.symm)); have q9 := HR9.out.cell 0 _ rfl; have r9 := HR9.out.froz 0 (by simp); have HO9 := hid hown9; have HB9 := hid (below_grownS ((Below.refl base w).alloc hb _) HOA.out hgrow9 (by simp; omega)); have hne9 : g9 ≠ g := (by rcases hat9 with e | e; exact fun e2 => h.ne (by rw [← e2]; exact e); omega); have HN9 := hid hne9; clear hown9 hgrow9 hat9 hne9)
  go_end0
  have hrow := HR9.out.set 0 (by simp) (.slice (some ⟨g9, 0, none⟩) (os.length + 1) cap9)
  refine ⟨⟨_, rfl⟩, ⟨.slice (some ⟨g9, 0, none⟩) (os.length + 1) cap9, hrow, ?_, h.ge, by simp [Value.ownBlock]; exact HN9.out⟩, HB9.out.setCell (p := ⟨g, 0, none⟩) h.ge _⟩
  have hgs : w9.grownBy (w9.setCell ⟨g, 0, none⟩ (.slice (some ⟨g9, 0, none⟩) (os.length + 1) cap9)) (some g) := ⟨rfl, rfl, rfl, by simp [World.setCell], fun k _ hk => Below.heap_setCell _ _ _ k (fun e => hk (by rw [e]))⟩
  have := HO9.out.kept hgs (.inr (by simp [Value.ownBlock]; exact HN9.out))
  rw [List.length_append, opcells_append]
  exact this
theorem Wrt.set {w : World} {base g : Nat} {v : Value} {os : List OpT} {at_ nm lf wd : Int} (h : Wrt w base g v os at_ nm lf wd) (b o : Nat) (hb : b < base) (u : Value) : Wrt (w.setCell ⟨b, o, none⟩ u) base g v os at_ nm lf wd := by
  have hgs : w.grownBy (w.setCell ⟨b, o, none⟩ u) (some b) := ⟨rfl, rfl, rfl, by simp [World.setCell], fun k _ hk => Below.heap_setCell _ _ _ k (fun e => hk (by rw [e]))⟩
  refine ⟨h.row.other _ (by show b ≠ g; have := h.ge; omega) _, h.own.kept hgs ?_, h.ge, h.ne⟩
  cases hk : v.ownBlock with
  | none => exact .inl rfl
  | some k =>
    refine .inr fun e => ?_
    cases e
    have := (h.own.lt b hk).1
    omega

end Go.Proofs.YtnmaknnnmjfhkagGreatDoor

namespace Go.Proofs.YtnmaknnnmjfhkagGreatDoor
open Go.RowKit
set_option linter.unusedVariables false
set_option linter.unusedSimpArgs false
set_option maxRecDepth 8000

set_option maxHeartbeats 16000000 in
theorem left_i (W S L T H F R U O : Int) (a : Option Addr) (n c : Nat) (w : World) (hU : 0 ≤ U) (hU1 : U ≤ 100000) :
    Calls Tryz.prog 67 #[storeV W S L T H F R U O a n c] w fun e w' => e = .returned (.int .i64 (hv S - U)) ∧ Below w.heap.size w w' := by
  have hQ : 0 ≤ hv S ∧ hv S ≤ 99 := by by_cases h : 8 ≤ S ∧ S ≤ 200; have := hv_yes h; omega; rw [hv_no h]; omega
  have HH := hid (fun w' => halves_i S w')
  obtain ⟨Q, HQ⟩ : ∃ Q, Hid (Q = hv S) := ⟨_, hid rfl⟩
  rw [← HQ.out] at hQ HH ⊢
  have hw : IntKind.i64.wrap (Q - U) = Q - U := by simp [IntKind.wrap, IntKind.bits, IntKind.signed]; omega
  unfold storeV
  go_enter Tryz.func67, Tryz.ntmps67
  go_wp2_with fail
  refine wp_region_held_drew (S := fun w' => w'.cell? ⟨w.heap.size, 1, none⟩ = some (.int .i64 S) ∧ w'.cell? ⟨w.heap.size, 7, none⟩ = some (.int .i64 U)) (by kernel_rfl) (⟨by go_simp, by go_simp⟩) (fun hHeld => ?_)
  refine wpAnyH_take (i := 0) (v := .pointer (some ⟨w.heap.size, 1, none⟩)) rfl (by kernel_rfl) (by kernel_rfl) (by kernel_rfl) (fun _ _ _ h => h) (Or.inl ⟨by rfl, fun w hw => by obtain ⟨z0, z1⟩ := hw; go_simp⟩) hHeld ?_
  simp only [Act.put, List.getElem_toArray, List.getElem_cons_zero, List.getElem_cons_succ, List.setIfInBounds_toArray, List.set_cons_zero, List.set_cons_succ]
  refine wpAnyH_take (i := 1) (v := .int .i64 S) rfl (by kernel_rfl) (by kernel_rfl) (by kernel_rfl) (fun _ _ _ h => h) (Or.inl ⟨by rfl, fun w hw => by obtain ⟨z0, z1⟩ := hw; go_simp⟩) hHeld ?_
  simp only [Act.put, List.getElem_toArray, List.getElem_cons_zero, List.getElem_cons_succ, List.setIfInBounds_toArray, List.set_cons_zero, List.set_cons_succ]
  refine wpAnyH_take (i := 3) (v := .pointer (some ⟨w.heap.size, 7, none⟩)) rfl (by kernel_rfl) (by kernel_rfl) (by kernel_rfl) (fun _ _ _ h => h) (Or.inl ⟨by rfl, fun w hw => by obtain ⟨z0, z1⟩ := hw; go_simp⟩) hHeld ?_
  simp only [Act.put, List.getElem_toArray, List.getElem_cons_zero, List.getElem_cons_succ, List.setIfInBounds_toArray, List.set_cons_zero, List.set_cons_succ]
  refine wpAnyH_take (i := 4) (v := .int .i64 U) rfl (by kernel_rfl) (by kernel_rfl) (by kernel_rfl) (fun _ _ _ h => h) (Or.inl ⟨by rfl, fun w hw => by obtain ⟨z0, z1⟩ := hw; go_simp⟩) hHeld ?_
  simp only [Act.put, List.getElem_toArray, List.getElem_cons_zero, List.getElem_cons_succ, List.setIfInBounds_toArray, List.set_cons_zero, List.set_cons_succ]
  refine wpAnyH_ready (rs := [2]) (by kernel_rfl) (by simp) ?_
  refine AllReadyH.cons rfl (fun K hK => ?_) AllReadyH.nil
  refine step_call (by rfl) 64 #[.int .i64 S] (by go_simp) (HH.out _) ?_
  rintro e wz ⟨rfl, rfl⟩
  refine ⟨_, rfl, ?_⟩
  refine hK.out _ _ hHeld (fun _ => ?_)
  clear hK K
  try simp only [Act.put, List.getElem_toArray, List.getElem_cons_zero, List.getElem_cons_succ, List.setIfInBounds_toArray, List.set_cons_zero, List.set_cons_succ]
  refine wpAnyH_take (i := 5) (v := .int .i64 (Q - U)) rfl (by kernel_rfl) (by kernel_rfl) (by kernel_rfl) (fun _ _ _ h => h) (Or.inl ⟨by rfl, fun w hw => by obtain ⟨z0, z1⟩ := hw; go_simp⟩) hHeld ?_
  simp only [Act.put, List.getElem_toArray, List.getElem_cons_zero, List.getElem_cons_succ, List.setIfInBounds_toArray, List.set_cons_zero, List.set_cons_succ]
  refine wpAnyH_ready (rs := [6]) (by kernel_rfl) (by simp) ?_
  refine AllReadyH.cons rfl (fun K hK => ?_) AllReadyH.nil
  go_simp
  refine hK.out _ _ hHeld (fun _ => ?_)
  clear hK K
  try simp only [Act.put, List.getElem_toArray, List.getElem_cons_zero, List.getElem_cons_succ, List.setIfInBounds_toArray, List.set_cons_zero, List.set_cons_succ]
  refine wpAnyH_done (by kernel_rfl) ?_ _
  go_wp2
  go_ret
  exact ⟨rfl, ((Below.refl _ _).alloc (Nat.le_refl _) _).drew⟩
end Go.Proofs.YtnmaknnnmjfhkagGreatDoor
