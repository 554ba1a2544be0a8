import Derived.Test.YtnmaknnnmjfhkafGreatQxCompactVStS
import Derived.Test.YtnmaknnnmjfhkafGreatQxCompactCutB
import Derived.Test.YtnmaknnnmjfhkafGreatMgXCompact34
import Derived.Test.YtnmaknnnmjfhkafGreatMgXCompact15
namespace Go.Proofs.YtnmaknnnmjfhkafGreat
open Go.RowKit
set_option linter.unusedVariables false
set_option linter.unusedSimpArgs false
set_option maxRecDepth 4000

/-- Pages that are put into sectors one behind the other. -/
def putOps (base : Int) (l : List ByteArray) : List OpT := l.mapIdx fun i p => (false, base + (i : Int), p)
theorem putOps_nil (base : Int) : putOps base [] = [] := rfl
theorem putOps_snoc (base : Int) (l : List ByteArray) (p : ByteArray) : putOps base (l ++ [p]) = putOps base l ++ [(false, base + (l.length : Int), p)] := by simp [putOps, List.mapIdx_append]
theorem putOps_length (base : Int) (l : List ByteArray) : (putOps base l).length = l.length := by simp [putOps]
/-- The pages of one batch more. -/
def mvStep (L F : Int) (n m : Nat) (acc : List ByteArray) (b : List Ch) : List ByteArray := acc ++ cutAll (bOut b) L (F + (acc.length : Int)) n m
/-- The pages of a state that is moved. -/
def mvPages (L F : Int) (n m : Nat) (bss : List (List Ch)) : List ByteArray := bss.foldl (mvStep L F n m) [formOf 3 L F ByteArray.empty (n : Int)]
theorem mvPages_nil (L F : Int) (n m : Nat) : mvPages L F n m [] = [formOf 3 L F ByteArray.empty (n : Int)] := rfl
theorem mvPages_snoc (L F : Int) (n m : Nat) (bss : List (List Ch)) (b : List Ch) : mvPages L F n m (bss ++ [b]) = mvPages L F n m bss ++ cutAll (bOut b) L (F + ((mvPages L F n m bss).length : Int)) n m := by
  unfold mvPages; rw [List.foldl_append]; rfl
theorem cutAll_len (s : ByteArray) (l f : Int) (n m : Nat) (hm : n + m = 56) (h1 : 1 ≤ n) (h2 : n ≤ 8) : ((cutAll s l f n m).length : Int) ≤ npages s.size (n : Int) := by
  have e : (56 - (n : Int)).toNat = m := by omega
  unfold npages
  rw [if_pos (by omega), e]
  unfold cutAll
  split
  · rw [cutList_length]; omega
  · simp
theorem mvPages_len (L F : Int) (n m : Nat) (hm : n + m = 56) (h1 : 1 ≤ n) (h2 : n ≤ 8) (bss : List (List Ch)) : ((mvPages L F n m bss).length : Int) ≤ 1 + roomOf bss (n : Int) := by
  obtain ⟨k, hk⟩ : ∃ k, k = bss.length := ⟨_, rfl⟩
  induction k generalizing bss with
  | zero => rw [List.eq_nil_of_length_eq_zero hk.symm, mvPages_nil, roomOf_nil]; simp
  | succ k ih =>
    obtain ⟨b, bs, rfl⟩ : ∃ b bs, bss = bs ++ [b] := by
      rcases List.eq_nil_or_concat bss with h | ⟨l, a, h⟩
      · subst h; simp at hk
      · exact ⟨a, l, by simpa using h⟩
    have := ih bs (by simp at hk; omega)
    rw [mvPages_snoc, roomOf_snoc, List.length_append]
    have := cutAll_len (bOut b) L (F + ((mvPages L F n m bs).length : Int)) n m hm h1 h2
    omega
theorem room_take (bss : List (List Ch)) (k : Nat) (n : Int) : roomOf (bss.take k) n ≤ roomOf bss n := by
  have e : roomOf bss n = roomOf (bss.take k) n + roomOf (bss.drop k) n := by
    unfold roomOf; rw [← List.sum_append, ← List.map_append, List.take_append_drop]
  have := (roomOf_bound (bss.drop k) n).1
  omega
/-- What a move asks of a store. -/
def mvOk (W S L T H F : Int) (rs : List Pr) : Prop := (1 ≤ W ∧ W ≤ 8) ∧ (8 ≤ S ∧ S ≤ 200) ∧ (1 ≤ L ∧ L ≤ 60000) ∧ (0 ≤ T ∧ T ≤ 1000000000) ∧ (0 ≤ H ∧ H ≤ 1) ∧ (1 ≤ F ∧ F ≤ 999999000) ∧ roomOf (snapOf rs) W ≤ hv S - 1
/-- Has the root of a move a place? -/
def mvFit (S T F : Int) : Bool := decide (T + 1 ≤ 1000000000 ∧ F + hv S ≤ 999999000)
def mvD (W S L T H F : Int) (rs : List Pr) : Dd := ⟨0, W, S, L, T + 1, 1 - H, F + hv S, L, ((mvPages L (F + hv S) W.toNat (56 - W.toNat) (snapOf rs)).length : Int), 0, rs, putOps (2 + (1 - H) * hv S) (mvPages L (F + hv S) W.toNat (56 - W.toNat) (snapOf rs)) ++ [(true, 0, ByteArray.empty), (false, (T + 1) % 2, rtForm (T + 1) (1 - H) (F + hv S) L W), (true, 0, ByteArray.empty)]⟩
/-- What a move gives. -/
def moveD (W S L T H F : Int) (rs : List Pr) : Dd := if mvFit S T F = true then mvD W S L T H F rs else noD 4
/-- What Compact gives. -/
def compactD (W S L T H F R U O : Int) (rs : List Pr) : Dd := if storeOk W S L T H F R U O rs = true then moveD W S L T H F rs else noD 1
theorem mvOk_of {W S L T H F R U O : Int} {rs : List Pr} (h : storeOk W S L T H F R U O rs = true) : mvOk W S L T H F rs := by
  unfold storeOk rootOk at h
  simp only [Bool.and_eq_true, decide_eq_true_eq] at h
  obtain ⟨⟨⟨⟨⟨⟨⟨h1, h2⟩, h3⟩, ⟨⟨h4, _⟩, h5⟩, h6⟩, _⟩, _⟩, _⟩, h7⟩ := h
  exact ⟨h1, h2, h3, h4, h5, h6, h7⟩
theorem compactD_bound (W S L T H F R U O : Int) (rs : List Pr) (hl : rs.length ≤ 1048576) : (compactD W S L T H F R U O rs).rs.length ≤ 1048576 ∧ (compactD W S L T H F R U O rs).ops.length ≤ 1000 := by
  unfold compactD moveD
  cases h : storeOk W S L T H F R U O rs with
  | false => simp [noD]
  | true =>
    cases h2 : mvFit S T F with
    | false => simp [noD]
    | true =>
      obtain ⟨⟨h1, h1'⟩, h3, h4, h5, h6, h7, h8⟩ := mvOk_of h
      have hq := hv_yes h3
      have hm := mvPages_len L (F + hv S) W.toNat (56 - W.toNat) (by omega) (by omega) (by omega) (snapOf rs)
      rw [show ((W.toNat : Nat) : Int) = W by omega] at hm
      simp only [if_true, mvD, List.length_append, putOps_length]
      refine ⟨hl, ?_⟩
      simp
      omega
end Go.Proofs.YtnmaknnnmjfhkafGreat
