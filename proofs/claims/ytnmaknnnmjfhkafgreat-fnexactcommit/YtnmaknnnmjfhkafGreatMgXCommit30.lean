import Derived.Test.YtnmaknnnmjfhkafGreatMgXCommit26
import Derived.Test.YtnmaknnnmjfhkafGreatMgXCommit27
import Derived.Test.YtnmaknnnmjfhkafGreatQxCommitApT
import Derived.Test.YtnmaknnnmjfhkafGreatQxCommitVStS

set_option maxHeartbeats 16000000
set_option maxRecDepth 8000
namespace Go.Proofs.YtnmaknnnmjfhkafGreat
open Go.RowKit
set_option linter.unusedVariables false
set_option linter.unusedSimpArgs false
set_option maxRecDepth 4000

/-- What Commit gives. -/
def commitD (W S L T H F R U O : Int) (rs : List Pr) (b : List Ch) : Dd :=
  if (storeOk W S L T H F R U O rs && batchOk b) = true then
    if apC rs b = 0 then
      if roomOf (snapOf (apR rs b)) W ≤ hv S - 1 then
        if npages (bOut b).size W ≤ hv S - U then
          ⟨0, W, S, L, T, H, F, R, U + npages (bOut b).size W, O + npages (bOut b).size W, apR rs b, putOps (2 + H * hv S + U) (cutAll (bOut b) L (F + U) W.toNat (56 - W.toNat))⟩
        else noD 4
      else noD 3
    else noD 2
  else noD 1
theorem cutAll_len' (s : ByteArray) (l f : Int) (n m : Nat) (hm : n + m = 56) (h1 : 1 ≤ n) (h2 : n ≤ 8) (hl : 1 ≤ l ∧ l ≤ 60000) (hf : 1 ≤ f) (hN : f + npages s.size (n : Int) ≤ 1000000001) : ((cutAll s l f n m).length : Int) = npages s.size (n : Int) := by
  have e : (56 - (n : Int)).toNat = m := by omega
  unfold npages at hN ⊢
  rw [if_pos (by omega), e] at hN ⊢
  rw [cutAll_yes rfl (by omega), cutList_length]
theorem npages_tight (l : Nat) (n : Int) (h1 : 1 ≤ n) (h2 : n ≤ 8) : 0 ≤ npages l n ∧ npages l n ≤ (l : Int) / 48 + 1 := by
  unfold npages
  rw [if_pos ⟨h1, h2⟩]
  unfold nparts
  split
  · rename_i h; subst h; simp
  · have hm : 48 ≤ (56 - n).toNat := by omega
    have : (l - 1) / (56 - n).toNat ≤ l / 48 := Nat.le_trans (Nat.div_le_div_right (by omega)) (Nat.div_le_div_left hm (by omega))
    obtain ⟨z, hz⟩ : ∃ z, z = (l - 1) / (56 - n).toNat := ⟨_, rfl⟩
    rw [← hz] at this ⊢
    omega
theorem storeOk_of {W S L T H F R U O : Int} {rs : List Pr} (h : storeOk W S L T H F R U O rs = true) : (1 ≤ W ∧ W ≤ 8) ∧ (8 ≤ S ∧ S ≤ 200) ∧ (1 ≤ L ∧ L ≤ 60000) ∧ (0 ≤ T ∧ T ≤ 1000000000) ∧ (0 ≤ H ∧ H ≤ 1) ∧ (1 ≤ F ∧ F ≤ 999999000) ∧ (0 ≤ U ∧ U ≤ hv S) ∧ (0 ≤ O ∧ O ≤ U) ∧ stateOk rs = true := by
  unfold storeOk rootOk at h
  simp only [Bool.and_eq_true, decide_eq_true_eq] at h
  obtain ⟨⟨⟨⟨⟨⟨⟨h1, h2⟩, h3⟩, ⟨⟨h4, _⟩, h5⟩, h6⟩, h7⟩, h8⟩, h9⟩, _⟩ := h
  exact ⟨h1, h2, h3, h4, h5, h6, h7, h8, h9⟩
theorem apR_len (rs : List Pr) (b : List Ch) : (apR rs b).length ≤ 100 := by
  unfold apR
  by_cases hc : apC rs b = 0
  · rw [if_pos hc]
    unfold apC at hc
    by_cases h1 : (stateOk rs && batchOk b) = true
    · rw [if_pos h1] at hc
      by_cases h2 : (apU rs b).length ≤ 100
      · exact h2
      · rw [if_neg h2] at hc; omega
    · rw [if_neg h1] at hc; omega
  · rw [if_neg hc]; simp
theorem chF_mem (c : Ch) : ∀ (rs : List Pr) (k : Nat), k = rs.length → ∀ x ∈ (chW c rs).2, x ∈ rs ∨ x = (c.1, c.2.1)
  | rs, 0, hk => by rw [List.eq_nil_of_length_eq_zero hk.symm]; simp [chW]
  | rs, k + 1, hk => by
    obtain ⟨p, bs, rfl⟩ : ∃ b bs, rs = bs ++ [b] := by
      rcases List.eq_nil_or_concat rs with h | ⟨l, a, h⟩
      · subst h; simp at hk
      · exact ⟨a, l, by simpa using h⟩
    have ih := chF_mem c bs k (by simp at hk; omega)
    rw [chW_snoc]
    generalize chW c bs = st at ih ⊢
    intro x hx
    unfold stepC at hx
    have key : x ∈ st.2 ∨ x = (c.1, c.2.1) ∨ x = p := by
      split at hx
      · split at hx
        · rcases List.mem_append.1 hx with h | h
          · exact .inl h
          · exact .inr (.inl (List.mem_singleton.1 h))
        · exact .inl hx
      · split at hx
        · rcases List.mem_append.1 hx with h | h
          · rcases List.mem_append.1 h with h | h
            · exact .inl h
            · exact .inr (.inl (List.mem_singleton.1 h))
          · exact .inr (.inr (List.mem_singleton.1 h))
        · rcases List.mem_append.1 hx with h | h
          · exact .inl h
          · exact .inr (.inr (List.mem_singleton.1 h))
    rcases key with h | h | h
    · rcases ih x h with h | h
      · exact .inl (by simp [h])
      · exact .inr h
    · exact .inr h
    · exact .inl (by simp [h])
theorem apU_mem (rs : List Pr) (P : Pr → Prop) (h : ∀ x ∈ rs, P x) : ∀ (b : List Ch), (∀ c ∈ b, P (c.1, c.2.1)) → ∀ x ∈ apU rs b, P x := by
  intro b
  obtain ⟨k, hk⟩ : ∃ k, k = b.length := ⟨_, rfl⟩
  induction k generalizing b with
  | zero => intro _; rw [List.eq_nil_of_length_eq_zero hk.symm]; exact h
  | succ k ih =>
    intro hb
    obtain ⟨c, bs, rfl⟩ : ∃ c bs, b = bs ++ [c] := by
      rcases List.eq_nil_or_concat b with h | ⟨l, a, h⟩
      · subst h; simp at hk
      · exact ⟨a, l, by simpa using h⟩
    have i := ih bs (by simp at hk; omega) (fun c hc => hb c (by simp [hc]))
    rw [apU_snoc]
    intro x hx
    unfold chF at hx
    split at hx
    · rcases chF_mem c _ _ rfl x hx with h1 | h1
      · exact i x h1
      · rw [h1]; exact hb c (by simp)
    · rw [List.mem_append] at hx
      rcases hx with hx | hx
      · rcases chF_mem c _ _ rfl x hx with h1 | h1
        · exact i x h1
        · rw [h1]; exact hb c (by simp)
      · simp at hx; rw [hx]; exact hb c (by simp)
theorem apR_mem (rs : List Pr) (b : List Ch) (P : Pr → Prop) (h : ∀ x ∈ rs, P x) (hb : ∀ c ∈ b, P (c.1, c.2.1)) : ∀ x ∈ apR rs b, P x := by
  unfold apR
  split
  · exact apU_mem rs P h b hb
  · simp
theorem commitD_bound (W S L T H F R U O : Int) (rs : List Pr) (b : List Ch) : (commitD W S L T H F R U O rs b).rs.length ≤ 1048576 ∧ (commitD W S L T H F R U O rs b).ops.length ≤ 1000 := by
  unfold commitD
  split
  · rename_i h0
    rw [Bool.and_eq_true] at h0
    obtain ⟨h1, h2, h3, h4, h5, h6, h7, h8, h9⟩ := storeOk_of h0.1
    have hq := hv_yes h2
    split
    · split
      · split
        · rename_i hp
          refine ⟨by have := apR_len rs b; simp; omega, ?_⟩
          simp only [putOps_length]
          have := cutAll_len (bOut b) L (F + U) W.toNat (56 - W.toNat) (by omega) (by omega) (by omega)
          rw [show ((W.toNat : Nat) : Int) = W by omega] at this
          omega
        · simp [noD]
      · simp [noD]
    · simp [noD]
  · simp [noD]
end Go.Proofs.YtnmaknnnmjfhkafGreat

namespace Go.Proofs.YtnmaknnnmjfhkafGreat
open Go.RowKit
set_option maxRecDepth 8000
set_option linter.unusedVariables false
set_option linter.unusedSimpArgs false

theorem info_opW : (Tryz.prog.info? 75).map (fun i => (i.zero, i.size, i.bytes)) = some (some (.agg #[.bool false, .int .i64 0, .string ByteArray.empty]), 3, 32) := by kernel_rfl
/-- A writer: its ops are its own. -/
structure Wrt (w : World) (base g : Nat) (v : Value) (os : List OpT) (at_ nm lf wd : Int) : Prop where
  row : Row w g [v, .int .i64 at_, .int .i64 nm, .int .i64 lf, .int .i64 wd]
  own : w.ownsRow base 75 3 v os.length (opcells os)
  ge : base ≤ g
  ne : v.ownBlock ≠ some g
theorem Wrt.below {w w' : World} {base g : Nat} {v : Value} {os : List OpT} {at_ nm lf wd : Int} (h : Wrt w base g v os at_ nm lf wd) (hb : Below w.heap.size w w') : Wrt w' base g v os at_ nm lf wd := ⟨h.row.below hb, owns_below h.own hb, h.ge, h.ne⟩
theorem oneOp (b : Bool) (n : Int) (s : ByteArray) : ∀ u ∈ [Value.bool b, .int .i64 n, .string s], u.oneCell' = true := by
  intro u hu
  simp only [List.mem_cons, List.not_mem_nil, or_false] at hu
  rcases hu with rfl | rfl | rfl <;> rfl
theorem half_start (n h : Int) (h0 : 0 ≤ h) (h1 : h ≤ 1) (w : World) : Calls Tryz.prog 90 #[.int .i64 n, .int .i64 h] w fun e w' => e = .returned (.int .i64 (2 + h * hv n)) ∧ w' = w := by
  have hQ : 0 ≤ hv n ∧ hv n ≤ 99 := by by_cases h : 8 ≤ n ∧ n ≤ 200; have := hv_yes h; omega; rw [hv_no h]; omega
  obtain ⟨Q, HQ⟩ : ∃ Q, Hid (Q = hv n) := ⟨_, hid rfl⟩
  rw [← HQ.out] at hQ ⊢
  obtain ⟨q, hq⟩ : ∃ q, q = h * Q := ⟨_, rfl⟩
  have hqb : 0 ≤ q ∧ q ≤ 99 := by
    rcases (show h = 0 ∨ h = 1 by omega) with e | e
    · subst e; omega
    · subst e; omega
  have hw1 : IntKind.i64.wrap (h * Q) = q := by rw [← hq]; simp [IntKind.wrap, IntKind.bits, IntKind.signed]; omega
  have hw2 : IntKind.i64.wrap (2 + q) = 2 + q := by simp [IntKind.wrap, IntKind.bits, IntKind.signed]; omega
  rw [← hq]
  clear hq
  go_enter Tryz.func90, Tryz.ntmps90
  go_wp2_with (go_at_call 67; refine (halves_i _ _).mono ?_; rw [← HQ.out]; rintro e wz ⟨rfl, hwz⟩; rw [hwz]; clear hwz wz)
  go_ret
  exact ⟨rfl, rfl⟩

set_option maxHeartbeats 16000000 in
theorem writer_of (W S L T H F R U O : Int) (a : Option Addr) (n c : Nat) (w : World) (h0 : 0 ≤ H) (h1 : H ≤ 1) (f0 : 1 ≤ F) (f1 : F ≤ 999999000) (u0 : 0 ≤ U) (u1 : U ≤ 99) :
    Calls Tryz.prog 51 #[storeV W S L T H F R U O a n c] w fun e w' => ∃ g, e = .returned (.pointer (some ⟨g, 0, none⟩)) ∧ Wrt w' w.heap.size g (.slice none 0 0) [] (2 + H * hv S + U) (F + U) L W ∧ Below w.heap.size w w' := by
  have hQ : 0 ≤ hv S ∧ hv S ≤ 99 := by by_cases h : 8 ≤ S ∧ S ≤ 200; have := hv_yes h; omega; rw [hv_no h]; omega
  obtain ⟨q, hq⟩ : ∃ q, q = H * hv S := ⟨_, rfl⟩
  have hqb : 0 ≤ q ∧ q ≤ 99 := by
    rcases (show H = 0 ∨ H = 1 by omega) with e | e
    · subst e; omega
    · subst e; omega
  have HH := hid (fun w' => half_start S H h0 h1 w')
  rw [← hq] at HH ⊢
  clear hq
  have hw1 : IntKind.i64.wrap (2 + q + U) = 2 + q + U := by simp [IntKind.wrap, IntKind.bits, IntKind.signed]; omega
  have hw2 : IntKind.i64.wrap (F + U) = F + U := by simp [IntKind.wrap, IntKind.bits, IntKind.signed]; omega
  unfold storeV
  obtain ⟨wb, HWB⟩ : ∃ wb, wb = w.alloc (.cells #[.int .i64 W, .int .i64 S, .int .i64 L, .int .i64 T, .int .i64 H, .int .i64 F, .int .i64 R, .int .i64 U, .int .i64 O, .slice a n c] 35) := ⟨_, rfl⟩
  have HT : Hid (∀ w', Below wb.heap.size wb w' → w'.cell? ⟨w.heap.size, 0, none⟩ = some (.int .i64 W) ∧ w'.cell? ⟨w.heap.size, 1, none⟩ = some (.int .i64 S) ∧ w'.cell? ⟨w.heap.size, 2, none⟩ = some (.int .i64 L) ∧ w'.cell? ⟨w.heap.size, 4, none⟩ = some (.int .i64 H) ∧ w'.cell? ⟨w.heap.size, 5, none⟩ = some (.int .i64 F) ∧ w'.cell? ⟨w.heap.size, 7, none⟩ = some (.int .i64 U)) := fun w' hb => by
    have hsz : w.heap.size < wb.heap.size := by rw [HWB]; simp
    refine ⟨(hb.cell (p := ⟨w.heap.size, 0, none⟩) hsz).trans ?_, (hb.cell (p := ⟨w.heap.size, 1, none⟩) hsz).trans ?_, (hb.cell (p := ⟨w.heap.size, 2, none⟩) hsz).trans ?_, (hb.cell (p := ⟨w.heap.size, 4, none⟩) hsz).trans ?_, (hb.cell (p := ⟨w.heap.size, 5, none⟩) hsz).trans ?_, (hb.cell (p := ⟨w.heap.size, 7, none⟩) hsz).trans ?_⟩ <;> (rw [HWB]; go_simp)
  have HBB : Hid (Below w.heap.size w wb) := by show Below _ _ _; rw [HWB]; exact (Below.refl _ _).alloc (Nat.le_refl _) _
  go_enter Tryz.func51, Tryz.ntmps51
  go_wp2_with fail
  rw [← HWB]
  clear HWB
  go_region_held3 (fun w' => w'.cell? ⟨w.heap.size, 0, none⟩ = some (.int .i64 W) ∧ w'.cell? ⟨w.heap.size, 1, none⟩ = some (.int .i64 S) ∧ w'.cell? ⟨w.heap.size, 2, none⟩ = some (.int .i64 L) ∧ w'.cell? ⟨w.heap.size, 4, none⟩ = some (.int .i64 H) ∧ w'.cell? ⟨w.heap.size, 5, none⟩ = some (.int .i64 F) ∧ w'.cell? ⟨w.heap.size, 7, none⟩ = some (.int .i64 U))
    (first | assumption | exact HT.out _ ((Below.refl _ _).drew) | exact HT.out _ ((Below.refl _ _).drew.alloc (Nat.le_refl _) _))
    (first | (go_at_call 90; refine (HH.out _).mono ?_; rintro e wz ⟨rfl, rfl⟩))
  all_goals
    go_wp2
    go_ret
    refine ⟨wb.heap.size, rfl, ⟨row_at (w := wb.drew) rfl, World.ownsRow_nil _ _ _ _, HBB.out.size, by simp [Value.ownBlock]⟩, HBB.out.trans (((Below.refl _ _).drew.alloc (Nat.le_refl _) _).mono HBB.out.size)⟩

set_option maxHeartbeats 16000000 in
theorem sync_i (base g : Nat) (v : Value) (os : List OpT) (at_ nm lf wd : Int) (w : World) (h : Wrt w base g v os at_ nm lf wd) (hb : base ≤ w.heap.size) (hl : os.length ≤ 1000) :
    Calls Tryz.prog 72 #[.pointer (some ⟨g, 0, none⟩)] w fun e w' => (∃ x, e = .returned x) ∧ (∃ v', Wrt w' base g v' (os ++ [(true, 0, ByteArray.empty)]) at_ nm lf wd) ∧ Below base w w' := by
  obtain ⟨i0, hi0, hz0, hz1, hz2⟩ := info_partsP info_opW
  have HI := hid (And.intro hi0 (And.intro hz0 (And.intro hz1 hz2)))
  clear hi0 hz0 hz1 hz2
  obtain ⟨va, vc, rfl⟩ : ∃ va vc, v = Value.slice va os.length vc := by
    rcases owns_forms h.own with ⟨e1, e2⟩ | ⟨g, cap, e1, _⟩
    · exact ⟨none, 0, by rw [e1, e2]⟩
    · exact ⟨_, cap, e1⟩
  have q0 := h.row.cell 0 _ rfl
  have r0 := h.row.froz 0 (by simp)
  have lg := h.row.lt
  have HOA := hid (h.own.alloc (.cells #[.bool true, .int .i64 0, .string ⟨#[]⟩] 75))
  go_enter Tryz.func72, Tryz.ntmps72
  go_wp2_with (at_builtin; refine wpList_append_lies _ rfl _ _ 36 rfl base 75 i0 (.agg #[.bool false, .int .i64 0, .string ByteArray.empty]) 3 32 Tryz.underlying36 HI.out.1 HI.out.2.1 HI.out.2.2.1 HI.out.2.2.2 rfl (by omega) _ os.length _ rfl HOA.out ⟨w.heap.size, 0, none⟩ 1 1 [.bool true, .int .i64 0, .string ⟨#[]⟩] rfl rfl (World.news_of_block (heap_alloc_new w _)) (oneOp _ _ _) (by omega) (by unfold maxLen; omega) (by omega) (by simp; omega) (w.heap.size + 1) (by simp) ?_; intro g9 cap9 w9 hown9 hgrow9 hat9 hlt9; have HR9 := hid ((h.row.alloc _).grown hgrow9 (fun e => h.ne e.symm)); have q9 := HR9.out.cell 0 _ rfl; have r9 := HR9.out.froz 0 (by simp); have HO9 := hid hown9; have HB9 := hid (below_grownS ((Below.refl base w).alloc hb _) HOA.out hgrow9 (by simp; omega)); have hne9 : g9 ≠ g := (by rcases hat9 with e | e; exact fun e2 => h.ne (by rw [← e2]; exact e); omega); have HN9 := hid hne9; clear hown9 hgrow9 hat9 hne9)
  go_end0
  have hrow := HR9.out.set 0 (by simp) (.slice (some ⟨g9, 0, none⟩) (os.length + 1) cap9)
  refine ⟨⟨_, rfl⟩, ⟨.slice (some ⟨g9, 0, none⟩) (os.length + 1) cap9, hrow, ?_, h.ge, by simp [Value.ownBlock]; exact HN9.out⟩, HB9.out.setCell (p := ⟨g, 0, none⟩) h.ge _⟩
  have hgs : w9.grownBy (w9.setCell ⟨g, 0, none⟩ (.slice (some ⟨g9, 0, none⟩) (os.length + 1) cap9)) (some g) := ⟨rfl, rfl, rfl, by simp [World.setCell], fun k _ hk => Below.heap_setCell _ _ _ k (fun e => hk (by rw [e]))⟩
  have := HO9.out.kept hgs (.inr (by simp [Value.ownBlock]; exact HN9.out))
  rw [List.length_append, opcells_append]
  exact this
theorem Wrt.set {w : World} {base g : Nat} {v : Value} {os : List OpT} {at_ nm lf wd : Int} (h : Wrt w base g v os at_ nm lf wd) (b o : Nat) (hb : b < base) (u : Value) : Wrt (w.setCell ⟨b, o, none⟩ u) base g v os at_ nm lf wd := by
  have hgs : w.grownBy (w.setCell ⟨b, o, none⟩ u) (some b) := ⟨rfl, rfl, rfl, by simp [World.setCell], fun k _ hk => Below.heap_setCell _ _ _ k (fun e => hk (by rw [e]))⟩
  refine ⟨h.row.other _ (by show b ≠ g; have := h.ge; omega) _, h.own.kept hgs ?_, h.ge, h.ne⟩
  cases hk : v.ownBlock with
  | none => exact .inl rfl
  | some k =>
    refine .inr fun e => ?_
    cases e
    have := (h.own.lt b hk).1
    omega

end Go.Proofs.YtnmaknnnmjfhkafGreat
