import Derived.Test.YtnmaknnnmjfhkafGreatMgXCompact15
import Derived.Test.YtnmaknnnmjfhkafGreatQxCompactVStS
namespace Go.Proofs.YtnmaknnnmjfhkafGreat
open Go.RowKit
set_option maxRecDepth 8000
set_option linter.unusedVariables false
set_option linter.unusedSimpArgs false

theorem info_opW : (Tryz.prog.info? 75).map (fun i => (i.zero, i.size, i.bytes)) = some (some (.agg #[.bool false, .int .i64 0, .string ByteArray.empty]), 3, 32) := by kernel_rfl
/-- A writer: its ops are its own. -/
structure Wrt (w : World) (base g : Nat) (v : Value) (os : List OpT) (at_ nm lf wd : Int) : Prop where
  row : Row w g [v, .int .i64 at_, .int .i64 nm, .int .i64 lf, .int .i64 wd]
  own : w.ownsRow base 75 3 v os.length (opcells os)
  ge : base ≤ g
  ne : v.ownBlock ≠ some g
theorem Wrt.below {w w' : World} {base g : Nat} {v : Value} {os : List OpT} {at_ nm lf wd : Int} (h : Wrt w base g v os at_ nm lf wd) (hb : Below w.heap.size w w') : Wrt w' base g v os at_ nm lf wd := ⟨h.row.below hb, owns_below h.own hb, h.ge, h.ne⟩
theorem oneOp (b : Bool) (n : Int) (s : ByteArray) : ∀ u ∈ [Value.bool b, .int .i64 n, .string s], u.oneCell' = true := by
  intro u hu
  simp only [List.mem_cons, List.not_mem_nil, or_false] at hu
  rcases hu with rfl | rfl | rfl <;> rfl
theorem half_start (n h : Int) (h0 : 0 ≤ h) (h1 : h ≤ 1) (w : World) : Calls Tryz.prog 90 #[.int .i64 n, .int .i64 h] w fun e w' => e = .returned (.int .i64 (2 + h * hv n)) ∧ w' = w := by
  have hQ : 0 ≤ hv n ∧ hv n ≤ 99 := by by_cases h : 8 ≤ n ∧ n ≤ 200; have := hv_yes h; omega; rw [hv_no h]; omega
  obtain ⟨Q, HQ⟩ : ∃ Q, Hid (Q = hv n) := ⟨_, hid rfl⟩
  rw [← HQ.out] at hQ ⊢
  obtain ⟨q, hq⟩ : ∃ q, q = h * Q := ⟨_, rfl⟩
  have hqb : 0 ≤ q ∧ q ≤ 99 := by
    rcases (show h = 0 ∨ h = 1 by omega) with e | e
    · subst e; omega
    · subst e; omega
  have hw1 : IntKind.i64.wrap (h * Q) = q := by rw [← hq]; simp [IntKind.wrap, IntKind.bits, IntKind.signed]; omega
  have hw2 : IntKind.i64.wrap (2 + q) = 2 + q := by simp [IntKind.wrap, IntKind.bits, IntKind.signed]; omega
  rw [← hq]
  clear hq
  go_enter Tryz.func90, Tryz.ntmps90
  go_wp2_with (go_at_call 67; refine (halves_i _ _).mono ?_; rw [← HQ.out]; rintro e wz ⟨rfl, hwz⟩; rw [hwz]; clear hwz wz)
  go_ret
  exact ⟨rfl, rfl⟩

set_option maxHeartbeats 4000000 in
theorem writer_of (W S L T H F R U O : Int) (a : Option Addr) (n c : Nat) (w : World) (h0 : 0 ≤ H) (h1 : H ≤ 1) (f0 : 1 ≤ F) (f1 : F ≤ 999999000) (u0 : 0 ≤ U) (u1 : U ≤ 99) :
    Calls Tryz.prog 51 #[storeV W S L T H F R U O a n c] w fun e w' => ∃ g, e = .returned (.pointer (some ⟨g, 0, none⟩)) ∧ Wrt w' w.heap.size g (.slice none 0 0) [] (2 + H * hv S + U) (F + U) L W ∧ Below w.heap.size w w' := by
  have hQ : 0 ≤ hv S ∧ hv S ≤ 99 := by by_cases h : 8 ≤ S ∧ S ≤ 200; have := hv_yes h; omega; rw [hv_no h]; omega
  obtain ⟨q, hq⟩ : ∃ q, q = H * hv S := ⟨_, rfl⟩
  have hqb : 0 ≤ q ∧ q ≤ 99 := by
    rcases (show H = 0 ∨ H = 1 by omega) with e | e
    · subst e; omega
    · subst e; omega
  have HH := hid (fun w' => half_start S H h0 h1 w')
  rw [← hq] at HH ⊢
  clear hq
  have hw1 : IntKind.i64.wrap (2 + q + U) = 2 + q + U := by simp [IntKind.wrap, IntKind.bits, IntKind.signed]; omega
  have hw2 : IntKind.i64.wrap (F + U) = F + U := by simp [IntKind.wrap, IntKind.bits, IntKind.signed]; omega
  unfold storeV
  obtain ⟨wb, HWB⟩ : ∃ wb, wb = w.alloc (.cells #[.int .i64 W, .int .i64 S, .int .i64 L, .int .i64 T, .int .i64 H, .int .i64 F, .int .i64 R, .int .i64 U, .int .i64 O, .slice a n c] 35) := ⟨_, rfl⟩
  have HT : Hid (∀ w', Below wb.heap.size wb w' → w'.cell? ⟨w.heap.size, 0, none⟩ = some (.int .i64 W) ∧ w'.cell? ⟨w.heap.size, 1, none⟩ = some (.int .i64 S) ∧ w'.cell? ⟨w.heap.size, 2, none⟩ = some (.int .i64 L) ∧ w'.cell? ⟨w.heap.size, 4, none⟩ = some (.int .i64 H) ∧ w'.cell? ⟨w.heap.size, 5, none⟩ = some (.int .i64 F) ∧ w'.cell? ⟨w.heap.size, 7, none⟩ = some (.int .i64 U)) := fun w' hb => by
    have hsz : w.heap.size < wb.heap.size := by rw [HWB]; simp
    refine ⟨(hb.cell (p := ⟨w.heap.size, 0, none⟩) hsz).trans ?_, (hb.cell (p := ⟨w.heap.size, 1, none⟩) hsz).trans ?_, (hb.cell (p := ⟨w.heap.size, 2, none⟩) hsz).trans ?_, (hb.cell (p := ⟨w.heap.size, 4, none⟩) hsz).trans ?_, (hb.cell (p := ⟨w.heap.size, 5, none⟩) hsz).trans ?_, (hb.cell (p := ⟨w.heap.size, 7, none⟩) hsz).trans ?_⟩ <;> (rw [HWB]; go_simp)
  have HBB : Hid (Below w.heap.size w wb) := by show Below _ _ _; rw [HWB]; exact (Below.refl _ _).alloc (Nat.le_refl _) _
  go_enter Tryz.func51, Tryz.ntmps51
  go_wp2_with fail
  rw [← HWB]
  clear HWB
  go_region_held3 (fun w' => w'.cell? ⟨w.heap.size, 0, none⟩ = some (.int .i64 W) ∧ w'.cell? ⟨w.heap.size, 1, none⟩ = some (.int .i64 S) ∧ w'.cell? ⟨w.heap.size, 2, none⟩ = some (.int .i64 L) ∧ w'.cell? ⟨w.heap.size, 4, none⟩ = some (.int .i64 H) ∧ w'.cell? ⟨w.heap.size, 5, none⟩ = some (.int .i64 F) ∧ w'.cell? ⟨w.heap.size, 7, none⟩ = some (.int .i64 U))
    (first | assumption | exact HT.out _ ((Below.refl _ _).drew) | exact HT.out _ ((Below.refl _ _).drew.alloc (Nat.le_refl _) _))
    (first | (go_at_call 90; refine (HH.out _).mono ?_; rintro e wz ⟨rfl, rfl⟩))
  all_goals
    go_wp2
    go_ret
    refine ⟨wb.heap.size, rfl, ⟨row_at (w := wb.drew) rfl, World.ownsRow_nil _ _ _ _, HBB.out.size, by simp [Value.ownBlock]⟩, HBB.out.trans (((Below.refl _ _).drew.alloc (Nat.le_refl _) _).mono HBB.out.size)⟩

set_option maxHeartbeats 4000000 in
theorem sync_i (base g : Nat) (v : Value) (os : List OpT) (at_ nm lf wd : Int) (w : World) (h : Wrt w base g v os at_ nm lf wd) (hb : base ≤ w.heap.size) (hl : os.length ≤ 1000) :
    Calls Tryz.prog 72 #[.pointer (some ⟨g, 0, none⟩)] w fun e w' => (∃ x, e = .returned x) ∧ (∃ v', Wrt w' base g v' (os ++ [(true, 0, ByteArray.empty)]) at_ nm lf wd) ∧ Below base w w' := by
  obtain ⟨i0, hi0, hz0, hz1, hz2⟩ := info_partsP info_opW
  have HI := hid (And.intro hi0 (And.intro hz0 (And.intro hz1 hz2)))
  clear hi0 hz0 hz1 hz2
  obtain ⟨va, vc, rfl⟩ : ∃ va vc, v = Value.slice va os.length vc := by
    rcases owns_forms h.own with ⟨e1, e2⟩ | ⟨g, cap, e1, _⟩
    · exact ⟨none, 0, by rw [e1, e2]⟩
    · exact ⟨_, cap, e1⟩
  have q0 := h.row.cell 0 _ rfl
  have r0 := h.row.froz 0 (by simp)
  have lg := h.row.lt
  have HOA := hid (h.own.alloc (.cells #[.bool true, .int .i64 0, .string ⟨#[]⟩] 75))
  go_enter Tryz.func72, Tryz.ntmps72
  go_wp2_with (at_builtin; refine wpList_append_lies _ rfl _ _ 36 rfl base 75 i0 (.agg #[.bool false, .int .i64 0, .string ByteArray.empty]) 3 32 Tryz.underlying36 HI.out.1 HI.out.2.1 HI.out.2.2.1 HI.out.2.2.2 rfl (by omega) _ os.length _ rfl HOA.out ⟨w.heap.size, 0, none⟩ 1 1 [.bool true, .int .i64 0, .string ⟨#[]⟩] rfl rfl (World.news_of_block (heap_alloc_new w _)) (oneOp _ _ _) (by omega) (by unfold maxLen; omega) (by omega) (by simp; omega) (w.heap.size + 1) (by simp) ?_; intro g9 cap9 w9 hown9 hgrow9 hat9 hlt9; have HR9 := hid ((h.row.alloc _).grown hgrow9 (fun e => h.ne e.symm)); have q9 := HR9.out.cell 0 _ rfl; have r9 := HR9.out.froz 0 (by simp); have HO9 := hid hown9; have HB9 := hid (below_grownS ((Below.refl base w).alloc hb _) HOA.out hgrow9 (by simp; omega)); have hne9 : g9 ≠ g := (by rcases hat9 with e | e; exact fun e2 => h.ne (by rw [← e2]; exact e); omega); have HN9 := hid hne9; clear hown9 hgrow9 hat9 hne9)
  go_end0
  have hrow := HR9.out.set 0 (by simp) (.slice (some ⟨g9, 0, none⟩) (os.length + 1) cap9)
  refine ⟨⟨_, rfl⟩, ⟨.slice (some ⟨g9, 0, none⟩) (os.length + 1) cap9, hrow, ?_, h.ge, by simp [Value.ownBlock]; exact HN9.out⟩, HB9.out.setCell (p := ⟨g, 0, none⟩) h.ge _⟩
  have hgs : w9.grownBy (w9.setCell ⟨g, 0, none⟩ (.slice (some ⟨g9, 0, none⟩) (os.length + 1) cap9)) (some g) := ⟨rfl, rfl, rfl, by simp [World.setCell], fun k _ hk => Below.heap_setCell _ _ _ k (fun e => hk (by rw [e]))⟩
  have := HO9.out.kept hgs (.inr (by simp [Value.ownBlock]; exact HN9.out))
  rw [List.length_append, opcells_append]
  exact this
theorem Wrt.set {w : World} {base g : Nat} {v : Value} {os : List OpT} {at_ nm lf wd : Int} (h : Wrt w base g v os at_ nm lf wd) (b o : Nat) (hb : b < base) (u : Value) : Wrt (w.setCell ⟨b, o, none⟩ u) base g v os at_ nm lf wd := by
  have hgs : w.grownBy (w.setCell ⟨b, o, none⟩ u) (some b) := ⟨rfl, rfl, rfl, by simp [World.setCell], fun k _ hk => Below.heap_setCell _ _ _ k (fun e => hk (by rw [e]))⟩
  refine ⟨h.row.other _ (by show b ≠ g; have := h.ge; omega) _, h.own.kept hgs ?_, h.ge, h.ne⟩
  cases hk : v.ownBlock with
  | none => exact .inl rfl
  | some k =>
    refine .inr fun e => ?_
    cases e
    have := (h.own.lt b hk).1
    omega

end Go.Proofs.YtnmaknnnmjfhkafGreat
