import Derived.Test.YtnmaknnnmjfhkaeDoorQxScanMkB
import Derived.Test.YtnmaknnnmjfhkaeDoorQxScanScE
import Derived.Test.YtnmaknnnmjfhkaeDoorMgXScan47
import Derived.Test.YtnmaknnnmjfhkaeDoorQxScanEq

set_option maxHeartbeats 16000000
set_option maxRecDepth 8000
namespace Go.Proofs.YtnmaknnnmjfhkaeDoor
open Go.RowKit
set_option linter.unusedVariables false

/-- A fact that hangs on the blocks from lo up to hi alone. -/
structure Dep (w : World) (lo hi : Nat) (F : World → Prop) : Prop where
  now : F w
  top : hi ≤ w.heap.size
  keep : ∀ w' : World, (∀ b, lo ≤ b → b < hi → w'.heap[b]? = w.heap[b]?) → hi ≤ w'.heap.size → F w'
theorem Dep.below {w w' : World} {lo hi : Nat} {F : World → Prop} (h : Dep w lo hi F) (hb : Below w.heap.size w w') : Dep w' lo hi F :=
  ⟨h.keep w' (fun b _ h2 => hb.block b (Nat.lt_of_lt_of_le h2 h.top)) (Nat.le_trans h.top hb.size), Nat.le_trans h.top hb.size, fun w2 h2 h3 => h.keep w2 (fun b h4 h5 => (h2 b h4 h5).trans (hb.block b (Nat.lt_of_lt_of_le h5 h.top))) h3⟩
theorem Dep.grown {w w' : World} {lo hi : Nat} {F : World → Prop} {r : Option Nat} (h : Dep w lo hi F) (hg : w.grownBy w' r) (hr : ∀ g, r = some g → g < lo ∨ hi ≤ g) : Dep w' lo hi F := by
  have key : ∀ b, lo ≤ b → b < hi → w'.heap[b]? = w.heap[b]? := fun b h1 h2 => hg.block b (Nat.lt_of_lt_of_le h2 h.top) (fun e => by have := hr b e.symm; omega)
  exact ⟨h.keep w' key (Nat.le_trans h.top hg.size), Nat.le_trans h.top hg.size, fun w2 h2 h3 => h.keep w2 (fun b h4 h5 => (h2 b h4 h5).trans (key b h4 h5)) h3⟩
theorem Dep.and {w : World} {lo hi : Nat} {F G : World → Prop} (h : Dep w lo hi F) (k : Dep w lo hi G) : Dep w lo hi (fun w => F w ∧ G w) := ⟨⟨h.now, k.now⟩, h.top, fun w' h1 h2 => ⟨h.keep w' h1 h2, k.keep w' h1 h2⟩⟩
theorem Dep.wide {w : World} {lo hi lo' hi' : Nat} {F : World → Prop} (h : Dep w lo hi F) (h1 : lo' ≤ lo) (h2 : hi ≤ hi') (h3 : hi' ≤ w.heap.size) : Dep w lo' hi' F := ⟨h.now, h3, fun w' k1 k2 => h.keep w' (fun b a c => k1 b (by omega) (by omega)) (by omega)⟩
theorem row_same {w w' : World} {g : Nat} {cs : List Value} (h : Row w g cs) (e : w'.heap[g]? = w.heap[g]?) (hs : g < w'.heap.size) : Row w' g cs :=
  ⟨hs, fun i v hv => by rw [← h.cell i v hv]; simp [World.cell?, e], fun i hi => by rw [← h.froz i hi]; simp [World.frozen?, e]⟩
theorem dep_row {w : World} {g lo hi : Nat} {cs : List Value} (h : Row w g cs) (h1 : lo ≤ g) (h2 : g < hi) (h3 : hi ≤ w.heap.size) : Dep w lo hi (fun w => Row w g cs) := ⟨h, h3, fun w' k1 k2 => row_same h (k1 g h1 h2) (by omega)⟩
theorem dep_own {w : World} {a : Option Addr} {lo n : Nat} {cs : List Value} (h : OwnS w a cs) (hn : cs ≠ [] → n ≠ 0) (h1 : ∀ g, blk a n = some g → lo ≤ g) : Dep w lo w.heap.size (fun w => OwnS w a cs) :=
  ⟨h, Nat.le_refl _, fun w' k1 k2 => by
    by_cases h0 : cs = []
    · exact .inl h0
    · obtain ⟨g, rfl, hr⟩ := h.resolve_left h0
      exact .inr ⟨g, rfl, row_same hr (k1 g (h1 g (blk_pos _ _ _ (hn h0))) hr.lt) (Nat.lt_of_lt_of_le hr.lt k2)⟩⟩
theorem Dep.cut {w : World} {a : Option Addr} {lo hi : Nat} {cs : List Value} (h : Dep w lo w.heap.size (fun w => OwnS w a cs)) (h1 : ∀ g, a = some ⟨g, 0, none⟩ → cs ≠ [] → g < hi) (h2 : hi ≤ w.heap.size) (h3 : ∀ g, a = some ⟨g, 0, none⟩ → cs ≠ [] → lo ≤ g) : Dep w lo hi (fun w => OwnS w a cs) :=
  ⟨h.now, h2, fun w' k1 k2 => by
    by_cases h0 : cs = []
    · exact .inl h0
    · obtain ⟨g, rfl, hr⟩ := h.now.resolve_left h0
      exact .inr ⟨g, rfl, row_same hr (k1 g (h3 g rfl h0) (h1 g rfl h0)) (Nat.lt_of_lt_of_le (h1 g rfl h0) k2)⟩⟩
theorem blk_is {g n k : Nat} (h : blk (some ⟨g, 0, none⟩) n = some k) : k = g := by
  unfold blk at h
  split at h
  · cases h
  · simp at h; exact h.symm
theorem Dep.low {w w' : World} {lo hi N : Nat} {F : World → Prop} (h : Dep w lo hi F) (hb : Below N w w') (hN : hi ≤ N) : Dep w' lo hi F :=
  ⟨h.keep w' (fun b _ h2 => hb.block b (by omega)) (Nat.le_trans h.top hb.size), Nat.le_trans h.top hb.size, fun w2 h2 h3 => h.keep w2 (fun b h4 h5 => (h2 b h4 h5).trans (hb.block b (by omega))) h3⟩
theorem dep_box (w : World) (A : Array Value) (t : TypeId) : Dep (w.alloc (.cells A t)) w.heap.size (w.heap.size + 1) (fun W => Row W w.heap.size A.toList) := dep_row (row_new w A t) (Nat.le_refl _) (by omega) (by simp)
theorem blk_le {a : Option Addr} {n g : Nat} {cs : List Value} {w : World} (h : OwnS w a cs) (hn : n ≠ 0 → cs ≠ []) (hg : blk a n = some g) : g < w.heap.size := h.lt n hn g hg
end Go.Proofs.YtnmaknnnmjfhkaeDoor

namespace Go.Proofs.YtnmaknnnmjfhkaeDoor
open Go.RowKit
set_option maxRecDepth 4000
set_option linter.unusedVariables false
set_option linter.unusedSimpArgs false

@[reducible] def scV (a : Option Addr) (n c : Nat) (u l : Int) : Value := .agg #[.slice a n c, .int .i64 u, .int .i64 l]
set_option maxHeartbeats 16000000 in
theorem eq_sc (a b : Option Addr) (ss : List ByteArray) (c c' : Nat) (u l : Int) (w : World) (h : Strs w a ss) (h' : Strs w b ss) (hl : ss.length ≤ 1048576) :
    Calls Tryd.prog 23 #[scV a ss.length c u l, scV b ss.length c' u l] w fun e w' => e = .returned (.bool true) ∧ Below w.heap.size w w' := by
  have hb0 : ∀ o1 o2, Below w.heap.size w ((w.alloc o1).alloc o2) := fun o1 o2 => ((Below.refl _ _).alloc (Nat.le_refl _) _).alloc (by simp) _
  go_enter Tryd.func23, Tryd.ntmps23
  go_wp2_with fail
  refine (eq_strs a b ss c c' _ (h.below (hb0 _ _)) (h'.below (hb0 _ _)) hl).mono ?_
  rintro e w1 ⟨rfl, hb1⟩
  have r2 := ((row_new' w #[.slice a ss.length c, .int .i64 u, .int .i64 l] 38 w.heap.size rfl).alloc (.cells #[.slice b ss.length c', .int .i64 u, .int .i64 l] 38)).below hb1
  have r3 := (row_new' (w.alloc (.cells #[.slice a ss.length c, .int .i64 u, .int .i64 l] 38)) #[.slice b ss.length c', .int .i64 u, .int .i64 l] 38 (w.heap.size + 1) (by simp)).below hb1
  have x1 := r2.cell 1 _ rfl
  have x2 := r2.cell 2 _ rfl
  have xl := r2.lt
  have y1 := r3.cell 1 _ rfl
  have y2 := r3.cell 2 _ rfl
  have yl := r3.lt
  have HB := hid ((hb0 (.cells #[.slice a ss.length c, .int .i64 u, .int .i64 l] 38) (.cells #[.slice b ss.length c', .int .i64 u, .int .i64 l] 38)).trans (hb1.mono (by simp <;> omega)))
  clear hb1 r2 r3
  go_wp2
  go_ret
  exact ⟨rfl, HB.out⟩
set_option maxHeartbeats 16000000 in
theorem mark_sc (a : Option Addr) (ss : List ByteArray) (c : Nat) (u l : Int) (k : Nat) (w : World) (h : OwnS w a (ss.map Value.string)) (hk : 0 < k) (hl : k + ss.length ≤ 100000000) :
    Calls Tryd.prog 25 #[scV a ss.length c u l, .int .i64 (k : Int)] w fun e w' => e = .returned (.int .i64 ((k + ss.length : Nat) : Int)) ∧ (∃ w1, Below w.heap.size w w1 ∧ w1.grownBy w' (blk a ss.length)) ∧ OwnS w' a ((marks k ss.length).map Value.string) := by
  have hb0 : ∀ o, Below w.heap.size w (w.alloc o) := fun o => (Below.refl _ _).alloc (Nat.le_refl _) _
  go_enter Tryd.func25, Tryd.ntmps25
  go_wp2_with fail
  refine (mark_strs a ss c k _ (h.below (hb0 _)) hk hl).mono ?_
  rintro e w1 ⟨rfl, hg1, ho1⟩
  go_wp2
  go_ret
  exact ⟨rfl, ⟨_, hb0 _, hg1⟩, ho1⟩
set_option maxHeartbeats 16000000 in
theorem held_sc (a : Option Addr) (n c : Nat) (u l : Int) (k : Nat) (w : World) (h : OwnS w a ((marks k n).map Value.string)) (hk : 0 < k) (hl : k + n ≤ 100000000) :
    Calls Tryd.prog 26 #[scV a n c u l, .int .i64 (k : Int)] w fun e w' => e = .returned (.int .i64 ((k + n : Nat) : Int)) ∧ Below w.heap.size w w' := by
  have hb0 : ∀ o, Below w.heap.size w (w.alloc o) := fun o => (Below.refl _ _).alloc (Nat.le_refl _) _
  have hk0 : (0 : Int) ≤ ((k + n : Nat) : Int) := by omega
  obtain ⟨m, hm⟩ : ∃ m, m = k + n := ⟨_, rfl⟩
  have HH := hid (fun wx hx => held_strs a n c k wx hx hk hl)
  rw [← hm] at HH hk0 ⊢
  clear hm
  go_enter Tryd.func26, Tryd.ntmps26
  go_wp2_with fail
  refine (HH.out _ (h.below (hb0 _))).mono ?_
  rintro e w1 ⟨rfl, hb1⟩
  go_wp2
  go_ret
  exact ⟨rfl, (hb0 _).trans (hb1.mono (by simp))⟩
theorem scpost_own {w w' : World} {e : Ending} {x : Scd} (h : ScPost w w' e x) : ∃ a c, e = .returned (scV a x.1.length c x.2.1 x.2.2) ∧ OwnS w' a (x.1.map Value.string) ∧ (∀ g, blk a x.1.length = some g → w.heap.size ≤ g) ∧ Below w.heap.size w w' := by
  obtain ⟨y, rfl, ho, hb⟩ := h
  rcases owns_forms ho with ⟨e1, e2⟩ | ⟨g, cap, e1, h1, h2, hr⟩
  · subst e1
    have : x.1 = [] := List.eq_nil_of_length_eq_zero e2
    exact ⟨none, 0, by rw [e2], .inl (by rw [this]; rfl), fun g hg => (by rw [e2] at hg; cases hg), hb⟩
  · subst e1
    refine ⟨_, cap, rfl, .inr ⟨g, rfl, hr⟩, fun g' hg => ?_, hb⟩
    have := blk_is hg
    omega
theorem scD_len (ss : List ByteArray) (ws : List (Int × ByteArray)) (frm size first life n : Int) : (scD ss ws frm size first life n).1.length ≤ 200 := by
  unfold scD
  split
  · rename_i h
    obtain ⟨hok, hn, f0, s0, f1, s1⟩ := h
    have h2 := (diskOk_of hok).1
    have := (scanP_size (fun k => (syncs ws ss).getD k ByteArray.empty) frm.toNat first n size.toNat 0 0 life ByteArray.empty ([], 0, life) (64 * size.toNat) (by simp) (by intro e he; cases he)).2
    simp only [List.length_nil] at this
    omega
  · simp
end Go.Proofs.YtnmaknnnmjfhkaeDoor
