import Derived.Test.YtnmaknnnmjfhkafGreatDoorMgXForged4
namespace Go.Proofs.YtnmaknnnmjfhkafGreatDoor
open Go.RowKit
set_option linter.unusedVariables false

/-- A fact that hangs on the blocks from lo up to hi alone. -/
structure Dep (w : World) (lo hi : Nat) (F : World → Prop) : Prop where
  now : F w
  top : hi ≤ w.heap.size
  keep : ∀ w' : World, (∀ b, lo ≤ b → b < hi → w'.heap[b]? = w.heap[b]?) → hi ≤ w'.heap.size → F w'
theorem Dep.below {w w' : World} {lo hi : Nat} {F : World → Prop} (h : Dep w lo hi F) (hb : Below w.heap.size w w') : Dep w' lo hi F :=
  ⟨h.keep w' (fun b _ h2 => hb.block b (Nat.lt_of_lt_of_le h2 h.top)) (Nat.le_trans h.top hb.size), Nat.le_trans h.top hb.size, fun w2 h2 h3 => h.keep w2 (fun b h4 h5 => (h2 b h4 h5).trans (hb.block b (Nat.lt_of_lt_of_le h5 h.top))) h3⟩
theorem Dep.grown {w w' : World} {lo hi : Nat} {F : World → Prop} {r : Option Nat} (h : Dep w lo hi F) (hg : w.grownBy w' r) (hr : ∀ g, r = some g → g < lo ∨ hi ≤ g) : Dep w' lo hi F := by
  have key : ∀ b, lo ≤ b → b < hi → w'.heap[b]? = w.heap[b]? := fun b h1 h2 => hg.block b (Nat.lt_of_lt_of_le h2 h.top) (fun e => by have := hr b e.symm; omega)
  exact ⟨h.keep w' key (Nat.le_trans h.top hg.size), Nat.le_trans h.top hg.size, fun w2 h2 h3 => h.keep w2 (fun b h4 h5 => (h2 b h4 h5).trans (key b h4 h5)) h3⟩
theorem Dep.and {w : World} {lo hi : Nat} {F G : World → Prop} (h : Dep w lo hi F) (k : Dep w lo hi G) : Dep w lo hi (fun w => F w ∧ G w) := ⟨⟨h.now, k.now⟩, h.top, fun w' h1 h2 => ⟨h.keep w' h1 h2, k.keep w' h1 h2⟩⟩
theorem Dep.wide {w : World} {lo hi lo' hi' : Nat} {F : World → Prop} (h : Dep w lo hi F) (h1 : lo' ≤ lo) (h2 : hi ≤ hi') (h3 : hi' ≤ w.heap.size) : Dep w lo' hi' F := ⟨h.now, h3, fun w' k1 k2 => h.keep w' (fun b a c => k1 b (by omega) (by omega)) (by omega)⟩
theorem row_same {w w' : World} {g : Nat} {cs : List Value} (h : Row w g cs) (e : w'.heap[g]? = w.heap[g]?) (hs : g < w'.heap.size) : Row w' g cs :=
  ⟨hs, fun i v hv => by rw [← h.cell i v hv]; simp [World.cell?, e], fun i hi => by rw [← h.froz i hi]; simp [World.frozen?, e]⟩
theorem dep_row {w : World} {g lo hi : Nat} {cs : List Value} (h : Row w g cs) (h1 : lo ≤ g) (h2 : g < hi) (h3 : hi ≤ w.heap.size) : Dep w lo hi (fun w => Row w g cs) := ⟨h, h3, fun w' k1 k2 => row_same h (k1 g h1 h2) (by omega)⟩
theorem dep_own {w : World} {a : Option Addr} {lo n : Nat} {cs : List Value} (h : OwnS w a cs) (hn : cs ≠ [] → n ≠ 0) (h1 : ∀ g, blk a n = some g → lo ≤ g) : Dep w lo w.heap.size (fun w => OwnS w a cs) :=
  ⟨h, Nat.le_refl _, fun w' k1 k2 => by
    by_cases h0 : cs = []
    · exact .inl h0
    · obtain ⟨g, rfl, hr⟩ := h.resolve_left h0
      exact .inr ⟨g, rfl, row_same hr (k1 g (h1 g (blk_pos _ _ _ (hn h0))) hr.lt) (Nat.lt_of_lt_of_le hr.lt k2)⟩⟩
theorem Dep.cut {w : World} {a : Option Addr} {lo hi : Nat} {cs : List Value} (h : Dep w lo w.heap.size (fun w => OwnS w a cs)) (h1 : ∀ g, a = some ⟨g, 0, none⟩ → cs ≠ [] → g < hi) (h2 : hi ≤ w.heap.size) (h3 : ∀ g, a = some ⟨g, 0, none⟩ → cs ≠ [] → lo ≤ g) : Dep w lo hi (fun w => OwnS w a cs) :=
  ⟨h.now, h2, fun w' k1 k2 => by
    by_cases h0 : cs = []
    · exact .inl h0
    · obtain ⟨g, rfl, hr⟩ := h.now.resolve_left h0
      exact .inr ⟨g, rfl, row_same hr (k1 g (h3 g rfl h0) (h1 g rfl h0)) (Nat.lt_of_lt_of_le (h1 g rfl h0) k2)⟩⟩
theorem blk_is {g n k : Nat} (h : blk (some ⟨g, 0, none⟩) n = some k) : k = g := by
  unfold blk at h
  split at h
  · cases h
  · simp at h; exact h.symm
theorem Dep.low {w w' : World} {lo hi N : Nat} {F : World → Prop} (h : Dep w lo hi F) (hb : Below N w w') (hN : hi ≤ N) : Dep w' lo hi F :=
  ⟨h.keep w' (fun b _ h2 => hb.block b (by omega)) (Nat.le_trans h.top hb.size), Nat.le_trans h.top hb.size, fun w2 h2 h3 => h.keep w2 (fun b h4 h5 => (h2 b h4 h5).trans (hb.block b (by omega))) h3⟩
theorem dep_box (w : World) (A : Array Value) (t : TypeId) : Dep (w.alloc (.cells A t)) w.heap.size (w.heap.size + 1) (fun W => Row W w.heap.size A.toList) := dep_row (row_new w A t) (Nat.le_refl _) (by omega) (by simp)
theorem blk_le {a : Option Addr} {n g : Nat} {cs : List Value} {w : World} (h : OwnS w a cs) (hn : n ≠ 0 → cs ≠ []) (hg : blk a n = some g) : g < w.heap.size := h.lt n hn g hg
end Go.Proofs.YtnmaknnnmjfhkafGreatDoor
