import Derived.Test.YtnmaknnnmjfhkaeDoorQxScanDrs
import Derived.Great.BuildSlice
namespace Go.Proofs.YtnmaknnnmjfhkaeDoor
open Go.RowKit
set_option maxRecDepth 4000

/-- One part that fills the whole. -/
theorem fold_whole (cs : List Value) (z : Array Value) (hz : z.size = cs.length) : (cs.toArray.zipIdx.foldl (fun r (x : Value × Nat) => r.setIfInBounds (0 + x.2) x.1) z) = cs.toArray := by
  rw [← Array.foldl_toList, Array.toList_zipIdx]
  obtain ⟨h1, h2⟩ := Great.foldl_set 0 cs 0 z
  apply Array.ext_getElem?
  intro k
  have := h2 k
  rw [this]
  by_cases hk : k < cs.length
  · rw [if_pos (by omega)]; simp
  · rw [if_neg (by omega), Array.getElem?_eq_none (by omega), Array.getElem?_eq_none (by simpa using hk)]
/-- A part of one cell, then the rest. -/
theorem fold_two (v : Value) (cs : List Value) (z : Array Value) (hz : z.size = cs.length + 1) : (cs.toArray.zipIdx.foldl (fun r (x : Value × Nat) => r.setIfInBounds (1 + x.2) x.1) (#[v].zipIdx.foldl (fun r (x : Value × Nat) => r.setIfInBounds (0 + x.2) x.1) z)) = (v :: cs).toArray := by
  rw [← Array.foldl_toList, ← Array.foldl_toList, Array.toList_zipIdx, Array.toList_zipIdx]
  obtain ⟨h1, h2⟩ := Great.foldl_set 0 [v] 0 z
  obtain ⟨h3, h4⟩ := Great.foldl_set 1 cs 0 (([v].zipIdx 0).foldl (fun cs (x : Value × Nat) => cs.setIfInBounds (0 + x.2) x.1) z)
  apply Array.ext_getElem?
  intro k
  have e := h4 k
  rw [e]
  by_cases hk : 1 ≤ k ∧ k < 1 + cs.length
  · rw [if_pos ⟨by omega, by omega, by rw [h1]; omega⟩]
    obtain ⟨j, rfl⟩ : ∃ j, k = j + 1 := ⟨k - 1, by omega⟩
    simp
  · rw [if_neg (by omega), h2 k]
    by_cases h0 : k = 0
    · subst h0
      rw [if_pos ⟨by omega, by simp, by omega⟩]
      simp
    · rw [if_neg (by simp; omega), Array.getElem?_eq_none (by omega), Array.getElem?_eq_none (by simp; omega)]

theorem fold_two' (v : Value) (cs : List Value) (z : Array Value) (hz : z.size = cs.length + 1) : List.foldl (fun (r : Array Value) (x : Value × Nat) => r.setIfInBounds (1 + x.snd) x.fst) (z.setIfInBounds 0 v) cs.zipIdx = (v :: cs).toArray := by
  obtain ⟨h3, h4⟩ := Great.foldl_set 1 cs 0 (z.setIfInBounds 0 v)
  apply Array.ext_getElem?
  intro k
  have e := h4 k
  rw [e, Array.size_setIfInBounds]
  by_cases hk : 1 ≤ k ∧ k < 1 + cs.length
  · rw [if_pos ⟨by omega, by omega, by omega⟩]
    obtain ⟨j, rfl⟩ : ∃ j, k = j + 1 := ⟨k - 1, by omega⟩
    simp
  · rw [if_neg (by omega)]
    by_cases h0 : k = 0
    · subst h0
      simp [show 0 < z.size by omega]
    · rw [Array.getElem?_eq_none (by simp; omega), Array.getElem?_eq_none (by simp; omega)]
theorem fold_tail (v : Value) (cs : List Value) (n : Nat) (hn : cs.length + 1 = n) (z : Array Value) (hz : z.size = n) (h0 : z[0]? = some v) : List.foldl (fun (r : Array Value) (x : Value × Nat) => r.setIfInBounds x.snd x.fst) z (cs.zipIdx 1) = (v :: cs).toArray := by
  obtain ⟨h3, h4⟩ := Great.foldl_set 0 cs 1 z
  have e0 : (fun (r : Array Value) (x : Value × Nat) => r.setIfInBounds (0 + x.2) x.1) = fun (r : Array Value) (x : Value × Nat) => r.setIfInBounds x.snd x.fst := by funext r x; rw [Nat.zero_add]
  rw [e0] at h3 h4
  apply Array.ext_getElem?
  intro k
  rw [h4 k]
  by_cases hk : 1 ≤ k ∧ k < 1 + cs.length
  · rw [if_pos ⟨by omega, by omega, by omega⟩]
    obtain ⟨j, rfl⟩ : ∃ j, k = j + 1 := ⟨k - 1, by omega⟩
    simp
  · rw [if_neg (by omega)]
    by_cases hk0 : k = 0
    · subst hk0; rw [h0]; simp
    · rw [Array.getElem?_eq_none (by omega), Array.getElem?_eq_none (by simp; omega)]
theorem fold_one' (cs : List Value) (z : Array Value) (hz : z.size = cs.length) : List.foldl (fun (r : Array Value) (x : Value × Nat) => r.setIfInBounds x.snd x.fst) z cs.zipIdx = cs.toArray := by
  have h := fold_whole cs z hz
  rw [← Array.foldl_toList, Array.toList_zipIdx] at h
  simpa using h
theorem heldZ_size : heldZ.size = 65 := by kernel_rfl
theorem heldZ_ne : ¬ (heldZ = #[]) := fun h => by have := congrArg Array.size h; rw [heldZ_size] at this; cases this
theorem fieldsHeld : ∃ fs it, Tryd.prog.underlying 119 = some (.struct fs) ∧ Tryd.prog.info? 119 = some it ∧ it.zero = some (.agg heldZ) ∧ fs.toList.mapM (fun f => (Tryd.prog.info? f.type).map fun i => (f.offset, i.size)) = some [(0, 1), (1, 64)] := by
  obtain ⟨it, h1, h2⟩ := Option.map_eq_some_iff.1 (show (Tryd.prog.info? 119).map (·.zero) = some (some (.agg heldZ)) by kernel_rfl)
  exact ⟨_, it, Tryd.underlying119, h1, h2, by kernel_rfl⟩
theorem build_held (n : Int) (x : List Int) (hx : x.length = 64) (w : World) : (Instr.build 119 #[(0, .int .i64 n), (1, .agg (x.map (Value.int .u8)).toArray)]).run Tryd.prog w = .ok (.agg (Value.int .i64 n :: x.map (Value.int .u8)).toArray) w := by
  obtain ⟨fs, it, h1, h2, h3, h4⟩ := fieldsHeld
  apply run_build
  unfold Program.built
  rw [h2, h1]
  simp only [h3, h4]
  have hz : heldZ.size = (x.map (Value.int .u8)).length + 1 := by rw [List.length_map, hx]; kernel_rfl
  have hf := fold_two (.int .i64 n) (x.map (Value.int .u8)) heldZ hz
  have c1 : (Value.int .i64 n).cells = #[Value.int .i64 n] := rfl
  have c2 : (Value.agg (x.map (Value.int .u8)).toArray).cells = (x.map (Value.int .u8)).toArray := rfl
  have c3 : (Value.agg heldZ).cells = heldZ := rfl
  have hs : (x.map (Value.int .u8)).toArray.size = 64 := by simp [hx]
  have hz65 : heldZ.size = 65 := by kernel_rfl
  have hz2 : (#[Value.int .i64 n].zipIdx.foldl (fun r (x : Value × Nat) => r.setIfInBounds (0 + x.2) x.1) heldZ).size = 65 := by simp [hz65]
  unfold Instr.fill
  simp only [c3, c1]
  rw [show (([(0, 1), (1, 64)] : List (Nat × Nat)).toArray)[0]? = some (0, 1) from rfl]
  simp only
  rw [if_neg (by simp [hz65])]
  unfold Instr.fill
  rw [show (([(0, 1), (1, 64)] : List (Nat × Nat)).toArray)[1]? = some (1, 64) from rfl]
  simp only [c2]
  rw [if_neg (by rw [hs, hz2]; simp)]
  unfold Instr.fill
  rw [hf]
theorem slice_held (cs : List Value) (hx : cs.length = 65) (w : World) : (Instr.buildSlice 70 1 #[(0, .agg cs.toArray)]).run Tryd.prog w = .ok (.slice (some ⟨w.heap.size, 0, none⟩) 1 1) (w.alloc (.cells cs.toArray 119)) := by
  obtain ⟨it, h1, h2⟩ := Option.map_eq_some_iff.1 (show (Tryd.prog.info? 119).map (fun i => (i.zero, i.size)) = some (some (.agg heldZ), 65) by kernel_rfl)
  simp only [Prod.mk.injEq] at h2
  refine run_buildSlice w 70 119 1 _ cs.toArray it (.agg heldZ) Tryd.underlying70 h1 h2.1 (by rw [h2.2]; omega) (by rw [h2.2]; omega) ?_
  rw [h2.2]
  have hsz : ((Array.range (1 * 65)).map ((Value.agg heldZ).cells[· % (Value.agg heldZ).cells.size]!)).size = cs.length := by simp [hx]
  have hf := fold_whole cs _ hsz
  have c2 : (Value.agg cs.toArray).cells = cs.toArray := rfl
  show Instr.fill _ _ [(0, .agg cs.toArray)] = _
  unfold Instr.fill
  simp only [c2, Nat.zero_mul]
  rw [if_neg (by rw [hsz]; simp [hx])]
  unfold Instr.fill
  rw [hf]
end Go.Proofs.YtnmaknnnmjfhkaeDoor
