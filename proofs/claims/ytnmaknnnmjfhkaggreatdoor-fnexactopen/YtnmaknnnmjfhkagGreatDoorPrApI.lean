import Derived.Test.YtnmaknnnmjfhkagGreatDoorPrG43
import Derived.Test.YtnmaknnnmjfhkagGreatDoorPrG40
namespace Go.Proofs.YtnmaknnnmjfhkagGreatDoor
open Go.RowKit Go.Lib
set_option linter.unusedVariables false
set_option linter.unusedSimpArgs false
set_option maxRecDepth 8000
def insRow (cur : List Value) (n p : Nat) (s0 s1 : ByteArray) : List Value := cur.take (p * 2) ++ [.string s0, .string s1] ++ (cur.drop (p * 2)).take ((n - p) * 2) ++ cur.drop (n * 2 + 2)
theorem ins_eq (cur : List Value) (n p : Nat) (s0 s1 : ByteArray) (hl : n * 2 + 2 ≤ cur.length) (hp : p < n) (cs c1 : List Value) (hcs : cs = (cur.drop (p * 2)).take ((n - p) * 2)) (hc1 : c1 = cur.take ((p + 1) * 2) ++ cs ++ cur.drop ((p + 1) * 2 + cs.length)) :
    cs.length = (n - p) * 2 ∧ c1.length = cur.length ∧ c1.take (p * 2) ++ [.string s0, .string s1] ++ c1.drop (p * 2 + 2) = insRow cur n p s0 s1 := by
  have e1 : cs.length = (n - p) * 2 := by rw [hcs, List.length_take, List.length_drop]; omega
  have e0 : (cur.take ((p + 1) * 2)).length = (p + 1) * 2 := by rw [List.length_take]; omega
  refine ⟨e1, by rw [hc1, List.length_append, List.length_append, e0, List.length_drop, e1]; omega, ?_⟩
  unfold insRow
  rw [← hcs, hc1, List.append_assoc (cur.take ((p + 1) * 2)), List.take_append_of_le_length (by rw [e0]; omega), List.take_take, show min (p * 2) ((p + 1) * 2) = p * 2 by omega]
  rw [show p * 2 + 2 = (p + 1) * 2 by omega, List.drop_left' e0, e1]
  rw [show (p + 1) * 2 + (n - p) * 2 = n * 2 + 2 by omega]
  simp
set_option maxHeartbeats 4000000 in
theorem insert_in (g n cap p gv : Nat) (s0 s1 : ByteArray) (cur : List Value) (w : World) (hg : w.heap[g]? = some (.cells cur.toArray 144 (0, 0))) (hv : w.heap[gv]? = some (.cells #[.string s0, .string s1] 144 (0, 0))) (hgv : gv ≠ g) (hl : cur.length = cap * 2) (hn : n < cap) (hc : n ≤ 100000) (hp : p < n) (h1 : ∀ v ∈ cur.take (n * 2), v.oneCell' = true) :
    Calls Tryz.prog 320 #[.slice (some ⟨g, 0, none⟩) n cap, .int .i64 (p : Int), .slice (some ⟨gv, 0, none⟩) 1 1] w fun e w' => e = .returned (.slice (some ⟨g, 0, none⟩) (n + 1) cap) ∧ w.grownBy w' (some g) ∧
      w'.heap[g]? = some (.cells (insRow cur n p s0 s1).toArray 144 (0, 0)) := by
  have hz1 : ¬ ((p : Int) = (n : Int)) := by omega
  have hb0 : (0 : Int) ≤ (p : Int) := by omega
  have hb1 : (p : Int) ≤ (n : Int) := by omega
  have hb2 : (p : Int) ≤ (n : Int) + 1 := by omega
  have hb3 : (p : Int) + 1 ≤ (n : Int) + 1 := by omega
  have hb4 : (0 : Int) ≤ (p : Int) + 1 := by omega
  have hb5 : ¬ ((cap : Int) < (n : Int) + 1) := by omega
  have hb6 : (n : Int) + 1 ≤ (cap : Int) := by omega
  have hb7 : (0 : Int) ≤ (n : Int) + 1 := by omega
  have hb8 : ¬ (cap = p) := by omega
  have hb9 : ¬ (cap = p + 1) := by omega
  have htn : ((p : Int) + 1).toNat = p + 1 := by omega
  have hwp : IntKind.i64.wrap ((p : Int) + 1) = (p : Int) + 1 := by simp [IntKind.wrap, IntKind.bits, IntKind.signed]; omega
  have htn2 : ((n : Int) + 1).toNat = n + 1 := by omega
  have hov : ∀ lb cb, (callFunc 321 #[.slice (some ⟨gv, 0, none⟩) 1 1, .slice (some ⟨g, (p + 1) * 2, none⟩) lb cb]).run Tryz.prog w = .ok (.value (.bool false)) w := fun lb cb => by
    rw [run_callFunc_extern Tryz.func321 (by kernel_rfl) (by kernel_rfl) (by kernel_rfl) (e := Extern.SlicesOverlaps.overlaps #[29, 29] #[4]) (by kernel_rfl),
      Lib.run_overlaps_apart w 29 4 144 Tryz.underlying29 2 Tryz.sizeOf144 ⟨gv, 0, none⟩ ⟨g, (p + 1) * 2, none⟩ 1 1 lb cb hgv 144 144 2 (cap * 2) (by simp [World.shape?, hv]) (by simp [World.shape?, hg, hl]) (by omega) (by simp [World.frozen?, hv]) (by simp [World.frozen?, hv])]
    rfl
  obtain ⟨cs, hcs⟩ : ∃ cs, cs = (cur.drop (p * 2)).take ((n - p) * 2) := ⟨_, rfl⟩
  obtain ⟨c1, hc1⟩ : ∃ c1, c1 = cur.take ((p + 1) * 2) ++ cs ++ cur.drop ((p + 1) * 2 + cs.length) := ⟨_, rfl⟩
  obtain ⟨e1, e2, e3⟩ := ins_eq cur n p s0 s1 (by omega) hp cs c1 hcs hc1
  have hcs1 : ∀ v ∈ cs, v.oneCell' = true := fun v hv => h1 v (by rw [hcs, show (n - p) * 2 = n * 2 - p * 2 by omega, ← List.drop_take] at hv; exact List.mem_of_mem_drop hv)
  have hcell : ∀ j v, cs[j]? = some v → w.drew.cell? ((⟨g, p * 2, none⟩ : Addr).add j) = some v := fun j v hj => by
    rw [Addr.add_lit]
    refine cell_of_row (w := w.drew) (cur := cur) hg ?_
    rw [hcs, List.getElem?_take] at hj
    split at hj
    · rw [List.getElem?_drop] at hj; exact hj
    · cases hj
  have HC1 : Hid (∀ ty, (Builtin.copy_ #[29, 29] ty #[.slice (some ⟨g, (p + 1) * 2, none⟩) (n + 1 - (p + 1)) (cap - (p + 1)), .slice (some ⟨g, p * 2, none⟩) (n + 1 - p) (cap - p)]).run Tryz.prog w.drew = .ok (goInt ((n - p : Nat) : Int)) (w.drew.setRow g c1.toArray)) := fun ty => by
    have := run_copy_k (P := Tryz.prog) w.drew 29 29 ty 144 2 g ((p + 1) * 2) (n + 1 - (p + 1)) (cap - (p + 1)) ⟨g, p * 2, none⟩ (n + 1 - p) (cap - p) cur.toArray 144 cs (n - p) Tryz.underlying29 szPrD hg (by simp only [Nat.min_def]; split <;> omega) e1 hcell (by rw [e1]; simp; omega) hcs1
    rw [this, hc1]
  have HC2 : Hid (∀ W : World, W.heap[g]? = some (.cells c1.toArray 144 (0, 0)) → W.heap[gv]? = some (.cells #[.string s0, .string s1] 144 (0, 0)) → ∀ ty, (Builtin.copy_ #[29, 29] ty #[.slice (some ⟨g, p * 2, none⟩) (n + 1 - p) (cap - p), .slice (some ⟨gv, 0, none⟩) 1 1]).run Tryz.prog W = .ok (goInt 1) (W.setRow g (insRow cur n p s0 s1).toArray)) := fun W hW hV ty => by
    have := run_copy_k (P := Tryz.prog) W 29 29 ty 144 2 g (p * 2) (n + 1 - p) (cap - p) ⟨gv, 0, none⟩ 1 1 c1.toArray 144 [.string s0, .string s1] 1 Tryz.underlying29 szPrD hW (by simp only [Nat.min_def]; split <;> omega) rfl (fun j v hj => by rw [Addr.add_lit, Nat.zero_add]; exact cell_of_row (cur := [.string s0, .string s1]) hV hj) (by simp; omega) (onePr _ _)
    rw [this, ← e3]
    simp
  have HG := hid hg
  have HV := hid hv
  clear hcell hcs hc1 e1 e2 e3 hcs1 h1 hg hv
  go_enter Tryz.func320, Tryz.ntmps320
  go_wp2_with (simp only [hov])
  refine wp_region_held_drew (S := fun w' => True) (by kernel_rfl) (trivial) (fun hHeld => ?_)
  refine TK (i := 0) (v := .slice (some ⟨g, 0, none⟩) (n + 1) cap) rfl (Or.inl ⟨by rfl, fun w hw => by obtain z0 := hw; go_simp⟩) hHeld ?_
  simp only [PS]
  refine TK (i := 1) (v := .int .i64 (p : Int)) rfl (Or.inl ⟨by rfl, fun w hw => by obtain z0 := hw; go_simp⟩) hHeld ?_
  simp only [PS]
  refine TK (i := 2) (v := .int .i64 1) rfl (Or.inl ⟨by rfl, fun w hw => by obtain z0 := hw; go_simp⟩) hHeld ?_
  simp only [PS]
  refine TK (i := 3) (v := .int .i64 ((p : Int) + 1)) rfl (Or.inl ⟨by rfl, fun w hw => by obtain z0 := hw; go_simp⟩) hHeld ?_
  simp only [PS]
  refine TK (i := 4) (v := .slice (some ⟨g, (p + 1) * 2, none⟩) (n + 1 - (p + 1)) (cap - (p + 1))) rfl (Or.inl ⟨by rfl, fun w hw => by obtain z0 := hw; go_simp⟩) hHeld ?_
  simp only [PS]
  refine TK (i := 5) (v := .slice (some ⟨g, 0, none⟩) (n + 1) cap) rfl (Or.inl ⟨by rfl, fun w hw => by obtain z0 := hw; go_simp⟩) hHeld ?_
  simp only [PS]
  refine TK (i := 6) (v := .int .i64 (p : Int)) rfl (Or.inl ⟨by rfl, fun w hw => by obtain z0 := hw; go_simp⟩) hHeld ?_
  simp only [PS]
  refine TK (i := 7) (v := .slice (some ⟨g, p * 2, none⟩) (n + 1 - p) (cap - p)) rfl (Or.inl ⟨by rfl, fun w hw => by obtain z0 := hw; go_simp⟩) hHeld ?_
  simp only [PS]
  refine wpAnyH_ready (rs := [8]) (by kernel_rfl) (by simp) ?_
  refine AllReadyH.cons rfl (fun K hK => ?_) AllReadyH.nil
  refine step_copy_runI rfl _ _ 29 29 rfl (.slice (some ⟨g, (p + 1) * 2, none⟩) (n + 1 - (p + 1)) (cap - (p + 1))) (.slice (some ⟨g, p * 2, none⟩) (n + 1 - p) (cap - p)) (by simp [Act.eval, Act.put]) (by simp [Act.eval, Act.put]) (HC1.out _) ?_
  refine hK.out _ _ (trivial) (fun hHd1 => ?_)
  clear hK K
  try simp only [PS]
  refine wpAnyH_done (by kernel_rfl) ?_ _
  have hw1 := setRow_heap w.drew g cur.toArray c1.toArray 144 (0, 0) HG.out
  have hv1 : (w.drew.setRow g c1.toArray).heap[gv]? = some (.cells #[.string s0, .string s1] 144 (0, 0)) := (setRow_other w.drew g gv _ hgv).trans HV.out
  have hcp2 := HC2.out _ hw1 hv1
  clear hHeld hHd1
  go_wp2_with fail
  go_ret
  exact ⟨rfl, grown_trans' (undrewG (setRow_grown w.drew g _)) (setRow_grown _ g _), setRow_heap _ g _ _ 144 (0, 0) hw1⟩
theorem zc_pr (n : Nat) : (Builtin.zeroCells (Value.agg #[.string ByteArray.empty, .string ByteArray.empty]).cells n).size = n * 2 := by simp [Builtin.zeroCells, Value.cells]
set_option maxHeartbeats 4000000 in
theorem insert_gr (g n p gv : Nat) (s0 s1 : ByteArray) (cur : List Value) (w : World) (hg : w.heap[g]? = some (.cells cur.toArray 144 (0, 0))) (hv : w.heap[gv]? = some (.cells #[.string s0, .string s1] 144 (0, 0))) (hl : cur.length = n * 2) (hc : n ≤ 100000) (hp : p < n) (h1 : ∀ v ∈ cur.take (n * 2), v.oneCell' = true) :
    Calls Tryz.prog 320 #[.slice (some ⟨g, 0, none⟩) n n, .int .i64 (p : Int), .slice (some ⟨gv, 0, none⟩) 1 1] w fun e w' => ∃ (G : Nat) (row : List Value), e = .returned (.slice (some ⟨w.heap.size, 0, none⟩) (n + 1) G) ∧ n + 1 ≤ G ∧ G ≤ maxLen ∧ row.length = G * 2 ∧ row.take ((n + 1) * 2) = cur.take (p * 2) ++ [.string s0, .string s1] ++ cur.drop (p * 2) ∧ Below w.heap.size w w' ∧ w.heap.size < w'.heap.size ∧
      w'.heap[w.heap.size]? = some (.cells row.toArray 144 (0, 0)) := by
  obtain ⟨i0, hi0, hz0, hzs, hzb⟩ := info_partsP info_prC
  have hgl : g < w.heap.size := (Array.getElem?_eq_some_iff.1 hg).1
  have hvl : gv < w.heap.size := (Array.getElem?_eq_some_iff.1 hv).1
  have hz1 : ¬ ((p : Int) = (n : Int)) := by omega
  have hb0 : (0 : Int) ≤ (p : Int) := by omega
  have hb1 : (p : Int) ≤ (n : Int) := by omega
  have hb2 : (p : Int) ≤ (n : Int) + 1 := by omega
  have hb3 : (p : Int) + 1 ≤ (n : Int) + 1 := by omega
  have hb4 : (0 : Int) ≤ (p : Int) + 1 := by omega
  have hb5 : (n : Int) < (n : Int) + 1 := by omega
  have hb8 : ¬ (n = p) := by omega
  have htn : ((p : Int) + 1).toNat = p + 1 := by omega
  have hwp : IntKind.i64.wrap ((p : Int) + 1) = (p : Int) + 1 := by simp [IntKind.wrap, IntKind.bits, IntKind.signed]; omega
  have hkk : (n : Int) + 1 - (p : Int) = ((n + 1 - p : Nat) : Int) := by omega
  have hik : p + (n + 1 - p) = n + 1 := by omega
  have hold : (Builtin.firstCells i0.size p (.slice (some ⟨g, 0, none⟩) p n)).run Tryz.prog w.drew = .ok (cur.take (p * 2)).toArray w.drew := by
    rw [hzs]
    exact run_firstCells_some w.drew 2 p ⟨g, 0, none⟩ p n (cur.take (p * 2)) (by rw [List.length_take]; omega) (fun j v hj => by
      rw [Addr.add_lit, Nat.zero_add]
      rw [List.getElem?_take] at hj
      split at hj
      · exact cell_of_row (w := w.drew) (cur := cur) hg hj
      · cases hj)
  obtain ⟨G, hG⟩ : ∃ G, G = grownCap w (n + 1) n 144 := ⟨_, rfl⟩
  have hGn : n + 1 ≤ G := by rw [hG]; exact grownCap_ge w _ _ _
  have hGm : G ≤ maxLen := by rw [hG]; exact grownCap_le_maxLen w (n + 1) n _ (by unfold maxLen; omega)
  obtain ⟨ROW, hROW⟩ : ∃ ROW : List Value, ROW = cur.take (p * 2) ++ (Builtin.zeroCells (Value.agg #[.string ByteArray.empty, .string ByteArray.empty]).cells (n + 1 - p)).toList ++ (Builtin.zeroCells (Value.agg #[.string ByteArray.empty, .string ByteArray.empty]).cells (G - (n + 1))).toList := ⟨_, rfl⟩
  have hROWa : ROW.toArray = (cur.take (p * 2)).toArray ++ Builtin.zeroCells (Value.agg #[.string ByteArray.empty, .string ByteArray.empty]).cells (n + 1 - p) ++ Builtin.zeroCells (Value.agg #[.string ByteArray.empty, .string ByteArray.empty]).cells (G - (n + 1)) := by rw [hROW]; apply Array.ext'; simp
  have hRl : ROW.length = G * 2 := by rw [hROW]; simp only [List.length_append, List.length_take, Array.length_toList, zc_pr]; omega
  have hRt : ROW.take (p * 2) = cur.take (p * 2) := by rw [hROW, List.append_assoc]; exact List.take_left' (by rw [List.length_take]; omega)
  have hrz : ∀ ty, (Builtin.append_ #[29, 3] ty #[.slice (some ⟨g, 0, none⟩) p n, .int .i64 ((n : Int) + 1 - (p : Int))]).run Tryz.prog w = .ok (.slice (some ⟨w.heap.size, 0, none⟩) (n + 1) G) (w.drew.alloc (.cells ROW.toArray 144)) := fun ty => by
    have h := Lib.run_append_grow_zeros (P := Tryz.prog) w 29 3 ty 144 i0 _ .i64 .i64 Tryz.underlying29 Tryz.underlying3 hi0 hz0 (some ⟨g, 0, none⟩) p n (cur.take (p * 2)) hold (n + 1 - p) (by omega) (by omega) (by omega) (by omega) (by rw [hzb]; omega) (by rw [hzb, hik]; exact growslice_fits (by omega) (by omega))
    rw [hik, ← hG] at h
    rw [hkk, h, hROWa]
  have hG63 : G ≤ 9223372036854775807 := hGm
  have hGi : ¬ (G = p) := by omega
  have hGip : ¬ (G = p + 1) := by omega
  clear hkk hik hold hROW hROWa hG
  obtain ⟨w1, hw1⟩ : ∃ w1, w1 = w.drew.alloc (.cells ROW.toArray 144) := ⟨_, rfl⟩
  rw [← hw1] at hrz
  have hb1' : Below w.heap.size w w1 := by rw [hw1]; exact (Below.refl _ _).drew.alloc (Nat.le_refl _) _
  have hs1 : w1.heap.size = w.heap.size + 1 := by rw [hw1]; rw [World.size_alloc]; rfl
  have hN1 : w1.heap[w.heap.size]? = some (.cells ROW.toArray 144 (0, 0)) := by rw [hw1]; exact heap_alloc_new w.drew _
  have hV1 : w1.heap[gv]? = some (.cells #[.string s0, .string s1] 144 (0, 0)) := (hb1'.block gv hvl).trans hv
  have hG1 : w1.heap[g]? = some (.cells cur.toArray 144 (0, 0)) := (hb1'.block g hgl).trans hg
  clear hw1
  obtain ⟨c1, hc1⟩ : ∃ c1, c1 = ROW.take (p * 2) ++ [.string s0, .string s1] ++ ROW.drop (p * 2 + 2) := ⟨_, rfl⟩
  have hc1l : c1.length = G * 2 := by rw [hc1]; simp only [List.length_append, List.length_take, List.length_drop, List.length_cons, List.length_nil]; omega
  have hcpA : ∀ ty, (Builtin.copy_ #[29, 29] ty #[.slice (some ⟨w.heap.size, p * 2, none⟩) (n + 1 - p) (G - p), .slice (some ⟨gv, 0, none⟩) 1 1]).run Tryz.prog w1 = .ok (goInt 1) (w1.setRow w.heap.size c1.toArray) := fun ty => by
    have := run_copy_k (P := Tryz.prog) w1 29 29 ty 144 2 w.heap.size (p * 2) (n + 1 - p) (G - p) ⟨gv, 0, none⟩ 1 1 ROW.toArray 144 [.string s0, .string s1] 1 Tryz.underlying29 szPrD hN1 (by simp only [Nat.min_def]; split <;> omega) rfl (fun j v hj => by rw [Addr.add_lit, Nat.zero_add]; exact cell_of_row (cur := [.string s0, .string s1]) hV1 hj) (by simp; omega) (onePr _ _)
    rw [this, hc1]
    simp
  obtain ⟨w2, hw2⟩ : ∃ w2, w2 = w1.setRow w.heap.size c1.toArray := ⟨_, rfl⟩
  rw [← hw2] at hcpA
  have hN2 : w2.heap[w.heap.size]? = some (.cells c1.toArray 144 (0, 0)) := by rw [hw2]; exact setRow_heap w1 w.heap.size _ _ 144 (0, 0) hN1
  have hG2 : w2.heap[g]? = some (.cells cur.toArray 144 (0, 0)) := by rw [hw2]; exact (setRow_other w1 w.heap.size g _ (by omega)).trans hG1
  have hb2' : Below w.heap.size w w2 := by rw [hw2]; exact below_setRow hb1' (Nat.le_refl _) _
  have hs2 : w2.heap.size = w.heap.size + 1 := by rw [hw2]; simpa [World.setRow] using hs1
  clear hw2
  have hdl : (cur.drop (p * 2)).length = (n - p) * 2 := by rw [List.length_drop]; omega
  obtain ⟨c2, hc2⟩ : ∃ c2, c2 = c1.take ((p + 1) * 2) ++ cur.drop (p * 2) ++ c1.drop ((p + 1) * 2 + (n - p) * 2) := ⟨_, rfl⟩
  have HCB : Hid (∀ ty, (Builtin.copy_ #[29, 29] ty #[.slice (some ⟨w.heap.size, (p + 1) * 2, none⟩) (n + 1 - (p + 1)) (G - (p + 1)), .slice (some ⟨g, p * 2, none⟩) (n - p) (n - p)]).run Tryz.prog w2.drew = .ok (goInt ((n - p : Nat) : Int)) (w2.drew.setRow w.heap.size c2.toArray)) := fun ty => by
    have := run_copy_k (P := Tryz.prog) w2.drew 29 29 ty 144 2 w.heap.size ((p + 1) * 2) (n + 1 - (p + 1)) (G - (p + 1)) ⟨g, p * 2, none⟩ (n - p) (n - p) c1.toArray 144 (cur.drop (p * 2)) (n - p) Tryz.underlying29 szPrD hN2 (by simp only [Nat.min_def]; split <;> omega) hdl (fun j v hj => by rw [Addr.add_lit]; rw [List.getElem?_drop] at hj; exact cell_of_row (w := w2.drew) (cur := cur) hG2 hj) (by rw [hdl]; simp; omega) (fun v hv => h1 v (by rw [List.take_of_length_le (by omega)]; exact List.mem_of_mem_drop hv))
    rw [this, hc2, hdl]
  have hfin : c2.length = G * 2 ∧ c2.take ((n + 1) * 2) = cur.take (p * 2) ++ [.string s0, .string s1] ++ cur.drop (p * 2) := by
    have et : c1.take ((p + 1) * 2) = cur.take (p * 2) ++ [.string s0, .string s1] := by
      rw [hc1, hRt]
      exact List.take_left' (by simp; omega)
    have el : (c1.take ((p + 1) * 2) ++ cur.drop (p * 2)).length = (n + 1) * 2 := by rw [List.length_append, hdl, List.length_take, hc1l]; omega
    refine ⟨by rw [hc2, List.length_append, el, List.length_drop, hc1l]; omega, ?_⟩
    rw [hc2, List.take_left' el, et]
  have HF := hid hfin
  have HN2 := hid hN2
  have HB2 := hid hb2'
  clear hi0 hz0 hzs hzb hRl hRt hc1 hc1l hN1 hV1 hG1 hN2 hG2 hb1' hb2' hs1 hdl hc2 hfin hg hv h1
  go_enter Tryz.func320, Tryz.ntmps320
  go_wp2_with (first
    | (at_builtin; refine Lib.wpList_append_run _ rfl _ _ _ _ rfl _ _ rfl rfl _ _ (hrz _) ?_)
    | (at_builtin; refine wpList_copy_runI _ rfl _ _ 29 29 rfl _ _ rfl rfl (hcpA _) ?_))
  refine wp_region_held_drew (S := fun w' => True) (by kernel_rfl) (trivial) (fun hHeld => ?_)
  refine TK (i := 0) (v := .slice (some ⟨w.heap.size, 0, none⟩) (n + 1) G) rfl (Or.inl ⟨by rfl, fun w hw => by obtain z0 := hw; go_simp⟩) hHeld ?_
  simp only [PS]
  refine TK (i := 1) (v := .int .i64 (p : Int)) rfl (Or.inl ⟨by rfl, fun w hw => by obtain z0 := hw; go_simp⟩) hHeld ?_
  simp only [PS]
  refine TK (i := 2) (v := .int .i64 1) rfl (Or.inl ⟨by rfl, fun w hw => by obtain z0 := hw; go_simp⟩) hHeld ?_
  simp only [PS]
  refine TK (i := 3) (v := .int .i64 ((p : Int) + 1)) rfl (Or.inl ⟨by rfl, fun w hw => by obtain z0 := hw; go_simp⟩) hHeld ?_
  simp only [PS]
  refine TK (i := 4) (v := .slice (some ⟨w.heap.size, (p + 1) * 2, none⟩) (n + 1 - (p + 1)) (G - (p + 1))) rfl (Or.inl ⟨by rfl, fun w hw => by obtain z0 := hw; go_simp⟩) hHeld ?_
  simp only [PS]
  refine TK (i := 5) (v := .slice (some ⟨g, 0, none⟩) n n) rfl (Or.inl ⟨by rfl, fun w hw => by obtain z0 := hw; go_simp⟩) hHeld ?_
  simp only [PS]
  refine TK (i := 6) (v := .int .i64 (p : Int)) rfl (Or.inl ⟨by rfl, fun w hw => by obtain z0 := hw; go_simp⟩) hHeld ?_
  simp only [PS]
  refine TK (i := 7) (v := .slice (some ⟨g, p * 2, none⟩) (n - p) (n - p)) rfl (Or.inl ⟨by rfl, fun w hw => by obtain z0 := hw; go_simp⟩) hHeld ?_
  simp only [PS]
  refine wpAnyH_ready (rs := [8]) (by kernel_rfl) (by simp) ?_
  refine AllReadyH.cons rfl (fun K hK => ?_) AllReadyH.nil
  refine step_copy_runI rfl _ _ 29 29 rfl (.slice (some ⟨w.heap.size, (p + 1) * 2, none⟩) (n + 1 - (p + 1)) (G - (p + 1))) (.slice (some ⟨g, p * 2, none⟩) (n - p) (n - p)) (by simp [Act.eval, Act.put]) (by simp [Act.eval, Act.put]) (HCB.out _) ?_
  refine hK.out _ _ (trivial) (fun hHd1 => ?_)
  clear hK K
  try simp only [PS]
  refine wpAnyH_done (by kernel_rfl) ?_ _
  go_wp2_with fail
  go_ret
  exact ⟨G, c2, rfl, hGn, hGm, HF.out.1, HF.out.2, (below_setRow (HB2.out.drew) (Nat.le_refl _) _), by have : (w2.drew.setRow w.heap.size c2.toArray).heap.size = w2.heap.size := (by simp [World.setRow]); omega, setRow_heap w2.drew _ _ _ 144 (0, 0) HN2.out⟩
end Go.Proofs.YtnmaknnnmjfhkagGreatDoor
