import Derived.Test.YtpnblphoehgjhadNewG
import Derived.Test.YtpnblphoehgjhadFill
import Derived.Deep.Onto
namespace Go.Proofs.Ytpnblphoehgjhad
open Go.RowKit
set_option linter.unusedVariables false

/-- Sectors as rows of bytes, one behind the other: what a slice of them shows. -/
def Plt (w : World) (a : Option Addr) (ps : List (List Int)) : Prop :=
  ps = [] ∨ ∃ b o, a = some ⟨b, o, none⟩ ∧ b < w.heap.size ∧ ∀ i, i < ps.length → w.rangeAt b (o + i * 64) ((ps.getD i []).map (Value.int .u8))
/-- Writes that are held: a number and a sector. -/
def Hld (w : World) (a : Option Addr) (hs : List (Int × List Int)) : Prop :=
  hs = [] ∨ ∃ b o, a = some ⟨b, o, none⟩ ∧ b < w.heap.size ∧ ∀ i, i < hs.length → w.rangeAt b (o + i * 65) (.int .i64 (hs.getD i (0, [])).1 :: (hs.getD i (0, [])).2.map (Value.int .u8))
theorem range_below {w w' : World} {b o : Nat} {cs : List Value} (h : w.rangeAt b o cs) (hb : Below w.heap.size w w') (hlt : b < w.heap.size) : w'.rangeAt b o cs := fun j v hv => (hb.cell (p := ⟨b, o + j, none⟩) hlt).trans (h j v hv)
theorem Plt.below {w w' : World} {a : Option Addr} {ps : List (List Int)} (h : Plt w a ps) (hb : Below w.heap.size w w') : Plt w' a ps := by
  rcases h with h | ⟨b, o, h1, h2, h3⟩
  · exact .inl h
  · exact .inr ⟨b, o, h1, Nat.lt_of_lt_of_le h2 hb.size, fun i hi => range_below (h3 i hi) hb h2⟩
theorem Hld.below {w w' : World} {a : Option Addr} {hs : List (Int × List Int)} (h : Hld w a hs) (hb : Below w.heap.size w w') : Hld w' a hs := by
  rcases h with h | ⟨b, o, h1, h2, h3⟩
  · exact .inl h
  · exact .inr ⟨b, o, h1, Nat.lt_of_lt_of_le h2 hb.size, fun i hi => range_below (h3 i hi) hb h2⟩
theorem Plt.at {w : World} {a : Option Addr} {ps : List (List Int)} (h : Plt w a ps) {k : Nat} (hk : k < ps.length) : ∃ b o x, a = some ⟨b, o, none⟩ ∧ b < w.heap.size ∧ w.rangeAt b (o + k * 64) (x.map (Value.int .u8)) ∧ Hid (x = ps.getD k []) := by
  rcases h with h | ⟨b, o, h1, h2, h3⟩
  · subst h; simp at hk
  · exact ⟨b, o, _, h1, h2, h3 k hk, hid rfl⟩
theorem Hld.at {w : World} {a : Option Addr} {hs : List (Int × List Int)} (h : Hld w a hs) {k : Nat} (hk : k < hs.length) : ∃ b o n x, a = some ⟨b, o, none⟩ ∧ b < w.heap.size ∧ w.rangeAt b (o + k * 65) (.int .i64 n :: x.map (Value.int .u8)) ∧ Hid ((n, x) = hs.getD k (0, [])) := by
  rcases h with h | ⟨b, o, h1, h2, h3⟩
  · subst h; simp at hk
  · exact ⟨b, o, _, _, h1, h2, h3 k hk, hid rfl⟩

/-- Guards: the next operation is such a load, such a store. -/
theorem at_load {P : Program} {ops : Array Oper} {rest : List Oper} {op : Oper} {a : Act} {w : World} {Q : Exit → Act → World → Prop} (ty : TypeId) (x : Operand) (_ho : op.op = .load ty x) (h : wpList P ops Q (op :: rest) a w) : wpList P ops Q (op :: rest) a w := h
theorem at_store {P : Program} {ops : Array Oper} {rest : List Oper} {op : Oper} {a : Act} {w : World} {Q : Exit → Act → World → Prop} (ty : TypeId) (x y : Operand) (_ho : op.op = .store ty x y) (h : wpList P ops Q (op :: rest) a w) : wpList P ops Q (op :: rest) a w := h
theorem held_one (n : Int) (xs : List Int) : ∀ v ∈ Value.int .i64 n :: xs.map (Value.int .u8), v.oneCell' = true := fun v hv => by
  rcases List.mem_cons.1 hv with rfl | hv
  · rfl
  · exact ints_one xs v hv
theorem there_any (w : World) (A : Array Value) (t : TypeId) : (w.alloc (.cells A t)).there w.heap.size 0 A.size := fun j hj => by
  rw [Nat.zero_add, World.cell?_alloc_at _ _ _ _ rfl, frozen?_alloc_cells]
  exact ⟨by simp [hj], frozen_past _ _ _ (Nat.le_refl _)⟩
/-- Cells go into a variable that was just made. -/
theorem wpList_store_cells {P : Program} {ops : Array Oper} {rest : List Oper} {op : Oper} {a : Act} {w : World} {Q : Exit → Act → World → Prop} (hgd : op.guard = none) (ty : TypeId) (x y : Operand) (ho : op.op = .store ty x y)
    (cs : List Value) (h1 : ∀ v ∈ cs, v.oneCell' = true) (hx : a.eval x = .pointer (some ⟨w.heap.size, 0, none⟩)) (hy : a.eval y = .agg cs.toArray) (A : Array Value) (t : TypeId) (hA : A.size = cs.length)
    (hi : (P.info? ty).map (·.size) = some cs.length)
    (h : ∀ wx, Row wx w.heap.size cs → Below w.heap.size w wx → wx.heap.size = w.heap.size + 1 → wpList P ops Q rest (a.put op.dst undef) wx) : wpList P ops Q (op :: rest) a (w.alloc (.cells A t)) := by
  have hth := there_any w A t
  rw [hA] at hth
  have hz : cs.toArray.size = cs.length := by simp
  refine wpList_store_mid hgd ty x y ho w.heap.size 0 _ hx hy (by rw [hz]; exact hth) (by rw [hz]; exact hi) (all_oneCell_toArray h1) ?_
  have hr := World.rangeAt_setCells_same (w.alloc (.cells A t)) w.heap.size 0 cs hth
  refine h _ ⟨by rw [setCells_size]; simp, fun i v hv => ?_, fun i hi => ?_⟩ (Go.below_setCells (Nat.le_refl _) _ _ _ ((Below.refl _ _).alloc (Nat.le_refl _) _)) (by rw [setCells_size]; simp)
  · have := hr i v hv
    simpa using this
  · rw [World.frozen?_setCells, frozen?_alloc_cells]; exact frozen_past _ _ _ (Nat.le_refl _)
/-- 'string(row[o:o+n])' out of a row's cells. -/
theorem Row.text {P : Program} {w : World} {g : Nat} {cs : List Value} (h : Row w g cs) (xs : List Int) (o n cap : Nat) (hx : xs.length = n) (hc : ∀ i, i < n → cs[o + i]? = some (.int .u8 (xs.getD i 0))) (src e dst : TypeId) (hs : P.underlying src = some (.slice e)) (he : P.underlying e = some (.int .u8)) (hd : P.underlying dst = some .string) :
    (convert src dst (.slice (some ⟨g, o, none⟩) n cap)).run P w = .ok (.string (strOfNums xs)) w :=
  run_convert_bytes_arg (P := P) w src e hs he g o n cap xs hx (fun i hi => h.cell _ _ (hc i hi)) dst hd

theorem Dsk.start3 (w : World) (c0 c1 : Value) (t0 t1 t2 e e' : TypeId) : Dsk w (((w.alloc (.cells #[c0, c1] t0)).alloc (.cells #[.slice none 0 0, .slice none 0 0] t1)).alloc (.cells #[.slice none 0 0, .slice none 0 0] t2)) (w.heap.size + 1) (w.heap.size + 1 + 1) (w.heap.size + 1 + 1 + 1) e e' (.slice none 0 0) (.slice none 0 0) [] [] := by
  have hb : Below w.heap.size w (((w.alloc (.cells #[c0, c1] t0)).alloc (.cells #[.slice none 0 0, .slice none 0 0] t1)).alloc (.cells #[.slice none 0 0, .slice none 0 0] t2)) := (((Below.refl _ _).alloc (Nat.le_refl _) _).alloc (by simp) _).alloc (by simp; omega) _
  have r1 := (row_new (w.alloc (.cells #[c0, c1] t0)) #[.slice none 0 0, .slice none 0 0] t1).alloc (.cells #[.slice none 0 0, .slice none 0 0] t2)
  have r2 := row_new ((w.alloc (.cells #[c0, c1] t0)).alloc (.cells #[.slice none 0 0, .slice none 0 0] t1)) #[.slice none 0 0, .slice none 0 0] t2
  simp only [World.size_alloc] at r1 r2
  exact ⟨by omega, by omega, by omega, by omega, by omega, by simp, hb, r1.cell 0 _ rfl, r1.cell 1 _ rfl, r1.froz 0 (by simp), r1.froz 1 (by simp), r2.cell 0 _ rfl, r2.cell 1 _ rfl, r2.froz 0 (by simp), r2.froz 1 (by simp), World.ownsRow_nil _ _ _ _, World.ownsRow_nil _ _ _ _, .inl rfl⟩

theorem Dsk.far {W w w1 : World} {R D base : Nat} {e e' : TypeId} {v v' : Value} {ss : List ByteArray} {ws : List (Int × ByteArray)} (h : Dsk W w R D base e e' v v' ss ws) (hg : w.grownBy w1 v.ownBlock) (b i j : Nat) (hb : b < base) (hn : b ≠ D) (u : Value) : (w1.setCell ⟨D, j, none⟩ u).cell? ⟨b, i, none⟩ = w.cell? ⟨b, i, none⟩ := by
  have lb : b < w.heap.size := Nat.lt_of_lt_of_le hb h.sz
  have nb : some b ≠ v.ownBlock := fun he => by have := (h.own.lt b he.symm).1; omega
  rw [World.cell?_setCell_other (w := w1) (h := show (⟨D, j, none⟩ : Addr) ≠ ⟨b, i, none⟩ from fun he => hn (by injection he with h1; exact h1.symm))]
  exact hg.cell_far ⟨b, i, none⟩ lb nb

/-- What a drive is as a disk. -/
def secs (ps : List (List Int)) : List ByteArray := ps.map strOfNums
def held (hs : List (Int × List Int)) : List (Int × ByteArray) := hs.map fun x => (x.1, strOfNums x.2)

def heldZ : Array Value := #[.int .i64 0] ++ Array.replicate 64 (.int .u8 0)
theorem zeroHeld (w : World) : (zeroValue 64).run Try.prog w = .ok (.agg heldZ) w := by kernel_rfl
theorem secs_take (ps : List (List Int)) (k : Nat) (h : k < ps.length) : secs (ps.take (k + 1)) = secs (ps.take k) ++ [strOfNums (ps.getD k [])] := by
  unfold secs
  rw [List.take_succ_eq_append_getElem h, List.map_append]
  simp [List.getD, h]
theorem held_take (hs : List (Int × List Int)) (k : Nat) (h : k < hs.length) : held (hs.take (k + 1)) = held (hs.take k) ++ [((hs.getD k (0, [])).1, strOfNums (hs.getD k (0, [])).2)] := by
  unfold held
  rw [List.take_succ_eq_append_getElem h, List.map_append]
  simp [List.getD, h]

set_option maxRecDepth 100000 in
set_option maxHeartbeats 1000000 in
theorem disk_i (a : Option Addr) (ps : List (List Int)) (c : Nat) (a' : Option Addr) (hs : List (Int × List Int)) (c' : Nat) (w : World) (h : Plt w a ps) (h' : Hld w a' hs) (hl : ps.length ≤ 200) (hl' : hs.length ≤ 300) (h64 : ∀ p ∈ ps, p.length = 64) (h64' : ∀ p ∈ hs, p.2.length = 64) :
    Calls Try.prog 31 #[diskV a ps.length c a' hs.length c'] w fun e w' => ∃ v v', e = .returned (.agg #[v, v']) ∧ w'.ownsRow w.heap.size 9 1 v ps.length ((secs ps).map Value.string) ∧ w'.ownsRow w.heap.size 52 2 v' hs.length (wcells (held hs)) ∧ (v.ownBlock = none ∨ v'.ownBlock = none ∨ v.ownBlock ≠ v'.ownBlock) ∧ Below w.heap.size w w' := by
  obtain ⟨i0, hi0, hz0, hz1, hz2⟩ := info_parts' infoStr
  have HI := hid (And.intro hi0 (And.intro hz0 (And.intro hz1 hz2)))
  clear hi0 hz0 hz1 hz2
  obtain ⟨i1, hi0, hz0, hz1, hz2⟩ := info_parts' infoWr
  have HI1 := hid (And.intro hi0 (And.intro hz0 (And.intro hz1 hz2)))
  clear hi0 hz0 hz1 hz2
  go_enter Try.func31, Try.ntmps31
  go_wp2
  go_loopw [5, 11] (fun _ i wr => ∃ (k : Nat) (v : Value), k ≤ ps.length ∧ i = .int .i64 k ∧ Dsk w wr (w.heap.size + 1) (w.heap.size + 1 + 1) (w.heap.size + 1 + 1 + 1) 9 52 v (.slice none 0 0) (secs (ps.take k)) [] ∧ wr.cell? ⟨w.heap.size, 1, none⟩ = some (.slice a' hs.length c')) (fun _ i _ => ps.length - (intOf i).toNat)
  case atStart => exact ⟨0, _, Nat.zero_le _, rfl, Dsk.start3 _ _ _ _ _ _ _ _, by go_simp⟩
  case round =>
    obtain ⟨k, v, hk, rfl, hd, hq⟩ := hrel
    by_cases hlt : k < ps.length
    · obtain ⟨b, o, x, rfl, hlb, hrg, HS⟩ := (h.below hd.bel).at hlt
      have hxl : x.length = 64 := by rw [HS.out]; exact h64 _ (by simp [List.getD, hlt])
      have hxm : (x.map (Value.int .u8)).length = 64 := by simp [hxl]
      have hsl : (secs (ps.take k)).length = k := by simp [secs]; omega
      have HL := hid hsl
      have HD := hid hd
      have HQ := hid hq
      clear hd hq hsl
      have HI64 : Hid ((Try.prog.info? 62).map (·.size) = some (x.map (Value.int .u8)).length) := by rw [hxm]; show _ = _; kernel_rfl
      have HXM := hid hxm.symm
      clear hxm
      go_wp2_with (first | (with_reducible refine at_load 62 _ rfl ?_; refine wpList_load_mid rfl 62 _ rfl b (o + k * 64) rfl (x.map (Value.int .u8)) _ hrg Try.underlying62 rfl HI64.out ?_) | (with_reducible refine at_store 62 _ _ rfl ?_; refine wpList_store_cells rfl 62 _ _ rfl (x.map (Value.int .u8)) (ints_one x) rfl rfl _ _ (by rw [← HXM.out]; kernel_rfl) HI64.out ?_; intro wx hrow hbx hsx))
      have HDX := hid (HD.out.below hbx)
      have q0 := (HD.out.below hbx).d0
      have q1 := (HD.out.below hbx).fd0
      have hlx : w.heap.size + 1 + 1 < wx.heap.size := by have := HDX.out.sz; omega
      have hbase : w.heap.size + 1 + 1 + 1 ≤ wx.heap.size := HDX.out.sz
      have hcv := hrow.drew.text (P := Try.prog) x 0 64 64 hxl (fun i hi => by simp [List.getD, show i < x.length by omega]) 86 5 9 Try.underlying86 Try.underlying5 Try.underlying9
      have HQX : Hid (wx.cell? ⟨w.heap.size, 1, none⟩ = some (.slice a' hs.length c')) := (hbx.cell (p := ⟨w.heap.size, 1, none⟩) (by have := HD.out.sz; show w.heap.size < wr.heap.size; omega)).trans HQ.out
      have HO := hid (HDX.out.drew.own.alloc (.cells #[.string (strOfNums x)] 9))
      have HDA := hid (HDX.out.drew.alloc (.cells #[.string (strOfNums x)] 9))
      clear hrow hbx hsx HD HQ hrg
      go_region_law (first | (refine step_append_lies _ (by rfl) _ _ _ (by rfl) (w.heap.size + 1 + 1 + 1) 9 i0 (.string ByteArray.empty) 1 16 Try.underlying22 HI.out.1 HI.out.2.1 HI.out.2.2.1 HI.out.2.2.2 rfl (by omega) v (secs (ps.take k)).length ((secs (ps.take k)).map Value.string) (by rfl) HO.out ⟨wx.heap.size, 0, none⟩ 1 1 [.string (strOfNums x)] (by rfl) rfl (World.news_of_block (heap_alloc_new wx.drew _)) (by intro u hu; simp at hu; subst hu; rfl) (by omega) (by rw [HL.out]; unfold maxLen; omega) (by rw [HL.out]; omega) (by simp <;> omega) (wx.heap.size + 1) (by simp) ?_; intro g cap w3 hown hgrow hat hlt3; obtain ⟨q4, q5⟩ := HDA.out.grown hgrow; have HOW := hid hown; have HGR := hid hgrow; have HAT := hid hat; clear hown hgrow hat))
      all_goals
        have hpush := HDA.out.push HOW.out HGR.out HAT.out (by simp)
        have hfar := (HDA.out.far HGR.out w.heap.size 1 0 (by omega) (by omega) (.slice (some ⟨g, 0, none⟩) ((secs (ps.take k)).length + 1) cap)).trans ((World.cell?_alloc_past (w := wx.drew) _ w.heap.size 1 (by show w.heap.size < wx.heap.size; omega)).trans HQX.out)
        rw [HS.out, ← secs_take ps k hlt] at hpush
        have HP := hid hpush
        have HF := hid hfar
        clear hpush hfar
        go_wp2
        go_roundw
        case rel => exact ⟨k + 1, _, by omega, by go_num, HP.out, HF.out⟩
        case measure => simp [intOf]; omega
    · have hkn : Hid (ps.take k = ps) := List.take_of_length_le (by omega)
      rw [hkn.out] at hd
      have hlt0 : w.heap.size < wr.heap.size := by have := hd.sz; omega
      go_wp2
      go_loopw [7, 26] (fun _ i wr => ∃ (k : Nat) (v' : Value), k ≤ hs.length ∧ i = .int .i64 k ∧ Dsk w wr (w.heap.size + 1) (w.heap.size + 1 + 1) (w.heap.size + 1 + 1 + 1) 9 52 v v' (secs ps) (held (hs.take k))) (fun _ i _ => hs.length - (intOf i).toNat)
      case atStart => exact ⟨0, _, Nat.zero_le _, rfl, hd⟩
      case round =>
        clear hd hq hlt0
        obtain ⟨k2, v', hk2, rfl, hd⟩ := hrel
        by_cases hlt2 : k2 < hs.length
        · obtain ⟨b, o, n, x, rfl, hlb, hrg, HS⟩ := (h'.below hd.bel).at hlt2
          have hxl : x.length = 64 := by
            have := h64' (n, x) (by rw [HS.out]; simp [List.getD, hlt2])
            exact this
          have hxm : (Value.int .i64 n :: x.map (Value.int .u8)).length = 65 := by simp [hxl]
          have hsl : (held (hs.take k2)).length = k2 := by simp [held]; omega
          have HL := hid hsl
          have HD := hid hd
          clear hd hsl
          have HI65 : Hid ((Try.prog.info? 64).map (·.size) = some (Value.int .i64 n :: x.map (Value.int .u8)).length) := by rw [hxm]; show _ = _; kernel_rfl
          have HXM := hid hxm.symm
          clear hxm
          have hzh := zeroHeld
          go_wp2_with (first | (with_reducible refine at_load 64 _ rfl ?_; refine wpList_load_mid rfl 64 _ rfl b (o + k2 * 65) rfl (Value.int .i64 n :: x.map (Value.int .u8)) _ hrg Try.underlying64 rfl HI65.out ?_) | (with_reducible refine at_store 64 _ _ rfl ?_; refine wpList_store_cells rfl 64 _ _ rfl (Value.int .i64 n :: x.map (Value.int .u8)) (held_one n x) rfl rfl _ _ (by rw [← HXM.out]; kernel_rfl) HI65.out ?_; intro wx hrow hbx hsx))
          have HDX := hid (HD.out.below hbx)
          have q0 := (HD.out.below hbx).d1
          have q1 := (HD.out.below hbx).fd1
          have hlx : w.heap.size + 1 + 1 < wx.heap.size := by have := HDX.out.sz; omega
          have hlr : wr.heap.size < wx.heap.size := by omega
          have hbase : w.heap.size + 1 + 1 + 1 ≤ wx.heap.size := HDX.out.sz
          have hc0 : wx.cell? ⟨wr.heap.size, 0, none⟩ = some (.int .i64 n) := hrow.cell 0 _ rfl
          have hcv := hrow.drew.text (P := Try.prog) x 1 64 64 hxl (fun i hi => by rw [show 1 + i = i + 1 by omega]; simp [List.getD, show i < x.length by omega]) 86 5 9 Try.underlying86 Try.underlying5 Try.underlying9
          have HO := hid (HDX.out.drew.own'.alloc (.cells #[.int .i64 n, .string (strOfNums x)] 52))
          have HDA := hid (HDX.out.drew.alloc (.cells #[.int .i64 n, .string (strOfNums x)] 52))
          clear hrow hbx hsx HD hrg
          go_region_law (first | (refine step_append_lies _ (by rfl) _ _ _ (by rfl) (w.heap.size + 1 + 1 + 1) 52 i1 (.agg #[.int .i64 0, .string ByteArray.empty]) 2 24 Try.underlying28 HI1.out.1 HI1.out.2.1 HI1.out.2.2.1 HI1.out.2.2.2 rfl (by omega) v' (held (hs.take k2)).length (wcells (held (hs.take k2))) (by rfl) HO.out ⟨wx.heap.size, 0, none⟩ 1 1 [.int .i64 n, .string (strOfNums x)] (by rfl) rfl (World.news_of_block (heap_alloc_new wx.drew _)) (by intro u hu; simp at hu; rcases hu with rfl | rfl <;> rfl) (by omega) (by rw [HL.out]; unfold maxLen; omega) (by rw [HL.out]; omega) (by simp <;> omega) (wx.heap.size + 1) (by simp) ?_; intro g cap w3 hown hgrow hat hlt3; obtain ⟨q4, q5⟩ := HDA.out.grown2 hgrow; have HOW := hid hown; have HGR := hid hgrow; have HAT := hid hat; clear hown hgrow hat))
          all_goals
            have hpush := HDA.out.push2 (x := (n, strOfNums x)) HOW.out HGR.out HAT.out (by simp)
            rw [show (n, strOfNums x) = ((hs.getD k2 (0, [])).1, strOfNums (hs.getD k2 (0, [])).2) by rw [← HS.out], ← held_take hs k2 hlt2] at hpush
            have HP := hid hpush
            clear hpush
            go_wp2
            go_roundw
            case rel => exact ⟨k2 + 1, _, by omega, by go_num, HP.out⟩
            case measure => simp [intOf]; omega
        · have hkn2 : Hid (hs.take k2 = hs) := List.take_of_length_le (by omega)
          rw [hkn2.out] at hd
          have HD := hid hd
          have q0 := hd.d0
          have q1 := hd.d1
          have q2 := hd.r0
          have q3 := hd.r1
          have q4 := hd.fr0
          have q5 := hd.fr1
          have o1 := hd.own
          have o2 := hd.own'
          obtain ⟨av, nv, cv, rfl⟩ : ∃ a n c, v = .slice a n c := by rcases owns_forms hd.own with ⟨e, _⟩ | ⟨g, c, e, _⟩ <;> exact ⟨_, _, _, e⟩
          obtain ⟨av', nv', cv', rfl⟩ : ∃ a n c, v' = .slice a n c := by rcases owns_forms hd.own' with ⟨e, _⟩ | ⟨g, c, e, _⟩ <;> exact ⟨_, _, _, e⟩
          clear hd o1 o2
          go_wp2
          have hsl : (secs ps).length = ps.length := by simp [secs]
          have hsl' : (held hs).length = hs.length := by simp [held]
          have own1 := ownsRow_setCell_below (ownsRow_setCell_below HD.out.own (a := ⟨w.heap.size + 1, 0, none⟩) (by show w.heap.size + 1 < _; omega) (.slice av nv cv)) (a := ⟨w.heap.size + 1, 1, none⟩) (by show w.heap.size + 1 < _; omega) (.slice av' nv' cv')
          have own2 := ownsRow_setCell_below (ownsRow_setCell_below HD.out.own' (a := ⟨w.heap.size + 1, 0, none⟩) (by show w.heap.size + 1 < _; omega) (.slice av nv cv)) (a := ⟨w.heap.size + 1, 1, none⟩) (by show w.heap.size + 1 < _; omega) (.slice av' nv' cv')
          rw [hsl] at own1
          rw [hsl'] at own2
          refine bodyPost_ret (v := .agg #[.slice av nv cv, .slice av' nv' cv']) (by simp [results, Try.results31, go_sem, q2, q3]) rfl ⟨_, _, rfl, own1.mono (by omega), own2.mono (by omega), HD.out.apart, ?_⟩
          exact (HD.out.bel.setCell (by show w.heap.size ≤ w.heap.size + 1; omega) _).setCell (by show w.heap.size ≤ w.heap.size + 1; omega) _
end Go.Proofs.Ytpnblphoehgjhad
