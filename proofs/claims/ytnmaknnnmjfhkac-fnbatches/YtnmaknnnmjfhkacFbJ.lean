import Derived.Test.YtnmaknnnmjfhkacEdt
import Derived.Test.YtnmaknnnmjfhkacFbI
import Derived.Test.YtnmaknnnmjfhkacDsk
import Derived.Test.YtnmaknnnmjfhkacFbP
namespace Go.Proofs.Ytnmaknnnmjfhkac
open Go.RowKit
set_option maxRecDepth 4000
set_option linter.unusedVariables false

theorem builder_below {T e : TypeId} {B b : Nat} {bs : List Value} {w w' : World} (h : Lib.IsBuilder T e B b bs w) (hb : Below w.heap.size w w') : Lib.IsBuilder T e B b bs w' := by
  have key : ∀ p, Lib.BuilderAt T e B b p bs w → Lib.BuilderAt T e B b p bs w' := fun p hp => by
    obtain ⟨h1, v, h2, h3, h4⟩ := hp
    have hlt : b < w.heap.size := by
      rcases Nat.lt_or_ge b w.heap.size with h | h
      · exact h
      · rw [Array.getElem?_eq_none h] at h2; cases h2
    exact ⟨h1, v, by rw [hb.block b hlt]; exact h2, owns_below h3 hb, h4⟩
  rcases h with h | h
  · exact .inl (key _ h)
  · exact .inr (key _ h)
theorem bytes_step (f s : ByteArray) : Lib.byteCells f.data.toList ++ Lib.strCells s = Lib.byteCells (f ++ s).data.toList := by
  rw [Lib.strCells_eq, ← Lib.byteCells_append]
  congr 1

set_option maxHeartbeats 8000000 in
theorem formrem_i (k : ByteArray) (w : World) (hk : k.size ≤ 255) : Calls Try.prog 123 #[.agg #[.string k]] w fun e w' => e = .returned (.string (strOfNums [1] ++ (strOfNums [(k.size : Int)] ++ k))) ∧ Below w.heap.size w w' := by
  have hb1 : ∀ o, Below w.heap.size w (w.alloc o) := fun o => (Below.refl _ _).alloc (Nat.le_refl _) _
  have hb0 : ∀ o o', Below w.heap.size w ((w.alloc o).alloc o') := fun o o' => (hb1 o).alloc (by simp) _
  have hb2 : ∀ (x : World) (b : Nat), x.cell? ⟨b, 0, none⟩ = some (.int .u8 1) → (convert 22 9 (.slice (some ⟨b, 0, none⟩) 1 1)).run Try.prog x = .ok (.string (strOfNums [1])) x := fun x b h => bytes_any x b 1 h
  have n1 : ¬ 9223372036854775807 < 1 + (1 + k.size) := by omega
  have z0 : (strOfNums [1]).size = 1 := by rw [strOfNums_size]; rfl
  have z1 : (strOfNums [(k.size : Int)] ++ k).size = 1 + k.size := by rw [ByteArray.size_append, strOfNums_size]; rfl
  go_enter Try.func123, Try.ntmps123
  go_wp2_with fail
  go_region_law (refine step_call (by rfl) 124 #[.string k] (by go_simp) (sized_i k _ hk) ?_; rintro e w7 ⟨rfl, hb7⟩; refine ⟨_, rfl, ?_⟩; have hs7 := hb7.size; simp only [World.size_alloc, World.size_drew] at hs7; have l70 : w.heap.size < w7.heap.size := (by omega); have l71 := Nat.lt_of_succ_le hs7; obtain ⟨q7, _⟩ := bcell1F hb7; have HB7 := hid hb7; clear hb7)
  all_goals
    go_wp2
    go_ret
    refine ⟨rfl, ?_⟩
    first
      | exact bs (hb0 _ _).drew HB7.out
      | exact (bs (hb1 _).drew HB7.out).alloc (bs (hb1 _).drew HB7.out).size _

theorem meth_set (j : Nat) (v v' : Value) (w : World) : Sem.run Try.prog (method (j + 1) 133 (.agg #[v, v']) "loop.example/kilnstone/impl.form") w = .ok (126, .agg #[v, v']) w := by kernel_rfl
theorem meth_rem (j : Nat) (v : Value) (w : World) : Sem.run Try.prog (method (j + 1) 131 (.agg #[v]) "loop.example/kilnstone/impl.form") w = .ok (123, .agg #[v]) w := by kernel_rfl
/-- A change as the kind that it is. -/
@[reducible] def editV (k v : ByteArray) (g : Bool) : Value := if g then .iface 131 (.agg #[.string k]) else .iface 133 (.agg #[.string k, .string v])
set_option maxHeartbeats 1000000 in
theorem formbatch_i (a : Option Addr) (rs : List (ByteArray × ByteArray × Bool)) (c : Nat) (w : World) (h : Chs w a rs) (hl : rs.length ≤ 1048576) (hs : ∀ x ∈ rs, x.1.size ≤ 1048576 ∧ x.2.1.size ≤ 1048576) :
    Calls Try.prog 8 #[.slice a rs.length c] w fun e w' => e = .returned (.string (bOut rs)) ∧ Below w.heap.size w w' := by
  unfold bOut
  cases hok : batchOk rs with
  | false =>
    simp only [Bool.false_eq_true, if_false]
    go_enter Try.func8, Try.ntmps8
    go_wp2_with (go_at_call 38; refine (vbatch_i a rs c _ h hl hs).mono ?_; rw [hok]; rintro e w2 ⟨rfl, hb2⟩)
    go_ret
    exact ⟨rfl, hb2⟩
  | true =>
    simp only [if_true]
    obtain ⟨hn, hall⟩ := batchOk_of hok
    have HALL := hid hall
    clear hall
    obtain ⟨F, HF⟩ : ∃ F, Hid (F = bForm rs) := ⟨_, hid rfl⟩
    rw [← HF.out]
    go_enter Try.func8, Try.ntmps8
    go_wp2_with (go_at_call 38; refine (vbatch_i a rs c _ h hl hs).mono ?_; rw [hok]; rintro e w2 ⟨rfl, hb2⟩)
    go_loopw [5, 11] (fun _ i wr => ∃ k : Nat, k ≤ rs.length ∧ i = .int .i64 k ∧ Lib.IsBuilder 70 5 w2.heap.size w2.heap.size (Lib.byteCells (bForm (rs.take k)).data.toList) wr ∧ Below w2.heap.size w2 wr) (fun _ i _ => rs.length - (intOf i).toNat)
    case atStart => exact ⟨0, Nat.zero_le _, rfl, by rw [List.take_zero]; exact Lib.fresh_isBuilder _ _ _, (Below.refl _ _).alloc (Nat.le_refl _) _⟩
    case round =>
      obtain ⟨k, hk, rfl, hbd, hbel⟩ := hrel
      by_cases hlt : k < rs.length
      · obtain ⟨b, o, s0, s1, g2, rfl, hc0, hc1, hc2, HS⟩ := (h.below (hb2.trans (hbel.mono hb2.size))).at hlt
        have hm : Hid ((s0, s1, g2) ∈ rs) := by show _ ∈ _; rw [HS.out]; simp [List.getD, hlt]
        have hco := HALL.out _ hm.out
        have hz0 : s0.size ≤ 255 := by simp [chOk, kOk, vOk] at hco; omega
        have hz1 : s1.size ≤ 255 := by simp [chOk, kOk, vOk] at hco; omega
        have HCS := hid (chN_size _ hco)
        have HBS := hid (bForm_size (rs.take k) (fun x hx => HALL.out x (List.mem_of_mem_take hx)))
        have HST := hid (bForm_succ rs k _ _ hlt HS.out)
        have hlen : (Lib.byteCells (bForm (rs.take k)).data.toList).length + (strOfNums (chN (s0, s1, g2))).size ≤ 140737488355328 := by
          rw [Lib.byteCells_length]
          have h1 : (bForm (rs.take k)).data.toList.length = (bForm (rs.take k)).size := rfl
          have h2 := HBS.out
          have h3 := HCS.out
          rw [List.length_take] at h2
          omega
        have hlt' : (k : Int) < (rs.length : Int) := by omega
        have hsz := hbel.size
        have HB := hid hbel
        have HBD := hid hbd
        clear hbd hbel hco
        cases g2 with
        | false =>
          have hms := fun j w => meth_set j (.string s0) (.string s1) w
          go_wp2_with (first | (go_at_call 40; refine (edit_i0 s0 s1 _).mono ?_; rintro e w4 ⟨rfl, hb4⟩) | (go_at_call 126; refine (formset_i s0 s1 _ hz0 hz1).mono ?_; rw [chN_set]; rintro e w5 ⟨rfl, hb5⟩; have hbx := bs (bs ((Below.refl wr.heap.size wr).alloc (Nat.le_refl _) _) hb4) hb5; have HBX := hid hbx; have HBY := hid (builder_below HBD.out hbx); have hsx := hbx.size; clear hb4 hb5 hbx) | (go_at_call 39; refine (b_write _ _ _ _ _ HBY.out hlen (by omega)).mono ?_; rintro e w6 ⟨rfl, hb6, hb7⟩))
          refine ⟨⟨k + 1, by omega, by go_num, ?_, HB.out.trans ((HBX.out.mono hsz).trans hb7)⟩, by simp [intOf]; omega⟩
          rw [HST.out, ← bytes_step]
          exact .inr hb6
        | true =>
          have hms := fun j w => meth_rem j (.string s0) w
          go_wp2_with (first | (go_at_call 40; refine (edit_i1 s0 s1 _).mono ?_; rintro e w4 ⟨rfl, hb4⟩) | (go_at_call 123; refine (formrem_i s0 _ hz0).mono ?_; rw [chN_rem s0 s1]; rintro e w5 ⟨rfl, hb5⟩; have hbx := bs (bs ((Below.refl wr.heap.size wr).alloc (Nat.le_refl _) _) hb4) hb5; have HBX := hid hbx; have HBY := hid (builder_below HBD.out hbx); have hsx := hbx.size; clear hb4 hb5 hbx) | (go_at_call 39; refine (b_write _ _ _ _ _ HBY.out hlen (by omega)).mono ?_; rintro e w6 ⟨rfl, hb6, hb7⟩))
          refine ⟨⟨k + 1, by omega, by go_num, ?_, HB.out.trans ((HBX.out.mono hsz).trans hb7)⟩, by simp [intOf]; omega⟩
          rw [HST.out, ← bytes_step]
          exact .inr hb6
      · have hkl : k = rs.length := by omega
        subst hkl
        have hsz := hbel.size
        have HBD := hid hbd
        clear hbd
        rw [List.take_length, ← HF.out] at HBD
        go_wp2_with (go_at_call 41; refine (b_string _ _ _ _ HBD.out hsz).mono ?_; rintro e w6 ⟨rfl, hb6⟩)
        go_ret
        refine ⟨?_, hb2.trans ((hbel.trans hb6).mono hb2.size)⟩
        have e : (⟨F.data.toList.toArray⟩ : ByteArray) = F := by simp
        first | rw [← e]; rfl | (simp; rfl)
end Go.Proofs.Ytnmaknnnmjfhkac
