import Derived.Shelf.Strings.Builder1
import Derived.Test.YtnmaknnnmjfhkadProg
import Derived.Test.YtnmaknnnmjfhkadVB
import Derived.Test.YtnmaknnnmjfhkadBytes
import Derived.Test.YtnmaknnnmjfhkadStp
import Derived.Test.YtnmaknnnmjfhkadMhFnStates2
import Derived.Test.YtnmaknnnmjfhkadDsk
import Derived.Test.YtnmaknnnmjfhkadFbP

set_option maxHeartbeats 16000000
set_option maxRecDepth 8000
namespace Go.Proofs.Ytnmaknnnmjfhkad
open Go.Shelf

/-- Where this program has what the contracts of strings.Builder speak of. -/
def bRen : Go.Shelf.Ren := ⟨fun | 166 => 65 | 240 => 124 | 276 => 138 | 169 => 67 | n => n, fun | 0 => 0 | 3 => 3 | 4 => 4 | 5 => 5 | 9 => 9 | 20 => 20 | 37 => 22 | 70 => 110 | 72 => 112 | 75 => 114 | 80 => 120 | 164 => 197 | 127 => 182 | n => n, fun | n => n⟩
theorem bLays240 : Go.Proofs.Lays.n240 Try.prog bRen := {
  mixed := by kernel_rfl
  f240 := Try.func124.trans (congrArg some (by kernel_rfl))
  f276 := Try.func138.trans (congrArg some (by kernel_rfl))
  t0 := Try.underlying0
  a0 := Try.isAgg0
  z0 := Try.sizeOf0
  v0 := Try.zeroValue0
  t4 := Try.underlying4
  a4 := Try.isAgg4
  z4 := Try.sizeOf4
  v4 := Try.zeroValue4
  t9 := Try.underlying9
  a9 := Try.isAgg9
  z9 := Try.sizeOf9
  v9 := Try.zeroValue9
  t20 := Try.underlying20
  a20 := Try.isAgg20
  z20 := Try.sizeOf20
  v20 := Try.zeroValue20
  t70 := Try.underlying110
  a70 := Try.isAgg110
  z70 := Try.sizeOf110
  v70 := Try.zeroValue110
  t72 := Try.underlying112
  a72 := Try.isAgg112
  z72 := Try.sizeOf112
  v72 := Try.zeroValue112
  t164 := Try.underlying197
  a164 := Try.isAgg197
  z164 := Try.sizeOf197
  v164 := Try.zeroValue197 }
theorem bLays166 : Go.Proofs.Lays.n166 Try.prog bRen := {
  mixed := by kernel_rfl
  f166 := Try.func65.trans (congrArg some (by kernel_rfl))
  f240 := Try.func124.trans (congrArg some (by kernel_rfl))
  f276 := Try.func138.trans (congrArg some (by kernel_rfl))
  t0 := Try.underlying0
  a0 := Try.isAgg0
  z0 := Try.sizeOf0
  v0 := Try.zeroValue0
  t3 := Try.underlying3
  a3 := Try.isAgg3
  z3 := Try.sizeOf3
  v3 := Try.zeroValue3
  t4 := Try.underlying4
  a4 := Try.isAgg4
  z4 := Try.sizeOf4
  v4 := Try.zeroValue4
  t9 := Try.underlying9
  a9 := Try.isAgg9
  z9 := Try.sizeOf9
  v9 := Try.zeroValue9
  t20 := Try.underlying20
  a20 := Try.isAgg20
  z20 := Try.sizeOf20
  v20 := Try.zeroValue20
  t37 := Try.underlying22
  a37 := Try.isAgg22
  z37 := Try.sizeOf22
  v37 := Try.zeroValue22
  t70 := Try.underlying110
  a70 := Try.isAgg110
  z70 := Try.sizeOf110
  v70 := Try.zeroValue110
  t72 := Try.underlying112
  a72 := Try.isAgg112
  z72 := Try.sizeOf112
  v72 := Try.zeroValue112
  t75 := Try.underlying114
  a75 := Try.isAgg114
  z75 := Try.sizeOf114
  v75 := Try.zeroValue114
  t164 := Try.underlying197
  a164 := Try.isAgg197
  z164 := Try.sizeOf197
  v164 := Try.zeroValue197 }
theorem bLays169 : Go.Proofs.Lays.n169 Try.prog bRen := {
  mixed := by kernel_rfl
  f169 := Try.func67.trans (congrArg some (by kernel_rfl))
  t0 := Try.underlying0
  a0 := Try.isAgg0
  z0 := Try.sizeOf0
  v0 := Try.zeroValue0
  t3 := Try.underlying3
  a3 := Try.isAgg3
  z3 := Try.sizeOf3
  v3 := Try.zeroValue3
  t9 := Try.underlying9
  a9 := Try.isAgg9
  z9 := Try.sizeOf9
  v9 := Try.zeroValue9
  t37 := Try.underlying22
  a37 := Try.isAgg22
  z37 := Try.sizeOf22
  v37 := Try.zeroValue22
  t70 := Try.underlying110
  a70 := Try.isAgg110
  z70 := Try.sizeOf110
  v70 := Try.zeroValue110
  t72 := Try.underlying112
  a72 := Try.isAgg112
  z72 := Try.sizeOf112
  v72 := Try.zeroValue112
  t127 := Try.underlying182
  a127 := Try.isAgg182
  z127 := Try.sizeOf182
  v127 := Try.zeroValue182 }
theorem bX72 : Builder.X72 Try.prog bRen := {
  sizeBuilder := by kernel_rfl
  liesBuilder := by kernel_rfl }
theorem bExtra : Builder.Extra Try.prog bRen := {
  sizeBuilder := by kernel_rfl
  liesBuilder := by kernel_rfl
  t5 := Try.underlying5
  a5 := Try.isAgg5
  z5 := Try.sizeOf5
  v5 := Try.zeroValue5
  infoByte := by kernel_rfl
  cellsByte := by kernel_rfl
  sizeByte := by kernel_rfl
  neB5 := by decide }
open Go.RowKit in
theorem b_write (B b : Nat) (bs : List Value) (s : ByteArray) (w : World) (h : Lib.IsBuilder 112 5 B b bs w) (hlen : bs.length + s.size ≤ 140737488355328) (hBw : B ≤ w.heap.size) :
    Calls Try.prog 65 #[.pointer (some ⟨b, 0, none⟩), .string s] w fun e w' => e = .returned (.tuple #[.int .i64 s.size, .nilIface]) ∧ (Lib.BuilderAt 112 5 B b (.pointer (some ⟨b, 0, none⟩)) (bs ++ Lib.strCells s) w' ∧ Below B w w') := Any.Builder_WriteString bLays166 bExtra B b bs s w h hlen hBw
open Go.RowKit in
theorem b_string (B b : Nat) (l : List UInt8) (w : World) (h : Lib.IsBuilder 112 5 B b (Lib.byteCells l) w) (hBw : B ≤ w.heap.size) :
    Calls Try.prog 67 #[.pointer (some ⟨b, 0, none⟩)] w fun e w' => e = .returned (.string ⟨l.toArray⟩) ∧ Below B w w' := Any.Builder_String_any bLays169 bExtra B b l w h hBw
end Go.Proofs.Ytnmaknnnmjfhkad

namespace Go.Proofs.Ytnmaknnnmjfhkad
open Go.RowKit
set_option maxRecDepth 4000
set_option linter.unusedVariables false

theorem bcell1F {W w1 : World} (hb : Below W.heap.size W w1) : (∀ b o, b < W.heap.size → w1.cell? ⟨b, o, none⟩ = W.cell? ⟨b, o, none⟩) ∧ (∀ b o, b < W.heap.size → w1.frozen? ⟨b, o, none⟩ = W.frozen? ⟨b, o, none⟩) :=
  ⟨fun b o h => hb.cell (p := ⟨b, o, none⟩) h, fun b o h => hb.frozen (p := ⟨b, o, none⟩) h⟩
theorem bs {w x y : World} (h : Below w.heap.size w x) (hb : Below x.heap.size x y) : Below w.heap.size w y := h.trans (hb.mono h.size)
theorem sized_i (s : ByteArray) (w : World) (hs : s.size ≤ 255) : Calls Try.prog 165 #[.string s] w fun e w' => e = .returned (.string (strOfNums [(s.size : Int)] ++ s)) ∧ Below w.heap.size w w' := by
  have hb1 := bytes1
  have hz1 : (strOfNums [(s.size : Int)]).size = 1 := by rw [strOfNums_size]; rfl
  go_enter Try.func165, Try.ntmps165
  go_wp2
  go_ret
  exact ⟨rfl, (Below.refl _ _).alloc (Nat.le_refl _) _⟩
theorem bytes_any (w : World) (b : Nat) (n : Int) (h : w.cell? ⟨b, 0, none⟩ = some (.int .u8 n)) : (convert 22 9 (.slice (some ⟨b, 0, none⟩) 1 1)).run Try.prog w = .ok (.string (strOfNums [n])) w :=
  run_convert_bytes_arg (P := Try.prog) _ 22 5 Try.underlying22 Try.underlying5 b 0 1 1 [n] rfl (fun i hi => by
    have : i = 0 := by omega
    subst this; simpa using h) 9 Try.underlying9
set_option maxHeartbeats 16000000 in
theorem formset_i (k v : ByteArray) (w : World) (hk : k.size ≤ 255) (hv : v.size ≤ 255) : Calls Try.prog 167 #[.agg #[.string k, .string v]] w fun e w' => e = .returned (.string (strOfNums [0] ++ (strOfNums [(k.size : Int)] ++ k) ++ (strOfNums [(v.size : Int)] ++ v))) ∧ Below w.heap.size w w' := by
  have hb1 : ∀ o, Below w.heap.size w (w.alloc o) := fun o => (Below.refl _ _).alloc (Nat.le_refl _) _
  have hb0 : ∀ o o', Below w.heap.size w ((w.alloc o).alloc o') := fun o o' => (hb1 o).alloc (by simp) _
  have hb2 : ∀ (x : World) (b : Nat), x.cell? ⟨b, 0, none⟩ = some (.int .u8 0) → (convert 22 9 (.slice (some ⟨b, 0, none⟩) 1 1)).run Try.prog x = .ok (.string (strOfNums [0])) x := fun x b h => bytes_any x b 0 h
  have z3 : (strOfNums [0] ++ (strOfNums [(k.size : Int)] ++ k)).size = 2 + k.size := by rw [ByteArray.size_append, ByteArray.size_append, strOfNums_size, strOfNums_size]; simp; omega
  have n1 : ¬ 9223372036854775807 < 1 + (1 + k.size) := by omega
  have n2 : ¬ 9223372036854775807 < 2 + k.size + (1 + v.size) := by omega
  have z0 : (strOfNums [0]).size = 1 := by rw [strOfNums_size]; rfl
  have z1 : (strOfNums [(k.size : Int)] ++ k).size = 1 + k.size := by rw [ByteArray.size_append, strOfNums_size]; rfl
  have z2 : (strOfNums [(v.size : Int)] ++ v).size = 1 + v.size := by rw [ByteArray.size_append, strOfNums_size]; rfl
  go_enter Try.func167, Try.ntmps167
  go_wp2_with fail
  go_region_law (first | (have _g := q7; refine step_call (by rfl) 165 #[.string v] (by go_simp) (sized_i v _ hv) ?_; rintro e w8 ⟨rfl, hb8⟩; refine ⟨_, rfl, ?_⟩; obtain ⟨q8, _⟩ := bcell1F hb8; have hs8 := hb8.size; have HB8 := hid hb8; clear hb8) | (refine step_call (by rfl) 165 #[.string k] (by go_simp) (sized_i k _ hk) ?_; rintro e w7 ⟨rfl, hb7⟩; refine ⟨_, rfl, ?_⟩; have hs7 := hb7.size; simp only [World.size_alloc, World.size_drew] at hs7; have l70 : w.heap.size < w7.heap.size := (by omega); have l71 := Nat.lt_of_succ_le hs7; obtain ⟨q7, _⟩ := bcell1F hb7; have HB7 := hid hb7; clear hb7))
  all_goals
    go_wp2
    go_ret
    refine ⟨rfl, ?_⟩
    first
      | exact bs (bs (hb0 _ _).drew HB7.out) HB8.out
      | exact bs ((bs (hb1 _).drew HB7.out).alloc (bs (hb1 _).drew HB7.out).size _) HB8.out
      | exact (bs (bs (hb1 _).drew HB7.out) HB8.out).alloc (bs (bs (hb1 _).drew HB7.out) HB8.out).size _
end Go.Proofs.Ytnmaknnnmjfhkad

namespace Go.Proofs.Ytnmaknnnmjfhkad
open Go.RowKit
set_option maxRecDepth 4000
set_option linter.unusedVariables false

theorem builder_below {T e : TypeId} {B b : Nat} {bs : List Value} {w w' : World} (h : Lib.IsBuilder T e B b bs w) (hb : Below w.heap.size w w') : Lib.IsBuilder T e B b bs w' := by
  have key : ∀ p, Lib.BuilderAt T e B b p bs w → Lib.BuilderAt T e B b p bs w' := fun p hp => by
    obtain ⟨h1, v, h2, h3, h4⟩ := hp
    have hlt : b < w.heap.size := by
      rcases Nat.lt_or_ge b w.heap.size with h | h
      · exact h
      · rw [Array.getElem?_eq_none h] at h2; cases h2
    exact ⟨h1, v, by rw [hb.block b hlt]; exact h2, owns_below h3 hb, h4⟩
  rcases h with h | h
  · exact .inl (key _ h)
  · exact .inr (key _ h)
theorem bytes_step (f s : ByteArray) : Lib.byteCells f.data.toList ++ Lib.strCells s = Lib.byteCells (f ++ s).data.toList := by
  rw [Lib.strCells_eq, ← Lib.byteCells_append]
  congr 1

set_option maxHeartbeats 16000000 in
theorem formrem_i (k : ByteArray) (w : World) (hk : k.size ≤ 255) : Calls Try.prog 163 #[.agg #[.string k]] w fun e w' => e = .returned (.string (strOfNums [1] ++ (strOfNums [(k.size : Int)] ++ k))) ∧ Below w.heap.size w w' := by
  have hb1 : ∀ o, Below w.heap.size w (w.alloc o) := fun o => (Below.refl _ _).alloc (Nat.le_refl _) _
  have hb0 : ∀ o o', Below w.heap.size w ((w.alloc o).alloc o') := fun o o' => (hb1 o).alloc (by simp) _
  have hb2 : ∀ (x : World) (b : Nat), x.cell? ⟨b, 0, none⟩ = some (.int .u8 1) → (convert 22 9 (.slice (some ⟨b, 0, none⟩) 1 1)).run Try.prog x = .ok (.string (strOfNums [1])) x := fun x b h => bytes_any x b 1 h
  have n1 : ¬ 9223372036854775807 < 1 + (1 + k.size) := by omega
  have z0 : (strOfNums [1]).size = 1 := by rw [strOfNums_size]; rfl
  have z1 : (strOfNums [(k.size : Int)] ++ k).size = 1 + k.size := by rw [ByteArray.size_append, strOfNums_size]; rfl
  go_enter Try.func163, Try.ntmps163
  go_wp2_with fail
  go_region_law (refine step_call (by rfl) 165 #[.string k] (by go_simp) (sized_i k _ hk) ?_; rintro e w7 ⟨rfl, hb7⟩; refine ⟨_, rfl, ?_⟩; have hs7 := hb7.size; simp only [World.size_alloc, World.size_drew] at hs7; have l70 : w.heap.size < w7.heap.size := (by omega); have l71 := Nat.lt_of_succ_le hs7; obtain ⟨q7, _⟩ := bcell1F hb7; have HB7 := hid hb7; clear hb7)
  all_goals
    go_wp2
    go_ret
    refine ⟨rfl, ?_⟩
    first
      | exact bs (hb0 _ _).drew HB7.out
      | exact (bs (hb1 _).drew HB7.out).alloc (bs (hb1 _).drew HB7.out).size _

theorem meth_set (j : Nat) (v v' : Value) (w : World) : Sem.run Try.prog (method (j + 1) 181 (.agg #[v, v']) "loop.example/kilnstone/impl.form") w = .ok (167, .agg #[v, v']) w := by kernel_rfl
theorem meth_rem (j : Nat) (v : Value) (w : World) : Sem.run Try.prog (method (j + 1) 179 (.agg #[v]) "loop.example/kilnstone/impl.form") w = .ok (163, .agg #[v]) w := by kernel_rfl
/-- A change as the kind that it is. -/
@[reducible] def editV (k v : ByteArray) (g : Bool) : Value := if g then .iface 179 (.agg #[.string k]) else .iface 181 (.agg #[.string k, .string v])
set_option maxHeartbeats 16000000 in
theorem formbatch_i (a : Option Addr) (rs : List (ByteArray × ByteArray × Bool)) (c : Nat) (w : World) (h : Chs w a rs) (hl : rs.length ≤ 1048576) (hs : ∀ x ∈ rs, x.1.size ≤ 1048576 ∧ x.2.1.size ≤ 1048576) :
    Calls Try.prog 16 #[.slice a rs.length c] w fun e w' => e = .returned (.string (bOut rs)) ∧ Below w.heap.size w w' := by
  unfold bOut
  cases hok : batchOk rs with
  | false =>
    simp only [Bool.false_eq_true, if_false]
    go_enter Try.func16, Try.ntmps16
    go_wp2_with (go_at_call 55; refine (vbatch_i a rs c _ h hl hs).mono ?_; rw [hok]; rintro e w2 ⟨rfl, hb2⟩)
    go_ret
    exact ⟨rfl, hb2⟩
  | true =>
    simp only [if_true]
    obtain ⟨hn, hall⟩ := batchOk_of hok
    have HALL := hid hall
    clear hall
    obtain ⟨F, HF⟩ : ∃ F, Hid (F = bForm rs) := ⟨_, hid rfl⟩
    rw [← HF.out]
    go_enter Try.func16, Try.ntmps16
    go_wp2_with (go_at_call 55; refine (vbatch_i a rs c _ h hl hs).mono ?_; rw [hok]; rintro e w2 ⟨rfl, hb2⟩)
    go_loopw [5, 11] (fun _ i wr => ∃ k : Nat, k ≤ rs.length ∧ i = .int .i64 k ∧ Lib.IsBuilder 112 5 w2.heap.size w2.heap.size (Lib.byteCells (bForm (rs.take k)).data.toList) wr ∧ Below w2.heap.size w2 wr) (fun _ i _ => rs.length - (intOf i).toNat)
    case atStart => exact ⟨0, Nat.zero_le _, rfl, by rw [List.take_zero]; exact Lib.fresh_isBuilder _ _ _, (Below.refl _ _).alloc (Nat.le_refl _) _⟩
    case round =>
      obtain ⟨k, hk, rfl, hbd, hbel⟩ := hrel
      by_cases hlt : k < rs.length
      · obtain ⟨b, o, s0, s1, g2, rfl, hc0, hc1, hc2, HS⟩ := (h.below (hb2.trans (hbel.mono hb2.size))).at hlt
        have hm : Hid ((s0, s1, g2) ∈ rs) := by show _ ∈ _; rw [HS.out]; simp [List.getD, hlt]
        have hco := HALL.out _ hm.out
        have hz0 : s0.size ≤ 255 := by simp [chOk, kOk, vOk] at hco; omega
        have hz1 : s1.size ≤ 255 := by simp [chOk, kOk, vOk] at hco; omega
        have HCS := hid (chN_size _ hco)
        have HBS := hid (bForm_size (rs.take k) (fun x hx => HALL.out x (List.mem_of_mem_take hx)))
        have HST := hid (bForm_succ rs k _ _ hlt HS.out)
        have hlen : (Lib.byteCells (bForm (rs.take k)).data.toList).length + (strOfNums (chN (s0, s1, g2))).size ≤ 140737488355328 := by
          rw [Lib.byteCells_length]
          have h1 : (bForm (rs.take k)).data.toList.length = (bForm (rs.take k)).size := rfl
          have h2 := HBS.out
          have h3 := HCS.out
          rw [List.length_take] at h2
          omega
        have hlt' : (k : Int) < (rs.length : Int) := by omega
        have hsz := hbel.size
        have HB := hid hbel
        have HBD := hid hbd
        clear hbd hbel hco
        cases g2 with
        | false =>
          have hms := fun j w => meth_set j (.string s0) (.string s1) w
          go_wp2_with (first | (go_at_call 66; refine (edit_i0 s0 s1 _).mono ?_; rintro e w4 ⟨rfl, hb4⟩) | (go_at_call 167; refine (formset_i s0 s1 _ hz0 hz1).mono ?_; rw [chN_set]; rintro e w5 ⟨rfl, hb5⟩; have hbx := bs (bs ((Below.refl wr.heap.size wr).alloc (Nat.le_refl _) _) hb4) hb5; have HBX := hid hbx; have HBY := hid (builder_below HBD.out hbx); have hsx := hbx.size; clear hb4 hb5 hbx) | (go_at_call 65; refine (b_write _ _ _ _ _ HBY.out hlen (by omega)).mono ?_; rintro e w6 ⟨rfl, hb6, hb7⟩))
          refine ⟨⟨k + 1, by omega, by go_num, ?_, HB.out.trans ((HBX.out.mono hsz).trans hb7)⟩, by simp [intOf]; omega⟩
          rw [HST.out, ← bytes_step]
          exact .inr hb6
        | true =>
          have hms := fun j w => meth_rem j (.string s0) w
          go_wp2_with (first | (go_at_call 66; refine (edit_i1 s0 s1 _).mono ?_; rintro e w4 ⟨rfl, hb4⟩) | (go_at_call 163; refine (formrem_i s0 _ hz0).mono ?_; rw [chN_rem s0 s1]; rintro e w5 ⟨rfl, hb5⟩; have hbx := bs (bs ((Below.refl wr.heap.size wr).alloc (Nat.le_refl _) _) hb4) hb5; have HBX := hid hbx; have HBY := hid (builder_below HBD.out hbx); have hsx := hbx.size; clear hb4 hb5 hbx) | (go_at_call 65; refine (b_write _ _ _ _ _ HBY.out hlen (by omega)).mono ?_; rintro e w6 ⟨rfl, hb6, hb7⟩))
          refine ⟨⟨k + 1, by omega, by go_num, ?_, HB.out.trans ((HBX.out.mono hsz).trans hb7)⟩, by simp [intOf]; omega⟩
          rw [HST.out, ← bytes_step]
          exact .inr hb6
      · have hkl : k = rs.length := by omega
        subst hkl
        have hsz := hbel.size
        have HBD := hid hbd
        clear hbd
        rw [List.take_length, ← HF.out] at HBD
        go_wp2_with (go_at_call 67; refine (b_string _ _ _ _ HBD.out hsz).mono ?_; rintro e w6 ⟨rfl, hb6⟩)
        go_ret
        refine ⟨?_, hb2.trans ((hbel.trans hb6).mono hb2.size)⟩
        have e : (⟨F.data.toList.toArray⟩ : ByteArray) = F := by simp
        first | rw [← e]; rfl | (simp; rfl)
end Go.Proofs.Ytnmaknnnmjfhkad
