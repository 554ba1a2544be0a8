import Derived.Test.YtnmaknnnmjfhkagGreatDoorQhxOpenVB
import Derived.Test.YtnmaknnnmjfhkagGreatDoorQhxOpenDsk
import Derived.Test.YtnmaknnnmjfhkagGreatDoorProg
import Derived.Test.YtnmaknnnmjfhkagGreatDoorMhXOpen0
import Derived.WalkKit
import Derived.WalkSpells
import Derived.WalkLawsBesides
import Derived.Outline
import Derived.Deep.RegionLaw
import Derived.Deep.AppendLies
import Derived.Deep.AppendSrc
import Derived.Test.YtnmaknnnmjfhkagGreatDoorQhxOpenFill
import Derived.Deep.Onto
import Derived.Laws.BytesArg
import Derived.Laws.IdiomStrings

set_option maxHeartbeats 16000000
set_option maxRecDepth 8000
namespace Go.Proofs.YtnmaknnnmjfhkagGreatDoor
open Go.RowKit
set_option linter.unusedVariables false

/-- The form of a change, in numbers. -/
def chN (x : ByteArray × ByteArray × Bool) : List Int := if x.2.2 then [1] ++ ([(x.1.size : Int)] ++ nums x.1) else [0] ++ ([(x.1.size : Int)] ++ nums x.1) ++ ([(x.2.1.size : Int)] ++ nums x.2.1)
/-- The form of a batch. -/
def bForm (rs : List (ByteArray × ByteArray × Bool)) : ByteArray := strOfNums (rs.flatMap chN)
theorem bForm_nil : bForm [] = ByteArray.empty := rfl
theorem chN_set (k v : ByteArray) : strOfNums [0] ++ (strOfNums [(k.size : Int)] ++ k) ++ (strOfNums [(v.size : Int)] ++ v) = strOfNums (chN (k, v, false)) := by
  show _ = strOfNums ([0] ++ ([(k.size : Int)] ++ nums k) ++ ([(v.size : Int)] ++ nums v))
  rw [strOfNums_append, strOfNums_append, strOfNums_append, strOfNums_append, strOfNums_nums, strOfNums_nums]
theorem chN_rem (k v : ByteArray) : strOfNums [1] ++ (strOfNums [(k.size : Int)] ++ k) = strOfNums (chN (k, v, true)) := by
  show _ = strOfNums ([1] ++ ([(k.size : Int)] ++ nums k))
  rw [strOfNums_append, strOfNums_append, strOfNums_nums]
theorem bForm_succ (rs : List (ByteArray × ByteArray × Bool)) (k : Nat) (x : ByteArray × ByteArray × Bool) (d : ByteArray × ByteArray × Bool) (h : k < rs.length) (hx : x = rs.getD k d) : bForm (rs.take (k + 1)) = bForm (rs.take k) ++ strOfNums (chN x) := by
  unfold bForm
  rw [List.take_succ_eq_append_getElem h, List.flatMap_append, strOfNums_append]
  simp [List.getD, h] at hx
  rw [hx]
  simp
theorem chN_size (x : ByteArray × ByteArray × Bool) (h : chOk x = true) : (strOfNums (chN x)).size ≤ 123 := by
  rw [strOfNums_size]
  unfold chOk kOk vOk at h
  simp only [Bool.and_eq_true, decide_eq_true_eq] at h
  unfold chN
  split
  · simp [nums_length]; omega
  · simp [nums_length]; omega
theorem bForm_size (rs : List (ByteArray × ByteArray × Bool)) (h : ∀ x ∈ rs, chOk x = true) : (bForm rs).size ≤ 123 * rs.length := by
  induction rs with
  | nil => simp [bForm_nil]
  | cons x r ih =>
    have h1 := ih (fun y hy => h y (List.mem_cons_of_mem _ hy))
    have h2 := chN_size x (h x (List.mem_cons_self))
    have e : bForm (x :: r) = strOfNums (chN x) ++ bForm r := by unfold bForm; rw [List.flatMap_cons, strOfNums_append]
    rw [e, ByteArray.size_append, List.length_cons]
    omega

/-- What FormBatch answers. -/
def bOut (rs : List (ByteArray × ByteArray × Bool)) : ByteArray := if batchOk rs = true then bForm rs else ByteArray.empty
end Go.Proofs.YtnmaknnnmjfhkagGreatDoor

namespace Go.Proofs.YtnmaknnnmjfhkagGreatDoor
open Go.RowKit
set_option maxRecDepth 4000
set_option linter.unusedVariables false

theorem edit_i0 (k v : ByteArray) (w : World) : Calls Tryz.prog 186 #[.agg #[.string k, .string v, .bool false]] w fun e w' => e = .returned (.iface 298 (.agg #[.string k, .string v])) ∧ Below w.heap.size w w' := by
  go_enter Tryz.func186, Tryz.ntmps186
  go_wp2
  go_ret
  exact ⟨rfl, (Below.refl _ _).alloc (Nat.le_refl _) _⟩
theorem edit_i1 (k v : ByteArray) (w : World) : Calls Tryz.prog 186 #[.agg #[.string k, .string v, .bool true]] w fun e w' => e = .returned (.iface 296 (.agg #[.string k])) ∧ Below w.heap.size w w' := by
  go_enter Tryz.func186, Tryz.ntmps186
  go_wp2
  go_ret
  exact ⟨rfl, (Below.refl _ _).alloc (Nat.le_refl _) _⟩
end Go.Proofs.YtnmaknnnmjfhkagGreatDoor

namespace Go.Proofs.YtnmaknnnmjfhkagGreatDoor
open Go.RowKit
set_option maxRecDepth 4000
set_option linter.unusedVariables false

theorem bcell1F {W w1 : World} (hb : Below W.heap.size W w1) : (∀ b o, b < W.heap.size → w1.cell? ⟨b, o, none⟩ = W.cell? ⟨b, o, none⟩) ∧ (∀ b o, b < W.heap.size → w1.frozen? ⟨b, o, none⟩ = W.frozen? ⟨b, o, none⟩) :=
  ⟨fun b o h => hb.cell (p := ⟨b, o, none⟩) h, fun b o h => hb.frozen (p := ⟨b, o, none⟩) h⟩
theorem bs {w x y : World} (h : Below w.heap.size w x) (hb : Below x.heap.size x y) : Below w.heap.size w y := h.trans (hb.mono h.size)
theorem sized_i (s : ByteArray) (w : World) (hs : s.size ≤ 255) : Calls Tryz.prog 317 #[.string s] w fun e w' => e = .returned (.string (strOfNums [(s.size : Int)] ++ s)) ∧ Below w.heap.size w w' := by
  have hb1 := bytes1
  have hz1 : (strOfNums [(s.size : Int)]).size = 1 := by rw [strOfNums_size]; rfl
  go_enter Tryz.func317, Tryz.ntmps317
  go_wp2
  go_ret
  exact ⟨rfl, (Below.refl _ _).alloc (Nat.le_refl _) _⟩
theorem bytes_any (w : World) (b : Nat) (n : Int) (h : w.cell? ⟨b, 0, none⟩ = some (.int .u8 n)) : (convert 47 9 (.slice (some ⟨b, 0, none⟩) 1 1)).run Tryz.prog w = .ok (.string (strOfNums [n])) w :=
  run_convert_bytes_arg (P := Tryz.prog) _ 47 5 Tryz.underlying47 Tryz.underlying5 b 0 1 1 [n] rfl (fun i hi => by
    have : i = 0 := by omega
    subst this; simpa using h) 9 Tryz.underlying9
set_option maxHeartbeats 16000000 in
theorem formset_i (k v : ByteArray) (w : World) (hk : k.size ≤ 255) (hv : v.size ≤ 255) : Calls Tryz.prog 319 #[.agg #[.string k, .string v]] w fun e w' => e = .returned (.string (strOfNums [0] ++ (strOfNums [(k.size : Int)] ++ k) ++ (strOfNums [(v.size : Int)] ++ v))) ∧ Below w.heap.size w w' := by
  have hb1 : ∀ o, Below w.heap.size w (w.alloc o) := fun o => (Below.refl _ _).alloc (Nat.le_refl _) _
  have hb0 : ∀ o o', Below w.heap.size w ((w.alloc o).alloc o') := fun o o' => (hb1 o).alloc (by simp) _
  have hb2 : ∀ (x : World) (b : Nat), x.cell? ⟨b, 0, none⟩ = some (.int .u8 0) → (convert 47 9 (.slice (some ⟨b, 0, none⟩) 1 1)).run Tryz.prog x = .ok (.string (strOfNums [0])) x := fun x b h => bytes_any x b 0 h
  have z3 : (strOfNums [0] ++ (strOfNums [(k.size : Int)] ++ k)).size = 2 + k.size := by rw [ByteArray.size_append, ByteArray.size_append, strOfNums_size, strOfNums_size]; simp; omega
  have n1 : ¬ 9223372036854775807 < 1 + (1 + k.size) := by omega
  have n2 : ¬ 9223372036854775807 < 2 + k.size + (1 + v.size) := by omega
  have z0 : (strOfNums [0]).size = 1 := by rw [strOfNums_size]; rfl
  have z1 : (strOfNums [(k.size : Int)] ++ k).size = 1 + k.size := by rw [ByteArray.size_append, strOfNums_size]; rfl
  have z2 : (strOfNums [(v.size : Int)] ++ v).size = 1 + v.size := by rw [ByteArray.size_append, strOfNums_size]; rfl
  go_enter Tryz.func319, Tryz.ntmps319
  go_wp2_with fail
  go_region_law (first | (have _g := q7; refine step_call (by rfl) 317 #[.string v] (by go_simp) (sized_i v _ hv) ?_; rintro e w8 ⟨rfl, hb8⟩; refine ⟨_, rfl, ?_⟩; obtain ⟨q8, _⟩ := bcell1F hb8; have hs8 := hb8.size; have HB8 := hid hb8; clear hb8) | (refine step_call (by rfl) 317 #[.string k] (by go_simp) (sized_i k _ hk) ?_; rintro e w7 ⟨rfl, hb7⟩; refine ⟨_, rfl, ?_⟩; have hs7 := hb7.size; simp only [World.size_alloc, World.size_drew] at hs7; have l70 : w.heap.size < w7.heap.size := (by omega); have l71 := Nat.lt_of_succ_le hs7; obtain ⟨q7, _⟩ := bcell1F hb7; have HB7 := hid hb7; clear hb7))
  all_goals
    go_wp2
    go_ret
    refine ⟨rfl, ?_⟩
    first
      | exact bs (bs (hb0 _ _).drew HB7.out) HB8.out
      | exact bs ((bs (hb1 _).drew HB7.out).alloc (bs (hb1 _).drew HB7.out).size _) HB8.out
      | exact (bs (bs (hb1 _).drew HB7.out) HB8.out).alloc (bs (bs (hb1 _).drew HB7.out) HB8.out).size _
end Go.Proofs.YtnmaknnnmjfhkagGreatDoor

namespace Go.Proofs.YtnmaknnnmjfhkagGreatDoor
open Go.RowKit
set_option maxRecDepth 4000
set_option linter.unusedVariables false

theorem builder_below {T e : TypeId} {B b : Nat} {bs : List Value} {w w' : World} (h : Lib.IsBuilder T e B b bs w) (hb : Below w.heap.size w w') : Lib.IsBuilder T e B b bs w' := by
  have key : ∀ p, Lib.BuilderAt T e B b p bs w → Lib.BuilderAt T e B b p bs w' := fun p hp => by
    obtain ⟨h1, v, h2, h3, h4⟩ := hp
    have hlt : b < w.heap.size := by
      rcases Nat.lt_or_ge b w.heap.size with h | h
      · exact h
      · rw [Array.getElem?_eq_none h] at h2; cases h2
    exact ⟨h1, v, by rw [hb.block b hlt]; exact h2, owns_below h3 hb, h4⟩
  rcases h with h | h
  · exact .inl (key _ h)
  · exact .inr (key _ h)
theorem bytes_step (f s : ByteArray) : Lib.byteCells f.data.toList ++ Lib.strCells s = Lib.byteCells (f ++ s).data.toList := by
  rw [Lib.strCells_eq, ← Lib.byteCells_append]
  congr 1

set_option maxHeartbeats 16000000 in
theorem formrem_i (k : ByteArray) (w : World) (hk : k.size ≤ 255) : Calls Tryz.prog 315 #[.agg #[.string k]] w fun e w' => e = .returned (.string (strOfNums [1] ++ (strOfNums [(k.size : Int)] ++ k))) ∧ Below w.heap.size w w' := by
  have hb1 : ∀ o, Below w.heap.size w (w.alloc o) := fun o => (Below.refl _ _).alloc (Nat.le_refl _) _
  have hb0 : ∀ o o', Below w.heap.size w ((w.alloc o).alloc o') := fun o o' => (hb1 o).alloc (by simp) _
  have hb2 : ∀ (x : World) (b : Nat), x.cell? ⟨b, 0, none⟩ = some (.int .u8 1) → (convert 47 9 (.slice (some ⟨b, 0, none⟩) 1 1)).run Tryz.prog x = .ok (.string (strOfNums [1])) x := fun x b h => bytes_any x b 1 h
  have n1 : ¬ 9223372036854775807 < 1 + (1 + k.size) := by omega
  have z0 : (strOfNums [1]).size = 1 := by rw [strOfNums_size]; rfl
  have z1 : (strOfNums [(k.size : Int)] ++ k).size = 1 + k.size := by rw [ByteArray.size_append, strOfNums_size]; rfl
  go_enter Tryz.func315, Tryz.ntmps315
  go_wp2_with fail
  go_region_law (refine step_call (by rfl) 317 #[.string k] (by go_simp) (sized_i k _ hk) ?_; rintro e w7 ⟨rfl, hb7⟩; refine ⟨_, rfl, ?_⟩; have hs7 := hb7.size; simp only [World.size_alloc, World.size_drew] at hs7; have l70 : w.heap.size < w7.heap.size := (by omega); have l71 := Nat.lt_of_succ_le hs7; obtain ⟨q7, _⟩ := bcell1F hb7; have HB7 := hid hb7; clear hb7)
  all_goals
    go_wp2
    go_ret
    refine ⟨rfl, ?_⟩
    first
      | exact bs (hb0 _ _).drew HB7.out
      | exact (bs (hb1 _).drew HB7.out).alloc (bs (hb1 _).drew HB7.out).size _

theorem meth_set (j : Nat) (v v' : Value) (w : World) : Sem.run Tryz.prog (method (j + 1) 298 (.agg #[v, v']) "loop.example/kilnstone/impl.form") w = .ok (319, .agg #[v, v']) w := by kernel_rfl
theorem meth_rem (j : Nat) (v : Value) (w : World) : Sem.run Tryz.prog (method (j + 1) 296 (.agg #[v]) "loop.example/kilnstone/impl.form") w = .ok (315, .agg #[v]) w := by kernel_rfl
/-- A change as the kind that it is. -/
@[reducible] def editV (k v : ByteArray) (g : Bool) : Value := if g then .iface 296 (.agg #[.string k]) else .iface 298 (.agg #[.string k, .string v])
set_option maxHeartbeats 16000000 in
theorem formbatch_i (a : Option Addr) (rs : List (ByteArray × ByteArray × Bool)) (c : Nat) (w : World) (h : Chs w a rs) (hl : rs.length ≤ 1048576) (hs : ∀ x ∈ rs, x.1.size ≤ 1048576 ∧ x.2.1.size ≤ 1048576) :
    Calls Tryz.prog 94 #[.slice a rs.length c] w fun e w' => e = .returned (.string (bOut rs)) ∧ Below w.heap.size w w' := by
  unfold bOut
  cases hok : batchOk rs with
  | false =>
    simp only [Bool.false_eq_true, if_false]
    go_enter Tryz.func94, Tryz.ntmps94
    go_wp2_with (go_at_call 92; refine (vbatch_i a rs c _ h hl hs).mono ?_; rw [hok]; rintro e w2 ⟨rfl, hb2⟩)
    go_ret
    exact ⟨rfl, hb2⟩
  | true =>
    simp only [if_true]
    obtain ⟨hn, hall⟩ := batchOk_of hok
    have HALL := hid hall
    clear hall
    obtain ⟨F, HF⟩ : ∃ F, Hid (F = bForm rs) := ⟨_, hid rfl⟩
    rw [← HF.out]
    go_enter Tryz.func94, Tryz.ntmps94
    go_wp2_with (go_at_call 92; refine (vbatch_i a rs c _ h hl hs).mono ?_; rw [hok]; rintro e w2 ⟨rfl, hb2⟩)
    go_loopw [5, 11] (fun _ i wr => ∃ k : Nat, k ≤ rs.length ∧ i = .int .i64 k ∧ Lib.IsBuilder 210 5 w2.heap.size w2.heap.size (Lib.byteCells (bForm (rs.take k)).data.toList) wr ∧ Below w2.heap.size w2 wr) (fun _ i _ => rs.length - (intOf i).toNat)
    case atStart => exact ⟨0, Nat.zero_le _, rfl, by rw [List.take_zero]; exact Lib.fresh_isBuilder _ _ _, (Below.refl _ _).alloc (Nat.le_refl _) _⟩
    case round =>
      obtain ⟨k, hk, rfl, hbd, hbel⟩ := hrel
      by_cases hlt : k < rs.length
      · obtain ⟨b, o, s0, s1, g2, rfl, hc0, hc1, hc2, HS⟩ := (h.below (hb2.trans (hbel.mono hb2.size))).at hlt
        have hm : Hid ((s0, s1, g2) ∈ rs) := by show _ ∈ _; rw [HS.out]; simp [List.getD, hlt]
        have hco := HALL.out _ hm.out
        have hz0 : s0.size ≤ 255 := by simp [chOk, kOk, vOk] at hco; omega
        have hz1 : s1.size ≤ 255 := by simp [chOk, kOk, vOk] at hco; omega
        have HCS := hid (chN_size _ hco)
        have HBS := hid (bForm_size (rs.take k) (fun x hx => HALL.out x (List.mem_of_mem_take hx)))
        have HST := hid (bForm_succ rs k _ _ hlt HS.out)
        have hlen : (Lib.byteCells (bForm (rs.take k)).data.toList).length + (strOfNums (chN (s0, s1, g2))).size ≤ 140737488355328 := by
          rw [Lib.byteCells_length]
          have h1 : (bForm (rs.take k)).data.toList.length = (bForm (rs.take k)).size := rfl
          have h2 := HBS.out
          have h3 := HCS.out
          rw [List.length_take] at h2
          omega
        have hlt' : (k : Int) < (rs.length : Int) := by omega
        have hsz := hbel.size
        have HB := hid hbel
        have HBD := hid hbd
        clear hbd hbel hco
        cases g2 with
        | false =>
          have hms := fun j w => meth_set j (.string s0) (.string s1) w
          go_wp2_with (first | (go_at_call 186; refine (edit_i0 s0 s1 _).mono ?_; rintro e w4 ⟨rfl, hb4⟩) | (go_at_call 319; refine (formset_i s0 s1 _ hz0 hz1).mono ?_; rw [chN_set]; rintro e w5 ⟨rfl, hb5⟩; have hbx := bs (bs ((Below.refl wr.heap.size wr).alloc (Nat.le_refl _) _) hb4) hb5; have HBX := hid hbx; have HBY := hid (builder_below HBD.out hbx); have hsx := hbx.size; clear hb4 hb5 hbx) | (go_at_call 155; refine (b_write _ _ _ _ _ HBY.out hlen (by omega)).mono ?_; rintro e w6 ⟨rfl, hb6, hb7⟩))
          refine ⟨⟨k + 1, by omega, by go_num, ?_, HB.out.trans ((HBX.out.mono hsz).trans hb7)⟩, by simp [intOf]; omega⟩
          rw [HST.out, ← bytes_step]
          exact .inr hb6
        | true =>
          have hms := fun j w => meth_rem j (.string s0) w
          go_wp2_with (first | (go_at_call 186; refine (edit_i1 s0 s1 _).mono ?_; rintro e w4 ⟨rfl, hb4⟩) | (go_at_call 315; refine (formrem_i s0 _ hz0).mono ?_; rw [chN_rem s0 s1]; rintro e w5 ⟨rfl, hb5⟩; have hbx := bs (bs ((Below.refl wr.heap.size wr).alloc (Nat.le_refl _) _) hb4) hb5; have HBX := hid hbx; have HBY := hid (builder_below HBD.out hbx); have hsx := hbx.size; clear hb4 hb5 hbx) | (go_at_call 155; refine (b_write _ _ _ _ _ HBY.out hlen (by omega)).mono ?_; rintro e w6 ⟨rfl, hb6, hb7⟩))
          refine ⟨⟨k + 1, by omega, by go_num, ?_, HB.out.trans ((HBX.out.mono hsz).trans hb7)⟩, by simp [intOf]; omega⟩
          rw [HST.out, ← bytes_step]
          exact .inr hb6
      · have hkl : k = rs.length := by omega
        subst hkl
        have hsz := hbel.size
        have HBD := hid hbd
        clear hbd
        rw [List.take_length, ← HF.out] at HBD
        go_wp2_with (go_at_call 157; refine (b_string _ _ _ _ HBD.out hsz).mono ?_; rintro e w6 ⟨rfl, hb6⟩)
        go_ret
        refine ⟨?_, hb2.trans ((hbel.trans hb6).mono hb2.size)⟩
        have e : (⟨F.data.toList.toArray⟩ : ByteArray) = F := by simp
        first | rw [← e]; rfl | (simp; rfl)
end Go.Proofs.YtnmaknnnmjfhkagGreatDoor

namespace Go.Proofs.YtnmaknnnmjfhkagGreatDoor
open Go.RowKit
set_option maxRecDepth 4000
set_option linter.unusedVariables false

theorem infoStr' : (Tryz.prog.info? 9).map (fun i => (i.zero, i.size, i.bytes)) = some (some (.string ByteArray.empty), 1, 16) := by kernel_rfl
theorem partw_s (n m : Nat) (w : World) (h : n + m = 56) (h1 : 1 ≤ n) (h2 : n ≤ 8) : Calls Tryz.prog 192 #[.int .i64 (n : Int)] w fun e w' => e = .returned (.int .i64 (m : Int)) ∧ w' = w := by
  have hm : (64 - (n : Int) - 8) = (m : Int) := by omega
  go_enter Tryz.func192, Tryz.ntmps192
  go_wp2
  go_ret
  exact ⟨by first | rfl | exact congrArg _ (congrArg _ hm), rfl⟩

theorem below_grown {W w w1 : World} {e : TypeId} {size : Nat} {v : Value} {n B : Nat} {xs : List Value} (hb : Below B W w) (own : w.ownsRow B e size v n xs) (hg : w.grownBy w1 v.ownBlock) (hB : B ≤ w.heap.size) : Below B W w1 :=
  hb.trans ⟨hg.os, hg.tape, hg.output, hg.size, fun k hk => hg.block k (by omega) (fun he => by have := (own.lt k he.symm).1; omega)⟩
theorem own_alloc_size {w : World} {B : Nat} (h : B ≤ w.heap.size) (o : Obj) : B ≤ (w.alloc o).heap.size := by simp; omega

/-- The first k parts of a text, of m bytes each. -/
def pieces (s : ByteArray) (m k : Nat) : List ByteArray := (List.range k).map fun i => s.extract (i * m) (i * m + m)
theorem pieces_succ (s : ByteArray) (m k : Nat) : pieces s m (k + 1) = pieces s m k ++ [s.extract (k * m) (k * m + m)] := by simp [pieces, List.range_succ]
theorem pieces_length (s : ByteArray) (m k : Nat) : (pieces s m k).length = k := by simp [pieces]
/-- How many parts a text of so many bytes has. -/
def nparts (l m : Nat) : Nat := if l = 0 then 1 else (l - 1) / m + 1

theorem extract_eq_right (s : ByteArray) {a b c : Nat} (h : min (b - a) (s.size - a) = min (c - a) (s.size - a)) : s.extract a b = s.extract a c := by
  apply ByteArray.ext
  simp only [ByteArray.data_extract]
  exact Array.extract_eq_extract_right.2 h
theorem extract_rest (s r : ByteArray) (a m : Nat) (h : r = s.extract a s.size) : r.extract m r.size = s.extract (a + m) s.size := by
  subst h
  rw [ByteArray.extract_extract]
  apply extract_eq_right
  simp only [ByteArray.size_extract]
  omega
theorem extract_part (s r : ByteArray) (a m : Nat) (h : r = s.extract a s.size) : r.extract 0 m = s.extract a (a + m) := by
  subst h
  rw [ByteArray.extract_extract, Nat.add_zero]
  apply extract_eq_right
  omega
theorem extract_all (s r : ByteArray) (a m : Nat) (h : r = s.extract a s.size) (hm : r.size ≤ m) : r = s.extract a (a + m) := by
  subst h
  simp only [ByteArray.size_extract] at hm
  apply extract_eq_right
  omega
theorem nparts_eq (l m k r : Nat) (hm : 0 < m) (hr : k * m + r = l) (h0 : k = 0 ∨ 0 < r) (h1 : r ≤ m) : nparts l m = k + 1 := by
  unfold nparts
  by_cases hl : l = 0
  · rw [if_pos hl]
    rcases h0 with h0 | h0
    · omega
    · omega
  · rw [if_neg hl]
    have : (l - 1) / m = k := by
      rw [Nat.div_eq_iff hm]
      rcases h0 with h0 | h0
      · subst h0; omega
      · omega
    omega

set_option maxHeartbeats 16000000 in
theorem parts_s (s : ByteArray) (n m : Nat) (w : World) (hs : s.size ≤ 1048576) (h : n + m = 56) (h1 : 1 ≤ n) (h2 : n ≤ 8) :
    Calls Tryz.prog 191 #[.string s, .int .i64 (n : Int)] w fun e w' => ∃ g c, e = .returned (.slice (some ⟨g, 0, none⟩) (nparts s.size m) c) ∧ w.heap.size ≤ g ∧ Row w' g ((pieces s m (nparts s.size m)).map Value.string) ∧ Below w.heap.size w w' := by
  obtain ⟨i0, hi0, hz0, hz1, hz2⟩ := info_parts infoStr'
  have HI := hid (And.intro hi0 (And.intro hz0 (And.intro hz1 hz2)))
  clear hi0 hz0 hz1 hz2
  go_enter Tryz.func191, Tryz.ntmps191
  go_wp2_with (go_at_call 192; refine (partw_s n m _ h h1 h2).mono ?_; rintro e w' ⟨rfl, rfl⟩)
  go_loopw [0, 5] (fun x y wr => ∃ (k : Nat) (r : ByteArray), x = .string r ∧ Hid (r = s.extract (k * m) s.size) ∧ k * m + r.size = s.size ∧ Hid (k = 0 ∨ 0 < r.size) ∧ wr.ownsRow w.heap.size 9 1 y k ((pieces s m k).map Value.string) ∧ Below w.heap.size w wr) (fun x _ _ => match x with | .string r => r.size | _ => 0)
  case atStart => exact ⟨0, s, rfl, by show s = _; simp, by simp, .inl rfl, World.ownsRow_lit _ #[] 0 (Nat.le_refl _) (by simp) (by simp), (Below.refl _ _).alloc (Nat.le_refl _) _⟩
  case round =>
    obtain ⟨k, r, rfl, HR, hr, H0, hown, hbel⟩ := hrel
    by_cases hlt : m < r.size
    · have hlt' : (m : Int) < (r.size : Int) := by omega
      have hk1 : k ≤ 1048576 := by have : k * 1 ≤ k * m := Nat.mul_le_mul_left k (by omega); omega
      have hsz : w.heap.size ≤ wr.heap.size := hbel.size
      have HB := hid hbel
      have HO := hid (hown.alloc (.cells #[.string (r.extract 0 m)] 9))
      clear hbel hown
      go_wp2_with (at_builtin; refine wpList_append_lies _ rfl _ _ 22 rfl w.heap.size 9 i0 (.string ByteArray.empty) 1 16 Tryz.underlying22 HI.out.1 HI.out.2.1 HI.out.2.2.1 HI.out.2.2.2 rfl (by omega) _ k _ rfl HO.out ⟨wr.heap.size, 0, none⟩ 1 1 [.string (r.extract 0 m)] rfl rfl (World.news_of_block (heap_alloc_new wr _)) (by intro u hu; simp at hu; subst hu; rfl) (by omega) (by unfold maxLen; omega) (by omega) (own_alloc_size hsz _) (wr.heap.size + 1) (by simp) ?_; intro g cap w3 hown3 hgrow hat hlt3; have HO3 := hid hown3; have HB3 := hid (below_grown (HB.out.alloc hsz _) HO.out hgrow (own_alloc_size hsz _)); clear hown3 hgrow hat)
      refine ⟨⟨k + 1, r.extract m r.size, rfl, ?_, ?_, ?_, ?_, HB3.out⟩, ?_⟩
      · show _ = _
        rw [extract_rest s r _ m HR.out, Nat.add_mul, Nat.one_mul]
      · rw [Nat.add_mul, Nat.one_mul]; simp only [ByteArray.size_extract]; omega
      · exact .inr (by simp only [ByteArray.size_extract]; omega)
      · have e := HO3.out
        rw [extract_part s r _ m HR.out] at e
        rw [pieces_succ, List.map_append]
        exact e
      · simp only [ByteArray.size_extract]; omega
    · have hk1 : k ≤ 1048576 := by have : k * 1 ≤ k * m := Nat.mul_le_mul_left k (by omega); omega
      have hsz : w.heap.size ≤ wr.heap.size := hbel.size
      have HB := hid hbel
      have HN := hid (nparts_eq s.size m k r.size (by omega) hr H0.out (by omega))
      have HO := hid (hown.alloc (.cells #[.string r] 9))
      clear hbel hown H0
      go_wp2_with (at_builtin; refine wpList_append_lies _ rfl _ _ 22 rfl w.heap.size 9 i0 (.string ByteArray.empty) 1 16 Tryz.underlying22 HI.out.1 HI.out.2.1 HI.out.2.2.1 HI.out.2.2.2 rfl (by omega) _ k _ rfl HO.out ⟨wr.heap.size, 0, none⟩ 1 1 [.string r] rfl rfl (World.news_of_block (heap_alloc_new wr _)) (by intro u hu; simp at hu; subst hu; rfl) (by omega) (by unfold maxLen; omega) (by omega) (own_alloc_size hsz _) (wr.heap.size + 1) (by simp) ?_; intro g cap w3 hown3 hgrow hat hlt3; have HO3 := hid hown3; have HB3 := hid (below_grown (HB.out.alloc hsz _) HO.out hgrow (own_alloc_size hsz _)); clear hown3 hgrow hat)
      go_ret
      refine ⟨g, cap, by rw [HN.out]; rfl, (HO3.out.lt g rfl).1, ?_, HB3.out⟩
      have e := owns_row HO3.out
      rw [HN.out, pieces_succ, List.map_append]
      rw [extract_all s r _ m HR.out (by omega)] at e
      exact e

end Go.Proofs.YtnmaknnnmjfhkagGreatDoor

namespace Go.Proofs.YtnmaknnnmjfhkagGreatDoor
open Go.RowKit
set_option maxRecDepth 4000
set_option linter.unusedVariables false

/-- How many pages an entry has. -/
def npages (l : Nat) (n : Int) : Int := if 1 ≤ n ∧ n ≤ 8 then (nparts l (56 - n).toNat : Int) else 0

theorem partw_i (n m : Nat) (w : World) (h : n + m = 56) (h1 : 1 ≤ n) (h2 : n ≤ 8) : Calls Tryz.prog 187 #[.int .i64 (n : Int)] w fun e w' => e = .returned (.int .i64 (m : Int)) ∧ w' = w := by
  have hm : (64 - (n : Int) - 8) = (m : Int) := by omega
  go_enter Tryz.func187, Tryz.ntmps187
  go_wp2
  go_ret
  exact ⟨by first | rfl | exact congrArg _ (congrArg _ hm), rfl⟩

theorem pages_i (s : ByteArray) (n : Int) (w : World) (hs : s.size ≤ 1048576) :
    Calls Tryz.prog 95 #[.string s, .int .i64 n] w fun e w' => e = .returned (.int .i64 (npages s.size n)) ∧ Below w.heap.size w w' := by
  obtain ⟨R, HR⟩ : ∃ R, Hid (R = npages s.size n) := ⟨_, hid rfl⟩
  rw [← HR.out]
  by_cases hn : 1 ≤ n ∧ n ≤ 8
  · obtain ⟨m, rfl⟩ : ∃ m : Nat, n = (m : Int) := ⟨n.toNat, by omega⟩
    obtain ⟨q, hq⟩ : ∃ q : Nat, m + q = 56 := ⟨56 - m, by omega⟩
    have hd : decide (1 ≤ (m : Int) ∧ (m : Int) ≤ 8) = true := by simp; omega
    by_cases hz : s.size = 0
    · have hz' : s = ByteArray.empty := by apply ByteArray.ext; exact Array.eq_empty_of_size_eq_zero hz
      subst hz'
      have hR : R = 1 := by rw [HR.out]; unfold npages nparts; rw [if_pos hn]; simp
      clear HR
      subst hR
      go_enter Tryz.func95, Tryz.ntmps95
      go_wp2_with (first | (go_at_call 60; refine (width_i _ _).mono ?_; rw [hd]; rintro e w' ⟨rfl, rfl⟩))
      go_ret
      exact ⟨rfl, Below.refl _ _⟩
    · obtain ⟨l, hl⟩ : ∃ l : Nat, s.size = l + 1 := ⟨s.size - 1, by omega⟩
      have hR : R = ((l / q : Nat) : Int) + 1 := by
        rw [HR.out]; unfold npages nparts
        rw [if_pos hn, if_neg hz, show (56 - (m : Int)).toNat = q by omega, hl]
        simp
      obtain ⟨d, hdq⟩ : ∃ d : Nat, d = l / q := ⟨_, rfl⟩
      have hq1 : d ≤ l := by rw [hdq]; exact Nat.div_le_self _ _
      have hq2 : (l : Int) / (q : Int) = (d : Int) := by rw [hdq]; simp
      rw [← hdq] at hR
      clear HR hdq
      subst hR
      have hne : s.toList.isEmpty = false := by rw [isEmpty_size]; simp [hz]
      go_enter Tryz.func95, Tryz.ntmps95
      go_wp2_with (first | (go_at_call 60; refine (width_i _ _).mono ?_; rw [hd]; rintro e w' ⟨rfl, rfl⟩) | (go_at_call 187; refine (partw_i m q _ hq (by omega) (by omega)).mono ?_; rintro e w' ⟨rfl, rfl⟩))
      go_ret
      exact ⟨rfl, Below.refl _ _⟩
  · have hR : R = 0 := by rw [HR.out]; unfold npages; exact if_neg hn
    clear HR
    subst hR
    have hd : decide (1 ≤ n ∧ n ≤ 8) = false := by simp; omega
    go_enter Tryz.func95, Tryz.ntmps95
    go_wp2_with (first | (go_at_call 60; refine (width_i _ _).mono ?_; rw [hd]; rintro e w' ⟨rfl, rfl⟩))
    go_ret
    exact ⟨rfl, Below.refl _ _⟩
end Go.Proofs.YtnmaknnnmjfhkagGreatDoor

namespace Go.Proofs.YtnmaknnnmjfhkagGreatDoor
open Go.RowKit
set_option maxRecDepth 4000
set_option linter.unusedVariables false

theorem pages_s (s : ByteArray) (n : Int) (w : World) (hs : s.size ≤ 1048576) :
    Calls Tryz.prog 106 #[.string s, .int .i64 n] w fun e w' => e = .returned (.int .i64 (npages s.size n)) ∧ Below w.heap.size w w' := by
  unfold npages
  by_cases hn : 1 ≤ n ∧ n ≤ 8
  · rw [if_pos hn]
    obtain ⟨m, rfl⟩ : ∃ m : Nat, n = (m : Int) := ⟨n.toNat, by omega⟩
    obtain ⟨q, hq⟩ : ∃ q : Nat, m + q = 56 := ⟨56 - m, by omega⟩
    rw [show (56 - (m : Int)).toNat = q by omega]
    have hd : decide (1 ≤ (m : Int) ∧ (m : Int) ≤ 8) = true := by simp; omega
    go_enter Tryz.func106, Tryz.ntmps106
    go_wp2_with (first | (go_at_call 49; refine (width_s _ _).mono ?_; rw [hd]; rintro e w' ⟨rfl, rfl⟩) | (go_at_call 191; refine (parts_s s m q _ hs hq (by omega) (by omega)).mono ?_; rintro e w2 ⟨g, c, rfl, hg, hrow, hb⟩; clear hrow))
    go_ret
    exact ⟨rfl, hb⟩
  · rw [if_neg hn]
    have hd : decide (1 ≤ n ∧ n ≤ 8) = false := by simp; omega
    go_enter Tryz.func106, Tryz.ntmps106
    go_wp2_with (first | (go_at_call 49; refine (width_s _ _).mono ?_; rw [hd]; rintro e w' ⟨rfl, rfl⟩))
    go_ret
    exact ⟨rfl, Below.refl _ _⟩

end Go.Proofs.YtnmaknnnmjfhkagGreatDoor

namespace Go.Proofs.YtnmaknnnmjfhkagGreatDoor
open Go.RowKit
set_option linter.unusedVariables false
set_option linter.unusedSimpArgs false
set_option maxRecDepth 4000

theorem info_prC : (Tryz.prog.info? 144).map (fun i => (i.zero, i.size, i.bytes)) = some (some (.agg #[.string ByteArray.empty, .string ByteArray.empty]), 2, 32) := by kernel_rfl
theorem info_partsP {P : Program} {e : TypeId} {z : Value} {size bytes : Nat} (h : (P.info? e).map (fun i => (i.zero, i.size, i.bytes)) = some (some z, size, bytes)) : ∃ i, P.info? e = some i ∧ i.zero = some z ∧ i.size = size ∧ i.bytes = bytes := by
  obtain ⟨i, hi, hh⟩ := Option.map_eq_some_iff.1 h
  simp only [Prod.mk.injEq] at hh
  exact ⟨i, hi, hh⟩
theorem nscP (n : Nat) (h : 0 < n) : Builtin.nextslicecap n 0 = n := by
  unfold Builtin.nextslicecap
  simp
  omega
/-- 'append(S{}, src...)' and 'append(S(nil), src...)': a copy in a row of its own. -/
theorem copy_run {P : Program} {w : World} (t ty e : TypeId) (i : TypeInfo) (z : Value) (size bytes : Nat) (ht : P.underlying t = some (.slice e)) (hi : P.info? e = some i) (hz : i.zero = some z) (hsize : i.size = size) (hby : i.bytes = bytes)
    (base : Option Addr) (hbase : base = none ∨ ∃ b, base = some ⟨b, 0, none⟩) (v : Value) (n : Nat) (news : List Value) (hsrc : Src P size t v n news w) (hn : n ≤ 1048576) (hbn : n * bytes ≤ 281474976710656) :
    ∃ a' cap wx, (Builtin.append_ #[t, t] ty #[.slice base 0 0, v]).run P w = .ok (.slice a' n cap) wx ∧ n ≤ cap ∧ (n = 0 ∨ (a' = some ⟨w.heap.size, 0, none⟩ ∧ Row wx w.heap.size news)) ∧ Below w.heap.size w wx := by
  subst hsize hby
  by_cases h0 : n = 0
  · subst h0
    have hnil : news = [] := List.eq_nil_of_length_eq_zero (by have := hsrc.newsLen; omega)
    subst hnil
    rcases hbase with rfl | ⟨b, rfl⟩
    · refine ⟨none, 0, w, ?_, Nat.le_refl _, .inl rfl, Below.refl _ _⟩
      rcases hsrc.kind with ⟨e', hk⟩ | hk <;> simp [Builtin.append_, run_underlying ht, run_underlying hk, sizeOf, typeInfo, hi, hsrc.len, hsrc.cells]
    · have hrun := run_append_room_src (P := P) w t t ty e i ht hi b 0 0 0 v 0 [] hsrc (by omega) (by simp) (by simp)
      exact ⟨_, _, _, hrun, Nat.le_refl _, .inl rfl, Below.refl _ _⟩
  · have hold : (Builtin.firstCells i.size 0 (.slice base 0 0)).run P w.drew = .ok ([] : List Value).toArray w.drew := by
      rcases hbase with rfl | ⟨b, rfl⟩
      · simp [Builtin.firstCells, Sem.run_pure]
      · exact run_firstCells_some w.drew i.size 0 _ 0 0 [] (by simp) (by simp)
    have hrun := run_append_grow_src (P := P) w t t ty e i z ht hi hz base 0 0 [] hold v n news hsrc (by omega) (by omega) (by rw [Nat.zero_add, nscP n (by omega)]; exact hbn)
    refine ⟨_, _, _, by rw [hrun, Nat.zero_add], ?_, .inr ⟨rfl, ?_⟩, (Below.refl _ _).drew.alloc (Nat.le_refl _) _⟩
    · have := grownCap_ge w (0 + n) 0 e
      rw [Nat.zero_add] at this
      exact this
    have hr := row_new w.drew ((([] : List Value) ++ news).toArray ++ Builtin.zeroCells z.cells (grownCap w (0 + n) 0 e - (0 + n))) e
    refine ⟨by simp, fun j u hu => ?_, fun j hj => ?_⟩
    · have := hr.cell j u (by
        obtain ⟨hj, _⟩ := List.getElem?_eq_some_iff.1 hu
        simp [List.getElem?_append_left hj, hu])
      simpa using this
    · have := hr.froz j (by simp; omega)
      simpa using this
/-- The same as one step of a walk. -/
theorem wpList_append_copy {P : Program} {w : World} {ops : Array Oper} {rest : List Oper} {o : Oper} {a : Act} {Q : Exit → Act → World → Prop} (hgd : o.guard = none) (s x : Operand) (t : TypeId)
    (ho : o.op = .call { callee := .builtin .append, args := #[s, x], argTypes := #[t, t] }) (e : TypeId) (i : TypeInfo) (z : Value) (size bytes : Nat) (ht : P.underlying t = some (.slice e)) (hi : P.info? e = some i) (hz : i.zero = some z) (hsize : i.size = size) (hby : i.bytes = bytes)
    (base : Option Addr) (hs : a.eval s = .slice base 0 0) (hbase : base = none ∨ ∃ b, base = some ⟨b, 0, none⟩) (v : Value) (hx : a.eval x = v) (n : Nat) (news : List Value) (hsrc : Src P size t v n news w) (hn : n ≤ 1048576) (hbn : n * bytes ≤ 281474976710656)
    (h : ∀ a' cap wx, n ≤ cap → (n = 0 ∨ (a' = some ⟨w.heap.size, 0, none⟩ ∧ Row wx w.heap.size news)) → Below w.heap.size w wx → wpList P ops Q rest (a.put o.dst (.slice a' n cap)) wx) : wpList P ops Q (o :: rest) a w := by
  refine wpList_plain hgd fun K hK => ?_
  obtain ⟨a', cap, wx, hrun, h1, h2, h3⟩ := copy_run (P := P) (w := w) t o.type e i z size bytes ht hi hz hsize hby base hbase v n news hsrc hn hbn
  unfold Oper.wp
  simp [execOp, ho, resolve, invoke, builtin, hs, hx, hrun, Result.andThen]
  exact hK _ _ (h a' cap wx h1 h2 h3)
theorem src_prs {P : Program} {w : World} {a : Option Addr} {rs : List (ByteArray × ByteArray)} (h : Prs w a rs) (t e : TypeId) (ht : P.underlying t = some (.slice e)) (c : Nat) : Src P 2 t (.slice a rs.length c) rs.length (prcells rs) w := by
  rcases h with h | ⟨b, o, rfl, hb, hc⟩
  · subst h
    cases a with
    | none => exact Src.ofNil w ht c
    | some x => exact Src.ofSlice w ht x 0 c [] (by simp) (by simp) (by simp)
  · refine Src.ofSlice w ht ⟨b, o, none⟩ rs.length c _ (prcells_length rs) (fun j u hu => ?_) (fun u hu => ?_)
    · obtain ⟨hj, e⟩ := List.getElem?_eq_some_iff.1 hu
      rw [prcells_length] at hj
      have ha : (⟨b, o, none⟩ : Addr).add j = ⟨b, o + j, none⟩ := by unfold Addr.add; split <;> simp_all
      obtain ⟨q, hq⟩ : ∃ q, j = q * 2 ∨ j = q * 2 + 1 := ⟨j / 2, by omega⟩
      have hql : q < rs.length := by omega
      have hw := prcells_at rs q hql
      rcases hq with rfl | rfl
      · rw [ha, (hc q hql).1, ← hu, hw.1]
      · rw [ha, ← Nat.add_assoc, (hc q hql).2, ← hu, hw.2]
    · unfold prcells at hu
      obtain ⟨x, _, hx⟩ := List.mem_flatMap.1 hu
      simp at hx
      rcases hx with rfl | rfl <;> rfl
/-- A copy of a state: its own. -/
def CpPost (w w' : World) (e : Ending) (rs : List (ByteArray × ByteArray)) : Prop := ∃ a c, e = .returned (stV a rs.length c) ∧ rs.length ≤ c ∧ OwnS w' a (prcells rs) ∧ (∀ g, blk a rs.length = some g → w.heap.size ≤ g) ∧ Below w.heap.size w w'
theorem cp_endP {w wx : World} {a' : Option Addr} {rs : List (ByteArray × ByteArray)} {H : Nat} (h : rs.length = 0 ∨ (a' = some ⟨H, 0, none⟩ ∧ Row wx H (prcells rs))) (hH : w.heap.size ≤ H) : OwnS wx a' (prcells rs) ∧ (∀ g, blk a' rs.length = some g → w.heap.size ≤ g ∧ g = H) := by
  rcases h with h | ⟨rfl, hr⟩
  · have : rs = [] := List.eq_nil_of_length_eq_zero h
    subst this
    exact ⟨.inl rfl, fun g hg => by cases hg⟩
  · refine ⟨.inr ⟨H, rfl, hr⟩, fun g hg => ?_⟩
    by_cases h0 : rs.length = 0
    · rw [h0] at hg; cases hg
    · rw [blk_pos _ _ _ h0] at hg; cases hg; exact ⟨hH, rfl⟩

set_option maxHeartbeats 16000000 in
theorem copy_st_s (a : Option Addr) (rs : List (ByteArray × ByteArray)) (c : Nat) (w : World) (h : Prs w a rs) (hl : rs.length ≤ 1048576) :
    Calls Tryz.prog 104 #[stV a rs.length c] w fun e w' => CpPost w w' e rs := by
  obtain ⟨i0, hi0, hz0, hz1, hz2⟩ := info_partsP info_prC
  have HI := hid (And.intro hi0 (And.intro hz0 (And.intro hz1 hz2)))
  clear hi0 hz0 hz1 hz2
  have hb0 : ∀ o1 o2 o3, Below w.heap.size w (((w.alloc o1).alloc o2).alloc o3) := fun o1 o2 o3 => (((Below.refl _ _).alloc (Nat.le_refl _) _).alloc (by simp) _).alloc (by simp; omega) _
  go_enter Tryz.func104, Tryz.ntmps104
  go_wp2_with (at_builtin; refine wpList_append_copy rfl _ _ 29 rfl 144 i0 _ 2 32 Tryz.underlying29 HI.out.1 HI.out.2.1 HI.out.2.2.1 HI.out.2.2.2 _ rfl (.inr ⟨_, rfl⟩) _ rfl rs.length _ (src_prs (h.below (hb0 _ _ _)) _ _ Tryz.underlying29 c) hl (by omega) ?_; intro a' cap wx hcap hrow hbx; have c1 : wx.cell? ⟨w.heap.size + 1, 0, none⟩ = some (.slice none 0 0) := (hbx.cell (p := ⟨w.heap.size + 1, 0, none⟩) (by simp <;> omega)).trans (by go_simp); have f1 : wx.frozen? ⟨w.heap.size + 1, 0, none⟩ = false := (hbx.frozen (p := ⟨w.heap.size + 1, 0, none⟩) (by simp <;> omega)).trans (by go_simp); have HBX := hid ((hb0 _ _ _).trans (hbx.mono (by simp <;> omega))); have HRW := hid (cp_endP (w := w) hrow (by simp; omega)); have hszx : w.heap.size + 1 < wx.heap.size := Nat.lt_of_lt_of_le (by simp) hbx.size; clear hrow hbx)
  refine bodyPost_ret (v := stV a' rs.length cap) (by simp [results, Tryz.results104, go_sem, c1]) rfl ⟨a', cap, rfl, hcap, ?_, fun g hg => (HRW.out.2 g hg).1, HBX.out.setCell (by show w.heap.size ≤ w.heap.size + 1; omega) _⟩
  rcases HRW.out.1 with h1 | ⟨g, rfl, h1⟩
  · exact .inl h1
  · by_cases h0 : rs.length = 0
    · exact .inl (by rw [List.eq_nil_of_length_eq_zero h0]; rfl)
    · have := (HRW.out.2 g (blk_pos _ _ _ h0)).2
      exact .inr ⟨g, rfl, h1.other _ (by show w.heap.size + 1 ≠ g; rw [this]; simp <;> omega) _⟩
end Go.Proofs.YtnmaknnnmjfhkagGreatDoor

namespace Go.Proofs.YtnmaknnnmjfhkagGreatDoor
open Go.RowKit
set_option linter.unusedVariables false

theorem made_one (z : Value) (hz : z.cells = #[z]) (n : Nat) : (madeCells z.cells (n * 1)).toList = List.replicate n z := by
  unfold madeCells
  rw [Nat.mul_one, Array.toList_map, Array.toList_range, List.eq_replicate_iff]
  refine ⟨by simp, fun b hb => ?_⟩
  obtain ⟨i, _, rfl⟩ := List.mem_map.1 hb
  rw [hz]
  have : i % (#[z] : Array Value).size = 0 := by simp [Nat.mod_one]
  rw [this]; rfl
theorem Dsk.start (w : World) (t1 t2 e e' : TypeId) : Dsk w ((w.alloc (.cells #[.slice none 0 0, .slice none 0 0] t1)).alloc (.cells #[.slice none 0 0, .slice none 0 0] t2)) w.heap.size (w.heap.size + 1) (w.heap.size + 1 + 1) e e' (.slice none 0 0) (.slice none 0 0) [] [] := by
  have hb : Below w.heap.size w ((w.alloc (.cells #[.slice none 0 0, .slice none 0 0] t1)).alloc (.cells #[.slice none 0 0, .slice none 0 0] t2)) := ((Below.refl _ _).alloc (Nat.le_refl _) _).alloc (by simp) _
  have r1 := (row_new w #[.slice none 0 0, .slice none 0 0] t1).alloc (.cells #[.slice none 0 0, .slice none 0 0] t2)
  have r2 := row_new (w.alloc (.cells #[.slice none 0 0, .slice none 0 0] t1)) #[.slice none 0 0, .slice none 0 0] t2
  simp only [World.size_alloc] at r2
  exact ⟨Nat.le_refl _, by omega, by omega, by omega, by omega, by simp, hb, r1.cell 0 _ rfl, r1.cell 1 _ rfl, r1.froz 0 (by simp), r1.froz 1 (by simp), r2.cell 0 _ rfl, r2.cell 1 _ rfl, r2.froz 0 (by simp), r2.froz 1 (by simp), World.ownsRow_nil _ _ _ _, World.ownsRow_nil _ _ _ _, .inl rfl⟩

theorem info_parts' {P : Program} {e : TypeId} {z : Value} {size bytes : Nat} (h : (P.info? e).map (fun i => (i.zero, i.size, i.bytes)) = some (some z, size, bytes)) : ∃ i, P.info? e = some i ∧ i.zero = some z ∧ i.size = size ∧ i.bytes = bytes := by
  obtain ⟨i, hi, hh⟩ := Option.map_eq_some_iff.1 h
  simp only [Prod.mk.injEq] at hh
  exact ⟨i, hi, hh⟩

end Go.Proofs.YtnmaknnnmjfhkagGreatDoor

namespace Go.Proofs.YtnmaknnnmjfhkagGreatDoor
open Go.RowKit
/-- Guards: the next operation is such a load, such a store. -/
theorem at_load {P : Program} {ops : Array Oper} {rest : List Oper} {op : Oper} {a : Act} {w : World} {Q : Exit → Act → World → Prop} (ty : TypeId) (x : Operand) (_ho : op.op = .load ty x) (h : wpList P ops Q (op :: rest) a w) : wpList P ops Q (op :: rest) a w := h
theorem at_store {P : Program} {ops : Array Oper} {rest : List Oper} {op : Oper} {a : Act} {w : World} {Q : Exit → Act → World → Prop} (ty : TypeId) (x y : Operand) (_ho : op.op = .store ty x y) (h : wpList P ops Q (op :: rest) a w) : wpList P ops Q (op :: rest) a w := h
end Go.Proofs.YtnmaknnnmjfhkagGreatDoor

namespace Go.Proofs.YtnmaknnnmjfhkagGreatDoor
open Go.RowKit
set_option maxRecDepth 4000
set_option linter.unusedVariables false

/-- Sectors as rows of bytes, one behind the other: what a slice of them shows. -/
def Plt (w : World) (a : Option Addr) (ps : List (List Int)) : Prop :=
  ps = [] ∨ ∃ b o, a = some ⟨b, o, none⟩ ∧ b < w.heap.size ∧ ∀ i, i < ps.length → w.rangeAt b (o + i * 64) ((ps.getD i []).map (Value.int .u8))
/-- Writes that are held: a number and a sector. -/
def Hld (w : World) (a : Option Addr) (hs : List (Int × List Int)) : Prop :=
  hs = [] ∨ ∃ b o, a = some ⟨b, o, none⟩ ∧ b < w.heap.size ∧ ∀ i, i < hs.length → w.rangeAt b (o + i * 65) (.int .i64 (hs.getD i (0, [])).1 :: (hs.getD i (0, [])).2.map (Value.int .u8))
theorem range_below {w w' : World} {b o : Nat} {cs : List Value} (h : w.rangeAt b o cs) (hb : Below w.heap.size w w') (hlt : b < w.heap.size) : w'.rangeAt b o cs := fun j v hv => (hb.cell (p := ⟨b, o + j, none⟩) hlt).trans (h j v hv)
theorem Plt.below {w w' : World} {a : Option Addr} {ps : List (List Int)} (h : Plt w a ps) (hb : Below w.heap.size w w') : Plt w' a ps := by
  rcases h with h | ⟨b, o, h1, h2, h3⟩
  · exact .inl h
  · exact .inr ⟨b, o, h1, Nat.lt_of_lt_of_le h2 hb.size, fun i hi => range_below (h3 i hi) hb h2⟩
theorem Hld.below {w w' : World} {a : Option Addr} {hs : List (Int × List Int)} (h : Hld w a hs) (hb : Below w.heap.size w w') : Hld w' a hs := by
  rcases h with h | ⟨b, o, h1, h2, h3⟩
  · exact .inl h
  · exact .inr ⟨b, o, h1, Nat.lt_of_lt_of_le h2 hb.size, fun i hi => range_below (h3 i hi) hb h2⟩
theorem Plt.at {w : World} {a : Option Addr} {ps : List (List Int)} (h : Plt w a ps) {k : Nat} (hk : k < ps.length) : ∃ b o x, a = some ⟨b, o, none⟩ ∧ b < w.heap.size ∧ w.rangeAt b (o + k * 64) (x.map (Value.int .u8)) ∧ Hid (x = ps.getD k []) := by
  rcases h with h | ⟨b, o, h1, h2, h3⟩
  · subst h; simp at hk
  · exact ⟨b, o, _, h1, h2, h3 k hk, hid rfl⟩
theorem Hld.at {w : World} {a : Option Addr} {hs : List (Int × List Int)} (h : Hld w a hs) {k : Nat} (hk : k < hs.length) : ∃ b o n x, a = some ⟨b, o, none⟩ ∧ b < w.heap.size ∧ w.rangeAt b (o + k * 65) (.int .i64 n :: x.map (Value.int .u8)) ∧ Hid ((n, x) = hs.getD k (0, [])) := by
  rcases h with h | ⟨b, o, h1, h2, h3⟩
  · subst h; simp at hk
  · exact ⟨b, o, _, _, h1, h2, h3 k hk, hid rfl⟩

theorem held_one (n : Int) (xs : List Int) : ∀ v ∈ Value.int .i64 n :: xs.map (Value.int .u8), v.oneCell' = true := fun v hv => by
  rcases List.mem_cons.1 hv with rfl | hv
  · rfl
  · exact ints_one xs v hv
theorem there_any (w : World) (A : Array Value) (t : TypeId) : (w.alloc (.cells A t)).there w.heap.size 0 A.size := fun j hj => by
  rw [Nat.zero_add, World.cell?_alloc_at _ _ _ _ rfl, frozen?_alloc_cells]
  exact ⟨by simp [hj], frozen_past _ _ _ (Nat.le_refl _)⟩
/-- Cells go into a variable that was just made. -/
theorem wpList_store_cells {P : Program} {ops : Array Oper} {rest : List Oper} {op : Oper} {a : Act} {w : World} {Q : Exit → Act → World → Prop} (hgd : op.guard = none) (ty : TypeId) (x y : Operand) (ho : op.op = .store ty x y)
    (cs : List Value) (h1 : ∀ v ∈ cs, v.oneCell' = true) (hx : a.eval x = .pointer (some ⟨w.heap.size, 0, none⟩)) (hy : a.eval y = .agg cs.toArray) (A : Array Value) (t : TypeId) (hA : A.size = cs.length)
    (hi : (P.info? ty).map (·.size) = some cs.length)
    (h : ∀ wx, Row wx w.heap.size cs → Below w.heap.size w wx → wx.heap.size = w.heap.size + 1 → wpList P ops Q rest (a.put op.dst undef) wx) : wpList P ops Q (op :: rest) a (w.alloc (.cells A t)) := by
  have hth := there_any w A t
  rw [hA] at hth
  have hz : cs.toArray.size = cs.length := by simp
  refine wpList_store_mid hgd ty x y ho w.heap.size 0 _ hx hy (by rw [hz]; exact hth) (by rw [hz]; exact hi) (all_oneCell_toArray h1) ?_
  have hr := World.rangeAt_setCells_same (w.alloc (.cells A t)) w.heap.size 0 cs hth
  refine h _ ⟨by rw [setCells_size]; simp, fun i v hv => ?_, fun i hi => ?_⟩ (Go.below_setCells (Nat.le_refl _) _ _ _ ((Below.refl _ _).alloc (Nat.le_refl _) _)) (by rw [setCells_size]; simp)
  · have := hr i v hv
    simpa using this
  · rw [World.frozen?_setCells, frozen?_alloc_cells]; exact frozen_past _ _ _ (Nat.le_refl _)
/-- 'string(row[o:o+n])' out of a row's cells. -/
theorem Row.text {P : Program} {w : World} {g : Nat} {cs : List Value} (h : Row w g cs) (xs : List Int) (o n cap : Nat) (hx : xs.length = n) (hc : ∀ i, i < n → cs[o + i]? = some (.int .u8 (xs.getD i 0))) (src e dst : TypeId) (hs : P.underlying src = some (.slice e)) (he : P.underlying e = some (.int .u8)) (hd : P.underlying dst = some .string) :
    (convert src dst (.slice (some ⟨g, o, none⟩) n cap)).run P w = .ok (.string (strOfNums xs)) w :=
  run_convert_bytes_arg (P := P) w src e hs he g o n cap xs hx (fun i hi => h.cell _ _ (hc i hi)) dst hd

theorem Dsk.start3 (w : World) (c0 c1 : Value) (t0 t1 t2 e e' : TypeId) : Dsk w (((w.alloc (.cells #[c0, c1] t0)).alloc (.cells #[.slice none 0 0, .slice none 0 0] t1)).alloc (.cells #[.slice none 0 0, .slice none 0 0] t2)) (w.heap.size + 1) (w.heap.size + 1 + 1) (w.heap.size + 1 + 1 + 1) e e' (.slice none 0 0) (.slice none 0 0) [] [] := by
  have hb : Below w.heap.size w (((w.alloc (.cells #[c0, c1] t0)).alloc (.cells #[.slice none 0 0, .slice none 0 0] t1)).alloc (.cells #[.slice none 0 0, .slice none 0 0] t2)) := (((Below.refl _ _).alloc (Nat.le_refl _) _).alloc (by simp) _).alloc (by simp; omega) _
  have r1 := (row_new (w.alloc (.cells #[c0, c1] t0)) #[.slice none 0 0, .slice none 0 0] t1).alloc (.cells #[.slice none 0 0, .slice none 0 0] t2)
  have r2 := row_new ((w.alloc (.cells #[c0, c1] t0)).alloc (.cells #[.slice none 0 0, .slice none 0 0] t1)) #[.slice none 0 0, .slice none 0 0] t2
  simp only [World.size_alloc] at r1 r2
  exact ⟨by omega, by omega, by omega, by omega, by omega, by simp, hb, r1.cell 0 _ rfl, r1.cell 1 _ rfl, r1.froz 0 (by simp), r1.froz 1 (by simp), r2.cell 0 _ rfl, r2.cell 1 _ rfl, r2.froz 0 (by simp), r2.froz 1 (by simp), World.ownsRow_nil _ _ _ _, World.ownsRow_nil _ _ _ _, .inl rfl⟩

theorem Dsk.far {W w w1 : World} {R D base : Nat} {e e' : TypeId} {v v' : Value} {ss : List ByteArray} {ws : List (Int × ByteArray)} (h : Dsk W w R D base e e' v v' ss ws) (hg : w.grownBy w1 v.ownBlock) (b i j : Nat) (hb : b < base) (hn : b ≠ D) (u : Value) : (w1.setCell ⟨D, j, none⟩ u).cell? ⟨b, i, none⟩ = w.cell? ⟨b, i, none⟩ := by
  have lb : b < w.heap.size := Nat.lt_of_lt_of_le hb h.sz
  have nb : some b ≠ v.ownBlock := fun he => by have := (h.own.lt b he.symm).1; omega
  rw [World.cell?_setCell_other (w := w1) (h := show (⟨D, j, none⟩ : Addr) ≠ ⟨b, i, none⟩ from fun he => hn (by injection he with h1; exact h1.symm))]
  exact hg.cell_far ⟨b, i, none⟩ lb nb

/-- What a drive is as a disk. -/
def secs (ps : List (List Int)) : List ByteArray := ps.map strOfNums
def held (hs : List (Int × List Int)) : List (Int × ByteArray) := hs.map fun x => (x.1, strOfNums x.2)

def heldZ : Array Value := #[.int .i64 0] ++ Array.replicate 64 (.int .u8 0)
theorem zeroHeld (w : World) : (zeroValue 270).run Tryz.prog w = .ok (.agg heldZ) w := by kernel_rfl
theorem secs_take (ps : List (List Int)) (k : Nat) (h : k < ps.length) : secs (ps.take (k + 1)) = secs (ps.take k) ++ [strOfNums (ps.getD k [])] := by
  unfold secs
  rw [List.take_succ_eq_append_getElem h, List.map_append]
  simp [List.getD, h]
theorem held_take (hs : List (Int × List Int)) (k : Nat) (h : k < hs.length) : held (hs.take (k + 1)) = held (hs.take k) ++ [((hs.getD k (0, [])).1, strOfNums (hs.getD k (0, [])).2)] := by
  unfold held
  rw [List.take_succ_eq_append_getElem h, List.map_append]
  simp [List.getD, h]
end Go.Proofs.YtnmaknnnmjfhkagGreatDoor

namespace Go.Proofs.YtnmaknnnmjfhkagGreatDoor
open Go.RowKit
set_option maxRecDepth 4000
set_option linter.unusedVariables false

/-- A sector's cells, all zero. -/
def secZ : Value := .agg (Array.replicate 64 (.int .u8 0))
theorem infoSec : (Tryz.prog.info? 267).map (fun i => (i.zero, i.size, i.bytes)) = some (some secZ, 64, 64) := by kernel_rfl
theorem made_secs (n : Nat) : (madeCells secZ.cells (n * 64)).toList = List.replicate (n * 64) (.int .u8 0) := by
  unfold madeCells
  rw [Array.toList_map, Array.toList_range, List.eq_replicate_iff]
  refine ⟨by simp, fun b hb => ?_⟩
  obtain ⟨i, _, rfl⟩ := List.mem_map.1 hb
  have e1 : secZ.cells = Array.replicate 64 (.int .u8 0) := rfl
  have e2 : i % (Array.replicate 64 (Value.int .u8 0)).size < 64 := by rw [Array.size_replicate]; omega
  rw [e1]
  rw [getElem!_pos _ _ (by rw [Array.size_replicate] at e2 ⊢; exact e2)]
  simp
theorem plt_zero {w : World} {g : Nat} {n : Nat} (h : Row w g (List.replicate (n * 64) (.int .u8 0))) : Plt w (some ⟨g, 0, none⟩) (List.replicate n (List.replicate 64 0)) := by
  refine .inr ⟨g, 0, rfl, h.lt, fun i hi j v hv => ?_⟩
  rw [List.length_replicate] at hi
  have hg : (List.replicate n (List.replicate 64 (0 : Int))).getD i [] = List.replicate 64 0 := by rw [List.getD_eq_getElem?_getD, List.getElem?_replicate, if_pos hi]; rfl
  rw [hg, List.map_replicate, List.getElem?_replicate] at hv
  by_cases hj : j < 64
  · rw [if_pos hj] at hv
    cases hv
    rw [Nat.zero_add]
    exact h.cell _ _ (by rw [List.getElem?_replicate, if_pos (by omega)])
  · rw [if_neg hj] at hv; cases hv
end Go.Proofs.YtnmaknnnmjfhkagGreatDoor

namespace Go.Proofs.YtnmaknnnmjfhkagGreatDoor
open Go.RowKit
set_option linter.unusedVariables false

theorem row_new' (w : World) (A : Array Value) (t : TypeId) (g : Nat) (hg : g = w.heap.size) : Row (w.alloc (.cells A t)) g A.toList := by subst hg; exact row_new w A t
theorem at_copy {P : Program} {ops : Array Oper} {rest : List Oper} {op : Oper} {a : Act} {w : World} {Q : Exit → Act → World → Prop} (d x : Operand) (ts : Array TypeId) (_ho : op.op = .call { callee := .builtin .copy, args := #[d, x], argTypes := ts }) (h : wpList P ops Q (op :: rest) a w) : wpList P ops Q (op :: rest) a w := h
/-- 'copy(row[:], text)' where the row is as long as the text. -/
theorem wpList_copy_text {P : Program} {ops : Array Oper} {rest : List Oper} {o : Oper} {a : Act} {w : World} {Q : Exit → Act → World → Prop} (hgd : o.guard = none) (d x : Operand) (dT sT : TypeId)
    (hop : o.op = .call { callee := .builtin .copy, args := #[d, x], argTypes := #[dT, sT] }) (elem : TypeId) (hu : P.underlying dT = some (.slice elem)) (hz : ∀ w, (Go.sizeOf elem).run P w = .ok 1 w)
    (g n cap : Nat) (hd : a.eval d = .slice (some ⟨g, 0, none⟩) n cap) (t : ByteArray) (hx : a.eval x = .string t) (hn : t.size = n) (cs : List Value) (hrow : Row w g cs) (hcs : cs.length = n)
    (h : ∀ wx, Row wx g ((nums t).map (Value.int .u8)) → w.grownBy wx (some g) → wx.heap.size = w.heap.size → wpList P ops Q rest (a.put o.dst (goInt t.size)) wx) : wpList P ops Q (o :: rest) a w := by
  have hc : ∀ j, j < t.size → (w.cell? ⟨g, 0 + j, none⟩).isSome = true := fun j hj => by
    rw [Nat.zero_add, hrow.cell j _ (List.getElem?_eq_getElem (by omega))]; rfl
  have hf : ∀ j, j < t.size → w.frozen? ⟨g, 0 + j, none⟩ = false := fun j hj => by rw [Nat.zero_add]; exact hrow.froz j (by omega)
  have hrun := run_copy_string (P := P) w dT sT o.type elem g 0 n cap t hu hz (by omega) hc hf
  have hW := wrote_setCells w g 0 t hc
  refine wpList_plain hgd fun K hK => ?_
  unfold Oper.wp
  simp [execOp, hop, resolve, invoke, builtin, hd, hx, hrun, Result.andThen]
  refine hK _ _ (h _ ⟨by rw [hW.size]; exact hrow.lt, fun i v hv => ?_, fun i hi => ?_⟩ ⟨hW.os, hW.tape, hW.output, Nat.le_of_eq hW.size.symm, fun k _ hk => hW.others k (fun e => hk (by rw [e]))⟩ hW.size)
  · obtain ⟨hj, e⟩ := List.getElem?_eq_some_iff.1 hv
    simp at hj
    have := hW.inside i (by simpa [nums_length] using hj)
    rw [Nat.zero_add] at this
    rw [this]
    simp at e
    subst e
    simp [List.getD, List.getElem?_eq_getElem hj]
  · rw [hW.frozen]; exact hrow.froz i (by simp [nums_length] at hi; omega)

theorem Row.range {w : World} {g : Nat} {cs : List Value} (h : Row w g cs) : w.rangeAt g 0 cs := fun j v hv => by rw [Nat.zero_add]; exact h.cell j v hv
theorem Row.there {w : World} {g n : Nat} {cs : List Value} (h : Row w g cs) (hn : n = cs.length) : w.there g 0 n := fun j hj => by
  rw [Nat.zero_add, h.cell j _ (List.getElem?_eq_getElem (by omega))]; exact ⟨rfl, h.froz j (by omega)⟩
def sec64 : Array Value := Array.replicate 64 (.int .u8 0)
theorem zeroSec (w : World) : (zeroValue 267).run Tryz.prog w = .ok (.agg sec64) w := by kernel_rfl

set_option maxRecDepth 4000 in
set_option maxHeartbeats 16000000 in
theorem sec_i (t : ByteArray) (w : World) (ht : t.size = 64) :
    Calls Tryz.prog 216 #[.string t] w fun e w' => e = .returned (.agg ((nums t).map (Value.int .u8)).toArray) ∧ Below w.heap.size w w' := by
  have hnl : (nums t).length = 64 := by rw [nums_length, ht]
  have HI64 : Hid ((Tryz.prog.info? 267).map (·.size) = some ((nums t).map (Value.int .u8)).length) := by show _ = _; rw [List.length_map, hnl]; kernel_rfl
  have hlm : ((nums t).map (Value.int .u8)).toArray.size = 64 := by simp [hnl]
  have HT := hid ht
  clear ht
  go_enter Tryz.func216, Tryz.ntmps216
  go_wp2_with (first | (with_reducible refine at_copy _ _ _ rfl ?_; refine wpList_copy_text rfl _ _ _ _ rfl 5 Tryz.underlying47 (fun _ => by kernel_rfl) (w.heap.size + 1) 64 64 rfl t rfl HT.out _ (by exact row_new' _ _ _ _ (by simp)) (by kernel_rfl) ?_; intro wx hrow hgr hsz; have hR := (((row_new w _ _).alloc _).grown hgr (by simp)); have HB := hid ((((Below.refl _ _).alloc (Nat.le_refl _) _).alloc (by simp) _).trans (grown_below hgr (by simp; omega) (fun g hg => by cases hg; omega))); clear hgr hsz) | (with_reducible refine at_load 267 _ rfl ?_; refine wpList_load_mid rfl 267 _ rfl (w.heap.size + 1) 0 rfl ((nums t).map (Value.int .u8)) _ hrow.range Tryz.underlying267 rfl HI64.out ?_) | (with_reducible refine at_store 267 _ _ rfl ?_; refine wpList_store_mid rfl 267 _ _ rfl w.heap.size 0 ((nums t).map (Value.int .u8)).toArray rfl rfl (by rw [hlm]; exact hR.there (by kernel_rfl)) (by rw [hlm]; kernel_rfl) (all_oneCell_toArray (ints_one (nums t))) ?_))
  refine bodyPost_ret (v := .agg ((nums t).map (Value.int .u8)).toArray) (results_cell1 (p := 2) Tryz.results216 _ _ w.heap.size 0 rfl ((nums t).map (Value.int .u8)) _ (World.rangeAt_setCells_same _ _ _ _ (by rw [List.length_map, hnl]; exact hR.there (by kernel_rfl))) Tryz.underlying267 rfl HI64.out) rfl ⟨rfl, ?_⟩
  exact Go.below_setCells (Nat.le_refl _) _ _ _ HB.out
end Go.Proofs.YtnmaknnnmjfhkagGreatDoor


namespace Go.Proofs.YtnmaknnnmjfhkagGreatDoor
open Go.RowKit
set_option linter.unusedVariables false

/-- A row of the call's own that is put behind, again and again: what lay in wS is as it was, the row's first block apart. -/
structure Grow (wS wr : World) (g0 : Option Nat) (base : Nat) (e : TypeId) (size : Nat) (v : Value) (n : Nat) (xs : List Value) : Prop where
  own : wr.ownsRow base e size v n xs
  gb : wS.grownBy wr g0
  at_ : ∀ k, v.ownBlock = some k → g0 = some k ∨ wS.heap.size ≤ k
theorem Grow.start {w : World} {base : Nat} {e : TypeId} {size : Nat} {v : Value} {n : Nat} {xs : List Value} (h : w.ownsRow base e size v n xs) : Grow w w v.ownBlock base e size v n xs := ⟨h, World.grownBy.refl _ _, fun k hk => .inl hk⟩
theorem Grow.below {wS wr w' : World} {g0 : Option Nat} {base : Nat} {e : TypeId} {size : Nat} {v : Value} {n : Nat} {xs : List Value} (h : Grow wS wr g0 base e size v n xs) (hb : Below wr.heap.size wr w') : Grow wS w' g0 base e size v n xs :=
  ⟨owns_below h.own hb, ⟨hb.os.trans h.gb.os, hb.tape.trans h.gb.tape, hb.output.trans h.gb.output, Nat.le_trans h.gb.size hb.size, fun k hk hne => (hb.block k (Nat.lt_of_lt_of_le hk h.gb.size)).trans (h.gb.block k hk hne)⟩, h.at_⟩
theorem grown_mono {wS wr w9 : World} {g0 r : Option Nat} (h : wS.grownBy wr g0) (hg : wr.grownBy w9 r) (hr : ∀ k, r = some k → g0 = some k ∨ wS.heap.size ≤ k) : wS.grownBy w9 g0 :=
  ⟨hg.os.trans h.os, hg.tape.trans h.tape, hg.output.trans h.output, Nat.le_trans h.size hg.size, fun k hk hne => (hg.block k (Nat.lt_of_lt_of_le hk h.size) (fun e => by
    rcases hr k e.symm with h1 | h1
    · exact hne h1.symm
    · omega)).trans (h.block k hk hne)⟩
theorem Grow.push {wS wr w9 : World} {g0 : Option Nat} {base : Nat} {e : TypeId} {size : Nat} {v v9 : Value} {n n9 H : Nat} {xs xs9 : List Value} (h : Grow wS wr g0 base e size v n xs) (hown : w9.ownsRow base e size v9 n9 xs9) (hg : wr.grownBy w9 v.ownBlock) (hat : v.ownBlock = v9.ownBlock ∨ v9.ownBlock = some H) (hH : wr.heap.size ≤ H) : Grow wS w9 g0 base e size v9 n9 xs9 :=
  ⟨hown, grown_mono h.gb hg h.at_, fun k hk => by
    rcases hat with h1 | h1
    · exact h.at_ k (h1.trans hk)
    · rw [h1] at hk; cases hk; exact .inr (Nat.le_trans h.gb.size hH)⟩
theorem Grow.trans {wS w4 wr : World} {g0 : Option Nat} {base : Nat} {e : TypeId} {size : Nat} {v v' : Value} {n n' : Nat} {xs xs' : List Value} (h : Grow wS w4 g0 base e size v n xs) (k : Grow w4 wr v.ownBlock base e size v' n' xs') : Grow wS wr g0 base e size v' n' xs' :=
  ⟨k.own, grown_mono h.gb k.gb h.at_, fun j hj => by
    rcases k.at_ j hj with h1 | h1
    · exact h.at_ j h1
    · exact .inr (Nat.le_trans h.gb.size h1)⟩
theorem below_of_grown {n : Nat} {w w' : World} {r : Option Nat} (hg : w.grownBy w' r) (hn : n ≤ w.heap.size) (hr : ∀ k, r = some k → n ≤ k) : Below n w w' :=
  ⟨hg.os, hg.tape, hg.output, hg.size, fun k hk => hg.block k (by omega) (fun e => by have := hr k e.symm; omega)⟩
theorem undrewG {w w' : World} {r : Option Nat} (h : w.drew.grownBy w' r) : w.grownBy w' r := ⟨h.os, h.tape, h.output, h.size, h.block⟩
theorem redrewG {w w' : World} {r : Option Nat} (h : w.grownBy w' r) : w.drew.grownBy w' r := ⟨h.os, h.tape, h.output, h.size, h.block⟩
end Go.Proofs.YtnmaknnnmjfhkagGreatDoor

namespace Go.Proofs.YtnmaknnnmjfhkagGreatDoor
open Go.RowKit
set_option maxRecDepth 4000
set_option linter.unusedVariables false
set_option linter.unusedSimpArgs false
theorem heap_new (w : World) (o : Obj) : (w.alloc o).heap[w.heap.size]? = some o := by
  show (w.heap.push o)[w.heap.size]? = some o
  simp
theorem frozen_new (w : World) (C : Array Value) (e : TypeId) (n i : Nat) (h : i < n) : (w.alloc (.cells C e (n, n + 1))).frozen? ⟨w.heap.size, i, none⟩ = false := by
  simp only [World.frozen?, heap_new]
  simp
  omega
theorem cell_newf (w : World) (C : Array Value) (e : TypeId) (fr : Nat × Nat) (i : Nat) : (w.alloc (.cells C e fr)).cell? ⟨w.heap.size, i, none⟩ = C[i]? := by
  simp only [World.cell?, heap_new]
  simp
theorem conv_bytes (w : World) (p : ByteArray) : ∃ cap wB, (convert 9 47 (.string p)).run Tryz.prog w = .ok (.slice (some ⟨w.heap.size, 0, none⟩) p.size cap) wB ∧ Below w.heap.size w wB ∧ wB.heap.size = w.heap.size + 1 ∧ Fm wB w.heap.size (nums p) ∧ p.size ≤ cap := by
  refine ⟨_, _, run_bytes_of_string w _ _ 5 p Tryz.underlying9 Tryz.underlying47 Tryz.underlying5, ((Below.refl _ _).drew).alloc (Nat.le_refl _) _, by simp, ⟨fun i hi => ?_, fun i hi => ?_⟩, grownCap_ge _ _ _ _⟩
  · rw [nums_length] at hi
    refine (cell_newf w.drew _ _ _ i).trans ?_
    rw [bytesRow_at p _ i hi]
    have hl : i < p.data.toList.length := hi
    simp only [List.getD_eq_getElem?_getD, nums, List.getElem?_map, List.getElem?_eq_getElem hl]
    rfl
  · rw [nums_length] at hi
    exact frozen_new w.drew _ _ _ i (by unfold bytesRow; simp; omega)
/-- A text out of bytes that lie there. -/
theorem bytes_back (w : World) (b c : Nat) (xs : List Int) (h : Fm w b xs) : (convert 47 9 (.slice (some ⟨b, 0, none⟩) xs.length c)).run Tryz.prog w = .ok (.string (strOfNums xs)) w :=
  run_convert_bytes_arg (P := Tryz.prog) _ 47 5 Tryz.underlying47 Tryz.underlying5 b 0 xs.length c xs rfl (fun i hi => by
    rw [Nat.zero_add]
    exact h.cell i hi) 9 Tryz.underlying9
end Go.Proofs.YtnmaknnnmjfhkagGreatDoor
