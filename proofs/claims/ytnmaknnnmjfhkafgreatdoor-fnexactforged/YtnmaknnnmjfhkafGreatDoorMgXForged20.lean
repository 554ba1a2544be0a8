import Derived.Test.YtnmaknnnmjfhkafGreatDoorProg
import Derived.Test.YtnmaknnnmjfhkafGreatDoorMgXForged18
import Derived.WalkKit
import Derived.WalkSpells
import Derived.Test.YtnmaknnnmjfhkafGreatDoorQxForgedDsk
import Derived.Shelf.Strings.Builder1
import Derived.Test.YtnmaknnnmjfhkafGreatDoorQxForgedVB
import Derived.Test.YtnmaknnnmjfhkafGreatDoorMgXForged4

set_option maxHeartbeats 16000000
set_option maxRecDepth 8000
namespace Go.Proofs.YtnmaknnnmjfhkafGreatDoor
open Go.RowKit
set_option maxRecDepth 4000
set_option linter.unusedVariables false

theorem edit_i0 (k v : ByteArray) (w : World) : Calls Tryz.prog 171 #[.agg #[.string k, .string v, .bool false]] w fun e w' => e = .returned (.iface 273 (.agg #[.string k, .string v])) ∧ Below w.heap.size w w' := by
  go_enter Tryz.func171, Tryz.ntmps171
  go_wp2
  go_ret
  exact ⟨rfl, (Below.refl _ _).alloc (Nat.le_refl _) _⟩
theorem edit_i1 (k v : ByteArray) (w : World) : Calls Tryz.prog 171 #[.agg #[.string k, .string v, .bool true]] w fun e w' => e = .returned (.iface 271 (.agg #[.string k])) ∧ Below w.heap.size w w' := by
  go_enter Tryz.func171, Tryz.ntmps171
  go_wp2
  go_ret
  exact ⟨rfl, (Below.refl _ _).alloc (Nat.le_refl _) _⟩
end Go.Proofs.YtnmaknnnmjfhkafGreatDoor

namespace Go.Proofs.YtnmaknnnmjfhkafGreatDoor
open Go.Shelf

/-- Where this program has what the contracts of strings.Builder speak of. -/
def bRen : Go.Shelf.Ren := ⟨fun | 166 => 170 | 240 => 175 | 276 => 176 | 169 => 172 | n => n, fun | 0 => 0 | 3 => 3 | 4 => 4 | 5 => 5 | 9 => 9 | 20 => 20 | 37 => 53 | 70 => 257 | 72 => 259 | 75 => 128 | 80 => 152 | 164 => 179 | 127 => 274 | n => n, fun | n => n⟩
theorem bLays240 : Go.Proofs.Lays.n240 Tryz.prog bRen := {
  mixed := by kernel_rfl
  f240 := Tryz.func175.trans (congrArg some (by kernel_rfl))
  f276 := Tryz.func176.trans (congrArg some (by kernel_rfl))
  t0 := Tryz.underlying0
  a0 := Tryz.isAgg0
  z0 := Tryz.sizeOf0
  v0 := Tryz.zeroValue0
  t4 := Tryz.underlying4
  a4 := Tryz.isAgg4
  z4 := Tryz.sizeOf4
  v4 := Tryz.zeroValue4
  t9 := Tryz.underlying9
  a9 := Tryz.isAgg9
  z9 := Tryz.sizeOf9
  v9 := Tryz.zeroValue9
  t20 := Tryz.underlying20
  a20 := Tryz.isAgg20
  z20 := Tryz.sizeOf20
  v20 := Tryz.zeroValue20
  t70 := Tryz.underlying257
  a70 := Tryz.isAgg257
  z70 := Tryz.sizeOf257
  v70 := Tryz.zeroValue257
  t72 := Tryz.underlying259
  a72 := Tryz.isAgg259
  z72 := Tryz.sizeOf259
  v72 := Tryz.zeroValue259
  t164 := Tryz.underlying179
  a164 := Tryz.isAgg179
  z164 := Tryz.sizeOf179
  v164 := Tryz.zeroValue179 }
theorem bLays166 : Go.Proofs.Lays.n166 Tryz.prog bRen := {
  mixed := by kernel_rfl
  f166 := Tryz.func170.trans (congrArg some (by kernel_rfl))
  f240 := Tryz.func175.trans (congrArg some (by kernel_rfl))
  f276 := Tryz.func176.trans (congrArg some (by kernel_rfl))
  t0 := Tryz.underlying0
  a0 := Tryz.isAgg0
  z0 := Tryz.sizeOf0
  v0 := Tryz.zeroValue0
  t3 := Tryz.underlying3
  a3 := Tryz.isAgg3
  z3 := Tryz.sizeOf3
  v3 := Tryz.zeroValue3
  t4 := Tryz.underlying4
  a4 := Tryz.isAgg4
  z4 := Tryz.sizeOf4
  v4 := Tryz.zeroValue4
  t9 := Tryz.underlying9
  a9 := Tryz.isAgg9
  z9 := Tryz.sizeOf9
  v9 := Tryz.zeroValue9
  t20 := Tryz.underlying20
  a20 := Tryz.isAgg20
  z20 := Tryz.sizeOf20
  v20 := Tryz.zeroValue20
  t37 := Tryz.underlying53
  a37 := Tryz.isAgg53
  z37 := Tryz.sizeOf53
  v37 := Tryz.zeroValue53
  t70 := Tryz.underlying257
  a70 := Tryz.isAgg257
  z70 := Tryz.sizeOf257
  v70 := Tryz.zeroValue257
  t72 := Tryz.underlying259
  a72 := Tryz.isAgg259
  z72 := Tryz.sizeOf259
  v72 := Tryz.zeroValue259
  t75 := Tryz.underlying128
  a75 := Tryz.isAgg128
  z75 := Tryz.sizeOf128
  v75 := Tryz.zeroValue128
  t164 := Tryz.underlying179
  a164 := Tryz.isAgg179
  z164 := Tryz.sizeOf179
  v164 := Tryz.zeroValue179 }
theorem bLays169 : Go.Proofs.Lays.n169 Tryz.prog bRen := {
  mixed := by kernel_rfl
  f169 := Tryz.func172.trans (congrArg some (by kernel_rfl))
  t0 := Tryz.underlying0
  a0 := Tryz.isAgg0
  z0 := Tryz.sizeOf0
  v0 := Tryz.zeroValue0
  t3 := Tryz.underlying3
  a3 := Tryz.isAgg3
  z3 := Tryz.sizeOf3
  v3 := Tryz.zeroValue3
  t9 := Tryz.underlying9
  a9 := Tryz.isAgg9
  z9 := Tryz.sizeOf9
  v9 := Tryz.zeroValue9
  t37 := Tryz.underlying53
  a37 := Tryz.isAgg53
  z37 := Tryz.sizeOf53
  v37 := Tryz.zeroValue53
  t70 := Tryz.underlying257
  a70 := Tryz.isAgg257
  z70 := Tryz.sizeOf257
  v70 := Tryz.zeroValue257
  t72 := Tryz.underlying259
  a72 := Tryz.isAgg259
  z72 := Tryz.sizeOf259
  v72 := Tryz.zeroValue259
  t127 := Tryz.underlying274
  a127 := Tryz.isAgg274
  z127 := Tryz.sizeOf274
  v127 := Tryz.zeroValue274 }
theorem bX72 : Builder.X72 Tryz.prog bRen := {
  sizeBuilder := by kernel_rfl
  liesBuilder := by kernel_rfl }
theorem bExtra : Builder.Extra Tryz.prog bRen := {
  sizeBuilder := by kernel_rfl
  liesBuilder := by kernel_rfl
  t5 := Tryz.underlying5
  a5 := Tryz.isAgg5
  z5 := Tryz.sizeOf5
  v5 := Tryz.zeroValue5
  infoByte := by kernel_rfl
  cellsByte := by kernel_rfl
  sizeByte := by kernel_rfl
  neB5 := by decide }
open Go.RowKit in
theorem b_write (B b : Nat) (bs : List Value) (s : ByteArray) (w : World) (h : Lib.IsBuilder 259 5 B b bs w) (hlen : bs.length + s.size ≤ 140737488355328) (hBw : B ≤ w.heap.size) :
    Calls Tryz.prog 170 #[.pointer (some ⟨b, 0, none⟩), .string s] w fun e w' => e = .returned (.tuple #[.int .i64 s.size, .nilIface]) ∧ (Lib.BuilderAt 259 5 B b (.pointer (some ⟨b, 0, none⟩)) (bs ++ Lib.strCells s) w' ∧ Below B w w') := Any.Builder_WriteString bLays166 bExtra B b bs s w h hlen hBw
open Go.RowKit in
theorem b_string (B b : Nat) (l : List UInt8) (w : World) (h : Lib.IsBuilder 259 5 B b (Lib.byteCells l) w) (hBw : B ≤ w.heap.size) :
    Calls Tryz.prog 172 #[.pointer (some ⟨b, 0, none⟩)] w fun e w' => e = .returned (.string ⟨l.toArray⟩) ∧ Below B w w' := Any.Builder_String_any bLays169 bExtra B b l w h hBw
end Go.Proofs.YtnmaknnnmjfhkafGreatDoor

namespace Go.Proofs.YtnmaknnnmjfhkafGreatDoor
open Go.RowKit
set_option maxRecDepth 4000
set_option linter.unusedVariables false

theorem bcell1F {W w1 : World} (hb : Below W.heap.size W w1) : (∀ b o, b < W.heap.size → w1.cell? ⟨b, o, none⟩ = W.cell? ⟨b, o, none⟩) ∧ (∀ b o, b < W.heap.size → w1.frozen? ⟨b, o, none⟩ = W.frozen? ⟨b, o, none⟩) :=
  ⟨fun b o h => hb.cell (p := ⟨b, o, none⟩) h, fun b o h => hb.frozen (p := ⟨b, o, none⟩) h⟩
theorem bs {w x y : World} (h : Below w.heap.size w x) (hb : Below x.heap.size x y) : Below w.heap.size w y := h.trans (hb.mono h.size)
theorem sized_i (s : ByteArray) (w : World) (hs : s.size ≤ 255) : Calls Tryz.prog 217 #[.string s] w fun e w' => e = .returned (.string (strOfNums [(s.size : Int)] ++ s)) ∧ Below w.heap.size w w' := by
  have hb1 := bytes1
  have hz1 : (strOfNums [(s.size : Int)]).size = 1 := by rw [strOfNums_size]; rfl
  go_enter Tryz.func217, Tryz.ntmps217
  go_wp2
  go_ret
  exact ⟨rfl, (Below.refl _ _).alloc (Nat.le_refl _) _⟩
theorem bytes_any (w : World) (b : Nat) (n : Int) (h : w.cell? ⟨b, 0, none⟩ = some (.int .u8 n)) : (convert 53 9 (.slice (some ⟨b, 0, none⟩) 1 1)).run Tryz.prog w = .ok (.string (strOfNums [n])) w :=
  run_convert_bytes_arg (P := Tryz.prog) _ 53 5 Tryz.underlying53 Tryz.underlying5 b 0 1 1 [n] rfl (fun i hi => by
    have : i = 0 := by omega
    subst this; simpa using h) 9 Tryz.underlying9
set_option maxHeartbeats 16000000 in
theorem formset_i (k v : ByteArray) (w : World) (hk : k.size ≤ 255) (hv : v.size ≤ 255) : Calls Tryz.prog 219 #[.agg #[.string k, .string v]] w fun e w' => e = .returned (.string (strOfNums [0] ++ (strOfNums [(k.size : Int)] ++ k) ++ (strOfNums [(v.size : Int)] ++ v))) ∧ Below w.heap.size w w' := by
  have hb1 : ∀ o, Below w.heap.size w (w.alloc o) := fun o => (Below.refl _ _).alloc (Nat.le_refl _) _
  have hb0 : ∀ o o', Below w.heap.size w ((w.alloc o).alloc o') := fun o o' => (hb1 o).alloc (by simp) _
  have hb2 : ∀ (x : World) (b : Nat), x.cell? ⟨b, 0, none⟩ = some (.int .u8 0) → (convert 53 9 (.slice (some ⟨b, 0, none⟩) 1 1)).run Tryz.prog x = .ok (.string (strOfNums [0])) x := fun x b h => bytes_any x b 0 h
  have z3 : (strOfNums [0] ++ (strOfNums [(k.size : Int)] ++ k)).size = 2 + k.size := by rw [ByteArray.size_append, ByteArray.size_append, strOfNums_size, strOfNums_size]; simp; omega
  have n1 : ¬ 9223372036854775807 < 1 + (1 + k.size) := by omega
  have n2 : ¬ 9223372036854775807 < 2 + k.size + (1 + v.size) := by omega
  have z0 : (strOfNums [0]).size = 1 := by rw [strOfNums_size]; rfl
  have z1 : (strOfNums [(k.size : Int)] ++ k).size = 1 + k.size := by rw [ByteArray.size_append, strOfNums_size]; rfl
  have z2 : (strOfNums [(v.size : Int)] ++ v).size = 1 + v.size := by rw [ByteArray.size_append, strOfNums_size]; rfl
  go_enter Tryz.func219, Tryz.ntmps219
  go_wp2_with fail
  go_region_law (first | (have _g := q7; refine step_call (by rfl) 217 #[.string v] (by go_simp) (sized_i v _ hv) ?_; rintro e w8 ⟨rfl, hb8⟩; refine ⟨_, rfl, ?_⟩; obtain ⟨q8, _⟩ := bcell1F hb8; have hs8 := hb8.size; have HB8 := hid hb8; clear hb8) | (refine step_call (by rfl) 217 #[.string k] (by go_simp) (sized_i k _ hk) ?_; rintro e w7 ⟨rfl, hb7⟩; refine ⟨_, rfl, ?_⟩; have hs7 := hb7.size; simp only [World.size_alloc, World.size_drew] at hs7; have l70 : w.heap.size < w7.heap.size := (by omega); have l71 := Nat.lt_of_succ_le hs7; obtain ⟨q7, _⟩ := bcell1F hb7; have HB7 := hid hb7; clear hb7))
  all_goals
    go_wp2
    go_ret
    refine ⟨rfl, ?_⟩
    first
      | exact bs (bs (hb0 _ _).drew HB7.out) HB8.out
      | exact bs ((bs (hb1 _).drew HB7.out).alloc (bs (hb1 _).drew HB7.out).size _) HB8.out
      | exact (bs (bs (hb1 _).drew HB7.out) HB8.out).alloc (bs (bs (hb1 _).drew HB7.out) HB8.out).size _
end Go.Proofs.YtnmaknnnmjfhkafGreatDoor
