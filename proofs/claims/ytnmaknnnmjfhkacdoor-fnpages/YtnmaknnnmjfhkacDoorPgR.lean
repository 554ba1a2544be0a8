import Derived.Test.YtnmaknnnmjfhkacDoorRgM
import Derived.Test.YtnmaknnnmjfhkacDoorPage2
import Derived.Test.YtnmaknnnmjfhkacDoorStp
namespace Go.Proofs.YtnmaknnnmjfhkacDoor
open Go.RowKit
set_option maxRecDepth 8000
set_option linter.unusedVariables false
set_option linter.unusedSimpArgs false


def pgSOps : Array Oper := #[{ dst := some 6, op := Go.Op.move (Go.Operand.tmp 0), type := 46, pos := "l7_draw.go:99", after := #[], guard := none }, { dst := some 7, op := Go.Op.call { callee := Go.Callee.value (Go.Operand.func 21), args := #[Go.Operand.tmp 6, Go.Operand.const (Go.Value.int Go.IntKind.i64 4)], argTypes := #[46, 3] }, type := 3, pos := "l7_draw.go:99", after := #[{ on := 0, ground := Go.Ground.data }], guard := none }, { dst := some 8, op := Go.Op.binOp Go.BinOp.add 3 (Go.Operand.const (Go.Value.int Go.IntKind.i64 1)) (Go.Operand.tmp 7) 3, type := 3, pos := "l7_draw.go:99", after := #[{ on := 1, ground := Go.Ground.data }], guard := none }, { dst := some 9, op := Go.Op.buildSlice 50 4 #[(0, Go.Operand.const (Go.Value.int Go.IntKind.i64 1)), (1, Go.Operand.const (Go.Value.int Go.IntKind.i64 2)), (2, Go.Operand.const (Go.Value.int Go.IntKind.i64 256)), (3, Go.Operand.const (Go.Value.int Go.IntKind.i64 60000))], type := 50, pos := "l7_draw.go:99", after := #[], guard := none }, { dst := some 10, op := Go.Op.move (Go.Operand.tmp 0), type := 46, pos := "l7_draw.go:99", after := #[], guard := none }, { dst := some 11, op := Go.Op.call { callee := Go.Callee.value (Go.Operand.func 21), args := #[Go.Operand.tmp 10, Go.Operand.const (Go.Value.int Go.IntKind.i64 4)], argTypes := #[46, 3] }, type := 3, pos := "l7_draw.go:99", after := #[{ on := 4, ground := Go.Ground.data }, { on := 1, ground := Go.Ground.chain }], guard := none }, { dst := some 12, op := Go.Op.indexAddr 50 (Go.Operand.tmp 9) (Go.Operand.tmp 11), type := 0, pos := "l7_draw.go:99", after := #[{ on := 3, ground := Go.Ground.data }, { on := 5, ground := Go.Ground.data }], guard := none }, { dst := some 13, op := Go.Op.load 3 (Go.Operand.tmp 12), type := 3, pos := "l7_draw.go:99", after := #[{ on := 6, ground := Go.Ground.data }], guard := none }, { dst := some 14, op := Go.Op.buildSlice 50 4 #[(0, Go.Operand.const (Go.Value.int Go.IntKind.i64 1)), (1, Go.Operand.const (Go.Value.int Go.IntKind.i64 2)), (2, Go.Operand.const (Go.Value.int Go.IntKind.i64 65536)), (3, Go.Operand.const (Go.Value.int Go.IntKind.i64 1000000000))], type := 50, pos := "l7_draw.go:99", after := #[], guard := none }, { dst := some 15, op := Go.Op.move (Go.Operand.tmp 0), type := 46, pos := "l7_draw.go:99", after := #[], guard := none }, { dst := some 16, op := Go.Op.call { callee := Go.Callee.value (Go.Operand.func 21), args := #[Go.Operand.tmp 15, Go.Operand.const (Go.Value.int Go.IntKind.i64 4)], argTypes := #[46, 3] }, type := 3, pos := "l7_draw.go:99", after := #[{ on := 9, ground := Go.Ground.data }, { on := 5, ground := Go.Ground.chain }], guard := none }, { dst := some 17, op := Go.Op.indexAddr 50 (Go.Operand.tmp 14) (Go.Operand.tmp 16), type := 0, pos := "l7_draw.go:99", after := #[{ on := 8, ground := Go.Ground.data }, { on := 10, ground := Go.Ground.data }], guard := none }, { dst := some 18, op := Go.Op.load 3 (Go.Operand.tmp 17), type := 3, pos := "l7_draw.go:99", after := #[{ on := 11, ground := Go.Ground.data }], guard := none }, { dst := some 19, op := Go.Op.build 23 #[(0, Go.Operand.tmp 8), (1, Go.Operand.tmp 13), (2, Go.Operand.tmp 18)], type := 23, pos := "l7_draw.go:99", after := #[{ on := 2, ground := Go.Ground.data }, { on := 7, ground := Go.Ground.data }, { on := 12, ground := Go.Ground.data }], guard := none }, { dst := some 5, op := Go.Op.alloc 23, type := 0, pos := "l7_draw.go:99", after := #[], guard := none }, { dst := none, op := Go.Op.store 23 (Go.Operand.tmp 5) (Go.Operand.tmp 19), type := 0, pos := "l7_draw.go:99", after := #[{ on := 14, ground := Go.Ground.data }, { on := 13, ground := Go.Ground.data }, { on := 10, ground := Go.Ground.chain }, { on := 0, ground := Go.Ground.phase }, { on := 1, ground := Go.Ground.phase }, { on := 2, ground := Go.Ground.phase }, { on := 3, ground := Go.Ground.phase }, { on := 4, ground := Go.Ground.phase }, { on := 5, ground := Go.Ground.phase }, { on := 6, ground := Go.Ground.phase }, { on := 7, ground := Go.Ground.phase }, { on := 8, ground := Go.Ground.phase }, { on := 9, ground := Go.Ground.phase }, { on := 10, ground := Go.Ground.phase }, { on := 11, ground := Go.Ground.phase }, { on := 12, ground := Go.Ground.phase }, { on := 13, ground := Go.Ground.phase }, { on := 14, ground := Go.Ground.phase }], guard := none }]
set_option maxHeartbeats 4000000 in
theorem pgS_0 {R : Nat} {a : Option Addr} {n c : Nat} {p : Int} {wd : Nat} {w : World} (hp : p < 99998000) (p0 : 0 ≤ p) (hN : R < w.heap.size) (hNg : ∀ g o, a = some ⟨g, o, none⟩ → 0 < n → g < w.heap.size) {Q0 : Exit → Act → World → Prop} (hQ : ∀ (act : Act) (w' : World), (∃ (d6 d7 d8 d9 d10 d11 d12 d13 d14 d15 d16 d17 d18 d19 : Value) (X : Nat) (k l m : Int), act = { tmps := #[.pointer (some ⟨R, 0, none⟩), .int .i64 (wd : Int), undef, undef, .pointer (some ⟨w.heap.size, 0, none⟩), .pointer (some ⟨X, 0, none⟩), d6, d7, d8, d9, d10, d11, d12, d13, d14, d15, d16, d17, d18, d19, undef, undef, undef, undef, undef, undef, undef, undef, undef, undef, undef, undef, undef, undef, undef, undef, undef], defers := [] } ∧ Row w' X [.int .i64 k, .int .i64 l, .int .i64 m, .string ⟨#[]⟩] ∧ Row w' w.heap.size [.int .i64 0, .int .i64 0, .int .i64 0, .string ⟨#[]⟩] ∧ Rdr w' R a n c (p + 3) ∧ w.heap.size < X ∧ w.grownBy w' (some R)) → Q0 .normal act w') (hQp : ∀ c a w, ¬ Q0 (.panic c) a w) (u : World) (n1 : Nat) (n2 : Nat) (n3 : Nat) (B1 : Nat) (B2 : Nat) (X : Nat) (rd : Rdr u R a n c (p + 3)) (gr : w.grownBy u (some R)) (r4 : Row u w.heap.size [.int .i64 0, .int .i64 0, .int .i64 0, .string ⟨#[]⟩]) (hn1 : n1 < 4) (hn2 : n2 < 4) (hn3 : n3 < 4) (rB1 : Row u B1 ([1, 2, 256, 60000].map (Value.int .i64))) (lB1 : w.heap.size < B1) (rB2 : Row u B2 ([1, 2, 65536, 1000000000].map (Value.int .i64))) (lB2 : w.heap.size < B2) (rX : Row u X [.int .i64 (1 + (n1 : Int)), .int .i64 (nth [1, 2, 256, 60000] n2), .int .i64 (nth [1, 2, 65536, 1000000000] n3), .string ⟨#[]⟩]) (lX : w.heap.size < X) (neB1B2 : B1 ≠ B2) (neB1X : B1 ≠ X) (neB2X : B2 ≠ X) (hHeld : (fun w' => w'.cell? ⟨B1, n2, none⟩ = some (.int .i64 (nth [1, 2, 256, 60000] n2)) ∧ w'.cell? ⟨B2, n3, none⟩ = some (.int .i64 (nth [1, 2, 65536, 1000000000] n3)) ∧ True) u) : wpAnyH Tryd.prog .any pgSOps Q0 (fun w' => w'.cell? ⟨B1, n2, none⟩ = some (.int .i64 (nth [1, 2, 256, 60000] n2)) ∧ w'.cell? ⟨B2, n3, none⟩ = some (.int .i64 (nth [1, 2, 65536, 1000000000] n3)) ∧ True) 0 #[true, true, true, true, true, true, true, true, true, true, true, true, true, true, true, true] { tmps := #[.pointer (some ⟨R, 0, none⟩), .int .i64 (wd : Int), undef, undef, .pointer (some ⟨w.heap.size, 0, none⟩), .pointer (some ⟨X, 0, none⟩), .pointer (some ⟨R, 0, none⟩), .int .i64 (n1 : Int), .int .i64 (1 + (n1 : Int)), .slice (some ⟨B1, 0, none⟩) 4 4, .pointer (some ⟨R, 0, none⟩), .int .i64 (n2 : Int), .pointer (some ⟨B1, n2, none⟩), .int .i64 (nth [1, 2, 256, 60000] n2), .slice (some ⟨B2, 0, none⟩) 4 4, .pointer (some ⟨R, 0, none⟩), .int .i64 (n3 : Int), .pointer (some ⟨B2, n3, none⟩), .int .i64 (nth [1, 2, 65536, 1000000000] n3), .agg #[.int .i64 (1 + (n1 : Int)), .int .i64 (nth [1, 2, 256, 60000] n2), .int .i64 (nth [1, 2, 65536, 1000000000] n3), .string ⟨#[]⟩], undef, undef, undef, undef, undef, undef, undef, undef, undef, undef, undef, undef, undef, undef, undef, undef, undef], defers := [] } u := by
  unfold pgSOps
  refine wpAnyH_done (by kernel_rfl) ?_ _
  exact hQ _ _ ⟨_, _, _, _, _, _, _, _, _, _, _, _, _, _, _, _, _, _, rfl, rX, r4, rd, lX, gr⟩
set_option maxHeartbeats 4000000 in
theorem pgS_1 {R : Nat} {a : Option Addr} {n c : Nat} {p : Int} {wd : Nat} {w : World} (hp : p < 99998000) (p0 : 0 ≤ p) (hN : R < w.heap.size) (hNg : ∀ g o, a = some ⟨g, o, none⟩ → 0 < n → g < w.heap.size) {Q0 : Exit → Act → World → Prop} (hQ : ∀ (act : Act) (w' : World), (∃ (d6 d7 d8 d9 d10 d11 d12 d13 d14 d15 d16 d17 d18 d19 : Value) (X : Nat) (k l m : Int), act = { tmps := #[.pointer (some ⟨R, 0, none⟩), .int .i64 (wd : Int), undef, undef, .pointer (some ⟨w.heap.size, 0, none⟩), .pointer (some ⟨X, 0, none⟩), d6, d7, d8, d9, d10, d11, d12, d13, d14, d15, d16, d17, d18, d19, undef, undef, undef, undef, undef, undef, undef, undef, undef, undef, undef, undef, undef, undef, undef, undef, undef], defers := [] } ∧ Row w' X [.int .i64 k, .int .i64 l, .int .i64 m, .string ⟨#[]⟩] ∧ Row w' w.heap.size [.int .i64 0, .int .i64 0, .int .i64 0, .string ⟨#[]⟩] ∧ Rdr w' R a n c (p + 3) ∧ w.heap.size < X ∧ w.grownBy w' (some R)) → Q0 .normal act w') (hQp : ∀ c a w, ¬ Q0 (.panic c) a w) (u : World) (n1 : Nat) (n2 : Nat) (n3 : Nat) (B1 : Nat) (B2 : Nat) (X : Nat) (rd : Rdr u R a n c (p + 3)) (gr : w.grownBy u (some R)) (r4 : Row u w.heap.size [.int .i64 0, .int .i64 0, .int .i64 0, .string ⟨#[]⟩]) (hn1 : n1 < 4) (hn2 : n2 < 4) (hn3 : n3 < 4) (rB1 : Row u B1 ([1, 2, 256, 60000].map (Value.int .i64))) (lB1 : w.heap.size < B1) (rB2 : Row u B2 ([1, 2, 65536, 1000000000].map (Value.int .i64))) (lB2 : w.heap.size < B2) (rX : Row u X [.int .i64 0, .int .i64 0, .int .i64 0, .string ⟨#[]⟩]) (lX : w.heap.size < X) (neB1B2 : B1 ≠ B2) (neB1X : B1 ≠ X) (neB2X : B2 ≠ X) (hHeld : (fun w' => w'.cell? ⟨B1, n2, none⟩ = some (.int .i64 (nth [1, 2, 256, 60000] n2)) ∧ w'.cell? ⟨B2, n3, none⟩ = some (.int .i64 (nth [1, 2, 65536, 1000000000] n3)) ∧ True) u) : wpAnyH Tryd.prog .any pgSOps Q0 (fun w' => w'.cell? ⟨B1, n2, none⟩ = some (.int .i64 (nth [1, 2, 256, 60000] n2)) ∧ w'.cell? ⟨B2, n3, none⟩ = some (.int .i64 (nth [1, 2, 65536, 1000000000] n3)) ∧ True) 1 #[true, true, true, true, true, true, true, true, true, true, true, true, true, true, true, false] { tmps := #[.pointer (some ⟨R, 0, none⟩), .int .i64 (wd : Int), undef, undef, .pointer (some ⟨w.heap.size, 0, none⟩), .pointer (some ⟨X, 0, none⟩), .pointer (some ⟨R, 0, none⟩), .int .i64 (n1 : Int), .int .i64 (1 + (n1 : Int)), .slice (some ⟨B1, 0, none⟩) 4 4, .pointer (some ⟨R, 0, none⟩), .int .i64 (n2 : Int), .pointer (some ⟨B1, n2, none⟩), .int .i64 (nth [1, 2, 256, 60000] n2), .slice (some ⟨B2, 0, none⟩) 4 4, .pointer (some ⟨R, 0, none⟩), .int .i64 (n3 : Int), .pointer (some ⟨B2, n3, none⟩), .int .i64 (nth [1, 2, 65536, 1000000000] n3), .agg #[.int .i64 (1 + (n1 : Int)), .int .i64 (nth [1, 2, 256, 60000] n2), .int .i64 (nth [1, 2, 65536, 1000000000] n3), .string ⟨#[]⟩], undef, undef, undef, undef, undef, undef, undef, undef, undef, undef, undef, undef, undef, undef, undef, undef, undef], defers := [] } u := by
  unfold pgSOps
  refine wpAnyH_ready (rs := [15]) (by kernel_rfl) (by simp) ?_
  refine AllReadyH.cons rfl (fun K hK => ?_) AllReadyH.nil
  · have xc0 := rX.cell 0 _ rfl
    have xf0 := rX.froz 0 (by simp)
    have xc1 := rX.cell 1 _ rfl
    have xf1 := rX.froz 1 (by simp)
    have xc2 := rX.cell 2 _ rfl
    have xf2 := rX.froz 2 (by simp)
    have xc3 := rX.cell 3 _ rfl
    have xf3 := rX.froz 3 (by simp)
    have xl := rX.lt
    go_simp
    obtain ⟨u', e_u⟩ : ∃ xw, xw = ((((u.setCell ⟨X, 0, none⟩ (.int .i64 (1 + (n1 : Int)))).setCell ⟨X, 1, none⟩ (.int .i64 (nth [1, 2, 256, 60000] n2))).setCell ⟨X, 2, none⟩ (.int .i64 (nth [1, 2, 65536, 1000000000] n3))).setCell ⟨X, 3, none⟩ (.string ⟨#[]⟩)) := ⟨_, rfl⟩
    have rX' : Row u' X [.int .i64 (1 + (n1 : Int)), .int .i64 (nth [1, 2, 256, 60000] n2), .int .i64 (nth [1, 2, 65536, 1000000000] n3), .string ⟨#[]⟩] := by rw [e_u]; exact ((((rX.set 0 (by simp) (.int .i64 (1 + (n1 : Int)))).set 1 (by simp) (.int .i64 (nth [1, 2, 256, 60000] n2))).set 2 (by simp) (.int .i64 (nth [1, 2, 65536, 1000000000] n3))).set 3 (by simp) (.string ⟨#[]⟩))
    have r4' : Row u' w.heap.size [.int .i64 0, .int .i64 0, .int .i64 0, .string ⟨#[]⟩] := by rw [e_u]; exact ((((r4.other _ (by show X ≠ w.heap.size; omega) _).other _ (by show X ≠ w.heap.size; omega) _).other _ (by show X ≠ w.heap.size; omega) _).other _ (by show X ≠ w.heap.size; omega) _)
    have rd' : Rdr u' R a n c (p + 3) := by rw [e_u]; exact rd.keep hN hNg (((((Below.refl _ _).setCell (by show w.heap.size ≤ X; omega) _).setCell (by show w.heap.size ≤ X; omega) _).setCell (by show w.heap.size ≤ X; omega) _).setCell (by show w.heap.size ≤ X; omega) _)
    have gr' : w.grownBy u' (some R) := by rw [e_u]; exact (grown_setN (grown_setN (grown_setN (grown_setN gr _ (by show w.heap.size ≤ X; omega) _) _ (by show w.heap.size ≤ X; omega) _) _ (by show w.heap.size ≤ X; omega) _) _ (by show w.heap.size ≤ X; omega) _)
    have rB1' : Row u' B1 ([1, 2, 256, 60000].map (Value.int .i64)) := by rw [e_u]; exact ((((rB1.other _ (by show X ≠ B1; omega) _).other _ (by show X ≠ B1; omega) _).other _ (by show X ≠ B1; omega) _).other _ (by show X ≠ B1; omega) _)
    have rB2' : Row u' B2 ([1, 2, 65536, 1000000000].map (Value.int .i64)) := by rw [e_u]; exact ((((rB2.other _ (by show X ≠ B2; omega) _).other _ (by show X ≠ B2; omega) _).other _ (by show X ≠ B2; omega) _).other _ (by show X ≠ B2; omega) _)
    rw [← e_u]
    clear e_u
    refine hK.out _ _ (⟨(rB1').nth (by simpa using hn2), (rB2').nth (by simpa using hn3), trivial⟩) (fun _ => ?_)
    clear hK K
    try simp only [Act.put, List.getElem_toArray, List.getElem_cons_zero, List.getElem_cons_succ, List.setIfInBounds_toArray, List.set_cons_zero, List.set_cons_succ]
    have hHeld : (fun w' => w'.cell? ⟨B1, n2, none⟩ = some (.int .i64 (nth [1, 2, 256, 60000] n2)) ∧ w'.cell? ⟨B2, n3, none⟩ = some (.int .i64 (nth [1, 2, 65536, 1000000000] n3)) ∧ True) u' := ⟨(rB1').nth (by simpa using hn2), (rB2').nth (by simpa using hn3), trivial⟩
    exact pgS_0 hp p0 hN hNg hQ hQp u' (n1) (n2) (n3) (B1) (B2) (X) (rd') (gr') (r4') (hn1) (hn2) (hn3) (rB1') (lB1) (rB2') (lB2) (rX') (lX) (neB1B2) (neB1X) (neB2X) hHeld
set_option maxHeartbeats 4000000 in
theorem pgS_2 {R : Nat} {a : Option Addr} {n c : Nat} {p : Int} {wd : Nat} {w : World} (hp : p < 99998000) (p0 : 0 ≤ p) (hN : R < w.heap.size) (hNg : ∀ g o, a = some ⟨g, o, none⟩ → 0 < n → g < w.heap.size) {Q0 : Exit → Act → World → Prop} (hQ : ∀ (act : Act) (w' : World), (∃ (d6 d7 d8 d9 d10 d11 d12 d13 d14 d15 d16 d17 d18 d19 : Value) (X : Nat) (k l m : Int), act = { tmps := #[.pointer (some ⟨R, 0, none⟩), .int .i64 (wd : Int), undef, undef, .pointer (some ⟨w.heap.size, 0, none⟩), .pointer (some ⟨X, 0, none⟩), d6, d7, d8, d9, d10, d11, d12, d13, d14, d15, d16, d17, d18, d19, undef, undef, undef, undef, undef, undef, undef, undef, undef, undef, undef, undef, undef, undef, undef, undef, undef], defers := [] } ∧ Row w' X [.int .i64 k, .int .i64 l, .int .i64 m, .string ⟨#[]⟩] ∧ Row w' w.heap.size [.int .i64 0, .int .i64 0, .int .i64 0, .string ⟨#[]⟩] ∧ Rdr w' R a n c (p + 3) ∧ w.heap.size < X ∧ w.grownBy w' (some R)) → Q0 .normal act w') (hQp : ∀ c a w, ¬ Q0 (.panic c) a w) (u : World) (n1 : Nat) (n2 : Nat) (n3 : Nat) (B1 : Nat) (B2 : Nat) (rd : Rdr u R a n c (p + 3)) (gr : w.grownBy u (some R)) (r4 : Row u w.heap.size [.int .i64 0, .int .i64 0, .int .i64 0, .string ⟨#[]⟩]) (hn1 : n1 < 4) (hn2 : n2 < 4) (hn3 : n3 < 4) (rB1 : Row u B1 ([1, 2, 256, 60000].map (Value.int .i64))) (lB1 : w.heap.size < B1) (rB2 : Row u B2 ([1, 2, 65536, 1000000000].map (Value.int .i64))) (lB2 : w.heap.size < B2) (neB1B2 : B1 ≠ B2) (hHeld : (fun w' => w'.cell? ⟨B1, n2, none⟩ = some (.int .i64 (nth [1, 2, 256, 60000] n2)) ∧ w'.cell? ⟨B2, n3, none⟩ = some (.int .i64 (nth [1, 2, 65536, 1000000000] n3)) ∧ True) u) : wpAnyH Tryd.prog .any pgSOps Q0 (fun w' => w'.cell? ⟨B1, n2, none⟩ = some (.int .i64 (nth [1, 2, 256, 60000] n2)) ∧ w'.cell? ⟨B2, n3, none⟩ = some (.int .i64 (nth [1, 2, 65536, 1000000000] n3)) ∧ True) 2 #[true, true, true, true, true, true, true, true, true, true, true, true, true, true, false, false] { tmps := #[.pointer (some ⟨R, 0, none⟩), .int .i64 (wd : Int), undef, undef, .pointer (some ⟨w.heap.size, 0, none⟩), undef, .pointer (some ⟨R, 0, none⟩), .int .i64 (n1 : Int), .int .i64 (1 + (n1 : Int)), .slice (some ⟨B1, 0, none⟩) 4 4, .pointer (some ⟨R, 0, none⟩), .int .i64 (n2 : Int), .pointer (some ⟨B1, n2, none⟩), .int .i64 (nth [1, 2, 256, 60000] n2), .slice (some ⟨B2, 0, none⟩) 4 4, .pointer (some ⟨R, 0, none⟩), .int .i64 (n3 : Int), .pointer (some ⟨B2, n3, none⟩), .int .i64 (nth [1, 2, 65536, 1000000000] n3), .agg #[.int .i64 (1 + (n1 : Int)), .int .i64 (nth [1, 2, 256, 60000] n2), .int .i64 (nth [1, 2, 65536, 1000000000] n3), .string ⟨#[]⟩], undef, undef, undef, undef, undef, undef, undef, undef, undef, undef, undef, undef, undef, undef, undef, undef, undef], defers := [] } u := by
  unfold pgSOps
  refine wpAnyH_ready (rs := [14]) (by kernel_rfl) (by simp) ?_
  refine AllReadyH.cons rfl (fun K hK => ?_) AllReadyH.nil
  · go_simp
    obtain ⟨u', e_u⟩ : ∃ xw, xw = u.alloc (.cells #[.int .i64 0, .int .i64 0, .int .i64 0, .string ⟨#[]⟩] 23) := ⟨_, rfl⟩
    have hb' : Below u.heap.size u u' := by rw [e_u]; exact below_nw _ _
    have rX' : Row u' u.heap.size [.int .i64 0, .int .i64 0, .int .i64 0, .string ⟨#[]⟩] := by rw [e_u]; exact row_new _ _ _
    have l4 := r4.lt
    rw [← e_u]
    clear e_u
    obtain ⟨X, e_B⟩ : ∃ xb, xb = u.heap.size := ⟨_, rfl⟩
    rw [← e_B] at rX'
    rw [← e_B]
    have hbn1 : (n1 : Int) < 4 := by omega
    have hbn2 : (n2 : Int) < 4 := by omega
    have hbn3 : (n3 : Int) < 4 := by omega
    have rB1' := rB1.below hb'
    have ltB1 := rB1.lt
    have rB2' := rB2.below hb'
    have ltB2 := rB2.lt
    have lX' : w.heap.size < X := by omega
    have ne_XB1 : X ≠ B1 := by omega
    have ne_B1X : B1 ≠ X := by omega
    have ne_XB2 : X ≠ B2 := by omega
    have ne_B2X : B2 ≠ X := by omega
    clear e_B
    refine hK.out _ _ (⟨(rB1').nth (by simpa using hn2), (rB2').nth (by simpa using hn3), trivial⟩) (fun _ => ?_)
    clear hK K
    try simp only [Act.put, List.getElem_toArray, List.getElem_cons_zero, List.getElem_cons_succ, List.setIfInBounds_toArray, List.set_cons_zero, List.set_cons_succ]
    have hHeld : (fun w' => w'.cell? ⟨B1, n2, none⟩ = some (.int .i64 (nth [1, 2, 256, 60000] n2)) ∧ w'.cell? ⟨B2, n3, none⟩ = some (.int .i64 (nth [1, 2, 65536, 1000000000] n3)) ∧ True) u' := ⟨(rB1').nth (by simpa using hn2), (rB2').nth (by simpa using hn3), trivial⟩
    exact pgS_1 hp p0 hN hNg hQ hQp u' (n1) (n2) (n3) (B1) (B2) (X) (rd.below hb') (grown_trans gr (grown_of_below (some R) hb')) (r4.below hb') (hn1) (hn2) (hn3) (rB1') (lB1) (rB2') (lB2) (rX') (lX') (neB1B2) (ne_B1X) (ne_B2X) hHeld
set_option maxHeartbeats 4000000 in
theorem pgS_3 {R : Nat} {a : Option Addr} {n c : Nat} {p : Int} {wd : Nat} {w : World} (hp : p < 99998000) (p0 : 0 ≤ p) (hN : R < w.heap.size) (hNg : ∀ g o, a = some ⟨g, o, none⟩ → 0 < n → g < w.heap.size) {Q0 : Exit → Act → World → Prop} (hQ : ∀ (act : Act) (w' : World), (∃ (d6 d7 d8 d9 d10 d11 d12 d13 d14 d15 d16 d17 d18 d19 : Value) (X : Nat) (k l m : Int), act = { tmps := #[.pointer (some ⟨R, 0, none⟩), .int .i64 (wd : Int), undef, undef, .pointer (some ⟨w.heap.size, 0, none⟩), .pointer (some ⟨X, 0, none⟩), d6, d7, d8, d9, d10, d11, d12, d13, d14, d15, d16, d17, d18, d19, undef, undef, undef, undef, undef, undef, undef, undef, undef, undef, undef, undef, undef, undef, undef, undef, undef], defers := [] } ∧ Row w' X [.int .i64 k, .int .i64 l, .int .i64 m, .string ⟨#[]⟩] ∧ Row w' w.heap.size [.int .i64 0, .int .i64 0, .int .i64 0, .string ⟨#[]⟩] ∧ Rdr w' R a n c (p + 3) ∧ w.heap.size < X ∧ w.grownBy w' (some R)) → Q0 .normal act w') (hQp : ∀ c a w, ¬ Q0 (.panic c) a w) (u : World) (n1 : Nat) (n2 : Nat) (B1 : Nat) (B2 : Nat) (X : Nat) (rd : Rdr u R a n c (p + 2)) (gr : w.grownBy u (some R)) (r4 : Row u w.heap.size [.int .i64 0, .int .i64 0, .int .i64 0, .string ⟨#[]⟩]) (hn1 : n1 < 4) (hn2 : n2 < 4) (rB1 : Row u B1 ([1, 2, 256, 60000].map (Value.int .i64))) (lB1 : w.heap.size < B1) (rB2 : Row u B2 ([1, 2, 65536, 1000000000].map (Value.int .i64))) (lB2 : w.heap.size < B2) (rX : Row u X [.int .i64 0, .int .i64 0, .int .i64 0, .string ⟨#[]⟩]) (lX : w.heap.size < X) (neB1B2 : B1 ≠ B2) (neB1X : B1 ≠ X) (neB2X : B2 ≠ X) (hHeld : (fun w' => w'.cell? ⟨B1, n2, none⟩ = some (.int .i64 (nth [1, 2, 256, 60000] n2)) ∧ True) u) : wpAnyH Tryd.prog .any pgSOps Q0 (fun w' => w'.cell? ⟨B1, n2, none⟩ = some (.int .i64 (nth [1, 2, 256, 60000] n2)) ∧ True) 5 #[true, true, true, true, true, true, true, true, true, true, false, false, false, false, true, false] { tmps := #[.pointer (some ⟨R, 0, none⟩), .int .i64 (wd : Int), undef, undef, .pointer (some ⟨w.heap.size, 0, none⟩), .pointer (some ⟨X, 0, none⟩), .pointer (some ⟨R, 0, none⟩), .int .i64 (n1 : Int), .int .i64 (1 + (n1 : Int)), .slice (some ⟨B1, 0, none⟩) 4 4, .pointer (some ⟨R, 0, none⟩), .int .i64 (n2 : Int), .pointer (some ⟨B1, n2, none⟩), .int .i64 (nth [1, 2, 256, 60000] n2), .slice (some ⟨B2, 0, none⟩) 4 4, .pointer (some ⟨R, 0, none⟩), undef, undef, undef, undef, undef, undef, undef, undef, undef, undef, undef, undef, undef, undef, undef, undef, undef, undef, undef, undef, undef], defers := [] } u := by
  unfold pgSOps
  refine wpAnyH_ready (rs := [10]) (by kernel_rfl) (by simp) ?_
  refine AllReadyH.cons rfl (fun K hK => ?_) AllReadyH.nil
  · refine step_call (by rfl) 21 #[.pointer (some ⟨R, 0, none⟩), .int .i64 4] (by go_simp) (pick_r R a n c (p + 2) 4 _ rd (by omega)) ?_
    rintro e u' ⟨⟨v', rfl, v0, v1⟩, rd', hg'⟩
    obtain ⟨n3, rfl⟩ : ∃ k : Nat, v' = (k : Int) := ⟨v'.toNat, by omega⟩
    have hn3 : n3 < 4 := by omega
    have hbn3 : (n3 : Int) < 4 := by omega
    clear v1
    have hw' : IntKind.i64.wrap (1 + (n3 : Int)) = 1 + (n3 : Int) := wrap_i64_id _ (by omega) (by omega)
    refine ⟨_, rfl, ?_⟩
    have rB1' := rB1.grown hg' (fun e => by injection e with e; omega)
    have rB2' := rB2.grown hg' (fun e => by injection e with e; omega)
    have rX' := rX.grown hg' (fun e => by injection e with e; omega)
    have r4' := r4.grown hg' (fun e => by injection e with e; omega)
    refine hK.out _ _ (⟨(rB1').nth (by simpa using hn2), trivial⟩) (fun _ => ?_)
    clear hK K
    try simp only [Act.put, List.getElem_toArray, List.getElem_cons_zero, List.getElem_cons_succ, List.setIfInBounds_toArray, List.set_cons_zero, List.set_cons_succ]
    have hHeld : (fun w' => w'.cell? ⟨B1, n2, none⟩ = some (.int .i64 (nth [1, 2, 256, 60000] n2)) ∧ w'.cell? ⟨B2, n3, none⟩ = some (.int .i64 (nth [1, 2, 65536, 1000000000] n3)) ∧ True) u' := ⟨(rB1').nth (by simpa using hn2), (rB2').nth (by simpa using hn3), trivial⟩
    refine wpAnyH_more (S' := fun w' => w'.cell? ⟨B1, n2, none⟩ = some (.int .i64 (nth [1, 2, 256, 60000] n2)) ∧ w'.cell? ⟨B2, n3, none⟩ = some (.int .i64 (nth [1, 2, 65536, 1000000000] n3)) ∧ True) (fun _ h => ⟨h.1, h.2.2⟩) _ _ _ _ ?_
    refine wpAnyH_take (i := 11) (v := .pointer (some ⟨B2, n3, none⟩)) rfl (by kernel_rfl) (by kernel_rfl) (by kernel_rfl) (fun _ _ _ h => absurd h (hQp _ _ _)) (Or.inl ⟨by rfl, fun w hw => by obtain ⟨z0, z1, z2⟩ := hw; go_simp⟩) hHeld ?_
    simp only [Act.put, List.getElem_toArray, List.getElem_cons_zero, List.getElem_cons_succ, List.setIfInBounds_toArray, List.set_cons_zero, List.set_cons_succ]
    refine wpAnyH_take (i := 12) (v := .int .i64 (nth [1, 2, 65536, 1000000000] n3)) rfl (by kernel_rfl) (by kernel_rfl) (by kernel_rfl) (fun _ _ _ h => absurd h (hQp _ _ _)) (Or.inl ⟨by rfl, fun w hw => by obtain ⟨z0, z1, z2⟩ := hw; go_simp⟩) hHeld ?_
    simp only [Act.put, List.getElem_toArray, List.getElem_cons_zero, List.getElem_cons_succ, List.setIfInBounds_toArray, List.set_cons_zero, List.set_cons_succ]
    refine wpAnyH_take (i := 13) (v := .agg #[.int .i64 (1 + (n1 : Int)), .int .i64 (nth [1, 2, 256, 60000] n2), .int .i64 (nth [1, 2, 65536, 1000000000] n3), .string ⟨#[]⟩]) rfl (by kernel_rfl) (by kernel_rfl) (by kernel_rfl) (fun _ _ _ h => absurd h (hQp _ _ _)) (Or.inl ⟨by rfl, fun w hw => by obtain ⟨z0, z1, z2⟩ := hw; go_simp⟩) hHeld ?_
    simp only [Act.put, List.getElem_toArray, List.getElem_cons_zero, List.getElem_cons_succ, List.setIfInBounds_toArray, List.set_cons_zero, List.set_cons_succ]
    exact pgS_1 hp p0 hN hNg hQ hQp u' (n1) (n2) (n3) (B1) (B2) (X) (by have e : p + 3 = p + 2 + 1 := (by omega); rw [e]; exact rd') (grown_trans gr hg') (r4') (hn1) (hn2) (hn3) (rB1') (lB1) (rB2') (lB2) (rX') (lX) (neB1B2) (neB1X) (neB2X) hHeld
set_option maxHeartbeats 4000000 in
theorem pgS_4 {R : Nat} {a : Option Addr} {n c : Nat} {p : Int} {wd : Nat} {w : World} (hp : p < 99998000) (p0 : 0 ≤ p) (hN : R < w.heap.size) (hNg : ∀ g o, a = some ⟨g, o, none⟩ → 0 < n → g < w.heap.size) {Q0 : Exit → Act → World → Prop} (hQ : ∀ (act : Act) (w' : World), (∃ (d6 d7 d8 d9 d10 d11 d12 d13 d14 d15 d16 d17 d18 d19 : Value) (X : Nat) (k l m : Int), act = { tmps := #[.pointer (some ⟨R, 0, none⟩), .int .i64 (wd : Int), undef, undef, .pointer (some ⟨w.heap.size, 0, none⟩), .pointer (some ⟨X, 0, none⟩), d6, d7, d8, d9, d10, d11, d12, d13, d14, d15, d16, d17, d18, d19, undef, undef, undef, undef, undef, undef, undef, undef, undef, undef, undef, undef, undef, undef, undef, undef, undef], defers := [] } ∧ Row w' X [.int .i64 k, .int .i64 l, .int .i64 m, .string ⟨#[]⟩] ∧ Row w' w.heap.size [.int .i64 0, .int .i64 0, .int .i64 0, .string ⟨#[]⟩] ∧ Rdr w' R a n c (p + 3) ∧ w.heap.size < X ∧ w.grownBy w' (some R)) → Q0 .normal act w') (hQp : ∀ c a w, ¬ Q0 (.panic c) a w) (u : World) (n1 : Nat) (n2 : Nat) (B1 : Nat) (B2 : Nat) (rd : Rdr u R a n c (p + 2)) (gr : w.grownBy u (some R)) (r4 : Row u w.heap.size [.int .i64 0, .int .i64 0, .int .i64 0, .string ⟨#[]⟩]) (hn1 : n1 < 4) (hn2 : n2 < 4) (rB1 : Row u B1 ([1, 2, 256, 60000].map (Value.int .i64))) (lB1 : w.heap.size < B1) (rB2 : Row u B2 ([1, 2, 65536, 1000000000].map (Value.int .i64))) (lB2 : w.heap.size < B2) (neB1B2 : B1 ≠ B2) (hHeld : (fun w' => w'.cell? ⟨B1, n2, none⟩ = some (.int .i64 (nth [1, 2, 256, 60000] n2)) ∧ True) u) : wpAnyH Tryd.prog .any pgSOps Q0 (fun w' => w'.cell? ⟨B1, n2, none⟩ = some (.int .i64 (nth [1, 2, 256, 60000] n2)) ∧ True) 6 #[true, true, true, true, true, true, true, true, true, true, false, false, false, false, false, false] { tmps := #[.pointer (some ⟨R, 0, none⟩), .int .i64 (wd : Int), undef, undef, .pointer (some ⟨w.heap.size, 0, none⟩), undef, .pointer (some ⟨R, 0, none⟩), .int .i64 (n1 : Int), .int .i64 (1 + (n1 : Int)), .slice (some ⟨B1, 0, none⟩) 4 4, .pointer (some ⟨R, 0, none⟩), .int .i64 (n2 : Int), .pointer (some ⟨B1, n2, none⟩), .int .i64 (nth [1, 2, 256, 60000] n2), .slice (some ⟨B2, 0, none⟩) 4 4, .pointer (some ⟨R, 0, none⟩), undef, undef, undef, undef, undef, undef, undef, undef, undef, undef, undef, undef, undef, undef, undef, undef, undef, undef, undef, undef, undef], defers := [] } u := by
  unfold pgSOps
  refine wpAnyH_ready (rs := [10, 14]) (by kernel_rfl) (by simp) ?_
  refine AllReadyH.cons rfl (fun K hK => ?_) (AllReadyH.cons rfl (fun K hK => ?_) AllReadyH.nil)
  · refine step_call (by rfl) 21 #[.pointer (some ⟨R, 0, none⟩), .int .i64 4] (by go_simp) (pick_r R a n c (p + 2) 4 _ rd (by omega)) ?_
    rintro e u' ⟨⟨v', rfl, v0, v1⟩, rd', hg'⟩
    obtain ⟨n3, rfl⟩ : ∃ k : Nat, v' = (k : Int) := ⟨v'.toNat, by omega⟩
    have hn3 : n3 < 4 := by omega
    have hbn3 : (n3 : Int) < 4 := by omega
    clear v1
    have hw' : IntKind.i64.wrap (1 + (n3 : Int)) = 1 + (n3 : Int) := wrap_i64_id _ (by omega) (by omega)
    refine ⟨_, rfl, ?_⟩
    have rB1' := rB1.grown hg' (fun e => by injection e with e; omega)
    have rB2' := rB2.grown hg' (fun e => by injection e with e; omega)
    have r4' := r4.grown hg' (fun e => by injection e with e; omega)
    refine hK.out _ _ (⟨(rB1').nth (by simpa using hn2), trivial⟩) (fun _ => ?_)
    clear hK K
    try simp only [Act.put, List.getElem_toArray, List.getElem_cons_zero, List.getElem_cons_succ, List.setIfInBounds_toArray, List.set_cons_zero, List.set_cons_succ]
    have hHeld : (fun w' => w'.cell? ⟨B1, n2, none⟩ = some (.int .i64 (nth [1, 2, 256, 60000] n2)) ∧ w'.cell? ⟨B2, n3, none⟩ = some (.int .i64 (nth [1, 2, 65536, 1000000000] n3)) ∧ True) u' := ⟨(rB1').nth (by simpa using hn2), (rB2').nth (by simpa using hn3), trivial⟩
    refine wpAnyH_more (S' := fun w' => w'.cell? ⟨B1, n2, none⟩ = some (.int .i64 (nth [1, 2, 256, 60000] n2)) ∧ w'.cell? ⟨B2, n3, none⟩ = some (.int .i64 (nth [1, 2, 65536, 1000000000] n3)) ∧ True) (fun _ h => ⟨h.1, h.2.2⟩) _ _ _ _ ?_
    refine wpAnyH_take (i := 11) (v := .pointer (some ⟨B2, n3, none⟩)) rfl (by kernel_rfl) (by kernel_rfl) (by kernel_rfl) (fun _ _ _ h => absurd h (hQp _ _ _)) (Or.inl ⟨by rfl, fun w hw => by obtain ⟨z0, z1, z2⟩ := hw; go_simp⟩) hHeld ?_
    simp only [Act.put, List.getElem_toArray, List.getElem_cons_zero, List.getElem_cons_succ, List.setIfInBounds_toArray, List.set_cons_zero, List.set_cons_succ]
    refine wpAnyH_take (i := 12) (v := .int .i64 (nth [1, 2, 65536, 1000000000] n3)) rfl (by kernel_rfl) (by kernel_rfl) (by kernel_rfl) (fun _ _ _ h => absurd h (hQp _ _ _)) (Or.inl ⟨by rfl, fun w hw => by obtain ⟨z0, z1, z2⟩ := hw; go_simp⟩) hHeld ?_
    simp only [Act.put, List.getElem_toArray, List.getElem_cons_zero, List.getElem_cons_succ, List.setIfInBounds_toArray, List.set_cons_zero, List.set_cons_succ]
    refine wpAnyH_take (i := 13) (v := .agg #[.int .i64 (1 + (n1 : Int)), .int .i64 (nth [1, 2, 256, 60000] n2), .int .i64 (nth [1, 2, 65536, 1000000000] n3), .string ⟨#[]⟩]) rfl (by kernel_rfl) (by kernel_rfl) (by kernel_rfl) (fun _ _ _ h => absurd h (hQp _ _ _)) (Or.inl ⟨by rfl, fun w hw => by obtain ⟨z0, z1, z2⟩ := hw; go_simp⟩) hHeld ?_
    simp only [Act.put, List.getElem_toArray, List.getElem_cons_zero, List.getElem_cons_succ, List.setIfInBounds_toArray, List.set_cons_zero, List.set_cons_succ]
    exact pgS_2 hp p0 hN hNg hQ hQp u' (n1) (n2) (n3) (B1) (B2) (by have e : p + 3 = p + 2 + 1 := (by omega); rw [e]; exact rd') (grown_trans gr hg') (r4') (hn1) (hn2) (hn3) (rB1') (lB1) (rB2') (lB2) (neB1B2) hHeld
  · go_simp
    obtain ⟨u', e_u⟩ : ∃ xw, xw = u.alloc (.cells #[.int .i64 0, .int .i64 0, .int .i64 0, .string ⟨#[]⟩] 23) := ⟨_, rfl⟩
    have hb' : Below u.heap.size u u' := by rw [e_u]; exact below_nw _ _
    have rX' : Row u' u.heap.size [.int .i64 0, .int .i64 0, .int .i64 0, .string ⟨#[]⟩] := by rw [e_u]; exact row_new _ _ _
    have l4 := r4.lt
    rw [← e_u]
    clear e_u
    obtain ⟨X, e_B⟩ : ∃ xb, xb = u.heap.size := ⟨_, rfl⟩
    rw [← e_B] at rX'
    rw [← e_B]
    have hbn1 : (n1 : Int) < 4 := by omega
    have hbn2 : (n2 : Int) < 4 := by omega
    have rB1' := rB1.below hb'
    have ltB1 := rB1.lt
    have rB2' := rB2.below hb'
    have ltB2 := rB2.lt
    have lX' : w.heap.size < X := by omega
    have ne_XB1 : X ≠ B1 := by omega
    have ne_B1X : B1 ≠ X := by omega
    have ne_XB2 : X ≠ B2 := by omega
    have ne_B2X : B2 ≠ X := by omega
    clear e_B
    refine hK.out _ _ (⟨(rB1').nth (by simpa using hn2), trivial⟩) (fun _ => ?_)
    clear hK K
    try simp only [Act.put, List.getElem_toArray, List.getElem_cons_zero, List.getElem_cons_succ, List.setIfInBounds_toArray, List.set_cons_zero, List.set_cons_succ]
    have hHeld : (fun w' => w'.cell? ⟨B1, n2, none⟩ = some (.int .i64 (nth [1, 2, 256, 60000] n2)) ∧ True) u' := ⟨(rB1').nth (by simpa using hn2), trivial⟩
    exact pgS_3 hp p0 hN hNg hQ hQp u' (n1) (n2) (B1) (B2) (X) (rd.below hb') (grown_trans gr (grown_of_below (some R) hb')) (r4.below hb') (hn1) (hn2) (rB1') (lB1) (rB2') (lB2) (rX') (lX') (neB1B2) (ne_B1X) (ne_B2X) hHeld
set_option maxHeartbeats 4000000 in
theorem pgS_5 {R : Nat} {a : Option Addr} {n c : Nat} {p : Int} {wd : Nat} {w : World} (hp : p < 99998000) (p0 : 0 ≤ p) (hN : R < w.heap.size) (hNg : ∀ g o, a = some ⟨g, o, none⟩ → 0 < n → g < w.heap.size) {Q0 : Exit → Act → World → Prop} (hQ : ∀ (act : Act) (w' : World), (∃ (d6 d7 d8 d9 d10 d11 d12 d13 d14 d15 d16 d17 d18 d19 : Value) (X : Nat) (k l m : Int), act = { tmps := #[.pointer (some ⟨R, 0, none⟩), .int .i64 (wd : Int), undef, undef, .pointer (some ⟨w.heap.size, 0, none⟩), .pointer (some ⟨X, 0, none⟩), d6, d7, d8, d9, d10, d11, d12, d13, d14, d15, d16, d17, d18, d19, undef, undef, undef, undef, undef, undef, undef, undef, undef, undef, undef, undef, undef, undef, undef, undef, undef], defers := [] } ∧ Row w' X [.int .i64 k, .int .i64 l, .int .i64 m, .string ⟨#[]⟩] ∧ Row w' w.heap.size [.int .i64 0, .int .i64 0, .int .i64 0, .string ⟨#[]⟩] ∧ Rdr w' R a n c (p + 3) ∧ w.heap.size < X ∧ w.grownBy w' (some R)) → Q0 .normal act w') (hQp : ∀ c a w, ¬ Q0 (.panic c) a w) (u : World) (n1 : Nat) (n2 : Nat) (n3 : Nat) (B1 : Nat) (X : Nat) (rd : Rdr u R a n c (p + 3)) (gr : w.grownBy u (some R)) (r4 : Row u w.heap.size [.int .i64 0, .int .i64 0, .int .i64 0, .string ⟨#[]⟩]) (hn1 : n1 < 4) (hn2 : n2 < 4) (hn3 : n3 < 4) (rB1 : Row u B1 ([1, 2, 256, 60000].map (Value.int .i64))) (lB1 : w.heap.size < B1) (rX : Row u X [.int .i64 0, .int .i64 0, .int .i64 0, .string ⟨#[]⟩]) (lX : w.heap.size < X) (neB1X : B1 ≠ X) (hHeld : (fun w' => w'.cell? ⟨B1, n2, none⟩ = some (.int .i64 (nth [1, 2, 256, 60000] n2)) ∧ True) u) : wpAnyH Tryd.prog .any pgSOps Q0 (fun w' => w'.cell? ⟨B1, n2, none⟩ = some (.int .i64 (nth [1, 2, 256, 60000] n2)) ∧ True) 5 #[true, true, true, true, true, true, true, true, false, true, true, false, false, false, true, false] { tmps := #[.pointer (some ⟨R, 0, none⟩), .int .i64 (wd : Int), undef, undef, .pointer (some ⟨w.heap.size, 0, none⟩), .pointer (some ⟨X, 0, none⟩), .pointer (some ⟨R, 0, none⟩), .int .i64 (n1 : Int), .int .i64 (1 + (n1 : Int)), .slice (some ⟨B1, 0, none⟩) 4 4, .pointer (some ⟨R, 0, none⟩), .int .i64 (n2 : Int), .pointer (some ⟨B1, n2, none⟩), .int .i64 (nth [1, 2, 256, 60000] n2), undef, .pointer (some ⟨R, 0, none⟩), .int .i64 (n3 : Int), undef, undef, undef, undef, undef, undef, undef, undef, undef, undef, undef, undef, undef, undef, undef, undef, undef, undef, undef, undef], defers := [] } u := by
  unfold pgSOps
  refine wpAnyH_ready (rs := [8]) (by kernel_rfl) (by simp) ?_
  refine AllReadyH.cons rfl (fun K hK => ?_) AllReadyH.nil
  · go_simp
    obtain ⟨u', e_u⟩ : ∃ xw, xw = u.alloc (.cells #[.int .i64 1, .int .i64 2, .int .i64 65536, .int .i64 1000000000] 3) := ⟨_, rfl⟩
    have hb' : Below u.heap.size u u' := by rw [e_u]; exact below_nw _ _
    have rB2' : Row u' u.heap.size ([1, 2, 65536, 1000000000].map (Value.int .i64)) := by rw [e_u]; exact row_new _ _ _
    have l4 := r4.lt
    rw [← e_u]
    clear e_u
    obtain ⟨B2, e_B⟩ : ∃ xb, xb = u.heap.size := ⟨_, rfl⟩
    rw [← e_B] at rB2'
    rw [← e_B]
    have hbn1 : (n1 : Int) < 4 := by omega
    have hbn2 : (n2 : Int) < 4 := by omega
    have hbn3 : (n3 : Int) < 4 := by omega
    have rB1' := rB1.below hb'
    have ltB1 := rB1.lt
    have rX' := rX.below hb'
    have ltX := rX.lt
    have lB2' : w.heap.size < B2 := by omega
    have ne_B2B1 : B2 ≠ B1 := by omega
    have ne_B1B2 : B1 ≠ B2 := by omega
    have ne_B2X : B2 ≠ X := by omega
    have ne_XB2 : X ≠ B2 := by omega
    clear e_B
    refine hK.out _ _ (⟨(rB1').nth (by simpa using hn2), trivial⟩) (fun _ => ?_)
    clear hK K
    try simp only [Act.put, List.getElem_toArray, List.getElem_cons_zero, List.getElem_cons_succ, List.setIfInBounds_toArray, List.set_cons_zero, List.set_cons_succ]
    have hHeld : (fun w' => w'.cell? ⟨B1, n2, none⟩ = some (.int .i64 (nth [1, 2, 256, 60000] n2)) ∧ w'.cell? ⟨B2, n3, none⟩ = some (.int .i64 (nth [1, 2, 65536, 1000000000] n3)) ∧ True) u' := ⟨(rB1').nth (by simpa using hn2), (rB2').nth (by simpa using hn3), trivial⟩
    refine wpAnyH_more (S' := fun w' => w'.cell? ⟨B1, n2, none⟩ = some (.int .i64 (nth [1, 2, 256, 60000] n2)) ∧ w'.cell? ⟨B2, n3, none⟩ = some (.int .i64 (nth [1, 2, 65536, 1000000000] n3)) ∧ True) (fun _ h => ⟨h.1, h.2.2⟩) _ _ _ _ ?_
    refine wpAnyH_take (i := 11) (v := .pointer (some ⟨B2, n3, none⟩)) rfl (by kernel_rfl) (by kernel_rfl) (by kernel_rfl) (fun _ _ _ h => absurd h (hQp _ _ _)) (Or.inl ⟨by rfl, fun w hw => by obtain ⟨z0, z1, z2⟩ := hw; go_simp⟩) hHeld ?_
    simp only [Act.put, List.getElem_toArray, List.getElem_cons_zero, List.getElem_cons_succ, List.setIfInBounds_toArray, List.set_cons_zero, List.set_cons_succ]
    refine wpAnyH_take (i := 12) (v := .int .i64 (nth [1, 2, 65536, 1000000000] n3)) rfl (by kernel_rfl) (by kernel_rfl) (by kernel_rfl) (fun _ _ _ h => absurd h (hQp _ _ _)) (Or.inl ⟨by rfl, fun w hw => by obtain ⟨z0, z1, z2⟩ := hw; go_simp⟩) hHeld ?_
    simp only [Act.put, List.getElem_toArray, List.getElem_cons_zero, List.getElem_cons_succ, List.setIfInBounds_toArray, List.set_cons_zero, List.set_cons_succ]
    refine wpAnyH_take (i := 13) (v := .agg #[.int .i64 (1 + (n1 : Int)), .int .i64 (nth [1, 2, 256, 60000] n2), .int .i64 (nth [1, 2, 65536, 1000000000] n3), .string ⟨#[]⟩]) rfl (by kernel_rfl) (by kernel_rfl) (by kernel_rfl) (fun _ _ _ h => absurd h (hQp _ _ _)) (Or.inl ⟨by rfl, fun w hw => by obtain ⟨z0, z1, z2⟩ := hw; go_simp⟩) hHeld ?_
    simp only [Act.put, List.getElem_toArray, List.getElem_cons_zero, List.getElem_cons_succ, List.setIfInBounds_toArray, List.set_cons_zero, List.set_cons_succ]
    exact pgS_1 hp p0 hN hNg hQ hQp u' (n1) (n2) (n3) (B1) (B2) (X) (rd.below hb') (grown_trans gr (grown_of_below (some R) hb')) (r4.below hb') (hn1) (hn2) (hn3) (rB1') (lB1) (rB2') (lB2') (rX') (lX) (ne_B1B2) (neB1X) (ne_B2X) hHeld
set_option maxHeartbeats 4000000 in
theorem pgS_6 {R : Nat} {a : Option Addr} {n c : Nat} {p : Int} {wd : Nat} {w : World} (hp : p < 99998000) (p0 : 0 ≤ p) (hN : R < w.heap.size) (hNg : ∀ g o, a = some ⟨g, o, none⟩ → 0 < n → g < w.heap.size) {Q0 : Exit → Act → World → Prop} (hQ : ∀ (act : Act) (w' : World), (∃ (d6 d7 d8 d9 d10 d11 d12 d13 d14 d15 d16 d17 d18 d19 : Value) (X : Nat) (k l m : Int), act = { tmps := #[.pointer (some ⟨R, 0, none⟩), .int .i64 (wd : Int), undef, undef, .pointer (some ⟨w.heap.size, 0, none⟩), .pointer (some ⟨X, 0, none⟩), d6, d7, d8, d9, d10, d11, d12, d13, d14, d15, d16, d17, d18, d19, undef, undef, undef, undef, undef, undef, undef, undef, undef, undef, undef, undef, undef, undef, undef, undef, undef], defers := [] } ∧ Row w' X [.int .i64 k, .int .i64 l, .int .i64 m, .string ⟨#[]⟩] ∧ Row w' w.heap.size [.int .i64 0, .int .i64 0, .int .i64 0, .string ⟨#[]⟩] ∧ Rdr w' R a n c (p + 3) ∧ w.heap.size < X ∧ w.grownBy w' (some R)) → Q0 .normal act w') (hQp : ∀ c a w, ¬ Q0 (.panic c) a w) (u : World) (n1 : Nat) (n2 : Nat) (n3 : Nat) (B1 : Nat) (rd : Rdr u R a n c (p + 3)) (gr : w.grownBy u (some R)) (r4 : Row u w.heap.size [.int .i64 0, .int .i64 0, .int .i64 0, .string ⟨#[]⟩]) (hn1 : n1 < 4) (hn2 : n2 < 4) (hn3 : n3 < 4) (rB1 : Row u B1 ([1, 2, 256, 60000].map (Value.int .i64))) (lB1 : w.heap.size < B1) (hHeld : (fun w' => w'.cell? ⟨B1, n2, none⟩ = some (.int .i64 (nth [1, 2, 256, 60000] n2)) ∧ True) u) : wpAnyH Tryd.prog .any pgSOps Q0 (fun w' => w'.cell? ⟨B1, n2, none⟩ = some (.int .i64 (nth [1, 2, 256, 60000] n2)) ∧ True) 6 #[true, true, true, true, true, true, true, true, false, true, true, false, false, false, false, false] { tmps := #[.pointer (some ⟨R, 0, none⟩), .int .i64 (wd : Int), undef, undef, .pointer (some ⟨w.heap.size, 0, none⟩), undef, .pointer (some ⟨R, 0, none⟩), .int .i64 (n1 : Int), .int .i64 (1 + (n1 : Int)), .slice (some ⟨B1, 0, none⟩) 4 4, .pointer (some ⟨R, 0, none⟩), .int .i64 (n2 : Int), .pointer (some ⟨B1, n2, none⟩), .int .i64 (nth [1, 2, 256, 60000] n2), undef, .pointer (some ⟨R, 0, none⟩), .int .i64 (n3 : Int), undef, undef, undef, undef, undef, undef, undef, undef, undef, undef, undef, undef, undef, undef, undef, undef, undef, undef, undef, undef], defers := [] } u := by
  unfold pgSOps
  refine wpAnyH_ready (rs := [8, 14]) (by kernel_rfl) (by simp) ?_
  refine AllReadyH.cons rfl (fun K hK => ?_) (AllReadyH.cons rfl (fun K hK => ?_) AllReadyH.nil)
  · go_simp
    obtain ⟨u', e_u⟩ : ∃ xw, xw = u.alloc (.cells #[.int .i64 1, .int .i64 2, .int .i64 65536, .int .i64 1000000000] 3) := ⟨_, rfl⟩
    have hb' : Below u.heap.size u u' := by rw [e_u]; exact below_nw _ _
    have rB2' : Row u' u.heap.size ([1, 2, 65536, 1000000000].map (Value.int .i64)) := by rw [e_u]; exact row_new _ _ _
    have l4 := r4.lt
    rw [← e_u]
    clear e_u
    obtain ⟨B2, e_B⟩ : ∃ xb, xb = u.heap.size := ⟨_, rfl⟩
    rw [← e_B] at rB2'
    rw [← e_B]
    have hbn1 : (n1 : Int) < 4 := by omega
    have hbn2 : (n2 : Int) < 4 := by omega
    have hbn3 : (n3 : Int) < 4 := by omega
    have rB1' := rB1.below hb'
    have ltB1 := rB1.lt
    have lB2' : w.heap.size < B2 := by omega
    have ne_B2B1 : B2 ≠ B1 := by omega
    have ne_B1B2 : B1 ≠ B2 := by omega
    clear e_B
    refine hK.out _ _ (⟨(rB1').nth (by simpa using hn2), trivial⟩) (fun _ => ?_)
    clear hK K
    try simp only [Act.put, List.getElem_toArray, List.getElem_cons_zero, List.getElem_cons_succ, List.setIfInBounds_toArray, List.set_cons_zero, List.set_cons_succ]
    have hHeld : (fun w' => w'.cell? ⟨B1, n2, none⟩ = some (.int .i64 (nth [1, 2, 256, 60000] n2)) ∧ w'.cell? ⟨B2, n3, none⟩ = some (.int .i64 (nth [1, 2, 65536, 1000000000] n3)) ∧ True) u' := ⟨(rB1').nth (by simpa using hn2), (rB2').nth (by simpa using hn3), trivial⟩
    refine wpAnyH_more (S' := fun w' => w'.cell? ⟨B1, n2, none⟩ = some (.int .i64 (nth [1, 2, 256, 60000] n2)) ∧ w'.cell? ⟨B2, n3, none⟩ = some (.int .i64 (nth [1, 2, 65536, 1000000000] n3)) ∧ True) (fun _ h => ⟨h.1, h.2.2⟩) _ _ _ _ ?_
    refine wpAnyH_take (i := 11) (v := .pointer (some ⟨B2, n3, none⟩)) rfl (by kernel_rfl) (by kernel_rfl) (by kernel_rfl) (fun _ _ _ h => absurd h (hQp _ _ _)) (Or.inl ⟨by rfl, fun w hw => by obtain ⟨z0, z1, z2⟩ := hw; go_simp⟩) hHeld ?_
    simp only [Act.put, List.getElem_toArray, List.getElem_cons_zero, List.getElem_cons_succ, List.setIfInBounds_toArray, List.set_cons_zero, List.set_cons_succ]
    refine wpAnyH_take (i := 12) (v := .int .i64 (nth [1, 2, 65536, 1000000000] n3)) rfl (by kernel_rfl) (by kernel_rfl) (by kernel_rfl) (fun _ _ _ h => absurd h (hQp _ _ _)) (Or.inl ⟨by rfl, fun w hw => by obtain ⟨z0, z1, z2⟩ := hw; go_simp⟩) hHeld ?_
    simp only [Act.put, List.getElem_toArray, List.getElem_cons_zero, List.getElem_cons_succ, List.setIfInBounds_toArray, List.set_cons_zero, List.set_cons_succ]
    refine wpAnyH_take (i := 13) (v := .agg #[.int .i64 (1 + (n1 : Int)), .int .i64 (nth [1, 2, 256, 60000] n2), .int .i64 (nth [1, 2, 65536, 1000000000] n3), .string ⟨#[]⟩]) rfl (by kernel_rfl) (by kernel_rfl) (by kernel_rfl) (fun _ _ _ h => absurd h (hQp _ _ _)) (Or.inl ⟨by rfl, fun w hw => by obtain ⟨z0, z1, z2⟩ := hw; go_simp⟩) hHeld ?_
    simp only [Act.put, List.getElem_toArray, List.getElem_cons_zero, List.getElem_cons_succ, List.setIfInBounds_toArray, List.set_cons_zero, List.set_cons_succ]
    exact pgS_2 hp p0 hN hNg hQ hQp u' (n1) (n2) (n3) (B1) (B2) (rd.below hb') (grown_trans gr (grown_of_below (some R) hb')) (r4.below hb') (hn1) (hn2) (hn3) (rB1') (lB1) (rB2') (lB2') (ne_B1B2) hHeld
  · go_simp
    obtain ⟨u', e_u⟩ : ∃ xw, xw = u.alloc (.cells #[.int .i64 0, .int .i64 0, .int .i64 0, .string ⟨#[]⟩] 23) := ⟨_, rfl⟩
    have hb' : Below u.heap.size u u' := by rw [e_u]; exact below_nw _ _
    have rX' : Row u' u.heap.size [.int .i64 0, .int .i64 0, .int .i64 0, .string ⟨#[]⟩] := by rw [e_u]; exact row_new _ _ _
    have l4 := r4.lt
    rw [← e_u]
    clear e_u
    obtain ⟨X, e_B⟩ : ∃ xb, xb = u.heap.size := ⟨_, rfl⟩
    rw [← e_B] at rX'
    rw [← e_B]
    have hbn1 : (n1 : Int) < 4 := by omega
    have hbn2 : (n2 : Int) < 4 := by omega
    have hbn3 : (n3 : Int) < 4 := by omega
    have rB1' := rB1.below hb'
    have ltB1 := rB1.lt
    have lX' : w.heap.size < X := by omega
    have ne_XB1 : X ≠ B1 := by omega
    have ne_B1X : B1 ≠ X := by omega
    clear e_B
    refine hK.out _ _ (⟨(rB1').nth (by simpa using hn2), trivial⟩) (fun _ => ?_)
    clear hK K
    try simp only [Act.put, List.getElem_toArray, List.getElem_cons_zero, List.getElem_cons_succ, List.setIfInBounds_toArray, List.set_cons_zero, List.set_cons_succ]
    have hHeld : (fun w' => w'.cell? ⟨B1, n2, none⟩ = some (.int .i64 (nth [1, 2, 256, 60000] n2)) ∧ True) u' := ⟨(rB1').nth (by simpa using hn2), trivial⟩
    exact pgS_5 hp p0 hN hNg hQ hQp u' (n1) (n2) (n3) (B1) (X) (rd.below hb') (grown_trans gr (grown_of_below (some R) hb')) (r4.below hb') (hn1) (hn2) (hn3) (rB1') (lB1) (rX') (lX') (ne_B1X) hHeld
set_option maxHeartbeats 4000000 in
theorem pgS_7 {R : Nat} {a : Option Addr} {n c : Nat} {p : Int} {wd : Nat} {w : World} (hp : p < 99998000) (p0 : 0 ≤ p) (hN : R < w.heap.size) (hNg : ∀ g o, a = some ⟨g, o, none⟩ → 0 < n → g < w.heap.size) {Q0 : Exit → Act → World → Prop} (hQ : ∀ (act : Act) (w' : World), (∃ (d6 d7 d8 d9 d10 d11 d12 d13 d14 d15 d16 d17 d18 d19 : Value) (X : Nat) (k l m : Int), act = { tmps := #[.pointer (some ⟨R, 0, none⟩), .int .i64 (wd : Int), undef, undef, .pointer (some ⟨w.heap.size, 0, none⟩), .pointer (some ⟨X, 0, none⟩), d6, d7, d8, d9, d10, d11, d12, d13, d14, d15, d16, d17, d18, d19, undef, undef, undef, undef, undef, undef, undef, undef, undef, undef, undef, undef, undef, undef, undef, undef, undef], defers := [] } ∧ Row w' X [.int .i64 k, .int .i64 l, .int .i64 m, .string ⟨#[]⟩] ∧ Row w' w.heap.size [.int .i64 0, .int .i64 0, .int .i64 0, .string ⟨#[]⟩] ∧ Rdr w' R a n c (p + 3) ∧ w.heap.size < X ∧ w.grownBy w' (some R)) → Q0 .normal act w') (hQp : ∀ c a w, ¬ Q0 (.panic c) a w) (u : World) (n1 : Nat) (n2 : Nat) (B1 : Nat) (X : Nat) (rd : Rdr u R a n c (p + 2)) (gr : w.grownBy u (some R)) (r4 : Row u w.heap.size [.int .i64 0, .int .i64 0, .int .i64 0, .string ⟨#[]⟩]) (hn1 : n1 < 4) (hn2 : n2 < 4) (rB1 : Row u B1 ([1, 2, 256, 60000].map (Value.int .i64))) (lB1 : w.heap.size < B1) (rX : Row u X [.int .i64 0, .int .i64 0, .int .i64 0, .string ⟨#[]⟩]) (lX : w.heap.size < X) (neB1X : B1 ≠ X) (hHeld : (fun w' => w'.cell? ⟨B1, n2, none⟩ = some (.int .i64 (nth [1, 2, 256, 60000] n2)) ∧ True) u) : wpAnyH Tryd.prog .any pgSOps Q0 (fun w' => w'.cell? ⟨B1, n2, none⟩ = some (.int .i64 (nth [1, 2, 256, 60000] n2)) ∧ True) 6 #[true, true, true, true, true, true, true, true, false, true, false, false, false, false, true, false] { tmps := #[.pointer (some ⟨R, 0, none⟩), .int .i64 (wd : Int), undef, undef, .pointer (some ⟨w.heap.size, 0, none⟩), .pointer (some ⟨X, 0, none⟩), .pointer (some ⟨R, 0, none⟩), .int .i64 (n1 : Int), .int .i64 (1 + (n1 : Int)), .slice (some ⟨B1, 0, none⟩) 4 4, .pointer (some ⟨R, 0, none⟩), .int .i64 (n2 : Int), .pointer (some ⟨B1, n2, none⟩), .int .i64 (nth [1, 2, 256, 60000] n2), undef, .pointer (some ⟨R, 0, none⟩), undef, undef, undef, undef, undef, undef, undef, undef, undef, undef, undef, undef, undef, undef, undef, undef, undef, undef, undef, undef, undef], defers := [] } u := by
  unfold pgSOps
  refine wpAnyH_ready (rs := [8, 10]) (by kernel_rfl) (by simp) ?_
  refine AllReadyH.cons rfl (fun K hK => ?_) (AllReadyH.cons rfl (fun K hK => ?_) AllReadyH.nil)
  · go_simp
    obtain ⟨u', e_u⟩ : ∃ xw, xw = u.alloc (.cells #[.int .i64 1, .int .i64 2, .int .i64 65536, .int .i64 1000000000] 3) := ⟨_, rfl⟩
    have hb' : Below u.heap.size u u' := by rw [e_u]; exact below_nw _ _
    have rB2' : Row u' u.heap.size ([1, 2, 65536, 1000000000].map (Value.int .i64)) := by rw [e_u]; exact row_new _ _ _
    have l4 := r4.lt
    rw [← e_u]
    clear e_u
    obtain ⟨B2, e_B⟩ : ∃ xb, xb = u.heap.size := ⟨_, rfl⟩
    rw [← e_B] at rB2'
    rw [← e_B]
    have hbn1 : (n1 : Int) < 4 := by omega
    have hbn2 : (n2 : Int) < 4 := by omega
    have rB1' := rB1.below hb'
    have ltB1 := rB1.lt
    have rX' := rX.below hb'
    have ltX := rX.lt
    have lB2' : w.heap.size < B2 := by omega
    have ne_B2B1 : B2 ≠ B1 := by omega
    have ne_B1B2 : B1 ≠ B2 := by omega
    have ne_B2X : B2 ≠ X := by omega
    have ne_XB2 : X ≠ B2 := by omega
    clear e_B
    refine hK.out _ _ (⟨(rB1').nth (by simpa using hn2), trivial⟩) (fun _ => ?_)
    clear hK K
    try simp only [Act.put, List.getElem_toArray, List.getElem_cons_zero, List.getElem_cons_succ, List.setIfInBounds_toArray, List.set_cons_zero, List.set_cons_succ]
    have hHeld : (fun w' => w'.cell? ⟨B1, n2, none⟩ = some (.int .i64 (nth [1, 2, 256, 60000] n2)) ∧ True) u' := ⟨(rB1').nth (by simpa using hn2), trivial⟩
    exact pgS_3 hp p0 hN hNg hQ hQp u' (n1) (n2) (B1) (B2) (X) (rd.below hb') (grown_trans gr (grown_of_below (some R) hb')) (r4.below hb') (hn1) (hn2) (rB1') (lB1) (rB2') (lB2') (rX') (lX) (ne_B1B2) (neB1X) (ne_B2X) hHeld
  · refine step_call (by rfl) 21 #[.pointer (some ⟨R, 0, none⟩), .int .i64 4] (by go_simp) (pick_r R a n c (p + 2) 4 _ rd (by omega)) ?_
    rintro e u' ⟨⟨v', rfl, v0, v1⟩, rd', hg'⟩
    obtain ⟨n3, rfl⟩ : ∃ k : Nat, v' = (k : Int) := ⟨v'.toNat, by omega⟩
    have hn3 : n3 < 4 := by omega
    have hbn3 : (n3 : Int) < 4 := by omega
    clear v1
    have hw' : IntKind.i64.wrap (1 + (n3 : Int)) = 1 + (n3 : Int) := wrap_i64_id _ (by omega) (by omega)
    refine ⟨_, rfl, ?_⟩
    have rB1' := rB1.grown hg' (fun e => by injection e with e; omega)
    have rX' := rX.grown hg' (fun e => by injection e with e; omega)
    have r4' := r4.grown hg' (fun e => by injection e with e; omega)
    refine hK.out _ _ (⟨(rB1').nth (by simpa using hn2), trivial⟩) (fun _ => ?_)
    clear hK K
    try simp only [Act.put, List.getElem_toArray, List.getElem_cons_zero, List.getElem_cons_succ, List.setIfInBounds_toArray, List.set_cons_zero, List.set_cons_succ]
    have hHeld : (fun w' => w'.cell? ⟨B1, n2, none⟩ = some (.int .i64 (nth [1, 2, 256, 60000] n2)) ∧ True) u' := ⟨(rB1').nth (by simpa using hn2), trivial⟩
    exact pgS_5 hp p0 hN hNg hQ hQp u' (n1) (n2) (n3) (B1) (X) (by have e : p + 3 = p + 2 + 1 := (by omega); rw [e]; exact rd') (grown_trans gr hg') (r4') (hn1) (hn2) (hn3) (rB1') (lB1) (rX') (lX) (neB1X) hHeld
set_option maxHeartbeats 4000000 in
theorem pgS_8 {R : Nat} {a : Option Addr} {n c : Nat} {p : Int} {wd : Nat} {w : World} (hp : p < 99998000) (p0 : 0 ≤ p) (hN : R < w.heap.size) (hNg : ∀ g o, a = some ⟨g, o, none⟩ → 0 < n → g < w.heap.size) {Q0 : Exit → Act → World → Prop} (hQ : ∀ (act : Act) (w' : World), (∃ (d6 d7 d8 d9 d10 d11 d12 d13 d14 d15 d16 d17 d18 d19 : Value) (X : Nat) (k l m : Int), act = { tmps := #[.pointer (some ⟨R, 0, none⟩), .int .i64 (wd : Int), undef, undef, .pointer (some ⟨w.heap.size, 0, none⟩), .pointer (some ⟨X, 0, none⟩), d6, d7, d8, d9, d10, d11, d12, d13, d14, d15, d16, d17, d18, d19, undef, undef, undef, undef, undef, undef, undef, undef, undef, undef, undef, undef, undef, undef, undef, undef, undef], defers := [] } ∧ Row w' X [.int .i64 k, .int .i64 l, .int .i64 m, .string ⟨#[]⟩] ∧ Row w' w.heap.size [.int .i64 0, .int .i64 0, .int .i64 0, .string ⟨#[]⟩] ∧ Rdr w' R a n c (p + 3) ∧ w.heap.size < X ∧ w.grownBy w' (some R)) → Q0 .normal act w') (hQp : ∀ c a w, ¬ Q0 (.panic c) a w) (u : World) (n1 : Nat) (n2 : Nat) (B1 : Nat) (rd : Rdr u R a n c (p + 2)) (gr : w.grownBy u (some R)) (r4 : Row u w.heap.size [.int .i64 0, .int .i64 0, .int .i64 0, .string ⟨#[]⟩]) (hn1 : n1 < 4) (hn2 : n2 < 4) (rB1 : Row u B1 ([1, 2, 256, 60000].map (Value.int .i64))) (lB1 : w.heap.size < B1) (hHeld : (fun w' => w'.cell? ⟨B1, n2, none⟩ = some (.int .i64 (nth [1, 2, 256, 60000] n2)) ∧ True) u) : wpAnyH Tryd.prog .any pgSOps Q0 (fun w' => w'.cell? ⟨B1, n2, none⟩ = some (.int .i64 (nth [1, 2, 256, 60000] n2)) ∧ True) 7 #[true, true, true, true, true, true, true, true, false, true, false, false, false, false, false, false] { tmps := #[.pointer (some ⟨R, 0, none⟩), .int .i64 (wd : Int), undef, undef, .pointer (some ⟨w.heap.size, 0, none⟩), undef, .pointer (some ⟨R, 0, none⟩), .int .i64 (n1 : Int), .int .i64 (1 + (n1 : Int)), .slice (some ⟨B1, 0, none⟩) 4 4, .pointer (some ⟨R, 0, none⟩), .int .i64 (n2 : Int), .pointer (some ⟨B1, n2, none⟩), .int .i64 (nth [1, 2, 256, 60000] n2), undef, .pointer (some ⟨R, 0, none⟩), undef, undef, undef, undef, undef, undef, undef, undef, undef, undef, undef, undef, undef, undef, undef, undef, undef, undef, undef, undef, undef], defers := [] } u := by
  unfold pgSOps
  refine wpAnyH_ready (rs := [8, 10, 14]) (by kernel_rfl) (by simp) ?_
  refine AllReadyH.cons rfl (fun K hK => ?_) (AllReadyH.cons rfl (fun K hK => ?_) (AllReadyH.cons rfl (fun K hK => ?_) AllReadyH.nil))
  · go_simp
    obtain ⟨u', e_u⟩ : ∃ xw, xw = u.alloc (.cells #[.int .i64 1, .int .i64 2, .int .i64 65536, .int .i64 1000000000] 3) := ⟨_, rfl⟩
    have hb' : Below u.heap.size u u' := by rw [e_u]; exact below_nw _ _
    have rB2' : Row u' u.heap.size ([1, 2, 65536, 1000000000].map (Value.int .i64)) := by rw [e_u]; exact row_new _ _ _
    have l4 := r4.lt
    rw [← e_u]
    clear e_u
    obtain ⟨B2, e_B⟩ : ∃ xb, xb = u.heap.size := ⟨_, rfl⟩
    rw [← e_B] at rB2'
    rw [← e_B]
    have hbn1 : (n1 : Int) < 4 := by omega
    have hbn2 : (n2 : Int) < 4 := by omega
    have rB1' := rB1.below hb'
    have ltB1 := rB1.lt
    have lB2' : w.heap.size < B2 := by omega
    have ne_B2B1 : B2 ≠ B1 := by omega
    have ne_B1B2 : B1 ≠ B2 := by omega
    clear e_B
    refine hK.out _ _ (⟨(rB1').nth (by simpa using hn2), trivial⟩) (fun _ => ?_)
    clear hK K
    try simp only [Act.put, List.getElem_toArray, List.getElem_cons_zero, List.getElem_cons_succ, List.setIfInBounds_toArray, List.set_cons_zero, List.set_cons_succ]
    have hHeld : (fun w' => w'.cell? ⟨B1, n2, none⟩ = some (.int .i64 (nth [1, 2, 256, 60000] n2)) ∧ True) u' := ⟨(rB1').nth (by simpa using hn2), trivial⟩
    exact pgS_4 hp p0 hN hNg hQ hQp u' (n1) (n2) (B1) (B2) (rd.below hb') (grown_trans gr (grown_of_below (some R) hb')) (r4.below hb') (hn1) (hn2) (rB1') (lB1) (rB2') (lB2') (ne_B1B2) hHeld
  · refine step_call (by rfl) 21 #[.pointer (some ⟨R, 0, none⟩), .int .i64 4] (by go_simp) (pick_r R a n c (p + 2) 4 _ rd (by omega)) ?_
    rintro e u' ⟨⟨v', rfl, v0, v1⟩, rd', hg'⟩
    obtain ⟨n3, rfl⟩ : ∃ k : Nat, v' = (k : Int) := ⟨v'.toNat, by omega⟩
    have hn3 : n3 < 4 := by omega
    have hbn3 : (n3 : Int) < 4 := by omega
    clear v1
    have hw' : IntKind.i64.wrap (1 + (n3 : Int)) = 1 + (n3 : Int) := wrap_i64_id _ (by omega) (by omega)
    refine ⟨_, rfl, ?_⟩
    have rB1' := rB1.grown hg' (fun e => by injection e with e; omega)
    have r4' := r4.grown hg' (fun e => by injection e with e; omega)
    refine hK.out _ _ (⟨(rB1').nth (by simpa using hn2), trivial⟩) (fun _ => ?_)
    clear hK K
    try simp only [Act.put, List.getElem_toArray, List.getElem_cons_zero, List.getElem_cons_succ, List.setIfInBounds_toArray, List.set_cons_zero, List.set_cons_succ]
    have hHeld : (fun w' => w'.cell? ⟨B1, n2, none⟩ = some (.int .i64 (nth [1, 2, 256, 60000] n2)) ∧ True) u' := ⟨(rB1').nth (by simpa using hn2), trivial⟩
    exact pgS_6 hp p0 hN hNg hQ hQp u' (n1) (n2) (n3) (B1) (by have e : p + 3 = p + 2 + 1 := (by omega); rw [e]; exact rd') (grown_trans gr hg') (r4') (hn1) (hn2) (hn3) (rB1') (lB1) hHeld
  · go_simp
    obtain ⟨u', e_u⟩ : ∃ xw, xw = u.alloc (.cells #[.int .i64 0, .int .i64 0, .int .i64 0, .string ⟨#[]⟩] 23) := ⟨_, rfl⟩
    have hb' : Below u.heap.size u u' := by rw [e_u]; exact below_nw _ _
    have rX' : Row u' u.heap.size [.int .i64 0, .int .i64 0, .int .i64 0, .string ⟨#[]⟩] := by rw [e_u]; exact row_new _ _ _
    have l4 := r4.lt
    rw [← e_u]
    clear e_u
    obtain ⟨X, e_B⟩ : ∃ xb, xb = u.heap.size := ⟨_, rfl⟩
    rw [← e_B] at rX'
    rw [← e_B]
    have hbn1 : (n1 : Int) < 4 := by omega
    have hbn2 : (n2 : Int) < 4 := by omega
    have rB1' := rB1.below hb'
    have ltB1 := rB1.lt
    have lX' : w.heap.size < X := by omega
    have ne_XB1 : X ≠ B1 := by omega
    have ne_B1X : B1 ≠ X := by omega
    clear e_B
    refine hK.out _ _ (⟨(rB1').nth (by simpa using hn2), trivial⟩) (fun _ => ?_)
    clear hK K
    try simp only [Act.put, List.getElem_toArray, List.getElem_cons_zero, List.getElem_cons_succ, List.setIfInBounds_toArray, List.set_cons_zero, List.set_cons_succ]
    have hHeld : (fun w' => w'.cell? ⟨B1, n2, none⟩ = some (.int .i64 (nth [1, 2, 256, 60000] n2)) ∧ True) u' := ⟨(rB1').nth (by simpa using hn2), trivial⟩
    exact pgS_7 hp p0 hN hNg hQ hQp u' (n1) (n2) (B1) (X) (rd.below hb') (grown_trans gr (grown_of_below (some R) hb')) (r4.below hb') (hn1) (hn2) (rB1') (lB1) (rX') (lX') (ne_B1X) hHeld
set_option maxHeartbeats 4000000 in
theorem pgS_9 {R : Nat} {a : Option Addr} {n c : Nat} {p : Int} {wd : Nat} {w : World} (hp : p < 99998000) (p0 : 0 ≤ p) (hN : R < w.heap.size) (hNg : ∀ g o, a = some ⟨g, o, none⟩ → 0 < n → g < w.heap.size) {Q0 : Exit → Act → World → Prop} (hQ : ∀ (act : Act) (w' : World), (∃ (d6 d7 d8 d9 d10 d11 d12 d13 d14 d15 d16 d17 d18 d19 : Value) (X : Nat) (k l m : Int), act = { tmps := #[.pointer (some ⟨R, 0, none⟩), .int .i64 (wd : Int), undef, undef, .pointer (some ⟨w.heap.size, 0, none⟩), .pointer (some ⟨X, 0, none⟩), d6, d7, d8, d9, d10, d11, d12, d13, d14, d15, d16, d17, d18, d19, undef, undef, undef, undef, undef, undef, undef, undef, undef, undef, undef, undef, undef, undef, undef, undef, undef], defers := [] } ∧ Row w' X [.int .i64 k, .int .i64 l, .int .i64 m, .string ⟨#[]⟩] ∧ Row w' w.heap.size [.int .i64 0, .int .i64 0, .int .i64 0, .string ⟨#[]⟩] ∧ Rdr w' R a n c (p + 3) ∧ w.heap.size < X ∧ w.grownBy w' (some R)) → Q0 .normal act w') (hQp : ∀ c a w, ¬ Q0 (.panic c) a w) (u : World) (n1 : Nat) (B1 : Nat) (B2 : Nat) (X : Nat) (rd : Rdr u R a n c (p + 1)) (gr : w.grownBy u (some R)) (r4 : Row u w.heap.size [.int .i64 0, .int .i64 0, .int .i64 0, .string ⟨#[]⟩]) (hn1 : n1 < 4) (rB1 : Row u B1 ([1, 2, 256, 60000].map (Value.int .i64))) (lB1 : w.heap.size < B1) (rB2 : Row u B2 ([1, 2, 65536, 1000000000].map (Value.int .i64))) (lB2 : w.heap.size < B2) (rX : Row u X [.int .i64 0, .int .i64 0, .int .i64 0, .string ⟨#[]⟩]) (lX : w.heap.size < X) (neB1B2 : B1 ≠ B2) (neB1X : B1 ≠ X) (neB2X : B2 ≠ X) (hHeld : (fun w' => True) u) : wpAnyH Tryd.prog .any pgSOps Q0 (fun w' => True) 8 #[true, true, true, true, true, false, false, false, true, true, false, false, false, false, true, false] { tmps := #[.pointer (some ⟨R, 0, none⟩), .int .i64 (wd : Int), undef, undef, .pointer (some ⟨w.heap.size, 0, none⟩), .pointer (some ⟨X, 0, none⟩), .pointer (some ⟨R, 0, none⟩), .int .i64 (n1 : Int), .int .i64 (1 + (n1 : Int)), .slice (some ⟨B1, 0, none⟩) 4 4, .pointer (some ⟨R, 0, none⟩), undef, undef, undef, .slice (some ⟨B2, 0, none⟩) 4 4, .pointer (some ⟨R, 0, none⟩), undef, undef, undef, undef, undef, undef, undef, undef, undef, undef, undef, undef, undef, undef, undef, undef, undef, undef, undef, undef, undef], defers := [] } u := by
  unfold pgSOps
  refine wpAnyH_ready (rs := [5]) (by kernel_rfl) (by simp) ?_
  refine AllReadyH.cons rfl (fun K hK => ?_) AllReadyH.nil
  · refine step_call (by rfl) 21 #[.pointer (some ⟨R, 0, none⟩), .int .i64 4] (by go_simp) (pick_r R a n c (p + 1) 4 _ rd (by omega)) ?_
    rintro e u' ⟨⟨v', rfl, v0, v1⟩, rd', hg'⟩
    obtain ⟨n2, rfl⟩ : ∃ k : Nat, v' = (k : Int) := ⟨v'.toNat, by omega⟩
    have hn2 : n2 < 4 := by omega
    have hbn2 : (n2 : Int) < 4 := by omega
    clear v1
    have hw' : IntKind.i64.wrap (1 + (n2 : Int)) = 1 + (n2 : Int) := wrap_i64_id _ (by omega) (by omega)
    refine ⟨_, rfl, ?_⟩
    have rB1' := rB1.grown hg' (fun e => by injection e with e; omega)
    have rB2' := rB2.grown hg' (fun e => by injection e with e; omega)
    have rX' := rX.grown hg' (fun e => by injection e with e; omega)
    have r4' := r4.grown hg' (fun e => by injection e with e; omega)
    refine hK.out _ _ (trivial) (fun _ => ?_)
    clear hK K
    try simp only [Act.put, List.getElem_toArray, List.getElem_cons_zero, List.getElem_cons_succ, List.setIfInBounds_toArray, List.set_cons_zero, List.set_cons_succ]
    have hHeld : (fun w' => w'.cell? ⟨B1, n2, none⟩ = some (.int .i64 (nth [1, 2, 256, 60000] n2)) ∧ True) u' := ⟨(rB1').nth (by simpa using hn2), trivial⟩
    refine wpAnyH_more (S' := fun w' => w'.cell? ⟨B1, n2, none⟩ = some (.int .i64 (nth [1, 2, 256, 60000] n2)) ∧ True) (fun _ h => h.2) _ _ _ _ ?_
    refine wpAnyH_take (i := 6) (v := .pointer (some ⟨B1, n2, none⟩)) rfl (by kernel_rfl) (by kernel_rfl) (by kernel_rfl) (fun _ _ _ h => absurd h (hQp _ _ _)) (Or.inl ⟨by rfl, fun w hw => by obtain ⟨z0, z1⟩ := hw; go_simp⟩) hHeld ?_
    simp only [Act.put, List.getElem_toArray, List.getElem_cons_zero, List.getElem_cons_succ, List.setIfInBounds_toArray, List.set_cons_zero, List.set_cons_succ]
    refine wpAnyH_take (i := 7) (v := .int .i64 (nth [1, 2, 256, 60000] n2)) rfl (by kernel_rfl) (by kernel_rfl) (by kernel_rfl) (fun _ _ _ h => absurd h (hQp _ _ _)) (Or.inl ⟨by rfl, fun w hw => by obtain ⟨z0, z1⟩ := hw; go_simp⟩) hHeld ?_
    simp only [Act.put, List.getElem_toArray, List.getElem_cons_zero, List.getElem_cons_succ, List.setIfInBounds_toArray, List.set_cons_zero, List.set_cons_succ]
    exact pgS_3 hp p0 hN hNg hQ hQp u' (n1) (n2) (B1) (B2) (X) (by have e : p + 2 = p + 1 + 1 := (by omega); rw [e]; exact rd') (grown_trans gr hg') (r4') (hn1) (hn2) (rB1') (lB1) (rB2') (lB2) (rX') (lX) (neB1B2) (neB1X) (neB2X) hHeld
set_option maxHeartbeats 4000000 in
theorem pgS_10 {R : Nat} {a : Option Addr} {n c : Nat} {p : Int} {wd : Nat} {w : World} (hp : p < 99998000) (p0 : 0 ≤ p) (hN : R < w.heap.size) (hNg : ∀ g o, a = some ⟨g, o, none⟩ → 0 < n → g < w.heap.size) {Q0 : Exit → Act → World → Prop} (hQ : ∀ (act : Act) (w' : World), (∃ (d6 d7 d8 d9 d10 d11 d12 d13 d14 d15 d16 d17 d18 d19 : Value) (X : Nat) (k l m : Int), act = { tmps := #[.pointer (some ⟨R, 0, none⟩), .int .i64 (wd : Int), undef, undef, .pointer (some ⟨w.heap.size, 0, none⟩), .pointer (some ⟨X, 0, none⟩), d6, d7, d8, d9, d10, d11, d12, d13, d14, d15, d16, d17, d18, d19, undef, undef, undef, undef, undef, undef, undef, undef, undef, undef, undef, undef, undef, undef, undef, undef, undef], defers := [] } ∧ Row w' X [.int .i64 k, .int .i64 l, .int .i64 m, .string ⟨#[]⟩] ∧ Row w' w.heap.size [.int .i64 0, .int .i64 0, .int .i64 0, .string ⟨#[]⟩] ∧ Rdr w' R a n c (p + 3) ∧ w.heap.size < X ∧ w.grownBy w' (some R)) → Q0 .normal act w') (hQp : ∀ c a w, ¬ Q0 (.panic c) a w) (u : World) (n1 : Nat) (B1 : Nat) (B2 : Nat) (rd : Rdr u R a n c (p + 1)) (gr : w.grownBy u (some R)) (r4 : Row u w.heap.size [.int .i64 0, .int .i64 0, .int .i64 0, .string ⟨#[]⟩]) (hn1 : n1 < 4) (rB1 : Row u B1 ([1, 2, 256, 60000].map (Value.int .i64))) (lB1 : w.heap.size < B1) (rB2 : Row u B2 ([1, 2, 65536, 1000000000].map (Value.int .i64))) (lB2 : w.heap.size < B2) (neB1B2 : B1 ≠ B2) (hHeld : (fun w' => True) u) : wpAnyH Tryd.prog .any pgSOps Q0 (fun w' => True) 9 #[true, true, true, true, true, false, false, false, true, true, false, false, false, false, false, false] { tmps := #[.pointer (some ⟨R, 0, none⟩), .int .i64 (wd : Int), undef, undef, .pointer (some ⟨w.heap.size, 0, none⟩), undef, .pointer (some ⟨R, 0, none⟩), .int .i64 (n1 : Int), .int .i64 (1 + (n1 : Int)), .slice (some ⟨B1, 0, none⟩) 4 4, .pointer (some ⟨R, 0, none⟩), undef, undef, undef, .slice (some ⟨B2, 0, none⟩) 4 4, .pointer (some ⟨R, 0, none⟩), undef, undef, undef, undef, undef, undef, undef, undef, undef, undef, undef, undef, undef, undef, undef, undef, undef, undef, undef, undef, undef], defers := [] } u := by
  unfold pgSOps
  refine wpAnyH_ready (rs := [5, 14]) (by kernel_rfl) (by simp) ?_
  refine AllReadyH.cons rfl (fun K hK => ?_) (AllReadyH.cons rfl (fun K hK => ?_) AllReadyH.nil)
  · refine step_call (by rfl) 21 #[.pointer (some ⟨R, 0, none⟩), .int .i64 4] (by go_simp) (pick_r R a n c (p + 1) 4 _ rd (by omega)) ?_
    rintro e u' ⟨⟨v', rfl, v0, v1⟩, rd', hg'⟩
    obtain ⟨n2, rfl⟩ : ∃ k : Nat, v' = (k : Int) := ⟨v'.toNat, by omega⟩
    have hn2 : n2 < 4 := by omega
    have hbn2 : (n2 : Int) < 4 := by omega
    clear v1
    have hw' : IntKind.i64.wrap (1 + (n2 : Int)) = 1 + (n2 : Int) := wrap_i64_id _ (by omega) (by omega)
    refine ⟨_, rfl, ?_⟩
    have rB1' := rB1.grown hg' (fun e => by injection e with e; omega)
    have rB2' := rB2.grown hg' (fun e => by injection e with e; omega)
    have r4' := r4.grown hg' (fun e => by injection e with e; omega)
    refine hK.out _ _ (trivial) (fun _ => ?_)
    clear hK K
    try simp only [Act.put, List.getElem_toArray, List.getElem_cons_zero, List.getElem_cons_succ, List.setIfInBounds_toArray, List.set_cons_zero, List.set_cons_succ]
    have hHeld : (fun w' => w'.cell? ⟨B1, n2, none⟩ = some (.int .i64 (nth [1, 2, 256, 60000] n2)) ∧ True) u' := ⟨(rB1').nth (by simpa using hn2), trivial⟩
    refine wpAnyH_more (S' := fun w' => w'.cell? ⟨B1, n2, none⟩ = some (.int .i64 (nth [1, 2, 256, 60000] n2)) ∧ True) (fun _ h => h.2) _ _ _ _ ?_
    refine wpAnyH_take (i := 6) (v := .pointer (some ⟨B1, n2, none⟩)) rfl (by kernel_rfl) (by kernel_rfl) (by kernel_rfl) (fun _ _ _ h => absurd h (hQp _ _ _)) (Or.inl ⟨by rfl, fun w hw => by obtain ⟨z0, z1⟩ := hw; go_simp⟩) hHeld ?_
    simp only [Act.put, List.getElem_toArray, List.getElem_cons_zero, List.getElem_cons_succ, List.setIfInBounds_toArray, List.set_cons_zero, List.set_cons_succ]
    refine wpAnyH_take (i := 7) (v := .int .i64 (nth [1, 2, 256, 60000] n2)) rfl (by kernel_rfl) (by kernel_rfl) (by kernel_rfl) (fun _ _ _ h => absurd h (hQp _ _ _)) (Or.inl ⟨by rfl, fun w hw => by obtain ⟨z0, z1⟩ := hw; go_simp⟩) hHeld ?_
    simp only [Act.put, List.getElem_toArray, List.getElem_cons_zero, List.getElem_cons_succ, List.setIfInBounds_toArray, List.set_cons_zero, List.set_cons_succ]
    exact pgS_4 hp p0 hN hNg hQ hQp u' (n1) (n2) (B1) (B2) (by have e : p + 2 = p + 1 + 1 := (by omega); rw [e]; exact rd') (grown_trans gr hg') (r4') (hn1) (hn2) (rB1') (lB1) (rB2') (lB2) (neB1B2) hHeld
  · go_simp
    obtain ⟨u', e_u⟩ : ∃ xw, xw = u.alloc (.cells #[.int .i64 0, .int .i64 0, .int .i64 0, .string ⟨#[]⟩] 23) := ⟨_, rfl⟩
    have hb' : Below u.heap.size u u' := by rw [e_u]; exact below_nw _ _
    have rX' : Row u' u.heap.size [.int .i64 0, .int .i64 0, .int .i64 0, .string ⟨#[]⟩] := by rw [e_u]; exact row_new _ _ _
    have l4 := r4.lt
    rw [← e_u]
    clear e_u
    obtain ⟨X, e_B⟩ : ∃ xb, xb = u.heap.size := ⟨_, rfl⟩
    rw [← e_B] at rX'
    rw [← e_B]
    have hbn1 : (n1 : Int) < 4 := by omega
    have rB1' := rB1.below hb'
    have ltB1 := rB1.lt
    have rB2' := rB2.below hb'
    have ltB2 := rB2.lt
    have lX' : w.heap.size < X := by omega
    have ne_XB1 : X ≠ B1 := by omega
    have ne_B1X : B1 ≠ X := by omega
    have ne_XB2 : X ≠ B2 := by omega
    have ne_B2X : B2 ≠ X := by omega
    clear e_B
    refine hK.out _ _ (trivial) (fun _ => ?_)
    clear hK K
    try simp only [Act.put, List.getElem_toArray, List.getElem_cons_zero, List.getElem_cons_succ, List.setIfInBounds_toArray, List.set_cons_zero, List.set_cons_succ]
    have hHeld : (fun w' => True) u' := trivial
    exact pgS_9 hp p0 hN hNg hQ hQp u' (n1) (B1) (B2) (X) (rd.below hb') (grown_trans gr (grown_of_below (some R) hb')) (r4.below hb') (hn1) (rB1') (lB1) (rB2') (lB2) (rX') (lX') (neB1B2) (ne_B1X) (ne_B2X) hHeld
set_option maxHeartbeats 4000000 in
theorem pgS_11 {R : Nat} {a : Option Addr} {n c : Nat} {p : Int} {wd : Nat} {w : World} (hp : p < 99998000) (p0 : 0 ≤ p) (hN : R < w.heap.size) (hNg : ∀ g o, a = some ⟨g, o, none⟩ → 0 < n → g < w.heap.size) {Q0 : Exit → Act → World → Prop} (hQ : ∀ (act : Act) (w' : World), (∃ (d6 d7 d8 d9 d10 d11 d12 d13 d14 d15 d16 d17 d18 d19 : Value) (X : Nat) (k l m : Int), act = { tmps := #[.pointer (some ⟨R, 0, none⟩), .int .i64 (wd : Int), undef, undef, .pointer (some ⟨w.heap.size, 0, none⟩), .pointer (some ⟨X, 0, none⟩), d6, d7, d8, d9, d10, d11, d12, d13, d14, d15, d16, d17, d18, d19, undef, undef, undef, undef, undef, undef, undef, undef, undef, undef, undef, undef, undef, undef, undef, undef, undef], defers := [] } ∧ Row w' X [.int .i64 k, .int .i64 l, .int .i64 m, .string ⟨#[]⟩] ∧ Row w' w.heap.size [.int .i64 0, .int .i64 0, .int .i64 0, .string ⟨#[]⟩] ∧ Rdr w' R a n c (p + 3) ∧ w.heap.size < X ∧ w.grownBy w' (some R)) → Q0 .normal act w') (hQp : ∀ c a w, ¬ Q0 (.panic c) a w) (u : World) (n1 : Nat) (B1 : Nat) (X : Nat) (rd : Rdr u R a n c (p + 1)) (gr : w.grownBy u (some R)) (r4 : Row u w.heap.size [.int .i64 0, .int .i64 0, .int .i64 0, .string ⟨#[]⟩]) (hn1 : n1 < 4) (rB1 : Row u B1 ([1, 2, 256, 60000].map (Value.int .i64))) (lB1 : w.heap.size < B1) (rX : Row u X [.int .i64 0, .int .i64 0, .int .i64 0, .string ⟨#[]⟩]) (lX : w.heap.size < X) (neB1X : B1 ≠ X) (hHeld : (fun w' => True) u) : wpAnyH Tryd.prog .any pgSOps Q0 (fun w' => True) 9 #[true, true, true, true, true, false, false, false, false, true, false, false, false, false, true, false] { tmps := #[.pointer (some ⟨R, 0, none⟩), .int .i64 (wd : Int), undef, undef, .pointer (some ⟨w.heap.size, 0, none⟩), .pointer (some ⟨X, 0, none⟩), .pointer (some ⟨R, 0, none⟩), .int .i64 (n1 : Int), .int .i64 (1 + (n1 : Int)), .slice (some ⟨B1, 0, none⟩) 4 4, .pointer (some ⟨R, 0, none⟩), undef, undef, undef, undef, .pointer (some ⟨R, 0, none⟩), undef, undef, undef, undef, undef, undef, undef, undef, undef, undef, undef, undef, undef, undef, undef, undef, undef, undef, undef, undef, undef], defers := [] } u := by
  unfold pgSOps
  refine wpAnyH_ready (rs := [5, 8]) (by kernel_rfl) (by simp) ?_
  refine AllReadyH.cons rfl (fun K hK => ?_) (AllReadyH.cons rfl (fun K hK => ?_) AllReadyH.nil)
  · refine step_call (by rfl) 21 #[.pointer (some ⟨R, 0, none⟩), .int .i64 4] (by go_simp) (pick_r R a n c (p + 1) 4 _ rd (by omega)) ?_
    rintro e u' ⟨⟨v', rfl, v0, v1⟩, rd', hg'⟩
    obtain ⟨n2, rfl⟩ : ∃ k : Nat, v' = (k : Int) := ⟨v'.toNat, by omega⟩
    have hn2 : n2 < 4 := by omega
    have hbn2 : (n2 : Int) < 4 := by omega
    clear v1
    have hw' : IntKind.i64.wrap (1 + (n2 : Int)) = 1 + (n2 : Int) := wrap_i64_id _ (by omega) (by omega)
    refine ⟨_, rfl, ?_⟩
    have rB1' := rB1.grown hg' (fun e => by injection e with e; omega)
    have rX' := rX.grown hg' (fun e => by injection e with e; omega)
    have r4' := r4.grown hg' (fun e => by injection e with e; omega)
    refine hK.out _ _ (trivial) (fun _ => ?_)
    clear hK K
    try simp only [Act.put, List.getElem_toArray, List.getElem_cons_zero, List.getElem_cons_succ, List.setIfInBounds_toArray, List.set_cons_zero, List.set_cons_succ]
    have hHeld : (fun w' => w'.cell? ⟨B1, n2, none⟩ = some (.int .i64 (nth [1, 2, 256, 60000] n2)) ∧ True) u' := ⟨(rB1').nth (by simpa using hn2), trivial⟩
    refine wpAnyH_more (S' := fun w' => w'.cell? ⟨B1, n2, none⟩ = some (.int .i64 (nth [1, 2, 256, 60000] n2)) ∧ True) (fun _ h => h.2) _ _ _ _ ?_
    refine wpAnyH_take (i := 6) (v := .pointer (some ⟨B1, n2, none⟩)) rfl (by kernel_rfl) (by kernel_rfl) (by kernel_rfl) (fun _ _ _ h => absurd h (hQp _ _ _)) (Or.inl ⟨by rfl, fun w hw => by obtain ⟨z0, z1⟩ := hw; go_simp⟩) hHeld ?_
    simp only [Act.put, List.getElem_toArray, List.getElem_cons_zero, List.getElem_cons_succ, List.setIfInBounds_toArray, List.set_cons_zero, List.set_cons_succ]
    refine wpAnyH_take (i := 7) (v := .int .i64 (nth [1, 2, 256, 60000] n2)) rfl (by kernel_rfl) (by kernel_rfl) (by kernel_rfl) (fun _ _ _ h => absurd h (hQp _ _ _)) (Or.inl ⟨by rfl, fun w hw => by obtain ⟨z0, z1⟩ := hw; go_simp⟩) hHeld ?_
    simp only [Act.put, List.getElem_toArray, List.getElem_cons_zero, List.getElem_cons_succ, List.setIfInBounds_toArray, List.set_cons_zero, List.set_cons_succ]
    exact pgS_7 hp p0 hN hNg hQ hQp u' (n1) (n2) (B1) (X) (by have e : p + 2 = p + 1 + 1 := (by omega); rw [e]; exact rd') (grown_trans gr hg') (r4') (hn1) (hn2) (rB1') (lB1) (rX') (lX) (neB1X) hHeld
  · go_simp
    obtain ⟨u', e_u⟩ : ∃ xw, xw = u.alloc (.cells #[.int .i64 1, .int .i64 2, .int .i64 65536, .int .i64 1000000000] 3) := ⟨_, rfl⟩
    have hb' : Below u.heap.size u u' := by rw [e_u]; exact below_nw _ _
    have rB2' : Row u' u.heap.size ([1, 2, 65536, 1000000000].map (Value.int .i64)) := by rw [e_u]; exact row_new _ _ _
    have l4 := r4.lt
    rw [← e_u]
    clear e_u
    obtain ⟨B2, e_B⟩ : ∃ xb, xb = u.heap.size := ⟨_, rfl⟩
    rw [← e_B] at rB2'
    rw [← e_B]
    have hbn1 : (n1 : Int) < 4 := by omega
    have rB1' := rB1.below hb'
    have ltB1 := rB1.lt
    have rX' := rX.below hb'
    have ltX := rX.lt
    have lB2' : w.heap.size < B2 := by omega
    have ne_B2B1 : B2 ≠ B1 := by omega
    have ne_B1B2 : B1 ≠ B2 := by omega
    have ne_B2X : B2 ≠ X := by omega
    have ne_XB2 : X ≠ B2 := by omega
    clear e_B
    refine hK.out _ _ (trivial) (fun _ => ?_)
    clear hK K
    try simp only [Act.put, List.getElem_toArray, List.getElem_cons_zero, List.getElem_cons_succ, List.setIfInBounds_toArray, List.set_cons_zero, List.set_cons_succ]
    have hHeld : (fun w' => True) u' := trivial
    exact pgS_9 hp p0 hN hNg hQ hQp u' (n1) (B1) (B2) (X) (rd.below hb') (grown_trans gr (grown_of_below (some R) hb')) (r4.below hb') (hn1) (rB1') (lB1) (rB2') (lB2') (rX') (lX) (ne_B1B2) (neB1X) (ne_B2X) hHeld
set_option maxHeartbeats 4000000 in
theorem pgS_12 {R : Nat} {a : Option Addr} {n c : Nat} {p : Int} {wd : Nat} {w : World} (hp : p < 99998000) (p0 : 0 ≤ p) (hN : R < w.heap.size) (hNg : ∀ g o, a = some ⟨g, o, none⟩ → 0 < n → g < w.heap.size) {Q0 : Exit → Act → World → Prop} (hQ : ∀ (act : Act) (w' : World), (∃ (d6 d7 d8 d9 d10 d11 d12 d13 d14 d15 d16 d17 d18 d19 : Value) (X : Nat) (k l m : Int), act = { tmps := #[.pointer (some ⟨R, 0, none⟩), .int .i64 (wd : Int), undef, undef, .pointer (some ⟨w.heap.size, 0, none⟩), .pointer (some ⟨X, 0, none⟩), d6, d7, d8, d9, d10, d11, d12, d13, d14, d15, d16, d17, d18, d19, undef, undef, undef, undef, undef, undef, undef, undef, undef, undef, undef, undef, undef, undef, undef, undef, undef], defers := [] } ∧ Row w' X [.int .i64 k, .int .i64 l, .int .i64 m, .string ⟨#[]⟩] ∧ Row w' w.heap.size [.int .i64 0, .int .i64 0, .int .i64 0, .string ⟨#[]⟩] ∧ Rdr w' R a n c (p + 3) ∧ w.heap.size < X ∧ w.grownBy w' (some R)) → Q0 .normal act w') (hQp : ∀ c a w, ¬ Q0 (.panic c) a w) (u : World) (n1 : Nat) (B1 : Nat) (rd : Rdr u R a n c (p + 1)) (gr : w.grownBy u (some R)) (r4 : Row u w.heap.size [.int .i64 0, .int .i64 0, .int .i64 0, .string ⟨#[]⟩]) (hn1 : n1 < 4) (rB1 : Row u B1 ([1, 2, 256, 60000].map (Value.int .i64))) (lB1 : w.heap.size < B1) (hHeld : (fun w' => True) u) : wpAnyH Tryd.prog .any pgSOps Q0 (fun w' => True) 10 #[true, true, true, true, true, false, false, false, false, true, false, false, false, false, false, false] { tmps := #[.pointer (some ⟨R, 0, none⟩), .int .i64 (wd : Int), undef, undef, .pointer (some ⟨w.heap.size, 0, none⟩), undef, .pointer (some ⟨R, 0, none⟩), .int .i64 (n1 : Int), .int .i64 (1 + (n1 : Int)), .slice (some ⟨B1, 0, none⟩) 4 4, .pointer (some ⟨R, 0, none⟩), undef, undef, undef, undef, .pointer (some ⟨R, 0, none⟩), undef, undef, undef, undef, undef, undef, undef, undef, undef, undef, undef, undef, undef, undef, undef, undef, undef, undef, undef, undef, undef], defers := [] } u := by
  unfold pgSOps
  refine wpAnyH_ready (rs := [5, 8, 14]) (by kernel_rfl) (by simp) ?_
  refine AllReadyH.cons rfl (fun K hK => ?_) (AllReadyH.cons rfl (fun K hK => ?_) (AllReadyH.cons rfl (fun K hK => ?_) AllReadyH.nil))
  · refine step_call (by rfl) 21 #[.pointer (some ⟨R, 0, none⟩), .int .i64 4] (by go_simp) (pick_r R a n c (p + 1) 4 _ rd (by omega)) ?_
    rintro e u' ⟨⟨v', rfl, v0, v1⟩, rd', hg'⟩
    obtain ⟨n2, rfl⟩ : ∃ k : Nat, v' = (k : Int) := ⟨v'.toNat, by omega⟩
    have hn2 : n2 < 4 := by omega
    have hbn2 : (n2 : Int) < 4 := by omega
    clear v1
    have hw' : IntKind.i64.wrap (1 + (n2 : Int)) = 1 + (n2 : Int) := wrap_i64_id _ (by omega) (by omega)
    refine ⟨_, rfl, ?_⟩
    have rB1' := rB1.grown hg' (fun e => by injection e with e; omega)
    have r4' := r4.grown hg' (fun e => by injection e with e; omega)
    refine hK.out _ _ (trivial) (fun _ => ?_)
    clear hK K
    try simp only [Act.put, List.getElem_toArray, List.getElem_cons_zero, List.getElem_cons_succ, List.setIfInBounds_toArray, List.set_cons_zero, List.set_cons_succ]
    have hHeld : (fun w' => w'.cell? ⟨B1, n2, none⟩ = some (.int .i64 (nth [1, 2, 256, 60000] n2)) ∧ True) u' := ⟨(rB1').nth (by simpa using hn2), trivial⟩
    refine wpAnyH_more (S' := fun w' => w'.cell? ⟨B1, n2, none⟩ = some (.int .i64 (nth [1, 2, 256, 60000] n2)) ∧ True) (fun _ h => h.2) _ _ _ _ ?_
    refine wpAnyH_take (i := 6) (v := .pointer (some ⟨B1, n2, none⟩)) rfl (by kernel_rfl) (by kernel_rfl) (by kernel_rfl) (fun _ _ _ h => absurd h (hQp _ _ _)) (Or.inl ⟨by rfl, fun w hw => by obtain ⟨z0, z1⟩ := hw; go_simp⟩) hHeld ?_
    simp only [Act.put, List.getElem_toArray, List.getElem_cons_zero, List.getElem_cons_succ, List.setIfInBounds_toArray, List.set_cons_zero, List.set_cons_succ]
    refine wpAnyH_take (i := 7) (v := .int .i64 (nth [1, 2, 256, 60000] n2)) rfl (by kernel_rfl) (by kernel_rfl) (by kernel_rfl) (fun _ _ _ h => absurd h (hQp _ _ _)) (Or.inl ⟨by rfl, fun w hw => by obtain ⟨z0, z1⟩ := hw; go_simp⟩) hHeld ?_
    simp only [Act.put, List.getElem_toArray, List.getElem_cons_zero, List.getElem_cons_succ, List.setIfInBounds_toArray, List.set_cons_zero, List.set_cons_succ]
    exact pgS_8 hp p0 hN hNg hQ hQp u' (n1) (n2) (B1) (by have e : p + 2 = p + 1 + 1 := (by omega); rw [e]; exact rd') (grown_trans gr hg') (r4') (hn1) (hn2) (rB1') (lB1) hHeld
  · go_simp
    obtain ⟨u', e_u⟩ : ∃ xw, xw = u.alloc (.cells #[.int .i64 1, .int .i64 2, .int .i64 65536, .int .i64 1000000000] 3) := ⟨_, rfl⟩
    have hb' : Below u.heap.size u u' := by rw [e_u]; exact below_nw _ _
    have rB2' : Row u' u.heap.size ([1, 2, 65536, 1000000000].map (Value.int .i64)) := by rw [e_u]; exact row_new _ _ _
    have l4 := r4.lt
    rw [← e_u]
    clear e_u
    obtain ⟨B2, e_B⟩ : ∃ xb, xb = u.heap.size := ⟨_, rfl⟩
    rw [← e_B] at rB2'
    rw [← e_B]
    have hbn1 : (n1 : Int) < 4 := by omega
    have rB1' := rB1.below hb'
    have ltB1 := rB1.lt
    have lB2' : w.heap.size < B2 := by omega
    have ne_B2B1 : B2 ≠ B1 := by omega
    have ne_B1B2 : B1 ≠ B2 := by omega
    clear e_B
    refine hK.out _ _ (trivial) (fun _ => ?_)
    clear hK K
    try simp only [Act.put, List.getElem_toArray, List.getElem_cons_zero, List.getElem_cons_succ, List.setIfInBounds_toArray, List.set_cons_zero, List.set_cons_succ]
    have hHeld : (fun w' => True) u' := trivial
    exact pgS_10 hp p0 hN hNg hQ hQp u' (n1) (B1) (B2) (rd.below hb') (grown_trans gr (grown_of_below (some R) hb')) (r4.below hb') (hn1) (rB1') (lB1) (rB2') (lB2') (ne_B1B2) hHeld
  · go_simp
    obtain ⟨u', e_u⟩ : ∃ xw, xw = u.alloc (.cells #[.int .i64 0, .int .i64 0, .int .i64 0, .string ⟨#[]⟩] 23) := ⟨_, rfl⟩
    have hb' : Below u.heap.size u u' := by rw [e_u]; exact below_nw _ _
    have rX' : Row u' u.heap.size [.int .i64 0, .int .i64 0, .int .i64 0, .string ⟨#[]⟩] := by rw [e_u]; exact row_new _ _ _
    have l4 := r4.lt
    rw [← e_u]
    clear e_u
    obtain ⟨X, e_B⟩ : ∃ xb, xb = u.heap.size := ⟨_, rfl⟩
    rw [← e_B] at rX'
    rw [← e_B]
    have hbn1 : (n1 : Int) < 4 := by omega
    have rB1' := rB1.below hb'
    have ltB1 := rB1.lt
    have lX' : w.heap.size < X := by omega
    have ne_XB1 : X ≠ B1 := by omega
    have ne_B1X : B1 ≠ X := by omega
    clear e_B
    refine hK.out _ _ (trivial) (fun _ => ?_)
    clear hK K
    try simp only [Act.put, List.getElem_toArray, List.getElem_cons_zero, List.getElem_cons_succ, List.setIfInBounds_toArray, List.set_cons_zero, List.set_cons_succ]
    have hHeld : (fun w' => True) u' := trivial
    exact pgS_11 hp p0 hN hNg hQ hQp u' (n1) (B1) (X) (rd.below hb') (grown_trans gr (grown_of_below (some R) hb')) (r4.below hb') (hn1) (rB1') (lB1) (rX') (lX') (ne_B1X) hHeld
set_option maxHeartbeats 4000000 in
theorem pgS_13 {R : Nat} {a : Option Addr} {n c : Nat} {p : Int} {wd : Nat} {w : World} (hp : p < 99998000) (p0 : 0 ≤ p) (hN : R < w.heap.size) (hNg : ∀ g o, a = some ⟨g, o, none⟩ → 0 < n → g < w.heap.size) {Q0 : Exit → Act → World → Prop} (hQ : ∀ (act : Act) (w' : World), (∃ (d6 d7 d8 d9 d10 d11 d12 d13 d14 d15 d16 d17 d18 d19 : Value) (X : Nat) (k l m : Int), act = { tmps := #[.pointer (some ⟨R, 0, none⟩), .int .i64 (wd : Int), undef, undef, .pointer (some ⟨w.heap.size, 0, none⟩), .pointer (some ⟨X, 0, none⟩), d6, d7, d8, d9, d10, d11, d12, d13, d14, d15, d16, d17, d18, d19, undef, undef, undef, undef, undef, undef, undef, undef, undef, undef, undef, undef, undef, undef, undef, undef, undef], defers := [] } ∧ Row w' X [.int .i64 k, .int .i64 l, .int .i64 m, .string ⟨#[]⟩] ∧ Row w' w.heap.size [.int .i64 0, .int .i64 0, .int .i64 0, .string ⟨#[]⟩] ∧ Rdr w' R a n c (p + 3) ∧ w.heap.size < X ∧ w.grownBy w' (some R)) → Q0 .normal act w') (hQp : ∀ c a w, ¬ Q0 (.panic c) a w) (u : World) (n1 : Nat) (n2 : Nat) (n3 : Nat) (B2 : Nat) (X : Nat) (rd : Rdr u R a n c (p + 3)) (gr : w.grownBy u (some R)) (r4 : Row u w.heap.size [.int .i64 0, .int .i64 0, .int .i64 0, .string ⟨#[]⟩]) (hn1 : n1 < 4) (hn2 : n2 < 4) (hn3 : n3 < 4) (rB2 : Row u B2 ([1, 2, 65536, 1000000000].map (Value.int .i64))) (lB2 : w.heap.size < B2) (rX : Row u X [.int .i64 0, .int .i64 0, .int .i64 0, .string ⟨#[]⟩]) (lX : w.heap.size < X) (neB2X : B2 ≠ X) (hHeld : (fun w' => w'.cell? ⟨B2, n3, none⟩ = some (.int .i64 (nth [1, 2, 65536, 1000000000] n3)) ∧ True) u) : wpAnyH Tryd.prog .any pgSOps Q0 (fun w' => w'.cell? ⟨B2, n3, none⟩ = some (.int .i64 (nth [1, 2, 65536, 1000000000] n3)) ∧ True) 5 #[true, true, true, false, true, true, false, false, true, true, true, true, true, false, true, false] { tmps := #[.pointer (some ⟨R, 0, none⟩), .int .i64 (wd : Int), undef, undef, .pointer (some ⟨w.heap.size, 0, none⟩), .pointer (some ⟨X, 0, none⟩), .pointer (some ⟨R, 0, none⟩), .int .i64 (n1 : Int), .int .i64 (1 + (n1 : Int)), undef, .pointer (some ⟨R, 0, none⟩), .int .i64 (n2 : Int), undef, undef, .slice (some ⟨B2, 0, none⟩) 4 4, .pointer (some ⟨R, 0, none⟩), .int .i64 (n3 : Int), .pointer (some ⟨B2, n3, none⟩), .int .i64 (nth [1, 2, 65536, 1000000000] n3), undef, undef, undef, undef, undef, undef, undef, undef, undef, undef, undef, undef, undef, undef, undef, undef, undef, undef], defers := [] } u := by
  unfold pgSOps
  refine wpAnyH_ready (rs := [3]) (by kernel_rfl) (by simp) ?_
  refine AllReadyH.cons rfl (fun K hK => ?_) AllReadyH.nil
  · go_simp
    obtain ⟨u', e_u⟩ : ∃ xw, xw = u.alloc (.cells #[.int .i64 1, .int .i64 2, .int .i64 256, .int .i64 60000] 3) := ⟨_, rfl⟩
    have hb' : Below u.heap.size u u' := by rw [e_u]; exact below_nw _ _
    have rB1' : Row u' u.heap.size ([1, 2, 256, 60000].map (Value.int .i64)) := by rw [e_u]; exact row_new _ _ _
    have l4 := r4.lt
    rw [← e_u]
    clear e_u
    obtain ⟨B1, e_B⟩ : ∃ xb, xb = u.heap.size := ⟨_, rfl⟩
    rw [← e_B] at rB1'
    rw [← e_B]
    have hbn1 : (n1 : Int) < 4 := by omega
    have hbn2 : (n2 : Int) < 4 := by omega
    have hbn3 : (n3 : Int) < 4 := by omega
    have rB2' := rB2.below hb'
    have ltB2 := rB2.lt
    have rX' := rX.below hb'
    have ltX := rX.lt
    have lB1' : w.heap.size < B1 := by omega
    have ne_B1B2 : B1 ≠ B2 := by omega
    have ne_B2B1 : B2 ≠ B1 := by omega
    have ne_B1X : B1 ≠ X := by omega
    have ne_XB1 : X ≠ B1 := by omega
    clear e_B
    refine hK.out _ _ (⟨(rB2').nth (by simpa using hn3), trivial⟩) (fun _ => ?_)
    clear hK K
    try simp only [Act.put, List.getElem_toArray, List.getElem_cons_zero, List.getElem_cons_succ, List.setIfInBounds_toArray, List.set_cons_zero, List.set_cons_succ]
    have hHeld : (fun w' => w'.cell? ⟨B1, n2, none⟩ = some (.int .i64 (nth [1, 2, 256, 60000] n2)) ∧ w'.cell? ⟨B2, n3, none⟩ = some (.int .i64 (nth [1, 2, 65536, 1000000000] n3)) ∧ True) u' := ⟨(rB1').nth (by simpa using hn2), (rB2').nth (by simpa using hn3), trivial⟩
    refine wpAnyH_more (S' := fun w' => w'.cell? ⟨B1, n2, none⟩ = some (.int .i64 (nth [1, 2, 256, 60000] n2)) ∧ w'.cell? ⟨B2, n3, none⟩ = some (.int .i64 (nth [1, 2, 65536, 1000000000] n3)) ∧ True) (fun _ h => ⟨h.2.1, h.2.2⟩) _ _ _ _ ?_
    refine wpAnyH_take (i := 6) (v := .pointer (some ⟨B1, n2, none⟩)) rfl (by kernel_rfl) (by kernel_rfl) (by kernel_rfl) (fun _ _ _ h => absurd h (hQp _ _ _)) (Or.inl ⟨by rfl, fun w hw => by obtain ⟨z0, z1, z2⟩ := hw; go_simp⟩) hHeld ?_
    simp only [Act.put, List.getElem_toArray, List.getElem_cons_zero, List.getElem_cons_succ, List.setIfInBounds_toArray, List.set_cons_zero, List.set_cons_succ]
    refine wpAnyH_take (i := 7) (v := .int .i64 (nth [1, 2, 256, 60000] n2)) rfl (by kernel_rfl) (by kernel_rfl) (by kernel_rfl) (fun _ _ _ h => absurd h (hQp _ _ _)) (Or.inl ⟨by rfl, fun w hw => by obtain ⟨z0, z1, z2⟩ := hw; go_simp⟩) hHeld ?_
    simp only [Act.put, List.getElem_toArray, List.getElem_cons_zero, List.getElem_cons_succ, List.setIfInBounds_toArray, List.set_cons_zero, List.set_cons_succ]
    refine wpAnyH_take (i := 13) (v := .agg #[.int .i64 (1 + (n1 : Int)), .int .i64 (nth [1, 2, 256, 60000] n2), .int .i64 (nth [1, 2, 65536, 1000000000] n3), .string ⟨#[]⟩]) rfl (by kernel_rfl) (by kernel_rfl) (by kernel_rfl) (fun _ _ _ h => absurd h (hQp _ _ _)) (Or.inl ⟨by rfl, fun w hw => by obtain ⟨z0, z1, z2⟩ := hw; go_simp⟩) hHeld ?_
    simp only [Act.put, List.getElem_toArray, List.getElem_cons_zero, List.getElem_cons_succ, List.setIfInBounds_toArray, List.set_cons_zero, List.set_cons_succ]
    exact pgS_1 hp p0 hN hNg hQ hQp u' (n1) (n2) (n3) (B1) (B2) (X) (rd.below hb') (grown_trans gr (grown_of_below (some R) hb')) (r4.below hb') (hn1) (hn2) (hn3) (rB1') (lB1') (rB2') (lB2) (rX') (lX) (ne_B1B2) (ne_B1X) (neB2X) hHeld
set_option maxHeartbeats 4000000 in
theorem pgS_14 {R : Nat} {a : Option Addr} {n c : Nat} {p : Int} {wd : Nat} {w : World} (hp : p < 99998000) (p0 : 0 ≤ p) (hN : R < w.heap.size) (hNg : ∀ g o, a = some ⟨g, o, none⟩ → 0 < n → g < w.heap.size) {Q0 : Exit → Act → World → Prop} (hQ : ∀ (act : Act) (w' : World), (∃ (d6 d7 d8 d9 d10 d11 d12 d13 d14 d15 d16 d17 d18 d19 : Value) (X : Nat) (k l m : Int), act = { tmps := #[.pointer (some ⟨R, 0, none⟩), .int .i64 (wd : Int), undef, undef, .pointer (some ⟨w.heap.size, 0, none⟩), .pointer (some ⟨X, 0, none⟩), d6, d7, d8, d9, d10, d11, d12, d13, d14, d15, d16, d17, d18, d19, undef, undef, undef, undef, undef, undef, undef, undef, undef, undef, undef, undef, undef, undef, undef, undef, undef], defers := [] } ∧ Row w' X [.int .i64 k, .int .i64 l, .int .i64 m, .string ⟨#[]⟩] ∧ Row w' w.heap.size [.int .i64 0, .int .i64 0, .int .i64 0, .string ⟨#[]⟩] ∧ Rdr w' R a n c (p + 3) ∧ w.heap.size < X ∧ w.grownBy w' (some R)) → Q0 .normal act w') (hQp : ∀ c a w, ¬ Q0 (.panic c) a w) (u : World) (n1 : Nat) (n2 : Nat) (n3 : Nat) (B2 : Nat) (rd : Rdr u R a n c (p + 3)) (gr : w.grownBy u (some R)) (r4 : Row u w.heap.size [.int .i64 0, .int .i64 0, .int .i64 0, .string ⟨#[]⟩]) (hn1 : n1 < 4) (hn2 : n2 < 4) (hn3 : n3 < 4) (rB2 : Row u B2 ([1, 2, 65536, 1000000000].map (Value.int .i64))) (lB2 : w.heap.size < B2) (hHeld : (fun w' => w'.cell? ⟨B2, n3, none⟩ = some (.int .i64 (nth [1, 2, 65536, 1000000000] n3)) ∧ True) u) : wpAnyH Tryd.prog .any pgSOps Q0 (fun w' => w'.cell? ⟨B2, n3, none⟩ = some (.int .i64 (nth [1, 2, 65536, 1000000000] n3)) ∧ True) 6 #[true, true, true, false, true, true, false, false, true, true, true, true, true, false, false, false] { tmps := #[.pointer (some ⟨R, 0, none⟩), .int .i64 (wd : Int), undef, undef, .pointer (some ⟨w.heap.size, 0, none⟩), undef, .pointer (some ⟨R, 0, none⟩), .int .i64 (n1 : Int), .int .i64 (1 + (n1 : Int)), undef, .pointer (some ⟨R, 0, none⟩), .int .i64 (n2 : Int), undef, undef, .slice (some ⟨B2, 0, none⟩) 4 4, .pointer (some ⟨R, 0, none⟩), .int .i64 (n3 : Int), .pointer (some ⟨B2, n3, none⟩), .int .i64 (nth [1, 2, 65536, 1000000000] n3), undef, undef, undef, undef, undef, undef, undef, undef, undef, undef, undef, undef, undef, undef, undef, undef, undef, undef], defers := [] } u := by
  unfold pgSOps
  refine wpAnyH_ready (rs := [3, 14]) (by kernel_rfl) (by simp) ?_
  refine AllReadyH.cons rfl (fun K hK => ?_) (AllReadyH.cons rfl (fun K hK => ?_) AllReadyH.nil)
  · go_simp
    obtain ⟨u', e_u⟩ : ∃ xw, xw = u.alloc (.cells #[.int .i64 1, .int .i64 2, .int .i64 256, .int .i64 60000] 3) := ⟨_, rfl⟩
    have hb' : Below u.heap.size u u' := by rw [e_u]; exact below_nw _ _
    have rB1' : Row u' u.heap.size ([1, 2, 256, 60000].map (Value.int .i64)) := by rw [e_u]; exact row_new _ _ _
    have l4 := r4.lt
    rw [← e_u]
    clear e_u
    obtain ⟨B1, e_B⟩ : ∃ xb, xb = u.heap.size := ⟨_, rfl⟩
    rw [← e_B] at rB1'
    rw [← e_B]
    have hbn1 : (n1 : Int) < 4 := by omega
    have hbn2 : (n2 : Int) < 4 := by omega
    have hbn3 : (n3 : Int) < 4 := by omega
    have rB2' := rB2.below hb'
    have ltB2 := rB2.lt
    have lB1' : w.heap.size < B1 := by omega
    have ne_B1B2 : B1 ≠ B2 := by omega
    have ne_B2B1 : B2 ≠ B1 := by omega
    clear e_B
    refine hK.out _ _ (⟨(rB2').nth (by simpa using hn3), trivial⟩) (fun _ => ?_)
    clear hK K
    try simp only [Act.put, List.getElem_toArray, List.getElem_cons_zero, List.getElem_cons_succ, List.setIfInBounds_toArray, List.set_cons_zero, List.set_cons_succ]
    have hHeld : (fun w' => w'.cell? ⟨B1, n2, none⟩ = some (.int .i64 (nth [1, 2, 256, 60000] n2)) ∧ w'.cell? ⟨B2, n3, none⟩ = some (.int .i64 (nth [1, 2, 65536, 1000000000] n3)) ∧ True) u' := ⟨(rB1').nth (by simpa using hn2), (rB2').nth (by simpa using hn3), trivial⟩
    refine wpAnyH_more (S' := fun w' => w'.cell? ⟨B1, n2, none⟩ = some (.int .i64 (nth [1, 2, 256, 60000] n2)) ∧ w'.cell? ⟨B2, n3, none⟩ = some (.int .i64 (nth [1, 2, 65536, 1000000000] n3)) ∧ True) (fun _ h => ⟨h.2.1, h.2.2⟩) _ _ _ _ ?_
    refine wpAnyH_take (i := 6) (v := .pointer (some ⟨B1, n2, none⟩)) rfl (by kernel_rfl) (by kernel_rfl) (by kernel_rfl) (fun _ _ _ h => absurd h (hQp _ _ _)) (Or.inl ⟨by rfl, fun w hw => by obtain ⟨z0, z1, z2⟩ := hw; go_simp⟩) hHeld ?_
    simp only [Act.put, List.getElem_toArray, List.getElem_cons_zero, List.getElem_cons_succ, List.setIfInBounds_toArray, List.set_cons_zero, List.set_cons_succ]
    refine wpAnyH_take (i := 7) (v := .int .i64 (nth [1, 2, 256, 60000] n2)) rfl (by kernel_rfl) (by kernel_rfl) (by kernel_rfl) (fun _ _ _ h => absurd h (hQp _ _ _)) (Or.inl ⟨by rfl, fun w hw => by obtain ⟨z0, z1, z2⟩ := hw; go_simp⟩) hHeld ?_
    simp only [Act.put, List.getElem_toArray, List.getElem_cons_zero, List.getElem_cons_succ, List.setIfInBounds_toArray, List.set_cons_zero, List.set_cons_succ]
    refine wpAnyH_take (i := 13) (v := .agg #[.int .i64 (1 + (n1 : Int)), .int .i64 (nth [1, 2, 256, 60000] n2), .int .i64 (nth [1, 2, 65536, 1000000000] n3), .string ⟨#[]⟩]) rfl (by kernel_rfl) (by kernel_rfl) (by kernel_rfl) (fun _ _ _ h => absurd h (hQp _ _ _)) (Or.inl ⟨by rfl, fun w hw => by obtain ⟨z0, z1, z2⟩ := hw; go_simp⟩) hHeld ?_
    simp only [Act.put, List.getElem_toArray, List.getElem_cons_zero, List.getElem_cons_succ, List.setIfInBounds_toArray, List.set_cons_zero, List.set_cons_succ]
    exact pgS_2 hp p0 hN hNg hQ hQp u' (n1) (n2) (n3) (B1) (B2) (rd.below hb') (grown_trans gr (grown_of_below (some R) hb')) (r4.below hb') (hn1) (hn2) (hn3) (rB1') (lB1') (rB2') (lB2) (ne_B1B2) hHeld
  · go_simp
    obtain ⟨u', e_u⟩ : ∃ xw, xw = u.alloc (.cells #[.int .i64 0, .int .i64 0, .int .i64 0, .string ⟨#[]⟩] 23) := ⟨_, rfl⟩
    have hb' : Below u.heap.size u u' := by rw [e_u]; exact below_nw _ _
    have rX' : Row u' u.heap.size [.int .i64 0, .int .i64 0, .int .i64 0, .string ⟨#[]⟩] := by rw [e_u]; exact row_new _ _ _
    have l4 := r4.lt
    rw [← e_u]
    clear e_u
    obtain ⟨X, e_B⟩ : ∃ xb, xb = u.heap.size := ⟨_, rfl⟩
    rw [← e_B] at rX'
    rw [← e_B]
    have hbn1 : (n1 : Int) < 4 := by omega
    have hbn2 : (n2 : Int) < 4 := by omega
    have hbn3 : (n3 : Int) < 4 := by omega
    have rB2' := rB2.below hb'
    have ltB2 := rB2.lt
    have lX' : w.heap.size < X := by omega
    have ne_XB2 : X ≠ B2 := by omega
    have ne_B2X : B2 ≠ X := by omega
    clear e_B
    refine hK.out _ _ (⟨(rB2').nth (by simpa using hn3), trivial⟩) (fun _ => ?_)
    clear hK K
    try simp only [Act.put, List.getElem_toArray, List.getElem_cons_zero, List.getElem_cons_succ, List.setIfInBounds_toArray, List.set_cons_zero, List.set_cons_succ]
    have hHeld : (fun w' => w'.cell? ⟨B2, n3, none⟩ = some (.int .i64 (nth [1, 2, 65536, 1000000000] n3)) ∧ True) u' := ⟨(rB2').nth (by simpa using hn3), trivial⟩
    exact pgS_13 hp p0 hN hNg hQ hQp u' (n1) (n2) (n3) (B2) (X) (rd.below hb') (grown_trans gr (grown_of_below (some R) hb')) (r4.below hb') (hn1) (hn2) (hn3) (rB2') (lB2) (rX') (lX') (ne_B2X) hHeld
set_option maxHeartbeats 4000000 in
theorem pgS_15 {R : Nat} {a : Option Addr} {n c : Nat} {p : Int} {wd : Nat} {w : World} (hp : p < 99998000) (p0 : 0 ≤ p) (hN : R < w.heap.size) (hNg : ∀ g o, a = some ⟨g, o, none⟩ → 0 < n → g < w.heap.size) {Q0 : Exit → Act → World → Prop} (hQ : ∀ (act : Act) (w' : World), (∃ (d6 d7 d8 d9 d10 d11 d12 d13 d14 d15 d16 d17 d18 d19 : Value) (X : Nat) (k l m : Int), act = { tmps := #[.pointer (some ⟨R, 0, none⟩), .int .i64 (wd : Int), undef, undef, .pointer (some ⟨w.heap.size, 0, none⟩), .pointer (some ⟨X, 0, none⟩), d6, d7, d8, d9, d10, d11, d12, d13, d14, d15, d16, d17, d18, d19, undef, undef, undef, undef, undef, undef, undef, undef, undef, undef, undef, undef, undef, undef, undef, undef, undef], defers := [] } ∧ Row w' X [.int .i64 k, .int .i64 l, .int .i64 m, .string ⟨#[]⟩] ∧ Row w' w.heap.size [.int .i64 0, .int .i64 0, .int .i64 0, .string ⟨#[]⟩] ∧ Rdr w' R a n c (p + 3) ∧ w.heap.size < X ∧ w.grownBy w' (some R)) → Q0 .normal act w') (hQp : ∀ c a w, ¬ Q0 (.panic c) a w) (u : World) (n1 : Nat) (n2 : Nat) (B2 : Nat) (X : Nat) (rd : Rdr u R a n c (p + 2)) (gr : w.grownBy u (some R)) (r4 : Row u w.heap.size [.int .i64 0, .int .i64 0, .int .i64 0, .string ⟨#[]⟩]) (hn1 : n1 < 4) (hn2 : n2 < 4) (rB2 : Row u B2 ([1, 2, 65536, 1000000000].map (Value.int .i64))) (lB2 : w.heap.size < B2) (rX : Row u X [.int .i64 0, .int .i64 0, .int .i64 0, .string ⟨#[]⟩]) (lX : w.heap.size < X) (neB2X : B2 ≠ X) (hHeld : (fun w' => True) u) : wpAnyH Tryd.prog .any pgSOps Q0 (fun w' => True) 8 #[true, true, true, false, true, true, false, false, true, true, false, false, false, false, true, false] { tmps := #[.pointer (some ⟨R, 0, none⟩), .int .i64 (wd : Int), undef, undef, .pointer (some ⟨w.heap.size, 0, none⟩), .pointer (some ⟨X, 0, none⟩), .pointer (some ⟨R, 0, none⟩), .int .i64 (n1 : Int), .int .i64 (1 + (n1 : Int)), undef, .pointer (some ⟨R, 0, none⟩), .int .i64 (n2 : Int), undef, undef, .slice (some ⟨B2, 0, none⟩) 4 4, .pointer (some ⟨R, 0, none⟩), undef, undef, undef, undef, undef, undef, undef, undef, undef, undef, undef, undef, undef, undef, undef, undef, undef, undef, undef, undef, undef], defers := [] } u := by
  unfold pgSOps
  refine wpAnyH_ready (rs := [3, 10]) (by kernel_rfl) (by simp) ?_
  refine AllReadyH.cons rfl (fun K hK => ?_) (AllReadyH.cons rfl (fun K hK => ?_) AllReadyH.nil)
  · go_simp
    obtain ⟨u', e_u⟩ : ∃ xw, xw = u.alloc (.cells #[.int .i64 1, .int .i64 2, .int .i64 256, .int .i64 60000] 3) := ⟨_, rfl⟩
    have hb' : Below u.heap.size u u' := by rw [e_u]; exact below_nw _ _
    have rB1' : Row u' u.heap.size ([1, 2, 256, 60000].map (Value.int .i64)) := by rw [e_u]; exact row_new _ _ _
    have l4 := r4.lt
    rw [← e_u]
    clear e_u
    obtain ⟨B1, e_B⟩ : ∃ xb, xb = u.heap.size := ⟨_, rfl⟩
    rw [← e_B] at rB1'
    rw [← e_B]
    have hbn1 : (n1 : Int) < 4 := by omega
    have hbn2 : (n2 : Int) < 4 := by omega
    have rB2' := rB2.below hb'
    have ltB2 := rB2.lt
    have rX' := rX.below hb'
    have ltX := rX.lt
    have lB1' : w.heap.size < B1 := by omega
    have ne_B1B2 : B1 ≠ B2 := by omega
    have ne_B2B1 : B2 ≠ B1 := by omega
    have ne_B1X : B1 ≠ X := by omega
    have ne_XB1 : X ≠ B1 := by omega
    clear e_B
    refine hK.out _ _ (trivial) (fun _ => ?_)
    clear hK K
    try simp only [Act.put, List.getElem_toArray, List.getElem_cons_zero, List.getElem_cons_succ, List.setIfInBounds_toArray, List.set_cons_zero, List.set_cons_succ]
    have hHeld : (fun w' => w'.cell? ⟨B1, n2, none⟩ = some (.int .i64 (nth [1, 2, 256, 60000] n2)) ∧ True) u' := ⟨(rB1').nth (by simpa using hn2), trivial⟩
    refine wpAnyH_more (S' := fun w' => w'.cell? ⟨B1, n2, none⟩ = some (.int .i64 (nth [1, 2, 256, 60000] n2)) ∧ True) (fun _ h => h.2) _ _ _ _ ?_
    refine wpAnyH_take (i := 6) (v := .pointer (some ⟨B1, n2, none⟩)) rfl (by kernel_rfl) (by kernel_rfl) (by kernel_rfl) (fun _ _ _ h => absurd h (hQp _ _ _)) (Or.inl ⟨by rfl, fun w hw => by obtain ⟨z0, z1⟩ := hw; go_simp⟩) hHeld ?_
    simp only [Act.put, List.getElem_toArray, List.getElem_cons_zero, List.getElem_cons_succ, List.setIfInBounds_toArray, List.set_cons_zero, List.set_cons_succ]
    refine wpAnyH_take (i := 7) (v := .int .i64 (nth [1, 2, 256, 60000] n2)) rfl (by kernel_rfl) (by kernel_rfl) (by kernel_rfl) (fun _ _ _ h => absurd h (hQp _ _ _)) (Or.inl ⟨by rfl, fun w hw => by obtain ⟨z0, z1⟩ := hw; go_simp⟩) hHeld ?_
    simp only [Act.put, List.getElem_toArray, List.getElem_cons_zero, List.getElem_cons_succ, List.setIfInBounds_toArray, List.set_cons_zero, List.set_cons_succ]
    exact pgS_3 hp p0 hN hNg hQ hQp u' (n1) (n2) (B1) (B2) (X) (rd.below hb') (grown_trans gr (grown_of_below (some R) hb')) (r4.below hb') (hn1) (hn2) (rB1') (lB1') (rB2') (lB2) (rX') (lX) (ne_B1B2) (ne_B1X) (neB2X) hHeld
  · refine step_call (by rfl) 21 #[.pointer (some ⟨R, 0, none⟩), .int .i64 4] (by go_simp) (pick_r R a n c (p + 2) 4 _ rd (by omega)) ?_
    rintro e u' ⟨⟨v', rfl, v0, v1⟩, rd', hg'⟩
    obtain ⟨n3, rfl⟩ : ∃ k : Nat, v' = (k : Int) := ⟨v'.toNat, by omega⟩
    have hn3 : n3 < 4 := by omega
    have hbn3 : (n3 : Int) < 4 := by omega
    clear v1
    have hw' : IntKind.i64.wrap (1 + (n3 : Int)) = 1 + (n3 : Int) := wrap_i64_id _ (by omega) (by omega)
    refine ⟨_, rfl, ?_⟩
    have rB2' := rB2.grown hg' (fun e => by injection e with e; omega)
    have rX' := rX.grown hg' (fun e => by injection e with e; omega)
    have r4' := r4.grown hg' (fun e => by injection e with e; omega)
    refine hK.out _ _ (trivial) (fun _ => ?_)
    clear hK K
    try simp only [Act.put, List.getElem_toArray, List.getElem_cons_zero, List.getElem_cons_succ, List.setIfInBounds_toArray, List.set_cons_zero, List.set_cons_succ]
    have hHeld : (fun w' => w'.cell? ⟨B2, n3, none⟩ = some (.int .i64 (nth [1, 2, 65536, 1000000000] n3)) ∧ True) u' := ⟨(rB2').nth (by simpa using hn3), trivial⟩
    refine wpAnyH_more (S' := fun w' => w'.cell? ⟨B2, n3, none⟩ = some (.int .i64 (nth [1, 2, 65536, 1000000000] n3)) ∧ True) (fun _ h => h.2) _ _ _ _ ?_
    refine wpAnyH_take (i := 11) (v := .pointer (some ⟨B2, n3, none⟩)) rfl (by kernel_rfl) (by kernel_rfl) (by kernel_rfl) (fun _ _ _ h => absurd h (hQp _ _ _)) (Or.inl ⟨by rfl, fun w hw => by obtain ⟨z0, z1⟩ := hw; go_simp⟩) hHeld ?_
    simp only [Act.put, List.getElem_toArray, List.getElem_cons_zero, List.getElem_cons_succ, List.setIfInBounds_toArray, List.set_cons_zero, List.set_cons_succ]
    refine wpAnyH_take (i := 12) (v := .int .i64 (nth [1, 2, 65536, 1000000000] n3)) rfl (by kernel_rfl) (by kernel_rfl) (by kernel_rfl) (fun _ _ _ h => absurd h (hQp _ _ _)) (Or.inl ⟨by rfl, fun w hw => by obtain ⟨z0, z1⟩ := hw; go_simp⟩) hHeld ?_
    simp only [Act.put, List.getElem_toArray, List.getElem_cons_zero, List.getElem_cons_succ, List.setIfInBounds_toArray, List.set_cons_zero, List.set_cons_succ]
    exact pgS_13 hp p0 hN hNg hQ hQp u' (n1) (n2) (n3) (B2) (X) (by have e : p + 3 = p + 2 + 1 := (by omega); rw [e]; exact rd') (grown_trans gr hg') (r4') (hn1) (hn2) (hn3) (rB2') (lB2) (rX') (lX) (neB2X) hHeld
set_option maxHeartbeats 4000000 in
theorem pgS_16 {R : Nat} {a : Option Addr} {n c : Nat} {p : Int} {wd : Nat} {w : World} (hp : p < 99998000) (p0 : 0 ≤ p) (hN : R < w.heap.size) (hNg : ∀ g o, a = some ⟨g, o, none⟩ → 0 < n → g < w.heap.size) {Q0 : Exit → Act → World → Prop} (hQ : ∀ (act : Act) (w' : World), (∃ (d6 d7 d8 d9 d10 d11 d12 d13 d14 d15 d16 d17 d18 d19 : Value) (X : Nat) (k l m : Int), act = { tmps := #[.pointer (some ⟨R, 0, none⟩), .int .i64 (wd : Int), undef, undef, .pointer (some ⟨w.heap.size, 0, none⟩), .pointer (some ⟨X, 0, none⟩), d6, d7, d8, d9, d10, d11, d12, d13, d14, d15, d16, d17, d18, d19, undef, undef, undef, undef, undef, undef, undef, undef, undef, undef, undef, undef, undef, undef, undef, undef, undef], defers := [] } ∧ Row w' X [.int .i64 k, .int .i64 l, .int .i64 m, .string ⟨#[]⟩] ∧ Row w' w.heap.size [.int .i64 0, .int .i64 0, .int .i64 0, .string ⟨#[]⟩] ∧ Rdr w' R a n c (p + 3) ∧ w.heap.size < X ∧ w.grownBy w' (some R)) → Q0 .normal act w') (hQp : ∀ c a w, ¬ Q0 (.panic c) a w) (u : World) (n1 : Nat) (n2 : Nat) (B2 : Nat) (rd : Rdr u R a n c (p + 2)) (gr : w.grownBy u (some R)) (r4 : Row u w.heap.size [.int .i64 0, .int .i64 0, .int .i64 0, .string ⟨#[]⟩]) (hn1 : n1 < 4) (hn2 : n2 < 4) (rB2 : Row u B2 ([1, 2, 65536, 1000000000].map (Value.int .i64))) (lB2 : w.heap.size < B2) (hHeld : (fun w' => True) u) : wpAnyH Tryd.prog .any pgSOps Q0 (fun w' => True) 9 #[true, true, true, false, true, true, false, false, true, true, false, false, false, false, false, false] { tmps := #[.pointer (some ⟨R, 0, none⟩), .int .i64 (wd : Int), undef, undef, .pointer (some ⟨w.heap.size, 0, none⟩), undef, .pointer (some ⟨R, 0, none⟩), .int .i64 (n1 : Int), .int .i64 (1 + (n1 : Int)), undef, .pointer (some ⟨R, 0, none⟩), .int .i64 (n2 : Int), undef, undef, .slice (some ⟨B2, 0, none⟩) 4 4, .pointer (some ⟨R, 0, none⟩), undef, undef, undef, undef, undef, undef, undef, undef, undef, undef, undef, undef, undef, undef, undef, undef, undef, undef, undef, undef, undef], defers := [] } u := by
  unfold pgSOps
  refine wpAnyH_ready (rs := [3, 10, 14]) (by kernel_rfl) (by simp) ?_
  refine AllReadyH.cons rfl (fun K hK => ?_) (AllReadyH.cons rfl (fun K hK => ?_) (AllReadyH.cons rfl (fun K hK => ?_) AllReadyH.nil))
  · go_simp
    obtain ⟨u', e_u⟩ : ∃ xw, xw = u.alloc (.cells #[.int .i64 1, .int .i64 2, .int .i64 256, .int .i64 60000] 3) := ⟨_, rfl⟩
    have hb' : Below u.heap.size u u' := by rw [e_u]; exact below_nw _ _
    have rB1' : Row u' u.heap.size ([1, 2, 256, 60000].map (Value.int .i64)) := by rw [e_u]; exact row_new _ _ _
    have l4 := r4.lt
    rw [← e_u]
    clear e_u
    obtain ⟨B1, e_B⟩ : ∃ xb, xb = u.heap.size := ⟨_, rfl⟩
    rw [← e_B] at rB1'
    rw [← e_B]
    have hbn1 : (n1 : Int) < 4 := by omega
    have hbn2 : (n2 : Int) < 4 := by omega
    have rB2' := rB2.below hb'
    have ltB2 := rB2.lt
    have lB1' : w.heap.size < B1 := by omega
    have ne_B1B2 : B1 ≠ B2 := by omega
    have ne_B2B1 : B2 ≠ B1 := by omega
    clear e_B
    refine hK.out _ _ (trivial) (fun _ => ?_)
    clear hK K
    try simp only [Act.put, List.getElem_toArray, List.getElem_cons_zero, List.getElem_cons_succ, List.setIfInBounds_toArray, List.set_cons_zero, List.set_cons_succ]
    have hHeld : (fun w' => w'.cell? ⟨B1, n2, none⟩ = some (.int .i64 (nth [1, 2, 256, 60000] n2)) ∧ True) u' := ⟨(rB1').nth (by simpa using hn2), trivial⟩
    refine wpAnyH_more (S' := fun w' => w'.cell? ⟨B1, n2, none⟩ = some (.int .i64 (nth [1, 2, 256, 60000] n2)) ∧ True) (fun _ h => h.2) _ _ _ _ ?_
    refine wpAnyH_take (i := 6) (v := .pointer (some ⟨B1, n2, none⟩)) rfl (by kernel_rfl) (by kernel_rfl) (by kernel_rfl) (fun _ _ _ h => absurd h (hQp _ _ _)) (Or.inl ⟨by rfl, fun w hw => by obtain ⟨z0, z1⟩ := hw; go_simp⟩) hHeld ?_
    simp only [Act.put, List.getElem_toArray, List.getElem_cons_zero, List.getElem_cons_succ, List.setIfInBounds_toArray, List.set_cons_zero, List.set_cons_succ]
    refine wpAnyH_take (i := 7) (v := .int .i64 (nth [1, 2, 256, 60000] n2)) rfl (by kernel_rfl) (by kernel_rfl) (by kernel_rfl) (fun _ _ _ h => absurd h (hQp _ _ _)) (Or.inl ⟨by rfl, fun w hw => by obtain ⟨z0, z1⟩ := hw; go_simp⟩) hHeld ?_
    simp only [Act.put, List.getElem_toArray, List.getElem_cons_zero, List.getElem_cons_succ, List.setIfInBounds_toArray, List.set_cons_zero, List.set_cons_succ]
    exact pgS_4 hp p0 hN hNg hQ hQp u' (n1) (n2) (B1) (B2) (rd.below hb') (grown_trans gr (grown_of_below (some R) hb')) (r4.below hb') (hn1) (hn2) (rB1') (lB1') (rB2') (lB2) (ne_B1B2) hHeld
  · refine step_call (by rfl) 21 #[.pointer (some ⟨R, 0, none⟩), .int .i64 4] (by go_simp) (pick_r R a n c (p + 2) 4 _ rd (by omega)) ?_
    rintro e u' ⟨⟨v', rfl, v0, v1⟩, rd', hg'⟩
    obtain ⟨n3, rfl⟩ : ∃ k : Nat, v' = (k : Int) := ⟨v'.toNat, by omega⟩
    have hn3 : n3 < 4 := by omega
    have hbn3 : (n3 : Int) < 4 := by omega
    clear v1
    have hw' : IntKind.i64.wrap (1 + (n3 : Int)) = 1 + (n3 : Int) := wrap_i64_id _ (by omega) (by omega)
    refine ⟨_, rfl, ?_⟩
    have rB2' := rB2.grown hg' (fun e => by injection e with e; omega)
    have r4' := r4.grown hg' (fun e => by injection e with e; omega)
    refine hK.out _ _ (trivial) (fun _ => ?_)
    clear hK K
    try simp only [Act.put, List.getElem_toArray, List.getElem_cons_zero, List.getElem_cons_succ, List.setIfInBounds_toArray, List.set_cons_zero, List.set_cons_succ]
    have hHeld : (fun w' => w'.cell? ⟨B2, n3, none⟩ = some (.int .i64 (nth [1, 2, 65536, 1000000000] n3)) ∧ True) u' := ⟨(rB2').nth (by simpa using hn3), trivial⟩
    refine wpAnyH_more (S' := fun w' => w'.cell? ⟨B2, n3, none⟩ = some (.int .i64 (nth [1, 2, 65536, 1000000000] n3)) ∧ True) (fun _ h => h.2) _ _ _ _ ?_
    refine wpAnyH_take (i := 11) (v := .pointer (some ⟨B2, n3, none⟩)) rfl (by kernel_rfl) (by kernel_rfl) (by kernel_rfl) (fun _ _ _ h => absurd h (hQp _ _ _)) (Or.inl ⟨by rfl, fun w hw => by obtain ⟨z0, z1⟩ := hw; go_simp⟩) hHeld ?_
    simp only [Act.put, List.getElem_toArray, List.getElem_cons_zero, List.getElem_cons_succ, List.setIfInBounds_toArray, List.set_cons_zero, List.set_cons_succ]
    refine wpAnyH_take (i := 12) (v := .int .i64 (nth [1, 2, 65536, 1000000000] n3)) rfl (by kernel_rfl) (by kernel_rfl) (by kernel_rfl) (fun _ _ _ h => absurd h (hQp _ _ _)) (Or.inl ⟨by rfl, fun w hw => by obtain ⟨z0, z1⟩ := hw; go_simp⟩) hHeld ?_
    simp only [Act.put, List.getElem_toArray, List.getElem_cons_zero, List.getElem_cons_succ, List.setIfInBounds_toArray, List.set_cons_zero, List.set_cons_succ]
    exact pgS_14 hp p0 hN hNg hQ hQp u' (n1) (n2) (n3) (B2) (by have e : p + 3 = p + 2 + 1 := (by omega); rw [e]; exact rd') (grown_trans gr hg') (r4') (hn1) (hn2) (hn3) (rB2') (lB2) hHeld
  · go_simp
    obtain ⟨u', e_u⟩ : ∃ xw, xw = u.alloc (.cells #[.int .i64 0, .int .i64 0, .int .i64 0, .string ⟨#[]⟩] 23) := ⟨_, rfl⟩
    have hb' : Below u.heap.size u u' := by rw [e_u]; exact below_nw _ _
    have rX' : Row u' u.heap.size [.int .i64 0, .int .i64 0, .int .i64 0, .string ⟨#[]⟩] := by rw [e_u]; exact row_new _ _ _
    have l4 := r4.lt
    rw [← e_u]
    clear e_u
    obtain ⟨X, e_B⟩ : ∃ xb, xb = u.heap.size := ⟨_, rfl⟩
    rw [← e_B] at rX'
    rw [← e_B]
    have hbn1 : (n1 : Int) < 4 := by omega
    have hbn2 : (n2 : Int) < 4 := by omega
    have rB2' := rB2.below hb'
    have ltB2 := rB2.lt
    have lX' : w.heap.size < X := by omega
    have ne_XB2 : X ≠ B2 := by omega
    have ne_B2X : B2 ≠ X := by omega
    clear e_B
    refine hK.out _ _ (trivial) (fun _ => ?_)
    clear hK K
    try simp only [Act.put, List.getElem_toArray, List.getElem_cons_zero, List.getElem_cons_succ, List.setIfInBounds_toArray, List.set_cons_zero, List.set_cons_succ]
    have hHeld : (fun w' => True) u' := trivial
    exact pgS_15 hp p0 hN hNg hQ hQp u' (n1) (n2) (B2) (X) (rd.below hb') (grown_trans gr (grown_of_below (some R) hb')) (r4.below hb') (hn1) (hn2) (rB2') (lB2) (rX') (lX') (ne_B2X) hHeld
set_option maxHeartbeats 4000000 in
theorem pgS_17 {R : Nat} {a : Option Addr} {n c : Nat} {p : Int} {wd : Nat} {w : World} (hp : p < 99998000) (p0 : 0 ≤ p) (hN : R < w.heap.size) (hNg : ∀ g o, a = some ⟨g, o, none⟩ → 0 < n → g < w.heap.size) {Q0 : Exit → Act → World → Prop} (hQ : ∀ (act : Act) (w' : World), (∃ (d6 d7 d8 d9 d10 d11 d12 d13 d14 d15 d16 d17 d18 d19 : Value) (X : Nat) (k l m : Int), act = { tmps := #[.pointer (some ⟨R, 0, none⟩), .int .i64 (wd : Int), undef, undef, .pointer (some ⟨w.heap.size, 0, none⟩), .pointer (some ⟨X, 0, none⟩), d6, d7, d8, d9, d10, d11, d12, d13, d14, d15, d16, d17, d18, d19, undef, undef, undef, undef, undef, undef, undef, undef, undef, undef, undef, undef, undef, undef, undef, undef, undef], defers := [] } ∧ Row w' X [.int .i64 k, .int .i64 l, .int .i64 m, .string ⟨#[]⟩] ∧ Row w' w.heap.size [.int .i64 0, .int .i64 0, .int .i64 0, .string ⟨#[]⟩] ∧ Rdr w' R a n c (p + 3) ∧ w.heap.size < X ∧ w.grownBy w' (some R)) → Q0 .normal act w') (hQp : ∀ c a w, ¬ Q0 (.panic c) a w) (u : World) (n1 : Nat) (n2 : Nat) (n3 : Nat) (X : Nat) (rd : Rdr u R a n c (p + 3)) (gr : w.grownBy u (some R)) (r4 : Row u w.heap.size [.int .i64 0, .int .i64 0, .int .i64 0, .string ⟨#[]⟩]) (hn1 : n1 < 4) (hn2 : n2 < 4) (hn3 : n3 < 4) (rX : Row u X [.int .i64 0, .int .i64 0, .int .i64 0, .string ⟨#[]⟩]) (lX : w.heap.size < X) (hHeld : (fun w' => True) u) : wpAnyH Tryd.prog .any pgSOps Q0 (fun w' => True) 8 #[true, true, true, false, true, true, false, false, false, true, true, false, false, false, true, false] { tmps := #[.pointer (some ⟨R, 0, none⟩), .int .i64 (wd : Int), undef, undef, .pointer (some ⟨w.heap.size, 0, none⟩), .pointer (some ⟨X, 0, none⟩), .pointer (some ⟨R, 0, none⟩), .int .i64 (n1 : Int), .int .i64 (1 + (n1 : Int)), undef, .pointer (some ⟨R, 0, none⟩), .int .i64 (n2 : Int), undef, undef, undef, .pointer (some ⟨R, 0, none⟩), .int .i64 (n3 : Int), undef, undef, undef, undef, undef, undef, undef, undef, undef, undef, undef, undef, undef, undef, undef, undef, undef, undef, undef, undef], defers := [] } u := by
  unfold pgSOps
  refine wpAnyH_ready (rs := [3, 8]) (by kernel_rfl) (by simp) ?_
  refine AllReadyH.cons rfl (fun K hK => ?_) (AllReadyH.cons rfl (fun K hK => ?_) AllReadyH.nil)
  · go_simp
    obtain ⟨u', e_u⟩ : ∃ xw, xw = u.alloc (.cells #[.int .i64 1, .int .i64 2, .int .i64 256, .int .i64 60000] 3) := ⟨_, rfl⟩
    have hb' : Below u.heap.size u u' := by rw [e_u]; exact below_nw _ _
    have rB1' : Row u' u.heap.size ([1, 2, 256, 60000].map (Value.int .i64)) := by rw [e_u]; exact row_new _ _ _
    have l4 := r4.lt
    rw [← e_u]
    clear e_u
    obtain ⟨B1, e_B⟩ : ∃ xb, xb = u.heap.size := ⟨_, rfl⟩
    rw [← e_B] at rB1'
    rw [← e_B]
    have hbn1 : (n1 : Int) < 4 := by omega
    have hbn2 : (n2 : Int) < 4 := by omega
    have hbn3 : (n3 : Int) < 4 := by omega
    have rX' := rX.below hb'
    have ltX := rX.lt
    have lB1' : w.heap.size < B1 := by omega
    have ne_B1X : B1 ≠ X := by omega
    have ne_XB1 : X ≠ B1 := by omega
    clear e_B
    refine hK.out _ _ (trivial) (fun _ => ?_)
    clear hK K
    try simp only [Act.put, List.getElem_toArray, List.getElem_cons_zero, List.getElem_cons_succ, List.setIfInBounds_toArray, List.set_cons_zero, List.set_cons_succ]
    have hHeld : (fun w' => w'.cell? ⟨B1, n2, none⟩ = some (.int .i64 (nth [1, 2, 256, 60000] n2)) ∧ True) u' := ⟨(rB1').nth (by simpa using hn2), trivial⟩
    refine wpAnyH_more (S' := fun w' => w'.cell? ⟨B1, n2, none⟩ = some (.int .i64 (nth [1, 2, 256, 60000] n2)) ∧ True) (fun _ h => h.2) _ _ _ _ ?_
    refine wpAnyH_take (i := 6) (v := .pointer (some ⟨B1, n2, none⟩)) rfl (by kernel_rfl) (by kernel_rfl) (by kernel_rfl) (fun _ _ _ h => absurd h (hQp _ _ _)) (Or.inl ⟨by rfl, fun w hw => by obtain ⟨z0, z1⟩ := hw; go_simp⟩) hHeld ?_
    simp only [Act.put, List.getElem_toArray, List.getElem_cons_zero, List.getElem_cons_succ, List.setIfInBounds_toArray, List.set_cons_zero, List.set_cons_succ]
    refine wpAnyH_take (i := 7) (v := .int .i64 (nth [1, 2, 256, 60000] n2)) rfl (by kernel_rfl) (by kernel_rfl) (by kernel_rfl) (fun _ _ _ h => absurd h (hQp _ _ _)) (Or.inl ⟨by rfl, fun w hw => by obtain ⟨z0, z1⟩ := hw; go_simp⟩) hHeld ?_
    simp only [Act.put, List.getElem_toArray, List.getElem_cons_zero, List.getElem_cons_succ, List.setIfInBounds_toArray, List.set_cons_zero, List.set_cons_succ]
    exact pgS_5 hp p0 hN hNg hQ hQp u' (n1) (n2) (n3) (B1) (X) (rd.below hb') (grown_trans gr (grown_of_below (some R) hb')) (r4.below hb') (hn1) (hn2) (hn3) (rB1') (lB1') (rX') (lX) (ne_B1X) hHeld
  · go_simp
    obtain ⟨u', e_u⟩ : ∃ xw, xw = u.alloc (.cells #[.int .i64 1, .int .i64 2, .int .i64 65536, .int .i64 1000000000] 3) := ⟨_, rfl⟩
    have hb' : Below u.heap.size u u' := by rw [e_u]; exact below_nw _ _
    have rB2' : Row u' u.heap.size ([1, 2, 65536, 1000000000].map (Value.int .i64)) := by rw [e_u]; exact row_new _ _ _
    have l4 := r4.lt
    rw [← e_u]
    clear e_u
    obtain ⟨B2, e_B⟩ : ∃ xb, xb = u.heap.size := ⟨_, rfl⟩
    rw [← e_B] at rB2'
    rw [← e_B]
    have hbn1 : (n1 : Int) < 4 := by omega
    have hbn2 : (n2 : Int) < 4 := by omega
    have hbn3 : (n3 : Int) < 4 := by omega
    have rX' := rX.below hb'
    have ltX := rX.lt
    have lB2' : w.heap.size < B2 := by omega
    have ne_B2X : B2 ≠ X := by omega
    have ne_XB2 : X ≠ B2 := by omega
    clear e_B
    refine hK.out _ _ (trivial) (fun _ => ?_)
    clear hK K
    try simp only [Act.put, List.getElem_toArray, List.getElem_cons_zero, List.getElem_cons_succ, List.setIfInBounds_toArray, List.set_cons_zero, List.set_cons_succ]
    have hHeld : (fun w' => w'.cell? ⟨B2, n3, none⟩ = some (.int .i64 (nth [1, 2, 65536, 1000000000] n3)) ∧ True) u' := ⟨(rB2').nth (by simpa using hn3), trivial⟩
    refine wpAnyH_more (S' := fun w' => w'.cell? ⟨B2, n3, none⟩ = some (.int .i64 (nth [1, 2, 65536, 1000000000] n3)) ∧ True) (fun _ h => h.2) _ _ _ _ ?_
    refine wpAnyH_take (i := 11) (v := .pointer (some ⟨B2, n3, none⟩)) rfl (by kernel_rfl) (by kernel_rfl) (by kernel_rfl) (fun _ _ _ h => absurd h (hQp _ _ _)) (Or.inl ⟨by rfl, fun w hw => by obtain ⟨z0, z1⟩ := hw; go_simp⟩) hHeld ?_
    simp only [Act.put, List.getElem_toArray, List.getElem_cons_zero, List.getElem_cons_succ, List.setIfInBounds_toArray, List.set_cons_zero, List.set_cons_succ]
    refine wpAnyH_take (i := 12) (v := .int .i64 (nth [1, 2, 65536, 1000000000] n3)) rfl (by kernel_rfl) (by kernel_rfl) (by kernel_rfl) (fun _ _ _ h => absurd h (hQp _ _ _)) (Or.inl ⟨by rfl, fun w hw => by obtain ⟨z0, z1⟩ := hw; go_simp⟩) hHeld ?_
    simp only [Act.put, List.getElem_toArray, List.getElem_cons_zero, List.getElem_cons_succ, List.setIfInBounds_toArray, List.set_cons_zero, List.set_cons_succ]
    exact pgS_13 hp p0 hN hNg hQ hQp u' (n1) (n2) (n3) (B2) (X) (rd.below hb') (grown_trans gr (grown_of_below (some R) hb')) (r4.below hb') (hn1) (hn2) (hn3) (rB2') (lB2') (rX') (lX) (ne_B2X) hHeld
set_option maxHeartbeats 4000000 in
theorem pgS_18 {R : Nat} {a : Option Addr} {n c : Nat} {p : Int} {wd : Nat} {w : World} (hp : p < 99998000) (p0 : 0 ≤ p) (hN : R < w.heap.size) (hNg : ∀ g o, a = some ⟨g, o, none⟩ → 0 < n → g < w.heap.size) {Q0 : Exit → Act → World → Prop} (hQ : ∀ (act : Act) (w' : World), (∃ (d6 d7 d8 d9 d10 d11 d12 d13 d14 d15 d16 d17 d18 d19 : Value) (X : Nat) (k l m : Int), act = { tmps := #[.pointer (some ⟨R, 0, none⟩), .int .i64 (wd : Int), undef, undef, .pointer (some ⟨w.heap.size, 0, none⟩), .pointer (some ⟨X, 0, none⟩), d6, d7, d8, d9, d10, d11, d12, d13, d14, d15, d16, d17, d18, d19, undef, undef, undef, undef, undef, undef, undef, undef, undef, undef, undef, undef, undef, undef, undef, undef, undef], defers := [] } ∧ Row w' X [.int .i64 k, .int .i64 l, .int .i64 m, .string ⟨#[]⟩] ∧ Row w' w.heap.size [.int .i64 0, .int .i64 0, .int .i64 0, .string ⟨#[]⟩] ∧ Rdr w' R a n c (p + 3) ∧ w.heap.size < X ∧ w.grownBy w' (some R)) → Q0 .normal act w') (hQp : ∀ c a w, ¬ Q0 (.panic c) a w) (u : World) (n1 : Nat) (n2 : Nat) (n3 : Nat) (rd : Rdr u R a n c (p + 3)) (gr : w.grownBy u (some R)) (r4 : Row u w.heap.size [.int .i64 0, .int .i64 0, .int .i64 0, .string ⟨#[]⟩]) (hn1 : n1 < 4) (hn2 : n2 < 4) (hn3 : n3 < 4) (hHeld : (fun w' => True) u) : wpAnyH Tryd.prog .any pgSOps Q0 (fun w' => True) 9 #[true, true, true, false, true, true, false, false, false, true, true, false, false, false, false, false] { tmps := #[.pointer (some ⟨R, 0, none⟩), .int .i64 (wd : Int), undef, undef, .pointer (some ⟨w.heap.size, 0, none⟩), undef, .pointer (some ⟨R, 0, none⟩), .int .i64 (n1 : Int), .int .i64 (1 + (n1 : Int)), undef, .pointer (some ⟨R, 0, none⟩), .int .i64 (n2 : Int), undef, undef, undef, .pointer (some ⟨R, 0, none⟩), .int .i64 (n3 : Int), undef, undef, undef, undef, undef, undef, undef, undef, undef, undef, undef, undef, undef, undef, undef, undef, undef, undef, undef, undef], defers := [] } u := by
  unfold pgSOps
  refine wpAnyH_ready (rs := [3, 8, 14]) (by kernel_rfl) (by simp) ?_
  refine AllReadyH.cons rfl (fun K hK => ?_) (AllReadyH.cons rfl (fun K hK => ?_) (AllReadyH.cons rfl (fun K hK => ?_) AllReadyH.nil))
  · go_simp
    obtain ⟨u', e_u⟩ : ∃ xw, xw = u.alloc (.cells #[.int .i64 1, .int .i64 2, .int .i64 256, .int .i64 60000] 3) := ⟨_, rfl⟩
    have hb' : Below u.heap.size u u' := by rw [e_u]; exact below_nw _ _
    have rB1' : Row u' u.heap.size ([1, 2, 256, 60000].map (Value.int .i64)) := by rw [e_u]; exact row_new _ _ _
    have l4 := r4.lt
    rw [← e_u]
    clear e_u
    obtain ⟨B1, e_B⟩ : ∃ xb, xb = u.heap.size := ⟨_, rfl⟩
    rw [← e_B] at rB1'
    rw [← e_B]
    have hbn1 : (n1 : Int) < 4 := by omega
    have hbn2 : (n2 : Int) < 4 := by omega
    have hbn3 : (n3 : Int) < 4 := by omega
    have lB1' : w.heap.size < B1 := by omega
    clear e_B
    refine hK.out _ _ (trivial) (fun _ => ?_)
    clear hK K
    try simp only [Act.put, List.getElem_toArray, List.getElem_cons_zero, List.getElem_cons_succ, List.setIfInBounds_toArray, List.set_cons_zero, List.set_cons_succ]
    have hHeld : (fun w' => w'.cell? ⟨B1, n2, none⟩ = some (.int .i64 (nth [1, 2, 256, 60000] n2)) ∧ True) u' := ⟨(rB1').nth (by simpa using hn2), trivial⟩
    refine wpAnyH_more (S' := fun w' => w'.cell? ⟨B1, n2, none⟩ = some (.int .i64 (nth [1, 2, 256, 60000] n2)) ∧ True) (fun _ h => h.2) _ _ _ _ ?_
    refine wpAnyH_take (i := 6) (v := .pointer (some ⟨B1, n2, none⟩)) rfl (by kernel_rfl) (by kernel_rfl) (by kernel_rfl) (fun _ _ _ h => absurd h (hQp _ _ _)) (Or.inl ⟨by rfl, fun w hw => by obtain ⟨z0, z1⟩ := hw; go_simp⟩) hHeld ?_
    simp only [Act.put, List.getElem_toArray, List.getElem_cons_zero, List.getElem_cons_succ, List.setIfInBounds_toArray, List.set_cons_zero, List.set_cons_succ]
    refine wpAnyH_take (i := 7) (v := .int .i64 (nth [1, 2, 256, 60000] n2)) rfl (by kernel_rfl) (by kernel_rfl) (by kernel_rfl) (fun _ _ _ h => absurd h (hQp _ _ _)) (Or.inl ⟨by rfl, fun w hw => by obtain ⟨z0, z1⟩ := hw; go_simp⟩) hHeld ?_
    simp only [Act.put, List.getElem_toArray, List.getElem_cons_zero, List.getElem_cons_succ, List.setIfInBounds_toArray, List.set_cons_zero, List.set_cons_succ]
    exact pgS_6 hp p0 hN hNg hQ hQp u' (n1) (n2) (n3) (B1) (rd.below hb') (grown_trans gr (grown_of_below (some R) hb')) (r4.below hb') (hn1) (hn2) (hn3) (rB1') (lB1') hHeld
  · go_simp
    obtain ⟨u', e_u⟩ : ∃ xw, xw = u.alloc (.cells #[.int .i64 1, .int .i64 2, .int .i64 65536, .int .i64 1000000000] 3) := ⟨_, rfl⟩
    have hb' : Below u.heap.size u u' := by rw [e_u]; exact below_nw _ _
    have rB2' : Row u' u.heap.size ([1, 2, 65536, 1000000000].map (Value.int .i64)) := by rw [e_u]; exact row_new _ _ _
    have l4 := r4.lt
    rw [← e_u]
    clear e_u
    obtain ⟨B2, e_B⟩ : ∃ xb, xb = u.heap.size := ⟨_, rfl⟩
    rw [← e_B] at rB2'
    rw [← e_B]
    have hbn1 : (n1 : Int) < 4 := by omega
    have hbn2 : (n2 : Int) < 4 := by omega
    have hbn3 : (n3 : Int) < 4 := by omega
    have lB2' : w.heap.size < B2 := by omega
    clear e_B
    refine hK.out _ _ (trivial) (fun _ => ?_)
    clear hK K
    try simp only [Act.put, List.getElem_toArray, List.getElem_cons_zero, List.getElem_cons_succ, List.setIfInBounds_toArray, List.set_cons_zero, List.set_cons_succ]
    have hHeld : (fun w' => w'.cell? ⟨B2, n3, none⟩ = some (.int .i64 (nth [1, 2, 65536, 1000000000] n3)) ∧ True) u' := ⟨(rB2').nth (by simpa using hn3), trivial⟩
    refine wpAnyH_more (S' := fun w' => w'.cell? ⟨B2, n3, none⟩ = some (.int .i64 (nth [1, 2, 65536, 1000000000] n3)) ∧ True) (fun _ h => h.2) _ _ _ _ ?_
    refine wpAnyH_take (i := 11) (v := .pointer (some ⟨B2, n3, none⟩)) rfl (by kernel_rfl) (by kernel_rfl) (by kernel_rfl) (fun _ _ _ h => absurd h (hQp _ _ _)) (Or.inl ⟨by rfl, fun w hw => by obtain ⟨z0, z1⟩ := hw; go_simp⟩) hHeld ?_
    simp only [Act.put, List.getElem_toArray, List.getElem_cons_zero, List.getElem_cons_succ, List.setIfInBounds_toArray, List.set_cons_zero, List.set_cons_succ]
    refine wpAnyH_take (i := 12) (v := .int .i64 (nth [1, 2, 65536, 1000000000] n3)) rfl (by kernel_rfl) (by kernel_rfl) (by kernel_rfl) (fun _ _ _ h => absurd h (hQp _ _ _)) (Or.inl ⟨by rfl, fun w hw => by obtain ⟨z0, z1⟩ := hw; go_simp⟩) hHeld ?_
    simp only [Act.put, List.getElem_toArray, List.getElem_cons_zero, List.getElem_cons_succ, List.setIfInBounds_toArray, List.set_cons_zero, List.set_cons_succ]
    exact pgS_14 hp p0 hN hNg hQ hQp u' (n1) (n2) (n3) (B2) (rd.below hb') (grown_trans gr (grown_of_below (some R) hb')) (r4.below hb') (hn1) (hn2) (hn3) (rB2') (lB2') hHeld
  · go_simp
    obtain ⟨u', e_u⟩ : ∃ xw, xw = u.alloc (.cells #[.int .i64 0, .int .i64 0, .int .i64 0, .string ⟨#[]⟩] 23) := ⟨_, rfl⟩
    have hb' : Below u.heap.size u u' := by rw [e_u]; exact below_nw _ _
    have rX' : Row u' u.heap.size [.int .i64 0, .int .i64 0, .int .i64 0, .string ⟨#[]⟩] := by rw [e_u]; exact row_new _ _ _
    have l4 := r4.lt
    rw [← e_u]
    clear e_u
    obtain ⟨X, e_B⟩ : ∃ xb, xb = u.heap.size := ⟨_, rfl⟩
    rw [← e_B] at rX'
    rw [← e_B]
    have hbn1 : (n1 : Int) < 4 := by omega
    have hbn2 : (n2 : Int) < 4 := by omega
    have hbn3 : (n3 : Int) < 4 := by omega
    have lX' : w.heap.size < X := by omega
    clear e_B
    refine hK.out _ _ (trivial) (fun _ => ?_)
    clear hK K
    try simp only [Act.put, List.getElem_toArray, List.getElem_cons_zero, List.getElem_cons_succ, List.setIfInBounds_toArray, List.set_cons_zero, List.set_cons_succ]
    have hHeld : (fun w' => True) u' := trivial
    exact pgS_17 hp p0 hN hNg hQ hQp u' (n1) (n2) (n3) (X) (rd.below hb') (grown_trans gr (grown_of_below (some R) hb')) (r4.below hb') (hn1) (hn2) (hn3) (rX') (lX') hHeld
set_option maxHeartbeats 4000000 in
theorem pgS_19 {R : Nat} {a : Option Addr} {n c : Nat} {p : Int} {wd : Nat} {w : World} (hp : p < 99998000) (p0 : 0 ≤ p) (hN : R < w.heap.size) (hNg : ∀ g o, a = some ⟨g, o, none⟩ → 0 < n → g < w.heap.size) {Q0 : Exit → Act → World → Prop} (hQ : ∀ (act : Act) (w' : World), (∃ (d6 d7 d8 d9 d10 d11 d12 d13 d14 d15 d16 d17 d18 d19 : Value) (X : Nat) (k l m : Int), act = { tmps := #[.pointer (some ⟨R, 0, none⟩), .int .i64 (wd : Int), undef, undef, .pointer (some ⟨w.heap.size, 0, none⟩), .pointer (some ⟨X, 0, none⟩), d6, d7, d8, d9, d10, d11, d12, d13, d14, d15, d16, d17, d18, d19, undef, undef, undef, undef, undef, undef, undef, undef, undef, undef, undef, undef, undef, undef, undef, undef, undef], defers := [] } ∧ Row w' X [.int .i64 k, .int .i64 l, .int .i64 m, .string ⟨#[]⟩] ∧ Row w' w.heap.size [.int .i64 0, .int .i64 0, .int .i64 0, .string ⟨#[]⟩] ∧ Rdr w' R a n c (p + 3) ∧ w.heap.size < X ∧ w.grownBy w' (some R)) → Q0 .normal act w') (hQp : ∀ c a w, ¬ Q0 (.panic c) a w) (u : World) (n1 : Nat) (n2 : Nat) (X : Nat) (rd : Rdr u R a n c (p + 2)) (gr : w.grownBy u (some R)) (r4 : Row u w.heap.size [.int .i64 0, .int .i64 0, .int .i64 0, .string ⟨#[]⟩]) (hn1 : n1 < 4) (hn2 : n2 < 4) (rX : Row u X [.int .i64 0, .int .i64 0, .int .i64 0, .string ⟨#[]⟩]) (lX : w.heap.size < X) (hHeld : (fun w' => True) u) : wpAnyH Tryd.prog .any pgSOps Q0 (fun w' => True) 9 #[true, true, true, false, true, true, false, false, false, true, false, false, false, false, true, false] { tmps := #[.pointer (some ⟨R, 0, none⟩), .int .i64 (wd : Int), undef, undef, .pointer (some ⟨w.heap.size, 0, none⟩), .pointer (some ⟨X, 0, none⟩), .pointer (some ⟨R, 0, none⟩), .int .i64 (n1 : Int), .int .i64 (1 + (n1 : Int)), undef, .pointer (some ⟨R, 0, none⟩), .int .i64 (n2 : Int), undef, undef, undef, .pointer (some ⟨R, 0, none⟩), undef, undef, undef, undef, undef, undef, undef, undef, undef, undef, undef, undef, undef, undef, undef, undef, undef, undef, undef, undef, undef], defers := [] } u := by
  unfold pgSOps
  refine wpAnyH_ready (rs := [3, 8, 10]) (by kernel_rfl) (by simp) ?_
  refine AllReadyH.cons rfl (fun K hK => ?_) (AllReadyH.cons rfl (fun K hK => ?_) (AllReadyH.cons rfl (fun K hK => ?_) AllReadyH.nil))
  · go_simp
    obtain ⟨u', e_u⟩ : ∃ xw, xw = u.alloc (.cells #[.int .i64 1, .int .i64 2, .int .i64 256, .int .i64 60000] 3) := ⟨_, rfl⟩
    have hb' : Below u.heap.size u u' := by rw [e_u]; exact below_nw _ _
    have rB1' : Row u' u.heap.size ([1, 2, 256, 60000].map (Value.int .i64)) := by rw [e_u]; exact row_new _ _ _
    have l4 := r4.lt
    rw [← e_u]
    clear e_u
    obtain ⟨B1, e_B⟩ : ∃ xb, xb = u.heap.size := ⟨_, rfl⟩
    rw [← e_B] at rB1'
    rw [← e_B]
    have hbn1 : (n1 : Int) < 4 := by omega
    have hbn2 : (n2 : Int) < 4 := by omega
    have rX' := rX.below hb'
    have ltX := rX.lt
    have lB1' : w.heap.size < B1 := by omega
    have ne_B1X : B1 ≠ X := by omega
    have ne_XB1 : X ≠ B1 := by omega
    clear e_B
    refine hK.out _ _ (trivial) (fun _ => ?_)
    clear hK K
    try simp only [Act.put, List.getElem_toArray, List.getElem_cons_zero, List.getElem_cons_succ, List.setIfInBounds_toArray, List.set_cons_zero, List.set_cons_succ]
    have hHeld : (fun w' => w'.cell? ⟨B1, n2, none⟩ = some (.int .i64 (nth [1, 2, 256, 60000] n2)) ∧ True) u' := ⟨(rB1').nth (by simpa using hn2), trivial⟩
    refine wpAnyH_more (S' := fun w' => w'.cell? ⟨B1, n2, none⟩ = some (.int .i64 (nth [1, 2, 256, 60000] n2)) ∧ True) (fun _ h => h.2) _ _ _ _ ?_
    refine wpAnyH_take (i := 6) (v := .pointer (some ⟨B1, n2, none⟩)) rfl (by kernel_rfl) (by kernel_rfl) (by kernel_rfl) (fun _ _ _ h => absurd h (hQp _ _ _)) (Or.inl ⟨by rfl, fun w hw => by obtain ⟨z0, z1⟩ := hw; go_simp⟩) hHeld ?_
    simp only [Act.put, List.getElem_toArray, List.getElem_cons_zero, List.getElem_cons_succ, List.setIfInBounds_toArray, List.set_cons_zero, List.set_cons_succ]
    refine wpAnyH_take (i := 7) (v := .int .i64 (nth [1, 2, 256, 60000] n2)) rfl (by kernel_rfl) (by kernel_rfl) (by kernel_rfl) (fun _ _ _ h => absurd h (hQp _ _ _)) (Or.inl ⟨by rfl, fun w hw => by obtain ⟨z0, z1⟩ := hw; go_simp⟩) hHeld ?_
    simp only [Act.put, List.getElem_toArray, List.getElem_cons_zero, List.getElem_cons_succ, List.setIfInBounds_toArray, List.set_cons_zero, List.set_cons_succ]
    exact pgS_7 hp p0 hN hNg hQ hQp u' (n1) (n2) (B1) (X) (rd.below hb') (grown_trans gr (grown_of_below (some R) hb')) (r4.below hb') (hn1) (hn2) (rB1') (lB1') (rX') (lX) (ne_B1X) hHeld
  · go_simp
    obtain ⟨u', e_u⟩ : ∃ xw, xw = u.alloc (.cells #[.int .i64 1, .int .i64 2, .int .i64 65536, .int .i64 1000000000] 3) := ⟨_, rfl⟩
    have hb' : Below u.heap.size u u' := by rw [e_u]; exact below_nw _ _
    have rB2' : Row u' u.heap.size ([1, 2, 65536, 1000000000].map (Value.int .i64)) := by rw [e_u]; exact row_new _ _ _
    have l4 := r4.lt
    rw [← e_u]
    clear e_u
    obtain ⟨B2, e_B⟩ : ∃ xb, xb = u.heap.size := ⟨_, rfl⟩
    rw [← e_B] at rB2'
    rw [← e_B]
    have hbn1 : (n1 : Int) < 4 := by omega
    have hbn2 : (n2 : Int) < 4 := by omega
    have rX' := rX.below hb'
    have ltX := rX.lt
    have lB2' : w.heap.size < B2 := by omega
    have ne_B2X : B2 ≠ X := by omega
    have ne_XB2 : X ≠ B2 := by omega
    clear e_B
    refine hK.out _ _ (trivial) (fun _ => ?_)
    clear hK K
    try simp only [Act.put, List.getElem_toArray, List.getElem_cons_zero, List.getElem_cons_succ, List.setIfInBounds_toArray, List.set_cons_zero, List.set_cons_succ]
    have hHeld : (fun w' => True) u' := trivial
    exact pgS_15 hp p0 hN hNg hQ hQp u' (n1) (n2) (B2) (X) (rd.below hb') (grown_trans gr (grown_of_below (some R) hb')) (r4.below hb') (hn1) (hn2) (rB2') (lB2') (rX') (lX) (ne_B2X) hHeld
  · refine step_call (by rfl) 21 #[.pointer (some ⟨R, 0, none⟩), .int .i64 4] (by go_simp) (pick_r R a n c (p + 2) 4 _ rd (by omega)) ?_
    rintro e u' ⟨⟨v', rfl, v0, v1⟩, rd', hg'⟩
    obtain ⟨n3, rfl⟩ : ∃ k : Nat, v' = (k : Int) := ⟨v'.toNat, by omega⟩
    have hn3 : n3 < 4 := by omega
    have hbn3 : (n3 : Int) < 4 := by omega
    clear v1
    have hw' : IntKind.i64.wrap (1 + (n3 : Int)) = 1 + (n3 : Int) := wrap_i64_id _ (by omega) (by omega)
    refine ⟨_, rfl, ?_⟩
    have rX' := rX.grown hg' (fun e => by injection e with e; omega)
    have r4' := r4.grown hg' (fun e => by injection e with e; omega)
    refine hK.out _ _ (trivial) (fun _ => ?_)
    clear hK K
    try simp only [Act.put, List.getElem_toArray, List.getElem_cons_zero, List.getElem_cons_succ, List.setIfInBounds_toArray, List.set_cons_zero, List.set_cons_succ]
    have hHeld : (fun w' => True) u' := trivial
    exact pgS_17 hp p0 hN hNg hQ hQp u' (n1) (n2) (n3) (X) (by have e : p + 3 = p + 2 + 1 := (by omega); rw [e]; exact rd') (grown_trans gr hg') (r4') (hn1) (hn2) (hn3) (rX') (lX) hHeld
set_option maxHeartbeats 4000000 in
theorem pgS_20 {R : Nat} {a : Option Addr} {n c : Nat} {p : Int} {wd : Nat} {w : World} (hp : p < 99998000) (p0 : 0 ≤ p) (hN : R < w.heap.size) (hNg : ∀ g o, a = some ⟨g, o, none⟩ → 0 < n → g < w.heap.size) {Q0 : Exit → Act → World → Prop} (hQ : ∀ (act : Act) (w' : World), (∃ (d6 d7 d8 d9 d10 d11 d12 d13 d14 d15 d16 d17 d18 d19 : Value) (X : Nat) (k l m : Int), act = { tmps := #[.pointer (some ⟨R, 0, none⟩), .int .i64 (wd : Int), undef, undef, .pointer (some ⟨w.heap.size, 0, none⟩), .pointer (some ⟨X, 0, none⟩), d6, d7, d8, d9, d10, d11, d12, d13, d14, d15, d16, d17, d18, d19, undef, undef, undef, undef, undef, undef, undef, undef, undef, undef, undef, undef, undef, undef, undef, undef, undef], defers := [] } ∧ Row w' X [.int .i64 k, .int .i64 l, .int .i64 m, .string ⟨#[]⟩] ∧ Row w' w.heap.size [.int .i64 0, .int .i64 0, .int .i64 0, .string ⟨#[]⟩] ∧ Rdr w' R a n c (p + 3) ∧ w.heap.size < X ∧ w.grownBy w' (some R)) → Q0 .normal act w') (hQp : ∀ c a w, ¬ Q0 (.panic c) a w) (u : World) (n1 : Nat) (n2 : Nat) (rd : Rdr u R a n c (p + 2)) (gr : w.grownBy u (some R)) (r4 : Row u w.heap.size [.int .i64 0, .int .i64 0, .int .i64 0, .string ⟨#[]⟩]) (hn1 : n1 < 4) (hn2 : n2 < 4) (hHeld : (fun w' => True) u) : wpAnyH Tryd.prog .any pgSOps Q0 (fun w' => True) 10 #[true, true, true, false, true, true, false, false, false, true, false, false, false, false, false, false] { tmps := #[.pointer (some ⟨R, 0, none⟩), .int .i64 (wd : Int), undef, undef, .pointer (some ⟨w.heap.size, 0, none⟩), undef, .pointer (some ⟨R, 0, none⟩), .int .i64 (n1 : Int), .int .i64 (1 + (n1 : Int)), undef, .pointer (some ⟨R, 0, none⟩), .int .i64 (n2 : Int), undef, undef, undef, .pointer (some ⟨R, 0, none⟩), undef, undef, undef, undef, undef, undef, undef, undef, undef, undef, undef, undef, undef, undef, undef, undef, undef, undef, undef, undef, undef], defers := [] } u := by
  unfold pgSOps
  refine wpAnyH_ready (rs := [3, 8, 10, 14]) (by kernel_rfl) (by simp) ?_
  refine AllReadyH.cons rfl (fun K hK => ?_) (AllReadyH.cons rfl (fun K hK => ?_) (AllReadyH.cons rfl (fun K hK => ?_) (AllReadyH.cons rfl (fun K hK => ?_) AllReadyH.nil)))
  · go_simp
    obtain ⟨u', e_u⟩ : ∃ xw, xw = u.alloc (.cells #[.int .i64 1, .int .i64 2, .int .i64 256, .int .i64 60000] 3) := ⟨_, rfl⟩
    have hb' : Below u.heap.size u u' := by rw [e_u]; exact below_nw _ _
    have rB1' : Row u' u.heap.size ([1, 2, 256, 60000].map (Value.int .i64)) := by rw [e_u]; exact row_new _ _ _
    have l4 := r4.lt
    rw [← e_u]
    clear e_u
    obtain ⟨B1, e_B⟩ : ∃ xb, xb = u.heap.size := ⟨_, rfl⟩
    rw [← e_B] at rB1'
    rw [← e_B]
    have hbn1 : (n1 : Int) < 4 := by omega
    have hbn2 : (n2 : Int) < 4 := by omega
    have lB1' : w.heap.size < B1 := by omega
    clear e_B
    refine hK.out _ _ (trivial) (fun _ => ?_)
    clear hK K
    try simp only [Act.put, List.getElem_toArray, List.getElem_cons_zero, List.getElem_cons_succ, List.setIfInBounds_toArray, List.set_cons_zero, List.set_cons_succ]
    have hHeld : (fun w' => w'.cell? ⟨B1, n2, none⟩ = some (.int .i64 (nth [1, 2, 256, 60000] n2)) ∧ True) u' := ⟨(rB1').nth (by simpa using hn2), trivial⟩
    refine wpAnyH_more (S' := fun w' => w'.cell? ⟨B1, n2, none⟩ = some (.int .i64 (nth [1, 2, 256, 60000] n2)) ∧ True) (fun _ h => h.2) _ _ _ _ ?_
    refine wpAnyH_take (i := 6) (v := .pointer (some ⟨B1, n2, none⟩)) rfl (by kernel_rfl) (by kernel_rfl) (by kernel_rfl) (fun _ _ _ h => absurd h (hQp _ _ _)) (Or.inl ⟨by rfl, fun w hw => by obtain ⟨z0, z1⟩ := hw; go_simp⟩) hHeld ?_
    simp only [Act.put, List.getElem_toArray, List.getElem_cons_zero, List.getElem_cons_succ, List.setIfInBounds_toArray, List.set_cons_zero, List.set_cons_succ]
    refine wpAnyH_take (i := 7) (v := .int .i64 (nth [1, 2, 256, 60000] n2)) rfl (by kernel_rfl) (by kernel_rfl) (by kernel_rfl) (fun _ _ _ h => absurd h (hQp _ _ _)) (Or.inl ⟨by rfl, fun w hw => by obtain ⟨z0, z1⟩ := hw; go_simp⟩) hHeld ?_
    simp only [Act.put, List.getElem_toArray, List.getElem_cons_zero, List.getElem_cons_succ, List.setIfInBounds_toArray, List.set_cons_zero, List.set_cons_succ]
    exact pgS_8 hp p0 hN hNg hQ hQp u' (n1) (n2) (B1) (rd.below hb') (grown_trans gr (grown_of_below (some R) hb')) (r4.below hb') (hn1) (hn2) (rB1') (lB1') hHeld
  · go_simp
    obtain ⟨u', e_u⟩ : ∃ xw, xw = u.alloc (.cells #[.int .i64 1, .int .i64 2, .int .i64 65536, .int .i64 1000000000] 3) := ⟨_, rfl⟩
    have hb' : Below u.heap.size u u' := by rw [e_u]; exact below_nw _ _
    have rB2' : Row u' u.heap.size ([1, 2, 65536, 1000000000].map (Value.int .i64)) := by rw [e_u]; exact row_new _ _ _
    have l4 := r4.lt
    rw [← e_u]
    clear e_u
    obtain ⟨B2, e_B⟩ : ∃ xb, xb = u.heap.size := ⟨_, rfl⟩
    rw [← e_B] at rB2'
    rw [← e_B]
    have hbn1 : (n1 : Int) < 4 := by omega
    have hbn2 : (n2 : Int) < 4 := by omega
    have lB2' : w.heap.size < B2 := by omega
    clear e_B
    refine hK.out _ _ (trivial) (fun _ => ?_)
    clear hK K
    try simp only [Act.put, List.getElem_toArray, List.getElem_cons_zero, List.getElem_cons_succ, List.setIfInBounds_toArray, List.set_cons_zero, List.set_cons_succ]
    have hHeld : (fun w' => True) u' := trivial
    exact pgS_16 hp p0 hN hNg hQ hQp u' (n1) (n2) (B2) (rd.below hb') (grown_trans gr (grown_of_below (some R) hb')) (r4.below hb') (hn1) (hn2) (rB2') (lB2') hHeld
  · refine step_call (by rfl) 21 #[.pointer (some ⟨R, 0, none⟩), .int .i64 4] (by go_simp) (pick_r R a n c (p + 2) 4 _ rd (by omega)) ?_
    rintro e u' ⟨⟨v', rfl, v0, v1⟩, rd', hg'⟩
    obtain ⟨n3, rfl⟩ : ∃ k : Nat, v' = (k : Int) := ⟨v'.toNat, by omega⟩
    have hn3 : n3 < 4 := by omega
    have hbn3 : (n3 : Int) < 4 := by omega
    clear v1
    have hw' : IntKind.i64.wrap (1 + (n3 : Int)) = 1 + (n3 : Int) := wrap_i64_id _ (by omega) (by omega)
    refine ⟨_, rfl, ?_⟩
    have r4' := r4.grown hg' (fun e => by injection e with e; omega)
    refine hK.out _ _ (trivial) (fun _ => ?_)
    clear hK K
    try simp only [Act.put, List.getElem_toArray, List.getElem_cons_zero, List.getElem_cons_succ, List.setIfInBounds_toArray, List.set_cons_zero, List.set_cons_succ]
    have hHeld : (fun w' => True) u' := trivial
    exact pgS_18 hp p0 hN hNg hQ hQp u' (n1) (n2) (n3) (by have e : p + 3 = p + 2 + 1 := (by omega); rw [e]; exact rd') (grown_trans gr hg') (r4') (hn1) (hn2) (hn3) hHeld
  · go_simp
    obtain ⟨u', e_u⟩ : ∃ xw, xw = u.alloc (.cells #[.int .i64 0, .int .i64 0, .int .i64 0, .string ⟨#[]⟩] 23) := ⟨_, rfl⟩
    have hb' : Below u.heap.size u u' := by rw [e_u]; exact below_nw _ _
    have rX' : Row u' u.heap.size [.int .i64 0, .int .i64 0, .int .i64 0, .string ⟨#[]⟩] := by rw [e_u]; exact row_new _ _ _
    have l4 := r4.lt
    rw [← e_u]
    clear e_u
    obtain ⟨X, e_B⟩ : ∃ xb, xb = u.heap.size := ⟨_, rfl⟩
    rw [← e_B] at rX'
    rw [← e_B]
    have hbn1 : (n1 : Int) < 4 := by omega
    have hbn2 : (n2 : Int) < 4 := by omega
    have lX' : w.heap.size < X := by omega
    clear e_B
    refine hK.out _ _ (trivial) (fun _ => ?_)
    clear hK K
    try simp only [Act.put, List.getElem_toArray, List.getElem_cons_zero, List.getElem_cons_succ, List.setIfInBounds_toArray, List.set_cons_zero, List.set_cons_succ]
    have hHeld : (fun w' => True) u' := trivial
    exact pgS_19 hp p0 hN hNg hQ hQp u' (n1) (n2) (X) (rd.below hb') (grown_trans gr (grown_of_below (some R) hb')) (r4.below hb') (hn1) (hn2) (rX') (lX') hHeld
set_option maxHeartbeats 4000000 in
theorem pgS_21 {R : Nat} {a : Option Addr} {n c : Nat} {p : Int} {wd : Nat} {w : World} (hp : p < 99998000) (p0 : 0 ≤ p) (hN : R < w.heap.size) (hNg : ∀ g o, a = some ⟨g, o, none⟩ → 0 < n → g < w.heap.size) {Q0 : Exit → Act → World → Prop} (hQ : ∀ (act : Act) (w' : World), (∃ (d6 d7 d8 d9 d10 d11 d12 d13 d14 d15 d16 d17 d18 d19 : Value) (X : Nat) (k l m : Int), act = { tmps := #[.pointer (some ⟨R, 0, none⟩), .int .i64 (wd : Int), undef, undef, .pointer (some ⟨w.heap.size, 0, none⟩), .pointer (some ⟨X, 0, none⟩), d6, d7, d8, d9, d10, d11, d12, d13, d14, d15, d16, d17, d18, d19, undef, undef, undef, undef, undef, undef, undef, undef, undef, undef, undef, undef, undef, undef, undef, undef, undef], defers := [] } ∧ Row w' X [.int .i64 k, .int .i64 l, .int .i64 m, .string ⟨#[]⟩] ∧ Row w' w.heap.size [.int .i64 0, .int .i64 0, .int .i64 0, .string ⟨#[]⟩] ∧ Rdr w' R a n c (p + 3) ∧ w.heap.size < X ∧ w.grownBy w' (some R)) → Q0 .normal act w') (hQp : ∀ c a w, ¬ Q0 (.panic c) a w) (u : World) (n1 : Nat) (B2 : Nat) (X : Nat) (rd : Rdr u R a n c (p + 1)) (gr : w.grownBy u (some R)) (r4 : Row u w.heap.size [.int .i64 0, .int .i64 0, .int .i64 0, .string ⟨#[]⟩]) (hn1 : n1 < 4) (rB2 : Row u B2 ([1, 2, 65536, 1000000000].map (Value.int .i64))) (lB2 : w.heap.size < B2) (rX : Row u X [.int .i64 0, .int .i64 0, .int .i64 0, .string ⟨#[]⟩]) (lX : w.heap.size < X) (neB2X : B2 ≠ X) (hHeld : (fun w' => True) u) : wpAnyH Tryd.prog .any pgSOps Q0 (fun w' => True) 9 #[true, true, true, false, true, false, false, false, true, true, false, false, false, false, true, false] { tmps := #[.pointer (some ⟨R, 0, none⟩), .int .i64 (wd : Int), undef, undef, .pointer (some ⟨w.heap.size, 0, none⟩), .pointer (some ⟨X, 0, none⟩), .pointer (some ⟨R, 0, none⟩), .int .i64 (n1 : Int), .int .i64 (1 + (n1 : Int)), undef, .pointer (some ⟨R, 0, none⟩), undef, undef, undef, .slice (some ⟨B2, 0, none⟩) 4 4, .pointer (some ⟨R, 0, none⟩), undef, undef, undef, undef, undef, undef, undef, undef, undef, undef, undef, undef, undef, undef, undef, undef, undef, undef, undef, undef, undef], defers := [] } u := by
  unfold pgSOps
  refine wpAnyH_ready (rs := [3, 5]) (by kernel_rfl) (by simp) ?_
  refine AllReadyH.cons rfl (fun K hK => ?_) (AllReadyH.cons rfl (fun K hK => ?_) AllReadyH.nil)
  · go_simp
    obtain ⟨u', e_u⟩ : ∃ xw, xw = u.alloc (.cells #[.int .i64 1, .int .i64 2, .int .i64 256, .int .i64 60000] 3) := ⟨_, rfl⟩
    have hb' : Below u.heap.size u u' := by rw [e_u]; exact below_nw _ _
    have rB1' : Row u' u.heap.size ([1, 2, 256, 60000].map (Value.int .i64)) := by rw [e_u]; exact row_new _ _ _
    have l4 := r4.lt
    rw [← e_u]
    clear e_u
    obtain ⟨B1, e_B⟩ : ∃ xb, xb = u.heap.size := ⟨_, rfl⟩
    rw [← e_B] at rB1'
    rw [← e_B]
    have hbn1 : (n1 : Int) < 4 := by omega
    have rB2' := rB2.below hb'
    have ltB2 := rB2.lt
    have rX' := rX.below hb'
    have ltX := rX.lt
    have lB1' : w.heap.size < B1 := by omega
    have ne_B1B2 : B1 ≠ B2 := by omega
    have ne_B2B1 : B2 ≠ B1 := by omega
    have ne_B1X : B1 ≠ X := by omega
    have ne_XB1 : X ≠ B1 := by omega
    clear e_B
    refine hK.out _ _ (trivial) (fun _ => ?_)
    clear hK K
    try simp only [Act.put, List.getElem_toArray, List.getElem_cons_zero, List.getElem_cons_succ, List.setIfInBounds_toArray, List.set_cons_zero, List.set_cons_succ]
    have hHeld : (fun w' => True) u' := trivial
    exact pgS_9 hp p0 hN hNg hQ hQp u' (n1) (B1) (B2) (X) (rd.below hb') (grown_trans gr (grown_of_below (some R) hb')) (r4.below hb') (hn1) (rB1') (lB1') (rB2') (lB2) (rX') (lX) (ne_B1B2) (ne_B1X) (neB2X) hHeld
  · refine step_call (by rfl) 21 #[.pointer (some ⟨R, 0, none⟩), .int .i64 4] (by go_simp) (pick_r R a n c (p + 1) 4 _ rd (by omega)) ?_
    rintro e u' ⟨⟨v', rfl, v0, v1⟩, rd', hg'⟩
    obtain ⟨n2, rfl⟩ : ∃ k : Nat, v' = (k : Int) := ⟨v'.toNat, by omega⟩
    have hn2 : n2 < 4 := by omega
    have hbn2 : (n2 : Int) < 4 := by omega
    clear v1
    have hw' : IntKind.i64.wrap (1 + (n2 : Int)) = 1 + (n2 : Int) := wrap_i64_id _ (by omega) (by omega)
    refine ⟨_, rfl, ?_⟩
    have rB2' := rB2.grown hg' (fun e => by injection e with e; omega)
    have rX' := rX.grown hg' (fun e => by injection e with e; omega)
    have r4' := r4.grown hg' (fun e => by injection e with e; omega)
    refine hK.out _ _ (trivial) (fun _ => ?_)
    clear hK K
    try simp only [Act.put, List.getElem_toArray, List.getElem_cons_zero, List.getElem_cons_succ, List.setIfInBounds_toArray, List.set_cons_zero, List.set_cons_succ]
    have hHeld : (fun w' => True) u' := trivial
    exact pgS_15 hp p0 hN hNg hQ hQp u' (n1) (n2) (B2) (X) (by have e : p + 2 = p + 1 + 1 := (by omega); rw [e]; exact rd') (grown_trans gr hg') (r4') (hn1) (hn2) (rB2') (lB2) (rX') (lX) (neB2X) hHeld
set_option maxHeartbeats 4000000 in
theorem pgS_22 {R : Nat} {a : Option Addr} {n c : Nat} {p : Int} {wd : Nat} {w : World} (hp : p < 99998000) (p0 : 0 ≤ p) (hN : R < w.heap.size) (hNg : ∀ g o, a = some ⟨g, o, none⟩ → 0 < n → g < w.heap.size) {Q0 : Exit → Act → World → Prop} (hQ : ∀ (act : Act) (w' : World), (∃ (d6 d7 d8 d9 d10 d11 d12 d13 d14 d15 d16 d17 d18 d19 : Value) (X : Nat) (k l m : Int), act = { tmps := #[.pointer (some ⟨R, 0, none⟩), .int .i64 (wd : Int), undef, undef, .pointer (some ⟨w.heap.size, 0, none⟩), .pointer (some ⟨X, 0, none⟩), d6, d7, d8, d9, d10, d11, d12, d13, d14, d15, d16, d17, d18, d19, undef, undef, undef, undef, undef, undef, undef, undef, undef, undef, undef, undef, undef, undef, undef, undef, undef], defers := [] } ∧ Row w' X [.int .i64 k, .int .i64 l, .int .i64 m, .string ⟨#[]⟩] ∧ Row w' w.heap.size [.int .i64 0, .int .i64 0, .int .i64 0, .string ⟨#[]⟩] ∧ Rdr w' R a n c (p + 3) ∧ w.heap.size < X ∧ w.grownBy w' (some R)) → Q0 .normal act w') (hQp : ∀ c a w, ¬ Q0 (.panic c) a w) (u : World) (n1 : Nat) (B2 : Nat) (rd : Rdr u R a n c (p + 1)) (gr : w.grownBy u (some R)) (r4 : Row u w.heap.size [.int .i64 0, .int .i64 0, .int .i64 0, .string ⟨#[]⟩]) (hn1 : n1 < 4) (rB2 : Row u B2 ([1, 2, 65536, 1000000000].map (Value.int .i64))) (lB2 : w.heap.size < B2) (hHeld : (fun w' => True) u) : wpAnyH Tryd.prog .any pgSOps Q0 (fun w' => True) 10 #[true, true, true, false, true, false, false, false, true, true, false, false, false, false, false, false] { tmps := #[.pointer (some ⟨R, 0, none⟩), .int .i64 (wd : Int), undef, undef, .pointer (some ⟨w.heap.size, 0, none⟩), undef, .pointer (some ⟨R, 0, none⟩), .int .i64 (n1 : Int), .int .i64 (1 + (n1 : Int)), undef, .pointer (some ⟨R, 0, none⟩), undef, undef, undef, .slice (some ⟨B2, 0, none⟩) 4 4, .pointer (some ⟨R, 0, none⟩), undef, undef, undef, undef, undef, undef, undef, undef, undef, undef, undef, undef, undef, undef, undef, undef, undef, undef, undef, undef, undef], defers := [] } u := by
  unfold pgSOps
  refine wpAnyH_ready (rs := [3, 5, 14]) (by kernel_rfl) (by simp) ?_
  refine AllReadyH.cons rfl (fun K hK => ?_) (AllReadyH.cons rfl (fun K hK => ?_) (AllReadyH.cons rfl (fun K hK => ?_) AllReadyH.nil))
  · go_simp
    obtain ⟨u', e_u⟩ : ∃ xw, xw = u.alloc (.cells #[.int .i64 1, .int .i64 2, .int .i64 256, .int .i64 60000] 3) := ⟨_, rfl⟩
    have hb' : Below u.heap.size u u' := by rw [e_u]; exact below_nw _ _
    have rB1' : Row u' u.heap.size ([1, 2, 256, 60000].map (Value.int .i64)) := by rw [e_u]; exact row_new _ _ _
    have l4 := r4.lt
    rw [← e_u]
    clear e_u
    obtain ⟨B1, e_B⟩ : ∃ xb, xb = u.heap.size := ⟨_, rfl⟩
    rw [← e_B] at rB1'
    rw [← e_B]
    have hbn1 : (n1 : Int) < 4 := by omega
    have rB2' := rB2.below hb'
    have ltB2 := rB2.lt
    have lB1' : w.heap.size < B1 := by omega
    have ne_B1B2 : B1 ≠ B2 := by omega
    have ne_B2B1 : B2 ≠ B1 := by omega
    clear e_B
    refine hK.out _ _ (trivial) (fun _ => ?_)
    clear hK K
    try simp only [Act.put, List.getElem_toArray, List.getElem_cons_zero, List.getElem_cons_succ, List.setIfInBounds_toArray, List.set_cons_zero, List.set_cons_succ]
    have hHeld : (fun w' => True) u' := trivial
    exact pgS_10 hp p0 hN hNg hQ hQp u' (n1) (B1) (B2) (rd.below hb') (grown_trans gr (grown_of_below (some R) hb')) (r4.below hb') (hn1) (rB1') (lB1') (rB2') (lB2) (ne_B1B2) hHeld
  · refine step_call (by rfl) 21 #[.pointer (some ⟨R, 0, none⟩), .int .i64 4] (by go_simp) (pick_r R a n c (p + 1) 4 _ rd (by omega)) ?_
    rintro e u' ⟨⟨v', rfl, v0, v1⟩, rd', hg'⟩
    obtain ⟨n2, rfl⟩ : ∃ k : Nat, v' = (k : Int) := ⟨v'.toNat, by omega⟩
    have hn2 : n2 < 4 := by omega
    have hbn2 : (n2 : Int) < 4 := by omega
    clear v1
    have hw' : IntKind.i64.wrap (1 + (n2 : Int)) = 1 + (n2 : Int) := wrap_i64_id _ (by omega) (by omega)
    refine ⟨_, rfl, ?_⟩
    have rB2' := rB2.grown hg' (fun e => by injection e with e; omega)
    have r4' := r4.grown hg' (fun e => by injection e with e; omega)
    refine hK.out _ _ (trivial) (fun _ => ?_)
    clear hK K
    try simp only [Act.put, List.getElem_toArray, List.getElem_cons_zero, List.getElem_cons_succ, List.setIfInBounds_toArray, List.set_cons_zero, List.set_cons_succ]
    have hHeld : (fun w' => True) u' := trivial
    exact pgS_16 hp p0 hN hNg hQ hQp u' (n1) (n2) (B2) (by have e : p + 2 = p + 1 + 1 := (by omega); rw [e]; exact rd') (grown_trans gr hg') (r4') (hn1) (hn2) (rB2') (lB2) hHeld
  · go_simp
    obtain ⟨u', e_u⟩ : ∃ xw, xw = u.alloc (.cells #[.int .i64 0, .int .i64 0, .int .i64 0, .string ⟨#[]⟩] 23) := ⟨_, rfl⟩
    have hb' : Below u.heap.size u u' := by rw [e_u]; exact below_nw _ _
    have rX' : Row u' u.heap.size [.int .i64 0, .int .i64 0, .int .i64 0, .string ⟨#[]⟩] := by rw [e_u]; exact row_new _ _ _
    have l4 := r4.lt
    rw [← e_u]
    clear e_u
    obtain ⟨X, e_B⟩ : ∃ xb, xb = u.heap.size := ⟨_, rfl⟩
    rw [← e_B] at rX'
    rw [← e_B]
    have hbn1 : (n1 : Int) < 4 := by omega
    have rB2' := rB2.below hb'
    have ltB2 := rB2.lt
    have lX' : w.heap.size < X := by omega
    have ne_XB2 : X ≠ B2 := by omega
    have ne_B2X : B2 ≠ X := by omega
    clear e_B
    refine hK.out _ _ (trivial) (fun _ => ?_)
    clear hK K
    try simp only [Act.put, List.getElem_toArray, List.getElem_cons_zero, List.getElem_cons_succ, List.setIfInBounds_toArray, List.set_cons_zero, List.set_cons_succ]
    have hHeld : (fun w' => True) u' := trivial
    exact pgS_21 hp p0 hN hNg hQ hQp u' (n1) (B2) (X) (rd.below hb') (grown_trans gr (grown_of_below (some R) hb')) (r4.below hb') (hn1) (rB2') (lB2) (rX') (lX') (ne_B2X) hHeld
set_option maxHeartbeats 4000000 in
theorem pgS_23 {R : Nat} {a : Option Addr} {n c : Nat} {p : Int} {wd : Nat} {w : World} (hp : p < 99998000) (p0 : 0 ≤ p) (hN : R < w.heap.size) (hNg : ∀ g o, a = some ⟨g, o, none⟩ → 0 < n → g < w.heap.size) {Q0 : Exit → Act → World → Prop} (hQ : ∀ (act : Act) (w' : World), (∃ (d6 d7 d8 d9 d10 d11 d12 d13 d14 d15 d16 d17 d18 d19 : Value) (X : Nat) (k l m : Int), act = { tmps := #[.pointer (some ⟨R, 0, none⟩), .int .i64 (wd : Int), undef, undef, .pointer (some ⟨w.heap.size, 0, none⟩), .pointer (some ⟨X, 0, none⟩), d6, d7, d8, d9, d10, d11, d12, d13, d14, d15, d16, d17, d18, d19, undef, undef, undef, undef, undef, undef, undef, undef, undef, undef, undef, undef, undef, undef, undef, undef, undef], defers := [] } ∧ Row w' X [.int .i64 k, .int .i64 l, .int .i64 m, .string ⟨#[]⟩] ∧ Row w' w.heap.size [.int .i64 0, .int .i64 0, .int .i64 0, .string ⟨#[]⟩] ∧ Rdr w' R a n c (p + 3) ∧ w.heap.size < X ∧ w.grownBy w' (some R)) → Q0 .normal act w') (hQp : ∀ c a w, ¬ Q0 (.panic c) a w) (u : World) (n1 : Nat) (X : Nat) (rd : Rdr u R a n c (p + 1)) (gr : w.grownBy u (some R)) (r4 : Row u w.heap.size [.int .i64 0, .int .i64 0, .int .i64 0, .string ⟨#[]⟩]) (hn1 : n1 < 4) (rX : Row u X [.int .i64 0, .int .i64 0, .int .i64 0, .string ⟨#[]⟩]) (lX : w.heap.size < X) (hHeld : (fun w' => True) u) : wpAnyH Tryd.prog .any pgSOps Q0 (fun w' => True) 10 #[true, true, true, false, true, false, false, false, false, true, false, false, false, false, true, false] { tmps := #[.pointer (some ⟨R, 0, none⟩), .int .i64 (wd : Int), undef, undef, .pointer (some ⟨w.heap.size, 0, none⟩), .pointer (some ⟨X, 0, none⟩), .pointer (some ⟨R, 0, none⟩), .int .i64 (n1 : Int), .int .i64 (1 + (n1 : Int)), undef, .pointer (some ⟨R, 0, none⟩), undef, undef, undef, undef, .pointer (some ⟨R, 0, none⟩), undef, undef, undef, undef, undef, undef, undef, undef, undef, undef, undef, undef, undef, undef, undef, undef, undef, undef, undef, undef, undef], defers := [] } u := by
  unfold pgSOps
  refine wpAnyH_ready (rs := [3, 5, 8]) (by kernel_rfl) (by simp) ?_
  refine AllReadyH.cons rfl (fun K hK => ?_) (AllReadyH.cons rfl (fun K hK => ?_) (AllReadyH.cons rfl (fun K hK => ?_) AllReadyH.nil))
  · go_simp
    obtain ⟨u', e_u⟩ : ∃ xw, xw = u.alloc (.cells #[.int .i64 1, .int .i64 2, .int .i64 256, .int .i64 60000] 3) := ⟨_, rfl⟩
    have hb' : Below u.heap.size u u' := by rw [e_u]; exact below_nw _ _
    have rB1' : Row u' u.heap.size ([1, 2, 256, 60000].map (Value.int .i64)) := by rw [e_u]; exact row_new _ _ _
    have l4 := r4.lt
    rw [← e_u]
    clear e_u
    obtain ⟨B1, e_B⟩ : ∃ xb, xb = u.heap.size := ⟨_, rfl⟩
    rw [← e_B] at rB1'
    rw [← e_B]
    have hbn1 : (n1 : Int) < 4 := by omega
    have rX' := rX.below hb'
    have ltX := rX.lt
    have lB1' : w.heap.size < B1 := by omega
    have ne_B1X : B1 ≠ X := by omega
    have ne_XB1 : X ≠ B1 := by omega
    clear e_B
    refine hK.out _ _ (trivial) (fun _ => ?_)
    clear hK K
    try simp only [Act.put, List.getElem_toArray, List.getElem_cons_zero, List.getElem_cons_succ, List.setIfInBounds_toArray, List.set_cons_zero, List.set_cons_succ]
    have hHeld : (fun w' => True) u' := trivial
    exact pgS_11 hp p0 hN hNg hQ hQp u' (n1) (B1) (X) (rd.below hb') (grown_trans gr (grown_of_below (some R) hb')) (r4.below hb') (hn1) (rB1') (lB1') (rX') (lX) (ne_B1X) hHeld
  · refine step_call (by rfl) 21 #[.pointer (some ⟨R, 0, none⟩), .int .i64 4] (by go_simp) (pick_r R a n c (p + 1) 4 _ rd (by omega)) ?_
    rintro e u' ⟨⟨v', rfl, v0, v1⟩, rd', hg'⟩
    obtain ⟨n2, rfl⟩ : ∃ k : Nat, v' = (k : Int) := ⟨v'.toNat, by omega⟩
    have hn2 : n2 < 4 := by omega
    have hbn2 : (n2 : Int) < 4 := by omega
    clear v1
    have hw' : IntKind.i64.wrap (1 + (n2 : Int)) = 1 + (n2 : Int) := wrap_i64_id _ (by omega) (by omega)
    refine ⟨_, rfl, ?_⟩
    have rX' := rX.grown hg' (fun e => by injection e with e; omega)
    have r4' := r4.grown hg' (fun e => by injection e with e; omega)
    refine hK.out _ _ (trivial) (fun _ => ?_)
    clear hK K
    try simp only [Act.put, List.getElem_toArray, List.getElem_cons_zero, List.getElem_cons_succ, List.setIfInBounds_toArray, List.set_cons_zero, List.set_cons_succ]
    have hHeld : (fun w' => True) u' := trivial
    exact pgS_19 hp p0 hN hNg hQ hQp u' (n1) (n2) (X) (by have e : p + 2 = p + 1 + 1 := (by omega); rw [e]; exact rd') (grown_trans gr hg') (r4') (hn1) (hn2) (rX') (lX) hHeld
  · go_simp
    obtain ⟨u', e_u⟩ : ∃ xw, xw = u.alloc (.cells #[.int .i64 1, .int .i64 2, .int .i64 65536, .int .i64 1000000000] 3) := ⟨_, rfl⟩
    have hb' : Below u.heap.size u u' := by rw [e_u]; exact below_nw _ _
    have rB2' : Row u' u.heap.size ([1, 2, 65536, 1000000000].map (Value.int .i64)) := by rw [e_u]; exact row_new _ _ _
    have l4 := r4.lt
    rw [← e_u]
    clear e_u
    obtain ⟨B2, e_B⟩ : ∃ xb, xb = u.heap.size := ⟨_, rfl⟩
    rw [← e_B] at rB2'
    rw [← e_B]
    have hbn1 : (n1 : Int) < 4 := by omega
    have rX' := rX.below hb'
    have ltX := rX.lt
    have lB2' : w.heap.size < B2 := by omega
    have ne_B2X : B2 ≠ X := by omega
    have ne_XB2 : X ≠ B2 := by omega
    clear e_B
    refine hK.out _ _ (trivial) (fun _ => ?_)
    clear hK K
    try simp only [Act.put, List.getElem_toArray, List.getElem_cons_zero, List.getElem_cons_succ, List.setIfInBounds_toArray, List.set_cons_zero, List.set_cons_succ]
    have hHeld : (fun w' => True) u' := trivial
    exact pgS_21 hp p0 hN hNg hQ hQp u' (n1) (B2) (X) (rd.below hb') (grown_trans gr (grown_of_below (some R) hb')) (r4.below hb') (hn1) (rB2') (lB2') (rX') (lX) (ne_B2X) hHeld
set_option maxHeartbeats 4000000 in
theorem pgS_24 {R : Nat} {a : Option Addr} {n c : Nat} {p : Int} {wd : Nat} {w : World} (hp : p < 99998000) (p0 : 0 ≤ p) (hN : R < w.heap.size) (hNg : ∀ g o, a = some ⟨g, o, none⟩ → 0 < n → g < w.heap.size) {Q0 : Exit → Act → World → Prop} (hQ : ∀ (act : Act) (w' : World), (∃ (d6 d7 d8 d9 d10 d11 d12 d13 d14 d15 d16 d17 d18 d19 : Value) (X : Nat) (k l m : Int), act = { tmps := #[.pointer (some ⟨R, 0, none⟩), .int .i64 (wd : Int), undef, undef, .pointer (some ⟨w.heap.size, 0, none⟩), .pointer (some ⟨X, 0, none⟩), d6, d7, d8, d9, d10, d11, d12, d13, d14, d15, d16, d17, d18, d19, undef, undef, undef, undef, undef, undef, undef, undef, undef, undef, undef, undef, undef, undef, undef, undef, undef], defers := [] } ∧ Row w' X [.int .i64 k, .int .i64 l, .int .i64 m, .string ⟨#[]⟩] ∧ Row w' w.heap.size [.int .i64 0, .int .i64 0, .int .i64 0, .string ⟨#[]⟩] ∧ Rdr w' R a n c (p + 3) ∧ w.heap.size < X ∧ w.grownBy w' (some R)) → Q0 .normal act w') (hQp : ∀ c a w, ¬ Q0 (.panic c) a w) (u : World) (n1 : Nat) (rd : Rdr u R a n c (p + 1)) (gr : w.grownBy u (some R)) (r4 : Row u w.heap.size [.int .i64 0, .int .i64 0, .int .i64 0, .string ⟨#[]⟩]) (hn1 : n1 < 4) (hHeld : (fun w' => True) u) : wpAnyH Tryd.prog .any pgSOps Q0 (fun w' => True) 11 #[true, true, true, false, true, false, false, false, false, true, false, false, false, false, false, false] { tmps := #[.pointer (some ⟨R, 0, none⟩), .int .i64 (wd : Int), undef, undef, .pointer (some ⟨w.heap.size, 0, none⟩), undef, .pointer (some ⟨R, 0, none⟩), .int .i64 (n1 : Int), .int .i64 (1 + (n1 : Int)), undef, .pointer (some ⟨R, 0, none⟩), undef, undef, undef, undef, .pointer (some ⟨R, 0, none⟩), undef, undef, undef, undef, undef, undef, undef, undef, undef, undef, undef, undef, undef, undef, undef, undef, undef, undef, undef, undef, undef], defers := [] } u := by
  unfold pgSOps
  refine wpAnyH_ready (rs := [3, 5, 8, 14]) (by kernel_rfl) (by simp) ?_
  refine AllReadyH.cons rfl (fun K hK => ?_) (AllReadyH.cons rfl (fun K hK => ?_) (AllReadyH.cons rfl (fun K hK => ?_) (AllReadyH.cons rfl (fun K hK => ?_) AllReadyH.nil)))
  · go_simp
    obtain ⟨u', e_u⟩ : ∃ xw, xw = u.alloc (.cells #[.int .i64 1, .int .i64 2, .int .i64 256, .int .i64 60000] 3) := ⟨_, rfl⟩
    have hb' : Below u.heap.size u u' := by rw [e_u]; exact below_nw _ _
    have rB1' : Row u' u.heap.size ([1, 2, 256, 60000].map (Value.int .i64)) := by rw [e_u]; exact row_new _ _ _
    have l4 := r4.lt
    rw [← e_u]
    clear e_u
    obtain ⟨B1, e_B⟩ : ∃ xb, xb = u.heap.size := ⟨_, rfl⟩
    rw [← e_B] at rB1'
    rw [← e_B]
    have hbn1 : (n1 : Int) < 4 := by omega
    have lB1' : w.heap.size < B1 := by omega
    clear e_B
    refine hK.out _ _ (trivial) (fun _ => ?_)
    clear hK K
    try simp only [Act.put, List.getElem_toArray, List.getElem_cons_zero, List.getElem_cons_succ, List.setIfInBounds_toArray, List.set_cons_zero, List.set_cons_succ]
    have hHeld : (fun w' => True) u' := trivial
    exact pgS_12 hp p0 hN hNg hQ hQp u' (n1) (B1) (rd.below hb') (grown_trans gr (grown_of_below (some R) hb')) (r4.below hb') (hn1) (rB1') (lB1') hHeld
  · refine step_call (by rfl) 21 #[.pointer (some ⟨R, 0, none⟩), .int .i64 4] (by go_simp) (pick_r R a n c (p + 1) 4 _ rd (by omega)) ?_
    rintro e u' ⟨⟨v', rfl, v0, v1⟩, rd', hg'⟩
    obtain ⟨n2, rfl⟩ : ∃ k : Nat, v' = (k : Int) := ⟨v'.toNat, by omega⟩
    have hn2 : n2 < 4 := by omega
    have hbn2 : (n2 : Int) < 4 := by omega
    clear v1
    have hw' : IntKind.i64.wrap (1 + (n2 : Int)) = 1 + (n2 : Int) := wrap_i64_id _ (by omega) (by omega)
    refine ⟨_, rfl, ?_⟩
    have r4' := r4.grown hg' (fun e => by injection e with e; omega)
    refine hK.out _ _ (trivial) (fun _ => ?_)
    clear hK K
    try simp only [Act.put, List.getElem_toArray, List.getElem_cons_zero, List.getElem_cons_succ, List.setIfInBounds_toArray, List.set_cons_zero, List.set_cons_succ]
    have hHeld : (fun w' => True) u' := trivial
    exact pgS_20 hp p0 hN hNg hQ hQp u' (n1) (n2) (by have e : p + 2 = p + 1 + 1 := (by omega); rw [e]; exact rd') (grown_trans gr hg') (r4') (hn1) (hn2) hHeld
  · go_simp
    obtain ⟨u', e_u⟩ : ∃ xw, xw = u.alloc (.cells #[.int .i64 1, .int .i64 2, .int .i64 65536, .int .i64 1000000000] 3) := ⟨_, rfl⟩
    have hb' : Below u.heap.size u u' := by rw [e_u]; exact below_nw _ _
    have rB2' : Row u' u.heap.size ([1, 2, 65536, 1000000000].map (Value.int .i64)) := by rw [e_u]; exact row_new _ _ _
    have l4 := r4.lt
    rw [← e_u]
    clear e_u
    obtain ⟨B2, e_B⟩ : ∃ xb, xb = u.heap.size := ⟨_, rfl⟩
    rw [← e_B] at rB2'
    rw [← e_B]
    have hbn1 : (n1 : Int) < 4 := by omega
    have lB2' : w.heap.size < B2 := by omega
    clear e_B
    refine hK.out _ _ (trivial) (fun _ => ?_)
    clear hK K
    try simp only [Act.put, List.getElem_toArray, List.getElem_cons_zero, List.getElem_cons_succ, List.setIfInBounds_toArray, List.set_cons_zero, List.set_cons_succ]
    have hHeld : (fun w' => True) u' := trivial
    exact pgS_22 hp p0 hN hNg hQ hQp u' (n1) (B2) (rd.below hb') (grown_trans gr (grown_of_below (some R) hb')) (r4.below hb') (hn1) (rB2') (lB2') hHeld
  · go_simp
    obtain ⟨u', e_u⟩ : ∃ xw, xw = u.alloc (.cells #[.int .i64 0, .int .i64 0, .int .i64 0, .string ⟨#[]⟩] 23) := ⟨_, rfl⟩
    have hb' : Below u.heap.size u u' := by rw [e_u]; exact below_nw _ _
    have rX' : Row u' u.heap.size [.int .i64 0, .int .i64 0, .int .i64 0, .string ⟨#[]⟩] := by rw [e_u]; exact row_new _ _ _
    have l4 := r4.lt
    rw [← e_u]
    clear e_u
    obtain ⟨X, e_B⟩ : ∃ xb, xb = u.heap.size := ⟨_, rfl⟩
    rw [← e_B] at rX'
    rw [← e_B]
    have hbn1 : (n1 : Int) < 4 := by omega
    have lX' : w.heap.size < X := by omega
    clear e_B
    refine hK.out _ _ (trivial) (fun _ => ?_)
    clear hK K
    try simp only [Act.put, List.getElem_toArray, List.getElem_cons_zero, List.getElem_cons_succ, List.setIfInBounds_toArray, List.set_cons_zero, List.set_cons_succ]
    have hHeld : (fun w' => True) u' := trivial
    exact pgS_23 hp p0 hN hNg hQ hQp u' (n1) (X) (rd.below hb') (grown_trans gr (grown_of_below (some R) hb')) (r4.below hb') (hn1) (rX') (lX') hHeld
set_option maxHeartbeats 4000000 in
theorem pgS_25 {R : Nat} {a : Option Addr} {n c : Nat} {p : Int} {wd : Nat} {w : World} (hp : p < 99998000) (p0 : 0 ≤ p) (hN : R < w.heap.size) (hNg : ∀ g o, a = some ⟨g, o, none⟩ → 0 < n → g < w.heap.size) {Q0 : Exit → Act → World → Prop} (hQ : ∀ (act : Act) (w' : World), (∃ (d6 d7 d8 d9 d10 d11 d12 d13 d14 d15 d16 d17 d18 d19 : Value) (X : Nat) (k l m : Int), act = { tmps := #[.pointer (some ⟨R, 0, none⟩), .int .i64 (wd : Int), undef, undef, .pointer (some ⟨w.heap.size, 0, none⟩), .pointer (some ⟨X, 0, none⟩), d6, d7, d8, d9, d10, d11, d12, d13, d14, d15, d16, d17, d18, d19, undef, undef, undef, undef, undef, undef, undef, undef, undef, undef, undef, undef, undef, undef, undef, undef, undef], defers := [] } ∧ Row w' X [.int .i64 k, .int .i64 l, .int .i64 m, .string ⟨#[]⟩] ∧ Row w' w.heap.size [.int .i64 0, .int .i64 0, .int .i64 0, .string ⟨#[]⟩] ∧ Rdr w' R a n c (p + 3) ∧ w.heap.size < X ∧ w.grownBy w' (some R)) → Q0 .normal act w') (hQp : ∀ c a w, ¬ Q0 (.panic c) a w) (u : World) (B1 : Nat) (B2 : Nat) (X : Nat) (rd : Rdr u R a n c (p + 0)) (gr : w.grownBy u (some R)) (r4 : Row u w.heap.size [.int .i64 0, .int .i64 0, .int .i64 0, .string ⟨#[]⟩]) (rB1 : Row u B1 ([1, 2, 256, 60000].map (Value.int .i64))) (lB1 : w.heap.size < B1) (rB2 : Row u B2 ([1, 2, 65536, 1000000000].map (Value.int .i64))) (lB2 : w.heap.size < B2) (rX : Row u X [.int .i64 0, .int .i64 0, .int .i64 0, .string ⟨#[]⟩]) (lX : w.heap.size < X) (neB1B2 : B1 ≠ B2) (neB1X : B1 ≠ X) (neB2X : B2 ≠ X) (hHeld : (fun w' => True) u) : wpAnyH Tryd.prog .any pgSOps Q0 (fun w' => True) 10 #[true, false, false, true, true, false, false, false, true, true, false, false, false, false, true, false] { tmps := #[.pointer (some ⟨R, 0, none⟩), .int .i64 (wd : Int), undef, undef, .pointer (some ⟨w.heap.size, 0, none⟩), .pointer (some ⟨X, 0, none⟩), .pointer (some ⟨R, 0, none⟩), undef, undef, .slice (some ⟨B1, 0, none⟩) 4 4, .pointer (some ⟨R, 0, none⟩), undef, undef, undef, .slice (some ⟨B2, 0, none⟩) 4 4, .pointer (some ⟨R, 0, none⟩), undef, undef, undef, undef, undef, undef, undef, undef, undef, undef, undef, undef, undef, undef, undef, undef, undef, undef, undef, undef, undef], defers := [] } u := by
  unfold pgSOps
  refine wpAnyH_ready (rs := [1]) (by kernel_rfl) (by simp) ?_
  refine AllReadyH.cons rfl (fun K hK => ?_) AllReadyH.nil
  · refine step_call (by rfl) 21 #[.pointer (some ⟨R, 0, none⟩), .int .i64 4] (by go_simp) (pick_r R a n c (p + 0) 4 _ rd (by omega)) ?_
    rintro e u' ⟨⟨v', rfl, v0, v1⟩, rd', hg'⟩
    obtain ⟨n1, rfl⟩ : ∃ k : Nat, v' = (k : Int) := ⟨v'.toNat, by omega⟩
    have hn1 : n1 < 4 := by omega
    have hbn1 : (n1 : Int) < 4 := by omega
    clear v1
    have hw' : IntKind.i64.wrap (1 + (n1 : Int)) = 1 + (n1 : Int) := wrap_i64_id _ (by omega) (by omega)
    refine ⟨_, rfl, ?_⟩
    have rB1' := rB1.grown hg' (fun e => by injection e with e; omega)
    have rB2' := rB2.grown hg' (fun e => by injection e with e; omega)
    have rX' := rX.grown hg' (fun e => by injection e with e; omega)
    have r4' := r4.grown hg' (fun e => by injection e with e; omega)
    refine hK.out _ _ (trivial) (fun _ => ?_)
    clear hK K
    try simp only [Act.put, List.getElem_toArray, List.getElem_cons_zero, List.getElem_cons_succ, List.setIfInBounds_toArray, List.set_cons_zero, List.set_cons_succ]
    have hHeld : (fun w' => True) u' := trivial
    refine wpAnyH_take (i := 2) (v := .int .i64 (1 + (n1 : Int))) rfl (by kernel_rfl) (by kernel_rfl) (by kernel_rfl) (fun _ _ _ h => absurd h (hQp _ _ _)) (Or.inl ⟨by rfl, fun w hw => by obtain z0 := hw; go_simp⟩) hHeld ?_
    simp only [Act.put, List.getElem_toArray, List.getElem_cons_zero, List.getElem_cons_succ, List.setIfInBounds_toArray, List.set_cons_zero, List.set_cons_succ]
    exact pgS_9 hp p0 hN hNg hQ hQp u' (n1) (B1) (B2) (X) (by have e : p + 1 = p + 0 + 1 := (by omega); rw [e]; exact rd') (grown_trans gr hg') (r4') (hn1) (rB1') (lB1) (rB2') (lB2) (rX') (lX) (neB1B2) (neB1X) (neB2X) hHeld
set_option maxHeartbeats 4000000 in
theorem pgS_26 {R : Nat} {a : Option Addr} {n c : Nat} {p : Int} {wd : Nat} {w : World} (hp : p < 99998000) (p0 : 0 ≤ p) (hN : R < w.heap.size) (hNg : ∀ g o, a = some ⟨g, o, none⟩ → 0 < n → g < w.heap.size) {Q0 : Exit → Act → World → Prop} (hQ : ∀ (act : Act) (w' : World), (∃ (d6 d7 d8 d9 d10 d11 d12 d13 d14 d15 d16 d17 d18 d19 : Value) (X : Nat) (k l m : Int), act = { tmps := #[.pointer (some ⟨R, 0, none⟩), .int .i64 (wd : Int), undef, undef, .pointer (some ⟨w.heap.size, 0, none⟩), .pointer (some ⟨X, 0, none⟩), d6, d7, d8, d9, d10, d11, d12, d13, d14, d15, d16, d17, d18, d19, undef, undef, undef, undef, undef, undef, undef, undef, undef, undef, undef, undef, undef, undef, undef, undef, undef], defers := [] } ∧ Row w' X [.int .i64 k, .int .i64 l, .int .i64 m, .string ⟨#[]⟩] ∧ Row w' w.heap.size [.int .i64 0, .int .i64 0, .int .i64 0, .string ⟨#[]⟩] ∧ Rdr w' R a n c (p + 3) ∧ w.heap.size < X ∧ w.grownBy w' (some R)) → Q0 .normal act w') (hQp : ∀ c a w, ¬ Q0 (.panic c) a w) (u : World) (B1 : Nat) (B2 : Nat) (rd : Rdr u R a n c (p + 0)) (gr : w.grownBy u (some R)) (r4 : Row u w.heap.size [.int .i64 0, .int .i64 0, .int .i64 0, .string ⟨#[]⟩]) (rB1 : Row u B1 ([1, 2, 256, 60000].map (Value.int .i64))) (lB1 : w.heap.size < B1) (rB2 : Row u B2 ([1, 2, 65536, 1000000000].map (Value.int .i64))) (lB2 : w.heap.size < B2) (neB1B2 : B1 ≠ B2) (hHeld : (fun w' => True) u) : wpAnyH Tryd.prog .any pgSOps Q0 (fun w' => True) 11 #[true, false, false, true, true, false, false, false, true, true, false, false, false, false, false, false] { tmps := #[.pointer (some ⟨R, 0, none⟩), .int .i64 (wd : Int), undef, undef, .pointer (some ⟨w.heap.size, 0, none⟩), undef, .pointer (some ⟨R, 0, none⟩), undef, undef, .slice (some ⟨B1, 0, none⟩) 4 4, .pointer (some ⟨R, 0, none⟩), undef, undef, undef, .slice (some ⟨B2, 0, none⟩) 4 4, .pointer (some ⟨R, 0, none⟩), undef, undef, undef, undef, undef, undef, undef, undef, undef, undef, undef, undef, undef, undef, undef, undef, undef, undef, undef, undef, undef], defers := [] } u := by
  unfold pgSOps
  refine wpAnyH_ready (rs := [1, 14]) (by kernel_rfl) (by simp) ?_
  refine AllReadyH.cons rfl (fun K hK => ?_) (AllReadyH.cons rfl (fun K hK => ?_) AllReadyH.nil)
  · refine step_call (by rfl) 21 #[.pointer (some ⟨R, 0, none⟩), .int .i64 4] (by go_simp) (pick_r R a n c (p + 0) 4 _ rd (by omega)) ?_
    rintro e u' ⟨⟨v', rfl, v0, v1⟩, rd', hg'⟩
    obtain ⟨n1, rfl⟩ : ∃ k : Nat, v' = (k : Int) := ⟨v'.toNat, by omega⟩
    have hn1 : n1 < 4 := by omega
    have hbn1 : (n1 : Int) < 4 := by omega
    clear v1
    have hw' : IntKind.i64.wrap (1 + (n1 : Int)) = 1 + (n1 : Int) := wrap_i64_id _ (by omega) (by omega)
    refine ⟨_, rfl, ?_⟩
    have rB1' := rB1.grown hg' (fun e => by injection e with e; omega)
    have rB2' := rB2.grown hg' (fun e => by injection e with e; omega)
    have r4' := r4.grown hg' (fun e => by injection e with e; omega)
    refine hK.out _ _ (trivial) (fun _ => ?_)
    clear hK K
    try simp only [Act.put, List.getElem_toArray, List.getElem_cons_zero, List.getElem_cons_succ, List.setIfInBounds_toArray, List.set_cons_zero, List.set_cons_succ]
    have hHeld : (fun w' => True) u' := trivial
    refine wpAnyH_take (i := 2) (v := .int .i64 (1 + (n1 : Int))) rfl (by kernel_rfl) (by kernel_rfl) (by kernel_rfl) (fun _ _ _ h => absurd h (hQp _ _ _)) (Or.inl ⟨by rfl, fun w hw => by obtain z0 := hw; go_simp⟩) hHeld ?_
    simp only [Act.put, List.getElem_toArray, List.getElem_cons_zero, List.getElem_cons_succ, List.setIfInBounds_toArray, List.set_cons_zero, List.set_cons_succ]
    exact pgS_10 hp p0 hN hNg hQ hQp u' (n1) (B1) (B2) (by have e : p + 1 = p + 0 + 1 := (by omega); rw [e]; exact rd') (grown_trans gr hg') (r4') (hn1) (rB1') (lB1) (rB2') (lB2) (neB1B2) hHeld
  · go_simp
    obtain ⟨u', e_u⟩ : ∃ xw, xw = u.alloc (.cells #[.int .i64 0, .int .i64 0, .int .i64 0, .string ⟨#[]⟩] 23) := ⟨_, rfl⟩
    have hb' : Below u.heap.size u u' := by rw [e_u]; exact below_nw _ _
    have rX' : Row u' u.heap.size [.int .i64 0, .int .i64 0, .int .i64 0, .string ⟨#[]⟩] := by rw [e_u]; exact row_new _ _ _
    have l4 := r4.lt
    rw [← e_u]
    clear e_u
    obtain ⟨X, e_B⟩ : ∃ xb, xb = u.heap.size := ⟨_, rfl⟩
    rw [← e_B] at rX'
    rw [← e_B]
    have rB1' := rB1.below hb'
    have ltB1 := rB1.lt
    have rB2' := rB2.below hb'
    have ltB2 := rB2.lt
    have lX' : w.heap.size < X := by omega
    have ne_XB1 : X ≠ B1 := by omega
    have ne_B1X : B1 ≠ X := by omega
    have ne_XB2 : X ≠ B2 := by omega
    have ne_B2X : B2 ≠ X := by omega
    clear e_B
    refine hK.out _ _ (trivial) (fun _ => ?_)
    clear hK K
    try simp only [Act.put, List.getElem_toArray, List.getElem_cons_zero, List.getElem_cons_succ, List.setIfInBounds_toArray, List.set_cons_zero, List.set_cons_succ]
    have hHeld : (fun w' => True) u' := trivial
    exact pgS_25 hp p0 hN hNg hQ hQp u' (B1) (B2) (X) (rd.below hb') (grown_trans gr (grown_of_below (some R) hb')) (r4.below hb') (rB1') (lB1) (rB2') (lB2) (rX') (lX') (neB1B2) (ne_B1X) (ne_B2X) hHeld
set_option maxHeartbeats 4000000 in
theorem pgS_27 {R : Nat} {a : Option Addr} {n c : Nat} {p : Int} {wd : Nat} {w : World} (hp : p < 99998000) (p0 : 0 ≤ p) (hN : R < w.heap.size) (hNg : ∀ g o, a = some ⟨g, o, none⟩ → 0 < n → g < w.heap.size) {Q0 : Exit → Act → World → Prop} (hQ : ∀ (act : Act) (w' : World), (∃ (d6 d7 d8 d9 d10 d11 d12 d13 d14 d15 d16 d17 d18 d19 : Value) (X : Nat) (k l m : Int), act = { tmps := #[.pointer (some ⟨R, 0, none⟩), .int .i64 (wd : Int), undef, undef, .pointer (some ⟨w.heap.size, 0, none⟩), .pointer (some ⟨X, 0, none⟩), d6, d7, d8, d9, d10, d11, d12, d13, d14, d15, d16, d17, d18, d19, undef, undef, undef, undef, undef, undef, undef, undef, undef, undef, undef, undef, undef, undef, undef, undef, undef], defers := [] } ∧ Row w' X [.int .i64 k, .int .i64 l, .int .i64 m, .string ⟨#[]⟩] ∧ Row w' w.heap.size [.int .i64 0, .int .i64 0, .int .i64 0, .string ⟨#[]⟩] ∧ Rdr w' R a n c (p + 3) ∧ w.heap.size < X ∧ w.grownBy w' (some R)) → Q0 .normal act w') (hQp : ∀ c a w, ¬ Q0 (.panic c) a w) (u : World) (B1 : Nat) (X : Nat) (rd : Rdr u R a n c (p + 0)) (gr : w.grownBy u (some R)) (r4 : Row u w.heap.size [.int .i64 0, .int .i64 0, .int .i64 0, .string ⟨#[]⟩]) (rB1 : Row u B1 ([1, 2, 256, 60000].map (Value.int .i64))) (lB1 : w.heap.size < B1) (rX : Row u X [.int .i64 0, .int .i64 0, .int .i64 0, .string ⟨#[]⟩]) (lX : w.heap.size < X) (neB1X : B1 ≠ X) (hHeld : (fun w' => True) u) : wpAnyH Tryd.prog .any pgSOps Q0 (fun w' => True) 11 #[true, false, false, true, true, false, false, false, false, true, false, false, false, false, true, false] { tmps := #[.pointer (some ⟨R, 0, none⟩), .int .i64 (wd : Int), undef, undef, .pointer (some ⟨w.heap.size, 0, none⟩), .pointer (some ⟨X, 0, none⟩), .pointer (some ⟨R, 0, none⟩), undef, undef, .slice (some ⟨B1, 0, none⟩) 4 4, .pointer (some ⟨R, 0, none⟩), undef, undef, undef, undef, .pointer (some ⟨R, 0, none⟩), undef, undef, undef, undef, undef, undef, undef, undef, undef, undef, undef, undef, undef, undef, undef, undef, undef, undef, undef, undef, undef], defers := [] } u := by
  unfold pgSOps
  refine wpAnyH_ready (rs := [1, 8]) (by kernel_rfl) (by simp) ?_
  refine AllReadyH.cons rfl (fun K hK => ?_) (AllReadyH.cons rfl (fun K hK => ?_) AllReadyH.nil)
  · refine step_call (by rfl) 21 #[.pointer (some ⟨R, 0, none⟩), .int .i64 4] (by go_simp) (pick_r R a n c (p + 0) 4 _ rd (by omega)) ?_
    rintro e u' ⟨⟨v', rfl, v0, v1⟩, rd', hg'⟩
    obtain ⟨n1, rfl⟩ : ∃ k : Nat, v' = (k : Int) := ⟨v'.toNat, by omega⟩
    have hn1 : n1 < 4 := by omega
    have hbn1 : (n1 : Int) < 4 := by omega
    clear v1
    have hw' : IntKind.i64.wrap (1 + (n1 : Int)) = 1 + (n1 : Int) := wrap_i64_id _ (by omega) (by omega)
    refine ⟨_, rfl, ?_⟩
    have rB1' := rB1.grown hg' (fun e => by injection e with e; omega)
    have rX' := rX.grown hg' (fun e => by injection e with e; omega)
    have r4' := r4.grown hg' (fun e => by injection e with e; omega)
    refine hK.out _ _ (trivial) (fun _ => ?_)
    clear hK K
    try simp only [Act.put, List.getElem_toArray, List.getElem_cons_zero, List.getElem_cons_succ, List.setIfInBounds_toArray, List.set_cons_zero, List.set_cons_succ]
    have hHeld : (fun w' => True) u' := trivial
    refine wpAnyH_take (i := 2) (v := .int .i64 (1 + (n1 : Int))) rfl (by kernel_rfl) (by kernel_rfl) (by kernel_rfl) (fun _ _ _ h => absurd h (hQp _ _ _)) (Or.inl ⟨by rfl, fun w hw => by obtain z0 := hw; go_simp⟩) hHeld ?_
    simp only [Act.put, List.getElem_toArray, List.getElem_cons_zero, List.getElem_cons_succ, List.setIfInBounds_toArray, List.set_cons_zero, List.set_cons_succ]
    exact pgS_11 hp p0 hN hNg hQ hQp u' (n1) (B1) (X) (by have e : p + 1 = p + 0 + 1 := (by omega); rw [e]; exact rd') (grown_trans gr hg') (r4') (hn1) (rB1') (lB1) (rX') (lX) (neB1X) hHeld
  · go_simp
    obtain ⟨u', e_u⟩ : ∃ xw, xw = u.alloc (.cells #[.int .i64 1, .int .i64 2, .int .i64 65536, .int .i64 1000000000] 3) := ⟨_, rfl⟩
    have hb' : Below u.heap.size u u' := by rw [e_u]; exact below_nw _ _
    have rB2' : Row u' u.heap.size ([1, 2, 65536, 1000000000].map (Value.int .i64)) := by rw [e_u]; exact row_new _ _ _
    have l4 := r4.lt
    rw [← e_u]
    clear e_u
    obtain ⟨B2, e_B⟩ : ∃ xb, xb = u.heap.size := ⟨_, rfl⟩
    rw [← e_B] at rB2'
    rw [← e_B]
    have rB1' := rB1.below hb'
    have ltB1 := rB1.lt
    have rX' := rX.below hb'
    have ltX := rX.lt
    have lB2' : w.heap.size < B2 := by omega
    have ne_B2B1 : B2 ≠ B1 := by omega
    have ne_B1B2 : B1 ≠ B2 := by omega
    have ne_B2X : B2 ≠ X := by omega
    have ne_XB2 : X ≠ B2 := by omega
    clear e_B
    refine hK.out _ _ (trivial) (fun _ => ?_)
    clear hK K
    try simp only [Act.put, List.getElem_toArray, List.getElem_cons_zero, List.getElem_cons_succ, List.setIfInBounds_toArray, List.set_cons_zero, List.set_cons_succ]
    have hHeld : (fun w' => True) u' := trivial
    exact pgS_25 hp p0 hN hNg hQ hQp u' (B1) (B2) (X) (rd.below hb') (grown_trans gr (grown_of_below (some R) hb')) (r4.below hb') (rB1') (lB1) (rB2') (lB2') (rX') (lX) (ne_B1B2) (neB1X) (ne_B2X) hHeld
set_option maxHeartbeats 4000000 in
theorem pgS_28 {R : Nat} {a : Option Addr} {n c : Nat} {p : Int} {wd : Nat} {w : World} (hp : p < 99998000) (p0 : 0 ≤ p) (hN : R < w.heap.size) (hNg : ∀ g o, a = some ⟨g, o, none⟩ → 0 < n → g < w.heap.size) {Q0 : Exit → Act → World → Prop} (hQ : ∀ (act : Act) (w' : World), (∃ (d6 d7 d8 d9 d10 d11 d12 d13 d14 d15 d16 d17 d18 d19 : Value) (X : Nat) (k l m : Int), act = { tmps := #[.pointer (some ⟨R, 0, none⟩), .int .i64 (wd : Int), undef, undef, .pointer (some ⟨w.heap.size, 0, none⟩), .pointer (some ⟨X, 0, none⟩), d6, d7, d8, d9, d10, d11, d12, d13, d14, d15, d16, d17, d18, d19, undef, undef, undef, undef, undef, undef, undef, undef, undef, undef, undef, undef, undef, undef, undef, undef, undef], defers := [] } ∧ Row w' X [.int .i64 k, .int .i64 l, .int .i64 m, .string ⟨#[]⟩] ∧ Row w' w.heap.size [.int .i64 0, .int .i64 0, .int .i64 0, .string ⟨#[]⟩] ∧ Rdr w' R a n c (p + 3) ∧ w.heap.size < X ∧ w.grownBy w' (some R)) → Q0 .normal act w') (hQp : ∀ c a w, ¬ Q0 (.panic c) a w) (u : World) (B1 : Nat) (rd : Rdr u R a n c (p + 0)) (gr : w.grownBy u (some R)) (r4 : Row u w.heap.size [.int .i64 0, .int .i64 0, .int .i64 0, .string ⟨#[]⟩]) (rB1 : Row u B1 ([1, 2, 256, 60000].map (Value.int .i64))) (lB1 : w.heap.size < B1) (hHeld : (fun w' => True) u) : wpAnyH Tryd.prog .any pgSOps Q0 (fun w' => True) 12 #[true, false, false, true, true, false, false, false, false, true, false, false, false, false, false, false] { tmps := #[.pointer (some ⟨R, 0, none⟩), .int .i64 (wd : Int), undef, undef, .pointer (some ⟨w.heap.size, 0, none⟩), undef, .pointer (some ⟨R, 0, none⟩), undef, undef, .slice (some ⟨B1, 0, none⟩) 4 4, .pointer (some ⟨R, 0, none⟩), undef, undef, undef, undef, .pointer (some ⟨R, 0, none⟩), undef, undef, undef, undef, undef, undef, undef, undef, undef, undef, undef, undef, undef, undef, undef, undef, undef, undef, undef, undef, undef], defers := [] } u := by
  unfold pgSOps
  refine wpAnyH_ready (rs := [1, 8, 14]) (by kernel_rfl) (by simp) ?_
  refine AllReadyH.cons rfl (fun K hK => ?_) (AllReadyH.cons rfl (fun K hK => ?_) (AllReadyH.cons rfl (fun K hK => ?_) AllReadyH.nil))
  · refine step_call (by rfl) 21 #[.pointer (some ⟨R, 0, none⟩), .int .i64 4] (by go_simp) (pick_r R a n c (p + 0) 4 _ rd (by omega)) ?_
    rintro e u' ⟨⟨v', rfl, v0, v1⟩, rd', hg'⟩
    obtain ⟨n1, rfl⟩ : ∃ k : Nat, v' = (k : Int) := ⟨v'.toNat, by omega⟩
    have hn1 : n1 < 4 := by omega
    have hbn1 : (n1 : Int) < 4 := by omega
    clear v1
    have hw' : IntKind.i64.wrap (1 + (n1 : Int)) = 1 + (n1 : Int) := wrap_i64_id _ (by omega) (by omega)
    refine ⟨_, rfl, ?_⟩
    have rB1' := rB1.grown hg' (fun e => by injection e with e; omega)
    have r4' := r4.grown hg' (fun e => by injection e with e; omega)
    refine hK.out _ _ (trivial) (fun _ => ?_)
    clear hK K
    try simp only [Act.put, List.getElem_toArray, List.getElem_cons_zero, List.getElem_cons_succ, List.setIfInBounds_toArray, List.set_cons_zero, List.set_cons_succ]
    have hHeld : (fun w' => True) u' := trivial
    refine wpAnyH_take (i := 2) (v := .int .i64 (1 + (n1 : Int))) rfl (by kernel_rfl) (by kernel_rfl) (by kernel_rfl) (fun _ _ _ h => absurd h (hQp _ _ _)) (Or.inl ⟨by rfl, fun w hw => by obtain z0 := hw; go_simp⟩) hHeld ?_
    simp only [Act.put, List.getElem_toArray, List.getElem_cons_zero, List.getElem_cons_succ, List.setIfInBounds_toArray, List.set_cons_zero, List.set_cons_succ]
    exact pgS_12 hp p0 hN hNg hQ hQp u' (n1) (B1) (by have e : p + 1 = p + 0 + 1 := (by omega); rw [e]; exact rd') (grown_trans gr hg') (r4') (hn1) (rB1') (lB1) hHeld
  · go_simp
    obtain ⟨u', e_u⟩ : ∃ xw, xw = u.alloc (.cells #[.int .i64 1, .int .i64 2, .int .i64 65536, .int .i64 1000000000] 3) := ⟨_, rfl⟩
    have hb' : Below u.heap.size u u' := by rw [e_u]; exact below_nw _ _
    have rB2' : Row u' u.heap.size ([1, 2, 65536, 1000000000].map (Value.int .i64)) := by rw [e_u]; exact row_new _ _ _
    have l4 := r4.lt
    rw [← e_u]
    clear e_u
    obtain ⟨B2, e_B⟩ : ∃ xb, xb = u.heap.size := ⟨_, rfl⟩
    rw [← e_B] at rB2'
    rw [← e_B]
    have rB1' := rB1.below hb'
    have ltB1 := rB1.lt
    have lB2' : w.heap.size < B2 := by omega
    have ne_B2B1 : B2 ≠ B1 := by omega
    have ne_B1B2 : B1 ≠ B2 := by omega
    clear e_B
    refine hK.out _ _ (trivial) (fun _ => ?_)
    clear hK K
    try simp only [Act.put, List.getElem_toArray, List.getElem_cons_zero, List.getElem_cons_succ, List.setIfInBounds_toArray, List.set_cons_zero, List.set_cons_succ]
    have hHeld : (fun w' => True) u' := trivial
    exact pgS_26 hp p0 hN hNg hQ hQp u' (B1) (B2) (rd.below hb') (grown_trans gr (grown_of_below (some R) hb')) (r4.below hb') (rB1') (lB1) (rB2') (lB2') (ne_B1B2) hHeld
  · go_simp
    obtain ⟨u', e_u⟩ : ∃ xw, xw = u.alloc (.cells #[.int .i64 0, .int .i64 0, .int .i64 0, .string ⟨#[]⟩] 23) := ⟨_, rfl⟩
    have hb' : Below u.heap.size u u' := by rw [e_u]; exact below_nw _ _
    have rX' : Row u' u.heap.size [.int .i64 0, .int .i64 0, .int .i64 0, .string ⟨#[]⟩] := by rw [e_u]; exact row_new _ _ _
    have l4 := r4.lt
    rw [← e_u]
    clear e_u
    obtain ⟨X, e_B⟩ : ∃ xb, xb = u.heap.size := ⟨_, rfl⟩
    rw [← e_B] at rX'
    rw [← e_B]
    have rB1' := rB1.below hb'
    have ltB1 := rB1.lt
    have lX' : w.heap.size < X := by omega
    have ne_XB1 : X ≠ B1 := by omega
    have ne_B1X : B1 ≠ X := by omega
    clear e_B
    refine hK.out _ _ (trivial) (fun _ => ?_)
    clear hK K
    try simp only [Act.put, List.getElem_toArray, List.getElem_cons_zero, List.getElem_cons_succ, List.setIfInBounds_toArray, List.set_cons_zero, List.set_cons_succ]
    have hHeld : (fun w' => True) u' := trivial
    exact pgS_27 hp p0 hN hNg hQ hQp u' (B1) (X) (rd.below hb') (grown_trans gr (grown_of_below (some R) hb')) (r4.below hb') (rB1') (lB1) (rX') (lX') (ne_B1X) hHeld
set_option maxHeartbeats 4000000 in
theorem pgS_29 {R : Nat} {a : Option Addr} {n c : Nat} {p : Int} {wd : Nat} {w : World} (hp : p < 99998000) (p0 : 0 ≤ p) (hN : R < w.heap.size) (hNg : ∀ g o, a = some ⟨g, o, none⟩ → 0 < n → g < w.heap.size) {Q0 : Exit → Act → World → Prop} (hQ : ∀ (act : Act) (w' : World), (∃ (d6 d7 d8 d9 d10 d11 d12 d13 d14 d15 d16 d17 d18 d19 : Value) (X : Nat) (k l m : Int), act = { tmps := #[.pointer (some ⟨R, 0, none⟩), .int .i64 (wd : Int), undef, undef, .pointer (some ⟨w.heap.size, 0, none⟩), .pointer (some ⟨X, 0, none⟩), d6, d7, d8, d9, d10, d11, d12, d13, d14, d15, d16, d17, d18, d19, undef, undef, undef, undef, undef, undef, undef, undef, undef, undef, undef, undef, undef, undef, undef, undef, undef], defers := [] } ∧ Row w' X [.int .i64 k, .int .i64 l, .int .i64 m, .string ⟨#[]⟩] ∧ Row w' w.heap.size [.int .i64 0, .int .i64 0, .int .i64 0, .string ⟨#[]⟩] ∧ Rdr w' R a n c (p + 3) ∧ w.heap.size < X ∧ w.grownBy w' (some R)) → Q0 .normal act w') (hQp : ∀ c a w, ¬ Q0 (.panic c) a w) (u : World) (B2 : Nat) (X : Nat) (rd : Rdr u R a n c (p + 0)) (gr : w.grownBy u (some R)) (r4 : Row u w.heap.size [.int .i64 0, .int .i64 0, .int .i64 0, .string ⟨#[]⟩]) (rB2 : Row u B2 ([1, 2, 65536, 1000000000].map (Value.int .i64))) (lB2 : w.heap.size < B2) (rX : Row u X [.int .i64 0, .int .i64 0, .int .i64 0, .string ⟨#[]⟩]) (lX : w.heap.size < X) (neB2X : B2 ≠ X) (hHeld : (fun w' => True) u) : wpAnyH Tryd.prog .any pgSOps Q0 (fun w' => True) 11 #[true, false, false, false, true, false, false, false, true, true, false, false, false, false, true, false] { tmps := #[.pointer (some ⟨R, 0, none⟩), .int .i64 (wd : Int), undef, undef, .pointer (some ⟨w.heap.size, 0, none⟩), .pointer (some ⟨X, 0, none⟩), .pointer (some ⟨R, 0, none⟩), undef, undef, undef, .pointer (some ⟨R, 0, none⟩), undef, undef, undef, .slice (some ⟨B2, 0, none⟩) 4 4, .pointer (some ⟨R, 0, none⟩), undef, undef, undef, undef, undef, undef, undef, undef, undef, undef, undef, undef, undef, undef, undef, undef, undef, undef, undef, undef, undef], defers := [] } u := by
  unfold pgSOps
  refine wpAnyH_ready (rs := [1, 3]) (by kernel_rfl) (by simp) ?_
  refine AllReadyH.cons rfl (fun K hK => ?_) (AllReadyH.cons rfl (fun K hK => ?_) AllReadyH.nil)
  · refine step_call (by rfl) 21 #[.pointer (some ⟨R, 0, none⟩), .int .i64 4] (by go_simp) (pick_r R a n c (p + 0) 4 _ rd (by omega)) ?_
    rintro e u' ⟨⟨v', rfl, v0, v1⟩, rd', hg'⟩
    obtain ⟨n1, rfl⟩ : ∃ k : Nat, v' = (k : Int) := ⟨v'.toNat, by omega⟩
    have hn1 : n1 < 4 := by omega
    have hbn1 : (n1 : Int) < 4 := by omega
    clear v1
    have hw' : IntKind.i64.wrap (1 + (n1 : Int)) = 1 + (n1 : Int) := wrap_i64_id _ (by omega) (by omega)
    refine ⟨_, rfl, ?_⟩
    have rB2' := rB2.grown hg' (fun e => by injection e with e; omega)
    have rX' := rX.grown hg' (fun e => by injection e with e; omega)
    have r4' := r4.grown hg' (fun e => by injection e with e; omega)
    refine hK.out _ _ (trivial) (fun _ => ?_)
    clear hK K
    try simp only [Act.put, List.getElem_toArray, List.getElem_cons_zero, List.getElem_cons_succ, List.setIfInBounds_toArray, List.set_cons_zero, List.set_cons_succ]
    have hHeld : (fun w' => True) u' := trivial
    refine wpAnyH_take (i := 2) (v := .int .i64 (1 + (n1 : Int))) rfl (by kernel_rfl) (by kernel_rfl) (by kernel_rfl) (fun _ _ _ h => absurd h (hQp _ _ _)) (Or.inl ⟨by rfl, fun w hw => by obtain z0 := hw; go_simp⟩) hHeld ?_
    simp only [Act.put, List.getElem_toArray, List.getElem_cons_zero, List.getElem_cons_succ, List.setIfInBounds_toArray, List.set_cons_zero, List.set_cons_succ]
    exact pgS_21 hp p0 hN hNg hQ hQp u' (n1) (B2) (X) (by have e : p + 1 = p + 0 + 1 := (by omega); rw [e]; exact rd') (grown_trans gr hg') (r4') (hn1) (rB2') (lB2) (rX') (lX) (neB2X) hHeld
  · go_simp
    obtain ⟨u', e_u⟩ : ∃ xw, xw = u.alloc (.cells #[.int .i64 1, .int .i64 2, .int .i64 256, .int .i64 60000] 3) := ⟨_, rfl⟩
    have hb' : Below u.heap.size u u' := by rw [e_u]; exact below_nw _ _
    have rB1' : Row u' u.heap.size ([1, 2, 256, 60000].map (Value.int .i64)) := by rw [e_u]; exact row_new _ _ _
    have l4 := r4.lt
    rw [← e_u]
    clear e_u
    obtain ⟨B1, e_B⟩ : ∃ xb, xb = u.heap.size := ⟨_, rfl⟩
    rw [← e_B] at rB1'
    rw [← e_B]
    have rB2' := rB2.below hb'
    have ltB2 := rB2.lt
    have rX' := rX.below hb'
    have ltX := rX.lt
    have lB1' : w.heap.size < B1 := by omega
    have ne_B1B2 : B1 ≠ B2 := by omega
    have ne_B2B1 : B2 ≠ B1 := by omega
    have ne_B1X : B1 ≠ X := by omega
    have ne_XB1 : X ≠ B1 := by omega
    clear e_B
    refine hK.out _ _ (trivial) (fun _ => ?_)
    clear hK K
    try simp only [Act.put, List.getElem_toArray, List.getElem_cons_zero, List.getElem_cons_succ, List.setIfInBounds_toArray, List.set_cons_zero, List.set_cons_succ]
    have hHeld : (fun w' => True) u' := trivial
    exact pgS_25 hp p0 hN hNg hQ hQp u' (B1) (B2) (X) (rd.below hb') (grown_trans gr (grown_of_below (some R) hb')) (r4.below hb') (rB1') (lB1') (rB2') (lB2) (rX') (lX) (ne_B1B2) (ne_B1X) (neB2X) hHeld
set_option maxHeartbeats 4000000 in
theorem pgS_30 {R : Nat} {a : Option Addr} {n c : Nat} {p : Int} {wd : Nat} {w : World} (hp : p < 99998000) (p0 : 0 ≤ p) (hN : R < w.heap.size) (hNg : ∀ g o, a = some ⟨g, o, none⟩ → 0 < n → g < w.heap.size) {Q0 : Exit → Act → World → Prop} (hQ : ∀ (act : Act) (w' : World), (∃ (d6 d7 d8 d9 d10 d11 d12 d13 d14 d15 d16 d17 d18 d19 : Value) (X : Nat) (k l m : Int), act = { tmps := #[.pointer (some ⟨R, 0, none⟩), .int .i64 (wd : Int), undef, undef, .pointer (some ⟨w.heap.size, 0, none⟩), .pointer (some ⟨X, 0, none⟩), d6, d7, d8, d9, d10, d11, d12, d13, d14, d15, d16, d17, d18, d19, undef, undef, undef, undef, undef, undef, undef, undef, undef, undef, undef, undef, undef, undef, undef, undef, undef], defers := [] } ∧ Row w' X [.int .i64 k, .int .i64 l, .int .i64 m, .string ⟨#[]⟩] ∧ Row w' w.heap.size [.int .i64 0, .int .i64 0, .int .i64 0, .string ⟨#[]⟩] ∧ Rdr w' R a n c (p + 3) ∧ w.heap.size < X ∧ w.grownBy w' (some R)) → Q0 .normal act w') (hQp : ∀ c a w, ¬ Q0 (.panic c) a w) (u : World) (B2 : Nat) (rd : Rdr u R a n c (p + 0)) (gr : w.grownBy u (some R)) (r4 : Row u w.heap.size [.int .i64 0, .int .i64 0, .int .i64 0, .string ⟨#[]⟩]) (rB2 : Row u B2 ([1, 2, 65536, 1000000000].map (Value.int .i64))) (lB2 : w.heap.size < B2) (hHeld : (fun w' => True) u) : wpAnyH Tryd.prog .any pgSOps Q0 (fun w' => True) 12 #[true, false, false, false, true, false, false, false, true, true, false, false, false, false, false, false] { tmps := #[.pointer (some ⟨R, 0, none⟩), .int .i64 (wd : Int), undef, undef, .pointer (some ⟨w.heap.size, 0, none⟩), undef, .pointer (some ⟨R, 0, none⟩), undef, undef, undef, .pointer (some ⟨R, 0, none⟩), undef, undef, undef, .slice (some ⟨B2, 0, none⟩) 4 4, .pointer (some ⟨R, 0, none⟩), undef, undef, undef, undef, undef, undef, undef, undef, undef, undef, undef, undef, undef, undef, undef, undef, undef, undef, undef, undef, undef], defers := [] } u := by
  unfold pgSOps
  refine wpAnyH_ready (rs := [1, 3, 14]) (by kernel_rfl) (by simp) ?_
  refine AllReadyH.cons rfl (fun K hK => ?_) (AllReadyH.cons rfl (fun K hK => ?_) (AllReadyH.cons rfl (fun K hK => ?_) AllReadyH.nil))
  · refine step_call (by rfl) 21 #[.pointer (some ⟨R, 0, none⟩), .int .i64 4] (by go_simp) (pick_r R a n c (p + 0) 4 _ rd (by omega)) ?_
    rintro e u' ⟨⟨v', rfl, v0, v1⟩, rd', hg'⟩
    obtain ⟨n1, rfl⟩ : ∃ k : Nat, v' = (k : Int) := ⟨v'.toNat, by omega⟩
    have hn1 : n1 < 4 := by omega
    have hbn1 : (n1 : Int) < 4 := by omega
    clear v1
    have hw' : IntKind.i64.wrap (1 + (n1 : Int)) = 1 + (n1 : Int) := wrap_i64_id _ (by omega) (by omega)
    refine ⟨_, rfl, ?_⟩
    have rB2' := rB2.grown hg' (fun e => by injection e with e; omega)
    have r4' := r4.grown hg' (fun e => by injection e with e; omega)
    refine hK.out _ _ (trivial) (fun _ => ?_)
    clear hK K
    try simp only [Act.put, List.getElem_toArray, List.getElem_cons_zero, List.getElem_cons_succ, List.setIfInBounds_toArray, List.set_cons_zero, List.set_cons_succ]
    have hHeld : (fun w' => True) u' := trivial
    refine wpAnyH_take (i := 2) (v := .int .i64 (1 + (n1 : Int))) rfl (by kernel_rfl) (by kernel_rfl) (by kernel_rfl) (fun _ _ _ h => absurd h (hQp _ _ _)) (Or.inl ⟨by rfl, fun w hw => by obtain z0 := hw; go_simp⟩) hHeld ?_
    simp only [Act.put, List.getElem_toArray, List.getElem_cons_zero, List.getElem_cons_succ, List.setIfInBounds_toArray, List.set_cons_zero, List.set_cons_succ]
    exact pgS_22 hp p0 hN hNg hQ hQp u' (n1) (B2) (by have e : p + 1 = p + 0 + 1 := (by omega); rw [e]; exact rd') (grown_trans gr hg') (r4') (hn1) (rB2') (lB2) hHeld
  · go_simp
    obtain ⟨u', e_u⟩ : ∃ xw, xw = u.alloc (.cells #[.int .i64 1, .int .i64 2, .int .i64 256, .int .i64 60000] 3) := ⟨_, rfl⟩
    have hb' : Below u.heap.size u u' := by rw [e_u]; exact below_nw _ _
    have rB1' : Row u' u.heap.size ([1, 2, 256, 60000].map (Value.int .i64)) := by rw [e_u]; exact row_new _ _ _
    have l4 := r4.lt
    rw [← e_u]
    clear e_u
    obtain ⟨B1, e_B⟩ : ∃ xb, xb = u.heap.size := ⟨_, rfl⟩
    rw [← e_B] at rB1'
    rw [← e_B]
    have rB2' := rB2.below hb'
    have ltB2 := rB2.lt
    have lB1' : w.heap.size < B1 := by omega
    have ne_B1B2 : B1 ≠ B2 := by omega
    have ne_B2B1 : B2 ≠ B1 := by omega
    clear e_B
    refine hK.out _ _ (trivial) (fun _ => ?_)
    clear hK K
    try simp only [Act.put, List.getElem_toArray, List.getElem_cons_zero, List.getElem_cons_succ, List.setIfInBounds_toArray, List.set_cons_zero, List.set_cons_succ]
    have hHeld : (fun w' => True) u' := trivial
    exact pgS_26 hp p0 hN hNg hQ hQp u' (B1) (B2) (rd.below hb') (grown_trans gr (grown_of_below (some R) hb')) (r4.below hb') (rB1') (lB1') (rB2') (lB2) (ne_B1B2) hHeld
  · go_simp
    obtain ⟨u', e_u⟩ : ∃ xw, xw = u.alloc (.cells #[.int .i64 0, .int .i64 0, .int .i64 0, .string ⟨#[]⟩] 23) := ⟨_, rfl⟩
    have hb' : Below u.heap.size u u' := by rw [e_u]; exact below_nw _ _
    have rX' : Row u' u.heap.size [.int .i64 0, .int .i64 0, .int .i64 0, .string ⟨#[]⟩] := by rw [e_u]; exact row_new _ _ _
    have l4 := r4.lt
    rw [← e_u]
    clear e_u
    obtain ⟨X, e_B⟩ : ∃ xb, xb = u.heap.size := ⟨_, rfl⟩
    rw [← e_B] at rX'
    rw [← e_B]
    have rB2' := rB2.below hb'
    have ltB2 := rB2.lt
    have lX' : w.heap.size < X := by omega
    have ne_XB2 : X ≠ B2 := by omega
    have ne_B2X : B2 ≠ X := by omega
    clear e_B
    refine hK.out _ _ (trivial) (fun _ => ?_)
    clear hK K
    try simp only [Act.put, List.getElem_toArray, List.getElem_cons_zero, List.getElem_cons_succ, List.setIfInBounds_toArray, List.set_cons_zero, List.set_cons_succ]
    have hHeld : (fun w' => True) u' := trivial
    exact pgS_29 hp p0 hN hNg hQ hQp u' (B2) (X) (rd.below hb') (grown_trans gr (grown_of_below (some R) hb')) (r4.below hb') (rB2') (lB2) (rX') (lX') (ne_B2X) hHeld
set_option maxHeartbeats 4000000 in
theorem pgS_31 {R : Nat} {a : Option Addr} {n c : Nat} {p : Int} {wd : Nat} {w : World} (hp : p < 99998000) (p0 : 0 ≤ p) (hN : R < w.heap.size) (hNg : ∀ g o, a = some ⟨g, o, none⟩ → 0 < n → g < w.heap.size) {Q0 : Exit → Act → World → Prop} (hQ : ∀ (act : Act) (w' : World), (∃ (d6 d7 d8 d9 d10 d11 d12 d13 d14 d15 d16 d17 d18 d19 : Value) (X : Nat) (k l m : Int), act = { tmps := #[.pointer (some ⟨R, 0, none⟩), .int .i64 (wd : Int), undef, undef, .pointer (some ⟨w.heap.size, 0, none⟩), .pointer (some ⟨X, 0, none⟩), d6, d7, d8, d9, d10, d11, d12, d13, d14, d15, d16, d17, d18, d19, undef, undef, undef, undef, undef, undef, undef, undef, undef, undef, undef, undef, undef, undef, undef, undef, undef], defers := [] } ∧ Row w' X [.int .i64 k, .int .i64 l, .int .i64 m, .string ⟨#[]⟩] ∧ Row w' w.heap.size [.int .i64 0, .int .i64 0, .int .i64 0, .string ⟨#[]⟩] ∧ Rdr w' R a n c (p + 3) ∧ w.heap.size < X ∧ w.grownBy w' (some R)) → Q0 .normal act w') (hQp : ∀ c a w, ¬ Q0 (.panic c) a w) (u : World) (X : Nat) (rd : Rdr u R a n c (p + 0)) (gr : w.grownBy u (some R)) (r4 : Row u w.heap.size [.int .i64 0, .int .i64 0, .int .i64 0, .string ⟨#[]⟩]) (rX : Row u X [.int .i64 0, .int .i64 0, .int .i64 0, .string ⟨#[]⟩]) (lX : w.heap.size < X) (hHeld : (fun w' => True) u) : wpAnyH Tryd.prog .any pgSOps Q0 (fun w' => True) 12 #[true, false, false, false, true, false, false, false, false, true, false, false, false, false, true, false] { tmps := #[.pointer (some ⟨R, 0, none⟩), .int .i64 (wd : Int), undef, undef, .pointer (some ⟨w.heap.size, 0, none⟩), .pointer (some ⟨X, 0, none⟩), .pointer (some ⟨R, 0, none⟩), undef, undef, undef, .pointer (some ⟨R, 0, none⟩), undef, undef, undef, undef, .pointer (some ⟨R, 0, none⟩), undef, undef, undef, undef, undef, undef, undef, undef, undef, undef, undef, undef, undef, undef, undef, undef, undef, undef, undef, undef, undef], defers := [] } u := by
  unfold pgSOps
  refine wpAnyH_ready (rs := [1, 3, 8]) (by kernel_rfl) (by simp) ?_
  refine AllReadyH.cons rfl (fun K hK => ?_) (AllReadyH.cons rfl (fun K hK => ?_) (AllReadyH.cons rfl (fun K hK => ?_) AllReadyH.nil))
  · refine step_call (by rfl) 21 #[.pointer (some ⟨R, 0, none⟩), .int .i64 4] (by go_simp) (pick_r R a n c (p + 0) 4 _ rd (by omega)) ?_
    rintro e u' ⟨⟨v', rfl, v0, v1⟩, rd', hg'⟩
    obtain ⟨n1, rfl⟩ : ∃ k : Nat, v' = (k : Int) := ⟨v'.toNat, by omega⟩
    have hn1 : n1 < 4 := by omega
    have hbn1 : (n1 : Int) < 4 := by omega
    clear v1
    have hw' : IntKind.i64.wrap (1 + (n1 : Int)) = 1 + (n1 : Int) := wrap_i64_id _ (by omega) (by omega)
    refine ⟨_, rfl, ?_⟩
    have rX' := rX.grown hg' (fun e => by injection e with e; omega)
    have r4' := r4.grown hg' (fun e => by injection e with e; omega)
    refine hK.out _ _ (trivial) (fun _ => ?_)
    clear hK K
    try simp only [Act.put, List.getElem_toArray, List.getElem_cons_zero, List.getElem_cons_succ, List.setIfInBounds_toArray, List.set_cons_zero, List.set_cons_succ]
    have hHeld : (fun w' => True) u' := trivial
    refine wpAnyH_take (i := 2) (v := .int .i64 (1 + (n1 : Int))) rfl (by kernel_rfl) (by kernel_rfl) (by kernel_rfl) (fun _ _ _ h => absurd h (hQp _ _ _)) (Or.inl ⟨by rfl, fun w hw => by obtain z0 := hw; go_simp⟩) hHeld ?_
    simp only [Act.put, List.getElem_toArray, List.getElem_cons_zero, List.getElem_cons_succ, List.setIfInBounds_toArray, List.set_cons_zero, List.set_cons_succ]
    exact pgS_23 hp p0 hN hNg hQ hQp u' (n1) (X) (by have e : p + 1 = p + 0 + 1 := (by omega); rw [e]; exact rd') (grown_trans gr hg') (r4') (hn1) (rX') (lX) hHeld
  · go_simp
    obtain ⟨u', e_u⟩ : ∃ xw, xw = u.alloc (.cells #[.int .i64 1, .int .i64 2, .int .i64 256, .int .i64 60000] 3) := ⟨_, rfl⟩
    have hb' : Below u.heap.size u u' := by rw [e_u]; exact below_nw _ _
    have rB1' : Row u' u.heap.size ([1, 2, 256, 60000].map (Value.int .i64)) := by rw [e_u]; exact row_new _ _ _
    have l4 := r4.lt
    rw [← e_u]
    clear e_u
    obtain ⟨B1, e_B⟩ : ∃ xb, xb = u.heap.size := ⟨_, rfl⟩
    rw [← e_B] at rB1'
    rw [← e_B]
    have rX' := rX.below hb'
    have ltX := rX.lt
    have lB1' : w.heap.size < B1 := by omega
    have ne_B1X : B1 ≠ X := by omega
    have ne_XB1 : X ≠ B1 := by omega
    clear e_B
    refine hK.out _ _ (trivial) (fun _ => ?_)
    clear hK K
    try simp only [Act.put, List.getElem_toArray, List.getElem_cons_zero, List.getElem_cons_succ, List.setIfInBounds_toArray, List.set_cons_zero, List.set_cons_succ]
    have hHeld : (fun w' => True) u' := trivial
    exact pgS_27 hp p0 hN hNg hQ hQp u' (B1) (X) (rd.below hb') (grown_trans gr (grown_of_below (some R) hb')) (r4.below hb') (rB1') (lB1') (rX') (lX) (ne_B1X) hHeld
  · go_simp
    obtain ⟨u', e_u⟩ : ∃ xw, xw = u.alloc (.cells #[.int .i64 1, .int .i64 2, .int .i64 65536, .int .i64 1000000000] 3) := ⟨_, rfl⟩
    have hb' : Below u.heap.size u u' := by rw [e_u]; exact below_nw _ _
    have rB2' : Row u' u.heap.size ([1, 2, 65536, 1000000000].map (Value.int .i64)) := by rw [e_u]; exact row_new _ _ _
    have l4 := r4.lt
    rw [← e_u]
    clear e_u
    obtain ⟨B2, e_B⟩ : ∃ xb, xb = u.heap.size := ⟨_, rfl⟩
    rw [← e_B] at rB2'
    rw [← e_B]
    have rX' := rX.below hb'
    have ltX := rX.lt
    have lB2' : w.heap.size < B2 := by omega
    have ne_B2X : B2 ≠ X := by omega
    have ne_XB2 : X ≠ B2 := by omega
    clear e_B
    refine hK.out _ _ (trivial) (fun _ => ?_)
    clear hK K
    try simp only [Act.put, List.getElem_toArray, List.getElem_cons_zero, List.getElem_cons_succ, List.setIfInBounds_toArray, List.set_cons_zero, List.set_cons_succ]
    have hHeld : (fun w' => True) u' := trivial
    exact pgS_29 hp p0 hN hNg hQ hQp u' (B2) (X) (rd.below hb') (grown_trans gr (grown_of_below (some R) hb')) (r4.below hb') (rB2') (lB2') (rX') (lX) (ne_B2X) hHeld
set_option maxHeartbeats 4000000 in
theorem pgS_32 {R : Nat} {a : Option Addr} {n c : Nat} {p : Int} {wd : Nat} {w : World} (hp : p < 99998000) (p0 : 0 ≤ p) (hN : R < w.heap.size) (hNg : ∀ g o, a = some ⟨g, o, none⟩ → 0 < n → g < w.heap.size) {Q0 : Exit → Act → World → Prop} (hQ : ∀ (act : Act) (w' : World), (∃ (d6 d7 d8 d9 d10 d11 d12 d13 d14 d15 d16 d17 d18 d19 : Value) (X : Nat) (k l m : Int), act = { tmps := #[.pointer (some ⟨R, 0, none⟩), .int .i64 (wd : Int), undef, undef, .pointer (some ⟨w.heap.size, 0, none⟩), .pointer (some ⟨X, 0, none⟩), d6, d7, d8, d9, d10, d11, d12, d13, d14, d15, d16, d17, d18, d19, undef, undef, undef, undef, undef, undef, undef, undef, undef, undef, undef, undef, undef, undef, undef, undef, undef], defers := [] } ∧ Row w' X [.int .i64 k, .int .i64 l, .int .i64 m, .string ⟨#[]⟩] ∧ Row w' w.heap.size [.int .i64 0, .int .i64 0, .int .i64 0, .string ⟨#[]⟩] ∧ Rdr w' R a n c (p + 3) ∧ w.heap.size < X ∧ w.grownBy w' (some R)) → Q0 .normal act w') (hQp : ∀ c a w, ¬ Q0 (.panic c) a w) (u : World) (rd : Rdr u R a n c (p + 0)) (gr : w.grownBy u (some R)) (r4 : Row u w.heap.size [.int .i64 0, .int .i64 0, .int .i64 0, .string ⟨#[]⟩]) (hHeld : (fun w' => True) u) : wpAnyH Tryd.prog .any pgSOps Q0 (fun w' => True) 13 #[true, false, false, false, true, false, false, false, false, true, false, false, false, false, false, false] { tmps := #[.pointer (some ⟨R, 0, none⟩), .int .i64 (wd : Int), undef, undef, .pointer (some ⟨w.heap.size, 0, none⟩), undef, .pointer (some ⟨R, 0, none⟩), undef, undef, undef, .pointer (some ⟨R, 0, none⟩), undef, undef, undef, undef, .pointer (some ⟨R, 0, none⟩), undef, undef, undef, undef, undef, undef, undef, undef, undef, undef, undef, undef, undef, undef, undef, undef, undef, undef, undef, undef, undef], defers := [] } u := by
  unfold pgSOps
  refine wpAnyH_ready (rs := [1, 3, 8, 14]) (by kernel_rfl) (by simp) ?_
  refine AllReadyH.cons rfl (fun K hK => ?_) (AllReadyH.cons rfl (fun K hK => ?_) (AllReadyH.cons rfl (fun K hK => ?_) (AllReadyH.cons rfl (fun K hK => ?_) AllReadyH.nil)))
  · refine step_call (by rfl) 21 #[.pointer (some ⟨R, 0, none⟩), .int .i64 4] (by go_simp) (pick_r R a n c (p + 0) 4 _ rd (by omega)) ?_
    rintro e u' ⟨⟨v', rfl, v0, v1⟩, rd', hg'⟩
    obtain ⟨n1, rfl⟩ : ∃ k : Nat, v' = (k : Int) := ⟨v'.toNat, by omega⟩
    have hn1 : n1 < 4 := by omega
    have hbn1 : (n1 : Int) < 4 := by omega
    clear v1
    have hw' : IntKind.i64.wrap (1 + (n1 : Int)) = 1 + (n1 : Int) := wrap_i64_id _ (by omega) (by omega)
    refine ⟨_, rfl, ?_⟩
    have r4' := r4.grown hg' (fun e => by injection e with e; omega)
    refine hK.out _ _ (trivial) (fun _ => ?_)
    clear hK K
    try simp only [Act.put, List.getElem_toArray, List.getElem_cons_zero, List.getElem_cons_succ, List.setIfInBounds_toArray, List.set_cons_zero, List.set_cons_succ]
    have hHeld : (fun w' => True) u' := trivial
    refine wpAnyH_take (i := 2) (v := .int .i64 (1 + (n1 : Int))) rfl (by kernel_rfl) (by kernel_rfl) (by kernel_rfl) (fun _ _ _ h => absurd h (hQp _ _ _)) (Or.inl ⟨by rfl, fun w hw => by obtain z0 := hw; go_simp⟩) hHeld ?_
    simp only [Act.put, List.getElem_toArray, List.getElem_cons_zero, List.getElem_cons_succ, List.setIfInBounds_toArray, List.set_cons_zero, List.set_cons_succ]
    exact pgS_24 hp p0 hN hNg hQ hQp u' (n1) (by have e : p + 1 = p + 0 + 1 := (by omega); rw [e]; exact rd') (grown_trans gr hg') (r4') (hn1) hHeld
  · go_simp
    obtain ⟨u', e_u⟩ : ∃ xw, xw = u.alloc (.cells #[.int .i64 1, .int .i64 2, .int .i64 256, .int .i64 60000] 3) := ⟨_, rfl⟩
    have hb' : Below u.heap.size u u' := by rw [e_u]; exact below_nw _ _
    have rB1' : Row u' u.heap.size ([1, 2, 256, 60000].map (Value.int .i64)) := by rw [e_u]; exact row_new _ _ _
    have l4 := r4.lt
    rw [← e_u]
    clear e_u
    obtain ⟨B1, e_B⟩ : ∃ xb, xb = u.heap.size := ⟨_, rfl⟩
    rw [← e_B] at rB1'
    rw [← e_B]
    have lB1' : w.heap.size < B1 := by omega
    clear e_B
    refine hK.out _ _ (trivial) (fun _ => ?_)
    clear hK K
    try simp only [Act.put, List.getElem_toArray, List.getElem_cons_zero, List.getElem_cons_succ, List.setIfInBounds_toArray, List.set_cons_zero, List.set_cons_succ]
    have hHeld : (fun w' => True) u' := trivial
    exact pgS_28 hp p0 hN hNg hQ hQp u' (B1) (rd.below hb') (grown_trans gr (grown_of_below (some R) hb')) (r4.below hb') (rB1') (lB1') hHeld
  · go_simp
    obtain ⟨u', e_u⟩ : ∃ xw, xw = u.alloc (.cells #[.int .i64 1, .int .i64 2, .int .i64 65536, .int .i64 1000000000] 3) := ⟨_, rfl⟩
    have hb' : Below u.heap.size u u' := by rw [e_u]; exact below_nw _ _
    have rB2' : Row u' u.heap.size ([1, 2, 65536, 1000000000].map (Value.int .i64)) := by rw [e_u]; exact row_new _ _ _
    have l4 := r4.lt
    rw [← e_u]
    clear e_u
    obtain ⟨B2, e_B⟩ : ∃ xb, xb = u.heap.size := ⟨_, rfl⟩
    rw [← e_B] at rB2'
    rw [← e_B]
    have lB2' : w.heap.size < B2 := by omega
    clear e_B
    refine hK.out _ _ (trivial) (fun _ => ?_)
    clear hK K
    try simp only [Act.put, List.getElem_toArray, List.getElem_cons_zero, List.getElem_cons_succ, List.setIfInBounds_toArray, List.set_cons_zero, List.set_cons_succ]
    have hHeld : (fun w' => True) u' := trivial
    exact pgS_30 hp p0 hN hNg hQ hQp u' (B2) (rd.below hb') (grown_trans gr (grown_of_below (some R) hb')) (r4.below hb') (rB2') (lB2') hHeld
  · go_simp
    obtain ⟨u', e_u⟩ : ∃ xw, xw = u.alloc (.cells #[.int .i64 0, .int .i64 0, .int .i64 0, .string ⟨#[]⟩] 23) := ⟨_, rfl⟩
    have hb' : Below u.heap.size u u' := by rw [e_u]; exact below_nw _ _
    have rX' : Row u' u.heap.size [.int .i64 0, .int .i64 0, .int .i64 0, .string ⟨#[]⟩] := by rw [e_u]; exact row_new _ _ _
    have l4 := r4.lt
    rw [← e_u]
    clear e_u
    obtain ⟨X, e_B⟩ : ∃ xb, xb = u.heap.size := ⟨_, rfl⟩
    rw [← e_B] at rX'
    rw [← e_B]
    have lX' : w.heap.size < X := by omega
    clear e_B
    refine hK.out _ _ (trivial) (fun _ => ?_)
    clear hK K
    try simp only [Act.put, List.getElem_toArray, List.getElem_cons_zero, List.getElem_cons_succ, List.setIfInBounds_toArray, List.set_cons_zero, List.set_cons_succ]
    have hHeld : (fun w' => True) u' := trivial
    exact pgS_31 hp p0 hN hNg hQ hQp u' (X) (rd.below hb') (grown_trans gr (grown_of_below (some R) hb')) (r4.below hb') (rX') (lX') hHeld
set_option maxHeartbeats 4000000 in
theorem pgS_b {R : Nat} {a : Option Addr} {n c : Nat} {p : Int} {wd : Nat} {w : World} (hp : p < 99998000) (p0 : 0 ≤ p) (hN : R < w.heap.size) (hNg : ∀ g o, a = some ⟨g, o, none⟩ → 0 < n → g < w.heap.size) {Q0 : Exit → Act → World → Prop} (hQ : ∀ (act : Act) (w' : World), (∃ (d6 d7 d8 d9 d10 d11 d12 d13 d14 d15 d16 d17 d18 d19 : Value) (X : Nat) (k l m : Int), act = { tmps := #[.pointer (some ⟨R, 0, none⟩), .int .i64 (wd : Int), undef, undef, .pointer (some ⟨w.heap.size, 0, none⟩), .pointer (some ⟨X, 0, none⟩), d6, d7, d8, d9, d10, d11, d12, d13, d14, d15, d16, d17, d18, d19, undef, undef, undef, undef, undef, undef, undef, undef, undef, undef, undef, undef, undef, undef, undef, undef, undef], defers := [] } ∧ Row w' X [.int .i64 k, .int .i64 l, .int .i64 m, .string ⟨#[]⟩] ∧ Row w' w.heap.size [.int .i64 0, .int .i64 0, .int .i64 0, .string ⟨#[]⟩] ∧ Rdr w' R a n c (p + 3) ∧ w.heap.size < X ∧ w.grownBy w' (some R)) → Q0 .normal act w') (hQp : ∀ c a w, ¬ Q0 (.panic c) a w) (u : World) (rd : Rdr u R a n c (p + 0)) (gr : w.grownBy u (some R)) (r4 : Row u w.heap.size [.int .i64 0, .int .i64 0, .int .i64 0, .string ⟨#[]⟩]) (hHeld : (fun w' => True) u) : wpAnyH Tryd.prog .any pgSOps Q0 (fun w' => True) 16 #[false, false, false, false, false, false, false, false, false, false, false, false, false, false, false, false] { tmps := #[.pointer (some ⟨R, 0, none⟩), .int .i64 (wd : Int), undef, undef, .pointer (some ⟨w.heap.size, 0, none⟩), undef, undef, undef, undef, undef, undef, undef, undef, undef, undef, undef, undef, undef, undef, undef, undef, undef, undef, undef, undef, undef, undef, undef, undef, undef, undef, undef, undef, undef, undef, undef, undef], defers := [] } u := by
  unfold pgSOps
  refine wpAnyH_take (i := 0) (v := .pointer (some ⟨R, 0, none⟩)) rfl (by kernel_rfl) (by kernel_rfl) (by kernel_rfl) (fun _ _ _ h => absurd h (hQp _ _ _)) (Or.inl ⟨by rfl, fun w hw => by obtain z0 := hw; go_simp⟩) hHeld ?_
  simp only [Act.put, List.getElem_toArray, List.getElem_cons_zero, List.getElem_cons_succ, List.setIfInBounds_toArray, List.set_cons_zero, List.set_cons_succ]
  refine wpAnyH_take (i := 4) (v := .pointer (some ⟨R, 0, none⟩)) rfl (by kernel_rfl) (by kernel_rfl) (by kernel_rfl) (fun _ _ _ h => absurd h (hQp _ _ _)) (Or.inl ⟨by rfl, fun w hw => by obtain z0 := hw; go_simp⟩) hHeld ?_
  simp only [Act.put, List.getElem_toArray, List.getElem_cons_zero, List.getElem_cons_succ, List.setIfInBounds_toArray, List.set_cons_zero, List.set_cons_succ]
  refine wpAnyH_take (i := 9) (v := .pointer (some ⟨R, 0, none⟩)) rfl (by kernel_rfl) (by kernel_rfl) (by kernel_rfl) (fun _ _ _ h => absurd h (hQp _ _ _)) (Or.inl ⟨by rfl, fun w hw => by obtain z0 := hw; go_simp⟩) hHeld ?_
  simp only [Act.put, List.getElem_toArray, List.getElem_cons_zero, List.getElem_cons_succ, List.setIfInBounds_toArray, List.set_cons_zero, List.set_cons_succ]
  exact pgS_32 hp p0 hN hNg hQ hQp u rd gr r4 hHeld
end Go.Proofs.YtnmaknnnmjfhkacDoor
