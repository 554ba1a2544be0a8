import Derived.Test.YtnmaknnnmjfhkaeDoorCards
import Derived.Test.YtnmaknnnmjfhkaeDoorTie
import Derived.Test.YtnmaknnnmjfhkaeDoorFnA
import Derived.Test.YtnmaknnnmjfhkaeDoorFnB
import Derived.Test.YtnmaknnnmjfhkaeDoorOpn
import Derived.Test.YtnmaknnnmjfhkaeDoorEq
import Derived.WalkKit
import Derived.ProofKit
import Derived.OpenShut
import Derived.ShutString
import Derived.ChangeOld
import Derived.Below
import Derived.Lib.SmallJoins
import Derived.OpenVars
import Derived.LaidLaws
import Derived.LaidHandle
import Derived.Deep.DeepHandedRow
namespace Go.Proofs.YtnmaknnnmjfhkaeDoor.fnExactFindRoot
open Go.ChangeShapes Go.WideShapes Go.ChangeAt Go.RowKit Go.Joins
open Go.ChangeMaps (open_string shut_string)
set_option linter.unusedVariables false

theorem own : ownKnob Tryd.prog.godebug = none := by kernel_rfl
theorem laidOut : laidOutB Tryd.prog = true := by kernel_rfl
theorem gEt : Tryd.prog.globalNamed "errors.errorType" = some 0 := by kernel_rfl
theorem gEn : Tryd.prog.globalNamed "loop.example/kilnstone/impl.errNoPage" = some 1 := by kernel_rfl
theorem gEnT : (Tryd.prog.globals[1]?).map (·.type) = some 91 := by kernel_rfl
theorem rt : (Tryd.prog.cutTypes.find? (·.1 == "internal/reflectlite.rtype")).map (·.2) = some 177 := by kernel_rfl
theorem oneRow : ((List.range Tryd.prog.types.size).filter fun t => Tryd.prog.rowNamed t [101, 114, 114, 111, 114]) = [91] := by kernel_rfl

/-- What the list gives: the handle of error, and an error. -/
theorem of_laid {W : World} (h : laidMetH Tryd.prog Rows.fnExactFindRootRow.laid W) : W.cell? ⟨0, 0, none⟩ = some (.iface 177 (.agg #[.pointer (some ⟨2, 91, none⟩)])) ∧ (∃ ty v, W.cell? ⟨1, 0, none⟩ = some (.iface ty v)) ∧ 1 < W.heap.size := by
  have h' : laidMet Tryd.prog [("loop.example/kilnstone/impl.errNoPage", Rows.laid_loop_example_kilnstone_impl_errNoPage)] W ∧ handlesMet Tryd.prog [("errors.errorType", Rows.laid_errors_errorType)] W := h
  obtain ⟨name, u, ty, e1, e2, e3, e4, e5⟩ := h'.2 _ (List.mem_singleton.2 rfl)
  have en : name = [101, 114, 114, 111, 114] := (Option.some.inj e1).symm
  subst en
  obtain rfl := Option.some.inj (rt.symm.trans e2)
  have hm : ty ∈ (List.range Tryd.prog.types.size).filter fun t => Tryd.prog.rowNamed t [101, 114, 114, 111, 114] := List.mem_filter.2 ⟨List.mem_range.2 e3, e4⟩
  rw [oneRow] at hm
  obtain rfl := List.mem_singleton.1 hm
  have hh : typeHandle Tryd.prog 91 = .pointer (some ⟨2, 91, none⟩) := by kernel_rfl
  rw [hh] at e5
  obtain ⟨ps, ⟨g0, t0, cs0, f0, p0, q0, hg0, ht0, hv0, hd0, _, _⟩, _, _⟩ := h'.1
  obtain rfl := Option.some.inj (gEn.symm.trans hg0)
  obtain rfl := Option.some.inj (gEnT.symm.trans ht0)
  obtain ⟨l0⟩ := cs0
  obtain ⟨_, u, v, hcs, _, _⟩ := iface_of_trod Tryd.underlying91 hd0
  have hc1 : W.cell? ⟨1, 0, none⟩ = some (.iface u v) := by
    have := World.var?_cell gEn hv0 0
    simp at hcs
    subst hcs
    simpa using this
  refine ⟨by simpa using World.var?_cell gEt e5 0, ⟨u, v, hc1⟩, ?_⟩
  rcases Nat.lt_or_ge 1 W.heap.size with hl | hl
  · exact hl
  · exfalso
    have : W.heap[1]? = none := Array.getElem?_eq_none hl
    simp [World.cell?, this] at hc1

theorem cx_two {w : World} {B B' : Nat} {v0 v1 u0 u1 : Value} (h : Cx w B v0 v1) (h' : Cx w B' u0 u1) : w.cell? ⟨B, 0, none⟩ = some v0 ∧ w.cell? ⟨B, 1, none⟩ = some v1 ∧ w.cell? ⟨B', 0, none⟩ = some u0 ∧ w.cell? ⟨B', 1, none⟩ = some u1 := ⟨h.c0, h.c1, h'.c0, h'.c1⟩
theorem eq_root (t h f l : Int) (w : World) : Calls Tryd.prog 20 #[rootV t h f l, rootV t h f l] w fun e w' => e = .returned (.bool true) ∧ Below w.heap.size w w' := by
  go_enter Tryd.func20, Tryd.ntmps20
  go_wp2
  all_goals go_ret
  all_goals exact ⟨rfl, ((Below.refl _ _).alloc (Nat.le_refl _) _).alloc (by simp) _⟩

set_option maxRecDepth 100000 in
set_option maxHeartbeats 4000000 in
theorem walk (a : Option Addr) (ss : List ByteArray) (c : Nat) (a' : Option Addr) (ws : List (Int × ByteArray)) (c' : Nat) (n : Int) (w : World) (h : Strs w a ss) (h' : Wrs w a' ws)
    (hl : ss.length ≤ maxLen) (hs : ∀ s ∈ ss, s.size ≤ maxLen) (hl' : ws.length ≤ maxLen) (hs' : ∀ s ∈ ws, s.2.size ≤ maxLen) (hL : laidMetH Tryd.prog Rows.fnExactFindRootRow.laid w) :
    Calls Tryd.prog 4 #[diskV a ss.length c a' ws.length c', .int .i64 n] w fun e w' => e = .returned (.bool true) ∧ Below w.heap.size w w' := by
  obtain ⟨hg0, ⟨ty, gv, hgv⟩, hgl⟩ := of_laid hL
  clear hL
  have hb0 : ∀ o, Below w.heap.size w (w.alloc o) := fun o => (Below.refl _ _).alloc (Nat.le_refl _) _
  have hbd := szL_bd (szs ss ws) 1048576 (by omega)
  obtain ⟨R, HR⟩ : ∃ R, Hid (R = szL (szs ss ws) 1048576) := ⟨_, hid rfl⟩
  rw [← HR.out] at hbd
  by_cases hR : R < 0
  · clear hbd
    go_enter Tryd.func4, Tryd.ntmps4
    go_wp2_with fail
    refine (sz_disk a ss c a' ws c' _ (h.below (hb0 _)) (h'.below (hb0 _)) hl hs hl' hs').mono ?_
    rw [← HR.out]
    rintro e w1 ⟨rfl, hb1⟩
    go_wp2
    go_ret
    exact ⟨rfl, (hb0 _).trans (hb1.mono (by simp))⟩
  have hmem := szL_mem (szs ss ws) 1048576 (by omega) (by rw [← HR.out]; omega)
  have m1 : ss.length ≤ 1048576 := by have := hmem ss.length (by simp [szs]); omega
  have m2 : ws.length ≤ 1048576 := by have := hmem ws.length (by simp [szs]); omega
  have M3 : Hid (∀ s ∈ ss, s.size ≤ 1048576) := fun s hs => by
    have := hmem s.size (by simp only [szs, List.mem_append, List.mem_cons, List.mem_map]; exact .inl (.inr ⟨s, hs, rfl⟩)); omega
  have M4 : Hid (∀ x ∈ ws, x.2.size ≤ 1048576) := fun x hx => by
    have := hmem x.2.size (by simp only [szs, List.mem_append, List.mem_cons, List.mem_map]; exact .inr (.inr ⟨x, hx, rfl⟩)); omega
  have hR0 : 0 ≤ R := by omega
  have HI := hid (fun (a : Option Addr) c (a' : Option Addr) c' wx h h' (hb : Below w.heap.size w wx) => fr_i a ss c a' ws c' n wx h h' m1 m2 M3.out M4.out ty gv ((hb.cell (p := ⟨1, 0, none⟩) hgl).trans hgv) ((hb.cell (p := ⟨0, 0, none⟩) (by show 0 < _; omega)).trans hg0) (by have := hb.size; omega))
  have HS := hid (fun (a : Option Addr) c (a' : Option Addr) c' w h h' => fr_s a ss c a' ws c' n w h h' m1 m2 M3.out M4.out)
  obtain ⟨rs, HRS⟩ : ∃ rs, Hid (rs = frD ss ws n) := ⟨_, hid rfl⟩
  rw [← HRS.out] at HI HS
  obtain ⟨t, hh, f, l⟩ := rs
  clear hmem hbd hR
  go_enter Tryd.func4, Tryd.ntmps4
  go_wp2_with fail
  refine (sz_disk a ss c a' ws c' _ (h.below (hb0 _)) (h'.below (hb0 _)) hl hs hl' hs').mono ?_
  rw [← HR.out]
  rintro e w1 ⟨rfl, hb1⟩
  have HXA1 := hid ((Cx.new w (.slice a ss.length c) (.slice a' ws.length c') 46).below hb1)
  have HBE1 := hid (Below.then (hb0 (.cells #[.slice a ss.length c, .slice a' ws.length c'] 46)) (Nat.le_refl _) hb1)
  clear hb1
  have q00 := HXA1.out.c0
  have q01 := HXA1.out.c1
  have q02 := HXA1.out.lt
  go_wp2_with fail
  refine (to_disk a ss c a' ws c' _ (h.below HBE1.out) (h'.below HBE1.out) m1 m2).mono ?_
  rintro e w2 ⟨g1, g1', rfl, _, _, _, hr, hr', hb⟩
  clear q00 q01 q02
  have HXA2 := hid (HXA1.out.below hb)
  have HBE2 := hid (Below.then HBE1.out (Nat.le_refl _) hb)
  clear HXA1 HBE1
  have HS12 := hid (hr.strs)
  have HS22 := hid (hr'.wrs)
  clear hr hr' hb
  go_wp2_with fail
  refine (HS.out _ _ _ _ _ HS12.out HS22.out).mono ?_
  rintro e w3 ⟨rfl, hb⟩
  have HXA3 := hid ((HXA2.out.below hb).below (below_new w3 (.cells #[.int .i64 t, .int .i64 hh, .int .i64 f, .int .i64 l] 49)))
  have HBE3 := hid (Below.then (Below.then HBE2.out (Nat.le_refl _) hb) (Nat.le_refl _) (below_new w3 (.cells #[.int .i64 t, .int .i64 hh, .int .i64 f, .int .i64 l] 49)))
  have HW3 := hid (B4.new w3 (.int .i64 t) (.int .i64 hh) (.int .i64 f) (.int .i64 l) 49)
  clear HXA2 HBE2 HS12 HS22
  clear hb
  have q00 := HXA3.out.c0
  have q01 := HXA3.out.c1
  have q02 := HXA3.out.lt
  go_wp2_with fail
  refine (to_disk a ss c a' ws c' _ (h.below HBE3.out) (h'.below HBE3.out) m1 m2).mono ?_
  rintro e w4 ⟨g, g', rfl, _, _, _, hr, hr', hb⟩
  clear q00 q01 q02
  have HXA5 := hid ((HXA3.out.below hb).below (below_new w4 (.cells #[.slice (some ⟨g, 0, none⟩) ss.length ss.length, .slice (some ⟨g', 0, none⟩) ws.length ws.length] 31)))
  have HBE5 := hid (Below.then (Below.then HBE3.out (Nat.le_refl _) hb) (Nat.le_refl _) (below_new w4 (.cells #[.slice (some ⟨g, 0, none⟩) ss.length ss.length, .slice (some ⟨g', 0, none⟩) ws.length ws.length] 31)))
  have HW5 := hid ((HW3.out.below hb).below (below_new w4 (.cells #[.slice (some ⟨g, 0, none⟩) ss.length ss.length, .slice (some ⟨g', 0, none⟩) ws.length ws.length] 31)))
  have HRX5 := hid (hr.below (below_new w4 (.cells #[.slice (some ⟨g, 0, none⟩) ss.length ss.length, .slice (some ⟨g', 0, none⟩) ws.length ws.length] 31)))
  have HRY5 := hid (hr'.below (below_new w4 (.cells #[.slice (some ⟨g, 0, none⟩) ss.length ss.length, .slice (some ⟨g', 0, none⟩) ws.length ws.length] 31)))
  have HXX5 := hid (Cx.new w4 (.slice (some ⟨g, 0, none⟩) ss.length ss.length) (.slice (some ⟨g', 0, none⟩) ws.length ws.length) 31)
  clear HXA3 HBE3 HW3 hr hr' hb
  have q00 := HXX5.out.c0
  have q01 := HXX5.out.c1
  have q02 := HXX5.out.lt
  go_wp2_with fail
  refine (HI.out _ _ _ _ _ HRX5.out.strs HRY5.out.wrs HBE5.out).mono ?_
  rintro e w5 ⟨rfl, hb⟩
  clear q00 q01 q02
  have hbn := below_new w5 (.cells #[.int .i64 t, .int .i64 hh, .int .i64 f, .int .i64 l] 49)
  have HXA6 := hid ((HXA5.out.below hb).below hbn)
  have HBE6 := hid (Below.then (Below.then HBE5.out (Nat.le_refl _) hb) (Nat.le_refl _) hbn)
  have HW6 := hid ((HW5.out.below hb).below hbn)
  have HRX6 := hid ((HRX5.out.below hb).below hbn)
  have HRY6 := hid ((HRY5.out.below hb).below hbn)
  have HXX6 := hid ((HXX5.out.below hb).below hbn)
  have HG6 := hid (B4.new w5 (.int .i64 t) (.int .i64 hh) (.int .i64 f) (.int .i64 l) 49)
  clear HXA5 HBE5 HRX5 HRY5 HXX5 HW5 hb hbn
  have q0 := HW6.out.c0
  have q1 := HW6.out.c1
  have q2 := HW6.out.c2
  have q3 := HW6.out.c3
  have r0 := HG6.out.c0
  have r1 := HG6.out.c1
  have r2 := HG6.out.c2
  have r3 := HG6.out.c3
  go_wp2_with (first | (go_at_call 20; refine (eq_root t hh f l _).mono ?_; rintro e w6 ⟨rfl, hb6⟩; clear q0 q1 q2 q3 r0 r1 r2 r3))
  have HXA7 := hid (HXA6.out.below hb6)
  have HBE7 := hid (Below.then HBE6.out (Nat.le_refl _) hb6)
  have HRX7 := hid (HRX6.out.below hb6)
  have HRY7 := hid (HRY6.out.below hb6)
  have HXX7 := hid (HXX6.out.below hb6)
  clear HXA6 HBE6 HRX6 HRY6 HXX6 HW6 HG6 hb6
  go_region_held3 (fun w' => w'.cell? ⟨w.heap.size, 0, none⟩ = some (.slice a ss.length c) ∧ w'.cell? ⟨w.heap.size, 1, none⟩ = some (.slice a' ws.length c') ∧ w'.cell? ⟨w4.heap.size, 0, none⟩ = some (.slice (some ⟨g, 0, none⟩) ss.length ss.length) ∧ w'.cell? ⟨w4.heap.size, 1, none⟩ = some (.slice (some ⟨g', 0, none⟩) ws.length ws.length))
    (first | assumption | exact cx_two HXA7.out.drew HXX7.out.drew | exact cx_two (HXA7.out.drew.below hb9) (HXX7.out.drew.below hb9) | exact cx_two ((HXA7.out.drew.below hb9).below hb10) ((HXX7.out.drew.below hb9).below hb10))
    (first | (go_at_call 18; refine (to_disk a ss c a' ws c' _ (h.below HBE7.out.drew) (h'.below HBE7.out.drew) m1 m2).mono ?_; rintro e w9 ⟨g9, g9', rfl, _, _, _, hr9, hr9', hb9⟩) | (go_at_call 21; refine (eq_disk _ _ ss _ _ _ _ ws _ _ _ (HRX7.out.drew.below hb9).strs hr9.strs (HRY7.out.drew.below hb9).wrs hr9'.wrs m1 m2).mono ?_; rintro e w10 ⟨rfl, hb10⟩))
  have hfin := Below.then HBE7.out (Nat.le_refl _) (Below.then (Below.then ((Below.refl w6.heap.size w6).drew) (Nat.le_refl _) hb9) (Nat.le_refl _) hb10)
  clear hr9 hr9' hb9 hb10
  go_wp2
  go_ret
  exact ⟨rfl, hfin⟩

theorem cells1 : Tryd.prog.cellsOf 9 = 1 := by kernel_rfl
theorem cells2 : Tryd.prog.cellsOf 134 = 2 := by kernel_rfl
theorem cellsD : Tryd.prog.cellsOf 46 = 2 := by kernel_rfl
set_option maxRecDepth 100000 in
theorem contract (H : Type) (enc : TypeId × Value → H) (W : World) (base : Nat) (args : Array Value) (ds gs : List (DataW H)) (before : List MemPlace)
    (hval : ∀ (j : Nat) t v, Tryd.f4.params[j]? = some t → args[j]? = some v → Value.okWide Tryd.prog W .any base t v)
    (hW : DataW.Whole enc Tryd.prog Tryd.f4.params.toList Rows.fnExactFindRootSpec.vars false W args.toList ds gs before) (hL : laidMetH Tryd.prog Rows.fnExactFindRootRow.laid W) :
    Calls Tryd.prog 4 args W fun e W' => ∃ v, e = .returned v ∧ Rows.fnExactFindRootSpec.post enc Tryd.prog Tryd.f4 false true false false W args v W' := by
  have hW' := hW
  obtain ⟨p, q, hA0, hV0, rfl, hfz, hnd⟩ := hW
  have hA : DataW.TrodAll enc Tryd.prog W 0 (fun _ => true) true Tryd.f4.params.toList args.toList ds p := hA0
  have hV : DataW.TrodVars enc Tryd.prog W (fun _ => true) ["loop.example/kilnstone/impl.errNoPage"] gs q := hV0
  rw [Tryd.params4] at hA hval
  obtain ⟨v0, vs0, d0, ds0, p0, q0, hargs, rfl, rfl, h0, r0⟩ := trodAll_cons hA
  obtain ⟨v1, vs1, d1, ds1, p1, q1, rfl, rfl, rfl, h1, r1⟩ := trodAll_cons r0
  obtain ⟨rfl, rfl, rfl⟩ := trodAll_nil r1
  obtain rfl : args = #[v0, v1] := by cases args; simp_all
  have k0 := h0
  have lt0 : ∀ x ∈ p0, x.block < W.heap.size := by obtain ⟨m, hm⟩ := k0; exact DataW.trod_lt m _ _ _ hm
  obtain ⟨c0, c1, y0, y1, mm, rfl, _, _, hy0, hy1⟩ := open_agg2 Tryd.underlying46 (by kernel_rfl) cellsD (hval 0 46 v0 rfl rfl) h0
  obtain ⟨a, ss, c, rfl, hS, hl, hs⟩ := strs_of_trod Tryd.underlying25 Tryd.underlying9 cells1 hy0
  obtain ⟨a', ws, c', rfl, hS', hl', hs', _⟩ := wrs_of_trod Tryd.underlying44 Tryd.underlying134 cells2 rfl rfl (by kernel_rfl) (by kernel_rfl) Tryd.underlying3 Tryd.underlying9 hy1
  obtain ⟨a1, rfl, rfl, rfl, w1⟩ := open_int Tryd.underlying3 (hval 1 3 v1 rfl rfl) h1
  have hV1 := hV
  obtain ⟨g, t, cs, fuel, d, pp, rfl, _⟩ := trodVars_one hV
  clear hA0
  refine (walk a ss c a' ws c' a1 W hS hS' hl hs hl' hs' hL).mono fun e W' ⟨he, bel⟩ => ?_
  subst he
  exact ⟨_, rfl, _, _, _, [], _, _, hW', trodAll_mk1 (shut_bool Tryd.underlying4 _), (trodAll_cons_mk (Below.trod laidOut (by kernel_rfl) (of_decide_eq_true (by kernel_rfl)) k0 bel lt0) (trodAll_cons_mk (shut_int Tryd.underlying3 w1) trodAll_mk0)), Below.trodVars laidOut bel (by kernel_rfl) hV1, bel.frame _, fun h => by cases h⟩

/-- A world for the witness: the settled one, both variables laid. -/
noncomputable def laidWorld (os : Os) : World :=
  let w0 := World.holding Tryd.prog os ⟨#[.cells #[.string ⟨#[110, 111, 32, 112, 97, 103, 101]⟩] 209], #[], []⟩
  { w0 with heap := (w0.heap.modify 0 fun
      | .cells _ t frozen => .cells #[.iface 177 (.agg #[.pointer (some ⟨2, 91, none⟩)])] t frozen
      | o => o).modify 1 fun
      | .cells _ t frozen => .cells #[.iface 190 (.pointer (some ⟨(begin Tryd.prog (fun _ _ => 0) default).world.heap.size, 0, none⟩))] t frozen
      | o => o }
set_option maxRecDepth 100000 in
theorem laid_met (os : Os) : laidMetH Tryd.prog Rows.fnExactFindRootRow.laid ((laidWorld os).forCall (fun _ _ => 0) ⟨#[], #[.agg #[.slice none 0 0, .slice none 0 0], .int .i64 0], []⟩).memory :=
  laidMetH_of_parts (laidMet_of_run' 8 (by kernel_rfl) (by kernel_rfl)) (by kernel_rfl)
set_option maxRecDepth 100000 in
theorem reads (os : Os) {H : Type} (enc : TypeId × Value → H) : ∃ x, DataW.whole enc Tryd.prog ((laidWorld os).forCall (fun _ _ => 0) ⟨#[], #[.agg #[.slice none 0 0, .slice none 0 0], .int .i64 0], []⟩).memory Tryd.f4.params.toList Rows.fnExactFindRootSpec.vars false #[Value.agg #[.slice none 0 0, .slice none 0 0], Value.int .i64 0].toList 8 = some x :=
  Option.isSome_iff_exists.1 (by kernel_rfl)

set_option maxRecDepth 100000 in
theorem lifted (os : Os) (started : os.Started) (H : Type) (enc : TypeId × Value → H) (F : Stop.Interp) :
    ReturnsInHanded {} Tryd.checked os 4 .any ((OpenSpec.ofChange Rows.fnExactFindRootSpec).preRow enc Tryd.prog Tryd.f4 Rows.fnExactFindRootRow.domain false Rows.fnExactFindRootRow.laid) (((OpenSpec.ofChange Rows.fnExactFindRootSpec).at F).post enc Tryd.prog Tryd.f4 false true false false) := by
  obtain ⟨x, hx⟩ := reads os enc
  refine returnsInHanded_of_row (C := Tryd.checked) (s := OpenSpec.ofChange Rows.fnExactFindRootSpec) own started (by kernel_rfl) Tryd.func4
    (witness_row_at (enc := enc) (C := Tryd.checked) false (laidWorld os) #[.agg #[.slice none 0 0, .slice none 0 0], .int .i64 0] rfl (by kernel_rfl) (by kernel_rfl) (by kernel_rfl)
      (OpenSpec.preRow_of_cond 8 hx (by kernel_rfl) (fun k hk => by cases hk) (by kernel_rfl) (laid_met os))) ?_
  intro W base args ds gs before hval hW _ _ _ hL _ _
  exact contract H enc W base args ds gs before hval hW hL

set_option maxRecDepth 100000 in
theorem said : Rows.FnExactFindRootSaid :=
  OpenClaim.holds_of_cond 4 Tryd.f4 rfl rfl rfl rfl rfl rfl rfl ⟨rfl, rfl, rfl, rfl, rfl⟩ rfl rfl rfl rfl rfl (by kernel_rfl) Tryd.func4 (by kernel_rfl)
    (of_decide_eq_true (by kernel_rfl)) (by unfold Func.isWrapper; first | (rw [if_pos (by decide +kernel)]; kernel_rfl) | (rw [if_neg (by decide +kernel)]; exact ⟨rfl, rfl⟩))
    (fun os started H enc _ F => by rw [OpenClaim.pre_eq_preRow]; exact lifted os started H enc F)

set_option maxRecDepth 100000 in
theorem plain (f : FuncId) (fn : Func) (hf : Tryd.pinned.checked.prog.funcNamed "loop.example/kilnstone/laws.FnExactFindRoot" = some f) (hfn : Tryd.pinned.checked.prog.funcs[f]? = some fn) :
    true = Tryd.pinned.checked.prog.looks [] ∧ ∀ (j : Nat) t, fn.params[j]? = some t → Tryd.pinned.checked.prog.wantsStandIn t = false := by
  obtain rfl : f = 4 := Option.some.inj ((show Tryd.prog.funcNamed "loop.example/kilnstone/laws.FnExactFindRoot" = some 4 by kernel_rfl).symm.trans hf) |>.symm
  obtain rfl : fn = Tryd.f4 := (Option.some.inj (Tryd.func4.symm.trans hfn)).symm
  refine ⟨by kernel_rfl, fun j t ht => ?_⟩
  rw [Tryd.params4] at ht
  have hm : t = 46 ∨ t = 3 := by simpa using Array.mem_of_getElem? ht
  rcases hm with rfl | rfl
  · exact (show Tryd.prog.wantsStandIn 46 = false by kernel_rfl)
  · exact (show Tryd.prog.wantsStandIn 3 = false by kernel_rfl)

theorem proved : Rows.FnExactFindRootCardSaid :=
  Claim7.holds_tied_plain_at .later [] _ _ _ _ said (fun _ h => by cases h) (by kernel_rfl) (fun _ h => by cases h) fnExactFindRoot_row_tie rfl ⟨rfl, rfl⟩ (by kernel_rfl) rfl plain (by kernel_rfl)
#print axioms proved
end Go.Proofs.YtnmaknnnmjfhkaeDoor.fnExactFindRoot
