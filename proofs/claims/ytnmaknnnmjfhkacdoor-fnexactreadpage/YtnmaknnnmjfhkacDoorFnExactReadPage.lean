import Derived.Test.YtnmaknnnmjfhkacDoorCards
import Derived.Test.YtnmaknnnmjfhkacDoorTie
import Derived.Test.YtnmaknnnmjfhkacDoorRpM
import Derived.Test.YtnmaknnnmjfhkacDoorRpT
import Derived.WalkKit
import Derived.ProofKit
import Derived.OpenShut
import Derived.ShutString
import Derived.ChangeOld
import Derived.Below
import Derived.OpenVars
import Derived.LaidLaws
import Derived.LaidHandle
import Derived.Deep.DeepHandedRow
namespace Go.Proofs.YtnmaknnnmjfhkacDoor.fnExactReadPage
open Go.ChangeShapes Go.WideShapes Go.ChangeAt Go.RowKit
open Go.ChangeMaps (open_string shut_string)
set_option linter.unusedVariables false

theorem own : ownKnob Tryd.prog.godebug = none := by kernel_rfl
theorem laidOut : laidOutB Tryd.prog = true := by kernel_rfl
theorem gEt : Tryd.prog.globalNamed "errors.errorType" = some 0 := by kernel_rfl
theorem gEn : Tryd.prog.globalNamed "loop.example/kilnstone/impl.errNoPage" = some 1 := by kernel_rfl
theorem gEnT : (Tryd.prog.globals[1]?).map (·.type) = some 40 := by kernel_rfl
theorem rt : (Tryd.prog.cutTypes.find? (·.1 == "internal/reflectlite.rtype")).map (·.2) = some 84 := by kernel_rfl
theorem oneRow : ((List.range Tryd.prog.types.size).filter fun t => Tryd.prog.rowNamed t [101, 114, 114, 111, 114]) = [40] := by kernel_rfl

/-- What the list gives: the handle of error, and an error. -/
theorem of_laid {W : World} (h : laidMetH Tryd.prog Rows.fnExactReadPageRow.laid W) : W.cell? ⟨0, 0, none⟩ = some (.iface 84 (.agg #[.pointer (some ⟨2, 40, none⟩)])) ∧ (∃ ty v, W.cell? ⟨1, 0, none⟩ = some (.iface ty v)) ∧ 1 < W.heap.size := by
  have h' : laidMet Tryd.prog [("loop.example/kilnstone/impl.errNoPage", Rows.laid_loop_example_kilnstone_impl_errNoPage)] W ∧ handlesMet Tryd.prog [("errors.errorType", Rows.laid_errors_errorType)] W := h
  obtain ⟨name, u, ty, e1, e2, e3, e4, e5⟩ := h'.2 _ (List.mem_singleton.2 rfl)
  have en : name = [101, 114, 114, 111, 114] := (Option.some.inj e1).symm
  subst en
  obtain rfl := Option.some.inj (rt.symm.trans e2)
  have hm : ty ∈ (List.range Tryd.prog.types.size).filter fun t => Tryd.prog.rowNamed t [101, 114, 114, 111, 114] := List.mem_filter.2 ⟨List.mem_range.2 e3, e4⟩
  rw [oneRow] at hm
  obtain rfl := List.mem_singleton.1 hm
  have hh : typeHandle Tryd.prog 40 = .pointer (some ⟨2, 40, none⟩) := by kernel_rfl
  rw [hh] at e5
  obtain ⟨ps, ⟨g0, t0, cs0, f0, p0, q0, hg0, ht0, hv0, hd0, _, _⟩, _, _⟩ := h'.1
  obtain rfl := Option.some.inj (gEn.symm.trans hg0)
  obtain rfl := Option.some.inj (gEnT.symm.trans ht0)
  obtain ⟨l0⟩ := cs0
  obtain ⟨_, u, v, hcs, _, _⟩ := iface_of_trod Tryd.underlying40 hd0
  have hc1 : W.cell? ⟨1, 0, none⟩ = some (.iface u v) := by
    have := World.var?_cell gEn hv0 0
    simp at hcs
    subst hcs
    simpa using this
  refine ⟨by simpa using World.var?_cell gEt e5 0, ⟨u, v, hc1⟩, ?_⟩
  rcases Nat.lt_or_ge 1 W.heap.size with hl | hl
  · exact hl
  · exfalso
    have : W.heap[1]? = none := Array.getElem?_eq_none hl
    simp [World.cell?, this] at hc1

theorem eq_page (k l m : Int) (p : ByteArray) (w : World) : Calls Tryd.prog 7 #[pageV k l m p, pageV k l m p] w fun e w' => e = .returned (.bool true) ∧ Below w.heap.size w w' := by
  go_enter Tryd.func7, Tryd.ntmps7
  go_wp2
  all_goals go_ret
  all_goals exact ⟨rfl, ((Below.refl _ _).alloc (Nat.le_refl _) _).alloc (by simp) _⟩

set_option maxHeartbeats 1000000 in
theorem walk (s : ByteArray) (n : Int) (hs : s.size ≤ maxLen) (w : World) (hL : laidMetH Tryd.prog Rows.fnExactReadPageRow.laid w) :
    Calls Tryd.prog 3 #[.string s, .int .i64 n] w fun e w' => e = .returned (.bool true) ∧ Below w.heap.size w w' := by
  obtain ⟨h0, ⟨ty, v, hv⟩, hg⟩ := of_laid hL
  unfold maxLen at hs
  by_cases hl : s.size ≤ 1048576
  · have HS := fun wx => readpage_s_any s n wx hl
    have HI := fun wx (hb : Below w.heap.size w wx) => readpage_i s n wx ty v ((hb.cell (p := ⟨1, 0, none⟩) hg).trans hv) ((hb.cell (p := ⟨0, 0, none⟩) (by show 0 < _; omega)).trans h0) (by have := hb.size; omega)
    obtain ⟨R, HR⟩ : ∃ R, Hid (R = rpRes s n) := ⟨_, hid rfl⟩
    rw [← HR.out] at HS HI
    have hHS := hid HS
    have hHI := hid HI
    clear HS HI HR hL
    have hl' : ¬ (1048576 < (s.size : Int)) := by omega
    obtain ⟨k, l, m, p, b, hR⟩ : ∃ k l m p b, rpV R = .tuple #[pageV k l m p, .bool b] := by
      cases R with
      | none => exact ⟨_, _, _, _, _, rfl⟩
      | some x => obtain ⟨k, l, m, p⟩ := x; exact ⟨_, _, _, _, _, rfl⟩
    rw [hR] at hHS hHI
    go_enter Tryd.func3, Tryd.ntmps3
    go_wp2_with fail
    refine (hHS.out _).mono ?_
    rintro e w1 ⟨rfl, hb1⟩
    go_wp2_with fail
    have hB1 := hb1.alloc hb1.size (.cells #[.int .i64 k, .int .i64 l, .int .i64 m, .string p] 23)
    refine (hHI.out _ hB1).mono ?_
    rintro e w2 ⟨rfl, hb2⟩
    have hq := (pg_new w1 w1.heap.size rfl (.int .i64 k) (.int .i64 l) (.int .i64 m) (.string p) 23).below hb2 (by simp)
    have hB2 := hB1.trans (hb2.mono hB1.size)
    have hs2 : w1.heap.size < w2.heap.size := by have := hb2.size; simp at this; omega
    clear hb2 hB1 hb1
    have q0 := hq.c0
    have q1 := hq.c1
    have q2 := hq.c2
    have q3 := hq.c3
    clear hq
    have HB2 := hid hB2
    clear hB2
    go_wp2_with (first | (go_at_call 7; refine (eq_page k l m p _).mono ?_; rintro e w3 ⟨rfl, hb3⟩))
    go_ret
    have hB3 := HB2.out.alloc HB2.out.size (.cells #[.int .i64 k, .int .i64 l, .int .i64 m, .string p] 23)
    exact ⟨rfl, hB3.trans (hb3.mono hB3.size)⟩
  · have hl' : 1048576 < (s.size : Int) := by omega
    go_enter Tryd.func3, Tryd.ntmps3
    go_wp2
    go_ret
    exact ⟨rfl, Below.refl _ _⟩

set_option maxRecDepth 100000 in
theorem contract (H : Type) (enc : TypeId × Value → H) (W : World) (base : Nat) (args : Array Value) (ds gs : List (DataW H)) (before : List MemPlace)
    (hval : ∀ (j : Nat) t v, Tryd.f3.params[j]? = some t → args[j]? = some v → Value.okWide Tryd.prog W .any base t v)
    (hW : DataW.Whole enc Tryd.prog Tryd.f3.params.toList Rows.fnExactReadPageSpec.vars false W args.toList ds gs before) (hL : laidMetH Tryd.prog Rows.fnExactReadPageRow.laid W) :
    Calls Tryd.prog 3 args W fun e W' => ∃ v, e = .returned v ∧ Rows.fnExactReadPageSpec.post enc Tryd.prog Tryd.f3 false true false false W args v W' := by
  have hW' := hW
  obtain ⟨p, q, hA0, hV0, rfl, hfz, hnd⟩ := hW
  have hA : DataW.TrodAll enc Tryd.prog W 0 (fun _ => true) true Tryd.f3.params.toList args.toList ds p := hA0
  have hV : DataW.TrodVars enc Tryd.prog W (fun _ => true) ["loop.example/kilnstone/impl.errNoPage"] gs q := hV0
  rw [Tryd.params3] at hA hval
  obtain ⟨v0, vs0, d0, ds0, p0, q0, hargs, rfl, rfl, h0, r0⟩ := trodAll_cons hA
  obtain ⟨v1, vs1, d1, ds1, p1, q1, rfl, rfl, rfl, h1, r1⟩ := trodAll_cons r0
  obtain ⟨rfl, rfl, rfl⟩ := trodAll_nil r1
  obtain rfl : args = #[v0, v1] := by cases args; simp_all
  obtain ⟨a0, rfl, rfl, rfl, w0⟩ := open_string Tryd.underlying9 (hval 0 9 v0 rfl rfl) h0
  obtain ⟨a1, rfl, rfl, rfl, w1⟩ := open_int Tryd.underlying3 (hval 1 3 v1 rfl rfl) h1
  have hV1 := hV
  obtain ⟨g, t, cs, fuel, d, pp, rfl, _⟩ := trodVars_one hV
  clear hA0
  refine (walk a0 a1 w0 W hL).mono fun e W' ⟨he, bel⟩ => ?_
  subst he
  exact ⟨_, rfl, _, _, _, [], _, _, hW', trodAll_mk1 (shut_bool Tryd.underlying4 _), (trodAll_cons_mk (shut_string Tryd.underlying9 w0) (trodAll_cons_mk (shut_int Tryd.underlying3 w1) trodAll_mk0)), Below.trodVars laidOut bel (by kernel_rfl) hV1, bel.frame _, fun h => by cases h⟩

/-- A world for the witness: the settled one, both variables laid. -/
noncomputable def laidWorld (os : Os) : World :=
  let w0 := World.holding Tryd.prog os ⟨#[.cells #[.string ⟨#[110, 111, 32, 112, 97, 103, 101]⟩] 119], #[], []⟩
  { w0 with heap := (w0.heap.modify 0 fun
      | .cells _ t frozen => .cells #[.iface 84 (.agg #[.pointer (some ⟨2, 40, none⟩)])] t frozen
      | o => o).modify 1 fun
      | .cells _ t frozen => .cells #[.iface 97 (.pointer (some ⟨(begin Tryd.prog (fun _ _ => 0) default).world.heap.size, 0, none⟩))] t frozen
      | o => o }
set_option maxRecDepth 100000 in
theorem laid_met (os : Os) : laidMetH Tryd.prog Rows.fnExactReadPageRow.laid ((laidWorld os).forCall (fun _ _ => 0) ⟨#[], #[.string ByteArray.empty, .int .i64 0], []⟩).memory :=
  laidMetH_of_parts (laidMet_of_run' 8 (by kernel_rfl) (by kernel_rfl)) (by kernel_rfl)
set_option maxRecDepth 100000 in
theorem reads (os : Os) {H : Type} (enc : TypeId × Value → H) : ∃ x, DataW.whole enc Tryd.prog ((laidWorld os).forCall (fun _ _ => 0) ⟨#[], #[.string ByteArray.empty, .int .i64 0], []⟩).memory Tryd.f3.params.toList Rows.fnExactReadPageSpec.vars false #[Value.string ByteArray.empty, Value.int .i64 0].toList 8 = some x :=
  Option.isSome_iff_exists.1 (by kernel_rfl)

set_option maxRecDepth 100000 in
theorem lifted (os : Os) (started : os.Started) (H : Type) (enc : TypeId × Value → H) (F : Stop.Interp) :
    ReturnsInHanded {} Tryd.checked os 3 .any ((OpenSpec.ofChange Rows.fnExactReadPageSpec).preRow enc Tryd.prog Tryd.f3 Rows.fnExactReadPageRow.domain false Rows.fnExactReadPageRow.laid) (((OpenSpec.ofChange Rows.fnExactReadPageSpec).at F).post enc Tryd.prog Tryd.f3 false true false false) := by
  obtain ⟨x, hx⟩ := reads os enc
  refine returnsInHanded_of_row (C := Tryd.checked) (s := OpenSpec.ofChange Rows.fnExactReadPageSpec) own started (by kernel_rfl) Tryd.func3
    (witness_row_at (enc := enc) (C := Tryd.checked) false (laidWorld os) #[.string ByteArray.empty, .int .i64 0] rfl (by kernel_rfl) (by kernel_rfl) (by kernel_rfl)
      (OpenSpec.preRow_of_cond 8 hx (by kernel_rfl) (fun k hk => by cases hk) (by kernel_rfl) (laid_met os))) ?_
  intro W base args ds gs before hval hW _ _ _ hL _ _
  exact contract H enc W base args ds gs before hval hW hL

set_option maxRecDepth 100000 in
theorem said : Rows.FnExactReadPageSaid :=
  OpenClaim.holds_of_cond 3 Tryd.f3 rfl rfl rfl rfl rfl rfl rfl ⟨rfl, rfl, rfl, rfl, rfl⟩ rfl rfl rfl rfl rfl (by kernel_rfl) Tryd.func3 (by kernel_rfl)
    (of_decide_eq_true (by kernel_rfl)) (by unfold Func.isWrapper; first | (rw [if_pos (by decide +kernel)]; kernel_rfl) | (rw [if_neg (by decide +kernel)]; exact ⟨rfl, rfl⟩))
    (fun os started H enc _ F => by rw [OpenClaim.pre_eq_preRow]; exact lifted os started H enc F)

set_option maxRecDepth 100000 in
theorem plain (f : FuncId) (fn : Func) (hf : Tryd.pinned.checked.prog.funcNamed "loop.example/kilnstone/laws.FnExactReadPage" = some f) (hfn : Tryd.pinned.checked.prog.funcs[f]? = some fn) :
    true = Tryd.pinned.checked.prog.looks [] ∧ ∀ (j : Nat) t, fn.params[j]? = some t → Tryd.pinned.checked.prog.wantsStandIn t = false := by
  obtain rfl : f = 3 := Option.some.inj ((show Tryd.prog.funcNamed "loop.example/kilnstone/laws.FnExactReadPage" = some 3 by kernel_rfl).symm.trans hf) |>.symm
  obtain rfl : fn = Tryd.f3 := (Option.some.inj (Tryd.func3.symm.trans hfn)).symm
  refine ⟨by kernel_rfl, fun j t ht => ?_⟩
  rw [Tryd.params3] at ht
  have hm : t = 9 ∨ t = 3 := by simpa using Array.mem_of_getElem? ht
  rcases hm with rfl | rfl
  · exact (show Tryd.prog.wantsStandIn 9 = false by kernel_rfl)
  · exact (show Tryd.prog.wantsStandIn 3 = false by kernel_rfl)

theorem proved : Rows.FnExactReadPageCardSaid :=
  Claim7.holds_tied_plain_at .later [] _ _ _ _ said (fun _ h => by cases h) (by kernel_rfl) (fun _ h => by cases h) fnExactReadPage_row_tie rfl ⟨rfl, rfl⟩ (by kernel_rfl) rfl plain (by kernel_rfl)
#print axioms proved
end Go.Proofs.YtnmaknnnmjfhkacDoor.fnExactReadPage
