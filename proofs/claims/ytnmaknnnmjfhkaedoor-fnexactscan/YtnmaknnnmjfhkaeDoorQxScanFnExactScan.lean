import Derived.Test.YtnmaknnnmjfhkaeDoorCards
import Derived.Test.YtnmaknnnmjfhkaeDoorTie
import Derived.Test.YtnmaknnnmjfhkaeDoorQxScanScO
import Derived.Test.YtnmaknnnmjfhkaeDoorQxScanScS
import Derived.Test.YtnmaknnnmjfhkaeDoorMgXScan48
import Derived.Test.YtnmaknnnmjfhkaeDoorQxScanStp
import Derived.Test.YtnmaknnnmjfhkaeDoorQxScanMkM
import Derived.Test.YtnmaknnnmjfhkaeDoorQxScanOpn
import Derived.Test.YtnmaknnnmjfhkaeDoorQxScanEq
import Derived.Test.YtnmaknnnmjfhkaeDoorQxScanTo
import Derived.Test.YtnmaknnnmjfhkaeDoorQxScanSz
import Derived.WalkKit
import Derived.ProofKit
import Derived.OpenShut
import Derived.ShutString
import Derived.ChangeOld
import Derived.Below
import Derived.Lib.SmallJoins
import Derived.OpenVars
import Derived.LaidLaws
import Derived.LaidHandle
import Derived.Deep.DeepHandedRow
namespace Go.Proofs.YtnmaknnnmjfhkaeDoor.fnExactScan
open Go.ChangeShapes Go.WideShapes Go.ChangeAt Go.RowKit Go.Joins
open Go.ChangeMaps (open_string shut_string)
set_option linter.unusedVariables false
set_option linter.unusedSimpArgs false

theorem own : ownKnob Tryd.prog.godebug = none := by kernel_rfl
theorem laidOut : laidOutB Tryd.prog = true := by kernel_rfl
theorem gEt : Tryd.prog.globalNamed "errors.errorType" = some 0 := by kernel_rfl
theorem gEn : Tryd.prog.globalNamed "loop.example/kilnstone/impl.errNoPage" = some 1 := by kernel_rfl
theorem gEnT : (Tryd.prog.globals[1]?).map (·.type) = some 91 := by kernel_rfl
theorem rt : (Tryd.prog.cutTypes.find? (·.1 == "internal/reflectlite.rtype")).map (·.2) = some 177 := by kernel_rfl
theorem oneRow : ((List.range Tryd.prog.types.size).filter fun t => Tryd.prog.rowNamed t [101, 114, 114, 111, 114]) = [91] := by kernel_rfl

/-- What the list gives: the handle of error, and an error. -/
theorem of_laid {W : World} (h : laidMetH Tryd.prog Rows.fnExactScanRow.laid W) : W.cell? ⟨0, 0, none⟩ = some (.iface 177 (.agg #[.pointer (some ⟨2, 91, none⟩)])) ∧ (∃ ty v, W.cell? ⟨1, 0, none⟩ = some (.iface ty v)) ∧ 1 < W.heap.size := by
  have h' : laidMet Tryd.prog [("loop.example/kilnstone/impl.errNoPage", Rows.laid_loop_example_kilnstone_impl_errNoPage)] W ∧ handlesMet Tryd.prog [("errors.errorType", Rows.laid_errors_errorType)] W := h
  obtain ⟨name, u, ty, e1, e2, e3, e4, e5⟩ := h'.2 _ (List.mem_singleton.2 rfl)
  have en : name = [101, 114, 114, 111, 114] := (Option.some.inj e1).symm
  subst en
  obtain rfl := Option.some.inj (rt.symm.trans e2)
  have hm : ty ∈ (List.range Tryd.prog.types.size).filter fun t => Tryd.prog.rowNamed t [101, 114, 114, 111, 114] := List.mem_filter.2 ⟨List.mem_range.2 e3, e4⟩
  rw [oneRow] at hm
  obtain rfl := List.mem_singleton.1 hm
  have hh : typeHandle Tryd.prog 91 = .pointer (some ⟨2, 91, none⟩) := by kernel_rfl
  rw [hh] at e5
  obtain ⟨ps, ⟨g0, t0, cs0, f0, p0, q0, hg0, ht0, hv0, hd0, _, _⟩, _, _⟩ := h'.1
  obtain rfl := Option.some.inj (gEn.symm.trans hg0)
  obtain rfl := Option.some.inj (gEnT.symm.trans ht0)
  obtain ⟨l0⟩ := cs0
  obtain ⟨_, u, v, hcs, _, _⟩ := iface_of_trod Tryd.underlying91 hd0
  have hc1 : W.cell? ⟨1, 0, none⟩ = some (.iface u v) := by
    have := World.var?_cell gEn hv0 0
    simp at hcs
    subst hcs
    simpa using this
  refine ⟨by simpa using World.var?_cell gEt e5 0, ⟨u, v, hc1⟩, ?_⟩
  rcases Nat.lt_or_ge 1 W.heap.size with hl | hl
  · exact hl
  · exfalso
    have : W.heap[1]? = none := Array.getElem?_eq_none hl
    simp [World.cell?, this] at hc1


theorem strs_neA {l : List ByteArray} (h : l.map Value.string ≠ []) : l.length ≠ 0 := fun e => h (by rw [List.eq_nil_of_length_eq_zero e]; rfl)
theorem strs_neB {l : List ByteArray} (h : l.length ≠ 0) : l.map Value.string ≠ [] := fun e => h (by have := congrArg List.length e; simpa using this)
theorem own_ne {g g' n n' : Nat} (h : g ≠ g') : blk (some ⟨g, 0, none⟩) n = none ∨ blk (some ⟨g', 0, none⟩) n' = none ∨ blk (some ⟨g, 0, none⟩) n ≠ blk (some ⟨g', 0, none⟩) n' := by
  cases e1 : blk (some ⟨g, 0, none⟩) n with
  | none => exact .inl rfl
  | some k =>
    cases e2 : blk (some ⟨g', 0, none⟩) n' with
    | none => exact .inr (.inl rfl)
    | some k' => exact .inr (.inr (fun e => h (by have h1 := blk_is e1; have h2 := blk_is e2; injection e with e; omega)))
theorem lit_rng {n : Int} (h : (Lit.int .i64 n).wf = true) : -9223372036854775808 ≤ n ∧ n ≤ 9223372036854775807 := by
  have h2 : (decide (IntKind.i64.min ≤ n) && decide (n ≤ IntKind.i64.max)) = true := h
  have e1 : IntKind.i64.min = -9223372036854775808 := by decide
  have e2 : IntKind.i64.max = 9223372036854775807 := by decide
  rw [e1, e2] at h2
  simpa using h2
set_option maxRecDepth 100000 in
set_option maxHeartbeats 16000000 in
theorem walk (a : Option Addr) (ss : List ByteArray) (c : Nat) (a' : Option Addr) (ws : List (Int × ByteArray)) (c' : Nat) (fr sz fi li n : Int) (w : World) (h : Strs w a ss) (h' : Wrs w a' ws)
    (hl : ss.length ≤ maxLen) (hs : ∀ s ∈ ss, s.size ≤ maxLen) (hl' : ws.length ≤ maxLen) (hs' : ∀ s ∈ ws, s.2.size ≤ maxLen) (hfr : -9223372036854775808 ≤ fr ∧ fr ≤ 9223372036854775807) (hfi : -9223372036854775808 ≤ fi ∧ fi ≤ 9223372036854775807) (hL : laidMetH Tryd.prog Rows.fnExactScanRow.laid w) :
    Calls Tryd.prog 5 #[diskV a ss.length c a' ws.length c', .int .i64 fr, .int .i64 sz, .int .i64 fi, .int .i64 li, .int .i64 n] w fun e w' => e = .returned (.bool true) ∧ Below w.heap.size w w' := by
  obtain ⟨hg0, ⟨ty, gv, hgv⟩, hgl⟩ := of_laid hL
  clear hL
  have hb0 : ∀ o, Below w.heap.size w (w.alloc o) := fun o => (Below.refl _ _).alloc (Nat.le_refl _) _
  obtain ⟨R1, HR⟩ : ∃ R1, Hid (R1 = szL (szs ss ws) 1048576) := ⟨_, hid rfl⟩
  have HSZ := hid (fun w' k1 k2 => sz_disk a ss c a' ws c' w' k1 k2 hl hs hl' hs')
  rw [← HR.out] at HSZ
  by_cases hR : R1 < 0
  · go_enter Tryd.func5, Tryd.ntmps5
    go_wp2_with (go_at_call 16; refine (HSZ.out _ (h.below (hb0 _)) (h'.below (hb0 _))).mono ?_; rintro e w1 ⟨rfl, hb1⟩)
    go_ret
    exact ⟨rfl, (hb0 _).trans (hb1.mono (by simp))⟩
  have hmem := szL_mem (szs ss ws) 1048576 (by omega) (by rw [← HR.out]; omega)
  have m1 : ss.length ≤ 1048576 := by have := hmem ss.length (by simp [szs]); omega
  have m2 : ws.length ≤ 1048576 := by have := hmem ws.length (by simp [szs]); omega
  have M3 : Hid (∀ s ∈ ss, s.size ≤ 1048576) := fun s hs => by
    have := hmem s.size (by simp only [szs, List.mem_append, List.mem_cons, List.mem_map]; exact .inl (.inr ⟨s, hs, rfl⟩)); omega
  have M4 : Hid (∀ x ∈ ws, x.2.size ≤ 1048576) := fun x hx => by
    have := hmem x.2.size (by simp only [szs, List.mem_append, List.mem_cons, List.mem_map]; exact .inr (.inr ⟨x, hx, rfl⟩)); omega
  have hRn : ¬ R1 < 0 := hR
  have HTO := hid (fun w' k1 k2 => to_disk a ss c a' ws c' w' k1 k2 m1 m2)
  obtain ⟨R, hRR⟩ : ∃ R, R = scD ss ws fr sz fi li n := ⟨_, rfl⟩
  have hRl : R.1.length ≤ 200 := by rw [hRR]; exact scD_len ss ws fr sz fi li n
  have HSP := hid (fun g1 g2 w' k1 k2 => (scan_s (some ⟨g1, 0, none⟩) ss ss.length (some ⟨g2, 0, none⟩) ws ws.length fr sz fi li n w' k1 k2 m1 m2 M3.out M4.out).mono (fun e w2 hh => scpost_own hh))
  have HIM := hid (fun g1 g2 w' k1 k2 (hb : Below w.heap.size w w') => (scan_i (some ⟨g1, 0, none⟩) ss ss.length (some ⟨g2, 0, none⟩) ws ws.length fr sz fi li n w' k1 k2 m1 m2 M3.out M4.out hfr hfi ty gv ((hb.cell (p := ⟨1, 0, none⟩) hgl).trans hgv) ((hb.cell (p := ⟨0, 0, none⟩) (by show 0 < _; omega)).trans hg0) (by have := hb.size; omega)).mono (fun e w2 hh => scpost_own hh))
  rw [← hRR] at HSP HIM
  have HEQ := hid (fun a1 b1 c1 d1 w' k1 k2 => eq_sc a1 b1 R.1 c1 d1 R.2.1 R.2.2 w' k1 k2 (by omega))
  have HEX := hid (fun a1 b1 c1 d1 a2 b2 c2 d2 w' k1 k2 k3 k4 => eq_disk a1 b1 ss c1 d1 a2 b2 ws c2 d2 w' k1 k2 k3 k4 m1 m2)
  have HMX := hid (fun a1 c1 a2 c2 w' k1 => mark_disk a1 ss c1 a2 ws c2 1 w' k1 (by omega) (by omega))
  have HMG := hid (fun a1 c1 w' k1 => mark_sc a1 R.1 c1 R.2.1 R.2.2 1 w' k1 (by omega) (by omega))
  have HHG := hid (fun a1 c1 w' k1 => held_sc a1 R.1.length c1 R.2.1 R.2.2 1 w' k1 (by omega) (by omega))
  have hk0 : (0 : Int) ≤ ((1 + ss.length + 2 * ws.length : Nat) : Int) := by omega
  have hk2 : (0 : Int) ≤ ((1 + R.1.length : Nat) : Int) := by omega
  obtain ⟨k1, HK1⟩ : ∃ k1 : Nat, Hid (k1 = 1 + ss.length + 2 * ws.length) := ⟨_, hid rfl⟩
  obtain ⟨k3, HK3⟩ : ∃ k3 : Nat, Hid (k3 = 1 + R.1.length) := ⟨_, hid rfl⟩
  rw [← HK1.out] at HMX hk0
  rw [← HK3.out] at HMG HHG hk2
  clear hRR hmem hR hl hs hl' hs' hgv hg0
  go_enter Tryd.func5, Tryd.ntmps5
  go_wp2_with fail
  have hE : Below w.heap.size w w := Below.refl _ _
  obtain ⟨v1, e_v1⟩ : ∃ xw, xw = w.alloc (.cells #[.slice a ss.length c, .slice a' ws.length c'] 46) := ⟨_, rfl⟩
  have hb : Below w.heap.size w v1 := by rw [e_v1]; exact (Below.refl _ _).alloc (Nat.le_refl _) _
  have bA : Dep v1 w.heap.size (w.heap.size + 1) (fun Wd => Row Wd w.heap.size [.slice a ss.length c, .slice a' ws.length c']) := by rw [e_v1]; exact dep_box _ _ _
  have s_v1 : w.heap.size + 1 ≤ v1.heap.size := by rw [e_v1]; simp
  rw [← e_v1]
  clear e_v1
  have n_hE := hE.trans (hb.mono hE.size)
  clear hE
  have hE := n_hE
  clear n_hE
  clear hb
  refine (HSZ.out _ (h.below hE) (h'.below hE)).mono ?_
  rintro e v2 ⟨rfl, hb⟩
  have s_v2 : v1.heap.size ≤ v2.heap.size := hb.size
  have n_bA := bA.below hb
  clear bA
  have bA := n_bA
  clear n_bA
  have n_hE := hE.trans (hb.mono hE.size)
  clear hE
  have hE := n_hE
  clear n_hE
  clear hb
  have q_bA_0 := bA.now.cell 0 _ rfl
  have q_bA_1 := bA.now.cell 1 _ rfl
  have q_bA_l := bA.now.lt
  go_wp2_with fail
  clear q_bA_0 q_bA_1 q_bA_l
  refine (HTO.out _ (h.below hE) (h'.below hE)).mono ?_
  rintro e v3 ⟨g_t1, p_t1, rfl, hg_t1, hp_t1, hn_t1, hr_t1, hq_t1, hb⟩
  have s_v3 : v2.heap.size ≤ v3.heap.size := hb.size
  have n_bA := bA.below hb
  clear bA
  have bA := n_bA
  clear n_bA
  have n_hE := hE.trans (hb.mono hE.size)
  clear hE
  have hE := n_hE
  clear n_hE
  have t1s : Dep v3 v2.heap.size v3.heap.size (fun W => Row W g_t1 (ss.map Value.string)) := dep_row hr_t1 hg_t1 hr_t1.lt (Nat.le_refl _)
  have t1p : Dep v3 v2.heap.size v3.heap.size (fun W => Row W p_t1 (wcells ws)) := dep_row hq_t1 hp_t1 hq_t1.lt (Nat.le_refl _)
  have gl_t1 := hr_t1.lt
  have pl_t1 := hq_t1.lt
  clear hr_t1 hq_t1
  clear hb
  go_wp2_with fail
  refine (HSP.out _ _ _ t1s.now.strs t1p.now.wrs).mono ?_
  rintro e v4 ⟨a_zd, c_zd, rfl, ho, hg, hb⟩
  have s_v4 : v3.heap.size ≤ v4.heap.size := hb.size
  have n_bA := bA.below hb
  clear bA
  have bA := n_bA
  clear n_bA
  have n_t1s := t1s.below hb
  clear t1s
  have t1s := n_t1s
  clear n_t1s
  have n_t1p := t1p.below hb
  clear t1p
  have t1p := n_t1p
  clear n_t1p
  have n_hE := hE.trans (hb.mono hE.size)
  clear hE
  have hE := n_hE
  clear n_hE
  have zd : Dep v4 v3.heap.size v4.heap.size (fun W => OwnS W a_zd (R.1.map Value.string)) := dep_own ho strs_neA hg
  have lo_zd : ∀ g, blk a_zd R.1.length = some g → v3.heap.size ≤ g ∧ g < v4.heap.size := fun g hh => ⟨hg g hh, ho.lt _ strs_neB g hh⟩
  clear ho hg
  clear hb
  clear t1s
  clear t1p
  have q_bA_0 := bA.now.cell 0 _ rfl
  have q_bA_1 := bA.now.cell 1 _ rfl
  have q_bA_l := bA.now.lt
  go_wp2_with fail
  clear q_bA_0 q_bA_1 q_bA_l
  obtain ⟨v5, e_v5⟩ : ∃ xw, xw = v4.alloc (.cells #[.slice a_zd R.1.length c_zd, .int .i64 R.2.1, .int .i64 R.2.2] 38) := ⟨_, rfl⟩
  have hb : Below v4.heap.size v4 v5 := by rw [e_v5]; exact (Below.refl _ _).alloc (Nat.le_refl _) _
  have bZ : Dep v5 v4.heap.size (v4.heap.size + 1) (fun Wd => Row Wd v4.heap.size [.slice a_zd R.1.length c_zd, .int .i64 R.2.1, .int .i64 R.2.2]) := by rw [e_v5]; exact dep_box _ _ _
  have s_v5 : v4.heap.size + 1 ≤ v5.heap.size := by rw [e_v5]; simp
  rw [← e_v5]
  clear e_v5
  have n_bA := bA.below hb
  clear bA
  have bA := n_bA
  clear n_bA
  have n_zd := zd.below hb
  clear zd
  have zd := n_zd
  clear n_zd
  have n_hE := hE.trans (hb.mono hE.size)
  clear hE
  have hE := n_hE
  clear n_hE
  clear hb
  refine (HTO.out _ (h.below hE) (h'.below hE)).mono ?_
  rintro e v6 ⟨g_xd, p_xd, rfl, hg_xd, hp_xd, hn_xd, hr_xd, hq_xd, hb⟩
  have s_v6 : v5.heap.size ≤ v6.heap.size := hb.size
  have n_bA := bA.below hb
  clear bA
  have bA := n_bA
  clear n_bA
  have n_zd := zd.below hb
  clear zd
  have zd := n_zd
  clear n_zd
  have n_bZ := bZ.below hb
  clear bZ
  have bZ := n_bZ
  clear n_bZ
  have n_hE := hE.trans (hb.mono hE.size)
  clear hE
  have hE := n_hE
  clear n_hE
  have xds : Dep v6 v5.heap.size v6.heap.size (fun W => Row W g_xd (ss.map Value.string)) := dep_row hr_xd hg_xd hr_xd.lt (Nat.le_refl _)
  have xdp : Dep v6 v5.heap.size v6.heap.size (fun W => Row W p_xd (wcells ws)) := dep_row hq_xd hp_xd hq_xd.lt (Nat.le_refl _)
  have gl_xd := hr_xd.lt
  have pl_xd := hq_xd.lt
  clear hr_xd hq_xd
  clear hb
  go_wp2_with fail
  obtain ⟨v7, e_v7⟩ : ∃ xw, xw = v6.alloc (.cells #[.slice (some ⟨g_xd, 0, none⟩) ss.length ss.length, .slice (some ⟨p_xd, 0, none⟩) ws.length ws.length] 31) := ⟨_, rfl⟩
  have hb : Below v6.heap.size v6 v7 := by rw [e_v7]; exact (Below.refl _ _).alloc (Nat.le_refl _) _
  have bX : Dep v7 v6.heap.size (v6.heap.size + 1) (fun Wd => Row Wd v6.heap.size [.slice (some ⟨g_xd, 0, none⟩) ss.length ss.length, .slice (some ⟨p_xd, 0, none⟩) ws.length ws.length]) := by rw [e_v7]; exact dep_box _ _ _
  have s_v7 : v6.heap.size + 1 ≤ v7.heap.size := by rw [e_v7]; simp
  rw [← e_v7]
  clear e_v7
  have n_bA := bA.below hb
  clear bA
  have bA := n_bA
  clear n_bA
  have n_zd := zd.below hb
  clear zd
  have zd := n_zd
  clear n_zd
  have n_bZ := bZ.below hb
  clear bZ
  have bZ := n_bZ
  clear n_bZ
  have n_xds := xds.below hb
  clear xds
  have xds := n_xds
  clear n_xds
  have n_xdp := xdp.below hb
  clear xdp
  have xdp := n_xdp
  clear n_xdp
  have n_hE := hE.trans (hb.mono hE.size)
  clear hE
  have hE := n_hE
  clear n_hE
  clear hb
  have q_bX_0 := bX.now.cell 0 _ rfl
  have q_bX_1 := bX.now.cell 1 _ rfl
  have q_bX_l := bX.now.lt
  go_wp2_with fail
  clear q_bX_0 q_bX_1 q_bX_l
  refine (HIM.out _ _ _ xds.now.strs xdp.now.wrs hE).mono ?_
  rintro e v8 ⟨a_gd, c_gd, rfl, ho, hg, hb⟩
  have s_v8 : v7.heap.size ≤ v8.heap.size := hb.size
  have n_bA := bA.below hb
  clear bA
  have bA := n_bA
  clear n_bA
  have n_zd := zd.below hb
  clear zd
  have zd := n_zd
  clear n_zd
  have n_bZ := bZ.below hb
  clear bZ
  have bZ := n_bZ
  clear n_bZ
  have n_xds := xds.below hb
  clear xds
  have xds := n_xds
  clear n_xds
  have n_xdp := xdp.below hb
  clear xdp
  have xdp := n_xdp
  clear n_xdp
  have n_bX := bX.below hb
  clear bX
  have bX := n_bX
  clear n_bX
  have n_hE := hE.trans (hb.mono hE.size)
  clear hE
  have hE := n_hE
  clear n_hE
  have gd : Dep v8 v7.heap.size v8.heap.size (fun W => OwnS W a_gd (R.1.map Value.string)) := dep_own ho strs_neA hg
  have lo_gd : ∀ g, blk a_gd R.1.length = some g → v7.heap.size ≤ g ∧ g < v8.heap.size := fun g hh => ⟨hg g hh, ho.lt _ strs_neB g hh⟩
  clear ho hg
  clear hb
  have q_bZ_0 := bZ.now.cell 0 _ rfl
  have q_bZ_1 := bZ.now.cell 1 _ rfl
  have q_bZ_2 := bZ.now.cell 2 _ rfl
  have q_bZ_l := bZ.now.lt
  go_wp2_with fail
  clear q_bZ_0 q_bZ_1 q_bZ_2 q_bZ_l
  obtain ⟨v9, e_v9⟩ : ∃ xw, xw = v8.alloc (.cells #[.slice a_gd R.1.length c_gd, .int .i64 R.2.1, .int .i64 R.2.2] 38) := ⟨_, rfl⟩
  have hb : Below v8.heap.size v8 v9 := by rw [e_v9]; exact (Below.refl _ _).alloc (Nat.le_refl _) _
  have bG : Dep v9 v8.heap.size (v8.heap.size + 1) (fun Wd => Row Wd v8.heap.size [.slice a_gd R.1.length c_gd, .int .i64 R.2.1, .int .i64 R.2.2]) := by rw [e_v9]; exact dep_box _ _ _
  have s_v9 : v8.heap.size + 1 ≤ v9.heap.size := by rw [e_v9]; simp
  rw [← e_v9]
  clear e_v9
  have n_bA := bA.below hb
  clear bA
  have bA := n_bA
  clear n_bA
  have n_zd := zd.below hb
  clear zd
  have zd := n_zd
  clear n_zd
  have n_bZ := bZ.below hb
  clear bZ
  have bZ := n_bZ
  clear n_bZ
  have n_xds := xds.below hb
  clear xds
  have xds := n_xds
  clear n_xds
  have n_xdp := xdp.below hb
  clear xdp
  have xdp := n_xdp
  clear n_xdp
  have n_bX := bX.below hb
  clear bX
  have bX := n_bX
  clear n_bX
  have n_gd := gd.below hb
  clear gd
  have gd := n_gd
  clear n_gd
  have n_hE := hE.trans (hb.mono hE.size)
  clear hE
  have hE := n_hE
  clear n_hE
  clear hb
  refine (HEQ.out _ _ _ _ _ gd.now.strs zd.now.strs).mono ?_
  rintro e v10 ⟨rfl, hb⟩
  have s_v10 : v9.heap.size ≤ v10.heap.size := hb.size
  have n_bA := bA.below hb
  clear bA
  have bA := n_bA
  clear n_bA
  have n_zd := zd.below hb
  clear zd
  have zd := n_zd
  clear n_zd
  have n_bZ := bZ.below hb
  clear bZ
  have bZ := n_bZ
  clear n_bZ
  have n_xds := xds.below hb
  clear xds
  have xds := n_xds
  clear n_xds
  have n_xdp := xdp.below hb
  clear xdp
  have xdp := n_xdp
  clear n_xdp
  have n_bX := bX.below hb
  clear bX
  have bX := n_bX
  clear n_bX
  have n_gd := gd.below hb
  clear gd
  have gd := n_gd
  clear n_gd
  have n_bG := bG.below hb
  clear bG
  have bG := n_bG
  clear n_bG
  have n_hE := hE.trans (hb.mono hE.size)
  clear hE
  have hE := n_hE
  clear n_hE
  clear hb
  have q_bA_0 := bA.now.cell 0 _ rfl
  have q_bA_1 := bA.now.cell 1 _ rfl
  have q_bA_l := bA.now.lt
  have q_bX_0 := bX.now.cell 0 _ rfl
  have q_bX_1 := bX.now.cell 1 _ rfl
  have q_bX_l := bX.now.lt
  go_wp2_with fail
  clear q_bA_0 q_bA_1 q_bA_l q_bX_0 q_bX_1 q_bX_l
  have HK : Hid (∀ W, Below v10.heap.size v10 W → W.cell? ⟨w.heap.size, 0, none⟩ = some (.slice a ss.length c) ∧ W.cell? ⟨w.heap.size, 1, none⟩ = some (.slice a' ws.length c') ∧ W.cell? ⟨v6.heap.size, 0, none⟩ = some (.slice (some ⟨g_xd, 0, none⟩) ss.length ss.length) ∧ W.cell? ⟨v6.heap.size, 1, none⟩ = some (.slice (some ⟨p_xd, 0, none⟩) ws.length ws.length)) := fun W hb => ⟨(bA.below hb).now.cell 0 _ rfl, (bA.below hb).now.cell 1 _ rfl, (bX.below hb).now.cell 0 _ rfl, (bX.below hb).now.cell 1 _ rfl⟩
  refine wp_region_held_drew (S := fun w' => w'.cell? ⟨w.heap.size, 0, none⟩ = some (.slice a ss.length c) ∧ w'.cell? ⟨w.heap.size, 1, none⟩ = some (.slice a' ws.length c') ∧ w'.cell? ⟨v6.heap.size, 0, none⟩ = some (.slice (some ⟨g_xd, 0, none⟩) ss.length ss.length) ∧ w'.cell? ⟨v6.heap.size, 1, none⟩ = some (.slice (some ⟨p_xd, 0, none⟩) ws.length ws.length)) (by kernel_rfl) (HK.out _ (Below.refl _ _).drew) (fun hHeld => ?_)
  refine wpAnyH_take (i := 0) (v := .agg #[.slice (some ⟨g_xd, 0, none⟩) ss.length ss.length, .slice (some ⟨p_xd, 0, none⟩) ws.length ws.length]) rfl (by kernel_rfl) (by kernel_rfl) (by kernel_rfl) (fun _ _ _ h => h) (Or.inl ⟨by rfl, fun w hw => by obtain ⟨z0, z1, z2, z3⟩ := hw; go_simp⟩) hHeld ?_
  simp only [Act.put, List.getElem_toArray, List.getElem_cons_zero, List.getElem_cons_succ, List.setIfInBounds_toArray, List.set_cons_zero, List.set_cons_succ]
  refine wpAnyH_take (i := 1) (v := .agg #[.slice a ss.length c, .slice a' ws.length c']) rfl (by kernel_rfl) (by kernel_rfl) (by kernel_rfl) (fun _ _ _ h => h) (Or.inl ⟨by rfl, fun w hw => by obtain ⟨z0, z1, z2, z3⟩ := hw; go_simp⟩) hHeld ?_
  simp only [Act.put, List.getElem_toArray, List.getElem_cons_zero, List.getElem_cons_succ, List.setIfInBounds_toArray, List.set_cons_zero, List.set_cons_succ]
  refine wpAnyH_ready (rs := [2]) (by kernel_rfl) (by simp) ?_
  refine AllReadyH.cons rfl (fun K hK => ?_) AllReadyH.nil
  refine step_call (by rfl) 18 #[.agg #[.slice a ss.length c, .slice a' ws.length c']] (by go_simp) (HTO.out _ ((h.below hE).below (Below.refl _ _).drew) ((h'.below hE).below (Below.refl _ _).drew)) ?_
  rintro e u1 ⟨g_u, p_u, rfl, _, _, _, hr_u, hq_u, hb_u⟩
  refine ⟨_, rfl, ?_⟩
  have hb_u' : Below v10.heap.size v10 u1 := (Below.refl _ _).drew.trans hb_u
  refine hK.out _ _ (HK.out _ hb_u') (fun hHd1 => ?_)
  clear hK K
  try simp only [Act.put, List.getElem_toArray, List.getElem_cons_zero, List.getElem_cons_succ, List.setIfInBounds_toArray, List.set_cons_zero, List.set_cons_succ]
  refine wpAnyH_ready (rs := [3]) (by kernel_rfl) (by simp) ?_
  refine AllReadyH.cons rfl (fun K hK => ?_) AllReadyH.nil
  refine step_call (by rfl) 21 #[.agg #[.slice (some ⟨g_xd, 0, none⟩) ss.length ss.length, .slice (some ⟨p_xd, 0, none⟩) ws.length ws.length], .agg #[.slice (some ⟨g_u, 0, none⟩) ss.length ss.length, .slice (some ⟨p_u, 0, none⟩) ws.length ws.length]] (by go_simp) (HEX.out _ _ _ _ _ _ _ _ _ (xds.below hb_u').now.strs hr_u.strs (xdp.below hb_u').now.wrs hq_u.wrs) ?_
  rintro e u2 ⟨rfl, hb_v⟩
  refine ⟨_, rfl, ?_⟩
  have hb_v' := hb_u'.trans (hb_v.mono hb_u'.size)
  refine hK.out _ _ (HK.out _ hb_v') (fun hHd2 => ?_)
  clear hK K
  try simp only [Act.put, List.getElem_toArray, List.getElem_cons_zero, List.getElem_cons_succ, List.setIfInBounds_toArray, List.set_cons_zero, List.set_cons_succ]
  refine wpAnyH_take (i := 4) (v := .bool false) rfl (by kernel_rfl) (by kernel_rfl) (by kernel_rfl) (fun _ _ _ h => h) (Or.inl ⟨by rfl, fun w hw => by obtain ⟨z0, z1, z2, z3⟩ := hw; go_simp⟩) hHd2 ?_
  simp only [Act.put, List.getElem_toArray, List.getElem_cons_zero, List.getElem_cons_succ, List.setIfInBounds_toArray, List.set_cons_zero, List.set_cons_succ]
  refine wpAnyH_done (by kernel_rfl) ?_ _
  have hb := hb_v'
  clear HK hb_u hb_u' hr_u hq_u hb_v hb_v' hHeld hHd1 hHd2
  have s_u2 : v10.heap.size ≤ u2.heap.size := hb.size
  have n_bA := bA.below hb
  clear bA
  have bA := n_bA
  clear n_bA
  have n_zd := zd.below hb
  clear zd
  have zd := n_zd
  clear n_zd
  have n_bZ := bZ.below hb
  clear bZ
  have bZ := n_bZ
  clear n_bZ
  have n_xds := xds.below hb
  clear xds
  have xds := n_xds
  clear n_xds
  have n_xdp := xdp.below hb
  clear xdp
  have xdp := n_xdp
  clear n_xdp
  have n_bX := bX.below hb
  clear bX
  have bX := n_bX
  clear n_bX
  have n_gd := gd.below hb
  clear gd
  have gd := n_gd
  clear n_gd
  have n_bG := bG.below hb
  clear bG
  have bG := n_bG
  clear n_bG
  have n_hE := hE.trans (hb.mono hE.size)
  clear hE
  have hE := n_hE
  clear n_hE
  clear hb
  have q_bX_0 := bX.now.cell 0 _ rfl
  have q_bX_1 := bX.now.cell 1 _ rfl
  have q_bX_l := bX.now.lt
  go_wp2_with fail
  clear q_bX_0 q_bX_1 q_bX_l
  have k_xds := xds.now
  clear xds
  have k_xdp := xdp.now
  clear xdp
  refine (HMX.out _ _ _ _ _ ⟨.inr ⟨g_xd, rfl, k_xds⟩, .inr ⟨p_xd, rfl, k_xdp⟩, own_ne hn_xd⟩).mono ?_
  rintro e v11 ⟨rfl, ⟨wa, wb, ma, mb, mc⟩, hd⟩
  have s_v11 : u2.heap.size ≤ v11.heap.size := Nat.le_trans ma.size (Nat.le_trans mb.size mc.size)
  have hgs : ∀ g, blk (some ⟨g_xd, 0, none⟩) ss.length = some g → v5.heap.size ≤ g ∧ g < v6.heap.size := fun g hg => by have := blk_is hg; rw [this]; exact ⟨hg_xd, gl_xd⟩
  have hgp : ∀ g, blk (some ⟨p_xd, 0, none⟩) ws.length = some g → v5.heap.size ≤ g ∧ g < v6.heap.size := fun g hg => by have := blk_is hg; rw [this]; exact ⟨hp_xd, pl_xd⟩
  have n_bA := bA.below ma
  clear bA
  have bA := n_bA
  clear n_bA
  have n_zd := zd.below ma
  clear zd
  have zd := n_zd
  clear n_zd
  have n_bZ := bZ.below ma
  clear bZ
  have bZ := n_bZ
  clear n_bZ
  have n_bX := bX.below ma
  clear bX
  have bX := n_bX
  clear n_bX
  have n_gd := gd.below ma
  clear gd
  have gd := n_gd
  clear n_gd
  have n_bG := bG.below ma
  clear bG
  have bG := n_bG
  clear n_bG
  have n_hE := hE.trans (ma.mono hE.size)
  clear hE
  have hE := n_hE
  clear n_hE
  have n_bA := bA.grown mb (fun g hg => by have := hgs g hg; omega)
  clear bA
  have bA := n_bA
  clear n_bA
  have n_zd := zd.grown mb (fun g hg => by have := hgs g hg; omega)
  clear zd
  have zd := n_zd
  clear n_zd
  have n_bZ := bZ.grown mb (fun g hg => by have := hgs g hg; omega)
  clear bZ
  have bZ := n_bZ
  clear n_bZ
  have n_bX := bX.grown mb (fun g hg => by have := hgs g hg; omega)
  clear bX
  have bX := n_bX
  clear n_bX
  have n_gd := gd.grown mb (fun g hg => by have := hgs g hg; omega)
  clear gd
  have gd := n_gd
  clear n_gd
  have n_bG := bG.grown mb (fun g hg => by have := hgs g hg; omega)
  clear bG
  have bG := n_bG
  clear n_bG
  have n_hE := hE.trans (grown_below mb hE.size (fun g hg => by have := hgs g hg; omega))
  clear hE
  have hE := n_hE
  clear n_hE
  have n_bA := bA.grown mc (fun g hg => by have := hgp g hg; omega)
  clear bA
  have bA := n_bA
  clear n_bA
  have n_zd := zd.grown mc (fun g hg => by have := hgp g hg; omega)
  clear zd
  have zd := n_zd
  clear n_zd
  have n_bZ := bZ.grown mc (fun g hg => by have := hgp g hg; omega)
  clear bZ
  have bZ := n_bZ
  clear n_bZ
  have n_bX := bX.grown mc (fun g hg => by have := hgp g hg; omega)
  clear bX
  have bX := n_bX
  clear n_bX
  have n_gd := gd.grown mc (fun g hg => by have := hgp g hg; omega)
  clear gd
  have gd := n_gd
  clear n_gd
  have n_bG := bG.grown mc (fun g hg => by have := hgp g hg; omega)
  clear bG
  have bG := n_bG
  clear n_bG
  have n_hE := hE.trans (grown_below mc hE.size (fun g hg => by have := hgp g hg; omega))
  clear hE
  have hE := n_hE
  clear n_hE
  clear ma mb mc hd hgs hgp k_xds k_xdp
  have q_bG_0 := bG.now.cell 0 _ rfl
  have q_bG_1 := bG.now.cell 1 _ rfl
  have q_bG_2 := bG.now.cell 2 _ rfl
  have q_bG_l := bG.now.lt
  have q_bZ_0 := bZ.now.cell 0 _ rfl
  have q_bZ_1 := bZ.now.cell 1 _ rfl
  have q_bZ_2 := bZ.now.cell 2 _ rfl
  have q_bZ_l := bZ.now.lt
  go_wp2_with fail
  clear q_bG_0 q_bG_1 q_bG_2 q_bG_l q_bZ_0 q_bZ_1 q_bZ_2 q_bZ_l
  refine (HEQ.out _ _ _ _ _ gd.now.strs zd.now.strs).mono ?_
  rintro e v12 ⟨rfl, hb⟩
  have s_v12 : v11.heap.size ≤ v12.heap.size := hb.size
  have n_bA := bA.below hb
  clear bA
  have bA := n_bA
  clear n_bA
  have n_zd := zd.below hb
  clear zd
  have zd := n_zd
  clear n_zd
  have n_bZ := bZ.below hb
  clear bZ
  have bZ := n_bZ
  clear n_bZ
  have n_bX := bX.below hb
  clear bX
  have bX := n_bX
  clear n_bX
  have n_gd := gd.below hb
  clear gd
  have gd := n_gd
  clear n_gd
  have n_bG := bG.below hb
  clear bG
  have bG := n_bG
  clear n_bG
  have n_hE := hE.trans (hb.mono hE.size)
  clear hE
  have hE := n_hE
  clear n_hE
  clear hb
  have q_bG_0 := bG.now.cell 0 _ rfl
  have q_bG_1 := bG.now.cell 1 _ rfl
  have q_bG_2 := bG.now.cell 2 _ rfl
  have q_bG_l := bG.now.lt
  go_wp2_with fail
  clear q_bG_0 q_bG_1 q_bG_2 q_bG_l
  have k_gd := gd.now
  clear gd
  refine (HMG.out _ _ _ k_gd).mono ?_
  rintro e v13 ⟨rfl, ⟨wa, ma, mb⟩, hd⟩
  have s_v13 : v12.heap.size ≤ v13.heap.size := Nat.le_trans ma.size mb.size
  have n_bA := bA.below ma
  clear bA
  have bA := n_bA
  clear n_bA
  have n_zd := zd.below ma
  clear zd
  have zd := n_zd
  clear n_zd
  have n_bZ := bZ.below ma
  clear bZ
  have bZ := n_bZ
  clear n_bZ
  have n_bX := bX.below ma
  clear bX
  have bX := n_bX
  clear n_bX
  have n_bG := bG.below ma
  clear bG
  have bG := n_bG
  clear n_bG
  have n_hE := hE.trans (ma.mono hE.size)
  clear hE
  have hE := n_hE
  clear n_hE
  have n_bA := bA.grown mb (fun g hg => by have := lo_gd g hg; omega)
  clear bA
  have bA := n_bA
  clear n_bA
  have n_zd := zd.grown mb (fun g hg => by have := lo_gd g hg; omega)
  clear zd
  have zd := n_zd
  clear n_zd
  have n_bZ := bZ.grown mb (fun g hg => by have := lo_gd g hg; omega)
  clear bZ
  have bZ := n_bZ
  clear n_bZ
  have n_bX := bX.grown mb (fun g hg => by have := lo_gd g hg; omega)
  clear bX
  have bX := n_bX
  clear n_bX
  have n_bG := bG.grown mb (fun g hg => by have := lo_gd g hg; omega)
  clear bG
  have bG := n_bG
  clear n_bG
  have n_hE := hE.trans (grown_below mb hE.size (fun g hg => by have := lo_gd g hg; omega))
  clear hE
  have hE := n_hE
  clear n_hE
  have gd : Dep v13 v7.heap.size v8.heap.size (fun W => OwnS W a_gd ((marks 1 R.1.length).map Value.string)) := (dep_own hd (fun h => by have := strs_neA h; rwa [marks_length] at this) (fun g hg => (lo_gd g hg).1)).cut (fun g h1 h2 => (lo_gd g (by subst h1; exact blk_pos _ _ _ (by have := strs_neA h2; rwa [marks_length] at this))).2) (by omega) (fun g h1 h2 => (lo_gd g (by subst h1; exact blk_pos _ _ _ (by have := strs_neA h2; rwa [marks_length] at this))).1)
  clear ma mb hd k_gd
  have q_bG_0 := bG.now.cell 0 _ rfl
  have q_bG_1 := bG.now.cell 1 _ rfl
  have q_bG_2 := bG.now.cell 2 _ rfl
  have q_bG_l := bG.now.lt
  go_wp2_with fail
  clear q_bG_0 q_bG_1 q_bG_2 q_bG_l
  refine (HHG.out _ _ _ gd.now).mono ?_
  rintro e v14 ⟨rfl, hb⟩
  have s_v14 : v13.heap.size ≤ v14.heap.size := hb.size
  have n_bA := bA.below hb
  clear bA
  have bA := n_bA
  clear n_bA
  have n_zd := zd.below hb
  clear zd
  have zd := n_zd
  clear n_zd
  have n_bZ := bZ.below hb
  clear bZ
  have bZ := n_bZ
  clear n_bZ
  have n_bX := bX.below hb
  clear bX
  have bX := n_bX
  clear n_bX
  have n_bG := bG.below hb
  clear bG
  have bG := n_bG
  clear n_bG
  have n_gd := gd.below hb
  clear gd
  have gd := n_gd
  clear n_gd
  have n_hE := hE.trans (hb.mono hE.size)
  clear hE
  have hE := n_hE
  clear n_hE
  clear hb
  have q_bA_0 := bA.now.cell 0 _ rfl
  have q_bA_1 := bA.now.cell 1 _ rfl
  have q_bA_l := bA.now.lt
  go_wp2_with fail
  clear q_bA_0 q_bA_1 q_bA_l
  refine (HTO.out _ (h.below hE) (h'.below hE)).mono ?_
  rintro e v15 ⟨g_t4, p_t4, rfl, hg_t4, hp_t4, hn_t4, hr_t4, hq_t4, hb⟩
  have s_v15 : v14.heap.size ≤ v15.heap.size := hb.size
  have n_bA := bA.below hb
  clear bA
  have bA := n_bA
  clear n_bA
  have n_zd := zd.below hb
  clear zd
  have zd := n_zd
  clear n_zd
  have n_bZ := bZ.below hb
  clear bZ
  have bZ := n_bZ
  clear n_bZ
  have n_bX := bX.below hb
  clear bX
  have bX := n_bX
  clear n_bX
  have n_bG := bG.below hb
  clear bG
  have bG := n_bG
  clear n_bG
  have n_gd := gd.below hb
  clear gd
  have gd := n_gd
  clear n_gd
  have n_hE := hE.trans (hb.mono hE.size)
  clear hE
  have hE := n_hE
  clear n_hE
  have t4s : Dep v15 v14.heap.size v15.heap.size (fun W => Row W g_t4 (ss.map Value.string)) := dep_row hr_t4 hg_t4 hr_t4.lt (Nat.le_refl _)
  have t4p : Dep v15 v14.heap.size v15.heap.size (fun W => Row W p_t4 (wcells ws)) := dep_row hq_t4 hp_t4 hq_t4.lt (Nat.le_refl _)
  have gl_t4 := hr_t4.lt
  have pl_t4 := hq_t4.lt
  clear hr_t4 hq_t4
  clear hb
  go_wp2_with fail
  refine (HIM.out _ _ _ t4s.now.strs t4p.now.wrs hE).mono ?_
  rintro e v16 ⟨a_hd, c_hd, rfl, ho, hg, hb⟩
  have s_v16 : v15.heap.size ≤ v16.heap.size := hb.size
  have n_bA := bA.below hb
  clear bA
  have bA := n_bA
  clear n_bA
  have n_zd := zd.below hb
  clear zd
  have zd := n_zd
  clear n_zd
  have n_bZ := bZ.below hb
  clear bZ
  have bZ := n_bZ
  clear n_bZ
  have n_bX := bX.below hb
  clear bX
  have bX := n_bX
  clear n_bX
  have n_bG := bG.below hb
  clear bG
  have bG := n_bG
  clear n_bG
  have n_gd := gd.below hb
  clear gd
  have gd := n_gd
  clear n_gd
  have n_t4s := t4s.below hb
  clear t4s
  have t4s := n_t4s
  clear n_t4s
  have n_t4p := t4p.below hb
  clear t4p
  have t4p := n_t4p
  clear n_t4p
  have n_hE := hE.trans (hb.mono hE.size)
  clear hE
  have hE := n_hE
  clear n_hE
  have hd : Dep v16 v15.heap.size v16.heap.size (fun W => OwnS W a_hd (R.1.map Value.string)) := dep_own ho strs_neA hg
  have lo_hd : ∀ g, blk a_hd R.1.length = some g → v15.heap.size ≤ g ∧ g < v16.heap.size := fun g hh => ⟨hg g hh, ho.lt _ strs_neB g hh⟩
  clear ho hg
  clear hb
  clear t4s
  clear t4p
  have q_bZ_0 := bZ.now.cell 0 _ rfl
  have q_bZ_1 := bZ.now.cell 1 _ rfl
  have q_bZ_2 := bZ.now.cell 2 _ rfl
  have q_bZ_l := bZ.now.lt
  go_wp2_with fail
  clear q_bZ_0 q_bZ_1 q_bZ_2 q_bZ_l
  obtain ⟨v17, e_v17⟩ : ∃ xw, xw = v16.alloc (.cells #[.slice a_hd R.1.length c_hd, .int .i64 R.2.1, .int .i64 R.2.2] 38) := ⟨_, rfl⟩
  have hb : Below v16.heap.size v16 v17 := by rw [e_v17]; exact (Below.refl _ _).alloc (Nat.le_refl _) _
  have bH : Dep v17 v16.heap.size (v16.heap.size + 1) (fun Wd => Row Wd v16.heap.size [.slice a_hd R.1.length c_hd, .int .i64 R.2.1, .int .i64 R.2.2]) := by rw [e_v17]; exact dep_box _ _ _
  have s_v17 : v16.heap.size + 1 ≤ v17.heap.size := by rw [e_v17]; simp
  rw [← e_v17]
  clear e_v17
  have n_bA := bA.below hb
  clear bA
  have bA := n_bA
  clear n_bA
  have n_zd := zd.below hb
  clear zd
  have zd := n_zd
  clear n_zd
  have n_bZ := bZ.below hb
  clear bZ
  have bZ := n_bZ
  clear n_bZ
  have n_bX := bX.below hb
  clear bX
  have bX := n_bX
  clear n_bX
  have n_bG := bG.below hb
  clear bG
  have bG := n_bG
  clear n_bG
  have n_gd := gd.below hb
  clear gd
  have gd := n_gd
  clear n_gd
  have n_hd := hd.below hb
  clear hd
  have hd := n_hd
  clear n_hd
  have n_hE := hE.trans (hb.mono hE.size)
  clear hE
  have hE := n_hE
  clear n_hE
  clear hb
  refine (HEQ.out _ _ _ _ _ hd.now.strs zd.now.strs).mono ?_
  rintro e v18 ⟨rfl, hb⟩
  have s_v18 : v17.heap.size ≤ v18.heap.size := hb.size
  have n_bA := bA.below hb
  clear bA
  have bA := n_bA
  clear n_bA
  have n_zd := zd.below hb
  clear zd
  have zd := n_zd
  clear n_zd
  have n_bZ := bZ.below hb
  clear bZ
  have bZ := n_bZ
  clear n_bZ
  have n_bX := bX.below hb
  clear bX
  have bX := n_bX
  clear n_bX
  have n_bG := bG.below hb
  clear bG
  have bG := n_bG
  clear n_bG
  have n_gd := gd.below hb
  clear gd
  have gd := n_gd
  clear n_gd
  have n_hd := hd.below hb
  clear hd
  have hd := n_hd
  clear n_hd
  have n_bH := bH.below hb
  clear bH
  have bH := n_bH
  clear n_bH
  have n_hE := hE.trans (hb.mono hE.size)
  clear hE
  have hE := n_hE
  clear n_hE
  clear hb
  have q_bG_0 := bG.now.cell 0 _ rfl
  have q_bG_1 := bG.now.cell 1 _ rfl
  have q_bG_2 := bG.now.cell 2 _ rfl
  have q_bG_l := bG.now.lt
  go_wp2_with fail
  clear q_bG_0 q_bG_1 q_bG_2 q_bG_l
  refine (HHG.out _ _ _ gd.now).mono ?_
  rintro e v19 ⟨rfl, hb⟩
  have s_v19 : v18.heap.size ≤ v19.heap.size := hb.size
  have n_bA := bA.below hb
  clear bA
  have bA := n_bA
  clear n_bA
  have n_zd := zd.below hb
  clear zd
  have zd := n_zd
  clear n_zd
  have n_bZ := bZ.below hb
  clear bZ
  have bZ := n_bZ
  clear n_bZ
  have n_bX := bX.below hb
  clear bX
  have bX := n_bX
  clear n_bX
  have n_bG := bG.below hb
  clear bG
  have bG := n_bG
  clear n_bG
  have n_gd := gd.below hb
  clear gd
  have gd := n_gd
  clear n_gd
  have n_hd := hd.below hb
  clear hd
  have hd := n_hd
  clear n_hd
  have n_bH := bH.below hb
  clear bH
  have bH := n_bH
  clear n_bH
  have n_hE := hE.trans (hb.mono hE.size)
  clear hE
  have hE := n_hE
  clear n_hE
  clear hb
  go_wp2_with fail
  go_ret
  exact ⟨rfl, hE⟩

theorem cells1 : Tryd.prog.cellsOf 9 = 1 := by kernel_rfl
theorem cells2 : Tryd.prog.cellsOf 134 = 2 := by kernel_rfl
theorem cellsD : Tryd.prog.cellsOf 46 = 2 := by kernel_rfl
set_option maxRecDepth 100000 in
theorem contract (H : Type) (enc : TypeId × Value → H) (W : World) (base : Nat) (args : Array Value) (ds gs : List (DataW H)) (before : List MemPlace)
    (hval : ∀ (j : Nat) t v, Tryd.f5.params[j]? = some t → args[j]? = some v → Value.okWide Tryd.prog W .any base t v)
    (hW : DataW.Whole enc Tryd.prog Tryd.f5.params.toList Rows.fnExactScanSpec.vars false W args.toList ds gs before) (hL : laidMetH Tryd.prog Rows.fnExactScanRow.laid W) :
    Calls Tryd.prog 5 args W fun e W' => ∃ v, e = .returned v ∧ Rows.fnExactScanSpec.post enc Tryd.prog Tryd.f5 false true false false W args v W' := by
  have hW' := hW
  obtain ⟨p, q, hA0, hV0, rfl, hfz, hnd⟩ := hW
  have hA : DataW.TrodAll enc Tryd.prog W 0 (fun _ => true) true Tryd.f5.params.toList args.toList ds p := hA0
  have hV : DataW.TrodVars enc Tryd.prog W (fun _ => true) ["loop.example/kilnstone/impl.errNoPage"] gs q := hV0
  rw [Tryd.params5] at hA hval
  obtain ⟨v0, vs0, d0, ds0, p0, q0, hargs, rfl, rfl, h0, r0⟩ := trodAll_cons hA
  obtain ⟨v1, vs1, d1, ds1, p1, q1, rfl, rfl, rfl, h1, r1⟩ := trodAll_cons r0
  obtain ⟨v2, vs2, d2, ds2, p2, q2, rfl, rfl, rfl, h2, r2⟩ := trodAll_cons r1
  obtain ⟨v3, vs3, d3, ds3, p3, q3, rfl, rfl, rfl, h3, r3⟩ := trodAll_cons r2
  obtain ⟨v4, vs4, d4, ds4, p4, q4, rfl, rfl, rfl, h4, r4⟩ := trodAll_cons r3
  obtain ⟨v5, vs5, d5, ds5, p5, q5, rfl, rfl, rfl, h5, r5⟩ := trodAll_cons r4
  obtain ⟨rfl, rfl, rfl⟩ := trodAll_nil r5
  obtain rfl : args = #[v0, v1, v2, v3, v4, v5] := by cases args; simp_all
  have k0 := h0
  have lt0 : ∀ x ∈ p0, x.block < W.heap.size := by obtain ⟨m, hm⟩ := k0; exact DataW.trod_lt m _ _ _ hm
  obtain ⟨c0, c1, y0, y1, mm, rfl, _, _, hy0, hy1⟩ := open_agg2 Tryd.underlying46 (by kernel_rfl) cellsD (hval 0 46 v0 rfl rfl) h0
  obtain ⟨a, ss, c, rfl, hS, hl, hs⟩ := strs_of_trod Tryd.underlying25 Tryd.underlying9 cells1 hy0
  obtain ⟨a', ws, c', rfl, hS', hl', hs', _⟩ := wrs_of_trod Tryd.underlying44 Tryd.underlying134 cells2 rfl rfl (by kernel_rfl) (by kernel_rfl) Tryd.underlying3 Tryd.underlying9 hy1
  obtain ⟨a1, rfl, rfl, rfl, w1⟩ := open_int Tryd.underlying3 (hval 1 3 v1 rfl rfl) h1
  obtain ⟨a2, rfl, rfl, rfl, w2⟩ := open_int Tryd.underlying3 (hval 2 3 v2 rfl rfl) h2
  obtain ⟨a3, rfl, rfl, rfl, w3⟩ := open_int Tryd.underlying3 (hval 3 3 v3 rfl rfl) h3
  obtain ⟨a4, rfl, rfl, rfl, w4⟩ := open_int Tryd.underlying3 (hval 4 3 v4 rfl rfl) h4
  obtain ⟨a5, rfl, rfl, rfl, w5⟩ := open_int Tryd.underlying3 (hval 5 3 v5 rfl rfl) h5
  have hV1 := hV
  obtain ⟨g, t, cs, fuel, d, pp, rfl, _⟩ := trodVars_one hV
  clear hA0
  refine (walk a ss c a' ws c' a1 a2 a3 a4 a5 W hS hS' hl hs hl' hs' (lit_rng w1) (lit_rng w3) hL).mono fun e W' ⟨he, bel⟩ => ?_
  subst he
  exact ⟨_, rfl, _, _, _, [], _, _, hW', trodAll_mk1 (shut_bool Tryd.underlying4 _), (trodAll_cons_mk (Below.trod laidOut (by kernel_rfl) (of_decide_eq_true (by kernel_rfl)) k0 bel lt0) (trodAll_cons_mk (shut_int Tryd.underlying3 w1) (trodAll_cons_mk (shut_int Tryd.underlying3 w2) (trodAll_cons_mk (shut_int Tryd.underlying3 w3) (trodAll_cons_mk (shut_int Tryd.underlying3 w4) (trodAll_cons_mk (shut_int Tryd.underlying3 w5) trodAll_mk0)))))), Below.trodVars laidOut bel (by kernel_rfl) hV1, bel.frame _, fun h => by cases h⟩

/-- A world for the witness: the settled one, both variables laid. -/
noncomputable def laidWorld (os : Os) : World :=
  let w0 := World.holding Tryd.prog os ⟨#[.cells #[.string ⟨#[110, 111, 32, 112, 97, 103, 101]⟩] 209], #[], []⟩
  { w0 with heap := (w0.heap.modify 0 fun
      | .cells _ t frozen => .cells #[.iface 177 (.agg #[.pointer (some ⟨2, 91, none⟩)])] t frozen
      | o => o).modify 1 fun
      | .cells _ t frozen => .cells #[.iface 190 (.pointer (some ⟨(begin Tryd.prog (fun _ _ => 0) default).world.heap.size, 0, none⟩))] t frozen
      | o => o }
set_option maxRecDepth 100000 in
theorem laid_met (os : Os) : laidMetH Tryd.prog Rows.fnExactScanRow.laid ((laidWorld os).forCall (fun _ _ => 0) ⟨#[], #[.agg #[.slice none 0 0, .slice none 0 0], .int .i64 0, .int .i64 0, .int .i64 0, .int .i64 0, .int .i64 0], []⟩).memory :=
  laidMetH_of_parts (laidMet_of_run' 8 (by kernel_rfl) (by kernel_rfl)) (by kernel_rfl)
set_option maxRecDepth 100000 in
theorem reads (os : Os) {H : Type} (enc : TypeId × Value → H) : ∃ x, DataW.whole enc Tryd.prog ((laidWorld os).forCall (fun _ _ => 0) ⟨#[], #[.agg #[.slice none 0 0, .slice none 0 0], .int .i64 0, .int .i64 0, .int .i64 0, .int .i64 0, .int .i64 0], []⟩).memory Tryd.f5.params.toList Rows.fnExactScanSpec.vars false #[Value.agg #[.slice none 0 0, .slice none 0 0], Value.int .i64 0, Value.int .i64 0, Value.int .i64 0, Value.int .i64 0, Value.int .i64 0].toList 8 = some x :=
  Option.isSome_iff_exists.1 (by kernel_rfl)

set_option maxRecDepth 100000 in
theorem lifted (os : Os) (started : os.Started) (H : Type) (enc : TypeId × Value → H) (F : Stop.Interp) :
    ReturnsInHanded {} Tryd.checked os 5 .any ((OpenSpec.ofChange Rows.fnExactScanSpec).preRow enc Tryd.prog Tryd.f5 Rows.fnExactScanRow.domain false Rows.fnExactScanRow.laid) (((OpenSpec.ofChange Rows.fnExactScanSpec).at F).post enc Tryd.prog Tryd.f5 false true false false) := by
  obtain ⟨x, hx⟩ := reads os enc
  refine returnsInHanded_of_row (C := Tryd.checked) (s := OpenSpec.ofChange Rows.fnExactScanSpec) own started (by kernel_rfl) Tryd.func5
    (witness_row_at (enc := enc) (C := Tryd.checked) false (laidWorld os) #[.agg #[.slice none 0 0, .slice none 0 0], .int .i64 0, .int .i64 0, .int .i64 0, .int .i64 0, .int .i64 0] rfl (by kernel_rfl) (by kernel_rfl) (by kernel_rfl)
      (OpenSpec.preRow_of_cond 8 hx (by kernel_rfl) (fun k hk => by cases hk) (by kernel_rfl) (laid_met os))) ?_
  intro W base args ds gs before hval hW _ _ _ hL _ _
  exact contract H enc W base args ds gs before hval hW hL

set_option maxRecDepth 100000 in
theorem said : Rows.FnExactScanSaid :=
  OpenClaim.holds_of_cond 5 Tryd.f5 rfl rfl rfl rfl rfl rfl rfl ⟨rfl, rfl, rfl, rfl, rfl⟩ rfl rfl rfl rfl rfl (by kernel_rfl) Tryd.func5 (by kernel_rfl)
    (of_decide_eq_true (by kernel_rfl)) (by unfold Func.isWrapper; first | (rw [if_pos (by decide +kernel)]; kernel_rfl) | (rw [if_neg (by decide +kernel)]; exact ⟨rfl, rfl⟩))
    (fun os started H enc _ F => by rw [OpenClaim.pre_eq_preRow]; exact lifted os started H enc F)

set_option maxRecDepth 100000 in
theorem plain (f : FuncId) (fn : Func) (hf : Tryd.pinned.checked.prog.funcNamed "loop.example/kilnstone/laws.FnExactScan" = some f) (hfn : Tryd.pinned.checked.prog.funcs[f]? = some fn) :
    true = Tryd.pinned.checked.prog.looks [] ∧ ∀ (j : Nat) t, fn.params[j]? = some t → Tryd.pinned.checked.prog.wantsStandIn t = false := by
  obtain rfl : f = 5 := Option.some.inj ((show Tryd.prog.funcNamed "loop.example/kilnstone/laws.FnExactScan" = some 5 by kernel_rfl).symm.trans hf) |>.symm
  obtain rfl : fn = Tryd.f5 := (Option.some.inj (Tryd.func5.symm.trans hfn)).symm
  refine ⟨by kernel_rfl, fun j t ht => ?_⟩
  rw [Tryd.params5] at ht
  have hm : t = 46 ∨ t = 3 := by simpa using Array.mem_of_getElem? ht
  rcases hm with rfl | rfl
  · exact (show Tryd.prog.wantsStandIn 46 = false by kernel_rfl)
  · exact (show Tryd.prog.wantsStandIn 3 = false by kernel_rfl)

theorem proved : Rows.FnExactScanCardSaid :=
  Claim7.holds_tied_plain_at .later [] _ _ _ _ said (fun _ h => by cases h) (by kernel_rfl) (fun _ h => by cases h) fnExactScan_row_tie rfl ⟨rfl, rfl⟩ (by kernel_rfl) rfl plain (by kernel_rfl)
#print axioms proved
end Go.Proofs.YtnmaknnnmjfhkaeDoor.fnExactScan
