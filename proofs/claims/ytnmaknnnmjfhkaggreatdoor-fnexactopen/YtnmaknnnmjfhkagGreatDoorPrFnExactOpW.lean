import Derived.WalkKit
import Derived.ProofKit
import Derived.OpenShut
import Derived.ShutString
import Derived.ChangeOld
import Derived.Below
import Derived.Lib.SmallJoins
import Derived.OpenVars
import Derived.LaidLaws
import Derived.LaidHandle
import Derived.Deep.DeepHandedRow
import Derived.Test.YtnmaknnnmjfhkagGreatDoorCards
import Derived.Test.YtnmaknnnmjfhkagGreatDoorTie
import Derived.Test.YtnmaknnnmjfhkagGreatDoorPrG29
import Derived.Test.YtnmaknnnmjfhkagGreatDoorPrOpS
import Derived.Test.YtnmaknnnmjfhkagGreatDoorPrOpI
import Derived.Test.YtnmaknnnmjfhkagGreatDoorPrDn
import Derived.Test.YtnmaknnnmjfhkagGreatDoorPrG49
import Derived.Test.YtnmaknnnmjfhkagGreatDoorPrG43
import Derived.Test.YtnmaknnnmjfhkagGreatDoorPrG34
import Derived.Test.YtnmaknnnmjfhkagGreatDoorPrG33
namespace Go.Proofs.YtnmaknnnmjfhkagGreatDoor.fnExactOpen
open Go.ChangeShapes Go.WideShapes Go.ChangeAt Go.RowKit Go.Joins
open Go.ChangeMaps (open_string shut_string)
set_option linter.unusedVariables false
set_option linter.unusedSimpArgs false
theorem own : ownKnob Tryz.prog.godebug = none := by kernel_rfl
theorem laidOut : laidOutB Tryz.prog = true := by kernel_rfl
theorem gEt : Tryz.prog.globalNamed "errors.errorType" = some 0 := by kernel_rfl
theorem gEn : Tryz.prog.globalNamed "loop.example/kilnstone/impl.errNoPage" = some 1 := by kernel_rfl
theorem gEnT : (Tryz.prog.globals[1]?).map (·.type) = some 215 := by kernel_rfl
theorem rt : (Tryz.prog.cutTypes.find? (·.1 == "internal/reflectlite.rtype")).map (·.2) = some 332 := by kernel_rfl
theorem oneRow : ((List.range Tryz.prog.types.size).filter fun t => Tryz.prog.rowNamed t [101, 114, 114, 111, 114]) = [215] := by kernel_rfl
theorem of_laid {W : World} (h : laidMetH Tryz.prog Rows.fnExactOpenRow.laid W) : W.cell? ⟨0, 0, none⟩ = some (.iface 332 (.agg #[.pointer (some ⟨3, 215, none⟩)])) ∧ (∃ ty v, W.cell? ⟨1, 0, none⟩ = some (.iface ty v)) ∧ 1 < W.heap.size := by
  have h' : laidMet Tryz.prog [("loop.example/kilnstone/impl.errNoPage", Rows.laid_loop_example_kilnstone_impl_errNoPage)] W ∧ handlesMet Tryz.prog [("errors.errorType", Rows.laid_errors_errorType)] W := h
  obtain ⟨name, u, ty, e1, e2, e3, e4, e5⟩ := h'.2 _ (List.mem_singleton.2 rfl)
  have en : name = [101, 114, 114, 111, 114] := (Option.some.inj e1).symm
  subst en
  obtain rfl := Option.some.inj (rt.symm.trans e2)
  have hm : ty ∈ (List.range Tryz.prog.types.size).filter fun t => Tryz.prog.rowNamed t [101, 114, 114, 111, 114] := List.mem_filter.2 ⟨List.mem_range.2 e3, e4⟩
  rw [oneRow] at hm
  obtain rfl := List.mem_singleton.1 hm
  have hh : typeHandle Tryz.prog 215 = .pointer (some ⟨3, 215, none⟩) := by kernel_rfl
  rw [hh] at e5
  obtain ⟨ps, ⟨g0, t0, cs0, f0, p0, q0, hg0, ht0, hv0, hd0, _, _⟩, _, _⟩ := h'.1
  obtain rfl := Option.some.inj (gEn.symm.trans hg0)
  obtain rfl := Option.some.inj (gEnT.symm.trans ht0)
  obtain ⟨l0⟩ := cs0
  obtain ⟨_, u, v, hcs, _, _⟩ := iface_of_trod Tryz.underlying215 hd0
  have hc1 : W.cell? ⟨1, 0, none⟩ = some (.iface u v) := by
    have := World.var?_cell gEn hv0 0
    simp at hcs
    subst hcs
    simpa using this
  refine ⟨by simpa using World.var?_cell gEt e5 0, ⟨u, v, hc1⟩, ?_⟩
  rcases Nat.lt_or_ge 1 W.heap.size with hl | hl
  · exact hl
  · exfalso
    have : W.heap[1]? = none := Array.getElem?_eq_none hl
    simp [World.cell?, this] at hc1
theorem own_ne {g g' n n' : Nat} (h : g ≠ g') : blk (some ⟨g, 0, none⟩) n = none ∨ blk (some ⟨g', 0, none⟩) n' = none ∨ blk (some ⟨g, 0, none⟩) n ≠ blk (some ⟨g', 0, none⟩) n' := by
  cases e1 : blk (some ⟨g, 0, none⟩) n with
  | none => exact .inl rfl
  | some k =>
    cases e2 : blk (some ⟨g', 0, none⟩) n' with
    | none => exact .inr (.inl rfl)
    | some k' => exact .inr (.inr (fun e => h (by have h1 := blk_is e1; have h2 := blk_is e2; injection e with e; omega)))
set_option maxRecDepth 100000 in
set_option maxHeartbeats 16000000 in
theorem walk (a : Option Addr) (ss : List ByteArray) (c : Nat) (a' : Option Addr) (ws : List (Int × ByteArray)) (c' : Nat) (n : Int) (w : World) (h : Strs w a ss) (h' : Wrs w a' ws)
    (hl : ss.length ≤ maxLen) (hs : ∀ s ∈ ss, s.size ≤ maxLen) (hl' : ws.length ≤ maxLen) (hs' : ∀ s ∈ ws, s.2.size ≤ maxLen) (hL : laidMetH Tryz.prog Rows.fnExactOpenRow.laid w) :
    Calls Tryz.prog 3 #[diskV a ss.length c a' ws.length c', .int .i64 n] w fun e w' => e = .returned (.bool true) ∧ Below w.heap.size w w' := by
  obtain ⟨hg0, ⟨ty, gv, hgv⟩, hgl⟩ := of_laid hL
  clear hL
  have hb0 : ∀ o, Below w.heap.size w (w.alloc o) := fun o => (Below.refl _ _).alloc (Nat.le_refl _) _
  obtain ⟨R1, HR⟩ : ∃ R1, Hid (R1 = szL (szs ss ws) 1048576) := ⟨_, hid rfl⟩
  have HSZ := hid (fun w' k1 k2 => sz_disk a ss c a' ws c' w' k1 k2 hl hs hl' hs')
  rw [← HR.out] at HSZ
  by_cases hR : R1 < 0
  · go_enter Tryz.func3, Tryz.ntmps3
    go_wp2_with (go_at_call 9; refine (HSZ.out _ (h.below (hb0 _)) (h'.below (hb0 _))).mono ?_; rintro e w1 ⟨rfl, hb1⟩)
    go_ret
    exact ⟨rfl, (hb0 _).trans (hb1.mono (by simp))⟩
  have hmem := szL_mem (szs ss ws) 1048576 (by omega) (by rw [← HR.out]; omega)
  have m1 : ss.length ≤ 1048576 := by have := hmem ss.length (by simp [szs]); omega
  have m2 : ws.length ≤ 1048576 := by have := hmem ws.length (by simp [szs]); omega
  have M3 : Hid (∀ s ∈ ss, s.size ≤ 1048576) := fun s hs => by
    have := hmem s.size (by simp only [szs, List.mem_append, List.mem_cons, List.mem_map]; exact .inl (.inr ⟨s, hs, rfl⟩)); omega
  have M4 : Hid (∀ x ∈ ws, x.2.size ≤ 1048576) := fun x hx => by
    have := hmem x.2.size (by simp only [szs, List.mem_append, List.mem_cons, List.mem_map]; exact .inr (.inr ⟨x, hx, rfl⟩)); omega
  have hRn : ¬ R1 < 0 := hR
  have HTO := hid (fun w' k1 k2 => to_disk a ss c a' ws c' w' k1 k2 m1 m2)
  obtain ⟨D, HD⟩ : ∃ D, Hid (D = openD ss ws n) := ⟨_, hid rfl⟩
  have hdb := openD_bound ss ws n
  have HSP := hid (fun g1 g2 w' k1 k2 => open_s (some ⟨g1, 0, none⟩) ss ss.length (some ⟨g2, 0, none⟩) ws ws.length n w' k1 k2 m1 m2 M3.out M4.out)
  have HIM := hid (fun g1 g2 w' k1 k2 (hb : Below w.heap.size w w') => open_i (some ⟨g1, 0, none⟩) ss ss.length (some ⟨g2, 0, none⟩) ws ws.length n w' k1 k2 m1 m2 M3.out M4.out ty gv ((hb.cell (p := ⟨1, 0, none⟩) hgl).trans hgv) ((hb.cell (p := ⟨0, 0, none⟩) (by show 0 < _; omega)).trans hg0) (by have := hb.size; omega))
  rw [← HD.out] at HSP HIM hdb
  have HEQ := hid (fun a1 c1 b1 e1 a2 c2 b2 e2 w' h1 h2 h3 h4 => eq_done D a1 c1 b1 e1 a2 c2 b2 e2 w' h1 h2 h3 h4 hdb.1 (by omega))
  have HMG := hid (fun a1 c1 b1 e1 w' h1 => mark_done D a1 c1 b1 e1 1 w' h1 (by omega) (by omega))
  have HHD := hid (fun a1 c1 b1 e1 w' h1 h2 => held_done D a1 c1 b1 e1 1 w' h1 h2 (by omega) (by omega))
  have HEX := hid (fun a1 b1 c1 d1 a2 b2 c2 d2 w' k1 k2 k3 k4 => eq_disk a1 b1 ss c1 d1 a2 b2 ws c2 d2 w' k1 k2 k3 k4 m1 m2)
  have HMX := hid (fun a1 c1 a2 c2 w' k1 => mark_disk a1 ss c1 a2 ws c2 1 w' k1 (by omega) (by omega))
  clear HD
  obtain ⟨C0, W0, S0, L0, T0, H0, F0, R0, U0, O0, ds, os⟩ := D
  have HMD := HMG
  unfold dnV at HEQ HMD HHD
  unfold DnPost dnV at HSP HIM
  simp only at HEQ HMD HHD HSP HIM hdb
  have hk0 : (0 : Int) ≤ ((1 + ss.length + 2 * ws.length : Nat) : Int) := by omega
  have hk2 : (0 : Int) ≤ ((1 + 2 * ds.length + 3 * os.length : Nat) : Int) := by omega
  obtain ⟨k1, HK1⟩ : ∃ k1 : Nat, Hid (k1 = 1 + ss.length + 2 * ws.length) := ⟨_, hid rfl⟩
  obtain ⟨k3, HK3⟩ : ∃ k3 : Nat, Hid (k3 = 1 + 2 * ds.length + 3 * os.length) := ⟨_, hid rfl⟩
  rw [← HK1.out] at HMX hk0
  rw [← HK3.out] at HMD HHD hk2
  clear hmem hR hl hs hl' hs' hgv hg0 HMG
  go_enter Tryz.func3, Tryz.ntmps3
  go_wp2_with fail
  have hE : Below w.heap.size w w := Below.refl _ _
  obtain ⟨v1, e_v1⟩ : ∃ xw, xw = w.alloc (.cells #[.slice a ss.length c, .slice a' ws.length c'] 25) := ⟨_, rfl⟩
  have hb : Below w.heap.size w v1 := by rw [e_v1]; exact (Below.refl _ _).alloc (Nat.le_refl _) _
  have bA : Dep v1 w.heap.size (w.heap.size + 1) (fun Wd => Row Wd w.heap.size [.slice a ss.length c, .slice a' ws.length c']) := by rw [e_v1]; exact dep_box _ _ _
  have s_v1 : w.heap.size + 1 ≤ v1.heap.size := by rw [e_v1]; simp
  rw [← e_v1]
  clear e_v1
  have n_hE := hE.trans (hb.mono hE.size)
  clear hE
  have hE := n_hE
  clear n_hE
  clear hb
  refine (HSZ.out _ (h.below hE) (h'.below hE)).mono ?_
  rintro e v2 ⟨rfl, hb⟩
  have s_v2 : v1.heap.size ≤ v2.heap.size := hb.size
  have n_bA := bA.below hb
  clear bA
  have bA := n_bA
  clear n_bA
  have n_hE := hE.trans (hb.mono hE.size)
  clear hE
  have hE := n_hE
  clear n_hE
  clear hb
  have q_bA_0 := bA.now.cell 0 _ rfl
  have q_bA_1 := bA.now.cell 1 _ rfl
  have q_bA_l := bA.now.lt
  go_wp2_with fail
  clear q_bA_0 q_bA_1 q_bA_l
  refine (HTO.out _ (h.below hE) (h'.below hE)).mono ?_
  rintro e v3 ⟨g_t1, p_t1, rfl, hg_t1, hp_t1, hn_t1, hr_t1, hq_t1, hb⟩
  have s_v3 : v2.heap.size ≤ v3.heap.size := hb.size
  have n_bA := bA.below hb
  clear bA
  have bA := n_bA
  clear n_bA
  have n_hE := hE.trans (hb.mono hE.size)
  clear hE
  have hE := n_hE
  clear n_hE
  have t1s : Dep v3 v2.heap.size v3.heap.size (fun W => Row W g_t1 (ss.map Value.string)) := dep_row hr_t1 hg_t1 hr_t1.lt (Nat.le_refl _)
  have t1p : Dep v3 v2.heap.size v3.heap.size (fun W => Row W p_t1 (wcells ws)) := dep_row hq_t1 hp_t1 hq_t1.lt (Nat.le_refl _)
  have gl_t1 := hr_t1.lt
  have pl_t1 := hq_t1.lt
  clear hr_t1 hq_t1
  clear hb
  go_wp2_with fail
  refine (HSP.out _ _ _ t1s.now.strs t1p.now.wrs).mono ?_
  rintro e v4 ⟨a_zd, c_zd, b_zd, e_zd, rfl, hc_zd, ho, hg, hg2, hb⟩
  have s_v4 : v3.heap.size ≤ v4.heap.size := hb.size
  have n_bA := bA.below hb
  clear bA
  have bA := n_bA
  clear n_bA
  have n_t1s := t1s.below hb
  clear t1s
  have t1s := n_t1s
  clear n_t1s
  have n_t1p := t1p.below hb
  clear t1p
  have t1p := n_t1p
  clear n_t1p
  have n_hE := hE.trans (hb.mono hE.size)
  clear hE
  have hE := n_hE
  clear n_hE
  have zds : Dep v4 v3.heap.size v4.heap.size (fun Wd => OwnS Wd a_zd (prcells ds)) := dep_own ho.s ne_of_prcells hg
  have zdo : Dep v4 v3.heap.size v4.heap.size (fun Wd => OwnS Wd b_zd (opcells os)) := dep_own ho.p ne_of_opcells hg2
  have ne_zd := ho.ne
  have lo_zd : ∀ g, blk a_zd ds.length = some g → v3.heap.size ≤ g ∧ g < v4.heap.size := fun g hg' => ⟨hg g hg', ho.s.lt _ prcells_ne g hg'⟩
  have lp_zd : ∀ g, blk b_zd os.length = some g → v3.heap.size ≤ g ∧ g < v4.heap.size := fun g hg' => ⟨hg2 g hg', ho.p.lt _ opcells_ne g hg'⟩
  clear ho hg hg2
  clear hb
  clear t1s
  clear t1p
  have q_bA_0 := bA.now.cell 0 _ rfl
  have q_bA_1 := bA.now.cell 1 _ rfl
  have q_bA_l := bA.now.lt
  go_wp2_with fail
  clear q_bA_0 q_bA_1 q_bA_l
  obtain ⟨v5, e_v5⟩ : ∃ xw, xw = v4.alloc (.cells #[.int .i64 C0, .int .i64 W0, .int .i64 S0, .int .i64 L0, .int .i64 T0, .int .i64 H0, .int .i64 F0, .int .i64 R0, .int .i64 U0, .int .i64 O0, .slice a_zd ds.length c_zd, .slice b_zd os.length e_zd] 36) := ⟨_, rfl⟩
  have hb : Below v4.heap.size v4 v5 := by rw [e_v5]; exact (Below.refl _ _).alloc (Nat.le_refl _) _
  have bZ : Dep v5 v4.heap.size (v4.heap.size + 1) (fun Wd => Row Wd v4.heap.size [.int .i64 C0, .int .i64 W0, .int .i64 S0, .int .i64 L0, .int .i64 T0, .int .i64 H0, .int .i64 F0, .int .i64 R0, .int .i64 U0, .int .i64 O0, .slice a_zd ds.length c_zd, .slice b_zd os.length e_zd]) := by rw [e_v5]; exact dep_box _ _ _
  have s_v5 : v4.heap.size + 1 ≤ v5.heap.size := by rw [e_v5]; simp
  rw [← e_v5]
  clear e_v5
  have n_bA := bA.below hb
  clear bA
  have bA := n_bA
  clear n_bA
  have n_zds := zds.below hb
  clear zds
  have zds := n_zds
  clear n_zds
  have n_zdo := zdo.below hb
  clear zdo
  have zdo := n_zdo
  clear n_zdo
  have n_hE := hE.trans (hb.mono hE.size)
  clear hE
  have hE := n_hE
  clear n_hE
  clear hb
  refine (HTO.out _ (h.below hE) (h'.below hE)).mono ?_
  rintro e v6 ⟨g_xd, p_xd, rfl, hg_xd, hp_xd, hn_xd, hr_xd, hq_xd, hb⟩
  have s_v6 : v5.heap.size ≤ v6.heap.size := hb.size
  have n_bA := bA.below hb
  clear bA
  have bA := n_bA
  clear n_bA
  have n_zds := zds.below hb
  clear zds
  have zds := n_zds
  clear n_zds
  have n_zdo := zdo.below hb
  clear zdo
  have zdo := n_zdo
  clear n_zdo
  have n_bZ := bZ.below hb
  clear bZ
  have bZ := n_bZ
  clear n_bZ
  have n_hE := hE.trans (hb.mono hE.size)
  clear hE
  have hE := n_hE
  clear n_hE
  have xds : Dep v6 v5.heap.size v6.heap.size (fun W => Row W g_xd (ss.map Value.string)) := dep_row hr_xd hg_xd hr_xd.lt (Nat.le_refl _)
  have xdp : Dep v6 v5.heap.size v6.heap.size (fun W => Row W p_xd (wcells ws)) := dep_row hq_xd hp_xd hq_xd.lt (Nat.le_refl _)
  have gl_xd := hr_xd.lt
  have pl_xd := hq_xd.lt
  clear hr_xd hq_xd
  clear hb
  go_wp2_with fail
  obtain ⟨v7, e_v7⟩ : ∃ xw, xw = v6.alloc (.cells #[.slice (some ⟨g_xd, 0, none⟩) ss.length ss.length, .slice (some ⟨p_xd, 0, none⟩) ws.length ws.length] 40) := ⟨_, rfl⟩
  have hb : Below v6.heap.size v6 v7 := by rw [e_v7]; exact (Below.refl _ _).alloc (Nat.le_refl _) _
  have bX : Dep v7 v6.heap.size (v6.heap.size + 1) (fun Wd => Row Wd v6.heap.size [.slice (some ⟨g_xd, 0, none⟩) ss.length ss.length, .slice (some ⟨p_xd, 0, none⟩) ws.length ws.length]) := by rw [e_v7]; exact dep_box _ _ _
  have s_v7 : v6.heap.size + 1 ≤ v7.heap.size := by rw [e_v7]; simp
  rw [← e_v7]
  clear e_v7
  have n_bA := bA.below hb
  clear bA
  have bA := n_bA
  clear n_bA
  have n_zds := zds.below hb
  clear zds
  have zds := n_zds
  clear n_zds
  have n_zdo := zdo.below hb
  clear zdo
  have zdo := n_zdo
  clear n_zdo
  have n_bZ := bZ.below hb
  clear bZ
  have bZ := n_bZ
  clear n_bZ
  have n_xds := xds.below hb
  clear xds
  have xds := n_xds
  clear n_xds
  have n_xdp := xdp.below hb
  clear xdp
  have xdp := n_xdp
  clear n_xdp
  have n_hE := hE.trans (hb.mono hE.size)
  clear hE
  have hE := n_hE
  clear n_hE
  clear hb
  have q_bX_0 := bX.now.cell 0 _ rfl
  have q_bX_1 := bX.now.cell 1 _ rfl
  have q_bX_l := bX.now.lt
  go_wp2_with fail
  clear q_bX_0 q_bX_1 q_bX_l
  refine (HIM.out _ _ _ xds.now.strs xdp.now.wrs hE).mono ?_
  rintro e v8 ⟨a_gd, c_gd, b_gd, e_gd, rfl, hc_gd, ho, hg, hg2, hb⟩
  have s_v8 : v7.heap.size ≤ v8.heap.size := hb.size
  have n_bA := bA.below hb
  clear bA
  have bA := n_bA
  clear n_bA
  have n_zds := zds.below hb
  clear zds
  have zds := n_zds
  clear n_zds
  have n_zdo := zdo.below hb
  clear zdo
  have zdo := n_zdo
  clear n_zdo
  have n_bZ := bZ.below hb
  clear bZ
  have bZ := n_bZ
  clear n_bZ
  have n_xds := xds.below hb
  clear xds
  have xds := n_xds
  clear n_xds
  have n_xdp := xdp.below hb
  clear xdp
  have xdp := n_xdp
  clear n_xdp
  have n_bX := bX.below hb
  clear bX
  have bX := n_bX
  clear n_bX
  have n_hE := hE.trans (hb.mono hE.size)
  clear hE
  have hE := n_hE
  clear n_hE
  have gds : Dep v8 v7.heap.size v8.heap.size (fun Wd => OwnS Wd a_gd (prcells ds)) := dep_own ho.s ne_of_prcells hg
  have gdo : Dep v8 v7.heap.size v8.heap.size (fun Wd => OwnS Wd b_gd (opcells os)) := dep_own ho.p ne_of_opcells hg2
  have ne_gd := ho.ne
  have lo_gd : ∀ g, blk a_gd ds.length = some g → v7.heap.size ≤ g ∧ g < v8.heap.size := fun g hg' => ⟨hg g hg', ho.s.lt _ prcells_ne g hg'⟩
  have lp_gd : ∀ g, blk b_gd os.length = some g → v7.heap.size ≤ g ∧ g < v8.heap.size := fun g hg' => ⟨hg2 g hg', ho.p.lt _ opcells_ne g hg'⟩
  clear ho hg hg2
  clear hb
  have q_bZ_0 := bZ.now.cell 0 _ rfl
  have q_bZ_1 := bZ.now.cell 1 _ rfl
  have q_bZ_2 := bZ.now.cell 2 _ rfl
  have q_bZ_3 := bZ.now.cell 3 _ rfl
  have q_bZ_4 := bZ.now.cell 4 _ rfl
  have q_bZ_5 := bZ.now.cell 5 _ rfl
  have q_bZ_6 := bZ.now.cell 6 _ rfl
  have q_bZ_7 := bZ.now.cell 7 _ rfl
  have q_bZ_8 := bZ.now.cell 8 _ rfl
  have q_bZ_9 := bZ.now.cell 9 _ rfl
  have q_bZ_10 := bZ.now.cell 10 _ rfl
  have q_bZ_11 := bZ.now.cell 11 _ rfl
  have q_bZ_l := bZ.now.lt
  go_wp2_with fail
  clear q_bZ_0 q_bZ_1 q_bZ_2 q_bZ_3 q_bZ_4 q_bZ_5 q_bZ_6 q_bZ_7 q_bZ_8 q_bZ_9 q_bZ_10 q_bZ_11 q_bZ_l
  obtain ⟨v9, e_v9⟩ : ∃ xw, xw = v8.alloc (.cells #[.int .i64 C0, .int .i64 W0, .int .i64 S0, .int .i64 L0, .int .i64 T0, .int .i64 H0, .int .i64 F0, .int .i64 R0, .int .i64 U0, .int .i64 O0, .slice a_gd ds.length c_gd, .slice b_gd os.length e_gd] 36) := ⟨_, rfl⟩
  have hb : Below v8.heap.size v8 v9 := by rw [e_v9]; exact (Below.refl _ _).alloc (Nat.le_refl _) _
  have bG : Dep v9 v8.heap.size (v8.heap.size + 1) (fun Wd => Row Wd v8.heap.size [.int .i64 C0, .int .i64 W0, .int .i64 S0, .int .i64 L0, .int .i64 T0, .int .i64 H0, .int .i64 F0, .int .i64 R0, .int .i64 U0, .int .i64 O0, .slice a_gd ds.length c_gd, .slice b_gd os.length e_gd]) := by rw [e_v9]; exact dep_box _ _ _
  have s_v9 : v8.heap.size + 1 ≤ v9.heap.size := by rw [e_v9]; simp
  rw [← e_v9]
  clear e_v9
  have n_bA := bA.below hb
  clear bA
  have bA := n_bA
  clear n_bA
  have n_zds := zds.below hb
  clear zds
  have zds := n_zds
  clear n_zds
  have n_zdo := zdo.below hb
  clear zdo
  have zdo := n_zdo
  clear n_zdo
  have n_bZ := bZ.below hb
  clear bZ
  have bZ := n_bZ
  clear n_bZ
  have n_xds := xds.below hb
  clear xds
  have xds := n_xds
  clear n_xds
  have n_xdp := xdp.below hb
  clear xdp
  have xdp := n_xdp
  clear n_xdp
  have n_bX := bX.below hb
  clear bX
  have bX := n_bX
  clear n_bX
  have n_gds := gds.below hb
  clear gds
  have gds := n_gds
  clear n_gds
  have n_gdo := gdo.below hb
  clear gdo
  have gdo := n_gdo
  clear n_gdo
  have n_hE := hE.trans (hb.mono hE.size)
  clear hE
  have hE := n_hE
  clear n_hE
  clear hb
  refine (HEQ.out _ _ _ _ _ _ _ _ _ gds.now.prs gdo.now.ops zds.now.prs zdo.now.ops).mono ?_
  rintro e v10 ⟨rfl, hb⟩
  have s_v10 : v9.heap.size ≤ v10.heap.size := hb.size
  have n_bA := bA.below hb
  clear bA
  have bA := n_bA
  clear n_bA
  have n_zds := zds.below hb
  clear zds
  have zds := n_zds
  clear n_zds
  have n_zdo := zdo.below hb
  clear zdo
  have zdo := n_zdo
  clear n_zdo
  have n_bZ := bZ.below hb
  clear bZ
  have bZ := n_bZ
  clear n_bZ
  have n_xds := xds.below hb
  clear xds
  have xds := n_xds
  clear n_xds
  have n_xdp := xdp.below hb
  clear xdp
  have xdp := n_xdp
  clear n_xdp
  have n_bX := bX.below hb
  clear bX
  have bX := n_bX
  clear n_bX
  have n_gds := gds.below hb
  clear gds
  have gds := n_gds
  clear n_gds
  have n_gdo := gdo.below hb
  clear gdo
  have gdo := n_gdo
  clear n_gdo
  have n_bG := bG.below hb
  clear bG
  have bG := n_bG
  clear n_bG
  have n_hE := hE.trans (hb.mono hE.size)
  clear hE
  have hE := n_hE
  clear n_hE
  clear hb
  have q_bA_0 := bA.now.cell 0 _ rfl
  have q_bA_1 := bA.now.cell 1 _ rfl
  have q_bA_l := bA.now.lt
  have q_bX_0 := bX.now.cell 0 _ rfl
  have q_bX_1 := bX.now.cell 1 _ rfl
  have q_bX_l := bX.now.lt
  go_wp2_with fail
  clear q_bA_0 q_bA_1 q_bA_l q_bX_0 q_bX_1 q_bX_l
  have HK : Hid (∀ W, Below v10.heap.size v10 W → W.cell? ⟨w.heap.size, 0, none⟩ = some (.slice a ss.length c) ∧ W.cell? ⟨w.heap.size, 1, none⟩ = some (.slice a' ws.length c') ∧ W.cell? ⟨v6.heap.size, 0, none⟩ = some (.slice (some ⟨g_xd, 0, none⟩) ss.length ss.length) ∧ W.cell? ⟨v6.heap.size, 1, none⟩ = some (.slice (some ⟨p_xd, 0, none⟩) ws.length ws.length)) := fun W hb => ⟨(bA.below hb).now.cell 0 _ rfl, (bA.below hb).now.cell 1 _ rfl, (bX.below hb).now.cell 0 _ rfl, (bX.below hb).now.cell 1 _ rfl⟩
  refine wp_region_held_drew (S := fun w' => w'.cell? ⟨w.heap.size, 0, none⟩ = some (.slice a ss.length c) ∧ w'.cell? ⟨w.heap.size, 1, none⟩ = some (.slice a' ws.length c') ∧ w'.cell? ⟨v6.heap.size, 0, none⟩ = some (.slice (some ⟨g_xd, 0, none⟩) ss.length ss.length) ∧ w'.cell? ⟨v6.heap.size, 1, none⟩ = some (.slice (some ⟨p_xd, 0, none⟩) ws.length ws.length)) (by kernel_rfl) (HK.out _ (Below.refl _ _).drew) (fun hHeld => ?_)
  refine TK (i := 0) (v := .agg #[.slice (some ⟨g_xd, 0, none⟩) ss.length ss.length, .slice (some ⟨p_xd, 0, none⟩) ws.length ws.length]) rfl (Or.inl ⟨by rfl, fun w hw => by obtain ⟨z0, z1, z2, z3⟩ := hw; go_simp⟩) hHeld ?_
  simp only [PS]
  refine TK (i := 1) (v := .agg #[.slice a ss.length c, .slice a' ws.length c']) rfl (Or.inl ⟨by rfl, fun w hw => by obtain ⟨z0, z1, z2, z3⟩ := hw; go_simp⟩) hHeld ?_
  simp only [PS]
  refine wpAnyH_ready (rs := [2]) (by kernel_rfl) (by simp) ?_
  refine AllReadyH.cons rfl (fun K hK => ?_) AllReadyH.nil
  refine step_call (by rfl) 11 #[.agg #[.slice a ss.length c, .slice a' ws.length c']] (by go_simp) (HTO.out _ ((h.below hE).below (Below.refl _ _).drew) ((h'.below hE).below (Below.refl _ _).drew)) ?_
  rintro e u1 ⟨g_u, p_u, rfl, _, _, _, hr_u, hq_u, hb_u⟩
  refine ⟨_, rfl, ?_⟩
  have hb_u' : Below v10.heap.size v10 u1 := (Below.refl _ _).drew.trans hb_u
  refine hK.out _ _ (HK.out _ hb_u') (fun hHd1 => ?_)
  clear hK K
  try simp only [PS]
  refine wpAnyH_ready (rs := [3]) (by kernel_rfl) (by simp) ?_
  refine AllReadyH.cons rfl (fun K hK => ?_) AllReadyH.nil
  refine step_call (by rfl) 14 #[.agg #[.slice (some ⟨g_xd, 0, none⟩) ss.length ss.length, .slice (some ⟨p_xd, 0, none⟩) ws.length ws.length], .agg #[.slice (some ⟨g_u, 0, none⟩) ss.length ss.length, .slice (some ⟨p_u, 0, none⟩) ws.length ws.length]] (by go_simp) (HEX.out _ _ _ _ _ _ _ _ _ (xds.below hb_u').now.strs hr_u.strs (xdp.below hb_u').now.wrs hq_u.wrs) ?_
  rintro e u2 ⟨rfl, hb_v⟩
  refine ⟨_, rfl, ?_⟩
  have hb_v' := hb_u'.trans (hb_v.mono hb_u'.size)
  refine hK.out _ _ (HK.out _ hb_v') (fun hHd2 => ?_)
  clear hK K
  try simp only [PS]
  refine TK (i := 4) (v := .bool false) rfl (Or.inl ⟨by rfl, fun w hw => by obtain ⟨z0, z1, z2, z3⟩ := hw; go_simp⟩) hHd2 ?_
  simp only [PS]
  refine wpAnyH_done (by kernel_rfl) ?_ _
  have hb := hb_v'
  clear HK hb_u hb_u' hr_u hq_u hb_v hb_v' hHeld hHd1 hHd2
  have s_u2 : v10.heap.size ≤ u2.heap.size := hb.size
  have n_bA := bA.below hb
  clear bA
  have bA := n_bA
  clear n_bA
  have n_zds := zds.below hb
  clear zds
  have zds := n_zds
  clear n_zds
  have n_zdo := zdo.below hb
  clear zdo
  have zdo := n_zdo
  clear n_zdo
  have n_bZ := bZ.below hb
  clear bZ
  have bZ := n_bZ
  clear n_bZ
  have n_xds := xds.below hb
  clear xds
  have xds := n_xds
  clear n_xds
  have n_xdp := xdp.below hb
  clear xdp
  have xdp := n_xdp
  clear n_xdp
  have n_bX := bX.below hb
  clear bX
  have bX := n_bX
  clear n_bX
  have n_gds := gds.below hb
  clear gds
  have gds := n_gds
  clear n_gds
  have n_gdo := gdo.below hb
  clear gdo
  have gdo := n_gdo
  clear n_gdo
  have n_bG := bG.below hb
  clear bG
  have bG := n_bG
  clear n_bG
  have n_hE := hE.trans (hb.mono hE.size)
  clear hE
  have hE := n_hE
  clear n_hE
  clear hb
  have q_bX_0 := bX.now.cell 0 _ rfl
  have q_bX_1 := bX.now.cell 1 _ rfl
  have q_bX_l := bX.now.lt
  go_wp2_with fail
  clear q_bX_0 q_bX_1 q_bX_l
  have k_xds := xds.now
  clear xds
  have k_xdp := xdp.now
  clear xdp
  refine (HMX.out _ _ _ _ _ ⟨.inr ⟨g_xd, rfl, k_xds⟩, .inr ⟨p_xd, rfl, k_xdp⟩, own_ne hn_xd⟩).mono ?_
  rintro e v11 ⟨rfl, ⟨wa, wb, ma, mb, mc⟩, hd⟩
  have s_v11 : u2.heap.size ≤ v11.heap.size := Nat.le_trans ma.size (Nat.le_trans mb.size mc.size)
  have hgs : ∀ g, blk (some ⟨g_xd, 0, none⟩) ss.length = some g → v5.heap.size ≤ g ∧ g < v6.heap.size := fun g hg => by have := blk_is hg; rw [this]; exact ⟨hg_xd, gl_xd⟩
  have hgp : ∀ g, blk (some ⟨p_xd, 0, none⟩) ws.length = some g → v5.heap.size ≤ g ∧ g < v6.heap.size := fun g hg => by have := blk_is hg; rw [this]; exact ⟨hp_xd, pl_xd⟩
  have n_bA := bA.below ma
  clear bA
  have bA := n_bA
  clear n_bA
  have n_zds := zds.below ma
  clear zds
  have zds := n_zds
  clear n_zds
  have n_zdo := zdo.below ma
  clear zdo
  have zdo := n_zdo
  clear n_zdo
  have n_bZ := bZ.below ma
  clear bZ
  have bZ := n_bZ
  clear n_bZ
  have n_bX := bX.below ma
  clear bX
  have bX := n_bX
  clear n_bX
  have n_gds := gds.below ma
  clear gds
  have gds := n_gds
  clear n_gds
  have n_gdo := gdo.below ma
  clear gdo
  have gdo := n_gdo
  clear n_gdo
  have n_bG := bG.below ma
  clear bG
  have bG := n_bG
  clear n_bG
  have n_hE := hE.trans (ma.mono hE.size)
  clear hE
  have hE := n_hE
  clear n_hE
  have n_bA := bA.grown mb (fun g hg => by have := hgs g hg; omega)
  clear bA
  have bA := n_bA
  clear n_bA
  have n_zds := zds.grown mb (fun g hg => by have := hgs g hg; omega)
  clear zds
  have zds := n_zds
  clear n_zds
  have n_zdo := zdo.grown mb (fun g hg => by have := hgs g hg; omega)
  clear zdo
  have zdo := n_zdo
  clear n_zdo
  have n_bZ := bZ.grown mb (fun g hg => by have := hgs g hg; omega)
  clear bZ
  have bZ := n_bZ
  clear n_bZ
  have n_bX := bX.grown mb (fun g hg => by have := hgs g hg; omega)
  clear bX
  have bX := n_bX
  clear n_bX
  have n_gds := gds.grown mb (fun g hg => by have := hgs g hg; omega)
  clear gds
  have gds := n_gds
  clear n_gds
  have n_gdo := gdo.grown mb (fun g hg => by have := hgs g hg; omega)
  clear gdo
  have gdo := n_gdo
  clear n_gdo
  have n_bG := bG.grown mb (fun g hg => by have := hgs g hg; omega)
  clear bG
  have bG := n_bG
  clear n_bG
  have n_hE := hE.trans (grown_below mb hE.size (fun g hg => by have := hgs g hg; omega))
  clear hE
  have hE := n_hE
  clear n_hE
  have n_bA := bA.grown mc (fun g hg => by have := hgp g hg; omega)
  clear bA
  have bA := n_bA
  clear n_bA
  have n_zds := zds.grown mc (fun g hg => by have := hgp g hg; omega)
  clear zds
  have zds := n_zds
  clear n_zds
  have n_zdo := zdo.grown mc (fun g hg => by have := hgp g hg; omega)
  clear zdo
  have zdo := n_zdo
  clear n_zdo
  have n_bZ := bZ.grown mc (fun g hg => by have := hgp g hg; omega)
  clear bZ
  have bZ := n_bZ
  clear n_bZ
  have n_bX := bX.grown mc (fun g hg => by have := hgp g hg; omega)
  clear bX
  have bX := n_bX
  clear n_bX
  have n_gds := gds.grown mc (fun g hg => by have := hgp g hg; omega)
  clear gds
  have gds := n_gds
  clear n_gds
  have n_gdo := gdo.grown mc (fun g hg => by have := hgp g hg; omega)
  clear gdo
  have gdo := n_gdo
  clear n_gdo
  have n_bG := bG.grown mc (fun g hg => by have := hgp g hg; omega)
  clear bG
  have bG := n_bG
  clear n_bG
  have n_hE := hE.trans (grown_below mc hE.size (fun g hg => by have := hgp g hg; omega))
  clear hE
  have hE := n_hE
  clear n_hE
  clear ma mb mc hd hgs hgp k_xds k_xdp
  have q_bG_0 := bG.now.cell 0 _ rfl
  have q_bG_1 := bG.now.cell 1 _ rfl
  have q_bG_2 := bG.now.cell 2 _ rfl
  have q_bG_3 := bG.now.cell 3 _ rfl
  have q_bG_4 := bG.now.cell 4 _ rfl
  have q_bG_5 := bG.now.cell 5 _ rfl
  have q_bG_6 := bG.now.cell 6 _ rfl
  have q_bG_7 := bG.now.cell 7 _ rfl
  have q_bG_8 := bG.now.cell 8 _ rfl
  have q_bG_9 := bG.now.cell 9 _ rfl
  have q_bG_10 := bG.now.cell 10 _ rfl
  have q_bG_11 := bG.now.cell 11 _ rfl
  have q_bG_l := bG.now.lt
  have q_bZ_0 := bZ.now.cell 0 _ rfl
  have q_bZ_1 := bZ.now.cell 1 _ rfl
  have q_bZ_2 := bZ.now.cell 2 _ rfl
  have q_bZ_3 := bZ.now.cell 3 _ rfl
  have q_bZ_4 := bZ.now.cell 4 _ rfl
  have q_bZ_5 := bZ.now.cell 5 _ rfl
  have q_bZ_6 := bZ.now.cell 6 _ rfl
  have q_bZ_7 := bZ.now.cell 7 _ rfl
  have q_bZ_8 := bZ.now.cell 8 _ rfl
  have q_bZ_9 := bZ.now.cell 9 _ rfl
  have q_bZ_10 := bZ.now.cell 10 _ rfl
  have q_bZ_11 := bZ.now.cell 11 _ rfl
  have q_bZ_l := bZ.now.lt
  go_wp2_with fail
  clear q_bG_0 q_bG_1 q_bG_2 q_bG_3 q_bG_4 q_bG_5 q_bG_6 q_bG_7 q_bG_8 q_bG_9 q_bG_10 q_bG_11 q_bG_l q_bZ_0 q_bZ_1 q_bZ_2 q_bZ_3 q_bZ_4 q_bZ_5 q_bZ_6 q_bZ_7 q_bZ_8 q_bZ_9 q_bZ_10 q_bZ_11 q_bZ_l
  refine (HEQ.out _ _ _ _ _ _ _ _ _ gds.now.prs gdo.now.ops zds.now.prs zdo.now.ops).mono ?_
  rintro e v12 ⟨rfl, hb⟩
  have s_v12 : v11.heap.size ≤ v12.heap.size := hb.size
  have n_bA := bA.below hb
  clear bA
  have bA := n_bA
  clear n_bA
  have n_zds := zds.below hb
  clear zds
  have zds := n_zds
  clear n_zds
  have n_zdo := zdo.below hb
  clear zdo
  have zdo := n_zdo
  clear n_zdo
  have n_bZ := bZ.below hb
  clear bZ
  have bZ := n_bZ
  clear n_bZ
  have n_bX := bX.below hb
  clear bX
  have bX := n_bX
  clear n_bX
  have n_gds := gds.below hb
  clear gds
  have gds := n_gds
  clear n_gds
  have n_gdo := gdo.below hb
  clear gdo
  have gdo := n_gdo
  clear n_gdo
  have n_bG := bG.below hb
  clear bG
  have bG := n_bG
  clear n_bG
  have n_hE := hE.trans (hb.mono hE.size)
  clear hE
  have hE := n_hE
  clear n_hE
  clear hb
  have q_bG_0 := bG.now.cell 0 _ rfl
  have q_bG_1 := bG.now.cell 1 _ rfl
  have q_bG_2 := bG.now.cell 2 _ rfl
  have q_bG_3 := bG.now.cell 3 _ rfl
  have q_bG_4 := bG.now.cell 4 _ rfl
  have q_bG_5 := bG.now.cell 5 _ rfl
  have q_bG_6 := bG.now.cell 6 _ rfl
  have q_bG_7 := bG.now.cell 7 _ rfl
  have q_bG_8 := bG.now.cell 8 _ rfl
  have q_bG_9 := bG.now.cell 9 _ rfl
  have q_bG_10 := bG.now.cell 10 _ rfl
  have q_bG_11 := bG.now.cell 11 _ rfl
  have q_bG_l := bG.now.lt
  go_wp2_with fail
  clear q_bG_0 q_bG_1 q_bG_2 q_bG_3 q_bG_4 q_bG_5 q_bG_6 q_bG_7 q_bG_8 q_bG_9 q_bG_10 q_bG_11 q_bG_l
  refine (HMD.out _ _ _ _ _ ⟨gds.now, gdo.now, ne_gd⟩).mono ?_
  rintro e v13 ⟨rfl, ⟨y1, y2, hb, hg1, hg2⟩, how⟩
  have s_v13 : v12.heap.size ≤ v13.heap.size := Nat.le_trans hb.size (Nat.le_trans hg1.size hg2.size)
  clear gds gdo
  have n_bA := bA.below hb
  clear bA
  have bA := n_bA
  clear n_bA
  have n_zds := zds.below hb
  clear zds
  have zds := n_zds
  clear n_zds
  have n_zdo := zdo.below hb
  clear zdo
  have zdo := n_zdo
  clear n_zdo
  have n_bZ := bZ.below hb
  clear bZ
  have bZ := n_bZ
  clear n_bZ
  have n_bX := bX.below hb
  clear bX
  have bX := n_bX
  clear n_bX
  have n_bG := bG.below hb
  clear bG
  have bG := n_bG
  clear n_bG
  have n_hE := hE.trans (hb.mono hE.size)
  clear hE
  have hE := n_hE
  clear n_hE
  have n_bA := bA.grown hg1 (fun g hg => by have := lo_gd g hg; omega)
  clear bA
  have bA := n_bA
  clear n_bA
  have n_zds := zds.grown hg1 (fun g hg => by have := lo_gd g hg; omega)
  clear zds
  have zds := n_zds
  clear n_zds
  have n_zdo := zdo.grown hg1 (fun g hg => by have := lo_gd g hg; omega)
  clear zdo
  have zdo := n_zdo
  clear n_zdo
  have n_bZ := bZ.grown hg1 (fun g hg => by have := lo_gd g hg; omega)
  clear bZ
  have bZ := n_bZ
  clear n_bZ
  have n_bX := bX.grown hg1 (fun g hg => by have := lo_gd g hg; omega)
  clear bX
  have bX := n_bX
  clear n_bX
  have n_bG := bG.grown hg1 (fun g hg => by have := lo_gd g hg; omega)
  clear bG
  have bG := n_bG
  clear n_bG
  have n_hE := hE.trans (grown_below hg1 hE.size (fun g hg => by have := lo_gd g hg; omega))
  clear hE
  have hE := n_hE
  clear n_hE
  have n_bA := bA.grown hg2 (fun g hg => by have := lp_gd g hg; omega)
  clear bA
  have bA := n_bA
  clear n_bA
  have n_zds := zds.grown hg2 (fun g hg => by have := lp_gd g hg; omega)
  clear zds
  have zds := n_zds
  clear n_zds
  have n_zdo := zdo.grown hg2 (fun g hg => by have := lp_gd g hg; omega)
  clear zdo
  have zdo := n_zdo
  clear n_zdo
  have n_bZ := bZ.grown hg2 (fun g hg => by have := lp_gd g hg; omega)
  clear bZ
  have bZ := n_bZ
  clear n_bZ
  have n_bX := bX.grown hg2 (fun g hg => by have := lp_gd g hg; omega)
  clear bX
  have bX := n_bX
  clear n_bX
  have n_bG := bG.grown hg2 (fun g hg => by have := lp_gd g hg; omega)
  clear bG
  have bG := n_bG
  clear n_bG
  have n_hE := hE.trans (grown_below hg2 hE.size (fun g hg => by have := lp_gd g hg; omega))
  clear hE
  have hE := n_hE
  clear n_hE
  have gds : Dep v13 v7.heap.size v8.heap.size (fun Wd => OwnS Wd a_gd (prcells (prmarks 1 ds.length))) := (dep_own how.s (fun h => by have := ne_of_prcells h; rwa [prmarks_length] at this) (fun g hg => (lo_gd g hg).1)).cut (fun g h1 h2 => (lo_gd g (by subst h1; exact blk_pos _ _ _ (by have := ne_of_prcells h2; rwa [prmarks_length] at this))).2) (by omega) (fun g h1 h2 => (lo_gd g (by subst h1; exact blk_pos _ _ _ (by have := ne_of_prcells h2; rwa [prmarks_length] at this))).1)
  have gdo : Dep v13 v7.heap.size v8.heap.size (fun Wd => OwnS Wd b_gd (opcells (opmarks (1 + 2 * ds.length) os.length))) := (dep_own how.p (fun h => by have := ne_of_opcells h; rwa [opmarks_length] at this) (fun g hg => (lp_gd g hg).1)).cut (fun g h1 h2 => (lp_gd g (by subst h1; exact blk_pos _ _ _ (by have := ne_of_opcells h2; rwa [opmarks_length] at this))).2) (by omega) (fun g h1 h2 => (lp_gd g (by subst h1; exact blk_pos _ _ _ (by have := ne_of_opcells h2; rwa [opmarks_length] at this))).1)
  clear hb hg1 hg2 how
  have q_bG_0 := bG.now.cell 0 _ rfl
  have q_bG_1 := bG.now.cell 1 _ rfl
  have q_bG_2 := bG.now.cell 2 _ rfl
  have q_bG_3 := bG.now.cell 3 _ rfl
  have q_bG_4 := bG.now.cell 4 _ rfl
  have q_bG_5 := bG.now.cell 5 _ rfl
  have q_bG_6 := bG.now.cell 6 _ rfl
  have q_bG_7 := bG.now.cell 7 _ rfl
  have q_bG_8 := bG.now.cell 8 _ rfl
  have q_bG_9 := bG.now.cell 9 _ rfl
  have q_bG_10 := bG.now.cell 10 _ rfl
  have q_bG_11 := bG.now.cell 11 _ rfl
  have q_bG_l := bG.now.lt
  go_wp2_with fail
  clear q_bG_0 q_bG_1 q_bG_2 q_bG_3 q_bG_4 q_bG_5 q_bG_6 q_bG_7 q_bG_8 q_bG_9 q_bG_10 q_bG_11 q_bG_l
  refine (HHD.out _ _ _ _ _ gds.now gdo.now).mono ?_
  rintro e v14 ⟨rfl, hb⟩
  have s_v14 : v13.heap.size ≤ v14.heap.size := hb.size
  have n_bA := bA.below hb
  clear bA
  have bA := n_bA
  clear n_bA
  have n_zds := zds.below hb
  clear zds
  have zds := n_zds
  clear n_zds
  have n_zdo := zdo.below hb
  clear zdo
  have zdo := n_zdo
  clear n_zdo
  have n_bZ := bZ.below hb
  clear bZ
  have bZ := n_bZ
  clear n_bZ
  have n_bX := bX.below hb
  clear bX
  have bX := n_bX
  clear n_bX
  have n_bG := bG.below hb
  clear bG
  have bG := n_bG
  clear n_bG
  have n_gds := gds.below hb
  clear gds
  have gds := n_gds
  clear n_gds
  have n_gdo := gdo.below hb
  clear gdo
  have gdo := n_gdo
  clear n_gdo
  have n_hE := hE.trans (hb.mono hE.size)
  clear hE
  have hE := n_hE
  clear n_hE
  clear hb
  have q_bA_0 := bA.now.cell 0 _ rfl
  have q_bA_1 := bA.now.cell 1 _ rfl
  have q_bA_l := bA.now.lt
  go_wp2_with fail
  clear q_bA_0 q_bA_1 q_bA_l
  refine (HTO.out _ (h.below hE) (h'.below hE)).mono ?_
  rintro e v15 ⟨g_t4, p_t4, rfl, hg_t4, hp_t4, hn_t4, hr_t4, hq_t4, hb⟩
  have s_v15 : v14.heap.size ≤ v15.heap.size := hb.size
  have n_bA := bA.below hb
  clear bA
  have bA := n_bA
  clear n_bA
  have n_zds := zds.below hb
  clear zds
  have zds := n_zds
  clear n_zds
  have n_zdo := zdo.below hb
  clear zdo
  have zdo := n_zdo
  clear n_zdo
  have n_bZ := bZ.below hb
  clear bZ
  have bZ := n_bZ
  clear n_bZ
  have n_bX := bX.below hb
  clear bX
  have bX := n_bX
  clear n_bX
  have n_bG := bG.below hb
  clear bG
  have bG := n_bG
  clear n_bG
  have n_gds := gds.below hb
  clear gds
  have gds := n_gds
  clear n_gds
  have n_gdo := gdo.below hb
  clear gdo
  have gdo := n_gdo
  clear n_gdo
  have n_hE := hE.trans (hb.mono hE.size)
  clear hE
  have hE := n_hE
  clear n_hE
  have t4s : Dep v15 v14.heap.size v15.heap.size (fun W => Row W g_t4 (ss.map Value.string)) := dep_row hr_t4 hg_t4 hr_t4.lt (Nat.le_refl _)
  have t4p : Dep v15 v14.heap.size v15.heap.size (fun W => Row W p_t4 (wcells ws)) := dep_row hq_t4 hp_t4 hq_t4.lt (Nat.le_refl _)
  have gl_t4 := hr_t4.lt
  have pl_t4 := hq_t4.lt
  clear hr_t4 hq_t4
  clear hb
  go_wp2_with fail
  refine (HIM.out _ _ _ t4s.now.strs t4p.now.wrs hE).mono ?_
  rintro e v16 ⟨a_hd, c_hd, b_hd, e_hd, rfl, hc_hd, ho, hg, hg2, hb⟩
  have s_v16 : v15.heap.size ≤ v16.heap.size := hb.size
  have n_bA := bA.below hb
  clear bA
  have bA := n_bA
  clear n_bA
  have n_zds := zds.below hb
  clear zds
  have zds := n_zds
  clear n_zds
  have n_zdo := zdo.below hb
  clear zdo
  have zdo := n_zdo
  clear n_zdo
  have n_bZ := bZ.below hb
  clear bZ
  have bZ := n_bZ
  clear n_bZ
  have n_bX := bX.below hb
  clear bX
  have bX := n_bX
  clear n_bX
  have n_bG := bG.below hb
  clear bG
  have bG := n_bG
  clear n_bG
  have n_gds := gds.below hb
  clear gds
  have gds := n_gds
  clear n_gds
  have n_gdo := gdo.below hb
  clear gdo
  have gdo := n_gdo
  clear n_gdo
  have n_t4s := t4s.below hb
  clear t4s
  have t4s := n_t4s
  clear n_t4s
  have n_t4p := t4p.below hb
  clear t4p
  have t4p := n_t4p
  clear n_t4p
  have n_hE := hE.trans (hb.mono hE.size)
  clear hE
  have hE := n_hE
  clear n_hE
  have hds : Dep v16 v15.heap.size v16.heap.size (fun Wd => OwnS Wd a_hd (prcells ds)) := dep_own ho.s ne_of_prcells hg
  have hdo : Dep v16 v15.heap.size v16.heap.size (fun Wd => OwnS Wd b_hd (opcells os)) := dep_own ho.p ne_of_opcells hg2
  have ne_hd := ho.ne
  have lo_hd : ∀ g, blk a_hd ds.length = some g → v15.heap.size ≤ g ∧ g < v16.heap.size := fun g hg' => ⟨hg g hg', ho.s.lt _ prcells_ne g hg'⟩
  have lp_hd : ∀ g, blk b_hd os.length = some g → v15.heap.size ≤ g ∧ g < v16.heap.size := fun g hg' => ⟨hg2 g hg', ho.p.lt _ opcells_ne g hg'⟩
  clear ho hg hg2
  clear hb
  clear t4s
  clear t4p
  have q_bZ_0 := bZ.now.cell 0 _ rfl
  have q_bZ_1 := bZ.now.cell 1 _ rfl
  have q_bZ_2 := bZ.now.cell 2 _ rfl
  have q_bZ_3 := bZ.now.cell 3 _ rfl
  have q_bZ_4 := bZ.now.cell 4 _ rfl
  have q_bZ_5 := bZ.now.cell 5 _ rfl
  have q_bZ_6 := bZ.now.cell 6 _ rfl
  have q_bZ_7 := bZ.now.cell 7 _ rfl
  have q_bZ_8 := bZ.now.cell 8 _ rfl
  have q_bZ_9 := bZ.now.cell 9 _ rfl
  have q_bZ_10 := bZ.now.cell 10 _ rfl
  have q_bZ_11 := bZ.now.cell 11 _ rfl
  have q_bZ_l := bZ.now.lt
  go_wp2_with fail
  clear q_bZ_0 q_bZ_1 q_bZ_2 q_bZ_3 q_bZ_4 q_bZ_5 q_bZ_6 q_bZ_7 q_bZ_8 q_bZ_9 q_bZ_10 q_bZ_11 q_bZ_l
  obtain ⟨v17, e_v17⟩ : ∃ xw, xw = v16.alloc (.cells #[.int .i64 C0, .int .i64 W0, .int .i64 S0, .int .i64 L0, .int .i64 T0, .int .i64 H0, .int .i64 F0, .int .i64 R0, .int .i64 U0, .int .i64 O0, .slice a_hd ds.length c_hd, .slice b_hd os.length e_hd] 36) := ⟨_, rfl⟩
  have hb : Below v16.heap.size v16 v17 := by rw [e_v17]; exact (Below.refl _ _).alloc (Nat.le_refl _) _
  have bH : Dep v17 v16.heap.size (v16.heap.size + 1) (fun Wd => Row Wd v16.heap.size [.int .i64 C0, .int .i64 W0, .int .i64 S0, .int .i64 L0, .int .i64 T0, .int .i64 H0, .int .i64 F0, .int .i64 R0, .int .i64 U0, .int .i64 O0, .slice a_hd ds.length c_hd, .slice b_hd os.length e_hd]) := by rw [e_v17]; exact dep_box _ _ _
  have s_v17 : v16.heap.size + 1 ≤ v17.heap.size := by rw [e_v17]; simp
  rw [← e_v17]
  clear e_v17
  have n_bA := bA.below hb
  clear bA
  have bA := n_bA
  clear n_bA
  have n_zds := zds.below hb
  clear zds
  have zds := n_zds
  clear n_zds
  have n_zdo := zdo.below hb
  clear zdo
  have zdo := n_zdo
  clear n_zdo
  have n_bZ := bZ.below hb
  clear bZ
  have bZ := n_bZ
  clear n_bZ
  have n_bX := bX.below hb
  clear bX
  have bX := n_bX
  clear n_bX
  have n_bG := bG.below hb
  clear bG
  have bG := n_bG
  clear n_bG
  have n_gds := gds.below hb
  clear gds
  have gds := n_gds
  clear n_gds
  have n_gdo := gdo.below hb
  clear gdo
  have gdo := n_gdo
  clear n_gdo
  have n_hds := hds.below hb
  clear hds
  have hds := n_hds
  clear n_hds
  have n_hdo := hdo.below hb
  clear hdo
  have hdo := n_hdo
  clear n_hdo
  have n_hE := hE.trans (hb.mono hE.size)
  clear hE
  have hE := n_hE
  clear n_hE
  clear hb
  refine (HEQ.out _ _ _ _ _ _ _ _ _ hds.now.prs hdo.now.ops zds.now.prs zdo.now.ops).mono ?_
  rintro e v18 ⟨rfl, hb⟩
  have s_v18 : v17.heap.size ≤ v18.heap.size := hb.size
  have n_bA := bA.below hb
  clear bA
  have bA := n_bA
  clear n_bA
  have n_zds := zds.below hb
  clear zds
  have zds := n_zds
  clear n_zds
  have n_zdo := zdo.below hb
  clear zdo
  have zdo := n_zdo
  clear n_zdo
  have n_bZ := bZ.below hb
  clear bZ
  have bZ := n_bZ
  clear n_bZ
  have n_bX := bX.below hb
  clear bX
  have bX := n_bX
  clear n_bX
  have n_bG := bG.below hb
  clear bG
  have bG := n_bG
  clear n_bG
  have n_gds := gds.below hb
  clear gds
  have gds := n_gds
  clear n_gds
  have n_gdo := gdo.below hb
  clear gdo
  have gdo := n_gdo
  clear n_gdo
  have n_hds := hds.below hb
  clear hds
  have hds := n_hds
  clear n_hds
  have n_hdo := hdo.below hb
  clear hdo
  have hdo := n_hdo
  clear n_hdo
  have n_bH := bH.below hb
  clear bH
  have bH := n_bH
  clear n_bH
  have n_hE := hE.trans (hb.mono hE.size)
  clear hE
  have hE := n_hE
  clear n_hE
  clear hb
  have q_bG_0 := bG.now.cell 0 _ rfl
  have q_bG_1 := bG.now.cell 1 _ rfl
  have q_bG_2 := bG.now.cell 2 _ rfl
  have q_bG_3 := bG.now.cell 3 _ rfl
  have q_bG_4 := bG.now.cell 4 _ rfl
  have q_bG_5 := bG.now.cell 5 _ rfl
  have q_bG_6 := bG.now.cell 6 _ rfl
  have q_bG_7 := bG.now.cell 7 _ rfl
  have q_bG_8 := bG.now.cell 8 _ rfl
  have q_bG_9 := bG.now.cell 9 _ rfl
  have q_bG_10 := bG.now.cell 10 _ rfl
  have q_bG_11 := bG.now.cell 11 _ rfl
  have q_bG_l := bG.now.lt
  go_wp2_with fail
  clear q_bG_0 q_bG_1 q_bG_2 q_bG_3 q_bG_4 q_bG_5 q_bG_6 q_bG_7 q_bG_8 q_bG_9 q_bG_10 q_bG_11 q_bG_l
  refine (HHD.out _ _ _ _ _ gds.now gdo.now).mono ?_
  rintro e v19 ⟨rfl, hb⟩
  have s_v19 : v18.heap.size ≤ v19.heap.size := hb.size
  have n_bA := bA.below hb
  clear bA
  have bA := n_bA
  clear n_bA
  have n_zds := zds.below hb
  clear zds
  have zds := n_zds
  clear n_zds
  have n_zdo := zdo.below hb
  clear zdo
  have zdo := n_zdo
  clear n_zdo
  have n_bZ := bZ.below hb
  clear bZ
  have bZ := n_bZ
  clear n_bZ
  have n_bX := bX.below hb
  clear bX
  have bX := n_bX
  clear n_bX
  have n_bG := bG.below hb
  clear bG
  have bG := n_bG
  clear n_bG
  have n_gds := gds.below hb
  clear gds
  have gds := n_gds
  clear n_gds
  have n_gdo := gdo.below hb
  clear gdo
  have gdo := n_gdo
  clear n_gdo
  have n_hds := hds.below hb
  clear hds
  have hds := n_hds
  clear n_hds
  have n_hdo := hdo.below hb
  clear hdo
  have hdo := n_hdo
  clear n_hdo
  have n_bH := bH.below hb
  clear bH
  have bH := n_bH
  clear n_bH
  have n_hE := hE.trans (hb.mono hE.size)
  clear hE
  have hE := n_hE
  clear n_hE
  clear hb
  go_wp2_with fail
  go_ret
  exact ⟨rfl, hE⟩
theorem cells1 : Tryz.prog.cellsOf 9 = 1 := by kernel_rfl
theorem cells2 : Tryz.prog.cellsOf 181 = 2 := by kernel_rfl
theorem cellsD : Tryz.prog.cellsOf 25 = 2 := by kernel_rfl
set_option maxRecDepth 100000 in
theorem contract (H : Type) (enc : TypeId × Value → H) (W : World) (base : Nat) (args : Array Value) (ds gs : List (DataW H)) (before : List MemPlace)
    (hval : ∀ (j : Nat) t v, Tryz.f3.params[j]? = some t → args[j]? = some v → Value.okWide Tryz.prog W .any base t v)
    (hW : DataW.Whole enc Tryz.prog Tryz.f3.params.toList Rows.fnExactOpenSpec.vars false W args.toList ds gs before) (hL : laidMetH Tryz.prog Rows.fnExactOpenRow.laid W) :
    Calls Tryz.prog 3 args W fun e W' => ∃ v, e = .returned v ∧ Rows.fnExactOpenSpec.post enc Tryz.prog Tryz.f3 false true false false W args v W' := by
  have hW' := hW
  obtain ⟨p, q, hA0, hV0, rfl, hfz, hnd⟩ := hW
  have hA : DataW.TrodAll enc Tryz.prog W 0 (fun _ => true) true Tryz.f3.params.toList args.toList ds p := hA0
  have hV : DataW.TrodVars enc Tryz.prog W (fun _ => true) ["loop.example/kilnstone/impl.errNoPage"] gs q := hV0
  rw [Tryz.params3] at hA hval
  obtain ⟨v0, vs0, d0, ds0, p0, q0, hargs, rfl, rfl, h0, r0⟩ := trodAll_cons hA
  obtain ⟨v1, vs1, d1, ds1, p1, q1, rfl, rfl, rfl, h1, r1⟩ := trodAll_cons r0
  obtain ⟨rfl, rfl, rfl⟩ := trodAll_nil r1
  obtain rfl : args = #[v0, v1] := by cases args; simp_all
  have k0 := h0
  have lt0 : ∀ x ∈ p0, x.block < W.heap.size := by obtain ⟨m, hm⟩ := k0; exact DataW.trod_lt m _ _ _ hm
  obtain ⟨c0, c1, y0, y1, mm, rfl, _, _, hy0, hy1⟩ := open_agg2 Tryz.underlying25 (by kernel_rfl) cellsD (hval 0 25 v0 rfl rfl) h0
  obtain ⟨a, ss, c, rfl, hS, hl, hs⟩ := strs_of_trod Tryz.underlying22 Tryz.underlying9 cells1 hy0
  obtain ⟨a', ws, c', rfl, hS', hl', hs', _⟩ := wrs_of_trod Tryz.underlying23 Tryz.underlying181 cells2 rfl rfl (by kernel_rfl) (by kernel_rfl) Tryz.underlying3 Tryz.underlying9 hy1
  obtain ⟨a1, rfl, rfl, rfl, w1⟩ := open_int Tryz.underlying3 (hval 1 3 v1 rfl rfl) h1
  have hV1 := hV
  obtain ⟨g, t, cs, fuel, d, pp, rfl, _⟩ := trodVars_one hV
  clear hA0
  refine (walk a ss c a' ws c' a1 W hS hS' hl hs hl' hs' hL).mono fun e W' ⟨he, bel⟩ => ?_
  subst he
  exact ⟨_, rfl, _, _, _, [], _, _, hW', trodAll_mk1 (shut_bool Tryz.underlying4 _), (trodAll_cons_mk (Below.trod laidOut (by kernel_rfl) (of_decide_eq_true (by kernel_rfl)) k0 bel lt0) (trodAll_cons_mk (shut_int Tryz.underlying3 w1) trodAll_mk0)), Below.trodVars laidOut bel (by kernel_rfl) hV1, bel.frame _, fun h => by cases h⟩
end Go.Proofs.YtnmaknnnmjfhkagGreatDoor.fnExactOpen
