import Derived.Test.YtnmaknnnmjfhkadRows
import Derived.Test.YtnmaknnnmjfhkadPLX
import Derived.Test.YtnmaknnnmjfhkadOpnI
import Derived.WalkKit
import Derived.ProofKit
import Derived.OpenShut
import Derived.ShutString
import Derived.ChangeOld
import Derived.Below
import Derived.Lib.SmallJoins
namespace Go.Proofs.Ytnmaknnnmjfhkad.fnExactPowerLoss
open Go.ChangeShapes Go.WideShapes Go.ChangeAt Go.RowKit Go.Joins
open Go.ChangeMaps (open_string shut_string)
set_option linter.unusedVariables false

theorem own : ownKnob Try.prog.godebug = none := by kernel_rfl
theorem laidOut : laidOutB Try.prog = true := by kernel_rfl

theorem blk_is {g n k : Nat} (h : blk (some ⟨g, 0, none⟩) n = some k) : k = g := by
  unfold blk at h
  split at h
  · cases h
  · injection h with h; exact h.symm
theorem ne_blk {g n B : Nat} (h : B ≠ g) : some B ≠ blk (some ⟨g, 0, none⟩) n := fun e => h (blk_is e.symm)
theorem ne_some {g B : Nat} (h : B ≠ g) : some B ≠ some g := fun e => h (by injection e)
theorem own_ne {g g' n n' : Nat} (h : g ≠ g') : blk (some ⟨g, 0, none⟩) n = none ∨ blk (some ⟨g', 0, none⟩) n' = none ∨ blk (some ⟨g, 0, none⟩) n ≠ blk (some ⟨g', 0, none⟩) n' := by
  cases e1 : blk (some ⟨g, 0, none⟩) n with
  | none => exact .inl rfl
  | some k =>
    cases e2 : blk (some ⟨g', 0, none⟩) n' with
    | none => exact .inr (.inl rfl)
    | some k' => exact .inr (.inr (fun e => h (by have h1 := blk_is e1; have h2 := blk_is e2; injection e with e; omega)))
theorem cx_two {w : World} {B B' : Nat} {v0 v1 u0 u1 : Value} (h : Cx w B v0 v1) (h' : Cx w B' u0 u1) : w.cell? ⟨B, 0, none⟩ = some v0 ∧ w.cell? ⟨B, 1, none⟩ = some v1 ∧ w.cell? ⟨B', 0, none⟩ = some u0 ∧ w.cell? ⟨B', 1, none⟩ = some u1 := ⟨h.c0, h.c1, h'.c0, h'.c1⟩

set_option maxRecDepth 100000 in
set_option maxHeartbeats 4000000 in
theorem walk (a : Option Addr) (ss : List ByteArray) (c : Nat) (a' : Option Addr) (ws : List (Int × ByteArray)) (c' : Nat) (f : Option Addr) (zs : List Int) (cf : Nat) (w : World) (h : Strs w a ss) (h' : Wrs w a' ws) (hz : Ints w f zs)
    (hl : ss.length ≤ maxLen) (hs : ∀ s ∈ ss, s.size ≤ maxLen) (hl' : ws.length ≤ maxLen) (hs' : ∀ s ∈ ws, s.2.size ≤ maxLen) (hlz : zs.length ≤ maxLen) :
    Calls Try.prog 5 #[diskV a ss.length c a' ws.length c', .slice f zs.length cf] w fun e w' => e = .returned (.bool true) ∧ Below w.heap.size w w' := by
  have hb0 : ∀ o, Below w.heap.size w (w.alloc o) := fun o => (Below.refl _ _).alloc (Nat.le_refl _) _
  by_cases hzz : 1048576 < zs.length
  · unfold maxLen at hlz
    go_enter Try.func5, Try.ntmps5
    go_wp2
    go_ret
    exact ⟨rfl, hb0 _⟩
  have hlz' : zs.length ≤ 1048576 := by omega
  clear hzz hlz
  have hbd := szL_bd (szs ss ws) 1048576 (by omega)
  obtain ⟨R, HR⟩ : ∃ R, Hid (R = szL (szs ss ws) 1048576) := ⟨_, hid rfl⟩
  rw [← HR.out] at hbd
  by_cases hR : R < 0
  · clear hbd
    go_enter Try.func5, Try.ntmps5
    go_wp2_with fail
    refine (sz_disk a ss c a' ws c' _ (h.below (hb0 _)) (h'.below (hb0 _)) hl hs hl' hs').mono ?_
    rw [← HR.out]
    rintro e w1 ⟨rfl, hb1⟩
    go_wp2
    go_ret
    exact ⟨rfl, (hb0 _).trans (hb1.mono (by simp))⟩
  have hmem := szL_mem (szs ss ws) 1048576 (by omega) (by rw [← HR.out]; omega)
  have m1 : ss.length ≤ 1048576 := by have := hmem ss.length (by simp [szs]); omega
  have m2 : ws.length ≤ 1048576 := by have := hmem ws.length (by simp [szs]); omega
  have M3 : Hid (∀ s ∈ ss, s.size ≤ 1048576) := fun s hs => by
    have := hmem s.size (by simp only [szs, List.mem_append, List.mem_cons, List.mem_map]; exact .inl (.inr ⟨s, hs, rfl⟩)); omega
  have M4 : Hid (∀ x ∈ ws, x.2.size ≤ 1048576) := fun x hx => by
    have := hmem x.2.size (by simp only [szs, List.mem_append, List.mem_cons, List.mem_map]; exact .inr (.inr ⟨x, hx, rfl⟩)); omega
  have hR0 : 0 ≤ R := by omega
  have hlen := plSS_len zs ss ws
  have HI := hid (fun (a : Option Addr) c (a' : Option Addr) c' (f : Option Addr) cf w h h' hz => pl_i_any a ss c a' ws c' f zs cf w h h' hz hlz' m1 m2 M3.out M4.out)
  have HS := hid (fun (a : Option Addr) c (a' : Option Addr) c' (f : Option Addr) cf w h h' hz => pl_s_any a ss c a' ws c' f zs cf w h h' hz hlz' m1 m2 M3.out M4.out)
  obtain ⟨rs, HRS⟩ : ∃ rs, Hid (rs = plSS zs ss ws) := ⟨_, hid rfl⟩
  rw [← HRS.out] at hlen HI HS
  clear hmem hbd hR
  go_enter Try.func5, Try.ntmps5
  go_wp2_with fail
  refine (sz_disk a ss c a' ws c' _ (h.below (hb0 _)) (h'.below (hb0 _)) hl hs hl' hs').mono ?_
  rw [← HR.out]
  rintro e w1 ⟨rfl, hb1⟩
  have HXA1 := hid ((Cx.new w (.slice a ss.length c) (.slice a' ws.length c') 52).below hb1)
  have HBE1 := hid (Below.then (hb0 (.cells #[.slice a ss.length c, .slice a' ws.length c'] 52)) (Nat.le_refl _) hb1)
  clear hb1
  have q00 := HXA1.out.c0
  have q01 := HXA1.out.c1
  have q02 := HXA1.out.lt
  go_wp2_with fail
  refine (to_disk a ss c a' ws c' _ (h.below HBE1.out) (h'.below HBE1.out) m1 m2).mono ?_
  rintro e w2 ⟨g1, g1', rfl, _, _, _, hr, hr', hb⟩
  clear q00 q01 q02
  have HXA2 := hid (HXA1.out.below hb)
  have HBE2 := hid (Below.then HBE1.out (Nat.le_refl _) hb)
  clear HXA1 HBE1
  have HS12 := hid (hr.strs)
  have HS22 := hid (hr'.wrs)
  clear hr hr' hb
  have q00 := HXA2.out.c0
  have q01 := HXA2.out.c1
  have q02 := HXA2.out.lt
  go_wp2_with fail
  refine (to_ints f zs cf _ (hz.below HBE2.out) hlz').mono ?_
  rintro e w3 ⟨gz1, rfl, _, hr, hb⟩
  clear q00 q01 q02
  have HXA3 := hid (HXA2.out.below hb)
  have HBE3 := hid (Below.then HBE2.out (Nat.le_refl _) hb)
  have HS13 := hid (HS12.out.below hb)
  have HS23 := hid (HS22.out.below hb)
  clear HXA2 HBE2 HS12 HS22
  have HS33 := hid (hr.ints)
  clear hr hb
  go_wp2_with fail
  refine (HS.out _ _ _ _ _ _ _ HS13.out HS23.out HS33.out).mono ?_
  rintro e w4 ⟨aw, cw, aw', cw', rfl, ho, _, hb⟩
  have HXA4 := hid (HXA3.out.below hb)
  have HBE4 := hid (Below.then HBE3.out (Nat.le_refl _) hb)
  clear HXA3 HBE3 HS13 HS23 HS33
  have hA4 := HXA4.out.lt
  have HOW4 := hid (ho)
  have HLW := hid (ho.lt rs.length strs_ne)
  clear ho hb
  have HXA5 := hid (HXA4.out.below (below_new w4 (.cells #[.slice aw rs.length cw, .slice aw' 0 cw'] 57)))
  have HBE5 := hid (Below.then HBE4.out (Nat.le_refl _) (below_new w4 (.cells #[.slice aw rs.length cw, .slice aw' 0 cw'] 57)))
  have HOW5 := hid (HOW4.out.below (below_new w4 (.cells #[.slice aw rs.length cw, .slice aw' 0 cw'] 57)))
  clear HXA4 HBE4 HOW4
  have HXW5 := hid (Cx.new w4 (.slice aw rs.length cw) (.slice aw' 0 cw') 57)
  have q00 := HXA5.out.c0
  have q01 := HXA5.out.c1
  have q02 := HXA5.out.lt
  go_wp2_with fail
  refine (to_disk a ss c a' ws c' _ (h.below HBE5.out) (h'.below HBE5.out) m1 m2).mono ?_
  rintro e w5 ⟨g, g', rfl, hga, hgb, hgne, hr, hr', hb⟩
  clear q00 q01 q02
  have hs5 := hb.size
  simp only [World.size_alloc] at hga hgb hs5
  have HXA6 := hid (HXA5.out.below hb)
  have HBE6 := hid (Below.then HBE5.out (Nat.le_refl _) hb)
  have HOW6 := hid (HOW5.out.below hb)
  have HXW6 := hid (HXW5.out.below hb)
  clear HXA5 HBE5 HOW5 HXW5
  have HRX6 := hid (hr)
  have HRY6 := hid (hr')
  clear hr hr' hb
  have hgl := HRX6.out.lt
  have hgl' := HRY6.out.lt
  have HXA7 := hid (HXA6.out.below (below_new w5 (.cells #[.slice (some ⟨g, 0, none⟩) ss.length ss.length, .slice (some ⟨g', 0, none⟩) ws.length ws.length] 57)))
  have HBE7 := hid (Below.then HBE6.out (Nat.le_refl _) (below_new w5 (.cells #[.slice (some ⟨g, 0, none⟩) ss.length ss.length, .slice (some ⟨g', 0, none⟩) ws.length ws.length] 57)))
  have HOW7 := hid (HOW6.out.below (below_new w5 (.cells #[.slice (some ⟨g, 0, none⟩) ss.length ss.length, .slice (some ⟨g', 0, none⟩) ws.length ws.length] 57)))
  have HXW7 := hid (HXW6.out.below (below_new w5 (.cells #[.slice (some ⟨g, 0, none⟩) ss.length ss.length, .slice (some ⟨g', 0, none⟩) ws.length ws.length] 57)))
  have HRX7 := hid (HRX6.out.below (below_new w5 (.cells #[.slice (some ⟨g, 0, none⟩) ss.length ss.length, .slice (some ⟨g', 0, none⟩) ws.length ws.length] 57)))
  have HRY7 := hid (HRY6.out.below (below_new w5 (.cells #[.slice (some ⟨g, 0, none⟩) ss.length ss.length, .slice (some ⟨g', 0, none⟩) ws.length ws.length] 57)))
  clear HXA6 HBE6 HOW6 HXW6 HRX6 HRY6
  have HXX7 := hid (Cx.new w5 (.slice (some ⟨g, 0, none⟩) ss.length ss.length) (.slice (some ⟨g', 0, none⟩) ws.length ws.length) 57)
  go_wp2_with fail
  refine (to_ints f zs cf _ (hz.below HBE7.out) hlz').mono ?_
  rintro e w6 ⟨gz, rfl, hgz, hr, hb⟩
  have hs6 := hb.size
  simp only [World.size_alloc] at hgz hs6
  have HXA8 := hid (HXA7.out.below hb)
  have HBE8 := hid (Below.then HBE7.out (Nat.le_refl _) hb)
  have HOW8 := hid (HOW7.out.below hb)
  have HXW8 := hid (HXW7.out.below hb)
  have HRX8 := hid (HRX7.out.below hb)
  have HRY8 := hid (HRY7.out.below hb)
  have HXX8 := hid (HXX7.out.below hb)
  clear HXA7 HBE7 HOW7 HXW7 HRX7 HRY7 HXX7
  have HRZ8 := hid (hr)
  have hgzl := hr.lt
  clear hr hb
  have q00 := HXX8.out.c0
  have q01 := HXX8.out.c1
  have q02 := HXX8.out.lt
  go_wp2_with fail
  refine (HI.out _ _ _ _ _ _ _ HRX8.out.strs HRY8.out.wrs HRZ8.out.ints).mono ?_
  rintro e w7 ⟨ag, cg, ag', cg', rfl, ho, hgg, hb⟩
  clear q00 q01 q02
  have hs7 := hb.size
  have HXA9 := hid (HXA8.out.below hb)
  have HBE9 := hid (Below.then HBE8.out (Nat.le_refl _) hb)
  have HOW9 := hid (HOW8.out.below hb)
  have HXW9 := hid (HXW8.out.below hb)
  have HRX9 := hid (HRX8.out.below hb)
  have HRY9 := hid (HRY8.out.below hb)
  have HXX9 := hid (HXX8.out.below hb)
  have HRZ9 := hid (HRZ8.out.below hb)
  clear HXA8 HBE8 HOW8 HXW8 HRX8 HRY8 HXX8 HRZ8
  have HOG9 := hid (ho)
  have HLG := hid (ho.lt rs.length strs_ne)
  have HGG := hid hgg
  clear ho hb hgg
  have HXA10 := hid (HXA9.out.below (below_new w7 (.cells #[.slice ag rs.length cg, .slice ag' 0 cg'] 57)))
  have HBE10 := hid (Below.then HBE9.out (Nat.le_refl _) (below_new w7 (.cells #[.slice ag rs.length cg, .slice ag' 0 cg'] 57)))
  have HOW10 := hid (HOW9.out.below (below_new w7 (.cells #[.slice ag rs.length cg, .slice ag' 0 cg'] 57)))
  have HXW10 := hid (HXW9.out.below (below_new w7 (.cells #[.slice ag rs.length cg, .slice ag' 0 cg'] 57)))
  have HRX10 := hid (HRX9.out.below (below_new w7 (.cells #[.slice ag rs.length cg, .slice ag' 0 cg'] 57)))
  have HRY10 := hid (HRY9.out.below (below_new w7 (.cells #[.slice ag rs.length cg, .slice ag' 0 cg'] 57)))
  have HXX10 := hid (HXX9.out.below (below_new w7 (.cells #[.slice ag rs.length cg, .slice ag' 0 cg'] 57)))
  have HRZ10 := hid (HRZ9.out.below (below_new w7 (.cells #[.slice ag rs.length cg, .slice ag' 0 cg'] 57)))
  have HOG10 := hid (HOG9.out.below (below_new w7 (.cells #[.slice ag rs.length cg, .slice ag' 0 cg'] 57)))
  clear HXA9 HBE9 HOW9 HXW9 HRX9 HRY9 HXX9 HRZ9 HOG9
  have HXG10 := hid (Cx.new w7 (.slice ag rs.length cg) (.slice ag' 0 cg') 57)
  have q00 := HXW10.out.c0
  have q01 := HXW10.out.c1
  have q02 := HXW10.out.lt
  have q10 := HXG10.out.c0
  have q11 := HXG10.out.c1
  have q12 := HXG10.out.lt
  go_wp2_with fail
  refine (eq_disk ag aw rs cg cw ag' aw' [] cg' cw' _ HOG10.out.strs HOW10.out.strs (.inl rfl) (.inl rfl) (by omega) (by simp)).mono ?_
  rintro e w8 ⟨rfl, hb⟩
  clear q00 q01 q02 q10 q11 q12
  have HXA11 := hid (HXA10.out.below hb)
  have HBE11 := hid (Below.then HBE10.out (Nat.le_refl _) hb)
  have HOW11 := hid (HOW10.out.below hb)
  have HXW11 := hid (HXW10.out.below hb)
  have HRX11 := hid (HRX10.out.below hb)
  have HRY11 := hid (HRY10.out.below hb)
  have HXX11 := hid (HXX10.out.below hb)
  have HRZ11 := hid (HRZ10.out.below hb)
  have HOG11 := hid (HOG10.out.below hb)
  have HXG11 := hid (HXG10.out.below hb)
  clear HXA10 HBE10 HOW10 HXW10 HRX10 HRY10 HXX10 HRZ10 HOG10 HXG10
  clear hb
  go_wp2_with fail
  go_region_held3 (fun w' => w'.cell? ⟨w.heap.size, 0, none⟩ = some (.slice a ss.length c) ∧ w'.cell? ⟨w.heap.size, 1, none⟩ = some (.slice a' ws.length c') ∧ w'.cell? ⟨w5.heap.size, 0, none⟩ = some (.slice (some ⟨g, 0, none⟩) ss.length ss.length) ∧ w'.cell? ⟨w5.heap.size, 1, none⟩ = some (.slice (some ⟨g', 0, none⟩) ws.length ws.length))
    (first | assumption | exact cx_two HXA11.out.drew HXX11.out.drew | exact cx_two (HXA11.out.drew.below hb9) (HXX11.out.drew.below hb9) | exact cx_two ((HXA11.out.drew.below hb9).below hb10) ((HXX11.out.drew.below hb9).below hb10))
    (first | (go_at_call 25; refine (to_disk a ss c a' ws c' _ (h.below HBE11.out.drew) (h'.below HBE11.out.drew) m1 m2).mono ?_; rintro e w9 ⟨g9, g9', rfl, _, _, _, hr9, hr9', hb9⟩) | (go_at_call 28; refine (eq_disk _ _ ss _ _ _ _ ws _ _ _ (HRX11.out.drew.below hb9).strs hr9.strs (HRY11.out.drew.below hb9).wrs hr9'.wrs m1 m2).mono ?_; rintro e w10 ⟨rfl, hb10⟩))
  have hb := Below.then (Below.then ((Below.refl w8.heap.size w8).drew) (Nat.le_refl _) hb9) (Nat.le_refl _) hb10
  clear hr9 hr9' hb9 hb10
  have HXA12 := hid (HXA11.out.below hb)
  have HBE12 := hid (Below.then HBE11.out (Nat.le_refl _) hb)
  have HOW12 := hid (HOW11.out.below hb)
  have HXW12 := hid (HXW11.out.below hb)
  have HRX12 := hid (HRX11.out.below hb)
  have HRY12 := hid (HRY11.out.below hb)
  have HXX12 := hid (HXX11.out.below hb)
  have HRZ12 := hid (HRZ11.out.below hb)
  have HOG12 := hid (HOG11.out.below hb)
  have HXG12 := hid (HXG11.out.below hb)
  clear HXA11 HBE11 HOW11 HXW11 HRX11 HRY11 HXX11 HRZ11 HOG11 HXG11
  clear hb
  go_wp2_with fail
  refine (to_ints f zs cf _ (hz.below HBE12.out) hlz').mono ?_
  rintro e w11 ⟨gz2, rfl, _, hr, hb⟩
  have HXA13 := hid (HXA12.out.below hb)
  have HBE13 := hid (Below.then HBE12.out (Nat.le_refl _) hb)
  have HOW13 := hid (HOW12.out.below hb)
  have HXW13 := hid (HXW12.out.below hb)
  have HRX13 := hid (HRX12.out.below hb)
  have HRY13 := hid (HRY12.out.below hb)
  have HXX13 := hid (HXX12.out.below hb)
  have HRZ13 := hid (HRZ12.out.below hb)
  have HOG13 := hid (HOG12.out.below hb)
  have HXG13 := hid (HXG12.out.below hb)
  clear HXA12 HBE12 HOW12 HXW12 HRX12 HRY12 HXX12 HRZ12 HOG12 HXG12
  have HS313 := hid (hr.ints)
  clear hr hb
  go_wp2_with fail
  refine (eq_ints _ _ zs _ _ _ HRZ13.out.ints HS313.out hlz').mono ?_
  rintro e w12 ⟨rfl, hb⟩
  have HXA14 := hid (HXA13.out.below hb)
  have HBE14 := hid (Below.then HBE13.out (Nat.le_refl _) hb)
  have HOW14 := hid (HOW13.out.below hb)
  have HXW14 := hid (HXW13.out.below hb)
  have HRX14 := hid (HRX13.out.below hb)
  have HRY14 := hid (HRY13.out.below hb)
  have HXX14 := hid (HXX13.out.below hb)
  have HRZ14 := hid (HRZ13.out.below hb)
  have HOG14 := hid (HOG13.out.below hb)
  have HXG14 := hid (HXG13.out.below hb)
  clear HXA13 HBE13 HOW13 HXW13 HRX13 HRY13 HXX13 HRZ13 HOG13 HXG13 HS313
  clear hb
  have q00 := HXX14.out.c0
  have q01 := HXX14.out.c1
  have q02 := HXX14.out.lt
  go_wp2_with fail
  refine (mark_disk _ ss _ _ ws _ 1 _ ⟨.inr ⟨g, rfl, HRX14.out⟩, .inr ⟨g', rfl, HRY14.out⟩, own_ne hgne⟩ (by omega) (by omega)).mono ?_
  obtain ⟨k1, HK1⟩ : ∃ k1, Hid (k1 = 1 + ss.length + 2 * ws.length) := ⟨_, hid rfl⟩
  rw [show ((1 + ss.length + 2 * ws.length : Nat) : Int) = (k1 : Int) by rw [HK1.out]]
  rintro e w13 ⟨rfl, ⟨wa, wb, ma, mb, mc⟩, _⟩
  clear q00 q01 q02
  have hk1 : k1 ≤ 10000000 := by have := HK1.out; omega
  have HXA15 := hid (((HXA14.out.below ma).grown mb (ne_blk (by omega))).grown mc (ne_blk (by omega)))
  have HBE15 := hid (Below.trans (Below.trans (Below.then HBE14.out (Nat.le_refl _) ma) (grown_below mb (Below.size (Below.then HBE14.out (Nat.le_refl _) ma)) (fun k hk => by have := blk_is hk; omega))) (grown_below mc (Below.size (Below.trans (Below.then HBE14.out (Nat.le_refl _) ma) (grown_below mb (Below.size (Below.then HBE14.out (Nat.le_refl _) ma)) (fun k hk => by have := blk_is hk; omega)))) (fun k hk => by have := blk_is hk; omega)))
  have HOW15 := hid (((HOW14.out.below ma).grown mb (fun b hb hne => ne_blk (by have := HLW.out b (by rw [hb]; exact blk_pos b 0 _ (ne_of_strs hne)); omega))).grown mc (fun b hb hne => ne_blk (by have := HLW.out b (by rw [hb]; exact blk_pos b 0 _ (ne_of_strs hne)); omega)))
  have HXW15 := hid (((HXW14.out.below ma).grown mb (ne_blk (by omega))).grown mc (ne_blk (by omega)))
  have HRZ15 := hid (((HRZ14.out.below ma).grown mb (ne_blk (by omega))).grown mc (ne_blk (by omega)))
  have HOG15 := hid (((HOG14.out.below ma).grown mb (fun b hb hne => ne_blk (by have := HGG.out b (by rw [hb]; exact blk_pos b 0 _ (ne_of_strs hne)); omega))).grown mc (fun b hb hne => ne_blk (by have := HGG.out b (by rw [hb]; exact blk_pos b 0 _ (ne_of_strs hne)); omega)))
  have HXG15 := hid (((HXG14.out.below ma).grown mb (ne_blk (by omega))).grown mc (ne_blk (by omega)))
  clear HXA14 HBE14 HOW14 HXW14 HRX14 HRY14 HXX14 HRZ14 HOG14 HXG14
  clear ma mb mc
  go_wp2_with fail
  refine (mark_ints gz zs.length zs.length k1 (icells zs) (by simp [icells]) _ HRZ15.out (by omega)).mono ?_
  obtain ⟨k2, HK2⟩ : ∃ k2, Hid (k2 = k1 + zs.length) := ⟨_, hid rfl⟩
  rw [← HK2.out]
  rintro e w14 ⟨rfl, mb⟩
  have hk2 : (0 : Int) ≤ (k2 : Int) := by omega
  have HXA16 := hid (HXA15.out.grown mb (ne_some (by omega)))
  have HBE16 := hid (Below.trans HBE15.out (grown_below mb (Below.size HBE15.out) (fun k hk => by injection hk; omega)))
  have HOW16 := hid (HOW15.out.grown mb (fun b hb hne => ne_some (by have := HLW.out b (by rw [hb]; exact blk_pos b 0 _ (ne_of_strs hne)); omega)))
  have HXW16 := hid (HXW15.out.grown mb (ne_some (by omega)))
  have HOG16 := hid (HOG15.out.grown mb (fun b hb hne => ne_some (by have := HGG.out b (by rw [hb]; exact blk_pos b 0 _ (ne_of_strs hne)); omega)))
  have HXG16 := hid (HXG15.out.grown mb (ne_some (by omega)))
  clear HXA15 HBE15 HOW15 HXW15 HRZ15 HOG15 HXG15
  clear mb
  have q00 := HXW16.out.c0
  have q01 := HXW16.out.c1
  have q02 := HXW16.out.lt
  have q10 := HXG16.out.c0
  have q11 := HXG16.out.c1
  have q12 := HXG16.out.lt
  go_wp2_with fail
  refine (eq_disk ag aw rs cg cw ag' aw' [] cg' cw' _ HOG16.out.strs HOW16.out.strs (.inl rfl) (.inl rfl) (by omega) (by simp)).mono ?_
  rintro e w15 ⟨rfl, hb⟩
  clear q00 q01 q02 q10 q11 q12
  have HXA17 := hid (HXA16.out.below hb)
  have HBE17 := hid (Below.then HBE16.out (Nat.le_refl _) hb)
  have HOW17 := hid (HOW16.out.below hb)
  have HXW17 := hid (HXW16.out.below hb)
  have HOG17 := hid (HOG16.out.below hb)
  have HXG17 := hid (HXG16.out.below hb)
  clear HXA16 HBE16 HOW16 HXW16 HOG16 HXG16
  clear hb
  have q00 := HXG17.out.c0
  have q01 := HXG17.out.c1
  have q02 := HXG17.out.lt
  go_wp2_with fail
  refine (mark_disk ag rs cg ag' [] cg' 1 _ ⟨HOG17.out, .inl rfl, .inr (.inl rfl)⟩ (by omega) (by simp; omega)).mono ?_
  obtain ⟨m, HM⟩ : ∃ m, Hid (m = 1 + rs.length) := ⟨_, hid rfl⟩
  rw [show ((1 + rs.length + 2 * ([] : List (Int × ByteArray)).length : Nat) : Int) = (m : Int) by rw [HM.out]; simp]
  rintro e w16 ⟨rfl, ⟨wa, wb, ma, mb, mc⟩, hd⟩
  clear q00 q01 q02
  have hm0 : (0 : Int) ≤ (m : Int) := by omega
  have HXA18 := hid (((HXA17.out.below ma).grown mb (fun e => by have h2 := HGG.out _ e.symm; omega)).grown mc (by simp [blk]))
  have HBE18 := hid (Below.trans (Below.trans (Below.then HBE17.out (Nat.le_refl _) ma) (grown_below mb (Below.size (Below.then HBE17.out (Nat.le_refl _) ma)) (fun k hk => by have := HGG.out k hk; omega))) (grown_below mc (Below.size (Below.trans (Below.then HBE17.out (Nat.le_refl _) ma) (grown_below mb (Below.size (Below.then HBE17.out (Nat.le_refl _) ma)) (fun k hk => by have := HGG.out k hk; omega)))) (fun k hk => by simp [blk] at hk)))
  have HOW18 := hid (((HOW17.out.below ma).grown mb (fun b hb hne e => by have h1 := HLW.out b (by rw [hb]; exact blk_pos b 0 _ (ne_of_strs hne)); have h2 := HGG.out b e.symm; omega)).grown mc (fun b hb hne => by simp [blk]))
  have HXW18 := hid (((HXW17.out.below ma).grown mb (fun e => by have h2 := HGG.out _ e.symm; omega)).grown mc (by simp [blk]))
  have HXG18 := hid (((HXG17.out.below ma).grown mb (fun e => by have h2 := HLG.out _ e.symm; omega)).grown mc (by simp [blk]))
  clear HXA17 HBE17 HOW17 HXW17 HOG17 HXG17
  have HOM18 := hid (hd.s)
  clear ma mb mc hd
  have q00 := HXG18.out.c0
  have q01 := HXG18.out.c1
  have q02 := HXG18.out.lt
  go_wp2_with fail
  refine (held_disk ag rs.length cg ag' 0 cg' 1 _ HOM18.out (.inl rfl) (by omega) (by omega)).mono ?_
  rw [show ((1 + rs.length + 2 * 0 : Nat) : Int) = (m : Int) by rw [HM.out]; simp]
  rintro e w17 ⟨rfl, hb⟩
  clear q00 q01 q02
  have HXA19 := hid (HXA18.out.below hb)
  have HBE19 := hid (Below.then HBE18.out (Nat.le_refl _) hb)
  have HOW19 := hid (HOW18.out.below hb)
  have HXW19 := hid (HXW18.out.below hb)
  have HXG19 := hid (HXG18.out.below hb)
  have HOM19 := hid (HOM18.out.below hb)
  clear HXA18 HBE18 HOW18 HXW18 HXG18 HOM18
  clear hb
  have q00 := HXA19.out.c0
  have q01 := HXA19.out.c1
  have q02 := HXA19.out.lt
  go_wp2_with fail
  refine (to_disk a ss c a' ws c' _ (h.below HBE19.out) (h'.below HBE19.out) m1 m2).mono ?_
  rintro e w18 ⟨g8, g8', rfl, _, _, _, hr, hr', hb⟩
  clear q00 q01 q02
  have HXA20 := hid (HXA19.out.below hb)
  have HBE20 := hid (Below.then HBE19.out (Nat.le_refl _) hb)
  have HOW20 := hid (HOW19.out.below hb)
  have HXW20 := hid (HXW19.out.below hb)
  have HXG20 := hid (HXG19.out.below hb)
  have HOM20 := hid (HOM19.out.below hb)
  clear HXA19 HBE19 HOW19 HXW19 HXG19 HOM19
  have HS120 := hid (hr.strs)
  have HS220 := hid (hr'.wrs)
  clear hr hr' hb
  go_wp2_with fail
  refine (to_ints f zs cf _ (hz.below HBE20.out) hlz').mono ?_
  rintro e w19 ⟨gz8, rfl, _, hr, hb⟩
  have HXA21 := hid (HXA20.out.below hb)
  have HBE21 := hid (Below.then HBE20.out (Nat.le_refl _) hb)
  have HOW21 := hid (HOW20.out.below hb)
  have HXW21 := hid (HXW20.out.below hb)
  have HXG21 := hid (HXG20.out.below hb)
  have HOM21 := hid (HOM20.out.below hb)
  have HS121 := hid (HS120.out.below hb)
  have HS221 := hid (HS220.out.below hb)
  clear HXA20 HBE20 HOW20 HXW20 HXG20 HOM20 HS120 HS220
  have HS321 := hid (hr.ints)
  clear hr hb
  go_wp2_with fail
  refine (HI.out _ _ _ _ _ _ _ HS121.out HS221.out HS321.out).mono ?_
  rintro e w20 ⟨ah, ch, ah', ch', rfl, ho, _, hb⟩
  have HXA22 := hid (HXA21.out.below hb)
  have HBE22 := hid (Below.then HBE21.out (Nat.le_refl _) hb)
  have HOW22 := hid (HOW21.out.below hb)
  have HXW22 := hid (HXW21.out.below hb)
  have HXG22 := hid (HXG21.out.below hb)
  have HOM22 := hid (HOM21.out.below hb)
  clear HXA21 HBE21 HOW21 HXW21 HXG21 HOM21 HS121 HS221 HS321
  have HOH22 := hid (ho)
  clear ho hb
  have HXA23 := hid (HXA22.out.below (below_new w20 (.cells #[.slice ah rs.length ch, .slice ah' 0 ch'] 57)))
  have HBE23 := hid (Below.then HBE22.out (Nat.le_refl _) (below_new w20 (.cells #[.slice ah rs.length ch, .slice ah' 0 ch'] 57)))
  have HOW23 := hid (HOW22.out.below (below_new w20 (.cells #[.slice ah rs.length ch, .slice ah' 0 ch'] 57)))
  have HXW23 := hid (HXW22.out.below (below_new w20 (.cells #[.slice ah rs.length ch, .slice ah' 0 ch'] 57)))
  have HXG23 := hid (HXG22.out.below (below_new w20 (.cells #[.slice ah rs.length ch, .slice ah' 0 ch'] 57)))
  have HOM23 := hid (HOM22.out.below (below_new w20 (.cells #[.slice ah rs.length ch, .slice ah' 0 ch'] 57)))
  have HOH23 := hid (HOH22.out.below (below_new w20 (.cells #[.slice ah rs.length ch, .slice ah' 0 ch'] 57)))
  clear HXA22 HBE22 HOW22 HXW22 HXG22 HOM22 HOH22
  have HXH23 := hid (Cx.new w20 (.slice ah rs.length ch) (.slice ah' 0 ch') 57)
  have q00 := HXW23.out.c0
  have q01 := HXW23.out.c1
  have q02 := HXW23.out.lt
  have q10 := HXH23.out.c0
  have q11 := HXH23.out.c1
  have q12 := HXH23.out.lt
  go_wp2_with fail
  refine (eq_disk ah aw rs ch cw ah' aw' [] ch' cw' _ HOH23.out.strs HOW23.out.strs (.inl rfl) (.inl rfl) (by omega) (by simp)).mono ?_
  rintro e w21 ⟨rfl, hb⟩
  clear q00 q01 q02 q10 q11 q12
  have HXA24 := hid (HXA23.out.below hb)
  have HBE24 := hid (Below.then HBE23.out (Nat.le_refl _) hb)
  have HOW24 := hid (HOW23.out.below hb)
  have HXW24 := hid (HXW23.out.below hb)
  have HXG24 := hid (HXG23.out.below hb)
  have HOM24 := hid (HOM23.out.below hb)
  have HOH24 := hid (HOH23.out.below hb)
  have HXH24 := hid (HXH23.out.below hb)
  clear HXA23 HBE23 HOW23 HXW23 HXG23 HOM23 HOH23 HXH23
  clear hb
  have q00 := HXG24.out.c0
  have q01 := HXG24.out.c1
  have q02 := HXG24.out.lt
  go_wp2_with fail
  refine (held_disk ag rs.length cg ag' 0 cg' 1 _ HOM24.out (.inl rfl) (by omega) (by omega)).mono ?_
  rw [show ((1 + rs.length + 2 * 0 : Nat) : Int) = (m : Int) by rw [HM.out]; simp]
  rintro e w22 ⟨rfl, hb⟩
  clear q00 q01 q02
  have hfin := Below.then HBE24.out (Nat.le_refl _) hb
  clear hb
  go_wp2
  go_ret
  exact ⟨rfl, hfin⟩

theorem cells1 : Try.prog.cellsOf 9 = 1 := by kernel_rfl
theorem cells2 : Try.prog.cellsOf 189 = 2 := by kernel_rfl
theorem cellsD : Try.prog.cellsOf 52 = 2 := by kernel_rfl
theorem cellsI : Try.prog.cellsOf 3 = 1 := by kernel_rfl
set_option maxHeartbeats 1000000 in
set_option maxRecDepth 100000 in
theorem lifted (os : Os) (started : os.Started) (H : Type) (enc : TypeId × Value → H) :
    ReturnsInHanded {} Try.checked os 5 .any (Rows.fnExactPowerLossSpec.pre6 enc Try.prog Try.f5 Rows.fnExactPowerLossRow.domain false) (Rows.fnExactPowerLossSpec.post enc Try.prog Try.f5 false true false false) := by
  refine returnsInHanded_of_change (C := Try.checked) own started (by kernel_rfl) Try.func5
    (ChangeSpec.witness6 (enc := enc) (C := Try.checked) false ⟨#[], #[.agg #[.slice none 0 0, .slice none 0 0], .slice none 0 0], []⟩ 8 (by kernel_rfl) (by kernel_rfl) (by kernel_rfl) (by kernel_rfl)) ?_
  intro W base args ds gs before hval0 hW hcnd _
  have hval : ∀ (j : Nat) t v, Try.f5.params[j]? = some t → args[j]? = some v → Value.okWide Try.prog W .any base t v := hval0
  have hW' := hW
  obtain ⟨p, q, hA0, hV, rfl, hfz, hnd⟩ := hW
  have hA : DataW.TrodAll enc Try.prog W 0 (fun _ => true) true Try.f5.params.toList args.toList ds p := hA0
  rw [Try.params5] at hA hval
  obtain ⟨v0, vs0, d0, ds0, p0, q0, hargs, rfl, rfl, h0, r0⟩ := trodAll_cons hA
  obtain ⟨v1, vs1, d1, ds1, p1, q1, rfl, rfl, rfl, h1, r1⟩ := trodAll_cons r0
  obtain ⟨rfl, rfl, rfl⟩ := trodAll_nil r1
  obtain rfl : args = #[v0, v1] := by cases args; simp_all
  obtain ⟨rfl, rfl⟩ := trodVars_none hV
  have k0 := h0
  have k1 := h1
  have lt0 : ∀ x ∈ p0, x.block < W.heap.size := by obtain ⟨m, hm⟩ := k0; exact DataW.trod_lt m _ _ _ hm
  have lt1 : ∀ x ∈ p1, x.block < W.heap.size := by obtain ⟨m, hm⟩ := k1; exact DataW.trod_lt m _ _ _ hm
  obtain ⟨c0, c1, y0, y1, mm, rfl, _, _, hy0, hy1⟩ := open_agg2 Try.underlying52 (by kernel_rfl) cellsD (hval 0 52 v0 rfl rfl) h0
  obtain ⟨a, ss, c, rfl, hS, hl, hs⟩ := strs_of_trod Try.underlying49 Try.underlying9 cells1 hy0
  obtain ⟨a', ws, c', rfl, hS', hl', hs', _⟩ := wrs_of_trod Try.underlying50 Try.underlying189 cells2 rfl rfl (by kernel_rfl) (by kernel_rfl) Try.underlying3 Try.underlying9 hy1
  obtain ⟨za, zl, zc, rfl⟩ := okWide_slice Try.underlying53 (hval 1 53 v1 rfl rfl)
  obtain ⟨mz, hmz⟩ := h1
  obtain ⟨f, zs, cf, hze, hZ, hlz⟩ := ints_of_trod Try.underlying53 Try.underlying3 cellsI hmz
  injection hze with hz1 hz2 hz3
  subst hz1 hz2 hz3
  clear hA0 hval0
  refine (walk a ss c a' ws c' za zs zc W hS hS' hZ hl hs hl' hs' hlz).mono fun e W' ⟨he, bel⟩ => ?_
  subst he
  exact ⟨_, rfl, _, _, _, [], _, [], hW', trodAll_mk1 (shut_bool Try.underlying4 _), (trodAll_cons_mk (Below.trod laidOut (by kernel_rfl) (of_decide_eq_true (by kernel_rfl)) k0 bel lt0) (trodAll_cons_mk (Below.trod laidOut (by kernel_rfl) (of_decide_eq_true (by kernel_rfl)) k1 bel lt1) trodAll_mk0)), rfl, bel.frame _, fun h => by cases h⟩

theorem over : Rows.fnExactPowerLossRow.holds Try.pinned (OpenSpec.ofChange Rows.fnExactPowerLossSpec) :=
  OpenClaim.holds_of_wide 5 Try.f5 rfl rfl rfl rfl rfl rfl rfl ⟨rfl, rfl, rfl, rfl, rfl⟩ rfl rfl rfl rfl rfl (by kernel_rfl) Try.func5 (by kernel_rfl)
    (of_decide_eq_true (by kernel_rfl)) (by unfold Func.isWrapper; first | (rw [if_pos (by decide +kernel)]; kernel_rfl) | (rw [if_neg (by decide +kernel)]; exact ⟨rfl, rfl⟩))
    (fun os started H enc _ => lifted os started H enc)

theorem proved : Rows.FnExactPowerLossSaid := over
#print axioms proved
end Go.Proofs.Ytnmaknnnmjfhkad.fnExactPowerLoss
