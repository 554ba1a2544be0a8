import Derived.Test.YtnmaknnnmjfhkacRc
import Derived.Test.YtnmaknnnmjfhkacSct
import Derived.Test.YtnmaknnnmjfhkacCv
namespace Go.Proofs.Ytnmaknnnmjfhkac
open Go.RowKit
set_option linter.unusedVariables false

set_option maxRecDepth 100000 in
set_option maxHeartbeats 2000000 in
theorem rd_cover_no (a : Option Addr) (hs : List (Int × List Int)) (c : Nat) (g n cg : Nat) (m : Int) (w : World) (h : Hld w a hs) (hpos : ∀ p ∈ hs, p.1 ≠ m) (hl : hs.length ≤ 300) (hn2 : n ≤ 200) (hm : ¬ (0 ≤ m ∧ m < (n : Int))) :
    Calls Try.prog 127 #[.agg #[.slice a hs.length c, .iface 106 (.slice (some ⟨g, 0, none⟩) n cg)], .int .i64 m] w fun e w' => e = .returned (.tuple #[.agg (z64.map (Value.int .u8)).toArray, .bool false]) ∧ Below w.heap.size w w' := by
  obtain ⟨RES, HRES⟩ : ∃ RES, Hid (RES = z64) := ⟨_, hid rfl⟩
  have hxl : RES.length = 64 := by rw [HRES.out]; exact z64_length
  have HP := hid (fun w => rd_plate_no g n cg m w hn2 hm)
  rw [← HRES.out] at HP ⊢
  have hb0 : ∀ o1 o2, Below w.heap.size w ((w.alloc o1).alloc o2) := fun o1 o2 => ((Below.refl _ _).alloc (Nat.le_refl _) _).alloc (by simp) _
  go_enter Try.func127, Try.ntmps127
  go_wp2_with fail
  obtain ⟨wy, HWY⟩ : ∃ wy, wy = ((w.alloc (.cells #[.slice a hs.length c, .iface 106 (.slice (some ⟨g, 0, none⟩) n cg)] 150)).alloc (.cells sec64 101)) := ⟨_, rfl⟩
  have hby := hb0 (.cells #[.slice a hs.length c, .iface 106 (.slice (some ⟨g, 0, none⟩) n cg)] 150) (.cells sec64 101)
  have hcx := (Cx.new w (.slice a hs.length c) (.iface 106 (.slice (some ⟨g, 0, none⟩) n cg)) 150).below (below_new _ (.cells sec64 101))
  have hrr := row_new' (w.alloc (.cells #[.slice a hs.length c, .iface 106 (.slice (some ⟨g, 0, none⟩) n cg)] 150)) sec64 101 (w.heap.size + 1) (by simp)
  rw [← HWY] at hby hcx hrr
  go_loopw [6] (fun i wr => ∃ k : Nat, k ≤ hs.length ∧ i = .int .i64 ((k : Int) - 1) ∧ wr = wy) (fun i _ => ((intOf i) + 1).toNat)
  case atStart => exact ⟨hs.length, Nat.le_refl _, rfl, by rw [HWY]; kernel_rfl⟩
  case round =>
    obtain ⟨k, hk, rfl, rfl⟩ := hrel
    have q0 := hcx.c0
    have q1 := hcx.c1
    have HRR := hid hrr
    have HBY := hid hby
    clear hrr HWY
    rcases k with _ | j
    · have hmp := fun k => meth_plate k (some ⟨g, 0, none⟩) n cg wr
      have hxm : (RES.map (Value.int .u8)).toArray.size = 64 := by simp [hxl]
      have HI64 : Hid ((Try.prog.info? 101).map (·.size) = some (RES.map (Value.int .u8)).length) := by show _ = _; rw [List.length_map, hxl]; kernel_rfl
      go_wp2_with fail
      refine (HP.out _).mono ?_
      rintro e w2 ⟨rfl, hb2⟩
      have hth := (HRR.out.below hb2).there (n := 64) (by kernel_rfl)
      have HB2 := hid (Below.then HBY.out (Nat.le_refl _) hb2)
      clear hb2 hmp q0 q1
      go_wp2_with (with_reducible refine at_store 101 _ _ rfl ?_; refine wpList_store_mid rfl 101 _ _ rfl (w.heap.size + 1) 0 (RES.map (Value.int .u8)).toArray rfl rfl (by rw [hxm]; exact hth) (by rw [hxm]; kernel_rfl) (all_oneCell_toArray (ints_one RES)) ?_)
      refine bodyPost_ret (v := .tuple #[.agg (RES.map (Value.int .u8)).toArray, .bool false]) (results_cell1_tmp (p := 4) (u := 5) Try.results127 _ _ (w.heap.size + 1) 0 rfl (RES.map (Value.int .u8)) _ (World.rangeAt_setCells_same _ _ _ _ (by rw [List.length_map, hxl]; exact hth)) Try.underlying101 rfl HI64.out) rfl ⟨rfl, ?_⟩
      exact Go.below_setCells (by omega) _ _ _ HB2.out
    · have hj : j < hs.length := by omega
      obtain ⟨b, o, m0, x, rfl, hlb, hrg, HX⟩ := (h.below hby).at hj
      have hmm : m0 ≠ m := hpos (m0, x) (by rw [HX.out]; simp [List.getD, hj])
      have hc0 := hrg 0 _ rfl
      rw [Nat.add_zero] at hc0
      have e1 : ((j + 1 : Nat) : Int) - 1 = (j : Int) := by omega
      rw [e1]
      clear e1 hrg
      go_wp2
      go_roundw
      case rel => exact ⟨j, by omega, by go_num, trivial⟩
      case measure => simp [intOf]

set_option maxRecDepth 100000 in
set_option maxHeartbeats 2000000 in
theorem sct_i (a : Option Addr) (ss : List ByteArray) (c : Nat) (a' : Option Addr) (ws : List (Int × ByteArray)) (c' : Nat) (n : Int) (w : World) (h : Strs w a ss) (h' : Wrs w a' ws) (hl : ss.length ≤ 1048576) (hl' : ws.length ≤ 1048576) (hs : ∀ s ∈ ss, s.size ≤ 1048576) (hs' : ∀ x ∈ ws, x.2.size ≤ 1048576) :
    Calls Try.prog 23 #[diskV a ss.length c a' ws.length c', .int .i64 n] w fun e w' => e = .returned (.string (sctOf ss ws n)) ∧ Below w.heap.size w w' := by
  have hb0 : ∀ o1, Below w.heap.size w (w.alloc o1) := fun o1 => ((Below.refl _ _).alloc (Nat.le_refl _) _)
  obtain ⟨RES, HRES⟩ : ∃ RES, Hid (RES = sctOf ss ws n) := ⟨_, hid rfl⟩
  rw [← HRES.out]
  cases hok : diskOk ss ws with
  | false =>
    have he : Hid (RES = ByteArray.empty) := by show _ = _; rw [HRES.out]; simp [sctOf, hok]
    go_enter Try.func23, Try.ntmps23
    go_wp2_with fail
    refine (valid_i a ss c a' ws c' _ (h.below (hb0 _)) (h'.below (hb0 _)) hl hl' hs hs').mono ?_
    rw [hok]
    rintro e w1 ⟨rfl, hb1⟩
    have HB1 := hid ((hb0 _).trans (hb1.mono (by simp)))
    clear hb1
    go_wp2
    go_ret
    exact ⟨by rw [he.out]; rfl, HB1.out⟩
  | true =>
    obtain ⟨⟨hn1, hn2, hn3⟩, h64, hw⟩ := diskOk_of hok
    go_enter Try.func23, Try.ntmps23
    go_wp2_with fail
    refine (valid_i a ss c a' ws c' _ (h.below (hb0 _)) (h'.below (hb0 _)) hl hl' hs hs').mono ?_
    rw [hok]
    rintro e w1 ⟨rfl, hb1⟩
    have HX := hid ((Cx.new w (.slice a ss.length c) (.slice a' ws.length c') 44).below hb1)
    have HB1 := hid ((hb0 (.cells #[.slice a ss.length c, .slice a' ws.length c'] 44)).trans (hb1.mono (by simp)))
    clear hb1
    have q0 := HX.out.c0
    have q1 := HX.out.c1
    go_wp2_with fail
    refine (drv_i a ss c a' ws c' _ (h.below HB1.out) (h'.below HB1.out) hn2 hn3 (fun s hs => by have := h64 s hs; omega) (fun x hx => by have := of_decide_eq_true (hw x hx); omega)).mono ?_
    rintro e w2 ⟨g, v, rfl, hpr, hown, hg, hb2⟩
    clear q0 q1
    obtain ⟨a2, c2, hv, ho2⟩ : ∃ a2 c2, v = .slice a2 (hsOf ws).length c2 ∧ OwnS w2 a2 (hcells (hsOf ws)) := by
      rw [hsOf_length]
      rcases owns_forms hown with ⟨e, h0⟩ | ⟨g2, cap, e, h1, h2, hr⟩
      · have : ws = [] := List.eq_nil_of_length_eq_zero h0
        subst this
        exact ⟨none, 0, e, .inl rfl⟩
      · exact ⟨_, cap, e, .inr ⟨g2, rfl, hr⟩⟩
    subst hv
    have HB2 := hid (Below.then HB1.out (Nat.le_refl _) hb2)
    clear hb2 hown
    go_wp2_with fail
    refine (rdr _ _ _ _ _ _ _).mono ?_
    rintro e w3 ⟨rfl, hb3⟩
    have hmc := fun k => meth_cover k (.slice a2 (hsOf ws).length c2) (.iface 106 (.slice (some ⟨g, 0, none⟩) ss.length ss.length)) w3
    have HB3 := hid (Below.then HB2.out (Nat.le_refl _) hb3)
    have HPR := hid (hpr.below hb3)
    have HO := hid (ho2.below hb3)
    clear hpr ho2 hb3
    have hh64 : ∀ p ∈ hsOf ws, p.2.length = 64 := fun p hp => by
      obtain ⟨x, hx, rfl⟩ := List.mem_map.1 hp
      have := of_decide_eq_true (hw x hx)
      show (nums x.2).length = 64
      rw [nums_length]; omega
    have hhld : Hld w3 a2 (hsOf ws) := by
      rcases HO.out with h0 | ⟨g2, rfl, h2⟩
      · refine .inl (List.eq_nil_of_length_eq_zero ?_)
        have := congrArg List.length h0
        rw [hcells_length _ hh64, List.length_nil] at this; omega
      · exact h2.hld hh64
    have HH := hid hhld
    clear hhld
    by_cases hn : 0 ≤ n ∧ n < (ss.length : Int)
    · obtain ⟨m, rfl⟩ : ∃ m : Nat, n = (m : Int) := ⟨n.toNat, by omega⟩
      have hml : m < ss.length := by omega
      have hrl : m < (covs (hsOf ws) (ss.map nums)).length := by rw [covs_length]; simpa using hml
      obtain ⟨x, HXX⟩ : ∃ x, Hid (x = (covs (hsOf ws) (ss.map nums)).getD m []) := ⟨_, hid rfl⟩
      have he : Hid (RES = strOfNums x) := by
        show _ = _
        rw [HRES.out, HXX.out]
        unfold sctOf
        rw [if_pos ⟨hok, hn⟩, Int.toNat_natCast, ← secs_covs]
        simp [secs, List.getD, hrl]
      go_wp2_with fail
      refine (rd_cover a2 (hsOf ws) c2 g ss.length ss.length m (ss.map nums) _ HH.out hh64 (fun p hp => by obtain ⟨y, hy, rfl⟩ := List.mem_map.1 hp; exact (of_decide_eq_true (hw y hy)).1) (by rw [hsOf_length]; exact hn3) HPR.out (by simp) hn2 hml).mono ?_
      rw [← HXX.out]
      rintro e w4 ⟨rfl, hb4⟩
      have hxl : x.length = 64 := by rw [HXX.out]; exact getD_len (covs_all _ _ hh64 HPR.out.len) hrl
      have hxm : (x.map (Value.int .u8)).toArray.size = 64 := by simp [hxl]
      have HI64 : Hid ((Try.prog.info? 101).map (·.size) = some (x.map (Value.int .u8)).length) := by show _ = _; rw [List.length_map, hxl]; kernel_rfl
      have HB4 := hid (Below.then HB3.out (Nat.le_refl _) hb4)
      clear hb4 hmc
      go_wp2_with (first | (with_reducible refine at_store 101 _ _ rfl ?_; refine wpList_store_cells rfl 101 _ _ rfl (x.map (Value.int .u8)) (ints_one x) rfl rfl _ _ (by rw [List.length_map, hxl]; kernel_rfl) HI64.out ?_; intro wx hrow hbx hsx; have hcv := hrow.text (P := Try.prog) x 0 64 64 hxl (fun i hi => by simp [List.getD, show i < x.length by omega]) 22 5 9 Try.underlying22 Try.underlying5 Try.underlying9))
      go_ret
      exact ⟨by rw [he.out]; rfl, Below.then HB4.out (Nat.le_refl _) hbx⟩
    · have he : Hid (RES = ByteArray.empty) := by show _ = _; rw [HRES.out]; unfold sctOf; rw [if_neg (fun x => hn x.2)]
      go_wp2_with fail
      refine (rd_cover_no a2 (hsOf ws) c2 g ss.length ss.length n _ HH.out (fun p hp e => by obtain ⟨y, hy, rfl⟩ := List.mem_map.1 hp; have hy2 := of_decide_eq_true (hw y hy); exact hn ⟨by rw [← e]; exact hy2.1, by rw [← e]; exact hy2.2.1⟩) (by rw [hsOf_length]; exact hn3) hn2 hn).mono ?_
      obtain ⟨x, HXX⟩ : ∃ x, Hid (x = z64) := ⟨_, hid rfl⟩
      rw [← HXX.out]
      rintro e w4 ⟨rfl, hb4⟩
      have hxl : x.length = 64 := by rw [HXX.out]; exact z64_length
      have hxm : (x.map (Value.int .u8)).toArray.size = 64 := by simp [hxl]
      have HI64 : Hid ((Try.prog.info? 101).map (·.size) = some (x.map (Value.int .u8)).length) := by show _ = _; rw [List.length_map, hxl]; kernel_rfl
      have HB4 := hid (Below.then HB3.out (Nat.le_refl _) hb4)
      clear hb4 hmc
      go_wp2_with (first | (with_reducible refine at_store 101 _ _ rfl ?_; refine wpList_store_cells rfl 101 _ _ rfl (x.map (Value.int .u8)) (ints_one x) rfl rfl _ _ (by rw [List.length_map, hxl]; kernel_rfl) HI64.out ?_; intro wx hrow hbx hsx))
      go_ret
      exact ⟨by rw [he.out]; rfl, Below.then HB4.out (Nat.le_refl _) hbx⟩
end Go.Proofs.Ytnmaknnnmjfhkac
