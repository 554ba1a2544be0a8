import Derived.Test.YtnmaknnnmjfhkaeDoorPrG29
import Derived.Test.YtnmaknnnmjfhkaeDoorPrG28
import Derived.Test.YtnmaknnnmjfhkaeDoorPrDrvOf
import Derived.Test.YtnmaknnnmjfhkaeDoorPrValid
set_option maxHeartbeats 16000000
set_option maxRecDepth 8000
namespace Go.Proofs.YtnmaknnnmjfhkaeDoor
open Go.RowKit
set_option linter.unusedVariables false
set_option linter.unusedSimpArgs false
set_option maxRecDepth 100000 in
set_option maxHeartbeats 16000000 in
theorem do_i_sync (base X g n : Nat) (v : Value) (ss : List ByteArray) (ws : List (Int × ByteArray)) (at_ : Int) (d : ByteArray) (w : World) (h : DV w base X g n v (ss.map nums) (hsOf ws)) (hn : ss.length = n) (hok : diskOk ss ws = true) (hbw : base ≤ w.heap.size) :
    Calls Tryd.prog 42 #[.pointer (some ⟨X, 0, none⟩), .agg #[.bool true, .int .i64 at_, .string d]] w fun e w' => (∃ x, e = .returned x) ∧ DV w' base X g n (.slice none 0 0) ((syncs ws ss).map nums) [] ∧ Below base w w' := by
  obtain ⟨⟨hn1, hn2, hn3⟩, h64, hw⟩ := diskOk_of hok
  have hb0 : ∀ o, Below w.heap.size w (w.alloc o) := fun o => (Below.refl _ _).alloc (Nat.le_refl _) _
  have HS := hid (fun (o : Obj) => sync_d base X g n v (ss.map nums) (hsOf ws) (w.alloc o) (h.below (hb0 o)) (by simp [hn]) (by omega) (by rw [hsOf_length]; omega) (hsOf_64 (fun x hx => by have := (wOk_64 (hw x hx)).2; omega)) (fun p hp => by
    obtain ⟨x, hx, rfl⟩ := List.mem_map.1 hp
    have := (wOk_64 (hw x hx)).1
    rw [hn] at this
    exact this) (Nat.le_trans hbw (hb0 o).size))
  go_enter Tryd.func42, Tryd.ntmps42
  go_wp2_with (go_at_call 75; refine (HS.out _).mono ?_; rintro e w1 ⟨⟨x, rfl⟩, hd, hb⟩)
  go_end0
  rw [cvs_set] at hd
  exact ⟨⟨_, rfl⟩, hd, ((hb0 _).mono hbw).trans hb⟩
set_option maxRecDepth 100000 in
set_option maxHeartbeats 16000000 in
theorem do_i_no (base X g n : Nat) (v : Value) (ss : List ByteArray) (ws : List (Int × ByteArray)) (at_ : Int) (d : ByteArray) (w : World) (h : DV w base X g n v (ss.map nums) (hsOf ws)) (hn : ss.length = n) (hok : diskOk ss ws = true) (hd : d.size ≤ 1048576) (hno : wOk ss.length (at_, d) = false ∨ ¬ ws.length < 300) (hbw : base ≤ w.heap.size) :
    Calls Tryd.prog 42 #[.pointer (some ⟨X, 0, none⟩), .agg #[.bool false, .int .i64 at_, .string d]] w fun e w' => (∃ x, e = .returned x) ∧ DV w' base X g n v (ss.map nums) (hsOf ws) ∧ Below base w w' := by
  obtain ⟨⟨hn1, hn2, hn3⟩, h64, hw⟩ := diskOk_of hok
  have hb0 : ∀ o, Below w.heap.size w (w.alloc o) := fun o => (Below.refl _ _).alloc (Nat.le_refl _) _
  obtain ⟨av, cv, rfl⟩ : ∃ a c, v = .slice a ws.length c := by
    rw [← hsOf_length]
    rcases owns_forms h.own with ⟨e, h0⟩ | ⟨g, c, e, _⟩
    · exact ⟨_, _, by rw [e, h0]⟩
    · exact ⟨_, _, e⟩
  have x0 := h.rx.cell 0 _ rfl
  have x1 := h.rx.cell 1 _ rfl
  have hlX := h.rx.lt
  have HD := hid h
  subst hn
  have hcan : ∀ b, wOk ss.length (at_, d) = b → ∀ w', Calls Tryd.prog 73 #[.int .i64 (ss.length : Int), .int .i64 at_, .string d] w' fun e w'' => e = .returned (.bool b) ∧ w'' = w' := fun b hb w' => by
    have := can_i ss.length at_ d w' hd (by omega)
    rw [hb] at this
    exact this
  cases hc : wOk ss.length (at_, d) with
  | false =>
    go_enter Tryd.func42, Tryd.ntmps42
    go_wp2_with fail
    go_quiet ((go_at_call 73; exact Calls.quiet_of_same (hcan false hc _)))
    go_wp2
    go_end0
    exact ⟨⟨_, rfl⟩, HD.out.below (below_drewN (hb0 _) _), (below_drewN (hb0 _) _).mono hbw⟩
  | true =>
    have hlt : (decide ((ws.length : Int) < 300)) = false := by
      rcases hno with h1 | h1
      · rw [hc] at h1; cases h1
      · exact decide_eq_false (by omega)
    go_enter Tryd.func42, Tryd.ntmps42
    go_wp2_with fail
    go_quiet ((go_at_call 73; exact Calls.quiet_of_same (hcan true hc _)))
    go_wp2
    go_end0
    exact ⟨⟨_, rfl⟩, HD.out.below (below_drewN (hb0 _) _), (below_drewN (hb0 _) _).mono hbw⟩
end Go.Proofs.YtnmaknnnmjfhkaeDoor

namespace Go.Proofs.YtnmaknnnmjfhkaeDoor
open Go.RowKit
set_option linter.unusedVariables false
def covs : List (Int × List Int) → List (List Int) → List (List Int)
  | [], ps => ps
  | x :: r, ps => covs r (ps.set x.1.toNat x.2)
theorem covs_length : ∀ (hs : List (Int × List Int)) (ps : List (List Int)), (covs hs ps).length = ps.length
  | [], _ => rfl
  | x :: r, ps => by rw [covs, covs_length r]; simp
theorem covs_append : ∀ (hs : List (Int × List Int)) (x : Int × List Int) (ps : List (List Int)), covs (hs ++ [x]) ps = (covs hs ps).set x.1.toNat x.2
  | [], _, _ => rfl
  | y :: r, x, ps => by rw [List.cons_append, covs, covs_append r]; rfl
theorem covs_take (hs : List (Int × List Int)) (ps : List (List Int)) (k : Nat) (h : k < hs.length) : covs (hs.take (k + 1)) ps = (covs (hs.take k) ps).set (hs.getD k (0, [])).1.toNat (hs.getD k (0, [])).2 := by
  rw [List.take_succ_eq_append_getElem h, covs_append]
  simp [List.getD, h]
theorem meth_plate (k : Nat) (a : Option Addr) (n c : Nat) (w : World) : Sem.run Tryd.prog (method (k + 1) 69 (.slice a n c) "loop.example/kilnstone/impl.read") w = .ok (127, .slice a n c) w := by kernel_rfl
theorem meth_cover (k : Nat) (v v' : Value) (w : World) : Sem.run Tryd.prog (method (k + 1) 126 (.agg #[v, v']) "loop.example/kilnstone/impl.read") w = .ok (129, .agg #[v, v']) w := by kernel_rfl
set_option maxRecDepth 100000 in
set_option maxHeartbeats 16000000 in
theorem rd_cover (a : Option Addr) (hs : List (Int × List Int)) (c : Nat) (g n cg m : Nat) (ps : List (List Int)) (w : World) (h : Hld w a hs) (h64 : ∀ p ∈ hs, p.2.length = 64) (hpos : ∀ p ∈ hs, 0 ≤ p.1) (hl : hs.length ≤ 300) (hp : PR w g ps) (hpl : ps.length = n) (hn2 : n ≤ 200) (hm : m < n) :
    Calls Tryd.prog 129 #[.agg #[.slice a hs.length c, .iface 69 (.slice (some ⟨g, 0, none⟩) n cg)], .int .i64 (m : Int)] w fun e w' => e = .returned (.tuple #[.agg (((covs hs ps).getD m []).map (Value.int .u8)).toArray, .bool true]) ∧ Below w.heap.size w w' := by
  obtain ⟨RES, HRES⟩ : ∃ RES, Hid (RES = (covs hs ps).getD m []) := ⟨_, hid rfl⟩
  rw [← HRES.out]
  have hb0 : ∀ o1 o2, Below w.heap.size w ((w.alloc o1).alloc o2) := fun o1 o2 => ((Below.refl _ _).alloc (Nat.le_refl _) _).alloc (by simp) _
  go_enter Tryd.func129, Tryd.ntmps129
  go_wp2_with fail
  obtain ⟨wy, HWY⟩ : ∃ wy, wy = ((w.alloc (.cells #[.slice a hs.length c, .iface 69 (.slice (some ⟨g, 0, none⟩) n cg)] 126)).alloc (.cells sec64 98)) := ⟨_, rfl⟩
  have hby := hb0 (.cells #[.slice a hs.length c, .iface 69 (.slice (some ⟨g, 0, none⟩) n cg)] 126) (.cells sec64 98)
  have hcx := (Cx.new w (.slice a hs.length c) (.iface 69 (.slice (some ⟨g, 0, none⟩) n cg)) 126).below (below_new _ (.cells sec64 98))
  have hrr := row_new' (w.alloc (.cells #[.slice a hs.length c, .iface 69 (.slice (some ⟨g, 0, none⟩) n cg)] 126)) sec64 98 (w.heap.size + 1) (by simp)
  rw [← HWY] at hby hcx hrr
  go_loopw [6] (fun i wr => ∃ k : Nat, k ≤ hs.length ∧ i = .int .i64 ((k : Int) - 1) ∧ Hid (RES = (covs (hs.take k) ps).getD m []) ∧ wr = wy) (fun i _ => ((intOf i) + 1).toNat)
  case atStart => exact ⟨hs.length, Nat.le_refl _, rfl, by show _ = _; rw [List.take_length, HRES.out], by rw [HWY]; kernel_rfl⟩
  case round =>
    obtain ⟨k, hk, rfl, HK, rfl⟩ := hrel
    have q0 := hcx.c0
    have q1 := hcx.c1
    have HRR := hid hrr
    have HBY := hid hby
    clear hrr HWY
    rcases k with _ | j
    · have hpw := hp.below hby
      have hmp := fun k => meth_plate k (some ⟨g, 0, none⟩) n cg wr
      have hxl : RES.length = 64 := by rw [HK.out]; exact getD_len hp.len (by omega)
      have hxm : (RES.map (Value.int .u8)).toArray.size = 64 := by simp [hxl]
      have HI64 : Hid ((Tryd.prog.info? 98).map (·.size) = some (RES.map (Value.int .u8)).length) := by show _ = _; rw [List.length_map, hxl]; kernel_rfl
      have HKR : Hid (ps.getD m [] = RES) := HK.out.symm
      go_wp2_with fail
      refine (rd_plate g n cg m ps _ hpw hpl hn2 hm).mono ?_
      rw [HKR.out]
      rintro e w2 ⟨rfl, hb2⟩
      have hth := (HRR.out.below hb2).there (n := 64) (by kernel_rfl)
      have HB2 := hid (Below.then HBY.out (Nat.le_refl _) hb2)
      clear hb2 hpw hmp q0 q1
      go_wp2_with (with_reducible refine at_store 98 _ _ rfl ?_; refine wpList_store_mid rfl 98 _ _ rfl (w.heap.size + 1) 0 (RES.map (Value.int .u8)).toArray rfl rfl (by rw [hxm]; exact hth) (by rw [hxm]; kernel_rfl) (all_oneCell_toArray (ints_one RES)) ?_)
      refine bodyPost_ret (v := .tuple #[.agg (RES.map (Value.int .u8)).toArray, .bool true]) (results_cell1_tmp (p := 4) (u := 5) Tryd.results129 _ _ (w.heap.size + 1) 0 rfl (RES.map (Value.int .u8)) _ (World.rangeAt_setCells_same _ _ _ _ (by rw [List.length_map, hxl]; exact hth)) Tryd.underlying98 rfl HI64.out) rfl ⟨rfl, ?_⟩
      exact Go.below_setCells (by omega) _ _ _ HB2.out
    · have hj : j < hs.length := by omega
      obtain ⟨b, o, m0, x, rfl, hlb, hrg, HX⟩ := (h.below hby).at hj
      have hxl : x.length = 64 := h64 (m0, x) (by rw [HX.out]; simp [List.getD, hj])
      have hc0 := hrg 0 _ rfl
      rw [Nat.add_zero] at hc0
      have e1 : ((j + 1 : Nat) : Int) - 1 = (j : Int) := by omega
      rw [e1]
      clear e1
      by_cases hmm : m0 = (m : Int)
      · subst hmm
        have hmc : m < (covs (hs.take j) ps).length := by rw [covs_length]; omega
        have HKR : Hid (x = RES) := by
          show _ = _
          rw [HK.out, covs_take hs ps j hj, ← HX.out, Int.toNat_natCast]
          simp [List.getD, hmc]
        rw [HKR.out] at hrg hxl
        have hxm : (RES.map (Value.int .u8)).toArray.size = 64 := by simp [hxl]
        have HI64 : Hid ((Tryd.prog.info? 98).map (·.size) = some (RES.map (Value.int .u8)).length) := by show _ = _; rw [List.length_map, hxl]; kernel_rfl
        have HRG : Hid (wr.rangeAt b (o + j * 65 + 1) (RES.map (Value.int .u8))) := fun i v hv => by
          have := hrg (i + 1) v (by simpa using hv)
          rw [← this]; congr 2; omega
        have hth := HRR.out.there (n := 64) (by kernel_rfl)
        clear hrg
        go_wp2_with (first | (with_reducible refine at_load 98 _ rfl ?_; refine wpList_load_mid rfl 98 _ rfl b (o + j * 65 + 1) rfl (RES.map (Value.int .u8)) _ HRG.out Tryd.underlying98 rfl HI64.out ?_) | (with_reducible refine at_store 98 _ _ rfl ?_; refine wpList_store_mid rfl 98 _ _ rfl (w.heap.size + 1) 0 (RES.map (Value.int .u8)).toArray rfl rfl (by rw [hxm]; exact hth) (by rw [hxm]; kernel_rfl) (all_oneCell_toArray (ints_one RES)) ?_))
        refine bodyPost_ret (v := .tuple #[.agg (RES.map (Value.int .u8)).toArray, .bool true]) (results_cell1_tmp (p := 4) (u := 5) Tryd.results129 _ _ (w.heap.size + 1) 0 rfl (RES.map (Value.int .u8)) _ (World.rangeAt_setCells_same _ _ _ _ (by rw [List.length_map, hxl]; exact hth)) Tryd.underlying98 rfl HI64.out) rfl ⟨rfl, ?_⟩
        exact Go.below_setCells (by omega) _ _ _ HBY.out
      · have HK' : Hid (RES = (covs (hs.take j) ps).getD m []) := by
          show _ = _
          rw [HK.out, covs_take hs ps j hj, ← HX.out]
          have h0 : 0 ≤ m0 := hpos (m0, x) (by rw [HX.out]; simp [List.getD, hj])
          have hne : m0.toNat ≠ m := by omega
          simp [List.getD, List.getElem?_set_ne hne]
        clear hrg
        go_wp2
        go_roundw
        case rel => exact ⟨j, by omega, by go_num, HK', trivial⟩
        case measure => simp [intOf]
end Go.Proofs.YtnmaknnnmjfhkaeDoor

namespace Go.Proofs.YtnmaknnnmjfhkaeDoor
open Go.RowKit
set_option linter.unusedVariables false
theorem covs_all : ∀ (hs : List (Int × List Int)) (ps : List (List Int)), (∀ p ∈ hs, p.2.length = 64) → (∀ p ∈ ps, p.length = 64) → ∀ p ∈ covs hs ps, p.length = 64
  | [], ps, _, h => h
  | x :: r, ps, h1, h2 => covs_all r _ (fun p hp => h1 p (List.mem_cons_of_mem _ hp)) (fun p hp => by
    rcases List.mem_or_eq_of_mem_set hp with h3 | h3
    · exact h2 p h3
    · rw [h3]; exact h1 x (List.mem_cons_self ..))
theorem secs_covs : ∀ (ws : List (Int × ByteArray)) (ss : List ByteArray), secs (covs (hsOf ws) (ss.map nums)) = syncs ws ss
  | [], ss => by
    show (ss.map nums).map strOfNums = ss
    rw [List.map_map]
    exact List.map_id'' (fun s => strOfNums_nums s) ss
  | x :: r, ss => by
    have := secs_covs r (ss.set x.1.toNat x.2)
    rw [List.map_set] at this
    exact this
end Go.Proofs.YtnmaknnnmjfhkaeDoor

namespace Go.Proofs.YtnmaknnnmjfhkaeDoor
open Go.RowKit
set_option maxRecDepth 4000
set_option linter.unusedVariables false
set_option maxHeartbeats 16000000 in
theorem new_i (n : Nat) (w : World) (h1 : 8 ≤ n) (h2 : n ≤ 200) :
    Calls Tryd.prog 12 #[.int .i64 (n : Int)] w fun e w' => ∃ g c a' c', e = .returned (diskV (some ⟨g, 0, none⟩) n c a' 0 c') ∧ w.heap.size ≤ g ∧ Row w' g ((List.replicate n zeros).map Value.string) ∧ Below w.heap.size w w' := by
  have h1' : (8 : Int) ≤ (n : Int) := by omega
  have h2' : (n : Int) ≤ 200 := by omega
  have hd : decide (8 ≤ (n : Int) ∧ (n : Int) ≤ 200) = true := decide_eq_true ⟨h1', h2'⟩
  go_enter Tryd.func12, Tryd.ntmps12
  go_wp2_with (first | (go_at_call 38; refine (dsize_i _ _).mono ?_; rw [hd]; rintro e w' ⟨rfl, rfl⟩) | (at_make; refine wpList_make_new rfl _ _ 69 rfl 98 _ 64 64 Tryd.underlying69 infoSec n rfl rfl (by omega) (by omega) ?_; intro wx hrow hbx hsx; rw [made_secs] at hrow))
  have hW0 : Below (w.alloc (.cells #[.slice none 0 0, .slice none 0 0] 31)).heap.size (w.alloc (.cells #[.slice none 0 0, .slice none 0 0] 31)) wx := by simpa using hbx
  simp only [World.size_alloc] at hrow
  have hp := (plt_zero hrow).below ((Below.refl _ _).alloc (Nat.le_refl _) (.cells #[.slice (some ⟨w.heap.size + 1, 0, none⟩) n n, .slice none 0 0] 72))
  refine (disk_i' (some ⟨w.heap.size + 1, 0, none⟩) (List.replicate n (List.replicate 64 0)) n n none [] 0 0 (by simp) rfl _ hp (.inl rfl) h2 (by omega) (fun p hp => by rw [List.eq_of_mem_replicate hp]; simp) (fun p hp => by simp at hp)).mono ?_
  rintro e w3 ⟨a1, c1, a2, c2, rfl, ho, hg1, hg2, hb3⟩
  have hb4 := hW0.trans (((Below.refl _ _).alloc (Nat.le_refl _) _).trans (hb3.mono (by simp)) |>.mono hW0.size)
  have hs1 : w.heap.size + 1 ≤ wx.heap.size := by have := hW0.size; simpa using this
  obtain ⟨g, rfl, hr⟩ := ho.s.resolve_left (strs_ne (by simp [secs]; omega))
  have hgw : w.heap.size + 1 ≤ g := by have := hg1 g (blk_pos g 0 n (by omega)); simp at this; omega
  have hsec : secs (List.replicate n (List.replicate 64 0)) = List.replicate n zeros := by simp [secs, zeros]
  rw [hsec] at hr
  have q0 : w3.cell? ⟨w.heap.size, 0, none⟩ = some (.slice none 0 0) := (hb4.cell (p := ⟨w.heap.size, 0, none⟩) (by simp)).trans (by go_simp)
  have q1 : w3.cell? ⟨w.heap.size, 1, none⟩ = some (.slice none 0 0) := (hb4.cell (p := ⟨w.heap.size, 1, none⟩) (by simp)).trans (by go_simp)
  have f0 : w3.frozen? ⟨w.heap.size, 0, none⟩ = false := (hb4.frozen (p := ⟨w.heap.size, 0, none⟩) (by simp)).trans (by go_simp)
  have f1 : w3.frozen? ⟨w.heap.size, 1, none⟩ = false := (hb4.frozen (p := ⟨w.heap.size, 1, none⟩) (by simp)).trans (by go_simp)
  have HR := hid hr
  have HB := hid (((Below.refl w.heap.size w).alloc (Nat.le_refl _) (.cells #[.slice none 0 0, .slice none 0 0] 31)).trans (hb4.mono (by simp)))
  clear hb4 hb3 ho hg1 hg2 hp hrow hW0 hbx hr hsec
  go_wp2
  refine bodyPost_ret (v := diskV (some ⟨g, 0, none⟩) n c1 a2 0 c2) (by simp [results, Tryd.results12, go_sem, q0, q1]) rfl ⟨g, c1, a2, c2, rfl, by omega, ?_, ?_⟩
  · exact (HR.out.other _ (by show w.heap.size ≠ g; omega) _).other _ (by show w.heap.size ≠ g; omega) _
  · exact (HB.out.setCell (Nat.le_refl _) _).setCell (Nat.le_refl _) _
end Go.Proofs.YtnmaknnnmjfhkaeDoor
