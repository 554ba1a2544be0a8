import Derived.Test.YtnmaknnnmjfhkaeDoorPrPfK
set_option maxHeartbeats 16000000
set_option maxRecDepth 8000
namespace Go.Proofs.YtnmaknnnmjfhkaeDoor
open Go.RowKit
set_option linter.unusedVariables false
set_option linter.unusedSimpArgs false
theorem Ops.take {w : World} {a : Option Addr} {rs : List (Bool × Int × ByteArray)} (h : Ops w a rs) (m : Nat) : Ops w a (rs.take m) := by
  rcases h with h | ⟨b, o, h1, h2, h3⟩
  · exact .inl (by rw [h]; simp)
  · refine .inr ⟨b, o, h1, h2, fun i hi => ?_⟩
    have hi' : i < rs.length ∧ i < m := by simp at hi; omega
    have e : (rs.take m).getD i (false, 0, ByteArray.empty) = rs.getD i (false, 0, ByteArray.empty) := by simp [List.getD, List.getElem?_take, hi'.2]
    rw [e]
    exact h3 i hi'.1
theorem Row.lowB {w w' : World} {R base : Nat} {cs : List Value} (h : Row w R cs) (hb : Below base w w') (hR : R < base) : Row w' R cs :=
  ⟨Nat.lt_of_lt_of_le h.lt hb.size, fun i v hv => (hb.cell (p := ⟨R, i, none⟩) hR).trans (h.cell i v hv), fun i hi => (hb.frozen (p := ⟨R, i, none⟩) hR).trans (h.froz i hi)⟩
theorem OwnS.setp {w : World} {a : Option Addr} {cs : List Value} (h : OwnS w a cs) (p : Addr) (hp : ∀ g, a = some ⟨g, 0, none⟩ → cs ≠ [] → p.block ≠ g) (v : Value) : OwnS (w.setCell p v) a cs := by
  rcases h with h | ⟨g, h1, h2⟩
  · exact .inl h
  · by_cases hc : cs = []
    · exact .inl hc
    · exact .inr ⟨g, h1, h2.other p (hp g h1 hc) v⟩
theorem secs_nums (ss : List ByteArray) : secs (ss.map nums) = ss := by
  unfold secs
  rw [List.map_map]
  exact List.map_id'' (fun s => strOfNums_nums s) ss
theorem held_hsOf (ws : List (Int × ByteArray)) : held (hsOf ws) = ws := by
  unfold held hsOf
  rw [List.map_map]
  exact List.map_id'' (fun x => by show (x.1, strOfNums (nums x.2)) = x; rw [strOfNums_nums]) ws
theorem DV.form {w : World} {base X g n : Nat} {v : Value} {ps : List (List Int)} {hs : List (Int × List Int)} (h : DV w base X g n v ps hs) (h64 : ∀ p ∈ hs, p.2.length = 64) : ∃ a c, v = .slice a hs.length c ∧ Hld w a hs := by
  rcases owns_forms h.own with ⟨e, h0⟩ | ⟨g, c, e, _, _, hr⟩
  · exact ⟨_, _, by rw [e, h0], .inl (List.eq_nil_of_length_eq_zero h0)⟩
  · exact ⟨_, _, e, hr.hld h64⟩
theorem do_i (base X g n : Nat) (v : Value) (ss : List ByteArray) (ws : List (Int × ByteArray)) (s : Bool) (at_ : Int) (d : ByteArray) (w : World) (h : DV w base X g n v (ss.map nums) (hsOf ws)) (hn : ss.length = n) (hok : diskOk ss ws = true) (hd : d.size ≤ 1048576) (hbw : base ≤ w.heap.size) :
    Calls Tryd.prog 42 #[.pointer (some ⟨X, 0, none⟩), .agg #[.bool s, .int .i64 at_, .string d]] w fun e w' => (∃ x, e = .returned x) ∧ (∃ v', DV w' base X g n v' ((opD (ss, ws) (s, at_, d)).1.map nums) (hsOf (opD (ss, ws) (s, at_, d)).2)) ∧ Below base w w' := by
  cases s with
  | true =>
    rw [opD_sync]
    refine (do_i_sync base X g n v ss ws at_ d w h hn hok hbw).mono ?_
    rintro e w' ⟨h1, h2, h3⟩
    exact ⟨h1, ⟨_, h2⟩, h3⟩
  | false =>
    cases hc : wOk ss.length (at_, d) with
    | false =>
      rw [opD_no (ss, ws) (at_, d) (.inl hc)]
      refine (do_i_no base X g n v ss ws at_ d w h hn hok hd (.inl hc) hbw).mono ?_
      rintro e w' ⟨h1, h2, h3⟩
      exact ⟨h1, ⟨_, h2⟩, h3⟩
    | true =>
      by_cases hl : ws.length < 300
      · rw [opD_yes (ss, ws) (at_, d) hc hl]
        exact do_i_yes base X g n v ss ws at_ d w h hn hok hc hl hbw
      · rw [opD_no (ss, ws) (at_, d) (.inr hl)]
        refine (do_i_no base X g n v ss ws at_ d w h hn hok hd (.inr hl) hbw).mono ?_
        rintro e w' ⟨h1, h2, h3⟩
        exact ⟨h1, ⟨_, h2⟩, h3⟩
end Go.Proofs.YtnmaknnnmjfhkaeDoor

namespace Go.Proofs.YtnmaknnnmjfhkaeDoor
open Go.RowKit
set_option linter.unusedVariables false
set_option linter.unusedSimpArgs false
def pfN (z : Int) (n : Nat) : Nat := min z.toNat n
set_option maxRecDepth 100000 in
set_option maxHeartbeats 16000000 in
theorem pf_i_a (a : Option Addr) (ss : List ByteArray) (c : Nat) (a' : Option Addr) (ws : List (Int × ByteArray)) (c' : Nat) (f : Option Addr) (rs : List (Bool × Int × ByteArray)) (cf : Nat) (z : Int) (w : World) (h : Strs w a ss) (h' : Wrs w a' ws) (hz : Ops w f rs) (hcf : rs.length ≤ cf) (hlz : rs.length ≤ 1048576) (hz0 : z < 0) (hsz : ∀ x ∈ rs, x.2.2.size ≤ 1048576) (hok : diskOk ss ws = true) :
    Calls Tryd.prog 13 #[diskV a ss.length c a' ws.length c', .slice f rs.length cf, .int .i64 z] w fun e w' => ∃ a1 c1 a1' c1', e = .returned (diskV a1 (opsD (rs.take (0)) (ss, ws)).1.length c1 a1' (opsD (rs.take (0)) (ss, ws)).2.length c1') ∧ OwnD w' a1 (opsD (rs.take (0)) (ss, ws)).1 a1' (opsD (rs.take (0)) (ss, ws)).2 ∧ (∀ g, blk a1 (opsD (rs.take (0)) (ss, ws)).1.length = some g → w.heap.size ≤ g) ∧ (∀ g, blk a1' (opsD (rs.take (0)) (ss, ws)).2.length = some g → w.heap.size ≤ g) ∧ Below w.heap.size w w' := by
  obtain ⟨⟨hn1, hn2, hn3⟩, h64, hw⟩ := diskOk_of hok
  have hb0 : ∀ o1 o2, Below w.heap.size w ((w.alloc o1).alloc o2) := fun o1 o2 => ((Below.refl _ _).alloc (Nat.le_refl _) _).alloc (by simp) _
  have hml : 0 ≤ rs.length := by omega
  obtain ⟨RS, HRS⟩ : ∃ RS, Hid (RS = rs.take (0)) := ⟨_, hid rfl⟩
  have hRSl : RS.length = 0 := by rw [HRS.out]; simp
  have hzt : Ops w f RS := by rw [HRS.out]; exact hz.take (0)
  have HSZ : Hid (∀ x ∈ RS, x.2.2.size ≤ 1048576) := fun x hx => hsz x (by rw [HRS.out] at hx; exact List.mem_of_mem_take hx)
  rw [← HRS.out]
  obtain ⟨RES, HRES⟩ : ∃ RES, Hid (RES = opsD RS (ss, ws)) := ⟨_, hid rfl⟩
  rw [← HRES.out]
  go_enter Tryd.func13, Tryd.ntmps13
  go_wp2_with fail
  refine (valid_i a ss c a' ws c' _ (h.below (hb0 _ _)) (h'.below (hb0 _ _)) (by omega) (by omega) (fun s hs => by have := h64 s hs; omega) (fun x hx => by have := of_decide_eq_true (hw x hx); omega)).mono ?_
  rw [hok]
  rintro e w1 ⟨rfl, hb1⟩
  have hB1 := (hb0 _ _).trans (hb1.mono (by simp; omega))
  obtain ⟨q1, q2⟩ := bcell hb1
  have rR := (row_new' (w.alloc (.cells #[.slice a ss.length c, .slice a' ws.length c'] 31)) #[.slice none 0 0, .slice none 0 0] 31 (w.heap.size + 1) (by simp)).below hb1
  have HRR := hid rR
  have HB1 := hid hB1
  clear rR hb1 hB1
  go_wp2_with fail
  refine (drv_i a ss c a' ws c' _ (h.below HB1.out) (h'.below HB1.out) hn2 hn3 (fun s hs => by have := h64 s hs; omega) (fun x hx => by have := of_decide_eq_true (hw x hx); omega)).mono ?_
  rintro e w2 ⟨g, v, rfl, hpr, hown, hg, hb2⟩
  clear q1 q2
  have HRR2 := hid (HRR.out.below hb2)
  have HRR1 : Hid (w.heap.size + 1 + 1 ≤ g) := by have := HRR.out.lt; show _ ≤ _; omega
  have HB2 := hid (Below.then HB1.out (Nat.le_refl _) hb2)
  have hgl : g < w2.heap.size := hpr.lt
  have hgw := HRR1.out
  rw [← hsOf_length] at hown
  have hnb : ∀ k, v.ownBlock = some k → g + 1 ≤ k ∧ k < w2.heap.size := fun k hk => hown.lt k hk
  have hst : DV (w2.alloc (.cells #[.slice (some ⟨g, 0, none⟩) ss.length ss.length, v] 72)) (w.heap.size + 1 + 1) w2.heap.size g ss.length v (ss.map nums) (hsOf ws) :=
    ⟨row_new _ _ _, hpr.below (below_new _ _), (owns_below hown (below_new _ _)).mono (by omega), fun e => by have := hnb _ e; omega, fun e => by have := hnb _ e; omega, by omega, by omega, by omega⟩
  have hszx : w.heap.size + 1 + 1 ≤ (w2.alloc (.cells #[.slice (some ⟨g, 0, none⟩) ss.length ss.length, v] 72)).heap.size := by simp; omega
  have HST := hid hst
  have HR0 := hid (HRR2.out.alloc (.cells #[.slice (some ⟨g, 0, none⟩) ss.length ss.length, v] 72))
  have HBW := hid (Below.then HB2.out (Nat.le_refl _) (below_new w2 (.cells #[.slice (some ⟨g, 0, none⟩) ss.length ss.length, v] 72)))
  obtain ⟨av, cv, hv⟩ : ∃ a c, v = .slice a ws.length c := by
    rw [← hsOf_length]
    rcases owns_forms hown with ⟨e, h0⟩ | ⟨g, c, e, _⟩
    · exact ⟨_, _, by rw [e, h0]⟩
    · exact ⟨_, _, e⟩
  subst hv
  have HOK := hid hok
  clear hst hpr hown hb2 HB1 HRR HB2 HRR2 hnb
  go_wp2
  obtain ⟨wq, HWQ⟩ : ∃ wq, wq = w2.alloc (.cells #[.slice (some ⟨g, 0, none⟩) ss.length ss.length, .slice av ws.length cv] 72) := ⟨_, rfl⟩
  rw [← HWQ] at HST HR0 HBW hszx ⊢
  go_loopw [9, 24] (fun _ i wr => ∃ (k : Nat) (d : List ByteArray × List (Int × ByteArray)) (v : Value), k ≤ 0 ∧ i = .int .i64 k ∧ d.1.length = ss.length ∧ Hid (diskOk d.1 d.2 = true) ∧ Hid (opsD (RS.drop k) d = RES) ∧ Hid (DV wr (w.heap.size + 1 + 1) w2.heap.size g ss.length v (d.1.map nums) (hsOf d.2)) ∧ Hid (Row wr (w.heap.size + 1) [.slice none 0 0, .slice none 0 0]) ∧ Hid (Below w.heap.size w wr) ∧ w.heap.size + 1 + 1 ≤ wr.heap.size) (fun _ i _ => 0 - (intOf i).toNat)
  case atStart => exact ⟨0, (ss, ws), _, Nat.zero_le _, rfl, rfl, HOK, by show _ = _; rw [List.drop_zero, HRES.out], HST, HR0, HBW, hszx⟩
  case round =>
    obtain ⟨k, d, v, hk, rfl, hdl, HDO, HK, HDV, HRR, HBE, hsw⟩ := hrel
    by_cases hlt : k < 0
    · omega
    · have hres : Hid (d = RES) := by
        have := HK.out
        rw [List.drop_of_length_le (by rw [hRSl]; omega)] at this
        exact this
      clear HK HRES HST HR0 HBW
      obtain rfl := hres.out
      obtain ⟨⟨hm1, hm2, hm3⟩, hm64, hmw⟩ := diskOk_of HDO.out
      have H64 := hid (hsOf_64 (ws := d.2) fun x hx => by have := of_decide_eq_true (hmw x hx); omega)
      obtain ⟨a2, c2, hv, hld⟩ := HDV.out.form H64.out
      rw [hsOf_length] at hv
      have q0 := HDV.out.rx.cell 0 _ rfl
      have q1 := HDV.out.rx.cell 1 _ rfl
      rw [hv] at q1
      have HLD := hid hld
      clear hm1 hm64 hmw hld
      go_wp2_with fail
      refine (disk_i' (some ⟨g, 0, none⟩) (d.1.map nums) ss.length ss.length a2 (hsOf d.2) d.2.length c2 (by simp [hdl]) (hsOf_length _) _ HDV.out.pr.plt HLD.out hn2 (by omega) HDV.out.pr.len H64.out).mono ?_
      rintro e w5 ⟨a1, c1, a1', c1', rfl, hod, hg1, hg2, hb5⟩
      rw [secs_nums, held_hsOf] at hod
      have rR := HRR.out.below hb5
      have r0 := rR.cell 0 _ rfl
      have r1 := rR.cell 1 _ rfl
      have fr0 := rR.froz 0 (by simp)
      have fr1 := rR.froz 1 (by simp)
      have HB5 := hid (Below.then HBE.out (Nat.le_refl _) hb5)
      have HOD := hid hod
      have hbs := HBE.out.size
      have HG1 : Hid (∀ g, blk a1 ss.length = some g → w.heap.size + 1 < g) := fun g hg => by have h1 := hg1 g hg; omega
      have HG2 : Hid (∀ g, blk a1' d.2.length = some g → w.heap.size + 1 < g) := fun g hg => by have h1 := hg2 g hg; omega
      clear hod hg1 hg2 hb5 rR q0 q1
      go_wp2
      rw [hdl]
      have hd1 : d.1.length ≠ 0 := by omega
      have hs1 : ∀ (wz : World) (u : Value) (i : Nat), OwnD wz a1 d.1 a1' d.2 → OwnD (wz.setCell ⟨w.heap.size + 1, i, none⟩ u) a1 d.1 a1' d.2 := fun wz u i ho => by
        refine ⟨ho.s.setp _ (fun g3 e3 hne e => ?_) _, ho.p.setp _ (fun g3 e3 hne e => ?_) _, ho.ne⟩
        · have := HG1.out g3 (by rw [e3]; exact blk_pos g3 0 _ (by omega))
          have e' : w.heap.size + 1 = g3 := e
          omega
        · have := HG2.out g3 (by rw [e3]; exact blk_pos g3 0 _ (fun e0 => hne (by rw [List.eq_nil_of_length_eq_zero e0]; rfl)))
          have e' : w.heap.size + 1 = g3 := e
          omega
      refine bodyPost_ret (v := diskV a1 ss.length c1 a1' d.2.length c1') (by simp [results, Tryd.results13, go_sem, r0, r1]) rfl ⟨a1, c1, a1', c1', rfl, hs1 _ _ _ (hs1 _ _ _ HOD.out), fun g hg => by have := HG1.out g hg; omega, fun g hg => by have := HG2.out g hg; omega, ?_⟩
      exact (HB5.out.setCell (by show w.heap.size ≤ w.heap.size + 1; omega) _).setCell (by show w.heap.size ≤ w.heap.size + 1; omega) _
set_option maxRecDepth 100000 in
set_option maxHeartbeats 16000000 in
theorem pf_i_b (a : Option Addr) (ss : List ByteArray) (c : Nat) (a' : Option Addr) (ws : List (Int × ByteArray)) (c' : Nat) (f : Option Addr) (rs : List (Bool × Int × ByteArray)) (cf : Nat) (zn : Nat) (w : World) (h : Strs w a ss) (h' : Wrs w a' ws) (hz : Ops w f rs) (hcf : rs.length ≤ cf) (hlz : rs.length ≤ 1048576) (hz0 : zn < rs.length) (hsz : ∀ x ∈ rs, x.2.2.size ≤ 1048576) (hok : diskOk ss ws = true) :
    Calls Tryd.prog 13 #[diskV a ss.length c a' ws.length c', .slice f rs.length cf, .int .i64 (zn : Int)] w fun e w' => ∃ a1 c1 a1' c1', e = .returned (diskV a1 (opsD (rs.take (zn)) (ss, ws)).1.length c1 a1' (opsD (rs.take (zn)) (ss, ws)).2.length c1') ∧ OwnD w' a1 (opsD (rs.take (zn)) (ss, ws)).1 a1' (opsD (rs.take (zn)) (ss, ws)).2 ∧ (∀ g, blk a1 (opsD (rs.take (zn)) (ss, ws)).1.length = some g → w.heap.size ≤ g) ∧ (∀ g, blk a1' (opsD (rs.take (zn)) (ss, ws)).2.length = some g → w.heap.size ≤ g) ∧ Below w.heap.size w w' := by
  obtain ⟨⟨hn1, hn2, hn3⟩, h64, hw⟩ := diskOk_of hok
  have hb0 : ∀ o1 o2, Below w.heap.size w ((w.alloc o1).alloc o2) := fun o1 o2 => ((Below.refl _ _).alloc (Nat.le_refl _) _).alloc (by simp) _
  have hml : zn ≤ rs.length := by omega
  obtain ⟨RS, HRS⟩ : ∃ RS, Hid (RS = rs.take (zn)) := ⟨_, hid rfl⟩
  have hRSl : RS.length = zn := by rw [HRS.out]; simp; omega
  have hzt : Ops w f RS := by rw [HRS.out]; exact hz.take (zn)
  have HSZ : Hid (∀ x ∈ RS, x.2.2.size ≤ 1048576) := fun x hx => hsz x (by rw [HRS.out] at hx; exact List.mem_of_mem_take hx)
  rw [← HRS.out]
  obtain ⟨RES, HRES⟩ : ∃ RES, Hid (RES = opsD RS (ss, ws)) := ⟨_, hid rfl⟩
  rw [← HRES.out]
  go_enter Tryd.func13, Tryd.ntmps13
  go_wp2_with fail
  refine (valid_i a ss c a' ws c' _ (h.below (hb0 _ _)) (h'.below (hb0 _ _)) (by omega) (by omega) (fun s hs => by have := h64 s hs; omega) (fun x hx => by have := of_decide_eq_true (hw x hx); omega)).mono ?_
  rw [hok]
  rintro e w1 ⟨rfl, hb1⟩
  have hB1 := (hb0 _ _).trans (hb1.mono (by simp; omega))
  obtain ⟨q1, q2⟩ := bcell hb1
  have rR := (row_new' (w.alloc (.cells #[.slice a ss.length c, .slice a' ws.length c'] 31)) #[.slice none 0 0, .slice none 0 0] 31 (w.heap.size + 1) (by simp)).below hb1
  have HRR := hid rR
  have HB1 := hid hB1
  clear rR hb1 hB1
  go_wp2_with fail
  refine (drv_i a ss c a' ws c' _ (h.below HB1.out) (h'.below HB1.out) hn2 hn3 (fun s hs => by have := h64 s hs; omega) (fun x hx => by have := of_decide_eq_true (hw x hx); omega)).mono ?_
  rintro e w2 ⟨g, v, rfl, hpr, hown, hg, hb2⟩
  clear q1 q2
  have HRR2 := hid (HRR.out.below hb2)
  have HRR1 : Hid (w.heap.size + 1 + 1 ≤ g) := by have := HRR.out.lt; show _ ≤ _; omega
  have HB2 := hid (Below.then HB1.out (Nat.le_refl _) hb2)
  have hgl : g < w2.heap.size := hpr.lt
  have hgw := HRR1.out
  rw [← hsOf_length] at hown
  have hnb : ∀ k, v.ownBlock = some k → g + 1 ≤ k ∧ k < w2.heap.size := fun k hk => hown.lt k hk
  have hst : DV (w2.alloc (.cells #[.slice (some ⟨g, 0, none⟩) ss.length ss.length, v] 72)) (w.heap.size + 1 + 1) w2.heap.size g ss.length v (ss.map nums) (hsOf ws) :=
    ⟨row_new _ _ _, hpr.below (below_new _ _), (owns_below hown (below_new _ _)).mono (by omega), fun e => by have := hnb _ e; omega, fun e => by have := hnb _ e; omega, by omega, by omega, by omega⟩
  have hszx : w.heap.size + 1 + 1 ≤ (w2.alloc (.cells #[.slice (some ⟨g, 0, none⟩) ss.length ss.length, v] 72)).heap.size := by simp; omega
  have HST := hid hst
  have HR0 := hid (HRR2.out.alloc (.cells #[.slice (some ⟨g, 0, none⟩) ss.length ss.length, v] 72))
  have HBW := hid (Below.then HB2.out (Nat.le_refl _) (below_new w2 (.cells #[.slice (some ⟨g, 0, none⟩) ss.length ss.length, v] 72)))
  obtain ⟨av, cv, hv⟩ : ∃ a c, v = .slice a ws.length c := by
    rw [← hsOf_length]
    rcases owns_forms hown with ⟨e, h0⟩ | ⟨g, c, e, _⟩
    · exact ⟨_, _, by rw [e, h0]⟩
    · exact ⟨_, _, e⟩
  subst hv
  have HOK := hid hok
  clear hst hpr hown hb2 HB1 HRR HB2 HRR2 hnb
  go_wp2
  obtain ⟨wq, HWQ⟩ : ∃ wq, wq = w2.alloc (.cells #[.slice (some ⟨g, 0, none⟩) ss.length ss.length, .slice av ws.length cv] 72) := ⟨_, rfl⟩
  rw [← HWQ] at HST HR0 HBW hszx ⊢
  go_loopw [9, 24] (fun _ i wr => ∃ (k : Nat) (d : List ByteArray × List (Int × ByteArray)) (v : Value), k ≤ zn ∧ i = .int .i64 k ∧ d.1.length = ss.length ∧ Hid (diskOk d.1 d.2 = true) ∧ Hid (opsD (RS.drop k) d = RES) ∧ Hid (DV wr (w.heap.size + 1 + 1) w2.heap.size g ss.length v (d.1.map nums) (hsOf d.2)) ∧ Hid (Row wr (w.heap.size + 1) [.slice none 0 0, .slice none 0 0]) ∧ Hid (Below w.heap.size w wr) ∧ w.heap.size + 1 + 1 ≤ wr.heap.size) (fun _ i _ => zn - (intOf i).toNat)
  case atStart => exact ⟨0, (ss, ws), _, Nat.zero_le _, rfl, rfl, HOK, by show _ = _; rw [List.drop_zero, HRES.out], HST, HR0, HBW, hszx⟩
  case round =>
    obtain ⟨k, d, v, hk, rfl, hdl, HDO, HK, HDV, HRR, HBE, hsw⟩ := hrel
    by_cases hlt : k < zn
    · obtain ⟨b, o, s0, n1, s2, rfl, hc0, hc1, hc2, HS⟩ := (hzt.below HBE.out).at (k := k) (by rw [hRSl]; exact hlt)
      have hmem : (s0, n1, s2) ∈ RS := by rw [HS.out]; simp [List.getD, hRSl, hlt]
      have hs2 : s2.size ≤ 1048576 := HSZ.out _ hmem
      have hbA : ∀ ob, Below wr.heap.size wr (wr.alloc ob) := fun ob => below_new _ _
      have HDI := hid (fun ob => do_i (w.heap.size + 1 + 1) w2.heap.size g ss.length v d.1 d.2 s0 n1 s2 (wr.alloc ob) (HDV.out.below (hbA ob)) hdl HDO.out hs2 (Nat.le_trans hsw (hbA ob).size))
      go_wp2_with (go_at_call 42; refine (HDI.out _).mono ?_; rintro e w4 ⟨⟨x, rfl⟩, ⟨v', hdv⟩, hb4⟩)
      have HDV' := hid hdv
      have HB4 := hid (((hbA (.cells #[.bool s0, .int .i64 n1, .string s2] 35)).mono hsw).trans hb4)
      have HK' : Hid (opsD (RS.drop (k + 1)) (opD d (s0, n1, s2)) = RES) := by
        show _ = _
        rw [← HK.out, drop_at RS k (false, 0, ByteArray.empty) (by rw [hRSl]; exact hlt), ← HS.out, opsD]
      have hs4 := hb4.size
      clear hdv hb4
      go_wp2
      go_roundw
      case rel => exact ⟨k + 1, _, v', by omega, by go_num, by rw [opD_len]; exact hdl, opD_ok d _ HDO.out, HK', HDV', HRR.out.lowB HB4.out (by omega), HBE.out.trans (HB4.out.mono (by omega)), by simp at hs4; omega⟩
      case measure => simp [intOf]; omega
    · have hres : Hid (d = RES) := by
        have := HK.out
        rw [List.drop_of_length_le (by rw [hRSl]; omega)] at this
        exact this
      clear HK HRES HST HR0 HBW
      obtain rfl := hres.out
      obtain ⟨⟨hm1, hm2, hm3⟩, hm64, hmw⟩ := diskOk_of HDO.out
      have H64 := hid (hsOf_64 (ws := d.2) fun x hx => by have := of_decide_eq_true (hmw x hx); omega)
      obtain ⟨a2, c2, hv, hld⟩ := HDV.out.form H64.out
      rw [hsOf_length] at hv
      have q0 := HDV.out.rx.cell 0 _ rfl
      have q1 := HDV.out.rx.cell 1 _ rfl
      rw [hv] at q1
      have HLD := hid hld
      clear hm1 hm64 hmw hld
      go_wp2_with fail
      refine (disk_i' (some ⟨g, 0, none⟩) (d.1.map nums) ss.length ss.length a2 (hsOf d.2) d.2.length c2 (by simp [hdl]) (hsOf_length _) _ HDV.out.pr.plt HLD.out hn2 (by omega) HDV.out.pr.len H64.out).mono ?_
      rintro e w5 ⟨a1, c1, a1', c1', rfl, hod, hg1, hg2, hb5⟩
      rw [secs_nums, held_hsOf] at hod
      have rR := HRR.out.below hb5
      have r0 := rR.cell 0 _ rfl
      have r1 := rR.cell 1 _ rfl
      have fr0 := rR.froz 0 (by simp)
      have fr1 := rR.froz 1 (by simp)
      have HB5 := hid (Below.then HBE.out (Nat.le_refl _) hb5)
      have HOD := hid hod
      have hbs := HBE.out.size
      have HG1 : Hid (∀ g, blk a1 ss.length = some g → w.heap.size + 1 < g) := fun g hg => by have h1 := hg1 g hg; omega
      have HG2 : Hid (∀ g, blk a1' d.2.length = some g → w.heap.size + 1 < g) := fun g hg => by have h1 := hg2 g hg; omega
      clear hod hg1 hg2 hb5 rR q0 q1
      go_wp2
      rw [hdl]
      have hd1 : d.1.length ≠ 0 := by omega
      have hs1 : ∀ (wz : World) (u : Value) (i : Nat), OwnD wz a1 d.1 a1' d.2 → OwnD (wz.setCell ⟨w.heap.size + 1, i, none⟩ u) a1 d.1 a1' d.2 := fun wz u i ho => by
        refine ⟨ho.s.setp _ (fun g3 e3 hne e => ?_) _, ho.p.setp _ (fun g3 e3 hne e => ?_) _, ho.ne⟩
        · have := HG1.out g3 (by rw [e3]; exact blk_pos g3 0 _ (by omega))
          have e' : w.heap.size + 1 = g3 := e
          omega
        · have := HG2.out g3 (by rw [e3]; exact blk_pos g3 0 _ (fun e0 => hne (by rw [List.eq_nil_of_length_eq_zero e0]; rfl)))
          have e' : w.heap.size + 1 = g3 := e
          omega
      refine bodyPost_ret (v := diskV a1 ss.length c1 a1' d.2.length c1') (by simp [results, Tryd.results13, go_sem, r0, r1]) rfl ⟨a1, c1, a1', c1', rfl, hs1 _ _ _ (hs1 _ _ _ HOD.out), fun g hg => by have := HG1.out g hg; omega, fun g hg => by have := HG2.out g hg; omega, ?_⟩
      exact (HB5.out.setCell (by show w.heap.size ≤ w.heap.size + 1; omega) _).setCell (by show w.heap.size ≤ w.heap.size + 1; omega) _
set_option maxRecDepth 100000 in
set_option maxHeartbeats 16000000 in
theorem pf_i_c (a : Option Addr) (ss : List ByteArray) (c : Nat) (a' : Option Addr) (ws : List (Int × ByteArray)) (c' : Nat) (f : Option Addr) (rs : List (Bool × Int × ByteArray)) (cf : Nat) (z : Int) (w : World) (h : Strs w a ss) (h' : Wrs w a' ws) (hz : Ops w f rs) (hcf : rs.length ≤ cf) (hlz : rs.length ≤ 1048576) (hz0 : 0 ≤ z) (hz1 : (rs.length : Int) < z) (hsz : ∀ x ∈ rs, x.2.2.size ≤ 1048576) (hok : diskOk ss ws = true) :
    Calls Tryd.prog 13 #[diskV a ss.length c a' ws.length c', .slice f rs.length cf, .int .i64 z] w fun e w' => ∃ a1 c1 a1' c1', e = .returned (diskV a1 (opsD (rs.take (rs.length)) (ss, ws)).1.length c1 a1' (opsD (rs.take (rs.length)) (ss, ws)).2.length c1') ∧ OwnD w' a1 (opsD (rs.take (rs.length)) (ss, ws)).1 a1' (opsD (rs.take (rs.length)) (ss, ws)).2 ∧ (∀ g, blk a1 (opsD (rs.take (rs.length)) (ss, ws)).1.length = some g → w.heap.size ≤ g) ∧ (∀ g, blk a1' (opsD (rs.take (rs.length)) (ss, ws)).2.length = some g → w.heap.size ≤ g) ∧ Below w.heap.size w w' := by
  obtain ⟨⟨hn1, hn2, hn3⟩, h64, hw⟩ := diskOk_of hok
  have hb0 : ∀ o1 o2, Below w.heap.size w ((w.alloc o1).alloc o2) := fun o1 o2 => ((Below.refl _ _).alloc (Nat.le_refl _) _).alloc (by simp) _
  have hml : rs.length ≤ rs.length := by omega
  obtain ⟨RS, HRS⟩ : ∃ RS, Hid (RS = rs.take (rs.length)) := ⟨_, hid rfl⟩
  have hRSl : RS.length = rs.length := by rw [HRS.out]; simp
  have hzt : Ops w f RS := by rw [HRS.out]; exact hz.take (rs.length)
  have HSZ : Hid (∀ x ∈ RS, x.2.2.size ≤ 1048576) := fun x hx => hsz x (by rw [HRS.out] at hx; exact List.mem_of_mem_take hx)
  rw [← HRS.out]
  obtain ⟨RES, HRES⟩ : ∃ RES, Hid (RES = opsD RS (ss, ws)) := ⟨_, hid rfl⟩
  rw [← HRES.out]
  go_enter Tryd.func13, Tryd.ntmps13
  go_wp2_with fail
  refine (valid_i a ss c a' ws c' _ (h.below (hb0 _ _)) (h'.below (hb0 _ _)) (by omega) (by omega) (fun s hs => by have := h64 s hs; omega) (fun x hx => by have := of_decide_eq_true (hw x hx); omega)).mono ?_
  rw [hok]
  rintro e w1 ⟨rfl, hb1⟩
  have hB1 := (hb0 _ _).trans (hb1.mono (by simp; omega))
  obtain ⟨q1, q2⟩ := bcell hb1
  have rR := (row_new' (w.alloc (.cells #[.slice a ss.length c, .slice a' ws.length c'] 31)) #[.slice none 0 0, .slice none 0 0] 31 (w.heap.size + 1) (by simp)).below hb1
  have HRR := hid rR
  have HB1 := hid hB1
  clear rR hb1 hB1
  go_wp2_with fail
  refine (drv_i a ss c a' ws c' _ (h.below HB1.out) (h'.below HB1.out) hn2 hn3 (fun s hs => by have := h64 s hs; omega) (fun x hx => by have := of_decide_eq_true (hw x hx); omega)).mono ?_
  rintro e w2 ⟨g, v, rfl, hpr, hown, hg, hb2⟩
  clear q1 q2
  have HRR2 := hid (HRR.out.below hb2)
  have HRR1 : Hid (w.heap.size + 1 + 1 ≤ g) := by have := HRR.out.lt; show _ ≤ _; omega
  have HB2 := hid (Below.then HB1.out (Nat.le_refl _) hb2)
  have hgl : g < w2.heap.size := hpr.lt
  have hgw := HRR1.out
  rw [← hsOf_length] at hown
  have hnb : ∀ k, v.ownBlock = some k → g + 1 ≤ k ∧ k < w2.heap.size := fun k hk => hown.lt k hk
  have hst : DV (w2.alloc (.cells #[.slice (some ⟨g, 0, none⟩) ss.length ss.length, v] 72)) (w.heap.size + 1 + 1) w2.heap.size g ss.length v (ss.map nums) (hsOf ws) :=
    ⟨row_new _ _ _, hpr.below (below_new _ _), (owns_below hown (below_new _ _)).mono (by omega), fun e => by have := hnb _ e; omega, fun e => by have := hnb _ e; omega, by omega, by omega, by omega⟩
  have hszx : w.heap.size + 1 + 1 ≤ (w2.alloc (.cells #[.slice (some ⟨g, 0, none⟩) ss.length ss.length, v] 72)).heap.size := by simp; omega
  have HST := hid hst
  have HR0 := hid (HRR2.out.alloc (.cells #[.slice (some ⟨g, 0, none⟩) ss.length ss.length, v] 72))
  have HBW := hid (Below.then HB2.out (Nat.le_refl _) (below_new w2 (.cells #[.slice (some ⟨g, 0, none⟩) ss.length ss.length, v] 72)))
  obtain ⟨av, cv, hv⟩ : ∃ a c, v = .slice a ws.length c := by
    rw [← hsOf_length]
    rcases owns_forms hown with ⟨e, h0⟩ | ⟨g, c, e, _⟩
    · exact ⟨_, _, by rw [e, h0]⟩
    · exact ⟨_, _, e⟩
  subst hv
  have HOK := hid hok
  clear hst hpr hown hb2 HB1 HRR HB2 HRR2 hnb
  go_wp2
  obtain ⟨wq, HWQ⟩ : ∃ wq, wq = w2.alloc (.cells #[.slice (some ⟨g, 0, none⟩) ss.length ss.length, .slice av ws.length cv] 72) := ⟨_, rfl⟩
  rw [← HWQ] at HST HR0 HBW hszx ⊢
  go_loopw [9, 24] (fun _ i wr => ∃ (k : Nat) (d : List ByteArray × List (Int × ByteArray)) (v : Value), k ≤ rs.length ∧ i = .int .i64 k ∧ d.1.length = ss.length ∧ Hid (diskOk d.1 d.2 = true) ∧ Hid (opsD (RS.drop k) d = RES) ∧ Hid (DV wr (w.heap.size + 1 + 1) w2.heap.size g ss.length v (d.1.map nums) (hsOf d.2)) ∧ Hid (Row wr (w.heap.size + 1) [.slice none 0 0, .slice none 0 0]) ∧ Hid (Below w.heap.size w wr) ∧ w.heap.size + 1 + 1 ≤ wr.heap.size) (fun _ i _ => rs.length - (intOf i).toNat)
  case atStart => exact ⟨0, (ss, ws), _, Nat.zero_le _, rfl, rfl, HOK, by show _ = _; rw [List.drop_zero, HRES.out], HST, HR0, HBW, hszx⟩
  case round =>
    obtain ⟨k, d, v, hk, rfl, hdl, HDO, HK, HDV, HRR, HBE, hsw⟩ := hrel
    by_cases hlt : k < rs.length
    · obtain ⟨b, o, s0, n1, s2, rfl, hc0, hc1, hc2, HS⟩ := (hzt.below HBE.out).at (k := k) (by rw [hRSl]; exact hlt)
      have hmem : (s0, n1, s2) ∈ RS := by rw [HS.out]; simp [List.getD, hRSl, hlt]
      have hs2 : s2.size ≤ 1048576 := HSZ.out _ hmem
      have hbA : ∀ ob, Below wr.heap.size wr (wr.alloc ob) := fun ob => below_new _ _
      have HDI := hid (fun ob => do_i (w.heap.size + 1 + 1) w2.heap.size g ss.length v d.1 d.2 s0 n1 s2 (wr.alloc ob) (HDV.out.below (hbA ob)) hdl HDO.out hs2 (Nat.le_trans hsw (hbA ob).size))
      go_wp2_with (go_at_call 42; refine (HDI.out _).mono ?_; rintro e w4 ⟨⟨x, rfl⟩, ⟨v', hdv⟩, hb4⟩)
      have HDV' := hid hdv
      have HB4 := hid (((hbA (.cells #[.bool s0, .int .i64 n1, .string s2] 35)).mono hsw).trans hb4)
      have HK' : Hid (opsD (RS.drop (k + 1)) (opD d (s0, n1, s2)) = RES) := by
        show _ = _
        rw [← HK.out, drop_at RS k (false, 0, ByteArray.empty) (by rw [hRSl]; exact hlt), ← HS.out, opsD]
      have hs4 := hb4.size
      clear hdv hb4
      go_wp2
      go_roundw
      case rel => exact ⟨k + 1, _, v', by omega, by go_num, by rw [opD_len]; exact hdl, opD_ok d _ HDO.out, HK', HDV', HRR.out.lowB HB4.out (by omega), HBE.out.trans (HB4.out.mono (by omega)), by simp at hs4; omega⟩
      case measure => simp [intOf]; omega
    · have hres : Hid (d = RES) := by
        have := HK.out
        rw [List.drop_of_length_le (by rw [hRSl]; omega)] at this
        exact this
      clear HK HRES HST HR0 HBW
      obtain rfl := hres.out
      obtain ⟨⟨hm1, hm2, hm3⟩, hm64, hmw⟩ := diskOk_of HDO.out
      have H64 := hid (hsOf_64 (ws := d.2) fun x hx => by have := of_decide_eq_true (hmw x hx); omega)
      obtain ⟨a2, c2, hv, hld⟩ := HDV.out.form H64.out
      rw [hsOf_length] at hv
      have q0 := HDV.out.rx.cell 0 _ rfl
      have q1 := HDV.out.rx.cell 1 _ rfl
      rw [hv] at q1
      have HLD := hid hld
      clear hm1 hm64 hmw hld
      go_wp2_with fail
      refine (disk_i' (some ⟨g, 0, none⟩) (d.1.map nums) ss.length ss.length a2 (hsOf d.2) d.2.length c2 (by simp [hdl]) (hsOf_length _) _ HDV.out.pr.plt HLD.out hn2 (by omega) HDV.out.pr.len H64.out).mono ?_
      rintro e w5 ⟨a1, c1, a1', c1', rfl, hod, hg1, hg2, hb5⟩
      rw [secs_nums, held_hsOf] at hod
      have rR := HRR.out.below hb5
      have r0 := rR.cell 0 _ rfl
      have r1 := rR.cell 1 _ rfl
      have fr0 := rR.froz 0 (by simp)
      have fr1 := rR.froz 1 (by simp)
      have HB5 := hid (Below.then HBE.out (Nat.le_refl _) hb5)
      have HOD := hid hod
      have hbs := HBE.out.size
      have HG1 : Hid (∀ g, blk a1 ss.length = some g → w.heap.size + 1 < g) := fun g hg => by have h1 := hg1 g hg; omega
      have HG2 : Hid (∀ g, blk a1' d.2.length = some g → w.heap.size + 1 < g) := fun g hg => by have h1 := hg2 g hg; omega
      clear hod hg1 hg2 hb5 rR q0 q1
      go_wp2
      rw [hdl]
      have hd1 : d.1.length ≠ 0 := by omega
      have hs1 : ∀ (wz : World) (u : Value) (i : Nat), OwnD wz a1 d.1 a1' d.2 → OwnD (wz.setCell ⟨w.heap.size + 1, i, none⟩ u) a1 d.1 a1' d.2 := fun wz u i ho => by
        refine ⟨ho.s.setp _ (fun g3 e3 hne e => ?_) _, ho.p.setp _ (fun g3 e3 hne e => ?_) _, ho.ne⟩
        · have := HG1.out g3 (by rw [e3]; exact blk_pos g3 0 _ (by omega))
          have e' : w.heap.size + 1 = g3 := e
          omega
        · have := HG2.out g3 (by rw [e3]; exact blk_pos g3 0 _ (fun e0 => hne (by rw [List.eq_nil_of_length_eq_zero e0]; rfl)))
          have e' : w.heap.size + 1 = g3 := e
          omega
      refine bodyPost_ret (v := diskV a1 ss.length c1 a1' d.2.length c1') (by simp [results, Tryd.results13, go_sem, r0, r1]) rfl ⟨a1, c1, a1', c1', rfl, hs1 _ _ _ (hs1 _ _ _ HOD.out), fun g hg => by have := HG1.out g hg; omega, fun g hg => by have := HG2.out g hg; omega, ?_⟩
      exact (HB5.out.setCell (by show w.heap.size ≤ w.heap.size + 1; omega) _).setCell (by show w.heap.size ≤ w.heap.size + 1; omega) _
set_option maxRecDepth 100000 in
set_option maxHeartbeats 16000000 in
theorem pf_i_d (a : Option Addr) (ss : List ByteArray) (c : Nat) (a' : Option Addr) (ws : List (Int × ByteArray)) (c' : Nat) (f : Option Addr) (rs : List (Bool × Int × ByteArray)) (cf : Nat) (w : World) (h : Strs w a ss) (h' : Wrs w a' ws) (hz : Ops w f rs) (hcf : rs.length ≤ cf) (hlz : rs.length ≤ 1048576) (hsz : ∀ x ∈ rs, x.2.2.size ≤ 1048576) (hok : diskOk ss ws = true) :
    Calls Tryd.prog 13 #[diskV a ss.length c a' ws.length c', .slice f rs.length cf, .int .i64 (rs.length : Int)] w fun e w' => ∃ a1 c1 a1' c1', e = .returned (diskV a1 (opsD (rs.take (rs.length)) (ss, ws)).1.length c1 a1' (opsD (rs.take (rs.length)) (ss, ws)).2.length c1') ∧ OwnD w' a1 (opsD (rs.take (rs.length)) (ss, ws)).1 a1' (opsD (rs.take (rs.length)) (ss, ws)).2 ∧ (∀ g, blk a1 (opsD (rs.take (rs.length)) (ss, ws)).1.length = some g → w.heap.size ≤ g) ∧ (∀ g, blk a1' (opsD (rs.take (rs.length)) (ss, ws)).2.length = some g → w.heap.size ≤ g) ∧ Below w.heap.size w w' := by
  obtain ⟨⟨hn1, hn2, hn3⟩, h64, hw⟩ := diskOk_of hok
  have hb0 : ∀ o1 o2, Below w.heap.size w ((w.alloc o1).alloc o2) := fun o1 o2 => ((Below.refl _ _).alloc (Nat.le_refl _) _).alloc (by simp) _
  have hml : rs.length ≤ rs.length := by omega
  obtain ⟨RS, HRS⟩ : ∃ RS, Hid (RS = rs.take (rs.length)) := ⟨_, hid rfl⟩
  have hRSl : RS.length = rs.length := by rw [HRS.out]; simp
  have hzt : Ops w f RS := by rw [HRS.out]; exact hz.take (rs.length)
  have HSZ : Hid (∀ x ∈ RS, x.2.2.size ≤ 1048576) := fun x hx => hsz x (by rw [HRS.out] at hx; exact List.mem_of_mem_take hx)
  rw [← HRS.out]
  obtain ⟨RES, HRES⟩ : ∃ RES, Hid (RES = opsD RS (ss, ws)) := ⟨_, hid rfl⟩
  rw [← HRES.out]
  go_enter Tryd.func13, Tryd.ntmps13
  go_wp2_with fail
  refine (valid_i a ss c a' ws c' _ (h.below (hb0 _ _)) (h'.below (hb0 _ _)) (by omega) (by omega) (fun s hs => by have := h64 s hs; omega) (fun x hx => by have := of_decide_eq_true (hw x hx); omega)).mono ?_
  rw [hok]
  rintro e w1 ⟨rfl, hb1⟩
  have hB1 := (hb0 _ _).trans (hb1.mono (by simp; omega))
  obtain ⟨q1, q2⟩ := bcell hb1
  have rR := (row_new' (w.alloc (.cells #[.slice a ss.length c, .slice a' ws.length c'] 31)) #[.slice none 0 0, .slice none 0 0] 31 (w.heap.size + 1) (by simp)).below hb1
  have HRR := hid rR
  have HB1 := hid hB1
  clear rR hb1 hB1
  go_wp2_with fail
  refine (drv_i a ss c a' ws c' _ (h.below HB1.out) (h'.below HB1.out) hn2 hn3 (fun s hs => by have := h64 s hs; omega) (fun x hx => by have := of_decide_eq_true (hw x hx); omega)).mono ?_
  rintro e w2 ⟨g, v, rfl, hpr, hown, hg, hb2⟩
  clear q1 q2
  have HRR2 := hid (HRR.out.below hb2)
  have HRR1 : Hid (w.heap.size + 1 + 1 ≤ g) := by have := HRR.out.lt; show _ ≤ _; omega
  have HB2 := hid (Below.then HB1.out (Nat.le_refl _) hb2)
  have hgl : g < w2.heap.size := hpr.lt
  have hgw := HRR1.out
  rw [← hsOf_length] at hown
  have hnb : ∀ k, v.ownBlock = some k → g + 1 ≤ k ∧ k < w2.heap.size := fun k hk => hown.lt k hk
  have hst : DV (w2.alloc (.cells #[.slice (some ⟨g, 0, none⟩) ss.length ss.length, v] 72)) (w.heap.size + 1 + 1) w2.heap.size g ss.length v (ss.map nums) (hsOf ws) :=
    ⟨row_new _ _ _, hpr.below (below_new _ _), (owns_below hown (below_new _ _)).mono (by omega), fun e => by have := hnb _ e; omega, fun e => by have := hnb _ e; omega, by omega, by omega, by omega⟩
  have hszx : w.heap.size + 1 + 1 ≤ (w2.alloc (.cells #[.slice (some ⟨g, 0, none⟩) ss.length ss.length, v] 72)).heap.size := by simp; omega
  have HST := hid hst
  have HR0 := hid (HRR2.out.alloc (.cells #[.slice (some ⟨g, 0, none⟩) ss.length ss.length, v] 72))
  have HBW := hid (Below.then HB2.out (Nat.le_refl _) (below_new w2 (.cells #[.slice (some ⟨g, 0, none⟩) ss.length ss.length, v] 72)))
  obtain ⟨av, cv, hv⟩ : ∃ a c, v = .slice a ws.length c := by
    rw [← hsOf_length]
    rcases owns_forms hown with ⟨e, h0⟩ | ⟨g, c, e, _⟩
    · exact ⟨_, _, by rw [e, h0]⟩
    · exact ⟨_, _, e⟩
  subst hv
  have HOK := hid hok
  clear hst hpr hown hb2 HB1 HRR HB2 HRR2 hnb
  go_wp2
  obtain ⟨wq, HWQ⟩ : ∃ wq, wq = w2.alloc (.cells #[.slice (some ⟨g, 0, none⟩) ss.length ss.length, .slice av ws.length cv] 72) := ⟨_, rfl⟩
  rw [← HWQ] at HST HR0 HBW hszx ⊢
  go_loopw [9, 24] (fun _ i wr => ∃ (k : Nat) (d : List ByteArray × List (Int × ByteArray)) (v : Value), k ≤ rs.length ∧ i = .int .i64 k ∧ d.1.length = ss.length ∧ Hid (diskOk d.1 d.2 = true) ∧ Hid (opsD (RS.drop k) d = RES) ∧ Hid (DV wr (w.heap.size + 1 + 1) w2.heap.size g ss.length v (d.1.map nums) (hsOf d.2)) ∧ Hid (Row wr (w.heap.size + 1) [.slice none 0 0, .slice none 0 0]) ∧ Hid (Below w.heap.size w wr) ∧ w.heap.size + 1 + 1 ≤ wr.heap.size) (fun _ i _ => rs.length - (intOf i).toNat)
  case atStart => exact ⟨0, (ss, ws), _, Nat.zero_le _, rfl, rfl, HOK, by show _ = _; rw [List.drop_zero, HRES.out], HST, HR0, HBW, hszx⟩
  case round =>
    obtain ⟨k, d, v, hk, rfl, hdl, HDO, HK, HDV, HRR, HBE, hsw⟩ := hrel
    by_cases hlt : k < rs.length
    · obtain ⟨b, o, s0, n1, s2, rfl, hc0, hc1, hc2, HS⟩ := (hzt.below HBE.out).at (k := k) (by rw [hRSl]; exact hlt)
      have hmem : (s0, n1, s2) ∈ RS := by rw [HS.out]; simp [List.getD, hRSl, hlt]
      have hs2 : s2.size ≤ 1048576 := HSZ.out _ hmem
      have hbA : ∀ ob, Below wr.heap.size wr (wr.alloc ob) := fun ob => below_new _ _
      have HDI := hid (fun ob => do_i (w.heap.size + 1 + 1) w2.heap.size g ss.length v d.1 d.2 s0 n1 s2 (wr.alloc ob) (HDV.out.below (hbA ob)) hdl HDO.out hs2 (Nat.le_trans hsw (hbA ob).size))
      go_wp2_with (go_at_call 42; refine (HDI.out _).mono ?_; rintro e w4 ⟨⟨x, rfl⟩, ⟨v', hdv⟩, hb4⟩)
      have HDV' := hid hdv
      have HB4 := hid (((hbA (.cells #[.bool s0, .int .i64 n1, .string s2] 35)).mono hsw).trans hb4)
      have HK' : Hid (opsD (RS.drop (k + 1)) (opD d (s0, n1, s2)) = RES) := by
        show _ = _
        rw [← HK.out, drop_at RS k (false, 0, ByteArray.empty) (by rw [hRSl]; exact hlt), ← HS.out, opsD]
      have hs4 := hb4.size
      clear hdv hb4
      go_wp2
      go_roundw
      case rel => exact ⟨k + 1, _, v', by omega, by go_num, by rw [opD_len]; exact hdl, opD_ok d _ HDO.out, HK', HDV', HRR.out.lowB HB4.out (by omega), HBE.out.trans (HB4.out.mono (by omega)), by simp at hs4; omega⟩
      case measure => simp [intOf]; omega
    · have hres : Hid (d = RES) := by
        have := HK.out
        rw [List.drop_of_length_le (by rw [hRSl]; omega)] at this
        exact this
      clear HK HRES HST HR0 HBW
      obtain rfl := hres.out
      obtain ⟨⟨hm1, hm2, hm3⟩, hm64, hmw⟩ := diskOk_of HDO.out
      have H64 := hid (hsOf_64 (ws := d.2) fun x hx => by have := of_decide_eq_true (hmw x hx); omega)
      obtain ⟨a2, c2, hv, hld⟩ := HDV.out.form H64.out
      rw [hsOf_length] at hv
      have q0 := HDV.out.rx.cell 0 _ rfl
      have q1 := HDV.out.rx.cell 1 _ rfl
      rw [hv] at q1
      have HLD := hid hld
      clear hm1 hm64 hmw hld
      go_wp2_with fail
      refine (disk_i' (some ⟨g, 0, none⟩) (d.1.map nums) ss.length ss.length a2 (hsOf d.2) d.2.length c2 (by simp [hdl]) (hsOf_length _) _ HDV.out.pr.plt HLD.out hn2 (by omega) HDV.out.pr.len H64.out).mono ?_
      rintro e w5 ⟨a1, c1, a1', c1', rfl, hod, hg1, hg2, hb5⟩
      rw [secs_nums, held_hsOf] at hod
      have rR := HRR.out.below hb5
      have r0 := rR.cell 0 _ rfl
      have r1 := rR.cell 1 _ rfl
      have fr0 := rR.froz 0 (by simp)
      have fr1 := rR.froz 1 (by simp)
      have HB5 := hid (Below.then HBE.out (Nat.le_refl _) hb5)
      have HOD := hid hod
      have hbs := HBE.out.size
      have HG1 : Hid (∀ g, blk a1 ss.length = some g → w.heap.size + 1 < g) := fun g hg => by have h1 := hg1 g hg; omega
      have HG2 : Hid (∀ g, blk a1' d.2.length = some g → w.heap.size + 1 < g) := fun g hg => by have h1 := hg2 g hg; omega
      clear hod hg1 hg2 hb5 rR q0 q1
      go_wp2
      rw [hdl]
      have hd1 : d.1.length ≠ 0 := by omega
      have hs1 : ∀ (wz : World) (u : Value) (i : Nat), OwnD wz a1 d.1 a1' d.2 → OwnD (wz.setCell ⟨w.heap.size + 1, i, none⟩ u) a1 d.1 a1' d.2 := fun wz u i ho => by
        refine ⟨ho.s.setp _ (fun g3 e3 hne e => ?_) _, ho.p.setp _ (fun g3 e3 hne e => ?_) _, ho.ne⟩
        · have := HG1.out g3 (by rw [e3]; exact blk_pos g3 0 _ (by omega))
          have e' : w.heap.size + 1 = g3 := e
          omega
        · have := HG2.out g3 (by rw [e3]; exact blk_pos g3 0 _ (fun e0 => hne (by rw [List.eq_nil_of_length_eq_zero e0]; rfl)))
          have e' : w.heap.size + 1 = g3 := e
          omega
      refine bodyPost_ret (v := diskV a1 ss.length c1 a1' d.2.length c1') (by simp [results, Tryd.results13, go_sem, r0, r1]) rfl ⟨a1, c1, a1', c1', rfl, hs1 _ _ _ (hs1 _ _ _ HOD.out), fun g hg => by have := HG1.out g hg; omega, fun g hg => by have := HG2.out g hg; omega, ?_⟩
      exact (HB5.out.setCell (by show w.heap.size ≤ w.heap.size + 1; omega) _).setCell (by show w.heap.size ≤ w.heap.size + 1; omega) _
theorem pf_i (a : Option Addr) (ss : List ByteArray) (c : Nat) (a' : Option Addr) (ws : List (Int × ByteArray)) (c' : Nat) (f : Option Addr) (rs : List (Bool × Int × ByteArray)) (cf : Nat) (z : Int) (w : World) (h : Strs w a ss) (h' : Wrs w a' ws) (hz : Ops w f rs) (hcf : rs.length ≤ cf) (hlz : rs.length ≤ 1048576) (hsz : ∀ x ∈ rs, x.2.2.size ≤ 1048576) (hok : diskOk ss ws = true) :
    Calls Tryd.prog 13 #[diskV a ss.length c a' ws.length c', .slice f rs.length cf, .int .i64 z] w fun e w' => ∃ a1 c1 a1' c1', e = .returned (diskV a1 (opsD (rs.take (pfN z rs.length)) (ss, ws)).1.length c1 a1' (opsD (rs.take (pfN z rs.length)) (ss, ws)).2.length c1') ∧ OwnD w' a1 (opsD (rs.take (pfN z rs.length)) (ss, ws)).1 a1' (opsD (rs.take (pfN z rs.length)) (ss, ws)).2 ∧ (∀ g, blk a1 (opsD (rs.take (pfN z rs.length)) (ss, ws)).1.length = some g → w.heap.size ≤ g) ∧ (∀ g, blk a1' (opsD (rs.take (pfN z rs.length)) (ss, ws)).2.length = some g → w.heap.size ≤ g) ∧ Below w.heap.size w w' := by
  by_cases h0 : z < 0
  · have e : pfN z rs.length = 0 := by unfold pfN; omega
    rw [e]
    exact pf_i_a a ss c a' ws c' f rs cf z w h h' hz hcf hlz h0 hsz hok
  · by_cases h1 : z < (rs.length : Int)
    · obtain ⟨zn, rfl⟩ : ∃ zn : Nat, z = (zn : Int) := ⟨z.toNat, by omega⟩
      have e : pfN (zn : Int) rs.length = zn := by unfold pfN; omega
      rw [e]
      exact pf_i_b a ss c a' ws c' f rs cf zn w h h' hz hcf hlz (by omega) hsz hok
    · have e : pfN z rs.length = rs.length := by unfold pfN; omega
      rw [e]
      by_cases h2 : z = (rs.length : Int)
      · subst h2
        exact pf_i_d a ss c a' ws c' f rs cf w h h' hz hcf hlz hsz hok
      · exact pf_i_c a ss c a' ws c' f rs cf z w h h' hz hcf hlz (by omega) (by omega) hsz hok
set_option maxHeartbeats 16000000 in
theorem pf_i_no (a : Option Addr) (ss : List ByteArray) (c : Nat) (a' : Option Addr) (ws : List (Int × ByteArray)) (c' : Nat) (v z : Value) (w : World) (h : Strs w a ss) (h' : Wrs w a' ws) (hl : ss.length ≤ 1048576) (hl' : ws.length ≤ 1048576) (hs : ∀ s ∈ ss, s.size ≤ 1048576) (hs' : ∀ x ∈ ws, x.2.size ≤ 1048576) (hok : diskOk ss ws = false) :
    Calls Tryd.prog 13 #[diskV a ss.length c a' ws.length c', v, z] w fun e w' => e = .returned (diskV none 0 0 none 0 0) ∧ Below w.heap.size w w' := by
  have hb0 : ∀ o1 o2, Below w.heap.size w ((w.alloc o1).alloc o2) := fun o1 o2 => ((Below.refl _ _).alloc (Nat.le_refl _) _).alloc (by simp) _
  go_enter Tryd.func13, Tryd.ntmps13
  go_wp2_with fail
  refine (valid_i a ss c a' ws c' _ (h.below (hb0 _ _)) (h'.below (hb0 _ _)) hl hl' hs hs').mono ?_
  rw [hok]
  rintro e w1 ⟨rfl, hb1⟩
  have HB1 := hid ((hb0 _ _).trans (hb1.mono (by simp; omega)))
  have rR := (row_new' (w.alloc (.cells #[.slice a ss.length c, .slice a' ws.length c'] 31)) #[.slice none 0 0, .slice none 0 0] 31 (w.heap.size + 1) (by simp)).below hb1
  have r0 := rR.cell 0 _ rfl
  have r1 := rR.cell 1 _ rfl
  have fr0 := rR.froz 0 (by simp)
  have fr1 := rR.froz 1 (by simp)
  clear rR hb1
  go_wp2
  exact bodyPost_ret (v := diskV none 0 0 none 0 0) (by simp [results, Tryd.results13, go_sem, r0, r1]) rfl ⟨rfl, (HB1.out.setCell (by show w.heap.size ≤ w.heap.size + 1; omega) _).setCell (by show w.heap.size ≤ w.heap.size + 1; omega) _⟩
end Go.Proofs.YtnmaknnnmjfhkaeDoor

namespace Go.Proofs.YtnmaknnnmjfhkaeDoor
open Go.RowKit
set_option linter.unusedVariables false
set_option linter.unusedSimpArgs false
def pfR (ss : List ByteArray) (ws : List (Int × ByteArray)) (rs : List (Bool × Int × ByteArray)) (z : Int) : List ByteArray × List (Int × ByteArray) := if diskOk ss ws = true then opsD (rs.take (pfN z rs.length)) (ss, ws) else ([], [])
theorem pf_i_any (a : Option Addr) (ss : List ByteArray) (c : Nat) (a' : Option Addr) (ws : List (Int × ByteArray)) (c' : Nat) (f : Option Addr) (rs : List (Bool × Int × ByteArray)) (cf : Nat) (z : Int) (w : World) (h : Strs w a ss) (h' : Wrs w a' ws) (hz : Ops w f rs) (hcf : rs.length ≤ cf) (hlz : rs.length ≤ 1048576) (hsz : ∀ x ∈ rs, x.2.2.size ≤ 1048576) (hl : ss.length ≤ 1048576) (hl' : ws.length ≤ 1048576) (hs : ∀ s ∈ ss, s.size ≤ 1048576) (hs' : ∀ x ∈ ws, x.2.size ≤ 1048576) :
    Calls Tryd.prog 13 #[diskV a ss.length c a' ws.length c', .slice f rs.length cf, .int .i64 z] w fun e w' => ∃ a1 c1 a1' c1', e = .returned (diskV a1 (pfR ss ws rs z).1.length c1 a1' (pfR ss ws rs z).2.length c1') ∧ OwnD w' a1 (pfR ss ws rs z).1 a1' (pfR ss ws rs z).2 ∧ (∀ g, blk a1 (pfR ss ws rs z).1.length = some g → w.heap.size ≤ g) ∧ (∀ g, blk a1' (pfR ss ws rs z).2.length = some g → w.heap.size ≤ g) ∧ Below w.heap.size w w' := by
  by_cases hok : diskOk ss ws = true
  · have e1 : pfR ss ws rs z = opsD (rs.take (pfN z rs.length)) (ss, ws) := by simp [pfR, hok]
    rw [e1]
    exact pf_i a ss c a' ws c' f rs cf z w h h' hz hcf hlz hsz hok
  · have e1 : pfR ss ws rs z = ([], []) := by simp [pfR, hok]
    rw [e1]
    refine (pf_i_no a ss c a' ws c' _ _ w h h' hl hl' hs hs' (by simpa using hok)).mono ?_
    rintro e w' ⟨rfl, hb⟩
    exact ⟨none, 0, none, 0, rfl, ⟨.inl rfl, .inl rfl, .inl rfl⟩, (fun g hg => by cases hg), (fun g hg => by cases hg), hb⟩
end Go.Proofs.YtnmaknnnmjfhkaeDoor
