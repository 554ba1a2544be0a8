import Derived.Test.YtnmaknnnmjfhkagGreatDoorPrG29
import Derived.Test.YtnmaknnnmjfhkagGreatDoorPrG38
import Derived.Test.YtnmaknnnmjfhkagGreatDoorPrG31
import Derived.Test.YtnmaknnnmjfhkagGreatDoorPrG45
import Derived.Test.YtnmaknnnmjfhkagGreatDoorPrG27
import Derived.Test.YtnmaknnnmjfhkagGreatDoorPrVStI
namespace Go.Proofs.YtnmaknnnmjfhkagGreatDoor
open Go.RowKit
set_option linter.unusedVariables false
set_option linter.unusedSimpArgs false
set_option maxRecDepth 8000
set_option maxHeartbeats 4000000 in
theorem newlife_i (base g : Nat) (v : Value) (os : List OpT) (at_ nm lf wd : Int) (w : World) (h : Wrt w base g v os at_ nm lf wd) (hb : base ≤ w.heap.size) (hl : os.length ≤ 1000) (ha0 : 0 ≤ at_) (ha1 : at_ ≤ 100000) (hn0 : 0 ≤ nm) (hn1 : nm ≤ 2000000000) :
    Calls Tryz.prog 165 #[.pointer (some ⟨g, 0, none⟩)] w fun e w' => (∃ x, e = .returned x) ∧ ∃ v', Wrt w' base g v' (os ++ [(false, at_, formOf 3 lf nm ByteArray.empty wd)]) (at_ + 1) (nm + 1) lf wd ∧ Below base w w' ∧ WK g w v w' v' := by
  have q2 := h.row.cell 2 _ rfl
  have lg := h.row.lt
  go_enter Tryz.func165, Tryz.ntmps165
  go_wp2_with fail
  refine wp_region_held_drew (S := fun w' => w'.cell? ⟨g, 3, none⟩ = some (.int .i64 lf) ∧ w'.cell? ⟨g, 4, none⟩ = some (.int .i64 wd)) (by kernel_rfl) (⟨h.row.drew.cell 3 _ rfl, h.row.drew.cell 4 _ rfl⟩) (fun hHeld => ?_)
  refine TK (i := 0) (v := .pointer (some ⟨g, 0, none⟩)) rfl (Or.inl ⟨by rfl, fun w hw => by obtain ⟨z0, z1⟩ := hw; go_simp⟩) hHeld ?_
  simp only [PS]
  refine TK (i := 1) (v := .pointer (some ⟨g, 0, none⟩)) rfl (Or.inl ⟨by rfl, fun w hw => by obtain ⟨z0, z1⟩ := hw; go_simp⟩) hHeld ?_
  simp only [PS]
  refine TK (i := 2) (v := .pointer (some ⟨g, 0, none⟩)) rfl (Or.inl ⟨by rfl, fun w hw => by obtain ⟨z0, z1⟩ := hw; go_simp⟩) hHeld ?_
  simp only [PS]
  refine TK (i := 3) (v := .pointer (some ⟨g, 3, none⟩)) rfl (Or.inl ⟨by rfl, fun w hw => by obtain ⟨z0, z1⟩ := hw; go_simp⟩) hHeld ?_
  simp only [PS]
  refine TK (i := 4) (v := .int .i64 lf) rfl (Or.inl ⟨by rfl, fun w hw => by obtain ⟨z0, z1⟩ := hw; go_simp⟩) hHeld ?_
  simp only [PS]
  refine TK (i := 5) (v := .pointer (some ⟨g, 0, none⟩)) rfl (Or.inl ⟨by rfl, fun w hw => by obtain ⟨z0, z1⟩ := hw; go_simp⟩) hHeld ?_
  simp only [PS]
  refine TK (i := 6) (v := .pointer (some ⟨g, 0, none⟩)) rfl (Or.inl ⟨by rfl, fun w hw => by obtain ⟨z0, z1⟩ := hw; go_simp⟩) hHeld ?_
  simp only [PS]
  refine TK (i := 7) (v := .pointer (some ⟨g, 2, none⟩)) rfl (Or.inl ⟨by rfl, fun w hw => by obtain ⟨z0, z1⟩ := hw; go_simp⟩) hHeld ?_
  simp only [PS]
  refine TK (i := 10) (v := .pointer (some ⟨g, 0, none⟩)) rfl (Or.inl ⟨by rfl, fun w hw => by obtain ⟨z0, z1⟩ := hw; go_simp⟩) hHeld ?_
  simp only [PS]
  refine TK (i := 11) (v := .pointer (some ⟨g, 0, none⟩)) rfl (Or.inl ⟨by rfl, fun w hw => by obtain ⟨z0, z1⟩ := hw; go_simp⟩) hHeld ?_
  simp only [PS]
  refine TK (i := 12) (v := .pointer (some ⟨g, 4, none⟩)) rfl (Or.inl ⟨by rfl, fun w hw => by obtain ⟨z0, z1⟩ := hw; go_simp⟩) hHeld ?_
  simp only [PS]
  refine TK (i := 13) (v := .int .i64 wd) rfl (Or.inl ⟨by rfl, fun w hw => by obtain ⟨z0, z1⟩ := hw; go_simp⟩) hHeld ?_
  simp only [PS]
  refine wpAnyH_ready (rs := [8]) (by kernel_rfl) (by simp) ?_
  refine AllReadyH.cons rfl (fun K hK => ?_) AllReadyH.nil
  go_simp
  refine hK.out _ _ hHeld (fun _ => ?_)
  clear hK K
  try simp only [PS]
  refine TK (i := 9) (v := .agg #[.int .i64 3, .int .i64 lf, .int .i64 nm, .string ⟨#[]⟩]) rfl (Or.inl ⟨by rfl, fun w hw => by obtain ⟨z0, z1⟩ := hw; go_simp⟩) hHeld ?_
  simp only [PS]
  refine wpAnyH_ready (rs := [14]) (by kernel_rfl) (by simp) ?_
  refine AllReadyH.cons rfl (fun K hK => ?_) AllReadyH.nil
  refine step_call (by rfl) 228 #[pageV 3 lf nm ⟨#[]⟩, .int .i64 wd] (by go_simp) (form_i_any 3 lf nm ByteArray.empty wd _ (by simp)) ?_
  rintro e w4 ⟨rfl, hb4⟩
  refine ⟨_, rfl, ?_⟩
  have hb4' : Below w.heap.size w w4 := (Below.refl _ _).drew.trans hb4
  have hW4 := h.below hb4'
  refine hK.out _ _ (⟨hW4.row.cell 3 _ rfl, hW4.row.cell 4 _ rfl⟩) (fun hHd2 => ?_)
  clear hK K
  try simp only [PS]
  refine wpAnyH_ready (rs := [15]) (by kernel_rfl) (by simp) ?_
  refine AllReadyH.cons rfl (fun K hK => ?_) AllReadyH.nil
  refine step_call (by rfl) 189 #[.pointer (some ⟨g, 0, none⟩), .string (formOf 3 lf nm ByteArray.empty wd)] (by go_simp) (page_i2 base g v os at_ nm lf wd _ _ hW4 (Nat.le_trans hb hb4'.size) hl ha0 ha1 hn0 hn1) ?_
  rintro e w5 ⟨⟨x, rfl⟩, v', hW5, hb5, hwk5⟩
  refine ⟨_, rfl, ?_⟩
  refine hK.out _ _ (⟨hW5.row.cell 3 _ rfl, hW5.row.cell 4 _ rfl⟩) (fun hHd3 => ?_)
  clear hK K
  try simp only [PS]
  refine wpAnyH_done (by kernel_rfl) ?_ _
  go_end0
  exact ⟨⟨_, rfl⟩, v', hW5, (hb4'.mono hb).trans hb5, (⟨hb4'.size, fun _ h => .inl h, fun b hb _ _ => hb4'.block b hb⟩ : WK g w v w4 v).trans hwk5⟩
set_option maxHeartbeats 4000000 in
theorem turned_i (T H F R S L : Int) (w : World) (hT : 0 ≤ T) (hT1 : T ≤ 1000000000) (hH : 0 ≤ H) (hH1 : H ≤ 1) (hF : 0 ≤ F) (hF1 : F ≤ 999999000) :
    Calls Tryz.prog 160 #[rootV T H F R, .int .i64 S, .int .i64 L] w fun e w' => e = .returned (rootV (T + 1) (1 - H) (F + hv S) L) ∧ Below w.heap.size w w' := by
  have hQ : 0 ≤ hv S ∧ hv S ≤ 99 := by by_cases h : 8 ≤ S ∧ S ≤ 200; have := hv_yes h; omega; rw [hv_no h]; omega
  have HH := hid (fun w' => halves_i S w')
  obtain ⟨Q, HQ⟩ : ∃ Q, Hid (Q = hv S) := ⟨_, hid rfl⟩
  rw [← HQ.out] at hQ HH ⊢
  have hw1 : IntKind.i64.wrap (T + 1) = T + 1 := by simp [IntKind.wrap, IntKind.bits, IntKind.signed]; omega
  have hw2 : IntKind.i64.wrap (1 - H) = 1 - H := by simp [IntKind.wrap, IntKind.bits, IntKind.signed]; omega
  have hw3 : IntKind.i64.wrap (F + Q) = F + Q := by simp [IntKind.wrap, IntKind.bits, IntKind.signed]; omega
  have hbb : ∀ {cs : Array Value} {cs' : Array Value} {t t' : TypeId}, Below w.heap.size w ((w.alloc (.cells cs t)).alloc (.cells cs' t')) := ((Below.refl _ _).alloc (Nat.le_refl _) _).alloc (by simp) _
  go_enter Tryz.func160, Tryz.ntmps160
  go_wp2_with fail
  refine wp_region_held_drew (S := fun w' => w'.cell? ⟨w.heap.size, 0, none⟩ = some (.int .i64 T) ∧ w'.cell? ⟨w.heap.size, 1, none⟩ = some (.int .i64 H) ∧ w'.cell? ⟨w.heap.size, 2, none⟩ = some (.int .i64 F)) (by kernel_rfl) (⟨by go_simp, by go_simp, by go_simp⟩) (fun hHeld => ?_)
  refine TK (i := 0) (v := .pointer (some ⟨w.heap.size, 0, none⟩)) rfl (Or.inl ⟨by rfl, fun w hw => by obtain ⟨z0, z1, z2⟩ := hw; go_simp⟩) hHeld ?_
  simp only [PS]
  refine TK (i := 1) (v := .int .i64 T) rfl (Or.inl ⟨by rfl, fun w hw => by obtain ⟨z0, z1, z2⟩ := hw; go_simp⟩) hHeld ?_
  simp only [PS]
  refine TK (i := 2) (v := .int .i64 (T + 1)) rfl (Or.inl ⟨by rfl, fun w hw => by obtain ⟨z0, z1, z2⟩ := hw; go_simp⟩) hHeld ?_
  simp only [PS]
  refine TK (i := 3) (v := .pointer (some ⟨w.heap.size, 1, none⟩)) rfl (Or.inl ⟨by rfl, fun w hw => by obtain ⟨z0, z1, z2⟩ := hw; go_simp⟩) hHeld ?_
  simp only [PS]
  refine TK (i := 4) (v := .int .i64 H) rfl (Or.inl ⟨by rfl, fun w hw => by obtain ⟨z0, z1, z2⟩ := hw; go_simp⟩) hHeld ?_
  simp only [PS]
  refine TK (i := 5) (v := .int .i64 (1 - H)) rfl (Or.inl ⟨by rfl, fun w hw => by obtain ⟨z0, z1, z2⟩ := hw; go_simp⟩) hHeld ?_
  simp only [PS]
  refine TK (i := 6) (v := .pointer (some ⟨w.heap.size, 2, none⟩)) rfl (Or.inl ⟨by rfl, fun w hw => by obtain ⟨z0, z1, z2⟩ := hw; go_simp⟩) hHeld ?_
  simp only [PS]
  refine TK (i := 7) (v := .int .i64 F) rfl (Or.inl ⟨by rfl, fun w hw => by obtain ⟨z0, z1, z2⟩ := hw; go_simp⟩) hHeld ?_
  simp only [PS]
  refine TK (i := 8) (v := .int .i64 S) rfl (Or.inl ⟨by rfl, fun w hw => by obtain ⟨z0, z1, z2⟩ := hw; go_simp⟩) hHeld ?_
  simp only [PS]
  refine TK (i := 11) (v := .int .i64 L) rfl (Or.inl ⟨by rfl, fun w hw => by obtain ⟨z0, z1, z2⟩ := hw; go_simp⟩) hHeld ?_
  simp only [PS]
  refine wpAnyH_ready (rs := [9]) (by kernel_rfl) (by simp) ?_
  refine AllReadyH.cons rfl (fun K hK => ?_) AllReadyH.nil
  refine step_call (by rfl) 64 #[.int .i64 S] (by go_simp) (HH.out _) ?_
  rintro e w4 ⟨rfl, rfl⟩
  refine ⟨_, rfl, ?_⟩
  refine hK.out _ _ hHeld (fun _ => ?_)
  clear hK K
  try simp only [PS]
  refine TK (i := 10) (v := .int .i64 (F + Q)) rfl (Or.inl ⟨by rfl, fun w hw => by obtain ⟨z0, z1, z2⟩ := hw; go_simp⟩) hHeld ?_
  simp only [PS]
  refine TK (i := 12) (v := .agg #[.int .i64 (T + 1), .int .i64 (1 - H), .int .i64 (F + Q), .int .i64 L]) rfl (Or.inl ⟨by rfl, fun w hw => by obtain ⟨z0, z1, z2⟩ := hw; go_simp⟩) hHeld ?_
  simp only [PS]
  refine wpAnyH_ready (rs := [13]) (by kernel_rfl) (by simp) ?_
  refine AllReadyH.cons rfl (fun K hK => ?_) AllReadyH.nil
  go_simp
  refine hK.out _ _ (⟨by go_simp, by go_simp, by go_simp⟩) (fun hHd2 => ?_)
  clear hK K
  try simp only [PS]
  refine wpAnyH_done (by kernel_rfl) ?_ _
  go_wp2
  refine bodyPost_ret (v := rootV (T + 1) (1 - H) (F + Q) L) (by simp [results, Tryz.results160, go_sem]) rfl ⟨rfl, ?_⟩
  exact hbb.drew
set_option maxHeartbeats 4000000 in
theorem entry_i (base g : Nat) (v : Value) (os : List OpT) (at_ nm lf : Int) (n m : Nat) (text : ByteArray) (w : World) (h : Wrt w base g v os at_ nm lf (n : Int)) (hb : base ≤ w.heap.size) (ht : text.size ≤ 100000) (hl : os.length + (cutAll text lf nm n m).length ≤ 1000) (hm : n + m = 56) (hn1 : 1 ≤ n) (hn8 : n ≤ 8) (ha0 : 0 ≤ at_) (ha1 : at_ ≤ 10000) (hm0 : 0 ≤ nm) (hm1 : nm ≤ 1900000000) :
    Calls Tryz.prog 97 #[.pointer (some ⟨g, 0, none⟩), .string text] w fun e w' => (∃ x, e = .returned x) ∧ ∃ v', Wrt w' base g v' (os ++ putOps at_ (cutAll text lf nm n m)) (at_ + ((cutAll text lf nm n m).length : Int)) (nm + ((cutAll text lf nm n m).length : Int)) lf (n : Int) ∧ Below base w w' ∧ WK g w v w' v' := by
  have HC := hid (fun W => cut_i text lf nm n m W (by omega) hm hn1 hn8 (by omega) (by omega))
  obtain ⟨cut, hcut⟩ : ∃ cut, cut = cutAll text lf nm n m := ⟨_, rfl⟩
  rw [← hcut] at HC hl ⊢
  clear hcut
  go_enter Tryz.func97, Tryz.ntmps97
  go_wp2_with fail
  refine wp_region_held_drew (S := fun w' => w'.cell? ⟨g, 2, none⟩ = some (.int .i64 nm) ∧ w'.cell? ⟨g, 3, none⟩ = some (.int .i64 lf) ∧ w'.cell? ⟨g, 4, none⟩ = some (.int .i64 (n : Int))) (by kernel_rfl) (⟨h.row.drew.cell 2 _ rfl, h.row.drew.cell 3 _ rfl, h.row.drew.cell 4 _ rfl⟩) (fun hHeld => ?_)
  refine TK (i := 0) (v := .string text) rfl (Or.inl ⟨by rfl, fun w hw => by obtain ⟨z0, z1, z2⟩ := hw; go_simp⟩) hHeld ?_
  simp only [PS]
  refine TK (i := 1) (v := .pointer (some ⟨g, 0, none⟩)) rfl (Or.inl ⟨by rfl, fun w hw => by obtain ⟨z0, z1, z2⟩ := hw; go_simp⟩) hHeld ?_
  simp only [PS]
  refine TK (i := 2) (v := .pointer (some ⟨g, 0, none⟩)) rfl (Or.inl ⟨by rfl, fun w hw => by obtain ⟨z0, z1, z2⟩ := hw; go_simp⟩) hHeld ?_
  simp only [PS]
  refine TK (i := 3) (v := .pointer (some ⟨g, 3, none⟩)) rfl (Or.inl ⟨by rfl, fun w hw => by obtain ⟨z0, z1, z2⟩ := hw; go_simp⟩) hHeld ?_
  simp only [PS]
  refine TK (i := 4) (v := .int .i64 lf) rfl (Or.inl ⟨by rfl, fun w hw => by obtain ⟨z0, z1, z2⟩ := hw; go_simp⟩) hHeld ?_
  simp only [PS]
  refine TK (i := 5) (v := .pointer (some ⟨g, 0, none⟩)) rfl (Or.inl ⟨by rfl, fun w hw => by obtain ⟨z0, z1, z2⟩ := hw; go_simp⟩) hHeld ?_
  simp only [PS]
  refine TK (i := 6) (v := .pointer (some ⟨g, 0, none⟩)) rfl (Or.inl ⟨by rfl, fun w hw => by obtain ⟨z0, z1, z2⟩ := hw; go_simp⟩) hHeld ?_
  simp only [PS]
  refine TK (i := 7) (v := .pointer (some ⟨g, 2, none⟩)) rfl (Or.inl ⟨by rfl, fun w hw => by obtain ⟨z0, z1, z2⟩ := hw; go_simp⟩) hHeld ?_
  simp only [PS]
  refine TK (i := 8) (v := .int .i64 nm) rfl (Or.inl ⟨by rfl, fun w hw => by obtain ⟨z0, z1, z2⟩ := hw; go_simp⟩) hHeld ?_
  simp only [PS]
  refine TK (i := 9) (v := .pointer (some ⟨g, 0, none⟩)) rfl (Or.inl ⟨by rfl, fun w hw => by obtain ⟨z0, z1, z2⟩ := hw; go_simp⟩) hHeld ?_
  simp only [PS]
  refine TK (i := 10) (v := .pointer (some ⟨g, 0, none⟩)) rfl (Or.inl ⟨by rfl, fun w hw => by obtain ⟨z0, z1, z2⟩ := hw; go_simp⟩) hHeld ?_
  simp only [PS]
  refine TK (i := 11) (v := .pointer (some ⟨g, 4, none⟩)) rfl (Or.inl ⟨by rfl, fun w hw => by obtain ⟨z0, z1, z2⟩ := hw; go_simp⟩) hHeld ?_
  simp only [PS]
  refine TK (i := 12) (v := .int .i64 (n : Int)) rfl (Or.inl ⟨by rfl, fun w hw => by obtain ⟨z0, z1, z2⟩ := hw; go_simp⟩) hHeld ?_
  simp only [PS]
  refine TK (i := 15) (v := .int .i64 0) rfl (Or.inl ⟨by rfl, fun w hw => by obtain ⟨z0, z1, z2⟩ := hw; go_simp⟩) hHeld ?_
  simp only [PS]
  refine wpAnyH_ready (rs := [13]) (by kernel_rfl) (by simp) ?_
  refine AllReadyH.cons rfl (fun K hK => ?_) AllReadyH.nil
  refine step_call (by rfl) 188 #[.string text, .int .i64 lf, .int .i64 nm, .int .i64 (n : Int)] (by go_simp) (HC.out _) ?_
  rintro e w4 ⟨a4, c4, rfl, ho4, hf4, hb4⟩
  refine ⟨_, rfl, ?_⟩
  have hb4' : Below w.heap.size w w4 := (Below.refl _ _).drew.trans hb4
  have hW4 := h.below hb4'
  refine hK.out _ _ (⟨hW4.row.cell 2 _ rfl, hW4.row.cell 3 _ rfl, hW4.row.cell 4 _ rfl⟩) (fun hHd1 => ?_)
  clear hK K
  try simp only [PS]
  refine TK (i := 14) (v := .int .i64 (cut.length : Int)) rfl (Or.inl ⟨by rfl, fun w hw => by obtain ⟨z0, z1, z2⟩ := hw; go_simp⟩) hHd1 ?_
  simp only [PS]
  refine wpAnyH_done (by kernel_rfl) ?_ _
  have HO4 := hid ho4
  have HF4 := hid hf4
  have HW4 := hid hW4
  have HB4 := hid hb4'
  have hs4 := hb4'.size
  clear ho4 hf4 hW4 hb4' hb4 hHeld hHd1
  go_wp2_with fail
  go_loopw [21] (fun i wr => ∃ j : Nat, j ≤ cut.length ∧ i = .int .i64 (j : Int) ∧ ∃ v', Wrt wr base g v' (os ++ putOps at_ (cut.take j)) (at_ + (j : Int)) (nm + (j : Int)) lf (n : Int) ∧ Below base w wr ∧ WK g w4 v wr v') (fun i _ => cut.length - (intOf i).toNat)
  case atStart =>
    refine ⟨0, Nat.zero_le _, rfl, v, ?_, HB4.out.mono hb, WK.start _ _ _⟩
    rw [List.take_zero, putOps_nil, List.append_nil]; simpa using HW4.out
  case round =>
    obtain ⟨j, hj, rfl, v', hW, hbl, hwk⟩ := hrel
    by_cases hlt : j < cut.length
    · have hsz := hwk.size
      obtain ⟨g4, rfl, hr4⟩ := HO4.out.resolve_left (by intro e; have := congrArg List.length e; simp at this; rw [this] at hlt; simp at hlt)
      have hg4 : w.heap.size ≤ g4 := HF4.out g4 (blk_pos _ _ _ (by omega))
      have hgb := h.row.lt
      have hrow := hr4.wk hwk (by omega) (fun e => by have := (h.own.lt g4 e.symm).2; omega)
      have hcj := hrow.cell j (.string (cut.getD j ByteArray.empty)) (by simp [hlt, List.getD])
      obtain ⟨pj, hpj⟩ : ∃ pj, pj = cut.getD j ByteArray.empty := ⟨_, rfl⟩
      rw [← hpj] at hcj
      have hg4l := hrow.lt
      have hlt' : (j : Int) < (cut.length : Int) := by omega
      have hj0 : (0 : Int) ≤ (j : Int) := by omega
      have hsr : base ≤ wr.heap.size := by omega
      have HP := hid (page_i2 base g v' (os ++ putOps at_ (cut.take j)) (at_ + (j : Int)) (nm + (j : Int)) lf (n : Int) pj wr hW hsr (by simp [putOps_length]; omega) (by omega) (by omega) (by omega) (by omega))
      have HBL := hid hbl
      have HPJ := hid hpj
      have hgg := hW.row.lt
      have HWK := hid hwk
      clear hW hbl hrow hwk hpj
      go_wp2_with (go_at_call 189; refine HP.out.mono ?_; rintro e w5 ⟨⟨x, rfl⟩, v5, hW5, hb5, hwk5⟩)
      have hs5 := hb5.size
      have hsn : os ++ putOps at_ (cut.take (j + 1)) = os ++ putOps at_ (cut.take j) ++ [(false, at_ + (j : Int), pj)] := by rw [takeR_snoc cut j ByteArray.empty hlt, putOps_snoc, ← HPJ.out, List.append_assoc, List.length_take, show min j cut.length = j by omega]
      refine ⟨⟨j + 1, by omega, by go_num, v5, ?_, HBL.out.trans hb5, HWK.out.trans hwk5⟩, by simp [intOf]; omega⟩
      rw [hsn]; have e1 : at_ + ((j + 1 : Nat) : Int) = at_ + (j : Int) + 1 := by omega
      have e2 : nm + ((j + 1 : Nat) : Int) = nm + (j : Int) + 1 := by omega
      rw [e1, e2]; exact hW5
    · have hje : j = cut.length := by omega
      subst hje
      go_wp2_with fail
      go_end0
      rw [List.take_length] at hW
      exact ⟨⟨_, rfl⟩, v', hW, hbl, (⟨hs4, fun _ h => .inl h, fun b hb _ _ => HB4.out.block b hb⟩ : WK g w v w4 v).trans hwk⟩
end Go.Proofs.YtnmaknnnmjfhkagGreatDoor
