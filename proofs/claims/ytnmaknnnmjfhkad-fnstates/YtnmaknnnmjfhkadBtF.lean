import Derived.Test.YtnmaknnnmjfhkadBtD
import Derived.Test.YtnmaknnnmjfhkadPm
import Derived.Deep.LoopGhost
namespace Go.Proofs.Ytnmaknnnmjfhkad
open Go.RowKit
set_option maxRecDepth 8000
set_option linter.unusedVariables false
set_option linter.unusedSimpArgs false

theorem chcells_set : ∀ (rs : List (ByteArray × ByteArray × Bool)) (k : Nat) (x : ByteArray × ByteArray × Bool), k < rs.length → chcells (rs.set k x) = (((chcells rs).set (k * 3) (.string x.1)).set (k * 3 + 1) (.string x.2.1)).set (k * 3 + 2) (.bool x.2.2)
  | y :: r, 0, x, _ => by simp [chcells]
  | y :: r, k + 1, x, h => by
    have ih := chcells_set r k x (by simpa using h)
    have e : ∀ (z : ByteArray × ByteArray × Bool) (l : List (ByteArray × ByteArray × Bool)), chcells (z :: l) = .string z.1 :: .string z.2.1 :: .bool z.2.2 :: chcells l := fun z l => by simp [chcells]
    rw [List.set_cons_succ, e, e, ih, show (k + 1) * 3 = k * 3 + 3 by omega]
    rfl
theorem list_set_same {α : Type} (l : List α) (i : Nat) (v : α) (h : l[i]? = some v) : l.set i v = l := by
  obtain ⟨hi, rfl⟩ := List.getElem?_eq_some_iff.1 h
  exact List.set_getElem_self hi
theorem chset_0 (rs : List (ByteArray × ByteArray × Bool)) (k : Nat) (hk : k < rs.length) (s : ByteArray) (d : ByteArray × ByteArray × Bool) (hd : d = (ByteArray.empty, ByteArray.empty, false)) : (chcells rs).set (k * 3) (.string s) = chcells (rs.set k (s, (rs.getD k d).2.1, (rs.getD k d).2.2)) := by
  subst hd
  obtain ⟨h0, h1, h2⟩ := chcells_at rs k hk
  rw [chcells_set rs k _ hk]
  rw [list_set_same (((chcells rs).set (k * 3) (.string s))) (k * 3 + 1) _ (by rw [List.getElem?_set_ne (by omega)]; exact h1)]
  rw [list_set_same (((chcells rs).set (k * 3) (.string s))) (k * 3 + 2) _ (by rw [List.getElem?_set_ne (by omega)]; exact h2)]
theorem chset_1 (rs : List (ByteArray × ByteArray × Bool)) (k : Nat) (hk : k < rs.length) (s : ByteArray) (d : ByteArray × ByteArray × Bool) (hd : d = (ByteArray.empty, ByteArray.empty, false)) : (chcells rs).set (k * 3 + 1) (.string s) = chcells (rs.set k ((rs.getD k d).1, s, (rs.getD k d).2.2)) := by
  subst hd
  obtain ⟨h0, h1, h2⟩ := chcells_at rs k hk
  rw [chcells_set rs k _ hk]
  rw [list_set_same (chcells rs) (k * 3) _ h0]
  rw [list_set_same (((chcells rs).set (k * 3 + 1) (.string s))) (k * 3 + 2) _ (by rw [List.getElem?_set_ne (by omega)]; exact h2)]
theorem chset_2 (rs : List (ByteArray × ByteArray × Bool)) (k : Nat) (hk : k < rs.length) (g : Bool) (d : ByteArray × ByteArray × Bool) (hd : d = (ByteArray.empty, ByteArray.empty, false)) : (chcells rs).set (k * 3 + 2) (.bool g) = chcells (rs.set k ((rs.getD k d).1, (rs.getD k d).2.1, g)) := by
  subst hd
  obtain ⟨h0, h1, h2⟩ := chcells_at rs k hk
  rw [chcells_set rs k _ hk]
  rw [list_set_same (chcells rs) (k * 3) _ h0, list_set_same (chcells rs) (k * 3 + 1) _ h1]
theorem chsLe.mono {rs : List (ByteArray × ByteArray × Bool)} {k v k' v' : Nat} (h : chsLe rs k v) (hk : k ≤ k') (hv : v ≤ v') : chsLe rs k' v' := fun x hx => ⟨Nat.le_trans (h x hx).1 hk, Nat.le_trans (h x hx).2 hv⟩
theorem chsLe.get {rs : List (ByteArray × ByteArray × Bool)} {k v : Nat} (h : chsLe rs k v) (i : Nat) : (rs.getD i (ByteArray.empty, ByteArray.empty, false)).1.size ≤ k ∧ (rs.getD i (ByteArray.empty, ByteArray.empty, false)).2.1.size ≤ v := by
  by_cases hi : i < rs.length
  · have e : rs.getD i (ByteArray.empty, ByteArray.empty, false) = rs[i] := by simp [List.getD, hi]
    rw [e]
    exact h _ (List.getElem_mem hi)
  · have e : rs.getD i (ByteArray.empty, ByteArray.empty, false) = (ByteArray.empty, ByteArray.empty, false) := by simp [List.getD, hi]
    rw [e]
    exact ⟨Nat.zero_le _, Nat.zero_le _⟩
theorem chsLe.set {rs : List (ByteArray × ByteArray × Bool)} {k v : Nat} (h : chsLe rs k v) (i : Nat) (x : ByteArray × ByteArray × Bool) (h1 : x.1.size ≤ k) (h2 : x.2.1.size ≤ v) : chsLe (rs.set i x) k v := fun y hy => by
  rcases List.mem_or_eq_of_mem_set hy with h3 | h3
  · exact h y h3
  · subst h3; exact ⟨h1, h2⟩
theorem BdS.stored {w0 w : World} {e : TypeId} {k : Nat} {R : Nat} {a : Option Addr} {n c : Nat} {q : Int} {g cap m : Nat} {cs : List Value} (h : BdS w0 w e k R a n c q (.slice (some ⟨g, 0, none⟩) m cap) m cs) (hm : 0 < m) (j : Nat) (u : Value) : BdS w0 (w.setCell ⟨g, j, none⟩ u) e k R a n c q (.slice (some ⟨g, 0, none⟩) m cap) m (cs.set j u) := by
  have hg : w0.heap.size ≤ g := (h.own.lt g rfl).1
  exact ⟨h.rd.keep (N := w0.heap.size) h.lR h.ga ((Below.refl _ _).setCell hg _), (h.own.stored j u).1, grown_setN h.gr _ hg _, h.lR, h.ga⟩
set_option maxHeartbeats 32000000 in
theorem spoil_r (R : Nat) (a : Option Addr) (n c : Nat) (p : Int) (rs0 : List (ByteArray × ByteArray × Bool)) (v0 : Value) (B : Nat) (w : World) (h : Rdr w R a n c p) (hp : p < 99990000) (hown : w.ownsRow B 33 3 v0 rs0.length (chcells rs0)) (h1 : 1 ≤ rs0.length) (h2 : rs0.length ≤ 20) (hle : chsLe rs0 64000 64000) : Calls Try.prog 54 #[.pointer (some ⟨R, 0, none⟩), v0] w fun e w' => (∃ v rs, e = .returned v ∧ w'.ownsRow w.heap.size 33 3 v rs.length (chcells rs) ∧ rs.length ≤ 21 ∧ chsLe rs 64000 64000) ∧ RdTo w R a n c p 5 w' := by
  have p0 := h.p0
  obtain ⟨i0, hi0, hz0, hz1, hz2⟩ := info_partsB info_chB
  have HI := hid (And.intro hi0 (And.intro hz0 (And.intro hz1 hz2)))
  clear hi0 hz0 hz1 hz2
  have D0 : BdS w (w.alloc (.cells #[] 33)) 33 3 R a n c p (.slice (some ⟨w.heap.size, 0, none⟩) 0 0) 0 [] :=
    ⟨h.below (below_nw _ _), World.ownsRow_lit _ #[] 0 (Nat.le_refl _) (by simp) (by simp), grown_of_below _ (below_nw _ _), h.lts.1, h.lts.2⟩
  obtain ⟨g0, c0, rfl, _, _⟩ := hown.form (by omega)
  have hlie : ∀ j u, (chcells rs0)[j]? = some u → (w.alloc (.cells #[] 33)).cell? ((⟨g0, 0, none⟩ : Addr).add j) = some u := (hown.alloc (.cells #[] 33)).cells rfl
  have HLIE := hid hlie
  have HO0 := hid D0.own
  have hone : ∀ u ∈ chcells rs0, u.oneCell' = true := by
    intro u hu
    unfold chcells at hu
    obtain ⟨x, _, hx⟩ := List.mem_flatMap.1 hu
    simp at hx
    rcases hx with rfl | rfl | rfl <;> rfl
  have HONE := hid hone
  have hcl := chcells_length rs0
  clear hlie hone h hown
  go_enter Try.func54, Try.ntmps54
  go_wp2_with (first | (at_builtin; refine wpList_append_lies _ rfl _ _ 26 rfl w.heap.size 33 i0 (.agg #[.string ByteArray.empty, .string ByteArray.empty, .bool false]) 3 40 Try.underlying26 HI.out.1 HI.out.2.1 HI.out.2.2.1 HI.out.2.2.2 rfl (by omega) _ 0 _ rfl HO0.out ⟨g0, 0, none⟩ rs0.length c0 (chcells rs0) rfl hcl HLIE.out HONE.out (by omega) (by unfold maxLen; omega) (by omega) (by simp) (w.heap.size + 1) (by simp) ?_; intro g cap w1 hown1 hgrow1 hat1 hlt1; have D1 := D0.push hown1 hgrow1; clear hown1 hgrow1 hat1))
  rw [Nat.zero_add, List.nil_append] at D1
  refine (pick_r R a n c p (rs0.length : Int) _ D1.rd (by omega)).mono ?_
  rintro e w2 ⟨⟨k', rfl, k0, k1⟩, hr2, hg2⟩
  have D2 := D1.pick hr2 hg2
  clear D1 hr2 hg2 D0 HO0 HLIE HONE
  obtain ⟨k, rfl⟩ : ∃ x : Nat, k' = (x : Int) := ⟨k'.toNat, by omega⟩
  have hk : k < rs0.length := by omega
  have hki : (k : Int) < (rs0.length : Int) := by omega
  have hl0 : ¬ ((rs0.length : Int) = 0) := by omega
  clear k0 k1
  go_wp2_with fail
  refine (pick_r R a n c (p + 1) 6 _ D2.rd (by omega)).mono ?_
  rintro e w3 ⟨⟨v, rfl, v0, v1⟩, hr3, hg3⟩
  have D3 := D2.pick hr3 hg3
  clear D2 hr3 hg3
  have hv : v = 0 ∨ v = 1 ∨ v = 2 ∨ v = 3 ∨ v = 4 ∨ v = 5 := by omega
  clear v0 v1
  have hat := chcells_at rs0 k hk
  have hgl := hle.get k
  obtain ⟨X, e_X⟩ : ∃ X, X = rs0.getD k (ByteArray.empty, ByteArray.empty, false) := ⟨_, rfl⟩
  rcases hv with rfl | rfl | rfl | rfl | rfl | rfl
  · have D4 : BdS w (w3.alloc (.cells #[] 33)) 33 3 R a n c (p + 1 + 1) (.slice (some ⟨w3.heap.size, 0, none⟩) 0 0) 0 [] :=
      ⟨D3.rd.below (below_nw _ _), World.ownsRow_lit _ #[] 0 D3.lt (by simp) (by simp), grown_trans D3.gr (grown_of_below _ (below_nw _ _)), D3.lR, D3.ga⟩
    go_wp2
    go_ret
    first | exact ⟨⟨_, [], rfl, D4.own, by simp, fun x hx => by simp at hx⟩, ⟨p + 1 + 1, by omega, by omega, D4.rd⟩, D4.gr⟩ | exact ⟨⟨_, rfl, [], D4.own, by simp, fun x hx => by simp at hx⟩, ⟨p + 1 + 1, by omega, by omega, D4.rd⟩, D4.gr⟩
  · go_wp2_with fail
    refine (pick_r R a n c (p + 1 + 1) 2 _ D3.rd (by omega)).mono ?_
    rintro e w4 ⟨⟨z, rfl, z0, z1⟩, hr4, hg4⟩
    have D4 := D3.pick hr4 hg4
    clear D3 hr4 hg4
    have hz : IntKind.i64.wrap (20 + z) = 20 + z := wrap_i64_id _ (by omega) (by omega)
    go_wp2_with fail
    refine (many_r ⟨#[107]⟩ (20 + z) _ (by decide) (by omega)).mono ?_
    rintro e w5 ⟨⟨t, rfl, ht⟩, hb5⟩
    have D5 := D4.below hb5
    clear D4 hb5
    have D6 := D5.below (below_nw w5 (.cells #[.string ⟨#[]⟩, .string t] 9))
    have rT := row_new w5 #[.string ⟨#[]⟩, .string t] 9
    go_wp2_with fail
    refine (pick_r R a n c (p + 1 + 1 + 1) 2 _ D6.rd (by omega)).mono ?_
    rintro e w7 ⟨⟨y, rfl, y0, y1⟩, hr7, hg7⟩
    have D7 := D6.pick hr7 hg7
    have lR := D5.lR
    have l5 := D5.lt
    have rT := rT.grown hg7 (fun e => by injection e with e; omega)
    have t0 := rT.cell 0 _ rfl
    have t1 := rT.cell 1 _ rfl
    have tl := rT.lt
    have cg := D7.own.cellAt (k * 3) (by omega)
    rw [hat.1] at cg
    have fg := D7.own.frozenAt (k * 3)
    have lg := (D7.own.lt g rfl).2
    clear D6 D5 hr7 hg7 lR
    have hy : y = 0 ∨ y = 1 := by omega
    clear y0 y1
    rcases hy with rfl | rfl
    · have D8 := D7.stored (by omega) (k * 3) (.string ⟨#[]⟩)
      rw [chset_0 rs0 k hk _ _ rfl] at D8
      have D9 := hid D8
      clear D8 D7
      go_wp2
      go_ret
      first | exact ⟨⟨_, rs0.set k (⟨#[]⟩, (rs0.getD k (ByteArray.empty, ByteArray.empty, false)).2.1, (rs0.getD k (ByteArray.empty, ByteArray.empty, false)).2.2), rfl, by rw [List.length_set]; exact D9.out.own, by rw [List.length_set]; omega, hle.set k _ (Nat.zero_le _) (by show _ ≤ _; exact hgl.2)⟩, ⟨_, by omega, by omega, D9.out.rd⟩, D9.out.gr⟩ | exact ⟨⟨_, rfl, rs0.set k (⟨#[]⟩, (rs0.getD k (ByteArray.empty, ByteArray.empty, false)).2.1, (rs0.getD k (ByteArray.empty, ByteArray.empty, false)).2.2), by rw [List.length_set]; exact D9.out.own, by rw [List.length_set]; omega, hle.set k _ (Nat.zero_le _) (by show _ ≤ _; exact hgl.2)⟩, ⟨_, by omega, by omega, D9.out.rd⟩, D9.out.gr⟩
    · have D8 := D7.stored (by omega) (k * 3) (.string t)
      rw [chset_0 rs0 k hk _ _ rfl] at D8
      have D9 := hid D8
      clear D8 D7
      go_wp2
      go_ret
      first | exact ⟨⟨_, rs0.set k (t, (rs0.getD k (ByteArray.empty, ByteArray.empty, false)).2.1, (rs0.getD k (ByteArray.empty, ByteArray.empty, false)).2.2), rfl, by rw [List.length_set]; exact D9.out.own, by rw [List.length_set]; omega, hle.set k _ (by exact ht) (by show _ ≤ _; exact hgl.2)⟩, ⟨_, by omega, by omega, D9.out.rd⟩, D9.out.gr⟩ | exact ⟨⟨_, rfl, rs0.set k (t, (rs0.getD k (ByteArray.empty, ByteArray.empty, false)).2.1, (rs0.getD k (ByteArray.empty, ByteArray.empty, false)).2.2), by rw [List.length_set]; exact D9.out.own, by rw [List.length_set]; omega, hle.set k _ (by exact ht) (by show _ ≤ _; exact hgl.2)⟩, ⟨_, by omega, by omega, D9.out.rd⟩, D9.out.gr⟩
  · go_wp2_with fail
    refine (pick_r R a n c (p + 1 + 1) 2 _ D3.rd (by omega)).mono ?_
    rintro e w4 ⟨⟨z, rfl, z0, z1⟩, hr4, hg4⟩
    have D4 := D3.pick hr4 hg4
    clear D3 hr4 hg4
    have hz : IntKind.i64.wrap (100 + z) = 100 + z := wrap_i64_id _ (by omega) (by omega)
    go_wp2_with fail
    refine (many_r ⟨#[118]⟩ (100 + z) _ (by decide) (by omega)).mono ?_
    rintro e w5 ⟨⟨t, rfl, ht⟩, hb5⟩
    have D7 := D4.below hb5
    clear D4 hb5
    have cg := D7.own.cellAt (k * 3 + 1) (by omega)
    rw [hat.2.1] at cg
    have fg := D7.own.frozenAt (k * 3 + 1)
    have lg := (D7.own.lt g rfl).2
    have D8 := D7.stored (by omega) (k * 3 + 1) (.string t)
    rw [chset_1 rs0 k hk _ _ rfl] at D8
    have D9 := hid D8
    clear D8 D7
    go_wp2
    go_ret
    first | exact ⟨⟨_, rs0.set k ((rs0.getD k (ByteArray.empty, ByteArray.empty, false)).1, t, (rs0.getD k (ByteArray.empty, ByteArray.empty, false)).2.2), rfl, by rw [List.length_set]; exact D9.out.own, by rw [List.length_set]; omega, hle.set k _ (by show _ ≤ _; exact hgl.1) (by exact ht)⟩, ⟨_, by omega, by omega, D9.out.rd⟩, D9.out.gr⟩ | exact ⟨⟨_, rfl, rs0.set k ((rs0.getD k (ByteArray.empty, ByteArray.empty, false)).1, t, (rs0.getD k (ByteArray.empty, ByteArray.empty, false)).2.2), by rw [List.length_set]; exact D9.out.own, by rw [List.length_set]; omega, hle.set k _ (by show _ ≤ _; exact hgl.1) (by exact ht)⟩, ⟨_, by omega, by omega, D9.out.rd⟩, D9.out.gr⟩
  · have cg := D3.own.cellAt (k * 3 + 2) (by omega)
    rw [hat.2.2] at cg
    have fg := D3.own.frozenAt (k * 3 + 2)
    have lg := (D3.own.lt g rfl).2
    obtain ⟨gb, e_gb⟩ : ∃ x, x = (rs0.getD k (ByteArray.empty, ByteArray.empty, false)).2.2 := ⟨_, rfl⟩
    rw [← e_gb] at cg
    have D8 := D3.stored (by omega) (k * 3 + 2) (.bool (!gb))
    rw [chset_2 rs0 k hk _ _ rfl] at D8
    have D9 := hid D8
    clear D8 D3 e_gb
    go_wp2
    go_ret
    first | exact ⟨⟨_, rs0.set k ((rs0.getD k (ByteArray.empty, ByteArray.empty, false)).1, (rs0.getD k (ByteArray.empty, ByteArray.empty, false)).2.1, !gb), rfl, by rw [List.length_set]; exact D9.out.own, by rw [List.length_set]; omega, hle.set k _ (by show _ ≤ _; exact hgl.1) (by show _ ≤ _; exact hgl.2)⟩, ⟨_, by omega, by omega, D9.out.rd⟩, D9.out.gr⟩ | exact ⟨⟨_, rfl, rs0.set k ((rs0.getD k (ByteArray.empty, ByteArray.empty, false)).1, (rs0.getD k (ByteArray.empty, ByteArray.empty, false)).2.1, !gb), by rw [List.length_set]; exact D9.out.own, by rw [List.length_set]; omega, hle.set k _ (by show _ ≤ _; exact hgl.1) (by show _ ≤ _; exact hgl.2)⟩, ⟨_, by omega, by omega, D9.out.rd⟩, D9.out.gr⟩
  · go_wp2_with fail
    refine (pick_r R a n c (p + 1 + 1) 2 _ D3.rd (by omega)).mono ?_
    rintro e w4 ⟨⟨z, rfl, z0, z1⟩, hr4, hg4⟩
    have D4 := D3.pick hr4 hg4
    clear D3 hr4 hg4
    have hz : IntKind.i64.wrap (20 + z) = 20 + z := wrap_i64_id _ (by omega) (by omega)
    go_wp2
    go_loopw [5] (fun y wr => ∃ (rs : List (ByteArray × ByteArray × Bool)) (Y : Value) (W : World), Y = y ∧ W = wr ∧ 1 ≤ rs.length ∧ (rs.length : Int) ≤ 20 + z ∧ chsLe rs 64000 64000 ∧ BdS w wr 33 3 R a n c (p + 1 + 1 + 1) y rs.length (chcells rs)) (fun y _ => match y with | .slice _ l _ => (20 + z - (l : Int)).toNat | _ => 0)
    case atStart => exact ⟨rs0, _, _, rfl, rfl, h1, by omega, hle, D4⟩
    case round =>
      obtain ⟨rs, y, wr, rfl, rfl, hr1, hr2, hrs, DR⟩ := hrel
      obtain ⟨yg, yc, rfl, _, _⟩ := DR.own.form (by omega)
      have HRS := hid hrs
      clear hrs hat hgl e_X
      by_cases hlt : (rs.length : Int) < 20 + z
      · have c0 := DR.own.cellAt 0 (by omega)
        have c1 := DR.own.cellAt 1 (by omega)
        have c2 := DR.own.cellAt 2 (by omega)
        have hc := chcells_at rs 0 (by omega)
        have hgt := HRS.out.get 0
        obtain ⟨⟨X0, X1, X2⟩, e_Y⟩ : ∃ X, rs.getD 0 (ByteArray.empty, ByteArray.empty, false) = X := ⟨_, rfl⟩
        rw [e_Y] at hc hgt
        simp only [Nat.zero_mul, Nat.zero_add] at hc
        rw [hc.1] at c0
        rw [hc.2.1] at c1
        rw [hc.2.2] at c2
        have lg := (DR.own.lt yg rfl).2
        have hr0 : (0 : Int) < (rs.length : Int) := by omega
        have D9 := DR.below (below_nw _ (.cells #[.string X0, .string X1, .bool X2] 33))
        have HO9 := hid D9.own
        have hy0 := DR.lt
        clear hc e_Y
        go_wp2_with (first | (at_builtin; refine wpList_append_lies _ rfl _ _ 26 rfl w.heap.size 33 i0 (.agg #[.string ByteArray.empty, .string ByteArray.empty, .bool false]) 3 40 Try.underlying26 HI.out.1 HI.out.2.1 HI.out.2.2.1 HI.out.2.2.2 rfl (by omega) _ rs.length _ rfl HO9.out ⟨wr.heap.size, 0, none⟩ 1 1 [.string X0, .string X1, .bool X2] rfl rfl (news_at _ _ _) (oneCB _ _ _) (by omega) (by unfold maxLen; omega) (by omega) (by simp; omega) (wr.heap.size + 1) (by simp) ?_; intro g2 cap2 w10 hown10 hgrow10 hat10 hlt10; have D10 := D9.push hown10 hgrow10; clear hown10 hgrow10 hat10))
        refine ⟨⟨rs ++ [(X0, X1, X2)], _, _, rfl, rfl, by simp, by simp; omega, ?_, ?_⟩, by simp; omega⟩
        · intro x hx
          rcases List.mem_append.1 hx with hx | hx
          · exact HRS.out x hx
          · simp at hx; subst hx; exact hgt
        · rw [chcells_snocB, List.length_append]; exact D10
      · go_wp2
        go_ret
        first | exact ⟨⟨_, rs, rfl, DR.own, by omega, HRS.out⟩, ⟨p + 1 + 1 + 1, by omega, by omega, DR.rd⟩, DR.gr⟩ | exact ⟨⟨_, rfl, rs, DR.own, by omega, HRS.out⟩, ⟨p + 1 + 1 + 1, by omega, by omega, DR.rd⟩, DR.gr⟩
  · go_wp2
    go_ret
    first | exact ⟨⟨_, rs0, rfl, D3.own, by omega, hle⟩, ⟨p + 1 + 1, by omega, by omega, D3.rd⟩, D3.gr⟩ | exact ⟨⟨_, rfl, rs0, D3.own, by omega, hle⟩, ⟨p + 1 + 1, by omega, by omega, D3.rd⟩, D3.gr⟩
end Go.Proofs.Ytnmaknnnmjfhkad
