import Derived.Test.YtnmaknnnmjfhkadPfI
namespace Go.Proofs.Ytnmaknnnmjfhkad
open Go.RowKit
set_option linter.unusedVariables false
set_option linter.unusedSimpArgs false

set_option maxRecDepth 100000 in
set_option maxHeartbeats 2000000 in
theorem do_i_sync (base X g n : Nat) (v : Value) (ss : List ByteArray) (ws : List (Int × ByteArray)) (at_ : Int) (d : ByteArray) (w : World) (h : DV w base X g n v (ss.map nums) (hsOf ws)) (hn : ss.length = n) (hok : diskOk ss ws = true) (hbw : base ≤ w.heap.size) :
    Calls Try.prog 103 #[.pointer (some ⟨X, 0, none⟩), .agg #[.bool true, .int .i64 at_, .string d]] w fun e w' => (∃ x, e = .returned x) ∧ DV w' base X g n (.slice none 0 0) ((syncs ws ss).map nums) [] ∧ Below base w w' := by
  obtain ⟨⟨hn1, hn2, hn3⟩, h64, hw⟩ := diskOk_of hok
  have hb0 : ∀ o, Below w.heap.size w (w.alloc o) := fun o => (Below.refl _ _).alloc (Nat.le_refl _) _
  have HS := hid (fun (o : Obj) => sync_d base X g n v (ss.map nums) (hsOf ws) (w.alloc o) (h.below (hb0 o)) (by simp [hn]) (by omega) (by rw [hsOf_length]; omega) (hsOf_64 (fun x hx => by have := (wOk_64 (hw x hx)).2; omega)) (fun p hp => by
    obtain ⟨x, hx, rfl⟩ := List.mem_map.1 hp
    have := (wOk_64 (hw x hx)).1
    rw [hn] at this
    exact this) (Nat.le_trans hbw (hb0 o).size))
  go_enter Try.func103, Try.ntmps103
  go_wp2_with (go_at_call 134; refine (HS.out _).mono ?_; rintro e w1 ⟨⟨x, rfl⟩, hd, hb⟩)
  go_end0
  rw [cvs_set] at hd
  exact ⟨⟨_, rfl⟩, hd, ((hb0 _).mono hbw).trans hb⟩

set_option maxRecDepth 100000 in
set_option maxHeartbeats 2000000 in
theorem do_i_no (base X g n : Nat) (v : Value) (ss : List ByteArray) (ws : List (Int × ByteArray)) (at_ : Int) (d : ByteArray) (w : World) (h : DV w base X g n v (ss.map nums) (hsOf ws)) (hn : ss.length = n) (hok : diskOk ss ws = true) (hd : d.size ≤ 1048576) (hno : wOk ss.length (at_, d) = false ∨ ¬ ws.length < 300) (hbw : base ≤ w.heap.size) :
    Calls Try.prog 103 #[.pointer (some ⟨X, 0, none⟩), .agg #[.bool false, .int .i64 at_, .string d]] w fun e w' => (∃ x, e = .returned x) ∧ DV w' base X g n v (ss.map nums) (hsOf ws) ∧ Below base w w' := by
  obtain ⟨⟨hn1, hn2, hn3⟩, h64, hw⟩ := diskOk_of hok
  have hb0 : ∀ o, Below w.heap.size w (w.alloc o) := fun o => (Below.refl _ _).alloc (Nat.le_refl _) _
  obtain ⟨av, cv, rfl⟩ : ∃ a c, v = .slice a ws.length c := by
    rw [← hsOf_length]
    rcases owns_forms h.own with ⟨e, h0⟩ | ⟨g, c, e, _⟩
    · exact ⟨_, _, by rw [e, h0]⟩
    · exact ⟨_, _, e⟩
  have x0 := h.rx.cell 0 _ rfl
  have x1 := h.rx.cell 1 _ rfl
  have hlX := h.rx.lt
  have HD := hid h
  subst hn
  have hcan : ∀ b, wOk ss.length (at_, d) = b → ∀ w', Calls Try.prog 131 #[.int .i64 (ss.length : Int), .int .i64 at_, .string d] w' fun e w'' => e = .returned (.bool b) ∧ w'' = w' := fun b hb w' => by
    have := can_i ss.length at_ d w' hd (by omega)
    rw [hb] at this
    exact this
  cases hc : wOk ss.length (at_, d) with
  | false =>
    go_enter Try.func103, Try.ntmps103
    go_wp2_with fail
    go_quiet ((go_at_call 131; exact Calls.quiet_of_same (hcan false hc _)))
    go_wp2
    go_end0
    exact ⟨⟨_, rfl⟩, HD.out.below (below_drewN (hb0 _) _), (below_drewN (hb0 _) _).mono hbw⟩
  | true =>
    have hlt : (decide ((ws.length : Int) < 300)) = false := by
      rcases hno with h1 | h1
      · rw [hc] at h1; cases h1
      · exact decide_eq_false (by omega)
    go_enter Try.func103, Try.ntmps103
    go_wp2_with fail
    go_quiet ((go_at_call 131; exact Calls.quiet_of_same (hcan true hc _)))
    go_wp2
    go_end0
    exact ⟨⟨_, rfl⟩, HD.out.below (below_drewN (hb0 _) _), (below_drewN (hb0 _) _).mono hbw⟩
end Go.Proofs.Ytnmaknnnmjfhkad
