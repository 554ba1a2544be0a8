import Derived.Test.YtnmaknnnmjfhkadPfK
namespace Go.Proofs.Ytnmaknnnmjfhkad
open Go.RowKit
set_option linter.unusedVariables false
set_option linter.unusedSimpArgs false

theorem Ops.take {w : World} {a : Option Addr} {rs : List (Bool × Int × ByteArray)} (h : Ops w a rs) (m : Nat) : Ops w a (rs.take m) := by
  rcases h with h | ⟨b, o, h1, h2, h3⟩
  · exact .inl (by rw [h]; simp)
  · refine .inr ⟨b, o, h1, h2, fun i hi => ?_⟩
    have hi' : i < rs.length ∧ i < m := by simp at hi; omega
    have e : (rs.take m).getD i (false, 0, ByteArray.empty) = rs.getD i (false, 0, ByteArray.empty) := by simp [List.getD, List.getElem?_take, hi'.2]
    rw [e]
    exact h3 i hi'.1
theorem Row.lowB {w w' : World} {R base : Nat} {cs : List Value} (h : Row w R cs) (hb : Below base w w') (hR : R < base) : Row w' R cs :=
  ⟨Nat.lt_of_lt_of_le h.lt hb.size, fun i v hv => (hb.cell (p := ⟨R, i, none⟩) hR).trans (h.cell i v hv), fun i hi => (hb.frozen (p := ⟨R, i, none⟩) hR).trans (h.froz i hi)⟩
theorem OwnS.setp {w : World} {a : Option Addr} {cs : List Value} (h : OwnS w a cs) (p : Addr) (hp : ∀ g, a = some ⟨g, 0, none⟩ → cs ≠ [] → p.block ≠ g) (v : Value) : OwnS (w.setCell p v) a cs := by
  rcases h with h | ⟨g, h1, h2⟩
  · exact .inl h
  · by_cases hc : cs = []
    · exact .inl hc
    · exact .inr ⟨g, h1, h2.other p (hp g h1 hc) v⟩
theorem secs_nums (ss : List ByteArray) : secs (ss.map nums) = ss := by
  unfold secs
  rw [List.map_map]
  exact List.map_id'' (fun s => strOfNums_nums s) ss
theorem held_hsOf (ws : List (Int × ByteArray)) : held (hsOf ws) = ws := by
  unfold held hsOf
  rw [List.map_map]
  exact List.map_id'' (fun x => by show (x.1, strOfNums (nums x.2)) = x; rw [strOfNums_nums]) ws
theorem DV.form {w : World} {base X g n : Nat} {v : Value} {ps : List (List Int)} {hs : List (Int × List Int)} (h : DV w base X g n v ps hs) (h64 : ∀ p ∈ hs, p.2.length = 64) : ∃ a c, v = .slice a hs.length c ∧ Hld w a hs := by
  rcases owns_forms h.own with ⟨e, h0⟩ | ⟨g, c, e, _, _, hr⟩
  · exact ⟨_, _, by rw [e, h0], .inl (List.eq_nil_of_length_eq_zero h0)⟩
  · exact ⟨_, _, e, hr.hld h64⟩
theorem opsD_len : ∀ (l : List (Bool × Int × ByteArray)) (d : List ByteArray × List (Int × ByteArray)), (opsD l d).1.length = d.1.length
  | [], _ => rfl
  | o :: r, d => by rw [opsD, opsD_len r, opD_len]
theorem opsD_ok : ∀ (l : List (Bool × Int × ByteArray)) (d : List ByteArray × List (Int × ByteArray)), diskOk d.1 d.2 = true → diskOk (opsD l d).1 (opsD l d).2 = true
  | [], _, h => h
  | o :: r, d, h => opsD_ok r _ (opD_ok d o h)

theorem do_i (base X g n : Nat) (v : Value) (ss : List ByteArray) (ws : List (Int × ByteArray)) (s : Bool) (at_ : Int) (d : ByteArray) (w : World) (h : DV w base X g n v (ss.map nums) (hsOf ws)) (hn : ss.length = n) (hok : diskOk ss ws = true) (hd : d.size ≤ 1048576) (hbw : base ≤ w.heap.size) :
    Calls Try.prog 103 #[.pointer (some ⟨X, 0, none⟩), .agg #[.bool s, .int .i64 at_, .string d]] w fun e w' => (∃ x, e = .returned x) ∧ (∃ v', DV w' base X g n v' ((opD (ss, ws) (s, at_, d)).1.map nums) (hsOf (opD (ss, ws) (s, at_, d)).2)) ∧ Below base w w' := by
  cases s with
  | true =>
    rw [opD_sync]
    refine (do_i_sync base X g n v ss ws at_ d w h hn hok hbw).mono ?_
    rintro e w' ⟨h1, h2, h3⟩
    exact ⟨h1, ⟨_, h2⟩, h3⟩
  | false =>
    cases hc : wOk ss.length (at_, d) with
    | false =>
      rw [opD_no (ss, ws) (at_, d) (.inl hc)]
      refine (do_i_no base X g n v ss ws at_ d w h hn hok hd (.inl hc) hbw).mono ?_
      rintro e w' ⟨h1, h2, h3⟩
      exact ⟨h1, ⟨_, h2⟩, h3⟩
    | true =>
      by_cases hl : ws.length < 300
      · rw [opD_yes (ss, ws) (at_, d) hc hl]
        exact do_i_yes base X g n v ss ws at_ d w h hn hok hc hl hbw
      · rw [opD_no (ss, ws) (at_, d) (.inr hl)]
        refine (do_i_no base X g n v ss ws at_ d w h hn hok hd (.inr hl) hbw).mono ?_
        rintro e w' ⟨h1, h2, h3⟩
        exact ⟨h1, ⟨_, h2⟩, h3⟩
end Go.Proofs.Ytnmaknnnmjfhkad
