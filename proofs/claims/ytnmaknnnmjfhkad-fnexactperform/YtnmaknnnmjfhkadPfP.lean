import Derived.Test.YtnmaknnnmjfhkadSyn
import Derived.Test.YtnmaknnnmjfhkadLay
import Derived.Test.YtnmaknnnmjfhkadDrvOf
import Derived.Test.YtnmaknnnmjfhkadOpA
namespace Go.Proofs.Ytnmaknnnmjfhkad
open Go.RowKit
set_option linter.unusedVariables false

/-- One op at a disk. -/
def opD (d : List ByteArray × List (Int × ByteArray)) (o : Bool × Int × ByteArray) : List ByteArray × List (Int × ByteArray) :=
  if o.1 = true then (syncs d.2 d.1, []) else if wOk d.1.length o.2 = true ∧ d.2.length < 300 then (d.1, d.2 ++ [o.2]) else d
def opsD : List (Bool × Int × ByteArray) → List ByteArray × List (Int × ByteArray) → List ByteArray × List (Int × ByteArray)
  | [], d => d
  | o :: r, d => opsD r (opD d o)
theorem opD_sync (d : List ByteArray × List (Int × ByteArray)) (x : Int × ByteArray) : opD d (true, x) = (syncs d.2 d.1, []) := by simp [opD]
theorem opD_yes (d : List ByteArray × List (Int × ByteArray)) (x : Int × ByteArray) (h : wOk d.1.length x = true) (h2 : d.2.length < 300) : opD d (false, x) = (d.1, d.2 ++ [x]) := by simp [opD, h, h2]
theorem opD_no (d : List ByteArray × List (Int × ByteArray)) (x : Int × ByteArray) (h : wOk d.1.length x = false ∨ ¬ d.2.length < 300) : opD d (false, x) = d := by
  unfold opD
  rw [if_neg (by simp), if_neg]
  rintro ⟨h1, h2⟩
  rcases h with h | h
  · rw [h] at h1; cases h1
  · exact h h2
theorem opD_len (d : List ByteArray × List (Int × ByteArray)) (o : Bool × Int × ByteArray) : (opD d o).1.length = d.1.length := by
  unfold opD
  split
  · exact syncs_length _ _
  · split <;> rfl
theorem syncs_64 : ∀ (ws : List (Int × ByteArray)) (ss : List ByteArray), (∀ s ∈ ss, (s.size : Int) = 64) → (∀ x ∈ ws, (x.2.size : Int) = 64) → ∀ s ∈ syncs ws ss, (s.size : Int) = 64
  | [], ss, h, _ => h
  | x :: r, ss, h, hw => syncs_64 r _ (fun s hs => by
      rcases List.mem_or_eq_of_mem_set hs with h3 | h3
      · exact h s h3
      · rw [h3]; exact hw x (List.mem_cons_self ..)) (fun y hy => hw y (List.mem_cons_of_mem _ hy))
theorem wOk_64 {n : Nat} {x : Int × ByteArray} (h : wOk n x = true) : (0 ≤ x.1 ∧ x.1 < (n : Int)) ∧ (x.2.size : Int) = 64 := by
  have := of_decide_eq_true h
  omega
theorem diskOk_mk {ss : List ByteArray} {ws : List (Int × ByteArray)} (h1 : 8 ≤ ss.length ∧ ss.length ≤ 200 ∧ ws.length ≤ 300) (h2 : ∀ s ∈ ss, (s.size : Int) = 64) (h3 : ∀ x ∈ ws, wOk ss.length x = true) : diskOk ss ws = true := by
  unfold diskOk
  rw [Bool.and_eq_true, Bool.and_eq_true]
  exact ⟨⟨decide_eq_true h1, List.all_eq_true.2 fun s hs => decide_eq_true (h2 s hs)⟩, List.all_eq_true.2 h3⟩
theorem opD_ok (d : List ByteArray × List (Int × ByteArray)) (o : Bool × Int × ByteArray) (h : diskOk d.1 d.2 = true) : diskOk (opD d o).1 (opD d o).2 = true := by
  obtain ⟨h1, h2, h3⟩ := diskOk_of h
  unfold opD
  split
  · refine diskOk_mk ?_ (syncs_64 _ _ h2 fun x hx => (wOk_64 (h3 x hx)).2) (fun x hx => by simp at hx)
    show 8 ≤ (syncs d.2 d.1).length ∧ (syncs d.2 d.1).length ≤ 200 ∧ 0 ≤ 300
    rw [syncs_length]; omega
  · split
    · rename_i hc
      refine diskOk_mk ?_ h2 (fun x hx => ?_)
      · show 8 ≤ d.1.length ∧ d.1.length ≤ 200 ∧ (d.2 ++ [o.2]).length ≤ 300
        rw [List.length_append]; have := hc.2; simp; omega
      · rcases List.mem_append.1 hx with hx | hx
        · exact h3 x hx
        · rw [List.mem_singleton.1 hx]; exact hc.1
    · exact h
theorem torn_all (x y : List Int) (hx : x.length = 64) (hy : y.length = 64) : torn 64 x y = x := by
  unfold torn
  rw [List.take_of_length_le (by omega), List.drop_of_length_le (by omega), List.append_nil]

/-- A drive in memory of its own: its variable, its plate, what is pending. -/
structure DV (w : World) (base X g n : Nat) (v : Value) (ps : List (List Int)) (hs : List (Int × List Int)) : Prop where
  rx : Row w X [.slice (some ⟨g, 0, none⟩) n n, v]
  pr : PR w g ps
  own : w.ownsRow base 142 65 v hs.length (hcells hs)
  nx : v.ownBlock ≠ some X
  ng : v.ownBlock ≠ some g
  xg : X ≠ g
  bx : base ≤ X
  bg : base ≤ g
theorem DV.below {w w' : World} {base X g n : Nat} {v : Value} {ps : List (List Int)} {hs : List (Int × List Int)} (h : DV w base X g n v ps hs) (hb : Below w.heap.size w w') : DV w' base X g n v ps hs :=
  ⟨h.rx.below hb, h.pr.below hb, owns_below h.own hb, h.nx, h.ng, h.xg, h.bx, h.bg⟩
end Go.Proofs.Ytnmaknnnmjfhkad
