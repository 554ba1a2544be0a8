import Derived.Test.YtnmaknnnmjfhkaeDoorRc
import Derived.Test.YtnmaknnnmjfhkaeDoorSyn
namespace Go.Proofs.YtnmaknnnmjfhkaeDoor
open Go.RowKit
set_option linter.unusedVariables false

theorem covs_all : ∀ (hs : List (Int × List Int)) (ps : List (List Int)), (∀ p ∈ hs, p.2.length = 64) → (∀ p ∈ ps, p.length = 64) → ∀ p ∈ covs hs ps, p.length = 64
  | [], ps, _, h => h
  | x :: r, ps, h1, h2 => covs_all r _ (fun p hp => h1 p (List.mem_cons_of_mem _ hp)) (fun p hp => by
    rcases List.mem_or_eq_of_mem_set hp with h3 | h3
    · exact h2 p h3
    · rw [h3]; exact h1 x (List.mem_cons_self ..))
theorem secs_covs : ∀ (ws : List (Int × ByteArray)) (ss : List ByteArray), secs (covs (hsOf ws) (ss.map nums)) = syncs ws ss
  | [], ss => by
    show (ss.map nums).map strOfNums = ss
    rw [List.map_map]
    exact List.map_id'' (fun s => strOfNums_nums s) ss
  | x :: r, ss => by
    have := secs_covs r (ss.set x.1.toNat x.2)
    rw [List.map_set] at this
    exact this

end Go.Proofs.YtnmaknnnmjfhkaeDoor
