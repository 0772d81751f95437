/-
  The steps that a written program's text tells: those that were written.
-/
import Derived.Test.YtegeiicginpdbaaGreatDoorBack
namespace Go.Proofs.YtegeiicginpdbaaGreatDoor
open Go.ChangeShapes Go.WideShapes Go.ChangeAt Go.RowKit
variable {len : Nat} {C D S O N : Nat → Int} {R : Nat → Bool}
theorem map_two {α β : Type} {f : α → Option β} {a : α} {g : Nat → α} {k : Nat → β} {m : Nat} (ha : f a = some (k 0)) (hg : ∀ i, i < m → f (g i) = some (k (i + 1))) : (a :: (List.range m).map g).map f = (List.range (m + 1)).map fun i => some (k i) := by
  rw [List.range_succ_eq_map, List.map_cons, List.map_cons, List.map_map, List.map_map, ha]
  exact congrArg (List.cons (some (k 0))) (List.map_congr_left fun i hi => hg i (List.mem_range.1 hi))
theorem text_tells (h1 : 1 ≤ len) (hno : ∀ j, j < len → faultAt len C D S R O N j = 0) (hfit : ∀ i, i < len → Fits (O i) ∧ Fits (N i)) :
    (piecesOf (textB C D S R O N len)).map tells = (List.range len).map fun i => some (stAt C D S R O N i) := by
  rw [pieces_text h1 hno]
  have e : len = (len - 1) + 1 := by omega
  have T := map_two (f := tells) (k := stAt C D S R O N) (m := len - 1) (tells_first (by omega) hno hfit) (fun i hi => tells_next (by omega) hno hfit)
  rw [← e] at T
  exact T
end Go.Proofs.YtegeiicginpdbaaGreatDoor
