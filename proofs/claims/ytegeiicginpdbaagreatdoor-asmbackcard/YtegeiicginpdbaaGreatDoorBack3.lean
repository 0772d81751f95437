/-
  What asm.Read returns to the text of a program that nothing is wrong with: that program.
-/
import Derived.Test.YtegeiicginpdbaaGreatDoorBack2
namespace Go.Proofs.YtegeiicginpdbaaGreatDoor
open Go.ChangeShapes Go.WideShapes Go.ChangeAt Go.RowKit
section
variable {len : Nat} {C D S O N : Nat → Int} {R : Nat → Bool} {ps : List ByteArray}
theorem told_count (h : ps.map tells = (List.range len).map fun i => some (stAt C D S R O N i)) : ps.length = len := by
  have := congrArg List.length h
  simpa using this
theorem told_all (h : ps.map tells = (List.range len).map fun i => some (stAt C D S R O N i)) : ∀ y ∈ ps, (tells y).isSome = true := by
  intro y hy
  have h1 : tells y ∈ ps.map tells := List.mem_map.2 ⟨y, hy, rfl⟩
  rw [h] at h1
  obtain ⟨i, _, e⟩ := List.mem_map.1 h1
  rw [← e]; rfl
theorem told_steps (h : ps.map tells = (List.range len).map fun i => some (stAt C D S R O N i)) : toldBy ps = (List.range len).map (stAt C D S R O N) := by
  have h1 := congrArg (List.map fun o : Option St => o.getD St.zero) h
  rw [List.map_map, List.map_map] at h1
  exact h1
theorem told_nth (h : ps.map tells = (List.range len).map fun i => some (stAt C D S R O N i)) {j : Nat} (hj : j < len) : nth (toldBy ps) j = stAt C D S R O N j := by
  unfold nth
  rw [told_steps h, List.getElem?_map, List.getElem?_range hj]
  rfl
theorem told_fault (h : ps.map tells = (List.range len).map fun i => some (stAt C D S R O N i)) {j : Nat} (hj : j < len) : faultOf (toldBy ps) j = faultAt len C D S R O N j := by
  unfold faultOf faultAt
  rw [told_length, told_count h]
  dsimp only
  rw [told_nth h hj]
  rfl
end
theorem read_written {len : Nat} {C D S O N : Nat → Int} {R : Nat → Bool} {w W : World} {e : Ending} {t : ByteArray} (hp : (piecesOf t).map tells = (List.range len).map fun i => some (stAt C D S R O N i)) (h2 : len ≤ 200) (hno : ∀ j, j < len → faultAt len C D S R O N j = 0) (h : ReadEnds w t e W) :
    ∃ g cap, e = .returned (.tuple #[.slice (some ⟨g, 0, none⟩) len cap, .nilIface]) ∧ Below w.heap.size w W ∧ g < W.heap.size ∧ StepsAt W g 0 len C D S R O N := by
  obtain ⟨hb, h⟩ := h
  have hall := told_all hp
  have hlen := told_count hp
  rcases h with ⟨pre, x, post, p, hps, _, hx, _⟩ | ⟨_, h⟩
  · have h1 := hall x (by rw [hps]; simp)
    rw [hx] at h1; cases h1
  · rcases h with ⟨h200, _⟩ | ⟨_, h⟩
    · omega
    · rcases h with ⟨i, p, hi, _, hf, _⟩ | ⟨_, g, cap, rfl, hrow⟩
      · rw [told_fault hp (by omega)] at hf
        exact absurd (hno i (by omega)) hf
      · rw [hlen] at hrow ⊢
        refine ⟨g, cap, rfl, hb, row_lt hrow, fun i hi => ?_⟩
        have hst := row_steps hrow (by rw [told_length, hlen]) i hi
        dsimp only at hst
        rw [told_nth hp hi] at hst
        exact hst
end Go.Proofs.YtegeiicginpdbaaGreatDoor
