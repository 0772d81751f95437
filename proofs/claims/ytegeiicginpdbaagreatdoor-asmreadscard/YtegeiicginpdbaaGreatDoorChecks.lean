/-
  What op.Check and the document's Check return where all steps are right, and where the i-th is the first that is wrong; the world below is as it was. Conditions: the list's cells hold steps.
-/
import Derived.Test.YtegeiicginpdbaaGreatDoorCheck
namespace Go.Proofs.YtegeiicginpdbaaGreatDoor
open Go.ChangeShapes Go.WideShapes Go.ChangeAt Go.RowKit

theorem first_fault (f : Nat → Int) : ∀ len : Nat, (∀ j, j < len → f j = 0) ∨ ∃ i, i < len ∧ (∀ j, j < i → f j = 0) ∧ f i ≠ 0
  | 0 => Or.inl fun j hj => absurd hj (Nat.not_lt_zero _)
  | n + 1 => by
    rcases first_fault f n with h | ⟨i, hi, hno, hf⟩
    · by_cases hn : f n = 0
      · exact Or.inl (up_to_next h hn)
      · exact Or.inr ⟨n, Nat.lt_succ_self n, h, hn⟩
    · exact Or.inr ⟨i, Nat.lt_succ_of_lt hi, hno, hf⟩
theorem same_first {f : Nat → Int} {i k : Nat} (hi : ∀ j, j < i → f j = 0) (hf : f i ≠ 0) (hk : ∀ j, j < k → f j = 0) (hg : f k ≠ 0) : k = i := by
  rcases Nat.lt_trichotomy k i with h | h | h
  · exact absurd (hi k h) hg
  · exact h
  · exact absurd (hk i h) hf

section
variable {bk off len cap : Nat} {C D S O N : Nat → Int} {R : Nat → Bool} {w : World} (h1 : 1 ≤ len) (h2 : len ≤ 200) (hbk : bk < w.heap.size) (hst : StepsAt w bk off len C D S R O N)
theorem opCheck_fine (h : ∀ j, j < len → faultAt len C D S R O N j = 0) (hst : StepsAt w bk off len C D S R O N) (h1 : 1 ≤ len) (h2 : len ≤ 200) (hbk : bk < w.heap.size) :
    Calls Tryz.prog 18 #[.slice (some ⟨bk, off, none⟩) len cap] w fun e w' => e = .returned .nilIface ∧ Below w.heap.size w w' := by
  refine (opCheck_steps bk off len cap C D S O N R w h1 h2 hbk hst).mono fun e w' hh => ?_
  obtain ⟨hb, hh⟩ := hh
  rcases hh with ⟨he, _⟩ | ⟨i, p, hi, _, hf, _⟩
  · exact ⟨he, hb⟩
  · exact absurd (h i hi) hf
theorem opCheck_bad {i : Nat} (hi : i < len) (hno : ∀ j, j < i → faultAt len C D S R O N j = 0) (hf : faultAt len C D S R O N i ≠ 0) (hst : StepsAt w bk off len C D S R O N) (h1 : 1 ≤ len) (h2 : len ≤ 200) (hbk : bk < w.heap.size) :
    Calls Tryz.prog 18 #[.slice (some ⟨bk, off, none⟩) len cap] w fun e w' => ∃ p, e = .returned (.iface 74 (.pointer (some ⟨p, 0, none⟩))) ∧ Below w.heap.size w w' ∧ p < w'.heap.size ∧ w'.cell? ⟨p, 0, none⟩ = some (.int .i64 (faultAt len C D S R O N i)) ∧ w'.cell? ⟨p, 1, none⟩ = some (.int .i64 i) := by
  refine (opCheck_steps bk off len cap C D S O N R w h1 h2 hbk hst).mono fun e w' hh => ?_
  obtain ⟨hb, hh⟩ := hh
  rcases hh with ⟨_, h⟩ | ⟨k, p, hk, hno', hf', he, hp, hc0, hc1⟩
  · exact absurd (h i hi) hf
  · obtain rfl := same_first hno hf hno' hf'
    refine ⟨p, he, hb, ?_, hc0, hc1⟩
    rcases Nat.lt_or_ge p w'.heap.size with g | g
    · exact g
    · simp [World.cell?, Array.getElem?_eq_none g] at hc0
theorem refCheck_fine (h : ∀ j, j < len → faultAt len C D S R O N j = 0) (hst : StepsAt w bk off len C D S R O N) (h1 : 1 ≤ len) (h2 : len ≤ 200) (hbk : bk < w.heap.size) :
    Calls Tryz.prog 25 #[.slice (some ⟨bk, off, none⟩) len cap] w fun e w' => e = .returned (.agg #[.int .i64 0, .int .i64 (-1)]) ∧ Below w.heap.size w w' := by
  refine (refCheck_steps bk off len cap C D S O N R w h1 h2 hbk hst).mono fun e w' hh => ?_
  obtain ⟨hb, hh⟩ := hh
  rcases hh with ⟨he, _⟩ | ⟨i, hi, _, hf, _⟩
  · exact ⟨he, hb⟩
  · exact absurd (h i hi) hf
theorem refCheck_bad {i : Nat} (hi : i < len) (hno : ∀ j, j < i → faultAt len C D S R O N j = 0) (hf : faultAt len C D S R O N i ≠ 0) (hst : StepsAt w bk off len C D S R O N) (h1 : 1 ≤ len) (h2 : len ≤ 200) (hbk : bk < w.heap.size) :
    Calls Tryz.prog 25 #[.slice (some ⟨bk, off, none⟩) len cap] w fun e w' => e = .returned (.agg #[.int .i64 (faultAt len C D S R O N i), .int .i64 i]) ∧ Below w.heap.size w w' := by
  refine (refCheck_steps bk off len cap C D S O N R w h1 h2 hbk hst).mono fun e w' hh => ?_
  obtain ⟨hb, hh⟩ := hh
  rcases hh with ⟨_, h⟩ | ⟨k, hk, hno', hf', he⟩
  · exact absurd (h i hi) hf
  · obtain rfl := same_first hno hf hno' hf'
    exact ⟨he, hb⟩
end
end Go.Proofs.YtegeiicginpdbaaGreatDoor
