/-
  What a right step is, and where it leads, on plain numbers; no program is named here. No conditions.
-/
import Derived.Test.YtegeiicginpdbaaDoorChecks
import Derived.Test.YtegeiicginpdbaaDoorMachAbs
namespace Go.Proofs.YtegeiicginpdbaaDoor
open Go.RowKit
/-- A step with which nothing is wrong, number k of len. -/
structure Right (c d s : Int) (r : Bool) (o n : Int) (len k : Nat) : Prop where
  c1 : 1 ≤ c
  c2 : c ≤ 28
  d1 : 0 ≤ d
  d2 : d ≤ 10
  s1 : 0 ≤ s
  s2 : s ≤ 10
  call : c = 27 → n = 1 ∨ n = 2 ∨ n = 3
  exit : c = 28 → d = 0
  lead : (c = 14 ∨ (15 ≤ c ∧ c ≤ 24)) → 0 ≤ o ∧ o < (len : Int) - 1 - k
  last : c ≠ 28 → (k : Int) + 1 ≠ len
theorem right_of {len : Nat} {C D S : Nat → Int} {R : Nat → Bool} {O N : Nat → Int} {k : Nat} (h : faultAt len C D S R O N k = 0) : Right (C k) (D k) (S k) (R k) (O k) (N k) len k := by
  unfold faultAt wrongV at h
  have ha : aloneV (C k) (D k) (S k) (R k) (O k) (N k) = 0 := by
    by_cases e : aloneV (C k) (D k) (S k) (R k) (O k) (N k) = 0
    · exact e
    · rw [if_pos e] at h; exact h
  rw [if_neg (by simp [ha])] at h
  have hl : ¬ ((C k = 14 ∨ (15 ≤ C k ∧ C k ≤ 24)) ∧ (O k < 0 ∨ (len : Int) - 1 - k ≤ O k)) := by
    intro e; rw [if_pos e] at h; exact absurd h (by decide)
  rw [if_neg hl] at h
  have he : ¬ ((len : Int) - 1 - k = 0 ∧ C k ≠ 28) := by
    intro e; rw [if_pos e] at h; exact absurd h (by decide)
  unfold aloneV at ha
  have a1 : ¬ (C k < 1 ∨ 28 < C k) := by
    intro e; rw [if_pos e] at ha; exact absurd ha (by decide)
  rw [if_neg a1] at ha
  have a2 : ¬ (D k < 0 ∨ 10 < D k ∨ S k < 0 ∨ 10 < S k) := by
    intro e; rw [if_pos e] at ha; exact absurd ha (by decide)
  rw [if_neg a2] at ha
  have a3 : ¬ (((1 ≤ C k ∧ C k ≤ 13) ∨ C k = 25) ∧ D k = 10) := by
    intro e; rw [if_pos e] at ha; exact absurd ha (by decide)
  rw [if_neg a3] at ha
  have a4 : ¬ (moreV (C k) (D k) (S k) (R k) (O k) (N k) = true ∨ (C k = 27 ∧ N k ≠ 1 ∧ N k ≠ 2 ∧ N k ≠ 3)) := by
    intro e; rw [if_pos e] at ha; exact absurd ha (by decide)
  refine ⟨by omega, by omega, by omega, by omega, by omega, by omega, fun e => ?_, fun e => ?_, fun e => ?_, fun e => by omega⟩
  · by_cases n1 : N k = 1
    · exact Or.inl n1
    by_cases n2 : N k = 2
    · exact Or.inr (Or.inl n2)
    by_cases n3 : N k = 3
    · exact Or.inr (Or.inr n3)
    exact absurd (Or.inr ⟨e, n1, n2, n3⟩) a4
  · by_cases hd : D k = 0
    · exact hd
    · refine absurd (Or.inl ?_) a4
      unfold moreV
      rw [if_neg (by omega), if_neg (by omega), if_neg (by omega), if_neg (by omega), if_neg (by omega), if_neg (by omega), if_neg (by omega)]
      simp [hd]
  · by_cases e1 : O k < 0 ∨ (len : Int) - 1 - k ≤ O k
    · exact absurd ⟨e, e1⟩ hl
    · omega
theorem askF_off (c : Int) (a b : Val) (r : Bool) (o n : Int) : (askF c a b r o n).1 = o ∨ (askF c a b r o n).1 = 0 := by
  unfold askF
  split
  · exact Or.inr rfl
  split
  · split
    · exact Or.inl rfl
    · exact Or.inr rfl
  split
  · exact Or.inr rfl
  split
  · exact Or.inl rfl
  · exact Or.inr rfl
/-- Where a step that is no Exit leads, there is one. -/
theorem doF_off {c d s : Int} {r : Bool} {o n : Int} {len k : Nat} (h : Right c d s r o n len k) (hk : k < len) (hc : c ≠ 28) (a : Abs) : 0 ≤ (doF c d s r o n a).1 ∧ (k : Int) + 1 + (doF c d s r o n a).1 < len := by
  have hl := h.last hc
  unfold doF
  by_cases h1 : 15 ≤ c ∧ c ≤ 24
  · rw [if_pos h1]
    have := h.lead (Or.inr h1)
    rcases askF_off c (a.reg d.toNat) (a.second s.toNat r n) r o n with e | e
    · show 0 ≤ (askF _ _ _ _ _ _).1 ∧ (k : Int) + 1 + (askF _ _ _ _ _ _).1 < len
      rw [e]; omega
    · show 0 ≤ (askF _ _ _ _ _ _).1 ∧ (k : Int) + 1 + (askF _ _ _ _ _ _).1 < len
      rw [e]; omega
  rw [if_neg h1]
  by_cases h2 : c = 14
  · rw [if_pos h2]
    have := h.lead (Or.inl h2)
    show 0 ≤ o ∧ (k : Int) + 1 + o < len
    omega
  rw [if_neg h2]
  split
  · show (0 : Int) ≤ 0 ∧ (k : Int) + 1 + 0 < len
    omega
  split
  · show (0 : Int) ≤ 0 ∧ (k : Int) + 1 + 0 < len
    omega
  split
  · show (0 : Int) ≤ 0 ∧ (k : Int) + 1 + 0 < len
    omega
  · show (0 : Int) ≤ 0 ∧ (k : Int) + 1 + 0 < len
    omega
end Go.Proofs.YtegeiicginpdbaaDoor
