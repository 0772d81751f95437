/-
  Plain facts on what is left of two bounds: numbers of which what is asked is so are in it, and it is no more than there was; no program is named here. Conditions: the numbers are of 64 bits, and between the ends.
-/
import Derived.Test.YtknnonolmkleeaaBoundNar3
namespace Go.Proofs.Ytknnonolmkleeaa
open Go.RowKit

theorem opp_facts {c x y : Int} (h : 15 ≤ c ∧ c ≤ 24) : (isV c x y == isV (oppV c) x y) = false ∧ oppV (oppV c) = c ∧ 15 ≤ oppV c ∧ oppV c ≤ 24 := by
  have e : c = 15 ∨ c = 16 ∨ c = 17 ∨ c = 18 ∨ c = 19 ∨ c = 20 ∨ c = 21 ∨ c = 22 ∨ c = 23 ∨ c = 24 := by omega
  rcases e with rfl | rfl | rfl | rfl | rfl | rfl | rfl | rfl | rfl | rfl
  · refine ⟨?_, by decide, by decide, by decide⟩
    show (isV 15 x y == isV 16 x y) = false
    rw [isV_15, isV_16]; cases decide (x = y) <;> rfl
  · refine ⟨?_, by decide, by decide, by decide⟩
    show (isV 16 x y == isV 15 x y) = false
    rw [isV_15, isV_16]; cases decide (x = y) <;> rfl
  · refine ⟨?_, by decide, by decide, by decide⟩
    show (isV 17 x y == isV 20 x y) = false
    rw [isV_17, isV_20, beq_eq_false_iff_ne, ne_eq, decide_eq_decide]; omega
  · refine ⟨?_, by decide, by decide, by decide⟩
    show (isV 18 x y == isV 19 x y) = false
    rw [isV_18, isV_19, beq_eq_false_iff_ne, ne_eq, decide_eq_decide]; omega
  · refine ⟨?_, by decide, by decide, by decide⟩
    show (isV 19 x y == isV 18 x y) = false
    rw [isV_18, isV_19, beq_eq_false_iff_ne, ne_eq, decide_eq_decide]; omega
  · refine ⟨?_, by decide, by decide, by decide⟩
    show (isV 20 x y == isV 17 x y) = false
    rw [isV_17, isV_20, beq_eq_false_iff_ne, ne_eq, decide_eq_decide]; omega
  · refine ⟨?_, by decide, by decide, by decide⟩
    show (isV 21 x y == isV 24 x y) = false
    rw [isV_21, isV_24, beq_eq_false_iff_ne, ne_eq, decide_eq_decide]; omega
  · refine ⟨?_, by decide, by decide, by decide⟩
    show (isV 22 x y == isV 23 x y) = false
    rw [isV_22, isV_23, beq_eq_false_iff_ne, ne_eq, decide_eq_decide]; omega
  · refine ⟨?_, by decide, by decide, by decide⟩
    show (isV 23 x y == isV 22 x y) = false
    rw [isV_22, isV_23, beq_eq_false_iff_ne, ne_eq, decide_eq_decide]; omega
  · refine ⟨?_, by decide, by decide, by decide⟩
    show (isV 24 x y == isV 21 x y) = false
    rw [isV_21, isV_24, beq_eq_false_iff_ne, ne_eq, decide_eq_decide]; omega

/-- What is left of two bounds has these numbers, and is no more than there was. -/
def Left (r : (Int × Int) × (Int × Int) × Bool) (al ah bl bh x y : Int) (is : Prop) : Prop :=
  (is → r.2.2 = true ∧ (r.1.1 ≤ x ∧ x ≤ r.1.2) ∧ r.2.1.1 ≤ y ∧ y ≤ r.2.1.2) ∧ (r.2.2 = true → r.1.1 ≤ r.1.2 ∧ r.2.1.1 ≤ r.2.1.2 ∧ al ≤ r.1.1 ∧ r.1.2 ≤ ah ∧ bl ≤ r.2.1.1 ∧ r.2.1.2 ≤ bh)
theorem Left.swap {r : (Int × Int) × (Int × Int) × Bool} {al ah bl bh x y : Int} {p q : Prop} (h : Left r al ah bl bh x y p) (e : q → p) : Left (swapV r) bl bh al ah y x q :=
  ⟨fun z => by obtain ⟨a, b, c⟩ := h.1 (e z); exact ⟨a, c, b⟩, fun z => by obtain ⟨a, b, c, d, e, f⟩ := h.2 z; exact ⟨b, a, e, f, c, d⟩⟩
theorem bel_left {g al ah bl bh x y : Int} (h1 : al ≤ x) (h2 : x ≤ ah) (h3 : bl ≤ y) (h4 : y ≤ bh) : Left (belV g al ah bl bh) al ah bl bh x y (x + g ≤ y) := by
  unfold belV Left
  split
  · exact ⟨fun h => ⟨rfl, by show al ≤ x ∧ x ≤ min ah (bh - g); omega, by show max bl (al + g) ≤ y ∧ y ≤ bh; omega⟩, fun _ => by show al ≤ min ah (bh - g) ∧ max bl (al + g) ≤ bh ∧ al ≤ al ∧ min ah (bh - g) ≤ ah ∧ bl ≤ max bl (al + g) ∧ bh ≤ bh; omega⟩
  · exact ⟨fun h => by omega, fun h => by cases h⟩
theorem uns_left {g al ah bl bh x y : Int} (h1 : al ≤ x) (h2 : x ≤ ah) (h3 : bl ≤ y) (h4 : y ≤ bh) (h5 : 0 ≤ g) (px : -9223372036854775808 ≤ x) (qx : x ≤ 9223372036854775807) (qy : y ≤ 9223372036854775807) :
    Left (unsV g al ah bl bh) al ah bl bh x y ((uns x : Int) + g ≤ uns y) := by
  have ex := uns_eq x
  have ey := uns_eq y
  unfold unsV
  split
  · exact ⟨fun h => ⟨rfl, ⟨h1, h2⟩, h3, h4⟩, fun _ => by show al ≤ ah ∧ bl ≤ bh ∧ al ≤ al ∧ ah ≤ ah ∧ bl ≤ bl ∧ bh ≤ bh; omega⟩
  · by_cases hx : 0 ≤ x
    · have b := bel_left (g := g) (al := max al 0) (ah := ah) (by omega : max al 0 ≤ x) h2 h3 h4
      refine ⟨fun h => b.1 (by omega), fun h => ?_⟩
      have c := b.2 h
      omega
    · refine ⟨fun h => by omega, fun h => ?_⟩
      unfold belV at h ⊢
      split at h
      · rename_i hc
        rw [if_pos hc]
        show max al 0 ≤ min ah (bh - g) ∧ max bl (max al 0 + g) ≤ bh ∧ al ≤ max al 0 ∧ min ah (bh - g) ≤ ah ∧ bl ≤ max bl (max al 0 + g) ∧ bh ≤ bh
        omega
      · cases h
theorem nar_left {c al ah bl bh x y : Int} (hc : 15 ≤ c ∧ c ≤ 24) (pal : -9223372036854775808 ≤ al) (qah : ah ≤ 9223372036854775807) (pbl : -9223372036854775808 ≤ bl) (qbh : bh ≤ 9223372036854775807)
    (h1 : al ≤ x) (h2 : x ≤ ah) (h3 : bl ≤ y) (h4 : y ≤ bh) : Left (narV c al ah bl bh) al ah bl bh x y (isV c x y = true) := by
  have e : c = 15 ∨ c = 16 ∨ c = 17 ∨ c = 18 ∨ c = 19 ∨ c = 20 ∨ c = 21 ∨ c = 22 ∨ c = 23 ∨ c = 24 := by omega
  rcases e with rfl | rfl | rfl | rfl | rfl | rfl | rfl | rfl | rfl | rfl
  · rw [narV_15, isV_15, decide_eq_true_eq]
    unfold meetV Left
    split
    · exact ⟨fun h => ⟨rfl, by show max al bl ≤ x ∧ x ≤ min ah bh; omega, by show max al bl ≤ y ∧ y ≤ min ah bh; omega⟩, fun _ => by show max al bl ≤ min ah bh ∧ max al bl ≤ min ah bh ∧ al ≤ max al bl ∧ min ah bh ≤ ah ∧ bl ≤ max al bl ∧ min ah bh ≤ bh; omega⟩
    · exact ⟨fun h => by omega, fun h => by cases h⟩
  · rw [narV_16, isV_16, Bool.not_eq_true', decide_eq_false_iff_not]
    unfold apV
    split
    · exact ⟨fun h => by omega, fun h => by cases h⟩
    · have cut : ∀ {al ah ol oh x y : Int}, al ≤ x → x ≤ ah → ol ≤ y → y ≤ oh → (¬ x = y → (cutV al ah ol oh).1 ≤ x ∧ x ≤ (cutV al ah ol oh).2) ∧ (cutV al ah ol oh).1 ≤ (cutV al ah ol oh).2 ∧ al ≤ (cutV al ah ol oh).1 ∧ (cutV al ah ol oh).2 ≤ ah := by
        intro al ah ol oh x y a1 a2 a3 a4
        unfold cutV
        split
        · exact ⟨fun _ => ⟨a1, a2⟩, by show al ≤ ah ∧ al ≤ al ∧ ah ≤ ah; omega⟩
        · split
          · exact ⟨fun _ => by show al + 1 ≤ x ∧ x ≤ ah; omega, by show al + 1 ≤ ah ∧ al ≤ al + 1 ∧ ah ≤ ah; omega⟩
          · split
            · exact ⟨fun _ => by show al ≤ x ∧ x ≤ ah - 1; omega, by show al ≤ ah - 1 ∧ al ≤ al ∧ ah - 1 ≤ ah; omega⟩
            · exact ⟨fun _ => ⟨a1, a2⟩, by show al ≤ ah ∧ al ≤ al ∧ ah ≤ ah; omega⟩
      have k1 := cut h1 h2 h3 h4
      have k2 := cut h3 h4 h1 h2
      exact ⟨fun h => ⟨rfl, k1.1 h, k2.1 (fun z => h z.symm)⟩, fun _ => ⟨k1.2.1, k2.2.1, k1.2.2.1, k1.2.2.2, k2.2.2.1, k2.2.2.2⟩⟩
  · rw [narV_17, isV_17, decide_eq_true_eq]
    exact (uns_left (g := 1) h3 h4 h1 h2 (by omega) (by omega) (by omega) (by omega)).swap (fun h => by omega)
  · rw [narV_18, isV_18, decide_eq_true_eq]
    exact (uns_left (g := 0) h3 h4 h1 h2 (by omega) (by omega) (by omega) (by omega)).swap (fun h => by omega)
  · rw [narV_19, isV_19, decide_eq_true_eq]
    have k := uns_left (g := 1) h1 h2 h3 h4 (by omega) (by omega) (by omega) (by omega)
    exact ⟨fun h => k.1 (by omega), k.2⟩
  · rw [narV_20, isV_20, decide_eq_true_eq]
    have k := uns_left (g := 0) h1 h2 h3 h4 (by omega) (by omega) (by omega) (by omega)
    exact ⟨fun h => k.1 (by omega), k.2⟩
  · rw [narV_21, isV_21, decide_eq_true_eq]
    exact (bel_left (g := 1) h3 h4 h1 h2).swap (fun h => by omega)
  · rw [narV_22, isV_22, decide_eq_true_eq]
    exact (bel_left (g := 0) h3 h4 h1 h2).swap (fun h => by omega)
  · rw [narV_23, isV_23, decide_eq_true_eq]
    have k := bel_left (g := 1) h1 h2 h3 h4
    exact ⟨fun h => k.1 (by omega), k.2⟩
  · rw [narV_24, isV_24, decide_eq_true_eq]
    have k := bel_left (g := 0) h1 h2 h3 h4
    exact ⟨fun h => k.1 (by omega), k.2⟩
end Go.Proofs.Ytknnonolmkleeaa
