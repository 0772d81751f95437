/-
  What bound.Does returns, by one function on integers; the world below is as it was. Conditions: the ends are numbers of 64 bits, the low end not above the high one.
-/
import Derived.Test.YtllphbfhfmieaaaDoorBoundMul
namespace Go.Proofs.YtllphbfhfmieaaaDoor
open Go.ChangeShapes Go.WideShapes Go.ChangeAt Go.RowKit
attribute [local simp] drew_size

theorem bdo_1 (al ah bl bh : Int) (w : World) : Calls Tryd.prog 12 #[.int .i64 1, .agg #[.int .i64 al, .int .i64 ah], .agg #[.int .i64 bl, .int .i64 bh]] w fun e w' => e = .returned (.agg #[.int .i64 bl, .int .i64 bh]) ∧ Below w.heap.size w w' := by
  go_enter Tryd.func12, Tryd.ntmps12
  go_wp2_with fail
  all_goals exact bodyPost_ret (v := .agg #[.int .i64 bl, .int .i64 bh]) (by simp [results, Tryd.results12, go_sem]) rfl ⟨rfl, by repeat' first | exact Below.refl _ _ | refine Below.alloc ?_ ?_ _ | refine Below.setCell ?_ ?_ _ | refine Below.drew ?_ | (simp; done) | (simp; omega) | (simp [drew_size]; done) | (simp [drew_size]; omega) | omega⟩
theorem bdo_2 (al ah bl bh : Int) (pal : -9223372036854775808 ≤ al) (qal : al ≤ 9223372036854775807) (pah : -9223372036854775808 ≤ ah) (qah : ah ≤ 9223372036854775807) (pbl : -9223372036854775808 ≤ bl) (qbl : bl ≤ 9223372036854775807) (pbh : -9223372036854775808 ≤ bh) (qbh : bh ≤ 9223372036854775807) (w : World) : Calls Tryd.prog 12 #[.int .i64 2, .agg #[.int .i64 al, .int .i64 ah], .agg #[.int .i64 bl, .int .i64 bh]] w fun e w' => e = .returned (.agg #[.int .i64 ((fit2 (al + bl) (ah + bh)).1), .int .i64 ((fit2 (al + bl) (ah + bh)).2)]) ∧ Below w.heap.size w w' := by
  go_enter Tryd.func12, Tryd.ntmps12
  go_wp2_with fail
  go_region_held3 (fun w' => w'.cell? ⟨w.heap.size, 0, none⟩ = some (.int .i64 al) ∧ w'.cell? ⟨w.heap.size, 1, none⟩ = some (.int .i64 ah) ∧ w'.cell? ⟨w.heap.size + 1, 0, none⟩ = some (.int .i64 bl) ∧ w'.cell? ⟨w.heap.size + 1, 1, none⟩ = some (.int .i64 bh)) (first | (simp [go_sem]; done) | (simp [go_sem, *]; done) | go_keep) (first | (go_at_call 38; refine (plus_at _ _ ?_ ?_ ?_ ?_ _).mono ?_; omega; omega; omega; omega; rintro e w' ⟨rfl, rfl⟩) | (go_at_call 39; refine (minus_at _ _ ?_ ?_ ?_ ?_ _).mono ?_; omega; omega; omega; omega; rintro e w' ⟨rfl, rfl⟩) | (go_at_call 37; refine (between_fit _ _ _).mono ?_; rintro e w1 ⟨rfl, hb1⟩; obtain ⟨hcl1, hfr1⟩ := old_cells hb1; have hs1 := hb1.size; (try simp only [drew_size] at hs1); (try simp at hs1); have hbw1 : Below w.heap.size w w1 := by ((refine Below.trans ?_ (hb1.mono ?_)) <;> repeat' first | exact Below.refl _ _ | refine Below.alloc ?_ ?_ _ | refine Below.setCell ?_ ?_ _ | refine Below.drew ?_ | (simp; done) | (simp; omega) | (simp [drew_size]; done) | (simp [drew_size]; omega) | omega)))
  all_goals go_wp2_with (first | (go_at_call 38; refine (plus_at _ _ ?_ ?_ ?_ ?_ _).mono ?_; omega; omega; omega; omega; rintro e w' ⟨rfl, rfl⟩) | (go_at_call 39; refine (minus_at _ _ ?_ ?_ ?_ ?_ _).mono ?_; omega; omega; omega; omega; rintro e w' ⟨rfl, rfl⟩) | (go_at_call 37; refine (between_fit _ _ _).mono ?_; rintro e w1 ⟨rfl, hb1⟩; obtain ⟨hcl1, hfr1⟩ := old_cells hb1; have hs1 := hb1.size; (try simp only [drew_size] at hs1); (try simp at hs1); have hbw1 : Below w.heap.size w w1 := by ((refine Below.trans ?_ (hb1.mono ?_)) <;> repeat' first | exact Below.refl _ _ | refine Below.alloc ?_ ?_ _ | refine Below.setCell ?_ ?_ _ | refine Below.drew ?_ | (simp; done) | (simp; omega) | (simp [drew_size]; done) | (simp [drew_size]; omega) | omega)))
  all_goals exact bodyPost_ret (v := .agg #[.int .i64 ((fit2 (al + bl) (ah + bh)).1), .int .i64 ((fit2 (al + bl) (ah + bh)).2)]) (by simp [results, Tryd.results12, go_sem, hcl1]) rfl ⟨rfl, by repeat' first | exact Below.refl _ _ | exact hbw1 | refine Below.alloc ?_ ?_ _ | refine Below.setCell ?_ ?_ _ | refine Below.drew ?_ | (simp; done) | (simp; omega) | (simp [drew_size]; done) | (simp [drew_size]; omega) | omega⟩
theorem bdo_3 (al ah bl bh : Int) (pal : -9223372036854775808 ≤ al) (qal : al ≤ 9223372036854775807) (pah : -9223372036854775808 ≤ ah) (qah : ah ≤ 9223372036854775807) (pbl : -9223372036854775808 ≤ bl) (qbl : bl ≤ 9223372036854775807) (pbh : -9223372036854775808 ≤ bh) (qbh : bh ≤ 9223372036854775807) (w : World) : Calls Tryd.prog 12 #[.int .i64 3, .agg #[.int .i64 al, .int .i64 ah], .agg #[.int .i64 bl, .int .i64 bh]] w fun e w' => e = .returned (.agg #[.int .i64 ((fit2 (al - bh) (ah - bl)).1), .int .i64 ((fit2 (al - bh) (ah - bl)).2)]) ∧ Below w.heap.size w w' := by
  go_enter Tryd.func12, Tryd.ntmps12
  go_wp2_with fail
  go_region_held3 (fun w' => w'.cell? ⟨w.heap.size, 0, none⟩ = some (.int .i64 al) ∧ w'.cell? ⟨w.heap.size, 1, none⟩ = some (.int .i64 ah) ∧ w'.cell? ⟨w.heap.size + 1, 0, none⟩ = some (.int .i64 bl) ∧ w'.cell? ⟨w.heap.size + 1, 1, none⟩ = some (.int .i64 bh)) (first | (simp [go_sem]; done) | (simp [go_sem, *]; done) | go_keep) (first | (go_at_call 38; refine (plus_at _ _ ?_ ?_ ?_ ?_ _).mono ?_; omega; omega; omega; omega; rintro e w' ⟨rfl, rfl⟩) | (go_at_call 39; refine (minus_at _ _ ?_ ?_ ?_ ?_ _).mono ?_; omega; omega; omega; omega; rintro e w' ⟨rfl, rfl⟩) | (go_at_call 37; refine (between_fit _ _ _).mono ?_; rintro e w1 ⟨rfl, hb1⟩; obtain ⟨hcl1, hfr1⟩ := old_cells hb1; have hs1 := hb1.size; (try simp only [drew_size] at hs1); (try simp at hs1); have hbw1 : Below w.heap.size w w1 := by ((refine Below.trans ?_ (hb1.mono ?_)) <;> repeat' first | exact Below.refl _ _ | refine Below.alloc ?_ ?_ _ | refine Below.setCell ?_ ?_ _ | refine Below.drew ?_ | (simp; done) | (simp; omega) | (simp [drew_size]; done) | (simp [drew_size]; omega) | omega)))
  all_goals go_wp2_with (first | (go_at_call 38; refine (plus_at _ _ ?_ ?_ ?_ ?_ _).mono ?_; omega; omega; omega; omega; rintro e w' ⟨rfl, rfl⟩) | (go_at_call 39; refine (minus_at _ _ ?_ ?_ ?_ ?_ _).mono ?_; omega; omega; omega; omega; rintro e w' ⟨rfl, rfl⟩) | (go_at_call 37; refine (between_fit _ _ _).mono ?_; rintro e w1 ⟨rfl, hb1⟩; obtain ⟨hcl1, hfr1⟩ := old_cells hb1; have hs1 := hb1.size; (try simp only [drew_size] at hs1); (try simp at hs1); have hbw1 : Below w.heap.size w w1 := by ((refine Below.trans ?_ (hb1.mono ?_)) <;> repeat' first | exact Below.refl _ _ | refine Below.alloc ?_ ?_ _ | refine Below.setCell ?_ ?_ _ | refine Below.drew ?_ | (simp; done) | (simp; omega) | (simp [drew_size]; done) | (simp [drew_size]; omega) | omega)))
  all_goals exact bodyPost_ret (v := .agg #[.int .i64 ((fit2 (al - bh) (ah - bl)).1), .int .i64 ((fit2 (al - bh) (ah - bl)).2)]) (by simp [results, Tryd.results12, go_sem, hcl1]) rfl ⟨rfl, by repeat' first | exact Below.refl _ _ | exact hbw1 | refine Below.alloc ?_ ?_ _ | refine Below.setCell ?_ ?_ _ | refine Below.drew ?_ | (simp; done) | (simp; omega) | (simp [drew_size]; done) | (simp [drew_size]; omega) | omega⟩
theorem bdo_13 (al ah bl bh : Int) (pal : -9223372036854775808 ≤ al) (qal : al ≤ 9223372036854775807) (pah : -9223372036854775808 ≤ ah) (qah : ah ≤ 9223372036854775807) (w : World) : Calls Tryd.prog 12 #[.int .i64 13, .agg #[.int .i64 al, .int .i64 ah], .agg #[.int .i64 bl, .int .i64 bh]] w fun e w' => e = .returned (.agg #[.int .i64 ((fit2 (-ah) (-al)).1), .int .i64 ((fit2 (-ah) (-al)).2)]) ∧ Below w.heap.size w w' := by
  go_enter Tryd.func12, Tryd.ntmps12
  go_wp2_with fail
  go_region_held3 (fun w' => w'.cell? ⟨w.heap.size, 0, none⟩ = some (.int .i64 al) ∧ w'.cell? ⟨w.heap.size, 1, none⟩ = some (.int .i64 ah) ∧ w'.cell? ⟨w.heap.size + 1, 0, none⟩ = some (.int .i64 bl) ∧ w'.cell? ⟨w.heap.size + 1, 1, none⟩ = some (.int .i64 bh)) (first | (simp [go_sem]; done) | (simp [go_sem, *]; done) | go_keep) (first | (go_at_call 38; refine (plus_at _ _ ?_ ?_ ?_ ?_ _).mono ?_; omega; omega; omega; omega; rintro e w' ⟨rfl, rfl⟩) | (go_at_call 39; refine (minus_at _ _ ?_ ?_ ?_ ?_ _).mono ?_; omega; omega; omega; omega; rintro e w' ⟨rfl, rfl⟩) | (go_at_call 37; refine (between_fit _ _ _).mono ?_; rintro e w1 ⟨rfl, hb1⟩; obtain ⟨hcl1, hfr1⟩ := old_cells hb1; have hs1 := hb1.size; (try simp only [drew_size] at hs1); (try simp at hs1); have hbw1 : Below w.heap.size w w1 := by ((refine Below.trans ?_ (hb1.mono ?_)) <;> repeat' first | exact Below.refl _ _ | refine Below.alloc ?_ ?_ _ | refine Below.setCell ?_ ?_ _ | refine Below.drew ?_ | (simp; done) | (simp; omega) | (simp [drew_size]; done) | (simp [drew_size]; omega) | omega)))
  all_goals go_wp2_with (first | (go_at_call 38; refine (plus_at _ _ ?_ ?_ ?_ ?_ _).mono ?_; omega; omega; omega; omega; rintro e w' ⟨rfl, rfl⟩) | (go_at_call 39; refine (minus_at _ _ ?_ ?_ ?_ ?_ _).mono ?_; omega; omega; omega; omega; rintro e w' ⟨rfl, rfl⟩) | (go_at_call 37; refine (between_fit _ _ _).mono ?_; rintro e w1 ⟨rfl, hb1⟩; obtain ⟨hcl1, hfr1⟩ := old_cells hb1; have hs1 := hb1.size; (try simp only [drew_size] at hs1); (try simp at hs1); have hbw1 : Below w.heap.size w w1 := by ((refine Below.trans ?_ (hb1.mono ?_)) <;> repeat' first | exact Below.refl _ _ | refine Below.alloc ?_ ?_ _ | refine Below.setCell ?_ ?_ _ | refine Below.drew ?_ | (simp; done) | (simp; omega) | (simp [drew_size]; done) | (simp [drew_size]; omega) | omega)))
  all_goals exact bodyPost_ret (v := .agg #[.int .i64 ((fit2 (-ah) (-al)).1), .int .i64 ((fit2 (-ah) (-al)).2)]) (by simp [results, Tryd.results12, go_sem, hcl1]) rfl ⟨rfl, by repeat' first | exact Below.refl _ _ | exact hbw1 | refine Below.alloc ?_ ?_ _ | refine Below.setCell ?_ ?_ _ | refine Below.drew ?_ | (simp; done) | (simp; omega) | (simp [drew_size]; done) | (simp [drew_size]; omega) | omega⟩
theorem bdo_4 (al ah bl bh : Int) (w : World) : Calls Tryd.prog 12 #[.int .i64 4, .agg #[.int .i64 al, .int .i64 ah], .agg #[.int .i64 bl, .int .i64 bh]] w fun e w' => e = .returned (.agg #[.int .i64 ((bdV 4 al ah bl bh).1), .int .i64 ((bdV 4 al ah bl bh).2)]) ∧ Below w.heap.size w w' := by
  go_enter Tryd.func12, Tryd.ntmps12
  go_wp2_with (first | (go_at_call 40; refine (product_is _ _ _ _ _).mono ?_; rintro e w1 ⟨rfl, hb1⟩; obtain ⟨hcl1, hfr1⟩ := old_cells hb1; have hs1 := hb1.size; (try simp only [drew_size] at hs1); (try simp at hs1); have hbw1 : Below w.heap.size w w1 := by ((refine Below.trans ?_ (hb1.mono ?_)) <;> repeat' first | exact Below.refl _ _ | refine Below.alloc ?_ ?_ _ | refine Below.setCell ?_ ?_ _ | refine Below.drew ?_ | (simp; done) | (simp; omega) | (simp [drew_size]; done) | (simp [drew_size]; omega) | omega)))
  all_goals exact bodyPost_ret (v := .agg #[.int .i64 ((bdV 4 al ah bl bh).1), .int .i64 ((bdV 4 al ah bl bh).2)]) (by simp [results, Tryd.results12, go_sem, hcl1]) rfl ⟨rfl, by repeat' first | exact Below.refl _ _ | exact hbw1 | refine Below.alloc ?_ ?_ _ | refine Below.setCell ?_ ?_ _ | refine Below.drew ?_ | (simp; done) | (simp; omega) | (simp [drew_size]; done) | (simp [drew_size]; omega) | omega⟩
theorem quotient_is (al ah bl bh : Int) (pal : -9223372036854775808 ≤ al) (qal : al ≤ 9223372036854775807) (pah : -9223372036854775808 ≤ ah) (qah : ah ≤ 9223372036854775807) (pbl : -9223372036854775808 ≤ bl) (qbl : bl ≤ 9223372036854775807) (pbh : -9223372036854775808 ≤ bh) (qbh : bh ≤ 9223372036854775807) (oa : al ≤ ah) (ob : bl ≤ bh) (w : World) : Calls Tryd.prog 41 #[.agg #[.int .i64 al, .int .i64 ah], .agg #[.int .i64 bl, .int .i64 bh]] w fun e w' => e = .returned (.agg #[.int .i64 ((bdV 5 al ah bl bh).1), .int .i64 ((bdV 5 al ah bl bh).2)]) ∧ Below w.heap.size w w' := by
  rw [bdV_5]
  by_cases ha : 0 ≤ al
  · by_cases hb : 0 ≤ bl
    · rw [if_pos ⟨ha, hb⟩]
      by_cases hz : 0 < bl
      · rw [if_pos hz, ← div_ends ha qal (by omega) qbh, ← div_ends (by omega) qah hz qbl]
        exact quotient_p al ah bl bh ha hz qbh qbl pbh w
      · rw [if_neg hz]
        exact quotient_z al ah bl bh ha hb (by omega) w
    · rw [if_neg (fun h => hb h.2)]
      exact quotient_nb al ah bl bh ha (by omega) w
  · rw [if_neg (fun h => ha h.1)]
    exact quotient_na al ah bl bh (by omega) w
theorem rest_is (al ah bl bh : Int) (qbh : bh ≤ 9223372036854775807) (ob : bl ≤ bh) (w : World) : Calls Tryd.prog 42 #[.agg #[.int .i64 al, .int .i64 ah], .agg #[.int .i64 bl, .int .i64 bh]] w fun e w' => e = .returned (.agg #[.int .i64 ((bdV 6 al ah bl bh).1), .int .i64 ((bdV 6 al ah bl bh).2)]) ∧ Below w.heap.size w w' := by
  rw [bdV_6]
  by_cases ha : 0 ≤ al
  · by_cases hb : 0 ≤ bl
    · rw [if_pos ⟨ha, hb⟩]
      by_cases hz : 0 < bl
      · rw [if_pos hz]
        exact rest_p al ah bl bh ha hz qbh ob w
      · rw [if_neg hz]
        exact rest_z al ah bl bh ha hb (by omega) w
    · rw [if_neg (fun h => hb h.2)]
      exact rest_nb al ah bl bh ha (by omega) w
  · rw [if_neg (fun h => ha h.1)]
    exact rest_na al ah bl bh (by omega) w
theorem common_is (al ah bl bh : Int) (w : World) : Calls Tryd.prog 43 #[.agg #[.int .i64 al, .int .i64 ah], .agg #[.int .i64 bl, .int .i64 bh]] w fun e w' => e = .returned (.agg #[.int .i64 ((bdV 7 al ah bl bh).1), .int .i64 ((bdV 7 al ah bl bh).2)]) ∧ Below w.heap.size w w' := by
  rw [bdV_7]
  by_cases ha : 0 ≤ al
  · rw [if_pos ha]
    by_cases hb : 0 ≤ bl
    · rw [if_pos hb]
      exact common_pp al ah bl bh ha hb w
    · rw [if_neg hb]
      exact common_pn al ah bl bh ha (by omega) w
  · rw [if_neg ha]
    by_cases hb : 0 ≤ bl
    · rw [if_pos hb]
      exact common_np al ah bl bh (by omega) hb w
    · rw [if_neg hb]
      exact common_nn al ah bl bh (by omega) (by omega) w
theorem bdo_5 (al ah bl bh : Int) (pal : -9223372036854775808 ≤ al) (qal : al ≤ 9223372036854775807) (pah : -9223372036854775808 ≤ ah) (qah : ah ≤ 9223372036854775807) (pbl : -9223372036854775808 ≤ bl) (qbl : bl ≤ 9223372036854775807) (pbh : -9223372036854775808 ≤ bh) (qbh : bh ≤ 9223372036854775807) (oa : al ≤ ah) (ob : bl ≤ bh) (w : World) : Calls Tryd.prog 12 #[.int .i64 5, .agg #[.int .i64 al, .int .i64 ah], .agg #[.int .i64 bl, .int .i64 bh]] w fun e w' => e = .returned (.agg #[.int .i64 ((bdV 5 al ah bl bh).1), .int .i64 ((bdV 5 al ah bl bh).2)]) ∧ Below w.heap.size w w' := by
  go_enter Tryd.func12, Tryd.ntmps12
  go_wp2_with (first | (go_at_call 41; refine (quotient_is _ _ _ _ pal qal pah qah pbl qbl pbh qbh oa ob _).mono ?_; rintro e w1 ⟨rfl, hb1⟩; obtain ⟨hcl1, hfr1⟩ := old_cells hb1; have hs1 := hb1.size; (try simp only [drew_size] at hs1); (try simp at hs1); have hbw1 : Below w.heap.size w w1 := by ((refine Below.trans ?_ (hb1.mono ?_)) <;> repeat' first | exact Below.refl _ _ | refine Below.alloc ?_ ?_ _ | refine Below.setCell ?_ ?_ _ | refine Below.drew ?_ | (simp; done) | (simp; omega) | (simp [drew_size]; done) | (simp [drew_size]; omega) | omega)))
  all_goals exact bodyPost_ret (v := .agg #[.int .i64 ((bdV 5 al ah bl bh).1), .int .i64 ((bdV 5 al ah bl bh).2)]) (by simp [results, Tryd.results12, go_sem, hcl1]) rfl ⟨rfl, by repeat' first | exact Below.refl _ _ | exact hbw1 | refine Below.alloc ?_ ?_ _ | refine Below.setCell ?_ ?_ _ | refine Below.drew ?_ | (simp; done) | (simp; omega) | (simp [drew_size]; done) | (simp [drew_size]; omega) | omega⟩
theorem bdo_6 (al ah bl bh : Int) (qbh : bh ≤ 9223372036854775807) (ob : bl ≤ bh) (w : World) : Calls Tryd.prog 12 #[.int .i64 6, .agg #[.int .i64 al, .int .i64 ah], .agg #[.int .i64 bl, .int .i64 bh]] w fun e w' => e = .returned (.agg #[.int .i64 ((bdV 6 al ah bl bh).1), .int .i64 ((bdV 6 al ah bl bh).2)]) ∧ Below w.heap.size w w' := by
  go_enter Tryd.func12, Tryd.ntmps12
  go_wp2_with (first | (go_at_call 42; refine (rest_is _ _ _ _ qbh ob _).mono ?_; rintro e w1 ⟨rfl, hb1⟩; obtain ⟨hcl1, hfr1⟩ := old_cells hb1; have hs1 := hb1.size; (try simp only [drew_size] at hs1); (try simp at hs1); have hbw1 : Below w.heap.size w w1 := by ((refine Below.trans ?_ (hb1.mono ?_)) <;> repeat' first | exact Below.refl _ _ | refine Below.alloc ?_ ?_ _ | refine Below.setCell ?_ ?_ _ | refine Below.drew ?_ | (simp; done) | (simp; omega) | (simp [drew_size]; done) | (simp [drew_size]; omega) | omega)))
  all_goals exact bodyPost_ret (v := .agg #[.int .i64 ((bdV 6 al ah bl bh).1), .int .i64 ((bdV 6 al ah bl bh).2)]) (by simp [results, Tryd.results12, go_sem, hcl1]) rfl ⟨rfl, by repeat' first | exact Below.refl _ _ | exact hbw1 | refine Below.alloc ?_ ?_ _ | refine Below.setCell ?_ ?_ _ | refine Below.drew ?_ | (simp; done) | (simp; omega) | (simp [drew_size]; done) | (simp [drew_size]; omega) | omega⟩
theorem bdo_7 (al ah bl bh : Int) (w : World) : Calls Tryd.prog 12 #[.int .i64 7, .agg #[.int .i64 al, .int .i64 ah], .agg #[.int .i64 bl, .int .i64 bh]] w fun e w' => e = .returned (.agg #[.int .i64 ((bdV 7 al ah bl bh).1), .int .i64 ((bdV 7 al ah bl bh).2)]) ∧ Below w.heap.size w w' := by
  go_enter Tryd.func12, Tryd.ntmps12
  go_wp2_with (first | (go_at_call 43; refine (common_is _ _ _ _ _).mono ?_; rintro e w1 ⟨rfl, hb1⟩; obtain ⟨hcl1, hfr1⟩ := old_cells hb1; have hs1 := hb1.size; (try simp only [drew_size] at hs1); (try simp at hs1); have hbw1 : Below w.heap.size w w1 := by ((refine Below.trans ?_ (hb1.mono ?_)) <;> repeat' first | exact Below.refl _ _ | refine Below.alloc ?_ ?_ _ | refine Below.setCell ?_ ?_ _ | refine Below.drew ?_ | (simp; done) | (simp; omega) | (simp [drew_size]; done) | (simp [drew_size]; omega) | omega)))
  all_goals exact bodyPost_ret (v := .agg #[.int .i64 ((bdV 7 al ah bl bh).1), .int .i64 ((bdV 7 al ah bl bh).2)]) (by simp [results, Tryd.results12, go_sem, hcl1]) rfl ⟨rfl, by repeat' first | exact Below.refl _ _ | exact hbw1 | refine Below.alloc ?_ ?_ _ | refine Below.setCell ?_ ?_ _ | refine Below.drew ?_ | (simp; done) | (simp; omega) | (simp [drew_size]; done) | (simp [drew_size]; omega) | omega⟩
theorem filled_is (lo al ah bl bh : Int) (pal : -9223372036854775808 ≤ al) (qal : al ≤ 9223372036854775807) (pah : -9223372036854775808 ≤ ah) (qah : ah ≤ 9223372036854775807) (pbl : -9223372036854775808 ≤ bl) (qbl : bl ≤ 9223372036854775807) (pbh : -9223372036854775808 ≤ bh) (qbh : bh ≤ 9223372036854775807) (w : World) : Calls Tryd.prog 44 #[.int .i64 lo, .agg #[.int .i64 al, .int .i64 ah], .agg #[.int .i64 bl, .int .i64 bh]] w fun e w' => e = .returned (.agg #[.int .i64 (((if 0 ≤ al ∧ 0 ≤ bl then (lo, fillV (max ah bh)) else (-9223372036854775808, 9223372036854775807) : Int × Int)).1), .int .i64 (((if 0 ≤ al ∧ 0 ≤ bl then (lo, fillV (max ah bh)) else (-9223372036854775808, 9223372036854775807) : Int × Int)).2)]) ∧ Below w.heap.size w w' := by
  by_cases ha : 0 ≤ al
  · by_cases hb : 0 ≤ bl
    · rw [if_pos ⟨ha, hb⟩]
      exact filled_pp lo al ah bl bh ha hb (by omega) (by omega) w
    · rw [if_neg (fun h => hb h.2)]
      exact filled_nb lo al ah bl bh ha (by omega) w
  · rw [if_neg (fun h => ha h.1)]
    exact filled_na lo al ah bl bh (by omega) w
/-- What is from a number on up to all bits. -/
def filV (lo al ah bl bh : Int) : Int × Int := if 0 ≤ al ∧ 0 ≤ bl then (lo, fillV (max ah bh)) else (-9223372036854775808, 9223372036854775807)
theorem filled_as (lo al ah bl bh : Int) (pal : -9223372036854775808 ≤ al) (qal : al ≤ 9223372036854775807) (pah : -9223372036854775808 ≤ ah) (qah : ah ≤ 9223372036854775807) (pbl : -9223372036854775808 ≤ bl) (qbl : bl ≤ 9223372036854775807) (pbh : -9223372036854775808 ≤ bh) (qbh : bh ≤ 9223372036854775807) (w : World) : Calls Tryd.prog 44 #[.int .i64 lo, .agg #[.int .i64 al, .int .i64 ah], .agg #[.int .i64 bl, .int .i64 bh]] w fun e w' => e = .returned (.agg #[.int .i64 ((filV lo al ah bl bh).1), .int .i64 ((filV lo al ah bl bh).2)]) ∧ Below w.heap.size w w' := filled_is lo al ah bl bh pal qal pah qah pbl qbl pbh qbh w
theorem bdo_8 (al ah bl bh : Int) (pal : -9223372036854775808 ≤ al) (qal : al ≤ 9223372036854775807) (pah : -9223372036854775808 ≤ ah) (qah : ah ≤ 9223372036854775807) (pbl : -9223372036854775808 ≤ bl) (qbl : bl ≤ 9223372036854775807) (pbh : -9223372036854775808 ≤ bh) (qbh : bh ≤ 9223372036854775807) (w : World) : Calls Tryd.prog 12 #[.int .i64 8, .agg #[.int .i64 al, .int .i64 ah], .agg #[.int .i64 bl, .int .i64 bh]] w fun e w' => e = .returned (.agg #[.int .i64 ((filV (max al bl) al ah bl bh).1), .int .i64 ((filV (max al bl) al ah bl bh).2)]) ∧ Below w.heap.size w w' := by
  go_enter Tryd.func12, Tryd.ntmps12
  go_wp2_with (first | (go_at_call 44; refine (filled_as _ _ _ _ _ pal qal pah qah pbl qbl pbh qbh _).mono ?_; rintro e w1 ⟨rfl, hb1⟩; obtain ⟨hcl1, hfr1⟩ := old_cells hb1; have hs1 := hb1.size; (try simp only [drew_size] at hs1); (try simp at hs1); have hbw1 : Below w.heap.size w w1 := by ((refine Below.trans ?_ (hb1.mono ?_)) <;> repeat' first | exact Below.refl _ _ | refine Below.alloc ?_ ?_ _ | refine Below.setCell ?_ ?_ _ | refine Below.drew ?_ | (simp; done) | (simp; omega) | (simp [drew_size]; done) | (simp [drew_size]; omega) | omega)))
  all_goals exact bodyPost_ret (v := .agg #[.int .i64 ((filV (max al bl) al ah bl bh).1), .int .i64 ((filV (max al bl) al ah bl bh).2)]) (by simp [results, Tryd.results12, go_sem, hcl1]) rfl ⟨rfl, by repeat' first | exact Below.refl _ _ | exact hbw1 | refine Below.alloc ?_ ?_ _ | refine Below.setCell ?_ ?_ _ | refine Below.drew ?_ | (simp; done) | (simp; omega) | (simp [drew_size]; done) | (simp [drew_size]; omega) | omega⟩
theorem bdo_9 (al ah bl bh : Int) (pal : -9223372036854775808 ≤ al) (qal : al ≤ 9223372036854775807) (pah : -9223372036854775808 ≤ ah) (qah : ah ≤ 9223372036854775807) (pbl : -9223372036854775808 ≤ bl) (qbl : bl ≤ 9223372036854775807) (pbh : -9223372036854775808 ≤ bh) (qbh : bh ≤ 9223372036854775807) (w : World) : Calls Tryd.prog 12 #[.int .i64 9, .agg #[.int .i64 al, .int .i64 ah], .agg #[.int .i64 bl, .int .i64 bh]] w fun e w' => e = .returned (.agg #[.int .i64 ((filV 0 al ah bl bh).1), .int .i64 ((filV 0 al ah bl bh).2)]) ∧ Below w.heap.size w w' := by
  go_enter Tryd.func12, Tryd.ntmps12
  go_wp2_with (first | (go_at_call 44; refine (filled_as _ _ _ _ _ pal qal pah qah pbl qbl pbh qbh _).mono ?_; rintro e w1 ⟨rfl, hb1⟩; obtain ⟨hcl1, hfr1⟩ := old_cells hb1; have hs1 := hb1.size; (try simp only [drew_size] at hs1); (try simp at hs1); have hbw1 : Below w.heap.size w w1 := by ((refine Below.trans ?_ (hb1.mono ?_)) <;> repeat' first | exact Below.refl _ _ | refine Below.alloc ?_ ?_ _ | refine Below.setCell ?_ ?_ _ | refine Below.drew ?_ | (simp; done) | (simp; omega) | (simp [drew_size]; done) | (simp [drew_size]; omega) | omega)))
  all_goals exact bodyPost_ret (v := .agg #[.int .i64 ((filV 0 al ah bl bh).1), .int .i64 ((filV 0 al ah bl bh).2)]) (by simp [results, Tryd.results12, go_sem, hcl1]) rfl ⟨rfl, by repeat' first | exact Below.refl _ _ | exact hbw1 | refine Below.alloc ?_ ?_ _ | refine Below.setCell ?_ ?_ _ | refine Below.drew ?_ | (simp; done) | (simp; omega) | (simp [drew_size]; done) | (simp [drew_size]; omega) | omega⟩
/-- A bound shifted by so much, and by nobody knows how much. -/
def shV (c al ah k : Int) : Int × Int :=
  if c = 10 then fit2 (al * 2 ^ k.toNat) (ah * 2 ^ k.toNat) else if c = 11 ∧ 0 < k ∧ al < 0 then (0, doesV 11 (-1) k) else (doesV c al k, doesV c ah k)
def anyV (c al ah : Int) : Int × Int :=
  if c = 10 then (-9223372036854775808, 9223372036854775807) else if 0 ≤ al then (0, ah) else if c = 11 then (-9223372036854775808, 9223372036854775807) else if ah < 0 then (al, -1) else (al, ah)

theorem shifted_is (c al ah k : Int) (hc : c = 10 ∨ c = 11 ∨ c = 12) (h0 : 0 ≤ k) (h1 : k < 64) (w : World) : Calls Tryd.prog 45 #[.int .i64 c, .agg #[.int .i64 al, .int .i64 ah], .int .i64 k] w fun e w' => e = .returned (.agg #[.int .i64 ((shV c al ah k).1), .int .i64 ((shV c al ah k).2)]) ∧ Below w.heap.size w w' := by
  rcases hc with rfl | rfl | rfl
  · exact shifted_10 al ah k h0 h1 w
  · by_cases hk : 0 < k
    · by_cases ha : al < 0
      · have e : shV 11 al ah k = (0, doesV 11 (-1) k) := by unfold shV; rw [if_neg (by decide), if_pos ⟨rfl, hk, ha⟩]
        rw [e]
        exact shifted_11n al ah k h0 h1 hk ha w
      · have e : shV 11 al ah k = (doesV 11 al k, doesV 11 ah k) := by unfold shV; rw [if_neg (by decide), if_neg (fun h => ha h.2.2)]
        rw [e]
        exact shifted_11p al ah k h0 h1 hk (by omega) w
    · have e : shV 11 al ah k = (doesV 11 al k, doesV 11 ah k) := by unfold shV; rw [if_neg (by decide), if_neg (fun h => hk h.2.1)]
      rw [e]
      exact shifted_11z al ah k h0 h1 (by omega) w
  · exact shifted_12 al ah k h0 h1 w
theorem any_is (c al ah : Int) (hc : c = 10 ∨ c = 11 ∨ c = 12) (w : World) : Calls Tryd.prog 46 #[.int .i64 c, .agg #[.int .i64 al, .int .i64 ah]] w fun e w' => e = .returned (.agg #[.int .i64 ((anyV c al ah).1), .int .i64 ((anyV c al ah).2)]) ∧ Below w.heap.size w w' := by
  by_cases h10 : c = 10
  · subst h10
    exact any_10 al ah w
  · by_cases ha : 0 ≤ al
    · have e : anyV c al ah = (0, ah) := by unfold anyV; rw [if_neg h10, if_pos ha]
      rw [e]
      exact any_p c al ah (by omega) ha w
    · by_cases h11 : c = 11
      · subst h11
        have e : anyV 11 al ah = (-9223372036854775808, 9223372036854775807) := by unfold anyV; rw [if_neg (by decide), if_neg ha, if_pos rfl]
        rw [e]
        exact any_11 al ah (by omega) w
      · obtain rfl : c = 12 := by omega
        by_cases hh : ah < 0
        · have e : anyV 12 al ah = (al, -1) := by unfold anyV; rw [if_neg (by decide), if_neg ha, if_neg (by decide), if_pos hh]
          rw [e]
          exact any_12n al ah (by omega) hh w
        · have e : anyV 12 al ah = (al, ah) := by unfold anyV; rw [if_neg (by decide), if_neg ha, if_neg (by decide), if_neg hh]
          rw [e]
          exact any_12 al ah (by omega) (by omega) w
theorem bdo_10e (al ah bl : Int) (w : World) : Calls Tryd.prog 12 #[.int .i64 10, .agg #[.int .i64 al, .int .i64 ah], .agg #[.int .i64 bl, .int .i64 bl]] w fun e w' => e = .returned (.agg #[.int .i64 ((shV 10 al ah (bl % 64)).1), .int .i64 ((shV 10 al ah (bl % 64)).2)]) ∧ Below w.heap.size w w' := by
  have hx := and63 bl
  go_enter Tryd.func12, Tryd.ntmps12
  go_wp2_with fail
  go_region_held3 (fun w' => w'.cell? ⟨w.heap.size + 1, 0, none⟩ = some (.int .i64 bl) ∧ w'.cell? ⟨w.heap.size + 1, 1, none⟩ = some (.int .i64 bl)) (first | (simp [go_sem]; done) | (simp [go_sem, *]; done) | go_keep) (first | (go_at_call 17; refine (one_at _ _).mono ?_; rintro e w' ⟨rfl, rfl⟩) | (go_at_call 45; refine (shifted_is 10 _ _ _ (by decide) (Int.emod_nonneg _ (by decide)) (Int.emod_lt_of_pos _ (by decide)) _).mono ?_; rintro e w1 ⟨rfl, hb1⟩; obtain ⟨hcl1, hfr1⟩ := old_cells hb1; have hs1 := hb1.size; (try simp only [drew_size] at hs1); (try simp at hs1); have hbw1 : Below w.heap.size w w1 := by ((refine Below.trans ?_ (hb1.mono ?_)) <;> repeat' first | exact Below.refl _ _ | refine Below.alloc ?_ ?_ _ | refine Below.setCell ?_ ?_ _ | refine Below.drew ?_ | (simp; done) | (simp; omega) | (simp [drew_size]; done) | (simp [drew_size]; omega) | omega)))
  all_goals go_wp2_with (first | (go_at_call 17; refine (one_at _ _).mono ?_; rintro e w' ⟨rfl, rfl⟩) | (go_at_call 45; refine (shifted_is 10 _ _ _ (by decide) (Int.emod_nonneg _ (by decide)) (Int.emod_lt_of_pos _ (by decide)) _).mono ?_; rintro e w1 ⟨rfl, hb1⟩; obtain ⟨hcl1, hfr1⟩ := old_cells hb1; have hs1 := hb1.size; (try simp only [drew_size] at hs1); (try simp at hs1); have hbw1 : Below w.heap.size w w1 := by ((refine Below.trans ?_ (hb1.mono ?_)) <;> repeat' first | exact Below.refl _ _ | refine Below.alloc ?_ ?_ _ | refine Below.setCell ?_ ?_ _ | refine Below.drew ?_ | (simp; done) | (simp; omega) | (simp [drew_size]; done) | (simp [drew_size]; omega) | omega)))
  all_goals exact bodyPost_ret (v := .agg #[.int .i64 ((shV 10 al ah (bl % 64)).1), .int .i64 ((shV 10 al ah (bl % 64)).2)]) (by simp [results, Tryd.results12, go_sem, hcl1]) rfl ⟨rfl, by repeat' first | exact Below.refl _ _ | exact hbw1 | refine Below.alloc ?_ ?_ _ | refine Below.setCell ?_ ?_ _ | refine Below.drew ?_ | (simp; done) | (simp; omega) | (simp [drew_size]; done) | (simp [drew_size]; omega) | omega⟩
theorem bdo_10n (al ah bl bh : Int) (hne : ¬ bh = bl) (w : World) : Calls Tryd.prog 12 #[.int .i64 10, .agg #[.int .i64 al, .int .i64 ah], .agg #[.int .i64 bl, .int .i64 bh]] w fun e w' => e = .returned (.agg #[.int .i64 ((anyV 10 al ah).1), .int .i64 ((anyV 10 al ah).2)]) ∧ Below w.heap.size w w' := by
  go_enter Tryd.func12, Tryd.ntmps12
  go_wp2_with fail
  go_region_held3 (fun w' => w'.cell? ⟨w.heap.size + 1, 0, none⟩ = some (.int .i64 bl) ∧ w'.cell? ⟨w.heap.size + 1, 1, none⟩ = some (.int .i64 bh)) (first | (simp [go_sem]; done) | (simp [go_sem, *]; done) | go_keep) (first | (go_at_call 17; refine (one_at _ _).mono ?_; rintro e w' ⟨rfl, rfl⟩) | (go_at_call 46; refine (any_is 10 _ _ (by decide) _).mono ?_; rintro e w1 ⟨rfl, hb1⟩; obtain ⟨hcl1, hfr1⟩ := old_cells hb1; have hs1 := hb1.size; (try simp only [drew_size] at hs1); (try simp at hs1); have hbw1 : Below w.heap.size w w1 := by ((refine Below.trans ?_ (hb1.mono ?_)) <;> repeat' first | exact Below.refl _ _ | refine Below.alloc ?_ ?_ _ | refine Below.setCell ?_ ?_ _ | refine Below.drew ?_ | (simp; done) | (simp; omega) | (simp [drew_size]; done) | (simp [drew_size]; omega) | omega)))
  all_goals go_wp2_with (first | (go_at_call 17; refine (one_at _ _).mono ?_; rintro e w' ⟨rfl, rfl⟩) | (go_at_call 46; refine (any_is 10 _ _ (by decide) _).mono ?_; rintro e w1 ⟨rfl, hb1⟩; obtain ⟨hcl1, hfr1⟩ := old_cells hb1; have hs1 := hb1.size; (try simp only [drew_size] at hs1); (try simp at hs1); have hbw1 : Below w.heap.size w w1 := by ((refine Below.trans ?_ (hb1.mono ?_)) <;> repeat' first | exact Below.refl _ _ | refine Below.alloc ?_ ?_ _ | refine Below.setCell ?_ ?_ _ | refine Below.drew ?_ | (simp; done) | (simp; omega) | (simp [drew_size]; done) | (simp [drew_size]; omega) | omega)))
  all_goals exact bodyPost_ret (v := .agg #[.int .i64 ((anyV 10 al ah).1), .int .i64 ((anyV 10 al ah).2)]) (by simp [results, Tryd.results12, go_sem, hcl1]) rfl ⟨rfl, by repeat' first | exact Below.refl _ _ | exact hbw1 | refine Below.alloc ?_ ?_ _ | refine Below.setCell ?_ ?_ _ | refine Below.drew ?_ | (simp; done) | (simp; omega) | (simp [drew_size]; done) | (simp [drew_size]; omega) | omega⟩
theorem bdo_11e (al ah bl : Int) (w : World) : Calls Tryd.prog 12 #[.int .i64 11, .agg #[.int .i64 al, .int .i64 ah], .agg #[.int .i64 bl, .int .i64 bl]] w fun e w' => e = .returned (.agg #[.int .i64 ((shV 11 al ah (bl % 64)).1), .int .i64 ((shV 11 al ah (bl % 64)).2)]) ∧ Below w.heap.size w w' := by
  have hx := and63 bl
  go_enter Tryd.func12, Tryd.ntmps12
  go_wp2_with fail
  go_region_held3 (fun w' => w'.cell? ⟨w.heap.size + 1, 0, none⟩ = some (.int .i64 bl) ∧ w'.cell? ⟨w.heap.size + 1, 1, none⟩ = some (.int .i64 bl)) (first | (simp [go_sem]; done) | (simp [go_sem, *]; done) | go_keep) (first | (go_at_call 17; refine (one_at _ _).mono ?_; rintro e w' ⟨rfl, rfl⟩) | (go_at_call 45; refine (shifted_is 11 _ _ _ (by decide) (Int.emod_nonneg _ (by decide)) (Int.emod_lt_of_pos _ (by decide)) _).mono ?_; rintro e w1 ⟨rfl, hb1⟩; obtain ⟨hcl1, hfr1⟩ := old_cells hb1; have hs1 := hb1.size; (try simp only [drew_size] at hs1); (try simp at hs1); have hbw1 : Below w.heap.size w w1 := by ((refine Below.trans ?_ (hb1.mono ?_)) <;> repeat' first | exact Below.refl _ _ | refine Below.alloc ?_ ?_ _ | refine Below.setCell ?_ ?_ _ | refine Below.drew ?_ | (simp; done) | (simp; omega) | (simp [drew_size]; done) | (simp [drew_size]; omega) | omega)))
  all_goals go_wp2_with (first | (go_at_call 17; refine (one_at _ _).mono ?_; rintro e w' ⟨rfl, rfl⟩) | (go_at_call 45; refine (shifted_is 11 _ _ _ (by decide) (Int.emod_nonneg _ (by decide)) (Int.emod_lt_of_pos _ (by decide)) _).mono ?_; rintro e w1 ⟨rfl, hb1⟩; obtain ⟨hcl1, hfr1⟩ := old_cells hb1; have hs1 := hb1.size; (try simp only [drew_size] at hs1); (try simp at hs1); have hbw1 : Below w.heap.size w w1 := by ((refine Below.trans ?_ (hb1.mono ?_)) <;> repeat' first | exact Below.refl _ _ | refine Below.alloc ?_ ?_ _ | refine Below.setCell ?_ ?_ _ | refine Below.drew ?_ | (simp; done) | (simp; omega) | (simp [drew_size]; done) | (simp [drew_size]; omega) | omega)))
  all_goals exact bodyPost_ret (v := .agg #[.int .i64 ((shV 11 al ah (bl % 64)).1), .int .i64 ((shV 11 al ah (bl % 64)).2)]) (by simp [results, Tryd.results12, go_sem, hcl1]) rfl ⟨rfl, by repeat' first | exact Below.refl _ _ | exact hbw1 | refine Below.alloc ?_ ?_ _ | refine Below.setCell ?_ ?_ _ | refine Below.drew ?_ | (simp; done) | (simp; omega) | (simp [drew_size]; done) | (simp [drew_size]; omega) | omega⟩
theorem bdo_11n (al ah bl bh : Int) (hne : ¬ bh = bl) (w : World) : Calls Tryd.prog 12 #[.int .i64 11, .agg #[.int .i64 al, .int .i64 ah], .agg #[.int .i64 bl, .int .i64 bh]] w fun e w' => e = .returned (.agg #[.int .i64 ((anyV 11 al ah).1), .int .i64 ((anyV 11 al ah).2)]) ∧ Below w.heap.size w w' := by
  go_enter Tryd.func12, Tryd.ntmps12
  go_wp2_with fail
  go_region_held3 (fun w' => w'.cell? ⟨w.heap.size + 1, 0, none⟩ = some (.int .i64 bl) ∧ w'.cell? ⟨w.heap.size + 1, 1, none⟩ = some (.int .i64 bh)) (first | (simp [go_sem]; done) | (simp [go_sem, *]; done) | go_keep) (first | (go_at_call 17; refine (one_at _ _).mono ?_; rintro e w' ⟨rfl, rfl⟩) | (go_at_call 46; refine (any_is 11 _ _ (by decide) _).mono ?_; rintro e w1 ⟨rfl, hb1⟩; obtain ⟨hcl1, hfr1⟩ := old_cells hb1; have hs1 := hb1.size; (try simp only [drew_size] at hs1); (try simp at hs1); have hbw1 : Below w.heap.size w w1 := by ((refine Below.trans ?_ (hb1.mono ?_)) <;> repeat' first | exact Below.refl _ _ | refine Below.alloc ?_ ?_ _ | refine Below.setCell ?_ ?_ _ | refine Below.drew ?_ | (simp; done) | (simp; omega) | (simp [drew_size]; done) | (simp [drew_size]; omega) | omega)))
  all_goals go_wp2_with (first | (go_at_call 17; refine (one_at _ _).mono ?_; rintro e w' ⟨rfl, rfl⟩) | (go_at_call 46; refine (any_is 11 _ _ (by decide) _).mono ?_; rintro e w1 ⟨rfl, hb1⟩; obtain ⟨hcl1, hfr1⟩ := old_cells hb1; have hs1 := hb1.size; (try simp only [drew_size] at hs1); (try simp at hs1); have hbw1 : Below w.heap.size w w1 := by ((refine Below.trans ?_ (hb1.mono ?_)) <;> repeat' first | exact Below.refl _ _ | refine Below.alloc ?_ ?_ _ | refine Below.setCell ?_ ?_ _ | refine Below.drew ?_ | (simp; done) | (simp; omega) | (simp [drew_size]; done) | (simp [drew_size]; omega) | omega)))
  all_goals exact bodyPost_ret (v := .agg #[.int .i64 ((anyV 11 al ah).1), .int .i64 ((anyV 11 al ah).2)]) (by simp [results, Tryd.results12, go_sem, hcl1]) rfl ⟨rfl, by repeat' first | exact Below.refl _ _ | exact hbw1 | refine Below.alloc ?_ ?_ _ | refine Below.setCell ?_ ?_ _ | refine Below.drew ?_ | (simp; done) | (simp; omega) | (simp [drew_size]; done) | (simp [drew_size]; omega) | omega⟩
theorem bdo_12e (al ah bl : Int) (w : World) : Calls Tryd.prog 12 #[.int .i64 12, .agg #[.int .i64 al, .int .i64 ah], .agg #[.int .i64 bl, .int .i64 bl]] w fun e w' => e = .returned (.agg #[.int .i64 ((shV 12 al ah (bl % 64)).1), .int .i64 ((shV 12 al ah (bl % 64)).2)]) ∧ Below w.heap.size w w' := by
  have hx := and63 bl
  go_enter Tryd.func12, Tryd.ntmps12
  go_wp2_with fail
  go_region_held3 (fun w' => w'.cell? ⟨w.heap.size + 1, 0, none⟩ = some (.int .i64 bl) ∧ w'.cell? ⟨w.heap.size + 1, 1, none⟩ = some (.int .i64 bl)) (first | (simp [go_sem]; done) | (simp [go_sem, *]; done) | go_keep) (first | (go_at_call 17; refine (one_at _ _).mono ?_; rintro e w' ⟨rfl, rfl⟩) | (go_at_call 45; refine (shifted_is 12 _ _ _ (by decide) (Int.emod_nonneg _ (by decide)) (Int.emod_lt_of_pos _ (by decide)) _).mono ?_; rintro e w1 ⟨rfl, hb1⟩; obtain ⟨hcl1, hfr1⟩ := old_cells hb1; have hs1 := hb1.size; (try simp only [drew_size] at hs1); (try simp at hs1); have hbw1 : Below w.heap.size w w1 := by ((refine Below.trans ?_ (hb1.mono ?_)) <;> repeat' first | exact Below.refl _ _ | refine Below.alloc ?_ ?_ _ | refine Below.setCell ?_ ?_ _ | refine Below.drew ?_ | (simp; done) | (simp; omega) | (simp [drew_size]; done) | (simp [drew_size]; omega) | omega)))
  all_goals go_wp2_with (first | (go_at_call 17; refine (one_at _ _).mono ?_; rintro e w' ⟨rfl, rfl⟩) | (go_at_call 45; refine (shifted_is 12 _ _ _ (by decide) (Int.emod_nonneg _ (by decide)) (Int.emod_lt_of_pos _ (by decide)) _).mono ?_; rintro e w1 ⟨rfl, hb1⟩; obtain ⟨hcl1, hfr1⟩ := old_cells hb1; have hs1 := hb1.size; (try simp only [drew_size] at hs1); (try simp at hs1); have hbw1 : Below w.heap.size w w1 := by ((refine Below.trans ?_ (hb1.mono ?_)) <;> repeat' first | exact Below.refl _ _ | refine Below.alloc ?_ ?_ _ | refine Below.setCell ?_ ?_ _ | refine Below.drew ?_ | (simp; done) | (simp; omega) | (simp [drew_size]; done) | (simp [drew_size]; omega) | omega)))
  all_goals exact bodyPost_ret (v := .agg #[.int .i64 ((shV 12 al ah (bl % 64)).1), .int .i64 ((shV 12 al ah (bl % 64)).2)]) (by simp [results, Tryd.results12, go_sem, hcl1]) rfl ⟨rfl, by repeat' first | exact Below.refl _ _ | exact hbw1 | refine Below.alloc ?_ ?_ _ | refine Below.setCell ?_ ?_ _ | refine Below.drew ?_ | (simp; done) | (simp; omega) | (simp [drew_size]; done) | (simp [drew_size]; omega) | omega⟩
theorem bdo_12n (al ah bl bh : Int) (hne : ¬ bh = bl) (w : World) : Calls Tryd.prog 12 #[.int .i64 12, .agg #[.int .i64 al, .int .i64 ah], .agg #[.int .i64 bl, .int .i64 bh]] w fun e w' => e = .returned (.agg #[.int .i64 ((anyV 12 al ah).1), .int .i64 ((anyV 12 al ah).2)]) ∧ Below w.heap.size w w' := by
  go_enter Tryd.func12, Tryd.ntmps12
  go_wp2_with fail
  go_region_held3 (fun w' => w'.cell? ⟨w.heap.size + 1, 0, none⟩ = some (.int .i64 bl) ∧ w'.cell? ⟨w.heap.size + 1, 1, none⟩ = some (.int .i64 bh)) (first | (simp [go_sem]; done) | (simp [go_sem, *]; done) | go_keep) (first | (go_at_call 17; refine (one_at _ _).mono ?_; rintro e w' ⟨rfl, rfl⟩) | (go_at_call 46; refine (any_is 12 _ _ (by decide) _).mono ?_; rintro e w1 ⟨rfl, hb1⟩; obtain ⟨hcl1, hfr1⟩ := old_cells hb1; have hs1 := hb1.size; (try simp only [drew_size] at hs1); (try simp at hs1); have hbw1 : Below w.heap.size w w1 := by ((refine Below.trans ?_ (hb1.mono ?_)) <;> repeat' first | exact Below.refl _ _ | refine Below.alloc ?_ ?_ _ | refine Below.setCell ?_ ?_ _ | refine Below.drew ?_ | (simp; done) | (simp; omega) | (simp [drew_size]; done) | (simp [drew_size]; omega) | omega)))
  all_goals go_wp2_with (first | (go_at_call 17; refine (one_at _ _).mono ?_; rintro e w' ⟨rfl, rfl⟩) | (go_at_call 46; refine (any_is 12 _ _ (by decide) _).mono ?_; rintro e w1 ⟨rfl, hb1⟩; obtain ⟨hcl1, hfr1⟩ := old_cells hb1; have hs1 := hb1.size; (try simp only [drew_size] at hs1); (try simp at hs1); have hbw1 : Below w.heap.size w w1 := by ((refine Below.trans ?_ (hb1.mono ?_)) <;> repeat' first | exact Below.refl _ _ | refine Below.alloc ?_ ?_ _ | refine Below.setCell ?_ ?_ _ | refine Below.drew ?_ | (simp; done) | (simp; omega) | (simp [drew_size]; done) | (simp [drew_size]; omega) | omega)))
  all_goals exact bodyPost_ret (v := .agg #[.int .i64 ((anyV 12 al ah).1), .int .i64 ((anyV 12 al ah).2)]) (by simp [results, Tryd.results12, go_sem, hcl1]) rfl ⟨rfl, by repeat' first | exact Below.refl _ _ | exact hbw1 | refine Below.alloc ?_ ?_ _ | refine Below.setCell ?_ ?_ _ | refine Below.drew ?_ | (simp; done) | (simp; omega) | (simp [drew_size]; done) | (simp [drew_size]; omega) | omega⟩
theorem bdo_no (k al ah bl bh : Int) (hk : k < 1 ∨ 13 < k) (w : World) : Calls Tryd.prog 12 #[.int .i64 k, .agg #[.int .i64 al, .int .i64 ah], .agg #[.int .i64 bl, .int .i64 bh]] w fun e w' => e = .returned (.agg #[.int .i64 (-9223372036854775808), .int .i64 9223372036854775807]) ∧ Below w.heap.size w w' := by
  have e1 : (k == 1) = false := by simp; omega
  have e2 : (k == 2) = false := by simp; omega
  have e3 : (k == 3) = false := by simp; omega
  have e4 : (k == 4) = false := by simp; omega
  have e5 : (k == 5) = false := by simp; omega
  have e6 : (k == 6) = false := by simp; omega
  have e7 : (k == 7) = false := by simp; omega
  have e8 : (k == 8) = false := by simp; omega
  have e9 : (k == 9) = false := by simp; omega
  have e10 : (k == 10) = false := by simp; omega
  have e11 : (k == 11) = false := by simp; omega
  have e12 : (k == 12) = false := by simp; omega
  have e13 : (k == 13) = false := by simp; omega
  go_enter Tryd.func12, Tryd.ntmps12
  go_wp2_with (first | (go_at_call 25; refine (all_is _).mono ?_; rintro e w1 ⟨rfl, hb1⟩; obtain ⟨hcl1, hfr1⟩ := old_cells hb1; have hs1 := hb1.size; (try simp only [drew_size] at hs1); (try simp at hs1); have hbw1 : Below w.heap.size w w1 := by ((refine Below.trans ?_ (hb1.mono ?_)) <;> repeat' first | exact Below.refl _ _ | refine Below.alloc ?_ ?_ _ | refine Below.setCell ?_ ?_ _ | refine Below.drew ?_ | (simp; done) | (simp; omega) | (simp [drew_size]; done) | (simp [drew_size]; omega) | omega)))
  all_goals exact bodyPost_ret (v := .agg #[.int .i64 (-9223372036854775808), .int .i64 9223372036854775807]) (by simp [results, Tryd.results12, go_sem, hcl1]) rfl ⟨rfl, by repeat' first | exact Below.refl _ _ | exact hbw1 | refine Below.alloc ?_ ?_ _ | refine Below.setCell ?_ ?_ _ | refine Below.drew ?_ | (simp; done) | (simp; omega) | (simp [drew_size]; done) | (simp [drew_size]; omega) | omega⟩
theorem bdo_any (k al ah bl bh : Int) (pal : -9223372036854775808 ≤ al) (qal : al ≤ 9223372036854775807) (pah : -9223372036854775808 ≤ ah) (qah : ah ≤ 9223372036854775807) (pbl : -9223372036854775808 ≤ bl) (qbl : bl ≤ 9223372036854775807) (pbh : -9223372036854775808 ≤ bh) (qbh : bh ≤ 9223372036854775807) (oa : al ≤ ah) (ob : bl ≤ bh) (w : World) : Calls Tryd.prog 12 #[.int .i64 k, .agg #[.int .i64 al, .int .i64 ah], .agg #[.int .i64 bl, .int .i64 bh]] w fun e w' => e = .returned (.agg #[.int .i64 ((bdV k al ah bl bh).1), .int .i64 ((bdV k al ah bl bh).2)]) ∧ Below w.heap.size w w' := by
  by_cases hk : k < 1 ∨ 13 < k
  · rw [bdV_no al ah bl bh hk]
    exact bdo_no k al ah bl bh hk w
  · have h : k = 1 ∨ k = 2 ∨ k = 3 ∨ k = 4 ∨ k = 5 ∨ k = 6 ∨ k = 7 ∨ k = 8 ∨ k = 9 ∨ k = 10 ∨ k = 11 ∨ k = 12 ∨ k = 13 := by omega
    have s6 := sixBits_mod bl
    rcases h with rfl | rfl | rfl | rfl | rfl | rfl | rfl | rfl | rfl | rfl | rfl | rfl | rfl
    · rw [bdV_1]; exact bdo_1 al ah bl bh w
    · rw [bdV_2]; exact bdo_2 al ah bl bh pal qal pah qah pbl qbl pbh qbh w
    · rw [bdV_3]; exact bdo_3 al ah bl bh pal qal pah qah pbl qbl pbh qbh w
    · exact bdo_4 al ah bl bh w
    · exact bdo_5 al ah bl bh pal qal pah qah pbl qbl pbh qbh oa ob w
    · exact bdo_6 al ah bl bh qbh ob w
    · exact bdo_7 al ah bl bh w
    · rw [bdV_8]; exact bdo_8 al ah bl bh pal qal pah qah pbl qbl pbh qbh w
    · rw [bdV_9]; exact bdo_9 al ah bl bh pal qal pah qah pbl qbl pbh qbh w
    · rw [bdV_10]
      by_cases hb : bl = bh
      · rw [if_pos hb]
        subst hb
        exact bdo_10e al ah bl w
      · rw [if_neg hb]
        exact bdo_10n al ah bl bh (fun h => hb h.symm) w
    · rw [bdV_11]
      by_cases hb : bl = bh
      · rw [if_pos hb]
        subst hb
        have e : shV 11 al ah (bl % 64) = (if sixBits bl = 0 then (al, ah) else if 0 ≤ al then (al / 2 ^ sixBits bl, ah / 2 ^ sixBits bl) else (0, 2 ^ (64 - sixBits bl) - 1)) := by
          unfold shV
          rw [if_neg (by decide)]
          by_cases h0 : sixBits bl = 0
          · rw [if_pos h0, if_neg (by have : (bl % 64).toNat = 0 := h0; omega), rsh_none pal qal (by omega), rsh_none pah qah (by omega)]
          · rw [if_neg h0]
            have h0' : (bl % 64).toNat ≠ 0 := h0
            by_cases ha : 0 ≤ al
            · rw [if_pos ha, if_neg (by omega), rsh_ends ha qal, rsh_ends (by omega) qah, s6]
            · rw [if_neg ha, if_pos ⟨rfl, by omega, by omega⟩, rsh_ones (by omega), s6]
        rw [← e]
        exact bdo_11e al ah bl w
      · rw [if_neg hb]
        exact bdo_11n al ah bl bh (fun h => hb h.symm) w
    · rw [bdV_12]
      by_cases hb : bl = bh
      · rw [if_pos hb]
        subst hb
        have e : shV 12 al ah (bl % 64) = (al / 2 ^ sixBits bl, ah / 2 ^ sixBits bl) := by
          unfold shV
          rw [if_neg (by decide), if_neg (by omega), doesV_12, doesV_12, s6]
        rw [← e]
        exact bdo_12e al ah bl w
      · rw [if_neg hb]
        exact bdo_12n al ah bl bh (fun h => hb h.symm) w
    · rw [bdV_13]; exact bdo_13 al ah bl bh pal qal pah qah w
end Go.Proofs.YtllphbfhfmieaaaDoor
