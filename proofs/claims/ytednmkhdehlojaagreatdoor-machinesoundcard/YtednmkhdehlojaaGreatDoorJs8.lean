/-
  What bound.Does returns, by one function on integers; the world below is as it was. Conditions: the ends are numbers of 64 bits, the low end not above the high one. The frame of a method of package verify: its step in one box, its way in another. No conditions. What package verify's further, makes and reach return, of what is known of values. Conditions: the ends are of 64 bits, in order.
-/
import Derived.Test.YtednmkhdehlojaaGreatDoorJs7
import Derived.Test.YtednmkhdehlojaaGreatDoorJs6
import Derived.Deep.DeepCutAuto
import Derived.Deep.DeepMust
import Derived.BigQuiet
import Derived.Deep.QuietTactic
open Go.Value renaming int → vI
open Go.IntKind renaming i64 → vK
open Go.RowKit.Below renaming alloc → bA, setCell → bS, drew → bD, refl → bF
set_option maxHeartbeats 4000000
set_option maxRecDepth 1000000
namespace Go.Proofs.YtednmkhdehlojaaGreatDoor
open Go.ChangeShapes Go.WideShapes Go.ChangeAt Go.RowKit
attribute [local simp] drew_size

theorem bdo_1 (al ah bl bh : Int) (w : World) : Calls Tryz.prog 182 #[vI vK 1, .agg #[vI vK al, vI vK ah], .agg #[vI vK bl, vI vK bh]] w fun e w' => e = .returned (.agg #[vI vK bl, vI vK bh]) ∧ Below w.heap.size w w' := by
  go_enter Tryz.func182, Tryz.ntmps182
  go_wp2_with fail
  all_goals exact bodyPost_ret (v := .agg #[vI vK bl, vI vK bh]) (by simp [results, Tryz.results182, go_sem]) rfl ⟨rfl, by repeat' first | exact bF _ _ | refine bA ?_ ?_ _ | refine bS ?_ ?_ _ | refine bD ?_ | (simp; done) | (simp; omega) | (simp [drew_size]; done) | (simp [drew_size]; omega) | omega⟩
theorem bdo_2 (al ah bl bh : Int) (pal : -9223372036854775808 ≤ al) (qal : al ≤ 9223372036854775807) (pah : -9223372036854775808 ≤ ah) (qah : ah ≤ 9223372036854775807) (pbl : -9223372036854775808 ≤ bl) (qbl : bl ≤ 9223372036854775807) (pbh : -9223372036854775808 ≤ bh) (qbh : bh ≤ 9223372036854775807) (w : World) : Calls Tryz.prog 182 #[vI vK 2, .agg #[vI vK al, vI vK ah], .agg #[vI vK bl, vI vK bh]] w fun e w' => e = .returned (.agg #[vI vK ((fit2 (al + bl) (ah + bh)).1), vI vK ((fit2 (al + bl) (ah + bh)).2)]) ∧ Below w.heap.size w w' := by
  go_enter Tryz.func182, Tryz.ntmps182
  go_wp2_with fail
  go_region_held3 (fun w' => w'.cell? ⟨w.heap.size, 0, none⟩ = some (vI vK al) ∧ w'.cell? ⟨w.heap.size, 1, none⟩ = some (vI vK ah) ∧ w'.cell? ⟨w.heap.size + 1, 0, none⟩ = some (vI vK bl) ∧ w'.cell? ⟨w.heap.size + 1, 1, none⟩ = some (vI vK bh)) (first | (simp [go_sem]; done) | (simp [go_sem, *]; done) | go_keep) (first | (go_at_call 200; refine (plus_at _ _ ?_ ?_ ?_ ?_ _).mono ?_; omega; omega; omega; omega; rintro e w' ⟨rfl, rfl⟩) | (go_at_call 201; refine (minus_at _ _ ?_ ?_ ?_ ?_ _).mono ?_; omega; omega; omega; omega; rintro e w' ⟨rfl, rfl⟩) | (go_at_call 199; refine (between_fit _ _ _).mono ?_; rintro e w1 ⟨rfl, hb1⟩; obtain ⟨hcl1, hfr1⟩ := old_cells hb1; have hs1 := hb1.size; (try simp only [drew_size] at hs1); (try simp at hs1); have hbw1 : Below w.heap.size w w1 := by ((refine Below.trans ?_ (hb1.mono ?_)) <;> repeat' first | exact bF _ _ | refine bA ?_ ?_ _ | refine bS ?_ ?_ _ | refine bD ?_ | (simp; done) | (simp; omega) | (simp [drew_size]; done) | (simp [drew_size]; omega) | omega)))
  all_goals go_wp2_with (first | (go_at_call 200; refine (plus_at _ _ ?_ ?_ ?_ ?_ _).mono ?_; omega; omega; omega; omega; rintro e w' ⟨rfl, rfl⟩) | (go_at_call 201; refine (minus_at _ _ ?_ ?_ ?_ ?_ _).mono ?_; omega; omega; omega; omega; rintro e w' ⟨rfl, rfl⟩) | (go_at_call 199; refine (between_fit _ _ _).mono ?_; rintro e w1 ⟨rfl, hb1⟩; obtain ⟨hcl1, hfr1⟩ := old_cells hb1; have hs1 := hb1.size; (try simp only [drew_size] at hs1); (try simp at hs1); have hbw1 : Below w.heap.size w w1 := by ((refine Below.trans ?_ (hb1.mono ?_)) <;> repeat' first | exact bF _ _ | refine bA ?_ ?_ _ | refine bS ?_ ?_ _ | refine bD ?_ | (simp; done) | (simp; omega) | (simp [drew_size]; done) | (simp [drew_size]; omega) | omega)))
  all_goals exact bodyPost_ret (v := .agg #[vI vK ((fit2 (al + bl) (ah + bh)).1), vI vK ((fit2 (al + bl) (ah + bh)).2)]) (by simp [results, Tryz.results182, go_sem, hcl1]) rfl ⟨rfl, by repeat' first | exact bF _ _ | exact hbw1 | refine bA ?_ ?_ _ | refine bS ?_ ?_ _ | refine bD ?_ | (simp; done) | (simp; omega) | (simp [drew_size]; done) | (simp [drew_size]; omega) | omega⟩
theorem bdo_3 (al ah bl bh : Int) (pal : -9223372036854775808 ≤ al) (qal : al ≤ 9223372036854775807) (pah : -9223372036854775808 ≤ ah) (qah : ah ≤ 9223372036854775807) (pbl : -9223372036854775808 ≤ bl) (qbl : bl ≤ 9223372036854775807) (pbh : -9223372036854775808 ≤ bh) (qbh : bh ≤ 9223372036854775807) (w : World) : Calls Tryz.prog 182 #[vI vK 3, .agg #[vI vK al, vI vK ah], .agg #[vI vK bl, vI vK bh]] w fun e w' => e = .returned (.agg #[vI vK ((fit2 (al - bh) (ah - bl)).1), vI vK ((fit2 (al - bh) (ah - bl)).2)]) ∧ Below w.heap.size w w' := by
  go_enter Tryz.func182, Tryz.ntmps182
  go_wp2_with fail
  go_region_held3 (fun w' => w'.cell? ⟨w.heap.size, 0, none⟩ = some (vI vK al) ∧ w'.cell? ⟨w.heap.size, 1, none⟩ = some (vI vK ah) ∧ w'.cell? ⟨w.heap.size + 1, 0, none⟩ = some (vI vK bl) ∧ w'.cell? ⟨w.heap.size + 1, 1, none⟩ = some (vI vK bh)) (first | (simp [go_sem]; done) | (simp [go_sem, *]; done) | go_keep) (first | (go_at_call 200; refine (plus_at _ _ ?_ ?_ ?_ ?_ _).mono ?_; omega; omega; omega; omega; rintro e w' ⟨rfl, rfl⟩) | (go_at_call 201; refine (minus_at _ _ ?_ ?_ ?_ ?_ _).mono ?_; omega; omega; omega; omega; rintro e w' ⟨rfl, rfl⟩) | (go_at_call 199; refine (between_fit _ _ _).mono ?_; rintro e w1 ⟨rfl, hb1⟩; obtain ⟨hcl1, hfr1⟩ := old_cells hb1; have hs1 := hb1.size; (try simp only [drew_size] at hs1); (try simp at hs1); have hbw1 : Below w.heap.size w w1 := by ((refine Below.trans ?_ (hb1.mono ?_)) <;> repeat' first | exact bF _ _ | refine bA ?_ ?_ _ | refine bS ?_ ?_ _ | refine bD ?_ | (simp; done) | (simp; omega) | (simp [drew_size]; done) | (simp [drew_size]; omega) | omega)))
  all_goals go_wp2_with (first | (go_at_call 200; refine (plus_at _ _ ?_ ?_ ?_ ?_ _).mono ?_; omega; omega; omega; omega; rintro e w' ⟨rfl, rfl⟩) | (go_at_call 201; refine (minus_at _ _ ?_ ?_ ?_ ?_ _).mono ?_; omega; omega; omega; omega; rintro e w' ⟨rfl, rfl⟩) | (go_at_call 199; refine (between_fit _ _ _).mono ?_; rintro e w1 ⟨rfl, hb1⟩; obtain ⟨hcl1, hfr1⟩ := old_cells hb1; have hs1 := hb1.size; (try simp only [drew_size] at hs1); (try simp at hs1); have hbw1 : Below w.heap.size w w1 := by ((refine Below.trans ?_ (hb1.mono ?_)) <;> repeat' first | exact bF _ _ | refine bA ?_ ?_ _ | refine bS ?_ ?_ _ | refine bD ?_ | (simp; done) | (simp; omega) | (simp [drew_size]; done) | (simp [drew_size]; omega) | omega)))
  all_goals exact bodyPost_ret (v := .agg #[vI vK ((fit2 (al - bh) (ah - bl)).1), vI vK ((fit2 (al - bh) (ah - bl)).2)]) (by simp [results, Tryz.results182, go_sem, hcl1]) rfl ⟨rfl, by repeat' first | exact bF _ _ | exact hbw1 | refine bA ?_ ?_ _ | refine bS ?_ ?_ _ | refine bD ?_ | (simp; done) | (simp; omega) | (simp [drew_size]; done) | (simp [drew_size]; omega) | omega⟩
theorem bdo_13 (al ah bl bh : Int) (pal : -9223372036854775808 ≤ al) (qal : al ≤ 9223372036854775807) (pah : -9223372036854775808 ≤ ah) (qah : ah ≤ 9223372036854775807) (w : World) : Calls Tryz.prog 182 #[vI vK 13, .agg #[vI vK al, vI vK ah], .agg #[vI vK bl, vI vK bh]] w fun e w' => e = .returned (.agg #[vI vK ((fit2 (-ah) (-al)).1), vI vK ((fit2 (-ah) (-al)).2)]) ∧ Below w.heap.size w w' := by
  go_enter Tryz.func182, Tryz.ntmps182
  go_wp2_with fail
  go_region_held3 (fun w' => w'.cell? ⟨w.heap.size, 0, none⟩ = some (vI vK al) ∧ w'.cell? ⟨w.heap.size, 1, none⟩ = some (vI vK ah) ∧ w'.cell? ⟨w.heap.size + 1, 0, none⟩ = some (vI vK bl) ∧ w'.cell? ⟨w.heap.size + 1, 1, none⟩ = some (vI vK bh)) (first | (simp [go_sem]; done) | (simp [go_sem, *]; done) | go_keep) (first | (go_at_call 200; refine (plus_at _ _ ?_ ?_ ?_ ?_ _).mono ?_; omega; omega; omega; omega; rintro e w' ⟨rfl, rfl⟩) | (go_at_call 201; refine (minus_at _ _ ?_ ?_ ?_ ?_ _).mono ?_; omega; omega; omega; omega; rintro e w' ⟨rfl, rfl⟩) | (go_at_call 199; refine (between_fit _ _ _).mono ?_; rintro e w1 ⟨rfl, hb1⟩; obtain ⟨hcl1, hfr1⟩ := old_cells hb1; have hs1 := hb1.size; (try simp only [drew_size] at hs1); (try simp at hs1); have hbw1 : Below w.heap.size w w1 := by ((refine Below.trans ?_ (hb1.mono ?_)) <;> repeat' first | exact bF _ _ | refine bA ?_ ?_ _ | refine bS ?_ ?_ _ | refine bD ?_ | (simp; done) | (simp; omega) | (simp [drew_size]; done) | (simp [drew_size]; omega) | omega)))
  all_goals go_wp2_with (first | (go_at_call 200; refine (plus_at _ _ ?_ ?_ ?_ ?_ _).mono ?_; omega; omega; omega; omega; rintro e w' ⟨rfl, rfl⟩) | (go_at_call 201; refine (minus_at _ _ ?_ ?_ ?_ ?_ _).mono ?_; omega; omega; omega; omega; rintro e w' ⟨rfl, rfl⟩) | (go_at_call 199; refine (between_fit _ _ _).mono ?_; rintro e w1 ⟨rfl, hb1⟩; obtain ⟨hcl1, hfr1⟩ := old_cells hb1; have hs1 := hb1.size; (try simp only [drew_size] at hs1); (try simp at hs1); have hbw1 : Below w.heap.size w w1 := by ((refine Below.trans ?_ (hb1.mono ?_)) <;> repeat' first | exact bF _ _ | refine bA ?_ ?_ _ | refine bS ?_ ?_ _ | refine bD ?_ | (simp; done) | (simp; omega) | (simp [drew_size]; done) | (simp [drew_size]; omega) | omega)))
  all_goals exact bodyPost_ret (v := .agg #[vI vK ((fit2 (-ah) (-al)).1), vI vK ((fit2 (-ah) (-al)).2)]) (by simp [results, Tryz.results182, go_sem, hcl1]) rfl ⟨rfl, by repeat' first | exact bF _ _ | exact hbw1 | refine bA ?_ ?_ _ | refine bS ?_ ?_ _ | refine bD ?_ | (simp; done) | (simp; omega) | (simp [drew_size]; done) | (simp [drew_size]; omega) | omega⟩
theorem bdo_4 (al ah bl bh : Int) (w : World) : Calls Tryz.prog 182 #[vI vK 4, .agg #[vI vK al, vI vK ah], .agg #[vI vK bl, vI vK bh]] w fun e w' => e = .returned (.agg #[vI vK ((bdV 4 al ah bl bh).1), vI vK ((bdV 4 al ah bl bh).2)]) ∧ Below w.heap.size w w' := by
  go_enter Tryz.func182, Tryz.ntmps182
  go_wp2_with (first | (go_at_call 202; refine (product_is _ _ _ _ _).mono ?_; rintro e w1 ⟨rfl, hb1⟩; obtain ⟨hcl1, hfr1⟩ := old_cells hb1; have hs1 := hb1.size; (try simp only [drew_size] at hs1); (try simp at hs1); have hbw1 : Below w.heap.size w w1 := by ((refine Below.trans ?_ (hb1.mono ?_)) <;> repeat' first | exact bF _ _ | refine bA ?_ ?_ _ | refine bS ?_ ?_ _ | refine bD ?_ | (simp; done) | (simp; omega) | (simp [drew_size]; done) | (simp [drew_size]; omega) | omega)))
  all_goals exact bodyPost_ret (v := .agg #[vI vK ((bdV 4 al ah bl bh).1), vI vK ((bdV 4 al ah bl bh).2)]) (by simp [results, Tryz.results182, go_sem, hcl1]) rfl ⟨rfl, by repeat' first | exact bF _ _ | exact hbw1 | refine bA ?_ ?_ _ | refine bS ?_ ?_ _ | refine bD ?_ | (simp; done) | (simp; omega) | (simp [drew_size]; done) | (simp [drew_size]; omega) | omega⟩
theorem quotient_is (al ah bl bh : Int) (pal : -9223372036854775808 ≤ al) (qal : al ≤ 9223372036854775807) (pah : -9223372036854775808 ≤ ah) (qah : ah ≤ 9223372036854775807) (pbl : -9223372036854775808 ≤ bl) (qbl : bl ≤ 9223372036854775807) (pbh : -9223372036854775808 ≤ bh) (qbh : bh ≤ 9223372036854775807) (oa : al ≤ ah) (ob : bl ≤ bh) (w : World) : Calls Tryz.prog 203 #[.agg #[vI vK al, vI vK ah], .agg #[vI vK bl, vI vK bh]] w fun e w' => e = .returned (.agg #[vI vK ((bdV 5 al ah bl bh).1), vI vK ((bdV 5 al ah bl bh).2)]) ∧ Below w.heap.size w w' := by
  rw [bdV_5]
  by_cases ha : 0 ≤ al
  · by_cases hb : 0 ≤ bl
    · rw [if_pos ⟨ha, hb⟩]
      by_cases hz : 0 < bl
      · rw [if_pos hz, ← div_ends ha qal (by omega) qbh, ← div_ends (by omega) qah hz qbl]
        exact quotient_p al ah bl bh ha hz qbh qbl pbh w
      · rw [if_neg hz]
        exact quotient_z al ah bl bh ha hb (by omega) w
    · rw [if_neg (fun h => hb h.2)]
      exact quotient_nb al ah bl bh ha (by omega) w
  · rw [if_neg (fun h => ha h.1)]
    exact quotient_na al ah bl bh (by omega) w
theorem rest_is (al ah bl bh : Int) (qbh : bh ≤ 9223372036854775807) (ob : bl ≤ bh) (w : World) : Calls Tryz.prog 204 #[.agg #[vI vK al, vI vK ah], .agg #[vI vK bl, vI vK bh]] w fun e w' => e = .returned (.agg #[vI vK ((bdV 6 al ah bl bh).1), vI vK ((bdV 6 al ah bl bh).2)]) ∧ Below w.heap.size w w' := by
  rw [bdV_6]
  by_cases ha : 0 ≤ al
  · by_cases hb : 0 ≤ bl
    · rw [if_pos ⟨ha, hb⟩]
      by_cases hz : 0 < bl
      · rw [if_pos hz]
        exact rest_p al ah bl bh ha hz qbh ob w
      · rw [if_neg hz]
        exact rest_z al ah bl bh ha hb (by omega) w
    · rw [if_neg (fun h => hb h.2)]
      exact rest_nb al ah bl bh ha (by omega) w
  · rw [if_neg (fun h => ha h.1)]
    exact rest_na al ah bl bh (by omega) w
theorem common_is (al ah bl bh : Int) (w : World) : Calls Tryz.prog 205 #[.agg #[vI vK al, vI vK ah], .agg #[vI vK bl, vI vK bh]] w fun e w' => e = .returned (.agg #[vI vK ((bdV 7 al ah bl bh).1), vI vK ((bdV 7 al ah bl bh).2)]) ∧ Below w.heap.size w w' := by
  rw [bdV_7]
  by_cases ha : 0 ≤ al
  · rw [if_pos ha]
    by_cases hb : 0 ≤ bl
    · rw [if_pos hb]
      exact common_pp al ah bl bh ha hb w
    · rw [if_neg hb]
      exact common_pn al ah bl bh ha (by omega) w
  · rw [if_neg ha]
    by_cases hb : 0 ≤ bl
    · rw [if_pos hb]
      exact common_np al ah bl bh (by omega) hb w
    · rw [if_neg hb]
      exact common_nn al ah bl bh (by omega) (by omega) w
theorem bdo_5 (al ah bl bh : Int) (pal : -9223372036854775808 ≤ al) (qal : al ≤ 9223372036854775807) (pah : -9223372036854775808 ≤ ah) (qah : ah ≤ 9223372036854775807) (pbl : -9223372036854775808 ≤ bl) (qbl : bl ≤ 9223372036854775807) (pbh : -9223372036854775808 ≤ bh) (qbh : bh ≤ 9223372036854775807) (oa : al ≤ ah) (ob : bl ≤ bh) (w : World) : Calls Tryz.prog 182 #[vI vK 5, .agg #[vI vK al, vI vK ah], .agg #[vI vK bl, vI vK bh]] w fun e w' => e = .returned (.agg #[vI vK ((bdV 5 al ah bl bh).1), vI vK ((bdV 5 al ah bl bh).2)]) ∧ Below w.heap.size w w' := by
  go_enter Tryz.func182, Tryz.ntmps182
  go_wp2_with (first | (go_at_call 203; refine (quotient_is _ _ _ _ pal qal pah qah pbl qbl pbh qbh oa ob _).mono ?_; rintro e w1 ⟨rfl, hb1⟩; obtain ⟨hcl1, hfr1⟩ := old_cells hb1; have hs1 := hb1.size; (try simp only [drew_size] at hs1); (try simp at hs1); have hbw1 : Below w.heap.size w w1 := by ((refine Below.trans ?_ (hb1.mono ?_)) <;> repeat' first | exact bF _ _ | refine bA ?_ ?_ _ | refine bS ?_ ?_ _ | refine bD ?_ | (simp; done) | (simp; omega) | (simp [drew_size]; done) | (simp [drew_size]; omega) | omega)))
  all_goals exact bodyPost_ret (v := .agg #[vI vK ((bdV 5 al ah bl bh).1), vI vK ((bdV 5 al ah bl bh).2)]) (by simp [results, Tryz.results182, go_sem, hcl1]) rfl ⟨rfl, by repeat' first | exact bF _ _ | exact hbw1 | refine bA ?_ ?_ _ | refine bS ?_ ?_ _ | refine bD ?_ | (simp; done) | (simp; omega) | (simp [drew_size]; done) | (simp [drew_size]; omega) | omega⟩
theorem bdo_6 (al ah bl bh : Int) (qbh : bh ≤ 9223372036854775807) (ob : bl ≤ bh) (w : World) : Calls Tryz.prog 182 #[vI vK 6, .agg #[vI vK al, vI vK ah], .agg #[vI vK bl, vI vK bh]] w fun e w' => e = .returned (.agg #[vI vK ((bdV 6 al ah bl bh).1), vI vK ((bdV 6 al ah bl bh).2)]) ∧ Below w.heap.size w w' := by
  go_enter Tryz.func182, Tryz.ntmps182
  go_wp2_with (first | (go_at_call 204; refine (rest_is _ _ _ _ qbh ob _).mono ?_; rintro e w1 ⟨rfl, hb1⟩; obtain ⟨hcl1, hfr1⟩ := old_cells hb1; have hs1 := hb1.size; (try simp only [drew_size] at hs1); (try simp at hs1); have hbw1 : Below w.heap.size w w1 := by ((refine Below.trans ?_ (hb1.mono ?_)) <;> repeat' first | exact bF _ _ | refine bA ?_ ?_ _ | refine bS ?_ ?_ _ | refine bD ?_ | (simp; done) | (simp; omega) | (simp [drew_size]; done) | (simp [drew_size]; omega) | omega)))
  all_goals exact bodyPost_ret (v := .agg #[vI vK ((bdV 6 al ah bl bh).1), vI vK ((bdV 6 al ah bl bh).2)]) (by simp [results, Tryz.results182, go_sem, hcl1]) rfl ⟨rfl, by repeat' first | exact bF _ _ | exact hbw1 | refine bA ?_ ?_ _ | refine bS ?_ ?_ _ | refine bD ?_ | (simp; done) | (simp; omega) | (simp [drew_size]; done) | (simp [drew_size]; omega) | omega⟩
theorem bdo_7 (al ah bl bh : Int) (w : World) : Calls Tryz.prog 182 #[vI vK 7, .agg #[vI vK al, vI vK ah], .agg #[vI vK bl, vI vK bh]] w fun e w' => e = .returned (.agg #[vI vK ((bdV 7 al ah bl bh).1), vI vK ((bdV 7 al ah bl bh).2)]) ∧ Below w.heap.size w w' := by
  go_enter Tryz.func182, Tryz.ntmps182
  go_wp2_with (first | (go_at_call 205; refine (common_is _ _ _ _ _).mono ?_; rintro e w1 ⟨rfl, hb1⟩; obtain ⟨hcl1, hfr1⟩ := old_cells hb1; have hs1 := hb1.size; (try simp only [drew_size] at hs1); (try simp at hs1); have hbw1 : Below w.heap.size w w1 := by ((refine Below.trans ?_ (hb1.mono ?_)) <;> repeat' first | exact bF _ _ | refine bA ?_ ?_ _ | refine bS ?_ ?_ _ | refine bD ?_ | (simp; done) | (simp; omega) | (simp [drew_size]; done) | (simp [drew_size]; omega) | omega)))
  all_goals exact bodyPost_ret (v := .agg #[vI vK ((bdV 7 al ah bl bh).1), vI vK ((bdV 7 al ah bl bh).2)]) (by simp [results, Tryz.results182, go_sem, hcl1]) rfl ⟨rfl, by repeat' first | exact bF _ _ | exact hbw1 | refine bA ?_ ?_ _ | refine bS ?_ ?_ _ | refine bD ?_ | (simp; done) | (simp; omega) | (simp [drew_size]; done) | (simp [drew_size]; omega) | omega⟩
theorem filled_is (lo al ah bl bh : Int) (pal : -9223372036854775808 ≤ al) (qal : al ≤ 9223372036854775807) (pah : -9223372036854775808 ≤ ah) (qah : ah ≤ 9223372036854775807) (pbl : -9223372036854775808 ≤ bl) (qbl : bl ≤ 9223372036854775807) (pbh : -9223372036854775808 ≤ bh) (qbh : bh ≤ 9223372036854775807) (w : World) : Calls Tryz.prog 206 #[vI vK lo, .agg #[vI vK al, vI vK ah], .agg #[vI vK bl, vI vK bh]] w fun e w' => e = .returned (.agg #[vI vK (((if 0 ≤ al ∧ 0 ≤ bl then (lo, fillV (max ah bh)) else (-9223372036854775808, 9223372036854775807) : Int × Int)).1), vI vK (((if 0 ≤ al ∧ 0 ≤ bl then (lo, fillV (max ah bh)) else (-9223372036854775808, 9223372036854775807) : Int × Int)).2)]) ∧ Below w.heap.size w w' := by
  by_cases ha : 0 ≤ al
  · by_cases hb : 0 ≤ bl
    · rw [if_pos ⟨ha, hb⟩]
      exact filled_pp lo al ah bl bh ha hb (by omega) (by omega) w
    · rw [if_neg (fun h => hb h.2)]
      exact filled_nb lo al ah bl bh ha (by omega) w
  · rw [if_neg (fun h => ha h.1)]
    exact filled_na lo al ah bl bh (by omega) w
def filV (lo al ah bl bh : Int) : Int × Int := if 0 ≤ al ∧ 0 ≤ bl then (lo, fillV (max ah bh)) else (-9223372036854775808, 9223372036854775807)
theorem filled_as (lo al ah bl bh : Int) (pal : -9223372036854775808 ≤ al) (qal : al ≤ 9223372036854775807) (pah : -9223372036854775808 ≤ ah) (qah : ah ≤ 9223372036854775807) (pbl : -9223372036854775808 ≤ bl) (qbl : bl ≤ 9223372036854775807) (pbh : -9223372036854775808 ≤ bh) (qbh : bh ≤ 9223372036854775807) (w : World) : Calls Tryz.prog 206 #[vI vK lo, .agg #[vI vK al, vI vK ah], .agg #[vI vK bl, vI vK bh]] w fun e w' => e = .returned (.agg #[vI vK ((filV lo al ah bl bh).1), vI vK ((filV lo al ah bl bh).2)]) ∧ Below w.heap.size w w' := filled_is lo al ah bl bh pal qal pah qah pbl qbl pbh qbh w
theorem bdo_8 (al ah bl bh : Int) (pal : -9223372036854775808 ≤ al) (qal : al ≤ 9223372036854775807) (pah : -9223372036854775808 ≤ ah) (qah : ah ≤ 9223372036854775807) (pbl : -9223372036854775808 ≤ bl) (qbl : bl ≤ 9223372036854775807) (pbh : -9223372036854775808 ≤ bh) (qbh : bh ≤ 9223372036854775807) (w : World) : Calls Tryz.prog 182 #[vI vK 8, .agg #[vI vK al, vI vK ah], .agg #[vI vK bl, vI vK bh]] w fun e w' => e = .returned (.agg #[vI vK ((filV (max al bl) al ah bl bh).1), vI vK ((filV (max al bl) al ah bl bh).2)]) ∧ Below w.heap.size w w' := by
  go_enter Tryz.func182, Tryz.ntmps182
  go_wp2_with (first | (go_at_call 206; refine (filled_as _ _ _ _ _ pal qal pah qah pbl qbl pbh qbh _).mono ?_; rintro e w1 ⟨rfl, hb1⟩; obtain ⟨hcl1, hfr1⟩ := old_cells hb1; have hs1 := hb1.size; (try simp only [drew_size] at hs1); (try simp at hs1); have hbw1 : Below w.heap.size w w1 := by ((refine Below.trans ?_ (hb1.mono ?_)) <;> repeat' first | exact bF _ _ | refine bA ?_ ?_ _ | refine bS ?_ ?_ _ | refine bD ?_ | (simp; done) | (simp; omega) | (simp [drew_size]; done) | (simp [drew_size]; omega) | omega)))
  all_goals exact bodyPost_ret (v := .agg #[vI vK ((filV (max al bl) al ah bl bh).1), vI vK ((filV (max al bl) al ah bl bh).2)]) (by simp [results, Tryz.results182, go_sem, hcl1]) rfl ⟨rfl, by repeat' first | exact bF _ _ | exact hbw1 | refine bA ?_ ?_ _ | refine bS ?_ ?_ _ | refine bD ?_ | (simp; done) | (simp; omega) | (simp [drew_size]; done) | (simp [drew_size]; omega) | omega⟩
theorem bdo_9 (al ah bl bh : Int) (pal : -9223372036854775808 ≤ al) (qal : al ≤ 9223372036854775807) (pah : -9223372036854775808 ≤ ah) (qah : ah ≤ 9223372036854775807) (pbl : -9223372036854775808 ≤ bl) (qbl : bl ≤ 9223372036854775807) (pbh : -9223372036854775808 ≤ bh) (qbh : bh ≤ 9223372036854775807) (w : World) : Calls Tryz.prog 182 #[vI vK 9, .agg #[vI vK al, vI vK ah], .agg #[vI vK bl, vI vK bh]] w fun e w' => e = .returned (.agg #[vI vK ((filV 0 al ah bl bh).1), vI vK ((filV 0 al ah bl bh).2)]) ∧ Below w.heap.size w w' := by
  go_enter Tryz.func182, Tryz.ntmps182
  go_wp2_with (first | (go_at_call 206; refine (filled_as _ _ _ _ _ pal qal pah qah pbl qbl pbh qbh _).mono ?_; rintro e w1 ⟨rfl, hb1⟩; obtain ⟨hcl1, hfr1⟩ := old_cells hb1; have hs1 := hb1.size; (try simp only [drew_size] at hs1); (try simp at hs1); have hbw1 : Below w.heap.size w w1 := by ((refine Below.trans ?_ (hb1.mono ?_)) <;> repeat' first | exact bF _ _ | refine bA ?_ ?_ _ | refine bS ?_ ?_ _ | refine bD ?_ | (simp; done) | (simp; omega) | (simp [drew_size]; done) | (simp [drew_size]; omega) | omega)))
  all_goals exact bodyPost_ret (v := .agg #[vI vK ((filV 0 al ah bl bh).1), vI vK ((filV 0 al ah bl bh).2)]) (by simp [results, Tryz.results182, go_sem, hcl1]) rfl ⟨rfl, by repeat' first | exact bF _ _ | exact hbw1 | refine bA ?_ ?_ _ | refine bS ?_ ?_ _ | refine bD ?_ | (simp; done) | (simp; omega) | (simp [drew_size]; done) | (simp [drew_size]; omega) | omega⟩
def shV (c al ah k : Int) : Int × Int :=
  if c = 10 then fit2 (al * 2 ^ k.toNat) (ah * 2 ^ k.toNat) else if c = 11 ∧ 0 < k ∧ al < 0 then (0, doesV 11 (-1) k) else (doesV c al k, doesV c ah k)
def anyV (c al ah : Int) : Int × Int :=
  if c = 10 then (-9223372036854775808, 9223372036854775807) else if 0 ≤ al then (0, ah) else if c = 11 then (-9223372036854775808, 9223372036854775807) else if ah < 0 then (al, -1) else (al, ah)

theorem shifted_is (c al ah k : Int) (hc : c = 10 ∨ c = 11 ∨ c = 12) (h0 : 0 ≤ k) (h1 : k < 64) (w : World) : Calls Tryz.prog 207 #[vI vK c, .agg #[vI vK al, vI vK ah], vI vK k] w fun e w' => e = .returned (.agg #[vI vK ((shV c al ah k).1), vI vK ((shV c al ah k).2)]) ∧ Below w.heap.size w w' := by
  rcases hc with rfl | rfl | rfl
  · exact shifted_10 al ah k h0 h1 w
  · by_cases hk : 0 < k
    · by_cases ha : al < 0
      · have e : shV 11 al ah k = (0, doesV 11 (-1) k) := by unfold shV; rw [if_neg (by decide), if_pos ⟨rfl, hk, ha⟩]
        rw [e]
        exact shifted_11n al ah k h0 h1 hk ha w
      · have e : shV 11 al ah k = (doesV 11 al k, doesV 11 ah k) := by unfold shV; rw [if_neg (by decide), if_neg (fun h => ha h.2.2)]
        rw [e]
        exact shifted_11p al ah k h0 h1 hk (by omega) w
    · have e : shV 11 al ah k = (doesV 11 al k, doesV 11 ah k) := by unfold shV; rw [if_neg (by decide), if_neg (fun h => hk h.2.1)]
      rw [e]
      exact shifted_11z al ah k h0 h1 (by omega) w
  · exact shifted_12 al ah k h0 h1 w
theorem any_is (c al ah : Int) (hc : c = 10 ∨ c = 11 ∨ c = 12) (w : World) : Calls Tryz.prog 208 #[vI vK c, .agg #[vI vK al, vI vK ah]] w fun e w' => e = .returned (.agg #[vI vK ((anyV c al ah).1), vI vK ((anyV c al ah).2)]) ∧ Below w.heap.size w w' := by
  by_cases h10 : c = 10
  · subst h10
    exact any_10 al ah w
  · by_cases ha : 0 ≤ al
    · have e : anyV c al ah = (0, ah) := by unfold anyV; rw [if_neg h10, if_pos ha]
      rw [e]
      exact any_p c al ah (by omega) ha w
    · by_cases h11 : c = 11
      · subst h11
        have e : anyV 11 al ah = (-9223372036854775808, 9223372036854775807) := by unfold anyV; rw [if_neg (by decide), if_neg ha, if_pos rfl]
        rw [e]
        exact any_11 al ah (by omega) w
      · obtain rfl : c = 12 := by omega
        by_cases hh : ah < 0
        · have e : anyV 12 al ah = (al, -1) := by unfold anyV; rw [if_neg (by decide), if_neg ha, if_neg (by decide), if_pos hh]
          rw [e]
          exact any_12n al ah (by omega) hh w
        · have e : anyV 12 al ah = (al, ah) := by unfold anyV; rw [if_neg (by decide), if_neg ha, if_neg (by decide), if_neg hh]
          rw [e]
          exact any_12 al ah (by omega) (by omega) w
theorem bdo_10e (al ah bl : Int) (w : World) : Calls Tryz.prog 182 #[vI vK 10, .agg #[vI vK al, vI vK ah], .agg #[vI vK bl, vI vK bl]] w fun e w' => e = .returned (.agg #[vI vK ((shV 10 al ah (bl % 64)).1), vI vK ((shV 10 al ah (bl % 64)).2)]) ∧ Below w.heap.size w w' := by
  have hx := and63 bl
  go_enter Tryz.func182, Tryz.ntmps182
  go_wp2_with fail
  go_region_held3 (fun w' => w'.cell? ⟨w.heap.size + 1, 0, none⟩ = some (vI vK bl) ∧ w'.cell? ⟨w.heap.size + 1, 1, none⟩ = some (vI vK bl)) (first | (simp [go_sem]; done) | (simp [go_sem, *]; done) | go_keep) (first | (go_at_call 37; refine (one_at _ _).mono ?_; rintro e w' ⟨rfl, rfl⟩) | (go_at_call 207; refine (shifted_is 10 _ _ _ (by decide) (Int.emod_nonneg _ (by decide)) (Int.emod_lt_of_pos _ (by decide)) _).mono ?_; rintro e w1 ⟨rfl, hb1⟩; obtain ⟨hcl1, hfr1⟩ := old_cells hb1; have hs1 := hb1.size; (try simp only [drew_size] at hs1); (try simp at hs1); have hbw1 : Below w.heap.size w w1 := by ((refine Below.trans ?_ (hb1.mono ?_)) <;> repeat' first | exact bF _ _ | refine bA ?_ ?_ _ | refine bS ?_ ?_ _ | refine bD ?_ | (simp; done) | (simp; omega) | (simp [drew_size]; done) | (simp [drew_size]; omega) | omega)))
  all_goals go_wp2_with (first | (go_at_call 37; refine (one_at _ _).mono ?_; rintro e w' ⟨rfl, rfl⟩) | (go_at_call 207; refine (shifted_is 10 _ _ _ (by decide) (Int.emod_nonneg _ (by decide)) (Int.emod_lt_of_pos _ (by decide)) _).mono ?_; rintro e w1 ⟨rfl, hb1⟩; obtain ⟨hcl1, hfr1⟩ := old_cells hb1; have hs1 := hb1.size; (try simp only [drew_size] at hs1); (try simp at hs1); have hbw1 : Below w.heap.size w w1 := by ((refine Below.trans ?_ (hb1.mono ?_)) <;> repeat' first | exact bF _ _ | refine bA ?_ ?_ _ | refine bS ?_ ?_ _ | refine bD ?_ | (simp; done) | (simp; omega) | (simp [drew_size]; done) | (simp [drew_size]; omega) | omega)))
  all_goals exact bodyPost_ret (v := .agg #[vI vK ((shV 10 al ah (bl % 64)).1), vI vK ((shV 10 al ah (bl % 64)).2)]) (by simp [results, Tryz.results182, go_sem, hcl1]) rfl ⟨rfl, by repeat' first | exact bF _ _ | exact hbw1 | refine bA ?_ ?_ _ | refine bS ?_ ?_ _ | refine bD ?_ | (simp; done) | (simp; omega) | (simp [drew_size]; done) | (simp [drew_size]; omega) | omega⟩
theorem bdo_10n (al ah bl bh : Int) (hne : ¬ bh = bl) (w : World) : Calls Tryz.prog 182 #[vI vK 10, .agg #[vI vK al, vI vK ah], .agg #[vI vK bl, vI vK bh]] w fun e w' => e = .returned (.agg #[vI vK ((anyV 10 al ah).1), vI vK ((anyV 10 al ah).2)]) ∧ Below w.heap.size w w' := by
  go_enter Tryz.func182, Tryz.ntmps182
  go_wp2_with fail
  go_region_held3 (fun w' => w'.cell? ⟨w.heap.size + 1, 0, none⟩ = some (vI vK bl) ∧ w'.cell? ⟨w.heap.size + 1, 1, none⟩ = some (vI vK bh)) (first | (simp [go_sem]; done) | (simp [go_sem, *]; done) | go_keep) (first | (go_at_call 37; refine (one_at _ _).mono ?_; rintro e w' ⟨rfl, rfl⟩) | (go_at_call 208; refine (any_is 10 _ _ (by decide) _).mono ?_; rintro e w1 ⟨rfl, hb1⟩; obtain ⟨hcl1, hfr1⟩ := old_cells hb1; have hs1 := hb1.size; (try simp only [drew_size] at hs1); (try simp at hs1); have hbw1 : Below w.heap.size w w1 := by ((refine Below.trans ?_ (hb1.mono ?_)) <;> repeat' first | exact bF _ _ | refine bA ?_ ?_ _ | refine bS ?_ ?_ _ | refine bD ?_ | (simp; done) | (simp; omega) | (simp [drew_size]; done) | (simp [drew_size]; omega) | omega)))
  all_goals go_wp2_with (first | (go_at_call 37; refine (one_at _ _).mono ?_; rintro e w' ⟨rfl, rfl⟩) | (go_at_call 208; refine (any_is 10 _ _ (by decide) _).mono ?_; rintro e w1 ⟨rfl, hb1⟩; obtain ⟨hcl1, hfr1⟩ := old_cells hb1; have hs1 := hb1.size; (try simp only [drew_size] at hs1); (try simp at hs1); have hbw1 : Below w.heap.size w w1 := by ((refine Below.trans ?_ (hb1.mono ?_)) <;> repeat' first | exact bF _ _ | refine bA ?_ ?_ _ | refine bS ?_ ?_ _ | refine bD ?_ | (simp; done) | (simp; omega) | (simp [drew_size]; done) | (simp [drew_size]; omega) | omega)))
  all_goals exact bodyPost_ret (v := .agg #[vI vK ((anyV 10 al ah).1), vI vK ((anyV 10 al ah).2)]) (by simp [results, Tryz.results182, go_sem, hcl1]) rfl ⟨rfl, by repeat' first | exact bF _ _ | exact hbw1 | refine bA ?_ ?_ _ | refine bS ?_ ?_ _ | refine bD ?_ | (simp; done) | (simp; omega) | (simp [drew_size]; done) | (simp [drew_size]; omega) | omega⟩
theorem bdo_11e (al ah bl : Int) (w : World) : Calls Tryz.prog 182 #[vI vK 11, .agg #[vI vK al, vI vK ah], .agg #[vI vK bl, vI vK bl]] w fun e w' => e = .returned (.agg #[vI vK ((shV 11 al ah (bl % 64)).1), vI vK ((shV 11 al ah (bl % 64)).2)]) ∧ Below w.heap.size w w' := by
  have hx := and63 bl
  go_enter Tryz.func182, Tryz.ntmps182
  go_wp2_with fail
  go_region_held3 (fun w' => w'.cell? ⟨w.heap.size + 1, 0, none⟩ = some (vI vK bl) ∧ w'.cell? ⟨w.heap.size + 1, 1, none⟩ = some (vI vK bl)) (first | (simp [go_sem]; done) | (simp [go_sem, *]; done) | go_keep) (first | (go_at_call 37; refine (one_at _ _).mono ?_; rintro e w' ⟨rfl, rfl⟩) | (go_at_call 207; refine (shifted_is 11 _ _ _ (by decide) (Int.emod_nonneg _ (by decide)) (Int.emod_lt_of_pos _ (by decide)) _).mono ?_; rintro e w1 ⟨rfl, hb1⟩; obtain ⟨hcl1, hfr1⟩ := old_cells hb1; have hs1 := hb1.size; (try simp only [drew_size] at hs1); (try simp at hs1); have hbw1 : Below w.heap.size w w1 := by ((refine Below.trans ?_ (hb1.mono ?_)) <;> repeat' first | exact bF _ _ | refine bA ?_ ?_ _ | refine bS ?_ ?_ _ | refine bD ?_ | (simp; done) | (simp; omega) | (simp [drew_size]; done) | (simp [drew_size]; omega) | omega)))
  all_goals go_wp2_with (first | (go_at_call 37; refine (one_at _ _).mono ?_; rintro e w' ⟨rfl, rfl⟩) | (go_at_call 207; refine (shifted_is 11 _ _ _ (by decide) (Int.emod_nonneg _ (by decide)) (Int.emod_lt_of_pos _ (by decide)) _).mono ?_; rintro e w1 ⟨rfl, hb1⟩; obtain ⟨hcl1, hfr1⟩ := old_cells hb1; have hs1 := hb1.size; (try simp only [drew_size] at hs1); (try simp at hs1); have hbw1 : Below w.heap.size w w1 := by ((refine Below.trans ?_ (hb1.mono ?_)) <;> repeat' first | exact bF _ _ | refine bA ?_ ?_ _ | refine bS ?_ ?_ _ | refine bD ?_ | (simp; done) | (simp; omega) | (simp [drew_size]; done) | (simp [drew_size]; omega) | omega)))
  all_goals exact bodyPost_ret (v := .agg #[vI vK ((shV 11 al ah (bl % 64)).1), vI vK ((shV 11 al ah (bl % 64)).2)]) (by simp [results, Tryz.results182, go_sem, hcl1]) rfl ⟨rfl, by repeat' first | exact bF _ _ | exact hbw1 | refine bA ?_ ?_ _ | refine bS ?_ ?_ _ | refine bD ?_ | (simp; done) | (simp; omega) | (simp [drew_size]; done) | (simp [drew_size]; omega) | omega⟩
theorem bdo_11n (al ah bl bh : Int) (hne : ¬ bh = bl) (w : World) : Calls Tryz.prog 182 #[vI vK 11, .agg #[vI vK al, vI vK ah], .agg #[vI vK bl, vI vK bh]] w fun e w' => e = .returned (.agg #[vI vK ((anyV 11 al ah).1), vI vK ((anyV 11 al ah).2)]) ∧ Below w.heap.size w w' := by
  go_enter Tryz.func182, Tryz.ntmps182
  go_wp2_with fail
  go_region_held3 (fun w' => w'.cell? ⟨w.heap.size + 1, 0, none⟩ = some (vI vK bl) ∧ w'.cell? ⟨w.heap.size + 1, 1, none⟩ = some (vI vK bh)) (first | (simp [go_sem]; done) | (simp [go_sem, *]; done) | go_keep) (first | (go_at_call 37; refine (one_at _ _).mono ?_; rintro e w' ⟨rfl, rfl⟩) | (go_at_call 208; refine (any_is 11 _ _ (by decide) _).mono ?_; rintro e w1 ⟨rfl, hb1⟩; obtain ⟨hcl1, hfr1⟩ := old_cells hb1; have hs1 := hb1.size; (try simp only [drew_size] at hs1); (try simp at hs1); have hbw1 : Below w.heap.size w w1 := by ((refine Below.trans ?_ (hb1.mono ?_)) <;> repeat' first | exact bF _ _ | refine bA ?_ ?_ _ | refine bS ?_ ?_ _ | refine bD ?_ | (simp; done) | (simp; omega) | (simp [drew_size]; done) | (simp [drew_size]; omega) | omega)))
  all_goals go_wp2_with (first | (go_at_call 37; refine (one_at _ _).mono ?_; rintro e w' ⟨rfl, rfl⟩) | (go_at_call 208; refine (any_is 11 _ _ (by decide) _).mono ?_; rintro e w1 ⟨rfl, hb1⟩; obtain ⟨hcl1, hfr1⟩ := old_cells hb1; have hs1 := hb1.size; (try simp only [drew_size] at hs1); (try simp at hs1); have hbw1 : Below w.heap.size w w1 := by ((refine Below.trans ?_ (hb1.mono ?_)) <;> repeat' first | exact bF _ _ | refine bA ?_ ?_ _ | refine bS ?_ ?_ _ | refine bD ?_ | (simp; done) | (simp; omega) | (simp [drew_size]; done) | (simp [drew_size]; omega) | omega)))
  all_goals exact bodyPost_ret (v := .agg #[vI vK ((anyV 11 al ah).1), vI vK ((anyV 11 al ah).2)]) (by simp [results, Tryz.results182, go_sem, hcl1]) rfl ⟨rfl, by repeat' first | exact bF _ _ | exact hbw1 | refine bA ?_ ?_ _ | refine bS ?_ ?_ _ | refine bD ?_ | (simp; done) | (simp; omega) | (simp [drew_size]; done) | (simp [drew_size]; omega) | omega⟩
theorem bdo_12e (al ah bl : Int) (w : World) : Calls Tryz.prog 182 #[vI vK 12, .agg #[vI vK al, vI vK ah], .agg #[vI vK bl, vI vK bl]] w fun e w' => e = .returned (.agg #[vI vK ((shV 12 al ah (bl % 64)).1), vI vK ((shV 12 al ah (bl % 64)).2)]) ∧ Below w.heap.size w w' := by
  have hx := and63 bl
  go_enter Tryz.func182, Tryz.ntmps182
  go_wp2_with fail
  go_region_held3 (fun w' => w'.cell? ⟨w.heap.size + 1, 0, none⟩ = some (vI vK bl) ∧ w'.cell? ⟨w.heap.size + 1, 1, none⟩ = some (vI vK bl)) (first | (simp [go_sem]; done) | (simp [go_sem, *]; done) | go_keep) (first | (go_at_call 37; refine (one_at _ _).mono ?_; rintro e w' ⟨rfl, rfl⟩) | (go_at_call 207; refine (shifted_is 12 _ _ _ (by decide) (Int.emod_nonneg _ (by decide)) (Int.emod_lt_of_pos _ (by decide)) _).mono ?_; rintro e w1 ⟨rfl, hb1⟩; obtain ⟨hcl1, hfr1⟩ := old_cells hb1; have hs1 := hb1.size; (try simp only [drew_size] at hs1); (try simp at hs1); have hbw1 : Below w.heap.size w w1 := by ((refine Below.trans ?_ (hb1.mono ?_)) <;> repeat' first | exact bF _ _ | refine bA ?_ ?_ _ | refine bS ?_ ?_ _ | refine bD ?_ | (simp; done) | (simp; omega) | (simp [drew_size]; done) | (simp [drew_size]; omega) | omega)))
  all_goals go_wp2_with (first | (go_at_call 37; refine (one_at _ _).mono ?_; rintro e w' ⟨rfl, rfl⟩) | (go_at_call 207; refine (shifted_is 12 _ _ _ (by decide) (Int.emod_nonneg _ (by decide)) (Int.emod_lt_of_pos _ (by decide)) _).mono ?_; rintro e w1 ⟨rfl, hb1⟩; obtain ⟨hcl1, hfr1⟩ := old_cells hb1; have hs1 := hb1.size; (try simp only [drew_size] at hs1); (try simp at hs1); have hbw1 : Below w.heap.size w w1 := by ((refine Below.trans ?_ (hb1.mono ?_)) <;> repeat' first | exact bF _ _ | refine bA ?_ ?_ _ | refine bS ?_ ?_ _ | refine bD ?_ | (simp; done) | (simp; omega) | (simp [drew_size]; done) | (simp [drew_size]; omega) | omega)))
  all_goals exact bodyPost_ret (v := .agg #[vI vK ((shV 12 al ah (bl % 64)).1), vI vK ((shV 12 al ah (bl % 64)).2)]) (by simp [results, Tryz.results182, go_sem, hcl1]) rfl ⟨rfl, by repeat' first | exact bF _ _ | exact hbw1 | refine bA ?_ ?_ _ | refine bS ?_ ?_ _ | refine bD ?_ | (simp; done) | (simp; omega) | (simp [drew_size]; done) | (simp [drew_size]; omega) | omega⟩
theorem bdo_12n (al ah bl bh : Int) (hne : ¬ bh = bl) (w : World) : Calls Tryz.prog 182 #[vI vK 12, .agg #[vI vK al, vI vK ah], .agg #[vI vK bl, vI vK bh]] w fun e w' => e = .returned (.agg #[vI vK ((anyV 12 al ah).1), vI vK ((anyV 12 al ah).2)]) ∧ Below w.heap.size w w' := by
  go_enter Tryz.func182, Tryz.ntmps182
  go_wp2_with fail
  go_region_held3 (fun w' => w'.cell? ⟨w.heap.size + 1, 0, none⟩ = some (vI vK bl) ∧ w'.cell? ⟨w.heap.size + 1, 1, none⟩ = some (vI vK bh)) (first | (simp [go_sem]; done) | (simp [go_sem, *]; done) | go_keep) (first | (go_at_call 37; refine (one_at _ _).mono ?_; rintro e w' ⟨rfl, rfl⟩) | (go_at_call 208; refine (any_is 12 _ _ (by decide) _).mono ?_; rintro e w1 ⟨rfl, hb1⟩; obtain ⟨hcl1, hfr1⟩ := old_cells hb1; have hs1 := hb1.size; (try simp only [drew_size] at hs1); (try simp at hs1); have hbw1 : Below w.heap.size w w1 := by ((refine Below.trans ?_ (hb1.mono ?_)) <;> repeat' first | exact bF _ _ | refine bA ?_ ?_ _ | refine bS ?_ ?_ _ | refine bD ?_ | (simp; done) | (simp; omega) | (simp [drew_size]; done) | (simp [drew_size]; omega) | omega)))
  all_goals go_wp2_with (first | (go_at_call 37; refine (one_at _ _).mono ?_; rintro e w' ⟨rfl, rfl⟩) | (go_at_call 208; refine (any_is 12 _ _ (by decide) _).mono ?_; rintro e w1 ⟨rfl, hb1⟩; obtain ⟨hcl1, hfr1⟩ := old_cells hb1; have hs1 := hb1.size; (try simp only [drew_size] at hs1); (try simp at hs1); have hbw1 : Below w.heap.size w w1 := by ((refine Below.trans ?_ (hb1.mono ?_)) <;> repeat' first | exact bF _ _ | refine bA ?_ ?_ _ | refine bS ?_ ?_ _ | refine bD ?_ | (simp; done) | (simp; omega) | (simp [drew_size]; done) | (simp [drew_size]; omega) | omega)))
  all_goals exact bodyPost_ret (v := .agg #[vI vK ((anyV 12 al ah).1), vI vK ((anyV 12 al ah).2)]) (by simp [results, Tryz.results182, go_sem, hcl1]) rfl ⟨rfl, by repeat' first | exact bF _ _ | exact hbw1 | refine bA ?_ ?_ _ | refine bS ?_ ?_ _ | refine bD ?_ | (simp; done) | (simp; omega) | (simp [drew_size]; done) | (simp [drew_size]; omega) | omega⟩
theorem bdo_no (k al ah bl bh : Int) (hk : k < 1 ∨ 13 < k) (w : World) : Calls Tryz.prog 182 #[vI vK k, .agg #[vI vK al, vI vK ah], .agg #[vI vK bl, vI vK bh]] w fun e w' => e = .returned (.agg #[vI vK (-9223372036854775808), vI vK 9223372036854775807]) ∧ Below w.heap.size w w' := by
  have e1 : (k == 1) = false := by simp; omega
  have e2 : (k == 2) = false := by simp; omega
  have e3 : (k == 3) = false := by simp; omega
  have e4 : (k == 4) = false := by simp; omega
  have e5 : (k == 5) = false := by simp; omega
  have e6 : (k == 6) = false := by simp; omega
  have e7 : (k == 7) = false := by simp; omega
  have e8 : (k == 8) = false := by simp; omega
  have e9 : (k == 9) = false := by simp; omega
  have e10 : (k == 10) = false := by simp; omega
  have e11 : (k == 11) = false := by simp; omega
  have e12 : (k == 12) = false := by simp; omega
  have e13 : (k == 13) = false := by simp; omega
  go_enter Tryz.func182, Tryz.ntmps182
  go_wp2_with (first | (go_at_call 151; refine (all_is _).mono ?_; rintro e w1 ⟨rfl, hb1⟩; obtain ⟨hcl1, hfr1⟩ := old_cells hb1; have hs1 := hb1.size; (try simp only [drew_size] at hs1); (try simp at hs1); have hbw1 : Below w.heap.size w w1 := by ((refine Below.trans ?_ (hb1.mono ?_)) <;> repeat' first | exact bF _ _ | refine bA ?_ ?_ _ | refine bS ?_ ?_ _ | refine bD ?_ | (simp; done) | (simp; omega) | (simp [drew_size]; done) | (simp [drew_size]; omega) | omega)))
  all_goals exact bodyPost_ret (v := .agg #[vI vK (-9223372036854775808), vI vK 9223372036854775807]) (by simp [results, Tryz.results182, go_sem, hcl1]) rfl ⟨rfl, by repeat' first | exact bF _ _ | exact hbw1 | refine bA ?_ ?_ _ | refine bS ?_ ?_ _ | refine bD ?_ | (simp; done) | (simp; omega) | (simp [drew_size]; done) | (simp [drew_size]; omega) | omega⟩
theorem bdo_any (k al ah bl bh : Int) (pal : -9223372036854775808 ≤ al) (qal : al ≤ 9223372036854775807) (pah : -9223372036854775808 ≤ ah) (qah : ah ≤ 9223372036854775807) (pbl : -9223372036854775808 ≤ bl) (qbl : bl ≤ 9223372036854775807) (pbh : -9223372036854775808 ≤ bh) (qbh : bh ≤ 9223372036854775807) (oa : al ≤ ah) (ob : bl ≤ bh) (w : World) : Calls Tryz.prog 182 #[vI vK k, .agg #[vI vK al, vI vK ah], .agg #[vI vK bl, vI vK bh]] w fun e w' => e = .returned (.agg #[vI vK ((bdV k al ah bl bh).1), vI vK ((bdV k al ah bl bh).2)]) ∧ Below w.heap.size w w' := by
  by_cases hk : k < 1 ∨ 13 < k
  · rw [bdV_no al ah bl bh hk]
    exact bdo_no k al ah bl bh hk w
  · have h : k = 1 ∨ k = 2 ∨ k = 3 ∨ k = 4 ∨ k = 5 ∨ k = 6 ∨ k = 7 ∨ k = 8 ∨ k = 9 ∨ k = 10 ∨ k = 11 ∨ k = 12 ∨ k = 13 := by omega
    have s6 := sixBits_mod bl
    rcases h with rfl | rfl | rfl | rfl | rfl | rfl | rfl | rfl | rfl | rfl | rfl | rfl | rfl
    · rw [bdV_1]; exact bdo_1 al ah bl bh w
    · rw [bdV_2]; exact bdo_2 al ah bl bh pal qal pah qah pbl qbl pbh qbh w
    · rw [bdV_3]; exact bdo_3 al ah bl bh pal qal pah qah pbl qbl pbh qbh w
    · exact bdo_4 al ah bl bh w
    · exact bdo_5 al ah bl bh pal qal pah qah pbl qbl pbh qbh oa ob w
    · exact bdo_6 al ah bl bh qbh ob w
    · exact bdo_7 al ah bl bh w
    · rw [bdV_8]; exact bdo_8 al ah bl bh pal qal pah qah pbl qbl pbh qbh w
    · rw [bdV_9]; exact bdo_9 al ah bl bh pal qal pah qah pbl qbl pbh qbh w
    · rw [bdV_10]
      by_cases hb : bl = bh
      · rw [if_pos hb]
        subst hb
        exact bdo_10e al ah bl w
      · rw [if_neg hb]
        exact bdo_10n al ah bl bh (fun h => hb h.symm) w
    · rw [bdV_11]
      by_cases hb : bl = bh
      · rw [if_pos hb]
        subst hb
        have e : shV 11 al ah (bl % 64) = (if sixBits bl = 0 then (al, ah) else if 0 ≤ al then (al / 2 ^ sixBits bl, ah / 2 ^ sixBits bl) else (0, 2 ^ (64 - sixBits bl) - 1)) := by
          unfold shV
          rw [if_neg (by decide)]
          by_cases h0 : sixBits bl = 0
          · rw [if_pos h0, if_neg (by have : (bl % 64).toNat = 0 := h0; omega), rsh_none pal qal (by omega), rsh_none pah qah (by omega)]
          · rw [if_neg h0]
            have h0' : (bl % 64).toNat ≠ 0 := h0
            by_cases ha : 0 ≤ al
            · rw [if_pos ha, if_neg (by omega), rsh_ends ha qal, rsh_ends (by omega) qah, s6]
            · rw [if_neg ha, if_pos ⟨rfl, by omega, by omega⟩, rsh_ones (by omega), s6]
        rw [← e]
        exact bdo_11e al ah bl w
      · rw [if_neg hb]
        exact bdo_11n al ah bl bh (fun h => hb h.symm) w
    · rw [bdV_12]
      by_cases hb : bl = bh
      · rw [if_pos hb]
        subst hb
        have e : shV 12 al ah (bl % 64) = (al / 2 ^ sixBits bl, ah / 2 ^ sixBits bl) := by
          unfold shV
          rw [if_neg (by decide), if_neg (by omega), doesV_12, doesV_12, s6]
        rw [← e]
        exact bdo_12e al ah bl w
      · rw [if_neg hb]
        exact bdo_12n al ah bl bh (fun h => hb h.symm) w
    · rw [bdV_13]; exact bdo_13 al ah bl bh pal qal pah qah w
end Go.Proofs.YtednmkhdehlojaaGreatDoor
namespace Go.Proofs.YtednmkhdehlojaaGreatDoor
open Go.ChangeShapes Go.WideShapes Go.ChangeAt Go.RowKit
section
variable {S B : Nat} {c d s o n p : Int} {r : Bool} {y : Way} {w w1 : World}
end
end Go.Proofs.YtednmkhdehlojaaGreatDoor
namespace Go.Proofs.YtednmkhdehlojaaGreatDoor
open Go.ChangeShapes Go.WideShapes Go.ChangeAt Go.RowKit
attribute [local simp] drew_size drewN_size setCell_size
theorem further_all (k : Int) (w : World) : Calls Tryz.prog 184 #[vI vK k, .agg #[vI vK (-9223372036854775808), vI vK 9223372036854775807]] w fun e w' => e = .returned (.tuple #[.agg #[vI vK 0, vI vK 0, vI vK 0], vI vK 2]) ∧ Below w.heap.size w w' := by
  go_enter Tryz.func184, Tryz.ntmps184
  go_wp2_with fail
  go_region_held3 (fun w' => w'.cell? ⟨w.heap.size, 0, none⟩ = some (vI vK (-9223372036854775808)) ∧ w'.cell? ⟨w.heap.size, 1, none⟩ = some (vI vK 9223372036854775807)) (first | (simp [go_sem]; done) | (simp [go_sem, *]; done) | go_keep) (first
    | (go_at_call 151; go_must (refine (all_is _).mono ?_; rintro e w1 ⟨rfl, hb1⟩; have hbw1 : Below w.heap.size w w1 := (by ((refine Below.trans ?_ (hb1.mono ?_)) <;> repeat' first | with_reducible (first | exact bF _ _ | exact hbw1 | refine bA ?_ ?_ _ | refine bS ?_ ?_ _ | refine bD ?_ | refine below_drewN ?_ _) | ((try dsimp only); omega) | (simp; done) | (simp; omega) | omega)); have v6 := later_box hb1 w.heap.size; have v7 := later_box hb1 (w.heap.size + 1); (try simp [go_sem] at v6); (try simp [go_sem] at v7))))
  all_goals go_wp2_with fail
  all_goals exact bodyPost_ret (v := .tuple #[.agg #[vI vK 0, vI vK 0, vI vK 0], vI vK 2]) (by simp [results, Tryz.results184, go_sem, v7]) rfl ⟨rfl, (by repeat' first | with_reducible (first | exact hbw | exact hbw1 | exact hbw2 | exact bF _ _ | refine bA ?_ ?_ _ | refine bS ?_ ?_ _ | refine bD ?_ | refine below_drewN ?_ _) | ((try dsimp only); omega) | (simp; done) | (simp; omega))⟩
theorem further_h (k h : Int) (hne : ¬ h = 9223372036854775807) (w : World) : Calls Tryz.prog 184 #[vI vK k, .agg #[vI vK (-9223372036854775808), vI vK h]] w fun e w' => e = .returned (.tuple #[.agg #[vI vK k, vI vK (-9223372036854775808), vI vK h], vI vK 0]) ∧ Below w.heap.size w w' := by
  go_enter Tryz.func184, Tryz.ntmps184
  go_wp2_with fail
  go_region_held3 (fun w' => w'.cell? ⟨w.heap.size, 0, none⟩ = some (vI vK (-9223372036854775808)) ∧ w'.cell? ⟨w.heap.size, 1, none⟩ = some (vI vK h)) (first | (simp [go_sem]; done) | (simp [go_sem, *]; done) | go_keep) (first
    | (go_at_call 151; go_must (refine (all_is _).mono ?_; rintro e w1 ⟨rfl, hb1⟩; have hbw1 : Below w.heap.size w w1 := (by ((refine Below.trans ?_ (hb1.mono ?_)) <;> repeat' first | with_reducible (first | exact bF _ _ | exact hbw1 | refine bA ?_ ?_ _ | refine bS ?_ ?_ _ | refine bD ?_ | refine below_drewN ?_ _) | ((try dsimp only); omega) | (simp; done) | (simp; omega) | omega)); have v6 := later_box hb1 w.heap.size; have v7 := later_box hb1 (w.heap.size + 1); (try simp [go_sem] at v6); (try simp [go_sem] at v7))))
  all_goals go_wp2_with fail
  all_goals exact bodyPost_ret (v := .tuple #[.agg #[vI vK k, vI vK (-9223372036854775808), vI vK h], vI vK 0]) (by simp [results, Tryz.results184, go_sem, v7]) rfl ⟨rfl, (by repeat' first | with_reducible (first | exact hbw | exact hbw1 | exact hbw2 | exact bF _ _ | refine bA ?_ ?_ _ | refine bS ?_ ?_ _ | refine bD ?_ | refine below_drewN ?_ _) | ((try dsimp only); omega) | (simp; done) | (simp; omega))⟩
theorem further_l (k l h : Int) (hne : ¬ l = -9223372036854775808) (w : World) : Calls Tryz.prog 184 #[vI vK k, .agg #[vI vK l, vI vK h]] w fun e w' => e = .returned (.tuple #[.agg #[vI vK k, vI vK l, vI vK h], vI vK 0]) ∧ Below w.heap.size w w' := by
  go_enter Tryz.func184, Tryz.ntmps184
  go_wp2_with fail
  go_region_held3 (fun w' => w'.cell? ⟨w.heap.size, 0, none⟩ = some (vI vK l) ∧ w'.cell? ⟨w.heap.size, 1, none⟩ = some (vI vK h)) (first | (simp [go_sem]; done) | (simp [go_sem, *]; done) | go_keep) (first
    | (go_at_call 151; go_must (refine (all_is _).mono ?_; rintro e w1 ⟨rfl, hb1⟩; have hbw1 : Below w.heap.size w w1 := (by ((refine Below.trans ?_ (hb1.mono ?_)) <;> repeat' first | with_reducible (first | exact bF _ _ | exact hbw1 | refine bA ?_ ?_ _ | refine bS ?_ ?_ _ | refine bD ?_ | refine below_drewN ?_ _) | ((try dsimp only); omega) | (simp; done) | (simp; omega) | omega)); have v6 := later_box hb1 w.heap.size; have v7 := later_box hb1 (w.heap.size + 1); (try simp [go_sem] at v6); (try simp [go_sem] at v7))))
  all_goals go_wp2_with fail
  all_goals exact bodyPost_ret (v := .tuple #[.agg #[vI vK k, vI vK l, vI vK h], vI vK 0]) (by simp [results, Tryz.results184, go_sem, v7]) rfl ⟨rfl, (by repeat' first | with_reducible (first | exact hbw | exact hbw1 | exact hbw2 | exact bF _ _ | refine bA ?_ ?_ _ | refine bS ?_ ?_ _ | refine bD ?_ | refine below_drewN ?_ _) | ((try dsimp only); omega) | (simp; done) | (simp; omega))⟩
theorem further_any (k l h : Int) (w : World) : Calls Tryz.prog 184 #[vI vK k, .agg #[vI vK l, vI vK h]] w fun e w' => e = .returned (.tuple #[(knoFurther k (l, h)).1.v, vI vK (knoFurther k (l, h)).2]) ∧ Below w.heap.size w w' := by
  unfold knoFurther
  by_cases h1 : l = -9223372036854775808
  · by_cases h2 : h = 9223372036854775807
    · rw [if_pos ⟨h1, h2⟩]; subst h1; subst h2; exact further_all k w
    · rw [if_neg (fun e => h2 e.2)]; subst h1; exact further_h k h h2 w
  · rw [if_neg (fun e => h1 e.1)]; exact further_l k l h h1 w
structure Mk3 (n : Nat) (ak al ah bk bl bh : Int) (w : World) : Prop where
  a : w.heap[n]? = some (.cells #[vI vK ak, vI vK al, vI vK ah] 146 (0, 0))
  b : w.heap[n + 1]? = some (.cells #[vI vK bk, vI vK bl, vI vK bh] 146 (0, 0))
  r : w.heap[n + 1 + 1]? = some (.cells #[vI vK 0, vI vK 0, vI vK 0] 146 (0, 0))
section
variable {n : Nat} {ak al ah bk bl bh : Int} {w w1 : World}
theorem Mk3.lt (h : Mk3 n ak al ah bk bl bh w) : n + 1 + 1 < w.heap.size := (Array.getElem?_eq_some_iff.1 h.r).1
theorem Mk3.later (h : Mk3 n ak al ah bk bl bh w) (hb : Below w.heap.size w w1) : Mk3 n ak al ah bk bl bh w1 := by
  have := h.lt
  exact ⟨(hb.block _ (by omega)).trans h.a, (hb.block _ (by omega)).trans h.b, (hb.block _ (by omega)).trans h.r⟩
theorem Mk3.drew (h : Mk3 n ak al ah bk bl bh w) : Mk3 n ak al ah bk bl bh w.drew := ⟨h.a, h.b, h.r⟩
theorem Mk3.drewN (h : Mk3 n ak al ah bk bl bh w) (k : Nat) : Mk3 n ak al ah bk bl bh (w.drewN k) := ⟨h.a, h.b, h.r⟩
theorem Mk3.cells (h : Mk3 n ak al ah bk bl bh w) : w.cell? ⟨n, 0, none⟩ = some (vI vK ak) ∧ w.cell? ⟨n, 1, none⟩ = some (vI vK al) ∧ w.cell? ⟨n, 2, none⟩ = some (vI vK ah) ∧ w.cell? ⟨n + 1, 0, none⟩ = some (vI vK bk) ∧ w.cell? ⟨n + 1, 1, none⟩ = some (vI vK bl) ∧ w.cell? ⟨n + 1, 2, none⟩ = some (vI vK bh) ∧ w.cell? ⟨n + 1 + 1, 0, none⟩ = some (vI vK 0) ∧ w.cell? ⟨n + 1 + 1, 1, none⟩ = some (vI vK 0) ∧ w.cell? ⟨n + 1 + 1, 2, none⟩ = some (vI vK 0) ∧ w.frozen? ⟨n + 1 + 1, 0, none⟩ = false ∧ w.frozen? ⟨n + 1 + 1, 1, none⟩ = false ∧ w.frozen? ⟨n + 1 + 1, 2, none⟩ = false ∧ n + 1 + 1 < w.heap.size := by
  have e1 := h.a
  have e2 := h.b
  have e3 := h.r
  exact ⟨by simp [World.cell?, e1], by simp [World.cell?, e1], by simp [World.cell?, e1], by simp [World.cell?, e2], by simp [World.cell?, e2], by simp [World.cell?, e2], by simp [World.cell?, e3], by simp [World.cell?, e3], by simp [World.cell?, e3], by simp [World.frozen?, e3], by simp [World.frozen?, e3], by simp [World.frozen?, e3], h.lt⟩
theorem Mk3.start (w : World) (ak al ah bk bl bh : Int) : Mk3 w.heap.size ak al ah bk bl bh (((w.alloc (.cells #[vI vK ak, vI vK al, vI vK ah] 146)).alloc (.cells #[vI vK bk, vI vK bl, vI vK bh] 146)).alloc (.cells #[vI vK 0, vI vK 0, vI vK 0] 146)) := by
  refine ⟨?_, ?_, ?_⟩
  · rw [Below.heap_alloc _ _ _ (by simp; omega), Below.heap_alloc _ _ _ (by simp)]; exact heap_alloc_new _ _
  · rw [Below.heap_alloc _ _ _ (by simp)]; exact heap_alloc2_new _ _ _
  · have := heap_alloc_new ((w.alloc (.cells #[vI vK ak, vI vK al, vI vK ah] 146)).alloc (.cells #[vI vK bk, vI vK bl, vI vK bh] 146)) (.cells #[vI vK 0, vI vK 0, vI vK 0] 146)
    simp only [World.size_alloc] at this
    exact this
end
theorem vmk_b0 (code ak al ah bk bl bh : Int) (x0 : (bk == 0) = true) (w : World) : Calls Tryz.prog 153 #[vI vK code, .agg #[vI vK ak, vI vK al, vI vK ah], .agg #[vI vK bk, vI vK bl, vI vK bh]] w fun e w' => e = .returned (.tuple #[.agg #[vI vK 0, vI vK 0, vI vK 0], vI vK 8]) ∧ Below w.heap.size w w' := by
  have hK0 := Mk3.start w ak al ah bk bl bh
  obtain ⟨a0, a1, a2, b0, b1, b2, r0, r1, r2, f0, f1, f2, hn⟩ := hK0.cells
  go_enter Tryz.func153, Tryz.ntmps153
  go_wp2_with fail
  exact bodyPost_ret (v := .tuple #[.agg #[vI vK 0, vI vK 0, vI vK 0], vI vK 8]) (by simp [results, Tryz.results153, go_sem, *]) rfl ⟨rfl, (by repeat' first | with_reducible (first | exact hbw | exact hbw1 | exact hbw2 | exact bF _ _ | refine bA ?_ ?_ _ | refine bS ?_ ?_ _ | refine bD ?_ | refine below_drewN ?_ _) | ((try dsimp only); omega) | (simp; done) | (simp; omega))⟩
theorem vmk_a0 (code ak al ah bk bl bh : Int) (x0 : (bk == 0) = false) (x1 : (ak == 0) = true) (x2 : (code != 1) = true) (w : World) : Calls Tryz.prog 153 #[vI vK code, .agg #[vI vK ak, vI vK al, vI vK ah], .agg #[vI vK bk, vI vK bl, vI vK bh]] w fun e w' => e = .returned (.tuple #[.agg #[vI vK 0, vI vK 0, vI vK 0], vI vK 8]) ∧ Below w.heap.size w w' := by
  have hK0 := Mk3.start w ak al ah bk bl bh
  obtain ⟨a0, a1, a2, b0, b1, b2, r0, r1, r2, f0, f1, f2, hn⟩ := hK0.cells
  go_enter Tryz.func153, Tryz.ntmps153
  go_wp2_with fail
  exact bodyPost_ret (v := .tuple #[.agg #[vI vK 0, vI vK 0, vI vK 0], vI vK 8]) (by simp [results, Tryz.results153, go_sem, *]) rfl ⟨rfl, (by repeat' first | with_reducible (first | exact hbw | exact hbw1 | exact hbw2 | exact bF _ _ | refine bA ?_ ?_ _ | refine bS ?_ ?_ _ | refine bD ?_ | refine below_drewN ?_ _) | ((try dsimp only); omega) | (simp; done) | (simp; omega))⟩
theorem vmk_mova (code ak al ah bk bl bh : Int) (x0 : (bk == 0) = false) (x1 : (ak == 0) = true) (x2 : (code != 1) = false) (x3 : (code == 1) = true) (w : World) : Calls Tryz.prog 153 #[vI vK code, .agg #[vI vK ak, vI vK al, vI vK ah], .agg #[vI vK bk, vI vK bl, vI vK bh]] w fun e w' => e = .returned (.tuple #[.agg #[vI vK bk, vI vK bl, vI vK bh], vI vK 0]) ∧ Below w.heap.size w w' := by
  have hK0 := Mk3.start w ak al ah bk bl bh
  obtain ⟨a0, a1, a2, b0, b1, b2, r0, r1, r2, f0, f1, f2, hn⟩ := hK0.cells
  go_enter Tryz.func153, Tryz.ntmps153
  go_wp2_with fail
  exact bodyPost_ret (v := .tuple #[.agg #[vI vK bk, vI vK bl, vI vK bh], vI vK 0]) (by simp [results, Tryz.results153, go_sem, *]) rfl ⟨rfl, (by repeat' first | with_reducible (first | exact hbw | exact hbw1 | exact hbw2 | exact bF _ _ | refine bA ?_ ?_ _ | refine bS ?_ ?_ _ | refine bD ?_ | refine below_drewN ?_ _) | ((try dsimp only); omega) | (simp; done) | (simp; omega))⟩
theorem vmk_movb (code ak al ah bk bl bh : Int) (x0 : (bk == 0) = false) (x1 : (ak == 0) = false) (x2 : (code == 1) = true) (w : World) : Calls Tryz.prog 153 #[vI vK code, .agg #[vI vK ak, vI vK al, vI vK ah], .agg #[vI vK bk, vI vK bl, vI vK bh]] w fun e w' => e = .returned (.tuple #[.agg #[vI vK bk, vI vK bl, vI vK bh], vI vK 0]) ∧ Below w.heap.size w w' := by
  have hK0 := Mk3.start w ak al ah bk bl bh
  obtain ⟨a0, a1, a2, b0, b1, b2, r0, r1, r2, f0, f1, f2, hn⟩ := hK0.cells
  go_enter Tryz.func153, Tryz.ntmps153
  go_wp2_with fail
  exact bodyPost_ret (v := .tuple #[.agg #[vI vK bk, vI vK bl, vI vK bh], vI vK 0]) (by simp [results, Tryz.results153, go_sem, *]) rfl ⟨rfl, (by repeat' first | with_reducible (first | exact hbw | exact hbw1 | exact hbw2 | exact bF _ _ | refine bA ?_ ?_ _ | refine bS ?_ ?_ _ | refine bD ?_ | refine below_drewN ?_ _) | ((try dsimp only); omega) | (simp; done) | (simp; omega))⟩
theorem vmk_nums (code ak al ah bk bl bh : Int) (dl dh : Int) (HD : Hid (∀ W : World, Calls Tryz.prog 182 #[vI vK code, .agg #[vI vK al, vI vK ah], .agg #[vI vK bl, vI vK bh]] W fun e w' => e = .returned (.agg #[vI vK dl, vI vK dh]) ∧ Below W.heap.size W w')) (x0 : (bk == 0) = false) (x1 : (ak == 0) = false) (x2 : (code == 1) = false) (x3 : (ak == 1) = true) (x4 : (bk == 1) = true) (w : World) : Calls Tryz.prog 153 #[vI vK code, .agg #[vI vK ak, vI vK al, vI vK ah], .agg #[vI vK bk, vI vK bl, vI vK bh]] w fun e w' => e = .returned (.tuple #[.agg #[vI vK 1, vI vK dl, vI vK dh], vI vK 0]) ∧ Below w.heap.size w w' := by
  have hK0 := Mk3.start w ak al ah bk bl bh
  obtain ⟨a0, a1, a2, b0, b1, b2, r0, r1, r2, f0, f1, f2, hn⟩ := hK0.cells
  go_enter Tryz.func153, Tryz.ntmps153
  go_wp2_with (first
    | (go_at_call 182; go_must (refine (HD.out _).mono ?_; rintro e w1 ⟨rfl, hb1⟩; have hK1 : Mk3 w.heap.size ak al ah bk bl bh w1 := Mk3.later (by repeat' first | with_reducible (first | exact hK0 | exact hK1 | exact hK2 | exact hK3 | refine Mk3.drew ?_) | with_reducible refine Mk3.drewN ?_ _) hb1; have hbw1 : Below w.heap.size w w1 := (by ((refine Below.trans ?_ (hb1.mono ?_)) <;> repeat' first | with_reducible (first | exact bF _ _ | exact hbw1 | exact hbw2 | refine bA ?_ ?_ _ | refine bS ?_ ?_ _ | refine bD ?_ | refine below_drewN ?_ _) | ((try dsimp only); omega) | (simp; done) | (simp; omega) | omega)); clear a0 a1 a2 b0 b1 b2 r0 r1 r2 f0 f1 f2 hn; obtain ⟨a0, a1, a2, b0, b1, b2, r0, r1, r2, f0, f1, f2, hn⟩ := hK1.cells))
    | (go_at_call 150; go_must (refine (vnumber_any _ _ _).mono ?_; rintro e w2 ⟨rfl, hb2⟩; simp only [Kno.v, knoNum]; have hK2 : Mk3 w.heap.size ak al ah bk bl bh w2 := Mk3.later (by repeat' first | with_reducible (first | exact hK0 | exact hK1 | exact hK2 | exact hK3 | refine Mk3.drew ?_) | with_reducible refine Mk3.drewN ?_ _) hb2; have hbw2 : Below w.heap.size w w2 := (by ((refine Below.trans ?_ (hb2.mono ?_)) <;> repeat' first | with_reducible (first | exact bF _ _ | exact hbw1 | exact hbw2 | refine bA ?_ ?_ _ | refine bS ?_ ?_ _ | refine bD ?_ | refine below_drewN ?_ _) | ((try dsimp only); omega) | (simp; done) | (simp; omega) | omega)); clear a0 a1 a2 b0 b1 b2 r0 r1 r2 f0 f1 f2 hn; obtain ⟨a0, a1, a2, b0, b1, b2, r0, r1, r2, f0, f1, f2, hn⟩ := hK2.cells))
    | fail)
  exact bodyPost_ret (v := .tuple #[.agg #[vI vK 1, vI vK dl, vI vK dh], vI vK 0]) (by simp [results, Tryz.results153, go_sem, *]) rfl ⟨rfl, (by repeat' first | with_reducible (first | exact hbw | exact hbw1 | exact hbw2 | exact bF _ _ | refine bA ?_ ?_ _ | refine bS ?_ ?_ _ | refine bD ?_ | refine below_drewN ?_ _) | ((try dsimp only); omega) | (simp; done) | (simp; omega))⟩
theorem vmk_padd (code ak al ah bk bl bh : Int) (dl dh : Int) (HD : Hid (∀ W : World, Calls Tryz.prog 182 #[vI vK code, .agg #[vI vK al, vI vK ah], .agg #[vI vK bl, vI vK bh]] W fun e w' => e = .returned (.agg #[vI vK dl, vI vK dh]) ∧ Below W.heap.size W w')) (gk gl gh E : Int) (HF : Hid (knoFurther ak (dl, dh) = (⟨gk, gl, gh⟩, E))) (HP : Hid (isPlaceB ak = true)) (x0 : (bk == 0) = false) (x1 : (ak == 0) = false) (x2 : (code == 1) = false) (x3 : (ak == 1) = false) (x4 : (bk == 1) = true) (x5 : (code == 2) = true) (w : World) : Calls Tryz.prog 153 #[vI vK code, .agg #[vI vK ak, vI vK al, vI vK ah], .agg #[vI vK bk, vI vK bl, vI vK bh]] w fun e w' => e = .returned (.tuple #[.agg #[vI vK gk, vI vK gl, vI vK gh], vI vK E]) ∧ Below w.heap.size w w' := by
  have hK0 := Mk3.start w ak al ah bk bl bh
  obtain ⟨a0, a1, a2, b0, b1, b2, r0, r1, r2, f0, f1, f2, hn⟩ := hK0.cells
  go_enter Tryz.func153, Tryz.ntmps153
  go_wp2_with (first
    | (go_at_call 181; go_must (refine (isPlace_any ak al ah _).mono ?_; rintro e w1 ⟨rfl, hb1⟩; rw [HP.out]; have hK1 : Mk3 w.heap.size ak al ah bk bl bh w1 := Mk3.later (by repeat' first | with_reducible (first | exact hK0 | exact hK1 | exact hK2 | exact hK3 | refine Mk3.drew ?_) | with_reducible refine Mk3.drewN ?_ _) hb1; have hbw1 : Below w.heap.size w w1 := (by ((refine Below.trans ?_ (hb1.mono ?_)) <;> repeat' first | with_reducible (first | exact bF _ _ | exact hbw1 | exact hbw2 | refine bA ?_ ?_ _ | refine bS ?_ ?_ _ | refine bD ?_ | refine below_drewN ?_ _) | ((try dsimp only); omega) | (simp; done) | (simp; omega) | omega)); clear a0 a1 a2 b0 b1 b2 r0 r1 r2 f0 f1 f2 hn; obtain ⟨a0, a1, a2, b0, b1, b2, r0, r1, r2, f0, f1, f2, hn⟩ := hK1.cells))
    | fail)
  go_region_held3 (fun w' => w'.cell? ⟨w.heap.size, 0, none⟩ = some (vI vK ak) ∧ w'.cell? ⟨w.heap.size, 1, none⟩ = some (vI vK al) ∧ w'.cell? ⟨w.heap.size, 2, none⟩ = some (vI vK ah) ∧ w'.cell? ⟨w.heap.size + 1, 0, none⟩ = some (vI vK bk) ∧ w'.cell? ⟨w.heap.size + 1, 1, none⟩ = some (vI vK bl) ∧ w'.cell? ⟨w.heap.size + 1, 2, none⟩ = some (vI vK bh)) (first | (simp [go_sem]; done) | (simp [go_sem, *]; done) | go_keep) (first
    | (go_at_call 182; go_must (refine (HD.out _).mono ?_; rintro e w2 ⟨rfl, hb2⟩; have hK2 : Mk3 w.heap.size ak al ah bk bl bh w2 := Mk3.later (by repeat' first | with_reducible (first | exact hK0 | exact hK1 | exact hK2 | exact hK3 | refine Mk3.drew ?_) | with_reducible refine Mk3.drewN ?_ _) hb2; have hbw2 : Below w.heap.size w w2 := (by ((refine Below.trans ?_ (hb2.mono ?_)) <;> repeat' first | with_reducible (first | exact bF _ _ | exact hbw1 | exact hbw2 | refine bA ?_ ?_ _ | refine bS ?_ ?_ _ | refine bD ?_ | refine below_drewN ?_ _) | ((try dsimp only); omega) | (simp; done) | (simp; omega) | omega)); clear a0 a1 a2 b0 b1 b2 r0 r1 r2 f0 f1 f2 hn; obtain ⟨a0, a1, a2, b0, b1, b2, r0, r1, r2, f0, f1, f2, hn⟩ := hK2.cells))
    | (go_at_call 184; go_must (refine (further_any ak dl dh _).mono ?_; rintro e w3 ⟨rfl, hb3⟩; rw [HF.out]; simp only [Kno.v]; have hK3 : Mk3 w.heap.size ak al ah bk bl bh w3 := Mk3.later (by repeat' first | with_reducible (first | exact hK0 | exact hK1 | exact hK2 | exact hK3 | refine Mk3.drew ?_) | with_reducible refine Mk3.drewN ?_ _) hb3; have hbw3 : Below w.heap.size w w3 := (by ((refine Below.trans ?_ (hb3.mono ?_)) <;> repeat' first | with_reducible (first | exact bF _ _ | exact hbw1 | exact hbw2 | refine bA ?_ ?_ _ | refine bS ?_ ?_ _ | refine bD ?_ | refine below_drewN ?_ _) | ((try dsimp only); omega) | (simp; done) | (simp; omega) | omega)); clear a0 a1 a2 b0 b1 b2 r0 r1 r2 f0 f1 f2 hn; obtain ⟨a0, a1, a2, b0, b1, b2, r0, r1, r2, f0, f1, f2, hn⟩ := hK3.cells)))
  all_goals go_wp2_with fail
  all_goals exact bodyPost_ret (v := .tuple #[.agg #[vI vK gk, vI vK gl, vI vK gh], vI vK E]) (by simp [results, Tryz.results153, go_sem, *]) rfl ⟨rfl, (by repeat' first | with_reducible (first | exact hbw | exact hbw1 | exact hbw2 | exact bF _ _ | refine bA ?_ ?_ _ | refine bS ?_ ?_ _ | refine bD ?_ | refine below_drewN ?_ _) | ((try dsimp only); omega) | (simp; done) | (simp; omega))⟩
theorem vmk_psub (code ak al ah bk bl bh : Int) (dl dh : Int) (HD : Hid (∀ W : World, Calls Tryz.prog 182 #[vI vK code, .agg #[vI vK al, vI vK ah], .agg #[vI vK bl, vI vK bh]] W fun e w' => e = .returned (.agg #[vI vK dl, vI vK dh]) ∧ Below W.heap.size W w')) (gk gl gh E : Int) (HF : Hid (knoFurther ak (dl, dh) = (⟨gk, gl, gh⟩, E))) (HP : Hid (isPlaceB ak = true)) (x0 : (bk == 0) = false) (x1 : (ak == 0) = false) (x2 : (code == 1) = false) (x3 : (ak == 1) = false) (x4 : (bk == 1) = true) (x5 : (code == 2) = false) (x6 : (code == 3) = true) (w : World) : Calls Tryz.prog 153 #[vI vK code, .agg #[vI vK ak, vI vK al, vI vK ah], .agg #[vI vK bk, vI vK bl, vI vK bh]] w fun e w' => e = .returned (.tuple #[.agg #[vI vK gk, vI vK gl, vI vK gh], vI vK E]) ∧ Below w.heap.size w w' := by
  have hK0 := Mk3.start w ak al ah bk bl bh
  obtain ⟨a0, a1, a2, b0, b1, b2, r0, r1, r2, f0, f1, f2, hn⟩ := hK0.cells
  go_enter Tryz.func153, Tryz.ntmps153
  go_wp2_with (first
    | (go_at_call 181; go_must (refine (isPlace_any ak al ah _).mono ?_; rintro e w1 ⟨rfl, hb1⟩; rw [HP.out]; have hK1 : Mk3 w.heap.size ak al ah bk bl bh w1 := Mk3.later (by repeat' first | with_reducible (first | exact hK0 | exact hK1 | exact hK2 | exact hK3 | refine Mk3.drew ?_) | with_reducible refine Mk3.drewN ?_ _) hb1; have hbw1 : Below w.heap.size w w1 := (by ((refine Below.trans ?_ (hb1.mono ?_)) <;> repeat' first | with_reducible (first | exact bF _ _ | exact hbw1 | exact hbw2 | refine bA ?_ ?_ _ | refine bS ?_ ?_ _ | refine bD ?_ | refine below_drewN ?_ _) | ((try dsimp only); omega) | (simp; done) | (simp; omega) | omega)); clear a0 a1 a2 b0 b1 b2 r0 r1 r2 f0 f1 f2 hn; obtain ⟨a0, a1, a2, b0, b1, b2, r0, r1, r2, f0, f1, f2, hn⟩ := hK1.cells))
    | fail)
  go_region_held3 (fun w' => w'.cell? ⟨w.heap.size, 0, none⟩ = some (vI vK ak) ∧ w'.cell? ⟨w.heap.size, 1, none⟩ = some (vI vK al) ∧ w'.cell? ⟨w.heap.size, 2, none⟩ = some (vI vK ah) ∧ w'.cell? ⟨w.heap.size + 1, 0, none⟩ = some (vI vK bk) ∧ w'.cell? ⟨w.heap.size + 1, 1, none⟩ = some (vI vK bl) ∧ w'.cell? ⟨w.heap.size + 1, 2, none⟩ = some (vI vK bh)) (first | (simp [go_sem]; done) | (simp [go_sem, *]; done) | go_keep) (first
    | (go_at_call 182; go_must (refine (HD.out _).mono ?_; rintro e w2 ⟨rfl, hb2⟩; have hK2 : Mk3 w.heap.size ak al ah bk bl bh w2 := Mk3.later (by repeat' first | with_reducible (first | exact hK0 | exact hK1 | exact hK2 | exact hK3 | refine Mk3.drew ?_) | with_reducible refine Mk3.drewN ?_ _) hb2; have hbw2 : Below w.heap.size w w2 := (by ((refine Below.trans ?_ (hb2.mono ?_)) <;> repeat' first | with_reducible (first | exact bF _ _ | exact hbw1 | exact hbw2 | refine bA ?_ ?_ _ | refine bS ?_ ?_ _ | refine bD ?_ | refine below_drewN ?_ _) | ((try dsimp only); omega) | (simp; done) | (simp; omega) | omega)); clear a0 a1 a2 b0 b1 b2 r0 r1 r2 f0 f1 f2 hn; obtain ⟨a0, a1, a2, b0, b1, b2, r0, r1, r2, f0, f1, f2, hn⟩ := hK2.cells))
    | (go_at_call 184; go_must (refine (further_any ak dl dh _).mono ?_; rintro e w3 ⟨rfl, hb3⟩; rw [HF.out]; simp only [Kno.v]; have hK3 : Mk3 w.heap.size ak al ah bk bl bh w3 := Mk3.later (by repeat' first | with_reducible (first | exact hK0 | exact hK1 | exact hK2 | exact hK3 | refine Mk3.drew ?_) | with_reducible refine Mk3.drewN ?_ _) hb3; have hbw3 : Below w.heap.size w w3 := (by ((refine Below.trans ?_ (hb3.mono ?_)) <;> repeat' first | with_reducible (first | exact bF _ _ | exact hbw1 | exact hbw2 | refine bA ?_ ?_ _ | refine bS ?_ ?_ _ | refine bD ?_ | refine below_drewN ?_ _) | ((try dsimp only); omega) | (simp; done) | (simp; omega) | omega)); clear a0 a1 a2 b0 b1 b2 r0 r1 r2 f0 f1 f2 hn; obtain ⟨a0, a1, a2, b0, b1, b2, r0, r1, r2, f0, f1, f2, hn⟩ := hK3.cells)))
  all_goals go_wp2_with fail
  all_goals exact bodyPost_ret (v := .tuple #[.agg #[vI vK gk, vI vK gl, vI vK gh], vI vK E]) (by simp [results, Tryz.results153, go_sem, *]) rfl ⟨rfl, (by repeat' first | with_reducible (first | exact hbw | exact hbw1 | exact hbw2 | exact bF _ _ | refine bA ?_ ?_ _ | refine bS ?_ ?_ _ | refine bD ?_ | refine below_drewN ?_ _) | ((try dsimp only); omega) | (simp; done) | (simp; omega))⟩
theorem vmk_pno (code ak al ah bk bl bh : Int) (HP : Hid (isPlaceB ak = true)) (x0 : (bk == 0) = false) (x1 : (ak == 0) = false) (x2 : (code == 1) = false) (x3 : (ak == 1) = false) (x4 : (bk == 1) = true) (x5 : (code == 2) = false) (x6 : (code == 3) = false) (w : World) : Calls Tryz.prog 153 #[vI vK code, .agg #[vI vK ak, vI vK al, vI vK ah], .agg #[vI vK bk, vI vK bl, vI vK bh]] w fun e w' => e = .returned (.tuple #[.agg #[vI vK 0, vI vK 0, vI vK 0], vI vK 1]) ∧ Below w.heap.size w w' := by
  have hK0 := Mk3.start w ak al ah bk bl bh
  obtain ⟨a0, a1, a2, b0, b1, b2, r0, r1, r2, f0, f1, f2, hn⟩ := hK0.cells
  go_enter Tryz.func153, Tryz.ntmps153
  go_wp2_with (first
    | (go_at_call 181; go_must (refine (isPlace_any ak al ah _).mono ?_; rintro e w1 ⟨rfl, hb1⟩; rw [HP.out]; have hK1 : Mk3 w.heap.size ak al ah bk bl bh w1 := Mk3.later (by repeat' first | with_reducible (first | exact hK0 | exact hK1 | exact hK2 | exact hK3 | refine Mk3.drew ?_) | with_reducible refine Mk3.drewN ?_ _) hb1; have hbw1 : Below w.heap.size w w1 := (by ((refine Below.trans ?_ (hb1.mono ?_)) <;> repeat' first | with_reducible (first | exact bF _ _ | exact hbw1 | exact hbw2 | refine bA ?_ ?_ _ | refine bS ?_ ?_ _ | refine bD ?_ | refine below_drewN ?_ _) | ((try dsimp only); omega) | (simp; done) | (simp; omega) | omega)); clear a0 a1 a2 b0 b1 b2 r0 r1 r2 f0 f1 f2 hn; obtain ⟨a0, a1, a2, b0, b1, b2, r0, r1, r2, f0, f1, f2, hn⟩ := hK1.cells))
    | fail)
  exact bodyPost_ret (v := .tuple #[.agg #[vI vK 0, vI vK 0, vI vK 0], vI vK 1]) (by simp [results, Tryz.results153, go_sem, *]) rfl ⟨rfl, (by repeat' first | with_reducible (first | exact hbw | exact hbw1 | exact hbw2 | exact bF _ _ | refine bA ?_ ?_ _ | refine bS ?_ ?_ _ | refine bD ?_ | refine below_drewN ?_ _) | ((try dsimp only); omega) | (simp; done) | (simp; omega))⟩
theorem vmk_pb (code ak al ah bk bl bh : Int) (HP : Hid (isPlaceB ak = true)) (x0 : (bk == 0) = false) (x1 : (ak == 0) = false) (x2 : (code == 1) = false) (x3 : (ak == 1) = false) (x4 : (bk == 1) = false) (w : World) : Calls Tryz.prog 153 #[vI vK code, .agg #[vI vK ak, vI vK al, vI vK ah], .agg #[vI vK bk, vI vK bl, vI vK bh]] w fun e w' => e = .returned (.tuple #[.agg #[vI vK 0, vI vK 0, vI vK 0], vI vK 1]) ∧ Below w.heap.size w w' := by
  have hK0 := Mk3.start w ak al ah bk bl bh
  obtain ⟨a0, a1, a2, b0, b1, b2, r0, r1, r2, f0, f1, f2, hn⟩ := hK0.cells
  go_enter Tryz.func153, Tryz.ntmps153
  go_wp2_with (first
    | (go_at_call 181; go_must (refine (isPlace_any ak al ah _).mono ?_; rintro e w1 ⟨rfl, hb1⟩; rw [HP.out]; have hK1 : Mk3 w.heap.size ak al ah bk bl bh w1 := Mk3.later (by repeat' first | with_reducible (first | exact hK0 | exact hK1 | exact hK2 | exact hK3 | refine Mk3.drew ?_) | with_reducible refine Mk3.drewN ?_ _) hb1; have hbw1 : Below w.heap.size w w1 := (by ((refine Below.trans ?_ (hb1.mono ?_)) <;> repeat' first | with_reducible (first | exact bF _ _ | exact hbw1 | exact hbw2 | refine bA ?_ ?_ _ | refine bS ?_ ?_ _ | refine bD ?_ | refine below_drewN ?_ _) | ((try dsimp only); omega) | (simp; done) | (simp; omega) | omega)); clear a0 a1 a2 b0 b1 b2 r0 r1 r2 f0 f1 f2 hn; obtain ⟨a0, a1, a2, b0, b1, b2, r0, r1, r2, f0, f1, f2, hn⟩ := hK1.cells))
    | fail)
  exact bodyPost_ret (v := .tuple #[.agg #[vI vK 0, vI vK 0, vI vK 0], vI vK 1]) (by simp [results, Tryz.results153, go_sem, *]) rfl ⟨rfl, (by repeat' first | with_reducible (first | exact hbw | exact hbw1 | exact hbw2 | exact bF _ _ | refine bA ?_ ?_ _ | refine bS ?_ ?_ _ | refine bD ?_ | refine below_drewN ?_ _) | ((try dsimp only); omega) | (simp; done) | (simp; omega))⟩
theorem vmk_nadd (code ak al ah bk bl bh : Int) (dl dh : Int) (HD : Hid (∀ W : World, Calls Tryz.prog 182 #[vI vK code, .agg #[vI vK al, vI vK ah], .agg #[vI vK bl, vI vK bh]] W fun e w' => e = .returned (.agg #[vI vK dl, vI vK dh]) ∧ Below W.heap.size W w')) (gk gl gh E : Int) (HF : Hid (knoFurther bk (dl, dh) = (⟨gk, gl, gh⟩, E))) (HP : Hid (isPlaceB ak = false)) (HQ : Hid (isPlaceB bk = true)) (x0 : (bk == 0) = false) (x1 : (ak == 0) = false) (x2 : (code == 1) = false) (x3 : (ak == 1) = true) (x4 : (bk == 1) = false) (x5 : (code == 2) = true) (w : World) : Calls Tryz.prog 153 #[vI vK code, .agg #[vI vK ak, vI vK al, vI vK ah], .agg #[vI vK bk, vI vK bl, vI vK bh]] w fun e w' => e = .returned (.tuple #[.agg #[vI vK gk, vI vK gl, vI vK gh], vI vK E]) ∧ Below w.heap.size w w' := by
  have hK0 := Mk3.start w ak al ah bk bl bh
  obtain ⟨a0, a1, a2, b0, b1, b2, r0, r1, r2, f0, f1, f2, hn⟩ := hK0.cells
  go_enter Tryz.func153, Tryz.ntmps153
  go_wp2_with (first
    | (go_at_call 181; have hg := HP.out; clear hg; go_must (refine (isPlace_any ak al ah _).mono ?_; rintro e w1 ⟨rfl, hb1⟩; rw [HP.out]; clear HP; have hK1 : Mk3 w.heap.size ak al ah bk bl bh w1 := Mk3.later (by repeat' first | with_reducible (first | exact hK0 | exact hK1 | exact hK2 | exact hK3 | refine Mk3.drew ?_) | with_reducible refine Mk3.drewN ?_ _) hb1; have hbw1 : Below w.heap.size w w1 := (by ((refine Below.trans ?_ (hb1.mono ?_)) <;> repeat' first | with_reducible (first | exact bF _ _ | exact hbw1 | exact hbw2 | refine bA ?_ ?_ _ | refine bS ?_ ?_ _ | refine bD ?_ | refine below_drewN ?_ _) | ((try dsimp only); omega) | (simp; done) | (simp; omega) | omega)); clear a0 a1 a2 b0 b1 b2 r0 r1 r2 f0 f1 f2 hn; obtain ⟨a0, a1, a2, b0, b1, b2, r0, r1, r2, f0, f1, f2, hn⟩ := hK1.cells))
    | (go_at_call 181; go_must (refine (isPlace_any bk bl bh _).mono ?_; rintro e w2 ⟨rfl, hb2⟩; rw [HQ.out]; have hK2 : Mk3 w.heap.size ak al ah bk bl bh w2 := Mk3.later (by repeat' first | with_reducible (first | exact hK0 | exact hK1 | exact hK2 | exact hK3 | refine Mk3.drew ?_) | with_reducible refine Mk3.drewN ?_ _) hb2; have hbw2 : Below w.heap.size w w2 := (by ((refine Below.trans ?_ (hb2.mono ?_)) <;> repeat' first | with_reducible (first | exact bF _ _ | exact hbw1 | exact hbw2 | refine bA ?_ ?_ _ | refine bS ?_ ?_ _ | refine bD ?_ | refine below_drewN ?_ _) | ((try dsimp only); omega) | (simp; done) | (simp; omega) | omega)); clear a0 a1 a2 b0 b1 b2 r0 r1 r2 f0 f1 f2 hn; obtain ⟨a0, a1, a2, b0, b1, b2, r0, r1, r2, f0, f1, f2, hn⟩ := hK2.cells))
    | fail)
  go_region_held3 (fun w' => w'.cell? ⟨w.heap.size, 0, none⟩ = some (vI vK ak) ∧ w'.cell? ⟨w.heap.size, 1, none⟩ = some (vI vK al) ∧ w'.cell? ⟨w.heap.size, 2, none⟩ = some (vI vK ah) ∧ w'.cell? ⟨w.heap.size + 1, 0, none⟩ = some (vI vK bk) ∧ w'.cell? ⟨w.heap.size + 1, 1, none⟩ = some (vI vK bl) ∧ w'.cell? ⟨w.heap.size + 1, 2, none⟩ = some (vI vK bh)) (first | (simp [go_sem]; done) | (simp [go_sem, *]; done) | go_keep) (first
    | (go_at_call 182; go_must (refine (HD.out _).mono ?_; rintro e w2 ⟨rfl, hb2⟩; have hK2 : Mk3 w.heap.size ak al ah bk bl bh w2 := Mk3.later (by repeat' first | with_reducible (first | exact hK0 | exact hK1 | exact hK2 | exact hK3 | refine Mk3.drew ?_) | with_reducible refine Mk3.drewN ?_ _) hb2; have hbw2 : Below w.heap.size w w2 := (by ((refine Below.trans ?_ (hb2.mono ?_)) <;> repeat' first | with_reducible (first | exact bF _ _ | exact hbw1 | exact hbw2 | refine bA ?_ ?_ _ | refine bS ?_ ?_ _ | refine bD ?_ | refine below_drewN ?_ _) | ((try dsimp only); omega) | (simp; done) | (simp; omega) | omega)); clear a0 a1 a2 b0 b1 b2 r0 r1 r2 f0 f1 f2 hn; obtain ⟨a0, a1, a2, b0, b1, b2, r0, r1, r2, f0, f1, f2, hn⟩ := hK2.cells))
    | (go_at_call 184; go_must (refine (further_any bk dl dh _).mono ?_; rintro e w3 ⟨rfl, hb3⟩; rw [HF.out]; simp only [Kno.v]; have hK3 : Mk3 w.heap.size ak al ah bk bl bh w3 := Mk3.later (by repeat' first | with_reducible (first | exact hK0 | exact hK1 | exact hK2 | exact hK3 | refine Mk3.drew ?_) | with_reducible refine Mk3.drewN ?_ _) hb3; have hbw3 : Below w.heap.size w w3 := (by ((refine Below.trans ?_ (hb3.mono ?_)) <;> repeat' first | with_reducible (first | exact bF _ _ | exact hbw1 | exact hbw2 | refine bA ?_ ?_ _ | refine bS ?_ ?_ _ | refine bD ?_ | refine below_drewN ?_ _) | ((try dsimp only); omega) | (simp; done) | (simp; omega) | omega)); clear a0 a1 a2 b0 b1 b2 r0 r1 r2 f0 f1 f2 hn; obtain ⟨a0, a1, a2, b0, b1, b2, r0, r1, r2, f0, f1, f2, hn⟩ := hK3.cells)))
  all_goals go_wp2_with fail
  all_goals exact bodyPost_ret (v := .tuple #[.agg #[vI vK gk, vI vK gl, vI vK gh], vI vK E]) (by simp [results, Tryz.results153, go_sem, *]) rfl ⟨rfl, (by repeat' first | with_reducible (first | exact hbw | exact hbw1 | exact hbw2 | exact bF _ _ | refine bA ?_ ?_ _ | refine bS ?_ ?_ _ | refine bD ?_ | refine below_drewN ?_ _) | ((try dsimp only); omega) | (simp; done) | (simp; omega))⟩
theorem vmk_nno (code ak al ah bk bl bh : Int) (HP : Hid (isPlaceB ak = false)) (HQ : Hid (isPlaceB bk = true)) (x0 : (bk == 0) = false) (x1 : (ak == 0) = false) (x2 : (code == 1) = false) (x3 : (ak == 1) = true) (x4 : (bk == 1) = false) (x5 : (code == 2) = false) (w : World) : Calls Tryz.prog 153 #[vI vK code, .agg #[vI vK ak, vI vK al, vI vK ah], .agg #[vI vK bk, vI vK bl, vI vK bh]] w fun e w' => e = .returned (.tuple #[.agg #[vI vK 0, vI vK 0, vI vK 0], vI vK 1]) ∧ Below w.heap.size w w' := by
  have hK0 := Mk3.start w ak al ah bk bl bh
  obtain ⟨a0, a1, a2, b0, b1, b2, r0, r1, r2, f0, f1, f2, hn⟩ := hK0.cells
  go_enter Tryz.func153, Tryz.ntmps153
  go_wp2_with (first
    | (go_at_call 181; have hg := HP.out; clear hg; go_must (refine (isPlace_any ak al ah _).mono ?_; rintro e w1 ⟨rfl, hb1⟩; rw [HP.out]; clear HP; have hK1 : Mk3 w.heap.size ak al ah bk bl bh w1 := Mk3.later (by repeat' first | with_reducible (first | exact hK0 | exact hK1 | exact hK2 | exact hK3 | refine Mk3.drew ?_) | with_reducible refine Mk3.drewN ?_ _) hb1; have hbw1 : Below w.heap.size w w1 := (by ((refine Below.trans ?_ (hb1.mono ?_)) <;> repeat' first | with_reducible (first | exact bF _ _ | exact hbw1 | exact hbw2 | refine bA ?_ ?_ _ | refine bS ?_ ?_ _ | refine bD ?_ | refine below_drewN ?_ _) | ((try dsimp only); omega) | (simp; done) | (simp; omega) | omega)); clear a0 a1 a2 b0 b1 b2 r0 r1 r2 f0 f1 f2 hn; obtain ⟨a0, a1, a2, b0, b1, b2, r0, r1, r2, f0, f1, f2, hn⟩ := hK1.cells))
    | (go_at_call 181; go_must (refine (isPlace_any bk bl bh _).mono ?_; rintro e w2 ⟨rfl, hb2⟩; rw [HQ.out]; have hK2 : Mk3 w.heap.size ak al ah bk bl bh w2 := Mk3.later (by repeat' first | with_reducible (first | exact hK0 | exact hK1 | exact hK2 | exact hK3 | refine Mk3.drew ?_) | with_reducible refine Mk3.drewN ?_ _) hb2; have hbw2 : Below w.heap.size w w2 := (by ((refine Below.trans ?_ (hb2.mono ?_)) <;> repeat' first | with_reducible (first | exact bF _ _ | exact hbw1 | exact hbw2 | refine bA ?_ ?_ _ | refine bS ?_ ?_ _ | refine bD ?_ | refine below_drewN ?_ _) | ((try dsimp only); omega) | (simp; done) | (simp; omega) | omega)); clear a0 a1 a2 b0 b1 b2 r0 r1 r2 f0 f1 f2 hn; obtain ⟨a0, a1, a2, b0, b1, b2, r0, r1, r2, f0, f1, f2, hn⟩ := hK2.cells))
    | fail)
  exact bodyPost_ret (v := .tuple #[.agg #[vI vK 0, vI vK 0, vI vK 0], vI vK 1]) (by simp [results, Tryz.results153, go_sem, *]) rfl ⟨rfl, (by repeat' first | with_reducible (first | exact hbw | exact hbw1 | exact hbw2 | exact bF _ _ | refine bA ?_ ?_ _ | refine bS ?_ ?_ _ | refine bD ?_ | refine below_drewN ?_ _) | ((try dsimp only); omega) | (simp; done) | (simp; omega))⟩
theorem vmk_nb (code ak al ah bk bl bh : Int) (HP : Hid (isPlaceB ak = false)) (HQ : Hid (isPlaceB bk = false)) (x0 : (bk == 0) = false) (x1 : (ak == 0) = false) (x2 : (code == 1) = false) (x3 : (ak == 1) = true) (x4 : (bk == 1) = false) (w : World) : Calls Tryz.prog 153 #[vI vK code, .agg #[vI vK ak, vI vK al, vI vK ah], .agg #[vI vK bk, vI vK bl, vI vK bh]] w fun e w' => e = .returned (.tuple #[.agg #[vI vK 0, vI vK 0, vI vK 0], vI vK 1]) ∧ Below w.heap.size w w' := by
  have hK0 := Mk3.start w ak al ah bk bl bh
  obtain ⟨a0, a1, a2, b0, b1, b2, r0, r1, r2, f0, f1, f2, hn⟩ := hK0.cells
  go_enter Tryz.func153, Tryz.ntmps153
  go_wp2_with (first
    | (go_at_call 181; have hg := HP.out; clear hg; go_must (refine (isPlace_any ak al ah _).mono ?_; rintro e w1 ⟨rfl, hb1⟩; rw [HP.out]; clear HP; have hK1 : Mk3 w.heap.size ak al ah bk bl bh w1 := Mk3.later (by repeat' first | with_reducible (first | exact hK0 | exact hK1 | exact hK2 | exact hK3 | refine Mk3.drew ?_) | with_reducible refine Mk3.drewN ?_ _) hb1; have hbw1 : Below w.heap.size w w1 := (by ((refine Below.trans ?_ (hb1.mono ?_)) <;> repeat' first | with_reducible (first | exact bF _ _ | exact hbw1 | exact hbw2 | refine bA ?_ ?_ _ | refine bS ?_ ?_ _ | refine bD ?_ | refine below_drewN ?_ _) | ((try dsimp only); omega) | (simp; done) | (simp; omega) | omega)); clear a0 a1 a2 b0 b1 b2 r0 r1 r2 f0 f1 f2 hn; obtain ⟨a0, a1, a2, b0, b1, b2, r0, r1, r2, f0, f1, f2, hn⟩ := hK1.cells))
    | (go_at_call 181; go_must (refine (isPlace_any bk bl bh _).mono ?_; rintro e w2 ⟨rfl, hb2⟩; rw [HQ.out]; have hK2 : Mk3 w.heap.size ak al ah bk bl bh w2 := Mk3.later (by repeat' first | with_reducible (first | exact hK0 | exact hK1 | exact hK2 | exact hK3 | refine Mk3.drew ?_) | with_reducible refine Mk3.drewN ?_ _) hb2; have hbw2 : Below w.heap.size w w2 := (by ((refine Below.trans ?_ (hb2.mono ?_)) <;> repeat' first | with_reducible (first | exact bF _ _ | exact hbw1 | exact hbw2 | refine bA ?_ ?_ _ | refine bS ?_ ?_ _ | refine bD ?_ | refine below_drewN ?_ _) | ((try dsimp only); omega) | (simp; done) | (simp; omega) | omega)); clear a0 a1 a2 b0 b1 b2 r0 r1 r2 f0 f1 f2 hn; obtain ⟨a0, a1, a2, b0, b1, b2, r0, r1, r2, f0, f1, f2, hn⟩ := hK2.cells))
    | fail)
  exact bodyPost_ret (v := .tuple #[.agg #[vI vK 0, vI vK 0, vI vK 0], vI vK 1]) (by simp [results, Tryz.results153, go_sem, *]) rfl ⟨rfl, (by repeat' first | with_reducible (first | exact hbw | exact hbw1 | exact hbw2 | exact bF _ _ | refine bA ?_ ?_ _ | refine bS ?_ ?_ _ | refine bD ?_ | refine below_drewN ?_ _) | ((try dsimp only); omega) | (simp; done) | (simp; omega))⟩
theorem vmk_m (code ak al ah bk bl bh : Int) (HP : Hid (isPlaceB ak = false)) (x0 : (bk == 0) = false) (x1 : (ak == 0) = false) (x2 : (code == 1) = false) (x3 : (ak == 1) = false) (w : World) : Calls Tryz.prog 153 #[vI vK code, .agg #[vI vK ak, vI vK al, vI vK ah], .agg #[vI vK bk, vI vK bl, vI vK bh]] w fun e w' => e = .returned (.tuple #[.agg #[vI vK 0, vI vK 0, vI vK 0], vI vK 1]) ∧ Below w.heap.size w w' := by
  have hK0 := Mk3.start w ak al ah bk bl bh
  obtain ⟨a0, a1, a2, b0, b1, b2, r0, r1, r2, f0, f1, f2, hn⟩ := hK0.cells
  go_enter Tryz.func153, Tryz.ntmps153
  go_wp2_with (first
    | (go_at_call 181; go_must (refine (isPlace_any ak al ah _).mono ?_; rintro e w1 ⟨rfl, hb1⟩; rw [HP.out]; have hK1 : Mk3 w.heap.size ak al ah bk bl bh w1 := Mk3.later (by repeat' first | with_reducible (first | exact hK0 | exact hK1 | exact hK2 | exact hK3 | refine Mk3.drew ?_) | with_reducible refine Mk3.drewN ?_ _) hb1; have hbw1 : Below w.heap.size w w1 := (by ((refine Below.trans ?_ (hb1.mono ?_)) <;> repeat' first | with_reducible (first | exact bF _ _ | exact hbw1 | exact hbw2 | refine bA ?_ ?_ _ | refine bS ?_ ?_ _ | refine bD ?_ | refine below_drewN ?_ _) | ((try dsimp only); omega) | (simp; done) | (simp; omega) | omega)); clear a0 a1 a2 b0 b1 b2 r0 r1 r2 f0 f1 f2 hn; obtain ⟨a0, a1, a2, b0, b1, b2, r0, r1, r2, f0, f1, f2, hn⟩ := hK1.cells))
    | fail)
  exact bodyPost_ret (v := .tuple #[.agg #[vI vK 0, vI vK 0, vI vK 0], vI vK 1]) (by simp [results, Tryz.results153, go_sem, *]) rfl ⟨rfl, (by repeat' first | with_reducible (first | exact hbw | exact hbw1 | exact hbw2 | exact bF _ _ | refine bA ?_ ?_ _ | refine bS ?_ ?_ _ | refine bD ?_ | refine below_drewN ?_ _) | ((try dsimp only); omega) | (simp; done) | (simp; omega))⟩
end Go.Proofs.YtednmkhdehlojaaGreatDoor
