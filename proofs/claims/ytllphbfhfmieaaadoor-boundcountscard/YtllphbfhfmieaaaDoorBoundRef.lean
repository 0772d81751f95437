/-
  What the document's own One, Meet, Join, add, sub and down return: as functions on integers; the world below is as it was. Conditions: the arguments are numbers of 64 bits.
-/
import Derived.Test.YtllphbfhfmieaaaDoorOpRefFill
import Derived.Test.YtllphbfhfmieaaaDoorBoundWalks
import Derived.LoopN
namespace Go.Proofs.YtllphbfhfmieaaaDoor
open Go.ChangeShapes Go.WideShapes Go.ChangeAt Go.RowKit
set_option linter.unusedVariables false

theorem rone_at (n : Int) (w : World) : Calls Tryd.prog 49 #[.int .i64 n] w fun e w' => e = .returned (.agg #[.int .i64 n, .int .i64 n]) ∧ w' = w.alloc (.cells #[.int .i64 n, .int .i64 n] 39) := by
  go_enter Tryd.func49, Tryd.ntmps49
  go_wp2
  exact bodyPost_ret (v := .agg #[.int .i64 n, .int .i64 n]) (by simp [results, Tryd.results49, go_sem]) rfl ⟨rfl, rfl⟩
theorem rjoin_at (al ah bl bh : Int) (w : World) : Calls Tryd.prog 15 #[.agg #[.int .i64 al, .int .i64 ah], .agg #[.int .i64 bl, .int .i64 bh]] w fun e w' => e = .returned (.agg #[.int .i64 (min al bl), .int .i64 (max ah bh)]) ∧ w' = ((w.alloc (.cells #[.int .i64 al, .int .i64 ah] 39)).alloc (.cells #[.int .i64 bl, .int .i64 bh] 39)).alloc (.cells #[.int .i64 (min al bl), .int .i64 (max ah bh)] 39) := by
  go_enter Tryd.func15, Tryd.ntmps15
  go_wp2
  exact bodyPost_ret (v := .agg #[.int .i64 (min al bl), .int .i64 (max ah bh)]) (by simp [results, Tryd.results15, go_sem]) rfl ⟨rfl, rfl⟩
theorem rmeet_yes (al ah bl bh : Int) (h : max al bl ≤ min ah bh) (w : World) : Calls Tryd.prog 18 #[.agg #[.int .i64 al, .int .i64 ah], .agg #[.int .i64 bl, .int .i64 bh]] w fun e w' => e = .returned (.tuple #[.agg #[.int .i64 (max al bl), .int .i64 (min ah bh)], .bool true]) ∧ Below w.heap.size w w' := by
  have _h : decide (min ah bh < max al bl) = false := by simp; omega
  go_enter Tryd.func18, Tryd.ntmps18
  go_wp2_with fail
  all_goals exact bodyPost_ret (v := .tuple #[.agg #[.int .i64 (max al bl), .int .i64 (min ah bh)], .bool true]) (by simp [results, Tryd.results18, go_sem]) rfl ⟨rfl, by repeat' first | exact Below.refl _ _ | refine Below.alloc ?_ ?_ _ | refine Below.setCell ?_ ?_ _ | refine Below.drew ?_ | refine below_drewN ?_ _ | (simp; done) | (simp; omega) | (simp [drew_size]; done) | (simp [drew_size]; omega) | omega⟩
theorem rmeet_no (al ah bl bh : Int) (h : min ah bh < max al bl) (w : World) : Calls Tryd.prog 18 #[.agg #[.int .i64 al, .int .i64 ah], .agg #[.int .i64 bl, .int .i64 bh]] w fun e w' => e = .returned (.tuple #[.agg #[.int .i64 0, .int .i64 0], .bool false]) ∧ Below w.heap.size w w' := by
  have _h : decide (min ah bh < max al bl) = true := by simp; omega
  go_enter Tryd.func18, Tryd.ntmps18
  go_wp2_with fail
  all_goals exact bodyPost_ret (v := .tuple #[.agg #[.int .i64 0, .int .i64 0], .bool false]) (by simp [results, Tryd.results18, go_sem]) rfl ⟨rfl, by repeat' first | exact Below.refl _ _ | refine Below.alloc ?_ ?_ _ | refine Below.setCell ?_ ?_ _ | refine Below.drew ?_ | refine below_drewN ?_ _ | (simp; done) | (simp; omega) | (simp [drew_size]; done) | (simp [drew_size]; omega) | omega⟩
theorem radd_hi (a b : Int) (pa : -9223372036854775808 ≤ a) (qa : a ≤ 9223372036854775807) (pb : -9223372036854775808 ≤ b) (qb : b ≤ 9223372036854775807) (h1 : 0 < b) (h2 : 9223372036854775807 - b < a) (w : World) : Calls Tryd.prog 47 #[.int .i64 a, .int .i64 b] w fun e w' => e = .returned (.tuple #[.int .i64 0, .bool false]) ∧ w' = w := by
  have _x : decide (9223372036854775807 - b < a) = true := by simp; omega
  go_enter Tryd.func47, Tryd.ntmps47
  go_wp2
  go_ret2
  exact ⟨rfl, rfl⟩
theorem radd_lo (a b : Int) (pa : -9223372036854775808 ≤ a) (qa : a ≤ 9223372036854775807) (pb : -9223372036854775808 ≤ b) (qb : b ≤ 9223372036854775807) (h1 : b < 0) (h2 : a < -9223372036854775808 - b) (w : World) : Calls Tryd.prog 47 #[.int .i64 a, .int .i64 b] w fun e w' => e = .returned (.tuple #[.int .i64 0, .bool false]) ∧ w' = w := by
  have _y : decide (0 < b) = false := by simp; omega
  have _x : decide (a < -9223372036854775808 - b) = true := by simp; omega
  go_enter Tryd.func47, Tryd.ntmps47
  go_wp2
  go_ret2
  exact ⟨rfl, rfl⟩
theorem radd_pos (a b : Int) (pa : -9223372036854775808 ≤ a) (qa : a ≤ 9223372036854775807) (pb : -9223372036854775808 ≤ b) (qb : b ≤ 9223372036854775807) (h1 : 0 < b) (h2 : a ≤ 9223372036854775807 - b) (w : World) : Calls Tryd.prog 47 #[.int .i64 a, .int .i64 b] w fun e w' => e = .returned (.tuple #[.int .i64 (a + b), .bool true]) ∧ w' = w := by
  have _x : decide (9223372036854775807 - b < a) = false := by simp; omega
  have _y : decide (b < 0) = false := by simp; omega
  go_enter Tryd.func47, Tryd.ntmps47
  go_wp2
  go_ret2
  exact ⟨rfl, rfl⟩
theorem radd_neg (a b : Int) (pa : -9223372036854775808 ≤ a) (qa : a ≤ 9223372036854775807) (pb : -9223372036854775808 ≤ b) (qb : b ≤ 9223372036854775807) (h1 : b < 0) (h2 : -9223372036854775808 - b ≤ a) (w : World) : Calls Tryd.prog 47 #[.int .i64 a, .int .i64 b] w fun e w' => e = .returned (.tuple #[.int .i64 (a + b), .bool true]) ∧ w' = w := by
  have _y : decide (0 < b) = false := by simp; omega
  have _x : decide (a < -9223372036854775808 - b) = false := by simp; omega
  go_enter Tryd.func47, Tryd.ntmps47
  go_wp2
  go_ret2
  exact ⟨rfl, rfl⟩
theorem radd_nul (a b : Int) (pa : -9223372036854775808 ≤ a) (qa : a ≤ 9223372036854775807) (pb : -9223372036854775808 ≤ b) (qb : b ≤ 9223372036854775807) (h1 : b = 0) (w : World) : Calls Tryd.prog 47 #[.int .i64 a, .int .i64 b] w fun e w' => e = .returned (.tuple #[.int .i64 (wrap64 (a + b)), .bool true]) ∧ w' = w := by
  have _y : decide (0 < b) = false := by simp; omega
  have _x : decide (b < 0) = false := by simp; omega
  clear h1
  go_enter Tryd.func47, Tryd.ntmps47
  go_wp2
  go_ret2
  exact ⟨rfl, rfl⟩
theorem rsub_hi (a b : Int) (pa : -9223372036854775808 ≤ a) (qa : a ≤ 9223372036854775807) (pb : -9223372036854775808 ≤ b) (qb : b ≤ 9223372036854775807) (h1 : 0 < b) (h2 : a < -9223372036854775808 + b) (w : World) : Calls Tryd.prog 48 #[.int .i64 a, .int .i64 b] w fun e w' => e = .returned (.tuple #[.int .i64 0, .bool false]) ∧ w' = w := by
  have _x : decide (a < -9223372036854775808 + b) = true := by simp; omega
  go_enter Tryd.func48, Tryd.ntmps48
  go_wp2
  go_ret2
  exact ⟨rfl, rfl⟩
theorem rsub_lo (a b : Int) (pa : -9223372036854775808 ≤ a) (qa : a ≤ 9223372036854775807) (pb : -9223372036854775808 ≤ b) (qb : b ≤ 9223372036854775807) (h1 : b < 0) (h2 : 9223372036854775807 + b < a) (w : World) : Calls Tryd.prog 48 #[.int .i64 a, .int .i64 b] w fun e w' => e = .returned (.tuple #[.int .i64 0, .bool false]) ∧ w' = w := by
  have _y : decide (0 < b) = false := by simp; omega
  have _x : decide (9223372036854775807 + b < a) = true := by simp; omega
  go_enter Tryd.func48, Tryd.ntmps48
  go_wp2
  go_ret2
  exact ⟨rfl, rfl⟩
theorem rsub_pos (a b : Int) (pa : -9223372036854775808 ≤ a) (qa : a ≤ 9223372036854775807) (pb : -9223372036854775808 ≤ b) (qb : b ≤ 9223372036854775807) (h1 : 0 < b) (h2 : -9223372036854775808 + b ≤ a) (w : World) : Calls Tryd.prog 48 #[.int .i64 a, .int .i64 b] w fun e w' => e = .returned (.tuple #[.int .i64 (a - b), .bool true]) ∧ w' = w := by
  have _x : decide (a < -9223372036854775808 + b) = false := by simp; omega
  have _y : decide (b < 0) = false := by simp; omega
  go_enter Tryd.func48, Tryd.ntmps48
  go_wp2
  go_ret2
  exact ⟨rfl, rfl⟩
theorem rsub_neg (a b : Int) (pa : -9223372036854775808 ≤ a) (qa : a ≤ 9223372036854775807) (pb : -9223372036854775808 ≤ b) (qb : b ≤ 9223372036854775807) (h1 : b < 0) (h2 : a ≤ 9223372036854775807 + b) (w : World) : Calls Tryd.prog 48 #[.int .i64 a, .int .i64 b] w fun e w' => e = .returned (.tuple #[.int .i64 (a - b), .bool true]) ∧ w' = w := by
  have _y : decide (0 < b) = false := by simp; omega
  have _x : decide (9223372036854775807 + b < a) = false := by simp; omega
  go_enter Tryd.func48, Tryd.ntmps48
  go_wp2
  go_ret2
  exact ⟨rfl, rfl⟩
theorem rsub_nul (a b : Int) (pa : -9223372036854775808 ≤ a) (qa : a ≤ 9223372036854775807) (pb : -9223372036854775808 ≤ b) (qb : b ≤ 9223372036854775807) (h1 : b = 0) (w : World) : Calls Tryd.prog 48 #[.int .i64 a, .int .i64 b] w fun e w' => e = .returned (.tuple #[.int .i64 (wrap64 (a - b)), .bool true]) ∧ w' = w := by
  have _y : decide (0 < b) = false := by simp; omega
  have _x : decide (b < 0) = false := by simp; omega
  clear h1
  go_enter Tryd.func48, Tryd.ntmps48
  go_wp2
  go_ret2
  exact ⟨rfl, rfl⟩
theorem radd_is (a b : Int) (pa : -9223372036854775808 ≤ a) (qa : a ≤ 9223372036854775807) (pb : -9223372036854775808 ≤ b) (qb : b ≤ 9223372036854775807) (w : World) : Calls Tryd.prog 47 #[.int .i64 a, .int .i64 b] w fun e w' => e = .returned (.tuple #[.int .i64 (if fits (a + b) then a + b else 0), .bool (fits (a + b))]) ∧ w' = w := by
  by_cases h0 : b = 0
  · have hf : fits (a + b) = true := (fits_iff _).2 (by omega)
    rw [hf]
    have e := radd_nul a b pa qa pb qb h0 w
    rw [wrap64_in (by omega) (by omega)] at e
    exact e
  · by_cases h1 : 0 < b
    · by_cases h2 : 9223372036854775807 - b < a
      · have hf : fits (a + b) = false := (fits_no _).2 (by omega)
        rw [hf]
        exact radd_hi a b pa qa pb qb h1 h2 w
      · have hf : fits (a + b) = true := (fits_iff _).2 (by omega)
        rw [hf]
        exact radd_pos a b pa qa pb qb h1 (by omega) w
    · by_cases h2 : a < -9223372036854775808 - b
      · have hf : fits (a + b) = false := (fits_no _).2 (by omega)
        rw [hf]
        exact radd_lo a b pa qa pb qb (by omega) h2 w
      · have hf : fits (a + b) = true := (fits_iff _).2 (by omega)
        rw [hf]
        exact radd_neg a b pa qa pb qb (by omega) (by omega) w
theorem rsub_is (a b : Int) (pa : -9223372036854775808 ≤ a) (qa : a ≤ 9223372036854775807) (pb : -9223372036854775808 ≤ b) (qb : b ≤ 9223372036854775807) (w : World) : Calls Tryd.prog 48 #[.int .i64 a, .int .i64 b] w fun e w' => e = .returned (.tuple #[.int .i64 (if fits (a - b) then a - b else 0), .bool (fits (a - b))]) ∧ w' = w := by
  by_cases h0 : b = 0
  · have hf : fits (a - b) = true := (fits_iff _).2 (by omega)
    rw [hf]
    have e := rsub_nul a b pa qa pb qb h0 w
    rw [wrap64_in (by omega) (by omega)] at e
    exact e
  · by_cases h1 : 0 < b
    · by_cases h2 : a < -9223372036854775808 + b
      · have hf : fits (a - b) = false := (fits_no _).2 (by omega)
        rw [hf]
        exact rsub_hi a b pa qa pb qb h1 h2 w
      · have hf : fits (a - b) = true := (fits_iff _).2 (by omega)
        rw [hf]
        exact rsub_pos a b pa qa pb qb h1 (by omega) w
    · by_cases h2 : 9223372036854775807 + b < a
      · have hf : fits (a - b) = false := (fits_no _).2 (by omega)
        rw [hf]
        exact rsub_lo a b pa qa pb qb (by omega) h2 w
      · have hf : fits (a - b) = true := (fits_iff _).2 (by omega)
        rw [hf]
        exact rsub_neg a b pa qa pb qb (by omega) (by omega) w
theorem rdown_is (a k : Int) (pa : -9223372036854775808 ≤ a) (qa : a ≤ 9223372036854775807) (pk : -9223372036854775808 ≤ k) (qk : k ≤ 9223372036854775807) (w : World) : Calls Tryd.prog 52 #[.int .i64 a, .int .i64 k] w fun e w' => e = .returned (.int .i64 (a / 2 ^ sixBits k)) ∧ w' = w := by
  rw [← doesV_12]
  go_enter Tryd.func52, Tryd.ntmps52
  go_wp2_with (go_at_call 51; refine (ref_any _ _ _ pa qa pk qk _).mono ?_; rintro e w' ⟨rfl, rfl⟩)
  go_ret
  exact ⟨rfl, rfl⟩
end Go.Proofs.YtllphbfhfmieaaaDoor
