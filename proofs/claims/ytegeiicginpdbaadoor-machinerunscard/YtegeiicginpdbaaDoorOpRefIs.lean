/-
  What the document's own answer to Is returns. No conditions.
-/
import Derived.Test.YtegeiicginpdbaaDoorOpRefWalks
namespace Go.Proofs.YtegeiicginpdbaaDoor
open Go.ChangeShapes Go.WideShapes Go.ChangeAt Go.RowKit

theorem at_0 (x0 x1 x2 x3 x4 x5 x6 x7 x8 x9 : Bool) (w : World) : (Instr.index 155 (.agg #[.bool x0, .bool x1, .bool x2, .bool x3, .bool x4, .bool x5, .bool x6, .bool x7, .bool x8, .bool x9]) (.int .i64 0)).run Tryd.prog w = .ok (.bool x0) w := by kernel_rfl
theorem at_1 (x0 x1 x2 x3 x4 x5 x6 x7 x8 x9 : Bool) (w : World) : (Instr.index 155 (.agg #[.bool x0, .bool x1, .bool x2, .bool x3, .bool x4, .bool x5, .bool x6, .bool x7, .bool x8, .bool x9]) (.int .i64 1)).run Tryd.prog w = .ok (.bool x1) w := by kernel_rfl
theorem at_2 (x0 x1 x2 x3 x4 x5 x6 x7 x8 x9 : Bool) (w : World) : (Instr.index 155 (.agg #[.bool x0, .bool x1, .bool x2, .bool x3, .bool x4, .bool x5, .bool x6, .bool x7, .bool x8, .bool x9]) (.int .i64 2)).run Tryd.prog w = .ok (.bool x2) w := by kernel_rfl
theorem at_3 (x0 x1 x2 x3 x4 x5 x6 x7 x8 x9 : Bool) (w : World) : (Instr.index 155 (.agg #[.bool x0, .bool x1, .bool x2, .bool x3, .bool x4, .bool x5, .bool x6, .bool x7, .bool x8, .bool x9]) (.int .i64 3)).run Tryd.prog w = .ok (.bool x3) w := by kernel_rfl
theorem at_4 (x0 x1 x2 x3 x4 x5 x6 x7 x8 x9 : Bool) (w : World) : (Instr.index 155 (.agg #[.bool x0, .bool x1, .bool x2, .bool x3, .bool x4, .bool x5, .bool x6, .bool x7, .bool x8, .bool x9]) (.int .i64 4)).run Tryd.prog w = .ok (.bool x4) w := by kernel_rfl
theorem at_5 (x0 x1 x2 x3 x4 x5 x6 x7 x8 x9 : Bool) (w : World) : (Instr.index 155 (.agg #[.bool x0, .bool x1, .bool x2, .bool x3, .bool x4, .bool x5, .bool x6, .bool x7, .bool x8, .bool x9]) (.int .i64 5)).run Tryd.prog w = .ok (.bool x5) w := by kernel_rfl
theorem at_6 (x0 x1 x2 x3 x4 x5 x6 x7 x8 x9 : Bool) (w : World) : (Instr.index 155 (.agg #[.bool x0, .bool x1, .bool x2, .bool x3, .bool x4, .bool x5, .bool x6, .bool x7, .bool x8, .bool x9]) (.int .i64 6)).run Tryd.prog w = .ok (.bool x6) w := by kernel_rfl
theorem at_7 (x0 x1 x2 x3 x4 x5 x6 x7 x8 x9 : Bool) (w : World) : (Instr.index 155 (.agg #[.bool x0, .bool x1, .bool x2, .bool x3, .bool x4, .bool x5, .bool x6, .bool x7, .bool x8, .bool x9]) (.int .i64 7)).run Tryd.prog w = .ok (.bool x7) w := by kernel_rfl
theorem at_8 (x0 x1 x2 x3 x4 x5 x6 x7 x8 x9 : Bool) (w : World) : (Instr.index 155 (.agg #[.bool x0, .bool x1, .bool x2, .bool x3, .bool x4, .bool x5, .bool x6, .bool x7, .bool x8, .bool x9]) (.int .i64 8)).run Tryd.prog w = .ok (.bool x8) w := by kernel_rfl
theorem at_9 (x0 x1 x2 x3 x4 x5 x6 x7 x8 x9 : Bool) (w : World) : (Instr.index 155 (.agg #[.bool x0, .bool x1, .bool x2, .bool x3, .bool x4, .bool x5, .bool x6, .bool x7, .bool x8, .bool x9]) (.int .i64 9)).run Tryd.prog w = .ok (.bool x9) w := by kernel_rfl
theorem refIs_15 (a b : Int) (w : World) : Calls Tryd.prog 81 #[.int .i64 15, .int .i64 a, .int .i64 b] w fun e w' => e = .returned (.bool (isV 15 a b)) ∧ w' = w := by
  rw [isV_15]
  have ha := uns_wrap a
  have hb := uns_wrap b
  have hx := at_0
  go_enter Tryd.func81, Tryd.ntmps81
  go_wp2_with (go_at_call 21; refine (refAsks_any _ _).mono ?_; rintro e w' ⟨rfl, rfl⟩)
  go_ret
  exact ⟨rfl, rfl⟩
theorem refIs_16 (a b : Int) (w : World) : Calls Tryd.prog 81 #[.int .i64 16, .int .i64 a, .int .i64 b] w fun e w' => e = .returned (.bool (isV 16 a b)) ∧ w' = w := by
  rw [isV_16]
  have ha := uns_wrap a
  have hb := uns_wrap b
  have hx := at_1
  go_enter Tryd.func81, Tryd.ntmps81
  go_wp2_with (go_at_call 21; refine (refAsks_any _ _).mono ?_; rintro e w' ⟨rfl, rfl⟩)
  go_ret
  exact ⟨rfl, rfl⟩
theorem refIs_17 (a b : Int) (w : World) : Calls Tryd.prog 81 #[.int .i64 17, .int .i64 a, .int .i64 b] w fun e w' => e = .returned (.bool (isV 17 a b)) ∧ w' = w := by
  rw [isV_17]
  have ha := uns_wrap a
  have hb := uns_wrap b
  have hx := at_2
  go_enter Tryd.func81, Tryd.ntmps81
  go_wp2_with (go_at_call 21; refine (refAsks_any _ _).mono ?_; rintro e w' ⟨rfl, rfl⟩)
  go_ret
  exact ⟨rfl, rfl⟩
theorem refIs_18 (a b : Int) (w : World) : Calls Tryd.prog 81 #[.int .i64 18, .int .i64 a, .int .i64 b] w fun e w' => e = .returned (.bool (isV 18 a b)) ∧ w' = w := by
  rw [isV_18]
  have ha := uns_wrap a
  have hb := uns_wrap b
  have hx := at_3
  go_enter Tryd.func81, Tryd.ntmps81
  go_wp2_with (go_at_call 21; refine (refAsks_any _ _).mono ?_; rintro e w' ⟨rfl, rfl⟩)
  go_ret
  exact ⟨rfl, rfl⟩
theorem refIs_19 (a b : Int) (w : World) : Calls Tryd.prog 81 #[.int .i64 19, .int .i64 a, .int .i64 b] w fun e w' => e = .returned (.bool (isV 19 a b)) ∧ w' = w := by
  rw [isV_19]
  have ha := uns_wrap a
  have hb := uns_wrap b
  have hx := at_4
  go_enter Tryd.func81, Tryd.ntmps81
  go_wp2_with (go_at_call 21; refine (refAsks_any _ _).mono ?_; rintro e w' ⟨rfl, rfl⟩)
  go_ret
  exact ⟨rfl, rfl⟩
theorem refIs_20 (a b : Int) (w : World) : Calls Tryd.prog 81 #[.int .i64 20, .int .i64 a, .int .i64 b] w fun e w' => e = .returned (.bool (isV 20 a b)) ∧ w' = w := by
  rw [isV_20]
  have ha := uns_wrap a
  have hb := uns_wrap b
  have hx := at_5
  go_enter Tryd.func81, Tryd.ntmps81
  go_wp2_with (go_at_call 21; refine (refAsks_any _ _).mono ?_; rintro e w' ⟨rfl, rfl⟩)
  go_ret
  exact ⟨rfl, rfl⟩
theorem refIs_21 (a b : Int) (w : World) : Calls Tryd.prog 81 #[.int .i64 21, .int .i64 a, .int .i64 b] w fun e w' => e = .returned (.bool (isV 21 a b)) ∧ w' = w := by
  rw [isV_21]
  have ha := uns_wrap a
  have hb := uns_wrap b
  have hx := at_6
  go_enter Tryd.func81, Tryd.ntmps81
  go_wp2_with (go_at_call 21; refine (refAsks_any _ _).mono ?_; rintro e w' ⟨rfl, rfl⟩)
  go_ret
  exact ⟨rfl, rfl⟩
theorem refIs_22 (a b : Int) (w : World) : Calls Tryd.prog 81 #[.int .i64 22, .int .i64 a, .int .i64 b] w fun e w' => e = .returned (.bool (isV 22 a b)) ∧ w' = w := by
  rw [isV_22]
  have ha := uns_wrap a
  have hb := uns_wrap b
  have hx := at_7
  go_enter Tryd.func81, Tryd.ntmps81
  go_wp2_with (go_at_call 21; refine (refAsks_any _ _).mono ?_; rintro e w' ⟨rfl, rfl⟩)
  go_ret
  exact ⟨rfl, rfl⟩
theorem refIs_23 (a b : Int) (w : World) : Calls Tryd.prog 81 #[.int .i64 23, .int .i64 a, .int .i64 b] w fun e w' => e = .returned (.bool (isV 23 a b)) ∧ w' = w := by
  rw [isV_23]
  have ha := uns_wrap a
  have hb := uns_wrap b
  have hx := at_8
  go_enter Tryd.func81, Tryd.ntmps81
  go_wp2_with (go_at_call 21; refine (refAsks_any _ _).mono ?_; rintro e w' ⟨rfl, rfl⟩)
  go_ret
  exact ⟨rfl, rfl⟩
theorem refIs_24 (a b : Int) (w : World) : Calls Tryd.prog 81 #[.int .i64 24, .int .i64 a, .int .i64 b] w fun e w' => e = .returned (.bool (isV 24 a b)) ∧ w' = w := by
  rw [isV_24]
  have ha := uns_wrap a
  have hb := uns_wrap b
  have hx := at_9
  go_enter Tryd.func81, Tryd.ntmps81
  go_wp2_with (go_at_call 21; refine (refAsks_any _ _).mono ?_; rintro e w' ⟨rfl, rfl⟩)
  go_ret
  exact ⟨rfl, rfl⟩
theorem refIs_no (c a b : Int) (hc : c < 15 ∨ 24 < c) (w : World) : Calls Tryd.prog 81 #[.int .i64 c, .int .i64 a, .int .i64 b] w fun e w' => e = .returned (.bool (isV c a b)) ∧ w' = w := by
  rw [isV_no a b hc]
  have hf : (decide (15 ≤ c) && decide (c ≤ 24)) = false := by
    rcases hc with h | h
    · rw [decide_eq_false (by omega : ¬ 15 ≤ c)]; rfl
    · rw [decide_eq_false (by omega : ¬ c ≤ 24), Bool.and_false]
  go_enter Tryd.func81, Tryd.ntmps81
  go_wp2_with (go_at_call 21; refine (refAsks_any _ _).mono ?_; rw [hf]; rintro e w' ⟨rfl, rfl⟩)
  go_ret
  exact ⟨rfl, rfl⟩
theorem refIs_any (c a b : Int) (w : World) : Calls Tryd.prog 81 #[.int .i64 c, .int .i64 a, .int .i64 b] w fun e w' => e = .returned (.bool (isV c a b)) ∧ w' = w := by
  by_cases hc : c < 15 ∨ 24 < c
  · exact refIs_no c a b hc w
  · have h : c = 15 ∨ c = 16 ∨ c = 17 ∨ c = 18 ∨ c = 19 ∨ c = 20 ∨ c = 21 ∨ c = 22 ∨ c = 23 ∨ c = 24 := by omega
    rcases h with rfl | rfl | rfl | rfl | rfl | rfl | rfl | rfl | rfl | rfl
    · exact refIs_15 a b w
    · exact refIs_16 a b w
    · exact refIs_17 a b w
    · exact refIs_18 a b w
    · exact refIs_19 a b w
    · exact refIs_20 a b w
    · exact refIs_21 a b w
    · exact refIs_22 a b w
    · exact refIs_23 a b w
    · exact refIs_24 a b w
end Go.Proofs.YtegeiicginpdbaaDoor
