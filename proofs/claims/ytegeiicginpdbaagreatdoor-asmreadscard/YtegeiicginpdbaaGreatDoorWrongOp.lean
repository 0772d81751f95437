/-
  What op.wrong returns at steps whose code and registers are such as there are: by classes of codes; the world below is as it was. Conditions: as each says.
-/
import Derived.Test.YtegeiicginpdbaaGreatDoorWrong
namespace Go.Proofs.YtegeiicginpdbaaGreatDoor
open Go.ChangeShapes Go.WideShapes Go.ChangeAt Go.RowKit

theorem old_cells {W w1 : World} (hb : Below W.heap.size W w1) : (∀ b o, b < W.heap.size → w1.cell? ⟨b, o, none⟩ = W.cell? ⟨b, o, none⟩) ∧ (∀ b o, b < W.heap.size → w1.frozen? ⟨b, o, none⟩ = W.frozen? ⟨b, o, none⟩) :=
  ⟨fun b o h => hb.cell (p := ⟨b, o, none⟩) h, fun b o h => hb.frozen (p := ⟨b, o, none⟩) h⟩
theorem op_chg_more (c d s o n b : Int) (r : Bool) (h1 : 1 ≤ c) (h2 : c ≤ 13) (d1 : 0 ≤ d) (d2 : d ≤ 10) (s1 : 0 ≤ s) (s2 : s ≤ 10) (dt : d ≠ 10) (hm : moreV c d s r o n = true) (w : World) :
    Calls Tryz.prog 39 #[.agg #[.int .i64 c, .int .i64 d, .int .i64 s, .bool r, .int .i64 o, .int .i64 n], .int .i64 b, .func (Fn.func 38) #[] #[]] w fun e w' => e = .returned (.int .i64 1) ∧ Below w.heap.size w w' := by
  have e14 : (c == 14) = false := by simp; omega
  have e25 : (c == 25) = false := by simp; omega
  have e26 : (c == 26) = false := by simp; omega
  have e27 : (c == 27) = false := by simp; omega
  have e28 : (c == 28) = false := by simp; omega
  have e10 : (d == 10) = false := by simpa using dt
  have z0 : decide (0 ≤ d) = true := by simp; omega
  have z1 : decide (d < 11) = true := by simp; omega
  have z2 : decide (0 ≤ s) = true := by simp; omega
  have z3 : decide (s < 11) = true := by simp; omega
  have z4 : decide (c < 1) = false := by simp; omega
  have z5 : decide (28 < c) = false := by simp; omega
  have z6 : decide (1 ≤ c) = true := by simp; omega
  have z7 : decide (c ≤ 13) = true := by simp; omega
  have z8 : decide (15 ≤ c) = false := by simp; omega
  go_enter Tryz.func39, Tryz.ntmps39
  go_wp2_with (first | (go_at_call 69; refine (more_any _ _ _ _ _ _ (by omega) (by omega) _).mono ?_; rw [hm]; rintro e w1 ⟨rfl, hb⟩; obtain ⟨hcl, hfr⟩ := old_cells hb) | go_in)
  all_goals
    go_ret
    exact ⟨rfl, (((Below.refl _ _).alloc (Nat.le_refl _) _).trans (hb.mono (by simp)))⟩
theorem op_chg_end (c d s o n b : Int) (r : Bool) (h1 : 1 ≤ c) (h2 : c ≤ 13) (d1 : 0 ≤ d) (d2 : d ≤ 10) (s1 : 0 ≤ s) (s2 : s ≤ 10) (dt : d ≠ 10) (hm : moreV c d s r o n = false) (w : World) :
    Calls Tryz.prog 39 #[.agg #[.int .i64 c, .int .i64 d, .int .i64 s, .bool r, .int .i64 o, .int .i64 n], .int .i64 b, .func (Fn.func 38) #[] #[]] w fun e w' => e = .returned (.int .i64 (endV b)) ∧ Below w.heap.size w w' := by
  have e14 : (c == 14) = false := by simp; omega
  have e25 : (c == 25) = false := by simp; omega
  have e26 : (c == 26) = false := by simp; omega
  have e27 : (c == 27) = false := by simp; omega
  have e28 : (c == 28) = false := by simp; omega
  have e10 : (d == 10) = false := by simpa using dt
  have z0 : decide (0 ≤ d) = true := by simp; omega
  have z1 : decide (d < 11) = true := by simp; omega
  have z2 : decide (0 ≤ s) = true := by simp; omega
  have z3 : decide (s < 11) = true := by simp; omega
  have z4 : decide (c < 1) = false := by simp; omega
  have z5 : decide (28 < c) = false := by simp; omega
  have z6 : decide (1 ≤ c) = true := by simp; omega
  have z7 : decide (c ≤ 13) = true := by simp; omega
  have z8 : decide (15 ≤ c) = false := by simp; omega
  go_enter Tryz.func39, Tryz.ntmps39
  go_wp2_with (first | (go_at_call 69; refine (more_any _ _ _ _ _ _ (by omega) (by omega) _).mono ?_; rw [hm]; rintro e w1 ⟨rfl, hb⟩; obtain ⟨hcl, hfr⟩ := old_cells hb) | go_in)
  all_goals
    go_ret
    exact ⟨ret_int (by simp [endV, *]), (((Below.refl _ _).alloc (Nat.le_refl _) _).trans (hb.mono (by simp)))⟩
theorem op_ask_more (c d s o n b : Int) (r : Bool) (h1 : 15 ≤ c) (h2 : c ≤ 24) (d1 : 0 ≤ d) (d2 : d ≤ 10) (s1 : 0 ≤ s) (s2 : s ≤ 10) (hm : moreV c d s r o n = true) (w : World) :
    Calls Tryz.prog 39 #[.agg #[.int .i64 c, .int .i64 d, .int .i64 s, .bool r, .int .i64 o, .int .i64 n], .int .i64 b, .func (Fn.func 38) #[] #[]] w fun e w' => e = .returned (.int .i64 1) ∧ Below w.heap.size w w' := by
  have e14 : (c == 14) = false := by simp; omega
  have e25 : (c == 25) = false := by simp; omega
  have e26 : (c == 26) = false := by simp; omega
  have e27 : (c == 27) = false := by simp; omega
  have e28 : (c == 28) = false := by simp; omega
  have z0 : decide (0 ≤ d) = true := by simp; omega
  have z1 : decide (d < 11) = true := by simp; omega
  have z2 : decide (0 ≤ s) = true := by simp; omega
  have z3 : decide (s < 11) = true := by simp; omega
  have z4 : decide (c < 1) = false := by simp; omega
  have z5 : decide (28 < c) = false := by simp; omega
  have z6 : decide (1 ≤ c) = true := by simp; omega
  have z7 : decide (c ≤ 13) = false := by simp; omega
  have z8 : decide (15 ≤ c) = true := by simp; omega
  have z9 : decide (c ≤ 24) = true := by simp; omega
  go_enter Tryz.func39, Tryz.ntmps39
  go_wp2_with (first | (go_at_call 69; refine (more_any _ _ _ _ _ _ (by omega) (by omega) _).mono ?_; rw [hm]; rintro e w1 ⟨rfl, hb⟩; obtain ⟨hcl, hfr⟩ := old_cells hb) | go_in)
  all_goals
    go_ret
    exact ⟨rfl, (((Below.refl _ _).alloc (Nat.le_refl _) _).trans (hb.mono (by simp)))⟩
theorem op_ask_end (c d s o n b : Int) (r : Bool) (h1 : 15 ≤ c) (h2 : c ≤ 24) (d1 : 0 ≤ d) (d2 : d ≤ 10) (s1 : 0 ≤ s) (s2 : s ≤ 10) (hm : moreV c d s r o n = false) (w : World) :
    Calls Tryz.prog 39 #[.agg #[.int .i64 c, .int .i64 d, .int .i64 s, .bool r, .int .i64 o, .int .i64 n], .int .i64 b, .func (Fn.func 38) #[] #[]] w fun e w' => e = .returned (.int .i64 (leadV o b)) ∧ Below w.heap.size w w' := by
  have e14 : (c == 14) = false := by simp; omega
  have e25 : (c == 25) = false := by simp; omega
  have e26 : (c == 26) = false := by simp; omega
  have e27 : (c == 27) = false := by simp; omega
  have e28 : (c == 28) = false := by simp; omega
  have z0 : decide (0 ≤ d) = true := by simp; omega
  have z1 : decide (d < 11) = true := by simp; omega
  have z2 : decide (0 ≤ s) = true := by simp; omega
  have z3 : decide (s < 11) = true := by simp; omega
  have z4 : decide (c < 1) = false := by simp; omega
  have z5 : decide (28 < c) = false := by simp; omega
  have z6 : decide (1 ≤ c) = true := by simp; omega
  have z7 : decide (c ≤ 13) = false := by simp; omega
  have z8 : decide (15 ≤ c) = true := by simp; omega
  have z9 : decide (c ≤ 24) = true := by simp; omega
  go_enter Tryz.func39, Tryz.ntmps39
  go_wp2_with (first | (go_at_call 69; refine (more_any _ _ _ _ _ _ (by omega) (by omega) _).mono ?_; rw [hm]; rintro e w1 ⟨rfl, hb⟩; obtain ⟨hcl, hfr⟩ := old_cells hb) | go_in)
  all_goals
    go_ret
    exact ⟨ret_int (by unfold leadV endV; (repeat' split) <;> omega), (((Below.refl _ _).alloc (Nat.le_refl _) _).trans (hb.mono (by simp)))⟩
theorem op_c14_more (d s o n b : Int) (r : Bool) (d1 : 0 ≤ d) (d2 : d ≤ 10) (s1 : 0 ≤ s) (s2 : s ≤ 10) (hm : moreV 14 d s r o n = true) (w : World) :
    Calls Tryz.prog 39 #[.agg #[.int .i64 14, .int .i64 d, .int .i64 s, .bool r, .int .i64 o, .int .i64 n], .int .i64 b, .func (Fn.func 38) #[] #[]] w fun e w' => e = .returned (.int .i64 1) ∧ Below w.heap.size w w' := by
  have z0 : decide (0 ≤ d) = true := by simp; omega
  have z1 : decide (d < 11) = true := by simp; omega
  have z2 : decide (0 ≤ s) = true := by simp; omega
  have z3 : decide (s < 11) = true := by simp; omega
  go_enter Tryz.func39, Tryz.ntmps39
  go_wp2_with (first | (go_at_call 69; refine (more_any _ _ _ _ _ _ (by omega) (by omega) _).mono ?_; rw [hm]; rintro e w1 ⟨rfl, hb⟩; obtain ⟨hcl, hfr⟩ := old_cells hb) | go_in)
  all_goals
    go_ret
    exact ⟨rfl, (((Below.refl _ _).alloc (Nat.le_refl _) _).trans (hb.mono (by simp)))⟩
theorem op_c14_end (d s o n b : Int) (r : Bool) (d1 : 0 ≤ d) (d2 : d ≤ 10) (s1 : 0 ≤ s) (s2 : s ≤ 10) (hm : moreV 14 d s r o n = false) (w : World) :
    Calls Tryz.prog 39 #[.agg #[.int .i64 14, .int .i64 d, .int .i64 s, .bool r, .int .i64 o, .int .i64 n], .int .i64 b, .func (Fn.func 38) #[] #[]] w fun e w' => e = .returned (.int .i64 (leadV o b)) ∧ Below w.heap.size w w' := by
  have z0 : decide (0 ≤ d) = true := by simp; omega
  have z1 : decide (d < 11) = true := by simp; omega
  have z2 : decide (0 ≤ s) = true := by simp; omega
  have z3 : decide (s < 11) = true := by simp; omega
  go_enter Tryz.func39, Tryz.ntmps39
  go_wp2_with (first | (go_at_call 69; refine (more_any _ _ _ _ _ _ (by omega) (by omega) _).mono ?_; rw [hm]; rintro e w1 ⟨rfl, hb⟩; obtain ⟨hcl, hfr⟩ := old_cells hb) | go_in)
  all_goals
    go_ret
    exact ⟨ret_int (by unfold leadV endV; (repeat' split) <;> omega), (((Below.refl _ _).alloc (Nat.le_refl _) _).trans (hb.mono (by simp)))⟩
theorem op_c25_more (d s o n b : Int) (r : Bool) (d1 : 0 ≤ d) (d2 : d ≤ 10) (s1 : 0 ≤ s) (s2 : s ≤ 10) (dt : d ≠ 10) (hm : moreV 25 d s r o n = true) (w : World) :
    Calls Tryz.prog 39 #[.agg #[.int .i64 25, .int .i64 d, .int .i64 s, .bool r, .int .i64 o, .int .i64 n], .int .i64 b, .func (Fn.func 38) #[] #[]] w fun e w' => e = .returned (.int .i64 1) ∧ Below w.heap.size w w' := by
  have e10 : (d == 10) = false := by simpa using dt
  have z0 : decide (0 ≤ d) = true := by simp; omega
  have z1 : decide (d < 11) = true := by simp; omega
  have z2 : decide (0 ≤ s) = true := by simp; omega
  have z3 : decide (s < 11) = true := by simp; omega
  go_enter Tryz.func39, Tryz.ntmps39
  go_wp2_with (first | (go_at_call 69; refine (more_any _ _ _ _ _ _ (by omega) (by omega) _).mono ?_; rw [hm]; rintro e w1 ⟨rfl, hb⟩; obtain ⟨hcl, hfr⟩ := old_cells hb) | go_in)
  all_goals
    go_ret
    exact ⟨rfl, (((Below.refl _ _).alloc (Nat.le_refl _) _).trans (hb.mono (by simp)))⟩
theorem op_c25_end (d s o n b : Int) (r : Bool) (d1 : 0 ≤ d) (d2 : d ≤ 10) (s1 : 0 ≤ s) (s2 : s ≤ 10) (dt : d ≠ 10) (hm : moreV 25 d s r o n = false) (w : World) :
    Calls Tryz.prog 39 #[.agg #[.int .i64 25, .int .i64 d, .int .i64 s, .bool r, .int .i64 o, .int .i64 n], .int .i64 b, .func (Fn.func 38) #[] #[]] w fun e w' => e = .returned (.int .i64 (endV b)) ∧ Below w.heap.size w w' := by
  have e10 : (d == 10) = false := by simpa using dt
  have z0 : decide (0 ≤ d) = true := by simp; omega
  have z1 : decide (d < 11) = true := by simp; omega
  have z2 : decide (0 ≤ s) = true := by simp; omega
  have z3 : decide (s < 11) = true := by simp; omega
  go_enter Tryz.func39, Tryz.ntmps39
  go_wp2_with (first | (go_at_call 69; refine (more_any _ _ _ _ _ _ (by omega) (by omega) _).mono ?_; rw [hm]; rintro e w1 ⟨rfl, hb⟩; obtain ⟨hcl, hfr⟩ := old_cells hb) | go_in)
  all_goals
    go_ret
    exact ⟨ret_int (by simp [endV, *]), (((Below.refl _ _).alloc (Nat.le_refl _) _).trans (hb.mono (by simp)))⟩
theorem op_c26_more (d s o n b : Int) (r : Bool) (d1 : 0 ≤ d) (d2 : d ≤ 10) (s1 : 0 ≤ s) (s2 : s ≤ 10) (hm : moreV 26 d s r o n = true) (w : World) :
    Calls Tryz.prog 39 #[.agg #[.int .i64 26, .int .i64 d, .int .i64 s, .bool r, .int .i64 o, .int .i64 n], .int .i64 b, .func (Fn.func 38) #[] #[]] w fun e w' => e = .returned (.int .i64 1) ∧ Below w.heap.size w w' := by
  have z0 : decide (0 ≤ d) = true := by simp; omega
  have z1 : decide (d < 11) = true := by simp; omega
  have z2 : decide (0 ≤ s) = true := by simp; omega
  have z3 : decide (s < 11) = true := by simp; omega
  go_enter Tryz.func39, Tryz.ntmps39
  go_wp2_with (first | (go_at_call 69; refine (more_any _ _ _ _ _ _ (by omega) (by omega) _).mono ?_; rw [hm]; rintro e w1 ⟨rfl, hb⟩; obtain ⟨hcl, hfr⟩ := old_cells hb) | go_in)
  all_goals
    go_ret
    exact ⟨rfl, (((Below.refl _ _).alloc (Nat.le_refl _) _).trans (hb.mono (by simp)))⟩
theorem op_c26_end (d s o n b : Int) (r : Bool) (d1 : 0 ≤ d) (d2 : d ≤ 10) (s1 : 0 ≤ s) (s2 : s ≤ 10) (hm : moreV 26 d s r o n = false) (w : World) :
    Calls Tryz.prog 39 #[.agg #[.int .i64 26, .int .i64 d, .int .i64 s, .bool r, .int .i64 o, .int .i64 n], .int .i64 b, .func (Fn.func 38) #[] #[]] w fun e w' => e = .returned (.int .i64 (endV b)) ∧ Below w.heap.size w w' := by
  have z0 : decide (0 ≤ d) = true := by simp; omega
  have z1 : decide (d < 11) = true := by simp; omega
  have z2 : decide (0 ≤ s) = true := by simp; omega
  have z3 : decide (s < 11) = true := by simp; omega
  go_enter Tryz.func39, Tryz.ntmps39
  go_wp2_with (first | (go_at_call 69; refine (more_any _ _ _ _ _ _ (by omega) (by omega) _).mono ?_; rw [hm]; rintro e w1 ⟨rfl, hb⟩; obtain ⟨hcl, hfr⟩ := old_cells hb) | go_in)
  all_goals
    go_ret
    exact ⟨ret_int (by simp [endV, *]), (((Below.refl _ _).alloc (Nat.le_refl _) _).trans (hb.mono (by simp)))⟩
theorem op_c27_more (d s o n b : Int) (r : Bool) (d1 : 0 ≤ d) (d2 : d ≤ 10) (s1 : 0 ≤ s) (s2 : s ≤ 10) (hm : moreV 27 d s r o n = true) (w : World) :
    Calls Tryz.prog 39 #[.agg #[.int .i64 27, .int .i64 d, .int .i64 s, .bool r, .int .i64 o, .int .i64 n], .int .i64 b, .func (Fn.func 38) #[] #[]] w fun e w' => e = .returned (.int .i64 1) ∧ Below w.heap.size w w' := by
  have z0 : decide (0 ≤ d) = true := by simp; omega
  have z1 : decide (d < 11) = true := by simp; omega
  have z2 : decide (0 ≤ s) = true := by simp; omega
  have z3 : decide (s < 11) = true := by simp; omega
  go_enter Tryz.func39, Tryz.ntmps39
  go_wp2_with (first | (go_at_call 69; refine (more_any _ _ _ _ _ _ (by omega) (by omega) _).mono ?_; rw [hm]; rintro e w1 ⟨rfl, hb⟩; obtain ⟨hcl, hfr⟩ := old_cells hb) | go_in)
  all_goals
    go_ret
    exact ⟨rfl, (((Below.refl _ _).alloc (Nat.le_refl _) _).trans (hb.mono (by simp)))⟩
theorem op_c27_bad (d s o n b : Int) (r : Bool) (d1 : 0 ≤ d) (d2 : d ≤ 10) (s1 : 0 ≤ s) (s2 : s ≤ 10) (hm : moreV 27 d s r o n = false) (n1 : (n == 1) = false) (n2 : (n == 2) = false) (n3 : (n == 3) = false) (w : World) :
    Calls Tryz.prog 39 #[.agg #[.int .i64 27, .int .i64 d, .int .i64 s, .bool r, .int .i64 o, .int .i64 n], .int .i64 b, .func (Fn.func 38) #[] #[]] w fun e w' => e = .returned (.int .i64 1) ∧ Below w.heap.size w w' := by
  have z0 : decide (0 ≤ d) = true := by simp; omega
  have z1 : decide (d < 11) = true := by simp; omega
  have z2 : decide (0 ≤ s) = true := by simp; omega
  have z3 : decide (s < 11) = true := by simp; omega
  go_enter Tryz.func39, Tryz.ntmps39
  go_wp2_with (first | (go_at_call 69; refine (more_any _ _ _ _ _ _ (by omega) (by omega) _).mono ?_; rw [hm]; rintro e w1 ⟨rfl, hb⟩; obtain ⟨hcl, hfr⟩ := old_cells hb) | go_in)
  all_goals
    go_ret
    exact ⟨rfl, (((Below.refl _ _).alloc (Nat.le_refl _) _).trans (hb.mono (by simp)))⟩
theorem op_c27_end1 (d s o n b : Int) (r : Bool) (d1 : 0 ≤ d) (d2 : d ≤ 10) (s1 : 0 ≤ s) (s2 : s ≤ 10) (hm : moreV 27 d s r o n = false) (n1 : (n == 1) = true) (w : World) :
    Calls Tryz.prog 39 #[.agg #[.int .i64 27, .int .i64 d, .int .i64 s, .bool r, .int .i64 o, .int .i64 n], .int .i64 b, .func (Fn.func 38) #[] #[]] w fun e w' => e = .returned (.int .i64 (endV b)) ∧ Below w.heap.size w w' := by
  have z0 : decide (0 ≤ d) = true := by simp; omega
  have z1 : decide (d < 11) = true := by simp; omega
  have z2 : decide (0 ≤ s) = true := by simp; omega
  have z3 : decide (s < 11) = true := by simp; omega
  go_enter Tryz.func39, Tryz.ntmps39
  go_wp2_with (first | (go_at_call 69; refine (more_any _ _ _ _ _ _ (by omega) (by omega) _).mono ?_; rw [hm]; rintro e w1 ⟨rfl, hb⟩; obtain ⟨hcl, hfr⟩ := old_cells hb) | go_in)
  all_goals
    go_ret
    exact ⟨ret_int (by simp [endV, *]), (((Below.refl _ _).alloc (Nat.le_refl _) _).trans (hb.mono (by simp)))⟩
theorem op_c27_end2 (d s o n b : Int) (r : Bool) (d1 : 0 ≤ d) (d2 : d ≤ 10) (s1 : 0 ≤ s) (s2 : s ≤ 10) (hm : moreV 27 d s r o n = false) (n1 : (n == 1) = false) (n2 : (n == 2) = true) (w : World) :
    Calls Tryz.prog 39 #[.agg #[.int .i64 27, .int .i64 d, .int .i64 s, .bool r, .int .i64 o, .int .i64 n], .int .i64 b, .func (Fn.func 38) #[] #[]] w fun e w' => e = .returned (.int .i64 (endV b)) ∧ Below w.heap.size w w' := by
  have z0 : decide (0 ≤ d) = true := by simp; omega
  have z1 : decide (d < 11) = true := by simp; omega
  have z2 : decide (0 ≤ s) = true := by simp; omega
  have z3 : decide (s < 11) = true := by simp; omega
  go_enter Tryz.func39, Tryz.ntmps39
  go_wp2_with (first | (go_at_call 69; refine (more_any _ _ _ _ _ _ (by omega) (by omega) _).mono ?_; rw [hm]; rintro e w1 ⟨rfl, hb⟩; obtain ⟨hcl, hfr⟩ := old_cells hb) | go_in)
  all_goals
    go_ret
    exact ⟨ret_int (by simp [endV, *]), (((Below.refl _ _).alloc (Nat.le_refl _) _).trans (hb.mono (by simp)))⟩
theorem op_c27_end3 (d s o n b : Int) (r : Bool) (d1 : 0 ≤ d) (d2 : d ≤ 10) (s1 : 0 ≤ s) (s2 : s ≤ 10) (hm : moreV 27 d s r o n = false) (n1 : (n == 1) = false) (n2 : (n == 2) = false) (n3 : (n == 3) = true) (w : World) :
    Calls Tryz.prog 39 #[.agg #[.int .i64 27, .int .i64 d, .int .i64 s, .bool r, .int .i64 o, .int .i64 n], .int .i64 b, .func (Fn.func 38) #[] #[]] w fun e w' => e = .returned (.int .i64 (endV b)) ∧ Below w.heap.size w w' := by
  have z0 : decide (0 ≤ d) = true := by simp; omega
  have z1 : decide (d < 11) = true := by simp; omega
  have z2 : decide (0 ≤ s) = true := by simp; omega
  have z3 : decide (s < 11) = true := by simp; omega
  go_enter Tryz.func39, Tryz.ntmps39
  go_wp2_with (first | (go_at_call 69; refine (more_any _ _ _ _ _ _ (by omega) (by omega) _).mono ?_; rw [hm]; rintro e w1 ⟨rfl, hb⟩; obtain ⟨hcl, hfr⟩ := old_cells hb) | go_in)
  all_goals
    go_ret
    exact ⟨ret_int (by simp [endV, *]), (((Below.refl _ _).alloc (Nat.le_refl _) _).trans (hb.mono (by simp)))⟩
theorem op_c28_more (d s o n b : Int) (r : Bool) (d1 : 0 ≤ d) (d2 : d ≤ 10) (s1 : 0 ≤ s) (s2 : s ≤ 10) (hm : moreV 28 d s r o n = true) (w : World) :
    Calls Tryz.prog 39 #[.agg #[.int .i64 28, .int .i64 d, .int .i64 s, .bool r, .int .i64 o, .int .i64 n], .int .i64 b, .func (Fn.func 38) #[] #[]] w fun e w' => e = .returned (.int .i64 1) ∧ Below w.heap.size w w' := by
  have z0 : decide (0 ≤ d) = true := by simp; omega
  have z1 : decide (d < 11) = true := by simp; omega
  have z2 : decide (0 ≤ s) = true := by simp; omega
  have z3 : decide (s < 11) = true := by simp; omega
  go_enter Tryz.func39, Tryz.ntmps39
  go_wp2_with (first | (go_at_call 69; refine (more_any _ _ _ _ _ _ (by omega) (by omega) _).mono ?_; rw [hm]; rintro e w1 ⟨rfl, hb⟩; obtain ⟨hcl, hfr⟩ := old_cells hb) | go_in)
  all_goals
    go_ret
    exact ⟨rfl, (((Below.refl _ _).alloc (Nat.le_refl _) _).trans (hb.mono (by simp)))⟩
theorem op_c28_end (d s o n b : Int) (r : Bool) (d1 : 0 ≤ d) (d2 : d ≤ 10) (s1 : 0 ≤ s) (s2 : s ≤ 10) (hm : moreV 28 d s r o n = false) (w : World) :
    Calls Tryz.prog 39 #[.agg #[.int .i64 28, .int .i64 d, .int .i64 s, .bool r, .int .i64 o, .int .i64 n], .int .i64 b, .func (Fn.func 38) #[] #[]] w fun e w' => e = .returned (.int .i64 0) ∧ Below w.heap.size w w' := by
  have z0 : decide (0 ≤ d) = true := by simp; omega
  have z1 : decide (d < 11) = true := by simp; omega
  have z2 : decide (0 ≤ s) = true := by simp; omega
  have z3 : decide (s < 11) = true := by simp; omega
  go_enter Tryz.func39, Tryz.ntmps39
  go_wp2_with (first | (go_at_call 69; refine (more_any _ _ _ _ _ _ (by omega) (by omega) _).mono ?_; rw [hm]; rintro e w1 ⟨rfl, hb⟩; obtain ⟨hcl, hfr⟩ := old_cells hb) | go_in)
  all_goals
    go_ret
    exact ⟨rfl, (((Below.refl _ _).alloc (Nat.le_refl _) _).trans (hb.mono (by simp)))⟩
end Go.Proofs.YtegeiicginpdbaaGreatDoor
