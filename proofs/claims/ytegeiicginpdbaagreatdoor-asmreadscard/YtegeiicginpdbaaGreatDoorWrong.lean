/-
  What op.wrong and the document's own wrong return at every step: the same function on the six fields and on how many steps stand behind; the world below is as it was. Conditions: none.
-/
import Derived.Test.YtegeiicginpdbaaGreatDoorStep
namespace Go.Proofs.YtegeiicginpdbaaGreatDoor
open Go.ChangeShapes Go.WideShapes Go.ChangeAt Go.RowKit

def bit (b : Bool) : Int := if b then 1 else 0
def endV (b : Int) : Int := if b = 0 then 8 else 0
def leadV (o b : Int) : Int := if o < 0 then 10 else if b ≤ o then 10 else endV b
theorem ref_c_lo (c d s o n : Int) (r : Bool) (h : c < 1) (w : World) :
    Calls Tryz.prog 50 #[.agg #[.int .i64 c, .int .i64 d, .int .i64 s, .bool r, .int .i64 o, .int .i64 n]] w fun e w' => e = .returned (.int .i64 3) ∧ Below w.heap.size w w' := by
  go_enter Tryz.func50, Tryz.ntmps50
  go_wp2
  all_goals
    go_ret
    exact ⟨rfl, (by repeat (first | exact Below.refl _ _ | refine Below.alloc ?_ (by simp) _))⟩
theorem ref_c_hi (c d s o n : Int) (r : Bool) (h : 28 < c) (w : World) :
    Calls Tryz.prog 50 #[.agg #[.int .i64 c, .int .i64 d, .int .i64 s, .bool r, .int .i64 o, .int .i64 n]] w fun e w' => e = .returned (.int .i64 3) ∧ Below w.heap.size w w' := by
  have z0 : decide (1 ≤ c) = true := by simp; omega
  have z1 : decide (c ≤ 28) = false := by simp; omega
  go_enter Tryz.func50, Tryz.ntmps50
  go_wp2
  all_goals
    go_ret
    exact ⟨rfl, (by repeat (first | exact Below.refl _ _ | refine Below.alloc ?_ (by simp) _))⟩
theorem ref_d_lo (c d s o n : Int) (r : Bool) (h1 : 1 ≤ c) (h2 : c ≤ 28) (h : d < 0) (w : World) :
    Calls Tryz.prog 50 #[.agg #[.int .i64 c, .int .i64 d, .int .i64 s, .bool r, .int .i64 o, .int .i64 n]] w fun e w' => e = .returned (.int .i64 2) ∧ Below w.heap.size w w' := by
  have z0 : decide (0 ≤ d) = false := by simp; omega
  go_enter Tryz.func50, Tryz.ntmps50
  go_wp2
  all_goals
    go_ret
    exact ⟨rfl, (by repeat (first | exact Below.refl _ _ | refine Below.alloc ?_ (by simp) _))⟩
theorem ref_d_hi (c d s o n : Int) (r : Bool) (h1 : 1 ≤ c) (h2 : c ≤ 28) (h : 10 < d) (w : World) :
    Calls Tryz.prog 50 #[.agg #[.int .i64 c, .int .i64 d, .int .i64 s, .bool r, .int .i64 o, .int .i64 n]] w fun e w' => e = .returned (.int .i64 2) ∧ Below w.heap.size w w' := by
  have z0 : decide (0 ≤ d) = true := by simp; omega
  have z1 : decide (d ≤ 10) = false := by simp; omega
  go_enter Tryz.func50, Tryz.ntmps50
  go_wp2
  all_goals
    go_ret
    exact ⟨rfl, (by repeat (first | exact Below.refl _ _ | refine Below.alloc ?_ (by simp) _))⟩
theorem ref_s_lo (c d s o n : Int) (r : Bool) (h1 : 1 ≤ c) (h2 : c ≤ 28) (d1 : 0 ≤ d) (d2 : d ≤ 10) (h : s < 0) (w : World) :
    Calls Tryz.prog 50 #[.agg #[.int .i64 c, .int .i64 d, .int .i64 s, .bool r, .int .i64 o, .int .i64 n]] w fun e w' => e = .returned (.int .i64 2) ∧ Below w.heap.size w w' := by
  have z0 : decide (0 ≤ s) = false := by simp; omega
  go_enter Tryz.func50, Tryz.ntmps50
  go_wp2
  all_goals
    go_ret
    exact ⟨rfl, (by repeat (first | exact Below.refl _ _ | refine Below.alloc ?_ (by simp) _))⟩
theorem ref_s_hi (c d s o n : Int) (r : Bool) (h1 : 1 ≤ c) (h2 : c ≤ 28) (d1 : 0 ≤ d) (d2 : d ≤ 10) (h : 10 < s) (w : World) :
    Calls Tryz.prog 50 #[.agg #[.int .i64 c, .int .i64 d, .int .i64 s, .bool r, .int .i64 o, .int .i64 n]] w fun e w' => e = .returned (.int .i64 2) ∧ Below w.heap.size w w' := by
  have z0 : decide (0 ≤ s) = true := by simp; omega
  have z1 : decide (s ≤ 10) = false := by simp; omega
  go_enter Tryz.func50, Tryz.ntmps50
  go_wp2
  all_goals
    go_ret
    exact ⟨rfl, (by repeat (first | exact Below.refl _ _ | refine Below.alloc ?_ (by simp) _))⟩
theorem ref_top (c s o n : Int) (r : Bool) (h1 : 1 ≤ c) (h2 : c ≤ 13) (s1 : 0 ≤ s) (s2 : s ≤ 10) (w : World) :
    Calls Tryz.prog 50 #[.agg #[.int .i64 c, .int .i64 10, .int .i64 s, .bool r, .int .i64 o, .int .i64 n]] w fun e w' => e = .returned (.int .i64 6) ∧ Below w.heap.size w w' := by
  have z0 : decide (1 ≤ c) = true := by simp; omega
  have z1 : decide (c ≤ 28) = true := by simp; omega
  have z2 : decide (c ≤ 13) = true := by simp; omega
  go_enter Tryz.func50, Tryz.ntmps50
  go_wp2
  all_goals
    go_ret
    exact ⟨rfl, (by repeat (first | exact Below.refl _ _ | refine Below.alloc ?_ (by simp) _))⟩
theorem ref_top25 (s o n : Int) (r : Bool) (s1 : 0 ≤ s) (s2 : s ≤ 10) (w : World) :
    Calls Tryz.prog 50 #[.agg #[.int .i64 25, .int .i64 10, .int .i64 s, .bool r, .int .i64 o, .int .i64 n]] w fun e w' => e = .returned (.int .i64 6) ∧ Below w.heap.size w w' := by
  go_enter Tryz.func50, Tryz.ntmps50
  go_wp2
  all_goals
    go_ret
    exact ⟨rfl, (by repeat (first | exact Below.refl _ _ | refine Below.alloc ?_ (by simp) _))⟩
theorem op_c_lo (c d s o n b : Int) (r : Bool) (h : c < 1) (w : World) :
    Calls Tryz.prog 39 #[.agg #[.int .i64 c, .int .i64 d, .int .i64 s, .bool r, .int .i64 o, .int .i64 n], .int .i64 b, .func (Fn.func 38) #[] #[]] w fun e w' => e = .returned (.int .i64 3) ∧ Below w.heap.size w w' := by
  have z0 : decide (c < 1) = true := by simp; omega
  go_enter Tryz.func39, Tryz.ntmps39
  go_wp2
  all_goals
    go_ret
    exact ⟨rfl, (by repeat (first | exact Below.refl _ _ | refine Below.alloc ?_ (by simp) _))⟩
theorem op_c_hi (c d s o n b : Int) (r : Bool) (h : 28 < c) (w : World) :
    Calls Tryz.prog 39 #[.agg #[.int .i64 c, .int .i64 d, .int .i64 s, .bool r, .int .i64 o, .int .i64 n], .int .i64 b, .func (Fn.func 38) #[] #[]] w fun e w' => e = .returned (.int .i64 3) ∧ Below w.heap.size w w' := by
  have z0 : decide (c < 1) = false := by simp; omega
  have z1 : decide (28 < c) = true := by simp; omega
  go_enter Tryz.func39, Tryz.ntmps39
  go_wp2
  all_goals
    go_ret
    exact ⟨rfl, (by repeat (first | exact Below.refl _ _ | refine Below.alloc ?_ (by simp) _))⟩
theorem op_d_lo (c d s o n b : Int) (r : Bool) (h1 : 1 ≤ c) (h2 : c ≤ 28) (h : d < 0) (w : World) :
    Calls Tryz.prog 39 #[.agg #[.int .i64 c, .int .i64 d, .int .i64 s, .bool r, .int .i64 o, .int .i64 n], .int .i64 b, .func (Fn.func 38) #[] #[]] w fun e w' => e = .returned (.int .i64 2) ∧ Below w.heap.size w w' := by
  have z0 : decide (c < 1) = false := by simp; omega
  have z1 : decide (28 < c) = false := by simp; omega
  have z2 : decide (0 ≤ d) = false := by simp; omega
  go_enter Tryz.func39, Tryz.ntmps39
  go_wp2
  all_goals
    go_ret
    exact ⟨rfl, (by repeat (first | exact Below.refl _ _ | refine Below.alloc ?_ (by simp) _))⟩
theorem op_d_hi (c d s o n b : Int) (r : Bool) (h1 : 1 ≤ c) (h2 : c ≤ 28) (h : 10 < d) (w : World) :
    Calls Tryz.prog 39 #[.agg #[.int .i64 c, .int .i64 d, .int .i64 s, .bool r, .int .i64 o, .int .i64 n], .int .i64 b, .func (Fn.func 38) #[] #[]] w fun e w' => e = .returned (.int .i64 2) ∧ Below w.heap.size w w' := by
  have z0 : decide (c < 1) = false := by simp; omega
  have z1 : decide (28 < c) = false := by simp; omega
  have z2 : decide (0 ≤ d) = true := by simp; omega
  have z3 : decide (d < 11) = false := by simp; omega
  go_enter Tryz.func39, Tryz.ntmps39
  go_wp2
  all_goals
    go_ret
    exact ⟨rfl, (by repeat (first | exact Below.refl _ _ | refine Below.alloc ?_ (by simp) _))⟩
theorem op_s_lo (c d s o n b : Int) (r : Bool) (h1 : 1 ≤ c) (h2 : c ≤ 28) (d1 : 0 ≤ d) (d2 : d ≤ 10) (h : s < 0) (w : World) :
    Calls Tryz.prog 39 #[.agg #[.int .i64 c, .int .i64 d, .int .i64 s, .bool r, .int .i64 o, .int .i64 n], .int .i64 b, .func (Fn.func 38) #[] #[]] w fun e w' => e = .returned (.int .i64 2) ∧ Below w.heap.size w w' := by
  have z0 : decide (c < 1) = false := by simp; omega
  have z1 : decide (28 < c) = false := by simp; omega
  have z2 : decide (0 ≤ d) = true := by simp; omega
  have z3 : decide (d < 11) = true := by simp; omega
  have z4 : decide (0 ≤ s) = false := by simp; omega
  go_enter Tryz.func39, Tryz.ntmps39
  go_wp2
  all_goals
    go_ret
    exact ⟨rfl, (by repeat (first | exact Below.refl _ _ | refine Below.alloc ?_ (by simp) _))⟩
theorem op_s_hi (c d s o n b : Int) (r : Bool) (h1 : 1 ≤ c) (h2 : c ≤ 28) (d1 : 0 ≤ d) (d2 : d ≤ 10) (h : 10 < s) (w : World) :
    Calls Tryz.prog 39 #[.agg #[.int .i64 c, .int .i64 d, .int .i64 s, .bool r, .int .i64 o, .int .i64 n], .int .i64 b, .func (Fn.func 38) #[] #[]] w fun e w' => e = .returned (.int .i64 2) ∧ Below w.heap.size w w' := by
  have z0 : decide (c < 1) = false := by simp; omega
  have z1 : decide (28 < c) = false := by simp; omega
  have z2 : decide (0 ≤ d) = true := by simp; omega
  have z3 : decide (d < 11) = true := by simp; omega
  have z4 : decide (0 ≤ s) = true := by simp; omega
  have z5 : decide (s < 11) = false := by simp; omega
  go_enter Tryz.func39, Tryz.ntmps39
  go_wp2
  all_goals
    go_ret
    exact ⟨rfl, (by repeat (first | exact Below.refl _ _ | refine Below.alloc ?_ (by simp) _))⟩
theorem op_top (c s o n b : Int) (r : Bool) (h1 : 1 ≤ c) (h2 : c ≤ 13) (s1 : 0 ≤ s) (s2 : s ≤ 10) (w : World) :
    Calls Tryz.prog 39 #[.agg #[.int .i64 c, .int .i64 10, .int .i64 s, .bool r, .int .i64 o, .int .i64 n], .int .i64 b, .func (Fn.func 38) #[] #[]] w fun e w' => e = .returned (.int .i64 6) ∧ Below w.heap.size w w' := by
  have z0 : decide (c < 1) = false := by simp; omega
  have z1 : decide (28 < c) = false := by simp; omega
  have z2 : decide (0 ≤ s) = true := by simp; omega
  have z3 : decide (s < 11) = true := by simp; omega
  have z4 : decide (1 ≤ c) = true := by simp; omega
  have z5 : decide (c ≤ 13) = true := by simp; omega
  go_enter Tryz.func39, Tryz.ntmps39
  go_wp2
  all_goals
    go_ret
    exact ⟨rfl, (by repeat (first | exact Below.refl _ _ | refine Below.alloc ?_ (by simp) _))⟩
theorem op_top25 (s o n b : Int) (r : Bool) (s1 : 0 ≤ s) (s2 : s ≤ 10) (w : World) :
    Calls Tryz.prog 39 #[.agg #[.int .i64 25, .int .i64 10, .int .i64 s, .bool r, .int .i64 o, .int .i64 n], .int .i64 b, .func (Fn.func 38) #[] #[]] w fun e w' => e = .returned (.int .i64 6) ∧ Below w.heap.size w w' := by
  have z0 : decide (0 ≤ s) = true := by simp; omega
  have z1 : decide (s < 11) = true := by simp; omega
  go_enter Tryz.func39, Tryz.ntmps39
  go_wp2
  all_goals
    go_ret
    exact ⟨rfl, (by repeat (first | exact Below.refl _ _ | refine Below.alloc ?_ (by simp) _))⟩
theorem ref_two_true (c d s o n : Int) (h1 : 1 ≤ c) (h2 : c ≤ 12) (d1 : 0 ≤ d) (d2 : d ≤ 10) (s1 : 0 ≤ s) (s2 : s ≤ 10) (dt : d ≠ 10) (w : World) :
    Calls Tryz.prog 50 #[.agg #[.int .i64 c, .int .i64 d, .int .i64 s, .bool true, .int .i64 o, .int .i64 n]] w fun e w' => e = .returned (.int .i64 (bit (o != 0 || n != 0))) ∧ Below w.heap.size w w' := by
  have e13 : (c == 13) = false := by simp; omega
  have e14 : (c == 14) = false := by simp; omega
  have e25 : (c == 25) = false := by simp; omega
  have e26 : (c == 26) = false := by simp; omega
  have e27 : (c == 27) = false := by simp; omega
  have e28 : (c == 28) = false := by simp; omega
  have z0 : decide (1 ≤ c) = true := by simp; omega
  have z1 : decide (c ≤ 28) = true := by simp; omega
  have z2 : decide (c ≤ 13) = true := by simp; omega
  have z3 : decide (c ≤ 12) = true := by simp; omega
  have z4 : decide (15 ≤ c) = false := by simp; omega
  have e10 : (d == 10) = false := by simpa using dt
  go_enter Tryz.func50, Tryz.ntmps50
  go_wp2
  all_goals
    go_ret
    exact ⟨ret_int (by simp [bit, *]), (by repeat (first | exact Below.refl _ _ | refine Below.alloc ?_ (by simp) _))⟩
theorem ref_two_false (c d s o n : Int) (h1 : 1 ≤ c) (h2 : c ≤ 12) (d1 : 0 ≤ d) (d2 : d ≤ 10) (s1 : 0 ≤ s) (s2 : s ≤ 10) (dt : d ≠ 10) (w : World) :
    Calls Tryz.prog 50 #[.agg #[.int .i64 c, .int .i64 d, .int .i64 s, .bool false, .int .i64 o, .int .i64 n]] w fun e w' => e = .returned (.int .i64 (bit (s != 0 || o != 0))) ∧ Below w.heap.size w w' := by
  have e13 : (c == 13) = false := by simp; omega
  have e14 : (c == 14) = false := by simp; omega
  have e25 : (c == 25) = false := by simp; omega
  have e26 : (c == 26) = false := by simp; omega
  have e27 : (c == 27) = false := by simp; omega
  have e28 : (c == 28) = false := by simp; omega
  have z0 : decide (1 ≤ c) = true := by simp; omega
  have z1 : decide (c ≤ 28) = true := by simp; omega
  have z2 : decide (c ≤ 13) = true := by simp; omega
  have z3 : decide (c ≤ 12) = true := by simp; omega
  have z4 : decide (15 ≤ c) = false := by simp; omega
  have e10 : (d == 10) = false := by simpa using dt
  go_enter Tryz.func50, Tryz.ntmps50
  go_wp2
  all_goals
    go_ret
    exact ⟨ret_int (by simp [bit, *]), (by repeat (first | exact Below.refl _ _ | refine Below.alloc ?_ (by simp) _))⟩
theorem ref_ask_true (c d s o n : Int) (h1 : 15 ≤ c) (h2 : c ≤ 24) (d1 : 0 ≤ d) (d2 : d ≤ 10) (s1 : 0 ≤ s) (s2 : s ≤ 10) (w : World) :
    Calls Tryz.prog 50 #[.agg #[.int .i64 c, .int .i64 d, .int .i64 s, .bool true, .int .i64 o, .int .i64 n]] w fun e w' => e = .returned (.int .i64 (bit (n != 0))) ∧ Below w.heap.size w w' := by
  have e13 : (c == 13) = false := by simp; omega
  have e14 : (c == 14) = false := by simp; omega
  have e25 : (c == 25) = false := by simp; omega
  have e26 : (c == 26) = false := by simp; omega
  have e27 : (c == 27) = false := by simp; omega
  have e28 : (c == 28) = false := by simp; omega
  have z0 : decide (1 ≤ c) = true := by simp; omega
  have z1 : decide (c ≤ 28) = true := by simp; omega
  have z2 : decide (c ≤ 13) = false := by simp; omega
  have z3 : decide (c ≤ 12) = false := by simp; omega
  have z4 : decide (15 ≤ c) = true := by simp; omega
  have z5 : decide (c ≤ 24) = true := by simp; omega
  go_enter Tryz.func50, Tryz.ntmps50
  go_wp2
  all_goals
    go_ret
    exact ⟨ret_int (by simp [bit, *]), (by repeat (first | exact Below.refl _ _ | refine Below.alloc ?_ (by simp) _))⟩
theorem ref_ask_false (c d s o n : Int) (h1 : 15 ≤ c) (h2 : c ≤ 24) (d1 : 0 ≤ d) (d2 : d ≤ 10) (s1 : 0 ≤ s) (s2 : s ≤ 10) (w : World) :
    Calls Tryz.prog 50 #[.agg #[.int .i64 c, .int .i64 d, .int .i64 s, .bool false, .int .i64 o, .int .i64 n]] w fun e w' => e = .returned (.int .i64 (bit (s != 0))) ∧ Below w.heap.size w w' := by
  have e13 : (c == 13) = false := by simp; omega
  have e14 : (c == 14) = false := by simp; omega
  have e25 : (c == 25) = false := by simp; omega
  have e26 : (c == 26) = false := by simp; omega
  have e27 : (c == 27) = false := by simp; omega
  have e28 : (c == 28) = false := by simp; omega
  have z0 : decide (1 ≤ c) = true := by simp; omega
  have z1 : decide (c ≤ 28) = true := by simp; omega
  have z2 : decide (c ≤ 13) = false := by simp; omega
  have z3 : decide (c ≤ 12) = false := by simp; omega
  have z4 : decide (15 ≤ c) = true := by simp; omega
  have z5 : decide (c ≤ 24) = true := by simp; omega
  go_enter Tryz.func50, Tryz.ntmps50
  go_wp2
  all_goals
    go_ret
    exact ⟨ret_int (by simp [bit, *]), (by repeat (first | exact Below.refl _ _ | refine Below.alloc ?_ (by simp) _))⟩
theorem ref_c13_true (d s o n : Int) (d1 : 0 ≤ d) (d2 : d ≤ 10) (s1 : 0 ≤ s) (s2 : s ≤ 10) (dt : d ≠ 10) (w : World) :
    Calls Tryz.prog 50 #[.agg #[.int .i64 13, .int .i64 d, .int .i64 s, .bool true, .int .i64 o, .int .i64 n]] w fun e w' => e = .returned (.int .i64 (bit (s != 0 || true || o != 0 || n != 0))) ∧ Below w.heap.size w w' := by
  have e10 : (d == 10) = false := by simpa using dt
  go_enter Tryz.func50, Tryz.ntmps50
  go_wp2
  all_goals
    go_ret
    exact ⟨ret_int (by simp [bit, *]), (by repeat (first | exact Below.refl _ _ | refine Below.alloc ?_ (by simp) _))⟩
theorem ref_c13_false (d s o n : Int) (d1 : 0 ≤ d) (d2 : d ≤ 10) (s1 : 0 ≤ s) (s2 : s ≤ 10) (dt : d ≠ 10) (w : World) :
    Calls Tryz.prog 50 #[.agg #[.int .i64 13, .int .i64 d, .int .i64 s, .bool false, .int .i64 o, .int .i64 n]] w fun e w' => e = .returned (.int .i64 (bit (s != 0 || false || o != 0 || n != 0))) ∧ Below w.heap.size w w' := by
  have e10 : (d == 10) = false := by simpa using dt
  go_enter Tryz.func50, Tryz.ntmps50
  go_wp2
  all_goals
    go_ret
    exact ⟨ret_int (by simp [bit, *]), (by repeat (first | exact Below.refl _ _ | refine Below.alloc ?_ (by simp) _))⟩
theorem ref_c14_true (d s o n : Int) (d1 : 0 ≤ d) (d2 : d ≤ 10) (s1 : 0 ≤ s) (s2 : s ≤ 10) (w : World) :
    Calls Tryz.prog 50 #[.agg #[.int .i64 14, .int .i64 d, .int .i64 s, .bool true, .int .i64 o, .int .i64 n]] w fun e w' => e = .returned (.int .i64 (bit (d != 0 || s != 0 || true || n != 0))) ∧ Below w.heap.size w w' := by
  go_enter Tryz.func50, Tryz.ntmps50
  go_wp2
  all_goals
    go_ret
    exact ⟨ret_int (by simp [bit, *]), (by repeat (first | exact Below.refl _ _ | refine Below.alloc ?_ (by simp) _))⟩
theorem ref_c14_false (d s o n : Int) (d1 : 0 ≤ d) (d2 : d ≤ 10) (s1 : 0 ≤ s) (s2 : s ≤ 10) (w : World) :
    Calls Tryz.prog 50 #[.agg #[.int .i64 14, .int .i64 d, .int .i64 s, .bool false, .int .i64 o, .int .i64 n]] w fun e w' => e = .returned (.int .i64 (bit (d != 0 || s != 0 || false || n != 0))) ∧ Below w.heap.size w w' := by
  go_enter Tryz.func50, Tryz.ntmps50
  go_wp2
  all_goals
    go_ret
    exact ⟨ret_int (by simp [bit, *]), (by repeat (first | exact Below.refl _ _ | refine Below.alloc ?_ (by simp) _))⟩
theorem ref_c25_true (d s o n : Int) (d1 : 0 ≤ d) (d2 : d ≤ 10) (s1 : 0 ≤ s) (s2 : s ≤ 10) (dt : d ≠ 10) (w : World) :
    Calls Tryz.prog 50 #[.agg #[.int .i64 25, .int .i64 d, .int .i64 s, .bool true, .int .i64 o, .int .i64 n]] w fun e w' => e = .returned (.int .i64 (bit (true || n != 0))) ∧ Below w.heap.size w w' := by
  have e10 : (d == 10) = false := by simpa using dt
  go_enter Tryz.func50, Tryz.ntmps50
  go_wp2
  all_goals
    go_ret
    exact ⟨ret_int (by simp [bit, *]), (by repeat (first | exact Below.refl _ _ | refine Below.alloc ?_ (by simp) _))⟩
theorem ref_c25_false (d s o n : Int) (d1 : 0 ≤ d) (d2 : d ≤ 10) (s1 : 0 ≤ s) (s2 : s ≤ 10) (dt : d ≠ 10) (w : World) :
    Calls Tryz.prog 50 #[.agg #[.int .i64 25, .int .i64 d, .int .i64 s, .bool false, .int .i64 o, .int .i64 n]] w fun e w' => e = .returned (.int .i64 (bit (false || n != 0))) ∧ Below w.heap.size w w' := by
  have e10 : (d == 10) = false := by simpa using dt
  go_enter Tryz.func50, Tryz.ntmps50
  go_wp2
  all_goals
    go_ret
    exact ⟨ret_int (by simp [bit, *]), (by repeat (first | exact Below.refl _ _ | refine Below.alloc ?_ (by simp) _))⟩
theorem ref_c26_true (d s o n : Int) (d1 : 0 ≤ d) (d2 : d ≤ 10) (s1 : 0 ≤ s) (s2 : s ≤ 10) (w : World) :
    Calls Tryz.prog 50 #[.agg #[.int .i64 26, .int .i64 d, .int .i64 s, .bool true, .int .i64 o, .int .i64 n]] w fun e w' => e = .returned (.int .i64 (bit (n != 0))) ∧ Below w.heap.size w w' := by
  go_enter Tryz.func50, Tryz.ntmps50
  go_wp2
  all_goals
    go_ret
    exact ⟨ret_int (by simp [bit, *]), (by repeat (first | exact Below.refl _ _ | refine Below.alloc ?_ (by simp) _))⟩
theorem ref_c26_false (d s o n : Int) (d1 : 0 ≤ d) (d2 : d ≤ 10) (s1 : 0 ≤ s) (s2 : s ≤ 10) (w : World) :
    Calls Tryz.prog 50 #[.agg #[.int .i64 26, .int .i64 d, .int .i64 s, .bool false, .int .i64 o, .int .i64 n]] w fun e w' => e = .returned (.int .i64 (bit (s != 0))) ∧ Below w.heap.size w w' := by
  go_enter Tryz.func50, Tryz.ntmps50
  go_wp2
  all_goals
    go_ret
    exact ⟨ret_int (by simp [bit, *]), (by repeat (first | exact Below.refl _ _ | refine Below.alloc ?_ (by simp) _))⟩
theorem ref_c27_true (d s o n : Int) (d1 : 0 ≤ d) (d2 : d ≤ 10) (s1 : 0 ≤ s) (s2 : s ≤ 10) (w : World) :
    Calls Tryz.prog 50 #[.agg #[.int .i64 27, .int .i64 d, .int .i64 s, .bool true, .int .i64 o, .int .i64 n]] w fun e w' => e = .returned (.int .i64 (bit (d != 0 || s != 0 || true || o != 0 || (n != 1 && (n != 2 && n != 3))))) ∧ Below w.heap.size w w' := by
  go_enter Tryz.func50, Tryz.ntmps50
  go_wp2
  all_goals
    go_ret
    exact ⟨ret_int (by simp [bit, *]), (by repeat (first | exact Below.refl _ _ | refine Below.alloc ?_ (by simp) _))⟩
theorem ref_c27_false (d s o n : Int) (d1 : 0 ≤ d) (d2 : d ≤ 10) (s1 : 0 ≤ s) (s2 : s ≤ 10) (w : World) :
    Calls Tryz.prog 50 #[.agg #[.int .i64 27, .int .i64 d, .int .i64 s, .bool false, .int .i64 o, .int .i64 n]] w fun e w' => e = .returned (.int .i64 (bit (d != 0 || s != 0 || false || o != 0 || (n != 1 && (n != 2 && n != 3))))) ∧ Below w.heap.size w w' := by
  go_enter Tryz.func50, Tryz.ntmps50
  go_wp2
  all_goals
    go_ret
    exact ⟨ret_int (by simp [bit, *]), (by repeat (first | exact Below.refl _ _ | refine Below.alloc ?_ (by simp) _))⟩
theorem ref_c28_true (d s o n : Int) (d1 : 0 ≤ d) (d2 : d ≤ 10) (s1 : 0 ≤ s) (s2 : s ≤ 10) (w : World) :
    Calls Tryz.prog 50 #[.agg #[.int .i64 28, .int .i64 d, .int .i64 s, .bool true, .int .i64 o, .int .i64 n]] w fun e w' => e = .returned (.int .i64 (bit (d != 0 || s != 0 || true || o != 0 || n != 0))) ∧ Below w.heap.size w w' := by
  go_enter Tryz.func50, Tryz.ntmps50
  go_wp2
  all_goals
    go_ret
    exact ⟨ret_int (by simp [bit, *]), (by repeat (first | exact Below.refl _ _ | refine Below.alloc ?_ (by simp) _))⟩
theorem ref_c28_false (d s o n : Int) (d1 : 0 ≤ d) (d2 : d ≤ 10) (s1 : 0 ≤ s) (s2 : s ≤ 10) (w : World) :
    Calls Tryz.prog 50 #[.agg #[.int .i64 28, .int .i64 d, .int .i64 s, .bool false, .int .i64 o, .int .i64 n]] w fun e w' => e = .returned (.int .i64 (bit (d != 0 || s != 0 || false || o != 0 || n != 0))) ∧ Below w.heap.size w w' := by
  go_enter Tryz.func50, Tryz.ntmps50
  go_wp2
  all_goals
    go_ret
    exact ⟨ret_int (by simp [bit, *]), (by repeat (first | exact Below.refl _ _ | refine Below.alloc ?_ (by simp) _))⟩
end Go.Proofs.YtegeiicginpdbaaGreatDoor
