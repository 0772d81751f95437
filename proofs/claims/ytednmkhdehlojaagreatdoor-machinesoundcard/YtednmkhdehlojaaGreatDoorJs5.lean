/-
  What op.wrong and the document's own wrong return at every step: the same function on the six fields and on how many steps stand behind; the world below is as it was. Conditions: none. What op.wrong returns at steps whose code and registers are such as there are: by classes of codes; the world below is as it was. Conditions: as each says. What op.wrong and the document's own wrong return, all classes of codes together. Conditions: none. What op.Check and the document's own Check answer to a list of steps in memory: the first step with which something is wrong, and what, by one function on steps; the world below is as it was. Conditions: the list's cells hold steps. What op.Check and the document's Check return where all steps are right, and where the i-th is the first that is wrong; the world below is as it was. Conditions: the list's cells hold steps. What a right step is, and where it leads, on plain numbers; no program is named here. No conditions. How a program goes on from step to step to its end: by the plain machine. Conditions: every step is a right one; numbers are of 64 bits. A program at its first step. Conditions: none. A region that draws its order, walked by hand: one operation at a time, its slot named. No program is named here. No conditions.
-/
import Derived.Test.YtednmkhdehlojaaGreatDoorJs4
import Derived.Test.YtednmkhdehlojaaGreatDoorJs3
import Derived.Deep.RegionHeld3
import Derived.Laws.Tables
import Derived.Laws.Rows
open Go.Value renaming int → vI
open Go.IntKind renaming i64 → vK
open Go.RowKit.Below renaming alloc → bA, setCell → bS, drew → bD, refl → bF
set_option maxHeartbeats 4000000
set_option maxRecDepth 1000000
namespace Go.Proofs.YtednmkhdehlojaaGreatDoor
open Go.ChangeShapes Go.WideShapes Go.ChangeAt Go.RowKit

def bit (b : Bool) : Int := if b then 1 else 0
def endV (b : Int) : Int := if b = 0 then 8 else 0
def leadV (o b : Int) : Int := if o < 0 then 10 else if b ≤ o then 10 else endV b
theorem ref_c_lo (c d s o n : Int) (r : Bool) (h : c < 1) (w : World) :
    Calls Tryz.prog 50 #[.agg #[vI vK c, vI vK d, vI vK s, .bool r, vI vK o, vI vK n]] w fun e w' => e = .returned (vI vK 3) ∧ Below w.heap.size w w' := by
  go_enter Tryz.func50, Tryz.ntmps50
  go_wp2
  all_goals
    go_ret
    exact ⟨rfl, (by repeat (first | exact bF _ _ | refine bA ?_ (by simp) _))⟩
theorem ref_c_hi (c d s o n : Int) (r : Bool) (h : 28 < c) (w : World) :
    Calls Tryz.prog 50 #[.agg #[vI vK c, vI vK d, vI vK s, .bool r, vI vK o, vI vK n]] w fun e w' => e = .returned (vI vK 3) ∧ Below w.heap.size w w' := by
  have z0 : decide (1 ≤ c) = true := by simp; omega
  have z1 : decide (c ≤ 28) = false := by simp; omega
  go_enter Tryz.func50, Tryz.ntmps50
  go_wp2
  all_goals
    go_ret
    exact ⟨rfl, (by repeat (first | exact bF _ _ | refine bA ?_ (by simp) _))⟩
theorem ref_d_lo (c d s o n : Int) (r : Bool) (h1 : 1 ≤ c) (h2 : c ≤ 28) (h : d < 0) (w : World) :
    Calls Tryz.prog 50 #[.agg #[vI vK c, vI vK d, vI vK s, .bool r, vI vK o, vI vK n]] w fun e w' => e = .returned (vI vK 2) ∧ Below w.heap.size w w' := by
  have z0 : decide (0 ≤ d) = false := by simp; omega
  go_enter Tryz.func50, Tryz.ntmps50
  go_wp2
  all_goals
    go_ret
    exact ⟨rfl, (by repeat (first | exact bF _ _ | refine bA ?_ (by simp) _))⟩
theorem ref_d_hi (c d s o n : Int) (r : Bool) (h1 : 1 ≤ c) (h2 : c ≤ 28) (h : 10 < d) (w : World) :
    Calls Tryz.prog 50 #[.agg #[vI vK c, vI vK d, vI vK s, .bool r, vI vK o, vI vK n]] w fun e w' => e = .returned (vI vK 2) ∧ Below w.heap.size w w' := by
  have z0 : decide (0 ≤ d) = true := by simp; omega
  have z1 : decide (d ≤ 10) = false := by simp; omega
  go_enter Tryz.func50, Tryz.ntmps50
  go_wp2
  all_goals
    go_ret
    exact ⟨rfl, (by repeat (first | exact bF _ _ | refine bA ?_ (by simp) _))⟩
theorem ref_s_lo (c d s o n : Int) (r : Bool) (h1 : 1 ≤ c) (h2 : c ≤ 28) (d1 : 0 ≤ d) (d2 : d ≤ 10) (h : s < 0) (w : World) :
    Calls Tryz.prog 50 #[.agg #[vI vK c, vI vK d, vI vK s, .bool r, vI vK o, vI vK n]] w fun e w' => e = .returned (vI vK 2) ∧ Below w.heap.size w w' := by
  have z0 : decide (0 ≤ s) = false := by simp; omega
  go_enter Tryz.func50, Tryz.ntmps50
  go_wp2
  all_goals
    go_ret
    exact ⟨rfl, (by repeat (first | exact bF _ _ | refine bA ?_ (by simp) _))⟩
theorem ref_s_hi (c d s o n : Int) (r : Bool) (h1 : 1 ≤ c) (h2 : c ≤ 28) (d1 : 0 ≤ d) (d2 : d ≤ 10) (h : 10 < s) (w : World) :
    Calls Tryz.prog 50 #[.agg #[vI vK c, vI vK d, vI vK s, .bool r, vI vK o, vI vK n]] w fun e w' => e = .returned (vI vK 2) ∧ Below w.heap.size w w' := by
  have z0 : decide (0 ≤ s) = true := by simp; omega
  have z1 : decide (s ≤ 10) = false := by simp; omega
  go_enter Tryz.func50, Tryz.ntmps50
  go_wp2
  all_goals
    go_ret
    exact ⟨rfl, (by repeat (first | exact bF _ _ | refine bA ?_ (by simp) _))⟩
theorem ref_top (c s o n : Int) (r : Bool) (h1 : 1 ≤ c) (h2 : c ≤ 13) (s1 : 0 ≤ s) (s2 : s ≤ 10) (w : World) :
    Calls Tryz.prog 50 #[.agg #[vI vK c, vI vK 10, vI vK s, .bool r, vI vK o, vI vK n]] w fun e w' => e = .returned (vI vK 6) ∧ Below w.heap.size w w' := by
  have z0 : decide (1 ≤ c) = true := by simp; omega
  have z1 : decide (c ≤ 28) = true := by simp; omega
  have z2 : decide (c ≤ 13) = true := by simp; omega
  go_enter Tryz.func50, Tryz.ntmps50
  go_wp2
  all_goals
    go_ret
    exact ⟨rfl, (by repeat (first | exact bF _ _ | refine bA ?_ (by simp) _))⟩
theorem ref_top25 (s o n : Int) (r : Bool) (s1 : 0 ≤ s) (s2 : s ≤ 10) (w : World) :
    Calls Tryz.prog 50 #[.agg #[vI vK 25, vI vK 10, vI vK s, .bool r, vI vK o, vI vK n]] w fun e w' => e = .returned (vI vK 6) ∧ Below w.heap.size w w' := by
  go_enter Tryz.func50, Tryz.ntmps50
  go_wp2
  all_goals
    go_ret
    exact ⟨rfl, (by repeat (first | exact bF _ _ | refine bA ?_ (by simp) _))⟩
theorem op_c_lo (c d s o n b : Int) (r : Bool) (h : c < 1) (w : World) :
    Calls Tryz.prog 39 #[.agg #[vI vK c, vI vK d, vI vK s, .bool r, vI vK o, vI vK n], vI vK b, .func (Fn.func 38) #[] #[]] w fun e w' => e = .returned (vI vK 3) ∧ Below w.heap.size w w' := by
  have z0 : decide (c < 1) = true := by simp; omega
  go_enter Tryz.func39, Tryz.ntmps39
  go_wp2
  all_goals
    go_ret
    exact ⟨rfl, (by repeat (first | exact bF _ _ | refine bA ?_ (by simp) _))⟩
theorem op_c_hi (c d s o n b : Int) (r : Bool) (h : 28 < c) (w : World) :
    Calls Tryz.prog 39 #[.agg #[vI vK c, vI vK d, vI vK s, .bool r, vI vK o, vI vK n], vI vK b, .func (Fn.func 38) #[] #[]] w fun e w' => e = .returned (vI vK 3) ∧ Below w.heap.size w w' := by
  have z0 : decide (c < 1) = false := by simp; omega
  have z1 : decide (28 < c) = true := by simp; omega
  go_enter Tryz.func39, Tryz.ntmps39
  go_wp2
  all_goals
    go_ret
    exact ⟨rfl, (by repeat (first | exact bF _ _ | refine bA ?_ (by simp) _))⟩
theorem op_d_lo (c d s o n b : Int) (r : Bool) (h1 : 1 ≤ c) (h2 : c ≤ 28) (h : d < 0) (w : World) :
    Calls Tryz.prog 39 #[.agg #[vI vK c, vI vK d, vI vK s, .bool r, vI vK o, vI vK n], vI vK b, .func (Fn.func 38) #[] #[]] w fun e w' => e = .returned (vI vK 2) ∧ Below w.heap.size w w' := by
  have z0 : decide (c < 1) = false := by simp; omega
  have z1 : decide (28 < c) = false := by simp; omega
  have z2 : decide (0 ≤ d) = false := by simp; omega
  go_enter Tryz.func39, Tryz.ntmps39
  go_wp2
  all_goals
    go_ret
    exact ⟨rfl, (by repeat (first | exact bF _ _ | refine bA ?_ (by simp) _))⟩
theorem op_d_hi (c d s o n b : Int) (r : Bool) (h1 : 1 ≤ c) (h2 : c ≤ 28) (h : 10 < d) (w : World) :
    Calls Tryz.prog 39 #[.agg #[vI vK c, vI vK d, vI vK s, .bool r, vI vK o, vI vK n], vI vK b, .func (Fn.func 38) #[] #[]] w fun e w' => e = .returned (vI vK 2) ∧ Below w.heap.size w w' := by
  have z0 : decide (c < 1) = false := by simp; omega
  have z1 : decide (28 < c) = false := by simp; omega
  have z2 : decide (0 ≤ d) = true := by simp; omega
  have z3 : decide (d < 11) = false := by simp; omega
  go_enter Tryz.func39, Tryz.ntmps39
  go_wp2
  all_goals
    go_ret
    exact ⟨rfl, (by repeat (first | exact bF _ _ | refine bA ?_ (by simp) _))⟩
theorem op_s_lo (c d s o n b : Int) (r : Bool) (h1 : 1 ≤ c) (h2 : c ≤ 28) (d1 : 0 ≤ d) (d2 : d ≤ 10) (h : s < 0) (w : World) :
    Calls Tryz.prog 39 #[.agg #[vI vK c, vI vK d, vI vK s, .bool r, vI vK o, vI vK n], vI vK b, .func (Fn.func 38) #[] #[]] w fun e w' => e = .returned (vI vK 2) ∧ Below w.heap.size w w' := by
  have z0 : decide (c < 1) = false := by simp; omega
  have z1 : decide (28 < c) = false := by simp; omega
  have z2 : decide (0 ≤ d) = true := by simp; omega
  have z3 : decide (d < 11) = true := by simp; omega
  have z4 : decide (0 ≤ s) = false := by simp; omega
  go_enter Tryz.func39, Tryz.ntmps39
  go_wp2
  all_goals
    go_ret
    exact ⟨rfl, (by repeat (first | exact bF _ _ | refine bA ?_ (by simp) _))⟩
theorem op_s_hi (c d s o n b : Int) (r : Bool) (h1 : 1 ≤ c) (h2 : c ≤ 28) (d1 : 0 ≤ d) (d2 : d ≤ 10) (h : 10 < s) (w : World) :
    Calls Tryz.prog 39 #[.agg #[vI vK c, vI vK d, vI vK s, .bool r, vI vK o, vI vK n], vI vK b, .func (Fn.func 38) #[] #[]] w fun e w' => e = .returned (vI vK 2) ∧ Below w.heap.size w w' := by
  have z0 : decide (c < 1) = false := by simp; omega
  have z1 : decide (28 < c) = false := by simp; omega
  have z2 : decide (0 ≤ d) = true := by simp; omega
  have z3 : decide (d < 11) = true := by simp; omega
  have z4 : decide (0 ≤ s) = true := by simp; omega
  have z5 : decide (s < 11) = false := by simp; omega
  go_enter Tryz.func39, Tryz.ntmps39
  go_wp2
  all_goals
    go_ret
    exact ⟨rfl, (by repeat (first | exact bF _ _ | refine bA ?_ (by simp) _))⟩
theorem op_top (c s o n b : Int) (r : Bool) (h1 : 1 ≤ c) (h2 : c ≤ 13) (s1 : 0 ≤ s) (s2 : s ≤ 10) (w : World) :
    Calls Tryz.prog 39 #[.agg #[vI vK c, vI vK 10, vI vK s, .bool r, vI vK o, vI vK n], vI vK b, .func (Fn.func 38) #[] #[]] w fun e w' => e = .returned (vI vK 6) ∧ Below w.heap.size w w' := by
  have z0 : decide (c < 1) = false := by simp; omega
  have z1 : decide (28 < c) = false := by simp; omega
  have z2 : decide (0 ≤ s) = true := by simp; omega
  have z3 : decide (s < 11) = true := by simp; omega
  have z4 : decide (1 ≤ c) = true := by simp; omega
  have z5 : decide (c ≤ 13) = true := by simp; omega
  go_enter Tryz.func39, Tryz.ntmps39
  go_wp2
  all_goals
    go_ret
    exact ⟨rfl, (by repeat (first | exact bF _ _ | refine bA ?_ (by simp) _))⟩
theorem op_top25 (s o n b : Int) (r : Bool) (s1 : 0 ≤ s) (s2 : s ≤ 10) (w : World) :
    Calls Tryz.prog 39 #[.agg #[vI vK 25, vI vK 10, vI vK s, .bool r, vI vK o, vI vK n], vI vK b, .func (Fn.func 38) #[] #[]] w fun e w' => e = .returned (vI vK 6) ∧ Below w.heap.size w w' := by
  have z0 : decide (0 ≤ s) = true := by simp; omega
  have z1 : decide (s < 11) = true := by simp; omega
  go_enter Tryz.func39, Tryz.ntmps39
  go_wp2
  all_goals
    go_ret
    exact ⟨rfl, (by repeat (first | exact bF _ _ | refine bA ?_ (by simp) _))⟩
theorem ref_two_true (c d s o n : Int) (h1 : 1 ≤ c) (h2 : c ≤ 12) (d1 : 0 ≤ d) (d2 : d ≤ 10) (s1 : 0 ≤ s) (s2 : s ≤ 10) (dt : d ≠ 10) (w : World) :
    Calls Tryz.prog 50 #[.agg #[vI vK c, vI vK d, vI vK s, .bool true, vI vK o, vI vK n]] w fun e w' => e = .returned (vI vK (bit (o != 0 || n != 0))) ∧ Below w.heap.size w w' := by
  have e13 : (c == 13) = false := by simp; omega
  have e14 : (c == 14) = false := by simp; omega
  have e25 : (c == 25) = false := by simp; omega
  have e26 : (c == 26) = false := by simp; omega
  have e27 : (c == 27) = false := by simp; omega
  have e28 : (c == 28) = false := by simp; omega
  have z0 : decide (1 ≤ c) = true := by simp; omega
  have z1 : decide (c ≤ 28) = true := by simp; omega
  have z2 : decide (c ≤ 13) = true := by simp; omega
  have z3 : decide (c ≤ 12) = true := by simp; omega
  have z4 : decide (15 ≤ c) = false := by simp; omega
  have e10 : (d == 10) = false := by simpa using dt
  go_enter Tryz.func50, Tryz.ntmps50
  go_wp2
  all_goals
    go_ret
    exact ⟨ret_int (by simp [bit, *]), (by repeat (first | exact bF _ _ | refine bA ?_ (by simp) _))⟩
theorem ref_two_false (c d s o n : Int) (h1 : 1 ≤ c) (h2 : c ≤ 12) (d1 : 0 ≤ d) (d2 : d ≤ 10) (s1 : 0 ≤ s) (s2 : s ≤ 10) (dt : d ≠ 10) (w : World) :
    Calls Tryz.prog 50 #[.agg #[vI vK c, vI vK d, vI vK s, .bool false, vI vK o, vI vK n]] w fun e w' => e = .returned (vI vK (bit (s != 0 || o != 0))) ∧ Below w.heap.size w w' := by
  have e13 : (c == 13) = false := by simp; omega
  have e14 : (c == 14) = false := by simp; omega
  have e25 : (c == 25) = false := by simp; omega
  have e26 : (c == 26) = false := by simp; omega
  have e27 : (c == 27) = false := by simp; omega
  have e28 : (c == 28) = false := by simp; omega
  have z0 : decide (1 ≤ c) = true := by simp; omega
  have z1 : decide (c ≤ 28) = true := by simp; omega
  have z2 : decide (c ≤ 13) = true := by simp; omega
  have z3 : decide (c ≤ 12) = true := by simp; omega
  have z4 : decide (15 ≤ c) = false := by simp; omega
  have e10 : (d == 10) = false := by simpa using dt
  go_enter Tryz.func50, Tryz.ntmps50
  go_wp2
  all_goals
    go_ret
    exact ⟨ret_int (by simp [bit, *]), (by repeat (first | exact bF _ _ | refine bA ?_ (by simp) _))⟩
theorem ref_ask_true (c d s o n : Int) (h1 : 15 ≤ c) (h2 : c ≤ 24) (d1 : 0 ≤ d) (d2 : d ≤ 10) (s1 : 0 ≤ s) (s2 : s ≤ 10) (w : World) :
    Calls Tryz.prog 50 #[.agg #[vI vK c, vI vK d, vI vK s, .bool true, vI vK o, vI vK n]] w fun e w' => e = .returned (vI vK (bit (n != 0))) ∧ Below w.heap.size w w' := by
  have e13 : (c == 13) = false := by simp; omega
  have e14 : (c == 14) = false := by simp; omega
  have e25 : (c == 25) = false := by simp; omega
  have e26 : (c == 26) = false := by simp; omega
  have e27 : (c == 27) = false := by simp; omega
  have e28 : (c == 28) = false := by simp; omega
  have z0 : decide (1 ≤ c) = true := by simp; omega
  have z1 : decide (c ≤ 28) = true := by simp; omega
  have z2 : decide (c ≤ 13) = false := by simp; omega
  have z3 : decide (c ≤ 12) = false := by simp; omega
  have z4 : decide (15 ≤ c) = true := by simp; omega
  have z5 : decide (c ≤ 24) = true := by simp; omega
  go_enter Tryz.func50, Tryz.ntmps50
  go_wp2
  all_goals
    go_ret
    exact ⟨ret_int (by simp [bit, *]), (by repeat (first | exact bF _ _ | refine bA ?_ (by simp) _))⟩
theorem ref_ask_false (c d s o n : Int) (h1 : 15 ≤ c) (h2 : c ≤ 24) (d1 : 0 ≤ d) (d2 : d ≤ 10) (s1 : 0 ≤ s) (s2 : s ≤ 10) (w : World) :
    Calls Tryz.prog 50 #[.agg #[vI vK c, vI vK d, vI vK s, .bool false, vI vK o, vI vK n]] w fun e w' => e = .returned (vI vK (bit (s != 0))) ∧ Below w.heap.size w w' := by
  have e13 : (c == 13) = false := by simp; omega
  have e14 : (c == 14) = false := by simp; omega
  have e25 : (c == 25) = false := by simp; omega
  have e26 : (c == 26) = false := by simp; omega
  have e27 : (c == 27) = false := by simp; omega
  have e28 : (c == 28) = false := by simp; omega
  have z0 : decide (1 ≤ c) = true := by simp; omega
  have z1 : decide (c ≤ 28) = true := by simp; omega
  have z2 : decide (c ≤ 13) = false := by simp; omega
  have z3 : decide (c ≤ 12) = false := by simp; omega
  have z4 : decide (15 ≤ c) = true := by simp; omega
  have z5 : decide (c ≤ 24) = true := by simp; omega
  go_enter Tryz.func50, Tryz.ntmps50
  go_wp2
  all_goals
    go_ret
    exact ⟨ret_int (by simp [bit, *]), (by repeat (first | exact bF _ _ | refine bA ?_ (by simp) _))⟩
theorem ref_c13_true (d s o n : Int) (d1 : 0 ≤ d) (d2 : d ≤ 10) (s1 : 0 ≤ s) (s2 : s ≤ 10) (dt : d ≠ 10) (w : World) :
    Calls Tryz.prog 50 #[.agg #[vI vK 13, vI vK d, vI vK s, .bool true, vI vK o, vI vK n]] w fun e w' => e = .returned (vI vK (bit (s != 0 || true || o != 0 || n != 0))) ∧ Below w.heap.size w w' := by
  have e10 : (d == 10) = false := by simpa using dt
  go_enter Tryz.func50, Tryz.ntmps50
  go_wp2
  all_goals
    go_ret
    exact ⟨ret_int (by simp [bit, *]), (by repeat (first | exact bF _ _ | refine bA ?_ (by simp) _))⟩
theorem ref_c13_false (d s o n : Int) (d1 : 0 ≤ d) (d2 : d ≤ 10) (s1 : 0 ≤ s) (s2 : s ≤ 10) (dt : d ≠ 10) (w : World) :
    Calls Tryz.prog 50 #[.agg #[vI vK 13, vI vK d, vI vK s, .bool false, vI vK o, vI vK n]] w fun e w' => e = .returned (vI vK (bit (s != 0 || false || o != 0 || n != 0))) ∧ Below w.heap.size w w' := by
  have e10 : (d == 10) = false := by simpa using dt
  go_enter Tryz.func50, Tryz.ntmps50
  go_wp2
  all_goals
    go_ret
    exact ⟨ret_int (by simp [bit, *]), (by repeat (first | exact bF _ _ | refine bA ?_ (by simp) _))⟩
theorem ref_c14_true (d s o n : Int) (d1 : 0 ≤ d) (d2 : d ≤ 10) (s1 : 0 ≤ s) (s2 : s ≤ 10) (w : World) :
    Calls Tryz.prog 50 #[.agg #[vI vK 14, vI vK d, vI vK s, .bool true, vI vK o, vI vK n]] w fun e w' => e = .returned (vI vK (bit (d != 0 || s != 0 || true || n != 0))) ∧ Below w.heap.size w w' := by
  go_enter Tryz.func50, Tryz.ntmps50
  go_wp2
  all_goals
    go_ret
    exact ⟨ret_int (by simp [bit, *]), (by repeat (first | exact bF _ _ | refine bA ?_ (by simp) _))⟩
theorem ref_c14_false (d s o n : Int) (d1 : 0 ≤ d) (d2 : d ≤ 10) (s1 : 0 ≤ s) (s2 : s ≤ 10) (w : World) :
    Calls Tryz.prog 50 #[.agg #[vI vK 14, vI vK d, vI vK s, .bool false, vI vK o, vI vK n]] w fun e w' => e = .returned (vI vK (bit (d != 0 || s != 0 || false || n != 0))) ∧ Below w.heap.size w w' := by
  go_enter Tryz.func50, Tryz.ntmps50
  go_wp2
  all_goals
    go_ret
    exact ⟨ret_int (by simp [bit, *]), (by repeat (first | exact bF _ _ | refine bA ?_ (by simp) _))⟩
theorem ref_c25_true (d s o n : Int) (d1 : 0 ≤ d) (d2 : d ≤ 10) (s1 : 0 ≤ s) (s2 : s ≤ 10) (dt : d ≠ 10) (w : World) :
    Calls Tryz.prog 50 #[.agg #[vI vK 25, vI vK d, vI vK s, .bool true, vI vK o, vI vK n]] w fun e w' => e = .returned (vI vK (bit (true || n != 0))) ∧ Below w.heap.size w w' := by
  have e10 : (d == 10) = false := by simpa using dt
  go_enter Tryz.func50, Tryz.ntmps50
  go_wp2
  all_goals
    go_ret
    exact ⟨ret_int (by simp [bit, *]), (by repeat (first | exact bF _ _ | refine bA ?_ (by simp) _))⟩
theorem ref_c25_false (d s o n : Int) (d1 : 0 ≤ d) (d2 : d ≤ 10) (s1 : 0 ≤ s) (s2 : s ≤ 10) (dt : d ≠ 10) (w : World) :
    Calls Tryz.prog 50 #[.agg #[vI vK 25, vI vK d, vI vK s, .bool false, vI vK o, vI vK n]] w fun e w' => e = .returned (vI vK (bit (false || n != 0))) ∧ Below w.heap.size w w' := by
  have e10 : (d == 10) = false := by simpa using dt
  go_enter Tryz.func50, Tryz.ntmps50
  go_wp2
  all_goals
    go_ret
    exact ⟨ret_int (by simp [bit, *]), (by repeat (first | exact bF _ _ | refine bA ?_ (by simp) _))⟩
theorem ref_c26_true (d s o n : Int) (d1 : 0 ≤ d) (d2 : d ≤ 10) (s1 : 0 ≤ s) (s2 : s ≤ 10) (w : World) :
    Calls Tryz.prog 50 #[.agg #[vI vK 26, vI vK d, vI vK s, .bool true, vI vK o, vI vK n]] w fun e w' => e = .returned (vI vK (bit (n != 0))) ∧ Below w.heap.size w w' := by
  go_enter Tryz.func50, Tryz.ntmps50
  go_wp2
  all_goals
    go_ret
    exact ⟨ret_int (by simp [bit, *]), (by repeat (first | exact bF _ _ | refine bA ?_ (by simp) _))⟩
theorem ref_c26_false (d s o n : Int) (d1 : 0 ≤ d) (d2 : d ≤ 10) (s1 : 0 ≤ s) (s2 : s ≤ 10) (w : World) :
    Calls Tryz.prog 50 #[.agg #[vI vK 26, vI vK d, vI vK s, .bool false, vI vK o, vI vK n]] w fun e w' => e = .returned (vI vK (bit (s != 0))) ∧ Below w.heap.size w w' := by
  go_enter Tryz.func50, Tryz.ntmps50
  go_wp2
  all_goals
    go_ret
    exact ⟨ret_int (by simp [bit, *]), (by repeat (first | exact bF _ _ | refine bA ?_ (by simp) _))⟩
theorem ref_c27_true (d s o n : Int) (d1 : 0 ≤ d) (d2 : d ≤ 10) (s1 : 0 ≤ s) (s2 : s ≤ 10) (w : World) :
    Calls Tryz.prog 50 #[.agg #[vI vK 27, vI vK d, vI vK s, .bool true, vI vK o, vI vK n]] w fun e w' => e = .returned (vI vK (bit (d != 0 || s != 0 || true || o != 0 || (n != 1 && (n != 2 && n != 3))))) ∧ Below w.heap.size w w' := by
  go_enter Tryz.func50, Tryz.ntmps50
  go_wp2
  all_goals
    go_ret
    exact ⟨ret_int (by simp [bit, *]), (by repeat (first | exact bF _ _ | refine bA ?_ (by simp) _))⟩
theorem ref_c27_false (d s o n : Int) (d1 : 0 ≤ d) (d2 : d ≤ 10) (s1 : 0 ≤ s) (s2 : s ≤ 10) (w : World) :
    Calls Tryz.prog 50 #[.agg #[vI vK 27, vI vK d, vI vK s, .bool false, vI vK o, vI vK n]] w fun e w' => e = .returned (vI vK (bit (d != 0 || s != 0 || false || o != 0 || (n != 1 && (n != 2 && n != 3))))) ∧ Below w.heap.size w w' := by
  go_enter Tryz.func50, Tryz.ntmps50
  go_wp2
  all_goals
    go_ret
    exact ⟨ret_int (by simp [bit, *]), (by repeat (first | exact bF _ _ | refine bA ?_ (by simp) _))⟩
theorem ref_c28_true (d s o n : Int) (d1 : 0 ≤ d) (d2 : d ≤ 10) (s1 : 0 ≤ s) (s2 : s ≤ 10) (w : World) :
    Calls Tryz.prog 50 #[.agg #[vI vK 28, vI vK d, vI vK s, .bool true, vI vK o, vI vK n]] w fun e w' => e = .returned (vI vK (bit (d != 0 || s != 0 || true || o != 0 || n != 0))) ∧ Below w.heap.size w w' := by
  go_enter Tryz.func50, Tryz.ntmps50
  go_wp2
  all_goals
    go_ret
    exact ⟨ret_int (by simp [bit, *]), (by repeat (first | exact bF _ _ | refine bA ?_ (by simp) _))⟩
theorem ref_c28_false (d s o n : Int) (d1 : 0 ≤ d) (d2 : d ≤ 10) (s1 : 0 ≤ s) (s2 : s ≤ 10) (w : World) :
    Calls Tryz.prog 50 #[.agg #[vI vK 28, vI vK d, vI vK s, .bool false, vI vK o, vI vK n]] w fun e w' => e = .returned (vI vK (bit (d != 0 || s != 0 || false || o != 0 || n != 0))) ∧ Below w.heap.size w w' := by
  go_enter Tryz.func50, Tryz.ntmps50
  go_wp2
  all_goals
    go_ret
    exact ⟨ret_int (by simp [bit, *]), (by repeat (first | exact bF _ _ | refine bA ?_ (by simp) _))⟩

theorem old_cells {W w1 : World} (hb : Below W.heap.size W w1) : (∀ b o, b < W.heap.size → w1.cell? ⟨b, o, none⟩ = W.cell? ⟨b, o, none⟩) ∧ (∀ b o, b < W.heap.size → w1.frozen? ⟨b, o, none⟩ = W.frozen? ⟨b, o, none⟩) :=
  ⟨fun b o h => hb.cell (p := ⟨b, o, none⟩) h, fun b o h => hb.frozen (p := ⟨b, o, none⟩) h⟩
theorem op_chg_more (c d s o n b : Int) (r : Bool) (h1 : 1 ≤ c) (h2 : c ≤ 13) (d1 : 0 ≤ d) (d2 : d ≤ 10) (s1 : 0 ≤ s) (s2 : s ≤ 10) (dt : d ≠ 10) (hm : moreV c d s r o n = true) (w : World) :
    Calls Tryz.prog 39 #[.agg #[vI vK c, vI vK d, vI vK s, .bool r, vI vK o, vI vK n], vI vK b, .func (Fn.func 38) #[] #[]] w fun e w' => e = .returned (vI vK 1) ∧ Below w.heap.size w w' := by
  have e14 : (c == 14) = false := by simp; omega
  have e25 : (c == 25) = false := by simp; omega
  have e26 : (c == 26) = false := by simp; omega
  have e27 : (c == 27) = false := by simp; omega
  have e28 : (c == 28) = false := by simp; omega
  have e10 : (d == 10) = false := by simpa using dt
  have z0 : decide (0 ≤ d) = true := by simp; omega
  have z1 : decide (d < 11) = true := by simp; omega
  have z2 : decide (0 ≤ s) = true := by simp; omega
  have z3 : decide (s < 11) = true := by simp; omega
  have z4 : decide (c < 1) = false := by simp; omega
  have z5 : decide (28 < c) = false := by simp; omega
  have z6 : decide (1 ≤ c) = true := by simp; omega
  have z7 : decide (c ≤ 13) = true := by simp; omega
  have z8 : decide (15 ≤ c) = false := by simp; omega
  go_enter Tryz.func39, Tryz.ntmps39
  go_wp2_with (first | (go_at_call 69; refine (more_any _ _ _ _ _ _ (by omega) (by omega) _).mono ?_; rw [hm]; rintro e w1 ⟨rfl, hb⟩; obtain ⟨hcl, hfr⟩ := old_cells hb) | go_in)
  all_goals
    go_ret
    exact ⟨rfl, (((bF _ _).alloc (Nat.le_refl _) _).trans (hb.mono (by simp)))⟩
theorem op_chg_end (c d s o n b : Int) (r : Bool) (h1 : 1 ≤ c) (h2 : c ≤ 13) (d1 : 0 ≤ d) (d2 : d ≤ 10) (s1 : 0 ≤ s) (s2 : s ≤ 10) (dt : d ≠ 10) (hm : moreV c d s r o n = false) (w : World) :
    Calls Tryz.prog 39 #[.agg #[vI vK c, vI vK d, vI vK s, .bool r, vI vK o, vI vK n], vI vK b, .func (Fn.func 38) #[] #[]] w fun e w' => e = .returned (vI vK (endV b)) ∧ Below w.heap.size w w' := by
  have e14 : (c == 14) = false := by simp; omega
  have e25 : (c == 25) = false := by simp; omega
  have e26 : (c == 26) = false := by simp; omega
  have e27 : (c == 27) = false := by simp; omega
  have e28 : (c == 28) = false := by simp; omega
  have e10 : (d == 10) = false := by simpa using dt
  have z0 : decide (0 ≤ d) = true := by simp; omega
  have z1 : decide (d < 11) = true := by simp; omega
  have z2 : decide (0 ≤ s) = true := by simp; omega
  have z3 : decide (s < 11) = true := by simp; omega
  have z4 : decide (c < 1) = false := by simp; omega
  have z5 : decide (28 < c) = false := by simp; omega
  have z6 : decide (1 ≤ c) = true := by simp; omega
  have z7 : decide (c ≤ 13) = true := by simp; omega
  have z8 : decide (15 ≤ c) = false := by simp; omega
  go_enter Tryz.func39, Tryz.ntmps39
  go_wp2_with (first | (go_at_call 69; refine (more_any _ _ _ _ _ _ (by omega) (by omega) _).mono ?_; rw [hm]; rintro e w1 ⟨rfl, hb⟩; obtain ⟨hcl, hfr⟩ := old_cells hb) | go_in)
  all_goals
    go_ret
    exact ⟨ret_int (by simp [endV, *]), (((bF _ _).alloc (Nat.le_refl _) _).trans (hb.mono (by simp)))⟩
theorem op_ask_more (c d s o n b : Int) (r : Bool) (h1 : 15 ≤ c) (h2 : c ≤ 24) (d1 : 0 ≤ d) (d2 : d ≤ 10) (s1 : 0 ≤ s) (s2 : s ≤ 10) (hm : moreV c d s r o n = true) (w : World) :
    Calls Tryz.prog 39 #[.agg #[vI vK c, vI vK d, vI vK s, .bool r, vI vK o, vI vK n], vI vK b, .func (Fn.func 38) #[] #[]] w fun e w' => e = .returned (vI vK 1) ∧ Below w.heap.size w w' := by
  have e14 : (c == 14) = false := by simp; omega
  have e25 : (c == 25) = false := by simp; omega
  have e26 : (c == 26) = false := by simp; omega
  have e27 : (c == 27) = false := by simp; omega
  have e28 : (c == 28) = false := by simp; omega
  have z0 : decide (0 ≤ d) = true := by simp; omega
  have z1 : decide (d < 11) = true := by simp; omega
  have z2 : decide (0 ≤ s) = true := by simp; omega
  have z3 : decide (s < 11) = true := by simp; omega
  have z4 : decide (c < 1) = false := by simp; omega
  have z5 : decide (28 < c) = false := by simp; omega
  have z6 : decide (1 ≤ c) = true := by simp; omega
  have z7 : decide (c ≤ 13) = false := by simp; omega
  have z8 : decide (15 ≤ c) = true := by simp; omega
  have z9 : decide (c ≤ 24) = true := by simp; omega
  go_enter Tryz.func39, Tryz.ntmps39
  go_wp2_with (first | (go_at_call 69; refine (more_any _ _ _ _ _ _ (by omega) (by omega) _).mono ?_; rw [hm]; rintro e w1 ⟨rfl, hb⟩; obtain ⟨hcl, hfr⟩ := old_cells hb) | go_in)
  all_goals
    go_ret
    exact ⟨rfl, (((bF _ _).alloc (Nat.le_refl _) _).trans (hb.mono (by simp)))⟩
theorem op_ask_end (c d s o n b : Int) (r : Bool) (h1 : 15 ≤ c) (h2 : c ≤ 24) (d1 : 0 ≤ d) (d2 : d ≤ 10) (s1 : 0 ≤ s) (s2 : s ≤ 10) (hm : moreV c d s r o n = false) (w : World) :
    Calls Tryz.prog 39 #[.agg #[vI vK c, vI vK d, vI vK s, .bool r, vI vK o, vI vK n], vI vK b, .func (Fn.func 38) #[] #[]] w fun e w' => e = .returned (vI vK (leadV o b)) ∧ Below w.heap.size w w' := by
  have e14 : (c == 14) = false := by simp; omega
  have e25 : (c == 25) = false := by simp; omega
  have e26 : (c == 26) = false := by simp; omega
  have e27 : (c == 27) = false := by simp; omega
  have e28 : (c == 28) = false := by simp; omega
  have z0 : decide (0 ≤ d) = true := by simp; omega
  have z1 : decide (d < 11) = true := by simp; omega
  have z2 : decide (0 ≤ s) = true := by simp; omega
  have z3 : decide (s < 11) = true := by simp; omega
  have z4 : decide (c < 1) = false := by simp; omega
  have z5 : decide (28 < c) = false := by simp; omega
  have z6 : decide (1 ≤ c) = true := by simp; omega
  have z7 : decide (c ≤ 13) = false := by simp; omega
  have z8 : decide (15 ≤ c) = true := by simp; omega
  have z9 : decide (c ≤ 24) = true := by simp; omega
  go_enter Tryz.func39, Tryz.ntmps39
  go_wp2_with (first | (go_at_call 69; refine (more_any _ _ _ _ _ _ (by omega) (by omega) _).mono ?_; rw [hm]; rintro e w1 ⟨rfl, hb⟩; obtain ⟨hcl, hfr⟩ := old_cells hb) | go_in)
  all_goals
    go_ret
    exact ⟨ret_int (by unfold leadV endV; (repeat' split) <;> omega), (((bF _ _).alloc (Nat.le_refl _) _).trans (hb.mono (by simp)))⟩
theorem op_c14_more (d s o n b : Int) (r : Bool) (d1 : 0 ≤ d) (d2 : d ≤ 10) (s1 : 0 ≤ s) (s2 : s ≤ 10) (hm : moreV 14 d s r o n = true) (w : World) :
    Calls Tryz.prog 39 #[.agg #[vI vK 14, vI vK d, vI vK s, .bool r, vI vK o, vI vK n], vI vK b, .func (Fn.func 38) #[] #[]] w fun e w' => e = .returned (vI vK 1) ∧ Below w.heap.size w w' := by
  have z0 : decide (0 ≤ d) = true := by simp; omega
  have z1 : decide (d < 11) = true := by simp; omega
  have z2 : decide (0 ≤ s) = true := by simp; omega
  have z3 : decide (s < 11) = true := by simp; omega
  go_enter Tryz.func39, Tryz.ntmps39
  go_wp2_with (first | (go_at_call 69; refine (more_any _ _ _ _ _ _ (by omega) (by omega) _).mono ?_; rw [hm]; rintro e w1 ⟨rfl, hb⟩; obtain ⟨hcl, hfr⟩ := old_cells hb) | go_in)
  all_goals
    go_ret
    exact ⟨rfl, (((bF _ _).alloc (Nat.le_refl _) _).trans (hb.mono (by simp)))⟩
theorem op_c14_end (d s o n b : Int) (r : Bool) (d1 : 0 ≤ d) (d2 : d ≤ 10) (s1 : 0 ≤ s) (s2 : s ≤ 10) (hm : moreV 14 d s r o n = false) (w : World) :
    Calls Tryz.prog 39 #[.agg #[vI vK 14, vI vK d, vI vK s, .bool r, vI vK o, vI vK n], vI vK b, .func (Fn.func 38) #[] #[]] w fun e w' => e = .returned (vI vK (leadV o b)) ∧ Below w.heap.size w w' := by
  have z0 : decide (0 ≤ d) = true := by simp; omega
  have z1 : decide (d < 11) = true := by simp; omega
  have z2 : decide (0 ≤ s) = true := by simp; omega
  have z3 : decide (s < 11) = true := by simp; omega
  go_enter Tryz.func39, Tryz.ntmps39
  go_wp2_with (first | (go_at_call 69; refine (more_any _ _ _ _ _ _ (by omega) (by omega) _).mono ?_; rw [hm]; rintro e w1 ⟨rfl, hb⟩; obtain ⟨hcl, hfr⟩ := old_cells hb) | go_in)
  all_goals
    go_ret
    exact ⟨ret_int (by unfold leadV endV; (repeat' split) <;> omega), (((bF _ _).alloc (Nat.le_refl _) _).trans (hb.mono (by simp)))⟩
theorem op_c25_more (d s o n b : Int) (r : Bool) (d1 : 0 ≤ d) (d2 : d ≤ 10) (s1 : 0 ≤ s) (s2 : s ≤ 10) (dt : d ≠ 10) (hm : moreV 25 d s r o n = true) (w : World) :
    Calls Tryz.prog 39 #[.agg #[vI vK 25, vI vK d, vI vK s, .bool r, vI vK o, vI vK n], vI vK b, .func (Fn.func 38) #[] #[]] w fun e w' => e = .returned (vI vK 1) ∧ Below w.heap.size w w' := by
  have e10 : (d == 10) = false := by simpa using dt
  have z0 : decide (0 ≤ d) = true := by simp; omega
  have z1 : decide (d < 11) = true := by simp; omega
  have z2 : decide (0 ≤ s) = true := by simp; omega
  have z3 : decide (s < 11) = true := by simp; omega
  go_enter Tryz.func39, Tryz.ntmps39
  go_wp2_with (first | (go_at_call 69; refine (more_any _ _ _ _ _ _ (by omega) (by omega) _).mono ?_; rw [hm]; rintro e w1 ⟨rfl, hb⟩; obtain ⟨hcl, hfr⟩ := old_cells hb) | go_in)
  all_goals
    go_ret
    exact ⟨rfl, (((bF _ _).alloc (Nat.le_refl _) _).trans (hb.mono (by simp)))⟩
theorem op_c25_end (d s o n b : Int) (r : Bool) (d1 : 0 ≤ d) (d2 : d ≤ 10) (s1 : 0 ≤ s) (s2 : s ≤ 10) (dt : d ≠ 10) (hm : moreV 25 d s r o n = false) (w : World) :
    Calls Tryz.prog 39 #[.agg #[vI vK 25, vI vK d, vI vK s, .bool r, vI vK o, vI vK n], vI vK b, .func (Fn.func 38) #[] #[]] w fun e w' => e = .returned (vI vK (endV b)) ∧ Below w.heap.size w w' := by
  have e10 : (d == 10) = false := by simpa using dt
  have z0 : decide (0 ≤ d) = true := by simp; omega
  have z1 : decide (d < 11) = true := by simp; omega
  have z2 : decide (0 ≤ s) = true := by simp; omega
  have z3 : decide (s < 11) = true := by simp; omega
  go_enter Tryz.func39, Tryz.ntmps39
  go_wp2_with (first | (go_at_call 69; refine (more_any _ _ _ _ _ _ (by omega) (by omega) _).mono ?_; rw [hm]; rintro e w1 ⟨rfl, hb⟩; obtain ⟨hcl, hfr⟩ := old_cells hb) | go_in)
  all_goals
    go_ret
    exact ⟨ret_int (by simp [endV, *]), (((bF _ _).alloc (Nat.le_refl _) _).trans (hb.mono (by simp)))⟩
theorem op_c26_more (d s o n b : Int) (r : Bool) (d1 : 0 ≤ d) (d2 : d ≤ 10) (s1 : 0 ≤ s) (s2 : s ≤ 10) (hm : moreV 26 d s r o n = true) (w : World) :
    Calls Tryz.prog 39 #[.agg #[vI vK 26, vI vK d, vI vK s, .bool r, vI vK o, vI vK n], vI vK b, .func (Fn.func 38) #[] #[]] w fun e w' => e = .returned (vI vK 1) ∧ Below w.heap.size w w' := by
  have z0 : decide (0 ≤ d) = true := by simp; omega
  have z1 : decide (d < 11) = true := by simp; omega
  have z2 : decide (0 ≤ s) = true := by simp; omega
  have z3 : decide (s < 11) = true := by simp; omega
  go_enter Tryz.func39, Tryz.ntmps39
  go_wp2_with (first | (go_at_call 69; refine (more_any _ _ _ _ _ _ (by omega) (by omega) _).mono ?_; rw [hm]; rintro e w1 ⟨rfl, hb⟩; obtain ⟨hcl, hfr⟩ := old_cells hb) | go_in)
  all_goals
    go_ret
    exact ⟨rfl, (((bF _ _).alloc (Nat.le_refl _) _).trans (hb.mono (by simp)))⟩
theorem op_c26_end (d s o n b : Int) (r : Bool) (d1 : 0 ≤ d) (d2 : d ≤ 10) (s1 : 0 ≤ s) (s2 : s ≤ 10) (hm : moreV 26 d s r o n = false) (w : World) :
    Calls Tryz.prog 39 #[.agg #[vI vK 26, vI vK d, vI vK s, .bool r, vI vK o, vI vK n], vI vK b, .func (Fn.func 38) #[] #[]] w fun e w' => e = .returned (vI vK (endV b)) ∧ Below w.heap.size w w' := by
  have z0 : decide (0 ≤ d) = true := by simp; omega
  have z1 : decide (d < 11) = true := by simp; omega
  have z2 : decide (0 ≤ s) = true := by simp; omega
  have z3 : decide (s < 11) = true := by simp; omega
  go_enter Tryz.func39, Tryz.ntmps39
  go_wp2_with (first | (go_at_call 69; refine (more_any _ _ _ _ _ _ (by omega) (by omega) _).mono ?_; rw [hm]; rintro e w1 ⟨rfl, hb⟩; obtain ⟨hcl, hfr⟩ := old_cells hb) | go_in)
  all_goals
    go_ret
    exact ⟨ret_int (by simp [endV, *]), (((bF _ _).alloc (Nat.le_refl _) _).trans (hb.mono (by simp)))⟩
theorem op_c27_more (d s o n b : Int) (r : Bool) (d1 : 0 ≤ d) (d2 : d ≤ 10) (s1 : 0 ≤ s) (s2 : s ≤ 10) (hm : moreV 27 d s r o n = true) (w : World) :
    Calls Tryz.prog 39 #[.agg #[vI vK 27, vI vK d, vI vK s, .bool r, vI vK o, vI vK n], vI vK b, .func (Fn.func 38) #[] #[]] w fun e w' => e = .returned (vI vK 1) ∧ Below w.heap.size w w' := by
  have z0 : decide (0 ≤ d) = true := by simp; omega
  have z1 : decide (d < 11) = true := by simp; omega
  have z2 : decide (0 ≤ s) = true := by simp; omega
  have z3 : decide (s < 11) = true := by simp; omega
  go_enter Tryz.func39, Tryz.ntmps39
  go_wp2_with (first | (go_at_call 69; refine (more_any _ _ _ _ _ _ (by omega) (by omega) _).mono ?_; rw [hm]; rintro e w1 ⟨rfl, hb⟩; obtain ⟨hcl, hfr⟩ := old_cells hb) | go_in)
  all_goals
    go_ret
    exact ⟨rfl, (((bF _ _).alloc (Nat.le_refl _) _).trans (hb.mono (by simp)))⟩
theorem op_c27_bad (d s o n b : Int) (r : Bool) (d1 : 0 ≤ d) (d2 : d ≤ 10) (s1 : 0 ≤ s) (s2 : s ≤ 10) (hm : moreV 27 d s r o n = false) (n1 : (n == 1) = false) (n2 : (n == 2) = false) (n3 : (n == 3) = false) (w : World) :
    Calls Tryz.prog 39 #[.agg #[vI vK 27, vI vK d, vI vK s, .bool r, vI vK o, vI vK n], vI vK b, .func (Fn.func 38) #[] #[]] w fun e w' => e = .returned (vI vK 1) ∧ Below w.heap.size w w' := by
  have z0 : decide (0 ≤ d) = true := by simp; omega
  have z1 : decide (d < 11) = true := by simp; omega
  have z2 : decide (0 ≤ s) = true := by simp; omega
  have z3 : decide (s < 11) = true := by simp; omega
  go_enter Tryz.func39, Tryz.ntmps39
  go_wp2_with (first | (go_at_call 69; refine (more_any _ _ _ _ _ _ (by omega) (by omega) _).mono ?_; rw [hm]; rintro e w1 ⟨rfl, hb⟩; obtain ⟨hcl, hfr⟩ := old_cells hb) | go_in)
  all_goals
    go_ret
    exact ⟨rfl, (((bF _ _).alloc (Nat.le_refl _) _).trans (hb.mono (by simp)))⟩
theorem op_c27_end1 (d s o n b : Int) (r : Bool) (d1 : 0 ≤ d) (d2 : d ≤ 10) (s1 : 0 ≤ s) (s2 : s ≤ 10) (hm : moreV 27 d s r o n = false) (n1 : (n == 1) = true) (w : World) :
    Calls Tryz.prog 39 #[.agg #[vI vK 27, vI vK d, vI vK s, .bool r, vI vK o, vI vK n], vI vK b, .func (Fn.func 38) #[] #[]] w fun e w' => e = .returned (vI vK (endV b)) ∧ Below w.heap.size w w' := by
  have z0 : decide (0 ≤ d) = true := by simp; omega
  have z1 : decide (d < 11) = true := by simp; omega
  have z2 : decide (0 ≤ s) = true := by simp; omega
  have z3 : decide (s < 11) = true := by simp; omega
  go_enter Tryz.func39, Tryz.ntmps39
  go_wp2_with (first | (go_at_call 69; refine (more_any _ _ _ _ _ _ (by omega) (by omega) _).mono ?_; rw [hm]; rintro e w1 ⟨rfl, hb⟩; obtain ⟨hcl, hfr⟩ := old_cells hb) | go_in)
  all_goals
    go_ret
    exact ⟨ret_int (by simp [endV, *]), (((bF _ _).alloc (Nat.le_refl _) _).trans (hb.mono (by simp)))⟩
theorem op_c27_end2 (d s o n b : Int) (r : Bool) (d1 : 0 ≤ d) (d2 : d ≤ 10) (s1 : 0 ≤ s) (s2 : s ≤ 10) (hm : moreV 27 d s r o n = false) (n1 : (n == 1) = false) (n2 : (n == 2) = true) (w : World) :
    Calls Tryz.prog 39 #[.agg #[vI vK 27, vI vK d, vI vK s, .bool r, vI vK o, vI vK n], vI vK b, .func (Fn.func 38) #[] #[]] w fun e w' => e = .returned (vI vK (endV b)) ∧ Below w.heap.size w w' := by
  have z0 : decide (0 ≤ d) = true := by simp; omega
  have z1 : decide (d < 11) = true := by simp; omega
  have z2 : decide (0 ≤ s) = true := by simp; omega
  have z3 : decide (s < 11) = true := by simp; omega
  go_enter Tryz.func39, Tryz.ntmps39
  go_wp2_with (first | (go_at_call 69; refine (more_any _ _ _ _ _ _ (by omega) (by omega) _).mono ?_; rw [hm]; rintro e w1 ⟨rfl, hb⟩; obtain ⟨hcl, hfr⟩ := old_cells hb) | go_in)
  all_goals
    go_ret
    exact ⟨ret_int (by simp [endV, *]), (((bF _ _).alloc (Nat.le_refl _) _).trans (hb.mono (by simp)))⟩
theorem op_c27_end3 (d s o n b : Int) (r : Bool) (d1 : 0 ≤ d) (d2 : d ≤ 10) (s1 : 0 ≤ s) (s2 : s ≤ 10) (hm : moreV 27 d s r o n = false) (n1 : (n == 1) = false) (n2 : (n == 2) = false) (n3 : (n == 3) = true) (w : World) :
    Calls Tryz.prog 39 #[.agg #[vI vK 27, vI vK d, vI vK s, .bool r, vI vK o, vI vK n], vI vK b, .func (Fn.func 38) #[] #[]] w fun e w' => e = .returned (vI vK (endV b)) ∧ Below w.heap.size w w' := by
  have z0 : decide (0 ≤ d) = true := by simp; omega
  have z1 : decide (d < 11) = true := by simp; omega
  have z2 : decide (0 ≤ s) = true := by simp; omega
  have z3 : decide (s < 11) = true := by simp; omega
  go_enter Tryz.func39, Tryz.ntmps39
  go_wp2_with (first | (go_at_call 69; refine (more_any _ _ _ _ _ _ (by omega) (by omega) _).mono ?_; rw [hm]; rintro e w1 ⟨rfl, hb⟩; obtain ⟨hcl, hfr⟩ := old_cells hb) | go_in)
  all_goals
    go_ret
    exact ⟨ret_int (by simp [endV, *]), (((bF _ _).alloc (Nat.le_refl _) _).trans (hb.mono (by simp)))⟩
theorem op_c28_more (d s o n b : Int) (r : Bool) (d1 : 0 ≤ d) (d2 : d ≤ 10) (s1 : 0 ≤ s) (s2 : s ≤ 10) (hm : moreV 28 d s r o n = true) (w : World) :
    Calls Tryz.prog 39 #[.agg #[vI vK 28, vI vK d, vI vK s, .bool r, vI vK o, vI vK n], vI vK b, .func (Fn.func 38) #[] #[]] w fun e w' => e = .returned (vI vK 1) ∧ Below w.heap.size w w' := by
  have z0 : decide (0 ≤ d) = true := by simp; omega
  have z1 : decide (d < 11) = true := by simp; omega
  have z2 : decide (0 ≤ s) = true := by simp; omega
  have z3 : decide (s < 11) = true := by simp; omega
  go_enter Tryz.func39, Tryz.ntmps39
  go_wp2_with (first | (go_at_call 69; refine (more_any _ _ _ _ _ _ (by omega) (by omega) _).mono ?_; rw [hm]; rintro e w1 ⟨rfl, hb⟩; obtain ⟨hcl, hfr⟩ := old_cells hb) | go_in)
  all_goals
    go_ret
    exact ⟨rfl, (((bF _ _).alloc (Nat.le_refl _) _).trans (hb.mono (by simp)))⟩
theorem op_c28_end (d s o n b : Int) (r : Bool) (d1 : 0 ≤ d) (d2 : d ≤ 10) (s1 : 0 ≤ s) (s2 : s ≤ 10) (hm : moreV 28 d s r o n = false) (w : World) :
    Calls Tryz.prog 39 #[.agg #[vI vK 28, vI vK d, vI vK s, .bool r, vI vK o, vI vK n], vI vK b, .func (Fn.func 38) #[] #[]] w fun e w' => e = .returned (vI vK 0) ∧ Below w.heap.size w w' := by
  have z0 : decide (0 ≤ d) = true := by simp; omega
  have z1 : decide (d < 11) = true := by simp; omega
  have z2 : decide (0 ≤ s) = true := by simp; omega
  have z3 : decide (s < 11) = true := by simp; omega
  go_enter Tryz.func39, Tryz.ntmps39
  go_wp2_with (first | (go_at_call 69; refine (more_any _ _ _ _ _ _ (by omega) (by omega) _).mono ?_; rw [hm]; rintro e w1 ⟨rfl, hb⟩; obtain ⟨hcl, hfr⟩ := old_cells hb) | go_in)
  all_goals
    go_ret
    exact ⟨rfl, (((bF _ _).alloc (Nat.le_refl _) _).trans (hb.mono (by simp)))⟩

theorem alone_last {c d s : Int} {r : Bool} {o n : Int} (c1 : 1 ≤ c) (c2 : c ≤ 28) (d1 : 0 ≤ d) (d2 : d ≤ 10) (s1 : 0 ≤ s) (s2 : s ≤ 10) (ht : ¬ (((1 ≤ c ∧ c ≤ 13) ∨ c = 25) ∧ d = 10)) :
    aloneV c d s r o n = (if moreV c d s r o n = true ∨ (c = 27 ∧ n ≠ 1 ∧ n ≠ 2 ∧ n ≠ 3) then 1 else 0) := by
  unfold aloneV
  rw [if_neg (by omega), if_neg (by omega), if_neg ht]
theorem alone_plain {c d s : Int} {r : Bool} {o n : Int} (c1 : 1 ≤ c) (c2 : c ≤ 28) (d1 : 0 ≤ d) (d2 : d ≤ 10) (s1 : 0 ≤ s) (s2 : s ≤ 10) (ht : ¬ (((1 ≤ c ∧ c ≤ 13) ∨ c = 25) ∧ d = 10)) (h27 : c ≠ 27) :
    aloneV c d s r o n = bit (moreV c d s r o n) := by
  rw [alone_last c1 c2 d1 d2 s1 s2 ht]
  unfold bit
  cases moreV c d s r o n <;> simp [h27]
theorem refWrong_any (c d s : Int) (r : Bool) (o n : Int) (w : World) :
    Calls Tryz.prog 50 #[.agg #[vI vK c, vI vK d, vI vK s, .bool r, vI vK o, vI vK n]] w fun e w' => e = .returned (vI vK (aloneV c d s r o n)) ∧ Below w.heap.size w w' := by
  by_cases k1 : c < 1
  · have e : aloneV c d s r o n = 3 := by unfold aloneV; rw [if_pos (Or.inl k1)]
    rw [e]; exact ref_c_lo c d s o n r k1 w
  by_cases k2 : 28 < c
  · have e : aloneV c d s r o n = 3 := by unfold aloneV; rw [if_pos (Or.inr k2)]
    rw [e]; exact ref_c_hi c d s o n r k2 w
  have c1 : 1 ≤ c := by omega
  have c2 : c ≤ 28 := by omega
  have two : (d < 0 ∨ 10 < d ∨ s < 0 ∨ 10 < s) → aloneV c d s r o n = 2 := fun h => by unfold aloneV; rw [if_neg (by omega), if_pos h]
  by_cases k3 : d < 0
  · rw [two (by omega)]; exact ref_d_lo c d s o n r c1 c2 k3 w
  by_cases k4 : 10 < d
  · rw [two (by omega)]; exact ref_d_hi c d s o n r c1 c2 k4 w
  have d1 : 0 ≤ d := by omega
  have d2 : d ≤ 10 := by omega
  by_cases k5 : s < 0
  · rw [two (by omega)]; exact ref_s_lo c d s o n r c1 c2 d1 d2 k5 w
  by_cases k6 : 10 < s
  · rw [two (by omega)]; exact ref_s_hi c d s o n r c1 c2 d1 d2 k6 w
  have s1 : 0 ≤ s := by omega
  have s2 : s ≤ 10 := by omega
  by_cases ht : ((1 ≤ c ∧ c ≤ 13) ∨ c = 25) ∧ d = 10
  · have e : aloneV c d s r o n = 6 := by unfold aloneV; rw [if_neg (by omega), if_neg (by omega), if_pos ht]
    rw [e]
    obtain ⟨h, rfl⟩ := ht
    rcases h with ⟨a1, a2⟩ | rfl
    · exact ref_top c s o n r a1 a2 s1 s2 w
    · exact ref_top25 s o n r s1 s2 w
  have hc : (1 ≤ c ∧ c ≤ 12) ∨ (15 ≤ c ∧ c ≤ 24) ∨ c = 13 ∨ c = 14 ∨ c = 25 ∨ c = 26 ∨ c = 27 ∨ c = 28 := by omega
  rcases hc with ⟨a1, a2⟩ | ⟨a1, a2⟩ | rfl | rfl | rfl | rfl | rfl | rfl
  · have e : moreV c d s r o n = (if r then o != 0 || n != 0 else s != 0 || o != 0) := by unfold moreV; rw [if_pos ⟨a1, a2⟩]
    rw [alone_plain c1 c2 d1 d2 s1 s2 ht (by omega), e]
    cases r
    · exact ref_two_false c d s o n a1 a2 d1 d2 s1 s2 (by omega) w
    · exact ref_two_true c d s o n a1 a2 d1 d2 s1 s2 (by omega) w
  · have e : moreV c d s r o n = (if r then n != 0 else s != 0) := by unfold moreV; rw [if_neg (by omega), if_pos ⟨a1, a2⟩]
    rw [alone_plain c1 c2 d1 d2 s1 s2 ht (by omega), e]
    cases r
    · exact ref_ask_false c d s o n a1 a2 d1 d2 s1 s2 w
    · exact ref_ask_true c d s o n a1 a2 d1 d2 s1 s2 w
  · rw [alone_plain c1 c2 d1 d2 s1 s2 ht (by omega)]
    cases r
    · exact ref_c13_false d s o n d1 d2 s1 s2 (by omega) w
    · exact ref_c13_true d s o n d1 d2 s1 s2 (by omega) w
  · rw [alone_plain c1 c2 d1 d2 s1 s2 ht (by omega)]
    cases r
    · exact ref_c14_false d s o n d1 d2 s1 s2 w
    · exact ref_c14_true d s o n d1 d2 s1 s2 w
  · rw [alone_plain c1 c2 d1 d2 s1 s2 ht (by omega)]
    cases r
    · exact ref_c25_false d s o n d1 d2 s1 s2 (by omega) w
    · exact ref_c25_true d s o n d1 d2 s1 s2 (by omega) w
  · rw [alone_plain c1 c2 d1 d2 s1 s2 ht (by omega)]
    cases r
    · exact ref_c26_false d s o n d1 d2 s1 s2 w
    · exact ref_c26_true d s o n d1 d2 s1 s2 w
  · rw [alone_last c1 c2 d1 d2 s1 s2 ht]
    have e : (if moreV 27 d s r o n = true ∨ ((27 : Int) = 27 ∧ n ≠ 1 ∧ n ≠ 2 ∧ n ≠ 3) then (1 : Int) else 0) = bit (d != 0 || s != 0 || r || o != 0 || (n != 1 && (n != 2 && n != 3))) := by
      have m : moreV 27 d s r o n = (d != 0 || s != 0 || r || o != 0) := rfl
      rw [m]
      unfold bit
      by_cases h1 : n = 1 <;> by_cases h2 : n = 2 <;> by_cases h3 : n = 3 <;> simp [h1, h2, h3] <;> omega
    rw [e]
    cases r
    · exact ref_c27_false d s o n d1 d2 s1 s2 w
    · exact ref_c27_true d s o n d1 d2 s1 s2 w
  · rw [alone_plain c1 c2 d1 d2 s1 s2 ht (by omega)]
    cases r
    · exact ref_c28_false d s o n d1 d2 s1 s2 w
    · exact ref_c28_true d s o n d1 d2 s1 s2 w
theorem wrong_alone {c d s : Int} {r : Bool} {o n b : Int} {x : Int} (h : aloneV c d s r o n = x) (h0 : x ≠ 0) : wrongV c d s r o n b = x := by
  unfold wrongV; rw [h, if_pos h0]
theorem wrong_rest {c d s : Int} {r : Bool} {o n b : Int} (h : aloneV c d s r o n = 0) : wrongV c d s r o n b = if (c = 14 ∨ (15 ≤ c ∧ c ≤ 24)) ∧ (o < 0 ∨ b ≤ o) then 10 else if b = 0 ∧ c ≠ 28 then 8 else 0 := by
  unfold wrongV; rw [if_neg (by rw [h]; exact fun f => f rfl)]
theorem wrong_end {c d s : Int} {r : Bool} {o n b : Int} (h : aloneV c d s r o n = 0) (h1 : ¬ (c = 14 ∨ (15 ≤ c ∧ c ≤ 24))) (h2 : c ≠ 28) : wrongV c d s r o n b = endV b := by
  rw [wrong_rest h, if_neg (fun f => h1 f.1)]
  unfold endV
  by_cases hb : b = 0 <;> simp [hb, h2]
theorem wrong_lead {c d s : Int} {r : Bool} {o n b : Int} (h : aloneV c d s r o n = 0) (h1 : c = 14 ∨ (15 ≤ c ∧ c ≤ 24)) : wrongV c d s r o n b = leadV o b := by
  rw [wrong_rest h]
  unfold leadV endV
  (repeat' split) <;> omega
theorem opWrong_any (c d s : Int) (r : Bool) (o n b : Int) (w : World) :
    Calls Tryz.prog 39 #[.agg #[vI vK c, vI vK d, vI vK s, .bool r, vI vK o, vI vK n], vI vK b, .func (Fn.func 38) #[] #[]] w fun e w' => e = .returned (vI vK (wrongV c d s r o n b)) ∧ Below w.heap.size w w' := by
  by_cases k1 : c < 1
  · have e : aloneV c d s r o n = 3 := by unfold aloneV; rw [if_pos (Or.inl k1)]
    rw [wrong_alone e (by decide)]; exact op_c_lo c d s o n b r k1 w
  by_cases k2 : 28 < c
  · have e : aloneV c d s r o n = 3 := by unfold aloneV; rw [if_pos (Or.inr k2)]
    rw [wrong_alone e (by decide)]; exact op_c_hi c d s o n b r k2 w
  have c1 : 1 ≤ c := by omega
  have c2 : c ≤ 28 := by omega
  have two : (d < 0 ∨ 10 < d ∨ s < 0 ∨ 10 < s) → wrongV c d s r o n b = 2 := fun h => wrong_alone (by unfold aloneV; rw [if_neg (by omega), if_pos h]) (by decide)
  by_cases k3 : d < 0
  · rw [two (by omega)]; exact op_d_lo c d s o n b r c1 c2 k3 w
  by_cases k4 : 10 < d
  · rw [two (by omega)]; exact op_d_hi c d s o n b r c1 c2 k4 w
  have d1 : 0 ≤ d := by omega
  have d2 : d ≤ 10 := by omega
  by_cases k5 : s < 0
  · rw [two (by omega)]; exact op_s_lo c d s o n b r c1 c2 d1 d2 k5 w
  by_cases k6 : 10 < s
  · rw [two (by omega)]; exact op_s_hi c d s o n b r c1 c2 d1 d2 k6 w
  have s1 : 0 ≤ s := by omega
  have s2 : s ≤ 10 := by omega
  by_cases ht : ((1 ≤ c ∧ c ≤ 13) ∨ c = 25) ∧ d = 10
  · have e : aloneV c d s r o n = 6 := by unfold aloneV; rw [if_neg (by omega), if_neg (by omega), if_pos ht]
    rw [wrong_alone e (by decide)]
    obtain ⟨h, rfl⟩ := ht
    rcases h with ⟨a1, a2⟩ | rfl
    · exact op_top c s o n b r a1 a2 s1 s2 w
    · exact op_top25 s o n b r s1 s2 w
  have last := alone_last (r := r) (o := o) (n := n) c1 c2 d1 d2 s1 s2 ht
  have hc : (1 ≤ c ∧ c ≤ 13) ∨ (15 ≤ c ∧ c ≤ 24) ∨ c = 14 ∨ c = 25 ∨ c = 26 ∨ c = 27 ∨ c = 28 := by omega
  cases hm : moreV c d s r o n with
  | true =>
    have e : aloneV c d s r o n = 1 := by rw [last, if_pos (Or.inl hm)]
    rw [wrong_alone e (by decide)]
    rcases hc with ⟨a1, a2⟩ | ⟨a1, a2⟩ | rfl | rfl | rfl | rfl | rfl
    · exact op_chg_more c d s o n b r a1 a2 d1 d2 s1 s2 (by omega) hm w
    · exact op_ask_more c d s o n b r a1 a2 d1 d2 s1 s2 hm w
    · exact op_c14_more d s o n b r d1 d2 s1 s2 hm w
    · exact op_c25_more d s o n b r d1 d2 s1 s2 (by omega) hm w
    · exact op_c26_more d s o n b r d1 d2 s1 s2 hm w
    · exact op_c27_more d s o n b r d1 d2 s1 s2 hm w
    · exact op_c28_more d s o n b r d1 d2 s1 s2 hm w
  | false =>
    by_cases h27 : c = 27 ∧ n ≠ 1 ∧ n ≠ 2 ∧ n ≠ 3
    · have e : aloneV c d s r o n = 1 := by rw [last, if_pos (Or.inr h27)]
      rw [wrong_alone e (by decide)]
      obtain ⟨rfl, n1, n2, n3⟩ := h27
      exact op_c27_bad d s o n b r d1 d2 s1 s2 hm (by simpa using n1) (by simpa using n2) (by simpa using n3) w
    · have e : aloneV c d s r o n = 0 := by rw [last, if_neg (by rw [hm]; simpa using h27)]
      rcases hc with ⟨a1, a2⟩ | ⟨a1, a2⟩ | rfl | rfl | rfl | rfl | rfl
      · rw [wrong_end e (by omega) (by omega)]; exact op_chg_end c d s o n b r a1 a2 d1 d2 s1 s2 (by omega) hm w
      · rw [wrong_lead e (by omega)]; exact op_ask_end c d s o n b r a1 a2 d1 d2 s1 s2 hm w
      · rw [wrong_lead e (by omega)]; exact op_c14_end d s o n b r d1 d2 s1 s2 hm w
      · rw [wrong_end e (by omega) (by omega)]; exact op_c25_end d s o n b r d1 d2 s1 s2 (by omega) hm w
      · rw [wrong_end e (by omega) (by omega)]; exact op_c26_end d s o n b r d1 d2 s1 s2 hm w
      · rw [wrong_end e (by omega) (by omega)]
        have hn : n = 1 ∨ n = 2 ∨ n = 3 := by omega
        rcases hn with rfl | rfl | rfl
        · exact op_c27_end1 d s o 1 b r d1 d2 s1 s2 hm (by decide) w
        · exact op_c27_end2 d s o 2 b r d1 d2 s1 s2 hm (by decide) (by decide) w
        · exact op_c27_end3 d s o 3 b r d1 d2 s1 s2 hm (by decide) (by decide) (by decide) w
      · have z : wrongV 28 d s r o n b = 0 := by rw [wrong_rest e, if_neg (by omega), if_neg (by omega)]
        rw [z]; exact op_c28_end d s o n b r d1 d2 s1 s2 hm w

def StepsAt (w : World) (bk off len : Nat) (C D S : Nat → Int) (R : Nat → Bool) (O N : Nat → Int) : Prop :=
  ∀ i, i < len → w.cell? ⟨bk, off + i * 6, none⟩ = some (vI vK (C i)) ∧ w.cell? ⟨bk, off + i * 6 + 1, none⟩ = some (vI vK (D i)) ∧ w.cell? ⟨bk, off + i * 6 + 2, none⟩ = some (vI vK (S i))
    ∧ w.cell? ⟨bk, off + i * 6 + 3, none⟩ = some (.bool (R i)) ∧ w.cell? ⟨bk, off + i * 6 + 4, none⟩ = some (vI vK (O i)) ∧ w.cell? ⟨bk, off + i * 6 + 5, none⟩ = some (vI vK (N i))
theorem StepsAt.later {w wr : World} {bk off len : Nat} {C D S : Nat → Int} {R : Nat → Bool} {O N : Nat → Int} (h : StepsAt w bk off len C D S R O N) (hb : Below w.heap.size w wr) (hbk : bk < w.heap.size) : StepsAt wr bk off len C D S R O N := by
  intro i hi
  obtain ⟨a, b, c, d, e, f⟩ := h i hi
  exact ⟨(hb.cell (p := ⟨bk, _, none⟩) hbk).trans a, (hb.cell (p := ⟨bk, _, none⟩) hbk).trans b, (hb.cell (p := ⟨bk, _, none⟩) hbk).trans c, (hb.cell (p := ⟨bk, _, none⟩) hbk).trans d, (hb.cell (p := ⟨bk, _, none⟩) hbk).trans e, (hb.cell (p := ⟨bk, _, none⟩) hbk).trans f⟩
def faultAt (len : Nat) (C D S : Nat → Int) (R : Nat → Bool) (O N : Nat → Int) (i : Nat) : Int := wrongV (C i) (D i) (S i) (R i) (O i) (N i) ((len : Int) - 1 - i)

theorem opCheck_limit (a : Option Addr) (len cap : Nat) (h : len < 1 ∨ 200 < len) (w : World) :
    Calls Tryz.prog 18 #[.slice a len cap] w fun e w' => e = .returned (.iface 23 (vI vK 4)) ∧ w' = w := by
  rcases h with h | h
  · obtain rfl : len = 0 := by omega
    go_enter Tryz.func18, Tryz.ntmps18
    go_wp2
    go_ret
    exact ⟨rfl, rfl⟩
  · have z0 : decide ((len : Int) < 1) = false := by simp; omega
    have z1 : decide (200 < (len : Int)) = true := by simp; omega
    go_enter Tryz.func18, Tryz.ntmps18
    go_wp2
    go_ret
    exact ⟨rfl, rfl⟩

theorem opCheck_steps (bk off len cap : Nat) (C D S O N : Nat → Int) (R : Nat → Bool) (w : World) (h1 : 1 ≤ len) (h2 : len ≤ 200) (hbk : bk < w.heap.size) (hst : StepsAt w bk off len C D S R O N) :
    Calls Tryz.prog 18 #[.slice (some ⟨bk, off, none⟩) len cap] w fun e w' => Below w.heap.size w w' ∧
      ((e = .returned .nilIface ∧ ∀ j, j < len → faultAt len C D S R O N j = 0) ∨
       (∃ i p, i < len ∧ (∀ j, j < i → faultAt len C D S R O N j = 0) ∧ faultAt len C D S R O N i ≠ 0 ∧ e = .returned (.iface 74 (.pointer (some ⟨p, 0, none⟩))) ∧ w.heap.size ≤ p
          ∧ w'.cell? ⟨p, 0, none⟩ = some (vI vK (faultAt len C D S R O N i)) ∧ w'.cell? ⟨p, 1, none⟩ = some (vI vK i))) := by
  have z0 : decide ((len : Int) < 1) = false := by simp; omega
  have z1 : decide (200 < (len : Int)) = false := by simp; omega
  go_enter Tryz.func18, Tryz.ntmps18
  go_wp2
  go_loopw [18] (fun i wr => ∃ k : Nat, k ≤ len ∧ i = vI vK k ∧ Below w.heap.size w wr ∧ ∀ j, j < k → faultAt len C D S R O N j = 0) (fun i _ => len - (intOf i).toNat)
  case atStart => exact ⟨0, Nat.zero_le _, rfl, bF _ _, fun j hj => absurd hj (Nat.not_lt_zero _)⟩
  case round =>
    obtain ⟨k, hk, rfl, hb, hno⟩ := hrel
    by_cases hlt : k < len
    · obtain ⟨g0, g1, g2, g3, g4, g5⟩ := hst.later hb hbk k hlt
      have hsz := hb.size
      have HF : Hid (faultAt len C D S R O N k = wrongV (C k) (D k) (S k) (R k) (O k) (N k) ((len : Int) - 1 - k)) := rfl
      by_cases hw : wrongV (C k) (D k) (S k) (R k) (O k) (N k) ((len : Int) - 1 - k) = 0
      · have hw2 : (wrongV (C k) (D k) (S k) (R k) (O k) (N k) ((len : Int) - 1 - k) != 0) = false := by simp [hw]
        have HW : Hid (wrongV (C k) (D k) (S k) (R k) (O k) (N k) ((len : Int) - 1 - k) = 0) := hw
        clear hw
        go_wp2_with (go_at_call 39; refine (opWrong_any _ _ _ _ _ _ _ _).mono ?_; rintro e w1 ⟨rfl, hb1⟩; obtain ⟨hcl, hfr⟩ := old_cells hb1)
        go_roundw
        case rel => exact ⟨k + 1, by omega, by go_num, (hb.alloc hsz _).trans (hb1.mono (by simp; omega)), fun j hj => by
          rcases Nat.lt_succ_iff_lt_or_eq.1 hj with h | h
          · exact hno j h
          · rw [h, HF.out]; exact HW.out⟩
        case measure => simp [intOf]; omega
      · have hw2 : (wrongV (C k) (D k) (S k) (R k) (O k) (N k) ((len : Int) - 1 - k) != 0) = true := by simp [hw]
        have HW : Hid (wrongV (C k) (D k) (S k) (R k) (O k) (N k) ((len : Int) - 1 - k) ≠ 0) := hw
        clear hw
        go_wp2_with (go_at_call 39; refine (opWrong_any _ _ _ _ _ _ _ _).mono ?_; rintro e w1 ⟨rfl, hb1⟩; obtain ⟨hcl, hfr⟩ := old_cells hb1)
        go_ret
        have hb2 : Below w.heap.size w w1 := (hb.alloc hsz _).trans (hb1.mono (by simp; omega))
        refine ⟨hb2.alloc hb2.size _, Or.inr ⟨k, w1.heap.size, hlt, hno, by rw [HF.out]; exact HW.out, rfl, hb2.size, ?_, ?_⟩⟩
        · rw [HF.out, World.cell?_alloc_at _ _ _ _ rfl]; rfl
        · rw [World.cell?_alloc_at _ _ _ _ rfl]; rfl
    · obtain rfl : k = len := by omega
      go_wp2
      go_ret
      exact ⟨hb, Or.inl ⟨rfl, hno⟩⟩

theorem below_of {w w1 : World} {Z : Obj} (h : Below (w.alloc Z).heap.size (w.alloc Z) w1) : Below w.heap.size w w1 :=
  ((bF _ _).alloc (Nat.le_refl _) Z).trans (h.mono (by simp))

theorem up_to_next {f : Nat → Int} {k : Nat} (h : ∀ j, j < k → f j = 0) (hk : f k = 0) (j : Nat) (hj : j < k + 1) : f j = 0 := by
  rcases Nat.lt_succ_iff_lt_or_eq.1 hj with g | g
  · exact h j g
  · rw [g]; exact hk
section
variable {len : Nat} {C D S : Nat → Int} {R : Nat → Bool} {O N : Nat → Int} {k : Nat}
end
end Go.Proofs.YtednmkhdehlojaaGreatDoor
namespace Go.Proofs.YtednmkhdehlojaaGreatDoor
open Go.ChangeShapes Go.WideShapes Go.ChangeAt Go.RowKit

theorem first_fault (f : Nat → Int) : ∀ len : Nat, (∀ j, j < len → f j = 0) ∨ ∃ i, i < len ∧ (∀ j, j < i → f j = 0) ∧ f i ≠ 0
  | 0 => Or.inl fun j hj => absurd hj (Nat.not_lt_zero _)
  | n + 1 => by
    rcases first_fault f n with h | ⟨i, hi, hno, hf⟩
    · by_cases hn : f n = 0
      · exact Or.inl (up_to_next h hn)
      · exact Or.inr ⟨n, Nat.lt_succ_self n, h, hn⟩
    · exact Or.inr ⟨i, Nat.lt_succ_of_lt hi, hno, hf⟩
theorem same_first {f : Nat → Int} {i k : Nat} (hi : ∀ j, j < i → f j = 0) (hf : f i ≠ 0) (hk : ∀ j, j < k → f j = 0) (hg : f k ≠ 0) : k = i := by
  rcases Nat.lt_trichotomy k i with h | h | h
  · exact absurd (hi k h) hg
  · exact h
  · exact absurd (hk i h) hf

section
variable {bk off len cap : Nat} {C D S O N : Nat → Int} {R : Nat → Bool} {w : World} (h1 : 1 ≤ len) (h2 : len ≤ 200) (hbk : bk < w.heap.size) (hst : StepsAt w bk off len C D S R O N)
theorem opCheck_fine (h : ∀ j, j < len → faultAt len C D S R O N j = 0) (hst : StepsAt w bk off len C D S R O N) (h1 : 1 ≤ len) (h2 : len ≤ 200) (hbk : bk < w.heap.size) :
    Calls Tryz.prog 18 #[.slice (some ⟨bk, off, none⟩) len cap] w fun e w' => e = .returned .nilIface ∧ Below w.heap.size w w' := by
  refine (opCheck_steps bk off len cap C D S O N R w h1 h2 hbk hst).mono fun e w' hh => ?_
  obtain ⟨hb, hh⟩ := hh
  rcases hh with ⟨he, _⟩ | ⟨i, p, hi, _, hf, _⟩
  · exact ⟨he, hb⟩
  · exact absurd (h i hi) hf
theorem opCheck_bad {i : Nat} (hi : i < len) (hno : ∀ j, j < i → faultAt len C D S R O N j = 0) (hf : faultAt len C D S R O N i ≠ 0) (hst : StepsAt w bk off len C D S R O N) (h1 : 1 ≤ len) (h2 : len ≤ 200) (hbk : bk < w.heap.size) :
    Calls Tryz.prog 18 #[.slice (some ⟨bk, off, none⟩) len cap] w fun e w' => ∃ p, e = .returned (.iface 74 (.pointer (some ⟨p, 0, none⟩))) ∧ Below w.heap.size w w' ∧ p < w'.heap.size ∧ w'.cell? ⟨p, 0, none⟩ = some (vI vK (faultAt len C D S R O N i)) ∧ w'.cell? ⟨p, 1, none⟩ = some (vI vK i) := by
  refine (opCheck_steps bk off len cap C D S O N R w h1 h2 hbk hst).mono fun e w' hh => ?_
  obtain ⟨hb, hh⟩ := hh
  rcases hh with ⟨_, h⟩ | ⟨k, p, hk, hno', hf', he, hp, hc0, hc1⟩
  · exact absurd (h i hi) hf
  · obtain rfl := same_first hno hf hno' hf'
    refine ⟨p, he, hb, ?_, hc0, hc1⟩
    rcases Nat.lt_or_ge p w'.heap.size with g | g
    · exact g
    · simp [World.cell?, Array.getElem?_eq_none g] at hc0
end
end Go.Proofs.YtednmkhdehlojaaGreatDoor
namespace Go.Proofs.YtednmkhdehlojaaGreatDoor
open Go.RowKit
structure Right (c d s : Int) (r : Bool) (o n : Int) (len k : Nat) : Prop where
  c1 : 1 ≤ c
  c2 : c ≤ 28
  d1 : 0 ≤ d
  d2 : d ≤ 10
  s1 : 0 ≤ s
  s2 : s ≤ 10
  call : c = 27 → n = 1 ∨ n = 2 ∨ n = 3
  exit : c = 28 → d = 0
  lead : (c = 14 ∨ (15 ≤ c ∧ c ≤ 24)) → 0 ≤ o ∧ o < (len : Int) - 1 - k
  last : c ≠ 28 → (k : Int) + 1 ≠ len
theorem right_of {len : Nat} {C D S : Nat → Int} {R : Nat → Bool} {O N : Nat → Int} {k : Nat} (h : faultAt len C D S R O N k = 0) : Right (C k) (D k) (S k) (R k) (O k) (N k) len k := by
  unfold faultAt wrongV at h
  have ha : aloneV (C k) (D k) (S k) (R k) (O k) (N k) = 0 := by
    by_cases e : aloneV (C k) (D k) (S k) (R k) (O k) (N k) = 0
    · exact e
    · rw [if_pos e] at h; exact h
  rw [if_neg (by simp [ha])] at h
  have hl : ¬ ((C k = 14 ∨ (15 ≤ C k ∧ C k ≤ 24)) ∧ (O k < 0 ∨ (len : Int) - 1 - k ≤ O k)) := by
    intro e; rw [if_pos e] at h; exact absurd h (by decide)
  rw [if_neg hl] at h
  have he : ¬ ((len : Int) - 1 - k = 0 ∧ C k ≠ 28) := by
    intro e; rw [if_pos e] at h; exact absurd h (by decide)
  unfold aloneV at ha
  have a1 : ¬ (C k < 1 ∨ 28 < C k) := by
    intro e; rw [if_pos e] at ha; exact absurd ha (by decide)
  rw [if_neg a1] at ha
  have a2 : ¬ (D k < 0 ∨ 10 < D k ∨ S k < 0 ∨ 10 < S k) := by
    intro e; rw [if_pos e] at ha; exact absurd ha (by decide)
  rw [if_neg a2] at ha
  have a3 : ¬ (((1 ≤ C k ∧ C k ≤ 13) ∨ C k = 25) ∧ D k = 10) := by
    intro e; rw [if_pos e] at ha; exact absurd ha (by decide)
  rw [if_neg a3] at ha
  have a4 : ¬ (moreV (C k) (D k) (S k) (R k) (O k) (N k) = true ∨ (C k = 27 ∧ N k ≠ 1 ∧ N k ≠ 2 ∧ N k ≠ 3)) := by
    intro e; rw [if_pos e] at ha; exact absurd ha (by decide)
  refine ⟨by omega, by omega, by omega, by omega, by omega, by omega, fun e => ?_, fun e => ?_, fun e => ?_, fun e => by omega⟩
  · by_cases n1 : N k = 1
    · exact Or.inl n1
    by_cases n2 : N k = 2
    · exact Or.inr (Or.inl n2)
    by_cases n3 : N k = 3
    · exact Or.inr (Or.inr n3)
    exact absurd (Or.inr ⟨e, n1, n2, n3⟩) a4
  · by_cases hd : D k = 0
    · exact hd
    · refine absurd (Or.inl ?_) a4
      unfold moreV
      rw [if_neg (by omega), if_neg (by omega), if_neg (by omega), if_neg (by omega), if_neg (by omega), if_neg (by omega), if_neg (by omega)]
      simp [hd]
  · by_cases e1 : O k < 0 ∨ (len : Int) - 1 - k ≤ O k
    · exact absurd ⟨e, e1⟩ hl
    · omega
theorem askF_off (c : Int) (a b : Val) (r : Bool) (o n : Int) : (askF c a b r o n).1 = o ∨ (askF c a b r o n).1 = 0 := by
  unfold askF
  split
  · exact Or.inr rfl
  split
  · split
    · exact Or.inl rfl
    · exact Or.inr rfl
  split
  · exact Or.inr rfl
  split
  · exact Or.inl rfl
  · exact Or.inr rfl
theorem doF_off {c d s : Int} {r : Bool} {o n : Int} {len k : Nat} (h : Right c d s r o n len k) (hk : k < len) (hc : c ≠ 28) (a : Abs) : 0 ≤ (doF c d s r o n a).1 ∧ (k : Int) + 1 + (doF c d s r o n a).1 < len := by
  have hl := h.last hc
  unfold doF
  by_cases h1 : 15 ≤ c ∧ c ≤ 24
  · rw [if_pos h1]
    have := h.lead (Or.inr h1)
    rcases askF_off c (a.reg d.toNat) (a.second s.toNat r n) r o n with e | e
    · show 0 ≤ (askF _ _ _ _ _ _).1 ∧ (k : Int) + 1 + (askF _ _ _ _ _ _).1 < len
      rw [e]; omega
    · show 0 ≤ (askF _ _ _ _ _ _).1 ∧ (k : Int) + 1 + (askF _ _ _ _ _ _).1 < len
      rw [e]; omega
  rw [if_neg h1]
  by_cases h2 : c = 14
  · rw [if_pos h2]
    have := h.lead (Or.inl h2)
    show 0 ≤ o ∧ (k : Int) + 1 + o < len
    omega
  rw [if_neg h2]
  split
  · show (0 : Int) ≤ 0 ∧ (k : Int) + 1 + 0 < len
    omega
  split
  · show (0 : Int) ≤ 0 ∧ (k : Int) + 1 + 0 < len
    omega
  split
  · show (0 : Int) ≤ 0 ∧ (k : Int) + 1 + 0 < len
    omega
  · show (0 : Int) ≤ 0 ∧ (k : Int) + 1 + 0 < len
    omega
end Go.Proofs.YtednmkhdehlojaaGreatDoor
namespace Go.Proofs.YtednmkhdehlojaaGreatDoor
open Go.ChangeShapes Go.WideShapes Go.ChangeAt Go.RowKit
attribute [local simp] drew_size drewN_size setCell_size
def Gone (B : Nat) (w w' : World) (X : End) (E : Int) : Prop :=
  Below B w w' ∧ ∃ m' L', MacAt w' B m' ∧ OutAt w' B m'.out L' ∧
    match X with
    | .inl (e, p) => E = e ∧ E ≠ 0 ∧ m'.step = (p : Int)
    | .inr (n, k, a) => E = 0 ∧ m'.steps = (k : Int) ∧ m'.abs L' = a ∧ n = (a.reg 0).n
def macStepOf (B : Nat) (w : World) : Nat := (intOf ((w.cell? ⟨B, 0, none⟩).getD (vI vK 0))).toNat
theorem StepsAt.under {w wr : World} {B bk off len : Nat} {C D S : Nat → Int} {R : Nat → Bool} {O N : Nat → Int} (h : StepsAt w bk off len C D S R O N) (hb : Below B w wr) (hbk : bk < B) : StepsAt wr bk off len C D S R O N := by
  intro i hi
  obtain ⟨a, b, c, d, e, f⟩ := h i hi
  exact ⟨(hb.cell (p := ⟨bk, _, none⟩) hbk).trans a, (hb.cell (p := ⟨bk, _, none⟩) hbk).trans b, (hb.cell (p := ⟨bk, _, none⟩) hbk).trans c, (hb.cell (p := ⟨bk, _, none⟩) hbk).trans d, (hb.cell (p := ⟨bk, _, none⟩) hbk).trans e, (hb.cell (p := ⟨bk, _, none⟩) hbk).trans f⟩
theorem macStepOf_at {B : Nat} {w : World} {m : Mac} (h : MacAt w B m) : macStepOf B w = m.step.toNat := by unfold macStepOf; rw [h.step]; rfl
section
variable (B bk off len cap : Nat) (C D S O N : Nat → Int) (R : Nat → Bool)
theorem goOn_all (m : Mac) (L : List Int) (w : World) (hM : MacAt w B m) (hO : OutAt w B m.out L) (hok : (m.abs L).Ok) (hst : StepsAt w bk off len C D S R O N) (hbk : bk < B) (hlen : len ≤ 200) (h1 : 1 ≤ len) (hR : ∀ k, k < len → faultAt len C D S R O N k = 0) (hN : ∀ k, k < len → In64 (N k)) (h0 : m.step = 0) (h00 : m.steps = 0) :
    Calls Tryz.prog 42 #[.pointer (some ⟨B, 0, none⟩), .slice (some ⟨bk, off, none⟩) len cap] w fun e w' => ∃ E, e = .returned (vI vK E) ∧ Gone B w w' (runF C D S R O N len 0 0 (m.abs L)) E := by
  obtain ⟨X, hX⟩ : ∃ X, runF C D S R O N len 0 0 (m.abs L) = X := ⟨_, rfl⟩
  rw [hX]
  have HX : Hid (runF C D S R O N len 0 0 (m.abs L) = X) := hX
  have HST : Hid (StepsAt w bk off len C D S R O N) := hst
  have HR : Hid (∀ k, k < len → faultAt len C D S R O N k = 0) := hR
  have HN : Hid (∀ k, k < len → In64 (N k)) := hN
  have HS : Hid (m.step = 0 ∧ m.steps = 0) := ⟨h0, h00⟩
  have HO : Hid (OutAt w B m.out L) := hO
  clear hX hst hR hN h0 h00 hO
  go_enter Tryz.func42, Tryz.ntmps42
  go_wp2_with fail
  go_loopw [4] (fun _ wr => ∃ (pc k : Nat) (m1 : Mac) (L1 : List Int), Hid (pc < len ∧ k ≤ pc ∧ Below B w wr ∧ MacAt wr B m1 ∧ OutAt wr B m1.out L1 ∧ (m1.abs L1).Ok ∧ m1.step = (pc : Int) ∧ m1.steps = (k : Int) ∧ runF C D S R O N len pc k (m1.abs L1) = X)) (fun _ wr => len - macStepOf B wr)
  case atStart => exact ⟨0, 0, m, L, by omega, Nat.le_refl _, bF _ _, hM, HO.out, hok, HS.out.1, HS.out.2, HX.out⟩
  case round =>
    obtain ⟨pc, k, m1, L1, H⟩ := hrel
    have hpc := H.out.1
    have hkp := H.out.2.1
    have hb := H.out.2.2.1
    have hM1 := H.out.2.2.2.1
    have hok1 := H.out.2.2.2.2.2.1
    have hB := hM1.lt
    have q0 := hM1.step
    have q1 := hM1.steps
    rw [H.out.2.2.2.2.2.2.1] at q0
    rw [H.out.2.2.2.2.2.2.2.1] at q1
    have f0 := hM1.frozen 0
    have f1 := hM1.frozen 1
    obtain ⟨g0, g1, g2, g3, g4, g5⟩ := HST.out.under hb hbk pc hpc
    have hr := right_of (HR.out pc hpc)
    have hn := HN.out pc hpc
    have HH : Hid (runF C D S R O N len pc k (m1.abs L1) = X) := H.out.2.2.2.2.2.2.2.2
    have HO1 : Hid (OutAt wr B m1.out L1) := H.out.2.2.2.2.1
    have e3 : m1.step = (pc : Int) := H.out.2.2.2.2.2.2.1
    have E3 : Hid (m1.step = (pc : Int)) := e3
    clear e3
    have HP : Hid (m1.steps = (k : Int)) := H.out.2.2.2.2.2.2.2.1
    obtain ⟨d, hd⟩ := Int.eq_ofNat_of_zero_le hr.d1
    obtain ⟨s, hs⟩ := Int.eq_ofNat_of_zero_le hr.s1
    have hd11 : d < 11 := by have := hr.d2; omega
    have hs11 : s < 11 := by have := hr.s2; omega
    rcases hD : doF (C pc) (D pc) (S pc) (R pc) (O pc) (N pc) ((m1.setSteps ((k : Int) + 1)).abs L1) with ⟨of, er, a2⟩
    have hofs := doF_off hr hpc
    have HD0 : Hid (doF (C pc) (D pc) (S pc) (R pc) (O pc) (N pc) (m1.abs L1) = (of, er, a2)) := hD
    have HX1 : Hid (C pc = 28 → (wantF (m1.reg 0) = 0 → X = .fine (m1.reg 0).n (k + 1) (m1.abs L1)) ∧ (wantF (m1.reg 0) ≠ 0 → X = .bad (wantF (m1.reg 0)) pc)) := fun h => ⟨fun hw => HH.out.symm.trans (runF_exit hpc h hw), fun hw => HH.out.symm.trans (runF_exit_bad hpc h hw)⟩
    have HX2 : Hid (C pc ≠ 28 → (er ≠ 0 → X = .bad er pc) ∧ (er = 0 → runF C D S R O N len (pc + 1 + of.toNat) (k + 1) a2 = X)) := fun h => ⟨fun hw => by
      have := runF_bad (k := k) (a := m1.abs L1) (R := R) (D := D) (S := S) (O := O) (N := N) hpc h (by rw [HD0.out]; exact hw)
      rw [HD0.out] at this
      exact HH.out.symm.trans this, fun hw => by
      have := runF_go (k := k) (a := m1.abs L1) (R := R) (D := D) (S := S) (O := O) (N := N) hpc h (by rw [HD0.out]; exact hw)
      rw [HD0.out] at this
      exact this.symm.trans HH.out⟩
    have HOF : Hid (C pc ≠ 28 → 0 ≤ of ∧ (pc : Int) + 1 + of < len) := fun h => by have := hofs h (m1.abs L1); rw [HD0.out] at this; exact this
    have HOK : Hid (C pc ≠ 28 → a2.Ok) := fun h => by have := doF_ok hok1 hr.c1 hr.c2 h hr.d1 hr.d2 hr.s1 hr.s2 hn (r := R pc) (o := O pc); rw [HD0.out] at this; exact this
    have c1 := hr.c1
    have c2 := hr.c2
    have H27 : Hid (C pc = 27 → N pc = 1 ∨ N pc = 2 ∨ N pc = 3) := hr.call
    rw [hd, hs] at hD
    rw [hd] at g1
    rw [hs] at g2
    clear hofs HD0 hd hs H hr HH
    generalize C pc = c at *
    generalize R pc = r at *
    generalize O pc = o at *
    generalize N pc = n at *
    have HD : Hid (doF c (d : Int) (s : Int) r o n ((m1.setSteps ((k : Int) + 1)).abs L1) = (of, er, a2)) := hD
    have HNN : Hid (In64 n) := hn
    clear hD hn HX HS HO hM hok h1
    have hk0 : (0 : Int) ≤ (k : Int) := by omega
    have hk1 : (k : Int) ≤ 200 := by omega
    have hp0 : (0 : Int) ≤ (pc : Int) := by omega
    have hp1 : (pc : Int) < len := by omega
    have hp2 : (pc : Int) ≤ 200 := by omega
    by_cases hc : c = 28
    · have x28 : (c == 28) = true := by simpa using hc
      have HX3 : Hid ((wantF (m1.reg 0) = 0 → X = .fine (m1.reg 0).n (k + 1) (m1.abs L1)) ∧ (wantF (m1.reg 0) ≠ 0 → X = .bad (wantF (m1.reg 0)) pc)) := HX1.out hc
      obtain ⟨r0, r1, r2⟩ := hM1.reg (d := 0) (by decide)
      simp only [Nat.reduceMul, Nat.reduceAdd] at r0 r1 r2
      clear hc c1 c2
      go_wp2_with (first
        | (go_at_call 76; refine (want_any (m1.reg 0).k (m1.reg 0).n (m1.reg 0).c _).mono ?_; rintro e w2 ⟨rfl, hb2⟩)
        | fail)
      go_ret
      have hMW := ((hM1.putSteps ((k : Int) + 1)).alloc _).later hb2
      have hKW : Kept B wr w2 := kept_later (kept_alloc (kept_set (kept_refl B wr) _ _) _) hb2
      refine ⟨wantF ⟨(m1.reg 0).k, (m1.reg 0).n, (m1.reg 0).c⟩, rfl, hb.trans (kept_under hKW hB), _, L1, hMW, HO1.out.kept hKW, ?_⟩
      by_cases hw : wantF (m1.reg 0) = 0
      · rw [HX3.out.1 hw]
        exact ⟨hw, rfl, rfl, rfl⟩
      · rw [HX3.out.2 hw]
        exact ⟨rfl, hw, E3.out⟩
    · have x28 : (c == 28) = false := by simpa using hc
      have HX3 : Hid ((er ≠ 0 → X = .bad er pc) ∧ (er = 0 → runF C D S R O N len (pc + 1 + of.toNat) (k + 1) a2 = X)) := HX2.out hc
      have HOK3 : Hid a2.Ok := HOK.out hc
      have hof := HOF.out hc
      have HC28 : Hid (c ≠ 28) := hc
      obtain ⟨j, rfl⟩ := Int.eq_ofNat_of_zero_le hof.1
      have hj0 : (0 : Int) ≤ (j : Int) := by omega
      have hj1 : (pc : Int) + 1 + (j : Int) < len := hof.2
      have hlen2 : (len : Int) ≤ 200 := by omega
      have HOW : Hid (∀ Z : Obj, OutAt ((wr.setCell ⟨B, 1, none⟩ (vI vK ((k : Int) + 1))).alloc Z) B m1.out L1) := fun Z => HO1.out.kept (kept_alloc (kept_set (kept_refl B wr) _ _) _)
      clear hc hof HX1 HX2 HOF HOK
      by_cases he : er = 0
      · subst he
        go_wp2_with (first
          | (go_at_call 77; refine (do_all B d s c o n r (m1.setSteps ((k : Int) + 1)) L1 hd11 hs11 _ ((hM1.putSteps ((k : Int) + 1)).alloc _) (HOW.out _) hok1 HNN.out c1 c2 HC28.out H27.out).mono ?_; rintro e w2 ⟨rfl, hr2⟩; rw [HD.out] at hr2 ⊢; dsimp only at hr2 ⊢; obtain ⟨hb2, m2, L2, hM2, hO2, e1, e2, ea⟩ := hr2; have HO2 : Hid (OutAt w2 B m2.out L2) := hO2; have HE : Hid (m2.steps = (k : Int) + 1 ∧ m2.abs L2 = a2) := ⟨e2, ea rfl⟩; have y0 := hM2.step; have y1 := hM2.frozen 0; rw [e1] at y0; change w2.cell? ⟨B, 0, none⟩ = some (vI vK m1.step) at y0; rw [E3.out] at y0; have hB2 := hM2.lt; clear hO2 e1 e2 ea)
          | fail)
        go_roundw
        case rel =>
          have hbw2 : Below B w w2 := (hb.trans (kept_under (kept_alloc (kept_set (kept_refl B wr) _ _) _) hB)).trans hb2
          have ha2 : m2.abs L2 = a2 := HE.out.2
          have hrun := HX3.out.2 rfl
          rw [Int.toNat_natCast, ← ha2] at hrun
          refine ⟨pc + 1 + j, k + 1, m2.setStep ((pc : Int) + (1 + (j : Int))), L2, by omega, by omega, ?_, hM2.putStep _, HO2.out.kept (kept_set (kept_refl B w2) _ _), ?_, ?_, ?_, hrun⟩
          · have hr : B ≤ (⟨B, 0, none⟩ : Addr).block := Nat.le_refl _
            exact hbw2.setCell hr _
          · have := HOK3.out
            rw [← ha2] at this
            exact this
          · show (pc : Int) + (1 + (j : Int)) = ((pc + 1 + j : Nat) : Int)
            omega
          · show m2.steps = ((k + 1 : Nat) : Int)
            rw [HE.out.1]; omega
        case measure =>
          rw [macStepOf_at hM1, macStepOf_at (hM2.putStep ((pc : Int) + (1 + (j : Int)))), E3.out]
          show len - ((pc : Int) + (1 + (j : Int))).toNat < len - (pc : Int).toNat
          omega
      · have he2 : (er != 0) = true := by simpa using he
        have HER : Hid (er ≠ 0) := he
        clear he
        go_wp2_with (first
          | (go_at_call 77; refine (do_all B d s c o n r (m1.setSteps ((k : Int) + 1)) L1 hd11 hs11 _ ((hM1.putSteps ((k : Int) + 1)).alloc _) (HOW.out _) hok1 HNN.out c1 c2 HC28.out H27.out).mono ?_; rintro e w2 ⟨rfl, hr2⟩; rw [HD.out] at hr2 ⊢; dsimp only at hr2 ⊢; have HR2 : Hid (Res B _ w2 (m1.setSteps ((k : Int) + 1)) er a2) := hr2; clear hr2)
          | fail)
        go_ret
        obtain ⟨hb2, m2, L2, hM2, hO2, e1, e2, ea⟩ := HR2.out
        refine ⟨er, rfl, (hb.trans (kept_under (kept_alloc (kept_set (kept_refl B wr) _ _) _) hB)).trans hb2, m2, L2, hM2, hO2, ?_⟩
        rw [HX3.out.1 HER.out]
        exact ⟨rfl, HER.out, e1.trans E3.out⟩
end
end Go.Proofs.YtednmkhdehlojaaGreatDoor
namespace Go.Proofs.YtednmkhdehlojaaGreatDoor
open Go.ChangeShapes Go.WideShapes Go.ChangeAt Go.RowKit
attribute [local simp] drew_size drewN_size setCell_size
def mac0 (T K : Nat → Int) (time : Int) : Mac := ⟨0, 0, fun _ => none0, fun _ => none0, T, K, time, .slice none 0 0⟩
def cells0 (z : Array Value) (T K : Nat → Int) (time : Int) : Array Value :=
  ((((((((((((((((((((((((((((((z.setIfInBounds 83 (vI vK (T 0))).setIfInBounds 84 (vI vK (T 1))).setIfInBounds 85 (vI vK (T 2))).setIfInBounds 86 (vI vK (T 3))).setIfInBounds 87 (vI vK (T 4))).setIfInBounds 88 (vI vK (T 5))).setIfInBounds 89 (vI vK (T 6))).setIfInBounds 90 (vI vK (T 7))).setIfInBounds 91 (vI vK (K 0))).setIfInBounds 92 (vI vK (K 1))).setIfInBounds 93 (vI vK (K 2))).setIfInBounds 94 (vI vK (K 3))).setIfInBounds 95 (vI vK (K 4))).setIfInBounds 96 (vI vK (K 5))).setIfInBounds 97 (vI vK (K 6))).setIfInBounds 98 (vI vK (K 7))).setIfInBounds 99 (vI vK (K 8))).setIfInBounds 100 (vI vK (K 9))).setIfInBounds 101 (vI vK (K 10))).setIfInBounds 102 (vI vK (K 11))).setIfInBounds 103 (vI vK (K 12))).setIfInBounds 104 (vI vK (K 13))).setIfInBounds 105 (vI vK (K 14))).setIfInBounds 106 (vI vK (K 15))).setIfInBounds 107 (vI vK time)).setIfInBounds 5 (vI vK 2)).setIfInBounds 6 (vI vK 0)).setIfInBounds 7 (vI vK 0)).setIfInBounds 32 (vI vK 3)).setIfInBounds 33 (vI vK 0)).setIfInBounds 34 (vI vK 0)
def start (T K : Nat → Int) (time : Int) : Mac := ((mac0 T K time).putReg 1 ⟨2, 0, 0⟩).putReg 10 ⟨3, 0, 0⟩
theorem cells0_is (T K : Nat → Int) (time : Int) : cells0 Tryz.zeroCells108 T K time = Array.ofFn (n := 109) fun i => (start T K time).cell i.1 := by
  kernel_rfl
theorem start_at (w : World) (T K : Nat → Int) (time : Int) : MacAt (w.alloc (.cells (cells0 Tryz.zeroCells108 T K time) 108)) w.heap.size (start T K time) := by
  rw [cells0_is]
  show (w.heap.push _)[w.heap.size]? = _
  simp
theorem begin_all (T K : Nat → Int) (time : Int) (w : World) :
    Calls Tryz.prog 41 #[.agg #[vI vK (T 0), vI vK (T 1), vI vK (T 2), vI vK (T 3), vI vK (T 4), vI vK (T 5), vI vK (T 6), vI vK (T 7)], .agg #[vI vK (K 0), vI vK (K 1), vI vK (K 2), vI vK (K 3), vI vK (K 4), vI vK (K 5), vI vK (K 6), vI vK (K 7), vI vK (K 8), vI vK (K 9), vI vK (K 10), vI vK (K 11), vI vK (K 12), vI vK (K 13), vI vK (K 14), vI vK (K 15)], vI vK time] w fun e w' => e = .returned (.pointer (some ⟨w.heap.size + 1 + 1, 0, none⟩)) ∧ Below w.heap.size w w' ∧ MacAt w' (w.heap.size + 1 + 1) (start T K time) := by
  go_enter Tryz.func41, Tryz.ntmps41
  go_wp2
  go_ret
  refine ⟨rfl, ?_, ?_⟩
  · repeat' first | with_reducible (first | exact bF _ _ | refine bA ?_ ?_ _ | refine bS ?_ ?_ _) | ((try dsimp only); omega) | (simp; done) | (simp; omega)
  · have h := start_at ((w.alloc (.cells #[vI vK (T 0), vI vK (T 1), vI vK (T 2), vI vK (T 3), vI vK (T 4), vI vK (T 5), vI vK (T 6), vI vK (T 7)] 52)).alloc (.cells #[vI vK (K 0), vI vK (K 1), vI vK (K 2), vI vK (K 3), vI vK (K 4), vI vK (K 5), vI vK (K 6), vI vK (K 7), vI vK (K 8), vI vK (K 9), vI vK (K 10), vI vK (K 11), vI vK (K 12), vI vK (K 13), vI vK (K 14), vI vK (K 15)] 55)) T K time
    simp only [World.size_alloc] at h
    exact h
end Go.Proofs.YtednmkhdehlojaaGreatDoor
namespace Go.Proofs.YtednmkhdehlojaaGreatDoor
section
variable {P : Program} {md : Region.Mode} {ops : Array Oper} {Q : Exit → Act → World → Prop} {S : World → Prop}
theorem takeH {i : Nat} {oi : Oper} (d : Option Tmp) (v : Value) {fuel : Nat} {listed : Array Bool} {a : Act} {w : World} (hi : ops[i]? = some oi) (hd : oi.dst = d)
    (hs : Region.noSelect ops = true) (hf : Region.free md ops listed i = true) (hr : (Region.ready md ops listed).contains i = true)
    (hQ : ∀ c a w, Q (.panic c) (a.put oi.dst v) w → Q (.panic c) a w) (hw : Region.wanted oi (yielded ops a.tmps) = true) (hy : ∀ w, S w → (execOp a.eval oi).run P w = .ok (.value v) w) (hS : S w)
    (h : wpAnyH P md ops Q S fuel (listed.setIfInBounds i true) (a.put d v) w) : wpAnyH P md ops Q S (fuel + 1) listed a w := by
  subst hd
  exact wpAnyH_take hi hs hf hr hQ (Or.inl ⟨hw, hy⟩) hS h
theorem stepH {fuel : Nat} {listed : Array Bool} {a : Act} {w : World} {i : Nat} {o : Oper} {rs : List Nat} (d : Option Tmp) (v : Value) (w' : World) (ho : ops[i]? = some o) (hd : o.dst = d)
    (hw : Region.wanted o (yielded ops a.tmps) = true) (hrun : (execOp a.eval o).run P w = .ok (.value v) w') (hS : S w')
    (h : wpAnyH P md ops Q S fuel (listed.setIfInBounds i true) (a.put d v) w')
    (hs : AllReadyH P md ops Q S fuel listed a w rs) : AllReadyH P md ops Q S fuel listed a w (i :: rs) := by
  subst hd
  refine AllReadyH.cons ho (fun K hK => ?_) hs
  rw [if_pos hw]
  unfold Oper.wp
  rw [hrun]
  exact hK.out _ _ hS fun _ => h
theorem stepS {fuel : Nat} {listed : Array Bool} {a : Act} {w : World} {i : Nat} {o : Oper} {rs : List Nat} (w' : World) (ho : ops[i]? = some o) (hd : o.dst = none)
    (hw : Region.wanted o (yielded ops a.tmps) = true) (hrun : (execOp a.eval o).run P w = .ok .skip w') (hS : S w')
    (h : wpAnyH P md ops Q S fuel (listed.setIfInBounds i true) (a.put none undef) w')
    (hs : AllReadyH P md ops Q S fuel listed a w rs) : AllReadyH P md ops Q S fuel listed a w (i :: rs) := by
  refine AllReadyH.cons ho (fun K hK => ?_) hs
  rw [if_pos hw]
  unfold Oper.wp
  rw [hrun, Oper.upon_skip, hd]
  exact hK.out _ _ hS fun _ => h
end
end Go.Proofs.YtednmkhdehlojaaGreatDoor
