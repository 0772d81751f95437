/-
  What is wrong with a step, as a function on its six fields: what op.wrong and op.hasMore return, and what the document's own answer returns; the world below is as it was. Conditions: none on the fields.
-/
import Derived.Test.YtegeiicginpdbaaGreatDoorRows
import Derived.WalkKit
import Derived.ProofKit
import Derived.OpenShut
import Derived.WalkLawsBesides
import Derived.BigCall
import Derived.BigGuardPart
namespace Go.Proofs.YtegeiicginpdbaaGreatDoor
open Go.ChangeShapes Go.WideShapes Go.ChangeAt Go.RowKit

theorem ret_bool {a b : Bool} (h : a = b) : Ending.returned (.bool a) = .returned (.bool b) := by rw [h]
theorem ret_int {k : IntKind} {a b : Int} (h : a = b) : Ending.returned (.int k a) = .returned (.int k b) := by rw [h]

/-- Something that a step has not is not 0 (of a code from 1 to 28). -/
def moreV (c d s : Int) (r : Bool) (o n : Int) : Bool :=
  if 1 ≤ c ∧ c ≤ 12 then (if r then o != 0 || n != 0 else s != 0 || o != 0)
  else if 15 ≤ c ∧ c ≤ 24 then (if r then n != 0 else s != 0)
  else if c = 13 then s != 0 || r || o != 0 || n != 0
  else if c = 14 then d != 0 || s != 0 || r || n != 0
  else if c = 25 then r || n != 0
  else if c = 26 then (if r then n != 0 else s != 0)
  else if c = 27 then d != 0 || s != 0 || r || o != 0
  else d != 0 || s != 0 || r || o != 0 || n != 0
/-- What is wrong with a step alone: 3, 2, 6, 1; 0: nothing. -/
def aloneV (c d s : Int) (r : Bool) (o n : Int) : Int :=
  if c < 1 ∨ 28 < c then 3
  else if d < 0 ∨ 10 < d ∨ s < 0 ∨ 10 < s then 2
  else if ((1 ≤ c ∧ c ≤ 13) ∨ c = 25) ∧ d = 10 then 6
  else if moreV c d s r o n = true ∨ (c = 27 ∧ n ≠ 1 ∧ n ≠ 2 ∧ n ≠ 3) then 1 else 0
/-- What is wrong with a step that has b others behind it. -/
def wrongV (c d s : Int) (r : Bool) (o n b : Int) : Int :=
  if aloneV c d s r o n ≠ 0 then aloneV c d s r o n
  else if (c = 14 ∨ (15 ≤ c ∧ c ≤ 24)) ∧ (o < 0 ∨ b ≤ o) then 10
  else if b = 0 ∧ c ≠ 28 then 8 else 0

theorem more_two_true (c d s o n : Int) (h1 : 1 ≤ c) (h2 : c ≤ 12) (w : World) :
    Calls Tryz.prog 69 #[.agg #[.int .i64 c, .int .i64 d, .int .i64 s, .bool true, .int .i64 o, .int .i64 n]] w fun e w' => e = .returned (.bool (o != 0 || n != 0)) ∧ Below w.heap.size w w' := by
  have e13 : (c == 13) = false := by simp; omega
  have e14 : (c == 14) = false := by simp; omega
  have e25 : (c == 25) = false := by simp; omega
  have e26 : (c == 26) = false := by simp; omega
  have e27 : (c == 27) = false := by simp; omega
  have e28 : (c == 28) = false := by simp; omega
  go_enter Tryz.func69, Tryz.ntmps69
  go_wp2
  all_goals
    go_ret
    exact ⟨ret_bool (by simp [*]), (Below.refl _ _).alloc (Nat.le_refl _) _⟩
theorem more_two_false (c d s o n : Int) (h1 : 1 ≤ c) (h2 : c ≤ 12) (w : World) :
    Calls Tryz.prog 69 #[.agg #[.int .i64 c, .int .i64 d, .int .i64 s, .bool false, .int .i64 o, .int .i64 n]] w fun e w' => e = .returned (.bool (s != 0 || o != 0)) ∧ Below w.heap.size w w' := by
  have e13 : (c == 13) = false := by simp; omega
  have e14 : (c == 14) = false := by simp; omega
  have e25 : (c == 25) = false := by simp; omega
  have e26 : (c == 26) = false := by simp; omega
  have e27 : (c == 27) = false := by simp; omega
  have e28 : (c == 28) = false := by simp; omega
  go_enter Tryz.func69, Tryz.ntmps69
  go_wp2
  all_goals
    go_ret
    exact ⟨ret_bool (by simp [*]), (Below.refl _ _).alloc (Nat.le_refl _) _⟩
theorem more_ask_true (c d s o n : Int) (h1 : 15 ≤ c) (h2 : c ≤ 24) (w : World) :
    Calls Tryz.prog 69 #[.agg #[.int .i64 c, .int .i64 d, .int .i64 s, .bool true, .int .i64 o, .int .i64 n]] w fun e w' => e = .returned (.bool (n != 0)) ∧ Below w.heap.size w w' := by
  have e13 : (c == 13) = false := by simp; omega
  have e14 : (c == 14) = false := by simp; omega
  have e25 : (c == 25) = false := by simp; omega
  have e26 : (c == 26) = false := by simp; omega
  have e27 : (c == 27) = false := by simp; omega
  have e28 : (c == 28) = false := by simp; omega
  have g1 : 1 ≤ c := by omega
  have g2 : decide (c ≤ 12) = false := by simp; omega
  go_enter Tryz.func69, Tryz.ntmps69
  go_wp2
  all_goals
    go_ret
    exact ⟨ret_bool (by simp [*]), (Below.refl _ _).alloc (Nat.le_refl _) _⟩
theorem more_ask_false (c d s o n : Int) (h1 : 15 ≤ c) (h2 : c ≤ 24) (w : World) :
    Calls Tryz.prog 69 #[.agg #[.int .i64 c, .int .i64 d, .int .i64 s, .bool false, .int .i64 o, .int .i64 n]] w fun e w' => e = .returned (.bool (s != 0)) ∧ Below w.heap.size w w' := by
  have e13 : (c == 13) = false := by simp; omega
  have e14 : (c == 14) = false := by simp; omega
  have e25 : (c == 25) = false := by simp; omega
  have e26 : (c == 26) = false := by simp; omega
  have e27 : (c == 27) = false := by simp; omega
  have e28 : (c == 28) = false := by simp; omega
  have g1 : 1 ≤ c := by omega
  have g2 : decide (c ≤ 12) = false := by simp; omega
  go_enter Tryz.func69, Tryz.ntmps69
  go_wp2
  all_goals
    go_ret
    exact ⟨ret_bool (by simp [*]), (Below.refl _ _).alloc (Nat.le_refl _) _⟩
theorem more_c13_true (d s o n : Int)  (w : World) :
    Calls Tryz.prog 69 #[.agg #[.int .i64 13, .int .i64 d, .int .i64 s, .bool true, .int .i64 o, .int .i64 n]] w fun e w' => e = .returned (.bool (s != 0 || true || o != 0 || n != 0)) ∧ Below w.heap.size w w' := by
  go_enter Tryz.func69, Tryz.ntmps69
  go_wp2
  all_goals
    go_ret
    exact ⟨ret_bool (by simp [*]), (Below.refl _ _).alloc (Nat.le_refl _) _⟩
theorem more_c13_false (d s o n : Int)  (w : World) :
    Calls Tryz.prog 69 #[.agg #[.int .i64 13, .int .i64 d, .int .i64 s, .bool false, .int .i64 o, .int .i64 n]] w fun e w' => e = .returned (.bool (s != 0 || false || o != 0 || n != 0)) ∧ Below w.heap.size w w' := by
  go_enter Tryz.func69, Tryz.ntmps69
  go_wp2
  all_goals
    go_ret
    exact ⟨ret_bool (by simp [*]), (Below.refl _ _).alloc (Nat.le_refl _) _⟩
theorem more_c14_true (d s o n : Int)  (w : World) :
    Calls Tryz.prog 69 #[.agg #[.int .i64 14, .int .i64 d, .int .i64 s, .bool true, .int .i64 o, .int .i64 n]] w fun e w' => e = .returned (.bool (d != 0 || s != 0 || true || n != 0)) ∧ Below w.heap.size w w' := by
  go_enter Tryz.func69, Tryz.ntmps69
  go_wp2
  all_goals
    go_ret
    exact ⟨ret_bool (by simp [*]), (Below.refl _ _).alloc (Nat.le_refl _) _⟩
theorem more_c14_false (d s o n : Int)  (w : World) :
    Calls Tryz.prog 69 #[.agg #[.int .i64 14, .int .i64 d, .int .i64 s, .bool false, .int .i64 o, .int .i64 n]] w fun e w' => e = .returned (.bool (d != 0 || s != 0 || false || n != 0)) ∧ Below w.heap.size w w' := by
  go_enter Tryz.func69, Tryz.ntmps69
  go_wp2
  all_goals
    go_ret
    exact ⟨ret_bool (by simp [*]), (Below.refl _ _).alloc (Nat.le_refl _) _⟩
theorem more_c25_true (d s o n : Int)  (w : World) :
    Calls Tryz.prog 69 #[.agg #[.int .i64 25, .int .i64 d, .int .i64 s, .bool true, .int .i64 o, .int .i64 n]] w fun e w' => e = .returned (.bool (true || n != 0)) ∧ Below w.heap.size w w' := by
  go_enter Tryz.func69, Tryz.ntmps69
  go_wp2
  all_goals
    go_ret
    exact ⟨ret_bool (by simp [*]), (Below.refl _ _).alloc (Nat.le_refl _) _⟩
theorem more_c25_false (d s o n : Int)  (w : World) :
    Calls Tryz.prog 69 #[.agg #[.int .i64 25, .int .i64 d, .int .i64 s, .bool false, .int .i64 o, .int .i64 n]] w fun e w' => e = .returned (.bool (false || n != 0)) ∧ Below w.heap.size w w' := by
  go_enter Tryz.func69, Tryz.ntmps69
  go_wp2
  all_goals
    go_ret
    exact ⟨ret_bool (by simp [*]), (Below.refl _ _).alloc (Nat.le_refl _) _⟩
theorem more_c26_true (d s o n : Int)  (w : World) :
    Calls Tryz.prog 69 #[.agg #[.int .i64 26, .int .i64 d, .int .i64 s, .bool true, .int .i64 o, .int .i64 n]] w fun e w' => e = .returned (.bool (n != 0)) ∧ Below w.heap.size w w' := by
  go_enter Tryz.func69, Tryz.ntmps69
  go_wp2
  all_goals
    go_ret
    exact ⟨ret_bool (by simp [*]), (Below.refl _ _).alloc (Nat.le_refl _) _⟩
theorem more_c26_false (d s o n : Int)  (w : World) :
    Calls Tryz.prog 69 #[.agg #[.int .i64 26, .int .i64 d, .int .i64 s, .bool false, .int .i64 o, .int .i64 n]] w fun e w' => e = .returned (.bool (s != 0)) ∧ Below w.heap.size w w' := by
  go_enter Tryz.func69, Tryz.ntmps69
  go_wp2
  all_goals
    go_ret
    exact ⟨ret_bool (by simp [*]), (Below.refl _ _).alloc (Nat.le_refl _) _⟩
theorem more_c27_true (d s o n : Int)  (w : World) :
    Calls Tryz.prog 69 #[.agg #[.int .i64 27, .int .i64 d, .int .i64 s, .bool true, .int .i64 o, .int .i64 n]] w fun e w' => e = .returned (.bool (d != 0 || s != 0 || true || o != 0)) ∧ Below w.heap.size w w' := by
  go_enter Tryz.func69, Tryz.ntmps69
  go_wp2
  all_goals
    go_ret
    exact ⟨ret_bool (by simp [*]), (Below.refl _ _).alloc (Nat.le_refl _) _⟩
theorem more_c27_false (d s o n : Int)  (w : World) :
    Calls Tryz.prog 69 #[.agg #[.int .i64 27, .int .i64 d, .int .i64 s, .bool false, .int .i64 o, .int .i64 n]] w fun e w' => e = .returned (.bool (d != 0 || s != 0 || false || o != 0)) ∧ Below w.heap.size w w' := by
  go_enter Tryz.func69, Tryz.ntmps69
  go_wp2
  all_goals
    go_ret
    exact ⟨ret_bool (by simp [*]), (Below.refl _ _).alloc (Nat.le_refl _) _⟩
theorem more_c28_true (d s o n : Int)  (w : World) :
    Calls Tryz.prog 69 #[.agg #[.int .i64 28, .int .i64 d, .int .i64 s, .bool true, .int .i64 o, .int .i64 n]] w fun e w' => e = .returned (.bool (d != 0 || s != 0 || true || o != 0 || n != 0)) ∧ Below w.heap.size w w' := by
  go_enter Tryz.func69, Tryz.ntmps69
  go_wp2
  all_goals
    go_ret
    exact ⟨ret_bool (by simp [*]), (Below.refl _ _).alloc (Nat.le_refl _) _⟩
theorem more_c28_false (d s o n : Int)  (w : World) :
    Calls Tryz.prog 69 #[.agg #[.int .i64 28, .int .i64 d, .int .i64 s, .bool false, .int .i64 o, .int .i64 n]] w fun e w' => e = .returned (.bool (d != 0 || s != 0 || false || o != 0 || n != 0)) ∧ Below w.heap.size w w' := by
  go_enter Tryz.func69, Tryz.ntmps69
  go_wp2
  all_goals
    go_ret
    exact ⟨ret_bool (by simp [*]), (Below.refl _ _).alloc (Nat.le_refl _) _⟩
theorem more_any (c d s : Int) (r : Bool) (o n : Int) (h1 : 1 ≤ c) (h2 : c ≤ 28) (w : World) :
    Calls Tryz.prog 69 #[.agg #[.int .i64 c, .int .i64 d, .int .i64 s, .bool r, .int .i64 o, .int .i64 n]] w fun e w' => e = .returned (.bool (moreV c d s r o n)) ∧ Below w.heap.size w w' := by
  have hc : (1 ≤ c ∧ c ≤ 12) ∨ (15 ≤ c ∧ c ≤ 24) ∨ c = 13 ∨ c = 14 ∨ c = 25 ∨ c = 26 ∨ c = 27 ∨ c = 28 := by omega
  rcases hc with ⟨a1, a2⟩ | ⟨a1, a2⟩ | rfl | rfl | rfl | rfl | rfl | rfl
  · have e : moreV c d s r o n = (if r then o != 0 || n != 0 else s != 0 || o != 0) := by unfold moreV; rw [if_pos ⟨a1, a2⟩]
    rw [e]; cases r
    · exact more_two_false c d s o n a1 a2 w
    · exact more_two_true c d s o n a1 a2 w
  · have e : moreV c d s r o n = (if r then n != 0 else s != 0) := by unfold moreV; rw [if_neg (by omega), if_pos ⟨a1, a2⟩]
    rw [e]; cases r
    · exact more_ask_false c d s o n a1 a2 w
    · exact more_ask_true c d s o n a1 a2 w
  · cases r
    · exact more_c13_false d s o n w
    · exact more_c13_true d s o n w
  · cases r
    · exact more_c14_false d s o n w
    · exact more_c14_true d s o n w
  · cases r
    · exact more_c25_false d s o n w
    · exact more_c25_true d s o n w
  · cases r
    · exact more_c26_false d s o n w
    · exact more_c26_true d s o n w
  · cases r
    · exact more_c27_false d s o n w
    · exact more_c27_true d s o n w
  · cases r
    · exact more_c28_false d s o n w
    · exact more_c28_true d s o n w
end Go.Proofs.YtegeiicginpdbaaGreatDoor
