/-
 What op.wrong and the document's own wrong return at every step: the same function on the six fields and on how many steps stand behind; the world below is as it was. Conditions: none. What op.wrong and the document's own wrong return, all classes of codes together. Conditions: none. What op.Check and the document's own Check answer to a list of steps in memory: the first step with which something is wrong, and what, by one function on steps; the world below is as it was. Conditions: the list's cells hold steps. What asm.read returns: the step that a text z2s, or that it z2s none; the world below is as it was. Conditions: the tables lie in memory, the library's two errors are errors, the text is short.
-/
import Derived.Test.YtbimlalhodibjaaGreatDoorJf1
import Derived.Test.YtbimlalhodibjaaGreatDoorJf2
set_option maxHeartbeats 40000000
open Go.Value renaming int → A
open Go.IntKind renaming i64 → B
open Go.RowKit.Below renaming alloc → bA, setCell → bS, drew → bD, refl → bF
set_option maxRecDepth 1000000
set_option linter.defProp false
set_option linter.unusedVariables false
set_option linter.unusedSimpArgs false
open Go.Ending renaming returned → rT
open Go.Value renaming pointer → pT
open Go.Obj renaming cells → cT
open Go.Proofs.Tryz renaming prog → tP
namespace Go.Proofs.YtbimlalhodibjaaGreatDoor
open Go.ChangeShapes Go.WideShapes Go.ChangeAt Go.RowKit
section
def bit (b : Bool) : Int := if b then 1 else 0
def endV (b : Int) : Int := if b = 0 then 8 else 0
def zQj (o b : Int) : Int := if o < 0 then 10 else if b <= o then 10 else endV b
theorem z43  : (∀ (c d s o n : Int) (r : Bool) (h : c < 1) (w : World), Calls tP 73 #[.agg #[A B c, A B d, A B s, .bool r, A B o, A B n]] w fun e w' => e = rT (A B 3) /\ Below w.heap.size w w') /\ (∀ (c d s o n : Int) (r : Bool) (h : 28 < c) (w : World), Calls tP 73 #[.agg #[A B c, A B d, A B s, .bool r, A B o, A B n]] w fun e w' => e = rT (A B 3) /\ Below w.heap.size w w') /\ (∀ (c d s o n : Int) (r : Bool) (h1 : 1 <= c) (h2 : c <= 28) (h : d < 0) (w : World), Calls tP 73 #[.agg #[A B c, A B d, A B s, .bool r, A B o, A B n]] w fun e w' => e = rT (A B 2) /\ Below w.heap.size w w') /\ (∀ (c d s o n : Int) (r : Bool) (h1 : 1 <= c) (h2 : c <= 28) (h : 10 < d) (w : World), Calls tP 73 #[.agg #[A B c, A B d, A B s, .bool r, A B o, A B n]] w fun e w' => e = rT (A B 2) /\ Below w.heap.size w w') /\ (∀ (c d s o n : Int) (r : Bool) (h1 : 1 <= c) (h2 : c <= 28) (d1 : 0 <= d) (d2 : d <= 10) (h : s < 0) (w : World), Calls tP 73 #[.agg #[A B c, A B d, A B s, .bool r, A B o, A B n]] w fun e w' => e = rT (A B 2) /\ Below w.heap.size w w') /\ (∀ (c d s o n : Int) (r : Bool) (h1 : 1 <= c) (h2 : c <= 28) (d1 : 0 <= d) (d2 : d <= 10) (h : 10 < s) (w : World), Calls tP 73 #[.agg #[A B c, A B d, A B s, .bool r, A B o, A B n]] w fun e w' => e = rT (A B 2) /\ Below w.heap.size w w') /\ (∀ (c s o n : Int) (r : Bool) (h1 : 1 <= c) (h2 : c <= 13) (s1 : 0 <= s) (s2 : s <= 10) (w : World), Calls tP 73 #[.agg #[A B c, A B 10, A B s, .bool r, A B o, A B n]] w fun e w' => e = rT (A B 6) /\ Below w.heap.size w w') /\ (∀ (s o n : Int) (r : Bool) (s1 : 0 <= s) (s2 : s <= 10) (w : World), Calls tP 73 #[.agg #[A B 25, A B 10, A B s, .bool r, A B o, A B n]] w fun e w' => e = rT (A B 6) /\ Below w.heap.size w w') := by
 refine ⟨?_, ?_, ?_, ?_, ?_, ?_, ?_, ?_⟩
 intro c d s o n r h w
 rotate_left
 intro c d s o n r h w
 have z0 : decide (1 <= c) = true := by simp; omega
 have z1 : decide (c <= 28) = false := by simp; omega
 rotate_left
 intro c d s o n r h1 h2 h w
 have z0 : decide (0 <= d) = false := by simp; omega
 rotate_left
 intro c d s o n r h1 h2 h w
 have z0 : decide (0 <= d) = true := by simp; omega
 have z1 : decide (d <= 10) = false := by simp; omega
 rotate_left
 intro c d s o n r h1 h2 d1 d2 h w
 have z0 : decide (0 <= s) = false := by simp; omega
 rotate_left
 intro c d s o n r h1 h2 d1 d2 h w
 have z0 : decide (0 <= s) = true := by simp; omega
 have z1 : decide (s <= 10) = false := by simp; omega
 rotate_left
 intro c s o n r h1 h2 s1 s2 w
 have z0 : decide (1 <= c) = true := by simp; omega
 have z1 : decide (c <= 28) = true := by simp; omega
 have z2 : decide (c <= 13) = true := by simp; omega
 rotate_left
 intro s o n r s1 s2 w
 rotate_left
 all_goals
  go_enter Tryz.func73, Tryz.ntmps73
  go_wp2
  all_goals
   go_ret
   exact ⟨rfl, (by repeat (first | exact bF _ _ | refine bA ?_ (by simp) _))⟩
def zTe := z43.1
def zTf := z43.2.1
def zTc := z43.2.2.1
def zTd := z43.2.2.2.1
def zTa := z43.2.2.2.2.1
def zTb := z43.2.2.2.2.2.1
def zW6 := z43.2.2.2.2.2.2.1
def zPb := z43.2.2.2.2.2.2.2
theorem z42  : (∀ (c d s o n b : Int) (r : Bool) (h : c < 1) (w : World), Calls tP 68 #[.agg #[A B c, A B d, A B s, .bool r, A B o, A B n], A B b, .func (Fn.func 67) #[] #[]] w fun e w' => e = rT (A B 3) /\ Below w.heap.size w w') /\ (∀ (c d s o n b : Int) (r : Bool) (h : 28 < c) (w : World), Calls tP 68 #[.agg #[A B c, A B d, A B s, .bool r, A B o, A B n], A B b, .func (Fn.func 67) #[] #[]] w fun e w' => e = rT (A B 3) /\ Below w.heap.size w w') /\ (∀ (c d s o n b : Int) (r : Bool) (h1 : 1 <= c) (h2 : c <= 28) (h : d < 0) (w : World), Calls tP 68 #[.agg #[A B c, A B d, A B s, .bool r, A B o, A B n], A B b, .func (Fn.func 67) #[] #[]] w fun e w' => e = rT (A B 2) /\ Below w.heap.size w w') /\ (∀ (c d s o n b : Int) (r : Bool) (h1 : 1 <= c) (h2 : c <= 28) (h : 10 < d) (w : World), Calls tP 68 #[.agg #[A B c, A B d, A B s, .bool r, A B o, A B n], A B b, .func (Fn.func 67) #[] #[]] w fun e w' => e = rT (A B 2) /\ Below w.heap.size w w') /\ (∀ (c d s o n b : Int) (r : Bool) (h1 : 1 <= c) (h2 : c <= 28) (d1 : 0 <= d) (d2 : d <= 10) (h : s < 0) (w : World), Calls tP 68 #[.agg #[A B c, A B d, A B s, .bool r, A B o, A B n], A B b, .func (Fn.func 67) #[] #[]] w fun e w' => e = rT (A B 2) /\ Below w.heap.size w w') /\ (∀ (c d s o n b : Int) (r : Bool) (h1 : 1 <= c) (h2 : c <= 28) (d1 : 0 <= d) (d2 : d <= 10) (h : 10 < s) (w : World), Calls tP 68 #[.agg #[A B c, A B d, A B s, .bool r, A B o, A B n], A B b, .func (Fn.func 67) #[] #[]] w fun e w' => e = rT (A B 2) /\ Below w.heap.size w w') /\ (∀ (c s o n b : Int) (r : Bool) (h1 : 1 <= c) (h2 : c <= 13) (s1 : 0 <= s) (s2 : s <= 10) (w : World), Calls tP 68 #[.agg #[A B c, A B 10, A B s, .bool r, A B o, A B n], A B b, .func (Fn.func 67) #[] #[]] w fun e w' => e = rT (A B 6) /\ Below w.heap.size w w') /\ (∀ (s o n b : Int) (r : Bool) (s1 : 0 <= s) (s2 : s <= 10) (w : World), Calls tP 68 #[.agg #[A B 25, A B 10, A B s, .bool r, A B o, A B n], A B b, .func (Fn.func 67) #[] #[]] w fun e w' => e = rT (A B 6) /\ Below w.heap.size w w') := by
 refine ⟨?_, ?_, ?_, ?_, ?_, ?_, ?_, ?_⟩
 intro c d s o n b r h w
 have z0 : decide (c < 1) = true := by simp; omega
 rotate_left
 intro c d s o n b r h w
 have z0 : decide (c < 1) = false := by simp; omega
 have z1 : decide (28 < c) = true := by simp; omega
 rotate_left
 intro c d s o n b r h1 h2 h w
 have z0 : decide (c < 1) = false := by simp; omega
 have z1 : decide (28 < c) = false := by simp; omega
 have z2 : decide (0 <= d) = false := by simp; omega
 rotate_left
 intro c d s o n b r h1 h2 h w
 have z0 : decide (c < 1) = false := by simp; omega
 have z1 : decide (28 < c) = false := by simp; omega
 have z2 : decide (0 <= d) = true := by simp; omega
 have z3 : decide (d < 11) = false := by simp; omega
 rotate_left
 intro c d s o n b r h1 h2 d1 d2 h w
 have z0 : decide (c < 1) = false := by simp; omega
 have z1 : decide (28 < c) = false := by simp; omega
 have z2 : decide (0 <= d) = true := by simp; omega
 have z3 : decide (d < 11) = true := by simp; omega
 have z4 : decide (0 <= s) = false := by simp; omega
 rotate_left
 intro c d s o n b r h1 h2 d1 d2 h w
 have z0 : decide (c < 1) = false := by simp; omega
 have z1 : decide (28 < c) = false := by simp; omega
 have z2 : decide (0 <= d) = true := by simp; omega
 have z3 : decide (d < 11) = true := by simp; omega
 have z4 : decide (0 <= s) = true := by simp; omega
 have z5 : decide (s < 11) = false := by simp; omega
 rotate_left
 intro c s o n b r h1 h2 s1 s2 w
 have z0 : decide (c < 1) = false := by simp; omega
 have z1 : decide (28 < c) = false := by simp; omega
 have z2 : decide (0 <= s) = true := by simp; omega
 have z3 : decide (s < 11) = true := by simp; omega
 have z4 : decide (1 <= c) = true := by simp; omega
 have z5 : decide (c <= 13) = true := by simp; omega
 rotate_left
 intro s o n b r s1 s2 w
 have z0 : decide (0 <= s) = true := by simp; omega
 have z1 : decide (s < 11) = true := by simp; omega
 rotate_left
 all_goals
  go_enter Tryz.func68, Tryz.ntmps68
  go_wp2
  all_goals
   go_ret
   exact ⟨rfl, (by repeat (first | exact bF _ _ | refine bA ?_ (by simp) _))⟩
def zWg := z42.1
def zWh := z42.2.1
def zWe := z42.2.2.1
def zWf := z42.2.2.2.1
def zWc := z42.2.2.2.2.1
def zWd := z42.2.2.2.2.2.1
def op_top := z42.2.2.2.2.2.2.1
def zTo := z42.2.2.2.2.2.2.2
theorem z2b  : (∀ (c d s o n : Int) (h1 : 1 <= c) (h2 : c <= 12) (d1 : 0 <= d) (d2 : d <= 10) (s1 : 0 <= s) (s2 : s <= 10) (dt : d ≠ 10) (w : World), Calls tP 73 #[.agg #[A B c, A B d, A B s, .bool true, A B o, A B n]] w fun e w' => e = rT (A B (bit (o != 0 || n != 0))) /\ Below w.heap.size w w') /\ (∀ (c d s o n : Int) (h1 : 1 <= c) (h2 : c <= 12) (d1 : 0 <= d) (d2 : d <= 10) (s1 : 0 <= s) (s2 : s <= 10) (dt : d ≠ 10) (w : World), Calls tP 73 #[.agg #[A B c, A B d, A B s, .bool false, A B o, A B n]] w fun e w' => e = rT (A B (bit (s != 0 || o != 0))) /\ Below w.heap.size w w') /\ (∀ (c d s o n : Int) (h1 : 15 <= c) (h2 : c <= 24) (d1 : 0 <= d) (d2 : d <= 10) (s1 : 0 <= s) (s2 : s <= 10) (w : World), Calls tP 73 #[.agg #[A B c, A B d, A B s, .bool true, A B o, A B n]] w fun e w' => e = rT (A B (bit (n != 0))) /\ Below w.heap.size w w') /\ (∀ (c d s o n : Int) (h1 : 15 <= c) (h2 : c <= 24) (d1 : 0 <= d) (d2 : d <= 10) (s1 : 0 <= s) (s2 : s <= 10) (w : World), Calls tP 73 #[.agg #[A B c, A B d, A B s, .bool false, A B o, A B n]] w fun e w' => e = rT (A B (bit (s != 0))) /\ Below w.heap.size w w') /\ (∀ (d s o n : Int) (d1 : 0 <= d) (d2 : d <= 10) (s1 : 0 <= s) (s2 : s <= 10) (dt : d ≠ 10) (w : World), Calls tP 73 #[.agg #[A B 13, A B d, A B s, .bool true, A B o, A B n]] w fun e w' => e = rT (A B (bit (s != 0 || true || o != 0 || n != 0))) /\ Below w.heap.size w w') /\ (∀ (d s o n : Int) (d1 : 0 <= d) (d2 : d <= 10) (s1 : 0 <= s) (s2 : s <= 10) (dt : d ≠ 10) (w : World), Calls tP 73 #[.agg #[A B 13, A B d, A B s, .bool false, A B o, A B n]] w fun e w' => e = rT (A B (bit (s != 0 || false || o != 0 || n != 0))) /\ Below w.heap.size w w') /\ (∀ (d s o n : Int) (d1 : 0 <= d) (d2 : d <= 10) (s1 : 0 <= s) (s2 : s <= 10) (w : World), Calls tP 73 #[.agg #[A B 14, A B d, A B s, .bool true, A B o, A B n]] w fun e w' => e = rT (A B (bit (d != 0 || s != 0 || true || n != 0))) /\ Below w.heap.size w w') /\ (∀ (d s o n : Int) (d1 : 0 <= d) (d2 : d <= 10) (s1 : 0 <= s) (s2 : s <= 10) (w : World), Calls tP 73 #[.agg #[A B 14, A B d, A B s, .bool false, A B o, A B n]] w fun e w' => e = rT (A B (bit (d != 0 || s != 0 || false || n != 0))) /\ Below w.heap.size w w') /\ (∀ (d s o n : Int) (d1 : 0 <= d) (d2 : d <= 10) (s1 : 0 <= s) (s2 : s <= 10) (dt : d ≠ 10) (w : World), Calls tP 73 #[.agg #[A B 25, A B d, A B s, .bool true, A B o, A B n]] w fun e w' => e = rT (A B (bit (true || n != 0))) /\ Below w.heap.size w w') /\ (∀ (d s o n : Int) (d1 : 0 <= d) (d2 : d <= 10) (s1 : 0 <= s) (s2 : s <= 10) (dt : d ≠ 10) (w : World), Calls tP 73 #[.agg #[A B 25, A B d, A B s, .bool false, A B o, A B n]] w fun e w' => e = rT (A B (bit (false || n != 0))) /\ Below w.heap.size w w') /\ (∀ (d s o n : Int) (d1 : 0 <= d) (d2 : d <= 10) (s1 : 0 <= s) (s2 : s <= 10) (w : World), Calls tP 73 #[.agg #[A B 26, A B d, A B s, .bool true, A B o, A B n]] w fun e w' => e = rT (A B (bit (n != 0))) /\ Below w.heap.size w w') /\ (∀ (d s o n : Int) (d1 : 0 <= d) (d2 : d <= 10) (s1 : 0 <= s) (s2 : s <= 10) (w : World), Calls tP 73 #[.agg #[A B 26, A B d, A B s, .bool false, A B o, A B n]] w fun e w' => e = rT (A B (bit (s != 0))) /\ Below w.heap.size w w') /\ (∀ (d s o n : Int) (d1 : 0 <= d) (d2 : d <= 10) (s1 : 0 <= s) (s2 : s <= 10) (w : World), Calls tP 73 #[.agg #[A B 27, A B d, A B s, .bool true, A B o, A B n]] w fun e w' => e = rT (A B (bit (d != 0 || s != 0 || true || o != 0 || (n != 1 && (n != 2 && n != 3))))) /\ Below w.heap.size w w') /\ (∀ (d s o n : Int) (d1 : 0 <= d) (d2 : d <= 10) (s1 : 0 <= s) (s2 : s <= 10) (w : World), Calls tP 73 #[.agg #[A B 27, A B d, A B s, .bool false, A B o, A B n]] w fun e w' => e = rT (A B (bit (d != 0 || s != 0 || false || o != 0 || (n != 1 && (n != 2 && n != 3))))) /\ Below w.heap.size w w') := by
 refine ⟨?_, ?_, ?_, ?_, ?_, ?_, ?_, ?_, ?_, ?_, ?_, ?_, ?_, ?_⟩
 intro c d s o n h1 h2 d1 d2 s1 s2 dt w
 have e13 : (c == 13) = false := by simp; omega
 have e14 : (c == 14) = false := by simp; omega
 have e25 : (c == 25) = false := by simp; omega
 have e26 : (c == 26) = false := by simp; omega
 have e27 : (c == 27) = false := by simp; omega
 have e28 : (c == 28) = false := by simp; omega
 have z0 : decide (1 <= c) = true := by simp; omega
 have z1 : decide (c <= 28) = true := by simp; omega
 have z2 : decide (c <= 13) = true := by simp; omega
 have z3 : decide (c <= 12) = true := by simp; omega
 have z4 : decide (15 <= c) = false := by simp; omega
 have e10 : (d == 10) = false := by simpa using dt
 rotate_left
 intro c d s o n h1 h2 d1 d2 s1 s2 dt w
 have e13 : (c == 13) = false := by simp; omega
 have e14 : (c == 14) = false := by simp; omega
 have e25 : (c == 25) = false := by simp; omega
 have e26 : (c == 26) = false := by simp; omega
 have e27 : (c == 27) = false := by simp; omega
 have e28 : (c == 28) = false := by simp; omega
 have z0 : decide (1 <= c) = true := by simp; omega
 have z1 : decide (c <= 28) = true := by simp; omega
 have z2 : decide (c <= 13) = true := by simp; omega
 have z3 : decide (c <= 12) = true := by simp; omega
 have z4 : decide (15 <= c) = false := by simp; omega
 have e10 : (d == 10) = false := by simpa using dt
 rotate_left
 intro c d s o n h1 h2 d1 d2 s1 s2 w
 have e13 : (c == 13) = false := by simp; omega
 have e14 : (c == 14) = false := by simp; omega
 have e25 : (c == 25) = false := by simp; omega
 have e26 : (c == 26) = false := by simp; omega
 have e27 : (c == 27) = false := by simp; omega
 have e28 : (c == 28) = false := by simp; omega
 have z0 : decide (1 <= c) = true := by simp; omega
 have z1 : decide (c <= 28) = true := by simp; omega
 have z2 : decide (c <= 13) = false := by simp; omega
 have z3 : decide (c <= 12) = false := by simp; omega
 have z4 : decide (15 <= c) = true := by simp; omega
 have z5 : decide (c <= 24) = true := by simp; omega
 rotate_left
 intro c d s o n h1 h2 d1 d2 s1 s2 w
 have e13 : (c == 13) = false := by simp; omega
 have e14 : (c == 14) = false := by simp; omega
 have e25 : (c == 25) = false := by simp; omega
 have e26 : (c == 26) = false := by simp; omega
 have e27 : (c == 27) = false := by simp; omega
 have e28 : (c == 28) = false := by simp; omega
 have z0 : decide (1 <= c) = true := by simp; omega
 have z1 : decide (c <= 28) = true := by simp; omega
 have z2 : decide (c <= 13) = false := by simp; omega
 have z3 : decide (c <= 12) = false := by simp; omega
 have z4 : decide (15 <= c) = true := by simp; omega
 have z5 : decide (c <= 24) = true := by simp; omega
 rotate_left
 intro d s o n d1 d2 s1 s2 dt w
 have e10 : (d == 10) = false := by simpa using dt
 rotate_left
 intro d s o n d1 d2 s1 s2 dt w
 have e10 : (d == 10) = false := by simpa using dt
 rotate_left
 intro d s o n d1 d2 s1 s2 w
 rotate_left
 intro d s o n d1 d2 s1 s2 w
 rotate_left
 intro d s o n d1 d2 s1 s2 dt w
 have e10 : (d == 10) = false := by simpa using dt
 rotate_left
 intro d s o n d1 d2 s1 s2 dt w
 have e10 : (d == 10) = false := by simpa using dt
 rotate_left
 intro d s o n d1 d2 s1 s2 w
 rotate_left
 intro d s o n d1 d2 s1 s2 w
 rotate_left
 intro d s o n d1 d2 s1 s2 w
 rotate_left
 intro d s o n d1 d2 s1 s2 w
 rotate_left
 all_goals
  go_enter Tryz.func73, Tryz.ntmps73
  go_wp2
  all_goals
   go_ret
   exact ⟨zDu (by simp [bit, *]), (by repeat (first | exact bF _ _ | refine bA ?_ (by simp) _))⟩
def zFq := z2b.1
def zDw := z2b.2.1
def zFx := z2b.2.2.1
def zE3 := z2b.2.2.2.1
def zFw := z2b.2.2.2.2.1
def zE2 := z2b.2.2.2.2.2.1
def zFv := z2b.2.2.2.2.2.2.1
def zE1 := z2b.2.2.2.2.2.2.2.1
def zFu := z2b.2.2.2.2.2.2.2.2.1
def zE0 := z2b.2.2.2.2.2.2.2.2.2.1
def zFt := z2b.2.2.2.2.2.2.2.2.2.2.1
def zDz := z2b.2.2.2.2.2.2.2.2.2.2.2.1
def zFs := z2b.2.2.2.2.2.2.2.2.2.2.2.2.1
def zDy := z2b.2.2.2.2.2.2.2.2.2.2.2.2.2
theorem zGt (d s o n : Int) (d1 : 0 <= d) (d2 : d <= 10) (s1 : 0 <= s) (s2 : s <= 10) (w : World) : (Calls tP 73 #[.agg #[A B 28, A B d, A B s, .bool true, A B o, A B n]] w fun e w' => e = rT (A B (bit (d != 0 || s != 0 || true || o != 0 || n != 0))) /\ Below w.heap.size w w') /\ (Calls tP 73 #[.agg #[A B 28, A B d, A B s, .bool false, A B o, A B n]] w fun e w' => e = rT (A B (bit (d != 0 || s != 0 || false || o != 0 || n != 0))) /\ Below w.heap.size w w') := by
 refine ⟨?_, ?_⟩
 all_goals
  go_enter Tryz.func73, Tryz.ntmps73
  go_wp2
  all_goals
   go_ret
   exact ⟨zDu (by simp [bit, *]), (by repeat (first | exact bF _ _ | refine bA ?_ (by simp) _))⟩
def zFr := fun d s o n d1 d2 s1 s2 w => (@zGt d s o n d1 d2 s1 s2 w).1
def zDx := fun d s o n d1 d2 s1 s2 w => (@zGt d s o n d1 d2 s1 s2 w).2
theorem z0h {W w1 : World} (hb : Below W.heap.size W w1) : (∀ b o, b < W.heap.size -> w1.cell? ⟨b, o, none⟩ = W.cell? ⟨b, o, none⟩) /\ (∀ b o, b < W.heap.size -> w1.frozen? ⟨b, o, none⟩ = W.frozen? ⟨b, o, none⟩) :=
 ⟨fun b o h => hb.cell (p := ⟨b, o, none⟩) h, fun b o h => hb.frozen (p := ⟨b, o, none⟩) h⟩
theorem zGs  : (∀ (c d s o n b : Int) (r : Bool) (h1 : 15 <= c) (h2 : c <= 24) (d1 : 0 <= d) (d2 : d <= 10) (s1 : 0 <= s) (s2 : s <= 10) (hm : moreV c d s r o n = false) (w : World), Calls tP 68 #[.agg #[A B c, A B d, A B s, .bool r, A B o, A B n], A B b, .func (Fn.func 67) #[] #[]] w fun e w' => e = rT (A B (zQj o b)) /\ Below w.heap.size w w') /\ (∀ (d s o n b : Int) (r : Bool) (d1 : 0 <= d) (d2 : d <= 10) (s1 : 0 <= s) (s2 : s <= 10) (hm : moreV 14 d s r o n = false) (w : World), Calls tP 68 #[.agg #[A B 14, A B d, A B s, .bool r, A B o, A B n], A B b, .func (Fn.func 67) #[] #[]] w fun e w' => e = rT (A B (zQj o b)) /\ Below w.heap.size w w') := by
 refine ⟨?_, ?_⟩
 intro c d s o n b r h1 h2 d1 d2 s1 s2 hm w
 have e14 : (c == 14) = false := by simp; omega
 have e25 : (c == 25) = false := by simp; omega
 have e26 : (c == 26) = false := by simp; omega
 have e27 : (c == 27) = false := by simp; omega
 have e28 : (c == 28) = false := by simp; omega
 rotate_left
 intro d s o n b r d1 d2 s1 s2 hm w
 rotate_left
 all_goals
  have z0 : decide (0 <= d) = true := by simp; omega
  have z1 : decide (d < 11) = true := by simp; omega
  have z2 : decide (0 <= s) = true := by simp; omega
  have z3 : decide (s < 11) = true := by simp; omega
 have z4 : decide (c < 1) = false := by simp; omega
 have z5 : decide (28 < c) = false := by simp; omega
 have z6 : decide (1 <= c) = true := by simp; omega
 have z7 : decide (c <= 13) = false := by simp; omega
 have z8 : decide (15 <= c) = true := by simp; omega
 have z9 : decide (c <= 24) = true := by simp; omega
 rotate_left
 rotate_left
 all_goals
  go_enter Tryz.func68, Tryz.ntmps68
  go_wp2_with (first | (go_at_call 97; refine (zEi _ _ _ _ _ _ (by omega) (by omega) _).mono ?_; rw [hm]; rintro e w1 ⟨rfl, hb⟩; obtain ⟨hcl, hfr⟩ := z0h hb) | go_in)
  all_goals
   go_ret
   exact ⟨zDu (by unfold zQj endV; (repeat' split) <;> omega), (((bF _ _).alloc (Nat.le_refl _) _).trans (hb.mono (by simp)))⟩
def zMv := zGs.1
def zMu := zGs.2
theorem z55  : (∀ (c d s o n b : Int) (r : Bool) (h1 : 1 <= c) (h2 : c <= 13) (d1 : 0 <= d) (d2 : d <= 10) (s1 : 0 <= s) (s2 : s <= 10) (dt : d ≠ 10) (hm : moreV c d s r o n = false) (w : World), Calls tP 68 #[.agg #[A B c, A B d, A B s, .bool r, A B o, A B n], A B b, .func (Fn.func 67) #[] #[]] w fun e w' => e = rT (A B (endV b)) /\ Below w.heap.size w w') /\ (∀ (d s o n b : Int) (r : Bool) (d1 : 0 <= d) (d2 : d <= 10) (s1 : 0 <= s) (s2 : s <= 10) (dt : d ≠ 10) (hm : moreV 25 d s r o n = false) (w : World), Calls tP 68 #[.agg #[A B 25, A B d, A B s, .bool r, A B o, A B n], A B b, .func (Fn.func 67) #[] #[]] w fun e w' => e = rT (A B (endV b)) /\ Below w.heap.size w w') /\ (∀ (d s o n b : Int) (r : Bool) (d1 : 0 <= d) (d2 : d <= 10) (s1 : 0 <= s) (s2 : s <= 10) (hm : moreV 26 d s r o n = false) (w : World), Calls tP 68 #[.agg #[A B 26, A B d, A B s, .bool r, A B o, A B n], A B b, .func (Fn.func 67) #[] #[]] w fun e w' => e = rT (A B (endV b)) /\ Below w.heap.size w w') /\ (∀ (d s o n b : Int) (r : Bool) (d1 : 0 <= d) (d2 : d <= 10) (s1 : 0 <= s) (s2 : s <= 10) (hm : moreV 27 d s r o n = false) (n1 : (n == 1) = true) (w : World), Calls tP 68 #[.agg #[A B 27, A B d, A B s, .bool r, A B o, A B n], A B b, .func (Fn.func 67) #[] #[]] w fun e w' => e = rT (A B (endV b)) /\ Below w.heap.size w w') /\ (∀ (d s o n b : Int) (r : Bool) (d1 : 0 <= d) (d2 : d <= 10) (s1 : 0 <= s) (s2 : s <= 10) (hm : moreV 27 d s r o n = false) (n1 : (n == 1) = false) (n2 : (n == 2) = true) (w : World), Calls tP 68 #[.agg #[A B 27, A B d, A B s, .bool r, A B o, A B n], A B b, .func (Fn.func 67) #[] #[]] w fun e w' => e = rT (A B (endV b)) /\ Below w.heap.size w w') /\ (∀ (d s o n b : Int) (r : Bool) (d1 : 0 <= d) (d2 : d <= 10) (s1 : 0 <= s) (s2 : s <= 10) (hm : moreV 27 d s r o n = false) (n1 : (n == 1) = false) (n2 : (n == 2) = false) (n3 : (n == 3) = true) (w : World), Calls tP 68 #[.agg #[A B 27, A B d, A B s, .bool r, A B o, A B n], A B b, .func (Fn.func 67) #[] #[]] w fun e w' => e = rT (A B (endV b)) /\ Below w.heap.size w w') := by
 refine ⟨?_, ?_, ?_, ?_, ?_, ?_⟩
 intro c d s o n b r h1 h2 d1 d2 s1 s2 dt hm w
 have e14 : (c == 14) = false := by simp; omega
 have e25 : (c == 25) = false := by simp; omega
 have e26 : (c == 26) = false := by simp; omega
 have e27 : (c == 27) = false := by simp; omega
 have e28 : (c == 28) = false := by simp; omega
 have e10 : (d == 10) = false := by simpa using dt
 rotate_left
 intro d s o n b r d1 d2 s1 s2 dt hm w
 have e10 : (d == 10) = false := by simpa using dt
 rotate_left
 intro d s o n b r d1 d2 s1 s2 hm w
 rotate_left
 intro d s o n b r d1 d2 s1 s2 hm n1 w
 rotate_left
 intro d s o n b r d1 d2 s1 s2 hm n1 n2 w
 rotate_left
 intro d s o n b r d1 d2 s1 s2 hm n1 n2 n3 w
 rotate_left
 all_goals
  have z0 : decide (0 <= d) = true := by simp; omega
  have z1 : decide (d < 11) = true := by simp; omega
  have z2 : decide (0 <= s) = true := by simp; omega
  have z3 : decide (s < 11) = true := by simp; omega
 have z4 : decide (c < 1) = false := by simp; omega
 have z5 : decide (28 < c) = false := by simp; omega
 have z6 : decide (1 <= c) = true := by simp; omega
 have z7 : decide (c <= 13) = true := by simp; omega
 have z8 : decide (15 <= c) = false := by simp; omega
 rotate_left
 rotate_left
 rotate_left
 rotate_left
 rotate_left
 rotate_left
 all_goals
  go_enter Tryz.func68, Tryz.ntmps68
  go_wp2_with (first | (go_at_call 97; refine (zEi _ _ _ _ _ _ (by omega) (by omega) _).mono ?_; rw [hm]; rintro e w1 ⟨rfl, hb⟩; obtain ⟨hcl, hfr⟩ := z0h hb) | go_in)
  all_goals
   go_ret
   exact ⟨zDu (by simp [endV, *]), (((bF _ _).alloc (Nat.le_refl _) _).trans (hb.mono (by simp)))⟩
def zMp := z55.1
def zMt := z55.2.1
def zMs := z55.2.2.1
def zIo := z55.2.2.2.1
def zIn := z55.2.2.2.2.1
def zIm := z55.2.2.2.2.2
theorem z3l  : (∀ (c d s o n b : Int) (r : Bool) (h1 : 1 <= c) (h2 : c <= 13) (d1 : 0 <= d) (d2 : d <= 10) (s1 : 0 <= s) (s2 : s <= 10) (dt : d ≠ 10) (hm : moreV c d s r o n = true) (w : World), Calls tP 68 #[.agg #[A B c, A B d, A B s, .bool r, A B o, A B n], A B b, .func (Fn.func 67) #[] #[]] w fun e w' => e = rT (A B 1) /\ Below w.heap.size w w') /\ (∀ (c d s o n b : Int) (r : Bool) (h1 : 15 <= c) (h2 : c <= 24) (d1 : 0 <= d) (d2 : d <= 10) (s1 : 0 <= s) (s2 : s <= 10) (hm : moreV c d s r o n = true) (w : World), Calls tP 68 #[.agg #[A B c, A B d, A B s, .bool r, A B o, A B n], A B b, .func (Fn.func 67) #[] #[]] w fun e w' => e = rT (A B 1) /\ Below w.heap.size w w') /\ (∀ (d s o n b : Int) (r : Bool) (d1 : 0 <= d) (d2 : d <= 10) (s1 : 0 <= s) (s2 : s <= 10) (hm : moreV 14 d s r o n = true) (w : World), Calls tP 68 #[.agg #[A B 14, A B d, A B s, .bool r, A B o, A B n], A B b, .func (Fn.func 67) #[] #[]] w fun e w' => e = rT (A B 1) /\ Below w.heap.size w w') /\ (∀ (d s o n b : Int) (r : Bool) (d1 : 0 <= d) (d2 : d <= 10) (s1 : 0 <= s) (s2 : s <= 10) (dt : d ≠ 10) (hm : moreV 25 d s r o n = true) (w : World), Calls tP 68 #[.agg #[A B 25, A B d, A B s, .bool r, A B o, A B n], A B b, .func (Fn.func 67) #[] #[]] w fun e w' => e = rT (A B 1) /\ Below w.heap.size w w') /\ (∀ (d s o n b : Int) (r : Bool) (d1 : 0 <= d) (d2 : d <= 10) (s1 : 0 <= s) (s2 : s <= 10) (hm : moreV 26 d s r o n = true) (w : World), Calls tP 68 #[.agg #[A B 26, A B d, A B s, .bool r, A B o, A B n], A B b, .func (Fn.func 67) #[] #[]] w fun e w' => e = rT (A B 1) /\ Below w.heap.size w w') /\ (∀ (d s o n b : Int) (r : Bool) (d1 : 0 <= d) (d2 : d <= 10) (s1 : 0 <= s) (s2 : s <= 10) (hm : moreV 27 d s r o n = true) (w : World), Calls tP 68 #[.agg #[A B 27, A B d, A B s, .bool r, A B o, A B n], A B b, .func (Fn.func 67) #[] #[]] w fun e w' => e = rT (A B 1) /\ Below w.heap.size w w') /\ (∀ (d s o n b : Int) (r : Bool) (d1 : 0 <= d) (d2 : d <= 10) (s1 : 0 <= s) (s2 : s <= 10) (hm : moreV 27 d s r o n = false) (n1 : (n == 1) = false) (n2 : (n == 2) = false) (n3 : (n == 3) = false) (w : World), Calls tP 68 #[.agg #[A B 27, A B d, A B s, .bool r, A B o, A B n], A B b, .func (Fn.func 67) #[] #[]] w fun e w' => e = rT (A B 1) /\ Below w.heap.size w w') /\ (∀ (d s o n b : Int) (r : Bool) (d1 : 0 <= d) (d2 : d <= 10) (s1 : 0 <= s) (s2 : s <= 10) (hm : moreV 28 d s r o n = true) (w : World), Calls tP 68 #[.agg #[A B 28, A B d, A B s, .bool r, A B o, A B n], A B b, .func (Fn.func 67) #[] #[]] w fun e w' => e = rT (A B 1) /\ Below w.heap.size w w') /\ (∀ (d s o n b : Int) (r : Bool) (d1 : 0 <= d) (d2 : d <= 10) (s1 : 0 <= s) (s2 : s <= 10) (hm : moreV 28 d s r o n = false) (w : World), Calls tP 68 #[.agg #[A B 28, A B d, A B s, .bool r, A B o, A B n], A B b, .func (Fn.func 67) #[] #[]] w fun e w' => e = rT (A B 0) /\ Below w.heap.size w w') := by
 refine ⟨?_, ?_, ?_, ?_, ?_, ?_, ?_, ?_, ?_⟩
 intro c d s o n b r h1 h2 d1 d2 s1 s2 dt hm w
 have e14 : (c == 14) = false := by simp; omega
 have e25 : (c == 25) = false := by simp; omega
 have e26 : (c == 26) = false := by simp; omega
 have e27 : (c == 27) = false := by simp; omega
 have e28 : (c == 28) = false := by simp; omega
 have e10 : (d == 10) = false := by simpa using dt
 rotate_left
 intro c d s o n b r h1 h2 d1 d2 s1 s2 hm w
 have e14 : (c == 14) = false := by simp; omega
 have e25 : (c == 25) = false := by simp; omega
 have e26 : (c == 26) = false := by simp; omega
 have e27 : (c == 27) = false := by simp; omega
 have e28 : (c == 28) = false := by simp; omega
 rotate_left
 intro d s o n b r d1 d2 s1 s2 hm w
 rotate_left
 intro d s o n b r d1 d2 s1 s2 dt hm w
 have e10 : (d == 10) = false := by simpa using dt
 rotate_left
 intro d s o n b r d1 d2 s1 s2 hm w
 rotate_left
 intro d s o n b r d1 d2 s1 s2 hm w
 rotate_left
 intro d s o n b r d1 d2 s1 s2 hm n1 n2 n3 w
 rotate_left
 intro d s o n b r d1 d2 s1 s2 hm w
 rotate_left
 intro d s o n b r d1 d2 s1 s2 hm w
 rotate_left
 all_goals
  have z0 : decide (0 <= d) = true := by simp; omega
  have z1 : decide (d < 11) = true := by simp; omega
  have z2 : decide (0 <= s) = true := by simp; omega
  have z3 : decide (s < 11) = true := by simp; omega
 have z4 : decide (c < 1) = false := by simp; omega
 have z5 : decide (28 < c) = false := by simp; omega
 have z6 : decide (1 <= c) = true := by simp; omega
 have z7 : decide (c <= 13) = true := by simp; omega
 have z8 : decide (15 <= c) = false := by simp; omega
 rotate_left
 have z4 : decide (c < 1) = false := by simp; omega
 have z5 : decide (28 < c) = false := by simp; omega
 have z6 : decide (1 <= c) = true := by simp; omega
 have z7 : decide (c <= 13) = false := by simp; omega
 have z8 : decide (15 <= c) = true := by simp; omega
 have z9 : decide (c <= 24) = true := by simp; omega
 rotate_left
 rotate_left
 rotate_left
 rotate_left
 rotate_left
 rotate_left
 rotate_left
 rotate_left
 all_goals
  go_enter Tryz.func68, Tryz.ntmps68
  go_wp2_with (first | (go_at_call 97; refine (zEi _ _ _ _ _ _ (by omega) (by omega) _).mono ?_; rw [hm]; rintro e w1 ⟨rfl, hb⟩; obtain ⟨hcl, hfr⟩ := z0h hb) | go_in)
  all_goals
   go_ret
   exact ⟨rfl, (((bF _ _).alloc (Nat.le_refl _) _).trans (hb.mono (by simp)))⟩
def zIj := z3l.1
def zIs := z3l.2.1
def zIr := z3l.2.2.1
def zIq := z3l.2.2.2.1
def zIp := z3l.2.2.2.2.1
def zIl := z3l.2.2.2.2.2.1
def zMr := z3l.2.2.2.2.2.2.1
def zIk := z3l.2.2.2.2.2.2.2.1
def zMq := z3l.2.2.2.2.2.2.2.2
theorem z8v {c d s : Int} {r : Bool} {o n : Int} (c1 : 1 <= c) (c2 : c <= 28) (d1 : 0 <= d) (d2 : d <= 10) (s1 : 0 <= s) (s2 : s <= 10) (ht : ¬ (((1 <= c /\ c <= 13) \/ c = 25) /\ d = 10)) :
  z1z c d s r o n = (if moreV c d s r o n = true \/ (c = 27 /\ n ≠ 1 /\ n ≠ 2 /\ n ≠ 3) then 1 else 0) := by
 unfold z1z
 rw [if_neg (by omega), if_neg (by omega), if_neg ht]
theorem z35 {c d s : Int} {r : Bool} {o n : Int} (c1 : 1 <= c) (c2 : c <= 28) (d1 : 0 <= d) (d2 : d <= 10) (s1 : 0 <= s) (s2 : s <= 10) (ht : ¬ (((1 <= c /\ c <= 13) \/ c = 25) /\ d = 10)) (h27 : c ≠ 27) :
  z1z c d s r o n = bit (moreV c d s r o n) := by
 rw [z8v c1 c2 d1 d2 s1 s2 ht]
 unfold bit
 cases moreV c d s r o n <;> simp [h27]
theorem zVc (c d s : Int) (r : Bool) (o n : Int) (w : World) :
  Calls tP 73 #[.agg #[A B c, A B d, A B s, .bool r, A B o, A B n]] w fun e w' => e = rT (A B (z1z c d s r o n)) /\ Below w.heap.size w w' := by
 by_cases k1 : c < 1
 ·have e : z1z c d s r o n = 3 := by unfold z1z; rw [if_pos (Or.inl k1)]
  rw [e]; exact zTe c d s o n r k1 w
 by_cases k2 : 28 < c
 ·have e : z1z c d s r o n = 3 := by unfold z1z; rw [if_pos (Or.inr k2)]
  rw [e]; exact zTf c d s o n r k2 w
 have c1 : 1 <= c := by omega
 have c2 : c <= 28 := by omega
 have two : (d < 0 \/ 10 < d \/ s < 0 \/ 10 < s) -> z1z c d s r o n = 2 := fun h => by unfold z1z; rw [if_neg (by omega), if_pos h]
 by_cases k3 : d < 0
 ·rw [two (by omega)]; exact zTc c d s o n r c1 c2 k3 w
 by_cases k4 : 10 < d
 ·rw [two (by omega)]; exact zTd c d s o n r c1 c2 k4 w
 have d1 : 0 <= d := by omega
 have d2 : d <= 10 := by omega
 by_cases k5 : s < 0
 ·rw [two (by omega)]; exact zTa c d s o n r c1 c2 d1 d2 k5 w
 by_cases k6 : 10 < s
 ·rw [two (by omega)]; exact zTb c d s o n r c1 c2 d1 d2 k6 w
 have s1 : 0 <= s := by omega
 have s2 : s <= 10 := by omega
 by_cases ht : ((1 <= c /\ c <= 13) \/ c = 25) /\ d = 10
 ·have e : z1z c d s r o n = 6 := by unfold z1z; rw [if_neg (by omega), if_neg (by omega), if_pos ht]
  rw [e]
  obtain ⟨h, rfl⟩ := ht
  rcases h with ⟨a1, a2⟩ | rfl
  ·exact zW6 c s o n r a1 a2 s1 s2 w
  ·exact zPb s o n r s1 s2 w
 have hc : (1 <= c /\ c <= 12) \/ (15 <= c /\ c <= 24) \/ c = 13 \/ c = 14 \/ c = 25 \/ c = 26 \/ c = 27 \/ c = 28 := by omega
 rcases hc with ⟨a1, a2⟩ | ⟨a1, a2⟩ | rfl | rfl | rfl | rfl | rfl | rfl
 ·have e : moreV c d s r o n = (if r then o != 0 || n != 0 else s != 0 || o != 0) := by unfold moreV; rw [if_pos ⟨a1, a2⟩]
  rw [z35 c1 c2 d1 d2 s1 s2 ht (by omega), e]
  cases r
  ·exact zDw c d s o n a1 a2 d1 d2 s1 s2 (by omega) w
  ·exact zFq c d s o n a1 a2 d1 d2 s1 s2 (by omega) w
 ·have e : moreV c d s r o n = (if r then n != 0 else s != 0) := by unfold moreV; rw [if_neg (by omega), if_pos ⟨a1, a2⟩]
  rw [z35 c1 c2 d1 d2 s1 s2 ht (by omega), e]
  cases r
  ·exact zE3 c d s o n a1 a2 d1 d2 s1 s2 w
  ·exact zFx c d s o n a1 a2 d1 d2 s1 s2 w
 ·rw [z35 c1 c2 d1 d2 s1 s2 ht (by omega)]
  cases r
  ·exact zE2 d s o n d1 d2 s1 s2 (by omega) w
  ·exact zFw d s o n d1 d2 s1 s2 (by omega) w
 ·rw [z35 c1 c2 d1 d2 s1 s2 ht (by omega)]
  cases r
  ·exact zE1 d s o n d1 d2 s1 s2 w
  ·exact zFv d s o n d1 d2 s1 s2 w
 ·rw [z35 c1 c2 d1 d2 s1 s2 ht (by omega)]
  cases r
  ·exact zE0 d s o n d1 d2 s1 s2 (by omega) w
  ·exact zFu d s o n d1 d2 s1 s2 (by omega) w
 ·rw [z35 c1 c2 d1 d2 s1 s2 ht (by omega)]
  cases r
  ·exact zDz d s o n d1 d2 s1 s2 w
  ·exact zFt d s o n d1 d2 s1 s2 w
 ·rw [z8v c1 c2 d1 d2 s1 s2 ht]
  have e : (if moreV 27 d s r o n = true \/ ((27 : Int) = 27 /\ n ≠ 1 /\ n ≠ 2 /\ n ≠ 3) then (1 : Int) else 0) = bit (d != 0 || s != 0 || r || o != 0 || (n != 1 && (n != 2 && n != 3))) := by
   have m : moreV 27 d s r o n = (d != 0 || s != 0 || r || o != 0) := rfl
   rw [m]
   unfold bit
   by_cases h1 : n = 1 <;> by_cases h2 : n = 2 <;> by_cases h3 : n = 3 <;> simp [h1, h2, h3] <;> omega
  rw [e]
  cases r
  ·exact zDy d s o n d1 d2 s1 s2 w
  ·exact zFs d s o n d1 d2 s1 s2 w
 ·rw [z35 c1 c2 d1 d2 s1 s2 ht (by omega)]
  cases r
  ·exact zDx d s o n d1 d2 s1 s2 w
  ·exact zFr d s o n d1 d2 s1 s2 w
theorem z3o {c d s : Int} {r : Bool} {o n b : Int} {x : Int} (h : z1z c d s r o n = x) (h0 : x ≠ 0) : z3x c d s r o n b = x := by
 unfold z3x; rw [h, if_pos h0]
theorem z87 {c d s : Int} {r : Bool} {o n b : Int} (h : z1z c d s r o n = 0) : z3x c d s r o n b = if (c = 14 \/ (15 <= c /\ c <= 24)) /\ (o < 0 \/ b <= o) then 10 else if b = 0 /\ c ≠ 28 then 8 else 0 := by
 unfold z3x; rw [if_neg (by rw [h]; exact fun f => f rfl)]
theorem z78 {c d s : Int} {r : Bool} {o n b : Int} (h : z1z c d s r o n = 0) (h1 : ¬ (c = 14 \/ (15 <= c /\ c <= 24))) (h2 : c ≠ 28) : z3x c d s r o n b = endV b := by
 rw [z87 h, if_neg (fun f => h1 f.1)]
 unfold endV
 by_cases hb : b = 0 <;> simp [hb, h2]
theorem zCa {c d s : Int} {r : Bool} {o n b : Int} (h : z1z c d s r o n = 0) (h1 : c = 14 \/ (15 <= c /\ c <= 24)) : z3x c d s r o n b = zQj o b := by
 rw [z87 h]
 unfold zQj endV
 (repeat' split) <;> omega
theorem zAn (c d s : Int) (r : Bool) (o n b : Int) (w : World) :
  Calls tP 68 #[.agg #[A B c, A B d, A B s, .bool r, A B o, A B n], A B b, .func (Fn.func 67) #[] #[]] w fun e w' => e = rT (A B (z3x c d s r o n b)) /\ Below w.heap.size w w' := by
 by_cases k1 : c < 1
 ·have e : z1z c d s r o n = 3 := by unfold z1z; rw [if_pos (Or.inl k1)]
  rw [z3o e (by decide)]; exact zWg c d s o n b r k1 w
 by_cases k2 : 28 < c
 ·have e : z1z c d s r o n = 3 := by unfold z1z; rw [if_pos (Or.inr k2)]
  rw [z3o e (by decide)]; exact zWh c d s o n b r k2 w
 have c1 : 1 <= c := by omega
 have c2 : c <= 28 := by omega
 have two : (d < 0 \/ 10 < d \/ s < 0 \/ 10 < s) -> z3x c d s r o n b = 2 := fun h => z3o (by unfold z1z; rw [if_neg (by omega), if_pos h]) (by decide)
 by_cases k3 : d < 0
 ·rw [two (by omega)]; exact zWe c d s o n b r c1 c2 k3 w
 by_cases k4 : 10 < d
 ·rw [two (by omega)]; exact zWf c d s o n b r c1 c2 k4 w
 have d1 : 0 <= d := by omega
 have d2 : d <= 10 := by omega
 by_cases k5 : s < 0
 ·rw [two (by omega)]; exact zWc c d s o n b r c1 c2 d1 d2 k5 w
 by_cases k6 : 10 < s
 ·rw [two (by omega)]; exact zWd c d s o n b r c1 c2 d1 d2 k6 w
 have s1 : 0 <= s := by omega
 have s2 : s <= 10 := by omega
 by_cases ht : ((1 <= c /\ c <= 13) \/ c = 25) /\ d = 10
 ·have e : z1z c d s r o n = 6 := by unfold z1z; rw [if_neg (by omega), if_neg (by omega), if_pos ht]
  rw [z3o e (by decide)]
  obtain ⟨h, rfl⟩ := ht
  rcases h with ⟨a1, a2⟩ | rfl
  ·exact op_top c s o n b r a1 a2 s1 s2 w
  ·exact zTo s o n b r s1 s2 w
 have last := z8v (r := r) (o := o) (n := n) c1 c2 d1 d2 s1 s2 ht
 have hc : (1 <= c /\ c <= 13) \/ (15 <= c /\ c <= 24) \/ c = 14 \/ c = 25 \/ c = 26 \/ c = 27 \/ c = 28 := by omega
 cases hm : moreV c d s r o n with
 | true =>
  have e : z1z c d s r o n = 1 := by rw [last, if_pos (Or.inl hm)]
  rw [z3o e (by decide)]
  rcases hc with ⟨a1, a2⟩ | ⟨a1, a2⟩ | rfl | rfl | rfl | rfl | rfl
  ·exact zIj c d s o n b r a1 a2 d1 d2 s1 s2 (by omega) hm w
  ·exact zIs c d s o n b r a1 a2 d1 d2 s1 s2 hm w
  ·exact zIr d s o n b r d1 d2 s1 s2 hm w
  ·exact zIq d s o n b r d1 d2 s1 s2 (by omega) hm w
  ·exact zIp d s o n b r d1 d2 s1 s2 hm w
  ·exact zIl d s o n b r d1 d2 s1 s2 hm w
  ·exact zIk d s o n b r d1 d2 s1 s2 hm w
 | false =>
  by_cases h27 : c = 27 /\ n ≠ 1 /\ n ≠ 2 /\ n ≠ 3
  ·have e : z1z c d s r o n = 1 := by rw [last, if_pos (Or.inr h27)]
   rw [z3o e (by decide)]
   obtain ⟨rfl, n1, n2, n3⟩ := h27
   exact zMr d s o n b r d1 d2 s1 s2 hm (by simpa using n1) (by simpa using n2) (by simpa using n3) w
  ·have e : z1z c d s r o n = 0 := by rw [last, if_neg (by rw [hm]; simpa using h27)]
   rcases hc with ⟨a1, a2⟩ | ⟨a1, a2⟩ | rfl | rfl | rfl | rfl | rfl
   ·rw [z78 e (by omega) (by omega)]; exact zMp c d s o n b r a1 a2 d1 d2 s1 s2 (by omega) hm w
   ·rw [zCa e (by omega)]; exact zMv c d s o n b r a1 a2 d1 d2 s1 s2 hm w
   ·rw [zCa e (by omega)]; exact zMu d s o n b r d1 d2 s1 s2 hm w
   ·rw [z78 e (by omega) (by omega)]; exact zMt d s o n b r d1 d2 s1 s2 (by omega) hm w
   ·rw [z78 e (by omega) (by omega)]; exact zMs d s o n b r d1 d2 s1 s2 hm w
   ·rw [z78 e (by omega) (by omega)]
    have hn : n = 1 \/ n = 2 \/ n = 3 := by omega
    rcases hn with rfl | rfl | rfl
    ·exact zIo d s o 1 b r d1 d2 s1 s2 hm (by decide) w
    ·exact zIn d s o 2 b r d1 d2 s1 s2 hm (by decide) (by decide) w
    ·exact zIm d s o 3 b r d1 d2 s1 s2 hm (by decide) (by decide) (by decide) w
   ·have z : z3x 28 d s r o n b = 0 := by rw [z87 e, if_neg (by omega), if_neg (by omega)]
    rw [z]; exact zMq d s o n b r d1 d2 s1 s2 hm w
def z1l (w : World) (bk off len : Nat) (C D S : Nat -> Int) (R : Nat -> Bool) (O N : Nat -> Int) : Prop :=
 ∀ i, i < len -> w.cell? ⟨bk, off + i * 6, none⟩ = some (A B (C i)) /\ w.cell? ⟨bk, off + i * 6 + 1, none⟩ = some (A B (D i)) /\ w.cell? ⟨bk, off + i * 6 + 2, none⟩ = some (A B (S i))
  /\ w.cell? ⟨bk, off + i * 6 + 3, none⟩ = some (.bool (R i)) /\ w.cell? ⟨bk, off + i * 6 + 4, none⟩ = some (A B (O i)) /\ w.cell? ⟨bk, off + i * 6 + 5, none⟩ = some (A B (N i))
theorem z1l.later {w wr : World} {bk off len : Nat} {C D S : Nat -> Int} {R : Nat -> Bool} {O N : Nat -> Int} (h : z1l w bk off len C D S R O N) (hb : Below w.heap.size w wr) (hbk : bk < w.heap.size) : z1l wr bk off len C D S R O N := by
 intro i hi
 obtain ⟨a, b, c, d, e, f⟩ := h i hi
 exact ⟨(hb.cell (p := ⟨bk, _, none⟩) hbk).trans a, (hb.cell (p := ⟨bk, _, none⟩) hbk).trans b, (hb.cell (p := ⟨bk, _, none⟩) hbk).trans c, (hb.cell (p := ⟨bk, _, none⟩) hbk).trans d, (hb.cell (p := ⟨bk, _, none⟩) hbk).trans e, (hb.cell (p := ⟨bk, _, none⟩) hbk).trans f⟩
def z1j (len : Nat) (C D S : Nat -> Int) (R : Nat -> Bool) (O N : Nat -> Int) (i : Nat) : Int := z3x (C i) (D i) (S i) (R i) (O i) (N i) ((len : Int) - 1 - i)
theorem z7l (a : Option Addr) (len cap : Nat) (h : len < 1 \/ 200 < len) (w : World) :
  Calls tP 50 #[.slice a len cap] w fun e w' => e = rT (.iface 30 (A B 4)) /\ w' = w := by
 rcases h with h | h
 ·obtain rfl : len = 0 := by omega
  go_enter Tryz.func50, Tryz.ntmps50
  go_wp2
  go_ret
  exact ⟨rfl, rfl⟩
 ·have z0 : decide ((len : Int) < 1) = false := by simp; omega
  have z1 : decide (200 < (len : Int)) = true := by simp; omega
  go_enter Tryz.func50, Tryz.ntmps50
  go_wp2
  go_ret
  exact ⟨rfl, rfl⟩
theorem z5g (bk off len cap : Nat) (C D S O N : Nat -> Int) (R : Nat -> Bool) (w : World) (h1 : 1 <= len) (h2 : len <= 200) (hbk : bk < w.heap.size) (hst : z1l w bk off len C D S R O N) :
    Calls tP 50 #[.slice (some ⟨bk, off, none⟩) len cap] w fun e w' => Below w.heap.size w w' /\
      ((e = rT .nilIface /\ ∀ j, j < len -> z1j len C D S R O N j = 0) \/
       (∃ i p, i < len /\ (∀ j, j < i -> z1j len C D S R O N j = 0) /\ z1j len C D S R O N i ≠ 0 /\ e = rT (.iface 150 (pT (some ⟨p, 0, none⟩))) /\ w.heap.size <= p
          /\ w'.cell? ⟨p, 0, none⟩ = some (A B (z1j len C D S R O N i)) /\ w'.cell? ⟨p, 1, none⟩ = some (A B i))) := by
  have z0 : decide ((len : Int) < 1) = false := by simp; omega
  have z1 : decide (200 < (len : Int)) = false := by simp; omega
  go_enter Tryz.func50, Tryz.ntmps50
  go_wp2
  go_loopw [18] (fun i wr => ∃ k : Nat, k <= len /\ i = A B k /\ Below w.heap.size w wr /\ ∀ j, j < k -> z1j len C D S R O N j = 0) (fun i _ => len - (intOf i).toNat)
  case atStart => exact ⟨0, Nat.zero_le _, rfl, bF _ _, fun j hj => absurd hj (Nat.not_lt_zero _)⟩
  case round =>
    obtain ⟨k, hk, rfl, hb, hno⟩ := hrel
    by_cases hlt : k < len
    · obtain ⟨g0, g1, g2, g3, g4, g5⟩ := hst.later hb hbk k hlt
      have hsz := hb.size
      have HF : Hid (z1j len C D S R O N k = z3x (C k) (D k) (S k) (R k) (O k) (N k) ((len : Int) - 1 - k)) := rfl
      by_cases hw : z3x (C k) (D k) (S k) (R k) (O k) (N k) ((len : Int) - 1 - k) = 0
      · have hw2 : (z3x (C k) (D k) (S k) (R k) (O k) (N k) ((len : Int) - 1 - k) != 0) = false := by simp [hw]
        have HW : Hid (z3x (C k) (D k) (S k) (R k) (O k) (N k) ((len : Int) - 1 - k) = 0) := hw
        clear hw
        go_wp2_with (go_at_call 68; refine (zAn _ _ _ _ _ _ _ _).mono ?_; rintro e w1 ⟨rfl, hb1⟩; obtain ⟨hcl, hfr⟩ := z0h hb1)
        go_roundw
        case rel => exact ⟨k + 1, by omega, by go_num, (hb.alloc hsz _).trans (hb1.mono (by simp; omega)), fun j hj => by
          rcases Nat.lt_succ_iff_lt_or_eq.1 hj with h | h
          · exact hno j h
          · rw [h, HF.out]; exact HW.out⟩
        case measure => simp [intOf]; omega
      · have hw2 : (z3x (C k) (D k) (S k) (R k) (O k) (N k) ((len : Int) - 1 - k) != 0) = true := by simp [hw]
        have HW : Hid (z3x (C k) (D k) (S k) (R k) (O k) (N k) ((len : Int) - 1 - k) ≠ 0) := hw
        clear hw
        go_wp2_with (go_at_call 68; refine (zAn _ _ _ _ _ _ _ _).mono ?_; rintro e w1 ⟨rfl, hb1⟩; obtain ⟨hcl, hfr⟩ := z0h hb1)
        go_ret
        have hb2 : Below w.heap.size w w1 := (hb.alloc hsz _).trans (hb1.mono (by simp; omega))
        refine ⟨hb2.alloc hb2.size _, Or.inr ⟨k, w1.heap.size, hlt, hno, by rw [HF.out]; exact HW.out, rfl, hb2.size, ?_, ?_⟩⟩
        · rw [HF.out, World.cell?_alloc_at _ _ _ _ rfl]; rfl
        · rw [World.cell?_alloc_at _ _ _ _ rfl]; rfl
    · obtain rfl : k = len := by omega
      go_wp2
      go_ret
      exact ⟨hb, Or.inl ⟨rfl, hno⟩⟩
theorem z82 {w w1 : World} {Z : Obj} (h : Below (w.alloc Z).heap.size (w.alloc Z) w1) : Below w.heap.size w w1 :=
 ((bF _ _).alloc (Nat.le_refl _) Z).trans (h.mono (by simp))
theorem zM0 {f : Nat -> Int} {k : Nat} (h : ∀ j, j < k -> f j = 0) (hk : f k = 0) (j : Nat) (hj : j < k + 1) : f j = 0 := by
 rcases Nat.lt_succ_iff_lt_or_eq.1 hj with g | g
 ·exact h j g
 ·rw [g]; exact hk
section
variable {len : Nat} {C D S : Nat -> Int} {R : Nat -> Bool} {O N : Nat -> Int} {k : Nat}
end
end
section
variable {ex : Ext}
def St.zero : St := ⟨0, 0, 0, false, 0, 0⟩
def z92 (x : St) : List UInt8 -> List ByteArray -> Option St
 | p :: ps, b :: bs => if (x.put p.toNat b).1 then z92 (x.put p.toNat b).2 ps bs else none
 | _, _ => some x
def z4x : List ByteArray -> Option St
 | [] => none
 | b :: bs => if z2t b = 0 \/ bs.length ≠ (z1x (z2t b)).length then none else z92 { St.zero with c := z2t b } (z1x (z2t b)) bs
theorem zA3 (b : ByteArray) (bs : List ByteArray) : z4x (b :: bs) = if z2t b = 0 \/ bs.length ≠ (z1x (z2t b)).length then none else z92 { St.zero with c := z2t b } (z1x (z2t b)) bs := rfl
def zA2 : Option St -> Value
 | some x => .tuple #[.agg x.cells, .bool true]
 | none => .tuple #[.agg St.zero.cells, .bool false]
theorem zPm {w : World} {base : Nat} {e : TypeId} {v : Value} {xs : List Value} (h : w.ownsRow base e 1 v 0 xs) : ∃ a c, v = .slice a 0 c := by
 rcases h.2 with ⟨rfl, _⟩ | ⟨g, cap, cur, rfl, _⟩
 ·exact ⟨_, _, rfl⟩
 ·exact ⟨_, _, rfl⟩
theorem zRf (b : ByteArray) : z2t b < 29 := by
 unfold z2t
 cases h : (List.range 29).find? fun k : Nat => decide (zBq k = b) with
 | none => decide
 | some k => exact List.mem_range.1 (List.mem_of_find?_eq_some h)
theorem z5l (s : ByteArray) : ∀ (f : Nat) (st : Option Nat) (i : Nat), ∀ x ∈ z0u s f st i, x.size <= s.size
 | 0, st, _, x, hx => by
  cases st with
  | none => simp [z0u, z96] at hx
  | some a => simp [z0u, z96] at hx; subst hx; rw [ByteArray.size_extract]; omega
 | f + 1, st, i, x, hx => by
  by_cases h : i < s.size
  ·by_cases hr : (Lib.decodeGo (s.extract i s.size)).1 = 32
   ·cases st with
    | none => rw [z57 h hr] at hx; exact z5l s f _ _ x hx
    | some a =>
     rw [z9a h hr] at hx
     rcases List.mem_cons.1 hx with rfl | hx
     ·rw [ByteArray.size_extract]; omega
     ·exact z5l s f _ _ x hx
   ·rw [zBe h hr] at hx; exact z5l s f _ _ x hx
  ·rw [zDb h] at hx
   cases st with
   | none => simp [z96] at hx
   | some a => simp [z96] at hx; subst hx; rw [ByteArray.size_extract]; omega
theorem z2w.iter {w : World} {b k pos pos' : Nat} {p : ByteArray} {x : St} (h : z2w w b x) (hit : w.heap[k]? = some (.stringIter p pos)) : z2w (w.iterAt k p pos') b x := by
 have h' : w.heap[b]? = some (cT x.cells 80 (0, 0)) := h
 show (w.iterAt k p pos').heap[b]? = _
 rw [Lib.iterAt_other w k b p pos' (fun e => by rw [e, hit] at h'; cases h')]; exact h'
def ZeroAt (w : World) (b : Nat) : Prop := w.cell? ⟨b, 0, none⟩ = some (A B 0) /\ w.cell? ⟨b, 1, none⟩ = some (A B 0) /\ w.cell? ⟨b, 2, none⟩ = some (A B 0) /\ w.cell? ⟨b, 3, none⟩ = some (.bool false) /\ w.cell? ⟨b, 4, none⟩ = some (A B 0) /\ w.cell? ⟨b, 5, none⟩ = some (A B 0)
 /\ w.frozen? ⟨b, 0, none⟩ = false /\ w.frozen? ⟨b, 1, none⟩ = false /\ w.frozen? ⟨b, 2, none⟩ = false /\ w.frozen? ⟨b, 3, none⟩ = false /\ w.frozen? ⟨b, 4, none⟩ = false /\ w.frozen? ⟨b, 5, none⟩ = false
theorem z4v {w : World} {b : Nat} (h : z2w w b St.zero) : ZeroAt w b := ⟨h.cell 0, h.cell 1, h.cell 2, h.cell 3, h.cell 4, h.cell 5, h.frozen 0, h.frozen 1, h.frozen 2, h.frozen 3, h.frozen 4, h.frozen 5⟩
theorem z9g (w : World) : z2w (w.alloc (cT St.zero.cells 80)) w.heap.size St.zero := by
 show (w.heap.push _)[w.heap.size]? = _
 simp
section
theorem zAc (he : ∀ w, ex.holds w -> z36 w) (hu : ∀ w, ex.holds w -> Lib.Utf8Tabs 4 5 w) (s : ByteArray) (hs : s.size <= 100000) (w : World) (hT : Tabs ex w) :
  Calls tP 49 #[.string s] w fun e w' => e = rT (zA2 (z4x ((z0z s).take 5))) /\ Below w.heap.size w w' := by
 have hF := Fine.start hT
 have hF0 := hF.alloc (cT St.zero.cells 80)
 cases hws : (z0z s).take 5 with
 | nil =>
  go_enter Tryz.func49, Tryz.ntmps49
  go_wp2_with (first
   | (go_at_call 62; refine (zF3 hu s hs _ hF0.tabs).mono ?_; rintro e w1 ⟨v, rfl, hown, hb1⟩; rw [hws] at hown; obtain ⟨a, c, rfl⟩ := zPm hown; have hz1 := (z9g w).later hb1; have hlt := hz1.lt; obtain ⟨q0, q1, q2, q3, q4, q5, z0, z1, z2, z3, z4, z5⟩ := z4v hz1)
   | go_in)
  exact bodyPost_ret (v := .tuple #[.agg St.zero.cells, .bool false]) (by simp [results, Tryz.results49, go_sem, hlt, q0, q1, q2, q3, q4, q5, St.cells, St.zero]) rfl
   ⟨rfl, (((((((z82 hb1).setCell (Nat.le_refl _) _).setCell (Nat.le_refl _) _).setCell (Nat.le_refl _) _).setCell (Nat.le_refl _) _).setCell (Nat.le_refl _) _).setCell (Nat.le_refl _) _).alloc (by simp; omega) _⟩
 | cons b bs =>
  have x0 : ((bs.length : Int) + 1 == 0) = false := by simp; omega
  have hbl : bs.length <= 4 := by
   have := List.length_take_le 5 (z0z s)
   rw [hws] at this; simp at this; omega
  have hcod : z2t b < 29 := zRf b
  have hps := zIh (z2t b)
  have hpf := zPk (z2t b)
  obtain ⟨c, hc⟩ : ∃ c, c = z2t b := ⟨_, rfl⟩
  have HC : Hid (c = z2t b) := hc
  rw [<- hc] at hcod hps hpf
  clear hc
  have hpz : (z2o c).size <= 3 := by omega
  have HPS : Hid ((z2o c).size = (z1x c).length) := hps
  clear hps
  by_cases hbad : c = 0 \/ bs.length ≠ (z1x c).length
  ·have HN : Hid (zA2 (z4x (b :: bs)) = .tuple #[.agg St.zero.cells, .bool false]) := by
    show zA2 (z4x (b :: bs)) = _
    rw [zA3, <- HC.out, if_pos hbad]; rfl
   by_cases hc0 : c = 0
   ·have hq0 : ((c : Int) == 0) = true := by simp [hc0]
    clear hbad hc0
    go_enter Tryz.func49, Tryz.ntmps49
    go_wp2_with (first
     | (go_at_call 62; refine (zF3 hu s hs _ hF0.tabs).mono ?_; rintro e w1 ⟨v, rfl, hown, hb1⟩; rw [hws] at hown; obtain ⟨g, cp, rfl⟩ := zAk hown (by simp); have hz1 := (z9g w).later hb1; have hlt := hz1.lt; obtain ⟨q0, q1, q2, q3, q4, q5, z0, z1, z2, z3, z4, z5⟩ := z4v hz1; have hg0 : w1.cell? ⟨g, 0, none⟩ = some (.string b) := hown.cellAt 0 (by simp); have hgl : g < w1.heap.size := Lib.lt_of_cell hg0; have hF1 := hF0.call hb1)
     | (go_at_call 64; refine (z8t _ _ (hF1.alloc _).tabs).mono ?_; rintro e w2 ⟨rfl, rfl⟩; rw [<- HC.out])
     | (go_at_call 65; refine (zAj _ _).mono ?_; rintro e w2 ⟨rfl, rfl⟩)
     | go_in)
    rw [HN.out]
    exact bodyPost_ret (v := .tuple #[.agg St.zero.cells, .bool false]) (by simp [results, Tryz.results49, go_sem, hlt, q0, q1, q2, q3, q4, q5, St.cells, St.zero]) rfl
     ⟨rfl, ((((((((z82 hb1).setCell (Nat.le_refl _) _).setCell (Nat.le_refl _) _).setCell (Nat.le_refl _) _).setCell (Nat.le_refl _) _).setCell (Nat.le_refl _) _).setCell (Nat.le_refl _) _).alloc (by simp; omega) _).alloc (by simp; omega) _⟩
   ·have hq0 : ((c : Int) == 0) = false := by simp; omega
    have hl2 : ((bs.length : Int) + 1 == 1 + ((z2o c).size : Int)) = false := by
     have h1 := HPS.out
     have h2 : bs.length ≠ (z1x c).length := hbad.resolve_left hc0
     rw [h1]; simp; omega
    clear hbad hc0
    go_enter Tryz.func49, Tryz.ntmps49
    go_wp2_with (first
     | (go_at_call 62; refine (zF3 hu s hs _ hF0.tabs).mono ?_; rintro e w1 ⟨v, rfl, hown, hb1⟩; rw [hws] at hown; obtain ⟨g, cp, rfl⟩ := zAk hown (by simp); have hz1 := (z9g w).later hb1; have hlt := hz1.lt; obtain ⟨q0, q1, q2, q3, q4, q5, z0, z1, z2, z3, z4, z5⟩ := z4v hz1; have hg0 : w1.cell? ⟨g, 0, none⟩ = some (.string b) := hown.cellAt 0 (by simp); have hgl : g < w1.heap.size := Lib.lt_of_cell hg0; have hF1 := hF0.call hb1)
     | (go_at_call 64; refine (z8t _ _ (hF1.alloc _).tabs).mono ?_; rintro e w2 ⟨rfl, rfl⟩; rw [<- HC.out])
     | (go_at_call 65; refine (zAj _ _).mono ?_; rintro e w2 ⟨rfl, rfl⟩)
     | go_in)
    rw [HN.out]
    exact bodyPost_ret (v := .tuple #[.agg St.zero.cells, .bool false]) (by simp [results, Tryz.results49, go_sem, hlt, q0, q1, q2, q3, q4, q5, St.cells, St.zero]) rfl
     ⟨rfl, ((((((((z82 hb1).setCell (Nat.le_refl _) _).setCell (Nat.le_refl _) _).setCell (Nat.le_refl _) _).setCell (Nat.le_refl _) _).setCell (Nat.le_refl _) _).setCell (Nat.le_refl _) _).alloc (by simp; omega) _).alloc (by simp; omega) _⟩
  ·have hc0 : ((c : Int) == 0) = false := by simp; omega
   have hl : bs.length = (z1x c).length := by omega
   have hl2 : ((bs.length : Int) + 1 == 1 + ((z2o c).size : Int)) = true := by rw [HPS.out, hl]; simp; omega
   have HL : Hid (bs.length = (z1x c).length) := hl
   have hc1 : 1 <= c := by omega
   clear hl hbad
   go_enter Tryz.func49, Tryz.ntmps49
   go_wp2_with (first
    | (go_at_call 62; refine (zF3 hu s hs _ hF0.tabs).mono ?_; rintro e w1 ⟨v, rfl, hown, hb1⟩; rw [hws] at hown; obtain ⟨g, cp, rfl⟩ := zAk hown (by simp); have hz1 := (z9g w).later hb1; have hlt := hz1.lt; obtain ⟨q0, q1, q2, q3, q4, q5, z0, z1, z2, z3, z4, z5⟩ := z4v hz1; have hg0 : w1.cell? ⟨g, 0, none⟩ = some (.string b) := hown.cellAt 0 (by simp); have hgl : g < w1.heap.size := Lib.lt_of_cell hg0; have hF1 := hF0.call hb1)
    | (go_at_call 64; refine (z8t _ _ (hF1.alloc _).tabs).mono ?_; rintro e w2 ⟨rfl, rfl⟩; rw [<- HC.out])
    | (go_at_call 65; refine (zAj _ _).mono ?_; rintro e w2 ⟨rfl, rfl⟩)
    | go_in)
   have HS : Hid (z4x (b :: bs) = z92 { St.zero with c := (c : Int) } (z1x c) bs) := by
    show z4x (b :: bs) = _
    rw [zA3, <- HC.out, if_neg (by have := HL.out; omega)]
   have hroom := hT.room
   have hw1 : w.heap.size <= w1.heap.size := by omega
   have hgk : ∀ (k : Nat) (bk : ByteArray), bs[k]? = some bk -> w1.cell? ⟨g, k + 1, none⟩ = some (.string bk) := fun k bk hk => by
    have hkl : k < bs.length := (List.getElem?_eq_some_iff.1 hk).1
    rw [hown.cellAt (k + 1) (by simp; omega)]
    simp [hk]
   have hbz : ∀ (k : Nat) (bk : ByteArray), bs[k]? = some bk -> bk.size <= 100000 := fun k bk hk => by
    have : bk ∈ (z0z s).take 5 := by rw [hws]; exact mcO _ (List.mem_of_getElem? hk)
    exact Nat.le_trans (z5l s _ _ _ bk (List.mem_of_mem_take this)) hs
   go_loopw [] (fun wr => ∃ (k : Nat) (x : St), k <= (z1x c).length /\ z2w wr (w1.heap.size + 1) x /\ z92 x ((z1x c).drop k) (bs.drop k) = z92 { St.zero with c := (c : Int) } (z1x c) bs /\ wr.heap[w1.heap.size + 2]? = some (.stringIter (z2o c) k)
     /\ Below (w1.heap.size + 1) (w1.alloc (cT #[.slice (some ⟨g, 0, none⟩) (bs.length + 1) cp] 192)) wr /\ Tabs ex wr) (fun wr => (z1x c).length - wr.iterPos (w1.heap.size + 2))
   case atStart =>
    refine ⟨0, { St.zero with c := (c : Int) }, Nat.zero_le _, ?_, rfl, ?_, ?_, ?_⟩
    ·have h := World.alloc_heap_new (w1.alloc (cT #[.slice (some ⟨g, 0, none⟩) (bs.length + 1) cp] 192)) (cT ({ St.zero with c := (c : Int) } : St).cells 80)
     rw [World.size_alloc] at h
     exact (Below.heap_alloc _ _ _ (by simp)).trans h
    ·have h := World.iter_heap ((w1.alloc (cT #[.slice (some ⟨g, 0, none⟩) (bs.length + 1) cp] 192)).alloc (cT #[A B c, A B 0, A B 0, .bool false, A B 0, A B 0] 80)) (z2o c) 0
     simpa using h
    ·exact ((bF _ _).alloc (by simp) _).alloc (by simp) _
    ·exact (((hF1.alloc _).alloc _).alloc _).tabs
   case round =>
    obtain ⟨k, x, hk, hsx, hput, hit, hbel, hTr⟩ := hrel
    have hbox : wr.cell? ⟨w1.heap.size, 0, none⟩ = some (.slice (some ⟨g, 0, none⟩) (bs.length + 1) cp) := (hbel.cell (p := ⟨w1.heap.size, 0, none⟩) (by simp)).trans (by simp)
    have hzr : z2w wr w.heap.size St.zero := (hbel.block _ (by omega)).trans ((Below.heap_alloc _ _ _ (by omega)).trans hz1)
    by_cases hp : k < (z1x c).length
    ·have hp' : k < (z2o c).size := by rw [HPS.out]; exact hp
     have hasc := zIg c _ (List.getElem_mem hp)
     have hkb : k < bs.length := by rw [HL.out]; exact hp
     obtain ⟨bk, hbk⟩ : ∃ bk, bs[k]? = some bk := ⟨_, List.getElem?_eq_getElem hkb⟩
     obtain ⟨p, hpe⟩ : ∃ p : Nat, p = ((z1x c)[k]'hp).toNat := ⟨_, rfl⟩
     have hpp : p = 100 \/ p = 115 \/ p = 111 \/ p = 102 \/ p = 116 \/ p = 99 := by
      rcases hasc with h | h | h | h | h | ⟨h, _⟩
      all_goals rw [h] at hpe
      ·exact Or.inl hpe
      ·exact Or.inr (Or.inl hpe)
      ·exact Or.inr (Or.inr (Or.inl hpe))
      ·exact Or.inr (Or.inr (Or.inr (Or.inl hpe)))
      ·exact Or.inr (Or.inr (Or.inr (Or.inr (Or.inl hpe))))
      ·exact Or.inr (Or.inr (Or.inr (Or.inr (Or.inr hpe))))
     have hpa : ((z2o c)[k]'hp').toNat = p := by rw [zMm, hpe]
     have hnx : ∀ ty, (Instr.next (pT (some ⟨w1.heap.size + 1 + 1, 0, none⟩)) true ty).run tP wr = .ok (.tuple #[.bool true, A B k, .int .i32 p]) (wr.iterAt (w1.heap.size + 2) (z2o c) (k + 1)) := fun ty => by
      have := Lib.run_next_ascii_at (P := tP) wr (w1.heap.size + 2) (z2o c) k ty hit hp' (by rw [hpa]; omega)
      rw [hpa] at this; exact this
     have hd1 : (z1x c).drop k = ((z1x c)[k]'hp) :: (z1x c).drop (k + 1) := List.drop_eq_getElem_cons hp
     have hd2 : bs.drop k = bk :: bs.drop (k + 1) := by
      rw [List.drop_eq_getElem_cons hkb]
      congr 1
      exact Option.some.inj ((List.getElem?_eq_getElem hkb).symm.trans hbk)
     have HP : Hid ((if (x.put p bk).1 then z92 (x.put p bk).2 ((z1x c).drop (k + 1)) (bs.drop (k + 1)) else none) = z92 { St.zero with c := (c : Int) } (z1x c) bs) := by
      rw [hd1, hd2] at hput
      rw [hpe]; exact hput
     have hbk1 := hbz k bk hbk
     have hsI := hsx.iter (pos' := k + 1) hit
     have hbel2 := Lib.below_iterAt hbel (k := w1.heap.size + 2) (by omega) (z2o c) (k + 1)
     have hTi : Tabs ex (wr.iterAt (w1.heap.size + 2) (z2o c) (k + 1)) := hTr.on (Lib.below_iterAt (bF (w1.heap.size + 1) _) (k := w1.heap.size + 2) (by omega) (z2o c) (k + 1)) (by omega)
     have hbox2 : (wr.iterAt (w1.heap.size + 2) (z2o c) (k + 1)).cell? ⟨w1.heap.size, 0, none⟩ = some (.slice (some ⟨g, 0, none⟩) (bs.length + 1) cp) := (hbel2.cell (p := ⟨w1.heap.size, 0, none⟩) (by simp)).trans (by simp)
     have hwd : (wr.iterAt (w1.heap.size + 2) (z2o c) (k + 1)).cell? ⟨g, 1 + k, none⟩ = some (.string bk) := (hbel2.cell (p := ⟨g, 1 + k, none⟩) (by show g < _; omega)).trans ((World.cell?_alloc_past _ _ _ hgl).trans (by rw [Nat.add_comm]; exact hgk k bk hbk))
     have hit2 := Lib.iterAt_heap wr (w1.heap.size + 2) (z2o c) k (k + 1) hit
     have hpos : wr.iterPos (w1.heap.size + 2) = k := by simp only [World.iterPos, hit]
     clear hasc hpe hpa hd1 hd2 hput hp' hgk hbz hbk
     by_cases hok : (x.put p bk).1 = true
     ·go_wp2_with (go_at_call 66; refine (zPe he bk hbk1 (by omega) p hpp hsI hTi).mono ?_; rintro e w2 ⟨rfl, hg2, hs2⟩)
      have hlt2 : w1.heap.size + 2 < wr.heap.size := (Array.getElem?_eq_some_iff.1 hit).1
      have hit3 : w2.heap[w1.heap.size + 2]? = some (.stringIter (z2o c) (k + 1)) := (hg2.block _ (by rw [Lib.iterAt_size]; exact hlt2) (fun e => by have := Option.some.inj e; omega)).trans hit2
      have hbel3 : Below (w1.heap.size + 1) (w1.alloc (cT #[.slice (some ⟨g, 0, none⟩) (bs.length + 1) cp] 192)) w2 := hbel2.trans ⟨hg2.os, hg2.tape, hg2.output, hg2.size, fun j hj => hg2.block j (by rw [Lib.iterAt_size]; omega) (fun e => by have := Option.some.inj e; omega)⟩
      have hT3 := hTi.on_grown hg2 (by omega)
      clear hbox2 hwd hit2 hbel2 hTi hsI hnx hit hbel hTr hg2 hbox
      go_wp2
      go_roundw
      case rel => first | exact ⟨k + 1, (x.put p bk).2, by omega, hs2, by have h := HP.out; rw [if_pos hok] at h; exact h, hit3, hbel3, hT3⟩ | ((repeat apply Exists.intro); exact ⟨⟨k + 1, (x.put p bk).2, by omega, hs2, by have h := HP.out; rw [if_pos hok] at h; exact h, hit3, hbel3, hT3⟩, rfl⟩)
      case measure => simp only [World.iterPos, hit3] at hpos ⊢; omega
     ·have hok' : (x.put p bk).1 = false := by simpa using hok
      clear hok
      have HN : Hid (zA2 (z4x (b :: bs)) = .tuple #[.agg St.zero.cells, .bool false]) := by
       have h := HP.out
       rw [if_neg (by simp [hok'])] at h
       show zA2 (z4x (b :: bs)) = _
       rw [HS.out, <- h]; rfl
      go_wp2_with (go_at_call 66; refine (zPe he bk hbk1 (by omega) p hpp hsI hTi).mono ?_; rintro e w2 ⟨rfl, hg2, hs2⟩; have hz2 : z2w w2 w.heap.size St.zero := (hg2.block _ (by rw [Lib.iterAt_size]; exact hzr.lt) (fun e => by have := Option.some.inj e; omega)).trans (hzr.iter hit); obtain ⟨q0', q1', q2', q3', q4', q5', z0', z1', z2', z3', z4', z5'⟩ := z4v hz2)
      have hbw : Below w.heap.size w w2 := (z82 hb1).trans ((((bF _ w1).alloc hw1 _).trans (hbel2.mono (by omega))).trans ⟨hg2.os, hg2.tape, hg2.output, hg2.size, fun j hj => hg2.block j (by rw [Lib.iterAt_size]; have := hzr.lt; omega) (fun e => by have := Option.some.inj e; omega)⟩)
      rw [HN.out]
      exact bodyPost_ret (v := .tuple #[.agg St.zero.cells, .bool false]) (by simp [results, Tryz.results49, go_sem, q0', q1', q2', q3', q4', q5', St.cells, St.zero]) rfl
       ⟨rfl, (((((hbw.setCell (Nat.le_refl _) _).setCell (Nat.le_refl _) _).setCell (Nat.le_refl _) _).setCell (Nat.le_refl _) _).setCell (Nat.le_refl _) _).setCell (Nat.le_refl _) _⟩
    ·have hkk : k = (z1x c).length := by omega
     have HN : Hid (zA2 (z4x (b :: bs)) = .tuple #[.agg x.cells, .bool true]) := by
      show zA2 (z4x (b :: bs)) = _
      rw [HS.out, <- hput, hkk, List.drop_length]; rfl
     have hnx : ∀ ty, (Instr.next (pT (some ⟨w1.heap.size + 1 + 1, 0, none⟩)) true ty).run tP wr = .ok (.tuple #[.bool false]) wr := fun ty => Lib.run_next_end_at (P := tP) wr (w1.heap.size + 2) (z2o c) _ ty hit (by rw [HPS.out]; exact hp)
     obtain ⟨q0', q1', q2', q3', q4', q5', z0', z1', z2', z3', z4', z5'⟩ := z4v hzr
     have s0 := hsx.cell 0
     have s1 := hsx.cell 1
     have s2 := hsx.cell 2
     have s3 := hsx.cell 3
     have s4 := hsx.cell 4
     have s5 := hsx.cell 5
     simp only [St.cells] at s0 s1 s2 s3 s4 s5
     have hbw : Below w.heap.size w wr := (z82 hb1).trans (((bF _ w1).alloc hw1 _).trans (hbel.mono (by omega)))
     clear hput hkk hp hgk hbz
     go_wp2
     rw [HN.out]
     exact bodyPost_ret (v := .tuple #[.agg x.cells, .bool true]) (by simp [results, Tryz.results49, go_sem, q0', q1', q2', q3', q4', q5', St.cells]) rfl
      ⟨rfl, (((((hbw.setCell (Nat.le_refl _) _).setCell (Nat.le_refl _) _).setCell (Nat.le_refl _) _).setCell (Nat.le_refl _) _).setCell (Nat.le_refl _) _).setCell (Nat.le_refl _) _⟩
end
end
end Go.Proofs.YtbimlalhodibjaaGreatDoor
