/-
  A program at its first step. Conditions: none.
-/
import Derived.Test.YtegeiicginpdbaaDoorMachMem
namespace Go.Proofs.YtegeiicginpdbaaDoor
open Go.ChangeShapes Go.WideShapes Go.ChangeAt Go.RowKit
attribute [local simp] drew_size drewN_size setCell_size
def mac0 (T K : Nat → Int) (time : Int) : Mac := ⟨0, 0, fun _ => none0, fun _ => none0, T, K, time, .slice none 0 0⟩
def cells0 (z : Array Value) (T K : Nat → Int) (time : Int) : Array Value :=
  ((((((((((((((((((((((((((((((z.setIfInBounds 83 (.int .i64 (T 0))).setIfInBounds 84 (.int .i64 (T 1))).setIfInBounds 85 (.int .i64 (T 2))).setIfInBounds 86 (.int .i64 (T 3))).setIfInBounds 87 (.int .i64 (T 4))).setIfInBounds 88 (.int .i64 (T 5))).setIfInBounds 89 (.int .i64 (T 6))).setIfInBounds 90 (.int .i64 (T 7))).setIfInBounds 91 (.int .i64 (K 0))).setIfInBounds 92 (.int .i64 (K 1))).setIfInBounds 93 (.int .i64 (K 2))).setIfInBounds 94 (.int .i64 (K 3))).setIfInBounds 95 (.int .i64 (K 4))).setIfInBounds 96 (.int .i64 (K 5))).setIfInBounds 97 (.int .i64 (K 6))).setIfInBounds 98 (.int .i64 (K 7))).setIfInBounds 99 (.int .i64 (K 8))).setIfInBounds 100 (.int .i64 (K 9))).setIfInBounds 101 (.int .i64 (K 10))).setIfInBounds 102 (.int .i64 (K 11))).setIfInBounds 103 (.int .i64 (K 12))).setIfInBounds 104 (.int .i64 (K 13))).setIfInBounds 105 (.int .i64 (K 14))).setIfInBounds 106 (.int .i64 (K 15))).setIfInBounds 107 (.int .i64 time)).setIfInBounds 5 (.int .i64 2)).setIfInBounds 6 (.int .i64 0)).setIfInBounds 7 (.int .i64 0)).setIfInBounds 32 (.int .i64 3)).setIfInBounds 33 (.int .i64 0)).setIfInBounds 34 (.int .i64 0)
def start (T K : Nat → Int) (time : Int) : Mac := ((mac0 T K time).putReg 1 ⟨2, 0, 0⟩).putReg 10 ⟨3, 0, 0⟩
theorem cells0_is (T K : Nat → Int) (time : Int) : cells0 Tryd.zeroCells122 T K time = Array.ofFn (n := 109) fun i => (start T K time).cell i.1 := by
  kernel_rfl
theorem start_at (w : World) (T K : Nat → Int) (time : Int) : MacAt (w.alloc (.cells (cells0 Tryd.zeroCells122 T K time) 122)) w.heap.size (start T K time) := by
  rw [cells0_is]
  show (w.heap.push _)[w.heap.size]? = _
  simp
set_option maxHeartbeats 4000000 in
set_option maxRecDepth 100000 in
theorem begin_all (T K : Nat → Int) (time : Int) (w : World) :
    Calls Tryd.prog 62 #[.agg #[.int .i64 (T 0), .int .i64 (T 1), .int .i64 (T 2), .int .i64 (T 3), .int .i64 (T 4), .int .i64 (T 5), .int .i64 (T 6), .int .i64 (T 7)], .agg #[.int .i64 (K 0), .int .i64 (K 1), .int .i64 (K 2), .int .i64 (K 3), .int .i64 (K 4), .int .i64 (K 5), .int .i64 (K 6), .int .i64 (K 7), .int .i64 (K 8), .int .i64 (K 9), .int .i64 (K 10), .int .i64 (K 11), .int .i64 (K 12), .int .i64 (K 13), .int .i64 (K 14), .int .i64 (K 15)], .int .i64 time] w fun e w' => e = .returned (.pointer (some ⟨w.heap.size + 1 + 1, 0, none⟩)) ∧ Below w.heap.size w w' ∧ MacAt w' (w.heap.size + 1 + 1) (start T K time) := by
  go_enter Tryd.func62, Tryd.ntmps62
  go_wp2
  go_ret
  refine ⟨rfl, ?_, ?_⟩
  · repeat' first | with_reducible exact Below.refl _ _ | with_reducible refine Below.alloc ?_ ?_ _ | with_reducible refine Below.setCell ?_ ?_ _ | ((try dsimp only); omega) | (simp; done) | (simp; omega)
  · have h := start_at ((w.alloc (.cells #[.int .i64 (T 0), .int .i64 (T 1), .int .i64 (T 2), .int .i64 (T 3), .int .i64 (T 4), .int .i64 (T 5), .int .i64 (T 6), .int .i64 (T 7)] 58)).alloc (.cells #[.int .i64 (K 0), .int .i64 (K 1), .int .i64 (K 2), .int .i64 (K 3), .int .i64 (K 4), .int .i64 (K 5), .int .i64 (K 6), .int .i64 (K 7), .int .i64 (K 8), .int .i64 (K 9), .int .i64 (K 10), .int .i64 (K 11), .int .i64 (K 12), .int .i64 (K 13), .int .i64 (K 14), .int .i64 (K 15)] 61)) T K time
    simp only [World.size_alloc] at h
    exact h
end Go.Proofs.YtegeiicginpdbaaDoor
