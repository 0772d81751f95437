/-
  From the reading of a list of steps to its cells: each step's six fields lie one behind the other, and its numbers are of 64 bits. Conditions: none.
-/
import Derived.Test.YtegeiicginpdbaaGreatDoorWords
import Derived.Test.YtegeiicginpdbaaGreatDoorCheck
import Derived.Deep.Slices
import Derived.ChangeSame
import Derived.ChangeVars
import Derived.ChangeOld
namespace Go.Proofs.YtegeiicginpdbaaGreatDoor
open Go.ChangeShapes Go.WideShapes Go.ChangeAt Go.RowKit

/-! ### From the reading to the cells -/
/-- What the walk is told of a list that came in: it is empty, or there are steps in a block, with numbers of 64 bits. -/
def IsStepsF (w : World) (a : Option Addr) (len : Nat) : Prop :=
  len = 0 ∨ ∃ (bk off : Nat) (C D S O N : Nat → Int) (R : Nat → Bool), a = some ⟨bk, off, none⟩ ∧ bk < w.heap.size ∧ StepsAt w bk off len C D S R O N ∧ ∀ i, i < len → Fits (O i) ∧ Fits (N i)
theorem fits_of {n : Int} (h : (Lit.int .i64 n).wf = true) : Fits n := by
  have h' : (decide (-9223372036854775808 ≤ n) && decide (n ≤ 9223372036854775807)) = true := h
  simp at h'
  exact h'
theorem open_cells_at {w : World} {base : Nat} {a : Addr} {n : Nat} {cs : List Value} (h : w.cells? base a n = some cs) (i : Nat) (hi : i < n) : w.cell? (a.add i) = cs[i]? := by
  unfold World.cells? at h
  split at h
  · exact mapM_some_get h i i (by simp [hi])
  · cases h
theorem six {l : List Value} (h : l.length = 6) : ∃ a b c d e f, l = [a, b, c, d, e, f] := by
  match l, h with
  | [a, b, c, d, e, f], _ => exact ⟨a, b, c, d, e, f, rfl⟩
section
variable {H : Type} {enc : TypeId × Value → H} {w : World}
theorem step_open {n : Nat} {cs : List Value} {x : DataW H × List MemPlace} (h : DataW.trod enc Tryz.prog w 0 (fun _ => true) true n 49 cs = some x) :
    ∃ y : Int × Int × Int × Bool × Int × Int, cs = [.int .i64 y.1, .int .i64 y.2.1, .int .i64 y.2.2.1, .bool y.2.2.2.1, .int .i64 y.2.2.2.2.1, .int .i64 y.2.2.2.2.2] ∧ Fits y.2.2.2.2.1 ∧ Fits y.2.2.2.2.2 := by
  obtain ⟨xs, m, _, _, hl, hx, hf⟩ := DataW.trod_struct Tryz.underlying49 h
  have hl6 : cs.length = 6 := by rw [hl]; kernel_rfl
  have hx6 : xs.length = 6 := hx
  obtain ⟨a, b, c, d, e, f, rfl⟩ := six hl6
  have k3 : Tryz.prog.cellsOf 3 = 1 := by kernel_rfl
  have k2 : Tryz.prog.cellsOf 2 = 1 := by kernel_rfl
  have k4 : Tryz.prog.cellsOf 4 = 1 := by kernel_rfl
  have at_ : ∀ i, i < 6 → ∃ y, xs[i]? = some y := fun i hi => ⟨xs[i]'(by omega), List.getElem?_eq_getElem _⟩
  obtain ⟨y0, e0⟩ := at_ 0 (by decide)
  obtain ⟨y1, e1⟩ := at_ 1 (by decide)
  obtain ⟨y2, e2⟩ := at_ 2 (by decide)
  obtain ⟨y3, e3⟩ := at_ 3 (by decide)
  obtain ⟨y4, e4⟩ := at_ 4 (by decide)
  obtain ⟨y5, e5⟩ := at_ 5 (by decide)
  have f0 : DataW.trod enc Tryz.prog w 0 (fun _ => true) true m 3 (([a, b, c, d, e, f].drop 0).take (Tryz.prog.cellsOf 3)) = some y0 := (hf 0 _ rfl).trans e0
  have f1 : DataW.trod enc Tryz.prog w 0 (fun _ => true) true m 3 (([a, b, c, d, e, f].drop 1).take (Tryz.prog.cellsOf 3)) = some y1 := (hf 1 _ rfl).trans e1
  have f2 : DataW.trod enc Tryz.prog w 0 (fun _ => true) true m 3 (([a, b, c, d, e, f].drop 2).take (Tryz.prog.cellsOf 3)) = some y2 := (hf 2 _ rfl).trans e2
  have f3 : DataW.trod enc Tryz.prog w 0 (fun _ => true) true m 4 (([a, b, c, d, e, f].drop 3).take (Tryz.prog.cellsOf 4)) = some y3 := (hf 3 _ rfl).trans e3
  have f4 : DataW.trod enc Tryz.prog w 0 (fun _ => true) true m 3 (([a, b, c, d, e, f].drop 4).take (Tryz.prog.cellsOf 3)) = some y4 := (hf 4 _ rfl).trans e4
  have f5 : DataW.trod enc Tryz.prog w 0 (fun _ => true) true m 2 (([a, b, c, d, e, f].drop 5).take (Tryz.prog.cellsOf 2)) = some y5 := (hf 5 _ rfl).trans e5
  rw [k3] at f0 f1 f2 f4
  rw [k4] at f3
  rw [k2] at f5
  obtain ⟨n0, g0, _, _⟩ := DataW.trod_int Tryz.underlying3 f0
  obtain ⟨n1, g1, _, _⟩ := DataW.trod_int Tryz.underlying3 f1
  obtain ⟨n2, g2, _, _⟩ := DataW.trod_int Tryz.underlying3 f2
  obtain ⟨n3, g3, _⟩ := DataW.trod_bool Tryz.underlying4 f3
  obtain ⟨n4, g4, _, b4⟩ := DataW.trod_int Tryz.underlying3 f4
  obtain ⟨n5, g5, _, b5⟩ := DataW.trod_int Tryz.underlying2 f5
  simp at g0 g1 g2 g3 g4 g5
  exact ⟨(n0, n1, n2, n3, n4, n5), by rw [g0, g1, g2, g3, g4, g5], fits_of b4, fits_of b5⟩
theorem steps_open {a : Option Addr} {len cap : Nat} {d : DataW H} {ps : List MemPlace} (h : DataW.Trod enc Tryz.prog w 0 (fun _ => true) true 22 (.slice a len cap) d ps) : IsStepsF w a len := by
  obtain ⟨fuel, hf⟩ := h
  rcases Deep.open_slice Tryz.underlying22 hf with ⟨hcs, _⟩ | ⟨x, l, c, m, n, Da, Pl, hcs, _, hl, hm, hmm, _, hx⟩
  · simp [Value.cells] at hcs
    exact Or.inl hcs.2.1
  · simp [Value.cells] at hcs
    obtain ⟨rfl, rfl, rfl⟩ := hcs
    by_cases h0 : len = 0
    · exact Or.inl h0
    have hc6 : Tryz.prog.cellsOf 49 = 6 := by kernel_rfl
    have all : ∀ i, ∃ y : Int × Int × Int × Bool × Int × Int, i < len → (∀ j, j < 6 → w.cell? ((x.add (i * 6)).add j) = [Value.int .i64 y.1, .int .i64 y.2.1, .int .i64 y.2.2.1, .bool y.2.2.2.1, .int .i64 y.2.2.2.2.1, .int .i64 y.2.2.2.2.2][j]?) ∧ Fits y.2.2.2.2.1 ∧ Fits y.2.2.2.2.2 := by
      intro i
      by_cases hi : i < len
      · have him : i < m := by rw [hmm]; simp; omega
        obtain ⟨cs, hcc, ht⟩ := hx i him
        rw [hc6] at hcc
        obtain ⟨y, hy, hf4, hf5⟩ := step_open ht
        refine ⟨y, fun _ => ⟨fun j hj => ?_, hf4, hf5⟩⟩
        rw [← hy]
        exact open_cells_at hcc j hj
      · exact ⟨(0, 0, 0, false, 0, 0), fun h => absurd h hi⟩
    obtain ⟨f, hf'⟩ := Classical.axiomOfChoice all
    obtain ⟨b, off, spot⟩ := x
    have hc0 := (hf' 0 (by omega)).1 0 (by decide)
    have hspot : spot = none := by simpa [Addr.add] using World.cell?_spot hc0
    subst hspot
    have hb : b < w.heap.size := by
      rcases Nat.lt_or_ge b w.heap.size with g | g
      · exact g
      · simp [World.cell?, Addr.add, Array.getElem?_eq_none g] at hc0
    refine Or.inr ⟨b, off, fun i => (f i).1, fun i => (f i).2.1, fun i => (f i).2.2.1, fun i => (f i).2.2.2.2.1, fun i => (f i).2.2.2.2.2, fun i => (f i).2.2.2.1, rfl, hb, fun i hi => ?_, fun i hi => (hf' i hi).2⟩
    have g : ∀ j, j < 6 → w.cell? ⟨b, off + i * 6 + j, none⟩ = [Value.int .i64 (f i).1, .int .i64 (f i).2.1, .int .i64 (f i).2.2.1, .bool (f i).2.2.2.1, .int .i64 (f i).2.2.2.2.1, .int .i64 (f i).2.2.2.2.2][j]? := fun j hj => by
      rw [← Go.WideShapes.add_plain, ← Go.WideShapes.add_plain]; exact (hf' i hi).1 j hj
    exact ⟨g 0 (by decide), g 1 (by decide), g 2 (by decide), g 3 (by decide), g 4 (by decide), g 5 (by decide)⟩
end
end Go.Proofs.YtegeiicginpdbaaGreatDoor
