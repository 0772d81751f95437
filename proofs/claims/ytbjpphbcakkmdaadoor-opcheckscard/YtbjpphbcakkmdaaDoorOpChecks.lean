/-
  OpChecks returns true at every list of steps, and changes nothing that was there: what op.Check says is wrong with a program, and at which step first, is what the document says. Condition: the library's variable errors.errorType starts as the program's text lays it (the card ties it).
-/
import Derived.Test.YtbjpphbcakkmdaaDoorCheck
import Derived.Test.YtbjpphbcakkmdaaDoorTell
import Derived.Test.YtbjpphbcakkmdaaDoorTie
import Derived.Test.YtbjpphbcakkmdaaDoorCards
import Derived.Deep.Slices
import Derived.ChangeSame
import Derived.ChangeVars
import Derived.ChangeOld
import Derived.JoinedOf
import Derived.LaidLaws
import Derived.LaidHandle
import Derived.Stop.Joined
import Derived.SevenTiedAt
namespace Go.Proofs.YtbjpphbcakkmdaaDoor
open Go.ChangeShapes Go.WideShapes Go.ChangeAt Go.RowKit

theorem first_fault (f : Nat → Int) : ∀ len : Nat, (∀ j, j < len → f j = 0) ∨ ∃ i, i < len ∧ (∀ j, j < i → f j = 0) ∧ f i ≠ 0
  | 0 => Or.inl fun j hj => absurd hj (Nat.not_lt_zero _)
  | n + 1 => by
    rcases first_fault f n with h | ⟨i, hi, hno, hf⟩
    · by_cases hn : f n = 0
      · exact Or.inl (up_to_next h hn)
      · exact Or.inr ⟨n, Nat.lt_succ_self n, h, hn⟩
    · exact Or.inr ⟨i, Nat.lt_succ_of_lt hi, hno, hf⟩
theorem same_first {f : Nat → Int} {i k : Nat} (hi : ∀ j, j < i → f j = 0) (hf : f i ≠ 0) (hk : ∀ j, j < k → f j = 0) (hg : f k ≠ 0) : k = i := by
  rcases Nat.lt_trichotomy k i with h | h | h
  · exact absurd (hi k h) hg
  · exact h
  · exact absurd (hk i h) hf

section
variable {bk off len cap : Nat} {C D S O N : Nat → Int} {R : Nat → Bool} {w : World} (h1 : 1 ≤ len) (h2 : len ≤ 200) (hbk : bk < w.heap.size) (hst : StepsAt w bk off len C D S R O N)
theorem opCheck_fine (h : ∀ j, j < len → faultAt len C D S R O N j = 0) (hst : StepsAt w bk off len C D S R O N) (h1 : 1 ≤ len) (h2 : len ≤ 200) (hbk : bk < w.heap.size) :
    Calls Tryd.prog 5 #[.slice (some ⟨bk, off, none⟩) len cap] w fun e w' => e = .returned .nilIface ∧ Below w.heap.size w w' := by
  refine (opCheck_steps bk off len cap C D S O N R w h1 h2 hbk hst).mono fun e w' hh => ?_
  obtain ⟨hb, hh⟩ := hh
  rcases hh with ⟨he, _⟩ | ⟨i, p, hi, _, hf, _⟩
  · exact ⟨he, hb⟩
  · exact absurd (h i hi) hf
theorem opCheck_bad {i : Nat} (hi : i < len) (hno : ∀ j, j < i → faultAt len C D S R O N j = 0) (hf : faultAt len C D S R O N i ≠ 0) (hst : StepsAt w bk off len C D S R O N) (h1 : 1 ≤ len) (h2 : len ≤ 200) (hbk : bk < w.heap.size) :
    Calls Tryd.prog 5 #[.slice (some ⟨bk, off, none⟩) len cap] w fun e w' => ∃ p, e = .returned (.iface 38 (.pointer (some ⟨p, 0, none⟩))) ∧ Below w.heap.size w w' ∧ p < w'.heap.size ∧ w'.cell? ⟨p, 0, none⟩ = some (.int .i64 (faultAt len C D S R O N i)) ∧ w'.cell? ⟨p, 1, none⟩ = some (.int .i64 i) := by
  refine (opCheck_steps bk off len cap C D S O N R w h1 h2 hbk hst).mono fun e w' hh => ?_
  obtain ⟨hb, hh⟩ := hh
  rcases hh with ⟨_, h⟩ | ⟨k, p, hk, hno', hf', he, hp, hc0, hc1⟩
  · exact absurd (h i hi) hf
  · obtain rfl := same_first hno hf hno' hf'
    refine ⟨p, he, hb, ?_, hc0, hc1⟩
    rcases Nat.lt_or_ge p w'.heap.size with g | g
    · exact g
    · simp [World.cell?, Array.getElem?_eq_none g] at hc0
theorem refCheck_fine (h : ∀ j, j < len → faultAt len C D S R O N j = 0) (hst : StepsAt w bk off len C D S R O N) (h1 : 1 ≤ len) (h2 : len ≤ 200) (hbk : bk < w.heap.size) :
    Calls Tryd.prog 6 #[.slice (some ⟨bk, off, none⟩) len cap] w fun e w' => e = .returned (.agg #[.int .i64 0, .int .i64 (-1)]) ∧ Below w.heap.size w w' := by
  refine (refCheck_steps bk off len cap C D S O N R w h1 h2 hbk hst).mono fun e w' hh => ?_
  obtain ⟨hb, hh⟩ := hh
  rcases hh with ⟨he, _⟩ | ⟨i, hi, _, hf, _⟩
  · exact ⟨he, hb⟩
  · exact absurd (h i hi) hf
theorem refCheck_bad {i : Nat} (hi : i < len) (hno : ∀ j, j < i → faultAt len C D S R O N j = 0) (hf : faultAt len C D S R O N i ≠ 0) (hst : StepsAt w bk off len C D S R O N) (h1 : 1 ≤ len) (h2 : len ≤ 200) (hbk : bk < w.heap.size) :
    Calls Tryd.prog 6 #[.slice (some ⟨bk, off, none⟩) len cap] w fun e w' => e = .returned (.agg #[.int .i64 (faultAt len C D S R O N i), .int .i64 i]) ∧ Below w.heap.size w w' := by
  refine (refCheck_steps bk off len cap C D S O N R w h1 h2 hbk hst).mono fun e w' hh => ?_
  obtain ⟨hb, hh⟩ := hh
  rcases hh with ⟨_, h⟩ | ⟨k, hk, hno', hf', he⟩
  · exact absurd (h i hi) hf
  · obtain rfl := same_first hno hf hno' hf'
    exact ⟨he, hb⟩
end

/-! ### The law's walk -/
theorem law_long (a : Option Addr) (len cap : Nat) (h : 300 < len) (w : World) :
    Calls Tryd.prog 3 #[.slice a len cap] w fun e w' => e = .returned (.bool true) ∧ Below w.heap.size w w' := by
  have z : decide (300 < (len : Int)) = true := by simp; omega
  go_enter Tryd.func3, Tryd.ntmps3
  go_wp2
  go_ret
  exact ⟨rfl, Below.refl _ _⟩
theorem law_limit (a : Option Addr) (len cap : Nat) (h0 : len ≤ 300) (h : len < 1 ∨ 200 < len) (w : World) (hg : HandleAt w) :
    Calls Tryd.prog 3 #[.slice a len cap] w fun e w' => e = .returned (.bool true) ∧ Below w.heap.size w w' := by
  have z : decide (300 < (len : Int)) = false := by simp; omega
  go_enter Tryd.func3, Tryd.ntmps3
  go_wp2_with (first | (go_at_call 5; refine (opCheck_limit _ _ _ h _).mono ?_; rintro e w1 ⟨rfl, rfl⟩) | (go_at_call 6; refine (refCheck_limit _ _ _ h _).mono ?_; rintro e w2 ⟨rfl, hb2⟩) | (go_at_call 4; refine (is_errno 4 _ (hg.later hb2)).mono ?_; rintro e w3 ⟨rfl, hb3⟩))
  go_ret
  exact ⟨rfl, hb2.trans (hb3.mono hb2.size)⟩
theorem law_fine (bk off len cap : Nat) (C D S O N : Nat → Int) (R : Nat → Bool) (w : World) (h1 : 1 ≤ len) (h2 : len ≤ 200) (hbk : bk < w.heap.size) (hst : StepsAt w bk off len C D S R O N) (h : ∀ j, j < len → faultAt len C D S R O N j = 0) :
    Calls Tryd.prog 3 #[.slice (some ⟨bk, off, none⟩) len cap] w fun e w' => e = .returned (.bool true) ∧ Below w.heap.size w w' := by
  have z : decide (300 < (len : Int)) = false := by simp; omega
  go_enter Tryd.func3, Tryd.ntmps3
  go_wp2_with (first | (go_at_call 5; refine (opCheck_fine h hst h1 h2 hbk).mono ?_; rintro e w1 ⟨rfl, hb1⟩) | (go_at_call 6; refine (refCheck_fine h (hst.later hb1 hbk) h1 h2 (Nat.lt_of_lt_of_le hbk hb1.size)).mono ?_; rintro e w2 ⟨rfl, hb2⟩) | (go_at_call 4; refine (is_nil _).mono ?_; rintro e w3 ⟨rfl, hb3⟩))
  go_ret
  exact ⟨rfl, (hb1.trans (hb2.mono hb1.size)).trans (hb3.mono (Nat.le_trans hb1.size hb2.size))⟩
theorem law_bad (bk off len cap : Nat) (C D S O N : Nat → Int) (R : Nat → Bool) (w : World) (h1 : 1 ≤ len) (h2 : len ≤ 200) (hbk : bk < w.heap.size) (hst : StepsAt w bk off len C D S R O N) (hg : HandleAt w)
    (i : Nat) (hi : i < len) (hno : ∀ j, j < i → faultAt len C D S R O N j = 0) (hf : faultAt len C D S R O N i ≠ 0) :
    Calls Tryd.prog 3 #[.slice (some ⟨bk, off, none⟩) len cap] w fun e w' => e = .returned (.bool true) ∧ Below w.heap.size w w' := by
  have z : decide (300 < (len : Int)) = false := by simp; omega
  go_enter Tryd.func3, Tryd.ntmps3
  go_wp2_with (first | (go_at_call 5; refine (opCheck_bad hi hno hf hst h1 h2 hbk).mono ?_; rintro e w1 ⟨p, rfl, hb1, hpl, hc0, hc1⟩) | (go_at_call 6; refine (refCheck_bad hi hno hf (hst.later hb1 hbk) h1 h2 (Nat.lt_of_lt_of_le hbk hb1.size)).mono ?_; rintro e w2 ⟨rfl, hb2⟩) | (go_at_call 4; refine (is_at _ _ p _ ((hg.later hb1).later hb2) ((hb2.cell (p := ⟨p, 0, none⟩) hpl).trans hc0) ((hb2.cell (p := ⟨p, 1, none⟩) hpl).trans hc1) (Nat.lt_of_lt_of_le hpl hb2.size)).mono ?_; rintro e w3 ⟨rfl, hb3⟩))
  go_ret
  exact ⟨rfl, (hb1.trans (hb2.mono hb1.size)).trans (hb3.mono (Nat.le_trans hb1.size hb2.size))⟩

/-- What the walk is told of the list that came in: nil, or steps in a block. -/
def IsSteps (w : World) (a : Option Addr) (len : Nat) : Prop :=
  len = 0 ∨ ∃ (bk off : Nat) (C D S O N : Nat → Int) (R : Nat → Bool), a = some ⟨bk, off, none⟩ ∧ bk < w.heap.size ∧ StepsAt w bk off len C D S R O N
theorem walk (a : Option Addr) (len cap : Nat) (w : World) (hs : IsSteps w a len) (hg : HandleAt w) :
    Calls Tryd.prog 3 #[.slice a len cap] w fun e w' => e = .returned (.bool true) ∧ Below w.heap.size w w' := by
  by_cases k1 : 300 < len
  · exact law_long a len cap k1 w
  by_cases k2 : len < 1 ∨ 200 < len
  · exact law_limit a len cap (by omega) k2 w hg
  rcases hs with h0 | ⟨bk, off, C, D, S, O, N, R, rfl, hbk, hst⟩
  · omega
  rcases first_fault (faultAt len C D S R O N) len with h | ⟨i, hi, hno, hf⟩
  · exact law_fine bk off len cap C D S O N R w (by omega) (by omega) hbk hst h
  · exact law_bad bk off len cap C D S O N R w (by omega) (by omega) hbk hst hg i hi hno hf

/-! ### From the reading to the cells -/
theorem cells_at {w : World} {base : Nat} {a : Addr} {n : Nat} {cs : List Value} (h : w.cells? base a n = some cs) (i : Nat) (hi : i < n) : w.cell? (a.add i) = cs[i]? := by
  unfold World.cells? at h
  split at h
  · exact mapM_some_get h i i (by simp [hi])
  · cases h
theorem six {l : List Value} (h : l.length = 6) : ∃ a b c d e f, l = [a, b, c, d, e, f] := by
  match l, h with
  | [a, b, c, d, e, f], _ => exact ⟨a, b, c, d, e, f, rfl⟩
section
variable {H : Type} {enc : TypeId × Value → H} {w : World}
theorem step_open {n : Nat} {cs : List Value} {x : DataW H × List MemPlace} (h : DataW.trod enc Tryd.prog w 0 (fun _ => true) true n 36 cs = some x) :
    ∃ y : Int × Int × Int × Bool × Int × Int, cs = [.int .i64 y.1, .int .i64 y.2.1, .int .i64 y.2.2.1, .bool y.2.2.2.1, .int .i64 y.2.2.2.2.1, .int .i64 y.2.2.2.2.2] := by
  obtain ⟨xs, m, _, _, hl, hx, hf⟩ := DataW.trod_struct Tryd.underlying36 h
  have hl6 : cs.length = 6 := by rw [hl]; kernel_rfl
  have hx6 : xs.length = 6 := hx
  obtain ⟨a, b, c, d, e, f, rfl⟩ := six hl6
  have k3 : Tryd.prog.cellsOf 3 = 1 := by kernel_rfl
  have k2 : Tryd.prog.cellsOf 2 = 1 := by kernel_rfl
  have k4 : Tryd.prog.cellsOf 4 = 1 := by kernel_rfl
  have at_ : ∀ i, i < 6 → ∃ y, xs[i]? = some y := fun i hi => ⟨xs[i]'(by omega), List.getElem?_eq_getElem _⟩
  obtain ⟨y0, e0⟩ := at_ 0 (by decide)
  obtain ⟨y1, e1⟩ := at_ 1 (by decide)
  obtain ⟨y2, e2⟩ := at_ 2 (by decide)
  obtain ⟨y3, e3⟩ := at_ 3 (by decide)
  obtain ⟨y4, e4⟩ := at_ 4 (by decide)
  obtain ⟨y5, e5⟩ := at_ 5 (by decide)
  have f0 : DataW.trod enc Tryd.prog w 0 (fun _ => true) true m 3 (([a, b, c, d, e, f].drop 0).take (Tryd.prog.cellsOf 3)) = some y0 := (hf 0 _ rfl).trans e0
  have f1 : DataW.trod enc Tryd.prog w 0 (fun _ => true) true m 3 (([a, b, c, d, e, f].drop 1).take (Tryd.prog.cellsOf 3)) = some y1 := (hf 1 _ rfl).trans e1
  have f2 : DataW.trod enc Tryd.prog w 0 (fun _ => true) true m 3 (([a, b, c, d, e, f].drop 2).take (Tryd.prog.cellsOf 3)) = some y2 := (hf 2 _ rfl).trans e2
  have f3 : DataW.trod enc Tryd.prog w 0 (fun _ => true) true m 4 (([a, b, c, d, e, f].drop 3).take (Tryd.prog.cellsOf 4)) = some y3 := (hf 3 _ rfl).trans e3
  have f4 : DataW.trod enc Tryd.prog w 0 (fun _ => true) true m 3 (([a, b, c, d, e, f].drop 4).take (Tryd.prog.cellsOf 3)) = some y4 := (hf 4 _ rfl).trans e4
  have f5 : DataW.trod enc Tryd.prog w 0 (fun _ => true) true m 2 (([a, b, c, d, e, f].drop 5).take (Tryd.prog.cellsOf 2)) = some y5 := (hf 5 _ rfl).trans e5
  rw [k3] at f0 f1 f2 f4
  rw [k4] at f3
  rw [k2] at f5
  obtain ⟨n0, g0, _, _⟩ := DataW.trod_int Tryd.underlying3 f0
  obtain ⟨n1, g1, _, _⟩ := DataW.trod_int Tryd.underlying3 f1
  obtain ⟨n2, g2, _, _⟩ := DataW.trod_int Tryd.underlying3 f2
  obtain ⟨n3, g3, _⟩ := DataW.trod_bool Tryd.underlying4 f3
  obtain ⟨n4, g4, _, _⟩ := DataW.trod_int Tryd.underlying3 f4
  obtain ⟨n5, g5, _, _⟩ := DataW.trod_int Tryd.underlying2 f5
  simp at g0 g1 g2 g3 g4 g5
  exact ⟨(n0, n1, n2, n3, n4, n5), by rw [g0, g1, g2, g3, g4, g5]⟩
theorem steps_open {a : Option Addr} {len cap : Nat} {d : DataW H} {ps : List MemPlace} (h : DataW.Trod enc Tryd.prog w 0 (fun _ => true) true 22 (.slice a len cap) d ps) : IsSteps w a len := by
  obtain ⟨fuel, hf⟩ := h
  rcases Deep.open_slice Tryd.underlying22 hf with ⟨hcs, _⟩ | ⟨x, l, c, m, n, Da, Pl, hcs, _, hl, hm, hmm, _, hx⟩
  · simp [Value.cells] at hcs
    exact Or.inl hcs.2.1
  · simp [Value.cells] at hcs
    obtain ⟨rfl, rfl, rfl⟩ := hcs
    by_cases h0 : len = 0
    · exact Or.inl h0
    have hc6 : Tryd.prog.cellsOf 36 = 6 := by kernel_rfl
    have all : ∀ i, ∃ y : Int × Int × Int × Bool × Int × Int, i < len → ∀ j, j < 6 → w.cell? ((x.add (i * 6)).add j) = [Value.int .i64 y.1, .int .i64 y.2.1, .int .i64 y.2.2.1, .bool y.2.2.2.1, .int .i64 y.2.2.2.2.1, .int .i64 y.2.2.2.2.2][j]? := by
      intro i
      by_cases hi : i < len
      · have him : i < m := by rw [hmm]; simp; omega
        obtain ⟨cs, hcc, ht⟩ := hx i him
        rw [hc6] at hcc
        obtain ⟨y, hy⟩ := step_open ht
        refine ⟨y, fun _ j hj => ?_⟩
        rw [← hy]
        exact cells_at hcc j hj
      · exact ⟨(0, 0, 0, false, 0, 0), fun h => absurd h hi⟩
    obtain ⟨f, hf'⟩ := Classical.axiomOfChoice all
    obtain ⟨b, off, spot⟩ := x
    have hc0 := hf' 0 (by omega) 0 (by decide)
    have hspot : spot = none := by simpa [Addr.add] using World.cell?_spot hc0
    subst hspot
    have hb : b < w.heap.size := by
      rcases Nat.lt_or_ge b w.heap.size with g | g
      · exact g
      · simp [World.cell?, Addr.add, Array.getElem?_eq_none g] at hc0
    refine Or.inr ⟨b, off, fun i => (f i).1, fun i => (f i).2.1, fun i => (f i).2.2.1, fun i => (f i).2.2.2.2.1, fun i => (f i).2.2.2.2.2, fun i => (f i).2.2.2.1, rfl, hb, fun i hi => ?_⟩
    have g : ∀ j, j < 6 → w.cell? ⟨b, off + i * 6 + j, none⟩ = [Value.int .i64 (f i).1, .int .i64 (f i).2.1, .int .i64 (f i).2.2.1, .bool (f i).2.2.2.1, .int .i64 (f i).2.2.2.2.1, .int .i64 (f i).2.2.2.2.2][j]? := fun j hj => by
      rw [← Go.WideShapes.add_plain, ← Go.WideShapes.add_plain]; exact hf' i hi j hj
    exact ⟨g 0 (by decide), g 1 (by decide), g 2 (by decide), g 3 (by decide), g 4 (by decide), g 5 (by decide)⟩
end

/-! ### The library's variable -/
theorem own : ownKnob Tryd.prog.godebug = none := by kernel_rfl
theorem laidOut : laidOutB Tryd.prog = true := by kernel_rfl
theorem et : Tryd.prog.globalNamed "errors.errorType" = some 0 := by kernel_rfl
theorem rt : (Tryd.prog.cutTypes.find? (·.1 == "internal/reflectlite.rtype")).map (·.2) = some 66 := by kernel_rfl
theorem oneRow : ((List.range 107).filter fun t => Tryd.prog.rowNamed t [101, 114, 114, 111, 114]) = [25] := by kernel_rfl
theorem ntypes : Tryd.prog.types.size = 107 := by kernel_rfl
theorem handle_of_laid {W : World} (h : laidMetH Tryd.prog Rows.opChecksRow.laid W) : HandleAt W := by
  have h' : laidMet Tryd.prog [] W ∧ handlesMet Tryd.prog Rows.opChecksRow.laid W := h
  obtain ⟨name, u, ty, e1, e2, e3, e4, e5⟩ := h'.2 _ (List.mem_singleton.2 rfl)
  have en : name = [101, 114, 114, 111, 114] := (Option.some.inj e1).symm
  subst en
  obtain rfl := Option.some.inj (rt.symm.trans e2)
  have hm : ty ∈ (List.range 107).filter fun t => Tryd.prog.rowNamed t [101, 114, 114, 111, 114] := List.mem_filter.2 ⟨List.mem_range.2 (by rw [← ntypes]; exact e3), e4⟩
  rw [oneRow] at hm
  obtain rfl := List.mem_singleton.1 hm
  have hh : typeHandle Tryd.prog 25 = .pointer (some ⟨1, 25, none⟩) := by kernel_rfl
  rw [hh] at e5
  unfold HandleAt
  simpa using World.var?_cell et e5 0
theorem start_met (os : Os) (args : Array Value) : laidMetH Tryd.prog Rows.opChecksRow.laid (({ World.holding Tryd.prog os ⟨#[], #[], []⟩ with heap := (World.holding Tryd.prog os ⟨#[], #[], []⟩).heap.modify 0 fun
      | .cells _ t frozen => .cells #[.iface 66 (.agg #[.pointer (some ⟨1, 25, none⟩)])] t frozen
      | o => o } : World).forCall (fun _ _ => 0) ⟨#[], args, []⟩).memory :=
  laidMetH_of_parts (laidMet_nil _ _) (by kernel_rfl)

set_option maxRecDepth 100000 in
theorem lifted (os : Os) (started : os.Started) (H : Type) (enc : TypeId × Value → H) :
    ReturnsInHanded {} Tryd.checked os 3 .any (fun w args => (Rows.opChecksSpec.pre enc Tryd.prog Tryd.f3 [] false w args ∧ laidMetH Tryd.prog Rows.opChecksRow.laid w) ∧ sizedMet enc Tryd.prog Tryd.f3 (OpenSpec.ofChange Rows.opChecksSpec) false w args)
      (Rows.opChecksSpec.post enc Tryd.prog Tryd.f3 false true false false) := by
  refine returnsInHanded_of_change_and (C := Tryd.checked) (X := fun w _ => laidMetH Tryd.prog Rows.opChecksRow.laid w) (fun _ _ _ hh h => h.of_heap hh) own started (by kernel_rfl) Tryd.func3
    (ChangeSpec.witness_at (enc := enc) (C := Tryd.checked) (os := os) (X := fun w _ => laidMetH Tryd.prog Rows.opChecksRow.laid w) false ({ World.holding Tryd.prog os ⟨#[], #[], []⟩ with heap := (World.holding Tryd.prog os ⟨#[], #[], []⟩).heap.modify 0 fun
      | .cells _ t frozen => .cells #[.iface 66 (.agg #[.pointer (some ⟨1, 25, none⟩)])] t frozen
      | o => o } : World) #[.slice none 0 0] 8 rfl (by kernel_rfl) (by kernel_rfl) (by kernel_rfl) (by kernel_rfl) (by kernel_rfl) (start_met os _)) ?_
  intro W base args ds gs before hval0 hW _ _ hL _
  have hval : ∀ (j : Nat) t v, Tryd.f3.params[j]? = some t → args[j]? = some v → Value.okWide Tryd.prog W .any base t v := hval0
  have hW' := hW
  obtain ⟨p, q, hA0, hV0, rfl, hfz, hnd⟩ := hW
  have hA : DataW.TrodAll enc Tryd.prog W 0 (fun _ => true) true Tryd.f3.params.toList args.toList ds p := hA0
  have hV : DataW.TrodVars enc Tryd.prog W (fun _ => true) [] gs q := hV0
  rw [Tryd.params3] at hA hval
  obtain ⟨v0, d0, rfl, rfl, h0⟩ := trodAll_one hA
  obtain ⟨rfl, rfl⟩ := trodVars_none hV
  obtain ⟨a0, len0, cap0, rfl⟩ := okWide_slice Tryd.underlying22 (hval 0 22 v0 rfl rfl)
  have lt0 : ∀ x ∈ p, x.block < W.heap.size := by obtain ⟨m, hm⟩ := h0; exact DataW.trod_lt m _ _ _ hm
  have hg := handle_of_laid hL
  refine (walk a0 len0 cap0 W (steps_open h0) hg).mono fun e W' ⟨he, bel⟩ => ?_
  subst he
  exact ⟨_, rfl, _, _, _, [], _, [], hW', trodAll_mk1 (shut_bool Tryd.underlying4 _), trodAll_mk1 (Below.trod laidOut (by kernel_rfl) (of_decide_eq_true (by kernel_rfl)) h0 bel lt0), rfl, bel.frame _, fun h => by cases h⟩

theorem opChecks_row : Rows.OpChecksSaid :=
  OpenClaim.holds_of_wide 3 Tryd.f3 rfl rfl rfl rfl rfl rfl rfl ⟨rfl, rfl, rfl, rfl, rfl⟩ rfl rfl rfl rfl rfl (by kernel_rfl) Tryd.func3 (by kernel_rfl)
    (of_decide_eq_true (by kernel_rfl)) (by unfold Func.isWrapper; rw [if_neg (of_decide_eq_false (by kernel_rfl))]; exact ⟨rfl, rfl⟩)
    (fun os started H enc _ => lifted os started H enc)
/-- The card: the row, its one listed variable tied to the program's text. -/
theorem opChecks_holds : Rows.OpChecksCardSaid :=
  Claim7.holds_tied_plain_at .later [] [.handle] true Rows.opChecksCard.stood.harness true
    opChecks_row (fun _ h => by cases h) (by kernel_rfl) (fun _ h => by cases h) opChecks_row_tie rfl ⟨rfl, rfl⟩ (by kernel_rfl) rfl
    (fun f fn hf hfn => by
      obtain rfl : f = 3 := Option.some.inj ((show Tryd.prog.funcNamed "gatehouse/gatehouselaw.OpChecks" = some 3 by kernel_rfl).symm.trans hf) |>.symm
      obtain rfl : fn = Tryd.f3 := (Option.some.inj (Tryd.func3.symm.trans hfn)).symm
      exact ⟨by kernel_rfl, fun j t ht => by
        rw [Tryd.params3] at ht
        have h3 : t = 22 := by
          rcases j with _ | j
          · simpa using ht.symm
          · simp at ht
        subst h3
        exact (show Tryd.prog.wantsStandIn 22 = false by kernel_rfl)⟩)
    (by kernel_rfl)
#print axioms opChecks_holds
end Go.Proofs.YtbjpphbcakkmdaaDoor
