/-
  MachineRuns returns true at every list of steps, every eight words, every table and every time, and changes nothing that was there: what comes of a program, also of one that goes wrong, and where it does, is what the document says. Condition: the library's variable errors.errorType starts as the program's text lays it (the card ties it).
-/
import Derived.Test.YtegeiicginpdbaaDoorMachLaw
import Derived.Test.YtegeiicginpdbaaDoorTie
import Derived.Test.YtegeiicginpdbaaDoorCards
import Derived.Deep.Slices
import Derived.ChangeSame
import Derived.ChangeVars
import Derived.ChangeOld
import Derived.JoinedOf
import Derived.LaidLaws
import Derived.LaidHandle
import Derived.Stop.Joined
import Derived.SevenTiedAt
import Derived.Lib.SmallJoins
namespace Go.Proofs.YtegeiicginpdbaaDoor
open Go.ChangeShapes Go.WideShapes Go.ChangeAt Go.RowKit
open Go.Joins
/-- What the walk is told of the list that came in: nil, or steps in a block. -/
def IsSteps2 (w : World) (a : Option Addr) (len : Nat) : Prop :=
  len = 0 ∨ ∃ (bk off : Nat) (C D S O N : Nat → Int) (R : Nat → Bool), a = some ⟨bk, off, none⟩ ∧ bk < w.heap.size ∧ StepsAt w bk off len C D S R O N ∧ (∀ i, i < len → In64 (O i)) ∧ ∀ i, i < len → In64 (N i)
theorem own_none (w : World) (b : Nat) : w.ownsRow b 2 1 (.slice none 0 0) zeroAbs.out.length (zeroAbs.out.map (Value.int .i64)) := World.ownsRow_nil w b _ 1
theorem walk (a : Option Addr) (len cap : Nat) (T K : Nat → Int) (time : Int) (w : World) (hs : IsSteps2 w a len) (hg : HandleAt w) (hT : ∀ i, i < 8 → In64 (T i)) (hK : ∀ i, i < 16 → In64 (K i)) (ht : In64 time) :
    Calls Tryd.prog 6 #[.slice a len cap, .agg #[.int .i64 (T 0), .int .i64 (T 1), .int .i64 (T 2), .int .i64 (T 3), .int .i64 (T 4), .int .i64 (T 5), .int .i64 (T 6), .int .i64 (T 7)], .agg #[.int .i64 (K 0), .int .i64 (K 1), .int .i64 (K 2), .int .i64 (K 3), .int .i64 (K 4), .int .i64 (K 5), .int .i64 (K 6), .int .i64 (K 7), .int .i64 (K 8), .int .i64 (K 9), .int .i64 (K 10), .int .i64 (K 11), .int .i64 (K 12), .int .i64 (K 13), .int .i64 (K 14), .int .i64 (K 15)], .int .i64 time] w fun e w' => e = .returned (.bool true) ∧ Below w.heap.size w w' := by
  by_cases k1 : 300 < len
  · exact law_long a len cap T K time k1 w
  by_cases k2 : len < 1 ∨ 200 < len
  · refine law_gen _ len a cap rfl T K time (by omega) w 4 (-1) 0 0 zeroAbs (fun W hW => ?_) (fun W hW => ?_)
    · exact (drun_err _ T K time W 4 (-1) rfl (fun W' _ => refCheck_limit a len cap k2 W')).mono fun e w' ⟨he, hb⟩ => ⟨_, he, hb, own_none _ _⟩
    · exact (run_limit a len cap T K time k2 W).mono fun e w' ⟨he, hb⟩ => ⟨_, _, he, hb, own_none _ _, fun W' hW' => is_errno 4 W' ((hg.later hW).later (hb.trans (hW'.mono hb.size)))⟩
  rcases hs with h0 | ⟨bk, off, C, D, S, O, N, R, rfl, hbk, hst, hO, hN⟩
  · omega
  have hbk' : ∀ W, Below w.heap.size w W → bk < W.heap.size := fun W hW => Nat.lt_of_lt_of_le hbk hW.size
  rcases first_fault (faultAt len C D S R O N) len with h | ⟨i, hi, hno, hf⟩
  · rcases hX : runF C D S R O N len 0 0 ((start T K time).abs []) with ⟨er, q⟩ | ⟨n0, k, a'⟩
    · refine law_gen _ len _ cap rfl T K time (by omega) w er (q : Int) 0 0 zeroAbs (fun W hW => ?_) (fun W hW => ?_)
      · refine (drun_all bk off len cap C D S O N R T K time W (by omega) (by omega) (hbk' W hW) (hst.later hW hbk) h hN hO hT hK ht).mono fun e w' hd => ?_
        rw [hX] at hd
        exact ⟨_, hd.2.1, hd.1, own_none _ _⟩
      · exact (run_bad bk off len cap C D S O N R T K time W (by omega) (by omega) (hbk' W hW) (hst.later hW hbk) h hN hT hK ht er q hX).mono fun e w' ⟨p, he, hb, hpl, c0, c1, _⟩ => ⟨_, _, he, hb, own_none _ _, fun W' hW' => is_at er (q : Int) p W' ((hg.later hW).later (hb.trans (hW'.mono hb.size))) ((hW'.cell (p := ⟨p, 0, none⟩) hpl).trans c0) ((hW'.cell (p := ⟨p, 1, none⟩) hpl).trans c1) (Nat.lt_of_lt_of_le hpl hW'.size)⟩
    · refine law_gen _ len _ cap rfl T K time (by omega) w 0 (-1) n0 (k : Int) a' (fun W hW => ?_) (fun W hW => ?_)
      · refine (drun_all bk off len cap C D S O N R T K time W (by omega) (by omega) (hbk' W hW) (hst.later hW hbk) h hN hO hT hK ht).mono fun e w' hd => ?_
        rw [hX] at hd
        obtain ⟨hb, v, he, ho⟩ := hd
        exact ⟨v, he, hb, ho⟩
      · exact (run_fine bk off len cap C D S O N R T K time W (by omega) (by omega) (hbk' W hW) (hst.later hW hbk) h hN hT hK ht n0 k a' hX).mono fun e w' ⟨v, he, hb, ho⟩ => ⟨v, _, he, hb, ho, fun W' _ => is_nil W'⟩
  · refine law_gen _ len _ cap rfl T K time (by omega) w (faultAt len C D S R O N i) (i : Int) 0 0 zeroAbs (fun W hW => ?_) (fun W hW => ?_)
    · exact (drun_err _ T K time W _ _ (by simpa using hf) (fun W' hW' => refCheck_bad hi hno hf ((hst.later hW hbk).later hW' (hbk' W hW)) (by omega) (by omega) (Nat.lt_of_lt_of_le (hbk' W hW) hW'.size))).mono fun e w' ⟨he, hb⟩ => ⟨_, he, hb, own_none _ _⟩
    · exact (run_wrong bk off len cap C D S O N R T K time W (by omega) (by omega) (hbk' W hW) (hst.later hW hbk) i hi hno hf).mono fun e w' ⟨p, he, hb, hpl, c0, c1⟩ => ⟨_, _, he, hb, own_none _ _, fun W' hW' => is_at _ _ p W' ((hg.later hW).later (hb.trans (hW'.mono hb.size))) ((hW'.cell (p := ⟨p, 0, none⟩) hpl).trans c0) ((hW'.cell (p := ⟨p, 1, none⟩) hpl).trans c1) (Nat.lt_of_lt_of_le hpl hW'.size)⟩
/-! ### From the reading to the cells -/
theorem cells_at {w : World} {base : Nat} {a : Addr} {n : Nat} {cs : List Value} (h : w.cells? base a n = some cs) (i : Nat) (hi : i < n) : w.cell? (a.add i) = cs[i]? := by
  unfold World.cells? at h
  split at h
  · exact mapM_some_get h i i (by simp [hi])
  · cases h
theorem six {l : List Value} (h : l.length = 6) : ∃ a b c d e f, l = [a, b, c, d, e, f] := by
  match l, h with
  | [a, b, c, d, e, f], _ => exact ⟨a, b, c, d, e, f, rfl⟩
section
variable {H : Type} {enc : TypeId × Value → H} {w : World}
theorem step_open {n : Nat} {cs : List Value} {x : DataW H × List MemPlace} (h : DataW.trod enc Tryd.prog w 0 (fun _ => true) true n 75 cs = some x) :
    ∃ y : Int × Int × Int × Bool × Int × Int, cs = [.int .i64 y.1, .int .i64 y.2.1, .int .i64 y.2.2.1, .bool y.2.2.2.1, .int .i64 y.2.2.2.2.1, .int .i64 y.2.2.2.2.2] ∧ In64 y.2.2.2.2.1 ∧ In64 y.2.2.2.2.2 := by
  obtain ⟨xs, m, _, _, hl, hx, hf⟩ := DataW.trod_struct Tryd.underlying75 h
  have hl6 : cs.length = 6 := by rw [hl]; kernel_rfl
  have hx6 : xs.length = 6 := hx
  obtain ⟨a, b, c, d, e, f, rfl⟩ := six hl6
  have k3 : Tryd.prog.cellsOf 3 = 1 := by kernel_rfl
  have k2 : Tryd.prog.cellsOf 2 = 1 := by kernel_rfl
  have k4 : Tryd.prog.cellsOf 4 = 1 := by kernel_rfl
  have at_ : ∀ i, i < 6 → ∃ y, xs[i]? = some y := fun i hi => ⟨xs[i]'(by omega), List.getElem?_eq_getElem _⟩
  obtain ⟨y0, e0⟩ := at_ 0 (by decide)
  obtain ⟨y1, e1⟩ := at_ 1 (by decide)
  obtain ⟨y2, e2⟩ := at_ 2 (by decide)
  obtain ⟨y3, e3⟩ := at_ 3 (by decide)
  obtain ⟨y4, e4⟩ := at_ 4 (by decide)
  obtain ⟨y5, e5⟩ := at_ 5 (by decide)
  have f0 : DataW.trod enc Tryd.prog w 0 (fun _ => true) true m 3 (([a, b, c, d, e, f].drop 0).take (Tryd.prog.cellsOf 3)) = some y0 := (hf 0 _ rfl).trans e0
  have f1 : DataW.trod enc Tryd.prog w 0 (fun _ => true) true m 3 (([a, b, c, d, e, f].drop 1).take (Tryd.prog.cellsOf 3)) = some y1 := (hf 1 _ rfl).trans e1
  have f2 : DataW.trod enc Tryd.prog w 0 (fun _ => true) true m 3 (([a, b, c, d, e, f].drop 2).take (Tryd.prog.cellsOf 3)) = some y2 := (hf 2 _ rfl).trans e2
  have f3 : DataW.trod enc Tryd.prog w 0 (fun _ => true) true m 4 (([a, b, c, d, e, f].drop 3).take (Tryd.prog.cellsOf 4)) = some y3 := (hf 3 _ rfl).trans e3
  have f4 : DataW.trod enc Tryd.prog w 0 (fun _ => true) true m 3 (([a, b, c, d, e, f].drop 4).take (Tryd.prog.cellsOf 3)) = some y4 := (hf 4 _ rfl).trans e4
  have f5 : DataW.trod enc Tryd.prog w 0 (fun _ => true) true m 2 (([a, b, c, d, e, f].drop 5).take (Tryd.prog.cellsOf 2)) = some y5 := (hf 5 _ rfl).trans e5
  rw [k3] at f0 f1 f2 f4
  rw [k4] at f3
  rw [k2] at f5
  obtain ⟨n0, g0, _, _⟩ := DataW.trod_int Tryd.underlying3 f0
  obtain ⟨n1, g1, _, _⟩ := DataW.trod_int Tryd.underlying3 f1
  obtain ⟨n2, g2, _, _⟩ := DataW.trod_int Tryd.underlying3 f2
  obtain ⟨n3, g3, _⟩ := DataW.trod_bool Tryd.underlying4 f3
  obtain ⟨n4, g4, _, w4⟩ := DataW.trod_int Tryd.underlying3 f4
  obtain ⟨n5, g5, _, w5⟩ := DataW.trod_int Tryd.underlying2 f5
  simp at g0 g1 g2 g3 g4 g5
  exact ⟨(n0, n1, n2, n3, n4, n5), by rw [g0, g1, g2, g3, g4, g5], bounds_i64 w4, bounds_i64 w5⟩
theorem steps_open {a : Option Addr} {len cap : Nat} {d : DataW H} {ps : List MemPlace} (h : DataW.Trod enc Tryd.prog w 0 (fun _ => true) true 22 (.slice a len cap) d ps) : IsSteps2 w a len := by
  obtain ⟨fuel, hf⟩ := h
  rcases Deep.open_slice Tryd.underlying22 hf with ⟨hcs, _⟩ | ⟨x, l, c, m, n, Da, Pl, hcs, _, hl, hm, hmm, _, hx⟩
  · simp [Value.cells] at hcs
    exact Or.inl hcs.2.1
  · simp [Value.cells] at hcs
    obtain ⟨rfl, rfl, rfl⟩ := hcs
    by_cases h0 : len = 0
    · exact Or.inl h0
    have hc6 : Tryd.prog.cellsOf 75 = 6 := by kernel_rfl
    have all : ∀ i, ∃ y : Int × Int × Int × Bool × Int × Int, i < len → (∀ j, j < 6 → w.cell? ((x.add (i * 6)).add j) = [Value.int .i64 y.1, .int .i64 y.2.1, .int .i64 y.2.2.1, .bool y.2.2.2.1, .int .i64 y.2.2.2.2.1, .int .i64 y.2.2.2.2.2][j]?) ∧ In64 y.2.2.2.2.1 ∧ In64 y.2.2.2.2.2 := by
      intro i
      by_cases hi : i < len
      · have him : i < m := by rw [hmm]; simp; omega
        obtain ⟨cs, hcc, ht⟩ := hx i him
        rw [hc6] at hcc
        obtain ⟨y, hy, i4, i5⟩ := step_open ht
        refine ⟨y, fun _ => ⟨fun j hj => ?_, i4, i5⟩⟩
        rw [← hy]
        exact cells_at hcc j hj
      · exact ⟨(0, 0, 0, false, 0, 0), fun h => absurd h hi⟩
    obtain ⟨f, hf'⟩ := Classical.axiomOfChoice all
    obtain ⟨b, off, spot⟩ := x
    have hc0 := (hf' 0 (by omega)).1 0 (by decide)
    have hspot : spot = none := by simpa [Addr.add] using World.cell?_spot hc0
    subst hspot
    have hb : b < w.heap.size := by
      rcases Nat.lt_or_ge b w.heap.size with g | g
      · exact g
      · simp [World.cell?, Addr.add, Array.getElem?_eq_none g] at hc0
    refine Or.inr ⟨b, off, fun i => (f i).1, fun i => (f i).2.1, fun i => (f i).2.2.1, fun i => (f i).2.2.2.2.1, fun i => (f i).2.2.2.2.2, fun i => (f i).2.2.2.1, rfl, hb, fun i hi => ?_, fun i hi => (hf' i hi).2.1, fun i hi => (hf' i hi).2.2⟩
    have g : ∀ j, j < 6 → w.cell? ⟨b, off + i * 6 + j, none⟩ = [Value.int .i64 (f i).1, .int .i64 (f i).2.1, .int .i64 (f i).2.2.1, .bool (f i).2.2.2.1, .int .i64 (f i).2.2.2.2.1, .int .i64 (f i).2.2.2.2.2][j]? := fun j hj => by
      rw [← Go.WideShapes.add_plain, ← Go.WideShapes.add_plain]; exact (hf' i hi).1 j hj
    exact ⟨g 0 (by decide), g 1 (by decide), g 2 (by decide), g 3 (by decide), g 4 (by decide), g 5 (by decide)⟩
theorem okWide_row {P : Program} {w : World} {r : Reach} {b0 n : Nat} {t e : TypeId} {v : Value} (ht : P.underlying t = some (.array n e)) (h : Value.okWide P w r b0 t v) : ∃ cs, v = .agg cs ∧ cs.size = P.cellsOf t := by
  unfold Value.okWide at h
  rw [ht] at h
  obtain ⟨cs, h1, h2, _⟩ := h
  exact ⟨cs, h1, h2⟩
theorem take_one {l : List Value} {i : Nat} {x : Value} (h : (l.drop i).take 1 = [x]) : l[i]? = some x := by
  have e : ((l.drop i).take 1)[0]? = some x := by rw [h]; rfl
  rw [List.getElem?_take, if_pos (by decide), List.getElem?_drop] at e
  exact e
set_option maxRecDepth 100000 in
theorem told_open {r : Reach} {b0 : Nat} {v : Value} {d : DataW H} {ps : List MemPlace} (hv : Value.okWide Tryd.prog w r b0 58 v) (h : DataW.Trod enc Tryd.prog w 0 (fun _ => true) true 58 v d ps) : ∃ T : Nat → Int, v = .agg #[.int .i64 (T 0), .int .i64 (T 1), .int .i64 (T 2), .int .i64 (T 3), .int .i64 (T 4), .int .i64 (T 5), .int .i64 (T 6), .int .i64 (T 7)] ∧ ∀ i, i < 8 → In64 (T i) := by
  obtain ⟨cs, hv', hs⟩ := okWide_row Tryd.underlying58 hv
  subst hv'
  have hs8 : cs.size = 8 := hs.trans (by kernel_rfl)
  obtain ⟨fuel, hf⟩ := h
  obtain ⟨xs, m, _, _, _, hx, hi⟩ := DataW.trod_array Tryd.underlying58 hf
  have k2 : Tryd.prog.cellsOf 2 = 1 := by kernel_rfl
  have all : ∀ i, ∃ n : Int, i < 8 → cs.toList[i]? = some (.int .i64 n) ∧ In64 n := by
    intro i
    by_cases h8 : i < 8
    · have e := hi i h8
      rw [k2, Nat.mul_one, List.getElem?_eq_getElem (by omega)] at e
      obtain ⟨n, g, _, wf⟩ := DataW.trod_int Tryd.underlying2 e
      exact ⟨n, fun _ => ⟨take_one g, bounds_i64 wf⟩⟩
    · exact ⟨0, fun h => absurd h h8⟩
  obtain ⟨T, hT⟩ := Classical.axiomOfChoice all
  refine ⟨T, ?_, fun i h8 => (hT i h8).2⟩
  congr 1
  apply Array.toList_inj.1
  apply List.ext_getElem?
  intro i
  by_cases h8 : i < 8
  · rw [(hT i h8).1]
    rcases (show i = 0 ∨ i = 1 ∨ i = 2 ∨ i = 3 ∨ i = 4 ∨ i = 5 ∨ i = 6 ∨ i = 7 by omega) with rfl | rfl | rfl | rfl | rfl | rfl | rfl | rfl <;> rfl
  · rw [List.getElem?_eq_none (by rw [Array.length_toList]; omega), List.getElem?_eq_none (by simp; omega)]
set_option maxRecDepth 100000 in
theorem table_open {r : Reach} {b0 : Nat} {v : Value} {d : DataW H} {ps : List MemPlace} (hv : Value.okWide Tryd.prog w r b0 61 v) (h : DataW.Trod enc Tryd.prog w 0 (fun _ => true) true 61 v d ps) : ∃ K : Nat → Int, v = .agg #[.int .i64 (K 0), .int .i64 (K 1), .int .i64 (K 2), .int .i64 (K 3), .int .i64 (K 4), .int .i64 (K 5), .int .i64 (K 6), .int .i64 (K 7), .int .i64 (K 8), .int .i64 (K 9), .int .i64 (K 10), .int .i64 (K 11), .int .i64 (K 12), .int .i64 (K 13), .int .i64 (K 14), .int .i64 (K 15)] ∧ ∀ i, i < 16 → In64 (K i) := by
  obtain ⟨cs, hv', hs⟩ := okWide_row Tryd.underlying61 hv
  subst hv'
  have hs16 : cs.size = 16 := hs.trans (by kernel_rfl)
  obtain ⟨fuel, hf⟩ := h
  obtain ⟨xs, m, _, _, _, hx, hi⟩ := DataW.trod_array Tryd.underlying61 hf
  have k2 : Tryd.prog.cellsOf 2 = 1 := by kernel_rfl
  have k4 : Tryd.prog.cellsOf 59 = 4 := by kernel_rfl
  have all : ∀ k, ∃ n : Int, k < 16 → cs.toList[k]? = some (.int .i64 n) ∧ In64 n := by
    intro k
    by_cases h16 : k < 16
    · have e := hi (k / 4) (by omega)
      rw [k4, List.getElem?_eq_getElem (by omega)] at e
      obtain ⟨ys, m2, _, _, _, hy, hj⟩ := DataW.trod_array Tryd.underlying59 e
      have e2 := hj (k % 4) (by omega)
      rw [k2, Nat.mul_one, List.getElem?_eq_getElem (by omega)] at e2
      obtain ⟨n, g, _, wf⟩ := DataW.trod_int Tryd.underlying2 e2
      have g2 := take_one g
      have hv2 : (List.take 4 (List.drop (k / 4 * 4) (Value.agg cs).cells.toList))[k % 4]? = some (.int .i64 n) := g2
      rw [List.getElem?_take, if_pos (by omega), List.getElem?_drop, show k / 4 * 4 + k % 4 = k by omega] at hv2
      exact ⟨n, fun _ => ⟨hv2, bounds_i64 wf⟩⟩
    · exact ⟨0, fun h => absurd h h16⟩
  obtain ⟨K, hK⟩ := Classical.axiomOfChoice all
  refine ⟨K, ?_, fun i h8 => (hK i h8).2⟩
  congr 1
  apply Array.toList_inj.1
  apply List.ext_getElem?
  intro i
  by_cases h8 : i < 16
  · rw [(hK i h8).1]
    rcases (show i = 0 ∨ i = 1 ∨ i = 2 ∨ i = 3 ∨ i = 4 ∨ i = 5 ∨ i = 6 ∨ i = 7 ∨ i = 8 ∨ i = 9 ∨ i = 10 ∨ i = 11 ∨ i = 12 ∨ i = 13 ∨ i = 14 ∨ i = 15 by omega) with rfl | rfl | rfl | rfl | rfl | rfl | rfl | rfl | rfl | rfl | rfl | rfl | rfl | rfl | rfl | rfl <;> rfl
  · rw [List.getElem?_eq_none (by rw [Array.length_toList]; omega), List.getElem?_eq_none (by simp; omega)]
end

/-! ### The library's variable -/
theorem own : ownKnob Tryd.prog.godebug = none := by kernel_rfl
theorem laidOut : laidOutB Tryd.prog = true := by kernel_rfl
theorem et : Tryd.prog.globalNamed "errors.errorType" = some 5 := by kernel_rfl
theorem rt : (Tryd.prog.cutTypes.find? (·.1 == "internal/reflectlite.rtype")).map (·.2) = some 186 := by kernel_rfl
theorem oneRow : ((List.range 232).filter fun t => Tryd.prog.rowNamed t [101, 114, 114, 111, 114]) = [25] := by kernel_rfl
theorem ntypes : Tryd.prog.types.size = 232 := by kernel_rfl
theorem handle_of_laid {W : World} (h : laidMetH Tryd.prog Rows.machineRunsRow.laid W) : HandleAt W := by
  have h' : laidMet Tryd.prog [] W ∧ handlesMet Tryd.prog Rows.machineRunsRow.laid W := h
  obtain ⟨name, u, ty, e1, e2, e3, e4, e5⟩ := h'.2 _ (List.mem_singleton.2 rfl)
  have en : name = [101, 114, 114, 111, 114] := (Option.some.inj e1).symm
  subst en
  obtain rfl := Option.some.inj (rt.symm.trans e2)
  have hm : ty ∈ (List.range 232).filter fun t => Tryd.prog.rowNamed t [101, 114, 114, 111, 114] := List.mem_filter.2 ⟨List.mem_range.2 (by rw [← ntypes]; exact e3), e4⟩
  rw [oneRow] at hm
  obtain rfl := List.mem_singleton.1 hm
  have hh : typeHandle Tryd.prog 25 = .pointer (some ⟨10, 25, none⟩) := by kernel_rfl
  rw [hh] at e5
  unfold HandleAt
  simpa using World.var?_cell et e5 0
theorem start_met (os : Os) (args : Array Value) : laidMetH Tryd.prog Rows.machineRunsRow.laid (({ World.holding Tryd.prog os ⟨#[], #[], []⟩ with heap := (World.holding Tryd.prog os ⟨#[], #[], []⟩).heap.modify 5 fun
      | .cells _ t frozen => .cells #[.iface 186 (.agg #[.pointer (some ⟨10, 25, none⟩)])] t frozen
      | o => o } : World).forCall (fun _ _ => 0) ⟨#[], args, []⟩).memory :=
  laidMetH_of_parts (laidMet_nil _ _) (by kernel_rfl)

set_option maxRecDepth 100000 in
theorem lifted (os : Os) (started : os.Started) (H : Type) (enc : TypeId × Value → H) :
    ReturnsInHanded {} Tryd.checked os 6 .any (fun w args => (Rows.machineRunsSpec.pre enc Tryd.prog Tryd.f6 [] false w args ∧ laidMetH Tryd.prog Rows.machineRunsRow.laid w) ∧ sizedMet enc Tryd.prog Tryd.f6 (OpenSpec.ofChange Rows.machineRunsSpec) false w args)
      (Rows.machineRunsSpec.post enc Tryd.prog Tryd.f6 false true false false) := by
  refine returnsInHanded_of_change_and (C := Tryd.checked) (X := fun w _ => laidMetH Tryd.prog Rows.machineRunsRow.laid w) (fun _ _ _ hh h => h.of_heap hh) own started (by kernel_rfl) Tryd.func6
    (ChangeSpec.witness_at (enc := enc) (C := Tryd.checked) (os := os) (X := fun w _ => laidMetH Tryd.prog Rows.machineRunsRow.laid w) false ({ World.holding Tryd.prog os ⟨#[], #[], []⟩ with heap := (World.holding Tryd.prog os ⟨#[], #[], []⟩).heap.modify 5 fun
      | .cells _ t frozen => .cells #[.iface 186 (.agg #[.pointer (some ⟨10, 25, none⟩)])] t frozen
      | o => o } : World) #[.slice none 0 0, .agg #[.int .i64 0, .int .i64 0, .int .i64 0, .int .i64 0, .int .i64 0, .int .i64 0, .int .i64 0, .int .i64 0], .agg #[.int .i64 0, .int .i64 0, .int .i64 0, .int .i64 0, .int .i64 0, .int .i64 0, .int .i64 0, .int .i64 0, .int .i64 0, .int .i64 0, .int .i64 0, .int .i64 0, .int .i64 0, .int .i64 0, .int .i64 0, .int .i64 0], .int .i64 0] 8 rfl (by kernel_rfl) (by kernel_rfl) (by kernel_rfl) (by kernel_rfl) (by kernel_rfl) (start_met os _)) ?_
  intro W base args ds gs before hval0 hW _ _ hL _
  have hval : ∀ (j : Nat) t v, Tryd.f6.params[j]? = some t → args[j]? = some v → Value.okWide Tryd.prog W .any base t v := hval0
  have hW' := hW
  obtain ⟨p, q, hA0, hV0, rfl, hfz, hnd⟩ := hW
  have hA : DataW.TrodAll enc Tryd.prog W 0 (fun _ => true) true Tryd.f6.params.toList args.toList ds p := hA0
  have hV : DataW.TrodVars enc Tryd.prog W (fun _ => true) [] gs q := hV0
  rw [Tryd.params6] at hA hval
  obtain ⟨v0, vs0, d0, ds0, p0, q0, hargs, rfl, rfl, h0, r0⟩ := trodAll_cons hA
  obtain ⟨v1, vs1, d1, ds1, p1, q1, rfl, rfl, rfl, h1, r1⟩ := trodAll_cons r0
  obtain ⟨v2, vs2, d2, ds2, p2, q2, rfl, rfl, rfl, h2, r2⟩ := trodAll_cons r1
  obtain ⟨v3, vs3, d3, ds3, p3, q3, rfl, rfl, rfl, h3, r3⟩ := trodAll_cons r2
  obtain ⟨rfl, rfl, rfl⟩ := trodAll_nil r3
  obtain rfl : args = #[v0, v1, v2, v3] := by cases args; simp_all
  obtain ⟨rfl, rfl⟩ := trodVars_none hV
  obtain ⟨a0, len0, cap0, rfl⟩ := okWide_slice Tryd.underlying22 (hval 0 22 v0 rfl rfl)
  obtain ⟨T, hv1, hT⟩ := told_open (hval 1 58 v1 rfl rfl) h1
  obtain ⟨K, hv2, hK⟩ := table_open (hval 2 61 v2 rfl rfl) h2
  obtain ⟨x, hv3, _, _, wx⟩ := open_int Tryd.underlying2 (hval 3 2 v3 rfl rfl) h3
  have lt0 : ∀ x ∈ p0, x.block < W.heap.size := by obtain ⟨m, hm⟩ := h0; exact DataW.trod_lt m _ _ _ hm
  have lt1 : ∀ x ∈ p1, x.block < W.heap.size := by obtain ⟨m, hm⟩ := h1; exact DataW.trod_lt m _ _ _ hm
  have lt2 : ∀ x ∈ p2, x.block < W.heap.size := by obtain ⟨m, hm⟩ := h2; exact DataW.trod_lt m _ _ _ hm
  have lt3 : ∀ x ∈ p3, x.block < W.heap.size := by obtain ⟨m, hm⟩ := h3; exact DataW.trod_lt m _ _ _ hm
  have hg := handle_of_laid hL
  have hwalk := walk a0 len0 cap0 T K x W (steps_open h0) hg hT hK (bounds_i64 wx)
  rw [← hv1, ← hv2, ← hv3] at hwalk
  refine hwalk.mono fun e W' ⟨he, bel⟩ => ?_
  subst he
  exact ⟨_, rfl, _, _, _, [], _, [], hW', trodAll_mk1 (shut_bool Tryd.underlying4 _), (trodAll_cons_mk (Below.trod laidOut (by kernel_rfl) (of_decide_eq_true (by kernel_rfl)) h0 bel lt0) (trodAll_cons_mk (Below.trod laidOut (by kernel_rfl) (of_decide_eq_true (by kernel_rfl)) h1 bel lt1) (trodAll_cons_mk (Below.trod laidOut (by kernel_rfl) (of_decide_eq_true (by kernel_rfl)) h2 bel lt2) (trodAll_cons_mk (Below.trod laidOut (by kernel_rfl) (of_decide_eq_true (by kernel_rfl)) h3 bel lt3) trodAll_mk0)))), rfl, bel.frame _, fun h => by cases h⟩

theorem machineRuns_row : Rows.MachineRunsSaid :=
  OpenClaim.holds_of_wide 6 Tryd.f6 rfl rfl rfl rfl rfl rfl rfl ⟨rfl, rfl, rfl, rfl, rfl⟩ rfl rfl rfl rfl rfl (by kernel_rfl) Tryd.func6 (by kernel_rfl)
    (of_decide_eq_true (by kernel_rfl)) (by unfold Func.isWrapper; rw [if_neg (of_decide_eq_false (by kernel_rfl))]; exact ⟨rfl, rfl⟩)
    (fun os started H enc _ => lifted os started H enc)
/-- The card: the row, its one listed variable tied to the program's text. -/
theorem machineRuns_holds : Rows.MachineRunsCardSaid :=
  Claim7.holds_tied_plain_at .later [] [.handle] true Rows.machineRunsCard.stood.harness true
    machineRuns_row (fun _ h => by cases h) (by kernel_rfl) (fun _ h => by cases h) machineRuns_row_tie rfl ⟨rfl, rfl⟩ (by kernel_rfl) rfl
    (fun f fn hf hfn => by
      obtain rfl : f = 6 := Option.some.inj ((show Tryd.prog.funcNamed "gatehouse/gatehouselaw.MachineRuns" = some 6 by kernel_rfl).symm.trans hf) |>.symm
      obtain rfl : fn = Tryd.f6 := (Option.some.inj (Tryd.func6.symm.trans hfn)).symm
      exact ⟨by kernel_rfl, fun j t ht => by
        rw [Tryd.params6] at ht
        have h3 : t = 22 ∨ t = 58 ∨ t = 61 ∨ t = 2 := by
          rcases j with _ | _ | _ | _ | j
          · exact Or.inl (by simpa using ht.symm)
          · exact Or.inr (Or.inl (by simpa using ht.symm))
          · exact Or.inr (Or.inr (Or.inl (by simpa using ht.symm)))
          · exact Or.inr (Or.inr (Or.inr (by simpa using ht.symm)))
          · simp at ht
        rcases h3 with rfl | rfl | rfl | rfl
        · exact (show Tryd.prog.wantsStandIn 22 = false by kernel_rfl)
        · exact (show Tryd.prog.wantsStandIn 58 = false by kernel_rfl)
        · exact (show Tryd.prog.wantsStandIn 61 = false by kernel_rfl)
        · exact (show Tryd.prog.wantsStandIn 2 = false by kernel_rfl)⟩)
    (by kernel_rfl)
#print axioms machineRuns_holds
end Go.Proofs.YtegeiicginpdbaaDoor
