/-
  From the reading of a list of steps to its cells: each step's six fields lie one behind the other, and its numbers are of 64 bits. Conditions: none. gatehousekeep.MachineSound returns true at every list of steps, every eight words, every table and every time. Conditions: the library's tables are as they are laid; numbers are of 64 bits. From the listed package variables to the tables that the walks read: the codes' names and what is called, of the project and of the document, and the library's powers of ten. Conditions: the listed variables read as the program's text lays them.
-/
import Derived.Test.YtednmkhdehlojaaGreatDoorJs16
import Derived.Test.YtednmkhdehlojaaGreatDoorJs5
import Derived.Deep.Slices
import Derived.ChangeSame
import Derived.ChangeVars
import Derived.ChangeOld
import Derived.Test.YtednmkhdehlojaaGreatDoorJs15
import Derived.Test.YtednmkhdehlojaaGreatDoorJs18
import Derived.Lib.LaidTab
import Derived.LaidHandle
import Derived.LaidLaws
open Go.Value renaming int → vI
open Go.IntKind renaming i64 → vK
set_option maxHeartbeats 4000000
set_option maxRecDepth 1000000
namespace Go.Proofs.YtednmkhdehlojaaGreatDoor
open Go.ChangeShapes Go.WideShapes Go.ChangeAt Go.RowKit

/-! ### From the reading to the cells -/
/-- What the walk is told of a list that came in: it is empty, or there are steps in a block, with numbers of 64 bits. -/
def IsStepsF (w : World) (a : Option Addr) (len : Nat) : Prop :=
  len = 0 ∨ ∃ (bk off : Nat) (C D S O N : Nat → Int) (R : Nat → Bool), a = some ⟨bk, off, none⟩ ∧ bk < w.heap.size ∧ StepsAt w bk off len C D S R O N ∧ ∀ i, i < len → Fits (O i) ∧ Fits (N i)
theorem fits_of {n : Int} (h : (Lit.int .i64 n).wf = true) : Fits n := by
  have h' : (decide (-9223372036854775808 ≤ n) && decide (n ≤ 9223372036854775807)) = true := h
  simp at h'
  exact h'
theorem open_cells_at {w : World} {base : Nat} {a : Addr} {n : Nat} {cs : List Value} (h : w.cells? base a n = some cs) (i : Nat) (hi : i < n) : w.cell? (a.add i) = cs[i]? := by
  unfold World.cells? at h
  split at h
  · exact mapM_some_get h i i (by simp [hi])
  · cases h
theorem six {l : List Value} (h : l.length = 6) : ∃ a b c d e f, l = [a, b, c, d, e, f] := by
  match l, h with
  | [a, b, c, d, e, f], _ => exact ⟨a, b, c, d, e, f, rfl⟩
section
variable {H : Type} {enc : TypeId × Value → H} {w : World}
theorem step_open {n : Nat} {cs : List Value} {x : DataW H × List MemPlace} (h : DataW.trod enc Tryz.prog w 0 (fun _ => true) true n 49 cs = some x) :
    ∃ y : Int × Int × Int × Bool × Int × Int, cs = [.int .i64 y.1, .int .i64 y.2.1, .int .i64 y.2.2.1, .bool y.2.2.2.1, .int .i64 y.2.2.2.2.1, .int .i64 y.2.2.2.2.2] ∧ Fits y.2.2.2.2.1 ∧ Fits y.2.2.2.2.2 := by
  obtain ⟨xs, m, _, _, hl, hx, hf⟩ := DataW.trod_struct Tryz.underlying49 h
  have hl6 : cs.length = 6 := by rw [hl]; kernel_rfl
  have hx6 : xs.length = 6 := hx
  obtain ⟨a, b, c, d, e, f, rfl⟩ := six hl6
  have k3 : Tryz.prog.cellsOf 3 = 1 := by kernel_rfl
  have k2 : Tryz.prog.cellsOf 2 = 1 := by kernel_rfl
  have k4 : Tryz.prog.cellsOf 4 = 1 := by kernel_rfl
  have at_ : ∀ i, i < 6 → ∃ y, xs[i]? = some y := fun i hi => ⟨xs[i]'(by omega), List.getElem?_eq_getElem _⟩
  obtain ⟨y0, e0⟩ := at_ 0 (by decide)
  obtain ⟨y1, e1⟩ := at_ 1 (by decide)
  obtain ⟨y2, e2⟩ := at_ 2 (by decide)
  obtain ⟨y3, e3⟩ := at_ 3 (by decide)
  obtain ⟨y4, e4⟩ := at_ 4 (by decide)
  obtain ⟨y5, e5⟩ := at_ 5 (by decide)
  have f0 : DataW.trod enc Tryz.prog w 0 (fun _ => true) true m 3 (([a, b, c, d, e, f].drop 0).take (Tryz.prog.cellsOf 3)) = some y0 := (hf 0 _ rfl).trans e0
  have f1 : DataW.trod enc Tryz.prog w 0 (fun _ => true) true m 3 (([a, b, c, d, e, f].drop 1).take (Tryz.prog.cellsOf 3)) = some y1 := (hf 1 _ rfl).trans e1
  have f2 : DataW.trod enc Tryz.prog w 0 (fun _ => true) true m 3 (([a, b, c, d, e, f].drop 2).take (Tryz.prog.cellsOf 3)) = some y2 := (hf 2 _ rfl).trans e2
  have f3 : DataW.trod enc Tryz.prog w 0 (fun _ => true) true m 4 (([a, b, c, d, e, f].drop 3).take (Tryz.prog.cellsOf 4)) = some y3 := (hf 3 _ rfl).trans e3
  have f4 : DataW.trod enc Tryz.prog w 0 (fun _ => true) true m 3 (([a, b, c, d, e, f].drop 4).take (Tryz.prog.cellsOf 3)) = some y4 := (hf 4 _ rfl).trans e4
  have f5 : DataW.trod enc Tryz.prog w 0 (fun _ => true) true m 2 (([a, b, c, d, e, f].drop 5).take (Tryz.prog.cellsOf 2)) = some y5 := (hf 5 _ rfl).trans e5
  rw [k3] at f0 f1 f2 f4
  rw [k4] at f3
  rw [k2] at f5
  obtain ⟨n0, g0, _, _⟩ := DataW.trod_int Tryz.underlying3 f0
  obtain ⟨n1, g1, _, _⟩ := DataW.trod_int Tryz.underlying3 f1
  obtain ⟨n2, g2, _, _⟩ := DataW.trod_int Tryz.underlying3 f2
  obtain ⟨n3, g3, _⟩ := DataW.trod_bool Tryz.underlying4 f3
  obtain ⟨n4, g4, _, b4⟩ := DataW.trod_int Tryz.underlying3 f4
  obtain ⟨n5, g5, _, b5⟩ := DataW.trod_int Tryz.underlying2 f5
  simp at g0 g1 g2 g3 g4 g5
  exact ⟨(n0, n1, n2, n3, n4, n5), by rw [g0, g1, g2, g3, g4, g5], fits_of b4, fits_of b5⟩
theorem steps_open {a : Option Addr} {len cap : Nat} {d : DataW H} {ps : List MemPlace} (h : DataW.Trod enc Tryz.prog w 0 (fun _ => true) true 22 (.slice a len cap) d ps) : IsStepsF w a len := by
  obtain ⟨fuel, hf⟩ := h
  rcases Deep.open_slice Tryz.underlying22 hf with ⟨hcs, _⟩ | ⟨x, l, c, m, n, Da, Pl, hcs, _, hl, hm, hmm, _, hx⟩
  · simp [Value.cells] at hcs
    exact Or.inl hcs.2.1
  · simp [Value.cells] at hcs
    obtain ⟨rfl, rfl, rfl⟩ := hcs
    by_cases h0 : len = 0
    · exact Or.inl h0
    have hc6 : Tryz.prog.cellsOf 49 = 6 := by kernel_rfl
    have all : ∀ i, ∃ y : Int × Int × Int × Bool × Int × Int, i < len → (∀ j, j < 6 → w.cell? ((x.add (i * 6)).add j) = [Value.int .i64 y.1, .int .i64 y.2.1, .int .i64 y.2.2.1, .bool y.2.2.2.1, .int .i64 y.2.2.2.2.1, .int .i64 y.2.2.2.2.2][j]?) ∧ Fits y.2.2.2.2.1 ∧ Fits y.2.2.2.2.2 := by
      intro i
      by_cases hi : i < len
      · have him : i < m := by rw [hmm]; simp; omega
        obtain ⟨cs, hcc, ht⟩ := hx i him
        rw [hc6] at hcc
        obtain ⟨y, hy, hf4, hf5⟩ := step_open ht
        refine ⟨y, fun _ => ⟨fun j hj => ?_, hf4, hf5⟩⟩
        rw [← hy]
        exact open_cells_at hcc j hj
      · exact ⟨(0, 0, 0, false, 0, 0), fun h => absurd h hi⟩
    obtain ⟨f, hf'⟩ := Classical.axiomOfChoice all
    obtain ⟨b, off, spot⟩ := x
    have hc0 := (hf' 0 (by omega)).1 0 (by decide)
    have hspot : spot = none := by simpa [Addr.add] using World.cell?_spot hc0
    subst hspot
    have hb : b < w.heap.size := by
      rcases Nat.lt_or_ge b w.heap.size with g | g
      · exact g
      · simp [World.cell?, Addr.add, Array.getElem?_eq_none g] at hc0
    refine Or.inr ⟨b, off, fun i => (f i).1, fun i => (f i).2.1, fun i => (f i).2.2.1, fun i => (f i).2.2.2.2.1, fun i => (f i).2.2.2.2.2, fun i => (f i).2.2.2.1, rfl, hb, fun i hi => ?_, fun i hi => (hf' i hi).2⟩
    have g : ∀ j, j < 6 → w.cell? ⟨b, off + i * 6 + j, none⟩ = [Value.int .i64 (f i).1, .int .i64 (f i).2.1, .int .i64 (f i).2.2.1, .bool (f i).2.2.2.1, .int .i64 (f i).2.2.2.2.1, .int .i64 (f i).2.2.2.2.2][j]? := fun j hj => by
      rw [← Go.WideShapes.add_plain, ← Go.WideShapes.add_plain]; exact (hf' i hi).1 j hj
    exact ⟨g 0 (by decide), g 1 (by decide), g 2 (by decide), g 3 (by decide), g 4 (by decide), g 5 (by decide)⟩
end
end Go.Proofs.YtednmkhdehlojaaGreatDoor
namespace Go.Proofs.YtednmkhdehlojaaGreatDoor
open Go.ChangeShapes Go.WideShapes Go.ChangeAt Go.RowKit
variable {ex : Ext}
theorem sound_all (he : ∀ w, ex.holds w → ErrTabs w) (hu : ∀ w, ex.holds w → Lib.Utf8Tabs 7 8 w) (a : Option Addr) (len cap : Nat) (T K : Nat → Int) (time : Int) (w : World) (hs : IsStepsF w a len) (hT0 : Tabs ex w) (hg : HandleAt w) (hT : ∀ i, i < 8 → In64 (T i)) (hK : ∀ i, i < 16 → In64 (K i)) (ht : In64 time) :
    Calls Tryz.prog 7 #[.slice a len cap, .agg #[vI vK (T 0), vI vK (T 1), vI vK (T 2), vI vK (T 3), vI vK (T 4), vI vK (T 5), vI vK (T 6), vI vK (T 7)], .agg #[vI vK (K 0), vI vK (K 1), vI vK (K 2), vI vK (K 3), vI vK (K 4), vI vK (K 5), vI vK (K 6), vI vK (K 7), vI vK (K 8), vI vK (K 9), vI vK (K 10), vI vK (K 11), vI vK (K 12), vI vK (K 13), vI vK (K 14), vI vK (K 15)], vI vK time] w fun e w' => e = .returned (.bool true) ∧ Below w.heap.size w w' := by
  by_cases k1 : 300 < len
  · exact sound_long a len cap T K time k1 w
  have HL := fun (W : World) (hW : Below w.heap.size w W) => let_true he hu W (hT0.on hW hT0.room) (hg.later hW)
  have HR := fun (W : World) (hW : Below w.heap.size w W) => runs_true he hu W (hT0.on hW hT0.room)
  by_cases k2 : len < 1 ∨ 200 < len
  · exact sound_err a len cap T K time w (by omega) HL HR (fun W hW => (verify_limit a len cap k2 W).mono fun e w' h => ⟨_, h.1, _, _, rfl, h.2⟩)
  rcases hs with h0 | ⟨bk, off, C, D, S, O, N, R, rfl, hbk, hst, hf⟩
  · omega
  have hf' : ∀ i, i < len → In64 (O i) ∧ In64 (N i) := fun i hi => hf i hi
  have hbk' : ∀ W, Below w.heap.size w W → bk < W.heap.size := fun W hW => Nat.lt_of_lt_of_le hbk hW.size
  rcases first_fault (faultAt len C D S R O N) len with h | ⟨i, hi, hno, hfa⟩
  · rcases hgo : goF C D S R O N 4000 [(0, way0)] [] with ⟨er, i⟩ | es
    · exact sound_err _ len cap T K time w (by omega) HL HR (fun W hW => (verify_bad bk off len cap C D S O N R W (by omega) (by omega) (hbk' W hW) (hst.later hW hbk) h hf' er i hgo).mono fun e w' hh => by obtain ⟨p, h1, h2, _⟩ := hh; exact ⟨_, h1, _, _, rfl, h2⟩)
    · have hz : ∀ i, i < 16 → In64 ((fun _ => (0 : Int)) i) := fun i _ => ⟨by show (-9223372036854775808 : Int) ≤ 0; decide, by show (0 : Int) ≤ 9223372036854775807; decide⟩
      obtain ⟨n1, s1, a1, e1, f1⟩ := sound_run (by omega) h hf' hgo T K time hT hK ht
      obtain ⟨n2, s2, a2, e2, f2⟩ := sound_run (by omega) h hf' hgo T (fun _ => 0) time hT hz ht
      exact sound_walk bk off len cap T K time w (by omega) _ _ HL HR (fun W hW => verify_fine bk off len cap C D S O N R W (by omega) (by omega) (hbk' W hW) (hst.later hW hbk) h hf' es hgo)
        n1 s1 a1 f1 (fun W hW => run_fine bk off len cap C D S O N R T K time W (by omega) (by omega) (hbk' W hW) (hst.later hW hbk) h (fun i hi => (hf' i hi).2) hT hK ht n1 s1 a1 e1)
        n2 s2 a2 f2 (fun W hW => run_fine bk off len cap C D S O N R T (fun _ => 0) time W (by omega) (by omega) (hbk' W hW) (hst.later hW hbk) h (fun i hi => (hf' i hi).2) hT hz ht n2 s2 a2 e2)
  · exact sound_err _ len cap T K time w (by omega) HL HR (fun W hW => (verify_wrong bk off len cap C D S O N R W (by omega) (by omega) (hbk' W hW) (hst.later hW hbk) i hi hno hfa).mono fun e w' hh => by obtain ⟨p, h1, h2, _⟩ := hh; exact ⟨_, h1, _, _, rfl, h2⟩)
end Go.Proofs.YtednmkhdehlojaaGreatDoor
namespace Go.Proofs.YtednmkhdehlojaaGreatDoor
open Go.ChangeShapes Go.WideShapes Go.ChangeAt Go.RowKit

/-- A table of texts, as a row lists it. -/
def strsData {H : Type} (xs : List (List UInt8)) : DataW H := .agg (xs.map fun b => .lit (.string b))
theorem cells_of_strs {H : Type} {enc : TypeId × Value → H} {P : Program} {w : World} {base : Nat} {sp : Nat → Bool} {held : Bool} {fuel : Nat} {t e : TypeId} {n : Nat} {cs : List Value} {xs : List (List UInt8)} {p : List MemPlace}
    (ht : P.underlying t = some (.array n e)) (he : P.underlying e = some .string) (hce : P.cellsOf e = 1) (hct : P.cellsOf t = n)
    (h : DataW.trod enc P w base sp held fuel t cs = some (strsData xs, p)) : ∀ (i : Nat) (b : List UInt8), xs[i]? = some b → cs[i]? = some (Value.string ⟨b.toArray⟩) := by
  intro i b hib
  cases fuel with
  | zero => simp [DataW.trod] at h
  | succ fuel =>
    simp only [DataW.trod, ht, hce, hct, Nat.mul_one] at h
    split at h
    · obtain ⟨ys, hm, hx⟩ := Option.map_eq_some_iff.1 h
      have hxs : ys.map (·.1) = xs.map fun b => (DataW.lit (.string b) : DataW H) := by
        have := congrArg Prod.fst hx
        simpa [strsData] using this
      have hyl : ys.length = n := by simpa using Lib.mapM_length hm
      have hxl : xs.length = n := by
        have := congrArg List.length hxs
        simp at this
        omega
      have hi : i < n := by
        have := (List.getElem?_eq_some_iff.1 hib).1
        omega
      obtain ⟨y, hy, hf⟩ := Lib.mapM_at hm i i (by simp [hi])
      obtain ⟨s, hc, rfl, _⟩ := DataW.trod_string he hf
      have h1 : cs[i]? = some (.string s) := by
        have := congrArg (·[0]?) hc
        simpa [List.getElem?_take, List.getElem?_drop] using this
      have h2 : (ys.map (·.1))[i]? = some (DataW.lit (.string s.data.toList) : DataW H) := by simp [hy]
      rw [hxs] at h2
      simp only [List.getElem?_map, hib, Option.map_some, Option.some.injEq, DataW.lit.injEq, Lit.string.injEq] at h2
      rw [h1, h2]
    · cases h
theorem laid_each {P : Program} {w : World} : ∀ {l : List (String × DataW Unit)} {ps : List MemPlace}, DataW.LaidVars P w l ps → ∀ x ∈ l, ∃ g t cs fuel p, P.globalNamed x.1 = some g ∧ (P.globals[g]?).map (·.type) = some t ∧ w.var? P x.1 = some cs ∧ DataW.trod (fun _ => ()) P w 0 (fun _ => true) false fuel t cs.toList = some (x.2, p)
  | [], _, _, x, hx => by cases hx
  | (n, d) :: r, ps, h, x, hx => by
    obtain ⟨g, t, cs, fuel, p, q, h1, h2, h3, h4, h5, _⟩ := h
    rcases List.mem_cons.1 hx with rfl | hx
    · exact ⟨g, t, cs, fuel, p, h1, h2, h3, h4⟩
    · exact laid_each h5 x hx
theorem table_cells {P : Program} {w : World} {l : List (String × DataW Unit)} (h : laidMet P l w) {name : String} {xs : List (List UInt8)} {g n : Nat} {t e : TypeId} (hx : (name, strsData xs) ∈ l)
    (hg : P.globalNamed name = some g) (hty : (P.globals[g]?).map (·.type) = some t) (ht : P.underlying t = some (.array n e)) (he : P.underlying e = some .string) (hce : P.cellsOf e = 1) (hct : P.cellsOf t = n) :
    ∀ (i : Nat) (b : List UInt8), xs[i]? = some b → w.cell? ⟨g, i, none⟩ = some (.string ⟨b.toArray⟩) := by
  obtain ⟨ps, hl, _⟩ := h
  obtain ⟨g', t', cs, fuel, p, h1, h2, h3, h4⟩ := laid_each hl _ hx
  obtain rfl := Option.some.inj (hg.symm.trans h1)
  obtain rfl := Option.some.inj (hty.symm.trans h2)
  intro i b hib
  have h5 := cells_of_strs ht he hce hct h4 i b hib
  have h6 := World.var?_cell hg h3 i
  rw [h6, ← h5, Array.getElem?_toList]
theorem pows_of {w : World} {l : List (String × DataW Unit)} (h : laidMet Tryz.prog l w) (hx : ("internal/strconv.uint64pow10", Rows.laid_internal_strconv_uint64pow10) ∈ l) : Lib.TabIs Tryz.prog w "internal/strconv.uint64pow10" .u64 Lib.pow10Tab := by
  obtain ⟨ps, hl, _⟩ := h
  obtain ⟨g', t', cs, fuel, p, h1, h2, h3, h4⟩ := laid_each hl _ hx
  obtain rfl := Option.some.inj (powsAt.symm.trans h1)
  obtain rfl := Option.some.inj ((show (Tryz.prog.globals[11]?).map (·.type) = some 290 by kernel_rfl).symm.trans h2)
  have h5 : cs.toList = Lib.pow10Tab.map fun z => Value.int .u64 z := Lib.cells_of_tab (n := 20) (e := 245) Tryz.underlying290 Tryz.underlying245 (by kernel_rfl) (by kernel_rfl) (show DataW.trod (fun _ => ()) Tryz.prog w 0 (fun _ => true) false fuel 290 cs.toList = some (Lib.tabData .u64 Lib.pow10Tab, p) from h4)
  unfold Lib.TabIs
  rw [h3, ← h5]
/-- The project's tables, where they are listed. -/
theorem tabs_of_laid {ex : Ext} {w : World} {l : List (String × DataW Unit)} (h : laidMet Tryz.prog l w) (h0 : ("internal/strconv.uint64pow10", Rows.laid_internal_strconv_uint64pow10) ∈ l)
    (h1 : ("gatehouse/asm.names", Rows.laid_gatehouse_asm_names) ∈ l) (h2 : ("gatehouse/asm.calls", Rows.laid_gatehouse_asm_calls) ∈ l) (hroom : 14 ≤ w.heap.size) (hx : ex.holds w) : Tabs ex w := by
  have e1 := table_cells h (xs := namesL) (g := 2) (n := 29) (t := 110) (e := 9) h1 (by kernel_rfl) (by kernel_rfl) Tryz.underlying110 Tryz.underlying9 (by kernel_rfl) (by kernel_rfl)
  have e2 := table_cells h (xs := callsL) (g := 5) (n := 4) (t := 117) (e := 9) h2 (by kernel_rfl) (by kernel_rfl) Tryz.underlying117 Tryz.underlying9 (by kernel_rfl) (by kernel_rfl)
  refine ⟨hroom, fun i hi => ?_, fun i hi => ?_, pows_of h h0, hx⟩
  · exact e1 i _ (by rw [List.getD_eq_getElem?_getD, List.getElem?_eq_getElem (show i < namesL.length from hi)]; rfl)
  · exact e2 i _ (by rw [List.getD_eq_getElem?_getD, List.getElem?_eq_getElem (show i < callsL.length from hi)]; rfl)
theorem rt : (Tryz.prog.cutTypes.find? (·.1 == "internal/reflectlite.rtype")).map (·.2) = some 196 := by kernel_rfl
theorem oneRow : ((List.range 331).filter fun t => Tryz.prog.rowNamed t [101, 114, 114, 111, 114]) = [29] := by kernel_rfl
theorem ntypes : Tryz.prog.types.size = 331 := by kernel_rfl
theorem et : Tryz.prog.globalNamed "errors.errorType" = some 4 := by kernel_rfl
theorem handle_met {W : World} (h : handlesMet Tryz.prog [("errors.errorType", Rows.laid_errors_errorType)] W) : HandleAt W := by
  obtain ⟨name, u, ty, e1, e2, e3, e4, e5⟩ := h _ (List.mem_singleton.2 rfl)
  have en : name = [101, 114, 114, 111, 114] := (Option.some.inj e1).symm
  subst en
  obtain rfl := Option.some.inj (rt.symm.trans e2)
  have hm : ty ∈ (List.range 331).filter fun t => Tryz.prog.rowNamed t [101, 114, 114, 111, 114] := List.mem_filter.2 ⟨List.mem_range.2 (by rw [← ntypes]; exact e3), e4⟩
  rw [oneRow] at hm
  obtain rfl := List.mem_singleton.1 hm
  have hh : typeHandle Tryz.prog 29 = .pointer (some ⟨14, 29, none⟩) := by kernel_rfl
  rw [hh] at e5
  unfold HandleAt
  simpa using World.var?_cell et e5 0
end Go.Proofs.YtednmkhdehlojaaGreatDoor
