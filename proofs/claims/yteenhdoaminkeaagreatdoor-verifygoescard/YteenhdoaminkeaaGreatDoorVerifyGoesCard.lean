/-
 VerifyGoes returns true at every list of steps, and changes nothing that was there: whether a program can go wrong, where first, and between which numbers it ends, is what the document says. Conditions: the library's variable errors.errorType and the document's variable of all numbers start as the program's text lays them.
-/
import Derived.Test.YteenhdoaminkeaaGreatDoorJv33
import Derived.Test.YteenhdoaminkeaaGreatDoorTie
import Derived.Test.YteenhdoaminkeaaGreatDoorCards
import Derived.Deep.Slices
import Derived.ChangeSame
import Derived.ChangeVars
import Derived.ChangeOld
import Derived.JoinedOf
import Derived.LaidLaws
import Derived.LaidHandle
import Derived.Stop.Joined
import Derived.SevenTiedAt
import Derived.Deep.DeepLaidRun
import Derived.Lib.SmallJoins
import Derived.Lib.LaidU8
set_option maxHeartbeats 40000000
set_option maxRecDepth 1000000
set_option linter.defProp false
set_option linter.unusedVariables false
set_option linter.unusedSimpArgs false
namespace Go.Proofs.YteenhdoaminkeaaGreatDoor
open Go.ChangeShapes Go.WideShapes Go.ChangeAt Go.RowKit
open Go.Joins
set_option linter.unusedVariables false
/-! ### From the reading to the cells -/
theorem cells_at {w : World} {base : Nat} {a : Addr} {n : Nat} {cs : List Value} (h : w.cells? base a n = some cs) (i : Nat) (hi : i < n) : w.cell? (a.add i) = cs[i]? := by
 unfold World.cells? at h
 split at h
 ·exact mapM_some_get h i i (by simp [hi])
 ·cases h
theorem six {l : List Value} (h : l.length = 6) : ∃ a b c d e f, l = [a, b, c, d, e, f] := by
 match l, h with
 | [a, b, c, d, e, f], _ => exact ⟨a, b, c, d, e, f, rfl⟩
section
variable {H : Type} {enc : TypeId × Value → H} {w : World}
theorem step_open {n : Nat} {cs : List Value} {x : DataW H × List MemPlace} (h : DataW.trod enc Tryz.prog w 0 (fun _ => true) true n 59 cs = some x) :
  ∃ y : Int × Int × Int × Bool × Int × Int, cs = [.int .i64 y.1, .int .i64 y.2.1, .int .i64 y.2.2.1, .bool y.2.2.2.1, .int .i64 y.2.2.2.2.1, .int .i64 y.2.2.2.2.2] ∧ In64 y.2.2.2.2.1 ∧ In64 y.2.2.2.2.2 := by
 obtain ⟨xs, m, _, _, hl, hx, hf⟩ := DataW.trod_struct Tryz.underlying59 h
 have hl6 : cs.length = 6 := by rw [hl]; kernel_rfl
 have hx6 : xs.length = 6 := hx
 obtain ⟨a, b, c, d, e, f, rfl⟩ := six hl6
 have k3 : Tryz.prog.cellsOf 3 = 1 := by kernel_rfl
 have k2 : Tryz.prog.cellsOf 2 = 1 := by kernel_rfl
 have k4 : Tryz.prog.cellsOf 4 = 1 := by kernel_rfl
 have at_ : ∀ i, i < 6 → ∃ y, xs[i]? = some y := fun i hi => ⟨xs[i]'(by omega), List.getElem?_eq_getElem _⟩
 obtain ⟨y0, e0⟩ := at_ 0 (by decide)
 obtain ⟨y1, e1⟩ := at_ 1 (by decide)
 obtain ⟨y2, e2⟩ := at_ 2 (by decide)
 obtain ⟨y3, e3⟩ := at_ 3 (by decide)
 obtain ⟨y4, e4⟩ := at_ 4 (by decide)
 obtain ⟨y5, e5⟩ := at_ 5 (by decide)
 have f0 : DataW.trod enc Tryz.prog w 0 (fun _ => true) true m 3 (([a, b, c, d, e, f].drop 0).take (Tryz.prog.cellsOf 3)) = some y0 := (hf 0 _ rfl).trans e0
 have f1 : DataW.trod enc Tryz.prog w 0 (fun _ => true) true m 3 (([a, b, c, d, e, f].drop 1).take (Tryz.prog.cellsOf 3)) = some y1 := (hf 1 _ rfl).trans e1
 have f2 : DataW.trod enc Tryz.prog w 0 (fun _ => true) true m 3 (([a, b, c, d, e, f].drop 2).take (Tryz.prog.cellsOf 3)) = some y2 := (hf 2 _ rfl).trans e2
 have f3 : DataW.trod enc Tryz.prog w 0 (fun _ => true) true m 4 (([a, b, c, d, e, f].drop 3).take (Tryz.prog.cellsOf 4)) = some y3 := (hf 3 _ rfl).trans e3
 have f4 : DataW.trod enc Tryz.prog w 0 (fun _ => true) true m 3 (([a, b, c, d, e, f].drop 4).take (Tryz.prog.cellsOf 3)) = some y4 := (hf 4 _ rfl).trans e4
 have f5 : DataW.trod enc Tryz.prog w 0 (fun _ => true) true m 2 (([a, b, c, d, e, f].drop 5).take (Tryz.prog.cellsOf 2)) = some y5 := (hf 5 _ rfl).trans e5
 rw [k3] at f0 f1 f2 f4
 rw [k4] at f3
 rw [k2] at f5
 obtain ⟨n0, g0, _, _⟩ := DataW.trod_int Tryz.underlying3 f0
 obtain ⟨n1, g1, _, _⟩ := DataW.trod_int Tryz.underlying3 f1
 obtain ⟨n2, g2, _, _⟩ := DataW.trod_int Tryz.underlying3 f2
 obtain ⟨n3, g3, _⟩ := DataW.trod_bool Tryz.underlying4 f3
 obtain ⟨n4, g4, _, w4⟩ := DataW.trod_int Tryz.underlying3 f4
 obtain ⟨n5, g5, _, w5⟩ := DataW.trod_int Tryz.underlying2 f5
 simp at g0 g1 g2 g3 g4 g5
 exact ⟨(n0, n1, n2, n3, n4, n5), by rw [g0, g1, g2, g3, g4, g5], bounds_i64 w4, bounds_i64 w5⟩
theorem steps_open {a : Option Addr} {len cap : Nat} {d : DataW H} {ps : List MemPlace} (h : DataW.Trod enc Tryz.prog w 0 (fun _ => true) true 22 (.slice a len cap) d ps) : zGu w a len := by
 obtain ⟨fuel, hf⟩ := h
 rcases Deep.open_slice Tryz.underlying22 hf with ⟨hcs, _⟩ | ⟨x, l, c, m, n, Da, Pl, hcs, _, hl, hm, hmm, _, hx⟩
 ·simp [Value.cells] at hcs
  exact Or.inl hcs.2.1
 ·simp [Value.cells] at hcs
  obtain ⟨rfl, rfl, rfl⟩ := hcs
  by_cases h0 : len = 0
  ·exact Or.inl h0
  have hc6 : Tryz.prog.cellsOf 59 = 6 := by kernel_rfl
  have all : ∀ i, ∃ y : Int × Int × Int × Bool × Int × Int, i < len → (∀ j, j < 6 → w.cell? ((x.add (i * 6)).add j) = [Value.int .i64 y.1, .int .i64 y.2.1, .int .i64 y.2.2.1, .bool y.2.2.2.1, .int .i64 y.2.2.2.2.1, .int .i64 y.2.2.2.2.2][j]?) ∧ In64 y.2.2.2.2.1 ∧ In64 y.2.2.2.2.2 := by
   intro i
   by_cases hi : i < len
   ·have him : i < m := by rw [hmm]; simp; omega
    obtain ⟨cs, hcc, ht⟩ := hx i him
    rw [hc6] at hcc
    obtain ⟨y, hy, i4, i5⟩ := step_open ht
    refine ⟨y, fun _ => ⟨fun j hj => ?_, i4, i5⟩⟩
    rw [← hy]
    exact cells_at hcc j hj
   ·exact ⟨(0, 0, 0, false, 0, 0), fun h => absurd h hi⟩
  obtain ⟨f, hf'⟩ := Classical.axiomOfChoice all
  obtain ⟨b, off, spot⟩ := x
  have hc0 := (hf' 0 (by omega)).1 0 (by decide)
  have hspot : spot = none := by simpa [Addr.add] using World.cell?_spot hc0
  subst hspot
  have hb : b < w.heap.size := by
   rcases Nat.lt_or_ge b w.heap.size with g | g
   ·exact g
   ·simp [World.cell?, Addr.add, Array.getElem?_eq_none g] at hc0
  refine Or.inr ⟨b, off, fun i => (f i).1, fun i => (f i).2.1, fun i => (f i).2.2.1, fun i => (f i).2.2.2.2.1, fun i => (f i).2.2.2.2.2, fun i => (f i).2.2.2.1, rfl, hb, fun i hi => ?_, fun i hi => (hf' i hi).2.1, fun i hi => (hf' i hi).2.2⟩
  have g : ∀ j, j < 6 → w.cell? ⟨b, off + i * 6 + j, none⟩ = [Value.int .i64 (f i).1, .int .i64 (f i).2.1, .int .i64 (f i).2.2.1, .bool (f i).2.2.2.1, .int .i64 (f i).2.2.2.2.1, .int .i64 (f i).2.2.2.2.2][j]? := fun j hj => by
   rw [← Go.WideShapes.add_plain, ← Go.WideShapes.add_plain]; exact (hf' i hi).1 j hj
  exact ⟨g 0 (by decide), g 1 (by decide), g 2 (by decide), g 3 (by decide), g 4 (by decide), g 5 (by decide)⟩
end
/-! ### The library's variable -/
theorem own : ownKnob Tryz.prog.godebug = none := by kernel_rfl
theorem laidOut : laidOutB Tryz.prog = true := by kernel_rfl
theorem et : Tryz.prog.globalNamed "errors.errorType" = some 1 := by kernel_rfl
theorem rt : (Tryz.prog.cutTypes.find? (·.1 == "internal/reflectlite.rtype")).map (·.2) = some 143 := by kernel_rfl
theorem oneRow : ((List.range 203).filter fun t => Tryz.prog.rowNamed t [101, 114, 114, 111, 114]) = [32] := by kernel_rfl
theorem ntypes : Tryz.prog.types.size = 203 := by kernel_rfl
theorem var_lt {P : Program} {w : World} {n : String} {g : Nat} {cs : Array Value} (hg : P.globalNamed n = some g) (h : w.var? P n = some cs) : g < w.heap.size := by
 rcases Nat.lt_or_ge g w.heap.size with k | k
 ·exact k
 ·simp [World.var?, hg, Array.getElem?_eq_none k] at h
theorem laid_all {W : World} (h' : laidMet Tryz.prog [("gatehouse/gatehouseref.all", Rows.laid_gatehouse_gatehouseref_all)] W) : z0a W := by
 obtain ⟨g, t, cs, fuel, p, hg, hty, hvar, hd⟩ := Lib.laidMet.reads h' (n := "gatehouse/gatehouseref.all") (d := Rows.laid_gatehouse_gatehouseref_all) (by simp)
 obtain rfl := Option.some.inj ((show Tryz.prog.globalNamed "gatehouse/gatehouseref.all" = some 0 by kernel_rfl).symm.trans hg)
 obtain rfl := Option.some.inj ((show (Tryz.prog.globals[0]?).map (·.type) = some 24 by kernel_rfl).symm.trans hty)
 have hl := Lib.ints_of_struct (zs := [-9223372036854775808, 9223372036854775807]) (k := .i64) Tryz.underlying24 (fun i f hf => by
  rcases i with _ | _ | i
  ·obtain rfl := Option.some.inj hf; exact ⟨Tryz.underlying2, rfl, by kernel_rfl⟩
  ·obtain rfl := Option.some.inj hf; exact ⟨Tryz.underlying2, rfl, by kernel_rfl⟩
  ·simp at hf) (by kernel_rfl) hd
 have hx : cs = #[.int .i64 (-9223372036854775808), .int .i64 9223372036854775807] := by
  have e := congrArg List.toArray hl
  simpa using e
 subst hx
 exact ⟨var_lt hg hvar, (World.var?_cell hg hvar 0).trans rfl, (World.var?_cell hg hvar 1).trans rfl⟩
theorem handle_met {W : World} (h : handlesMet Tryz.prog [("errors.errorType", Rows.laid_errors_errorType)] W) : z23 W := by
 obtain ⟨name, u, ty, e1, e2, e3, e4, e5⟩ := h _ (List.mem_singleton.2 rfl)
 have en : name = [101, 114, 114, 111, 114] := (Option.some.inj e1).symm
 subst en
 obtain rfl := Option.some.inj (rt.symm.trans e2)
 have hm : ty ∈ (List.range 203).filter fun t => Tryz.prog.rowNamed t [101, 114, 114, 111, 114] := List.mem_filter.2 ⟨List.mem_range.2 (by rw [← ntypes]; exact e3), e4⟩
 rw [oneRow] at hm
 obtain rfl := List.mem_singleton.1 hm
 have hh : typeHandle Tryz.prog 32 = .pointer (some ⟨2, 32, none⟩) := by kernel_rfl
 rw [hh] at e5
 unfold z23
 simpa using World.var?_cell et e5 0
/-- A start: the listed variables hold what the text lays. -/
def laidHeap (h : Array Obj) : Array Obj :=
 let put (g : Nat) (cs : Array Value) (h : Array Obj) : Array Obj := h.modify g fun
  | .cells _ t frozen => .cells cs t frozen
  | o => o
 put 1 #[.iface 143 (.agg #[.pointer (some ⟨2, 32, none⟩)])] (put 0 #[.int .i64 (-9223372036854775808), .int .i64 9223372036854775807] h)
def laidW (w : World) : World := { w with heap := laidHeap w.heap }
theorem start_met (os : Os) (args : Array Value) : laidMetH Tryz.prog Rows.verifyGoesRow.laid ((laidW (World.holding Tryz.prog os ⟨#[], #[], []⟩)).forCall (fun _ _ => 0) ⟨#[], args, []⟩).memory :=
 laidMetH_of_parts (laidMet_of_run3 8 (by kernel_rfl) (by kernel_rfl) (by kernel_rfl)) (by kernel_rfl)
theorem laid_both {W : World} (h : laidMetH Tryz.prog Rows.verifyGoesRow.laid W) : z0a W ∧ z23 W := by
 have h' : laidMet Tryz.prog [("gatehouse/gatehouseref.all", Rows.laid_gatehouse_gatehouseref_all)] W ∧ handlesMet Tryz.prog [("errors.errorType", Rows.laid_errors_errorType)] W := h
 exact ⟨laid_all h'.1, handle_met h'.2⟩

set_option maxRecDepth 100000 in
theorem lifted (os : Os) (started : os.Started) (H : Type) (enc : TypeId × Value → H) :
  ReturnsInHanded {} Tryz.checked os 3 .any (fun w args => (Rows.verifyGoesSpec.pre enc Tryz.prog Tryz.f3 [] false w args ∧ laidMetH Tryz.prog Rows.verifyGoesRow.laid w) ∧ sizedMet enc Tryz.prog Tryz.f3 (OpenSpec.ofChange Rows.verifyGoesSpec) false w args)
   (Rows.verifyGoesSpec.post enc Tryz.prog Tryz.f3 false true false false) := by
 refine returnsInHanded_of_change_and (C := Tryz.checked) (X := fun w _ => laidMetH Tryz.prog Rows.verifyGoesRow.laid w) (fun _ _ _ hh h => h.of_heap hh) own started (by kernel_rfl) Tryz.func3
  (ChangeSpec.witness_at (enc := enc) (C := Tryz.checked) (os := os) (X := fun w _ => laidMetH Tryz.prog Rows.verifyGoesRow.laid w) false (laidW (World.holding Tryz.prog os ⟨#[], #[], []⟩)) #[.slice none 0 0] 8 rfl (by kernel_rfl) (by kernel_rfl) (by kernel_rfl) (by kernel_rfl) (by kernel_rfl) (start_met os _)) ?_
 intro W base args ds gs before hval0 hW _ _ hL _
 have hval : ∀ (j : Nat) t v, Tryz.f3.params[j]? = some t → args[j]? = some v → Value.okWide Tryz.prog W .any base t v := hval0
 have hW' := hW
 obtain ⟨p, q, hA0, hV0, rfl, hfz, hnd⟩ := hW
 have hA : DataW.TrodAll enc Tryz.prog W 0 (fun _ => true) true Tryz.f3.params.toList args.toList ds p := hA0
 have hV : DataW.TrodVars enc Tryz.prog W (fun _ => true) [] gs q := hV0
 rw [Tryz.params3] at hA hval
 obtain ⟨v0, vs0, d0, ds0, p0, q0, hargs, rfl, rfl, h0, r0⟩ := trodAll_cons hA
 obtain ⟨rfl, rfl, rfl⟩ := trodAll_nil r0
 obtain rfl : args = #[v0] := by cases args; simp_all
 obtain ⟨rfl, rfl⟩ := trodVars_none hV
 obtain ⟨a0, len0, cap0, rfl⟩ := okWide_slice Tryz.underlying22 (hval 0 22 v0 rfl rfl)
 have lt0 : ∀ x ∈ p0, x.block < W.heap.size := by obtain ⟨m, hm⟩ := h0; exact DataW.trod_lt m _ _ _ hm
 obtain ⟨hAll, hg⟩ := laid_both hL
 refine (zJ5 a0 len0 cap0 W (steps_open h0) hg hAll).mono fun e W' ⟨he, bel⟩ => ?_
 subst he
 exact ⟨_, rfl, _, _, _, [], _, [], hW', trodAll_mk1 (shut_bool Tryz.underlying4 _), (trodAll_cons_mk (Below.trod laidOut (by kernel_rfl) (of_decide_eq_true (by kernel_rfl)) h0 bel lt0) trodAll_mk0), rfl, bel.frame _, fun h => by cases h⟩

theorem verifyGoes_row : Rows.VerifyGoesSaid :=
 OpenClaim.holds_of_wide 3 Tryz.f3 rfl rfl rfl rfl rfl rfl rfl ⟨rfl, rfl, rfl, rfl, rfl⟩ rfl rfl rfl rfl rfl (by kernel_rfl) Tryz.func3 (by kernel_rfl)
  (of_decide_eq_true (by kernel_rfl)) (by unfold Func.isWrapper; rw [if_neg (of_decide_eq_false (by kernel_rfl))]; exact ⟨rfl, rfl⟩)
  (fun os started H enc _ => lifted os started H enc)
/-- The card: the row, its listed variables tied to the program's text. -/
theorem verifyGoes_holds : Rows.VerifyGoesCardSaid :=
 Claim7.holds_tied_plain_at .later [] [.handle, .data] true Rows.verifyGoesCard.stood.harness true
  verifyGoes_row (fun _ h => by cases h) (by kernel_rfl) (fun _ h => by cases h) verifyGoes_row_tie rfl ⟨rfl, rfl⟩ (by kernel_rfl) rfl
  (fun f fn hf hfn => by
   obtain rfl : f = 3 := Option.some.inj ((show Tryz.prog.funcNamed "gatehouse/gatehouselaw.VerifyGoes" = some 3 by kernel_rfl).symm.trans hf) |>.symm
   obtain rfl : fn = Tryz.f3 := (Option.some.inj (Tryz.func3.symm.trans hfn)).symm
   exact ⟨by kernel_rfl, fun j t ht => by
    rw [Tryz.params3] at ht
    have h3 : t = 22 := by
     rcases j with _ | j
     ·simpa using ht.symm
     ·simp at ht
    rw [h3]
    exact (show Tryz.prog.wantsStandIn 22 = false by kernel_rfl)⟩)
  (by kernel_rfl)
#print axioms verifyGoes_holds
end Go.Proofs.YteenhdoaminkeaaGreatDoor
