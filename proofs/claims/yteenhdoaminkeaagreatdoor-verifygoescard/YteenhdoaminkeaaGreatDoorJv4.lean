/-
 A way of package verify, as it lies in memory: 82 cells: its step, what is known of registers, of slots. No conditions. What the small functions of package verify return, of what is known of a value. No conditions but those that each names. What the functions of package bound return: as functions on integers; the world below is as it was. Conditions: the ends are numbers of 64 bits, the low end not above the high one.
-/
import Derived.Test.YteenhdoaminkeaaGreatDoorJv3
import Derived.Laws.Tables
import Derived.Laws.Rows
import Derived.Deep.MidRow
import Derived.BigCall
import Derived.BigGuardPart
import Derived.Test.YteenhdoaminkeaaGreatDoorJv2
import Derived.LoopN
set_option maxHeartbeats 40000000
open Go.Value renaming int → vI
open Go.IntKind renaming i64 → vK
open Go.RowKit.Below renaming alloc → bA, setCell → bS, drew → bD, refl → bF
set_option maxRecDepth 1000000
set_option linter.defProp false
set_option linter.unusedVariables false
set_option linter.unusedSimpArgs false
namespace Go.Proofs.YteenhdoaminkeaaGreatDoor
open Go.ChangeShapes Go.WideShapes Go.ChangeAt Go.RowKit
def Kno.v (x : Kno) : Value := .agg #[vI vK x.k, vI vK x.l, vI vK x.h]
def z2o (x : Kno) (j : Nat) : Value := if j = 0 then vI vK x.k else if j = 1 then vI vK x.l else vI vK x.h
def z1x (p : Int) (y : Way) (i : Nat) : Value :=
 if i = 0 then vI vK p
 else if i < 34 then z2o (y.reg ((i - 1) / 3)) ((i - 1) % 3)
 else z2o (y.slot ((i - 34) / 3)) ((i - 34) % 3)
def z06 (p : Int) (y : Way) : Array Value := Array.ofFn (n := 82) fun i => z1x p y i.1
def z05 (w : World) (B : Nat) (p : Int) (y : Way) : Prop := w.heap[B]? = some (.cells (z06 p y) 76 (0, 0))
theorem z0h (p : Int) (y : Way) : (z06 p y).size = 82 := by simp [z06]
theorem zFc (x : Kno) (j : Nat) : (z2o x j).oneCell' = true := by
 unfold z2o
 split
 ·rfl
 split <;> rfl
theorem zDd (p : Int) (y : Way) (i : Nat) : (z1x p y i).oneCell' = true := by
 unfold z1x
 split
 ·rfl
 split <;> exact zFc _ _
theorem z8h (p : Int) (y : Way) (i : Nat) (h : i < (z06 p y).size) : (z06 p y)[i] = z1x p y i := by simp [z06]
theorem z2a (p : Int) (y : Way) : (z06 p y).all (·.oneCell') = true := by
 rw [Array.all_eq_true_iff_forall_mem]
 intro v hv
 obtain ⟨i, h1, h2⟩ := Array.mem_iff_getElem.1 hv
 rw [← h2, z8h p y i h1]
 exact zDd _ _ _
theorem zMw (p : Int) (y : Way) (i : Nat) (hi : i < 82) : (z06 p y)[i]? = some (z1x p y i) := by
 unfold z06
 simp [hi]
section
variable {w : World} {B d : Nat} {p : Int} {y : Way}
theorem z05.lt (h : z05 w B p y) : B < w.heap.size := (Array.getElem?_eq_some_iff.1 h).1
theorem z05.at (h : z05 w B p y) (i : Nat) (hi : i < 82) : w.cell? ⟨B, i, none⟩ = some (z1x p y i) := by
 rw [cell_of_row w B i _ _ _ h, zMw p y i hi]
theorem z05.frozen (h : z05 w B p y) (i : Nat) : w.frozen? ⟨B, i, none⟩ = false := by
 have h' : w.heap[B]? = some (.cells (z06 p y) 76 (0, 0)) := h
 simp [World.frozen?, h']
theorem z05.later {w1 : World} (h : z05 w B p y) (hb : Below w.heap.size w w1) : z05 w1 B p y := (hb.block B h.lt).trans h
theorem z05.alloc (h : z05 w B p y) (o : Obj) : z05 (w.alloc o) B p y := h.later ((bF _ _).alloc (Nat.le_refl _) _)
theorem z05.start (w : World) (p : Int) (y : Way) : z05 (w.alloc (.cells (z06 p y) 76)) w.heap.size p y := heap_alloc_new w _
theorem z05.setRow {w : World} {g : Nat} {old : Array Value} (hg : w.heap[g]? = some (.cells old 76 (0, 0))) (p : Int) (y : Way) : z05 (w.setRow g (z06 p y)) g p y := setRow_heap w g old _ _ _ hg
theorem z05.set {p' : Int} {y' : Way} (h : z05 w B p y) (i : Nat) (v : Value) (he : ∀ j, j < 82 → z1x p' y' j = if j = i then v else z1x p y j) : z05 (w.setCell ⟨B, i, none⟩ v) B p' y' := by
 have e : (z06 p y).setIfInBounds i v = z06 p' y' := by
  apply Array.ext
  ·simp [z06]
  ·intro j h1 h2
   have h3 : j < 82 := by rw [z0h] at h2; exact h2
   rw [Array.getElem_setIfInBounds (by rw [z0h]; exact h3), z8h, z8h, he j h3]
   by_cases hj : i = j
   ·rw [if_pos hj, if_pos hj.symm]
   ·rw [if_neg hj, if_neg (fun e => hj e.symm)]
 unfold z05
 rw [← e]
 exact heap_setCell_same w B i _ _ v h
theorem z69 (p : Int) (y : Way) (d : Nat) (hd : d < 11) (i : Nat) (hi : i < 3) : z1x p y (1 + d * 3 + i) = z2o (y.reg d) i := by
 unfold z1x
 rw [if_neg (by omega), if_pos (by omega), show (1 + d * 3 + i - 1) / 3 = d by omega, show (1 + d * 3 + i - 1) % 3 = i by omega]
theorem z59 (p : Int) (y : Way) (d : Nat) (i : Nat) (hi : i < 3) : z1x p y (34 + d * 3 + i) = z2o (y.slot d) i := by
 unfold z1x
 rw [if_neg (by omega), if_neg (by omega), show (34 + d * 3 + i - 34) / 3 = d by omega, show (34 + d * 3 + i - 34) % 3 = i by omega]
theorem z05.step (h : z05 w B p y) : w.cell? ⟨B, 0, none⟩ = some (vI vK p) := h.at 0 (by omega)
theorem z05.reg (h : z05 w B p y) (hd : d < 11) : w.cell? ⟨B, 1 + d * 3, none⟩ = some (vI vK (y.reg d).k) ∧ w.cell? ⟨B, 1 + d * 3 + 1, none⟩ = some (vI vK (y.reg d).l) ∧ w.cell? ⟨B, 1 + d * 3 + 2, none⟩ = some (vI vK (y.reg d).h) :=
 ⟨by rw [h.at _ (by omega)]; exact congrArg some (z69 p y d hd 0 (by omega)), by rw [h.at _ (by omega), z69 p y d hd 1 (by omega)]; rfl, by rw [h.at _ (by omega), z69 p y d hd 2 (by omega)]; rfl⟩
theorem z05.slot (h : z05 w B p y) (hd : d < 16) : w.cell? ⟨B, 34 + d * 3, none⟩ = some (vI vK (y.slot d).k) ∧ w.cell? ⟨B, 34 + d * 3 + 1, none⟩ = some (vI vK (y.slot d).l) ∧ w.cell? ⟨B, 34 + d * 3 + 2, none⟩ = some (vI vK (y.slot d).h) :=
 ⟨by rw [h.at _ (by omega)]; exact congrArg some (z59 p y d 0 (by omega)), by rw [h.at _ (by omega), z59 p y d 1 (by omega)]; rfl, by rw [h.at _ (by omega), z59 p y d 2 (by omega)]; rfl⟩
theorem z05.putStep (h : z05 w B p y) (q : Int) : z05 (w.setCell ⟨B, 0, none⟩ (vI vK q)) B q y :=
 h.set 0 _ fun j _ => by
  by_cases e : j = 0
  ·rw [if_pos e, e]; rfl
  ·rw [if_neg e]; unfold z1x; rw [if_neg e, if_neg e]
theorem z61 (p : Int) (y : Way) (d : Nat) (hd : d < 11) (x : Kno) (j : Nat) : z1x p (y.putReg d x) j = if 1 + d * 3 ≤ j ∧ j < 1 + d * 3 + 3 then z2o x (j - (1 + d * 3)) else z1x p y j := by
 by_cases h : 1 + d * 3 ≤ j ∧ j < 1 + d * 3 + 3
 ·rw [if_pos h]
  unfold z1x
  rw [if_neg (by omega), if_pos (by omega), show (j - 1) / 3 = d by omega, show (j - 1) % 3 = j - (1 + d * 3) by omega]
  show z2o (if d = d then x else y.reg d) _ = _
  rw [if_pos rfl]
 ·rw [if_neg h]
  unfold z1x
  by_cases h0 : j = 0
  ·rw [if_pos h0, if_pos h0]
  rw [if_neg h0, if_neg h0]
  by_cases h1 : j < 34
  ·rw [if_pos h1, if_pos h1]
   show z2o (if (j - 1) / 3 = d then x else y.reg ((j - 1) / 3)) _ = _
   rw [if_neg (by omega)]
  ·rw [if_neg h1, if_neg h1]; rfl
theorem z5a (p : Int) (y : Way) (d : Nat) (x : Kno) (j : Nat) : z1x p (y.putSlot d x) j = if 34 + d * 3 ≤ j ∧ j < 34 + d * 3 + 3 then z2o x (j - (34 + d * 3)) else z1x p y j := by
 by_cases h : 34 + d * 3 ≤ j ∧ j < 34 + d * 3 + 3
 ·rw [if_pos h]
  unfold z1x
  rw [if_neg (by omega), if_neg (by omega), show (j - 34) / 3 = d by omega, show (j - 34) % 3 = j - (34 + d * 3) by omega]
  show z2o (if d = d then x else y.slot d) _ = _
  rw [if_pos rfl]
 ·rw [if_neg h]
  unfold z1x
  by_cases h0 : j = 0
  ·rw [if_pos h0, if_pos h0]
  rw [if_neg h0, if_neg h0]
  by_cases h1 : j < 34
  ·rw [if_pos h1, if_pos h1]; rfl
  ·rw [if_neg h1, if_neg h1]
   show z2o (if (j - 34) / 3 = d then x else y.slot ((j - 34) / 3)) _ = _
   rw [if_neg (by omega)]
theorem zMv (y : Way) (d : Nat) : y.putReg d (y.reg d) = y := by
 unfold Way.putReg
 have : (fun i => if i = d then y.reg d else y.reg i) = y.reg := by
  funext i
  by_cases h : i = d
  ·rw [if_pos h, h]
  ·rw [if_neg h]
 rw [this]
theorem zIw (y : Way) (d : Nat) : y.putSlot d (y.slot d) = y := by
 unfold Way.putSlot
 have : (fun i => if i = d then y.slot d else y.slot i) = y.slot := by
  funext i
  by_cases h : i = d
  ·rw [if_pos h, h]
  ·rw [if_neg h]
 rw [this]
theorem zAl (p : Int) (y : Way) (d : Nat) (hd : d < 11) (x z : Kno) (i : Nat) (hi : i < 3) (h : ∀ j, j < 3 → z2o z j = if j = i then z2o z i else z2o x j) : ∀ j, j < 82 → z1x p (y.putReg d z) j = if j = 1 + d * 3 + i then z2o z i else z1x p (y.putReg d x) j := by
 intro j _
 rw [z61 p y d hd z j, z61 p y d hd x j]
 by_cases hin : 1 + d * 3 ≤ j ∧ j < 1 + d * 3 + 3
 ·rw [if_pos hin, if_pos hin, h _ (by omega)]
  by_cases e : j = 1 + d * 3 + i
  ·rw [if_pos e, if_pos (by omega)]
  ·rw [if_neg e, if_neg (by omega)]
 ·rw [if_neg hin, if_neg hin, if_neg (by omega)]
theorem z79 (p : Int) (y : Way) (d : Nat) (x z : Kno) (i : Nat) (hi : i < 3) (h : ∀ j, j < 3 → z2o z j = if j = i then z2o z i else z2o x j) : ∀ j, j < 82 → z1x p (y.putSlot d z) j = if j = 34 + d * 3 + i then z2o z i else z1x p (y.putSlot d x) j := by
 intro j _
 rw [z5a p y d z j, z5a p y d x j]
 by_cases hin : 34 + d * 3 ≤ j ∧ j < 34 + d * 3 + 3
 ·rw [if_pos hin, if_pos hin, h _ (by omega)]
  by_cases e : j = 34 + d * 3 + i
  ·rw [if_pos e, if_pos (by omega)]
  ·rw [if_neg e, if_neg (by omega)]
 ·rw [if_neg hin, if_neg hin, if_neg (by omega)]
theorem z05.reg3 (h : z05 w B p y) (hd : d < 11) (k l g : Int) : z05 (((w.setCell ⟨B, 1 + d * 3, none⟩ (vI vK k)).setCell ⟨B, 1 + d * 3 + 1, none⟩ (vI vK l)).setCell ⟨B, 1 + d * 3 + 2, none⟩ (vI vK g)) B p (y.putReg d ⟨k, l, g⟩) := by
 have h1 : z05 (w.setCell ⟨B, 1 + d * 3, none⟩ (vI vK k)) B p (y.putReg d ⟨k, (y.reg d).l, (y.reg d).h⟩) := h.set _ _ fun j hj => by
  have := zAl p y d hd (y.reg d) ⟨k, (y.reg d).l, (y.reg d).h⟩ 0 (by omega) (fun j hj => by rcases (show j = 0 ∨ j = 1 ∨ j = 2 by omega) with rfl | rfl | rfl <;> rfl) j hj
  rw [this, zMv y d]; rfl
 have h2 : z05 ((w.setCell ⟨B, 1 + d * 3, none⟩ (vI vK k)).setCell ⟨B, 1 + d * 3 + 1, none⟩ (vI vK l)) B p (y.putReg d ⟨k, l, (y.reg d).h⟩) := h1.set _ _ fun j hj =>
  zAl p y d hd ⟨k, (y.reg d).l, (y.reg d).h⟩ ⟨k, l, (y.reg d).h⟩ 1 (by omega) (fun j hj => by rcases (show j = 0 ∨ j = 1 ∨ j = 2 by omega) with rfl | rfl | rfl <;> rfl) j hj
 exact h2.set _ _ fun j hj =>
  zAl p y d hd ⟨k, l, (y.reg d).h⟩ ⟨k, l, g⟩ 2 (by omega) (fun j hj => by rcases (show j = 0 ∨ j = 1 ∨ j = 2 by omega) with rfl | rfl | rfl <;> rfl) j hj
theorem z05.slot3 (h : z05 w B p y) (d : Nat) (k l g : Int) : z05 (((w.setCell ⟨B, 34 + d * 3, none⟩ (vI vK k)).setCell ⟨B, 34 + d * 3 + 1, none⟩ (vI vK l)).setCell ⟨B, 34 + d * 3 + 2, none⟩ (vI vK g)) B p (y.putSlot d ⟨k, l, g⟩) := by
 have h1 : z05 (w.setCell ⟨B, 34 + d * 3, none⟩ (vI vK k)) B p (y.putSlot d ⟨k, (y.slot d).l, (y.slot d).h⟩) := h.set _ _ fun j hj => by
  have := z79 p y d (y.slot d) ⟨k, (y.slot d).l, (y.slot d).h⟩ 0 (by omega) (fun j hj => by rcases (show j = 0 ∨ j = 1 ∨ j = 2 by omega) with rfl | rfl | rfl <;> rfl) j hj
  rw [this, zIw y d]; rfl
 have h2 : z05 ((w.setCell ⟨B, 34 + d * 3, none⟩ (vI vK k)).setCell ⟨B, 34 + d * 3 + 1, none⟩ (vI vK l)) B p (y.putSlot d ⟨k, l, (y.slot d).h⟩) := h1.set _ _ fun j hj =>
  z79 p y d ⟨k, (y.slot d).l, (y.slot d).h⟩ ⟨k, l, (y.slot d).h⟩ 1 (by omega) (fun j hj => by rcases (show j = 0 ∨ j = 1 ∨ j = 2 by omega) with rfl | rfl | rfl <;> rfl) j hj
 exact h2.set _ _ fun j hj =>
  z79 p y d ⟨k, l, (y.slot d).h⟩ ⟨k, l, g⟩ 2 (by omega) (fun j hj => by rcases (show j = 0 ∨ j = 1 ∨ j = 2 by omega) with rfl | rfl | rfl <;> rfl) j hj
end
theorem Tryz.infoW : (Tryz.prog.info? 76).map (·.size) = some 82 := by kernel_rfl
theorem z0q (p : Int) (y : Way) : (Tryz.prog.info? 76).map (·.size) = some (z06 p y).size := by rw [z0h]; exact Tryz.infoW
theorem z7s {fn : Func} {q : Tmp} (h : fn.results = #[.cell q 76]) (tmps : Array Value) (w : World) (g : Nat) (p : Int) (y : Way) (hp : tmps.getD q undef = .pointer (some ⟨g, 0, none⟩)) (hg : z05 w g p y) :
  (results fn tmps).run Tryz.prog w = .ok (.agg (z06 p y)) w :=
 results_cell_row h tmps w g _ _ _ _ hp hg Tryz.underlying76 rfl (z0q p y)
end Go.Proofs.YteenhdoaminkeaaGreatDoor
namespace Go.Proofs.YteenhdoaminkeaaGreatDoor
open Go.ChangeShapes Go.WideShapes Go.ChangeAt Go.RowKit
theorem z1k (l h : Int) (w : World) : Calls Tryz.prog 62 #[.agg #[vI vK l, vI vK h]] w fun e w' => e = .returned (z15 l h).v ∧ Below w.heap.size w w' := by
 go_enter Tryz.func62, Tryz.ntmps62
 go_wp2
 exact bodyPost_ret (v := (z15 l h).v) (by simp [results, Tryz.results62, go_sem, z15, Kno.v]) rfl ⟨rfl, by repeat' first | with_reducible (first | exact bF _ _ | refine bA ?_ ?_ _ | refine bS ?_ ?_ _ | refine bD ?_) | ((try dsimp only); omega) | (simp; done) | (simp; omega)⟩
theorem z89 (k l h : Int) (w : World) : (∀ (y2 : (k == 2) = true), Calls Tryz.prog 72 #[.agg #[vI vK k, vI vK l, vI vK h]] w fun e w' => e = .returned (.bool true) ∧ Below w.heap.size w w') ∧ (∀ (y2 : (k == 2) = false) (y3 : (k == 3) = true), Calls Tryz.prog 72 #[.agg #[vI vK k, vI vK l, vI vK h]] w fun e w' => e = .returned (.bool true) ∧ Below w.heap.size w w') ∧ (∀ (y2 : (k == 2) = false) (y3 : (k == 3) = false) (y4 : (k == 4) = true), Calls Tryz.prog 72 #[.agg #[vI vK k, vI vK l, vI vK h]] w fun e w' => e = .returned (.bool true) ∧ Below w.heap.size w w') ∧ (∀ (y2 : (k == 2) = false) (y3 : (k == 3) = false) (y4 : (k == 4) = false), Calls Tryz.prog 72 #[.agg #[vI vK k, vI vK l, vI vK h]] w fun e w' => e = .returned (.bool false) ∧ Below w.heap.size w w') := by
 refine ⟨?_, ?_, ?_, ?_⟩
 intro y2
 rotate_left
 intro y2 y3
 rotate_left
 intro y2 y3 y4
 rotate_left
 intro y2 y3 y4
 rotate_left
 all_goals
  go_enter Tryz.func72, Tryz.ntmps72
  go_wp2
  go_ret
  exact ⟨rfl, by repeat' first | with_reducible (first | exact bF _ _ | refine bA ?_ ?_ _ | refine bS ?_ ?_ _ | refine bD ?_) | ((try dsimp only); omega) | (simp; done) | (simp; omega)⟩
def zId := fun k l h w => (@z89 k l h w).1
def zIc := fun k l h w => (@z89 k l h w).2.1
def zIb := fun k l h w => (@z89 k l h w).2.2.1
def zIe := fun k l h w => (@z89 k l h w).2.2.2
def z1p (k : Int) : Bool := k == 2 || k == 3 || k == 4
theorem z49 (k l h : Int) (w : World) : Calls Tryz.prog 72 #[.agg #[vI vK k, vI vK l, vI vK h]] w fun e w' => e = .returned (.bool (z1p k)) ∧ Below w.heap.size w w' := by
 unfold z1p
 cases y2 : k == 2
 ·cases y3 : k == 3
  ·cases y4 : k == 4
   ·exact zIe k l h w y2 y3 y4
   ·exact zIb k l h w y2 y3 y4
  ·exact zIc k l h w y2 y3
 ·exact zId k l h w y2
theorem z3c (k : Int) : z1p k = true ↔ (k = 2 ∨ k = 3 ∨ k = 4) := by unfold z1p; simp [or_assoc]
theorem zBd (k l h : Int) (w : World) : (∀ (y0 : (k == 0) = true), Calls Tryz.prog 43 #[.agg #[vI vK k, vI vK l, vI vK h]] w fun e w' => e = .returned (vI vK 8) ∧ Below w.heap.size w w') ∧ (∀ (y0 : (k == 0) = false) (y1 : (k == 1) = true), Calls Tryz.prog 43 #[.agg #[vI vK k, vI vK l, vI vK h]] w fun e w' => e = .returned (vI vK 0) ∧ Below w.heap.size w w') ∧ (∀ (y0 : (k == 0) = false) (y1 : (k == 1) = false), Calls Tryz.prog 43 #[.agg #[vI vK k, vI vK l, vI vK h]] w fun e w' => e = .returned (vI vK 1) ∧ Below w.heap.size w w') := by
 refine ⟨?_, ?_, ?_⟩
 intro y0
 rotate_left
 intro y0 y1
 rotate_left
 intro y0 y1
 rotate_left
 all_goals
  go_enter Tryz.func43, Tryz.ntmps43
  go_wp2
  go_ret
  exact ⟨rfl, by repeat' first | with_reducible (first | exact bF _ _ | refine bA ?_ ?_ _ | refine bS ?_ ?_ _ | refine bD ?_) | ((try dsimp only); omega) | (simp; done) | (simp; omega)⟩
def zMz := fun k l h w => (@zBd k l h w).1
def zMy := fun k l h w => (@zBd k l h w).2.1
def zMx := fun k l h w => (@zBd k l h w).2.2
theorem z3f (k l h : Int) (w : World) : Calls Tryz.prog 43 #[.agg #[vI vK k, vI vK l, vI vK h]] w fun e w' => e = .returned (vI vK (z0f ⟨k, l, h⟩)) ∧ Below w.heap.size w w' := by
 unfold z0f
 by_cases h0 : k = 0
 ·rw [if_pos h0]; exact zMz k l h w (by simpa using h0)
 by_cases h1 : k = 1
 ·rw [if_neg h0, if_pos h1]; exact zMy k l h w (by simpa using h0) (by simpa using h1)
 ·rw [if_neg h0, if_neg h1]; exact zMx k l h w (by simpa using h0) (by simpa using h1)
theorem zBc (k : Int) (w : World) : (∀ (y2 : (k == 2) = true), Calls Tryz.prog 74 #[vI vK k] w fun e w' => e = .returned (.agg #[vI vK 0, vI vK 7]) ∧ Below w.heap.size w w') ∧ (∀ (y2 : (k == 2) = false) (y3 : (k == 3) = true), Calls Tryz.prog 74 #[vI vK k] w fun e w' => e = .returned (.agg #[vI vK (-16), vI vK (-1)]) ∧ Below w.heap.size w w') ∧ (∀ (y2 : (k == 2) = false) (y3 : (k == 3) = false), Calls Tryz.prog 74 #[vI vK k] w fun e w' => e = .returned (.agg #[vI vK 0, vI vK 3]) ∧ Below w.heap.size w w') := by
 refine ⟨?_, ?_, ?_⟩
 intro y2
 rotate_left
 intro y2 y3
 rotate_left
 intro y2 y3
 rotate_left
 all_goals
  go_enter Tryz.func74, Tryz.ntmps74
  go_wp2
  exact bodyPost_ret (by simp [results, Tryz.results74, go_sem]) rfl ⟨rfl, by repeat' first | with_reducible (first | exact bF _ _ | refine bA ?_ ?_ _ | refine bS ?_ ?_ _ | refine bD ?_) | ((try dsimp only); omega) | (simp; done) | (simp; omega)⟩
def room_2 := fun k w => (@zBc k w).1
def room_3 := fun k w => (@zBc k w).2.1
def room_4 := fun k w => (@zBc k w).2.2
theorem zNj (k : Int) (w : World) : Calls Tryz.prog 74 #[vI vK k] w fun e w' => e = .returned (.agg #[vI vK (z1u k).1, vI vK (z1u k).2]) ∧ Below w.heap.size w w' := by
 unfold z1u
 by_cases h2 : k = 2
 ·rw [if_pos h2]; exact room_2 k w (by simpa using h2)
 by_cases h3 : k = 3
 ·rw [if_neg h2, if_pos h3]; exact room_3 k w (by simpa using h2) (by simpa using h3)
 ·rw [if_neg h2, if_neg h3]; exact room_4 k w (by simpa using h2) (by simpa using h3)

theorem z09 {W w1 : World} (hb : Below W.heap.size W w1) : (∀ b o, b < W.heap.size → w1.cell? ⟨b, o, none⟩ = W.cell? ⟨b, o, none⟩) ∧ (∀ b o, b < W.heap.size → w1.frozen? ⟨b, o, none⟩ = W.frozen? ⟨b, o, none⟩) :=
 ⟨fun b o h => hb.cell (p := ⟨b, o, none⟩) h, fun b o h => hb.frozen (p := ⟨b, o, none⟩) h⟩
theorem z2v  (w : World) : Calls Tryz.prog 63 #[] w fun e w' => e = .returned (.agg #[vI vK (-9223372036854775808), vI vK 9223372036854775807]) ∧ Below w.heap.size w w' := by
 go_enter Tryz.func63, Tryz.ntmps63
 go_wp2
 exact bodyPost_ret (v := .agg #[vI vK (-9223372036854775808), vI vK 9223372036854775807]) (by simp [results, Tryz.results63, go_sem]) rfl ⟨rfl, by repeat' first | exact bF _ _ | refine bA ?_ ?_ _ | refine bS ?_ ?_ _ | refine bD ?_ | (simp; done) | (simp; omega) | (simp [z00]; done) | (simp [z00]; omega) | omega⟩
theorem z2t (n : Int) (w : World) : Calls Tryz.prog 39 #[vI vK n] w fun e w' => e = .returned (.agg #[vI vK n, vI vK n]) ∧ Below w.heap.size w w' := by
 go_enter Tryz.func39, Tryz.ntmps39
 go_wp2
 exact bodyPost_ret (v := .agg #[vI vK n, vI vK n]) (by simp [results, Tryz.results39, go_sem]) rfl ⟨rfl, by repeat' first | exact bF _ _ | refine bA ?_ ?_ _ | refine bS ?_ ?_ _ | refine bD ?_ | (simp; done) | (simp; omega) | (simp [z00]; done) | (simp [z00]; omega) | omega⟩
theorem z3a (al ah bl bh : Int) (w : World) : Calls Tryz.prog 27 #[.agg #[vI vK al, vI vK ah], .agg #[vI vK bl, vI vK bh]] w fun e w' => e = .returned (.agg #[vI vK (min al bl), vI vK (max ah bh)]) ∧ Below w.heap.size w w' := by
 go_enter Tryz.func27, Tryz.ntmps27
 go_wp2
 exact bodyPost_ret (v := .agg #[vI vK (min al bl), vI vK (max ah bh)]) (by simp [results, Tryz.results27, go_sem]) rfl ⟨rfl, by repeat' first | exact bF _ _ | refine bA ?_ ?_ _ | refine bS ?_ ?_ _ | refine bD ?_ | (simp; done) | (simp; omega) | (simp [z00]; done) | (simp [z00]; omega) | omega⟩
theorem zGd (x y : Int) (p q : Bool) (w : World) : (Instr.index 160 (.agg #[vI vK x, .bool p, vI vK y, .bool q]) (vI vK 0)).run Tryz.prog w = .ok (.agg #[vI vK x, .bool p]) w := by kernel_rfl
theorem zGc (x y : Int) (p q : Bool) (w : World) : (Instr.index 160 (.agg #[vI vK x, .bool p, vI vK y, .bool q]) (vI vK 1)).run Tryz.prog w = .ok (.agg #[vI vK y, .bool q]) w := by kernel_rfl
theorem zFo (x y : Int) (w : World) : Calls Tryz.prog 80 #[.agg #[vI vK x, .bool true, vI vK y, .bool true]] w fun e w' => e = .returned (.agg #[vI vK x, vI vK y]) ∧ Below w.heap.size w w' := by
 have i0 := zGd x y true true
 have i1 := zGc x y true true
 go_enter Tryz.func80, Tryz.ntmps80
 go_wp2
 refine wp_loop_rounds 3 ?_
 repeat any_goals (rw [rounds_succ]; go_wp2)
 exact bodyPost_ret (v := .agg #[vI vK x, vI vK y]) (by simp [results, Tryz.results80, go_sem]) rfl ⟨rfl, by repeat' first | exact bF _ _ | refine bA ?_ ?_ _ | refine bS ?_ ?_ _ | refine bD ?_ | (simp; done) | (simp; omega) | (simp [z00]; done) | (simp [z00]; omega) | omega⟩
theorem zIs (x y : Int) (p q : Bool) (h : (p && q) = false) (w : World) : Calls Tryz.prog 80 #[.agg #[vI vK x, .bool p, vI vK y, .bool q]] w fun e w' => e = .returned (.agg #[vI vK (-9223372036854775808), vI vK 9223372036854775807]) ∧ Below w.heap.size w w' := by
 have i0 := zGd x y p q
 have i1 := zGc x y p q
 cases p
 ·go_enter Tryz.func80, Tryz.ntmps80
  go_wp2
  refine wp_loop_rounds 3 ?_
  repeat any_goals (rw [rounds_succ]; go_wp2_with (go_at_call 63; refine (z2v _).mono ?_; rintro e w1 ⟨rfl, hb1⟩; obtain ⟨hcl1, hfr1⟩ := z09 hb1; have hs1 := hb1.size; (try simp only [z00] at hs1); (try simp at hs1); have hbw1 : Below w.heap.size w w1 := by ((refine Below.trans ?_ (hb1.mono ?_)) <;> repeat' first | exact bF _ _ | refine bA ?_ ?_ _ | refine bS ?_ ?_ _ | refine bD ?_ | (simp; done) | (simp; omega) | (simp [z00]; done) | (simp [z00]; omega) | omega)))
  exact bodyPost_ret (v := .agg #[vI vK (-9223372036854775808), vI vK 9223372036854775807]) (by simp [results, Tryz.results80, go_sem, hcl1]) rfl ⟨rfl, by repeat' first | exact bF _ _ | exact hbw1 | refine bA ?_ ?_ _ | refine bS ?_ ?_ _ | refine bD ?_ | (simp; done) | (simp; omega) | (simp [z00]; done) | (simp [z00]; omega) | omega⟩
 ·have hq : q = false := by simpa using h
  subst hq
  go_enter Tryz.func80, Tryz.ntmps80
  go_wp2
  refine wp_loop_rounds 3 ?_
  repeat any_goals (rw [rounds_succ]; go_wp2_with (go_at_call 63; refine (z2v _).mono ?_; rintro e w1 ⟨rfl, hb1⟩; obtain ⟨hcl1, hfr1⟩ := z09 hb1; have hs1 := hb1.size; (try simp only [z00] at hs1); (try simp at hs1); have hbw1 : Below w.heap.size w w1 := by ((refine Below.trans ?_ (hb1.mono ?_)) <;> repeat' first | exact bF _ _ | refine bA ?_ ?_ _ | refine bS ?_ ?_ _ | refine bD ?_ | (simp; done) | (simp; omega) | (simp [z00]; done) | (simp [z00]; omega) | omega)))
  exact bodyPost_ret (v := .agg #[vI vK (-9223372036854775808), vI vK 9223372036854775807]) (by simp [results, Tryz.results80, go_sem, hcl1]) rfl ⟨rfl, by repeat' first | exact bF _ _ | exact hbw1 | refine bA ?_ ?_ _ | refine bS ?_ ?_ _ | refine bD ?_ | (simp; done) | (simp; omega) | (simp [z00]; done) | (simp [z00]; omega) | omega⟩
theorem zIt (x y : Int) (p q : Bool) (w : World) : Calls Tryz.prog 80 #[.agg #[vI vK x, .bool p, vI vK y, .bool q]] w fun e w' => e = .returned (.agg #[vI vK (if p && q then x else -9223372036854775808), vI vK (if p && q then y else 9223372036854775807)]) ∧ Below w.heap.size w w' := by
 cases h : p && q
 ·exact zIs x y p q h w
 ·simp only [Bool.and_eq_true] at h
  obtain ⟨rfl, rfl⟩ := h
  exact zFo x y w
end Go.Proofs.YteenhdoaminkeaaGreatDoor
