/-
 A way of package verify, as it lies in memory: 82 cells: its step, what is known of registers, of slots. No conditions. What the small functions of package verify return, of what is known of a value. No conditions but those that each names. What the functions of package bound return: as functions on integers; the world below is as it was. Conditions: the ends are numbers of 64 bits, the low end not above the high one.
-/
import Derived.Test.YtbimlalhodibjaaGreatDoorJf10
import Derived.Test.YtbimlalhodibjaaGreatDoorJf7
import Derived.Laws.Tables
import Derived.Laws.Rows
import Derived.Deep.MidRow
import Derived.BigCall
import Derived.BigGuardPart
import Derived.Test.YtbimlalhodibjaaGreatDoorJf6
import Derived.LoopN
import Derived.Test.YtbimlalhodibjaaGreatDoorJf3
set_option maxHeartbeats 40000000
open Go.Value renaming int → A
open Go.IntKind renaming i64 → C
open Go.RowKit.Below renaming alloc → bA, setCell → bS, drew → bD, refl → bF
set_option maxRecDepth 1000000
set_option linter.defProp false
set_option linter.unusedVariables false
set_option linter.unusedSimpArgs false
open Go.Ending renaming returned → rT
open Go.Value renaming pointer → pT
open Go.Obj renaming cells → cT
open Go.Proofs.Tryz renaming prog → tP
namespace Go.Proofs.YtbimlalhodibjaaGreatDoor
open Go.ChangeShapes Go.WideShapes Go.ChangeAt Go.RowKit
section
def Kno.v (x : Kno) : Value := .agg #[A C x.k, A C x.l, A C x.h]
def z2h (x : Kno) (j : Nat) : Value := if j = 0 then A C x.k else if j = 1 then A C x.l else A C x.h
def z1u (p : Int) (y : Way) (i : Nat) : Value :=
 if i = 0 then A C p
 else if i < 34 then z2h (y.reg ((i - 1) / 3)) ((i - 1) % 3)
 else z2h (y.slot ((i - 34) / 3)) ((i - 34) % 3)
def z05 (p : Int) (y : Way) : Array Value := Array.ofFn (n := 82) fun i => z1u p y i.1
def z04 (w : World) (B : Nat) (p : Int) (y : Way) : Prop := w.heap[B]? = some (cT (z05 p y) 205 (0, 0))
theorem z0c (p : Int) (y : Way) : (z05 p y).size = 82 := by simp [z05]
theorem zJ3 (x : Kno) (j : Nat) : (z2h x j).oneCell' = true := by
 unfold z2h
 split
 ·rfl
 split <;> rfl
theorem zHj (p : Int) (y : Way) (i : Nat) : (z1u p y i).oneCell' = true := by
 unfold z1u
 split
 ·rfl
 split <;> exact zJ3 _ _
theorem z9u (p : Int) (y : Way) (i : Nat) (h : i < (z05 p y).size) : (z05 p y)[i] = z1u p y i := by simp [z05]
theorem z26 (p : Int) (y : Way) : (z05 p y).all (·.oneCell') = true := by
 rw [Array.all_eq_true_iff_forall_mem]
 intro v hv
 obtain ⟨i, h1, h2⟩ := Array.mem_iff_getElem.1 hv
 rw [<- h2, z9u p y i h1]
 exact zHj _ _ _
theorem zSj (p : Int) (y : Way) (i : Nat) (hi : i < 82) : (z05 p y)[i]? = some (z1u p y i) := by
 unfold z05
 simp [hi]
section
variable {w : World} {B d : Nat} {p : Int} {y : Way}
theorem z04.lt (h : z04 w B p y) : B < w.heap.size := (Array.getElem?_eq_some_iff.1 h).1
theorem z04.at (h : z04 w B p y) (i : Nat) (hi : i < 82) : w.cell? ⟨B, i, none⟩ = some (z1u p y i) := by
 rw [cell_of_row w B i _ _ _ h, zSj p y i hi]
theorem z04.frozen (h : z04 w B p y) (i : Nat) : w.frozen? ⟨B, i, none⟩ = false := by
 have h' : w.heap[B]? = some (cT (z05 p y) 205 (0, 0)) := h
 simp [World.frozen?, h']
theorem z04.later {w1 : World} (h : z04 w B p y) (hb : Below w.heap.size w w1) : z04 w1 B p y := (hb.block B h.lt).trans h
theorem z04.alloc (h : z04 w B p y) (o : Obj) : z04 (w.alloc o) B p y := h.later ((bF _ _).alloc (Nat.le_refl _) _)
theorem z04.start (w : World) (p : Int) (y : Way) : z04 (w.alloc (cT (z05 p y) 205)) w.heap.size p y := heap_alloc_new w _
theorem z04.setRow {w : World} {g : Nat} {old : Array Value} (hg : w.heap[g]? = some (cT old 205 (0, 0))) (p : Int) (y : Way) : z04 (w.setRow g (z05 p y)) g p y := setRow_heap w g old _ _ _ hg
theorem z04.set {p' : Int} {y' : Way} (h : z04 w B p y) (i : Nat) (v : Value) (he : ∀ j, j < 82 -> z1u p' y' j = if j = i then v else z1u p y j) : z04 (w.setCell ⟨B, i, none⟩ v) B p' y' := by
 have e : (z05 p y).setIfInBounds i v = z05 p' y' := by
  apply Array.ext
  ·simp [z05]
  ·intro j h1 h2
   have h3 : j < 82 := by rw [z0c] at h2; exact h2
   rw [Array.getElem_setIfInBounds (by rw [z0c]; exact h3), z9u, z9u, he j h3]
   by_cases hj : i = j
   ·rw [if_pos hj, if_pos hj.symm]
   ·rw [if_neg hj, if_neg (fun e => hj e.symm)]
 unfold z04
 rw [<- e]
 exact heap_setCell_same w B i _ _ v h
theorem z6x (p : Int) (y : Way) (d : Nat) (hd : d < 11) (i : Nat) (hi : i < 3) : z1u p y (1 + d * 3 + i) = z2h (y.reg d) i := by
 unfold z1u
 rw [if_neg (by omega), if_pos (by omega), show (1 + d * 3 + i - 1) / 3 = d by omega, show (1 + d * 3 + i - 1) % 3 = i by omega]
theorem z5t (p : Int) (y : Way) (d : Nat) (i : Nat) (hi : i < 3) : z1u p y (34 + d * 3 + i) = z2h (y.slot d) i := by
 unfold z1u
 rw [if_neg (by omega), if_neg (by omega), show (34 + d * 3 + i - 34) / 3 = d by omega, show (34 + d * 3 + i - 34) % 3 = i by omega]
theorem z04.step (h : z04 w B p y) : w.cell? ⟨B, 0, none⟩ = some (A C p) := h.at 0 (by omega)
theorem z04.reg (h : z04 w B p y) (hd : d < 11) : w.cell? ⟨B, 1 + d * 3, none⟩ = some (A C (y.reg d).k) /\ w.cell? ⟨B, 1 + d * 3 + 1, none⟩ = some (A C (y.reg d).l) /\ w.cell? ⟨B, 1 + d * 3 + 2, none⟩ = some (A C (y.reg d).h) :=
 ⟨by rw [h.at _ (by omega)]; exact congrArg some (z6x p y d hd 0 (by omega)), by rw [h.at _ (by omega), z6x p y d hd 1 (by omega)]; rfl, by rw [h.at _ (by omega), z6x p y d hd 2 (by omega)]; rfl⟩
theorem z04.slot (h : z04 w B p y) (hd : d < 16) : w.cell? ⟨B, 34 + d * 3, none⟩ = some (A C (y.slot d).k) /\ w.cell? ⟨B, 34 + d * 3 + 1, none⟩ = some (A C (y.slot d).l) /\ w.cell? ⟨B, 34 + d * 3 + 2, none⟩ = some (A C (y.slot d).h) :=
 ⟨by rw [h.at _ (by omega)]; exact congrArg some (z5t p y d 0 (by omega)), by rw [h.at _ (by omega), z5t p y d 1 (by omega)]; rfl, by rw [h.at _ (by omega), z5t p y d 2 (by omega)]; rfl⟩
theorem z04.putStep (h : z04 w B p y) (q : Int) : z04 (w.setCell ⟨B, 0, none⟩ (A C q)) B q y :=
 h.set 0 _ fun j _ => by
  by_cases e : j = 0
  ·rw [if_pos e, e]; rfl
  ·rw [if_neg e]; unfold z1u; rw [if_neg e, if_neg e]
theorem z6t (p : Int) (y : Way) (d : Nat) (hd : d < 11) (x : Kno) (j : Nat) : z1u p (y.putReg d x) j = if 1 + d * 3 <= j /\ j < 1 + d * 3 + 3 then z2h x (j - (1 + d * 3)) else z1u p y j := by
 by_cases h : 1 + d * 3 <= j /\ j < 1 + d * 3 + 3
 ·rw [if_pos h]
  unfold z1u
  rw [if_neg (by omega), if_pos (by omega), show (j - 1) / 3 = d by omega, show (j - 1) % 3 = j - (1 + d * 3) by omega]
  show z2h (if d = d then x else y.reg d) _ = _
  rw [if_pos rfl]
 ·rw [if_neg h]
  unfold z1u
  by_cases h0 : j = 0
  ·rw [if_pos h0, if_pos h0]
  rw [if_neg h0, if_neg h0]
  by_cases h1 : j < 34
  ·rw [if_pos h1, if_pos h1]
   show z2h (if (j - 1) / 3 = d then x else y.reg ((j - 1) / 3)) _ = _
   rw [if_neg (by omega)]
  ·rw [if_neg h1, if_neg h1]; rfl
theorem z5u (p : Int) (y : Way) (d : Nat) (x : Kno) (j : Nat) : z1u p (y.putSlot d x) j = if 34 + d * 3 <= j /\ j < 34 + d * 3 + 3 then z2h x (j - (34 + d * 3)) else z1u p y j := by
 by_cases h : 34 + d * 3 <= j /\ j < 34 + d * 3 + 3
 ·rw [if_pos h]
  unfold z1u
  rw [if_neg (by omega), if_neg (by omega), show (j - 34) / 3 = d by omega, show (j - 34) % 3 = j - (34 + d * 3) by omega]
  show z2h (if d = d then x else y.slot d) _ = _
  rw [if_pos rfl]
 ·rw [if_neg h]
  unfold z1u
  by_cases h0 : j = 0
  ·rw [if_pos h0, if_pos h0]
  rw [if_neg h0, if_neg h0]
  by_cases h1 : j < 34
  ·rw [if_pos h1, if_pos h1]; rfl
  ·rw [if_neg h1, if_neg h1]
   show z2h (if (j - 34) / 3 = d then x else y.slot ((j - 34) / 3)) _ = _
   rw [if_neg (by omega)]
theorem zSi (y : Way) (d : Nat) : y.putReg d (y.reg d) = y := by
 unfold Way.putReg
 have : (fun i => if i = d then y.reg d else y.reg i) = y.reg := by
  funext i
  by_cases h : i = d
  ·rw [if_pos h, h]
  ·rw [if_neg h]
 rw [this]
theorem zOd (y : Way) (d : Nat) : y.putSlot d (y.slot d) = y := by
 unfold Way.putSlot
 have : (fun i => if i = d then y.slot d else y.slot i) = y.slot := by
  funext i
  by_cases h : i = d
  ·rw [if_pos h, h]
  ·rw [if_neg h]
 rw [this]
theorem zDv (p : Int) (y : Way) (d : Nat) (hd : d < 11) (x z : Kno) (i : Nat) (hi : i < 3) (h : ∀ j, j < 3 -> z2h z j = if j = i then z2h z i else z2h x j) : ∀ j, j < 82 -> z1u p (y.putReg d z) j = if j = 1 + d * 3 + i then z2h z i else z1u p (y.putReg d x) j := by
 intro j _
 rw [z6t p y d hd z j, z6t p y d hd x j]
 by_cases hin : 1 + d * 3 <= j /\ j < 1 + d * 3 + 3
 ·rw [if_pos hin, if_pos hin, h _ (by omega)]
  by_cases e : j = 1 + d * 3 + i
  ·rw [if_pos e, if_pos (by omega)]
  ·rw [if_neg e, if_neg (by omega)]
 ·rw [if_neg hin, if_neg hin, if_neg (by omega)]
theorem z86 (p : Int) (y : Way) (d : Nat) (x z : Kno) (i : Nat) (hi : i < 3) (h : ∀ j, j < 3 -> z2h z j = if j = i then z2h z i else z2h x j) : ∀ j, j < 82 -> z1u p (y.putSlot d z) j = if j = 34 + d * 3 + i then z2h z i else z1u p (y.putSlot d x) j := by
 intro j _
 rw [z5u p y d z j, z5u p y d x j]
 by_cases hin : 34 + d * 3 <= j /\ j < 34 + d * 3 + 3
 ·rw [if_pos hin, if_pos hin, h _ (by omega)]
  by_cases e : j = 34 + d * 3 + i
  ·rw [if_pos e, if_pos (by omega)]
  ·rw [if_neg e, if_neg (by omega)]
 ·rw [if_neg hin, if_neg hin, if_neg (by omega)]
theorem z04.reg3 (h : z04 w B p y) (hd : d < 11) (k l g : Int) : z04 (((w.setCell ⟨B, 1 + d * 3, none⟩ (A C k)).setCell ⟨B, 1 + d * 3 + 1, none⟩ (A C l)).setCell ⟨B, 1 + d * 3 + 2, none⟩ (A C g)) B p (y.putReg d ⟨k, l, g⟩) := by
 have h1 : z04 (w.setCell ⟨B, 1 + d * 3, none⟩ (A C k)) B p (y.putReg d ⟨k, (y.reg d).l, (y.reg d).h⟩) := h.set _ _ fun j hj => by
  have := zDv p y d hd (y.reg d) ⟨k, (y.reg d).l, (y.reg d).h⟩ 0 (by omega) (fun j hj => by rcases (show j = 0 \/ j = 1 \/ j = 2 by omega) with rfl | rfl | rfl <;> rfl) j hj
  rw [this, zSi y d]; rfl
 have h2 : z04 ((w.setCell ⟨B, 1 + d * 3, none⟩ (A C k)).setCell ⟨B, 1 + d * 3 + 1, none⟩ (A C l)) B p (y.putReg d ⟨k, l, (y.reg d).h⟩) := h1.set _ _ fun j hj =>
  zDv p y d hd ⟨k, (y.reg d).l, (y.reg d).h⟩ ⟨k, l, (y.reg d).h⟩ 1 (by omega) (fun j hj => by rcases (show j = 0 \/ j = 1 \/ j = 2 by omega) with rfl | rfl | rfl <;> rfl) j hj
 exact h2.set _ _ fun j hj =>
  zDv p y d hd ⟨k, l, (y.reg d).h⟩ ⟨k, l, g⟩ 2 (by omega) (fun j hj => by rcases (show j = 0 \/ j = 1 \/ j = 2 by omega) with rfl | rfl | rfl <;> rfl) j hj
theorem z04.slot3 (h : z04 w B p y) (d : Nat) (k l g : Int) : z04 (((w.setCell ⟨B, 34 + d * 3, none⟩ (A C k)).setCell ⟨B, 34 + d * 3 + 1, none⟩ (A C l)).setCell ⟨B, 34 + d * 3 + 2, none⟩ (A C g)) B p (y.putSlot d ⟨k, l, g⟩) := by
 have h1 : z04 (w.setCell ⟨B, 34 + d * 3, none⟩ (A C k)) B p (y.putSlot d ⟨k, (y.slot d).l, (y.slot d).h⟩) := h.set _ _ fun j hj => by
  have := z86 p y d (y.slot d) ⟨k, (y.slot d).l, (y.slot d).h⟩ 0 (by omega) (fun j hj => by rcases (show j = 0 \/ j = 1 \/ j = 2 by omega) with rfl | rfl | rfl <;> rfl) j hj
  rw [this, zOd y d]; rfl
 have h2 : z04 ((w.setCell ⟨B, 34 + d * 3, none⟩ (A C k)).setCell ⟨B, 34 + d * 3 + 1, none⟩ (A C l)) B p (y.putSlot d ⟨k, l, (y.slot d).h⟩) := h1.set _ _ fun j hj =>
  z86 p y d ⟨k, (y.slot d).l, (y.slot d).h⟩ ⟨k, l, (y.slot d).h⟩ 1 (by omega) (fun j hj => by rcases (show j = 0 \/ j = 1 \/ j = 2 by omega) with rfl | rfl | rfl <;> rfl) j hj
 exact h2.set _ _ fun j hj =>
  z86 p y d ⟨k, l, (y.slot d).h⟩ ⟨k, l, g⟩ 2 (by omega) (fun j hj => by rcases (show j = 0 \/ j = 1 \/ j = 2 by omega) with rfl | rfl | rfl <;> rfl) j hj
end
theorem Tryz.infoW : (Tryz.prog.info? 205).map (·.size) = some 82 := by kernel_rfl
theorem z0n (p : Int) (y : Way) : (Tryz.prog.info? 205).map (·.size) = some (z05 p y).size := by rw [z0c]; exact Tryz.infoW
theorem z8z {fn : Func} {q : Tmp} (h : fn.results = #[.cell q 205]) (tmps : Array Value) (w : World) (g : Nat) (p : Int) (y : Way) (hp : tmps.getD q undef = pT (some ⟨g, 0, none⟩)) (hg : z04 w g p y) :
  (results fn tmps).run tP w = .ok (.agg (z05 p y)) w :=
 results_cell_row h tmps w g _ _ _ _ hp hg Tryz.underlying205 rfl (z0n p y)
end
theorem z1g (l h : Int) (w : World) : Calls tP 140 #[.agg #[A C l, A C h]] w fun e w' => e = rT (z1d l h).v /\ Below w.heap.size w w' := by
 go_enter Tryz.func140, Tryz.ntmps140
 go_wp2
 exact bodyPost_ret (v := (z1d l h).v) (by simp [results, Tryz.results140, go_sem, z1d, Kno.v]) rfl ⟨rfl, by repeat' first | with_reducible (first | exact bF _ _ | refine bA ?_ ?_ _ | refine bS ?_ ?_ _ | refine bD ?_) | ((try dsimp only); omega) | (simp; done) | (simp; omega)⟩
theorem z9n (k l h : Int) (w : World) : (∀ (y2 : (k == 2) = true), Calls tP 177 #[.agg #[A C k, A C l, A C h]] w fun e w' => e = rT (.bool true) /\ Below w.heap.size w w') /\ (∀ (y2 : (k == 2) = false) (y3 : (k == 3) = true), Calls tP 177 #[.agg #[A C k, A C l, A C h]] w fun e w' => e = rT (.bool true) /\ Below w.heap.size w w') /\ (∀ (y2 : (k == 2) = false) (y3 : (k == 3) = false) (y4 : (k == 4) = true), Calls tP 177 #[.agg #[A C k, A C l, A C h]] w fun e w' => e = rT (.bool true) /\ Below w.heap.size w w') /\ (∀ (y2 : (k == 2) = false) (y3 : (k == 3) = false) (y4 : (k == 4) = false), Calls tP 177 #[.agg #[A C k, A C l, A C h]] w fun e w' => e = rT (.bool false) /\ Below w.heap.size w w') := by
 refine ⟨?_, ?_, ?_, ?_⟩
 intro y2
 rotate_left
 intro y2 y3
 rotate_left
 intro y2 y3 y4
 rotate_left
 intro y2 y3 y4
 rotate_left
 all_goals
  go_enter Tryz.func177, Tryz.ntmps177
  go_wp2
  go_ret
  exact ⟨rfl, by repeat' first | with_reducible (first | exact bF _ _ | refine bA ?_ ?_ _ | refine bS ?_ ?_ _ | refine bD ?_) | ((try dsimp only); omega) | (simp; done) | (simp; omega)⟩
def zNm := fun k l h w => (@z9n k l h w).1
def zNl := fun k l h w => (@z9n k l h w).2.1
def zNk := fun k l h w => (@z9n k l h w).2.2.1
def zNn := fun k l h w => (@z9n k l h w).2.2.2
def z1k (k : Int) : Bool := k == 2 || k == 3 || k == 4
theorem z4g (k l h : Int) (w : World) : Calls tP 177 #[.agg #[A C k, A C l, A C h]] w fun e w' => e = rT (.bool (z1k k)) /\ Below w.heap.size w w' := by
 unfold z1k
 cases y2 : k == 2
 ·cases y3 : k == 3
  ·cases y4 : k == 4
   ·exact zNn k l h w y2 y3 y4
   ·exact zNk k l h w y2 y3 y4
  ·exact zNl k l h w y2 y3
 ·exact zNm k l h w y2
theorem z3b (k : Int) : z1k k = true ↔ (k = 2 \/ k = 3 \/ k = 4) := by unfold z1k; simp [or_assoc]
theorem zEo (k l h : Int) (w : World) : (∀ (y0 : (k == 0) = true), Calls tP 103 #[.agg #[A C k, A C l, A C h]] w fun e w' => e = rT (A C 8) /\ Below w.heap.size w w') /\ (∀ (y0 : (k == 0) = false) (y1 : (k == 1) = true), Calls tP 103 #[.agg #[A C k, A C l, A C h]] w fun e w' => e = rT (A C 0) /\ Below w.heap.size w w') /\ (∀ (y0 : (k == 0) = false) (y1 : (k == 1) = false), Calls tP 103 #[.agg #[A C k, A C l, A C h]] w fun e w' => e = rT (A C 1) /\ Below w.heap.size w w') := by
 refine ⟨?_, ?_, ?_⟩
 intro y0
 rotate_left
 intro y0 y1
 rotate_left
 intro y0 y1
 rotate_left
 all_goals
  go_enter Tryz.func103, Tryz.ntmps103
  go_wp2
  go_ret
  exact ⟨rfl, by repeat' first | with_reducible (first | exact bF _ _ | refine bA ?_ ?_ _ | refine bS ?_ ?_ _ | refine bD ?_) | ((try dsimp only); omega) | (simp; done) | (simp; omega)⟩
def zSm := fun k l h w => (@zEo k l h w).1
def zSl := fun k l h w => (@zEo k l h w).2.1
def zSk := fun k l h w => (@zEo k l h w).2.2
theorem z3f (k l h : Int) (w : World) : Calls tP 103 #[.agg #[A C k, A C l, A C h]] w fun e w' => e = rT (A C (z0w ⟨k, l, h⟩)) /\ Below w.heap.size w w' := by
 unfold z0w
 by_cases h0 : k = 0
 ·rw [if_pos h0]; exact zSm k l h w (by simpa using h0)
 by_cases h1 : k = 1
 ·rw [if_neg h0, if_pos h1]; exact zSl k l h w (by simpa using h0) (by simpa using h1)
 ·rw [if_neg h0, if_neg h1]; exact zSk k l h w (by simpa using h0) (by simpa using h1)
theorem zEn (k : Int) (w : World) : (∀ (y2 : (k == 2) = true), Calls tP 179 #[A C k] w fun e w' => e = rT (.agg #[A C 0, A C 7]) /\ Below w.heap.size w w') /\ (∀ (y2 : (k == 2) = false) (y3 : (k == 3) = true), Calls tP 179 #[A C k] w fun e w' => e = rT (.agg #[A C (-16), A C (-1)]) /\ Below w.heap.size w w') /\ (∀ (y2 : (k == 2) = false) (y3 : (k == 3) = false), Calls tP 179 #[A C k] w fun e w' => e = rT (.agg #[A C 0, A C 3]) /\ Below w.heap.size w w') := by
 refine ⟨?_, ?_, ?_⟩
 intro y2
 rotate_left
 intro y2 y3
 rotate_left
 intro y2 y3
 rotate_left
 all_goals
  go_enter Tryz.func179, Tryz.ntmps179
  go_wp2
  exact bodyPost_ret (by simp [results, Tryz.results179, go_sem]) rfl ⟨rfl, by repeat' first | with_reducible (first | exact bF _ _ | refine bA ?_ ?_ _ | refine bS ?_ ?_ _ | refine bD ?_) | ((try dsimp only); omega) | (simp; done) | (simp; omega)⟩
def room_2 := fun k w => (@zEn k w).1
def room_3 := fun k w => (@zEn k w).2.1
def room_4 := fun k w => (@zEn k w).2.2
theorem zT7 (k : Int) (w : World) : Calls tP 179 #[A C k] w fun e w' => e = rT (.agg #[A C (z23 k).1, A C (z23 k).2]) /\ Below w.heap.size w w' := by
 unfold z23
 by_cases h2 : k = 2
 ·rw [if_pos h2]; exact room_2 k w (by simpa using h2)
 by_cases h3 : k = 3
 ·rw [if_neg h2, if_pos h3]; exact room_3 k w (by simpa using h2) (by simpa using h3)
 ·rw [if_neg h2, if_neg h3]; exact room_4 k w (by simpa using h2) (by simpa using h3)
theorem z2v  (w : World) : Calls tP 141 #[] w fun e w' => e = rT (.agg #[A C (-9223372036854775808), A C 9223372036854775807]) /\ Below w.heap.size w w' := by
 go_enter Tryz.func141, Tryz.ntmps141
 go_wp2
 exact bodyPost_ret (v := .agg #[A C (-9223372036854775808), A C 9223372036854775807]) (by simp [results, Tryz.results141, go_sem]) rfl ⟨rfl, by repeat' first | exact bF _ _ | refine bA ?_ ?_ _ | refine bS ?_ ?_ _ | refine bD ?_ | (simp; done) | (simp; omega) | (simp [z00]; done) | (simp [z00]; omega) | omega⟩
theorem z2p (n : Int) (w : World) : Calls tP 100 #[A C n] w fun e w' => e = rT (.agg #[A C n, A C n]) /\ Below w.heap.size w w' := by
 go_enter Tryz.func100, Tryz.ntmps100
 go_wp2
 exact bodyPost_ret (v := .agg #[A C n, A C n]) (by simp [results, Tryz.results100, go_sem]) rfl ⟨rfl, by repeat' first | exact bF _ _ | refine bA ?_ ?_ _ | refine bS ?_ ?_ _ | refine bD ?_ | (simp; done) | (simp; omega) | (simp [z00]; done) | (simp [z00]; omega) | omega⟩
theorem z34 (al ah bl bh : Int) (w : World) : Calls tP 71 #[.agg #[A C al, A C ah], .agg #[A C bl, A C bh]] w fun e w' => e = rT (.agg #[A C (min al bl), A C (max ah bh)]) /\ Below w.heap.size w w' := by
 go_enter Tryz.func71, Tryz.ntmps71
 go_wp2
 exact bodyPost_ret (v := .agg #[A C (min al bl), A C (max ah bh)]) (by simp [results, Tryz.results71, go_sem]) rfl ⟨rfl, by repeat' first | exact bF _ _ | refine bA ?_ ?_ _ | refine bS ?_ ?_ _ | refine bD ?_ | (simp; done) | (simp; omega) | (simp [z00]; done) | (simp [z00]; omega) | omega⟩
theorem zKt (x y : Int) (p q : Bool) (w : World) : (Instr.index 346 (.agg #[A C x, .bool p, A C y, .bool q]) (A C 0)).run tP w = .ok (.agg #[A C x, .bool p]) w := by kernel_rfl
theorem zKs (x y : Int) (p q : Bool) (w : World) : (Instr.index 346 (.agg #[A C x, .bool p, A C y, .bool q]) (A C 1)).run tP w = .ok (.agg #[A C y, .bool q]) w := by kernel_rfl
theorem zJy (x y : Int) (w : World) : Calls tP 196 #[.agg #[A C x, .bool true, A C y, .bool true]] w fun e w' => e = rT (.agg #[A C x, A C y]) /\ Below w.heap.size w w' := by
 have i0 := zKt x y true true
 have i1 := zKs x y true true
 go_enter Tryz.func196, Tryz.ntmps196
 go_wp2
 refine wp_loop_rounds 3 ?_
 repeat any_goals (rw [rounds_succ]; go_wp2)
 exact bodyPost_ret (v := .agg #[A C x, A C y]) (by simp [results, Tryz.results196, go_sem]) rfl ⟨rfl, by repeat' first | exact bF _ _ | refine bA ?_ ?_ _ | refine bS ?_ ?_ _ | refine bD ?_ | (simp; done) | (simp; omega) | (simp [z00]; done) | (simp [z00]; omega) | omega⟩
theorem zO5 (x y : Int) (p q : Bool) (h : (p && q) = false) (w : World) : Calls tP 196 #[.agg #[A C x, .bool p, A C y, .bool q]] w fun e w' => e = rT (.agg #[A C (-9223372036854775808), A C 9223372036854775807]) /\ Below w.heap.size w w' := by
 have i0 := zKt x y p q
 have i1 := zKs x y p q
 cases p
 ·go_enter Tryz.func196, Tryz.ntmps196
  go_wp2
  refine wp_loop_rounds 3 ?_
  repeat any_goals (rw [rounds_succ]; go_wp2_with (go_at_call 141; refine (z2v _).mono ?_; rintro e w1 ⟨rfl, hb1⟩; obtain ⟨hcl1, hfr1⟩ := z0h hb1; have hs1 := hb1.size; (try simp only [z00] at hs1); (try simp at hs1); have hbw1 : Below w.heap.size w w1 := by ((refine Below.trans ?_ (hb1.mono ?_)) <;> repeat' first | exact bF _ _ | refine bA ?_ ?_ _ | refine bS ?_ ?_ _ | refine bD ?_ | (simp; done) | (simp; omega) | (simp [z00]; done) | (simp [z00]; omega) | omega)))
  exact bodyPost_ret (v := .agg #[A C (-9223372036854775808), A C 9223372036854775807]) (by simp [results, Tryz.results196, go_sem, hcl1]) rfl ⟨rfl, by repeat' first | exact bF _ _ | exact hbw1 | refine bA ?_ ?_ _ | refine bS ?_ ?_ _ | refine bD ?_ | (simp; done) | (simp; omega) | (simp [z00]; done) | (simp [z00]; omega) | omega⟩
 ·have hq : q = false := by simpa using h
  subst hq
  go_enter Tryz.func196, Tryz.ntmps196
  go_wp2
  refine wp_loop_rounds 3 ?_
  repeat any_goals (rw [rounds_succ]; go_wp2_with (go_at_call 141; refine (z2v _).mono ?_; rintro e w1 ⟨rfl, hb1⟩; obtain ⟨hcl1, hfr1⟩ := z0h hb1; have hs1 := hb1.size; (try simp only [z00] at hs1); (try simp at hs1); have hbw1 : Below w.heap.size w w1 := by ((refine Below.trans ?_ (hb1.mono ?_)) <;> repeat' first | exact bF _ _ | refine bA ?_ ?_ _ | refine bS ?_ ?_ _ | refine bD ?_ | (simp; done) | (simp; omega) | (simp [z00]; done) | (simp [z00]; omega) | omega)))
  exact bodyPost_ret (v := .agg #[A C (-9223372036854775808), A C 9223372036854775807]) (by simp [results, Tryz.results196, go_sem, hcl1]) rfl ⟨rfl, by repeat' first | exact bF _ _ | exact hbw1 | refine bA ?_ ?_ _ | refine bS ?_ ?_ _ | refine bD ?_ | (simp; done) | (simp; omega) | (simp [z00]; done) | (simp [z00]; omega) | omega⟩
theorem zO6 (x y : Int) (p q : Bool) (w : World) : Calls tP 196 #[.agg #[A C x, .bool p, A C y, .bool q]] w fun e w' => e = rT (.agg #[A C (if p && q then x else -9223372036854775808), A C (if p && q then y else 9223372036854775807)]) /\ Below w.heap.size w w' := by
 cases h : p && q
 ·exact zO5 x y p q h w
 ·simp only [Bool.and_eq_true] at h
  obtain ⟨rfl, rfl⟩ := h
  exact zJy x y w
end Go.Proofs.YtbimlalhodibjaaGreatDoor
