/-
  Ways that wait, one behind the other in a row, the last one first; the ends of ways; what comes of all ways. Conditions: the steps are right. What package verify's goAll returns: all ways of a list of right steps, each wholly ahead of the next one. Conditions: the list's cells hold right steps; numbers are of 64 bits. What package verify's Verify returns: what is wrong with the list or with a step; the first thing that may go wrong on a way; or between which numbers all ways end. Conditions: the list's cells hold steps of 64 bits. What stands between semicolons, and between blanks, in a text that was put together of clean words: those words. A program as text: what asm.Write returns to a list of steps in memory: the steps' texts, with a semicolon and a blank between, or what op.Check returned; the world below is as it was. Conditions: the list's cells hold steps with numbers of 64 bits, the tables lie in memory. The words of a step that nothing is wrong with: each is clean, and names, registers, numbers and places are read as what they were written of. The text of a program that nothing is wrong with tells that program. The steps that a written program's text tells: those that were written. What asm.Read returns to the text of a program that nothing is wrong with: that program. The numbers of a step that is told fit in 64 bits. A step that asks, of a program that runs: how far it leads, or what is wrong; nothing that was there is changed. Conditions: numbers are of 64 bits. A Load, of a program that runs: what is in a register then, or what is wrong. Conditions: numbers are of 64 bits. A Store, of a program that runs: what is in a slot, or in a cell, then, or what is wrong. Conditions: numbers are of 64 bits. What a call leaves, of a program that runs: registers that are lost, numbers that are given out, what is answered. Conditions: numbers are of 64 bits. A Call, of a program that runs: what it leaves, or what is wrong. Conditions: numbers are of 64 bits. What a step that is no Exit does to a program that runs: by the plain machine. Conditions: the step is a right one; numbers are of 64 bits. What package machine's do does to a program that runs: by the plain machine. Conditions: the step is a right one; numbers are of 64 bits. How a program goes on from step to step to its end: by the plain machine. Conditions: every step is a right one; numbers are of 64 bits. A program at its first step. Conditions: none. A region that draws its order, walked by hand: one operation at a time, its slot named. No program is named here. No conditions. What package machine's Run answers: by the plain machine. Conditions: the list's cells hold steps; numbers are of 64 bits. gatehousekeep.let and gatehousekeep.runs are true. Conditions: the library's tables are as they are laid. From the reading of a list of steps to its cells: each step's six fields lie one behind the other, and its numbers are of 64 bits. Conditions: none. gatehousekeep.VerifyDead returns true at every two lists of steps and every number. Conditions: the library's tables are as they are laid; numbers are of 64 bits.
-/
import Derived.Test.YtednmkhdehlojaaGreatDoorJd14
import Derived.Test.YtednmkhdehlojaaGreatDoorJd11
import Derived.Test.YtednmkhdehlojaaGreatDoorJd5
import Derived.Deep.MidRow
import Derived.Maps.AppendAt
import Derived.Test.YtednmkhdehlojaaGreatDoorJd7
import Derived.Test.YtednmkhdehlojaaGreatDoorJd8
import Derived.Test.YtednmkhdehlojaaGreatDoorJd9
import Derived.Laws.IdiomCopy
import Derived.Deep.RegionHeld3
import Derived.Laws.Tables
import Derived.Laws.Rows
import Derived.BigRegion
import Derived.RegionTactic
import Derived.Test.YtednmkhdehlojaaGreatDoorJd6
import Derived.Deep.Slices
import Derived.ChangeSame
import Derived.ChangeVars
import Derived.ChangeOld
open Go.Value renaming int → vI
open Go.IntKind renaming i64 → vK
open Go.RowKit.Below renaming alloc → bA, setCell → bS, drew → bD, refl → bF
set_option maxHeartbeats 4000000
set_option maxRecDepth 1000000
namespace Go.Proofs.YtednmkhdehlojaaGreatDoor
open Go.ChangeShapes Go.WideShapes Go.ChangeAt Go.RowKit
def posL (st : List (Nat × Way)) : List (Int × Way) := st.map fun x => ((x.1 : Int), x.2)
def endCells (es : List Kno) : List Value := es.flatMap fun b => [vI vK b.l, vI vK b.h]
def EndsAt (w : World) (base : Nat) (v : Value) (es : List Kno) : Prop := w.ownsRow base 43 2 v es.length (endCells es)
theorem endCells_snoc (es : List Kno) (b : Kno) : endCells (es ++ [b]) = endCells es ++ [vI vK b.l, vI vK b.h] := by
  unfold endCells; rw [List.flatMap_append]; simp
theorem posL_rev (pc : Nat) (y : Way) (st : List (Nat × Way)) : posL (((pc, y) :: st).reverse) = posL st.reverse ++ [((pc : Int), y)] := by unfold posL; rw [List.reverse_cons, List.map_append]; rfl
theorem posL_len (st : List (Nat × Way)) : (posL st.reverse).length = st.length := by unfold posL; rw [List.length_map, List.length_reverse]
theorem goF_nil (C D S : Nat → Int) (R : Nat → Bool) (O N : Nat → Int) (f : Nat) (es : List Kno) : goF C D S R O N f [] es = .inr es := by cases f <;> rfl
theorem goF_step {C D S : Nat → Int} {R : Nat → Bool} {O N : Nat → Int} (f pc : Nat) (y : Way) (st : List (Nat × Way)) (es : List Kno) (d s : Nat) (hd : D pc = (d : Int)) (hs : S pc = (s : Int)) :
    goF C D S R O N (f + 1) ((pc, y) :: st) es = if (y.look (C pc) d s (R pc) (O pc) (N pc)).2 ≠ 0 then .inl ((y.look (C pc) d s (R pc) (O pc) (N pc)).2, pc)
      else goF C D S R O N f ((y.look (C pc) d s (R pc) (O pc) (N pc)).1.map (fun z => (pc + 1 + z.1.toNat, z.2)) ++ st) (if C pc = 28 then es ++ [y.reg 0] else es) := by
  rw [goF]
  simp only [hd, hs, Int.toNat_natCast]
theorem at_made (w : World) (a b : Value) (t : TypeId) : (w.alloc (.cells #[a, b] t)).drew.cell? ⟨w.heap.size, 0, none⟩ = some a ∧ (w.alloc (.cells #[a, b] t)).drew.cell? ⟨w.heap.size, 1, none⟩ = some b ∧ w.heap.size < (w.alloc (.cells #[a, b] t)).drew.heap.size := by
  have h : (w.alloc (.cells #[a, b] t)).drew.heap[w.heap.size]? = some (.cells #[a, b] t (0, 0)) := heap_alloc_new w _
  obtain ⟨h0, h1, -, -, h2⟩ := row2 h
  exact ⟨h0, h1, h2⟩
section
variable {w w' : World} {base : Nat} {v : Value} {l : List (Int × Way)} {es : List Kno}
theorem WaysAt.shape (h : WaysAt w base v l) : ∃ a cap, v = .slice a l.length cap := by
  rcases h.2 with ⟨h1, h2⟩ | ⟨g, cap, cur, h1, _⟩
  · exact ⟨none, 0, by rw [h2]; exact h1⟩
  · exact ⟨_, _, h1⟩
theorem WaysAt.more {x : Int × Way} (h : WaysAt w base v (l ++ [x])) : ∃ g cap, v = .slice (some ⟨g, 0, none⟩) (l.length + 1) cap ∧ l.length + 1 ≤ cap ∧ cap ≤ maxLen ∧ base ≤ g ∧ g < w.heap.size := by
  rcases h.2 with ⟨_, h2⟩ | ⟨g, cap, cur, h1, h2, h3, h4, h5, _⟩
  · rw [List.length_append] at h2; exact absurd h2 (by simp)
  · rw [List.length_append] at h1 h4
    exact ⟨g, cap, h1, h4, h5, h2, (Array.getElem?_eq_some_iff.1 h3).1⟩
theorem WaysAt.pop {g cap : Nat} {x : Int × Way} (h : WaysAt w base (.slice (some ⟨g, 0, none⟩) (l.length + 1) cap) (l ++ [x])) : WaysAt w base (.slice (some ⟨g, 0, none⟩) l.length cap) l := by
  rcases h.2 with ⟨h1, _⟩ | ⟨g', cap', cur, h1, h2, h3, h4, h5, h6, h7⟩
  · exact absurd h1 (by simp)
  · rw [List.length_append] at h1 h4 h7
    cases h1
    refine ⟨by rw [waysCells_len], Or.inr ⟨g, cap, cur, rfl, h2, h3, by omega, h5, h6, ?_⟩⟩
    have h8 : (cur.toList.take ((l.length + [x].length) * 82)).take (l.length * 82) = (waysCells (l ++ [x])).take (l.length * 82) := by rw [h7]
    rw [List.take_take, Nat.min_eq_left (Nat.mul_le_mul_right _ (by omega)), waysCells_snoc, ← waysCells_len l] at h8
    rw [← waysCells_len l, h8, List.take_left]
theorem waysCells_append (l1 l2 : List (Int × Way)) : waysCells (l1 ++ l2) = waysCells l1 ++ waysCells l2 := by unfold waysCells; rw [List.flatMap_append]
theorem WaysAt.elem {g n cap : Nat} {x : Int × Way} {l2 : List (Int × Way)} (h : WaysAt w base (.slice (some ⟨g, 0, none⟩) n cap) (l ++ x :: l2)) : w.rangeAt g (l.length * 82) (wayCs x.1 x.2).toList := by
  intro j u hj
  have hk := World.ownsRow.cells h (g := g) rfl (l.length * 82 + j) u (by
    rw [waysCells_append, List.getElem?_append_right (by rw [waysCells_len]; omega), waysCells_len, show l.length * 82 + j - l.length * 82 = j by omega]
    unfold waysCells
    rw [List.flatMap_cons, List.getElem?_append_left (List.getElem?_eq_some_iff.1 hj).1]
    exact hj)
  rw [Addr.add_mid, Nat.zero_add] at hk
  exact hk
theorem WaysAt.some_of {a : Option Addr} {n cap : Nat} (h : WaysAt w base (.slice a n cap) l) (hl : 0 < l.length) : ∃ g, a = some ⟨g, 0, none⟩ ∧ n = l.length ∧ base ≤ g ∧ g < w.heap.size := by
  rcases h.2 with ⟨_, h2⟩ | ⟨g, cap', cur, h1, h2, h3, _⟩
  · omega
  · cases h1
    exact ⟨g, rfl, rfl, h2, (Array.getElem?_eq_some_iff.1 h3).1⟩
theorem EndsAt.nil (w : World) (base : Nat) : EndsAt w base (.slice none 0 0) [] := World.ownsRow_nil _ _ _ _
theorem EndsAt.later (h : EndsAt w base v es) (hb : Below w.heap.size w w') : EndsAt w' base v es :=
  World.ownsRow.kept (w' := w') (row := none) h ⟨hb.os, hb.tape, hb.output, hb.size, fun k hk _ => hb.block k hk⟩ (by cases v.ownBlock <;> simp)
theorem EndsAt.grown {row : Option Nat} (h : EndsAt w base v es) (hg : w.grownBy w' row) (hne : ∀ k, row = some k → v.ownBlock ≠ some k) : EndsAt w' base v es :=
  World.ownsRow.kept (w' := w') (row := row) h hg (by
    cases row with
    | none => cases v.ownBlock <;> simp
    | some k => exact Or.inr (hne k rfl))
theorem WaysAt.grown {row : Option Nat} (h : WaysAt w base v l) (hg : w.grownBy w' row) (hne : ∀ k, row = some k → v.ownBlock ≠ some k) : WaysAt w' base v l :=
  World.ownsRow.kept (w' := w') (row := row) h hg (by
    cases row with
    | none => cases v.ownBlock <;> simp
    | some k => exact Or.inr (hne k rfl))
theorem EndsAt.above (h : EndsAt w base v es) : ∀ k, v.ownBlock = some k → base ≤ k ∧ k < w.heap.size := World.ownsRow.lt h
end
theorem wpList_snoc2 {ops : Array Oper} {rest : List Oper} {o : Oper} {a : Act} {w : World} {Q : Exit → Act → World → Prop} (hg : o.guard = none) (s x : Operand) (ho : o.op = .call { callee := .builtin .append, args := #[s, x], argTypes := #[152, 152] })
    (base : Nat) (v : Value) (l : List (Int × Way)) (hs : a.eval s = v) (hw : WaysAt w base v l) (p : Int) (y : Way) (hx : a.eval x = .slice (some ⟨w.heap.size, 0, none⟩) 1 1) (hl : l.length ≤ 1000000) (hb : base ≤ w.heap.size)
    (h : ∀ v' w', WaysAt w' base v' (l ++ [(p, y)]) → w.grownBy w' v.ownBlock → (∀ k, v'.ownBlock = some k → v.ownBlock = some k ∨ w.heap.size ≤ k) → wpList Tryz.prog ops Q rest (a.put o.dst v') w') : wpList Tryz.prog ops Q (o :: rest) a (w.alloc (.cells (waysCells [(p, y)]).toArray 150)) := by
  obtain ⟨i0, hi, hz0, hz1, hz2⟩ := info_parts Tryz.infoWz
  have e1 : waysCells [(p, y)] = (wayCs p y).toList := by unfold waysCells; simp
  refine wpList_append_own_at _ hg s x 152 ho base 150 i0 _ 82 656 Tryz.underlying152 hi hz0 hz1 hz2 zeroW_size (by decide) v l.length (waysCells l) hs (hw.alloc _) ⟨w.heap.size, 0, none⟩ 1 1 (waysCells [(p, y)]) hx (by rw [waysCells_len]; rfl) ?_ ?_ (by unfold maxLen; omega) (by omega) (by simp; omega) ?_
  · intro j u hu
    rw [e1] at hu ⊢
    rw [Addr.add_mid, Nat.zero_add, cell_of_row _ w.heap.size j _ 150 (0, 0) (heap_alloc_new w _)]
    simpa using hu
  · intro u hu
    rw [e1] at hu
    exact (Array.all_eq_true_iff_forall_mem.1 (wayCs_one p y)) u (Array.mem_toList_iff.1 hu)
  · intro v' w' h1 h2 _ h4
    refine h v' w' ?_ ⟨h2.os, h2.tape, h2.output, Nat.le_trans (by simp) h2.size, fun k hk hne => (h2.block k (by simp; omega) hne).trans (heap_alloc_old w _ hk)⟩ (fun k e => ?_)
    · show w'.ownsRow base 150 82 v' (l ++ [(p, y)]).length (waysCells (l ++ [(p, y)]))
      rw [waysCells_snoc, List.length_append, ← e1]
      exact h1
    · rcases h4 with h4 | h4
      · exact Or.inl (h4.symm.trans e)
      · rw [e] at h4
        have := Option.some.inj h4
        right; rw [this]; simp
theorem Tryz.infoBz : (Tryz.prog.info? 43).map (fun i => (i.zero, i.size, i.bytes)) = some (some (.agg #[vI vK 0, vI vK 0]), 2, 16) := by kernel_rfl
theorem wpList_end {ops : Array Oper} {rest : List Oper} {o : Oper} {a : Act} {w : World} {Q : Exit → Act → World → Prop} (hg : o.guard = none) (s x : Operand) (ho : o.op = .call { callee := .builtin .append, args := #[s, x], argTypes := #[91, 91] })
    (base : Nat) (v : Value) (es : List Kno) (hs : a.eval s = v) (hw : EndsAt w base v es) (b : Kno) (hx : a.eval x = .slice (some ⟨w.heap.size, 0, none⟩) 1 1) (hl : es.length ≤ 1000000) (hb : base ≤ w.heap.size)
    (h : ∀ v' w', EndsAt w' base v' (es ++ [b]) → w.grownBy w' v.ownBlock → (∀ k, v'.ownBlock = some k → v.ownBlock = some k ∨ w.heap.size ≤ k) → wpList Tryz.prog ops Q rest (a.put o.dst v') w') : wpList Tryz.prog ops Q (o :: rest) a (w.alloc (.cells #[vI vK b.l, vI vK b.h] 43)) := by
  obtain ⟨i0, hi, hz0, hz1, hz2⟩ := info_parts Tryz.infoBz
  refine wpList_append_own_at _ hg s x 91 ho base 43 i0 _ 2 16 Tryz.underlying91 hi hz0 hz1 hz2 rfl (by decide) v es.length (endCells es) hs (hw.alloc _) ⟨w.heap.size, 0, none⟩ 1 1 [vI vK b.l, vI vK b.h] hx rfl ?_ ?_ (by unfold maxLen; omega) (by omega) (by simp; omega) ?_
  · intro j u hu
    rw [Addr.add_mid, Nat.zero_add, cell_of_row _ w.heap.size j _ 43 (0, 0) (heap_alloc_new w _)]
    simpa using hu
  · intro u hu
    simp at hu
    rcases hu with rfl | rfl <;> rfl
  · intro v' w' h1 h2 _ h4
    refine h v' w' ?_ ⟨h2.os, h2.tape, h2.output, Nat.le_trans (by simp) h2.size, fun k hk hne => (h2.block k (by simp; omega) hne).trans (heap_alloc_old w _ hk)⟩ (fun k e => ?_)
    · show w'.ownsRow base 43 2 v' (es ++ [b]).length (endCells (es ++ [b]))
      rw [endCells_snoc, List.length_append]
      exact h1
    · rcases h4 with h4 | h4
      · exact Or.inl (h4.symm.trans e)
      · rw [e] at h4
        have := Option.some.inj h4
        right; rw [this]; simp
theorem wpList_way {ops : Array Oper} {rest : List Oper} {op : Oper} {a : Act} {w : World} {Q : Exit → Act → World → Prop} (hgd : op.guard = none) (x : Operand) (ho : op.op = .load 150 x)
    (b o : Nat) (hx : a.eval x = .pointer (some ⟨b, o, none⟩)) (p : Int) (y : Way) (hc : w.rangeAt b o (wayCs p y).toList)
    (h : wpList Tryz.prog ops Q rest (a.put op.dst (.agg (wayCs p y))) w) : wpList Tryz.prog ops Q (op :: rest) a w :=
  wpList_load_mid hgd 150 x ho b o hx (wayCs p y).toList _ hc Tryz.underlying150 rfl (by rw [Array.length_toList]; exact infoW_of p y) (by simpa using h)
theorem look_two (y : Way) (c : Int) (d s : Nat) (r : Bool) (o n : Int) : (y.look c d s r o n).1.length ≤ 2 := by
  unfold Way.look Way.ask Way.askNumbers Way.askPlace
  repeat' split
  all_goals simp
theorem led_pos (pc : Nat) (ls : List (Int × Way)) (h : ∀ z, z ∈ ls → 0 ≤ z.1) : (ls.map fun x => ((pc : Int) + (1 + x.1), x.2)) = posL (ls.map fun z => (pc + 1 + z.1.toNat, z.2)) := by
  unfold posL
  rw [List.map_map]
  refine List.map_congr_left fun z hz => ?_
  have := h z hz
  simp only [Function.comp_apply, Prod.mk.injEq, and_true]
  omega
structure LaySt (w : World) (st0 l2 : List (Int × Way)) (V10 E : Value) (es : List Kno) (j : Nat) (V : Value) (wr : World) : Prop where
  jl : j ≤ l2.length
  below : Below w.heap.size w wr
  ways : WaysAt wr w.heap.size V (st0 ++ (l2.drop j).reverse)
  led : WaysAt wr w.heap.size V10 l2
  ends : EndsAt wr w.heap.size E es
  sepE : ∀ k, V.ownBlock = some k → E.ownBlock ≠ some k
  sepL : ∀ k, V.ownBlock = some k → V10.ownBlock ≠ some k
  few : st0.length + l2.length ≤ 100000
theorem LaySt.part {w : World} {st0 l2 : List (Int × Way)} {V10 E : Value} {es : List Kno} {j : Nat} {V : Value} {wr : World} (h : LaySt w st0 l2 V10 E es (j + 1) V wr) :
    ∃ x, l2.drop j = x :: l2.drop (j + 1) ∧ l2 = l2.take j ++ x :: l2.drop (j + 1) ∧ (l2.take j).length = j := by
  have hj : j < l2.length := h.jl
  refine ⟨l2[j], List.drop_eq_getElem_cons hj, ?_, by rw [List.length_take]; omega⟩
  rw [← List.drop_eq_getElem_cons hj, List.take_append_drop]
theorem LaySt.small {w : World} {st0 l2 : List (Int × Way)} {V10 E : Value} {es : List Kno} {j : Nat} {V : Value} {wr : World} (h : LaySt w st0 l2 V10 E es j V wr) : (st0 ++ (l2.drop j).reverse).length ≤ 1000000 := by
  have := h.few
  rw [List.length_append, List.length_reverse, List.length_drop]
  omega
theorem LaySt.lay {w : World} {st0 l2 : List (Int × Way)} {V10 E : Value} {es : List Kno} {j : Nat} {V V' : Value} {wr wr3 : World} {x : Int × Way} (h : LaySt w st0 l2 V10 E es (j + 1) V wr) (hx : l2.drop j = x :: l2.drop (j + 1))
    (hA : WaysAt wr3 w.heap.size V' ((st0 ++ (l2.drop (j + 1)).reverse) ++ [x])) (hg : wr.grownBy wr3 V.ownBlock) (hs : ∀ k, V'.ownBlock = some k → V.ownBlock = some k ∨ wr.heap.size ≤ k) : LaySt w st0 l2 V10 E es j V' wr3 where
  jl := Nat.le_of_succ_le h.jl
  below := ((Blk.nil h.below).grown hg (b := w.heap.size) (fun k e => (h.ways.above k e).1) (Nat.le_refl _) (by simp)).1
  ways := by rw [hx, List.reverse_cons, ← List.append_assoc]; exact hA
  led := h.led.grown hg h.sepL
  ends := h.ends.grown hg h.sepE
  sepE := fun k e => by
    rcases hs k e with e | e
    · exact h.sepE k e
    · intro e2; have := (h.ends.above k e2).2; omega
  sepL := fun k e => by
    rcases hs k e with e | e
    · exact h.sepL k e
    · intro e2; have := (h.led.above k e2).2; omega
  few := h.few
theorem posL_app (a b : List (Nat × Way)) : posL ((a ++ b).reverse) = posL b.reverse ++ (posL a).reverse := by
  unfold posL
  rw [List.reverse_append, List.map_append, List.map_reverse (l := a)]
structure GoSt (w : World) (len : Nat) (C D S : Nat → Int) (R : Nat → Bool) (O N : Nat → Int) (X : (Int × Nat) ⊕ List Kno) (k : Nat) (st : List (Nat × Way)) (es : List Kno) (V E : Value) (wr : World) : Prop where
  k4 : k ≤ 4000
  below : Below w.heap.size w wr
  ways : WaysAt wr w.heap.size V (posL st.reverse)
  ends : EndsAt wr w.heap.size E es
  sep : ∀ k, V.ownBlock = some k → E.ownBlock ≠ some k
  okst : ∀ x, x ∈ st → x.1 < len ∧ x.2.Ok
  stl : st.length ≤ k + 1
  esl : es.length ≤ k
  go : goF C D S R O N (4000 - k) st es = X
def GoneAll (w : World) (X : (Int × Nat) ⊕ List Kno) (e : Ending) (w' : World) : Prop := Below w.heap.size w w' ∧
  match X with
  | .inl (er, i) => ∃ p, e = .returned (.tuple #[.slice none 0 0, .iface 74 (.pointer (some ⟨p, 0, none⟩))]) ∧ w.heap.size ≤ p ∧ p < w'.heap.size ∧ w'.cell? ⟨p, 0, none⟩ = some (vI vK er) ∧ w'.cell? ⟨p, 1, none⟩ = some (vI vK (i : Int))
  | .inr es => ∃ E, e = .returned (.tuple #[E, .nilIface]) ∧ EndsAt w' w.heap.size E es ∧ es.length ≤ 4000
end Go.Proofs.YtednmkhdehlojaaGreatDoor
namespace Go.Proofs.YtednmkhdehlojaaGreatDoor
open Go.ChangeShapes Go.WideShapes Go.ChangeAt Go.RowKit
attribute [local simp] drew_size drewN_size setCell_size
theorem goAll_any (bk off len cap : Nat) (C D S O N : Nat → Int) (R : Nat → Bool) (w : World) (h1 : 1 ≤ len) (h2 : len ≤ 200) (hbk : bk < w.heap.size) (hst : StepsAt w bk off len C D S R O N) (hr : ∀ i, i < len → Right (C i) (D i) (S i) (R i) (O i) (N i) len i) (hf : ∀ i, i < len → In64 (O i) ∧ In64 (N i)) :
    Calls Tryz.prog 35 #[.slice (some ⟨bk, off, none⟩) len cap] w fun e w' => GoneAll w (goF C D S R O N 4000 [(0, way0)] []) e w' := by
  obtain ⟨X, hX⟩ : ∃ X, goF C D S R O N 4000 [(0, way0)] [] = X := ⟨_, rfl⟩
  rw [hX]
  have HX : Hid (goF C D S R O N 4000 [(0, way0)] [] = X) := hX
  have HST : Hid (StepsAt w bk off len C D S R O N) := hst
  have HR : Hid (∀ i, i < len → Right (C i) (D i) (S i) (R i) (O i) (N i) len i) := hr
  have HF : Hid (∀ i, i < len → In64 (O i) ∧ In64 (N i)) := hf
  clear hX hst hr hf
  go_enter Tryz.func35, Tryz.ntmps35
  go_upto_region 2 with fail
  go_step
  (refine wpList_callOf rfl 65 #[] (by go_simp; try rfl) (.agg (wayCs 0 way0)) (vbegin_any w) ?_)
  intro w1 hb1
  simp only [Act.put, siA, scZ, scS]
  refine wpList_ways1 rfl (.tmp 13) 0 way0 rfl rfl ?_
  simp only [Act.put, siA, scZ, scS]
  have hA1 := WaysAt.made w1 w.heap.size [(0, way0)] hb1.size (by unfold maxLen; simp)
  have hB1 := hb1.alloc hb1.size (.cells (waysCells [(0, way0)]).toArray 150)
  have HG : Hid (GoSt w len C D S R O N X 0 [(0, way0)] [] (.slice (some ⟨w1.heap.size, 0, none⟩) 1 1) (.slice none 0 0) (w1.alloc (.cells (waysCells [(0, way0)]).toArray 150))) :=
    ⟨by omega, hB1, hA1, EndsAt.nil _ _, fun k _ e => absurd e (by simp [Value.ownBlock]), fun x hx => by rw [List.mem_singleton.mp hx]; exact ⟨h1, way0_ok⟩, by simp, by simp, HX.out⟩
  clear hA1 hB1 hb1
  generalize (w1.alloc (.cells (waysCells [(0, way0)]).toArray 150)) = w2 at HG ⊢
  generalize w1.heap.size = g1 at HG ⊢
  go_wp2_with fail
  go_loopw [4, 5, 6] (fun ve vw vl wr => ∃ (k : Nat) (st : List (Nat × Way)) (es : List Kno), vl = vI vK ((k : Int) + 1) ∧ Hid (GoSt w len C D S R O N X k st es vw ve wr)) (fun _ _ vl _ => 4001 - (intOf vl).toNat)
  case atStart => exact ⟨0, [(0, way0)], [], rfl, HG.out⟩
  case round =>
    obtain ⟨k, st, es, rfl, H⟩ := hrel
    clear HG
    cases st with
    | nil =>
      obtain ⟨a, cp, hv⟩ := H.out.ways.shape
      rw [posL_len] at hv
      subst hv
      go_wp2_with fail
      exact bodyPost_ret (v := .tuple #[u4, .nilIface]) (by simp [results, Tryz.results35, go_sem]) rfl ⟨H.out.below, (by rw [← H.out.go, goF_nil]; exact ⟨_, rfl, H.out.ends, Nat.le_trans H.out.esl H.out.k4⟩)⟩
    | cons x st =>
      obtain ⟨pc, y⟩ := x
      have hw0 := H.out.ways
      rw [posL_rev] at hw0
      obtain ⟨g, cp, hv, hcp, hcm, hg0, hg1⟩ := hw0.more
      subst hv
      have hpop := hw0.pop
      have hel := hw0.elem (l2 := [])
      have hml := posL_len st
      have hml2 := H.out.stl
      have hk4 := H.out.k4
      rw [List.length_cons] at hml2
      generalize hm : (posL st.reverse).length = m at *
      have HP : Hid (WaysAt wr w.heap.size (.slice (some ⟨g, 0, none⟩) m cp) (posL st.reverse)) := hpop
      have HE : Hid (wr.rangeAt g (m * 82) (wayCs (pc : Int) y).toList) := hel
      have HM : Hid ((posL st.reverse).length = m) := hm
      have hm1 : (m : Int) ≤ 4000 := by omega
      have hm0 : (0 : Int) ≤ (m : Int) := by omega
      have hm2 : (m : Int) < ((m + 1 : Nat) : Int) := by omega
      have hcm' : cp ≤ 9223372036854775807 := hcm
      clear hpop hel hm hw0 hml hcm
      go_upto_region 7 with fail
      go_step
      (refine wpList_valueOf rfl (.slice (some ⟨g, 0, none⟩) (m + 1) cp) wr (by go_simp; try rfl) ?_); simp only [Act.put, siA, scZ, scS]
      (refine wpList_valueOf rfl (vI vK (m : Int)) wr (by go_simp; try rfl) ?_); simp only [Act.put, siA, scZ, scS]
      refine wpList_valueOf rfl (.pointer (some ⟨g, m * 82, none⟩)) wr (by go_simp; intro h; omega) ?_
      simp only [Act.put, siA, scZ, scS]
      refine wpList_way rfl (.tmp 25) rfl g (m * 82) rfl (pc : Int) y HE.out ?_
      simp only [Act.put, siA, scZ, scS]
      refine wpList_valueOf rfl (.pointer (some ⟨wr.heap.size, 0, none⟩)) (wr.alloc (.cells Tryz.zeroCells150 150 (0, 0))) (by go_simp; try rfl) ?_
      simp only [Act.put, siA, scZ, scS]
      (refine wpList_store_row rfl 150 (.tmp 8) (.tmp 26) rfl wr.heap.size (wayCs (pc : Int) y) rfl rfl 150 _ (heap_alloc_new _ _) (infoW_of _ _) (by first | rw [zeroW_size, wayCs_size] | rw [wayCs_size, wayCs_size]) (wayCs_one _ _) ?_)
      simp only [Act.put]
      have hq7 : Below wr.heap.size wr ((wr.alloc (.cells Tryz.zeroCells150 150 (0, 0))).setRow wr.heap.size (wayCs (pc : Int) y)) := below_setRow ((bF _ _).alloc (Nat.le_refl _) _) (Nat.le_refl _) _
      have hW7 : WayAt ((wr.alloc (.cells Tryz.zeroCells150 150 (0, 0))).setRow wr.heap.size (wayCs (pc : Int) y)) wr.heap.size (pc : Int) y := WayAt.setRow (heap_alloc_new _ _) _ _
      have hb7 := H.out.below.trans (hq7.mono H.out.below.size)
      have HP7 : Hid (WaysAt _ w.heap.size (.slice (some ⟨g, 0, none⟩) m cp) (posL st.reverse)) := HP.out.later hq7
      have HE7 : Hid (EndsAt _ w.heap.size u4 es) := H.out.ends.later hq7
      have HSep : Hid (∀ k, (Value.slice (some ⟨g, 0, none⟩) (m + 1) cp).ownBlock = some k → u4.ownBlock ≠ some k) := H.out.sep
      have HEB : Hid (∀ k, u4.ownBlock = some k → k < wr.heap.size) := fun k e => (H.out.ends.above k e).2
      have hB0 : w.heap.size ≤ wr.heap.size := H.out.below.size
      clear hq7
      generalize ((wr.alloc (.cells Tryz.zeroCells150 150 (0, 0))).setRow wr.heap.size (wayCs (pc : Int) y)) = w7 at hW7 hb7 HP7 HE7 ⊢
      generalize wr.heap.size = B at hg1 hW7 HEB hB0 ⊢
      have hst0 := hW7.step
      have hlt0 := hW7.lt
      have hpc := (H.out.okst _ mcS).1
      have hoky := (H.out.okst _ mcS).2
      dsimp only at hpc hoky
      have hmc : (m : Int) ≤ (cp : Int) := by omega
      have hpc0 : (0 : Int) ≤ (pc : Int) := by omega
      have hpc1 : (pc : Int) < len := by omega
      by_cases hkk : k = 4000
      · subst hkk
        go_wp2_with fail
        clear hW7
        go_region
        go_wp2_with fail
        exact bodyPost_ret (v := .tuple #[.slice none 0 0, .iface 74 (.pointer (some ⟨w7.heap.size, 0, none⟩))]) (by simp [results, Tryz.results35, go_sem]) rfl ⟨(hb7.alloc hb7.size _).drew, (by rw [← H.out.go]; exact ⟨w7.heap.size, rfl, hb7.size, (at_made _ _ _ _).2.2, (at_made _ _ _ _).1, (at_made _ _ _ _).2.1⟩)⟩
      · have hb7' := hb7
        have hR := HR.out pc hpc
        obtain ⟨hO64, hN64⟩ := HF.out pc hpc
        obtain ⟨g0, g1c, g2, g3, g4, g5⟩ := HST.out.later hb7 hbk pc hpc
        obtain ⟨d, hd⟩ := Int.eq_ofNat_of_zero_le hR.d1
        obtain ⟨s, hs⟩ := Int.eq_ofNat_of_zero_le hR.s1
        have hd11 : d < 11 := by have := hR.d2; omega
        have hs11 : s < 11 := by have := hR.s2; omega
        have HGo : Hid (goF C D S R O N (4000 - k) ((pc, y) :: st) es = X) := H.out.go
        have hbk7 : bk < w7.heap.size := Nat.lt_of_lt_of_le hbk hb7.size
        have hkx : decide (4000 < (k : Int) + 1) = false := by simp; omega
        have hk0 : (0 : Int) ≤ (k : Int) := by omega
        have hk1 : (k : Int) ≤ 4000 := by omega
        rw [hd] at g1c
        rw [hs] at g2
        have H27 : Hid (C pc = 27 → N pc = 1 ∨ N pc = 2 ∨ N pc = 3) := hR.call
        have HJ : Hid (14 ≤ C pc → C pc ≤ 24 → 0 ≤ O pc ∧ O pc ≤ 1000) := fun a b => by have := hR.lead (by omega); omega
        have hgs := HGo.out
        rw [show 4000 - k = (3999 - k) + 1 by omega, goF_step _ pc y st es d s hd hs] at hgs
        have hl2 := look_two y (C pc) d s (R pc) (O pc) (N pc)
        have hlo := look_ok hoky hR.c1 hR.c2 hd11 hs11 hO64 hN64 (r := R pc)
        have hlf := look_offs (y := y) (c := C pc) (d := d) (s := s) (r := R pc) (o := O pc) (n := N pc)
        have hlz : ∀ z, z ∈ (y.look (C pc) d s (R pc) (O pc) (N pc)).1 → 0 ≤ z.1 ∧ pc + 1 + z.1.toNat < len := fun z hz => by
          obtain ⟨u1, u2⟩ := hlf z hz
          have hl := hR.last u1
          rcases u2 with u2 | ⟨u2, u3⟩
          · omega
          · have := hR.lead u3; omega
        have hl28 : C pc = 28 → (y.look (C pc) d s (R pc) (O pc) (N pc)).1 = [] := fun e => List.eq_nil_iff_forall_not_mem.mpr fun z hz => (hlf z hz).1 e
        have hlk := fun W : World => vlook_all (r := R pc) hd11 hs11 hpc0 (by omega) hO64 HJ.out H27.out hoky hN64 W
        generalize y.look (C pc) d s (R pc) (O pc) (N pc) = lk at hgs hl2 hlo hlz hl28 hlk
        obtain ⟨ls, er⟩ := lk
        dsimp only at hgs hl2 hlo hlz hl28 hlk
        rw [led_pos pc ls fun z hz => (hlz z hz).1] at hlk
        have HLK : Hid (∀ W : World, Calls Tryz.prog 66 #[.agg (wayCs (pc : Int) y), .agg #[vI vK (C pc), vI vK d, vI vK s, .bool (R pc), vI vK (O pc), vI vK (N pc)]] W fun e w' => ∃ v, e = .returned (.tuple #[v, vI vK er]) ∧ WaysAt w' W.heap.size v (posL (ls.map fun z => (pc + 1 + z.1.toNat, z.2))) ∧ Below W.heap.size W w') := hlk
        have HGS : Hid ((if er ≠ 0 then .inl (er, pc) else goF C D S R O N (3999 - k) ((ls.map fun z => (pc + 1 + z.1.toNat, z.2)) ++ st) (if C pc = 28 then es ++ [y.reg 0] else es)) = X) := hgs
        have HL2 : Hid (ls.length ≤ 2) := hl2
        have HLO : Hid (∀ x, x ∈ (ls.map fun z => (pc + 1 + z.1.toNat, z.2)) ++ st → x.1 < len ∧ x.2.Ok) := fun x hx => by
          rcases List.mem_append.mp hx with hx | hx
          · obtain ⟨z, hz, rfl⟩ := List.mem_map.mp hx
            exact ⟨(hlz z hz).2, hlo z hz⟩
          · exact H.out.okst x (mcO _ hx)
        have HL28 : Hid (C pc = 28 → ls = []) := hl28
        have HW7 : Hid (WayAt w7 B (pc : Int) y) := hW7
        clear hW7 hgs hl2 hlo hlf hlz hl28 hlk HJ H27 hR hd hs HGo hO64 hN64
        generalize C pc = c at *
        generalize R pc = r at *
        generalize O pc = o at *
        generalize N pc = n at *
        go_upto_region 12 with fail
        have hq8 : Below w7.heap.size w7 (w7.alloc (.cells #[vI vK c, vI vK d, vI vK s, .bool r, vI vK o, vI vK n] 49)) := (bF _ _).alloc (Nat.le_refl _) _
        have hW8 := HW7.out.later hq8
        have hb8 := hb7.trans (hq8.mono hb7.size)
        have HP8 : Hid (WaysAt _ w.heap.size (.slice (some ⟨g, 0, none⟩) m cp) (posL st.reverse)) := HP7.out.later hq8
        have HE8 : Hid (EndsAt _ w.heap.size u4 es) := HE7.out.later hq8
        obtain ⟨p0, p1, p2, p3, p4, p5, ltS⟩ := row6 (heap_alloc_new w7 (.cells #[vI vK c, vI vK d, vI vK s, .bool r, vI vK o, vI vK n] 49))
        have hBS : B < w7.heap.size := hlt0
        clear hq8 g0 g1c g2 g3 g4 g5 hst0 hlt0 hb7 hb7' HP7 HE7 HW7 hbk7
        generalize (w7.alloc (.cells #[vI vK c, vI vK d, vI vK s, .bool r, vI vK o, vI vK n] 49)) = w8 at hW8 hb8 HP8 HE8 p0 p1 p2 p3 p4 p5 ltS ⊢
        generalize w7.heap.size = S0 at hBS p0 p1 p2 p3 p4 p5 ltS ⊢
        go_step
        (refine wpList_load_row rfl 150 (.tmp 8) rfl B rfl 150 (wayCs (pc : Int) y) (0, 0) _ hW8 Tryz.underlying150 rfl (infoW_of _ _) ?_)
        simp only [Act.put, siA, scZ, scS]
        (refine wpList_valueOf rfl (.agg #[vI vK c, vI vK d, vI vK s, .bool r, vI vK o, vI vK n]) w8 (by go_simp; try rfl) ?_); simp only [Act.put, siA, scZ, scS]
        refine wpList_callEx rfl 66 #[.agg (wayCs (pc : Int) y), .agg #[vI vK c, vI vK d, vI vK s, .bool r, vI vK o, vI vK n]] (by go_simp; try rfl) (R := fun x w' => ∃ v, x = .tuple #[v, vI vK er] ∧ WaysAt w' w8.heap.size v (posL (ls.map fun z => (pc + 1 + z.1.toNat, z.2))) ∧ Below w8.heap.size w8 w') ((HLK.out w8).mono fun e w' h => by obtain ⟨v, h1, h2⟩ := h; exact ⟨_, h1, v, rfl, h2⟩) ?_
        intro v9 w9 hq
        obtain ⟨v10, rfl, hA9, hq9⟩ := hq
        simp only [Act.put, siA, scZ, scS]
        have hb9 := hb8.trans (hq9.mono hb8.size)
        have HP9 : Hid (WaysAt w9 w.heap.size (.slice (some ⟨g, 0, none⟩) m cp) (posL st.reverse)) := HP8.out.later hq9
        have HE9 : Hid (EndsAt w9 w.heap.size u4 es) := HE8.out.later hq9
        have hW9 := hW8.later hq9
        have HA9 : Hid (WaysAt w9 w.heap.size v10 (posL (ls.map fun z => (pc + 1 + z.1.toNat, z.2)))) := hA9.mono hb8.size
        have HAB : Hid (∀ k, v10.ownBlock = some k → w8.heap.size ≤ k) := fun k e => (hA9.above k e).1
        have P0 := (hq9.cell (p := ⟨S0, 0, none⟩) ltS).trans p0
        have ltS9 := Nat.lt_of_lt_of_le ltS hq9.size
        clear p0 p1 p2 p3 p4 p5 hA9 hW8 hb8 HP8 HE8 HLK
        obtain ⟨i0, i1, i2⟩ := hW9.reg (d := 0) (by decide)
        have hst9 := hW9.step
        have hlt9 := hW9.lt
        simp only [Nat.zero_mul, Nat.add_zero, Nat.reduceAdd] at i0 i1 i2
        have HW9 : Hid (WayAt w9 B (pc : Int) y) := hW9
        clear hW9
        by_cases he : er = 0
        · subst he
          obtain ⟨a10, c10, hv10⟩ := HA9.out.shape
          subst hv10
          have hql : (posL (ls.map fun z => (pc + 1 + z.1.toNat, z.2))).length = ls.length := by unfold posL; rw [List.length_map, List.length_map]
          have hq2 := HL2.out
          rw [← hql] at hq2
          clear hql
          generalize hq : (posL (ls.map fun z => (pc + 1 + z.1.toNat, z.2))).length = q at *
          have HQ : Hid ((posL (ls.map fun z => (pc + 1 + z.1.toNat, z.2))).length = q) := hq
          have hq0 : (0 : Int) ≤ (q : Int) := by omega
          have hq1 : (q : Int) ≤ 2 := by omega
          have HGS2 : Hid (goF C D S R O N (3999 - k) ((ls.map fun z => (pc + 1 + z.1.toNat, z.2)) ++ st) (if c = 28 then es ++ [y.reg 0] else es) = X) := HGS.out
          have hgB : g < w8.heap.size := by omega
          clear hq HGS
          by_cases h28 : c = 28
          · have x28 : (c == 28) = true := by simpa using h28
            have HGS3 : Hid (goF C D S R O N (3999 - k) ((ls.map fun z => (pc + 1 + z.1.toNat, z.2)) ++ st) (es ++ [y.reg 0]) = X) := by have := HGS2.out; rw [if_pos h28] at this; exact this
            have HESL : Hid (es.length ≤ k) := H.out.esl
            have hesl := H.out.esl
            clear HGS2
            go_upto_region 16 with fail
            go_step
            (refine wpList_valueOf rfl u4 w9 (by go_simp; try rfl) ?_); simp only [Act.put, siA, scZ, scS]
            (refine wpList_valueOf rfl (.pointer (some ⟨B, 1, none⟩)) w9 (by go_simp; try rfl) ?_); simp only [Act.put, siA, scZ, scS]
            (refine wpList_valueOf rfl (.pointer (some ⟨B, 1, none⟩)) w9 (by go_simp; try rfl) ?_); simp only [Act.put, siA, scZ, scS]
            (refine wpList_valueOf rfl (.pointer (some ⟨B, 2, none⟩)) w9 (by go_simp; try rfl) ?_); simp only [Act.put, siA, scZ, scS]
            (refine wpList_valueOf rfl (.agg #[vI vK (y.reg 0).l, vI vK (y.reg 0).h]) w9 (by go_simp; try rfl) ?_); simp only [Act.put, siA, scZ, scS]
            refine wpList_valueOf rfl (.slice (some ⟨w9.heap.size, 0, none⟩) 1 1) (w9.alloc (.cells #[vI vK (y.reg 0).l, vI vK (y.reg 0).h] 43)) (by go_simp; try rfl) ?_
            simp only [Act.put, siA, scZ, scS]
            refine wpList_end rfl (.tmp 59) (.tmp 64) rfl w.heap.size u4 es rfl HE9.out (y.reg 0) rfl (by omega) hb9.size ?_
            intro E2 w10 hE2 hg10 hs10
            simp only [Act.put, siA, scZ, scS]
            have hb10 := ((Blk.nil hb9).grown hg10 (b := w.heap.size) (fun k e => (HE9.out.above k e).1) (Nat.le_refl _) (by simp)).1
            have HP10 := HP9.out.grown hg10 (fun k e e2 => HSep.out k e2 e)
            have HA10 := HA9.out.grown hg10 (fun k e e2 => by have h3 := HAB.out k e2; have h4 := HEB.out k e; omega)
            have HLay : Hid (LaySt w (posL st.reverse) (posL (ls.map fun z => (pc + 1 + z.1.toNat, z.2))) (.slice a10 q c10) E2 (es ++ [y.reg 0]) q (.slice (some ⟨g, 0, none⟩) m cp) w10) := ⟨Nat.le_of_eq HQ.out.symm, hb10, by rw [List.drop_eq_nil_of_le (Nat.le_of_eq HQ.out), List.reverse_nil, List.append_nil]; exact HP10, HA10, hE2, fun k e e2 => (hs10 k e2).elim (fun e3 => HSep.out k e e3) (fun e3 => by have h4 : g = k := Option.some.inj e; have := hq9.size; omega), fun k e e2 => by have h3 := HAB.out k e2; have h4 : g = k := Option.some.inj e; omega, by rw [HQ.out, HM.out]; omega⟩
            clear hE2 hg10 hs10 HP10 HA10 hb10
            go_wp2_with fail
            go_loopw [5, 12] (fun vw vi wr2 => ∃ j : Nat, vi = vI vK ((j : Int) - 1) ∧ Hid (LaySt w (posL st.reverse) (posL (ls.map fun z => (pc + 1 + z.1.toNat, z.2))) (.slice a10 q c10) E2 (es ++ [y.reg 0]) j vw wr2)) (fun _ vi _ => (intOf vi + 1).toNat)
            case atStart => exact ⟨q, by go_num, HLay.out⟩
            case round =>
              obtain ⟨j, rfl, HI⟩ := hrel
              clear HLay
              cases j with
              | zero =>
                go_wp2_with fail
                go_roundw
                case rel =>
                  refine ⟨k + 1, (ls.map fun z => (pc + 1 + z.1.toNat, z.2)) ++ st, (es ++ [y.reg 0]), by go_num, by omega, HI.out.below, ?_, HI.out.ends, HI.out.sepE, HLO.out, ?_, ?_, ?_⟩
                  · rw [posL_app]; exact HI.out.ways
                  · have := HL2.out; rw [List.length_append, List.length_map]; omega
                  · have := HESL.out; rw [List.length_append]; simp; omega
                  · rw [show 4000 - (k + 1) = 3999 - k by omega]; exact HGS3.out
                case measure => first | (simp [intOf]; done) | (simp [intOf]; omega)
              | succ j =>
                have hj1 : j + 1 ≤ q := by have := HI.out.jl; rw [HQ.out] at this; exact this
                obtain ⟨x, hx1, hx2, hx3⟩ := HI.out.part
                obtain ⟨px, yx⟩ := x
                obtain ⟨gv, ha10, -, -, hgv⟩ := HI.out.led.some_of (by have := HQ.out; omega)
                subst ha10
                have hld := HI.out.led
                have hel : wr.rangeAt gv (j * 82) (wayCs px yx).toList := by rw [hx2] at hld; have := hld.elem; rw [hx3] at this; exact this
                have HEL : Hid (wr.rangeAt gv (j * 82) (wayCs px yx).toList) := hel
                have HX1 : Hid ((posL (ls.map fun z => (pc + 1 + z.1.toNat, z.2))).drop j = (px, yx) :: (posL (ls.map fun z => (pc + 1 + z.1.toNat, z.2))).drop (j + 1)) := hx1
                have e1 : ((j + 1 : Nat) : Int) - 1 = (j : Int) := by omega
                rw [e1]
                have hj0 : (0 : Int) ≤ (j : Int) := by omega
                have hj2 : (j : Int) < (q : Int) := by omega
                have hwv := HI.out.ways.shape
                obtain ⟨av, cv, hv⟩ := hwv
                have HF5 : Hid (((posL st.reverse) ++ ((posL (ls.map fun z => (pc + 1 + z.1.toNat, z.2))).drop (j + 1)).reverse).length ≤ 1000000) := HI.out.small
                have hb5 := HI.out.below.size
                clear hel hld hx1 hx2 hx3 hv e1
                go_upto_region 20 with fail
                go_step
                (refine wpList_valueOf rfl u5 wr (by go_simp; try rfl) ?_); simp only [Act.put, siA, scZ, scS]
                (refine wpList_valueOf rfl (.slice (some ⟨gv, 0, none⟩) q c10) wr (by go_simp; try rfl) ?_); simp only [Act.put, siA, scZ, scS]
                (refine wpList_valueOf rfl (vI vK (j : Int)) wr (by go_simp; try rfl) ?_); simp only [Act.put, siA, scZ, scS]
                refine wpList_valueOf rfl (.pointer (some ⟨gv, j * 82, none⟩)) wr (by go_simp; try (intro h; omega)) ?_
                simp only [Act.put, siA, scZ, scS]
                refine wpList_way rfl (.tmp 76) rfl gv (j * 82) rfl px yx HEL.out ?_
                simp only [Act.put, siA, scZ, scS]
                refine wpList_ways1 rfl (.tmp 77) px yx rfl rfl ?_
                simp only [Act.put, siA, scZ, scS]
                refine wpList_snoc2 rfl (.tmp 73) (.tmp 78) rfl w.heap.size u5 _ rfl HI.out.ways px yx rfl HF5.out hb5 ?_
                intro V3 w13 hA3 hg3 hs3
                have HL3 : Hid (LaySt w (posL st.reverse) (posL (ls.map fun z => (pc + 1 + z.1.toNat, z.2))) (.slice (some ⟨gv, 0, none⟩) q c10) E2 (es ++ [y.reg 0]) j V3 w13) := HI.out.lay HX1.out hA3 hg3 hs3
                clear hA3 hg3 hs3
                simp only [Act.put, siA, scZ, scS]
                go_wp2_with fail
                go_roundw
                case rel => exact ⟨j, by go_num, HL3.out⟩
                case measure => first | (simp [intOf]; done) | (simp [intOf]; omega)
          · have x28 : (c == 28) = false := by simpa using h28
            have HGS3 : Hid (goF C D S R O N (3999 - k) ((ls.map fun z => (pc + 1 + z.1.toNat, z.2)) ++ st) es = X) := by have := HGS2.out; rw [if_neg h28] at this; exact this
            have HESL : Hid (es.length ≤ k) := H.out.esl
            have HLay : Hid (LaySt w (posL st.reverse) (posL (ls.map fun z => (pc + 1 + z.1.toNat, z.2))) (.slice a10 q c10) u4 es q (.slice (some ⟨g, 0, none⟩) m cp) w9) := ⟨Nat.le_of_eq HQ.out.symm, hb9, by rw [List.drop_eq_nil_of_le (Nat.le_of_eq HQ.out), List.reverse_nil, List.append_nil]; exact HP9.out, HA9.out, HE9.out, HSep.out, fun k e e2 => by have h3 := HAB.out k e2; have h4 : g = k := Option.some.inj e; omega, by rw [HQ.out, HM.out]; omega⟩
            clear HGS2
            go_wp2_with fail
            go_loopw [5, 12] (fun vw vi wr2 => ∃ j : Nat, vi = vI vK ((j : Int) - 1) ∧ Hid (LaySt w (posL st.reverse) (posL (ls.map fun z => (pc + 1 + z.1.toNat, z.2))) (.slice a10 q c10) u4 es j vw wr2)) (fun _ vi _ => (intOf vi + 1).toNat)
            case atStart => exact ⟨q, by go_num, HLay.out⟩
            case round =>
              obtain ⟨j, rfl, HI⟩ := hrel
              clear HLay
              cases j with
              | zero =>
                go_wp2_with fail
                go_roundw
                case rel =>
                  refine ⟨k + 1, (ls.map fun z => (pc + 1 + z.1.toNat, z.2)) ++ st, es, by go_num, by omega, HI.out.below, ?_, HI.out.ends, HI.out.sepE, HLO.out, ?_, ?_, ?_⟩
                  · rw [posL_app]; exact HI.out.ways
                  · have := HL2.out; rw [List.length_append, List.length_map]; omega
                  · have := HESL.out; omega
                  · rw [show 4000 - (k + 1) = 3999 - k by omega]; exact HGS3.out
                case measure => first | (simp [intOf]; done) | (simp [intOf]; omega)
              | succ j =>
                have hj1 : j + 1 ≤ q := by have := HI.out.jl; rw [HQ.out] at this; exact this
                obtain ⟨x, hx1, hx2, hx3⟩ := HI.out.part
                obtain ⟨px, yx⟩ := x
                obtain ⟨gv, ha10, -, -, hgv⟩ := HI.out.led.some_of (by have := HQ.out; omega)
                subst ha10
                have hld := HI.out.led
                have hel : wr.rangeAt gv (j * 82) (wayCs px yx).toList := by rw [hx2] at hld; have := hld.elem; rw [hx3] at this; exact this
                have HEL : Hid (wr.rangeAt gv (j * 82) (wayCs px yx).toList) := hel
                have HX1 : Hid ((posL (ls.map fun z => (pc + 1 + z.1.toNat, z.2))).drop j = (px, yx) :: (posL (ls.map fun z => (pc + 1 + z.1.toNat, z.2))).drop (j + 1)) := hx1
                have e1 : ((j + 1 : Nat) : Int) - 1 = (j : Int) := by omega
                rw [e1]
                have hj0 : (0 : Int) ≤ (j : Int) := by omega
                have hj2 : (j : Int) < (q : Int) := by omega
                have hwv := HI.out.ways.shape
                obtain ⟨av, cv, hv⟩ := hwv
                have HF5 : Hid (((posL st.reverse) ++ ((posL (ls.map fun z => (pc + 1 + z.1.toNat, z.2))).drop (j + 1)).reverse).length ≤ 1000000) := HI.out.small
                have hb5 := HI.out.below.size
                clear hel hld hx1 hx2 hx3 hv e1
                go_upto_region 20 with fail
                go_step
                (refine wpList_valueOf rfl u5 wr (by go_simp; try rfl) ?_); simp only [Act.put, siA, scZ, scS]
                (refine wpList_valueOf rfl (.slice (some ⟨gv, 0, none⟩) q c10) wr (by go_simp; try rfl) ?_); simp only [Act.put, siA, scZ, scS]
                (refine wpList_valueOf rfl (vI vK (j : Int)) wr (by go_simp; try rfl) ?_); simp only [Act.put, siA, scZ, scS]
                refine wpList_valueOf rfl (.pointer (some ⟨gv, j * 82, none⟩)) wr (by go_simp; try (intro h; omega)) ?_
                simp only [Act.put, siA, scZ, scS]
                refine wpList_way rfl (.tmp 76) rfl gv (j * 82) rfl px yx HEL.out ?_
                simp only [Act.put, siA, scZ, scS]
                refine wpList_ways1 rfl (.tmp 77) px yx rfl rfl ?_
                simp only [Act.put, siA, scZ, scS]
                refine wpList_snoc2 rfl (.tmp 73) (.tmp 78) rfl w.heap.size u5 _ rfl HI.out.ways px yx rfl HF5.out hb5 ?_
                intro V3 w13 hA3 hg3 hs3
                have HL3 : Hid (LaySt w (posL st.reverse) (posL (ls.map fun z => (pc + 1 + z.1.toNat, z.2))) (.slice (some ⟨gv, 0, none⟩) q c10) u4 es j V3 w13) := HI.out.lay HX1.out hA3 hg3 hs3
                clear hA3 hg3 hs3
                simp only [Act.put, siA, scZ, scS]
                go_wp2_with fail
                go_roundw
                case rel => exact ⟨j, by go_num, HL3.out⟩
                case measure => first | (simp [intOf]; done) | (simp [intOf]; omega)
        · have he2 : (er != 0) = true := by simpa using he
          go_upto_region 14 with fail
          go_region
          go_wp2_with fail
          exact bodyPost_ret (v := .tuple #[.slice none 0 0, .iface 74 (.pointer (some ⟨w9.heap.size, 0, none⟩))]) (by simp [results, Tryz.results35, go_sem]) rfl ⟨(hb9.alloc hb9.size _).drew, (by rw [← HGS.out, if_pos he]; exact ⟨w9.heap.size, rfl, hb9.size, (at_made _ _ _ _).2.2, (at_made _ _ _ _).1, (at_made _ _ _ _).2.1⟩)⟩
def endAt (es : List Kno) (i : Nat) : Int × Int := ((es.getD i kno0).l, (es.getD i kno0).h)
theorem endCells_at (es : List Kno) : ∀ i, i < es.length → (endCells es)[i * 2]? = some (vI vK (endAt es i).1) ∧ (endCells es)[i * 2 + 1]? = some (vI vK (endAt es i).2) := by
  induction es with
  | nil => intro i hi; exact absurd hi (by simp)
  | cons b es ih =>
    intro i hi
    cases i with
    | zero => exact ⟨rfl, rfl⟩
    | succ i =>
      obtain ⟨h1, h2⟩ := ih i (by simpa using hi)
      unfold endCells endAt at *
      rw [List.flatMap_cons, show (i + 1) * 2 = (i * 2 + 1) + 1 by omega]
      exact ⟨h1, h2⟩
theorem joined_ends {w : World} {base : Nat} {v : Value} {es : List Kno} (h : EndsAt w base v es) (hl : es.length ≤ 4000) : Calls Tryz.prog 36 #[v] w fun e w' => e = .returned (.agg #[vI vK (joinTo (endAt es) es.length).1, vI vK (joinTo (endAt es) es.length).2]) ∧ Below w.heap.size w w' := by
  rcases h.2 with ⟨h1, h2⟩ | ⟨g, cap, cur, h1, h2, h3, h4⟩
  · rw [h1, h2]; exact joined_nil none 0 w
  · rw [h1]
    by_cases hz : es.length = 0
    · rw [hz]; exact joined_nil _ cap w
    · refine joined_some g es.length cap (endAt es) (by omega) (by omega) w (Array.getElem?_eq_some_iff.1 h3).1 (fun i hi => ?_)
      obtain ⟨e1, e2⟩ := endCells_at es i hi
      have k1 := World.ownsRow.cells h (g := g) (by rw [h1]; rfl) _ _ e1
      have k2 := World.ownsRow.cells h (g := g) (by rw [h1]; rfl) _ _ e2
      rw [Addr.add_mid, Nat.zero_add] at k1 k2
      exact ⟨k1, k2⟩
theorem opCheck_bad3 {bk off len cap : Nat} {C D S O N : Nat → Int} {R : Nat → Bool} {w : World} {i : Nat} (hi : i < len) (hno : ∀ j, j < i → faultAt len C D S R O N j = 0) (hf : faultAt len C D S R O N i ≠ 0) (hst : StepsAt w bk off len C D S R O N) (h1 : 1 ≤ len) (h2 : len ≤ 200) (hbk : bk < w.heap.size) :
    Calls Tryz.prog 18 #[.slice (some ⟨bk, off, none⟩) len cap] w fun e w' => ∃ p, e = .returned (.iface 74 (.pointer (some ⟨p, 0, none⟩))) ∧ w.heap.size ≤ p ∧ Below w.heap.size w w' ∧ p < w'.heap.size ∧ w'.cell? ⟨p, 0, none⟩ = some (vI vK (faultAt len C D S R O N i)) ∧ w'.cell? ⟨p, 1, none⟩ = some (vI vK (i : Int)) := by
  refine (opCheck_steps bk off len cap C D S O N R w h1 h2 hbk hst).mono fun e w' hh => ?_
  obtain ⟨hb, hh⟩ := hh
  rcases hh with ⟨_, h⟩ | ⟨k, p, hk, hno', hf', he, hp, hc0, hc1⟩
  · exact absurd (h i hi) hf
  · obtain rfl := same_first hno hf hno' hf'
    exact ⟨p, he, hp, hb, World.block_lt_of_cell? w' _ hc0, hc0, hc1⟩
theorem cell_off2 {w : World} {B p o o' q : Nat} {x y : Value} (hne : p ≠ B) : ((w.setCell ⟨B, o, none⟩ x).setCell ⟨B, o', none⟩ y).cell? ⟨p, q, none⟩ = w.cell? ⟨p, q, none⟩ :=
  World.cell?_of_block ((Below.heap_setCell _ _ _ p hne).trans (Below.heap_setCell _ _ _ p hne))
theorem verify_limit (a : Option Addr) (len cap : Nat) (h : len < 1 ∨ 200 < len) (w : World) :
    Calls Tryz.prog 16 #[.slice a len cap] w fun e w' => e = .returned (.tuple #[.agg #[vI vK 0, vI vK 0], .iface 23 (vI vK 4)]) ∧ Below w.heap.size w w' := by
  have hK0 : Blk w [(w.heap.size, .cells #[vI vK 0, vI vK 0] 43 (0, 0))] (w.alloc (.cells #[vI vK 0, vI vK 0] 43)) := (Blk.nil ((bF _ _).alloc (Nat.le_refl _) _)).cons (heap_alloc_new w _)
  go_enter Tryz.func16, Tryz.ntmps16
  go_upto_region 1 with fail
  generalize (w.alloc (.cells #[vI vK 0, vI vK 0] 43)) = w0 at hK0 ⊢
  go_step
  (refine wpList_valueOf rfl (.slice a len cap) w0 (by go_simp; try rfl) ?_); simp only [Act.put, siA, scZ, scS]
  (refine wpList_callOf rfl 18 #[.slice a len cap] (by go_simp; try rfl) (.iface 23 (vI vK 4)) (opCheck_limit a len cap h w0) ?_)
  intro w1 hw1
  subst hw1
  have hK1 := hK0
  obtain ⟨r0, r1, rf0, rf1, rlt⟩ := row2 (hK1.2 _ mcS)
  simp only [Act.put, siA, scZ, scS]
  go_wp2_with fail
  exact bodyPost_ret (v := .tuple #[.agg #[vI vK 0, vI vK 0], .iface 23 (vI vK 4)]) (by simp [results, Tryz.results16, go_sem, *]) rfl ⟨rfl, (hK1.1.setCell (Nat.le_refl _) _).setCell (Nat.le_refl _) _⟩
theorem verify_wrong (bk off len cap : Nat) (C D S O N : Nat → Int) (R : Nat → Bool) (w : World) (h1 : 1 ≤ len) (h2 : len ≤ 200) (hbk : bk < w.heap.size) (hst : StepsAt w bk off len C D S R O N) (i : Nat) (hi : i < len) (hno : ∀ j, j < i → faultAt len C D S R O N j = 0) (hfa : faultAt len C D S R O N i ≠ 0) :
    Calls Tryz.prog 16 #[.slice (some ⟨bk, off, none⟩) len cap] w fun e w' => ∃ p, e = .returned (.tuple #[.agg #[vI vK 0, vI vK 0], .iface 74 (.pointer (some ⟨p, 0, none⟩))]) ∧ Below w.heap.size w w' ∧ w.heap.size < p ∧ p < w'.heap.size ∧ w'.cell? ⟨p, 0, none⟩ = some (vI vK (faultAt len C D S R O N i)) ∧ w'.cell? ⟨p, 1, none⟩ = some (vI vK (i : Int)) := by
  have hK0 : Blk w [(w.heap.size, .cells #[vI vK 0, vI vK 0] 43 (0, 0))] (w.alloc (.cells #[vI vK 0, vI vK 0] 43)) := (Blk.nil ((bF _ _).alloc (Nat.le_refl _) _)).cons (heap_alloc_new w _)
  go_enter Tryz.func16, Tryz.ntmps16
  go_upto_region 1 with fail
  generalize (w.alloc (.cells #[vI vK 0, vI vK 0] 43)) = w0 at hK0 ⊢
  go_step
  (refine wpList_valueOf rfl (.slice (some ⟨bk, off, none⟩) len cap) w0 (by go_simp; try rfl) ?_); simp only [Act.put, siA, scZ, scS]
  have hst0 := hst.later (hK0.1) hbk
  have hbk0 := Nat.lt_of_lt_of_le hbk hK0.1.size
  refine wpList_callEx rfl 18 #[.slice (some ⟨bk, off, none⟩) len cap] (by go_simp; try rfl) (R := fun x w' => ∃ p, x = .iface 74 (.pointer (some ⟨p, 0, none⟩)) ∧ w0.heap.size ≤ p ∧ Below w0.heap.size w0 w' ∧ p < w'.heap.size ∧ w'.cell? ⟨p, 0, none⟩ = some (vI vK (faultAt len C D S R O N i)) ∧ w'.cell? ⟨p, 1, none⟩ = some (vI vK (i : Int))) ((opCheck_bad3 (cap := cap) hi hno hfa hst0 h1 h2 hbk0).mono fun e w' h => by obtain ⟨p, h1, h2⟩ := h; exact ⟨_, h1, p, rfl, h2⟩) ?_
  intro v1 w1 hq
  obtain ⟨p, rfl, hp0, hb1, hp1, c0, c1⟩ := hq
  have hK1 := hK0.later hb1
  obtain ⟨r0, r1, rf0, rf1, rlt⟩ := row2 (hK1.2 _ mcS)
  have hw0 := hK0.lt mcS
  have hpne : p ≠ w.heap.size := by omega
  simp only [Act.put, siA, scZ, scS]
  go_wp2_with fail
  exact bodyPost_ret (v := .tuple #[.agg #[vI vK 0, vI vK 0], .iface 74 (.pointer (some ⟨p, 0, none⟩))]) (by simp [results, Tryz.results16, go_sem, *]) rfl ⟨p, rfl, (hK1.1.setCell (Nat.le_refl _) _).setCell (Nat.le_refl _) _, by omega, by simpa using hp1, (cell_off2 hpne).trans c0, (cell_off2 hpne).trans c1⟩
theorem verify_bad (bk off len cap : Nat) (C D S O N : Nat → Int) (R : Nat → Bool) (w : World) (h1 : 1 ≤ len) (h2 : len ≤ 200) (hbk : bk < w.heap.size) (hst : StepsAt w bk off len C D S R O N) (h : ∀ j, j < len → faultAt len C D S R O N j = 0) (hf : ∀ i, i < len → In64 (O i) ∧ In64 (N i)) (er : Int) (i : Nat) (hgo : goF C D S R O N 4000 [(0, way0)] [] = .inl (er, i)) :
    Calls Tryz.prog 16 #[.slice (some ⟨bk, off, none⟩) len cap] w fun e w' => ∃ p, e = .returned (.tuple #[.agg #[vI vK 0, vI vK 0], .iface 74 (.pointer (some ⟨p, 0, none⟩))]) ∧ Below w.heap.size w w' ∧ w.heap.size < p ∧ p < w'.heap.size ∧ w'.cell? ⟨p, 0, none⟩ = some (vI vK er) ∧ w'.cell? ⟨p, 1, none⟩ = some (vI vK (i : Int)) := by
  have hK0 : Blk w [(w.heap.size, .cells #[vI vK 0, vI vK 0] 43 (0, 0))] (w.alloc (.cells #[vI vK 0, vI vK 0] 43)) := (Blk.nil ((bF _ _).alloc (Nat.le_refl _) _)).cons (heap_alloc_new w _)
  go_enter Tryz.func16, Tryz.ntmps16
  go_upto_region 1 with fail
  generalize (w.alloc (.cells #[vI vK 0, vI vK 0] 43)) = w0 at hK0 ⊢
  go_step
  (refine wpList_valueOf rfl (.slice (some ⟨bk, off, none⟩) len cap) w0 (by go_simp; try rfl) ?_); simp only [Act.put, siA, scZ, scS]
  have hst0 := hst.later (hK0.1) hbk
  have hbk0 := Nat.lt_of_lt_of_le hbk hK0.1.size
  (refine wpList_callOf rfl 18 #[.slice (some ⟨bk, off, none⟩) len cap] (by go_simp; try rfl) .nilIface (opCheck_fine h hst0 h1 h2 hbk0) ?_)
  intro w1 hb1
  have hK1 := hK0.later hb1
  have hst1 := hst0.later hb1 hbk0
  have hbk1 := Nat.lt_of_lt_of_le hbk0 hb1.size
  simp only [Act.put, siA, scZ, scS]
  go_upto_region 4 with fail
  go_step
  (refine wpList_valueOf rfl (.slice (some ⟨bk, off, none⟩) len cap) w1 (by go_simp; try rfl) ?_); simp only [Act.put, siA, scZ, scS]
  refine wpList_callEx rfl 35 #[.slice (some ⟨bk, off, none⟩) len cap] (by go_simp; try rfl) (R := fun x w' => ∃ p, x = .tuple #[.slice none 0 0, .iface 74 (.pointer (some ⟨p, 0, none⟩))] ∧ Below w1.heap.size w1 w' ∧ w1.heap.size ≤ p ∧ p < w'.heap.size ∧ w'.cell? ⟨p, 0, none⟩ = some (vI vK er) ∧ w'.cell? ⟨p, 1, none⟩ = some (vI vK (i : Int))) ((goAll_any bk off len cap C D S O N R w1 h1 h2 hbk1 hst1 (fun i hi => right_of (h i hi)) hf).mono fun e w' hh => by rw [hgo] at hh; obtain ⟨hb, hh⟩ := hh; obtain ⟨p, h3, h4⟩ := hh; exact ⟨_, h3, p, rfl, hb, h4⟩) ?_
  intro v2 w2 hq
  obtain ⟨p, rfl, hb2, hp0, hp1, c0, c1⟩ := hq
  have hw1 := hK1.lt mcS
  have hpne : p ≠ w.heap.size := by omega
  have hK1 := hK1.later hb2
  obtain ⟨r0, r1, rf0, rf1, rlt⟩ := row2 (hK1.2 _ mcS)
  simp only [Act.put, siA, scZ, scS]
  go_wp2_with fail
  exact bodyPost_ret (v := .tuple #[.agg #[vI vK 0, vI vK 0], .iface 74 (.pointer (some ⟨p, 0, none⟩))]) (by simp [results, Tryz.results16, go_sem, *]) rfl ⟨p, rfl, (hK1.1.setCell (Nat.le_refl _) _).setCell (Nat.le_refl _) _, by omega, by simpa using hp1, (cell_off2 hpne).trans c0, (cell_off2 hpne).trans c1⟩
theorem verify_fine (bk off len cap : Nat) (C D S O N : Nat → Int) (R : Nat → Bool) (w : World) (h1 : 1 ≤ len) (h2 : len ≤ 200) (hbk : bk < w.heap.size) (hst : StepsAt w bk off len C D S R O N) (h : ∀ j, j < len → faultAt len C D S R O N j = 0) (hf : ∀ i, i < len → In64 (O i) ∧ In64 (N i)) (es : List Kno) (hgo : goF C D S R O N 4000 [(0, way0)] [] = .inr es) :
    Calls Tryz.prog 16 #[.slice (some ⟨bk, off, none⟩) len cap] w fun e w' => e = .returned (.tuple #[.agg #[vI vK (joinTo (endAt es) es.length).1, vI vK (joinTo (endAt es) es.length).2], .nilIface]) ∧ Below w.heap.size w w' := by
  have hK0 : Blk w [(w.heap.size, .cells #[vI vK 0, vI vK 0] 43 (0, 0))] (w.alloc (.cells #[vI vK 0, vI vK 0] 43)) := (Blk.nil ((bF _ _).alloc (Nat.le_refl _) _)).cons (heap_alloc_new w _)
  go_enter Tryz.func16, Tryz.ntmps16
  go_upto_region 1 with fail
  generalize (w.alloc (.cells #[vI vK 0, vI vK 0] 43)) = w0 at hK0 ⊢
  go_step
  (refine wpList_valueOf rfl (.slice (some ⟨bk, off, none⟩) len cap) w0 (by go_simp; try rfl) ?_); simp only [Act.put, siA, scZ, scS]
  have hst0 := hst.later (hK0.1) hbk
  have hbk0 := Nat.lt_of_lt_of_le hbk hK0.1.size
  (refine wpList_callOf rfl 18 #[.slice (some ⟨bk, off, none⟩) len cap] (by go_simp; try rfl) .nilIface (opCheck_fine h hst0 h1 h2 hbk0) ?_)
  intro w1 hb1
  have hK1 := hK0.later hb1
  have hst1 := hst0.later hb1 hbk0
  have hbk1 := Nat.lt_of_lt_of_le hbk0 hb1.size
  simp only [Act.put, siA, scZ, scS]
  go_upto_region 4 with fail
  go_step
  (refine wpList_valueOf rfl (.slice (some ⟨bk, off, none⟩) len cap) w1 (by go_simp; try rfl) ?_); simp only [Act.put, siA, scZ, scS]
  refine wpList_callEx rfl 35 #[.slice (some ⟨bk, off, none⟩) len cap] (by go_simp; try rfl) (R := fun x w' => ∃ E, x = .tuple #[E, .nilIface] ∧ Below w1.heap.size w1 w' ∧ EndsAt w' w1.heap.size E es ∧ es.length ≤ 4000) ((goAll_any bk off len cap C D S O N R w1 h1 h2 hbk1 hst1 (fun i hi => right_of (h i hi)) hf).mono fun e w' hh => by rw [hgo] at hh; obtain ⟨hb, hh⟩ := hh; obtain ⟨E, h3, h4⟩ := hh; exact ⟨_, h3, E, rfl, hb, h4⟩) ?_
  intro v2 w2 hq
  obtain ⟨E, rfl, hb2, hE2, hl2⟩ := hq
  have hK2 := hK1.later hb2
  simp only [Act.put, siA, scZ, scS]
  go_upto_region 7 with fail
  go_step
  (refine wpList_valueOf rfl E w2 (by go_simp; try rfl) ?_); simp only [Act.put, siA, scZ, scS]
  (refine wpList_callOf rfl 36 #[E] (by go_simp; try rfl) (.agg #[vI vK (joinTo (endAt es) es.length).1, vI vK (joinTo (endAt es) es.length).2]) (joined_ends hE2 hl2) ?_)
  intro w3 hb3
  have hK1 := hK2.later hb3
  obtain ⟨r0, r1, rf0, rf1, rlt⟩ := row2 (hK1.2 _ mcS)
  simp only [Act.put, siA, scZ, scS]
  clear hE2
  go_wp2_with fail
  exact bodyPost_ret (v := .tuple #[.agg #[vI vK (joinTo (endAt es) es.length).1, vI vK (joinTo (endAt es) es.length).2], .nilIface]) (by simp [results, Tryz.results16, go_sem, *]) rfl ⟨rfl, (hK1.1.setCell (Nat.le_refl _) _).setCell (Nat.le_refl _) _⟩
end Go.Proofs.YtednmkhdehlojaaGreatDoor
namespace Go.Proofs.YtednmkhdehlojaaGreatDoor
open Go.ChangeShapes Go.WideShapes Go.ChangeAt Go.RowKit
variable {ex : Ext}

section
variable {len : Nat} {C D S O N : Nat → Int} {R : Nat → Bool}
end

section
variable {bk off len cap : Nat} {C D S O N : Nat → Int} {R : Nat → Bool} {w : World}
end
end Go.Proofs.YtednmkhdehlojaaGreatDoor
namespace Go.Proofs.YtednmkhdehlojaaGreatDoor
open Go.ChangeShapes Go.WideShapes Go.ChangeAt Go.RowKit
section
variable (x : St)
end
end Go.Proofs.YtednmkhdehlojaaGreatDoor
namespace Go.Proofs.YtednmkhdehlojaaGreatDoor
open Go.ChangeShapes Go.WideShapes Go.ChangeAt Go.RowKit
section
variable {w0 : ByteArray} {ws : List ByteArray}
end
section
variable {c d s : Int} {r : Bool} {o n : Int}
end
section
variable {len : Nat} {C D S O N : Nat → Int} {R : Nat → Bool}
def stAt (C D S : Nat → Int) (R : Nat → Bool) (O N : Nat → Int) (i : Nat) : St := ⟨C i, D i, S i, R i, O i, N i⟩
end
end Go.Proofs.YtednmkhdehlojaaGreatDoor
namespace Go.Proofs.YtednmkhdehlojaaGreatDoor
open Go.ChangeShapes Go.WideShapes Go.ChangeAt Go.RowKit
variable {len : Nat} {C D S O N : Nat → Int} {R : Nat → Bool}
end Go.Proofs.YtednmkhdehlojaaGreatDoor
namespace Go.Proofs.YtednmkhdehlojaaGreatDoor
open Go.ChangeShapes Go.WideShapes Go.ChangeAt Go.RowKit
section
variable {len : Nat} {C D S O N : Nat → Int} {R : Nat → Bool} {ps : List ByteArray}
theorem told_count (h : ps.map tells = (List.range len).map fun i => some (stAt C D S R O N i)) : ps.length = len := by
  have := congrArg List.length h
  simpa using this
theorem told_all (h : ps.map tells = (List.range len).map fun i => some (stAt C D S R O N i)) : ∀ y ∈ ps, (tells y).isSome = true := by
  intro y hy
  have h1 : tells y ∈ ps.map tells := List.mem_map.2 ⟨y, hy, rfl⟩
  rw [h] at h1
  obtain ⟨i, _, e⟩ := List.mem_map.1 h1
  rw [← e]; rfl
theorem told_steps (h : ps.map tells = (List.range len).map fun i => some (stAt C D S R O N i)) : toldBy ps = (List.range len).map (stAt C D S R O N) := by
  have h1 := congrArg (List.map fun o : Option St => o.getD St.zero) h
  rw [List.map_map, List.map_map] at h1
  exact h1
theorem told_nth (h : ps.map tells = (List.range len).map fun i => some (stAt C D S R O N i)) {j : Nat} (hj : j < len) : nth (toldBy ps) j = stAt C D S R O N j := by
  unfold nth
  rw [told_steps h, List.getElem?_map, List.getElem?_range hj]
  rfl
theorem told_fault (h : ps.map tells = (List.range len).map fun i => some (stAt C D S R O N i)) {j : Nat} (hj : j < len) : faultOf (toldBy ps) j = faultAt len C D S R O N j := by
  unfold faultOf faultAt
  rw [told_length, told_count h]
  dsimp only
  rw [told_nth h hj]
  rfl
end
theorem read_written {len : Nat} {C D S O N : Nat → Int} {R : Nat → Bool} {w W : World} {e : Ending} {t : ByteArray} (hp : (piecesOf t).map tells = (List.range len).map fun i => some (stAt C D S R O N i)) (h2 : len ≤ 200) (hno : ∀ j, j < len → faultAt len C D S R O N j = 0) (h : ReadEnds w t e W) :
    ∃ g cap, e = .returned (.tuple #[.slice (some ⟨g, 0, none⟩) len cap, .nilIface]) ∧ Below w.heap.size w W ∧ g < W.heap.size ∧ StepsAt W g 0 len C D S R O N := by
  obtain ⟨hb, h⟩ := h
  have hall := told_all hp
  have hlen := told_count hp
  rcases h with ⟨pre, x, post, p, hps, _, hx, _⟩ | ⟨_, h⟩
  · have h1 := hall x (by rw [hps]; simp)
    rw [hx] at h1; cases h1
  · rcases h with ⟨h200, _⟩ | ⟨_, h⟩
    · omega
    · rcases h with ⟨i, p, hi, _, hf, _⟩ | ⟨_, g, cap, rfl, hrow⟩
      · rw [told_fault hp (by omega)] at hf
        exact absurd (hno i (by omega)) hf
      · rw [hlen] at hrow ⊢
        refine ⟨g, cap, rfl, hb, row_lt hrow, fun i hi => ?_⟩
        have hst := row_steps hrow (by rw [told_length, hlen]) i hi
        dsimp only at hst
        rw [told_nth hp hi] at hst
        exact hst
end Go.Proofs.YtednmkhdehlojaaGreatDoor
namespace Go.Proofs.YtednmkhdehlojaaGreatDoor
open Go.ChangeShapes Go.WideShapes Go.ChangeAt Go.RowKit
end Go.Proofs.YtednmkhdehlojaaGreatDoor
namespace Go.Proofs.YtednmkhdehlojaaGreatDoor
open Go.ChangeShapes Go.WideShapes Go.ChangeAt Go.RowKit
attribute [local simp] drew_size drewN_size setCell_size
end Go.Proofs.YtednmkhdehlojaaGreatDoor
namespace Go.Proofs.YtednmkhdehlojaaGreatDoor
open Go.ChangeShapes Go.WideShapes Go.ChangeAt Go.RowKit
section
variable {a : Abs} {p v : Val} {o t : Int} {E : Int} {d : Nat}
end
section
variable {B d s : Nat} {c o n : Int} {r : Bool} {m : Mac} {L : List Int} {w : World}
end
end Go.Proofs.YtednmkhdehlojaaGreatDoor
namespace Go.Proofs.YtednmkhdehlojaaGreatDoor
open Go.ChangeShapes Go.WideShapes Go.ChangeAt Go.RowKit
attribute [local simp] drew_size drewN_size setCell_size
section
variable (B bk off len cap : Nat) (C D S O N : Nat → Int) (R : Nat → Bool)
end
end Go.Proofs.YtednmkhdehlojaaGreatDoor
namespace Go.Proofs.YtednmkhdehlojaaGreatDoor
open Go.ChangeShapes Go.WideShapes Go.ChangeAt Go.RowKit
attribute [local simp] drew_size drewN_size setCell_size
end Go.Proofs.YtednmkhdehlojaaGreatDoor
namespace Go.Proofs.YtednmkhdehlojaaGreatDoor
section
variable {P : Program} {md : Region.Mode} {ops : Array Oper} {Q : Exit → Act → World → Prop} {S : World → Prop}
end
end Go.Proofs.YtednmkhdehlojaaGreatDoor
namespace Go.Proofs.YtednmkhdehlojaaGreatDoor
open Go.ChangeShapes Go.WideShapes Go.ChangeAt Go.RowKit
attribute [local simp] drew_size drewN_size setCell_size
variable {ex : Ext}
def lxB : ByteArray := ⟨#[108, 111, 97, 100, 32, 114, 50, 32, 91, 114, 49, 43, 48, 93, 59, 32, 106, 103, 101, 32, 114, 50, 32, 56, 32, 50, 59, 32, 97, 100, 100, 32, 114, 49, 32, 114, 50, 59, 32, 108, 111, 97, 100, 32, 114, 50, 32, 91, 114, 49, 43, 48, 93, 59, 32, 109, 111, 118, 32, 114, 48, 32, 51, 59, 32, 101, 120, 105, 116]⟩
def lxL : List St := [⟨25, 2, 1, false, 0, 0⟩, ⟨18, 2, 0, false, 2, 8⟩, ⟨2, 1, 2, true, 0, 0⟩, ⟨25, 2, 1, false, 0, 0⟩, ⟨1, 0, 0, false, 0, 3⟩, ⟨28, 0, 0, false, 0, 0⟩]
def lxC (i : Nat) : Int := (nth lxL i).c
def lxD (i : Nat) : Int := (nth lxL i).d
def lxS (i : Nat) : Int := (nth lxL i).s
def lxR (i : Nat) : Bool := (nth lxL i).r
def lxO (i : Nat) : Int := (nth lxL i).o
def lxN (i : Nat) : Int := (nth lxL i).n
theorem lx_pieces : (piecesOf lxB).map tells = (List.range 6).map fun i => some (stAt lxC lxD lxS lxR lxO lxN i) := by kernel_rfl
theorem lx_fine : ∀ j, j < 6 → faultAt 6 lxC lxD lxS lxR lxO lxN j = 0 := by
  intro j hj
  rcases (by omega : j = 0 ∨ j = 1 ∨ j = 2 ∨ j = 3 ∨ j = 4 ∨ j = 5) with rfl | rfl | rfl | rfl | rfl | rfl <;> decide
theorem lx_64 : ∀ j, j < 6 → In64 (lxO j) ∧ In64 (lxN j) := by
  intro j hj
  rcases (by omega : j = 0 ∨ j = 1 ∨ j = 2 ∨ j = 3 ∨ j = 4 ∨ j = 5) with rfl | rfl | rfl | rfl | rfl | rfl <;> (unfold In64; decide)
def lyB : ByteArray := ⟨#[108, 111, 97, 100, 32, 114, 50, 32, 91, 114, 49, 43, 48, 93, 59, 32, 97, 100, 100, 32, 114, 49, 32, 114, 50, 59, 32, 108, 111, 97, 100, 32, 114, 50, 32, 91, 114, 49, 43, 48, 93, 59, 32, 109, 111, 118, 32, 114, 48, 32, 51, 59, 32, 101, 120, 105, 116]⟩
def lyL : List St := [⟨25, 2, 1, false, 0, 0⟩, ⟨2, 1, 2, true, 0, 0⟩, ⟨25, 2, 1, false, 0, 0⟩, ⟨1, 0, 0, false, 0, 3⟩, ⟨28, 0, 0, false, 0, 0⟩]
def lyC (i : Nat) : Int := (nth lyL i).c
def lyD (i : Nat) : Int := (nth lyL i).d
def lyS (i : Nat) : Int := (nth lyL i).s
def lyR (i : Nat) : Bool := (nth lyL i).r
def lyO (i : Nat) : Int := (nth lyL i).o
def lyN (i : Nat) : Int := (nth lyL i).n
theorem ly_pieces : (piecesOf lyB).map tells = (List.range 5).map fun i => some (stAt lyC lyD lyS lyR lyO lyN i) := by kernel_rfl
theorem ly_fine : ∀ j, j < 5 → faultAt 5 lyC lyD lyS lyR lyO lyN j = 0 := by
  intro j hj
  rcases (by omega : j = 0 ∨ j = 1 ∨ j = 2 ∨ j = 3 ∨ j = 4) with rfl | rfl | rfl | rfl | rfl <;> decide
theorem ly_64 : ∀ j, j < 5 → In64 (lyO j) ∧ In64 (lyN j) := by
  intro j hj
  rcases (by omega : j = 0 ∨ j = 1 ∨ j = 2 ∨ j = 3 ∨ j = 4) with rfl | rfl | rfl | rfl | rfl <;> (unfold In64; decide)
theorem lx_go : ∃ es, goF lxC lxD lxS lxR lxO lxN 4000 [(0, way0)] [] = .inr es ∧ joinTo (endAt es) es.length = (3, 3) := ⟨[⟨1, 3, 3⟩, ⟨1, 3, 3⟩], by kernel_rfl, by kernel_rfl⟩
theorem ly_go : goF lyC lyD lyS lyR lyO lyN 4000 [(0, way0)] [] = .inl (2, 1) := by kernel_rfl
theorem lx_read (he : ∀ w, ex.holds w → ErrTabs w) (hu : ∀ w, ex.holds w → Lib.Utf8Tabs 7 8 w) (w : World) (hT : Tabs ex w) : Calls Tryz.prog 9 #[.string ⟨#[108, 111, 97, 100, 32, 114, 50, 32, 91, 114, 49, 43, 48, 93, 59, 32, 106, 103, 101, 32, 114, 50, 32, 56, 32, 50, 59, 32, 97, 100, 100, 32, 114, 49, 32, 114, 50, 59, 32, 108, 111, 97, 100, 32, 114, 50, 32, 91, 114, 49, 43, 48, 93, 59, 32, 109, 111, 118, 32, 114, 48, 32, 51, 59, 32, 101, 120, 105, 116]⟩] w fun e w' => ∃ v, e = .returned v ∧ ∃ g cp, v = .tuple #[.slice (some ⟨g, 0, none⟩) 6 cp, .nilIface] ∧ Below w.heap.size w w' ∧ g < w'.heap.size ∧ StepsAt w' g 0 6 lxC lxD lxS lxR lxO lxN :=
  (read_any he hu lxB (by decide) w hT).mono fun e w' hre => by
    obtain ⟨g, cp, h1, h2⟩ := read_written lx_pieces (by decide) lx_fine hre
    exact ⟨_, h1, g, cp, rfl, h2⟩
theorem ly_read (he : ∀ w, ex.holds w → ErrTabs w) (hu : ∀ w, ex.holds w → Lib.Utf8Tabs 7 8 w) (w : World) (hT : Tabs ex w) : Calls Tryz.prog 9 #[.string ⟨#[108, 111, 97, 100, 32, 114, 50, 32, 91, 114, 49, 43, 48, 93, 59, 32, 97, 100, 100, 32, 114, 49, 32, 114, 50, 59, 32, 108, 111, 97, 100, 32, 114, 50, 32, 91, 114, 49, 43, 48, 93, 59, 32, 109, 111, 118, 32, 114, 48, 32, 51, 59, 32, 101, 120, 105, 116]⟩] w fun e w' => ∃ v, e = .returned v ∧ ∃ g cp, v = .tuple #[.slice (some ⟨g, 0, none⟩) 5 cp, .nilIface] ∧ Below w.heap.size w w' ∧ g < w'.heap.size ∧ StepsAt w' g 0 5 lyC lyD lyS lyR lyO lyN :=
  (read_any he hu lyB (by decide) w hT).mono fun e w' hre => by
    obtain ⟨g, cp, h1, h2⟩ := read_written ly_pieces (by decide) ly_fine hre
    exact ⟨_, h1, g, cp, rfl, h2⟩
theorem lx_verify (g cp : Nat) (w : World) (hg : g < w.heap.size) (hst : StepsAt w g 0 6 lxC lxD lxS lxR lxO lxN) : Calls Tryz.prog 16 #[.slice (some ⟨g, 0, none⟩) 6 cp] w fun e w' => e = .returned (.tuple #[.agg #[vI vK 3, vI vK 3], .nilIface]) ∧ Below w.heap.size w w' := by
  obtain ⟨es, hgo, hjn⟩ := lx_go
  have hq := verify_fine g 0 6 cp lxC lxD lxS lxO lxN lxR w (by decide) (by decide) hg hst lx_fine lx_64 es hgo
  rw [hjn] at hq
  exact hq
theorem ly_verify (g cp : Nat) (w : World) (hg : g < w.heap.size) (hst : StepsAt w g 0 5 lyC lyD lyS lyR lyO lyN) : Calls Tryz.prog 16 #[.slice (some ⟨g, 0, none⟩) 5 cp] w fun e w' => ∃ v, e = .returned v ∧ ∃ p, v = .tuple #[.agg #[vI vK 0, vI vK 0], .iface 74 (.pointer (some ⟨p, 0, none⟩))] ∧ Below w.heap.size w w' ∧ p < w'.heap.size ∧ w'.cell? ⟨p, 0, none⟩ = some (vI vK 2) :=
  (verify_bad g 0 5 cp lyC lyD lyS lyO lyN lyR w (by decide) (by decide) hg hst ly_fine ly_64 2 1 ly_go).mono fun e w' h => by
    obtain ⟨p, h1, h2, h3, h4, h5, h6⟩ := h
    exact ⟨_, h1, p, rfl, h2, h4, h5⟩
theorem let_true (he : ∀ w, ex.holds w → ErrTabs w) (hu : ∀ w, ex.holds w → Lib.Utf8Tabs 7 8 w) (w : World) (hT : Tabs ex w) (hg : HandleAt w) : Calls Tryz.prog 17 #[] w fun e w' => e = .returned (.bool true) ∧ Below w.heap.size w w' := by
  have hroom := hT.room
  go_enter Tryz.func17, Tryz.ntmps17
  go_upto_region 1 with fail
  go_step
  refine wpList_callEx rfl 9 #[.string ⟨#[108, 111, 97, 100, 32, 114, 50, 32, 91, 114, 49, 43, 48, 93, 59, 32, 106, 103, 101, 32, 114, 50, 32, 56, 32, 50, 59, 32, 97, 100, 100, 32, 114, 49, 32, 114, 50, 59, 32, 108, 111, 97, 100, 32, 114, 50, 32, 91, 114, 49, 43, 48, 93, 59, 32, 109, 111, 118, 32, 114, 48, 32, 51, 59, 32, 101, 120, 105, 116]⟩] (by go_simp; try rfl) (lx_read he hu w hT) ?_
  intro v1 w1 hq
  obtain ⟨g1, cp1, rfl, hb1, hg1, hst1⟩ := hq
  simp only [Act.put, siA, scZ, scS]
  go_upto_region 2 with fail
  go_step
  refine wpList_callEx rfl 9 #[.string ⟨#[108, 111, 97, 100, 32, 114, 50, 32, 91, 114, 49, 43, 48, 93, 59, 32, 97, 100, 100, 32, 114, 49, 32, 114, 50, 59, 32, 108, 111, 97, 100, 32, 114, 50, 32, 91, 114, 49, 43, 48, 93, 59, 32, 109, 111, 118, 32, 114, 48, 32, 51, 59, 32, 101, 120, 105, 116]⟩] (by go_simp; try rfl) (ly_read he hu w1 (hT.on hb1 hroom)) ?_
  intro v2 w2 hq
  obtain ⟨g2, cp2, rfl, hb2, hg2, hst2⟩ := hq
  simp only [Act.put, siA, scZ, scS]
  go_upto_region 5 with fail
  go_step
  (refine wpList_valueOf rfl (.slice (some ⟨g1, 0, none⟩) 6 cp1) w2 (by go_simp; try rfl) ?_); simp only [Act.put, siA, scZ, scS]
  (refine wpList_callOf rfl 16 #[.slice (some ⟨g1, 0, none⟩) 6 cp1] (by go_simp; try rfl) (.tuple #[.agg #[vI vK 3, vI vK 3], .nilIface]) (lx_verify g1 cp1 w2 (Nat.lt_of_lt_of_le hg1 hb2.size) (hst1.later hb2 hg1)) ?_)
  intro w3 hb3
  simp only [Act.put, siA, scZ, scS]
  go_upto_region 6 with fail
  have hq3 : Below w2.heap.size w2 (w3.alloc (.cells #[vI vK 3, vI vK 3] 43)) := hb3.alloc hb3.size _
  have hB3 := heap_alloc_new w3 (.cells #[vI vK 3, vI vK 3] 43)
  generalize (w3.alloc (.cells #[vI vK 3, vI vK 3] 43)) = w4 at hq3 hB3 ⊢
  generalize w3.heap.size = B5 at hB3 ⊢
  go_step
  (refine wpList_valueOf rfl (.slice (some ⟨g2, 0, none⟩) 5 cp2) w4 (by go_simp; try rfl) ?_); simp only [Act.put, siA, scZ, scS]
  refine wpList_callEx rfl 16 #[.slice (some ⟨g2, 0, none⟩) 5 cp2] (by go_simp; try rfl) (ly_verify g2 cp2 w4 (Nat.lt_of_lt_of_le hg2 hq3.size) (hst2.later hq3 hg2)) ?_
  intro v5 w5 hq
  obtain ⟨p, rfl, hb5, hp5, hc5⟩ := hq
  simp only [Act.put, siA, scZ, scS]
  go_upto_region 7 with fail
  have hq5 : Below w4.heap.size w4 (w5.alloc (.cells #[vI vK 0, vI vK 0] 43)) := hb5.alloc hb5.size _
  have hq6 : Below w5.heap.size w5 (w5.alloc (.cells #[vI vK 0, vI vK 0] 43)) := (bF _ _).alloc (Nat.le_refl _) _
  have hbw : Below w.heap.size w (w5.alloc (.cells #[vI vK 0, vI vK 0] 43)) := ((hb1.trans (hb2.mono hb1.size)).trans (hq3.mono (Nat.le_trans hb1.size hb2.size))).trans (hq5.mono (Nat.le_trans (Nat.le_trans hb1.size hb2.size) hq3.size))
  have hB5 : B5 < w4.heap.size := (Array.getElem?_eq_some_iff.1 hB3).1
  have b5 := (hq5.block B5 hB5).trans hB3
  have c0 := (hq6.cell (p := ⟨p, 0, none⟩) hp5).trans hc5
  have hp6 := Nat.lt_of_lt_of_le hp5 hq6.size
  have hg6 : Hid (HandleAt (w5.alloc (.cells #[vI vK 0, vI vK 0] 43))) := (hbw.cell (p := ⟨4, 0, none⟩) hg.pos).trans hg
  clear hq5 hq6 hB3 hc5 hp5 hb5 hq3 hst1 hst2 hb1 hb2 hb3
  generalize (w5.alloc (.cells #[vI vK 0, vI vK 0] 43)) = w6 at hbw b5 c0 hp6 hg6 ⊢
  obtain ⟨b0, b1, -, -, hB6⟩ := row2 b5
  refine wp_float (C := fun W => Below w6.heap.size w6 W) (n0 := w6.heap.size) 12 [] [] (by kernel_rfl) (by kernel_rfl) (fun d _ _ _ _ h => by cases d <;> exact h) (fun W W' h hb => h.trans (hb.mono h.size)) (fun W h => h.size) ((bF _ _).drew) trivial ?_
  simp only [List.take_succ_cons, List.take_zero, List.drop_succ_cons, List.drop_zero, List.length_nil, Nat.reduceAdd]
  repeat (first
    | (refine wpQ_skip (by rfl) ?_; simp only [Act.put, siA, scZ, scS])
    | (refine wpQ_yield (by rfl) (v := ?_) ?_ ?_; rotate_left; (intro w2 hC; have l0 := (hC.cell (p := ⟨B5, 0, none⟩) hB6).trans b0; have l1 := (hC.cell (p := ⟨B5, 1, none⟩) hB6).trans b1; have lt5 := Nat.lt_of_lt_of_le hB6 hC.size; have q0 := (hC.cell (p := ⟨p, 0, none⟩) hp6).trans c0; have ltp := Nat.lt_of_lt_of_le hp6 hC.size; have hg2 : Hid (HandleAt w2) := (hC.cell (p := ⟨4, 0, none⟩) hg6.out.pos).trans hg6.out; go_simp; try with_reducible rfl); simp only [Act.put, siA, scZ, scS])
    | (refine wpQ_enter (by rfl) ?_; apply Exists.intro; refine ⟨fun w2 hC => ?_, ?_⟩; (have l0 := (hC.cell (p := ⟨B5, 0, none⟩) hB6).trans b0; have l1 := (hC.cell (p := ⟨B5, 1, none⟩) hB6).trans b1; have lt5 := Nat.lt_of_lt_of_le hB6 hC.size; have q0 := (hC.cell (p := ⟨p, 0, none⟩) hp6).trans c0; have ltp := Nat.lt_of_lt_of_le hp6 hC.size; have hg2 : Hid (HandleAt w2) := (hC.cell (p := ⟨4, 0, none⟩) hg6.out.pos).trans hg6.out; go_simp; apply qb_enter; first | (go_at_call 37; exact one_is 3 w2) | (go_at_call 19; exact tell_at 2 ⟨p, 0, none⟩ w2 hg2.out q0 ltp)); simp only [Act.put, siA, scZ, scS]))
  refine wpQ_nil ?_
  intro w7 hC hB7
  go_wp2_with fail
  go_ret
  exact ⟨rfl, hbw.trans (hC.mono hbw.size)⟩
end Go.Proofs.YtednmkhdehlojaaGreatDoor
namespace Go.Proofs.YtednmkhdehlojaaGreatDoor
open Go.ChangeShapes Go.WideShapes Go.ChangeAt Go.RowKit

/-! ### From the reading to the cells -/
/-- What the walk is told of a list that came in: it is empty, or there are steps in a block, with numbers of 64 bits. -/
def IsStepsF (w : World) (a : Option Addr) (len : Nat) : Prop :=
  len = 0 ∨ ∃ (bk off : Nat) (C D S O N : Nat → Int) (R : Nat → Bool), a = some ⟨bk, off, none⟩ ∧ bk < w.heap.size ∧ StepsAt w bk off len C D S R O N ∧ ∀ i, i < len → Fits (O i) ∧ Fits (N i)
theorem fits_of {n : Int} (h : (Lit.int .i64 n).wf = true) : Fits n := by
  have h' : (decide (-9223372036854775808 ≤ n) && decide (n ≤ 9223372036854775807)) = true := h
  simp at h'
  exact h'
theorem open_cells_at {w : World} {base : Nat} {a : Addr} {n : Nat} {cs : List Value} (h : w.cells? base a n = some cs) (i : Nat) (hi : i < n) : w.cell? (a.add i) = cs[i]? := by
  unfold World.cells? at h
  split at h
  · exact mapM_some_get h i i (by simp [hi])
  · cases h
theorem six {l : List Value} (h : l.length = 6) : ∃ a b c d e f, l = [a, b, c, d, e, f] := by
  match l, h with
  | [a, b, c, d, e, f], _ => exact ⟨a, b, c, d, e, f, rfl⟩
section
variable {H : Type} {enc : TypeId × Value → H} {w : World}
theorem step_open {n : Nat} {cs : List Value} {x : DataW H × List MemPlace} (h : DataW.trod enc Tryz.prog w 0 (fun _ => true) true n 49 cs = some x) :
    ∃ y : Int × Int × Int × Bool × Int × Int, cs = [.int .i64 y.1, .int .i64 y.2.1, .int .i64 y.2.2.1, .bool y.2.2.2.1, .int .i64 y.2.2.2.2.1, .int .i64 y.2.2.2.2.2] ∧ Fits y.2.2.2.2.1 ∧ Fits y.2.2.2.2.2 := by
  obtain ⟨xs, m, _, _, hl, hx, hf⟩ := DataW.trod_struct Tryz.underlying49 h
  have hl6 : cs.length = 6 := by rw [hl]; kernel_rfl
  have hx6 : xs.length = 6 := hx
  obtain ⟨a, b, c, d, e, f, rfl⟩ := six hl6
  have k3 : Tryz.prog.cellsOf 3 = 1 := by kernel_rfl
  have k2 : Tryz.prog.cellsOf 2 = 1 := by kernel_rfl
  have k4 : Tryz.prog.cellsOf 4 = 1 := by kernel_rfl
  have at_ : ∀ i, i < 6 → ∃ y, xs[i]? = some y := fun i hi => ⟨xs[i]'(by omega), List.getElem?_eq_getElem _⟩
  obtain ⟨y0, e0⟩ := at_ 0 (by decide)
  obtain ⟨y1, e1⟩ := at_ 1 (by decide)
  obtain ⟨y2, e2⟩ := at_ 2 (by decide)
  obtain ⟨y3, e3⟩ := at_ 3 (by decide)
  obtain ⟨y4, e4⟩ := at_ 4 (by decide)
  obtain ⟨y5, e5⟩ := at_ 5 (by decide)
  have f0 : DataW.trod enc Tryz.prog w 0 (fun _ => true) true m 3 (([a, b, c, d, e, f].drop 0).take (Tryz.prog.cellsOf 3)) = some y0 := (hf 0 _ rfl).trans e0
  have f1 : DataW.trod enc Tryz.prog w 0 (fun _ => true) true m 3 (([a, b, c, d, e, f].drop 1).take (Tryz.prog.cellsOf 3)) = some y1 := (hf 1 _ rfl).trans e1
  have f2 : DataW.trod enc Tryz.prog w 0 (fun _ => true) true m 3 (([a, b, c, d, e, f].drop 2).take (Tryz.prog.cellsOf 3)) = some y2 := (hf 2 _ rfl).trans e2
  have f3 : DataW.trod enc Tryz.prog w 0 (fun _ => true) true m 4 (([a, b, c, d, e, f].drop 3).take (Tryz.prog.cellsOf 4)) = some y3 := (hf 3 _ rfl).trans e3
  have f4 : DataW.trod enc Tryz.prog w 0 (fun _ => true) true m 3 (([a, b, c, d, e, f].drop 4).take (Tryz.prog.cellsOf 3)) = some y4 := (hf 4 _ rfl).trans e4
  have f5 : DataW.trod enc Tryz.prog w 0 (fun _ => true) true m 2 (([a, b, c, d, e, f].drop 5).take (Tryz.prog.cellsOf 2)) = some y5 := (hf 5 _ rfl).trans e5
  rw [k3] at f0 f1 f2 f4
  rw [k4] at f3
  rw [k2] at f5
  obtain ⟨n0, g0, _, _⟩ := DataW.trod_int Tryz.underlying3 f0
  obtain ⟨n1, g1, _, _⟩ := DataW.trod_int Tryz.underlying3 f1
  obtain ⟨n2, g2, _, _⟩ := DataW.trod_int Tryz.underlying3 f2
  obtain ⟨n3, g3, _⟩ := DataW.trod_bool Tryz.underlying4 f3
  obtain ⟨n4, g4, _, b4⟩ := DataW.trod_int Tryz.underlying3 f4
  obtain ⟨n5, g5, _, b5⟩ := DataW.trod_int Tryz.underlying2 f5
  simp at g0 g1 g2 g3 g4 g5
  exact ⟨(n0, n1, n2, n3, n4, n5), by rw [g0, g1, g2, g3, g4, g5], fits_of b4, fits_of b5⟩
theorem steps_open {a : Option Addr} {len cap : Nat} {d : DataW H} {ps : List MemPlace} (h : DataW.Trod enc Tryz.prog w 0 (fun _ => true) true 22 (.slice a len cap) d ps) : IsStepsF w a len := by
  obtain ⟨fuel, hf⟩ := h
  rcases Deep.open_slice Tryz.underlying22 hf with ⟨hcs, _⟩ | ⟨x, l, c, m, n, Da, Pl, hcs, _, hl, hm, hmm, _, hx⟩
  · simp [Value.cells] at hcs
    exact Or.inl hcs.2.1
  · simp [Value.cells] at hcs
    obtain ⟨rfl, rfl, rfl⟩ := hcs
    by_cases h0 : len = 0
    · exact Or.inl h0
    have hc6 : Tryz.prog.cellsOf 49 = 6 := by kernel_rfl
    have all : ∀ i, ∃ y : Int × Int × Int × Bool × Int × Int, i < len → (∀ j, j < 6 → w.cell? ((x.add (i * 6)).add j) = [Value.int .i64 y.1, .int .i64 y.2.1, .int .i64 y.2.2.1, .bool y.2.2.2.1, .int .i64 y.2.2.2.2.1, .int .i64 y.2.2.2.2.2][j]?) ∧ Fits y.2.2.2.2.1 ∧ Fits y.2.2.2.2.2 := by
      intro i
      by_cases hi : i < len
      · have him : i < m := by rw [hmm]; simp; omega
        obtain ⟨cs, hcc, ht⟩ := hx i him
        rw [hc6] at hcc
        obtain ⟨y, hy, hf4, hf5⟩ := step_open ht
        refine ⟨y, fun _ => ⟨fun j hj => ?_, hf4, hf5⟩⟩
        rw [← hy]
        exact open_cells_at hcc j hj
      · exact ⟨(0, 0, 0, false, 0, 0), fun h => absurd h hi⟩
    obtain ⟨f, hf'⟩ := Classical.axiomOfChoice all
    obtain ⟨b, off, spot⟩ := x
    have hc0 := (hf' 0 (by omega)).1 0 (by decide)
    have hspot : spot = none := by simpa [Addr.add] using World.cell?_spot hc0
    subst hspot
    have hb : b < w.heap.size := by
      rcases Nat.lt_or_ge b w.heap.size with g | g
      · exact g
      · simp [World.cell?, Addr.add, Array.getElem?_eq_none g] at hc0
    refine Or.inr ⟨b, off, fun i => (f i).1, fun i => (f i).2.1, fun i => (f i).2.2.1, fun i => (f i).2.2.2.2.1, fun i => (f i).2.2.2.2.2, fun i => (f i).2.2.2.1, rfl, hb, fun i hi => ?_, fun i hi => (hf' i hi).2⟩
    have g : ∀ j, j < 6 → w.cell? ⟨b, off + i * 6 + j, none⟩ = [Value.int .i64 (f i).1, .int .i64 (f i).2.1, .int .i64 (f i).2.2.1, .bool (f i).2.2.2.1, .int .i64 (f i).2.2.2.2.1, .int .i64 (f i).2.2.2.2.2][j]? := fun j hj => by
      rw [← Go.WideShapes.add_plain, ← Go.WideShapes.add_plain]; exact (hf' i hi).1 j hj
    exact ⟨g 0 (by decide), g 1 (by decide), g 2 (by decide), g 3 (by decide), g 4 (by decide), g 5 (by decide)⟩
end
end Go.Proofs.YtednmkhdehlojaaGreatDoor
namespace Go.Proofs.YtednmkhdehlojaaGreatDoor
open Go.ChangeShapes Go.WideShapes Go.ChangeAt Go.RowKit
variable {ex : Ext}
theorem verify_list {W : World} {bk off n cap : Nat} {xs : List St} (hst : StepsAt W bk off n (fun j => (nth xs j).c) (fun j => (nth xs j).d) (fun j => (nth xs j).s) (fun j => (nth xs j).r) (fun j => (nth xs j).o) (fun j => (nth xs j).n)) (hbk : bk < W.heap.size) (hl : xs.length = n) (h1 : 1 ≤ n) (h2 : n ≤ 200) (hno : ∀ j, j < xs.length → faultOf xs j = 0) (hf : ∀ x, x ∈ xs → In64 x.o ∧ In64 x.n) :
    Calls Tryz.prog 16 #[.slice (some ⟨bk, off, none⟩) n cap] W fun e W' => ∃ v, e = .returned v ∧ ∃ x y E te, v = .tuple #[.agg #[vI vK x, vI vK y], E] ∧ Below W.heap.size W W' ∧ VE (fun es => joinTo (endAt es) es.length) W' (goL xs) x y E te := by
  subst hl
  cases hg : goL xs with
  | inl x =>
    obtain ⟨er, i⟩ := x
    exact (verify_bad bk off xs.length cap _ _ _ _ _ _ W h1 h2 hbk hst hno (fun i hi => hf _ (nth_mem hi)) er i hg).mono fun e W' h => by
      obtain ⟨p, h3, h4, h5, h6, h7, h8⟩ := h
      exact ⟨_, h3, 0, 0, _, er, rfl, h4, Or.inr ⟨p, rfl, h6, h7⟩, Or.inl ⟨i, p, rfl, rfl, rfl, rfl⟩⟩
  | inr es =>
    exact (verify_fine bk off xs.length cap _ _ _ _ _ _ W h1 h2 hbk hst hno (fun i hi => hf _ (nth_mem hi)) es hg).mono fun e W' h => by
      exact ⟨_, h.1, _, _, _, 0, rfl, h.2, Or.inl ⟨rfl, rfl⟩, Or.inr ⟨es, rfl, rfl, rfl, rfl, rfl⟩⟩
theorem dead_long (a : Option Addr) (len cap : Nat) (oa : Option Addr) (olen ocap : Nat) (n : Int) (w : World) (h : 60 < len ∨ 60 < olen) :
    Calls Tryz.prog 6 #[.slice a len cap, .slice oa olen ocap, vI vK n] w fun e w' => e = .returned (.bool true) ∧ Below w.heap.size w w' := by
  by_cases h1 : 60 < len
  · have z1 : decide (60 < (len : Int)) = true := by simp; omega
    go_enter Tryz.func6, Tryz.ntmps6
    go_wp2
    go_ret
    exact ⟨rfl, bF _ _⟩
  · have z1 : decide (60 < (len : Int)) = false := by simp; omega
    have z2 : decide (60 < (olen : Int)) = true := by simp; omega
    go_enter Tryz.func6, Tryz.ntmps6
    go_wp2
    go_ret
    exact ⟨rfl, bF _ _⟩
theorem dead_wrong (a : Option Addr) (len cap : Nat) (oa : Option Addr) (olen ocap : Nat) (n : Int) (w : World) (h1 : ¬ 60 < len) (h2 : ¬ 60 < olen)
    (HLET : Hid (∀ W : World, Below w.heap.size w W → Calls Tryz.prog 17 #[] W fun e w' => e = .returned (.bool true) ∧ Below W.heap.size W w'))
    (HVER : Hid (∀ W : World, Below w.heap.size w W → Calls Tryz.prog 16 #[.slice a len cap] W fun e w' => ∃ t u, e = .returned (.tuple #[.agg #[vI vK 0, vI vK 0], .iface t u]) ∧ Below W.heap.size W w'))
    (HCH : Hid (∀ W : World, Below w.heap.size w W → Calls Tryz.prog 18 #[.slice a len cap] W fun e w' => ∃ t u, e = .returned (.iface t u) ∧ Below W.heap.size W w')) :
    Calls Tryz.prog 6 #[.slice a len cap, .slice oa olen ocap, vI vK n] w fun e w' => e = .returned (.bool true) ∧ Below w.heap.size w w' := by
  have z1 : decide (60 < (len : Int)) = false := by simp; omega
  have z2 : decide (60 < (olen : Int)) = false := by simp; omega
  clear h1 h2
  go_enter Tryz.func6, Tryz.ntmps6
  go_wp2_with (first
    | (go_at_call 17; go_must (refine (HLET.out _ (bF _ _)).mono ?_; rintro e w1 ⟨rfl, hb1⟩))
    | (go_at_call 16; go_must (refine (HVER.out _ hb1).mono ?_; rintro e w2 ⟨t, u, rfl, hb2⟩; have hb2' := hb1.trans (hb2.mono hb1.size); have hb3 : Below w.heap.size w (w2.alloc (.cells #[vI vK 0, vI vK 0] 43)) := hb2'.alloc hb2'.size _))
    | (go_at_call 18; go_must (refine (HCH.out _ hb3).mono ?_; rintro e w4 ⟨t', u', rfl, hb4⟩))
    | fail)
  go_ret
  exact ⟨rfl, hb3.trans (hb4.mono hb3.size)⟩
theorem dead_all (he : ∀ w, ex.holds w → ErrTabs w) (hu : ∀ w, ex.holds w → Lib.Utf8Tabs 7 8 w) (a : Option Addr) (len cap : Nat) (oa : Option Addr) (olen ocap : Nat) (n : Int) (w : World) (hs : IsStepsF w a len) (ho : IsStepsF w oa olen) (hT0 : Tabs ex w) (hg : HandleAt w) (hn : In64 n) :
    Calls Tryz.prog 6 #[.slice a len cap, .slice oa olen ocap, vI vK n] w fun e w' => e = .returned (.bool true) ∧ Below w.heap.size w w' := by
  by_cases k1 : 60 < len ∨ 60 < olen
  · exact dead_long a len cap oa olen ocap n w k1
  have HL := fun (W : World) (hW : Below w.heap.size w W) => let_true he hu W (hT0.on hW hT0.room) (hg.later hW)
  by_cases k2 : len < 1 ∨ 200 < len
  · exact dead_wrong a len cap oa olen ocap n w (by omega) (by omega) HL (fun W hW => (verify_limit a len cap k2 W).mono fun e w' h => ⟨_, _, h.1, h.2⟩) (fun W hW => (opCheck_limit a len cap k2 W).mono fun e w' h => ⟨_, _, h.1, by rw [h.2]; exact bF _ _⟩)
  rcases hs with h0 | ⟨bk, off, C, D, S, O, N, R, rfl, hbk, hst, hf⟩
  · omega
  have hbk' : ∀ W, Below w.heap.size w W → bk < W.heap.size := fun W hW => Nat.lt_of_lt_of_le hbk hW.size
  rcases first_fault (faultAt len C D S R O N) len with h | ⟨i, hi, hno, hfa⟩
  · have hl := stepsOf_len len C D S R O N
    have hno' : ∀ j, j < (stepsOf len C D S R O N).length → faultOf (stepsOf len C D S R O N) j = 0 := fun j hj => by
      rw [hl] at hj
      have := h j hj
      unfold faultOf faultAt at *
      rw [hl]
      dsimp only
      rw [nth_steps hj]
      exact this
    have hin : ∀ {len : Nat} {C D S : Nat → Int} {R : Nat → Bool} {O N : Nat → Int}, (∀ i, i < len → In64 (O i) ∧ In64 (N i)) → ∀ x, x ∈ stepsOf len C D S R O N → In64 x.o ∧ In64 x.n := fun {len C D S R O N} hf x hx => by
      obtain ⟨i, hi, rfl⟩ := List.mem_map.mp hx
      exact hf i (List.mem_range.mp hi)
    rcases ho with h0 | ⟨bo, oo, C', D', S', O', N', R', rfl, hbo, hso, hfo⟩
    · refine dead_walk (F := fun es => joinTo (endAt es) es.length) (stepsOf len C D S R O N) [] bk off cap len 0 0 ocap olen oa n w ⟨hl, by omega, by omega, hno', hin hf, hbk, steps_list hst⟩ ⟨h0.symm, by omega, fun x hx => absurd hx (by simp), Or.inl h0⟩ hn hg HL (fun W b o m c xs a1 a2 a3 a4 a5 a6 a7 => verify_list a1 a2 a3 a4 a5 a6 a7)
    · refine dead_walk (F := fun es => joinTo (endAt es) es.length) (stepsOf len C D S R O N) (stepsOf olen C' D' S' R' O' N') bk off cap len bo oo ocap olen _ n w ⟨hl, by omega, by omega, hno', hin hf, hbk, steps_list hst⟩ ⟨stepsOf_len _ _ _ _ _ _ _, by omega, hin hfo, Or.inr ⟨rfl, hbo, steps_list hso⟩⟩ hn hg HL (fun W b o m c xs a1 a2 a3 a4 a5 a6 a7 => verify_list a1 a2 a3 a4 a5 a6 a7)
  · exact dead_wrong _ len cap oa olen ocap n w (by omega) (by omega) HL (fun W hW => (verify_wrong bk off len cap C D S O N R W (by omega) (by omega) (hbk' W hW) (hst.later hW hbk) i hi hno hfa).mono fun e w' hh => by obtain ⟨p, h1, h2, _⟩ := hh; exact ⟨_, _, h1, h2⟩)
      (fun W hW => (opCheck_bad hi hno hfa (hst.later hW hbk) (by omega) (by omega) (hbk' W hW)).mono fun e w' hh => by obtain ⟨p, h1, h2, _⟩ := hh; exact ⟨_, _, h1, h2⟩)
end Go.Proofs.YtednmkhdehlojaaGreatDoor
