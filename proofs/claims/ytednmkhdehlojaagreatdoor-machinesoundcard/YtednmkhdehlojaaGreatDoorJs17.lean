/-
  What asm.put does: it puts what a word tells into a part of a step that lies in memory, and says whether it tells such a thing; all else is as it was. Conditions: the tables lie in memory, the library's two errors are errors, the word is short. The words of a text, and what asm.cut returns: they, or the first five, if they are more; the world below is as it was. Conditions: the tables lie in memory, the text is short. A step as text: what asm.written returns is the name of the step's code and the words behind it, with a blank between; the world below is as it was. Conditions: the tables lie in memory, the code is one of the 28, numbers are of 64 bits, a call calls one of the three. What asm.cut returns: a text's words, or the first five, if they are more; the world below is as it was. Conditions: the tables lie in memory, the text is short. What asm.read returns: the step that a text tells, or that it tells none; the world below is as it was. Conditions: the tables lie in memory, the library's two errors are errors, the text is short. A range over a function whose iterator keeps its own state in a captured variable: the law for the caller, at an iterator that writes one box of its own between two rounds. Conditions: the caller's invariant does not speak of that box. What stands between semicolons, and the library's iterator over it. Conditions: the text is short. What stands between semicolons, and between blanks, in a text that was put together of clean words: those words.
-/
import Derived.Test.YtednmkhdehlojaaGreatDoorJs16
import Derived.RangeFuncBox
import Derived.RangeFuncWrites
import Derived.RangeFuncLeaves
import Derived.RangeFuncCalls
import Derived.Shelf.Abstract
import Derived.OwnWalkIn
import Derived.TacticsInMore
import Derived.LoopNIn
import Derived.LoopIn
import Derived.Maps.AppendAt
import Derived.Lib.QuoteLoop
import Derived.Lib.OthersKept
import Derived.Test.YtednmkhdehlojaaGreatDoorJs5
import Derived.RangeFuncNested
open Go.Value renaming int → vI
open Go.IntKind renaming i64 → vK
open Go.RowKit.Below renaming alloc → bA, setCell → bS, drew → bD, refl → bF
set_option maxHeartbeats 4000000
set_option maxRecDepth 1000000
namespace Go.Proofs.YtednmkhdehlojaaGreatDoor
open Go.ChangeShapes Go.WideShapes Go.ChangeAt Go.RowKit
variable {ex : Ext}

structure St where
  c : Int
  d : Int
  s : Int
  r : Bool
  o : Int
  n : Int
def St.cells (x : St) : Array Value := #[vI vK x.c, vI vK x.d, vI vK x.s, .bool x.r, vI vK x.o, vI vK x.n]
def StepIs (w : World) (b : Nat) (x : St) : Prop := w.heap[b]? = some (.cells x.cells 49 (0, 0))
theorem StepIs.lt {w : World} {b : Nat} {x : St} (h : StepIs w b x) : b < w.heap.size := (Array.getElem?_eq_some_iff.1 h).1
theorem StepIs.cell {w : World} {b : Nat} {x : St} (h : StepIs w b x) (i : Nat) : w.cell? ⟨b, i, none⟩ = x.cells[i]? := by
  have h' : w.heap[b]? = some (.cells x.cells 49 (0, 0)) := h
  simp [World.cell?, h']
theorem StepIs.frozen {w : World} {b : Nat} {x : St} (h : StepIs w b x) (i : Nat) : w.frozen? ⟨b, i, none⟩ = false := by
  have h' : w.heap[b]? = some (.cells x.cells 49 (0, 0)) := h
  simp [World.frozen?, h']
theorem StepIs.later {w w1 : World} {b : Nat} {x : St} (h : StepIs w b x) (hb : Below w.heap.size w w1) : StepIs w1 b x := (hb.block b h.lt).trans h
theorem StepIs.set {w : World} {b : Nat} {x y : St} (h : StepIs w b x) (i : Nat) (v : Value) (hy : x.cells.setIfInBounds i v = y.cells) : StepIs (w.setCell ⟨b, i, none⟩ v) b y := by
  have h' : w.heap[b]? = some (.cells x.cells 49 (0, 0)) := h
  unfold StepIs
  rw [← hy]
  simp [World.setCell, Array.getElem?_modify, h']
theorem grown_below {w w1 : World} (hb : Below w.heap.size w w1) (row : Option Nat) : w.grownBy w1 row := ⟨hb.os, hb.tape, hb.output, hb.size, fun k hk _ => hb.block k hk⟩
theorem grown_set {w w1 : World} {b : Nat} (h : w.grownBy w1 (some b)) (i : Nat) (v : Value) : w.grownBy (w1.setCell ⟨b, i, none⟩ v) (some b) :=
  ⟨h.os, h.tape, h.output, by show w.heap.size ≤ (w1.heap.modify b _).size; rw [Array.size_modify]; exact h.size, fun k hk hne => (Below.heap_setCell w1 ⟨b, i, none⟩ v k (fun e => hne (by rw [e]))).trans (h.block k hk hne)⟩
def St.put (x : St) (p : Nat) (b : ByteArray) : Bool × St :=
  if p = 100 then ((regOf b).isSome, { x with d := ((regOf b).getD 0 : Nat) })
  else if p = 115 then (if (regOf b).isSome then (true, { x with s := ((regOf b).getD 0 : Nat), r := true }) else ((numOf b).isSome, { x with s := 0, r := false, n := (numOf b).getD 0 }))
  else if p = 111 then ((numOf b).isSome, { x with o := (numOf b).getD 0 })
  else if p = 102 then ((placeOf b).isSome, { x with s := (((placeOf b).getD (0, 0)).1 : Nat), o := ((placeOf b).getD (0, 0)).2 })
  else if p = 116 then ((placeOf b).isSome, { x with d := (((placeOf b).getD (0, 0)).1 : Nat), o := ((placeOf b).getD (0, 0)).2 })
  else (true, { x with n := (callOf b : Nat) })
theorem placeV_eq (b : ByteArray) : placeV b = .tuple #[vI vK (((placeOf b).getD (0, 0)).1 : Nat), vI vK ((placeOf b).getD (0, 0)).2, .bool (placeOf b).isSome] := by
  unfold placeV
  cases placeOf b with
  | none => rfl
  | some x => rfl
theorem place_any' (he : ∀ w, ex.holds w → ErrTabs w) (b : ByteArray) (w : World) (hb : b.size ≤ 100000) (hT : Tabs ex w) :
    Calls Tryz.prog 93 #[.string b] w fun e w' => e = .returned (.tuple #[vI vK (((placeOf b).getD (0, 0)).1 : Nat), vI vK ((placeOf b).getD (0, 0)).2, .bool (placeOf b).isSome]) ∧ Below w.heap.size w w' := by
  rw [← placeV_eq]; exact place_any he b w hb hT
theorem grown_trans {w w1 w2 : World} {row : Option Nat} (h : w.grownBy w1 row) (k : w1.grownBy w2 row) : w.grownBy w2 row :=
  ⟨k.os.trans h.os, k.tape.trans h.tape, k.output.trans h.output, Nat.le_trans h.size k.size, fun i hi hne => (k.block i (Nat.lt_of_lt_of_le hi h.size) hne).trans (h.block i hi hne)⟩
theorem Tabs.on_grown {w w1 : World} {k : Nat} (h : Tabs ex w) (hg : w.grownBy w1 (some k)) (hk : 14 ≤ k) : Tabs ex w1 :=
  h.on (B := 14) ⟨hg.os, hg.tape, hg.output, hg.size, fun i hi => hg.block i (Nat.lt_of_lt_of_le hi h.room) (fun e => by have := Option.some.inj e; omega)⟩ (Nat.le_refl _)
section
variable {w : World} {k : Nat} {x : St}
theorem put_any (he : ∀ w, ex.holds w → ErrTabs w) (b : ByteArray) (hb : b.size ≤ 100000) (hkb : 14 ≤ k) (p : Nat) (hp : p = 100 ∨ p = 115 ∨ p = 111 ∨ p = 102 ∨ p = 116 ∨ p = 99) (hs : StepIs w k x) (hT : Tabs ex w) :
    Calls Tryz.prog 56 #[.pointer (some ⟨k, 0, none⟩), .int .i32 p, .string b] w fun e w' => e = .returned (.bool (x.put p b).1) ∧ w.grownBy w' (some k) ∧ StepIs w' k (x.put p b).2 := by
  unfold St.put
  rcases hp with rfl | rfl | rfl | rfl | rfl | rfl
  · rw [if_pos rfl]
    go_enter Tryz.func56, Tryz.ntmps56
    go_wp2_with (go_at_call 90; refine (register_any _ _ hT).mono ?_; rintro e w1 ⟨rfl, hb1⟩; have hs1 := hs.later hb1; have c0 := hs1.cell 1; have f0 := hs1.frozen 1; simp only [St.cells] at c0)
    go_ret
    exact ⟨rfl, grown_set (grown_below hb1 _) _ _, hs1.set _ _ rfl⟩
  · rw [if_neg (by decide), if_pos rfl]
    cases hr : regOf b with
    | some r =>
      go_enter Tryz.func56, Tryz.ntmps56
      go_wp2_with (go_at_call 90; refine (register_any _ _ hT).mono ?_; rintro e w1 ⟨rfl, hb1⟩; have hs1 := hs.later hb1; have c2 := hs1.cell 2; have f2 := hs1.frozen 2; have c3 := hs1.cell 3; have f3 := hs1.frozen 3; simp only [St.cells] at c2 c3)
      go_ret
      exact ⟨rfl, grown_set (grown_set (grown_below hb1 _) _ _) _ _, (hs1.set (y := { x with s := (r : Int) }) 2 _ rfl).set 3 _ rfl⟩
    | none =>
      go_enter Tryz.func56, Tryz.ntmps56
      go_wp2_with (first
        | (go_at_call 90; refine (register_any _ _ hT).mono ?_; rintro e w1 ⟨rfl, hb1⟩; have hs1 := hs.later hb1; have c2 := hs1.cell 2; have f2 := hs1.frozen 2; have c3 := hs1.cell 3; have f3 := hs1.frozen 3; simp only [St.cells] at c2 c3; have hs1' := (hs1.set (y := { x with s := 0 }) 2 (vI vK 0) rfl).set (y := { x with s := 0, r := false }) 3 (.bool false) rfl; have hg1 := grown_set (grown_set (grown_below hb1 (some k)) 2 (vI vK 0)) 3 (.bool false); have hT1 : Tabs ex _ := hT.on_grown hg1 hkb)
        | (go_at_call 91; refine (number_any he _ _ hb hT1).mono ?_; rintro e w2 ⟨rfl, hb2⟩; have hs2 := hs1'.later hb2; have c5 := hs2.cell 5; have f5 := hs2.frozen 5; simp only [St.cells] at c5; have hg2 := grown_trans hg1 (grown_below hb2 (some k))))
      go_ret
      exact ⟨rfl, grown_set hg2 _ _, hs2.set 5 _ rfl⟩
  · rw [if_neg (by decide), if_neg (by decide), if_pos rfl]
    go_enter Tryz.func56, Tryz.ntmps56
    go_wp2_with (go_at_call 92; refine (offset_any he _ _ hb hT).mono ?_; rintro e w1 ⟨rfl, hb1⟩; have hs1 := hs.later hb1; have c4 := hs1.cell 4; have f4 := hs1.frozen 4; simp only [St.cells] at c4)
    go_ret
    exact ⟨rfl, grown_set (grown_below hb1 _) _ _, hs1.set 4 _ rfl⟩
  · rw [if_neg (by decide), if_neg (by decide), if_neg (by decide), if_pos rfl]
    go_enter Tryz.func56, Tryz.ntmps56
    go_wp2_with (go_at_call 93; refine (place_any' he _ _ hb hT).mono ?_; rintro e w1 ⟨rfl, hb1⟩; have hs1 := hs.later hb1; have c2 := hs1.cell 2; have f2 := hs1.frozen 2; have c4 := hs1.cell 4; have f4 := hs1.frozen 4; simp only [St.cells] at c2 c4)
    go_ret
    exact ⟨rfl, grown_set (grown_set (grown_below hb1 _) _ _) _ _, (hs1.set (y := { x with s := (((placeOf b).getD (0, 0)).1 : Nat) }) 2 _ rfl).set 4 _ rfl⟩
  · rw [if_neg (by decide), if_neg (by decide), if_neg (by decide), if_neg (by decide), if_pos rfl]
    go_enter Tryz.func56, Tryz.ntmps56
    go_wp2_with (go_at_call 93; refine (place_any' he _ _ hb hT).mono ?_; rintro e w1 ⟨rfl, hb1⟩; have hs1 := hs.later hb1; have c1 := hs1.cell 1; have f1 := hs1.frozen 1; have c4 := hs1.cell 4; have f4 := hs1.frozen 4; simp only [St.cells] at c1 c4)
    go_ret
    exact ⟨rfl, grown_set (grown_set (grown_below hb1 _) _ _) _ _, (hs1.set (y := { x with d := (((placeOf b).getD (0, 0)).1 : Nat) }) 1 _ rfl).set 4 _ rfl⟩
  · rw [if_neg (by decide), if_neg (by decide), if_neg (by decide), if_neg (by decide), if_neg (by decide)]
    have c5 := hs.cell 5
    have f5 := hs.frozen 5
    simp only [St.cells] at c5
    go_enter Tryz.func56, Tryz.ntmps56
    go_wp2_with (go_at_call 94; refine (callOf_any _ _ hT).mono ?_; rintro e w1 ⟨rfl, rfl⟩)
    go_ret
    exact ⟨rfl, grown_set (grown_below (bF _ _) _) _ _, hs.set 5 _ rfl⟩
end
end Go.Proofs.YtednmkhdehlojaaGreatDoor
namespace Go.Proofs.YtednmkhdehlojaaGreatDoor
open Go.ChangeShapes Go.WideShapes Go.ChangeAt Go.RowKit Go.Shelf
variable {ex : Ext}
attribute [local go_sem] Oper.semAt_some

def lastOf (s : ByteArray) : Option Nat → List ByteArray
  | some a => [s.extract a s.size]
  | none => []
def fieldsFrom (s : ByteArray) : Nat → Option Nat → Nat → List ByteArray
  | 0, st, _ => lastOf s st
  | f + 1, st, i =>
    if i < s.size then
      if (Lib.decodeGo (s.extract i s.size)).1 = 32 then
        match st with
        | some a => s.extract a i :: fieldsFrom s f none (i + (Lib.decodeGo (s.extract i s.size)).2)
        | none => fieldsFrom s f none (i + (Lib.decodeGo (s.extract i s.size)).2)
      else fieldsFrom s f (some (st.getD i)) (i + (Lib.decodeGo (s.extract i s.size)).2)
    else lastOf s st
def fieldsOf (s : ByteArray) : List ByteArray := fieldsFrom s s.size none 0
theorem decode_wide (s : ByteArray) (i : Nat) (h : i < s.size) : 1 ≤ (Lib.decodeGo (s.extract i s.size)).2 := by
  have hz : (s.extract i s.size).size = s.size - i := by rw [ByteArray.size_extract]; omega
  unfold Lib.decodeGo
  rw [if_neg (by omega)]
  by_cases ha : ((s.extract i s.size)[0]'(by omega)).toNat < 128
  · rw [decode_ascii _ 0 (by omega) ha]; exact Nat.le_refl _
  · exact (decode_high _ 0 (by omega) (by omega)).2
abbrev Short := { b : ByteArray // b.size ≤ 100000 }
theorem decode_narrow (s : ByteArray) (i : Nat) (h : i < s.size) : i + (Lib.decodeGo (s.extract i s.size)).2 ≤ s.size := by
  have hz : (s.extract i s.size).size = s.size - i := by rw [ByteArray.size_extract]; omega
  unfold Lib.decodeGo
  rw [if_neg (by omega)]
  have := Lib.width_le (s.extract i s.size) (by omega)
  omega
theorem decode_rune (s : ByteArray) (i : Nat) : (Lib.decodeGo (s.extract i s.size)).1 ≤ 2147483647 := by
  unfold Lib.decodeGo
  split
  · decide
  · exact decode_le _ 0
def startV : Option Nat → Int
  | some a => a
  | none => -1
theorem fields_blank {s : ByteArray} {f i : Nat} (h : i < s.size) (hr : (Lib.decodeGo (s.extract i s.size)).1 = 32) (a : Nat) : fieldsFrom s (f + 1) (some a) i = s.extract a i :: fieldsFrom s f none (i + (Lib.decodeGo (s.extract i s.size)).2) := by
  rw [fieldsFrom, if_pos h, if_pos hr]
theorem fields_blank_none {s : ByteArray} {f i : Nat} (h : i < s.size) (hr : (Lib.decodeGo (s.extract i s.size)).1 = 32) : fieldsFrom s (f + 1) none i = fieldsFrom s f none (i + (Lib.decodeGo (s.extract i s.size)).2) := by
  rw [fieldsFrom, if_pos h, if_pos hr]
theorem fields_word {s : ByteArray} {f i : Nat} (h : i < s.size) (hr : (Lib.decodeGo (s.extract i s.size)).1 ≠ 32) (st : Option Nat) : fieldsFrom s (f + 1) st i = fieldsFrom s f (some (st.getD i)) (i + (Lib.decodeGo (s.extract i s.size)).2) := by
  cases st <;> rw [fieldsFrom, if_pos h, if_neg hr]
theorem fields_end {s : ByteArray} {f i : Nat} (h : ¬ i < s.size) (st : Option Nat) : fieldsFrom s f st i = lastOf s st := by
  cases f with
  | zero => rfl
  | succ f => cases st <;> rw [fieldsFrom, if_neg h]
theorem piece_short {s : ByteArray} (hs : s.size ≤ 100000) (a b : Nat) : (s.extract a b).size ≤ 100000 := by rw [ByteArray.size_extract]; omega
theorem abide_call {B : Nat} {J : List Short → World → Prop} (h : AbidesFrom B J) {pre : List Short} {W W1 : World} (hJ : J pre W) (hb : Below W.heap.size W W1) : J pre W1 :=
  h pre W W1 none hJ (grown_below hb none) (fun r e => by cases e)
structure KeepsTwo (n₀ b1 b2 : Nat) (W W' : World) : Prop where
  bel : Below n₀ W W'
  one : W'.heap[b1]? = W.heap[b1]?
  two : W'.heap[b2]? = W.heap[b2]?
theorem KeepsTwo.trans {n₀ b1 b2 : Nat} {A B C : World} (h : KeepsTwo n₀ b1 b2 A B) (k : KeepsTwo n₀ b1 b2 B C) : KeepsTwo n₀ b1 b2 A C := ⟨h.bel.trans k.bel, k.one.trans h.one, k.two.trans h.two⟩
theorem KeepsTwo.put {n₀ b1 b2 : Nat} {w : World} (hn : n₀ ≤ w.heap.size) (h1 : b1 < w.heap.size) (h2 : b2 < w.heap.size) (W : World) (l : Nat) (o o' : Obj) (hl : w.heap.size ≤ l) (h : W.heap[l]? = some o) (hc : o.isCells = false) (hw : o.isWalk = false) : KeepsTwo n₀ b1 b2 W (W.putObj l o') :=
  ⟨belowK_b hn W l o o' hl h hc hw, World.putObj_heap_other (by omega), World.putObj_heap_other (by omega)⟩
theorem piece_run (s : ByteArray) (x k : Nat) (hx : x < k) (hk : k ≤ s.size) (w : World) : (Instr.slice 9 (.string s) (some (vI vK x)) (some (vI vK k)) none).run Tryz.prog w = .ok (.string (s.extract x k)) w := by
  exact run_slice_string (P := Tryz.prog) w 9 s .i64 .i64 x k Tryz.underlying9 (by omega) (by omega) (by omega)
theorem blank_any (r : Int) (w : World) : Calls Tryz.prog 88 #[.int .i32 r] w fun e w' => e = .returned (.bool (r == 32)) ∧ w' = w := by
  go_enter Tryz.func88, Tryz.ntmps88
  go_wp2
  go_ret
  exact ⟨rfl, rfl⟩
theorem fields1_in (hu : ∀ w, ex.holds w → Lib.Utf8Tabs 7 8 w) (n : Nat) (hn : 1 ≤ n) (l Bs Bf n₀ : Nat) (hn₀ : 14 ≤ n₀) (s : ByteArray) (hs : s.size ≤ 100000) (J Jx : List Short → World → Prop) (W : World)
    (hJ : AbidesFrom W.heap.size J)
    (hY : ∀ (pre : List Short) (x : Short) W, J pre W → pre.length < (fieldsOf s).length → YieldAt Fence.wide (n - 1) Tryz.prog l #[.string x.1] W fun e W' =>
      (e = .returned (.bool true) ∧ J (pre ++ [x]) W' ∧ KeepsTwo n₀ Bs Bf W W') ∨ (e = .returned (.bool false) ∧ Jx (pre ++ [x]) W'))
    (hcs : W.cell? ⟨Bs, 0, none⟩ = some (.string s)) (hcf : W.cell? ⟨Bf, 0, none⟩ = some (.func (.func 88) #[] #[])) (hT : Tabs ex W) (h0 : J [] W) :
    CallsIn Fence.wide n Tryz.prog 131 #[.func (.yield l) #[] #[], .pointer (some ⟨Bs, 0, none⟩), .pointer (some ⟨Bf, 0, none⟩)] W fun e W' => (∃ v, e = .returned v) ∧
      ((∃ ys : List Short, ys.map (·.1) = fieldsOf s ∧ J ys W') ∨ (∃ pre : List Short, pre.map (·.1) <+: fieldsOf s ∧ Jx pre W')) := by
  refine callsIn_of_wp Tryz.func131 rfl trivial ?_ rfl
  simp only [Tryz.ntmps131, List.size_toArray, List.length_cons, List.length_nil, Nat.reduceAdd, Nat.reduceSub, Array.replicate_succ, Array.replicate_zero, List.push_toArray, List.append_toArray, List.nil_append, List.cons_append]
  have hf1 : Fence.wide.fn 86 := trivial
  have hf2 : Fence.wide.fn 88 := trivial
  gi_wp2
  gi_loopw [4, 5] (fun st i wr => ∃ (pre : List Short) (a : Option Nat) (k fuel : Nat), i = vI vK k ∧ st = vI vK (startV a) ∧ (∀ x, a = some x → x < k) ∧ k ≤ s.size ∧ pre.map (·.1) ++ fieldsFrom s fuel a k = fieldsOf s ∧ s.size ≤ k + fuel ∧ J pre wr ∧ Tabs ex wr
      ∧ wr.cell? ⟨Bs, 0, none⟩ = some (.string s) ∧ wr.cell? ⟨Bf, 0, none⟩ = some (.func (.func 88) #[] #[])) (fun _ i _ => s.size - (intOf i).toNat)
  case atStart => exact ⟨[], none, 0, s.size, rfl, rfl, (fun x h => by cases h), Nat.zero_le _, rfl, by omega, h0, hT, hcs, hcf⟩
  case round =>
    obtain ⟨pre, a, k, fuel, rfl, rfl, ha, hk, hacc, hfu, hJr, hTr, hcs', hcf'⟩ := hrel
    by_cases hlt : k < s.size
    · obtain ⟨f, rfl⟩ : ∃ f, fuel = f + 1 := ⟨fuel - 1, by omega⟩
      have hz1 := decode_wide s k hlt
      have hz2 := decode_narrow s k hlt
      have hr2 := decode_rune s k
      by_cases hr : (Lib.decodeGo (s.extract k s.size)).1 = 32
      · have hq : (((Lib.decodeGo (s.extract k s.size)).1 : Int) == 32) = true := by simp [hr]
        cases a with
        | some x =>
          have hx : x < k := ha x rfl
          rw [fields_blank hlt hr] at hacc
          have HA : Hid (pre.map (·.1) ++ s.extract x k :: fieldsFrom s f none (k + (Lib.decodeGo (s.extract k s.size)).2) = fieldsOf s) := hacc
          have hlen : pre.length < (fieldsOf s).length := by rw [← hacc]; simp
          have hsl := fun w => piece_run s x k hx hk w
          clear hacc hr ha
          simp only [startV]
          gi_wp2_with (first
          | (gi_at_call 86; refine (callsIn_wide.2 (Tryz.utf8_DecodeRuneInString _ _ (hu _ hTr.ext))).mono ?_; rintro e w1 ⟨rfl, hb1⟩; have hJ1 := abide_call hJ hJr hb1; have hT1 : Tabs ex w1 := hTr.on hb1 hTr.room; have hcs1 : w1.cell? ⟨Bs, 0, none⟩ = some (.string s) := (hb1.cell (p := ⟨Bs, 0, none⟩) (Lib.lt_of_cell hcs')).trans hcs'; have hcf1 : w1.cell? ⟨Bf, 0, none⟩ = some (.func (.func 88) #[] #[]) := (hb1.cell (p := ⟨Bf, 0, none⟩) (Lib.lt_of_cell hcf')).trans hcf'; obtain ⟨fn, tmps, assign, body, hy, hR⟩ := hY pre ⟨s.extract x k, piece_short hs _ _⟩ w1 hJ1 hlen; dsimp only at hy)
          | (gi_at_call 88; refine (callsIn_wide.2 (blank_any _ _)).mono ?_; rintro e w2 ⟨rfl, rfl⟩))
          refine hR.mono ?_
          rintro e W3 (⟨rfl, hJ3, hk3⟩ | ⟨rfl, hJx3⟩)
          · have hcs3 : W3.cell? ⟨Bs, 0, none⟩ = some (.string s) := (World.cell?_of_block (a := ⟨Bs, 0, none⟩) hk3.one).trans hcs1
            have hcf3 : W3.cell? ⟨Bf, 0, none⟩ = some (.func (.func 88) #[] #[]) := (World.cell?_of_block (a := ⟨Bf, 0, none⟩) hk3.two).trans hcf1
            have hT3 := hT1.on hk3.bel hn₀
            gi_wp2
            go_roundw
            case rel => exact ⟨pre ++ [⟨s.extract x k, piece_short hs _ _⟩], none, k + (Lib.decodeGo (s.extract k s.size)).2, f, by go_num, rfl, (fun x h => by cases h), hz2, by rw [List.map_append, List.append_assoc]; exact HA.out, by omega, hJ3, hT3, hcs3, hcf3⟩
            case measure => simp [intOf]; omega
          · gi_wp2
            refine bodyPost_ret (results_none rfl _ _ _) rfl ?_
            exact ⟨⟨_, rfl⟩, .inr ⟨_, ⟨fieldsFrom s f none (k + (Lib.decodeGo (s.extract k s.size)).2), by rw [List.map_append, List.append_assoc]; exact HA.out⟩, hJx3⟩⟩
        | none =>
          rw [fields_blank_none hlt hr] at hacc
          have HA : Hid (pre.map (·.1) ++ fieldsFrom s f none (k + (Lib.decodeGo (s.extract k s.size)).2) = fieldsOf s) := hacc
          clear hacc hr ha
          simp only [startV]
          gi_wp2_with (first
          | (gi_at_call 86; refine (callsIn_wide.2 (Tryz.utf8_DecodeRuneInString _ _ (hu _ hTr.ext))).mono ?_; rintro e w1 ⟨rfl, hb1⟩; have hJ1 := abide_call hJ hJr hb1; have hT1 : Tabs ex w1 := hTr.on hb1 hTr.room; have hcs1 : w1.cell? ⟨Bs, 0, none⟩ = some (.string s) := (hb1.cell (p := ⟨Bs, 0, none⟩) (Lib.lt_of_cell hcs')).trans hcs'; have hcf1 : w1.cell? ⟨Bf, 0, none⟩ = some (.func (.func 88) #[] #[]) := (hb1.cell (p := ⟨Bf, 0, none⟩) (Lib.lt_of_cell hcf')).trans hcf')
          | (gi_at_call 88; refine (callsIn_wide.2 (blank_any _ _)).mono ?_; rintro e w2 ⟨rfl, rfl⟩))
          go_roundw
          case rel => exact ⟨pre, none, k + (Lib.decodeGo (s.extract k s.size)).2, f, by go_num, rfl, (fun x h => by cases h), hz2, HA.out, by omega, hJ1, hT1, hcs1, hcf1⟩
          case measure => simp [intOf]; omega
      · have hq : (((Lib.decodeGo (s.extract k s.size)).1 : Int) == 32) = false := by simp; omega
        rw [fields_word hlt hr] at hacc
        cases a with
        | some x =>
          have hx : x < k := ha x rfl
          have HA : Hid (pre.map (·.1) ++ fieldsFrom s f (some x) (k + (Lib.decodeGo (s.extract k s.size)).2) = fieldsOf s) := hacc
          clear hacc hr ha
          simp only [startV]
          gi_wp2_with (first
          | (gi_at_call 86; refine (callsIn_wide.2 (Tryz.utf8_DecodeRuneInString _ _ (hu _ hTr.ext))).mono ?_; rintro e w1 ⟨rfl, hb1⟩; have hJ1 := abide_call hJ hJr hb1; have hT1 : Tabs ex w1 := hTr.on hb1 hTr.room; have hcs1 : w1.cell? ⟨Bs, 0, none⟩ = some (.string s) := (hb1.cell (p := ⟨Bs, 0, none⟩) (Lib.lt_of_cell hcs')).trans hcs'; have hcf1 : w1.cell? ⟨Bf, 0, none⟩ = some (.func (.func 88) #[] #[]) := (hb1.cell (p := ⟨Bf, 0, none⟩) (Lib.lt_of_cell hcf')).trans hcf')
          | (gi_at_call 88; refine (callsIn_wide.2 (blank_any _ _)).mono ?_; rintro e w2 ⟨rfl, rfl⟩))
          go_roundw
          case rel => exact ⟨pre, some x, k + (Lib.decodeGo (s.extract k s.size)).2, f, by go_num, rfl, (fun y h => by cases h; omega), hz2, HA.out, by omega, hJ1, hT1, hcs1, hcf1⟩
          case measure => simp [intOf]; omega
        | none =>
          have HA : Hid (pre.map (·.1) ++ fieldsFrom s f (some k) (k + (Lib.decodeGo (s.extract k s.size)).2) = fieldsOf s) := hacc
          clear hacc hr ha
          simp only [startV]
          gi_wp2_with (first
          | (gi_at_call 86; refine (callsIn_wide.2 (Tryz.utf8_DecodeRuneInString _ _ (hu _ hTr.ext))).mono ?_; rintro e w1 ⟨rfl, hb1⟩; have hJ1 := abide_call hJ hJr hb1; have hT1 : Tabs ex w1 := hTr.on hb1 hTr.room; have hcs1 : w1.cell? ⟨Bs, 0, none⟩ = some (.string s) := (hb1.cell (p := ⟨Bs, 0, none⟩) (Lib.lt_of_cell hcs')).trans hcs'; have hcf1 : w1.cell? ⟨Bf, 0, none⟩ = some (.func (.func 88) #[] #[]) := (hb1.cell (p := ⟨Bf, 0, none⟩) (Lib.lt_of_cell hcf')).trans hcf')
          | (gi_at_call 88; refine (callsIn_wide.2 (blank_any _ _)).mono ?_; rintro e w2 ⟨rfl, rfl⟩))
          go_roundw
          case rel => exact ⟨pre, some k, k + (Lib.decodeGo (s.extract k s.size)).2, f, by go_num, rfl, (fun y h => by cases h; omega), hz2, HA.out, by omega, hJ1, hT1, hcs1, hcf1⟩
          case measure => simp [intOf]; omega
    · have hkk : k = s.size := by omega
      rw [fields_end hlt] at hacc
      cases a with
      | some x =>
        have hx : x < k := ha x rfl
        have HA : Hid (pre.map (·.1) ++ [s.extract x s.size] = fieldsOf s) := hacc
        have hlen : pre.length < (fieldsOf s).length := by rw [← hacc]; simp [lastOf]
        clear hacc ha
        obtain ⟨fn, tmps, assign, body, hy, hR⟩ := hY pre ⟨s.extract x s.size, piece_short hs _ _⟩ wr hJr hlen
        dsimp only at hy
        simp only [startV]
        gi_wp2
        refine hR.mono ?_
        rintro e W3 (⟨rfl, hJ3, hk3⟩ | ⟨rfl, hJx3⟩)
        · gi_wp2
          go_end0
          exact ⟨⟨_, rfl⟩, .inl ⟨_, by rw [List.map_append]; exact HA.out, hJ3⟩⟩
        · gi_wp2
          go_end0
          exact ⟨⟨_, rfl⟩, .inr ⟨_, ⟨[], by rw [List.map_append, List.append_nil]; exact HA.out⟩, hJx3⟩⟩
      | none =>
        have HA : Hid (pre.map (·.1) = fieldsOf s) := by
          have h2 : pre.map (·.1) ++ [] = fieldsOf s := hacc
          rw [List.append_nil] at h2; exact h2
        clear hacc ha
        simp only [startV]
        gi_wp2
        go_end0
        exact ⟨⟨_, rfl⟩, .inl ⟨_, HA.out, hJr⟩⟩
end Go.Proofs.YtednmkhdehlojaaGreatDoor
namespace Go.Proofs.YtednmkhdehlojaaGreatDoor
open Go.ChangeShapes Go.WideShapes Go.ChangeAt Go.RowKit
variable {ex : Ext}

theorem own_from {w : World} {base n : Nat} {e : TypeId} {v : Value} {xs : List Value} (h : w.ownsRow base e 1 v n xs) : ∀ k, v.ownBlock = some k → base ≤ k := by
  intro k hk
  rcases h.2 with ⟨rfl, _⟩ | ⟨g, cap, cur, rfl, hb, _⟩
  · simp [Value.ownBlock] at hk
  · simp [Value.ownBlock] at hk; omega
theorem own_shape {w : World} {base n : Nat} {e : TypeId} {v : Value} {xs : List Value} (h : w.ownsRow base e 1 v n xs) (hn : 0 < n) : ∃ g cap, v = .slice (some ⟨g, 0, none⟩) n cap := by
  rcases h.2 with ⟨_, rfl⟩ | ⟨g, cap, _, rfl, _⟩
  · omega
  · exact ⟨g, cap, rfl⟩
theorem Tryz.infoS : (Tryz.prog.info? 9).map (fun i => (i.zero, i.size, i.bytes)) = some (some (.string ⟨#[]⟩), 1, 16) := by kernel_rfl

theorem parts_few (c : Int) : (partsL c).length ≤ 3 := by
  unfold partsL; repeat' split
  all_goals decide
theorem parts_ascii (c : Int) : ∀ x ∈ partsL c, x = 100 ∨ x = 115 ∨ x = 111 ∨ x = 102 ∨ x = 116 ∨ (x = 99 ∧ c = 27) := by
  unfold partsL
  repeat' split
  all_goals simp_all
theorem partsB_get (c : Int) (k : Nat) (hk : k < (partsB c).size) : (partsB c)[k]'hk = (partsL c)[k]'(by simpa [partsB, ByteArray.size] using hk) := rfl
theorem partsB_size (c : Int) : (partsB c).size = (partsL c).length := by
  show (partsL c).toArray.size = _
  rw [List.size_toArray]
end Go.Proofs.YtednmkhdehlojaaGreatDoor
namespace Go.Proofs.YtednmkhdehlojaaGreatDoor
open Go.ChangeShapes Go.WideShapes Go.ChangeAt Go.RowKit Go.Shelf
variable {ex : Ext}
attribute [local go_sem] Oper.semAt_some

theorem collected {W w1 : World} {B n₁ : Nat} {t e : TypeId} {v v' : Value} {k m : Nat} {xs ys : List Value} {tmp : Obj} (hv : Boxed W B t v) (hB : B < n₁) (hn₁ : n₁ ≤ W.heap.size) (hrow : W.ownsRow n₁ e 1 v k xs)
    (hown' : w1.ownsRow n₁ e 1 v' m ys) (hgrow : (W.alloc tmp).grownBy w1 v.ownBlock) :
    Boxed w1 B t v ∧ Boxed (w1.setCell ⟨B, 0, none⟩ v') B t v' ∧ (w1.setCell ⟨B, 0, none⟩ v').ownsRow n₁ e 1 v' m ys ∧ KeepsOthers W (w1.setCell ⟨B, 0, none⟩ v') ∧ Below B W (w1.setCell ⟨B, 0, none⟩ v')
      ∧ ∀ j, j < n₁ → j ≠ B → (w1.setCell ⟨B, 0, none⟩ v').heap[j]? = W.heap[j]? := by
  have hf := own_from hrow
  have hk : ∀ j, j < n₁ → w1.heap[j]? = W.heap[j]? := fun j hj => (hgrow.block j (by simp; omega) (fun e => by have := hf j e.symm; omega)).trans (Below.heap_alloc _ _ _ (by omega))
  have hb1 : Boxed w1 B t v := (hk B hB).trans hv
  refine ⟨hb1, hb1.set v', ownsRow_setCell_below hown' hB v', ?_, ?_, fun j hj hne => (Below.heap_setCell w1 ⟨B, 0, none⟩ v' j hne).trans (hk j hj)⟩
  · refine ((KeepsOthers.alloc W tmp).trans (KeepsOthers.of_grownBy hgrow fun j o e ho => ?_)).trans (KeepsOthers.setCell _ _ _)
    rcases (hrow.alloc tmp).2 with ⟨rfl, _⟩ | ⟨g, cap, cur, rfl, _, hg, _⟩
    · simp [Value.ownBlock] at e
    · simp [Value.ownBlock] at e
      subst e; rw [hg] at ho; cases ho; rfl
  · exact (((Below.refl B W).alloc (by omega) tmp).grown hgrow (by simp; omega) (fun j e => by have := hf j e; omega)).setCell (Nat.le_refl _) _
theorem ownFrom_size {β : Type} (B N : Nat) : OwnFrom B (fun (_ : β) W => N ≤ W.heap.size) := fun _ _ _ _ hs hg _ => Nat.le_trans hs hg.size
theorem own_lower {w : World} {base base' n : Nat} {e : TypeId} {v : Value} {xs : List Value} (h : w.ownsRow base e 1 v n xs) (hb : base' ≤ base) : w.ownsRow base' e 1 v n xs := by
  refine ⟨h.1, ?_⟩
  rcases h.2 with hn | ⟨g, cap, cur, rfl, hg, rest⟩
  · exact .inl hn
  · exact .inr ⟨g, cap, cur, rfl, Nat.le_trans hb hg, rest⟩
theorem taken {s : ByteArray} {ys : List Short} (h : ys.map (·.1) <+: fieldsOf s) (h5 : ys.length = 5 ∨ (ys.length ≤ 5 ∧ ys.map (·.1) = fieldsOf s)) : (fieldsOf s).take 5 = ys.map (·.1) := by
  rcases h5 with h5 | ⟨h5, e⟩
  · obtain ⟨r, hr⟩ := h
    have hl : (ys.map (·.1)).length = 5 := by simpa using h5
    rw [← hr, ← hl, List.take_left']
    rfl
  · rw [← e, List.take_of_length_le (by simpa using h5)]
theorem own_taken {W : World} {base : Nat} {e : TypeId} {v : Value} {s : ByteArray} {ys : List Short} (h : (fieldsOf s).take 5 = ys.map (·.1)) (hrow : W.ownsRow base e 1 v ys.length (ys.map fun x => Value.string x.1)) : W.ownsRow base e 1 v ((fieldsOf s).take 5).length (((fieldsOf s).take 5).map Value.string) := by
  rw [h]
  simpa using hrow
theorem fieldsSeq_any (s : ByteArray) (w : World) : Calls Tryz.prog 87 #[.string s, .func (.func 88) #[] #[]] w fun e w' =>
    e = .returned (.func (.func 131) #[] #[.pointer (some ⟨w.heap.size, 0, none⟩), .pointer (some ⟨w.heap.size + 1, 0, none⟩)]) ∧ w' = (w.alloc (.cells #[.string s] 9)).alloc (.cells #[.func (.func 88) #[] #[]] 181) := by
  go_enter Tryz.func87, Tryz.ntmps87
  go_wp2
  go_ret
  exact ⟨rfl, rfl⟩
theorem fields_stops (hu : ∀ w, ex.holds w → Lib.Utf8Tabs 7 8 w) (n : Nat) (hn : 1 ≤ n) (Bs Bf n₀ : Nat) (hn₀ : 14 ≤ n₀) (s : ByteArray) (hs : s.size ≤ 100000) (w : World) (hBs : Bs < w.heap.size) (hBf : Bf < w.heap.size)
    (hcs : w.cell? ⟨Bs, 0, none⟩ = some (.string s)) (hcf : w.cell? ⟨Bf, 0, none⟩ = some (.func (.func 88) #[] #[])) (hT : Tabs ex w) :
    SeqStopsK Fence.wide n Tryz.prog 131 #[.pointer (some ⟨Bs, 0, none⟩), .pointer (some ⟨Bf, 0, none⟩)] (fun x : Short => #[Value.string x.1]) (KeepsTwo n₀ Bs Bf) (fun ys => ys.map (·.1) = fieldsOf s) (fun pre => pre.map (·.1) <+: fieldsOf s) (fieldsOf s).length w := fun l J Jx W hW hJ _ hY h0 =>
  fields1_in hu n hn l Bs Bf n₀ hn₀ s hs J Jx W hJ hY ((hW.cell (p := ⟨Bs, 0, none⟩) hBs).trans hcs) ((hW.cell (p := ⟨Bf, 0, none⟩) hBf).trans hcf) (hT.on hW hT.room) h0
theorem cut_any (hu : ∀ w, ex.holds w → Lib.Utf8Tabs 7 8 w) (s : ByteArray) (hs : s.size ≤ 100000) (w : World) (hT : Tabs ex w) :
    Calls Tryz.prog 52 #[.string s] w fun e W' => ∃ v, e = .returned v ∧ W'.ownsRow w.heap.size 9 1 v ((fieldsOf s).take 5).length (((fieldsOf s).take 5).map Value.string) ∧ Below w.heap.size w W' := by
  refine (callsIn_wide (n := 6)).1 ?_
  have hF := Fine.start hT
  have hf1 : Fence.wide.fn 87 := trivial
  obtain ⟨i0, hi, hz0, hz1, hz2⟩ := info_parts Tryz.infoS
  refine callsIn_of_wp_marks Tryz.func52 rfl trivial ?_ rfl
  simp only [Tryz.ntmps52, List.size_toArray, List.length_cons, List.length_nil, Nat.reduceAdd, Nat.reduceSub, Array.replicate_succ, Array.replicate_zero, List.push_toArray, List.append_toArray, List.nil_append, List.cons_append]
  gi_wp2_with (gi_at_call 87; refine (callsIn_wide.2 (fieldsSeq_any _ _)).mono ?_; rintro e w' ⟨rfl, rfl⟩)
  have bO := Boxed.new w 64 (.slice none 0 0)
  have bS := Boxed.new (w.alloc (.cells #[.slice none 0 0] 64)) 9 (.string s)
  have bF := Boxed.new ((w.alloc (.cells #[.slice none 0 0] 64)).alloc (.cells #[.string s] 9)) 181 (.func (.func 88) #[] #[])
  simp only [World.size_alloc] at bS bF
  have hF3 := ((hF.alloc (.cells #[.slice none 0 0] 64)).alloc (.cells #[.string s] 9)).alloc (.cells #[.func (.func 88) #[] #[]] 181)
  refine wpIn_rangeFunc_ownG rfl (by omega) (gf := 131) (lb := #[.pointer (some ⟨w.heap.size + 1, 0, none⟩), .pointer (some ⟨w.heap.size + 1 + 1, 0, none⟩)]) rfl trivial (enters_of Tryz.func131 (by kernel_rfl) rfl)
    (fields_stops hu (6 - 1) (by omega) (w.heap.size + 1) (w.heap.size + 1 + 1) w.heap.size hT.room s hs _ (by simp <;> omega) (by simp <;> omega) (bS.alloc _).cell bF.cell hF3.tabs) KeepsTwo.trans (KeepsTwo.put (by simp <;> omega) (by simp <;> omega) (by simp <;> omega)) (Below.refl _ _) (fun _ => rfl)
    (fun pre W => (∃ v, Boxed W w.heap.size 64 v ∧ W.ownsRow (w.heap.size + 3) 9 1 v pre.length (pre.map fun x => Value.string x.1) ∧ (pre.length ≤ 4)) ∧ (Below w.heap.size w W ∧ w.heap.size + 3 ≤ W.heap.size))
    (fun c pre W => (∃ v, Boxed W w.heap.size 64 v ∧ W.ownsRow (w.heap.size + 3) 9 1 v pre.length (pre.map fun x => Value.string x.1) ∧ (c = .exit 0 ∧ pre.length = 5)) ∧ (Below w.heap.size w W ∧ w.heap.size + 3 ≤ W.heap.size))
    (OwnFrom.and (Own.from (holdsRow_own (w.heap.size + 3) w.heap.size 64 9 1 (fun pre : List Short => pre.length) (fun pre => pre.map fun x => Value.string x.1) (fun pre _ => pre.length ≤ 4)) _) (OwnFrom.and (ownFrom_below (Nat.le_refl _) (by simp <;> omega)) (ownFrom_size _ _)))
    (fun c => OwnFrom.and (Own.from (holdsRow_own (w.heap.size + 3) w.heap.size 64 9 1 (fun pre : List Short => pre.length) (fun pre => pre.map fun x => Value.string x.1) (fun pre _ => c = .exit 0 ∧ pre.length = 5)) _) (OwnFrom.and (ownFrom_below (Nat.le_refl _) (by simp <;> omega)) (ownFrom_size _ _)))
    ⟨⟨_, (bO.alloc _).alloc _, World.ownsRow_nil _ _ _ _, by simp⟩, hF3.bel, by simp⟩
    (fun x => { tmps := #[.string s, undef, .slice none 0 0, .pointer (some ⟨w.heap.size, 0, none⟩), .string x.1, .string s, .func (.func 131) #[] #[.pointer (some ⟨w.heap.size + 1, 0, none⟩), .pointer (some ⟨w.heap.size + 1 + 1, 0, none⟩)], .string x.1, undef, undef, undef, undef, undef, undef, undef, undef], defers := [] }) ?assign ?body ?done ?stop
  case assign =>
    intro l x W K hK
    gi_wp2
    exact hK
  case body =>
    rintro l pre x W ⟨⟨v, hv, hrow, hp4⟩, hB, hWz⟩ hlt
    have hc := hv.cell
    by_cases h4 : pre.length = 4
    · have x1 : decide (4 < ((pre.length : Int) + 1)) = true := by simp; omega
      have H4 : Hid (pre.length = 4) := h4
      clear h4
      gi_wp2_with (gi_at_builtin; refine wpListIn_append_own _ rfl _ _ 64 rfl (w.heap.size + 3) 9 i0 (.string ⟨#[]⟩) 1 16 Tryz.underlying64 hi hz0 hz1 hz2 rfl (by decide) _ _ _ rfl (hrow.alloc _) ⟨W.heap.size, 0, none⟩ 1 1 [.string x.1] rfl rfl (cell_one_new _ _ _) (by simp [Value.oneCell']) (by unfold maxLen; omega) (by omega) (by simp; omega) ?_; intro v' w1 hown' hgrow _; obtain ⟨g', cap', rfl⟩ := ownsRow_succ hown'; obtain ⟨hv1, hv2, hr2, hk2, hb2, hj2⟩ := collected hv (by omega) hWz hrow hown' hgrow; have hc1 := hv1.cell; have hf1 := hv1.frozen)
      exact ⟨hk2.from _, ⟨_, hv2, by simpa using hr2, rfl, by rw [List.length_append, H4.out]; rfl⟩, hB.trans hb2, Nat.le_trans hWz hb2.size⟩
    · have x1 : decide (4 < ((pre.length : Int) + 1)) = false := by simp; omega
      have H4 : Hid (pre.length ≠ 4) := h4
      clear h4
      gi_wp2_with (gi_at_builtin; refine wpListIn_append_own _ rfl _ _ 64 rfl (w.heap.size + 3) 9 i0 (.string ⟨#[]⟩) 1 16 Tryz.underlying64 hi hz0 hz1 hz2 rfl (by decide) _ _ _ rfl (hrow.alloc _) ⟨W.heap.size, 0, none⟩ 1 1 [.string x.1] rfl rfl (cell_one_new _ _ _) (by simp [Value.oneCell']) (by unfold maxLen; omega) (by omega) (by simp; omega) ?_; intro v' w1 hown' hgrow _; obtain ⟨g', cap', rfl⟩ := ownsRow_succ hown'; obtain ⟨hv1, hv2, hr2, hk2, hb2, hj2⟩ := collected hv (by omega) hWz hrow hown' hgrow; have hc1 := hv1.cell; have hf1 := hv1.frozen)
      exact ⟨hk2.from _, ⟨hb2, hj2 _ (by omega) (by omega), hj2 _ (by omega) (by omega)⟩, ⟨_, hv2, by simpa using hr2, by have := H4.out; simp; omega⟩, hB.trans hb2, Nat.le_trans hWz hb2.size⟩
  case done =>
    rintro D ys W hD hS ⟨⟨v, hv, hrow, hp4⟩, hB, hWz⟩ hK
    have hc := hv.cell
    gi_wp2
    refine ⟨by simp, .inl ⟨_, _, rfl, run_takeDeferred hK, ?_⟩⟩
    exact ⟨_, results_tmp rfl _ _ _, v, rfl, own_taken (taken ⟨[], by rw [List.append_nil]; exact hS⟩ (Or.inr ⟨by omega, hS⟩)) (own_lower (ownsRow_putObj hrow _ hK rfl) (by omega)), hB.trans (belowK_b (w := w) (Nat.le_refl _) W D _ _ (by simp at hD; omega) hK rfl rfl)⟩
  case stop =>
    rintro D c pre W hD hSp ⟨⟨v, hv, hrow, rfl, h5⟩, hB, hWz⟩ hK
    have hc := hv.cell
    gi_wp2
    refine ⟨by simp, .inl ⟨_, _, rfl, run_takeDeferred hK, ?_⟩⟩
    exact ⟨_, results_tmp rfl _ _ _, v, rfl, own_taken (taken hSp (Or.inl h5)) (own_lower (ownsRow_putObj hrow _ hK rfl) (by omega)), hB.trans (belowK_b (w := w) (Nat.le_refl _) W D _ _ (by simp at hD; omega) hK rfl rfl)⟩
end Go.Proofs.YtednmkhdehlojaaGreatDoor
namespace Go.Proofs.YtednmkhdehlojaaGreatDoor
open Go.ChangeShapes Go.WideShapes Go.ChangeAt Go.RowKit
variable {ex : Ext}

def St.zero : St := ⟨0, 0, 0, false, 0, 0⟩
def putAll (x : St) : List UInt8 → List ByteArray → Option St
  | p :: ps, b :: bs => if (x.put p.toNat b).1 then putAll (x.put p.toNat b).2 ps bs else none
  | _, _ => some x
def stepOf : List ByteArray → Option St
  | [] => none
  | b :: bs => if codeOf b = 0 ∨ bs.length ≠ (partsL (codeOf b)).length then none else putAll { St.zero with c := codeOf b } (partsL (codeOf b)) bs
theorem stepOf_cons (b : ByteArray) (bs : List ByteArray) : stepOf (b :: bs) = if codeOf b = 0 ∨ bs.length ≠ (partsL (codeOf b)).length then none else putAll { St.zero with c := codeOf b } (partsL (codeOf b)) bs := rfl
def stepV : Option St → Value
  | some x => .tuple #[.agg x.cells, .bool true]
  | none => .tuple #[.agg St.zero.cells, .bool false]
theorem own_empty {w : World} {base : Nat} {e : TypeId} {v : Value} {xs : List Value} (h : w.ownsRow base e 1 v 0 xs) : ∃ a c, v = .slice a 0 c := by
  rcases h.2 with ⟨rfl, _⟩ | ⟨g, cap, cur, rfl, _⟩
  · exact ⟨_, _, rfl⟩
  · exact ⟨_, _, rfl⟩
theorem codeOf_lt (b : ByteArray) : codeOf b < 29 := by
  unfold codeOf
  cases h : (List.range 29).find? fun k : Nat => decide (nameB k = b) with
  | none => decide
  | some k => exact List.mem_range.1 (List.mem_of_find?_eq_some h)
theorem fields_size (s : ByteArray) : ∀ (f : Nat) (st : Option Nat) (i : Nat), ∀ x ∈ fieldsFrom s f st i, x.size ≤ s.size
  | 0, st, _, x, hx => by
    cases st with
    | none => simp [fieldsFrom, lastOf] at hx
    | some a => simp [fieldsFrom, lastOf] at hx; subst hx; rw [ByteArray.size_extract]; omega
  | f + 1, st, i, x, hx => by
    by_cases h : i < s.size
    · by_cases hr : (Lib.decodeGo (s.extract i s.size)).1 = 32
      · cases st with
        | none => rw [fields_blank_none h hr] at hx; exact fields_size s f _ _ x hx
        | some a =>
          rw [fields_blank h hr] at hx
          rcases List.mem_cons.1 hx with rfl | hx
          · rw [ByteArray.size_extract]; omega
          · exact fields_size s f _ _ x hx
      · rw [fields_word h hr] at hx; exact fields_size s f _ _ x hx
    · rw [fields_end h] at hx
      cases st with
      | none => simp [lastOf] at hx
      | some a => simp [lastOf] at hx; subst hx; rw [ByteArray.size_extract]; omega
theorem StepIs.iter {w : World} {b k pos pos' : Nat} {p : ByteArray} {x : St} (h : StepIs w b x) (hit : w.heap[k]? = some (.stringIter p pos)) : StepIs (w.iterAt k p pos') b x := by
  have h' : w.heap[b]? = some (.cells x.cells 49 (0, 0)) := h
  show (w.iterAt k p pos').heap[b]? = _
  rw [Lib.iterAt_other w k b p pos' (fun e => by rw [e, hit] at h'; cases h')]; exact h'
def ZeroAt (w : World) (b : Nat) : Prop := w.cell? ⟨b, 0, none⟩ = some (vI vK 0) ∧ w.cell? ⟨b, 1, none⟩ = some (vI vK 0) ∧ w.cell? ⟨b, 2, none⟩ = some (vI vK 0) ∧ w.cell? ⟨b, 3, none⟩ = some (.bool false) ∧ w.cell? ⟨b, 4, none⟩ = some (vI vK 0) ∧ w.cell? ⟨b, 5, none⟩ = some (vI vK 0)
  ∧ w.frozen? ⟨b, 0, none⟩ = false ∧ w.frozen? ⟨b, 1, none⟩ = false ∧ w.frozen? ⟨b, 2, none⟩ = false ∧ w.frozen? ⟨b, 3, none⟩ = false ∧ w.frozen? ⟨b, 4, none⟩ = false ∧ w.frozen? ⟨b, 5, none⟩ = false
theorem zeroAt_of {w : World} {b : Nat} (h : StepIs w b St.zero) : ZeroAt w b := ⟨h.cell 0, h.cell 1, h.cell 2, h.cell 3, h.cell 4, h.cell 5, h.frozen 0, h.frozen 1, h.frozen 2, h.frozen 3, h.frozen 4, h.frozen 5⟩
theorem zero_new (w : World) : StepIs (w.alloc (.cells St.zero.cells 49)) w.heap.size St.zero := by
  show (w.heap.push _)[w.heap.size]? = _
  simp
section
theorem read1_any (he : ∀ w, ex.holds w → ErrTabs w) (hu : ∀ w, ex.holds w → Lib.Utf8Tabs 7 8 w) (s : ByteArray) (hs : s.size ≤ 100000) (w : World) (hT : Tabs ex w) :
    Calls Tryz.prog 28 #[.string s] w fun e w' => e = .returned (stepV (stepOf ((fieldsOf s).take 5))) ∧ Below w.heap.size w w' := by
  have hF := Fine.start hT
  have hF0 := hF.alloc (.cells St.zero.cells 49)
  cases hws : (fieldsOf s).take 5 with
  | nil =>
    go_enter Tryz.func28, Tryz.ntmps28
    go_wp2_with (first
      | (go_at_call 52; refine (cut_any hu s hs _ hF0.tabs).mono ?_; rintro e w1 ⟨v, rfl, hown, hb1⟩; rw [hws] at hown; obtain ⟨a, c, rfl⟩ := own_empty hown; have hz1 := (zero_new w).later hb1; have hlt := hz1.lt; obtain ⟨q0, q1, q2, q3, q4, q5, z0, z1, z2, z3, z4, z5⟩ := zeroAt_of hz1)
      | go_in)
    exact bodyPost_ret (v := .tuple #[.agg St.zero.cells, .bool false]) (by simp [results, Tryz.results28, go_sem, hlt, q0, q1, q2, q3, q4, q5, St.cells, St.zero]) rfl
      ⟨rfl, (((((((below_of hb1).setCell (Nat.le_refl _) _).setCell (Nat.le_refl _) _).setCell (Nat.le_refl _) _).setCell (Nat.le_refl _) _).setCell (Nat.le_refl _) _).setCell (Nat.le_refl _) _).alloc (by simp; omega) _⟩
  | cons b bs =>
    have x0 : ((bs.length : Int) + 1 == 0) = false := by simp; omega
    have hbl : bs.length ≤ 4 := by
      have := List.length_take_le 5 (fieldsOf s)
      rw [hws] at this; simp at this; omega
    have hcod : codeOf b < 29 := codeOf_lt b
    have hps := partsB_size (codeOf b)
    have hpf := parts_few (codeOf b)
    obtain ⟨c, hc⟩ : ∃ c, c = codeOf b := ⟨_, rfl⟩
    have HC : Hid (c = codeOf b) := hc
    rw [← hc] at hcod hps hpf
    clear hc
    have hpz : (partsB c).size ≤ 3 := by omega
    have HPS : Hid ((partsB c).size = (partsL c).length) := hps
    clear hps
    by_cases hbad : c = 0 ∨ bs.length ≠ (partsL c).length
    · have HN : Hid (stepV (stepOf (b :: bs)) = .tuple #[.agg St.zero.cells, .bool false]) := by
        show stepV (stepOf (b :: bs)) = _
        rw [stepOf_cons, ← HC.out, if_pos hbad]; rfl
      by_cases hc0 : c = 0
      · have hq0 : ((c : Int) == 0) = true := by simp [hc0]
        clear hbad hc0
        go_enter Tryz.func28, Tryz.ntmps28
        go_wp2_with (first
          | (go_at_call 52; refine (cut_any hu s hs _ hF0.tabs).mono ?_; rintro e w1 ⟨v, rfl, hown, hb1⟩; rw [hws] at hown; obtain ⟨g, cp, rfl⟩ := own_shape hown (by simp); have hz1 := (zero_new w).later hb1; have hlt := hz1.lt; obtain ⟨q0, q1, q2, q3, q4, q5, z0, z1, z2, z3, z4, z5⟩ := zeroAt_of hz1; have hg0 : w1.cell? ⟨g, 0, none⟩ = some (.string b) := hown.cellAt 0 (by simp); have hgl : g < w1.heap.size := Lib.lt_of_cell hg0; have hF1 := hF0.call hb1)
          | (go_at_call 54; refine (codeOf_any _ _ (hF1.alloc _).tabs).mono ?_; rintro e w2 ⟨rfl, rfl⟩; rw [← HC.out])
          | (go_at_call 55; refine (parts_any _ _).mono ?_; rintro e w2 ⟨rfl, rfl⟩)
          | go_in)
        rw [HN.out]
        exact bodyPost_ret (v := .tuple #[.agg St.zero.cells, .bool false]) (by simp [results, Tryz.results28, go_sem, hlt, q0, q1, q2, q3, q4, q5, St.cells, St.zero]) rfl
          ⟨rfl, ((((((((below_of hb1).setCell (Nat.le_refl _) _).setCell (Nat.le_refl _) _).setCell (Nat.le_refl _) _).setCell (Nat.le_refl _) _).setCell (Nat.le_refl _) _).setCell (Nat.le_refl _) _).alloc (by simp; omega) _).alloc (by simp; omega) _⟩
      · have hq0 : ((c : Int) == 0) = false := by simp; omega
        have hl2 : ((bs.length : Int) + 1 == 1 + ((partsB c).size : Int)) = false := by
          have h1 := HPS.out
          have h2 : bs.length ≠ (partsL c).length := hbad.resolve_left hc0
          rw [h1]; simp; omega
        clear hbad hc0
        go_enter Tryz.func28, Tryz.ntmps28
        go_wp2_with (first
          | (go_at_call 52; refine (cut_any hu s hs _ hF0.tabs).mono ?_; rintro e w1 ⟨v, rfl, hown, hb1⟩; rw [hws] at hown; obtain ⟨g, cp, rfl⟩ := own_shape hown (by simp); have hz1 := (zero_new w).later hb1; have hlt := hz1.lt; obtain ⟨q0, q1, q2, q3, q4, q5, z0, z1, z2, z3, z4, z5⟩ := zeroAt_of hz1; have hg0 : w1.cell? ⟨g, 0, none⟩ = some (.string b) := hown.cellAt 0 (by simp); have hgl : g < w1.heap.size := Lib.lt_of_cell hg0; have hF1 := hF0.call hb1)
          | (go_at_call 54; refine (codeOf_any _ _ (hF1.alloc _).tabs).mono ?_; rintro e w2 ⟨rfl, rfl⟩; rw [← HC.out])
          | (go_at_call 55; refine (parts_any _ _).mono ?_; rintro e w2 ⟨rfl, rfl⟩)
          | go_in)
        rw [HN.out]
        exact bodyPost_ret (v := .tuple #[.agg St.zero.cells, .bool false]) (by simp [results, Tryz.results28, go_sem, hlt, q0, q1, q2, q3, q4, q5, St.cells, St.zero]) rfl
          ⟨rfl, ((((((((below_of hb1).setCell (Nat.le_refl _) _).setCell (Nat.le_refl _) _).setCell (Nat.le_refl _) _).setCell (Nat.le_refl _) _).setCell (Nat.le_refl _) _).setCell (Nat.le_refl _) _).alloc (by simp; omega) _).alloc (by simp; omega) _⟩
    · have hc0 : ((c : Int) == 0) = false := by simp; omega
      have hl : bs.length = (partsL c).length := by omega
      have hl2 : ((bs.length : Int) + 1 == 1 + ((partsB c).size : Int)) = true := by rw [HPS.out, hl]; simp; omega
      have HL : Hid (bs.length = (partsL c).length) := hl
      have hc1 : 1 ≤ c := by omega
      clear hl hbad
      go_enter Tryz.func28, Tryz.ntmps28
      go_wp2_with (first
        | (go_at_call 52; refine (cut_any hu s hs _ hF0.tabs).mono ?_; rintro e w1 ⟨v, rfl, hown, hb1⟩; rw [hws] at hown; obtain ⟨g, cp, rfl⟩ := own_shape hown (by simp); have hz1 := (zero_new w).later hb1; have hlt := hz1.lt; obtain ⟨q0, q1, q2, q3, q4, q5, z0, z1, z2, z3, z4, z5⟩ := zeroAt_of hz1; have hg0 : w1.cell? ⟨g, 0, none⟩ = some (.string b) := hown.cellAt 0 (by simp); have hgl : g < w1.heap.size := Lib.lt_of_cell hg0; have hF1 := hF0.call hb1)
        | (go_at_call 54; refine (codeOf_any _ _ (hF1.alloc _).tabs).mono ?_; rintro e w2 ⟨rfl, rfl⟩; rw [← HC.out])
        | (go_at_call 55; refine (parts_any _ _).mono ?_; rintro e w2 ⟨rfl, rfl⟩)
        | go_in)
      have HS : Hid (stepOf (b :: bs) = putAll { St.zero with c := (c : Int) } (partsL c) bs) := by
        show stepOf (b :: bs) = _
        rw [stepOf_cons, ← HC.out, if_neg (by have := HL.out; omega)]
      have hroom := hT.room
      have hw1 : w.heap.size ≤ w1.heap.size := by omega
      have hgk : ∀ (k : Nat) (bk : ByteArray), bs[k]? = some bk → w1.cell? ⟨g, k + 1, none⟩ = some (.string bk) := fun k bk hk => by
        have hkl : k < bs.length := (List.getElem?_eq_some_iff.1 hk).1
        rw [hown.cellAt (k + 1) (by simp; omega)]
        simp [hk]
      have hbz : ∀ (k : Nat) (bk : ByteArray), bs[k]? = some bk → bk.size ≤ 100000 := fun k bk hk => by
        have : bk ∈ (fieldsOf s).take 5 := by rw [hws]; exact mcO _ (List.mem_of_getElem? hk)
        exact Nat.le_trans (fields_size s _ _ _ bk (List.mem_of_mem_take this)) hs
      go_loopw [] (fun wr => ∃ (k : Nat) (x : St), k ≤ (partsL c).length ∧ StepIs wr (w1.heap.size + 1) x ∧ putAll x ((partsL c).drop k) (bs.drop k) = putAll { St.zero with c := (c : Int) } (partsL c) bs ∧ wr.heap[w1.heap.size + 2]? = some (.stringIter (partsB c) k)
          ∧ Below (w1.heap.size + 1) (w1.alloc (.cells #[.slice (some ⟨g, 0, none⟩) (bs.length + 1) cp] 64)) wr ∧ Tabs ex wr) (fun wr => (partsL c).length - wr.iterPos (w1.heap.size + 2))
      case atStart =>
        refine ⟨0, { St.zero with c := (c : Int) }, Nat.zero_le _, ?_, rfl, ?_, ?_, ?_⟩
        · have h := World.alloc_heap_new (w1.alloc (.cells #[.slice (some ⟨g, 0, none⟩) (bs.length + 1) cp] 64)) (.cells ({ St.zero with c := (c : Int) } : St).cells 49)
          rw [World.size_alloc] at h
          exact (Below.heap_alloc _ _ _ (by simp)).trans h
        · have h := World.iter_heap ((w1.alloc (.cells #[.slice (some ⟨g, 0, none⟩) (bs.length + 1) cp] 64)).alloc (.cells #[vI vK c, vI vK 0, vI vK 0, .bool false, vI vK 0, vI vK 0] 49)) (partsB c) 0
          simpa using h
        · exact ((bF _ _).alloc (by simp) _).alloc (by simp) _
        · exact (((hF1.alloc _).alloc _).alloc _).tabs
      case round =>
        obtain ⟨k, x, hk, hsx, hput, hit, hbel, hTr⟩ := hrel
        have hbox : wr.cell? ⟨w1.heap.size, 0, none⟩ = some (.slice (some ⟨g, 0, none⟩) (bs.length + 1) cp) := (hbel.cell (p := ⟨w1.heap.size, 0, none⟩) (by simp)).trans (by simp)
        have hzr : StepIs wr w.heap.size St.zero := (hbel.block _ (by omega)).trans ((Below.heap_alloc _ _ _ (by omega)).trans hz1)
        by_cases hp : k < (partsL c).length
        · have hp' : k < (partsB c).size := by rw [HPS.out]; exact hp
          have hasc := parts_ascii c _ (List.getElem_mem hp)
          have hkb : k < bs.length := by rw [HL.out]; exact hp
          obtain ⟨bk, hbk⟩ : ∃ bk, bs[k]? = some bk := ⟨_, List.getElem?_eq_getElem hkb⟩
          obtain ⟨p, hpe⟩ : ∃ p : Nat, p = ((partsL c)[k]'hp).toNat := ⟨_, rfl⟩
          have hpp : p = 100 ∨ p = 115 ∨ p = 111 ∨ p = 102 ∨ p = 116 ∨ p = 99 := by
            rcases hasc with h | h | h | h | h | ⟨h, _⟩
            all_goals rw [h] at hpe
            · exact Or.inl hpe
            · exact Or.inr (Or.inl hpe)
            · exact Or.inr (Or.inr (Or.inl hpe))
            · exact Or.inr (Or.inr (Or.inr (Or.inl hpe)))
            · exact Or.inr (Or.inr (Or.inr (Or.inr (Or.inl hpe))))
            · exact Or.inr (Or.inr (Or.inr (Or.inr (Or.inr hpe))))
          have hpa : ((partsB c)[k]'hp').toNat = p := by rw [partsB_get, hpe]
          have hnx : ∀ ty, (Instr.next (.pointer (some ⟨w1.heap.size + 1 + 1, 0, none⟩)) true ty).run Tryz.prog wr = .ok (.tuple #[.bool true, vI vK k, .int .i32 p]) (wr.iterAt (w1.heap.size + 2) (partsB c) (k + 1)) := fun ty => by
            have := Lib.run_next_ascii_at (P := Tryz.prog) wr (w1.heap.size + 2) (partsB c) k ty hit hp' (by rw [hpa]; omega)
            rw [hpa] at this; exact this
          have hd1 : (partsL c).drop k = ((partsL c)[k]'hp) :: (partsL c).drop (k + 1) := List.drop_eq_getElem_cons hp
          have hd2 : bs.drop k = bk :: bs.drop (k + 1) := by
            rw [List.drop_eq_getElem_cons hkb]
            congr 1
            exact Option.some.inj ((List.getElem?_eq_getElem hkb).symm.trans hbk)
          have HP : Hid ((if (x.put p bk).1 then putAll (x.put p bk).2 ((partsL c).drop (k + 1)) (bs.drop (k + 1)) else none) = putAll { St.zero with c := (c : Int) } (partsL c) bs) := by
            rw [hd1, hd2] at hput
            rw [hpe]; exact hput
          have hbk1 := hbz k bk hbk
          have hsI := hsx.iter (pos' := k + 1) hit
          have hbel2 := Lib.below_iterAt hbel (k := w1.heap.size + 2) (by omega) (partsB c) (k + 1)
          have hTi : Tabs ex (wr.iterAt (w1.heap.size + 2) (partsB c) (k + 1)) := hTr.on (Lib.below_iterAt (bF (w1.heap.size + 1) _) (k := w1.heap.size + 2) (by omega) (partsB c) (k + 1)) (by omega)
          have hbox2 : (wr.iterAt (w1.heap.size + 2) (partsB c) (k + 1)).cell? ⟨w1.heap.size, 0, none⟩ = some (.slice (some ⟨g, 0, none⟩) (bs.length + 1) cp) := (hbel2.cell (p := ⟨w1.heap.size, 0, none⟩) (by simp)).trans (by simp)
          have hwd : (wr.iterAt (w1.heap.size + 2) (partsB c) (k + 1)).cell? ⟨g, 1 + k, none⟩ = some (.string bk) := (hbel2.cell (p := ⟨g, 1 + k, none⟩) (by show g < _; omega)).trans ((World.cell?_alloc_past _ _ _ hgl).trans (by rw [Nat.add_comm]; exact hgk k bk hbk))
          have hit2 := Lib.iterAt_heap wr (w1.heap.size + 2) (partsB c) k (k + 1) hit
          have hpos : wr.iterPos (w1.heap.size + 2) = k := by simp only [World.iterPos, hit]
          clear hasc hpe hpa hd1 hd2 hput hp' hgk hbz hbk
          by_cases hok : (x.put p bk).1 = true
          · go_wp2_with (go_at_call 56; refine (put_any he bk hbk1 (by omega) p hpp hsI hTi).mono ?_; rintro e w2 ⟨rfl, hg2, hs2⟩)
            have hlt2 : w1.heap.size + 2 < wr.heap.size := (Array.getElem?_eq_some_iff.1 hit).1
            have hit3 : w2.heap[w1.heap.size + 2]? = some (.stringIter (partsB c) (k + 1)) := (hg2.block _ (by rw [Lib.iterAt_size]; exact hlt2) (fun e => by have := Option.some.inj e; omega)).trans hit2
            have hbel3 : Below (w1.heap.size + 1) (w1.alloc (.cells #[.slice (some ⟨g, 0, none⟩) (bs.length + 1) cp] 64)) w2 := hbel2.trans ⟨hg2.os, hg2.tape, hg2.output, hg2.size, fun j hj => hg2.block j (by rw [Lib.iterAt_size]; omega) (fun e => by have := Option.some.inj e; omega)⟩
            have hT3 := hTi.on_grown hg2 (by omega)
            clear hbox2 hwd hit2 hbel2 hTi hsI hnx hit hbel hTr hg2 hbox
            go_wp2
            go_roundw
            case rel => first | exact ⟨k + 1, (x.put p bk).2, by omega, hs2, by have h := HP.out; rw [if_pos hok] at h; exact h, hit3, hbel3, hT3⟩ | ((repeat apply Exists.intro); exact ⟨⟨k + 1, (x.put p bk).2, by omega, hs2, by have h := HP.out; rw [if_pos hok] at h; exact h, hit3, hbel3, hT3⟩, rfl⟩)
            case measure => simp only [World.iterPos, hit3] at hpos ⊢; omega
          · have hok' : (x.put p bk).1 = false := by simpa using hok
            clear hok
            have HN : Hid (stepV (stepOf (b :: bs)) = .tuple #[.agg St.zero.cells, .bool false]) := by
              have h := HP.out
              rw [if_neg (by simp [hok'])] at h
              show stepV (stepOf (b :: bs)) = _
              rw [HS.out, ← h]; rfl
            go_wp2_with (go_at_call 56; refine (put_any he bk hbk1 (by omega) p hpp hsI hTi).mono ?_; rintro e w2 ⟨rfl, hg2, hs2⟩; have hz2 : StepIs w2 w.heap.size St.zero := (hg2.block _ (by rw [Lib.iterAt_size]; exact hzr.lt) (fun e => by have := Option.some.inj e; omega)).trans (hzr.iter hit); obtain ⟨q0', q1', q2', q3', q4', q5', z0', z1', z2', z3', z4', z5'⟩ := zeroAt_of hz2)
            have hbw : Below w.heap.size w w2 := (below_of hb1).trans ((((bF _ w1).alloc hw1 _).trans (hbel2.mono (by omega))).trans ⟨hg2.os, hg2.tape, hg2.output, hg2.size, fun j hj => hg2.block j (by rw [Lib.iterAt_size]; have := hzr.lt; omega) (fun e => by have := Option.some.inj e; omega)⟩)
            rw [HN.out]
            exact bodyPost_ret (v := .tuple #[.agg St.zero.cells, .bool false]) (by simp [results, Tryz.results28, go_sem, q0', q1', q2', q3', q4', q5', St.cells, St.zero]) rfl
              ⟨rfl, (((((hbw.setCell (Nat.le_refl _) _).setCell (Nat.le_refl _) _).setCell (Nat.le_refl _) _).setCell (Nat.le_refl _) _).setCell (Nat.le_refl _) _).setCell (Nat.le_refl _) _⟩
        · have hkk : k = (partsL c).length := by omega
          have HN : Hid (stepV (stepOf (b :: bs)) = .tuple #[.agg x.cells, .bool true]) := by
            show stepV (stepOf (b :: bs)) = _
            rw [HS.out, ← hput, hkk, List.drop_length]; rfl
          have hnx : ∀ ty, (Instr.next (.pointer (some ⟨w1.heap.size + 1 + 1, 0, none⟩)) true ty).run Tryz.prog wr = .ok (.tuple #[.bool false]) wr := fun ty => Lib.run_next_end_at (P := Tryz.prog) wr (w1.heap.size + 2) (partsB c) _ ty hit (by rw [HPS.out]; exact hp)
          obtain ⟨q0', q1', q2', q3', q4', q5', z0', z1', z2', z3', z4', z5'⟩ := zeroAt_of hzr
          have s0 := hsx.cell 0
          have s1 := hsx.cell 1
          have s2 := hsx.cell 2
          have s3 := hsx.cell 3
          have s4 := hsx.cell 4
          have s5 := hsx.cell 5
          simp only [St.cells] at s0 s1 s2 s3 s4 s5
          have hbw : Below w.heap.size w wr := (below_of hb1).trans (((bF _ w1).alloc hw1 _).trans (hbel.mono (by omega)))
          clear hput hkk hp hgk hbz
          go_wp2
          rw [HN.out]
          exact bodyPost_ret (v := .tuple #[.agg x.cells, .bool true]) (by simp [results, Tryz.results28, go_sem, q0', q1', q2', q3', q4', q5', St.cells]) rfl
            ⟨rfl, (((((hbw.setCell (Nat.le_refl _) _).setCell (Nat.le_refl _) _).setCell (Nat.le_refl _) _).setCell (Nat.le_refl _) _).setCell (Nat.le_refl _) _).setCell (Nat.le_refl _) _⟩
end
end Go.Proofs.YtednmkhdehlojaaGreatDoor
namespace Go.Proofs.YtednmkhdehlojaaGreatDoor
open Go.ChangeShapes Go.WideShapes Go.ChangeAt Go.RowKit Go.Shelf

def Abide {β : Type} (Bs : Nat) (J : β → World → Prop) : Prop := ∀ s W W' row, J s W → W.grownBy W' row → (row = none ∨ row = some Bs) → J s W'
def SeqCell {α : Type} (n : Nat) (P : Program) (g : Nat) (lb : Array Value) (encs : α → Array Value) (Kp : World → World → Prop) (S Sp : List α → Prop) (N Bs : Nat) (w : World) : Prop :=
  ∀ (l : Nat) (J Jx : List α → World → Prop) (W : World), Below w.heap.size w W → Abide Bs J → Abide Bs Jx →
    (∀ pre x W1, J pre W1 → pre.length < N → YieldAt Fence.wide (n - 1) P l (encs x) W1 fun e W' =>
      (e = .returned (.bool true) ∧ J (pre ++ [x]) W' ∧ Kp W1 W') ∨ (e = .returned (.bool false) ∧ Jx (pre ++ [x]) W')) →
    J [] W →
    CallsIn Fence.wide n P g (#[.func (.yield l) #[] #[]] ++ lb) W fun e W' => (∃ v, e = .returned v) ∧ ((∃ xs, S xs ∧ J xs W') ∨ (∃ pre, Sp pre ∧ Jx pre W'))
theorem kept_other {W W' : World} {row : Option Nat} {Bs k : Nat} {o : Obj} (hg : W.grownBy W' row) (hr : row = none ∨ row = some Bs) (hk : W.heap[k]? = some o) (hne : k ≠ Bs) : W'.heap[k]? = some o := by
  refine (hg.block k (Array.getElem?_eq_some_iff.1 hk).1 fun e => ?_).trans hk
  rcases hr with h | h
  · rw [h] at e; cases e
  · rw [h] at e; exact hne (Option.some.inj e)
theorem range_cell {P : Program} {α : Type} {n : Nat} {g : Operand} {ps : Array Tmp} {assign body : Code} {Q : Exit → Act → World → Prop} {a : Act} {w : World} (h1 : 1 ≤ n) {gf : Nat} {lb : Array Value} (hg : a.eval g = .func (.func gf) #[] lb)
    (eg : ∀ args w, (callFunc gf args).run P w = .ok (.enter gf args) w) {encs : α → Array Value} {Kp : World → World → Prop} {S Sp : List α → Prop} {N Bs : Nat} (hseq : SeqCell (n - 1) P gf lb encs Kp S Sp N Bs w) (hBs : Bs < w.heap.size)
    (hKt : ∀ {A B C : World}, Kp A B → Kp B C → Kp A C) (hKb : ∀ (W : World) (l : Nat) (o o' : Obj), w.heap.size ≤ l → W.heap[l]? = some o → o.isCells = false → o.isWalk = false → Kp W (W.putObj l o')) (hps : ∀ x, (encs x).size = ps.size)
    (I : List α → World → Prop) (Ix : Code → List α → World → Prop) (hI : OwnFrom w.heap.size I) (hIa : Abide Bs I) (hIx : ∀ c, OwnFrom w.heap.size (Ix c)) (hIxa : ∀ c, Abide Bs (Ix c)) (h0 : I [] w) (a₁ : α → Act)
    (hassign : ∀ (l : Nat) (x : α) (W : World) (K : Act → World → Prop), K (a₁ x) W → assign.wpIn (Fence.wide.inRound l) (n - 1 - 1) P (Exit.then K (fun _ _ _ => False)) { tmps := (ps.zip (encs x)).foldl (fun t (p, v) => t.setIfInBounds p v) a.tmps, defers := [] } W)
    (hbody : ∀ (l : Nat) (pre : List α) (x : α) (W : World), I pre W → pre.length < N → body.wpIn (Fence.wide.inRound l) (n - 1 - 1) P (ownPostG w.heap.size Kp I Ix (pre ++ [x]) W) (a₁ x) W)
    (hdone : ∀ (D : Nat) (xs : List α) (W : World), w.heap.size ≤ D → S xs → I xs W → W.heap[D]? = some (.deferred (some [])) → Q .normal { a with defers := { target := .collected D, args := #[] } :: a.defers } W)
    (hstop : ∀ (D : Nat) (c : Code) (pre : List α) (W : World), w.heap.size ≤ D → Sp pre → Ix c pre W → W.heap[D]? = some (.deferred (some [])) → c.wpIn Fence.wide n P Q { a with defers := { target := .collected D, args := #[] } :: a.defers } W) :
    (Code.rangeFunc g ps assign body).wpIn Fence.wide n P Q a w := by
  refine wpIn_rangeFunc fun fn hfn => ?_
  let R (st : LoopState) (pe : Option Code) : Loop := { state := st, pending := pe, fn := fn, tmps := a.tmps, params := ps, assign := assign, body := body, defers := w.heap.size }
  let W1 : World := (w.alloc (.deferred (some []))).alloc (.loop (R .ready none))
  have hL : W1.heap[w.heap.size + 1]? = some (.loop (R .ready none)) := by
    have h := World.alloc_heap_new (w.alloc (.deferred (some []))) (.loop (R .ready none))
    rw [World.size_alloc] at h; exact h
  have hD : W1.heap[w.heap.size]? = some (.deferred (some [])) := (Below.heap_alloc _ _ _ (by simp)).trans (World.alloc_heap_new w _)
  have hI1 : I [] W1 := hI.alloc _ (hI.alloc _ h0)
  have hB1 : Below w.heap.size w W1 := ((bF _ w).alloc (Nat.le_refl _) _).alloc (by simp) _
  refine ⟨w.heap.size + 1, [{ target := .collected w.heap.size, args := #[] }], W1, { target := .fn (.func gf) lb, args := #[.func (.yield (w.heap.size + 1)) #[] #[]] }, W1, gf, #[.func (.yield (w.heap.size + 1)) #[] #[]] ++ lb, W1, run_enterLoop_outer _ _ _ _ _, ?_, fun _ _ => trivial, ?_, fun _ => h1, ?_⟩
  · simp only [resolve, hg]
    simp [go_sem]
  · simp [invoke, go_sem, eg]
  · -- the iterator, at the caller's invariant and the loop's own two blocks
    refine (hseq (w.heap.size + 1) (fun pre W => I pre W ∧ W.heap[w.heap.size + 1]? = some (.loop (R .ready none)) ∧ W.heap[w.heap.size]? = some (.deferred (some [])))
      (fun pre W => ∃ c, Ix c pre W ∧ W.heap[w.heap.size + 1]? = some (.loop (R .done (some c))) ∧ W.heap[w.heap.size]? = some (.deferred (some []))) W1 hB1
      (fun s A B row hs hgr hr => ⟨hIa s A B row hs.1 hgr hr, kept_other hgr hr hs.2.1 (by omega), kept_other hgr hr hs.2.2 (by omega)⟩)
      (fun s A B row hs hgr hr => by
        obtain ⟨c, hc, hl, hd⟩ := hs
        exact ⟨c, hIxa c s A B row hc hgr hr, kept_other hgr hr hl (by omega), kept_other hgr hr hd (by omega)⟩) ?_ ⟨hI1, hL, hD⟩).mono ?_
    · rintro pre x W ⟨hi, hl, hd⟩ hlen
      have hlt : w.heap.size + 1 < W.heap.size := (Array.getElem?_eq_some_iff.1 hl).1
      have hy := run_yield (P := P) (args := encs x) hl (hps x)
      refine ⟨fn, _, assign, body, hy, roundIn_of_wpIn hfn (hassign _ x W _ ⟨_, run_beginRound hl rfl, ?_⟩)⟩
      -- the record is busy while the body runs
      have hl2 : (W.putObj (w.heap.size + 1) (.loop { R .ready none with state := .busy })).heap[w.heap.size + 1]? = some (.loop { R .ready none with state := .busy }) := World.putObj_heap_same hlt
      have hd2 : (W.putObj (w.heap.size + 1) (.loop { R .ready none with state := .busy })).heap[w.heap.size]? = some (.deferred (some [])) := (World.putObj_heap_other (by omega)).trans hd
      have hk2 : Kp W (W.putObj (w.heap.size + 1) (.loop { R .ready none with state := .busy })) := hKb _ _ _ _ (by omega) hl rfl rfl
      have hend : ∀ (jump : Option Code) (W3 : World), KeepsFrom w.heap.size (W.putObj (w.heap.size + 1) (.loop { R .ready none with state := .busy })) W3 →
          (Instr.endRound (w.heap.size + 1) jump).run P W3 = .ok (.bool jump.isNone) (W3.putObj (w.heap.size + 1) (.loop (R (if jump.isNone then .ready else .done) jump))) ∧ W3.heap[w.heap.size + 1]? = some (.loop { R .ready none with state := .busy }) ∧
          (W3.putObj (w.heap.size + 1) (.loop (R (if jump.isNone then .ready else .done) jump))).heap[w.heap.size + 1]? = some (.loop (R (if jump.isNone then .ready else .done) jump)) ∧
          (W3.putObj (w.heap.size + 1) (.loop (R (if jump.isNone then .ready else .done) jump))).heap[w.heap.size]? = some (.deferred (some [])) := fun jump W3 hk3 => by
        have hl3 := hk3.same _ _ (by omega) hl2 rfl
        exact ⟨run_endRound (P := P) jump hl3, hl3, World.putObj_heap_same (Array.getElem?_eq_some_iff.1 hl3).1, (World.putObj_heap_other (by omega)).trans (hk3.same _ _ (Nat.le_refl _) hd2 rfl)⟩
      refine wpIn_mono (hbody _ pre x _ (hI.putObj _ hi (by omega) hl rfl) hlen) ?_
      rintro e a3 W3 hp
      have leaves : ∀ c, KeepsFrom w.heap.size (W.putObj (w.heap.size + 1) (.loop { R .ready none with state := .busy })) W3 ∧ Ix c (pre ++ [x]) W3 → ∃ v W4, (Instr.endRound (w.heap.size + 1) (some c)).run P W3 = .ok v W4 ∧ ((Ending.returned v = .returned (.bool true) ∧ (I (pre ++ [x]) W4 ∧ W4.heap[w.heap.size + 1]? = some (.loop (R .ready none)) ∧ W4.heap[w.heap.size]? = some (.deferred (some []))) ∧ Kp W W4) ∨
          (Ending.returned v = .returned (.bool false) ∧ ∃ c, Ix c (pre ++ [x]) W4 ∧ W4.heap[w.heap.size + 1]? = some (.loop (R .done (some c))) ∧ W4.heap[w.heap.size]? = some (.deferred (some [])))) := fun c hp => by
        obtain ⟨hr, hl3, hl4, hd4⟩ := hend (some c) W3 hp.1
        exact ⟨_, _, hr, .inr ⟨rfl, c, (hIx c).putObj _ hp.2 (by omega) hl3 rfl, hl4, hd4⟩⟩
      cases e with
      | normal =>
        obtain ⟨hk3, hkp3, hi3⟩ := hp
        obtain ⟨hr, hl3, hl4, hd4⟩ := hend none W3 hk3
        exact ⟨_, _, hr, .inl ⟨rfl, ⟨hI.putObj _ hi3 (by omega) hl3 rfl, hl4, hd4⟩, hKt (hKt hk2 hkp3) (hKb _ _ _ _ (by omega) hl3 rfl rfl)⟩⟩
      | ret => exact leaves .ret hp
      | exit id => exact leaves (.exit id) hp
      | goto t => exact leaves (.goto t) hp
      | panic ch => exact hp.elim
      | outgrown => exact hp.elim
    · rintro e W2 ⟨⟨v, rfl⟩, (⟨xs, hS, hi, hl, hd⟩ | ⟨pre, hSp, c, hi, hl, hd⟩)⟩
      · exact ⟨none, _, run_endLoop (P := P) hl (by simp [R]), hdone _ xs _ (Nat.le_refl _) hS (hI.putObj _ hi (by omega) hl rfl) ((World.putObj_heap_other (by omega)).trans hd)⟩
      · exact ⟨some c, _, run_endLoop (P := P) hl (by simp [R]), hstop _ c pre _ (Nat.le_refl _) hSp ((hIx c).putObj _ hi (by omega) hl rfl) ((World.putObj_heap_other (by omega)).trans hd)⟩
variable {ex : Ext}
attribute [local go_sem] Oper.semAt_some

def semi (t : ByteArray) : Int := Lib.indexByte t.data.toList 59
def piecesFrom : Nat → ByteArray → List ByteArray
  | 0, t => [t]
  | f + 1, t => if 0 ≤ semi t then t.extract 0 (semi t).toNat :: piecesFrom f (t.extract ((semi t).toNat + 1) t.size) else [t]
def piecesOf (s : ByteArray) : List ByteArray := piecesFrom s.size s
structure KeepsSet (n₀ : Nat) (bs : List Nat) (W W' : World) : Prop where
  bel : Below n₀ W W'
  also : ∀ b ∈ bs, W'.heap[b]? = W.heap[b]?
theorem KeepsSet.trans {n₀ : Nat} {bs : List Nat} {A B C : World} (h : KeepsSet n₀ bs A B) (k : KeepsSet n₀ bs B C) : KeepsSet n₀ bs A C := ⟨h.bel.trans k.bel, fun b hb => (k.also b hb).trans (h.also b hb)⟩
theorem KeepsSet.put {n₀ : Nat} {bs : List Nat} {w : World} (hn : n₀ ≤ w.heap.size) (h1 : ∀ b ∈ bs, b < w.heap.size) (W : World) (l : Nat) (o o' : Obj) (hl : w.heap.size ≤ l) (h : W.heap[l]? = some o) (hc : o.isCells = false) (hw : o.isWalk = false) : KeepsSet n₀ bs W (W.putObj l o') :=
  ⟨belowK_b hn W l o o' hl h hc hw, fun b hb => World.putObj_heap_other (by have := h1 b hb; omega)⟩
def boxLen (W : World) (b : Nat) : Nat := match W.cell? ⟨b, 0, none⟩ with
  | some (.string t) => t.size
  | _ => 0
theorem boxLen_of {W : World} {b : Nat} {ty : TypeId} {t : ByteArray} (h : Boxed W b ty (.string t)) : boxLen W b = t.size := by
  unfold boxLen; rw [h.cell]
theorem indexByte_lt : ∀ (l : List UInt8) (c : UInt8), Lib.indexByte l c < l.length
  | [], c => by simp [Lib.indexByte]
  | b :: l, c => by
    have ih := indexByte_lt l c
    unfold Lib.indexByte
    rw [List.length_cons]
    split
    · omega
    · split
      · omega
      · omega
theorem semi_lt (t : ByteArray) : semi t < t.size ∧ -1 ≤ semi t := by
  have h := indexByte_lt t.data.toList 59
  rw [size_list] at h
  exact ⟨h, Lib.indexByte_ge _ _⟩
theorem Boxed.other_box {W : World} {b c : Nat} {ty : TypeId} {v : Value} (h : Boxed W b ty v) (hne : b ≠ c) (u : Value) : Boxed (W.setCell ⟨c, 0, none⟩ u) b ty v := (Below.heap_setCell W ⟨c, 0, none⟩ u b hne).trans h
theorem pieces_cut {f : Nat} {t : ByteArray} (h : 0 ≤ semi t) : piecesFrom (f + 1) t = t.extract 0 (semi t).toNat :: piecesFrom f (t.extract ((semi t).toNat + 1) t.size) := by rw [piecesFrom, if_pos h]
theorem pieces_end {f : Nat} {t : ByteArray} (h : ¬ 0 ≤ semi t) : piecesFrom f t = [t] := by
  cases f with
  | zero => rfl
  | succ f => rw [piecesFrom, if_neg h]
theorem index_any (t : ByteArray) (w : World) : Calls Tryz.prog 80 #[.string t, .string ⟨#[59]⟩] w fun e w' => e = .returned (vI vK (semi t)) ∧ w' = w := Tryz.strings_Index_one t 59 w
theorem split1_in (n : Nat) (hn : 1 ≤ n) (l Bp Bs Bv n₀ : Nat) (h1 : Bp ≠ Bs) (h2 : Bv ≠ Bs) (s : ByteArray) (hs : s.size ≤ 100000) (J Jx : List Short → World → Prop) (W : World) (hJ : Abide Bs J)
    (hY : ∀ (pre : List Short) (x : Short) W, J pre W → pre.length < (piecesOf s).length → YieldAt Fence.wide (n - 1) Tryz.prog l #[.string x.1] W fun e W' =>
      (e = .returned (.bool true) ∧ J (pre ++ [x]) W' ∧ KeepsSet n₀ [Bp, Bs, Bv] W W') ∨ (e = .returned (.bool false) ∧ Jx (pre ++ [x]) W'))
    (bP : Boxed W Bp 9 (.string ⟨#[59]⟩)) (bS : Boxed W Bs 9 (.string s)) (bV : Boxed W Bv 3 (vI vK 0)) (h0 : J [] W) :
    CallsIn Fence.wide n Tryz.prog 85 #[.func (.yield l) #[] #[], .pointer (some ⟨Bp, 0, none⟩), .pointer (some ⟨Bs, 0, none⟩), .pointer (some ⟨Bv, 0, none⟩)] W fun e W' => (∃ v, e = .returned v) ∧
      ((∃ ys : List Short, ys.map (·.1) = piecesOf s ∧ J ys W') ∨ (∃ pre : List Short, pre.map (·.1) <+: piecesOf s ∧ Jx pre W')) := by
  refine callsIn_of_wp Tryz.func85 rfl trivial ?_ rfl
  simp only [Tryz.ntmps85, List.size_toArray, List.length_cons, List.length_nil, Nat.reduceAdd, Nat.reduceSub, Array.replicate_succ, Array.replicate_zero, List.push_toArray, List.append_toArray, List.nil_append, List.cons_append]
  have hf1 : Fence.wide.fn 80 := trivial
  have cP := bP.cell
  gi_wp2
  gi_loopw [] (fun wr => ∃ (pre : List Short) (t : ByteArray) (fuel : Nat), Boxed wr Bs 9 (.string t) ∧ Boxed wr Bp 9 (.string ⟨#[59]⟩) ∧ Boxed wr Bv 3 (vI vK 0) ∧ pre.map (·.1) ++ piecesFrom fuel t = piecesOf s ∧ t.size ≤ fuel ∧ t.size ≤ 100000 ∧ J pre wr) (fun wr => boxLen wr Bs)
  case atStart => exact ⟨[], s, s.size, bS, bP, bV, rfl, Nat.le_refl _, hs, h0⟩
  case round =>
    obtain ⟨pre, t, fuel, bS', bP', bV', hacc, hfu, htz, hJr⟩ := hrel
    have cS := bS'.cell
    have cP' := bP'.cell
    have cV := bV'.cell
    have hsm := semi_lt t
    by_cases hi : 0 ≤ semi t
    · obtain ⟨f, rfl⟩ : ∃ f, fuel = f + 1 := ⟨fuel - 1, by omega⟩
      rw [pieces_cut hi] at hacc
      obtain ⟨k, hk⟩ := Int.eq_ofNat_of_zero_le hi
      rw [hk] at hacc hsm
      have hkl : k < t.size := by have := hsm.1; omega
      have hlen : pre.length < (piecesOf s).length := by rw [← hacc]; simp
      have HA : Hid (pre.map (·.1) ++ t.extract 0 k :: piecesFrom f (t.extract (k + 1) t.size) = piecesOf s) := hacc
      have HK : Hid (semi t = k) := hk
      clear hacc hi hsm hk
      obtain ⟨fn, tmps, assign, body, hy, hR⟩ := hY pre ⟨t.extract 0 k, piece_short htz _ _⟩ wr hJr hlen
      dsimp only at hy
      gi_wp2_with (gi_at_call 80; refine (callsIn_wide.2 (index_any _ _)).mono ?_; rintro e w1 ⟨rfl, rfl⟩; rw [HK.out])
      refine hR.mono ?_
      rintro e W3 (⟨rfl, hJ3, hk3⟩ | ⟨rfl, hJx3⟩)
      · have bS3 : Boxed W3 Bs 9 (.string t) := (hk3.also Bs (by simp)).trans bS'
        have bP3 : Boxed W3 Bp 9 (.string ⟨#[59]⟩) := (hk3.also Bp (by simp)).trans bP'
        have bV3 : Boxed W3 Bv 3 (vI vK 0) := (hk3.also Bv (by simp)).trans bV'
        have cS3 := bS3.cell
        have fS3 := bS3.frozen
        have cP3 := bP3.cell
        have hz : boxLen w1 Bs = t.size := boxLen_of bS'
        gi_wp2
        go_roundw
        case rel => exact ⟨pre ++ [⟨t.extract 0 k, piece_short htz _ _⟩], t.extract (k + 1) t.size, f, bS3.set _, Boxed.other_box bP3 h1 _, Boxed.other_box bV3 h2 _, by rw [List.map_append, List.append_assoc]; exact HA.out, by rw [ByteArray.size_extract]; omega, by rw [ByteArray.size_extract]; omega, hJ _ _ _ _ hJ3 (grown_set (grown_below (bF _ _) _) 0 _) (Or.inr rfl)⟩
        case measure => rw [hz, boxLen_of (bS3.set _), ByteArray.size_extract]; omega
      · gi_wp2
        refine bodyPost_ret (results_none rfl _ _ _) rfl ?_
        exact ⟨⟨_, rfl⟩, .inr ⟨_, ⟨piecesFrom f (t.extract (k + 1) t.size), by rw [List.map_append, List.append_assoc]; exact HA.out⟩, hJx3⟩⟩
    · have x1 : decide (semi t < 0) = true := by simp; omega
      rw [pieces_end hi] at hacc
      have hlen : pre.length < (piecesOf s).length := by rw [← hacc]; simp
      have HA : Hid (pre.map (·.1) ++ [t] = piecesOf s) := hacc
      clear hacc hi hsm
      obtain ⟨fn, tmps, assign, body, hy, hR⟩ := hY pre ⟨t, htz⟩ wr hJr hlen
      dsimp only at hy
      gi_wp2_with (gi_at_call 80; refine (callsIn_wide.2 (index_any _ _)).mono ?_; rintro e w1 ⟨rfl, rfl⟩)
      refine hR.mono ?_
      rintro e W3 (⟨rfl, hJ3, hk3⟩ | ⟨rfl, hJx3⟩)
      · gi_wp2
        go_end0
        exact ⟨⟨_, rfl⟩, .inl ⟨_, by rw [List.map_append]; exact HA.out, hJ3⟩⟩
      · gi_wp2
        go_end0
        exact ⟨⟨_, rfl⟩, .inr ⟨_, ⟨[], by rw [List.map_append, List.append_nil]; exact HA.out⟩, hJx3⟩⟩
theorem splitSeq_any (s : ByteArray) (w : World) : Calls Tryz.prog 27 #[.string s, .string ⟨#[59]⟩] w fun e w' =>
    e = .returned (.func (.func 85) #[] #[.pointer (some ⟨w.heap.size + 1, 0, none⟩), .pointer (some ⟨w.heap.size, 0, none⟩), .pointer (some ⟨w.heap.size + 2, 0, none⟩)]) ∧ w' = ((w.alloc (.cells #[.string s] 9)).alloc (.cells #[.string ⟨#[59]⟩] 9)).alloc (.cells #[vI vK 0] 3) := by
  go_enter Tryz.func27, Tryz.ntmps27
  go_wp2
  go_ret
  exact ⟨rfl, rfl⟩
end Go.Proofs.YtednmkhdehlojaaGreatDoor
namespace Go.Proofs.YtednmkhdehlojaaGreatDoor
open Go.ChangeShapes Go.WideShapes Go.ChangeAt Go.RowKit
end Go.Proofs.YtednmkhdehlojaaGreatDoor
