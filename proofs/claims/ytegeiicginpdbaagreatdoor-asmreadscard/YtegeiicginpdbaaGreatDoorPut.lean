/-
  What asm.put does: it puts what a word tells into a part of a step that lies in memory, and says whether it tells such a thing; all else is as it was. Conditions: the tables lie in memory, the library's two errors are errors, the word is short.
-/
import Derived.Test.YtegeiicginpdbaaGreatDoorPlace
namespace Go.Proofs.YtegeiicginpdbaaGreatDoor
open Go.ChangeShapes Go.WideShapes Go.ChangeAt Go.RowKit
variable {ex : Ext}

structure St where
  c : Int
  d : Int
  s : Int
  r : Bool
  o : Int
  n : Int
def St.cells (x : St) : Array Value := #[.int .i64 x.c, .int .i64 x.d, .int .i64 x.s, .bool x.r, .int .i64 x.o, .int .i64 x.n]
/-- The step lies in block b. -/
def StepIs (w : World) (b : Nat) (x : St) : Prop := w.heap[b]? = some (.cells x.cells 49 (0, 0))
theorem StepIs.lt {w : World} {b : Nat} {x : St} (h : StepIs w b x) : b < w.heap.size := (Array.getElem?_eq_some_iff.1 h).1
theorem StepIs.cell {w : World} {b : Nat} {x : St} (h : StepIs w b x) (i : Nat) : w.cell? ⟨b, i, none⟩ = x.cells[i]? := by
  have h' : w.heap[b]? = some (.cells x.cells 49 (0, 0)) := h
  simp [World.cell?, h']
theorem StepIs.frozen {w : World} {b : Nat} {x : St} (h : StepIs w b x) (i : Nat) : w.frozen? ⟨b, i, none⟩ = false := by
  have h' : w.heap[b]? = some (.cells x.cells 49 (0, 0)) := h
  simp [World.frozen?, h']
theorem StepIs.later {w w1 : World} {b : Nat} {x : St} (h : StepIs w b x) (hb : Below w.heap.size w w1) : StepIs w1 b x := (hb.block b h.lt).trans h
theorem StepIs.set {w : World} {b : Nat} {x y : St} (h : StepIs w b x) (i : Nat) (v : Value) (hy : x.cells.setIfInBounds i v = y.cells) : StepIs (w.setCell ⟨b, i, none⟩ v) b y := by
  have h' : w.heap[b]? = some (.cells x.cells 49 (0, 0)) := h
  unfold StepIs
  rw [← hy]
  simp [World.setCell, Array.getElem?_modify, h']
theorem grown_below {w w1 : World} (hb : Below w.heap.size w w1) (row : Option Nat) : w.grownBy w1 row := ⟨hb.os, hb.tape, hb.output, hb.size, fun k hk _ => hb.block k hk⟩
theorem grown_set {w w1 : World} {b : Nat} (h : w.grownBy w1 (some b)) (i : Nat) (v : Value) : w.grownBy (w1.setCell ⟨b, i, none⟩ v) (some b) :=
  ⟨h.os, h.tape, h.output, by show w.heap.size ≤ (w1.heap.modify b _).size; rw [Array.size_modify]; exact h.size, fun k hk hne => (Below.heap_setCell w1 ⟨b, i, none⟩ v k (fun e => hne (by rw [e]))).trans (h.block k hk hne)⟩
/-- Whether a word tells the part p of a step, and the step with it. -/
def St.put (x : St) (p : Nat) (b : ByteArray) : Bool × St :=
  if p = 100 then ((regOf b).isSome, { x with d := ((regOf b).getD 0 : Nat) })
  else if p = 115 then (if (regOf b).isSome then (true, { x with s := ((regOf b).getD 0 : Nat), r := true }) else ((numOf b).isSome, { x with s := 0, r := false, n := (numOf b).getD 0 }))
  else if p = 111 then ((numOf b).isSome, { x with o := (numOf b).getD 0 })
  else if p = 102 then ((placeOf b).isSome, { x with s := (((placeOf b).getD (0, 0)).1 : Nat), o := ((placeOf b).getD (0, 0)).2 })
  else if p = 116 then ((placeOf b).isSome, { x with d := (((placeOf b).getD (0, 0)).1 : Nat), o := ((placeOf b).getD (0, 0)).2 })
  else (true, { x with n := (callOf b : Nat) })
theorem placeV_eq (b : ByteArray) : placeV b = .tuple #[.int .i64 (((placeOf b).getD (0, 0)).1 : Nat), .int .i64 ((placeOf b).getD (0, 0)).2, .bool (placeOf b).isSome] := by
  unfold placeV
  cases placeOf b with
  | none => rfl
  | some x => rfl
theorem place_any' (he : ∀ w, ex.holds w → ErrTabs w) (b : ByteArray) (w : World) (hb : b.size ≤ 100000) (hT : Tabs ex w) :
    Calls Tryz.prog 93 #[.string b] w fun e w' => e = .returned (.tuple #[.int .i64 (((placeOf b).getD (0, 0)).1 : Nat), .int .i64 ((placeOf b).getD (0, 0)).2, .bool (placeOf b).isSome]) ∧ Below w.heap.size w w' := by
  rw [← placeV_eq]; exact place_any he b w hb hT
theorem grown_trans {w w1 w2 : World} {row : Option Nat} (h : w.grownBy w1 row) (k : w1.grownBy w2 row) : w.grownBy w2 row :=
  ⟨k.os.trans h.os, k.tape.trans h.tape, k.output.trans h.output, Nat.le_trans h.size k.size, fun i hi hne => (k.block i (Nat.lt_of_lt_of_le hi h.size) hne).trans (h.block i hi hne)⟩
theorem Tabs.on_grown {w w1 : World} {k : Nat} (h : Tabs ex w) (hg : w.grownBy w1 (some k)) (hk : 14 ≤ k) : Tabs ex w1 :=
  h.on (B := 14) ⟨hg.os, hg.tape, hg.output, hg.size, fun i hi => hg.block i (Nat.lt_of_lt_of_le hi h.room) (fun e => by have := Option.some.inj e; omega)⟩ (Nat.le_refl _)
section
variable {w : World} {k : Nat} {x : St}
theorem put_any (he : ∀ w, ex.holds w → ErrTabs w) (b : ByteArray) (hb : b.size ≤ 100000) (hkb : 14 ≤ k) (p : Nat) (hp : p = 100 ∨ p = 115 ∨ p = 111 ∨ p = 102 ∨ p = 116 ∨ p = 99) (hs : StepIs w k x) (hT : Tabs ex w) :
    Calls Tryz.prog 56 #[.pointer (some ⟨k, 0, none⟩), .int .i32 p, .string b] w fun e w' => e = .returned (.bool (x.put p b).1) ∧ w.grownBy w' (some k) ∧ StepIs w' k (x.put p b).2 := by
  unfold St.put
  rcases hp with rfl | rfl | rfl | rfl | rfl | rfl
  · rw [if_pos rfl]
    go_enter Tryz.func56, Tryz.ntmps56
    go_wp2_with (go_at_call 90; refine (register_any _ _ hT).mono ?_; rintro e w1 ⟨rfl, hb1⟩; have hs1 := hs.later hb1; have c0 := hs1.cell 1; have f0 := hs1.frozen 1; simp only [St.cells] at c0)
    go_ret
    exact ⟨rfl, grown_set (grown_below hb1 _) _ _, hs1.set _ _ rfl⟩
  · rw [if_neg (by decide), if_pos rfl]
    cases hr : regOf b with
    | some r =>
      go_enter Tryz.func56, Tryz.ntmps56
      go_wp2_with (go_at_call 90; refine (register_any _ _ hT).mono ?_; rintro e w1 ⟨rfl, hb1⟩; have hs1 := hs.later hb1; have c2 := hs1.cell 2; have f2 := hs1.frozen 2; have c3 := hs1.cell 3; have f3 := hs1.frozen 3; simp only [St.cells] at c2 c3)
      go_ret
      exact ⟨rfl, grown_set (grown_set (grown_below hb1 _) _ _) _ _, (hs1.set (y := { x with s := (r : Int) }) 2 _ rfl).set 3 _ rfl⟩
    | none =>
      go_enter Tryz.func56, Tryz.ntmps56
      go_wp2_with (first
        | (go_at_call 90; refine (register_any _ _ hT).mono ?_; rintro e w1 ⟨rfl, hb1⟩; have hs1 := hs.later hb1; have c2 := hs1.cell 2; have f2 := hs1.frozen 2; have c3 := hs1.cell 3; have f3 := hs1.frozen 3; simp only [St.cells] at c2 c3; have hs1' := (hs1.set (y := { x with s := 0 }) 2 (.int .i64 0) rfl).set (y := { x with s := 0, r := false }) 3 (.bool false) rfl; have hg1 := grown_set (grown_set (grown_below hb1 (some k)) 2 (.int .i64 0)) 3 (.bool false); have hT1 : Tabs ex _ := hT.on_grown hg1 hkb)
        | (go_at_call 91; refine (number_any he _ _ hb hT1).mono ?_; rintro e w2 ⟨rfl, hb2⟩; have hs2 := hs1'.later hb2; have c5 := hs2.cell 5; have f5 := hs2.frozen 5; simp only [St.cells] at c5; have hg2 := grown_trans hg1 (grown_below hb2 (some k))))
      go_ret
      exact ⟨rfl, grown_set hg2 _ _, hs2.set 5 _ rfl⟩
  · rw [if_neg (by decide), if_neg (by decide), if_pos rfl]
    go_enter Tryz.func56, Tryz.ntmps56
    go_wp2_with (go_at_call 92; refine (offset_any he _ _ hb hT).mono ?_; rintro e w1 ⟨rfl, hb1⟩; have hs1 := hs.later hb1; have c4 := hs1.cell 4; have f4 := hs1.frozen 4; simp only [St.cells] at c4)
    go_ret
    exact ⟨rfl, grown_set (grown_below hb1 _) _ _, hs1.set 4 _ rfl⟩
  · rw [if_neg (by decide), if_neg (by decide), if_neg (by decide), if_pos rfl]
    go_enter Tryz.func56, Tryz.ntmps56
    go_wp2_with (go_at_call 93; refine (place_any' he _ _ hb hT).mono ?_; rintro e w1 ⟨rfl, hb1⟩; have hs1 := hs.later hb1; have c2 := hs1.cell 2; have f2 := hs1.frozen 2; have c4 := hs1.cell 4; have f4 := hs1.frozen 4; simp only [St.cells] at c2 c4)
    go_ret
    exact ⟨rfl, grown_set (grown_set (grown_below hb1 _) _ _) _ _, (hs1.set (y := { x with s := (((placeOf b).getD (0, 0)).1 : Nat) }) 2 _ rfl).set 4 _ rfl⟩
  · rw [if_neg (by decide), if_neg (by decide), if_neg (by decide), if_neg (by decide), if_pos rfl]
    go_enter Tryz.func56, Tryz.ntmps56
    go_wp2_with (go_at_call 93; refine (place_any' he _ _ hb hT).mono ?_; rintro e w1 ⟨rfl, hb1⟩; have hs1 := hs.later hb1; have c1 := hs1.cell 1; have f1 := hs1.frozen 1; have c4 := hs1.cell 4; have f4 := hs1.frozen 4; simp only [St.cells] at c1 c4)
    go_ret
    exact ⟨rfl, grown_set (grown_set (grown_below hb1 _) _ _) _ _, (hs1.set (y := { x with d := (((placeOf b).getD (0, 0)).1 : Nat) }) 1 _ rfl).set 4 _ rfl⟩
  · rw [if_neg (by decide), if_neg (by decide), if_neg (by decide), if_neg (by decide), if_neg (by decide)]
    have c5 := hs.cell 5
    have f5 := hs.frozen 5
    simp only [St.cells] at c5
    go_enter Tryz.func56, Tryz.ntmps56
    go_wp2_with (go_at_call 94; refine (callOf_any _ _ hT).mono ?_; rintro e w1 ⟨rfl, rfl⟩)
    go_ret
    exact ⟨rfl, grown_set (grown_below (Below.refl _ _) _) _ _, hs.set 5 _ rfl⟩
end
end Go.Proofs.YtegeiicginpdbaaGreatDoor
