/-
  What asm.Read returns to a text: the steps that it tells, or which piece is none, or what op.Check returned; the world below is as it was. Conditions: the tables lie in memory, the library's two errors are errors, the text is short. A program as text: what asm.Write returns to a list of steps in memory: the steps' texts, with a semicolon and a blank between, or what op.Check returned; the world below is as it was. Conditions: the list's cells hold steps with numbers of 64 bits, the tables lie in memory. The words of a step that nothing is wrong with: each is clean, and names, registers, numbers and places are read as what they were written of. The text of a program that nothing is wrong with tells that program. The steps that a written program's text tells: those that were written. What asm.Read returns to the text of a program that nothing is wrong with: that program. The numbers of a step that is told fit in 64 bits. What errors.As answers at a target that is an *api.Errno: nil: false; an Errno, or an *At around one: true, and the target gets it; four new blocks. Conditions: the library's variable errorType holds the handle of the type error, and the target's cell is there and not frozen. What api.Tell, plain.Place and the statements' own 'is' answer at nil, at an Errno, and at an *At around an Errno; the world below is as it was. Conditions: the library's variable errorType holds the handle of the type error; the At's cells are there. gatehousekeep.let and gatehousekeep.runs are true. Conditions: the library's tables are as they are laid.
-/
import Derived.Test.YtednmkhdehlojaaGreatDoorJs17
import Derived.Test.YtednmkhdehlojaaGreatDoorJs5
import Derived.Shelf.RegionOpen
import Derived.Test.YtednmkhdehlojaaGreatDoorRows
import Derived.WalkKit
import Derived.ProofKit
import Derived.LaidEql
import Derived.Stop.Asserts
import Derived.RowKitTokens
import Derived.Deep.QuietTactic
import Derived.BigQuiet
import Derived.WalkLawsBesides
import Derived.Test.YtednmkhdehlojaaGreatDoorJs15
import Derived.Test.YtednmkhdehlojaaGreatDoorJs6
import Derived.RegionTactic
open Go.Value renaming int → vI
open Go.IntKind renaming i64 → vK
open Go.RowKit.Below renaming alloc → bA, setCell → bS, drew → bD, refl → bF
set_option maxHeartbeats 4000000
set_option maxRecDepth 1000000
namespace Go.Proofs.YtednmkhdehlojaaGreatDoor
open Go.ChangeShapes Go.WideShapes Go.ChangeAt Go.RowKit Go.Shelf
variable {ex : Ext}
attribute [local go_sem] Oper.semAt_some

section
variable {w w1 : World} {base base' n size : Nat} {e : TypeId} {v : Value} {xs : List Value}
theorem ownN_later (h : w.ownsRow base e size v n xs) (hb : Below w.heap.size w w1) : w1.ownsRow base e size v n xs :=
  h.kept (row := none) ⟨hb.os, hb.tape, hb.output, hb.size, fun k hk _ => hb.block k hk⟩ (by cases v.ownBlock <;> simp)
theorem ownN_from (h : w.ownsRow base e size v n xs) : ∀ k, v.ownBlock = some k → base ≤ k := by
  intro k hk
  rcases h.2 with ⟨rfl, _⟩ | ⟨g, cap, cur, rfl, hb, _⟩
  · simp [Value.ownBlock] at hk
  · simp [Value.ownBlock] at hk; omega
theorem ownN_lower (h : w.ownsRow base e size v n xs) (hb : base' ≤ base) : w.ownsRow base' e size v n xs := by
  refine ⟨h.1, ?_⟩
  rcases h.2 with hn | ⟨g, cap, cur, rfl, hg, rest⟩
  · exact .inl hn
  · exact .inr ⟨g, cap, cur, rfl, Nat.le_trans hb hg, rest⟩
theorem ownN_shape (h : w.ownsRow base e size v n xs) (hn : 0 < n) : ∃ g cap, v = .slice (some ⟨g, 0, none⟩) n cap := by
  rcases h.2 with ⟨_, rfl⟩ | ⟨g, cap, _, rfl, _⟩
  · omega
  · exact ⟨g, cap, rfl⟩
end
theorem collectedN {W w1 : World} {B n₁ size : Nat} {t e : TypeId} {v v' : Value} {k m : Nat} {xs ys : List Value} {tmp : Obj} (hv : Boxed W B t v) (hB : B < n₁) (hn₁ : n₁ ≤ W.heap.size) (hrow : W.ownsRow n₁ e size v k xs)
    (hown' : w1.ownsRow n₁ e size v' m ys) (hgrow : (W.alloc tmp).grownBy w1 v.ownBlock) :
    Boxed w1 B t v ∧ Boxed (w1.setCell ⟨B, 0, none⟩ v') B t v' ∧ (w1.setCell ⟨B, 0, none⟩ v').ownsRow n₁ e size v' m ys ∧ KeepsOthers W (w1.setCell ⟨B, 0, none⟩ v') ∧ Below B W (w1.setCell ⟨B, 0, none⟩ v')
      ∧ ∀ j, j < n₁ → j ≠ B → (w1.setCell ⟨B, 0, none⟩ v').heap[j]? = W.heap[j]? := by
  have hf := ownN_from hrow
  have hk : ∀ j, j < n₁ → w1.heap[j]? = W.heap[j]? := fun j hj => (hgrow.block j (by simp; omega) (fun e => by have := hf j e.symm; omega)).trans (Below.heap_alloc _ _ _ (by omega))
  have hb1 : Boxed w1 B t v := (hk B hB).trans hv
  refine ⟨hb1, hb1.set v', ownsRow_setCell_below hown' hB v', ?_, ?_, fun j hj hne => (Below.heap_setCell w1 ⟨B, 0, none⟩ v' j hne).trans (hk j hj)⟩
  · refine ((KeepsOthers.alloc W tmp).trans (KeepsOthers.of_grownBy hgrow fun j o e ho => ?_)).trans (KeepsOthers.setCell _ _ _)
    rcases (hrow.alloc tmp).2 with ⟨rfl, _⟩ | ⟨g, cap, cur, rfl, _, hg, _⟩
    · simp [Value.ownBlock] at e
    · simp [Value.ownBlock] at e
      subst e; rw [hg] at ho; cases ho; rfl
  · exact (((bF B W).alloc (by omega) tmp).grown hgrow (by simp; omega) (fun j e => by have := hf j e; omega)).setCell (Nat.le_refl _) _
theorem boxed_later {W w1 : World} {b : Nat} {ty : TypeId} {v : Value} (h : Boxed W b ty v) (hb : Below W.heap.size W w1) : Boxed w1 b ty v := (hb.block b h.lt).trans h
def tells (p : ByteArray) : Option St := stepOf ((fieldsOf p).take 5)
def toldBy (ps : List ByteArray) : List St := ps.map fun p => (tells p).getD St.zero
def cellsOf (xs : List St) : List Value := (xs.map fun x => x.cells.toList).flatten
theorem cellsOf_append (xs : List St) (x : St) : cellsOf (xs ++ [x]) = cellsOf xs ++ x.cells.toList := by simp [cellsOf]
theorem Tryz.infoStep : (Tryz.prog.info? 49).map (fun i => (i.zero, i.size, i.bytes)) = some (some (.agg St.zero.cells), 6, 48) := by kernel_rfl
def Stab {β : Type} (B Bs : Nat) (I : β → World → Prop) : Prop := ∀ s W W' row, I s W → W.grownBy W' row → (∀ r, row = some r → (B ≤ r ∧ ∃ o : Obj, W.heap[r]? = some o ∧ o.isCells = false) ∨ r = Bs) → I s W'
theorem Stab.own {β : Type} {B Bs : Nat} {I : β → World → Prop} (h : Stab B Bs I) : OwnFrom B I := fun s W W' row hs hg hr => h s W W' row hs hg fun r e => Or.inl (hr r e)
theorem Stab.abide {β : Type} {B Bs : Nat} {I : β → World → Prop} (h : Stab B Bs I) : Abide Bs I := fun s W W' row hs hg hr => h s W W' row hs hg fun r e => by
  rcases hr with k | k
  · rw [k] at e; cases e
  · rw [k] at e; exact Or.inr (Option.some.inj e).symm
theorem stab_cells {W W' : World} {row : Option Nat} {B Bs k : Nat} {c : Array Value} {t : TypeId} {fz : Nat × Nat} (hg : W.grownBy W' row) (hr : ∀ r, row = some r → (B ≤ r ∧ ∃ o : Obj, W.heap[r]? = some o ∧ o.isCells = false) ∨ r = Bs) (hk : W.heap[k]? = some (.cells c t fz)) (hne : k ≠ Bs) : W'.heap[k]? = some (.cells c t fz) := by
  refine (hg.block k (Array.getElem?_eq_some_iff.1 hk).1 fun e => ?_).trans hk
  rcases hr k e.symm with ⟨_, o, ho, hc⟩ | h
  · rw [hk] at ho; cases ho; cases hc
  · exact hne h
theorem stab_own {W W' : World} {row : Option Nat} {B Bs base n size : Nat} {e : TypeId} {v : Value} {xs : List Value} (hg : W.grownBy W' row) (hr : ∀ r, row = some r → (B ≤ r ∧ ∃ o : Obj, W.heap[r]? = some o ∧ o.isCells = false) ∨ r = Bs) (h : W.ownsRow base e size v n xs) (hb : Bs < base) : W'.ownsRow base e size v n xs := by
  refine ⟨h.1, ?_⟩
  rcases h.2 with hn | ⟨g, cap, cur, rfl, hbg, hgg, rest⟩
  · exact .inl hn
  · exact .inr ⟨g, cap, cur, rfl, hbg, stab_cells hg hr hgg (by omega), rest⟩
theorem stab_below {W W' w : World} {row : Option Nat} {B Bs : Nat} (hg : W.grownBy W' row) (hr : ∀ r, row = some r → (B ≤ r ∧ ∃ o : Obj, W.heap[r]? = some o ∧ o.isCells = false) ∨ r = Bs) (h : Below w.heap.size w W) (h1 : w.heap.size ≤ B) (h2 : w.heap.size ≤ Bs) : Below w.heap.size w W' :=
  h.trans ⟨hg.os, hg.tape, hg.output, hg.size, fun k hk => hg.block k (Nat.lt_of_lt_of_le hk h.size) fun e => by
    rcases hr k e.symm with ⟨hb, _⟩ | hb
    · omega
    · omega⟩
theorem pieces_length : ∀ (f : Nat) (t : ByteArray), (piecesFrom f t).length ≤ f + 1
  | 0, t => by simp [piecesFrom]
  | f + 1, t => by
    by_cases h : 0 ≤ semi t
    · rw [pieces_cut h, List.length_cons]; have := pieces_length f (t.extract ((semi t).toNat + 1) t.size); omega
    · rw [pieces_end h]; simp
def Going (ex : Ext) (w : World) (pre : List Short) (W : World) : Prop :=
  (∃ v, Boxed W (w.heap.size + 2) 22 v ∧ W.ownsRow (w.heap.size + 7) 49 6 v (min pre.length 201) (cellsOf ((toldBy (pre.map (·.1))).take 201))) ∧ (∀ x ∈ pre, (tells x.1).isSome = true) ∧ Boxed W (w.heap.size + 3) 3 (vI vK pre.length)
  ∧ Boxed W w.heap.size 22 (.slice none 0 0) ∧ Boxed W (w.heap.size + 1) 29 .nilIface ∧ Below w.heap.size w W ∧ w.heap.size + 7 ≤ W.heap.size ∧ Tabs ex W
def Left (w : World) (c : Code) (pre : List Short) (W : World) : Prop :=
  c = .ret ∧ ∃ (pre0 : List Short) (x : Short) (p : Nat), pre = pre0 ++ [x] ∧ (∀ y ∈ pre0, (tells y.1).isSome = true) ∧ tells x.1 = none ∧ Boxed W w.heap.size 22 (.slice none 0 0) ∧ Boxed W (w.heap.size + 1) 29 (.iface 74 (.pointer (some ⟨p, 0, none⟩)))
    ∧ w.heap.size + 7 ≤ p ∧ W.heap[p]? = some (.cells #[vI vK 3, vI vK pre0.length] 75 (0, 0)) ∧ Below w.heap.size w W
theorem keeps_below {W w1 : World} (hb : Below W.heap.size W w1) : KeepsOthers W w1 := ⟨hb.size, fun k _ hk _ => (hb.block k (Array.getElem?_eq_some_iff.1 hk).1).trans hk⟩
theorem size_set (w : World) (p : Addr) (u : Value) : (w.setCell p u).heap.size = w.heap.size := by
  show (w.heap.modify p.block _).size = _
  rw [Array.size_modify]
theorem left_end {B : Nat} {w W w1 : World} {pre : List Short} {x : Short} {S : Obj} (hb1 : Below W.heap.size W w1) (hall : ∀ y ∈ pre, (tells y.1).isSome = true) (htl : tells x.1 = none) (hR : Boxed W w.heap.size 22 (.slice none 0 0)) (hE : Boxed W (w.heap.size + 1) 29 .nilIface) (hB : Below w.heap.size w W) (hsz : w.heap.size + 7 ≤ W.heap.size) :
    KeepsFrom B W ((((w1.setCell ⟨w.heap.size, 0, none⟩ (.slice none 0 0)).setCell ⟨w.heap.size + 1, 0, none⟩ (.iface 74 (.pointer (some ⟨w1.heap.size + 1, 0, none⟩)))).alloc S).alloc (.cells #[vI vK 3, vI vK pre.length] 75)).drew
      ∧ Left w .ret (pre ++ [x]) ((((w1.setCell ⟨w.heap.size, 0, none⟩ (.slice none 0 0)).setCell ⟨w.heap.size + 1, 0, none⟩ (.iface 74 (.pointer (some ⟨w1.heap.size + 1, 0, none⟩)))).alloc S).alloc (.cells #[vI vK 3, vI vK pre.length] 75)).drew := by
  have hs := hb1.size
  refine ⟨(((((keeps_below hb1).trans (KeepsOthers.setCell _ _ _)).trans (KeepsOthers.setCell _ _ _)).trans (KeepsOthers.alloc _ _)).trans (KeepsOthers.alloc _ _)).trans (KeepsOthers.drew _) |>.from _, rfl, pre, x, w1.heap.size + 1, rfl, hall, htl, ?_, ?_, by omega, ?_, ?_⟩
  · exact ((Boxed.other_box ((boxed_later hR hb1).set _) (by omega) _).alloc _).alloc _
  · exact (((Boxed.other_box (boxed_later hE hb1) (by omega) _).set _).alloc _).alloc _
  · have h := World.alloc_heap_new (((w1.setCell ⟨w.heap.size, 0, none⟩ (.slice none 0 0)).setCell ⟨w.heap.size + 1, 0, none⟩ (.iface 74 (.pointer (some ⟨w1.heap.size + 1, 0, none⟩)))).alloc S) (.cells #[vI vK 3, vI vK pre.length] 75)
    rw [World.size_alloc, size_set, size_set] at h
    exact h
  · exact ((((hB.trans (hb1.mono (by omega))).setCell (Nat.le_refl _) _).setCell (by show w.heap.size ≤ w.heap.size + 1; omega) _).alloc (by rw [size_set, size_set]; omega) _).alloc (by rw [World.size_alloc, size_set, size_set]; omega) _ |>.drew
theorem ownN_slice {w : World} {base n size : Nat} {e : TypeId} {v : Value} {xs : List Value} (h : w.ownsRow base e size v n xs) : ∃ a c, v = .slice a n c := by
  rcases h.2 with ⟨rfl, rfl⟩ | ⟨g, cap, cur, rfl, _⟩
  · exact ⟨_, _, rfl⟩
  · exact ⟨_, _, rfl⟩
theorem told_more (pre : List Short) {x : Short} {st : St} (h : tells x.1 = some st) : toldBy ((pre ++ [x]).map (·.1)) = toldBy (pre.map (·.1)) ++ [st] := by simp [toldBy, h]
theorem told_length (ps : List ByteArray) : (toldBy ps).length = ps.length := by simp [toldBy]
theorem take_fewer {xs : List St} {x : St} (h : xs.length ≤ 200) : (xs ++ [x]).take 201 = xs.take 201 ++ [x] := by
  rw [List.take_of_length_le (by rw [List.length_append]; simp; omega), List.take_of_length_le (by omega)]
theorem take_same {xs : List St} {x : St} (h : ¬ xs.length ≤ 200) : (xs ++ [x]).take 201 = xs.take 201 := List.take_append_of_le_length (by omega)
theorem cells_six {w : World} {b : Nat} {x : St} (hb : b = w.heap.size) : ∀ (j : Nat) u, x.cells.toList[j]? = some u → (w.alloc (.cells x.cells 49)).cell? ((⟨b, 0, none⟩ : Addr).add j) = some u := by
  subst hb
  intro j u hj
  have e : (⟨w.heap.size, 0, none⟩ : Addr).add j = ⟨w.heap.size, j, none⟩ := by unfold Addr.add; split <;> simp_all
  rw [e, World.cell?_alloc_at _ _ _ _ rfl]
  simpa using hj
theorem six_one (x : St) : ∀ u ∈ x.cells.toList, u.oneCell' = true := by
  intro u hu
  simp [St.cells] at hu
  rcases hu with rfl | rfl | rfl | rfl | rfl | rfl <;> rfl
section
variable {w W w1 : World} {pre : List Short} {x : Short} {st : St} {v : Value}
theorem counted (hb1 : Below W.heap.size W w1) (hg : Going ex w pre W) (S : Obj) :
    Boxed ((w1.setCell ⟨w.heap.size + 3, 0, none⟩ (vI vK ((pre.length : Int) + 1))).alloc S) (w.heap.size + 3) 3 (vI vK ((pre.length : Int) + 1))
    ∧ Boxed ((w1.setCell ⟨w.heap.size + 3, 0, none⟩ (vI vK ((pre.length : Int) + 1))).alloc S) w.heap.size 22 (.slice none 0 0)
    ∧ Boxed ((w1.setCell ⟨w.heap.size + 3, 0, none⟩ (vI vK ((pre.length : Int) + 1))).alloc S) (w.heap.size + 1) 29 .nilIface
    ∧ Below w.heap.size W ((w1.setCell ⟨w.heap.size + 3, 0, none⟩ (vI vK ((pre.length : Int) + 1))).alloc S)
    ∧ KeepsOthers W ((w1.setCell ⟨w.heap.size + 3, 0, none⟩ (vI vK ((pre.length : Int) + 1))).alloc S)
    ∧ (∀ j, j < w.heap.size + 7 → j ≠ w.heap.size + 3 → ((w1.setCell ⟨w.heap.size + 3, 0, none⟩ (vI vK ((pre.length : Int) + 1))).alloc S).heap[j]? = W.heap[j]?) := by
  obtain ⟨_, _, hC, hR, hE, hB, hsz, _⟩ := hg
  have hs := hb1.size
  refine ⟨((boxed_later hC hb1).set _).alloc _, (Boxed.other_box (boxed_later hR hb1) (by omega) _).alloc _, (Boxed.other_box (boxed_later hE hb1) (by omega) _).alloc _, ?_, ((keeps_below hb1).trans (KeepsOthers.setCell _ _ _)).trans (KeepsOthers.alloc _ _), fun j hj hne => ?_⟩
  · exact ((hb1.mono (by omega)).setCell (by show w.heap.size ≤ w.heap.size + 3; omega) _).alloc (by rw [size_set]; omega) _
  · exact (Below.heap_alloc _ _ _ (by rw [size_set]; omega)).trans ((Below.heap_setCell _ _ _ _ hne).trans (hb1.block j (by omega)))
theorem all_more (hall : ∀ y ∈ pre, (tells y.1).isSome = true) (htl : tells x.1 = some st) : ∀ y ∈ pre ++ [x], (tells y.1).isSome = true := by
  intro y hy
  rcases List.mem_append.1 hy with h | h
  · exact hall y h
  · rw [List.mem_singleton.1 h, htl]; rfl
theorem going_app {W4 : World} {S : Obj} {v' : Value} {m : Nat} (hgo : Going ex w pre W) (hw : 14 ≤ w.heap.size) (hb1 : Below W.heap.size W w1) (h200 : pre.length ≤ 200) (htl : tells x.1 = some st) (hm : m = pre.length) (hv2 : Boxed W4 (w.heap.size + 2) 22 v')
    (hr2 : W4.ownsRow (w.heap.size + 7) 49 6 v' (m + 1) (cellsOf ((toldBy (pre.map (·.1))).take 201) ++ st.cells.toList)) (hj : ∀ j, j < w.heap.size + 7 → j ≠ w.heap.size + 2 → W4.heap[j]? = ((w1.setCell ⟨w.heap.size + 3, 0, none⟩ (vI vK ((pre.length : Int) + 1))).alloc S).heap[j]?) (hb : Below (w.heap.size + 2) ((w1.setCell ⟨w.heap.size + 3, 0, none⟩ (vI vK ((pre.length : Int) + 1))).alloc S) W4) :
    Going ex w (pre ++ [x]) W4 ∧ KeepsSet w.heap.size [w.heap.size + 5, w.heap.size + 4, w.heap.size + 6] W W4 := by
  obtain ⟨bC, bR, bE, hB2, _, hk2⟩ := counted hb1 hgo S
  obtain ⟨_, hall, _, _, _, hB, hsz, hT⟩ := hgo
  have hBW : Below w.heap.size W W4 := hB2.trans (hb.mono (by omega))
  have hlen : (toldBy (pre.map (·.1))).length ≤ 200 := by rw [told_length, List.length_map]; exact h200
  refine ⟨⟨⟨v', hv2, ?_⟩, all_more hall htl, ?_, (hj _ (by omega) (by omega)).trans bR, (hj _ (by omega) (by omega)).trans bE, hB.trans hBW, Nat.le_trans hsz hBW.size, hT.on hBW hw⟩, hBW, fun b hb' => ?_⟩
  · rw [told_more pre htl, take_fewer hlen, cellsOf_append, List.length_append, show min (pre.length + [x].length) 201 = m + 1 by simp; omega]
    exact hr2
  · rw [List.length_append]
    exact ((hj _ (by omega) (by omega)).trans bC)
  · have : b = w.heap.size + 5 ∨ b = w.heap.size + 4 ∨ b = w.heap.size + 6 := by simpa using hb'
    exact (hj b (by omega) (by omega)).trans (hk2 b (by omega) (by omega))
theorem going_skip {S : Obj} (hgo : Going ex w pre W) (hw : 14 ≤ w.heap.size) (hb1 : Below W.heap.size W w1) (h200 : ¬ pre.length ≤ 200) (htl : tells x.1 = some st) :
    Going ex w (pre ++ [x]) ((w1.setCell ⟨w.heap.size + 3, 0, none⟩ (vI vK ((pre.length : Int) + 1))).alloc S) ∧ KeepsSet w.heap.size [w.heap.size + 5, w.heap.size + 4, w.heap.size + 6] W ((w1.setCell ⟨w.heap.size + 3, 0, none⟩ (vI vK ((pre.length : Int) + 1))).alloc S) := by
  obtain ⟨bC, bR, bE, hB2, _, hk2⟩ := counted hb1 hgo S
  obtain ⟨⟨v, hv, hrow⟩, hall, _, _, _, hB, hsz, hT⟩ := hgo
  have hlen : ¬ (toldBy (pre.map (·.1))).length ≤ 200 := by rw [told_length, List.length_map]; exact h200
  refine ⟨⟨⟨v, (hk2 _ (by omega) (by omega)).trans hv, ?_⟩, all_more hall htl, ?_, bR, bE, hB.trans hB2, Nat.le_trans hsz hB2.size, hT.on hB2 hw⟩, hB2, fun b hb' => ?_⟩
  · rw [told_more pre htl, take_same hlen, List.length_append, show min (pre.length + [x].length) 201 = min pre.length 201 by simp; omega]
    exact (ownsRow_setCell_below (ownN_later hrow hb1) (a := ⟨w.heap.size + 3, 0, none⟩) (by show w.heap.size + 3 < w.heap.size + 7; omega) _).alloc S
  · rw [List.length_append]; exact bC
  · have : b = w.heap.size + 5 ∨ b = w.heap.size + 4 ∨ b = w.heap.size + 6 := by simpa using hb'
    exact hk2 b (by omega) (by omega)
end
theorem going_stab (ex : Ext) (w : World) (hw : 14 ≤ w.heap.size) : Stab (w.heap.size + 7) (w.heap.size + 4) (Going ex w) := by
  rintro pre W W' row ⟨⟨v, hv, hrow⟩, hall, hC, hR, hE, hB, hsz, hT⟩ hg hr
  have hB' := stab_below hg hr hB (by omega) (by omega)
  refine ⟨⟨v, stab_cells hg hr hv (by omega), stab_own hg hr hrow (by omega)⟩, hall, stab_cells hg hr hC (by omega), stab_cells hg hr hR (by omega), stab_cells hg hr hE (by omega), hB', Nat.le_trans hsz hg.size, ?_⟩
  refine hT.on (B := w.heap.size) ⟨hg.os, hg.tape, hg.output, hg.size, fun k hk => hg.block k (by omega) fun e => ?_⟩ hw
  rcases hr k e.symm with ⟨hb, _⟩ | hb
  · omega
  · omega
theorem left_stab (w : World) (c : Code) : Stab (w.heap.size + 7) (w.heap.size + 4) (Left w c) := by
  rintro pre W W' row ⟨hc, pre0, x, p, hpre, hall, hx, hR, hE, hp7, hp, hB⟩ hg hr
  exact ⟨hc, pre0, x, p, hpre, hall, hx, stab_cells hg hr hR (by omega), stab_cells hg hr hE (by omega), hp7, stab_cells hg hr hp (by omega), stab_below hg hr hB (by omega) (by omega)⟩
theorem pieces_some : ∀ (f : Nat) (t : ByteArray), 0 < (piecesFrom f t).length
  | 0, t => by simp [piecesFrom]
  | f + 1, t => by
    by_cases h : 0 ≤ semi t
    · rw [pieces_cut h]; simp
    · rw [pieces_end h]; simp
def nth (xs : List St) (j : Nat) : St := xs[j]?.getD St.zero
theorem nth_cons (x : St) (xs : List St) (j : Nat) : nth (x :: xs) (j + 1) = nth xs j := by simp [nth]
theorem cells_length (x : St) : x.cells.toList.length = 6 := rfl
theorem cells_at : ∀ (xs : List St) (i k : Nat), i < xs.length → k < 6 → (cellsOf xs)[i * 6 + k]? = (nth xs i).cells.toList[k]?
  | [], i, k, h, _ => by simp at h
  | x :: xs, 0, k, _, hk => by
    show (cellsOf (x :: xs))[0 * 6 + k]? = _
    rw [Nat.zero_mul, Nat.zero_add, show cellsOf (x :: xs) = x.cells.toList ++ cellsOf xs by simp [cellsOf], List.getElem?_append_left (by rw [cells_length]; exact hk)]
    rfl
  | x :: xs, i + 1, k, h, hk => by
    rw [show cellsOf (x :: xs) = x.cells.toList ++ cellsOf xs by simp [cellsOf], List.getElem?_append_right (by rw [cells_length]; omega), cells_length, show (i + 1) * 6 + k - 6 = i * 6 + k by omega, cells_at xs i k (by simpa using h) hk, nth_cons]
theorem row_cell {W : World} {base g n cap : Nat} {xs : List St} (h : W.ownsRow base 49 6 (.slice (some ⟨g, 0, none⟩) n cap) n (cellsOf xs)) (hl : xs.length = n) {i k : Nat} (hi : i < n) (hk : k < 6) : W.cell? ⟨g, 0 + i * 6 + k, none⟩ = (nth xs i).cells.toList[k]? := by
  rcases h.2 with ⟨hc, _⟩ | ⟨g', cap', cur, hc, _, hg, _, _, _, ht⟩
  · cases hc
  · cases hc
    rw [← cells_at xs i k (by omega) hk, ← ht, List.getElem?_take_of_lt (by omega)]
    simp [World.cell?, hg]
theorem row_steps {W : World} {base g n cap : Nat} {xs : List St} (h : W.ownsRow base 49 6 (.slice (some ⟨g, 0, none⟩) n cap) n (cellsOf xs)) (hl : xs.length = n) :
    StepsAt W g 0 n (fun j => (nth xs j).c) (fun j => (nth xs j).d) (fun j => (nth xs j).s) (fun j => (nth xs j).r) (fun j => (nth xs j).o) (fun j => (nth xs j).n) := fun i hi =>
  ⟨row_cell h hl hi (k := 0) (by omega), row_cell h hl hi (k := 1) (by omega), row_cell h hl hi (k := 2) (by omega), row_cell h hl hi (k := 3) (by omega), row_cell h hl hi (k := 4) (by omega), row_cell h hl hi (k := 5) (by omega)⟩
theorem row_lt {W : World} {base g n cap size : Nat} {e : TypeId} {xs : List Value} (h : W.ownsRow base e size (.slice (some ⟨g, 0, none⟩) n cap) n xs) : g < W.heap.size := by
  rcases h.2 with ⟨hc, _⟩ | ⟨g', cap', cur, hc, _, hg, _⟩
  · cases hc
  · cases hc
    exact (Array.getElem?_eq_some_iff.1 hg).1
def faultOf (xs : List St) (j : Nat) : Int := faultAt xs.length (fun j => (nth xs j).c) (fun j => (nth xs j).d) (fun j => (nth xs j).s) (fun j => (nth xs j).r) (fun j => (nth xs j).o) (fun j => (nth xs j).n) j
theorem check_fine {W : World} {base g n cap : Nat} {xs : List St} (hrow : W.ownsRow base 49 6 (.slice (some ⟨g, 0, none⟩) n cap) n (cellsOf xs)) (hl : xs.length = n) (h1 : 0 < n) (h2 : n ≤ 200) (hno : ∀ j, j < n → faultOf xs j = 0) :
    Calls Tryz.prog 18 #[.slice (some ⟨g, 0, none⟩) n cap] W fun e w1 => e = .returned .nilIface ∧ Below W.heap.size W w1 := by
  subst hl
  exact opCheck_fine hno (row_steps hrow rfl) h1 h2 (row_lt hrow)
theorem check_bad {W : World} {base g n cap i : Nat} {xs : List St} (hrow : W.ownsRow base 49 6 (.slice (some ⟨g, 0, none⟩) n cap) n (cellsOf xs)) (hl : xs.length = n) (h1 : 0 < n) (h2 : n ≤ 200) (hi : i < n) (hno : ∀ j, j < i → faultOf xs j = 0) (hf : faultOf xs i ≠ 0) :
    Calls Tryz.prog 18 #[.slice (some ⟨g, 0, none⟩) n cap] W fun e w1 => ∃ p, e = .returned (.iface 74 (.pointer (some ⟨p, 0, none⟩))) ∧ Below W.heap.size W w1 ∧ p < w1.heap.size ∧ w1.cell? ⟨p, 0, none⟩ = some (vI vK (faultOf xs i)) ∧ w1.cell? ⟨p, 1, none⟩ = some (vI vK i) := by
  subst hl
  exact opCheck_bad hi hno hf (row_steps hrow rfl) h1 h2 (row_lt hrow)
def ReadEnds (w : World) (s : ByteArray) (e : Ending) (W : World) : Prop :=
  Below w.heap.size w W ∧
  ((∃ pre x post p, piecesOf s = pre ++ x :: post ∧ (∀ y ∈ pre, (tells y).isSome = true) ∧ tells x = none ∧ e = .returned (.tuple #[.slice none 0 0, .iface 74 (.pointer (some ⟨p, 0, none⟩))]) ∧ p < W.heap.size ∧ W.cell? ⟨p, 0, none⟩ = some (vI vK 3) ∧ W.cell? ⟨p, 1, none⟩ = some (vI vK pre.length))
  ∨ ((∀ y ∈ piecesOf s, (tells y).isSome = true) ∧
    ((200 < (piecesOf s).length ∧ e = .returned (.tuple #[.slice none 0 0, .iface 23 (vI vK 4)]))
    ∨ ((piecesOf s).length ≤ 200 ∧
      ((∃ i p, i < (piecesOf s).length ∧ (∀ j, j < i → faultOf (toldBy (piecesOf s)) j = 0) ∧ faultOf (toldBy (piecesOf s)) i ≠ 0 ∧ e = .returned (.tuple #[.slice none 0 0, .iface 74 (.pointer (some ⟨p, 0, none⟩))]) ∧ p < W.heap.size ∧ W.cell? ⟨p, 0, none⟩ = some (vI vK (faultOf (toldBy (piecesOf s)) i)) ∧ W.cell? ⟨p, 1, none⟩ = some (vI vK i))
      ∨ ((∀ j, j < (piecesOf s).length → faultOf (toldBy (piecesOf s)) j = 0) ∧ ∃ g cap, e = .returned (.tuple #[.slice (some ⟨g, 0, none⟩) (piecesOf s).length cap, .nilIface]) ∧ W.ownsRow w.heap.size 49 6 (.slice (some ⟨g, 0, none⟩) (piecesOf s).length cap) (piecesOf s).length (cellsOf (toldBy (piecesOf s)))))))))
section
variable {w1 : World} {B D : Nat} {v1 v2 u1 u2 : Value}
theorem box_apart {t : TypeId} {u : Value} (h : Boxed w1 B t u) (hK : w1.heap[D]? = some (.deferred (some []))) : D ≠ B := by
  rintro rfl
  have h' : w1.heap[D]? = _ := h
  rw [hK] at h'; cases h'
theorem out_deferred (hR : Boxed w1 B 22 u1) (hE : Boxed w1 (B + 1) 29 u2) (hK : w1.heap[D]? = some (.deferred (some []))) : ((w1.setCell ⟨B, 0, none⟩ v1).setCell ⟨B + 1, 0, none⟩ v2).heap[D]? = some (.deferred (some [])) :=
  (Below.heap_setCell _ _ _ _ (box_apart hE hK)).trans ((Below.heap_setCell _ _ _ _ (box_apart hR hK)).trans hK)
theorem put_apart {W : World} {k : Nat} {o : Obj} (h : k ≠ D) : (W.putObj D o).heap[k]? = W.heap[k]? := World.putObj_heap_other h
theorem out_first (hR : Boxed w1 B 22 u1) (hK : w1.heap[D]? = some (.deferred (some []))) : Boxed (((w1.setCell ⟨B, 0, none⟩ v1).setCell ⟨B + 1, 0, none⟩ v2).putObj D (.deferred none)) B 22 v1 :=
  (put_apart (box_apart hR hK).symm).trans (Boxed.other_box (hR.set v1) (by omega) _)
theorem out_second (hE : Boxed w1 (B + 1) 29 u2) (hK : w1.heap[D]? = some (.deferred (some []))) : Boxed (((w1.setCell ⟨B, 0, none⟩ v1).setCell ⟨B + 1, 0, none⟩ v2).putObj D (.deferred none)) (B + 1) 29 v2 :=
  (put_apart (box_apart hE hK).symm).trans ((Boxed.other_box hE (by omega) _).set v2)
theorem out_other {k : Nat} (h1 : k ≠ B) (h2 : k ≠ B + 1) (h3 : k ≠ D) : (((w1.setCell ⟨B, 0, none⟩ v1).setCell ⟨B + 1, 0, none⟩ v2).putObj D (.deferred none)).heap[k]? = w1.heap[k]? :=
  (put_apart h3).trans ((Below.heap_setCell _ _ _ _ h2).trans (Below.heap_setCell _ _ _ _ h1))
theorem out_below {w : World} (hB : Below w.heap.size w w1) (hR : Boxed w1 w.heap.size 22 u1) (hE : Boxed w1 (w.heap.size + 1) 29 u2) (hD : w.heap.size ≤ D) (hK : w1.heap[D]? = some (.deferred (some []))) : Below w.heap.size w (((w1.setCell ⟨w.heap.size, 0, none⟩ v1).setCell ⟨w.heap.size + 1, 0, none⟩ v2).putObj D (.deferred none)) :=
  ((hB.setCell (Nat.le_refl _) _).setCell (by show w.heap.size ≤ w.heap.size + 1; omega) _).trans (belowK_b (w := w) (Nat.le_refl _) _ D _ _ hD (out_deferred hR hE hK) rfl rfl)
theorem cell_heap {W W' : World} {k i : Nat} (h : W'.heap[k]? = W.heap[k]?) : W'.cell? ⟨k, i, none⟩ = W.cell? ⟨k, i, none⟩ := by simp [World.cell?, h]
theorem out_fault {p : Nat} {x : Int} (hR : Boxed w1 B 22 (.slice none 0 0)) (hE : Boxed w1 (B + 1) 29 .nilIface) (hK : w1.heap[D]? = some (.deferred (some []))) (hc : w1.cell? ⟨p, 0, none⟩ = some (vI vK x)) : (((w1.setCell ⟨B, 0, none⟩ v1).setCell ⟨B + 1, 0, none⟩ v2).putObj D (.deferred none)).heap[p]? = w1.heap[p]? := by
  refine out_other ?_ ?_ ?_
  · rintro rfl; rw [hR.cell] at hc; cases hc
  · rintro rfl; rw [hE.cell] at hc; cases hc
  · rintro rfl; simp [World.cell?, hK] at hc
theorem size_put (w : World) (D : Nat) (o : Obj) : (w.putObj D o).heap.size = w.heap.size := by simp [World.putObj]
theorem read_results {tmps : Array Value} {W : World} {t1 t2 : TypeId} (h2 : tmps[2]?.getD undef = .pointer (some ⟨B, 0, none⟩)) (h3 : tmps[3]?.getD undef = .pointer (some ⟨B + 1, 0, none⟩)) (b1 : Boxed W B t1 v1) (b2 : Boxed W (B + 1) t2 v2) : (results Tryz.f9 tmps).run Tryz.prog W = .ok (.tuple #[v1, v2]) W := by
  have c1 := b1.cell
  have c2 := b2.cell
  simp [results, Tryz.results9, go_sem, h2, h3, c1, c2]
end
section
theorem read_any (he : ∀ w, ex.holds w → ErrTabs w) (hu : ∀ w, ex.holds w → Lib.Utf8Tabs 7 8 w) (s : ByteArray) (hs : s.size ≤ 100000) (w : World) (hT : Tabs ex w) :
    Calls Tryz.prog 9 #[.string s] w fun e W' => ReadEnds w s e W' := by
  refine (callsIn_wide (n := 8)).1 ?_
  have hF := Fine.start hT
  have hf1 : Fence.wide.fn 27 := trivial
  obtain ⟨i0, hi, hz0, hz1, hz2⟩ := info_parts Tryz.infoStep
  refine callsIn_of_wp_marks Tryz.func9 rfl trivial ?_ rfl
  simp only [Tryz.ntmps9, List.size_toArray, List.length_cons, List.length_nil, Nat.reduceAdd, Nat.reduceSub, Array.replicate_succ, Array.replicate_zero, List.push_toArray, List.append_toArray, List.nil_append, List.cons_append]
  gi_wp2_with (gi_at_call 27; refine (callsIn_wide.2 (splitSeq_any _ _)).mono ?_; rintro e w' ⟨rfl, rfl⟩)
  obtain ⟨W0, hW0⟩ : ∃ W0, (((((((w.alloc (.cells #[.slice none 0 0] 22)).alloc (.cells #[.nilIface] 29)).alloc (.cells #[.slice none 0 0] 22)).alloc (.cells #[vI vK 0] 3)).alloc (.cells #[.string s] 9)).alloc (.cells #[.string ⟨#[59]⟩] 9)).alloc (.cells #[vI vK 0] 3)) = W0 := ⟨_, rfl⟩
  have hz7 : W0.heap.size = w.heap.size + 7 := by rw [← hW0]; simp
  have hF7 : Fine ex w W0 := by rw [← hW0]; exact ((((((hF.alloc _).alloc _).alloc _).alloc _).alloc _).alloc _).alloc _
  have b0 : Boxed W0 w.heap.size 22 (.slice none 0 0) := by rw [← hW0]; exact (((((Boxed.new w _ _).alloc _).alloc _).alloc _).alloc _).alloc _ |>.alloc _
  have b1 : Boxed W0 (w.heap.size + 1) 29 .nilIface := by
    rw [← hW0]
    have h := Boxed.new (w.alloc (.cells #[.slice none 0 0] 22)) 29 .nilIface
    simp only [World.size_alloc] at h
    exact ((((h.alloc _).alloc _).alloc _).alloc _).alloc _
  have b2 : Boxed W0 (w.heap.size + 2) 22 (.slice none 0 0) := by
    rw [← hW0]
    have h := Boxed.new ((w.alloc (.cells #[.slice none 0 0] 22)).alloc (.cells #[.nilIface] 29)) 22 (.slice none 0 0)
    simp only [World.size_alloc] at h
    exact (((h.alloc _).alloc _).alloc _).alloc _
  have b3 : Boxed W0 (w.heap.size + 3) 3 (vI vK 0) := by
    rw [← hW0]
    have h := Boxed.new (((w.alloc (.cells #[.slice none 0 0] 22)).alloc (.cells #[.nilIface] 29)).alloc (.cells #[.slice none 0 0] 22)) 3 (vI vK 0)
    simp only [World.size_alloc] at h
    exact ((h.alloc _).alloc _).alloc _
  have b4 : Boxed W0 (w.heap.size + 4) 9 (.string s) := by
    rw [← hW0]
    have h := Boxed.new ((((w.alloc (.cells #[.slice none 0 0] 22)).alloc (.cells #[.nilIface] 29)).alloc (.cells #[.slice none 0 0] 22)).alloc (.cells #[vI vK 0] 3)) 9 (.string s)
    simp only [World.size_alloc] at h
    exact (h.alloc _).alloc _
  have b5 : Boxed W0 (w.heap.size + 5) 9 (.string ⟨#[59]⟩) := by
    rw [← hW0]
    have h := Boxed.new (((((w.alloc (.cells #[.slice none 0 0] 22)).alloc (.cells #[.nilIface] 29)).alloc (.cells #[.slice none 0 0] 22)).alloc (.cells #[vI vK 0] 3)).alloc (.cells #[.string s] 9)) 9 (.string ⟨#[59]⟩)
    simp only [World.size_alloc] at h
    exact h.alloc _
  have b6 : Boxed W0 (w.heap.size + 6) 3 (vI vK 0) := by
    rw [← hW0]
    have h := Boxed.new ((((((w.alloc (.cells #[.slice none 0 0] 22)).alloc (.cells #[.nilIface] 29)).alloc (.cells #[.slice none 0 0] 22)).alloc (.cells #[vI vK 0] 3)).alloc (.cells #[.string s] 9)).alloc (.cells #[.string ⟨#[59]⟩] 9)) 3 (vI vK 0)
    simp only [World.size_alloc] at h
    exact h
  rw [hW0]
  clear hW0
  simp only [Nat.add_assoc, Nat.reduceAdd]
  have hroom := hT.room
  have hseq : SeqCell (8 - 1) Tryz.prog 85 #[.pointer (some ⟨w.heap.size + 5, 0, none⟩), .pointer (some ⟨w.heap.size + 4, 0, none⟩), .pointer (some ⟨w.heap.size + 6, 0, none⟩)] (fun x : Short => #[Value.string x.1]) (KeepsSet w.heap.size [w.heap.size + 5, w.heap.size + 4, w.heap.size + 6])
      (fun ys => ys.map (·.1) = piecesOf s) (fun pre => pre.map (·.1) <+: piecesOf s) (piecesOf s).length (w.heap.size + 4) W0 := fun l J Jx W hW hJ _ hY h0 =>
    split1_in (8 - 1) (by omega) l (w.heap.size + 5) (w.heap.size + 4) (w.heap.size + 6) w.heap.size (by omega) (by omega) s hs J Jx W hJ hY ((hW.block _ (by omega)).trans b5) ((hW.block _ (by omega)).trans b4) ((hW.block _ (by omega)).trans b6) h0
  refine range_cell (by omega) rfl (enters_of Tryz.func85 (by kernel_rfl) rfl) hseq (by omega) KeepsSet.trans (KeepsSet.put (by omega) (by simp; omega)) (fun _ => rfl) (Going ex w) (Left w)
    (by rw [hz7]; exact (going_stab ex w hroom).own) (going_stab ex w hroom).abide (fun c => by rw [hz7]; exact (left_stab w c).own) (fun c => (left_stab w c).abide)
    ⟨⟨_, b2, World.ownsRow_nil _ _ _ _⟩, (fun x hx => by cases hx), b3, b0, b1, hF7.bel, by omega, hF7.tabs⟩
    (fun x => { tmps := #[.string s, undef, .pointer (some ⟨w.heap.size, 0, none⟩), .pointer (some ⟨w.heap.size + 1, 0, none⟩), .pointer (some ⟨w.heap.size + 2, 0, none⟩), .pointer (some ⟨w.heap.size + 3, 0, none⟩), .string x.1, undef, undef, undef, .string s,
      .func (.func 85) #[] #[.pointer (some ⟨w.heap.size + 5, 0, none⟩), .pointer (some ⟨w.heap.size + 4, 0, none⟩), .pointer (some ⟨w.heap.size + 6, 0, none⟩)], .string x.1, undef, undef, undef, undef, undef, undef, undef, undef, undef, undef, undef, undef, undef, undef, undef, undef, undef, undef, undef, undef, undef, undef, undef, undef, undef, undef], defers := [] }) ?assign ?body ?done ?stop
  case assign =>
    intro l x W K hK
    gi_wp2
    exact hK
  case body =>
    rintro l pre x W ⟨⟨v, hv, hrow⟩, hall, hC, hR, hE, hB, hsz, hTW⟩ hlt
    have hpl := pieces_length s.size s
    have hlt' : pre.length ≤ 100001 := by
      have h : pre.length < (piecesFrom s.size s).length := hlt
      omega
    have hfr : Fence.wide.fn 28 := trivial
    have cV := hv.cell
    have mixed : Tryz.prog.follows Departure.mixedOrders = true := by kernel_rfl
    cases htl : tells x.1 with
    | none =>
      have HS : Hid (stepV (stepOf ((fieldsOf x.1).take 5)) = .tuple #[.agg St.zero.cells, .bool false]) := by
        show stepV (tells x.1) = _
        rw [htl]; rfl
      gi_wp2_with (gi_at_call 28; refine (CallsIn.inRound l (callsIn_wide.2 (read1_any he hu x.1 x.2 _ hTW))).mono ?_; rintro e w1 ⟨rfl, hb1⟩; rw [HS.out]; simp only [St.cells, St.zero]; have hC1 := boxed_later hC hb1; have hR1 := boxed_later hR hb1; have hE1 := boxed_later hE hb1; have cC := hC1.cell; have cR := hR1.cell; have fR := hR1.frozen; have cE := hE1.cell; have fE := hE1.frozen; have l1 := hC1.lt; have l2 := hR1.lt; have l3 := hE1.lt)
      gi_region_o
      all_goals gi_wp2
      all_goals (try go_bits)
      all_goals exact left_end hb1 hall htl hR hE hB hsz
    | some st =>
      have HS : Hid (stepV (stepOf ((fieldsOf x.1).take 5)) = .tuple #[.agg st.cells, .bool true]) := by
        show stepV (tells x.1) = _
        rw [htl]; rfl
      have hgo : Going ex w pre W := ⟨⟨v, hv, hrow⟩, hall, hC, hR, hE, hB, hsz, hTW⟩
      obtain ⟨ao, cp, rfl⟩ := ownN_slice hrow
      by_cases h200 : pre.length ≤ 200
      · obtain ⟨m, hm⟩ : ∃ m, m = min pre.length 201 := ⟨_, rfl⟩
        have hm' : m = pre.length := by omega
        rw [← hm] at hrow hv cV
        have x1 : decide ((m : Int) ≤ 200) = true := by simp; omega
        have hm2 : m ≤ 200 := by omega
        have HM : Hid (m = pre.length) := hm'
        clear hm hm'
        gi_wp2_with (first
          | (gi_at_call 28; refine (CallsIn.inRound l (callsIn_wide.2 (read1_any he hu x.1 x.2 _ hTW))).mono ?_; rintro e w1 ⟨rfl, hb1⟩; rw [HS.out]; simp only [St.cells]; have hC1 := boxed_later hC hb1; have hV1 := boxed_later hv hb1; have cC := hC1.cell; have fC := hC1.frozen; have cV1 := hV1.cell; have l1 := hC1.lt; have l2 := hV1.lt; have hV2 := (Boxed.other_box hV1 (c := w.heap.size + 3) (by omega) (vI vK ((pre.length : Int) + 1))).alloc (.cells st.cells 49); have hrow2 := (ownsRow_setCell_below (ownN_later hrow hb1) (a := ⟨w.heap.size + 3, 0, none⟩) (by show w.heap.size + 3 < w.heap.size + 7; omega) (vI vK ((pre.length : Int) + 1))).alloc (.cells st.cells 49))
          | (gi_at_builtin; refine wpListIn_append_own _ rfl _ _ 22 rfl (w.heap.size + 7) 49 i0 (.agg St.zero.cells) 6 48 Tryz.underlying22 hi hz0 hz1 hz2 rfl (by decide) _ _ _ rfl (hrow2.alloc _) ⟨w1.heap.size + 1, 0, none⟩ 1 1 st.cells.toList rfl rfl (cells_six (by simp)) (six_one st) (by unfold maxLen; omega) (by omega) (by have := hb1.size; simp; omega) ?_; intro v' w3 hown' hgrow _; obtain ⟨g', cap', rfl⟩ := ownN_shape hown' (by omega); obtain ⟨hv1, hv2, hr2, hk2, hb2, hj2⟩ := collectedN hV2 (by omega) (by have := hb1.size; rw [World.size_alloc, size_set]; omega) hrow2 hown' hgrow; have hc1 := hv1.cell; have hf1 := hv1.frozen)
          | gi_in)
        obtain ⟨G, K⟩ := going_app hgo hroom hb1 h200 htl HM.out hv2 hr2 hj2 hb2
        exact ⟨((counted hb1 hgo _).2.2.2.2.1.trans hk2).from _, K, G⟩
      · obtain ⟨m, hm⟩ : ∃ m, m = min pre.length 201 := ⟨_, rfl⟩
        rw [← hm] at hv cV
        have x1 : decide ((m : Int) ≤ 200) = false := by simp; omega
        clear hm
        gi_wp2_with (gi_at_call 28; refine (CallsIn.inRound l (callsIn_wide.2 (read1_any he hu x.1 x.2 _ hTW))).mono ?_; rintro e w1 ⟨rfl, hb1⟩; rw [HS.out]; simp only [St.cells]; have hC1 := boxed_later hC hb1; have hV1 := boxed_later hv hb1; have cC := hC1.cell; have fC := hC1.frozen; have cV1 := hV1.cell; have l1 := hC1.lt; have l2 := hV1.lt)
        obtain ⟨G, K⟩ := going_skip (S := .cells st.cells 49) hgo hroom hb1 h200 htl
        exact ⟨(counted hb1 hgo _).2.2.2.2.1.from _, K, G⟩
  case done =>
    rintro D ys W hD hS ⟨⟨v, hv, hrow⟩, hall, hC, hR, hE, hB, hsz, hTW⟩ hK
    have hf6 : Fence.wide.fn 18 := trivial
    have cV := hv.cell
    have cR := hR.cell
    have fR := hR.frozen
    have cE := hE.cell
    have fE := hE.frozen
    have hall' : ∀ y ∈ piecesOf s, (tells y).isSome = true := by
      rw [← hS]
      intro y hy
      obtain ⟨x, hx, rfl⟩ := List.mem_map.1 hy
      exact hall x hx
    have hlen : (piecesOf s).length = ys.length := by rw [← hS, List.length_map]
    by_cases h200 : ys.length ≤ 200
    · have hpos : 0 < ys.length := by rw [← hlen]; exact pieces_some _ _
      rw [hS, Nat.min_eq_left (by omega), List.take_of_length_le (by rw [told_length]; omega), ← hlen] at hrow
      have hl := told_length (piecesOf s)
      obtain ⟨n, hn⟩ : ∃ n, n = (piecesOf s).length := ⟨_, rfl⟩
      obtain ⟨xs, hxs⟩ : ∃ xs, xs = toldBy (piecesOf s) := ⟨_, rfl⟩
      rw [← hn, ← hxs] at hrow hl
      obtain ⟨g, cp, rfl⟩ := ownN_shape hrow (by omega)
      have hn1 : 0 < n := by omega
      have hn2 : n ≤ 200 := by omega
      have HN : Hid (n = (piecesOf s).length) := hn
      have HX : Hid (xs = toldBy (piecesOf s)) := hxs
      clear hn hxs hS hlen
      rcases first_fault (faultOf xs) n with hno | ⟨i, hi, hno, hf⟩
      · gi_wp2_with (gi_at_call 18; refine (callsIn_wide.2 (check_fine hrow hl hn1 hn2 hno)).mono ?_; rintro e w1 ⟨rfl, hb1⟩; have hR1 := boxed_later hR hb1; have hE1 := boxed_later hE hb1; have hV1 := boxed_later hv hb1; have cR1 := hR1.cell; have fR1 := hR1.frozen; have cE1 := hE1.cell; have fE1 := hE1.frozen; have cV1 := hV1.cell)
        have hK1 := (hb1.block D (Array.getElem?_eq_some_iff.1 hK).1).trans hK
        refine ⟨by simp, .inl ⟨_, _, rfl, run_takeDeferred (out_deferred hR1 hE1 hK1), ?_⟩⟩
        refine ⟨_, read_results rfl rfl (out_first hR1 hK1) (out_second hE1 hK1), out_below (hB.trans (hb1.mono (by omega))) hR1 hE1 (by omega) hK1, .inr ⟨hall', .inr ⟨by rw [← HN.out]; exact hn2, .inr ?_⟩⟩⟩
        rw [← HN.out, ← HX.out]
        exact ⟨hno, g, cp, rfl, ownN_lower (ownsRow_putObj (ownsRow_setCell_below (ownsRow_setCell_below (ownN_later hrow hb1) (a := ⟨w.heap.size, 0, none⟩) (by show w.heap.size < w.heap.size + 7; omega) _) (a := ⟨w.heap.size + 1, 0, none⟩) (by show w.heap.size + 1 < w.heap.size + 7; omega) _) _ (out_deferred hR1 hE1 hK1) rfl) (by omega)⟩
      · gi_wp2_with (gi_at_call 18; refine (callsIn_wide.2 (check_bad hrow hl hn1 hn2 hi hno hf)).mono ?_; rintro e w1 ⟨p, rfl, hb1, hp, hc0, hc1⟩; have hR1 := boxed_later hR hb1; have hE1 := boxed_later hE hb1; have cR1 := hR1.cell; have fR1 := hR1.frozen; have cE1 := hE1.cell; have fE1 := hE1.frozen)
        have hK1 := (hb1.block D (Array.getElem?_eq_some_iff.1 hK).1).trans hK
        refine ⟨by simp, .inl ⟨_, _, rfl, run_takeDeferred (out_deferred hR1 hE1 hK1), ?_⟩⟩
        have hpk := out_fault (v1 := .slice none 0 0) (v2 := .iface 74 (.pointer (some ⟨p, 0, none⟩))) hR1 hE1 hK1 hc0
        refine ⟨_, read_results rfl rfl (out_first hR1 hK1) (out_second hE1 hK1), out_below (hB.trans (hb1.mono (by omega))) hR1 hE1 (by omega) hK1, .inr ⟨hall', .inr ⟨by rw [← HN.out]; exact hn2, .inl ?_⟩⟩⟩
        rw [← HN.out, ← HX.out]
        exact ⟨i, p, hi, hno, hf, rfl, by rw [size_put, size_set, size_set]; exact hp, (cell_heap hpk).trans hc0, (cell_heap hpk).trans hc1⟩
    · obtain ⟨ao, cp, rfl⟩ := ownN_slice hrow
      obtain ⟨m, hm⟩ : ∃ m, m = min ys.length 201 := ⟨_, rfl⟩
      rw [← hm] at hv cV
      have hm2 : m < 1 ∨ 200 < m := by omega
      clear hm
      gi_wp2_with (gi_at_call 18; refine (callsIn_wide.2 (opCheck_limit _ _ _ hm2 _)).mono ?_; rintro e w1 ⟨rfl, rfl⟩)
      refine ⟨by simp, .inl ⟨_, _, rfl, run_takeDeferred (out_deferred hR hE hK), ?_⟩⟩
      exact ⟨_, read_results rfl rfl (out_first hR hK) (out_second hE hK), out_below hB hR hE (by omega) hK, .inr ⟨hall', .inl ⟨by omega, rfl⟩⟩⟩
  case stop =>
    rintro D c pre W hD ⟨post, hSp⟩ ⟨rfl, pre0, x, p, rfl, hall, hx, hR, hE, hp7, hp, hB⟩ hK
    gi_wp2
    refine ⟨by simp, .inl ⟨_, _, rfl, run_takeDeferred hK, ?_⟩⟩
    have hpD : p ≠ D := by
      rintro rfl
      rw [hK] at hp; cases hp
    have hpp : (W.putObj D (.deferred none)).heap[p]? = _ := (put_apart hpD).trans hp
    refine ⟨_, read_results rfl rfl ((put_apart (box_apart hR hK).symm).trans hR) ((put_apart (box_apart hE hK).symm).trans hE), hB.trans (belowK_b (w := w) (Nat.le_refl _) W D _ _ (by omega) hK rfl rfl), .inl ⟨pre0.map (·.1), x.1, post, p, ?_, ?_, hx, rfl, (Array.getElem?_eq_some_iff.1 hpp).1, ?_, ?_⟩⟩
    · rw [← hSp]; simp
    · intro y hy
      obtain ⟨z, hz, rfl⟩ := List.mem_map.1 hy
      exact hall z hz
    · simp [World.cell?, hpp]
    · simp [World.cell?, hpp]
end
end Go.Proofs.YtednmkhdehlojaaGreatDoor
namespace Go.Proofs.YtednmkhdehlojaaGreatDoor
open Go.ChangeShapes Go.WideShapes Go.ChangeAt Go.RowKit
variable {ex : Ext}

section
variable {len : Nat} {C D S O N : Nat → Int} {R : Nat → Bool}
end

section
variable {bk off len cap : Nat} {C D S O N : Nat → Int} {R : Nat → Bool} {w : World}
end
end Go.Proofs.YtednmkhdehlojaaGreatDoor
namespace Go.Proofs.YtednmkhdehlojaaGreatDoor
open Go.ChangeShapes Go.WideShapes Go.ChangeAt Go.RowKit
section
variable (x : St)
end
end Go.Proofs.YtednmkhdehlojaaGreatDoor
namespace Go.Proofs.YtednmkhdehlojaaGreatDoor
open Go.ChangeShapes Go.WideShapes Go.ChangeAt Go.RowKit
section
variable {w0 : ByteArray} {ws : List ByteArray}
end
section
variable {c d s : Int} {r : Bool} {o n : Int}
end
section
variable {len : Nat} {C D S O N : Nat → Int} {R : Nat → Bool}
def stAt (C D S : Nat → Int) (R : Nat → Bool) (O N : Nat → Int) (i : Nat) : St := ⟨C i, D i, S i, R i, O i, N i⟩
end
end Go.Proofs.YtednmkhdehlojaaGreatDoor
namespace Go.Proofs.YtednmkhdehlojaaGreatDoor
open Go.ChangeShapes Go.WideShapes Go.ChangeAt Go.RowKit
variable {len : Nat} {C D S O N : Nat → Int} {R : Nat → Bool}
end Go.Proofs.YtednmkhdehlojaaGreatDoor
namespace Go.Proofs.YtednmkhdehlojaaGreatDoor
open Go.ChangeShapes Go.WideShapes Go.ChangeAt Go.RowKit
section
variable {len : Nat} {C D S O N : Nat → Int} {R : Nat → Bool} {ps : List ByteArray}
theorem told_count (h : ps.map tells = (List.range len).map fun i => some (stAt C D S R O N i)) : ps.length = len := by
  have := congrArg List.length h
  simpa using this
theorem told_all (h : ps.map tells = (List.range len).map fun i => some (stAt C D S R O N i)) : ∀ y ∈ ps, (tells y).isSome = true := by
  intro y hy
  have h1 : tells y ∈ ps.map tells := List.mem_map.2 ⟨y, hy, rfl⟩
  rw [h] at h1
  obtain ⟨i, _, e⟩ := List.mem_map.1 h1
  rw [← e]; rfl
theorem told_steps (h : ps.map tells = (List.range len).map fun i => some (stAt C D S R O N i)) : toldBy ps = (List.range len).map (stAt C D S R O N) := by
  have h1 := congrArg (List.map fun o : Option St => o.getD St.zero) h
  rw [List.map_map, List.map_map] at h1
  exact h1
theorem told_nth (h : ps.map tells = (List.range len).map fun i => some (stAt C D S R O N i)) {j : Nat} (hj : j < len) : nth (toldBy ps) j = stAt C D S R O N j := by
  unfold nth
  rw [told_steps h, List.getElem?_map, List.getElem?_range hj]
  rfl
theorem told_fault (h : ps.map tells = (List.range len).map fun i => some (stAt C D S R O N i)) {j : Nat} (hj : j < len) : faultOf (toldBy ps) j = faultAt len C D S R O N j := by
  unfold faultOf faultAt
  rw [told_length, told_count h]
  dsimp only
  rw [told_nth h hj]
  rfl
end
theorem read_written {len : Nat} {C D S O N : Nat → Int} {R : Nat → Bool} {w W : World} {e : Ending} {t : ByteArray} (hp : (piecesOf t).map tells = (List.range len).map fun i => some (stAt C D S R O N i)) (h2 : len ≤ 200) (hno : ∀ j, j < len → faultAt len C D S R O N j = 0) (h : ReadEnds w t e W) :
    ∃ g cap, e = .returned (.tuple #[.slice (some ⟨g, 0, none⟩) len cap, .nilIface]) ∧ Below w.heap.size w W ∧ g < W.heap.size ∧ StepsAt W g 0 len C D S R O N := by
  obtain ⟨hb, h⟩ := h
  have hall := told_all hp
  have hlen := told_count hp
  rcases h with ⟨pre, x, post, p, hps, _, hx, _⟩ | ⟨_, h⟩
  · have h1 := hall x (by rw [hps]; simp)
    rw [hx] at h1; cases h1
  · rcases h with ⟨h200, _⟩ | ⟨_, h⟩
    · omega
    · rcases h with ⟨i, p, hi, _, hf, _⟩ | ⟨_, g, cap, rfl, hrow⟩
      · rw [told_fault hp (by omega)] at hf
        exact absurd (hno i (by omega)) hf
      · rw [hlen] at hrow ⊢
        refine ⟨g, cap, rfl, hb, row_lt hrow, fun i hi => ?_⟩
        have hst := row_steps hrow (by rw [told_length, hlen]) i hi
        dsimp only at hst
        rw [told_nth hp hi] at hst
        exact hst
end Go.Proofs.YtednmkhdehlojaaGreatDoor
namespace Go.Proofs.YtednmkhdehlojaaGreatDoor
open Go.ChangeShapes Go.WideShapes Go.ChangeAt Go.RowKit
end Go.Proofs.YtednmkhdehlojaaGreatDoor
namespace Go.Proofs.YtednmkhdehlojaaGreatDoor
open Go.RowKit Go.Extern.Stop Go.Stop Go.Extern
theorem valueOfP (t : Addr) (w : World) : (ReflectliteValue.unpack (.iface 99 (.pointer (some t)))).run Tryz.prog w
    = .ok (.agg #[.pointer (some ⟨14, 99, none⟩), .pointer (some ⟨w.heap.size, 0, none⟩), .int .u64 150]) (w.alloc (.cells #[.pointer (some t)] 99)) := by kernel_rfl
theorem valueOfE (x : Int) (w : World) : (ReflectliteValue.unpack (.iface 23 (vI vK x))).run Tryz.prog w
    = .ok (.agg #[.pointer (some ⟨14, 23, none⟩), .pointer (some ⟨w.heap.size, 0, none⟩), .int .u64 130]) (w.alloc (.cells #[vI vK x] 23)) := by kernel_rfl
theorem mkE (p : Addr) (w : World) : (ReflectliteValue.mk 23 p ReflectliteValue.flagAddr).run Tryz.prog w = .ok (.agg #[.pointer (some ⟨14, 23, none⟩), .pointer (some p), .int .u64 386]) w := by kernel_rfl
theorem typeP (a : Addr) (w : World) : (ReflectliteValue.methodAny (ReflectliteValue.valueError "reflectlite.Value.Type" 0) (fun t _ _ _ => ReflectliteType.toType t) #[.agg #[.pointer (some ⟨14, 99, none⟩), .pointer (some a), .int .u64 150]]).run Tryz.prog w
    = .ok (.iface 196 (.agg #[.pointer (some ⟨14, 99, none⟩)])) w := by kernel_rfl
theorem kindP (w : World) : ((ReflectliteType.abiMethod fun t => (fun a : Nat => Value.int IntKind.u8 (a : Int)) <$> Rtype.kind t) #[.pointer (some ⟨14, 99, none⟩)]).run Tryz.prog w = .ok (.int .u8 22) w := by kernel_rfl
theorem kindE (w : World) : ((ReflectliteType.abiMethod fun t => (fun a : Nat => Value.int IntKind.u8 (a : Int)) <$> Rtype.kind t) #[.pointer (some ⟨14, 23, none⟩)]).run Tryz.prog w = .ok (.int .u8 2) w := by kernel_rfl
theorem elemP (w : World) : (ReflectliteType.method ReflectliteType.elem #[.agg #[.pointer (some ⟨14, 99, none⟩)]]).run Tryz.prog w = .ok (.iface 196 (.agg #[.pointer (some ⟨14, 23, none⟩)])) w := by kernel_rfl
theorem implE (w : World) : (ReflectliteType.relation "Implements" ReflectliteType.implements_ #[.agg #[.pointer (some ⟨14, 23, none⟩)], .iface 196 (.agg #[.pointer (some ⟨14, 29, none⟩)])]).run Tryz.prog w = .ok (.bool true) w := by kernel_rfl
theorem typeOfE (v : Value) (w : World) : (ReflectliteType.typeOf #[.iface 23 v]).run Tryz.prog w = .ok (.iface 196 (.agg #[.pointer (some ⟨14, 23, none⟩)])) w := by kernel_rfl
theorem typeOfA (v : Value) (w : World) : (ReflectliteType.typeOf #[.iface 74 v]).run Tryz.prog w = .ok (.iface 196 (.agg #[.pointer (some ⟨14, 74, none⟩)])) w := by kernel_rfl
theorem assE (w : World) : (ReflectliteType.relation "AssignableTo" ReflectliteType.assignableTo #[.agg #[.pointer (some ⟨14, 23, none⟩)], .iface 196 (.agg #[.pointer (some ⟨14, 23, none⟩)])]).run Tryz.prog w = .ok (.bool true) w := by kernel_rfl
theorem assA (w : World) : (ReflectliteType.relation "AssignableTo" ReflectliteType.assignableTo #[.agg #[.pointer (some ⟨14, 74, none⟩)], .iface 196 (.agg #[.pointer (some ⟨14, 23, none⟩)])]).run Tryz.prog w = .ok (.bool false) w := by kernel_rfl
theorem partsP (a : Addr) (w : World) : (ReflectliteValue.parts (.agg #[.pointer (some ⟨14, 99, none⟩), .pointer (some a), .int .u64 150])).run Tryz.prog w = .ok (some (99, a, 150)) w := by kernel_rfl
theorem partsE (a : Addr) (w : World) : (ReflectliteValue.parts (.agg #[.pointer (some ⟨14, 23, none⟩), .pointer (some a), .int .u64 130])).run Tryz.prog w = .ok (some (23, a, 130)) w := by kernel_rfl
theorem partsEa (a : Addr) (w : World) : (ReflectliteValue.parts (.agg #[.pointer (some ⟨14, 23, none⟩), .pointer (some a), .int .u64 386])).run Tryz.prog w = .ok (some (23, a, 386)) w := by kernel_rfl
theorem directE (w : World) : (Rtype.directlyAssignable 23 23).run Tryz.prog w = .ok true w := by kernel_rfl
theorem elemOfP (w : World) : (Rtype.elem? 99).run Tryz.prog w = .ok (some 23) w := by kernel_rfl

theorem rl_method (z : Sem Value) (f : TypeId → Addr → Nat → Nat → Sem Value) (v : Value) :
    ReflectliteValue.method z f #[v] = (do match ← ReflectliteValue.parts v with | none => z | some (t, a, fl) => f t a fl (fl % 32)) := rfl
theorem isNilP (a p : Addr) (W : World) (ha : W.cell? a = some (.pointer (some p))) :
    (ReflectliteValue.method (ReflectliteValue.valueError "reflectlite.Value.IsNil" 0) ReflectliteValue.isNil #[.agg #[.pointer (some ⟨14, 99, none⟩), .pointer (some a), .int .u64 150]]).run Tryz.prog W = .ok (.bool false) W := by
  rw [rl_method]
  simp only [Sem.run_bind, partsP, Result.andThen]
  simp [ReflectliteValue.isNil, loadVar, isAgg, underlying, Tryz.underlying99, ha, Result.andThen]
theorem elemVP (a p : Addr) (W : World) (ha : W.cell? a = some (.pointer (some p))) :
    (ReflectliteValue.method (ReflectliteValue.valueError "reflectlite.Value.Elem" 0) ReflectliteValue.elem #[.agg #[.pointer (some ⟨14, 99, none⟩), .pointer (some a), .int .u64 150]]).run Tryz.prog W
      = .ok (.agg #[.pointer (some ⟨14, 23, none⟩), .pointer (some p), .int .u64 386]) W := by
  rw [rl_method]
  simp only [Sem.run_bind, partsP, Result.andThen]
  simp [ReflectliteValue.elem, loadVar, isAgg, underlying, Tryz.underlying99, ha, Result.andThen, elemOfP, mkE]
theorem two_args {v x : Value} (h1 : (v x : Value) → Sem Value) (h2 : (x : Array Value) → Sem Value) : ReflectliteValue.set.match_3 (fun _ => Sem Value) #[v, x] h1 h2 = h1 v x := rfl
theorem setE (ta b : Addr) (x : Int) (old : Value) (W : World) (hb : W.cell? b = some (vI vK x)) (ht : W.cell? ta = some old) (hf : W.frozen? ta = false) :
    (ReflectliteValue.set #[.agg #[.pointer (some ⟨14, 23, none⟩), .pointer (some ta), .int .u64 386], .agg #[.pointer (some ⟨14, 23, none⟩), .pointer (some b), .int .u64 130]]).run Tryz.prog W
      = .ok (.tuple #[]) (W.setCell ta (vI vK x)) := by
  delta ReflectliteValue.set
  dsimp only
  rw [two_args]
  simp only [Sem.run_bind, partsEa, partsE, Result.andThen]
  simp [ReflectliteValue.flagAddr, loadVar, isAgg, underlying, Tryz.underlying23, hb, Result.andThen, directE, storeVar, Value.cells, storeCells, Addr.add]
  rw [run_store Tryz.prog W ta _ _ (by rfl)]
  simp [ht, hf]

theorem mKind (h : Value) (w : World) : (Go.method 431 196 (.agg #[h]) "Kind").run Tryz.prog w = .ok ((239, h) : FuncId × Value) w := by kernel_rfl
theorem mElem (h : Value) (w : World) : (Go.method 431 196 (.agg #[h]) "Elem").run Tryz.prog w = .ok ((252, .agg #[h]) : FuncId × Value) w := by kernel_rfl
theorem mImpl (h : Value) (w : World) : (Go.method 431 196 (.agg #[h]) "Implements").run Tryz.prog w = .ok ((253, .agg #[h]) : FuncId × Value) w := by kernel_rfl
theorem mAss (h : Value) (w : World) : (Go.method 431 196 (.agg #[h]) "AssignableTo").run Tryz.prog w = .ok ((250, .agg #[h]) : FuncId × Value) w := by kernel_rfl
theorem noAsA (v : Value) (k : TypeId) (w : World) : (Instr.typeAssert (.iface 74 v) k 201 true).run Tryz.prog w = .ok (.tuple #[.nilIface, .bool false]) w := run_typeAssert_lacksB Tryz.underlying201 (by kernel_rfl) (by kernel_rfl) v k w
theorem unwrapA (v : Value) (k : TypeId) (w : World) : (Instr.typeAssert (.iface 74 v) k 127 true).run Tryz.prog w = .ok (.tuple #[.iface 74 v, .bool true]) w := run_typeAssert_hasB Tryz.underlying127 (by kernel_rfl) v k w
theorem mUnwrap (a : Addr) (w : World) : (Go.method 431 74 (.pointer (some a)) "Unwrap").run Tryz.prog w = .ok ((244, .pointer (some a)) : FuncId × Value) w := by kernel_rfl
theorem as_errno (x : Int) (t : Addr) (old : Value) (w : World) (hg : w.cell? ⟨4, 0, none⟩ = some (.iface 196 (.agg #[.pointer (some ⟨14, 29, none⟩)]))) (ht0 : w.cell? t = some old) (hf0 : w.frozen? t = false) :
    Calls Tryz.prog 40 #[.iface 23 (vI vK x), .iface 99 (.pointer (some t))] w fun ev w' => ev = .returned (.bool true) ∧ w' = ((((w.alloc (.cells #[.pointer (some t)] 99)).alloc (.cells #[.pointer (some ⟨14, 99, none⟩), .pointer (some ⟨w.heap.size, 0, none⟩), .int .u64 150] 160)).alloc (.cells #[.pointer (some ⟨14, 99, none⟩), .pointer (some ⟨w.heap.size, 0, none⟩), .int .u64 150] 160)).alloc (.cells #[vI vK x] 23)).setCell t (vI vK x) := by
  have x0 := @run_callFunc_extern Tryz.prog 72 _ (fun args => ReflectliteValue.unpack (args.getD 0 (.tuple #[]))) Tryz.func72 (by kernel_rfl) (by kernel_rfl) (by kernel_rfl) (by kernel_rfl)
  have x1 := @run_callFunc_extern Tryz.prog 73 _ (ReflectliteValue.methodAny (ReflectliteValue.valueError "reflectlite.Value.Type" 0) (fun t _ _ _ => ReflectliteType.toType t)) Tryz.func73 (by kernel_rfl) (by kernel_rfl) (by kernel_rfl) (by kernel_rfl)
  have x2 := @run_callFunc_extern Tryz.prog 74 _ (ReflectliteValue.method (ReflectliteValue.valueError "reflectlite.Value.IsNil" 0) ReflectliteValue.isNil) Tryz.func74 (by kernel_rfl) (by kernel_rfl) (by kernel_rfl) (by kernel_rfl)
  have x3 := @run_callFunc_extern Tryz.prog 239 _ (ReflectliteType.abiMethod fun t => do pure (.int .u8 (← Rtype.kind t))) Tryz.func239 (by kernel_rfl) (by kernel_rfl) (by kernel_rfl) (by kernel_rfl)
  have x4 := @run_callFunc_extern Tryz.prog 252 _ (ReflectliteType.method ReflectliteType.elem) Tryz.func252 (by kernel_rfl) (by kernel_rfl) (by kernel_rfl) (by kernel_rfl)
  have x5 := @run_callFunc_extern Tryz.prog 253 _ (ReflectliteType.relation "Implements" ReflectliteType.implements_) Tryz.func253 (by kernel_rfl) (by kernel_rfl) (by kernel_rfl) (by kernel_rfl)
  have x6 := @run_callFunc_extern Tryz.prog 114 _ ReflectliteType.typeOf Tryz.func114 (by kernel_rfl) (by kernel_rfl) (by kernel_rfl) (by kernel_rfl)
  have x7 := @run_callFunc_extern Tryz.prog 250 _ (ReflectliteType.relation "AssignableTo" ReflectliteType.assignableTo) Tryz.func250 (by kernel_rfl) (by kernel_rfl) (by kernel_rfl) (by kernel_rfl)
  have x8 := @run_callFunc_extern Tryz.prog 115 _ (ReflectliteValue.method (ReflectliteValue.valueError "reflectlite.Value.Elem" 0) ReflectliteValue.elem) Tryz.func115 (by kernel_rfl) (by kernel_rfl) (by kernel_rfl) (by kernel_rfl)
  have x9 := @run_callFunc_extern Tryz.prog 116 _ ReflectliteValue.set Tryz.func116 (by kernel_rfl) (by kernel_rfl) (by kernel_rfl) (by kernel_rfl)
  have q0 := valueOfP
  have q1 := typeP
  have q2 := kindP
  have q3 := kindE
  have q4 := elemP
  have q5 := implE
  have q6 := typeOfE
  have q7 := typeOfA
  have q8 := assE
  have q9 := assA
  have q10 := valueOfE
  have q11 := mKind
  have q12 := mElem
  have q13 := mImpl
  have q14 := mAss
  have n8 := isNilP ⟨w.heap.size, 0, none⟩ t ((w.alloc (.cells #[.pointer (some t)] 99)).alloc (.cells #[.pointer (some ⟨14, 99, none⟩), .pointer (some ⟨w.heap.size, 0, none⟩), .int .u64 150] 160)) (by simp)
  have hlt : 4 < w.heap.size := by
    rcases Nat.lt_or_ge 4 w.heap.size with h | h
    · exact h
    · simp [World.cell?, Array.getElem?_eq_none h] at hg
  have hg2 : ((w.alloc (.cells #[.pointer (some t)] 99)).alloc (.cells #[.pointer (some ⟨14, 99, none⟩), .pointer (some ⟨w.heap.size, 0, none⟩), .int .u64 150] 160)).cell? ⟨4, 0, none⟩ = some (.iface 196 (.agg #[.pointer (some ⟨14, 29, none⟩)])) := by
    rw [World.cell?_alloc_lt _ _ ⟨4, 0, none⟩ (by simp; omega), World.cell?_alloc_lt _ _ ⟨4, 0, none⟩ hlt]; exact hg
  have htl : t.block < w.heap.size := by
    rcases Nat.lt_or_ge t.block w.heap.size with h | h
    · exact h
    · simp [World.cell?, Array.getElem?_eq_none h] at ht0
  have el := elemVP ⟨w.heap.size, 0, none⟩ t (((w.alloc (.cells #[.pointer (some t)] 99)).alloc (.cells #[.pointer (some ⟨14, 99, none⟩), .pointer (some ⟨w.heap.size, 0, none⟩), .int .u64 150] 160)).alloc (.cells #[.pointer (some ⟨14, 99, none⟩), .pointer (some ⟨w.heap.size, 0, none⟩), .int .u64 150] 160)) (by rw [World.cell?_alloc_lt _ _ ⟨w.heap.size, 0, none⟩ (by simp; omega), World.cell?_alloc_lt _ _ ⟨w.heap.size, 0, none⟩ (by simp), World.cell?_alloc_at _ _ _ _ (by simp)]; rfl)
  have st := setE t ⟨w.heap.size + 1 + 1 + 1, 0, none⟩ x old ((((w.alloc (.cells #[.pointer (some t)] 99)).alloc (.cells #[.pointer (some ⟨14, 99, none⟩), .pointer (some ⟨w.heap.size, 0, none⟩), .int .u64 150] 160)).alloc (.cells #[.pointer (some ⟨14, 99, none⟩), .pointer (some ⟨w.heap.size, 0, none⟩), .int .u64 150] 160)).alloc (.cells #[vI vK x] 23))
    (by rw [World.cell?_alloc_at _ _ _ _ (by simp)]; rfl)
    (by rw [World.cell?_alloc_lt _ _ t (by simp; omega), World.cell?_alloc_lt _ _ t (by simp; omega), World.cell?_alloc_lt _ _ t (by simp; omega), World.cell?_alloc_lt _ _ t htl]; exact ht0)
    (by rw [World.frozen?_alloc_old _ _ t (by simp; omega), World.frozen?_alloc_old _ _ t (by simp; omega), World.frozen?_alloc_old _ _ t (by simp; omega), World.frozen?_alloc_old _ _ t (Nat.ne_of_lt htl)]; exact hf0)
  go_enter Tryz.func40, Tryz.ntmps40
  go_wp2
  refine wp_loop_rounds 1 ?_
  rw [rounds_succ]
  go_wp2
  go_ret
  exact ⟨rfl, rfl⟩
theorem as_at (x : Int) (p t : Addr) (old : Value) (w : World) (hp : w.cell? p = some (vI vK x)) (hg : w.cell? ⟨4, 0, none⟩ = some (.iface 196 (.agg #[.pointer (some ⟨14, 29, none⟩)]))) (ht0 : w.cell? t = some old) (hf0 : w.frozen? t = false) :
    Calls Tryz.prog 40 #[.iface 74 (.pointer (some p)), .iface 99 (.pointer (some t))] w fun ev w' => ev = .returned (.bool true) ∧ w' = ((((w.alloc (.cells #[.pointer (some t)] 99)).alloc (.cells #[.pointer (some ⟨14, 99, none⟩), .pointer (some ⟨w.heap.size, 0, none⟩), .int .u64 150] 160)).alloc (.cells #[.pointer (some ⟨14, 99, none⟩), .pointer (some ⟨w.heap.size, 0, none⟩), .int .u64 150] 160)).alloc (.cells #[vI vK x] 23)).setCell t (vI vK x) := by
  have x0 := @run_callFunc_extern Tryz.prog 72 _ (fun args => ReflectliteValue.unpack (args.getD 0 (.tuple #[]))) Tryz.func72 (by kernel_rfl) (by kernel_rfl) (by kernel_rfl) (by kernel_rfl)
  have x1 := @run_callFunc_extern Tryz.prog 73 _ (ReflectliteValue.methodAny (ReflectliteValue.valueError "reflectlite.Value.Type" 0) (fun t _ _ _ => ReflectliteType.toType t)) Tryz.func73 (by kernel_rfl) (by kernel_rfl) (by kernel_rfl) (by kernel_rfl)
  have x2 := @run_callFunc_extern Tryz.prog 74 _ (ReflectliteValue.method (ReflectliteValue.valueError "reflectlite.Value.IsNil" 0) ReflectliteValue.isNil) Tryz.func74 (by kernel_rfl) (by kernel_rfl) (by kernel_rfl) (by kernel_rfl)
  have x3 := @run_callFunc_extern Tryz.prog 239 _ (ReflectliteType.abiMethod fun t => do pure (.int .u8 (← Rtype.kind t))) Tryz.func239 (by kernel_rfl) (by kernel_rfl) (by kernel_rfl) (by kernel_rfl)
  have x4 := @run_callFunc_extern Tryz.prog 252 _ (ReflectliteType.method ReflectliteType.elem) Tryz.func252 (by kernel_rfl) (by kernel_rfl) (by kernel_rfl) (by kernel_rfl)
  have x5 := @run_callFunc_extern Tryz.prog 253 _ (ReflectliteType.relation "Implements" ReflectliteType.implements_) Tryz.func253 (by kernel_rfl) (by kernel_rfl) (by kernel_rfl) (by kernel_rfl)
  have x6 := @run_callFunc_extern Tryz.prog 114 _ ReflectliteType.typeOf Tryz.func114 (by kernel_rfl) (by kernel_rfl) (by kernel_rfl) (by kernel_rfl)
  have x7 := @run_callFunc_extern Tryz.prog 250 _ (ReflectliteType.relation "AssignableTo" ReflectliteType.assignableTo) Tryz.func250 (by kernel_rfl) (by kernel_rfl) (by kernel_rfl) (by kernel_rfl)
  have x8 := @run_callFunc_extern Tryz.prog 115 _ (ReflectliteValue.method (ReflectliteValue.valueError "reflectlite.Value.Elem" 0) ReflectliteValue.elem) Tryz.func115 (by kernel_rfl) (by kernel_rfl) (by kernel_rfl) (by kernel_rfl)
  have x9 := @run_callFunc_extern Tryz.prog 116 _ ReflectliteValue.set Tryz.func116 (by kernel_rfl) (by kernel_rfl) (by kernel_rfl) (by kernel_rfl)
  have q0 := valueOfP
  have q1 := typeP
  have q2 := kindP
  have q3 := kindE
  have q4 := elemP
  have q5 := implE
  have q6 := typeOfE
  have q7 := typeOfA
  have q8 := assE
  have q9 := assA
  have q10 := valueOfE
  have q11 := mKind
  have q12 := mElem
  have q13 := mImpl
  have q14 := mAss
  have n8 := isNilP ⟨w.heap.size, 0, none⟩ t ((w.alloc (.cells #[.pointer (some t)] 99)).alloc (.cells #[.pointer (some ⟨14, 99, none⟩), .pointer (some ⟨w.heap.size, 0, none⟩), .int .u64 150] 160)) (by simp)
  have hlt : 4 < w.heap.size := by
    rcases Nat.lt_or_ge 4 w.heap.size with h | h
    · exact h
    · simp [World.cell?, Array.getElem?_eq_none h] at hg
  have hg2 : ((w.alloc (.cells #[.pointer (some t)] 99)).alloc (.cells #[.pointer (some ⟨14, 99, none⟩), .pointer (some ⟨w.heap.size, 0, none⟩), .int .u64 150] 160)).cell? ⟨4, 0, none⟩ = some (.iface 196 (.agg #[.pointer (some ⟨14, 29, none⟩)])) := by
    rw [World.cell?_alloc_lt _ _ ⟨4, 0, none⟩ (by simp; omega), World.cell?_alloc_lt _ _ ⟨4, 0, none⟩ hlt]; exact hg
  have htl : t.block < w.heap.size := by
    rcases Nat.lt_or_ge t.block w.heap.size with h | h
    · exact h
    · simp [World.cell?, Array.getElem?_eq_none h] at ht0
  have el := elemVP ⟨w.heap.size, 0, none⟩ t (((w.alloc (.cells #[.pointer (some t)] 99)).alloc (.cells #[.pointer (some ⟨14, 99, none⟩), .pointer (some ⟨w.heap.size, 0, none⟩), .int .u64 150] 160)).alloc (.cells #[.pointer (some ⟨14, 99, none⟩), .pointer (some ⟨w.heap.size, 0, none⟩), .int .u64 150] 160)) (by rw [World.cell?_alloc_lt _ _ ⟨w.heap.size, 0, none⟩ (by simp; omega), World.cell?_alloc_lt _ _ ⟨w.heap.size, 0, none⟩ (by simp), World.cell?_alloc_at _ _ _ _ (by simp)]; rfl)
  have st := setE t ⟨w.heap.size + 1 + 1 + 1, 0, none⟩ x old ((((w.alloc (.cells #[.pointer (some t)] 99)).alloc (.cells #[.pointer (some ⟨14, 99, none⟩), .pointer (some ⟨w.heap.size, 0, none⟩), .int .u64 150] 160)).alloc (.cells #[.pointer (some ⟨14, 99, none⟩), .pointer (some ⟨w.heap.size, 0, none⟩), .int .u64 150] 160)).alloc (.cells #[vI vK x] 23))
    (by rw [World.cell?_alloc_at _ _ _ _ (by simp)]; rfl)
    (by rw [World.cell?_alloc_lt _ _ t (by simp; omega), World.cell?_alloc_lt _ _ t (by simp; omega), World.cell?_alloc_lt _ _ t (by simp; omega), World.cell?_alloc_lt _ _ t htl]; exact ht0)
    (by rw [World.frozen?_alloc_old _ _ t (by simp; omega), World.frozen?_alloc_old _ _ t (by simp; omega), World.frozen?_alloc_old _ _ t (by simp; omega), World.frozen?_alloc_old _ _ t (Nat.ne_of_lt htl)]; exact hf0)
  have c1 := noAsA
  have c2 := unwrapA
  have c3 := mUnwrap
  have hpl : p.block < w.heap.size := by
    rcases Nat.lt_or_ge p.block w.heap.size with h | h
    · exact h
    · simp [World.cell?, Array.getElem?_eq_none h] at hp
  have hp3 : (((w.alloc (.cells #[.pointer (some t)] 99)).alloc (.cells #[.pointer (some ⟨14, 99, none⟩), .pointer (some ⟨w.heap.size, 0, none⟩), .int .u64 150] 160)).alloc (.cells #[.pointer (some ⟨14, 99, none⟩), .pointer (some ⟨w.heap.size, 0, none⟩), .int .u64 150] 160)).cell? p = some (vI vK x) := by
    rw [World.cell?_alloc_lt _ _ p (by simp; omega), World.cell?_alloc_lt _ _ p (by simp; omega), World.cell?_alloc_lt _ _ p hpl]; exact hp
  go_enter Tryz.func40, Tryz.ntmps40
  go_wp2
  refine wp_loop_rounds 2 ?_
  rw [rounds_succ]
  go_wp2
  rw [rounds_succ]
  go_wp2
  go_ret
  exact ⟨rfl, rfl⟩

def HandleAt (w : World) : Prop := w.cell? ⟨4, 0, none⟩ = some (.iface 196 (.agg #[.pointer (some ⟨14, 29, none⟩)]))
theorem HandleAt.pos {w : World} (h : HandleAt w) : 4 < w.heap.size := by
  rcases Nat.lt_or_ge 4 w.heap.size with g | g
  · exact g
  · simp [HandleAt, World.cell?, Array.getElem?_eq_none g] at h
theorem HandleAt.later {w w' : World} (h : HandleAt w) (hb : Below w.heap.size w w') : HandleAt w' := (hb.cell (p := ⟨4, 0, none⟩) h.pos).trans h
theorem HandleAt.alloc {w : World} (h : HandleAt w) (o : Obj) : HandleAt (w.alloc o) := h.later ((bF _ _).alloc (Nat.le_refl _) _)

theorem target_filled {w : World} {x : Int} {o1 o2 o3 o4 : Obj} : (((((w.alloc (.cells #[vI vK 0] 23)).alloc o1).alloc o2).alloc o3).alloc o4 |>.setCell ⟨w.heap.size, 0, none⟩ (vI vK x)).cell? ⟨w.heap.size, 0, none⟩ = some (vI vK x) ∧
    Below w.heap.size w (((((w.alloc (.cells #[vI vK 0] 23)).alloc o1).alloc o2).alloc o3).alloc o4 |>.setCell ⟨w.heap.size, 0, none⟩ (vI vK x)) := by
  constructor
  · apply World.cell?_setCell_same (u := vI vK 0)
    have h := ((((bF (w.alloc (.cells #[vI vK 0] 23)).heap.size (w.alloc (.cells #[vI vK 0] 23))).alloc (Nat.le_refl _) o1).alloc (by simp) o2).alloc (by simp <;> omega) o3).alloc (by simp <;> omega) o4
    rw [h.cell (p := ⟨w.heap.size, 0, none⟩) (by simp)]
    simp
  · exact ((((((bF _ _).alloc (Nat.le_refl _) _).alloc (by simp) _).alloc (by simp; omega) _).alloc (by simp; omega) _).alloc (by simp; omega) _).setCell (Nat.le_refl _) _
theorem tell_at (x : Int) (p : Addr) (w : World) (hg : HandleAt w) (hp : w.cell? p = some (vI vK x)) (hpl : p.block < w.heap.size) : Calls Tryz.prog 19 #[.iface 74 (.pointer (some p))] w fun e w' => e = .returned (vI vK x) ∧ Below w.heap.size w w' := by
  have hg1 := hg.alloc (.cells #[vI vK 0] 23)
  have hp1 : (w.alloc (.cells #[vI vK 0] 23)).cell? p = some (vI vK x) := (((bF _ _).alloc (Nat.le_refl _) _).cell hpl).trans hp
  go_enter Tryz.func19, Tryz.ntmps19
  go_wp2_with (go_at_call 40; refine (as_at x p ⟨w.heap.size, 0, none⟩ (vI vK 0) _ hp1 hg1 (by simp) (by simp)).mono ?_; rintro e w1 ⟨rfl, hw1⟩; obtain ⟨t1, t2⟩ := target_filled (w := w) (x := x); rw [← hw1] at t1 t2; clear hw1)
  go_ret
  exact ⟨rfl, t2⟩

end Go.Proofs.YtednmkhdehlojaaGreatDoor
namespace Go.Proofs.YtednmkhdehlojaaGreatDoor
open Go.ChangeShapes Go.WideShapes Go.ChangeAt Go.RowKit
attribute [local simp] drew_size drewN_size setCell_size
variable {ex : Ext}
def lxB : ByteArray := ⟨#[108, 111, 97, 100, 32, 114, 50, 32, 91, 114, 49, 43, 48, 93, 59, 32, 106, 103, 101, 32, 114, 50, 32, 56, 32, 50, 59, 32, 97, 100, 100, 32, 114, 49, 32, 114, 50, 59, 32, 108, 111, 97, 100, 32, 114, 50, 32, 91, 114, 49, 43, 48, 93, 59, 32, 109, 111, 118, 32, 114, 48, 32, 51, 59, 32, 101, 120, 105, 116]⟩
def lxL : List St := [⟨25, 2, 1, false, 0, 0⟩, ⟨18, 2, 0, false, 2, 8⟩, ⟨2, 1, 2, true, 0, 0⟩, ⟨25, 2, 1, false, 0, 0⟩, ⟨1, 0, 0, false, 0, 3⟩, ⟨28, 0, 0, false, 0, 0⟩]
def lxC (i : Nat) : Int := (nth lxL i).c
def lxD (i : Nat) : Int := (nth lxL i).d
def lxS (i : Nat) : Int := (nth lxL i).s
def lxR (i : Nat) : Bool := (nth lxL i).r
def lxO (i : Nat) : Int := (nth lxL i).o
def lxN (i : Nat) : Int := (nth lxL i).n
theorem lx_pieces : (piecesOf lxB).map tells = (List.range 6).map fun i => some (stAt lxC lxD lxS lxR lxO lxN i) := by kernel_rfl
theorem lx_fine : ∀ j, j < 6 → faultAt 6 lxC lxD lxS lxR lxO lxN j = 0 := by
  intro j hj
  rcases (by omega : j = 0 ∨ j = 1 ∨ j = 2 ∨ j = 3 ∨ j = 4 ∨ j = 5) with rfl | rfl | rfl | rfl | rfl | rfl <;> decide
theorem lx_64 : ∀ j, j < 6 → In64 (lxO j) ∧ In64 (lxN j) := by
  intro j hj
  rcases (by omega : j = 0 ∨ j = 1 ∨ j = 2 ∨ j = 3 ∨ j = 4 ∨ j = 5) with rfl | rfl | rfl | rfl | rfl | rfl <;> (unfold In64; decide)
def lyB : ByteArray := ⟨#[108, 111, 97, 100, 32, 114, 50, 32, 91, 114, 49, 43, 48, 93, 59, 32, 97, 100, 100, 32, 114, 49, 32, 114, 50, 59, 32, 108, 111, 97, 100, 32, 114, 50, 32, 91, 114, 49, 43, 48, 93, 59, 32, 109, 111, 118, 32, 114, 48, 32, 51, 59, 32, 101, 120, 105, 116]⟩
def lyL : List St := [⟨25, 2, 1, false, 0, 0⟩, ⟨2, 1, 2, true, 0, 0⟩, ⟨25, 2, 1, false, 0, 0⟩, ⟨1, 0, 0, false, 0, 3⟩, ⟨28, 0, 0, false, 0, 0⟩]
def lyC (i : Nat) : Int := (nth lyL i).c
def lyD (i : Nat) : Int := (nth lyL i).d
def lyS (i : Nat) : Int := (nth lyL i).s
def lyR (i : Nat) : Bool := (nth lyL i).r
def lyO (i : Nat) : Int := (nth lyL i).o
def lyN (i : Nat) : Int := (nth lyL i).n
theorem ly_pieces : (piecesOf lyB).map tells = (List.range 5).map fun i => some (stAt lyC lyD lyS lyR lyO lyN i) := by kernel_rfl
theorem ly_fine : ∀ j, j < 5 → faultAt 5 lyC lyD lyS lyR lyO lyN j = 0 := by
  intro j hj
  rcases (by omega : j = 0 ∨ j = 1 ∨ j = 2 ∨ j = 3 ∨ j = 4) with rfl | rfl | rfl | rfl | rfl <;> decide
theorem ly_64 : ∀ j, j < 5 → In64 (lyO j) ∧ In64 (lyN j) := by
  intro j hj
  rcases (by omega : j = 0 ∨ j = 1 ∨ j = 2 ∨ j = 3 ∨ j = 4) with rfl | rfl | rfl | rfl | rfl <;> (unfold In64; decide)
def lzB : ByteArray := ⟨#[108, 111, 97, 100, 32, 114, 48, 32, 91, 114, 49, 43, 51, 93, 59, 32, 97, 100, 100, 32, 114, 48, 32, 49, 59, 32, 101, 120, 105, 116]⟩
def lzL : List St := [⟨25, 0, 1, false, 3, 0⟩, ⟨2, 0, 0, false, 0, 1⟩, ⟨28, 0, 0, false, 0, 0⟩]
def lzC (i : Nat) : Int := (nth lzL i).c
def lzD (i : Nat) : Int := (nth lzL i).d
def lzS (i : Nat) : Int := (nth lzL i).s
def lzR (i : Nat) : Bool := (nth lzL i).r
def lzO (i : Nat) : Int := (nth lzL i).o
def lzN (i : Nat) : Int := (nth lzL i).n
theorem lz_pieces : (piecesOf lzB).map tells = (List.range 3).map fun i => some (stAt lzC lzD lzS lzR lzO lzN i) := by kernel_rfl
theorem lz_fine : ∀ j, j < 3 → faultAt 3 lzC lzD lzS lzR lzO lzN j = 0 := by
  intro j hj
  rcases (by omega : j = 0 ∨ j = 1 ∨ j = 2) with rfl | rfl | rfl <;> decide
theorem lz_64 : ∀ j, j < 3 → In64 (lzO j) ∧ In64 (lzN j) := by
  intro j hj
  rcases (by omega : j = 0 ∨ j = 1 ∨ j = 2) with rfl | rfl | rfl <;> (unfold In64; decide)
theorem lx_go : ∃ es, goF lxC lxD lxS lxR lxO lxN 4000 [(0, way0)] [] = .inr es ∧ joinTo (endAt es) es.length = (3, 3) := ⟨[⟨1, 3, 3⟩, ⟨1, 3, 3⟩], by kernel_rfl, by kernel_rfl⟩
theorem ly_go : goF lyC lyD lyS lyR lyO lyN 4000 [(0, way0)] [] = .inl (2, 1) := by kernel_rfl
theorem lx_read (he : ∀ w, ex.holds w → ErrTabs w) (hu : ∀ w, ex.holds w → Lib.Utf8Tabs 7 8 w) (w : World) (hT : Tabs ex w) : Calls Tryz.prog 9 #[.string ⟨#[108, 111, 97, 100, 32, 114, 50, 32, 91, 114, 49, 43, 48, 93, 59, 32, 106, 103, 101, 32, 114, 50, 32, 56, 32, 50, 59, 32, 97, 100, 100, 32, 114, 49, 32, 114, 50, 59, 32, 108, 111, 97, 100, 32, 114, 50, 32, 91, 114, 49, 43, 48, 93, 59, 32, 109, 111, 118, 32, 114, 48, 32, 51, 59, 32, 101, 120, 105, 116]⟩] w fun e w' => ∃ v, e = .returned v ∧ ∃ g cp, v = .tuple #[.slice (some ⟨g, 0, none⟩) 6 cp, .nilIface] ∧ Below w.heap.size w w' ∧ g < w'.heap.size ∧ StepsAt w' g 0 6 lxC lxD lxS lxR lxO lxN :=
  (read_any he hu lxB (by decide) w hT).mono fun e w' hre => by
    obtain ⟨g, cp, h1, h2⟩ := read_written lx_pieces (by decide) lx_fine hre
    exact ⟨_, h1, g, cp, rfl, h2⟩
theorem ly_read (he : ∀ w, ex.holds w → ErrTabs w) (hu : ∀ w, ex.holds w → Lib.Utf8Tabs 7 8 w) (w : World) (hT : Tabs ex w) : Calls Tryz.prog 9 #[.string ⟨#[108, 111, 97, 100, 32, 114, 50, 32, 91, 114, 49, 43, 48, 93, 59, 32, 97, 100, 100, 32, 114, 49, 32, 114, 50, 59, 32, 108, 111, 97, 100, 32, 114, 50, 32, 91, 114, 49, 43, 48, 93, 59, 32, 109, 111, 118, 32, 114, 48, 32, 51, 59, 32, 101, 120, 105, 116]⟩] w fun e w' => ∃ v, e = .returned v ∧ ∃ g cp, v = .tuple #[.slice (some ⟨g, 0, none⟩) 5 cp, .nilIface] ∧ Below w.heap.size w w' ∧ g < w'.heap.size ∧ StepsAt w' g 0 5 lyC lyD lyS lyR lyO lyN :=
  (read_any he hu lyB (by decide) w hT).mono fun e w' hre => by
    obtain ⟨g, cp, h1, h2⟩ := read_written ly_pieces (by decide) ly_fine hre
    exact ⟨_, h1, g, cp, rfl, h2⟩
theorem lz_read (he : ∀ w, ex.holds w → ErrTabs w) (hu : ∀ w, ex.holds w → Lib.Utf8Tabs 7 8 w) (w : World) (hT : Tabs ex w) : Calls Tryz.prog 9 #[.string ⟨#[108, 111, 97, 100, 32, 114, 48, 32, 91, 114, 49, 43, 51, 93, 59, 32, 97, 100, 100, 32, 114, 48, 32, 49, 59, 32, 101, 120, 105, 116]⟩] w fun e w' => ∃ v, e = .returned v ∧ ∃ g cp, v = .tuple #[.slice (some ⟨g, 0, none⟩) 3 cp, .nilIface] ∧ Below w.heap.size w w' ∧ g < w'.heap.size ∧ StepsAt w' g 0 3 lzC lzD lzS lzR lzO lzN :=
  (read_any he hu lzB (by decide) w hT).mono fun e w' hre => by
    obtain ⟨g, cp, h1, h2⟩ := read_written lz_pieces (by decide) lz_fine hre
    exact ⟨_, h1, g, cp, rfl, h2⟩
theorem lx_verify (g cp : Nat) (w : World) (hg : g < w.heap.size) (hst : StepsAt w g 0 6 lxC lxD lxS lxR lxO lxN) : Calls Tryz.prog 16 #[.slice (some ⟨g, 0, none⟩) 6 cp] w fun e w' => e = .returned (.tuple #[.agg #[vI vK 3, vI vK 3], .nilIface]) ∧ Below w.heap.size w w' := by
  obtain ⟨es, hgo, hjn⟩ := lx_go
  have hq := verify_fine g 0 6 cp lxC lxD lxS lxO lxN lxR w (by decide) (by decide) hg hst lx_fine lx_64 es hgo
  rw [hjn] at hq
  exact hq
theorem ly_verify (g cp : Nat) (w : World) (hg : g < w.heap.size) (hst : StepsAt w g 0 5 lyC lyD lyS lyR lyO lyN) : Calls Tryz.prog 16 #[.slice (some ⟨g, 0, none⟩) 5 cp] w fun e w' => ∃ v, e = .returned v ∧ ∃ p, v = .tuple #[.agg #[vI vK 0, vI vK 0], .iface 74 (.pointer (some ⟨p, 0, none⟩))] ∧ Below w.heap.size w w' ∧ p < w'.heap.size ∧ w'.cell? ⟨p, 0, none⟩ = some (vI vK 2) :=
  (verify_bad g 0 5 cp lyC lyD lyS lyO lyN lyR w (by decide) (by decide) hg hst ly_fine ly_64 2 1 ly_go).mono fun e w' h => by
    obtain ⟨p, h1, h2, h3, h4, h5, h6⟩ := h
    exact ⟨_, h1, p, rfl, h2, h4, h5⟩
theorem let_true (he : ∀ w, ex.holds w → ErrTabs w) (hu : ∀ w, ex.holds w → Lib.Utf8Tabs 7 8 w) (w : World) (hT : Tabs ex w) (hg : HandleAt w) : Calls Tryz.prog 17 #[] w fun e w' => e = .returned (.bool true) ∧ Below w.heap.size w w' := by
  have hroom := hT.room
  go_enter Tryz.func17, Tryz.ntmps17
  go_upto_region 1 with fail
  go_step
  refine wpList_callEx rfl 9 #[.string ⟨#[108, 111, 97, 100, 32, 114, 50, 32, 91, 114, 49, 43, 48, 93, 59, 32, 106, 103, 101, 32, 114, 50, 32, 56, 32, 50, 59, 32, 97, 100, 100, 32, 114, 49, 32, 114, 50, 59, 32, 108, 111, 97, 100, 32, 114, 50, 32, 91, 114, 49, 43, 48, 93, 59, 32, 109, 111, 118, 32, 114, 48, 32, 51, 59, 32, 101, 120, 105, 116]⟩] (by go_simp; try rfl) (lx_read he hu w hT) ?_
  intro v1 w1 hq
  obtain ⟨g1, cp1, rfl, hb1, hg1, hst1⟩ := hq
  simp only [Act.put, siA, scZ, scS]
  go_upto_region 2 with fail
  go_step
  refine wpList_callEx rfl 9 #[.string ⟨#[108, 111, 97, 100, 32, 114, 50, 32, 91, 114, 49, 43, 48, 93, 59, 32, 97, 100, 100, 32, 114, 49, 32, 114, 50, 59, 32, 108, 111, 97, 100, 32, 114, 50, 32, 91, 114, 49, 43, 48, 93, 59, 32, 109, 111, 118, 32, 114, 48, 32, 51, 59, 32, 101, 120, 105, 116]⟩] (by go_simp; try rfl) (ly_read he hu w1 (hT.on hb1 hroom)) ?_
  intro v2 w2 hq
  obtain ⟨g2, cp2, rfl, hb2, hg2, hst2⟩ := hq
  simp only [Act.put, siA, scZ, scS]
  go_upto_region 5 with fail
  go_step
  (refine wpList_valueOf rfl (.slice (some ⟨g1, 0, none⟩) 6 cp1) w2 (by go_simp; try rfl) ?_); simp only [Act.put, siA, scZ, scS]
  (refine wpList_callOf rfl 16 #[.slice (some ⟨g1, 0, none⟩) 6 cp1] (by go_simp; try rfl) (.tuple #[.agg #[vI vK 3, vI vK 3], .nilIface]) (lx_verify g1 cp1 w2 (Nat.lt_of_lt_of_le hg1 hb2.size) (hst1.later hb2 hg1)) ?_)
  intro w3 hb3
  simp only [Act.put, siA, scZ, scS]
  go_upto_region 6 with fail
  have hq3 : Below w2.heap.size w2 (w3.alloc (.cells #[vI vK 3, vI vK 3] 43)) := hb3.alloc hb3.size _
  have hB3 := heap_alloc_new w3 (.cells #[vI vK 3, vI vK 3] 43)
  generalize (w3.alloc (.cells #[vI vK 3, vI vK 3] 43)) = w4 at hq3 hB3 ⊢
  generalize w3.heap.size = B5 at hB3 ⊢
  go_step
  (refine wpList_valueOf rfl (.slice (some ⟨g2, 0, none⟩) 5 cp2) w4 (by go_simp; try rfl) ?_); simp only [Act.put, siA, scZ, scS]
  refine wpList_callEx rfl 16 #[.slice (some ⟨g2, 0, none⟩) 5 cp2] (by go_simp; try rfl) (ly_verify g2 cp2 w4 (Nat.lt_of_lt_of_le hg2 hq3.size) (hst2.later hq3 hg2)) ?_
  intro v5 w5 hq
  obtain ⟨p, rfl, hb5, hp5, hc5⟩ := hq
  simp only [Act.put, siA, scZ, scS]
  go_upto_region 7 with fail
  have hq5 : Below w4.heap.size w4 (w5.alloc (.cells #[vI vK 0, vI vK 0] 43)) := hb5.alloc hb5.size _
  have hq6 : Below w5.heap.size w5 (w5.alloc (.cells #[vI vK 0, vI vK 0] 43)) := (bF _ _).alloc (Nat.le_refl _) _
  have hbw : Below w.heap.size w (w5.alloc (.cells #[vI vK 0, vI vK 0] 43)) := ((hb1.trans (hb2.mono hb1.size)).trans (hq3.mono (Nat.le_trans hb1.size hb2.size))).trans (hq5.mono (Nat.le_trans (Nat.le_trans hb1.size hb2.size) hq3.size))
  have hB5 : B5 < w4.heap.size := (Array.getElem?_eq_some_iff.1 hB3).1
  have b5 := (hq5.block B5 hB5).trans hB3
  have c0 := (hq6.cell (p := ⟨p, 0, none⟩) hp5).trans hc5
  have hp6 := Nat.lt_of_lt_of_le hp5 hq6.size
  have hg6 : Hid (HandleAt (w5.alloc (.cells #[vI vK 0, vI vK 0] 43))) := (hbw.cell (p := ⟨4, 0, none⟩) hg.pos).trans hg
  clear hq5 hq6 hB3 hc5 hp5 hb5 hq3 hst1 hst2 hb1 hb2 hb3
  generalize (w5.alloc (.cells #[vI vK 0, vI vK 0] 43)) = w6 at hbw b5 c0 hp6 hg6 ⊢
  obtain ⟨b0, b1, -, -, hB6⟩ := row2 b5
  refine wp_float (C := fun W => Below w6.heap.size w6 W) (n0 := w6.heap.size) 12 [] [] (by kernel_rfl) (by kernel_rfl) (fun d _ _ _ _ h => by cases d <;> exact h) (fun W W' h hb => h.trans (hb.mono h.size)) (fun W h => h.size) ((bF _ _).drew) trivial ?_
  simp only [List.take_succ_cons, List.take_zero, List.drop_succ_cons, List.drop_zero, List.length_nil, Nat.reduceAdd]
  repeat (first
    | (refine wpQ_skip (by rfl) ?_; simp only [Act.put, siA, scZ, scS])
    | (refine wpQ_yield (by rfl) (v := ?_) ?_ ?_; rotate_left; (intro w2 hC; have l0 := (hC.cell (p := ⟨B5, 0, none⟩) hB6).trans b0; have l1 := (hC.cell (p := ⟨B5, 1, none⟩) hB6).trans b1; have lt5 := Nat.lt_of_lt_of_le hB6 hC.size; have q0 := (hC.cell (p := ⟨p, 0, none⟩) hp6).trans c0; have ltp := Nat.lt_of_lt_of_le hp6 hC.size; have hg2 : Hid (HandleAt w2) := (hC.cell (p := ⟨4, 0, none⟩) hg6.out.pos).trans hg6.out; go_simp; try with_reducible rfl); simp only [Act.put, siA, scZ, scS])
    | (refine wpQ_enter (by rfl) ?_; apply Exists.intro; refine ⟨fun w2 hC => ?_, ?_⟩; (have l0 := (hC.cell (p := ⟨B5, 0, none⟩) hB6).trans b0; have l1 := (hC.cell (p := ⟨B5, 1, none⟩) hB6).trans b1; have lt5 := Nat.lt_of_lt_of_le hB6 hC.size; have q0 := (hC.cell (p := ⟨p, 0, none⟩) hp6).trans c0; have ltp := Nat.lt_of_lt_of_le hp6 hC.size; have hg2 : Hid (HandleAt w2) := (hC.cell (p := ⟨4, 0, none⟩) hg6.out.pos).trans hg6.out; go_simp; apply qb_enter; first | (go_at_call 37; exact one_is 3 w2) | (go_at_call 19; exact tell_at 2 ⟨p, 0, none⟩ w2 hg2.out q0 ltp)); simp only [Act.put, siA, scZ, scS]))
  refine wpQ_nil ?_
  intro w7 hC hB7
  go_wp2_with fail
  go_ret
  exact ⟨rfl, hbw.trans (hC.mono hbw.size)⟩
def lzT (i : Nat) : Int := if i = 3 then 8 else 0
theorem fine_of {X : End} {n : Int} {k : Nat} (h : (match X with | .inl _ => ((0 : Int), (0 : Nat)) | .inr (n, k, _) => (n, k)) = (n, k)) (hk : k ≠ 0) : ∃ a, X = .fine n k a := by
  rcases X with x | ⟨n', k', a⟩
  · exact absurd (congrArg Prod.snd h).symm hk
  · have h1 : n' = n := congrArg Prod.fst h
    have h2 : k' = k := congrArg Prod.snd h
    subst h1 h2
    exact ⟨a, rfl⟩
theorem lz_runs : ∃ a, runF lzC lzD lzS lzR lzO lzN 3 0 0 ((start lzT (fun _ => 0) 0).abs []) = .fine 9 3 a := fine_of (by kernel_rfl) (by decide)
theorem lzT_64 : ∀ i, i < 8 → In64 (lzT i) := by
  intro i hi
  unfold lzT
  split <;> (unfold In64; decide)
theorem lz_run (g cp : Nat) (w : World) (hg : g < w.heap.size) (hst : StepsAt w g 0 3 lzC lzD lzS lzR lzO lzN) : ∃ a : Abs, Calls Tryz.prog 21 #[.slice (some ⟨g, 0, none⟩) 3 cp, .agg #[vI vK 0, vI vK 0, vI vK 0, vI vK 8, vI vK 0, vI vK 0, vI vK 0, vI vK 0], .agg #[vI vK 0, vI vK 0, vI vK 0, vI vK 0, vI vK 0, vI vK 0, vI vK 0, vI vK 0, vI vK 0, vI vK 0, vI vK 0, vI vK 0, vI vK 0, vI vK 0, vI vK 0, vI vK 0], vI vK 0] w fun e w' => ∃ v, e = .returned v ∧ ∃ v3, v = .tuple #[.agg #[vI vK 9, vI vK (a.cel 0), vI vK (a.cel 1), vI vK (a.cel 2), vI vK (a.cel 3), vI vK (a.cel 4), vI vK (a.cel 5), vI vK (a.cel 6), vI vK (a.cel 7), vI vK (a.cel 8), vI vK (a.cel 9), vI vK (a.cel 10), vI vK (a.cel 11), vI vK (a.cel 12), vI vK (a.cel 13), vI vK (a.cel 14), vI vK (a.cel 15), v3, vI vK (((3 : Nat) : Int) : Int)], .nilIface] ∧ Below w.heap.size w w' ∧ w'.ownsRow (w.heap.size + 1) 2 1 v3 a.out.length (a.out.map (Value.int .i64)) := by
  obtain ⟨a, ha⟩ := lz_runs
  refine ⟨a, ?_⟩
  have hq := run_fine g 0 3 cp lzC lzD lzS lzO lzN lzR lzT (fun _ => 0) 0 w (by decide) (by decide) hg hst lz_fine (fun k hk => (lz_64 k hk).2) lzT_64 (fun i hi => by unfold In64; decide) (by unfold In64; decide) 9 3 a ha
  exact hq.mono fun e w' h => by
    obtain ⟨v3, h1, h2⟩ := h
    exact ⟨_, h1, v3, rfl, h2⟩
theorem runs_true (he : ∀ w, ex.holds w → ErrTabs w) (hu : ∀ w, ex.holds w → Lib.Utf8Tabs 7 8 w) (w : World) (hT : Tabs ex w) : Calls Tryz.prog 20 #[] w fun e w' => e = .returned (.bool true) ∧ Below w.heap.size w w' := by
  go_enter Tryz.func20, Tryz.ntmps20
  go_upto_region 1 with fail
  go_step
  refine wpList_callEx rfl 9 #[.string ⟨#[108, 111, 97, 100, 32, 114, 48, 32, 91, 114, 49, 43, 51, 93, 59, 32, 97, 100, 100, 32, 114, 48, 32, 49, 59, 32, 101, 120, 105, 116]⟩] (by go_simp; try rfl) (lz_read he hu w hT) ?_
  intro v1 w1 hq
  obtain ⟨g1, cp1, rfl, hb1, hg1, hst1⟩ := hq
  simp only [Act.put, siA, scZ, scS]
  go_upto_region 4 with fail
  obtain ⟨a, hrun⟩ := lz_run g1 cp1 w1 hg1 hst1
  go_step
  (refine wpList_valueOf rfl (.slice (some ⟨g1, 0, none⟩) 3 cp1) w1 (by go_simp; try rfl) ?_); simp only [Act.put, siA, scZ, scS]
  (refine wpList_valueOf rfl (.agg #[vI vK 0, vI vK 0, vI vK 0, vI vK 8, vI vK 0, vI vK 0, vI vK 0, vI vK 0]) w1 (by go_simp; try rfl) ?_); simp only [Act.put, siA, scZ, scS]
  (refine wpList_valueOf rfl (.agg #[vI vK 0, vI vK 0, vI vK 0, vI vK 0, vI vK 0, vI vK 0, vI vK 0, vI vK 0, vI vK 0, vI vK 0, vI vK 0, vI vK 0, vI vK 0, vI vK 0, vI vK 0, vI vK 0]) w1 (by go_simp; try rfl) ?_); simp only [Act.put, siA, scZ, scS]
  refine wpList_callEx rfl 21 #[.slice (some ⟨g1, 0, none⟩) 3 cp1, .agg #[vI vK 0, vI vK 0, vI vK 0, vI vK 8, vI vK 0, vI vK 0, vI vK 0, vI vK 0], .agg #[vI vK 0, vI vK 0, vI vK 0, vI vK 0, vI vK 0, vI vK 0, vI vK 0, vI vK 0, vI vK 0, vI vK 0, vI vK 0, vI vK 0, vI vK 0, vI vK 0, vI vK 0, vI vK 0], vI vK 0] (by go_simp; try rfl) hrun ?_
  intro v2 w2 hq
  obtain ⟨v3, rfl, hb2, hown⟩ := hq
  obtain ⟨qa, qc, rfl⟩ : ∃ qa qc, v3 = .slice qa a.out.length qc := by
    rcases hown.2 with ⟨e1, e2⟩ | ⟨g, cap, cur, e1, _⟩
    · exact ⟨none, 0, by rw [e2]; exact e1⟩
    · exact ⟨_, _, e1⟩
  simp only [Act.put, siA, scZ, scS]
  (refine wpList_valueOf rfl (.tuple #[.agg #[vI vK 9, vI vK (a.cel 0), vI vK (a.cel 1), vI vK (a.cel 2), vI vK (a.cel 3), vI vK (a.cel 4), vI vK (a.cel 5), vI vK (a.cel 6), vI vK (a.cel 7), vI vK (a.cel 8), vI vK (a.cel 9), vI vK (a.cel 10), vI vK (a.cel 11), vI vK (a.cel 12), vI vK (a.cel 13), vI vK (a.cel 14), vI vK (a.cel 15), (.slice qa a.out.length qc), vI vK (((3 : Nat) : Int) : Int)], .nilIface]) w2 (by go_simp; try rfl) ?_); simp only [Act.put, siA, scZ, scS]
  (refine wpList_valueOf rfl (.agg #[vI vK 9, vI vK (a.cel 0), vI vK (a.cel 1), vI vK (a.cel 2), vI vK (a.cel 3), vI vK (a.cel 4), vI vK (a.cel 5), vI vK (a.cel 6), vI vK (a.cel 7), vI vK (a.cel 8), vI vK (a.cel 9), vI vK (a.cel 10), vI vK (a.cel 11), vI vK (a.cel 12), vI vK (a.cel 13), vI vK (a.cel 14), vI vK (a.cel 15), (.slice qa a.out.length qc), vI vK (((3 : Nat) : Int) : Int)]) w2 (by go_simp; try rfl) ?_); simp only [Act.put, siA, scZ, scS]
  (refine wpList_valueOf rfl .nilIface w2 (by go_simp; try rfl) ?_); simp only [Act.put, siA, scZ, scS]
  refine wpList_valueOf rfl (.pointer (some ⟨w2.heap.size, 0, none⟩)) (w2.alloc (.cells zeroCs 59)) (by go_simp; try rfl) ?_
  simp only [Act.put, siA, scZ, scS]
  (refine wpList_store_row rfl 59 (.tmp 3) (.tmp 15) rfl w2.heap.size #[vI vK 9, vI vK (a.cel 0), vI vK (a.cel 1), vI vK (a.cel 2), vI vK (a.cel 3), vI vK (a.cel 4), vI vK (a.cel 5), vI vK (a.cel 6), vI vK (a.cel 7), vI vK (a.cel 8), vI vK (a.cel 9), vI vK (a.cel 10), vI vK (a.cel 11), vI vK (a.cel 12), vI vK (a.cel 13), vI vK (a.cel 14), vI vK (a.cel 15), (.slice qa a.out.length qc), vI vK (((3 : Nat) : Int) : Int)] rfl rfl 59 zeroCs (heap_alloc_new _ _) Tryz.infoRan rfl (by kernel_rfl) ?_)
  simp only [Act.put]
  have hrow := setRow_heap (w2.alloc (.cells zeroCs 59)) w2.heap.size zeroCs #[vI vK 9, vI vK (a.cel 0), vI vK (a.cel 1), vI vK (a.cel 2), vI vK (a.cel 3), vI vK (a.cel 4), vI vK (a.cel 5), vI vK (a.cel 6), vI vK (a.cel 7), vI vK (a.cel 8), vI vK (a.cel 9), vI vK (a.cel 10), vI vK (a.cel 11), vI vK (a.cel 12), vI vK (a.cel 13), vI vK (a.cel 14), vI vK (a.cel 15), (.slice qa a.out.length qc), vI vK (((3 : Nat) : Int) : Int)] 59 (0, 0) (heap_alloc_new _ _)
  have hb3 : Below w2.heap.size w2 ((w2.alloc (.cells zeroCs 59)).setRow w2.heap.size #[vI vK 9, vI vK (a.cel 0), vI vK (a.cel 1), vI vK (a.cel 2), vI vK (a.cel 3), vI vK (a.cel 4), vI vK (a.cel 5), vI vK (a.cel 6), vI vK (a.cel 7), vI vK (a.cel 8), vI vK (a.cel 9), vI vK (a.cel 10), vI vK (a.cel 11), vI vK (a.cel 12), vI vK (a.cel 13), vI vK (a.cel 14), vI vK (a.cel 15), (.slice qa a.out.length qc), vI vK (((3 : Nat) : Int) : Int)]) := below_setRow ((bF _ _).alloc (Nat.le_refl _) _) (Nat.le_refl _) _
  have r0 := cell_of_row _ w2.heap.size 0 _ 59 (0, 0) hrow
  have r18 := cell_of_row _ w2.heap.size 18 _ 59 (0, 0) hrow
  have hlt := (Array.getElem?_eq_some_iff.1 hrow).1
  simp only [List.getElem?_toArray, List.getElem?_cons_zero, List.getElem?_cons_succ] at r0 r18
  have hbw := (hb1.trans (hb2.mono hb1.size)).trans (hb3.mono (Nat.le_trans hb1.size hb2.size))
  clear hrow hrun hown hb3
  generalize ((w2.alloc (.cells zeroCs 59)).setRow w2.heap.size #[vI vK 9, vI vK (a.cel 0), vI vK (a.cel 1), vI vK (a.cel 2), vI vK (a.cel 3), vI vK (a.cel 4), vI vK (a.cel 5), vI vK (a.cel 6), vI vK (a.cel 7), vI vK (a.cel 8), vI vK (a.cel 9), vI vK (a.cel 10), vI vK (a.cel 11), vI vK (a.cel 12), vI vK (a.cel 13), vI vK (a.cel 14), vI vK (a.cel 15), (.slice qa a.out.length qc), vI vK (((3 : Nat) : Int) : Int)]) = w3 at hbw r0 r18 hlt ⊢
  generalize w2.heap.size = B3 at r0 r18 hlt ⊢
  change _ = some (Value.int .i64 3) at r18
  go_wp2_with fail
  go_ret
  exact ⟨rfl, hbw⟩
end Go.Proofs.YtednmkhdehlojaaGreatDoor
