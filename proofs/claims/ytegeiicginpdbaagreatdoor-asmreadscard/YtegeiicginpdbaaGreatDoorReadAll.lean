/-
  What asm.Read returns to a text: the steps that it tells, or which piece is none, or what op.Check returned; the world below is as it was. Conditions: the tables lie in memory, the library's two errors are errors, the text is short.
-/
import Derived.Test.YtegeiicginpdbaaGreatDoorSplit
import Derived.Test.YtegeiicginpdbaaGreatDoorChecks
import Derived.Shelf.RegionOpen
namespace Go.Proofs.YtegeiicginpdbaaGreatDoor
open Go.ChangeShapes Go.WideShapes Go.ChangeAt Go.RowKit Go.Shelf
variable {ex : Ext}
attribute [local go_sem] Oper.semAt_some

/-! ### Rows of whatever width -/
section
variable {w w1 : World} {base base' n size : Nat} {e : TypeId} {v : Value} {xs : List Value}
theorem ownN_later (h : w.ownsRow base e size v n xs) (hb : Below w.heap.size w w1) : w1.ownsRow base e size v n xs :=
  h.kept (row := none) ⟨hb.os, hb.tape, hb.output, hb.size, fun k hk _ => hb.block k hk⟩ (by cases v.ownBlock <;> simp)
theorem ownN_from (h : w.ownsRow base e size v n xs) : ∀ k, v.ownBlock = some k → base ≤ k := by
  intro k hk
  rcases h.2 with ⟨rfl, _⟩ | ⟨g, cap, cur, rfl, hb, _⟩
  · simp [Value.ownBlock] at hk
  · simp [Value.ownBlock] at hk; omega
theorem ownN_lower (h : w.ownsRow base e size v n xs) (hb : base' ≤ base) : w.ownsRow base' e size v n xs := by
  refine ⟨h.1, ?_⟩
  rcases h.2 with hn | ⟨g, cap, cur, rfl, hg, rest⟩
  · exact .inl hn
  · exact .inr ⟨g, cap, cur, rfl, Nat.le_trans hb hg, rest⟩
theorem ownN_shape (h : w.ownsRow base e size v n xs) (hn : 0 < n) : ∃ g cap, v = .slice (some ⟨g, 0, none⟩) n cap := by
  rcases h.2 with ⟨_, rfl⟩ | ⟨g, cap, _, rfl, _⟩
  · omega
  · exact ⟨g, cap, rfl⟩
end
theorem collectedN {W w1 : World} {B n₁ size : Nat} {t e : TypeId} {v v' : Value} {k m : Nat} {xs ys : List Value} {tmp : Obj} (hv : Boxed W B t v) (hB : B < n₁) (hn₁ : n₁ ≤ W.heap.size) (hrow : W.ownsRow n₁ e size v k xs)
    (hown' : w1.ownsRow n₁ e size v' m ys) (hgrow : (W.alloc tmp).grownBy w1 v.ownBlock) :
    Boxed w1 B t v ∧ Boxed (w1.setCell ⟨B, 0, none⟩ v') B t v' ∧ (w1.setCell ⟨B, 0, none⟩ v').ownsRow n₁ e size v' m ys ∧ KeepsOthers W (w1.setCell ⟨B, 0, none⟩ v') ∧ Below B W (w1.setCell ⟨B, 0, none⟩ v')
      ∧ ∀ j, j < n₁ → j ≠ B → (w1.setCell ⟨B, 0, none⟩ v').heap[j]? = W.heap[j]? := by
  have hf := ownN_from hrow
  have hk : ∀ j, j < n₁ → w1.heap[j]? = W.heap[j]? := fun j hj => (hgrow.block j (by simp; omega) (fun e => by have := hf j e.symm; omega)).trans (Below.heap_alloc _ _ _ (by omega))
  have hb1 : Boxed w1 B t v := (hk B hB).trans hv
  refine ⟨hb1, hb1.set v', ownsRow_setCell_below hown' hB v', ?_, ?_, fun j hj hne => (Below.heap_setCell w1 ⟨B, 0, none⟩ v' j hne).trans (hk j hj)⟩
  · refine ((KeepsOthers.alloc W tmp).trans (KeepsOthers.of_grownBy hgrow fun j o e ho => ?_)).trans (KeepsOthers.setCell _ _ _)
    rcases (hrow.alloc tmp).2 with ⟨rfl, _⟩ | ⟨g, cap, cur, rfl, _, hg, _⟩
    · simp [Value.ownBlock] at e
    · simp [Value.ownBlock] at e
      subst e; rw [hg] at ho; cases ho; rfl
  · exact (((Below.refl B W).alloc (by omega) tmp).grown hgrow (by simp; omega) (fun j e => by have := hf j e; omega)).setCell (Nat.le_refl _) _
theorem boxed_later {W w1 : World} {b : Nat} {ty : TypeId} {v : Value} (h : Boxed W b ty v) (hb : Below W.heap.size W w1) : Boxed w1 b ty v := (hb.block b h.lt).trans h
/-! ### The steps of a text -/
/-- The step that a piece tells. -/
def tells (p : ByteArray) : Option St := stepOf ((fieldsOf p).take 5)
def toldBy (ps : List ByteArray) : List St := ps.map fun p => (tells p).getD St.zero
def cellsOf (xs : List St) : List Value := (xs.map fun x => x.cells.toList).flatten
theorem cellsOf_append (xs : List St) (x : St) : cellsOf (xs ++ [x]) = cellsOf xs ++ x.cells.toList := by simp [cellsOf]
theorem Tryz.infoStep : (Tryz.prog.info? 49).map (fun i => (i.zero, i.size, i.bytes)) = some (some (.agg St.zero.cells), 6, 48) := by kernel_rfl
/-! ### What the caller's invariant abides -/
def Stab {β : Type} (B Bs : Nat) (I : β → World → Prop) : Prop := ∀ s W W' row, I s W → W.grownBy W' row → (∀ r, row = some r → (B ≤ r ∧ ∃ o : Obj, W.heap[r]? = some o ∧ o.isCells = false) ∨ r = Bs) → I s W'
theorem Stab.own {β : Type} {B Bs : Nat} {I : β → World → Prop} (h : Stab B Bs I) : OwnFrom B I := fun s W W' row hs hg hr => h s W W' row hs hg fun r e => Or.inl (hr r e)
theorem Stab.abide {β : Type} {B Bs : Nat} {I : β → World → Prop} (h : Stab B Bs I) : Abide Bs I := fun s W W' row hs hg hr => h s W W' row hs hg fun r e => by
  rcases hr with k | k
  · rw [k] at e; cases e
  · rw [k] at e; exact Or.inr (Option.some.inj e).symm
theorem stab_cells {W W' : World} {row : Option Nat} {B Bs k : Nat} {c : Array Value} {t : TypeId} {fz : Nat × Nat} (hg : W.grownBy W' row) (hr : ∀ r, row = some r → (B ≤ r ∧ ∃ o : Obj, W.heap[r]? = some o ∧ o.isCells = false) ∨ r = Bs) (hk : W.heap[k]? = some (.cells c t fz)) (hne : k ≠ Bs) : W'.heap[k]? = some (.cells c t fz) := by
  refine (hg.block k (Array.getElem?_eq_some_iff.1 hk).1 fun e => ?_).trans hk
  rcases hr k e.symm with ⟨_, o, ho, hc⟩ | h
  · rw [hk] at ho; cases ho; cases hc
  · exact hne h
theorem stab_own {W W' : World} {row : Option Nat} {B Bs base n size : Nat} {e : TypeId} {v : Value} {xs : List Value} (hg : W.grownBy W' row) (hr : ∀ r, row = some r → (B ≤ r ∧ ∃ o : Obj, W.heap[r]? = some o ∧ o.isCells = false) ∨ r = Bs) (h : W.ownsRow base e size v n xs) (hb : Bs < base) : W'.ownsRow base e size v n xs := by
  refine ⟨h.1, ?_⟩
  rcases h.2 with hn | ⟨g, cap, cur, rfl, hbg, hgg, rest⟩
  · exact .inl hn
  · exact .inr ⟨g, cap, cur, rfl, hbg, stab_cells hg hr hgg (by omega), rest⟩
theorem stab_below {W W' w : World} {row : Option Nat} {B Bs : Nat} (hg : W.grownBy W' row) (hr : ∀ r, row = some r → (B ≤ r ∧ ∃ o : Obj, W.heap[r]? = some o ∧ o.isCells = false) ∨ r = Bs) (h : Below w.heap.size w W) (h1 : w.heap.size ≤ B) (h2 : w.heap.size ≤ Bs) : Below w.heap.size w W' :=
  h.trans ⟨hg.os, hg.tape, hg.output, hg.size, fun k hk => hg.block k (Nat.lt_of_lt_of_le hk h.size) fun e => by
    rcases hr k e.symm with ⟨hb, _⟩ | hb
    · omega
    · omega⟩
theorem pieces_length : ∀ (f : Nat) (t : ByteArray), (piecesFrom f t).length ≤ f + 1
  | 0, t => by simp [piecesFrom]
  | f + 1, t => by
    by_cases h : 0 ≤ semi t
    · rw [pieces_cut h, List.length_cons]; have := pieces_length f (t.extract ((semi t).toNat + 1) t.size); omega
    · rw [pieces_end h]; simp
/-- Between two rounds: the steps so far (no more than one too many), how many pieces there were, the results not set yet. -/
def Going (ex : Ext) (w : World) (pre : List Short) (W : World) : Prop :=
  (∃ v, Boxed W (w.heap.size + 2) 22 v ∧ W.ownsRow (w.heap.size + 7) 49 6 v (min pre.length 201) (cellsOf ((toldBy (pre.map (·.1))).take 201))) ∧ (∀ x ∈ pre, (tells x.1).isSome = true) ∧ Boxed W (w.heap.size + 3) 3 (.int .i64 pre.length)
  ∧ Boxed W w.heap.size 22 (.slice none 0 0) ∧ Boxed W (w.heap.size + 1) 29 .nilIface ∧ Below w.heap.size w W ∧ w.heap.size + 7 ≤ W.heap.size ∧ Tabs ex W
/-- A piece was none: the results are set. -/
def Left (w : World) (c : Code) (pre : List Short) (W : World) : Prop :=
  c = .ret ∧ ∃ (pre0 : List Short) (x : Short) (p : Nat), pre = pre0 ++ [x] ∧ (∀ y ∈ pre0, (tells y.1).isSome = true) ∧ tells x.1 = none ∧ Boxed W w.heap.size 22 (.slice none 0 0) ∧ Boxed W (w.heap.size + 1) 29 (.iface 74 (.pointer (some ⟨p, 0, none⟩)))
    ∧ w.heap.size + 7 ≤ p ∧ W.heap[p]? = some (.cells #[.int .i64 3, .int .i64 pre0.length] 75 (0, 0)) ∧ Below w.heap.size w W
theorem keeps_below {W w1 : World} (hb : Below W.heap.size W w1) : KeepsOthers W w1 := ⟨hb.size, fun k _ hk _ => (hb.block k (Array.getElem?_eq_some_iff.1 hk).1).trans hk⟩
theorem size_set (w : World) (p : Addr) (u : Value) : (w.setCell p u).heap.size = w.heap.size := by
  show (w.heap.modify p.block _).size = _
  rw [Array.size_modify]
theorem left_end {B : Nat} {w W w1 : World} {pre : List Short} {x : Short} {S : Obj} (hb1 : Below W.heap.size W w1) (hall : ∀ y ∈ pre, (tells y.1).isSome = true) (htl : tells x.1 = none) (hR : Boxed W w.heap.size 22 (.slice none 0 0)) (hE : Boxed W (w.heap.size + 1) 29 .nilIface) (hB : Below w.heap.size w W) (hsz : w.heap.size + 7 ≤ W.heap.size) :
    KeepsFrom B W ((((w1.setCell ⟨w.heap.size, 0, none⟩ (.slice none 0 0)).setCell ⟨w.heap.size + 1, 0, none⟩ (.iface 74 (.pointer (some ⟨w1.heap.size + 1, 0, none⟩)))).alloc S).alloc (.cells #[.int .i64 3, .int .i64 pre.length] 75)).drew
      ∧ Left w .ret (pre ++ [x]) ((((w1.setCell ⟨w.heap.size, 0, none⟩ (.slice none 0 0)).setCell ⟨w.heap.size + 1, 0, none⟩ (.iface 74 (.pointer (some ⟨w1.heap.size + 1, 0, none⟩)))).alloc S).alloc (.cells #[.int .i64 3, .int .i64 pre.length] 75)).drew := by
  have hs := hb1.size
  refine ⟨(((((keeps_below hb1).trans (KeepsOthers.setCell _ _ _)).trans (KeepsOthers.setCell _ _ _)).trans (KeepsOthers.alloc _ _)).trans (KeepsOthers.alloc _ _)).trans (KeepsOthers.drew _) |>.from _, rfl, pre, x, w1.heap.size + 1, rfl, hall, htl, ?_, ?_, by omega, ?_, ?_⟩
  · exact ((Boxed.other_box ((boxed_later hR hb1).set _) (by omega) _).alloc _).alloc _
  · exact (((Boxed.other_box (boxed_later hE hb1) (by omega) _).set _).alloc _).alloc _
  · have h := World.alloc_heap_new (((w1.setCell ⟨w.heap.size, 0, none⟩ (.slice none 0 0)).setCell ⟨w.heap.size + 1, 0, none⟩ (.iface 74 (.pointer (some ⟨w1.heap.size + 1, 0, none⟩)))).alloc S) (.cells #[.int .i64 3, .int .i64 pre.length] 75)
    rw [World.size_alloc, size_set, size_set] at h
    exact h
  · exact ((((hB.trans (hb1.mono (by omega))).setCell (Nat.le_refl _) _).setCell (by show w.heap.size ≤ w.heap.size + 1; omega) _).alloc (by rw [size_set, size_set]; omega) _).alloc (by rw [World.size_alloc, size_set, size_set]; omega) _ |>.drew
theorem ownN_slice {w : World} {base n size : Nat} {e : TypeId} {v : Value} {xs : List Value} (h : w.ownsRow base e size v n xs) : ∃ a c, v = .slice a n c := by
  rcases h.2 with ⟨rfl, rfl⟩ | ⟨g, cap, cur, rfl, _⟩
  · exact ⟨_, _, rfl⟩
  · exact ⟨_, _, rfl⟩
theorem told_more (pre : List Short) {x : Short} {st : St} (h : tells x.1 = some st) : toldBy ((pre ++ [x]).map (·.1)) = toldBy (pre.map (·.1)) ++ [st] := by simp [toldBy, h]
theorem told_length (ps : List ByteArray) : (toldBy ps).length = ps.length := by simp [toldBy]
theorem take_fewer {xs : List St} {x : St} (h : xs.length ≤ 200) : (xs ++ [x]).take 201 = xs.take 201 ++ [x] := by
  rw [List.take_of_length_le (by rw [List.length_append]; simp; omega), List.take_of_length_le (by omega)]
theorem take_same {xs : List St} {x : St} (h : ¬ xs.length ≤ 200) : (xs ++ [x]).take 201 = xs.take 201 := List.take_append_of_le_length (by omega)
theorem cells_six {w : World} {b : Nat} {x : St} (hb : b = w.heap.size) : ∀ (j : Nat) u, x.cells.toList[j]? = some u → (w.alloc (.cells x.cells 49)).cell? ((⟨b, 0, none⟩ : Addr).add j) = some u := by
  subst hb
  intro j u hj
  have e : (⟨w.heap.size, 0, none⟩ : Addr).add j = ⟨w.heap.size, j, none⟩ := by unfold Addr.add; split <;> simp_all
  rw [e, World.cell?_alloc_at _ _ _ _ rfl]
  simpa using hj
theorem six_one (x : St) : ∀ u ∈ x.cells.toList, u.oneCell' = true := by
  intro u hu
  simp [St.cells] at hu
  rcases hu with rfl | rfl | rfl | rfl | rfl | rfl <;> rfl
section
variable {w W w1 : World} {pre : List Short} {x : Short} {st : St} {v : Value}
/-- Behind the reading of a step and the count: what stood stands. -/
theorem counted (hb1 : Below W.heap.size W w1) (hg : Going ex w pre W) (S : Obj) :
    Boxed ((w1.setCell ⟨w.heap.size + 3, 0, none⟩ (.int .i64 ((pre.length : Int) + 1))).alloc S) (w.heap.size + 3) 3 (.int .i64 ((pre.length : Int) + 1))
    ∧ Boxed ((w1.setCell ⟨w.heap.size + 3, 0, none⟩ (.int .i64 ((pre.length : Int) + 1))).alloc S) w.heap.size 22 (.slice none 0 0)
    ∧ Boxed ((w1.setCell ⟨w.heap.size + 3, 0, none⟩ (.int .i64 ((pre.length : Int) + 1))).alloc S) (w.heap.size + 1) 29 .nilIface
    ∧ Below w.heap.size W ((w1.setCell ⟨w.heap.size + 3, 0, none⟩ (.int .i64 ((pre.length : Int) + 1))).alloc S)
    ∧ KeepsOthers W ((w1.setCell ⟨w.heap.size + 3, 0, none⟩ (.int .i64 ((pre.length : Int) + 1))).alloc S)
    ∧ (∀ j, j < w.heap.size + 7 → j ≠ w.heap.size + 3 → ((w1.setCell ⟨w.heap.size + 3, 0, none⟩ (.int .i64 ((pre.length : Int) + 1))).alloc S).heap[j]? = W.heap[j]?) := by
  obtain ⟨_, _, hC, hR, hE, hB, hsz, _⟩ := hg
  have hs := hb1.size
  refine ⟨((boxed_later hC hb1).set _).alloc _, (Boxed.other_box (boxed_later hR hb1) (by omega) _).alloc _, (Boxed.other_box (boxed_later hE hb1) (by omega) _).alloc _, ?_, ((keeps_below hb1).trans (KeepsOthers.setCell _ _ _)).trans (KeepsOthers.alloc _ _), fun j hj hne => ?_⟩
  · exact ((hb1.mono (by omega)).setCell (by show w.heap.size ≤ w.heap.size + 3; omega) _).alloc (by rw [size_set]; omega) _
  · exact (Below.heap_alloc _ _ _ (by rw [size_set]; omega)).trans ((Below.heap_setCell _ _ _ _ hne).trans (hb1.block j (by omega)))
theorem all_more (hall : ∀ y ∈ pre, (tells y.1).isSome = true) (htl : tells x.1 = some st) : ∀ y ∈ pre ++ [x], (tells y.1).isSome = true := by
  intro y hy
  rcases List.mem_append.1 hy with h | h
  · exact hall y h
  · rw [List.mem_singleton.1 h, htl]; rfl
theorem going_app {W4 : World} {S : Obj} {v' : Value} {m : Nat} (hgo : Going ex w pre W) (hw : 14 ≤ w.heap.size) (hb1 : Below W.heap.size W w1) (h200 : pre.length ≤ 200) (htl : tells x.1 = some st) (hm : m = pre.length) (hv2 : Boxed W4 (w.heap.size + 2) 22 v')
    (hr2 : W4.ownsRow (w.heap.size + 7) 49 6 v' (m + 1) (cellsOf ((toldBy (pre.map (·.1))).take 201) ++ st.cells.toList)) (hj : ∀ j, j < w.heap.size + 7 → j ≠ w.heap.size + 2 → W4.heap[j]? = ((w1.setCell ⟨w.heap.size + 3, 0, none⟩ (.int .i64 ((pre.length : Int) + 1))).alloc S).heap[j]?) (hb : Below (w.heap.size + 2) ((w1.setCell ⟨w.heap.size + 3, 0, none⟩ (.int .i64 ((pre.length : Int) + 1))).alloc S) W4) :
    Going ex w (pre ++ [x]) W4 ∧ KeepsSet w.heap.size [w.heap.size + 5, w.heap.size + 4, w.heap.size + 6] W W4 := by
  obtain ⟨bC, bR, bE, hB2, _, hk2⟩ := counted hb1 hgo S
  obtain ⟨_, hall, _, _, _, hB, hsz, hT⟩ := hgo
  have hBW : Below w.heap.size W W4 := hB2.trans (hb.mono (by omega))
  have hlen : (toldBy (pre.map (·.1))).length ≤ 200 := by rw [told_length, List.length_map]; exact h200
  refine ⟨⟨⟨v', hv2, ?_⟩, all_more hall htl, ?_, (hj _ (by omega) (by omega)).trans bR, (hj _ (by omega) (by omega)).trans bE, hB.trans hBW, Nat.le_trans hsz hBW.size, hT.on hBW hw⟩, hBW, fun b hb' => ?_⟩
  · rw [told_more pre htl, take_fewer hlen, cellsOf_append, List.length_append, show min (pre.length + [x].length) 201 = m + 1 by simp; omega]
    exact hr2
  · rw [List.length_append]
    exact ((hj _ (by omega) (by omega)).trans bC)
  · have : b = w.heap.size + 5 ∨ b = w.heap.size + 4 ∨ b = w.heap.size + 6 := by simpa using hb'
    exact (hj b (by omega) (by omega)).trans (hk2 b (by omega) (by omega))
theorem going_skip {S : Obj} (hgo : Going ex w pre W) (hw : 14 ≤ w.heap.size) (hb1 : Below W.heap.size W w1) (h200 : ¬ pre.length ≤ 200) (htl : tells x.1 = some st) :
    Going ex w (pre ++ [x]) ((w1.setCell ⟨w.heap.size + 3, 0, none⟩ (.int .i64 ((pre.length : Int) + 1))).alloc S) ∧ KeepsSet w.heap.size [w.heap.size + 5, w.heap.size + 4, w.heap.size + 6] W ((w1.setCell ⟨w.heap.size + 3, 0, none⟩ (.int .i64 ((pre.length : Int) + 1))).alloc S) := by
  obtain ⟨bC, bR, bE, hB2, _, hk2⟩ := counted hb1 hgo S
  obtain ⟨⟨v, hv, hrow⟩, hall, _, _, _, hB, hsz, hT⟩ := hgo
  have hlen : ¬ (toldBy (pre.map (·.1))).length ≤ 200 := by rw [told_length, List.length_map]; exact h200
  refine ⟨⟨⟨v, (hk2 _ (by omega) (by omega)).trans hv, ?_⟩, all_more hall htl, ?_, bR, bE, hB.trans hB2, Nat.le_trans hsz hB2.size, hT.on hB2 hw⟩, hB2, fun b hb' => ?_⟩
  · rw [told_more pre htl, take_same hlen, List.length_append, show min (pre.length + [x].length) 201 = min pre.length 201 by simp; omega]
    exact (ownsRow_setCell_below (ownN_later hrow hb1) (a := ⟨w.heap.size + 3, 0, none⟩) (by show w.heap.size + 3 < w.heap.size + 7; omega) _).alloc S
  · rw [List.length_append]; exact bC
  · have : b = w.heap.size + 5 ∨ b = w.heap.size + 4 ∨ b = w.heap.size + 6 := by simpa using hb'
    exact hk2 b (by omega) (by omega)
end
theorem going_stab (ex : Ext) (w : World) (hw : 14 ≤ w.heap.size) : Stab (w.heap.size + 7) (w.heap.size + 4) (Going ex w) := by
  rintro pre W W' row ⟨⟨v, hv, hrow⟩, hall, hC, hR, hE, hB, hsz, hT⟩ hg hr
  have hB' := stab_below hg hr hB (by omega) (by omega)
  refine ⟨⟨v, stab_cells hg hr hv (by omega), stab_own hg hr hrow (by omega)⟩, hall, stab_cells hg hr hC (by omega), stab_cells hg hr hR (by omega), stab_cells hg hr hE (by omega), hB', Nat.le_trans hsz hg.size, ?_⟩
  refine hT.on (B := w.heap.size) ⟨hg.os, hg.tape, hg.output, hg.size, fun k hk => hg.block k (by omega) fun e => ?_⟩ hw
  rcases hr k e.symm with ⟨hb, _⟩ | hb
  · omega
  · omega
theorem left_stab (w : World) (c : Code) : Stab (w.heap.size + 7) (w.heap.size + 4) (Left w c) := by
  rintro pre W W' row ⟨hc, pre0, x, p, hpre, hall, hx, hR, hE, hp7, hp, hB⟩ hg hr
  exact ⟨hc, pre0, x, p, hpre, hall, hx, stab_cells hg hr hR (by omega), stab_cells hg hr hE (by omega), hp7, stab_cells hg hr hp (by omega), stab_below hg hr hB (by omega) (by omega)⟩
/-! ### The ends -/
theorem pieces_some : ∀ (f : Nat) (t : ByteArray), 0 < (piecesFrom f t).length
  | 0, t => by simp [piecesFrom]
  | f + 1, t => by
    by_cases h : 0 ≤ semi t
    · rw [pieces_cut h]; simp
    · rw [pieces_end h]; simp
/-- Step j of a list. -/
def nth (xs : List St) (j : Nat) : St := xs[j]?.getD St.zero
theorem nth_cons (x : St) (xs : List St) (j : Nat) : nth (x :: xs) (j + 1) = nth xs j := by simp [nth]
theorem cells_length (x : St) : x.cells.toList.length = 6 := rfl
theorem cells_at : ∀ (xs : List St) (i k : Nat), i < xs.length → k < 6 → (cellsOf xs)[i * 6 + k]? = (nth xs i).cells.toList[k]?
  | [], i, k, h, _ => by simp at h
  | x :: xs, 0, k, _, hk => by
    show (cellsOf (x :: xs))[0 * 6 + k]? = _
    rw [Nat.zero_mul, Nat.zero_add, show cellsOf (x :: xs) = x.cells.toList ++ cellsOf xs by simp [cellsOf], List.getElem?_append_left (by rw [cells_length]; exact hk)]
    rfl
  | x :: xs, i + 1, k, h, hk => by
    rw [show cellsOf (x :: xs) = x.cells.toList ++ cellsOf xs by simp [cellsOf], List.getElem?_append_right (by rw [cells_length]; omega), cells_length, show (i + 1) * 6 + k - 6 = i * 6 + k by omega, cells_at xs i k (by simpa using h) hk, nth_cons]
theorem row_cell {W : World} {base g n cap : Nat} {xs : List St} (h : W.ownsRow base 49 6 (.slice (some ⟨g, 0, none⟩) n cap) n (cellsOf xs)) (hl : xs.length = n) {i k : Nat} (hi : i < n) (hk : k < 6) : W.cell? ⟨g, 0 + i * 6 + k, none⟩ = (nth xs i).cells.toList[k]? := by
  rcases h.2 with ⟨hc, _⟩ | ⟨g', cap', cur, hc, _, hg, _, _, _, ht⟩
  · cases hc
  · cases hc
    rw [← cells_at xs i k (by omega) hk, ← ht, List.getElem?_take_of_lt (by omega)]
    simp [World.cell?, hg]
theorem row_steps {W : World} {base g n cap : Nat} {xs : List St} (h : W.ownsRow base 49 6 (.slice (some ⟨g, 0, none⟩) n cap) n (cellsOf xs)) (hl : xs.length = n) :
    StepsAt W g 0 n (fun j => (nth xs j).c) (fun j => (nth xs j).d) (fun j => (nth xs j).s) (fun j => (nth xs j).r) (fun j => (nth xs j).o) (fun j => (nth xs j).n) := fun i hi =>
  ⟨row_cell h hl hi (k := 0) (by omega), row_cell h hl hi (k := 1) (by omega), row_cell h hl hi (k := 2) (by omega), row_cell h hl hi (k := 3) (by omega), row_cell h hl hi (k := 4) (by omega), row_cell h hl hi (k := 5) (by omega)⟩
theorem row_lt {W : World} {base g n cap size : Nat} {e : TypeId} {xs : List Value} (h : W.ownsRow base e size (.slice (some ⟨g, 0, none⟩) n cap) n xs) : g < W.heap.size := by
  rcases h.2 with ⟨hc, _⟩ | ⟨g', cap', cur, hc, _, hg, _⟩
  · cases hc
  · cases hc
    exact (Array.getElem?_eq_some_iff.1 hg).1
/-- What is wrong with step j of a list. -/
def faultOf (xs : List St) (j : Nat) : Int := faultAt xs.length (fun j => (nth xs j).c) (fun j => (nth xs j).d) (fun j => (nth xs j).s) (fun j => (nth xs j).r) (fun j => (nth xs j).o) (fun j => (nth xs j).n) j
theorem check_fine {W : World} {base g n cap : Nat} {xs : List St} (hrow : W.ownsRow base 49 6 (.slice (some ⟨g, 0, none⟩) n cap) n (cellsOf xs)) (hl : xs.length = n) (h1 : 0 < n) (h2 : n ≤ 200) (hno : ∀ j, j < n → faultOf xs j = 0) :
    Calls Tryz.prog 18 #[.slice (some ⟨g, 0, none⟩) n cap] W fun e w1 => e = .returned .nilIface ∧ Below W.heap.size W w1 := by
  subst hl
  exact opCheck_fine hno (row_steps hrow rfl) h1 h2 (row_lt hrow)
theorem check_bad {W : World} {base g n cap i : Nat} {xs : List St} (hrow : W.ownsRow base 49 6 (.slice (some ⟨g, 0, none⟩) n cap) n (cellsOf xs)) (hl : xs.length = n) (h1 : 0 < n) (h2 : n ≤ 200) (hi : i < n) (hno : ∀ j, j < i → faultOf xs j = 0) (hf : faultOf xs i ≠ 0) :
    Calls Tryz.prog 18 #[.slice (some ⟨g, 0, none⟩) n cap] W fun e w1 => ∃ p, e = .returned (.iface 74 (.pointer (some ⟨p, 0, none⟩))) ∧ Below W.heap.size W w1 ∧ p < w1.heap.size ∧ w1.cell? ⟨p, 0, none⟩ = some (.int .i64 (faultOf xs i)) ∧ w1.cell? ⟨p, 1, none⟩ = some (.int .i64 i) := by
  subst hl
  exact opCheck_bad hi hno hf (row_steps hrow rfl) h1 h2 (row_lt hrow)
/-- What asm.Read returns: a piece tells none; too many; a step is no good; or the steps. -/
def ReadEnds (w : World) (s : ByteArray) (e : Ending) (W : World) : Prop :=
  Below w.heap.size w W ∧
  ((∃ pre x post p, piecesOf s = pre ++ x :: post ∧ (∀ y ∈ pre, (tells y).isSome = true) ∧ tells x = none ∧ e = .returned (.tuple #[.slice none 0 0, .iface 74 (.pointer (some ⟨p, 0, none⟩))]) ∧ p < W.heap.size ∧ W.cell? ⟨p, 0, none⟩ = some (.int .i64 3) ∧ W.cell? ⟨p, 1, none⟩ = some (.int .i64 pre.length))
  ∨ ((∀ y ∈ piecesOf s, (tells y).isSome = true) ∧
    ((200 < (piecesOf s).length ∧ e = .returned (.tuple #[.slice none 0 0, .iface 23 (.int .i64 4)]))
    ∨ ((piecesOf s).length ≤ 200 ∧
      ((∃ i p, i < (piecesOf s).length ∧ (∀ j, j < i → faultOf (toldBy (piecesOf s)) j = 0) ∧ faultOf (toldBy (piecesOf s)) i ≠ 0 ∧ e = .returned (.tuple #[.slice none 0 0, .iface 74 (.pointer (some ⟨p, 0, none⟩))]) ∧ p < W.heap.size ∧ W.cell? ⟨p, 0, none⟩ = some (.int .i64 (faultOf (toldBy (piecesOf s)) i)) ∧ W.cell? ⟨p, 1, none⟩ = some (.int .i64 i))
      ∨ ((∀ j, j < (piecesOf s).length → faultOf (toldBy (piecesOf s)) j = 0) ∧ ∃ g cap, e = .returned (.tuple #[.slice (some ⟨g, 0, none⟩) (piecesOf s).length cap, .nilIface]) ∧ W.ownsRow w.heap.size 49 6 (.slice (some ⟨g, 0, none⟩) (piecesOf s).length cap) (piecesOf s).length (cellsOf (toldBy (piecesOf s)))))))))
section
variable {w1 : World} {B D : Nat} {v1 v2 u1 u2 : Value}
theorem box_apart {t : TypeId} {u : Value} (h : Boxed w1 B t u) (hK : w1.heap[D]? = some (.deferred (some []))) : D ≠ B := by
  rintro rfl
  have h' : w1.heap[D]? = _ := h
  rw [hK] at h'; cases h'
theorem out_deferred (hR : Boxed w1 B 22 u1) (hE : Boxed w1 (B + 1) 29 u2) (hK : w1.heap[D]? = some (.deferred (some []))) : ((w1.setCell ⟨B, 0, none⟩ v1).setCell ⟨B + 1, 0, none⟩ v2).heap[D]? = some (.deferred (some [])) :=
  (Below.heap_setCell _ _ _ _ (box_apart hE hK)).trans ((Below.heap_setCell _ _ _ _ (box_apart hR hK)).trans hK)
theorem put_apart {W : World} {k : Nat} {o : Obj} (h : k ≠ D) : (W.putObj D o).heap[k]? = W.heap[k]? := World.putObj_heap_other h
theorem out_first (hR : Boxed w1 B 22 u1) (hK : w1.heap[D]? = some (.deferred (some []))) : Boxed (((w1.setCell ⟨B, 0, none⟩ v1).setCell ⟨B + 1, 0, none⟩ v2).putObj D (.deferred none)) B 22 v1 :=
  (put_apart (box_apart hR hK).symm).trans (Boxed.other_box (hR.set v1) (by omega) _)
theorem out_second (hE : Boxed w1 (B + 1) 29 u2) (hK : w1.heap[D]? = some (.deferred (some []))) : Boxed (((w1.setCell ⟨B, 0, none⟩ v1).setCell ⟨B + 1, 0, none⟩ v2).putObj D (.deferred none)) (B + 1) 29 v2 :=
  (put_apart (box_apart hE hK).symm).trans ((Boxed.other_box hE (by omega) _).set v2)
theorem out_other {k : Nat} (h1 : k ≠ B) (h2 : k ≠ B + 1) (h3 : k ≠ D) : (((w1.setCell ⟨B, 0, none⟩ v1).setCell ⟨B + 1, 0, none⟩ v2).putObj D (.deferred none)).heap[k]? = w1.heap[k]? :=
  (put_apart h3).trans ((Below.heap_setCell _ _ _ _ h2).trans (Below.heap_setCell _ _ _ _ h1))
theorem out_below {w : World} (hB : Below w.heap.size w w1) (hR : Boxed w1 w.heap.size 22 u1) (hE : Boxed w1 (w.heap.size + 1) 29 u2) (hD : w.heap.size ≤ D) (hK : w1.heap[D]? = some (.deferred (some []))) : Below w.heap.size w (((w1.setCell ⟨w.heap.size, 0, none⟩ v1).setCell ⟨w.heap.size + 1, 0, none⟩ v2).putObj D (.deferred none)) :=
  ((hB.setCell (Nat.le_refl _) _).setCell (by show w.heap.size ≤ w.heap.size + 1; omega) _).trans (belowK_b (w := w) (Nat.le_refl _) _ D _ _ hD (out_deferred hR hE hK) rfl rfl)
theorem cell_heap {W W' : World} {k i : Nat} (h : W'.heap[k]? = W.heap[k]?) : W'.cell? ⟨k, i, none⟩ = W.cell? ⟨k, i, none⟩ := by simp [World.cell?, h]
/-- The block of a fault is none of the three. -/
theorem out_fault {p : Nat} {x : Int} (hR : Boxed w1 B 22 (.slice none 0 0)) (hE : Boxed w1 (B + 1) 29 .nilIface) (hK : w1.heap[D]? = some (.deferred (some []))) (hc : w1.cell? ⟨p, 0, none⟩ = some (.int .i64 x)) : (((w1.setCell ⟨B, 0, none⟩ v1).setCell ⟨B + 1, 0, none⟩ v2).putObj D (.deferred none)).heap[p]? = w1.heap[p]? := by
  refine out_other ?_ ?_ ?_
  · rintro rfl; rw [hR.cell] at hc; cases hc
  · rintro rfl; rw [hE.cell] at hc; cases hc
  · rintro rfl; simp [World.cell?, hK] at hc
theorem size_put (w : World) (D : Nat) (o : Obj) : (w.putObj D o).heap.size = w.heap.size := by simp [World.putObj]
theorem read_results {tmps : Array Value} {W : World} {t1 t2 : TypeId} (h2 : tmps[2]?.getD undef = .pointer (some ⟨B, 0, none⟩)) (h3 : tmps[3]?.getD undef = .pointer (some ⟨B + 1, 0, none⟩)) (b1 : Boxed W B t1 v1) (b2 : Boxed W (B + 1) t2 v2) : (results Tryz.f9 tmps).run Tryz.prog W = .ok (.tuple #[v1, v2]) W := by
  have c1 := b1.cell
  have c2 := b2.cell
  simp [results, Tryz.results9, go_sem, h2, h3, c1, c2]
end
section
set_option maxRecDepth 100000 in
set_option maxHeartbeats 4000000 in
theorem read_any (he : ∀ w, ex.holds w → ErrTabs w) (hu : ∀ w, ex.holds w → Lib.Utf8Tabs 7 8 w) (s : ByteArray) (hs : s.size ≤ 100000) (w : World) (hT : Tabs ex w) :
    Calls Tryz.prog 9 #[.string s] w fun e W' => ReadEnds w s e W' := by
  refine (callsIn_wide (n := 8)).1 ?_
  have hF := Fine.start hT
  have hf1 : Fence.wide.fn 27 := trivial
  obtain ⟨i0, hi, hz0, hz1, hz2⟩ := info_parts Tryz.infoStep
  refine callsIn_of_wp_marks Tryz.func9 rfl trivial ?_ rfl
  simp only [Tryz.ntmps9, List.size_toArray, List.length_cons, List.length_nil, Nat.reduceAdd, Nat.reduceSub, Array.replicate_succ, Array.replicate_zero, List.push_toArray, List.append_toArray, List.nil_append, List.cons_append]
  gi_wp2_with (gi_at_call 27; refine (callsIn_wide.2 (splitSeq_any _ _)).mono ?_; rintro e w' ⟨rfl, rfl⟩)
  obtain ⟨W0, hW0⟩ : ∃ W0, (((((((w.alloc (.cells #[.slice none 0 0] 22)).alloc (.cells #[.nilIface] 29)).alloc (.cells #[.slice none 0 0] 22)).alloc (.cells #[.int .i64 0] 3)).alloc (.cells #[.string s] 9)).alloc (.cells #[.string ⟨#[59]⟩] 9)).alloc (.cells #[.int .i64 0] 3)) = W0 := ⟨_, rfl⟩
  have hz7 : W0.heap.size = w.heap.size + 7 := by rw [← hW0]; simp
  have hF7 : Fine ex w W0 := by rw [← hW0]; exact ((((((hF.alloc _).alloc _).alloc _).alloc _).alloc _).alloc _).alloc _
  have b0 : Boxed W0 w.heap.size 22 (.slice none 0 0) := by rw [← hW0]; exact (((((Boxed.new w _ _).alloc _).alloc _).alloc _).alloc _).alloc _ |>.alloc _
  have b1 : Boxed W0 (w.heap.size + 1) 29 .nilIface := by
    rw [← hW0]
    have h := Boxed.new (w.alloc (.cells #[.slice none 0 0] 22)) 29 .nilIface
    simp only [World.size_alloc] at h
    exact ((((h.alloc _).alloc _).alloc _).alloc _).alloc _
  have b2 : Boxed W0 (w.heap.size + 2) 22 (.slice none 0 0) := by
    rw [← hW0]
    have h := Boxed.new ((w.alloc (.cells #[.slice none 0 0] 22)).alloc (.cells #[.nilIface] 29)) 22 (.slice none 0 0)
    simp only [World.size_alloc] at h
    exact (((h.alloc _).alloc _).alloc _).alloc _
  have b3 : Boxed W0 (w.heap.size + 3) 3 (.int .i64 0) := by
    rw [← hW0]
    have h := Boxed.new (((w.alloc (.cells #[.slice none 0 0] 22)).alloc (.cells #[.nilIface] 29)).alloc (.cells #[.slice none 0 0] 22)) 3 (.int .i64 0)
    simp only [World.size_alloc] at h
    exact ((h.alloc _).alloc _).alloc _
  have b4 : Boxed W0 (w.heap.size + 4) 9 (.string s) := by
    rw [← hW0]
    have h := Boxed.new ((((w.alloc (.cells #[.slice none 0 0] 22)).alloc (.cells #[.nilIface] 29)).alloc (.cells #[.slice none 0 0] 22)).alloc (.cells #[.int .i64 0] 3)) 9 (.string s)
    simp only [World.size_alloc] at h
    exact (h.alloc _).alloc _
  have b5 : Boxed W0 (w.heap.size + 5) 9 (.string ⟨#[59]⟩) := by
    rw [← hW0]
    have h := Boxed.new (((((w.alloc (.cells #[.slice none 0 0] 22)).alloc (.cells #[.nilIface] 29)).alloc (.cells #[.slice none 0 0] 22)).alloc (.cells #[.int .i64 0] 3)).alloc (.cells #[.string s] 9)) 9 (.string ⟨#[59]⟩)
    simp only [World.size_alloc] at h
    exact h.alloc _
  have b6 : Boxed W0 (w.heap.size + 6) 3 (.int .i64 0) := by
    rw [← hW0]
    have h := Boxed.new ((((((w.alloc (.cells #[.slice none 0 0] 22)).alloc (.cells #[.nilIface] 29)).alloc (.cells #[.slice none 0 0] 22)).alloc (.cells #[.int .i64 0] 3)).alloc (.cells #[.string s] 9)).alloc (.cells #[.string ⟨#[59]⟩] 9)) 3 (.int .i64 0)
    simp only [World.size_alloc] at h
    exact h
  rw [hW0]
  clear hW0
  simp only [Nat.add_assoc, Nat.reduceAdd]
  have hroom := hT.room
  have hseq : SeqCell (8 - 1) Tryz.prog 85 #[.pointer (some ⟨w.heap.size + 5, 0, none⟩), .pointer (some ⟨w.heap.size + 4, 0, none⟩), .pointer (some ⟨w.heap.size + 6, 0, none⟩)] (fun x : Short => #[Value.string x.1]) (KeepsSet w.heap.size [w.heap.size + 5, w.heap.size + 4, w.heap.size + 6])
      (fun ys => ys.map (·.1) = piecesOf s) (fun pre => pre.map (·.1) <+: piecesOf s) (piecesOf s).length (w.heap.size + 4) W0 := fun l J Jx W hW hJ _ hY h0 =>
    split1_in (8 - 1) (by omega) l (w.heap.size + 5) (w.heap.size + 4) (w.heap.size + 6) w.heap.size (by omega) (by omega) s hs J Jx W hJ hY ((hW.block _ (by omega)).trans b5) ((hW.block _ (by omega)).trans b4) ((hW.block _ (by omega)).trans b6) h0
  refine range_cell (by omega) rfl (enters_of Tryz.func85 (by kernel_rfl) rfl) hseq (by omega) KeepsSet.trans (KeepsSet.put (by omega) (by simp; omega)) (fun _ => rfl) (Going ex w) (Left w)
    (by rw [hz7]; exact (going_stab ex w hroom).own) (going_stab ex w hroom).abide (fun c => by rw [hz7]; exact (left_stab w c).own) (fun c => (left_stab w c).abide)
    ⟨⟨_, b2, World.ownsRow_nil _ _ _ _⟩, (fun x hx => by cases hx), b3, b0, b1, hF7.bel, by omega, hF7.tabs⟩
    (fun x => { tmps := #[.string s, undef, .pointer (some ⟨w.heap.size, 0, none⟩), .pointer (some ⟨w.heap.size + 1, 0, none⟩), .pointer (some ⟨w.heap.size + 2, 0, none⟩), .pointer (some ⟨w.heap.size + 3, 0, none⟩), .string x.1, undef, undef, undef, .string s,
      .func (.func 85) #[] #[.pointer (some ⟨w.heap.size + 5, 0, none⟩), .pointer (some ⟨w.heap.size + 4, 0, none⟩), .pointer (some ⟨w.heap.size + 6, 0, none⟩)], .string x.1, undef, undef, undef, undef, undef, undef, undef, undef, undef, undef, undef, undef, undef, undef, undef, undef, undef, undef, undef, undef, undef, undef, undef, undef, undef, undef], defers := [] }) ?assign ?body ?done ?stop
  case assign =>
    intro l x W K hK
    gi_wp2
    exact hK
  case body =>
    rintro l pre x W ⟨⟨v, hv, hrow⟩, hall, hC, hR, hE, hB, hsz, hTW⟩ hlt
    have hpl := pieces_length s.size s
    have hlt' : pre.length ≤ 100001 := by
      have h : pre.length < (piecesFrom s.size s).length := hlt
      omega
    have hfr : Fence.wide.fn 28 := trivial
    have cV := hv.cell
    have mixed : Tryz.prog.follows Departure.mixedOrders = true := by kernel_rfl
    cases htl : tells x.1 with
    | none =>
      have HS : Hid (stepV (stepOf ((fieldsOf x.1).take 5)) = .tuple #[.agg St.zero.cells, .bool false]) := by
        show stepV (tells x.1) = _
        rw [htl]; rfl
      gi_wp2_with (gi_at_call 28; refine (CallsIn.inRound l (callsIn_wide.2 (read1_any he hu x.1 x.2 _ hTW))).mono ?_; rintro e w1 ⟨rfl, hb1⟩; rw [HS.out]; simp only [St.cells, St.zero]; have hC1 := boxed_later hC hb1; have hR1 := boxed_later hR hb1; have hE1 := boxed_later hE hb1; have cC := hC1.cell; have cR := hR1.cell; have fR := hR1.frozen; have cE := hE1.cell; have fE := hE1.frozen; have l1 := hC1.lt; have l2 := hR1.lt; have l3 := hE1.lt)
      gi_region_o
      all_goals gi_wp2
      all_goals (try go_bits)
      all_goals exact left_end hb1 hall htl hR hE hB hsz
    | some st =>
      have HS : Hid (stepV (stepOf ((fieldsOf x.1).take 5)) = .tuple #[.agg st.cells, .bool true]) := by
        show stepV (tells x.1) = _
        rw [htl]; rfl
      have hgo : Going ex w pre W := ⟨⟨v, hv, hrow⟩, hall, hC, hR, hE, hB, hsz, hTW⟩
      obtain ⟨ao, cp, rfl⟩ := ownN_slice hrow
      by_cases h200 : pre.length ≤ 200
      · obtain ⟨m, hm⟩ : ∃ m, m = min pre.length 201 := ⟨_, rfl⟩
        have hm' : m = pre.length := by omega
        rw [← hm] at hrow hv cV
        have x1 : decide ((m : Int) ≤ 200) = true := by simp; omega
        have hm2 : m ≤ 200 := by omega
        have HM : Hid (m = pre.length) := hm'
        clear hm hm'
        gi_wp2_with (first
          | (gi_at_call 28; refine (CallsIn.inRound l (callsIn_wide.2 (read1_any he hu x.1 x.2 _ hTW))).mono ?_; rintro e w1 ⟨rfl, hb1⟩; rw [HS.out]; simp only [St.cells]; have hC1 := boxed_later hC hb1; have hV1 := boxed_later hv hb1; have cC := hC1.cell; have fC := hC1.frozen; have cV1 := hV1.cell; have l1 := hC1.lt; have l2 := hV1.lt; have hV2 := (Boxed.other_box hV1 (c := w.heap.size + 3) (by omega) (.int .i64 ((pre.length : Int) + 1))).alloc (.cells st.cells 49); have hrow2 := (ownsRow_setCell_below (ownN_later hrow hb1) (a := ⟨w.heap.size + 3, 0, none⟩) (by show w.heap.size + 3 < w.heap.size + 7; omega) (.int .i64 ((pre.length : Int) + 1))).alloc (.cells st.cells 49))
          | (gi_at_builtin; refine wpListIn_append_own _ rfl _ _ 22 rfl (w.heap.size + 7) 49 i0 (.agg St.zero.cells) 6 48 Tryz.underlying22 hi hz0 hz1 hz2 rfl (by decide) _ _ _ rfl (hrow2.alloc _) ⟨w1.heap.size + 1, 0, none⟩ 1 1 st.cells.toList rfl rfl (cells_six (by simp)) (six_one st) (by unfold maxLen; omega) (by omega) (by have := hb1.size; simp; omega) ?_; intro v' w3 hown' hgrow _; obtain ⟨g', cap', rfl⟩ := ownN_shape hown' (by omega); obtain ⟨hv1, hv2, hr2, hk2, hb2, hj2⟩ := collectedN hV2 (by omega) (by have := hb1.size; rw [World.size_alloc, size_set]; omega) hrow2 hown' hgrow; have hc1 := hv1.cell; have hf1 := hv1.frozen)
          | gi_in)
        obtain ⟨G, K⟩ := going_app hgo hroom hb1 h200 htl HM.out hv2 hr2 hj2 hb2
        exact ⟨((counted hb1 hgo _).2.2.2.2.1.trans hk2).from _, K, G⟩
      · obtain ⟨m, hm⟩ : ∃ m, m = min pre.length 201 := ⟨_, rfl⟩
        rw [← hm] at hv cV
        have x1 : decide ((m : Int) ≤ 200) = false := by simp; omega
        clear hm
        gi_wp2_with (gi_at_call 28; refine (CallsIn.inRound l (callsIn_wide.2 (read1_any he hu x.1 x.2 _ hTW))).mono ?_; rintro e w1 ⟨rfl, hb1⟩; rw [HS.out]; simp only [St.cells]; have hC1 := boxed_later hC hb1; have hV1 := boxed_later hv hb1; have cC := hC1.cell; have fC := hC1.frozen; have cV1 := hV1.cell; have l1 := hC1.lt; have l2 := hV1.lt)
        obtain ⟨G, K⟩ := going_skip (S := .cells st.cells 49) hgo hroom hb1 h200 htl
        exact ⟨(counted hb1 hgo _).2.2.2.2.1.from _, K, G⟩
  case done =>
    rintro D ys W hD hS ⟨⟨v, hv, hrow⟩, hall, hC, hR, hE, hB, hsz, hTW⟩ hK
    have hf6 : Fence.wide.fn 18 := trivial
    have cV := hv.cell
    have cR := hR.cell
    have fR := hR.frozen
    have cE := hE.cell
    have fE := hE.frozen
    have hall' : ∀ y ∈ piecesOf s, (tells y).isSome = true := by
      rw [← hS]
      intro y hy
      obtain ⟨x, hx, rfl⟩ := List.mem_map.1 hy
      exact hall x hx
    have hlen : (piecesOf s).length = ys.length := by rw [← hS, List.length_map]
    by_cases h200 : ys.length ≤ 200
    · have hpos : 0 < ys.length := by rw [← hlen]; exact pieces_some _ _
      rw [hS, Nat.min_eq_left (by omega), List.take_of_length_le (by rw [told_length]; omega), ← hlen] at hrow
      have hl := told_length (piecesOf s)
      obtain ⟨n, hn⟩ : ∃ n, n = (piecesOf s).length := ⟨_, rfl⟩
      obtain ⟨xs, hxs⟩ : ∃ xs, xs = toldBy (piecesOf s) := ⟨_, rfl⟩
      rw [← hn, ← hxs] at hrow hl
      obtain ⟨g, cp, rfl⟩ := ownN_shape hrow (by omega)
      have hn1 : 0 < n := by omega
      have hn2 : n ≤ 200 := by omega
      have HN : Hid (n = (piecesOf s).length) := hn
      have HX : Hid (xs = toldBy (piecesOf s)) := hxs
      clear hn hxs hS hlen
      rcases first_fault (faultOf xs) n with hno | ⟨i, hi, hno, hf⟩
      · gi_wp2_with (gi_at_call 18; refine (callsIn_wide.2 (check_fine hrow hl hn1 hn2 hno)).mono ?_; rintro e w1 ⟨rfl, hb1⟩; have hR1 := boxed_later hR hb1; have hE1 := boxed_later hE hb1; have hV1 := boxed_later hv hb1; have cR1 := hR1.cell; have fR1 := hR1.frozen; have cE1 := hE1.cell; have fE1 := hE1.frozen; have cV1 := hV1.cell)
        have hK1 := (hb1.block D (Array.getElem?_eq_some_iff.1 hK).1).trans hK
        refine ⟨by simp, .inl ⟨_, _, rfl, run_takeDeferred (out_deferred hR1 hE1 hK1), ?_⟩⟩
        refine ⟨_, read_results rfl rfl (out_first hR1 hK1) (out_second hE1 hK1), out_below (hB.trans (hb1.mono (by omega))) hR1 hE1 (by omega) hK1, .inr ⟨hall', .inr ⟨by rw [← HN.out]; exact hn2, .inr ?_⟩⟩⟩
        rw [← HN.out, ← HX.out]
        exact ⟨hno, g, cp, rfl, ownN_lower (ownsRow_putObj (ownsRow_setCell_below (ownsRow_setCell_below (ownN_later hrow hb1) (a := ⟨w.heap.size, 0, none⟩) (by show w.heap.size < w.heap.size + 7; omega) _) (a := ⟨w.heap.size + 1, 0, none⟩) (by show w.heap.size + 1 < w.heap.size + 7; omega) _) _ (out_deferred hR1 hE1 hK1) rfl) (by omega)⟩
      · gi_wp2_with (gi_at_call 18; refine (callsIn_wide.2 (check_bad hrow hl hn1 hn2 hi hno hf)).mono ?_; rintro e w1 ⟨p, rfl, hb1, hp, hc0, hc1⟩; have hR1 := boxed_later hR hb1; have hE1 := boxed_later hE hb1; have cR1 := hR1.cell; have fR1 := hR1.frozen; have cE1 := hE1.cell; have fE1 := hE1.frozen)
        have hK1 := (hb1.block D (Array.getElem?_eq_some_iff.1 hK).1).trans hK
        refine ⟨by simp, .inl ⟨_, _, rfl, run_takeDeferred (out_deferred hR1 hE1 hK1), ?_⟩⟩
        have hpk := out_fault (v1 := .slice none 0 0) (v2 := .iface 74 (.pointer (some ⟨p, 0, none⟩))) hR1 hE1 hK1 hc0
        refine ⟨_, read_results rfl rfl (out_first hR1 hK1) (out_second hE1 hK1), out_below (hB.trans (hb1.mono (by omega))) hR1 hE1 (by omega) hK1, .inr ⟨hall', .inr ⟨by rw [← HN.out]; exact hn2, .inl ?_⟩⟩⟩
        rw [← HN.out, ← HX.out]
        exact ⟨i, p, hi, hno, hf, rfl, by rw [size_put, size_set, size_set]; exact hp, (cell_heap hpk).trans hc0, (cell_heap hpk).trans hc1⟩
    · obtain ⟨ao, cp, rfl⟩ := ownN_slice hrow
      obtain ⟨m, hm⟩ : ∃ m, m = min ys.length 201 := ⟨_, rfl⟩
      rw [← hm] at hv cV
      have hm2 : m < 1 ∨ 200 < m := by omega
      clear hm
      gi_wp2_with (gi_at_call 18; refine (callsIn_wide.2 (opCheck_limit _ _ _ hm2 _)).mono ?_; rintro e w1 ⟨rfl, rfl⟩)
      refine ⟨by simp, .inl ⟨_, _, rfl, run_takeDeferred (out_deferred hR hE hK), ?_⟩⟩
      exact ⟨_, read_results rfl rfl (out_first hR hK) (out_second hE hK), out_below hB hR hE (by omega) hK, .inr ⟨hall', .inl ⟨by omega, rfl⟩⟩⟩
  case stop =>
    rintro D c pre W hD ⟨post, hSp⟩ ⟨rfl, pre0, x, p, rfl, hall, hx, hR, hE, hp7, hp, hB⟩ hK
    gi_wp2
    refine ⟨by simp, .inl ⟨_, _, rfl, run_takeDeferred hK, ?_⟩⟩
    have hpD : p ≠ D := by
      rintro rfl
      rw [hK] at hp; cases hp
    have hpp : (W.putObj D (.deferred none)).heap[p]? = _ := (put_apart hpD).trans hp
    refine ⟨_, read_results rfl rfl ((put_apart (box_apart hR hK).symm).trans hR) ((put_apart (box_apart hE hK).symm).trans hE), hB.trans (belowK_b (w := w) (Nat.le_refl _) W D _ _ (by omega) hK rfl rfl), .inl ⟨pre0.map (·.1), x.1, post, p, ?_, ?_, hx, rfl, (Array.getElem?_eq_some_iff.1 hpp).1, ?_, ?_⟩⟩
    · rw [← hSp]; simp
    · intro y hy
      obtain ⟨z, hz, rfl⟩ := List.mem_map.1 hy
      exact hall z hz
    · simp [World.cell?, hpp]
    · simp [World.cell?, hpp]
end
end Go.Proofs.YtegeiicginpdbaaGreatDoor
