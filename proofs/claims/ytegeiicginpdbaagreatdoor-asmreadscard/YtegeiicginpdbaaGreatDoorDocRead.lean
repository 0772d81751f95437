/-
  What the document's Read returns: the steps that a text tells, or which piece tells none, or what is wrong with them; the world below is as it was. Conditions: the tables lie in memory, the library's two errors are errors, the text is short.
-/
import Derived.Test.YtegeiicginpdbaaGreatDoorDocReads
import Derived.Test.YtegeiicginpdbaaGreatDoorCutter
import Derived.Test.YtegeiicginpdbaaGreatDoorChecks
namespace Go.Proofs.YtegeiicginpdbaaGreatDoor
open Go.ChangeShapes Go.WideShapes Go.ChangeAt Go.RowKit
variable {ex : Ext}
/-! ### The two cuts -/
def blanksOf (x : ByteArray) : List ByteArray := Lib.splitB ⟨#[32]⟩ 0 (Lib.countB x ⟨#[32]⟩) x
def filled (ys : List ByteArray) : List ByteArray := ys.filter fun x => !x.data.toList.isEmpty
theorem filled_blanks (x : ByteArray) : filled (blanksOf x) = fieldsOf x := split_words x
theorem split_semi (s : ByteArray) (hs : s.size ≤ 100000) (ps : List ByteArray) (hps : ps = piecesOf s) (w : World) :
    Calls Tryz.prog 23 #[.string s, .string ⟨#[59]⟩] w fun e w' =>
      e = .returned (.slice (some ⟨w.heap.size, 0, none⟩) ps.length ps.length) ∧ w' = w.alloc (.cells (ps.map Value.string).toArray 9) := by
  subst hps
  have h := split_any 59 s hs w
  have hl := Lib.splitB_all ⟨#[59]⟩ (Nat.le_refl 1) 0 _ s rfl
  rw [split_pieces] at h hl
  rw [← hl] at h
  exact h
theorem split_blank (s : ByteArray) (hs : s.size ≤ 100000) (ps : List ByteArray) (hps : ps = blanksOf s) (w : World) :
    Calls Tryz.prog 23 #[.string s, .string ⟨#[32]⟩] w fun e w' =>
      e = .returned (.slice (some ⟨w.heap.size, 0, none⟩) ps.length ps.length) ∧ w' = w.alloc (.cells (ps.map Value.string).toArray 9) := by
  subst hps
  have h := split_any 32 s hs w
  have hl := Lib.splitB_all ⟨#[32]⟩ (Nat.le_refl 1) 0 _ s rfl
  rw [← hl] at h
  exact h
theorem blanks_few (s : ByteArray) : (blanksOf s).length ≤ s.size + 1 := by
  have hl := Lib.splitB_all ⟨#[32]⟩ (Nat.le_refl 1) 0 _ s rfl
  have hc := Lib.countB_le ⟨#[32]⟩ (Nat.le_refl 1) s.size s (Nat.le_refl _)
  unfold blanksOf
  omega
theorem pieces_few (s : ByteArray) : (piecesOf s).length ≤ s.size + 1 := by
  have hl := Lib.splitB_all ⟨#[59]⟩ (Nat.le_refl 1) 0 _ s rfl
  have hc := Lib.countB_le ⟨#[59]⟩ (Nat.le_refl 1) s.size s (Nat.le_refl _)
  rw [split_pieces] at hl
  omega
theorem cuts_size (c : UInt8) : ∀ (l acc : List UInt8), ∀ x ∈ cutsA c acc l, x.length ≤ acc.length + l.length
  | [], acc, x, hx => by
    rw [cutsA, List.mem_singleton] at hx
    subst hx; simp
  | b :: l, acc, x, hx => by
    rw [cutsA] at hx
    split at hx
    · rcases List.mem_cons.1 hx with rfl | hx
      · simp
      · have := cuts_size c l [] x hx
        simp at this ⊢; omega
    · have := cuts_size c l _ x hx
      simp at this ⊢; omega
theorem pieces_size (s : ByteArray) : ∀ x ∈ piecesOf s, x.size ≤ s.size := by
  intro x hx
  rw [← split_pieces, split_cuts] at hx
  obtain ⟨y, hy, rfl⟩ := List.mem_map.1 hx
  have := cuts_size 59 _ _ y hy
  rw [len_list, mkB_list, len_list s]
  simpa using this
theorem row_cells {w : World} {e : TypeId} {l : List ByteArray} {i : Nat} (h : i < l.length) : (w.alloc (.cells (l.map Value.string).toArray e)).cell? ⟨w.heap.size, i, none⟩ = some (.string (l[i]'h)) := by
  have e0 : (w.alloc (.cells (l.map Value.string).toArray e)).heap[w.heap.size]? = some (.cells (l.map Value.string).toArray e) := by
    show (w.heap.push _)[w.heap.size]? = _
    simp
  unfold World.cell?
  rw [e0]
  simp [h]
theorem filled_take {ys : List ByteArray} {j : Nat} (h : j < ys.length) : filled (ys.take (j + 1)) = filled (ys.take j) ++ filled [ys[j]'h] := by
  unfold filled
  rw [List.take_add_one, List.filter_append, List.getElem?_eq_getElem h]
  rfl
theorem filled_none {y : ByteArray} (h : y.data.toList = []) : filled [y] = [] := by unfold filled; rw [List.filter_cons, h]; rfl
theorem filled_one {y : ByteArray} (h : y.data.toList ≠ []) : filled [y] = [y] := by
  have e : (!y.data.toList.isEmpty) = true := by
    cases hh : y.data.toList with
    | nil => exact absurd hh h
    | cons _ _ => rfl
  unfold filled
  rw [List.filter_cons_of_pos (p := fun x : ByteArray => !x.data.toList.isEmpty) e]; rfl
theorem cells_one {w : World} {x : Value} {e : TypeId} {b : Nat} (hb : b = w.heap.size) : ∀ (j : Nat) u, [x][j]? = some u → (w.alloc (.cells #[x] e)).cell? ((⟨b, 0, none⟩ : Addr).add j) = some u := by
  subst hb
  intro j u hj
  match j, hj with
  | 0, hj => simp at hj; subst hj; simp [Addr.add]
theorem str_cell {x : ByteArray} : ∀ u ∈ [Value.string x], u.oneCell' = true := by simp [Value.oneCell']
theorem filled_few (ys : List ByteArray) (j : Nat) : (filled (ys.take j)).length ≤ j := by
  unfold filled
  exact Nat.le_trans (List.length_filter_le _ _) (List.length_take_le _ _)
theorem filled_all (ys : List ByteArray) : (filled ys).length ≤ ys.length := List.length_filter_le _ _
theorem words_cell {w : World} {base g n cp : Nat} {e : TypeId} {l : List ByteArray} (h : w.ownsRow base e 1 (.slice (some ⟨g, 0, none⟩) n cp) n (l.map Value.string)) {i : Nat} (hi : i < l.length) : w.cell? ⟨g, i, none⟩ = some (.string (l[i]'hi)) := by
  have hn : (l.map Value.string).length = n * 1 := h.1
  rw [List.length_map] at hn
  rw [h.cellAt i (by omega)]
  simp [hi]
theorem box_facts {W0 W : World} {B : Nat} {t : TypeId} (h : W0.heap[B]? = some (.cells #[.int .i64 0, .int .i64 0] t (0, 0))) (hB : B < W0.heap.size) (hb : Below W0.heap.size W0 W) :
    W.cell? ⟨B, 0, none⟩ = some (.int .i64 0) ∧ W.cell? ⟨B, 1, none⟩ = some (.int .i64 0) ∧ W.frozen? ⟨B, 0, none⟩ = false ∧ W.frozen? ⟨B, 1, none⟩ = false ∧ B < W.heap.size := by
  have h' : W.heap[B]? = some (.cells #[.int .i64 0, .int .i64 0] t (0, 0)) := (hb.block B hB).trans h
  exact ⟨by simp [World.cell?, h'], by simp [World.cell?, h'], by simp [World.frozen?, h'], by simp [World.frozen?, h'], Nat.lt_of_lt_of_le hB hb.size⟩
theorem own6_later {w w1 : World} {base n size : Nat} {e : TypeId} {v : Value} {xs : List Value} (h : w.ownsRow base e size v n xs) (hb : Below w.heap.size w w1) : w1.ownsRow base e size v n xs :=
  h.kept (row := none) ⟨hb.os, hb.tape, hb.output, hb.size, fun k hk _ => hb.block k hk⟩ (by cases v.ownBlock <;> simp)
theorem own6_from {w : World} {base n size : Nat} {e : TypeId} {v : Value} {xs : List Value} (h : w.ownsRow base e size v n xs) : ∀ k, v.ownBlock = some k → base ≤ k := by
  intro k hk
  rcases h.2 with ⟨rfl, _⟩ | ⟨g, cap, cur, rfl, hb, _⟩
  · simp [Value.ownBlock] at hk
  · simp [Value.ownBlock] at hk; omega
theorem docRead_results {tmps : Array Value} {W : World} {B : Nat} {v x y : Value} (h2 : tmps[2]?.getD undef = v) (h3 : tmps[3]?.getD undef = .pointer (some ⟨B, 0, none⟩)) (c0 : W.cell? ⟨B, 0, none⟩ = some x) (c1 : W.cell? ⟨B, 1, none⟩ = some y) : (results Tryz.f8 tmps).run Tryz.prog W = .ok (.tuple #[v, .agg #[x, y]]) W := by
  simp [results, Tryz.results8, go_sem, h2, h3, c0, c1]
theorem box_set {W : World} {B : Nat} (x y : Value) (b0 : ∃ u, W.cell? ⟨B, 0, none⟩ = some u) (b1 : ∃ u, W.cell? ⟨B, 1, none⟩ = some u) :
    ((W.setCell ⟨B, 0, none⟩ x).setCell ⟨B, 1, none⟩ y).cell? ⟨B, 0, none⟩ = some x ∧ ((W.setCell ⟨B, 0, none⟩ x).setCell ⟨B, 1, none⟩ y).cell? ⟨B, 1, none⟩ = some y := by
  obtain ⟨u, b0⟩ := b0
  obtain ⟨u', b1⟩ := b1
  exact ⟨by simp [go_sem, b0], by simp [go_sem, b1]⟩
/-- What the document's Read returns: a piece tells none; too many; a step is no good; or the steps. -/
def DocEnds (w : World) (s : ByteArray) (e : Ending) (W : World) : Prop :=
  Below w.heap.size w W ∧
  ((∃ pre x post, piecesOf s = pre ++ x :: post ∧ (∀ y ∈ pre, (tells y).isSome = true) ∧ tells x = none ∧ e = .returned (.tuple #[.slice none 0 0, .agg #[.int .i64 3, .int .i64 pre.length]]))
  ∨ ((∀ y ∈ piecesOf s, (tells y).isSome = true) ∧
    ((200 < (piecesOf s).length ∧ e = .returned (.tuple #[.slice none 0 0, .agg #[.int .i64 4, .int .i64 (-1)]]))
    ∨ ((piecesOf s).length ≤ 200 ∧
      ((∃ i, i < (piecesOf s).length ∧ (∀ j, j < i → faultOf (toldBy (piecesOf s)) j = 0) ∧ faultOf (toldBy (piecesOf s)) i ≠ 0 ∧ e = .returned (.tuple #[.slice none 0 0, .agg #[.int .i64 (faultOf (toldBy (piecesOf s)) i), .int .i64 i]]))
      ∨ ((∀ j, j < (piecesOf s).length → faultOf (toldBy (piecesOf s)) j = 0) ∧ ∃ g cap, e = .returned (.tuple #[.slice (some ⟨g, 0, none⟩) (piecesOf s).length cap, .agg #[.int .i64 0, .int .i64 (-1)]]) ∧ W.ownsRow w.heap.size 49 6 (.slice (some ⟨g, 0, none⟩) (piecesOf s).length cap) (piecesOf s).length (cellsOf (toldBy (piecesOf s)))))))))
/-- A piece tells none: the end. -/
theorem end_none {tmps : Array Value} {w W : World} {s x : ByteArray} {ps : List ByteArray} {k : Nat} (h2 : tmps[2]?.getD undef = .slice none 0 0) (h3 : tmps[3]?.getD undef = .pointer (some ⟨w.heap.size, 0, none⟩))
    (hp : ps = piecesOf s) (hk : k < ps.length) (hx : x = ps[k]'hk) (hall : ∀ y ∈ ps.take k, (tells y).isSome = true) (hn : tells x = none) (hb : Below w.heap.size w W) (c0 : W.cell? ⟨w.heap.size, 0, none⟩ = some (.int .i64 3)) (c1 : W.cell? ⟨w.heap.size, 1, none⟩ = some (.int .i64 k)) :
    bodyPost Tryz.prog Tryz.f8 (fun e W' => DocEnds w s e W') Exit.ret { tmps := tmps, defers := [] } W := by
  refine bodyPost_ret (v := .tuple #[.slice none 0 0, .agg #[.int .i64 3, .int .i64 k]]) (docRead_results h2 h3 c0 c1) rfl ⟨hb, Or.inl ⟨ps.take k, x, ps.drop (k + 1), ?_, hall, hn, ?_⟩⟩
  · rw [← hp, hx, ← List.drop_eq_getElem_cons hk, List.take_append_drop]
  · rw [List.length_take, Nat.min_eq_left (Nat.le_of_lt hk)]
theorem box_alloc {W : World} {B i : Nat} {v : Value} {o : Obj} (hB : B < W.heap.size) (h : W.cell? ⟨B, i, none⟩ = some v) : (W.alloc o).cell? ⟨B, i, none⟩ = some v :=
  (((Below.refl W.heap.size W).alloc (Nat.le_refl _) o).cell (p := ⟨B, i, none⟩) hB).trans h
theorem laid_six {w : World} {a b c d e f : Value} {t : TypeId} {k : Nat} (hk : k = w.heap.size) : ∀ (j : Nat) u, [a, b, c, d, e, f][j]? = some u → (w.alloc (.cells #[a, b, c, d, e, f] t)).cell? ((⟨k, 0, none⟩ : Addr).add j) = some u := by
  subst hk
  intro j u hj
  match j, hj with
  | 0, hj => simp at hj; subst hj; simp [Addr.add]
  | 1, hj => simp at hj; subst hj; simp [Addr.add]
  | 2, hj => simp at hj; subst hj; simp [Addr.add]
  | 3, hj => simp at hj; subst hj; simp [Addr.add]
  | 4, hj => simp at hj; subst hj; simp [Addr.add]
  | 5, hj => simp at hj; subst hj; simp [Addr.add]
theorem laid_ones {c d e o n : Int} {r : Bool} : ∀ u ∈ [Value.int .i64 c, .int .i64 d, .int .i64 e, .bool r, .int .i64 o, .int .i64 n], u.oneCell' = true := by simp [Value.oneCell']
theorem told_next {ps : List ByteArray} {k : Nat} {x : ByteArray} {z : St} (hk : k < ps.length) (hx : x = ps[k]'hk) (hz : tells x = some z) : cellsOf (toldBy (ps.take (k + 1))) = cellsOf (toldBy (ps.take k)) ++ z.cells.toList := by
  rw [List.take_add_one, List.getElem?_eq_getElem hk, ← hx]
  unfold toldBy cellsOf
  simp [hz]
theorem all_next {ps : List ByteArray} {k : Nat} {x : ByteArray} {z : St} (hk : k < ps.length) (hx : x = ps[k]'hk) (hz : tells x = some z) (h : ∀ y ∈ ps.take k, (tells y).isSome = true) : ∀ y ∈ ps.take (k + 1), (tells y).isSome = true := by
  intro y hy
  rw [List.take_add_one, List.getElem?_eq_getElem hk, ← hx] at hy
  rcases List.mem_append.1 hy with hy | hy
  · exact h y hy
  · simp at hy
    rw [hy, hz]; rfl
theorem own6_shape {w : World} {base n size : Nat} {e : TypeId} {v : Value} {xs : List Value} (h : w.ownsRow base e size v n xs) (hn : 0 < n) : ∃ g cap, v = .slice (some ⟨g, 0, none⟩) n cap := by
  rcases h.2 with ⟨_, rfl⟩ | ⟨g, cap, _, rfl, _⟩
  · omega
  · exact ⟨g, cap, rfl⟩
theorem docCheck_fine {W : World} {base g n cap : Nat} {xs : List St} (hrow : W.ownsRow base 49 6 (.slice (some ⟨g, 0, none⟩) n cap) n (cellsOf xs)) (hl : xs.length = n) (h1 : 0 < n) (h2 : n ≤ 200) (hno : ∀ j, j < n → faultOf xs j = 0) :
    Calls Tryz.prog 25 #[.slice (some ⟨g, 0, none⟩) n cap] W fun e w1 => e = .returned (.agg #[.int .i64 0, .int .i64 (-1)]) ∧ Below W.heap.size W w1 := by
  subst hl
  exact refCheck_fine hno (row_steps hrow rfl) h1 h2 (row_lt hrow)
theorem docCheck_bad {W : World} {base g n cap i : Nat} {xs : List St} (hrow : W.ownsRow base 49 6 (.slice (some ⟨g, 0, none⟩) n cap) n (cellsOf xs)) (hl : xs.length = n) (h1 : 0 < n) (h2 : n ≤ 200) (hi : i < n) (hno : ∀ j, j < i → faultOf xs j = 0) (hf : faultOf xs i ≠ 0) :
    Calls Tryz.prog 25 #[.slice (some ⟨g, 0, none⟩) n cap] W fun e w1 => e = .returned (.agg #[.int .i64 (faultOf xs i), .int .i64 i]) ∧ Below W.heap.size W w1 := by
  subst hl
  exact refCheck_bad hi hno hf (row_steps hrow rfl) h1 h2 (row_lt hrow)
theorem own6_set {W : World} {base g n cp size B i : Nat} {e : TypeId} {u : Value} {xs : List Value} (h : W.ownsRow base e size (.slice (some ⟨g, 0, none⟩) n cp) n xs) (hB : B < base) : (W.setCell ⟨B, i, none⟩ u).ownsRow base e size (.slice (some ⟨g, 0, none⟩) n cp) n xs := by
  refine ⟨h.1, ?_⟩
  rcases h.2 with hn | ⟨g', cap, cur, he, hb, hg, rest⟩
  · exact .inl hn
  · refine .inr ⟨g', cap, cur, he, hb, ?_, rest⟩
    rw [Below.heap_setCell W ⟨B, i, none⟩ u g' (by show g' ≠ B; omega)]; exact hg
theorem own6_lower {w : World} {base base' n size : Nat} {e : TypeId} {v : Value} {xs : List Value} (h : w.ownsRow base e size v n xs) (hb : base' ≤ base) : w.ownsRow base' e size v n xs := by
  refine ⟨h.1, ?_⟩
  rcases h.2 with hn | ⟨g, cap, cur, rfl, hg, rest⟩
  · exact .inl hn
  · exact .inr ⟨g, cap, cur, rfl, Nat.le_trans hb hg, rest⟩
section
variable {tmps : Array Value} {w W : World} {s : ByteArray} {ps : List ByteArray}
theorem end_limit (h2 : tmps[2]?.getD undef = .slice none 0 0) (h3 : tmps[3]?.getD undef = .pointer (some ⟨w.heap.size, 0, none⟩)) (hp : ps = piecesOf s) (hall : ∀ y ∈ ps, (tells y).isSome = true) (h200 : 200 < ps.length)
    (hb : Below w.heap.size w W) (c0 : W.cell? ⟨w.heap.size, 0, none⟩ = some (.int .i64 4)) (c1 : W.cell? ⟨w.heap.size, 1, none⟩ = some (.int .i64 (-1))) :
    bodyPost Tryz.prog Tryz.f8 (fun e W' => DocEnds w s e W') Exit.ret { tmps := tmps, defers := [] } W := by
  subst hp
  exact bodyPost_ret (v := .tuple #[.slice none 0 0, .agg #[.int .i64 4, .int .i64 (-1)]]) (docRead_results h2 h3 c0 c1) rfl ⟨hb, Or.inr ⟨hall, Or.inl ⟨h200, rfl⟩⟩⟩
theorem end_bad {i : Nat} (h2 : tmps[2]?.getD undef = .slice none 0 0) (h3 : tmps[3]?.getD undef = .pointer (some ⟨w.heap.size, 0, none⟩)) (hp : ps = piecesOf s) (hall : ∀ y ∈ ps, (tells y).isSome = true) (h200 : ps.length ≤ 200)
    (hi : i < ps.length) (hno : ∀ j, j < i → faultOf (toldBy ps) j = 0) (hf : faultOf (toldBy ps) i ≠ 0)
    (hb : Below w.heap.size w W) (c0 : W.cell? ⟨w.heap.size, 0, none⟩ = some (.int .i64 (faultOf (toldBy ps) i))) (c1 : W.cell? ⟨w.heap.size, 1, none⟩ = some (.int .i64 i)) :
    bodyPost Tryz.prog Tryz.f8 (fun e W' => DocEnds w s e W') Exit.ret { tmps := tmps, defers := [] } W := by
  subst hp
  exact bodyPost_ret (v := .tuple #[.slice none 0 0, .agg #[.int .i64 (faultOf (toldBy (piecesOf s)) i), .int .i64 i]]) (docRead_results h2 h3 c0 c1) rfl ⟨hb, Or.inr ⟨hall, Or.inr ⟨h200, Or.inl ⟨i, hi, hno, hf, rfl⟩⟩⟩⟩
theorem end_fine {g cp : Nat} (h2 : tmps[2]?.getD undef = .slice (some ⟨g, 0, none⟩) ps.length cp) (h3 : tmps[3]?.getD undef = .pointer (some ⟨w.heap.size, 0, none⟩)) (hp : ps = piecesOf s) (hall : ∀ y ∈ ps, (tells y).isSome = true) (h200 : ps.length ≤ 200)
    (hno : ∀ j, j < ps.length → faultOf (toldBy ps) j = 0) (hrow : W.ownsRow w.heap.size 49 6 (.slice (some ⟨g, 0, none⟩) ps.length cp) ps.length (cellsOf (toldBy ps)))
    (hb : Below w.heap.size w W) (c0 : W.cell? ⟨w.heap.size, 0, none⟩ = some (.int .i64 0)) (c1 : W.cell? ⟨w.heap.size, 1, none⟩ = some (.int .i64 (-1))) :
    bodyPost Tryz.prog Tryz.f8 (fun e W' => DocEnds w s e W') Exit.ret { tmps := tmps, defers := [] } W := by
  subst hp
  exact bodyPost_ret (v := .tuple #[.slice (some ⟨g, 0, none⟩) (piecesOf s).length cp, .agg #[.int .i64 0, .int .i64 (-1)]]) (docRead_results h2 h3 c0 c1) rfl ⟨hb, Or.inr ⟨hall, Or.inr ⟨h200, Or.inr ⟨hno, g, cp, rfl, hrow⟩⟩⟩⟩
end
section
set_option maxRecDepth 100000 in
set_option maxHeartbeats 4000000 in
theorem docRead_any (he : ∀ w, ex.holds w → ErrTabs w) (hd : ∀ w, ex.holds w → DocTabs w) (s : ByteArray) (hs : s.size ≤ 100000) (w : World) (hT : Tabs ex w) :
    Calls Tryz.prog 8 #[.string s] w fun e W' => DocEnds w s e W' := by
  have hF := Fine.start hT
  obtain ⟨i0, hi, hz0, hz1, hz2⟩ := info_parts Tryz.infoS
  obtain ⟨j0, hj, hy0, hy1, hy2⟩ := info_parts Tryz.infoStep
  have hpn := pieces_few s
  have hps := pieces_size s
  obtain ⟨ps, hPS⟩ : ∃ ps, ps = piecesOf s := ⟨_, rfl⟩
  have HPS : Hid (ps = piecesOf s) := hPS
  rw [← hPS] at hpn hps
  clear hPS
  go_enter Tryz.func8, Tryz.ntmps8
  go_wp2_with (first
    | (go_at_call 23; refine (split_semi s hs ps HPS.out _).mono ?_; rintro e W0 ⟨rfl, hw⟩; have HW : Hid (_ = W0) := hw.symm; clear hw)
    | go_in)
  have hW0 : ((w.alloc (.cells #[.int .i64 0, .int .i64 0] 25)).alloc (.cells (ps.map Value.string).toArray 9)) = W0 := HW.out
  have hs0 : W0.heap.size = w.heap.size + 2 := by rw [← hW0]; simp
  have hF0 : Fine ex w W0 := by rw [← hW0]; exact (hF.alloc _).alloc _
  have hP : ∀ i (h : i < ps.length), W0.cell? ⟨w.heap.size + 1, i, none⟩ = some (.string (ps[i]'h)) := by
    intro i h
    rw [← hW0]
    have := row_cells (w := w.alloc (.cells #[.int .i64 0, .int .i64 0] 25)) (e := 9) h
    rw [World.size_alloc] at this
    exact this
  have hQ : W0.heap[w.heap.size]? = some (.cells #[.int .i64 0, .int .i64 0] 25 (0, 0)) := by
    rw [← hW0]
    show ((w.heap.push _).push _)[w.heap.size]? = _
    simp [Array.getElem?_push]
  clear hW0 HW
  have hFS := Fine.start hF0.tabs
  have hroom := hF0.tabs.room
  go_loopw [4, 16] (fun v i wr => ∃ k : Nat, k ≤ ps.length ∧ i = .int .i64 k ∧ wr.ownsRow W0.heap.size 49 6 v k (cellsOf (toldBy (ps.take k))) ∧ (∀ y ∈ ps.take k, (tells y).isSome = true) ∧ Fine ex W0 wr) (fun _ i _ => ps.length - (intOf i).toNat)
  case atStart => exact ⟨0, Nat.zero_le _, rfl, World.ownsRow_nil _ _ _ _, (fun y hy => by cases hy), hFS⟩
  case round =>
    obtain ⟨k, hk, rfl, hown, hall, hFr⟩ := hrel
    by_cases hlt : k < ps.length
    · obtain ⟨x, hx⟩ : ∃ x, x = ps[k]'hlt := ⟨_, rfl⟩
      have cx : wr.cell? ⟨w.heap.size + 1, k, none⟩ = some (.string x) := by rw [hx]; exact hFr.cellAt (by omega) (hP k hlt)
      have hxs : x.size ≤ 100000 := Nat.le_trans (hps x (by rw [hx]; exact List.getElem_mem _)) hs
      have hgx : w.heap.size + 1 < wr.heap.size := Nat.lt_of_lt_of_le (by omega) hFr.bel.size
      have HX : Hid (x = ps[k]'hlt) := hx
      clear hx
      have hbn := blanks_few x
      obtain ⟨ys, hYS⟩ : ∃ ys, ys = blanksOf x := ⟨_, rfl⟩
      have HYS : Hid (ys = blanksOf x) := hYS
      rw [← hYS] at hbn
      clear hYS
      go_wp2_with (first
        | (go_at_call 23; refine (split_blank x hxs ys HYS.out _).mono ?_; rintro e W1 ⟨rfl, hw⟩; have HW : Hid (_ = W1) := hw.symm; clear hw)
        | go_in)
      have hW1 : wr.alloc (.cells (ys.map Value.string).toArray 9) = W1 := HW.out
      have hs1 : W1.heap.size = wr.heap.size + 1 := by rw [← hW1]; simp
      have hF1 : Fine ex W0 W1 := by rw [← hW1]; exact hFr.alloc _
      have hY : ∀ i (h : i < ys.length), W1.cell? ⟨wr.heap.size, i, none⟩ = some (.string (ys[i]'h)) := by
        intro i h
        rw [← hW1]
        exact row_cells h
      have hwY : wr.heap.size < W1.heap.size := by omega
      have hYr : W0.heap.size ≤ wr.heap.size := hFr.bel.size
      have hown1 := hown.alloc (.cells (ys.map Value.string).toArray 9)
      rw [hW1] at hown1
      clear hW1 HW hown
      obtain ⟨Y, hYz⟩ : ∃ Y, wr.heap.size = Y := ⟨_, rfl⟩
      rw [hYz] at hs1 hY hwY hYr
      rw [hYz]
      clear hYz hFr cx hgx
      have hFS1 := Fine.start hF1.tabs
      have hroom1 := hF1.tabs.room
      go_loopw [7, 24] (fun v i wr2 => ∃ j : Nat, j ≤ ys.length ∧ i = .int .i64 j ∧ wr2.ownsRow W1.heap.size 9 1 v (filled (ys.take j)).length ((filled (ys.take j)).map Value.string) ∧ Fine ex W1 wr2) (fun _ i _ => ys.length - (intOf i).toNat)
      case atStart => exact ⟨0, Nat.zero_le _, rfl, World.ownsRow_nil _ _ _ _, hFS1⟩
      case round =>
        obtain ⟨j, hj2, rfl, hown2, hFr2⟩ := hrel
        by_cases hlt2 : j < ys.length
        · obtain ⟨y, hy⟩ : ∃ y, y = ys[j]'hlt2 := ⟨_, rfl⟩
          have cy : wr.cell? ⟨Y, j, none⟩ = some (.string y) := by rw [hy]; exact hFr2.cellAt hwY (hY j hlt2)
          have hgy : Y < wr.heap.size := Nat.lt_of_lt_of_le hwY hFr2.bel.size
          have HT := filled_take hlt2
          rw [← hy] at HT
          clear hy
          by_cases hye : y.data.toList = []
          · have HK : Hid (filled (ys.take (j + 1)) = filled (ys.take j)) := by
              show _ = _
              rw [HT, filled_none hye, List.append_nil]
            have hq : y.toList.isEmpty = true := by rw [Lib.toList_data, hye]; rfl
            clear HT hye
            go_wp2
            go_roundw
            case rel => exact ⟨j + 1, by omega, by go_num, by rw [HK.out]; exact hown2, hFr2⟩
            case measure => simp [intOf]; omega
          · have HK : Hid (filled (ys.take (j + 1)) = filled (ys.take j) ++ [y]) := by
              show _ = _
              rw [HT, filled_one hye]
            have hq : y.toList.isEmpty = false := by
              rw [Lib.toList_data]
              cases hh : y.data.toList with
              | nil => exact absurd hh hye
              | cons _ _ => rfl
            have hfl := filled_few ys j
            have hfr2 := hFr2.bel.size
            clear HT hye
            go_wp2_with (first
              | (at_builtin; refine wpList_append_own _ rfl (.tmp 30) (.tmp 32) 64 rfl W1.heap.size 9 i0 (.string ⟨#[]⟩) 1 16 Tryz.underlying64 hi hz0 hz1 hz2 rfl (by decide) _ _ _ rfl (hown2.alloc _) ⟨_, 0, none⟩ 1 1 [.string y] rfl rfl (cells_one rfl) str_cell (by unfold maxLen; omega) (by omega) (by simp; omega) ?_; intro v7 w7 hown7 hgrow7 _)
              | go_in)
            have hF7 : Fine ex W1 w7 := Fine.grown (hFr2.alloc _) hgrow7 (own_from hown2) hroom1
            have hown8 : w7.ownsRow W1.heap.size 9 1 v7 (filled (ys.take (j + 1))).length ((filled (ys.take (j + 1))).map Value.string) := by rw [HK.out, List.length_append, List.map_append]; exact hown7
            clear hown7 hgrow7 hown2
            go_wp2
            go_roundw
            case rel => exact ⟨j + 1, by omega, by go_num, hown8, hF7⟩
            case measure => simp [intOf]; omega
        · obtain rfl : j = ys.length := by omega
          have hfi : filled (ys.take ys.length) = fieldsOf x := by rw [List.take_length, HYS.out]; exact filled_blanks x
          rw [hfi] at hown2
          have hbel : Below W0.heap.size W0 wr := hF1.bel.trans (hFr2.bel.mono hF1.bel.size)
          cases hws : fieldsOf x with
          | nil =>
            rw [hws] at hown2
            obtain ⟨a, c, rfl⟩ := own_empty hown2
            have HN : Hid (tells x = none) := by
              show tells x = none
              rw [tells_doc, hws]; rfl
            obtain ⟨b0, b1, b2, b3, b4⟩ := box_facts hQ (by omega) hbel
            clear hws hfi
            go_wp2
            obtain ⟨k0, k1⟩ := box_set (B := w.heap.size) (W := wr) (.int .i64 3) (.int .i64 k) ⟨_, b0⟩ ⟨_, b1⟩
            refine end_none (ps := ps) (x := x) (k := k) ?_ ?_ HPS.out hlt HX.out hall HN.out (((hF0.bel.trans (hbel.mono hF0.bel.size)).setCell (Nat.le_refl _) _).setCell (Nat.le_refl _) _) k0 k1
            · rfl
            · rfl
          | cons b bs =>
            rw [hws] at hown2
            obtain ⟨g, cp, rfl⟩ := own_shape hown2 (by simp)
            have hWA : WordsAt wr g 0 (b :: bs) := ⟨row_lt hown2, fun i h => by rw [Nat.zero_add]; exact words_cell hown2 h⟩
            have hsz : ∀ z ∈ b :: bs, z.size ≤ 100000 := fun z hz => Nat.le_trans (fields_size x _ _ _ z (by rw [← hws] at hz; exact hz)) hxs
            have hln : bs.length ≤ 100000 := by
              have h1 := congrArg List.length hfi
              rw [hws, List.take_length] at h1
              have h2 := filled_all ys
              simp at h1
              omega
            have HTL : Hid (tells x = stepD (b :: bs)) := by
              show tells x = _
              rw [tells_doc, hws]
            clear hws hfi
            cases hst : stepD (b :: bs) with
            | none =>
              have HN : Hid (tells x = none) := HTL.out.trans hst
              go_wp2_with (first
                | (go_at_call 24; refine (reads_any he hd g 0 cp b bs _ hsz hln hWA hFr2.tabs).mono ?_; rintro e w2 ⟨⟨⟨yc, yd, ye, yr, yo, yn⟩, hy, rfl⟩, hb2⟩; rw [hst]; simp only [St.cells, Option.isSome]; have hbel2 : Below W0.heap.size W0 w2 := hbel.trans (hb2.mono hbel.size); obtain ⟨b0, b1, b2, b3, b4⟩ := box_facts hQ (by omega) hbel2)
                | go_in)
              obtain ⟨k0, k1⟩ := box_set (B := w.heap.size) (W := w2) (.int .i64 3) (.int .i64 k) ⟨_, b0⟩ ⟨_, b1⟩
              refine end_none (ps := ps) (x := x) (k := k) ?_ ?_ HPS.out hlt HX.out hall HN.out ((((hF0.bel.trans (hbel2.mono hF0.bel.size)).setCell (Nat.le_refl _) _).setCell (Nat.le_refl _) _).alloc (by simp; omega) _) (box_alloc (by simp; omega) k0) (box_alloc (by simp; omega) k1)
              · rfl
              · rfl
            | some z =>
              have HZ : Hid (tells x = some z) := HTL.out.trans hst
              go_wp2_with (first
                | (go_at_call 24; refine (reads_any he hd g 0 cp b bs _ hsz hln hWA hFr2.tabs).mono ?_; rintro e w2 ⟨⟨⟨yc, yd, ye, yr, yo, yn⟩, hy, rfl⟩, hb2⟩; rw [hst]; simp only [St.cells, Option.isSome]; have HY := hy z hst; have hbel2 : Below W0.heap.size W0 w2 := hbel.trans (hb2.mono hbel.size); obtain ⟨b0, b1, b2, b3, b4⟩ := box_facts hQ (by omega) hbel2)
                | (at_builtin; refine wpList_append_own _ rfl (.tmp 49) (.tmp 51) 22 rfl W0.heap.size 49 j0 (.agg St.zero.cells) 6 48 Tryz.underlying22 hj hy0 hy1 hy2 rfl (by decide) _ _ _ rfl (((own6_later (own6_later hown1 hFr2.bel) hb2).alloc _).alloc _) ⟨_, 0, none⟩ 1 1 [.int .i64 yc, .int .i64 yd, .int .i64 ye, .bool yr, .int .i64 yo, .int .i64 yn] rfl rfl (laid_six (by simp)) laid_ones (by unfold maxLen; omega) (by omega) (by have := hbel2.size; simp; omega) ?_; intro v9 w9 hown9 hgrow9 _)
                | go_in)
              have hF9 : Fine ex W0 w9 := Fine.grown ((((⟨hbel, hFr2.tabs⟩ : Fine ex W0 wr).call hb2).alloc _).alloc _) hgrow9 (own6_from hown1) hroom
              have hown0 : w9.ownsRow W0.heap.size 49 6 v9 (k + 1) (cellsOf (toldBy (ps.take (k + 1)))) := by
                rw [told_next hlt HX.out HZ.out, ← HY]
                exact hown9
              have HA : Hid (∀ y ∈ ps.take (k + 1), (tells y).isSome = true) := all_next hlt HX.out HZ.out hall
              clear hown9 hgrow9 hown1 hown2 HY
              go_wp2
              go_roundw
              case rel => exact ⟨k + 1, by omega, by go_num, hown0, HA.out, hF9⟩
              case measure => simp [intOf]; omega
    · obtain rfl : k = ps.length := by omega
      rw [List.take_length] at hown hall
      have h1 : 0 < ps.length := by rw [HPS.out]; exact pieces_some _ _
      obtain ⟨g, cp, rfl⟩ := own6_shape hown h1
      by_cases h200 : 200 < ps.length
      · go_wp2_with (first
          | (go_at_call 25; refine (refCheck_limit _ _ _ (Or.inr h200) _).mono ?_; rintro e w1 ⟨rfl, hb1⟩; have hbw1 : Below W0.heap.size W0 w1 := hFr.bel.trans (hb1.mono hFr.bel.size); obtain ⟨b0, b1, b2, b3, b4⟩ := box_facts hQ (by omega) hbw1)
          | go_in)
        go_region
        all_goals (try go_wp2)
        all_goals obtain ⟨k0, k1⟩ := box_set (B := w.heap.size) (W := w1) (.int .i64 4) (.int .i64 (-1)) ⟨_, b0⟩ ⟨_, b1⟩
        all_goals refine end_limit (ps := ps) ?_ ?_ HPS.out hall h200 ((((hF0.bel.trans (hbw1.mono hF0.bel.size)).setCell (Nat.le_refl _) _).setCell (Nat.le_refl _) _).alloc (by simp; omega) _).drew (box_alloc (by simp; omega) k0) (box_alloc (by simp; omega) k1)
        all_goals rfl
      · rcases first_fault (faultOf (toldBy ps)) ps.length with hfine | ⟨i, hi2, hno, hf⟩
        · go_wp2_with (first
            | (go_at_call 25; refine (docCheck_fine hown (told_length ps) h1 (by omega) hfine).mono ?_; rintro e w1 ⟨rfl, hb1⟩; have hbw1 : Below W0.heap.size W0 w1 := hFr.bel.trans (hb1.mono hFr.bel.size); obtain ⟨b0, b1, b2, b3, b4⟩ := box_facts hQ (by omega) hbw1)
            | (go_at_call 26; refine (bare_any _ _).mono ?_; rintro e w3 ⟨rfl, hb3⟩; have hb4 := hbw1.alloc hbw1.size (.cells #[.int .i64 0, .int .i64 (-1)] 25); have hbw3 : Below W0.heap.size W0 w3 := hb4.trans (hb3.mono hb4.size); obtain ⟨d0, d1, d2, d3, d4⟩ := box_facts hQ (by omega) hbw3)
            | go_in)
          obtain ⟨k0, k1⟩ := box_set (B := w.heap.size) (W := w3) (.int .i64 0) (.int .i64 (-1)) ⟨_, d0⟩ ⟨_, d1⟩
          have hrow := own6_later (own6_later hown hb1 |>.alloc (.cells #[.int .i64 0, .int .i64 (-1)] 25)) hb3
          refine end_fine (ps := ps) (g := g) (cp := cp) ?_ ?_ HPS.out hall (by omega) hfine (own6_lower (own6_set (own6_set hrow (by omega)) (by omega)) (by omega)) (((hF0.bel.trans (hbw3.mono hF0.bel.size)).setCell (Nat.le_refl _) _).setCell (Nat.le_refl _) _) k0 k1
          · rfl
          · rfl
        · have hf0 : (faultOf (toldBy ps) i != 0) = true := by simpa using hf
          go_wp2_with (first
            | (go_at_call 25; refine (docCheck_bad hown (told_length ps) h1 (by omega) hi2 hno hf).mono ?_; rintro e w1 ⟨rfl, hb1⟩; have hbw1 : Below W0.heap.size W0 w1 := hFr.bel.trans (hb1.mono hFr.bel.size); obtain ⟨b0, b1, b2, b3, b4⟩ := box_facts hQ (by omega) hbw1)
            | go_in)
          go_region
          all_goals (try go_wp2)
          all_goals obtain ⟨k0, k1⟩ := box_set (B := w.heap.size) (W := w1) (.int .i64 (faultOf (toldBy ps) i)) (.int .i64 i) ⟨_, b0⟩ ⟨_, b1⟩
          all_goals refine end_bad (ps := ps) ?_ ?_ HPS.out hall (by omega) hi2 hno hf ((((hF0.bel.trans (hbw1.mono hF0.bel.size)).setCell (Nat.le_refl _) _).setCell (Nat.le_refl _) _).alloc (by simp; omega) _).drew (box_alloc (by simp; omega) k0) (box_alloc (by simp; omega) k1)
          all_goals rfl
end
end Go.Proofs.YtegeiicginpdbaaGreatDoor
