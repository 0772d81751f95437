/-
  A program that runs, as it lies in memory. Conditions: numbers are of 64 bits.
-/
import Derived.Test.YtegeiicginpdbaaDoorMach
import Derived.RegionTactic
import Derived.Deep.RegionWith
import Derived.Deep.RegionHeld3
namespace Go.Proofs.YtegeiicginpdbaaDoor
open Go.ChangeShapes Go.WideShapes Go.ChangeAt Go.RowKit
structure Mac where
  step : Int
  steps : Int
  reg : Nat → Val
  slot : Nat → Val
  word : Nat → Int
  cel : Nat → Int
  time : Int
  out : Value
def valCell (x : Val) (j : Nat) : Value := if j = 0 then .int .i64 x.k else if j = 1 then .int .i64 x.n else .int .i64 x.c
def Mac.cell (m : Mac) (i : Nat) : Value :=
  if i = 0 then .int .i64 m.step else if i = 1 then .int .i64 m.steps
  else if i < 35 then valCell (m.reg ((i - 2) / 3)) ((i - 2) % 3)
  else if i < 83 then valCell (m.slot ((i - 35) / 3)) ((i - 35) % 3)
  else if i < 91 then .int .i64 (m.word (i - 83))
  else if i < 107 then .int .i64 (m.cel (i - 91))
  else if i = 107 then .int .i64 m.time else m.out
def MacAt (w : World) (B : Nat) (m : Mac) : Prop := w.heap[B]? = some (.cells (Array.ofFn (n := 109) fun i => m.cell i.1) 122 (0, 0))
theorem MacAt.lt {w : World} {B : Nat} {m : Mac} (h : MacAt w B m) : B < w.heap.size := (Array.getElem?_eq_some_iff.1 h).1
theorem MacAt.at {w : World} {B : Nat} {m : Mac} (h : MacAt w B m) (i : Nat) (hi : i < 109) : w.cell? ⟨B, i, none⟩ = some (m.cell i) := by
  have h' : w.heap[B]? = some (.cells (Array.ofFn (n := 109) fun i => m.cell i.1) 122 (0, 0)) := h
  simp [World.cell?, h', hi]
theorem MacAt.frozen {w : World} {B : Nat} {m : Mac} (h : MacAt w B m) (i : Nat) : w.frozen? ⟨B, i, none⟩ = false := by
  have h' : w.heap[B]? = some (.cells (Array.ofFn (n := 109) fun i => m.cell i.1) 122 (0, 0)) := h
  simp [World.frozen?, h']
theorem MacAt.later {w w1 : World} {B : Nat} {m : Mac} (h : MacAt w B m) (hb : Below w.heap.size w w1) : MacAt w1 B m := (hb.block B h.lt).trans h
theorem MacAt.set {w : World} {B : Nat} {m m' : Mac} (h : MacAt w B m) (i : Nat) (_ : i < 109) (v : Value) (he : ∀ j, j < 109 → m'.cell j = if j = i then v else m.cell j) : MacAt (w.setCell ⟨B, i, none⟩ v) B m' := by
  have h' : w.heap[B]? = some (.cells (Array.ofFn (n := 109) fun i => m.cell i.1) 122 (0, 0)) := h
  have e : (Array.ofFn (n := 109) fun i => m.cell i.1).setIfInBounds i v = Array.ofFn (n := 109) fun i => m'.cell i.1 := by
    apply Array.ext
    · simp
    · intro j h1 h2
      have h3 : j < 109 := by simpa using h2
      rw [Array.getElem_setIfInBounds (by simpa using h3), Array.getElem_ofFn, Array.getElem_ofFn]
      show (if i = j then v else m.cell j) = m'.cell j
      rw [he j h3]
      by_cases hj : i = j
      · rw [if_pos hj, if_pos hj.symm]
      · rw [if_neg hj, if_neg (fun e => hj e.symm)]
  unfold MacAt
  rw [← e]
  simp [World.setCell, Array.getElem?_modify, h']
theorem Mac.cell_reg (m : Mac) (d : Nat) (hd : d < 11) : m.cell (2 + d * 3) = .int .i64 (m.reg d).k ∧ m.cell (2 + d * 3 + 1) = .int .i64 (m.reg d).n ∧ m.cell (2 + d * 3 + 2) = .int .i64 (m.reg d).c := by
  refine ⟨?_, ?_, ?_⟩
  · unfold Mac.cell
    rw [if_neg (by omega), if_neg (by omega), if_pos (by omega), show (2 + d * 3 - 2) / 3 = d by omega, show (2 + d * 3 - 2) % 3 = 0 by omega]; rfl
  · unfold Mac.cell
    rw [if_neg (by omega), if_neg (by omega), if_pos (by omega), show (2 + d * 3 + 1 - 2) / 3 = d by omega, show (2 + d * 3 + 1 - 2) % 3 = 1 by omega]; rfl
  · unfold Mac.cell
    rw [if_neg (by omega), if_neg (by omega), if_pos (by omega), show (2 + d * 3 + 2 - 2) / 3 = d by omega, show (2 + d * 3 + 2 - 2) % 3 = 2 by omega]; rfl
theorem Mac.cell_slot (m : Mac) (d : Nat) (hd : d < 16) : m.cell (35 + d * 3) = .int .i64 (m.slot d).k ∧ m.cell (35 + d * 3 + 1) = .int .i64 (m.slot d).n ∧ m.cell (35 + d * 3 + 2) = .int .i64 (m.slot d).c := by
  refine ⟨?_, ?_, ?_⟩
  · unfold Mac.cell
    rw [if_neg (by omega), if_neg (by omega), if_neg (by omega), if_pos (by omega), show (35 + d * 3 - 35) / 3 = d by omega, show (35 + d * 3 - 35) % 3 = 0 by omega]; rfl
  · unfold Mac.cell
    rw [if_neg (by omega), if_neg (by omega), if_neg (by omega), if_pos (by omega), show (35 + d * 3 + 1 - 35) / 3 = d by omega, show (35 + d * 3 + 1 - 35) % 3 = 1 by omega]; rfl
  · unfold Mac.cell
    rw [if_neg (by omega), if_neg (by omega), if_neg (by omega), if_pos (by omega), show (35 + d * 3 + 2 - 35) / 3 = d by omega, show (35 + d * 3 + 2 - 35) % 3 = 2 by omega]; rfl
theorem MacAt.reg {w : World} {B d : Nat} {m : Mac} (h : MacAt w B m) (hd : d < 11) : w.cell? ⟨B, 2 + d * 3, none⟩ = some (.int .i64 (m.reg d).k) ∧ w.cell? ⟨B, 2 + d * 3 + 1, none⟩ = some (.int .i64 (m.reg d).n) ∧ w.cell? ⟨B, 2 + d * 3 + 2, none⟩ = some (.int .i64 (m.reg d).c) :=
  ⟨by rw [h.at _ (by omega), (m.cell_reg d hd).1], by rw [h.at _ (by omega), (m.cell_reg d hd).2.1], by rw [h.at _ (by omega), (m.cell_reg d hd).2.2]⟩
def Mac.putReg (m : Mac) (d : Nat) (x : Val) : Mac := { m with reg := fun i => if i = d then x else m.reg i }
theorem Mac.cell_put (m : Mac) (d : Nat) (hd : d < 11) (y : Val) (j : Nat) : (m.putReg d y).cell j = if 2 + d * 3 ≤ j ∧ j < 2 + d * 3 + 3 then valCell y (j - (2 + d * 3)) else m.cell j := by
  by_cases h : 2 + d * 3 ≤ j ∧ j < 2 + d * 3 + 3
  · rw [if_pos h]
    unfold Mac.cell
    rw [if_neg (by omega), if_neg (by omega), if_pos (by omega), show (j - 2) / 3 = d by omega, show (j - 2) % 3 = j - (2 + d * 3) by omega]
    show valCell (if d = d then y else m.reg d) _ = _
    rw [if_pos rfl]
  · rw [if_neg h]
    by_cases h35 : 2 ≤ j ∧ j < 35
    · unfold Mac.cell
      rw [if_neg (show ¬ j = 0 by omega), if_neg (show ¬ j = 1 by omega), if_pos h35.2, if_neg (show ¬ j = 0 by omega), if_neg (show ¬ j = 1 by omega), if_pos h35.2]
      show valCell (if (j - 2) / 3 = d then y else m.reg ((j - 2) / 3)) _ = _
      rw [if_neg (by omega)]
    · by_cases h2 : j < 2
      · rcases (show j = 0 ∨ j = 1 by omega) with rfl | rfl <;> rfl
      · unfold Mac.cell
        rw [if_neg (show ¬ j = 0 by omega), if_neg (show ¬ j = 1 by omega), if_neg (show ¬ j < 35 by omega), if_neg (show ¬ j = 0 by omega), if_neg (show ¬ j = 1 by omega), if_neg (show ¬ j < 35 by omega)]
        rfl
theorem put_part (m : Mac) (d : Nat) (hd : d < 11) (y z : Val) (i : Nat) (hi : i < 3) (h : ∀ j, j < 3 → valCell z j = if j = i then valCell z i else valCell y j) : ∀ j, j < 109 → (m.putReg d z).cell j = if j = 2 + d * 3 + i then valCell z i else (m.putReg d y).cell j := by
  intro j _
  rw [m.cell_put d hd z j, m.cell_put d hd y j]
  by_cases hin : 2 + d * 3 ≤ j ∧ j < 2 + d * 3 + 3
  · rw [if_pos hin, if_pos hin, h _ (by omega)]
    by_cases e : j = 2 + d * 3 + i
    · rw [if_pos e, if_pos (by omega)]
    · rw [if_neg e, if_neg (by omega)]
  · rw [if_neg hin, if_neg hin, if_neg (by omega)]
theorem put_same (m : Mac) (d : Nat) : ∀ j, (m.putReg d (m.reg d)).cell j = m.cell j := by
  intro j
  have e : m.putReg d (m.reg d) = m := by
    unfold Mac.putReg
    have : (fun i => if i = d then m.reg d else m.reg i) = m.reg := by
      funext i
      by_cases h : i = d
      · rw [if_pos h, h]
      · rw [if_neg h]
    rw [this]
  rw [e]
/-- A register is written, cell by cell. -/
theorem MacAt.putReg {w : World} {B d : Nat} {m : Mac} (h : MacAt w B m) (hd : d < 11) (x : Val) : MacAt (((w.setCell ⟨B, 2 + d * 3, none⟩ (.int .i64 x.k)).setCell ⟨B, 2 + d * 3 + 1, none⟩ (.int .i64 x.n)).setCell ⟨B, 2 + d * 3 + 2, none⟩ (.int .i64 x.c)) B (m.putReg d x) := by
  have h1 : MacAt (w.setCell ⟨B, 2 + d * 3, none⟩ (.int .i64 x.k)) B (m.putReg d ⟨x.k, (m.reg d).n, (m.reg d).c⟩) := h.set _ (by omega) _ fun j hj => by
    have := put_part m d hd (m.reg d) ⟨x.k, (m.reg d).n, (m.reg d).c⟩ 0 (by omega) (fun j hj => by rcases (show j = 0 ∨ j = 1 ∨ j = 2 by omega) with rfl | rfl | rfl <;> rfl) j hj
    rw [this, put_same m d]; rfl
  have h2 : MacAt ((w.setCell ⟨B, 2 + d * 3, none⟩ (.int .i64 x.k)).setCell ⟨B, 2 + d * 3 + 1, none⟩ (.int .i64 x.n)) B (m.putReg d ⟨x.k, x.n, (m.reg d).c⟩) := h1.set _ (by omega) _ fun j hj =>
    put_part m d hd ⟨x.k, (m.reg d).n, (m.reg d).c⟩ ⟨x.k, x.n, (m.reg d).c⟩ 1 (by omega) (fun j hj => by rcases (show j = 0 ∨ j = 1 ∨ j = 2 by omega) with rfl | rfl | rfl <;> rfl) j hj
  exact h2.set _ (by omega) _ fun j hj =>
    put_part m d hd ⟨x.k, x.n, (m.reg d).c⟩ x 2 (by omega) (fun j hj => by rcases (show j = 0 ∨ j = 1 ∨ j = 2 by omega) with rfl | rfl | rfl <;> rfl) j hj
theorem second_reg (B d : Nat) (c a o n : Int) (m : Mac) (hd : d < 11) (w : World) (hM : MacAt w B m) :
    Calls Tryd.prog 116 #[.pointer (some ⟨B, 0, none⟩), .agg #[.int .i64 c, .int .i64 a, .int .i64 d, .bool true, .int .i64 o, .int .i64 n]] w fun e w' => e = .returned (m.reg d).v ∧ Below w.heap.size w w' := by
  have hB := hM.lt
  obtain ⟨h0, h1, h2⟩ := hM.reg hd
  go_enter Tryd.func116, Tryd.ntmps116
  go_wp2
  go_region
  all_goals go_wp2
  all_goals exact bodyPost_ret (v := (m.reg d).v) (by simp [results, Tryd.results116, go_sem, Val.v]) rfl ⟨rfl, (((Below.refl _ _).alloc (Nat.le_refl _) _).alloc (by simp) _).drew⟩
theorem second_num (B : Nat) (c a s o n : Int) (w : World) :
    Calls Tryd.prog 116 #[.pointer (some ⟨B, 0, none⟩), .agg #[.int .i64 c, .int .i64 a, .int .i64 s, .bool false, .int .i64 o, .int .i64 n]] w fun e w' => e = .returned (numF n).v ∧ Below w.heap.size w w' := by
  go_enter Tryd.func116, Tryd.ntmps116
  go_wp2_with (first
    | (go_at_call 118; refine (mnum_any n _).mono ?_; rintro e w1 ⟨rfl, hb1⟩; simp only [Val.v, numF]; obtain ⟨q0, q1, q2, z0, z1, z2, hl⟩ := zero_box hb1; simp only [World.size_alloc] at q0 q1 q2 z0 z1 z2 hl)
    | go_in)
  exact bodyPost_ret (v := (numF n).v) (by simp [results, Tryd.results116, go_sem, Val.v, numF, q0, q1, q2]) rfl
    ⟨rfl, ((((((Below.refl _ _).alloc (Nat.le_refl _) _).alloc (by simp) _).trans (hb1.mono (by simp; omega))).setCell (by show w.heap.size ≤ w.heap.size + 1; omega) _).setCell (by show w.heap.size ≤ w.heap.size + 1; omega) _).setCell (by show w.heap.size ≤ w.heap.size + 1; omega) _⟩
/-- What the second one of a step has. -/
def Mac.second (m : Mac) (s : Nat) (r : Bool) (n : Int) : Val := if r then m.reg s else numF n
theorem second_any (B s : Nat) (c a o n : Int) (r : Bool) (m : Mac) (hs : s < 11) (w : World) (hM : MacAt w B m) :
    Calls Tryd.prog 116 #[.pointer (some ⟨B, 0, none⟩), .agg #[.int .i64 c, .int .i64 a, .int .i64 s, .bool r, .int .i64 o, .int .i64 n]] w fun e w' => e = .returned (m.second s r n).v ∧ Below w.heap.size w w' := by
  cases r with
  | true => exact second_reg B s c a o n m hs w hM
  | false => exact second_num B c a s o n w
theorem makes_any (code : Int) (a b : Val) (k0 : -9223372036854775808 ≤ b.n) (k1 : b.n ≤ 9223372036854775807) (w : World) :
    Calls Tryd.prog 121 #[.int .i64 code, a.v, b.v] w fun e w' => e = .returned (.tuple #[(makesF code a b).1.v, .int .i64 (makesF code a b).2]) ∧ Below w.heap.size w w' := by
  obtain ⟨ak, an, ac⟩ := a
  obtain ⟨bk, bn, bc⟩ := b
  unfold makesF Val.v
  by_cases h0 : bk = 0
  · rw [if_pos (Or.inl h0)]; exact makes_bk0 code ak an ac bk bn bc w (by simpa using h0)
  by_cases h1 : ak = 0
  · by_cases h2 : code = 1
    · rw [if_neg (by simp [h0, h2]), if_pos h2]; exact makes_mova code ak an ac bk bn bc w (by simpa using h0) (by simpa using h1) (by simpa using h2) (by simp [h2])
    · rw [if_pos (Or.inr ⟨h1, h2⟩)]; exact makes_ak0 code ak an ac bk bn bc w (by simpa using h0) (by simpa using h1) (by simpa using h2)
  by_cases h2 : code = 1
  · rw [if_neg (by simp [h0, h1]), if_pos h2]; exact makes_movb code ak an ac bk bn bc w (by simpa using h0) (by simpa using h1) (by simpa using h2)
  rw [if_neg (by simp [h0, h1]), if_neg h2]
  by_cases h3 : bk = 1
  · by_cases h4 : ak = 1
    · rw [if_pos ⟨h3, Or.inl h4⟩]; exact makes_nums code ak an ac bk bn bc w k0 k1 (by simpa using h0) (by simpa using h1) (by simpa using h2) (by simpa using h3) (by simpa using h4)
    · by_cases h5 : code = 2
      · rw [if_pos ⟨h3, Or.inr (Or.inl h5)⟩]; exact makes_padd code ak an ac bk bn bc w k0 k1 (by simpa using h0) (by simpa using h1) (by simpa using h2) (by simpa using h3) (by simpa using h4) (by simpa using h5)
      · by_cases h6 : code = 3
        · rw [if_pos ⟨h3, Or.inr (Or.inr h6)⟩]; exact makes_psub code ak an ac bk bn bc w k0 k1 (by simpa using h0) (by simpa using h1) (by simpa using h2) (by simpa using h3) (by simpa using h4) (by simpa using h5) (by simpa using h6)
        · rw [if_neg (by simp [h4, h5, h6]), if_neg (by simp [h4])]; exact makes_pno code ak an ac bk bn bc w (by simpa using h0) (by simpa using h1) (by simpa using h2) (by simpa using h3) (by simpa using h4) (by simpa using h5) (by simpa using h6)
  · rw [if_neg (by simp [h3])]
    by_cases h4 : ak = 1
    · by_cases h5 : code = 2
      · rw [if_pos ⟨h4, h5⟩]; exact makes_nadd code ak an ac bk bn bc w k0 k1 (by simpa using h0) (by simpa using h1) (by simpa using h2) (by simpa using h3) (by simpa using h4) (by simpa using h5)
      · rw [if_neg (by simp [h5])]; exact makes_nno code ak an ac bk bn bc w (by simpa using h0) (by simpa using h1) (by simpa using h2) (by simpa using h3) (by simpa using h4) (by simpa using h5)
    · rw [if_neg (by simp [h4])]; exact makes_two code ak an ac bk bn bc w (by simpa using h0) (by simpa using h1) (by simpa using h2) (by simpa using h3) (by simpa using h4)
theorem reach_any (x : Val) (off : Int) (w : World) :
    Calls Tryd.prog 117 #[x.v, .int .i64 off] w fun e w' => e = .returned (.tuple #[.int .i64 (reachF x off).1, .int .i64 (reachF x off).2]) ∧ Below w.heap.size w w' := by
  obtain ⟨k, n, c⟩ := x
  unfold reachF Val.v
  by_cases h0 : k = 0
  · rw [if_pos h0]; exact reach_none k n c off w (by simpa using h0)
  by_cases h1 : k = 1
  · rw [if_neg h0, if_pos h1]; exact reach_num k n c off w (by simpa using h0) (by simpa using h1)
  rw [if_neg h0, if_neg h1]
  by_cases h2 : k = 2
  · have e1 : reachTo ⟨k, n, c⟩ off = wrap64 (n + off) := if_neg (by show ¬ k = 3; omega)
    have e2 : reachMax ⟨k, n, c⟩ = 8 := if_pos h2
    rw [e1, e2]
    by_cases l : wrap64 (n + off) < 0
    · rw [if_pos (Or.inl l)]; exact reach_told_low k n c off w (by simpa using h0) (by simpa using h1) (by simpa using h2) (by simpa using l)
    · by_cases g : 8 ≤ wrap64 (n + off)
      · rw [if_pos (Or.inr g)]; exact reach_told_high k n c off w (by simpa using h0) (by simpa using h1) (by simpa using h2) (by simpa using l) (by simpa using g)
      · rw [if_neg (by omega)]; exact reach_told_in k n c off w (by simpa using h0) (by simpa using h1) (by simpa using h2) (by simpa using l) (by simpa using g)
  by_cases h3 : k = 3
  · have e1 : reachTo ⟨k, n, c⟩ off = wrap64 (wrap64 (n + off) + 16) := if_pos h3
    have e2 : reachMax ⟨k, n, c⟩ = 16 := by unfold reachMax; rw [if_neg h2, if_pos h3]
    rw [e1, e2]
    by_cases l : wrap64 (wrap64 (n + off) + 16) < 0
    · rw [if_pos (Or.inl l)]; exact reach_frame_low k n c off w (by simpa using h0) (by simpa using h1) (by simpa using h2) (by simpa using h3) (by simpa using l)
    · by_cases g : 16 ≤ wrap64 (wrap64 (n + off) + 16)
      · rw [if_pos (Or.inr g)]; exact reach_frame_high k n c off w (by simpa using h0) (by simpa using h1) (by simpa using h2) (by simpa using h3) (by simpa using l) (by simpa using g)
      · rw [if_neg (by omega)]; exact reach_frame_in k n c off w (by simpa using h0) (by simpa using h1) (by simpa using h2) (by simpa using h3) (by simpa using l) (by simpa using g)
  have e1 : reachTo ⟨k, n, c⟩ off = wrap64 (n + off) := if_neg h3
  have e2 : reachMax ⟨k, n, c⟩ = 4 := by unfold reachMax; rw [if_neg h2, if_neg h3]
  rw [e1, e2]
  by_cases l : wrap64 (n + off) < 0
  · rw [if_pos (Or.inl l)]; exact reach_cell_low k n c off w (by simpa using h0) (by simpa using h1) (by simpa using h2) (by simpa using h3) (by simpa using l)
  · by_cases g : 4 ≤ wrap64 (n + off)
    · rw [if_pos (Or.inr g)]; exact reach_cell_high k n c off w (by simpa using h0) (by simpa using h1) (by simpa using h2) (by simpa using h3) (by simpa using l) (by simpa using g)
    · rw [if_neg (by omega)]; exact reach_cell_in k n c off w (by simpa using h0) (by simpa using h1) (by simpa using h2) (by simpa using h3) (by simpa using l) (by simpa using g)
theorem found_any (n : Int) (w : World) : Calls Tryd.prog 119 #[.int .i64 n] w fun e w' => e = .returned (foundF n).v ∧ Below w.heap.size w w' := by
  unfold foundF
  by_cases l : n < 0
  · rw [if_pos (Or.inl l)]; exact found_low n w (by simpa using l)
  · by_cases g : 4 ≤ n
    · rw [if_pos (Or.inr g)]; exact found_high n w (by simpa using l) (by simpa using g)
    · rw [if_neg (by omega)]; exact found_in n w (by simpa using l) (by simpa using g)
end Go.Proofs.YtegeiicginpdbaaDoor
