/-
  A program that runs, as the document's answer has it in memory. No conditions.
-/
import Derived.Test.YtegeiicginpdbaaDoorMachMem
namespace Go.Proofs.YtegeiicginpdbaaDoor
open Go.ChangeShapes Go.WideShapes Go.ChangeAt Go.RowKit
/-- The letter of a kind. -/
def kd (k : Int) : Int := if k = 0 then 0 else if k = 1 then 110 else if k = 2 then 116 else if k = 3 then 102 else 99
structure Dox where
  reg : Nat → Val
  slot : Nat → Val
  word : Nat → Int
  num : Int
  cel : Nat → Int
  out : Value
  steps : Int
  time : Int
/-- Its 27 values: registers, and slots behind them. -/
def Dox.v (m : Dox) (i : Nat) : Val := if i < 11 then m.reg i else m.slot (i - 11)
def kdCell (x : Val) (j : Nat) : Value := if j = 0 then .int .u8 (kd x.k) else if j = 1 then .int .i64 x.n else .int .i64 x.c
def Dox.cell (m : Dox) (i : Nat) : Value :=
  if i < 81 then kdCell (m.v (i / 3)) (i % 3)
  else if i < 89 then .int .i64 (m.word (i - 81))
  else if i = 89 then .int .i64 m.num
  else if i < 106 then .int .i64 (m.cel (i - 90))
  else if i = 106 then m.out
  else if i = 107 then .int .i64 m.steps
  else .int .i64 m.time
def DoxAt (w : World) (B : Nat) (m : Dox) : Prop := w.heap[B]? = some (.cells (Array.ofFn (n := 109) fun i => m.cell i.1) 111 (0, 0))
theorem DoxAt.lt {w : World} {B : Nat} {m : Dox} (h : DoxAt w B m) : B < w.heap.size := (Array.getElem?_eq_some_iff.1 h).1
theorem DoxAt.at {w : World} {B : Nat} {m : Dox} (h : DoxAt w B m) (i : Nat) (hi : i < 109) : w.cell? ⟨B, i, none⟩ = some (m.cell i) := by
  have h' : w.heap[B]? = some (.cells (Array.ofFn (n := 109) fun i => m.cell i.1) 111 (0, 0)) := h
  simp [World.cell?, h', hi]
theorem DoxAt.frozen {w : World} {B : Nat} {m : Dox} (h : DoxAt w B m) (i : Nat) : w.frozen? ⟨B, i, none⟩ = false := by
  have h' : w.heap[B]? = some (.cells (Array.ofFn (n := 109) fun i => m.cell i.1) 111 (0, 0)) := h
  simp [World.frozen?, h']
theorem DoxAt.later {w w1 : World} {B : Nat} {m : Dox} (h : DoxAt w B m) (hb : Below w.heap.size w w1) : DoxAt w1 B m := (hb.block B h.lt).trans h
theorem DoxAt.alloc {w : World} {B : Nat} {m : Dox} (h : DoxAt w B m) (o : Obj) : DoxAt (w.alloc o) B m := h.later ((Below.refl _ _).alloc (Nat.le_refl _) _)
theorem DoxAt.drew {w : World} {B : Nat} {m : Dox} (h : DoxAt w B m) : DoxAt w.drew B m := h
theorem DoxAt.drewN {w : World} {B : Nat} {m : Dox} (h : DoxAt w B m) (k : Nat) : DoxAt (w.drewN k) B m := h
theorem DoxAt.off {w : World} {B : Nat} {m : Dox} (h : DoxAt w B m) (a : Addr) (v : Value) (hne : B ≠ a.block) : DoxAt (w.setCell a v) B m := (Below.heap_setCell w a v B hne).trans h
theorem DoxAt.set {w : World} {B : Nat} {m m' : Dox} (h : DoxAt w B m) (i : Nat) (v : Value) (he : ∀ j, j < 109 → m'.cell j = if j = i then v else m.cell j) : DoxAt (w.setCell ⟨B, i, none⟩ v) B m' := by
  have h' : w.heap[B]? = some (.cells (Array.ofFn (n := 109) fun i => m.cell i.1) 111 (0, 0)) := h
  have e : (Array.ofFn (n := 109) fun i => m.cell i.1).setIfInBounds i v = Array.ofFn (n := 109) fun i => m'.cell i.1 := by
    apply Array.ext
    · simp
    · intro j h1 h2
      have h3 : j < 109 := by simpa using h2
      rw [Array.getElem_setIfInBounds (by simpa using h3), Array.getElem_ofFn, Array.getElem_ofFn]
      show (if i = j then v else m.cell j) = m'.cell j
      rw [he j h3]
      by_cases hj : i = j
      · rw [if_pos hj, if_pos hj.symm]
      · rw [if_neg hj, if_neg (fun e => hj e.symm)]
  unfold DoxAt
  rw [← e]
  simp [World.setCell, Array.getElem?_modify, h']
def Dox.putReg (m : Dox) (d : Nat) (x : Val) : Dox := { m with reg := fun i => if i = d then x else m.reg i }
def Dox.putSlot (m : Dox) (d : Nat) (x : Val) : Dox := { m with slot := fun i => if i = d then x else m.slot i }
def Dox.putV (m : Dox) (d : Nat) (x : Val) : Dox := if d < 11 then m.putReg d x else m.putSlot (d - 11) x
theorem Dox.putV_v (m : Dox) (d : Nat) (x : Val) (i : Nat) : (m.putV d x).v i = if i = d then x else m.v i := by
  unfold Dox.putV Dox.v
  by_cases hd : d < 11
  · rw [if_pos hd]
    by_cases hi : i < 11
    · rw [if_pos hi, if_pos hi]; rfl
    · rw [if_neg hi, if_neg hi, if_neg (by omega)]; rfl
  · rw [if_neg hd]
    by_cases hi : i < 11
    · rw [if_pos hi, if_pos hi, if_neg (by omega)]; rfl
    · rw [if_neg hi, if_neg hi]
      show (if i - 11 = d - 11 then x else m.slot (i - 11)) = _
      by_cases e : i = d
      · rw [if_pos e, if_pos (by omega)]
      · rw [if_neg e, if_neg (by omega)]
theorem Dox.putV_rest (m : Dox) (d : Nat) (x : Val) : (m.putV d x).word = m.word ∧ (m.putV d x).num = m.num ∧ (m.putV d x).cel = m.cel ∧ (m.putV d x).out = m.out ∧ (m.putV d x).steps = m.steps ∧ (m.putV d x).time = m.time := by
  unfold Dox.putV
  split <;> exact ⟨rfl, rfl, rfl, rfl, rfl, rfl⟩
def Dox.putCel (m : Dox) (t : Nat) (n : Int) : Dox := { m with cel := fun i => if i = t then n else m.cel i }
def Dox.setNum (m : Dox) (n : Int) : Dox := { m with num := n }
def Dox.setOut (m : Dox) (v : Value) : Dox := { m with out := v }
def Dox.setSteps (m : Dox) (n : Int) : Dox := { m with steps := n }
theorem Dox.cell_v (m : Dox) (d : Nat) (hd : d < 27) : m.cell (d * 3) = .int .u8 (kd (m.v d).k) ∧ m.cell (d * 3 + 1) = .int .i64 (m.v d).n ∧ m.cell (d * 3 + 2) = .int .i64 (m.v d).c := by
  refine ⟨?_, ?_, ?_⟩
  · unfold Dox.cell
    rw [if_pos (by omega), show d * 3 / 3 = d by omega, show d * 3 % 3 = 0 by omega]; rfl
  · unfold Dox.cell
    rw [if_pos (by omega), show (d * 3 + 1) / 3 = d by omega, show (d * 3 + 1) % 3 = 1 by omega]; rfl
  · unfold Dox.cell
    rw [if_pos (by omega), show (d * 3 + 2) / 3 = d by omega, show (d * 3 + 2) % 3 = 2 by omega]; rfl
theorem DoxAt.v {w : World} {B d : Nat} {m : Dox} (h : DoxAt w B m) (hd : d < 27) : w.cell? ⟨B, d * 3, none⟩ = some (.int .u8 (kd (m.v d).k)) ∧ w.cell? ⟨B, d * 3 + 1, none⟩ = some (.int .i64 (m.v d).n) ∧ w.cell? ⟨B, d * 3 + 2, none⟩ = some (.int .i64 (m.v d).c) :=
  ⟨by rw [h.at _ (by omega), (m.cell_v d hd).1], by rw [h.at _ (by omega), (m.cell_v d hd).2.1], by rw [h.at _ (by omega), (m.cell_v d hd).2.2]⟩
theorem DoxAt.word {w : World} {B d : Nat} {m : Dox} (h : DoxAt w B m) (hd : d < 8) : w.cell? ⟨B, 81 + d, none⟩ = some (.int .i64 (m.word d)) := by
  rw [h.at _ (by omega)]; unfold Dox.cell; rw [if_neg (by omega), if_pos (by omega), show 81 + d - 81 = d by omega]
theorem DoxAt.cel {w : World} {B d : Nat} {m : Dox} (h : DoxAt w B m) (hd : d < 16) : w.cell? ⟨B, 90 + d, none⟩ = some (.int .i64 (m.cel d)) := by
  rw [h.at _ (by omega)]; unfold Dox.cell; rw [if_neg (by omega), if_neg (by omega), if_neg (by omega), if_pos (by omega), show 90 + d - 90 = d by omega]
theorem DoxAt.num {w : World} {B : Nat} {m : Dox} (h : DoxAt w B m) : w.cell? ⟨B, 89, none⟩ = some (.int .i64 m.num) := h.at 89 (by omega)
theorem DoxAt.outv {w : World} {B : Nat} {m : Dox} (h : DoxAt w B m) : w.cell? ⟨B, 106, none⟩ = some m.out := h.at 106 (by omega)
theorem DoxAt.steps {w : World} {B : Nat} {m : Dox} (h : DoxAt w B m) : w.cell? ⟨B, 107, none⟩ = some (.int .i64 m.steps) := h.at 107 (by omega)
theorem DoxAt.time {w : World} {B : Nat} {m : Dox} (h : DoxAt w B m) : w.cell? ⟨B, 108, none⟩ = some (.int .i64 m.time) := h.at 108 (by omega)
theorem Dox.cell_putV (m : Dox) (d : Nat) (hd : d < 27) (y : Val) (j : Nat) : (m.putV d y).cell j = if d * 3 ≤ j ∧ j < d * 3 + 3 then kdCell y (j - d * 3) else m.cell j := by
  by_cases h : d * 3 ≤ j ∧ j < d * 3 + 3
  · rw [if_pos h]
    unfold Dox.cell
    rw [if_pos (by omega), show j / 3 = d by omega, show j % 3 = j - d * 3 by omega]
    rw [m.putV_v, if_pos rfl]
  · rw [if_neg h]
    unfold Dox.cell
    obtain ⟨e1, e2, e3, e4, e5, e6⟩ := m.putV_rest d y
    by_cases h81 : j < 81
    · rw [if_pos h81, if_pos h81, m.putV_v, if_neg (by omega)]
    · rw [if_neg h81, if_neg h81, e1, e2, e3, e4, e5, e6]
theorem Dox.putV_part (m : Dox) (d : Nat) (hd : d < 27) (y z : Val) (i : Nat) (hi : i < 3) (h : ∀ j, j < 3 → kdCell z j = if j = i then kdCell z i else kdCell y j) : ∀ j, j < 109 → (m.putV d z).cell j = if j = d * 3 + i then kdCell z i else (m.putV d y).cell j := by
  intro j _
  rw [m.cell_putV d hd z j, m.cell_putV d hd y j]
  by_cases hin : d * 3 ≤ j ∧ j < d * 3 + 3
  · rw [if_pos hin, if_pos hin, h _ (by omega)]
    by_cases e : j = d * 3 + i
    · rw [if_pos e, if_pos (by omega)]
    · rw [if_neg e, if_neg (by omega)]
  · rw [if_neg hin, if_neg hin, if_neg (by omega)]
theorem Dox.put_same (m : Dox) (d : Nat) : m.putV d (m.v d) = m := by
  unfold Dox.putV Dox.v
  by_cases hd : d < 11
  · rw [if_pos hd, if_pos hd]
    unfold Dox.putReg
    have : (fun i => if i = d then m.reg d else m.reg i) = m.reg := by
      funext i
      by_cases h : i = d
      · rw [if_pos h, h]
      · rw [if_neg h]
    rw [this]
  · rw [if_neg hd, if_neg hd]
    unfold Dox.putSlot
    have : (fun i => if i = d - 11 then m.slot (d - 11) else m.slot i) = m.slot := by
      funext i
      by_cases h : i = d - 11
      · rw [if_pos h, h]
      · rw [if_neg h]
    rw [this]
/-- The number of a value alone is written. -/
theorem DoxAt.putN {w : World} {B d : Nat} {m : Dox} (h : DoxAt w B m) (hd : d < 27) (n : Int) : DoxAt (w.setCell ⟨B, d * 3 + 1, none⟩ (.int .i64 n)) B (m.putV d ⟨(m.v d).k, n, (m.v d).c⟩) :=
  h.set _ _ fun j hj => by
    have := m.putV_part d hd (m.v d) ⟨(m.v d).k, n, (m.v d).c⟩ 1 (by omega) (fun j hj => by rcases (show j = 0 ∨ j = 1 ∨ j = 2 by omega) with rfl | rfl | rfl <;> rfl) j hj
    rw [this, m.put_same d]; rfl
theorem DoxAt.put3 {w : World} {B d : Nat} {m : Dox} (h : DoxAt w B m) (hd : d < 27) (k n c : Int) : DoxAt (((w.setCell ⟨B, d * 3, none⟩ (.int .u8 (kd k))).setCell ⟨B, d * 3 + 1, none⟩ (.int .i64 n)).setCell ⟨B, d * 3 + 2, none⟩ (.int .i64 c)) B (m.putV d ⟨k, n, c⟩) := by
  have h1 : DoxAt (w.setCell ⟨B, d * 3, none⟩ (.int .u8 (kd k))) B (m.putV d ⟨k, (m.v d).n, (m.v d).c⟩) := h.set _ _ fun j hj => by
    have := m.putV_part d hd (m.v d) ⟨k, (m.v d).n, (m.v d).c⟩ 0 (by omega) (fun j hj => by rcases (show j = 0 ∨ j = 1 ∨ j = 2 by omega) with rfl | rfl | rfl <;> rfl) j hj
    rw [this, m.put_same d]; rfl
  have h2 : DoxAt ((w.setCell ⟨B, d * 3, none⟩ (.int .u8 (kd k))).setCell ⟨B, d * 3 + 1, none⟩ (.int .i64 n)) B (m.putV d ⟨k, n, (m.v d).c⟩) := h1.set _ _ fun j hj =>
    m.putV_part d hd ⟨k, (m.v d).n, (m.v d).c⟩ ⟨k, n, (m.v d).c⟩ 1 (by omega) (fun j hj => by rcases (show j = 0 ∨ j = 1 ∨ j = 2 by omega) with rfl | rfl | rfl <;> rfl) j hj
  exact h2.set _ _ fun j hj =>
    m.putV_part d hd ⟨k, n, (m.v d).c⟩ ⟨k, n, c⟩ 2 (by omega) (fun j hj => by rcases (show j = 0 ∨ j = 1 ∨ j = 2 by omega) with rfl | rfl | rfl <;> rfl) j hj
theorem DoxAt.cel1 {w : World} {B d : Nat} {m : Dox} (h : DoxAt w B m) (hd : d < 16) (n : Int) : DoxAt (w.setCell ⟨B, 90 + d, none⟩ (.int .i64 n)) B (m.putCel d n) :=
  h.set _ _ fun j hj => by
    unfold Dox.cell
    by_cases e : j = 90 + d
    · rw [if_pos e, if_neg (by omega), if_neg (by omega), if_neg (by omega), if_pos (by omega), show j - 90 = d by omega]
      show Value.int .i64 (if d = d then n else m.cel d) = _
      rw [if_pos rfl]
    · rw [if_neg e]
      by_cases h0 : j < 81
      · rw [if_pos h0, if_pos h0]; rfl
      by_cases h1 : j < 89
      · rw [if_neg h0, if_pos h1, if_neg h0, if_pos h1]; rfl
      by_cases h2 : j = 89
      · rw [if_neg h0, if_neg h1, if_pos h2, if_neg h0, if_neg h1, if_pos h2]; rfl
      by_cases h3 : j < 106
      · rw [if_neg h0, if_neg h1, if_neg h2, if_pos h3, if_neg h0, if_neg h1, if_neg h2, if_pos h3]
        show Value.int .i64 (if j - 90 = d then n else m.cel (j - 90)) = _
        rw [if_neg (by omega)]
      · rw [if_neg h0, if_neg h1, if_neg h2, if_neg h3, if_neg h0, if_neg h1, if_neg h2, if_neg h3]; rfl
theorem Dox.cell_low (m : Dox) {j : Nat} (h : j < 106) (hn : j ≠ 89) (v : Value) (n s : Int) : ({ m with num := n, out := v, steps := s } : Dox).cell j = m.cell j := by
  unfold Dox.cell
  by_cases h0 : j < 81
  · rw [if_pos h0, if_pos h0]; rfl
  by_cases h1 : j < 89
  · rw [if_neg h0, if_pos h1, if_neg h0, if_pos h1]
  rw [if_neg h0, if_neg h1, if_neg hn, if_pos h, if_neg h0, if_neg h1, if_neg hn, if_pos h]
theorem DoxAt.putOut {w : World} {B : Nat} {m : Dox} (h : DoxAt w B m) (v : Value) : DoxAt (w.setCell ⟨B, 106, none⟩ v) B (m.setOut v) :=
  h.set 106 v fun j hj => by
    by_cases e : j = 106
    · rw [if_pos e, e]; rfl
    rw [if_neg e]
    by_cases h89 : j = 89
    · rw [h89]; rfl
    by_cases h1 : j < 106
    · exact m.cell_low h1 h89 v m.num m.steps
    rcases (show j = 107 ∨ j = 108 by omega) with rfl | rfl <;> rfl
theorem DoxAt.putSteps {w : World} {B : Nat} {m : Dox} (h : DoxAt w B m) (n : Int) : DoxAt (w.setCell ⟨B, 107, none⟩ (.int .i64 n)) B (m.setSteps n) :=
  h.set 107 _ fun j hj => by
    by_cases e : j = 107
    · rw [if_pos e, e]; rfl
    rw [if_neg e]
    by_cases h89 : j = 89
    · rw [h89]; rfl
    by_cases h1 : j < 106
    · exact m.cell_low h1 h89 m.out m.num n
    rcases (show j = 106 ∨ j = 108 by omega) with rfl | rfl <;> rfl
theorem DoxAt.putNum {w : World} {B : Nat} {m : Dox} (h : DoxAt w B m) (n : Int) : DoxAt (w.setCell ⟨B, 89, none⟩ (.int .i64 n)) B (m.setNum n) :=
  h.set 89 _ fun j hj => by
    by_cases e : j = 89
    · rw [if_pos e, e]; rfl
    rw [if_neg e]
    by_cases h1 : j < 106
    · exact m.cell_low h1 e m.out n m.steps
    rcases (show j = 106 ∨ j = 107 ∨ j = 108 by omega) with rfl | rfl | rfl <;> rfl
/-- What the document's has, as a plain machine. -/
def Dox.abs (m : Dox) (L : List Int) : Abs := ⟨m.reg, m.slot, m.word, m.cel, m.time, L⟩
theorem Dox.v_reg (m : Dox) {d : Nat} (h : d < 11) : m.v d = m.reg d := if_pos h
theorem Dox.v_slot (m : Dox) {d : Nat} : m.v (11 + d) = m.slot d := by unfold Dox.v; rw [if_neg (by omega), show 11 + d - 11 = d by omega]
theorem Dox.putV_reg (m : Dox) {d : Nat} (h : d < 11) (x : Val) : m.putV d x = m.putReg d x := if_pos h
theorem Dox.putV_slot (m : Dox) {d : Nat} (x : Val) : m.putV (11 + d) x = m.putSlot d x := by unfold Dox.putV; rw [if_neg (by omega), show 11 + d - 11 = d by omega]
end Go.Proofs.YtegeiicginpdbaaDoor
