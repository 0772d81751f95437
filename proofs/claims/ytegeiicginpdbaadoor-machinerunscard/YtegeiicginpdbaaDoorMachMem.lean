/-
  A program that runs, as it lies in memory, over what else is made and written: small laws, each for one step of a world. No conditions.
-/
import Derived.Test.YtegeiicginpdbaaDoorMach3
import Derived.Test.YtegeiicginpdbaaDoorMachAbs
namespace Go.Proofs.YtegeiicginpdbaaDoor
open Go.ChangeShapes Go.WideShapes Go.ChangeAt Go.RowKit
theorem MacAt.alloc {w : World} {B : Nat} {m : Mac} (h : MacAt w B m) (o : Obj) : MacAt (w.alloc o) B m := h.later ((Below.refl _ _).alloc (Nat.le_refl _) _)
theorem MacAt.drew {w : World} {B : Nat} {m : Mac} (h : MacAt w B m) : MacAt w.drew B m := h
theorem MacAt.drewN {w : World} {B : Nat} {m : Mac} (h : MacAt w B m) (k : Nat) : MacAt (w.drewN k) B m := h
theorem MacAt.off {w : World} {B : Nat} {m : Mac} (h : MacAt w B m) (a : Addr) (v : Value) (hne : B ≠ a.block) : MacAt (w.setCell a v) B m := (Below.heap_setCell w a v B hne).trans h
theorem MacAt.put3 {w : World} {B d : Nat} {m : Mac} (h : MacAt w B m) (hd : d < 11) (k n c : Int) : MacAt (((w.setCell ⟨B, 2 + d * 3, none⟩ (.int .i64 k)).setCell ⟨B, 2 + d * 3 + 1, none⟩ (.int .i64 n)).setCell ⟨B, 2 + d * 3 + 2, none⟩ (.int .i64 c)) B (m.putReg d ⟨k, n, c⟩) := h.putReg hd ⟨k, n, c⟩
theorem drew_below {W w1 : World} (h : Below W.drew.heap.size W.drew w1) : Below W.heap.size W w1 := ((Below.refl _ _).drew).trans h
theorem kept_refl (B : Nat) (w : World) : Kept B w w := ⟨rfl, rfl, rfl, Nat.le_refl _, fun _ _ _ => rfl⟩
theorem kept_alloc {w w1 : World} {B : Nat} (h : Kept B w w1) (o : Obj) : Kept B w (w1.alloc o) := kept_trans h (kept_below ((Below.refl _ _).alloc (Nat.le_refl _) _) B)
theorem kept_new {w w1 : World} {B : Nat} (h : Kept B w w1) (a : Addr) (v : Value) (ha : w.heap.size ≤ a.block) : Kept B w (w1.setCell a v) :=
  ⟨h.os, h.tape, h.output, by show w.heap.size ≤ (w1.heap.modify _ _).size; rw [Array.size_modify]; exact h.size, fun k hk hne => (Below.heap_setCell w1 a v k (by omega)).trans (h.block k hk hne)⟩
theorem kept_later {w w1 w2 : World} {B : Nat} (h : Kept B w w1) (hb : Below w1.heap.size w1 w2) : Kept B w w2 := kept_trans h (kept_below hb B)
/-- What lies below block B is as it was. -/
theorem kept_under {w w1 : World} {B : Nat} (h : Kept B w w1) (hB : B < w.heap.size) : Below B w w1 :=
  ⟨h.os, h.tape, h.output, h.size, fun k hk => h.block k (by omega) (fun e => by injection e with e; omega)⟩
/-- What was given out, as it lies behind block B. -/
def OutAt (w : World) (B : Nat) (v : Value) (L : List Int) : Prop := w.ownsRow (B + 1) 2 1 v L.length (L.map (Value.int .i64))
theorem OutAt.kept {w w1 : World} {B : Nat} {v : Value} {L : List Int} (h : OutAt w B v L) (hk : Kept B w w1) : OutAt w1 B v L := by
  obtain ⟨h1, h2⟩ := h
  refine ⟨h1, ?_⟩
  rcases h2 with h2 | ⟨g, cap, cur, hv, hg, hh, r⟩
  · exact Or.inl h2
  · exact Or.inr ⟨g, cap, cur, hv, hg, by rw [hk.block g (Array.getElem?_eq_some_iff.1 hh).1 (fun e => by injection e with e; omega)]; exact hh, r⟩
def Mac.abs (m : Mac) (L : List Int) : Abs := ⟨m.reg, m.slot, m.word, m.cel, m.time, L⟩
theorem Mac.cell_word (m : Mac) (i : Nat) (h : i < 8) : m.cell (83 + i) = .int .i64 (m.word i) := by
  unfold Mac.cell
  rw [if_neg (by omega), if_neg (by omega), if_neg (by omega), if_neg (by omega), if_pos (by omega), show 83 + i - 83 = i by omega]
theorem Mac.cell_cel (m : Mac) (i : Nat) (h : i < 16) : m.cell (91 + i) = .int .i64 (m.cel i) := by
  unfold Mac.cell
  rw [if_neg (by omega), if_neg (by omega), if_neg (by omega), if_neg (by omega), if_neg (by omega), if_pos (by omega), show 91 + i - 91 = i by omega]
def Mac.putSlot (m : Mac) (t : Nat) (x : Val) : Mac := { m with slot := fun i => if i = t then x else m.slot i }
def Mac.putCel (m : Mac) (t : Nat) (n : Int) : Mac := { m with cel := fun i => if i = t then n else m.cel i }
def Mac.setOut (m : Mac) (v : Value) : Mac := { m with out := v }
def Mac.setStep (m : Mac) (x : Int) : Mac := { m with step := x }
def Mac.setSteps (m : Mac) (x : Int) : Mac := { m with steps := x }
theorem Mac.cell_putSlot (m : Mac) (d : Nat) (hd : d < 16) (y : Val) (j : Nat) : (m.putSlot d y).cell j = if 35 + d * 3 ≤ j ∧ j < 35 + d * 3 + 3 then valCell y (j - (35 + d * 3)) else m.cell j := by
  by_cases h : 35 + d * 3 ≤ j ∧ j < 35 + d * 3 + 3
  · rw [if_pos h]
    unfold Mac.cell
    rw [if_neg (by omega), if_neg (by omega), if_neg (by omega), if_pos (by omega), show (j - 35) / 3 = d by omega, show (j - 35) % 3 = j - (35 + d * 3) by omega]
    show valCell (if d = d then y else m.slot d) _ = _
    rw [if_pos rfl]
  · rw [if_neg h]
    by_cases h35 : 35 ≤ j ∧ j < 83
    · unfold Mac.cell
      rw [if_neg (show ¬ j = 0 by omega), if_neg (show ¬ j = 1 by omega), if_neg (show ¬ j < 35 by omega), if_pos h35.2, if_neg (show ¬ j = 0 by omega), if_neg (show ¬ j = 1 by omega), if_neg (show ¬ j < 35 by omega), if_pos h35.2]
      show valCell (if (j - 35) / 3 = d then y else m.slot ((j - 35) / 3)) _ = _
      rw [if_neg (by omega)]
    · by_cases h2 : j < 35
      · unfold Mac.cell
        by_cases h0 : j = 0
        · rw [if_pos h0, if_pos h0]; rfl
        by_cases h1 : j = 1
        · rw [if_neg h0, if_pos h1, if_neg h0, if_pos h1]; rfl
        rw [if_neg h0, if_neg h1, if_pos h2, if_neg h0, if_neg h1, if_pos h2]; rfl
      · unfold Mac.cell
        rw [if_neg (show ¬ j = 0 by omega), if_neg (show ¬ j = 1 by omega), if_neg (show ¬ j < 35 by omega), if_neg (show ¬ j < 83 by omega), if_neg (show ¬ j = 0 by omega), if_neg (show ¬ j = 1 by omega), if_neg (show ¬ j < 35 by omega), if_neg (show ¬ j < 83 by omega)]
        rfl
theorem Mac.cell_putCel (m : Mac) (d : Nat) (hd : d < 16) (y : Int) (j : Nat) : (m.putCel d y).cell j = if j = 91 + d then .int .i64 y else m.cell j := by
  by_cases h : j = 91 + d
  · rw [if_pos h]
    unfold Mac.cell
    rw [if_neg (by omega), if_neg (by omega), if_neg (by omega), if_neg (by omega), if_neg (by omega), if_pos (by omega), show j - 91 = d by omega]
    show Value.int .i64 (if d = d then y else m.cel d) = _
    rw [if_pos rfl]
  · rw [if_neg h]
    by_cases h91 : 91 ≤ j ∧ j < 107
    · unfold Mac.cell
      rw [if_neg (show ¬ j = 0 by omega), if_neg (show ¬ j = 1 by omega), if_neg (show ¬ j < 35 by omega), if_neg (show ¬ j < 83 by omega), if_neg (show ¬ j < 91 by omega), if_pos h91.2, if_neg (show ¬ j = 0 by omega), if_neg (show ¬ j = 1 by omega), if_neg (show ¬ j < 35 by omega), if_neg (show ¬ j < 83 by omega), if_neg (show ¬ j < 91 by omega), if_pos h91.2]
      show Value.int .i64 (if j - 91 = d then y else m.cel (j - 91)) = _
      rw [if_neg (by omega)]
    · unfold Mac.cell
      by_cases h0 : j = 0
      · rw [if_pos h0, if_pos h0]; rfl
      by_cases h1 : j = 1
      · rw [if_neg h0, if_pos h1, if_neg h0, if_pos h1]; rfl
      by_cases h2 : j < 35
      · rw [if_neg h0, if_neg h1, if_pos h2, if_neg h0, if_neg h1, if_pos h2]; rfl
      by_cases h3 : j < 83
      · rw [if_neg h0, if_neg h1, if_neg h2, if_pos h3, if_neg h0, if_neg h1, if_neg h2, if_pos h3]; rfl
      by_cases h4 : j < 91
      · rw [if_neg h0, if_neg h1, if_neg h2, if_neg h3, if_pos h4, if_neg h0, if_neg h1, if_neg h2, if_neg h3, if_pos h4]; rfl
      · rw [if_neg h0, if_neg h1, if_neg h2, if_neg h3, if_neg h4, if_neg (show ¬ j < 107 by omega), if_neg h0, if_neg h1, if_neg h2, if_neg h3, if_neg h4, if_neg (show ¬ j < 107 by omega)]; rfl
theorem slot_part (m : Mac) (d : Nat) (hd : d < 16) (y z : Val) (i : Nat) (hi : i < 3) (h : ∀ j, j < 3 → valCell z j = if j = i then valCell z i else valCell y j) : ∀ j, j < 109 → (m.putSlot d z).cell j = if j = 35 + d * 3 + i then valCell z i else (m.putSlot d y).cell j := by
  intro j _
  rw [m.cell_putSlot d hd z j, m.cell_putSlot d hd y j]
  by_cases hin : 35 + d * 3 ≤ j ∧ j < 35 + d * 3 + 3
  · rw [if_pos hin, if_pos hin, h _ (by omega)]
    by_cases e : j = 35 + d * 3 + i
    · rw [if_pos e, if_pos (by omega)]
    · rw [if_neg e, if_neg (by omega)]
  · rw [if_neg hin, if_neg hin, if_neg (by omega)]
theorem slot_same (m : Mac) (d : Nat) : m.putSlot d (m.slot d) = m := by
  unfold Mac.putSlot
  have : (fun i => if i = d then m.slot d else m.slot i) = m.slot := by
    funext i
    by_cases h : i = d
    · rw [if_pos h, h]
    · rw [if_neg h]
  rw [this]
theorem MacAt.slot3 {w : World} {B d : Nat} {m : Mac} (h : MacAt w B m) (hd : d < 16) (k n c : Int) : MacAt (((w.setCell ⟨B, 35 + d * 3, none⟩ (.int .i64 k)).setCell ⟨B, 35 + d * 3 + 1, none⟩ (.int .i64 n)).setCell ⟨B, 35 + d * 3 + 2, none⟩ (.int .i64 c)) B (m.putSlot d ⟨k, n, c⟩) := by
  have h1 : MacAt (w.setCell ⟨B, 35 + d * 3, none⟩ (.int .i64 k)) B (m.putSlot d ⟨k, (m.slot d).n, (m.slot d).c⟩) := h.set _ (by omega) _ fun j hj => by
    have := slot_part m d hd (m.slot d) ⟨k, (m.slot d).n, (m.slot d).c⟩ 0 (by omega) (fun j hj => by rcases (show j = 0 ∨ j = 1 ∨ j = 2 by omega) with rfl | rfl | rfl <;> rfl) j hj
    rw [this, slot_same m d]; rfl
  have h2 : MacAt ((w.setCell ⟨B, 35 + d * 3, none⟩ (.int .i64 k)).setCell ⟨B, 35 + d * 3 + 1, none⟩ (.int .i64 n)) B (m.putSlot d ⟨k, n, (m.slot d).c⟩) := h1.set _ (by omega) _ fun j hj =>
    slot_part m d hd ⟨k, (m.slot d).n, (m.slot d).c⟩ ⟨k, n, (m.slot d).c⟩ 1 (by omega) (fun j hj => by rcases (show j = 0 ∨ j = 1 ∨ j = 2 by omega) with rfl | rfl | rfl <;> rfl) j hj
  exact h2.set _ (by omega) _ fun j hj =>
    slot_part m d hd ⟨k, n, (m.slot d).c⟩ ⟨k, n, c⟩ 2 (by omega) (fun j hj => by rcases (show j = 0 ∨ j = 1 ∨ j = 2 by omega) with rfl | rfl | rfl <;> rfl) j hj
theorem MacAt.cel1 {w : World} {B d : Nat} {m : Mac} (h : MacAt w B m) (hd : d < 16) (n : Int) : MacAt (w.setCell ⟨B, 91 + d, none⟩ (.int .i64 n)) B (m.putCel d n) :=
  h.set _ (by omega) _ fun j _ => m.cell_putCel d hd n j
theorem MacAt.slot {w : World} {B d : Nat} {m : Mac} (h : MacAt w B m) (hd : d < 16) : w.cell? ⟨B, 35 + d * 3, none⟩ = some (.int .i64 (m.slot d).k) ∧ w.cell? ⟨B, 35 + d * 3 + 1, none⟩ = some (.int .i64 (m.slot d).n) ∧ w.cell? ⟨B, 35 + d * 3 + 2, none⟩ = some (.int .i64 (m.slot d).c) :=
  ⟨by rw [h.at _ (by omega), (m.cell_slot d hd).1], by rw [h.at _ (by omega), (m.cell_slot d hd).2.1], by rw [h.at _ (by omega), (m.cell_slot d hd).2.2]⟩
theorem MacAt.word {w : World} {B d : Nat} {m : Mac} (h : MacAt w B m) (hd : d < 8) : w.cell? ⟨B, 83 + d, none⟩ = some (.int .i64 (m.word d)) := by rw [h.at _ (by omega), m.cell_word d hd]
theorem MacAt.cel {w : World} {B d : Nat} {m : Mac} (h : MacAt w B m) (hd : d < 16) : w.cell? ⟨B, 91 + d, none⟩ = some (.int .i64 (m.cel d)) := by rw [h.at _ (by omega), m.cell_cel d hd]
theorem MacAt.step {w : World} {B : Nat} {m : Mac} (h : MacAt w B m) : w.cell? ⟨B, 0, none⟩ = some (.int .i64 m.step) := h.at 0 (by omega)
theorem MacAt.steps {w : World} {B : Nat} {m : Mac} (h : MacAt w B m) : w.cell? ⟨B, 1, none⟩ = some (.int .i64 m.steps) := h.at 1 (by omega)
theorem MacAt.time {w : World} {B : Nat} {m : Mac} (h : MacAt w B m) : w.cell? ⟨B, 107, none⟩ = some (.int .i64 m.time) := h.at 107 (by omega)
theorem MacAt.outv {w : World} {B : Nat} {m : Mac} (h : MacAt w B m) : w.cell? ⟨B, 108, none⟩ = some m.out := h.at 108 (by omega)
theorem MacAt.putOut {w : World} {B : Nat} {m : Mac} (h : MacAt w B m) (v : Value) : MacAt (w.setCell ⟨B, 108, none⟩ v) B (m.setOut v) :=
  h.set 108 (by omega) v fun j hj => by
    by_cases e : j = 108
    · rw [if_pos e, e]; rfl
    · rw [if_neg e]
      unfold Mac.cell
      by_cases h0 : j = 0
      · rw [if_pos h0, if_pos h0]; rfl
      by_cases h1 : j = 1
      · rw [if_neg h0, if_pos h1, if_neg h0, if_pos h1]; rfl
      by_cases h2 : j < 35
      · rw [if_neg h0, if_neg h1, if_pos h2, if_neg h0, if_neg h1, if_pos h2]; rfl
      by_cases h3 : j < 83
      · rw [if_neg h0, if_neg h1, if_neg h2, if_pos h3, if_neg h0, if_neg h1, if_neg h2, if_pos h3]; rfl
      by_cases h4 : j < 91
      · rw [if_neg h0, if_neg h1, if_neg h2, if_neg h3, if_pos h4, if_neg h0, if_neg h1, if_neg h2, if_neg h3, if_pos h4]; rfl
      by_cases h5 : j < 107
      · rw [if_neg h0, if_neg h1, if_neg h2, if_neg h3, if_neg h4, if_pos h5, if_neg h0, if_neg h1, if_neg h2, if_neg h3, if_neg h4, if_pos h5]; rfl
      rw [if_neg h0, if_neg h1, if_neg h2, if_neg h3, if_neg h4, if_neg h5, if_pos (by omega), if_neg h0, if_neg h1, if_neg h2, if_neg h3, if_neg h4, if_neg h5, if_pos (by omega)]; rfl
theorem MacAt.putStep {w : World} {B : Nat} {m : Mac} (h : MacAt w B m) (x : Int) : MacAt (w.setCell ⟨B, 0, none⟩ (.int .i64 x)) B (m.setStep x) :=
  h.set 0 (by omega) _ fun j hj => by
    by_cases e : j = 0
    · rw [if_pos e, e]; rfl
    · rw [if_neg e]; unfold Mac.cell; rw [if_neg e, if_neg e]; rfl
theorem MacAt.putSteps {w : World} {B : Nat} {m : Mac} (h : MacAt w B m) (x : Int) : MacAt (w.setCell ⟨B, 1, none⟩ (.int .i64 x)) B (m.setSteps x) :=
  h.set 1 (by omega) _ fun j hj => by
    by_cases e : j = 1
    · rw [if_pos e, e]; rfl
    · rw [if_neg e]; unfold Mac.cell
      by_cases h0 : j = 0
      · rw [if_pos h0, if_pos h0]; rfl
      · rw [if_neg h0, if_neg e, if_neg h0, if_neg e]; rfl
end Go.Proofs.YtegeiicginpdbaaDoor
