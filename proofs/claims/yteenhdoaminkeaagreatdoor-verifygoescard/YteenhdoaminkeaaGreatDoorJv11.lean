/-
 What the document's own BoundDoes returns at Mul, where all ends are small: the same function on integers; the world below is as it was. Conditions: the ends are numbers of 64 bits, the low end not above the high one; the document's variable of all numbers holds them. What the document's own BoundDoes returns at Mul: the same function on integers; the world below is as it was. Conditions: the ends are numbers of 64 bits, the low end not above the high one; the document's variable of all numbers holds them.
-/
import Derived.Test.YteenhdoaminkeaaGreatDoorJv10
import Derived.Test.YteenhdoaminkeaaGreatDoorJv5
import Derived.Deep.RegionHeld3
set_option maxHeartbeats 40000000
open Go.Value renaming int → vI
open Go.IntKind renaming i64 → vK
open Go.RowKit.Below renaming alloc → bA, setCell → bS, drew → bD, refl → bF
set_option maxRecDepth 1000000
set_option linter.defProp false
set_option linter.unusedVariables false
set_option linter.unusedSimpArgs false
namespace Go.Proofs.YteenhdoaminkeaaGreatDoor
open Go.ChangeShapes Go.WideShapes Go.ChangeAt Go.RowKit
set_option linter.unusedVariables false
def zUc (p q r s : Int) (k : Nat) (lo hi : Int) : Prop :=
 (k = 0 ∧ lo = p ∧ hi = p) ∨ (k = 1 ∧ lo = p ∧ hi = p) ∨ (k = 2 ∧ lo = min p q ∧ hi = max p q) ∨ (k = 3 ∧ lo = min (min p q) r ∧ hi = max (max p q) r) ∨ (k = 4 ∧ lo = min (min (min p q) r) s ∧ hi = max (max (max p q) r) s)
def Four (n : Nat) (p q r s : Int) (w : World) : Prop :=
 n < w.heap.size ∧ w.cell? ⟨n, 0, none⟩ = some (vI vK p) ∧ w.cell? ⟨n, 1, none⟩ = some (vI vK q) ∧ w.cell? ⟨n, 2, none⟩ = some (vI vK r) ∧ w.cell? ⟨n, 3, none⟩ = some (vI vK s)
theorem Four.later {n : Nat} {p q r s : Int} {W w1 : World} (h : Four n p q r s W) (hb : Below W.heap.size W w1) : Four n p q r s w1 := by
 obtain ⟨h0, a0, a1, a2, a3⟩ := h
 have hs := hb.size
 exact ⟨by omega, (hb.cell (p := ⟨n, 0, none⟩) h0).trans a0, (hb.cell (p := ⟨n, 1, none⟩) h0).trans a1, (hb.cell (p := ⟨n, 2, none⟩) h0).trans a2, (hb.cell (p := ⟨n, 3, none⟩) h0).trans a3⟩
theorem Four.drew {n : Nat} {p q r s : Int} {W : World} (h : Four n p q r s W) : Four n p q r s W.drew := h
theorem Four.put {n m : Nat} {p q r s x y : Int} {W : World} (h : Four n p q r s W) (hmn : m ≠ n) : Four n p q r s ((W.setCell ⟨m, 0, none⟩ (vI vK x)).setCell ⟨m, 1, none⟩ (vI vK y)) := by
 obtain ⟨h0, a0, a1, a2, a3⟩ := h
 refine ⟨by simp [World.setCell]; exact h0, ?_, ?_, ?_, ?_⟩ <;> simp [go_sem, *]

theorem z26 (n : Int) (w : World) : Calls Tryz.prog 8 #[vI vK n] w fun e w' => e = .returned (.agg #[vI vK n, vI vK n]) ∧ Below w.heap.size w w' :=
 (z43 n w).mono fun _ _ h => ⟨h.1, by rw [h.2]; exact (bF _ _).alloc (Nat.le_refl _) _⟩
theorem z2s (al ah bl bh : Int) (w : World) : Calls Tryz.prog 10 #[.agg #[vI vK al, vI vK ah], .agg #[vI vK bl, vI vK bh]] w fun e w' => e = .returned (.agg #[vI vK (min al bl), vI vK (max ah bh)]) ∧ Below w.heap.size w w' :=
 (z5m al ah bl bh w).mono fun _ _ h => ⟨h.1, by rw [h.2]; repeat' first | exact bF _ _ | refine bA ?_ ?_ _ | refine bS ?_ ?_ _ | refine bD ?_ | refine below_drewN ?_ _ | (simp; done) | (simp; omega) | (simp [z00]; done) | (simp [z00]; omega) | omega⟩
attribute [local simp] z00
theorem z52 (al ah bl bh : Int) (pal : -9223372036854775808 ≤ al) (qal : al ≤ 9223372036854775807) (pah : -9223372036854775808 ≤ ah) (qah : ah ≤ 9223372036854775807) (pbl : -9223372036854775808 ≤ bl) (qbl : bl ≤ 9223372036854775807) (pbh : -9223372036854775808 ≤ bh) (qbh : bh ≤ 9223372036854775807) (oa : al ≤ ah) (ob : bl ≤ bh) : (∀ (ha : 0 ≤ al) (hb : 0 ≤ bl) (lal : -2147483648 ≤ al) (gal : al ≤ 2147483648) (lah : -2147483648 ≤ ah) (gah : ah ≤ 2147483648) (lbl : -2147483648 ≤ bl) (gbl : bl ≤ 2147483648) (lbh : -2147483648 ≤ bh) (gbh : bh ≤ 2147483648) (w : World) (hA : z0a w), Calls Tryz.prog 32 #[vI vK 4, .agg #[vI vK al, vI vK ah], .agg #[vI vK bl, vI vK bh]] w fun e w' => e = .returned (.agg #[vI vK (min (min (min (wrap64 (al * bl)) (wrap64 (al * bh))) (wrap64 (ah * bl))) (wrap64 (ah * bh))), vI vK (max (max (max (wrap64 (al * bl)) (wrap64 (al * bh))) (wrap64 (ah * bl))) (wrap64 (ah * bh)))]) ∧ Below w.heap.size w w') ∧ (∀ (ha : 0 ≤ al) (hb : bl < 0) (lal : -2147483648 ≤ al) (gal : al ≤ 2147483648) (lah : -2147483648 ≤ ah) (gah : ah ≤ 2147483648) (lbl : -2147483648 ≤ bl) (gbl : bl ≤ 2147483648) (lbh : -2147483648 ≤ bh) (gbh : bh ≤ 2147483648) (w : World) (hA : z0a w), Calls Tryz.prog 32 #[vI vK 4, .agg #[vI vK al, vI vK ah], .agg #[vI vK bl, vI vK bh]] w fun e w' => e = .returned (.agg #[vI vK (min (min (min (wrap64 (al * bl)) (wrap64 (al * bh))) (wrap64 (ah * bl))) (wrap64 (ah * bh))), vI vK (max (max (max (wrap64 (al * bl)) (wrap64 (al * bh))) (wrap64 (ah * bl))) (wrap64 (ah * bh)))]) ∧ Below w.heap.size w w') ∧ (∀ (ha : al < 0) (lal : -2147483648 ≤ al) (gal : al ≤ 2147483648) (lah : -2147483648 ≤ ah) (gah : ah ≤ 2147483648) (lbl : -2147483648 ≤ bl) (gbl : bl ≤ 2147483648) (lbh : -2147483648 ≤ bh) (gbh : bh ≤ 2147483648) (w : World) (hA : z0a w), Calls Tryz.prog 32 #[vI vK 4, .agg #[vI vK al, vI vK ah], .agg #[vI vK bl, vI vK bh]] w fun e w' => e = .returned (.agg #[vI vK (min (min (min (wrap64 (al * bl)) (wrap64 (al * bh))) (wrap64 (ah * bl))) (wrap64 (ah * bh))), vI vK (max (max (max (wrap64 (al * bl)) (wrap64 (al * bh))) (wrap64 (ah * bl))) (wrap64 (ah * bh)))]) ∧ Below w.heap.size w w') := by
 refine ⟨?_, ?_, ?_⟩
 intro ha hb lal gal lah gah lbl gbl lbh gbh w hA
 rotate_left
 intro ha hb lal gal lah gah lbl gbl lbh gbh w hA
 rotate_left
 intro ha lal gal lah gah lbl gbl lbh gbh w hA
 rotate_left
 all_goals
  obtain ⟨gz, g0, g1⟩ := hA
  have gz0 : 0 < w.heap.size := by omega
  have gz1 : 0 < w.heap.size + 1 := by omega
  have gz2 : 0 < w.heap.size + 1 + 1 := by omega
  have gz3 : 0 < w.heap.size + 1 + 1 + 1 := by omega
  have gz4 : 0 < w.heap.size + 1 + 1 + 1 + 1 := by omega
  have hx := z76 bl
  have hk0 : 0 ≤ bl % 64 := Int.emod_nonneg _ (by decide)
  have hk1 : bl % 64 < 64 := Int.emod_lt_of_pos _ (by decide)
 have da : decide (0 ≤ al) = true := by simp; omega
 have db : decide (0 ≤ bl) = true := by simp; omega
 rotate_left
 have da : decide (0 ≤ al) = true := by simp; omega
 have db : decide (0 ≤ bl) = false := by simp; omega
 rotate_left
 have da : decide (0 ≤ al) = false := by simp; omega
 rotate_left
 all_goals
  have _lal : decide (-2147483648 ≤ al) = true := by simp; omega
  have _gal : decide (al ≤ 2147483648) = true := by simp; omega
  have _lah : decide (-2147483648 ≤ ah) = true := by simp; omega
  have _gah : decide (ah ≤ 2147483648) = true := by simp; omega
  have _lbl : decide (-2147483648 ≤ bl) = true := by simp; omega
  have _gbl : decide (bl ≤ 2147483648) = true := by simp; omega
  have _lbh : decide (-2147483648 ≤ bh) = true := by simp; omega
  have _gbh : decide (bh ≤ 2147483648) = true := by simp; omega
 all_goals
  go_enter Tryz.func32, Tryz.ntmps32
  go_wp2_with (first | (go_at_call 51; refine (z2n _ _ ?_ ?_ ?_ ?_ _).mono ?_; omega; omega; omega; omega; rintro e w' ⟨rfl, rfl⟩) | (go_at_call 52; refine (z2l _ _ ?_ ?_ ?_ ?_ _).mono ?_; omega; omega; omega; omega; rintro e w' ⟨rfl, rfl⟩) | (go_at_call 53; refine (z10 _ ?_ _).mono ?_; omega; rintro e w' ⟨rfl, rfl⟩) | (go_at_call 55; refine (z1r _ _ ?_ ?_ ?_ ?_ _).mono ?_; omega; omega; omega; omega; rintro e w' ⟨rfl, rfl⟩) | (go_at_call 54; refine (z2h _ _ _ ?_ ?_ ?_ ?_ _).mono ?_; omega; omega; omega; omega; rintro e w' ⟨rfl, rfl⟩) | (go_at_call 8; refine (z43 _ _).mono ?_; rintro e w' ⟨rfl, rfl⟩) | (go_at_call 10; refine (z5m _ _ _ _ _).mono ?_; rintro e w' ⟨rfl, rfl⟩))
  refine wp_loop_rounds 5 ?_
  repeat any_goals (rw [rounds_succ]; go_wp2_with (first | (go_at_call 51; refine (z2n _ _ ?_ ?_ ?_ ?_ _).mono ?_; omega; omega; omega; omega; rintro e w' ⟨rfl, rfl⟩) | (go_at_call 52; refine (z2l _ _ ?_ ?_ ?_ ?_ _).mono ?_; omega; omega; omega; omega; rintro e w' ⟨rfl, rfl⟩) | (go_at_call 53; refine (z10 _ ?_ _).mono ?_; omega; rintro e w' ⟨rfl, rfl⟩) | (go_at_call 55; refine (z1r _ _ ?_ ?_ ?_ ?_ _).mono ?_; omega; omega; omega; omega; rintro e w' ⟨rfl, rfl⟩) | (go_at_call 54; refine (z2h _ _ _ ?_ ?_ ?_ ?_ _).mono ?_; omega; omega; omega; omega; rintro e w' ⟨rfl, rfl⟩) | (go_at_call 8; refine (z43 _ _).mono ?_; rintro e w' ⟨rfl, rfl⟩) | (go_at_call 10; refine (z5m _ _ _ _ _).mono ?_; rintro e w' ⟨rfl, rfl⟩)))
  go_loopw [152] (fun ix wr => ∃ (k : Nat) (lo hi : Int), zUc (wrap64 (al * bl)) (wrap64 (al * bh)) (wrap64 (ah * bl)) (wrap64 (ah * bh)) k lo hi ∧ ix = vI vK k ∧ Below w.heap.size w wr ∧ z0c (w.heap.size + 1 + 1 + 1 + 1 + 1 + 1) (w.heap.size + 1 + 1) lo hi wr ∧ Four (w.heap.size + 1 + 1 + 1 + 1) (wrap64 (al * bl)) (wrap64 (al * bh)) (wrap64 (ah * bl)) (wrap64 (ah * bh)) wr) (fun ix _ => 4 - (intOf ix).toNat)
  case atStart => exact ⟨0, _, _, Or.inl ⟨rfl, rfl, rfl⟩, rfl, by repeat' first | exact bF _ _ | refine bA ?_ ?_ _ | refine bS ?_ ?_ _ | refine bD ?_ | refine below_drewN ?_ _ | (simp; done) | (simp; omega) | (simp [z00]; done) | (simp [z00]; omega) | omega, ⟨⟨by (simp; try omega), by simp [go_sem], by simp [go_sem], by simp [go_sem], by simp [go_sem]⟩, by (simp; try omega), by simp [go_sem], by simp [go_sem], by simp [go_sem], by simp [go_sem]⟩, by (simp; try omega), by simp [go_sem], by simp [go_sem], by simp [go_sem], by simp [go_sem]⟩
  case round =>
   obtain ⟨k, lo, hi, hk, rfl, hbw, hX, hF⟩ := hrel
   have hmr : w.heap.size + 1 + 1 + 1 + 1 + 1 + 1 ≠ w.heap.size + 1 + 1 := by omega
   have hmq : w.heap.size + 1 + 1 + 1 + 1 + 1 + 1 ≠ w.heap.size + 1 + 1 + 1 + 1 := by omega
   have hw1 : w.heap.size ≤ w.heap.size + 1 + 1 + 1 + 1 + 1 + 1 := by omega
   have hw2 : w.heap.size ≤ w.heap.size + 1 + 1 := by omega
   generalize w.heap.size + 1 + 1 + 1 + 1 + 1 + 1 = m at *
   generalize w.heap.size + 1 + 1 + 1 + 1 = q at *
   generalize w.heap.size + 1 + 1 = r at *
   obtain ⟨⟨m0, c0, c1, f0, f1⟩, n0, r0, r1, z0, z1⟩ := hX
   have hX : z0c m r lo hi wr := ⟨⟨m0, c0, c1, f0, f1⟩, n0, r0, r1, z0, z1⟩
   obtain ⟨q0, q1, q2, q3, q4⟩ := hF
   have hF : Four q (wrap64 (al * bl)) (wrap64 (al * bh)) (wrap64 (ah * bl)) (wrap64 (ah * bh)) wr := ⟨q0, q1, q2, q3, q4⟩
   have hsz : w.heap.size ≤ wr.heap.size := hbw.size
   rcases hk with ⟨rfl, hlo, hhi⟩ | ⟨rfl, hlo, hhi⟩ | ⟨rfl, hlo, hhi⟩ | ⟨rfl, hlo, hhi⟩ | ⟨rfl, rfl, rfl⟩
   ·have Hlo : Hid (_ = _) := hlo
    have Hhi : Hid (_ = _) := hhi
    clear hlo hhi
    go_wp2_with (first | (go_at_call 8; go_must (refine (z26 _ _).mono ?_; rintro e w1 ⟨rfl, hb1⟩; have hbw1 : Below w.heap.size w w1 := (by ((refine Below.trans ?_ (hb1.mono ?_)) <;> (first | exact hbw | exact hbw.drew | exact hbw1 | exact hbw1.drew | exact hsz | exact hsz1))); have hX1 : z0c m r lo hi w1 := z0c.later (by first | exact hX.drew | exact hX) hb1; have hF1 : Four q (wrap64 (al * bl)) (wrap64 (al * bh)) (wrap64 (ah * bl)) (wrap64 (ah * bh)) w1 := Four.later (by first | exact hF.drew | exact hF) hb1; have hsz1 : w.heap.size ≤ w1.heap.size := hbw1.size; obtain ⟨⟨m1, c01, c11, f01, f11⟩, n1, r01, r11, z01, z11⟩ := hX1; have hX1 : z0c m r lo hi w1 := ⟨⟨m1, c01, c11, f01, f11⟩, n1, r01, r11, z01, z11⟩)) | (go_at_call 10; go_must (refine (z2s _ _ _ _ _).mono ?_; rintro e w2 ⟨rfl, hb2⟩; have hbw2 : Below w.heap.size w w2 := (by ((refine Below.trans ?_ (hb2.mono ?_)) <;> (first | exact hbw | exact hbw.drew | exact hbw1 | exact hbw1.drew | exact hsz | exact hsz1))); have hX2 : z0c m r lo hi w2 := z0c.later (by first | exact hX1 | exact hX1.drew) hb2; have hF2 : Four q (wrap64 (al * bl)) (wrap64 (al * bh)) (wrap64 (ah * bl)) (wrap64 (ah * bh)) w2 := Four.later (by first | exact hF1 | exact hF1.drew) hb2; have hsz2 : w.heap.size ≤ w2.heap.size := hbw2.size; obtain ⟨⟨m2, c02, c12, f02, f12⟩, n2, r02, r12, z02, z12⟩ := hX2; have hX2 : z0c m r lo hi w2 := ⟨⟨m2, c02, c12, f02, f12⟩, n2, r02, r12, z02, z12⟩)))
    go_region_with (first | (go_at_call 8; go_must (refine (z26 _ _).mono ?_; rintro e w1 ⟨rfl, hb1⟩; have hbw1 : Below w.heap.size w w1 := (by ((refine Below.trans ?_ (hb1.mono ?_)) <;> (first | exact hbw | exact hbw.drew | exact hbw1 | exact hbw1.drew | exact hsz | exact hsz1))); have hX1 : z0c m r lo hi w1 := z0c.later (by first | exact hX.drew | exact hX) hb1; have hF1 : Four q (wrap64 (al * bl)) (wrap64 (al * bh)) (wrap64 (ah * bl)) (wrap64 (ah * bh)) w1 := Four.later (by first | exact hF.drew | exact hF) hb1; have hsz1 : w.heap.size ≤ w1.heap.size := hbw1.size; obtain ⟨⟨m1, c01, c11, f01, f11⟩, n1, r01, r11, z01, z11⟩ := hX1; have hX1 : z0c m r lo hi w1 := ⟨⟨m1, c01, c11, f01, f11⟩, n1, r01, r11, z01, z11⟩)) | (go_at_call 10; go_must (refine (z2s _ _ _ _ _).mono ?_; rintro e w2 ⟨rfl, hb2⟩; have hbw2 : Below w.heap.size w w2 := (by ((refine Below.trans ?_ (hb2.mono ?_)) <;> (first | exact hbw | exact hbw.drew | exact hbw1 | exact hbw1.drew | exact hsz | exact hsz1))); have hX2 : z0c m r lo hi w2 := z0c.later (by first | exact hX1 | exact hX1.drew) hb2; have hF2 : Four q (wrap64 (al * bl)) (wrap64 (al * bh)) (wrap64 (ah * bl)) (wrap64 (ah * bh)) w2 := Four.later (by first | exact hF1 | exact hF1.drew) hb2; have hsz2 : w.heap.size ≤ w2.heap.size := hbw2.size; obtain ⟨⟨m2, c02, c12, f02, f12⟩, n2, r02, r12, z02, z12⟩ := hX2; have hX2 : z0c m r lo hi w2 := ⟨⟨m2, c02, c12, f02, f12⟩, n2, r02, r12, z02, z12⟩)))
    all_goals go_wp2_with (first | (go_at_call 8; go_must (refine (z26 _ _).mono ?_; rintro e w1 ⟨rfl, hb1⟩; have hbw1 : Below w.heap.size w w1 := (by ((refine Below.trans ?_ (hb1.mono ?_)) <;> (first | exact hbw | exact hbw.drew | exact hbw1 | exact hbw1.drew | exact hsz | exact hsz1))); have hX1 : z0c m r lo hi w1 := z0c.later (by first | exact hX.drew | exact hX) hb1; have hF1 : Four q (wrap64 (al * bl)) (wrap64 (al * bh)) (wrap64 (ah * bl)) (wrap64 (ah * bh)) w1 := Four.later (by first | exact hF.drew | exact hF) hb1; have hsz1 : w.heap.size ≤ w1.heap.size := hbw1.size; obtain ⟨⟨m1, c01, c11, f01, f11⟩, n1, r01, r11, z01, z11⟩ := hX1; have hX1 : z0c m r lo hi w1 := ⟨⟨m1, c01, c11, f01, f11⟩, n1, r01, r11, z01, z11⟩)) | (go_at_call 10; go_must (refine (z2s _ _ _ _ _).mono ?_; rintro e w2 ⟨rfl, hb2⟩; have hbw2 : Below w.heap.size w w2 := (by ((refine Below.trans ?_ (hb2.mono ?_)) <;> (first | exact hbw | exact hbw.drew | exact hbw1 | exact hbw1.drew | exact hsz | exact hsz1))); have hX2 : z0c m r lo hi w2 := z0c.later (by first | exact hX1 | exact hX1.drew) hb2; have hF2 : Four q (wrap64 (al * bl)) (wrap64 (al * bh)) (wrap64 (ah * bl)) (wrap64 (ah * bh)) w2 := Four.later (by first | exact hF1 | exact hF1.drew) hb2; have hsz2 : w.heap.size ≤ w2.heap.size := hbw2.size; obtain ⟨⟨m2, c02, c12, f02, f12⟩, n2, r02, r12, z02, z12⟩ := hX2; have hX2 : z0c m r lo hi w2 := ⟨⟨m2, c02, c12, f02, f12⟩, n2, r02, r12, z02, z12⟩)))
    all_goals exact ⟨⟨1, _, _, Or.inr (Or.inl ⟨rfl, by rw [Hlo.out]; exact Int.min_self _, by rw [Hhi.out]; exact Int.max_self _⟩), rfl, (hbw2.setCell hw1 _).setCell hw1 _, hX2.put hmr, hF2.put hmq⟩, by simp [intOf]⟩
   ·have Hlo : Hid (_ = _) := hlo
    have Hhi : Hid (_ = _) := hhi
    clear hlo hhi
    go_wp2_with (first | (go_at_call 8; go_must (refine (z26 _ _).mono ?_; rintro e w1 ⟨rfl, hb1⟩; have hbw1 : Below w.heap.size w w1 := (by ((refine Below.trans ?_ (hb1.mono ?_)) <;> (first | exact hbw | exact hbw.drew | exact hbw1 | exact hbw1.drew | exact hsz | exact hsz1))); have hX1 : z0c m r lo hi w1 := z0c.later (by first | exact hX.drew | exact hX) hb1; have hF1 : Four q (wrap64 (al * bl)) (wrap64 (al * bh)) (wrap64 (ah * bl)) (wrap64 (ah * bh)) w1 := Four.later (by first | exact hF.drew | exact hF) hb1; have hsz1 : w.heap.size ≤ w1.heap.size := hbw1.size; obtain ⟨⟨m1, c01, c11, f01, f11⟩, n1, r01, r11, z01, z11⟩ := hX1; have hX1 : z0c m r lo hi w1 := ⟨⟨m1, c01, c11, f01, f11⟩, n1, r01, r11, z01, z11⟩)) | (go_at_call 10; go_must (refine (z2s _ _ _ _ _).mono ?_; rintro e w2 ⟨rfl, hb2⟩; have hbw2 : Below w.heap.size w w2 := (by ((refine Below.trans ?_ (hb2.mono ?_)) <;> (first | exact hbw | exact hbw.drew | exact hbw1 | exact hbw1.drew | exact hsz | exact hsz1))); have hX2 : z0c m r lo hi w2 := z0c.later (by first | exact hX1 | exact hX1.drew) hb2; have hF2 : Four q (wrap64 (al * bl)) (wrap64 (al * bh)) (wrap64 (ah * bl)) (wrap64 (ah * bh)) w2 := Four.later (by first | exact hF1 | exact hF1.drew) hb2; have hsz2 : w.heap.size ≤ w2.heap.size := hbw2.size; obtain ⟨⟨m2, c02, c12, f02, f12⟩, n2, r02, r12, z02, z12⟩ := hX2; have hX2 : z0c m r lo hi w2 := ⟨⟨m2, c02, c12, f02, f12⟩, n2, r02, r12, z02, z12⟩)))
    go_region_with (first | (go_at_call 8; go_must (refine (z26 _ _).mono ?_; rintro e w1 ⟨rfl, hb1⟩; have hbw1 : Below w.heap.size w w1 := (by ((refine Below.trans ?_ (hb1.mono ?_)) <;> (first | exact hbw | exact hbw.drew | exact hbw1 | exact hbw1.drew | exact hsz | exact hsz1))); have hX1 : z0c m r lo hi w1 := z0c.later (by first | exact hX.drew | exact hX) hb1; have hF1 : Four q (wrap64 (al * bl)) (wrap64 (al * bh)) (wrap64 (ah * bl)) (wrap64 (ah * bh)) w1 := Four.later (by first | exact hF.drew | exact hF) hb1; have hsz1 : w.heap.size ≤ w1.heap.size := hbw1.size; obtain ⟨⟨m1, c01, c11, f01, f11⟩, n1, r01, r11, z01, z11⟩ := hX1; have hX1 : z0c m r lo hi w1 := ⟨⟨m1, c01, c11, f01, f11⟩, n1, r01, r11, z01, z11⟩)) | (go_at_call 10; go_must (refine (z2s _ _ _ _ _).mono ?_; rintro e w2 ⟨rfl, hb2⟩; have hbw2 : Below w.heap.size w w2 := (by ((refine Below.trans ?_ (hb2.mono ?_)) <;> (first | exact hbw | exact hbw.drew | exact hbw1 | exact hbw1.drew | exact hsz | exact hsz1))); have hX2 : z0c m r lo hi w2 := z0c.later (by first | exact hX1 | exact hX1.drew) hb2; have hF2 : Four q (wrap64 (al * bl)) (wrap64 (al * bh)) (wrap64 (ah * bl)) (wrap64 (ah * bh)) w2 := Four.later (by first | exact hF1 | exact hF1.drew) hb2; have hsz2 : w.heap.size ≤ w2.heap.size := hbw2.size; obtain ⟨⟨m2, c02, c12, f02, f12⟩, n2, r02, r12, z02, z12⟩ := hX2; have hX2 : z0c m r lo hi w2 := ⟨⟨m2, c02, c12, f02, f12⟩, n2, r02, r12, z02, z12⟩)))
    all_goals go_wp2_with (first | (go_at_call 8; go_must (refine (z26 _ _).mono ?_; rintro e w1 ⟨rfl, hb1⟩; have hbw1 : Below w.heap.size w w1 := (by ((refine Below.trans ?_ (hb1.mono ?_)) <;> (first | exact hbw | exact hbw.drew | exact hbw1 | exact hbw1.drew | exact hsz | exact hsz1))); have hX1 : z0c m r lo hi w1 := z0c.later (by first | exact hX.drew | exact hX) hb1; have hF1 : Four q (wrap64 (al * bl)) (wrap64 (al * bh)) (wrap64 (ah * bl)) (wrap64 (ah * bh)) w1 := Four.later (by first | exact hF.drew | exact hF) hb1; have hsz1 : w.heap.size ≤ w1.heap.size := hbw1.size; obtain ⟨⟨m1, c01, c11, f01, f11⟩, n1, r01, r11, z01, z11⟩ := hX1; have hX1 : z0c m r lo hi w1 := ⟨⟨m1, c01, c11, f01, f11⟩, n1, r01, r11, z01, z11⟩)) | (go_at_call 10; go_must (refine (z2s _ _ _ _ _).mono ?_; rintro e w2 ⟨rfl, hb2⟩; have hbw2 : Below w.heap.size w w2 := (by ((refine Below.trans ?_ (hb2.mono ?_)) <;> (first | exact hbw | exact hbw.drew | exact hbw1 | exact hbw1.drew | exact hsz | exact hsz1))); have hX2 : z0c m r lo hi w2 := z0c.later (by first | exact hX1 | exact hX1.drew) hb2; have hF2 : Four q (wrap64 (al * bl)) (wrap64 (al * bh)) (wrap64 (ah * bl)) (wrap64 (ah * bh)) w2 := Four.later (by first | exact hF1 | exact hF1.drew) hb2; have hsz2 : w.heap.size ≤ w2.heap.size := hbw2.size; obtain ⟨⟨m2, c02, c12, f02, f12⟩, n2, r02, r12, z02, z12⟩ := hX2; have hX2 : z0c m r lo hi w2 := ⟨⟨m2, c02, c12, f02, f12⟩, n2, r02, r12, z02, z12⟩)))
    all_goals exact ⟨⟨2, _, _, Or.inr (Or.inr (Or.inl ⟨rfl, by rw [Hlo.out], by rw [Hhi.out]⟩)), rfl, (hbw2.setCell hw1 _).setCell hw1 _, hX2.put hmr, hF2.put hmq⟩, by simp [intOf]⟩
   ·have Hlo : Hid (_ = _) := hlo
    have Hhi : Hid (_ = _) := hhi
    clear hlo hhi
    go_wp2_with (first | (go_at_call 8; go_must (refine (z26 _ _).mono ?_; rintro e w1 ⟨rfl, hb1⟩; have hbw1 : Below w.heap.size w w1 := (by ((refine Below.trans ?_ (hb1.mono ?_)) <;> (first | exact hbw | exact hbw.drew | exact hbw1 | exact hbw1.drew | exact hsz | exact hsz1))); have hX1 : z0c m r lo hi w1 := z0c.later (by first | exact hX.drew | exact hX) hb1; have hF1 : Four q (wrap64 (al * bl)) (wrap64 (al * bh)) (wrap64 (ah * bl)) (wrap64 (ah * bh)) w1 := Four.later (by first | exact hF.drew | exact hF) hb1; have hsz1 : w.heap.size ≤ w1.heap.size := hbw1.size; obtain ⟨⟨m1, c01, c11, f01, f11⟩, n1, r01, r11, z01, z11⟩ := hX1; have hX1 : z0c m r lo hi w1 := ⟨⟨m1, c01, c11, f01, f11⟩, n1, r01, r11, z01, z11⟩)) | (go_at_call 10; go_must (refine (z2s _ _ _ _ _).mono ?_; rintro e w2 ⟨rfl, hb2⟩; have hbw2 : Below w.heap.size w w2 := (by ((refine Below.trans ?_ (hb2.mono ?_)) <;> (first | exact hbw | exact hbw.drew | exact hbw1 | exact hbw1.drew | exact hsz | exact hsz1))); have hX2 : z0c m r lo hi w2 := z0c.later (by first | exact hX1 | exact hX1.drew) hb2; have hF2 : Four q (wrap64 (al * bl)) (wrap64 (al * bh)) (wrap64 (ah * bl)) (wrap64 (ah * bh)) w2 := Four.later (by first | exact hF1 | exact hF1.drew) hb2; have hsz2 : w.heap.size ≤ w2.heap.size := hbw2.size; obtain ⟨⟨m2, c02, c12, f02, f12⟩, n2, r02, r12, z02, z12⟩ := hX2; have hX2 : z0c m r lo hi w2 := ⟨⟨m2, c02, c12, f02, f12⟩, n2, r02, r12, z02, z12⟩)))
    go_region_with (first | (go_at_call 8; go_must (refine (z26 _ _).mono ?_; rintro e w1 ⟨rfl, hb1⟩; have hbw1 : Below w.heap.size w w1 := (by ((refine Below.trans ?_ (hb1.mono ?_)) <;> (first | exact hbw | exact hbw.drew | exact hbw1 | exact hbw1.drew | exact hsz | exact hsz1))); have hX1 : z0c m r lo hi w1 := z0c.later (by first | exact hX.drew | exact hX) hb1; have hF1 : Four q (wrap64 (al * bl)) (wrap64 (al * bh)) (wrap64 (ah * bl)) (wrap64 (ah * bh)) w1 := Four.later (by first | exact hF.drew | exact hF) hb1; have hsz1 : w.heap.size ≤ w1.heap.size := hbw1.size; obtain ⟨⟨m1, c01, c11, f01, f11⟩, n1, r01, r11, z01, z11⟩ := hX1; have hX1 : z0c m r lo hi w1 := ⟨⟨m1, c01, c11, f01, f11⟩, n1, r01, r11, z01, z11⟩)) | (go_at_call 10; go_must (refine (z2s _ _ _ _ _).mono ?_; rintro e w2 ⟨rfl, hb2⟩; have hbw2 : Below w.heap.size w w2 := (by ((refine Below.trans ?_ (hb2.mono ?_)) <;> (first | exact hbw | exact hbw.drew | exact hbw1 | exact hbw1.drew | exact hsz | exact hsz1))); have hX2 : z0c m r lo hi w2 := z0c.later (by first | exact hX1 | exact hX1.drew) hb2; have hF2 : Four q (wrap64 (al * bl)) (wrap64 (al * bh)) (wrap64 (ah * bl)) (wrap64 (ah * bh)) w2 := Four.later (by first | exact hF1 | exact hF1.drew) hb2; have hsz2 : w.heap.size ≤ w2.heap.size := hbw2.size; obtain ⟨⟨m2, c02, c12, f02, f12⟩, n2, r02, r12, z02, z12⟩ := hX2; have hX2 : z0c m r lo hi w2 := ⟨⟨m2, c02, c12, f02, f12⟩, n2, r02, r12, z02, z12⟩)))
    all_goals go_wp2_with (first | (go_at_call 8; go_must (refine (z26 _ _).mono ?_; rintro e w1 ⟨rfl, hb1⟩; have hbw1 : Below w.heap.size w w1 := (by ((refine Below.trans ?_ (hb1.mono ?_)) <;> (first | exact hbw | exact hbw.drew | exact hbw1 | exact hbw1.drew | exact hsz | exact hsz1))); have hX1 : z0c m r lo hi w1 := z0c.later (by first | exact hX.drew | exact hX) hb1; have hF1 : Four q (wrap64 (al * bl)) (wrap64 (al * bh)) (wrap64 (ah * bl)) (wrap64 (ah * bh)) w1 := Four.later (by first | exact hF.drew | exact hF) hb1; have hsz1 : w.heap.size ≤ w1.heap.size := hbw1.size; obtain ⟨⟨m1, c01, c11, f01, f11⟩, n1, r01, r11, z01, z11⟩ := hX1; have hX1 : z0c m r lo hi w1 := ⟨⟨m1, c01, c11, f01, f11⟩, n1, r01, r11, z01, z11⟩)) | (go_at_call 10; go_must (refine (z2s _ _ _ _ _).mono ?_; rintro e w2 ⟨rfl, hb2⟩; have hbw2 : Below w.heap.size w w2 := (by ((refine Below.trans ?_ (hb2.mono ?_)) <;> (first | exact hbw | exact hbw.drew | exact hbw1 | exact hbw1.drew | exact hsz | exact hsz1))); have hX2 : z0c m r lo hi w2 := z0c.later (by first | exact hX1 | exact hX1.drew) hb2; have hF2 : Four q (wrap64 (al * bl)) (wrap64 (al * bh)) (wrap64 (ah * bl)) (wrap64 (ah * bh)) w2 := Four.later (by first | exact hF1 | exact hF1.drew) hb2; have hsz2 : w.heap.size ≤ w2.heap.size := hbw2.size; obtain ⟨⟨m2, c02, c12, f02, f12⟩, n2, r02, r12, z02, z12⟩ := hX2; have hX2 : z0c m r lo hi w2 := ⟨⟨m2, c02, c12, f02, f12⟩, n2, r02, r12, z02, z12⟩)))
    all_goals exact ⟨⟨3, _, _, Or.inr (Or.inr (Or.inr (Or.inl ⟨rfl, by rw [Hlo.out], by rw [Hhi.out]⟩))), rfl, (hbw2.setCell hw1 _).setCell hw1 _, hX2.put hmr, hF2.put hmq⟩, by simp [intOf]⟩
   ·have Hlo : Hid (_ = _) := hlo
    have Hhi : Hid (_ = _) := hhi
    clear hlo hhi
    go_wp2_with (first | (go_at_call 8; go_must (refine (z26 _ _).mono ?_; rintro e w1 ⟨rfl, hb1⟩; have hbw1 : Below w.heap.size w w1 := (by ((refine Below.trans ?_ (hb1.mono ?_)) <;> (first | exact hbw | exact hbw.drew | exact hbw1 | exact hbw1.drew | exact hsz | exact hsz1))); have hX1 : z0c m r lo hi w1 := z0c.later (by first | exact hX.drew | exact hX) hb1; have hF1 : Four q (wrap64 (al * bl)) (wrap64 (al * bh)) (wrap64 (ah * bl)) (wrap64 (ah * bh)) w1 := Four.later (by first | exact hF.drew | exact hF) hb1; have hsz1 : w.heap.size ≤ w1.heap.size := hbw1.size; obtain ⟨⟨m1, c01, c11, f01, f11⟩, n1, r01, r11, z01, z11⟩ := hX1; have hX1 : z0c m r lo hi w1 := ⟨⟨m1, c01, c11, f01, f11⟩, n1, r01, r11, z01, z11⟩)) | (go_at_call 10; go_must (refine (z2s _ _ _ _ _).mono ?_; rintro e w2 ⟨rfl, hb2⟩; have hbw2 : Below w.heap.size w w2 := (by ((refine Below.trans ?_ (hb2.mono ?_)) <;> (first | exact hbw | exact hbw.drew | exact hbw1 | exact hbw1.drew | exact hsz | exact hsz1))); have hX2 : z0c m r lo hi w2 := z0c.later (by first | exact hX1 | exact hX1.drew) hb2; have hF2 : Four q (wrap64 (al * bl)) (wrap64 (al * bh)) (wrap64 (ah * bl)) (wrap64 (ah * bh)) w2 := Four.later (by first | exact hF1 | exact hF1.drew) hb2; have hsz2 : w.heap.size ≤ w2.heap.size := hbw2.size; obtain ⟨⟨m2, c02, c12, f02, f12⟩, n2, r02, r12, z02, z12⟩ := hX2; have hX2 : z0c m r lo hi w2 := ⟨⟨m2, c02, c12, f02, f12⟩, n2, r02, r12, z02, z12⟩)))
    go_region_with (first | (go_at_call 8; go_must (refine (z26 _ _).mono ?_; rintro e w1 ⟨rfl, hb1⟩; have hbw1 : Below w.heap.size w w1 := (by ((refine Below.trans ?_ (hb1.mono ?_)) <;> (first | exact hbw | exact hbw.drew | exact hbw1 | exact hbw1.drew | exact hsz | exact hsz1))); have hX1 : z0c m r lo hi w1 := z0c.later (by first | exact hX.drew | exact hX) hb1; have hF1 : Four q (wrap64 (al * bl)) (wrap64 (al * bh)) (wrap64 (ah * bl)) (wrap64 (ah * bh)) w1 := Four.later (by first | exact hF.drew | exact hF) hb1; have hsz1 : w.heap.size ≤ w1.heap.size := hbw1.size; obtain ⟨⟨m1, c01, c11, f01, f11⟩, n1, r01, r11, z01, z11⟩ := hX1; have hX1 : z0c m r lo hi w1 := ⟨⟨m1, c01, c11, f01, f11⟩, n1, r01, r11, z01, z11⟩)) | (go_at_call 10; go_must (refine (z2s _ _ _ _ _).mono ?_; rintro e w2 ⟨rfl, hb2⟩; have hbw2 : Below w.heap.size w w2 := (by ((refine Below.trans ?_ (hb2.mono ?_)) <;> (first | exact hbw | exact hbw.drew | exact hbw1 | exact hbw1.drew | exact hsz | exact hsz1))); have hX2 : z0c m r lo hi w2 := z0c.later (by first | exact hX1 | exact hX1.drew) hb2; have hF2 : Four q (wrap64 (al * bl)) (wrap64 (al * bh)) (wrap64 (ah * bl)) (wrap64 (ah * bh)) w2 := Four.later (by first | exact hF1 | exact hF1.drew) hb2; have hsz2 : w.heap.size ≤ w2.heap.size := hbw2.size; obtain ⟨⟨m2, c02, c12, f02, f12⟩, n2, r02, r12, z02, z12⟩ := hX2; have hX2 : z0c m r lo hi w2 := ⟨⟨m2, c02, c12, f02, f12⟩, n2, r02, r12, z02, z12⟩)))
    all_goals go_wp2_with (first | (go_at_call 8; go_must (refine (z26 _ _).mono ?_; rintro e w1 ⟨rfl, hb1⟩; have hbw1 : Below w.heap.size w w1 := (by ((refine Below.trans ?_ (hb1.mono ?_)) <;> (first | exact hbw | exact hbw.drew | exact hbw1 | exact hbw1.drew | exact hsz | exact hsz1))); have hX1 : z0c m r lo hi w1 := z0c.later (by first | exact hX.drew | exact hX) hb1; have hF1 : Four q (wrap64 (al * bl)) (wrap64 (al * bh)) (wrap64 (ah * bl)) (wrap64 (ah * bh)) w1 := Four.later (by first | exact hF.drew | exact hF) hb1; have hsz1 : w.heap.size ≤ w1.heap.size := hbw1.size; obtain ⟨⟨m1, c01, c11, f01, f11⟩, n1, r01, r11, z01, z11⟩ := hX1; have hX1 : z0c m r lo hi w1 := ⟨⟨m1, c01, c11, f01, f11⟩, n1, r01, r11, z01, z11⟩)) | (go_at_call 10; go_must (refine (z2s _ _ _ _ _).mono ?_; rintro e w2 ⟨rfl, hb2⟩; have hbw2 : Below w.heap.size w w2 := (by ((refine Below.trans ?_ (hb2.mono ?_)) <;> (first | exact hbw | exact hbw.drew | exact hbw1 | exact hbw1.drew | exact hsz | exact hsz1))); have hX2 : z0c m r lo hi w2 := z0c.later (by first | exact hX1 | exact hX1.drew) hb2; have hF2 : Four q (wrap64 (al * bl)) (wrap64 (al * bh)) (wrap64 (ah * bl)) (wrap64 (ah * bh)) w2 := Four.later (by first | exact hF1 | exact hF1.drew) hb2; have hsz2 : w.heap.size ≤ w2.heap.size := hbw2.size; obtain ⟨⟨m2, c02, c12, f02, f12⟩, n2, r02, r12, z02, z12⟩ := hX2; have hX2 : z0c m r lo hi w2 := ⟨⟨m2, c02, c12, f02, f12⟩, n2, r02, r12, z02, z12⟩)))
    all_goals exact ⟨⟨4, _, _, Or.inr (Or.inr (Or.inr (Or.inr (⟨rfl, by rw [Hlo.out], by rw [Hhi.out]⟩)))), rfl, (hbw2.setCell hw1 _).setCell hw1 _, hX2.put hmr, hF2.put hmq⟩, by simp [intOf]⟩
   ·go_wp2_with (first | (go_at_call 8; go_must (refine (z26 _ _).mono ?_; rintro e w1 ⟨rfl, hb1⟩; have hbw1 : Below w.heap.size w w1 := (by ((refine Below.trans ?_ (hb1.mono ?_)) <;> (first | exact hbw | exact hbw.drew | exact hbw1 | exact hbw1.drew | exact hsz | exact hsz1))); have hX1 : z0c m r lo hi w1 := z0c.later (by first | exact hX.drew | exact hX) hb1; have hF1 : Four q (wrap64 (al * bl)) (wrap64 (al * bh)) (wrap64 (ah * bl)) (wrap64 (ah * bh)) w1 := Four.later (by first | exact hF.drew | exact hF) hb1; have hsz1 : w.heap.size ≤ w1.heap.size := hbw1.size; obtain ⟨⟨m1, c01, c11, f01, f11⟩, n1, r01, r11, z01, z11⟩ := hX1; have hX1 : z0c m r lo hi w1 := ⟨⟨m1, c01, c11, f01, f11⟩, n1, r01, r11, z01, z11⟩)) | (go_at_call 10; go_must (refine (z2s _ _ _ _ _).mono ?_; rintro e w2 ⟨rfl, hb2⟩; have hbw2 : Below w.heap.size w w2 := (by ((refine Below.trans ?_ (hb2.mono ?_)) <;> (first | exact hbw | exact hbw.drew | exact hbw1 | exact hbw1.drew | exact hsz | exact hsz1))); have hX2 : z0c m r lo hi w2 := z0c.later (by first | exact hX1 | exact hX1.drew) hb2; have hF2 : Four q (wrap64 (al * bl)) (wrap64 (al * bh)) (wrap64 (ah * bl)) (wrap64 (ah * bh)) w2 := Four.later (by first | exact hF1 | exact hF1.drew) hb2; have hsz2 : w.heap.size ≤ w2.heap.size := hbw2.size; obtain ⟨⟨m2, c02, c12, f02, f12⟩, n2, r02, r12, z02, z12⟩ := hX2; have hX2 : z0c m r lo hi w2 := ⟨⟨m2, c02, c12, f02, f12⟩, n2, r02, r12, z02, z12⟩)))
    exact bodyPost_ret (v := .agg #[vI vK (min (min (min (wrap64 (al * bl)) (wrap64 (al * bh))) (wrap64 (ah * bl))) (wrap64 (ah * bh))), vI vK (max (max (max (wrap64 (al * bl)) (wrap64 (al * bh))) (wrap64 (ah * bl))) (wrap64 (ah * bh)))]) (by simp [results, Tryz.results32, go_sem, r0, r1]) rfl ⟨rfl, (hbw.setCell hw2 _).setCell hw2 _⟩
def zO7 := fun al ah bl bh pal qal pah qah pbl qbl pbh qbh oa ob => (@z52 al ah bl bh pal qal pah qah pbl qbl pbh qbh oa ob).1
def zO8 := fun al ah bl bh pal qal pah qah pbl qbl pbh qbh oa ob => (@z52 al ah bl bh pal qal pah qah pbl qbl pbh qbh oa ob).2.1
def zSk := fun al ah bl bh pal qal pah qah pbl qbl pbh qbh oa ob => (@z52 al ah bl bh pal qal pah qah pbl qbl pbh qbh oa ob).2.2
end Go.Proofs.YteenhdoaminkeaaGreatDoor
namespace Go.Proofs.YteenhdoaminkeaaGreatDoor
open Go.ChangeShapes Go.WideShapes Go.ChangeAt Go.RowKit
set_option linter.unusedVariables false

theorem z85 (n : Int) : z1y n = false ↔ n < -2147483648 ∨ 2147483648 < n := by rw [← Bool.not_eq_true, z2k]; omega
theorem rbd_4 (al ah bl bh : Int) (pal : -9223372036854775808 ≤ al) (qal : al ≤ 9223372036854775807) (pah : -9223372036854775808 ≤ ah) (qah : ah ≤ 9223372036854775807) (pbl : -9223372036854775808 ≤ bl) (qbl : bl ≤ 9223372036854775807) (pbh : -9223372036854775808 ≤ bh) (qbh : bh ≤ 9223372036854775807) (oa : al ≤ ah) (ob : bl ≤ bh) (w : World) (hA : z0a w) : Calls Tryz.prog 32 #[vI vK 4, .agg #[vI vK al, vI vK ah], .agg #[vI vK bl, vI vK bh]] w fun e w' => e = .returned (.agg #[vI vK ((bdV 4 al ah bl bh).1), vI vK ((bdV 4 al ah bl bh).2)]) ∧ Below w.heap.size w w' := by
 rw [zQ8]
 cases h0 : z1y al
 ·have k0 := (z85 _).1 h0
  rw [if_neg (by simp)]
  by_cases ha : 0 ≤ al
  ·by_cases hb : 0 ≤ bl
   ·skip
    exact zHq al ah bl bh pal qal pah qah pbl qbl pbh qbh oa ob ha hb (by omega) (by omega) w hA
   ·have hb : bl < 0 := by omega
    exact zHu al ah bl bh pal qal pah qah pbl qbl pbh qbh oa ob ha hb (by omega) (by omega) w hA
  ·have ha : al < 0 := by omega
   exact zKe al ah bl bh pal qal pah qah pbl qbl pbh qbh oa ob ha (by omega) w hA
 have k0 := (z2k _).1 h0
 cases h1 : z1y ah
 ·have k1 := (z85 _).1 h1
  rw [if_neg (by simp)]
  by_cases ha : 0 ≤ al
  ·by_cases hb : 0 ≤ bl
   ·skip
    exact zHp al ah bl bh pal qal pah qah pbl qbl pbh qbh oa ob ha hb k0.1 k0.2 (by omega) (by omega) w hA
   ·have hb : bl < 0 := by omega
    exact zHt al ah bl bh pal qal pah qah pbl qbl pbh qbh oa ob ha hb k0.1 k0.2 (by omega) (by omega) w hA
  ·have ha : al < 0 := by omega
   exact zKd al ah bl bh pal qal pah qah pbl qbl pbh qbh oa ob ha k0.1 k0.2 (by omega) (by omega) w hA
 have k1 := (z2k _).1 h1
 cases h2 : z1y bl
 ·have k2 := (z85 _).1 h2
  rw [if_neg (by simp)]
  by_cases ha : 0 ≤ al
  ·by_cases hb : 0 ≤ bl
   ·skip
    exact zHo al ah bl bh pal qal pah qah pbl qbl pbh qbh oa ob ha hb k0.1 k0.2 k1.1 k1.2 (by omega) (by omega) w hA
   ·have hb : bl < 0 := by omega
    exact zHs al ah bl bh pal qal pah qah pbl qbl pbh qbh oa ob ha hb k0.1 k0.2 k1.1 k1.2 (by omega) w hA
  ·have ha : al < 0 := by omega
   by_cases hq : bl < -2147483648
   ·exact zKb al ah bl bh pal qal pah qah pbl qbl pbh qbh oa ob ha k0.1 k0.2 k1.1 k1.2 (by omega) w hA
   ·exact zKc al ah bl bh pal qal pah qah pbl qbl pbh qbh oa ob ha k0.1 k0.2 k1.1 k1.2 (by omega) (by omega) w hA
 have k2 := (z2k _).1 h2
 cases h3 : z1y bh
 ·have k3 := (z85 _).1 h3
  rw [if_neg (by simp)]
  by_cases ha : 0 ≤ al
  ·by_cases hb : 0 ≤ bl
   ·skip
    exact zHn al ah bl bh pal qal pah qah pbl qbl pbh qbh oa ob ha hb k0.1 k0.2 k1.1 k1.2 k2.1 k2.2 (by omega) (by omega) w hA
   ·have hb : bl < 0 := by omega
    exact zHr al ah bl bh pal qal pah qah pbl qbl pbh qbh oa ob ha hb k0.1 k0.2 k1.1 k1.2 k2.1 k2.2 (by omega) (by omega) w hA
  ·have ha : al < 0 := by omega
   exact zKa al ah bl bh pal qal pah qah pbl qbl pbh qbh oa ob ha k0.1 k0.2 k1.1 k1.2 k2.1 k2.2 (by omega) (by omega) w hA
 have k3 := (z2k _).1 h3
 rw [if_pos (show (true && true && true && true) = true from rfl)]
 unfold zF1 zF2
 rw [← z2j h0 h2, ← z2j h0 h3, ← z2j h1 h2, ← z2j h1 h3]
 by_cases ha : 0 ≤ al
 ·by_cases hb : 0 ≤ bl
  ·exact zO7 al ah bl bh pal qal pah qah pbl qbl pbh qbh oa ob ha hb k0.1 k0.2 k1.1 k1.2 k2.1 k2.2 k3.1 k3.2 w hA
  ·exact zO8 al ah bl bh pal qal pah qah pbl qbl pbh qbh oa ob ha (by omega) k0.1 k0.2 k1.1 k1.2 k2.1 k2.2 k3.1 k3.2 w hA
 ·exact zSk al ah bl bh pal qal pah qah pbl qbl pbh qbh oa ob (by omega) k0.1 k0.2 k1.1 k1.2 k2.1 k2.2 k3.1 k3.2 w hA
end Go.Proofs.YteenhdoaminkeaaGreatDoor
