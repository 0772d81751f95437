/-
  What bound.product returns: as a function on integers; the world below is as it was. Conditions: the ends are numbers of 64 bits.
-/
import Derived.Test.YtllphbfhfmieaaaDoorBoundDoes
import Derived.Deep.DeepMust
namespace Go.Proofs.YtllphbfhfmieaaaDoor
open Go.ChangeShapes Go.WideShapes Go.ChangeAt Go.RowKit
attribute [local simp] drew_size

theorem idx4_0 (x0 x1 x2 x3 : Int) (w : World) : (Instr.index 109 (.agg #[.int .i64 x0, .int .i64 x1, .int .i64 x2, .int .i64 x3]) (.int .i64 0)).run Tryd.prog w = .ok (.int .i64 x0) w := by kernel_rfl
theorem idx4_1 (x0 x1 x2 x3 : Int) (w : World) : (Instr.index 109 (.agg #[.int .i64 x0, .int .i64 x1, .int .i64 x2, .int .i64 x3]) (.int .i64 1)).run Tryd.prog w = .ok (.int .i64 x1) w := by kernel_rfl
theorem idx4_2 (x0 x1 x2 x3 : Int) (w : World) : (Instr.index 109 (.agg #[.int .i64 x0, .int .i64 x1, .int .i64 x2, .int .i64 x3]) (.int .i64 2)).run Tryd.prog w = .ok (.int .i64 x2) w := by kernel_rfl
theorem idx4_3 (x0 x1 x2 x3 : Int) (w : World) : (Instr.index 109 (.agg #[.int .i64 x0, .int .i64 x1, .int .i64 x2, .int .i64 x3]) (.int .i64 3)).run Tryd.prog w = .ok (.int .i64 x3) w := by kernel_rfl
theorem idx3_0 (x0 x1 x2 : Int) (w : World) : (Instr.index 110 (.agg #[.int .i64 x0, .int .i64 x1, .int .i64 x2]) (.int .i64 0)).run Tryd.prog w = .ok (.int .i64 x0) w := by kernel_rfl
theorem idx3_1 (x0 x1 x2 : Int) (w : World) : (Instr.index 110 (.agg #[.int .i64 x0, .int .i64 x1, .int .i64 x2]) (.int .i64 1)).run Tryd.prog w = .ok (.int .i64 x1) w := by kernel_rfl
theorem idx3_2 (x0 x1 x2 : Int) (w : World) : (Instr.index 110 (.agg #[.int .i64 x0, .int .i64 x1, .int .i64 x2]) (.int .i64 2)).run Tryd.prog w = .ok (.int .i64 x2) w := by kernel_rfl
theorem join_at (al ah bl bh : Int) (w : World) : Calls Tryd.prog 14 #[.agg #[.int .i64 al, .int .i64 ah], .agg #[.int .i64 bl, .int .i64 bh]] w fun e w' => e = .returned (.agg #[.int .i64 (min al bl), .int .i64 (max ah bh)]) ∧ w' = ((w.alloc (.cells #[.int .i64 al, .int .i64 ah] 37)).alloc (.cells #[.int .i64 bl, .int .i64 bh] 37)).alloc (.cells #[.int .i64 (min al bl), .int .i64 (max ah bh)] 37) := by
  go_enter Tryd.func14, Tryd.ntmps14
  go_wp2
  exact bodyPost_ret (v := .agg #[.int .i64 (min al bl), .int .i64 (max ah bh)]) (by simp [results, Tryd.results14, go_sem]) rfl ⟨rfl, rfl⟩
/-- What the least and the greatest of the first products are. -/
def Firsts (p q r s : Int) (k : Nat) (lo hi : Int) : Prop :=
  (k = 0 ∧ lo = p ∧ hi = p) ∨ (k = 1 ∧ lo = min p q ∧ hi = max p q) ∨ (k = 2 ∧ lo = min (min p q) r ∧ hi = max (max p q) r) ∨ (k = 3 ∧ lo = min (min (min p q) r) s ∧ hi = max (max (max p q) r) s)
/-- Two boxes of a bound each: one with these ends, one with noughts. -/
def Boxes (m r : Nat) (lo hi : Int) (w : World) : Prop :=
  (m < w.heap.size ∧ w.cell? ⟨m, 0, none⟩ = some (.int .i64 lo) ∧ w.cell? ⟨m, 1, none⟩ = some (.int .i64 hi) ∧ w.frozen? ⟨m, 0, none⟩ = false ∧ w.frozen? ⟨m, 1, none⟩ = false)
  ∧ (r < w.heap.size ∧ w.cell? ⟨r, 0, none⟩ = some (.int .i64 0) ∧ w.cell? ⟨r, 1, none⟩ = some (.int .i64 0) ∧ w.frozen? ⟨r, 0, none⟩ = false ∧ w.frozen? ⟨r, 1, none⟩ = false)
theorem Boxes.later {m r : Nat} {lo hi : Int} {W w1 : World} (h : Boxes m r lo hi W) (hb : Below W.heap.size W w1) : Boxes m r lo hi w1 := by
  obtain ⟨⟨h0, a0, a1, a2, a3⟩, h1, b0, b1, b2, b3⟩ := h
  have hs := hb.size
  exact ⟨⟨by omega, (hb.cell (p := ⟨m, 0, none⟩) h0).trans a0, (hb.cell (p := ⟨m, 1, none⟩) h0).trans a1, (hb.frozen (p := ⟨m, 0, none⟩) h0).trans a2, (hb.frozen (p := ⟨m, 1, none⟩) h0).trans a3⟩,
    by omega, (hb.cell (p := ⟨r, 0, none⟩) h1).trans b0, (hb.cell (p := ⟨r, 1, none⟩) h1).trans b1, (hb.frozen (p := ⟨r, 0, none⟩) h1).trans b2, (hb.frozen (p := ⟨r, 1, none⟩) h1).trans b3⟩
theorem Boxes.drew {m r : Nat} {lo hi : Int} {W : World} (h : Boxes m r lo hi W) : Boxes m r lo hi W.drew := h
theorem Boxes.put {m r : Nat} {lo hi x y : Int} {W : World} (h : Boxes m r lo hi W) (hmr : m ≠ r) : Boxes m r x y ((W.setCell ⟨m, 0, none⟩ (.int .i64 x)).setCell ⟨m, 1, none⟩ (.int .i64 y)) := by
  obtain ⟨⟨h0, a0, a1, a2, a3⟩, h1, b0, b1, b2, b3⟩ := h
  refine ⟨⟨by simp [World.setCell]; exact h0, ?_, ?_, ?_, ?_⟩, by simp [World.setCell]; exact h1, ?_, ?_, ?_, ?_⟩ <;> simp [go_sem, *]

set_option maxHeartbeats 4000000 in
theorem product_raw (al ah bl bh : Int) (ha : -2147483648 ≤ al) (ha2 : al ≤ 2147483648) (hb : -2147483648 ≤ ah) (hb2 : ah ≤ 2147483648) (hc : -2147483648 ≤ bl) (hc2 : bl ≤ 2147483648) (hd : -2147483648 ≤ bh) (hd2 : bh ≤ 2147483648) (w : World) : Calls Tryd.prog 40 #[.agg #[.int .i64 al, .int .i64 ah], .agg #[.int .i64 bl, .int .i64 bh]] w fun e w' => e = .returned (.agg #[.int .i64 (min (min (min (wrap64 (al * bl)) (wrap64 (al * bh))) (wrap64 (ah * bl))) (wrap64 (ah * bh))), .int .i64 (max (max (max (wrap64 (al * bl)) (wrap64 (al * bh))) (wrap64 (ah * bl))) (wrap64 (ah * bh)))]) ∧ Below w.heap.size w w' := by
  have i40 := idx4_0 al ah bl bh
  have i41 := idx4_1 al ah bl bh
  have i42 := idx4_2 al ah bl bh
  have i43 := idx4_3 al ah bl bh
  have i30 := idx3_0 (wrap64 (al * bh)) (wrap64 (ah * bl)) (wrap64 (ah * bh))
  have i31 := idx3_1 (wrap64 (al * bh)) (wrap64 (ah * bl)) (wrap64 (ah * bh))
  have i32 := idx3_2 (wrap64 (al * bh)) (wrap64 (ah * bl)) (wrap64 (ah * bh))
  go_enter Tryd.func40, Tryd.ntmps40
  go_wp2_with (first | (go_at_call 17; refine (one_at _ _).mono ?_; rintro e w' ⟨rfl, rfl⟩) | go_in)
  refine wp_loop_rounds 5 ?_
  repeat any_goals (rw [rounds_succ]; go_wp2_with (first | (go_at_call 17; refine (one_at _ _).mono ?_; rintro e w' ⟨rfl, rfl⟩) | go_in))
  go_loopw [52] (fun ix wr => ∃ (k : Nat) (lo hi : Int), Firsts (wrap64 (al * bl)) (wrap64 (al * bh)) (wrap64 (ah * bl)) (wrap64 (ah * bh)) k lo hi ∧ ix = .int .i64 k ∧ Below w.heap.size w wr ∧ Boxes (w.heap.size + 1 + 1 + 1 + 1 + 1 + 1 + 1 + 1 + 1) (w.heap.size + 1 + 1) lo hi wr) (fun ix _ => 3 - (intOf ix).toNat)
  case atStart => exact ⟨0, _, _, Or.inl ⟨rfl, rfl, rfl⟩, rfl, by repeat' first | exact Below.refl _ _ | refine Below.alloc ?_ ?_ _ | refine Below.setCell ?_ ?_ _ | refine Below.drew ?_ | (simp; done) | (simp; omega) | (simp [drew_size]; done) | (simp [drew_size]; omega) | omega, ⟨by (simp; try omega), by simp [go_sem], by simp [go_sem], by simp [go_sem], by simp [go_sem]⟩, by (simp; try omega), by simp [go_sem], by simp [go_sem], by simp [go_sem], by simp [go_sem]⟩
  case round =>
    obtain ⟨k, lo, hi, hk, rfl, hbw, hX⟩ := hrel
    have hmr : w.heap.size + 1 + 1 + 1 + 1 + 1 + 1 + 1 + 1 + 1 ≠ w.heap.size + 1 + 1 := by omega
    have hw1 : w.heap.size ≤ w.heap.size + 1 + 1 + 1 + 1 + 1 + 1 + 1 + 1 + 1 := by omega
    have hw2 : w.heap.size ≤ w.heap.size + 1 + 1 := by omega
    generalize w.heap.size + 1 + 1 + 1 + 1 + 1 + 1 + 1 + 1 + 1 = m at *
    generalize w.heap.size + 1 + 1 = r at *
    obtain ⟨⟨m0, c0, c1, f0, f1⟩, n0, r0, r1, z0, z1⟩ := hX
    have hX : Boxes m r lo hi wr := ⟨⟨m0, c0, c1, f0, f1⟩, n0, r0, r1, z0, z1⟩
    have hsz := hbw.size
    have hsz : w.heap.size ≤ wr.heap.size := hbw.size
    rcases hk with ⟨rfl, hlo, hhi⟩ | ⟨rfl, hlo, hhi⟩ | ⟨rfl, hlo, hhi⟩ | ⟨rfl, rfl, rfl⟩
    · have Hlo : Hid (_ = _) := hlo
      have Hhi : Hid (_ = _) := hhi
      clear hlo hhi
      go_wp2_with (first | (go_at_call 17; go_must (refine (one_is _ _).mono ?_; rintro e w1 ⟨rfl, hb1⟩; have hbw1 : Below w.heap.size w w1 := (by ((refine Below.trans ?_ (hb1.mono ?_)) <;> (first | exact hbw | exact hbw.drew | exact hbw1 | exact hbw1.drew | exact hsz | exact hsz1))); have hX1 : Boxes m r lo hi w1 := Boxes.later (by first | exact hX.drew | exact hX) hb1; have hsz1 : w.heap.size ≤ w1.heap.size := hbw1.size; obtain ⟨⟨m1, c01, c11, f01, f11⟩, n1, r01, r11, z01, z11⟩ := hX1; have hX1 : Boxes m r lo hi w1 := ⟨⟨m1, c01, c11, f01, f11⟩, n1, r01, r11, z01, z11⟩)) | (go_at_call 14; go_must (refine (join_is _ _ _ _ _).mono ?_; rintro e w2 ⟨rfl, hb2⟩; have hbw2 : Below w.heap.size w w2 := (by ((refine Below.trans ?_ (hb2.mono ?_)) <;> (first | exact hbw | exact hbw.drew | exact hbw1 | exact hbw1.drew | exact hsz | exact hsz1))); have hX2 : Boxes m r lo hi w2 := Boxes.later (by first | exact hX1 | exact hX1.drew) hb2; have hsz2 : w.heap.size ≤ w2.heap.size := hbw2.size; obtain ⟨⟨m2, c02, c12, f02, f12⟩, n2, r02, r12, z02, z12⟩ := hX2; have hX2 : Boxes m r lo hi w2 := ⟨⟨m2, c02, c12, f02, f12⟩, n2, r02, r12, z02, z12⟩)))
      go_region_with (first | (go_at_call 17; go_must (refine (one_is _ _).mono ?_; rintro e w1 ⟨rfl, hb1⟩; have hbw1 : Below w.heap.size w w1 := (by ((refine Below.trans ?_ (hb1.mono ?_)) <;> (first | exact hbw | exact hbw.drew | exact hbw1 | exact hbw1.drew | exact hsz | exact hsz1))); have hX1 : Boxes m r lo hi w1 := Boxes.later (by first | exact hX.drew | exact hX) hb1; have hsz1 : w.heap.size ≤ w1.heap.size := hbw1.size; obtain ⟨⟨m1, c01, c11, f01, f11⟩, n1, r01, r11, z01, z11⟩ := hX1; have hX1 : Boxes m r lo hi w1 := ⟨⟨m1, c01, c11, f01, f11⟩, n1, r01, r11, z01, z11⟩)) | (go_at_call 14; go_must (refine (join_is _ _ _ _ _).mono ?_; rintro e w2 ⟨rfl, hb2⟩; have hbw2 : Below w.heap.size w w2 := (by ((refine Below.trans ?_ (hb2.mono ?_)) <;> (first | exact hbw | exact hbw.drew | exact hbw1 | exact hbw1.drew | exact hsz | exact hsz1))); have hX2 : Boxes m r lo hi w2 := Boxes.later (by first | exact hX1 | exact hX1.drew) hb2; have hsz2 : w.heap.size ≤ w2.heap.size := hbw2.size; obtain ⟨⟨m2, c02, c12, f02, f12⟩, n2, r02, r12, z02, z12⟩ := hX2; have hX2 : Boxes m r lo hi w2 := ⟨⟨m2, c02, c12, f02, f12⟩, n2, r02, r12, z02, z12⟩)))
      all_goals go_wp2_with (first | (go_at_call 17; go_must (refine (one_is _ _).mono ?_; rintro e w1 ⟨rfl, hb1⟩; have hbw1 : Below w.heap.size w w1 := (by ((refine Below.trans ?_ (hb1.mono ?_)) <;> (first | exact hbw | exact hbw.drew | exact hbw1 | exact hbw1.drew | exact hsz | exact hsz1))); have hX1 : Boxes m r lo hi w1 := Boxes.later (by first | exact hX.drew | exact hX) hb1; have hsz1 : w.heap.size ≤ w1.heap.size := hbw1.size; obtain ⟨⟨m1, c01, c11, f01, f11⟩, n1, r01, r11, z01, z11⟩ := hX1; have hX1 : Boxes m r lo hi w1 := ⟨⟨m1, c01, c11, f01, f11⟩, n1, r01, r11, z01, z11⟩)) | (go_at_call 14; go_must (refine (join_is _ _ _ _ _).mono ?_; rintro e w2 ⟨rfl, hb2⟩; have hbw2 : Below w.heap.size w w2 := (by ((refine Below.trans ?_ (hb2.mono ?_)) <;> (first | exact hbw | exact hbw.drew | exact hbw1 | exact hbw1.drew | exact hsz | exact hsz1))); have hX2 : Boxes m r lo hi w2 := Boxes.later (by first | exact hX1 | exact hX1.drew) hb2; have hsz2 : w.heap.size ≤ w2.heap.size := hbw2.size; obtain ⟨⟨m2, c02, c12, f02, f12⟩, n2, r02, r12, z02, z12⟩ := hX2; have hX2 : Boxes m r lo hi w2 := ⟨⟨m2, c02, c12, f02, f12⟩, n2, r02, r12, z02, z12⟩)))
      all_goals exact ⟨⟨1, _, _, Or.inr (Or.inl ⟨rfl, by rw [Hlo.out], by rw [Hhi.out]⟩), rfl, (hbw2.setCell hw1 _).setCell hw1 _, hX2.put hmr⟩, by simp [intOf]⟩
    · have Hlo : Hid (_ = _) := hlo
      have Hhi : Hid (_ = _) := hhi
      clear hlo hhi
      go_wp2_with (first | (go_at_call 17; go_must (refine (one_is _ _).mono ?_; rintro e w1 ⟨rfl, hb1⟩; have hbw1 : Below w.heap.size w w1 := (by ((refine Below.trans ?_ (hb1.mono ?_)) <;> (first | exact hbw | exact hbw.drew | exact hbw1 | exact hbw1.drew | exact hsz | exact hsz1))); have hX1 : Boxes m r lo hi w1 := Boxes.later (by first | exact hX.drew | exact hX) hb1; have hsz1 : w.heap.size ≤ w1.heap.size := hbw1.size; obtain ⟨⟨m1, c01, c11, f01, f11⟩, n1, r01, r11, z01, z11⟩ := hX1; have hX1 : Boxes m r lo hi w1 := ⟨⟨m1, c01, c11, f01, f11⟩, n1, r01, r11, z01, z11⟩)) | (go_at_call 14; go_must (refine (join_is _ _ _ _ _).mono ?_; rintro e w2 ⟨rfl, hb2⟩; have hbw2 : Below w.heap.size w w2 := (by ((refine Below.trans ?_ (hb2.mono ?_)) <;> (first | exact hbw | exact hbw.drew | exact hbw1 | exact hbw1.drew | exact hsz | exact hsz1))); have hX2 : Boxes m r lo hi w2 := Boxes.later (by first | exact hX1 | exact hX1.drew) hb2; have hsz2 : w.heap.size ≤ w2.heap.size := hbw2.size; obtain ⟨⟨m2, c02, c12, f02, f12⟩, n2, r02, r12, z02, z12⟩ := hX2; have hX2 : Boxes m r lo hi w2 := ⟨⟨m2, c02, c12, f02, f12⟩, n2, r02, r12, z02, z12⟩)))
      go_region_with (first | (go_at_call 17; go_must (refine (one_is _ _).mono ?_; rintro e w1 ⟨rfl, hb1⟩; have hbw1 : Below w.heap.size w w1 := (by ((refine Below.trans ?_ (hb1.mono ?_)) <;> (first | exact hbw | exact hbw.drew | exact hbw1 | exact hbw1.drew | exact hsz | exact hsz1))); have hX1 : Boxes m r lo hi w1 := Boxes.later (by first | exact hX.drew | exact hX) hb1; have hsz1 : w.heap.size ≤ w1.heap.size := hbw1.size; obtain ⟨⟨m1, c01, c11, f01, f11⟩, n1, r01, r11, z01, z11⟩ := hX1; have hX1 : Boxes m r lo hi w1 := ⟨⟨m1, c01, c11, f01, f11⟩, n1, r01, r11, z01, z11⟩)) | (go_at_call 14; go_must (refine (join_is _ _ _ _ _).mono ?_; rintro e w2 ⟨rfl, hb2⟩; have hbw2 : Below w.heap.size w w2 := (by ((refine Below.trans ?_ (hb2.mono ?_)) <;> (first | exact hbw | exact hbw.drew | exact hbw1 | exact hbw1.drew | exact hsz | exact hsz1))); have hX2 : Boxes m r lo hi w2 := Boxes.later (by first | exact hX1 | exact hX1.drew) hb2; have hsz2 : w.heap.size ≤ w2.heap.size := hbw2.size; obtain ⟨⟨m2, c02, c12, f02, f12⟩, n2, r02, r12, z02, z12⟩ := hX2; have hX2 : Boxes m r lo hi w2 := ⟨⟨m2, c02, c12, f02, f12⟩, n2, r02, r12, z02, z12⟩)))
      all_goals go_wp2_with (first | (go_at_call 17; go_must (refine (one_is _ _).mono ?_; rintro e w1 ⟨rfl, hb1⟩; have hbw1 : Below w.heap.size w w1 := (by ((refine Below.trans ?_ (hb1.mono ?_)) <;> (first | exact hbw | exact hbw.drew | exact hbw1 | exact hbw1.drew | exact hsz | exact hsz1))); have hX1 : Boxes m r lo hi w1 := Boxes.later (by first | exact hX.drew | exact hX) hb1; have hsz1 : w.heap.size ≤ w1.heap.size := hbw1.size; obtain ⟨⟨m1, c01, c11, f01, f11⟩, n1, r01, r11, z01, z11⟩ := hX1; have hX1 : Boxes m r lo hi w1 := ⟨⟨m1, c01, c11, f01, f11⟩, n1, r01, r11, z01, z11⟩)) | (go_at_call 14; go_must (refine (join_is _ _ _ _ _).mono ?_; rintro e w2 ⟨rfl, hb2⟩; have hbw2 : Below w.heap.size w w2 := (by ((refine Below.trans ?_ (hb2.mono ?_)) <;> (first | exact hbw | exact hbw.drew | exact hbw1 | exact hbw1.drew | exact hsz | exact hsz1))); have hX2 : Boxes m r lo hi w2 := Boxes.later (by first | exact hX1 | exact hX1.drew) hb2; have hsz2 : w.heap.size ≤ w2.heap.size := hbw2.size; obtain ⟨⟨m2, c02, c12, f02, f12⟩, n2, r02, r12, z02, z12⟩ := hX2; have hX2 : Boxes m r lo hi w2 := ⟨⟨m2, c02, c12, f02, f12⟩, n2, r02, r12, z02, z12⟩)))
      all_goals exact ⟨⟨2, _, _, Or.inr (Or.inr (Or.inl ⟨rfl, by rw [Hlo.out], by rw [Hhi.out]⟩)), rfl, (hbw2.setCell hw1 _).setCell hw1 _, hX2.put hmr⟩, by simp [intOf]⟩
    · have Hlo : Hid (_ = _) := hlo
      have Hhi : Hid (_ = _) := hhi
      clear hlo hhi
      go_wp2_with (first | (go_at_call 17; go_must (refine (one_is _ _).mono ?_; rintro e w1 ⟨rfl, hb1⟩; have hbw1 : Below w.heap.size w w1 := (by ((refine Below.trans ?_ (hb1.mono ?_)) <;> (first | exact hbw | exact hbw.drew | exact hbw1 | exact hbw1.drew | exact hsz | exact hsz1))); have hX1 : Boxes m r lo hi w1 := Boxes.later (by first | exact hX.drew | exact hX) hb1; have hsz1 : w.heap.size ≤ w1.heap.size := hbw1.size; obtain ⟨⟨m1, c01, c11, f01, f11⟩, n1, r01, r11, z01, z11⟩ := hX1; have hX1 : Boxes m r lo hi w1 := ⟨⟨m1, c01, c11, f01, f11⟩, n1, r01, r11, z01, z11⟩)) | (go_at_call 14; go_must (refine (join_is _ _ _ _ _).mono ?_; rintro e w2 ⟨rfl, hb2⟩; have hbw2 : Below w.heap.size w w2 := (by ((refine Below.trans ?_ (hb2.mono ?_)) <;> (first | exact hbw | exact hbw.drew | exact hbw1 | exact hbw1.drew | exact hsz | exact hsz1))); have hX2 : Boxes m r lo hi w2 := Boxes.later (by first | exact hX1 | exact hX1.drew) hb2; have hsz2 : w.heap.size ≤ w2.heap.size := hbw2.size; obtain ⟨⟨m2, c02, c12, f02, f12⟩, n2, r02, r12, z02, z12⟩ := hX2; have hX2 : Boxes m r lo hi w2 := ⟨⟨m2, c02, c12, f02, f12⟩, n2, r02, r12, z02, z12⟩)))
      go_region_with (first | (go_at_call 17; go_must (refine (one_is _ _).mono ?_; rintro e w1 ⟨rfl, hb1⟩; have hbw1 : Below w.heap.size w w1 := (by ((refine Below.trans ?_ (hb1.mono ?_)) <;> (first | exact hbw | exact hbw.drew | exact hbw1 | exact hbw1.drew | exact hsz | exact hsz1))); have hX1 : Boxes m r lo hi w1 := Boxes.later (by first | exact hX.drew | exact hX) hb1; have hsz1 : w.heap.size ≤ w1.heap.size := hbw1.size; obtain ⟨⟨m1, c01, c11, f01, f11⟩, n1, r01, r11, z01, z11⟩ := hX1; have hX1 : Boxes m r lo hi w1 := ⟨⟨m1, c01, c11, f01, f11⟩, n1, r01, r11, z01, z11⟩)) | (go_at_call 14; go_must (refine (join_is _ _ _ _ _).mono ?_; rintro e w2 ⟨rfl, hb2⟩; have hbw2 : Below w.heap.size w w2 := (by ((refine Below.trans ?_ (hb2.mono ?_)) <;> (first | exact hbw | exact hbw.drew | exact hbw1 | exact hbw1.drew | exact hsz | exact hsz1))); have hX2 : Boxes m r lo hi w2 := Boxes.later (by first | exact hX1 | exact hX1.drew) hb2; have hsz2 : w.heap.size ≤ w2.heap.size := hbw2.size; obtain ⟨⟨m2, c02, c12, f02, f12⟩, n2, r02, r12, z02, z12⟩ := hX2; have hX2 : Boxes m r lo hi w2 := ⟨⟨m2, c02, c12, f02, f12⟩, n2, r02, r12, z02, z12⟩)))
      all_goals go_wp2_with (first | (go_at_call 17; go_must (refine (one_is _ _).mono ?_; rintro e w1 ⟨rfl, hb1⟩; have hbw1 : Below w.heap.size w w1 := (by ((refine Below.trans ?_ (hb1.mono ?_)) <;> (first | exact hbw | exact hbw.drew | exact hbw1 | exact hbw1.drew | exact hsz | exact hsz1))); have hX1 : Boxes m r lo hi w1 := Boxes.later (by first | exact hX.drew | exact hX) hb1; have hsz1 : w.heap.size ≤ w1.heap.size := hbw1.size; obtain ⟨⟨m1, c01, c11, f01, f11⟩, n1, r01, r11, z01, z11⟩ := hX1; have hX1 : Boxes m r lo hi w1 := ⟨⟨m1, c01, c11, f01, f11⟩, n1, r01, r11, z01, z11⟩)) | (go_at_call 14; go_must (refine (join_is _ _ _ _ _).mono ?_; rintro e w2 ⟨rfl, hb2⟩; have hbw2 : Below w.heap.size w w2 := (by ((refine Below.trans ?_ (hb2.mono ?_)) <;> (first | exact hbw | exact hbw.drew | exact hbw1 | exact hbw1.drew | exact hsz | exact hsz1))); have hX2 : Boxes m r lo hi w2 := Boxes.later (by first | exact hX1 | exact hX1.drew) hb2; have hsz2 : w.heap.size ≤ w2.heap.size := hbw2.size; obtain ⟨⟨m2, c02, c12, f02, f12⟩, n2, r02, r12, z02, z12⟩ := hX2; have hX2 : Boxes m r lo hi w2 := ⟨⟨m2, c02, c12, f02, f12⟩, n2, r02, r12, z02, z12⟩)))
      all_goals exact ⟨⟨3, _, _, Or.inr (Or.inr (Or.inr ⟨rfl, by rw [Hlo.out], by rw [Hhi.out]⟩)), rfl, (hbw2.setCell hw1 _).setCell hw1 _, hX2.put hmr⟩, by simp [intOf]⟩
    · go_wp2_with (first | (go_at_call 17; go_must (refine (one_is _ _).mono ?_; rintro e w1 ⟨rfl, hb1⟩; have hbw1 : Below w.heap.size w w1 := (by ((refine Below.trans ?_ (hb1.mono ?_)) <;> (first | exact hbw | exact hbw.drew | exact hbw1 | exact hbw1.drew | exact hsz | exact hsz1))); have hX1 : Boxes m r lo hi w1 := Boxes.later (by first | exact hX.drew | exact hX) hb1; have hsz1 : w.heap.size ≤ w1.heap.size := hbw1.size; obtain ⟨⟨m1, c01, c11, f01, f11⟩, n1, r01, r11, z01, z11⟩ := hX1; have hX1 : Boxes m r lo hi w1 := ⟨⟨m1, c01, c11, f01, f11⟩, n1, r01, r11, z01, z11⟩)) | (go_at_call 14; go_must (refine (join_is _ _ _ _ _).mono ?_; rintro e w2 ⟨rfl, hb2⟩; have hbw2 : Below w.heap.size w w2 := (by ((refine Below.trans ?_ (hb2.mono ?_)) <;> (first | exact hbw | exact hbw.drew | exact hbw1 | exact hbw1.drew | exact hsz | exact hsz1))); have hX2 : Boxes m r lo hi w2 := Boxes.later (by first | exact hX1 | exact hX1.drew) hb2; have hsz2 : w.heap.size ≤ w2.heap.size := hbw2.size; obtain ⟨⟨m2, c02, c12, f02, f12⟩, n2, r02, r12, z02, z12⟩ := hX2; have hX2 : Boxes m r lo hi w2 := ⟨⟨m2, c02, c12, f02, f12⟩, n2, r02, r12, z02, z12⟩)))
      exact bodyPost_ret (v := .agg #[.int .i64 (min (min (min (wrap64 (al * bl)) (wrap64 (al * bh))) (wrap64 (ah * bl))) (wrap64 (ah * bh))), .int .i64 (max (max (max (wrap64 (al * bl)) (wrap64 (al * bh))) (wrap64 (ah * bl))) (wrap64 (ah * bh)))]) (by simp [results, Tryd.results40, go_sem, r0, r1]) rfl ⟨rfl, (hbw.setCell hw2 _).setCell hw2 _⟩
theorem has_small (n : Int) (w : World) : Calls Tryd.prog 16 #[.agg #[.int .i64 (-2147483648), .int .i64 2147483648], .int .i64 n] w fun e w' => e = .returned (.bool (smallB n)) ∧ w' = w.alloc (.cells #[.int .i64 (-2147483648), .int .i64 2147483648] 37) := by
  unfold smallB
  by_cases h1 : -2147483648 ≤ n
  · go_enter Tryd.func16, Tryd.ntmps16
    go_wp2
    go_ret
    exact ⟨ret_bool (by simp [h1]), rfl⟩
  · have h2 : decide (-2147483648 ≤ n) = false := by simpa using h1
    rw [h2, Bool.false_and]
    go_enter Tryd.func16, Tryd.ntmps16
    go_wp2
    go_ret
    exact ⟨rfl, rfl⟩
set_option maxHeartbeats 2000000 in
theorem product_no0 (al ah bl bh : Int) (h0 : smallB al = false) (w : World) : Calls Tryd.prog 40 #[.agg #[.int .i64 al, .int .i64 ah], .agg #[.int .i64 bl, .int .i64 bh]] w fun e w' => e = .returned (.agg #[.int .i64 (-9223372036854775808), .int .i64 9223372036854775807]) ∧ Below w.heap.size w w' := by
  have i40 := idx4_0 al ah bl bh
  have i41 := idx4_1 al ah bl bh
  have i42 := idx4_2 al ah bl bh
  have i43 := idx4_3 al ah bl bh
  go_enter Tryd.func40, Tryd.ntmps40
  go_wp2_with (first | (go_at_call 16; refine (has_small _ _).mono ?_; rintro e w' ⟨rfl, rfl⟩) | (go_at_call 25; refine (all_is _).mono ?_; rintro e w1 ⟨rfl, hb1⟩; obtain ⟨hcl1, hfr1⟩ := old_cells hb1; have hs1 := hb1.size; (try simp only [drew_size] at hs1); (try simp at hs1); have hbw1 : Below w.heap.size w w1 := by ((refine Below.trans ?_ (hb1.mono ?_)) <;> repeat' first | exact Below.refl _ _ | refine Below.alloc ?_ ?_ _ | refine Below.setCell ?_ ?_ _ | refine Below.drew ?_ | (simp; done) | (simp; omega) | (simp [drew_size]; done) | (simp [drew_size]; omega) | omega)))
  refine wp_loop_rounds 5 ?_
  repeat any_goals (rw [rounds_succ]; go_wp2_with (first | (go_at_call 16; refine (has_small _ _).mono ?_; rintro e w' ⟨rfl, rfl⟩) | (go_at_call 25; refine (all_is _).mono ?_; rintro e w1 ⟨rfl, hb1⟩; obtain ⟨hcl1, hfr1⟩ := old_cells hb1; have hs1 := hb1.size; (try simp only [drew_size] at hs1); (try simp at hs1); have hbw1 : Below w.heap.size w w1 := by ((refine Below.trans ?_ (hb1.mono ?_)) <;> repeat' first | exact Below.refl _ _ | refine Below.alloc ?_ ?_ _ | refine Below.setCell ?_ ?_ _ | refine Below.drew ?_ | (simp; done) | (simp; omega) | (simp [drew_size]; done) | (simp [drew_size]; omega) | omega))))
  all_goals exact bodyPost_ret (v := .agg #[.int .i64 (-9223372036854775808), .int .i64 9223372036854775807]) (by simp [results, Tryd.results40, go_sem, hcl1]) rfl ⟨rfl, by repeat' first | exact Below.refl _ _ | exact hbw1 | refine Below.alloc ?_ ?_ _ | refine Below.setCell ?_ ?_ _ | refine Below.drew ?_ | (simp; done) | (simp; omega) | (simp [drew_size]; done) | (simp [drew_size]; omega) | omega⟩
set_option maxHeartbeats 2000000 in
theorem product_no1 (al ah bl bh : Int) (h0 : smallB al = true) (h1 : smallB ah = false) (w : World) : Calls Tryd.prog 40 #[.agg #[.int .i64 al, .int .i64 ah], .agg #[.int .i64 bl, .int .i64 bh]] w fun e w' => e = .returned (.agg #[.int .i64 (-9223372036854775808), .int .i64 9223372036854775807]) ∧ Below w.heap.size w w' := by
  have i40 := idx4_0 al ah bl bh
  have i41 := idx4_1 al ah bl bh
  have i42 := idx4_2 al ah bl bh
  have i43 := idx4_3 al ah bl bh
  go_enter Tryd.func40, Tryd.ntmps40
  go_wp2_with (first | (go_at_call 16; refine (has_small _ _).mono ?_; rintro e w' ⟨rfl, rfl⟩) | (go_at_call 25; refine (all_is _).mono ?_; rintro e w1 ⟨rfl, hb1⟩; obtain ⟨hcl1, hfr1⟩ := old_cells hb1; have hs1 := hb1.size; (try simp only [drew_size] at hs1); (try simp at hs1); have hbw1 : Below w.heap.size w w1 := by ((refine Below.trans ?_ (hb1.mono ?_)) <;> repeat' first | exact Below.refl _ _ | refine Below.alloc ?_ ?_ _ | refine Below.setCell ?_ ?_ _ | refine Below.drew ?_ | (simp; done) | (simp; omega) | (simp [drew_size]; done) | (simp [drew_size]; omega) | omega)))
  refine wp_loop_rounds 5 ?_
  repeat any_goals (rw [rounds_succ]; go_wp2_with (first | (go_at_call 16; refine (has_small _ _).mono ?_; rintro e w' ⟨rfl, rfl⟩) | (go_at_call 25; refine (all_is _).mono ?_; rintro e w1 ⟨rfl, hb1⟩; obtain ⟨hcl1, hfr1⟩ := old_cells hb1; have hs1 := hb1.size; (try simp only [drew_size] at hs1); (try simp at hs1); have hbw1 : Below w.heap.size w w1 := by ((refine Below.trans ?_ (hb1.mono ?_)) <;> repeat' first | exact Below.refl _ _ | refine Below.alloc ?_ ?_ _ | refine Below.setCell ?_ ?_ _ | refine Below.drew ?_ | (simp; done) | (simp; omega) | (simp [drew_size]; done) | (simp [drew_size]; omega) | omega))))
  all_goals exact bodyPost_ret (v := .agg #[.int .i64 (-9223372036854775808), .int .i64 9223372036854775807]) (by simp [results, Tryd.results40, go_sem, hcl1]) rfl ⟨rfl, by repeat' first | exact Below.refl _ _ | exact hbw1 | refine Below.alloc ?_ ?_ _ | refine Below.setCell ?_ ?_ _ | refine Below.drew ?_ | (simp; done) | (simp; omega) | (simp [drew_size]; done) | (simp [drew_size]; omega) | omega⟩
set_option maxHeartbeats 2000000 in
theorem product_no2 (al ah bl bh : Int) (h0 : smallB al = true) (h1 : smallB ah = true) (h2 : smallB bl = false) (w : World) : Calls Tryd.prog 40 #[.agg #[.int .i64 al, .int .i64 ah], .agg #[.int .i64 bl, .int .i64 bh]] w fun e w' => e = .returned (.agg #[.int .i64 (-9223372036854775808), .int .i64 9223372036854775807]) ∧ Below w.heap.size w w' := by
  have i40 := idx4_0 al ah bl bh
  have i41 := idx4_1 al ah bl bh
  have i42 := idx4_2 al ah bl bh
  have i43 := idx4_3 al ah bl bh
  go_enter Tryd.func40, Tryd.ntmps40
  go_wp2_with (first | (go_at_call 16; refine (has_small _ _).mono ?_; rintro e w' ⟨rfl, rfl⟩) | (go_at_call 25; refine (all_is _).mono ?_; rintro e w1 ⟨rfl, hb1⟩; obtain ⟨hcl1, hfr1⟩ := old_cells hb1; have hs1 := hb1.size; (try simp only [drew_size] at hs1); (try simp at hs1); have hbw1 : Below w.heap.size w w1 := by ((refine Below.trans ?_ (hb1.mono ?_)) <;> repeat' first | exact Below.refl _ _ | refine Below.alloc ?_ ?_ _ | refine Below.setCell ?_ ?_ _ | refine Below.drew ?_ | (simp; done) | (simp; omega) | (simp [drew_size]; done) | (simp [drew_size]; omega) | omega)))
  refine wp_loop_rounds 5 ?_
  repeat any_goals (rw [rounds_succ]; go_wp2_with (first | (go_at_call 16; refine (has_small _ _).mono ?_; rintro e w' ⟨rfl, rfl⟩) | (go_at_call 25; refine (all_is _).mono ?_; rintro e w1 ⟨rfl, hb1⟩; obtain ⟨hcl1, hfr1⟩ := old_cells hb1; have hs1 := hb1.size; (try simp only [drew_size] at hs1); (try simp at hs1); have hbw1 : Below w.heap.size w w1 := by ((refine Below.trans ?_ (hb1.mono ?_)) <;> repeat' first | exact Below.refl _ _ | refine Below.alloc ?_ ?_ _ | refine Below.setCell ?_ ?_ _ | refine Below.drew ?_ | (simp; done) | (simp; omega) | (simp [drew_size]; done) | (simp [drew_size]; omega) | omega))))
  all_goals exact bodyPost_ret (v := .agg #[.int .i64 (-9223372036854775808), .int .i64 9223372036854775807]) (by simp [results, Tryd.results40, go_sem, hcl1]) rfl ⟨rfl, by repeat' first | exact Below.refl _ _ | exact hbw1 | refine Below.alloc ?_ ?_ _ | refine Below.setCell ?_ ?_ _ | refine Below.drew ?_ | (simp; done) | (simp; omega) | (simp [drew_size]; done) | (simp [drew_size]; omega) | omega⟩
set_option maxHeartbeats 2000000 in
theorem product_no3 (al ah bl bh : Int) (h0 : smallB al = true) (h1 : smallB ah = true) (h2 : smallB bl = true) (h3 : smallB bh = false) (w : World) : Calls Tryd.prog 40 #[.agg #[.int .i64 al, .int .i64 ah], .agg #[.int .i64 bl, .int .i64 bh]] w fun e w' => e = .returned (.agg #[.int .i64 (-9223372036854775808), .int .i64 9223372036854775807]) ∧ Below w.heap.size w w' := by
  have i40 := idx4_0 al ah bl bh
  have i41 := idx4_1 al ah bl bh
  have i42 := idx4_2 al ah bl bh
  have i43 := idx4_3 al ah bl bh
  go_enter Tryd.func40, Tryd.ntmps40
  go_wp2_with (first | (go_at_call 16; refine (has_small _ _).mono ?_; rintro e w' ⟨rfl, rfl⟩) | (go_at_call 25; refine (all_is _).mono ?_; rintro e w1 ⟨rfl, hb1⟩; obtain ⟨hcl1, hfr1⟩ := old_cells hb1; have hs1 := hb1.size; (try simp only [drew_size] at hs1); (try simp at hs1); have hbw1 : Below w.heap.size w w1 := by ((refine Below.trans ?_ (hb1.mono ?_)) <;> repeat' first | exact Below.refl _ _ | refine Below.alloc ?_ ?_ _ | refine Below.setCell ?_ ?_ _ | refine Below.drew ?_ | (simp; done) | (simp; omega) | (simp [drew_size]; done) | (simp [drew_size]; omega) | omega)))
  refine wp_loop_rounds 5 ?_
  repeat any_goals (rw [rounds_succ]; go_wp2_with (first | (go_at_call 16; refine (has_small _ _).mono ?_; rintro e w' ⟨rfl, rfl⟩) | (go_at_call 25; refine (all_is _).mono ?_; rintro e w1 ⟨rfl, hb1⟩; obtain ⟨hcl1, hfr1⟩ := old_cells hb1; have hs1 := hb1.size; (try simp only [drew_size] at hs1); (try simp at hs1); have hbw1 : Below w.heap.size w w1 := by ((refine Below.trans ?_ (hb1.mono ?_)) <;> repeat' first | exact Below.refl _ _ | refine Below.alloc ?_ ?_ _ | refine Below.setCell ?_ ?_ _ | refine Below.drew ?_ | (simp; done) | (simp; omega) | (simp [drew_size]; done) | (simp [drew_size]; omega) | omega))))
  all_goals exact bodyPost_ret (v := .agg #[.int .i64 (-9223372036854775808), .int .i64 9223372036854775807]) (by simp [results, Tryd.results40, go_sem, hcl1]) rfl ⟨rfl, by repeat' first | exact Below.refl _ _ | exact hbw1 | refine Below.alloc ?_ ?_ _ | refine Below.setCell ?_ ?_ _ | refine Below.drew ?_ | (simp; done) | (simp; omega) | (simp [drew_size]; done) | (simp [drew_size]; omega) | omega⟩
theorem product_is (al ah bl bh : Int) (w : World) : Calls Tryd.prog 40 #[.agg #[.int .i64 al, .int .i64 ah], .agg #[.int .i64 bl, .int .i64 bh]] w fun e w' => e = .returned (.agg #[.int .i64 ((bdV 4 al ah bl bh).1), .int .i64 ((bdV 4 al ah bl bh).2)]) ∧ Below w.heap.size w w' := by
  rw [bdV_4]
  cases h0 : smallB al
  · exact product_no0 al ah bl bh h0 w
  cases h1 : smallB ah
  · exact product_no1 al ah bl bh h0 h1 w
  cases h2 : smallB bl
  · exact product_no2 al ah bl bh h0 h1 h2 w
  cases h3 : smallB bh
  · exact product_no3 al ah bl bh h0 h1 h2 h3 w
  have k0 := (small_iff _).1 h0
  have k1 := (small_iff _).1 h1
  have k2 := (small_iff _).1 h2
  have k3 := (small_iff _).1 h3
  have e := product_raw al ah bl bh k0.1 k0.2 k1.1 k1.2 k2.1 k2.2 k3.1 k3.2 w
  rw [small_mul h0 h2, small_mul h0 h3, small_mul h1 h2, small_mul h1 h3] at e
  exact e
end Go.Proofs.YtllphbfhfmieaaaDoor
