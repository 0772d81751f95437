/-
  What bound.Narrow, bound.Meet and bound.Opposite return, by one function on integers each; the world below is as it was. Conditions: the ends are numbers of 64 bits, the low end not above the high one.
-/
import Derived.Test.YtllphbfhfmieaaaDoorBoundNar2
namespace Go.Proofs.YtllphbfhfmieaaaDoor
open Go.ChangeShapes Go.WideShapes Go.ChangeAt Go.RowKit
set_option linter.unusedVariables false
theorem setCell_size (w : World) (a : Addr) (v : Value) : (w.setCell a v).heap.size = w.heap.size := by simp [World.setCell]
attribute [local simp] drew_size drewN_size setCell_size
theorem later_box {W w1 : World} (hb : Below W.heap.size W w1) (n : Nat) (h : n < W.heap.size) : n < w1.heap.size ∧ w1.cell? ⟨n, 0, none⟩ = W.cell? ⟨n, 0, none⟩ ∧ w1.cell? ⟨n, 1, none⟩ = W.cell? ⟨n, 1, none⟩ ∧ w1.frozen? ⟨n, 0, none⟩ = W.frozen? ⟨n, 0, none⟩ ∧ w1.frozen? ⟨n, 1, none⟩ = W.frozen? ⟨n, 1, none⟩ :=
  ⟨Nat.lt_of_lt_of_le h hb.size, hb.cell (p := ⟨n, 0, none⟩) h, hb.cell (p := ⟨n, 1, none⟩) h, hb.frozen (p := ⟨n, 0, none⟩) h, hb.frozen (p := ⟨n, 1, none⟩) h⟩
/-- What two bounds have in common. -/
def meetV (al ah bl bh : Int) : (Int × Int) × Bool := if max al bl ≤ min ah bh then ((max al bl, min ah bh), true) else ((0, 0), false)
/-- What is left of two bounds, if the first one is below the other, by so much at least. -/
def belV (g al ah bl bh : Int) : (Int × Int) × (Int × Int) × Bool := if al ≤ ah ∧ al + g ≤ bh then ((al, min ah (bh - g)), (max bl (al + g), bh), true) else ((0, 0), (0, 0), false)
def unsV (g al ah bl bh : Int) : (Int × Int) × (Int × Int) × Bool := if bl < 0 then ((al, ah), (bl, bh), true) else belV g (max al 0) ah bl bh
def apV (al ah bl bh : Int) : (Int × Int) × (Int × Int) × Bool := if al = bl ∧ ah = bh ∧ ah = al then ((0, 0), (0, 0), false) else (cutV al ah bl bh, cutV bl bh al ah, true)
def swapV (x : (Int × Int) × (Int × Int) × Bool) : (Int × Int) × (Int × Int) × Bool := (x.2.1, x.1, x.2.2)
/-- What is left of two bounds, if what a code asks is so. -/
def narV (c al ah bl bh : Int) : (Int × Int) × (Int × Int) × Bool :=
  if c = 15 then ((meetV al ah bl bh).1, (meetV al ah bl bh).1, (meetV al ah bl bh).2) else if c = 16 then apV al ah bl bh
  else if c = 17 then swapV (unsV 1 bl bh al ah) else if c = 18 then swapV (unsV 0 bl bh al ah) else if c = 19 then unsV 1 al ah bl bh else if c = 20 then unsV 0 al ah bl bh
  else if c = 21 then swapV (belV 1 bl bh al ah) else if c = 22 then swapV (belV 0 bl bh al ah) else if c = 23 then belV 1 al ah bl bh else if c = 24 then belV 0 al ah bl bh
  else ((al, ah), (bl, bh), true)
theorem narV_15 (al ah bl bh : Int) : narV 15 al ah bl bh = ((meetV al ah bl bh).1, (meetV al ah bl bh).1, (meetV al ah bl bh).2) := by simp only [narV, reduceIte, Int.reduceEq]
theorem narV_16 (al ah bl bh : Int) : narV 16 al ah bl bh = apV al ah bl bh := by simp only [narV, reduceIte, Int.reduceEq]
theorem narV_17 (al ah bl bh : Int) : narV 17 al ah bl bh = swapV (unsV 1 bl bh al ah) := by simp only [narV, reduceIte, Int.reduceEq]
theorem narV_18 (al ah bl bh : Int) : narV 18 al ah bl bh = swapV (unsV 0 bl bh al ah) := by simp only [narV, reduceIte, Int.reduceEq]
theorem narV_19 (al ah bl bh : Int) : narV 19 al ah bl bh = unsV 1 al ah bl bh := by simp only [narV, reduceIte, Int.reduceEq]
theorem narV_20 (al ah bl bh : Int) : narV 20 al ah bl bh = unsV 0 al ah bl bh := by simp only [narV, reduceIte, Int.reduceEq]
theorem narV_21 (al ah bl bh : Int) : narV 21 al ah bl bh = swapV (belV 1 bl bh al ah) := by simp only [narV, reduceIte, Int.reduceEq]
theorem narV_22 (al ah bl bh : Int) : narV 22 al ah bl bh = swapV (belV 0 bl bh al ah) := by simp only [narV, reduceIte, Int.reduceEq]
theorem narV_23 (al ah bl bh : Int) : narV 23 al ah bl bh = belV 1 al ah bl bh := by simp only [narV, reduceIte, Int.reduceEq]
theorem narV_24 (al ah bl bh : Int) : narV 24 al ah bl bh = belV 0 al ah bl bh := by simp only [narV, reduceIte, Int.reduceEq]
theorem narV_no {c : Int} (al ah bl bh : Int) (h : c < 15 ∨ 24 < c) : narV c al ah bl bh = ((al, ah), (bl, bh), true) := by
  have e : ∀ k : Int, 15 ≤ k → k ≤ 24 → c ≠ k := fun k h1 h2 => by omega
  unfold narV
  rw [if_neg (e 15 (by decide) (by decide)), if_neg (e 16 (by decide) (by decide)), if_neg (e 17 (by decide) (by decide)), if_neg (e 18 (by decide) (by decide)), if_neg (e 19 (by decide) (by decide)), if_neg (e 20 (by decide) (by decide)), if_neg (e 21 (by decide) (by decide)), if_neg (e 22 (by decide) (by decide)), if_neg (e 23 (by decide) (by decide)), if_neg (e 24 (by decide) (by decide))]
theorem meet_is (al ah bl bh : Int) (w : World) : Calls Tryd.prog 19 #[.agg #[.int .i64 al, .int .i64 ah], .agg #[.int .i64 bl, .int .i64 bh]] w fun e w' => e = .returned (.tuple #[.agg #[.int .i64 (((meetV al ah bl bh).1).1), .int .i64 (((meetV al ah bl bh).1).2)], .bool ((meetV al ah bl bh).2)]) ∧ Below w.heap.size w w' := by
  unfold meetV
  by_cases h : max al bl ≤ min ah bh
  · rw [if_pos h]
    exact meet_yes al ah bl bh h w
  · rw [if_neg h]
    exact meet_no al ah bl bh (by omega) w
theorem asks_19 {x y : Int} (h0 : 0 ≤ x) (h1 : x ≤ 9223372036854775807) (h2 : 0 ≤ y) (h3 : y ≤ 9223372036854775807) : isV 19 x y = decide (x < y) := by
  rw [isV_19]; have a := uns_pos h0 h1; have b := uns_pos h2 h3; congr 1; rw [eq_iff_iff]; omega
theorem asks_20 {x y : Int} (h0 : 0 ≤ x) (h1 : x ≤ 9223372036854775807) (h2 : 0 ≤ y) (h3 : y ≤ 9223372036854775807) : isV 20 x y = decide (x ≤ y) := by
  rw [isV_20]; have a := uns_pos h0 h1; have b := uns_pos h2 h3; congr 1; rw [eq_iff_iff]; omega
theorem below_19 (al ah bl bh : Int) (pal : -9223372036854775808 ≤ al) (qal : al ≤ 9223372036854775807) (pah : -9223372036854775808 ≤ ah) (qah : ah ≤ 9223372036854775807) (pbl : -9223372036854775808 ≤ bl) (qbl : bl ≤ 9223372036854775807) (pbh : -9223372036854775808 ≤ bh) (qbh : bh ≤ 9223372036854775807) (oa : al ≤ ah) (ob : bl ≤ bh) (w : World) : Calls Tryd.prog 55 #[.int .i64 19, .agg #[.int .i64 al, .int .i64 ah], .agg #[.int .i64 bl, .int .i64 bh]] w fun e w' => e = .returned (.tuple #[.agg #[.int .i64 (((unsV 1 al ah bl bh).1).1), .int .i64 (((unsV 1 al ah bl bh).1).2)], .agg #[.int .i64 (((unsV 1 al ah bl bh).2.1).1), .int .i64 (((unsV 1 al ah bl bh).2.1).2)], .bool ((unsV 1 al ah bl bh).2.2)]) ∧ Below w.heap.size w w' := by
  unfold unsV
  by_cases hb : bl < 0
  · rw [if_pos hb]
    exact below_19n al ah bl bh hb w
  rw [if_neg hb]
  have hb0 : 0 ≤ bl := by omega
  have hi := asks_19 (x := max al 0) (y := bh) (by omega) (by omega) (by omega) qbh
  unfold belV
  by_cases h : max al 0 ≤ ah
  · by_cases h2 : max al 0 < bh
    · rw [if_pos ⟨h, by omega⟩]
      exact below_19t al ah bl bh hb0 h (by rw [hi]; exact decide_eq_true h2) (by omega) (by omega) (by omega) (by omega) w
    · rw [if_neg (fun x => h2 (by omega))]
      exact below_19f al ah bl bh hb0 h (by rw [hi]; exact decide_eq_false h2) w
  · rw [if_neg (fun x => h x.1)]
    exact below_19e al ah bl bh hb0 (by omega) w
theorem below_20 (al ah bl bh : Int) (pal : -9223372036854775808 ≤ al) (qal : al ≤ 9223372036854775807) (pah : -9223372036854775808 ≤ ah) (qah : ah ≤ 9223372036854775807) (pbl : -9223372036854775808 ≤ bl) (qbl : bl ≤ 9223372036854775807) (pbh : -9223372036854775808 ≤ bh) (qbh : bh ≤ 9223372036854775807) (oa : al ≤ ah) (ob : bl ≤ bh) (w : World) : Calls Tryd.prog 55 #[.int .i64 20, .agg #[.int .i64 al, .int .i64 ah], .agg #[.int .i64 bl, .int .i64 bh]] w fun e w' => e = .returned (.tuple #[.agg #[.int .i64 (((unsV 0 al ah bl bh).1).1), .int .i64 (((unsV 0 al ah bl bh).1).2)], .agg #[.int .i64 (((unsV 0 al ah bl bh).2.1).1), .int .i64 (((unsV 0 al ah bl bh).2.1).2)], .bool ((unsV 0 al ah bl bh).2.2)]) ∧ Below w.heap.size w w' := by
  unfold unsV
  by_cases hb : bl < 0
  · rw [if_pos hb]
    exact below_20n al ah bl bh hb w
  rw [if_neg hb]
  have hb0 : 0 ≤ bl := by omega
  have hi := asks_20 (x := max al 0) (y := bh) (by omega) (by omega) (by omega) qbh
  unfold belV
  by_cases h : max al 0 ≤ ah
  · by_cases h2 : max al 0 ≤ bh
    · rw [if_pos ⟨h, by omega⟩]
      rw [show bh - 0 = bh by omega, show max al 0 + 0 = max al 0 by omega]
      exact below_20t al ah bl bh hb0 h (by rw [hi]; exact decide_eq_true h2) (by omega) (by omega) (by omega) (by omega) w
    · rw [if_neg (fun x => h2 (by omega))]
      exact below_20f al ah bl bh hb0 h (by rw [hi]; exact decide_eq_false h2) w
  · rw [if_neg (fun x => h x.1)]
    exact below_20e al ah bl bh hb0 (by omega) w
theorem below_23 (al ah bl bh : Int) (pal : -9223372036854775808 ≤ al) (qal : al ≤ 9223372036854775807) (pah : -9223372036854775808 ≤ ah) (qah : ah ≤ 9223372036854775807) (pbl : -9223372036854775808 ≤ bl) (qbl : bl ≤ 9223372036854775807) (pbh : -9223372036854775808 ≤ bh) (qbh : bh ≤ 9223372036854775807) (oa : al ≤ ah) (ob : bl ≤ bh) (w : World) : Calls Tryd.prog 55 #[.int .i64 23, .agg #[.int .i64 al, .int .i64 ah], .agg #[.int .i64 bl, .int .i64 bh]] w fun e w' => e = .returned (.tuple #[.agg #[.int .i64 (((belV 1 al ah bl bh).1).1), .int .i64 (((belV 1 al ah bl bh).1).2)], .agg #[.int .i64 (((belV 1 al ah bl bh).2.1).1), .int .i64 (((belV 1 al ah bl bh).2.1).2)], .bool ((belV 1 al ah bl bh).2.2)]) ∧ Below w.heap.size w w' := by
  have hi := isV_23 al bh
  unfold belV
  by_cases h : al ≤ ah
  · by_cases h2 : al < bh
    · rw [if_pos ⟨h, by omega⟩]
      exact below_23t al ah bl bh h (by rw [hi]; exact decide_eq_true h2) (by omega) (by omega) (by omega) (by omega) w
    · rw [if_neg (fun x => h2 (by omega))]
      exact below_23f al ah bl bh h (by rw [hi]; exact decide_eq_false h2) w
  · rw [if_neg (fun x => h x.1)]
    exact below_23e al ah bl bh (by omega) w
theorem below_24 (al ah bl bh : Int) (pal : -9223372036854775808 ≤ al) (qal : al ≤ 9223372036854775807) (pah : -9223372036854775808 ≤ ah) (qah : ah ≤ 9223372036854775807) (pbl : -9223372036854775808 ≤ bl) (qbl : bl ≤ 9223372036854775807) (pbh : -9223372036854775808 ≤ bh) (qbh : bh ≤ 9223372036854775807) (oa : al ≤ ah) (ob : bl ≤ bh) (w : World) : Calls Tryd.prog 55 #[.int .i64 24, .agg #[.int .i64 al, .int .i64 ah], .agg #[.int .i64 bl, .int .i64 bh]] w fun e w' => e = .returned (.tuple #[.agg #[.int .i64 (((belV 0 al ah bl bh).1).1), .int .i64 (((belV 0 al ah bl bh).1).2)], .agg #[.int .i64 (((belV 0 al ah bl bh).2.1).1), .int .i64 (((belV 0 al ah bl bh).2.1).2)], .bool ((belV 0 al ah bl bh).2.2)]) ∧ Below w.heap.size w w' := by
  have hi := isV_24 al bh
  unfold belV
  by_cases h : al ≤ ah
  · by_cases h2 : al ≤ bh
    · rw [if_pos ⟨h, by omega⟩]
      rw [show bh - 0 = bh by omega, show al + 0 = al by omega]
      exact below_24t al ah bl bh h (by rw [hi]; exact decide_eq_true h2) (by omega) (by omega) (by omega) (by omega) w
    · rw [if_neg (fun x => h2 (by omega))]
      exact below_24f al ah bl bh h (by rw [hi]; exact decide_eq_false h2) w
  · rw [if_neg (fun x => h x.1)]
    exact below_24e al ah bl bh (by omega) w
theorem apart_is (al ah bl bh : Int) (pal : -9223372036854775808 ≤ al) (qal : al ≤ 9223372036854775807) (pah : -9223372036854775808 ≤ ah) (qah : ah ≤ 9223372036854775807) (pbl : -9223372036854775808 ≤ bl) (qbl : bl ≤ 9223372036854775807) (pbh : -9223372036854775808 ≤ bh) (qbh : bh ≤ 9223372036854775807) (oa : al ≤ ah) (ob : bl ≤ bh) (w : World) : Calls Tryd.prog 54 #[.agg #[.int .i64 al, .int .i64 ah], .agg #[.int .i64 bl, .int .i64 bh]] w fun e w' => e = .returned (.tuple #[.agg #[.int .i64 (((apV al ah bl bh).1).1), .int .i64 (((apV al ah bl bh).1).2)], .agg #[.int .i64 (((apV al ah bl bh).2.1).1), .int .i64 (((apV al ah bl bh).2.1).2)], .bool ((apV al ah bl bh).2.2)]) ∧ Below w.heap.size w w' := by
  unfold apV
  by_cases h0 : al = bl
  · subst h0
    by_cases h1 : ah = bh
    · subst h1
      by_cases h2 : ah = al
      · rw [if_pos ⟨rfl, rfl, h2⟩]
        subst h2
        exact apart_no ah w
      · rw [if_neg (fun x => h2 x.2.2)]
        exact apart_y1 al ah pal qal pah qah oa h2 w
    · rw [if_neg (fun x => h1 x.2.1)]
      exact apart_y3 al ah bh pal qal pah qah pbh qbh oa ob h1 w
  · rw [if_neg (fun x => h0 x.1)]
    exact apart_y2 al ah bl bh pal qal pah qah pbl qbl pbh qbh oa ob h0 w
/-- Two boxes of a bound each with noughts, and two others with these ends. -/
def Outs (n L U : Nat) (x0 x1 y0 y1 : Int) (w : World) : Prop :=
  w.cell? ⟨n + 1 + 1, 0, none⟩ = some (.int .i64 0) ∧ w.cell? ⟨n + 1 + 1, 1, none⟩ = some (.int .i64 0) ∧ w.frozen? ⟨n + 1 + 1, 0, none⟩ = false ∧ w.frozen? ⟨n + 1 + 1, 1, none⟩ = false
  ∧ w.cell? ⟨n + 1 + 1 + 1, 0, none⟩ = some (.int .i64 0) ∧ w.cell? ⟨n + 1 + 1 + 1, 1, none⟩ = some (.int .i64 0) ∧ w.frozen? ⟨n + 1 + 1 + 1, 0, none⟩ = false ∧ w.frozen? ⟨n + 1 + 1 + 1, 1, none⟩ = false
  ∧ w.cell? ⟨L, 0, none⟩ = some (.int .i64 x0) ∧ w.cell? ⟨L, 1, none⟩ = some (.int .i64 x1) ∧ w.cell? ⟨U, 0, none⟩ = some (.int .i64 y0) ∧ w.cell? ⟨U, 1, none⟩ = some (.int .i64 y1)
  ∧ L ≠ n + 1 + 1 ∧ L ≠ n + 1 + 1 + 1 ∧ U ≠ n + 1 + 1 ∧ U ≠ n + 1 + 1 + 1
set_option maxHeartbeats 8000000 in
theorem nar_15 (al ah bl bh : Int) (pal : -9223372036854775808 ≤ al) (qal : al ≤ 9223372036854775807) (pah : -9223372036854775808 ≤ ah) (qah : ah ≤ 9223372036854775807) (pbl : -9223372036854775808 ≤ bl) (qbl : bl ≤ 9223372036854775807) (pbh : -9223372036854775808 ≤ bh) (qbh : bh ≤ 9223372036854775807) (oa : al ≤ ah) (ob : bl ≤ bh) (w : World) : Calls Tryd.prog 24 #[.int .i64 15, .agg #[.int .i64 al, .int .i64 ah], .agg #[.int .i64 bl, .int .i64 bh]] w fun e w' => e = .returned (.tuple #[.agg #[.int .i64 (((meetV al ah bl bh).1).1), .int .i64 (((meetV al ah bl bh).1).2)], .agg #[.int .i64 (((meetV al ah bl bh).1).1), .int .i64 (((meetV al ah bl bh).1).2)], .bool ((meetV al ah bl bh).2)]) ∧ Below w.heap.size w w' := by
  go_enter Tryd.func24, Tryd.ntmps24
  go_wp2_with (first | (go_at_call 19; go_must (refine (meet_is _ _ _ _ _).mono ?_; rintro e w1 ⟨rfl, hb1⟩; have hX1 : Quad w.heap.size al ah bl bh w1 := Quad.later (by first | exact hX1 | (refine ⟨?_, ?_, ?_, ?_, ?_, ?_, ?_, ?_, ?_, ?_, ?_, ?_, ?_, ?_, ?_, ?_, ?_⟩ <;> simp [go_sem])) hb1; have hbw1 : Below w.heap.size w w1 := (by ((refine Below.trans ?_ (hb1.mono ?_)) <;> repeat' first | exact Below.refl _ _ | exact hbw1 | refine Below.alloc ?_ ?_ _ | refine Below.setCell ?_ ?_ _ | refine Below.drew ?_ | refine below_drewN ?_ _ | (simp; done) | (simp; omega) | (simp [drew_size]; done) | (simp [drew_size]; omega) | omega)); have hY := hX1; obtain ⟨t0, a0, a1, af0, af1, b0, b1, bf0, bf1, r0, r1, rf0, rf1, s0, s1, sf0, sf1⟩ := hY; have u2 : w.heap.size + 1 + 1 < w1.heap.size := (by omega); have u0 : w.heap.size < w1.heap.size := (by omega); have u1 : w.heap.size + 1 < w1.heap.size := (by omega))))
  all_goals go_region
  all_goals go_wp2
  all_goals exact bodyPost_ret (v := .tuple #[.agg #[.int .i64 (((meetV al ah bl bh).1).1), .int .i64 (((meetV al ah bl bh).1).2)], .agg #[.int .i64 (((meetV al ah bl bh).1).1), .int .i64 (((meetV al ah bl bh).1).2)], .bool ((meetV al ah bl bh).2)]) (by simp [results, Tryd.results24, go_sem, r0, r1, s0, s1, u2, t0]) rfl ⟨rfl, by repeat' first | exact Below.refl _ _ | exact hbw1 | refine Below.alloc ?_ ?_ _ | refine Below.setCell ?_ ?_ _ | refine Below.drew ?_ | refine below_drewN ?_ _ | (simp; done) | (simp; omega) | (simp [drew_size]; done) | (simp [drew_size]; omega) | omega⟩
set_option maxHeartbeats 8000000 in
theorem nar_16 (al ah bl bh : Int) (pal : -9223372036854775808 ≤ al) (qal : al ≤ 9223372036854775807) (pah : -9223372036854775808 ≤ ah) (qah : ah ≤ 9223372036854775807) (pbl : -9223372036854775808 ≤ bl) (qbl : bl ≤ 9223372036854775807) (pbh : -9223372036854775808 ≤ bh) (qbh : bh ≤ 9223372036854775807) (oa : al ≤ ah) (ob : bl ≤ bh) (w : World) : Calls Tryd.prog 24 #[.int .i64 16, .agg #[.int .i64 al, .int .i64 ah], .agg #[.int .i64 bl, .int .i64 bh]] w fun e w' => e = .returned (.tuple #[.agg #[.int .i64 (((apV al ah bl bh).1).1), .int .i64 (((apV al ah bl bh).1).2)], .agg #[.int .i64 (((apV al ah bl bh).2.1).1), .int .i64 (((apV al ah bl bh).2.1).2)], .bool ((apV al ah bl bh).2.2)]) ∧ Below w.heap.size w w' := by
  go_enter Tryd.func24, Tryd.ntmps24
  go_wp2_with (first | (go_at_call 54; go_must (refine (apart_is _ _ _ _ pal qal pah qah pbl qbl pbh qbh oa ob _).mono ?_; rintro e w1 ⟨rfl, hb1⟩; have hX1 : Quad w.heap.size al ah bl bh w1 := Quad.later (by first | exact hX1 | (refine ⟨?_, ?_, ?_, ?_, ?_, ?_, ?_, ?_, ?_, ?_, ?_, ?_, ?_, ?_, ?_, ?_, ?_⟩ <;> simp [go_sem])) hb1; have hbw1 : Below w.heap.size w w1 := (by ((refine Below.trans ?_ (hb1.mono ?_)) <;> repeat' first | exact Below.refl _ _ | exact hbw1 | refine Below.alloc ?_ ?_ _ | refine Below.setCell ?_ ?_ _ | refine Below.drew ?_ | refine below_drewN ?_ _ | (simp; done) | (simp; omega) | (simp [drew_size]; done) | (simp [drew_size]; omega) | omega)); have hY := hX1; obtain ⟨t0, a0, a1, af0, af1, b0, b1, bf0, bf1, r0, r1, rf0, rf1, s0, s1, sf0, sf1⟩ := hY; have u2 : w.heap.size + 1 + 1 < w1.heap.size := (by omega); have u0 : w.heap.size < w1.heap.size := (by omega); have u1 : w.heap.size + 1 < w1.heap.size := (by omega))))
  all_goals exact bodyPost_ret (v := .tuple #[.agg #[.int .i64 (((apV al ah bl bh).1).1), .int .i64 (((apV al ah bl bh).1).2)], .agg #[.int .i64 (((apV al ah bl bh).2.1).1), .int .i64 (((apV al ah bl bh).2.1).2)], .bool ((apV al ah bl bh).2.2)]) (by simp [results, Tryd.results24, go_sem, r0, r1, s0, s1]) rfl ⟨rfl, by repeat' first | exact Below.refl _ _ | exact hbw1 | refine Below.alloc ?_ ?_ _ | refine Below.setCell ?_ ?_ _ | refine Below.drew ?_ | refine below_drewN ?_ _ | (simp; done) | (simp; omega) | (simp [drew_size]; done) | (simp [drew_size]; omega) | omega⟩
set_option maxHeartbeats 8000000 in
theorem nar_19 (al ah bl bh : Int) (pal : -9223372036854775808 ≤ al) (qal : al ≤ 9223372036854775807) (pah : -9223372036854775808 ≤ ah) (qah : ah ≤ 9223372036854775807) (pbl : -9223372036854775808 ≤ bl) (qbl : bl ≤ 9223372036854775807) (pbh : -9223372036854775808 ≤ bh) (qbh : bh ≤ 9223372036854775807) (oa : al ≤ ah) (ob : bl ≤ bh) (w : World) : Calls Tryd.prog 24 #[.int .i64 19, .agg #[.int .i64 al, .int .i64 ah], .agg #[.int .i64 bl, .int .i64 bh]] w fun e w' => e = .returned (.tuple #[.agg #[.int .i64 (((unsV 1 al ah bl bh).1).1), .int .i64 (((unsV 1 al ah bl bh).1).2)], .agg #[.int .i64 (((unsV 1 al ah bl bh).2.1).1), .int .i64 (((unsV 1 al ah bl bh).2.1).2)], .bool ((unsV 1 al ah bl bh).2.2)]) ∧ Below w.heap.size w w' := by
  go_enter Tryd.func24, Tryd.ntmps24
  go_wp2_with (first | (go_at_call 55; go_must (refine (below_19 _ _ _ _ pal qal pah qah pbl qbl pbh qbh oa ob _).mono ?_; rintro e w1 ⟨rfl, hb1⟩; have hX1 : Quad w.heap.size al ah bl bh w1 := Quad.later (by first | exact hX1 | (refine ⟨?_, ?_, ?_, ?_, ?_, ?_, ?_, ?_, ?_, ?_, ?_, ?_, ?_, ?_, ?_, ?_, ?_⟩ <;> simp [go_sem])) hb1; have hbw1 : Below w.heap.size w w1 := (by ((refine Below.trans ?_ (hb1.mono ?_)) <;> repeat' first | exact Below.refl _ _ | exact hbw1 | refine Below.alloc ?_ ?_ _ | refine Below.setCell ?_ ?_ _ | refine Below.drew ?_ | refine below_drewN ?_ _ | (simp; done) | (simp; omega) | (simp [drew_size]; done) | (simp [drew_size]; omega) | omega)); have hY := hX1; obtain ⟨t0, a0, a1, af0, af1, b0, b1, bf0, bf1, r0, r1, rf0, rf1, s0, s1, sf0, sf1⟩ := hY; have u2 : w.heap.size + 1 + 1 < w1.heap.size := (by omega); have u0 : w.heap.size < w1.heap.size := (by omega); have u1 : w.heap.size + 1 < w1.heap.size := (by omega))))
  all_goals exact bodyPost_ret (v := .tuple #[.agg #[.int .i64 (((unsV 1 al ah bl bh).1).1), .int .i64 (((unsV 1 al ah bl bh).1).2)], .agg #[.int .i64 (((unsV 1 al ah bl bh).2.1).1), .int .i64 (((unsV 1 al ah bl bh).2.1).2)], .bool ((unsV 1 al ah bl bh).2.2)]) (by simp [results, Tryd.results24, go_sem, r0, r1, s0, s1]) rfl ⟨rfl, by repeat' first | exact Below.refl _ _ | exact hbw1 | refine Below.alloc ?_ ?_ _ | refine Below.setCell ?_ ?_ _ | refine Below.drew ?_ | refine below_drewN ?_ _ | (simp; done) | (simp; omega) | (simp [drew_size]; done) | (simp [drew_size]; omega) | omega⟩
set_option maxHeartbeats 8000000 in
theorem nar_20 (al ah bl bh : Int) (pal : -9223372036854775808 ≤ al) (qal : al ≤ 9223372036854775807) (pah : -9223372036854775808 ≤ ah) (qah : ah ≤ 9223372036854775807) (pbl : -9223372036854775808 ≤ bl) (qbl : bl ≤ 9223372036854775807) (pbh : -9223372036854775808 ≤ bh) (qbh : bh ≤ 9223372036854775807) (oa : al ≤ ah) (ob : bl ≤ bh) (w : World) : Calls Tryd.prog 24 #[.int .i64 20, .agg #[.int .i64 al, .int .i64 ah], .agg #[.int .i64 bl, .int .i64 bh]] w fun e w' => e = .returned (.tuple #[.agg #[.int .i64 (((unsV 0 al ah bl bh).1).1), .int .i64 (((unsV 0 al ah bl bh).1).2)], .agg #[.int .i64 (((unsV 0 al ah bl bh).2.1).1), .int .i64 (((unsV 0 al ah bl bh).2.1).2)], .bool ((unsV 0 al ah bl bh).2.2)]) ∧ Below w.heap.size w w' := by
  go_enter Tryd.func24, Tryd.ntmps24
  go_wp2_with (first | (go_at_call 55; go_must (refine (below_20 _ _ _ _ pal qal pah qah pbl qbl pbh qbh oa ob _).mono ?_; rintro e w1 ⟨rfl, hb1⟩; have hX1 : Quad w.heap.size al ah bl bh w1 := Quad.later (by first | exact hX1 | (refine ⟨?_, ?_, ?_, ?_, ?_, ?_, ?_, ?_, ?_, ?_, ?_, ?_, ?_, ?_, ?_, ?_, ?_⟩ <;> simp [go_sem])) hb1; have hbw1 : Below w.heap.size w w1 := (by ((refine Below.trans ?_ (hb1.mono ?_)) <;> repeat' first | exact Below.refl _ _ | exact hbw1 | refine Below.alloc ?_ ?_ _ | refine Below.setCell ?_ ?_ _ | refine Below.drew ?_ | refine below_drewN ?_ _ | (simp; done) | (simp; omega) | (simp [drew_size]; done) | (simp [drew_size]; omega) | omega)); have hY := hX1; obtain ⟨t0, a0, a1, af0, af1, b0, b1, bf0, bf1, r0, r1, rf0, rf1, s0, s1, sf0, sf1⟩ := hY; have u2 : w.heap.size + 1 + 1 < w1.heap.size := (by omega); have u0 : w.heap.size < w1.heap.size := (by omega); have u1 : w.heap.size + 1 < w1.heap.size := (by omega))))
  all_goals exact bodyPost_ret (v := .tuple #[.agg #[.int .i64 (((unsV 0 al ah bl bh).1).1), .int .i64 (((unsV 0 al ah bl bh).1).2)], .agg #[.int .i64 (((unsV 0 al ah bl bh).2.1).1), .int .i64 (((unsV 0 al ah bl bh).2.1).2)], .bool ((unsV 0 al ah bl bh).2.2)]) (by simp [results, Tryd.results24, go_sem, r0, r1, s0, s1]) rfl ⟨rfl, by repeat' first | exact Below.refl _ _ | exact hbw1 | refine Below.alloc ?_ ?_ _ | refine Below.setCell ?_ ?_ _ | refine Below.drew ?_ | refine below_drewN ?_ _ | (simp; done) | (simp; omega) | (simp [drew_size]; done) | (simp [drew_size]; omega) | omega⟩
set_option maxHeartbeats 8000000 in
theorem nar_23 (al ah bl bh : Int) (pal : -9223372036854775808 ≤ al) (qal : al ≤ 9223372036854775807) (pah : -9223372036854775808 ≤ ah) (qah : ah ≤ 9223372036854775807) (pbl : -9223372036854775808 ≤ bl) (qbl : bl ≤ 9223372036854775807) (pbh : -9223372036854775808 ≤ bh) (qbh : bh ≤ 9223372036854775807) (oa : al ≤ ah) (ob : bl ≤ bh) (w : World) : Calls Tryd.prog 24 #[.int .i64 23, .agg #[.int .i64 al, .int .i64 ah], .agg #[.int .i64 bl, .int .i64 bh]] w fun e w' => e = .returned (.tuple #[.agg #[.int .i64 (((belV 1 al ah bl bh).1).1), .int .i64 (((belV 1 al ah bl bh).1).2)], .agg #[.int .i64 (((belV 1 al ah bl bh).2.1).1), .int .i64 (((belV 1 al ah bl bh).2.1).2)], .bool ((belV 1 al ah bl bh).2.2)]) ∧ Below w.heap.size w w' := by
  go_enter Tryd.func24, Tryd.ntmps24
  go_wp2_with (first | (go_at_call 55; go_must (refine (below_23 _ _ _ _ pal qal pah qah pbl qbl pbh qbh oa ob _).mono ?_; rintro e w1 ⟨rfl, hb1⟩; have hX1 : Quad w.heap.size al ah bl bh w1 := Quad.later (by first | exact hX1 | (refine ⟨?_, ?_, ?_, ?_, ?_, ?_, ?_, ?_, ?_, ?_, ?_, ?_, ?_, ?_, ?_, ?_, ?_⟩ <;> simp [go_sem])) hb1; have hbw1 : Below w.heap.size w w1 := (by ((refine Below.trans ?_ (hb1.mono ?_)) <;> repeat' first | exact Below.refl _ _ | exact hbw1 | refine Below.alloc ?_ ?_ _ | refine Below.setCell ?_ ?_ _ | refine Below.drew ?_ | refine below_drewN ?_ _ | (simp; done) | (simp; omega) | (simp [drew_size]; done) | (simp [drew_size]; omega) | omega)); have hY := hX1; obtain ⟨t0, a0, a1, af0, af1, b0, b1, bf0, bf1, r0, r1, rf0, rf1, s0, s1, sf0, sf1⟩ := hY; have u2 : w.heap.size + 1 + 1 < w1.heap.size := (by omega); have u0 : w.heap.size < w1.heap.size := (by omega); have u1 : w.heap.size + 1 < w1.heap.size := (by omega))))
  all_goals exact bodyPost_ret (v := .tuple #[.agg #[.int .i64 (((belV 1 al ah bl bh).1).1), .int .i64 (((belV 1 al ah bl bh).1).2)], .agg #[.int .i64 (((belV 1 al ah bl bh).2.1).1), .int .i64 (((belV 1 al ah bl bh).2.1).2)], .bool ((belV 1 al ah bl bh).2.2)]) (by simp [results, Tryd.results24, go_sem, r0, r1, s0, s1]) rfl ⟨rfl, by repeat' first | exact Below.refl _ _ | exact hbw1 | refine Below.alloc ?_ ?_ _ | refine Below.setCell ?_ ?_ _ | refine Below.drew ?_ | refine below_drewN ?_ _ | (simp; done) | (simp; omega) | (simp [drew_size]; done) | (simp [drew_size]; omega) | omega⟩
set_option maxHeartbeats 8000000 in
theorem nar_24 (al ah bl bh : Int) (pal : -9223372036854775808 ≤ al) (qal : al ≤ 9223372036854775807) (pah : -9223372036854775808 ≤ ah) (qah : ah ≤ 9223372036854775807) (pbl : -9223372036854775808 ≤ bl) (qbl : bl ≤ 9223372036854775807) (pbh : -9223372036854775808 ≤ bh) (qbh : bh ≤ 9223372036854775807) (oa : al ≤ ah) (ob : bl ≤ bh) (w : World) : Calls Tryd.prog 24 #[.int .i64 24, .agg #[.int .i64 al, .int .i64 ah], .agg #[.int .i64 bl, .int .i64 bh]] w fun e w' => e = .returned (.tuple #[.agg #[.int .i64 (((belV 0 al ah bl bh).1).1), .int .i64 (((belV 0 al ah bl bh).1).2)], .agg #[.int .i64 (((belV 0 al ah bl bh).2.1).1), .int .i64 (((belV 0 al ah bl bh).2.1).2)], .bool ((belV 0 al ah bl bh).2.2)]) ∧ Below w.heap.size w w' := by
  go_enter Tryd.func24, Tryd.ntmps24
  go_wp2_with (first | (go_at_call 55; go_must (refine (below_24 _ _ _ _ pal qal pah qah pbl qbl pbh qbh oa ob _).mono ?_; rintro e w1 ⟨rfl, hb1⟩; have hX1 : Quad w.heap.size al ah bl bh w1 := Quad.later (by first | exact hX1 | (refine ⟨?_, ?_, ?_, ?_, ?_, ?_, ?_, ?_, ?_, ?_, ?_, ?_, ?_, ?_, ?_, ?_, ?_⟩ <;> simp [go_sem])) hb1; have hbw1 : Below w.heap.size w w1 := (by ((refine Below.trans ?_ (hb1.mono ?_)) <;> repeat' first | exact Below.refl _ _ | exact hbw1 | refine Below.alloc ?_ ?_ _ | refine Below.setCell ?_ ?_ _ | refine Below.drew ?_ | refine below_drewN ?_ _ | (simp; done) | (simp; omega) | (simp [drew_size]; done) | (simp [drew_size]; omega) | omega)); have hY := hX1; obtain ⟨t0, a0, a1, af0, af1, b0, b1, bf0, bf1, r0, r1, rf0, rf1, s0, s1, sf0, sf1⟩ := hY; have u2 : w.heap.size + 1 + 1 < w1.heap.size := (by omega); have u0 : w.heap.size < w1.heap.size := (by omega); have u1 : w.heap.size + 1 < w1.heap.size := (by omega))))
  all_goals exact bodyPost_ret (v := .tuple #[.agg #[.int .i64 (((belV 0 al ah bl bh).1).1), .int .i64 (((belV 0 al ah bl bh).1).2)], .agg #[.int .i64 (((belV 0 al ah bl bh).2.1).1), .int .i64 (((belV 0 al ah bl bh).2.1).2)], .bool ((belV 0 al ah bl bh).2.2)]) (by simp [results, Tryd.results24, go_sem, r0, r1, s0, s1]) rfl ⟨rfl, by repeat' first | exact Below.refl _ _ | exact hbw1 | refine Below.alloc ?_ ?_ _ | refine Below.setCell ?_ ?_ _ | refine Below.drew ?_ | refine below_drewN ?_ _ | (simp; done) | (simp; omega) | (simp [drew_size]; done) | (simp [drew_size]; omega) | omega⟩
set_option maxHeartbeats 8000000 in
theorem nar_no (k al ah bl bh : Int) (hk : k < 15 ∨ 24 < k) (w : World) : Calls Tryd.prog 24 #[.int .i64 k, .agg #[.int .i64 al, .int .i64 ah], .agg #[.int .i64 bl, .int .i64 bh]] w fun e w' => e = .returned (.tuple #[.agg #[.int .i64 al, .int .i64 ah], .agg #[.int .i64 bl, .int .i64 bh], .bool true]) ∧ Below w.heap.size w w' := by
  have e15 : (k == 15) = false := by simp; omega
  have e16 : (k == 16) = false := by simp; omega
  have e17 : (k == 17) = false := by simp; omega
  have e18 : (k == 18) = false := by simp; omega
  have e19 : (k == 19) = false := by simp; omega
  have e20 : (k == 20) = false := by simp; omega
  have e21 : (k == 21) = false := by simp; omega
  have e22 : (k == 22) = false := by simp; omega
  have e23 : (k == 23) = false := by simp; omega
  have e24 : (k == 24) = false := by simp; omega
  go_enter Tryd.func24, Tryd.ntmps24
  go_wp2_with fail
  all_goals go_region
  all_goals go_wp2
  all_goals exact bodyPost_ret (v := .tuple #[.agg #[.int .i64 al, .int .i64 ah], .agg #[.int .i64 bl, .int .i64 bh], .bool true]) (by simp [results, Tryd.results24, go_sem]) rfl ⟨rfl, by repeat' first | exact Below.refl _ _ | refine Below.alloc ?_ ?_ _ | refine Below.setCell ?_ ?_ _ | refine Below.drew ?_ | refine below_drewN ?_ _ | (simp; done) | (simp; omega) | (simp [drew_size]; done) | (simp [drew_size]; omega) | omega⟩
end Go.Proofs.YtllphbfhfmieaaaDoor
