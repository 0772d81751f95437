/-
 What bound.apart and bound.Narrow return, as functions on integers; the world below is as it was. Conditions: the ends are numbers of 64 bits, the low end not above the high one. What bound.Narrow, bound.Meet and bound.Opposite return, by one function on integers each; the world below is as it was. Conditions: the ends are numbers of 64 bits, the low end not above the high one. Plain facts on what is left of two bounds: numbers of which what is asked is so are in it, and it is no more than there was; no program is named here. Conditions: the numbers are of 64 bits, and between the ends.
-/
import Derived.Test.YteenhdoaminkeaaGreatDoorJv13
import Derived.Outline
import Derived.BigQuiet
import Derived.Test.YteenhdoaminkeaaGreatDoorJv3
set_option maxHeartbeats 40000000
open Go.Value renaming int → vI
open Go.IntKind renaming i64 → vK
open Go.RowKit.Below renaming alloc → bA, setCell → bS, drew → bD, refl → bF
set_option maxRecDepth 1000000
set_option linter.defProp false
set_option linter.unusedVariables false
set_option linter.unusedSimpArgs false
namespace Go.Proofs.YteenhdoaminkeaaGreatDoor
open Go.ChangeShapes Go.WideShapes Go.ChangeAt Go.RowKit
set_option linter.unusedVariables false
attribute [local simp] z00
def cutV (al ah ol oh : Int) : Int × Int :=
 if al = ah then (al, ah) else if ol = al ∧ oh = al then (al + 1, ah) else if ol = ah ∧ oh = ah then (al, ah - 1) else (al, ah)

theorem z7b (al ah bl bh : Int) (pal : -9223372036854775808 ≤ al) (qah : ah ≤ 9223372036854775807) (oa : al ≤ ah) (w : World) : Calls Tryz.prog 99 #[.agg #[vI vK al, vI vK ah], .agg #[vI vK bl, vI vK bh]] w fun e w' => e = .returned (.agg #[vI vK ((cutV al ah bl bh).1), vI vK ((cutV al ah bl bh).2)]) ∧ Below w.heap.size w w' := by
 unfold cutV
 by_cases h0 : al = ah
 ·rw [if_pos h0]
  subst h0
  exact wo_one al bl bh w
 ·rw [if_neg h0]
  by_cases h1 : bl = al ∧ bh = al
  ·rw [if_pos h1]
   exact wo_low al ah bl bh (fun h => h0 h.symm) (by omega) pal qah ((zBf _ _ _).2 h1) w
  ·rw [if_neg h1]
   by_cases h2 : bl = ah ∧ bh = ah
   ·rw [if_pos h2]
    exact zR2 al ah bl bh (fun h => h0 h.symm) (by omega) pal qah ((zD8 _ _ _).2 h1) ((zBf _ _ _).2 h2) w
   ·rw [if_neg h2]
    exact zR1 al ah bl bh (fun h => h0 h.symm) ((zD8 _ _ _).2 h1) ((zD8 _ _ _).2 h2) w
def Quad (n : Nat) (al ah bl bh : Int) (w : World) : Prop :=
 n + 1 + 1 + 1 < w.heap.size ∧ w.cell? ⟨n, 0, none⟩ = some (vI vK al) ∧ w.cell? ⟨n, 1, none⟩ = some (vI vK ah) ∧ w.frozen? ⟨n, 0, none⟩ = false ∧ w.frozen? ⟨n, 1, none⟩ = false ∧ w.cell? ⟨n + 1, 0, none⟩ = some (vI vK bl) ∧ w.cell? ⟨n + 1, 1, none⟩ = some (vI vK bh) ∧ w.frozen? ⟨n + 1, 0, none⟩ = false ∧ w.frozen? ⟨n + 1, 1, none⟩ = false ∧ w.cell? ⟨n + 1 + 1, 0, none⟩ = some (vI vK 0) ∧ w.cell? ⟨n + 1 + 1, 1, none⟩ = some (vI vK 0) ∧ w.frozen? ⟨n + 1 + 1, 0, none⟩ = false ∧ w.frozen? ⟨n + 1 + 1, 1, none⟩ = false ∧ w.cell? ⟨n + 1 + 1 + 1, 0, none⟩ = some (vI vK 0) ∧ w.cell? ⟨n + 1 + 1 + 1, 1, none⟩ = some (vI vK 0) ∧ w.frozen? ⟨n + 1 + 1 + 1, 0, none⟩ = false ∧ w.frozen? ⟨n + 1 + 1 + 1, 1, none⟩ = false
theorem Quad.later {n : Nat} {al ah bl bh : Int} {W w1 : World} (h : Quad n al ah bl bh W) (hb : Below W.heap.size W w1) : Quad n al ah bl bh w1 := by
 obtain ⟨t0, a0, a1, af0, af1, b0, b1, bf0, bf1, r0, r1, rf0, rf1, s0, s1, sf0, sf1⟩ := h
 have hs := hb.size
 have l0 : n < W.heap.size := by omega
 have l1 : n + 1 < W.heap.size := by omega
 have l2 : n + 1 + 1 < W.heap.size := by omega
 have l3 : n + 1 + 1 + 1 < W.heap.size := by omega
 exact ⟨by omega, (hb.cell (p := ⟨n, 0, none⟩) l0).trans a0, (hb.cell (p := ⟨n, 1, none⟩) l0).trans a1, (hb.frozen (p := ⟨n, 0, none⟩) l0).trans af0, (hb.frozen (p := ⟨n, 1, none⟩) l0).trans af1, (hb.cell (p := ⟨n + 1, 0, none⟩) l1).trans b0, (hb.cell (p := ⟨n + 1, 1, none⟩) l1).trans b1, (hb.frozen (p := ⟨n + 1, 0, none⟩) l1).trans bf0, (hb.frozen (p := ⟨n + 1, 1, none⟩) l1).trans bf1, (hb.cell (p := ⟨n + 1 + 1, 0, none⟩) l2).trans r0, (hb.cell (p := ⟨n + 1 + 1, 1, none⟩) l2).trans r1, (hb.frozen (p := ⟨n + 1 + 1, 0, none⟩) l2).trans rf0, (hb.frozen (p := ⟨n + 1 + 1, 1, none⟩) l2).trans rf1, (hb.cell (p := ⟨n + 1 + 1 + 1, 0, none⟩) l3).trans s0, (hb.cell (p := ⟨n + 1 + 1 + 1, 1, none⟩) l3).trans s1, (hb.frozen (p := ⟨n + 1 + 1 + 1, 0, none⟩) l3).trans sf0, (hb.frozen (p := ⟨n + 1 + 1 + 1, 1, none⟩) l3).trans sf1⟩
theorem zQh (al : Int) (w : World) : Calls Tryz.prog 91 #[.agg #[vI vK al, vI vK al], .agg #[vI vK al, vI vK al]] w fun e w' => e = .returned (.tuple #[.agg #[vI vK 0, vI vK 0], .agg #[vI vK 0, vI vK 0], .bool false]) ∧ Below w.heap.size w w' := by
 go_enter Tryz.func91, Tryz.ntmps91
 go_wp2_with fail
 go_region_held3 (fun w' => w'.cell? ⟨w.heap.size, 0, none⟩ = some (vI vK al) ∧ w'.cell? ⟨w.heap.size, 1, none⟩ = some (vI vK al) ∧ w'.cell? ⟨w.heap.size + 1, 0, none⟩ = some (vI vK al) ∧ w'.cell? ⟨w.heap.size + 1, 1, none⟩ = some (vI vK al)) (first | (simp [go_sem]; done) | (simp [go_sem, *]; done) | go_keep) (first | (go_at_call 39; refine (z2c _ _).mono ?_; rintro e w' ⟨rfl, rfl⟩))
 all_goals go_wp2
 all_goals exact bodyPost_ret (v := .tuple #[.agg #[vI vK 0, vI vK 0], .agg #[vI vK 0, vI vK 0], .bool false]) (by simp [results, Tryz.results91, go_sem]) rfl ⟨rfl, by repeat' first | exact bF _ _ | refine bA ?_ ?_ _ | refine bS ?_ ?_ _ | refine bD ?_ | refine below_drewN ?_ _ | (simp; done) | (simp; omega) | (simp [z00]; done) | (simp [z00]; omega) | omega⟩
attribute [local simp] z0y
theorem zQf (al ah bl bh : Int) (pal : -9223372036854775808 ≤ al) (qal : al ≤ 9223372036854775807) (pah : -9223372036854775808 ≤ ah) (qah : ah ≤ 9223372036854775807) (pbl : -9223372036854775808 ≤ bl) (qbl : bl ≤ 9223372036854775807) (pbh : -9223372036854775808 ≤ bh) (qbh : bh ≤ 9223372036854775807) (oa : al ≤ ah) (ob : bl ≤ bh) (hne : ¬ al = bl) (w : World) : Calls Tryz.prog 91 #[.agg #[vI vK al, vI vK ah], .agg #[vI vK bl, vI vK bh]] w fun e w' => e = .returned (.tuple #[.agg #[vI vK ((cutV al ah bl bh).1), vI vK ((cutV al ah bl bh).2)], .agg #[vI vK ((cutV bl bh al ah).1), vI vK ((cutV bl bh al ah).2)], .bool true]) ∧ Below w.heap.size w w' := by
 go_enter Tryz.func91, Tryz.ntmps91
 go_wp2_with fail
 go_quiet (fail)
 go_wp2_with fail
 go_region_held3 (fun w' => w'.cell? ⟨w.heap.size, 0, none⟩ = some (vI vK al) ∧ w'.cell? ⟨w.heap.size, 1, none⟩ = some (vI vK ah) ∧ w'.cell? ⟨w.heap.size + 1, 0, none⟩ = some (vI vK bl) ∧ w'.cell? ⟨w.heap.size + 1, 1, none⟩ = some (vI vK bh)) (first | (simp [go_sem]; done) | (simp [go_sem, *]; done) | go_keep) (first | (go_at_call 39; refine (z2c _ _).mono ?_; rintro e w' ⟨rfl, rfl⟩) | (go_at_call 99; go_must (refine (z7b _ _ _ _ ?_ ?_ ?_ _).mono ?_; omega; omega; omega; rintro e w1 ⟨rfl, hb1⟩; have hX1 : Quad w.heap.size al ah bl bh w1 := Quad.later (by first | exact hX1 | (refine ⟨?_, ?_, ?_, ?_, ?_, ?_, ?_, ?_, ?_, ?_, ?_, ?_, ?_, ?_, ?_, ?_, ?_⟩ <;> simp [go_sem])) hb1; have hbw1 : Below w.heap.size w w1 := (by ((refine Below.trans ?_ (hb1.mono ?_)) <;> repeat' first | exact bF _ _ | exact hbw1 | refine bA ?_ ?_ _ | refine bS ?_ ?_ _ | refine bD ?_ | refine below_drewN ?_ _ | (simp; done) | (simp; omega) | (simp [z00]; done) | (simp [z00]; omega) | omega)); have hY := hX1; obtain ⟨t0, a0, a1, af0, af1, b0, b1, bf0, bf1, r0, r1, rf0, rf1, s0, s1, sf0, sf1⟩ := hY)))
 all_goals go_wp2_with fail
 all_goals exact bodyPost_ret (v := .tuple #[.agg #[vI vK ((cutV al ah bl bh).1), vI vK ((cutV al ah bl bh).2)], .agg #[vI vK ((cutV bl bh al ah).1), vI vK ((cutV bl bh al ah).2)], .bool true]) (by simp [results, Tryz.results91, go_sem, r0, r1, s0, s1]) rfl ⟨rfl, by repeat' first | exact bF _ _ | exact hbw1 | refine bA ?_ ?_ _ | refine bS ?_ ?_ _ | refine bD ?_ | refine below_drewN ?_ _ | (simp; done) | (simp; omega) | (simp [z00]; done) | (simp [z00]; omega) | omega⟩
theorem zQe (al ah bh : Int) (pal : -9223372036854775808 ≤ al) (qal : al ≤ 9223372036854775807) (pah : -9223372036854775808 ≤ ah) (qah : ah ≤ 9223372036854775807) (pbh : -9223372036854775808 ≤ bh) (qbh : bh ≤ 9223372036854775807) (oa : al ≤ ah) (ob : al ≤ bh) (hne : ¬ ah = bh) (w : World) : Calls Tryz.prog 91 #[.agg #[vI vK al, vI vK ah], .agg #[vI vK al, vI vK bh]] w fun e w' => e = .returned (.tuple #[.agg #[vI vK ((cutV al ah al bh).1), vI vK ((cutV al ah al bh).2)], .agg #[vI vK ((cutV al bh al ah).1), vI vK ((cutV al bh al ah).2)], .bool true]) ∧ Below w.heap.size w w' := by
 go_enter Tryz.func91, Tryz.ntmps91
 go_wp2_with fail
 go_quiet (fail)
 go_wp2_with fail
 go_region_held3 (fun w' => w'.cell? ⟨w.heap.size, 0, none⟩ = some (vI vK al) ∧ w'.cell? ⟨w.heap.size, 1, none⟩ = some (vI vK ah) ∧ w'.cell? ⟨w.heap.size + 1, 0, none⟩ = some (vI vK al) ∧ w'.cell? ⟨w.heap.size + 1, 1, none⟩ = some (vI vK bh)) (first | (simp [go_sem]; done) | (simp [go_sem, *]; done) | go_keep) (first | (go_at_call 39; refine (z2c _ _).mono ?_; rintro e w' ⟨rfl, rfl⟩) | (go_at_call 99; go_must (refine (z7b _ _ _ _ ?_ ?_ ?_ _).mono ?_; omega; omega; omega; rintro e w1 ⟨rfl, hb1⟩; have hX1 : Quad w.heap.size al ah al bh w1 := Quad.later (by first | exact hX1 | (refine ⟨?_, ?_, ?_, ?_, ?_, ?_, ?_, ?_, ?_, ?_, ?_, ?_, ?_, ?_, ?_, ?_, ?_⟩ <;> simp [go_sem])) hb1; have hbw1 : Below w.heap.size w w1 := (by ((refine Below.trans ?_ (hb1.mono ?_)) <;> repeat' first | exact bF _ _ | exact hbw1 | refine bA ?_ ?_ _ | refine bS ?_ ?_ _ | refine bD ?_ | refine below_drewN ?_ _ | (simp; done) | (simp; omega) | (simp [z00]; done) | (simp [z00]; omega) | omega)); have hY := hX1; obtain ⟨t0, a0, a1, af0, af1, b0, b1, bf0, bf1, r0, r1, rf0, rf1, s0, s1, sf0, sf1⟩ := hY)))
 all_goals go_wp2_with fail
 all_goals exact bodyPost_ret (v := .tuple #[.agg #[vI vK ((cutV al ah al bh).1), vI vK ((cutV al ah al bh).2)], .agg #[vI vK ((cutV al bh al ah).1), vI vK ((cutV al bh al ah).2)], .bool true]) (by simp [results, Tryz.results91, go_sem, r0, r1, s0, s1]) rfl ⟨rfl, by repeat' first | exact bF _ _ | exact hbw1 | refine bA ?_ ?_ _ | refine bS ?_ ?_ _ | refine bD ?_ | refine below_drewN ?_ _ | (simp; done) | (simp; omega) | (simp [z00]; done) | (simp [z00]; omega) | omega⟩
theorem zQg (al ah : Int) (pal : -9223372036854775808 ≤ al) (qal : al ≤ 9223372036854775807) (pah : -9223372036854775808 ≤ ah) (qah : ah ≤ 9223372036854775807) (oa : al ≤ ah) (hne : ¬ ah = al) (w : World) : Calls Tryz.prog 91 #[.agg #[vI vK al, vI vK ah], .agg #[vI vK al, vI vK ah]] w fun e w' => e = .returned (.tuple #[.agg #[vI vK ((cutV al ah al ah).1), vI vK ((cutV al ah al ah).2)], .agg #[vI vK ((cutV al ah al ah).1), vI vK ((cutV al ah al ah).2)], .bool true]) ∧ Below w.heap.size w w' := by
 go_enter Tryz.func91, Tryz.ntmps91
 go_wp2_with fail
 go_region_held3 (fun w' => w'.cell? ⟨w.heap.size, 0, none⟩ = some (vI vK al) ∧ w'.cell? ⟨w.heap.size, 1, none⟩ = some (vI vK ah) ∧ w'.cell? ⟨w.heap.size + 1, 0, none⟩ = some (vI vK al) ∧ w'.cell? ⟨w.heap.size + 1, 1, none⟩ = some (vI vK ah)) (first | (simp [go_sem]; done) | (simp [go_sem, *]; done) | go_keep) (first | (go_at_call 39; refine (z2c _ _).mono ?_; rintro e w' ⟨rfl, rfl⟩))
 all_goals go_wp2_with fail
 go_region_held3 (fun w' => w'.cell? ⟨w.heap.size, 0, none⟩ = some (vI vK al) ∧ w'.cell? ⟨w.heap.size, 1, none⟩ = some (vI vK ah) ∧ w'.cell? ⟨w.heap.size + 1, 0, none⟩ = some (vI vK al) ∧ w'.cell? ⟨w.heap.size + 1, 1, none⟩ = some (vI vK ah)) (first | (simp [go_sem]; done) | (simp [go_sem, *]; done) | go_keep) (first | (go_at_call 39; refine (z2c _ _).mono ?_; rintro e w' ⟨rfl, rfl⟩) | (go_at_call 99; go_must (refine (z7b _ _ _ _ ?_ ?_ ?_ _).mono ?_; omega; omega; omega; rintro e w1 ⟨rfl, hb1⟩; have hX1 : Quad w.heap.size al ah al ah w1 := Quad.later (by first | exact hX1 | (refine ⟨?_, ?_, ?_, ?_, ?_, ?_, ?_, ?_, ?_, ?_, ?_, ?_, ?_, ?_, ?_, ?_, ?_⟩ <;> simp [go_sem])) hb1; have hbw1 : Below w.heap.size w w1 := (by ((refine Below.trans ?_ (hb1.mono ?_)) <;> repeat' first | exact bF _ _ | exact hbw1 | refine bA ?_ ?_ _ | refine bS ?_ ?_ _ | refine bD ?_ | refine below_drewN ?_ _ | (simp; done) | (simp; omega) | (simp [z00]; done) | (simp [z00]; omega) | omega)); have hY := hX1; obtain ⟨t0, a0, a1, af0, af1, b0, b1, bf0, bf1, r0, r1, rf0, rf1, s0, s1, sf0, sf1⟩ := hY)))
 all_goals go_wp2_with fail
 all_goals exact bodyPost_ret (v := .tuple #[.agg #[vI vK ((cutV al ah al ah).1), vI vK ((cutV al ah al ah).2)], .agg #[vI vK ((cutV al ah al ah).1), vI vK ((cutV al ah al ah).2)], .bool true]) (by simp [results, Tryz.results91, go_sem, r0, r1, s0, s1]) rfl ⟨rfl, by repeat' first | exact bF _ _ | exact hbw1 | refine bA ?_ ?_ _ | refine bS ?_ ?_ _ | refine bD ?_ | refine below_drewN ?_ _ | (simp; done) | (simp; omega) | (simp [z00]; done) | (simp [z00]; omega) | omega⟩
end Go.Proofs.YteenhdoaminkeaaGreatDoor
namespace Go.Proofs.YteenhdoaminkeaaGreatDoor
open Go.ChangeShapes Go.WideShapes Go.ChangeAt Go.RowKit
set_option linter.unusedVariables false
attribute [local simp] z00 z0y z0o
theorem z1n {W w1 : World} (hb : Below W.heap.size W w1) (n : Nat) (h : n < W.heap.size) : n < w1.heap.size ∧ w1.cell? ⟨n, 0, none⟩ = W.cell? ⟨n, 0, none⟩ ∧ w1.cell? ⟨n, 1, none⟩ = W.cell? ⟨n, 1, none⟩ ∧ w1.frozen? ⟨n, 0, none⟩ = W.frozen? ⟨n, 0, none⟩ ∧ w1.frozen? ⟨n, 1, none⟩ = W.frozen? ⟨n, 1, none⟩ :=
 ⟨Nat.lt_of_lt_of_le h hb.size, hb.cell (p := ⟨n, 0, none⟩) h, hb.cell (p := ⟨n, 1, none⟩) h, hb.frozen (p := ⟨n, 0, none⟩) h, hb.frozen (p := ⟨n, 1, none⟩) h⟩
def meetV (al ah bl bh : Int) : (Int × Int) × Bool := if max al bl ≤ min ah bh then ((max al bl, min ah bh), true) else ((0, 0), false)
def belV (g al ah bl bh : Int) : (Int × Int) × (Int × Int) × Bool := if al ≤ ah ∧ al + g ≤ bh then ((al, min ah (bh - g)), (max bl (al + g), bh), true) else ((0, 0), (0, 0), false)
def unsV (g al ah bl bh : Int) : (Int × Int) × (Int × Int) × Bool := if bl < 0 then ((al, ah), (bl, bh), true) else belV g (max al 0) ah bl bh
def apV (al ah bl bh : Int) : (Int × Int) × (Int × Int) × Bool := if al = bl ∧ ah = bh ∧ ah = al then ((0, 0), (0, 0), false) else (cutV al ah bl bh, cutV bl bh al ah, true)
def z5b (x : (Int × Int) × (Int × Int) × Bool) : (Int × Int) × (Int × Int) × Bool := (x.2.1, x.1, x.2.2)
def narV (c al ah bl bh : Int) : (Int × Int) × (Int × Int) × Bool :=
 if c = 15 then ((meetV al ah bl bh).1, (meetV al ah bl bh).1, (meetV al ah bl bh).2) else if c = 16 then apV al ah bl bh
 else if c = 17 then z5b (unsV 1 bl bh al ah) else if c = 18 then z5b (unsV 0 bl bh al ah) else if c = 19 then unsV 1 al ah bl bh else if c = 20 then unsV 0 al ah bl bh
 else if c = 21 then z5b (belV 1 bl bh al ah) else if c = 22 then z5b (belV 0 bl bh al ah) else if c = 23 then belV 1 al ah bl bh else if c = 24 then belV 0 al ah bl bh
 else ((al, ah), (bl, bh), true)
theorem zEz (al ah bl bh : Int) : narV 15 al ah bl bh = ((meetV al ah bl bh).1, (meetV al ah bl bh).1, (meetV al ah bl bh).2) := by simp only [narV, reduceIte, Int.reduceEq]
theorem zEy (al ah bl bh : Int) : narV 16 al ah bl bh = apV al ah bl bh := by simp only [narV, reduceIte, Int.reduceEq]
theorem zEx (al ah bl bh : Int) : narV 17 al ah bl bh = z5b (unsV 1 bl bh al ah) := by simp only [narV, reduceIte, Int.reduceEq]
theorem zEw (al ah bl bh : Int) : narV 18 al ah bl bh = z5b (unsV 0 bl bh al ah) := by simp only [narV, reduceIte, Int.reduceEq]
theorem zAz (al ah bl bh : Int) : narV 19 al ah bl bh = unsV 1 al ah bl bh := by simp only [narV, reduceIte, Int.reduceEq]
theorem zAy (al ah bl bh : Int) : narV 20 al ah bl bh = unsV 0 al ah bl bh := by simp only [narV, reduceIte, Int.reduceEq]
theorem z8r (al ah bl bh : Int) : narV 21 al ah bl bh = z5b (belV 1 bl bh al ah) := by simp only [narV, reduceIte, Int.reduceEq]
theorem z8q (al ah bl bh : Int) : narV 22 al ah bl bh = z5b (belV 0 bl bh al ah) := by simp only [narV, reduceIte, Int.reduceEq]
theorem zEv (al ah bl bh : Int) : narV 23 al ah bl bh = belV 1 al ah bl bh := by simp only [narV, reduceIte, Int.reduceEq]
theorem zEu (al ah bl bh : Int) : narV 24 al ah bl bh = belV 0 al ah bl bh := by simp only [narV, reduceIte, Int.reduceEq]
theorem zL9 {c : Int} (al ah bl bh : Int) (h : c < 15 ∨ 24 < c) : narV c al ah bl bh = ((al, ah), (bl, bh), true) := by
 have e : ∀ k : Int, 15 ≤ k → k ≤ 24 → c ≠ k := fun k h1 h2 => by omega
 unfold narV
 rw [if_neg (e 15 (by decide) (by decide)), if_neg (e 16 (by decide) (by decide)), if_neg (e 17 (by decide) (by decide)), if_neg (e 18 (by decide) (by decide)), if_neg (e 19 (by decide) (by decide)), if_neg (e 20 (by decide) (by decide)), if_neg (e 21 (by decide) (by decide)), if_neg (e 22 (by decide) (by decide)), if_neg (e 23 (by decide) (by decide)), if_neg (e 24 (by decide) (by decide))]
theorem zT4 (al ah bl bh : Int) (w : World) : Calls Tryz.prog 90 #[.agg #[vI vK al, vI vK ah], .agg #[vI vK bl, vI vK bh]] w fun e w' => e = .returned (.tuple #[.agg #[vI vK (((meetV al ah bl bh).1).1), vI vK (((meetV al ah bl bh).1).2)], .bool ((meetV al ah bl bh).2)]) ∧ Below w.heap.size w w' := by
 unfold meetV
 by_cases h : max al bl ≤ min ah bh
 ·rw [if_pos h]
  exact zP4 al ah bl bh h w
 ·rw [if_neg h]
  exact zT3 al ah bl bh (by omega) w
theorem zU7 {x y : Int} (h0 : 0 ≤ x) (h1 : x ≤ 9223372036854775807) (h2 : 0 ≤ y) (h3 : y ≤ 9223372036854775807) : isV 19 x y = decide (x < y) := by
 rw [zCw]; have a := z3m h0 h1; have b := z3m h2 h3; congr 1; rw [eq_iff_iff]; omega
theorem zU6 {x y : Int} (h0 : 0 ≤ x) (h1 : x ≤ 9223372036854775807) (h2 : 0 ≤ y) (h3 : y ≤ 9223372036854775807) : isV 20 x y = decide (x ≤ y) := by
 rw [zCv]; have a := z3m h0 h1; have b := z3m h2 h3; congr 1; rw [eq_iff_iff]; omega
theorem zGp (al ah bl bh : Int) (pal : -9223372036854775808 ≤ al) (qal : al ≤ 9223372036854775807) (pah : -9223372036854775808 ≤ ah) (qah : ah ≤ 9223372036854775807) (pbl : -9223372036854775808 ≤ bl) (qbl : bl ≤ 9223372036854775807) (pbh : -9223372036854775808 ≤ bh) (qbh : bh ≤ 9223372036854775807) (oa : al ≤ ah) (ob : bl ≤ bh) (w : World) : Calls Tryz.prog 92 #[vI vK 19, .agg #[vI vK al, vI vK ah], .agg #[vI vK bl, vI vK bh]] w fun e w' => e = .returned (.tuple #[.agg #[vI vK (((unsV 1 al ah bl bh).1).1), vI vK (((unsV 1 al ah bl bh).1).2)], .agg #[vI vK (((unsV 1 al ah bl bh).2.1).1), vI vK (((unsV 1 al ah bl bh).2.1).2)], .bool ((unsV 1 al ah bl bh).2.2)]) ∧ Below w.heap.size w w' := by
 unfold unsV
 by_cases hb : bl < 0
 ·rw [if_pos hb]
  exact zMo al ah bl bh hb w
 rw [if_neg hb]
 have hb0 : 0 ≤ bl := by omega
 have hi := zU7 (x := max al 0) (y := bh) (by omega) (by omega) (by omega) qbh
 unfold belV
 by_cases h : max al 0 ≤ ah
 ·by_cases h2 : max al 0 < bh
  ·rw [if_pos ⟨h, by omega⟩]
   exact zMn al ah bl bh hb0 h (by rw [hi]; exact decide_eq_true h2) (by omega) (by omega) (by omega) (by omega) w
  ·rw [if_neg (fun x => h2 (by omega))]
   exact zMp al ah bl bh hb0 h (by rw [hi]; exact decide_eq_false h2) w
 ·rw [if_neg (fun x => h x.1)]
  exact zMq al ah bl bh hb0 (by omega) w
theorem zGo (al ah bl bh : Int) (pal : -9223372036854775808 ≤ al) (qal : al ≤ 9223372036854775807) (pah : -9223372036854775808 ≤ ah) (qah : ah ≤ 9223372036854775807) (pbl : -9223372036854775808 ≤ bl) (qbl : bl ≤ 9223372036854775807) (pbh : -9223372036854775808 ≤ bh) (qbh : bh ≤ 9223372036854775807) (oa : al ≤ ah) (ob : bl ≤ bh) (w : World) : Calls Tryz.prog 92 #[vI vK 20, .agg #[vI vK al, vI vK ah], .agg #[vI vK bl, vI vK bh]] w fun e w' => e = .returned (.tuple #[.agg #[vI vK (((unsV 0 al ah bl bh).1).1), vI vK (((unsV 0 al ah bl bh).1).2)], .agg #[vI vK (((unsV 0 al ah bl bh).2.1).1), vI vK (((unsV 0 al ah bl bh).2.1).2)], .bool ((unsV 0 al ah bl bh).2.2)]) ∧ Below w.heap.size w w' := by
 unfold unsV
 by_cases hb : bl < 0
 ·rw [if_pos hb]
  exact zMk al ah bl bh hb w
 rw [if_neg hb]
 have hb0 : 0 ≤ bl := by omega
 have hi := zU6 (x := max al 0) (y := bh) (by omega) (by omega) (by omega) qbh
 unfold belV
 by_cases h : max al 0 ≤ ah
 ·by_cases h2 : max al 0 ≤ bh
  ·rw [if_pos ⟨h, by omega⟩]
   rw [show bh - 0 = bh by omega, show max al 0 + 0 = max al 0 by omega]
   exact zMj al ah bl bh hb0 h (by rw [hi]; exact decide_eq_true h2) (by omega) (by omega) (by omega) (by omega) w
  ·rw [if_neg (fun x => h2 (by omega))]
   exact zMl al ah bl bh hb0 h (by rw [hi]; exact decide_eq_false h2) w
 ·rw [if_neg (fun x => h x.1)]
  exact zMm al ah bl bh hb0 (by omega) w
theorem zGn (al ah bl bh : Int) (pal : -9223372036854775808 ≤ al) (qal : al ≤ 9223372036854775807) (pah : -9223372036854775808 ≤ ah) (qah : ah ≤ 9223372036854775807) (pbl : -9223372036854775808 ≤ bl) (qbl : bl ≤ 9223372036854775807) (pbh : -9223372036854775808 ≤ bh) (qbh : bh ≤ 9223372036854775807) (oa : al ≤ ah) (ob : bl ≤ bh) (w : World) : Calls Tryz.prog 92 #[vI vK 23, .agg #[vI vK al, vI vK ah], .agg #[vI vK bl, vI vK bh]] w fun e w' => e = .returned (.tuple #[.agg #[vI vK (((belV 1 al ah bl bh).1).1), vI vK (((belV 1 al ah bl bh).1).2)], .agg #[vI vK (((belV 1 al ah bl bh).2.1).1), vI vK (((belV 1 al ah bl bh).2.1).2)], .bool ((belV 1 al ah bl bh).2.2)]) ∧ Below w.heap.size w w' := by
 have hi := zCu al bh
 unfold belV
 by_cases h : al ≤ ah
 ·by_cases h2 : al < bh
  ·rw [if_pos ⟨h, by omega⟩]
   exact zMg al ah bl bh h (by rw [hi]; exact decide_eq_true h2) (by omega) (by omega) (by omega) (by omega) w
  ·rw [if_neg (fun x => h2 (by omega))]
   exact zMh al ah bl bh h (by rw [hi]; exact decide_eq_false h2) w
 ·rw [if_neg (fun x => h x.1)]
  exact zMi al ah bl bh (by omega) w
theorem zGm (al ah bl bh : Int) (pal : -9223372036854775808 ≤ al) (qal : al ≤ 9223372036854775807) (pah : -9223372036854775808 ≤ ah) (qah : ah ≤ 9223372036854775807) (pbl : -9223372036854775808 ≤ bl) (qbl : bl ≤ 9223372036854775807) (pbh : -9223372036854775808 ≤ bh) (qbh : bh ≤ 9223372036854775807) (oa : al ≤ ah) (ob : bl ≤ bh) (w : World) : Calls Tryz.prog 92 #[vI vK 24, .agg #[vI vK al, vI vK ah], .agg #[vI vK bl, vI vK bh]] w fun e w' => e = .returned (.tuple #[.agg #[vI vK (((belV 0 al ah bl bh).1).1), vI vK (((belV 0 al ah bl bh).1).2)], .agg #[vI vK (((belV 0 al ah bl bh).2.1).1), vI vK (((belV 0 al ah bl bh).2.1).2)], .bool ((belV 0 al ah bl bh).2.2)]) ∧ Below w.heap.size w w' := by
 have hi := zCt al bh
 unfold belV
 by_cases h : al ≤ ah
 ·by_cases h2 : al ≤ bh
  ·rw [if_pos ⟨h, by omega⟩]
   rw [show bh - 0 = bh by omega, show al + 0 = al by omega]
   exact zMd al ah bl bh h (by rw [hi]; exact decide_eq_true h2) (by omega) (by omega) (by omega) (by omega) w
  ·rw [if_neg (fun x => h2 (by omega))]
   exact zMe al ah bl bh h (by rw [hi]; exact decide_eq_false h2) w
 ·rw [if_neg (fun x => h x.1)]
  exact zMf al ah bl bh (by omega) w
theorem zQi (al ah bl bh : Int) (pal : -9223372036854775808 ≤ al) (qal : al ≤ 9223372036854775807) (pah : -9223372036854775808 ≤ ah) (qah : ah ≤ 9223372036854775807) (pbl : -9223372036854775808 ≤ bl) (qbl : bl ≤ 9223372036854775807) (pbh : -9223372036854775808 ≤ bh) (qbh : bh ≤ 9223372036854775807) (oa : al ≤ ah) (ob : bl ≤ bh) (w : World) : Calls Tryz.prog 91 #[.agg #[vI vK al, vI vK ah], .agg #[vI vK bl, vI vK bh]] w fun e w' => e = .returned (.tuple #[.agg #[vI vK (((apV al ah bl bh).1).1), vI vK (((apV al ah bl bh).1).2)], .agg #[vI vK (((apV al ah bl bh).2.1).1), vI vK (((apV al ah bl bh).2.1).2)], .bool ((apV al ah bl bh).2.2)]) ∧ Below w.heap.size w w' := by
 unfold apV
 by_cases h0 : al = bl
 ·subst h0
  by_cases h1 : ah = bh
  ·subst h1
   by_cases h2 : ah = al
   ·rw [if_pos ⟨rfl, rfl, h2⟩]
    subst h2
    exact zQh ah w
   ·rw [if_neg (fun x => h2 x.2.2)]
    exact zQg al ah pal qal pah qah oa h2 w
  ·rw [if_neg (fun x => h1 x.2.1)]
   exact zQe al ah bh pal qal pah qah pbh qbh oa ob h1 w
 ·rw [if_neg (fun x => h0 x.1)]
  exact zQf al ah bl bh pal qal pah qah pbl qbl pbh qbh oa ob h0 w
def Outs (n L U : Nat) (x0 x1 y0 y1 : Int) (w : World) : Prop :=
 w.cell? ⟨n + 1 + 1, 0, none⟩ = some (vI vK 0) ∧ w.cell? ⟨n + 1 + 1, 1, none⟩ = some (vI vK 0) ∧ w.frozen? ⟨n + 1 + 1, 0, none⟩ = false ∧ w.frozen? ⟨n + 1 + 1, 1, none⟩ = false
 ∧ w.cell? ⟨n + 1 + 1 + 1, 0, none⟩ = some (vI vK 0) ∧ w.cell? ⟨n + 1 + 1 + 1, 1, none⟩ = some (vI vK 0) ∧ w.frozen? ⟨n + 1 + 1 + 1, 0, none⟩ = false ∧ w.frozen? ⟨n + 1 + 1 + 1, 1, none⟩ = false
 ∧ w.cell? ⟨L, 0, none⟩ = some (vI vK x0) ∧ w.cell? ⟨L, 1, none⟩ = some (vI vK x1) ∧ w.cell? ⟨U, 0, none⟩ = some (vI vK y0) ∧ w.cell? ⟨U, 1, none⟩ = some (vI vK y1)
 ∧ L ≠ n + 1 + 1 ∧ L ≠ n + 1 + 1 + 1 ∧ U ≠ n + 1 + 1 ∧ U ≠ n + 1 + 1 + 1
theorem nar_15 (al ah bl bh : Int) (pal : -9223372036854775808 ≤ al) (qal : al ≤ 9223372036854775807) (pah : -9223372036854775808 ≤ ah) (qah : ah ≤ 9223372036854775807) (pbl : -9223372036854775808 ≤ bl) (qbl : bl ≤ 9223372036854775807) (pbh : -9223372036854775808 ≤ bh) (qbh : bh ≤ 9223372036854775807) (oa : al ≤ ah) (ob : bl ≤ bh) (w : World) : Calls Tryz.prog 79 #[vI vK 15, .agg #[vI vK al, vI vK ah], .agg #[vI vK bl, vI vK bh]] w fun e w' => e = .returned (.tuple #[.agg #[vI vK (((meetV al ah bl bh).1).1), vI vK (((meetV al ah bl bh).1).2)], .agg #[vI vK (((meetV al ah bl bh).1).1), vI vK (((meetV al ah bl bh).1).2)], .bool ((meetV al ah bl bh).2)]) ∧ Below w.heap.size w w' := by
 go_enter Tryz.func79, Tryz.ntmps79
 go_wp2_with (first | (go_at_call 90; go_must (refine (zT4 _ _ _ _ _).mono ?_; rintro e w1 ⟨rfl, hb1⟩; have hX1 : Quad w.heap.size al ah bl bh w1 := Quad.later (by first | exact hX1 | (refine ⟨?_, ?_, ?_, ?_, ?_, ?_, ?_, ?_, ?_, ?_, ?_, ?_, ?_, ?_, ?_, ?_, ?_⟩ <;> simp [go_sem])) hb1; have hbw1 : Below w.heap.size w w1 := (by ((refine Below.trans ?_ (hb1.mono ?_)) <;> repeat' first | exact bF _ _ | exact hbw1 | refine bA ?_ ?_ _ | refine bS ?_ ?_ _ | refine bD ?_ | refine below_drewN ?_ _ | (simp; done) | (simp; omega) | (simp [z00]; done) | (simp [z00]; omega) | omega)); have hY := hX1; obtain ⟨t0, a0, a1, af0, af1, b0, b1, bf0, bf1, r0, r1, rf0, rf1, s0, s1, sf0, sf1⟩ := hY; have u2 : w.heap.size + 1 + 1 < w1.heap.size := (by omega); have u0 : w.heap.size < w1.heap.size := (by omega); have u1 : w.heap.size + 1 < w1.heap.size := (by omega))))
 all_goals go_region
 all_goals go_wp2
 all_goals exact bodyPost_ret (v := .tuple #[.agg #[vI vK (((meetV al ah bl bh).1).1), vI vK (((meetV al ah bl bh).1).2)], .agg #[vI vK (((meetV al ah bl bh).1).1), vI vK (((meetV al ah bl bh).1).2)], .bool ((meetV al ah bl bh).2)]) (by simp [results, Tryz.results79, go_sem, r0, r1, s0, s1, u2, t0]) rfl ⟨rfl, by repeat' first | exact bF _ _ | exact hbw1 | refine bA ?_ ?_ _ | refine bS ?_ ?_ _ | refine bD ?_ | refine below_drewN ?_ _ | (simp; done) | (simp; omega) | (simp [z00]; done) | (simp [z00]; omega) | omega⟩
theorem nar_16 (al ah bl bh : Int) (pal : -9223372036854775808 ≤ al) (qal : al ≤ 9223372036854775807) (pah : -9223372036854775808 ≤ ah) (qah : ah ≤ 9223372036854775807) (pbl : -9223372036854775808 ≤ bl) (qbl : bl ≤ 9223372036854775807) (pbh : -9223372036854775808 ≤ bh) (qbh : bh ≤ 9223372036854775807) (oa : al ≤ ah) (ob : bl ≤ bh) (w : World) : Calls Tryz.prog 79 #[vI vK 16, .agg #[vI vK al, vI vK ah], .agg #[vI vK bl, vI vK bh]] w fun e w' => e = .returned (.tuple #[.agg #[vI vK (((apV al ah bl bh).1).1), vI vK (((apV al ah bl bh).1).2)], .agg #[vI vK (((apV al ah bl bh).2.1).1), vI vK (((apV al ah bl bh).2.1).2)], .bool ((apV al ah bl bh).2.2)]) ∧ Below w.heap.size w w' := by
 go_enter Tryz.func79, Tryz.ntmps79
 go_wp2_with (first | (go_at_call 91; go_must (refine (zQi _ _ _ _ pal qal pah qah pbl qbl pbh qbh oa ob _).mono ?_; rintro e w1 ⟨rfl, hb1⟩; have hX1 : Quad w.heap.size al ah bl bh w1 := Quad.later (by first | exact hX1 | (refine ⟨?_, ?_, ?_, ?_, ?_, ?_, ?_, ?_, ?_, ?_, ?_, ?_, ?_, ?_, ?_, ?_, ?_⟩ <;> simp [go_sem])) hb1; have hbw1 : Below w.heap.size w w1 := (by ((refine Below.trans ?_ (hb1.mono ?_)) <;> repeat' first | exact bF _ _ | exact hbw1 | refine bA ?_ ?_ _ | refine bS ?_ ?_ _ | refine bD ?_ | refine below_drewN ?_ _ | (simp; done) | (simp; omega) | (simp [z00]; done) | (simp [z00]; omega) | omega)); have hY := hX1; obtain ⟨t0, a0, a1, af0, af1, b0, b1, bf0, bf1, r0, r1, rf0, rf1, s0, s1, sf0, sf1⟩ := hY; have u2 : w.heap.size + 1 + 1 < w1.heap.size := (by omega); have u0 : w.heap.size < w1.heap.size := (by omega); have u1 : w.heap.size + 1 < w1.heap.size := (by omega))))
 all_goals exact bodyPost_ret (v := .tuple #[.agg #[vI vK (((apV al ah bl bh).1).1), vI vK (((apV al ah bl bh).1).2)], .agg #[vI vK (((apV al ah bl bh).2.1).1), vI vK (((apV al ah bl bh).2.1).2)], .bool ((apV al ah bl bh).2.2)]) (by simp [results, Tryz.results79, go_sem, r0, r1, s0, s1]) rfl ⟨rfl, by repeat' first | exact bF _ _ | exact hbw1 | refine bA ?_ ?_ _ | refine bS ?_ ?_ _ | refine bD ?_ | refine below_drewN ?_ _ | (simp; done) | (simp; omega) | (simp [z00]; done) | (simp [z00]; omega) | omega⟩
theorem nar_19 (al ah bl bh : Int) (pal : -9223372036854775808 ≤ al) (qal : al ≤ 9223372036854775807) (pah : -9223372036854775808 ≤ ah) (qah : ah ≤ 9223372036854775807) (pbl : -9223372036854775808 ≤ bl) (qbl : bl ≤ 9223372036854775807) (pbh : -9223372036854775808 ≤ bh) (qbh : bh ≤ 9223372036854775807) (oa : al ≤ ah) (ob : bl ≤ bh) (w : World) : Calls Tryz.prog 79 #[vI vK 19, .agg #[vI vK al, vI vK ah], .agg #[vI vK bl, vI vK bh]] w fun e w' => e = .returned (.tuple #[.agg #[vI vK (((unsV 1 al ah bl bh).1).1), vI vK (((unsV 1 al ah bl bh).1).2)], .agg #[vI vK (((unsV 1 al ah bl bh).2.1).1), vI vK (((unsV 1 al ah bl bh).2.1).2)], .bool ((unsV 1 al ah bl bh).2.2)]) ∧ Below w.heap.size w w' := by
 go_enter Tryz.func79, Tryz.ntmps79
 go_wp2_with (first | (go_at_call 92; go_must (refine (zGp _ _ _ _ pal qal pah qah pbl qbl pbh qbh oa ob _).mono ?_; rintro e w1 ⟨rfl, hb1⟩; have hX1 : Quad w.heap.size al ah bl bh w1 := Quad.later (by first | exact hX1 | (refine ⟨?_, ?_, ?_, ?_, ?_, ?_, ?_, ?_, ?_, ?_, ?_, ?_, ?_, ?_, ?_, ?_, ?_⟩ <;> simp [go_sem])) hb1; have hbw1 : Below w.heap.size w w1 := (by ((refine Below.trans ?_ (hb1.mono ?_)) <;> repeat' first | exact bF _ _ | exact hbw1 | refine bA ?_ ?_ _ | refine bS ?_ ?_ _ | refine bD ?_ | refine below_drewN ?_ _ | (simp; done) | (simp; omega) | (simp [z00]; done) | (simp [z00]; omega) | omega)); have hY := hX1; obtain ⟨t0, a0, a1, af0, af1, b0, b1, bf0, bf1, r0, r1, rf0, rf1, s0, s1, sf0, sf1⟩ := hY; have u2 : w.heap.size + 1 + 1 < w1.heap.size := (by omega); have u0 : w.heap.size < w1.heap.size := (by omega); have u1 : w.heap.size + 1 < w1.heap.size := (by omega))))
 all_goals exact bodyPost_ret (v := .tuple #[.agg #[vI vK (((unsV 1 al ah bl bh).1).1), vI vK (((unsV 1 al ah bl bh).1).2)], .agg #[vI vK (((unsV 1 al ah bl bh).2.1).1), vI vK (((unsV 1 al ah bl bh).2.1).2)], .bool ((unsV 1 al ah bl bh).2.2)]) (by simp [results, Tryz.results79, go_sem, r0, r1, s0, s1]) rfl ⟨rfl, by repeat' first | exact bF _ _ | exact hbw1 | refine bA ?_ ?_ _ | refine bS ?_ ?_ _ | refine bD ?_ | refine below_drewN ?_ _ | (simp; done) | (simp; omega) | (simp [z00]; done) | (simp [z00]; omega) | omega⟩
theorem nar_20 (al ah bl bh : Int) (pal : -9223372036854775808 ≤ al) (qal : al ≤ 9223372036854775807) (pah : -9223372036854775808 ≤ ah) (qah : ah ≤ 9223372036854775807) (pbl : -9223372036854775808 ≤ bl) (qbl : bl ≤ 9223372036854775807) (pbh : -9223372036854775808 ≤ bh) (qbh : bh ≤ 9223372036854775807) (oa : al ≤ ah) (ob : bl ≤ bh) (w : World) : Calls Tryz.prog 79 #[vI vK 20, .agg #[vI vK al, vI vK ah], .agg #[vI vK bl, vI vK bh]] w fun e w' => e = .returned (.tuple #[.agg #[vI vK (((unsV 0 al ah bl bh).1).1), vI vK (((unsV 0 al ah bl bh).1).2)], .agg #[vI vK (((unsV 0 al ah bl bh).2.1).1), vI vK (((unsV 0 al ah bl bh).2.1).2)], .bool ((unsV 0 al ah bl bh).2.2)]) ∧ Below w.heap.size w w' := by
 go_enter Tryz.func79, Tryz.ntmps79
 go_wp2_with (first | (go_at_call 92; go_must (refine (zGo _ _ _ _ pal qal pah qah pbl qbl pbh qbh oa ob _).mono ?_; rintro e w1 ⟨rfl, hb1⟩; have hX1 : Quad w.heap.size al ah bl bh w1 := Quad.later (by first | exact hX1 | (refine ⟨?_, ?_, ?_, ?_, ?_, ?_, ?_, ?_, ?_, ?_, ?_, ?_, ?_, ?_, ?_, ?_, ?_⟩ <;> simp [go_sem])) hb1; have hbw1 : Below w.heap.size w w1 := (by ((refine Below.trans ?_ (hb1.mono ?_)) <;> repeat' first | exact bF _ _ | exact hbw1 | refine bA ?_ ?_ _ | refine bS ?_ ?_ _ | refine bD ?_ | refine below_drewN ?_ _ | (simp; done) | (simp; omega) | (simp [z00]; done) | (simp [z00]; omega) | omega)); have hY := hX1; obtain ⟨t0, a0, a1, af0, af1, b0, b1, bf0, bf1, r0, r1, rf0, rf1, s0, s1, sf0, sf1⟩ := hY; have u2 : w.heap.size + 1 + 1 < w1.heap.size := (by omega); have u0 : w.heap.size < w1.heap.size := (by omega); have u1 : w.heap.size + 1 < w1.heap.size := (by omega))))
 all_goals exact bodyPost_ret (v := .tuple #[.agg #[vI vK (((unsV 0 al ah bl bh).1).1), vI vK (((unsV 0 al ah bl bh).1).2)], .agg #[vI vK (((unsV 0 al ah bl bh).2.1).1), vI vK (((unsV 0 al ah bl bh).2.1).2)], .bool ((unsV 0 al ah bl bh).2.2)]) (by simp [results, Tryz.results79, go_sem, r0, r1, s0, s1]) rfl ⟨rfl, by repeat' first | exact bF _ _ | exact hbw1 | refine bA ?_ ?_ _ | refine bS ?_ ?_ _ | refine bD ?_ | refine below_drewN ?_ _ | (simp; done) | (simp; omega) | (simp [z00]; done) | (simp [z00]; omega) | omega⟩
theorem nar_23 (al ah bl bh : Int) (pal : -9223372036854775808 ≤ al) (qal : al ≤ 9223372036854775807) (pah : -9223372036854775808 ≤ ah) (qah : ah ≤ 9223372036854775807) (pbl : -9223372036854775808 ≤ bl) (qbl : bl ≤ 9223372036854775807) (pbh : -9223372036854775808 ≤ bh) (qbh : bh ≤ 9223372036854775807) (oa : al ≤ ah) (ob : bl ≤ bh) (w : World) : Calls Tryz.prog 79 #[vI vK 23, .agg #[vI vK al, vI vK ah], .agg #[vI vK bl, vI vK bh]] w fun e w' => e = .returned (.tuple #[.agg #[vI vK (((belV 1 al ah bl bh).1).1), vI vK (((belV 1 al ah bl bh).1).2)], .agg #[vI vK (((belV 1 al ah bl bh).2.1).1), vI vK (((belV 1 al ah bl bh).2.1).2)], .bool ((belV 1 al ah bl bh).2.2)]) ∧ Below w.heap.size w w' := by
 go_enter Tryz.func79, Tryz.ntmps79
 go_wp2_with (first | (go_at_call 92; go_must (refine (zGn _ _ _ _ pal qal pah qah pbl qbl pbh qbh oa ob _).mono ?_; rintro e w1 ⟨rfl, hb1⟩; have hX1 : Quad w.heap.size al ah bl bh w1 := Quad.later (by first | exact hX1 | (refine ⟨?_, ?_, ?_, ?_, ?_, ?_, ?_, ?_, ?_, ?_, ?_, ?_, ?_, ?_, ?_, ?_, ?_⟩ <;> simp [go_sem])) hb1; have hbw1 : Below w.heap.size w w1 := (by ((refine Below.trans ?_ (hb1.mono ?_)) <;> repeat' first | exact bF _ _ | exact hbw1 | refine bA ?_ ?_ _ | refine bS ?_ ?_ _ | refine bD ?_ | refine below_drewN ?_ _ | (simp; done) | (simp; omega) | (simp [z00]; done) | (simp [z00]; omega) | omega)); have hY := hX1; obtain ⟨t0, a0, a1, af0, af1, b0, b1, bf0, bf1, r0, r1, rf0, rf1, s0, s1, sf0, sf1⟩ := hY; have u2 : w.heap.size + 1 + 1 < w1.heap.size := (by omega); have u0 : w.heap.size < w1.heap.size := (by omega); have u1 : w.heap.size + 1 < w1.heap.size := (by omega))))
 all_goals exact bodyPost_ret (v := .tuple #[.agg #[vI vK (((belV 1 al ah bl bh).1).1), vI vK (((belV 1 al ah bl bh).1).2)], .agg #[vI vK (((belV 1 al ah bl bh).2.1).1), vI vK (((belV 1 al ah bl bh).2.1).2)], .bool ((belV 1 al ah bl bh).2.2)]) (by simp [results, Tryz.results79, go_sem, r0, r1, s0, s1]) rfl ⟨rfl, by repeat' first | exact bF _ _ | exact hbw1 | refine bA ?_ ?_ _ | refine bS ?_ ?_ _ | refine bD ?_ | refine below_drewN ?_ _ | (simp; done) | (simp; omega) | (simp [z00]; done) | (simp [z00]; omega) | omega⟩
theorem nar_24 (al ah bl bh : Int) (pal : -9223372036854775808 ≤ al) (qal : al ≤ 9223372036854775807) (pah : -9223372036854775808 ≤ ah) (qah : ah ≤ 9223372036854775807) (pbl : -9223372036854775808 ≤ bl) (qbl : bl ≤ 9223372036854775807) (pbh : -9223372036854775808 ≤ bh) (qbh : bh ≤ 9223372036854775807) (oa : al ≤ ah) (ob : bl ≤ bh) (w : World) : Calls Tryz.prog 79 #[vI vK 24, .agg #[vI vK al, vI vK ah], .agg #[vI vK bl, vI vK bh]] w fun e w' => e = .returned (.tuple #[.agg #[vI vK (((belV 0 al ah bl bh).1).1), vI vK (((belV 0 al ah bl bh).1).2)], .agg #[vI vK (((belV 0 al ah bl bh).2.1).1), vI vK (((belV 0 al ah bl bh).2.1).2)], .bool ((belV 0 al ah bl bh).2.2)]) ∧ Below w.heap.size w w' := by
 go_enter Tryz.func79, Tryz.ntmps79
 go_wp2_with (first | (go_at_call 92; go_must (refine (zGm _ _ _ _ pal qal pah qah pbl qbl pbh qbh oa ob _).mono ?_; rintro e w1 ⟨rfl, hb1⟩; have hX1 : Quad w.heap.size al ah bl bh w1 := Quad.later (by first | exact hX1 | (refine ⟨?_, ?_, ?_, ?_, ?_, ?_, ?_, ?_, ?_, ?_, ?_, ?_, ?_, ?_, ?_, ?_, ?_⟩ <;> simp [go_sem])) hb1; have hbw1 : Below w.heap.size w w1 := (by ((refine Below.trans ?_ (hb1.mono ?_)) <;> repeat' first | exact bF _ _ | exact hbw1 | refine bA ?_ ?_ _ | refine bS ?_ ?_ _ | refine bD ?_ | refine below_drewN ?_ _ | (simp; done) | (simp; omega) | (simp [z00]; done) | (simp [z00]; omega) | omega)); have hY := hX1; obtain ⟨t0, a0, a1, af0, af1, b0, b1, bf0, bf1, r0, r1, rf0, rf1, s0, s1, sf0, sf1⟩ := hY; have u2 : w.heap.size + 1 + 1 < w1.heap.size := (by omega); have u0 : w.heap.size < w1.heap.size := (by omega); have u1 : w.heap.size + 1 < w1.heap.size := (by omega))))
 all_goals exact bodyPost_ret (v := .tuple #[.agg #[vI vK (((belV 0 al ah bl bh).1).1), vI vK (((belV 0 al ah bl bh).1).2)], .agg #[vI vK (((belV 0 al ah bl bh).2.1).1), vI vK (((belV 0 al ah bl bh).2.1).2)], .bool ((belV 0 al ah bl bh).2.2)]) (by simp [results, Tryz.results79, go_sem, r0, r1, s0, s1]) rfl ⟨rfl, by repeat' first | exact bF _ _ | exact hbw1 | refine bA ?_ ?_ _ | refine bS ?_ ?_ _ | refine bD ?_ | refine below_drewN ?_ _ | (simp; done) | (simp; omega) | (simp [z00]; done) | (simp [z00]; omega) | omega⟩
theorem nar_no (k al ah bl bh : Int) (hk : k < 15 ∨ 24 < k) (w : World) : Calls Tryz.prog 79 #[vI vK k, .agg #[vI vK al, vI vK ah], .agg #[vI vK bl, vI vK bh]] w fun e w' => e = .returned (.tuple #[.agg #[vI vK al, vI vK ah], .agg #[vI vK bl, vI vK bh], .bool true]) ∧ Below w.heap.size w w' := by
 have e15 : (k == 15) = false := by simp; omega
 have e16 : (k == 16) = false := by simp; omega
 have e17 : (k == 17) = false := by simp; omega
 have e18 : (k == 18) = false := by simp; omega
 have e19 : (k == 19) = false := by simp; omega
 have e20 : (k == 20) = false := by simp; omega
 have e21 : (k == 21) = false := by simp; omega
 have e22 : (k == 22) = false := by simp; omega
 have e23 : (k == 23) = false := by simp; omega
 have e24 : (k == 24) = false := by simp; omega
 go_enter Tryz.func79, Tryz.ntmps79
 go_wp2_with fail
 all_goals go_region
 all_goals go_wp2
 all_goals exact bodyPost_ret (v := .tuple #[.agg #[vI vK al, vI vK ah], .agg #[vI vK bl, vI vK bh], .bool true]) (by simp [results, Tryz.results79, go_sem]) rfl ⟨rfl, by repeat' first | exact bF _ _ | refine bA ?_ ?_ _ | refine bS ?_ ?_ _ | refine bD ?_ | refine below_drewN ?_ _ | (simp; done) | (simp; omega) | (simp [z00]; done) | (simp [z00]; omega) | omega⟩
end Go.Proofs.YteenhdoaminkeaaGreatDoor
namespace Go.Proofs.YteenhdoaminkeaaGreatDoor
open Go.RowKit

theorem zCh {c x y : Int} (h : 15 ≤ c ∧ c ≤ 24) : (isV c x y == isV (oppV c) x y) = false ∧ oppV (oppV c) = c ∧ 15 ≤ oppV c ∧ oppV c ≤ 24 := by
 have e : c = 15 ∨ c = 16 ∨ c = 17 ∨ c = 18 ∨ c = 19 ∨ c = 20 ∨ c = 21 ∨ c = 22 ∨ c = 23 ∨ c = 24 := by omega
 rcases e with rfl | rfl | rfl | rfl | rfl | rfl | rfl | rfl | rfl | rfl
 ·refine ⟨?_, by decide, by decide, by decide⟩
  show (isV 15 x y == isV 16 x y) = false
  rw [zGb, zGa]; cases decide (x = y) <;> rfl
 ·refine ⟨?_, by decide, by decide, by decide⟩
  show (isV 16 x y == isV 15 x y) = false
  rw [zGb, zGa]; cases decide (x = y) <;> rfl
 ·refine ⟨?_, by decide, by decide, by decide⟩
  show (isV 17 x y == isV 20 x y) = false
  rw [zG9, zCv, beq_eq_false_iff_ne, ne_eq, decide_eq_decide]; omega
 ·refine ⟨?_, by decide, by decide, by decide⟩
  show (isV 18 x y == isV 19 x y) = false
  rw [zG8, zCw, beq_eq_false_iff_ne, ne_eq, decide_eq_decide]; omega
 ·refine ⟨?_, by decide, by decide, by decide⟩
  show (isV 19 x y == isV 18 x y) = false
  rw [zG8, zCw, beq_eq_false_iff_ne, ne_eq, decide_eq_decide]; omega
 ·refine ⟨?_, by decide, by decide, by decide⟩
  show (isV 20 x y == isV 17 x y) = false
  rw [zG9, zCv, beq_eq_false_iff_ne, ne_eq, decide_eq_decide]; omega
 ·refine ⟨?_, by decide, by decide, by decide⟩
  show (isV 21 x y == isV 24 x y) = false
  rw [zG7, zCt, beq_eq_false_iff_ne, ne_eq, decide_eq_decide]; omega
 ·refine ⟨?_, by decide, by decide, by decide⟩
  show (isV 22 x y == isV 23 x y) = false
  rw [zG6, zCu, beq_eq_false_iff_ne, ne_eq, decide_eq_decide]; omega
 ·refine ⟨?_, by decide, by decide, by decide⟩
  show (isV 23 x y == isV 22 x y) = false
  rw [zG6, zCu, beq_eq_false_iff_ne, ne_eq, decide_eq_decide]; omega
 ·refine ⟨?_, by decide, by decide, by decide⟩
  show (isV 24 x y == isV 21 x y) = false
  rw [zG7, zCt, beq_eq_false_iff_ne, ne_eq, decide_eq_decide]; omega

def z80 (r : (Int × Int) × (Int × Int) × Bool) (al ah bl bh x y : Int) (is : Prop) : Prop :=
 (is → r.2.2 = true ∧ (r.1.1 ≤ x ∧ x ≤ r.1.2) ∧ r.2.1.1 ≤ y ∧ y ≤ r.2.1.2) ∧ (r.2.2 = true → r.1.1 ≤ r.1.2 ∧ r.2.1.1 ≤ r.2.1.2 ∧ al ≤ r.1.1 ∧ r.1.2 ≤ ah ∧ bl ≤ r.2.1.1 ∧ r.2.1.2 ≤ bh)
theorem z80.swap {r : (Int × Int) × (Int × Int) × Bool} {al ah bl bh x y : Int} {p q : Prop} (h : z80 r al ah bl bh x y p) (e : q → p) : z80 (z5b r) bl bh al ah y x q :=
 ⟨fun z => by obtain ⟨a, b, c⟩ := h.1 (e z); exact ⟨a, c, b⟩, fun z => by obtain ⟨a, b, c, d, e, f⟩ := h.2 z; exact ⟨b, a, e, f, c, d⟩⟩
theorem z75 {g al ah bl bh x y : Int} (h1 : al ≤ x) (h2 : x ≤ ah) (h3 : bl ≤ y) (h4 : y ≤ bh) : z80 (belV g al ah bl bh) al ah bl bh x y (x + g ≤ y) := by
 unfold belV z80
 split
 ·exact ⟨fun h => ⟨rfl, by show al ≤ x ∧ x ≤ min ah (bh - g); omega, by show max bl (al + g) ≤ y ∧ y ≤ bh; omega⟩, fun _ => by show al ≤ min ah (bh - g) ∧ max bl (al + g) ≤ bh ∧ al ≤ al ∧ min ah (bh - g) ≤ ah ∧ bl ≤ max bl (al + g) ∧ bh ≤ bh; omega⟩
 ·exact ⟨fun h => by omega, fun h => by cases h⟩
theorem z84 {g al ah bl bh x y : Int} (h1 : al ≤ x) (h2 : x ≤ ah) (h3 : bl ≤ y) (h4 : y ≤ bh) (h5 : 0 ≤ g) (px : -9223372036854775808 ≤ x) (qx : x ≤ 9223372036854775807) (qy : y ≤ 9223372036854775807) :
  z80 (unsV g al ah bl bh) al ah bl bh x y ((uns x : Int) + g ≤ uns y) := by
 have ex := zFt x
 have ey := zFt y
 unfold unsV
 split
 ·exact ⟨fun h => ⟨rfl, ⟨h1, h2⟩, h3, h4⟩, fun _ => by show al ≤ ah ∧ bl ≤ bh ∧ al ≤ al ∧ ah ≤ ah ∧ bl ≤ bl ∧ bh ≤ bh; omega⟩
 ·by_cases hx : 0 ≤ x
  ·have b := z75 (g := g) (al := max al 0) (ah := ah) (by omega : max al 0 ≤ x) h2 h3 h4
   refine ⟨fun h => b.1 (by omega), fun h => ?_⟩
   have c := b.2 h
   omega
  ·refine ⟨fun h => by omega, fun h => ?_⟩
   unfold belV at h ⊢
   split at h
   ·rename_i hc
    rw [if_pos hc]
    show max al 0 ≤ min ah (bh - g) ∧ max bl (max al 0 + g) ≤ bh ∧ al ≤ max al 0 ∧ min ah (bh - g) ≤ ah ∧ bl ≤ max bl (max al 0 + g) ∧ bh ≤ bh
    omega
   ·cases h
theorem zG0 {c al ah bl bh x y : Int} (hc : 15 ≤ c ∧ c ≤ 24) (pal : -9223372036854775808 ≤ al) (qah : ah ≤ 9223372036854775807) (pbl : -9223372036854775808 ≤ bl) (qbh : bh ≤ 9223372036854775807)
  (h1 : al ≤ x) (h2 : x ≤ ah) (h3 : bl ≤ y) (h4 : y ≤ bh) : z80 (narV c al ah bl bh) al ah bl bh x y (isV c x y = true) := by
 have e : c = 15 ∨ c = 16 ∨ c = 17 ∨ c = 18 ∨ c = 19 ∨ c = 20 ∨ c = 21 ∨ c = 22 ∨ c = 23 ∨ c = 24 := by omega
 rcases e with rfl | rfl | rfl | rfl | rfl | rfl | rfl | rfl | rfl | rfl
 ·rw [zEz, zGb, decide_eq_true_eq]
  unfold meetV z80
  split
  ·exact ⟨fun h => ⟨rfl, by show max al bl ≤ x ∧ x ≤ min ah bh; omega, by show max al bl ≤ y ∧ y ≤ min ah bh; omega⟩, fun _ => by show max al bl ≤ min ah bh ∧ max al bl ≤ min ah bh ∧ al ≤ max al bl ∧ min ah bh ≤ ah ∧ bl ≤ max al bl ∧ min ah bh ≤ bh; omega⟩
  ·exact ⟨fun h => by omega, fun h => by cases h⟩
 ·rw [zEy, zGa, Bool.not_eq_true', decide_eq_false_iff_not]
  unfold apV
  split
  ·exact ⟨fun h => by omega, fun h => by cases h⟩
  ·have cut : ∀ {al ah ol oh x y : Int}, al ≤ x → x ≤ ah → ol ≤ y → y ≤ oh → (¬ x = y → (cutV al ah ol oh).1 ≤ x ∧ x ≤ (cutV al ah ol oh).2) ∧ (cutV al ah ol oh).1 ≤ (cutV al ah ol oh).2 ∧ al ≤ (cutV al ah ol oh).1 ∧ (cutV al ah ol oh).2 ≤ ah := by
    intro al ah ol oh x y a1 a2 a3 a4
    unfold cutV
    split
    ·exact ⟨fun _ => ⟨a1, a2⟩, by show al ≤ ah ∧ al ≤ al ∧ ah ≤ ah; omega⟩
    ·split
     ·exact ⟨fun _ => by show al + 1 ≤ x ∧ x ≤ ah; omega, by show al + 1 ≤ ah ∧ al ≤ al + 1 ∧ ah ≤ ah; omega⟩
     ·split
      ·exact ⟨fun _ => by show al ≤ x ∧ x ≤ ah - 1; omega, by show al ≤ ah - 1 ∧ al ≤ al ∧ ah - 1 ≤ ah; omega⟩
      ·exact ⟨fun _ => ⟨a1, a2⟩, by show al ≤ ah ∧ al ≤ al ∧ ah ≤ ah; omega⟩
   have k1 := cut h1 h2 h3 h4
   have k2 := cut h3 h4 h1 h2
   exact ⟨fun h => ⟨rfl, k1.1 h, k2.1 (fun z => h z.symm)⟩, fun _ => ⟨k1.2.1, k2.2.1, k1.2.2.1, k1.2.2.2, k2.2.2.1, k2.2.2.2⟩⟩
 ·rw [zEx, zG9, decide_eq_true_eq]
  exact (z84 (g := 1) h3 h4 h1 h2 (by omega) (by omega) (by omega) (by omega)).swap (fun h => by omega)
 ·rw [zEw, zG8, decide_eq_true_eq]
  exact (z84 (g := 0) h3 h4 h1 h2 (by omega) (by omega) (by omega) (by omega)).swap (fun h => by omega)
 ·rw [zAz, zCw, decide_eq_true_eq]
  have k := z84 (g := 1) h1 h2 h3 h4 (by omega) (by omega) (by omega) (by omega)
  exact ⟨fun h => k.1 (by omega), k.2⟩
 ·rw [zAy, zCv, decide_eq_true_eq]
  have k := z84 (g := 0) h1 h2 h3 h4 (by omega) (by omega) (by omega) (by omega)
  exact ⟨fun h => k.1 (by omega), k.2⟩
 ·rw [z8r, zG7, decide_eq_true_eq]
  exact (z75 (g := 1) h3 h4 h1 h2).swap (fun h => by omega)
 ·rw [z8q, zG6, decide_eq_true_eq]
  exact (z75 (g := 0) h3 h4 h1 h2).swap (fun h => by omega)
 ·rw [zEv, zCu, decide_eq_true_eq]
  have k := z75 (g := 1) h1 h2 h3 h4
  exact ⟨fun h => k.1 (by omega), k.2⟩
 ·rw [zEu, zCt, decide_eq_true_eq]
  have k := z75 (g := 0) h1 h2 h3 h4
  exact ⟨fun h => k.1 (by omega), k.2⟩
end Go.Proofs.YteenhdoaminkeaaGreatDoor
