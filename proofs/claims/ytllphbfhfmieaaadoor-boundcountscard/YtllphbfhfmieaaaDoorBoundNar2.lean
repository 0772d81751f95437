/-
  What bound.apart and bound.Narrow return, as functions on integers; the world below is as it was. Conditions: the ends are numbers of 64 bits, the low end not above the high one.
-/
import Derived.Test.YtllphbfhfmieaaaDoorBoundNar
import Derived.Outline
import Derived.BigQuiet
namespace Go.Proofs.YtllphbfhfmieaaaDoor
open Go.ChangeShapes Go.WideShapes Go.ChangeAt Go.RowKit
set_option linter.unusedVariables false
attribute [local simp] drew_size
/-- A bound without another one, if that is one number alone. -/
def cutV (al ah ol oh : Int) : Int × Int :=
  if al = ah then (al, ah) else if ol = al ∧ oh = al then (al + 1, ah) else if ol = ah ∧ oh = ah then (al, ah - 1) else (al, ah)

theorem without_is (al ah bl bh : Int) (pal : -9223372036854775808 ≤ al) (qah : ah ≤ 9223372036854775807) (oa : al ≤ ah) (w : World) : Calls Tryd.prog 72 #[.agg #[.int .i64 al, .int .i64 ah], .agg #[.int .i64 bl, .int .i64 bh]] w fun e w' => e = .returned (.agg #[.int .i64 ((cutV al ah bl bh).1), .int .i64 ((cutV al ah bl bh).2)]) ∧ Below w.heap.size w w' := by
  unfold cutV
  by_cases h0 : al = ah
  · rw [if_pos h0]
    subst h0
    exact wo_one al bl bh w
  · rw [if_neg h0]
    by_cases h1 : bl = al ∧ bh = al
    · rw [if_pos h1]
      exact wo_low al ah bl bh (fun h => h0 h.symm) (by omega) pal qah ((eqB_iff _ _ _).2 h1) w
    · rw [if_neg h1]
      by_cases h2 : bl = ah ∧ bh = ah
      · rw [if_pos h2]
        exact wo_high al ah bl bh (fun h => h0 h.symm) (by omega) pal qah ((eqB_no _ _ _).2 h1) ((eqB_iff _ _ _).2 h2) w
      · rw [if_neg h2]
        exact wo_none al ah bl bh (fun h => h0 h.symm) ((eqB_no _ _ _).2 h1) ((eqB_no _ _ _).2 h2) w
/-- Four boxes of a bound each, one behind the other: two with these ends, two with noughts. -/
def Quad (n : Nat) (al ah bl bh : Int) (w : World) : Prop :=
  n + 1 + 1 + 1 < w.heap.size ∧ w.cell? ⟨n, 0, none⟩ = some (.int .i64 al) ∧ w.cell? ⟨n, 1, none⟩ = some (.int .i64 ah) ∧ w.frozen? ⟨n, 0, none⟩ = false ∧ w.frozen? ⟨n, 1, none⟩ = false ∧ w.cell? ⟨n + 1, 0, none⟩ = some (.int .i64 bl) ∧ w.cell? ⟨n + 1, 1, none⟩ = some (.int .i64 bh) ∧ w.frozen? ⟨n + 1, 0, none⟩ = false ∧ w.frozen? ⟨n + 1, 1, none⟩ = false ∧ w.cell? ⟨n + 1 + 1, 0, none⟩ = some (.int .i64 0) ∧ w.cell? ⟨n + 1 + 1, 1, none⟩ = some (.int .i64 0) ∧ w.frozen? ⟨n + 1 + 1, 0, none⟩ = false ∧ w.frozen? ⟨n + 1 + 1, 1, none⟩ = false ∧ w.cell? ⟨n + 1 + 1 + 1, 0, none⟩ = some (.int .i64 0) ∧ w.cell? ⟨n + 1 + 1 + 1, 1, none⟩ = some (.int .i64 0) ∧ w.frozen? ⟨n + 1 + 1 + 1, 0, none⟩ = false ∧ w.frozen? ⟨n + 1 + 1 + 1, 1, none⟩ = false
theorem Quad.later {n : Nat} {al ah bl bh : Int} {W w1 : World} (h : Quad n al ah bl bh W) (hb : Below W.heap.size W w1) : Quad n al ah bl bh w1 := by
  obtain ⟨t0, a0, a1, af0, af1, b0, b1, bf0, bf1, r0, r1, rf0, rf1, s0, s1, sf0, sf1⟩ := h
  have hs := hb.size
  have l0 : n < W.heap.size := by omega
  have l1 : n + 1 < W.heap.size := by omega
  have l2 : n + 1 + 1 < W.heap.size := by omega
  have l3 : n + 1 + 1 + 1 < W.heap.size := by omega
  exact ⟨by omega, (hb.cell (p := ⟨n, 0, none⟩) l0).trans a0, (hb.cell (p := ⟨n, 1, none⟩) l0).trans a1, (hb.frozen (p := ⟨n, 0, none⟩) l0).trans af0, (hb.frozen (p := ⟨n, 1, none⟩) l0).trans af1, (hb.cell (p := ⟨n + 1, 0, none⟩) l1).trans b0, (hb.cell (p := ⟨n + 1, 1, none⟩) l1).trans b1, (hb.frozen (p := ⟨n + 1, 0, none⟩) l1).trans bf0, (hb.frozen (p := ⟨n + 1, 1, none⟩) l1).trans bf1, (hb.cell (p := ⟨n + 1 + 1, 0, none⟩) l2).trans r0, (hb.cell (p := ⟨n + 1 + 1, 1, none⟩) l2).trans r1, (hb.frozen (p := ⟨n + 1 + 1, 0, none⟩) l2).trans rf0, (hb.frozen (p := ⟨n + 1 + 1, 1, none⟩) l2).trans rf1, (hb.cell (p := ⟨n + 1 + 1 + 1, 0, none⟩) l3).trans s0, (hb.cell (p := ⟨n + 1 + 1 + 1, 1, none⟩) l3).trans s1, (hb.frozen (p := ⟨n + 1 + 1 + 1, 0, none⟩) l3).trans sf0, (hb.frozen (p := ⟨n + 1 + 1 + 1, 1, none⟩) l3).trans sf1⟩
theorem apart_no (al : Int) (w : World) : Calls Tryd.prog 54 #[.agg #[.int .i64 al, .int .i64 al], .agg #[.int .i64 al, .int .i64 al]] w fun e w' => e = .returned (.tuple #[.agg #[.int .i64 0, .int .i64 0], .agg #[.int .i64 0, .int .i64 0], .bool false]) ∧ Below w.heap.size w w' := by
  go_enter Tryd.func54, Tryd.ntmps54
  go_wp2_with fail
  go_region_held3 (fun w' => w'.cell? ⟨w.heap.size, 0, none⟩ = some (.int .i64 al) ∧ w'.cell? ⟨w.heap.size, 1, none⟩ = some (.int .i64 al) ∧ w'.cell? ⟨w.heap.size + 1, 0, none⟩ = some (.int .i64 al) ∧ w'.cell? ⟨w.heap.size + 1, 1, none⟩ = some (.int .i64 al)) (first | (simp [go_sem]; done) | (simp [go_sem, *]; done) | go_keep) (first | (go_at_call 17; refine (one_at _ _).mono ?_; rintro e w' ⟨rfl, rfl⟩))
  all_goals go_wp2
  all_goals exact bodyPost_ret (v := .tuple #[.agg #[.int .i64 0, .int .i64 0], .agg #[.int .i64 0, .int .i64 0], .bool false]) (by simp [results, Tryd.results54, go_sem]) rfl ⟨rfl, by repeat' first | exact Below.refl _ _ | refine Below.alloc ?_ ?_ _ | refine Below.setCell ?_ ?_ _ | refine Below.drew ?_ | refine below_drewN ?_ _ | (simp; done) | (simp; omega) | (simp [drew_size]; done) | (simp [drew_size]; omega) | omega⟩
theorem drewN_size (w : World) (n : Nat) : (w.drewN n).heap.size = w.heap.size := rfl
attribute [local simp] drewN_size
set_option maxHeartbeats 1000000 in
theorem apart_y2 (al ah bl bh : Int) (pal : -9223372036854775808 ≤ al) (qal : al ≤ 9223372036854775807) (pah : -9223372036854775808 ≤ ah) (qah : ah ≤ 9223372036854775807) (pbl : -9223372036854775808 ≤ bl) (qbl : bl ≤ 9223372036854775807) (pbh : -9223372036854775808 ≤ bh) (qbh : bh ≤ 9223372036854775807) (oa : al ≤ ah) (ob : bl ≤ bh) (hne : ¬ al = bl) (w : World) : Calls Tryd.prog 54 #[.agg #[.int .i64 al, .int .i64 ah], .agg #[.int .i64 bl, .int .i64 bh]] w fun e w' => e = .returned (.tuple #[.agg #[.int .i64 ((cutV al ah bl bh).1), .int .i64 ((cutV al ah bl bh).2)], .agg #[.int .i64 ((cutV bl bh al ah).1), .int .i64 ((cutV bl bh al ah).2)], .bool true]) ∧ Below w.heap.size w w' := by
  go_enter Tryd.func54, Tryd.ntmps54
  go_wp2_with fail
  go_quiet (fail)
  go_wp2_with fail
  go_region_held3 (fun w' => w'.cell? ⟨w.heap.size, 0, none⟩ = some (.int .i64 al) ∧ w'.cell? ⟨w.heap.size, 1, none⟩ = some (.int .i64 ah) ∧ w'.cell? ⟨w.heap.size + 1, 0, none⟩ = some (.int .i64 bl) ∧ w'.cell? ⟨w.heap.size + 1, 1, none⟩ = some (.int .i64 bh)) (first | (simp [go_sem]; done) | (simp [go_sem, *]; done) | go_keep) (first | (go_at_call 17; refine (one_at _ _).mono ?_; rintro e w' ⟨rfl, rfl⟩) | (go_at_call 72; go_must (refine (without_is _ _ _ _ ?_ ?_ ?_ _).mono ?_; omega; omega; omega; rintro e w1 ⟨rfl, hb1⟩; have hX1 : Quad w.heap.size al ah bl bh w1 := Quad.later (by first | exact hX1 | (refine ⟨?_, ?_, ?_, ?_, ?_, ?_, ?_, ?_, ?_, ?_, ?_, ?_, ?_, ?_, ?_, ?_, ?_⟩ <;> simp [go_sem])) hb1; have hbw1 : Below w.heap.size w w1 := (by ((refine Below.trans ?_ (hb1.mono ?_)) <;> repeat' first | exact Below.refl _ _ | exact hbw1 | refine Below.alloc ?_ ?_ _ | refine Below.setCell ?_ ?_ _ | refine Below.drew ?_ | refine below_drewN ?_ _ | (simp; done) | (simp; omega) | (simp [drew_size]; done) | (simp [drew_size]; omega) | omega)); have hY := hX1; obtain ⟨t0, a0, a1, af0, af1, b0, b1, bf0, bf1, r0, r1, rf0, rf1, s0, s1, sf0, sf1⟩ := hY)))
  all_goals go_wp2_with fail
  all_goals exact bodyPost_ret (v := .tuple #[.agg #[.int .i64 ((cutV al ah bl bh).1), .int .i64 ((cutV al ah bl bh).2)], .agg #[.int .i64 ((cutV bl bh al ah).1), .int .i64 ((cutV bl bh al ah).2)], .bool true]) (by simp [results, Tryd.results54, go_sem, r0, r1, s0, s1]) rfl ⟨rfl, by repeat' first | exact Below.refl _ _ | exact hbw1 | refine Below.alloc ?_ ?_ _ | refine Below.setCell ?_ ?_ _ | refine Below.drew ?_ | refine below_drewN ?_ _ | (simp; done) | (simp; omega) | (simp [drew_size]; done) | (simp [drew_size]; omega) | omega⟩
set_option maxHeartbeats 1000000 in
theorem apart_y3 (al ah bh : Int) (pal : -9223372036854775808 ≤ al) (qal : al ≤ 9223372036854775807) (pah : -9223372036854775808 ≤ ah) (qah : ah ≤ 9223372036854775807) (pbh : -9223372036854775808 ≤ bh) (qbh : bh ≤ 9223372036854775807) (oa : al ≤ ah) (ob : al ≤ bh) (hne : ¬ ah = bh) (w : World) : Calls Tryd.prog 54 #[.agg #[.int .i64 al, .int .i64 ah], .agg #[.int .i64 al, .int .i64 bh]] w fun e w' => e = .returned (.tuple #[.agg #[.int .i64 ((cutV al ah al bh).1), .int .i64 ((cutV al ah al bh).2)], .agg #[.int .i64 ((cutV al bh al ah).1), .int .i64 ((cutV al bh al ah).2)], .bool true]) ∧ Below w.heap.size w w' := by
  go_enter Tryd.func54, Tryd.ntmps54
  go_wp2_with fail
  go_quiet (fail)
  go_wp2_with fail
  go_region_held3 (fun w' => w'.cell? ⟨w.heap.size, 0, none⟩ = some (.int .i64 al) ∧ w'.cell? ⟨w.heap.size, 1, none⟩ = some (.int .i64 ah) ∧ w'.cell? ⟨w.heap.size + 1, 0, none⟩ = some (.int .i64 al) ∧ w'.cell? ⟨w.heap.size + 1, 1, none⟩ = some (.int .i64 bh)) (first | (simp [go_sem]; done) | (simp [go_sem, *]; done) | go_keep) (first | (go_at_call 17; refine (one_at _ _).mono ?_; rintro e w' ⟨rfl, rfl⟩) | (go_at_call 72; go_must (refine (without_is _ _ _ _ ?_ ?_ ?_ _).mono ?_; omega; omega; omega; rintro e w1 ⟨rfl, hb1⟩; have hX1 : Quad w.heap.size al ah al bh w1 := Quad.later (by first | exact hX1 | (refine ⟨?_, ?_, ?_, ?_, ?_, ?_, ?_, ?_, ?_, ?_, ?_, ?_, ?_, ?_, ?_, ?_, ?_⟩ <;> simp [go_sem])) hb1; have hbw1 : Below w.heap.size w w1 := (by ((refine Below.trans ?_ (hb1.mono ?_)) <;> repeat' first | exact Below.refl _ _ | exact hbw1 | refine Below.alloc ?_ ?_ _ | refine Below.setCell ?_ ?_ _ | refine Below.drew ?_ | refine below_drewN ?_ _ | (simp; done) | (simp; omega) | (simp [drew_size]; done) | (simp [drew_size]; omega) | omega)); have hY := hX1; obtain ⟨t0, a0, a1, af0, af1, b0, b1, bf0, bf1, r0, r1, rf0, rf1, s0, s1, sf0, sf1⟩ := hY)))
  all_goals go_wp2_with fail
  all_goals exact bodyPost_ret (v := .tuple #[.agg #[.int .i64 ((cutV al ah al bh).1), .int .i64 ((cutV al ah al bh).2)], .agg #[.int .i64 ((cutV al bh al ah).1), .int .i64 ((cutV al bh al ah).2)], .bool true]) (by simp [results, Tryd.results54, go_sem, r0, r1, s0, s1]) rfl ⟨rfl, by repeat' first | exact Below.refl _ _ | exact hbw1 | refine Below.alloc ?_ ?_ _ | refine Below.setCell ?_ ?_ _ | refine Below.drew ?_ | refine below_drewN ?_ _ | (simp; done) | (simp; omega) | (simp [drew_size]; done) | (simp [drew_size]; omega) | omega⟩
set_option maxHeartbeats 1000000 in
theorem apart_y1 (al ah : Int) (pal : -9223372036854775808 ≤ al) (qal : al ≤ 9223372036854775807) (pah : -9223372036854775808 ≤ ah) (qah : ah ≤ 9223372036854775807) (oa : al ≤ ah) (hne : ¬ ah = al) (w : World) : Calls Tryd.prog 54 #[.agg #[.int .i64 al, .int .i64 ah], .agg #[.int .i64 al, .int .i64 ah]] w fun e w' => e = .returned (.tuple #[.agg #[.int .i64 ((cutV al ah al ah).1), .int .i64 ((cutV al ah al ah).2)], .agg #[.int .i64 ((cutV al ah al ah).1), .int .i64 ((cutV al ah al ah).2)], .bool true]) ∧ Below w.heap.size w w' := by
  go_enter Tryd.func54, Tryd.ntmps54
  go_wp2_with fail
  go_region_held3 (fun w' => w'.cell? ⟨w.heap.size, 0, none⟩ = some (.int .i64 al) ∧ w'.cell? ⟨w.heap.size, 1, none⟩ = some (.int .i64 ah) ∧ w'.cell? ⟨w.heap.size + 1, 0, none⟩ = some (.int .i64 al) ∧ w'.cell? ⟨w.heap.size + 1, 1, none⟩ = some (.int .i64 ah)) (first | (simp [go_sem]; done) | (simp [go_sem, *]; done) | go_keep) (first | (go_at_call 17; refine (one_at _ _).mono ?_; rintro e w' ⟨rfl, rfl⟩))
  all_goals go_wp2_with fail
  go_region_held3 (fun w' => w'.cell? ⟨w.heap.size, 0, none⟩ = some (.int .i64 al) ∧ w'.cell? ⟨w.heap.size, 1, none⟩ = some (.int .i64 ah) ∧ w'.cell? ⟨w.heap.size + 1, 0, none⟩ = some (.int .i64 al) ∧ w'.cell? ⟨w.heap.size + 1, 1, none⟩ = some (.int .i64 ah)) (first | (simp [go_sem]; done) | (simp [go_sem, *]; done) | go_keep) (first | (go_at_call 17; refine (one_at _ _).mono ?_; rintro e w' ⟨rfl, rfl⟩) | (go_at_call 72; go_must (refine (without_is _ _ _ _ ?_ ?_ ?_ _).mono ?_; omega; omega; omega; rintro e w1 ⟨rfl, hb1⟩; have hX1 : Quad w.heap.size al ah al ah w1 := Quad.later (by first | exact hX1 | (refine ⟨?_, ?_, ?_, ?_, ?_, ?_, ?_, ?_, ?_, ?_, ?_, ?_, ?_, ?_, ?_, ?_, ?_⟩ <;> simp [go_sem])) hb1; have hbw1 : Below w.heap.size w w1 := (by ((refine Below.trans ?_ (hb1.mono ?_)) <;> repeat' first | exact Below.refl _ _ | exact hbw1 | refine Below.alloc ?_ ?_ _ | refine Below.setCell ?_ ?_ _ | refine Below.drew ?_ | refine below_drewN ?_ _ | (simp; done) | (simp; omega) | (simp [drew_size]; done) | (simp [drew_size]; omega) | omega)); have hY := hX1; obtain ⟨t0, a0, a1, af0, af1, b0, b1, bf0, bf1, r0, r1, rf0, rf1, s0, s1, sf0, sf1⟩ := hY)))
  all_goals go_wp2_with fail
  all_goals exact bodyPost_ret (v := .tuple #[.agg #[.int .i64 ((cutV al ah al ah).1), .int .i64 ((cutV al ah al ah).2)], .agg #[.int .i64 ((cutV al ah al ah).1), .int .i64 ((cutV al ah al ah).2)], .bool true]) (by simp [results, Tryd.results54, go_sem, r0, r1, s0, s1]) rfl ⟨rfl, by repeat' first | exact Below.refl _ _ | exact hbw1 | refine Below.alloc ?_ ?_ _ | refine Below.setCell ?_ ?_ _ | refine Below.drew ?_ | refine below_drewN ?_ _ | (simp; done) | (simp; omega) | (simp [drew_size]; done) | (simp [drew_size]; omega) | omega⟩
end Go.Proofs.YtllphbfhfmieaaaDoor
