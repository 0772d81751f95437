/-
  What the document's own Narrow returns at Jeq, Jne, and where nothing is asked: as a function on integers; the world below is as it was. Conditions: the ends are numbers of 64 bits, the low end not above the high one.
-/
import Derived.Test.YtllphbfhfmieaaaDoorBoundRefNar2
namespace Go.Proofs.YtllphbfhfmieaaaDoor
open Go.ChangeShapes Go.WideShapes Go.ChangeAt Go.RowKit
set_option linter.unusedVariables false
attribute [local simp] drew_size drewN_size setCell_size

theorem rmeet_is (al ah bl bh : Int) (w : World) : Calls Tryd.prog 18 #[.agg #[.int .i64 al, .int .i64 ah], .agg #[.int .i64 bl, .int .i64 bh]] w fun e w' => e = .returned (.tuple #[.agg #[.int .i64 (((meetV al ah bl bh).1).1), .int .i64 (((meetV al ah bl bh).1).2)], .bool ((meetV al ah bl bh).2)]) ∧ Below w.heap.size w w' := by
  unfold meetV
  by_cases h : max al bl ≤ min ah bh
  · rw [if_pos h]
    exact rmeet_yes al ah bl bh h w
  · rw [if_neg h]
    exact rmeet_no al ah bl bh (by omega) w
set_option maxHeartbeats 2000000 in
set_option maxRecDepth 100000 in
theorem rnar_15 (al ah bl bh : Int) (pal : -9223372036854775808 ≤ al) (qal : al ≤ 9223372036854775807) (pah : -9223372036854775808 ≤ ah) (qah : ah ≤ 9223372036854775807) (pbl : -9223372036854775808 ≤ bl) (qbl : bl ≤ 9223372036854775807) (pbh : -9223372036854775808 ≤ bh) (qbh : bh ≤ 9223372036854775807) (oa : al ≤ ah) (ob : bl ≤ bh) (w : World) : Calls Tryd.prog 23 #[.int .i64 15, .agg #[.int .i64 al, .int .i64 ah], .agg #[.int .i64 bl, .int .i64 bh]] w fun e w' => e = .returned (.tuple #[.agg #[.int .i64 (((narV 15 al ah bl bh).1).1), .int .i64 (((narV 15 al ah bl bh).1).2)], .agg #[.int .i64 (((narV 15 al ah bl bh).2.1).1), .int .i64 (((narV 15 al ah bl bh).2.1).2)], .bool ((narV 15 al ah bl bh).2.2)]) ∧ Below w.heap.size w w' := by
  rw [narV_15]
  have hn := fun w => rmeet_is al ah bl bh w
  generalize meetV al ah bl bh = r at hn ⊢
  obtain ⟨⟨k1, k2⟩, ok⟩ := r
  have H : Hid (∀ w : World, Calls Tryd.prog 18 #[.agg #[.int .i64 al, .int .i64 ah], .agg #[.int .i64 bl, .int .i64 bh]] w fun e w' => e = .returned (.tuple #[.agg #[.int .i64 k1, .int .i64 k2], .bool ok]) ∧ Below w.heap.size w w') := hn
  clear hn
  go_enter Tryd.func23, Tryd.ntmps23
  go_wp2_with (first | (go_at_call 18; go_must (refine (H.out _).mono ?_; rintro e w1 ⟨rfl, hb1⟩; have hX1 : Quad w.heap.size al ah bl bh w1 := Quad.later (by first | exact hX1 | (refine ⟨?_, ?_, ?_, ?_, ?_, ?_, ?_, ?_, ?_, ?_, ?_, ?_, ?_, ?_, ?_, ?_, ?_⟩ <;> simp [go_sem])) hb1; have hbw1 : Below w.heap.size w w1 := (by ((refine Below.trans ?_ (hb1.mono ?_)) <;> repeat' first | exact Below.refl _ _ | refine Below.alloc ?_ ?_ _ | refine Below.setCell ?_ ?_ _ | refine Below.drew ?_ | refine below_drewN ?_ _ | (simp; done) | (simp; omega) | (simp [drew_size]; done) | (simp [drew_size]; omega) | omega)); have hY := hX1; obtain ⟨t0, a0, a1, af0, af1, b0, b1, bf0, bf1, r0, r1, rf0, rf1, s0, s1, sf0, sf1⟩ := hY; have sz00 : w.heap.size < w1.heap.size := (by omega); have sz01 : w.heap.size < w1.heap.size + 1 := (by omega); have sz02 : w.heap.size < w1.heap.size + 1 + 1 := (by omega); have sz03 : w.heap.size < w1.heap.size + 1 + 1 + 1 := (by omega); have sz10 : w.heap.size + 1 < w1.heap.size := (by omega); have sz11 : w.heap.size + 1 < w1.heap.size + 1 := (by omega); have sz12 : w.heap.size + 1 < w1.heap.size + 1 + 1 := (by omega); have sz13 : w.heap.size + 1 < w1.heap.size + 1 + 1 + 1 := (by omega); have sz20 : w.heap.size + 1 + 1 < w1.heap.size := (by omega); have sz21 : w.heap.size + 1 + 1 < w1.heap.size + 1 := (by omega); have sz22 : w.heap.size + 1 + 1 < w1.heap.size + 1 + 1 := (by omega); have sz23 : w.heap.size + 1 + 1 < w1.heap.size + 1 + 1 + 1 := (by omega); have sz30 : w.heap.size + 1 + 1 + 1 < w1.heap.size := (by omega); have sz31 : w.heap.size + 1 + 1 + 1 < w1.heap.size + 1 := (by omega); have sz32 : w.heap.size + 1 + 1 + 1 < w1.heap.size + 1 + 1 := (by omega); have sz33 : w.heap.size + 1 + 1 + 1 < w1.heap.size + 1 + 1 + 1 := (by omega))))
  all_goals go_region
  all_goals go_wp2
  all_goals exact bodyPost_ret (v := .tuple #[.agg #[.int .i64 k1, .int .i64 k2], .agg #[.int .i64 k1, .int .i64 k2], .bool ok]) (by simp [results, Tryd.results23, go_sem, r0, r1, s0, s1, sz20, sz30]) rfl ⟨rfl, by repeat' first | exact Below.refl _ _ | exact hbw1 | refine Below.alloc ?_ ?_ _ | refine Below.setCell ?_ ?_ _ | refine Below.drew ?_ | refine below_drewN ?_ _ | (simp; done) | (simp; omega) | (simp [drew_size]; done) | (simp [drew_size]; omega) | omega⟩
set_option maxHeartbeats 2000000 in
set_option maxRecDepth 100000 in
theorem rnar_no (k al ah bl bh : Int) (hk : k < 15 ∨ 24 < k) (w : World) : Calls Tryd.prog 23 #[.int .i64 k, .agg #[.int .i64 al, .int .i64 ah], .agg #[.int .i64 bl, .int .i64 bh]] w fun e w' => e = .returned (.tuple #[.agg #[.int .i64 al, .int .i64 ah], .agg #[.int .i64 bl, .int .i64 bh], .bool true]) ∧ Below w.heap.size w w' := by
  have e15 : (k == 15) = false := by simp; omega
  have e16 : (k == 16) = false := by simp; omega
  have e17 : (k == 17) = false := by simp; omega
  have e18 : (k == 18) = false := by simp; omega
  have e19 : (k == 19) = false := by simp; omega
  have e20 : (k == 20) = false := by simp; omega
  have e21 : (k == 21) = false := by simp; omega
  have e22 : (k == 22) = false := by simp; omega
  have e23 : (k == 23) = false := by simp; omega
  have e24 : (k == 24) = false := by simp; omega
  go_enter Tryd.func23, Tryd.ntmps23
  go_wp2_with fail
  all_goals go_region
  all_goals go_wp2
  all_goals exact bodyPost_ret (v := .tuple #[.agg #[.int .i64 al, .int .i64 ah], .agg #[.int .i64 bl, .int .i64 bh], .bool true]) (by simp [results, Tryd.results23, go_sem]) rfl ⟨rfl, by repeat' first | exact Below.refl _ _ | refine Below.alloc ?_ ?_ _ | refine Below.setCell ?_ ?_ _ | refine Below.drew ?_ | refine below_drewN ?_ _ | (simp; done) | (simp; omega) | (simp [drew_size]; done) | (simp [drew_size]; omega) | omega⟩
set_option maxHeartbeats 2000000 in
set_option maxRecDepth 100000 in
theorem rn_16n (al : Int) (w : World) : Calls Tryd.prog 23 #[.int .i64 16, .agg #[.int .i64 al, .int .i64 al], .agg #[.int .i64 al, .int .i64 al]] w fun e w' => e = .returned (.tuple #[.agg #[.int .i64 0, .int .i64 0], .agg #[.int .i64 0, .int .i64 0], .bool false]) ∧ Below w.heap.size w w' := by
  go_enter Tryd.func23, Tryd.ntmps23
  go_wp2_with fail
  all_goals go_region
  all_goals go_wp2
  all_goals exact bodyPost_ret (v := .tuple #[.agg #[.int .i64 0, .int .i64 0], .agg #[.int .i64 0, .int .i64 0], .bool false]) (by simp [results, Tryd.results23, go_sem]) rfl ⟨rfl, by repeat' first | exact Below.refl _ _ | refine Below.alloc ?_ ?_ _ | refine Below.setCell ?_ ?_ _ | refine Below.drew ?_ | refine below_drewN ?_ _ | (simp; done) | (simp; omega) | (simp [drew_size]; done) | (simp [drew_size]; omega) | omega⟩
set_option maxHeartbeats 2000000 in
set_option maxRecDepth 100000 in
theorem rn_16y2 (al ah bl bh : Int) (pal : -9223372036854775808 ≤ al) (qal : al ≤ 9223372036854775807) (pah : -9223372036854775808 ≤ ah) (qah : ah ≤ 9223372036854775807) (pbl : -9223372036854775808 ≤ bl) (qbl : bl ≤ 9223372036854775807) (pbh : -9223372036854775808 ≤ bh) (qbh : bh ≤ 9223372036854775807) (oa : al ≤ ah) (ob : bl ≤ bh) (hne : ¬ al = bl) (w : World) : Calls Tryd.prog 23 #[.int .i64 16, .agg #[.int .i64 al, .int .i64 ah], .agg #[.int .i64 bl, .int .i64 bh]] w fun e w' => e = .returned (.tuple #[.agg #[.int .i64 ((cutV al ah bl bh).1), .int .i64 ((cutV al ah bl bh).2)], .agg #[.int .i64 ((cutV bl bh al ah).1), .int .i64 ((cutV bl bh al ah).2)], .bool true]) ∧ Below w.heap.size w w' := by
  go_enter Tryd.func23, Tryd.ntmps23
  go_wp2_with fail
  go_region_held3 (fun w' => w'.cell? ⟨w.heap.size, 0, none⟩ = some (.int .i64 al) ∧ w'.cell? ⟨w.heap.size, 1, none⟩ = some (.int .i64 ah) ∧ w'.cell? ⟨w.heap.size + 1, 0, none⟩ = some (.int .i64 bl) ∧ w'.cell? ⟨w.heap.size + 1, 1, none⟩ = some (.int .i64 bh)) (first | (simp [go_sem]; done) | (simp [go_sem, *]; done) | go_keep) (first | (go_at_call 53; go_must (refine (rcut_is _ _ _ _ ?_ ?_ ?_ _).mono ?_; omega; omega; omega; rintro e w1 ⟨rfl, hb1⟩; have hX1 : Quad w.heap.size al ah bl bh w1 := Quad.later (by first | exact hX1 | (refine ⟨?_, ?_, ?_, ?_, ?_, ?_, ?_, ?_, ?_, ?_, ?_, ?_, ?_, ?_, ?_, ?_, ?_⟩ <;> simp [go_sem])) hb1; have hbw1 : Below w.heap.size w w1 := (by ((refine Below.trans ?_ (hb1.mono ?_)) <;> repeat' first | exact Below.refl _ _ | refine Below.alloc ?_ ?_ _ | refine Below.setCell ?_ ?_ _ | refine Below.drew ?_ | refine below_drewN ?_ _ | (simp; done) | (simp; omega) | (simp [drew_size]; done) | (simp [drew_size]; omega) | omega)); have hY := hX1; obtain ⟨t0, a0, a1, af0, af1, b0, b1, bf0, bf1, r0, r1, rf0, rf1, s0, s1, sf0, sf1⟩ := hY; have sz00 : w.heap.size < w1.heap.size := (by omega); have sz01 : w.heap.size < w1.heap.size + 1 := (by omega); have sz02 : w.heap.size < w1.heap.size + 1 + 1 := (by omega); have sz03 : w.heap.size < w1.heap.size + 1 + 1 + 1 := (by omega); have sz10 : w.heap.size + 1 < w1.heap.size := (by omega); have sz11 : w.heap.size + 1 < w1.heap.size + 1 := (by omega); have sz12 : w.heap.size + 1 < w1.heap.size + 1 + 1 := (by omega); have sz13 : w.heap.size + 1 < w1.heap.size + 1 + 1 + 1 := (by omega); have sz20 : w.heap.size + 1 + 1 < w1.heap.size := (by omega); have sz21 : w.heap.size + 1 + 1 < w1.heap.size + 1 := (by omega); have sz22 : w.heap.size + 1 + 1 < w1.heap.size + 1 + 1 := (by omega); have sz23 : w.heap.size + 1 + 1 < w1.heap.size + 1 + 1 + 1 := (by omega); have sz30 : w.heap.size + 1 + 1 + 1 < w1.heap.size := (by omega); have sz31 : w.heap.size + 1 + 1 + 1 < w1.heap.size + 1 := (by omega); have sz32 : w.heap.size + 1 + 1 + 1 < w1.heap.size + 1 + 1 := (by omega); have sz33 : w.heap.size + 1 + 1 + 1 < w1.heap.size + 1 + 1 + 1 := (by omega))))
  all_goals go_wp2_with fail
  all_goals exact bodyPost_ret (v := .tuple #[.agg #[.int .i64 ((cutV al ah bl bh).1), .int .i64 ((cutV al ah bl bh).2)], .agg #[.int .i64 ((cutV bl bh al ah).1), .int .i64 ((cutV bl bh al ah).2)], .bool true]) (by simp [results, Tryd.results23, go_sem, r0, r1, s0, s1]) rfl ⟨rfl, by repeat' first | exact Below.refl _ _ | exact hbw1 | refine Below.alloc ?_ ?_ _ | refine Below.setCell ?_ ?_ _ | refine Below.drew ?_ | refine below_drewN ?_ _ | (simp; done) | (simp; omega) | (simp [drew_size]; done) | (simp [drew_size]; omega) | omega⟩
set_option maxHeartbeats 2000000 in
set_option maxRecDepth 100000 in
theorem rn_16y3 (al ah bh : Int) (pal : -9223372036854775808 ≤ al) (qal : al ≤ 9223372036854775807) (pah : -9223372036854775808 ≤ ah) (qah : ah ≤ 9223372036854775807) (pbh : -9223372036854775808 ≤ bh) (qbh : bh ≤ 9223372036854775807) (oa : al ≤ ah) (ob : al ≤ bh) (hne : ¬ ah = bh) (w : World) : Calls Tryd.prog 23 #[.int .i64 16, .agg #[.int .i64 al, .int .i64 ah], .agg #[.int .i64 al, .int .i64 bh]] w fun e w' => e = .returned (.tuple #[.agg #[.int .i64 ((cutV al ah al bh).1), .int .i64 ((cutV al ah al bh).2)], .agg #[.int .i64 ((cutV al bh al ah).1), .int .i64 ((cutV al bh al ah).2)], .bool true]) ∧ Below w.heap.size w w' := by
  go_enter Tryd.func23, Tryd.ntmps23
  go_wp2_with fail
  go_region_held3 (fun w' => w'.cell? ⟨w.heap.size, 0, none⟩ = some (.int .i64 al) ∧ w'.cell? ⟨w.heap.size, 1, none⟩ = some (.int .i64 ah) ∧ w'.cell? ⟨w.heap.size + 1, 0, none⟩ = some (.int .i64 al) ∧ w'.cell? ⟨w.heap.size + 1, 1, none⟩ = some (.int .i64 bh)) (first | (simp [go_sem]; done) | (simp [go_sem, *]; done) | go_keep) (first | (go_at_call 53; go_must (refine (rcut_is _ _ _ _ ?_ ?_ ?_ _).mono ?_; omega; omega; omega; rintro e w1 ⟨rfl, hb1⟩; have hX1 : Quad w.heap.size al ah al bh w1 := Quad.later (by first | exact hX1 | (refine ⟨?_, ?_, ?_, ?_, ?_, ?_, ?_, ?_, ?_, ?_, ?_, ?_, ?_, ?_, ?_, ?_, ?_⟩ <;> simp [go_sem])) hb1; have hbw1 : Below w.heap.size w w1 := (by ((refine Below.trans ?_ (hb1.mono ?_)) <;> repeat' first | exact Below.refl _ _ | refine Below.alloc ?_ ?_ _ | refine Below.setCell ?_ ?_ _ | refine Below.drew ?_ | refine below_drewN ?_ _ | (simp; done) | (simp; omega) | (simp [drew_size]; done) | (simp [drew_size]; omega) | omega)); have hY := hX1; obtain ⟨t0, a0, a1, af0, af1, b0, b1, bf0, bf1, r0, r1, rf0, rf1, s0, s1, sf0, sf1⟩ := hY; have sz00 : w.heap.size < w1.heap.size := (by omega); have sz01 : w.heap.size < w1.heap.size + 1 := (by omega); have sz02 : w.heap.size < w1.heap.size + 1 + 1 := (by omega); have sz03 : w.heap.size < w1.heap.size + 1 + 1 + 1 := (by omega); have sz10 : w.heap.size + 1 < w1.heap.size := (by omega); have sz11 : w.heap.size + 1 < w1.heap.size + 1 := (by omega); have sz12 : w.heap.size + 1 < w1.heap.size + 1 + 1 := (by omega); have sz13 : w.heap.size + 1 < w1.heap.size + 1 + 1 + 1 := (by omega); have sz20 : w.heap.size + 1 + 1 < w1.heap.size := (by omega); have sz21 : w.heap.size + 1 + 1 < w1.heap.size + 1 := (by omega); have sz22 : w.heap.size + 1 + 1 < w1.heap.size + 1 + 1 := (by omega); have sz23 : w.heap.size + 1 + 1 < w1.heap.size + 1 + 1 + 1 := (by omega); have sz30 : w.heap.size + 1 + 1 + 1 < w1.heap.size := (by omega); have sz31 : w.heap.size + 1 + 1 + 1 < w1.heap.size + 1 := (by omega); have sz32 : w.heap.size + 1 + 1 + 1 < w1.heap.size + 1 + 1 := (by omega); have sz33 : w.heap.size + 1 + 1 + 1 < w1.heap.size + 1 + 1 + 1 := (by omega))))
  all_goals go_wp2_with fail
  all_goals exact bodyPost_ret (v := .tuple #[.agg #[.int .i64 ((cutV al ah al bh).1), .int .i64 ((cutV al ah al bh).2)], .agg #[.int .i64 ((cutV al bh al ah).1), .int .i64 ((cutV al bh al ah).2)], .bool true]) (by simp [results, Tryd.results23, go_sem, r0, r1, s0, s1]) rfl ⟨rfl, by repeat' first | exact Below.refl _ _ | exact hbw1 | refine Below.alloc ?_ ?_ _ | refine Below.setCell ?_ ?_ _ | refine Below.drew ?_ | refine below_drewN ?_ _ | (simp; done) | (simp; omega) | (simp [drew_size]; done) | (simp [drew_size]; omega) | omega⟩
set_option maxHeartbeats 2000000 in
set_option maxRecDepth 100000 in
theorem rn_16y1 (al ah : Int) (pal : -9223372036854775808 ≤ al) (qal : al ≤ 9223372036854775807) (pah : -9223372036854775808 ≤ ah) (qah : ah ≤ 9223372036854775807) (oa : al ≤ ah) (hne : ¬ al = ah) (w : World) : Calls Tryd.prog 23 #[.int .i64 16, .agg #[.int .i64 al, .int .i64 ah], .agg #[.int .i64 al, .int .i64 ah]] w fun e w' => e = .returned (.tuple #[.agg #[.int .i64 ((cutV al ah al ah).1), .int .i64 ((cutV al ah al ah).2)], .agg #[.int .i64 ((cutV al ah al ah).1), .int .i64 ((cutV al ah al ah).2)], .bool true]) ∧ Below w.heap.size w w' := by
  go_enter Tryd.func23, Tryd.ntmps23
  go_wp2_with fail
  go_region_held3 (fun w' => w'.cell? ⟨w.heap.size, 0, none⟩ = some (.int .i64 al) ∧ w'.cell? ⟨w.heap.size, 1, none⟩ = some (.int .i64 ah) ∧ w'.cell? ⟨w.heap.size + 1, 0, none⟩ = some (.int .i64 al) ∧ w'.cell? ⟨w.heap.size + 1, 1, none⟩ = some (.int .i64 ah)) (first | (simp [go_sem]; done) | (simp [go_sem, *]; done) | go_keep) (first | (go_at_call 53; go_must (refine (rcut_is _ _ _ _ ?_ ?_ ?_ _).mono ?_; omega; omega; omega; rintro e w1 ⟨rfl, hb1⟩; have hX1 : Quad w.heap.size al ah al ah w1 := Quad.later (by first | exact hX1 | (refine ⟨?_, ?_, ?_, ?_, ?_, ?_, ?_, ?_, ?_, ?_, ?_, ?_, ?_, ?_, ?_, ?_, ?_⟩ <;> simp [go_sem])) hb1; have hbw1 : Below w.heap.size w w1 := (by ((refine Below.trans ?_ (hb1.mono ?_)) <;> repeat' first | exact Below.refl _ _ | refine Below.alloc ?_ ?_ _ | refine Below.setCell ?_ ?_ _ | refine Below.drew ?_ | refine below_drewN ?_ _ | (simp; done) | (simp; omega) | (simp [drew_size]; done) | (simp [drew_size]; omega) | omega)); have hY := hX1; obtain ⟨t0, a0, a1, af0, af1, b0, b1, bf0, bf1, r0, r1, rf0, rf1, s0, s1, sf0, sf1⟩ := hY; have sz00 : w.heap.size < w1.heap.size := (by omega); have sz01 : w.heap.size < w1.heap.size + 1 := (by omega); have sz02 : w.heap.size < w1.heap.size + 1 + 1 := (by omega); have sz03 : w.heap.size < w1.heap.size + 1 + 1 + 1 := (by omega); have sz10 : w.heap.size + 1 < w1.heap.size := (by omega); have sz11 : w.heap.size + 1 < w1.heap.size + 1 := (by omega); have sz12 : w.heap.size + 1 < w1.heap.size + 1 + 1 := (by omega); have sz13 : w.heap.size + 1 < w1.heap.size + 1 + 1 + 1 := (by omega); have sz20 : w.heap.size + 1 + 1 < w1.heap.size := (by omega); have sz21 : w.heap.size + 1 + 1 < w1.heap.size + 1 := (by omega); have sz22 : w.heap.size + 1 + 1 < w1.heap.size + 1 + 1 := (by omega); have sz23 : w.heap.size + 1 + 1 < w1.heap.size + 1 + 1 + 1 := (by omega); have sz30 : w.heap.size + 1 + 1 + 1 < w1.heap.size := (by omega); have sz31 : w.heap.size + 1 + 1 + 1 < w1.heap.size + 1 := (by omega); have sz32 : w.heap.size + 1 + 1 + 1 < w1.heap.size + 1 + 1 := (by omega); have sz33 : w.heap.size + 1 + 1 + 1 < w1.heap.size + 1 + 1 + 1 := (by omega))))
  all_goals go_wp2_with fail
  all_goals exact bodyPost_ret (v := .tuple #[.agg #[.int .i64 ((cutV al ah al ah).1), .int .i64 ((cutV al ah al ah).2)], .agg #[.int .i64 ((cutV al ah al ah).1), .int .i64 ((cutV al ah al ah).2)], .bool true]) (by simp [results, Tryd.results23, go_sem, r0, r1, s0, s1]) rfl ⟨rfl, by repeat' first | exact Below.refl _ _ | exact hbw1 | refine Below.alloc ?_ ?_ _ | refine Below.setCell ?_ ?_ _ | refine Below.drew ?_ | refine below_drewN ?_ _ | (simp; done) | (simp; omega) | (simp [drew_size]; done) | (simp [drew_size]; omega) | omega⟩
theorem rnar_16 (al ah bl bh : Int) (pal : -9223372036854775808 ≤ al) (qal : al ≤ 9223372036854775807) (pah : -9223372036854775808 ≤ ah) (qah : ah ≤ 9223372036854775807) (pbl : -9223372036854775808 ≤ bl) (qbl : bl ≤ 9223372036854775807) (pbh : -9223372036854775808 ≤ bh) (qbh : bh ≤ 9223372036854775807) (oa : al ≤ ah) (ob : bl ≤ bh) (w : World) : Calls Tryd.prog 23 #[.int .i64 16, .agg #[.int .i64 al, .int .i64 ah], .agg #[.int .i64 bl, .int .i64 bh]] w fun e w' => e = .returned (.tuple #[.agg #[.int .i64 (((narV 16 al ah bl bh).1).1), .int .i64 (((narV 16 al ah bl bh).1).2)], .agg #[.int .i64 (((narV 16 al ah bl bh).2.1).1), .int .i64 (((narV 16 al ah bl bh).2.1).2)], .bool ((narV 16 al ah bl bh).2.2)]) ∧ Below w.heap.size w w' := by
  rw [narV_16]
  unfold apV
  by_cases h0 : al = bl
  · subst h0
    by_cases h1 : ah = bh
    · subst h1
      by_cases h2 : ah = al
      · rw [if_pos ⟨rfl, rfl, h2⟩]
        subst h2
        exact rn_16n ah w
      · rw [if_neg (fun x => h2 x.2.2)]
        exact rn_16y1 al ah pal qal pah qah oa (fun h => h2 h.symm) w
    · rw [if_neg (fun x => h1 x.2.1)]
      exact rn_16y3 al ah bh pal qal pah qah pbh qbh oa ob h1 w
  · rw [if_neg (fun x => h0 x.1)]
    exact rn_16y2 al ah bl bh pal qal pah qah pbl qbl pbh qbh oa ob h0 w
end Go.Proofs.YtllphbfhfmieaaaDoor
