/-
  What bound.Meet, bound.Opposite and bound.Narrow return, as functions on integers; the world below is as it was. Conditions: the ends are numbers of 64 bits, the low end not above the high one.
-/
import Derived.Test.YtllphbfhfmieaaaDoorBoundDoes
import Derived.Deep.DeepMust
namespace Go.Proofs.YtllphbfhfmieaaaDoor
open Go.ChangeShapes Go.WideShapes Go.ChangeAt Go.RowKit
attribute [local simp] drew_size

theorem meet_yes (al ah bl bh : Int) (h : max al bl ≤ min ah bh) (w : World) : Calls Tryd.prog 19 #[.agg #[.int .i64 al, .int .i64 ah], .agg #[.int .i64 bl, .int .i64 bh]] w fun e w' => e = .returned (.tuple #[.agg #[.int .i64 (max al bl), .int .i64 (min ah bh)], .bool true]) ∧ Below w.heap.size w w' := by
  have _h : decide (min ah bh < max al bl) = false := by simp; omega
  go_enter Tryd.func19, Tryd.ntmps19
  go_wp2_with fail
  all_goals exact bodyPost_ret (v := .tuple #[.agg #[.int .i64 (max al bl), .int .i64 (min ah bh)], .bool true]) (by simp [results, Tryd.results19, go_sem]) rfl ⟨rfl, by repeat' first | exact Below.refl _ _ | refine Below.alloc ?_ ?_ _ | refine Below.setCell ?_ ?_ _ | refine Below.drew ?_ | (simp; done) | (simp; omega) | (simp [drew_size]; done) | (simp [drew_size]; omega) | omega⟩
theorem meet_no (al ah bl bh : Int) (h : min ah bh < max al bl) (w : World) : Calls Tryd.prog 19 #[.agg #[.int .i64 al, .int .i64 ah], .agg #[.int .i64 bl, .int .i64 bh]] w fun e w' => e = .returned (.tuple #[.agg #[.int .i64 0, .int .i64 0], .bool false]) ∧ Below w.heap.size w w' := by
  have _h : decide (min ah bh < max al bl) = true := by simp; omega
  go_enter Tryd.func19, Tryd.ntmps19
  go_wp2_with fail
  all_goals exact bodyPost_ret (v := .tuple #[.agg #[.int .i64 0, .int .i64 0], .bool false]) (by simp [results, Tryd.results19, go_sem]) rfl ⟨rfl, by repeat' first | exact Below.refl _ _ | refine Below.alloc ?_ ?_ _ | refine Below.setCell ?_ ?_ _ | refine Below.drew ?_ | (simp; done) | (simp; omega) | (simp [drew_size]; done) | (simp [drew_size]; omega) | omega⟩
/-- The code that asks for what another one does not. -/
def oppV (c : Int) : Int := if c = 15 then 16 else if c = 16 then 15 else if c = 17 then 20 else if c = 18 then 19 else if c = 19 then 18 else if c = 20 then 17 else if c = 21 then 24 else if c = 22 then 23 else if c = 23 then 22 else if c = 24 then 21 else 0
theorem opp_15 (w : World) : Calls Tryd.prog 21 #[.int .i64 15] w fun e w' => e = .returned (.int .i64 16) ∧ w' = w := by
  go_enter Tryd.func21, Tryd.ntmps21
  go_wp2
  go_ret
  exact ⟨rfl, rfl⟩
theorem opp_16 (w : World) : Calls Tryd.prog 21 #[.int .i64 16] w fun e w' => e = .returned (.int .i64 15) ∧ w' = w := by
  go_enter Tryd.func21, Tryd.ntmps21
  go_wp2
  go_ret
  exact ⟨rfl, rfl⟩
theorem opp_17 (w : World) : Calls Tryd.prog 21 #[.int .i64 17] w fun e w' => e = .returned (.int .i64 20) ∧ w' = w := by
  go_enter Tryd.func21, Tryd.ntmps21
  go_wp2
  go_ret
  exact ⟨rfl, rfl⟩
theorem opp_18 (w : World) : Calls Tryd.prog 21 #[.int .i64 18] w fun e w' => e = .returned (.int .i64 19) ∧ w' = w := by
  go_enter Tryd.func21, Tryd.ntmps21
  go_wp2
  go_ret
  exact ⟨rfl, rfl⟩
theorem opp_19 (w : World) : Calls Tryd.prog 21 #[.int .i64 19] w fun e w' => e = .returned (.int .i64 18) ∧ w' = w := by
  go_enter Tryd.func21, Tryd.ntmps21
  go_wp2
  go_ret
  exact ⟨rfl, rfl⟩
theorem opp_20 (w : World) : Calls Tryd.prog 21 #[.int .i64 20] w fun e w' => e = .returned (.int .i64 17) ∧ w' = w := by
  go_enter Tryd.func21, Tryd.ntmps21
  go_wp2
  go_ret
  exact ⟨rfl, rfl⟩
theorem opp_21 (w : World) : Calls Tryd.prog 21 #[.int .i64 21] w fun e w' => e = .returned (.int .i64 24) ∧ w' = w := by
  go_enter Tryd.func21, Tryd.ntmps21
  go_wp2
  go_ret
  exact ⟨rfl, rfl⟩
theorem opp_22 (w : World) : Calls Tryd.prog 21 #[.int .i64 22] w fun e w' => e = .returned (.int .i64 23) ∧ w' = w := by
  go_enter Tryd.func21, Tryd.ntmps21
  go_wp2
  go_ret
  exact ⟨rfl, rfl⟩
theorem opp_23 (w : World) : Calls Tryd.prog 21 #[.int .i64 23] w fun e w' => e = .returned (.int .i64 22) ∧ w' = w := by
  go_enter Tryd.func21, Tryd.ntmps21
  go_wp2
  go_ret
  exact ⟨rfl, rfl⟩
theorem opp_24 (w : World) : Calls Tryd.prog 21 #[.int .i64 24] w fun e w' => e = .returned (.int .i64 21) ∧ w' = w := by
  go_enter Tryd.func21, Tryd.ntmps21
  go_wp2
  go_ret
  exact ⟨rfl, rfl⟩
theorem turned_17 (w : World) : Calls Tryd.prog 56 #[.int .i64 17] w fun e w' => e = .returned (.int .i64 19) ∧ w' = w := by
  go_enter Tryd.func56, Tryd.ntmps56
  go_wp2
  go_ret
  exact ⟨rfl, rfl⟩
theorem turned_18 (w : World) : Calls Tryd.prog 56 #[.int .i64 18] w fun e w' => e = .returned (.int .i64 20) ∧ w' = w := by
  go_enter Tryd.func56, Tryd.ntmps56
  go_wp2
  go_ret
  exact ⟨rfl, rfl⟩
theorem turned_21 (w : World) : Calls Tryd.prog 56 #[.int .i64 21] w fun e w' => e = .returned (.int .i64 23) ∧ w' = w := by
  go_enter Tryd.func56, Tryd.ntmps56
  go_wp2
  go_ret
  exact ⟨rfl, rfl⟩
theorem turned_22 (w : World) : Calls Tryd.prog 56 #[.int .i64 22] w fun e w' => e = .returned (.int .i64 24) ∧ w' = w := by
  go_enter Tryd.func56, Tryd.ntmps56
  go_wp2
  go_ret
  exact ⟨rfl, rfl⟩
theorem below_19n (al ah bl bh : Int) (hb : bl < 0) (w : World) : Calls Tryd.prog 55 #[.int .i64 19, .agg #[.int .i64 al, .int .i64 ah], .agg #[.int .i64 bl, .int .i64 bh]] w fun e w' => e = .returned (.tuple #[.agg #[.int .i64 al, .int .i64 ah], .agg #[.int .i64 bl, .int .i64 bh], .bool true]) ∧ Below w.heap.size w w' := by
  go_enter Tryd.func55, Tryd.ntmps55
  go_wp2_with fail
  go_region
  all_goals go_wp2
  all_goals exact bodyPost_ret (v := .tuple #[.agg #[.int .i64 al, .int .i64 ah], .agg #[.int .i64 bl, .int .i64 bh], .bool true]) (by simp [results, Tryd.results55, go_sem]) rfl ⟨rfl, by repeat' first | exact Below.refl _ _ | refine Below.alloc ?_ ?_ _ | refine Below.setCell ?_ ?_ _ | refine Below.drew ?_ | (simp; done) | (simp; omega) | (simp [drew_size]; done) | (simp [drew_size]; omega) | omega⟩
theorem below_19e (al ah bl bh : Int) (hb : 0 ≤ bl) (h : ah < max al 0) (w : World) : Calls Tryd.prog 55 #[.int .i64 19, .agg #[.int .i64 al, .int .i64 ah], .agg #[.int .i64 bl, .int .i64 bh]] w fun e w' => e = .returned (.tuple #[.agg #[.int .i64 0, .int .i64 0], .agg #[.int .i64 0, .int .i64 0], .bool false]) ∧ Below w.heap.size w w' := by
  have _hb : decide (bl < 0) = false := by simp; omega
  have _h : decide (ah < max al 0) = true := by simp; omega
  go_enter Tryd.func55, Tryd.ntmps55
  go_wp2_with (first | (go_at_call 73; refine (is_any _ _ _ _).mono ?_; rintro e w' ⟨rfl, rfl⟩))
  all_goals exact bodyPost_ret (v := .tuple #[.agg #[.int .i64 0, .int .i64 0], .agg #[.int .i64 0, .int .i64 0], .bool false]) (by simp [results, Tryd.results55, go_sem]) rfl ⟨rfl, by repeat' first | exact Below.refl _ _ | refine Below.alloc ?_ ?_ _ | refine Below.setCell ?_ ?_ _ | refine Below.drew ?_ | (simp; done) | (simp; omega) | (simp [drew_size]; done) | (simp [drew_size]; omega) | omega⟩
theorem below_19f (al ah bl bh : Int) (hb : 0 ≤ bl) (h : max al 0 ≤ ah) (hi : isV 19 (max al 0) bh = false) (w : World) : Calls Tryd.prog 55 #[.int .i64 19, .agg #[.int .i64 al, .int .i64 ah], .agg #[.int .i64 bl, .int .i64 bh]] w fun e w' => e = .returned (.tuple #[.agg #[.int .i64 0, .int .i64 0], .agg #[.int .i64 0, .int .i64 0], .bool false]) ∧ Below w.heap.size w w' := by
  have _hb : decide (bl < 0) = false := by simp; omega
  have _h : decide (ah < max al 0) = false := by simp; omega
  go_enter Tryd.func55, Tryd.ntmps55
  go_wp2_with (first | (go_at_call 73; refine (is_any _ _ _ _).mono ?_; rintro e w' ⟨rfl, rfl⟩))
  all_goals exact bodyPost_ret (v := .tuple #[.agg #[.int .i64 0, .int .i64 0], .agg #[.int .i64 0, .int .i64 0], .bool false]) (by simp [results, Tryd.results55, go_sem]) rfl ⟨rfl, by repeat' first | exact Below.refl _ _ | refine Below.alloc ?_ ?_ _ | refine Below.setCell ?_ ?_ _ | refine Below.drew ?_ | (simp; done) | (simp; omega) | (simp [drew_size]; done) | (simp [drew_size]; omega) | omega⟩
theorem below_19t (al ah bl bh : Int) (hb : 0 ≤ bl) (h : max al 0 ≤ ah) (hi : isV 19 (max al 0) bh = true) (p1 : -9223372036854775808 ≤ max al 0) (p2 : max al 0 + 1 ≤ 9223372036854775807) (p3 : -9223372036854775808 ≤ bh - 1) (p4 : bh ≤ 9223372036854775807) (w : World) : Calls Tryd.prog 55 #[.int .i64 19, .agg #[.int .i64 al, .int .i64 ah], .agg #[.int .i64 bl, .int .i64 bh]] w fun e w' => e = .returned (.tuple #[.agg #[.int .i64 (max al 0), .int .i64 (min ah (bh - 1))], .agg #[.int .i64 (max bl (max al 0 + 1)), .int .i64 bh], .bool true]) ∧ Below w.heap.size w w' := by
  have _hb : decide (bl < 0) = false := by simp; omega
  have _h : decide (ah < max al 0) = false := by simp; omega
  go_enter Tryd.func55, Tryd.ntmps55
  go_wp2_with (first | (go_at_call 73; refine (is_any _ _ _ _).mono ?_; rintro e w' ⟨rfl, rfl⟩))
  go_region
  all_goals go_wp2
  all_goals exact bodyPost_ret (v := .tuple #[.agg #[.int .i64 (max al 0), .int .i64 (min ah (bh - 1))], .agg #[.int .i64 (max bl (max al 0 + 1)), .int .i64 bh], .bool true]) (by simp [results, Tryd.results55, go_sem]) rfl ⟨rfl, by repeat' first | exact Below.refl _ _ | refine Below.alloc ?_ ?_ _ | refine Below.setCell ?_ ?_ _ | refine Below.drew ?_ | (simp; done) | (simp; omega) | (simp [drew_size]; done) | (simp [drew_size]; omega) | omega⟩
theorem below_20n (al ah bl bh : Int) (hb : bl < 0) (w : World) : Calls Tryd.prog 55 #[.int .i64 20, .agg #[.int .i64 al, .int .i64 ah], .agg #[.int .i64 bl, .int .i64 bh]] w fun e w' => e = .returned (.tuple #[.agg #[.int .i64 al, .int .i64 ah], .agg #[.int .i64 bl, .int .i64 bh], .bool true]) ∧ Below w.heap.size w w' := by
  go_enter Tryd.func55, Tryd.ntmps55
  go_wp2_with fail
  go_region
  all_goals go_wp2
  all_goals exact bodyPost_ret (v := .tuple #[.agg #[.int .i64 al, .int .i64 ah], .agg #[.int .i64 bl, .int .i64 bh], .bool true]) (by simp [results, Tryd.results55, go_sem]) rfl ⟨rfl, by repeat' first | exact Below.refl _ _ | refine Below.alloc ?_ ?_ _ | refine Below.setCell ?_ ?_ _ | refine Below.drew ?_ | (simp; done) | (simp; omega) | (simp [drew_size]; done) | (simp [drew_size]; omega) | omega⟩
theorem below_20e (al ah bl bh : Int) (hb : 0 ≤ bl) (h : ah < max al 0) (w : World) : Calls Tryd.prog 55 #[.int .i64 20, .agg #[.int .i64 al, .int .i64 ah], .agg #[.int .i64 bl, .int .i64 bh]] w fun e w' => e = .returned (.tuple #[.agg #[.int .i64 0, .int .i64 0], .agg #[.int .i64 0, .int .i64 0], .bool false]) ∧ Below w.heap.size w w' := by
  have _hb : decide (bl < 0) = false := by simp; omega
  have _h : decide (ah < max al 0) = true := by simp; omega
  go_enter Tryd.func55, Tryd.ntmps55
  go_wp2_with (first | (go_at_call 73; refine (is_any _ _ _ _).mono ?_; rintro e w' ⟨rfl, rfl⟩))
  all_goals exact bodyPost_ret (v := .tuple #[.agg #[.int .i64 0, .int .i64 0], .agg #[.int .i64 0, .int .i64 0], .bool false]) (by simp [results, Tryd.results55, go_sem]) rfl ⟨rfl, by repeat' first | exact Below.refl _ _ | refine Below.alloc ?_ ?_ _ | refine Below.setCell ?_ ?_ _ | refine Below.drew ?_ | (simp; done) | (simp; omega) | (simp [drew_size]; done) | (simp [drew_size]; omega) | omega⟩
theorem below_20f (al ah bl bh : Int) (hb : 0 ≤ bl) (h : max al 0 ≤ ah) (hi : isV 20 (max al 0) bh = false) (w : World) : Calls Tryd.prog 55 #[.int .i64 20, .agg #[.int .i64 al, .int .i64 ah], .agg #[.int .i64 bl, .int .i64 bh]] w fun e w' => e = .returned (.tuple #[.agg #[.int .i64 0, .int .i64 0], .agg #[.int .i64 0, .int .i64 0], .bool false]) ∧ Below w.heap.size w w' := by
  have _hb : decide (bl < 0) = false := by simp; omega
  have _h : decide (ah < max al 0) = false := by simp; omega
  go_enter Tryd.func55, Tryd.ntmps55
  go_wp2_with (first | (go_at_call 73; refine (is_any _ _ _ _).mono ?_; rintro e w' ⟨rfl, rfl⟩))
  all_goals exact bodyPost_ret (v := .tuple #[.agg #[.int .i64 0, .int .i64 0], .agg #[.int .i64 0, .int .i64 0], .bool false]) (by simp [results, Tryd.results55, go_sem]) rfl ⟨rfl, by repeat' first | exact Below.refl _ _ | refine Below.alloc ?_ ?_ _ | refine Below.setCell ?_ ?_ _ | refine Below.drew ?_ | (simp; done) | (simp; omega) | (simp [drew_size]; done) | (simp [drew_size]; omega) | omega⟩
theorem below_20t (al ah bl bh : Int) (hb : 0 ≤ bl) (h : max al 0 ≤ ah) (hi : isV 20 (max al 0) bh = true) (p1 : -9223372036854775808 ≤ max al 0) (p2 : max al 0 + 0 ≤ 9223372036854775807) (p3 : -9223372036854775808 ≤ bh - 0) (p4 : bh ≤ 9223372036854775807) (w : World) : Calls Tryd.prog 55 #[.int .i64 20, .agg #[.int .i64 al, .int .i64 ah], .agg #[.int .i64 bl, .int .i64 bh]] w fun e w' => e = .returned (.tuple #[.agg #[.int .i64 (max al 0), .int .i64 (min ah (bh))], .agg #[.int .i64 (max bl (max al 0)), .int .i64 bh], .bool true]) ∧ Below w.heap.size w w' := by
  have _hb : decide (bl < 0) = false := by simp; omega
  have _h : decide (ah < max al 0) = false := by simp; omega
  go_enter Tryd.func55, Tryd.ntmps55
  go_wp2_with (first | (go_at_call 73; refine (is_any _ _ _ _).mono ?_; rintro e w' ⟨rfl, rfl⟩))
  go_region
  all_goals go_wp2
  all_goals exact bodyPost_ret (v := .tuple #[.agg #[.int .i64 (max al 0), .int .i64 (min ah (bh))], .agg #[.int .i64 (max bl (max al 0)), .int .i64 bh], .bool true]) (by simp [results, Tryd.results55, go_sem]) rfl ⟨rfl, by repeat' first | exact Below.refl _ _ | refine Below.alloc ?_ ?_ _ | refine Below.setCell ?_ ?_ _ | refine Below.drew ?_ | (simp; done) | (simp; omega) | (simp [drew_size]; done) | (simp [drew_size]; omega) | omega⟩
theorem below_23e (al ah bl bh : Int) (h : ah < al) (w : World) : Calls Tryd.prog 55 #[.int .i64 23, .agg #[.int .i64 al, .int .i64 ah], .agg #[.int .i64 bl, .int .i64 bh]] w fun e w' => e = .returned (.tuple #[.agg #[.int .i64 0, .int .i64 0], .agg #[.int .i64 0, .int .i64 0], .bool false]) ∧ Below w.heap.size w w' := by
  have _h : decide (ah < al) = true := by simp; omega
  go_enter Tryd.func55, Tryd.ntmps55
  go_wp2_with (first | (go_at_call 73; refine (is_any _ _ _ _).mono ?_; rintro e w' ⟨rfl, rfl⟩))
  all_goals exact bodyPost_ret (v := .tuple #[.agg #[.int .i64 0, .int .i64 0], .agg #[.int .i64 0, .int .i64 0], .bool false]) (by simp [results, Tryd.results55, go_sem]) rfl ⟨rfl, by repeat' first | exact Below.refl _ _ | refine Below.alloc ?_ ?_ _ | refine Below.setCell ?_ ?_ _ | refine Below.drew ?_ | (simp; done) | (simp; omega) | (simp [drew_size]; done) | (simp [drew_size]; omega) | omega⟩
theorem below_23f (al ah bl bh : Int) (h : al ≤ ah) (hi : isV 23 (al) bh = false) (w : World) : Calls Tryd.prog 55 #[.int .i64 23, .agg #[.int .i64 al, .int .i64 ah], .agg #[.int .i64 bl, .int .i64 bh]] w fun e w' => e = .returned (.tuple #[.agg #[.int .i64 0, .int .i64 0], .agg #[.int .i64 0, .int .i64 0], .bool false]) ∧ Below w.heap.size w w' := by
  have _h : decide (ah < al) = false := by simp; omega
  go_enter Tryd.func55, Tryd.ntmps55
  go_wp2_with (first | (go_at_call 73; refine (is_any _ _ _ _).mono ?_; rintro e w' ⟨rfl, rfl⟩))
  all_goals exact bodyPost_ret (v := .tuple #[.agg #[.int .i64 0, .int .i64 0], .agg #[.int .i64 0, .int .i64 0], .bool false]) (by simp [results, Tryd.results55, go_sem]) rfl ⟨rfl, by repeat' first | exact Below.refl _ _ | refine Below.alloc ?_ ?_ _ | refine Below.setCell ?_ ?_ _ | refine Below.drew ?_ | (simp; done) | (simp; omega) | (simp [drew_size]; done) | (simp [drew_size]; omega) | omega⟩
theorem below_23t (al ah bl bh : Int) (h : al ≤ ah) (hi : isV 23 (al) bh = true) (p1 : -9223372036854775808 ≤ al) (p2 : al + 1 ≤ 9223372036854775807) (p3 : -9223372036854775808 ≤ bh - 1) (p4 : bh ≤ 9223372036854775807) (w : World) : Calls Tryd.prog 55 #[.int .i64 23, .agg #[.int .i64 al, .int .i64 ah], .agg #[.int .i64 bl, .int .i64 bh]] w fun e w' => e = .returned (.tuple #[.agg #[.int .i64 al, .int .i64 (min ah (bh - 1))], .agg #[.int .i64 (max bl (al + 1)), .int .i64 bh], .bool true]) ∧ Below w.heap.size w w' := by
  have _h : decide (ah < al) = false := by simp; omega
  go_enter Tryd.func55, Tryd.ntmps55
  go_wp2_with (first | (go_at_call 73; refine (is_any _ _ _ _).mono ?_; rintro e w' ⟨rfl, rfl⟩))
  go_region
  all_goals go_wp2
  all_goals exact bodyPost_ret (v := .tuple #[.agg #[.int .i64 al, .int .i64 (min ah (bh - 1))], .agg #[.int .i64 (max bl (al + 1)), .int .i64 bh], .bool true]) (by simp [results, Tryd.results55, go_sem]) rfl ⟨rfl, by repeat' first | exact Below.refl _ _ | refine Below.alloc ?_ ?_ _ | refine Below.setCell ?_ ?_ _ | refine Below.drew ?_ | (simp; done) | (simp; omega) | (simp [drew_size]; done) | (simp [drew_size]; omega) | omega⟩
theorem below_24e (al ah bl bh : Int) (h : ah < al) (w : World) : Calls Tryd.prog 55 #[.int .i64 24, .agg #[.int .i64 al, .int .i64 ah], .agg #[.int .i64 bl, .int .i64 bh]] w fun e w' => e = .returned (.tuple #[.agg #[.int .i64 0, .int .i64 0], .agg #[.int .i64 0, .int .i64 0], .bool false]) ∧ Below w.heap.size w w' := by
  have _h : decide (ah < al) = true := by simp; omega
  go_enter Tryd.func55, Tryd.ntmps55
  go_wp2_with (first | (go_at_call 73; refine (is_any _ _ _ _).mono ?_; rintro e w' ⟨rfl, rfl⟩))
  all_goals exact bodyPost_ret (v := .tuple #[.agg #[.int .i64 0, .int .i64 0], .agg #[.int .i64 0, .int .i64 0], .bool false]) (by simp [results, Tryd.results55, go_sem]) rfl ⟨rfl, by repeat' first | exact Below.refl _ _ | refine Below.alloc ?_ ?_ _ | refine Below.setCell ?_ ?_ _ | refine Below.drew ?_ | (simp; done) | (simp; omega) | (simp [drew_size]; done) | (simp [drew_size]; omega) | omega⟩
theorem below_24f (al ah bl bh : Int) (h : al ≤ ah) (hi : isV 24 (al) bh = false) (w : World) : Calls Tryd.prog 55 #[.int .i64 24, .agg #[.int .i64 al, .int .i64 ah], .agg #[.int .i64 bl, .int .i64 bh]] w fun e w' => e = .returned (.tuple #[.agg #[.int .i64 0, .int .i64 0], .agg #[.int .i64 0, .int .i64 0], .bool false]) ∧ Below w.heap.size w w' := by
  have _h : decide (ah < al) = false := by simp; omega
  go_enter Tryd.func55, Tryd.ntmps55
  go_wp2_with (first | (go_at_call 73; refine (is_any _ _ _ _).mono ?_; rintro e w' ⟨rfl, rfl⟩))
  all_goals exact bodyPost_ret (v := .tuple #[.agg #[.int .i64 0, .int .i64 0], .agg #[.int .i64 0, .int .i64 0], .bool false]) (by simp [results, Tryd.results55, go_sem]) rfl ⟨rfl, by repeat' first | exact Below.refl _ _ | refine Below.alloc ?_ ?_ _ | refine Below.setCell ?_ ?_ _ | refine Below.drew ?_ | (simp; done) | (simp; omega) | (simp [drew_size]; done) | (simp [drew_size]; omega) | omega⟩
theorem below_24t (al ah bl bh : Int) (h : al ≤ ah) (hi : isV 24 (al) bh = true) (p1 : -9223372036854775808 ≤ al) (p2 : al + 0 ≤ 9223372036854775807) (p3 : -9223372036854775808 ≤ bh - 0) (p4 : bh ≤ 9223372036854775807) (w : World) : Calls Tryd.prog 55 #[.int .i64 24, .agg #[.int .i64 al, .int .i64 ah], .agg #[.int .i64 bl, .int .i64 bh]] w fun e w' => e = .returned (.tuple #[.agg #[.int .i64 al, .int .i64 (min ah (bh))], .agg #[.int .i64 (max bl (al)), .int .i64 bh], .bool true]) ∧ Below w.heap.size w w' := by
  have _h : decide (ah < al) = false := by simp; omega
  go_enter Tryd.func55, Tryd.ntmps55
  go_wp2_with (first | (go_at_call 73; refine (is_any _ _ _ _).mono ?_; rintro e w' ⟨rfl, rfl⟩))
  go_region
  all_goals go_wp2
  all_goals exact bodyPost_ret (v := .tuple #[.agg #[.int .i64 al, .int .i64 (min ah (bh))], .agg #[.int .i64 (max bl (al)), .int .i64 bh], .bool true]) (by simp [results, Tryd.results55, go_sem]) rfl ⟨rfl, by repeat' first | exact Below.refl _ _ | refine Below.alloc ?_ ?_ _ | refine Below.setCell ?_ ?_ _ | refine Below.drew ?_ | (simp; done) | (simp; omega) | (simp [drew_size]; done) | (simp [drew_size]; omega) | omega⟩
/-- A bound is this number alone. -/
def eqB (l h e : Int) : Bool := decide (l = e) && decide (h = e)
theorem eqB_iff (l h e : Int) : eqB l h e = true ↔ l = e ∧ h = e := by simp [eqB]
theorem eqB_no (l h e : Int) : eqB l h e = false ↔ ¬ (l = e ∧ h = e) := by rw [← Bool.not_eq_true, eqB_iff]
theorem cut_yes (e l h : Int) (bk : Nat) (p : l = e) (q : h = e) (w : World) (hbk : bk < w.heap.size) (c0 : w.cell? ⟨bk, 0, none⟩ = some (.int .i64 l)) (c1 : w.cell? ⟨bk, 1, none⟩ = some (.int .i64 h)) : Calls Tryd.prog 85 #[.int .i64 e, .pointer (some ⟨bk, 0, none⟩)] w fun r w' => r = .returned (.bool true) ∧ Below w.heap.size w w' := by
  obtain rfl : e = l := p.symm
  obtain rfl : e = h := q.symm
  go_enter Tryd.func85, Tryd.ntmps85
  go_wp2_with (first | (go_at_call 17; refine (one_at _ _).mono ?_; rintro e w' ⟨rfl, rfl⟩))
  go_region_held3 (fun w' => w'.cell? ⟨bk, 0, none⟩ = some (.int .i64 e) ∧ w'.cell? ⟨bk, 1, none⟩ = some (.int .i64 e)) (first | (simp [go_sem]; done) | (simp [go_sem, *]; done) | go_keep) (first | (go_at_call 17; refine (one_at _ _).mono ?_; rintro e w' ⟨rfl, rfl⟩))
  all_goals go_wp2
  all_goals go_ret
  all_goals exact ⟨rfl, by repeat' first | exact Below.refl _ _ | refine Below.alloc ?_ ?_ _ | refine Below.setCell ?_ ?_ _ | refine Below.drew ?_ | (simp; done) | (simp; omega) | (simp [drew_size]; done) | (simp [drew_size]; omega) | omega⟩
theorem cut_no0 (e l h : Int) (bk : Nat) (p : ¬ l = e) (w : World) (hbk : bk < w.heap.size) (c0 : w.cell? ⟨bk, 0, none⟩ = some (.int .i64 l)) (c1 : w.cell? ⟨bk, 1, none⟩ = some (.int .i64 h)) : Calls Tryd.prog 85 #[.int .i64 e, .pointer (some ⟨bk, 0, none⟩)] w fun r w' => r = .returned (.bool false) ∧ Below w.heap.size w w' := by
  go_enter Tryd.func85, Tryd.ntmps85
  go_wp2_with (first | (go_at_call 17; refine (one_at _ _).mono ?_; rintro e w' ⟨rfl, rfl⟩))
  go_region_held3 (fun w' => w'.cell? ⟨bk, 0, none⟩ = some (.int .i64 l) ∧ w'.cell? ⟨bk, 1, none⟩ = some (.int .i64 h)) (first | (simp [go_sem]; done) | (simp [go_sem, *]; done) | go_keep) (first | (go_at_call 17; refine (one_at _ _).mono ?_; rintro e w' ⟨rfl, rfl⟩))
  all_goals go_wp2
  all_goals go_ret
  all_goals exact ⟨rfl, by repeat' first | exact Below.refl _ _ | refine Below.alloc ?_ ?_ _ | refine Below.setCell ?_ ?_ _ | refine Below.drew ?_ | (simp; done) | (simp; omega) | (simp [drew_size]; done) | (simp [drew_size]; omega) | omega⟩
theorem cut_no1 (e l h : Int) (bk : Nat) (p : l = e) (q : ¬ h = e) (w : World) (hbk : bk < w.heap.size) (c0 : w.cell? ⟨bk, 0, none⟩ = some (.int .i64 l)) (c1 : w.cell? ⟨bk, 1, none⟩ = some (.int .i64 h)) : Calls Tryd.prog 85 #[.int .i64 e, .pointer (some ⟨bk, 0, none⟩)] w fun r w' => r = .returned (.bool false) ∧ Below w.heap.size w w' := by
  obtain rfl : e = l := p.symm
  go_enter Tryd.func85, Tryd.ntmps85
  go_wp2_with (first | (go_at_call 17; refine (one_at _ _).mono ?_; rintro e w' ⟨rfl, rfl⟩))
  go_region_held3 (fun w' => w'.cell? ⟨bk, 0, none⟩ = some (.int .i64 e) ∧ w'.cell? ⟨bk, 1, none⟩ = some (.int .i64 h)) (first | (simp [go_sem]; done) | (simp [go_sem, *]; done) | go_keep) (first | (go_at_call 17; refine (one_at _ _).mono ?_; rintro e w' ⟨rfl, rfl⟩))
  all_goals go_wp2
  all_goals go_ret
  all_goals exact ⟨rfl, by repeat' first | exact Below.refl _ _ | refine Below.alloc ?_ ?_ _ | refine Below.setCell ?_ ?_ _ | refine Below.drew ?_ | (simp; done) | (simp; omega) | (simp [drew_size]; done) | (simp [drew_size]; omega) | omega⟩
theorem cut_is (e l h : Int) (bk : Nat) (w : World) (hbk : bk < w.heap.size) (c0 : w.cell? ⟨bk, 0, none⟩ = some (.int .i64 l)) (c1 : w.cell? ⟨bk, 1, none⟩ = some (.int .i64 h)) : Calls Tryd.prog 85 #[.int .i64 e, .pointer (some ⟨bk, 0, none⟩)] w fun r w' => r = .returned (.bool (eqB l h e)) ∧ Below w.heap.size w w' := by
  by_cases p : l = e
  · by_cases q : h = e
    · have hb : eqB l h e = true := (eqB_iff _ _ _).2 ⟨p, q⟩
      rw [hb]
      exact cut_yes e l h bk p q w hbk c0 c1
    · have hb : eqB l h e = false := (eqB_no _ _ _).2 (fun x => q x.2)
      rw [hb]
      exact cut_no1 e l h bk p q w hbk c0 c1
  · have hb : eqB l h e = false := (eqB_no _ _ _).2 (fun x => p x.1)
    rw [hb]
    exact cut_no0 e l h bk p w hbk c0 c1
/-- Three boxes of a bound each, one behind the other, in a world: two with these ends, one with noughts. -/
def Trio (n : Nat) (al ah bl bh : Int) (w : World) : Prop :=
  n + 1 + 1 < w.heap.size ∧ w.cell? ⟨n, 0, none⟩ = some (.int .i64 al) ∧ w.cell? ⟨n, 1, none⟩ = some (.int .i64 ah) ∧ w.frozen? ⟨n, 0, none⟩ = false ∧ w.frozen? ⟨n, 1, none⟩ = false
  ∧ w.cell? ⟨n + 1, 0, none⟩ = some (.int .i64 bl) ∧ w.cell? ⟨n + 1, 1, none⟩ = some (.int .i64 bh) ∧ w.frozen? ⟨n + 1, 0, none⟩ = false ∧ w.frozen? ⟨n + 1, 1, none⟩ = false
  ∧ w.cell? ⟨n + 1 + 1, 0, none⟩ = some (.int .i64 0) ∧ w.cell? ⟨n + 1 + 1, 1, none⟩ = some (.int .i64 0) ∧ w.frozen? ⟨n + 1 + 1, 0, none⟩ = false ∧ w.frozen? ⟨n + 1 + 1, 1, none⟩ = false
theorem Trio.later {n : Nat} {al ah bl bh : Int} {W w1 : World} (h : Trio n al ah bl bh W) (hb : Below W.heap.size W w1) : Trio n al ah bl bh w1 := by
  obtain ⟨t0, a0, a1, af0, af1, b0, b1, bf0, bf1, r0, r1, rf0, rf1⟩ := h
  have hs := hb.size
  have l0 : n < W.heap.size := by omega
  have l1 : n + 1 < W.heap.size := by omega
  exact ⟨by omega, (hb.cell (p := ⟨n, 0, none⟩) l0).trans a0, (hb.cell (p := ⟨n, 1, none⟩) l0).trans a1, (hb.frozen (p := ⟨n, 0, none⟩) l0).trans af0, (hb.frozen (p := ⟨n, 1, none⟩) l0).trans af1,
    (hb.cell (p := ⟨n + 1, 0, none⟩) l1).trans b0, (hb.cell (p := ⟨n + 1, 1, none⟩) l1).trans b1, (hb.frozen (p := ⟨n + 1, 0, none⟩) l1).trans bf0, (hb.frozen (p := ⟨n + 1, 1, none⟩) l1).trans bf1,
    (hb.cell (p := ⟨n + 1 + 1, 0, none⟩) t0).trans r0, (hb.cell (p := ⟨n + 1 + 1, 1, none⟩) t0).trans r1, (hb.frozen (p := ⟨n + 1 + 1, 0, none⟩) t0).trans rf0, (hb.frozen (p := ⟨n + 1 + 1, 1, none⟩) t0).trans rf1⟩

theorem wo_one (al bl bh : Int) (w : World) : Calls Tryd.prog 72 #[.agg #[.int .i64 al, .int .i64 al], .agg #[.int .i64 bl, .int .i64 bh]] w fun e w' => e = .returned (.agg #[.int .i64 al, .int .i64 al]) ∧ Below w.heap.size w w' := by
  go_enter Tryd.func72, Tryd.ntmps72
  go_wp2_with fail
  go_region_held3 (fun w' => w'.cell? ⟨w.heap.size, 0, none⟩ = some (.int .i64 al) ∧ w'.cell? ⟨w.heap.size, 1, none⟩ = some (.int .i64 al)) (first | (simp [go_sem]; done) | (simp [go_sem, *]; done) | go_keep) (first | (go_at_call 17; refine (one_at _ _).mono ?_; rintro e w' ⟨rfl, rfl⟩) | (go_at_call 85; go_must (refine (cut_is _ bl bh _ _ ?_ ?_ ?_).mono ?_; (focus first | (simp; done) | (simp; omega) | omega); (focus first | (simp [go_sem]; done) | (simp [go_sem, *]; done)); (focus first | (simp [go_sem]; done) | (simp [go_sem, *]; done)); rintro e w1 ⟨rfl, hb1⟩; have hX1 : Trio w.heap.size al ah bl bh w1 := Trio.later (by first | exact hX1 | (refine ⟨?_, ?_, ?_, ?_, ?_, ?_, ?_, ?_, ?_, ?_, ?_, ?_, ?_⟩ <;> simp [go_sem])) hb1; have hbw1 : Below w.heap.size w w1 := (by ((refine Below.trans ?_ (hb1.mono ?_)) <;> repeat' first | exact Below.refl _ _ | exact hbw1 | refine Below.alloc ?_ ?_ _ | refine Below.setCell ?_ ?_ _ | refine Below.drew ?_ | (simp; done) | (simp; omega) | (simp [drew_size]; done) | (simp [drew_size]; omega) | omega)); have hY := hX1; obtain ⟨t0, a0, a1, af0, af1, b0, b1, bf0, bf1, r0, r1, rf0, rf1⟩ := hY)))
  all_goals go_wp2_with (first | (go_at_call 17; refine (one_at _ _).mono ?_; rintro e w' ⟨rfl, rfl⟩) | (go_at_call 85; go_must (refine (cut_is _ bl bh _ _ ?_ ?_ ?_).mono ?_; (focus first | (simp; done) | (simp; omega) | omega); (focus first | (simp [go_sem]; done) | (simp [go_sem, *]; done)); (focus first | (simp [go_sem]; done) | (simp [go_sem, *]; done)); rintro e w1 ⟨rfl, hb1⟩; have hX1 : Trio w.heap.size al ah bl bh w1 := Trio.later (by first | exact hX1 | (refine ⟨?_, ?_, ?_, ?_, ?_, ?_, ?_, ?_, ?_, ?_, ?_, ?_, ?_⟩ <;> simp [go_sem])) hb1; have hbw1 : Below w.heap.size w w1 := (by ((refine Below.trans ?_ (hb1.mono ?_)) <;> repeat' first | exact Below.refl _ _ | exact hbw1 | refine Below.alloc ?_ ?_ _ | refine Below.setCell ?_ ?_ _ | refine Below.drew ?_ | (simp; done) | (simp; omega) | (simp [drew_size]; done) | (simp [drew_size]; omega) | omega)); have hY := hX1; obtain ⟨t0, a0, a1, af0, af1, b0, b1, bf0, bf1, r0, r1, rf0, rf1⟩ := hY)))
  all_goals exact bodyPost_ret (v := .agg #[.int .i64 al, .int .i64 al]) (by simp [results, Tryd.results72, go_sem]) rfl ⟨rfl, by repeat' first | exact Below.refl _ _ | refine Below.alloc ?_ ?_ _ | refine Below.setCell ?_ ?_ _ | refine Below.drew ?_ | (simp; done) | (simp; omega) | (simp [drew_size]; done) | (simp [drew_size]; omega) | omega⟩
theorem wo_low (al ah bl bh : Int) (hne : ¬ ah = al) (hlt : al < ah) (p1 : -9223372036854775808 ≤ al) (p2 : ah ≤ 9223372036854775807) (hp : eqB bl bh al = true) (w : World) : Calls Tryd.prog 72 #[.agg #[.int .i64 al, .int .i64 ah], .agg #[.int .i64 bl, .int .i64 bh]] w fun e w' => e = .returned (.agg #[.int .i64 (al + 1), .int .i64 ah]) ∧ Below w.heap.size w w' := by
  go_enter Tryd.func72, Tryd.ntmps72
  go_wp2_with fail
  go_region_held3 (fun w' => w'.cell? ⟨w.heap.size, 0, none⟩ = some (.int .i64 al) ∧ w'.cell? ⟨w.heap.size, 1, none⟩ = some (.int .i64 ah)) (first | (simp [go_sem]; done) | (simp [go_sem, *]; done) | go_keep) (first | (go_at_call 17; refine (one_at _ _).mono ?_; rintro e w' ⟨rfl, rfl⟩) | (go_at_call 85; go_must (refine (cut_is _ bl bh _ _ ?_ ?_ ?_).mono ?_; (focus first | (simp; done) | (simp; omega) | omega); (focus first | (simp [go_sem]; done) | (simp [go_sem, *]; done)); (focus first | (simp [go_sem]; done) | (simp [go_sem, *]; done)); rintro e w1 ⟨rfl, hb1⟩; have hX1 : Trio w.heap.size al ah bl bh w1 := Trio.later (by first | exact hX1 | (refine ⟨?_, ?_, ?_, ?_, ?_, ?_, ?_, ?_, ?_, ?_, ?_, ?_, ?_⟩ <;> simp [go_sem])) hb1; have hbw1 : Below w.heap.size w w1 := (by ((refine Below.trans ?_ (hb1.mono ?_)) <;> repeat' first | exact Below.refl _ _ | exact hbw1 | refine Below.alloc ?_ ?_ _ | refine Below.setCell ?_ ?_ _ | refine Below.drew ?_ | (simp; done) | (simp; omega) | (simp [drew_size]; done) | (simp [drew_size]; omega) | omega)); have hY := hX1; obtain ⟨t0, a0, a1, af0, af1, b0, b1, bf0, bf1, r0, r1, rf0, rf1⟩ := hY)))
  all_goals go_wp2_with (first | (go_at_call 17; refine (one_at _ _).mono ?_; rintro e w' ⟨rfl, rfl⟩) | (go_at_call 85; go_must (refine (cut_is _ bl bh _ _ ?_ ?_ ?_).mono ?_; (focus first | (simp; done) | (simp; omega) | omega); (focus first | (simp [go_sem]; done) | (simp [go_sem, *]; done)); (focus first | (simp [go_sem]; done) | (simp [go_sem, *]; done)); rintro e w1 ⟨rfl, hb1⟩; have hX1 : Trio w.heap.size al ah bl bh w1 := Trio.later (by first | exact hX1 | (refine ⟨?_, ?_, ?_, ?_, ?_, ?_, ?_, ?_, ?_, ?_, ?_, ?_, ?_⟩ <;> simp [go_sem])) hb1; have hbw1 : Below w.heap.size w w1 := (by ((refine Below.trans ?_ (hb1.mono ?_)) <;> repeat' first | exact Below.refl _ _ | exact hbw1 | refine Below.alloc ?_ ?_ _ | refine Below.setCell ?_ ?_ _ | refine Below.drew ?_ | (simp; done) | (simp; omega) | (simp [drew_size]; done) | (simp [drew_size]; omega) | omega)); have hY := hX1; obtain ⟨t0, a0, a1, af0, af1, b0, b1, bf0, bf1, r0, r1, rf0, rf1⟩ := hY)))
  all_goals exact bodyPost_ret (v := .agg #[.int .i64 (al + 1), .int .i64 ah]) (by simp [results, Tryd.results72, go_sem, r0, r1]) rfl ⟨rfl, by repeat' first | exact Below.refl _ _ | exact hbw1 | refine Below.alloc ?_ ?_ _ | refine Below.setCell ?_ ?_ _ | refine Below.drew ?_ | (simp; done) | (simp; omega) | (simp [drew_size]; done) | (simp [drew_size]; omega) | omega⟩
theorem wo_high (al ah bl bh : Int) (hne : ¬ ah = al) (hlt : al < ah) (p1 : -9223372036854775808 ≤ al) (p2 : ah ≤ 9223372036854775807) (hp : eqB bl bh al = false) (hq : eqB bl bh ah = true) (w : World) : Calls Tryd.prog 72 #[.agg #[.int .i64 al, .int .i64 ah], .agg #[.int .i64 bl, .int .i64 bh]] w fun e w' => e = .returned (.agg #[.int .i64 al, .int .i64 (ah - 1)]) ∧ Below w.heap.size w w' := by
  go_enter Tryd.func72, Tryd.ntmps72
  go_wp2_with fail
  go_region_held3 (fun w' => w'.cell? ⟨w.heap.size, 0, none⟩ = some (.int .i64 al) ∧ w'.cell? ⟨w.heap.size, 1, none⟩ = some (.int .i64 ah)) (first | (simp [go_sem]; done) | (simp [go_sem, *]; done) | go_keep) (first | (go_at_call 17; refine (one_at _ _).mono ?_; rintro e w' ⟨rfl, rfl⟩) | (go_at_call 85; go_must (refine (cut_is _ bl bh _ _ ?_ ?_ ?_).mono ?_; (focus first | (simp; done) | (simp; omega) | omega); (focus first | (simp [go_sem]; done) | (simp [go_sem, *]; done)); (focus first | (simp [go_sem]; done) | (simp [go_sem, *]; done)); rintro e w1 ⟨rfl, hb1⟩; have hX1 : Trio w.heap.size al ah bl bh w1 := Trio.later (by first | exact hX1 | (refine ⟨?_, ?_, ?_, ?_, ?_, ?_, ?_, ?_, ?_, ?_, ?_, ?_, ?_⟩ <;> simp [go_sem])) hb1; have hbw1 : Below w.heap.size w w1 := (by ((refine Below.trans ?_ (hb1.mono ?_)) <;> repeat' first | exact Below.refl _ _ | exact hbw1 | refine Below.alloc ?_ ?_ _ | refine Below.setCell ?_ ?_ _ | refine Below.drew ?_ | (simp; done) | (simp; omega) | (simp [drew_size]; done) | (simp [drew_size]; omega) | omega)); have hY := hX1; obtain ⟨t0, a0, a1, af0, af1, b0, b1, bf0, bf1, r0, r1, rf0, rf1⟩ := hY)))
  all_goals go_wp2_with (first | (go_at_call 17; refine (one_at _ _).mono ?_; rintro e w' ⟨rfl, rfl⟩) | (go_at_call 85; go_must (refine (cut_is _ bl bh _ _ ?_ ?_ ?_).mono ?_; (focus first | (simp; done) | (simp; omega) | omega); (focus first | (simp [go_sem]; done) | (simp [go_sem, *]; done)); (focus first | (simp [go_sem]; done) | (simp [go_sem, *]; done)); rintro e w1 ⟨rfl, hb1⟩; have hX1 : Trio w.heap.size al ah bl bh w1 := Trio.later (by first | exact hX1 | (refine ⟨?_, ?_, ?_, ?_, ?_, ?_, ?_, ?_, ?_, ?_, ?_, ?_, ?_⟩ <;> simp [go_sem])) hb1; have hbw1 : Below w.heap.size w w1 := (by ((refine Below.trans ?_ (hb1.mono ?_)) <;> repeat' first | exact Below.refl _ _ | exact hbw1 | refine Below.alloc ?_ ?_ _ | refine Below.setCell ?_ ?_ _ | refine Below.drew ?_ | (simp; done) | (simp; omega) | (simp [drew_size]; done) | (simp [drew_size]; omega) | omega)); have hY := hX1; obtain ⟨t0, a0, a1, af0, af1, b0, b1, bf0, bf1, r0, r1, rf0, rf1⟩ := hY)))
  all_goals exact bodyPost_ret (v := .agg #[.int .i64 al, .int .i64 (ah - 1)]) (by simp [results, Tryd.results72, go_sem, r0, r1]) rfl ⟨rfl, by repeat' first | exact Below.refl _ _ | exact hbw1 | refine Below.alloc ?_ ?_ _ | refine Below.setCell ?_ ?_ _ | refine Below.drew ?_ | (simp; done) | (simp; omega) | (simp [drew_size]; done) | (simp [drew_size]; omega) | omega⟩
theorem wo_none (al ah bl bh : Int) (hne : ¬ ah = al) (hp : eqB bl bh al = false) (hq : eqB bl bh ah = false) (w : World) : Calls Tryd.prog 72 #[.agg #[.int .i64 al, .int .i64 ah], .agg #[.int .i64 bl, .int .i64 bh]] w fun e w' => e = .returned (.agg #[.int .i64 al, .int .i64 ah]) ∧ Below w.heap.size w w' := by
  go_enter Tryd.func72, Tryd.ntmps72
  go_wp2_with fail
  go_region_held3 (fun w' => w'.cell? ⟨w.heap.size, 0, none⟩ = some (.int .i64 al) ∧ w'.cell? ⟨w.heap.size, 1, none⟩ = some (.int .i64 ah)) (first | (simp [go_sem]; done) | (simp [go_sem, *]; done) | go_keep) (first | (go_at_call 17; refine (one_at _ _).mono ?_; rintro e w' ⟨rfl, rfl⟩) | (go_at_call 85; go_must (refine (cut_is _ bl bh _ _ ?_ ?_ ?_).mono ?_; (focus first | (simp; done) | (simp; omega) | omega); (focus first | (simp [go_sem]; done) | (simp [go_sem, *]; done)); (focus first | (simp [go_sem]; done) | (simp [go_sem, *]; done)); rintro e w1 ⟨rfl, hb1⟩; have hX1 : Trio w.heap.size al ah bl bh w1 := Trio.later (by first | exact hX1 | (refine ⟨?_, ?_, ?_, ?_, ?_, ?_, ?_, ?_, ?_, ?_, ?_, ?_, ?_⟩ <;> simp [go_sem])) hb1; have hbw1 : Below w.heap.size w w1 := (by ((refine Below.trans ?_ (hb1.mono ?_)) <;> repeat' first | exact Below.refl _ _ | exact hbw1 | refine Below.alloc ?_ ?_ _ | refine Below.setCell ?_ ?_ _ | refine Below.drew ?_ | (simp; done) | (simp; omega) | (simp [drew_size]; done) | (simp [drew_size]; omega) | omega)); have hY := hX1; obtain ⟨t0, a0, a1, af0, af1, b0, b1, bf0, bf1, r0, r1, rf0, rf1⟩ := hY)))
  all_goals go_wp2_with (first | (go_at_call 17; refine (one_at _ _).mono ?_; rintro e w' ⟨rfl, rfl⟩) | (go_at_call 85; go_must (refine (cut_is _ bl bh _ _ ?_ ?_ ?_).mono ?_; (focus first | (simp; done) | (simp; omega) | omega); (focus first | (simp [go_sem]; done) | (simp [go_sem, *]; done)); (focus first | (simp [go_sem]; done) | (simp [go_sem, *]; done)); rintro e w1 ⟨rfl, hb1⟩; have hX1 : Trio w.heap.size al ah bl bh w1 := Trio.later (by first | exact hX1 | (refine ⟨?_, ?_, ?_, ?_, ?_, ?_, ?_, ?_, ?_, ?_, ?_, ?_, ?_⟩ <;> simp [go_sem])) hb1; have hbw1 : Below w.heap.size w w1 := (by ((refine Below.trans ?_ (hb1.mono ?_)) <;> repeat' first | exact Below.refl _ _ | exact hbw1 | refine Below.alloc ?_ ?_ _ | refine Below.setCell ?_ ?_ _ | refine Below.drew ?_ | (simp; done) | (simp; omega) | (simp [drew_size]; done) | (simp [drew_size]; omega) | omega)); have hY := hX1; obtain ⟨t0, a0, a1, af0, af1, b0, b1, bf0, bf1, r0, r1, rf0, rf1⟩ := hY)))
  all_goals exact bodyPost_ret (v := .agg #[.int .i64 al, .int .i64 ah]) (by simp [results, Tryd.results72, go_sem, r0, r1]) rfl ⟨rfl, by repeat' first | exact Below.refl _ _ | exact hbw1 | refine Below.alloc ?_ ?_ _ | refine Below.setCell ?_ ?_ _ | refine Below.drew ?_ | (simp; done) | (simp; omega) | (simp [drew_size]; done) | (simp [drew_size]; omega) | omega⟩
end Go.Proofs.YtllphbfhfmieaaaDoor
