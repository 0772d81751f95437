/-
  What bound.Meet, bound.Opposite and bound.Narrow return, as functions on integers; the world below is as it was. Conditions: the ends are numbers of 64 bits, the low end not above the high one. What bound.apart and bound.Narrow return, as functions on integers; the world below is as it was. Conditions: the ends are numbers of 64 bits, the low end not above the high one. What bound.Narrow, bound.Meet and bound.Opposite return, by one function on integers each; the world below is as it was. Conditions: the ends are numbers of 64 bits, the low end not above the high one. Plain facts on what is left of two bounds: numbers of which what is asked is so are in it, and it is no more than there was; no program is named here. Conditions: the numbers are of 64 bits, and between the ends. A way of a verifier, on plain numbers: which ways lead on from a step that asks: a machine of which what is known is so goes one of them. No program is named here. Conditions: the ends are of 64 bits; the step is right.
-/
import Derived.Test.YtednmkhdehlojaaGreatDoorJs7
import Derived.Deep.DeepMust
import Derived.Outline
import Derived.BigQuiet
import Derived.Test.YtednmkhdehlojaaGreatDoorJs2
import Derived.Test.YtednmkhdehlojaaGreatDoorJs9
open Go.Value renaming int → vI
open Go.IntKind renaming i64 → vK
open Go.RowKit.Below renaming alloc → bA, setCell → bS, drew → bD, refl → bF
set_option maxHeartbeats 4000000
set_option maxRecDepth 1000000
namespace Go.Proofs.YtednmkhdehlojaaGreatDoor
open Go.ChangeShapes Go.WideShapes Go.ChangeAt Go.RowKit
attribute [local simp] drew_size

theorem meet_yes (al ah bl bh : Int) (h : max al bl ≤ min ah bh) (w : World) : Calls Tryz.prog 214 #[.agg #[vI vK al, vI vK ah], .agg #[vI vK bl, vI vK bh]] w fun e w' => e = .returned (.tuple #[.agg #[vI vK (max al bl), vI vK (min ah bh)], .bool true]) ∧ Below w.heap.size w w' := by
  have _h : decide (min ah bh < max al bl) = false := by simp; omega
  go_enter Tryz.func214, Tryz.ntmps214
  go_wp2_with fail
  all_goals exact bodyPost_ret (v := .tuple #[.agg #[vI vK (max al bl), vI vK (min ah bh)], .bool true]) (by simp [results, Tryz.results214, go_sem]) rfl ⟨rfl, by repeat' first | exact bF _ _ | refine bA ?_ ?_ _ | refine bS ?_ ?_ _ | refine bD ?_ | (simp; done) | (simp; omega) | (simp [drew_size]; done) | (simp [drew_size]; omega) | omega⟩
theorem meet_no (al ah bl bh : Int) (h : min ah bh < max al bl) (w : World) : Calls Tryz.prog 214 #[.agg #[vI vK al, vI vK ah], .agg #[vI vK bl, vI vK bh]] w fun e w' => e = .returned (.tuple #[.agg #[vI vK 0, vI vK 0], .bool false]) ∧ Below w.heap.size w w' := by
  have _h : decide (min ah bh < max al bl) = true := by simp; omega
  go_enter Tryz.func214, Tryz.ntmps214
  go_wp2_with fail
  all_goals exact bodyPost_ret (v := .tuple #[.agg #[vI vK 0, vI vK 0], .bool false]) (by simp [results, Tryz.results214, go_sem]) rfl ⟨rfl, by repeat' first | exact bF _ _ | refine bA ?_ ?_ _ | refine bS ?_ ?_ _ | refine bD ?_ | (simp; done) | (simp; omega) | (simp [drew_size]; done) | (simp [drew_size]; omega) | omega⟩
def oppV (c : Int) : Int := if c = 15 then 16 else if c = 16 then 15 else if c = 17 then 20 else if c = 18 then 19 else if c = 19 then 18 else if c = 20 then 17 else if c = 21 then 24 else if c = 22 then 23 else if c = 23 then 22 else if c = 24 then 21 else 0
theorem opp_15 (w : World) : Calls Tryz.prog 180 #[vI vK 15] w fun e w' => e = .returned (vI vK 16) ∧ w' = w := by
  go_enter Tryz.func180, Tryz.ntmps180
  go_wp2
  go_ret
  exact ⟨rfl, rfl⟩
theorem opp_16 (w : World) : Calls Tryz.prog 180 #[vI vK 16] w fun e w' => e = .returned (vI vK 15) ∧ w' = w := by
  go_enter Tryz.func180, Tryz.ntmps180
  go_wp2
  go_ret
  exact ⟨rfl, rfl⟩
theorem opp_17 (w : World) : Calls Tryz.prog 180 #[vI vK 17] w fun e w' => e = .returned (vI vK 20) ∧ w' = w := by
  go_enter Tryz.func180, Tryz.ntmps180
  go_wp2
  go_ret
  exact ⟨rfl, rfl⟩
theorem opp_18 (w : World) : Calls Tryz.prog 180 #[vI vK 18] w fun e w' => e = .returned (vI vK 19) ∧ w' = w := by
  go_enter Tryz.func180, Tryz.ntmps180
  go_wp2
  go_ret
  exact ⟨rfl, rfl⟩
theorem opp_19 (w : World) : Calls Tryz.prog 180 #[vI vK 19] w fun e w' => e = .returned (vI vK 18) ∧ w' = w := by
  go_enter Tryz.func180, Tryz.ntmps180
  go_wp2
  go_ret
  exact ⟨rfl, rfl⟩
theorem opp_20 (w : World) : Calls Tryz.prog 180 #[vI vK 20] w fun e w' => e = .returned (vI vK 17) ∧ w' = w := by
  go_enter Tryz.func180, Tryz.ntmps180
  go_wp2
  go_ret
  exact ⟨rfl, rfl⟩
theorem opp_21 (w : World) : Calls Tryz.prog 180 #[vI vK 21] w fun e w' => e = .returned (vI vK 24) ∧ w' = w := by
  go_enter Tryz.func180, Tryz.ntmps180
  go_wp2
  go_ret
  exact ⟨rfl, rfl⟩
theorem opp_22 (w : World) : Calls Tryz.prog 180 #[vI vK 22] w fun e w' => e = .returned (vI vK 23) ∧ w' = w := by
  go_enter Tryz.func180, Tryz.ntmps180
  go_wp2
  go_ret
  exact ⟨rfl, rfl⟩
theorem opp_23 (w : World) : Calls Tryz.prog 180 #[vI vK 23] w fun e w' => e = .returned (vI vK 22) ∧ w' = w := by
  go_enter Tryz.func180, Tryz.ntmps180
  go_wp2
  go_ret
  exact ⟨rfl, rfl⟩
theorem opp_24 (w : World) : Calls Tryz.prog 180 #[vI vK 24] w fun e w' => e = .returned (vI vK 21) ∧ w' = w := by
  go_enter Tryz.func180, Tryz.ntmps180
  go_wp2
  go_ret
  exact ⟨rfl, rfl⟩
theorem turned_17 (w : World) : Calls Tryz.prog 217 #[vI vK 17] w fun e w' => e = .returned (vI vK 19) ∧ w' = w := by
  go_enter Tryz.func217, Tryz.ntmps217
  go_wp2
  go_ret
  exact ⟨rfl, rfl⟩
theorem turned_18 (w : World) : Calls Tryz.prog 217 #[vI vK 18] w fun e w' => e = .returned (vI vK 20) ∧ w' = w := by
  go_enter Tryz.func217, Tryz.ntmps217
  go_wp2
  go_ret
  exact ⟨rfl, rfl⟩
theorem turned_21 (w : World) : Calls Tryz.prog 217 #[vI vK 21] w fun e w' => e = .returned (vI vK 23) ∧ w' = w := by
  go_enter Tryz.func217, Tryz.ntmps217
  go_wp2
  go_ret
  exact ⟨rfl, rfl⟩
theorem turned_22 (w : World) : Calls Tryz.prog 217 #[vI vK 22] w fun e w' => e = .returned (vI vK 24) ∧ w' = w := by
  go_enter Tryz.func217, Tryz.ntmps217
  go_wp2
  go_ret
  exact ⟨rfl, rfl⟩
theorem below_19n (al ah bl bh : Int) (hb : bl < 0) (w : World) : Calls Tryz.prog 216 #[vI vK 19, .agg #[vI vK al, vI vK ah], .agg #[vI vK bl, vI vK bh]] w fun e w' => e = .returned (.tuple #[.agg #[vI vK al, vI vK ah], .agg #[vI vK bl, vI vK bh], .bool true]) ∧ Below w.heap.size w w' := by
  go_enter Tryz.func216, Tryz.ntmps216
  go_wp2_with fail
  go_region
  all_goals go_wp2
  all_goals exact bodyPost_ret (v := .tuple #[.agg #[vI vK al, vI vK ah], .agg #[vI vK bl, vI vK bh], .bool true]) (by simp [results, Tryz.results216, go_sem]) rfl ⟨rfl, by repeat' first | exact bF _ _ | refine bA ?_ ?_ _ | refine bS ?_ ?_ _ | refine bD ?_ | (simp; done) | (simp; omega) | (simp [drew_size]; done) | (simp [drew_size]; omega) | omega⟩
theorem below_19e (al ah bl bh : Int) (hb : 0 ≤ bl) (h : ah < max al 0) (w : World) : Calls Tryz.prog 216 #[vI vK 19, .agg #[vI vK al, vI vK ah], .agg #[vI vK bl, vI vK bh]] w fun e w' => e = .returned (.tuple #[.agg #[vI vK 0, vI vK 0], .agg #[vI vK 0, vI vK 0], .bool false]) ∧ Below w.heap.size w w' := by
  have _hb : decide (bl < 0) = false := by simp; omega
  have _h : decide (ah < max al 0) = true := by simp; omega
  go_enter Tryz.func216, Tryz.ntmps216
  go_wp2_with (first | (go_at_call 155; refine (is_any _ _ _ _).mono ?_; rintro e w' ⟨rfl, rfl⟩))
  all_goals exact bodyPost_ret (v := .tuple #[.agg #[vI vK 0, vI vK 0], .agg #[vI vK 0, vI vK 0], .bool false]) (by simp [results, Tryz.results216, go_sem]) rfl ⟨rfl, by repeat' first | exact bF _ _ | refine bA ?_ ?_ _ | refine bS ?_ ?_ _ | refine bD ?_ | (simp; done) | (simp; omega) | (simp [drew_size]; done) | (simp [drew_size]; omega) | omega⟩
theorem below_19f (al ah bl bh : Int) (hb : 0 ≤ bl) (h : max al 0 ≤ ah) (hi : isV 19 (max al 0) bh = false) (w : World) : Calls Tryz.prog 216 #[vI vK 19, .agg #[vI vK al, vI vK ah], .agg #[vI vK bl, vI vK bh]] w fun e w' => e = .returned (.tuple #[.agg #[vI vK 0, vI vK 0], .agg #[vI vK 0, vI vK 0], .bool false]) ∧ Below w.heap.size w w' := by
  have _hb : decide (bl < 0) = false := by simp; omega
  have _h : decide (ah < max al 0) = false := by simp; omega
  go_enter Tryz.func216, Tryz.ntmps216
  go_wp2_with (first | (go_at_call 155; refine (is_any _ _ _ _).mono ?_; rintro e w' ⟨rfl, rfl⟩))
  all_goals exact bodyPost_ret (v := .tuple #[.agg #[vI vK 0, vI vK 0], .agg #[vI vK 0, vI vK 0], .bool false]) (by simp [results, Tryz.results216, go_sem]) rfl ⟨rfl, by repeat' first | exact bF _ _ | refine bA ?_ ?_ _ | refine bS ?_ ?_ _ | refine bD ?_ | (simp; done) | (simp; omega) | (simp [drew_size]; done) | (simp [drew_size]; omega) | omega⟩
theorem below_19t (al ah bl bh : Int) (hb : 0 ≤ bl) (h : max al 0 ≤ ah) (hi : isV 19 (max al 0) bh = true) (p1 : -9223372036854775808 ≤ max al 0) (p2 : max al 0 + 1 ≤ 9223372036854775807) (p3 : -9223372036854775808 ≤ bh - 1) (p4 : bh ≤ 9223372036854775807) (w : World) : Calls Tryz.prog 216 #[vI vK 19, .agg #[vI vK al, vI vK ah], .agg #[vI vK bl, vI vK bh]] w fun e w' => e = .returned (.tuple #[.agg #[vI vK (max al 0), vI vK (min ah (bh - 1))], .agg #[vI vK (max bl (max al 0 + 1)), vI vK bh], .bool true]) ∧ Below w.heap.size w w' := by
  have _hb : decide (bl < 0) = false := by simp; omega
  have _h : decide (ah < max al 0) = false := by simp; omega
  go_enter Tryz.func216, Tryz.ntmps216
  go_wp2_with (first | (go_at_call 155; refine (is_any _ _ _ _).mono ?_; rintro e w' ⟨rfl, rfl⟩))
  go_region
  all_goals go_wp2
  all_goals exact bodyPost_ret (v := .tuple #[.agg #[vI vK (max al 0), vI vK (min ah (bh - 1))], .agg #[vI vK (max bl (max al 0 + 1)), vI vK bh], .bool true]) (by simp [results, Tryz.results216, go_sem]) rfl ⟨rfl, by repeat' first | exact bF _ _ | refine bA ?_ ?_ _ | refine bS ?_ ?_ _ | refine bD ?_ | (simp; done) | (simp; omega) | (simp [drew_size]; done) | (simp [drew_size]; omega) | omega⟩
theorem below_20n (al ah bl bh : Int) (hb : bl < 0) (w : World) : Calls Tryz.prog 216 #[vI vK 20, .agg #[vI vK al, vI vK ah], .agg #[vI vK bl, vI vK bh]] w fun e w' => e = .returned (.tuple #[.agg #[vI vK al, vI vK ah], .agg #[vI vK bl, vI vK bh], .bool true]) ∧ Below w.heap.size w w' := by
  go_enter Tryz.func216, Tryz.ntmps216
  go_wp2_with fail
  go_region
  all_goals go_wp2
  all_goals exact bodyPost_ret (v := .tuple #[.agg #[vI vK al, vI vK ah], .agg #[vI vK bl, vI vK bh], .bool true]) (by simp [results, Tryz.results216, go_sem]) rfl ⟨rfl, by repeat' first | exact bF _ _ | refine bA ?_ ?_ _ | refine bS ?_ ?_ _ | refine bD ?_ | (simp; done) | (simp; omega) | (simp [drew_size]; done) | (simp [drew_size]; omega) | omega⟩
theorem below_20e (al ah bl bh : Int) (hb : 0 ≤ bl) (h : ah < max al 0) (w : World) : Calls Tryz.prog 216 #[vI vK 20, .agg #[vI vK al, vI vK ah], .agg #[vI vK bl, vI vK bh]] w fun e w' => e = .returned (.tuple #[.agg #[vI vK 0, vI vK 0], .agg #[vI vK 0, vI vK 0], .bool false]) ∧ Below w.heap.size w w' := by
  have _hb : decide (bl < 0) = false := by simp; omega
  have _h : decide (ah < max al 0) = true := by simp; omega
  go_enter Tryz.func216, Tryz.ntmps216
  go_wp2_with (first | (go_at_call 155; refine (is_any _ _ _ _).mono ?_; rintro e w' ⟨rfl, rfl⟩))
  all_goals exact bodyPost_ret (v := .tuple #[.agg #[vI vK 0, vI vK 0], .agg #[vI vK 0, vI vK 0], .bool false]) (by simp [results, Tryz.results216, go_sem]) rfl ⟨rfl, by repeat' first | exact bF _ _ | refine bA ?_ ?_ _ | refine bS ?_ ?_ _ | refine bD ?_ | (simp; done) | (simp; omega) | (simp [drew_size]; done) | (simp [drew_size]; omega) | omega⟩
theorem below_20f (al ah bl bh : Int) (hb : 0 ≤ bl) (h : max al 0 ≤ ah) (hi : isV 20 (max al 0) bh = false) (w : World) : Calls Tryz.prog 216 #[vI vK 20, .agg #[vI vK al, vI vK ah], .agg #[vI vK bl, vI vK bh]] w fun e w' => e = .returned (.tuple #[.agg #[vI vK 0, vI vK 0], .agg #[vI vK 0, vI vK 0], .bool false]) ∧ Below w.heap.size w w' := by
  have _hb : decide (bl < 0) = false := by simp; omega
  have _h : decide (ah < max al 0) = false := by simp; omega
  go_enter Tryz.func216, Tryz.ntmps216
  go_wp2_with (first | (go_at_call 155; refine (is_any _ _ _ _).mono ?_; rintro e w' ⟨rfl, rfl⟩))
  all_goals exact bodyPost_ret (v := .tuple #[.agg #[vI vK 0, vI vK 0], .agg #[vI vK 0, vI vK 0], .bool false]) (by simp [results, Tryz.results216, go_sem]) rfl ⟨rfl, by repeat' first | exact bF _ _ | refine bA ?_ ?_ _ | refine bS ?_ ?_ _ | refine bD ?_ | (simp; done) | (simp; omega) | (simp [drew_size]; done) | (simp [drew_size]; omega) | omega⟩
theorem below_20t (al ah bl bh : Int) (hb : 0 ≤ bl) (h : max al 0 ≤ ah) (hi : isV 20 (max al 0) bh = true) (p1 : -9223372036854775808 ≤ max al 0) (p2 : max al 0 + 0 ≤ 9223372036854775807) (p3 : -9223372036854775808 ≤ bh - 0) (p4 : bh ≤ 9223372036854775807) (w : World) : Calls Tryz.prog 216 #[vI vK 20, .agg #[vI vK al, vI vK ah], .agg #[vI vK bl, vI vK bh]] w fun e w' => e = .returned (.tuple #[.agg #[vI vK (max al 0), vI vK (min ah (bh))], .agg #[vI vK (max bl (max al 0)), vI vK bh], .bool true]) ∧ Below w.heap.size w w' := by
  have _hb : decide (bl < 0) = false := by simp; omega
  have _h : decide (ah < max al 0) = false := by simp; omega
  go_enter Tryz.func216, Tryz.ntmps216
  go_wp2_with (first | (go_at_call 155; refine (is_any _ _ _ _).mono ?_; rintro e w' ⟨rfl, rfl⟩))
  go_region
  all_goals go_wp2
  all_goals exact bodyPost_ret (v := .tuple #[.agg #[vI vK (max al 0), vI vK (min ah (bh))], .agg #[vI vK (max bl (max al 0)), vI vK bh], .bool true]) (by simp [results, Tryz.results216, go_sem]) rfl ⟨rfl, by repeat' first | exact bF _ _ | refine bA ?_ ?_ _ | refine bS ?_ ?_ _ | refine bD ?_ | (simp; done) | (simp; omega) | (simp [drew_size]; done) | (simp [drew_size]; omega) | omega⟩
theorem below_23e (al ah bl bh : Int) (h : ah < al) (w : World) : Calls Tryz.prog 216 #[vI vK 23, .agg #[vI vK al, vI vK ah], .agg #[vI vK bl, vI vK bh]] w fun e w' => e = .returned (.tuple #[.agg #[vI vK 0, vI vK 0], .agg #[vI vK 0, vI vK 0], .bool false]) ∧ Below w.heap.size w w' := by
  have _h : decide (ah < al) = true := by simp; omega
  go_enter Tryz.func216, Tryz.ntmps216
  go_wp2_with (first | (go_at_call 155; refine (is_any _ _ _ _).mono ?_; rintro e w' ⟨rfl, rfl⟩))
  all_goals exact bodyPost_ret (v := .tuple #[.agg #[vI vK 0, vI vK 0], .agg #[vI vK 0, vI vK 0], .bool false]) (by simp [results, Tryz.results216, go_sem]) rfl ⟨rfl, by repeat' first | exact bF _ _ | refine bA ?_ ?_ _ | refine bS ?_ ?_ _ | refine bD ?_ | (simp; done) | (simp; omega) | (simp [drew_size]; done) | (simp [drew_size]; omega) | omega⟩
theorem below_23f (al ah bl bh : Int) (h : al ≤ ah) (hi : isV 23 (al) bh = false) (w : World) : Calls Tryz.prog 216 #[vI vK 23, .agg #[vI vK al, vI vK ah], .agg #[vI vK bl, vI vK bh]] w fun e w' => e = .returned (.tuple #[.agg #[vI vK 0, vI vK 0], .agg #[vI vK 0, vI vK 0], .bool false]) ∧ Below w.heap.size w w' := by
  have _h : decide (ah < al) = false := by simp; omega
  go_enter Tryz.func216, Tryz.ntmps216
  go_wp2_with (first | (go_at_call 155; refine (is_any _ _ _ _).mono ?_; rintro e w' ⟨rfl, rfl⟩))
  all_goals exact bodyPost_ret (v := .tuple #[.agg #[vI vK 0, vI vK 0], .agg #[vI vK 0, vI vK 0], .bool false]) (by simp [results, Tryz.results216, go_sem]) rfl ⟨rfl, by repeat' first | exact bF _ _ | refine bA ?_ ?_ _ | refine bS ?_ ?_ _ | refine bD ?_ | (simp; done) | (simp; omega) | (simp [drew_size]; done) | (simp [drew_size]; omega) | omega⟩
theorem below_23t (al ah bl bh : Int) (h : al ≤ ah) (hi : isV 23 (al) bh = true) (p1 : -9223372036854775808 ≤ al) (p2 : al + 1 ≤ 9223372036854775807) (p3 : -9223372036854775808 ≤ bh - 1) (p4 : bh ≤ 9223372036854775807) (w : World) : Calls Tryz.prog 216 #[vI vK 23, .agg #[vI vK al, vI vK ah], .agg #[vI vK bl, vI vK bh]] w fun e w' => e = .returned (.tuple #[.agg #[vI vK al, vI vK (min ah (bh - 1))], .agg #[vI vK (max bl (al + 1)), vI vK bh], .bool true]) ∧ Below w.heap.size w w' := by
  have _h : decide (ah < al) = false := by simp; omega
  go_enter Tryz.func216, Tryz.ntmps216
  go_wp2_with (first | (go_at_call 155; refine (is_any _ _ _ _).mono ?_; rintro e w' ⟨rfl, rfl⟩))
  go_region
  all_goals go_wp2
  all_goals exact bodyPost_ret (v := .tuple #[.agg #[vI vK al, vI vK (min ah (bh - 1))], .agg #[vI vK (max bl (al + 1)), vI vK bh], .bool true]) (by simp [results, Tryz.results216, go_sem]) rfl ⟨rfl, by repeat' first | exact bF _ _ | refine bA ?_ ?_ _ | refine bS ?_ ?_ _ | refine bD ?_ | (simp; done) | (simp; omega) | (simp [drew_size]; done) | (simp [drew_size]; omega) | omega⟩
theorem below_24e (al ah bl bh : Int) (h : ah < al) (w : World) : Calls Tryz.prog 216 #[vI vK 24, .agg #[vI vK al, vI vK ah], .agg #[vI vK bl, vI vK bh]] w fun e w' => e = .returned (.tuple #[.agg #[vI vK 0, vI vK 0], .agg #[vI vK 0, vI vK 0], .bool false]) ∧ Below w.heap.size w w' := by
  have _h : decide (ah < al) = true := by simp; omega
  go_enter Tryz.func216, Tryz.ntmps216
  go_wp2_with (first | (go_at_call 155; refine (is_any _ _ _ _).mono ?_; rintro e w' ⟨rfl, rfl⟩))
  all_goals exact bodyPost_ret (v := .tuple #[.agg #[vI vK 0, vI vK 0], .agg #[vI vK 0, vI vK 0], .bool false]) (by simp [results, Tryz.results216, go_sem]) rfl ⟨rfl, by repeat' first | exact bF _ _ | refine bA ?_ ?_ _ | refine bS ?_ ?_ _ | refine bD ?_ | (simp; done) | (simp; omega) | (simp [drew_size]; done) | (simp [drew_size]; omega) | omega⟩
theorem below_24f (al ah bl bh : Int) (h : al ≤ ah) (hi : isV 24 (al) bh = false) (w : World) : Calls Tryz.prog 216 #[vI vK 24, .agg #[vI vK al, vI vK ah], .agg #[vI vK bl, vI vK bh]] w fun e w' => e = .returned (.tuple #[.agg #[vI vK 0, vI vK 0], .agg #[vI vK 0, vI vK 0], .bool false]) ∧ Below w.heap.size w w' := by
  have _h : decide (ah < al) = false := by simp; omega
  go_enter Tryz.func216, Tryz.ntmps216
  go_wp2_with (first | (go_at_call 155; refine (is_any _ _ _ _).mono ?_; rintro e w' ⟨rfl, rfl⟩))
  all_goals exact bodyPost_ret (v := .tuple #[.agg #[vI vK 0, vI vK 0], .agg #[vI vK 0, vI vK 0], .bool false]) (by simp [results, Tryz.results216, go_sem]) rfl ⟨rfl, by repeat' first | exact bF _ _ | refine bA ?_ ?_ _ | refine bS ?_ ?_ _ | refine bD ?_ | (simp; done) | (simp; omega) | (simp [drew_size]; done) | (simp [drew_size]; omega) | omega⟩
theorem below_24t (al ah bl bh : Int) (h : al ≤ ah) (hi : isV 24 (al) bh = true) (p1 : -9223372036854775808 ≤ al) (p2 : al + 0 ≤ 9223372036854775807) (p3 : -9223372036854775808 ≤ bh - 0) (p4 : bh ≤ 9223372036854775807) (w : World) : Calls Tryz.prog 216 #[vI vK 24, .agg #[vI vK al, vI vK ah], .agg #[vI vK bl, vI vK bh]] w fun e w' => e = .returned (.tuple #[.agg #[vI vK al, vI vK (min ah (bh))], .agg #[vI vK (max bl (al)), vI vK bh], .bool true]) ∧ Below w.heap.size w w' := by
  have _h : decide (ah < al) = false := by simp; omega
  go_enter Tryz.func216, Tryz.ntmps216
  go_wp2_with (first | (go_at_call 155; refine (is_any _ _ _ _).mono ?_; rintro e w' ⟨rfl, rfl⟩))
  go_region
  all_goals go_wp2
  all_goals exact bodyPost_ret (v := .tuple #[.agg #[vI vK al, vI vK (min ah (bh))], .agg #[vI vK (max bl (al)), vI vK bh], .bool true]) (by simp [results, Tryz.results216, go_sem]) rfl ⟨rfl, by repeat' first | exact bF _ _ | refine bA ?_ ?_ _ | refine bS ?_ ?_ _ | refine bD ?_ | (simp; done) | (simp; omega) | (simp [drew_size]; done) | (simp [drew_size]; omega) | omega⟩
def eqB (l h e : Int) : Bool := decide (l = e) && decide (h = e)
theorem eqB_iff (l h e : Int) : eqB l h e = true ↔ l = e ∧ h = e := by simp [eqB]
theorem eqB_no (l h e : Int) : eqB l h e = false ↔ ¬ (l = e ∧ h = e) := by rw [← Bool.not_eq_true, eqB_iff]
theorem cut_yes (e l h : Int) (bk : Nat) (p : l = e) (q : h = e) (w : World) (hbk : bk < w.heap.size) (c0 : w.cell? ⟨bk, 0, none⟩ = some (vI vK l)) (c1 : w.cell? ⟨bk, 1, none⟩ = some (vI vK h)) : Calls Tryz.prog 224 #[vI vK e, .pointer (some ⟨bk, 0, none⟩)] w fun r w' => r = .returned (.bool true) ∧ Below w.heap.size w w' := by
  obtain rfl : e = l := p.symm
  obtain rfl : e = h := q.symm
  go_enter Tryz.func224, Tryz.ntmps224
  go_wp2_with (first | (go_at_call 37; refine (one_at _ _).mono ?_; rintro e w' ⟨rfl, rfl⟩))
  go_region_held3 (fun w' => w'.cell? ⟨bk, 0, none⟩ = some (vI vK e) ∧ w'.cell? ⟨bk, 1, none⟩ = some (vI vK e)) (first | (simp [go_sem]; done) | (simp [go_sem, *]; done) | go_keep) (first | (go_at_call 37; refine (one_at _ _).mono ?_; rintro e w' ⟨rfl, rfl⟩))
  all_goals go_wp2
  all_goals go_ret
  all_goals exact ⟨rfl, by repeat' first | exact bF _ _ | refine bA ?_ ?_ _ | refine bS ?_ ?_ _ | refine bD ?_ | (simp; done) | (simp; omega) | (simp [drew_size]; done) | (simp [drew_size]; omega) | omega⟩
theorem cut_no0 (e l h : Int) (bk : Nat) (p : ¬ l = e) (w : World) (hbk : bk < w.heap.size) (c0 : w.cell? ⟨bk, 0, none⟩ = some (vI vK l)) (c1 : w.cell? ⟨bk, 1, none⟩ = some (vI vK h)) : Calls Tryz.prog 224 #[vI vK e, .pointer (some ⟨bk, 0, none⟩)] w fun r w' => r = .returned (.bool false) ∧ Below w.heap.size w w' := by
  go_enter Tryz.func224, Tryz.ntmps224
  go_wp2_with (first | (go_at_call 37; refine (one_at _ _).mono ?_; rintro e w' ⟨rfl, rfl⟩))
  go_region_held3 (fun w' => w'.cell? ⟨bk, 0, none⟩ = some (vI vK l) ∧ w'.cell? ⟨bk, 1, none⟩ = some (vI vK h)) (first | (simp [go_sem]; done) | (simp [go_sem, *]; done) | go_keep) (first | (go_at_call 37; refine (one_at _ _).mono ?_; rintro e w' ⟨rfl, rfl⟩))
  all_goals go_wp2
  all_goals go_ret
  all_goals exact ⟨rfl, by repeat' first | exact bF _ _ | refine bA ?_ ?_ _ | refine bS ?_ ?_ _ | refine bD ?_ | (simp; done) | (simp; omega) | (simp [drew_size]; done) | (simp [drew_size]; omega) | omega⟩
theorem cut_no1 (e l h : Int) (bk : Nat) (p : l = e) (q : ¬ h = e) (w : World) (hbk : bk < w.heap.size) (c0 : w.cell? ⟨bk, 0, none⟩ = some (vI vK l)) (c1 : w.cell? ⟨bk, 1, none⟩ = some (vI vK h)) : Calls Tryz.prog 224 #[vI vK e, .pointer (some ⟨bk, 0, none⟩)] w fun r w' => r = .returned (.bool false) ∧ Below w.heap.size w w' := by
  obtain rfl : e = l := p.symm
  go_enter Tryz.func224, Tryz.ntmps224
  go_wp2_with (first | (go_at_call 37; refine (one_at _ _).mono ?_; rintro e w' ⟨rfl, rfl⟩))
  go_region_held3 (fun w' => w'.cell? ⟨bk, 0, none⟩ = some (vI vK e) ∧ w'.cell? ⟨bk, 1, none⟩ = some (vI vK h)) (first | (simp [go_sem]; done) | (simp [go_sem, *]; done) | go_keep) (first | (go_at_call 37; refine (one_at _ _).mono ?_; rintro e w' ⟨rfl, rfl⟩))
  all_goals go_wp2
  all_goals go_ret
  all_goals exact ⟨rfl, by repeat' first | exact bF _ _ | refine bA ?_ ?_ _ | refine bS ?_ ?_ _ | refine bD ?_ | (simp; done) | (simp; omega) | (simp [drew_size]; done) | (simp [drew_size]; omega) | omega⟩
theorem cut_is (e l h : Int) (bk : Nat) (w : World) (hbk : bk < w.heap.size) (c0 : w.cell? ⟨bk, 0, none⟩ = some (vI vK l)) (c1 : w.cell? ⟨bk, 1, none⟩ = some (vI vK h)) : Calls Tryz.prog 224 #[vI vK e, .pointer (some ⟨bk, 0, none⟩)] w fun r w' => r = .returned (.bool (eqB l h e)) ∧ Below w.heap.size w w' := by
  by_cases p : l = e
  · by_cases q : h = e
    · have hb : eqB l h e = true := (eqB_iff _ _ _).2 ⟨p, q⟩
      rw [hb]
      exact cut_yes e l h bk p q w hbk c0 c1
    · have hb : eqB l h e = false := (eqB_no _ _ _).2 (fun x => q x.2)
      rw [hb]
      exact cut_no1 e l h bk p q w hbk c0 c1
  · have hb : eqB l h e = false := (eqB_no _ _ _).2 (fun x => p x.1)
    rw [hb]
    exact cut_no0 e l h bk p w hbk c0 c1
def Trio (n : Nat) (al ah bl bh : Int) (w : World) : Prop :=
  n + 1 + 1 < w.heap.size ∧ w.cell? ⟨n, 0, none⟩ = some (vI vK al) ∧ w.cell? ⟨n, 1, none⟩ = some (vI vK ah) ∧ w.frozen? ⟨n, 0, none⟩ = false ∧ w.frozen? ⟨n, 1, none⟩ = false
  ∧ w.cell? ⟨n + 1, 0, none⟩ = some (vI vK bl) ∧ w.cell? ⟨n + 1, 1, none⟩ = some (vI vK bh) ∧ w.frozen? ⟨n + 1, 0, none⟩ = false ∧ w.frozen? ⟨n + 1, 1, none⟩ = false
  ∧ w.cell? ⟨n + 1 + 1, 0, none⟩ = some (vI vK 0) ∧ w.cell? ⟨n + 1 + 1, 1, none⟩ = some (vI vK 0) ∧ w.frozen? ⟨n + 1 + 1, 0, none⟩ = false ∧ w.frozen? ⟨n + 1 + 1, 1, none⟩ = false
theorem Trio.later {n : Nat} {al ah bl bh : Int} {W w1 : World} (h : Trio n al ah bl bh W) (hb : Below W.heap.size W w1) : Trio n al ah bl bh w1 := by
  obtain ⟨t0, a0, a1, af0, af1, b0, b1, bf0, bf1, r0, r1, rf0, rf1⟩ := h
  have hs := hb.size
  have l0 : n < W.heap.size := by omega
  have l1 : n + 1 < W.heap.size := by omega
  exact ⟨by omega, (hb.cell (p := ⟨n, 0, none⟩) l0).trans a0, (hb.cell (p := ⟨n, 1, none⟩) l0).trans a1, (hb.frozen (p := ⟨n, 0, none⟩) l0).trans af0, (hb.frozen (p := ⟨n, 1, none⟩) l0).trans af1,
    (hb.cell (p := ⟨n + 1, 0, none⟩) l1).trans b0, (hb.cell (p := ⟨n + 1, 1, none⟩) l1).trans b1, (hb.frozen (p := ⟨n + 1, 0, none⟩) l1).trans bf0, (hb.frozen (p := ⟨n + 1, 1, none⟩) l1).trans bf1,
    (hb.cell (p := ⟨n + 1 + 1, 0, none⟩) t0).trans r0, (hb.cell (p := ⟨n + 1 + 1, 1, none⟩) t0).trans r1, (hb.frozen (p := ⟨n + 1 + 1, 0, none⟩) t0).trans rf0, (hb.frozen (p := ⟨n + 1 + 1, 1, none⟩) t0).trans rf1⟩

theorem wo_one (al bl bh : Int) (w : World) : Calls Tryz.prog 223 #[.agg #[vI vK al, vI vK al], .agg #[vI vK bl, vI vK bh]] w fun e w' => e = .returned (.agg #[vI vK al, vI vK al]) ∧ Below w.heap.size w w' := by
  go_enter Tryz.func223, Tryz.ntmps223
  go_wp2_with fail
  go_region_held3 (fun w' => w'.cell? ⟨w.heap.size, 0, none⟩ = some (vI vK al) ∧ w'.cell? ⟨w.heap.size, 1, none⟩ = some (vI vK al)) (first | (simp [go_sem]; done) | (simp [go_sem, *]; done) | go_keep) (first | (go_at_call 37; refine (one_at _ _).mono ?_; rintro e w' ⟨rfl, rfl⟩) | (go_at_call 224; go_must (refine (cut_is _ bl bh _ _ ?_ ?_ ?_).mono ?_; (focus first | (simp; done) | (simp; omega) | omega); (focus first | (simp [go_sem]; done) | (simp [go_sem, *]; done)); (focus first | (simp [go_sem]; done) | (simp [go_sem, *]; done)); rintro e w1 ⟨rfl, hb1⟩; have hX1 : Trio w.heap.size al ah bl bh w1 := Trio.later (by first | exact hX1 | (refine ⟨?_, ?_, ?_, ?_, ?_, ?_, ?_, ?_, ?_, ?_, ?_, ?_, ?_⟩ <;> simp [go_sem])) hb1; have hbw1 : Below w.heap.size w w1 := (by ((refine Below.trans ?_ (hb1.mono ?_)) <;> repeat' first | exact bF _ _ | exact hbw1 | refine bA ?_ ?_ _ | refine bS ?_ ?_ _ | refine bD ?_ | (simp; done) | (simp; omega) | (simp [drew_size]; done) | (simp [drew_size]; omega) | omega)); have hY := hX1; obtain ⟨t0, a0, a1, af0, af1, b0, b1, bf0, bf1, r0, r1, rf0, rf1⟩ := hY)))
  all_goals go_wp2_with (first | (go_at_call 37; refine (one_at _ _).mono ?_; rintro e w' ⟨rfl, rfl⟩) | (go_at_call 224; go_must (refine (cut_is _ bl bh _ _ ?_ ?_ ?_).mono ?_; (focus first | (simp; done) | (simp; omega) | omega); (focus first | (simp [go_sem]; done) | (simp [go_sem, *]; done)); (focus first | (simp [go_sem]; done) | (simp [go_sem, *]; done)); rintro e w1 ⟨rfl, hb1⟩; have hX1 : Trio w.heap.size al ah bl bh w1 := Trio.later (by first | exact hX1 | (refine ⟨?_, ?_, ?_, ?_, ?_, ?_, ?_, ?_, ?_, ?_, ?_, ?_, ?_⟩ <;> simp [go_sem])) hb1; have hbw1 : Below w.heap.size w w1 := (by ((refine Below.trans ?_ (hb1.mono ?_)) <;> repeat' first | exact bF _ _ | exact hbw1 | refine bA ?_ ?_ _ | refine bS ?_ ?_ _ | refine bD ?_ | (simp; done) | (simp; omega) | (simp [drew_size]; done) | (simp [drew_size]; omega) | omega)); have hY := hX1; obtain ⟨t0, a0, a1, af0, af1, b0, b1, bf0, bf1, r0, r1, rf0, rf1⟩ := hY)))
  all_goals exact bodyPost_ret (v := .agg #[vI vK al, vI vK al]) (by simp [results, Tryz.results223, go_sem]) rfl ⟨rfl, by repeat' first | exact bF _ _ | refine bA ?_ ?_ _ | refine bS ?_ ?_ _ | refine bD ?_ | (simp; done) | (simp; omega) | (simp [drew_size]; done) | (simp [drew_size]; omega) | omega⟩
theorem wo_low (al ah bl bh : Int) (hne : ¬ ah = al) (hlt : al < ah) (p1 : -9223372036854775808 ≤ al) (p2 : ah ≤ 9223372036854775807) (hp : eqB bl bh al = true) (w : World) : Calls Tryz.prog 223 #[.agg #[vI vK al, vI vK ah], .agg #[vI vK bl, vI vK bh]] w fun e w' => e = .returned (.agg #[vI vK (al + 1), vI vK ah]) ∧ Below w.heap.size w w' := by
  go_enter Tryz.func223, Tryz.ntmps223
  go_wp2_with fail
  go_region_held3 (fun w' => w'.cell? ⟨w.heap.size, 0, none⟩ = some (vI vK al) ∧ w'.cell? ⟨w.heap.size, 1, none⟩ = some (vI vK ah)) (first | (simp [go_sem]; done) | (simp [go_sem, *]; done) | go_keep) (first | (go_at_call 37; refine (one_at _ _).mono ?_; rintro e w' ⟨rfl, rfl⟩) | (go_at_call 224; go_must (refine (cut_is _ bl bh _ _ ?_ ?_ ?_).mono ?_; (focus first | (simp; done) | (simp; omega) | omega); (focus first | (simp [go_sem]; done) | (simp [go_sem, *]; done)); (focus first | (simp [go_sem]; done) | (simp [go_sem, *]; done)); rintro e w1 ⟨rfl, hb1⟩; have hX1 : Trio w.heap.size al ah bl bh w1 := Trio.later (by first | exact hX1 | (refine ⟨?_, ?_, ?_, ?_, ?_, ?_, ?_, ?_, ?_, ?_, ?_, ?_, ?_⟩ <;> simp [go_sem])) hb1; have hbw1 : Below w.heap.size w w1 := (by ((refine Below.trans ?_ (hb1.mono ?_)) <;> repeat' first | exact bF _ _ | exact hbw1 | refine bA ?_ ?_ _ | refine bS ?_ ?_ _ | refine bD ?_ | (simp; done) | (simp; omega) | (simp [drew_size]; done) | (simp [drew_size]; omega) | omega)); have hY := hX1; obtain ⟨t0, a0, a1, af0, af1, b0, b1, bf0, bf1, r0, r1, rf0, rf1⟩ := hY)))
  all_goals go_wp2_with (first | (go_at_call 37; refine (one_at _ _).mono ?_; rintro e w' ⟨rfl, rfl⟩) | (go_at_call 224; go_must (refine (cut_is _ bl bh _ _ ?_ ?_ ?_).mono ?_; (focus first | (simp; done) | (simp; omega) | omega); (focus first | (simp [go_sem]; done) | (simp [go_sem, *]; done)); (focus first | (simp [go_sem]; done) | (simp [go_sem, *]; done)); rintro e w1 ⟨rfl, hb1⟩; have hX1 : Trio w.heap.size al ah bl bh w1 := Trio.later (by first | exact hX1 | (refine ⟨?_, ?_, ?_, ?_, ?_, ?_, ?_, ?_, ?_, ?_, ?_, ?_, ?_⟩ <;> simp [go_sem])) hb1; have hbw1 : Below w.heap.size w w1 := (by ((refine Below.trans ?_ (hb1.mono ?_)) <;> repeat' first | exact bF _ _ | exact hbw1 | refine bA ?_ ?_ _ | refine bS ?_ ?_ _ | refine bD ?_ | (simp; done) | (simp; omega) | (simp [drew_size]; done) | (simp [drew_size]; omega) | omega)); have hY := hX1; obtain ⟨t0, a0, a1, af0, af1, b0, b1, bf0, bf1, r0, r1, rf0, rf1⟩ := hY)))
  all_goals exact bodyPost_ret (v := .agg #[vI vK (al + 1), vI vK ah]) (by simp [results, Tryz.results223, go_sem, r0, r1]) rfl ⟨rfl, by repeat' first | exact bF _ _ | exact hbw1 | refine bA ?_ ?_ _ | refine bS ?_ ?_ _ | refine bD ?_ | (simp; done) | (simp; omega) | (simp [drew_size]; done) | (simp [drew_size]; omega) | omega⟩
theorem wo_high (al ah bl bh : Int) (hne : ¬ ah = al) (hlt : al < ah) (p1 : -9223372036854775808 ≤ al) (p2 : ah ≤ 9223372036854775807) (hp : eqB bl bh al = false) (hq : eqB bl bh ah = true) (w : World) : Calls Tryz.prog 223 #[.agg #[vI vK al, vI vK ah], .agg #[vI vK bl, vI vK bh]] w fun e w' => e = .returned (.agg #[vI vK al, vI vK (ah - 1)]) ∧ Below w.heap.size w w' := by
  go_enter Tryz.func223, Tryz.ntmps223
  go_wp2_with fail
  go_region_held3 (fun w' => w'.cell? ⟨w.heap.size, 0, none⟩ = some (vI vK al) ∧ w'.cell? ⟨w.heap.size, 1, none⟩ = some (vI vK ah)) (first | (simp [go_sem]; done) | (simp [go_sem, *]; done) | go_keep) (first | (go_at_call 37; refine (one_at _ _).mono ?_; rintro e w' ⟨rfl, rfl⟩) | (go_at_call 224; go_must (refine (cut_is _ bl bh _ _ ?_ ?_ ?_).mono ?_; (focus first | (simp; done) | (simp; omega) | omega); (focus first | (simp [go_sem]; done) | (simp [go_sem, *]; done)); (focus first | (simp [go_sem]; done) | (simp [go_sem, *]; done)); rintro e w1 ⟨rfl, hb1⟩; have hX1 : Trio w.heap.size al ah bl bh w1 := Trio.later (by first | exact hX1 | (refine ⟨?_, ?_, ?_, ?_, ?_, ?_, ?_, ?_, ?_, ?_, ?_, ?_, ?_⟩ <;> simp [go_sem])) hb1; have hbw1 : Below w.heap.size w w1 := (by ((refine Below.trans ?_ (hb1.mono ?_)) <;> repeat' first | exact bF _ _ | exact hbw1 | refine bA ?_ ?_ _ | refine bS ?_ ?_ _ | refine bD ?_ | (simp; done) | (simp; omega) | (simp [drew_size]; done) | (simp [drew_size]; omega) | omega)); have hY := hX1; obtain ⟨t0, a0, a1, af0, af1, b0, b1, bf0, bf1, r0, r1, rf0, rf1⟩ := hY)))
  all_goals go_wp2_with (first | (go_at_call 37; refine (one_at _ _).mono ?_; rintro e w' ⟨rfl, rfl⟩) | (go_at_call 224; go_must (refine (cut_is _ bl bh _ _ ?_ ?_ ?_).mono ?_; (focus first | (simp; done) | (simp; omega) | omega); (focus first | (simp [go_sem]; done) | (simp [go_sem, *]; done)); (focus first | (simp [go_sem]; done) | (simp [go_sem, *]; done)); rintro e w1 ⟨rfl, hb1⟩; have hX1 : Trio w.heap.size al ah bl bh w1 := Trio.later (by first | exact hX1 | (refine ⟨?_, ?_, ?_, ?_, ?_, ?_, ?_, ?_, ?_, ?_, ?_, ?_, ?_⟩ <;> simp [go_sem])) hb1; have hbw1 : Below w.heap.size w w1 := (by ((refine Below.trans ?_ (hb1.mono ?_)) <;> repeat' first | exact bF _ _ | exact hbw1 | refine bA ?_ ?_ _ | refine bS ?_ ?_ _ | refine bD ?_ | (simp; done) | (simp; omega) | (simp [drew_size]; done) | (simp [drew_size]; omega) | omega)); have hY := hX1; obtain ⟨t0, a0, a1, af0, af1, b0, b1, bf0, bf1, r0, r1, rf0, rf1⟩ := hY)))
  all_goals exact bodyPost_ret (v := .agg #[vI vK al, vI vK (ah - 1)]) (by simp [results, Tryz.results223, go_sem, r0, r1]) rfl ⟨rfl, by repeat' first | exact bF _ _ | exact hbw1 | refine bA ?_ ?_ _ | refine bS ?_ ?_ _ | refine bD ?_ | (simp; done) | (simp; omega) | (simp [drew_size]; done) | (simp [drew_size]; omega) | omega⟩
theorem wo_none (al ah bl bh : Int) (hne : ¬ ah = al) (hp : eqB bl bh al = false) (hq : eqB bl bh ah = false) (w : World) : Calls Tryz.prog 223 #[.agg #[vI vK al, vI vK ah], .agg #[vI vK bl, vI vK bh]] w fun e w' => e = .returned (.agg #[vI vK al, vI vK ah]) ∧ Below w.heap.size w w' := by
  go_enter Tryz.func223, Tryz.ntmps223
  go_wp2_with fail
  go_region_held3 (fun w' => w'.cell? ⟨w.heap.size, 0, none⟩ = some (vI vK al) ∧ w'.cell? ⟨w.heap.size, 1, none⟩ = some (vI vK ah)) (first | (simp [go_sem]; done) | (simp [go_sem, *]; done) | go_keep) (first | (go_at_call 37; refine (one_at _ _).mono ?_; rintro e w' ⟨rfl, rfl⟩) | (go_at_call 224; go_must (refine (cut_is _ bl bh _ _ ?_ ?_ ?_).mono ?_; (focus first | (simp; done) | (simp; omega) | omega); (focus first | (simp [go_sem]; done) | (simp [go_sem, *]; done)); (focus first | (simp [go_sem]; done) | (simp [go_sem, *]; done)); rintro e w1 ⟨rfl, hb1⟩; have hX1 : Trio w.heap.size al ah bl bh w1 := Trio.later (by first | exact hX1 | (refine ⟨?_, ?_, ?_, ?_, ?_, ?_, ?_, ?_, ?_, ?_, ?_, ?_, ?_⟩ <;> simp [go_sem])) hb1; have hbw1 : Below w.heap.size w w1 := (by ((refine Below.trans ?_ (hb1.mono ?_)) <;> repeat' first | exact bF _ _ | exact hbw1 | refine bA ?_ ?_ _ | refine bS ?_ ?_ _ | refine bD ?_ | (simp; done) | (simp; omega) | (simp [drew_size]; done) | (simp [drew_size]; omega) | omega)); have hY := hX1; obtain ⟨t0, a0, a1, af0, af1, b0, b1, bf0, bf1, r0, r1, rf0, rf1⟩ := hY)))
  all_goals go_wp2_with (first | (go_at_call 37; refine (one_at _ _).mono ?_; rintro e w' ⟨rfl, rfl⟩) | (go_at_call 224; go_must (refine (cut_is _ bl bh _ _ ?_ ?_ ?_).mono ?_; (focus first | (simp; done) | (simp; omega) | omega); (focus first | (simp [go_sem]; done) | (simp [go_sem, *]; done)); (focus first | (simp [go_sem]; done) | (simp [go_sem, *]; done)); rintro e w1 ⟨rfl, hb1⟩; have hX1 : Trio w.heap.size al ah bl bh w1 := Trio.later (by first | exact hX1 | (refine ⟨?_, ?_, ?_, ?_, ?_, ?_, ?_, ?_, ?_, ?_, ?_, ?_, ?_⟩ <;> simp [go_sem])) hb1; have hbw1 : Below w.heap.size w w1 := (by ((refine Below.trans ?_ (hb1.mono ?_)) <;> repeat' first | exact bF _ _ | exact hbw1 | refine bA ?_ ?_ _ | refine bS ?_ ?_ _ | refine bD ?_ | (simp; done) | (simp; omega) | (simp [drew_size]; done) | (simp [drew_size]; omega) | omega)); have hY := hX1; obtain ⟨t0, a0, a1, af0, af1, b0, b1, bf0, bf1, r0, r1, rf0, rf1⟩ := hY)))
  all_goals exact bodyPost_ret (v := .agg #[vI vK al, vI vK ah]) (by simp [results, Tryz.results223, go_sem, r0, r1]) rfl ⟨rfl, by repeat' first | exact bF _ _ | exact hbw1 | refine bA ?_ ?_ _ | refine bS ?_ ?_ _ | refine bD ?_ | (simp; done) | (simp; omega) | (simp [drew_size]; done) | (simp [drew_size]; omega) | omega⟩
end Go.Proofs.YtednmkhdehlojaaGreatDoor
namespace Go.Proofs.YtednmkhdehlojaaGreatDoor
open Go.ChangeShapes Go.WideShapes Go.ChangeAt Go.RowKit
set_option linter.unusedVariables false
attribute [local simp] drew_size
def cutV (al ah ol oh : Int) : Int × Int :=
  if al = ah then (al, ah) else if ol = al ∧ oh = al then (al + 1, ah) else if ol = ah ∧ oh = ah then (al, ah - 1) else (al, ah)

theorem without_is (al ah bl bh : Int) (pal : -9223372036854775808 ≤ al) (qah : ah ≤ 9223372036854775807) (oa : al ≤ ah) (w : World) : Calls Tryz.prog 223 #[.agg #[vI vK al, vI vK ah], .agg #[vI vK bl, vI vK bh]] w fun e w' => e = .returned (.agg #[vI vK ((cutV al ah bl bh).1), vI vK ((cutV al ah bl bh).2)]) ∧ Below w.heap.size w w' := by
  unfold cutV
  by_cases h0 : al = ah
  · rw [if_pos h0]
    subst h0
    exact wo_one al bl bh w
  · rw [if_neg h0]
    by_cases h1 : bl = al ∧ bh = al
    · rw [if_pos h1]
      exact wo_low al ah bl bh (fun h => h0 h.symm) (by omega) pal qah ((eqB_iff _ _ _).2 h1) w
    · rw [if_neg h1]
      by_cases h2 : bl = ah ∧ bh = ah
      · rw [if_pos h2]
        exact wo_high al ah bl bh (fun h => h0 h.symm) (by omega) pal qah ((eqB_no _ _ _).2 h1) ((eqB_iff _ _ _).2 h2) w
      · rw [if_neg h2]
        exact wo_none al ah bl bh (fun h => h0 h.symm) ((eqB_no _ _ _).2 h1) ((eqB_no _ _ _).2 h2) w
def Quad (n : Nat) (al ah bl bh : Int) (w : World) : Prop :=
  n + 1 + 1 + 1 < w.heap.size ∧ w.cell? ⟨n, 0, none⟩ = some (vI vK al) ∧ w.cell? ⟨n, 1, none⟩ = some (vI vK ah) ∧ w.frozen? ⟨n, 0, none⟩ = false ∧ w.frozen? ⟨n, 1, none⟩ = false ∧ w.cell? ⟨n + 1, 0, none⟩ = some (vI vK bl) ∧ w.cell? ⟨n + 1, 1, none⟩ = some (vI vK bh) ∧ w.frozen? ⟨n + 1, 0, none⟩ = false ∧ w.frozen? ⟨n + 1, 1, none⟩ = false ∧ w.cell? ⟨n + 1 + 1, 0, none⟩ = some (vI vK 0) ∧ w.cell? ⟨n + 1 + 1, 1, none⟩ = some (vI vK 0) ∧ w.frozen? ⟨n + 1 + 1, 0, none⟩ = false ∧ w.frozen? ⟨n + 1 + 1, 1, none⟩ = false ∧ w.cell? ⟨n + 1 + 1 + 1, 0, none⟩ = some (vI vK 0) ∧ w.cell? ⟨n + 1 + 1 + 1, 1, none⟩ = some (vI vK 0) ∧ w.frozen? ⟨n + 1 + 1 + 1, 0, none⟩ = false ∧ w.frozen? ⟨n + 1 + 1 + 1, 1, none⟩ = false
theorem Quad.later {n : Nat} {al ah bl bh : Int} {W w1 : World} (h : Quad n al ah bl bh W) (hb : Below W.heap.size W w1) : Quad n al ah bl bh w1 := by
  obtain ⟨t0, a0, a1, af0, af1, b0, b1, bf0, bf1, r0, r1, rf0, rf1, s0, s1, sf0, sf1⟩ := h
  have hs := hb.size
  have l0 : n < W.heap.size := by omega
  have l1 : n + 1 < W.heap.size := by omega
  have l2 : n + 1 + 1 < W.heap.size := by omega
  have l3 : n + 1 + 1 + 1 < W.heap.size := by omega
  exact ⟨by omega, (hb.cell (p := ⟨n, 0, none⟩) l0).trans a0, (hb.cell (p := ⟨n, 1, none⟩) l0).trans a1, (hb.frozen (p := ⟨n, 0, none⟩) l0).trans af0, (hb.frozen (p := ⟨n, 1, none⟩) l0).trans af1, (hb.cell (p := ⟨n + 1, 0, none⟩) l1).trans b0, (hb.cell (p := ⟨n + 1, 1, none⟩) l1).trans b1, (hb.frozen (p := ⟨n + 1, 0, none⟩) l1).trans bf0, (hb.frozen (p := ⟨n + 1, 1, none⟩) l1).trans bf1, (hb.cell (p := ⟨n + 1 + 1, 0, none⟩) l2).trans r0, (hb.cell (p := ⟨n + 1 + 1, 1, none⟩) l2).trans r1, (hb.frozen (p := ⟨n + 1 + 1, 0, none⟩) l2).trans rf0, (hb.frozen (p := ⟨n + 1 + 1, 1, none⟩) l2).trans rf1, (hb.cell (p := ⟨n + 1 + 1 + 1, 0, none⟩) l3).trans s0, (hb.cell (p := ⟨n + 1 + 1 + 1, 1, none⟩) l3).trans s1, (hb.frozen (p := ⟨n + 1 + 1 + 1, 0, none⟩) l3).trans sf0, (hb.frozen (p := ⟨n + 1 + 1 + 1, 1, none⟩) l3).trans sf1⟩
theorem apart_no (al : Int) (w : World) : Calls Tryz.prog 215 #[.agg #[vI vK al, vI vK al], .agg #[vI vK al, vI vK al]] w fun e w' => e = .returned (.tuple #[.agg #[vI vK 0, vI vK 0], .agg #[vI vK 0, vI vK 0], .bool false]) ∧ Below w.heap.size w w' := by
  go_enter Tryz.func215, Tryz.ntmps215
  go_wp2_with fail
  go_region_held3 (fun w' => w'.cell? ⟨w.heap.size, 0, none⟩ = some (vI vK al) ∧ w'.cell? ⟨w.heap.size, 1, none⟩ = some (vI vK al) ∧ w'.cell? ⟨w.heap.size + 1, 0, none⟩ = some (vI vK al) ∧ w'.cell? ⟨w.heap.size + 1, 1, none⟩ = some (vI vK al)) (first | (simp [go_sem]; done) | (simp [go_sem, *]; done) | go_keep) (first | (go_at_call 37; refine (one_at _ _).mono ?_; rintro e w' ⟨rfl, rfl⟩))
  all_goals go_wp2
  all_goals exact bodyPost_ret (v := .tuple #[.agg #[vI vK 0, vI vK 0], .agg #[vI vK 0, vI vK 0], .bool false]) (by simp [results, Tryz.results215, go_sem]) rfl ⟨rfl, by repeat' first | exact bF _ _ | refine bA ?_ ?_ _ | refine bS ?_ ?_ _ | refine bD ?_ | refine below_drewN ?_ _ | (simp; done) | (simp; omega) | (simp [drew_size]; done) | (simp [drew_size]; omega) | omega⟩
attribute [local simp] drewN_size
theorem apart_y2 (al ah bl bh : Int) (pal : -9223372036854775808 ≤ al) (qal : al ≤ 9223372036854775807) (pah : -9223372036854775808 ≤ ah) (qah : ah ≤ 9223372036854775807) (pbl : -9223372036854775808 ≤ bl) (qbl : bl ≤ 9223372036854775807) (pbh : -9223372036854775808 ≤ bh) (qbh : bh ≤ 9223372036854775807) (oa : al ≤ ah) (ob : bl ≤ bh) (hne : ¬ al = bl) (w : World) : Calls Tryz.prog 215 #[.agg #[vI vK al, vI vK ah], .agg #[vI vK bl, vI vK bh]] w fun e w' => e = .returned (.tuple #[.agg #[vI vK ((cutV al ah bl bh).1), vI vK ((cutV al ah bl bh).2)], .agg #[vI vK ((cutV bl bh al ah).1), vI vK ((cutV bl bh al ah).2)], .bool true]) ∧ Below w.heap.size w w' := by
  go_enter Tryz.func215, Tryz.ntmps215
  go_wp2_with fail
  go_quiet (fail)
  go_wp2_with fail
  go_region_held3 (fun w' => w'.cell? ⟨w.heap.size, 0, none⟩ = some (vI vK al) ∧ w'.cell? ⟨w.heap.size, 1, none⟩ = some (vI vK ah) ∧ w'.cell? ⟨w.heap.size + 1, 0, none⟩ = some (vI vK bl) ∧ w'.cell? ⟨w.heap.size + 1, 1, none⟩ = some (vI vK bh)) (first | (simp [go_sem]; done) | (simp [go_sem, *]; done) | go_keep) (first | (go_at_call 37; refine (one_at _ _).mono ?_; rintro e w' ⟨rfl, rfl⟩) | (go_at_call 223; go_must (refine (without_is _ _ _ _ ?_ ?_ ?_ _).mono ?_; omega; omega; omega; rintro e w1 ⟨rfl, hb1⟩; have hX1 : Quad w.heap.size al ah bl bh w1 := Quad.later (by first | exact hX1 | (refine ⟨?_, ?_, ?_, ?_, ?_, ?_, ?_, ?_, ?_, ?_, ?_, ?_, ?_, ?_, ?_, ?_, ?_⟩ <;> simp [go_sem])) hb1; have hbw1 : Below w.heap.size w w1 := (by ((refine Below.trans ?_ (hb1.mono ?_)) <;> repeat' first | exact bF _ _ | exact hbw1 | refine bA ?_ ?_ _ | refine bS ?_ ?_ _ | refine bD ?_ | refine below_drewN ?_ _ | (simp; done) | (simp; omega) | (simp [drew_size]; done) | (simp [drew_size]; omega) | omega)); have hY := hX1; obtain ⟨t0, a0, a1, af0, af1, b0, b1, bf0, bf1, r0, r1, rf0, rf1, s0, s1, sf0, sf1⟩ := hY)))
  all_goals go_wp2_with fail
  all_goals exact bodyPost_ret (v := .tuple #[.agg #[vI vK ((cutV al ah bl bh).1), vI vK ((cutV al ah bl bh).2)], .agg #[vI vK ((cutV bl bh al ah).1), vI vK ((cutV bl bh al ah).2)], .bool true]) (by simp [results, Tryz.results215, go_sem, r0, r1, s0, s1]) rfl ⟨rfl, by repeat' first | exact bF _ _ | exact hbw1 | refine bA ?_ ?_ _ | refine bS ?_ ?_ _ | refine bD ?_ | refine below_drewN ?_ _ | (simp; done) | (simp; omega) | (simp [drew_size]; done) | (simp [drew_size]; omega) | omega⟩
theorem apart_y3 (al ah bh : Int) (pal : -9223372036854775808 ≤ al) (qal : al ≤ 9223372036854775807) (pah : -9223372036854775808 ≤ ah) (qah : ah ≤ 9223372036854775807) (pbh : -9223372036854775808 ≤ bh) (qbh : bh ≤ 9223372036854775807) (oa : al ≤ ah) (ob : al ≤ bh) (hne : ¬ ah = bh) (w : World) : Calls Tryz.prog 215 #[.agg #[vI vK al, vI vK ah], .agg #[vI vK al, vI vK bh]] w fun e w' => e = .returned (.tuple #[.agg #[vI vK ((cutV al ah al bh).1), vI vK ((cutV al ah al bh).2)], .agg #[vI vK ((cutV al bh al ah).1), vI vK ((cutV al bh al ah).2)], .bool true]) ∧ Below w.heap.size w w' := by
  go_enter Tryz.func215, Tryz.ntmps215
  go_wp2_with fail
  go_quiet (fail)
  go_wp2_with fail
  go_region_held3 (fun w' => w'.cell? ⟨w.heap.size, 0, none⟩ = some (vI vK al) ∧ w'.cell? ⟨w.heap.size, 1, none⟩ = some (vI vK ah) ∧ w'.cell? ⟨w.heap.size + 1, 0, none⟩ = some (vI vK al) ∧ w'.cell? ⟨w.heap.size + 1, 1, none⟩ = some (vI vK bh)) (first | (simp [go_sem]; done) | (simp [go_sem, *]; done) | go_keep) (first | (go_at_call 37; refine (one_at _ _).mono ?_; rintro e w' ⟨rfl, rfl⟩) | (go_at_call 223; go_must (refine (without_is _ _ _ _ ?_ ?_ ?_ _).mono ?_; omega; omega; omega; rintro e w1 ⟨rfl, hb1⟩; have hX1 : Quad w.heap.size al ah al bh w1 := Quad.later (by first | exact hX1 | (refine ⟨?_, ?_, ?_, ?_, ?_, ?_, ?_, ?_, ?_, ?_, ?_, ?_, ?_, ?_, ?_, ?_, ?_⟩ <;> simp [go_sem])) hb1; have hbw1 : Below w.heap.size w w1 := (by ((refine Below.trans ?_ (hb1.mono ?_)) <;> repeat' first | exact bF _ _ | exact hbw1 | refine bA ?_ ?_ _ | refine bS ?_ ?_ _ | refine bD ?_ | refine below_drewN ?_ _ | (simp; done) | (simp; omega) | (simp [drew_size]; done) | (simp [drew_size]; omega) | omega)); have hY := hX1; obtain ⟨t0, a0, a1, af0, af1, b0, b1, bf0, bf1, r0, r1, rf0, rf1, s0, s1, sf0, sf1⟩ := hY)))
  all_goals go_wp2_with fail
  all_goals exact bodyPost_ret (v := .tuple #[.agg #[vI vK ((cutV al ah al bh).1), vI vK ((cutV al ah al bh).2)], .agg #[vI vK ((cutV al bh al ah).1), vI vK ((cutV al bh al ah).2)], .bool true]) (by simp [results, Tryz.results215, go_sem, r0, r1, s0, s1]) rfl ⟨rfl, by repeat' first | exact bF _ _ | exact hbw1 | refine bA ?_ ?_ _ | refine bS ?_ ?_ _ | refine bD ?_ | refine below_drewN ?_ _ | (simp; done) | (simp; omega) | (simp [drew_size]; done) | (simp [drew_size]; omega) | omega⟩
theorem apart_y1 (al ah : Int) (pal : -9223372036854775808 ≤ al) (qal : al ≤ 9223372036854775807) (pah : -9223372036854775808 ≤ ah) (qah : ah ≤ 9223372036854775807) (oa : al ≤ ah) (hne : ¬ ah = al) (w : World) : Calls Tryz.prog 215 #[.agg #[vI vK al, vI vK ah], .agg #[vI vK al, vI vK ah]] w fun e w' => e = .returned (.tuple #[.agg #[vI vK ((cutV al ah al ah).1), vI vK ((cutV al ah al ah).2)], .agg #[vI vK ((cutV al ah al ah).1), vI vK ((cutV al ah al ah).2)], .bool true]) ∧ Below w.heap.size w w' := by
  go_enter Tryz.func215, Tryz.ntmps215
  go_wp2_with fail
  go_region_held3 (fun w' => w'.cell? ⟨w.heap.size, 0, none⟩ = some (vI vK al) ∧ w'.cell? ⟨w.heap.size, 1, none⟩ = some (vI vK ah) ∧ w'.cell? ⟨w.heap.size + 1, 0, none⟩ = some (vI vK al) ∧ w'.cell? ⟨w.heap.size + 1, 1, none⟩ = some (vI vK ah)) (first | (simp [go_sem]; done) | (simp [go_sem, *]; done) | go_keep) (first | (go_at_call 37; refine (one_at _ _).mono ?_; rintro e w' ⟨rfl, rfl⟩))
  all_goals go_wp2_with fail
  go_region_held3 (fun w' => w'.cell? ⟨w.heap.size, 0, none⟩ = some (vI vK al) ∧ w'.cell? ⟨w.heap.size, 1, none⟩ = some (vI vK ah) ∧ w'.cell? ⟨w.heap.size + 1, 0, none⟩ = some (vI vK al) ∧ w'.cell? ⟨w.heap.size + 1, 1, none⟩ = some (vI vK ah)) (first | (simp [go_sem]; done) | (simp [go_sem, *]; done) | go_keep) (first | (go_at_call 37; refine (one_at _ _).mono ?_; rintro e w' ⟨rfl, rfl⟩) | (go_at_call 223; go_must (refine (without_is _ _ _ _ ?_ ?_ ?_ _).mono ?_; omega; omega; omega; rintro e w1 ⟨rfl, hb1⟩; have hX1 : Quad w.heap.size al ah al ah w1 := Quad.later (by first | exact hX1 | (refine ⟨?_, ?_, ?_, ?_, ?_, ?_, ?_, ?_, ?_, ?_, ?_, ?_, ?_, ?_, ?_, ?_, ?_⟩ <;> simp [go_sem])) hb1; have hbw1 : Below w.heap.size w w1 := (by ((refine Below.trans ?_ (hb1.mono ?_)) <;> repeat' first | exact bF _ _ | exact hbw1 | refine bA ?_ ?_ _ | refine bS ?_ ?_ _ | refine bD ?_ | refine below_drewN ?_ _ | (simp; done) | (simp; omega) | (simp [drew_size]; done) | (simp [drew_size]; omega) | omega)); have hY := hX1; obtain ⟨t0, a0, a1, af0, af1, b0, b1, bf0, bf1, r0, r1, rf0, rf1, s0, s1, sf0, sf1⟩ := hY)))
  all_goals go_wp2_with fail
  all_goals exact bodyPost_ret (v := .tuple #[.agg #[vI vK ((cutV al ah al ah).1), vI vK ((cutV al ah al ah).2)], .agg #[vI vK ((cutV al ah al ah).1), vI vK ((cutV al ah al ah).2)], .bool true]) (by simp [results, Tryz.results215, go_sem, r0, r1, s0, s1]) rfl ⟨rfl, by repeat' first | exact bF _ _ | exact hbw1 | refine bA ?_ ?_ _ | refine bS ?_ ?_ _ | refine bD ?_ | refine below_drewN ?_ _ | (simp; done) | (simp; omega) | (simp [drew_size]; done) | (simp [drew_size]; omega) | omega⟩
end Go.Proofs.YtednmkhdehlojaaGreatDoor
namespace Go.Proofs.YtednmkhdehlojaaGreatDoor
open Go.ChangeShapes Go.WideShapes Go.ChangeAt Go.RowKit
set_option linter.unusedVariables false
attribute [local simp] drew_size drewN_size setCell_size
theorem bd_later_box {W w1 : World} (hb : Below W.heap.size W w1) (n : Nat) (h : n < W.heap.size) : n < w1.heap.size ∧ w1.cell? ⟨n, 0, none⟩ = W.cell? ⟨n, 0, none⟩ ∧ w1.cell? ⟨n, 1, none⟩ = W.cell? ⟨n, 1, none⟩ ∧ w1.frozen? ⟨n, 0, none⟩ = W.frozen? ⟨n, 0, none⟩ ∧ w1.frozen? ⟨n, 1, none⟩ = W.frozen? ⟨n, 1, none⟩ :=
  ⟨Nat.lt_of_lt_of_le h hb.size, hb.cell (p := ⟨n, 0, none⟩) h, hb.cell (p := ⟨n, 1, none⟩) h, hb.frozen (p := ⟨n, 0, none⟩) h, hb.frozen (p := ⟨n, 1, none⟩) h⟩
def meetV (al ah bl bh : Int) : (Int × Int) × Bool := if max al bl ≤ min ah bh then ((max al bl, min ah bh), true) else ((0, 0), false)
def belV (g al ah bl bh : Int) : (Int × Int) × (Int × Int) × Bool := if al ≤ ah ∧ al + g ≤ bh then ((al, min ah (bh - g)), (max bl (al + g), bh), true) else ((0, 0), (0, 0), false)
def unsV (g al ah bl bh : Int) : (Int × Int) × (Int × Int) × Bool := if bl < 0 then ((al, ah), (bl, bh), true) else belV g (max al 0) ah bl bh
def apV (al ah bl bh : Int) : (Int × Int) × (Int × Int) × Bool := if al = bl ∧ ah = bh ∧ ah = al then ((0, 0), (0, 0), false) else (cutV al ah bl bh, cutV bl bh al ah, true)
def swapV (x : (Int × Int) × (Int × Int) × Bool) : (Int × Int) × (Int × Int) × Bool := (x.2.1, x.1, x.2.2)
def narV (c al ah bl bh : Int) : (Int × Int) × (Int × Int) × Bool :=
  if c = 15 then ((meetV al ah bl bh).1, (meetV al ah bl bh).1, (meetV al ah bl bh).2) else if c = 16 then apV al ah bl bh
  else if c = 17 then swapV (unsV 1 bl bh al ah) else if c = 18 then swapV (unsV 0 bl bh al ah) else if c = 19 then unsV 1 al ah bl bh else if c = 20 then unsV 0 al ah bl bh
  else if c = 21 then swapV (belV 1 bl bh al ah) else if c = 22 then swapV (belV 0 bl bh al ah) else if c = 23 then belV 1 al ah bl bh else if c = 24 then belV 0 al ah bl bh
  else ((al, ah), (bl, bh), true)
theorem narV_15 (al ah bl bh : Int) : narV 15 al ah bl bh = ((meetV al ah bl bh).1, (meetV al ah bl bh).1, (meetV al ah bl bh).2) := by simp only [narV, reduceIte, Int.reduceEq]
theorem narV_16 (al ah bl bh : Int) : narV 16 al ah bl bh = apV al ah bl bh := by simp only [narV, reduceIte, Int.reduceEq]
theorem narV_17 (al ah bl bh : Int) : narV 17 al ah bl bh = swapV (unsV 1 bl bh al ah) := by simp only [narV, reduceIte, Int.reduceEq]
theorem narV_18 (al ah bl bh : Int) : narV 18 al ah bl bh = swapV (unsV 0 bl bh al ah) := by simp only [narV, reduceIte, Int.reduceEq]
theorem narV_19 (al ah bl bh : Int) : narV 19 al ah bl bh = unsV 1 al ah bl bh := by simp only [narV, reduceIte, Int.reduceEq]
theorem narV_20 (al ah bl bh : Int) : narV 20 al ah bl bh = unsV 0 al ah bl bh := by simp only [narV, reduceIte, Int.reduceEq]
theorem narV_21 (al ah bl bh : Int) : narV 21 al ah bl bh = swapV (belV 1 bl bh al ah) := by simp only [narV, reduceIte, Int.reduceEq]
theorem narV_22 (al ah bl bh : Int) : narV 22 al ah bl bh = swapV (belV 0 bl bh al ah) := by simp only [narV, reduceIte, Int.reduceEq]
theorem narV_23 (al ah bl bh : Int) : narV 23 al ah bl bh = belV 1 al ah bl bh := by simp only [narV, reduceIte, Int.reduceEq]
theorem narV_24 (al ah bl bh : Int) : narV 24 al ah bl bh = belV 0 al ah bl bh := by simp only [narV, reduceIte, Int.reduceEq]
theorem narV_no {c : Int} (al ah bl bh : Int) (h : c < 15 ∨ 24 < c) : narV c al ah bl bh = ((al, ah), (bl, bh), true) := by
  have e : ∀ k : Int, 15 ≤ k → k ≤ 24 → c ≠ k := fun k h1 h2 => by omega
  unfold narV
  rw [if_neg (e 15 (by decide) (by decide)), if_neg (e 16 (by decide) (by decide)), if_neg (e 17 (by decide) (by decide)), if_neg (e 18 (by decide) (by decide)), if_neg (e 19 (by decide) (by decide)), if_neg (e 20 (by decide) (by decide)), if_neg (e 21 (by decide) (by decide)), if_neg (e 22 (by decide) (by decide)), if_neg (e 23 (by decide) (by decide)), if_neg (e 24 (by decide) (by decide))]
theorem meet_is (al ah bl bh : Int) (w : World) : Calls Tryz.prog 214 #[.agg #[vI vK al, vI vK ah], .agg #[vI vK bl, vI vK bh]] w fun e w' => e = .returned (.tuple #[.agg #[vI vK (((meetV al ah bl bh).1).1), vI vK (((meetV al ah bl bh).1).2)], .bool ((meetV al ah bl bh).2)]) ∧ Below w.heap.size w w' := by
  unfold meetV
  by_cases h : max al bl ≤ min ah bh
  · rw [if_pos h]
    exact meet_yes al ah bl bh h w
  · rw [if_neg h]
    exact meet_no al ah bl bh (by omega) w
theorem asks_19 {x y : Int} (h0 : 0 ≤ x) (h1 : x ≤ 9223372036854775807) (h2 : 0 ≤ y) (h3 : y ≤ 9223372036854775807) : isV 19 x y = decide (x < y) := by
  rw [isV_19]; have a := uns_pos h0 h1; have b := uns_pos h2 h3; congr 1; rw [eq_iff_iff]; omega
theorem asks_20 {x y : Int} (h0 : 0 ≤ x) (h1 : x ≤ 9223372036854775807) (h2 : 0 ≤ y) (h3 : y ≤ 9223372036854775807) : isV 20 x y = decide (x ≤ y) := by
  rw [isV_20]; have a := uns_pos h0 h1; have b := uns_pos h2 h3; congr 1; rw [eq_iff_iff]; omega
theorem below_19 (al ah bl bh : Int) (pal : -9223372036854775808 ≤ al) (qal : al ≤ 9223372036854775807) (pah : -9223372036854775808 ≤ ah) (qah : ah ≤ 9223372036854775807) (pbl : -9223372036854775808 ≤ bl) (qbl : bl ≤ 9223372036854775807) (pbh : -9223372036854775808 ≤ bh) (qbh : bh ≤ 9223372036854775807) (oa : al ≤ ah) (ob : bl ≤ bh) (w : World) : Calls Tryz.prog 216 #[vI vK 19, .agg #[vI vK al, vI vK ah], .agg #[vI vK bl, vI vK bh]] w fun e w' => e = .returned (.tuple #[.agg #[vI vK (((unsV 1 al ah bl bh).1).1), vI vK (((unsV 1 al ah bl bh).1).2)], .agg #[vI vK (((unsV 1 al ah bl bh).2.1).1), vI vK (((unsV 1 al ah bl bh).2.1).2)], .bool ((unsV 1 al ah bl bh).2.2)]) ∧ Below w.heap.size w w' := by
  unfold unsV
  by_cases hb : bl < 0
  · rw [if_pos hb]
    exact below_19n al ah bl bh hb w
  rw [if_neg hb]
  have hb0 : 0 ≤ bl := by omega
  have hi := asks_19 (x := max al 0) (y := bh) (by omega) (by omega) (by omega) qbh
  unfold belV
  by_cases h : max al 0 ≤ ah
  · by_cases h2 : max al 0 < bh
    · rw [if_pos ⟨h, by omega⟩]
      exact below_19t al ah bl bh hb0 h (by rw [hi]; exact decide_eq_true h2) (by omega) (by omega) (by omega) (by omega) w
    · rw [if_neg (fun x => h2 (by omega))]
      exact below_19f al ah bl bh hb0 h (by rw [hi]; exact decide_eq_false h2) w
  · rw [if_neg (fun x => h x.1)]
    exact below_19e al ah bl bh hb0 (by omega) w
theorem below_20 (al ah bl bh : Int) (pal : -9223372036854775808 ≤ al) (qal : al ≤ 9223372036854775807) (pah : -9223372036854775808 ≤ ah) (qah : ah ≤ 9223372036854775807) (pbl : -9223372036854775808 ≤ bl) (qbl : bl ≤ 9223372036854775807) (pbh : -9223372036854775808 ≤ bh) (qbh : bh ≤ 9223372036854775807) (oa : al ≤ ah) (ob : bl ≤ bh) (w : World) : Calls Tryz.prog 216 #[vI vK 20, .agg #[vI vK al, vI vK ah], .agg #[vI vK bl, vI vK bh]] w fun e w' => e = .returned (.tuple #[.agg #[vI vK (((unsV 0 al ah bl bh).1).1), vI vK (((unsV 0 al ah bl bh).1).2)], .agg #[vI vK (((unsV 0 al ah bl bh).2.1).1), vI vK (((unsV 0 al ah bl bh).2.1).2)], .bool ((unsV 0 al ah bl bh).2.2)]) ∧ Below w.heap.size w w' := by
  unfold unsV
  by_cases hb : bl < 0
  · rw [if_pos hb]
    exact below_20n al ah bl bh hb w
  rw [if_neg hb]
  have hb0 : 0 ≤ bl := by omega
  have hi := asks_20 (x := max al 0) (y := bh) (by omega) (by omega) (by omega) qbh
  unfold belV
  by_cases h : max al 0 ≤ ah
  · by_cases h2 : max al 0 ≤ bh
    · rw [if_pos ⟨h, by omega⟩]
      rw [show bh - 0 = bh by omega, show max al 0 + 0 = max al 0 by omega]
      exact below_20t al ah bl bh hb0 h (by rw [hi]; exact decide_eq_true h2) (by omega) (by omega) (by omega) (by omega) w
    · rw [if_neg (fun x => h2 (by omega))]
      exact below_20f al ah bl bh hb0 h (by rw [hi]; exact decide_eq_false h2) w
  · rw [if_neg (fun x => h x.1)]
    exact below_20e al ah bl bh hb0 (by omega) w
theorem below_23 (al ah bl bh : Int) (pal : -9223372036854775808 ≤ al) (qal : al ≤ 9223372036854775807) (pah : -9223372036854775808 ≤ ah) (qah : ah ≤ 9223372036854775807) (pbl : -9223372036854775808 ≤ bl) (qbl : bl ≤ 9223372036854775807) (pbh : -9223372036854775808 ≤ bh) (qbh : bh ≤ 9223372036854775807) (oa : al ≤ ah) (ob : bl ≤ bh) (w : World) : Calls Tryz.prog 216 #[vI vK 23, .agg #[vI vK al, vI vK ah], .agg #[vI vK bl, vI vK bh]] w fun e w' => e = .returned (.tuple #[.agg #[vI vK (((belV 1 al ah bl bh).1).1), vI vK (((belV 1 al ah bl bh).1).2)], .agg #[vI vK (((belV 1 al ah bl bh).2.1).1), vI vK (((belV 1 al ah bl bh).2.1).2)], .bool ((belV 1 al ah bl bh).2.2)]) ∧ Below w.heap.size w w' := by
  have hi := isV_23 al bh
  unfold belV
  by_cases h : al ≤ ah
  · by_cases h2 : al < bh
    · rw [if_pos ⟨h, by omega⟩]
      exact below_23t al ah bl bh h (by rw [hi]; exact decide_eq_true h2) (by omega) (by omega) (by omega) (by omega) w
    · rw [if_neg (fun x => h2 (by omega))]
      exact below_23f al ah bl bh h (by rw [hi]; exact decide_eq_false h2) w
  · rw [if_neg (fun x => h x.1)]
    exact below_23e al ah bl bh (by omega) w
theorem below_24 (al ah bl bh : Int) (pal : -9223372036854775808 ≤ al) (qal : al ≤ 9223372036854775807) (pah : -9223372036854775808 ≤ ah) (qah : ah ≤ 9223372036854775807) (pbl : -9223372036854775808 ≤ bl) (qbl : bl ≤ 9223372036854775807) (pbh : -9223372036854775808 ≤ bh) (qbh : bh ≤ 9223372036854775807) (oa : al ≤ ah) (ob : bl ≤ bh) (w : World) : Calls Tryz.prog 216 #[vI vK 24, .agg #[vI vK al, vI vK ah], .agg #[vI vK bl, vI vK bh]] w fun e w' => e = .returned (.tuple #[.agg #[vI vK (((belV 0 al ah bl bh).1).1), vI vK (((belV 0 al ah bl bh).1).2)], .agg #[vI vK (((belV 0 al ah bl bh).2.1).1), vI vK (((belV 0 al ah bl bh).2.1).2)], .bool ((belV 0 al ah bl bh).2.2)]) ∧ Below w.heap.size w w' := by
  have hi := isV_24 al bh
  unfold belV
  by_cases h : al ≤ ah
  · by_cases h2 : al ≤ bh
    · rw [if_pos ⟨h, by omega⟩]
      rw [show bh - 0 = bh by omega, show al + 0 = al by omega]
      exact below_24t al ah bl bh h (by rw [hi]; exact decide_eq_true h2) (by omega) (by omega) (by omega) (by omega) w
    · rw [if_neg (fun x => h2 (by omega))]
      exact below_24f al ah bl bh h (by rw [hi]; exact decide_eq_false h2) w
  · rw [if_neg (fun x => h x.1)]
    exact below_24e al ah bl bh (by omega) w
theorem apart_is (al ah bl bh : Int) (pal : -9223372036854775808 ≤ al) (qal : al ≤ 9223372036854775807) (pah : -9223372036854775808 ≤ ah) (qah : ah ≤ 9223372036854775807) (pbl : -9223372036854775808 ≤ bl) (qbl : bl ≤ 9223372036854775807) (pbh : -9223372036854775808 ≤ bh) (qbh : bh ≤ 9223372036854775807) (oa : al ≤ ah) (ob : bl ≤ bh) (w : World) : Calls Tryz.prog 215 #[.agg #[vI vK al, vI vK ah], .agg #[vI vK bl, vI vK bh]] w fun e w' => e = .returned (.tuple #[.agg #[vI vK (((apV al ah bl bh).1).1), vI vK (((apV al ah bl bh).1).2)], .agg #[vI vK (((apV al ah bl bh).2.1).1), vI vK (((apV al ah bl bh).2.1).2)], .bool ((apV al ah bl bh).2.2)]) ∧ Below w.heap.size w w' := by
  unfold apV
  by_cases h0 : al = bl
  · subst h0
    by_cases h1 : ah = bh
    · subst h1
      by_cases h2 : ah = al
      · rw [if_pos ⟨rfl, rfl, h2⟩]
        subst h2
        exact apart_no ah w
      · rw [if_neg (fun x => h2 x.2.2)]
        exact apart_y1 al ah pal qal pah qah oa h2 w
    · rw [if_neg (fun x => h1 x.2.1)]
      exact apart_y3 al ah bh pal qal pah qah pbh qbh oa ob h1 w
  · rw [if_neg (fun x => h0 x.1)]
    exact apart_y2 al ah bl bh pal qal pah qah pbl qbl pbh qbh oa ob h0 w
def Outs (n L U : Nat) (x0 x1 y0 y1 : Int) (w : World) : Prop :=
  w.cell? ⟨n + 1 + 1, 0, none⟩ = some (vI vK 0) ∧ w.cell? ⟨n + 1 + 1, 1, none⟩ = some (vI vK 0) ∧ w.frozen? ⟨n + 1 + 1, 0, none⟩ = false ∧ w.frozen? ⟨n + 1 + 1, 1, none⟩ = false
  ∧ w.cell? ⟨n + 1 + 1 + 1, 0, none⟩ = some (vI vK 0) ∧ w.cell? ⟨n + 1 + 1 + 1, 1, none⟩ = some (vI vK 0) ∧ w.frozen? ⟨n + 1 + 1 + 1, 0, none⟩ = false ∧ w.frozen? ⟨n + 1 + 1 + 1, 1, none⟩ = false
  ∧ w.cell? ⟨L, 0, none⟩ = some (vI vK x0) ∧ w.cell? ⟨L, 1, none⟩ = some (vI vK x1) ∧ w.cell? ⟨U, 0, none⟩ = some (vI vK y0) ∧ w.cell? ⟨U, 1, none⟩ = some (vI vK y1)
  ∧ L ≠ n + 1 + 1 ∧ L ≠ n + 1 + 1 + 1 ∧ U ≠ n + 1 + 1 ∧ U ≠ n + 1 + 1 + 1
theorem nar_15 (al ah bl bh : Int) (pal : -9223372036854775808 ≤ al) (qal : al ≤ 9223372036854775807) (pah : -9223372036854775808 ≤ ah) (qah : ah ≤ 9223372036854775807) (pbl : -9223372036854775808 ≤ bl) (qbl : bl ≤ 9223372036854775807) (pbh : -9223372036854775808 ≤ bh) (qbh : bh ≤ 9223372036854775807) (oa : al ≤ ah) (ob : bl ≤ bh) (w : World) : Calls Tryz.prog 198 #[vI vK 15, .agg #[vI vK al, vI vK ah], .agg #[vI vK bl, vI vK bh]] w fun e w' => e = .returned (.tuple #[.agg #[vI vK (((meetV al ah bl bh).1).1), vI vK (((meetV al ah bl bh).1).2)], .agg #[vI vK (((meetV al ah bl bh).1).1), vI vK (((meetV al ah bl bh).1).2)], .bool ((meetV al ah bl bh).2)]) ∧ Below w.heap.size w w' := by
  go_enter Tryz.func198, Tryz.ntmps198
  go_wp2_with (first | (go_at_call 214; go_must (refine (meet_is _ _ _ _ _).mono ?_; rintro e w1 ⟨rfl, hb1⟩; have hX1 : Quad w.heap.size al ah bl bh w1 := Quad.later (by first | exact hX1 | (refine ⟨?_, ?_, ?_, ?_, ?_, ?_, ?_, ?_, ?_, ?_, ?_, ?_, ?_, ?_, ?_, ?_, ?_⟩ <;> simp [go_sem])) hb1; have hbw1 : Below w.heap.size w w1 := (by ((refine Below.trans ?_ (hb1.mono ?_)) <;> repeat' first | exact bF _ _ | exact hbw1 | refine bA ?_ ?_ _ | refine bS ?_ ?_ _ | refine bD ?_ | refine below_drewN ?_ _ | (simp; done) | (simp; omega) | (simp [drew_size]; done) | (simp [drew_size]; omega) | omega)); have hY := hX1; obtain ⟨t0, a0, a1, af0, af1, b0, b1, bf0, bf1, r0, r1, rf0, rf1, s0, s1, sf0, sf1⟩ := hY; have u2 : w.heap.size + 1 + 1 < w1.heap.size := (by omega); have u0 : w.heap.size < w1.heap.size := (by omega); have u1 : w.heap.size + 1 < w1.heap.size := (by omega))))
  all_goals go_region
  all_goals go_wp2
  all_goals exact bodyPost_ret (v := .tuple #[.agg #[vI vK (((meetV al ah bl bh).1).1), vI vK (((meetV al ah bl bh).1).2)], .agg #[vI vK (((meetV al ah bl bh).1).1), vI vK (((meetV al ah bl bh).1).2)], .bool ((meetV al ah bl bh).2)]) (by simp [results, Tryz.results198, go_sem, r0, r1, s0, s1, u2, t0]) rfl ⟨rfl, by repeat' first | exact bF _ _ | exact hbw1 | refine bA ?_ ?_ _ | refine bS ?_ ?_ _ | refine bD ?_ | refine below_drewN ?_ _ | (simp; done) | (simp; omega) | (simp [drew_size]; done) | (simp [drew_size]; omega) | omega⟩
theorem nar_16 (al ah bl bh : Int) (pal : -9223372036854775808 ≤ al) (qal : al ≤ 9223372036854775807) (pah : -9223372036854775808 ≤ ah) (qah : ah ≤ 9223372036854775807) (pbl : -9223372036854775808 ≤ bl) (qbl : bl ≤ 9223372036854775807) (pbh : -9223372036854775808 ≤ bh) (qbh : bh ≤ 9223372036854775807) (oa : al ≤ ah) (ob : bl ≤ bh) (w : World) : Calls Tryz.prog 198 #[vI vK 16, .agg #[vI vK al, vI vK ah], .agg #[vI vK bl, vI vK bh]] w fun e w' => e = .returned (.tuple #[.agg #[vI vK (((apV al ah bl bh).1).1), vI vK (((apV al ah bl bh).1).2)], .agg #[vI vK (((apV al ah bl bh).2.1).1), vI vK (((apV al ah bl bh).2.1).2)], .bool ((apV al ah bl bh).2.2)]) ∧ Below w.heap.size w w' := by
  go_enter Tryz.func198, Tryz.ntmps198
  go_wp2_with (first | (go_at_call 215; go_must (refine (apart_is _ _ _ _ pal qal pah qah pbl qbl pbh qbh oa ob _).mono ?_; rintro e w1 ⟨rfl, hb1⟩; have hX1 : Quad w.heap.size al ah bl bh w1 := Quad.later (by first | exact hX1 | (refine ⟨?_, ?_, ?_, ?_, ?_, ?_, ?_, ?_, ?_, ?_, ?_, ?_, ?_, ?_, ?_, ?_, ?_⟩ <;> simp [go_sem])) hb1; have hbw1 : Below w.heap.size w w1 := (by ((refine Below.trans ?_ (hb1.mono ?_)) <;> repeat' first | exact bF _ _ | exact hbw1 | refine bA ?_ ?_ _ | refine bS ?_ ?_ _ | refine bD ?_ | refine below_drewN ?_ _ | (simp; done) | (simp; omega) | (simp [drew_size]; done) | (simp [drew_size]; omega) | omega)); have hY := hX1; obtain ⟨t0, a0, a1, af0, af1, b0, b1, bf0, bf1, r0, r1, rf0, rf1, s0, s1, sf0, sf1⟩ := hY; have u2 : w.heap.size + 1 + 1 < w1.heap.size := (by omega); have u0 : w.heap.size < w1.heap.size := (by omega); have u1 : w.heap.size + 1 < w1.heap.size := (by omega))))
  all_goals exact bodyPost_ret (v := .tuple #[.agg #[vI vK (((apV al ah bl bh).1).1), vI vK (((apV al ah bl bh).1).2)], .agg #[vI vK (((apV al ah bl bh).2.1).1), vI vK (((apV al ah bl bh).2.1).2)], .bool ((apV al ah bl bh).2.2)]) (by simp [results, Tryz.results198, go_sem, r0, r1, s0, s1]) rfl ⟨rfl, by repeat' first | exact bF _ _ | exact hbw1 | refine bA ?_ ?_ _ | refine bS ?_ ?_ _ | refine bD ?_ | refine below_drewN ?_ _ | (simp; done) | (simp; omega) | (simp [drew_size]; done) | (simp [drew_size]; omega) | omega⟩
theorem nar_19 (al ah bl bh : Int) (pal : -9223372036854775808 ≤ al) (qal : al ≤ 9223372036854775807) (pah : -9223372036854775808 ≤ ah) (qah : ah ≤ 9223372036854775807) (pbl : -9223372036854775808 ≤ bl) (qbl : bl ≤ 9223372036854775807) (pbh : -9223372036854775808 ≤ bh) (qbh : bh ≤ 9223372036854775807) (oa : al ≤ ah) (ob : bl ≤ bh) (w : World) : Calls Tryz.prog 198 #[vI vK 19, .agg #[vI vK al, vI vK ah], .agg #[vI vK bl, vI vK bh]] w fun e w' => e = .returned (.tuple #[.agg #[vI vK (((unsV 1 al ah bl bh).1).1), vI vK (((unsV 1 al ah bl bh).1).2)], .agg #[vI vK (((unsV 1 al ah bl bh).2.1).1), vI vK (((unsV 1 al ah bl bh).2.1).2)], .bool ((unsV 1 al ah bl bh).2.2)]) ∧ Below w.heap.size w w' := by
  go_enter Tryz.func198, Tryz.ntmps198
  go_wp2_with (first | (go_at_call 216; go_must (refine (below_19 _ _ _ _ pal qal pah qah pbl qbl pbh qbh oa ob _).mono ?_; rintro e w1 ⟨rfl, hb1⟩; have hX1 : Quad w.heap.size al ah bl bh w1 := Quad.later (by first | exact hX1 | (refine ⟨?_, ?_, ?_, ?_, ?_, ?_, ?_, ?_, ?_, ?_, ?_, ?_, ?_, ?_, ?_, ?_, ?_⟩ <;> simp [go_sem])) hb1; have hbw1 : Below w.heap.size w w1 := (by ((refine Below.trans ?_ (hb1.mono ?_)) <;> repeat' first | exact bF _ _ | exact hbw1 | refine bA ?_ ?_ _ | refine bS ?_ ?_ _ | refine bD ?_ | refine below_drewN ?_ _ | (simp; done) | (simp; omega) | (simp [drew_size]; done) | (simp [drew_size]; omega) | omega)); have hY := hX1; obtain ⟨t0, a0, a1, af0, af1, b0, b1, bf0, bf1, r0, r1, rf0, rf1, s0, s1, sf0, sf1⟩ := hY; have u2 : w.heap.size + 1 + 1 < w1.heap.size := (by omega); have u0 : w.heap.size < w1.heap.size := (by omega); have u1 : w.heap.size + 1 < w1.heap.size := (by omega))))
  all_goals exact bodyPost_ret (v := .tuple #[.agg #[vI vK (((unsV 1 al ah bl bh).1).1), vI vK (((unsV 1 al ah bl bh).1).2)], .agg #[vI vK (((unsV 1 al ah bl bh).2.1).1), vI vK (((unsV 1 al ah bl bh).2.1).2)], .bool ((unsV 1 al ah bl bh).2.2)]) (by simp [results, Tryz.results198, go_sem, r0, r1, s0, s1]) rfl ⟨rfl, by repeat' first | exact bF _ _ | exact hbw1 | refine bA ?_ ?_ _ | refine bS ?_ ?_ _ | refine bD ?_ | refine below_drewN ?_ _ | (simp; done) | (simp; omega) | (simp [drew_size]; done) | (simp [drew_size]; omega) | omega⟩
theorem nar_20 (al ah bl bh : Int) (pal : -9223372036854775808 ≤ al) (qal : al ≤ 9223372036854775807) (pah : -9223372036854775808 ≤ ah) (qah : ah ≤ 9223372036854775807) (pbl : -9223372036854775808 ≤ bl) (qbl : bl ≤ 9223372036854775807) (pbh : -9223372036854775808 ≤ bh) (qbh : bh ≤ 9223372036854775807) (oa : al ≤ ah) (ob : bl ≤ bh) (w : World) : Calls Tryz.prog 198 #[vI vK 20, .agg #[vI vK al, vI vK ah], .agg #[vI vK bl, vI vK bh]] w fun e w' => e = .returned (.tuple #[.agg #[vI vK (((unsV 0 al ah bl bh).1).1), vI vK (((unsV 0 al ah bl bh).1).2)], .agg #[vI vK (((unsV 0 al ah bl bh).2.1).1), vI vK (((unsV 0 al ah bl bh).2.1).2)], .bool ((unsV 0 al ah bl bh).2.2)]) ∧ Below w.heap.size w w' := by
  go_enter Tryz.func198, Tryz.ntmps198
  go_wp2_with (first | (go_at_call 216; go_must (refine (below_20 _ _ _ _ pal qal pah qah pbl qbl pbh qbh oa ob _).mono ?_; rintro e w1 ⟨rfl, hb1⟩; have hX1 : Quad w.heap.size al ah bl bh w1 := Quad.later (by first | exact hX1 | (refine ⟨?_, ?_, ?_, ?_, ?_, ?_, ?_, ?_, ?_, ?_, ?_, ?_, ?_, ?_, ?_, ?_, ?_⟩ <;> simp [go_sem])) hb1; have hbw1 : Below w.heap.size w w1 := (by ((refine Below.trans ?_ (hb1.mono ?_)) <;> repeat' first | exact bF _ _ | exact hbw1 | refine bA ?_ ?_ _ | refine bS ?_ ?_ _ | refine bD ?_ | refine below_drewN ?_ _ | (simp; done) | (simp; omega) | (simp [drew_size]; done) | (simp [drew_size]; omega) | omega)); have hY := hX1; obtain ⟨t0, a0, a1, af0, af1, b0, b1, bf0, bf1, r0, r1, rf0, rf1, s0, s1, sf0, sf1⟩ := hY; have u2 : w.heap.size + 1 + 1 < w1.heap.size := (by omega); have u0 : w.heap.size < w1.heap.size := (by omega); have u1 : w.heap.size + 1 < w1.heap.size := (by omega))))
  all_goals exact bodyPost_ret (v := .tuple #[.agg #[vI vK (((unsV 0 al ah bl bh).1).1), vI vK (((unsV 0 al ah bl bh).1).2)], .agg #[vI vK (((unsV 0 al ah bl bh).2.1).1), vI vK (((unsV 0 al ah bl bh).2.1).2)], .bool ((unsV 0 al ah bl bh).2.2)]) (by simp [results, Tryz.results198, go_sem, r0, r1, s0, s1]) rfl ⟨rfl, by repeat' first | exact bF _ _ | exact hbw1 | refine bA ?_ ?_ _ | refine bS ?_ ?_ _ | refine bD ?_ | refine below_drewN ?_ _ | (simp; done) | (simp; omega) | (simp [drew_size]; done) | (simp [drew_size]; omega) | omega⟩
theorem nar_23 (al ah bl bh : Int) (pal : -9223372036854775808 ≤ al) (qal : al ≤ 9223372036854775807) (pah : -9223372036854775808 ≤ ah) (qah : ah ≤ 9223372036854775807) (pbl : -9223372036854775808 ≤ bl) (qbl : bl ≤ 9223372036854775807) (pbh : -9223372036854775808 ≤ bh) (qbh : bh ≤ 9223372036854775807) (oa : al ≤ ah) (ob : bl ≤ bh) (w : World) : Calls Tryz.prog 198 #[vI vK 23, .agg #[vI vK al, vI vK ah], .agg #[vI vK bl, vI vK bh]] w fun e w' => e = .returned (.tuple #[.agg #[vI vK (((belV 1 al ah bl bh).1).1), vI vK (((belV 1 al ah bl bh).1).2)], .agg #[vI vK (((belV 1 al ah bl bh).2.1).1), vI vK (((belV 1 al ah bl bh).2.1).2)], .bool ((belV 1 al ah bl bh).2.2)]) ∧ Below w.heap.size w w' := by
  go_enter Tryz.func198, Tryz.ntmps198
  go_wp2_with (first | (go_at_call 216; go_must (refine (below_23 _ _ _ _ pal qal pah qah pbl qbl pbh qbh oa ob _).mono ?_; rintro e w1 ⟨rfl, hb1⟩; have hX1 : Quad w.heap.size al ah bl bh w1 := Quad.later (by first | exact hX1 | (refine ⟨?_, ?_, ?_, ?_, ?_, ?_, ?_, ?_, ?_, ?_, ?_, ?_, ?_, ?_, ?_, ?_, ?_⟩ <;> simp [go_sem])) hb1; have hbw1 : Below w.heap.size w w1 := (by ((refine Below.trans ?_ (hb1.mono ?_)) <;> repeat' first | exact bF _ _ | exact hbw1 | refine bA ?_ ?_ _ | refine bS ?_ ?_ _ | refine bD ?_ | refine below_drewN ?_ _ | (simp; done) | (simp; omega) | (simp [drew_size]; done) | (simp [drew_size]; omega) | omega)); have hY := hX1; obtain ⟨t0, a0, a1, af0, af1, b0, b1, bf0, bf1, r0, r1, rf0, rf1, s0, s1, sf0, sf1⟩ := hY; have u2 : w.heap.size + 1 + 1 < w1.heap.size := (by omega); have u0 : w.heap.size < w1.heap.size := (by omega); have u1 : w.heap.size + 1 < w1.heap.size := (by omega))))
  all_goals exact bodyPost_ret (v := .tuple #[.agg #[vI vK (((belV 1 al ah bl bh).1).1), vI vK (((belV 1 al ah bl bh).1).2)], .agg #[vI vK (((belV 1 al ah bl bh).2.1).1), vI vK (((belV 1 al ah bl bh).2.1).2)], .bool ((belV 1 al ah bl bh).2.2)]) (by simp [results, Tryz.results198, go_sem, r0, r1, s0, s1]) rfl ⟨rfl, by repeat' first | exact bF _ _ | exact hbw1 | refine bA ?_ ?_ _ | refine bS ?_ ?_ _ | refine bD ?_ | refine below_drewN ?_ _ | (simp; done) | (simp; omega) | (simp [drew_size]; done) | (simp [drew_size]; omega) | omega⟩
theorem nar_24 (al ah bl bh : Int) (pal : -9223372036854775808 ≤ al) (qal : al ≤ 9223372036854775807) (pah : -9223372036854775808 ≤ ah) (qah : ah ≤ 9223372036854775807) (pbl : -9223372036854775808 ≤ bl) (qbl : bl ≤ 9223372036854775807) (pbh : -9223372036854775808 ≤ bh) (qbh : bh ≤ 9223372036854775807) (oa : al ≤ ah) (ob : bl ≤ bh) (w : World) : Calls Tryz.prog 198 #[vI vK 24, .agg #[vI vK al, vI vK ah], .agg #[vI vK bl, vI vK bh]] w fun e w' => e = .returned (.tuple #[.agg #[vI vK (((belV 0 al ah bl bh).1).1), vI vK (((belV 0 al ah bl bh).1).2)], .agg #[vI vK (((belV 0 al ah bl bh).2.1).1), vI vK (((belV 0 al ah bl bh).2.1).2)], .bool ((belV 0 al ah bl bh).2.2)]) ∧ Below w.heap.size w w' := by
  go_enter Tryz.func198, Tryz.ntmps198
  go_wp2_with (first | (go_at_call 216; go_must (refine (below_24 _ _ _ _ pal qal pah qah pbl qbl pbh qbh oa ob _).mono ?_; rintro e w1 ⟨rfl, hb1⟩; have hX1 : Quad w.heap.size al ah bl bh w1 := Quad.later (by first | exact hX1 | (refine ⟨?_, ?_, ?_, ?_, ?_, ?_, ?_, ?_, ?_, ?_, ?_, ?_, ?_, ?_, ?_, ?_, ?_⟩ <;> simp [go_sem])) hb1; have hbw1 : Below w.heap.size w w1 := (by ((refine Below.trans ?_ (hb1.mono ?_)) <;> repeat' first | exact bF _ _ | exact hbw1 | refine bA ?_ ?_ _ | refine bS ?_ ?_ _ | refine bD ?_ | refine below_drewN ?_ _ | (simp; done) | (simp; omega) | (simp [drew_size]; done) | (simp [drew_size]; omega) | omega)); have hY := hX1; obtain ⟨t0, a0, a1, af0, af1, b0, b1, bf0, bf1, r0, r1, rf0, rf1, s0, s1, sf0, sf1⟩ := hY; have u2 : w.heap.size + 1 + 1 < w1.heap.size := (by omega); have u0 : w.heap.size < w1.heap.size := (by omega); have u1 : w.heap.size + 1 < w1.heap.size := (by omega))))
  all_goals exact bodyPost_ret (v := .tuple #[.agg #[vI vK (((belV 0 al ah bl bh).1).1), vI vK (((belV 0 al ah bl bh).1).2)], .agg #[vI vK (((belV 0 al ah bl bh).2.1).1), vI vK (((belV 0 al ah bl bh).2.1).2)], .bool ((belV 0 al ah bl bh).2.2)]) (by simp [results, Tryz.results198, go_sem, r0, r1, s0, s1]) rfl ⟨rfl, by repeat' first | exact bF _ _ | exact hbw1 | refine bA ?_ ?_ _ | refine bS ?_ ?_ _ | refine bD ?_ | refine below_drewN ?_ _ | (simp; done) | (simp; omega) | (simp [drew_size]; done) | (simp [drew_size]; omega) | omega⟩
theorem nar_no (k al ah bl bh : Int) (hk : k < 15 ∨ 24 < k) (w : World) : Calls Tryz.prog 198 #[vI vK k, .agg #[vI vK al, vI vK ah], .agg #[vI vK bl, vI vK bh]] w fun e w' => e = .returned (.tuple #[.agg #[vI vK al, vI vK ah], .agg #[vI vK bl, vI vK bh], .bool true]) ∧ Below w.heap.size w w' := by
  have e15 : (k == 15) = false := by simp; omega
  have e16 : (k == 16) = false := by simp; omega
  have e17 : (k == 17) = false := by simp; omega
  have e18 : (k == 18) = false := by simp; omega
  have e19 : (k == 19) = false := by simp; omega
  have e20 : (k == 20) = false := by simp; omega
  have e21 : (k == 21) = false := by simp; omega
  have e22 : (k == 22) = false := by simp; omega
  have e23 : (k == 23) = false := by simp; omega
  have e24 : (k == 24) = false := by simp; omega
  go_enter Tryz.func198, Tryz.ntmps198
  go_wp2_with fail
  all_goals go_region
  all_goals go_wp2
  all_goals exact bodyPost_ret (v := .tuple #[.agg #[vI vK al, vI vK ah], .agg #[vI vK bl, vI vK bh], .bool true]) (by simp [results, Tryz.results198, go_sem]) rfl ⟨rfl, by repeat' first | exact bF _ _ | refine bA ?_ ?_ _ | refine bS ?_ ?_ _ | refine bD ?_ | refine below_drewN ?_ _ | (simp; done) | (simp; omega) | (simp [drew_size]; done) | (simp [drew_size]; omega) | omega⟩
end Go.Proofs.YtednmkhdehlojaaGreatDoor
namespace Go.Proofs.YtednmkhdehlojaaGreatDoor
open Go.RowKit

theorem opp_facts {c x y : Int} (h : 15 ≤ c ∧ c ≤ 24) : (isV c x y == isV (oppV c) x y) = false ∧ oppV (oppV c) = c ∧ 15 ≤ oppV c ∧ oppV c ≤ 24 := by
  have e : c = 15 ∨ c = 16 ∨ c = 17 ∨ c = 18 ∨ c = 19 ∨ c = 20 ∨ c = 21 ∨ c = 22 ∨ c = 23 ∨ c = 24 := by omega
  rcases e with rfl | rfl | rfl | rfl | rfl | rfl | rfl | rfl | rfl | rfl
  · refine ⟨?_, by decide, by decide, by decide⟩
    show (isV 15 x y == isV 16 x y) = false
    rw [isV_15, isV_16]; cases decide (x = y) <;> rfl
  · refine ⟨?_, by decide, by decide, by decide⟩
    show (isV 16 x y == isV 15 x y) = false
    rw [isV_15, isV_16]; cases decide (x = y) <;> rfl
  · refine ⟨?_, by decide, by decide, by decide⟩
    show (isV 17 x y == isV 20 x y) = false
    rw [isV_17, isV_20, beq_eq_false_iff_ne, ne_eq, decide_eq_decide]; omega
  · refine ⟨?_, by decide, by decide, by decide⟩
    show (isV 18 x y == isV 19 x y) = false
    rw [isV_18, isV_19, beq_eq_false_iff_ne, ne_eq, decide_eq_decide]; omega
  · refine ⟨?_, by decide, by decide, by decide⟩
    show (isV 19 x y == isV 18 x y) = false
    rw [isV_18, isV_19, beq_eq_false_iff_ne, ne_eq, decide_eq_decide]; omega
  · refine ⟨?_, by decide, by decide, by decide⟩
    show (isV 20 x y == isV 17 x y) = false
    rw [isV_17, isV_20, beq_eq_false_iff_ne, ne_eq, decide_eq_decide]; omega
  · refine ⟨?_, by decide, by decide, by decide⟩
    show (isV 21 x y == isV 24 x y) = false
    rw [isV_21, isV_24, beq_eq_false_iff_ne, ne_eq, decide_eq_decide]; omega
  · refine ⟨?_, by decide, by decide, by decide⟩
    show (isV 22 x y == isV 23 x y) = false
    rw [isV_22, isV_23, beq_eq_false_iff_ne, ne_eq, decide_eq_decide]; omega
  · refine ⟨?_, by decide, by decide, by decide⟩
    show (isV 23 x y == isV 22 x y) = false
    rw [isV_22, isV_23, beq_eq_false_iff_ne, ne_eq, decide_eq_decide]; omega
  · refine ⟨?_, by decide, by decide, by decide⟩
    show (isV 24 x y == isV 21 x y) = false
    rw [isV_21, isV_24, beq_eq_false_iff_ne, ne_eq, decide_eq_decide]; omega

def BdLeft (r : (Int × Int) × (Int × Int) × Bool) (al ah bl bh x y : Int) (is : Prop) : Prop :=
  (is → r.2.2 = true ∧ (r.1.1 ≤ x ∧ x ≤ r.1.2) ∧ r.2.1.1 ≤ y ∧ y ≤ r.2.1.2) ∧ (r.2.2 = true → r.1.1 ≤ r.1.2 ∧ r.2.1.1 ≤ r.2.1.2 ∧ al ≤ r.1.1 ∧ r.1.2 ≤ ah ∧ bl ≤ r.2.1.1 ∧ r.2.1.2 ≤ bh)
theorem BdLeft.swap {r : (Int × Int) × (Int × Int) × Bool} {al ah bl bh x y : Int} {p q : Prop} (h : BdLeft r al ah bl bh x y p) (e : q → p) : BdLeft (swapV r) bl bh al ah y x q :=
  ⟨fun z => by obtain ⟨a, b, c⟩ := h.1 (e z); exact ⟨a, c, b⟩, fun z => by obtain ⟨a, b, c, d, e, f⟩ := h.2 z; exact ⟨b, a, e, f, c, d⟩⟩
theorem bel_left {g al ah bl bh x y : Int} (h1 : al ≤ x) (h2 : x ≤ ah) (h3 : bl ≤ y) (h4 : y ≤ bh) : BdLeft (belV g al ah bl bh) al ah bl bh x y (x + g ≤ y) := by
  unfold belV BdLeft
  split
  · exact ⟨fun h => ⟨rfl, by show al ≤ x ∧ x ≤ min ah (bh - g); omega, by show max bl (al + g) ≤ y ∧ y ≤ bh; omega⟩, fun _ => by show al ≤ min ah (bh - g) ∧ max bl (al + g) ≤ bh ∧ al ≤ al ∧ min ah (bh - g) ≤ ah ∧ bl ≤ max bl (al + g) ∧ bh ≤ bh; omega⟩
  · exact ⟨fun h => by omega, fun h => by cases h⟩
theorem uns_left {g al ah bl bh x y : Int} (h1 : al ≤ x) (h2 : x ≤ ah) (h3 : bl ≤ y) (h4 : y ≤ bh) (h5 : 0 ≤ g) (px : -9223372036854775808 ≤ x) (qx : x ≤ 9223372036854775807) (qy : y ≤ 9223372036854775807) :
    BdLeft (unsV g al ah bl bh) al ah bl bh x y ((uns x : Int) + g ≤ uns y) := by
  have ex := uns_eq x
  have ey := uns_eq y
  unfold unsV
  split
  · exact ⟨fun h => ⟨rfl, ⟨h1, h2⟩, h3, h4⟩, fun _ => by show al ≤ ah ∧ bl ≤ bh ∧ al ≤ al ∧ ah ≤ ah ∧ bl ≤ bl ∧ bh ≤ bh; omega⟩
  · by_cases hx : 0 ≤ x
    · have b := bel_left (g := g) (al := max al 0) (ah := ah) (by omega : max al 0 ≤ x) h2 h3 h4
      refine ⟨fun h => b.1 (by omega), fun h => ?_⟩
      have c := b.2 h
      omega
    · refine ⟨fun h => by omega, fun h => ?_⟩
      unfold belV at h ⊢
      split at h
      · rename_i hc
        rw [if_pos hc]
        show max al 0 ≤ min ah (bh - g) ∧ max bl (max al 0 + g) ≤ bh ∧ al ≤ max al 0 ∧ min ah (bh - g) ≤ ah ∧ bl ≤ max bl (max al 0 + g) ∧ bh ≤ bh
        omega
      · cases h
theorem nar_left {c al ah bl bh x y : Int} (hc : 15 ≤ c ∧ c ≤ 24) (pal : -9223372036854775808 ≤ al) (qah : ah ≤ 9223372036854775807) (pbl : -9223372036854775808 ≤ bl) (qbh : bh ≤ 9223372036854775807)
    (h1 : al ≤ x) (h2 : x ≤ ah) (h3 : bl ≤ y) (h4 : y ≤ bh) : BdLeft (narV c al ah bl bh) al ah bl bh x y (isV c x y = true) := by
  have e : c = 15 ∨ c = 16 ∨ c = 17 ∨ c = 18 ∨ c = 19 ∨ c = 20 ∨ c = 21 ∨ c = 22 ∨ c = 23 ∨ c = 24 := by omega
  rcases e with rfl | rfl | rfl | rfl | rfl | rfl | rfl | rfl | rfl | rfl
  · rw [narV_15, isV_15, decide_eq_true_eq]
    unfold meetV BdLeft
    split
    · exact ⟨fun h => ⟨rfl, by show max al bl ≤ x ∧ x ≤ min ah bh; omega, by show max al bl ≤ y ∧ y ≤ min ah bh; omega⟩, fun _ => by show max al bl ≤ min ah bh ∧ max al bl ≤ min ah bh ∧ al ≤ max al bl ∧ min ah bh ≤ ah ∧ bl ≤ max al bl ∧ min ah bh ≤ bh; omega⟩
    · exact ⟨fun h => by omega, fun h => by cases h⟩
  · rw [narV_16, isV_16, Bool.not_eq_true', decide_eq_false_iff_not]
    unfold apV
    split
    · exact ⟨fun h => by omega, fun h => by cases h⟩
    · have cut : ∀ {al ah ol oh x y : Int}, al ≤ x → x ≤ ah → ol ≤ y → y ≤ oh → (¬ x = y → (cutV al ah ol oh).1 ≤ x ∧ x ≤ (cutV al ah ol oh).2) ∧ (cutV al ah ol oh).1 ≤ (cutV al ah ol oh).2 ∧ al ≤ (cutV al ah ol oh).1 ∧ (cutV al ah ol oh).2 ≤ ah := by
        intro al ah ol oh x y a1 a2 a3 a4
        unfold cutV
        split
        · exact ⟨fun _ => ⟨a1, a2⟩, by show al ≤ ah ∧ al ≤ al ∧ ah ≤ ah; omega⟩
        · split
          · exact ⟨fun _ => by show al + 1 ≤ x ∧ x ≤ ah; omega, by show al + 1 ≤ ah ∧ al ≤ al + 1 ∧ ah ≤ ah; omega⟩
          · split
            · exact ⟨fun _ => by show al ≤ x ∧ x ≤ ah - 1; omega, by show al ≤ ah - 1 ∧ al ≤ al ∧ ah - 1 ≤ ah; omega⟩
            · exact ⟨fun _ => ⟨a1, a2⟩, by show al ≤ ah ∧ al ≤ al ∧ ah ≤ ah; omega⟩
      have k1 := cut h1 h2 h3 h4
      have k2 := cut h3 h4 h1 h2
      exact ⟨fun h => ⟨rfl, k1.1 h, k2.1 (fun z => h z.symm)⟩, fun _ => ⟨k1.2.1, k2.2.1, k1.2.2.1, k1.2.2.2, k2.2.2.1, k2.2.2.2⟩⟩
  · rw [narV_17, isV_17, decide_eq_true_eq]
    exact (uns_left (g := 1) h3 h4 h1 h2 (by omega) (by omega) (by omega) (by omega)).swap (fun h => by omega)
  · rw [narV_18, isV_18, decide_eq_true_eq]
    exact (uns_left (g := 0) h3 h4 h1 h2 (by omega) (by omega) (by omega) (by omega)).swap (fun h => by omega)
  · rw [narV_19, isV_19, decide_eq_true_eq]
    have k := uns_left (g := 1) h1 h2 h3 h4 (by omega) (by omega) (by omega) (by omega)
    exact ⟨fun h => k.1 (by omega), k.2⟩
  · rw [narV_20, isV_20, decide_eq_true_eq]
    have k := uns_left (g := 0) h1 h2 h3 h4 (by omega) (by omega) (by omega) (by omega)
    exact ⟨fun h => k.1 (by omega), k.2⟩
  · rw [narV_21, isV_21, decide_eq_true_eq]
    exact (bel_left (g := 1) h3 h4 h1 h2).swap (fun h => by omega)
  · rw [narV_22, isV_22, decide_eq_true_eq]
    exact (bel_left (g := 0) h3 h4 h1 h2).swap (fun h => by omega)
  · rw [narV_23, isV_23, decide_eq_true_eq]
    have k := bel_left (g := 1) h1 h2 h3 h4
    exact ⟨fun h => k.1 (by omega), k.2⟩
  · rw [narV_24, isV_24, decide_eq_true_eq]
    have k := bel_left (g := 0) h1 h2 h3 h4
    exact ⟨fun h => k.1 (by omega), k.2⟩
def Way.narrow (y : Way) (c : Int) (d s : Nat) (r : Bool) (n : Int) : Bool × Way :=
  if (narV c (y.reg d).l (y.reg d).h (y.second s r n).l (y.second s r n).h).2.2 = false then (false, y)
  else if r = true ∧ s = d then (true, y)
  else if r = true then (true, (y.putReg d (knoNum (narV c (y.reg d).l (y.reg d).h (y.second s r n).l (y.second s r n).h).1.1 (narV c (y.reg d).l (y.reg d).h (y.second s r n).l (y.second s r n).h).1.2)).putReg s (knoNum (narV c (y.reg d).l (y.reg d).h (y.second s r n).l (y.second s r n).h).2.1.1 (narV c (y.reg d).l (y.reg d).h (y.second s r n).l (y.second s r n).h).2.1.2))
  else (true, y.putReg d (knoNum (narV c (y.reg d).l (y.reg d).h (y.second s r n).l (y.second s r n).h).1.1 (narV c (y.reg d).l (y.reg d).h (y.second s r n).l (y.second s r n).h).1.2))
theorem Way.Has.know {y : Way} {a : Abs} {d : Nat} {x : Kno} (h : y.Has a) (hx : x.Has (a.reg d)) : (y.putReg d x).Has a :=
  ⟨fun i hi => by
    show (if i = d then x else y.reg i).Has (a.reg i)
    by_cases e : i = d
    · rw [if_pos e, e]; exact hx
    · rw [if_neg e]; exact h.reg i hi, h.slot⟩
theorem Kno.has_one {v : Val} {l h : Int} (hk : v.k = 1) (h1 : l ≤ v.n) (h2 : v.n ≤ h) : (knoNum l h).Has v := Or.inr (Or.inl ⟨by show (1 : Int) ≤ 1; decide, by show (1 : Int) ≤ 4; decide, hk, h1, h2⟩)
theorem narrow_has {y : Way} {a : Abs} {c : Int} {d s : Nat} {r : Bool} {n : Int} (hk : y.Ok) (hy : y.Has a) (hc : 15 ≤ c ∧ c ≤ 24) (hd : d < 11) (hs : s < 11) (hn : In64 n)
    (k1 : (y.reg d).k = 1) (k2 : (y.second s r n).k = 1) (h : isV c (a.reg d).n (a.second s r n).n = true) : (y.narrow c d s r n).1 = true ∧ (y.narrow c d s r n).2.Has a := by
  obtain ⟨e1, e2, e3⟩ := (hy.reg d hd).same (by omega) (by omega)
  obtain ⟨f1, f2, f3⟩ := (hy.second (r := r) (n := n) hs).same (by omega) (by omega)
  have o1 := hk.reg d hd
  have o2 := second_ok (r := r) (n := n) hk hs hn
  obtain ⟨t, b1, b2⟩ := (nar_left hc o1.2.2.1.1 o1.2.2.2.1.2 o2.2.2.1.1 o2.2.2.2.1.2 e2 e3 f2 f3).1 h
  unfold Way.narrow
  rw [if_neg (by rw [t]; decide)]
  by_cases c1 : r = true ∧ s = d
  · rw [if_pos c1]; exact ⟨rfl, hy⟩
  rw [if_neg c1]
  by_cases c2 : r = true
  · rw [if_pos c2]
    refine ⟨rfl, (hy.know (Kno.has_one (by omega) b1.1 b1.2)).know ?_⟩
    have e : a.second s r n = a.reg s := if_pos c2
    rw [← e]
    exact Kno.has_one (by omega) b2.1 b2.2
  · rw [if_neg c2]
    exact ⟨rfl, hy.know (Kno.has_one (by omega) b1.1 b1.2)⟩
def Way.askNumbers (y : Way) (c : Int) (d s : Nat) (r : Bool) (o n : Int) : List (Int × Way) :=
  (if (y.narrow (oppV c) d s r n).1 = true then [(0, (y.narrow (oppV c) d s r n).2)] else []) ++ (if (y.narrow c d s r n).1 = true then [(o, (y.narrow c d s r n).2)] else [])
def Way.askPlace (y : Way) (c : Int) (d : Nat) (o : Int) : List (Int × Way) :=
  if (y.reg d).k ≠ 5 then [(if c = 16 then o else 0, y)] else [(if c = 16 then 0 else o, y.putReg d (knoNum 0 0)), (if c = 16 then o else 0, y.putReg d ⟨4, 0, 0⟩)]
def Way.ask (y : Way) (c : Int) (d s : Nat) (r : Bool) (o n : Int) : List (Int × Way) × Int :=
  if (y.reg d).k = 0 ∨ (y.second s r n).k = 0 then ([], 8)
  else if (y.reg d).k = 1 ∧ (y.second s r n).k = 1 then (y.askNumbers c d s r o n, 0)
  else if (c ≠ 15 ∧ c ≠ 16) ∨ r = true ∨ n ≠ 0 then ([], 1)
  else (y.askPlace c d o, 0)
theorem ask_has {y : Way} {a : Abs} {c : Int} {d s : Nat} {r : Bool} {o n : Int} (hk : y.Ok) (hy : y.Has a) (hc : 15 ≤ c ∧ c ≤ 24) (hd : d < 11) (hs : s < 11) (hn : In64 n) (h : (y.ask c d s r o n).2 = 0) :
    (askF c (a.reg d) (a.second s r n) r o n).2 = 0 ∧ ∃ y', ((askF c (a.reg d) (a.second s r n) r o n).1, y') ∈ (y.ask c d s r o n).1 ∧ y'.Has a := by
  unfold Way.ask at h ⊢
  by_cases c1 : (y.reg d).k = 0 ∨ (y.second s r n).k = 0
  · rw [if_pos c1] at h; exact absurd h (by decide)
  rw [if_neg c1] at h ⊢
  have n1 : (a.reg d).k ≠ 0 := (hy.reg d hd).some (hk.reg d hd) fun e => c1 (Or.inl e)
  have n2 : (a.second s r n).k ≠ 0 := (hy.second hs).some (second_ok hk hs hn) fun e => c1 (Or.inr e)
  unfold askF
  rw [if_neg fun e => e.elim n1 n2]
  by_cases c2 : (y.reg d).k = 1 ∧ (y.second s r n).k = 1
  · rw [if_pos c2]
    obtain ⟨e1, -, -⟩ := (hy.reg d hd).same (by omega) (by omega)
    obtain ⟨f1, -, -⟩ := (hy.second (r := r) (n := n) hs).same (by omega) (by omega)
    rw [if_pos ⟨by omega, by omega⟩]
    unfold Way.askNumbers
    by_cases q : isV c (a.reg d).n (a.second s r n).n = true
    · obtain ⟨g1, g2⟩ := narrow_has hk hy hc hd hs hn c2.1 c2.2 q
      rw [if_pos q, if_pos g1]
      exact ⟨rfl, _, List.mem_append_right _ (List.mem_singleton.mpr rfl), g2⟩
    · obtain ⟨p1, -, p2, p3⟩ := opp_facts (x := (a.reg d).n) (y := (a.second s r n).n) hc
      have q' : isV (oppV c) (a.reg d).n (a.second s r n).n = true := by
        cases z : isV (oppV c) (a.reg d).n (a.second s r n).n
        · have q0 : isV c (a.reg d).n (a.second s r n).n = false := by cases t : isV c (a.reg d).n (a.second s r n).n with | false => rfl | true => exact absurd t q
          rw [z, q0] at p1; exact absurd p1 (by decide)
        · rfl
      obtain ⟨g1, g2⟩ := narrow_has hk hy ⟨p2, p3⟩ hd hs hn c2.1 c2.2 q'
      rw [if_neg q, if_pos g1]
      exact ⟨rfl, _, List.mem_append_left _ (List.mem_singleton.mpr rfl), g2⟩
  rw [if_neg c2] at h ⊢
  by_cases c3 : (c ≠ 15 ∧ c ≠ 16) ∨ r = true ∨ n ≠ 0
  · rw [if_pos c3] at h; exact absurd h (by decide)
  have eW : (if (c ≠ 15 ∧ c ≠ 16) ∨ r = true ∨ n ≠ 0 then (([] : List (Int × Way)), (1 : Int)) else (y.askPlace c d o, 0)) = (y.askPlace c d o, 0) := if_neg c3
  have eA : (if (c ≠ 15 ∧ c ≠ 16) ∨ r = true ∨ n ≠ 0 then ((0 : Int), (1 : Int)) else if c = 16 then (o, 0) else (0, 0)) = if c = 16 then (o, 0) else (0, 0) := if_neg c3
  rw [eW, eA]
  have r0 : r = false := by cases r <;> simp_all
  have s1 : (y.second s r n).k = 1 := by rw [r0]; rfl
  have v1 : (a.second s r n).k = 1 := by rw [r0]; rfl
  have v0 : (a.second s r n).n = 0 := by rw [r0]; show n = 0; omega
  have k5 := (hk.reg d hd).2.1
  unfold Way.askPlace
  by_cases c4 : (y.reg d).k ≠ 5
  · rw [if_pos c4]
    obtain ⟨e1, -, -⟩ := (hy.reg d hd).same (by have := (hk.reg d hd).1; omega) (by omega)
    rw [if_neg (show ¬ ((a.reg d).k = 1 ∧ (a.second s r n).k = 1) by omega)]
    by_cases c5 : c = 16
    · rw [if_pos c5, if_pos c5]; exact ⟨rfl, _, List.mem_singleton.mpr rfl, hy⟩
    · rw [if_neg c5, if_neg c5]; exact ⟨rfl, _, List.mem_singleton.mpr rfl, hy⟩
  rw [if_neg c4]
  rcases hy.reg d hd with e | e | ⟨-, en, ek⟩
  · omega
  · omega
  rcases ek with ek | ek
  · rw [if_pos (show (a.reg d).k = 1 ∧ (a.second s r n).k = 1 from ⟨ek, v1⟩), en, v0]
    have hz := hy.know (d := d) (x := knoNum 0 0) (Kno.has_one ek (by omega) (by omega))
    by_cases c5 : c = 16
    · subst c5
      exact ⟨rfl, _, mcS, hz⟩
    · have c6 : c = 15 := by omega
      subst c6
      exact ⟨rfl, _, mcS, hz⟩
  · rw [if_neg (show ¬ ((a.reg d).k = 1 ∧ (a.second s r n).k = 1) by omega)]
    have hz : (y.putReg d ⟨4, 0, 0⟩).Has a := hy.know (Or.inr (Or.inl ⟨by show (1 : Int) ≤ 4; decide, by show (4 : Int) ≤ 4; decide, ek, by show (0 : Int) ≤ _; omega, by show _ ≤ (0 : Int); omega⟩))
    by_cases c5 : c = 16
    · subst c5
      exact ⟨rfl, _, mcO _ (List.mem_singleton.mpr rfl), hz⟩
    · have c6 : c = 15 := by omega
      subst c6
      exact ⟨rfl, _, mcO _ (List.mem_singleton.mpr rfl), hz⟩
end Go.Proofs.YtednmkhdehlojaaGreatDoor
