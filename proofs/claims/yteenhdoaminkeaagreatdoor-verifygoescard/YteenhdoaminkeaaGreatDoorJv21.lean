/-
 What bound.Narrow returns at code 17, as a function on integers; the world below is as it was. Conditions: the ends are numbers of 64 bits, the low end not above the high one. What bound.Narrow returns at code 18, as a function on integers; the world below is as it was. Conditions: the ends are numbers of 64 bits, the low end not above the high one. What bound.Narrow returns at code 21, as a function on integers; the world below is as it was. Conditions: the ends are numbers of 64 bits, the low end not above the high one. What bound.Narrow returns at code 22, as a function on integers; the world below is as it was. Conditions: the ends are numbers of 64 bits, the low end not above the high one. What bound.Narrow and bound.Opposite return, by one contract each; the world below is as it was. Conditions: the ends are numbers of 64 bits, the low end not above the high one. What package verify's narrow does. Conditions: the ends are of 64 bits, in order.
-/
import Derived.Test.YteenhdoaminkeaaGreatDoorJv14
import Derived.Deep.DeepCutAuto
import Derived.Test.YteenhdoaminkeaaGreatDoorJv20
set_option maxHeartbeats 40000000
open Go.Value renaming int → vI
open Go.IntKind renaming i64 → vK
open Go.RowKit.Below renaming alloc → bA, setCell → bS, drew → bD, refl → bF
set_option maxRecDepth 1000000
set_option linter.defProp false
set_option linter.unusedVariables false
set_option linter.unusedSimpArgs false
namespace Go.Proofs.YteenhdoaminkeaaGreatDoor
open Go.ChangeShapes Go.WideShapes Go.ChangeAt Go.RowKit
set_option linter.unusedVariables false
attribute [local simp] z00 z0y z0o

theorem nar_17 (al ah bl bh : Int) (pal : -9223372036854775808 ≤ al) (qal : al ≤ 9223372036854775807) (pah : -9223372036854775808 ≤ ah) (qah : ah ≤ 9223372036854775807) (pbl : -9223372036854775808 ≤ bl) (qbl : bl ≤ 9223372036854775807) (pbh : -9223372036854775808 ≤ bh) (qbh : bh ≤ 9223372036854775807) (oa : al ≤ ah) (ob : bl ≤ bh) (w : World) : Calls Tryz.prog 79 #[vI vK 17, .agg #[vI vK al, vI vK ah], .agg #[vI vK bl, vI vK bh]] w fun e w' => e = .returned (.tuple #[.agg #[vI vK (((unsV 1 bl bh al ah).2.1).1), vI vK (((unsV 1 bl bh al ah).2.1).2)], .agg #[vI vK (((unsV 1 bl bh al ah).1).1), vI vK (((unsV 1 bl bh al ah).1).2)], .bool ((unsV 1 bl bh al ah).2.2)]) ∧ Below w.heap.size w w' := by
 go_enter Tryz.func79, Tryz.ntmps79
 go_wp2_with fail
 go_cut [11, 12, 13] (fun s11 s12 s13 wx => ∃ L U : Nat, s11 = .pointer (some ⟨L, 0, none⟩) ∧ s12 = .pointer (some ⟨U, 0, none⟩) ∧ s13 = .bool (unsV 1 bl bh al ah).2.2 ∧ Below w.heap.size w wx ∧ Outs w.heap.size L U (unsV 1 bl bh al ah).1.1 (unsV 1 bl bh al ah).1.2 (unsV 1 bl bh al ah).2.1.1 (unsV 1 bl bh al ah).2.1.2 wx)
 case first =>
  go_region_held3 (fun w' => w'.cell? ⟨w.heap.size, 0, none⟩ = some (vI vK al) ∧ w'.cell? ⟨w.heap.size, 1, none⟩ = some (vI vK ah) ∧ w'.cell? ⟨w.heap.size + 1, 0, none⟩ = some (vI vK bl) ∧ w'.cell? ⟨w.heap.size + 1, 1, none⟩ = some (vI vK bh)) (first | (simp [go_sem]; done) | (simp [go_sem, *]; done) | go_keep) (first | (go_at_call 93; refine (zJg _).mono ?_; rintro e w' ⟨rfl, rfl⟩) | (go_at_call 92; go_must (refine (zGp _ _ _ _ pbl qbl pbh qbh pal qal pah qah ob oa _).mono ?_; rintro e w1 ⟨rfl, hb1⟩; have hX1 : Quad w.heap.size al ah bl bh w1 := Quad.later (by first | exact hX1 | (refine ⟨?_, ?_, ?_, ?_, ?_, ?_, ?_, ?_, ?_, ?_, ?_, ?_, ?_, ?_, ?_, ?_, ?_⟩ <;> simp [go_sem])) hb1; have hbw1 : Below w.heap.size w w1 := (by ((refine Below.trans ?_ (hb1.mono ?_)) <;> repeat' first | exact bF _ _ | exact hbw1 | refine bA ?_ ?_ _ | refine bS ?_ ?_ _ | refine bD ?_ | refine below_drewN ?_ _ | (simp; done) | (simp; omega) | (simp [z00]; done) | (simp [z00]; omega) | omega)); have hY := hX1; obtain ⟨t0, a0, a1, af0, af1, b0, b1, bf0, bf1, r0, r1, rf0, rf1, s0, s1, sf0, sf1⟩ := hY; have u2 : w.heap.size + 1 + 1 < w1.heap.size := (by omega); have u0 : w.heap.size < w1.heap.size := (by omega); have u1 : w.heap.size + 1 < w1.heap.size := (by omega); have v4 := z1n hb1 (w.heap.size + 1 + 1 + 1 + 1); have v5 := z1n hb1 (w.heap.size + 1 + 1 + 1 + 1 + 1); (try simp [go_sem] at v4); (try simp [go_sem] at v5))))
  all_goals (go_wp2_with fail; go_meet)
  all_goals exact ⟨_, _, rfl, rfl, rfl, by repeat' first | exact bF _ _ | exact hbw1 | refine bA ?_ ?_ _ | refine bS ?_ ?_ _ | refine bD ?_ | refine below_drewN ?_ _ | (simp; done) | (simp; omega) | (simp [z00]; done) | (simp [z00]; omega) | omega, by refine ⟨?_, ?_, ?_, ?_, ?_, ?_, ?_, ?_, ?_, ?_, ?_, ?_, ?_, ?_, ?_, ?_⟩ <;> first | (simp [go_sem, *]; done) | omega | (simp; omega)⟩
 case rest =>
 obtain ⟨L, U, rfl, rfl, rfl, hbw, r0, r1, rf0, rf1, s0, s1, sf0, sf1, l0, l1, m0, m1, n0, n1, n2, n3⟩ := hcut
 go_wp2_with fail
 all_goals go_region
 all_goals go_wp2
 all_goals exact bodyPost_ret (v := .tuple #[.agg #[vI vK (((unsV 1 bl bh al ah).2.1).1), vI vK (((unsV 1 bl bh al ah).2.1).2)], .agg #[vI vK (((unsV 1 bl bh al ah).1).1), vI vK (((unsV 1 bl bh al ah).1).2)], .bool ((unsV 1 bl bh al ah).2.2)]) (by simp [results, Tryz.results79, go_sem, r0, r1, s0, s1]) rfl ⟨rfl, by repeat' first | exact bF _ _ | exact hbw | refine bA ?_ ?_ _ | refine bS ?_ ?_ _ | refine bD ?_ | refine below_drewN ?_ _ | (simp; done) | (simp; omega) | (simp [z00]; done) | (simp [z00]; omega) | omega⟩
end Go.Proofs.YteenhdoaminkeaaGreatDoor
namespace Go.Proofs.YteenhdoaminkeaaGreatDoor
open Go.ChangeShapes Go.WideShapes Go.ChangeAt Go.RowKit
set_option linter.unusedVariables false
attribute [local simp] z00 z0y z0o

theorem nar_18 (al ah bl bh : Int) (pal : -9223372036854775808 ≤ al) (qal : al ≤ 9223372036854775807) (pah : -9223372036854775808 ≤ ah) (qah : ah ≤ 9223372036854775807) (pbl : -9223372036854775808 ≤ bl) (qbl : bl ≤ 9223372036854775807) (pbh : -9223372036854775808 ≤ bh) (qbh : bh ≤ 9223372036854775807) (oa : al ≤ ah) (ob : bl ≤ bh) (w : World) : Calls Tryz.prog 79 #[vI vK 18, .agg #[vI vK al, vI vK ah], .agg #[vI vK bl, vI vK bh]] w fun e w' => e = .returned (.tuple #[.agg #[vI vK (((unsV 0 bl bh al ah).2.1).1), vI vK (((unsV 0 bl bh al ah).2.1).2)], .agg #[vI vK (((unsV 0 bl bh al ah).1).1), vI vK (((unsV 0 bl bh al ah).1).2)], .bool ((unsV 0 bl bh al ah).2.2)]) ∧ Below w.heap.size w w' := by
 go_enter Tryz.func79, Tryz.ntmps79
 go_wp2_with fail
 go_cut [11, 12, 13] (fun s11 s12 s13 wx => ∃ L U : Nat, s11 = .pointer (some ⟨L, 0, none⟩) ∧ s12 = .pointer (some ⟨U, 0, none⟩) ∧ s13 = .bool (unsV 0 bl bh al ah).2.2 ∧ Below w.heap.size w wx ∧ Outs w.heap.size L U (unsV 0 bl bh al ah).1.1 (unsV 0 bl bh al ah).1.2 (unsV 0 bl bh al ah).2.1.1 (unsV 0 bl bh al ah).2.1.2 wx)
 case first =>
  go_region_held3 (fun w' => w'.cell? ⟨w.heap.size, 0, none⟩ = some (vI vK al) ∧ w'.cell? ⟨w.heap.size, 1, none⟩ = some (vI vK ah) ∧ w'.cell? ⟨w.heap.size + 1, 0, none⟩ = some (vI vK bl) ∧ w'.cell? ⟨w.heap.size + 1, 1, none⟩ = some (vI vK bh)) (first | (simp [go_sem]; done) | (simp [go_sem, *]; done) | go_keep) (first | (go_at_call 93; refine (zJf _).mono ?_; rintro e w' ⟨rfl, rfl⟩) | (go_at_call 92; go_must (refine (zGo _ _ _ _ pbl qbl pbh qbh pal qal pah qah ob oa _).mono ?_; rintro e w1 ⟨rfl, hb1⟩; have hX1 : Quad w.heap.size al ah bl bh w1 := Quad.later (by first | exact hX1 | (refine ⟨?_, ?_, ?_, ?_, ?_, ?_, ?_, ?_, ?_, ?_, ?_, ?_, ?_, ?_, ?_, ?_, ?_⟩ <;> simp [go_sem])) hb1; have hbw1 : Below w.heap.size w w1 := (by ((refine Below.trans ?_ (hb1.mono ?_)) <;> repeat' first | exact bF _ _ | exact hbw1 | refine bA ?_ ?_ _ | refine bS ?_ ?_ _ | refine bD ?_ | refine below_drewN ?_ _ | (simp; done) | (simp; omega) | (simp [z00]; done) | (simp [z00]; omega) | omega)); have hY := hX1; obtain ⟨t0, a0, a1, af0, af1, b0, b1, bf0, bf1, r0, r1, rf0, rf1, s0, s1, sf0, sf1⟩ := hY; have u2 : w.heap.size + 1 + 1 < w1.heap.size := (by omega); have u0 : w.heap.size < w1.heap.size := (by omega); have u1 : w.heap.size + 1 < w1.heap.size := (by omega); have v4 := z1n hb1 (w.heap.size + 1 + 1 + 1 + 1); have v5 := z1n hb1 (w.heap.size + 1 + 1 + 1 + 1 + 1); (try simp [go_sem] at v4); (try simp [go_sem] at v5))))
  all_goals (go_wp2_with fail; go_meet)
  all_goals exact ⟨_, _, rfl, rfl, rfl, by repeat' first | exact bF _ _ | exact hbw1 | refine bA ?_ ?_ _ | refine bS ?_ ?_ _ | refine bD ?_ | refine below_drewN ?_ _ | (simp; done) | (simp; omega) | (simp [z00]; done) | (simp [z00]; omega) | omega, by refine ⟨?_, ?_, ?_, ?_, ?_, ?_, ?_, ?_, ?_, ?_, ?_, ?_, ?_, ?_, ?_, ?_⟩ <;> first | (simp [go_sem, *]; done) | omega | (simp; omega)⟩
 case rest =>
 obtain ⟨L, U, rfl, rfl, rfl, hbw, r0, r1, rf0, rf1, s0, s1, sf0, sf1, l0, l1, m0, m1, n0, n1, n2, n3⟩ := hcut
 go_wp2_with fail
 all_goals go_region
 all_goals go_wp2
 all_goals exact bodyPost_ret (v := .tuple #[.agg #[vI vK (((unsV 0 bl bh al ah).2.1).1), vI vK (((unsV 0 bl bh al ah).2.1).2)], .agg #[vI vK (((unsV 0 bl bh al ah).1).1), vI vK (((unsV 0 bl bh al ah).1).2)], .bool ((unsV 0 bl bh al ah).2.2)]) (by simp [results, Tryz.results79, go_sem, r0, r1, s0, s1]) rfl ⟨rfl, by repeat' first | exact bF _ _ | exact hbw | refine bA ?_ ?_ _ | refine bS ?_ ?_ _ | refine bD ?_ | refine below_drewN ?_ _ | (simp; done) | (simp; omega) | (simp [z00]; done) | (simp [z00]; omega) | omega⟩
end Go.Proofs.YteenhdoaminkeaaGreatDoor
namespace Go.Proofs.YteenhdoaminkeaaGreatDoor
open Go.ChangeShapes Go.WideShapes Go.ChangeAt Go.RowKit
set_option linter.unusedVariables false
attribute [local simp] z00 z0y z0o

theorem nar_21 (al ah bl bh : Int) (pal : -9223372036854775808 ≤ al) (qal : al ≤ 9223372036854775807) (pah : -9223372036854775808 ≤ ah) (qah : ah ≤ 9223372036854775807) (pbl : -9223372036854775808 ≤ bl) (qbl : bl ≤ 9223372036854775807) (pbh : -9223372036854775808 ≤ bh) (qbh : bh ≤ 9223372036854775807) (oa : al ≤ ah) (ob : bl ≤ bh) (w : World) : Calls Tryz.prog 79 #[vI vK 21, .agg #[vI vK al, vI vK ah], .agg #[vI vK bl, vI vK bh]] w fun e w' => e = .returned (.tuple #[.agg #[vI vK (((belV 1 bl bh al ah).2.1).1), vI vK (((belV 1 bl bh al ah).2.1).2)], .agg #[vI vK (((belV 1 bl bh al ah).1).1), vI vK (((belV 1 bl bh al ah).1).2)], .bool ((belV 1 bl bh al ah).2.2)]) ∧ Below w.heap.size w w' := by
 go_enter Tryz.func79, Tryz.ntmps79
 go_wp2_with fail
 go_cut [11, 12, 13] (fun s11 s12 s13 wx => ∃ L U : Nat, s11 = .pointer (some ⟨L, 0, none⟩) ∧ s12 = .pointer (some ⟨U, 0, none⟩) ∧ s13 = .bool (belV 1 bl bh al ah).2.2 ∧ Below w.heap.size w wx ∧ Outs w.heap.size L U (belV 1 bl bh al ah).1.1 (belV 1 bl bh al ah).1.2 (belV 1 bl bh al ah).2.1.1 (belV 1 bl bh al ah).2.1.2 wx)
 case first =>
  go_region_held3 (fun w' => w'.cell? ⟨w.heap.size, 0, none⟩ = some (vI vK al) ∧ w'.cell? ⟨w.heap.size, 1, none⟩ = some (vI vK ah) ∧ w'.cell? ⟨w.heap.size + 1, 0, none⟩ = some (vI vK bl) ∧ w'.cell? ⟨w.heap.size + 1, 1, none⟩ = some (vI vK bh)) (first | (simp [go_sem]; done) | (simp [go_sem, *]; done) | go_keep) (first | (go_at_call 93; refine (zJe _).mono ?_; rintro e w' ⟨rfl, rfl⟩) | (go_at_call 92; go_must (refine (zGn _ _ _ _ pbl qbl pbh qbh pal qal pah qah ob oa _).mono ?_; rintro e w1 ⟨rfl, hb1⟩; have hX1 : Quad w.heap.size al ah bl bh w1 := Quad.later (by first | exact hX1 | (refine ⟨?_, ?_, ?_, ?_, ?_, ?_, ?_, ?_, ?_, ?_, ?_, ?_, ?_, ?_, ?_, ?_, ?_⟩ <;> simp [go_sem])) hb1; have hbw1 : Below w.heap.size w w1 := (by ((refine Below.trans ?_ (hb1.mono ?_)) <;> repeat' first | exact bF _ _ | exact hbw1 | refine bA ?_ ?_ _ | refine bS ?_ ?_ _ | refine bD ?_ | refine below_drewN ?_ _ | (simp; done) | (simp; omega) | (simp [z00]; done) | (simp [z00]; omega) | omega)); have hY := hX1; obtain ⟨t0, a0, a1, af0, af1, b0, b1, bf0, bf1, r0, r1, rf0, rf1, s0, s1, sf0, sf1⟩ := hY; have u2 : w.heap.size + 1 + 1 < w1.heap.size := (by omega); have u0 : w.heap.size < w1.heap.size := (by omega); have u1 : w.heap.size + 1 < w1.heap.size := (by omega); have v4 := z1n hb1 (w.heap.size + 1 + 1 + 1 + 1); have v5 := z1n hb1 (w.heap.size + 1 + 1 + 1 + 1 + 1); (try simp [go_sem] at v4); (try simp [go_sem] at v5))))
  all_goals (go_wp2_with fail; go_meet)
  all_goals exact ⟨_, _, rfl, rfl, rfl, by repeat' first | exact bF _ _ | exact hbw1 | refine bA ?_ ?_ _ | refine bS ?_ ?_ _ | refine bD ?_ | refine below_drewN ?_ _ | (simp; done) | (simp; omega) | (simp [z00]; done) | (simp [z00]; omega) | omega, by refine ⟨?_, ?_, ?_, ?_, ?_, ?_, ?_, ?_, ?_, ?_, ?_, ?_, ?_, ?_, ?_, ?_⟩ <;> first | (simp [go_sem, *]; done) | omega | (simp; omega)⟩
 case rest =>
 obtain ⟨L, U, rfl, rfl, rfl, hbw, r0, r1, rf0, rf1, s0, s1, sf0, sf1, l0, l1, m0, m1, n0, n1, n2, n3⟩ := hcut
 go_wp2_with fail
 all_goals go_region
 all_goals go_wp2
 all_goals exact bodyPost_ret (v := .tuple #[.agg #[vI vK (((belV 1 bl bh al ah).2.1).1), vI vK (((belV 1 bl bh al ah).2.1).2)], .agg #[vI vK (((belV 1 bl bh al ah).1).1), vI vK (((belV 1 bl bh al ah).1).2)], .bool ((belV 1 bl bh al ah).2.2)]) (by simp [results, Tryz.results79, go_sem, r0, r1, s0, s1]) rfl ⟨rfl, by repeat' first | exact bF _ _ | exact hbw | refine bA ?_ ?_ _ | refine bS ?_ ?_ _ | refine bD ?_ | refine below_drewN ?_ _ | (simp; done) | (simp; omega) | (simp [z00]; done) | (simp [z00]; omega) | omega⟩
end Go.Proofs.YteenhdoaminkeaaGreatDoor
namespace Go.Proofs.YteenhdoaminkeaaGreatDoor
open Go.ChangeShapes Go.WideShapes Go.ChangeAt Go.RowKit
set_option linter.unusedVariables false
attribute [local simp] z00 z0y z0o

theorem nar_22 (al ah bl bh : Int) (pal : -9223372036854775808 ≤ al) (qal : al ≤ 9223372036854775807) (pah : -9223372036854775808 ≤ ah) (qah : ah ≤ 9223372036854775807) (pbl : -9223372036854775808 ≤ bl) (qbl : bl ≤ 9223372036854775807) (pbh : -9223372036854775808 ≤ bh) (qbh : bh ≤ 9223372036854775807) (oa : al ≤ ah) (ob : bl ≤ bh) (w : World) : Calls Tryz.prog 79 #[vI vK 22, .agg #[vI vK al, vI vK ah], .agg #[vI vK bl, vI vK bh]] w fun e w' => e = .returned (.tuple #[.agg #[vI vK (((belV 0 bl bh al ah).2.1).1), vI vK (((belV 0 bl bh al ah).2.1).2)], .agg #[vI vK (((belV 0 bl bh al ah).1).1), vI vK (((belV 0 bl bh al ah).1).2)], .bool ((belV 0 bl bh al ah).2.2)]) ∧ Below w.heap.size w w' := by
 go_enter Tryz.func79, Tryz.ntmps79
 go_wp2_with fail
 go_cut [11, 12, 13] (fun s11 s12 s13 wx => ∃ L U : Nat, s11 = .pointer (some ⟨L, 0, none⟩) ∧ s12 = .pointer (some ⟨U, 0, none⟩) ∧ s13 = .bool (belV 0 bl bh al ah).2.2 ∧ Below w.heap.size w wx ∧ Outs w.heap.size L U (belV 0 bl bh al ah).1.1 (belV 0 bl bh al ah).1.2 (belV 0 bl bh al ah).2.1.1 (belV 0 bl bh al ah).2.1.2 wx)
 case first =>
  go_region_held3 (fun w' => w'.cell? ⟨w.heap.size, 0, none⟩ = some (vI vK al) ∧ w'.cell? ⟨w.heap.size, 1, none⟩ = some (vI vK ah) ∧ w'.cell? ⟨w.heap.size + 1, 0, none⟩ = some (vI vK bl) ∧ w'.cell? ⟨w.heap.size + 1, 1, none⟩ = some (vI vK bh)) (first | (simp [go_sem]; done) | (simp [go_sem, *]; done) | go_keep) (first | (go_at_call 93; refine (zJd _).mono ?_; rintro e w' ⟨rfl, rfl⟩) | (go_at_call 92; go_must (refine (zGm _ _ _ _ pbl qbl pbh qbh pal qal pah qah ob oa _).mono ?_; rintro e w1 ⟨rfl, hb1⟩; have hX1 : Quad w.heap.size al ah bl bh w1 := Quad.later (by first | exact hX1 | (refine ⟨?_, ?_, ?_, ?_, ?_, ?_, ?_, ?_, ?_, ?_, ?_, ?_, ?_, ?_, ?_, ?_, ?_⟩ <;> simp [go_sem])) hb1; have hbw1 : Below w.heap.size w w1 := (by ((refine Below.trans ?_ (hb1.mono ?_)) <;> repeat' first | exact bF _ _ | exact hbw1 | refine bA ?_ ?_ _ | refine bS ?_ ?_ _ | refine bD ?_ | refine below_drewN ?_ _ | (simp; done) | (simp; omega) | (simp [z00]; done) | (simp [z00]; omega) | omega)); have hY := hX1; obtain ⟨t0, a0, a1, af0, af1, b0, b1, bf0, bf1, r0, r1, rf0, rf1, s0, s1, sf0, sf1⟩ := hY; have u2 : w.heap.size + 1 + 1 < w1.heap.size := (by omega); have u0 : w.heap.size < w1.heap.size := (by omega); have u1 : w.heap.size + 1 < w1.heap.size := (by omega); have v4 := z1n hb1 (w.heap.size + 1 + 1 + 1 + 1); have v5 := z1n hb1 (w.heap.size + 1 + 1 + 1 + 1 + 1); (try simp [go_sem] at v4); (try simp [go_sem] at v5))))
  all_goals (go_wp2_with fail; go_meet)
  all_goals exact ⟨_, _, rfl, rfl, rfl, by repeat' first | exact bF _ _ | exact hbw1 | refine bA ?_ ?_ _ | refine bS ?_ ?_ _ | refine bD ?_ | refine below_drewN ?_ _ | (simp; done) | (simp; omega) | (simp [z00]; done) | (simp [z00]; omega) | omega, by refine ⟨?_, ?_, ?_, ?_, ?_, ?_, ?_, ?_, ?_, ?_, ?_, ?_, ?_, ?_, ?_, ?_⟩ <;> first | (simp [go_sem, *]; done) | omega | (simp; omega)⟩
 case rest =>
 obtain ⟨L, U, rfl, rfl, rfl, hbw, r0, r1, rf0, rf1, s0, s1, sf0, sf1, l0, l1, m0, m1, n0, n1, n2, n3⟩ := hcut
 go_wp2_with fail
 all_goals go_region
 all_goals go_wp2
 all_goals exact bodyPost_ret (v := .tuple #[.agg #[vI vK (((belV 0 bl bh al ah).2.1).1), vI vK (((belV 0 bl bh al ah).2.1).2)], .agg #[vI vK (((belV 0 bl bh al ah).1).1), vI vK (((belV 0 bl bh al ah).1).2)], .bool ((belV 0 bl bh al ah).2.2)]) (by simp [results, Tryz.results79, go_sem, r0, r1, s0, s1]) rfl ⟨rfl, by repeat' first | exact bF _ _ | exact hbw | refine bA ?_ ?_ _ | refine bS ?_ ?_ _ | refine bD ?_ | refine below_drewN ?_ _ | (simp; done) | (simp; omega) | (simp [z00]; done) | (simp [z00]; omega) | omega⟩
end Go.Proofs.YteenhdoaminkeaaGreatDoor
namespace Go.Proofs.YteenhdoaminkeaaGreatDoor
open Go.ChangeShapes Go.WideShapes Go.ChangeAt Go.RowKit

theorem zL8 (c al ah bl bh : Int) (pal : -9223372036854775808 ≤ al) (qal : al ≤ 9223372036854775807) (pah : -9223372036854775808 ≤ ah) (qah : ah ≤ 9223372036854775807) (pbl : -9223372036854775808 ≤ bl) (qbl : bl ≤ 9223372036854775807) (pbh : -9223372036854775808 ≤ bh) (qbh : bh ≤ 9223372036854775807) (oa : al ≤ ah) (ob : bl ≤ bh) (w : World) : Calls Tryz.prog 79 #[vI vK c, .agg #[vI vK al, vI vK ah], .agg #[vI vK bl, vI vK bh]] w fun e w' => e = .returned (.tuple #[.agg #[vI vK (((narV c al ah bl bh).1).1), vI vK (((narV c al ah bl bh).1).2)], .agg #[vI vK (((narV c al ah bl bh).2.1).1), vI vK (((narV c al ah bl bh).2.1).2)], .bool ((narV c al ah bl bh).2.2)]) ∧ Below w.heap.size w w' := by
 by_cases hc : c < 15 ∨ 24 < c
 ·rw [zL9 al ah bl bh hc]
  exact nar_no c al ah bl bh hc w
 ·have e : c = 15 ∨ c = 16 ∨ c = 17 ∨ c = 18 ∨ c = 19 ∨ c = 20 ∨ c = 21 ∨ c = 22 ∨ c = 23 ∨ c = 24 := by omega
  rcases e with rfl | rfl | rfl | rfl | rfl | rfl | rfl | rfl | rfl | rfl
  ·rw [zEz]; exact nar_15 al ah bl bh pal qal pah qah pbl qbl pbh qbh oa ob w
  ·rw [zEy]; exact nar_16 al ah bl bh pal qal pah qah pbl qbl pbh qbh oa ob w
  ·rw [zEx]; exact nar_17 al ah bl bh pal qal pah qah pbl qbl pbh qbh oa ob w
  ·rw [zEw]; exact nar_18 al ah bl bh pal qal pah qah pbl qbl pbh qbh oa ob w
  ·rw [zAz]; exact nar_19 al ah bl bh pal qal pah qah pbl qbl pbh qbh oa ob w
  ·rw [zAy]; exact nar_20 al ah bl bh pal qal pah qah pbl qbl pbh qbh oa ob w
  ·rw [z8r]; exact nar_21 al ah bl bh pal qal pah qah pbl qbl pbh qbh oa ob w
  ·rw [z8q]; exact nar_22 al ah bl bh pal qal pah qah pbl qbl pbh qbh oa ob w
  ·rw [zEv]; exact nar_23 al ah bl bh pal qal pah qah pbl qbl pbh qbh oa ob w
  ·rw [zEu]; exact nar_24 al ah bl bh pal qal pah qah pbl qbl pbh qbh oa ob w
theorem opp_is (c : Int) (h : 15 ≤ c ∧ c ≤ 24) (w : World) : Calls Tryz.prog 71 #[vI vK c] w fun e w' => e = .returned (vI vK (oppV c)) ∧ w' = w := by
 have e : c = 15 ∨ c = 16 ∨ c = 17 ∨ c = 18 ∨ c = 19 ∨ c = 20 ∨ c = 21 ∨ c = 22 ∨ c = 23 ∨ c = 24 := by omega
 rcases e with rfl | rfl | rfl | rfl | rfl | rfl | rfl | rfl | rfl | rfl
 ·exact opp_15 w
 ·exact opp_16 w
 ·exact opp_17 w
 ·exact opp_18 w
 ·exact opp_19 w
 ·exact opp_20 w
 ·exact opp_21 w
 ·exact opp_22 w
 ·exact opp_23 w
 ·exact opp_24 w
end Go.Proofs.YteenhdoaminkeaaGreatDoor
namespace Go.Proofs.YteenhdoaminkeaaGreatDoor
open Go.ChangeShapes Go.WideShapes Go.ChangeAt Go.RowKit
attribute [local simp] z00 z0y z0o
set_option linter.unusedVariables false
theorem z6k (k l h : Int) (w : World) : (Instr.field 72 (.agg #[vI vK k, vI vK l, vI vK h]) 1).run Tryz.prog w = .ok (.agg #[vI vK l, vI vK h]) w := by kernel_rfl
theorem zGz (B d s : Nat) (c o n p code : Int) (r : Bool) (y : Way) (hd : d < 11) (hs : s < 11) (bk bl bh : Int) (HB : Hid (y.second s r n = ⟨bk, bl, bh⟩)) (x0 x1 y0 y1 : Int) (HN : Hid (∀ W : World, Calls Tryz.prog 79 #[vI vK code, .agg #[vI vK (y.reg d).l, vI vK (y.reg d).h], .agg #[vI vK bl, vI vK bh]] W fun e w' => e = .returned (.tuple #[.agg #[vI vK x0, vI vK x1], .agg #[vI vK y0, vI vK y1], .bool false]) ∧ Below W.heap.size W w')) (w : World) (hW : z05 w B p y) :
  Calls Tryz.prog 70 #[.pointer (some ⟨B, 0, none⟩), .agg #[vI vK c, vI vK d, vI vK s, .bool r, vI vK o, vI vK n], vI vK code] w fun e w' => e = .returned (.bool false) ∧ Below w.heap.size w w' := by
 have hK0 : Blk w [(w.heap.size, .cells #[vI vK c, vI vK d, vI vK s, .bool r, vI vK o, vI vK n] 59 (0, 0)), (B, .cells (z06 p y) 76 (0, 0))] _ := ((Blk.nil ((bF _ _).alloc (Nat.le_refl _) _)).cons (hW.alloc _)).cons (heap_alloc_new w (.cells #[vI vK c, vI vK d, vI vK s, .bool r, vI vK o, vI vK n] 59))
 have hB := hW.lt
 have hs0 : (0 : Int) ≤ (s : Int) := by omega
 have hs1 : (s : Int) < 11 := by omega
 have hd0 : (0 : Int) ≤ (d : Int) := by omega
 have hd1 : (d : Int) < 11 := by omega
 have hfl := z6k bk bl bh
 go_enter Tryz.func70, Tryz.ntmps70
 go_wp2_with fail
 refine z0n (C := Blk w [(w.heap.size, .cells #[vI vK c, vI vK d, vI vK s, .bool r, vI vK o, vI vK n] 59 (0, 0)), (B, .cells (z06 p y) 76 (0, 0))]) (n0 := w.heap.size + 1) 18 [16, 17] [.cells #[vI vK 0, vI vK 0] 30 (0, 0), .cells #[vI vK 0, vI vK 0] 30 (0, 0)] (by kernel_rfl) (by kernel_rfl) (fun d _ _ _ _ h => by cases d <;> exact h) (Blk.stable _ _) (Blk.room w mcS) hK0.drew ⟨⟨rfl, fun a w2 hC => by go_simp; try rfl⟩, ⟨rfl, fun a w2 hC => by go_simp; try rfl⟩, trivial⟩ ?_
 simp only [List.take_succ_cons, List.take_zero, List.drop_succ_cons, List.drop_zero, List.length_cons, List.length_nil, Nat.reduceAdd]
 repeat (first
  | (refine z0k (by rfl) ?_; simp only [Act.put, siA, scZ, scS])
  | (refine z0b (by rfl) (v := ?_) ?_ ?_; rotate_left; (intro w2 hC; obtain ⟨p0, p1, p2, p3, p4, p5, ltS⟩ := row6 (hC.2 _ mcS); have yW : z05 _ B _ _ := (hC.2 _ (mcO _ mcS)); have ylt := yW.lt; obtain ⟨i0, i1, i2⟩ := yW.reg hd; go_simp; try with_reducible rfl); simp only [Act.put, siA, scZ, scS])
  | (refine z0p (by rfl) ?_; apply Exists.intro; refine ⟨fun w2 hC => ?_, ?_⟩; (obtain ⟨p0, p1, p2, p3, p4, p5, ltS⟩ := row6 (hC.2 _ mcS); have yW : z05 _ B _ _ := (hC.2 _ (mcO _ mcS)); have ylt := yW.lt; obtain ⟨i0, i1, i2⟩ := yW.reg hd; go_simp; apply z0v; first | (go_at_call 58; exact (by have hq := z2g B s c d o n r p y hs w2 yW; rw [HB.out] at hq; unfold Kno.v at hq; exact hq)) | (go_at_call 79; exact HN.out w2)); simp only [Act.put, siA, scZ, scS]))
 refine z0t ?_
 intro L h5 g5 K h6 g6 w3 hC hB3
 have hne : K ≠ L := (FB.upd_none h6).1
 have hne' : L ≠ K := fun e => hne e.symm
 have bK := hB3 K _ (FB.at_new _ _ _)
 have bL := hB3 L _ (FB.at_old hne' (FB.at_new _ _ _))
 obtain ⟨l0, l1, lf0, lf1, llt⟩ := row2 bL
 obtain ⟨k0, k1, kf0, kf1, klt⟩ := row2 bK
 obtain ⟨p0, p1, p2, p3, p4, p5, ltS⟩ := row6 (hC.2 _ mcS); have yW : z05 _ B _ _ := (hC.2 _ (mcO _ mcS)); have ylt := yW.lt; obtain ⟨i0, i1, i2⟩ := yW.reg hd
 have hbw := hC.1
 have n1 : w.heap.size ≠ L := by omega
 have n2 : B ≠ L := by omega
 have n3 : w.heap.size ≠ K := by omega
 have n4 : B ≠ K := by omega
 simp only [z4l]
 go_wp2_with fail
 go_ret
 exact ⟨rfl, (by repeat' first | with_reducible (first | exact hbw | exact bF _ _ | refine bA ?_ ?_ _ | refine bS ?_ ?_ _ | refine bD ?_ | refine z08 ?_ ?_ _) | ((try dsimp only); omega) | (simp; done) | (simp; omega))⟩
theorem zBu (B d : Nat) (c o n p code : Int) (y : Way) (hd : d < 11) (bk bl bh : Int) (HB : Hid (y.second d true n = ⟨bk, bl, bh⟩)) (x0 x1 y0 y1 : Int) (HN : Hid (∀ W : World, Calls Tryz.prog 79 #[vI vK code, .agg #[vI vK (y.reg d).l, vI vK (y.reg d).h], .agg #[vI vK bl, vI vK bh]] W fun e w' => e = .returned (.tuple #[.agg #[vI vK x0, vI vK x1], .agg #[vI vK y0, vI vK y1], .bool true]) ∧ Below W.heap.size W w')) (w : World) (hW : z05 w B p y) :
  Calls Tryz.prog 70 #[.pointer (some ⟨B, 0, none⟩), .agg #[vI vK c, vI vK d, vI vK d, .bool true, vI vK o, vI vK n], vI vK code] w fun e w' => e = .returned (.bool true) ∧ Below w.heap.size w w' := by
 have hK0 : Blk w [(w.heap.size, .cells #[vI vK c, vI vK d, vI vK d, .bool true, vI vK o, vI vK n] 59 (0, 0)), (B, .cells (z06 p y) 76 (0, 0))] _ := ((Blk.nil ((bF _ _).alloc (Nat.le_refl _) _)).cons (hW.alloc _)).cons (heap_alloc_new w (.cells #[vI vK c, vI vK d, vI vK d, .bool true, vI vK o, vI vK n] 59))
 have hB := hW.lt
 have hd0 : (0 : Int) ≤ (d : Int) := by omega
 have hd1 : (d : Int) < 11 := by omega
 have hfl := z6k bk bl bh
 go_enter Tryz.func70, Tryz.ntmps70
 go_wp2_with fail
 refine z0n (C := Blk w [(w.heap.size, .cells #[vI vK c, vI vK d, vI vK d, .bool true, vI vK o, vI vK n] 59 (0, 0)), (B, .cells (z06 p y) 76 (0, 0))]) (n0 := w.heap.size + 1) 18 [16, 17] [.cells #[vI vK 0, vI vK 0] 30 (0, 0), .cells #[vI vK 0, vI vK 0] 30 (0, 0)] (by kernel_rfl) (by kernel_rfl) (fun d _ _ _ _ h => by cases d <;> exact h) (Blk.stable _ _) (Blk.room w mcS) hK0.drew ⟨⟨rfl, fun a w2 hC => by go_simp; try rfl⟩, ⟨rfl, fun a w2 hC => by go_simp; try rfl⟩, trivial⟩ ?_
 simp only [List.take_succ_cons, List.take_zero, List.drop_succ_cons, List.drop_zero, List.length_cons, List.length_nil, Nat.reduceAdd]
 repeat (first
  | (refine z0k (by rfl) ?_; simp only [Act.put, siA, scZ, scS])
  | (refine z0b (by rfl) (v := ?_) ?_ ?_; rotate_left; (intro w2 hC; obtain ⟨p0, p1, p2, p3, p4, p5, ltS⟩ := row6 (hC.2 _ mcS); have yW : z05 _ B _ _ := (hC.2 _ (mcO _ mcS)); have ylt := yW.lt; obtain ⟨i0, i1, i2⟩ := yW.reg hd; go_simp; try with_reducible rfl); simp only [Act.put, siA, scZ, scS])
  | (refine z0p (by rfl) ?_; apply Exists.intro; refine ⟨fun w2 hC => ?_, ?_⟩; (obtain ⟨p0, p1, p2, p3, p4, p5, ltS⟩ := row6 (hC.2 _ mcS); have yW : z05 _ B _ _ := (hC.2 _ (mcO _ mcS)); have ylt := yW.lt; obtain ⟨i0, i1, i2⟩ := yW.reg hd; go_simp; apply z0v; first | (go_at_call 58; exact (by have hq := z2g B d c d o n true p y hd w2 yW; rw [HB.out] at hq; unfold Kno.v at hq; exact hq)) | (go_at_call 79; exact HN.out w2)); simp only [Act.put, siA, scZ, scS]))
 refine z0t ?_
 intro L h5 g5 K h6 g6 w3 hC hB3
 have hne : K ≠ L := (FB.upd_none h6).1
 have hne' : L ≠ K := fun e => hne e.symm
 have bK := hB3 K _ (FB.at_new _ _ _)
 have bL := hB3 L _ (FB.at_old hne' (FB.at_new _ _ _))
 obtain ⟨l0, l1, lf0, lf1, llt⟩ := row2 bL
 obtain ⟨k0, k1, kf0, kf1, klt⟩ := row2 bK
 obtain ⟨p0, p1, p2, p3, p4, p5, ltS⟩ := row6 (hC.2 _ mcS); have yW : z05 _ B _ _ := (hC.2 _ (mcO _ mcS)); have ylt := yW.lt; obtain ⟨i0, i1, i2⟩ := yW.reg hd
 have hbw := hC.1
 have n1 : w.heap.size ≠ L := by omega
 have n2 : B ≠ L := by omega
 have n3 : w.heap.size ≠ K := by omega
 have n4 : B ≠ K := by omega
 simp only [z4l]
 go_wp2_with fail
 go_ret
 exact ⟨rfl, (by repeat' first | with_reducible (first | exact hbw | exact bF _ _ | refine bA ?_ ?_ _ | refine bS ?_ ?_ _ | refine bD ?_ | refine z08 ?_ ?_ _) | ((try dsimp only); omega) | (simp; done) | (simp; omega))⟩
theorem zDo (B d s : Nat) (c o n p code : Int) (y : Way) (hd : d < 11) (hs : s < 11) (bk bl bh : Int) (HB : Hid (y.second s false n = ⟨bk, bl, bh⟩)) (x0 x1 y0 y1 : Int) (HN : Hid (∀ W : World, Calls Tryz.prog 79 #[vI vK code, .agg #[vI vK (y.reg d).l, vI vK (y.reg d).h], .agg #[vI vK bl, vI vK bh]] W fun e w' => e = .returned (.tuple #[.agg #[vI vK x0, vI vK x1], .agg #[vI vK y0, vI vK y1], .bool true]) ∧ Below W.heap.size W w')) (w : World) (hW : z05 w B p y) :
  Calls Tryz.prog 70 #[.pointer (some ⟨B, 0, none⟩), .agg #[vI vK c, vI vK d, vI vK s, .bool false, vI vK o, vI vK n], vI vK code] w fun e w' => e = .returned (.bool true) ∧ Kept B w w' ∧ z05 w' B p (y.putReg d ⟨1, x0, x1⟩) := by
 have hK0 : Blk w [(w.heap.size, .cells #[vI vK c, vI vK d, vI vK s, .bool false, vI vK o, vI vK n] 59 (0, 0)), (B, .cells (z06 p y) 76 (0, 0))] _ := ((Blk.nil ((bF _ _).alloc (Nat.le_refl _) _)).cons (hW.alloc _)).cons (heap_alloc_new w (.cells #[vI vK c, vI vK d, vI vK s, .bool false, vI vK o, vI vK n] 59))
 have hB := hW.lt
 have hs0 : (0 : Int) ≤ (s : Int) := by omega
 have hs1 : (s : Int) < 11 := by omega
 have hd0 : (0 : Int) ≤ (d : Int) := by omega
 have hd1 : (d : Int) < 11 := by omega
 have hfl := z6k bk bl bh
 go_enter Tryz.func70, Tryz.ntmps70
 go_wp2_with fail
 refine z0n (C := Blk w [(w.heap.size, .cells #[vI vK c, vI vK d, vI vK s, .bool false, vI vK o, vI vK n] 59 (0, 0)), (B, .cells (z06 p y) 76 (0, 0))]) (n0 := w.heap.size + 1) 18 [16, 17] [.cells #[vI vK 0, vI vK 0] 30 (0, 0), .cells #[vI vK 0, vI vK 0] 30 (0, 0)] (by kernel_rfl) (by kernel_rfl) (fun d _ _ _ _ h => by cases d <;> exact h) (Blk.stable _ _) (Blk.room w mcS) hK0.drew ⟨⟨rfl, fun a w2 hC => by go_simp; try rfl⟩, ⟨rfl, fun a w2 hC => by go_simp; try rfl⟩, trivial⟩ ?_
 simp only [List.take_succ_cons, List.take_zero, List.drop_succ_cons, List.drop_zero, List.length_cons, List.length_nil, Nat.reduceAdd]
 repeat (first
  | (refine z0k (by rfl) ?_; simp only [Act.put, siA, scZ, scS])
  | (refine z0b (by rfl) (v := ?_) ?_ ?_; rotate_left; (intro w2 hC; obtain ⟨p0, p1, p2, p3, p4, p5, ltS⟩ := row6 (hC.2 _ mcS); have yW : z05 _ B _ _ := (hC.2 _ (mcO _ mcS)); have ylt := yW.lt; obtain ⟨i0, i1, i2⟩ := yW.reg hd; go_simp; try with_reducible rfl); simp only [Act.put, siA, scZ, scS])
  | (refine z0p (by rfl) ?_; apply Exists.intro; refine ⟨fun w2 hC => ?_, ?_⟩; (obtain ⟨p0, p1, p2, p3, p4, p5, ltS⟩ := row6 (hC.2 _ mcS); have yW : z05 _ B _ _ := (hC.2 _ (mcO _ mcS)); have ylt := yW.lt; obtain ⟨i0, i1, i2⟩ := yW.reg hd; go_simp; apply z0v; first | (go_at_call 58; exact (by have hq := z2g B s c d o n false p y hs w2 yW; rw [HB.out] at hq; unfold Kno.v at hq; exact hq)) | (go_at_call 79; exact HN.out w2)); simp only [Act.put, siA, scZ, scS]))
 refine z0t ?_
 intro L h5 g5 K h6 g6 w3 hC hB3
 have hne : K ≠ L := (FB.upd_none h6).1
 have hne' : L ≠ K := fun e => hne e.symm
 have bK := hB3 K _ (FB.at_new _ _ _)
 have bL := hB3 L _ (FB.at_old hne' (FB.at_new _ _ _))
 obtain ⟨l0, l1, lf0, lf1, llt⟩ := row2 bL
 obtain ⟨k0, k1, kf0, kf1, klt⟩ := row2 bK
 obtain ⟨p0, p1, p2, p3, p4, p5, ltS⟩ := row6 (hC.2 _ mcS); have yW : z05 _ B _ _ := (hC.2 _ (mcO _ mcS)); have ylt := yW.lt; obtain ⟨i0, i1, i2⟩ := yW.reg hd
 have hbw := hC.1
 have n1 : w.heap.size ≠ L := by omega
 have n2 : B ≠ L := by omega
 have n3 : w.heap.size ≠ K := by omega
 have n4 : B ≠ K := by omega
 simp only [z4l]
 go_wp2_with fail
 have hK1 : Blk w [(L, .cells #[vI vK x0, vI vK x1] 30 (0, 0)), (K, .cells #[vI vK y0, vI vK y1] 30 (0, 0)), (B, .cells (z06 p y) 76 (0, 0)), (w.heap.size, .cells #[vI vK c, vI vK d, vI vK s, .bool false, vI vK o, vI vK n] 59 (0, 0))] _ := ((((Blk.nil (by repeat' first | with_reducible (first | exact hbw | exact bF _ _ | refine bA ?_ ?_ _ | refine bS ?_ ?_ _ | refine bD ?_ | refine z08 ?_ ?_ _) | ((try dsimp only); omega) | (simp; done) | (simp; omega))).cons (off2 (off2 (hC.2 _ mcS) n1) n3)).cons (off2 (off2 (hC.2 _ (mcO _ mcS)) n2) n4)).cons (put2 (off2 bK hne))).cons (off2 (put2 bL) hne')
 clear l0 l1 lf0 lf1 llt k0 k1 kf0 kf1 klt p0 p1 p2 p3 p4 p5 ltS yW ylt i0 i1 i2 hC hbw bL bK hB3
 refine z0n (C := Blk w [(L, .cells #[vI vK x0, vI vK x1] 30 (0, 0)), (K, .cells #[vI vK y0, vI vK y1] 30 (0, 0)), (B, .cells (z06 p y) 76 (0, 0)), (w.heap.size, .cells #[vI vK c, vI vK d, vI vK s, .bool false, vI vK o, vI vK n] 59 (0, 0))]) (n0 := w.heap.size) 8 [] [] (by kernel_rfl) (by kernel_rfl) (fun d _ _ _ _ h => by cases d <;> exact h) (Blk.stable _ _) (Blk.room0 _ _) hK1.drew trivial ?_
 simp only [List.take_succ_cons, List.take_zero, List.drop_succ_cons, List.drop_zero, List.length_nil, Nat.reduceAdd]
 repeat (first
  | (refine z0k (by rfl) ?_; simp only [Act.put, siA, scZ, scS])
  | (refine z0b (by rfl) (v := ?_) ?_ ?_; rotate_left; (intro w2 hC; obtain ⟨l0, l1, lf0, lf1, llt⟩ := row2 (hC.2 _ mcS); obtain ⟨k0, k1, kf0, kf1, klt⟩ := row2 (hC.2 _ (mcO _ mcS)); have yW : z05 _ B _ _ := (hC.2 _ (mcO _ (mcO _ mcS))); have ylt := yW.lt; obtain ⟨i0, i1, i2⟩ := yW.reg hd; obtain ⟨p0, p1, p2, p3, p4, p5, ltS⟩ := row6 (hC.2 _ (mcO _ (mcO _ (mcO _ mcS)))); go_simp; try with_reducible rfl); simp only [Act.put, siA, scZ, scS])
  | (refine z0p (by rfl) ?_; apply Exists.intro; refine ⟨fun w2 hC => ?_, ?_⟩; (obtain ⟨l0, l1, lf0, lf1, llt⟩ := row2 (hC.2 _ mcS); obtain ⟨k0, k1, kf0, kf1, klt⟩ := row2 (hC.2 _ (mcO _ mcS)); have yW : z05 _ B _ _ := (hC.2 _ (mcO _ (mcO _ mcS))); have ylt := yW.lt; obtain ⟨i0, i1, i2⟩ := yW.reg hd; obtain ⟨p0, p1, p2, p3, p4, p5, ltS⟩ := row6 (hC.2 _ (mcO _ (mcO _ (mcO _ mcS)))); go_simp; apply z0v; first | (go_at_call 62; exact (by have hq := z1k x0 x1 w2; unfold Kno.v z15 at hq; exact hq))); simp only [Act.put, siA, scZ, scS]))
 refine z0t ?_
 intro w5 hC hB5
 obtain ⟨l0, l1, lf0, lf1, llt⟩ := row2 (hC.2 _ mcS); obtain ⟨k0, k1, kf0, kf1, klt⟩ := row2 (hC.2 _ (mcO _ mcS)); have yW : z05 _ B _ _ := (hC.2 _ (mcO _ (mcO _ mcS))); have ylt := yW.lt; obtain ⟨i0, i1, i2⟩ := yW.reg hd; obtain ⟨p0, p1, p2, p3, p4, p5, ltS⟩ := row6 (hC.2 _ (mcO _ (mcO _ (mcO _ mcS))))
 have if0 := yW.frozen (1 + d * 3); have if1 := yW.frozen (1 + d * 3 + 1); have if2 := yW.frozen (1 + d * 3 + 2)
 have HK := z1q hC.1 B
 go_wp2_with fail
 go_ret
 exact ⟨rfl, (by repeat' first | with_reducible (first | exact HK | refine z3g ?_ | refine kept_set ?_ _ _ | refine z40 ?_ _ _ ?_ | refine z2w ?_ _) | ((try dsimp only); omega) | (simp; omega)), yW.reg3 hd 1 x0 x1⟩
theorem zDn (B d s : Nat) (c o n p code : Int) (y : Way) (hd : d < 11) (hs : s < 11) (bk bl bh : Int) (HB : Hid (y.second s true n = ⟨bk, bl, bh⟩)) (x0 x1 y0 y1 : Int) (HN : Hid (∀ W : World, Calls Tryz.prog 79 #[vI vK code, .agg #[vI vK (y.reg d).l, vI vK (y.reg d).h], .agg #[vI vK bl, vI vK bh]] W fun e w' => e = .returned (.tuple #[.agg #[vI vK x0, vI vK x1], .agg #[vI vK y0, vI vK y1], .bool true]) ∧ Below W.heap.size W w')) (hsd : ¬ (s : Int) = (d : Int)) (hsd2 : ¬ s = d) (w : World) (hW : z05 w B p y) :
  Calls Tryz.prog 70 #[.pointer (some ⟨B, 0, none⟩), .agg #[vI vK c, vI vK d, vI vK s, .bool true, vI vK o, vI vK n], vI vK code] w fun e w' => e = .returned (.bool true) ∧ Kept B w w' ∧ z05 w' B p ((y.putReg d ⟨1, x0, x1⟩).putReg s ⟨1, y0, y1⟩) := by
 have hK0 : Blk w [(w.heap.size, .cells #[vI vK c, vI vK d, vI vK s, .bool true, vI vK o, vI vK n] 59 (0, 0)), (B, .cells (z06 p y) 76 (0, 0))] _ := ((Blk.nil ((bF _ _).alloc (Nat.le_refl _) _)).cons (hW.alloc _)).cons (heap_alloc_new w (.cells #[vI vK c, vI vK d, vI vK s, .bool true, vI vK o, vI vK n] 59))
 have hB := hW.lt
 have hs0 : (0 : Int) ≤ (s : Int) := by omega
 have hs1 : (s : Int) < 11 := by omega
 have hd0 : (0 : Int) ≤ (d : Int) := by omega
 have hd1 : (d : Int) < 11 := by omega
 have hfl := z6k bk bl bh
 go_enter Tryz.func70, Tryz.ntmps70
 go_wp2_with fail
 refine z0n (C := Blk w [(w.heap.size, .cells #[vI vK c, vI vK d, vI vK s, .bool true, vI vK o, vI vK n] 59 (0, 0)), (B, .cells (z06 p y) 76 (0, 0))]) (n0 := w.heap.size + 1) 18 [16, 17] [.cells #[vI vK 0, vI vK 0] 30 (0, 0), .cells #[vI vK 0, vI vK 0] 30 (0, 0)] (by kernel_rfl) (by kernel_rfl) (fun d _ _ _ _ h => by cases d <;> exact h) (Blk.stable _ _) (Blk.room w mcS) hK0.drew ⟨⟨rfl, fun a w2 hC => by go_simp; try rfl⟩, ⟨rfl, fun a w2 hC => by go_simp; try rfl⟩, trivial⟩ ?_
 simp only [List.take_succ_cons, List.take_zero, List.drop_succ_cons, List.drop_zero, List.length_cons, List.length_nil, Nat.reduceAdd]
 repeat (first
  | (refine z0k (by rfl) ?_; simp only [Act.put, siA, scZ, scS])
  | (refine z0b (by rfl) (v := ?_) ?_ ?_; rotate_left; (intro w2 hC; obtain ⟨p0, p1, p2, p3, p4, p5, ltS⟩ := row6 (hC.2 _ mcS); have yW : z05 _ B _ _ := (hC.2 _ (mcO _ mcS)); have ylt := yW.lt; obtain ⟨i0, i1, i2⟩ := yW.reg hd; go_simp; try with_reducible rfl); simp only [Act.put, siA, scZ, scS])
  | (refine z0p (by rfl) ?_; apply Exists.intro; refine ⟨fun w2 hC => ?_, ?_⟩; (obtain ⟨p0, p1, p2, p3, p4, p5, ltS⟩ := row6 (hC.2 _ mcS); have yW : z05 _ B _ _ := (hC.2 _ (mcO _ mcS)); have ylt := yW.lt; obtain ⟨i0, i1, i2⟩ := yW.reg hd; go_simp; apply z0v; first | (go_at_call 58; exact (by have hq := z2g B s c d o n true p y hs w2 yW; rw [HB.out] at hq; unfold Kno.v at hq; exact hq)) | (go_at_call 79; exact HN.out w2)); simp only [Act.put, siA, scZ, scS]))
 refine z0t ?_
 intro L h5 g5 K h6 g6 w3 hC hB3
 have hne : K ≠ L := (FB.upd_none h6).1
 have hne' : L ≠ K := fun e => hne e.symm
 have bK := hB3 K _ (FB.at_new _ _ _)
 have bL := hB3 L _ (FB.at_old hne' (FB.at_new _ _ _))
 obtain ⟨l0, l1, lf0, lf1, llt⟩ := row2 bL
 obtain ⟨k0, k1, kf0, kf1, klt⟩ := row2 bK
 obtain ⟨p0, p1, p2, p3, p4, p5, ltS⟩ := row6 (hC.2 _ mcS); have yW : z05 _ B _ _ := (hC.2 _ (mcO _ mcS)); have ylt := yW.lt; obtain ⟨i0, i1, i2⟩ := yW.reg hd
 have hbw := hC.1
 have n1 : w.heap.size ≠ L := by omega
 have n2 : B ≠ L := by omega
 have n3 : w.heap.size ≠ K := by omega
 have n4 : B ≠ K := by omega
 simp only [z4l]
 go_wp2_with fail
 have hK1 : Blk w [(L, .cells #[vI vK x0, vI vK x1] 30 (0, 0)), (K, .cells #[vI vK y0, vI vK y1] 30 (0, 0)), (B, .cells (z06 p y) 76 (0, 0)), (w.heap.size, .cells #[vI vK c, vI vK d, vI vK s, .bool true, vI vK o, vI vK n] 59 (0, 0))] _ := ((((Blk.nil (by repeat' first | with_reducible (first | exact hbw | exact bF _ _ | refine bA ?_ ?_ _ | refine bS ?_ ?_ _ | refine bD ?_ | refine z08 ?_ ?_ _) | ((try dsimp only); omega) | (simp; done) | (simp; omega))).cons (off2 (off2 (hC.2 _ mcS) n1) n3)).cons (off2 (off2 (hC.2 _ (mcO _ mcS)) n2) n4)).cons (put2 (off2 bK hne))).cons (off2 (put2 bL) hne')
 clear l0 l1 lf0 lf1 llt k0 k1 kf0 kf1 klt p0 p1 p2 p3 p4 p5 ltS yW ylt i0 i1 i2 hC hbw bL bK hB3
 refine z0n (C := Blk w [(L, .cells #[vI vK x0, vI vK x1] 30 (0, 0)), (K, .cells #[vI vK y0, vI vK y1] 30 (0, 0)), (B, .cells (z06 p y) 76 (0, 0)), (w.heap.size, .cells #[vI vK c, vI vK d, vI vK s, .bool true, vI vK o, vI vK n] 59 (0, 0))]) (n0 := w.heap.size) 8 [] [] (by kernel_rfl) (by kernel_rfl) (fun d _ _ _ _ h => by cases d <;> exact h) (Blk.stable _ _) (Blk.room0 _ _) hK1.drew trivial ?_
 simp only [List.take_succ_cons, List.take_zero, List.drop_succ_cons, List.drop_zero, List.length_nil, Nat.reduceAdd]
 repeat (first
  | (refine z0k (by rfl) ?_; simp only [Act.put, siA, scZ, scS])
  | (refine z0b (by rfl) (v := ?_) ?_ ?_; rotate_left; (intro w2 hC; obtain ⟨l0, l1, lf0, lf1, llt⟩ := row2 (hC.2 _ mcS); obtain ⟨k0, k1, kf0, kf1, klt⟩ := row2 (hC.2 _ (mcO _ mcS)); have yW : z05 _ B _ _ := (hC.2 _ (mcO _ (mcO _ mcS))); have ylt := yW.lt; obtain ⟨i0, i1, i2⟩ := yW.reg hd; obtain ⟨p0, p1, p2, p3, p4, p5, ltS⟩ := row6 (hC.2 _ (mcO _ (mcO _ (mcO _ mcS)))); go_simp; try with_reducible rfl); simp only [Act.put, siA, scZ, scS])
  | (refine z0p (by rfl) ?_; apply Exists.intro; refine ⟨fun w2 hC => ?_, ?_⟩; (obtain ⟨l0, l1, lf0, lf1, llt⟩ := row2 (hC.2 _ mcS); obtain ⟨k0, k1, kf0, kf1, klt⟩ := row2 (hC.2 _ (mcO _ mcS)); have yW : z05 _ B _ _ := (hC.2 _ (mcO _ (mcO _ mcS))); have ylt := yW.lt; obtain ⟨i0, i1, i2⟩ := yW.reg hd; obtain ⟨p0, p1, p2, p3, p4, p5, ltS⟩ := row6 (hC.2 _ (mcO _ (mcO _ (mcO _ mcS)))); go_simp; apply z0v; first | (go_at_call 62; exact (by have hq := z1k x0 x1 w2; unfold Kno.v z15 at hq; exact hq))); simp only [Act.put, siA, scZ, scS]))
 refine z0t ?_
 intro w5 hC hB5
 obtain ⟨l0, l1, lf0, lf1, llt⟩ := row2 (hC.2 _ mcS); obtain ⟨k0, k1, kf0, kf1, klt⟩ := row2 (hC.2 _ (mcO _ mcS)); have yW : z05 _ B _ _ := (hC.2 _ (mcO _ (mcO _ mcS))); have ylt := yW.lt; obtain ⟨i0, i1, i2⟩ := yW.reg hd; obtain ⟨p0, p1, p2, p3, p4, p5, ltS⟩ := row6 (hC.2 _ (mcO _ (mcO _ (mcO _ mcS))))
 have if0 := yW.frozen (1 + d * 3); have if1 := yW.frozen (1 + d * 3 + 1); have if2 := yW.frozen (1 + d * 3 + 2)
 have HK := z1q hC.1 B
 go_wp2_with fail
 have hK6 : Blk (((w5.setCell ⟨B, 1 + d * 3, none⟩ (vI vK 1)).setCell ⟨B, 1 + d * 3 + 1, none⟩ (vI vK x0)).setCell ⟨B, 1 + d * 3 + 2, none⟩ (vI vK x1)) [(K, .cells #[vI vK y0, vI vK y1] 30 (0, 0)), (B, .cells (z06 p (y.putReg d ⟨1, x0, x1⟩)) 76 (0, 0)), (w.heap.size, .cells #[vI vK c, vI vK d, vI vK s, .bool true, vI vK o, vI vK n] 59 (0, 0))] (((w5.setCell ⟨B, 1 + d * 3, none⟩ (vI vK 1)).setCell ⟨B, 1 + d * 3 + 1, none⟩ (vI vK x0)).setCell ⟨B, 1 + d * 3 + 2, none⟩ (vI vK x1)) := (((Blk.nil (bF _ _)).cons (off3 (hC.2 _ (mcO _ (mcO _ (mcO _ mcS)))) (by omega))).cons (yW.reg3 hd 1 x0 x1)).cons (off3 (hC.2 _ (mcO _ mcS)) (by omega))
 clear l0 l1 lf0 lf1 llt k0 k1 kf0 kf1 klt p0 p1 p2 p3 p4 p5 ltS yW ylt i0 i1 i2 if0 if1 if2 hB5 hC hK1
 refine z0n (C := Blk (((w5.setCell ⟨B, 1 + d * 3, none⟩ (vI vK 1)).setCell ⟨B, 1 + d * 3 + 1, none⟩ (vI vK x0)).setCell ⟨B, 1 + d * 3 + 2, none⟩ (vI vK x1)) [(K, .cells #[vI vK y0, vI vK y1] 30 (0, 0)), (B, .cells (z06 p (y.putReg d ⟨1, x0, x1⟩)) 76 (0, 0)), (w.heap.size, .cells #[vI vK c, vI vK d, vI vK s, .bool true, vI vK o, vI vK n] 59 (0, 0))]) (n0 := (((w5.setCell ⟨B, 1 + d * 3, none⟩ (vI vK 1)).setCell ⟨B, 1 + d * 3 + 1, none⟩ (vI vK x0)).setCell ⟨B, 1 + d * 3 + 2, none⟩ (vI vK x1)).heap.size) 8 [] [] (by kernel_rfl) (by kernel_rfl) (fun d _ _ _ _ h => by cases d <;> exact h) (Blk.stable _ _) (Blk.room0 _ _) hK6.drew trivial ?_
 simp only [List.take_succ_cons, List.take_zero, List.drop_succ_cons, List.drop_zero, List.length_nil, Nat.reduceAdd]
 repeat (first
  | (refine z0k (by rfl) ?_; simp only [Act.put, siA, scZ, scS])
  | (refine z0b (by rfl) (v := ?_) ?_ ?_; rotate_left; (intro w2 hC; obtain ⟨k0, k1, kf0, kf1, klt⟩ := row2 (hC.2 _ mcS); have yW : z05 _ B _ _ := (hC.2 _ (mcO _ mcS)); have ylt := yW.lt; obtain ⟨i0, i1, i2⟩ := yW.reg hs; obtain ⟨p0, p1, p2, p3, p4, p5, ltS⟩ := row6 (hC.2 _ (mcO _ (mcO _ mcS))); go_simp; try with_reducible rfl); simp only [Act.put, siA, scZ, scS])
  | (refine z0p (by rfl) ?_; apply Exists.intro; refine ⟨fun w2 hC => ?_, ?_⟩; (obtain ⟨k0, k1, kf0, kf1, klt⟩ := row2 (hC.2 _ mcS); have yW : z05 _ B _ _ := (hC.2 _ (mcO _ mcS)); have ylt := yW.lt; obtain ⟨i0, i1, i2⟩ := yW.reg hs; obtain ⟨p0, p1, p2, p3, p4, p5, ltS⟩ := row6 (hC.2 _ (mcO _ (mcO _ mcS))); go_simp; apply z0v; first | (go_at_call 62; exact (by have hq := z1k y0 y1 w2; unfold Kno.v z15 at hq; exact hq))); simp only [Act.put, siA, scZ, scS]))
 refine z0t ?_
 intro w7 hC hB7
 obtain ⟨k0, k1, kf0, kf1, klt⟩ := row2 (hC.2 _ mcS); have yW : z05 _ B _ _ := (hC.2 _ (mcO _ mcS)); have ylt := yW.lt; obtain ⟨i0, i1, i2⟩ := yW.reg hs; obtain ⟨p0, p1, p2, p3, p4, p5, ltS⟩ := row6 (hC.2 _ (mcO _ (mcO _ mcS)))
 have if0 := yW.frozen (1 + s * 3); have if1 := yW.frozen (1 + s * 3 + 1); have if2 := yW.frozen (1 + s * 3 + 2)
 have HK6 := z7h (kept_set (kept_set (kept_set HK (1 + d * 3) (vI vK 1)) (1 + d * 3 + 1) (vI vK x0)) (1 + d * 3 + 2) (vI vK x1)) hC.1
 go_wp2_with fail
 go_ret
 exact ⟨rfl, (by repeat' first | with_reducible (first | exact HK6 | refine z3g ?_ | refine kept_set ?_ _ _ | refine z40 ?_ _ _ ?_ | refine z2w ?_ _) | ((try dsimp only); omega) | (simp; omega)), yW.reg3 hs 1 y0 y1⟩
theorem z8i {B d s : Nat} {c o n p code : Int} {r : Bool} {y : Way} (hd : d < 11) (hs : s < 11) (hy : y.Ok) (hn : In64 n) {w : World} (hW : z05 w B p y) :
  Calls Tryz.prog 70 #[.pointer (some ⟨B, 0, none⟩), .agg #[vI vK c, vI vK d, vI vK s, .bool r, vI vK o, vI vK n], vI vK code] w fun e w' => e = .returned (.bool (y.narrow code d s r n).1) ∧ Kept B w w' ∧ z05 w' B p (y.narrow code d s r n).2 := by
 have o1 := hy.reg d hd
 have o2 := z2u (r := r) (n := n) hy hs hn
 have mv : ∀ {E : Bool} {e : Ending} {w' : World}, (e = .returned (.bool E) ∧ Below w.heap.size w w') → e = .returned (.bool E) ∧ Kept B w w' ∧ z05 w' B p y := fun h => ⟨h.1, z1q h.2 B, hW.later h.2⟩
 unfold Way.narrow
 rcases hv : y.second s r n with ⟨bk, bl, bh⟩
 rw [hv] at o2
 have HN := fun W : World => zL8 code (y.reg d).l (y.reg d).h bl bh o1.2.2.1.1 o1.2.2.1.2 o1.2.2.2.1.1 o1.2.2.2.1.2 o2.2.2.1.1 o2.2.2.1.2 o2.2.2.2.1.1 o2.2.2.2.1.2 o1.2.2.2.2 o2.2.2.2.2 W
 dsimp only
 generalize narV code (y.reg d).l (y.reg d).h bl bh = z at *
 obtain ⟨⟨x0, x1⟩, ⟨y0, y1⟩, ok⟩ := z
 cases ok
 ·rw [if_pos rfl]
  exact (zGz B d s c o n p code r y hd hs bk bl bh hv x0 x1 y0 y1 HN w hW).mono fun _ _ h => mv h
 rw [if_neg (by simp)]
 cases r
 ·rw [if_neg (by intro e; exact absurd e.1 (by simp)), if_neg (by simp)]
  exact zDo B d s c o n p code y hd hs bk bl bh hv x0 x1 y0 y1 HN w hW
 ·by_cases e : s = d
  ·subst e
   rw [if_pos ⟨rfl, rfl⟩]
   exact (zBu B s c o n p code y hd bk bl bh hv x0 x1 y0 y1 HN w hW).mono fun _ _ h => mv h
  ·rw [if_neg (fun h => e h.2), if_pos rfl]
   exact zDn B d s c o n p code y hd hs bk bl bh hv x0 x1 y0 y1 HN (by omega) e w hW
end Go.Proofs.YteenhdoaminkeaaGreatDoor
