/-
  What bound.Narrow returns at code 18, as a function on integers; the world below is as it was. Conditions: the ends are numbers of 64 bits, the low end not above the high one.
-/
import Derived.Test.YtllphbfhfmieaaaDoorBoundNar3
import Derived.Deep.DeepCutAuto
namespace Go.Proofs.YtllphbfhfmieaaaDoor
open Go.ChangeShapes Go.WideShapes Go.ChangeAt Go.RowKit
set_option linter.unusedVariables false
attribute [local simp] drew_size drewN_size setCell_size

set_option maxHeartbeats 8000000 in
theorem nar_18 (al ah bl bh : Int) (pal : -9223372036854775808 ≤ al) (qal : al ≤ 9223372036854775807) (pah : -9223372036854775808 ≤ ah) (qah : ah ≤ 9223372036854775807) (pbl : -9223372036854775808 ≤ bl) (qbl : bl ≤ 9223372036854775807) (pbh : -9223372036854775808 ≤ bh) (qbh : bh ≤ 9223372036854775807) (oa : al ≤ ah) (ob : bl ≤ bh) (w : World) : Calls Tryd.prog 24 #[.int .i64 18, .agg #[.int .i64 al, .int .i64 ah], .agg #[.int .i64 bl, .int .i64 bh]] w fun e w' => e = .returned (.tuple #[.agg #[.int .i64 (((unsV 0 bl bh al ah).2.1).1), .int .i64 (((unsV 0 bl bh al ah).2.1).2)], .agg #[.int .i64 (((unsV 0 bl bh al ah).1).1), .int .i64 (((unsV 0 bl bh al ah).1).2)], .bool ((unsV 0 bl bh al ah).2.2)]) ∧ Below w.heap.size w w' := by
  go_enter Tryd.func24, Tryd.ntmps24
  go_wp2_with fail
  go_cut [11, 12, 13] (fun s11 s12 s13 wx => ∃ L U : Nat, s11 = .pointer (some ⟨L, 0, none⟩) ∧ s12 = .pointer (some ⟨U, 0, none⟩) ∧ s13 = .bool (unsV 0 bl bh al ah).2.2 ∧ Below w.heap.size w wx ∧ Outs w.heap.size L U (unsV 0 bl bh al ah).1.1 (unsV 0 bl bh al ah).1.2 (unsV 0 bl bh al ah).2.1.1 (unsV 0 bl bh al ah).2.1.2 wx)
  case first =>
    go_region_held3 (fun w' => w'.cell? ⟨w.heap.size, 0, none⟩ = some (.int .i64 al) ∧ w'.cell? ⟨w.heap.size, 1, none⟩ = some (.int .i64 ah) ∧ w'.cell? ⟨w.heap.size + 1, 0, none⟩ = some (.int .i64 bl) ∧ w'.cell? ⟨w.heap.size + 1, 1, none⟩ = some (.int .i64 bh)) (first | (simp [go_sem]; done) | (simp [go_sem, *]; done) | go_keep) (first | (go_at_call 56; refine (turned_18 _).mono ?_; rintro e w' ⟨rfl, rfl⟩) | (go_at_call 55; go_must (refine (below_20 _ _ _ _ pbl qbl pbh qbh pal qal pah qah ob oa _).mono ?_; rintro e w1 ⟨rfl, hb1⟩; have hX1 : Quad w.heap.size al ah bl bh w1 := Quad.later (by first | exact hX1 | (refine ⟨?_, ?_, ?_, ?_, ?_, ?_, ?_, ?_, ?_, ?_, ?_, ?_, ?_, ?_, ?_, ?_, ?_⟩ <;> simp [go_sem])) hb1; have hbw1 : Below w.heap.size w w1 := (by ((refine Below.trans ?_ (hb1.mono ?_)) <;> repeat' first | exact Below.refl _ _ | exact hbw1 | refine Below.alloc ?_ ?_ _ | refine Below.setCell ?_ ?_ _ | refine Below.drew ?_ | refine below_drewN ?_ _ | (simp; done) | (simp; omega) | (simp [drew_size]; done) | (simp [drew_size]; omega) | omega)); have hY := hX1; obtain ⟨t0, a0, a1, af0, af1, b0, b1, bf0, bf1, r0, r1, rf0, rf1, s0, s1, sf0, sf1⟩ := hY; have u2 : w.heap.size + 1 + 1 < w1.heap.size := (by omega); have u0 : w.heap.size < w1.heap.size := (by omega); have u1 : w.heap.size + 1 < w1.heap.size := (by omega); have v4 := later_box hb1 (w.heap.size + 1 + 1 + 1 + 1); have v5 := later_box hb1 (w.heap.size + 1 + 1 + 1 + 1 + 1); (try simp [go_sem] at v4); (try simp [go_sem] at v5))))
    all_goals (go_wp2_with fail; go_meet)
    all_goals exact ⟨_, _, rfl, rfl, rfl, by repeat' first | exact Below.refl _ _ | exact hbw1 | refine Below.alloc ?_ ?_ _ | refine Below.setCell ?_ ?_ _ | refine Below.drew ?_ | refine below_drewN ?_ _ | (simp; done) | (simp; omega) | (simp [drew_size]; done) | (simp [drew_size]; omega) | omega, by refine ⟨?_, ?_, ?_, ?_, ?_, ?_, ?_, ?_, ?_, ?_, ?_, ?_, ?_, ?_, ?_, ?_⟩ <;> first | (simp [go_sem, *]; done) | omega | (simp; omega)⟩
  case rest =>
  obtain ⟨L, U, rfl, rfl, rfl, hbw, r0, r1, rf0, rf1, s0, s1, sf0, sf1, l0, l1, m0, m1, n0, n1, n2, n3⟩ := hcut
  go_wp2_with fail
  all_goals go_region
  all_goals go_wp2
  all_goals exact bodyPost_ret (v := .tuple #[.agg #[.int .i64 (((unsV 0 bl bh al ah).2.1).1), .int .i64 (((unsV 0 bl bh al ah).2.1).2)], .agg #[.int .i64 (((unsV 0 bl bh al ah).1).1), .int .i64 (((unsV 0 bl bh al ah).1).2)], .bool ((unsV 0 bl bh al ah).2.2)]) (by simp [results, Tryd.results24, go_sem, r0, r1, s0, s1]) rfl ⟨rfl, by repeat' first | exact Below.refl _ _ | exact hbw | refine Below.alloc ?_ ?_ _ | refine Below.setCell ?_ ?_ _ | refine Below.drew ?_ | refine below_drewN ?_ _ | (simp; done) | (simp; omega) | (simp [drew_size]; done) | (simp [drew_size]; omega) | omega⟩
end Go.Proofs.YtllphbfhfmieaaaDoor
