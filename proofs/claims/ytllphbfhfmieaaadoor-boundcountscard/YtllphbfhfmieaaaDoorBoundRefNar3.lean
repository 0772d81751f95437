/-
  What the document's own Narrow returns at Jslt and Jsle: as a function on integers; the world below is as it was. Conditions: the ends are numbers of 64 bits, the low end not above the high one.
-/
import Derived.Test.YtllphbfhfmieaaaDoorBoundRefNar2
namespace Go.Proofs.YtllphbfhfmieaaaDoor
open Go.ChangeShapes Go.WideShapes Go.ChangeAt Go.RowKit
set_option linter.unusedVariables false
attribute [local simp] drew_size drewN_size setCell_size

set_option maxHeartbeats 2000000 in
set_option maxRecDepth 100000 in
theorem rnar_23 (al ah bl bh : Int) (pal : -9223372036854775808 ≤ al) (qal : al ≤ 9223372036854775807) (pah : -9223372036854775808 ≤ ah) (qah : ah ≤ 9223372036854775807) (pbl : -9223372036854775808 ≤ bl) (qbl : bl ≤ 9223372036854775807) (pbh : -9223372036854775808 ≤ bh) (qbh : bh ≤ 9223372036854775807) (oa : al ≤ ah) (ob : bl ≤ bh) (w : World) : Calls Tryd.prog 23 #[.int .i64 23, .agg #[.int .i64 al, .int .i64 ah], .agg #[.int .i64 bl, .int .i64 bh]] w fun e w' => e = .returned (.tuple #[.agg #[.int .i64 (((narV 23 al ah bl bh).1).1), .int .i64 (((narV 23 al ah bl bh).1).2)], .agg #[.int .i64 (((narV 23 al ah bl bh).2.1).1), .int .i64 (((narV 23 al ah bl bh).2.1).2)], .bool ((narV 23 al ah bl bh).2.2)]) ∧ Below w.heap.size w w' := by
  rw [narV_23]
  have hn := fun w => rnar_21 bl bh al ah pbl qbl pbh qbh pal qal pah qah ob oa w
  rw [narV_21] at hn
  unfold swapV at hn
  generalize belV 1 al ah bl bh = r at hn ⊢
  obtain ⟨⟨k1, k2⟩, ⟨k3, k4⟩, ok⟩ := r
  have H : Hid (∀ w : World, Calls Tryd.prog 23 #[.int .i64 21, .agg #[.int .i64 bl, .int .i64 bh], .agg #[.int .i64 al, .int .i64 ah]] w fun e w' => e = .returned (.tuple #[.agg #[.int .i64 k3, .int .i64 k4], .agg #[.int .i64 k1, .int .i64 k2], .bool ok]) ∧ Below w.heap.size w w') := hn
  clear hn
  go_enter Tryd.func23, Tryd.ntmps23
  go_wp2_with (first | (go_at_call 23; go_must (refine (H.out _).mono ?_; rintro e w1 ⟨rfl, hb1⟩; have hX1 : Quad w.heap.size al ah bl bh w1 := Quad.later (by first | exact hX1 | (refine ⟨?_, ?_, ?_, ?_, ?_, ?_, ?_, ?_, ?_, ?_, ?_, ?_, ?_, ?_, ?_, ?_, ?_⟩ <;> simp [go_sem])) hb1; have hbw1 : Below w.heap.size w w1 := (by ((refine Below.trans ?_ (hb1.mono ?_)) <;> repeat' first | exact Below.refl _ _ | refine Below.alloc ?_ ?_ _ | refine Below.setCell ?_ ?_ _ | refine Below.drew ?_ | refine below_drewN ?_ _ | (simp; done) | (simp; omega) | (simp [drew_size]; done) | (simp [drew_size]; omega) | omega)); have hY := hX1; obtain ⟨t0, a0, a1, af0, af1, b0, b1, bf0, bf1, r0, r1, rf0, rf1, s0, s1, sf0, sf1⟩ := hY; have sz00 : w.heap.size < w1.heap.size := (by omega); have sz01 : w.heap.size < w1.heap.size + 1 := (by omega); have sz02 : w.heap.size < w1.heap.size + 1 + 1 := (by omega); have sz03 : w.heap.size < w1.heap.size + 1 + 1 + 1 := (by omega); have sz10 : w.heap.size + 1 < w1.heap.size := (by omega); have sz11 : w.heap.size + 1 < w1.heap.size + 1 := (by omega); have sz12 : w.heap.size + 1 < w1.heap.size + 1 + 1 := (by omega); have sz13 : w.heap.size + 1 < w1.heap.size + 1 + 1 + 1 := (by omega); have sz20 : w.heap.size + 1 + 1 < w1.heap.size := (by omega); have sz21 : w.heap.size + 1 + 1 < w1.heap.size + 1 := (by omega); have sz22 : w.heap.size + 1 + 1 < w1.heap.size + 1 + 1 := (by omega); have sz23 : w.heap.size + 1 + 1 < w1.heap.size + 1 + 1 + 1 := (by omega); have sz30 : w.heap.size + 1 + 1 + 1 < w1.heap.size := (by omega); have sz31 : w.heap.size + 1 + 1 + 1 < w1.heap.size + 1 := (by omega); have sz32 : w.heap.size + 1 + 1 + 1 < w1.heap.size + 1 + 1 := (by omega); have sz33 : w.heap.size + 1 + 1 + 1 < w1.heap.size + 1 + 1 + 1 := (by omega))))
  all_goals go_region
  all_goals go_wp2
  all_goals exact bodyPost_ret (v := .tuple #[.agg #[.int .i64 k1, .int .i64 k2], .agg #[.int .i64 k3, .int .i64 k4], .bool ok]) (by simp [results, Tryd.results23, go_sem, r0, r1, s0, s1, sz10, sz20, sz30]) rfl ⟨rfl, by repeat' first | exact Below.refl _ _ | exact hbw1 | refine Below.alloc ?_ ?_ _ | refine Below.setCell ?_ ?_ _ | refine Below.drew ?_ | refine below_drewN ?_ _ | (simp; done) | (simp; omega) | (simp [drew_size]; done) | (simp [drew_size]; omega) | omega⟩
set_option maxHeartbeats 2000000 in
set_option maxRecDepth 100000 in
theorem rnar_24 (al ah bl bh : Int) (pal : -9223372036854775808 ≤ al) (qal : al ≤ 9223372036854775807) (pah : -9223372036854775808 ≤ ah) (qah : ah ≤ 9223372036854775807) (pbl : -9223372036854775808 ≤ bl) (qbl : bl ≤ 9223372036854775807) (pbh : -9223372036854775808 ≤ bh) (qbh : bh ≤ 9223372036854775807) (oa : al ≤ ah) (ob : bl ≤ bh) (w : World) : Calls Tryd.prog 23 #[.int .i64 24, .agg #[.int .i64 al, .int .i64 ah], .agg #[.int .i64 bl, .int .i64 bh]] w fun e w' => e = .returned (.tuple #[.agg #[.int .i64 (((narV 24 al ah bl bh).1).1), .int .i64 (((narV 24 al ah bl bh).1).2)], .agg #[.int .i64 (((narV 24 al ah bl bh).2.1).1), .int .i64 (((narV 24 al ah bl bh).2.1).2)], .bool ((narV 24 al ah bl bh).2.2)]) ∧ Below w.heap.size w w' := by
  rw [narV_24]
  have hn := fun w => rnar_22 bl bh al ah pbl qbl pbh qbh pal qal pah qah ob oa w
  rw [narV_22] at hn
  unfold swapV at hn
  generalize belV 0 al ah bl bh = r at hn ⊢
  obtain ⟨⟨k1, k2⟩, ⟨k3, k4⟩, ok⟩ := r
  have H : Hid (∀ w : World, Calls Tryd.prog 23 #[.int .i64 22, .agg #[.int .i64 bl, .int .i64 bh], .agg #[.int .i64 al, .int .i64 ah]] w fun e w' => e = .returned (.tuple #[.agg #[.int .i64 k3, .int .i64 k4], .agg #[.int .i64 k1, .int .i64 k2], .bool ok]) ∧ Below w.heap.size w w') := hn
  clear hn
  go_enter Tryd.func23, Tryd.ntmps23
  go_wp2_with (first | (go_at_call 23; go_must (refine (H.out _).mono ?_; rintro e w1 ⟨rfl, hb1⟩; have hX1 : Quad w.heap.size al ah bl bh w1 := Quad.later (by first | exact hX1 | (refine ⟨?_, ?_, ?_, ?_, ?_, ?_, ?_, ?_, ?_, ?_, ?_, ?_, ?_, ?_, ?_, ?_, ?_⟩ <;> simp [go_sem])) hb1; have hbw1 : Below w.heap.size w w1 := (by ((refine Below.trans ?_ (hb1.mono ?_)) <;> repeat' first | exact Below.refl _ _ | refine Below.alloc ?_ ?_ _ | refine Below.setCell ?_ ?_ _ | refine Below.drew ?_ | refine below_drewN ?_ _ | (simp; done) | (simp; omega) | (simp [drew_size]; done) | (simp [drew_size]; omega) | omega)); have hY := hX1; obtain ⟨t0, a0, a1, af0, af1, b0, b1, bf0, bf1, r0, r1, rf0, rf1, s0, s1, sf0, sf1⟩ := hY; have sz00 : w.heap.size < w1.heap.size := (by omega); have sz01 : w.heap.size < w1.heap.size + 1 := (by omega); have sz02 : w.heap.size < w1.heap.size + 1 + 1 := (by omega); have sz03 : w.heap.size < w1.heap.size + 1 + 1 + 1 := (by omega); have sz10 : w.heap.size + 1 < w1.heap.size := (by omega); have sz11 : w.heap.size + 1 < w1.heap.size + 1 := (by omega); have sz12 : w.heap.size + 1 < w1.heap.size + 1 + 1 := (by omega); have sz13 : w.heap.size + 1 < w1.heap.size + 1 + 1 + 1 := (by omega); have sz20 : w.heap.size + 1 + 1 < w1.heap.size := (by omega); have sz21 : w.heap.size + 1 + 1 < w1.heap.size + 1 := (by omega); have sz22 : w.heap.size + 1 + 1 < w1.heap.size + 1 + 1 := (by omega); have sz23 : w.heap.size + 1 + 1 < w1.heap.size + 1 + 1 + 1 := (by omega); have sz30 : w.heap.size + 1 + 1 + 1 < w1.heap.size := (by omega); have sz31 : w.heap.size + 1 + 1 + 1 < w1.heap.size + 1 := (by omega); have sz32 : w.heap.size + 1 + 1 + 1 < w1.heap.size + 1 + 1 := (by omega); have sz33 : w.heap.size + 1 + 1 + 1 < w1.heap.size + 1 + 1 + 1 := (by omega))))
  all_goals go_region
  all_goals go_wp2
  all_goals exact bodyPost_ret (v := .tuple #[.agg #[.int .i64 k1, .int .i64 k2], .agg #[.int .i64 k3, .int .i64 k4], .bool ok]) (by simp [results, Tryd.results23, go_sem, r0, r1, s0, s1, sz10, sz20, sz30]) rfl ⟨rfl, by repeat' first | exact Below.refl _ _ | exact hbw1 | refine Below.alloc ?_ ?_ _ | refine Below.setCell ?_ ?_ _ | refine Below.drew ?_ | refine below_drewN ?_ _ | (simp; done) | (simp; omega) | (simp [drew_size]; done) | (simp [drew_size]; omega) | omega⟩
end Go.Proofs.YtllphbfhfmieaaaDoor
