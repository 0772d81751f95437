/-
  What the document's own BoundDoes returns at Mul, where an end is great: the same function on integers; the world below is as it was. Conditions: the ends are numbers of 64 bits, the low end not above the high one; the document's variable of all numbers holds them.
-/
import Derived.Test.YtllphbfhfmieaaaDoorBoundRefDo
import Derived.Test.YtllphbfhfmieaaaDoorBoundMul
import Derived.Deep.RegionHeld3
namespace Go.Proofs.YtllphbfhfmieaaaDoor
open Go.ChangeShapes Go.WideShapes Go.ChangeAt Go.RowKit
set_option linter.unusedVariables false
attribute [local simp] drew_size

set_option maxHeartbeats 4000000 in
set_option maxRecDepth 100000 in
theorem rbd_4pp0hi (al ah bl bh : Int) (pal : -9223372036854775808 ≤ al) (qal : al ≤ 9223372036854775807) (pah : -9223372036854775808 ≤ ah) (qah : ah ≤ 9223372036854775807) (pbl : -9223372036854775808 ≤ bl) (qbl : bl ≤ 9223372036854775807) (pbh : -9223372036854775808 ≤ bh) (qbh : bh ≤ 9223372036854775807) (oa : al ≤ ah) (ob : bl ≤ bh) (ha : 0 ≤ al) (hb : 0 ≤ bl) (lal : -2147483648 ≤ al) (gal : 2147483648 < al) (w : World) (hA : AllAt w) : Calls Tryd.prog 13 #[.int .i64 4, .agg #[.int .i64 al, .int .i64 ah], .agg #[.int .i64 bl, .int .i64 bh]] w fun e w' => e = .returned (.agg #[.int .i64 (-9223372036854775808), .int .i64 9223372036854775807]) ∧ Below w.heap.size w w' := by
  obtain ⟨gz, g0, g1⟩ := hA
  have gz0 : 2 < w.heap.size := by omega
  have gz1 : 2 < w.heap.size + 1 := by omega
  have gz2 : 2 < w.heap.size + 1 + 1 := by omega
  have gz3 : 2 < w.heap.size + 1 + 1 + 1 := by omega
  have gz4 : 2 < w.heap.size + 1 + 1 + 1 + 1 := by omega
  have hx := and63 bl
  have hk0 : 0 ≤ bl % 64 := Int.emod_nonneg _ (by decide)
  have hk1 : bl % 64 < 64 := Int.emod_lt_of_pos _ (by decide)
  have da : decide (0 ≤ al) = true := by simp; omega
  have db : decide (0 ≤ bl) = true := by simp; omega
  have _lal : decide (-2147483648 ≤ al) = true := by simp; omega
  have _gal : decide (al ≤ 2147483648) = false := by simp; omega
  go_enter Tryd.func13, Tryd.ntmps13
  go_wp2_with (first | (go_at_call 47; refine (radd_is _ _ ?_ ?_ ?_ ?_ _).mono ?_; omega; omega; omega; omega; rintro e w' ⟨rfl, rfl⟩) | (go_at_call 48; refine (rsub_is _ _ ?_ ?_ ?_ ?_ _).mono ?_; omega; omega; omega; omega; rintro e w' ⟨rfl, rfl⟩) | (go_at_call 50; refine (refFill_any _ ?_ _).mono ?_; omega; rintro e w' ⟨rfl, rfl⟩) | (go_at_call 52; refine (rdown_is _ _ ?_ ?_ ?_ ?_ _).mono ?_; omega; omega; omega; omega; rintro e w' ⟨rfl, rfl⟩) | (go_at_call 51; refine (ref_any _ _ _ ?_ ?_ ?_ ?_ _).mono ?_; omega; omega; omega; omega; rintro e w' ⟨rfl, rfl⟩) | (go_at_call 49; refine (rone_at _ _).mono ?_; rintro e w' ⟨rfl, rfl⟩) | (go_at_call 15; refine (rjoin_at _ _ _ _ _).mono ?_; rintro e w' ⟨rfl, rfl⟩))
  refine wp_loop_rounds 5 ?_
  repeat any_goals (rw [rounds_succ]; go_wp2_with (first | (go_at_call 47; refine (radd_is _ _ ?_ ?_ ?_ ?_ _).mono ?_; omega; omega; omega; omega; rintro e w' ⟨rfl, rfl⟩) | (go_at_call 48; refine (rsub_is _ _ ?_ ?_ ?_ ?_ _).mono ?_; omega; omega; omega; omega; rintro e w' ⟨rfl, rfl⟩) | (go_at_call 50; refine (refFill_any _ ?_ _).mono ?_; omega; rintro e w' ⟨rfl, rfl⟩) | (go_at_call 52; refine (rdown_is _ _ ?_ ?_ ?_ ?_ _).mono ?_; omega; omega; omega; omega; rintro e w' ⟨rfl, rfl⟩) | (go_at_call 51; refine (ref_any _ _ _ ?_ ?_ ?_ ?_ _).mono ?_; omega; omega; omega; omega; rintro e w' ⟨rfl, rfl⟩) | (go_at_call 49; refine (rone_at _ _).mono ?_; rintro e w' ⟨rfl, rfl⟩) | (go_at_call 15; refine (rjoin_at _ _ _ _ _).mono ?_; rintro e w' ⟨rfl, rfl⟩)))
  all_goals exact bodyPost_ret (v := .agg #[.int .i64 (-9223372036854775808), .int .i64 9223372036854775807]) (by simp [results, Tryd.results13, go_sem]) rfl ⟨rfl, by repeat' first | exact Below.refl _ _ | refine Below.alloc ?_ ?_ _ | refine Below.setCell ?_ ?_ _ | refine Below.drew ?_ | refine below_drewN ?_ _ | (simp; done) | (simp; omega) | (simp [drew_size]; done) | (simp [drew_size]; omega) | omega⟩
set_option maxHeartbeats 4000000 in
set_option maxRecDepth 100000 in
theorem rbd_4pp1hi (al ah bl bh : Int) (pal : -9223372036854775808 ≤ al) (qal : al ≤ 9223372036854775807) (pah : -9223372036854775808 ≤ ah) (qah : ah ≤ 9223372036854775807) (pbl : -9223372036854775808 ≤ bl) (qbl : bl ≤ 9223372036854775807) (pbh : -9223372036854775808 ≤ bh) (qbh : bh ≤ 9223372036854775807) (oa : al ≤ ah) (ob : bl ≤ bh) (ha : 0 ≤ al) (hb : 0 ≤ bl) (lal : -2147483648 ≤ al) (gal : al ≤ 2147483648) (lah : -2147483648 ≤ ah) (gah : 2147483648 < ah) (w : World) (hA : AllAt w) : Calls Tryd.prog 13 #[.int .i64 4, .agg #[.int .i64 al, .int .i64 ah], .agg #[.int .i64 bl, .int .i64 bh]] w fun e w' => e = .returned (.agg #[.int .i64 (-9223372036854775808), .int .i64 9223372036854775807]) ∧ Below w.heap.size w w' := by
  obtain ⟨gz, g0, g1⟩ := hA
  have gz0 : 2 < w.heap.size := by omega
  have gz1 : 2 < w.heap.size + 1 := by omega
  have gz2 : 2 < w.heap.size + 1 + 1 := by omega
  have gz3 : 2 < w.heap.size + 1 + 1 + 1 := by omega
  have gz4 : 2 < w.heap.size + 1 + 1 + 1 + 1 := by omega
  have hx := and63 bl
  have hk0 : 0 ≤ bl % 64 := Int.emod_nonneg _ (by decide)
  have hk1 : bl % 64 < 64 := Int.emod_lt_of_pos _ (by decide)
  have da : decide (0 ≤ al) = true := by simp; omega
  have db : decide (0 ≤ bl) = true := by simp; omega
  have _lal : decide (-2147483648 ≤ al) = true := by simp; omega
  have _gal : decide (al ≤ 2147483648) = true := by simp; omega
  have _lah : decide (-2147483648 ≤ ah) = true := by simp; omega
  have _gah : decide (ah ≤ 2147483648) = false := by simp; omega
  go_enter Tryd.func13, Tryd.ntmps13
  go_wp2_with (first | (go_at_call 47; refine (radd_is _ _ ?_ ?_ ?_ ?_ _).mono ?_; omega; omega; omega; omega; rintro e w' ⟨rfl, rfl⟩) | (go_at_call 48; refine (rsub_is _ _ ?_ ?_ ?_ ?_ _).mono ?_; omega; omega; omega; omega; rintro e w' ⟨rfl, rfl⟩) | (go_at_call 50; refine (refFill_any _ ?_ _).mono ?_; omega; rintro e w' ⟨rfl, rfl⟩) | (go_at_call 52; refine (rdown_is _ _ ?_ ?_ ?_ ?_ _).mono ?_; omega; omega; omega; omega; rintro e w' ⟨rfl, rfl⟩) | (go_at_call 51; refine (ref_any _ _ _ ?_ ?_ ?_ ?_ _).mono ?_; omega; omega; omega; omega; rintro e w' ⟨rfl, rfl⟩) | (go_at_call 49; refine (rone_at _ _).mono ?_; rintro e w' ⟨rfl, rfl⟩) | (go_at_call 15; refine (rjoin_at _ _ _ _ _).mono ?_; rintro e w' ⟨rfl, rfl⟩))
  refine wp_loop_rounds 5 ?_
  repeat any_goals (rw [rounds_succ]; go_wp2_with (first | (go_at_call 47; refine (radd_is _ _ ?_ ?_ ?_ ?_ _).mono ?_; omega; omega; omega; omega; rintro e w' ⟨rfl, rfl⟩) | (go_at_call 48; refine (rsub_is _ _ ?_ ?_ ?_ ?_ _).mono ?_; omega; omega; omega; omega; rintro e w' ⟨rfl, rfl⟩) | (go_at_call 50; refine (refFill_any _ ?_ _).mono ?_; omega; rintro e w' ⟨rfl, rfl⟩) | (go_at_call 52; refine (rdown_is _ _ ?_ ?_ ?_ ?_ _).mono ?_; omega; omega; omega; omega; rintro e w' ⟨rfl, rfl⟩) | (go_at_call 51; refine (ref_any _ _ _ ?_ ?_ ?_ ?_ _).mono ?_; omega; omega; omega; omega; rintro e w' ⟨rfl, rfl⟩) | (go_at_call 49; refine (rone_at _ _).mono ?_; rintro e w' ⟨rfl, rfl⟩) | (go_at_call 15; refine (rjoin_at _ _ _ _ _).mono ?_; rintro e w' ⟨rfl, rfl⟩)))
  all_goals exact bodyPost_ret (v := .agg #[.int .i64 (-9223372036854775808), .int .i64 9223372036854775807]) (by simp [results, Tryd.results13, go_sem]) rfl ⟨rfl, by repeat' first | exact Below.refl _ _ | refine Below.alloc ?_ ?_ _ | refine Below.setCell ?_ ?_ _ | refine Below.drew ?_ | refine below_drewN ?_ _ | (simp; done) | (simp; omega) | (simp [drew_size]; done) | (simp [drew_size]; omega) | omega⟩
set_option maxHeartbeats 4000000 in
set_option maxRecDepth 100000 in
theorem rbd_4pp2hi (al ah bl bh : Int) (pal : -9223372036854775808 ≤ al) (qal : al ≤ 9223372036854775807) (pah : -9223372036854775808 ≤ ah) (qah : ah ≤ 9223372036854775807) (pbl : -9223372036854775808 ≤ bl) (qbl : bl ≤ 9223372036854775807) (pbh : -9223372036854775808 ≤ bh) (qbh : bh ≤ 9223372036854775807) (oa : al ≤ ah) (ob : bl ≤ bh) (ha : 0 ≤ al) (hb : 0 ≤ bl) (lal : -2147483648 ≤ al) (gal : al ≤ 2147483648) (lah : -2147483648 ≤ ah) (gah : ah ≤ 2147483648) (lbl : -2147483648 ≤ bl) (gbl : 2147483648 < bl) (w : World) (hA : AllAt w) : Calls Tryd.prog 13 #[.int .i64 4, .agg #[.int .i64 al, .int .i64 ah], .agg #[.int .i64 bl, .int .i64 bh]] w fun e w' => e = .returned (.agg #[.int .i64 (-9223372036854775808), .int .i64 9223372036854775807]) ∧ Below w.heap.size w w' := by
  obtain ⟨gz, g0, g1⟩ := hA
  have gz0 : 2 < w.heap.size := by omega
  have gz1 : 2 < w.heap.size + 1 := by omega
  have gz2 : 2 < w.heap.size + 1 + 1 := by omega
  have gz3 : 2 < w.heap.size + 1 + 1 + 1 := by omega
  have gz4 : 2 < w.heap.size + 1 + 1 + 1 + 1 := by omega
  have hx := and63 bl
  have hk0 : 0 ≤ bl % 64 := Int.emod_nonneg _ (by decide)
  have hk1 : bl % 64 < 64 := Int.emod_lt_of_pos _ (by decide)
  have da : decide (0 ≤ al) = true := by simp; omega
  have db : decide (0 ≤ bl) = true := by simp; omega
  have _lal : decide (-2147483648 ≤ al) = true := by simp; omega
  have _gal : decide (al ≤ 2147483648) = true := by simp; omega
  have _lah : decide (-2147483648 ≤ ah) = true := by simp; omega
  have _gah : decide (ah ≤ 2147483648) = true := by simp; omega
  have _lbl : decide (-2147483648 ≤ bl) = true := by simp; omega
  have _gbl : decide (bl ≤ 2147483648) = false := by simp; omega
  go_enter Tryd.func13, Tryd.ntmps13
  go_wp2_with (first | (go_at_call 47; refine (radd_is _ _ ?_ ?_ ?_ ?_ _).mono ?_; omega; omega; omega; omega; rintro e w' ⟨rfl, rfl⟩) | (go_at_call 48; refine (rsub_is _ _ ?_ ?_ ?_ ?_ _).mono ?_; omega; omega; omega; omega; rintro e w' ⟨rfl, rfl⟩) | (go_at_call 50; refine (refFill_any _ ?_ _).mono ?_; omega; rintro e w' ⟨rfl, rfl⟩) | (go_at_call 52; refine (rdown_is _ _ ?_ ?_ ?_ ?_ _).mono ?_; omega; omega; omega; omega; rintro e w' ⟨rfl, rfl⟩) | (go_at_call 51; refine (ref_any _ _ _ ?_ ?_ ?_ ?_ _).mono ?_; omega; omega; omega; omega; rintro e w' ⟨rfl, rfl⟩) | (go_at_call 49; refine (rone_at _ _).mono ?_; rintro e w' ⟨rfl, rfl⟩) | (go_at_call 15; refine (rjoin_at _ _ _ _ _).mono ?_; rintro e w' ⟨rfl, rfl⟩))
  refine wp_loop_rounds 5 ?_
  repeat any_goals (rw [rounds_succ]; go_wp2_with (first | (go_at_call 47; refine (radd_is _ _ ?_ ?_ ?_ ?_ _).mono ?_; omega; omega; omega; omega; rintro e w' ⟨rfl, rfl⟩) | (go_at_call 48; refine (rsub_is _ _ ?_ ?_ ?_ ?_ _).mono ?_; omega; omega; omega; omega; rintro e w' ⟨rfl, rfl⟩) | (go_at_call 50; refine (refFill_any _ ?_ _).mono ?_; omega; rintro e w' ⟨rfl, rfl⟩) | (go_at_call 52; refine (rdown_is _ _ ?_ ?_ ?_ ?_ _).mono ?_; omega; omega; omega; omega; rintro e w' ⟨rfl, rfl⟩) | (go_at_call 51; refine (ref_any _ _ _ ?_ ?_ ?_ ?_ _).mono ?_; omega; omega; omega; omega; rintro e w' ⟨rfl, rfl⟩) | (go_at_call 49; refine (rone_at _ _).mono ?_; rintro e w' ⟨rfl, rfl⟩) | (go_at_call 15; refine (rjoin_at _ _ _ _ _).mono ?_; rintro e w' ⟨rfl, rfl⟩)))
  all_goals exact bodyPost_ret (v := .agg #[.int .i64 (-9223372036854775808), .int .i64 9223372036854775807]) (by simp [results, Tryd.results13, go_sem]) rfl ⟨rfl, by repeat' first | exact Below.refl _ _ | refine Below.alloc ?_ ?_ _ | refine Below.setCell ?_ ?_ _ | refine Below.drew ?_ | refine below_drewN ?_ _ | (simp; done) | (simp; omega) | (simp [drew_size]; done) | (simp [drew_size]; omega) | omega⟩
set_option maxHeartbeats 4000000 in
set_option maxRecDepth 100000 in
theorem rbd_4pp3hi (al ah bl bh : Int) (pal : -9223372036854775808 ≤ al) (qal : al ≤ 9223372036854775807) (pah : -9223372036854775808 ≤ ah) (qah : ah ≤ 9223372036854775807) (pbl : -9223372036854775808 ≤ bl) (qbl : bl ≤ 9223372036854775807) (pbh : -9223372036854775808 ≤ bh) (qbh : bh ≤ 9223372036854775807) (oa : al ≤ ah) (ob : bl ≤ bh) (ha : 0 ≤ al) (hb : 0 ≤ bl) (lal : -2147483648 ≤ al) (gal : al ≤ 2147483648) (lah : -2147483648 ≤ ah) (gah : ah ≤ 2147483648) (lbl : -2147483648 ≤ bl) (gbl : bl ≤ 2147483648) (lbh : -2147483648 ≤ bh) (gbh : 2147483648 < bh) (w : World) (hA : AllAt w) : Calls Tryd.prog 13 #[.int .i64 4, .agg #[.int .i64 al, .int .i64 ah], .agg #[.int .i64 bl, .int .i64 bh]] w fun e w' => e = .returned (.agg #[.int .i64 (-9223372036854775808), .int .i64 9223372036854775807]) ∧ Below w.heap.size w w' := by
  obtain ⟨gz, g0, g1⟩ := hA
  have gz0 : 2 < w.heap.size := by omega
  have gz1 : 2 < w.heap.size + 1 := by omega
  have gz2 : 2 < w.heap.size + 1 + 1 := by omega
  have gz3 : 2 < w.heap.size + 1 + 1 + 1 := by omega
  have gz4 : 2 < w.heap.size + 1 + 1 + 1 + 1 := by omega
  have hx := and63 bl
  have hk0 : 0 ≤ bl % 64 := Int.emod_nonneg _ (by decide)
  have hk1 : bl % 64 < 64 := Int.emod_lt_of_pos _ (by decide)
  have da : decide (0 ≤ al) = true := by simp; omega
  have db : decide (0 ≤ bl) = true := by simp; omega
  have _lal : decide (-2147483648 ≤ al) = true := by simp; omega
  have _gal : decide (al ≤ 2147483648) = true := by simp; omega
  have _lah : decide (-2147483648 ≤ ah) = true := by simp; omega
  have _gah : decide (ah ≤ 2147483648) = true := by simp; omega
  have _lbl : decide (-2147483648 ≤ bl) = true := by simp; omega
  have _gbl : decide (bl ≤ 2147483648) = true := by simp; omega
  have _lbh : decide (-2147483648 ≤ bh) = true := by simp; omega
  have _gbh : decide (bh ≤ 2147483648) = false := by simp; omega
  go_enter Tryd.func13, Tryd.ntmps13
  go_wp2_with (first | (go_at_call 47; refine (radd_is _ _ ?_ ?_ ?_ ?_ _).mono ?_; omega; omega; omega; omega; rintro e w' ⟨rfl, rfl⟩) | (go_at_call 48; refine (rsub_is _ _ ?_ ?_ ?_ ?_ _).mono ?_; omega; omega; omega; omega; rintro e w' ⟨rfl, rfl⟩) | (go_at_call 50; refine (refFill_any _ ?_ _).mono ?_; omega; rintro e w' ⟨rfl, rfl⟩) | (go_at_call 52; refine (rdown_is _ _ ?_ ?_ ?_ ?_ _).mono ?_; omega; omega; omega; omega; rintro e w' ⟨rfl, rfl⟩) | (go_at_call 51; refine (ref_any _ _ _ ?_ ?_ ?_ ?_ _).mono ?_; omega; omega; omega; omega; rintro e w' ⟨rfl, rfl⟩) | (go_at_call 49; refine (rone_at _ _).mono ?_; rintro e w' ⟨rfl, rfl⟩) | (go_at_call 15; refine (rjoin_at _ _ _ _ _).mono ?_; rintro e w' ⟨rfl, rfl⟩))
  refine wp_loop_rounds 5 ?_
  repeat any_goals (rw [rounds_succ]; go_wp2_with (first | (go_at_call 47; refine (radd_is _ _ ?_ ?_ ?_ ?_ _).mono ?_; omega; omega; omega; omega; rintro e w' ⟨rfl, rfl⟩) | (go_at_call 48; refine (rsub_is _ _ ?_ ?_ ?_ ?_ _).mono ?_; omega; omega; omega; omega; rintro e w' ⟨rfl, rfl⟩) | (go_at_call 50; refine (refFill_any _ ?_ _).mono ?_; omega; rintro e w' ⟨rfl, rfl⟩) | (go_at_call 52; refine (rdown_is _ _ ?_ ?_ ?_ ?_ _).mono ?_; omega; omega; omega; omega; rintro e w' ⟨rfl, rfl⟩) | (go_at_call 51; refine (ref_any _ _ _ ?_ ?_ ?_ ?_ _).mono ?_; omega; omega; omega; omega; rintro e w' ⟨rfl, rfl⟩) | (go_at_call 49; refine (rone_at _ _).mono ?_; rintro e w' ⟨rfl, rfl⟩) | (go_at_call 15; refine (rjoin_at _ _ _ _ _).mono ?_; rintro e w' ⟨rfl, rfl⟩)))
  all_goals exact bodyPost_ret (v := .agg #[.int .i64 (-9223372036854775808), .int .i64 9223372036854775807]) (by simp [results, Tryd.results13, go_sem]) rfl ⟨rfl, by repeat' first | exact Below.refl _ _ | refine Below.alloc ?_ ?_ _ | refine Below.setCell ?_ ?_ _ | refine Below.drew ?_ | refine below_drewN ?_ _ | (simp; done) | (simp; omega) | (simp [drew_size]; done) | (simp [drew_size]; omega) | omega⟩
set_option maxHeartbeats 4000000 in
set_option maxRecDepth 100000 in
theorem rbd_4pn0hi (al ah bl bh : Int) (pal : -9223372036854775808 ≤ al) (qal : al ≤ 9223372036854775807) (pah : -9223372036854775808 ≤ ah) (qah : ah ≤ 9223372036854775807) (pbl : -9223372036854775808 ≤ bl) (qbl : bl ≤ 9223372036854775807) (pbh : -9223372036854775808 ≤ bh) (qbh : bh ≤ 9223372036854775807) (oa : al ≤ ah) (ob : bl ≤ bh) (ha : 0 ≤ al) (hb : bl < 0) (lal : -2147483648 ≤ al) (gal : 2147483648 < al) (w : World) (hA : AllAt w) : Calls Tryd.prog 13 #[.int .i64 4, .agg #[.int .i64 al, .int .i64 ah], .agg #[.int .i64 bl, .int .i64 bh]] w fun e w' => e = .returned (.agg #[.int .i64 (-9223372036854775808), .int .i64 9223372036854775807]) ∧ Below w.heap.size w w' := by
  obtain ⟨gz, g0, g1⟩ := hA
  have gz0 : 2 < w.heap.size := by omega
  have gz1 : 2 < w.heap.size + 1 := by omega
  have gz2 : 2 < w.heap.size + 1 + 1 := by omega
  have gz3 : 2 < w.heap.size + 1 + 1 + 1 := by omega
  have gz4 : 2 < w.heap.size + 1 + 1 + 1 + 1 := by omega
  have hx := and63 bl
  have hk0 : 0 ≤ bl % 64 := Int.emod_nonneg _ (by decide)
  have hk1 : bl % 64 < 64 := Int.emod_lt_of_pos _ (by decide)
  have da : decide (0 ≤ al) = true := by simp; omega
  have db : decide (0 ≤ bl) = false := by simp; omega
  have _lal : decide (-2147483648 ≤ al) = true := by simp; omega
  have _gal : decide (al ≤ 2147483648) = false := by simp; omega
  go_enter Tryd.func13, Tryd.ntmps13
  go_wp2_with (first | (go_at_call 47; refine (radd_is _ _ ?_ ?_ ?_ ?_ _).mono ?_; omega; omega; omega; omega; rintro e w' ⟨rfl, rfl⟩) | (go_at_call 48; refine (rsub_is _ _ ?_ ?_ ?_ ?_ _).mono ?_; omega; omega; omega; omega; rintro e w' ⟨rfl, rfl⟩) | (go_at_call 50; refine (refFill_any _ ?_ _).mono ?_; omega; rintro e w' ⟨rfl, rfl⟩) | (go_at_call 52; refine (rdown_is _ _ ?_ ?_ ?_ ?_ _).mono ?_; omega; omega; omega; omega; rintro e w' ⟨rfl, rfl⟩) | (go_at_call 51; refine (ref_any _ _ _ ?_ ?_ ?_ ?_ _).mono ?_; omega; omega; omega; omega; rintro e w' ⟨rfl, rfl⟩) | (go_at_call 49; refine (rone_at _ _).mono ?_; rintro e w' ⟨rfl, rfl⟩) | (go_at_call 15; refine (rjoin_at _ _ _ _ _).mono ?_; rintro e w' ⟨rfl, rfl⟩))
  refine wp_loop_rounds 5 ?_
  repeat any_goals (rw [rounds_succ]; go_wp2_with (first | (go_at_call 47; refine (radd_is _ _ ?_ ?_ ?_ ?_ _).mono ?_; omega; omega; omega; omega; rintro e w' ⟨rfl, rfl⟩) | (go_at_call 48; refine (rsub_is _ _ ?_ ?_ ?_ ?_ _).mono ?_; omega; omega; omega; omega; rintro e w' ⟨rfl, rfl⟩) | (go_at_call 50; refine (refFill_any _ ?_ _).mono ?_; omega; rintro e w' ⟨rfl, rfl⟩) | (go_at_call 52; refine (rdown_is _ _ ?_ ?_ ?_ ?_ _).mono ?_; omega; omega; omega; omega; rintro e w' ⟨rfl, rfl⟩) | (go_at_call 51; refine (ref_any _ _ _ ?_ ?_ ?_ ?_ _).mono ?_; omega; omega; omega; omega; rintro e w' ⟨rfl, rfl⟩) | (go_at_call 49; refine (rone_at _ _).mono ?_; rintro e w' ⟨rfl, rfl⟩) | (go_at_call 15; refine (rjoin_at _ _ _ _ _).mono ?_; rintro e w' ⟨rfl, rfl⟩)))
  all_goals exact bodyPost_ret (v := .agg #[.int .i64 (-9223372036854775808), .int .i64 9223372036854775807]) (by simp [results, Tryd.results13, go_sem]) rfl ⟨rfl, by repeat' first | exact Below.refl _ _ | refine Below.alloc ?_ ?_ _ | refine Below.setCell ?_ ?_ _ | refine Below.drew ?_ | refine below_drewN ?_ _ | (simp; done) | (simp; omega) | (simp [drew_size]; done) | (simp [drew_size]; omega) | omega⟩
set_option maxHeartbeats 4000000 in
set_option maxRecDepth 100000 in
theorem rbd_4pn1hi (al ah bl bh : Int) (pal : -9223372036854775808 ≤ al) (qal : al ≤ 9223372036854775807) (pah : -9223372036854775808 ≤ ah) (qah : ah ≤ 9223372036854775807) (pbl : -9223372036854775808 ≤ bl) (qbl : bl ≤ 9223372036854775807) (pbh : -9223372036854775808 ≤ bh) (qbh : bh ≤ 9223372036854775807) (oa : al ≤ ah) (ob : bl ≤ bh) (ha : 0 ≤ al) (hb : bl < 0) (lal : -2147483648 ≤ al) (gal : al ≤ 2147483648) (lah : -2147483648 ≤ ah) (gah : 2147483648 < ah) (w : World) (hA : AllAt w) : Calls Tryd.prog 13 #[.int .i64 4, .agg #[.int .i64 al, .int .i64 ah], .agg #[.int .i64 bl, .int .i64 bh]] w fun e w' => e = .returned (.agg #[.int .i64 (-9223372036854775808), .int .i64 9223372036854775807]) ∧ Below w.heap.size w w' := by
  obtain ⟨gz, g0, g1⟩ := hA
  have gz0 : 2 < w.heap.size := by omega
  have gz1 : 2 < w.heap.size + 1 := by omega
  have gz2 : 2 < w.heap.size + 1 + 1 := by omega
  have gz3 : 2 < w.heap.size + 1 + 1 + 1 := by omega
  have gz4 : 2 < w.heap.size + 1 + 1 + 1 + 1 := by omega
  have hx := and63 bl
  have hk0 : 0 ≤ bl % 64 := Int.emod_nonneg _ (by decide)
  have hk1 : bl % 64 < 64 := Int.emod_lt_of_pos _ (by decide)
  have da : decide (0 ≤ al) = true := by simp; omega
  have db : decide (0 ≤ bl) = false := by simp; omega
  have _lal : decide (-2147483648 ≤ al) = true := by simp; omega
  have _gal : decide (al ≤ 2147483648) = true := by simp; omega
  have _lah : decide (-2147483648 ≤ ah) = true := by simp; omega
  have _gah : decide (ah ≤ 2147483648) = false := by simp; omega
  go_enter Tryd.func13, Tryd.ntmps13
  go_wp2_with (first | (go_at_call 47; refine (radd_is _ _ ?_ ?_ ?_ ?_ _).mono ?_; omega; omega; omega; omega; rintro e w' ⟨rfl, rfl⟩) | (go_at_call 48; refine (rsub_is _ _ ?_ ?_ ?_ ?_ _).mono ?_; omega; omega; omega; omega; rintro e w' ⟨rfl, rfl⟩) | (go_at_call 50; refine (refFill_any _ ?_ _).mono ?_; omega; rintro e w' ⟨rfl, rfl⟩) | (go_at_call 52; refine (rdown_is _ _ ?_ ?_ ?_ ?_ _).mono ?_; omega; omega; omega; omega; rintro e w' ⟨rfl, rfl⟩) | (go_at_call 51; refine (ref_any _ _ _ ?_ ?_ ?_ ?_ _).mono ?_; omega; omega; omega; omega; rintro e w' ⟨rfl, rfl⟩) | (go_at_call 49; refine (rone_at _ _).mono ?_; rintro e w' ⟨rfl, rfl⟩) | (go_at_call 15; refine (rjoin_at _ _ _ _ _).mono ?_; rintro e w' ⟨rfl, rfl⟩))
  refine wp_loop_rounds 5 ?_
  repeat any_goals (rw [rounds_succ]; go_wp2_with (first | (go_at_call 47; refine (radd_is _ _ ?_ ?_ ?_ ?_ _).mono ?_; omega; omega; omega; omega; rintro e w' ⟨rfl, rfl⟩) | (go_at_call 48; refine (rsub_is _ _ ?_ ?_ ?_ ?_ _).mono ?_; omega; omega; omega; omega; rintro e w' ⟨rfl, rfl⟩) | (go_at_call 50; refine (refFill_any _ ?_ _).mono ?_; omega; rintro e w' ⟨rfl, rfl⟩) | (go_at_call 52; refine (rdown_is _ _ ?_ ?_ ?_ ?_ _).mono ?_; omega; omega; omega; omega; rintro e w' ⟨rfl, rfl⟩) | (go_at_call 51; refine (ref_any _ _ _ ?_ ?_ ?_ ?_ _).mono ?_; omega; omega; omega; omega; rintro e w' ⟨rfl, rfl⟩) | (go_at_call 49; refine (rone_at _ _).mono ?_; rintro e w' ⟨rfl, rfl⟩) | (go_at_call 15; refine (rjoin_at _ _ _ _ _).mono ?_; rintro e w' ⟨rfl, rfl⟩)))
  all_goals exact bodyPost_ret (v := .agg #[.int .i64 (-9223372036854775808), .int .i64 9223372036854775807]) (by simp [results, Tryd.results13, go_sem]) rfl ⟨rfl, by repeat' first | exact Below.refl _ _ | refine Below.alloc ?_ ?_ _ | refine Below.setCell ?_ ?_ _ | refine Below.drew ?_ | refine below_drewN ?_ _ | (simp; done) | (simp; omega) | (simp [drew_size]; done) | (simp [drew_size]; omega) | omega⟩
set_option maxHeartbeats 4000000 in
set_option maxRecDepth 100000 in
theorem rbd_4pn2lo (al ah bl bh : Int) (pal : -9223372036854775808 ≤ al) (qal : al ≤ 9223372036854775807) (pah : -9223372036854775808 ≤ ah) (qah : ah ≤ 9223372036854775807) (pbl : -9223372036854775808 ≤ bl) (qbl : bl ≤ 9223372036854775807) (pbh : -9223372036854775808 ≤ bh) (qbh : bh ≤ 9223372036854775807) (oa : al ≤ ah) (ob : bl ≤ bh) (ha : 0 ≤ al) (hb : bl < 0) (lal : -2147483648 ≤ al) (gal : al ≤ 2147483648) (lah : -2147483648 ≤ ah) (gah : ah ≤ 2147483648) (lbl : bl < -2147483648) (w : World) (hA : AllAt w) : Calls Tryd.prog 13 #[.int .i64 4, .agg #[.int .i64 al, .int .i64 ah], .agg #[.int .i64 bl, .int .i64 bh]] w fun e w' => e = .returned (.agg #[.int .i64 (-9223372036854775808), .int .i64 9223372036854775807]) ∧ Below w.heap.size w w' := by
  obtain ⟨gz, g0, g1⟩ := hA
  have gz0 : 2 < w.heap.size := by omega
  have gz1 : 2 < w.heap.size + 1 := by omega
  have gz2 : 2 < w.heap.size + 1 + 1 := by omega
  have gz3 : 2 < w.heap.size + 1 + 1 + 1 := by omega
  have gz4 : 2 < w.heap.size + 1 + 1 + 1 + 1 := by omega
  have hx := and63 bl
  have hk0 : 0 ≤ bl % 64 := Int.emod_nonneg _ (by decide)
  have hk1 : bl % 64 < 64 := Int.emod_lt_of_pos _ (by decide)
  have da : decide (0 ≤ al) = true := by simp; omega
  have db : decide (0 ≤ bl) = false := by simp; omega
  have _lal : decide (-2147483648 ≤ al) = true := by simp; omega
  have _gal : decide (al ≤ 2147483648) = true := by simp; omega
  have _lah : decide (-2147483648 ≤ ah) = true := by simp; omega
  have _gah : decide (ah ≤ 2147483648) = true := by simp; omega
  have _lbl : decide (-2147483648 ≤ bl) = false := by simp; omega
  go_enter Tryd.func13, Tryd.ntmps13
  go_wp2_with (first | (go_at_call 47; refine (radd_is _ _ ?_ ?_ ?_ ?_ _).mono ?_; omega; omega; omega; omega; rintro e w' ⟨rfl, rfl⟩) | (go_at_call 48; refine (rsub_is _ _ ?_ ?_ ?_ ?_ _).mono ?_; omega; omega; omega; omega; rintro e w' ⟨rfl, rfl⟩) | (go_at_call 50; refine (refFill_any _ ?_ _).mono ?_; omega; rintro e w' ⟨rfl, rfl⟩) | (go_at_call 52; refine (rdown_is _ _ ?_ ?_ ?_ ?_ _).mono ?_; omega; omega; omega; omega; rintro e w' ⟨rfl, rfl⟩) | (go_at_call 51; refine (ref_any _ _ _ ?_ ?_ ?_ ?_ _).mono ?_; omega; omega; omega; omega; rintro e w' ⟨rfl, rfl⟩) | (go_at_call 49; refine (rone_at _ _).mono ?_; rintro e w' ⟨rfl, rfl⟩) | (go_at_call 15; refine (rjoin_at _ _ _ _ _).mono ?_; rintro e w' ⟨rfl, rfl⟩))
  refine wp_loop_rounds 5 ?_
  repeat any_goals (rw [rounds_succ]; go_wp2_with (first | (go_at_call 47; refine (radd_is _ _ ?_ ?_ ?_ ?_ _).mono ?_; omega; omega; omega; omega; rintro e w' ⟨rfl, rfl⟩) | (go_at_call 48; refine (rsub_is _ _ ?_ ?_ ?_ ?_ _).mono ?_; omega; omega; omega; omega; rintro e w' ⟨rfl, rfl⟩) | (go_at_call 50; refine (refFill_any _ ?_ _).mono ?_; omega; rintro e w' ⟨rfl, rfl⟩) | (go_at_call 52; refine (rdown_is _ _ ?_ ?_ ?_ ?_ _).mono ?_; omega; omega; omega; omega; rintro e w' ⟨rfl, rfl⟩) | (go_at_call 51; refine (ref_any _ _ _ ?_ ?_ ?_ ?_ _).mono ?_; omega; omega; omega; omega; rintro e w' ⟨rfl, rfl⟩) | (go_at_call 49; refine (rone_at _ _).mono ?_; rintro e w' ⟨rfl, rfl⟩) | (go_at_call 15; refine (rjoin_at _ _ _ _ _).mono ?_; rintro e w' ⟨rfl, rfl⟩)))
  all_goals exact bodyPost_ret (v := .agg #[.int .i64 (-9223372036854775808), .int .i64 9223372036854775807]) (by simp [results, Tryd.results13, go_sem]) rfl ⟨rfl, by repeat' first | exact Below.refl _ _ | refine Below.alloc ?_ ?_ _ | refine Below.setCell ?_ ?_ _ | refine Below.drew ?_ | refine below_drewN ?_ _ | (simp; done) | (simp; omega) | (simp [drew_size]; done) | (simp [drew_size]; omega) | omega⟩
set_option maxHeartbeats 4000000 in
set_option maxRecDepth 100000 in
theorem rbd_4pn3hi (al ah bl bh : Int) (pal : -9223372036854775808 ≤ al) (qal : al ≤ 9223372036854775807) (pah : -9223372036854775808 ≤ ah) (qah : ah ≤ 9223372036854775807) (pbl : -9223372036854775808 ≤ bl) (qbl : bl ≤ 9223372036854775807) (pbh : -9223372036854775808 ≤ bh) (qbh : bh ≤ 9223372036854775807) (oa : al ≤ ah) (ob : bl ≤ bh) (ha : 0 ≤ al) (hb : bl < 0) (lal : -2147483648 ≤ al) (gal : al ≤ 2147483648) (lah : -2147483648 ≤ ah) (gah : ah ≤ 2147483648) (lbl : -2147483648 ≤ bl) (gbl : bl ≤ 2147483648) (lbh : -2147483648 ≤ bh) (gbh : 2147483648 < bh) (w : World) (hA : AllAt w) : Calls Tryd.prog 13 #[.int .i64 4, .agg #[.int .i64 al, .int .i64 ah], .agg #[.int .i64 bl, .int .i64 bh]] w fun e w' => e = .returned (.agg #[.int .i64 (-9223372036854775808), .int .i64 9223372036854775807]) ∧ Below w.heap.size w w' := by
  obtain ⟨gz, g0, g1⟩ := hA
  have gz0 : 2 < w.heap.size := by omega
  have gz1 : 2 < w.heap.size + 1 := by omega
  have gz2 : 2 < w.heap.size + 1 + 1 := by omega
  have gz3 : 2 < w.heap.size + 1 + 1 + 1 := by omega
  have gz4 : 2 < w.heap.size + 1 + 1 + 1 + 1 := by omega
  have hx := and63 bl
  have hk0 : 0 ≤ bl % 64 := Int.emod_nonneg _ (by decide)
  have hk1 : bl % 64 < 64 := Int.emod_lt_of_pos _ (by decide)
  have da : decide (0 ≤ al) = true := by simp; omega
  have db : decide (0 ≤ bl) = false := by simp; omega
  have _lal : decide (-2147483648 ≤ al) = true := by simp; omega
  have _gal : decide (al ≤ 2147483648) = true := by simp; omega
  have _lah : decide (-2147483648 ≤ ah) = true := by simp; omega
  have _gah : decide (ah ≤ 2147483648) = true := by simp; omega
  have _lbl : decide (-2147483648 ≤ bl) = true := by simp; omega
  have _gbl : decide (bl ≤ 2147483648) = true := by simp; omega
  have _lbh : decide (-2147483648 ≤ bh) = true := by simp; omega
  have _gbh : decide (bh ≤ 2147483648) = false := by simp; omega
  go_enter Tryd.func13, Tryd.ntmps13
  go_wp2_with (first | (go_at_call 47; refine (radd_is _ _ ?_ ?_ ?_ ?_ _).mono ?_; omega; omega; omega; omega; rintro e w' ⟨rfl, rfl⟩) | (go_at_call 48; refine (rsub_is _ _ ?_ ?_ ?_ ?_ _).mono ?_; omega; omega; omega; omega; rintro e w' ⟨rfl, rfl⟩) | (go_at_call 50; refine (refFill_any _ ?_ _).mono ?_; omega; rintro e w' ⟨rfl, rfl⟩) | (go_at_call 52; refine (rdown_is _ _ ?_ ?_ ?_ ?_ _).mono ?_; omega; omega; omega; omega; rintro e w' ⟨rfl, rfl⟩) | (go_at_call 51; refine (ref_any _ _ _ ?_ ?_ ?_ ?_ _).mono ?_; omega; omega; omega; omega; rintro e w' ⟨rfl, rfl⟩) | (go_at_call 49; refine (rone_at _ _).mono ?_; rintro e w' ⟨rfl, rfl⟩) | (go_at_call 15; refine (rjoin_at _ _ _ _ _).mono ?_; rintro e w' ⟨rfl, rfl⟩))
  refine wp_loop_rounds 5 ?_
  repeat any_goals (rw [rounds_succ]; go_wp2_with (first | (go_at_call 47; refine (radd_is _ _ ?_ ?_ ?_ ?_ _).mono ?_; omega; omega; omega; omega; rintro e w' ⟨rfl, rfl⟩) | (go_at_call 48; refine (rsub_is _ _ ?_ ?_ ?_ ?_ _).mono ?_; omega; omega; omega; omega; rintro e w' ⟨rfl, rfl⟩) | (go_at_call 50; refine (refFill_any _ ?_ _).mono ?_; omega; rintro e w' ⟨rfl, rfl⟩) | (go_at_call 52; refine (rdown_is _ _ ?_ ?_ ?_ ?_ _).mono ?_; omega; omega; omega; omega; rintro e w' ⟨rfl, rfl⟩) | (go_at_call 51; refine (ref_any _ _ _ ?_ ?_ ?_ ?_ _).mono ?_; omega; omega; omega; omega; rintro e w' ⟨rfl, rfl⟩) | (go_at_call 49; refine (rone_at _ _).mono ?_; rintro e w' ⟨rfl, rfl⟩) | (go_at_call 15; refine (rjoin_at _ _ _ _ _).mono ?_; rintro e w' ⟨rfl, rfl⟩)))
  all_goals exact bodyPost_ret (v := .agg #[.int .i64 (-9223372036854775808), .int .i64 9223372036854775807]) (by simp [results, Tryd.results13, go_sem]) rfl ⟨rfl, by repeat' first | exact Below.refl _ _ | refine Below.alloc ?_ ?_ _ | refine Below.setCell ?_ ?_ _ | refine Below.drew ?_ | refine below_drewN ?_ _ | (simp; done) | (simp; omega) | (simp [drew_size]; done) | (simp [drew_size]; omega) | omega⟩
set_option maxHeartbeats 4000000 in
set_option maxRecDepth 100000 in
theorem rbd_4n0lo (al ah bl bh : Int) (pal : -9223372036854775808 ≤ al) (qal : al ≤ 9223372036854775807) (pah : -9223372036854775808 ≤ ah) (qah : ah ≤ 9223372036854775807) (pbl : -9223372036854775808 ≤ bl) (qbl : bl ≤ 9223372036854775807) (pbh : -9223372036854775808 ≤ bh) (qbh : bh ≤ 9223372036854775807) (oa : al ≤ ah) (ob : bl ≤ bh) (ha : al < 0) (lal : al < -2147483648) (w : World) (hA : AllAt w) : Calls Tryd.prog 13 #[.int .i64 4, .agg #[.int .i64 al, .int .i64 ah], .agg #[.int .i64 bl, .int .i64 bh]] w fun e w' => e = .returned (.agg #[.int .i64 (-9223372036854775808), .int .i64 9223372036854775807]) ∧ Below w.heap.size w w' := by
  obtain ⟨gz, g0, g1⟩ := hA
  have gz0 : 2 < w.heap.size := by omega
  have gz1 : 2 < w.heap.size + 1 := by omega
  have gz2 : 2 < w.heap.size + 1 + 1 := by omega
  have gz3 : 2 < w.heap.size + 1 + 1 + 1 := by omega
  have gz4 : 2 < w.heap.size + 1 + 1 + 1 + 1 := by omega
  have hx := and63 bl
  have hk0 : 0 ≤ bl % 64 := Int.emod_nonneg _ (by decide)
  have hk1 : bl % 64 < 64 := Int.emod_lt_of_pos _ (by decide)
  have da : decide (0 ≤ al) = false := by simp; omega
  have _lal : decide (-2147483648 ≤ al) = false := by simp; omega
  go_enter Tryd.func13, Tryd.ntmps13
  go_wp2_with (first | (go_at_call 47; refine (radd_is _ _ ?_ ?_ ?_ ?_ _).mono ?_; omega; omega; omega; omega; rintro e w' ⟨rfl, rfl⟩) | (go_at_call 48; refine (rsub_is _ _ ?_ ?_ ?_ ?_ _).mono ?_; omega; omega; omega; omega; rintro e w' ⟨rfl, rfl⟩) | (go_at_call 50; refine (refFill_any _ ?_ _).mono ?_; omega; rintro e w' ⟨rfl, rfl⟩) | (go_at_call 52; refine (rdown_is _ _ ?_ ?_ ?_ ?_ _).mono ?_; omega; omega; omega; omega; rintro e w' ⟨rfl, rfl⟩) | (go_at_call 51; refine (ref_any _ _ _ ?_ ?_ ?_ ?_ _).mono ?_; omega; omega; omega; omega; rintro e w' ⟨rfl, rfl⟩) | (go_at_call 49; refine (rone_at _ _).mono ?_; rintro e w' ⟨rfl, rfl⟩) | (go_at_call 15; refine (rjoin_at _ _ _ _ _).mono ?_; rintro e w' ⟨rfl, rfl⟩))
  refine wp_loop_rounds 5 ?_
  repeat any_goals (rw [rounds_succ]; go_wp2_with (first | (go_at_call 47; refine (radd_is _ _ ?_ ?_ ?_ ?_ _).mono ?_; omega; omega; omega; omega; rintro e w' ⟨rfl, rfl⟩) | (go_at_call 48; refine (rsub_is _ _ ?_ ?_ ?_ ?_ _).mono ?_; omega; omega; omega; omega; rintro e w' ⟨rfl, rfl⟩) | (go_at_call 50; refine (refFill_any _ ?_ _).mono ?_; omega; rintro e w' ⟨rfl, rfl⟩) | (go_at_call 52; refine (rdown_is _ _ ?_ ?_ ?_ ?_ _).mono ?_; omega; omega; omega; omega; rintro e w' ⟨rfl, rfl⟩) | (go_at_call 51; refine (ref_any _ _ _ ?_ ?_ ?_ ?_ _).mono ?_; omega; omega; omega; omega; rintro e w' ⟨rfl, rfl⟩) | (go_at_call 49; refine (rone_at _ _).mono ?_; rintro e w' ⟨rfl, rfl⟩) | (go_at_call 15; refine (rjoin_at _ _ _ _ _).mono ?_; rintro e w' ⟨rfl, rfl⟩)))
  all_goals exact bodyPost_ret (v := .agg #[.int .i64 (-9223372036854775808), .int .i64 9223372036854775807]) (by simp [results, Tryd.results13, go_sem]) rfl ⟨rfl, by repeat' first | exact Below.refl _ _ | refine Below.alloc ?_ ?_ _ | refine Below.setCell ?_ ?_ _ | refine Below.drew ?_ | refine below_drewN ?_ _ | (simp; done) | (simp; omega) | (simp [drew_size]; done) | (simp [drew_size]; omega) | omega⟩
set_option maxHeartbeats 4000000 in
set_option maxRecDepth 100000 in
theorem rbd_4n1hi (al ah bl bh : Int) (pal : -9223372036854775808 ≤ al) (qal : al ≤ 9223372036854775807) (pah : -9223372036854775808 ≤ ah) (qah : ah ≤ 9223372036854775807) (pbl : -9223372036854775808 ≤ bl) (qbl : bl ≤ 9223372036854775807) (pbh : -9223372036854775808 ≤ bh) (qbh : bh ≤ 9223372036854775807) (oa : al ≤ ah) (ob : bl ≤ bh) (ha : al < 0) (lal : -2147483648 ≤ al) (gal : al ≤ 2147483648) (lah : -2147483648 ≤ ah) (gah : 2147483648 < ah) (w : World) (hA : AllAt w) : Calls Tryd.prog 13 #[.int .i64 4, .agg #[.int .i64 al, .int .i64 ah], .agg #[.int .i64 bl, .int .i64 bh]] w fun e w' => e = .returned (.agg #[.int .i64 (-9223372036854775808), .int .i64 9223372036854775807]) ∧ Below w.heap.size w w' := by
  obtain ⟨gz, g0, g1⟩ := hA
  have gz0 : 2 < w.heap.size := by omega
  have gz1 : 2 < w.heap.size + 1 := by omega
  have gz2 : 2 < w.heap.size + 1 + 1 := by omega
  have gz3 : 2 < w.heap.size + 1 + 1 + 1 := by omega
  have gz4 : 2 < w.heap.size + 1 + 1 + 1 + 1 := by omega
  have hx := and63 bl
  have hk0 : 0 ≤ bl % 64 := Int.emod_nonneg _ (by decide)
  have hk1 : bl % 64 < 64 := Int.emod_lt_of_pos _ (by decide)
  have da : decide (0 ≤ al) = false := by simp; omega
  have _lal : decide (-2147483648 ≤ al) = true := by simp; omega
  have _gal : decide (al ≤ 2147483648) = true := by simp; omega
  have _lah : decide (-2147483648 ≤ ah) = true := by simp; omega
  have _gah : decide (ah ≤ 2147483648) = false := by simp; omega
  go_enter Tryd.func13, Tryd.ntmps13
  go_wp2_with (first | (go_at_call 47; refine (radd_is _ _ ?_ ?_ ?_ ?_ _).mono ?_; omega; omega; omega; omega; rintro e w' ⟨rfl, rfl⟩) | (go_at_call 48; refine (rsub_is _ _ ?_ ?_ ?_ ?_ _).mono ?_; omega; omega; omega; omega; rintro e w' ⟨rfl, rfl⟩) | (go_at_call 50; refine (refFill_any _ ?_ _).mono ?_; omega; rintro e w' ⟨rfl, rfl⟩) | (go_at_call 52; refine (rdown_is _ _ ?_ ?_ ?_ ?_ _).mono ?_; omega; omega; omega; omega; rintro e w' ⟨rfl, rfl⟩) | (go_at_call 51; refine (ref_any _ _ _ ?_ ?_ ?_ ?_ _).mono ?_; omega; omega; omega; omega; rintro e w' ⟨rfl, rfl⟩) | (go_at_call 49; refine (rone_at _ _).mono ?_; rintro e w' ⟨rfl, rfl⟩) | (go_at_call 15; refine (rjoin_at _ _ _ _ _).mono ?_; rintro e w' ⟨rfl, rfl⟩))
  refine wp_loop_rounds 5 ?_
  repeat any_goals (rw [rounds_succ]; go_wp2_with (first | (go_at_call 47; refine (radd_is _ _ ?_ ?_ ?_ ?_ _).mono ?_; omega; omega; omega; omega; rintro e w' ⟨rfl, rfl⟩) | (go_at_call 48; refine (rsub_is _ _ ?_ ?_ ?_ ?_ _).mono ?_; omega; omega; omega; omega; rintro e w' ⟨rfl, rfl⟩) | (go_at_call 50; refine (refFill_any _ ?_ _).mono ?_; omega; rintro e w' ⟨rfl, rfl⟩) | (go_at_call 52; refine (rdown_is _ _ ?_ ?_ ?_ ?_ _).mono ?_; omega; omega; omega; omega; rintro e w' ⟨rfl, rfl⟩) | (go_at_call 51; refine (ref_any _ _ _ ?_ ?_ ?_ ?_ _).mono ?_; omega; omega; omega; omega; rintro e w' ⟨rfl, rfl⟩) | (go_at_call 49; refine (rone_at _ _).mono ?_; rintro e w' ⟨rfl, rfl⟩) | (go_at_call 15; refine (rjoin_at _ _ _ _ _).mono ?_; rintro e w' ⟨rfl, rfl⟩)))
  all_goals exact bodyPost_ret (v := .agg #[.int .i64 (-9223372036854775808), .int .i64 9223372036854775807]) (by simp [results, Tryd.results13, go_sem]) rfl ⟨rfl, by repeat' first | exact Below.refl _ _ | refine Below.alloc ?_ ?_ _ | refine Below.setCell ?_ ?_ _ | refine Below.drew ?_ | refine below_drewN ?_ _ | (simp; done) | (simp; omega) | (simp [drew_size]; done) | (simp [drew_size]; omega) | omega⟩
set_option maxHeartbeats 4000000 in
set_option maxRecDepth 100000 in
theorem rbd_4n2lo (al ah bl bh : Int) (pal : -9223372036854775808 ≤ al) (qal : al ≤ 9223372036854775807) (pah : -9223372036854775808 ≤ ah) (qah : ah ≤ 9223372036854775807) (pbl : -9223372036854775808 ≤ bl) (qbl : bl ≤ 9223372036854775807) (pbh : -9223372036854775808 ≤ bh) (qbh : bh ≤ 9223372036854775807) (oa : al ≤ ah) (ob : bl ≤ bh) (ha : al < 0) (lal : -2147483648 ≤ al) (gal : al ≤ 2147483648) (lah : -2147483648 ≤ ah) (gah : ah ≤ 2147483648) (lbl : bl < -2147483648) (w : World) (hA : AllAt w) : Calls Tryd.prog 13 #[.int .i64 4, .agg #[.int .i64 al, .int .i64 ah], .agg #[.int .i64 bl, .int .i64 bh]] w fun e w' => e = .returned (.agg #[.int .i64 (-9223372036854775808), .int .i64 9223372036854775807]) ∧ Below w.heap.size w w' := by
  obtain ⟨gz, g0, g1⟩ := hA
  have gz0 : 2 < w.heap.size := by omega
  have gz1 : 2 < w.heap.size + 1 := by omega
  have gz2 : 2 < w.heap.size + 1 + 1 := by omega
  have gz3 : 2 < w.heap.size + 1 + 1 + 1 := by omega
  have gz4 : 2 < w.heap.size + 1 + 1 + 1 + 1 := by omega
  have hx := and63 bl
  have hk0 : 0 ≤ bl % 64 := Int.emod_nonneg _ (by decide)
  have hk1 : bl % 64 < 64 := Int.emod_lt_of_pos _ (by decide)
  have da : decide (0 ≤ al) = false := by simp; omega
  have _lal : decide (-2147483648 ≤ al) = true := by simp; omega
  have _gal : decide (al ≤ 2147483648) = true := by simp; omega
  have _lah : decide (-2147483648 ≤ ah) = true := by simp; omega
  have _gah : decide (ah ≤ 2147483648) = true := by simp; omega
  have _lbl : decide (-2147483648 ≤ bl) = false := by simp; omega
  go_enter Tryd.func13, Tryd.ntmps13
  go_wp2_with (first | (go_at_call 47; refine (radd_is _ _ ?_ ?_ ?_ ?_ _).mono ?_; omega; omega; omega; omega; rintro e w' ⟨rfl, rfl⟩) | (go_at_call 48; refine (rsub_is _ _ ?_ ?_ ?_ ?_ _).mono ?_; omega; omega; omega; omega; rintro e w' ⟨rfl, rfl⟩) | (go_at_call 50; refine (refFill_any _ ?_ _).mono ?_; omega; rintro e w' ⟨rfl, rfl⟩) | (go_at_call 52; refine (rdown_is _ _ ?_ ?_ ?_ ?_ _).mono ?_; omega; omega; omega; omega; rintro e w' ⟨rfl, rfl⟩) | (go_at_call 51; refine (ref_any _ _ _ ?_ ?_ ?_ ?_ _).mono ?_; omega; omega; omega; omega; rintro e w' ⟨rfl, rfl⟩) | (go_at_call 49; refine (rone_at _ _).mono ?_; rintro e w' ⟨rfl, rfl⟩) | (go_at_call 15; refine (rjoin_at _ _ _ _ _).mono ?_; rintro e w' ⟨rfl, rfl⟩))
  refine wp_loop_rounds 5 ?_
  repeat any_goals (rw [rounds_succ]; go_wp2_with (first | (go_at_call 47; refine (radd_is _ _ ?_ ?_ ?_ ?_ _).mono ?_; omega; omega; omega; omega; rintro e w' ⟨rfl, rfl⟩) | (go_at_call 48; refine (rsub_is _ _ ?_ ?_ ?_ ?_ _).mono ?_; omega; omega; omega; omega; rintro e w' ⟨rfl, rfl⟩) | (go_at_call 50; refine (refFill_any _ ?_ _).mono ?_; omega; rintro e w' ⟨rfl, rfl⟩) | (go_at_call 52; refine (rdown_is _ _ ?_ ?_ ?_ ?_ _).mono ?_; omega; omega; omega; omega; rintro e w' ⟨rfl, rfl⟩) | (go_at_call 51; refine (ref_any _ _ _ ?_ ?_ ?_ ?_ _).mono ?_; omega; omega; omega; omega; rintro e w' ⟨rfl, rfl⟩) | (go_at_call 49; refine (rone_at _ _).mono ?_; rintro e w' ⟨rfl, rfl⟩) | (go_at_call 15; refine (rjoin_at _ _ _ _ _).mono ?_; rintro e w' ⟨rfl, rfl⟩)))
  all_goals exact bodyPost_ret (v := .agg #[.int .i64 (-9223372036854775808), .int .i64 9223372036854775807]) (by simp [results, Tryd.results13, go_sem]) rfl ⟨rfl, by repeat' first | exact Below.refl _ _ | refine Below.alloc ?_ ?_ _ | refine Below.setCell ?_ ?_ _ | refine Below.drew ?_ | refine below_drewN ?_ _ | (simp; done) | (simp; omega) | (simp [drew_size]; done) | (simp [drew_size]; omega) | omega⟩
set_option maxHeartbeats 4000000 in
set_option maxRecDepth 100000 in
theorem rbd_4n2hi (al ah bl bh : Int) (pal : -9223372036854775808 ≤ al) (qal : al ≤ 9223372036854775807) (pah : -9223372036854775808 ≤ ah) (qah : ah ≤ 9223372036854775807) (pbl : -9223372036854775808 ≤ bl) (qbl : bl ≤ 9223372036854775807) (pbh : -9223372036854775808 ≤ bh) (qbh : bh ≤ 9223372036854775807) (oa : al ≤ ah) (ob : bl ≤ bh) (ha : al < 0) (lal : -2147483648 ≤ al) (gal : al ≤ 2147483648) (lah : -2147483648 ≤ ah) (gah : ah ≤ 2147483648) (lbl : -2147483648 ≤ bl) (gbl : 2147483648 < bl) (w : World) (hA : AllAt w) : Calls Tryd.prog 13 #[.int .i64 4, .agg #[.int .i64 al, .int .i64 ah], .agg #[.int .i64 bl, .int .i64 bh]] w fun e w' => e = .returned (.agg #[.int .i64 (-9223372036854775808), .int .i64 9223372036854775807]) ∧ Below w.heap.size w w' := by
  obtain ⟨gz, g0, g1⟩ := hA
  have gz0 : 2 < w.heap.size := by omega
  have gz1 : 2 < w.heap.size + 1 := by omega
  have gz2 : 2 < w.heap.size + 1 + 1 := by omega
  have gz3 : 2 < w.heap.size + 1 + 1 + 1 := by omega
  have gz4 : 2 < w.heap.size + 1 + 1 + 1 + 1 := by omega
  have hx := and63 bl
  have hk0 : 0 ≤ bl % 64 := Int.emod_nonneg _ (by decide)
  have hk1 : bl % 64 < 64 := Int.emod_lt_of_pos _ (by decide)
  have da : decide (0 ≤ al) = false := by simp; omega
  have _lal : decide (-2147483648 ≤ al) = true := by simp; omega
  have _gal : decide (al ≤ 2147483648) = true := by simp; omega
  have _lah : decide (-2147483648 ≤ ah) = true := by simp; omega
  have _gah : decide (ah ≤ 2147483648) = true := by simp; omega
  have _lbl : decide (-2147483648 ≤ bl) = true := by simp; omega
  have _gbl : decide (bl ≤ 2147483648) = false := by simp; omega
  go_enter Tryd.func13, Tryd.ntmps13
  go_wp2_with (first | (go_at_call 47; refine (radd_is _ _ ?_ ?_ ?_ ?_ _).mono ?_; omega; omega; omega; omega; rintro e w' ⟨rfl, rfl⟩) | (go_at_call 48; refine (rsub_is _ _ ?_ ?_ ?_ ?_ _).mono ?_; omega; omega; omega; omega; rintro e w' ⟨rfl, rfl⟩) | (go_at_call 50; refine (refFill_any _ ?_ _).mono ?_; omega; rintro e w' ⟨rfl, rfl⟩) | (go_at_call 52; refine (rdown_is _ _ ?_ ?_ ?_ ?_ _).mono ?_; omega; omega; omega; omega; rintro e w' ⟨rfl, rfl⟩) | (go_at_call 51; refine (ref_any _ _ _ ?_ ?_ ?_ ?_ _).mono ?_; omega; omega; omega; omega; rintro e w' ⟨rfl, rfl⟩) | (go_at_call 49; refine (rone_at _ _).mono ?_; rintro e w' ⟨rfl, rfl⟩) | (go_at_call 15; refine (rjoin_at _ _ _ _ _).mono ?_; rintro e w' ⟨rfl, rfl⟩))
  refine wp_loop_rounds 5 ?_
  repeat any_goals (rw [rounds_succ]; go_wp2_with (first | (go_at_call 47; refine (radd_is _ _ ?_ ?_ ?_ ?_ _).mono ?_; omega; omega; omega; omega; rintro e w' ⟨rfl, rfl⟩) | (go_at_call 48; refine (rsub_is _ _ ?_ ?_ ?_ ?_ _).mono ?_; omega; omega; omega; omega; rintro e w' ⟨rfl, rfl⟩) | (go_at_call 50; refine (refFill_any _ ?_ _).mono ?_; omega; rintro e w' ⟨rfl, rfl⟩) | (go_at_call 52; refine (rdown_is _ _ ?_ ?_ ?_ ?_ _).mono ?_; omega; omega; omega; omega; rintro e w' ⟨rfl, rfl⟩) | (go_at_call 51; refine (ref_any _ _ _ ?_ ?_ ?_ ?_ _).mono ?_; omega; omega; omega; omega; rintro e w' ⟨rfl, rfl⟩) | (go_at_call 49; refine (rone_at _ _).mono ?_; rintro e w' ⟨rfl, rfl⟩) | (go_at_call 15; refine (rjoin_at _ _ _ _ _).mono ?_; rintro e w' ⟨rfl, rfl⟩)))
  all_goals exact bodyPost_ret (v := .agg #[.int .i64 (-9223372036854775808), .int .i64 9223372036854775807]) (by simp [results, Tryd.results13, go_sem]) rfl ⟨rfl, by repeat' first | exact Below.refl _ _ | refine Below.alloc ?_ ?_ _ | refine Below.setCell ?_ ?_ _ | refine Below.drew ?_ | refine below_drewN ?_ _ | (simp; done) | (simp; omega) | (simp [drew_size]; done) | (simp [drew_size]; omega) | omega⟩
set_option maxHeartbeats 4000000 in
set_option maxRecDepth 100000 in
theorem rbd_4n3hi (al ah bl bh : Int) (pal : -9223372036854775808 ≤ al) (qal : al ≤ 9223372036854775807) (pah : -9223372036854775808 ≤ ah) (qah : ah ≤ 9223372036854775807) (pbl : -9223372036854775808 ≤ bl) (qbl : bl ≤ 9223372036854775807) (pbh : -9223372036854775808 ≤ bh) (qbh : bh ≤ 9223372036854775807) (oa : al ≤ ah) (ob : bl ≤ bh) (ha : al < 0) (lal : -2147483648 ≤ al) (gal : al ≤ 2147483648) (lah : -2147483648 ≤ ah) (gah : ah ≤ 2147483648) (lbl : -2147483648 ≤ bl) (gbl : bl ≤ 2147483648) (lbh : -2147483648 ≤ bh) (gbh : 2147483648 < bh) (w : World) (hA : AllAt w) : Calls Tryd.prog 13 #[.int .i64 4, .agg #[.int .i64 al, .int .i64 ah], .agg #[.int .i64 bl, .int .i64 bh]] w fun e w' => e = .returned (.agg #[.int .i64 (-9223372036854775808), .int .i64 9223372036854775807]) ∧ Below w.heap.size w w' := by
  obtain ⟨gz, g0, g1⟩ := hA
  have gz0 : 2 < w.heap.size := by omega
  have gz1 : 2 < w.heap.size + 1 := by omega
  have gz2 : 2 < w.heap.size + 1 + 1 := by omega
  have gz3 : 2 < w.heap.size + 1 + 1 + 1 := by omega
  have gz4 : 2 < w.heap.size + 1 + 1 + 1 + 1 := by omega
  have hx := and63 bl
  have hk0 : 0 ≤ bl % 64 := Int.emod_nonneg _ (by decide)
  have hk1 : bl % 64 < 64 := Int.emod_lt_of_pos _ (by decide)
  have da : decide (0 ≤ al) = false := by simp; omega
  have _lal : decide (-2147483648 ≤ al) = true := by simp; omega
  have _gal : decide (al ≤ 2147483648) = true := by simp; omega
  have _lah : decide (-2147483648 ≤ ah) = true := by simp; omega
  have _gah : decide (ah ≤ 2147483648) = true := by simp; omega
  have _lbl : decide (-2147483648 ≤ bl) = true := by simp; omega
  have _gbl : decide (bl ≤ 2147483648) = true := by simp; omega
  have _lbh : decide (-2147483648 ≤ bh) = true := by simp; omega
  have _gbh : decide (bh ≤ 2147483648) = false := by simp; omega
  go_enter Tryd.func13, Tryd.ntmps13
  go_wp2_with (first | (go_at_call 47; refine (radd_is _ _ ?_ ?_ ?_ ?_ _).mono ?_; omega; omega; omega; omega; rintro e w' ⟨rfl, rfl⟩) | (go_at_call 48; refine (rsub_is _ _ ?_ ?_ ?_ ?_ _).mono ?_; omega; omega; omega; omega; rintro e w' ⟨rfl, rfl⟩) | (go_at_call 50; refine (refFill_any _ ?_ _).mono ?_; omega; rintro e w' ⟨rfl, rfl⟩) | (go_at_call 52; refine (rdown_is _ _ ?_ ?_ ?_ ?_ _).mono ?_; omega; omega; omega; omega; rintro e w' ⟨rfl, rfl⟩) | (go_at_call 51; refine (ref_any _ _ _ ?_ ?_ ?_ ?_ _).mono ?_; omega; omega; omega; omega; rintro e w' ⟨rfl, rfl⟩) | (go_at_call 49; refine (rone_at _ _).mono ?_; rintro e w' ⟨rfl, rfl⟩) | (go_at_call 15; refine (rjoin_at _ _ _ _ _).mono ?_; rintro e w' ⟨rfl, rfl⟩))
  refine wp_loop_rounds 5 ?_
  repeat any_goals (rw [rounds_succ]; go_wp2_with (first | (go_at_call 47; refine (radd_is _ _ ?_ ?_ ?_ ?_ _).mono ?_; omega; omega; omega; omega; rintro e w' ⟨rfl, rfl⟩) | (go_at_call 48; refine (rsub_is _ _ ?_ ?_ ?_ ?_ _).mono ?_; omega; omega; omega; omega; rintro e w' ⟨rfl, rfl⟩) | (go_at_call 50; refine (refFill_any _ ?_ _).mono ?_; omega; rintro e w' ⟨rfl, rfl⟩) | (go_at_call 52; refine (rdown_is _ _ ?_ ?_ ?_ ?_ _).mono ?_; omega; omega; omega; omega; rintro e w' ⟨rfl, rfl⟩) | (go_at_call 51; refine (ref_any _ _ _ ?_ ?_ ?_ ?_ _).mono ?_; omega; omega; omega; omega; rintro e w' ⟨rfl, rfl⟩) | (go_at_call 49; refine (rone_at _ _).mono ?_; rintro e w' ⟨rfl, rfl⟩) | (go_at_call 15; refine (rjoin_at _ _ _ _ _).mono ?_; rintro e w' ⟨rfl, rfl⟩)))
  all_goals exact bodyPost_ret (v := .agg #[.int .i64 (-9223372036854775808), .int .i64 9223372036854775807]) (by simp [results, Tryd.results13, go_sem]) rfl ⟨rfl, by repeat' first | exact Below.refl _ _ | refine Below.alloc ?_ ?_ _ | refine Below.setCell ?_ ?_ _ | refine Below.drew ?_ | refine below_drewN ?_ _ | (simp; done) | (simp; omega) | (simp [drew_size]; done) | (simp [drew_size]; omega) | omega⟩
end Go.Proofs.YtllphbfhfmieaaaDoor
