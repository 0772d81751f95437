/-
  What the document's own BoundDoes returns: the same function on integers; the world below is as it was. Conditions: the ends are numbers of 64 bits, the low end not above the high one; the document's variable of all numbers holds them.
-/
import Derived.Test.YtllphbfhfmieaaaDoorBoundRef
import Derived.Deep.RegionHeld3
namespace Go.Proofs.YtllphbfhfmieaaaDoor
open Go.ChangeShapes Go.WideShapes Go.ChangeAt Go.RowKit
set_option linter.unusedVariables false
/-- The document's variable of all numbers, and room behind the variables. -/
def AllAt (w : World) : Prop := 2 < w.heap.size ∧ w.cell? ⟨2, 0, none⟩ = some (.int .i64 (-9223372036854775808)) ∧ w.cell? ⟨2, 1, none⟩ = some (.int .i64 9223372036854775807)

set_option maxHeartbeats 1000000 in
set_option maxRecDepth 100000 in
theorem rbd_1pp (al ah bl bh : Int) (pal : -9223372036854775808 ≤ al) (qal : al ≤ 9223372036854775807) (pah : -9223372036854775808 ≤ ah) (qah : ah ≤ 9223372036854775807) (pbl : -9223372036854775808 ≤ bl) (qbl : bl ≤ 9223372036854775807) (pbh : -9223372036854775808 ≤ bh) (qbh : bh ≤ 9223372036854775807) (oa : al ≤ ah) (ob : bl ≤ bh) (ha : 0 ≤ al) (hb : 0 ≤ bl) (w : World) (hA : AllAt w) : Calls Tryd.prog 13 #[.int .i64 1, .agg #[.int .i64 al, .int .i64 ah], .agg #[.int .i64 bl, .int .i64 bh]] w fun e w' => e = .returned (.agg #[.int .i64 bl, .int .i64 bh]) ∧ Below w.heap.size w w' := by
  obtain ⟨gz, g0, g1⟩ := hA
  have gz0 : 2 < w.heap.size := by omega
  have gz1 : 2 < w.heap.size + 1 := by omega
  have gz2 : 2 < w.heap.size + 1 + 1 := by omega
  have gz3 : 2 < w.heap.size + 1 + 1 + 1 := by omega
  have gz4 : 2 < w.heap.size + 1 + 1 + 1 + 1 := by omega
  have hx := and63 bl
  have hk0 : 0 ≤ bl % 64 := Int.emod_nonneg _ (by decide)
  have hk1 : bl % 64 < 64 := Int.emod_lt_of_pos _ (by decide)
  have da : decide (0 ≤ al) = true := by simp; omega
  have db : decide (0 ≤ bl) = true := by simp; omega
  go_enter Tryd.func13, Tryd.ntmps13
  go_wp2_with (first | (go_at_call 47; refine (radd_is _ _ ?_ ?_ ?_ ?_ _).mono ?_; omega; omega; omega; omega; rintro e w' ⟨rfl, rfl⟩) | (go_at_call 48; refine (rsub_is _ _ ?_ ?_ ?_ ?_ _).mono ?_; omega; omega; omega; omega; rintro e w' ⟨rfl, rfl⟩) | (go_at_call 50; refine (refFill_any _ ?_ _).mono ?_; omega; rintro e w' ⟨rfl, rfl⟩) | (go_at_call 52; refine (rdown_is _ _ ?_ ?_ ?_ ?_ _).mono ?_; omega; omega; omega; omega; rintro e w' ⟨rfl, rfl⟩) | (go_at_call 51; refine (ref_any _ _ _ ?_ ?_ ?_ ?_ _).mono ?_; omega; omega; omega; omega; rintro e w' ⟨rfl, rfl⟩))
  all_goals exact bodyPost_ret (v := .agg #[.int .i64 bl, .int .i64 bh]) (by simp [results, Tryd.results13, go_sem]) rfl ⟨rfl, by repeat' first | exact Below.refl _ _ | refine Below.alloc ?_ ?_ _ | refine Below.setCell ?_ ?_ _ | refine Below.drew ?_ | refine below_drewN ?_ _ | (simp; done) | (simp; omega) | (simp [drew_size]; done) | (simp [drew_size]; omega) | omega⟩
set_option maxHeartbeats 1000000 in
set_option maxRecDepth 100000 in
theorem rbd_1pn (al ah bl bh : Int) (pal : -9223372036854775808 ≤ al) (qal : al ≤ 9223372036854775807) (pah : -9223372036854775808 ≤ ah) (qah : ah ≤ 9223372036854775807) (pbl : -9223372036854775808 ≤ bl) (qbl : bl ≤ 9223372036854775807) (pbh : -9223372036854775808 ≤ bh) (qbh : bh ≤ 9223372036854775807) (oa : al ≤ ah) (ob : bl ≤ bh) (ha : 0 ≤ al) (hb : bl < 0) (w : World) (hA : AllAt w) : Calls Tryd.prog 13 #[.int .i64 1, .agg #[.int .i64 al, .int .i64 ah], .agg #[.int .i64 bl, .int .i64 bh]] w fun e w' => e = .returned (.agg #[.int .i64 bl, .int .i64 bh]) ∧ Below w.heap.size w w' := by
  obtain ⟨gz, g0, g1⟩ := hA
  have gz0 : 2 < w.heap.size := by omega
  have gz1 : 2 < w.heap.size + 1 := by omega
  have gz2 : 2 < w.heap.size + 1 + 1 := by omega
  have gz3 : 2 < w.heap.size + 1 + 1 + 1 := by omega
  have gz4 : 2 < w.heap.size + 1 + 1 + 1 + 1 := by omega
  have hx := and63 bl
  have hk0 : 0 ≤ bl % 64 := Int.emod_nonneg _ (by decide)
  have hk1 : bl % 64 < 64 := Int.emod_lt_of_pos _ (by decide)
  have da : decide (0 ≤ al) = true := by simp; omega
  have db : decide (0 ≤ bl) = false := by simp; omega
  go_enter Tryd.func13, Tryd.ntmps13
  go_wp2_with (first | (go_at_call 47; refine (radd_is _ _ ?_ ?_ ?_ ?_ _).mono ?_; omega; omega; omega; omega; rintro e w' ⟨rfl, rfl⟩) | (go_at_call 48; refine (rsub_is _ _ ?_ ?_ ?_ ?_ _).mono ?_; omega; omega; omega; omega; rintro e w' ⟨rfl, rfl⟩) | (go_at_call 50; refine (refFill_any _ ?_ _).mono ?_; omega; rintro e w' ⟨rfl, rfl⟩) | (go_at_call 52; refine (rdown_is _ _ ?_ ?_ ?_ ?_ _).mono ?_; omega; omega; omega; omega; rintro e w' ⟨rfl, rfl⟩) | (go_at_call 51; refine (ref_any _ _ _ ?_ ?_ ?_ ?_ _).mono ?_; omega; omega; omega; omega; rintro e w' ⟨rfl, rfl⟩))
  all_goals exact bodyPost_ret (v := .agg #[.int .i64 bl, .int .i64 bh]) (by simp [results, Tryd.results13, go_sem]) rfl ⟨rfl, by repeat' first | exact Below.refl _ _ | refine Below.alloc ?_ ?_ _ | refine Below.setCell ?_ ?_ _ | refine Below.drew ?_ | refine below_drewN ?_ _ | (simp; done) | (simp; omega) | (simp [drew_size]; done) | (simp [drew_size]; omega) | omega⟩
set_option maxHeartbeats 1000000 in
set_option maxRecDepth 100000 in
theorem rbd_1n (al ah bl bh : Int) (pal : -9223372036854775808 ≤ al) (qal : al ≤ 9223372036854775807) (pah : -9223372036854775808 ≤ ah) (qah : ah ≤ 9223372036854775807) (pbl : -9223372036854775808 ≤ bl) (qbl : bl ≤ 9223372036854775807) (pbh : -9223372036854775808 ≤ bh) (qbh : bh ≤ 9223372036854775807) (oa : al ≤ ah) (ob : bl ≤ bh) (ha : al < 0) (w : World) (hA : AllAt w) : Calls Tryd.prog 13 #[.int .i64 1, .agg #[.int .i64 al, .int .i64 ah], .agg #[.int .i64 bl, .int .i64 bh]] w fun e w' => e = .returned (.agg #[.int .i64 bl, .int .i64 bh]) ∧ Below w.heap.size w w' := by
  obtain ⟨gz, g0, g1⟩ := hA
  have gz0 : 2 < w.heap.size := by omega
  have gz1 : 2 < w.heap.size + 1 := by omega
  have gz2 : 2 < w.heap.size + 1 + 1 := by omega
  have gz3 : 2 < w.heap.size + 1 + 1 + 1 := by omega
  have gz4 : 2 < w.heap.size + 1 + 1 + 1 + 1 := by omega
  have hx := and63 bl
  have hk0 : 0 ≤ bl % 64 := Int.emod_nonneg _ (by decide)
  have hk1 : bl % 64 < 64 := Int.emod_lt_of_pos _ (by decide)
  have da : decide (0 ≤ al) = false := by simp; omega
  go_enter Tryd.func13, Tryd.ntmps13
  go_wp2_with (first | (go_at_call 47; refine (radd_is _ _ ?_ ?_ ?_ ?_ _).mono ?_; omega; omega; omega; omega; rintro e w' ⟨rfl, rfl⟩) | (go_at_call 48; refine (rsub_is _ _ ?_ ?_ ?_ ?_ _).mono ?_; omega; omega; omega; omega; rintro e w' ⟨rfl, rfl⟩) | (go_at_call 50; refine (refFill_any _ ?_ _).mono ?_; omega; rintro e w' ⟨rfl, rfl⟩) | (go_at_call 52; refine (rdown_is _ _ ?_ ?_ ?_ ?_ _).mono ?_; omega; omega; omega; omega; rintro e w' ⟨rfl, rfl⟩) | (go_at_call 51; refine (ref_any _ _ _ ?_ ?_ ?_ ?_ _).mono ?_; omega; omega; omega; omega; rintro e w' ⟨rfl, rfl⟩))
  all_goals exact bodyPost_ret (v := .agg #[.int .i64 bl, .int .i64 bh]) (by simp [results, Tryd.results13, go_sem]) rfl ⟨rfl, by repeat' first | exact Below.refl _ _ | refine Below.alloc ?_ ?_ _ | refine Below.setCell ?_ ?_ _ | refine Below.drew ?_ | refine below_drewN ?_ _ | (simp; done) | (simp; omega) | (simp [drew_size]; done) | (simp [drew_size]; omega) | omega⟩
set_option maxHeartbeats 1000000 in
set_option maxRecDepth 100000 in
theorem rbd_2ppy (al ah bl bh : Int) (pal : -9223372036854775808 ≤ al) (qal : al ≤ 9223372036854775807) (pah : -9223372036854775808 ≤ ah) (qah : ah ≤ 9223372036854775807) (pbl : -9223372036854775808 ≤ bl) (qbl : bl ≤ 9223372036854775807) (pbh : -9223372036854775808 ≤ bh) (qbh : bh ≤ 9223372036854775807) (oa : al ≤ ah) (ob : bl ≤ bh) (ha : 0 ≤ al) (hb : 0 ≤ bl) (f1 : fits (al + bl) = true) (f2 : fits (ah + bh) = true) (w : World) (hA : AllAt w) : Calls Tryd.prog 13 #[.int .i64 2, .agg #[.int .i64 al, .int .i64 ah], .agg #[.int .i64 bl, .int .i64 bh]] w fun e w' => e = .returned (.agg #[.int .i64 (al + bl), .int .i64 (ah + bh)]) ∧ Below w.heap.size w w' := by
  obtain ⟨gz, g0, g1⟩ := hA
  have gz0 : 2 < w.heap.size := by omega
  have gz1 : 2 < w.heap.size + 1 := by omega
  have gz2 : 2 < w.heap.size + 1 + 1 := by omega
  have gz3 : 2 < w.heap.size + 1 + 1 + 1 := by omega
  have gz4 : 2 < w.heap.size + 1 + 1 + 1 + 1 := by omega
  have hx := and63 bl
  have hk0 : 0 ≤ bl % 64 := Int.emod_nonneg _ (by decide)
  have hk1 : bl % 64 < 64 := Int.emod_lt_of_pos _ (by decide)
  have da : decide (0 ≤ al) = true := by simp; omega
  have db : decide (0 ≤ bl) = true := by simp; omega
  go_enter Tryd.func13, Tryd.ntmps13
  go_wp2_with (first | (go_at_call 47; refine (radd_is _ _ ?_ ?_ ?_ ?_ _).mono ?_; omega; omega; omega; omega; rintro e w' ⟨rfl, rfl⟩) | (go_at_call 48; refine (rsub_is _ _ ?_ ?_ ?_ ?_ _).mono ?_; omega; omega; omega; omega; rintro e w' ⟨rfl, rfl⟩) | (go_at_call 50; refine (refFill_any _ ?_ _).mono ?_; omega; rintro e w' ⟨rfl, rfl⟩) | (go_at_call 52; refine (rdown_is _ _ ?_ ?_ ?_ ?_ _).mono ?_; omega; omega; omega; omega; rintro e w' ⟨rfl, rfl⟩) | (go_at_call 51; refine (ref_any _ _ _ ?_ ?_ ?_ ?_ _).mono ?_; omega; omega; omega; omega; rintro e w' ⟨rfl, rfl⟩))
  all_goals exact bodyPost_ret (v := .agg #[.int .i64 (al + bl), .int .i64 (ah + bh)]) (by simp [results, Tryd.results13, go_sem]) rfl ⟨rfl, by repeat' first | exact Below.refl _ _ | refine Below.alloc ?_ ?_ _ | refine Below.setCell ?_ ?_ _ | refine Below.drew ?_ | refine below_drewN ?_ _ | (simp; done) | (simp; omega) | (simp [drew_size]; done) | (simp [drew_size]; omega) | omega⟩
set_option maxHeartbeats 1000000 in
set_option maxRecDepth 100000 in
theorem rbd_2ppx (al ah bl bh : Int) (pal : -9223372036854775808 ≤ al) (qal : al ≤ 9223372036854775807) (pah : -9223372036854775808 ≤ ah) (qah : ah ≤ 9223372036854775807) (pbl : -9223372036854775808 ≤ bl) (qbl : bl ≤ 9223372036854775807) (pbh : -9223372036854775808 ≤ bh) (qbh : bh ≤ 9223372036854775807) (oa : al ≤ ah) (ob : bl ≤ bh) (ha : 0 ≤ al) (hb : 0 ≤ bl) (f1 : fits (al + bl) = false) (w : World) (hA : AllAt w) : Calls Tryd.prog 13 #[.int .i64 2, .agg #[.int .i64 al, .int .i64 ah], .agg #[.int .i64 bl, .int .i64 bh]] w fun e w' => e = .returned (.agg #[.int .i64 (-9223372036854775808), .int .i64 9223372036854775807]) ∧ Below w.heap.size w w' := by
  obtain ⟨gz, g0, g1⟩ := hA
  have gz0 : 2 < w.heap.size := by omega
  have gz1 : 2 < w.heap.size + 1 := by omega
  have gz2 : 2 < w.heap.size + 1 + 1 := by omega
  have gz3 : 2 < w.heap.size + 1 + 1 + 1 := by omega
  have gz4 : 2 < w.heap.size + 1 + 1 + 1 + 1 := by omega
  have hx := and63 bl
  have hk0 : 0 ≤ bl % 64 := Int.emod_nonneg _ (by decide)
  have hk1 : bl % 64 < 64 := Int.emod_lt_of_pos _ (by decide)
  have da : decide (0 ≤ al) = true := by simp; omega
  have db : decide (0 ≤ bl) = true := by simp; omega
  go_enter Tryd.func13, Tryd.ntmps13
  go_wp2_with (first | (go_at_call 47; refine (radd_is _ _ ?_ ?_ ?_ ?_ _).mono ?_; omega; omega; omega; omega; rintro e w' ⟨rfl, rfl⟩) | (go_at_call 48; refine (rsub_is _ _ ?_ ?_ ?_ ?_ _).mono ?_; omega; omega; omega; omega; rintro e w' ⟨rfl, rfl⟩) | (go_at_call 50; refine (refFill_any _ ?_ _).mono ?_; omega; rintro e w' ⟨rfl, rfl⟩) | (go_at_call 52; refine (rdown_is _ _ ?_ ?_ ?_ ?_ _).mono ?_; omega; omega; omega; omega; rintro e w' ⟨rfl, rfl⟩) | (go_at_call 51; refine (ref_any _ _ _ ?_ ?_ ?_ ?_ _).mono ?_; omega; omega; omega; omega; rintro e w' ⟨rfl, rfl⟩))
  all_goals exact bodyPost_ret (v := .agg #[.int .i64 (-9223372036854775808), .int .i64 9223372036854775807]) (by simp [results, Tryd.results13, go_sem]) rfl ⟨rfl, by repeat' first | exact Below.refl _ _ | refine Below.alloc ?_ ?_ _ | refine Below.setCell ?_ ?_ _ | refine Below.drew ?_ | refine below_drewN ?_ _ | (simp; done) | (simp; omega) | (simp [drew_size]; done) | (simp [drew_size]; omega) | omega⟩
set_option maxHeartbeats 1000000 in
set_option maxRecDepth 100000 in
theorem rbd_2ppz (al ah bl bh : Int) (pal : -9223372036854775808 ≤ al) (qal : al ≤ 9223372036854775807) (pah : -9223372036854775808 ≤ ah) (qah : ah ≤ 9223372036854775807) (pbl : -9223372036854775808 ≤ bl) (qbl : bl ≤ 9223372036854775807) (pbh : -9223372036854775808 ≤ bh) (qbh : bh ≤ 9223372036854775807) (oa : al ≤ ah) (ob : bl ≤ bh) (ha : 0 ≤ al) (hb : 0 ≤ bl) (f1 : fits (al + bl) = true) (f2 : fits (ah + bh) = false) (w : World) (hA : AllAt w) : Calls Tryd.prog 13 #[.int .i64 2, .agg #[.int .i64 al, .int .i64 ah], .agg #[.int .i64 bl, .int .i64 bh]] w fun e w' => e = .returned (.agg #[.int .i64 (-9223372036854775808), .int .i64 9223372036854775807]) ∧ Below w.heap.size w w' := by
  obtain ⟨gz, g0, g1⟩ := hA
  have gz0 : 2 < w.heap.size := by omega
  have gz1 : 2 < w.heap.size + 1 := by omega
  have gz2 : 2 < w.heap.size + 1 + 1 := by omega
  have gz3 : 2 < w.heap.size + 1 + 1 + 1 := by omega
  have gz4 : 2 < w.heap.size + 1 + 1 + 1 + 1 := by omega
  have hx := and63 bl
  have hk0 : 0 ≤ bl % 64 := Int.emod_nonneg _ (by decide)
  have hk1 : bl % 64 < 64 := Int.emod_lt_of_pos _ (by decide)
  have da : decide (0 ≤ al) = true := by simp; omega
  have db : decide (0 ≤ bl) = true := by simp; omega
  go_enter Tryd.func13, Tryd.ntmps13
  go_wp2_with (first | (go_at_call 47; refine (radd_is _ _ ?_ ?_ ?_ ?_ _).mono ?_; omega; omega; omega; omega; rintro e w' ⟨rfl, rfl⟩) | (go_at_call 48; refine (rsub_is _ _ ?_ ?_ ?_ ?_ _).mono ?_; omega; omega; omega; omega; rintro e w' ⟨rfl, rfl⟩) | (go_at_call 50; refine (refFill_any _ ?_ _).mono ?_; omega; rintro e w' ⟨rfl, rfl⟩) | (go_at_call 52; refine (rdown_is _ _ ?_ ?_ ?_ ?_ _).mono ?_; omega; omega; omega; omega; rintro e w' ⟨rfl, rfl⟩) | (go_at_call 51; refine (ref_any _ _ _ ?_ ?_ ?_ ?_ _).mono ?_; omega; omega; omega; omega; rintro e w' ⟨rfl, rfl⟩))
  all_goals exact bodyPost_ret (v := .agg #[.int .i64 (-9223372036854775808), .int .i64 9223372036854775807]) (by simp [results, Tryd.results13, go_sem]) rfl ⟨rfl, by repeat' first | exact Below.refl _ _ | refine Below.alloc ?_ ?_ _ | refine Below.setCell ?_ ?_ _ | refine Below.drew ?_ | refine below_drewN ?_ _ | (simp; done) | (simp; omega) | (simp [drew_size]; done) | (simp [drew_size]; omega) | omega⟩
set_option maxHeartbeats 1000000 in
set_option maxRecDepth 100000 in
theorem rbd_2pny (al ah bl bh : Int) (pal : -9223372036854775808 ≤ al) (qal : al ≤ 9223372036854775807) (pah : -9223372036854775808 ≤ ah) (qah : ah ≤ 9223372036854775807) (pbl : -9223372036854775808 ≤ bl) (qbl : bl ≤ 9223372036854775807) (pbh : -9223372036854775808 ≤ bh) (qbh : bh ≤ 9223372036854775807) (oa : al ≤ ah) (ob : bl ≤ bh) (ha : 0 ≤ al) (hb : bl < 0) (f1 : fits (al + bl) = true) (f2 : fits (ah + bh) = true) (w : World) (hA : AllAt w) : Calls Tryd.prog 13 #[.int .i64 2, .agg #[.int .i64 al, .int .i64 ah], .agg #[.int .i64 bl, .int .i64 bh]] w fun e w' => e = .returned (.agg #[.int .i64 (al + bl), .int .i64 (ah + bh)]) ∧ Below w.heap.size w w' := by
  obtain ⟨gz, g0, g1⟩ := hA
  have gz0 : 2 < w.heap.size := by omega
  have gz1 : 2 < w.heap.size + 1 := by omega
  have gz2 : 2 < w.heap.size + 1 + 1 := by omega
  have gz3 : 2 < w.heap.size + 1 + 1 + 1 := by omega
  have gz4 : 2 < w.heap.size + 1 + 1 + 1 + 1 := by omega
  have hx := and63 bl
  have hk0 : 0 ≤ bl % 64 := Int.emod_nonneg _ (by decide)
  have hk1 : bl % 64 < 64 := Int.emod_lt_of_pos _ (by decide)
  have da : decide (0 ≤ al) = true := by simp; omega
  have db : decide (0 ≤ bl) = false := by simp; omega
  go_enter Tryd.func13, Tryd.ntmps13
  go_wp2_with (first | (go_at_call 47; refine (radd_is _ _ ?_ ?_ ?_ ?_ _).mono ?_; omega; omega; omega; omega; rintro e w' ⟨rfl, rfl⟩) | (go_at_call 48; refine (rsub_is _ _ ?_ ?_ ?_ ?_ _).mono ?_; omega; omega; omega; omega; rintro e w' ⟨rfl, rfl⟩) | (go_at_call 50; refine (refFill_any _ ?_ _).mono ?_; omega; rintro e w' ⟨rfl, rfl⟩) | (go_at_call 52; refine (rdown_is _ _ ?_ ?_ ?_ ?_ _).mono ?_; omega; omega; omega; omega; rintro e w' ⟨rfl, rfl⟩) | (go_at_call 51; refine (ref_any _ _ _ ?_ ?_ ?_ ?_ _).mono ?_; omega; omega; omega; omega; rintro e w' ⟨rfl, rfl⟩))
  all_goals exact bodyPost_ret (v := .agg #[.int .i64 (al + bl), .int .i64 (ah + bh)]) (by simp [results, Tryd.results13, go_sem]) rfl ⟨rfl, by repeat' first | exact Below.refl _ _ | refine Below.alloc ?_ ?_ _ | refine Below.setCell ?_ ?_ _ | refine Below.drew ?_ | refine below_drewN ?_ _ | (simp; done) | (simp; omega) | (simp [drew_size]; done) | (simp [drew_size]; omega) | omega⟩
set_option maxHeartbeats 1000000 in
set_option maxRecDepth 100000 in
theorem rbd_2pnx (al ah bl bh : Int) (pal : -9223372036854775808 ≤ al) (qal : al ≤ 9223372036854775807) (pah : -9223372036854775808 ≤ ah) (qah : ah ≤ 9223372036854775807) (pbl : -9223372036854775808 ≤ bl) (qbl : bl ≤ 9223372036854775807) (pbh : -9223372036854775808 ≤ bh) (qbh : bh ≤ 9223372036854775807) (oa : al ≤ ah) (ob : bl ≤ bh) (ha : 0 ≤ al) (hb : bl < 0) (f1 : fits (al + bl) = false) (w : World) (hA : AllAt w) : Calls Tryd.prog 13 #[.int .i64 2, .agg #[.int .i64 al, .int .i64 ah], .agg #[.int .i64 bl, .int .i64 bh]] w fun e w' => e = .returned (.agg #[.int .i64 (-9223372036854775808), .int .i64 9223372036854775807]) ∧ Below w.heap.size w w' := by
  obtain ⟨gz, g0, g1⟩ := hA
  have gz0 : 2 < w.heap.size := by omega
  have gz1 : 2 < w.heap.size + 1 := by omega
  have gz2 : 2 < w.heap.size + 1 + 1 := by omega
  have gz3 : 2 < w.heap.size + 1 + 1 + 1 := by omega
  have gz4 : 2 < w.heap.size + 1 + 1 + 1 + 1 := by omega
  have hx := and63 bl
  have hk0 : 0 ≤ bl % 64 := Int.emod_nonneg _ (by decide)
  have hk1 : bl % 64 < 64 := Int.emod_lt_of_pos _ (by decide)
  have da : decide (0 ≤ al) = true := by simp; omega
  have db : decide (0 ≤ bl) = false := by simp; omega
  go_enter Tryd.func13, Tryd.ntmps13
  go_wp2_with (first | (go_at_call 47; refine (radd_is _ _ ?_ ?_ ?_ ?_ _).mono ?_; omega; omega; omega; omega; rintro e w' ⟨rfl, rfl⟩) | (go_at_call 48; refine (rsub_is _ _ ?_ ?_ ?_ ?_ _).mono ?_; omega; omega; omega; omega; rintro e w' ⟨rfl, rfl⟩) | (go_at_call 50; refine (refFill_any _ ?_ _).mono ?_; omega; rintro e w' ⟨rfl, rfl⟩) | (go_at_call 52; refine (rdown_is _ _ ?_ ?_ ?_ ?_ _).mono ?_; omega; omega; omega; omega; rintro e w' ⟨rfl, rfl⟩) | (go_at_call 51; refine (ref_any _ _ _ ?_ ?_ ?_ ?_ _).mono ?_; omega; omega; omega; omega; rintro e w' ⟨rfl, rfl⟩))
  all_goals exact bodyPost_ret (v := .agg #[.int .i64 (-9223372036854775808), .int .i64 9223372036854775807]) (by simp [results, Tryd.results13, go_sem]) rfl ⟨rfl, by repeat' first | exact Below.refl _ _ | refine Below.alloc ?_ ?_ _ | refine Below.setCell ?_ ?_ _ | refine Below.drew ?_ | refine below_drewN ?_ _ | (simp; done) | (simp; omega) | (simp [drew_size]; done) | (simp [drew_size]; omega) | omega⟩
set_option maxHeartbeats 1000000 in
set_option maxRecDepth 100000 in
theorem rbd_2pnz (al ah bl bh : Int) (pal : -9223372036854775808 ≤ al) (qal : al ≤ 9223372036854775807) (pah : -9223372036854775808 ≤ ah) (qah : ah ≤ 9223372036854775807) (pbl : -9223372036854775808 ≤ bl) (qbl : bl ≤ 9223372036854775807) (pbh : -9223372036854775808 ≤ bh) (qbh : bh ≤ 9223372036854775807) (oa : al ≤ ah) (ob : bl ≤ bh) (ha : 0 ≤ al) (hb : bl < 0) (f1 : fits (al + bl) = true) (f2 : fits (ah + bh) = false) (w : World) (hA : AllAt w) : Calls Tryd.prog 13 #[.int .i64 2, .agg #[.int .i64 al, .int .i64 ah], .agg #[.int .i64 bl, .int .i64 bh]] w fun e w' => e = .returned (.agg #[.int .i64 (-9223372036854775808), .int .i64 9223372036854775807]) ∧ Below w.heap.size w w' := by
  obtain ⟨gz, g0, g1⟩ := hA
  have gz0 : 2 < w.heap.size := by omega
  have gz1 : 2 < w.heap.size + 1 := by omega
  have gz2 : 2 < w.heap.size + 1 + 1 := by omega
  have gz3 : 2 < w.heap.size + 1 + 1 + 1 := by omega
  have gz4 : 2 < w.heap.size + 1 + 1 + 1 + 1 := by omega
  have hx := and63 bl
  have hk0 : 0 ≤ bl % 64 := Int.emod_nonneg _ (by decide)
  have hk1 : bl % 64 < 64 := Int.emod_lt_of_pos _ (by decide)
  have da : decide (0 ≤ al) = true := by simp; omega
  have db : decide (0 ≤ bl) = false := by simp; omega
  go_enter Tryd.func13, Tryd.ntmps13
  go_wp2_with (first | (go_at_call 47; refine (radd_is _ _ ?_ ?_ ?_ ?_ _).mono ?_; omega; omega; omega; omega; rintro e w' ⟨rfl, rfl⟩) | (go_at_call 48; refine (rsub_is _ _ ?_ ?_ ?_ ?_ _).mono ?_; omega; omega; omega; omega; rintro e w' ⟨rfl, rfl⟩) | (go_at_call 50; refine (refFill_any _ ?_ _).mono ?_; omega; rintro e w' ⟨rfl, rfl⟩) | (go_at_call 52; refine (rdown_is _ _ ?_ ?_ ?_ ?_ _).mono ?_; omega; omega; omega; omega; rintro e w' ⟨rfl, rfl⟩) | (go_at_call 51; refine (ref_any _ _ _ ?_ ?_ ?_ ?_ _).mono ?_; omega; omega; omega; omega; rintro e w' ⟨rfl, rfl⟩))
  all_goals exact bodyPost_ret (v := .agg #[.int .i64 (-9223372036854775808), .int .i64 9223372036854775807]) (by simp [results, Tryd.results13, go_sem]) rfl ⟨rfl, by repeat' first | exact Below.refl _ _ | refine Below.alloc ?_ ?_ _ | refine Below.setCell ?_ ?_ _ | refine Below.drew ?_ | refine below_drewN ?_ _ | (simp; done) | (simp; omega) | (simp [drew_size]; done) | (simp [drew_size]; omega) | omega⟩
set_option maxHeartbeats 1000000 in
set_option maxRecDepth 100000 in
theorem rbd_2ny (al ah bl bh : Int) (pal : -9223372036854775808 ≤ al) (qal : al ≤ 9223372036854775807) (pah : -9223372036854775808 ≤ ah) (qah : ah ≤ 9223372036854775807) (pbl : -9223372036854775808 ≤ bl) (qbl : bl ≤ 9223372036854775807) (pbh : -9223372036854775808 ≤ bh) (qbh : bh ≤ 9223372036854775807) (oa : al ≤ ah) (ob : bl ≤ bh) (ha : al < 0) (f1 : fits (al + bl) = true) (f2 : fits (ah + bh) = true) (w : World) (hA : AllAt w) : Calls Tryd.prog 13 #[.int .i64 2, .agg #[.int .i64 al, .int .i64 ah], .agg #[.int .i64 bl, .int .i64 bh]] w fun e w' => e = .returned (.agg #[.int .i64 (al + bl), .int .i64 (ah + bh)]) ∧ Below w.heap.size w w' := by
  obtain ⟨gz, g0, g1⟩ := hA
  have gz0 : 2 < w.heap.size := by omega
  have gz1 : 2 < w.heap.size + 1 := by omega
  have gz2 : 2 < w.heap.size + 1 + 1 := by omega
  have gz3 : 2 < w.heap.size + 1 + 1 + 1 := by omega
  have gz4 : 2 < w.heap.size + 1 + 1 + 1 + 1 := by omega
  have hx := and63 bl
  have hk0 : 0 ≤ bl % 64 := Int.emod_nonneg _ (by decide)
  have hk1 : bl % 64 < 64 := Int.emod_lt_of_pos _ (by decide)
  have da : decide (0 ≤ al) = false := by simp; omega
  go_enter Tryd.func13, Tryd.ntmps13
  go_wp2_with (first | (go_at_call 47; refine (radd_is _ _ ?_ ?_ ?_ ?_ _).mono ?_; omega; omega; omega; omega; rintro e w' ⟨rfl, rfl⟩) | (go_at_call 48; refine (rsub_is _ _ ?_ ?_ ?_ ?_ _).mono ?_; omega; omega; omega; omega; rintro e w' ⟨rfl, rfl⟩) | (go_at_call 50; refine (refFill_any _ ?_ _).mono ?_; omega; rintro e w' ⟨rfl, rfl⟩) | (go_at_call 52; refine (rdown_is _ _ ?_ ?_ ?_ ?_ _).mono ?_; omega; omega; omega; omega; rintro e w' ⟨rfl, rfl⟩) | (go_at_call 51; refine (ref_any _ _ _ ?_ ?_ ?_ ?_ _).mono ?_; omega; omega; omega; omega; rintro e w' ⟨rfl, rfl⟩))
  all_goals exact bodyPost_ret (v := .agg #[.int .i64 (al + bl), .int .i64 (ah + bh)]) (by simp [results, Tryd.results13, go_sem]) rfl ⟨rfl, by repeat' first | exact Below.refl _ _ | refine Below.alloc ?_ ?_ _ | refine Below.setCell ?_ ?_ _ | refine Below.drew ?_ | refine below_drewN ?_ _ | (simp; done) | (simp; omega) | (simp [drew_size]; done) | (simp [drew_size]; omega) | omega⟩
set_option maxHeartbeats 1000000 in
set_option maxRecDepth 100000 in
theorem rbd_2nx (al ah bl bh : Int) (pal : -9223372036854775808 ≤ al) (qal : al ≤ 9223372036854775807) (pah : -9223372036854775808 ≤ ah) (qah : ah ≤ 9223372036854775807) (pbl : -9223372036854775808 ≤ bl) (qbl : bl ≤ 9223372036854775807) (pbh : -9223372036854775808 ≤ bh) (qbh : bh ≤ 9223372036854775807) (oa : al ≤ ah) (ob : bl ≤ bh) (ha : al < 0) (f1 : fits (al + bl) = false) (w : World) (hA : AllAt w) : Calls Tryd.prog 13 #[.int .i64 2, .agg #[.int .i64 al, .int .i64 ah], .agg #[.int .i64 bl, .int .i64 bh]] w fun e w' => e = .returned (.agg #[.int .i64 (-9223372036854775808), .int .i64 9223372036854775807]) ∧ Below w.heap.size w w' := by
  obtain ⟨gz, g0, g1⟩ := hA
  have gz0 : 2 < w.heap.size := by omega
  have gz1 : 2 < w.heap.size + 1 := by omega
  have gz2 : 2 < w.heap.size + 1 + 1 := by omega
  have gz3 : 2 < w.heap.size + 1 + 1 + 1 := by omega
  have gz4 : 2 < w.heap.size + 1 + 1 + 1 + 1 := by omega
  have hx := and63 bl
  have hk0 : 0 ≤ bl % 64 := Int.emod_nonneg _ (by decide)
  have hk1 : bl % 64 < 64 := Int.emod_lt_of_pos _ (by decide)
  have da : decide (0 ≤ al) = false := by simp; omega
  go_enter Tryd.func13, Tryd.ntmps13
  go_wp2_with (first | (go_at_call 47; refine (radd_is _ _ ?_ ?_ ?_ ?_ _).mono ?_; omega; omega; omega; omega; rintro e w' ⟨rfl, rfl⟩) | (go_at_call 48; refine (rsub_is _ _ ?_ ?_ ?_ ?_ _).mono ?_; omega; omega; omega; omega; rintro e w' ⟨rfl, rfl⟩) | (go_at_call 50; refine (refFill_any _ ?_ _).mono ?_; omega; rintro e w' ⟨rfl, rfl⟩) | (go_at_call 52; refine (rdown_is _ _ ?_ ?_ ?_ ?_ _).mono ?_; omega; omega; omega; omega; rintro e w' ⟨rfl, rfl⟩) | (go_at_call 51; refine (ref_any _ _ _ ?_ ?_ ?_ ?_ _).mono ?_; omega; omega; omega; omega; rintro e w' ⟨rfl, rfl⟩))
  all_goals exact bodyPost_ret (v := .agg #[.int .i64 (-9223372036854775808), .int .i64 9223372036854775807]) (by simp [results, Tryd.results13, go_sem]) rfl ⟨rfl, by repeat' first | exact Below.refl _ _ | refine Below.alloc ?_ ?_ _ | refine Below.setCell ?_ ?_ _ | refine Below.drew ?_ | refine below_drewN ?_ _ | (simp; done) | (simp; omega) | (simp [drew_size]; done) | (simp [drew_size]; omega) | omega⟩
set_option maxHeartbeats 1000000 in
set_option maxRecDepth 100000 in
theorem rbd_2nz (al ah bl bh : Int) (pal : -9223372036854775808 ≤ al) (qal : al ≤ 9223372036854775807) (pah : -9223372036854775808 ≤ ah) (qah : ah ≤ 9223372036854775807) (pbl : -9223372036854775808 ≤ bl) (qbl : bl ≤ 9223372036854775807) (pbh : -9223372036854775808 ≤ bh) (qbh : bh ≤ 9223372036854775807) (oa : al ≤ ah) (ob : bl ≤ bh) (ha : al < 0) (f1 : fits (al + bl) = true) (f2 : fits (ah + bh) = false) (w : World) (hA : AllAt w) : Calls Tryd.prog 13 #[.int .i64 2, .agg #[.int .i64 al, .int .i64 ah], .agg #[.int .i64 bl, .int .i64 bh]] w fun e w' => e = .returned (.agg #[.int .i64 (-9223372036854775808), .int .i64 9223372036854775807]) ∧ Below w.heap.size w w' := by
  obtain ⟨gz, g0, g1⟩ := hA
  have gz0 : 2 < w.heap.size := by omega
  have gz1 : 2 < w.heap.size + 1 := by omega
  have gz2 : 2 < w.heap.size + 1 + 1 := by omega
  have gz3 : 2 < w.heap.size + 1 + 1 + 1 := by omega
  have gz4 : 2 < w.heap.size + 1 + 1 + 1 + 1 := by omega
  have hx := and63 bl
  have hk0 : 0 ≤ bl % 64 := Int.emod_nonneg _ (by decide)
  have hk1 : bl % 64 < 64 := Int.emod_lt_of_pos _ (by decide)
  have da : decide (0 ≤ al) = false := by simp; omega
  go_enter Tryd.func13, Tryd.ntmps13
  go_wp2_with (first | (go_at_call 47; refine (radd_is _ _ ?_ ?_ ?_ ?_ _).mono ?_; omega; omega; omega; omega; rintro e w' ⟨rfl, rfl⟩) | (go_at_call 48; refine (rsub_is _ _ ?_ ?_ ?_ ?_ _).mono ?_; omega; omega; omega; omega; rintro e w' ⟨rfl, rfl⟩) | (go_at_call 50; refine (refFill_any _ ?_ _).mono ?_; omega; rintro e w' ⟨rfl, rfl⟩) | (go_at_call 52; refine (rdown_is _ _ ?_ ?_ ?_ ?_ _).mono ?_; omega; omega; omega; omega; rintro e w' ⟨rfl, rfl⟩) | (go_at_call 51; refine (ref_any _ _ _ ?_ ?_ ?_ ?_ _).mono ?_; omega; omega; omega; omega; rintro e w' ⟨rfl, rfl⟩))
  all_goals exact bodyPost_ret (v := .agg #[.int .i64 (-9223372036854775808), .int .i64 9223372036854775807]) (by simp [results, Tryd.results13, go_sem]) rfl ⟨rfl, by repeat' first | exact Below.refl _ _ | refine Below.alloc ?_ ?_ _ | refine Below.setCell ?_ ?_ _ | refine Below.drew ?_ | refine below_drewN ?_ _ | (simp; done) | (simp; omega) | (simp [drew_size]; done) | (simp [drew_size]; omega) | omega⟩
set_option maxHeartbeats 1000000 in
set_option maxRecDepth 100000 in
theorem rbd_3ppy (al ah bl bh : Int) (pal : -9223372036854775808 ≤ al) (qal : al ≤ 9223372036854775807) (pah : -9223372036854775808 ≤ ah) (qah : ah ≤ 9223372036854775807) (pbl : -9223372036854775808 ≤ bl) (qbl : bl ≤ 9223372036854775807) (pbh : -9223372036854775808 ≤ bh) (qbh : bh ≤ 9223372036854775807) (oa : al ≤ ah) (ob : bl ≤ bh) (ha : 0 ≤ al) (hb : 0 ≤ bl) (f1 : fits (al - bh) = true) (f2 : fits (ah - bl) = true) (w : World) (hA : AllAt w) : Calls Tryd.prog 13 #[.int .i64 3, .agg #[.int .i64 al, .int .i64 ah], .agg #[.int .i64 bl, .int .i64 bh]] w fun e w' => e = .returned (.agg #[.int .i64 (al - bh), .int .i64 (ah - bl)]) ∧ Below w.heap.size w w' := by
  obtain ⟨gz, g0, g1⟩ := hA
  have gz0 : 2 < w.heap.size := by omega
  have gz1 : 2 < w.heap.size + 1 := by omega
  have gz2 : 2 < w.heap.size + 1 + 1 := by omega
  have gz3 : 2 < w.heap.size + 1 + 1 + 1 := by omega
  have gz4 : 2 < w.heap.size + 1 + 1 + 1 + 1 := by omega
  have hx := and63 bl
  have hk0 : 0 ≤ bl % 64 := Int.emod_nonneg _ (by decide)
  have hk1 : bl % 64 < 64 := Int.emod_lt_of_pos _ (by decide)
  have da : decide (0 ≤ al) = true := by simp; omega
  have db : decide (0 ≤ bl) = true := by simp; omega
  go_enter Tryd.func13, Tryd.ntmps13
  go_wp2_with (first | (go_at_call 47; refine (radd_is _ _ ?_ ?_ ?_ ?_ _).mono ?_; omega; omega; omega; omega; rintro e w' ⟨rfl, rfl⟩) | (go_at_call 48; refine (rsub_is _ _ ?_ ?_ ?_ ?_ _).mono ?_; omega; omega; omega; omega; rintro e w' ⟨rfl, rfl⟩) | (go_at_call 50; refine (refFill_any _ ?_ _).mono ?_; omega; rintro e w' ⟨rfl, rfl⟩) | (go_at_call 52; refine (rdown_is _ _ ?_ ?_ ?_ ?_ _).mono ?_; omega; omega; omega; omega; rintro e w' ⟨rfl, rfl⟩) | (go_at_call 51; refine (ref_any _ _ _ ?_ ?_ ?_ ?_ _).mono ?_; omega; omega; omega; omega; rintro e w' ⟨rfl, rfl⟩))
  all_goals exact bodyPost_ret (v := .agg #[.int .i64 (al - bh), .int .i64 (ah - bl)]) (by simp [results, Tryd.results13, go_sem]) rfl ⟨rfl, by repeat' first | exact Below.refl _ _ | refine Below.alloc ?_ ?_ _ | refine Below.setCell ?_ ?_ _ | refine Below.drew ?_ | refine below_drewN ?_ _ | (simp; done) | (simp; omega) | (simp [drew_size]; done) | (simp [drew_size]; omega) | omega⟩
set_option maxHeartbeats 1000000 in
set_option maxRecDepth 100000 in
theorem rbd_3ppx (al ah bl bh : Int) (pal : -9223372036854775808 ≤ al) (qal : al ≤ 9223372036854775807) (pah : -9223372036854775808 ≤ ah) (qah : ah ≤ 9223372036854775807) (pbl : -9223372036854775808 ≤ bl) (qbl : bl ≤ 9223372036854775807) (pbh : -9223372036854775808 ≤ bh) (qbh : bh ≤ 9223372036854775807) (oa : al ≤ ah) (ob : bl ≤ bh) (ha : 0 ≤ al) (hb : 0 ≤ bl) (f1 : fits (al - bh) = false) (w : World) (hA : AllAt w) : Calls Tryd.prog 13 #[.int .i64 3, .agg #[.int .i64 al, .int .i64 ah], .agg #[.int .i64 bl, .int .i64 bh]] w fun e w' => e = .returned (.agg #[.int .i64 (-9223372036854775808), .int .i64 9223372036854775807]) ∧ Below w.heap.size w w' := by
  obtain ⟨gz, g0, g1⟩ := hA
  have gz0 : 2 < w.heap.size := by omega
  have gz1 : 2 < w.heap.size + 1 := by omega
  have gz2 : 2 < w.heap.size + 1 + 1 := by omega
  have gz3 : 2 < w.heap.size + 1 + 1 + 1 := by omega
  have gz4 : 2 < w.heap.size + 1 + 1 + 1 + 1 := by omega
  have hx := and63 bl
  have hk0 : 0 ≤ bl % 64 := Int.emod_nonneg _ (by decide)
  have hk1 : bl % 64 < 64 := Int.emod_lt_of_pos _ (by decide)
  have da : decide (0 ≤ al) = true := by simp; omega
  have db : decide (0 ≤ bl) = true := by simp; omega
  go_enter Tryd.func13, Tryd.ntmps13
  go_wp2_with (first | (go_at_call 47; refine (radd_is _ _ ?_ ?_ ?_ ?_ _).mono ?_; omega; omega; omega; omega; rintro e w' ⟨rfl, rfl⟩) | (go_at_call 48; refine (rsub_is _ _ ?_ ?_ ?_ ?_ _).mono ?_; omega; omega; omega; omega; rintro e w' ⟨rfl, rfl⟩) | (go_at_call 50; refine (refFill_any _ ?_ _).mono ?_; omega; rintro e w' ⟨rfl, rfl⟩) | (go_at_call 52; refine (rdown_is _ _ ?_ ?_ ?_ ?_ _).mono ?_; omega; omega; omega; omega; rintro e w' ⟨rfl, rfl⟩) | (go_at_call 51; refine (ref_any _ _ _ ?_ ?_ ?_ ?_ _).mono ?_; omega; omega; omega; omega; rintro e w' ⟨rfl, rfl⟩))
  all_goals exact bodyPost_ret (v := .agg #[.int .i64 (-9223372036854775808), .int .i64 9223372036854775807]) (by simp [results, Tryd.results13, go_sem]) rfl ⟨rfl, by repeat' first | exact Below.refl _ _ | refine Below.alloc ?_ ?_ _ | refine Below.setCell ?_ ?_ _ | refine Below.drew ?_ | refine below_drewN ?_ _ | (simp; done) | (simp; omega) | (simp [drew_size]; done) | (simp [drew_size]; omega) | omega⟩
set_option maxHeartbeats 1000000 in
set_option maxRecDepth 100000 in
theorem rbd_3ppz (al ah bl bh : Int) (pal : -9223372036854775808 ≤ al) (qal : al ≤ 9223372036854775807) (pah : -9223372036854775808 ≤ ah) (qah : ah ≤ 9223372036854775807) (pbl : -9223372036854775808 ≤ bl) (qbl : bl ≤ 9223372036854775807) (pbh : -9223372036854775808 ≤ bh) (qbh : bh ≤ 9223372036854775807) (oa : al ≤ ah) (ob : bl ≤ bh) (ha : 0 ≤ al) (hb : 0 ≤ bl) (f1 : fits (al - bh) = true) (f2 : fits (ah - bl) = false) (w : World) (hA : AllAt w) : Calls Tryd.prog 13 #[.int .i64 3, .agg #[.int .i64 al, .int .i64 ah], .agg #[.int .i64 bl, .int .i64 bh]] w fun e w' => e = .returned (.agg #[.int .i64 (-9223372036854775808), .int .i64 9223372036854775807]) ∧ Below w.heap.size w w' := by
  obtain ⟨gz, g0, g1⟩ := hA
  have gz0 : 2 < w.heap.size := by omega
  have gz1 : 2 < w.heap.size + 1 := by omega
  have gz2 : 2 < w.heap.size + 1 + 1 := by omega
  have gz3 : 2 < w.heap.size + 1 + 1 + 1 := by omega
  have gz4 : 2 < w.heap.size + 1 + 1 + 1 + 1 := by omega
  have hx := and63 bl
  have hk0 : 0 ≤ bl % 64 := Int.emod_nonneg _ (by decide)
  have hk1 : bl % 64 < 64 := Int.emod_lt_of_pos _ (by decide)
  have da : decide (0 ≤ al) = true := by simp; omega
  have db : decide (0 ≤ bl) = true := by simp; omega
  go_enter Tryd.func13, Tryd.ntmps13
  go_wp2_with (first | (go_at_call 47; refine (radd_is _ _ ?_ ?_ ?_ ?_ _).mono ?_; omega; omega; omega; omega; rintro e w' ⟨rfl, rfl⟩) | (go_at_call 48; refine (rsub_is _ _ ?_ ?_ ?_ ?_ _).mono ?_; omega; omega; omega; omega; rintro e w' ⟨rfl, rfl⟩) | (go_at_call 50; refine (refFill_any _ ?_ _).mono ?_; omega; rintro e w' ⟨rfl, rfl⟩) | (go_at_call 52; refine (rdown_is _ _ ?_ ?_ ?_ ?_ _).mono ?_; omega; omega; omega; omega; rintro e w' ⟨rfl, rfl⟩) | (go_at_call 51; refine (ref_any _ _ _ ?_ ?_ ?_ ?_ _).mono ?_; omega; omega; omega; omega; rintro e w' ⟨rfl, rfl⟩))
  all_goals exact bodyPost_ret (v := .agg #[.int .i64 (-9223372036854775808), .int .i64 9223372036854775807]) (by simp [results, Tryd.results13, go_sem]) rfl ⟨rfl, by repeat' first | exact Below.refl _ _ | refine Below.alloc ?_ ?_ _ | refine Below.setCell ?_ ?_ _ | refine Below.drew ?_ | refine below_drewN ?_ _ | (simp; done) | (simp; omega) | (simp [drew_size]; done) | (simp [drew_size]; omega) | omega⟩
set_option maxHeartbeats 1000000 in
set_option maxRecDepth 100000 in
theorem rbd_3pny (al ah bl bh : Int) (pal : -9223372036854775808 ≤ al) (qal : al ≤ 9223372036854775807) (pah : -9223372036854775808 ≤ ah) (qah : ah ≤ 9223372036854775807) (pbl : -9223372036854775808 ≤ bl) (qbl : bl ≤ 9223372036854775807) (pbh : -9223372036854775808 ≤ bh) (qbh : bh ≤ 9223372036854775807) (oa : al ≤ ah) (ob : bl ≤ bh) (ha : 0 ≤ al) (hb : bl < 0) (f1 : fits (al - bh) = true) (f2 : fits (ah - bl) = true) (w : World) (hA : AllAt w) : Calls Tryd.prog 13 #[.int .i64 3, .agg #[.int .i64 al, .int .i64 ah], .agg #[.int .i64 bl, .int .i64 bh]] w fun e w' => e = .returned (.agg #[.int .i64 (al - bh), .int .i64 (ah - bl)]) ∧ Below w.heap.size w w' := by
  obtain ⟨gz, g0, g1⟩ := hA
  have gz0 : 2 < w.heap.size := by omega
  have gz1 : 2 < w.heap.size + 1 := by omega
  have gz2 : 2 < w.heap.size + 1 + 1 := by omega
  have gz3 : 2 < w.heap.size + 1 + 1 + 1 := by omega
  have gz4 : 2 < w.heap.size + 1 + 1 + 1 + 1 := by omega
  have hx := and63 bl
  have hk0 : 0 ≤ bl % 64 := Int.emod_nonneg _ (by decide)
  have hk1 : bl % 64 < 64 := Int.emod_lt_of_pos _ (by decide)
  have da : decide (0 ≤ al) = true := by simp; omega
  have db : decide (0 ≤ bl) = false := by simp; omega
  go_enter Tryd.func13, Tryd.ntmps13
  go_wp2_with (first | (go_at_call 47; refine (radd_is _ _ ?_ ?_ ?_ ?_ _).mono ?_; omega; omega; omega; omega; rintro e w' ⟨rfl, rfl⟩) | (go_at_call 48; refine (rsub_is _ _ ?_ ?_ ?_ ?_ _).mono ?_; omega; omega; omega; omega; rintro e w' ⟨rfl, rfl⟩) | (go_at_call 50; refine (refFill_any _ ?_ _).mono ?_; omega; rintro e w' ⟨rfl, rfl⟩) | (go_at_call 52; refine (rdown_is _ _ ?_ ?_ ?_ ?_ _).mono ?_; omega; omega; omega; omega; rintro e w' ⟨rfl, rfl⟩) | (go_at_call 51; refine (ref_any _ _ _ ?_ ?_ ?_ ?_ _).mono ?_; omega; omega; omega; omega; rintro e w' ⟨rfl, rfl⟩))
  all_goals exact bodyPost_ret (v := .agg #[.int .i64 (al - bh), .int .i64 (ah - bl)]) (by simp [results, Tryd.results13, go_sem]) rfl ⟨rfl, by repeat' first | exact Below.refl _ _ | refine Below.alloc ?_ ?_ _ | refine Below.setCell ?_ ?_ _ | refine Below.drew ?_ | refine below_drewN ?_ _ | (simp; done) | (simp; omega) | (simp [drew_size]; done) | (simp [drew_size]; omega) | omega⟩
set_option maxHeartbeats 1000000 in
set_option maxRecDepth 100000 in
theorem rbd_3pnx (al ah bl bh : Int) (pal : -9223372036854775808 ≤ al) (qal : al ≤ 9223372036854775807) (pah : -9223372036854775808 ≤ ah) (qah : ah ≤ 9223372036854775807) (pbl : -9223372036854775808 ≤ bl) (qbl : bl ≤ 9223372036854775807) (pbh : -9223372036854775808 ≤ bh) (qbh : bh ≤ 9223372036854775807) (oa : al ≤ ah) (ob : bl ≤ bh) (ha : 0 ≤ al) (hb : bl < 0) (f1 : fits (al - bh) = false) (w : World) (hA : AllAt w) : Calls Tryd.prog 13 #[.int .i64 3, .agg #[.int .i64 al, .int .i64 ah], .agg #[.int .i64 bl, .int .i64 bh]] w fun e w' => e = .returned (.agg #[.int .i64 (-9223372036854775808), .int .i64 9223372036854775807]) ∧ Below w.heap.size w w' := by
  obtain ⟨gz, g0, g1⟩ := hA
  have gz0 : 2 < w.heap.size := by omega
  have gz1 : 2 < w.heap.size + 1 := by omega
  have gz2 : 2 < w.heap.size + 1 + 1 := by omega
  have gz3 : 2 < w.heap.size + 1 + 1 + 1 := by omega
  have gz4 : 2 < w.heap.size + 1 + 1 + 1 + 1 := by omega
  have hx := and63 bl
  have hk0 : 0 ≤ bl % 64 := Int.emod_nonneg _ (by decide)
  have hk1 : bl % 64 < 64 := Int.emod_lt_of_pos _ (by decide)
  have da : decide (0 ≤ al) = true := by simp; omega
  have db : decide (0 ≤ bl) = false := by simp; omega
  go_enter Tryd.func13, Tryd.ntmps13
  go_wp2_with (first | (go_at_call 47; refine (radd_is _ _ ?_ ?_ ?_ ?_ _).mono ?_; omega; omega; omega; omega; rintro e w' ⟨rfl, rfl⟩) | (go_at_call 48; refine (rsub_is _ _ ?_ ?_ ?_ ?_ _).mono ?_; omega; omega; omega; omega; rintro e w' ⟨rfl, rfl⟩) | (go_at_call 50; refine (refFill_any _ ?_ _).mono ?_; omega; rintro e w' ⟨rfl, rfl⟩) | (go_at_call 52; refine (rdown_is _ _ ?_ ?_ ?_ ?_ _).mono ?_; omega; omega; omega; omega; rintro e w' ⟨rfl, rfl⟩) | (go_at_call 51; refine (ref_any _ _ _ ?_ ?_ ?_ ?_ _).mono ?_; omega; omega; omega; omega; rintro e w' ⟨rfl, rfl⟩))
  all_goals exact bodyPost_ret (v := .agg #[.int .i64 (-9223372036854775808), .int .i64 9223372036854775807]) (by simp [results, Tryd.results13, go_sem]) rfl ⟨rfl, by repeat' first | exact Below.refl _ _ | refine Below.alloc ?_ ?_ _ | refine Below.setCell ?_ ?_ _ | refine Below.drew ?_ | refine below_drewN ?_ _ | (simp; done) | (simp; omega) | (simp [drew_size]; done) | (simp [drew_size]; omega) | omega⟩
set_option maxHeartbeats 1000000 in
set_option maxRecDepth 100000 in
theorem rbd_3pnz (al ah bl bh : Int) (pal : -9223372036854775808 ≤ al) (qal : al ≤ 9223372036854775807) (pah : -9223372036854775808 ≤ ah) (qah : ah ≤ 9223372036854775807) (pbl : -9223372036854775808 ≤ bl) (qbl : bl ≤ 9223372036854775807) (pbh : -9223372036854775808 ≤ bh) (qbh : bh ≤ 9223372036854775807) (oa : al ≤ ah) (ob : bl ≤ bh) (ha : 0 ≤ al) (hb : bl < 0) (f1 : fits (al - bh) = true) (f2 : fits (ah - bl) = false) (w : World) (hA : AllAt w) : Calls Tryd.prog 13 #[.int .i64 3, .agg #[.int .i64 al, .int .i64 ah], .agg #[.int .i64 bl, .int .i64 bh]] w fun e w' => e = .returned (.agg #[.int .i64 (-9223372036854775808), .int .i64 9223372036854775807]) ∧ Below w.heap.size w w' := by
  obtain ⟨gz, g0, g1⟩ := hA
  have gz0 : 2 < w.heap.size := by omega
  have gz1 : 2 < w.heap.size + 1 := by omega
  have gz2 : 2 < w.heap.size + 1 + 1 := by omega
  have gz3 : 2 < w.heap.size + 1 + 1 + 1 := by omega
  have gz4 : 2 < w.heap.size + 1 + 1 + 1 + 1 := by omega
  have hx := and63 bl
  have hk0 : 0 ≤ bl % 64 := Int.emod_nonneg _ (by decide)
  have hk1 : bl % 64 < 64 := Int.emod_lt_of_pos _ (by decide)
  have da : decide (0 ≤ al) = true := by simp; omega
  have db : decide (0 ≤ bl) = false := by simp; omega
  go_enter Tryd.func13, Tryd.ntmps13
  go_wp2_with (first | (go_at_call 47; refine (radd_is _ _ ?_ ?_ ?_ ?_ _).mono ?_; omega; omega; omega; omega; rintro e w' ⟨rfl, rfl⟩) | (go_at_call 48; refine (rsub_is _ _ ?_ ?_ ?_ ?_ _).mono ?_; omega; omega; omega; omega; rintro e w' ⟨rfl, rfl⟩) | (go_at_call 50; refine (refFill_any _ ?_ _).mono ?_; omega; rintro e w' ⟨rfl, rfl⟩) | (go_at_call 52; refine (rdown_is _ _ ?_ ?_ ?_ ?_ _).mono ?_; omega; omega; omega; omega; rintro e w' ⟨rfl, rfl⟩) | (go_at_call 51; refine (ref_any _ _ _ ?_ ?_ ?_ ?_ _).mono ?_; omega; omega; omega; omega; rintro e w' ⟨rfl, rfl⟩))
  all_goals exact bodyPost_ret (v := .agg #[.int .i64 (-9223372036854775808), .int .i64 9223372036854775807]) (by simp [results, Tryd.results13, go_sem]) rfl ⟨rfl, by repeat' first | exact Below.refl _ _ | refine Below.alloc ?_ ?_ _ | refine Below.setCell ?_ ?_ _ | refine Below.drew ?_ | refine below_drewN ?_ _ | (simp; done) | (simp; omega) | (simp [drew_size]; done) | (simp [drew_size]; omega) | omega⟩
set_option maxHeartbeats 1000000 in
set_option maxRecDepth 100000 in
theorem rbd_3ny (al ah bl bh : Int) (pal : -9223372036854775808 ≤ al) (qal : al ≤ 9223372036854775807) (pah : -9223372036854775808 ≤ ah) (qah : ah ≤ 9223372036854775807) (pbl : -9223372036854775808 ≤ bl) (qbl : bl ≤ 9223372036854775807) (pbh : -9223372036854775808 ≤ bh) (qbh : bh ≤ 9223372036854775807) (oa : al ≤ ah) (ob : bl ≤ bh) (ha : al < 0) (f1 : fits (al - bh) = true) (f2 : fits (ah - bl) = true) (w : World) (hA : AllAt w) : Calls Tryd.prog 13 #[.int .i64 3, .agg #[.int .i64 al, .int .i64 ah], .agg #[.int .i64 bl, .int .i64 bh]] w fun e w' => e = .returned (.agg #[.int .i64 (al - bh), .int .i64 (ah - bl)]) ∧ Below w.heap.size w w' := by
  obtain ⟨gz, g0, g1⟩ := hA
  have gz0 : 2 < w.heap.size := by omega
  have gz1 : 2 < w.heap.size + 1 := by omega
  have gz2 : 2 < w.heap.size + 1 + 1 := by omega
  have gz3 : 2 < w.heap.size + 1 + 1 + 1 := by omega
  have gz4 : 2 < w.heap.size + 1 + 1 + 1 + 1 := by omega
  have hx := and63 bl
  have hk0 : 0 ≤ bl % 64 := Int.emod_nonneg _ (by decide)
  have hk1 : bl % 64 < 64 := Int.emod_lt_of_pos _ (by decide)
  have da : decide (0 ≤ al) = false := by simp; omega
  go_enter Tryd.func13, Tryd.ntmps13
  go_wp2_with (first | (go_at_call 47; refine (radd_is _ _ ?_ ?_ ?_ ?_ _).mono ?_; omega; omega; omega; omega; rintro e w' ⟨rfl, rfl⟩) | (go_at_call 48; refine (rsub_is _ _ ?_ ?_ ?_ ?_ _).mono ?_; omega; omega; omega; omega; rintro e w' ⟨rfl, rfl⟩) | (go_at_call 50; refine (refFill_any _ ?_ _).mono ?_; omega; rintro e w' ⟨rfl, rfl⟩) | (go_at_call 52; refine (rdown_is _ _ ?_ ?_ ?_ ?_ _).mono ?_; omega; omega; omega; omega; rintro e w' ⟨rfl, rfl⟩) | (go_at_call 51; refine (ref_any _ _ _ ?_ ?_ ?_ ?_ _).mono ?_; omega; omega; omega; omega; rintro e w' ⟨rfl, rfl⟩))
  all_goals exact bodyPost_ret (v := .agg #[.int .i64 (al - bh), .int .i64 (ah - bl)]) (by simp [results, Tryd.results13, go_sem]) rfl ⟨rfl, by repeat' first | exact Below.refl _ _ | refine Below.alloc ?_ ?_ _ | refine Below.setCell ?_ ?_ _ | refine Below.drew ?_ | refine below_drewN ?_ _ | (simp; done) | (simp; omega) | (simp [drew_size]; done) | (simp [drew_size]; omega) | omega⟩
set_option maxHeartbeats 1000000 in
set_option maxRecDepth 100000 in
theorem rbd_3nx (al ah bl bh : Int) (pal : -9223372036854775808 ≤ al) (qal : al ≤ 9223372036854775807) (pah : -9223372036854775808 ≤ ah) (qah : ah ≤ 9223372036854775807) (pbl : -9223372036854775808 ≤ bl) (qbl : bl ≤ 9223372036854775807) (pbh : -9223372036854775808 ≤ bh) (qbh : bh ≤ 9223372036854775807) (oa : al ≤ ah) (ob : bl ≤ bh) (ha : al < 0) (f1 : fits (al - bh) = false) (w : World) (hA : AllAt w) : Calls Tryd.prog 13 #[.int .i64 3, .agg #[.int .i64 al, .int .i64 ah], .agg #[.int .i64 bl, .int .i64 bh]] w fun e w' => e = .returned (.agg #[.int .i64 (-9223372036854775808), .int .i64 9223372036854775807]) ∧ Below w.heap.size w w' := by
  obtain ⟨gz, g0, g1⟩ := hA
  have gz0 : 2 < w.heap.size := by omega
  have gz1 : 2 < w.heap.size + 1 := by omega
  have gz2 : 2 < w.heap.size + 1 + 1 := by omega
  have gz3 : 2 < w.heap.size + 1 + 1 + 1 := by omega
  have gz4 : 2 < w.heap.size + 1 + 1 + 1 + 1 := by omega
  have hx := and63 bl
  have hk0 : 0 ≤ bl % 64 := Int.emod_nonneg _ (by decide)
  have hk1 : bl % 64 < 64 := Int.emod_lt_of_pos _ (by decide)
  have da : decide (0 ≤ al) = false := by simp; omega
  go_enter Tryd.func13, Tryd.ntmps13
  go_wp2_with (first | (go_at_call 47; refine (radd_is _ _ ?_ ?_ ?_ ?_ _).mono ?_; omega; omega; omega; omega; rintro e w' ⟨rfl, rfl⟩) | (go_at_call 48; refine (rsub_is _ _ ?_ ?_ ?_ ?_ _).mono ?_; omega; omega; omega; omega; rintro e w' ⟨rfl, rfl⟩) | (go_at_call 50; refine (refFill_any _ ?_ _).mono ?_; omega; rintro e w' ⟨rfl, rfl⟩) | (go_at_call 52; refine (rdown_is _ _ ?_ ?_ ?_ ?_ _).mono ?_; omega; omega; omega; omega; rintro e w' ⟨rfl, rfl⟩) | (go_at_call 51; refine (ref_any _ _ _ ?_ ?_ ?_ ?_ _).mono ?_; omega; omega; omega; omega; rintro e w' ⟨rfl, rfl⟩))
  all_goals exact bodyPost_ret (v := .agg #[.int .i64 (-9223372036854775808), .int .i64 9223372036854775807]) (by simp [results, Tryd.results13, go_sem]) rfl ⟨rfl, by repeat' first | exact Below.refl _ _ | refine Below.alloc ?_ ?_ _ | refine Below.setCell ?_ ?_ _ | refine Below.drew ?_ | refine below_drewN ?_ _ | (simp; done) | (simp; omega) | (simp [drew_size]; done) | (simp [drew_size]; omega) | omega⟩
set_option maxHeartbeats 1000000 in
set_option maxRecDepth 100000 in
theorem rbd_3nz (al ah bl bh : Int) (pal : -9223372036854775808 ≤ al) (qal : al ≤ 9223372036854775807) (pah : -9223372036854775808 ≤ ah) (qah : ah ≤ 9223372036854775807) (pbl : -9223372036854775808 ≤ bl) (qbl : bl ≤ 9223372036854775807) (pbh : -9223372036854775808 ≤ bh) (qbh : bh ≤ 9223372036854775807) (oa : al ≤ ah) (ob : bl ≤ bh) (ha : al < 0) (f1 : fits (al - bh) = true) (f2 : fits (ah - bl) = false) (w : World) (hA : AllAt w) : Calls Tryd.prog 13 #[.int .i64 3, .agg #[.int .i64 al, .int .i64 ah], .agg #[.int .i64 bl, .int .i64 bh]] w fun e w' => e = .returned (.agg #[.int .i64 (-9223372036854775808), .int .i64 9223372036854775807]) ∧ Below w.heap.size w w' := by
  obtain ⟨gz, g0, g1⟩ := hA
  have gz0 : 2 < w.heap.size := by omega
  have gz1 : 2 < w.heap.size + 1 := by omega
  have gz2 : 2 < w.heap.size + 1 + 1 := by omega
  have gz3 : 2 < w.heap.size + 1 + 1 + 1 := by omega
  have gz4 : 2 < w.heap.size + 1 + 1 + 1 + 1 := by omega
  have hx := and63 bl
  have hk0 : 0 ≤ bl % 64 := Int.emod_nonneg _ (by decide)
  have hk1 : bl % 64 < 64 := Int.emod_lt_of_pos _ (by decide)
  have da : decide (0 ≤ al) = false := by simp; omega
  go_enter Tryd.func13, Tryd.ntmps13
  go_wp2_with (first | (go_at_call 47; refine (radd_is _ _ ?_ ?_ ?_ ?_ _).mono ?_; omega; omega; omega; omega; rintro e w' ⟨rfl, rfl⟩) | (go_at_call 48; refine (rsub_is _ _ ?_ ?_ ?_ ?_ _).mono ?_; omega; omega; omega; omega; rintro e w' ⟨rfl, rfl⟩) | (go_at_call 50; refine (refFill_any _ ?_ _).mono ?_; omega; rintro e w' ⟨rfl, rfl⟩) | (go_at_call 52; refine (rdown_is _ _ ?_ ?_ ?_ ?_ _).mono ?_; omega; omega; omega; omega; rintro e w' ⟨rfl, rfl⟩) | (go_at_call 51; refine (ref_any _ _ _ ?_ ?_ ?_ ?_ _).mono ?_; omega; omega; omega; omega; rintro e w' ⟨rfl, rfl⟩))
  all_goals exact bodyPost_ret (v := .agg #[.int .i64 (-9223372036854775808), .int .i64 9223372036854775807]) (by simp [results, Tryd.results13, go_sem]) rfl ⟨rfl, by repeat' first | exact Below.refl _ _ | refine Below.alloc ?_ ?_ _ | refine Below.setCell ?_ ?_ _ | refine Below.drew ?_ | refine below_drewN ?_ _ | (simp; done) | (simp; omega) | (simp [drew_size]; done) | (simp [drew_size]; omega) | omega⟩
end Go.Proofs.YtllphbfhfmieaaaDoor
