/-
  What the document's own BoundDoes returns, at codes 5 to 9, 13: the same function on integers; the world below is as it was. Conditions: the ends are numbers of 64 bits, the low end not above the high one; the document's variable of all numbers holds them.
-/
import Derived.Test.YtllphbfhfmieaaaDoorBoundRefDo
import Derived.Deep.RegionHeld3
namespace Go.Proofs.YtllphbfhfmieaaaDoor
open Go.ChangeShapes Go.WideShapes Go.ChangeAt Go.RowKit
set_option linter.unusedVariables false

set_option maxHeartbeats 1000000 in
set_option maxRecDepth 100000 in
theorem rbd_5p (al ah bl bh : Int) (pal : -9223372036854775808 ≤ al) (qal : al ≤ 9223372036854775807) (pah : -9223372036854775808 ≤ ah) (qah : ah ≤ 9223372036854775807) (pbl : -9223372036854775808 ≤ bl) (qbl : bl ≤ 9223372036854775807) (pbh : -9223372036854775808 ≤ bh) (qbh : bh ≤ 9223372036854775807) (oa : al ≤ ah) (ob : bl ≤ bh) (ha : 0 ≤ al) (hb : 0 ≤ bl) (hp : 0 < bl) (w : World) (hA : AllAt w) : Calls Tryd.prog 13 #[.int .i64 5, .agg #[.int .i64 al, .int .i64 ah], .agg #[.int .i64 bl, .int .i64 bh]] w fun e w' => e = .returned (.agg #[.int .i64 (al / bh), .int .i64 (ah / bl)]) ∧ Below w.heap.size w w' := by
  obtain ⟨gz, g0, g1⟩ := hA
  have gz0 : 2 < w.heap.size := by omega
  have gz1 : 2 < w.heap.size + 1 := by omega
  have gz2 : 2 < w.heap.size + 1 + 1 := by omega
  have gz3 : 2 < w.heap.size + 1 + 1 + 1 := by omega
  have gz4 : 2 < w.heap.size + 1 + 1 + 1 + 1 := by omega
  have hx := and63 bl
  have hk0 : 0 ≤ bl % 64 := Int.emod_nonneg _ (by decide)
  have hk1 : bl % 64 < 64 := Int.emod_lt_of_pos _ (by decide)
  have da : decide (0 ≤ al) = true := by simp; omega
  have db : decide (0 ≤ bl) = true := by simp; omega
  have dz : decide (0 < bl) = true := by simp; omega
  have e1 : al.tdiv bh = al / bh := Int.tdiv_eq_ediv_of_nonneg ha
  have e2 : ah.tdiv bl = ah / bl := Int.tdiv_eq_ediv_of_nonneg (by omega)
  have w1 : wrap64 (al / bh) = al / bh := wrap64_in (by have := Int.ediv_nonneg ha (by omega : 0 ≤ bh); omega) (by have := Int.ediv_le_self bh ha; omega)
  have w2 : wrap64 (ah / bl) = ah / bl := wrap64_in (by have := Int.ediv_nonneg (by omega : 0 ≤ ah) (by omega : 0 ≤ bl); omega) (by have := Int.ediv_le_self bl (by omega : 0 ≤ ah); omega)
  have n1 : ¬ bh = 0 := by omega
  have n2 : ¬ bl = 0 := by omega
  have x1 : IntKind.i64.wrap (al / bh) = al / bh := by rw [IntWalk.i64_left]; exact w1
  have x2 : IntKind.i64.wrap (ah / bl) = ah / bl := by rw [IntWalk.i64_left]; exact w2
  go_enter Tryd.func13, Tryd.ntmps13
  go_wp2_with (first | (go_at_call 47; refine (radd_is _ _ ?_ ?_ ?_ ?_ _).mono ?_; omega; omega; omega; omega; rintro e w' ⟨rfl, rfl⟩) | (go_at_call 48; refine (rsub_is _ _ ?_ ?_ ?_ ?_ _).mono ?_; omega; omega; omega; omega; rintro e w' ⟨rfl, rfl⟩) | (go_at_call 50; refine (refFill_any _ ?_ _).mono ?_; omega; rintro e w' ⟨rfl, rfl⟩) | (go_at_call 52; refine (rdown_is _ _ ?_ ?_ ?_ ?_ _).mono ?_; omega; omega; omega; omega; rintro e w' ⟨rfl, rfl⟩) | (go_at_call 51; refine (ref_any _ _ _ ?_ ?_ ?_ ?_ _).mono ?_; omega; omega; omega; omega; rintro e w' ⟨rfl, rfl⟩))
  go_region_held3 (fun w' => w'.cell? ⟨w.heap.size, 0, none⟩ = some (.int .i64 al) ∧ w'.cell? ⟨w.heap.size, 1, none⟩ = some (.int .i64 ah) ∧ w'.cell? ⟨w.heap.size + 1, 0, none⟩ = some (.int .i64 bl) ∧ w'.cell? ⟨w.heap.size + 1, 1, none⟩ = some (.int .i64 bh)) (first | (simp [go_sem]; done) | (simp [go_sem, *]; done) | go_keep) (first | (go_at_call 47; refine (radd_is _ _ ?_ ?_ ?_ ?_ _).mono ?_; omega; omega; omega; omega; rintro e w' ⟨rfl, rfl⟩) | (go_at_call 48; refine (rsub_is _ _ ?_ ?_ ?_ ?_ _).mono ?_; omega; omega; omega; omega; rintro e w' ⟨rfl, rfl⟩) | (go_at_call 50; refine (refFill_any _ ?_ _).mono ?_; omega; rintro e w' ⟨rfl, rfl⟩) | (go_at_call 52; refine (rdown_is _ _ ?_ ?_ ?_ ?_ _).mono ?_; omega; omega; omega; omega; rintro e w' ⟨rfl, rfl⟩) | (go_at_call 51; refine (ref_any _ _ _ ?_ ?_ ?_ ?_ _).mono ?_; omega; omega; omega; omega; rintro e w' ⟨rfl, rfl⟩))
  all_goals go_wp2_with fail
  all_goals exact bodyPost_ret (v := .agg #[.int .i64 (al / bh), .int .i64 (ah / bl)]) (by simp [results, Tryd.results13, go_sem]) rfl ⟨rfl, by repeat' first | exact Below.refl _ _ | refine Below.alloc ?_ ?_ _ | refine Below.setCell ?_ ?_ _ | refine Below.drew ?_ | refine below_drewN ?_ _ | (simp; done) | (simp; omega) | (simp [drew_size]; done) | (simp [drew_size]; omega) | omega⟩
set_option maxHeartbeats 1000000 in
set_option maxRecDepth 100000 in
theorem rbd_5z (al ah bl bh : Int) (pal : -9223372036854775808 ≤ al) (qal : al ≤ 9223372036854775807) (pah : -9223372036854775808 ≤ ah) (qah : ah ≤ 9223372036854775807) (pbl : -9223372036854775808 ≤ bl) (qbl : bl ≤ 9223372036854775807) (pbh : -9223372036854775808 ≤ bh) (qbh : bh ≤ 9223372036854775807) (oa : al ≤ ah) (ob : bl ≤ bh) (ha : 0 ≤ al) (hb : 0 ≤ bl) (hz : bl ≤ 0) (w : World) (hA : AllAt w) : Calls Tryd.prog 13 #[.int .i64 5, .agg #[.int .i64 al, .int .i64 ah], .agg #[.int .i64 bl, .int .i64 bh]] w fun e w' => e = .returned (.agg #[.int .i64 0, .int .i64 ah]) ∧ Below w.heap.size w w' := by
  obtain ⟨gz, g0, g1⟩ := hA
  have gz0 : 2 < w.heap.size := by omega
  have gz1 : 2 < w.heap.size + 1 := by omega
  have gz2 : 2 < w.heap.size + 1 + 1 := by omega
  have gz3 : 2 < w.heap.size + 1 + 1 + 1 := by omega
  have gz4 : 2 < w.heap.size + 1 + 1 + 1 + 1 := by omega
  have hx := and63 bl
  have hk0 : 0 ≤ bl % 64 := Int.emod_nonneg _ (by decide)
  have hk1 : bl % 64 < 64 := Int.emod_lt_of_pos _ (by decide)
  have da : decide (0 ≤ al) = true := by simp; omega
  have db : decide (0 ≤ bl) = true := by simp; omega
  have dz : decide (0 < bl) = false := by simp; omega
  go_enter Tryd.func13, Tryd.ntmps13
  go_wp2_with (first | (go_at_call 47; refine (radd_is _ _ ?_ ?_ ?_ ?_ _).mono ?_; omega; omega; omega; omega; rintro e w' ⟨rfl, rfl⟩) | (go_at_call 48; refine (rsub_is _ _ ?_ ?_ ?_ ?_ _).mono ?_; omega; omega; omega; omega; rintro e w' ⟨rfl, rfl⟩) | (go_at_call 50; refine (refFill_any _ ?_ _).mono ?_; omega; rintro e w' ⟨rfl, rfl⟩) | (go_at_call 52; refine (rdown_is _ _ ?_ ?_ ?_ ?_ _).mono ?_; omega; omega; omega; omega; rintro e w' ⟨rfl, rfl⟩) | (go_at_call 51; refine (ref_any _ _ _ ?_ ?_ ?_ ?_ _).mono ?_; omega; omega; omega; omega; rintro e w' ⟨rfl, rfl⟩))
  all_goals exact bodyPost_ret (v := .agg #[.int .i64 0, .int .i64 ah]) (by simp [results, Tryd.results13, go_sem]) rfl ⟨rfl, by repeat' first | exact Below.refl _ _ | refine Below.alloc ?_ ?_ _ | refine Below.setCell ?_ ?_ _ | refine Below.drew ?_ | refine below_drewN ?_ _ | (simp; done) | (simp; omega) | (simp [drew_size]; done) | (simp [drew_size]; omega) | omega⟩
set_option maxHeartbeats 1000000 in
set_option maxRecDepth 100000 in
theorem rbd_6p (al ah bl bh : Int) (pal : -9223372036854775808 ≤ al) (qal : al ≤ 9223372036854775807) (pah : -9223372036854775808 ≤ ah) (qah : ah ≤ 9223372036854775807) (pbl : -9223372036854775808 ≤ bl) (qbl : bl ≤ 9223372036854775807) (pbh : -9223372036854775808 ≤ bh) (qbh : bh ≤ 9223372036854775807) (oa : al ≤ ah) (ob : bl ≤ bh) (ha : 0 ≤ al) (hb : 0 ≤ bl) (hp : 0 < bl) (w : World) (hA : AllAt w) : Calls Tryd.prog 13 #[.int .i64 6, .agg #[.int .i64 al, .int .i64 ah], .agg #[.int .i64 bl, .int .i64 bh]] w fun e w' => e = .returned (.agg #[.int .i64 0, .int .i64 (min ah (bh - 1))]) ∧ Below w.heap.size w w' := by
  obtain ⟨gz, g0, g1⟩ := hA
  have gz0 : 2 < w.heap.size := by omega
  have gz1 : 2 < w.heap.size + 1 := by omega
  have gz2 : 2 < w.heap.size + 1 + 1 := by omega
  have gz3 : 2 < w.heap.size + 1 + 1 + 1 := by omega
  have gz4 : 2 < w.heap.size + 1 + 1 + 1 + 1 := by omega
  have hx := and63 bl
  have hk0 : 0 ≤ bl % 64 := Int.emod_nonneg _ (by decide)
  have hk1 : bl % 64 < 64 := Int.emod_lt_of_pos _ (by decide)
  have da : decide (0 ≤ al) = true := by simp; omega
  have db : decide (0 ≤ bl) = true := by simp; omega
  have dz : decide (0 < bl) = true := by simp; omega
  go_enter Tryd.func13, Tryd.ntmps13
  go_wp2_with (first | (go_at_call 47; refine (radd_is _ _ ?_ ?_ ?_ ?_ _).mono ?_; omega; omega; omega; omega; rintro e w' ⟨rfl, rfl⟩) | (go_at_call 48; refine (rsub_is _ _ ?_ ?_ ?_ ?_ _).mono ?_; omega; omega; omega; omega; rintro e w' ⟨rfl, rfl⟩) | (go_at_call 50; refine (refFill_any _ ?_ _).mono ?_; omega; rintro e w' ⟨rfl, rfl⟩) | (go_at_call 52; refine (rdown_is _ _ ?_ ?_ ?_ ?_ _).mono ?_; omega; omega; omega; omega; rintro e w' ⟨rfl, rfl⟩) | (go_at_call 51; refine (ref_any _ _ _ ?_ ?_ ?_ ?_ _).mono ?_; omega; omega; omega; omega; rintro e w' ⟨rfl, rfl⟩))
  all_goals exact bodyPost_ret (v := .agg #[.int .i64 0, .int .i64 (min ah (bh - 1))]) (by simp [results, Tryd.results13, go_sem]) rfl ⟨rfl, by repeat' first | exact Below.refl _ _ | refine Below.alloc ?_ ?_ _ | refine Below.setCell ?_ ?_ _ | refine Below.drew ?_ | refine below_drewN ?_ _ | (simp; done) | (simp; omega) | (simp [drew_size]; done) | (simp [drew_size]; omega) | omega⟩
set_option maxHeartbeats 1000000 in
set_option maxRecDepth 100000 in
theorem rbd_6z (al ah bl bh : Int) (pal : -9223372036854775808 ≤ al) (qal : al ≤ 9223372036854775807) (pah : -9223372036854775808 ≤ ah) (qah : ah ≤ 9223372036854775807) (pbl : -9223372036854775808 ≤ bl) (qbl : bl ≤ 9223372036854775807) (pbh : -9223372036854775808 ≤ bh) (qbh : bh ≤ 9223372036854775807) (oa : al ≤ ah) (ob : bl ≤ bh) (ha : 0 ≤ al) (hb : 0 ≤ bl) (hz : bl ≤ 0) (w : World) (hA : AllAt w) : Calls Tryd.prog 13 #[.int .i64 6, .agg #[.int .i64 al, .int .i64 ah], .agg #[.int .i64 bl, .int .i64 bh]] w fun e w' => e = .returned (.agg #[.int .i64 0, .int .i64 ah]) ∧ Below w.heap.size w w' := by
  obtain ⟨gz, g0, g1⟩ := hA
  have gz0 : 2 < w.heap.size := by omega
  have gz1 : 2 < w.heap.size + 1 := by omega
  have gz2 : 2 < w.heap.size + 1 + 1 := by omega
  have gz3 : 2 < w.heap.size + 1 + 1 + 1 := by omega
  have gz4 : 2 < w.heap.size + 1 + 1 + 1 + 1 := by omega
  have hx := and63 bl
  have hk0 : 0 ≤ bl % 64 := Int.emod_nonneg _ (by decide)
  have hk1 : bl % 64 < 64 := Int.emod_lt_of_pos _ (by decide)
  have da : decide (0 ≤ al) = true := by simp; omega
  have db : decide (0 ≤ bl) = true := by simp; omega
  have dz : decide (0 < bl) = false := by simp; omega
  go_enter Tryd.func13, Tryd.ntmps13
  go_wp2_with (first | (go_at_call 47; refine (radd_is _ _ ?_ ?_ ?_ ?_ _).mono ?_; omega; omega; omega; omega; rintro e w' ⟨rfl, rfl⟩) | (go_at_call 48; refine (rsub_is _ _ ?_ ?_ ?_ ?_ _).mono ?_; omega; omega; omega; omega; rintro e w' ⟨rfl, rfl⟩) | (go_at_call 50; refine (refFill_any _ ?_ _).mono ?_; omega; rintro e w' ⟨rfl, rfl⟩) | (go_at_call 52; refine (rdown_is _ _ ?_ ?_ ?_ ?_ _).mono ?_; omega; omega; omega; omega; rintro e w' ⟨rfl, rfl⟩) | (go_at_call 51; refine (ref_any _ _ _ ?_ ?_ ?_ ?_ _).mono ?_; omega; omega; omega; omega; rintro e w' ⟨rfl, rfl⟩))
  all_goals exact bodyPost_ret (v := .agg #[.int .i64 0, .int .i64 ah]) (by simp [results, Tryd.results13, go_sem]) rfl ⟨rfl, by repeat' first | exact Below.refl _ _ | refine Below.alloc ?_ ?_ _ | refine Below.setCell ?_ ?_ _ | refine Below.drew ?_ | refine below_drewN ?_ _ | (simp; done) | (simp; omega) | (simp [drew_size]; done) | (simp [drew_size]; omega) | omega⟩
set_option maxHeartbeats 1000000 in
set_option maxRecDepth 100000 in
theorem rbd_8p (al ah bl bh : Int) (pal : -9223372036854775808 ≤ al) (qal : al ≤ 9223372036854775807) (pah : -9223372036854775808 ≤ ah) (qah : ah ≤ 9223372036854775807) (pbl : -9223372036854775808 ≤ bl) (qbl : bl ≤ 9223372036854775807) (pbh : -9223372036854775808 ≤ bh) (qbh : bh ≤ 9223372036854775807) (oa : al ≤ ah) (ob : bl ≤ bh) (ha : 0 ≤ al) (hb : 0 ≤ bl) (w : World) (hA : AllAt w) : Calls Tryd.prog 13 #[.int .i64 8, .agg #[.int .i64 al, .int .i64 ah], .agg #[.int .i64 bl, .int .i64 bh]] w fun e w' => e = .returned (.agg #[.int .i64 (max al bl), .int .i64 (fillV (max ah bh))]) ∧ Below w.heap.size w w' := by
  obtain ⟨gz, g0, g1⟩ := hA
  have gz0 : 2 < w.heap.size := by omega
  have gz1 : 2 < w.heap.size + 1 := by omega
  have gz2 : 2 < w.heap.size + 1 + 1 := by omega
  have gz3 : 2 < w.heap.size + 1 + 1 + 1 := by omega
  have gz4 : 2 < w.heap.size + 1 + 1 + 1 + 1 := by omega
  have hx := and63 bl
  have hk0 : 0 ≤ bl % 64 := Int.emod_nonneg _ (by decide)
  have hk1 : bl % 64 < 64 := Int.emod_lt_of_pos _ (by decide)
  have da : decide (0 ≤ al) = true := by simp; omega
  have db : decide (0 ≤ bl) = true := by simp; omega
  go_enter Tryd.func13, Tryd.ntmps13
  go_wp2_with (first | (go_at_call 47; refine (radd_is _ _ ?_ ?_ ?_ ?_ _).mono ?_; omega; omega; omega; omega; rintro e w' ⟨rfl, rfl⟩) | (go_at_call 48; refine (rsub_is _ _ ?_ ?_ ?_ ?_ _).mono ?_; omega; omega; omega; omega; rintro e w' ⟨rfl, rfl⟩) | (go_at_call 50; refine (refFill_any _ ?_ _).mono ?_; omega; rintro e w' ⟨rfl, rfl⟩) | (go_at_call 52; refine (rdown_is _ _ ?_ ?_ ?_ ?_ _).mono ?_; omega; omega; omega; omega; rintro e w' ⟨rfl, rfl⟩) | (go_at_call 51; refine (ref_any _ _ _ ?_ ?_ ?_ ?_ _).mono ?_; omega; omega; omega; omega; rintro e w' ⟨rfl, rfl⟩))
  go_region_held3 (fun w' => w'.cell? ⟨w.heap.size, 0, none⟩ = some (.int .i64 al) ∧ w'.cell? ⟨w.heap.size, 1, none⟩ = some (.int .i64 ah) ∧ w'.cell? ⟨w.heap.size + 1, 0, none⟩ = some (.int .i64 bl) ∧ w'.cell? ⟨w.heap.size + 1, 1, none⟩ = some (.int .i64 bh)) (first | (simp [go_sem]; done) | (simp [go_sem, *]; done) | go_keep) (first | (go_at_call 47; refine (radd_is _ _ ?_ ?_ ?_ ?_ _).mono ?_; omega; omega; omega; omega; rintro e w' ⟨rfl, rfl⟩) | (go_at_call 48; refine (rsub_is _ _ ?_ ?_ ?_ ?_ _).mono ?_; omega; omega; omega; omega; rintro e w' ⟨rfl, rfl⟩) | (go_at_call 50; refine (refFill_any _ ?_ _).mono ?_; omega; rintro e w' ⟨rfl, rfl⟩) | (go_at_call 52; refine (rdown_is _ _ ?_ ?_ ?_ ?_ _).mono ?_; omega; omega; omega; omega; rintro e w' ⟨rfl, rfl⟩) | (go_at_call 51; refine (ref_any _ _ _ ?_ ?_ ?_ ?_ _).mono ?_; omega; omega; omega; omega; rintro e w' ⟨rfl, rfl⟩))
  all_goals go_wp2_with (first | (go_at_call 47; refine (radd_is _ _ ?_ ?_ ?_ ?_ _).mono ?_; omega; omega; omega; omega; rintro e w' ⟨rfl, rfl⟩) | (go_at_call 48; refine (rsub_is _ _ ?_ ?_ ?_ ?_ _).mono ?_; omega; omega; omega; omega; rintro e w' ⟨rfl, rfl⟩) | (go_at_call 50; refine (refFill_any _ ?_ _).mono ?_; omega; rintro e w' ⟨rfl, rfl⟩) | (go_at_call 52; refine (rdown_is _ _ ?_ ?_ ?_ ?_ _).mono ?_; omega; omega; omega; omega; rintro e w' ⟨rfl, rfl⟩) | (go_at_call 51; refine (ref_any _ _ _ ?_ ?_ ?_ ?_ _).mono ?_; omega; omega; omega; omega; rintro e w' ⟨rfl, rfl⟩))
  all_goals exact bodyPost_ret (v := .agg #[.int .i64 (max al bl), .int .i64 (fillV (max ah bh))]) (by simp [results, Tryd.results13, go_sem]) rfl ⟨rfl, by repeat' first | exact Below.refl _ _ | refine Below.alloc ?_ ?_ _ | refine Below.setCell ?_ ?_ _ | refine Below.drew ?_ | refine below_drewN ?_ _ | (simp; done) | (simp; omega) | (simp [drew_size]; done) | (simp [drew_size]; omega) | omega⟩
set_option maxHeartbeats 1000000 in
set_option maxRecDepth 100000 in
theorem rbd_9p (al ah bl bh : Int) (pal : -9223372036854775808 ≤ al) (qal : al ≤ 9223372036854775807) (pah : -9223372036854775808 ≤ ah) (qah : ah ≤ 9223372036854775807) (pbl : -9223372036854775808 ≤ bl) (qbl : bl ≤ 9223372036854775807) (pbh : -9223372036854775808 ≤ bh) (qbh : bh ≤ 9223372036854775807) (oa : al ≤ ah) (ob : bl ≤ bh) (ha : 0 ≤ al) (hb : 0 ≤ bl) (w : World) (hA : AllAt w) : Calls Tryd.prog 13 #[.int .i64 9, .agg #[.int .i64 al, .int .i64 ah], .agg #[.int .i64 bl, .int .i64 bh]] w fun e w' => e = .returned (.agg #[.int .i64 0, .int .i64 (fillV (max ah bh))]) ∧ Below w.heap.size w w' := by
  obtain ⟨gz, g0, g1⟩ := hA
  have gz0 : 2 < w.heap.size := by omega
  have gz1 : 2 < w.heap.size + 1 := by omega
  have gz2 : 2 < w.heap.size + 1 + 1 := by omega
  have gz3 : 2 < w.heap.size + 1 + 1 + 1 := by omega
  have gz4 : 2 < w.heap.size + 1 + 1 + 1 + 1 := by omega
  have hx := and63 bl
  have hk0 : 0 ≤ bl % 64 := Int.emod_nonneg _ (by decide)
  have hk1 : bl % 64 < 64 := Int.emod_lt_of_pos _ (by decide)
  have da : decide (0 ≤ al) = true := by simp; omega
  have db : decide (0 ≤ bl) = true := by simp; omega
  go_enter Tryd.func13, Tryd.ntmps13
  go_wp2_with (first | (go_at_call 47; refine (radd_is _ _ ?_ ?_ ?_ ?_ _).mono ?_; omega; omega; omega; omega; rintro e w' ⟨rfl, rfl⟩) | (go_at_call 48; refine (rsub_is _ _ ?_ ?_ ?_ ?_ _).mono ?_; omega; omega; omega; omega; rintro e w' ⟨rfl, rfl⟩) | (go_at_call 50; refine (refFill_any _ ?_ _).mono ?_; omega; rintro e w' ⟨rfl, rfl⟩) | (go_at_call 52; refine (rdown_is _ _ ?_ ?_ ?_ ?_ _).mono ?_; omega; omega; omega; omega; rintro e w' ⟨rfl, rfl⟩) | (go_at_call 51; refine (ref_any _ _ _ ?_ ?_ ?_ ?_ _).mono ?_; omega; omega; omega; omega; rintro e w' ⟨rfl, rfl⟩))
  all_goals exact bodyPost_ret (v := .agg #[.int .i64 0, .int .i64 (fillV (max ah bh))]) (by simp [results, Tryd.results13, go_sem]) rfl ⟨rfl, by repeat' first | exact Below.refl _ _ | refine Below.alloc ?_ ?_ _ | refine Below.setCell ?_ ?_ _ | refine Below.drew ?_ | refine below_drewN ?_ _ | (simp; done) | (simp; omega) | (simp [drew_size]; done) | (simp [drew_size]; omega) | omega⟩
set_option maxHeartbeats 1000000 in
set_option maxRecDepth 100000 in
theorem rbd_5pn (al ah bl bh : Int) (pal : -9223372036854775808 ≤ al) (qal : al ≤ 9223372036854775807) (pah : -9223372036854775808 ≤ ah) (qah : ah ≤ 9223372036854775807) (pbl : -9223372036854775808 ≤ bl) (qbl : bl ≤ 9223372036854775807) (pbh : -9223372036854775808 ≤ bh) (qbh : bh ≤ 9223372036854775807) (oa : al ≤ ah) (ob : bl ≤ bh) (ha : 0 ≤ al) (hb : bl < 0) (w : World) (hA : AllAt w) : Calls Tryd.prog 13 #[.int .i64 5, .agg #[.int .i64 al, .int .i64 ah], .agg #[.int .i64 bl, .int .i64 bh]] w fun e w' => e = .returned (.agg #[.int .i64 (-9223372036854775808), .int .i64 9223372036854775807]) ∧ Below w.heap.size w w' := by
  obtain ⟨gz, g0, g1⟩ := hA
  have gz0 : 2 < w.heap.size := by omega
  have gz1 : 2 < w.heap.size + 1 := by omega
  have gz2 : 2 < w.heap.size + 1 + 1 := by omega
  have gz3 : 2 < w.heap.size + 1 + 1 + 1 := by omega
  have gz4 : 2 < w.heap.size + 1 + 1 + 1 + 1 := by omega
  have hx := and63 bl
  have hk0 : 0 ≤ bl % 64 := Int.emod_nonneg _ (by decide)
  have hk1 : bl % 64 < 64 := Int.emod_lt_of_pos _ (by decide)
  have da : decide (0 ≤ al) = true := by simp; omega
  have db : decide (0 ≤ bl) = false := by simp; omega
  go_enter Tryd.func13, Tryd.ntmps13
  go_wp2_with (first | (go_at_call 47; refine (radd_is _ _ ?_ ?_ ?_ ?_ _).mono ?_; omega; omega; omega; omega; rintro e w' ⟨rfl, rfl⟩) | (go_at_call 48; refine (rsub_is _ _ ?_ ?_ ?_ ?_ _).mono ?_; omega; omega; omega; omega; rintro e w' ⟨rfl, rfl⟩) | (go_at_call 50; refine (refFill_any _ ?_ _).mono ?_; omega; rintro e w' ⟨rfl, rfl⟩) | (go_at_call 52; refine (rdown_is _ _ ?_ ?_ ?_ ?_ _).mono ?_; omega; omega; omega; omega; rintro e w' ⟨rfl, rfl⟩) | (go_at_call 51; refine (ref_any _ _ _ ?_ ?_ ?_ ?_ _).mono ?_; omega; omega; omega; omega; rintro e w' ⟨rfl, rfl⟩))
  all_goals exact bodyPost_ret (v := .agg #[.int .i64 (-9223372036854775808), .int .i64 9223372036854775807]) (by simp [results, Tryd.results13, go_sem]) rfl ⟨rfl, by repeat' first | exact Below.refl _ _ | refine Below.alloc ?_ ?_ _ | refine Below.setCell ?_ ?_ _ | refine Below.drew ?_ | refine below_drewN ?_ _ | (simp; done) | (simp; omega) | (simp [drew_size]; done) | (simp [drew_size]; omega) | omega⟩
set_option maxHeartbeats 1000000 in
set_option maxRecDepth 100000 in
theorem rbd_5n (al ah bl bh : Int) (pal : -9223372036854775808 ≤ al) (qal : al ≤ 9223372036854775807) (pah : -9223372036854775808 ≤ ah) (qah : ah ≤ 9223372036854775807) (pbl : -9223372036854775808 ≤ bl) (qbl : bl ≤ 9223372036854775807) (pbh : -9223372036854775808 ≤ bh) (qbh : bh ≤ 9223372036854775807) (oa : al ≤ ah) (ob : bl ≤ bh) (ha : al < 0) (w : World) (hA : AllAt w) : Calls Tryd.prog 13 #[.int .i64 5, .agg #[.int .i64 al, .int .i64 ah], .agg #[.int .i64 bl, .int .i64 bh]] w fun e w' => e = .returned (.agg #[.int .i64 (-9223372036854775808), .int .i64 9223372036854775807]) ∧ Below w.heap.size w w' := by
  obtain ⟨gz, g0, g1⟩ := hA
  have gz0 : 2 < w.heap.size := by omega
  have gz1 : 2 < w.heap.size + 1 := by omega
  have gz2 : 2 < w.heap.size + 1 + 1 := by omega
  have gz3 : 2 < w.heap.size + 1 + 1 + 1 := by omega
  have gz4 : 2 < w.heap.size + 1 + 1 + 1 + 1 := by omega
  have hx := and63 bl
  have hk0 : 0 ≤ bl % 64 := Int.emod_nonneg _ (by decide)
  have hk1 : bl % 64 < 64 := Int.emod_lt_of_pos _ (by decide)
  have da : decide (0 ≤ al) = false := by simp; omega
  go_enter Tryd.func13, Tryd.ntmps13
  go_wp2_with (first | (go_at_call 47; refine (radd_is _ _ ?_ ?_ ?_ ?_ _).mono ?_; omega; omega; omega; omega; rintro e w' ⟨rfl, rfl⟩) | (go_at_call 48; refine (rsub_is _ _ ?_ ?_ ?_ ?_ _).mono ?_; omega; omega; omega; omega; rintro e w' ⟨rfl, rfl⟩) | (go_at_call 50; refine (refFill_any _ ?_ _).mono ?_; omega; rintro e w' ⟨rfl, rfl⟩) | (go_at_call 52; refine (rdown_is _ _ ?_ ?_ ?_ ?_ _).mono ?_; omega; omega; omega; omega; rintro e w' ⟨rfl, rfl⟩) | (go_at_call 51; refine (ref_any _ _ _ ?_ ?_ ?_ ?_ _).mono ?_; omega; omega; omega; omega; rintro e w' ⟨rfl, rfl⟩))
  all_goals exact bodyPost_ret (v := .agg #[.int .i64 (-9223372036854775808), .int .i64 9223372036854775807]) (by simp [results, Tryd.results13, go_sem]) rfl ⟨rfl, by repeat' first | exact Below.refl _ _ | refine Below.alloc ?_ ?_ _ | refine Below.setCell ?_ ?_ _ | refine Below.drew ?_ | refine below_drewN ?_ _ | (simp; done) | (simp; omega) | (simp [drew_size]; done) | (simp [drew_size]; omega) | omega⟩
set_option maxHeartbeats 1000000 in
set_option maxRecDepth 100000 in
theorem rbd_6pn (al ah bl bh : Int) (pal : -9223372036854775808 ≤ al) (qal : al ≤ 9223372036854775807) (pah : -9223372036854775808 ≤ ah) (qah : ah ≤ 9223372036854775807) (pbl : -9223372036854775808 ≤ bl) (qbl : bl ≤ 9223372036854775807) (pbh : -9223372036854775808 ≤ bh) (qbh : bh ≤ 9223372036854775807) (oa : al ≤ ah) (ob : bl ≤ bh) (ha : 0 ≤ al) (hb : bl < 0) (w : World) (hA : AllAt w) : Calls Tryd.prog 13 #[.int .i64 6, .agg #[.int .i64 al, .int .i64 ah], .agg #[.int .i64 bl, .int .i64 bh]] w fun e w' => e = .returned (.agg #[.int .i64 (-9223372036854775808), .int .i64 9223372036854775807]) ∧ Below w.heap.size w w' := by
  obtain ⟨gz, g0, g1⟩ := hA
  have gz0 : 2 < w.heap.size := by omega
  have gz1 : 2 < w.heap.size + 1 := by omega
  have gz2 : 2 < w.heap.size + 1 + 1 := by omega
  have gz3 : 2 < w.heap.size + 1 + 1 + 1 := by omega
  have gz4 : 2 < w.heap.size + 1 + 1 + 1 + 1 := by omega
  have hx := and63 bl
  have hk0 : 0 ≤ bl % 64 := Int.emod_nonneg _ (by decide)
  have hk1 : bl % 64 < 64 := Int.emod_lt_of_pos _ (by decide)
  have da : decide (0 ≤ al) = true := by simp; omega
  have db : decide (0 ≤ bl) = false := by simp; omega
  go_enter Tryd.func13, Tryd.ntmps13
  go_wp2_with (first | (go_at_call 47; refine (radd_is _ _ ?_ ?_ ?_ ?_ _).mono ?_; omega; omega; omega; omega; rintro e w' ⟨rfl, rfl⟩) | (go_at_call 48; refine (rsub_is _ _ ?_ ?_ ?_ ?_ _).mono ?_; omega; omega; omega; omega; rintro e w' ⟨rfl, rfl⟩) | (go_at_call 50; refine (refFill_any _ ?_ _).mono ?_; omega; rintro e w' ⟨rfl, rfl⟩) | (go_at_call 52; refine (rdown_is _ _ ?_ ?_ ?_ ?_ _).mono ?_; omega; omega; omega; omega; rintro e w' ⟨rfl, rfl⟩) | (go_at_call 51; refine (ref_any _ _ _ ?_ ?_ ?_ ?_ _).mono ?_; omega; omega; omega; omega; rintro e w' ⟨rfl, rfl⟩))
  all_goals exact bodyPost_ret (v := .agg #[.int .i64 (-9223372036854775808), .int .i64 9223372036854775807]) (by simp [results, Tryd.results13, go_sem]) rfl ⟨rfl, by repeat' first | exact Below.refl _ _ | refine Below.alloc ?_ ?_ _ | refine Below.setCell ?_ ?_ _ | refine Below.drew ?_ | refine below_drewN ?_ _ | (simp; done) | (simp; omega) | (simp [drew_size]; done) | (simp [drew_size]; omega) | omega⟩
set_option maxHeartbeats 1000000 in
set_option maxRecDepth 100000 in
theorem rbd_6n (al ah bl bh : Int) (pal : -9223372036854775808 ≤ al) (qal : al ≤ 9223372036854775807) (pah : -9223372036854775808 ≤ ah) (qah : ah ≤ 9223372036854775807) (pbl : -9223372036854775808 ≤ bl) (qbl : bl ≤ 9223372036854775807) (pbh : -9223372036854775808 ≤ bh) (qbh : bh ≤ 9223372036854775807) (oa : al ≤ ah) (ob : bl ≤ bh) (ha : al < 0) (w : World) (hA : AllAt w) : Calls Tryd.prog 13 #[.int .i64 6, .agg #[.int .i64 al, .int .i64 ah], .agg #[.int .i64 bl, .int .i64 bh]] w fun e w' => e = .returned (.agg #[.int .i64 (-9223372036854775808), .int .i64 9223372036854775807]) ∧ Below w.heap.size w w' := by
  obtain ⟨gz, g0, g1⟩ := hA
  have gz0 : 2 < w.heap.size := by omega
  have gz1 : 2 < w.heap.size + 1 := by omega
  have gz2 : 2 < w.heap.size + 1 + 1 := by omega
  have gz3 : 2 < w.heap.size + 1 + 1 + 1 := by omega
  have gz4 : 2 < w.heap.size + 1 + 1 + 1 + 1 := by omega
  have hx := and63 bl
  have hk0 : 0 ≤ bl % 64 := Int.emod_nonneg _ (by decide)
  have hk1 : bl % 64 < 64 := Int.emod_lt_of_pos _ (by decide)
  have da : decide (0 ≤ al) = false := by simp; omega
  go_enter Tryd.func13, Tryd.ntmps13
  go_wp2_with (first | (go_at_call 47; refine (radd_is _ _ ?_ ?_ ?_ ?_ _).mono ?_; omega; omega; omega; omega; rintro e w' ⟨rfl, rfl⟩) | (go_at_call 48; refine (rsub_is _ _ ?_ ?_ ?_ ?_ _).mono ?_; omega; omega; omega; omega; rintro e w' ⟨rfl, rfl⟩) | (go_at_call 50; refine (refFill_any _ ?_ _).mono ?_; omega; rintro e w' ⟨rfl, rfl⟩) | (go_at_call 52; refine (rdown_is _ _ ?_ ?_ ?_ ?_ _).mono ?_; omega; omega; omega; omega; rintro e w' ⟨rfl, rfl⟩) | (go_at_call 51; refine (ref_any _ _ _ ?_ ?_ ?_ ?_ _).mono ?_; omega; omega; omega; omega; rintro e w' ⟨rfl, rfl⟩))
  all_goals exact bodyPost_ret (v := .agg #[.int .i64 (-9223372036854775808), .int .i64 9223372036854775807]) (by simp [results, Tryd.results13, go_sem]) rfl ⟨rfl, by repeat' first | exact Below.refl _ _ | refine Below.alloc ?_ ?_ _ | refine Below.setCell ?_ ?_ _ | refine Below.drew ?_ | refine below_drewN ?_ _ | (simp; done) | (simp; omega) | (simp [drew_size]; done) | (simp [drew_size]; omega) | omega⟩
set_option maxHeartbeats 1000000 in
set_option maxRecDepth 100000 in
theorem rbd_8pn (al ah bl bh : Int) (pal : -9223372036854775808 ≤ al) (qal : al ≤ 9223372036854775807) (pah : -9223372036854775808 ≤ ah) (qah : ah ≤ 9223372036854775807) (pbl : -9223372036854775808 ≤ bl) (qbl : bl ≤ 9223372036854775807) (pbh : -9223372036854775808 ≤ bh) (qbh : bh ≤ 9223372036854775807) (oa : al ≤ ah) (ob : bl ≤ bh) (ha : 0 ≤ al) (hb : bl < 0) (w : World) (hA : AllAt w) : Calls Tryd.prog 13 #[.int .i64 8, .agg #[.int .i64 al, .int .i64 ah], .agg #[.int .i64 bl, .int .i64 bh]] w fun e w' => e = .returned (.agg #[.int .i64 (-9223372036854775808), .int .i64 9223372036854775807]) ∧ Below w.heap.size w w' := by
  obtain ⟨gz, g0, g1⟩ := hA
  have gz0 : 2 < w.heap.size := by omega
  have gz1 : 2 < w.heap.size + 1 := by omega
  have gz2 : 2 < w.heap.size + 1 + 1 := by omega
  have gz3 : 2 < w.heap.size + 1 + 1 + 1 := by omega
  have gz4 : 2 < w.heap.size + 1 + 1 + 1 + 1 := by omega
  have hx := and63 bl
  have hk0 : 0 ≤ bl % 64 := Int.emod_nonneg _ (by decide)
  have hk1 : bl % 64 < 64 := Int.emod_lt_of_pos _ (by decide)
  have da : decide (0 ≤ al) = true := by simp; omega
  have db : decide (0 ≤ bl) = false := by simp; omega
  go_enter Tryd.func13, Tryd.ntmps13
  go_wp2_with (first | (go_at_call 47; refine (radd_is _ _ ?_ ?_ ?_ ?_ _).mono ?_; omega; omega; omega; omega; rintro e w' ⟨rfl, rfl⟩) | (go_at_call 48; refine (rsub_is _ _ ?_ ?_ ?_ ?_ _).mono ?_; omega; omega; omega; omega; rintro e w' ⟨rfl, rfl⟩) | (go_at_call 50; refine (refFill_any _ ?_ _).mono ?_; omega; rintro e w' ⟨rfl, rfl⟩) | (go_at_call 52; refine (rdown_is _ _ ?_ ?_ ?_ ?_ _).mono ?_; omega; omega; omega; omega; rintro e w' ⟨rfl, rfl⟩) | (go_at_call 51; refine (ref_any _ _ _ ?_ ?_ ?_ ?_ _).mono ?_; omega; omega; omega; omega; rintro e w' ⟨rfl, rfl⟩))
  all_goals exact bodyPost_ret (v := .agg #[.int .i64 (-9223372036854775808), .int .i64 9223372036854775807]) (by simp [results, Tryd.results13, go_sem]) rfl ⟨rfl, by repeat' first | exact Below.refl _ _ | refine Below.alloc ?_ ?_ _ | refine Below.setCell ?_ ?_ _ | refine Below.drew ?_ | refine below_drewN ?_ _ | (simp; done) | (simp; omega) | (simp [drew_size]; done) | (simp [drew_size]; omega) | omega⟩
set_option maxHeartbeats 1000000 in
set_option maxRecDepth 100000 in
theorem rbd_8n (al ah bl bh : Int) (pal : -9223372036854775808 ≤ al) (qal : al ≤ 9223372036854775807) (pah : -9223372036854775808 ≤ ah) (qah : ah ≤ 9223372036854775807) (pbl : -9223372036854775808 ≤ bl) (qbl : bl ≤ 9223372036854775807) (pbh : -9223372036854775808 ≤ bh) (qbh : bh ≤ 9223372036854775807) (oa : al ≤ ah) (ob : bl ≤ bh) (ha : al < 0) (w : World) (hA : AllAt w) : Calls Tryd.prog 13 #[.int .i64 8, .agg #[.int .i64 al, .int .i64 ah], .agg #[.int .i64 bl, .int .i64 bh]] w fun e w' => e = .returned (.agg #[.int .i64 (-9223372036854775808), .int .i64 9223372036854775807]) ∧ Below w.heap.size w w' := by
  obtain ⟨gz, g0, g1⟩ := hA
  have gz0 : 2 < w.heap.size := by omega
  have gz1 : 2 < w.heap.size + 1 := by omega
  have gz2 : 2 < w.heap.size + 1 + 1 := by omega
  have gz3 : 2 < w.heap.size + 1 + 1 + 1 := by omega
  have gz4 : 2 < w.heap.size + 1 + 1 + 1 + 1 := by omega
  have hx := and63 bl
  have hk0 : 0 ≤ bl % 64 := Int.emod_nonneg _ (by decide)
  have hk1 : bl % 64 < 64 := Int.emod_lt_of_pos _ (by decide)
  have da : decide (0 ≤ al) = false := by simp; omega
  go_enter Tryd.func13, Tryd.ntmps13
  go_wp2_with (first | (go_at_call 47; refine (radd_is _ _ ?_ ?_ ?_ ?_ _).mono ?_; omega; omega; omega; omega; rintro e w' ⟨rfl, rfl⟩) | (go_at_call 48; refine (rsub_is _ _ ?_ ?_ ?_ ?_ _).mono ?_; omega; omega; omega; omega; rintro e w' ⟨rfl, rfl⟩) | (go_at_call 50; refine (refFill_any _ ?_ _).mono ?_; omega; rintro e w' ⟨rfl, rfl⟩) | (go_at_call 52; refine (rdown_is _ _ ?_ ?_ ?_ ?_ _).mono ?_; omega; omega; omega; omega; rintro e w' ⟨rfl, rfl⟩) | (go_at_call 51; refine (ref_any _ _ _ ?_ ?_ ?_ ?_ _).mono ?_; omega; omega; omega; omega; rintro e w' ⟨rfl, rfl⟩))
  all_goals exact bodyPost_ret (v := .agg #[.int .i64 (-9223372036854775808), .int .i64 9223372036854775807]) (by simp [results, Tryd.results13, go_sem]) rfl ⟨rfl, by repeat' first | exact Below.refl _ _ | refine Below.alloc ?_ ?_ _ | refine Below.setCell ?_ ?_ _ | refine Below.drew ?_ | refine below_drewN ?_ _ | (simp; done) | (simp; omega) | (simp [drew_size]; done) | (simp [drew_size]; omega) | omega⟩
set_option maxHeartbeats 1000000 in
set_option maxRecDepth 100000 in
theorem rbd_9pn (al ah bl bh : Int) (pal : -9223372036854775808 ≤ al) (qal : al ≤ 9223372036854775807) (pah : -9223372036854775808 ≤ ah) (qah : ah ≤ 9223372036854775807) (pbl : -9223372036854775808 ≤ bl) (qbl : bl ≤ 9223372036854775807) (pbh : -9223372036854775808 ≤ bh) (qbh : bh ≤ 9223372036854775807) (oa : al ≤ ah) (ob : bl ≤ bh) (ha : 0 ≤ al) (hb : bl < 0) (w : World) (hA : AllAt w) : Calls Tryd.prog 13 #[.int .i64 9, .agg #[.int .i64 al, .int .i64 ah], .agg #[.int .i64 bl, .int .i64 bh]] w fun e w' => e = .returned (.agg #[.int .i64 (-9223372036854775808), .int .i64 9223372036854775807]) ∧ Below w.heap.size w w' := by
  obtain ⟨gz, g0, g1⟩ := hA
  have gz0 : 2 < w.heap.size := by omega
  have gz1 : 2 < w.heap.size + 1 := by omega
  have gz2 : 2 < w.heap.size + 1 + 1 := by omega
  have gz3 : 2 < w.heap.size + 1 + 1 + 1 := by omega
  have gz4 : 2 < w.heap.size + 1 + 1 + 1 + 1 := by omega
  have hx := and63 bl
  have hk0 : 0 ≤ bl % 64 := Int.emod_nonneg _ (by decide)
  have hk1 : bl % 64 < 64 := Int.emod_lt_of_pos _ (by decide)
  have da : decide (0 ≤ al) = true := by simp; omega
  have db : decide (0 ≤ bl) = false := by simp; omega
  go_enter Tryd.func13, Tryd.ntmps13
  go_wp2_with (first | (go_at_call 47; refine (radd_is _ _ ?_ ?_ ?_ ?_ _).mono ?_; omega; omega; omega; omega; rintro e w' ⟨rfl, rfl⟩) | (go_at_call 48; refine (rsub_is _ _ ?_ ?_ ?_ ?_ _).mono ?_; omega; omega; omega; omega; rintro e w' ⟨rfl, rfl⟩) | (go_at_call 50; refine (refFill_any _ ?_ _).mono ?_; omega; rintro e w' ⟨rfl, rfl⟩) | (go_at_call 52; refine (rdown_is _ _ ?_ ?_ ?_ ?_ _).mono ?_; omega; omega; omega; omega; rintro e w' ⟨rfl, rfl⟩) | (go_at_call 51; refine (ref_any _ _ _ ?_ ?_ ?_ ?_ _).mono ?_; omega; omega; omega; omega; rintro e w' ⟨rfl, rfl⟩))
  all_goals exact bodyPost_ret (v := .agg #[.int .i64 (-9223372036854775808), .int .i64 9223372036854775807]) (by simp [results, Tryd.results13, go_sem]) rfl ⟨rfl, by repeat' first | exact Below.refl _ _ | refine Below.alloc ?_ ?_ _ | refine Below.setCell ?_ ?_ _ | refine Below.drew ?_ | refine below_drewN ?_ _ | (simp; done) | (simp; omega) | (simp [drew_size]; done) | (simp [drew_size]; omega) | omega⟩
set_option maxHeartbeats 1000000 in
set_option maxRecDepth 100000 in
theorem rbd_9n (al ah bl bh : Int) (pal : -9223372036854775808 ≤ al) (qal : al ≤ 9223372036854775807) (pah : -9223372036854775808 ≤ ah) (qah : ah ≤ 9223372036854775807) (pbl : -9223372036854775808 ≤ bl) (qbl : bl ≤ 9223372036854775807) (pbh : -9223372036854775808 ≤ bh) (qbh : bh ≤ 9223372036854775807) (oa : al ≤ ah) (ob : bl ≤ bh) (ha : al < 0) (w : World) (hA : AllAt w) : Calls Tryd.prog 13 #[.int .i64 9, .agg #[.int .i64 al, .int .i64 ah], .agg #[.int .i64 bl, .int .i64 bh]] w fun e w' => e = .returned (.agg #[.int .i64 (-9223372036854775808), .int .i64 9223372036854775807]) ∧ Below w.heap.size w w' := by
  obtain ⟨gz, g0, g1⟩ := hA
  have gz0 : 2 < w.heap.size := by omega
  have gz1 : 2 < w.heap.size + 1 := by omega
  have gz2 : 2 < w.heap.size + 1 + 1 := by omega
  have gz3 : 2 < w.heap.size + 1 + 1 + 1 := by omega
  have gz4 : 2 < w.heap.size + 1 + 1 + 1 + 1 := by omega
  have hx := and63 bl
  have hk0 : 0 ≤ bl % 64 := Int.emod_nonneg _ (by decide)
  have hk1 : bl % 64 < 64 := Int.emod_lt_of_pos _ (by decide)
  have da : decide (0 ≤ al) = false := by simp; omega
  go_enter Tryd.func13, Tryd.ntmps13
  go_wp2_with (first | (go_at_call 47; refine (radd_is _ _ ?_ ?_ ?_ ?_ _).mono ?_; omega; omega; omega; omega; rintro e w' ⟨rfl, rfl⟩) | (go_at_call 48; refine (rsub_is _ _ ?_ ?_ ?_ ?_ _).mono ?_; omega; omega; omega; omega; rintro e w' ⟨rfl, rfl⟩) | (go_at_call 50; refine (refFill_any _ ?_ _).mono ?_; omega; rintro e w' ⟨rfl, rfl⟩) | (go_at_call 52; refine (rdown_is _ _ ?_ ?_ ?_ ?_ _).mono ?_; omega; omega; omega; omega; rintro e w' ⟨rfl, rfl⟩) | (go_at_call 51; refine (ref_any _ _ _ ?_ ?_ ?_ ?_ _).mono ?_; omega; omega; omega; omega; rintro e w' ⟨rfl, rfl⟩))
  all_goals exact bodyPost_ret (v := .agg #[.int .i64 (-9223372036854775808), .int .i64 9223372036854775807]) (by simp [results, Tryd.results13, go_sem]) rfl ⟨rfl, by repeat' first | exact Below.refl _ _ | refine Below.alloc ?_ ?_ _ | refine Below.setCell ?_ ?_ _ | refine Below.drew ?_ | refine below_drewN ?_ _ | (simp; done) | (simp; omega) | (simp [drew_size]; done) | (simp [drew_size]; omega) | omega⟩
set_option maxHeartbeats 1000000 in
set_option maxRecDepth 100000 in
theorem rbd_7pp (al ah bl bh : Int) (pal : -9223372036854775808 ≤ al) (qal : al ≤ 9223372036854775807) (pah : -9223372036854775808 ≤ ah) (qah : ah ≤ 9223372036854775807) (pbl : -9223372036854775808 ≤ bl) (qbl : bl ≤ 9223372036854775807) (pbh : -9223372036854775808 ≤ bh) (qbh : bh ≤ 9223372036854775807) (oa : al ≤ ah) (ob : bl ≤ bh) (ha : 0 ≤ al) (hb : 0 ≤ bl) (w : World) (hA : AllAt w) : Calls Tryd.prog 13 #[.int .i64 7, .agg #[.int .i64 al, .int .i64 ah], .agg #[.int .i64 bl, .int .i64 bh]] w fun e w' => e = .returned (.agg #[.int .i64 0, .int .i64 (min ah bh)]) ∧ Below w.heap.size w w' := by
  obtain ⟨gz, g0, g1⟩ := hA
  have gz0 : 2 < w.heap.size := by omega
  have gz1 : 2 < w.heap.size + 1 := by omega
  have gz2 : 2 < w.heap.size + 1 + 1 := by omega
  have gz3 : 2 < w.heap.size + 1 + 1 + 1 := by omega
  have gz4 : 2 < w.heap.size + 1 + 1 + 1 + 1 := by omega
  have hx := and63 bl
  have hk0 : 0 ≤ bl % 64 := Int.emod_nonneg _ (by decide)
  have hk1 : bl % 64 < 64 := Int.emod_lt_of_pos _ (by decide)
  have da : decide (0 ≤ al) = true := by simp; omega
  have db : decide (0 ≤ bl) = true := by simp; omega
  go_enter Tryd.func13, Tryd.ntmps13
  go_wp2_with (first | (go_at_call 47; refine (radd_is _ _ ?_ ?_ ?_ ?_ _).mono ?_; omega; omega; omega; omega; rintro e w' ⟨rfl, rfl⟩) | (go_at_call 48; refine (rsub_is _ _ ?_ ?_ ?_ ?_ _).mono ?_; omega; omega; omega; omega; rintro e w' ⟨rfl, rfl⟩) | (go_at_call 50; refine (refFill_any _ ?_ _).mono ?_; omega; rintro e w' ⟨rfl, rfl⟩) | (go_at_call 52; refine (rdown_is _ _ ?_ ?_ ?_ ?_ _).mono ?_; omega; omega; omega; omega; rintro e w' ⟨rfl, rfl⟩) | (go_at_call 51; refine (ref_any _ _ _ ?_ ?_ ?_ ?_ _).mono ?_; omega; omega; omega; omega; rintro e w' ⟨rfl, rfl⟩))
  all_goals exact bodyPost_ret (v := .agg #[.int .i64 0, .int .i64 (min ah bh)]) (by simp [results, Tryd.results13, go_sem]) rfl ⟨rfl, by repeat' first | exact Below.refl _ _ | refine Below.alloc ?_ ?_ _ | refine Below.setCell ?_ ?_ _ | refine Below.drew ?_ | refine below_drewN ?_ _ | (simp; done) | (simp; omega) | (simp [drew_size]; done) | (simp [drew_size]; omega) | omega⟩
set_option maxHeartbeats 1000000 in
set_option maxRecDepth 100000 in
theorem rbd_7pn (al ah bl bh : Int) (pal : -9223372036854775808 ≤ al) (qal : al ≤ 9223372036854775807) (pah : -9223372036854775808 ≤ ah) (qah : ah ≤ 9223372036854775807) (pbl : -9223372036854775808 ≤ bl) (qbl : bl ≤ 9223372036854775807) (pbh : -9223372036854775808 ≤ bh) (qbh : bh ≤ 9223372036854775807) (oa : al ≤ ah) (ob : bl ≤ bh) (ha : 0 ≤ al) (hb : bl < 0) (w : World) (hA : AllAt w) : Calls Tryd.prog 13 #[.int .i64 7, .agg #[.int .i64 al, .int .i64 ah], .agg #[.int .i64 bl, .int .i64 bh]] w fun e w' => e = .returned (.agg #[.int .i64 0, .int .i64 ah]) ∧ Below w.heap.size w w' := by
  obtain ⟨gz, g0, g1⟩ := hA
  have gz0 : 2 < w.heap.size := by omega
  have gz1 : 2 < w.heap.size + 1 := by omega
  have gz2 : 2 < w.heap.size + 1 + 1 := by omega
  have gz3 : 2 < w.heap.size + 1 + 1 + 1 := by omega
  have gz4 : 2 < w.heap.size + 1 + 1 + 1 + 1 := by omega
  have hx := and63 bl
  have hk0 : 0 ≤ bl % 64 := Int.emod_nonneg _ (by decide)
  have hk1 : bl % 64 < 64 := Int.emod_lt_of_pos _ (by decide)
  have da : decide (0 ≤ al) = true := by simp; omega
  have db : decide (0 ≤ bl) = false := by simp; omega
  go_enter Tryd.func13, Tryd.ntmps13
  go_wp2_with (first | (go_at_call 47; refine (radd_is _ _ ?_ ?_ ?_ ?_ _).mono ?_; omega; omega; omega; omega; rintro e w' ⟨rfl, rfl⟩) | (go_at_call 48; refine (rsub_is _ _ ?_ ?_ ?_ ?_ _).mono ?_; omega; omega; omega; omega; rintro e w' ⟨rfl, rfl⟩) | (go_at_call 50; refine (refFill_any _ ?_ _).mono ?_; omega; rintro e w' ⟨rfl, rfl⟩) | (go_at_call 52; refine (rdown_is _ _ ?_ ?_ ?_ ?_ _).mono ?_; omega; omega; omega; omega; rintro e w' ⟨rfl, rfl⟩) | (go_at_call 51; refine (ref_any _ _ _ ?_ ?_ ?_ ?_ _).mono ?_; omega; omega; omega; omega; rintro e w' ⟨rfl, rfl⟩))
  all_goals exact bodyPost_ret (v := .agg #[.int .i64 0, .int .i64 ah]) (by simp [results, Tryd.results13, go_sem]) rfl ⟨rfl, by repeat' first | exact Below.refl _ _ | refine Below.alloc ?_ ?_ _ | refine Below.setCell ?_ ?_ _ | refine Below.drew ?_ | refine below_drewN ?_ _ | (simp; done) | (simp; omega) | (simp [drew_size]; done) | (simp [drew_size]; omega) | omega⟩
set_option maxHeartbeats 1000000 in
set_option maxRecDepth 100000 in
theorem rbd_7np (al ah bl bh : Int) (pal : -9223372036854775808 ≤ al) (qal : al ≤ 9223372036854775807) (pah : -9223372036854775808 ≤ ah) (qah : ah ≤ 9223372036854775807) (pbl : -9223372036854775808 ≤ bl) (qbl : bl ≤ 9223372036854775807) (pbh : -9223372036854775808 ≤ bh) (qbh : bh ≤ 9223372036854775807) (oa : al ≤ ah) (ob : bl ≤ bh) (ha : al < 0) (hb : 0 ≤ bl) (w : World) (hA : AllAt w) : Calls Tryd.prog 13 #[.int .i64 7, .agg #[.int .i64 al, .int .i64 ah], .agg #[.int .i64 bl, .int .i64 bh]] w fun e w' => e = .returned (.agg #[.int .i64 0, .int .i64 (min 9223372036854775807 bh)]) ∧ Below w.heap.size w w' := by
  obtain ⟨gz, g0, g1⟩ := hA
  have gz0 : 2 < w.heap.size := by omega
  have gz1 : 2 < w.heap.size + 1 := by omega
  have gz2 : 2 < w.heap.size + 1 + 1 := by omega
  have gz3 : 2 < w.heap.size + 1 + 1 + 1 := by omega
  have gz4 : 2 < w.heap.size + 1 + 1 + 1 + 1 := by omega
  have hx := and63 bl
  have hk0 : 0 ≤ bl % 64 := Int.emod_nonneg _ (by decide)
  have hk1 : bl % 64 < 64 := Int.emod_lt_of_pos _ (by decide)
  have da : decide (0 ≤ al) = false := by simp; omega
  have db : decide (0 ≤ bl) = true := by simp; omega
  go_enter Tryd.func13, Tryd.ntmps13
  go_wp2_with (first | (go_at_call 47; refine (radd_is _ _ ?_ ?_ ?_ ?_ _).mono ?_; omega; omega; omega; omega; rintro e w' ⟨rfl, rfl⟩) | (go_at_call 48; refine (rsub_is _ _ ?_ ?_ ?_ ?_ _).mono ?_; omega; omega; omega; omega; rintro e w' ⟨rfl, rfl⟩) | (go_at_call 50; refine (refFill_any _ ?_ _).mono ?_; omega; rintro e w' ⟨rfl, rfl⟩) | (go_at_call 52; refine (rdown_is _ _ ?_ ?_ ?_ ?_ _).mono ?_; omega; omega; omega; omega; rintro e w' ⟨rfl, rfl⟩) | (go_at_call 51; refine (ref_any _ _ _ ?_ ?_ ?_ ?_ _).mono ?_; omega; omega; omega; omega; rintro e w' ⟨rfl, rfl⟩))
  all_goals exact bodyPost_ret (v := .agg #[.int .i64 0, .int .i64 (min 9223372036854775807 bh)]) (by simp [results, Tryd.results13, go_sem]) rfl ⟨rfl, by repeat' first | exact Below.refl _ _ | refine Below.alloc ?_ ?_ _ | refine Below.setCell ?_ ?_ _ | refine Below.drew ?_ | refine below_drewN ?_ _ | (simp; done) | (simp; omega) | (simp [drew_size]; done) | (simp [drew_size]; omega) | omega⟩
set_option maxHeartbeats 1000000 in
set_option maxRecDepth 100000 in
theorem rbd_7nn (al ah bl bh : Int) (pal : -9223372036854775808 ≤ al) (qal : al ≤ 9223372036854775807) (pah : -9223372036854775808 ≤ ah) (qah : ah ≤ 9223372036854775807) (pbl : -9223372036854775808 ≤ bl) (qbl : bl ≤ 9223372036854775807) (pbh : -9223372036854775808 ≤ bh) (qbh : bh ≤ 9223372036854775807) (oa : al ≤ ah) (ob : bl ≤ bh) (ha : al < 0) (hb : bl < 0) (w : World) (hA : AllAt w) : Calls Tryd.prog 13 #[.int .i64 7, .agg #[.int .i64 al, .int .i64 ah], .agg #[.int .i64 bl, .int .i64 bh]] w fun e w' => e = .returned (.agg #[.int .i64 (-9223372036854775808), .int .i64 9223372036854775807]) ∧ Below w.heap.size w w' := by
  obtain ⟨gz, g0, g1⟩ := hA
  have gz0 : 2 < w.heap.size := by omega
  have gz1 : 2 < w.heap.size + 1 := by omega
  have gz2 : 2 < w.heap.size + 1 + 1 := by omega
  have gz3 : 2 < w.heap.size + 1 + 1 + 1 := by omega
  have gz4 : 2 < w.heap.size + 1 + 1 + 1 + 1 := by omega
  have hx := and63 bl
  have hk0 : 0 ≤ bl % 64 := Int.emod_nonneg _ (by decide)
  have hk1 : bl % 64 < 64 := Int.emod_lt_of_pos _ (by decide)
  have da : decide (0 ≤ al) = false := by simp; omega
  have db : decide (0 ≤ bl) = false := by simp; omega
  go_enter Tryd.func13, Tryd.ntmps13
  go_wp2_with (first | (go_at_call 47; refine (radd_is _ _ ?_ ?_ ?_ ?_ _).mono ?_; omega; omega; omega; omega; rintro e w' ⟨rfl, rfl⟩) | (go_at_call 48; refine (rsub_is _ _ ?_ ?_ ?_ ?_ _).mono ?_; omega; omega; omega; omega; rintro e w' ⟨rfl, rfl⟩) | (go_at_call 50; refine (refFill_any _ ?_ _).mono ?_; omega; rintro e w' ⟨rfl, rfl⟩) | (go_at_call 52; refine (rdown_is _ _ ?_ ?_ ?_ ?_ _).mono ?_; omega; omega; omega; omega; rintro e w' ⟨rfl, rfl⟩) | (go_at_call 51; refine (ref_any _ _ _ ?_ ?_ ?_ ?_ _).mono ?_; omega; omega; omega; omega; rintro e w' ⟨rfl, rfl⟩))
  all_goals exact bodyPost_ret (v := .agg #[.int .i64 (-9223372036854775808), .int .i64 9223372036854775807]) (by simp [results, Tryd.results13, go_sem]) rfl ⟨rfl, by repeat' first | exact Below.refl _ _ | refine Below.alloc ?_ ?_ _ | refine Below.setCell ?_ ?_ _ | refine Below.drew ?_ | refine below_drewN ?_ _ | (simp; done) | (simp; omega) | (simp [drew_size]; done) | (simp [drew_size]; omega) | omega⟩
set_option maxHeartbeats 1000000 in
set_option maxRecDepth 100000 in
theorem rbd_13ppy (al ah bl bh : Int) (pal : -9223372036854775808 ≤ al) (qal : al ≤ 9223372036854775807) (pah : -9223372036854775808 ≤ ah) (qah : ah ≤ 9223372036854775807) (pbl : -9223372036854775808 ≤ bl) (qbl : bl ≤ 9223372036854775807) (pbh : -9223372036854775808 ≤ bh) (qbh : bh ≤ 9223372036854775807) (oa : al ≤ ah) (ob : bl ≤ bh) (ha : 0 ≤ al) (hb : 0 ≤ bl) (hl : -9223372036854775808 < al) (w : World) (hA : AllAt w) : Calls Tryd.prog 13 #[.int .i64 13, .agg #[.int .i64 al, .int .i64 ah], .agg #[.int .i64 bl, .int .i64 bh]] w fun e w' => e = .returned (.agg #[.int .i64 (-ah), .int .i64 (-al)]) ∧ Below w.heap.size w w' := by
  obtain ⟨gz, g0, g1⟩ := hA
  have gz0 : 2 < w.heap.size := by omega
  have gz1 : 2 < w.heap.size + 1 := by omega
  have gz2 : 2 < w.heap.size + 1 + 1 := by omega
  have gz3 : 2 < w.heap.size + 1 + 1 + 1 := by omega
  have gz4 : 2 < w.heap.size + 1 + 1 + 1 + 1 := by omega
  have hx := and63 bl
  have hk0 : 0 ≤ bl % 64 := Int.emod_nonneg _ (by decide)
  have hk1 : bl % 64 < 64 := Int.emod_lt_of_pos _ (by decide)
  have da : decide (0 ≤ al) = true := by simp; omega
  have db : decide (0 ≤ bl) = true := by simp; omega
  go_enter Tryd.func13, Tryd.ntmps13
  go_wp2_with (first | (go_at_call 47; refine (radd_is _ _ ?_ ?_ ?_ ?_ _).mono ?_; omega; omega; omega; omega; rintro e w' ⟨rfl, rfl⟩) | (go_at_call 48; refine (rsub_is _ _ ?_ ?_ ?_ ?_ _).mono ?_; omega; omega; omega; omega; rintro e w' ⟨rfl, rfl⟩) | (go_at_call 50; refine (refFill_any _ ?_ _).mono ?_; omega; rintro e w' ⟨rfl, rfl⟩) | (go_at_call 52; refine (rdown_is _ _ ?_ ?_ ?_ ?_ _).mono ?_; omega; omega; omega; omega; rintro e w' ⟨rfl, rfl⟩) | (go_at_call 51; refine (ref_any _ _ _ ?_ ?_ ?_ ?_ _).mono ?_; omega; omega; omega; omega; rintro e w' ⟨rfl, rfl⟩))
  all_goals exact bodyPost_ret (v := .agg #[.int .i64 (-ah), .int .i64 (-al)]) (by simp [results, Tryd.results13, go_sem]) rfl ⟨rfl, by repeat' first | exact Below.refl _ _ | refine Below.alloc ?_ ?_ _ | refine Below.setCell ?_ ?_ _ | refine Below.drew ?_ | refine below_drewN ?_ _ | (simp; done) | (simp; omega) | (simp [drew_size]; done) | (simp [drew_size]; omega) | omega⟩
set_option maxHeartbeats 1000000 in
set_option maxRecDepth 100000 in
theorem rbd_13pny (al ah bl bh : Int) (pal : -9223372036854775808 ≤ al) (qal : al ≤ 9223372036854775807) (pah : -9223372036854775808 ≤ ah) (qah : ah ≤ 9223372036854775807) (pbl : -9223372036854775808 ≤ bl) (qbl : bl ≤ 9223372036854775807) (pbh : -9223372036854775808 ≤ bh) (qbh : bh ≤ 9223372036854775807) (oa : al ≤ ah) (ob : bl ≤ bh) (ha : 0 ≤ al) (hb : bl < 0) (hl : -9223372036854775808 < al) (w : World) (hA : AllAt w) : Calls Tryd.prog 13 #[.int .i64 13, .agg #[.int .i64 al, .int .i64 ah], .agg #[.int .i64 bl, .int .i64 bh]] w fun e w' => e = .returned (.agg #[.int .i64 (-ah), .int .i64 (-al)]) ∧ Below w.heap.size w w' := by
  obtain ⟨gz, g0, g1⟩ := hA
  have gz0 : 2 < w.heap.size := by omega
  have gz1 : 2 < w.heap.size + 1 := by omega
  have gz2 : 2 < w.heap.size + 1 + 1 := by omega
  have gz3 : 2 < w.heap.size + 1 + 1 + 1 := by omega
  have gz4 : 2 < w.heap.size + 1 + 1 + 1 + 1 := by omega
  have hx := and63 bl
  have hk0 : 0 ≤ bl % 64 := Int.emod_nonneg _ (by decide)
  have hk1 : bl % 64 < 64 := Int.emod_lt_of_pos _ (by decide)
  have da : decide (0 ≤ al) = true := by simp; omega
  have db : decide (0 ≤ bl) = false := by simp; omega
  go_enter Tryd.func13, Tryd.ntmps13
  go_wp2_with (first | (go_at_call 47; refine (radd_is _ _ ?_ ?_ ?_ ?_ _).mono ?_; omega; omega; omega; omega; rintro e w' ⟨rfl, rfl⟩) | (go_at_call 48; refine (rsub_is _ _ ?_ ?_ ?_ ?_ _).mono ?_; omega; omega; omega; omega; rintro e w' ⟨rfl, rfl⟩) | (go_at_call 50; refine (refFill_any _ ?_ _).mono ?_; omega; rintro e w' ⟨rfl, rfl⟩) | (go_at_call 52; refine (rdown_is _ _ ?_ ?_ ?_ ?_ _).mono ?_; omega; omega; omega; omega; rintro e w' ⟨rfl, rfl⟩) | (go_at_call 51; refine (ref_any _ _ _ ?_ ?_ ?_ ?_ _).mono ?_; omega; omega; omega; omega; rintro e w' ⟨rfl, rfl⟩))
  all_goals exact bodyPost_ret (v := .agg #[.int .i64 (-ah), .int .i64 (-al)]) (by simp [results, Tryd.results13, go_sem]) rfl ⟨rfl, by repeat' first | exact Below.refl _ _ | refine Below.alloc ?_ ?_ _ | refine Below.setCell ?_ ?_ _ | refine Below.drew ?_ | refine below_drewN ?_ _ | (simp; done) | (simp; omega) | (simp [drew_size]; done) | (simp [drew_size]; omega) | omega⟩
set_option maxHeartbeats 1000000 in
set_option maxRecDepth 100000 in
theorem rbd_13ny (al ah bl bh : Int) (pal : -9223372036854775808 ≤ al) (qal : al ≤ 9223372036854775807) (pah : -9223372036854775808 ≤ ah) (qah : ah ≤ 9223372036854775807) (pbl : -9223372036854775808 ≤ bl) (qbl : bl ≤ 9223372036854775807) (pbh : -9223372036854775808 ≤ bh) (qbh : bh ≤ 9223372036854775807) (oa : al ≤ ah) (ob : bl ≤ bh) (ha : al < 0) (hl : -9223372036854775808 < al) (w : World) (hA : AllAt w) : Calls Tryd.prog 13 #[.int .i64 13, .agg #[.int .i64 al, .int .i64 ah], .agg #[.int .i64 bl, .int .i64 bh]] w fun e w' => e = .returned (.agg #[.int .i64 (-ah), .int .i64 (-al)]) ∧ Below w.heap.size w w' := by
  obtain ⟨gz, g0, g1⟩ := hA
  have gz0 : 2 < w.heap.size := by omega
  have gz1 : 2 < w.heap.size + 1 := by omega
  have gz2 : 2 < w.heap.size + 1 + 1 := by omega
  have gz3 : 2 < w.heap.size + 1 + 1 + 1 := by omega
  have gz4 : 2 < w.heap.size + 1 + 1 + 1 + 1 := by omega
  have hx := and63 bl
  have hk0 : 0 ≤ bl % 64 := Int.emod_nonneg _ (by decide)
  have hk1 : bl % 64 < 64 := Int.emod_lt_of_pos _ (by decide)
  have da : decide (0 ≤ al) = false := by simp; omega
  go_enter Tryd.func13, Tryd.ntmps13
  go_wp2_with (first | (go_at_call 47; refine (radd_is _ _ ?_ ?_ ?_ ?_ _).mono ?_; omega; omega; omega; omega; rintro e w' ⟨rfl, rfl⟩) | (go_at_call 48; refine (rsub_is _ _ ?_ ?_ ?_ ?_ _).mono ?_; omega; omega; omega; omega; rintro e w' ⟨rfl, rfl⟩) | (go_at_call 50; refine (refFill_any _ ?_ _).mono ?_; omega; rintro e w' ⟨rfl, rfl⟩) | (go_at_call 52; refine (rdown_is _ _ ?_ ?_ ?_ ?_ _).mono ?_; omega; omega; omega; omega; rintro e w' ⟨rfl, rfl⟩) | (go_at_call 51; refine (ref_any _ _ _ ?_ ?_ ?_ ?_ _).mono ?_; omega; omega; omega; omega; rintro e w' ⟨rfl, rfl⟩))
  all_goals exact bodyPost_ret (v := .agg #[.int .i64 (-ah), .int .i64 (-al)]) (by simp [results, Tryd.results13, go_sem]) rfl ⟨rfl, by repeat' first | exact Below.refl _ _ | refine Below.alloc ?_ ?_ _ | refine Below.setCell ?_ ?_ _ | refine Below.drew ?_ | refine below_drewN ?_ _ | (simp; done) | (simp; omega) | (simp [drew_size]; done) | (simp [drew_size]; omega) | omega⟩
set_option maxHeartbeats 1000000 in
set_option maxRecDepth 100000 in
theorem rbd_13nx (al ah bl bh : Int) (pal : -9223372036854775808 ≤ al) (qal : al ≤ 9223372036854775807) (pah : -9223372036854775808 ≤ ah) (qah : ah ≤ 9223372036854775807) (pbl : -9223372036854775808 ≤ bl) (qbl : bl ≤ 9223372036854775807) (pbh : -9223372036854775808 ≤ bh) (qbh : bh ≤ 9223372036854775807) (oa : al ≤ ah) (ob : bl ≤ bh) (ha : al < 0) (hl : al ≤ -9223372036854775808) (w : World) (hA : AllAt w) : Calls Tryd.prog 13 #[.int .i64 13, .agg #[.int .i64 al, .int .i64 ah], .agg #[.int .i64 bl, .int .i64 bh]] w fun e w' => e = .returned (.agg #[.int .i64 (-9223372036854775808), .int .i64 9223372036854775807]) ∧ Below w.heap.size w w' := by
  obtain ⟨gz, g0, g1⟩ := hA
  have gz0 : 2 < w.heap.size := by omega
  have gz1 : 2 < w.heap.size + 1 := by omega
  have gz2 : 2 < w.heap.size + 1 + 1 := by omega
  have gz3 : 2 < w.heap.size + 1 + 1 + 1 := by omega
  have gz4 : 2 < w.heap.size + 1 + 1 + 1 + 1 := by omega
  have hx := and63 bl
  have hk0 : 0 ≤ bl % 64 := Int.emod_nonneg _ (by decide)
  have hk1 : bl % 64 < 64 := Int.emod_lt_of_pos _ (by decide)
  have da : decide (0 ≤ al) = false := by simp; omega
  have dl : decide (-9223372036854775808 < al) = false := by simp; omega
  go_enter Tryd.func13, Tryd.ntmps13
  go_wp2_with (first | (go_at_call 47; refine (radd_is _ _ ?_ ?_ ?_ ?_ _).mono ?_; omega; omega; omega; omega; rintro e w' ⟨rfl, rfl⟩) | (go_at_call 48; refine (rsub_is _ _ ?_ ?_ ?_ ?_ _).mono ?_; omega; omega; omega; omega; rintro e w' ⟨rfl, rfl⟩) | (go_at_call 50; refine (refFill_any _ ?_ _).mono ?_; omega; rintro e w' ⟨rfl, rfl⟩) | (go_at_call 52; refine (rdown_is _ _ ?_ ?_ ?_ ?_ _).mono ?_; omega; omega; omega; omega; rintro e w' ⟨rfl, rfl⟩) | (go_at_call 51; refine (ref_any _ _ _ ?_ ?_ ?_ ?_ _).mono ?_; omega; omega; omega; omega; rintro e w' ⟨rfl, rfl⟩))
  all_goals exact bodyPost_ret (v := .agg #[.int .i64 (-9223372036854775808), .int .i64 9223372036854775807]) (by simp [results, Tryd.results13, go_sem]) rfl ⟨rfl, by repeat' first | exact Below.refl _ _ | refine Below.alloc ?_ ?_ _ | refine Below.setCell ?_ ?_ _ | refine Below.drew ?_ | refine below_drewN ?_ _ | (simp; done) | (simp; omega) | (simp [drew_size]; done) | (simp [drew_size]; omega) | omega⟩
end Go.Proofs.YtllphbfhfmieaaaDoor
