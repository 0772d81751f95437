/-
  What the document's own BoundDoes returns, at codes 10 to 12, and those that there are not: the same function on integers; the world below is as it was. Conditions: the ends are numbers of 64 bits, the low end not above the high one; the document's variable of all numbers holds them.
-/
import Derived.Test.YtllphbfhfmieaaaDoorBoundRefDo
import Derived.Deep.RegionHeld3
import Derived.BigQuiet
namespace Go.Proofs.YtllphbfhfmieaaaDoor
open Go.ChangeShapes Go.WideShapes Go.ChangeAt Go.RowKit
set_option linter.unusedVariables false
theorem doesV_10_bd (a b : Int) : -9223372036854775808 ≤ doesV 10 a b ∧ doesV 10 a b ≤ 9223372036854775807 := by rw [doesV_10]; exact wrap64_bd _

set_option maxHeartbeats 1000000 in
set_option maxRecDepth 100000 in
theorem rbd_10ppy (al ah bl bh : Int) (pal : -9223372036854775808 ≤ al) (qal : al ≤ 9223372036854775807) (pah : -9223372036854775808 ≤ ah) (qah : ah ≤ 9223372036854775807) (pbl : -9223372036854775808 ≤ bl) (qbl : bl ≤ 9223372036854775807) (pbh : -9223372036854775808 ≤ bh) (qbh : bh ≤ 9223372036854775807) (oa : al ≤ ah) (ob : bl ≤ bh) (ha : 0 ≤ al) (hb : 0 ≤ bl) (he : bl = bh) (f1 : fits (al * 2 ^ sixBits (bl % 64)) = true) (f2 : fits (ah * 2 ^ sixBits (bl % 64)) = true) (w : World) (hA : AllAt w) : Calls Tryd.prog 13 #[.int .i64 10, .agg #[.int .i64 al, .int .i64 ah], .agg #[.int .i64 bl, .int .i64 bh]] w fun e w' => e = .returned (.agg #[.int .i64 (doesV 10 al (bl % 64)), .int .i64 (doesV 10 ah (bl % 64))]) ∧ Below w.heap.size w w' := by
  obtain ⟨gz, g0, g1⟩ := hA
  have gz0 : 2 < w.heap.size := by omega
  have gz1 : 2 < w.heap.size + 1 := by omega
  have gz2 : 2 < w.heap.size + 1 + 1 := by omega
  have gz3 : 2 < w.heap.size + 1 + 1 + 1 := by omega
  have gz4 : 2 < w.heap.size + 1 + 1 + 1 + 1 := by omega
  have hx := and63 bl
  have hk0 : 0 ≤ bl % 64 := Int.emod_nonneg _ (by decide)
  have hk1 : bl % 64 < 64 := Int.emod_lt_of_pos _ (by decide)
  have da : decide (0 ≤ al) = true := by simp; omega
  have db : decide (0 ≤ bl) = true := by simp; omega
  have kn : (bl == bh) = true := by simp; omega
  clear he
  have b1 : (doesV 10 al (bl % 64) / 2 ^ sixBits (bl % 64) == al) = true := by rw [doesV_10, back_fits (sixBits_lt _)]; exact f1
  have b2 : (doesV 10 ah (bl % 64) / 2 ^ sixBits (bl % 64) == ah) = true := by rw [doesV_10, back_fits (sixBits_lt _)]; exact f2
  have z1 := doesV_10_bd al (bl % 64)
  have z2 := doesV_10_bd ah (bl % 64)
  obtain ⟨z1, z1b⟩ := z1
  obtain ⟨z2, z2b⟩ := z2
  go_enter Tryd.func13, Tryd.ntmps13
  go_wp2_with (first | (go_at_call 47; refine (radd_is _ _ ?_ ?_ ?_ ?_ _).mono ?_; omega; omega; omega; omega; rintro e w' ⟨rfl, rfl⟩) | (go_at_call 48; refine (rsub_is _ _ ?_ ?_ ?_ ?_ _).mono ?_; omega; omega; omega; omega; rintro e w' ⟨rfl, rfl⟩) | (go_at_call 50; refine (refFill_any _ ?_ _).mono ?_; omega; rintro e w' ⟨rfl, rfl⟩) | (go_at_call 52; refine (rdown_is _ _ ?_ ?_ ?_ ?_ _).mono ?_; omega; omega; omega; omega; rintro e w' ⟨rfl, rfl⟩) | (go_at_call 51; refine (ref_any _ _ _ ?_ ?_ ?_ ?_ _).mono ?_; omega; omega; omega; omega; rintro e w' ⟨rfl, rfl⟩))
  go_region_held3 (fun w' => w'.cell? ⟨w.heap.size, 0, none⟩ = some (.int .i64 al) ∧ w'.cell? ⟨w.heap.size, 1, none⟩ = some (.int .i64 ah) ∧ w'.cell? ⟨w.heap.size + 1, 0, none⟩ = some (.int .i64 bl) ∧ w'.cell? ⟨w.heap.size + 1, 1, none⟩ = some (.int .i64 bh)) (first | (simp [go_sem]; done) | (simp [go_sem, *]; done) | go_keep) (first | (go_at_call 47; refine (radd_is _ _ ?_ ?_ ?_ ?_ _).mono ?_; omega; omega; omega; omega; rintro e w' ⟨rfl, rfl⟩) | (go_at_call 48; refine (rsub_is _ _ ?_ ?_ ?_ ?_ _).mono ?_; omega; omega; omega; omega; rintro e w' ⟨rfl, rfl⟩) | (go_at_call 50; refine (refFill_any _ ?_ _).mono ?_; omega; rintro e w' ⟨rfl, rfl⟩) | (go_at_call 52; refine (rdown_is _ _ ?_ ?_ ?_ ?_ _).mono ?_; omega; omega; omega; omega; rintro e w' ⟨rfl, rfl⟩) | (go_at_call 51; refine (ref_any _ _ _ ?_ ?_ ?_ ?_ _).mono ?_; omega; omega; omega; omega; rintro e w' ⟨rfl, rfl⟩))
  all_goals go_wp2_with (first | (go_at_call 47; refine (radd_is _ _ ?_ ?_ ?_ ?_ _).mono ?_; omega; omega; omega; omega; rintro e w' ⟨rfl, rfl⟩) | (go_at_call 48; refine (rsub_is _ _ ?_ ?_ ?_ ?_ _).mono ?_; omega; omega; omega; omega; rintro e w' ⟨rfl, rfl⟩) | (go_at_call 50; refine (refFill_any _ ?_ _).mono ?_; omega; rintro e w' ⟨rfl, rfl⟩) | (go_at_call 52; refine (rdown_is _ _ ?_ ?_ ?_ ?_ _).mono ?_; omega; omega; omega; omega; rintro e w' ⟨rfl, rfl⟩) | (go_at_call 51; refine (ref_any _ _ _ ?_ ?_ ?_ ?_ _).mono ?_; omega; omega; omega; omega; rintro e w' ⟨rfl, rfl⟩))
  all_goals go_region_held3 (fun w' => w'.cell? ⟨w.heap.size, 0, none⟩ = some (.int .i64 al) ∧ w'.cell? ⟨w.heap.size, 1, none⟩ = some (.int .i64 ah) ∧ w'.cell? ⟨w.heap.size + 1, 0, none⟩ = some (.int .i64 bl) ∧ w'.cell? ⟨w.heap.size + 1, 1, none⟩ = some (.int .i64 bh)) (first | (simp [go_sem]; done) | (simp [go_sem, *]; done) | go_keep) (first | (go_at_call 47; refine (radd_is _ _ ?_ ?_ ?_ ?_ _).mono ?_; omega; omega; omega; omega; rintro e w' ⟨rfl, rfl⟩) | (go_at_call 48; refine (rsub_is _ _ ?_ ?_ ?_ ?_ _).mono ?_; omega; omega; omega; omega; rintro e w' ⟨rfl, rfl⟩) | (go_at_call 50; refine (refFill_any _ ?_ _).mono ?_; omega; rintro e w' ⟨rfl, rfl⟩) | (go_at_call 52; refine (rdown_is _ _ ?_ ?_ ?_ ?_ _).mono ?_; omega; omega; omega; omega; rintro e w' ⟨rfl, rfl⟩) | (go_at_call 51; refine (ref_any _ _ _ ?_ ?_ ?_ ?_ _).mono ?_; omega; omega; omega; omega; rintro e w' ⟨rfl, rfl⟩))
  all_goals go_wp2_with (first | (go_at_call 47; refine (radd_is _ _ ?_ ?_ ?_ ?_ _).mono ?_; omega; omega; omega; omega; rintro e w' ⟨rfl, rfl⟩) | (go_at_call 48; refine (rsub_is _ _ ?_ ?_ ?_ ?_ _).mono ?_; omega; omega; omega; omega; rintro e w' ⟨rfl, rfl⟩) | (go_at_call 50; refine (refFill_any _ ?_ _).mono ?_; omega; rintro e w' ⟨rfl, rfl⟩) | (go_at_call 52; refine (rdown_is _ _ ?_ ?_ ?_ ?_ _).mono ?_; omega; omega; omega; omega; rintro e w' ⟨rfl, rfl⟩) | (go_at_call 51; refine (ref_any _ _ _ ?_ ?_ ?_ ?_ _).mono ?_; omega; omega; omega; omega; rintro e w' ⟨rfl, rfl⟩))
  all_goals exact bodyPost_ret (v := .agg #[.int .i64 (doesV 10 al (bl % 64)), .int .i64 (doesV 10 ah (bl % 64))]) (by simp [results, Tryd.results13, go_sem]) rfl ⟨rfl, by repeat' first | exact Below.refl _ _ | refine Below.alloc ?_ ?_ _ | refine Below.setCell ?_ ?_ _ | refine Below.drew ?_ | refine below_drewN ?_ _ | (simp; done) | (simp; omega) | (simp [drew_size]; done) | (simp [drew_size]; omega) | omega⟩
set_option maxHeartbeats 1000000 in
set_option maxRecDepth 100000 in
theorem rbd_10pny (al ah bl bh : Int) (pal : -9223372036854775808 ≤ al) (qal : al ≤ 9223372036854775807) (pah : -9223372036854775808 ≤ ah) (qah : ah ≤ 9223372036854775807) (pbl : -9223372036854775808 ≤ bl) (qbl : bl ≤ 9223372036854775807) (pbh : -9223372036854775808 ≤ bh) (qbh : bh ≤ 9223372036854775807) (oa : al ≤ ah) (ob : bl ≤ bh) (ha : 0 ≤ al) (hb : bl < 0) (he : bl = bh) (f1 : fits (al * 2 ^ sixBits (bl % 64)) = true) (f2 : fits (ah * 2 ^ sixBits (bl % 64)) = true) (w : World) (hA : AllAt w) : Calls Tryd.prog 13 #[.int .i64 10, .agg #[.int .i64 al, .int .i64 ah], .agg #[.int .i64 bl, .int .i64 bh]] w fun e w' => e = .returned (.agg #[.int .i64 (doesV 10 al (bl % 64)), .int .i64 (doesV 10 ah (bl % 64))]) ∧ Below w.heap.size w w' := by
  obtain ⟨gz, g0, g1⟩ := hA
  have gz0 : 2 < w.heap.size := by omega
  have gz1 : 2 < w.heap.size + 1 := by omega
  have gz2 : 2 < w.heap.size + 1 + 1 := by omega
  have gz3 : 2 < w.heap.size + 1 + 1 + 1 := by omega
  have gz4 : 2 < w.heap.size + 1 + 1 + 1 + 1 := by omega
  have hx := and63 bl
  have hk0 : 0 ≤ bl % 64 := Int.emod_nonneg _ (by decide)
  have hk1 : bl % 64 < 64 := Int.emod_lt_of_pos _ (by decide)
  have da : decide (0 ≤ al) = true := by simp; omega
  have db : decide (0 ≤ bl) = false := by simp; omega
  have kn : (bl == bh) = true := by simp; omega
  clear he
  have b1 : (doesV 10 al (bl % 64) / 2 ^ sixBits (bl % 64) == al) = true := by rw [doesV_10, back_fits (sixBits_lt _)]; exact f1
  have b2 : (doesV 10 ah (bl % 64) / 2 ^ sixBits (bl % 64) == ah) = true := by rw [doesV_10, back_fits (sixBits_lt _)]; exact f2
  have z1 := doesV_10_bd al (bl % 64)
  have z2 := doesV_10_bd ah (bl % 64)
  obtain ⟨z1, z1b⟩ := z1
  obtain ⟨z2, z2b⟩ := z2
  go_enter Tryd.func13, Tryd.ntmps13
  go_wp2_with (first | (go_at_call 47; refine (radd_is _ _ ?_ ?_ ?_ ?_ _).mono ?_; omega; omega; omega; omega; rintro e w' ⟨rfl, rfl⟩) | (go_at_call 48; refine (rsub_is _ _ ?_ ?_ ?_ ?_ _).mono ?_; omega; omega; omega; omega; rintro e w' ⟨rfl, rfl⟩) | (go_at_call 50; refine (refFill_any _ ?_ _).mono ?_; omega; rintro e w' ⟨rfl, rfl⟩) | (go_at_call 52; refine (rdown_is _ _ ?_ ?_ ?_ ?_ _).mono ?_; omega; omega; omega; omega; rintro e w' ⟨rfl, rfl⟩) | (go_at_call 51; refine (ref_any _ _ _ ?_ ?_ ?_ ?_ _).mono ?_; omega; omega; omega; omega; rintro e w' ⟨rfl, rfl⟩))
  go_region_held3 (fun w' => w'.cell? ⟨w.heap.size, 0, none⟩ = some (.int .i64 al) ∧ w'.cell? ⟨w.heap.size, 1, none⟩ = some (.int .i64 ah) ∧ w'.cell? ⟨w.heap.size + 1, 0, none⟩ = some (.int .i64 bl) ∧ w'.cell? ⟨w.heap.size + 1, 1, none⟩ = some (.int .i64 bh)) (first | (simp [go_sem]; done) | (simp [go_sem, *]; done) | go_keep) (first | (go_at_call 47; refine (radd_is _ _ ?_ ?_ ?_ ?_ _).mono ?_; omega; omega; omega; omega; rintro e w' ⟨rfl, rfl⟩) | (go_at_call 48; refine (rsub_is _ _ ?_ ?_ ?_ ?_ _).mono ?_; omega; omega; omega; omega; rintro e w' ⟨rfl, rfl⟩) | (go_at_call 50; refine (refFill_any _ ?_ _).mono ?_; omega; rintro e w' ⟨rfl, rfl⟩) | (go_at_call 52; refine (rdown_is _ _ ?_ ?_ ?_ ?_ _).mono ?_; omega; omega; omega; omega; rintro e w' ⟨rfl, rfl⟩) | (go_at_call 51; refine (ref_any _ _ _ ?_ ?_ ?_ ?_ _).mono ?_; omega; omega; omega; omega; rintro e w' ⟨rfl, rfl⟩))
  all_goals go_wp2_with (first | (go_at_call 47; refine (radd_is _ _ ?_ ?_ ?_ ?_ _).mono ?_; omega; omega; omega; omega; rintro e w' ⟨rfl, rfl⟩) | (go_at_call 48; refine (rsub_is _ _ ?_ ?_ ?_ ?_ _).mono ?_; omega; omega; omega; omega; rintro e w' ⟨rfl, rfl⟩) | (go_at_call 50; refine (refFill_any _ ?_ _).mono ?_; omega; rintro e w' ⟨rfl, rfl⟩) | (go_at_call 52; refine (rdown_is _ _ ?_ ?_ ?_ ?_ _).mono ?_; omega; omega; omega; omega; rintro e w' ⟨rfl, rfl⟩) | (go_at_call 51; refine (ref_any _ _ _ ?_ ?_ ?_ ?_ _).mono ?_; omega; omega; omega; omega; rintro e w' ⟨rfl, rfl⟩))
  all_goals go_region_held3 (fun w' => w'.cell? ⟨w.heap.size, 0, none⟩ = some (.int .i64 al) ∧ w'.cell? ⟨w.heap.size, 1, none⟩ = some (.int .i64 ah) ∧ w'.cell? ⟨w.heap.size + 1, 0, none⟩ = some (.int .i64 bl) ∧ w'.cell? ⟨w.heap.size + 1, 1, none⟩ = some (.int .i64 bh)) (first | (simp [go_sem]; done) | (simp [go_sem, *]; done) | go_keep) (first | (go_at_call 47; refine (radd_is _ _ ?_ ?_ ?_ ?_ _).mono ?_; omega; omega; omega; omega; rintro e w' ⟨rfl, rfl⟩) | (go_at_call 48; refine (rsub_is _ _ ?_ ?_ ?_ ?_ _).mono ?_; omega; omega; omega; omega; rintro e w' ⟨rfl, rfl⟩) | (go_at_call 50; refine (refFill_any _ ?_ _).mono ?_; omega; rintro e w' ⟨rfl, rfl⟩) | (go_at_call 52; refine (rdown_is _ _ ?_ ?_ ?_ ?_ _).mono ?_; omega; omega; omega; omega; rintro e w' ⟨rfl, rfl⟩) | (go_at_call 51; refine (ref_any _ _ _ ?_ ?_ ?_ ?_ _).mono ?_; omega; omega; omega; omega; rintro e w' ⟨rfl, rfl⟩))
  all_goals go_wp2_with (first | (go_at_call 47; refine (radd_is _ _ ?_ ?_ ?_ ?_ _).mono ?_; omega; omega; omega; omega; rintro e w' ⟨rfl, rfl⟩) | (go_at_call 48; refine (rsub_is _ _ ?_ ?_ ?_ ?_ _).mono ?_; omega; omega; omega; omega; rintro e w' ⟨rfl, rfl⟩) | (go_at_call 50; refine (refFill_any _ ?_ _).mono ?_; omega; rintro e w' ⟨rfl, rfl⟩) | (go_at_call 52; refine (rdown_is _ _ ?_ ?_ ?_ ?_ _).mono ?_; omega; omega; omega; omega; rintro e w' ⟨rfl, rfl⟩) | (go_at_call 51; refine (ref_any _ _ _ ?_ ?_ ?_ ?_ _).mono ?_; omega; omega; omega; omega; rintro e w' ⟨rfl, rfl⟩))
  all_goals exact bodyPost_ret (v := .agg #[.int .i64 (doesV 10 al (bl % 64)), .int .i64 (doesV 10 ah (bl % 64))]) (by simp [results, Tryd.results13, go_sem]) rfl ⟨rfl, by repeat' first | exact Below.refl _ _ | refine Below.alloc ?_ ?_ _ | refine Below.setCell ?_ ?_ _ | refine Below.drew ?_ | refine below_drewN ?_ _ | (simp; done) | (simp; omega) | (simp [drew_size]; done) | (simp [drew_size]; omega) | omega⟩
set_option maxHeartbeats 1000000 in
set_option maxRecDepth 100000 in
theorem rbd_10ny (al ah bl bh : Int) (pal : -9223372036854775808 ≤ al) (qal : al ≤ 9223372036854775807) (pah : -9223372036854775808 ≤ ah) (qah : ah ≤ 9223372036854775807) (pbl : -9223372036854775808 ≤ bl) (qbl : bl ≤ 9223372036854775807) (pbh : -9223372036854775808 ≤ bh) (qbh : bh ≤ 9223372036854775807) (oa : al ≤ ah) (ob : bl ≤ bh) (ha : al < 0) (he : bl = bh) (f1 : fits (al * 2 ^ sixBits (bl % 64)) = true) (f2 : fits (ah * 2 ^ sixBits (bl % 64)) = true) (w : World) (hA : AllAt w) : Calls Tryd.prog 13 #[.int .i64 10, .agg #[.int .i64 al, .int .i64 ah], .agg #[.int .i64 bl, .int .i64 bh]] w fun e w' => e = .returned (.agg #[.int .i64 (doesV 10 al (bl % 64)), .int .i64 (doesV 10 ah (bl % 64))]) ∧ Below w.heap.size w w' := by
  obtain ⟨gz, g0, g1⟩ := hA
  have gz0 : 2 < w.heap.size := by omega
  have gz1 : 2 < w.heap.size + 1 := by omega
  have gz2 : 2 < w.heap.size + 1 + 1 := by omega
  have gz3 : 2 < w.heap.size + 1 + 1 + 1 := by omega
  have gz4 : 2 < w.heap.size + 1 + 1 + 1 + 1 := by omega
  have hx := and63 bl
  have hk0 : 0 ≤ bl % 64 := Int.emod_nonneg _ (by decide)
  have hk1 : bl % 64 < 64 := Int.emod_lt_of_pos _ (by decide)
  have da : decide (0 ≤ al) = false := by simp; omega
  have kn : (bl == bh) = true := by simp; omega
  clear he
  have b1 : (doesV 10 al (bl % 64) / 2 ^ sixBits (bl % 64) == al) = true := by rw [doesV_10, back_fits (sixBits_lt _)]; exact f1
  have b2 : (doesV 10 ah (bl % 64) / 2 ^ sixBits (bl % 64) == ah) = true := by rw [doesV_10, back_fits (sixBits_lt _)]; exact f2
  have z1 := doesV_10_bd al (bl % 64)
  have z2 := doesV_10_bd ah (bl % 64)
  obtain ⟨z1, z1b⟩ := z1
  obtain ⟨z2, z2b⟩ := z2
  go_enter Tryd.func13, Tryd.ntmps13
  go_wp2_with (first | (go_at_call 47; refine (radd_is _ _ ?_ ?_ ?_ ?_ _).mono ?_; omega; omega; omega; omega; rintro e w' ⟨rfl, rfl⟩) | (go_at_call 48; refine (rsub_is _ _ ?_ ?_ ?_ ?_ _).mono ?_; omega; omega; omega; omega; rintro e w' ⟨rfl, rfl⟩) | (go_at_call 50; refine (refFill_any _ ?_ _).mono ?_; omega; rintro e w' ⟨rfl, rfl⟩) | (go_at_call 52; refine (rdown_is _ _ ?_ ?_ ?_ ?_ _).mono ?_; omega; omega; omega; omega; rintro e w' ⟨rfl, rfl⟩) | (go_at_call 51; refine (ref_any _ _ _ ?_ ?_ ?_ ?_ _).mono ?_; omega; omega; omega; omega; rintro e w' ⟨rfl, rfl⟩))
  go_region_held3 (fun w' => w'.cell? ⟨w.heap.size, 0, none⟩ = some (.int .i64 al) ∧ w'.cell? ⟨w.heap.size, 1, none⟩ = some (.int .i64 ah) ∧ w'.cell? ⟨w.heap.size + 1, 0, none⟩ = some (.int .i64 bl) ∧ w'.cell? ⟨w.heap.size + 1, 1, none⟩ = some (.int .i64 bh)) (first | (simp [go_sem]; done) | (simp [go_sem, *]; done) | go_keep) (first | (go_at_call 47; refine (radd_is _ _ ?_ ?_ ?_ ?_ _).mono ?_; omega; omega; omega; omega; rintro e w' ⟨rfl, rfl⟩) | (go_at_call 48; refine (rsub_is _ _ ?_ ?_ ?_ ?_ _).mono ?_; omega; omega; omega; omega; rintro e w' ⟨rfl, rfl⟩) | (go_at_call 50; refine (refFill_any _ ?_ _).mono ?_; omega; rintro e w' ⟨rfl, rfl⟩) | (go_at_call 52; refine (rdown_is _ _ ?_ ?_ ?_ ?_ _).mono ?_; omega; omega; omega; omega; rintro e w' ⟨rfl, rfl⟩) | (go_at_call 51; refine (ref_any _ _ _ ?_ ?_ ?_ ?_ _).mono ?_; omega; omega; omega; omega; rintro e w' ⟨rfl, rfl⟩))
  all_goals go_wp2_with (first | (go_at_call 47; refine (radd_is _ _ ?_ ?_ ?_ ?_ _).mono ?_; omega; omega; omega; omega; rintro e w' ⟨rfl, rfl⟩) | (go_at_call 48; refine (rsub_is _ _ ?_ ?_ ?_ ?_ _).mono ?_; omega; omega; omega; omega; rintro e w' ⟨rfl, rfl⟩) | (go_at_call 50; refine (refFill_any _ ?_ _).mono ?_; omega; rintro e w' ⟨rfl, rfl⟩) | (go_at_call 52; refine (rdown_is _ _ ?_ ?_ ?_ ?_ _).mono ?_; omega; omega; omega; omega; rintro e w' ⟨rfl, rfl⟩) | (go_at_call 51; refine (ref_any _ _ _ ?_ ?_ ?_ ?_ _).mono ?_; omega; omega; omega; omega; rintro e w' ⟨rfl, rfl⟩))
  all_goals go_region_held3 (fun w' => w'.cell? ⟨w.heap.size, 0, none⟩ = some (.int .i64 al) ∧ w'.cell? ⟨w.heap.size, 1, none⟩ = some (.int .i64 ah) ∧ w'.cell? ⟨w.heap.size + 1, 0, none⟩ = some (.int .i64 bl) ∧ w'.cell? ⟨w.heap.size + 1, 1, none⟩ = some (.int .i64 bh)) (first | (simp [go_sem]; done) | (simp [go_sem, *]; done) | go_keep) (first | (go_at_call 47; refine (radd_is _ _ ?_ ?_ ?_ ?_ _).mono ?_; omega; omega; omega; omega; rintro e w' ⟨rfl, rfl⟩) | (go_at_call 48; refine (rsub_is _ _ ?_ ?_ ?_ ?_ _).mono ?_; omega; omega; omega; omega; rintro e w' ⟨rfl, rfl⟩) | (go_at_call 50; refine (refFill_any _ ?_ _).mono ?_; omega; rintro e w' ⟨rfl, rfl⟩) | (go_at_call 52; refine (rdown_is _ _ ?_ ?_ ?_ ?_ _).mono ?_; omega; omega; omega; omega; rintro e w' ⟨rfl, rfl⟩) | (go_at_call 51; refine (ref_any _ _ _ ?_ ?_ ?_ ?_ _).mono ?_; omega; omega; omega; omega; rintro e w' ⟨rfl, rfl⟩))
  all_goals go_wp2_with (first | (go_at_call 47; refine (radd_is _ _ ?_ ?_ ?_ ?_ _).mono ?_; omega; omega; omega; omega; rintro e w' ⟨rfl, rfl⟩) | (go_at_call 48; refine (rsub_is _ _ ?_ ?_ ?_ ?_ _).mono ?_; omega; omega; omega; omega; rintro e w' ⟨rfl, rfl⟩) | (go_at_call 50; refine (refFill_any _ ?_ _).mono ?_; omega; rintro e w' ⟨rfl, rfl⟩) | (go_at_call 52; refine (rdown_is _ _ ?_ ?_ ?_ ?_ _).mono ?_; omega; omega; omega; omega; rintro e w' ⟨rfl, rfl⟩) | (go_at_call 51; refine (ref_any _ _ _ ?_ ?_ ?_ ?_ _).mono ?_; omega; omega; omega; omega; rintro e w' ⟨rfl, rfl⟩))
  all_goals exact bodyPost_ret (v := .agg #[.int .i64 (doesV 10 al (bl % 64)), .int .i64 (doesV 10 ah (bl % 64))]) (by simp [results, Tryd.results13, go_sem]) rfl ⟨rfl, by repeat' first | exact Below.refl _ _ | refine Below.alloc ?_ ?_ _ | refine Below.setCell ?_ ?_ _ | refine Below.drew ?_ | refine below_drewN ?_ _ | (simp; done) | (simp; omega) | (simp [drew_size]; done) | (simp [drew_size]; omega) | omega⟩
set_option maxHeartbeats 1000000 in
set_option maxRecDepth 100000 in
theorem rbd_10ppx (al ah bl bh : Int) (pal : -9223372036854775808 ≤ al) (qal : al ≤ 9223372036854775807) (pah : -9223372036854775808 ≤ ah) (qah : ah ≤ 9223372036854775807) (pbl : -9223372036854775808 ≤ bl) (qbl : bl ≤ 9223372036854775807) (pbh : -9223372036854775808 ≤ bh) (qbh : bh ≤ 9223372036854775807) (oa : al ≤ ah) (ob : bl ≤ bh) (ha : 0 ≤ al) (hb : 0 ≤ bl) (he : bl = bh) (f1 : fits (al * 2 ^ sixBits (bl % 64)) = false) (w : World) (hA : AllAt w) : Calls Tryd.prog 13 #[.int .i64 10, .agg #[.int .i64 al, .int .i64 ah], .agg #[.int .i64 bl, .int .i64 bh]] w fun e w' => e = .returned (.agg #[.int .i64 (-9223372036854775808), .int .i64 9223372036854775807]) ∧ Below w.heap.size w w' := by
  obtain ⟨gz, g0, g1⟩ := hA
  have gz0 : 2 < w.heap.size := by omega
  have gz1 : 2 < w.heap.size + 1 := by omega
  have gz2 : 2 < w.heap.size + 1 + 1 := by omega
  have gz3 : 2 < w.heap.size + 1 + 1 + 1 := by omega
  have gz4 : 2 < w.heap.size + 1 + 1 + 1 + 1 := by omega
  have hx := and63 bl
  have hk0 : 0 ≤ bl % 64 := Int.emod_nonneg _ (by decide)
  have hk1 : bl % 64 < 64 := Int.emod_lt_of_pos _ (by decide)
  have da : decide (0 ≤ al) = true := by simp; omega
  have db : decide (0 ≤ bl) = true := by simp; omega
  have kn : (bl == bh) = true := by simp; omega
  clear he
  have b1 : (doesV 10 al (bl % 64) / 2 ^ sixBits (bl % 64) == al) = false := by rw [doesV_10, back_fits (sixBits_lt _)]; exact f1
  have kA : -9223372036854775808 ≤ bl % 64 := by omega
  have kB : bl % 64 ≤ 9223372036854775807 := by omega
  have z1 := doesV_10_bd al (bl % 64)
  have z2 := doesV_10_bd ah (bl % 64)
  obtain ⟨z1, z1b⟩ := z1
  obtain ⟨z2, z2b⟩ := z2
  go_enter Tryd.func13, Tryd.ntmps13
  go_wp2_with (first | (go_at_call 47; refine (radd_is _ _ ?_ ?_ ?_ ?_ _).mono ?_; omega; omega; omega; omega; rintro e w' ⟨rfl, rfl⟩) | (go_at_call 48; refine (rsub_is _ _ ?_ ?_ ?_ ?_ _).mono ?_; omega; omega; omega; omega; rintro e w' ⟨rfl, rfl⟩) | (go_at_call 50; refine (refFill_any _ ?_ _).mono ?_; omega; rintro e w' ⟨rfl, rfl⟩) | (go_at_call 52; refine (rdown_is _ _ ?_ ?_ ?_ ?_ _).mono ?_; omega; omega; omega; omega; rintro e w' ⟨rfl, rfl⟩) | (go_at_call 51; refine (ref_any _ _ _ ?_ ?_ ?_ ?_ _).mono ?_; omega; omega; omega; omega; rintro e w' ⟨rfl, rfl⟩))
  go_region_held3 (fun w' => w'.cell? ⟨w.heap.size, 0, none⟩ = some (.int .i64 al) ∧ w'.cell? ⟨w.heap.size, 1, none⟩ = some (.int .i64 ah) ∧ w'.cell? ⟨w.heap.size + 1, 0, none⟩ = some (.int .i64 bl) ∧ w'.cell? ⟨w.heap.size + 1, 1, none⟩ = some (.int .i64 bh)) (first | (simp [go_sem]; done) | (simp [go_sem, *]; done) | go_keep) (first | (go_at_call 47; refine (radd_is _ _ ?_ ?_ ?_ ?_ _).mono ?_; omega; omega; omega; omega; rintro e w' ⟨rfl, rfl⟩) | (go_at_call 48; refine (rsub_is _ _ ?_ ?_ ?_ ?_ _).mono ?_; omega; omega; omega; omega; rintro e w' ⟨rfl, rfl⟩) | (go_at_call 50; refine (refFill_any _ ?_ _).mono ?_; omega; rintro e w' ⟨rfl, rfl⟩) | (go_at_call 52; refine (rdown_is _ _ ?_ ?_ ?_ ?_ _).mono ?_; omega; omega; omega; omega; rintro e w' ⟨rfl, rfl⟩) | (go_at_call 51; refine (ref_any _ _ _ ?_ ?_ ?_ ?_ _).mono ?_; omega; omega; omega; omega; rintro e w' ⟨rfl, rfl⟩))
  all_goals go_wp2_with (first | (go_at_call 47; refine (radd_is _ _ ?_ ?_ ?_ ?_ _).mono ?_; omega; omega; omega; omega; rintro e w' ⟨rfl, rfl⟩) | (go_at_call 48; refine (rsub_is _ _ ?_ ?_ ?_ ?_ _).mono ?_; omega; omega; omega; omega; rintro e w' ⟨rfl, rfl⟩) | (go_at_call 50; refine (refFill_any _ ?_ _).mono ?_; omega; rintro e w' ⟨rfl, rfl⟩) | (go_at_call 52; refine (rdown_is _ _ ?_ ?_ ?_ ?_ _).mono ?_; omega; omega; omega; omega; rintro e w' ⟨rfl, rfl⟩) | (go_at_call 51; refine (ref_any _ _ _ ?_ ?_ ?_ ?_ _).mono ?_; omega; omega; omega; omega; rintro e w' ⟨rfl, rfl⟩))
  all_goals go_quiet ((first | (go_at_call 52; first | exact (rdown_is _ _ z1 z1b kA kB _).mono fun e w' ⟨he, hw⟩ => ⟨he, _, hw⟩ | exact (rdown_is _ _ z2 z2b kA kB _).mono fun e w' ⟨he, hw⟩ => ⟨he, _, hw⟩)))
  all_goals go_wp2_with (first | (go_at_call 47; refine (radd_is _ _ ?_ ?_ ?_ ?_ _).mono ?_; omega; omega; omega; omega; rintro e w' ⟨rfl, rfl⟩) | (go_at_call 48; refine (rsub_is _ _ ?_ ?_ ?_ ?_ _).mono ?_; omega; omega; omega; omega; rintro e w' ⟨rfl, rfl⟩) | (go_at_call 50; refine (refFill_any _ ?_ _).mono ?_; omega; rintro e w' ⟨rfl, rfl⟩) | (go_at_call 52; refine (rdown_is _ _ ?_ ?_ ?_ ?_ _).mono ?_; omega; omega; omega; omega; rintro e w' ⟨rfl, rfl⟩) | (go_at_call 51; refine (ref_any _ _ _ ?_ ?_ ?_ ?_ _).mono ?_; omega; omega; omega; omega; rintro e w' ⟨rfl, rfl⟩))
  all_goals exact bodyPost_ret (v := .agg #[.int .i64 (-9223372036854775808), .int .i64 9223372036854775807]) (by simp [results, Tryd.results13, go_sem]) rfl ⟨rfl, by repeat' first | exact Below.refl _ _ | refine Below.alloc ?_ ?_ _ | refine Below.setCell ?_ ?_ _ | refine Below.drew ?_ | refine below_drewN ?_ _ | (simp; done) | (simp; omega) | (simp [drew_size]; done) | (simp [drew_size]; omega) | omega⟩
set_option maxHeartbeats 1000000 in
set_option maxRecDepth 100000 in
theorem rbd_10ppz (al ah bl bh : Int) (pal : -9223372036854775808 ≤ al) (qal : al ≤ 9223372036854775807) (pah : -9223372036854775808 ≤ ah) (qah : ah ≤ 9223372036854775807) (pbl : -9223372036854775808 ≤ bl) (qbl : bl ≤ 9223372036854775807) (pbh : -9223372036854775808 ≤ bh) (qbh : bh ≤ 9223372036854775807) (oa : al ≤ ah) (ob : bl ≤ bh) (ha : 0 ≤ al) (hb : 0 ≤ bl) (he : bl = bh) (f1 : fits (al * 2 ^ sixBits (bl % 64)) = true) (f2 : fits (ah * 2 ^ sixBits (bl % 64)) = false) (w : World) (hA : AllAt w) : Calls Tryd.prog 13 #[.int .i64 10, .agg #[.int .i64 al, .int .i64 ah], .agg #[.int .i64 bl, .int .i64 bh]] w fun e w' => e = .returned (.agg #[.int .i64 (-9223372036854775808), .int .i64 9223372036854775807]) ∧ Below w.heap.size w w' := by
  obtain ⟨gz, g0, g1⟩ := hA
  have gz0 : 2 < w.heap.size := by omega
  have gz1 : 2 < w.heap.size + 1 := by omega
  have gz2 : 2 < w.heap.size + 1 + 1 := by omega
  have gz3 : 2 < w.heap.size + 1 + 1 + 1 := by omega
  have gz4 : 2 < w.heap.size + 1 + 1 + 1 + 1 := by omega
  have hx := and63 bl
  have hk0 : 0 ≤ bl % 64 := Int.emod_nonneg _ (by decide)
  have hk1 : bl % 64 < 64 := Int.emod_lt_of_pos _ (by decide)
  have da : decide (0 ≤ al) = true := by simp; omega
  have db : decide (0 ≤ bl) = true := by simp; omega
  have kn : (bl == bh) = true := by simp; omega
  clear he
  have b1 : (doesV 10 al (bl % 64) / 2 ^ sixBits (bl % 64) == al) = true := by rw [doesV_10, back_fits (sixBits_lt _)]; exact f1
  have b2 : (doesV 10 ah (bl % 64) / 2 ^ sixBits (bl % 64) == ah) = false := by rw [doesV_10, back_fits (sixBits_lt _)]; exact f2
  have kA : -9223372036854775808 ≤ bl % 64 := by omega
  have kB : bl % 64 ≤ 9223372036854775807 := by omega
  have z1 := doesV_10_bd al (bl % 64)
  have z2 := doesV_10_bd ah (bl % 64)
  obtain ⟨z1, z1b⟩ := z1
  obtain ⟨z2, z2b⟩ := z2
  go_enter Tryd.func13, Tryd.ntmps13
  go_wp2_with (first | (go_at_call 47; refine (radd_is _ _ ?_ ?_ ?_ ?_ _).mono ?_; omega; omega; omega; omega; rintro e w' ⟨rfl, rfl⟩) | (go_at_call 48; refine (rsub_is _ _ ?_ ?_ ?_ ?_ _).mono ?_; omega; omega; omega; omega; rintro e w' ⟨rfl, rfl⟩) | (go_at_call 50; refine (refFill_any _ ?_ _).mono ?_; omega; rintro e w' ⟨rfl, rfl⟩) | (go_at_call 52; refine (rdown_is _ _ ?_ ?_ ?_ ?_ _).mono ?_; omega; omega; omega; omega; rintro e w' ⟨rfl, rfl⟩) | (go_at_call 51; refine (ref_any _ _ _ ?_ ?_ ?_ ?_ _).mono ?_; omega; omega; omega; omega; rintro e w' ⟨rfl, rfl⟩))
  go_region_held3 (fun w' => w'.cell? ⟨w.heap.size, 0, none⟩ = some (.int .i64 al) ∧ w'.cell? ⟨w.heap.size, 1, none⟩ = some (.int .i64 ah) ∧ w'.cell? ⟨w.heap.size + 1, 0, none⟩ = some (.int .i64 bl) ∧ w'.cell? ⟨w.heap.size + 1, 1, none⟩ = some (.int .i64 bh)) (first | (simp [go_sem]; done) | (simp [go_sem, *]; done) | go_keep) (first | (go_at_call 47; refine (radd_is _ _ ?_ ?_ ?_ ?_ _).mono ?_; omega; omega; omega; omega; rintro e w' ⟨rfl, rfl⟩) | (go_at_call 48; refine (rsub_is _ _ ?_ ?_ ?_ ?_ _).mono ?_; omega; omega; omega; omega; rintro e w' ⟨rfl, rfl⟩) | (go_at_call 50; refine (refFill_any _ ?_ _).mono ?_; omega; rintro e w' ⟨rfl, rfl⟩) | (go_at_call 52; refine (rdown_is _ _ ?_ ?_ ?_ ?_ _).mono ?_; omega; omega; omega; omega; rintro e w' ⟨rfl, rfl⟩) | (go_at_call 51; refine (ref_any _ _ _ ?_ ?_ ?_ ?_ _).mono ?_; omega; omega; omega; omega; rintro e w' ⟨rfl, rfl⟩))
  all_goals go_wp2_with (first | (go_at_call 47; refine (radd_is _ _ ?_ ?_ ?_ ?_ _).mono ?_; omega; omega; omega; omega; rintro e w' ⟨rfl, rfl⟩) | (go_at_call 48; refine (rsub_is _ _ ?_ ?_ ?_ ?_ _).mono ?_; omega; omega; omega; omega; rintro e w' ⟨rfl, rfl⟩) | (go_at_call 50; refine (refFill_any _ ?_ _).mono ?_; omega; rintro e w' ⟨rfl, rfl⟩) | (go_at_call 52; refine (rdown_is _ _ ?_ ?_ ?_ ?_ _).mono ?_; omega; omega; omega; omega; rintro e w' ⟨rfl, rfl⟩) | (go_at_call 51; refine (ref_any _ _ _ ?_ ?_ ?_ ?_ _).mono ?_; omega; omega; omega; omega; rintro e w' ⟨rfl, rfl⟩))
  all_goals go_quiet ((first | (go_at_call 52; first | exact (rdown_is _ _ z1 z1b kA kB _).mono fun e w' ⟨he, hw⟩ => ⟨he, _, hw⟩ | exact (rdown_is _ _ z2 z2b kA kB _).mono fun e w' ⟨he, hw⟩ => ⟨he, _, hw⟩)))
  all_goals go_wp2_with (first | (go_at_call 47; refine (radd_is _ _ ?_ ?_ ?_ ?_ _).mono ?_; omega; omega; omega; omega; rintro e w' ⟨rfl, rfl⟩) | (go_at_call 48; refine (rsub_is _ _ ?_ ?_ ?_ ?_ _).mono ?_; omega; omega; omega; omega; rintro e w' ⟨rfl, rfl⟩) | (go_at_call 50; refine (refFill_any _ ?_ _).mono ?_; omega; rintro e w' ⟨rfl, rfl⟩) | (go_at_call 52; refine (rdown_is _ _ ?_ ?_ ?_ ?_ _).mono ?_; omega; omega; omega; omega; rintro e w' ⟨rfl, rfl⟩) | (go_at_call 51; refine (ref_any _ _ _ ?_ ?_ ?_ ?_ _).mono ?_; omega; omega; omega; omega; rintro e w' ⟨rfl, rfl⟩))
  all_goals exact bodyPost_ret (v := .agg #[.int .i64 (-9223372036854775808), .int .i64 9223372036854775807]) (by simp [results, Tryd.results13, go_sem]) rfl ⟨rfl, by repeat' first | exact Below.refl _ _ | refine Below.alloc ?_ ?_ _ | refine Below.setCell ?_ ?_ _ | refine Below.drew ?_ | refine below_drewN ?_ _ | (simp; done) | (simp; omega) | (simp [drew_size]; done) | (simp [drew_size]; omega) | omega⟩
set_option maxHeartbeats 1000000 in
set_option maxRecDepth 100000 in
theorem rbd_10ppn (al ah bl bh : Int) (pal : -9223372036854775808 ≤ al) (qal : al ≤ 9223372036854775807) (pah : -9223372036854775808 ≤ ah) (qah : ah ≤ 9223372036854775807) (pbl : -9223372036854775808 ≤ bl) (qbl : bl ≤ 9223372036854775807) (pbh : -9223372036854775808 ≤ bh) (qbh : bh ≤ 9223372036854775807) (oa : al ≤ ah) (ob : bl ≤ bh) (ha : 0 ≤ al) (hb : 0 ≤ bl) (he : bl ≠ bh) (w : World) (hA : AllAt w) : Calls Tryd.prog 13 #[.int .i64 10, .agg #[.int .i64 al, .int .i64 ah], .agg #[.int .i64 bl, .int .i64 bh]] w fun e w' => e = .returned (.agg #[.int .i64 (-9223372036854775808), .int .i64 9223372036854775807]) ∧ Below w.heap.size w w' := by
  obtain ⟨gz, g0, g1⟩ := hA
  have gz0 : 2 < w.heap.size := by omega
  have gz1 : 2 < w.heap.size + 1 := by omega
  have gz2 : 2 < w.heap.size + 1 + 1 := by omega
  have gz3 : 2 < w.heap.size + 1 + 1 + 1 := by omega
  have gz4 : 2 < w.heap.size + 1 + 1 + 1 + 1 := by omega
  have hx := and63 bl
  have hk0 : 0 ≤ bl % 64 := Int.emod_nonneg _ (by decide)
  have hk1 : bl % 64 < 64 := Int.emod_lt_of_pos _ (by decide)
  have da : decide (0 ≤ al) = true := by simp; omega
  have db : decide (0 ≤ bl) = true := by simp; omega
  have kn : (bl == bh) = false := by simp; omega
  clear he
  have kA : -9223372036854775808 ≤ bl % 64 := by omega
  have kB : bl % 64 ≤ 9223372036854775807 := by omega
  have z1 := doesV_10_bd al (bl % 64)
  have z2 := doesV_10_bd ah (bl % 64)
  obtain ⟨z1, z1b⟩ := z1
  obtain ⟨z2, z2b⟩ := z2
  go_enter Tryd.func13, Tryd.ntmps13
  go_wp2_with (first | (go_at_call 47; refine (radd_is _ _ ?_ ?_ ?_ ?_ _).mono ?_; omega; omega; omega; omega; rintro e w' ⟨rfl, rfl⟩) | (go_at_call 48; refine (rsub_is _ _ ?_ ?_ ?_ ?_ _).mono ?_; omega; omega; omega; omega; rintro e w' ⟨rfl, rfl⟩) | (go_at_call 50; refine (refFill_any _ ?_ _).mono ?_; omega; rintro e w' ⟨rfl, rfl⟩) | (go_at_call 52; refine (rdown_is _ _ ?_ ?_ ?_ ?_ _).mono ?_; omega; omega; omega; omega; rintro e w' ⟨rfl, rfl⟩) | (go_at_call 51; refine (ref_any _ _ _ ?_ ?_ ?_ ?_ _).mono ?_; omega; omega; omega; omega; rintro e w' ⟨rfl, rfl⟩))
  go_region_held3 (fun w' => w'.cell? ⟨w.heap.size, 0, none⟩ = some (.int .i64 al) ∧ w'.cell? ⟨w.heap.size, 1, none⟩ = some (.int .i64 ah) ∧ w'.cell? ⟨w.heap.size + 1, 0, none⟩ = some (.int .i64 bl) ∧ w'.cell? ⟨w.heap.size + 1, 1, none⟩ = some (.int .i64 bh)) (first | (simp [go_sem]; done) | (simp [go_sem, *]; done) | go_keep) (first | (go_at_call 47; refine (radd_is _ _ ?_ ?_ ?_ ?_ _).mono ?_; omega; omega; omega; omega; rintro e w' ⟨rfl, rfl⟩) | (go_at_call 48; refine (rsub_is _ _ ?_ ?_ ?_ ?_ _).mono ?_; omega; omega; omega; omega; rintro e w' ⟨rfl, rfl⟩) | (go_at_call 50; refine (refFill_any _ ?_ _).mono ?_; omega; rintro e w' ⟨rfl, rfl⟩) | (go_at_call 52; refine (rdown_is _ _ ?_ ?_ ?_ ?_ _).mono ?_; omega; omega; omega; omega; rintro e w' ⟨rfl, rfl⟩) | (go_at_call 51; refine (ref_any _ _ _ ?_ ?_ ?_ ?_ _).mono ?_; omega; omega; omega; omega; rintro e w' ⟨rfl, rfl⟩))
  all_goals go_wp2_with (first | (go_at_call 47; refine (radd_is _ _ ?_ ?_ ?_ ?_ _).mono ?_; omega; omega; omega; omega; rintro e w' ⟨rfl, rfl⟩) | (go_at_call 48; refine (rsub_is _ _ ?_ ?_ ?_ ?_ _).mono ?_; omega; omega; omega; omega; rintro e w' ⟨rfl, rfl⟩) | (go_at_call 50; refine (refFill_any _ ?_ _).mono ?_; omega; rintro e w' ⟨rfl, rfl⟩) | (go_at_call 52; refine (rdown_is _ _ ?_ ?_ ?_ ?_ _).mono ?_; omega; omega; omega; omega; rintro e w' ⟨rfl, rfl⟩) | (go_at_call 51; refine (ref_any _ _ _ ?_ ?_ ?_ ?_ _).mono ?_; omega; omega; omega; omega; rintro e w' ⟨rfl, rfl⟩))
  all_goals go_quiet ((first | (go_at_call 52; first | exact (rdown_is _ _ z1 z1b kA kB _).mono fun e w' ⟨he, hw⟩ => ⟨he, _, hw⟩ | exact (rdown_is _ _ z2 z2b kA kB _).mono fun e w' ⟨he, hw⟩ => ⟨he, _, hw⟩)))
  all_goals go_wp2_with (first | (go_at_call 47; refine (radd_is _ _ ?_ ?_ ?_ ?_ _).mono ?_; omega; omega; omega; omega; rintro e w' ⟨rfl, rfl⟩) | (go_at_call 48; refine (rsub_is _ _ ?_ ?_ ?_ ?_ _).mono ?_; omega; omega; omega; omega; rintro e w' ⟨rfl, rfl⟩) | (go_at_call 50; refine (refFill_any _ ?_ _).mono ?_; omega; rintro e w' ⟨rfl, rfl⟩) | (go_at_call 52; refine (rdown_is _ _ ?_ ?_ ?_ ?_ _).mono ?_; omega; omega; omega; omega; rintro e w' ⟨rfl, rfl⟩) | (go_at_call 51; refine (ref_any _ _ _ ?_ ?_ ?_ ?_ _).mono ?_; omega; omega; omega; omega; rintro e w' ⟨rfl, rfl⟩))
  all_goals exact bodyPost_ret (v := .agg #[.int .i64 (-9223372036854775808), .int .i64 9223372036854775807]) (by simp [results, Tryd.results13, go_sem]) rfl ⟨rfl, by repeat' first | exact Below.refl _ _ | refine Below.alloc ?_ ?_ _ | refine Below.setCell ?_ ?_ _ | refine Below.drew ?_ | refine below_drewN ?_ _ | (simp; done) | (simp; omega) | (simp [drew_size]; done) | (simp [drew_size]; omega) | omega⟩
set_option maxHeartbeats 1000000 in
set_option maxRecDepth 100000 in
theorem rbd_10pnx (al ah bl bh : Int) (pal : -9223372036854775808 ≤ al) (qal : al ≤ 9223372036854775807) (pah : -9223372036854775808 ≤ ah) (qah : ah ≤ 9223372036854775807) (pbl : -9223372036854775808 ≤ bl) (qbl : bl ≤ 9223372036854775807) (pbh : -9223372036854775808 ≤ bh) (qbh : bh ≤ 9223372036854775807) (oa : al ≤ ah) (ob : bl ≤ bh) (ha : 0 ≤ al) (hb : bl < 0) (he : bl = bh) (f1 : fits (al * 2 ^ sixBits (bl % 64)) = false) (w : World) (hA : AllAt w) : Calls Tryd.prog 13 #[.int .i64 10, .agg #[.int .i64 al, .int .i64 ah], .agg #[.int .i64 bl, .int .i64 bh]] w fun e w' => e = .returned (.agg #[.int .i64 (-9223372036854775808), .int .i64 9223372036854775807]) ∧ Below w.heap.size w w' := by
  obtain ⟨gz, g0, g1⟩ := hA
  have gz0 : 2 < w.heap.size := by omega
  have gz1 : 2 < w.heap.size + 1 := by omega
  have gz2 : 2 < w.heap.size + 1 + 1 := by omega
  have gz3 : 2 < w.heap.size + 1 + 1 + 1 := by omega
  have gz4 : 2 < w.heap.size + 1 + 1 + 1 + 1 := by omega
  have hx := and63 bl
  have hk0 : 0 ≤ bl % 64 := Int.emod_nonneg _ (by decide)
  have hk1 : bl % 64 < 64 := Int.emod_lt_of_pos _ (by decide)
  have da : decide (0 ≤ al) = true := by simp; omega
  have db : decide (0 ≤ bl) = false := by simp; omega
  have kn : (bl == bh) = true := by simp; omega
  clear he
  have b1 : (doesV 10 al (bl % 64) / 2 ^ sixBits (bl % 64) == al) = false := by rw [doesV_10, back_fits (sixBits_lt _)]; exact f1
  have kA : -9223372036854775808 ≤ bl % 64 := by omega
  have kB : bl % 64 ≤ 9223372036854775807 := by omega
  have z1 := doesV_10_bd al (bl % 64)
  have z2 := doesV_10_bd ah (bl % 64)
  obtain ⟨z1, z1b⟩ := z1
  obtain ⟨z2, z2b⟩ := z2
  go_enter Tryd.func13, Tryd.ntmps13
  go_wp2_with (first | (go_at_call 47; refine (radd_is _ _ ?_ ?_ ?_ ?_ _).mono ?_; omega; omega; omega; omega; rintro e w' ⟨rfl, rfl⟩) | (go_at_call 48; refine (rsub_is _ _ ?_ ?_ ?_ ?_ _).mono ?_; omega; omega; omega; omega; rintro e w' ⟨rfl, rfl⟩) | (go_at_call 50; refine (refFill_any _ ?_ _).mono ?_; omega; rintro e w' ⟨rfl, rfl⟩) | (go_at_call 52; refine (rdown_is _ _ ?_ ?_ ?_ ?_ _).mono ?_; omega; omega; omega; omega; rintro e w' ⟨rfl, rfl⟩) | (go_at_call 51; refine (ref_any _ _ _ ?_ ?_ ?_ ?_ _).mono ?_; omega; omega; omega; omega; rintro e w' ⟨rfl, rfl⟩))
  go_region_held3 (fun w' => w'.cell? ⟨w.heap.size, 0, none⟩ = some (.int .i64 al) ∧ w'.cell? ⟨w.heap.size, 1, none⟩ = some (.int .i64 ah) ∧ w'.cell? ⟨w.heap.size + 1, 0, none⟩ = some (.int .i64 bl) ∧ w'.cell? ⟨w.heap.size + 1, 1, none⟩ = some (.int .i64 bh)) (first | (simp [go_sem]; done) | (simp [go_sem, *]; done) | go_keep) (first | (go_at_call 47; refine (radd_is _ _ ?_ ?_ ?_ ?_ _).mono ?_; omega; omega; omega; omega; rintro e w' ⟨rfl, rfl⟩) | (go_at_call 48; refine (rsub_is _ _ ?_ ?_ ?_ ?_ _).mono ?_; omega; omega; omega; omega; rintro e w' ⟨rfl, rfl⟩) | (go_at_call 50; refine (refFill_any _ ?_ _).mono ?_; omega; rintro e w' ⟨rfl, rfl⟩) | (go_at_call 52; refine (rdown_is _ _ ?_ ?_ ?_ ?_ _).mono ?_; omega; omega; omega; omega; rintro e w' ⟨rfl, rfl⟩) | (go_at_call 51; refine (ref_any _ _ _ ?_ ?_ ?_ ?_ _).mono ?_; omega; omega; omega; omega; rintro e w' ⟨rfl, rfl⟩))
  all_goals go_wp2_with (first | (go_at_call 47; refine (radd_is _ _ ?_ ?_ ?_ ?_ _).mono ?_; omega; omega; omega; omega; rintro e w' ⟨rfl, rfl⟩) | (go_at_call 48; refine (rsub_is _ _ ?_ ?_ ?_ ?_ _).mono ?_; omega; omega; omega; omega; rintro e w' ⟨rfl, rfl⟩) | (go_at_call 50; refine (refFill_any _ ?_ _).mono ?_; omega; rintro e w' ⟨rfl, rfl⟩) | (go_at_call 52; refine (rdown_is _ _ ?_ ?_ ?_ ?_ _).mono ?_; omega; omega; omega; omega; rintro e w' ⟨rfl, rfl⟩) | (go_at_call 51; refine (ref_any _ _ _ ?_ ?_ ?_ ?_ _).mono ?_; omega; omega; omega; omega; rintro e w' ⟨rfl, rfl⟩))
  all_goals go_quiet ((first | (go_at_call 52; first | exact (rdown_is _ _ z1 z1b kA kB _).mono fun e w' ⟨he, hw⟩ => ⟨he, _, hw⟩ | exact (rdown_is _ _ z2 z2b kA kB _).mono fun e w' ⟨he, hw⟩ => ⟨he, _, hw⟩)))
  all_goals go_wp2_with (first | (go_at_call 47; refine (radd_is _ _ ?_ ?_ ?_ ?_ _).mono ?_; omega; omega; omega; omega; rintro e w' ⟨rfl, rfl⟩) | (go_at_call 48; refine (rsub_is _ _ ?_ ?_ ?_ ?_ _).mono ?_; omega; omega; omega; omega; rintro e w' ⟨rfl, rfl⟩) | (go_at_call 50; refine (refFill_any _ ?_ _).mono ?_; omega; rintro e w' ⟨rfl, rfl⟩) | (go_at_call 52; refine (rdown_is _ _ ?_ ?_ ?_ ?_ _).mono ?_; omega; omega; omega; omega; rintro e w' ⟨rfl, rfl⟩) | (go_at_call 51; refine (ref_any _ _ _ ?_ ?_ ?_ ?_ _).mono ?_; omega; omega; omega; omega; rintro e w' ⟨rfl, rfl⟩))
  all_goals exact bodyPost_ret (v := .agg #[.int .i64 (-9223372036854775808), .int .i64 9223372036854775807]) (by simp [results, Tryd.results13, go_sem]) rfl ⟨rfl, by repeat' first | exact Below.refl _ _ | refine Below.alloc ?_ ?_ _ | refine Below.setCell ?_ ?_ _ | refine Below.drew ?_ | refine below_drewN ?_ _ | (simp; done) | (simp; omega) | (simp [drew_size]; done) | (simp [drew_size]; omega) | omega⟩
set_option maxHeartbeats 1000000 in
set_option maxRecDepth 100000 in
theorem rbd_10pnz (al ah bl bh : Int) (pal : -9223372036854775808 ≤ al) (qal : al ≤ 9223372036854775807) (pah : -9223372036854775808 ≤ ah) (qah : ah ≤ 9223372036854775807) (pbl : -9223372036854775808 ≤ bl) (qbl : bl ≤ 9223372036854775807) (pbh : -9223372036854775808 ≤ bh) (qbh : bh ≤ 9223372036854775807) (oa : al ≤ ah) (ob : bl ≤ bh) (ha : 0 ≤ al) (hb : bl < 0) (he : bl = bh) (f1 : fits (al * 2 ^ sixBits (bl % 64)) = true) (f2 : fits (ah * 2 ^ sixBits (bl % 64)) = false) (w : World) (hA : AllAt w) : Calls Tryd.prog 13 #[.int .i64 10, .agg #[.int .i64 al, .int .i64 ah], .agg #[.int .i64 bl, .int .i64 bh]] w fun e w' => e = .returned (.agg #[.int .i64 (-9223372036854775808), .int .i64 9223372036854775807]) ∧ Below w.heap.size w w' := by
  obtain ⟨gz, g0, g1⟩ := hA
  have gz0 : 2 < w.heap.size := by omega
  have gz1 : 2 < w.heap.size + 1 := by omega
  have gz2 : 2 < w.heap.size + 1 + 1 := by omega
  have gz3 : 2 < w.heap.size + 1 + 1 + 1 := by omega
  have gz4 : 2 < w.heap.size + 1 + 1 + 1 + 1 := by omega
  have hx := and63 bl
  have hk0 : 0 ≤ bl % 64 := Int.emod_nonneg _ (by decide)
  have hk1 : bl % 64 < 64 := Int.emod_lt_of_pos _ (by decide)
  have da : decide (0 ≤ al) = true := by simp; omega
  have db : decide (0 ≤ bl) = false := by simp; omega
  have kn : (bl == bh) = true := by simp; omega
  clear he
  have b1 : (doesV 10 al (bl % 64) / 2 ^ sixBits (bl % 64) == al) = true := by rw [doesV_10, back_fits (sixBits_lt _)]; exact f1
  have b2 : (doesV 10 ah (bl % 64) / 2 ^ sixBits (bl % 64) == ah) = false := by rw [doesV_10, back_fits (sixBits_lt _)]; exact f2
  have kA : -9223372036854775808 ≤ bl % 64 := by omega
  have kB : bl % 64 ≤ 9223372036854775807 := by omega
  have z1 := doesV_10_bd al (bl % 64)
  have z2 := doesV_10_bd ah (bl % 64)
  obtain ⟨z1, z1b⟩ := z1
  obtain ⟨z2, z2b⟩ := z2
  go_enter Tryd.func13, Tryd.ntmps13
  go_wp2_with (first | (go_at_call 47; refine (radd_is _ _ ?_ ?_ ?_ ?_ _).mono ?_; omega; omega; omega; omega; rintro e w' ⟨rfl, rfl⟩) | (go_at_call 48; refine (rsub_is _ _ ?_ ?_ ?_ ?_ _).mono ?_; omega; omega; omega; omega; rintro e w' ⟨rfl, rfl⟩) | (go_at_call 50; refine (refFill_any _ ?_ _).mono ?_; omega; rintro e w' ⟨rfl, rfl⟩) | (go_at_call 52; refine (rdown_is _ _ ?_ ?_ ?_ ?_ _).mono ?_; omega; omega; omega; omega; rintro e w' ⟨rfl, rfl⟩) | (go_at_call 51; refine (ref_any _ _ _ ?_ ?_ ?_ ?_ _).mono ?_; omega; omega; omega; omega; rintro e w' ⟨rfl, rfl⟩))
  go_region_held3 (fun w' => w'.cell? ⟨w.heap.size, 0, none⟩ = some (.int .i64 al) ∧ w'.cell? ⟨w.heap.size, 1, none⟩ = some (.int .i64 ah) ∧ w'.cell? ⟨w.heap.size + 1, 0, none⟩ = some (.int .i64 bl) ∧ w'.cell? ⟨w.heap.size + 1, 1, none⟩ = some (.int .i64 bh)) (first | (simp [go_sem]; done) | (simp [go_sem, *]; done) | go_keep) (first | (go_at_call 47; refine (radd_is _ _ ?_ ?_ ?_ ?_ _).mono ?_; omega; omega; omega; omega; rintro e w' ⟨rfl, rfl⟩) | (go_at_call 48; refine (rsub_is _ _ ?_ ?_ ?_ ?_ _).mono ?_; omega; omega; omega; omega; rintro e w' ⟨rfl, rfl⟩) | (go_at_call 50; refine (refFill_any _ ?_ _).mono ?_; omega; rintro e w' ⟨rfl, rfl⟩) | (go_at_call 52; refine (rdown_is _ _ ?_ ?_ ?_ ?_ _).mono ?_; omega; omega; omega; omega; rintro e w' ⟨rfl, rfl⟩) | (go_at_call 51; refine (ref_any _ _ _ ?_ ?_ ?_ ?_ _).mono ?_; omega; omega; omega; omega; rintro e w' ⟨rfl, rfl⟩))
  all_goals go_wp2_with (first | (go_at_call 47; refine (radd_is _ _ ?_ ?_ ?_ ?_ _).mono ?_; omega; omega; omega; omega; rintro e w' ⟨rfl, rfl⟩) | (go_at_call 48; refine (rsub_is _ _ ?_ ?_ ?_ ?_ _).mono ?_; omega; omega; omega; omega; rintro e w' ⟨rfl, rfl⟩) | (go_at_call 50; refine (refFill_any _ ?_ _).mono ?_; omega; rintro e w' ⟨rfl, rfl⟩) | (go_at_call 52; refine (rdown_is _ _ ?_ ?_ ?_ ?_ _).mono ?_; omega; omega; omega; omega; rintro e w' ⟨rfl, rfl⟩) | (go_at_call 51; refine (ref_any _ _ _ ?_ ?_ ?_ ?_ _).mono ?_; omega; omega; omega; omega; rintro e w' ⟨rfl, rfl⟩))
  all_goals go_quiet ((first | (go_at_call 52; first | exact (rdown_is _ _ z1 z1b kA kB _).mono fun e w' ⟨he, hw⟩ => ⟨he, _, hw⟩ | exact (rdown_is _ _ z2 z2b kA kB _).mono fun e w' ⟨he, hw⟩ => ⟨he, _, hw⟩)))
  all_goals go_wp2_with (first | (go_at_call 47; refine (radd_is _ _ ?_ ?_ ?_ ?_ _).mono ?_; omega; omega; omega; omega; rintro e w' ⟨rfl, rfl⟩) | (go_at_call 48; refine (rsub_is _ _ ?_ ?_ ?_ ?_ _).mono ?_; omega; omega; omega; omega; rintro e w' ⟨rfl, rfl⟩) | (go_at_call 50; refine (refFill_any _ ?_ _).mono ?_; omega; rintro e w' ⟨rfl, rfl⟩) | (go_at_call 52; refine (rdown_is _ _ ?_ ?_ ?_ ?_ _).mono ?_; omega; omega; omega; omega; rintro e w' ⟨rfl, rfl⟩) | (go_at_call 51; refine (ref_any _ _ _ ?_ ?_ ?_ ?_ _).mono ?_; omega; omega; omega; omega; rintro e w' ⟨rfl, rfl⟩))
  all_goals exact bodyPost_ret (v := .agg #[.int .i64 (-9223372036854775808), .int .i64 9223372036854775807]) (by simp [results, Tryd.results13, go_sem]) rfl ⟨rfl, by repeat' first | exact Below.refl _ _ | refine Below.alloc ?_ ?_ _ | refine Below.setCell ?_ ?_ _ | refine Below.drew ?_ | refine below_drewN ?_ _ | (simp; done) | (simp; omega) | (simp [drew_size]; done) | (simp [drew_size]; omega) | omega⟩
set_option maxHeartbeats 1000000 in
set_option maxRecDepth 100000 in
theorem rbd_10pnn (al ah bl bh : Int) (pal : -9223372036854775808 ≤ al) (qal : al ≤ 9223372036854775807) (pah : -9223372036854775808 ≤ ah) (qah : ah ≤ 9223372036854775807) (pbl : -9223372036854775808 ≤ bl) (qbl : bl ≤ 9223372036854775807) (pbh : -9223372036854775808 ≤ bh) (qbh : bh ≤ 9223372036854775807) (oa : al ≤ ah) (ob : bl ≤ bh) (ha : 0 ≤ al) (hb : bl < 0) (he : bl ≠ bh) (w : World) (hA : AllAt w) : Calls Tryd.prog 13 #[.int .i64 10, .agg #[.int .i64 al, .int .i64 ah], .agg #[.int .i64 bl, .int .i64 bh]] w fun e w' => e = .returned (.agg #[.int .i64 (-9223372036854775808), .int .i64 9223372036854775807]) ∧ Below w.heap.size w w' := by
  obtain ⟨gz, g0, g1⟩ := hA
  have gz0 : 2 < w.heap.size := by omega
  have gz1 : 2 < w.heap.size + 1 := by omega
  have gz2 : 2 < w.heap.size + 1 + 1 := by omega
  have gz3 : 2 < w.heap.size + 1 + 1 + 1 := by omega
  have gz4 : 2 < w.heap.size + 1 + 1 + 1 + 1 := by omega
  have hx := and63 bl
  have hk0 : 0 ≤ bl % 64 := Int.emod_nonneg _ (by decide)
  have hk1 : bl % 64 < 64 := Int.emod_lt_of_pos _ (by decide)
  have da : decide (0 ≤ al) = true := by simp; omega
  have db : decide (0 ≤ bl) = false := by simp; omega
  have kn : (bl == bh) = false := by simp; omega
  clear he
  have kA : -9223372036854775808 ≤ bl % 64 := by omega
  have kB : bl % 64 ≤ 9223372036854775807 := by omega
  have z1 := doesV_10_bd al (bl % 64)
  have z2 := doesV_10_bd ah (bl % 64)
  obtain ⟨z1, z1b⟩ := z1
  obtain ⟨z2, z2b⟩ := z2
  go_enter Tryd.func13, Tryd.ntmps13
  go_wp2_with (first | (go_at_call 47; refine (radd_is _ _ ?_ ?_ ?_ ?_ _).mono ?_; omega; omega; omega; omega; rintro e w' ⟨rfl, rfl⟩) | (go_at_call 48; refine (rsub_is _ _ ?_ ?_ ?_ ?_ _).mono ?_; omega; omega; omega; omega; rintro e w' ⟨rfl, rfl⟩) | (go_at_call 50; refine (refFill_any _ ?_ _).mono ?_; omega; rintro e w' ⟨rfl, rfl⟩) | (go_at_call 52; refine (rdown_is _ _ ?_ ?_ ?_ ?_ _).mono ?_; omega; omega; omega; omega; rintro e w' ⟨rfl, rfl⟩) | (go_at_call 51; refine (ref_any _ _ _ ?_ ?_ ?_ ?_ _).mono ?_; omega; omega; omega; omega; rintro e w' ⟨rfl, rfl⟩))
  go_region_held3 (fun w' => w'.cell? ⟨w.heap.size, 0, none⟩ = some (.int .i64 al) ∧ w'.cell? ⟨w.heap.size, 1, none⟩ = some (.int .i64 ah) ∧ w'.cell? ⟨w.heap.size + 1, 0, none⟩ = some (.int .i64 bl) ∧ w'.cell? ⟨w.heap.size + 1, 1, none⟩ = some (.int .i64 bh)) (first | (simp [go_sem]; done) | (simp [go_sem, *]; done) | go_keep) (first | (go_at_call 47; refine (radd_is _ _ ?_ ?_ ?_ ?_ _).mono ?_; omega; omega; omega; omega; rintro e w' ⟨rfl, rfl⟩) | (go_at_call 48; refine (rsub_is _ _ ?_ ?_ ?_ ?_ _).mono ?_; omega; omega; omega; omega; rintro e w' ⟨rfl, rfl⟩) | (go_at_call 50; refine (refFill_any _ ?_ _).mono ?_; omega; rintro e w' ⟨rfl, rfl⟩) | (go_at_call 52; refine (rdown_is _ _ ?_ ?_ ?_ ?_ _).mono ?_; omega; omega; omega; omega; rintro e w' ⟨rfl, rfl⟩) | (go_at_call 51; refine (ref_any _ _ _ ?_ ?_ ?_ ?_ _).mono ?_; omega; omega; omega; omega; rintro e w' ⟨rfl, rfl⟩))
  all_goals go_wp2_with (first | (go_at_call 47; refine (radd_is _ _ ?_ ?_ ?_ ?_ _).mono ?_; omega; omega; omega; omega; rintro e w' ⟨rfl, rfl⟩) | (go_at_call 48; refine (rsub_is _ _ ?_ ?_ ?_ ?_ _).mono ?_; omega; omega; omega; omega; rintro e w' ⟨rfl, rfl⟩) | (go_at_call 50; refine (refFill_any _ ?_ _).mono ?_; omega; rintro e w' ⟨rfl, rfl⟩) | (go_at_call 52; refine (rdown_is _ _ ?_ ?_ ?_ ?_ _).mono ?_; omega; omega; omega; omega; rintro e w' ⟨rfl, rfl⟩) | (go_at_call 51; refine (ref_any _ _ _ ?_ ?_ ?_ ?_ _).mono ?_; omega; omega; omega; omega; rintro e w' ⟨rfl, rfl⟩))
  all_goals go_quiet ((first | (go_at_call 52; first | exact (rdown_is _ _ z1 z1b kA kB _).mono fun e w' ⟨he, hw⟩ => ⟨he, _, hw⟩ | exact (rdown_is _ _ z2 z2b kA kB _).mono fun e w' ⟨he, hw⟩ => ⟨he, _, hw⟩)))
  all_goals go_wp2_with (first | (go_at_call 47; refine (radd_is _ _ ?_ ?_ ?_ ?_ _).mono ?_; omega; omega; omega; omega; rintro e w' ⟨rfl, rfl⟩) | (go_at_call 48; refine (rsub_is _ _ ?_ ?_ ?_ ?_ _).mono ?_; omega; omega; omega; omega; rintro e w' ⟨rfl, rfl⟩) | (go_at_call 50; refine (refFill_any _ ?_ _).mono ?_; omega; rintro e w' ⟨rfl, rfl⟩) | (go_at_call 52; refine (rdown_is _ _ ?_ ?_ ?_ ?_ _).mono ?_; omega; omega; omega; omega; rintro e w' ⟨rfl, rfl⟩) | (go_at_call 51; refine (ref_any _ _ _ ?_ ?_ ?_ ?_ _).mono ?_; omega; omega; omega; omega; rintro e w' ⟨rfl, rfl⟩))
  all_goals exact bodyPost_ret (v := .agg #[.int .i64 (-9223372036854775808), .int .i64 9223372036854775807]) (by simp [results, Tryd.results13, go_sem]) rfl ⟨rfl, by repeat' first | exact Below.refl _ _ | refine Below.alloc ?_ ?_ _ | refine Below.setCell ?_ ?_ _ | refine Below.drew ?_ | refine below_drewN ?_ _ | (simp; done) | (simp; omega) | (simp [drew_size]; done) | (simp [drew_size]; omega) | omega⟩
set_option maxHeartbeats 1000000 in
set_option maxRecDepth 100000 in
theorem rbd_10nx (al ah bl bh : Int) (pal : -9223372036854775808 ≤ al) (qal : al ≤ 9223372036854775807) (pah : -9223372036854775808 ≤ ah) (qah : ah ≤ 9223372036854775807) (pbl : -9223372036854775808 ≤ bl) (qbl : bl ≤ 9223372036854775807) (pbh : -9223372036854775808 ≤ bh) (qbh : bh ≤ 9223372036854775807) (oa : al ≤ ah) (ob : bl ≤ bh) (ha : al < 0) (he : bl = bh) (f1 : fits (al * 2 ^ sixBits (bl % 64)) = false) (w : World) (hA : AllAt w) : Calls Tryd.prog 13 #[.int .i64 10, .agg #[.int .i64 al, .int .i64 ah], .agg #[.int .i64 bl, .int .i64 bh]] w fun e w' => e = .returned (.agg #[.int .i64 (-9223372036854775808), .int .i64 9223372036854775807]) ∧ Below w.heap.size w w' := by
  obtain ⟨gz, g0, g1⟩ := hA
  have gz0 : 2 < w.heap.size := by omega
  have gz1 : 2 < w.heap.size + 1 := by omega
  have gz2 : 2 < w.heap.size + 1 + 1 := by omega
  have gz3 : 2 < w.heap.size + 1 + 1 + 1 := by omega
  have gz4 : 2 < w.heap.size + 1 + 1 + 1 + 1 := by omega
  have hx := and63 bl
  have hk0 : 0 ≤ bl % 64 := Int.emod_nonneg _ (by decide)
  have hk1 : bl % 64 < 64 := Int.emod_lt_of_pos _ (by decide)
  have da : decide (0 ≤ al) = false := by simp; omega
  have kn : (bl == bh) = true := by simp; omega
  clear he
  have b1 : (doesV 10 al (bl % 64) / 2 ^ sixBits (bl % 64) == al) = false := by rw [doesV_10, back_fits (sixBits_lt _)]; exact f1
  have kA : -9223372036854775808 ≤ bl % 64 := by omega
  have kB : bl % 64 ≤ 9223372036854775807 := by omega
  have z1 := doesV_10_bd al (bl % 64)
  have z2 := doesV_10_bd ah (bl % 64)
  obtain ⟨z1, z1b⟩ := z1
  obtain ⟨z2, z2b⟩ := z2
  go_enter Tryd.func13, Tryd.ntmps13
  go_wp2_with (first | (go_at_call 47; refine (radd_is _ _ ?_ ?_ ?_ ?_ _).mono ?_; omega; omega; omega; omega; rintro e w' ⟨rfl, rfl⟩) | (go_at_call 48; refine (rsub_is _ _ ?_ ?_ ?_ ?_ _).mono ?_; omega; omega; omega; omega; rintro e w' ⟨rfl, rfl⟩) | (go_at_call 50; refine (refFill_any _ ?_ _).mono ?_; omega; rintro e w' ⟨rfl, rfl⟩) | (go_at_call 52; refine (rdown_is _ _ ?_ ?_ ?_ ?_ _).mono ?_; omega; omega; omega; omega; rintro e w' ⟨rfl, rfl⟩) | (go_at_call 51; refine (ref_any _ _ _ ?_ ?_ ?_ ?_ _).mono ?_; omega; omega; omega; omega; rintro e w' ⟨rfl, rfl⟩))
  go_region_held3 (fun w' => w'.cell? ⟨w.heap.size, 0, none⟩ = some (.int .i64 al) ∧ w'.cell? ⟨w.heap.size, 1, none⟩ = some (.int .i64 ah) ∧ w'.cell? ⟨w.heap.size + 1, 0, none⟩ = some (.int .i64 bl) ∧ w'.cell? ⟨w.heap.size + 1, 1, none⟩ = some (.int .i64 bh)) (first | (simp [go_sem]; done) | (simp [go_sem, *]; done) | go_keep) (first | (go_at_call 47; refine (radd_is _ _ ?_ ?_ ?_ ?_ _).mono ?_; omega; omega; omega; omega; rintro e w' ⟨rfl, rfl⟩) | (go_at_call 48; refine (rsub_is _ _ ?_ ?_ ?_ ?_ _).mono ?_; omega; omega; omega; omega; rintro e w' ⟨rfl, rfl⟩) | (go_at_call 50; refine (refFill_any _ ?_ _).mono ?_; omega; rintro e w' ⟨rfl, rfl⟩) | (go_at_call 52; refine (rdown_is _ _ ?_ ?_ ?_ ?_ _).mono ?_; omega; omega; omega; omega; rintro e w' ⟨rfl, rfl⟩) | (go_at_call 51; refine (ref_any _ _ _ ?_ ?_ ?_ ?_ _).mono ?_; omega; omega; omega; omega; rintro e w' ⟨rfl, rfl⟩))
  all_goals go_wp2_with (first | (go_at_call 47; refine (radd_is _ _ ?_ ?_ ?_ ?_ _).mono ?_; omega; omega; omega; omega; rintro e w' ⟨rfl, rfl⟩) | (go_at_call 48; refine (rsub_is _ _ ?_ ?_ ?_ ?_ _).mono ?_; omega; omega; omega; omega; rintro e w' ⟨rfl, rfl⟩) | (go_at_call 50; refine (refFill_any _ ?_ _).mono ?_; omega; rintro e w' ⟨rfl, rfl⟩) | (go_at_call 52; refine (rdown_is _ _ ?_ ?_ ?_ ?_ _).mono ?_; omega; omega; omega; omega; rintro e w' ⟨rfl, rfl⟩) | (go_at_call 51; refine (ref_any _ _ _ ?_ ?_ ?_ ?_ _).mono ?_; omega; omega; omega; omega; rintro e w' ⟨rfl, rfl⟩))
  all_goals go_quiet ((first | (go_at_call 52; first | exact (rdown_is _ _ z1 z1b kA kB _).mono fun e w' ⟨he, hw⟩ => ⟨he, _, hw⟩ | exact (rdown_is _ _ z2 z2b kA kB _).mono fun e w' ⟨he, hw⟩ => ⟨he, _, hw⟩)))
  all_goals go_wp2_with (first | (go_at_call 47; refine (radd_is _ _ ?_ ?_ ?_ ?_ _).mono ?_; omega; omega; omega; omega; rintro e w' ⟨rfl, rfl⟩) | (go_at_call 48; refine (rsub_is _ _ ?_ ?_ ?_ ?_ _).mono ?_; omega; omega; omega; omega; rintro e w' ⟨rfl, rfl⟩) | (go_at_call 50; refine (refFill_any _ ?_ _).mono ?_; omega; rintro e w' ⟨rfl, rfl⟩) | (go_at_call 52; refine (rdown_is _ _ ?_ ?_ ?_ ?_ _).mono ?_; omega; omega; omega; omega; rintro e w' ⟨rfl, rfl⟩) | (go_at_call 51; refine (ref_any _ _ _ ?_ ?_ ?_ ?_ _).mono ?_; omega; omega; omega; omega; rintro e w' ⟨rfl, rfl⟩))
  all_goals exact bodyPost_ret (v := .agg #[.int .i64 (-9223372036854775808), .int .i64 9223372036854775807]) (by simp [results, Tryd.results13, go_sem]) rfl ⟨rfl, by repeat' first | exact Below.refl _ _ | refine Below.alloc ?_ ?_ _ | refine Below.setCell ?_ ?_ _ | refine Below.drew ?_ | refine below_drewN ?_ _ | (simp; done) | (simp; omega) | (simp [drew_size]; done) | (simp [drew_size]; omega) | omega⟩
set_option maxHeartbeats 1000000 in
set_option maxRecDepth 100000 in
theorem rbd_10nz (al ah bl bh : Int) (pal : -9223372036854775808 ≤ al) (qal : al ≤ 9223372036854775807) (pah : -9223372036854775808 ≤ ah) (qah : ah ≤ 9223372036854775807) (pbl : -9223372036854775808 ≤ bl) (qbl : bl ≤ 9223372036854775807) (pbh : -9223372036854775808 ≤ bh) (qbh : bh ≤ 9223372036854775807) (oa : al ≤ ah) (ob : bl ≤ bh) (ha : al < 0) (he : bl = bh) (f1 : fits (al * 2 ^ sixBits (bl % 64)) = true) (f2 : fits (ah * 2 ^ sixBits (bl % 64)) = false) (w : World) (hA : AllAt w) : Calls Tryd.prog 13 #[.int .i64 10, .agg #[.int .i64 al, .int .i64 ah], .agg #[.int .i64 bl, .int .i64 bh]] w fun e w' => e = .returned (.agg #[.int .i64 (-9223372036854775808), .int .i64 9223372036854775807]) ∧ Below w.heap.size w w' := by
  obtain ⟨gz, g0, g1⟩ := hA
  have gz0 : 2 < w.heap.size := by omega
  have gz1 : 2 < w.heap.size + 1 := by omega
  have gz2 : 2 < w.heap.size + 1 + 1 := by omega
  have gz3 : 2 < w.heap.size + 1 + 1 + 1 := by omega
  have gz4 : 2 < w.heap.size + 1 + 1 + 1 + 1 := by omega
  have hx := and63 bl
  have hk0 : 0 ≤ bl % 64 := Int.emod_nonneg _ (by decide)
  have hk1 : bl % 64 < 64 := Int.emod_lt_of_pos _ (by decide)
  have da : decide (0 ≤ al) = false := by simp; omega
  have kn : (bl == bh) = true := by simp; omega
  clear he
  have b1 : (doesV 10 al (bl % 64) / 2 ^ sixBits (bl % 64) == al) = true := by rw [doesV_10, back_fits (sixBits_lt _)]; exact f1
  have b2 : (doesV 10 ah (bl % 64) / 2 ^ sixBits (bl % 64) == ah) = false := by rw [doesV_10, back_fits (sixBits_lt _)]; exact f2
  have kA : -9223372036854775808 ≤ bl % 64 := by omega
  have kB : bl % 64 ≤ 9223372036854775807 := by omega
  have z1 := doesV_10_bd al (bl % 64)
  have z2 := doesV_10_bd ah (bl % 64)
  obtain ⟨z1, z1b⟩ := z1
  obtain ⟨z2, z2b⟩ := z2
  go_enter Tryd.func13, Tryd.ntmps13
  go_wp2_with (first | (go_at_call 47; refine (radd_is _ _ ?_ ?_ ?_ ?_ _).mono ?_; omega; omega; omega; omega; rintro e w' ⟨rfl, rfl⟩) | (go_at_call 48; refine (rsub_is _ _ ?_ ?_ ?_ ?_ _).mono ?_; omega; omega; omega; omega; rintro e w' ⟨rfl, rfl⟩) | (go_at_call 50; refine (refFill_any _ ?_ _).mono ?_; omega; rintro e w' ⟨rfl, rfl⟩) | (go_at_call 52; refine (rdown_is _ _ ?_ ?_ ?_ ?_ _).mono ?_; omega; omega; omega; omega; rintro e w' ⟨rfl, rfl⟩) | (go_at_call 51; refine (ref_any _ _ _ ?_ ?_ ?_ ?_ _).mono ?_; omega; omega; omega; omega; rintro e w' ⟨rfl, rfl⟩))
  go_region_held3 (fun w' => w'.cell? ⟨w.heap.size, 0, none⟩ = some (.int .i64 al) ∧ w'.cell? ⟨w.heap.size, 1, none⟩ = some (.int .i64 ah) ∧ w'.cell? ⟨w.heap.size + 1, 0, none⟩ = some (.int .i64 bl) ∧ w'.cell? ⟨w.heap.size + 1, 1, none⟩ = some (.int .i64 bh)) (first | (simp [go_sem]; done) | (simp [go_sem, *]; done) | go_keep) (first | (go_at_call 47; refine (radd_is _ _ ?_ ?_ ?_ ?_ _).mono ?_; omega; omega; omega; omega; rintro e w' ⟨rfl, rfl⟩) | (go_at_call 48; refine (rsub_is _ _ ?_ ?_ ?_ ?_ _).mono ?_; omega; omega; omega; omega; rintro e w' ⟨rfl, rfl⟩) | (go_at_call 50; refine (refFill_any _ ?_ _).mono ?_; omega; rintro e w' ⟨rfl, rfl⟩) | (go_at_call 52; refine (rdown_is _ _ ?_ ?_ ?_ ?_ _).mono ?_; omega; omega; omega; omega; rintro e w' ⟨rfl, rfl⟩) | (go_at_call 51; refine (ref_any _ _ _ ?_ ?_ ?_ ?_ _).mono ?_; omega; omega; omega; omega; rintro e w' ⟨rfl, rfl⟩))
  all_goals go_wp2_with (first | (go_at_call 47; refine (radd_is _ _ ?_ ?_ ?_ ?_ _).mono ?_; omega; omega; omega; omega; rintro e w' ⟨rfl, rfl⟩) | (go_at_call 48; refine (rsub_is _ _ ?_ ?_ ?_ ?_ _).mono ?_; omega; omega; omega; omega; rintro e w' ⟨rfl, rfl⟩) | (go_at_call 50; refine (refFill_any _ ?_ _).mono ?_; omega; rintro e w' ⟨rfl, rfl⟩) | (go_at_call 52; refine (rdown_is _ _ ?_ ?_ ?_ ?_ _).mono ?_; omega; omega; omega; omega; rintro e w' ⟨rfl, rfl⟩) | (go_at_call 51; refine (ref_any _ _ _ ?_ ?_ ?_ ?_ _).mono ?_; omega; omega; omega; omega; rintro e w' ⟨rfl, rfl⟩))
  all_goals go_quiet ((first | (go_at_call 52; first | exact (rdown_is _ _ z1 z1b kA kB _).mono fun e w' ⟨he, hw⟩ => ⟨he, _, hw⟩ | exact (rdown_is _ _ z2 z2b kA kB _).mono fun e w' ⟨he, hw⟩ => ⟨he, _, hw⟩)))
  all_goals go_wp2_with (first | (go_at_call 47; refine (radd_is _ _ ?_ ?_ ?_ ?_ _).mono ?_; omega; omega; omega; omega; rintro e w' ⟨rfl, rfl⟩) | (go_at_call 48; refine (rsub_is _ _ ?_ ?_ ?_ ?_ _).mono ?_; omega; omega; omega; omega; rintro e w' ⟨rfl, rfl⟩) | (go_at_call 50; refine (refFill_any _ ?_ _).mono ?_; omega; rintro e w' ⟨rfl, rfl⟩) | (go_at_call 52; refine (rdown_is _ _ ?_ ?_ ?_ ?_ _).mono ?_; omega; omega; omega; omega; rintro e w' ⟨rfl, rfl⟩) | (go_at_call 51; refine (ref_any _ _ _ ?_ ?_ ?_ ?_ _).mono ?_; omega; omega; omega; omega; rintro e w' ⟨rfl, rfl⟩))
  all_goals exact bodyPost_ret (v := .agg #[.int .i64 (-9223372036854775808), .int .i64 9223372036854775807]) (by simp [results, Tryd.results13, go_sem]) rfl ⟨rfl, by repeat' first | exact Below.refl _ _ | refine Below.alloc ?_ ?_ _ | refine Below.setCell ?_ ?_ _ | refine Below.drew ?_ | refine below_drewN ?_ _ | (simp; done) | (simp; omega) | (simp [drew_size]; done) | (simp [drew_size]; omega) | omega⟩
set_option maxHeartbeats 1000000 in
set_option maxRecDepth 100000 in
theorem rbd_10nn (al ah bl bh : Int) (pal : -9223372036854775808 ≤ al) (qal : al ≤ 9223372036854775807) (pah : -9223372036854775808 ≤ ah) (qah : ah ≤ 9223372036854775807) (pbl : -9223372036854775808 ≤ bl) (qbl : bl ≤ 9223372036854775807) (pbh : -9223372036854775808 ≤ bh) (qbh : bh ≤ 9223372036854775807) (oa : al ≤ ah) (ob : bl ≤ bh) (ha : al < 0) (he : bl ≠ bh) (w : World) (hA : AllAt w) : Calls Tryd.prog 13 #[.int .i64 10, .agg #[.int .i64 al, .int .i64 ah], .agg #[.int .i64 bl, .int .i64 bh]] w fun e w' => e = .returned (.agg #[.int .i64 (-9223372036854775808), .int .i64 9223372036854775807]) ∧ Below w.heap.size w w' := by
  obtain ⟨gz, g0, g1⟩ := hA
  have gz0 : 2 < w.heap.size := by omega
  have gz1 : 2 < w.heap.size + 1 := by omega
  have gz2 : 2 < w.heap.size + 1 + 1 := by omega
  have gz3 : 2 < w.heap.size + 1 + 1 + 1 := by omega
  have gz4 : 2 < w.heap.size + 1 + 1 + 1 + 1 := by omega
  have hx := and63 bl
  have hk0 : 0 ≤ bl % 64 := Int.emod_nonneg _ (by decide)
  have hk1 : bl % 64 < 64 := Int.emod_lt_of_pos _ (by decide)
  have da : decide (0 ≤ al) = false := by simp; omega
  have kn : (bl == bh) = false := by simp; omega
  clear he
  have kA : -9223372036854775808 ≤ bl % 64 := by omega
  have kB : bl % 64 ≤ 9223372036854775807 := by omega
  have z1 := doesV_10_bd al (bl % 64)
  have z2 := doesV_10_bd ah (bl % 64)
  obtain ⟨z1, z1b⟩ := z1
  obtain ⟨z2, z2b⟩ := z2
  go_enter Tryd.func13, Tryd.ntmps13
  go_wp2_with (first | (go_at_call 47; refine (radd_is _ _ ?_ ?_ ?_ ?_ _).mono ?_; omega; omega; omega; omega; rintro e w' ⟨rfl, rfl⟩) | (go_at_call 48; refine (rsub_is _ _ ?_ ?_ ?_ ?_ _).mono ?_; omega; omega; omega; omega; rintro e w' ⟨rfl, rfl⟩) | (go_at_call 50; refine (refFill_any _ ?_ _).mono ?_; omega; rintro e w' ⟨rfl, rfl⟩) | (go_at_call 52; refine (rdown_is _ _ ?_ ?_ ?_ ?_ _).mono ?_; omega; omega; omega; omega; rintro e w' ⟨rfl, rfl⟩) | (go_at_call 51; refine (ref_any _ _ _ ?_ ?_ ?_ ?_ _).mono ?_; omega; omega; omega; omega; rintro e w' ⟨rfl, rfl⟩))
  go_region_held3 (fun w' => w'.cell? ⟨w.heap.size, 0, none⟩ = some (.int .i64 al) ∧ w'.cell? ⟨w.heap.size, 1, none⟩ = some (.int .i64 ah) ∧ w'.cell? ⟨w.heap.size + 1, 0, none⟩ = some (.int .i64 bl) ∧ w'.cell? ⟨w.heap.size + 1, 1, none⟩ = some (.int .i64 bh)) (first | (simp [go_sem]; done) | (simp [go_sem, *]; done) | go_keep) (first | (go_at_call 47; refine (radd_is _ _ ?_ ?_ ?_ ?_ _).mono ?_; omega; omega; omega; omega; rintro e w' ⟨rfl, rfl⟩) | (go_at_call 48; refine (rsub_is _ _ ?_ ?_ ?_ ?_ _).mono ?_; omega; omega; omega; omega; rintro e w' ⟨rfl, rfl⟩) | (go_at_call 50; refine (refFill_any _ ?_ _).mono ?_; omega; rintro e w' ⟨rfl, rfl⟩) | (go_at_call 52; refine (rdown_is _ _ ?_ ?_ ?_ ?_ _).mono ?_; omega; omega; omega; omega; rintro e w' ⟨rfl, rfl⟩) | (go_at_call 51; refine (ref_any _ _ _ ?_ ?_ ?_ ?_ _).mono ?_; omega; omega; omega; omega; rintro e w' ⟨rfl, rfl⟩))
  all_goals go_wp2_with (first | (go_at_call 47; refine (radd_is _ _ ?_ ?_ ?_ ?_ _).mono ?_; omega; omega; omega; omega; rintro e w' ⟨rfl, rfl⟩) | (go_at_call 48; refine (rsub_is _ _ ?_ ?_ ?_ ?_ _).mono ?_; omega; omega; omega; omega; rintro e w' ⟨rfl, rfl⟩) | (go_at_call 50; refine (refFill_any _ ?_ _).mono ?_; omega; rintro e w' ⟨rfl, rfl⟩) | (go_at_call 52; refine (rdown_is _ _ ?_ ?_ ?_ ?_ _).mono ?_; omega; omega; omega; omega; rintro e w' ⟨rfl, rfl⟩) | (go_at_call 51; refine (ref_any _ _ _ ?_ ?_ ?_ ?_ _).mono ?_; omega; omega; omega; omega; rintro e w' ⟨rfl, rfl⟩))
  all_goals go_quiet ((first | (go_at_call 52; first | exact (rdown_is _ _ z1 z1b kA kB _).mono fun e w' ⟨he, hw⟩ => ⟨he, _, hw⟩ | exact (rdown_is _ _ z2 z2b kA kB _).mono fun e w' ⟨he, hw⟩ => ⟨he, _, hw⟩)))
  all_goals go_wp2_with (first | (go_at_call 47; refine (radd_is _ _ ?_ ?_ ?_ ?_ _).mono ?_; omega; omega; omega; omega; rintro e w' ⟨rfl, rfl⟩) | (go_at_call 48; refine (rsub_is _ _ ?_ ?_ ?_ ?_ _).mono ?_; omega; omega; omega; omega; rintro e w' ⟨rfl, rfl⟩) | (go_at_call 50; refine (refFill_any _ ?_ _).mono ?_; omega; rintro e w' ⟨rfl, rfl⟩) | (go_at_call 52; refine (rdown_is _ _ ?_ ?_ ?_ ?_ _).mono ?_; omega; omega; omega; omega; rintro e w' ⟨rfl, rfl⟩) | (go_at_call 51; refine (ref_any _ _ _ ?_ ?_ ?_ ?_ _).mono ?_; omega; omega; omega; omega; rintro e w' ⟨rfl, rfl⟩))
  all_goals exact bodyPost_ret (v := .agg #[.int .i64 (-9223372036854775808), .int .i64 9223372036854775807]) (by simp [results, Tryd.results13, go_sem]) rfl ⟨rfl, by repeat' first | exact Below.refl _ _ | refine Below.alloc ?_ ?_ _ | refine Below.setCell ?_ ?_ _ | refine Below.drew ?_ | refine below_drewN ?_ _ | (simp; done) | (simp; omega) | (simp [drew_size]; done) | (simp [drew_size]; omega) | omega⟩
end Go.Proofs.YtllphbfhfmieaaaDoor
