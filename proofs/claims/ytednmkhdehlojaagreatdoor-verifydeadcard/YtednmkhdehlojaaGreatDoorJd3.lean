/-
  What bound.Does returns: as a function on integers, code by code; the world below is as it was. Conditions: the ends are numbers of 64 bits, the low end not above the high one. What bound.Meet, bound.Opposite and bound.Narrow return, as functions on integers; the world below is as it was. Conditions: the ends are numbers of 64 bits, the low end not above the high one. What bound.apart and bound.Narrow return, as functions on integers; the world below is as it was. Conditions: the ends are numbers of 64 bits, the low end not above the high one.
-/
import Derived.Test.YtednmkhdehlojaaGreatDoorJd2
import Derived.Deep.RegionHeld3
import Derived.Deep.DeepMust
import Derived.Outline
import Derived.BigQuiet
open Go.Value renaming int → vI
open Go.IntKind renaming i64 → vK
open Go.RowKit.Below renaming alloc → bA, setCell → bS, drew → bD, refl → bF
set_option maxHeartbeats 4000000
set_option maxRecDepth 1000000
namespace Go.Proofs.YtednmkhdehlojaaGreatDoor
open Go.ChangeShapes Go.WideShapes Go.ChangeAt Go.RowKit
attribute [local simp] drew_size

theorem doubled_at (a k : Int) (h0 : 0 ≤ k) (h1 : k < 64) (w : World) : Calls Tryz.prog 220 #[vI vK a, vI vK k] w fun e w' => e = .returned (.agg #[vI vK (wrap64 (a * 2 ^ k.toNat)), .bool (fits (a * 2 ^ k.toNat))]) ∧ w' = w.alloc (.cells #[vI vK (wrap64 (a * 2 ^ k.toNat)), .bool (fits (a * 2 ^ k.toNat))] 283) := by
  have hf : Hid ((wrap64 (a * 2 ^ k.toNat) / 2 ^ k.toNat == a) = fits (a * 2 ^ k.toNat)) := back_fits (by omega)
  go_enter Tryz.func220, Tryz.ntmps220
  go_wp2
  rw [hf.out]
  exact bodyPost_ret (v := .agg #[vI vK (wrap64 (a * 2 ^ k.toNat)), .bool (fits (a * 2 ^ k.toNat))]) (by simp [results, Tryz.results220, go_sem]) rfl ⟨rfl, rfl⟩
theorem plus_at (a b : Int) (pa : -9223372036854775808 ≤ a) (qa : a ≤ 9223372036854775807) (pb : -9223372036854775808 ≤ b) (qb : b ≤ 9223372036854775807) (w : World) : Calls Tryz.prog 200 #[vI vK a, vI vK b] w fun e w' => e = .returned (.agg #[vI vK (wrap64 (a + b)), .bool (fits (a + b))]) ∧ w' = w.alloc (.cells #[vI vK (wrap64 (a + b)), .bool (fits (a + b))] 283) := by
  have hf : Hid ((decide (a ≤ wrap64 (a + b)) == decide (0 ≤ b)) = fits (a + b)) := plus_fits pa qa pb qb
  clear pa qa pb qb
  go_enter Tryz.func200, Tryz.ntmps200
  go_wp2
  rw [hf.out]
  exact bodyPost_ret (v := .agg #[vI vK (wrap64 (a + b)), .bool (fits (a + b))]) (by simp [results, Tryz.results200, go_sem]) rfl ⟨rfl, rfl⟩
theorem minus_at (a b : Int) (pa : -9223372036854775808 ≤ a) (qa : a ≤ 9223372036854775807) (pb : -9223372036854775808 ≤ b) (qb : b ≤ 9223372036854775807) (w : World) : Calls Tryz.prog 201 #[vI vK a, vI vK b] w fun e w' => e = .returned (.agg #[vI vK (wrap64 (a - b)), .bool (fits (a - b))]) ∧ w' = w.alloc (.cells #[vI vK (wrap64 (a - b)), .bool (fits (a - b))] 283) := by
  have hf : Hid ((decide (wrap64 (a - b) ≤ a) == decide (0 ≤ b)) = fits (a - b)) := minus_fits pa qa pb qb
  clear pa qa pb qb
  go_enter Tryz.func201, Tryz.ntmps201
  go_wp2
  rw [hf.out]
  exact bodyPost_ret (v := .agg #[vI vK (wrap64 (a - b)), .bool (fits (a - b))]) (by simp [results, Tryz.results201, go_sem]) rfl ⟨rfl, rfl⟩
theorem one_at (n : Int) (w : World) : Calls Tryz.prog 37 #[vI vK n] w fun e w' => e = .returned (.agg #[vI vK n, vI vK n]) ∧ w' = w.alloc (.cells #[vI vK n, vI vK n] 43) := by
  go_enter Tryz.func37, Tryz.ntmps37
  go_wp2
  exact bodyPost_ret (v := .agg #[vI vK n, vI vK n]) (by simp [results, Tryz.results37, go_sem]) rfl ⟨rfl, rfl⟩
theorem between_fit (u v : Int) (w : World) : Calls Tryz.prog 199 #[.agg #[vI vK (wrap64 u), .bool (fits u), vI vK (wrap64 v), .bool (fits v)]] w fun e w' => e = .returned (.agg #[vI vK ((fit2 u v).1), vI vK ((fit2 u v).2)]) ∧ Below w.heap.size w w' := by
  rw [← fit2_1, ← fit2_2]
  exact between_is _ _ _ _ w
theorem quotient_na (al ah bl bh : Int) (ha : al < 0) (w : World) : Calls Tryz.prog 203 #[.agg #[vI vK al, vI vK ah], .agg #[vI vK bl, vI vK bh]] w fun e w' => e = .returned (.agg #[vI vK (-9223372036854775808), vI vK 9223372036854775807]) ∧ Below w.heap.size w w' := by
  have _ha : decide (0 ≤ al) = false := by simp; omega
  go_enter Tryz.func203, Tryz.ntmps203
  go_wp2_with (first | (go_at_call 151; refine (all_is _).mono ?_; rintro e w1 ⟨rfl, hb1⟩; obtain ⟨hcl1, hfr1⟩ := old_cells hb1; have hs1 := hb1.size; (try simp only [drew_size] at hs1); (try simp at hs1); have hbw1 : Below w.heap.size w w1 := by ((refine Below.trans ?_ (hb1.mono ?_)) <;> repeat' first | exact bF _ _ | refine bA ?_ ?_ _ | refine bS ?_ ?_ _ | refine bD ?_ | (simp; done) | (simp; omega) | (simp [drew_size]; done) | (simp [drew_size]; omega) | omega)) | (go_at_call 185; refine (does_any _ _ _ ?_ ?_ _).mono ?_; omega; omega; rintro e w' ⟨rfl, rfl⟩) | go_in)
  all_goals exact bodyPost_ret (v := .agg #[vI vK (-9223372036854775808), vI vK 9223372036854775807]) (by simp [results, Tryz.results203, go_sem, hcl1]) rfl ⟨rfl, by repeat' first | exact bF _ _ | exact hbw1 | refine bA ?_ ?_ _ | refine bS ?_ ?_ _ | refine bD ?_ | (simp; done) | (simp; omega) | (simp [drew_size]; done) | (simp [drew_size]; omega) | omega⟩
theorem quotient_nb (al ah bl bh : Int) (ha : 0 ≤ al) (hb : bl < 0) (w : World) : Calls Tryz.prog 203 #[.agg #[vI vK al, vI vK ah], .agg #[vI vK bl, vI vK bh]] w fun e w' => e = .returned (.agg #[vI vK (-9223372036854775808), vI vK 9223372036854775807]) ∧ Below w.heap.size w w' := by
  have _hb : decide (0 ≤ bl) = false := by simp; omega
  go_enter Tryz.func203, Tryz.ntmps203
  go_wp2_with (first | (go_at_call 151; refine (all_is _).mono ?_; rintro e w1 ⟨rfl, hb1⟩; obtain ⟨hcl1, hfr1⟩ := old_cells hb1; have hs1 := hb1.size; (try simp only [drew_size] at hs1); (try simp at hs1); have hbw1 : Below w.heap.size w w1 := by ((refine Below.trans ?_ (hb1.mono ?_)) <;> repeat' first | exact bF _ _ | refine bA ?_ ?_ _ | refine bS ?_ ?_ _ | refine bD ?_ | (simp; done) | (simp; omega) | (simp [drew_size]; done) | (simp [drew_size]; omega) | omega)) | (go_at_call 185; refine (does_any _ _ _ ?_ ?_ _).mono ?_; omega; omega; rintro e w' ⟨rfl, rfl⟩) | go_in)
  all_goals exact bodyPost_ret (v := .agg #[vI vK (-9223372036854775808), vI vK 9223372036854775807]) (by simp [results, Tryz.results203, go_sem, hcl1]) rfl ⟨rfl, by repeat' first | exact bF _ _ | exact hbw1 | refine bA ?_ ?_ _ | refine bS ?_ ?_ _ | refine bD ?_ | (simp; done) | (simp; omega) | (simp [drew_size]; done) | (simp [drew_size]; omega) | omega⟩
theorem quotient_z (al ah bl bh : Int) (ha : 0 ≤ al) (hb : 0 ≤ bl) (hz : bl ≤ 0) (w : World) : Calls Tryz.prog 203 #[.agg #[vI vK al, vI vK ah], .agg #[vI vK bl, vI vK bh]] w fun e w' => e = .returned (.agg #[vI vK 0, vI vK ah]) ∧ Below w.heap.size w w' := by
  have _hz : decide (0 < bl) = false := by simp; omega
  go_enter Tryz.func203, Tryz.ntmps203
  go_wp2_with (first | (go_at_call 151; refine (all_is _).mono ?_; rintro e w1 ⟨rfl, hb1⟩; obtain ⟨hcl1, hfr1⟩ := old_cells hb1; have hs1 := hb1.size; (try simp only [drew_size] at hs1); (try simp at hs1); have hbw1 : Below w.heap.size w w1 := by ((refine Below.trans ?_ (hb1.mono ?_)) <;> repeat' first | exact bF _ _ | refine bA ?_ ?_ _ | refine bS ?_ ?_ _ | refine bD ?_ | (simp; done) | (simp; omega) | (simp [drew_size]; done) | (simp [drew_size]; omega) | omega)) | (go_at_call 185; refine (does_any _ _ _ ?_ ?_ _).mono ?_; omega; omega; rintro e w' ⟨rfl, rfl⟩) | go_in)
  all_goals exact bodyPost_ret (v := .agg #[vI vK 0, vI vK ah]) (by simp [results, Tryz.results203, go_sem]) rfl ⟨rfl, by repeat' first | exact bF _ _ | refine bA ?_ ?_ _ | refine bS ?_ ?_ _ | refine bD ?_ | (simp; done) | (simp; omega) | (simp [drew_size]; done) | (simp [drew_size]; omega) | omega⟩
theorem rest_na (al ah bl bh : Int) (ha : al < 0) (w : World) : Calls Tryz.prog 204 #[.agg #[vI vK al, vI vK ah], .agg #[vI vK bl, vI vK bh]] w fun e w' => e = .returned (.agg #[vI vK (-9223372036854775808), vI vK 9223372036854775807]) ∧ Below w.heap.size w w' := by
  have _ha : decide (0 ≤ al) = false := by simp; omega
  go_enter Tryz.func204, Tryz.ntmps204
  go_wp2_with (first | (go_at_call 151; refine (all_is _).mono ?_; rintro e w1 ⟨rfl, hb1⟩; obtain ⟨hcl1, hfr1⟩ := old_cells hb1; have hs1 := hb1.size; (try simp only [drew_size] at hs1); (try simp at hs1); have hbw1 : Below w.heap.size w w1 := by ((refine Below.trans ?_ (hb1.mono ?_)) <;> repeat' first | exact bF _ _ | refine bA ?_ ?_ _ | refine bS ?_ ?_ _ | refine bD ?_ | (simp; done) | (simp; omega) | (simp [drew_size]; done) | (simp [drew_size]; omega) | omega)) | (go_at_call 185; refine (does_any _ _ _ ?_ ?_ _).mono ?_; omega; omega; rintro e w' ⟨rfl, rfl⟩) | go_in)
  all_goals exact bodyPost_ret (v := .agg #[vI vK (-9223372036854775808), vI vK 9223372036854775807]) (by simp [results, Tryz.results204, go_sem, hcl1]) rfl ⟨rfl, by repeat' first | exact bF _ _ | exact hbw1 | refine bA ?_ ?_ _ | refine bS ?_ ?_ _ | refine bD ?_ | (simp; done) | (simp; omega) | (simp [drew_size]; done) | (simp [drew_size]; omega) | omega⟩
theorem rest_nb (al ah bl bh : Int) (ha : 0 ≤ al) (hb : bl < 0) (w : World) : Calls Tryz.prog 204 #[.agg #[vI vK al, vI vK ah], .agg #[vI vK bl, vI vK bh]] w fun e w' => e = .returned (.agg #[vI vK (-9223372036854775808), vI vK 9223372036854775807]) ∧ Below w.heap.size w w' := by
  have _hb : decide (0 ≤ bl) = false := by simp; omega
  go_enter Tryz.func204, Tryz.ntmps204
  go_wp2_with (first | (go_at_call 151; refine (all_is _).mono ?_; rintro e w1 ⟨rfl, hb1⟩; obtain ⟨hcl1, hfr1⟩ := old_cells hb1; have hs1 := hb1.size; (try simp only [drew_size] at hs1); (try simp at hs1); have hbw1 : Below w.heap.size w w1 := by ((refine Below.trans ?_ (hb1.mono ?_)) <;> repeat' first | exact bF _ _ | refine bA ?_ ?_ _ | refine bS ?_ ?_ _ | refine bD ?_ | (simp; done) | (simp; omega) | (simp [drew_size]; done) | (simp [drew_size]; omega) | omega)) | (go_at_call 185; refine (does_any _ _ _ ?_ ?_ _).mono ?_; omega; omega; rintro e w' ⟨rfl, rfl⟩) | go_in)
  all_goals exact bodyPost_ret (v := .agg #[vI vK (-9223372036854775808), vI vK 9223372036854775807]) (by simp [results, Tryz.results204, go_sem, hcl1]) rfl ⟨rfl, by repeat' first | exact bF _ _ | exact hbw1 | refine bA ?_ ?_ _ | refine bS ?_ ?_ _ | refine bD ?_ | (simp; done) | (simp; omega) | (simp [drew_size]; done) | (simp [drew_size]; omega) | omega⟩
theorem rest_z (al ah bl bh : Int) (ha : 0 ≤ al) (hb : 0 ≤ bl) (hz : bl ≤ 0) (w : World) : Calls Tryz.prog 204 #[.agg #[vI vK al, vI vK ah], .agg #[vI vK bl, vI vK bh]] w fun e w' => e = .returned (.agg #[vI vK 0, vI vK ah]) ∧ Below w.heap.size w w' := by
  have _hz : decide (0 < bl) = false := by simp; omega
  go_enter Tryz.func204, Tryz.ntmps204
  go_wp2_with (first | (go_at_call 151; refine (all_is _).mono ?_; rintro e w1 ⟨rfl, hb1⟩; obtain ⟨hcl1, hfr1⟩ := old_cells hb1; have hs1 := hb1.size; (try simp only [drew_size] at hs1); (try simp at hs1); have hbw1 : Below w.heap.size w w1 := by ((refine Below.trans ?_ (hb1.mono ?_)) <;> repeat' first | exact bF _ _ | refine bA ?_ ?_ _ | refine bS ?_ ?_ _ | refine bD ?_ | (simp; done) | (simp; omega) | (simp [drew_size]; done) | (simp [drew_size]; omega) | omega)) | (go_at_call 185; refine (does_any _ _ _ ?_ ?_ _).mono ?_; omega; omega; rintro e w' ⟨rfl, rfl⟩) | go_in)
  all_goals exact bodyPost_ret (v := .agg #[vI vK 0, vI vK ah]) (by simp [results, Tryz.results204, go_sem]) rfl ⟨rfl, by repeat' first | exact bF _ _ | refine bA ?_ ?_ _ | refine bS ?_ ?_ _ | refine bD ?_ | (simp; done) | (simp; omega) | (simp [drew_size]; done) | (simp [drew_size]; omega) | omega⟩
theorem quotient_p (al ah bl bh : Int) (ha : 0 ≤ al) (hb : 0 < bl) (p1 : bh ≤ 9223372036854775807) (p2 : bl ≤ 9223372036854775807) (p3 : -9223372036854775808 ≤ bh) (w : World) : Calls Tryz.prog 203 #[.agg #[vI vK al, vI vK ah], .agg #[vI vK bl, vI vK bh]] w fun e w' => e = .returned (.agg #[vI vK (doesV 5 al bh), vI vK (doesV 5 ah bl)]) ∧ Below w.heap.size w w' := by
  have hb0 : 0 ≤ bl := by omega
  go_enter Tryz.func203, Tryz.ntmps203
  go_wp2_with (first | (go_at_call 218; go_in))
  go_region_held3 (fun w' => w'.cell? ⟨w.heap.size, 0, none⟩ = some (vI vK al) ∧ w'.cell? ⟨w.heap.size, 1, none⟩ = some (vI vK ah) ∧ w'.cell? ⟨w.heap.size + 1, 0, none⟩ = some (vI vK bl) ∧ w'.cell? ⟨w.heap.size + 1, 1, none⟩ = some (vI vK bh)) (first | (simp [go_sem]; done) | (simp [go_sem, *]; done) | go_keep) (first | (go_at_call 185; refine (does_any _ _ _ ?_ ?_ _).mono ?_; omega; omega; rintro e w' ⟨rfl, rfl⟩))
  all_goals go_wp2_with (first | (go_at_call 185; refine (does_any _ _ _ ?_ ?_ _).mono ?_; omega; omega; rintro e w' ⟨rfl, rfl⟩))
  all_goals exact bodyPost_ret (v := .agg #[vI vK (doesV 5 al bh), vI vK (doesV 5 ah bl)]) (by simp [results, Tryz.results203, go_sem]) rfl ⟨rfl, by repeat' first | exact bF _ _ | refine bA ?_ ?_ _ | refine bS ?_ ?_ _ | refine bD ?_ | (simp; done) | (simp; omega) | (simp [drew_size]; done) | (simp [drew_size]; omega) | omega⟩
theorem rest_p (al ah bl bh : Int) (ha : 0 ≤ al) (hb : 0 < bl) (p1 : bh ≤ 9223372036854775807) (p3 : bl ≤ bh) (w : World) : Calls Tryz.prog 204 #[.agg #[vI vK al, vI vK ah], .agg #[vI vK bl, vI vK bh]] w fun e w' => e = .returned (.agg #[vI vK 0, vI vK (min ah (bh - 1))]) ∧ Below w.heap.size w w' := by
  have hb0 : 0 ≤ bl := by omega
  go_enter Tryz.func204, Tryz.ntmps204
  go_wp2_with (first | (go_at_call 151; refine (all_is _).mono ?_; rintro e w1 ⟨rfl, hb1⟩; obtain ⟨hcl1, hfr1⟩ := old_cells hb1; have hs1 := hb1.size; (try simp only [drew_size] at hs1); (try simp at hs1); have hbw1 : Below w.heap.size w w1 := by ((refine Below.trans ?_ (hb1.mono ?_)) <;> repeat' first | exact bF _ _ | refine bA ?_ ?_ _ | refine bS ?_ ?_ _ | refine bD ?_ | (simp; done) | (simp; omega) | (simp [drew_size]; done) | (simp [drew_size]; omega) | omega)) | (go_at_call 185; refine (does_any _ _ _ ?_ ?_ _).mono ?_; omega; omega; rintro e w' ⟨rfl, rfl⟩) | go_in)
  all_goals exact bodyPost_ret (v := .agg #[vI vK 0, vI vK (min ah (bh - 1))]) (by simp [results, Tryz.results204, go_sem]) rfl ⟨rfl, by repeat' first | exact bF _ _ | refine bA ?_ ?_ _ | refine bS ?_ ?_ _ | refine bD ?_ | (simp; done) | (simp; omega) | (simp [drew_size]; done) | (simp [drew_size]; omega) | omega⟩
theorem common_pp (al ah bl bh : Int) (ha : 0 ≤ al) (hb : 0 ≤ bl) (w : World) : Calls Tryz.prog 205 #[.agg #[vI vK al, vI vK ah], .agg #[vI vK bl, vI vK bh]] w fun e w' => e = .returned (.agg #[vI vK 0, vI vK (min ah bh)]) ∧ Below w.heap.size w w' := by
  go_enter Tryz.func205, Tryz.ntmps205
  go_wp2_with (first | (go_at_call 151; refine (all_is _).mono ?_; rintro e w1 ⟨rfl, hb1⟩; obtain ⟨hcl1, hfr1⟩ := old_cells hb1; have hs1 := hb1.size; (try simp only [drew_size] at hs1); (try simp at hs1); have hbw1 : Below w.heap.size w w1 := by ((refine Below.trans ?_ (hb1.mono ?_)) <;> repeat' first | exact bF _ _ | refine bA ?_ ?_ _ | refine bS ?_ ?_ _ | refine bD ?_ | (simp; done) | (simp; omega) | (simp [drew_size]; done) | (simp [drew_size]; omega) | omega)) | (go_at_call 185; refine (does_any _ _ _ ?_ ?_ _).mono ?_; omega; omega; rintro e w' ⟨rfl, rfl⟩) | go_in)
  all_goals exact bodyPost_ret (v := .agg #[vI vK 0, vI vK (min ah bh)]) (by simp [results, Tryz.results205, go_sem]) rfl ⟨rfl, by repeat' first | exact bF _ _ | refine bA ?_ ?_ _ | refine bS ?_ ?_ _ | refine bD ?_ | (simp; done) | (simp; omega) | (simp [drew_size]; done) | (simp [drew_size]; omega) | omega⟩
theorem common_pn (al ah bl bh : Int) (ha : 0 ≤ al) (hb : bl < 0) (w : World) : Calls Tryz.prog 205 #[.agg #[vI vK al, vI vK ah], .agg #[vI vK bl, vI vK bh]] w fun e w' => e = .returned (.agg #[vI vK 0, vI vK ah]) ∧ Below w.heap.size w w' := by
  have _hb : decide (0 ≤ bl) = false := by simp; omega
  go_enter Tryz.func205, Tryz.ntmps205
  go_wp2_with (first | (go_at_call 151; refine (all_is _).mono ?_; rintro e w1 ⟨rfl, hb1⟩; obtain ⟨hcl1, hfr1⟩ := old_cells hb1; have hs1 := hb1.size; (try simp only [drew_size] at hs1); (try simp at hs1); have hbw1 : Below w.heap.size w w1 := by ((refine Below.trans ?_ (hb1.mono ?_)) <;> repeat' first | exact bF _ _ | refine bA ?_ ?_ _ | refine bS ?_ ?_ _ | refine bD ?_ | (simp; done) | (simp; omega) | (simp [drew_size]; done) | (simp [drew_size]; omega) | omega)) | (go_at_call 185; refine (does_any _ _ _ ?_ ?_ _).mono ?_; omega; omega; rintro e w' ⟨rfl, rfl⟩) | go_in)
  all_goals exact bodyPost_ret (v := .agg #[vI vK 0, vI vK ah]) (by simp [results, Tryz.results205, go_sem]) rfl ⟨rfl, by repeat' first | exact bF _ _ | refine bA ?_ ?_ _ | refine bS ?_ ?_ _ | refine bD ?_ | (simp; done) | (simp; omega) | (simp [drew_size]; done) | (simp [drew_size]; omega) | omega⟩
theorem common_np (al ah bl bh : Int) (ha : al < 0) (hb : 0 ≤ bl) (w : World) : Calls Tryz.prog 205 #[.agg #[vI vK al, vI vK ah], .agg #[vI vK bl, vI vK bh]] w fun e w' => e = .returned (.agg #[vI vK 0, vI vK bh]) ∧ Below w.heap.size w w' := by
  have _ha : decide (0 ≤ al) = false := by simp; omega
  go_enter Tryz.func205, Tryz.ntmps205
  go_wp2_with (first | (go_at_call 151; refine (all_is _).mono ?_; rintro e w1 ⟨rfl, hb1⟩; obtain ⟨hcl1, hfr1⟩ := old_cells hb1; have hs1 := hb1.size; (try simp only [drew_size] at hs1); (try simp at hs1); have hbw1 : Below w.heap.size w w1 := by ((refine Below.trans ?_ (hb1.mono ?_)) <;> repeat' first | exact bF _ _ | refine bA ?_ ?_ _ | refine bS ?_ ?_ _ | refine bD ?_ | (simp; done) | (simp; omega) | (simp [drew_size]; done) | (simp [drew_size]; omega) | omega)) | (go_at_call 185; refine (does_any _ _ _ ?_ ?_ _).mono ?_; omega; omega; rintro e w' ⟨rfl, rfl⟩) | go_in)
  all_goals exact bodyPost_ret (v := .agg #[vI vK 0, vI vK bh]) (by simp [results, Tryz.results205, go_sem]) rfl ⟨rfl, by repeat' first | exact bF _ _ | refine bA ?_ ?_ _ | refine bS ?_ ?_ _ | refine bD ?_ | (simp; done) | (simp; omega) | (simp [drew_size]; done) | (simp [drew_size]; omega) | omega⟩
theorem common_nn (al ah bl bh : Int) (ha : al < 0) (hb : bl < 0) (w : World) : Calls Tryz.prog 205 #[.agg #[vI vK al, vI vK ah], .agg #[vI vK bl, vI vK bh]] w fun e w' => e = .returned (.agg #[vI vK (-9223372036854775808), vI vK 9223372036854775807]) ∧ Below w.heap.size w w' := by
  have _ha : decide (0 ≤ al) = false := by simp; omega
  have _hb : decide (0 ≤ bl) = false := by simp; omega
  go_enter Tryz.func205, Tryz.ntmps205
  go_wp2_with (first | (go_at_call 151; refine (all_is _).mono ?_; rintro e w1 ⟨rfl, hb1⟩; obtain ⟨hcl1, hfr1⟩ := old_cells hb1; have hs1 := hb1.size; (try simp only [drew_size] at hs1); (try simp at hs1); have hbw1 : Below w.heap.size w w1 := by ((refine Below.trans ?_ (hb1.mono ?_)) <;> repeat' first | exact bF _ _ | refine bA ?_ ?_ _ | refine bS ?_ ?_ _ | refine bD ?_ | (simp; done) | (simp; omega) | (simp [drew_size]; done) | (simp [drew_size]; omega) | omega)) | (go_at_call 185; refine (does_any _ _ _ ?_ ?_ _).mono ?_; omega; omega; rintro e w' ⟨rfl, rfl⟩) | go_in)
  all_goals exact bodyPost_ret (v := .agg #[vI vK (-9223372036854775808), vI vK 9223372036854775807]) (by simp [results, Tryz.results205, go_sem, hcl1]) rfl ⟨rfl, by repeat' first | exact bF _ _ | exact hbw1 | refine bA ?_ ?_ _ | refine bS ?_ ?_ _ | refine bD ?_ | (simp; done) | (simp; omega) | (simp [drew_size]; done) | (simp [drew_size]; omega) | omega⟩
theorem filled_pp (lo al ah bl bh : Int) (ha : 0 ≤ al) (hb : 0 ≤ bl) (p1 : -9223372036854775808 ≤ max ah bh) (p2 : max ah bh ≤ 9223372036854775807) (w : World) : Calls Tryz.prog 206 #[vI vK lo, .agg #[vI vK al, vI vK ah], .agg #[vI vK bl, vI vK bh]] w fun e w' => e = .returned (.agg #[vI vK lo, vI vK (fillV (max ah bh))]) ∧ Below w.heap.size w w' := by
  go_enter Tryz.func206, Tryz.ntmps206
  go_wp2_with (first | (go_at_call 151; refine (all_is _).mono ?_; rintro e w1 ⟨rfl, hb1⟩; obtain ⟨hcl1, hfr1⟩ := old_cells hb1; have hs1 := hb1.size; (try simp only [drew_size] at hs1); (try simp at hs1); have hbw1 : Below w.heap.size w w1 := by ((refine Below.trans ?_ (hb1.mono ?_)) <;> repeat' first | exact bF _ _ | refine bA ?_ ?_ _ | refine bS ?_ ?_ _ | refine bD ?_ | (simp; done) | (simp; omega) | (simp [drew_size]; done) | (simp [drew_size]; omega) | omega)) | (go_at_call 219; refine (fill_any _ ?_ ?_ _).mono ?_; omega; omega; rintro e w' ⟨rfl, rfl⟩) | go_in)
  all_goals exact bodyPost_ret (v := .agg #[vI vK lo, vI vK (fillV (max ah bh))]) (by simp [results, Tryz.results206, go_sem]) rfl ⟨rfl, by repeat' first | exact bF _ _ | refine bA ?_ ?_ _ | refine bS ?_ ?_ _ | refine bD ?_ | (simp; done) | (simp; omega) | (simp [drew_size]; done) | (simp [drew_size]; omega) | omega⟩
theorem filled_na (lo al ah bl bh : Int) (ha : al < 0) (w : World) : Calls Tryz.prog 206 #[vI vK lo, .agg #[vI vK al, vI vK ah], .agg #[vI vK bl, vI vK bh]] w fun e w' => e = .returned (.agg #[vI vK (-9223372036854775808), vI vK 9223372036854775807]) ∧ Below w.heap.size w w' := by
  have _ha : decide (0 ≤ al) = false := by simp; omega
  go_enter Tryz.func206, Tryz.ntmps206
  go_wp2_with (first | (go_at_call 151; refine (all_is _).mono ?_; rintro e w1 ⟨rfl, hb1⟩; obtain ⟨hcl1, hfr1⟩ := old_cells hb1; have hs1 := hb1.size; (try simp only [drew_size] at hs1); (try simp at hs1); have hbw1 : Below w.heap.size w w1 := by ((refine Below.trans ?_ (hb1.mono ?_)) <;> repeat' first | exact bF _ _ | refine bA ?_ ?_ _ | refine bS ?_ ?_ _ | refine bD ?_ | (simp; done) | (simp; omega) | (simp [drew_size]; done) | (simp [drew_size]; omega) | omega)) | (go_at_call 219; refine (fill_any _ ?_ ?_ _).mono ?_; omega; omega; rintro e w' ⟨rfl, rfl⟩) | go_in)
  all_goals exact bodyPost_ret (v := .agg #[vI vK (-9223372036854775808), vI vK 9223372036854775807]) (by simp [results, Tryz.results206, go_sem, hcl1]) rfl ⟨rfl, by repeat' first | exact bF _ _ | exact hbw1 | refine bA ?_ ?_ _ | refine bS ?_ ?_ _ | refine bD ?_ | (simp; done) | (simp; omega) | (simp [drew_size]; done) | (simp [drew_size]; omega) | omega⟩
theorem filled_nb (lo al ah bl bh : Int) (ha : 0 ≤ al) (hb : bl < 0) (w : World) : Calls Tryz.prog 206 #[vI vK lo, .agg #[vI vK al, vI vK ah], .agg #[vI vK bl, vI vK bh]] w fun e w' => e = .returned (.agg #[vI vK (-9223372036854775808), vI vK 9223372036854775807]) ∧ Below w.heap.size w w' := by
  have _hb : decide (0 ≤ bl) = false := by simp; omega
  go_enter Tryz.func206, Tryz.ntmps206
  go_wp2_with (first | (go_at_call 151; refine (all_is _).mono ?_; rintro e w1 ⟨rfl, hb1⟩; obtain ⟨hcl1, hfr1⟩ := old_cells hb1; have hs1 := hb1.size; (try simp only [drew_size] at hs1); (try simp at hs1); have hbw1 : Below w.heap.size w w1 := by ((refine Below.trans ?_ (hb1.mono ?_)) <;> repeat' first | exact bF _ _ | refine bA ?_ ?_ _ | refine bS ?_ ?_ _ | refine bD ?_ | (simp; done) | (simp; omega) | (simp [drew_size]; done) | (simp [drew_size]; omega) | omega)) | (go_at_call 219; refine (fill_any _ ?_ ?_ _).mono ?_; omega; omega; rintro e w' ⟨rfl, rfl⟩) | go_in)
  all_goals exact bodyPost_ret (v := .agg #[vI vK (-9223372036854775808), vI vK 9223372036854775807]) (by simp [results, Tryz.results206, go_sem, hcl1]) rfl ⟨rfl, by repeat' first | exact bF _ _ | exact hbw1 | refine bA ?_ ?_ _ | refine bS ?_ ?_ _ | refine bD ?_ | (simp; done) | (simp; omega) | (simp [drew_size]; done) | (simp [drew_size]; omega) | omega⟩
theorem any_10 (al ah : Int) (w : World) : Calls Tryz.prog 208 #[vI vK 10, .agg #[vI vK al, vI vK ah]] w fun e w' => e = .returned (.agg #[vI vK (-9223372036854775808), vI vK 9223372036854775807]) ∧ Below w.heap.size w w' := by
  go_enter Tryz.func208, Tryz.ntmps208
  go_wp2_with (first | (go_at_call 151; refine (all_is _).mono ?_; rintro e w1 ⟨rfl, hb1⟩; obtain ⟨hcl1, hfr1⟩ := old_cells hb1; have hs1 := hb1.size; (try simp only [drew_size] at hs1); (try simp at hs1); have hbw1 : Below w.heap.size w w1 := by ((refine Below.trans ?_ (hb1.mono ?_)) <;> repeat' first | exact bF _ _ | refine bA ?_ ?_ _ | refine bS ?_ ?_ _ | refine bD ?_ | (simp; done) | (simp; omega) | (simp [drew_size]; done) | (simp [drew_size]; omega) | omega)) | (go_at_call 185; refine (does_any _ _ _ ?_ ?_ _).mono ?_; omega; omega; rintro e w' ⟨rfl, rfl⟩) | go_in)
  all_goals exact bodyPost_ret (v := .agg #[vI vK (-9223372036854775808), vI vK 9223372036854775807]) (by simp [results, Tryz.results208, go_sem, hcl1]) rfl ⟨rfl, by repeat' first | exact bF _ _ | exact hbw1 | refine bA ?_ ?_ _ | refine bS ?_ ?_ _ | refine bD ?_ | (simp; done) | (simp; omega) | (simp [drew_size]; done) | (simp [drew_size]; omega) | omega⟩
theorem any_p (c al ah : Int) (hc : c = 11 ∨ c = 12) (ha : 0 ≤ al) (w : World) : Calls Tryz.prog 208 #[vI vK c, .agg #[vI vK al, vI vK ah]] w fun e w' => e = .returned (.agg #[vI vK 0, vI vK ah]) ∧ Below w.heap.size w w' := by
  have _hc : (c == 10) = false := by simp; omega
  go_enter Tryz.func208, Tryz.ntmps208
  go_wp2_with (first | (go_at_call 151; refine (all_is _).mono ?_; rintro e w1 ⟨rfl, hb1⟩; obtain ⟨hcl1, hfr1⟩ := old_cells hb1; have hs1 := hb1.size; (try simp only [drew_size] at hs1); (try simp at hs1); have hbw1 : Below w.heap.size w w1 := by ((refine Below.trans ?_ (hb1.mono ?_)) <;> repeat' first | exact bF _ _ | refine bA ?_ ?_ _ | refine bS ?_ ?_ _ | refine bD ?_ | (simp; done) | (simp; omega) | (simp [drew_size]; done) | (simp [drew_size]; omega) | omega)) | (go_at_call 185; refine (does_any _ _ _ ?_ ?_ _).mono ?_; omega; omega; rintro e w' ⟨rfl, rfl⟩) | go_in)
  all_goals exact bodyPost_ret (v := .agg #[vI vK 0, vI vK ah]) (by simp [results, Tryz.results208, go_sem]) rfl ⟨rfl, by repeat' first | exact bF _ _ | refine bA ?_ ?_ _ | refine bS ?_ ?_ _ | refine bD ?_ | (simp; done) | (simp; omega) | (simp [drew_size]; done) | (simp [drew_size]; omega) | omega⟩
theorem any_11 (al ah : Int) (ha : al < 0) (w : World) : Calls Tryz.prog 208 #[vI vK 11, .agg #[vI vK al, vI vK ah]] w fun e w' => e = .returned (.agg #[vI vK (-9223372036854775808), vI vK 9223372036854775807]) ∧ Below w.heap.size w w' := by
  have _ha : decide (0 ≤ al) = false := by simp; omega
  go_enter Tryz.func208, Tryz.ntmps208
  go_wp2_with (first | (go_at_call 151; refine (all_is _).mono ?_; rintro e w1 ⟨rfl, hb1⟩; obtain ⟨hcl1, hfr1⟩ := old_cells hb1; have hs1 := hb1.size; (try simp only [drew_size] at hs1); (try simp at hs1); have hbw1 : Below w.heap.size w w1 := by ((refine Below.trans ?_ (hb1.mono ?_)) <;> repeat' first | exact bF _ _ | refine bA ?_ ?_ _ | refine bS ?_ ?_ _ | refine bD ?_ | (simp; done) | (simp; omega) | (simp [drew_size]; done) | (simp [drew_size]; omega) | omega)) | (go_at_call 185; refine (does_any _ _ _ ?_ ?_ _).mono ?_; omega; omega; rintro e w' ⟨rfl, rfl⟩) | go_in)
  all_goals exact bodyPost_ret (v := .agg #[vI vK (-9223372036854775808), vI vK 9223372036854775807]) (by simp [results, Tryz.results208, go_sem, hcl1]) rfl ⟨rfl, by repeat' first | exact bF _ _ | exact hbw1 | refine bA ?_ ?_ _ | refine bS ?_ ?_ _ | refine bD ?_ | (simp; done) | (simp; omega) | (simp [drew_size]; done) | (simp [drew_size]; omega) | omega⟩
theorem any_12n (al ah : Int) (ha : al < 0) (hh : ah < 0) (w : World) : Calls Tryz.prog 208 #[vI vK 12, .agg #[vI vK al, vI vK ah]] w fun e w' => e = .returned (.agg #[vI vK al, vI vK (-1)]) ∧ Below w.heap.size w w' := by
  have _ha : decide (0 ≤ al) = false := by simp; omega
  go_enter Tryz.func208, Tryz.ntmps208
  go_wp2_with (first | (go_at_call 151; refine (all_is _).mono ?_; rintro e w1 ⟨rfl, hb1⟩; obtain ⟨hcl1, hfr1⟩ := old_cells hb1; have hs1 := hb1.size; (try simp only [drew_size] at hs1); (try simp at hs1); have hbw1 : Below w.heap.size w w1 := by ((refine Below.trans ?_ (hb1.mono ?_)) <;> repeat' first | exact bF _ _ | refine bA ?_ ?_ _ | refine bS ?_ ?_ _ | refine bD ?_ | (simp; done) | (simp; omega) | (simp [drew_size]; done) | (simp [drew_size]; omega) | omega)) | (go_at_call 185; refine (does_any _ _ _ ?_ ?_ _).mono ?_; omega; omega; rintro e w' ⟨rfl, rfl⟩) | go_in)
  all_goals exact bodyPost_ret (v := .agg #[vI vK al, vI vK (-1)]) (by simp [results, Tryz.results208, go_sem]) rfl ⟨rfl, by repeat' first | exact bF _ _ | refine bA ?_ ?_ _ | refine bS ?_ ?_ _ | refine bD ?_ | (simp; done) | (simp; omega) | (simp [drew_size]; done) | (simp [drew_size]; omega) | omega⟩
theorem any_12 (al ah : Int) (ha : al < 0) (hh : 0 ≤ ah) (w : World) : Calls Tryz.prog 208 #[vI vK 12, .agg #[vI vK al, vI vK ah]] w fun e w' => e = .returned (.agg #[vI vK al, vI vK ah]) ∧ Below w.heap.size w w' := by
  have _ha : decide (0 ≤ al) = false := by simp; omega
  have _hh : decide (ah < 0) = false := by simp; omega
  go_enter Tryz.func208, Tryz.ntmps208
  go_wp2_with (first | (go_at_call 151; refine (all_is _).mono ?_; rintro e w1 ⟨rfl, hb1⟩; obtain ⟨hcl1, hfr1⟩ := old_cells hb1; have hs1 := hb1.size; (try simp only [drew_size] at hs1); (try simp at hs1); have hbw1 : Below w.heap.size w w1 := by ((refine Below.trans ?_ (hb1.mono ?_)) <;> repeat' first | exact bF _ _ | refine bA ?_ ?_ _ | refine bS ?_ ?_ _ | refine bD ?_ | (simp; done) | (simp; omega) | (simp [drew_size]; done) | (simp [drew_size]; omega) | omega)) | (go_at_call 185; refine (does_any _ _ _ ?_ ?_ _).mono ?_; omega; omega; rintro e w' ⟨rfl, rfl⟩) | go_in)
  all_goals exact bodyPost_ret (v := .agg #[vI vK al, vI vK ah]) (by simp [results, Tryz.results208, go_sem]) rfl ⟨rfl, by repeat' first | exact bF _ _ | refine bA ?_ ?_ _ | refine bS ?_ ?_ _ | refine bD ?_ | (simp; done) | (simp; omega) | (simp [drew_size]; done) | (simp [drew_size]; omega) | omega⟩
theorem shifted_10 (al ah : Int) (k : Int) (h0 : 0 ≤ k) (h1 : k < 64) (w : World) : Calls Tryz.prog 207 #[vI vK 10, .agg #[vI vK al, vI vK ah], vI vK k] w fun e w' => e = .returned (.agg #[vI vK ((fit2 (al * 2 ^ k.toNat) (ah * 2 ^ k.toNat)).1), vI vK ((fit2 (al * 2 ^ k.toNat) (ah * 2 ^ k.toNat)).2)]) ∧ Below w.heap.size w w' := by
  go_enter Tryz.func207, Tryz.ntmps207
  go_wp2_with fail
  go_region_held3 (fun w' => w'.cell? ⟨w.heap.size, 0, none⟩ = some (vI vK al) ∧ w'.cell? ⟨w.heap.size, 1, none⟩ = some (vI vK ah)) (first | (simp [go_sem]; done) | (simp [go_sem, *]; done) | go_keep) (first | (go_at_call 220; refine (doubled_at _ _ ?_ ?_ _).mono ?_; omega; omega; rintro e w' ⟨rfl, rfl⟩) | (go_at_call 200; refine (plus_at _ _ ?_ ?_ ?_ ?_ _).mono ?_; omega; omega; omega; omega; rintro e w' ⟨rfl, rfl⟩) | (go_at_call 201; refine (minus_at _ _ ?_ ?_ ?_ ?_ _).mono ?_; omega; omega; omega; omega; rintro e w' ⟨rfl, rfl⟩) | (go_at_call 199; refine (between_fit _ _ _).mono ?_; rintro e w1 ⟨rfl, hb1⟩; obtain ⟨hcl1, hfr1⟩ := old_cells hb1; have hs1 := hb1.size; (try simp only [drew_size] at hs1); (try simp at hs1); have hbw1 : Below w.heap.size w w1 := by ((refine Below.trans ?_ (hb1.mono ?_)) <;> repeat' first | exact bF _ _ | refine bA ?_ ?_ _ | refine bS ?_ ?_ _ | refine bD ?_ | (simp; done) | (simp; omega) | (simp [drew_size]; done) | (simp [drew_size]; omega) | omega)))
  all_goals go_wp2_with (first | (go_at_call 220; refine (doubled_at _ _ ?_ ?_ _).mono ?_; omega; omega; rintro e w' ⟨rfl, rfl⟩) | (go_at_call 200; refine (plus_at _ _ ?_ ?_ ?_ ?_ _).mono ?_; omega; omega; omega; omega; rintro e w' ⟨rfl, rfl⟩) | (go_at_call 201; refine (minus_at _ _ ?_ ?_ ?_ ?_ _).mono ?_; omega; omega; omega; omega; rintro e w' ⟨rfl, rfl⟩) | (go_at_call 199; refine (between_fit _ _ _).mono ?_; rintro e w1 ⟨rfl, hb1⟩; obtain ⟨hcl1, hfr1⟩ := old_cells hb1; have hs1 := hb1.size; (try simp only [drew_size] at hs1); (try simp at hs1); have hbw1 : Below w.heap.size w w1 := by ((refine Below.trans ?_ (hb1.mono ?_)) <;> repeat' first | exact bF _ _ | refine bA ?_ ?_ _ | refine bS ?_ ?_ _ | refine bD ?_ | (simp; done) | (simp; omega) | (simp [drew_size]; done) | (simp [drew_size]; omega) | omega)))
  all_goals exact bodyPost_ret (v := .agg #[vI vK ((fit2 (al * 2 ^ k.toNat) (ah * 2 ^ k.toNat)).1), vI vK ((fit2 (al * 2 ^ k.toNat) (ah * 2 ^ k.toNat)).2)]) (by simp [results, Tryz.results207, go_sem, hcl1]) rfl ⟨rfl, by repeat' first | exact bF _ _ | exact hbw1 | refine bA ?_ ?_ _ | refine bS ?_ ?_ _ | refine bD ?_ | (simp; done) | (simp; omega) | (simp [drew_size]; done) | (simp [drew_size]; omega) | omega⟩
theorem shifted_11n (al ah : Int) (k : Int) (h0 : 0 ≤ k) (h1 : k < 64) (hk : 0 < k) (ha : al < 0) (w : World) : Calls Tryz.prog 207 #[vI vK 11, .agg #[vI vK al, vI vK ah], vI vK k] w fun e w' => e = .returned (.agg #[vI vK 0, vI vK (doesV 11 (-1) k)]) ∧ Below w.heap.size w w' := by
  go_enter Tryz.func207, Tryz.ntmps207
  go_wp2_with (first | (go_at_call 185; refine (does_any _ _ _ ?_ ?_ _).mono ?_; omega; omega; rintro e w' ⟨rfl, rfl⟩))
  all_goals exact bodyPost_ret (v := .agg #[vI vK 0, vI vK (doesV 11 (-1) k)]) (by simp [results, Tryz.results207, go_sem]) rfl ⟨rfl, by repeat' first | exact bF _ _ | refine bA ?_ ?_ _ | refine bS ?_ ?_ _ | refine bD ?_ | (simp; done) | (simp; omega) | (simp [drew_size]; done) | (simp [drew_size]; omega) | omega⟩
theorem shifted_11z (al ah : Int) (k : Int) (h0 : 0 ≤ k) (h1 : k < 64) (hk : k = 0) (w : World) : Calls Tryz.prog 207 #[vI vK 11, .agg #[vI vK al, vI vK ah], vI vK k] w fun e w' => e = .returned (.agg #[vI vK (doesV 11 al k), vI vK (doesV 11 ah k)]) ∧ Below w.heap.size w w' := by
  have _hk : decide (0 < k) = false := by simp; omega
  clear hk
  go_enter Tryz.func207, Tryz.ntmps207
  go_wp2_with fail
  go_region_held3 (fun w' => w'.cell? ⟨w.heap.size, 0, none⟩ = some (vI vK al) ∧ w'.cell? ⟨w.heap.size, 1, none⟩ = some (vI vK ah)) (first | (simp [go_sem]; done) | (simp [go_sem, *]; done) | go_keep) (first | (go_at_call 185; refine (does_any _ _ _ ?_ ?_ _).mono ?_; omega; omega; rintro e w' ⟨rfl, rfl⟩))
  all_goals go_wp2_with (first | (go_at_call 185; refine (does_any _ _ _ ?_ ?_ _).mono ?_; omega; omega; rintro e w' ⟨rfl, rfl⟩))
  all_goals exact bodyPost_ret (v := .agg #[vI vK (doesV 11 al k), vI vK (doesV 11 ah k)]) (by simp [results, Tryz.results207, go_sem]) rfl ⟨rfl, by repeat' first | exact bF _ _ | refine bA ?_ ?_ _ | refine bS ?_ ?_ _ | refine bD ?_ | (simp; done) | (simp; omega) | (simp [drew_size]; done) | (simp [drew_size]; omega) | omega⟩
theorem shifted_11p (al ah : Int) (k : Int) (h0 : 0 ≤ k) (h1 : k < 64) (hk : 0 < k) (ha : 0 ≤ al) (w : World) : Calls Tryz.prog 207 #[vI vK 11, .agg #[vI vK al, vI vK ah], vI vK k] w fun e w' => e = .returned (.agg #[vI vK (doesV 11 al k), vI vK (doesV 11 ah k)]) ∧ Below w.heap.size w w' := by
  have _ha : decide (al < 0) = false := by simp; omega
  go_enter Tryz.func207, Tryz.ntmps207
  go_wp2_with fail
  go_region_held3 (fun w' => w'.cell? ⟨w.heap.size, 0, none⟩ = some (vI vK al) ∧ w'.cell? ⟨w.heap.size, 1, none⟩ = some (vI vK ah)) (first | (simp [go_sem]; done) | (simp [go_sem, *]; done) | go_keep) (first | (go_at_call 185; refine (does_any _ _ _ ?_ ?_ _).mono ?_; omega; omega; rintro e w' ⟨rfl, rfl⟩))
  all_goals go_wp2_with (first | (go_at_call 185; refine (does_any _ _ _ ?_ ?_ _).mono ?_; omega; omega; rintro e w' ⟨rfl, rfl⟩))
  all_goals exact bodyPost_ret (v := .agg #[vI vK (doesV 11 al k), vI vK (doesV 11 ah k)]) (by simp [results, Tryz.results207, go_sem]) rfl ⟨rfl, by repeat' first | exact bF _ _ | refine bA ?_ ?_ _ | refine bS ?_ ?_ _ | refine bD ?_ | (simp; done) | (simp; omega) | (simp [drew_size]; done) | (simp [drew_size]; omega) | omega⟩
theorem shifted_12 (al ah : Int) (k : Int) (h0 : 0 ≤ k) (h1 : k < 64) (w : World) : Calls Tryz.prog 207 #[vI vK 12, .agg #[vI vK al, vI vK ah], vI vK k] w fun e w' => e = .returned (.agg #[vI vK (doesV 12 al k), vI vK (doesV 12 ah k)]) ∧ Below w.heap.size w w' := by
  go_enter Tryz.func207, Tryz.ntmps207
  go_wp2_with fail
  go_region_held3 (fun w' => w'.cell? ⟨w.heap.size, 0, none⟩ = some (vI vK al) ∧ w'.cell? ⟨w.heap.size, 1, none⟩ = some (vI vK ah)) (first | (simp [go_sem]; done) | (simp [go_sem, *]; done) | go_keep) (first | (go_at_call 185; refine (does_any _ _ _ ?_ ?_ _).mono ?_; omega; omega; rintro e w' ⟨rfl, rfl⟩))
  all_goals go_wp2_with (first | (go_at_call 185; refine (does_any _ _ _ ?_ ?_ _).mono ?_; omega; omega; rintro e w' ⟨rfl, rfl⟩))
  all_goals exact bodyPost_ret (v := .agg #[vI vK (doesV 12 al k), vI vK (doesV 12 ah k)]) (by simp [results, Tryz.results207, go_sem]) rfl ⟨rfl, by repeat' first | exact bF _ _ | refine bA ?_ ?_ _ | refine bS ?_ ?_ _ | refine bD ?_ | (simp; done) | (simp; omega) | (simp [drew_size]; done) | (simp [drew_size]; omega) | omega⟩

theorem meet_yes (al ah bl bh : Int) (h : max al bl ≤ min ah bh) (w : World) : Calls Tryz.prog 214 #[.agg #[vI vK al, vI vK ah], .agg #[vI vK bl, vI vK bh]] w fun e w' => e = .returned (.tuple #[.agg #[vI vK (max al bl), vI vK (min ah bh)], .bool true]) ∧ Below w.heap.size w w' := by
  have _h : decide (min ah bh < max al bl) = false := by simp; omega
  go_enter Tryz.func214, Tryz.ntmps214
  go_wp2_with fail
  all_goals exact bodyPost_ret (v := .tuple #[.agg #[vI vK (max al bl), vI vK (min ah bh)], .bool true]) (by simp [results, Tryz.results214, go_sem]) rfl ⟨rfl, by repeat' first | exact bF _ _ | refine bA ?_ ?_ _ | refine bS ?_ ?_ _ | refine bD ?_ | (simp; done) | (simp; omega) | (simp [drew_size]; done) | (simp [drew_size]; omega) | omega⟩
theorem meet_no (al ah bl bh : Int) (h : min ah bh < max al bl) (w : World) : Calls Tryz.prog 214 #[.agg #[vI vK al, vI vK ah], .agg #[vI vK bl, vI vK bh]] w fun e w' => e = .returned (.tuple #[.agg #[vI vK 0, vI vK 0], .bool false]) ∧ Below w.heap.size w w' := by
  have _h : decide (min ah bh < max al bl) = true := by simp; omega
  go_enter Tryz.func214, Tryz.ntmps214
  go_wp2_with fail
  all_goals exact bodyPost_ret (v := .tuple #[.agg #[vI vK 0, vI vK 0], .bool false]) (by simp [results, Tryz.results214, go_sem]) rfl ⟨rfl, by repeat' first | exact bF _ _ | refine bA ?_ ?_ _ | refine bS ?_ ?_ _ | refine bD ?_ | (simp; done) | (simp; omega) | (simp [drew_size]; done) | (simp [drew_size]; omega) | omega⟩
def oppV (c : Int) : Int := if c = 15 then 16 else if c = 16 then 15 else if c = 17 then 20 else if c = 18 then 19 else if c = 19 then 18 else if c = 20 then 17 else if c = 21 then 24 else if c = 22 then 23 else if c = 23 then 22 else if c = 24 then 21 else 0
theorem opp_15 (w : World) : Calls Tryz.prog 180 #[vI vK 15] w fun e w' => e = .returned (vI vK 16) ∧ w' = w := by
  go_enter Tryz.func180, Tryz.ntmps180
  go_wp2
  go_ret
  exact ⟨rfl, rfl⟩
theorem opp_16 (w : World) : Calls Tryz.prog 180 #[vI vK 16] w fun e w' => e = .returned (vI vK 15) ∧ w' = w := by
  go_enter Tryz.func180, Tryz.ntmps180
  go_wp2
  go_ret
  exact ⟨rfl, rfl⟩
theorem opp_17 (w : World) : Calls Tryz.prog 180 #[vI vK 17] w fun e w' => e = .returned (vI vK 20) ∧ w' = w := by
  go_enter Tryz.func180, Tryz.ntmps180
  go_wp2
  go_ret
  exact ⟨rfl, rfl⟩
theorem opp_18 (w : World) : Calls Tryz.prog 180 #[vI vK 18] w fun e w' => e = .returned (vI vK 19) ∧ w' = w := by
  go_enter Tryz.func180, Tryz.ntmps180
  go_wp2
  go_ret
  exact ⟨rfl, rfl⟩
theorem opp_19 (w : World) : Calls Tryz.prog 180 #[vI vK 19] w fun e w' => e = .returned (vI vK 18) ∧ w' = w := by
  go_enter Tryz.func180, Tryz.ntmps180
  go_wp2
  go_ret
  exact ⟨rfl, rfl⟩
theorem opp_20 (w : World) : Calls Tryz.prog 180 #[vI vK 20] w fun e w' => e = .returned (vI vK 17) ∧ w' = w := by
  go_enter Tryz.func180, Tryz.ntmps180
  go_wp2
  go_ret
  exact ⟨rfl, rfl⟩
theorem opp_21 (w : World) : Calls Tryz.prog 180 #[vI vK 21] w fun e w' => e = .returned (vI vK 24) ∧ w' = w := by
  go_enter Tryz.func180, Tryz.ntmps180
  go_wp2
  go_ret
  exact ⟨rfl, rfl⟩
theorem opp_22 (w : World) : Calls Tryz.prog 180 #[vI vK 22] w fun e w' => e = .returned (vI vK 23) ∧ w' = w := by
  go_enter Tryz.func180, Tryz.ntmps180
  go_wp2
  go_ret
  exact ⟨rfl, rfl⟩
theorem opp_23 (w : World) : Calls Tryz.prog 180 #[vI vK 23] w fun e w' => e = .returned (vI vK 22) ∧ w' = w := by
  go_enter Tryz.func180, Tryz.ntmps180
  go_wp2
  go_ret
  exact ⟨rfl, rfl⟩
theorem opp_24 (w : World) : Calls Tryz.prog 180 #[vI vK 24] w fun e w' => e = .returned (vI vK 21) ∧ w' = w := by
  go_enter Tryz.func180, Tryz.ntmps180
  go_wp2
  go_ret
  exact ⟨rfl, rfl⟩
theorem turned_17 (w : World) : Calls Tryz.prog 217 #[vI vK 17] w fun e w' => e = .returned (vI vK 19) ∧ w' = w := by
  go_enter Tryz.func217, Tryz.ntmps217
  go_wp2
  go_ret
  exact ⟨rfl, rfl⟩
theorem turned_18 (w : World) : Calls Tryz.prog 217 #[vI vK 18] w fun e w' => e = .returned (vI vK 20) ∧ w' = w := by
  go_enter Tryz.func217, Tryz.ntmps217
  go_wp2
  go_ret
  exact ⟨rfl, rfl⟩
theorem turned_21 (w : World) : Calls Tryz.prog 217 #[vI vK 21] w fun e w' => e = .returned (vI vK 23) ∧ w' = w := by
  go_enter Tryz.func217, Tryz.ntmps217
  go_wp2
  go_ret
  exact ⟨rfl, rfl⟩
theorem turned_22 (w : World) : Calls Tryz.prog 217 #[vI vK 22] w fun e w' => e = .returned (vI vK 24) ∧ w' = w := by
  go_enter Tryz.func217, Tryz.ntmps217
  go_wp2
  go_ret
  exact ⟨rfl, rfl⟩
theorem below_19n (al ah bl bh : Int) (hb : bl < 0) (w : World) : Calls Tryz.prog 216 #[vI vK 19, .agg #[vI vK al, vI vK ah], .agg #[vI vK bl, vI vK bh]] w fun e w' => e = .returned (.tuple #[.agg #[vI vK al, vI vK ah], .agg #[vI vK bl, vI vK bh], .bool true]) ∧ Below w.heap.size w w' := by
  go_enter Tryz.func216, Tryz.ntmps216
  go_wp2_with fail
  go_region
  all_goals go_wp2
  all_goals exact bodyPost_ret (v := .tuple #[.agg #[vI vK al, vI vK ah], .agg #[vI vK bl, vI vK bh], .bool true]) (by simp [results, Tryz.results216, go_sem]) rfl ⟨rfl, by repeat' first | exact bF _ _ | refine bA ?_ ?_ _ | refine bS ?_ ?_ _ | refine bD ?_ | (simp; done) | (simp; omega) | (simp [drew_size]; done) | (simp [drew_size]; omega) | omega⟩
theorem below_19e (al ah bl bh : Int) (hb : 0 ≤ bl) (h : ah < max al 0) (w : World) : Calls Tryz.prog 216 #[vI vK 19, .agg #[vI vK al, vI vK ah], .agg #[vI vK bl, vI vK bh]] w fun e w' => e = .returned (.tuple #[.agg #[vI vK 0, vI vK 0], .agg #[vI vK 0, vI vK 0], .bool false]) ∧ Below w.heap.size w w' := by
  have _hb : decide (bl < 0) = false := by simp; omega
  have _h : decide (ah < max al 0) = true := by simp; omega
  go_enter Tryz.func216, Tryz.ntmps216
  go_wp2_with (first | (go_at_call 155; refine (is_any _ _ _ _).mono ?_; rintro e w' ⟨rfl, rfl⟩))
  all_goals exact bodyPost_ret (v := .tuple #[.agg #[vI vK 0, vI vK 0], .agg #[vI vK 0, vI vK 0], .bool false]) (by simp [results, Tryz.results216, go_sem]) rfl ⟨rfl, by repeat' first | exact bF _ _ | refine bA ?_ ?_ _ | refine bS ?_ ?_ _ | refine bD ?_ | (simp; done) | (simp; omega) | (simp [drew_size]; done) | (simp [drew_size]; omega) | omega⟩
theorem below_19f (al ah bl bh : Int) (hb : 0 ≤ bl) (h : max al 0 ≤ ah) (hi : isV 19 (max al 0) bh = false) (w : World) : Calls Tryz.prog 216 #[vI vK 19, .agg #[vI vK al, vI vK ah], .agg #[vI vK bl, vI vK bh]] w fun e w' => e = .returned (.tuple #[.agg #[vI vK 0, vI vK 0], .agg #[vI vK 0, vI vK 0], .bool false]) ∧ Below w.heap.size w w' := by
  have _hb : decide (bl < 0) = false := by simp; omega
  have _h : decide (ah < max al 0) = false := by simp; omega
  go_enter Tryz.func216, Tryz.ntmps216
  go_wp2_with (first | (go_at_call 155; refine (is_any _ _ _ _).mono ?_; rintro e w' ⟨rfl, rfl⟩))
  all_goals exact bodyPost_ret (v := .tuple #[.agg #[vI vK 0, vI vK 0], .agg #[vI vK 0, vI vK 0], .bool false]) (by simp [results, Tryz.results216, go_sem]) rfl ⟨rfl, by repeat' first | exact bF _ _ | refine bA ?_ ?_ _ | refine bS ?_ ?_ _ | refine bD ?_ | (simp; done) | (simp; omega) | (simp [drew_size]; done) | (simp [drew_size]; omega) | omega⟩
theorem below_19t (al ah bl bh : Int) (hb : 0 ≤ bl) (h : max al 0 ≤ ah) (hi : isV 19 (max al 0) bh = true) (p1 : -9223372036854775808 ≤ max al 0) (p2 : max al 0 + 1 ≤ 9223372036854775807) (p3 : -9223372036854775808 ≤ bh - 1) (p4 : bh ≤ 9223372036854775807) (w : World) : Calls Tryz.prog 216 #[vI vK 19, .agg #[vI vK al, vI vK ah], .agg #[vI vK bl, vI vK bh]] w fun e w' => e = .returned (.tuple #[.agg #[vI vK (max al 0), vI vK (min ah (bh - 1))], .agg #[vI vK (max bl (max al 0 + 1)), vI vK bh], .bool true]) ∧ Below w.heap.size w w' := by
  have _hb : decide (bl < 0) = false := by simp; omega
  have _h : decide (ah < max al 0) = false := by simp; omega
  go_enter Tryz.func216, Tryz.ntmps216
  go_wp2_with (first | (go_at_call 155; refine (is_any _ _ _ _).mono ?_; rintro e w' ⟨rfl, rfl⟩))
  go_region
  all_goals go_wp2
  all_goals exact bodyPost_ret (v := .tuple #[.agg #[vI vK (max al 0), vI vK (min ah (bh - 1))], .agg #[vI vK (max bl (max al 0 + 1)), vI vK bh], .bool true]) (by simp [results, Tryz.results216, go_sem]) rfl ⟨rfl, by repeat' first | exact bF _ _ | refine bA ?_ ?_ _ | refine bS ?_ ?_ _ | refine bD ?_ | (simp; done) | (simp; omega) | (simp [drew_size]; done) | (simp [drew_size]; omega) | omega⟩
theorem below_20n (al ah bl bh : Int) (hb : bl < 0) (w : World) : Calls Tryz.prog 216 #[vI vK 20, .agg #[vI vK al, vI vK ah], .agg #[vI vK bl, vI vK bh]] w fun e w' => e = .returned (.tuple #[.agg #[vI vK al, vI vK ah], .agg #[vI vK bl, vI vK bh], .bool true]) ∧ Below w.heap.size w w' := by
  go_enter Tryz.func216, Tryz.ntmps216
  go_wp2_with fail
  go_region
  all_goals go_wp2
  all_goals exact bodyPost_ret (v := .tuple #[.agg #[vI vK al, vI vK ah], .agg #[vI vK bl, vI vK bh], .bool true]) (by simp [results, Tryz.results216, go_sem]) rfl ⟨rfl, by repeat' first | exact bF _ _ | refine bA ?_ ?_ _ | refine bS ?_ ?_ _ | refine bD ?_ | (simp; done) | (simp; omega) | (simp [drew_size]; done) | (simp [drew_size]; omega) | omega⟩
theorem below_20e (al ah bl bh : Int) (hb : 0 ≤ bl) (h : ah < max al 0) (w : World) : Calls Tryz.prog 216 #[vI vK 20, .agg #[vI vK al, vI vK ah], .agg #[vI vK bl, vI vK bh]] w fun e w' => e = .returned (.tuple #[.agg #[vI vK 0, vI vK 0], .agg #[vI vK 0, vI vK 0], .bool false]) ∧ Below w.heap.size w w' := by
  have _hb : decide (bl < 0) = false := by simp; omega
  have _h : decide (ah < max al 0) = true := by simp; omega
  go_enter Tryz.func216, Tryz.ntmps216
  go_wp2_with (first | (go_at_call 155; refine (is_any _ _ _ _).mono ?_; rintro e w' ⟨rfl, rfl⟩))
  all_goals exact bodyPost_ret (v := .tuple #[.agg #[vI vK 0, vI vK 0], .agg #[vI vK 0, vI vK 0], .bool false]) (by simp [results, Tryz.results216, go_sem]) rfl ⟨rfl, by repeat' first | exact bF _ _ | refine bA ?_ ?_ _ | refine bS ?_ ?_ _ | refine bD ?_ | (simp; done) | (simp; omega) | (simp [drew_size]; done) | (simp [drew_size]; omega) | omega⟩
theorem below_20f (al ah bl bh : Int) (hb : 0 ≤ bl) (h : max al 0 ≤ ah) (hi : isV 20 (max al 0) bh = false) (w : World) : Calls Tryz.prog 216 #[vI vK 20, .agg #[vI vK al, vI vK ah], .agg #[vI vK bl, vI vK bh]] w fun e w' => e = .returned (.tuple #[.agg #[vI vK 0, vI vK 0], .agg #[vI vK 0, vI vK 0], .bool false]) ∧ Below w.heap.size w w' := by
  have _hb : decide (bl < 0) = false := by simp; omega
  have _h : decide (ah < max al 0) = false := by simp; omega
  go_enter Tryz.func216, Tryz.ntmps216
  go_wp2_with (first | (go_at_call 155; refine (is_any _ _ _ _).mono ?_; rintro e w' ⟨rfl, rfl⟩))
  all_goals exact bodyPost_ret (v := .tuple #[.agg #[vI vK 0, vI vK 0], .agg #[vI vK 0, vI vK 0], .bool false]) (by simp [results, Tryz.results216, go_sem]) rfl ⟨rfl, by repeat' first | exact bF _ _ | refine bA ?_ ?_ _ | refine bS ?_ ?_ _ | refine bD ?_ | (simp; done) | (simp; omega) | (simp [drew_size]; done) | (simp [drew_size]; omega) | omega⟩
theorem below_20t (al ah bl bh : Int) (hb : 0 ≤ bl) (h : max al 0 ≤ ah) (hi : isV 20 (max al 0) bh = true) (p1 : -9223372036854775808 ≤ max al 0) (p2 : max al 0 + 0 ≤ 9223372036854775807) (p3 : -9223372036854775808 ≤ bh - 0) (p4 : bh ≤ 9223372036854775807) (w : World) : Calls Tryz.prog 216 #[vI vK 20, .agg #[vI vK al, vI vK ah], .agg #[vI vK bl, vI vK bh]] w fun e w' => e = .returned (.tuple #[.agg #[vI vK (max al 0), vI vK (min ah (bh))], .agg #[vI vK (max bl (max al 0)), vI vK bh], .bool true]) ∧ Below w.heap.size w w' := by
  have _hb : decide (bl < 0) = false := by simp; omega
  have _h : decide (ah < max al 0) = false := by simp; omega
  go_enter Tryz.func216, Tryz.ntmps216
  go_wp2_with (first | (go_at_call 155; refine (is_any _ _ _ _).mono ?_; rintro e w' ⟨rfl, rfl⟩))
  go_region
  all_goals go_wp2
  all_goals exact bodyPost_ret (v := .tuple #[.agg #[vI vK (max al 0), vI vK (min ah (bh))], .agg #[vI vK (max bl (max al 0)), vI vK bh], .bool true]) (by simp [results, Tryz.results216, go_sem]) rfl ⟨rfl, by repeat' first | exact bF _ _ | refine bA ?_ ?_ _ | refine bS ?_ ?_ _ | refine bD ?_ | (simp; done) | (simp; omega) | (simp [drew_size]; done) | (simp [drew_size]; omega) | omega⟩
theorem below_23e (al ah bl bh : Int) (h : ah < al) (w : World) : Calls Tryz.prog 216 #[vI vK 23, .agg #[vI vK al, vI vK ah], .agg #[vI vK bl, vI vK bh]] w fun e w' => e = .returned (.tuple #[.agg #[vI vK 0, vI vK 0], .agg #[vI vK 0, vI vK 0], .bool false]) ∧ Below w.heap.size w w' := by
  have _h : decide (ah < al) = true := by simp; omega
  go_enter Tryz.func216, Tryz.ntmps216
  go_wp2_with (first | (go_at_call 155; refine (is_any _ _ _ _).mono ?_; rintro e w' ⟨rfl, rfl⟩))
  all_goals exact bodyPost_ret (v := .tuple #[.agg #[vI vK 0, vI vK 0], .agg #[vI vK 0, vI vK 0], .bool false]) (by simp [results, Tryz.results216, go_sem]) rfl ⟨rfl, by repeat' first | exact bF _ _ | refine bA ?_ ?_ _ | refine bS ?_ ?_ _ | refine bD ?_ | (simp; done) | (simp; omega) | (simp [drew_size]; done) | (simp [drew_size]; omega) | omega⟩
theorem below_23f (al ah bl bh : Int) (h : al ≤ ah) (hi : isV 23 (al) bh = false) (w : World) : Calls Tryz.prog 216 #[vI vK 23, .agg #[vI vK al, vI vK ah], .agg #[vI vK bl, vI vK bh]] w fun e w' => e = .returned (.tuple #[.agg #[vI vK 0, vI vK 0], .agg #[vI vK 0, vI vK 0], .bool false]) ∧ Below w.heap.size w w' := by
  have _h : decide (ah < al) = false := by simp; omega
  go_enter Tryz.func216, Tryz.ntmps216
  go_wp2_with (first | (go_at_call 155; refine (is_any _ _ _ _).mono ?_; rintro e w' ⟨rfl, rfl⟩))
  all_goals exact bodyPost_ret (v := .tuple #[.agg #[vI vK 0, vI vK 0], .agg #[vI vK 0, vI vK 0], .bool false]) (by simp [results, Tryz.results216, go_sem]) rfl ⟨rfl, by repeat' first | exact bF _ _ | refine bA ?_ ?_ _ | refine bS ?_ ?_ _ | refine bD ?_ | (simp; done) | (simp; omega) | (simp [drew_size]; done) | (simp [drew_size]; omega) | omega⟩
theorem below_23t (al ah bl bh : Int) (h : al ≤ ah) (hi : isV 23 (al) bh = true) (p1 : -9223372036854775808 ≤ al) (p2 : al + 1 ≤ 9223372036854775807) (p3 : -9223372036854775808 ≤ bh - 1) (p4 : bh ≤ 9223372036854775807) (w : World) : Calls Tryz.prog 216 #[vI vK 23, .agg #[vI vK al, vI vK ah], .agg #[vI vK bl, vI vK bh]] w fun e w' => e = .returned (.tuple #[.agg #[vI vK al, vI vK (min ah (bh - 1))], .agg #[vI vK (max bl (al + 1)), vI vK bh], .bool true]) ∧ Below w.heap.size w w' := by
  have _h : decide (ah < al) = false := by simp; omega
  go_enter Tryz.func216, Tryz.ntmps216
  go_wp2_with (first | (go_at_call 155; refine (is_any _ _ _ _).mono ?_; rintro e w' ⟨rfl, rfl⟩))
  go_region
  all_goals go_wp2
  all_goals exact bodyPost_ret (v := .tuple #[.agg #[vI vK al, vI vK (min ah (bh - 1))], .agg #[vI vK (max bl (al + 1)), vI vK bh], .bool true]) (by simp [results, Tryz.results216, go_sem]) rfl ⟨rfl, by repeat' first | exact bF _ _ | refine bA ?_ ?_ _ | refine bS ?_ ?_ _ | refine bD ?_ | (simp; done) | (simp; omega) | (simp [drew_size]; done) | (simp [drew_size]; omega) | omega⟩
theorem below_24e (al ah bl bh : Int) (h : ah < al) (w : World) : Calls Tryz.prog 216 #[vI vK 24, .agg #[vI vK al, vI vK ah], .agg #[vI vK bl, vI vK bh]] w fun e w' => e = .returned (.tuple #[.agg #[vI vK 0, vI vK 0], .agg #[vI vK 0, vI vK 0], .bool false]) ∧ Below w.heap.size w w' := by
  have _h : decide (ah < al) = true := by simp; omega
  go_enter Tryz.func216, Tryz.ntmps216
  go_wp2_with (first | (go_at_call 155; refine (is_any _ _ _ _).mono ?_; rintro e w' ⟨rfl, rfl⟩))
  all_goals exact bodyPost_ret (v := .tuple #[.agg #[vI vK 0, vI vK 0], .agg #[vI vK 0, vI vK 0], .bool false]) (by simp [results, Tryz.results216, go_sem]) rfl ⟨rfl, by repeat' first | exact bF _ _ | refine bA ?_ ?_ _ | refine bS ?_ ?_ _ | refine bD ?_ | (simp; done) | (simp; omega) | (simp [drew_size]; done) | (simp [drew_size]; omega) | omega⟩
theorem below_24f (al ah bl bh : Int) (h : al ≤ ah) (hi : isV 24 (al) bh = false) (w : World) : Calls Tryz.prog 216 #[vI vK 24, .agg #[vI vK al, vI vK ah], .agg #[vI vK bl, vI vK bh]] w fun e w' => e = .returned (.tuple #[.agg #[vI vK 0, vI vK 0], .agg #[vI vK 0, vI vK 0], .bool false]) ∧ Below w.heap.size w w' := by
  have _h : decide (ah < al) = false := by simp; omega
  go_enter Tryz.func216, Tryz.ntmps216
  go_wp2_with (first | (go_at_call 155; refine (is_any _ _ _ _).mono ?_; rintro e w' ⟨rfl, rfl⟩))
  all_goals exact bodyPost_ret (v := .tuple #[.agg #[vI vK 0, vI vK 0], .agg #[vI vK 0, vI vK 0], .bool false]) (by simp [results, Tryz.results216, go_sem]) rfl ⟨rfl, by repeat' first | exact bF _ _ | refine bA ?_ ?_ _ | refine bS ?_ ?_ _ | refine bD ?_ | (simp; done) | (simp; omega) | (simp [drew_size]; done) | (simp [drew_size]; omega) | omega⟩
theorem below_24t (al ah bl bh : Int) (h : al ≤ ah) (hi : isV 24 (al) bh = true) (p1 : -9223372036854775808 ≤ al) (p2 : al + 0 ≤ 9223372036854775807) (p3 : -9223372036854775808 ≤ bh - 0) (p4 : bh ≤ 9223372036854775807) (w : World) : Calls Tryz.prog 216 #[vI vK 24, .agg #[vI vK al, vI vK ah], .agg #[vI vK bl, vI vK bh]] w fun e w' => e = .returned (.tuple #[.agg #[vI vK al, vI vK (min ah (bh))], .agg #[vI vK (max bl (al)), vI vK bh], .bool true]) ∧ Below w.heap.size w w' := by
  have _h : decide (ah < al) = false := by simp; omega
  go_enter Tryz.func216, Tryz.ntmps216
  go_wp2_with (first | (go_at_call 155; refine (is_any _ _ _ _).mono ?_; rintro e w' ⟨rfl, rfl⟩))
  go_region
  all_goals go_wp2
  all_goals exact bodyPost_ret (v := .tuple #[.agg #[vI vK al, vI vK (min ah (bh))], .agg #[vI vK (max bl (al)), vI vK bh], .bool true]) (by simp [results, Tryz.results216, go_sem]) rfl ⟨rfl, by repeat' first | exact bF _ _ | refine bA ?_ ?_ _ | refine bS ?_ ?_ _ | refine bD ?_ | (simp; done) | (simp; omega) | (simp [drew_size]; done) | (simp [drew_size]; omega) | omega⟩
def eqB (l h e : Int) : Bool := decide (l = e) && decide (h = e)
theorem eqB_iff (l h e : Int) : eqB l h e = true ↔ l = e ∧ h = e := by simp [eqB]
theorem eqB_no (l h e : Int) : eqB l h e = false ↔ ¬ (l = e ∧ h = e) := by rw [← Bool.not_eq_true, eqB_iff]
theorem cut_yes (e l h : Int) (bk : Nat) (p : l = e) (q : h = e) (w : World) (hbk : bk < w.heap.size) (c0 : w.cell? ⟨bk, 0, none⟩ = some (vI vK l)) (c1 : w.cell? ⟨bk, 1, none⟩ = some (vI vK h)) : Calls Tryz.prog 224 #[vI vK e, .pointer (some ⟨bk, 0, none⟩)] w fun r w' => r = .returned (.bool true) ∧ Below w.heap.size w w' := by
  obtain rfl : e = l := p.symm
  obtain rfl : e = h := q.symm
  go_enter Tryz.func224, Tryz.ntmps224
  go_wp2_with (first | (go_at_call 37; refine (one_at _ _).mono ?_; rintro e w' ⟨rfl, rfl⟩))
  go_region_held3 (fun w' => w'.cell? ⟨bk, 0, none⟩ = some (vI vK e) ∧ w'.cell? ⟨bk, 1, none⟩ = some (vI vK e)) (first | (simp [go_sem]; done) | (simp [go_sem, *]; done) | go_keep) (first | (go_at_call 37; refine (one_at _ _).mono ?_; rintro e w' ⟨rfl, rfl⟩))
  all_goals go_wp2
  all_goals go_ret
  all_goals exact ⟨rfl, by repeat' first | exact bF _ _ | refine bA ?_ ?_ _ | refine bS ?_ ?_ _ | refine bD ?_ | (simp; done) | (simp; omega) | (simp [drew_size]; done) | (simp [drew_size]; omega) | omega⟩
theorem cut_no0 (e l h : Int) (bk : Nat) (p : ¬ l = e) (w : World) (hbk : bk < w.heap.size) (c0 : w.cell? ⟨bk, 0, none⟩ = some (vI vK l)) (c1 : w.cell? ⟨bk, 1, none⟩ = some (vI vK h)) : Calls Tryz.prog 224 #[vI vK e, .pointer (some ⟨bk, 0, none⟩)] w fun r w' => r = .returned (.bool false) ∧ Below w.heap.size w w' := by
  go_enter Tryz.func224, Tryz.ntmps224
  go_wp2_with (first | (go_at_call 37; refine (one_at _ _).mono ?_; rintro e w' ⟨rfl, rfl⟩))
  go_region_held3 (fun w' => w'.cell? ⟨bk, 0, none⟩ = some (vI vK l) ∧ w'.cell? ⟨bk, 1, none⟩ = some (vI vK h)) (first | (simp [go_sem]; done) | (simp [go_sem, *]; done) | go_keep) (first | (go_at_call 37; refine (one_at _ _).mono ?_; rintro e w' ⟨rfl, rfl⟩))
  all_goals go_wp2
  all_goals go_ret
  all_goals exact ⟨rfl, by repeat' first | exact bF _ _ | refine bA ?_ ?_ _ | refine bS ?_ ?_ _ | refine bD ?_ | (simp; done) | (simp; omega) | (simp [drew_size]; done) | (simp [drew_size]; omega) | omega⟩
theorem cut_no1 (e l h : Int) (bk : Nat) (p : l = e) (q : ¬ h = e) (w : World) (hbk : bk < w.heap.size) (c0 : w.cell? ⟨bk, 0, none⟩ = some (vI vK l)) (c1 : w.cell? ⟨bk, 1, none⟩ = some (vI vK h)) : Calls Tryz.prog 224 #[vI vK e, .pointer (some ⟨bk, 0, none⟩)] w fun r w' => r = .returned (.bool false) ∧ Below w.heap.size w w' := by
  obtain rfl : e = l := p.symm
  go_enter Tryz.func224, Tryz.ntmps224
  go_wp2_with (first | (go_at_call 37; refine (one_at _ _).mono ?_; rintro e w' ⟨rfl, rfl⟩))
  go_region_held3 (fun w' => w'.cell? ⟨bk, 0, none⟩ = some (vI vK e) ∧ w'.cell? ⟨bk, 1, none⟩ = some (vI vK h)) (first | (simp [go_sem]; done) | (simp [go_sem, *]; done) | go_keep) (first | (go_at_call 37; refine (one_at _ _).mono ?_; rintro e w' ⟨rfl, rfl⟩))
  all_goals go_wp2
  all_goals go_ret
  all_goals exact ⟨rfl, by repeat' first | exact bF _ _ | refine bA ?_ ?_ _ | refine bS ?_ ?_ _ | refine bD ?_ | (simp; done) | (simp; omega) | (simp [drew_size]; done) | (simp [drew_size]; omega) | omega⟩
theorem cut_is (e l h : Int) (bk : Nat) (w : World) (hbk : bk < w.heap.size) (c0 : w.cell? ⟨bk, 0, none⟩ = some (vI vK l)) (c1 : w.cell? ⟨bk, 1, none⟩ = some (vI vK h)) : Calls Tryz.prog 224 #[vI vK e, .pointer (some ⟨bk, 0, none⟩)] w fun r w' => r = .returned (.bool (eqB l h e)) ∧ Below w.heap.size w w' := by
  by_cases p : l = e
  · by_cases q : h = e
    · have hb : eqB l h e = true := (eqB_iff _ _ _).2 ⟨p, q⟩
      rw [hb]
      exact cut_yes e l h bk p q w hbk c0 c1
    · have hb : eqB l h e = false := (eqB_no _ _ _).2 (fun x => q x.2)
      rw [hb]
      exact cut_no1 e l h bk p q w hbk c0 c1
  · have hb : eqB l h e = false := (eqB_no _ _ _).2 (fun x => p x.1)
    rw [hb]
    exact cut_no0 e l h bk p w hbk c0 c1
def Trio (n : Nat) (al ah bl bh : Int) (w : World) : Prop :=
  n + 1 + 1 < w.heap.size ∧ w.cell? ⟨n, 0, none⟩ = some (vI vK al) ∧ w.cell? ⟨n, 1, none⟩ = some (vI vK ah) ∧ w.frozen? ⟨n, 0, none⟩ = false ∧ w.frozen? ⟨n, 1, none⟩ = false
  ∧ w.cell? ⟨n + 1, 0, none⟩ = some (vI vK bl) ∧ w.cell? ⟨n + 1, 1, none⟩ = some (vI vK bh) ∧ w.frozen? ⟨n + 1, 0, none⟩ = false ∧ w.frozen? ⟨n + 1, 1, none⟩ = false
  ∧ w.cell? ⟨n + 1 + 1, 0, none⟩ = some (vI vK 0) ∧ w.cell? ⟨n + 1 + 1, 1, none⟩ = some (vI vK 0) ∧ w.frozen? ⟨n + 1 + 1, 0, none⟩ = false ∧ w.frozen? ⟨n + 1 + 1, 1, none⟩ = false
theorem Trio.later {n : Nat} {al ah bl bh : Int} {W w1 : World} (h : Trio n al ah bl bh W) (hb : Below W.heap.size W w1) : Trio n al ah bl bh w1 := by
  obtain ⟨t0, a0, a1, af0, af1, b0, b1, bf0, bf1, r0, r1, rf0, rf1⟩ := h
  have hs := hb.size
  have l0 : n < W.heap.size := by omega
  have l1 : n + 1 < W.heap.size := by omega
  exact ⟨by omega, (hb.cell (p := ⟨n, 0, none⟩) l0).trans a0, (hb.cell (p := ⟨n, 1, none⟩) l0).trans a1, (hb.frozen (p := ⟨n, 0, none⟩) l0).trans af0, (hb.frozen (p := ⟨n, 1, none⟩) l0).trans af1,
    (hb.cell (p := ⟨n + 1, 0, none⟩) l1).trans b0, (hb.cell (p := ⟨n + 1, 1, none⟩) l1).trans b1, (hb.frozen (p := ⟨n + 1, 0, none⟩) l1).trans bf0, (hb.frozen (p := ⟨n + 1, 1, none⟩) l1).trans bf1,
    (hb.cell (p := ⟨n + 1 + 1, 0, none⟩) t0).trans r0, (hb.cell (p := ⟨n + 1 + 1, 1, none⟩) t0).trans r1, (hb.frozen (p := ⟨n + 1 + 1, 0, none⟩) t0).trans rf0, (hb.frozen (p := ⟨n + 1 + 1, 1, none⟩) t0).trans rf1⟩

theorem wo_one (al bl bh : Int) (w : World) : Calls Tryz.prog 223 #[.agg #[vI vK al, vI vK al], .agg #[vI vK bl, vI vK bh]] w fun e w' => e = .returned (.agg #[vI vK al, vI vK al]) ∧ Below w.heap.size w w' := by
  go_enter Tryz.func223, Tryz.ntmps223
  go_wp2_with fail
  go_region_held3 (fun w' => w'.cell? ⟨w.heap.size, 0, none⟩ = some (vI vK al) ∧ w'.cell? ⟨w.heap.size, 1, none⟩ = some (vI vK al)) (first | (simp [go_sem]; done) | (simp [go_sem, *]; done) | go_keep) (first | (go_at_call 37; refine (one_at _ _).mono ?_; rintro e w' ⟨rfl, rfl⟩) | (go_at_call 224; go_must (refine (cut_is _ bl bh _ _ ?_ ?_ ?_).mono ?_; (focus first | (simp; done) | (simp; omega) | omega); (focus first | (simp [go_sem]; done) | (simp [go_sem, *]; done)); (focus first | (simp [go_sem]; done) | (simp [go_sem, *]; done)); rintro e w1 ⟨rfl, hb1⟩; have hX1 : Trio w.heap.size al ah bl bh w1 := Trio.later (by first | exact hX1 | (refine ⟨?_, ?_, ?_, ?_, ?_, ?_, ?_, ?_, ?_, ?_, ?_, ?_, ?_⟩ <;> simp [go_sem])) hb1; have hbw1 : Below w.heap.size w w1 := (by ((refine Below.trans ?_ (hb1.mono ?_)) <;> repeat' first | exact bF _ _ | exact hbw1 | refine bA ?_ ?_ _ | refine bS ?_ ?_ _ | refine bD ?_ | (simp; done) | (simp; omega) | (simp [drew_size]; done) | (simp [drew_size]; omega) | omega)); have hY := hX1; obtain ⟨t0, a0, a1, af0, af1, b0, b1, bf0, bf1, r0, r1, rf0, rf1⟩ := hY)))
  all_goals go_wp2_with (first | (go_at_call 37; refine (one_at _ _).mono ?_; rintro e w' ⟨rfl, rfl⟩) | (go_at_call 224; go_must (refine (cut_is _ bl bh _ _ ?_ ?_ ?_).mono ?_; (focus first | (simp; done) | (simp; omega) | omega); (focus first | (simp [go_sem]; done) | (simp [go_sem, *]; done)); (focus first | (simp [go_sem]; done) | (simp [go_sem, *]; done)); rintro e w1 ⟨rfl, hb1⟩; have hX1 : Trio w.heap.size al ah bl bh w1 := Trio.later (by first | exact hX1 | (refine ⟨?_, ?_, ?_, ?_, ?_, ?_, ?_, ?_, ?_, ?_, ?_, ?_, ?_⟩ <;> simp [go_sem])) hb1; have hbw1 : Below w.heap.size w w1 := (by ((refine Below.trans ?_ (hb1.mono ?_)) <;> repeat' first | exact bF _ _ | exact hbw1 | refine bA ?_ ?_ _ | refine bS ?_ ?_ _ | refine bD ?_ | (simp; done) | (simp; omega) | (simp [drew_size]; done) | (simp [drew_size]; omega) | omega)); have hY := hX1; obtain ⟨t0, a0, a1, af0, af1, b0, b1, bf0, bf1, r0, r1, rf0, rf1⟩ := hY)))
  all_goals exact bodyPost_ret (v := .agg #[vI vK al, vI vK al]) (by simp [results, Tryz.results223, go_sem]) rfl ⟨rfl, by repeat' first | exact bF _ _ | refine bA ?_ ?_ _ | refine bS ?_ ?_ _ | refine bD ?_ | (simp; done) | (simp; omega) | (simp [drew_size]; done) | (simp [drew_size]; omega) | omega⟩
theorem wo_low (al ah bl bh : Int) (hne : ¬ ah = al) (hlt : al < ah) (p1 : -9223372036854775808 ≤ al) (p2 : ah ≤ 9223372036854775807) (hp : eqB bl bh al = true) (w : World) : Calls Tryz.prog 223 #[.agg #[vI vK al, vI vK ah], .agg #[vI vK bl, vI vK bh]] w fun e w' => e = .returned (.agg #[vI vK (al + 1), vI vK ah]) ∧ Below w.heap.size w w' := by
  go_enter Tryz.func223, Tryz.ntmps223
  go_wp2_with fail
  go_region_held3 (fun w' => w'.cell? ⟨w.heap.size, 0, none⟩ = some (vI vK al) ∧ w'.cell? ⟨w.heap.size, 1, none⟩ = some (vI vK ah)) (first | (simp [go_sem]; done) | (simp [go_sem, *]; done) | go_keep) (first | (go_at_call 37; refine (one_at _ _).mono ?_; rintro e w' ⟨rfl, rfl⟩) | (go_at_call 224; go_must (refine (cut_is _ bl bh _ _ ?_ ?_ ?_).mono ?_; (focus first | (simp; done) | (simp; omega) | omega); (focus first | (simp [go_sem]; done) | (simp [go_sem, *]; done)); (focus first | (simp [go_sem]; done) | (simp [go_sem, *]; done)); rintro e w1 ⟨rfl, hb1⟩; have hX1 : Trio w.heap.size al ah bl bh w1 := Trio.later (by first | exact hX1 | (refine ⟨?_, ?_, ?_, ?_, ?_, ?_, ?_, ?_, ?_, ?_, ?_, ?_, ?_⟩ <;> simp [go_sem])) hb1; have hbw1 : Below w.heap.size w w1 := (by ((refine Below.trans ?_ (hb1.mono ?_)) <;> repeat' first | exact bF _ _ | exact hbw1 | refine bA ?_ ?_ _ | refine bS ?_ ?_ _ | refine bD ?_ | (simp; done) | (simp; omega) | (simp [drew_size]; done) | (simp [drew_size]; omega) | omega)); have hY := hX1; obtain ⟨t0, a0, a1, af0, af1, b0, b1, bf0, bf1, r0, r1, rf0, rf1⟩ := hY)))
  all_goals go_wp2_with (first | (go_at_call 37; refine (one_at _ _).mono ?_; rintro e w' ⟨rfl, rfl⟩) | (go_at_call 224; go_must (refine (cut_is _ bl bh _ _ ?_ ?_ ?_).mono ?_; (focus first | (simp; done) | (simp; omega) | omega); (focus first | (simp [go_sem]; done) | (simp [go_sem, *]; done)); (focus first | (simp [go_sem]; done) | (simp [go_sem, *]; done)); rintro e w1 ⟨rfl, hb1⟩; have hX1 : Trio w.heap.size al ah bl bh w1 := Trio.later (by first | exact hX1 | (refine ⟨?_, ?_, ?_, ?_, ?_, ?_, ?_, ?_, ?_, ?_, ?_, ?_, ?_⟩ <;> simp [go_sem])) hb1; have hbw1 : Below w.heap.size w w1 := (by ((refine Below.trans ?_ (hb1.mono ?_)) <;> repeat' first | exact bF _ _ | exact hbw1 | refine bA ?_ ?_ _ | refine bS ?_ ?_ _ | refine bD ?_ | (simp; done) | (simp; omega) | (simp [drew_size]; done) | (simp [drew_size]; omega) | omega)); have hY := hX1; obtain ⟨t0, a0, a1, af0, af1, b0, b1, bf0, bf1, r0, r1, rf0, rf1⟩ := hY)))
  all_goals exact bodyPost_ret (v := .agg #[vI vK (al + 1), vI vK ah]) (by simp [results, Tryz.results223, go_sem, r0, r1]) rfl ⟨rfl, by repeat' first | exact bF _ _ | exact hbw1 | refine bA ?_ ?_ _ | refine bS ?_ ?_ _ | refine bD ?_ | (simp; done) | (simp; omega) | (simp [drew_size]; done) | (simp [drew_size]; omega) | omega⟩
theorem wo_high (al ah bl bh : Int) (hne : ¬ ah = al) (hlt : al < ah) (p1 : -9223372036854775808 ≤ al) (p2 : ah ≤ 9223372036854775807) (hp : eqB bl bh al = false) (hq : eqB bl bh ah = true) (w : World) : Calls Tryz.prog 223 #[.agg #[vI vK al, vI vK ah], .agg #[vI vK bl, vI vK bh]] w fun e w' => e = .returned (.agg #[vI vK al, vI vK (ah - 1)]) ∧ Below w.heap.size w w' := by
  go_enter Tryz.func223, Tryz.ntmps223
  go_wp2_with fail
  go_region_held3 (fun w' => w'.cell? ⟨w.heap.size, 0, none⟩ = some (vI vK al) ∧ w'.cell? ⟨w.heap.size, 1, none⟩ = some (vI vK ah)) (first | (simp [go_sem]; done) | (simp [go_sem, *]; done) | go_keep) (first | (go_at_call 37; refine (one_at _ _).mono ?_; rintro e w' ⟨rfl, rfl⟩) | (go_at_call 224; go_must (refine (cut_is _ bl bh _ _ ?_ ?_ ?_).mono ?_; (focus first | (simp; done) | (simp; omega) | omega); (focus first | (simp [go_sem]; done) | (simp [go_sem, *]; done)); (focus first | (simp [go_sem]; done) | (simp [go_sem, *]; done)); rintro e w1 ⟨rfl, hb1⟩; have hX1 : Trio w.heap.size al ah bl bh w1 := Trio.later (by first | exact hX1 | (refine ⟨?_, ?_, ?_, ?_, ?_, ?_, ?_, ?_, ?_, ?_, ?_, ?_, ?_⟩ <;> simp [go_sem])) hb1; have hbw1 : Below w.heap.size w w1 := (by ((refine Below.trans ?_ (hb1.mono ?_)) <;> repeat' first | exact bF _ _ | exact hbw1 | refine bA ?_ ?_ _ | refine bS ?_ ?_ _ | refine bD ?_ | (simp; done) | (simp; omega) | (simp [drew_size]; done) | (simp [drew_size]; omega) | omega)); have hY := hX1; obtain ⟨t0, a0, a1, af0, af1, b0, b1, bf0, bf1, r0, r1, rf0, rf1⟩ := hY)))
  all_goals go_wp2_with (first | (go_at_call 37; refine (one_at _ _).mono ?_; rintro e w' ⟨rfl, rfl⟩) | (go_at_call 224; go_must (refine (cut_is _ bl bh _ _ ?_ ?_ ?_).mono ?_; (focus first | (simp; done) | (simp; omega) | omega); (focus first | (simp [go_sem]; done) | (simp [go_sem, *]; done)); (focus first | (simp [go_sem]; done) | (simp [go_sem, *]; done)); rintro e w1 ⟨rfl, hb1⟩; have hX1 : Trio w.heap.size al ah bl bh w1 := Trio.later (by first | exact hX1 | (refine ⟨?_, ?_, ?_, ?_, ?_, ?_, ?_, ?_, ?_, ?_, ?_, ?_, ?_⟩ <;> simp [go_sem])) hb1; have hbw1 : Below w.heap.size w w1 := (by ((refine Below.trans ?_ (hb1.mono ?_)) <;> repeat' first | exact bF _ _ | exact hbw1 | refine bA ?_ ?_ _ | refine bS ?_ ?_ _ | refine bD ?_ | (simp; done) | (simp; omega) | (simp [drew_size]; done) | (simp [drew_size]; omega) | omega)); have hY := hX1; obtain ⟨t0, a0, a1, af0, af1, b0, b1, bf0, bf1, r0, r1, rf0, rf1⟩ := hY)))
  all_goals exact bodyPost_ret (v := .agg #[vI vK al, vI vK (ah - 1)]) (by simp [results, Tryz.results223, go_sem, r0, r1]) rfl ⟨rfl, by repeat' first | exact bF _ _ | exact hbw1 | refine bA ?_ ?_ _ | refine bS ?_ ?_ _ | refine bD ?_ | (simp; done) | (simp; omega) | (simp [drew_size]; done) | (simp [drew_size]; omega) | omega⟩
theorem wo_none (al ah bl bh : Int) (hne : ¬ ah = al) (hp : eqB bl bh al = false) (hq : eqB bl bh ah = false) (w : World) : Calls Tryz.prog 223 #[.agg #[vI vK al, vI vK ah], .agg #[vI vK bl, vI vK bh]] w fun e w' => e = .returned (.agg #[vI vK al, vI vK ah]) ∧ Below w.heap.size w w' := by
  go_enter Tryz.func223, Tryz.ntmps223
  go_wp2_with fail
  go_region_held3 (fun w' => w'.cell? ⟨w.heap.size, 0, none⟩ = some (vI vK al) ∧ w'.cell? ⟨w.heap.size, 1, none⟩ = some (vI vK ah)) (first | (simp [go_sem]; done) | (simp [go_sem, *]; done) | go_keep) (first | (go_at_call 37; refine (one_at _ _).mono ?_; rintro e w' ⟨rfl, rfl⟩) | (go_at_call 224; go_must (refine (cut_is _ bl bh _ _ ?_ ?_ ?_).mono ?_; (focus first | (simp; done) | (simp; omega) | omega); (focus first | (simp [go_sem]; done) | (simp [go_sem, *]; done)); (focus first | (simp [go_sem]; done) | (simp [go_sem, *]; done)); rintro e w1 ⟨rfl, hb1⟩; have hX1 : Trio w.heap.size al ah bl bh w1 := Trio.later (by first | exact hX1 | (refine ⟨?_, ?_, ?_, ?_, ?_, ?_, ?_, ?_, ?_, ?_, ?_, ?_, ?_⟩ <;> simp [go_sem])) hb1; have hbw1 : Below w.heap.size w w1 := (by ((refine Below.trans ?_ (hb1.mono ?_)) <;> repeat' first | exact bF _ _ | exact hbw1 | refine bA ?_ ?_ _ | refine bS ?_ ?_ _ | refine bD ?_ | (simp; done) | (simp; omega) | (simp [drew_size]; done) | (simp [drew_size]; omega) | omega)); have hY := hX1; obtain ⟨t0, a0, a1, af0, af1, b0, b1, bf0, bf1, r0, r1, rf0, rf1⟩ := hY)))
  all_goals go_wp2_with (first | (go_at_call 37; refine (one_at _ _).mono ?_; rintro e w' ⟨rfl, rfl⟩) | (go_at_call 224; go_must (refine (cut_is _ bl bh _ _ ?_ ?_ ?_).mono ?_; (focus first | (simp; done) | (simp; omega) | omega); (focus first | (simp [go_sem]; done) | (simp [go_sem, *]; done)); (focus first | (simp [go_sem]; done) | (simp [go_sem, *]; done)); rintro e w1 ⟨rfl, hb1⟩; have hX1 : Trio w.heap.size al ah bl bh w1 := Trio.later (by first | exact hX1 | (refine ⟨?_, ?_, ?_, ?_, ?_, ?_, ?_, ?_, ?_, ?_, ?_, ?_, ?_⟩ <;> simp [go_sem])) hb1; have hbw1 : Below w.heap.size w w1 := (by ((refine Below.trans ?_ (hb1.mono ?_)) <;> repeat' first | exact bF _ _ | exact hbw1 | refine bA ?_ ?_ _ | refine bS ?_ ?_ _ | refine bD ?_ | (simp; done) | (simp; omega) | (simp [drew_size]; done) | (simp [drew_size]; omega) | omega)); have hY := hX1; obtain ⟨t0, a0, a1, af0, af1, b0, b1, bf0, bf1, r0, r1, rf0, rf1⟩ := hY)))
  all_goals exact bodyPost_ret (v := .agg #[vI vK al, vI vK ah]) (by simp [results, Tryz.results223, go_sem, r0, r1]) rfl ⟨rfl, by repeat' first | exact bF _ _ | exact hbw1 | refine bA ?_ ?_ _ | refine bS ?_ ?_ _ | refine bD ?_ | (simp; done) | (simp; omega) | (simp [drew_size]; done) | (simp [drew_size]; omega) | omega⟩
end Go.Proofs.YtednmkhdehlojaaGreatDoor
namespace Go.Proofs.YtednmkhdehlojaaGreatDoor
open Go.ChangeShapes Go.WideShapes Go.ChangeAt Go.RowKit
set_option linter.unusedVariables false
attribute [local simp] drew_size
def cutV (al ah ol oh : Int) : Int × Int :=
  if al = ah then (al, ah) else if ol = al ∧ oh = al then (al + 1, ah) else if ol = ah ∧ oh = ah then (al, ah - 1) else (al, ah)

theorem without_is (al ah bl bh : Int) (pal : -9223372036854775808 ≤ al) (qah : ah ≤ 9223372036854775807) (oa : al ≤ ah) (w : World) : Calls Tryz.prog 223 #[.agg #[vI vK al, vI vK ah], .agg #[vI vK bl, vI vK bh]] w fun e w' => e = .returned (.agg #[vI vK ((cutV al ah bl bh).1), vI vK ((cutV al ah bl bh).2)]) ∧ Below w.heap.size w w' := by
  unfold cutV
  by_cases h0 : al = ah
  · rw [if_pos h0]
    subst h0
    exact wo_one al bl bh w
  · rw [if_neg h0]
    by_cases h1 : bl = al ∧ bh = al
    · rw [if_pos h1]
      exact wo_low al ah bl bh (fun h => h0 h.symm) (by omega) pal qah ((eqB_iff _ _ _).2 h1) w
    · rw [if_neg h1]
      by_cases h2 : bl = ah ∧ bh = ah
      · rw [if_pos h2]
        exact wo_high al ah bl bh (fun h => h0 h.symm) (by omega) pal qah ((eqB_no _ _ _).2 h1) ((eqB_iff _ _ _).2 h2) w
      · rw [if_neg h2]
        exact wo_none al ah bl bh (fun h => h0 h.symm) ((eqB_no _ _ _).2 h1) ((eqB_no _ _ _).2 h2) w
def Quad (n : Nat) (al ah bl bh : Int) (w : World) : Prop :=
  n + 1 + 1 + 1 < w.heap.size ∧ w.cell? ⟨n, 0, none⟩ = some (vI vK al) ∧ w.cell? ⟨n, 1, none⟩ = some (vI vK ah) ∧ w.frozen? ⟨n, 0, none⟩ = false ∧ w.frozen? ⟨n, 1, none⟩ = false ∧ w.cell? ⟨n + 1, 0, none⟩ = some (vI vK bl) ∧ w.cell? ⟨n + 1, 1, none⟩ = some (vI vK bh) ∧ w.frozen? ⟨n + 1, 0, none⟩ = false ∧ w.frozen? ⟨n + 1, 1, none⟩ = false ∧ w.cell? ⟨n + 1 + 1, 0, none⟩ = some (vI vK 0) ∧ w.cell? ⟨n + 1 + 1, 1, none⟩ = some (vI vK 0) ∧ w.frozen? ⟨n + 1 + 1, 0, none⟩ = false ∧ w.frozen? ⟨n + 1 + 1, 1, none⟩ = false ∧ w.cell? ⟨n + 1 + 1 + 1, 0, none⟩ = some (vI vK 0) ∧ w.cell? ⟨n + 1 + 1 + 1, 1, none⟩ = some (vI vK 0) ∧ w.frozen? ⟨n + 1 + 1 + 1, 0, none⟩ = false ∧ w.frozen? ⟨n + 1 + 1 + 1, 1, none⟩ = false
theorem Quad.later {n : Nat} {al ah bl bh : Int} {W w1 : World} (h : Quad n al ah bl bh W) (hb : Below W.heap.size W w1) : Quad n al ah bl bh w1 := by
  obtain ⟨t0, a0, a1, af0, af1, b0, b1, bf0, bf1, r0, r1, rf0, rf1, s0, s1, sf0, sf1⟩ := h
  have hs := hb.size
  have l0 : n < W.heap.size := by omega
  have l1 : n + 1 < W.heap.size := by omega
  have l2 : n + 1 + 1 < W.heap.size := by omega
  have l3 : n + 1 + 1 + 1 < W.heap.size := by omega
  exact ⟨by omega, (hb.cell (p := ⟨n, 0, none⟩) l0).trans a0, (hb.cell (p := ⟨n, 1, none⟩) l0).trans a1, (hb.frozen (p := ⟨n, 0, none⟩) l0).trans af0, (hb.frozen (p := ⟨n, 1, none⟩) l0).trans af1, (hb.cell (p := ⟨n + 1, 0, none⟩) l1).trans b0, (hb.cell (p := ⟨n + 1, 1, none⟩) l1).trans b1, (hb.frozen (p := ⟨n + 1, 0, none⟩) l1).trans bf0, (hb.frozen (p := ⟨n + 1, 1, none⟩) l1).trans bf1, (hb.cell (p := ⟨n + 1 + 1, 0, none⟩) l2).trans r0, (hb.cell (p := ⟨n + 1 + 1, 1, none⟩) l2).trans r1, (hb.frozen (p := ⟨n + 1 + 1, 0, none⟩) l2).trans rf0, (hb.frozen (p := ⟨n + 1 + 1, 1, none⟩) l2).trans rf1, (hb.cell (p := ⟨n + 1 + 1 + 1, 0, none⟩) l3).trans s0, (hb.cell (p := ⟨n + 1 + 1 + 1, 1, none⟩) l3).trans s1, (hb.frozen (p := ⟨n + 1 + 1 + 1, 0, none⟩) l3).trans sf0, (hb.frozen (p := ⟨n + 1 + 1 + 1, 1, none⟩) l3).trans sf1⟩
theorem apart_no (al : Int) (w : World) : Calls Tryz.prog 215 #[.agg #[vI vK al, vI vK al], .agg #[vI vK al, vI vK al]] w fun e w' => e = .returned (.tuple #[.agg #[vI vK 0, vI vK 0], .agg #[vI vK 0, vI vK 0], .bool false]) ∧ Below w.heap.size w w' := by
  go_enter Tryz.func215, Tryz.ntmps215
  go_wp2_with fail
  go_region_held3 (fun w' => w'.cell? ⟨w.heap.size, 0, none⟩ = some (vI vK al) ∧ w'.cell? ⟨w.heap.size, 1, none⟩ = some (vI vK al) ∧ w'.cell? ⟨w.heap.size + 1, 0, none⟩ = some (vI vK al) ∧ w'.cell? ⟨w.heap.size + 1, 1, none⟩ = some (vI vK al)) (first | (simp [go_sem]; done) | (simp [go_sem, *]; done) | go_keep) (first | (go_at_call 37; refine (one_at _ _).mono ?_; rintro e w' ⟨rfl, rfl⟩))
  all_goals go_wp2
  all_goals exact bodyPost_ret (v := .tuple #[.agg #[vI vK 0, vI vK 0], .agg #[vI vK 0, vI vK 0], .bool false]) (by simp [results, Tryz.results215, go_sem]) rfl ⟨rfl, by repeat' first | exact bF _ _ | refine bA ?_ ?_ _ | refine bS ?_ ?_ _ | refine bD ?_ | refine below_drewN ?_ _ | (simp; done) | (simp; omega) | (simp [drew_size]; done) | (simp [drew_size]; omega) | omega⟩
theorem drewN_size (w : World) (k : Nat) : (w.drewN k).heap.size = w.heap.size := rfl
attribute [local simp] drewN_size
theorem apart_y2 (al ah bl bh : Int) (pal : -9223372036854775808 ≤ al) (qal : al ≤ 9223372036854775807) (pah : -9223372036854775808 ≤ ah) (qah : ah ≤ 9223372036854775807) (pbl : -9223372036854775808 ≤ bl) (qbl : bl ≤ 9223372036854775807) (pbh : -9223372036854775808 ≤ bh) (qbh : bh ≤ 9223372036854775807) (oa : al ≤ ah) (ob : bl ≤ bh) (hne : ¬ al = bl) (w : World) : Calls Tryz.prog 215 #[.agg #[vI vK al, vI vK ah], .agg #[vI vK bl, vI vK bh]] w fun e w' => e = .returned (.tuple #[.agg #[vI vK ((cutV al ah bl bh).1), vI vK ((cutV al ah bl bh).2)], .agg #[vI vK ((cutV bl bh al ah).1), vI vK ((cutV bl bh al ah).2)], .bool true]) ∧ Below w.heap.size w w' := by
  go_enter Tryz.func215, Tryz.ntmps215
  go_wp2_with fail
  go_quiet (fail)
  go_wp2_with fail
  go_region_held3 (fun w' => w'.cell? ⟨w.heap.size, 0, none⟩ = some (vI vK al) ∧ w'.cell? ⟨w.heap.size, 1, none⟩ = some (vI vK ah) ∧ w'.cell? ⟨w.heap.size + 1, 0, none⟩ = some (vI vK bl) ∧ w'.cell? ⟨w.heap.size + 1, 1, none⟩ = some (vI vK bh)) (first | (simp [go_sem]; done) | (simp [go_sem, *]; done) | go_keep) (first | (go_at_call 37; refine (one_at _ _).mono ?_; rintro e w' ⟨rfl, rfl⟩) | (go_at_call 223; go_must (refine (without_is _ _ _ _ ?_ ?_ ?_ _).mono ?_; omega; omega; omega; rintro e w1 ⟨rfl, hb1⟩; have hX1 : Quad w.heap.size al ah bl bh w1 := Quad.later (by first | exact hX1 | (refine ⟨?_, ?_, ?_, ?_, ?_, ?_, ?_, ?_, ?_, ?_, ?_, ?_, ?_, ?_, ?_, ?_, ?_⟩ <;> simp [go_sem])) hb1; have hbw1 : Below w.heap.size w w1 := (by ((refine Below.trans ?_ (hb1.mono ?_)) <;> repeat' first | exact bF _ _ | exact hbw1 | refine bA ?_ ?_ _ | refine bS ?_ ?_ _ | refine bD ?_ | refine below_drewN ?_ _ | (simp; done) | (simp; omega) | (simp [drew_size]; done) | (simp [drew_size]; omega) | omega)); have hY := hX1; obtain ⟨t0, a0, a1, af0, af1, b0, b1, bf0, bf1, r0, r1, rf0, rf1, s0, s1, sf0, sf1⟩ := hY)))
  all_goals go_wp2_with fail
  all_goals exact bodyPost_ret (v := .tuple #[.agg #[vI vK ((cutV al ah bl bh).1), vI vK ((cutV al ah bl bh).2)], .agg #[vI vK ((cutV bl bh al ah).1), vI vK ((cutV bl bh al ah).2)], .bool true]) (by simp [results, Tryz.results215, go_sem, r0, r1, s0, s1]) rfl ⟨rfl, by repeat' first | exact bF _ _ | exact hbw1 | refine bA ?_ ?_ _ | refine bS ?_ ?_ _ | refine bD ?_ | refine below_drewN ?_ _ | (simp; done) | (simp; omega) | (simp [drew_size]; done) | (simp [drew_size]; omega) | omega⟩
theorem apart_y3 (al ah bh : Int) (pal : -9223372036854775808 ≤ al) (qal : al ≤ 9223372036854775807) (pah : -9223372036854775808 ≤ ah) (qah : ah ≤ 9223372036854775807) (pbh : -9223372036854775808 ≤ bh) (qbh : bh ≤ 9223372036854775807) (oa : al ≤ ah) (ob : al ≤ bh) (hne : ¬ ah = bh) (w : World) : Calls Tryz.prog 215 #[.agg #[vI vK al, vI vK ah], .agg #[vI vK al, vI vK bh]] w fun e w' => e = .returned (.tuple #[.agg #[vI vK ((cutV al ah al bh).1), vI vK ((cutV al ah al bh).2)], .agg #[vI vK ((cutV al bh al ah).1), vI vK ((cutV al bh al ah).2)], .bool true]) ∧ Below w.heap.size w w' := by
  go_enter Tryz.func215, Tryz.ntmps215
  go_wp2_with fail
  go_quiet (fail)
  go_wp2_with fail
  go_region_held3 (fun w' => w'.cell? ⟨w.heap.size, 0, none⟩ = some (vI vK al) ∧ w'.cell? ⟨w.heap.size, 1, none⟩ = some (vI vK ah) ∧ w'.cell? ⟨w.heap.size + 1, 0, none⟩ = some (vI vK al) ∧ w'.cell? ⟨w.heap.size + 1, 1, none⟩ = some (vI vK bh)) (first | (simp [go_sem]; done) | (simp [go_sem, *]; done) | go_keep) (first | (go_at_call 37; refine (one_at _ _).mono ?_; rintro e w' ⟨rfl, rfl⟩) | (go_at_call 223; go_must (refine (without_is _ _ _ _ ?_ ?_ ?_ _).mono ?_; omega; omega; omega; rintro e w1 ⟨rfl, hb1⟩; have hX1 : Quad w.heap.size al ah al bh w1 := Quad.later (by first | exact hX1 | (refine ⟨?_, ?_, ?_, ?_, ?_, ?_, ?_, ?_, ?_, ?_, ?_, ?_, ?_, ?_, ?_, ?_, ?_⟩ <;> simp [go_sem])) hb1; have hbw1 : Below w.heap.size w w1 := (by ((refine Below.trans ?_ (hb1.mono ?_)) <;> repeat' first | exact bF _ _ | exact hbw1 | refine bA ?_ ?_ _ | refine bS ?_ ?_ _ | refine bD ?_ | refine below_drewN ?_ _ | (simp; done) | (simp; omega) | (simp [drew_size]; done) | (simp [drew_size]; omega) | omega)); have hY := hX1; obtain ⟨t0, a0, a1, af0, af1, b0, b1, bf0, bf1, r0, r1, rf0, rf1, s0, s1, sf0, sf1⟩ := hY)))
  all_goals go_wp2_with fail
  all_goals exact bodyPost_ret (v := .tuple #[.agg #[vI vK ((cutV al ah al bh).1), vI vK ((cutV al ah al bh).2)], .agg #[vI vK ((cutV al bh al ah).1), vI vK ((cutV al bh al ah).2)], .bool true]) (by simp [results, Tryz.results215, go_sem, r0, r1, s0, s1]) rfl ⟨rfl, by repeat' first | exact bF _ _ | exact hbw1 | refine bA ?_ ?_ _ | refine bS ?_ ?_ _ | refine bD ?_ | refine below_drewN ?_ _ | (simp; done) | (simp; omega) | (simp [drew_size]; done) | (simp [drew_size]; omega) | omega⟩
theorem apart_y1 (al ah : Int) (pal : -9223372036854775808 ≤ al) (qal : al ≤ 9223372036854775807) (pah : -9223372036854775808 ≤ ah) (qah : ah ≤ 9223372036854775807) (oa : al ≤ ah) (hne : ¬ ah = al) (w : World) : Calls Tryz.prog 215 #[.agg #[vI vK al, vI vK ah], .agg #[vI vK al, vI vK ah]] w fun e w' => e = .returned (.tuple #[.agg #[vI vK ((cutV al ah al ah).1), vI vK ((cutV al ah al ah).2)], .agg #[vI vK ((cutV al ah al ah).1), vI vK ((cutV al ah al ah).2)], .bool true]) ∧ Below w.heap.size w w' := by
  go_enter Tryz.func215, Tryz.ntmps215
  go_wp2_with fail
  go_region_held3 (fun w' => w'.cell? ⟨w.heap.size, 0, none⟩ = some (vI vK al) ∧ w'.cell? ⟨w.heap.size, 1, none⟩ = some (vI vK ah) ∧ w'.cell? ⟨w.heap.size + 1, 0, none⟩ = some (vI vK al) ∧ w'.cell? ⟨w.heap.size + 1, 1, none⟩ = some (vI vK ah)) (first | (simp [go_sem]; done) | (simp [go_sem, *]; done) | go_keep) (first | (go_at_call 37; refine (one_at _ _).mono ?_; rintro e w' ⟨rfl, rfl⟩))
  all_goals go_wp2_with fail
  go_region_held3 (fun w' => w'.cell? ⟨w.heap.size, 0, none⟩ = some (vI vK al) ∧ w'.cell? ⟨w.heap.size, 1, none⟩ = some (vI vK ah) ∧ w'.cell? ⟨w.heap.size + 1, 0, none⟩ = some (vI vK al) ∧ w'.cell? ⟨w.heap.size + 1, 1, none⟩ = some (vI vK ah)) (first | (simp [go_sem]; done) | (simp [go_sem, *]; done) | go_keep) (first | (go_at_call 37; refine (one_at _ _).mono ?_; rintro e w' ⟨rfl, rfl⟩) | (go_at_call 223; go_must (refine (without_is _ _ _ _ ?_ ?_ ?_ _).mono ?_; omega; omega; omega; rintro e w1 ⟨rfl, hb1⟩; have hX1 : Quad w.heap.size al ah al ah w1 := Quad.later (by first | exact hX1 | (refine ⟨?_, ?_, ?_, ?_, ?_, ?_, ?_, ?_, ?_, ?_, ?_, ?_, ?_, ?_, ?_, ?_, ?_⟩ <;> simp [go_sem])) hb1; have hbw1 : Below w.heap.size w w1 := (by ((refine Below.trans ?_ (hb1.mono ?_)) <;> repeat' first | exact bF _ _ | exact hbw1 | refine bA ?_ ?_ _ | refine bS ?_ ?_ _ | refine bD ?_ | refine below_drewN ?_ _ | (simp; done) | (simp; omega) | (simp [drew_size]; done) | (simp [drew_size]; omega) | omega)); have hY := hX1; obtain ⟨t0, a0, a1, af0, af1, b0, b1, bf0, bf1, r0, r1, rf0, rf1, s0, s1, sf0, sf1⟩ := hY)))
  all_goals go_wp2_with fail
  all_goals exact bodyPost_ret (v := .tuple #[.agg #[vI vK ((cutV al ah al ah).1), vI vK ((cutV al ah al ah).2)], .agg #[vI vK ((cutV al ah al ah).1), vI vK ((cutV al ah al ah).2)], .bool true]) (by simp [results, Tryz.results215, go_sem, r0, r1, s0, s1]) rfl ⟨rfl, by repeat' first | exact bF _ _ | exact hbw1 | refine bA ?_ ?_ _ | refine bS ?_ ?_ _ | refine bD ?_ | refine below_drewN ?_ _ | (simp; done) | (simp; omega) | (simp [drew_size]; done) | (simp [drew_size]; omega) | omega⟩
end Go.Proofs.YtednmkhdehlojaaGreatDoor
