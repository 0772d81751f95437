/-
  What bound.Does returns: as a function on integers, code by code; the world below is as it was. Conditions: the ends are numbers of 64 bits, the low end not above the high one. What bound.product returns: as a function on integers; the world below is as it was. Conditions: the ends are numbers of 64 bits.
-/
import Derived.Test.YtednmkhdehlojaaGreatDoorJs6
import Derived.Deep.RegionHeld3
import Derived.Deep.DeepMust
open Go.Value renaming int → vI
open Go.IntKind renaming i64 → vK
open Go.RowKit.Below renaming alloc → bA, setCell → bS, drew → bD, refl → bF
set_option maxHeartbeats 4000000
set_option maxRecDepth 1000000
namespace Go.Proofs.YtednmkhdehlojaaGreatDoor
open Go.ChangeShapes Go.WideShapes Go.ChangeAt Go.RowKit
attribute [local simp] drew_size

theorem doubled_at (a k : Int) (h0 : 0 ≤ k) (h1 : k < 64) (w : World) : Calls Tryz.prog 220 #[vI vK a, vI vK k] w fun e w' => e = .returned (.agg #[vI vK (wrap64 (a * 2 ^ k.toNat)), .bool (fits (a * 2 ^ k.toNat))]) ∧ w' = w.alloc (.cells #[vI vK (wrap64 (a * 2 ^ k.toNat)), .bool (fits (a * 2 ^ k.toNat))] 283) := by
  have hf : Hid ((wrap64 (a * 2 ^ k.toNat) / 2 ^ k.toNat == a) = fits (a * 2 ^ k.toNat)) := back_fits (by omega)
  go_enter Tryz.func220, Tryz.ntmps220
  go_wp2
  rw [hf.out]
  exact bodyPost_ret (v := .agg #[vI vK (wrap64 (a * 2 ^ k.toNat)), .bool (fits (a * 2 ^ k.toNat))]) (by simp [results, Tryz.results220, go_sem]) rfl ⟨rfl, rfl⟩
theorem plus_at (a b : Int) (pa : -9223372036854775808 ≤ a) (qa : a ≤ 9223372036854775807) (pb : -9223372036854775808 ≤ b) (qb : b ≤ 9223372036854775807) (w : World) : Calls Tryz.prog 200 #[vI vK a, vI vK b] w fun e w' => e = .returned (.agg #[vI vK (wrap64 (a + b)), .bool (fits (a + b))]) ∧ w' = w.alloc (.cells #[vI vK (wrap64 (a + b)), .bool (fits (a + b))] 283) := by
  have hf : Hid ((decide (a ≤ wrap64 (a + b)) == decide (0 ≤ b)) = fits (a + b)) := plus_fits pa qa pb qb
  clear pa qa pb qb
  go_enter Tryz.func200, Tryz.ntmps200
  go_wp2
  rw [hf.out]
  exact bodyPost_ret (v := .agg #[vI vK (wrap64 (a + b)), .bool (fits (a + b))]) (by simp [results, Tryz.results200, go_sem]) rfl ⟨rfl, rfl⟩
theorem minus_at (a b : Int) (pa : -9223372036854775808 ≤ a) (qa : a ≤ 9223372036854775807) (pb : -9223372036854775808 ≤ b) (qb : b ≤ 9223372036854775807) (w : World) : Calls Tryz.prog 201 #[vI vK a, vI vK b] w fun e w' => e = .returned (.agg #[vI vK (wrap64 (a - b)), .bool (fits (a - b))]) ∧ w' = w.alloc (.cells #[vI vK (wrap64 (a - b)), .bool (fits (a - b))] 283) := by
  have hf : Hid ((decide (wrap64 (a - b) ≤ a) == decide (0 ≤ b)) = fits (a - b)) := minus_fits pa qa pb qb
  clear pa qa pb qb
  go_enter Tryz.func201, Tryz.ntmps201
  go_wp2
  rw [hf.out]
  exact bodyPost_ret (v := .agg #[vI vK (wrap64 (a - b)), .bool (fits (a - b))]) (by simp [results, Tryz.results201, go_sem]) rfl ⟨rfl, rfl⟩
theorem one_at (n : Int) (w : World) : Calls Tryz.prog 37 #[vI vK n] w fun e w' => e = .returned (.agg #[vI vK n, vI vK n]) ∧ w' = w.alloc (.cells #[vI vK n, vI vK n] 43) := by
  go_enter Tryz.func37, Tryz.ntmps37
  go_wp2
  exact bodyPost_ret (v := .agg #[vI vK n, vI vK n]) (by simp [results, Tryz.results37, go_sem]) rfl ⟨rfl, rfl⟩
theorem between_fit (u v : Int) (w : World) : Calls Tryz.prog 199 #[.agg #[vI vK (wrap64 u), .bool (fits u), vI vK (wrap64 v), .bool (fits v)]] w fun e w' => e = .returned (.agg #[vI vK ((fit2 u v).1), vI vK ((fit2 u v).2)]) ∧ Below w.heap.size w w' := by
  rw [← fit2_1, ← fit2_2]
  exact between_is _ _ _ _ w
theorem quotient_na (al ah bl bh : Int) (ha : al < 0) (w : World) : Calls Tryz.prog 203 #[.agg #[vI vK al, vI vK ah], .agg #[vI vK bl, vI vK bh]] w fun e w' => e = .returned (.agg #[vI vK (-9223372036854775808), vI vK 9223372036854775807]) ∧ Below w.heap.size w w' := by
  have _ha : decide (0 ≤ al) = false := by simp; omega
  go_enter Tryz.func203, Tryz.ntmps203
  go_wp2_with (first | (go_at_call 151; refine (all_is _).mono ?_; rintro e w1 ⟨rfl, hb1⟩; obtain ⟨hcl1, hfr1⟩ := old_cells hb1; have hs1 := hb1.size; (try simp only [drew_size] at hs1); (try simp at hs1); have hbw1 : Below w.heap.size w w1 := by ((refine Below.trans ?_ (hb1.mono ?_)) <;> repeat' first | exact bF _ _ | refine bA ?_ ?_ _ | refine bS ?_ ?_ _ | refine bD ?_ | (simp; done) | (simp; omega) | (simp [drew_size]; done) | (simp [drew_size]; omega) | omega)) | (go_at_call 185; refine (does_any _ _ _ ?_ ?_ _).mono ?_; omega; omega; rintro e w' ⟨rfl, rfl⟩) | go_in)
  all_goals exact bodyPost_ret (v := .agg #[vI vK (-9223372036854775808), vI vK 9223372036854775807]) (by simp [results, Tryz.results203, go_sem, hcl1]) rfl ⟨rfl, by repeat' first | exact bF _ _ | exact hbw1 | refine bA ?_ ?_ _ | refine bS ?_ ?_ _ | refine bD ?_ | (simp; done) | (simp; omega) | (simp [drew_size]; done) | (simp [drew_size]; omega) | omega⟩
theorem quotient_nb (al ah bl bh : Int) (ha : 0 ≤ al) (hb : bl < 0) (w : World) : Calls Tryz.prog 203 #[.agg #[vI vK al, vI vK ah], .agg #[vI vK bl, vI vK bh]] w fun e w' => e = .returned (.agg #[vI vK (-9223372036854775808), vI vK 9223372036854775807]) ∧ Below w.heap.size w w' := by
  have _hb : decide (0 ≤ bl) = false := by simp; omega
  go_enter Tryz.func203, Tryz.ntmps203
  go_wp2_with (first | (go_at_call 151; refine (all_is _).mono ?_; rintro e w1 ⟨rfl, hb1⟩; obtain ⟨hcl1, hfr1⟩ := old_cells hb1; have hs1 := hb1.size; (try simp only [drew_size] at hs1); (try simp at hs1); have hbw1 : Below w.heap.size w w1 := by ((refine Below.trans ?_ (hb1.mono ?_)) <;> repeat' first | exact bF _ _ | refine bA ?_ ?_ _ | refine bS ?_ ?_ _ | refine bD ?_ | (simp; done) | (simp; omega) | (simp [drew_size]; done) | (simp [drew_size]; omega) | omega)) | (go_at_call 185; refine (does_any _ _ _ ?_ ?_ _).mono ?_; omega; omega; rintro e w' ⟨rfl, rfl⟩) | go_in)
  all_goals exact bodyPost_ret (v := .agg #[vI vK (-9223372036854775808), vI vK 9223372036854775807]) (by simp [results, Tryz.results203, go_sem, hcl1]) rfl ⟨rfl, by repeat' first | exact bF _ _ | exact hbw1 | refine bA ?_ ?_ _ | refine bS ?_ ?_ _ | refine bD ?_ | (simp; done) | (simp; omega) | (simp [drew_size]; done) | (simp [drew_size]; omega) | omega⟩
theorem quotient_z (al ah bl bh : Int) (ha : 0 ≤ al) (hb : 0 ≤ bl) (hz : bl ≤ 0) (w : World) : Calls Tryz.prog 203 #[.agg #[vI vK al, vI vK ah], .agg #[vI vK bl, vI vK bh]] w fun e w' => e = .returned (.agg #[vI vK 0, vI vK ah]) ∧ Below w.heap.size w w' := by
  have _hz : decide (0 < bl) = false := by simp; omega
  go_enter Tryz.func203, Tryz.ntmps203
  go_wp2_with (first | (go_at_call 151; refine (all_is _).mono ?_; rintro e w1 ⟨rfl, hb1⟩; obtain ⟨hcl1, hfr1⟩ := old_cells hb1; have hs1 := hb1.size; (try simp only [drew_size] at hs1); (try simp at hs1); have hbw1 : Below w.heap.size w w1 := by ((refine Below.trans ?_ (hb1.mono ?_)) <;> repeat' first | exact bF _ _ | refine bA ?_ ?_ _ | refine bS ?_ ?_ _ | refine bD ?_ | (simp; done) | (simp; omega) | (simp [drew_size]; done) | (simp [drew_size]; omega) | omega)) | (go_at_call 185; refine (does_any _ _ _ ?_ ?_ _).mono ?_; omega; omega; rintro e w' ⟨rfl, rfl⟩) | go_in)
  all_goals exact bodyPost_ret (v := .agg #[vI vK 0, vI vK ah]) (by simp [results, Tryz.results203, go_sem]) rfl ⟨rfl, by repeat' first | exact bF _ _ | refine bA ?_ ?_ _ | refine bS ?_ ?_ _ | refine bD ?_ | (simp; done) | (simp; omega) | (simp [drew_size]; done) | (simp [drew_size]; omega) | omega⟩
theorem rest_na (al ah bl bh : Int) (ha : al < 0) (w : World) : Calls Tryz.prog 204 #[.agg #[vI vK al, vI vK ah], .agg #[vI vK bl, vI vK bh]] w fun e w' => e = .returned (.agg #[vI vK (-9223372036854775808), vI vK 9223372036854775807]) ∧ Below w.heap.size w w' := by
  have _ha : decide (0 ≤ al) = false := by simp; omega
  go_enter Tryz.func204, Tryz.ntmps204
  go_wp2_with (first | (go_at_call 151; refine (all_is _).mono ?_; rintro e w1 ⟨rfl, hb1⟩; obtain ⟨hcl1, hfr1⟩ := old_cells hb1; have hs1 := hb1.size; (try simp only [drew_size] at hs1); (try simp at hs1); have hbw1 : Below w.heap.size w w1 := by ((refine Below.trans ?_ (hb1.mono ?_)) <;> repeat' first | exact bF _ _ | refine bA ?_ ?_ _ | refine bS ?_ ?_ _ | refine bD ?_ | (simp; done) | (simp; omega) | (simp [drew_size]; done) | (simp [drew_size]; omega) | omega)) | (go_at_call 185; refine (does_any _ _ _ ?_ ?_ _).mono ?_; omega; omega; rintro e w' ⟨rfl, rfl⟩) | go_in)
  all_goals exact bodyPost_ret (v := .agg #[vI vK (-9223372036854775808), vI vK 9223372036854775807]) (by simp [results, Tryz.results204, go_sem, hcl1]) rfl ⟨rfl, by repeat' first | exact bF _ _ | exact hbw1 | refine bA ?_ ?_ _ | refine bS ?_ ?_ _ | refine bD ?_ | (simp; done) | (simp; omega) | (simp [drew_size]; done) | (simp [drew_size]; omega) | omega⟩
theorem rest_nb (al ah bl bh : Int) (ha : 0 ≤ al) (hb : bl < 0) (w : World) : Calls Tryz.prog 204 #[.agg #[vI vK al, vI vK ah], .agg #[vI vK bl, vI vK bh]] w fun e w' => e = .returned (.agg #[vI vK (-9223372036854775808), vI vK 9223372036854775807]) ∧ Below w.heap.size w w' := by
  have _hb : decide (0 ≤ bl) = false := by simp; omega
  go_enter Tryz.func204, Tryz.ntmps204
  go_wp2_with (first | (go_at_call 151; refine (all_is _).mono ?_; rintro e w1 ⟨rfl, hb1⟩; obtain ⟨hcl1, hfr1⟩ := old_cells hb1; have hs1 := hb1.size; (try simp only [drew_size] at hs1); (try simp at hs1); have hbw1 : Below w.heap.size w w1 := by ((refine Below.trans ?_ (hb1.mono ?_)) <;> repeat' first | exact bF _ _ | refine bA ?_ ?_ _ | refine bS ?_ ?_ _ | refine bD ?_ | (simp; done) | (simp; omega) | (simp [drew_size]; done) | (simp [drew_size]; omega) | omega)) | (go_at_call 185; refine (does_any _ _ _ ?_ ?_ _).mono ?_; omega; omega; rintro e w' ⟨rfl, rfl⟩) | go_in)
  all_goals exact bodyPost_ret (v := .agg #[vI vK (-9223372036854775808), vI vK 9223372036854775807]) (by simp [results, Tryz.results204, go_sem, hcl1]) rfl ⟨rfl, by repeat' first | exact bF _ _ | exact hbw1 | refine bA ?_ ?_ _ | refine bS ?_ ?_ _ | refine bD ?_ | (simp; done) | (simp; omega) | (simp [drew_size]; done) | (simp [drew_size]; omega) | omega⟩
theorem rest_z (al ah bl bh : Int) (ha : 0 ≤ al) (hb : 0 ≤ bl) (hz : bl ≤ 0) (w : World) : Calls Tryz.prog 204 #[.agg #[vI vK al, vI vK ah], .agg #[vI vK bl, vI vK bh]] w fun e w' => e = .returned (.agg #[vI vK 0, vI vK ah]) ∧ Below w.heap.size w w' := by
  have _hz : decide (0 < bl) = false := by simp; omega
  go_enter Tryz.func204, Tryz.ntmps204
  go_wp2_with (first | (go_at_call 151; refine (all_is _).mono ?_; rintro e w1 ⟨rfl, hb1⟩; obtain ⟨hcl1, hfr1⟩ := old_cells hb1; have hs1 := hb1.size; (try simp only [drew_size] at hs1); (try simp at hs1); have hbw1 : Below w.heap.size w w1 := by ((refine Below.trans ?_ (hb1.mono ?_)) <;> repeat' first | exact bF _ _ | refine bA ?_ ?_ _ | refine bS ?_ ?_ _ | refine bD ?_ | (simp; done) | (simp; omega) | (simp [drew_size]; done) | (simp [drew_size]; omega) | omega)) | (go_at_call 185; refine (does_any _ _ _ ?_ ?_ _).mono ?_; omega; omega; rintro e w' ⟨rfl, rfl⟩) | go_in)
  all_goals exact bodyPost_ret (v := .agg #[vI vK 0, vI vK ah]) (by simp [results, Tryz.results204, go_sem]) rfl ⟨rfl, by repeat' first | exact bF _ _ | refine bA ?_ ?_ _ | refine bS ?_ ?_ _ | refine bD ?_ | (simp; done) | (simp; omega) | (simp [drew_size]; done) | (simp [drew_size]; omega) | omega⟩
theorem quotient_p (al ah bl bh : Int) (ha : 0 ≤ al) (hb : 0 < bl) (p1 : bh ≤ 9223372036854775807) (p2 : bl ≤ 9223372036854775807) (p3 : -9223372036854775808 ≤ bh) (w : World) : Calls Tryz.prog 203 #[.agg #[vI vK al, vI vK ah], .agg #[vI vK bl, vI vK bh]] w fun e w' => e = .returned (.agg #[vI vK (doesV 5 al bh), vI vK (doesV 5 ah bl)]) ∧ Below w.heap.size w w' := by
  have hb0 : 0 ≤ bl := by omega
  go_enter Tryz.func203, Tryz.ntmps203
  go_wp2_with (first | (go_at_call 218; go_in))
  go_region_held3 (fun w' => w'.cell? ⟨w.heap.size, 0, none⟩ = some (vI vK al) ∧ w'.cell? ⟨w.heap.size, 1, none⟩ = some (vI vK ah) ∧ w'.cell? ⟨w.heap.size + 1, 0, none⟩ = some (vI vK bl) ∧ w'.cell? ⟨w.heap.size + 1, 1, none⟩ = some (vI vK bh)) (first | (simp [go_sem]; done) | (simp [go_sem, *]; done) | go_keep) (first | (go_at_call 185; refine (does_any _ _ _ ?_ ?_ _).mono ?_; omega; omega; rintro e w' ⟨rfl, rfl⟩))
  all_goals go_wp2_with (first | (go_at_call 185; refine (does_any _ _ _ ?_ ?_ _).mono ?_; omega; omega; rintro e w' ⟨rfl, rfl⟩))
  all_goals exact bodyPost_ret (v := .agg #[vI vK (doesV 5 al bh), vI vK (doesV 5 ah bl)]) (by simp [results, Tryz.results203, go_sem]) rfl ⟨rfl, by repeat' first | exact bF _ _ | refine bA ?_ ?_ _ | refine bS ?_ ?_ _ | refine bD ?_ | (simp; done) | (simp; omega) | (simp [drew_size]; done) | (simp [drew_size]; omega) | omega⟩
theorem rest_p (al ah bl bh : Int) (ha : 0 ≤ al) (hb : 0 < bl) (p1 : bh ≤ 9223372036854775807) (p3 : bl ≤ bh) (w : World) : Calls Tryz.prog 204 #[.agg #[vI vK al, vI vK ah], .agg #[vI vK bl, vI vK bh]] w fun e w' => e = .returned (.agg #[vI vK 0, vI vK (min ah (bh - 1))]) ∧ Below w.heap.size w w' := by
  have hb0 : 0 ≤ bl := by omega
  go_enter Tryz.func204, Tryz.ntmps204
  go_wp2_with (first | (go_at_call 151; refine (all_is _).mono ?_; rintro e w1 ⟨rfl, hb1⟩; obtain ⟨hcl1, hfr1⟩ := old_cells hb1; have hs1 := hb1.size; (try simp only [drew_size] at hs1); (try simp at hs1); have hbw1 : Below w.heap.size w w1 := by ((refine Below.trans ?_ (hb1.mono ?_)) <;> repeat' first | exact bF _ _ | refine bA ?_ ?_ _ | refine bS ?_ ?_ _ | refine bD ?_ | (simp; done) | (simp; omega) | (simp [drew_size]; done) | (simp [drew_size]; omega) | omega)) | (go_at_call 185; refine (does_any _ _ _ ?_ ?_ _).mono ?_; omega; omega; rintro e w' ⟨rfl, rfl⟩) | go_in)
  all_goals exact bodyPost_ret (v := .agg #[vI vK 0, vI vK (min ah (bh - 1))]) (by simp [results, Tryz.results204, go_sem]) rfl ⟨rfl, by repeat' first | exact bF _ _ | refine bA ?_ ?_ _ | refine bS ?_ ?_ _ | refine bD ?_ | (simp; done) | (simp; omega) | (simp [drew_size]; done) | (simp [drew_size]; omega) | omega⟩
theorem common_pp (al ah bl bh : Int) (ha : 0 ≤ al) (hb : 0 ≤ bl) (w : World) : Calls Tryz.prog 205 #[.agg #[vI vK al, vI vK ah], .agg #[vI vK bl, vI vK bh]] w fun e w' => e = .returned (.agg #[vI vK 0, vI vK (min ah bh)]) ∧ Below w.heap.size w w' := by
  go_enter Tryz.func205, Tryz.ntmps205
  go_wp2_with (first | (go_at_call 151; refine (all_is _).mono ?_; rintro e w1 ⟨rfl, hb1⟩; obtain ⟨hcl1, hfr1⟩ := old_cells hb1; have hs1 := hb1.size; (try simp only [drew_size] at hs1); (try simp at hs1); have hbw1 : Below w.heap.size w w1 := by ((refine Below.trans ?_ (hb1.mono ?_)) <;> repeat' first | exact bF _ _ | refine bA ?_ ?_ _ | refine bS ?_ ?_ _ | refine bD ?_ | (simp; done) | (simp; omega) | (simp [drew_size]; done) | (simp [drew_size]; omega) | omega)) | (go_at_call 185; refine (does_any _ _ _ ?_ ?_ _).mono ?_; omega; omega; rintro e w' ⟨rfl, rfl⟩) | go_in)
  all_goals exact bodyPost_ret (v := .agg #[vI vK 0, vI vK (min ah bh)]) (by simp [results, Tryz.results205, go_sem]) rfl ⟨rfl, by repeat' first | exact bF _ _ | refine bA ?_ ?_ _ | refine bS ?_ ?_ _ | refine bD ?_ | (simp; done) | (simp; omega) | (simp [drew_size]; done) | (simp [drew_size]; omega) | omega⟩
theorem common_pn (al ah bl bh : Int) (ha : 0 ≤ al) (hb : bl < 0) (w : World) : Calls Tryz.prog 205 #[.agg #[vI vK al, vI vK ah], .agg #[vI vK bl, vI vK bh]] w fun e w' => e = .returned (.agg #[vI vK 0, vI vK ah]) ∧ Below w.heap.size w w' := by
  have _hb : decide (0 ≤ bl) = false := by simp; omega
  go_enter Tryz.func205, Tryz.ntmps205
  go_wp2_with (first | (go_at_call 151; refine (all_is _).mono ?_; rintro e w1 ⟨rfl, hb1⟩; obtain ⟨hcl1, hfr1⟩ := old_cells hb1; have hs1 := hb1.size; (try simp only [drew_size] at hs1); (try simp at hs1); have hbw1 : Below w.heap.size w w1 := by ((refine Below.trans ?_ (hb1.mono ?_)) <;> repeat' first | exact bF _ _ | refine bA ?_ ?_ _ | refine bS ?_ ?_ _ | refine bD ?_ | (simp; done) | (simp; omega) | (simp [drew_size]; done) | (simp [drew_size]; omega) | omega)) | (go_at_call 185; refine (does_any _ _ _ ?_ ?_ _).mono ?_; omega; omega; rintro e w' ⟨rfl, rfl⟩) | go_in)
  all_goals exact bodyPost_ret (v := .agg #[vI vK 0, vI vK ah]) (by simp [results, Tryz.results205, go_sem]) rfl ⟨rfl, by repeat' first | exact bF _ _ | refine bA ?_ ?_ _ | refine bS ?_ ?_ _ | refine bD ?_ | (simp; done) | (simp; omega) | (simp [drew_size]; done) | (simp [drew_size]; omega) | omega⟩
theorem common_np (al ah bl bh : Int) (ha : al < 0) (hb : 0 ≤ bl) (w : World) : Calls Tryz.prog 205 #[.agg #[vI vK al, vI vK ah], .agg #[vI vK bl, vI vK bh]] w fun e w' => e = .returned (.agg #[vI vK 0, vI vK bh]) ∧ Below w.heap.size w w' := by
  have _ha : decide (0 ≤ al) = false := by simp; omega
  go_enter Tryz.func205, Tryz.ntmps205
  go_wp2_with (first | (go_at_call 151; refine (all_is _).mono ?_; rintro e w1 ⟨rfl, hb1⟩; obtain ⟨hcl1, hfr1⟩ := old_cells hb1; have hs1 := hb1.size; (try simp only [drew_size] at hs1); (try simp at hs1); have hbw1 : Below w.heap.size w w1 := by ((refine Below.trans ?_ (hb1.mono ?_)) <;> repeat' first | exact bF _ _ | refine bA ?_ ?_ _ | refine bS ?_ ?_ _ | refine bD ?_ | (simp; done) | (simp; omega) | (simp [drew_size]; done) | (simp [drew_size]; omega) | omega)) | (go_at_call 185; refine (does_any _ _ _ ?_ ?_ _).mono ?_; omega; omega; rintro e w' ⟨rfl, rfl⟩) | go_in)
  all_goals exact bodyPost_ret (v := .agg #[vI vK 0, vI vK bh]) (by simp [results, Tryz.results205, go_sem]) rfl ⟨rfl, by repeat' first | exact bF _ _ | refine bA ?_ ?_ _ | refine bS ?_ ?_ _ | refine bD ?_ | (simp; done) | (simp; omega) | (simp [drew_size]; done) | (simp [drew_size]; omega) | omega⟩
theorem common_nn (al ah bl bh : Int) (ha : al < 0) (hb : bl < 0) (w : World) : Calls Tryz.prog 205 #[.agg #[vI vK al, vI vK ah], .agg #[vI vK bl, vI vK bh]] w fun e w' => e = .returned (.agg #[vI vK (-9223372036854775808), vI vK 9223372036854775807]) ∧ Below w.heap.size w w' := by
  have _ha : decide (0 ≤ al) = false := by simp; omega
  have _hb : decide (0 ≤ bl) = false := by simp; omega
  go_enter Tryz.func205, Tryz.ntmps205
  go_wp2_with (first | (go_at_call 151; refine (all_is _).mono ?_; rintro e w1 ⟨rfl, hb1⟩; obtain ⟨hcl1, hfr1⟩ := old_cells hb1; have hs1 := hb1.size; (try simp only [drew_size] at hs1); (try simp at hs1); have hbw1 : Below w.heap.size w w1 := by ((refine Below.trans ?_ (hb1.mono ?_)) <;> repeat' first | exact bF _ _ | refine bA ?_ ?_ _ | refine bS ?_ ?_ _ | refine bD ?_ | (simp; done) | (simp; omega) | (simp [drew_size]; done) | (simp [drew_size]; omega) | omega)) | (go_at_call 185; refine (does_any _ _ _ ?_ ?_ _).mono ?_; omega; omega; rintro e w' ⟨rfl, rfl⟩) | go_in)
  all_goals exact bodyPost_ret (v := .agg #[vI vK (-9223372036854775808), vI vK 9223372036854775807]) (by simp [results, Tryz.results205, go_sem, hcl1]) rfl ⟨rfl, by repeat' first | exact bF _ _ | exact hbw1 | refine bA ?_ ?_ _ | refine bS ?_ ?_ _ | refine bD ?_ | (simp; done) | (simp; omega) | (simp [drew_size]; done) | (simp [drew_size]; omega) | omega⟩
theorem filled_pp (lo al ah bl bh : Int) (ha : 0 ≤ al) (hb : 0 ≤ bl) (p1 : -9223372036854775808 ≤ max ah bh) (p2 : max ah bh ≤ 9223372036854775807) (w : World) : Calls Tryz.prog 206 #[vI vK lo, .agg #[vI vK al, vI vK ah], .agg #[vI vK bl, vI vK bh]] w fun e w' => e = .returned (.agg #[vI vK lo, vI vK (fillV (max ah bh))]) ∧ Below w.heap.size w w' := by
  go_enter Tryz.func206, Tryz.ntmps206
  go_wp2_with (first | (go_at_call 151; refine (all_is _).mono ?_; rintro e w1 ⟨rfl, hb1⟩; obtain ⟨hcl1, hfr1⟩ := old_cells hb1; have hs1 := hb1.size; (try simp only [drew_size] at hs1); (try simp at hs1); have hbw1 : Below w.heap.size w w1 := by ((refine Below.trans ?_ (hb1.mono ?_)) <;> repeat' first | exact bF _ _ | refine bA ?_ ?_ _ | refine bS ?_ ?_ _ | refine bD ?_ | (simp; done) | (simp; omega) | (simp [drew_size]; done) | (simp [drew_size]; omega) | omega)) | (go_at_call 219; refine (fill_any _ ?_ ?_ _).mono ?_; omega; omega; rintro e w' ⟨rfl, rfl⟩) | go_in)
  all_goals exact bodyPost_ret (v := .agg #[vI vK lo, vI vK (fillV (max ah bh))]) (by simp [results, Tryz.results206, go_sem]) rfl ⟨rfl, by repeat' first | exact bF _ _ | refine bA ?_ ?_ _ | refine bS ?_ ?_ _ | refine bD ?_ | (simp; done) | (simp; omega) | (simp [drew_size]; done) | (simp [drew_size]; omega) | omega⟩
theorem filled_na (lo al ah bl bh : Int) (ha : al < 0) (w : World) : Calls Tryz.prog 206 #[vI vK lo, .agg #[vI vK al, vI vK ah], .agg #[vI vK bl, vI vK bh]] w fun e w' => e = .returned (.agg #[vI vK (-9223372036854775808), vI vK 9223372036854775807]) ∧ Below w.heap.size w w' := by
  have _ha : decide (0 ≤ al) = false := by simp; omega
  go_enter Tryz.func206, Tryz.ntmps206
  go_wp2_with (first | (go_at_call 151; refine (all_is _).mono ?_; rintro e w1 ⟨rfl, hb1⟩; obtain ⟨hcl1, hfr1⟩ := old_cells hb1; have hs1 := hb1.size; (try simp only [drew_size] at hs1); (try simp at hs1); have hbw1 : Below w.heap.size w w1 := by ((refine Below.trans ?_ (hb1.mono ?_)) <;> repeat' first | exact bF _ _ | refine bA ?_ ?_ _ | refine bS ?_ ?_ _ | refine bD ?_ | (simp; done) | (simp; omega) | (simp [drew_size]; done) | (simp [drew_size]; omega) | omega)) | (go_at_call 219; refine (fill_any _ ?_ ?_ _).mono ?_; omega; omega; rintro e w' ⟨rfl, rfl⟩) | go_in)
  all_goals exact bodyPost_ret (v := .agg #[vI vK (-9223372036854775808), vI vK 9223372036854775807]) (by simp [results, Tryz.results206, go_sem, hcl1]) rfl ⟨rfl, by repeat' first | exact bF _ _ | exact hbw1 | refine bA ?_ ?_ _ | refine bS ?_ ?_ _ | refine bD ?_ | (simp; done) | (simp; omega) | (simp [drew_size]; done) | (simp [drew_size]; omega) | omega⟩
theorem filled_nb (lo al ah bl bh : Int) (ha : 0 ≤ al) (hb : bl < 0) (w : World) : Calls Tryz.prog 206 #[vI vK lo, .agg #[vI vK al, vI vK ah], .agg #[vI vK bl, vI vK bh]] w fun e w' => e = .returned (.agg #[vI vK (-9223372036854775808), vI vK 9223372036854775807]) ∧ Below w.heap.size w w' := by
  have _hb : decide (0 ≤ bl) = false := by simp; omega
  go_enter Tryz.func206, Tryz.ntmps206
  go_wp2_with (first | (go_at_call 151; refine (all_is _).mono ?_; rintro e w1 ⟨rfl, hb1⟩; obtain ⟨hcl1, hfr1⟩ := old_cells hb1; have hs1 := hb1.size; (try simp only [drew_size] at hs1); (try simp at hs1); have hbw1 : Below w.heap.size w w1 := by ((refine Below.trans ?_ (hb1.mono ?_)) <;> repeat' first | exact bF _ _ | refine bA ?_ ?_ _ | refine bS ?_ ?_ _ | refine bD ?_ | (simp; done) | (simp; omega) | (simp [drew_size]; done) | (simp [drew_size]; omega) | omega)) | (go_at_call 219; refine (fill_any _ ?_ ?_ _).mono ?_; omega; omega; rintro e w' ⟨rfl, rfl⟩) | go_in)
  all_goals exact bodyPost_ret (v := .agg #[vI vK (-9223372036854775808), vI vK 9223372036854775807]) (by simp [results, Tryz.results206, go_sem, hcl1]) rfl ⟨rfl, by repeat' first | exact bF _ _ | exact hbw1 | refine bA ?_ ?_ _ | refine bS ?_ ?_ _ | refine bD ?_ | (simp; done) | (simp; omega) | (simp [drew_size]; done) | (simp [drew_size]; omega) | omega⟩
theorem any_10 (al ah : Int) (w : World) : Calls Tryz.prog 208 #[vI vK 10, .agg #[vI vK al, vI vK ah]] w fun e w' => e = .returned (.agg #[vI vK (-9223372036854775808), vI vK 9223372036854775807]) ∧ Below w.heap.size w w' := by
  go_enter Tryz.func208, Tryz.ntmps208
  go_wp2_with (first | (go_at_call 151; refine (all_is _).mono ?_; rintro e w1 ⟨rfl, hb1⟩; obtain ⟨hcl1, hfr1⟩ := old_cells hb1; have hs1 := hb1.size; (try simp only [drew_size] at hs1); (try simp at hs1); have hbw1 : Below w.heap.size w w1 := by ((refine Below.trans ?_ (hb1.mono ?_)) <;> repeat' first | exact bF _ _ | refine bA ?_ ?_ _ | refine bS ?_ ?_ _ | refine bD ?_ | (simp; done) | (simp; omega) | (simp [drew_size]; done) | (simp [drew_size]; omega) | omega)) | (go_at_call 185; refine (does_any _ _ _ ?_ ?_ _).mono ?_; omega; omega; rintro e w' ⟨rfl, rfl⟩) | go_in)
  all_goals exact bodyPost_ret (v := .agg #[vI vK (-9223372036854775808), vI vK 9223372036854775807]) (by simp [results, Tryz.results208, go_sem, hcl1]) rfl ⟨rfl, by repeat' first | exact bF _ _ | exact hbw1 | refine bA ?_ ?_ _ | refine bS ?_ ?_ _ | refine bD ?_ | (simp; done) | (simp; omega) | (simp [drew_size]; done) | (simp [drew_size]; omega) | omega⟩
theorem any_p (c al ah : Int) (hc : c = 11 ∨ c = 12) (ha : 0 ≤ al) (w : World) : Calls Tryz.prog 208 #[vI vK c, .agg #[vI vK al, vI vK ah]] w fun e w' => e = .returned (.agg #[vI vK 0, vI vK ah]) ∧ Below w.heap.size w w' := by
  have _hc : (c == 10) = false := by simp; omega
  go_enter Tryz.func208, Tryz.ntmps208
  go_wp2_with (first | (go_at_call 151; refine (all_is _).mono ?_; rintro e w1 ⟨rfl, hb1⟩; obtain ⟨hcl1, hfr1⟩ := old_cells hb1; have hs1 := hb1.size; (try simp only [drew_size] at hs1); (try simp at hs1); have hbw1 : Below w.heap.size w w1 := by ((refine Below.trans ?_ (hb1.mono ?_)) <;> repeat' first | exact bF _ _ | refine bA ?_ ?_ _ | refine bS ?_ ?_ _ | refine bD ?_ | (simp; done) | (simp; omega) | (simp [drew_size]; done) | (simp [drew_size]; omega) | omega)) | (go_at_call 185; refine (does_any _ _ _ ?_ ?_ _).mono ?_; omega; omega; rintro e w' ⟨rfl, rfl⟩) | go_in)
  all_goals exact bodyPost_ret (v := .agg #[vI vK 0, vI vK ah]) (by simp [results, Tryz.results208, go_sem]) rfl ⟨rfl, by repeat' first | exact bF _ _ | refine bA ?_ ?_ _ | refine bS ?_ ?_ _ | refine bD ?_ | (simp; done) | (simp; omega) | (simp [drew_size]; done) | (simp [drew_size]; omega) | omega⟩
theorem any_11 (al ah : Int) (ha : al < 0) (w : World) : Calls Tryz.prog 208 #[vI vK 11, .agg #[vI vK al, vI vK ah]] w fun e w' => e = .returned (.agg #[vI vK (-9223372036854775808), vI vK 9223372036854775807]) ∧ Below w.heap.size w w' := by
  have _ha : decide (0 ≤ al) = false := by simp; omega
  go_enter Tryz.func208, Tryz.ntmps208
  go_wp2_with (first | (go_at_call 151; refine (all_is _).mono ?_; rintro e w1 ⟨rfl, hb1⟩; obtain ⟨hcl1, hfr1⟩ := old_cells hb1; have hs1 := hb1.size; (try simp only [drew_size] at hs1); (try simp at hs1); have hbw1 : Below w.heap.size w w1 := by ((refine Below.trans ?_ (hb1.mono ?_)) <;> repeat' first | exact bF _ _ | refine bA ?_ ?_ _ | refine bS ?_ ?_ _ | refine bD ?_ | (simp; done) | (simp; omega) | (simp [drew_size]; done) | (simp [drew_size]; omega) | omega)) | (go_at_call 185; refine (does_any _ _ _ ?_ ?_ _).mono ?_; omega; omega; rintro e w' ⟨rfl, rfl⟩) | go_in)
  all_goals exact bodyPost_ret (v := .agg #[vI vK (-9223372036854775808), vI vK 9223372036854775807]) (by simp [results, Tryz.results208, go_sem, hcl1]) rfl ⟨rfl, by repeat' first | exact bF _ _ | exact hbw1 | refine bA ?_ ?_ _ | refine bS ?_ ?_ _ | refine bD ?_ | (simp; done) | (simp; omega) | (simp [drew_size]; done) | (simp [drew_size]; omega) | omega⟩
theorem any_12n (al ah : Int) (ha : al < 0) (hh : ah < 0) (w : World) : Calls Tryz.prog 208 #[vI vK 12, .agg #[vI vK al, vI vK ah]] w fun e w' => e = .returned (.agg #[vI vK al, vI vK (-1)]) ∧ Below w.heap.size w w' := by
  have _ha : decide (0 ≤ al) = false := by simp; omega
  go_enter Tryz.func208, Tryz.ntmps208
  go_wp2_with (first | (go_at_call 151; refine (all_is _).mono ?_; rintro e w1 ⟨rfl, hb1⟩; obtain ⟨hcl1, hfr1⟩ := old_cells hb1; have hs1 := hb1.size; (try simp only [drew_size] at hs1); (try simp at hs1); have hbw1 : Below w.heap.size w w1 := by ((refine Below.trans ?_ (hb1.mono ?_)) <;> repeat' first | exact bF _ _ | refine bA ?_ ?_ _ | refine bS ?_ ?_ _ | refine bD ?_ | (simp; done) | (simp; omega) | (simp [drew_size]; done) | (simp [drew_size]; omega) | omega)) | (go_at_call 185; refine (does_any _ _ _ ?_ ?_ _).mono ?_; omega; omega; rintro e w' ⟨rfl, rfl⟩) | go_in)
  all_goals exact bodyPost_ret (v := .agg #[vI vK al, vI vK (-1)]) (by simp [results, Tryz.results208, go_sem]) rfl ⟨rfl, by repeat' first | exact bF _ _ | refine bA ?_ ?_ _ | refine bS ?_ ?_ _ | refine bD ?_ | (simp; done) | (simp; omega) | (simp [drew_size]; done) | (simp [drew_size]; omega) | omega⟩
theorem any_12 (al ah : Int) (ha : al < 0) (hh : 0 ≤ ah) (w : World) : Calls Tryz.prog 208 #[vI vK 12, .agg #[vI vK al, vI vK ah]] w fun e w' => e = .returned (.agg #[vI vK al, vI vK ah]) ∧ Below w.heap.size w w' := by
  have _ha : decide (0 ≤ al) = false := by simp; omega
  have _hh : decide (ah < 0) = false := by simp; omega
  go_enter Tryz.func208, Tryz.ntmps208
  go_wp2_with (first | (go_at_call 151; refine (all_is _).mono ?_; rintro e w1 ⟨rfl, hb1⟩; obtain ⟨hcl1, hfr1⟩ := old_cells hb1; have hs1 := hb1.size; (try simp only [drew_size] at hs1); (try simp at hs1); have hbw1 : Below w.heap.size w w1 := by ((refine Below.trans ?_ (hb1.mono ?_)) <;> repeat' first | exact bF _ _ | refine bA ?_ ?_ _ | refine bS ?_ ?_ _ | refine bD ?_ | (simp; done) | (simp; omega) | (simp [drew_size]; done) | (simp [drew_size]; omega) | omega)) | (go_at_call 185; refine (does_any _ _ _ ?_ ?_ _).mono ?_; omega; omega; rintro e w' ⟨rfl, rfl⟩) | go_in)
  all_goals exact bodyPost_ret (v := .agg #[vI vK al, vI vK ah]) (by simp [results, Tryz.results208, go_sem]) rfl ⟨rfl, by repeat' first | exact bF _ _ | refine bA ?_ ?_ _ | refine bS ?_ ?_ _ | refine bD ?_ | (simp; done) | (simp; omega) | (simp [drew_size]; done) | (simp [drew_size]; omega) | omega⟩
theorem shifted_10 (al ah : Int) (k : Int) (h0 : 0 ≤ k) (h1 : k < 64) (w : World) : Calls Tryz.prog 207 #[vI vK 10, .agg #[vI vK al, vI vK ah], vI vK k] w fun e w' => e = .returned (.agg #[vI vK ((fit2 (al * 2 ^ k.toNat) (ah * 2 ^ k.toNat)).1), vI vK ((fit2 (al * 2 ^ k.toNat) (ah * 2 ^ k.toNat)).2)]) ∧ Below w.heap.size w w' := by
  go_enter Tryz.func207, Tryz.ntmps207
  go_wp2_with fail
  go_region_held3 (fun w' => w'.cell? ⟨w.heap.size, 0, none⟩ = some (vI vK al) ∧ w'.cell? ⟨w.heap.size, 1, none⟩ = some (vI vK ah)) (first | (simp [go_sem]; done) | (simp [go_sem, *]; done) | go_keep) (first | (go_at_call 220; refine (doubled_at _ _ ?_ ?_ _).mono ?_; omega; omega; rintro e w' ⟨rfl, rfl⟩) | (go_at_call 200; refine (plus_at _ _ ?_ ?_ ?_ ?_ _).mono ?_; omega; omega; omega; omega; rintro e w' ⟨rfl, rfl⟩) | (go_at_call 201; refine (minus_at _ _ ?_ ?_ ?_ ?_ _).mono ?_; omega; omega; omega; omega; rintro e w' ⟨rfl, rfl⟩) | (go_at_call 199; refine (between_fit _ _ _).mono ?_; rintro e w1 ⟨rfl, hb1⟩; obtain ⟨hcl1, hfr1⟩ := old_cells hb1; have hs1 := hb1.size; (try simp only [drew_size] at hs1); (try simp at hs1); have hbw1 : Below w.heap.size w w1 := by ((refine Below.trans ?_ (hb1.mono ?_)) <;> repeat' first | exact bF _ _ | refine bA ?_ ?_ _ | refine bS ?_ ?_ _ | refine bD ?_ | (simp; done) | (simp; omega) | (simp [drew_size]; done) | (simp [drew_size]; omega) | omega)))
  all_goals go_wp2_with (first | (go_at_call 220; refine (doubled_at _ _ ?_ ?_ _).mono ?_; omega; omega; rintro e w' ⟨rfl, rfl⟩) | (go_at_call 200; refine (plus_at _ _ ?_ ?_ ?_ ?_ _).mono ?_; omega; omega; omega; omega; rintro e w' ⟨rfl, rfl⟩) | (go_at_call 201; refine (minus_at _ _ ?_ ?_ ?_ ?_ _).mono ?_; omega; omega; omega; omega; rintro e w' ⟨rfl, rfl⟩) | (go_at_call 199; refine (between_fit _ _ _).mono ?_; rintro e w1 ⟨rfl, hb1⟩; obtain ⟨hcl1, hfr1⟩ := old_cells hb1; have hs1 := hb1.size; (try simp only [drew_size] at hs1); (try simp at hs1); have hbw1 : Below w.heap.size w w1 := by ((refine Below.trans ?_ (hb1.mono ?_)) <;> repeat' first | exact bF _ _ | refine bA ?_ ?_ _ | refine bS ?_ ?_ _ | refine bD ?_ | (simp; done) | (simp; omega) | (simp [drew_size]; done) | (simp [drew_size]; omega) | omega)))
  all_goals exact bodyPost_ret (v := .agg #[vI vK ((fit2 (al * 2 ^ k.toNat) (ah * 2 ^ k.toNat)).1), vI vK ((fit2 (al * 2 ^ k.toNat) (ah * 2 ^ k.toNat)).2)]) (by simp [results, Tryz.results207, go_sem, hcl1]) rfl ⟨rfl, by repeat' first | exact bF _ _ | exact hbw1 | refine bA ?_ ?_ _ | refine bS ?_ ?_ _ | refine bD ?_ | (simp; done) | (simp; omega) | (simp [drew_size]; done) | (simp [drew_size]; omega) | omega⟩
theorem shifted_11n (al ah : Int) (k : Int) (h0 : 0 ≤ k) (h1 : k < 64) (hk : 0 < k) (ha : al < 0) (w : World) : Calls Tryz.prog 207 #[vI vK 11, .agg #[vI vK al, vI vK ah], vI vK k] w fun e w' => e = .returned (.agg #[vI vK 0, vI vK (doesV 11 (-1) k)]) ∧ Below w.heap.size w w' := by
  go_enter Tryz.func207, Tryz.ntmps207
  go_wp2_with (first | (go_at_call 185; refine (does_any _ _ _ ?_ ?_ _).mono ?_; omega; omega; rintro e w' ⟨rfl, rfl⟩))
  all_goals exact bodyPost_ret (v := .agg #[vI vK 0, vI vK (doesV 11 (-1) k)]) (by simp [results, Tryz.results207, go_sem]) rfl ⟨rfl, by repeat' first | exact bF _ _ | refine bA ?_ ?_ _ | refine bS ?_ ?_ _ | refine bD ?_ | (simp; done) | (simp; omega) | (simp [drew_size]; done) | (simp [drew_size]; omega) | omega⟩
theorem shifted_11z (al ah : Int) (k : Int) (h0 : 0 ≤ k) (h1 : k < 64) (hk : k = 0) (w : World) : Calls Tryz.prog 207 #[vI vK 11, .agg #[vI vK al, vI vK ah], vI vK k] w fun e w' => e = .returned (.agg #[vI vK (doesV 11 al k), vI vK (doesV 11 ah k)]) ∧ Below w.heap.size w w' := by
  have _hk : decide (0 < k) = false := by simp; omega
  clear hk
  go_enter Tryz.func207, Tryz.ntmps207
  go_wp2_with fail
  go_region_held3 (fun w' => w'.cell? ⟨w.heap.size, 0, none⟩ = some (vI vK al) ∧ w'.cell? ⟨w.heap.size, 1, none⟩ = some (vI vK ah)) (first | (simp [go_sem]; done) | (simp [go_sem, *]; done) | go_keep) (first | (go_at_call 185; refine (does_any _ _ _ ?_ ?_ _).mono ?_; omega; omega; rintro e w' ⟨rfl, rfl⟩))
  all_goals go_wp2_with (first | (go_at_call 185; refine (does_any _ _ _ ?_ ?_ _).mono ?_; omega; omega; rintro e w' ⟨rfl, rfl⟩))
  all_goals exact bodyPost_ret (v := .agg #[vI vK (doesV 11 al k), vI vK (doesV 11 ah k)]) (by simp [results, Tryz.results207, go_sem]) rfl ⟨rfl, by repeat' first | exact bF _ _ | refine bA ?_ ?_ _ | refine bS ?_ ?_ _ | refine bD ?_ | (simp; done) | (simp; omega) | (simp [drew_size]; done) | (simp [drew_size]; omega) | omega⟩
theorem shifted_11p (al ah : Int) (k : Int) (h0 : 0 ≤ k) (h1 : k < 64) (hk : 0 < k) (ha : 0 ≤ al) (w : World) : Calls Tryz.prog 207 #[vI vK 11, .agg #[vI vK al, vI vK ah], vI vK k] w fun e w' => e = .returned (.agg #[vI vK (doesV 11 al k), vI vK (doesV 11 ah k)]) ∧ Below w.heap.size w w' := by
  have _ha : decide (al < 0) = false := by simp; omega
  go_enter Tryz.func207, Tryz.ntmps207
  go_wp2_with fail
  go_region_held3 (fun w' => w'.cell? ⟨w.heap.size, 0, none⟩ = some (vI vK al) ∧ w'.cell? ⟨w.heap.size, 1, none⟩ = some (vI vK ah)) (first | (simp [go_sem]; done) | (simp [go_sem, *]; done) | go_keep) (first | (go_at_call 185; refine (does_any _ _ _ ?_ ?_ _).mono ?_; omega; omega; rintro e w' ⟨rfl, rfl⟩))
  all_goals go_wp2_with (first | (go_at_call 185; refine (does_any _ _ _ ?_ ?_ _).mono ?_; omega; omega; rintro e w' ⟨rfl, rfl⟩))
  all_goals exact bodyPost_ret (v := .agg #[vI vK (doesV 11 al k), vI vK (doesV 11 ah k)]) (by simp [results, Tryz.results207, go_sem]) rfl ⟨rfl, by repeat' first | exact bF _ _ | refine bA ?_ ?_ _ | refine bS ?_ ?_ _ | refine bD ?_ | (simp; done) | (simp; omega) | (simp [drew_size]; done) | (simp [drew_size]; omega) | omega⟩
theorem shifted_12 (al ah : Int) (k : Int) (h0 : 0 ≤ k) (h1 : k < 64) (w : World) : Calls Tryz.prog 207 #[vI vK 12, .agg #[vI vK al, vI vK ah], vI vK k] w fun e w' => e = .returned (.agg #[vI vK (doesV 12 al k), vI vK (doesV 12 ah k)]) ∧ Below w.heap.size w w' := by
  go_enter Tryz.func207, Tryz.ntmps207
  go_wp2_with fail
  go_region_held3 (fun w' => w'.cell? ⟨w.heap.size, 0, none⟩ = some (vI vK al) ∧ w'.cell? ⟨w.heap.size, 1, none⟩ = some (vI vK ah)) (first | (simp [go_sem]; done) | (simp [go_sem, *]; done) | go_keep) (first | (go_at_call 185; refine (does_any _ _ _ ?_ ?_ _).mono ?_; omega; omega; rintro e w' ⟨rfl, rfl⟩))
  all_goals go_wp2_with (first | (go_at_call 185; refine (does_any _ _ _ ?_ ?_ _).mono ?_; omega; omega; rintro e w' ⟨rfl, rfl⟩))
  all_goals exact bodyPost_ret (v := .agg #[vI vK (doesV 12 al k), vI vK (doesV 12 ah k)]) (by simp [results, Tryz.results207, go_sem]) rfl ⟨rfl, by repeat' first | exact bF _ _ | refine bA ?_ ?_ _ | refine bS ?_ ?_ _ | refine bD ?_ | (simp; done) | (simp; omega) | (simp [drew_size]; done) | (simp [drew_size]; omega) | omega⟩

theorem idx4_0 (x0 x1 x2 x3 : Int) (w : World) : (Instr.index 53 (.agg #[vI vK x0, vI vK x1, vI vK x2, vI vK x3]) (vI vK 0)).run Tryz.prog w = .ok (vI vK x0) w := by kernel_rfl
theorem idx4_1 (x0 x1 x2 x3 : Int) (w : World) : (Instr.index 53 (.agg #[vI vK x0, vI vK x1, vI vK x2, vI vK x3]) (vI vK 1)).run Tryz.prog w = .ok (vI vK x1) w := by kernel_rfl
theorem idx4_2 (x0 x1 x2 x3 : Int) (w : World) : (Instr.index 53 (.agg #[vI vK x0, vI vK x1, vI vK x2, vI vK x3]) (vI vK 2)).run Tryz.prog w = .ok (vI vK x2) w := by kernel_rfl
theorem idx4_3 (x0 x1 x2 x3 : Int) (w : World) : (Instr.index 53 (.agg #[vI vK x0, vI vK x1, vI vK x2, vI vK x3]) (vI vK 3)).run Tryz.prog w = .ok (vI vK x3) w := by kernel_rfl
theorem idx3_0 (x0 x1 x2 : Int) (w : World) : (Instr.index 299 (.agg #[vI vK x0, vI vK x1, vI vK x2]) (vI vK 0)).run Tryz.prog w = .ok (vI vK x0) w := by kernel_rfl
theorem idx3_1 (x0 x1 x2 : Int) (w : World) : (Instr.index 299 (.agg #[vI vK x0, vI vK x1, vI vK x2]) (vI vK 1)).run Tryz.prog w = .ok (vI vK x1) w := by kernel_rfl
theorem idx3_2 (x0 x1 x2 : Int) (w : World) : (Instr.index 299 (.agg #[vI vK x0, vI vK x1, vI vK x2]) (vI vK 2)).run Tryz.prog w = .ok (vI vK x2) w := by kernel_rfl
def Firsts (p q r s : Int) (k : Nat) (lo hi : Int) : Prop :=
  (k = 0 ∧ lo = p ∧ hi = p) ∨ (k = 1 ∧ lo = min p q ∧ hi = max p q) ∨ (k = 2 ∧ lo = min (min p q) r ∧ hi = max (max p q) r) ∨ (k = 3 ∧ lo = min (min (min p q) r) s ∧ hi = max (max (max p q) r) s)
def Boxes (m r : Nat) (lo hi : Int) (w : World) : Prop :=
  (m < w.heap.size ∧ w.cell? ⟨m, 0, none⟩ = some (vI vK lo) ∧ w.cell? ⟨m, 1, none⟩ = some (vI vK hi) ∧ w.frozen? ⟨m, 0, none⟩ = false ∧ w.frozen? ⟨m, 1, none⟩ = false)
  ∧ (r < w.heap.size ∧ w.cell? ⟨r, 0, none⟩ = some (vI vK 0) ∧ w.cell? ⟨r, 1, none⟩ = some (vI vK 0) ∧ w.frozen? ⟨r, 0, none⟩ = false ∧ w.frozen? ⟨r, 1, none⟩ = false)
theorem Boxes.later {m r : Nat} {lo hi : Int} {W w1 : World} (h : Boxes m r lo hi W) (hb : Below W.heap.size W w1) : Boxes m r lo hi w1 := by
  obtain ⟨⟨h0, a0, a1, a2, a3⟩, h1, b0, b1, b2, b3⟩ := h
  have hs := hb.size
  exact ⟨⟨by omega, (hb.cell (p := ⟨m, 0, none⟩) h0).trans a0, (hb.cell (p := ⟨m, 1, none⟩) h0).trans a1, (hb.frozen (p := ⟨m, 0, none⟩) h0).trans a2, (hb.frozen (p := ⟨m, 1, none⟩) h0).trans a3⟩,
    by omega, (hb.cell (p := ⟨r, 0, none⟩) h1).trans b0, (hb.cell (p := ⟨r, 1, none⟩) h1).trans b1, (hb.frozen (p := ⟨r, 0, none⟩) h1).trans b2, (hb.frozen (p := ⟨r, 1, none⟩) h1).trans b3⟩
theorem Boxes.drew {m r : Nat} {lo hi : Int} {W : World} (h : Boxes m r lo hi W) : Boxes m r lo hi W.drew := h
theorem Boxes.put {m r : Nat} {lo hi x y : Int} {W : World} (h : Boxes m r lo hi W) (hmr : m ≠ r) : Boxes m r x y ((W.setCell ⟨m, 0, none⟩ (vI vK x)).setCell ⟨m, 1, none⟩ (vI vK y)) := by
  obtain ⟨⟨h0, a0, a1, a2, a3⟩, h1, b0, b1, b2, b3⟩ := h
  refine ⟨⟨by simp [World.setCell]; exact h0, ?_, ?_, ?_, ?_⟩, by simp [World.setCell]; exact h1, ?_, ?_, ?_, ?_⟩ <;> simp [go_sem, *]

theorem product_raw (al ah bl bh : Int) (ha : -2147483648 ≤ al) (ha2 : al ≤ 2147483648) (hb : -2147483648 ≤ ah) (hb2 : ah ≤ 2147483648) (hc : -2147483648 ≤ bl) (hc2 : bl ≤ 2147483648) (hd : -2147483648 ≤ bh) (hd2 : bh ≤ 2147483648) (w : World) : Calls Tryz.prog 202 #[.agg #[vI vK al, vI vK ah], .agg #[vI vK bl, vI vK bh]] w fun e w' => e = .returned (.agg #[vI vK (min (min (min (wrap64 (al * bl)) (wrap64 (al * bh))) (wrap64 (ah * bl))) (wrap64 (ah * bh))), vI vK (max (max (max (wrap64 (al * bl)) (wrap64 (al * bh))) (wrap64 (ah * bl))) (wrap64 (ah * bh)))]) ∧ Below w.heap.size w w' := by
  have i40 := idx4_0 al ah bl bh
  have i41 := idx4_1 al ah bl bh
  have i42 := idx4_2 al ah bl bh
  have i43 := idx4_3 al ah bl bh
  have i30 := idx3_0 (wrap64 (al * bh)) (wrap64 (ah * bl)) (wrap64 (ah * bh))
  have i31 := idx3_1 (wrap64 (al * bh)) (wrap64 (ah * bl)) (wrap64 (ah * bh))
  have i32 := idx3_2 (wrap64 (al * bh)) (wrap64 (ah * bl)) (wrap64 (ah * bh))
  go_enter Tryz.func202, Tryz.ntmps202
  go_wp2_with (first | (go_at_call 37; refine (one_at _ _).mono ?_; rintro e w' ⟨rfl, rfl⟩) | go_in)
  refine wp_loop_rounds 5 ?_
  repeat any_goals (rw [rounds_succ]; go_wp2_with (first | (go_at_call 37; refine (one_at _ _).mono ?_; rintro e w' ⟨rfl, rfl⟩) | go_in))
  go_loopw [52] (fun ix wr => ∃ (k : Nat) (lo hi : Int), Firsts (wrap64 (al * bl)) (wrap64 (al * bh)) (wrap64 (ah * bl)) (wrap64 (ah * bh)) k lo hi ∧ ix = vI vK k ∧ Below w.heap.size w wr ∧ Boxes (w.heap.size + 1 + 1 + 1 + 1 + 1 + 1 + 1 + 1 + 1) (w.heap.size + 1 + 1) lo hi wr) (fun ix _ => 3 - (intOf ix).toNat)
  case atStart => exact ⟨0, _, _, Or.inl ⟨rfl, rfl, rfl⟩, rfl, by repeat' first | exact bF _ _ | refine bA ?_ ?_ _ | refine bS ?_ ?_ _ | refine bD ?_ | (simp; done) | (simp; omega) | (simp [drew_size]; done) | (simp [drew_size]; omega) | omega, ⟨by (simp; try omega), by simp [go_sem], by simp [go_sem], by simp [go_sem], by simp [go_sem]⟩, by (simp; try omega), by simp [go_sem], by simp [go_sem], by simp [go_sem], by simp [go_sem]⟩
  case round =>
    obtain ⟨k, lo, hi, hk, rfl, hbw, hX⟩ := hrel
    have hmr : w.heap.size + 1 + 1 + 1 + 1 + 1 + 1 + 1 + 1 + 1 ≠ w.heap.size + 1 + 1 := by omega
    have hw1 : w.heap.size ≤ w.heap.size + 1 + 1 + 1 + 1 + 1 + 1 + 1 + 1 + 1 := by omega
    have hw2 : w.heap.size ≤ w.heap.size + 1 + 1 := by omega
    generalize w.heap.size + 1 + 1 + 1 + 1 + 1 + 1 + 1 + 1 + 1 = m at *
    generalize w.heap.size + 1 + 1 = r at *
    obtain ⟨⟨m0, c0, c1, f0, f1⟩, n0, r0, r1, z0, z1⟩ := hX
    have hX : Boxes m r lo hi wr := ⟨⟨m0, c0, c1, f0, f1⟩, n0, r0, r1, z0, z1⟩
    have hsz := hbw.size
    have hsz : w.heap.size ≤ wr.heap.size := hbw.size
    rcases hk with ⟨rfl, hlo, hhi⟩ | ⟨rfl, hlo, hhi⟩ | ⟨rfl, hlo, hhi⟩ | ⟨rfl, rfl, rfl⟩
    · have Hlo : Hid (_ = _) := hlo
      have Hhi : Hid (_ = _) := hhi
      clear hlo hhi
      go_wp2_with (first | (go_at_call 37; go_must (refine (one_is _ _).mono ?_; rintro e w1 ⟨rfl, hb1⟩; have hbw1 : Below w.heap.size w w1 := (by ((refine Below.trans ?_ (hb1.mono ?_)) <;> (first | exact hbw | exact hbw.drew | exact hbw1 | exact hbw1.drew | exact hsz | exact hsz1))); have hX1 : Boxes m r lo hi w1 := Boxes.later (by first | exact hX.drew | exact hX) hb1; have hsz1 : w.heap.size ≤ w1.heap.size := hbw1.size; obtain ⟨⟨m1, c01, c11, f01, f11⟩, n1, r01, r11, z01, z11⟩ := hX1; have hX1 : Boxes m r lo hi w1 := ⟨⟨m1, c01, c11, f01, f11⟩, n1, r01, r11, z01, z11⟩)) | (go_at_call 67; go_must (refine (join_is _ _ _ _ _).mono ?_; rintro e w2 ⟨rfl, hb2⟩; have hbw2 : Below w.heap.size w w2 := (by ((refine Below.trans ?_ (hb2.mono ?_)) <;> (first | exact hbw | exact hbw.drew | exact hbw1 | exact hbw1.drew | exact hsz | exact hsz1))); have hX2 : Boxes m r lo hi w2 := Boxes.later (by first | exact hX1 | exact hX1.drew) hb2; have hsz2 : w.heap.size ≤ w2.heap.size := hbw2.size; obtain ⟨⟨m2, c02, c12, f02, f12⟩, n2, r02, r12, z02, z12⟩ := hX2; have hX2 : Boxes m r lo hi w2 := ⟨⟨m2, c02, c12, f02, f12⟩, n2, r02, r12, z02, z12⟩)))
      go_region_with (first | (go_at_call 37; go_must (refine (one_is _ _).mono ?_; rintro e w1 ⟨rfl, hb1⟩; have hbw1 : Below w.heap.size w w1 := (by ((refine Below.trans ?_ (hb1.mono ?_)) <;> (first | exact hbw | exact hbw.drew | exact hbw1 | exact hbw1.drew | exact hsz | exact hsz1))); have hX1 : Boxes m r lo hi w1 := Boxes.later (by first | exact hX.drew | exact hX) hb1; have hsz1 : w.heap.size ≤ w1.heap.size := hbw1.size; obtain ⟨⟨m1, c01, c11, f01, f11⟩, n1, r01, r11, z01, z11⟩ := hX1; have hX1 : Boxes m r lo hi w1 := ⟨⟨m1, c01, c11, f01, f11⟩, n1, r01, r11, z01, z11⟩)) | (go_at_call 67; go_must (refine (join_is _ _ _ _ _).mono ?_; rintro e w2 ⟨rfl, hb2⟩; have hbw2 : Below w.heap.size w w2 := (by ((refine Below.trans ?_ (hb2.mono ?_)) <;> (first | exact hbw | exact hbw.drew | exact hbw1 | exact hbw1.drew | exact hsz | exact hsz1))); have hX2 : Boxes m r lo hi w2 := Boxes.later (by first | exact hX1 | exact hX1.drew) hb2; have hsz2 : w.heap.size ≤ w2.heap.size := hbw2.size; obtain ⟨⟨m2, c02, c12, f02, f12⟩, n2, r02, r12, z02, z12⟩ := hX2; have hX2 : Boxes m r lo hi w2 := ⟨⟨m2, c02, c12, f02, f12⟩, n2, r02, r12, z02, z12⟩)))
      all_goals go_wp2_with (first | (go_at_call 37; go_must (refine (one_is _ _).mono ?_; rintro e w1 ⟨rfl, hb1⟩; have hbw1 : Below w.heap.size w w1 := (by ((refine Below.trans ?_ (hb1.mono ?_)) <;> (first | exact hbw | exact hbw.drew | exact hbw1 | exact hbw1.drew | exact hsz | exact hsz1))); have hX1 : Boxes m r lo hi w1 := Boxes.later (by first | exact hX.drew | exact hX) hb1; have hsz1 : w.heap.size ≤ w1.heap.size := hbw1.size; obtain ⟨⟨m1, c01, c11, f01, f11⟩, n1, r01, r11, z01, z11⟩ := hX1; have hX1 : Boxes m r lo hi w1 := ⟨⟨m1, c01, c11, f01, f11⟩, n1, r01, r11, z01, z11⟩)) | (go_at_call 67; go_must (refine (join_is _ _ _ _ _).mono ?_; rintro e w2 ⟨rfl, hb2⟩; have hbw2 : Below w.heap.size w w2 := (by ((refine Below.trans ?_ (hb2.mono ?_)) <;> (first | exact hbw | exact hbw.drew | exact hbw1 | exact hbw1.drew | exact hsz | exact hsz1))); have hX2 : Boxes m r lo hi w2 := Boxes.later (by first | exact hX1 | exact hX1.drew) hb2; have hsz2 : w.heap.size ≤ w2.heap.size := hbw2.size; obtain ⟨⟨m2, c02, c12, f02, f12⟩, n2, r02, r12, z02, z12⟩ := hX2; have hX2 : Boxes m r lo hi w2 := ⟨⟨m2, c02, c12, f02, f12⟩, n2, r02, r12, z02, z12⟩)))
      all_goals exact ⟨⟨1, _, _, Or.inr (Or.inl ⟨rfl, by rw [Hlo.out], by rw [Hhi.out]⟩), rfl, (hbw2.setCell hw1 _).setCell hw1 _, hX2.put hmr⟩, by simp [intOf]⟩
    · have Hlo : Hid (_ = _) := hlo
      have Hhi : Hid (_ = _) := hhi
      clear hlo hhi
      go_wp2_with (first | (go_at_call 37; go_must (refine (one_is _ _).mono ?_; rintro e w1 ⟨rfl, hb1⟩; have hbw1 : Below w.heap.size w w1 := (by ((refine Below.trans ?_ (hb1.mono ?_)) <;> (first | exact hbw | exact hbw.drew | exact hbw1 | exact hbw1.drew | exact hsz | exact hsz1))); have hX1 : Boxes m r lo hi w1 := Boxes.later (by first | exact hX.drew | exact hX) hb1; have hsz1 : w.heap.size ≤ w1.heap.size := hbw1.size; obtain ⟨⟨m1, c01, c11, f01, f11⟩, n1, r01, r11, z01, z11⟩ := hX1; have hX1 : Boxes m r lo hi w1 := ⟨⟨m1, c01, c11, f01, f11⟩, n1, r01, r11, z01, z11⟩)) | (go_at_call 67; go_must (refine (join_is _ _ _ _ _).mono ?_; rintro e w2 ⟨rfl, hb2⟩; have hbw2 : Below w.heap.size w w2 := (by ((refine Below.trans ?_ (hb2.mono ?_)) <;> (first | exact hbw | exact hbw.drew | exact hbw1 | exact hbw1.drew | exact hsz | exact hsz1))); have hX2 : Boxes m r lo hi w2 := Boxes.later (by first | exact hX1 | exact hX1.drew) hb2; have hsz2 : w.heap.size ≤ w2.heap.size := hbw2.size; obtain ⟨⟨m2, c02, c12, f02, f12⟩, n2, r02, r12, z02, z12⟩ := hX2; have hX2 : Boxes m r lo hi w2 := ⟨⟨m2, c02, c12, f02, f12⟩, n2, r02, r12, z02, z12⟩)))
      go_region_with (first | (go_at_call 37; go_must (refine (one_is _ _).mono ?_; rintro e w1 ⟨rfl, hb1⟩; have hbw1 : Below w.heap.size w w1 := (by ((refine Below.trans ?_ (hb1.mono ?_)) <;> (first | exact hbw | exact hbw.drew | exact hbw1 | exact hbw1.drew | exact hsz | exact hsz1))); have hX1 : Boxes m r lo hi w1 := Boxes.later (by first | exact hX.drew | exact hX) hb1; have hsz1 : w.heap.size ≤ w1.heap.size := hbw1.size; obtain ⟨⟨m1, c01, c11, f01, f11⟩, n1, r01, r11, z01, z11⟩ := hX1; have hX1 : Boxes m r lo hi w1 := ⟨⟨m1, c01, c11, f01, f11⟩, n1, r01, r11, z01, z11⟩)) | (go_at_call 67; go_must (refine (join_is _ _ _ _ _).mono ?_; rintro e w2 ⟨rfl, hb2⟩; have hbw2 : Below w.heap.size w w2 := (by ((refine Below.trans ?_ (hb2.mono ?_)) <;> (first | exact hbw | exact hbw.drew | exact hbw1 | exact hbw1.drew | exact hsz | exact hsz1))); have hX2 : Boxes m r lo hi w2 := Boxes.later (by first | exact hX1 | exact hX1.drew) hb2; have hsz2 : w.heap.size ≤ w2.heap.size := hbw2.size; obtain ⟨⟨m2, c02, c12, f02, f12⟩, n2, r02, r12, z02, z12⟩ := hX2; have hX2 : Boxes m r lo hi w2 := ⟨⟨m2, c02, c12, f02, f12⟩, n2, r02, r12, z02, z12⟩)))
      all_goals go_wp2_with (first | (go_at_call 37; go_must (refine (one_is _ _).mono ?_; rintro e w1 ⟨rfl, hb1⟩; have hbw1 : Below w.heap.size w w1 := (by ((refine Below.trans ?_ (hb1.mono ?_)) <;> (first | exact hbw | exact hbw.drew | exact hbw1 | exact hbw1.drew | exact hsz | exact hsz1))); have hX1 : Boxes m r lo hi w1 := Boxes.later (by first | exact hX.drew | exact hX) hb1; have hsz1 : w.heap.size ≤ w1.heap.size := hbw1.size; obtain ⟨⟨m1, c01, c11, f01, f11⟩, n1, r01, r11, z01, z11⟩ := hX1; have hX1 : Boxes m r lo hi w1 := ⟨⟨m1, c01, c11, f01, f11⟩, n1, r01, r11, z01, z11⟩)) | (go_at_call 67; go_must (refine (join_is _ _ _ _ _).mono ?_; rintro e w2 ⟨rfl, hb2⟩; have hbw2 : Below w.heap.size w w2 := (by ((refine Below.trans ?_ (hb2.mono ?_)) <;> (first | exact hbw | exact hbw.drew | exact hbw1 | exact hbw1.drew | exact hsz | exact hsz1))); have hX2 : Boxes m r lo hi w2 := Boxes.later (by first | exact hX1 | exact hX1.drew) hb2; have hsz2 : w.heap.size ≤ w2.heap.size := hbw2.size; obtain ⟨⟨m2, c02, c12, f02, f12⟩, n2, r02, r12, z02, z12⟩ := hX2; have hX2 : Boxes m r lo hi w2 := ⟨⟨m2, c02, c12, f02, f12⟩, n2, r02, r12, z02, z12⟩)))
      all_goals exact ⟨⟨2, _, _, Or.inr (Or.inr (Or.inl ⟨rfl, by rw [Hlo.out], by rw [Hhi.out]⟩)), rfl, (hbw2.setCell hw1 _).setCell hw1 _, hX2.put hmr⟩, by simp [intOf]⟩
    · have Hlo : Hid (_ = _) := hlo
      have Hhi : Hid (_ = _) := hhi
      clear hlo hhi
      go_wp2_with (first | (go_at_call 37; go_must (refine (one_is _ _).mono ?_; rintro e w1 ⟨rfl, hb1⟩; have hbw1 : Below w.heap.size w w1 := (by ((refine Below.trans ?_ (hb1.mono ?_)) <;> (first | exact hbw | exact hbw.drew | exact hbw1 | exact hbw1.drew | exact hsz | exact hsz1))); have hX1 : Boxes m r lo hi w1 := Boxes.later (by first | exact hX.drew | exact hX) hb1; have hsz1 : w.heap.size ≤ w1.heap.size := hbw1.size; obtain ⟨⟨m1, c01, c11, f01, f11⟩, n1, r01, r11, z01, z11⟩ := hX1; have hX1 : Boxes m r lo hi w1 := ⟨⟨m1, c01, c11, f01, f11⟩, n1, r01, r11, z01, z11⟩)) | (go_at_call 67; go_must (refine (join_is _ _ _ _ _).mono ?_; rintro e w2 ⟨rfl, hb2⟩; have hbw2 : Below w.heap.size w w2 := (by ((refine Below.trans ?_ (hb2.mono ?_)) <;> (first | exact hbw | exact hbw.drew | exact hbw1 | exact hbw1.drew | exact hsz | exact hsz1))); have hX2 : Boxes m r lo hi w2 := Boxes.later (by first | exact hX1 | exact hX1.drew) hb2; have hsz2 : w.heap.size ≤ w2.heap.size := hbw2.size; obtain ⟨⟨m2, c02, c12, f02, f12⟩, n2, r02, r12, z02, z12⟩ := hX2; have hX2 : Boxes m r lo hi w2 := ⟨⟨m2, c02, c12, f02, f12⟩, n2, r02, r12, z02, z12⟩)))
      go_region_with (first | (go_at_call 37; go_must (refine (one_is _ _).mono ?_; rintro e w1 ⟨rfl, hb1⟩; have hbw1 : Below w.heap.size w w1 := (by ((refine Below.trans ?_ (hb1.mono ?_)) <;> (first | exact hbw | exact hbw.drew | exact hbw1 | exact hbw1.drew | exact hsz | exact hsz1))); have hX1 : Boxes m r lo hi w1 := Boxes.later (by first | exact hX.drew | exact hX) hb1; have hsz1 : w.heap.size ≤ w1.heap.size := hbw1.size; obtain ⟨⟨m1, c01, c11, f01, f11⟩, n1, r01, r11, z01, z11⟩ := hX1; have hX1 : Boxes m r lo hi w1 := ⟨⟨m1, c01, c11, f01, f11⟩, n1, r01, r11, z01, z11⟩)) | (go_at_call 67; go_must (refine (join_is _ _ _ _ _).mono ?_; rintro e w2 ⟨rfl, hb2⟩; have hbw2 : Below w.heap.size w w2 := (by ((refine Below.trans ?_ (hb2.mono ?_)) <;> (first | exact hbw | exact hbw.drew | exact hbw1 | exact hbw1.drew | exact hsz | exact hsz1))); have hX2 : Boxes m r lo hi w2 := Boxes.later (by first | exact hX1 | exact hX1.drew) hb2; have hsz2 : w.heap.size ≤ w2.heap.size := hbw2.size; obtain ⟨⟨m2, c02, c12, f02, f12⟩, n2, r02, r12, z02, z12⟩ := hX2; have hX2 : Boxes m r lo hi w2 := ⟨⟨m2, c02, c12, f02, f12⟩, n2, r02, r12, z02, z12⟩)))
      all_goals go_wp2_with (first | (go_at_call 37; go_must (refine (one_is _ _).mono ?_; rintro e w1 ⟨rfl, hb1⟩; have hbw1 : Below w.heap.size w w1 := (by ((refine Below.trans ?_ (hb1.mono ?_)) <;> (first | exact hbw | exact hbw.drew | exact hbw1 | exact hbw1.drew | exact hsz | exact hsz1))); have hX1 : Boxes m r lo hi w1 := Boxes.later (by first | exact hX.drew | exact hX) hb1; have hsz1 : w.heap.size ≤ w1.heap.size := hbw1.size; obtain ⟨⟨m1, c01, c11, f01, f11⟩, n1, r01, r11, z01, z11⟩ := hX1; have hX1 : Boxes m r lo hi w1 := ⟨⟨m1, c01, c11, f01, f11⟩, n1, r01, r11, z01, z11⟩)) | (go_at_call 67; go_must (refine (join_is _ _ _ _ _).mono ?_; rintro e w2 ⟨rfl, hb2⟩; have hbw2 : Below w.heap.size w w2 := (by ((refine Below.trans ?_ (hb2.mono ?_)) <;> (first | exact hbw | exact hbw.drew | exact hbw1 | exact hbw1.drew | exact hsz | exact hsz1))); have hX2 : Boxes m r lo hi w2 := Boxes.later (by first | exact hX1 | exact hX1.drew) hb2; have hsz2 : w.heap.size ≤ w2.heap.size := hbw2.size; obtain ⟨⟨m2, c02, c12, f02, f12⟩, n2, r02, r12, z02, z12⟩ := hX2; have hX2 : Boxes m r lo hi w2 := ⟨⟨m2, c02, c12, f02, f12⟩, n2, r02, r12, z02, z12⟩)))
      all_goals exact ⟨⟨3, _, _, Or.inr (Or.inr (Or.inr ⟨rfl, by rw [Hlo.out], by rw [Hhi.out]⟩)), rfl, (hbw2.setCell hw1 _).setCell hw1 _, hX2.put hmr⟩, by simp [intOf]⟩
    · go_wp2_with (first | (go_at_call 37; go_must (refine (one_is _ _).mono ?_; rintro e w1 ⟨rfl, hb1⟩; have hbw1 : Below w.heap.size w w1 := (by ((refine Below.trans ?_ (hb1.mono ?_)) <;> (first | exact hbw | exact hbw.drew | exact hbw1 | exact hbw1.drew | exact hsz | exact hsz1))); have hX1 : Boxes m r lo hi w1 := Boxes.later (by first | exact hX.drew | exact hX) hb1; have hsz1 : w.heap.size ≤ w1.heap.size := hbw1.size; obtain ⟨⟨m1, c01, c11, f01, f11⟩, n1, r01, r11, z01, z11⟩ := hX1; have hX1 : Boxes m r lo hi w1 := ⟨⟨m1, c01, c11, f01, f11⟩, n1, r01, r11, z01, z11⟩)) | (go_at_call 67; go_must (refine (join_is _ _ _ _ _).mono ?_; rintro e w2 ⟨rfl, hb2⟩; have hbw2 : Below w.heap.size w w2 := (by ((refine Below.trans ?_ (hb2.mono ?_)) <;> (first | exact hbw | exact hbw.drew | exact hbw1 | exact hbw1.drew | exact hsz | exact hsz1))); have hX2 : Boxes m r lo hi w2 := Boxes.later (by first | exact hX1 | exact hX1.drew) hb2; have hsz2 : w.heap.size ≤ w2.heap.size := hbw2.size; obtain ⟨⟨m2, c02, c12, f02, f12⟩, n2, r02, r12, z02, z12⟩ := hX2; have hX2 : Boxes m r lo hi w2 := ⟨⟨m2, c02, c12, f02, f12⟩, n2, r02, r12, z02, z12⟩)))
      exact bodyPost_ret (v := .agg #[vI vK (min (min (min (wrap64 (al * bl)) (wrap64 (al * bh))) (wrap64 (ah * bl))) (wrap64 (ah * bh))), vI vK (max (max (max (wrap64 (al * bl)) (wrap64 (al * bh))) (wrap64 (ah * bl))) (wrap64 (ah * bh)))]) (by simp [results, Tryz.results202, go_sem, r0, r1]) rfl ⟨rfl, (hbw.setCell hw2 _).setCell hw2 _⟩
theorem has_small (n : Int) (w : World) : Calls Tryz.prog 22 #[.agg #[vI vK (-2147483648), vI vK 2147483648], vI vK n] w fun e w' => e = .returned (.bool (smallB n)) ∧ w' = w.alloc (.cells #[vI vK (-2147483648), vI vK 2147483648] 43) := by
  unfold smallB
  by_cases h1 : -2147483648 ≤ n
  · go_enter Tryz.func22, Tryz.ntmps22
    go_wp2
    go_ret
    exact ⟨ret_bool (by simp [h1]), rfl⟩
  · have h2 : decide (-2147483648 ≤ n) = false := by simpa using h1
    rw [h2, Bool.false_and]
    go_enter Tryz.func22, Tryz.ntmps22
    go_wp2
    go_ret
    exact ⟨rfl, rfl⟩
theorem product_no0 (al ah bl bh : Int) (h0 : smallB al = false) (w : World) : Calls Tryz.prog 202 #[.agg #[vI vK al, vI vK ah], .agg #[vI vK bl, vI vK bh]] w fun e w' => e = .returned (.agg #[vI vK (-9223372036854775808), vI vK 9223372036854775807]) ∧ Below w.heap.size w w' := by
  have i40 := idx4_0 al ah bl bh
  have i41 := idx4_1 al ah bl bh
  have i42 := idx4_2 al ah bl bh
  have i43 := idx4_3 al ah bl bh
  go_enter Tryz.func202, Tryz.ntmps202
  go_wp2_with (first | (go_at_call 22; refine (has_small _ _).mono ?_; rintro e w' ⟨rfl, rfl⟩) | (go_at_call 151; refine (all_is _).mono ?_; rintro e w1 ⟨rfl, hb1⟩; obtain ⟨hcl1, hfr1⟩ := old_cells hb1; have hs1 := hb1.size; (try simp only [drew_size] at hs1); (try simp at hs1); have hbw1 : Below w.heap.size w w1 := by ((refine Below.trans ?_ (hb1.mono ?_)) <;> repeat' first | exact bF _ _ | refine bA ?_ ?_ _ | refine bS ?_ ?_ _ | refine bD ?_ | (simp; done) | (simp; omega) | (simp [drew_size]; done) | (simp [drew_size]; omega) | omega)))
  refine wp_loop_rounds 5 ?_
  repeat any_goals (rw [rounds_succ]; go_wp2_with (first | (go_at_call 22; refine (has_small _ _).mono ?_; rintro e w' ⟨rfl, rfl⟩) | (go_at_call 151; refine (all_is _).mono ?_; rintro e w1 ⟨rfl, hb1⟩; obtain ⟨hcl1, hfr1⟩ := old_cells hb1; have hs1 := hb1.size; (try simp only [drew_size] at hs1); (try simp at hs1); have hbw1 : Below w.heap.size w w1 := by ((refine Below.trans ?_ (hb1.mono ?_)) <;> repeat' first | exact bF _ _ | refine bA ?_ ?_ _ | refine bS ?_ ?_ _ | refine bD ?_ | (simp; done) | (simp; omega) | (simp [drew_size]; done) | (simp [drew_size]; omega) | omega))))
  all_goals exact bodyPost_ret (v := .agg #[vI vK (-9223372036854775808), vI vK 9223372036854775807]) (by simp [results, Tryz.results202, go_sem, hcl1]) rfl ⟨rfl, by repeat' first | exact bF _ _ | exact hbw1 | refine bA ?_ ?_ _ | refine bS ?_ ?_ _ | refine bD ?_ | (simp; done) | (simp; omega) | (simp [drew_size]; done) | (simp [drew_size]; omega) | omega⟩
theorem product_no1 (al ah bl bh : Int) (h0 : smallB al = true) (h1 : smallB ah = false) (w : World) : Calls Tryz.prog 202 #[.agg #[vI vK al, vI vK ah], .agg #[vI vK bl, vI vK bh]] w fun e w' => e = .returned (.agg #[vI vK (-9223372036854775808), vI vK 9223372036854775807]) ∧ Below w.heap.size w w' := by
  have i40 := idx4_0 al ah bl bh
  have i41 := idx4_1 al ah bl bh
  have i42 := idx4_2 al ah bl bh
  have i43 := idx4_3 al ah bl bh
  go_enter Tryz.func202, Tryz.ntmps202
  go_wp2_with (first | (go_at_call 22; refine (has_small _ _).mono ?_; rintro e w' ⟨rfl, rfl⟩) | (go_at_call 151; refine (all_is _).mono ?_; rintro e w1 ⟨rfl, hb1⟩; obtain ⟨hcl1, hfr1⟩ := old_cells hb1; have hs1 := hb1.size; (try simp only [drew_size] at hs1); (try simp at hs1); have hbw1 : Below w.heap.size w w1 := by ((refine Below.trans ?_ (hb1.mono ?_)) <;> repeat' first | exact bF _ _ | refine bA ?_ ?_ _ | refine bS ?_ ?_ _ | refine bD ?_ | (simp; done) | (simp; omega) | (simp [drew_size]; done) | (simp [drew_size]; omega) | omega)))
  refine wp_loop_rounds 5 ?_
  repeat any_goals (rw [rounds_succ]; go_wp2_with (first | (go_at_call 22; refine (has_small _ _).mono ?_; rintro e w' ⟨rfl, rfl⟩) | (go_at_call 151; refine (all_is _).mono ?_; rintro e w1 ⟨rfl, hb1⟩; obtain ⟨hcl1, hfr1⟩ := old_cells hb1; have hs1 := hb1.size; (try simp only [drew_size] at hs1); (try simp at hs1); have hbw1 : Below w.heap.size w w1 := by ((refine Below.trans ?_ (hb1.mono ?_)) <;> repeat' first | exact bF _ _ | refine bA ?_ ?_ _ | refine bS ?_ ?_ _ | refine bD ?_ | (simp; done) | (simp; omega) | (simp [drew_size]; done) | (simp [drew_size]; omega) | omega))))
  all_goals exact bodyPost_ret (v := .agg #[vI vK (-9223372036854775808), vI vK 9223372036854775807]) (by simp [results, Tryz.results202, go_sem, hcl1]) rfl ⟨rfl, by repeat' first | exact bF _ _ | exact hbw1 | refine bA ?_ ?_ _ | refine bS ?_ ?_ _ | refine bD ?_ | (simp; done) | (simp; omega) | (simp [drew_size]; done) | (simp [drew_size]; omega) | omega⟩
theorem product_no2 (al ah bl bh : Int) (h0 : smallB al = true) (h1 : smallB ah = true) (h2 : smallB bl = false) (w : World) : Calls Tryz.prog 202 #[.agg #[vI vK al, vI vK ah], .agg #[vI vK bl, vI vK bh]] w fun e w' => e = .returned (.agg #[vI vK (-9223372036854775808), vI vK 9223372036854775807]) ∧ Below w.heap.size w w' := by
  have i40 := idx4_0 al ah bl bh
  have i41 := idx4_1 al ah bl bh
  have i42 := idx4_2 al ah bl bh
  have i43 := idx4_3 al ah bl bh
  go_enter Tryz.func202, Tryz.ntmps202
  go_wp2_with (first | (go_at_call 22; refine (has_small _ _).mono ?_; rintro e w' ⟨rfl, rfl⟩) | (go_at_call 151; refine (all_is _).mono ?_; rintro e w1 ⟨rfl, hb1⟩; obtain ⟨hcl1, hfr1⟩ := old_cells hb1; have hs1 := hb1.size; (try simp only [drew_size] at hs1); (try simp at hs1); have hbw1 : Below w.heap.size w w1 := by ((refine Below.trans ?_ (hb1.mono ?_)) <;> repeat' first | exact bF _ _ | refine bA ?_ ?_ _ | refine bS ?_ ?_ _ | refine bD ?_ | (simp; done) | (simp; omega) | (simp [drew_size]; done) | (simp [drew_size]; omega) | omega)))
  refine wp_loop_rounds 5 ?_
  repeat any_goals (rw [rounds_succ]; go_wp2_with (first | (go_at_call 22; refine (has_small _ _).mono ?_; rintro e w' ⟨rfl, rfl⟩) | (go_at_call 151; refine (all_is _).mono ?_; rintro e w1 ⟨rfl, hb1⟩; obtain ⟨hcl1, hfr1⟩ := old_cells hb1; have hs1 := hb1.size; (try simp only [drew_size] at hs1); (try simp at hs1); have hbw1 : Below w.heap.size w w1 := by ((refine Below.trans ?_ (hb1.mono ?_)) <;> repeat' first | exact bF _ _ | refine bA ?_ ?_ _ | refine bS ?_ ?_ _ | refine bD ?_ | (simp; done) | (simp; omega) | (simp [drew_size]; done) | (simp [drew_size]; omega) | omega))))
  all_goals exact bodyPost_ret (v := .agg #[vI vK (-9223372036854775808), vI vK 9223372036854775807]) (by simp [results, Tryz.results202, go_sem, hcl1]) rfl ⟨rfl, by repeat' first | exact bF _ _ | exact hbw1 | refine bA ?_ ?_ _ | refine bS ?_ ?_ _ | refine bD ?_ | (simp; done) | (simp; omega) | (simp [drew_size]; done) | (simp [drew_size]; omega) | omega⟩
theorem product_no3 (al ah bl bh : Int) (h0 : smallB al = true) (h1 : smallB ah = true) (h2 : smallB bl = true) (h3 : smallB bh = false) (w : World) : Calls Tryz.prog 202 #[.agg #[vI vK al, vI vK ah], .agg #[vI vK bl, vI vK bh]] w fun e w' => e = .returned (.agg #[vI vK (-9223372036854775808), vI vK 9223372036854775807]) ∧ Below w.heap.size w w' := by
  have i40 := idx4_0 al ah bl bh
  have i41 := idx4_1 al ah bl bh
  have i42 := idx4_2 al ah bl bh
  have i43 := idx4_3 al ah bl bh
  go_enter Tryz.func202, Tryz.ntmps202
  go_wp2_with (first | (go_at_call 22; refine (has_small _ _).mono ?_; rintro e w' ⟨rfl, rfl⟩) | (go_at_call 151; refine (all_is _).mono ?_; rintro e w1 ⟨rfl, hb1⟩; obtain ⟨hcl1, hfr1⟩ := old_cells hb1; have hs1 := hb1.size; (try simp only [drew_size] at hs1); (try simp at hs1); have hbw1 : Below w.heap.size w w1 := by ((refine Below.trans ?_ (hb1.mono ?_)) <;> repeat' first | exact bF _ _ | refine bA ?_ ?_ _ | refine bS ?_ ?_ _ | refine bD ?_ | (simp; done) | (simp; omega) | (simp [drew_size]; done) | (simp [drew_size]; omega) | omega)))
  refine wp_loop_rounds 5 ?_
  repeat any_goals (rw [rounds_succ]; go_wp2_with (first | (go_at_call 22; refine (has_small _ _).mono ?_; rintro e w' ⟨rfl, rfl⟩) | (go_at_call 151; refine (all_is _).mono ?_; rintro e w1 ⟨rfl, hb1⟩; obtain ⟨hcl1, hfr1⟩ := old_cells hb1; have hs1 := hb1.size; (try simp only [drew_size] at hs1); (try simp at hs1); have hbw1 : Below w.heap.size w w1 := by ((refine Below.trans ?_ (hb1.mono ?_)) <;> repeat' first | exact bF _ _ | refine bA ?_ ?_ _ | refine bS ?_ ?_ _ | refine bD ?_ | (simp; done) | (simp; omega) | (simp [drew_size]; done) | (simp [drew_size]; omega) | omega))))
  all_goals exact bodyPost_ret (v := .agg #[vI vK (-9223372036854775808), vI vK 9223372036854775807]) (by simp [results, Tryz.results202, go_sem, hcl1]) rfl ⟨rfl, by repeat' first | exact bF _ _ | exact hbw1 | refine bA ?_ ?_ _ | refine bS ?_ ?_ _ | refine bD ?_ | (simp; done) | (simp; omega) | (simp [drew_size]; done) | (simp [drew_size]; omega) | omega⟩
theorem product_is (al ah bl bh : Int) (w : World) : Calls Tryz.prog 202 #[.agg #[vI vK al, vI vK ah], .agg #[vI vK bl, vI vK bh]] w fun e w' => e = .returned (.agg #[vI vK ((bdV 4 al ah bl bh).1), vI vK ((bdV 4 al ah bl bh).2)]) ∧ Below w.heap.size w w' := by
  rw [bdV_4]
  cases h0 : smallB al
  · exact product_no0 al ah bl bh h0 w
  cases h1 : smallB ah
  · exact product_no1 al ah bl bh h0 h1 w
  cases h2 : smallB bl
  · exact product_no2 al ah bl bh h0 h1 h2 w
  cases h3 : smallB bh
  · exact product_no3 al ah bl bh h0 h1 h2 h3 w
  have k0 := (small_iff _).1 h0
  have k1 := (small_iff _).1 h1
  have k2 := (small_iff _).1 h2
  have k3 := (small_iff _).1 h3
  have e := product_raw al ah bl bh k0.1 k0.2 k1.1 k1.2 k2.1 k2.2 k3.1 k3.2 w
  rw [small_mul h0 h2, small_mul h0 h3, small_mul h1 h2, small_mul h1 h3] at e
  exact e
end Go.Proofs.YtednmkhdehlojaaGreatDoor
