/-
 What bound.Does returns: as a function on integers, code by code; the world below is as it was. Conditions: the ends are numbers of 64 bits, the low end not above the high one.
-/
import Derived.Test.YteenhdoaminkeaaGreatDoorJv4
import Derived.Deep.RegionHeld3
import Derived.Deep.DeepMust
set_option maxHeartbeats 40000000
open Go.Value renaming int → vI
open Go.IntKind renaming i64 → vK
open Go.RowKit.Below renaming alloc → bA, setCell → bS, drew → bD, refl → bF
set_option maxRecDepth 1000000
set_option linter.defProp false
set_option linter.unusedVariables false
set_option linter.unusedSimpArgs false
namespace Go.Proofs.YteenhdoaminkeaaGreatDoor
open Go.ChangeShapes Go.WideShapes Go.ChangeAt Go.RowKit
attribute [local simp] z00
theorem zAa (a k : Int) (h0 : 0 ≤ k) (h1 : k < 64) (w : World) : Calls Tryz.prog 98 #[vI vK a, vI vK k] w fun e w' => e = .returned (.agg #[vI vK (wrap64 (a * 2 ^ k.toNat)), .bool (fits (a * 2 ^ k.toNat))]) ∧ w' = w.alloc (.cells #[vI vK (wrap64 (a * 2 ^ k.toNat)), .bool (fits (a * 2 ^ k.toNat))] 158) := by
 have hf : Hid ((wrap64 (a * 2 ^ k.toNat) / 2 ^ k.toNat == a) = fits (a * 2 ^ k.toNat)) := z1z (by omega)
 go_enter Tryz.func98, Tryz.ntmps98
 go_wp2
 rw [hf.out]
 exact bodyPost_ret (v := .agg #[vI vK (wrap64 (a * 2 ^ k.toNat)), .bool (fits (a * 2 ^ k.toNat))]) (by simp [results, Tryz.results98, go_sem]) rfl ⟨rfl, rfl⟩
theorem zAv (a b : Int) (pa : -9223372036854775808 ≤ a) (qa : a ≤ 9223372036854775807) (pb : -9223372036854775808 ≤ b) (qb : b ≤ 9223372036854775807) (w : World) : Calls Tryz.prog 81 #[vI vK a, vI vK b] w fun e w' => e = .returned (.agg #[vI vK (wrap64 (a + b)), .bool (fits (a + b))]) ∧ w' = w.alloc (.cells #[vI vK (wrap64 (a + b)), .bool (fits (a + b))] 158) := by
 have hf : Hid ((decide (a ≤ wrap64 (a + b)) == decide (0 ≤ b)) = fits (a + b)) := zL2 pa qa pb qb
 clear pa qa pb qb
 go_enter Tryz.func81, Tryz.ntmps81
 go_wp2
 rw [hf.out]
 exact bodyPost_ret (v := .agg #[vI vK (wrap64 (a + b)), .bool (fits (a + b))]) (by simp [results, Tryz.results81, go_sem]) rfl ⟨rfl, rfl⟩
theorem z87 (a b : Int) (pa : -9223372036854775808 ≤ a) (qa : a ≤ 9223372036854775807) (pb : -9223372036854775808 ≤ b) (qb : b ≤ 9223372036854775807) (w : World) : Calls Tryz.prog 82 #[vI vK a, vI vK b] w fun e w' => e = .returned (.agg #[vI vK (wrap64 (a - b)), .bool (fits (a - b))]) ∧ w' = w.alloc (.cells #[vI vK (wrap64 (a - b)), .bool (fits (a - b))] 158) := by
 have hf : Hid ((decide (wrap64 (a - b) ≤ a) == decide (0 ≤ b)) = fits (a - b)) := zI7 pa qa pb qb
 clear pa qa pb qb
 go_enter Tryz.func82, Tryz.ntmps82
 go_wp2
 rw [hf.out]
 exact bodyPost_ret (v := .agg #[vI vK (wrap64 (a - b)), .bool (fits (a - b))]) (by simp [results, Tryz.results82, go_sem]) rfl ⟨rfl, rfl⟩
theorem z2c (n : Int) (w : World) : Calls Tryz.prog 39 #[vI vK n] w fun e w' => e = .returned (.agg #[vI vK n, vI vK n]) ∧ w' = w.alloc (.cells #[vI vK n, vI vK n] 30) := by
 go_enter Tryz.func39, Tryz.ntmps39
 go_wp2
 exact bodyPost_ret (v := .agg #[vI vK n, vI vK n]) (by simp [results, Tryz.results39, go_sem]) rfl ⟨rfl, rfl⟩
theorem z56 (u v : Int) (w : World) : Calls Tryz.prog 80 #[.agg #[vI vK (wrap64 u), .bool (fits u), vI vK (wrap64 v), .bool (fits v)]] w fun e w' => e = .returned (.agg #[vI vK ((fit2 u v).1), vI vK ((fit2 u v).2)]) ∧ Below w.heap.size w w' := by
 rw [← fit2_1, ← fit2_2]
 exact zIt _ _ _ _ w
theorem zD6 (al ah bl bh : Int) : (∀ (ha : al < 0) (w : World), Calls Tryz.prog 84 #[.agg #[vI vK al, vI vK ah], .agg #[vI vK bl, vI vK bh]] w fun e w' => e = .returned (.agg #[vI vK (-9223372036854775808), vI vK 9223372036854775807]) ∧ Below w.heap.size w w') ∧ (∀ (ha : 0 ≤ al) (hb : bl < 0) (w : World), Calls Tryz.prog 84 #[.agg #[vI vK al, vI vK ah], .agg #[vI vK bl, vI vK bh]] w fun e w' => e = .returned (.agg #[vI vK (-9223372036854775808), vI vK 9223372036854775807]) ∧ Below w.heap.size w w') := by
 refine ⟨?_, ?_⟩
 intro ha w
 have _ha : decide (0 ≤ al) = false := by simp; omega
 rotate_left
 intro ha hb w
 have _hb : decide (0 ≤ bl) = false := by simp; omega
 rotate_left
 all_goals
  go_enter Tryz.func84, Tryz.ntmps84
  go_wp2_with (first | (go_at_call 63; refine (z2v _).mono ?_; rintro e w1 ⟨rfl, hb1⟩; obtain ⟨hcl1, hfr1⟩ := z09 hb1; have hs1 := hb1.size; (try simp only [z00] at hs1); (try simp at hs1); have hbw1 : Below w.heap.size w w1 := by ((refine Below.trans ?_ (hb1.mono ?_)) <;> repeat' first | exact bF _ _ | refine bA ?_ ?_ _ | refine bS ?_ ?_ _ | refine bD ?_ | (simp; done) | (simp; omega) | (simp [z00]; done) | (simp [z00]; omega) | omega)) | (go_at_call 96; refine (z2y _ _ _ ?_ ?_ _).mono ?_; omega; omega; rintro e w' ⟨rfl, rfl⟩) | go_in)
  all_goals exact bodyPost_ret (v := .agg #[vI vK (-9223372036854775808), vI vK 9223372036854775807]) (by simp [results, Tryz.results84, go_sem, hcl1]) rfl ⟨rfl, by repeat' first | exact bF _ _ | exact hbw1 | refine bA ?_ ?_ _ | refine bS ?_ ?_ _ | refine bD ?_ | (simp; done) | (simp; omega) | (simp [z00]; done) | (simp [z00]; omega) | omega⟩
def zEb := fun al ah bl bh => (@zD6 al ah bl bh).1
def zEa := fun al ah bl bh => (@zD6 al ah bl bh).2
theorem zHv (al ah bl bh : Int) (ha : 0 ≤ al) (hb : 0 ≤ bl) (hz : bl ≤ 0) (w : World) : Calls Tryz.prog 84 #[.agg #[vI vK al, vI vK ah], .agg #[vI vK bl, vI vK bh]] w fun e w' => e = .returned (.agg #[vI vK 0, vI vK ah]) ∧ Below w.heap.size w w' := by
 have _hz : decide (0 < bl) = false := by simp; omega
 go_enter Tryz.func84, Tryz.ntmps84
 go_wp2_with (first | (go_at_call 63; refine (z2v _).mono ?_; rintro e w1 ⟨rfl, hb1⟩; obtain ⟨hcl1, hfr1⟩ := z09 hb1; have hs1 := hb1.size; (try simp only [z00] at hs1); (try simp at hs1); have hbw1 : Below w.heap.size w w1 := by ((refine Below.trans ?_ (hb1.mono ?_)) <;> repeat' first | exact bF _ _ | refine bA ?_ ?_ _ | refine bS ?_ ?_ _ | refine bD ?_ | (simp; done) | (simp; omega) | (simp [z00]; done) | (simp [z00]; omega) | omega)) | (go_at_call 96; refine (z2y _ _ _ ?_ ?_ _).mono ?_; omega; omega; rintro e w' ⟨rfl, rfl⟩) | go_in)
 all_goals exact bodyPost_ret (v := .agg #[vI vK 0, vI vK ah]) (by simp [results, Tryz.results84, go_sem]) rfl ⟨rfl, by repeat' first | exact bF _ _ | refine bA ?_ ?_ _ | refine bS ?_ ?_ _ | refine bD ?_ | (simp; done) | (simp; omega) | (simp [z00]; done) | (simp [z00]; omega) | omega⟩
theorem zD5 (al ah bl bh : Int) : (∀ (ha : al < 0) (w : World), Calls Tryz.prog 85 #[.agg #[vI vK al, vI vK ah], .agg #[vI vK bl, vI vK bh]] w fun e w' => e = .returned (.agg #[vI vK (-9223372036854775808), vI vK 9223372036854775807]) ∧ Below w.heap.size w w') ∧ (∀ (ha : 0 ≤ al) (hb : bl < 0) (w : World), Calls Tryz.prog 85 #[.agg #[vI vK al, vI vK ah], .agg #[vI vK bl, vI vK bh]] w fun e w' => e = .returned (.agg #[vI vK (-9223372036854775808), vI vK 9223372036854775807]) ∧ Below w.heap.size w w') := by
 refine ⟨?_, ?_⟩
 intro ha w
 have _ha : decide (0 ≤ al) = false := by simp; omega
 rotate_left
 intro ha hb w
 have _hb : decide (0 ≤ bl) = false := by simp; omega
 rotate_left
 all_goals
  go_enter Tryz.func85, Tryz.ntmps85
  go_wp2_with (first | (go_at_call 63; refine (z2v _).mono ?_; rintro e w1 ⟨rfl, hb1⟩; obtain ⟨hcl1, hfr1⟩ := z09 hb1; have hs1 := hb1.size; (try simp only [z00] at hs1); (try simp at hs1); have hbw1 : Below w.heap.size w w1 := by ((refine Below.trans ?_ (hb1.mono ?_)) <;> repeat' first | exact bF _ _ | refine bA ?_ ?_ _ | refine bS ?_ ?_ _ | refine bD ?_ | (simp; done) | (simp; omega) | (simp [z00]; done) | (simp [z00]; omega) | omega)) | (go_at_call 96; refine (z2y _ _ _ ?_ ?_ _).mono ?_; omega; omega; rintro e w' ⟨rfl, rfl⟩) | go_in)
  all_goals exact bodyPost_ret (v := .agg #[vI vK (-9223372036854775808), vI vK 9223372036854775807]) (by simp [results, Tryz.results85, go_sem, hcl1]) rfl ⟨rfl, by repeat' first | exact bF _ _ | exact hbw1 | refine bA ?_ ?_ _ | refine bS ?_ ?_ _ | refine bD ?_ | (simp; done) | (simp; omega) | (simp [z00]; done) | (simp [z00]; omega) | omega⟩
def zS2 := fun al ah bl bh => (@zD5 al ah bl bh).1
def zS1 := fun al ah bl bh => (@zD5 al ah bl bh).2
theorem zHw (al ah bl bh : Int) (ha : 0 ≤ al) (hb : 0 < bl) (p1 : bh ≤ 9223372036854775807) (p2 : bl ≤ 9223372036854775807) (p3 : -9223372036854775808 ≤ bh) (w : World) : Calls Tryz.prog 84 #[.agg #[vI vK al, vI vK ah], .agg #[vI vK bl, vI vK bh]] w fun e w' => e = .returned (.agg #[vI vK (z0i 5 al bh), vI vK (z0i 5 ah bl)]) ∧ Below w.heap.size w w' := by
 have hb0 : 0 ≤ bl := by omega
 go_enter Tryz.func84, Tryz.ntmps84
 go_wp2_with (first | (go_at_call 95; go_in))
 go_region_held3 (fun w' => w'.cell? ⟨w.heap.size, 0, none⟩ = some (vI vK al) ∧ w'.cell? ⟨w.heap.size, 1, none⟩ = some (vI vK ah) ∧ w'.cell? ⟨w.heap.size + 1, 0, none⟩ = some (vI vK bl) ∧ w'.cell? ⟨w.heap.size + 1, 1, none⟩ = some (vI vK bh)) (first | (simp [go_sem]; done) | (simp [go_sem, *]; done) | go_keep) (first | (go_at_call 96; refine (z2y _ _ _ ?_ ?_ _).mono ?_; omega; omega; rintro e w' ⟨rfl, rfl⟩))
 all_goals go_wp2_with (first | (go_at_call 96; refine (z2y _ _ _ ?_ ?_ _).mono ?_; omega; omega; rintro e w' ⟨rfl, rfl⟩))
 all_goals exact bodyPost_ret (v := .agg #[vI vK (z0i 5 al bh), vI vK (z0i 5 ah bl)]) (by simp [results, Tryz.results84, go_sem]) rfl ⟨rfl, by repeat' first | exact bF _ _ | refine bA ?_ ?_ _ | refine bS ?_ ?_ _ | refine bD ?_ | (simp; done) | (simp; omega) | (simp [z00]; done) | (simp [z00]; omega) | omega⟩
theorem zD4 (al ah bl bh : Int) (ha : 0 ≤ al) : (∀ (hb : 0 ≤ bl) (hz : bl ≤ 0) (w : World), Calls Tryz.prog 85 #[.agg #[vI vK al, vI vK ah], .agg #[vI vK bl, vI vK bh]] w fun e w' => e = .returned (.agg #[vI vK 0, vI vK ah]) ∧ Below w.heap.size w w') ∧ (∀ (hb : 0 < bl) (p1 : bh ≤ 9223372036854775807) (p3 : bl ≤ bh) (w : World), Calls Tryz.prog 85 #[.agg #[vI vK al, vI vK ah], .agg #[vI vK bl, vI vK bh]] w fun e w' => e = .returned (.agg #[vI vK 0, vI vK (min ah (bh - 1))]) ∧ Below w.heap.size w w') := by
 refine ⟨?_, ?_⟩
 intro hb hz w
 have _hz : decide (0 < bl) = false := by simp; omega
 rotate_left
 intro hb p1 p3 w
 have hb0 : 0 ≤ bl := by omega
 rotate_left
 all_goals
  go_enter Tryz.func85, Tryz.ntmps85
  go_wp2_with (first | (go_at_call 63; refine (z2v _).mono ?_; rintro e w1 ⟨rfl, hb1⟩; obtain ⟨hcl1, hfr1⟩ := z09 hb1; have hs1 := hb1.size; (try simp only [z00] at hs1); (try simp at hs1); have hbw1 : Below w.heap.size w w1 := by ((refine Below.trans ?_ (hb1.mono ?_)) <;> repeat' first | exact bF _ _ | refine bA ?_ ?_ _ | refine bS ?_ ?_ _ | refine bD ?_ | (simp; done) | (simp; omega) | (simp [z00]; done) | (simp [z00]; omega) | omega)) | (go_at_call 96; refine (z2y _ _ _ ?_ ?_ _).mono ?_; omega; omega; rintro e w' ⟨rfl, rfl⟩) | go_in)
  all_goals exact bodyPost_ret (by simp [results, Tryz.results85, go_sem]) rfl ⟨rfl, by repeat' first | exact bF _ _ | refine bA ?_ ?_ _ | refine bS ?_ ?_ _ | refine bD ?_ | (simp; done) | (simp; omega) | (simp [z00]; done) | (simp [z00]; omega) | omega⟩
def rest_z := fun al ah bl bh ha => (@zD4 al ah bl bh ha).1
def rest_p := fun al ah bl bh ha => (@zD4 al ah bl bh ha).2
theorem z98 (al ah bl bh : Int) : (∀ (ha : 0 ≤ al) (hb : 0 ≤ bl) (w : World), Calls Tryz.prog 86 #[.agg #[vI vK al, vI vK ah], .agg #[vI vK bl, vI vK bh]] w fun e w' => e = .returned (.agg #[vI vK 0, vI vK (min ah bh)]) ∧ Below w.heap.size w w') ∧ (∀ (ha : 0 ≤ al) (hb : bl < 0) (w : World), Calls Tryz.prog 86 #[.agg #[vI vK al, vI vK ah], .agg #[vI vK bl, vI vK bh]] w fun e w' => e = .returned (.agg #[vI vK 0, vI vK ah]) ∧ Below w.heap.size w w') ∧ (∀ (ha : al < 0) (hb : 0 ≤ bl) (w : World), Calls Tryz.prog 86 #[.agg #[vI vK al, vI vK ah], .agg #[vI vK bl, vI vK bh]] w fun e w' => e = .returned (.agg #[vI vK 0, vI vK bh]) ∧ Below w.heap.size w w') := by
 refine ⟨?_, ?_, ?_⟩
 all_goals
  intro ha hb w
 rotate_left
 have _hb : decide (0 ≤ bl) = false := by simp; omega
 rotate_left
 have _ha : decide (0 ≤ al) = false := by simp; omega
 rotate_left
 all_goals
  go_enter Tryz.func86, Tryz.ntmps86
  go_wp2_with (first | (go_at_call 63; refine (z2v _).mono ?_; rintro e w1 ⟨rfl, hb1⟩; obtain ⟨hcl1, hfr1⟩ := z09 hb1; have hs1 := hb1.size; (try simp only [z00] at hs1); (try simp at hs1); have hbw1 : Below w.heap.size w w1 := by ((refine Below.trans ?_ (hb1.mono ?_)) <;> repeat' first | exact bF _ _ | refine bA ?_ ?_ _ | refine bS ?_ ?_ _ | refine bD ?_ | (simp; done) | (simp; omega) | (simp [z00]; done) | (simp [z00]; omega) | omega)) | (go_at_call 96; refine (z2y _ _ _ ?_ ?_ _).mono ?_; omega; omega; rintro e w' ⟨rfl, rfl⟩) | go_in)
  all_goals exact bodyPost_ret (by simp [results, Tryz.results86, go_sem]) rfl ⟨rfl, by repeat' first | exact bF _ _ | refine bA ?_ ?_ _ | refine bS ?_ ?_ _ | refine bD ?_ | (simp; done) | (simp; omega) | (simp [z00]; done) | (simp [z00]; omega) | omega⟩
def zM4 := fun al ah bl bh => (@z98 al ah bl bh).1
def zM5 := fun al ah bl bh => (@z98 al ah bl bh).2.1
def zM6 := fun al ah bl bh => (@z98 al ah bl bh).2.2
theorem zM7 (al ah bl bh : Int) (ha : al < 0) (hb : bl < 0) (w : World) : Calls Tryz.prog 86 #[.agg #[vI vK al, vI vK ah], .agg #[vI vK bl, vI vK bh]] w fun e w' => e = .returned (.agg #[vI vK (-9223372036854775808), vI vK 9223372036854775807]) ∧ Below w.heap.size w w' := by
 have _ha : decide (0 ≤ al) = false := by simp; omega
 have _hb : decide (0 ≤ bl) = false := by simp; omega
 go_enter Tryz.func86, Tryz.ntmps86
 go_wp2_with (first | (go_at_call 63; refine (z2v _).mono ?_; rintro e w1 ⟨rfl, hb1⟩; obtain ⟨hcl1, hfr1⟩ := z09 hb1; have hs1 := hb1.size; (try simp only [z00] at hs1); (try simp at hs1); have hbw1 : Below w.heap.size w w1 := by ((refine Below.trans ?_ (hb1.mono ?_)) <;> repeat' first | exact bF _ _ | refine bA ?_ ?_ _ | refine bS ?_ ?_ _ | refine bD ?_ | (simp; done) | (simp; omega) | (simp [z00]; done) | (simp [z00]; omega) | omega)) | (go_at_call 96; refine (z2y _ _ _ ?_ ?_ _).mono ?_; omega; omega; rintro e w' ⟨rfl, rfl⟩) | go_in)
 all_goals exact bodyPost_ret (v := .agg #[vI vK (-9223372036854775808), vI vK 9223372036854775807]) (by simp [results, Tryz.results86, go_sem, hcl1]) rfl ⟨rfl, by repeat' first | exact bF _ _ | exact hbw1 | refine bA ?_ ?_ _ | refine bS ?_ ?_ _ | refine bD ?_ | (simp; done) | (simp; omega) | (simp [z00]; done) | (simp [z00]; omega) | omega⟩
theorem zLv (lo al ah bl bh : Int) (ha : 0 ≤ al) (hb : 0 ≤ bl) (p1 : -9223372036854775808 ≤ max ah bh) (p2 : max ah bh ≤ 9223372036854775807) (w : World) : Calls Tryz.prog 87 #[vI vK lo, .agg #[vI vK al, vI vK ah], .agg #[vI vK bl, vI vK bh]] w fun e w' => e = .returned (.agg #[vI vK lo, vI vK (z4d (max ah bh))]) ∧ Below w.heap.size w w' := by
 go_enter Tryz.func87, Tryz.ntmps87
 go_wp2_with (first | (go_at_call 63; refine (z2v _).mono ?_; rintro e w1 ⟨rfl, hb1⟩; obtain ⟨hcl1, hfr1⟩ := z09 hb1; have hs1 := hb1.size; (try simp only [z00] at hs1); (try simp at hs1); have hbw1 : Below w.heap.size w w1 := by ((refine Below.trans ?_ (hb1.mono ?_)) <;> repeat' first | exact bF _ _ | refine bA ?_ ?_ _ | refine bS ?_ ?_ _ | refine bD ?_ | (simp; done) | (simp; omega) | (simp [z00]; done) | (simp [z00]; omega) | omega)) | (go_at_call 97; refine (zGg _ ?_ ?_ _).mono ?_; omega; omega; rintro e w' ⟨rfl, rfl⟩) | go_in)
 all_goals exact bodyPost_ret (v := .agg #[vI vK lo, vI vK (z4d (max ah bh))]) (by simp [results, Tryz.results87, go_sem]) rfl ⟨rfl, by repeat' first | exact bF _ _ | refine bA ?_ ?_ _ | refine bS ?_ ?_ _ | refine bD ?_ | (simp; done) | (simp; omega) | (simp [z00]; done) | (simp [z00]; omega) | omega⟩
theorem zD3 (lo al ah bl bh : Int) : (∀ (ha : al < 0) (w : World), Calls Tryz.prog 87 #[vI vK lo, .agg #[vI vK al, vI vK ah], .agg #[vI vK bl, vI vK bh]] w fun e w' => e = .returned (.agg #[vI vK (-9223372036854775808), vI vK 9223372036854775807]) ∧ Below w.heap.size w w') ∧ (∀ (ha : 0 ≤ al) (hb : bl < 0) (w : World), Calls Tryz.prog 87 #[vI vK lo, .agg #[vI vK al, vI vK ah], .agg #[vI vK bl, vI vK bh]] w fun e w' => e = .returned (.agg #[vI vK (-9223372036854775808), vI vK 9223372036854775807]) ∧ Below w.heap.size w w') := by
 refine ⟨?_, ?_⟩
 intro ha w
 have _ha : decide (0 ≤ al) = false := by simp; omega
 rotate_left
 intro ha hb w
 have _hb : decide (0 ≤ bl) = false := by simp; omega
 rotate_left
 all_goals
  go_enter Tryz.func87, Tryz.ntmps87
  go_wp2_with (first | (go_at_call 63; refine (z2v _).mono ?_; rintro e w1 ⟨rfl, hb1⟩; obtain ⟨hcl1, hfr1⟩ := z09 hb1; have hs1 := hb1.size; (try simp only [z00] at hs1); (try simp at hs1); have hbw1 : Below w.heap.size w w1 := by ((refine Below.trans ?_ (hb1.mono ?_)) <;> repeat' first | exact bF _ _ | refine bA ?_ ?_ _ | refine bS ?_ ?_ _ | refine bD ?_ | (simp; done) | (simp; omega) | (simp [z00]; done) | (simp [z00]; omega) | omega)) | (go_at_call 97; refine (zGg _ ?_ ?_ _).mono ?_; omega; omega; rintro e w' ⟨rfl, rfl⟩) | go_in)
  all_goals exact bodyPost_ret (v := .agg #[vI vK (-9223372036854775808), vI vK 9223372036854775807]) (by simp [results, Tryz.results87, go_sem, hcl1]) rfl ⟨rfl, by repeat' first | exact bF _ _ | exact hbw1 | refine bA ?_ ?_ _ | refine bS ?_ ?_ _ | refine bD ?_ | (simp; done) | (simp; omega) | (simp [z00]; done) | (simp [z00]; omega) | omega⟩
def zLx := fun lo al ah bl bh => (@zD3 lo al ah bl bh).1
def zLw := fun lo al ah bl bh => (@zD3 lo al ah bl bh).2
theorem zD2 (al ah : Int) : (∀ (w : World), Calls Tryz.prog 89 #[vI vK 10, .agg #[vI vK al, vI vK ah]] w fun e w' => e = .returned (.agg #[vI vK (-9223372036854775808), vI vK 9223372036854775807]) ∧ Below w.heap.size w w') ∧ (∀ (ha : al < 0) (w : World), Calls Tryz.prog 89 #[vI vK 11, .agg #[vI vK al, vI vK ah]] w fun e w' => e = .returned (.agg #[vI vK (-9223372036854775808), vI vK 9223372036854775807]) ∧ Below w.heap.size w w') := by
 refine ⟨?_, ?_⟩
 intro w
 rotate_left
 intro ha w
 have _ha : decide (0 ≤ al) = false := by simp; omega
 rotate_left
 all_goals
  go_enter Tryz.func89, Tryz.ntmps89
  go_wp2_with (first | (go_at_call 63; refine (z2v _).mono ?_; rintro e w1 ⟨rfl, hb1⟩; obtain ⟨hcl1, hfr1⟩ := z09 hb1; have hs1 := hb1.size; (try simp only [z00] at hs1); (try simp at hs1); have hbw1 : Below w.heap.size w w1 := by ((refine Below.trans ?_ (hb1.mono ?_)) <;> repeat' first | exact bF _ _ | refine bA ?_ ?_ _ | refine bS ?_ ?_ _ | refine bD ?_ | (simp; done) | (simp; omega) | (simp [z00]; done) | (simp [z00]; omega) | omega)) | (go_at_call 96; refine (z2y _ _ _ ?_ ?_ _).mono ?_; omega; omega; rintro e w' ⟨rfl, rfl⟩) | go_in)
  all_goals exact bodyPost_ret (v := .agg #[vI vK (-9223372036854775808), vI vK 9223372036854775807]) (by simp [results, Tryz.results89, go_sem, hcl1]) rfl ⟨rfl, by repeat' first | exact bF _ _ | exact hbw1 | refine bA ?_ ?_ _ | refine bS ?_ ?_ _ | refine bD ?_ | (simp; done) | (simp; omega) | (simp [z00]; done) | (simp [z00]; omega) | omega⟩
def any_10 := fun al ah => (@zD2 al ah).1
def any_11 := fun al ah => (@zD2 al ah).2
theorem z97  : (∀ (c al ah : Int) (hc : c = 11 ∨ c = 12) (ha : 0 ≤ al) (w : World), Calls Tryz.prog 89 #[vI vK c, .agg #[vI vK al, vI vK ah]] w fun e w' => e = .returned (.agg #[vI vK 0, vI vK ah]) ∧ Below w.heap.size w w') ∧ (∀ (al ah : Int) (ha : al < 0) (hh : ah < 0) (w : World), Calls Tryz.prog 89 #[vI vK 12, .agg #[vI vK al, vI vK ah]] w fun e w' => e = .returned (.agg #[vI vK al, vI vK (-1)]) ∧ Below w.heap.size w w') ∧ (∀ (al ah : Int) (ha : al < 0) (hh : 0 ≤ ah) (w : World), Calls Tryz.prog 89 #[vI vK 12, .agg #[vI vK al, vI vK ah]] w fun e w' => e = .returned (.agg #[vI vK al, vI vK ah]) ∧ Below w.heap.size w w') := by
 refine ⟨?_, ?_, ?_⟩
 intro c al ah hc ha w
 have _hc : (c == 10) = false := by simp; omega
 rotate_left
 intro al ah ha hh w
 have _ha : decide (0 ≤ al) = false := by simp; omega
 rotate_left
 intro al ah ha hh w
 have _ha : decide (0 ≤ al) = false := by simp; omega
 have _hh : decide (ah < 0) = false := by simp; omega
 rotate_left
 all_goals
  go_enter Tryz.func89, Tryz.ntmps89
  go_wp2_with (first | (go_at_call 63; refine (z2v _).mono ?_; rintro e w1 ⟨rfl, hb1⟩; obtain ⟨hcl1, hfr1⟩ := z09 hb1; have hs1 := hb1.size; (try simp only [z00] at hs1); (try simp at hs1); have hbw1 : Below w.heap.size w w1 := by ((refine Below.trans ?_ (hb1.mono ?_)) <;> repeat' first | exact bF _ _ | refine bA ?_ ?_ _ | refine bS ?_ ?_ _ | refine bD ?_ | (simp; done) | (simp; omega) | (simp [z00]; done) | (simp [z00]; omega) | omega)) | (go_at_call 96; refine (z2y _ _ _ ?_ ?_ _).mono ?_; omega; omega; rintro e w' ⟨rfl, rfl⟩) | go_in)
  all_goals exact bodyPost_ret (by simp [results, Tryz.results89, go_sem]) rfl ⟨rfl, by repeat' first | exact bF _ _ | refine bA ?_ ?_ _ | refine bS ?_ ?_ _ | refine bD ?_ | (simp; done) | (simp; omega) | (simp [z00]; done) | (simp [z00]; omega) | omega⟩
def any_p := z97.1
def zU9 := z97.2.1
def any_12 := z97.2.2
theorem zHi (al ah : Int) (k : Int) (h0 : 0 ≤ k) (h1 : k < 64) (w : World) : Calls Tryz.prog 88 #[vI vK 10, .agg #[vI vK al, vI vK ah], vI vK k] w fun e w' => e = .returned (.agg #[vI vK ((fit2 (al * 2 ^ k.toNat) (ah * 2 ^ k.toNat)).1), vI vK ((fit2 (al * 2 ^ k.toNat) (ah * 2 ^ k.toNat)).2)]) ∧ Below w.heap.size w w' := by
 go_enter Tryz.func88, Tryz.ntmps88
 go_wp2_with fail
 go_region_held3 (fun w' => w'.cell? ⟨w.heap.size, 0, none⟩ = some (vI vK al) ∧ w'.cell? ⟨w.heap.size, 1, none⟩ = some (vI vK ah)) (first | (simp [go_sem]; done) | (simp [go_sem, *]; done) | go_keep) (first | (go_at_call 98; refine (zAa _ _ ?_ ?_ _).mono ?_; omega; omega; rintro e w' ⟨rfl, rfl⟩) | (go_at_call 81; refine (zAv _ _ ?_ ?_ ?_ ?_ _).mono ?_; omega; omega; omega; omega; rintro e w' ⟨rfl, rfl⟩) | (go_at_call 82; refine (z87 _ _ ?_ ?_ ?_ ?_ _).mono ?_; omega; omega; omega; omega; rintro e w' ⟨rfl, rfl⟩) | (go_at_call 80; refine (z56 _ _ _).mono ?_; rintro e w1 ⟨rfl, hb1⟩; obtain ⟨hcl1, hfr1⟩ := z09 hb1; have hs1 := hb1.size; (try simp only [z00] at hs1); (try simp at hs1); have hbw1 : Below w.heap.size w w1 := by ((refine Below.trans ?_ (hb1.mono ?_)) <;> repeat' first | exact bF _ _ | refine bA ?_ ?_ _ | refine bS ?_ ?_ _ | refine bD ?_ | (simp; done) | (simp; omega) | (simp [z00]; done) | (simp [z00]; omega) | omega)))
 all_goals go_wp2_with (first | (go_at_call 98; refine (zAa _ _ ?_ ?_ _).mono ?_; omega; omega; rintro e w' ⟨rfl, rfl⟩) | (go_at_call 81; refine (zAv _ _ ?_ ?_ ?_ ?_ _).mono ?_; omega; omega; omega; omega; rintro e w' ⟨rfl, rfl⟩) | (go_at_call 82; refine (z87 _ _ ?_ ?_ ?_ ?_ _).mono ?_; omega; omega; omega; omega; rintro e w' ⟨rfl, rfl⟩) | (go_at_call 80; refine (z56 _ _ _).mono ?_; rintro e w1 ⟨rfl, hb1⟩; obtain ⟨hcl1, hfr1⟩ := z09 hb1; have hs1 := hb1.size; (try simp only [z00] at hs1); (try simp at hs1); have hbw1 : Below w.heap.size w w1 := by ((refine Below.trans ?_ (hb1.mono ?_)) <;> repeat' first | exact bF _ _ | refine bA ?_ ?_ _ | refine bS ?_ ?_ _ | refine bD ?_ | (simp; done) | (simp; omega) | (simp [z00]; done) | (simp [z00]; omega) | omega)))
 all_goals exact bodyPost_ret (v := .agg #[vI vK ((fit2 (al * 2 ^ k.toNat) (ah * 2 ^ k.toNat)).1), vI vK ((fit2 (al * 2 ^ k.toNat) (ah * 2 ^ k.toNat)).2)]) (by simp [results, Tryz.results88, go_sem, hcl1]) rfl ⟨rfl, by repeat' first | exact bF _ _ | exact hbw1 | refine bA ?_ ?_ _ | refine bS ?_ ?_ _ | refine bD ?_ | (simp; done) | (simp; omega) | (simp [z00]; done) | (simp [z00]; omega) | omega⟩
theorem zDv (al ah : Int) (k : Int) (h0 : 0 ≤ k) (h1 : k < 64) (hk : 0 < k) (ha : al < 0) (w : World) : Calls Tryz.prog 88 #[vI vK 11, .agg #[vI vK al, vI vK ah], vI vK k] w fun e w' => e = .returned (.agg #[vI vK 0, vI vK (z0i 11 (-1) k)]) ∧ Below w.heap.size w w' := by
 go_enter Tryz.func88, Tryz.ntmps88
 go_wp2_with (first | (go_at_call 96; refine (z2y _ _ _ ?_ ?_ _).mono ?_; omega; omega; rintro e w' ⟨rfl, rfl⟩))
 all_goals exact bodyPost_ret (v := .agg #[vI vK 0, vI vK (z0i 11 (-1) k)]) (by simp [results, Tryz.results88, go_sem]) rfl ⟨rfl, by repeat' first | exact bF _ _ | refine bA ?_ ?_ _ | refine bS ?_ ?_ _ | refine bD ?_ | (simp; done) | (simp; omega) | (simp [z00]; done) | (simp [z00]; omega) | omega⟩
theorem z96 (al ah : Int) (k : Int) (h0 : 0 ≤ k) (h1 : k < 64) : (∀ (hk : k = 0) (w : World), Calls Tryz.prog 88 #[vI vK 11, .agg #[vI vK al, vI vK ah], vI vK k] w fun e w' => e = .returned (.agg #[vI vK (z0i 11 al k), vI vK (z0i 11 ah k)]) ∧ Below w.heap.size w w') ∧ (∀ (hk : 0 < k) (ha : 0 ≤ al) (w : World), Calls Tryz.prog 88 #[vI vK 11, .agg #[vI vK al, vI vK ah], vI vK k] w fun e w' => e = .returned (.agg #[vI vK (z0i 11 al k), vI vK (z0i 11 ah k)]) ∧ Below w.heap.size w w') ∧ (∀ (w : World), Calls Tryz.prog 88 #[vI vK 12, .agg #[vI vK al, vI vK ah], vI vK k] w fun e w' => e = .returned (.agg #[vI vK (z0i 12 al k), vI vK (z0i 12 ah k)]) ∧ Below w.heap.size w w') := by
 refine ⟨?_, ?_, ?_⟩
 intro hk w
 have _hk : decide (0 < k) = false := by simp; omega
 clear hk
 rotate_left
 intro hk ha w
 have _ha : decide (al < 0) = false := by simp; omega
 rotate_left
 intro w
 rotate_left
 all_goals
  go_enter Tryz.func88, Tryz.ntmps88
  go_wp2_with fail
  go_region_held3 (fun w' => w'.cell? ⟨w.heap.size, 0, none⟩ = some (vI vK al) ∧ w'.cell? ⟨w.heap.size, 1, none⟩ = some (vI vK ah)) (first | (simp [go_sem]; done) | (simp [go_sem, *]; done) | go_keep) (first | (go_at_call 96; refine (z2y _ _ _ ?_ ?_ _).mono ?_; omega; omega; rintro e w' ⟨rfl, rfl⟩))
  all_goals go_wp2_with (first | (go_at_call 96; refine (z2y _ _ _ ?_ ?_ _).mono ?_; omega; omega; rintro e w' ⟨rfl, rfl⟩))
  all_goals exact bodyPost_ret (by simp [results, Tryz.results88, go_sem]) rfl ⟨rfl, by repeat' first | exact bF _ _ | refine bA ?_ ?_ _ | refine bS ?_ ?_ _ | refine bD ?_ | (simp; done) | (simp; omega) | (simp [z00]; done) | (simp [z00]; omega) | omega⟩
def zDt := fun al ah k h0 h1 => (@z96 al ah k h0 h1).1
def zDu := fun al ah k h0 h1 => (@z96 al ah k h0 h1).2.1
def zHh := fun al ah k h0 h1 => (@z96 al ah k h0 h1).2.2
theorem zQt (x0 x1 x2 x3 : Int) (w : World) : (Instr.index 167 (.agg #[vI vK x0, vI vK x1, vI vK x2, vI vK x3]) (vI vK 0)).run Tryz.prog w = .ok (vI vK x0) w := by kernel_rfl
theorem zQs (x0 x1 x2 x3 : Int) (w : World) : (Instr.index 167 (.agg #[vI vK x0, vI vK x1, vI vK x2, vI vK x3]) (vI vK 1)).run Tryz.prog w = .ok (vI vK x1) w := by kernel_rfl
theorem zQr (x0 x1 x2 x3 : Int) (w : World) : (Instr.index 167 (.agg #[vI vK x0, vI vK x1, vI vK x2, vI vK x3]) (vI vK 2)).run Tryz.prog w = .ok (vI vK x2) w := by kernel_rfl
theorem zQq (x0 x1 x2 x3 : Int) (w : World) : (Instr.index 167 (.agg #[vI vK x0, vI vK x1, vI vK x2, vI vK x3]) (vI vK 3)).run Tryz.prog w = .ok (vI vK x3) w := by kernel_rfl
theorem idx3_0 (x0 x1 x2 : Int) (w : World) : (Instr.index 168 (.agg #[vI vK x0, vI vK x1, vI vK x2]) (vI vK 0)).run Tryz.prog w = .ok (vI vK x0) w := by kernel_rfl
theorem idx3_1 (x0 x1 x2 : Int) (w : World) : (Instr.index 168 (.agg #[vI vK x0, vI vK x1, vI vK x2]) (vI vK 1)).run Tryz.prog w = .ok (vI vK x1) w := by kernel_rfl
theorem idx3_2 (x0 x1 x2 : Int) (w : World) : (Instr.index 168 (.agg #[vI vK x0, vI vK x1, vI vK x2]) (vI vK 2)).run Tryz.prog w = .ok (vI vK x2) w := by kernel_rfl
def Firsts (p q r s : Int) (k : Nat) (lo hi : Int) : Prop :=
 (k = 0 ∧ lo = p ∧ hi = p) ∨ (k = 1 ∧ lo = min p q ∧ hi = max p q) ∨ (k = 2 ∧ lo = min (min p q) r ∧ hi = max (max p q) r) ∨ (k = 3 ∧ lo = min (min (min p q) r) s ∧ hi = max (max (max p q) r) s)
def z0c (m r : Nat) (lo hi : Int) (w : World) : Prop :=
 (m < w.heap.size ∧ w.cell? ⟨m, 0, none⟩ = some (vI vK lo) ∧ w.cell? ⟨m, 1, none⟩ = some (vI vK hi) ∧ w.frozen? ⟨m, 0, none⟩ = false ∧ w.frozen? ⟨m, 1, none⟩ = false)
 ∧ (r < w.heap.size ∧ w.cell? ⟨r, 0, none⟩ = some (vI vK 0) ∧ w.cell? ⟨r, 1, none⟩ = some (vI vK 0) ∧ w.frozen? ⟨r, 0, none⟩ = false ∧ w.frozen? ⟨r, 1, none⟩ = false)
theorem z0c.later {m r : Nat} {lo hi : Int} {W w1 : World} (h : z0c m r lo hi W) (hb : Below W.heap.size W w1) : z0c m r lo hi w1 := by
 obtain ⟨⟨h0, a0, a1, a2, a3⟩, h1, b0, b1, b2, b3⟩ := h
 have hs := hb.size
 exact ⟨⟨by omega, (hb.cell (p := ⟨m, 0, none⟩) h0).trans a0, (hb.cell (p := ⟨m, 1, none⟩) h0).trans a1, (hb.frozen (p := ⟨m, 0, none⟩) h0).trans a2, (hb.frozen (p := ⟨m, 1, none⟩) h0).trans a3⟩,
  by omega, (hb.cell (p := ⟨r, 0, none⟩) h1).trans b0, (hb.cell (p := ⟨r, 1, none⟩) h1).trans b1, (hb.frozen (p := ⟨r, 0, none⟩) h1).trans b2, (hb.frozen (p := ⟨r, 1, none⟩) h1).trans b3⟩
theorem z0c.drew {m r : Nat} {lo hi : Int} {W : World} (h : z0c m r lo hi W) : z0c m r lo hi W.drew := h
theorem z0c.put {m r : Nat} {lo hi x y : Int} {W : World} (h : z0c m r lo hi W) (hmr : m ≠ r) : z0c m r x y ((W.setCell ⟨m, 0, none⟩ (vI vK x)).setCell ⟨m, 1, none⟩ (vI vK y)) := by
 obtain ⟨⟨h0, a0, a1, a2, a3⟩, h1, b0, b1, b2, b3⟩ := h
 refine ⟨⟨by simp [World.setCell]; exact h0, ?_, ?_, ?_, ?_⟩, by simp [World.setCell]; exact h1, ?_, ?_, ?_, ?_⟩ <;> simp [go_sem, *]

theorem zEe (al ah bl bh : Int) (ha : -2147483648 ≤ al) (ha2 : al ≤ 2147483648) (hb : -2147483648 ≤ ah) (hb2 : ah ≤ 2147483648) (hc : -2147483648 ≤ bl) (hc2 : bl ≤ 2147483648) (hd : -2147483648 ≤ bh) (hd2 : bh ≤ 2147483648) (w : World) : Calls Tryz.prog 83 #[.agg #[vI vK al, vI vK ah], .agg #[vI vK bl, vI vK bh]] w fun e w' => e = .returned (.agg #[vI vK (min (min (min (wrap64 (al * bl)) (wrap64 (al * bh))) (wrap64 (ah * bl))) (wrap64 (ah * bh))), vI vK (max (max (max (wrap64 (al * bl)) (wrap64 (al * bh))) (wrap64 (ah * bl))) (wrap64 (ah * bh)))]) ∧ Below w.heap.size w w' := by
 have i40 := zQt al ah bl bh
 have i41 := zQs al ah bl bh
 have i42 := zQr al ah bl bh
 have i43 := zQq al ah bl bh
 have i30 := idx3_0 (wrap64 (al * bh)) (wrap64 (ah * bl)) (wrap64 (ah * bh))
 have i31 := idx3_1 (wrap64 (al * bh)) (wrap64 (ah * bl)) (wrap64 (ah * bh))
 have i32 := idx3_2 (wrap64 (al * bh)) (wrap64 (ah * bl)) (wrap64 (ah * bh))
 go_enter Tryz.func83, Tryz.ntmps83
 go_wp2_with (first | (go_at_call 39; refine (z2c _ _).mono ?_; rintro e w' ⟨rfl, rfl⟩) | go_in)
 refine wp_loop_rounds 5 ?_
 repeat any_goals (rw [rounds_succ]; go_wp2_with (first | (go_at_call 39; refine (z2c _ _).mono ?_; rintro e w' ⟨rfl, rfl⟩) | go_in))
 go_loopw [52] (fun ix wr => ∃ (k : Nat) (lo hi : Int), Firsts (wrap64 (al * bl)) (wrap64 (al * bh)) (wrap64 (ah * bl)) (wrap64 (ah * bh)) k lo hi ∧ ix = vI vK k ∧ Below w.heap.size w wr ∧ z0c (w.heap.size + 1 + 1 + 1 + 1 + 1 + 1 + 1 + 1 + 1) (w.heap.size + 1 + 1) lo hi wr) (fun ix _ => 3 - (intOf ix).toNat)
 case atStart => exact ⟨0, _, _, Or.inl ⟨rfl, rfl, rfl⟩, rfl, by repeat' first | exact bF _ _ | refine bA ?_ ?_ _ | refine bS ?_ ?_ _ | refine bD ?_ | (simp; done) | (simp; omega) | (simp [z00]; done) | (simp [z00]; omega) | omega, ⟨by (simp; try omega), by simp [go_sem], by simp [go_sem], by simp [go_sem], by simp [go_sem]⟩, by (simp; try omega), by simp [go_sem], by simp [go_sem], by simp [go_sem], by simp [go_sem]⟩
 case round =>
  obtain ⟨k, lo, hi, hk, rfl, hbw, hX⟩ := hrel
  have hmr : w.heap.size + 1 + 1 + 1 + 1 + 1 + 1 + 1 + 1 + 1 ≠ w.heap.size + 1 + 1 := by omega
  have hw1 : w.heap.size ≤ w.heap.size + 1 + 1 + 1 + 1 + 1 + 1 + 1 + 1 + 1 := by omega
  have hw2 : w.heap.size ≤ w.heap.size + 1 + 1 := by omega
  generalize w.heap.size + 1 + 1 + 1 + 1 + 1 + 1 + 1 + 1 + 1 = m at *
  generalize w.heap.size + 1 + 1 = r at *
  obtain ⟨⟨m0, c0, c1, f0, f1⟩, n0, r0, r1, z0, z1⟩ := hX
  have hX : z0c m r lo hi wr := ⟨⟨m0, c0, c1, f0, f1⟩, n0, r0, r1, z0, z1⟩
  have hsz := hbw.size
  have hsz : w.heap.size ≤ wr.heap.size := hbw.size
  rcases hk with ⟨rfl, hlo, hhi⟩ | ⟨rfl, hlo, hhi⟩ | ⟨rfl, hlo, hhi⟩ | ⟨rfl, rfl, rfl⟩
  ·have Hlo : Hid (_ = _) := hlo
   have Hhi : Hid (_ = _) := hhi
   clear hlo hhi
   go_wp2_with (first | (go_at_call 39; go_must (refine (z2t _ _).mono ?_; rintro e w1 ⟨rfl, hb1⟩; have hbw1 : Below w.heap.size w w1 := (by ((refine Below.trans ?_ (hb1.mono ?_)) <;> (first | exact hbw | exact hbw.drew | exact hbw1 | exact hbw1.drew | exact hsz | exact hsz1))); have hX1 : z0c m r lo hi w1 := z0c.later (by first | exact hX.drew | exact hX) hb1; have hsz1 : w.heap.size ≤ w1.heap.size := hbw1.size; obtain ⟨⟨m1, c01, c11, f01, f11⟩, n1, r01, r11, z01, z11⟩ := hX1; have hX1 : z0c m r lo hi w1 := ⟨⟨m1, c01, c11, f01, f11⟩, n1, r01, r11, z01, z11⟩)) | (go_at_call 27; go_must (refine (z3a _ _ _ _ _).mono ?_; rintro e w2 ⟨rfl, hb2⟩; have hbw2 : Below w.heap.size w w2 := (by ((refine Below.trans ?_ (hb2.mono ?_)) <;> (first | exact hbw | exact hbw.drew | exact hbw1 | exact hbw1.drew | exact hsz | exact hsz1))); have hX2 : z0c m r lo hi w2 := z0c.later (by first | exact hX1 | exact hX1.drew) hb2; have hsz2 : w.heap.size ≤ w2.heap.size := hbw2.size; obtain ⟨⟨m2, c02, c12, f02, f12⟩, n2, r02, r12, z02, z12⟩ := hX2; have hX2 : z0c m r lo hi w2 := ⟨⟨m2, c02, c12, f02, f12⟩, n2, r02, r12, z02, z12⟩)))
   go_region_with (first | (go_at_call 39; go_must (refine (z2t _ _).mono ?_; rintro e w1 ⟨rfl, hb1⟩; have hbw1 : Below w.heap.size w w1 := (by ((refine Below.trans ?_ (hb1.mono ?_)) <;> (first | exact hbw | exact hbw.drew | exact hbw1 | exact hbw1.drew | exact hsz | exact hsz1))); have hX1 : z0c m r lo hi w1 := z0c.later (by first | exact hX.drew | exact hX) hb1; have hsz1 : w.heap.size ≤ w1.heap.size := hbw1.size; obtain ⟨⟨m1, c01, c11, f01, f11⟩, n1, r01, r11, z01, z11⟩ := hX1; have hX1 : z0c m r lo hi w1 := ⟨⟨m1, c01, c11, f01, f11⟩, n1, r01, r11, z01, z11⟩)) | (go_at_call 27; go_must (refine (z3a _ _ _ _ _).mono ?_; rintro e w2 ⟨rfl, hb2⟩; have hbw2 : Below w.heap.size w w2 := (by ((refine Below.trans ?_ (hb2.mono ?_)) <;> (first | exact hbw | exact hbw.drew | exact hbw1 | exact hbw1.drew | exact hsz | exact hsz1))); have hX2 : z0c m r lo hi w2 := z0c.later (by first | exact hX1 | exact hX1.drew) hb2; have hsz2 : w.heap.size ≤ w2.heap.size := hbw2.size; obtain ⟨⟨m2, c02, c12, f02, f12⟩, n2, r02, r12, z02, z12⟩ := hX2; have hX2 : z0c m r lo hi w2 := ⟨⟨m2, c02, c12, f02, f12⟩, n2, r02, r12, z02, z12⟩)))
   all_goals go_wp2_with (first | (go_at_call 39; go_must (refine (z2t _ _).mono ?_; rintro e w1 ⟨rfl, hb1⟩; have hbw1 : Below w.heap.size w w1 := (by ((refine Below.trans ?_ (hb1.mono ?_)) <;> (first | exact hbw | exact hbw.drew | exact hbw1 | exact hbw1.drew | exact hsz | exact hsz1))); have hX1 : z0c m r lo hi w1 := z0c.later (by first | exact hX.drew | exact hX) hb1; have hsz1 : w.heap.size ≤ w1.heap.size := hbw1.size; obtain ⟨⟨m1, c01, c11, f01, f11⟩, n1, r01, r11, z01, z11⟩ := hX1; have hX1 : z0c m r lo hi w1 := ⟨⟨m1, c01, c11, f01, f11⟩, n1, r01, r11, z01, z11⟩)) | (go_at_call 27; go_must (refine (z3a _ _ _ _ _).mono ?_; rintro e w2 ⟨rfl, hb2⟩; have hbw2 : Below w.heap.size w w2 := (by ((refine Below.trans ?_ (hb2.mono ?_)) <;> (first | exact hbw | exact hbw.drew | exact hbw1 | exact hbw1.drew | exact hsz | exact hsz1))); have hX2 : z0c m r lo hi w2 := z0c.later (by first | exact hX1 | exact hX1.drew) hb2; have hsz2 : w.heap.size ≤ w2.heap.size := hbw2.size; obtain ⟨⟨m2, c02, c12, f02, f12⟩, n2, r02, r12, z02, z12⟩ := hX2; have hX2 : z0c m r lo hi w2 := ⟨⟨m2, c02, c12, f02, f12⟩, n2, r02, r12, z02, z12⟩)))
   all_goals exact ⟨⟨1, _, _, Or.inr (Or.inl ⟨rfl, by rw [Hlo.out], by rw [Hhi.out]⟩), rfl, (hbw2.setCell hw1 _).setCell hw1 _, hX2.put hmr⟩, by simp [intOf]⟩
  ·have Hlo : Hid (_ = _) := hlo
   have Hhi : Hid (_ = _) := hhi
   clear hlo hhi
   go_wp2_with (first | (go_at_call 39; go_must (refine (z2t _ _).mono ?_; rintro e w1 ⟨rfl, hb1⟩; have hbw1 : Below w.heap.size w w1 := (by ((refine Below.trans ?_ (hb1.mono ?_)) <;> (first | exact hbw | exact hbw.drew | exact hbw1 | exact hbw1.drew | exact hsz | exact hsz1))); have hX1 : z0c m r lo hi w1 := z0c.later (by first | exact hX.drew | exact hX) hb1; have hsz1 : w.heap.size ≤ w1.heap.size := hbw1.size; obtain ⟨⟨m1, c01, c11, f01, f11⟩, n1, r01, r11, z01, z11⟩ := hX1; have hX1 : z0c m r lo hi w1 := ⟨⟨m1, c01, c11, f01, f11⟩, n1, r01, r11, z01, z11⟩)) | (go_at_call 27; go_must (refine (z3a _ _ _ _ _).mono ?_; rintro e w2 ⟨rfl, hb2⟩; have hbw2 : Below w.heap.size w w2 := (by ((refine Below.trans ?_ (hb2.mono ?_)) <;> (first | exact hbw | exact hbw.drew | exact hbw1 | exact hbw1.drew | exact hsz | exact hsz1))); have hX2 : z0c m r lo hi w2 := z0c.later (by first | exact hX1 | exact hX1.drew) hb2; have hsz2 : w.heap.size ≤ w2.heap.size := hbw2.size; obtain ⟨⟨m2, c02, c12, f02, f12⟩, n2, r02, r12, z02, z12⟩ := hX2; have hX2 : z0c m r lo hi w2 := ⟨⟨m2, c02, c12, f02, f12⟩, n2, r02, r12, z02, z12⟩)))
   go_region_with (first | (go_at_call 39; go_must (refine (z2t _ _).mono ?_; rintro e w1 ⟨rfl, hb1⟩; have hbw1 : Below w.heap.size w w1 := (by ((refine Below.trans ?_ (hb1.mono ?_)) <;> (first | exact hbw | exact hbw.drew | exact hbw1 | exact hbw1.drew | exact hsz | exact hsz1))); have hX1 : z0c m r lo hi w1 := z0c.later (by first | exact hX.drew | exact hX) hb1; have hsz1 : w.heap.size ≤ w1.heap.size := hbw1.size; obtain ⟨⟨m1, c01, c11, f01, f11⟩, n1, r01, r11, z01, z11⟩ := hX1; have hX1 : z0c m r lo hi w1 := ⟨⟨m1, c01, c11, f01, f11⟩, n1, r01, r11, z01, z11⟩)) | (go_at_call 27; go_must (refine (z3a _ _ _ _ _).mono ?_; rintro e w2 ⟨rfl, hb2⟩; have hbw2 : Below w.heap.size w w2 := (by ((refine Below.trans ?_ (hb2.mono ?_)) <;> (first | exact hbw | exact hbw.drew | exact hbw1 | exact hbw1.drew | exact hsz | exact hsz1))); have hX2 : z0c m r lo hi w2 := z0c.later (by first | exact hX1 | exact hX1.drew) hb2; have hsz2 : w.heap.size ≤ w2.heap.size := hbw2.size; obtain ⟨⟨m2, c02, c12, f02, f12⟩, n2, r02, r12, z02, z12⟩ := hX2; have hX2 : z0c m r lo hi w2 := ⟨⟨m2, c02, c12, f02, f12⟩, n2, r02, r12, z02, z12⟩)))
   all_goals go_wp2_with (first | (go_at_call 39; go_must (refine (z2t _ _).mono ?_; rintro e w1 ⟨rfl, hb1⟩; have hbw1 : Below w.heap.size w w1 := (by ((refine Below.trans ?_ (hb1.mono ?_)) <;> (first | exact hbw | exact hbw.drew | exact hbw1 | exact hbw1.drew | exact hsz | exact hsz1))); have hX1 : z0c m r lo hi w1 := z0c.later (by first | exact hX.drew | exact hX) hb1; have hsz1 : w.heap.size ≤ w1.heap.size := hbw1.size; obtain ⟨⟨m1, c01, c11, f01, f11⟩, n1, r01, r11, z01, z11⟩ := hX1; have hX1 : z0c m r lo hi w1 := ⟨⟨m1, c01, c11, f01, f11⟩, n1, r01, r11, z01, z11⟩)) | (go_at_call 27; go_must (refine (z3a _ _ _ _ _).mono ?_; rintro e w2 ⟨rfl, hb2⟩; have hbw2 : Below w.heap.size w w2 := (by ((refine Below.trans ?_ (hb2.mono ?_)) <;> (first | exact hbw | exact hbw.drew | exact hbw1 | exact hbw1.drew | exact hsz | exact hsz1))); have hX2 : z0c m r lo hi w2 := z0c.later (by first | exact hX1 | exact hX1.drew) hb2; have hsz2 : w.heap.size ≤ w2.heap.size := hbw2.size; obtain ⟨⟨m2, c02, c12, f02, f12⟩, n2, r02, r12, z02, z12⟩ := hX2; have hX2 : z0c m r lo hi w2 := ⟨⟨m2, c02, c12, f02, f12⟩, n2, r02, r12, z02, z12⟩)))
   all_goals exact ⟨⟨2, _, _, Or.inr (Or.inr (Or.inl ⟨rfl, by rw [Hlo.out], by rw [Hhi.out]⟩)), rfl, (hbw2.setCell hw1 _).setCell hw1 _, hX2.put hmr⟩, by simp [intOf]⟩
  ·have Hlo : Hid (_ = _) := hlo
   have Hhi : Hid (_ = _) := hhi
   clear hlo hhi
   go_wp2_with (first | (go_at_call 39; go_must (refine (z2t _ _).mono ?_; rintro e w1 ⟨rfl, hb1⟩; have hbw1 : Below w.heap.size w w1 := (by ((refine Below.trans ?_ (hb1.mono ?_)) <;> (first | exact hbw | exact hbw.drew | exact hbw1 | exact hbw1.drew | exact hsz | exact hsz1))); have hX1 : z0c m r lo hi w1 := z0c.later (by first | exact hX.drew | exact hX) hb1; have hsz1 : w.heap.size ≤ w1.heap.size := hbw1.size; obtain ⟨⟨m1, c01, c11, f01, f11⟩, n1, r01, r11, z01, z11⟩ := hX1; have hX1 : z0c m r lo hi w1 := ⟨⟨m1, c01, c11, f01, f11⟩, n1, r01, r11, z01, z11⟩)) | (go_at_call 27; go_must (refine (z3a _ _ _ _ _).mono ?_; rintro e w2 ⟨rfl, hb2⟩; have hbw2 : Below w.heap.size w w2 := (by ((refine Below.trans ?_ (hb2.mono ?_)) <;> (first | exact hbw | exact hbw.drew | exact hbw1 | exact hbw1.drew | exact hsz | exact hsz1))); have hX2 : z0c m r lo hi w2 := z0c.later (by first | exact hX1 | exact hX1.drew) hb2; have hsz2 : w.heap.size ≤ w2.heap.size := hbw2.size; obtain ⟨⟨m2, c02, c12, f02, f12⟩, n2, r02, r12, z02, z12⟩ := hX2; have hX2 : z0c m r lo hi w2 := ⟨⟨m2, c02, c12, f02, f12⟩, n2, r02, r12, z02, z12⟩)))
   go_region_with (first | (go_at_call 39; go_must (refine (z2t _ _).mono ?_; rintro e w1 ⟨rfl, hb1⟩; have hbw1 : Below w.heap.size w w1 := (by ((refine Below.trans ?_ (hb1.mono ?_)) <;> (first | exact hbw | exact hbw.drew | exact hbw1 | exact hbw1.drew | exact hsz | exact hsz1))); have hX1 : z0c m r lo hi w1 := z0c.later (by first | exact hX.drew | exact hX) hb1; have hsz1 : w.heap.size ≤ w1.heap.size := hbw1.size; obtain ⟨⟨m1, c01, c11, f01, f11⟩, n1, r01, r11, z01, z11⟩ := hX1; have hX1 : z0c m r lo hi w1 := ⟨⟨m1, c01, c11, f01, f11⟩, n1, r01, r11, z01, z11⟩)) | (go_at_call 27; go_must (refine (z3a _ _ _ _ _).mono ?_; rintro e w2 ⟨rfl, hb2⟩; have hbw2 : Below w.heap.size w w2 := (by ((refine Below.trans ?_ (hb2.mono ?_)) <;> (first | exact hbw | exact hbw.drew | exact hbw1 | exact hbw1.drew | exact hsz | exact hsz1))); have hX2 : z0c m r lo hi w2 := z0c.later (by first | exact hX1 | exact hX1.drew) hb2; have hsz2 : w.heap.size ≤ w2.heap.size := hbw2.size; obtain ⟨⟨m2, c02, c12, f02, f12⟩, n2, r02, r12, z02, z12⟩ := hX2; have hX2 : z0c m r lo hi w2 := ⟨⟨m2, c02, c12, f02, f12⟩, n2, r02, r12, z02, z12⟩)))
   all_goals go_wp2_with (first | (go_at_call 39; go_must (refine (z2t _ _).mono ?_; rintro e w1 ⟨rfl, hb1⟩; have hbw1 : Below w.heap.size w w1 := (by ((refine Below.trans ?_ (hb1.mono ?_)) <;> (first | exact hbw | exact hbw.drew | exact hbw1 | exact hbw1.drew | exact hsz | exact hsz1))); have hX1 : z0c m r lo hi w1 := z0c.later (by first | exact hX.drew | exact hX) hb1; have hsz1 : w.heap.size ≤ w1.heap.size := hbw1.size; obtain ⟨⟨m1, c01, c11, f01, f11⟩, n1, r01, r11, z01, z11⟩ := hX1; have hX1 : z0c m r lo hi w1 := ⟨⟨m1, c01, c11, f01, f11⟩, n1, r01, r11, z01, z11⟩)) | (go_at_call 27; go_must (refine (z3a _ _ _ _ _).mono ?_; rintro e w2 ⟨rfl, hb2⟩; have hbw2 : Below w.heap.size w w2 := (by ((refine Below.trans ?_ (hb2.mono ?_)) <;> (first | exact hbw | exact hbw.drew | exact hbw1 | exact hbw1.drew | exact hsz | exact hsz1))); have hX2 : z0c m r lo hi w2 := z0c.later (by first | exact hX1 | exact hX1.drew) hb2; have hsz2 : w.heap.size ≤ w2.heap.size := hbw2.size; obtain ⟨⟨m2, c02, c12, f02, f12⟩, n2, r02, r12, z02, z12⟩ := hX2; have hX2 : z0c m r lo hi w2 := ⟨⟨m2, c02, c12, f02, f12⟩, n2, r02, r12, z02, z12⟩)))
   all_goals exact ⟨⟨3, _, _, Or.inr (Or.inr (Or.inr ⟨rfl, by rw [Hlo.out], by rw [Hhi.out]⟩)), rfl, (hbw2.setCell hw1 _).setCell hw1 _, hX2.put hmr⟩, by simp [intOf]⟩
  ·go_wp2_with (first | (go_at_call 39; go_must (refine (z2t _ _).mono ?_; rintro e w1 ⟨rfl, hb1⟩; have hbw1 : Below w.heap.size w w1 := (by ((refine Below.trans ?_ (hb1.mono ?_)) <;> (first | exact hbw | exact hbw.drew | exact hbw1 | exact hbw1.drew | exact hsz | exact hsz1))); have hX1 : z0c m r lo hi w1 := z0c.later (by first | exact hX.drew | exact hX) hb1; have hsz1 : w.heap.size ≤ w1.heap.size := hbw1.size; obtain ⟨⟨m1, c01, c11, f01, f11⟩, n1, r01, r11, z01, z11⟩ := hX1; have hX1 : z0c m r lo hi w1 := ⟨⟨m1, c01, c11, f01, f11⟩, n1, r01, r11, z01, z11⟩)) | (go_at_call 27; go_must (refine (z3a _ _ _ _ _).mono ?_; rintro e w2 ⟨rfl, hb2⟩; have hbw2 : Below w.heap.size w w2 := (by ((refine Below.trans ?_ (hb2.mono ?_)) <;> (first | exact hbw | exact hbw.drew | exact hbw1 | exact hbw1.drew | exact hsz | exact hsz1))); have hX2 : z0c m r lo hi w2 := z0c.later (by first | exact hX1 | exact hX1.drew) hb2; have hsz2 : w.heap.size ≤ w2.heap.size := hbw2.size; obtain ⟨⟨m2, c02, c12, f02, f12⟩, n2, r02, r12, z02, z12⟩ := hX2; have hX2 : z0c m r lo hi w2 := ⟨⟨m2, c02, c12, f02, f12⟩, n2, r02, r12, z02, z12⟩)))
   exact bodyPost_ret (v := .agg #[vI vK (min (min (min (wrap64 (al * bl)) (wrap64 (al * bh))) (wrap64 (ah * bl))) (wrap64 (ah * bh))), vI vK (max (max (max (wrap64 (al * bl)) (wrap64 (al * bh))) (wrap64 (ah * bl))) (wrap64 (ah * bh)))]) (by simp [results, Tryz.results83, go_sem, r0, r1]) rfl ⟨rfl, (hbw.setCell hw2 _).setCell hw2 _⟩
theorem zCx (n : Int) (w : World) : Calls Tryz.prog 94 #[.agg #[vI vK (-2147483648), vI vK 2147483648], vI vK n] w fun e w' => e = .returned (.bool (z1y n)) ∧ w' = w.alloc (.cells #[vI vK (-2147483648), vI vK 2147483648] 30) := by
 unfold z1y
 by_cases h1 : -2147483648 ≤ n
 ·go_enter Tryz.func94, Tryz.ntmps94
  go_wp2
  go_ret
  exact ⟨z6n (by simp [h1]), rfl⟩
 ·have h2 : decide (-2147483648 ≤ n) = false := by simpa using h1
  rw [h2, Bool.false_and]
  go_enter Tryz.func94, Tryz.ntmps94
  go_wp2
  go_ret
  exact ⟨rfl, rfl⟩
theorem z72 (al ah bl bh : Int) : (∀ (h0 : z1y al = false) (w : World), Calls Tryz.prog 83 #[.agg #[vI vK al, vI vK ah], .agg #[vI vK bl, vI vK bh]] w fun e w' => e = .returned (.agg #[vI vK (-9223372036854775808), vI vK 9223372036854775807]) ∧ Below w.heap.size w w') ∧ (∀ (h0 : z1y al = true) (h1 : z1y ah = false) (w : World), Calls Tryz.prog 83 #[.agg #[vI vK al, vI vK ah], .agg #[vI vK bl, vI vK bh]] w fun e w' => e = .returned (.agg #[vI vK (-9223372036854775808), vI vK 9223372036854775807]) ∧ Below w.heap.size w w') ∧ (∀ (h0 : z1y al = true) (h1 : z1y ah = true) (h2 : z1y bl = false) (w : World), Calls Tryz.prog 83 #[.agg #[vI vK al, vI vK ah], .agg #[vI vK bl, vI vK bh]] w fun e w' => e = .returned (.agg #[vI vK (-9223372036854775808), vI vK 9223372036854775807]) ∧ Below w.heap.size w w') ∧ (∀ (h0 : z1y al = true) (h1 : z1y ah = true) (h2 : z1y bl = true) (h3 : z1y bh = false) (w : World), Calls Tryz.prog 83 #[.agg #[vI vK al, vI vK ah], .agg #[vI vK bl, vI vK bh]] w fun e w' => e = .returned (.agg #[vI vK (-9223372036854775808), vI vK 9223372036854775807]) ∧ Below w.heap.size w w') := by
 refine ⟨?_, ?_, ?_, ?_⟩
 intro h0 w
 rotate_left
 intro h0 h1 w
 rotate_left
 intro h0 h1 h2 w
 rotate_left
 intro h0 h1 h2 h3 w
 rotate_left
 all_goals
  have i40 := zQt al ah bl bh
  have i41 := zQs al ah bl bh
  have i42 := zQr al ah bl bh
  have i43 := zQq al ah bl bh
 all_goals
  go_enter Tryz.func83, Tryz.ntmps83
  go_wp2_with (first | (go_at_call 94; refine (zCx _ _).mono ?_; rintro e w' ⟨rfl, rfl⟩) | (go_at_call 63; refine (z2v _).mono ?_; rintro e w1 ⟨rfl, hb1⟩; obtain ⟨hcl1, hfr1⟩ := z09 hb1; have hs1 := hb1.size; (try simp only [z00] at hs1); (try simp at hs1); have hbw1 : Below w.heap.size w w1 := by ((refine Below.trans ?_ (hb1.mono ?_)) <;> repeat' first | exact bF _ _ | refine bA ?_ ?_ _ | refine bS ?_ ?_ _ | refine bD ?_ | (simp; done) | (simp; omega) | (simp [z00]; done) | (simp [z00]; omega) | omega)))
  refine wp_loop_rounds 5 ?_
  repeat any_goals (rw [rounds_succ]; go_wp2_with (first | (go_at_call 94; refine (zCx _ _).mono ?_; rintro e w' ⟨rfl, rfl⟩) | (go_at_call 63; refine (z2v _).mono ?_; rintro e w1 ⟨rfl, hb1⟩; obtain ⟨hcl1, hfr1⟩ := z09 hb1; have hs1 := hb1.size; (try simp only [z00] at hs1); (try simp at hs1); have hbw1 : Below w.heap.size w w1 := by ((refine Below.trans ?_ (hb1.mono ?_)) <;> repeat' first | exact bF _ _ | refine bA ?_ ?_ _ | refine bS ?_ ?_ _ | refine bD ?_ | (simp; done) | (simp; omega) | (simp [z00]; done) | (simp [z00]; omega) | omega))))
  all_goals exact bodyPost_ret (v := .agg #[vI vK (-9223372036854775808), vI vK 9223372036854775807]) (by simp [results, Tryz.results83, go_sem, hcl1]) rfl ⟨rfl, by repeat' first | exact bF _ _ | exact hbw1 | refine bA ?_ ?_ _ | refine bS ?_ ?_ _ | refine bD ?_ | (simp; done) | (simp; omega) | (simp [z00]; done) | (simp [z00]; omega) | omega⟩
def zEi := fun al ah bl bh => (@z72 al ah bl bh).1
def zEh := fun al ah bl bh => (@z72 al ah bl bh).2.1
def zEg := fun al ah bl bh => (@z72 al ah bl bh).2.2.1
def zEf := fun al ah bl bh => (@z72 al ah bl bh).2.2.2
theorem zHx (al ah bl bh : Int) (w : World) : Calls Tryz.prog 83 #[.agg #[vI vK al, vI vK ah], .agg #[vI vK bl, vI vK bh]] w fun e w' => e = .returned (.agg #[vI vK ((bdV 4 al ah bl bh).1), vI vK ((bdV 4 al ah bl bh).2)]) ∧ Below w.heap.size w w' := by
 rw [zQ8]
 cases h0 : z1y al
 ·exact zEi al ah bl bh h0 w
 cases h1 : z1y ah
 ·exact zEh al ah bl bh h0 h1 w
 cases h2 : z1y bl
 ·exact zEg al ah bl bh h0 h1 h2 w
 cases h3 : z1y bh
 ·exact zEf al ah bl bh h0 h1 h2 h3 w
 have k0 := (z2k _).1 h0
 have k1 := (z2k _).1 h1
 have k2 := (z2k _).1 h2
 have k3 := (z2k _).1 h3
 have e := zEe al ah bl bh k0.1 k0.2 k1.1 k1.2 k2.1 k2.2 k3.1 k3.2 w
 rw [z2j h0 h2, z2j h0 h3, z2j h1 h2, z2j h1 h3] at e
 exact e
theorem bdo_1 (al ah bl bh : Int) (w : World) : Calls Tryz.prog 73 #[vI vK 1, .agg #[vI vK al, vI vK ah], .agg #[vI vK bl, vI vK bh]] w fun e w' => e = .returned (.agg #[vI vK bl, vI vK bh]) ∧ Below w.heap.size w w' := by
 go_enter Tryz.func73, Tryz.ntmps73
 go_wp2_with fail
 all_goals exact bodyPost_ret (v := .agg #[vI vK bl, vI vK bh]) (by simp [results, Tryz.results73, go_sem]) rfl ⟨rfl, by repeat' first | exact bF _ _ | refine bA ?_ ?_ _ | refine bS ?_ ?_ _ | refine bD ?_ | (simp; done) | (simp; omega) | (simp [z00]; done) | (simp [z00]; omega) | omega⟩
theorem z7l (al ah bl bh : Int) (pal : -9223372036854775808 ≤ al) (qal : al ≤ 9223372036854775807) (pah : -9223372036854775808 ≤ ah) (qah : ah ≤ 9223372036854775807) : (∀ (pbl : -9223372036854775808 ≤ bl) (qbl : bl ≤ 9223372036854775807) (pbh : -9223372036854775808 ≤ bh) (qbh : bh ≤ 9223372036854775807) (w : World), Calls Tryz.prog 73 #[vI vK 2, .agg #[vI vK al, vI vK ah], .agg #[vI vK bl, vI vK bh]] w fun e w' => e = .returned (.agg #[vI vK ((fit2 (al + bl) (ah + bh)).1), vI vK ((fit2 (al + bl) (ah + bh)).2)]) ∧ Below w.heap.size w w') ∧ (∀ (pbl : -9223372036854775808 ≤ bl) (qbl : bl ≤ 9223372036854775807) (pbh : -9223372036854775808 ≤ bh) (qbh : bh ≤ 9223372036854775807) (w : World), Calls Tryz.prog 73 #[vI vK 3, .agg #[vI vK al, vI vK ah], .agg #[vI vK bl, vI vK bh]] w fun e w' => e = .returned (.agg #[vI vK ((fit2 (al - bh) (ah - bl)).1), vI vK ((fit2 (al - bh) (ah - bl)).2)]) ∧ Below w.heap.size w w') ∧ (∀ (w : World), Calls Tryz.prog 73 #[vI vK 13, .agg #[vI vK al, vI vK ah], .agg #[vI vK bl, vI vK bh]] w fun e w' => e = .returned (.agg #[vI vK ((fit2 (-ah) (-al)).1), vI vK ((fit2 (-ah) (-al)).2)]) ∧ Below w.heap.size w w') := by
 refine ⟨?_, ?_, ?_⟩
 intro pbl qbl pbh qbh w
 rotate_left
 intro pbl qbl pbh qbh w
 rotate_left
 intro w
 rotate_left
 all_goals
  go_enter Tryz.func73, Tryz.ntmps73
  go_wp2_with fail
  go_region_held3 (fun w' => w'.cell? ⟨w.heap.size, 0, none⟩ = some (vI vK al) ∧ w'.cell? ⟨w.heap.size, 1, none⟩ = some (vI vK ah) ∧ w'.cell? ⟨w.heap.size + 1, 0, none⟩ = some (vI vK bl) ∧ w'.cell? ⟨w.heap.size + 1, 1, none⟩ = some (vI vK bh)) (first | (simp [go_sem]; done) | (simp [go_sem, *]; done) | go_keep) (first | (go_at_call 81; refine (zAv _ _ ?_ ?_ ?_ ?_ _).mono ?_; omega; omega; omega; omega; rintro e w' ⟨rfl, rfl⟩) | (go_at_call 82; refine (z87 _ _ ?_ ?_ ?_ ?_ _).mono ?_; omega; omega; omega; omega; rintro e w' ⟨rfl, rfl⟩) | (go_at_call 80; refine (z56 _ _ _).mono ?_; rintro e w1 ⟨rfl, hb1⟩; obtain ⟨hcl1, hfr1⟩ := z09 hb1; have hs1 := hb1.size; (try simp only [z00] at hs1); (try simp at hs1); have hbw1 : Below w.heap.size w w1 := by ((refine Below.trans ?_ (hb1.mono ?_)) <;> repeat' first | exact bF _ _ | refine bA ?_ ?_ _ | refine bS ?_ ?_ _ | refine bD ?_ | (simp; done) | (simp; omega) | (simp [z00]; done) | (simp [z00]; omega) | omega)))
  all_goals go_wp2_with (first | (go_at_call 81; refine (zAv _ _ ?_ ?_ ?_ ?_ _).mono ?_; omega; omega; omega; omega; rintro e w' ⟨rfl, rfl⟩) | (go_at_call 82; refine (z87 _ _ ?_ ?_ ?_ ?_ _).mono ?_; omega; omega; omega; omega; rintro e w' ⟨rfl, rfl⟩) | (go_at_call 80; refine (z56 _ _ _).mono ?_; rintro e w1 ⟨rfl, hb1⟩; obtain ⟨hcl1, hfr1⟩ := z09 hb1; have hs1 := hb1.size; (try simp only [z00] at hs1); (try simp at hs1); have hbw1 : Below w.heap.size w w1 := by ((refine Below.trans ?_ (hb1.mono ?_)) <;> repeat' first | exact bF _ _ | refine bA ?_ ?_ _ | refine bS ?_ ?_ _ | refine bD ?_ | (simp; done) | (simp; omega) | (simp [z00]; done) | (simp [z00]; omega) | omega)))
  all_goals exact bodyPost_ret (by simp [results, Tryz.results73, go_sem, hcl1]) rfl ⟨rfl, by repeat' first | exact bF _ _ | exact hbw1 | refine bA ?_ ?_ _ | refine bS ?_ ?_ _ | refine bD ?_ | (simp; done) | (simp; omega) | (simp [z00]; done) | (simp [z00]; omega) | omega⟩
def bdo_2 := fun al ah bl bh pal qal pah qah => (@z7l al ah bl bh pal qal pah qah).1
def bdo_3 := fun al ah bl bh pal qal pah qah => (@z7l al ah bl bh pal qal pah qah).2.1
def bdo_13 := fun al ah bl bh pal qal pah qah => (@z7l al ah bl bh pal qal pah qah).2.2
theorem bdo_4 (al ah bl bh : Int) (w : World) : Calls Tryz.prog 73 #[vI vK 4, .agg #[vI vK al, vI vK ah], .agg #[vI vK bl, vI vK bh]] w fun e w' => e = .returned (.agg #[vI vK ((bdV 4 al ah bl bh).1), vI vK ((bdV 4 al ah bl bh).2)]) ∧ Below w.heap.size w w' := by
 go_enter Tryz.func73, Tryz.ntmps73
 go_wp2_with (first | (go_at_call 83; refine (zHx _ _ _ _ _).mono ?_; rintro e w1 ⟨rfl, hb1⟩; obtain ⟨hcl1, hfr1⟩ := z09 hb1; have hs1 := hb1.size; (try simp only [z00] at hs1); (try simp at hs1); have hbw1 : Below w.heap.size w w1 := by ((refine Below.trans ?_ (hb1.mono ?_)) <;> repeat' first | exact bF _ _ | refine bA ?_ ?_ _ | refine bS ?_ ?_ _ | refine bD ?_ | (simp; done) | (simp; omega) | (simp [z00]; done) | (simp [z00]; omega) | omega)))
 all_goals exact bodyPost_ret (v := .agg #[vI vK ((bdV 4 al ah bl bh).1), vI vK ((bdV 4 al ah bl bh).2)]) (by simp [results, Tryz.results73, go_sem, hcl1]) rfl ⟨rfl, by repeat' first | exact bF _ _ | exact hbw1 | refine bA ?_ ?_ _ | refine bS ?_ ?_ _ | refine bD ?_ | (simp; done) | (simp; omega) | (simp [z00]; done) | (simp [z00]; omega) | omega⟩
theorem zEc (al ah bl bh : Int) (pal : -9223372036854775808 ≤ al) (qal : al ≤ 9223372036854775807) (pah : -9223372036854775808 ≤ ah) (qah : ah ≤ 9223372036854775807) (pbl : -9223372036854775808 ≤ bl) (qbl : bl ≤ 9223372036854775807) (pbh : -9223372036854775808 ≤ bh) (qbh : bh ≤ 9223372036854775807) (oa : al ≤ ah) (ob : bl ≤ bh) (w : World) : Calls Tryz.prog 84 #[.agg #[vI vK al, vI vK ah], .agg #[vI vK bl, vI vK bh]] w fun e w' => e = .returned (.agg #[vI vK ((bdV 5 al ah bl bh).1), vI vK ((bdV 5 al ah bl bh).2)]) ∧ Below w.heap.size w w' := by
 rw [zQ7]
 by_cases ha : 0 ≤ al
 ·by_cases hb : 0 ≤ bl
  ·rw [if_pos ⟨ha, hb⟩]
   by_cases hz : 0 < bl
   ·rw [if_pos hz, ← z8e ha qal (by omega) qbh, ← z8e (by omega) qah hz qbl]
    exact zHw al ah bl bh ha hz qbh qbl pbh w
   ·rw [if_neg hz]
    exact zHv al ah bl bh ha hb (by omega) w
  ·rw [if_neg (fun h => hb h.2)]
   exact zEa al ah bl bh ha (by omega) w
 ·rw [if_neg (fun h => ha h.1)]
  exact zEb al ah bl bh (by omega) w
theorem zS3 (al ah bl bh : Int) (qbh : bh ≤ 9223372036854775807) (ob : bl ≤ bh) (w : World) : Calls Tryz.prog 85 #[.agg #[vI vK al, vI vK ah], .agg #[vI vK bl, vI vK bh]] w fun e w' => e = .returned (.agg #[vI vK ((bdV 6 al ah bl bh).1), vI vK ((bdV 6 al ah bl bh).2)]) ∧ Below w.heap.size w w' := by
 rw [zQ6]
 by_cases ha : 0 ≤ al
 ·by_cases hb : 0 ≤ bl
  ·rw [if_pos ⟨ha, hb⟩]
   by_cases hz : 0 < bl
   ·rw [if_pos hz]
    exact rest_p al ah bl bh ha hz qbh ob w
   ·rw [if_neg hz]
    exact rest_z al ah bl bh ha hb (by omega) w
  ·rw [if_neg (fun h => hb h.2)]
   exact zS1 al ah bl bh ha (by omega) w
 ·rw [if_neg (fun h => ha h.1)]
  exact zS2 al ah bl bh (by omega) w
theorem zM8 (al ah bl bh : Int) (w : World) : Calls Tryz.prog 86 #[.agg #[vI vK al, vI vK ah], .agg #[vI vK bl, vI vK bh]] w fun e w' => e = .returned (.agg #[vI vK ((bdV 7 al ah bl bh).1), vI vK ((bdV 7 al ah bl bh).2)]) ∧ Below w.heap.size w w' := by
 rw [zQ5]
 by_cases ha : 0 ≤ al
 ·rw [if_pos ha]
  by_cases hb : 0 ≤ bl
  ·rw [if_pos hb]
   exact zM4 al ah bl bh ha hb w
  ·rw [if_neg hb]
   exact zM5 al ah bl bh ha (by omega) w
 ·rw [if_neg ha]
  by_cases hb : 0 ≤ bl
  ·rw [if_pos hb]
   exact zM6 al ah bl bh (by omega) hb w
  ·rw [if_neg hb]
   exact zM7 al ah bl bh (by omega) (by omega) w
theorem bdo_5 (al ah bl bh : Int) (pal : -9223372036854775808 ≤ al) (qal : al ≤ 9223372036854775807) (pah : -9223372036854775808 ≤ ah) (qah : ah ≤ 9223372036854775807) (pbl : -9223372036854775808 ≤ bl) (qbl : bl ≤ 9223372036854775807) (pbh : -9223372036854775808 ≤ bh) (qbh : bh ≤ 9223372036854775807) (oa : al ≤ ah) (ob : bl ≤ bh) (w : World) : Calls Tryz.prog 73 #[vI vK 5, .agg #[vI vK al, vI vK ah], .agg #[vI vK bl, vI vK bh]] w fun e w' => e = .returned (.agg #[vI vK ((bdV 5 al ah bl bh).1), vI vK ((bdV 5 al ah bl bh).2)]) ∧ Below w.heap.size w w' := by
 go_enter Tryz.func73, Tryz.ntmps73
 go_wp2_with (first | (go_at_call 84; refine (zEc _ _ _ _ pal qal pah qah pbl qbl pbh qbh oa ob _).mono ?_; rintro e w1 ⟨rfl, hb1⟩; obtain ⟨hcl1, hfr1⟩ := z09 hb1; have hs1 := hb1.size; (try simp only [z00] at hs1); (try simp at hs1); have hbw1 : Below w.heap.size w w1 := by ((refine Below.trans ?_ (hb1.mono ?_)) <;> repeat' first | exact bF _ _ | refine bA ?_ ?_ _ | refine bS ?_ ?_ _ | refine bD ?_ | (simp; done) | (simp; omega) | (simp [z00]; done) | (simp [z00]; omega) | omega)))
 all_goals exact bodyPost_ret (v := .agg #[vI vK ((bdV 5 al ah bl bh).1), vI vK ((bdV 5 al ah bl bh).2)]) (by simp [results, Tryz.results73, go_sem, hcl1]) rfl ⟨rfl, by repeat' first | exact bF _ _ | exact hbw1 | refine bA ?_ ?_ _ | refine bS ?_ ?_ _ | refine bD ?_ | (simp; done) | (simp; omega) | (simp [z00]; done) | (simp [z00]; omega) | omega⟩
theorem bdo_6 (al ah bl bh : Int) (qbh : bh ≤ 9223372036854775807) (ob : bl ≤ bh) (w : World) : Calls Tryz.prog 73 #[vI vK 6, .agg #[vI vK al, vI vK ah], .agg #[vI vK bl, vI vK bh]] w fun e w' => e = .returned (.agg #[vI vK ((bdV 6 al ah bl bh).1), vI vK ((bdV 6 al ah bl bh).2)]) ∧ Below w.heap.size w w' := by
 go_enter Tryz.func73, Tryz.ntmps73
 go_wp2_with (first | (go_at_call 85; refine (zS3 _ _ _ _ qbh ob _).mono ?_; rintro e w1 ⟨rfl, hb1⟩; obtain ⟨hcl1, hfr1⟩ := z09 hb1; have hs1 := hb1.size; (try simp only [z00] at hs1); (try simp at hs1); have hbw1 : Below w.heap.size w w1 := by ((refine Below.trans ?_ (hb1.mono ?_)) <;> repeat' first | exact bF _ _ | refine bA ?_ ?_ _ | refine bS ?_ ?_ _ | refine bD ?_ | (simp; done) | (simp; omega) | (simp [z00]; done) | (simp [z00]; omega) | omega)))
 all_goals exact bodyPost_ret (v := .agg #[vI vK ((bdV 6 al ah bl bh).1), vI vK ((bdV 6 al ah bl bh).2)]) (by simp [results, Tryz.results73, go_sem, hcl1]) rfl ⟨rfl, by repeat' first | exact bF _ _ | exact hbw1 | refine bA ?_ ?_ _ | refine bS ?_ ?_ _ | refine bD ?_ | (simp; done) | (simp; omega) | (simp [z00]; done) | (simp [z00]; omega) | omega⟩
theorem bdo_7 (al ah bl bh : Int) (w : World) : Calls Tryz.prog 73 #[vI vK 7, .agg #[vI vK al, vI vK ah], .agg #[vI vK bl, vI vK bh]] w fun e w' => e = .returned (.agg #[vI vK ((bdV 7 al ah bl bh).1), vI vK ((bdV 7 al ah bl bh).2)]) ∧ Below w.heap.size w w' := by
 go_enter Tryz.func73, Tryz.ntmps73
 go_wp2_with (first | (go_at_call 86; refine (zM8 _ _ _ _ _).mono ?_; rintro e w1 ⟨rfl, hb1⟩; obtain ⟨hcl1, hfr1⟩ := z09 hb1; have hs1 := hb1.size; (try simp only [z00] at hs1); (try simp at hs1); have hbw1 : Below w.heap.size w w1 := by ((refine Below.trans ?_ (hb1.mono ?_)) <;> repeat' first | exact bF _ _ | refine bA ?_ ?_ _ | refine bS ?_ ?_ _ | refine bD ?_ | (simp; done) | (simp; omega) | (simp [z00]; done) | (simp [z00]; omega) | omega)))
 all_goals exact bodyPost_ret (v := .agg #[vI vK ((bdV 7 al ah bl bh).1), vI vK ((bdV 7 al ah bl bh).2)]) (by simp [results, Tryz.results73, go_sem, hcl1]) rfl ⟨rfl, by repeat' first | exact bF _ _ | exact hbw1 | refine bA ?_ ?_ _ | refine bS ?_ ?_ _ | refine bD ?_ | (simp; done) | (simp; omega) | (simp [z00]; done) | (simp [z00]; omega) | omega⟩
theorem zLy (lo al ah bl bh : Int) (pal : -9223372036854775808 ≤ al) (qal : al ≤ 9223372036854775807) (pah : -9223372036854775808 ≤ ah) (qah : ah ≤ 9223372036854775807) (pbl : -9223372036854775808 ≤ bl) (qbl : bl ≤ 9223372036854775807) (pbh : -9223372036854775808 ≤ bh) (qbh : bh ≤ 9223372036854775807) (w : World) : Calls Tryz.prog 87 #[vI vK lo, .agg #[vI vK al, vI vK ah], .agg #[vI vK bl, vI vK bh]] w fun e w' => e = .returned (.agg #[vI vK (((if 0 ≤ al ∧ 0 ≤ bl then (lo, z4d (max ah bh)) else (-9223372036854775808, 9223372036854775807) : Int × Int)).1), vI vK (((if 0 ≤ al ∧ 0 ≤ bl then (lo, z4d (max ah bh)) else (-9223372036854775808, 9223372036854775807) : Int × Int)).2)]) ∧ Below w.heap.size w w' := by
 by_cases ha : 0 ≤ al
 ·by_cases hb : 0 ≤ bl
  ·rw [if_pos ⟨ha, hb⟩]
   exact zLv lo al ah bl bh ha hb (by omega) (by omega) w
  ·rw [if_neg (fun h => hb h.2)]
   exact zLw lo al ah bl bh ha (by omega) w
 ·rw [if_neg (fun h => ha h.1)]
  exact zLx lo al ah bl bh (by omega) w
def filV (lo al ah bl bh : Int) : Int × Int := if 0 ≤ al ∧ 0 ≤ bl then (lo, z4d (max ah bh)) else (-9223372036854775808, 9223372036854775807)
theorem zLz (lo al ah bl bh : Int) (pal : -9223372036854775808 ≤ al) (qal : al ≤ 9223372036854775807) (pah : -9223372036854775808 ≤ ah) (qah : ah ≤ 9223372036854775807) (pbl : -9223372036854775808 ≤ bl) (qbl : bl ≤ 9223372036854775807) (pbh : -9223372036854775808 ≤ bh) (qbh : bh ≤ 9223372036854775807) (w : World) : Calls Tryz.prog 87 #[vI vK lo, .agg #[vI vK al, vI vK ah], .agg #[vI vK bl, vI vK bh]] w fun e w' => e = .returned (.agg #[vI vK ((filV lo al ah bl bh).1), vI vK ((filV lo al ah bl bh).2)]) ∧ Below w.heap.size w w' := zLy lo al ah bl bh pal qal pah qah pbl qbl pbh qbh w
theorem zA9 (al ah bl bh : Int) (pal : -9223372036854775808 ≤ al) (qal : al ≤ 9223372036854775807) (pah : -9223372036854775808 ≤ ah) (qah : ah ≤ 9223372036854775807) (pbl : -9223372036854775808 ≤ bl) (qbl : bl ≤ 9223372036854775807) (pbh : -9223372036854775808 ≤ bh) (qbh : bh ≤ 9223372036854775807) (w : World) : (Calls Tryz.prog 73 #[vI vK 8, .agg #[vI vK al, vI vK ah], .agg #[vI vK bl, vI vK bh]] w fun e w' => e = .returned (.agg #[vI vK ((filV (max al bl) al ah bl bh).1), vI vK ((filV (max al bl) al ah bl bh).2)]) ∧ Below w.heap.size w w') ∧ (Calls Tryz.prog 73 #[vI vK 9, .agg #[vI vK al, vI vK ah], .agg #[vI vK bl, vI vK bh]] w fun e w' => e = .returned (.agg #[vI vK ((filV 0 al ah bl bh).1), vI vK ((filV 0 al ah bl bh).2)]) ∧ Below w.heap.size w w') := by
 refine ⟨?_, ?_⟩
 all_goals
  go_enter Tryz.func73, Tryz.ntmps73
  go_wp2_with (first | (go_at_call 87; refine (zLz _ _ _ _ _ pal qal pah qah pbl qbl pbh qbh _).mono ?_; rintro e w1 ⟨rfl, hb1⟩; obtain ⟨hcl1, hfr1⟩ := z09 hb1; have hs1 := hb1.size; (try simp only [z00] at hs1); (try simp at hs1); have hbw1 : Below w.heap.size w w1 := by ((refine Below.trans ?_ (hb1.mono ?_)) <;> repeat' first | exact bF _ _ | refine bA ?_ ?_ _ | refine bS ?_ ?_ _ | refine bD ?_ | (simp; done) | (simp; omega) | (simp [z00]; done) | (simp [z00]; omega) | omega)))
  all_goals exact bodyPost_ret (by simp [results, Tryz.results73, go_sem, hcl1]) rfl ⟨rfl, by repeat' first | exact bF _ _ | exact hbw1 | refine bA ?_ ?_ _ | refine bS ?_ ?_ _ | refine bD ?_ | (simp; done) | (simp; omega) | (simp [z00]; done) | (simp [z00]; omega) | omega⟩
def bdo_8 := fun al ah bl bh pal qal pah qah pbl qbl pbh qbh w => (@zA9 al ah bl bh pal qal pah qah pbl qbl pbh qbh w).1
def bdo_9 := fun al ah bl bh pal qal pah qah pbl qbl pbh qbh w => (@zA9 al ah bl bh pal qal pah qah pbl qbl pbh qbh w).2
def shV (c al ah k : Int) : Int × Int :=
 if c = 10 then fit2 (al * 2 ^ k.toNat) (ah * 2 ^ k.toNat) else if c = 11 ∧ 0 < k ∧ al < 0 then (0, z0i 11 (-1) k) else (z0i c al k, z0i c ah k)
def anyV (c al ah : Int) : Int × Int :=
 if c = 10 then (-9223372036854775808, 9223372036854775807) else if 0 ≤ al then (0, ah) else if c = 11 then (-9223372036854775808, 9223372036854775807) else if ah < 0 then (al, -1) else (al, ah)

theorem z42 (c al ah k : Int) (hc : c = 10 ∨ c = 11 ∨ c = 12) (h0 : 0 ≤ k) (h1 : k < 64) (w : World) : Calls Tryz.prog 88 #[vI vK c, .agg #[vI vK al, vI vK ah], vI vK k] w fun e w' => e = .returned (.agg #[vI vK ((shV c al ah k).1), vI vK ((shV c al ah k).2)]) ∧ Below w.heap.size w w' := by
 rcases hc with rfl | rfl | rfl
 ·exact zHi al ah k h0 h1 w
 ·by_cases hk : 0 < k
  ·by_cases ha : al < 0
   ·have e : shV 11 al ah k = (0, z0i 11 (-1) k) := by unfold shV; rw [if_neg (by decide), if_pos ⟨rfl, hk, ha⟩]
    rw [e]
    exact zDv al ah k h0 h1 hk ha w
   ·have e : shV 11 al ah k = (z0i 11 al k, z0i 11 ah k) := by unfold shV; rw [if_neg (by decide), if_neg (fun h => ha h.2.2)]
    rw [e]
    exact zDu al ah k h0 h1 hk (by omega) w
  ·have e : shV 11 al ah k = (z0i 11 al k, z0i 11 ah k) := by unfold shV; rw [if_neg (by decide), if_neg (fun h => hk h.2.1)]
   rw [e]
   exact zDt al ah k h0 h1 (by omega) w
 ·exact zHh al ah k h0 h1 w
theorem zAd (c al ah : Int) (hc : c = 10 ∨ c = 11 ∨ c = 12) (w : World) : Calls Tryz.prog 89 #[vI vK c, .agg #[vI vK al, vI vK ah]] w fun e w' => e = .returned (.agg #[vI vK ((anyV c al ah).1), vI vK ((anyV c al ah).2)]) ∧ Below w.heap.size w w' := by
 by_cases h10 : c = 10
 ·subst h10
  exact any_10 al ah w
 ·by_cases ha : 0 ≤ al
  ·have e : anyV c al ah = (0, ah) := by unfold anyV; rw [if_neg h10, if_pos ha]
   rw [e]
   exact any_p c al ah (by omega) ha w
  ·by_cases h11 : c = 11
   ·subst h11
    have e : anyV 11 al ah = (-9223372036854775808, 9223372036854775807) := by unfold anyV; rw [if_neg (by decide), if_neg ha, if_pos rfl]
    rw [e]
    exact any_11 al ah (by omega) w
   ·obtain rfl : c = 12 := by omega
    by_cases hh : ah < 0
    ·have e : anyV 12 al ah = (al, -1) := by unfold anyV; rw [if_neg (by decide), if_neg ha, if_neg (by decide), if_pos hh]
     rw [e]
     exact zU9 al ah (by omega) hh w
    ·have e : anyV 12 al ah = (al, ah) := by unfold anyV; rw [if_neg (by decide), if_neg ha, if_neg (by decide), if_neg hh]
     rw [e]
     exact any_12 al ah (by omega) (by omega) w
theorem zU4 (al ah bl : Int) (w : World) : Calls Tryz.prog 73 #[vI vK 10, .agg #[vI vK al, vI vK ah], .agg #[vI vK bl, vI vK bl]] w fun e w' => e = .returned (.agg #[vI vK ((shV 10 al ah (bl % 64)).1), vI vK ((shV 10 al ah (bl % 64)).2)]) ∧ Below w.heap.size w w' := by
 have hx := z76 bl
 go_enter Tryz.func73, Tryz.ntmps73
 go_wp2_with fail
 go_region_held3 (fun w' => w'.cell? ⟨w.heap.size + 1, 0, none⟩ = some (vI vK bl) ∧ w'.cell? ⟨w.heap.size + 1, 1, none⟩ = some (vI vK bl)) (first | (simp [go_sem]; done) | (simp [go_sem, *]; done) | go_keep) (first | (go_at_call 39; refine (z2c _ _).mono ?_; rintro e w' ⟨rfl, rfl⟩) | (go_at_call 88; refine (z42 10 _ _ _ (by decide) (Int.emod_nonneg _ (by decide)) (Int.emod_lt_of_pos _ (by decide)) _).mono ?_; rintro e w1 ⟨rfl, hb1⟩; obtain ⟨hcl1, hfr1⟩ := z09 hb1; have hs1 := hb1.size; (try simp only [z00] at hs1); (try simp at hs1); have hbw1 : Below w.heap.size w w1 := by ((refine Below.trans ?_ (hb1.mono ?_)) <;> repeat' first | exact bF _ _ | refine bA ?_ ?_ _ | refine bS ?_ ?_ _ | refine bD ?_ | (simp; done) | (simp; omega) | (simp [z00]; done) | (simp [z00]; omega) | omega)))
 all_goals go_wp2_with (first | (go_at_call 39; refine (z2c _ _).mono ?_; rintro e w' ⟨rfl, rfl⟩) | (go_at_call 88; refine (z42 10 _ _ _ (by decide) (Int.emod_nonneg _ (by decide)) (Int.emod_lt_of_pos _ (by decide)) _).mono ?_; rintro e w1 ⟨rfl, hb1⟩; obtain ⟨hcl1, hfr1⟩ := z09 hb1; have hs1 := hb1.size; (try simp only [z00] at hs1); (try simp at hs1); have hbw1 : Below w.heap.size w w1 := by ((refine Below.trans ?_ (hb1.mono ?_)) <;> repeat' first | exact bF _ _ | refine bA ?_ ?_ _ | refine bS ?_ ?_ _ | refine bD ?_ | (simp; done) | (simp; omega) | (simp [z00]; done) | (simp [z00]; omega) | omega)))
 all_goals exact bodyPost_ret (v := .agg #[vI vK ((shV 10 al ah (bl % 64)).1), vI vK ((shV 10 al ah (bl % 64)).2)]) (by simp [results, Tryz.results73, go_sem, hcl1]) rfl ⟨rfl, by repeat' first | exact bF _ _ | exact hbw1 | refine bA ?_ ?_ _ | refine bS ?_ ?_ _ | refine bD ?_ | (simp; done) | (simp; omega) | (simp [z00]; done) | (simp [z00]; omega) | omega⟩
theorem zU3 (al ah bl bh : Int) (hne : ¬ bh = bl) (w : World) : Calls Tryz.prog 73 #[vI vK 10, .agg #[vI vK al, vI vK ah], .agg #[vI vK bl, vI vK bh]] w fun e w' => e = .returned (.agg #[vI vK ((anyV 10 al ah).1), vI vK ((anyV 10 al ah).2)]) ∧ Below w.heap.size w w' := by
 go_enter Tryz.func73, Tryz.ntmps73
 go_wp2_with fail
 go_region_held3 (fun w' => w'.cell? ⟨w.heap.size + 1, 0, none⟩ = some (vI vK bl) ∧ w'.cell? ⟨w.heap.size + 1, 1, none⟩ = some (vI vK bh)) (first | (simp [go_sem]; done) | (simp [go_sem, *]; done) | go_keep) (first | (go_at_call 39; refine (z2c _ _).mono ?_; rintro e w' ⟨rfl, rfl⟩) | (go_at_call 89; refine (zAd 10 _ _ (by decide) _).mono ?_; rintro e w1 ⟨rfl, hb1⟩; obtain ⟨hcl1, hfr1⟩ := z09 hb1; have hs1 := hb1.size; (try simp only [z00] at hs1); (try simp at hs1); have hbw1 : Below w.heap.size w w1 := by ((refine Below.trans ?_ (hb1.mono ?_)) <;> repeat' first | exact bF _ _ | refine bA ?_ ?_ _ | refine bS ?_ ?_ _ | refine bD ?_ | (simp; done) | (simp; omega) | (simp [z00]; done) | (simp [z00]; omega) | omega)))
 all_goals go_wp2_with (first | (go_at_call 39; refine (z2c _ _).mono ?_; rintro e w' ⟨rfl, rfl⟩) | (go_at_call 89; refine (zAd 10 _ _ (by decide) _).mono ?_; rintro e w1 ⟨rfl, hb1⟩; obtain ⟨hcl1, hfr1⟩ := z09 hb1; have hs1 := hb1.size; (try simp only [z00] at hs1); (try simp at hs1); have hbw1 : Below w.heap.size w w1 := by ((refine Below.trans ?_ (hb1.mono ?_)) <;> repeat' first | exact bF _ _ | refine bA ?_ ?_ _ | refine bS ?_ ?_ _ | refine bD ?_ | (simp; done) | (simp; omega) | (simp [z00]; done) | (simp [z00]; omega) | omega)))
 all_goals exact bodyPost_ret (v := .agg #[vI vK ((anyV 10 al ah).1), vI vK ((anyV 10 al ah).2)]) (by simp [results, Tryz.results73, go_sem, hcl1]) rfl ⟨rfl, by repeat' first | exact bF _ _ | exact hbw1 | refine bA ?_ ?_ _ | refine bS ?_ ?_ _ | refine bD ?_ | (simp; done) | (simp; omega) | (simp [z00]; done) | (simp [z00]; omega) | omega⟩
theorem zU2 (al ah bl : Int) (w : World) : Calls Tryz.prog 73 #[vI vK 11, .agg #[vI vK al, vI vK ah], .agg #[vI vK bl, vI vK bl]] w fun e w' => e = .returned (.agg #[vI vK ((shV 11 al ah (bl % 64)).1), vI vK ((shV 11 al ah (bl % 64)).2)]) ∧ Below w.heap.size w w' := by
 have hx := z76 bl
 go_enter Tryz.func73, Tryz.ntmps73
 go_wp2_with fail
 go_region_held3 (fun w' => w'.cell? ⟨w.heap.size + 1, 0, none⟩ = some (vI vK bl) ∧ w'.cell? ⟨w.heap.size + 1, 1, none⟩ = some (vI vK bl)) (first | (simp [go_sem]; done) | (simp [go_sem, *]; done) | go_keep) (first | (go_at_call 39; refine (z2c _ _).mono ?_; rintro e w' ⟨rfl, rfl⟩) | (go_at_call 88; refine (z42 11 _ _ _ (by decide) (Int.emod_nonneg _ (by decide)) (Int.emod_lt_of_pos _ (by decide)) _).mono ?_; rintro e w1 ⟨rfl, hb1⟩; obtain ⟨hcl1, hfr1⟩ := z09 hb1; have hs1 := hb1.size; (try simp only [z00] at hs1); (try simp at hs1); have hbw1 : Below w.heap.size w w1 := by ((refine Below.trans ?_ (hb1.mono ?_)) <;> repeat' first | exact bF _ _ | refine bA ?_ ?_ _ | refine bS ?_ ?_ _ | refine bD ?_ | (simp; done) | (simp; omega) | (simp [z00]; done) | (simp [z00]; omega) | omega)))
 all_goals go_wp2_with (first | (go_at_call 39; refine (z2c _ _).mono ?_; rintro e w' ⟨rfl, rfl⟩) | (go_at_call 88; refine (z42 11 _ _ _ (by decide) (Int.emod_nonneg _ (by decide)) (Int.emod_lt_of_pos _ (by decide)) _).mono ?_; rintro e w1 ⟨rfl, hb1⟩; obtain ⟨hcl1, hfr1⟩ := z09 hb1; have hs1 := hb1.size; (try simp only [z00] at hs1); (try simp at hs1); have hbw1 : Below w.heap.size w w1 := by ((refine Below.trans ?_ (hb1.mono ?_)) <;> repeat' first | exact bF _ _ | refine bA ?_ ?_ _ | refine bS ?_ ?_ _ | refine bD ?_ | (simp; done) | (simp; omega) | (simp [z00]; done) | (simp [z00]; omega) | omega)))
 all_goals exact bodyPost_ret (v := .agg #[vI vK ((shV 11 al ah (bl % 64)).1), vI vK ((shV 11 al ah (bl % 64)).2)]) (by simp [results, Tryz.results73, go_sem, hcl1]) rfl ⟨rfl, by repeat' first | exact bF _ _ | exact hbw1 | refine bA ?_ ?_ _ | refine bS ?_ ?_ _ | refine bD ?_ | (simp; done) | (simp; omega) | (simp [z00]; done) | (simp [z00]; omega) | omega⟩
theorem zU1 (al ah bl bh : Int) (hne : ¬ bh = bl) (w : World) : Calls Tryz.prog 73 #[vI vK 11, .agg #[vI vK al, vI vK ah], .agg #[vI vK bl, vI vK bh]] w fun e w' => e = .returned (.agg #[vI vK ((anyV 11 al ah).1), vI vK ((anyV 11 al ah).2)]) ∧ Below w.heap.size w w' := by
 go_enter Tryz.func73, Tryz.ntmps73
 go_wp2_with fail
 go_region_held3 (fun w' => w'.cell? ⟨w.heap.size + 1, 0, none⟩ = some (vI vK bl) ∧ w'.cell? ⟨w.heap.size + 1, 1, none⟩ = some (vI vK bh)) (first | (simp [go_sem]; done) | (simp [go_sem, *]; done) | go_keep) (first | (go_at_call 39; refine (z2c _ _).mono ?_; rintro e w' ⟨rfl, rfl⟩) | (go_at_call 89; refine (zAd 11 _ _ (by decide) _).mono ?_; rintro e w1 ⟨rfl, hb1⟩; obtain ⟨hcl1, hfr1⟩ := z09 hb1; have hs1 := hb1.size; (try simp only [z00] at hs1); (try simp at hs1); have hbw1 : Below w.heap.size w w1 := by ((refine Below.trans ?_ (hb1.mono ?_)) <;> repeat' first | exact bF _ _ | refine bA ?_ ?_ _ | refine bS ?_ ?_ _ | refine bD ?_ | (simp; done) | (simp; omega) | (simp [z00]; done) | (simp [z00]; omega) | omega)))
 all_goals go_wp2_with (first | (go_at_call 39; refine (z2c _ _).mono ?_; rintro e w' ⟨rfl, rfl⟩) | (go_at_call 89; refine (zAd 11 _ _ (by decide) _).mono ?_; rintro e w1 ⟨rfl, hb1⟩; obtain ⟨hcl1, hfr1⟩ := z09 hb1; have hs1 := hb1.size; (try simp only [z00] at hs1); (try simp at hs1); have hbw1 : Below w.heap.size w w1 := by ((refine Below.trans ?_ (hb1.mono ?_)) <;> repeat' first | exact bF _ _ | refine bA ?_ ?_ _ | refine bS ?_ ?_ _ | refine bD ?_ | (simp; done) | (simp; omega) | (simp [z00]; done) | (simp [z00]; omega) | omega)))
 all_goals exact bodyPost_ret (v := .agg #[vI vK ((anyV 11 al ah).1), vI vK ((anyV 11 al ah).2)]) (by simp [results, Tryz.results73, go_sem, hcl1]) rfl ⟨rfl, by repeat' first | exact bF _ _ | exact hbw1 | refine bA ?_ ?_ _ | refine bS ?_ ?_ _ | refine bD ?_ | (simp; done) | (simp; omega) | (simp [z00]; done) | (simp [z00]; omega) | omega⟩
theorem zU0 (al ah bl : Int) (w : World) : Calls Tryz.prog 73 #[vI vK 12, .agg #[vI vK al, vI vK ah], .agg #[vI vK bl, vI vK bl]] w fun e w' => e = .returned (.agg #[vI vK ((shV 12 al ah (bl % 64)).1), vI vK ((shV 12 al ah (bl % 64)).2)]) ∧ Below w.heap.size w w' := by
 have hx := z76 bl
 go_enter Tryz.func73, Tryz.ntmps73
 go_wp2_with fail
 go_region_held3 (fun w' => w'.cell? ⟨w.heap.size + 1, 0, none⟩ = some (vI vK bl) ∧ w'.cell? ⟨w.heap.size + 1, 1, none⟩ = some (vI vK bl)) (first | (simp [go_sem]; done) | (simp [go_sem, *]; done) | go_keep) (first | (go_at_call 39; refine (z2c _ _).mono ?_; rintro e w' ⟨rfl, rfl⟩) | (go_at_call 88; refine (z42 12 _ _ _ (by decide) (Int.emod_nonneg _ (by decide)) (Int.emod_lt_of_pos _ (by decide)) _).mono ?_; rintro e w1 ⟨rfl, hb1⟩; obtain ⟨hcl1, hfr1⟩ := z09 hb1; have hs1 := hb1.size; (try simp only [z00] at hs1); (try simp at hs1); have hbw1 : Below w.heap.size w w1 := by ((refine Below.trans ?_ (hb1.mono ?_)) <;> repeat' first | exact bF _ _ | refine bA ?_ ?_ _ | refine bS ?_ ?_ _ | refine bD ?_ | (simp; done) | (simp; omega) | (simp [z00]; done) | (simp [z00]; omega) | omega)))
 all_goals go_wp2_with (first | (go_at_call 39; refine (z2c _ _).mono ?_; rintro e w' ⟨rfl, rfl⟩) | (go_at_call 88; refine (z42 12 _ _ _ (by decide) (Int.emod_nonneg _ (by decide)) (Int.emod_lt_of_pos _ (by decide)) _).mono ?_; rintro e w1 ⟨rfl, hb1⟩; obtain ⟨hcl1, hfr1⟩ := z09 hb1; have hs1 := hb1.size; (try simp only [z00] at hs1); (try simp at hs1); have hbw1 : Below w.heap.size w w1 := by ((refine Below.trans ?_ (hb1.mono ?_)) <;> repeat' first | exact bF _ _ | refine bA ?_ ?_ _ | refine bS ?_ ?_ _ | refine bD ?_ | (simp; done) | (simp; omega) | (simp [z00]; done) | (simp [z00]; omega) | omega)))
 all_goals exact bodyPost_ret (v := .agg #[vI vK ((shV 12 al ah (bl % 64)).1), vI vK ((shV 12 al ah (bl % 64)).2)]) (by simp [results, Tryz.results73, go_sem, hcl1]) rfl ⟨rfl, by repeat' first | exact bF _ _ | exact hbw1 | refine bA ?_ ?_ _ | refine bS ?_ ?_ _ | refine bD ?_ | (simp; done) | (simp; omega) | (simp [z00]; done) | (simp [z00]; omega) | omega⟩
theorem zTz (al ah bl bh : Int) (hne : ¬ bh = bl) (w : World) : Calls Tryz.prog 73 #[vI vK 12, .agg #[vI vK al, vI vK ah], .agg #[vI vK bl, vI vK bh]] w fun e w' => e = .returned (.agg #[vI vK ((anyV 12 al ah).1), vI vK ((anyV 12 al ah).2)]) ∧ Below w.heap.size w w' := by
 go_enter Tryz.func73, Tryz.ntmps73
 go_wp2_with fail
 go_region_held3 (fun w' => w'.cell? ⟨w.heap.size + 1, 0, none⟩ = some (vI vK bl) ∧ w'.cell? ⟨w.heap.size + 1, 1, none⟩ = some (vI vK bh)) (first | (simp [go_sem]; done) | (simp [go_sem, *]; done) | go_keep) (first | (go_at_call 39; refine (z2c _ _).mono ?_; rintro e w' ⟨rfl, rfl⟩) | (go_at_call 89; refine (zAd 12 _ _ (by decide) _).mono ?_; rintro e w1 ⟨rfl, hb1⟩; obtain ⟨hcl1, hfr1⟩ := z09 hb1; have hs1 := hb1.size; (try simp only [z00] at hs1); (try simp at hs1); have hbw1 : Below w.heap.size w w1 := by ((refine Below.trans ?_ (hb1.mono ?_)) <;> repeat' first | exact bF _ _ | refine bA ?_ ?_ _ | refine bS ?_ ?_ _ | refine bD ?_ | (simp; done) | (simp; omega) | (simp [z00]; done) | (simp [z00]; omega) | omega)))
 all_goals go_wp2_with (first | (go_at_call 39; refine (z2c _ _).mono ?_; rintro e w' ⟨rfl, rfl⟩) | (go_at_call 89; refine (zAd 12 _ _ (by decide) _).mono ?_; rintro e w1 ⟨rfl, hb1⟩; obtain ⟨hcl1, hfr1⟩ := z09 hb1; have hs1 := hb1.size; (try simp only [z00] at hs1); (try simp at hs1); have hbw1 : Below w.heap.size w w1 := by ((refine Below.trans ?_ (hb1.mono ?_)) <;> repeat' first | exact bF _ _ | refine bA ?_ ?_ _ | refine bS ?_ ?_ _ | refine bD ?_ | (simp; done) | (simp; omega) | (simp [z00]; done) | (simp [z00]; omega) | omega)))
 all_goals exact bodyPost_ret (v := .agg #[vI vK ((anyV 12 al ah).1), vI vK ((anyV 12 al ah).2)]) (by simp [results, Tryz.results73, go_sem, hcl1]) rfl ⟨rfl, by repeat' first | exact bF _ _ | exact hbw1 | refine bA ?_ ?_ _ | refine bS ?_ ?_ _ | refine bD ?_ | (simp; done) | (simp; omega) | (simp [z00]; done) | (simp [z00]; omega) | omega⟩
theorem bdo_no (k al ah bl bh : Int) (hk : k < 1 ∨ 13 < k) (w : World) : Calls Tryz.prog 73 #[vI vK k, .agg #[vI vK al, vI vK ah], .agg #[vI vK bl, vI vK bh]] w fun e w' => e = .returned (.agg #[vI vK (-9223372036854775808), vI vK 9223372036854775807]) ∧ Below w.heap.size w w' := by
 have e1 : (k == 1) = false := by simp; omega
 have e2 : (k == 2) = false := by simp; omega
 have e3 : (k == 3) = false := by simp; omega
 have e4 : (k == 4) = false := by simp; omega
 have e5 : (k == 5) = false := by simp; omega
 have e6 : (k == 6) = false := by simp; omega
 have e7 : (k == 7) = false := by simp; omega
 have e8 : (k == 8) = false := by simp; omega
 have e9 : (k == 9) = false := by simp; omega
 have e10 : (k == 10) = false := by simp; omega
 have e11 : (k == 11) = false := by simp; omega
 have e12 : (k == 12) = false := by simp; omega
 have e13 : (k == 13) = false := by simp; omega
 go_enter Tryz.func73, Tryz.ntmps73
 go_wp2_with (first | (go_at_call 63; refine (z2v _).mono ?_; rintro e w1 ⟨rfl, hb1⟩; obtain ⟨hcl1, hfr1⟩ := z09 hb1; have hs1 := hb1.size; (try simp only [z00] at hs1); (try simp at hs1); have hbw1 : Below w.heap.size w w1 := by ((refine Below.trans ?_ (hb1.mono ?_)) <;> repeat' first | exact bF _ _ | refine bA ?_ ?_ _ | refine bS ?_ ?_ _ | refine bD ?_ | (simp; done) | (simp; omega) | (simp [z00]; done) | (simp [z00]; omega) | omega)))
 all_goals exact bodyPost_ret (v := .agg #[vI vK (-9223372036854775808), vI vK 9223372036854775807]) (by simp [results, Tryz.results73, go_sem, hcl1]) rfl ⟨rfl, by repeat' first | exact bF _ _ | exact hbw1 | refine bA ?_ ?_ _ | refine bS ?_ ?_ _ | refine bD ?_ | (simp; done) | (simp; omega) | (simp [z00]; done) | (simp [z00]; omega) | omega⟩
theorem zMr (k al ah bl bh : Int) (pal : -9223372036854775808 ≤ al) (qal : al ≤ 9223372036854775807) (pah : -9223372036854775808 ≤ ah) (qah : ah ≤ 9223372036854775807) (pbl : -9223372036854775808 ≤ bl) (qbl : bl ≤ 9223372036854775807) (pbh : -9223372036854775808 ≤ bh) (qbh : bh ≤ 9223372036854775807) (oa : al ≤ ah) (ob : bl ≤ bh) (w : World) : Calls Tryz.prog 73 #[vI vK k, .agg #[vI vK al, vI vK ah], .agg #[vI vK bl, vI vK bh]] w fun e w' => e = .returned (.agg #[vI vK ((bdV k al ah bl bh).1), vI vK ((bdV k al ah bl bh).2)]) ∧ Below w.heap.size w w' := by
 by_cases hk : k < 1 ∨ 13 < k
 ·rw [zQz al ah bl bh hk]
  exact bdo_no k al ah bl bh hk w
 ·have h : k = 1 ∨ k = 2 ∨ k = 3 ∨ k = 4 ∨ k = 5 ∨ k = 6 ∨ k = 7 ∨ k = 8 ∨ k = 9 ∨ k = 10 ∨ k = 11 ∨ k = 12 ∨ k = 13 := by omega
  have s6 := z4w bl
  rcases h with rfl | rfl | rfl | rfl | rfl | rfl | rfl | rfl | rfl | rfl | rfl | rfl | rfl
  ·rw [zQa]; exact bdo_1 al ah bl bh w
  ·rw [zIu]; exact bdo_2 al ah bl bh pal qal pah qah pbl qbl pbh qbh w
  ·rw [zQ9]; exact bdo_3 al ah bl bh pal qal pah qah pbl qbl pbh qbh w
  ·exact bdo_4 al ah bl bh w
  ·exact bdo_5 al ah bl bh pal qal pah qah pbl qbl pbh qbh oa ob w
  ·exact bdo_6 al ah bl bh qbh ob w
  ·exact bdo_7 al ah bl bh w
  ·rw [zQ4]; exact bdo_8 al ah bl bh pal qal pah qah pbl qbl pbh qbh w
  ·rw [zQ3]; exact bdo_9 al ah bl bh pal qal pah qah pbl qbl pbh qbh w
  ·rw [zGt]
   by_cases hb : bl = bh
   ·rw [if_pos hb]
    subst hb
    exact zU4 al ah bl w
   ·rw [if_neg hb]
    exact zU3 al ah bl bh (fun h => hb h.symm) w
  ·rw [zGs]
   by_cases hb : bl = bh
   ·rw [if_pos hb]
    subst hb
    have e : shV 11 al ah (bl % 64) = (if sixBits bl = 0 then (al, ah) else if 0 ≤ al then (al / 2 ^ sixBits bl, ah / 2 ^ sixBits bl) else (0, 2 ^ (64 - sixBits bl) - 1)) := by
     unfold shV
     rw [if_neg (by decide)]
     by_cases h0 : sixBits bl = 0
     ·rw [if_pos h0, if_neg (by have : (bl % 64).toNat = 0 := h0; omega), zAh pal qal (by omega), zAh pah qah (by omega)]
     ·rw [if_neg h0]
      have h0' : (bl % 64).toNat ≠ 0 := h0
      by_cases ha : 0 ≤ al
      ·rw [if_pos ha, if_neg (by omega), z86 ha qal, z86 (by omega) qah, s6]
      ·rw [if_neg ha, if_pos ⟨rfl, by omega, by omega⟩, zAg (by omega), s6]
    rw [← e]
    exact zU2 al ah bl w
   ·rw [if_neg hb]
    exact zU1 al ah bl bh (fun h => hb h.symm) w
  ·rw [zGr]
   by_cases hb : bl = bh
   ·rw [if_pos hb]
    subst hb
    have e : shV 12 al ah (bl % 64) = (al / 2 ^ sixBits bl, ah / 2 ^ sixBits bl) := by
     unfold shV
     rw [if_neg (by decide), if_neg (by omega), z54, z54, s6]
    rw [← e]
    exact zU0 al ah bl w
   ·rw [if_neg hb]
    exact zTz al ah bl bh (fun h => hb h.symm) w
  ·rw [zGq]; exact bdo_13 al ah bl bh pal qal pah qah w
end Go.Proofs.YteenhdoaminkeaaGreatDoor
