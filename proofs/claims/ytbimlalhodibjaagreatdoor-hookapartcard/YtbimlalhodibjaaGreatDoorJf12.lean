/-
 What bound.Does returns: as a function on integers, code by code; the world below is as it was. Conditions: the ends are numbers of 64 bits, the low end not above the high one.
-/
import Derived.Test.YtbimlalhodibjaaGreatDoorJf11
import Derived.Deep.RegionHeld3
import Derived.Deep.DeepMust
set_option maxHeartbeats 40000000
open Go.Value renaming int → A
open Go.IntKind renaming i64 → B
open Go.RowKit.Below renaming alloc → bA, setCell → bS, drew → bD, refl → bF
set_option maxRecDepth 1000000
set_option linter.defProp false
set_option linter.unusedVariables false
set_option linter.unusedSimpArgs false
open Go.Ending renaming returned → rT
open Go.Obj renaming cells → cT
open Go.Proofs.Tryz renaming prog → tP
namespace Go.Proofs.YtbimlalhodibjaaGreatDoor
open Go.ChangeShapes Go.WideShapes Go.ChangeAt Go.RowKit
attribute [local simp] z00
theorem zDc (a k : Int) (h0 : 0 <= k) (h1 : k < 64) (w : World) : Calls tP 221 #[A B a, A B k] w fun e w' => e = rT (.agg #[A B (wrap64 (a * 2 ^ k.toNat)), .bool (fits (a * 2 ^ k.toNat))]) /\ w' = w.alloc (cT #[A B (wrap64 (a * 2 ^ k.toNat)), .bool (fits (a * 2 ^ k.toNat))] 344) := by
 have hf : Hid ((wrap64 (a * 2 ^ k.toNat) / 2 ^ k.toNat == a) = fits (a * 2 ^ k.toNat)) := zS9 (by omega)
 go_enter Tryz.func221, Tryz.ntmps221
 go_wp2
 rw [hf.out]
 exact bodyPost_ret (v := .agg #[A B (wrap64 (a * 2 ^ k.toNat)), .bool (fits (a * 2 ^ k.toNat))]) (by simp [results, Tryz.results221, go_sem]) rfl ⟨rfl, rfl⟩
theorem zE8 (a b : Int) (pa : -9223372036854775808 <= a) (qa : a <= 9223372036854775807) (pb : -9223372036854775808 <= b) (qb : b <= 9223372036854775807) (w : World) : Calls tP 197 #[A B a, A B b] w fun e w' => e = rT (.agg #[A B (wrap64 (a + b)), .bool (fits (a + b))]) /\ w' = w.alloc (cT #[A B (wrap64 (a + b)), .bool (fits (a + b))] 344) := by
 have hf : Hid ((decide (a <= wrap64 (a + b)) == decide (0 <= b)) = fits (a + b)) := zPf pa qa pb qb
 clear pa qa pb qb
 go_enter Tryz.func197, Tryz.ntmps197
 go_wp2
 rw [hf.out]
 exact bodyPost_ret (v := .agg #[A B (wrap64 (a + b)), .bool (fits (a + b))]) (by simp [results, Tryz.results197, go_sem]) rfl ⟨rfl, rfl⟩
theorem z9l (a b : Int) (pa : -9223372036854775808 <= a) (qa : a <= 9223372036854775807) (pb : -9223372036854775808 <= b) (qb : b <= 9223372036854775807) (w : World) : Calls tP 198 #[A B a, A B b] w fun e w' => e = rT (.agg #[A B (wrap64 (a - b)), .bool (fits (a - b))]) /\ w' = w.alloc (cT #[A B (wrap64 (a - b)), .bool (fits (a - b))] 344) := by
 have hf : Hid ((decide (wrap64 (a - b) <= a) == decide (0 <= b)) = fits (a - b)) := zN1 pa qa pb qb
 clear pa qa pb qb
 go_enter Tryz.func198, Tryz.ntmps198
 go_wp2
 rw [hf.out]
 exact bodyPost_ret (v := .agg #[A B (wrap64 (a - b)), .bool (fits (a - b))]) (by simp [results, Tryz.results198, go_sem]) rfl ⟨rfl, rfl⟩
theorem z29 (n : Int) (w : World) : Calls tP 100 #[A B n] w fun e w' => e = rT (.agg #[A B n, A B n]) /\ w' = w.alloc (cT #[A B n, A B n] 122) := by
 go_enter Tryz.func100, Tryz.ntmps100
 go_wp2
 exact bodyPost_ret (v := .agg #[A B n, A B n]) (by simp [results, Tryz.results100, go_sem]) rfl ⟨rfl, rfl⟩
theorem z5o (u v : Int) (w : World) : Calls tP 196 #[.agg #[A B (wrap64 u), .bool (fits u), A B (wrap64 v), .bool (fits v)]] w fun e w' => e = rT (.agg #[A B ((fit2 u v).1), A B ((fit2 u v).2)]) /\ Below w.heap.size w w' := by
 rw [<- fit2_1, <- fit2_2]
 exact zO6 _ _ _ _ w
theorem zGz (al ah bl bh : Int) : (∀ (ha : al < 0) (w : World), Calls tP 200 #[.agg #[A B al, A B ah], .agg #[A B bl, A B bh]] w fun e w' => e = rT (.agg #[A B (-9223372036854775808), A B 9223372036854775807]) /\ Below w.heap.size w w') /\ (∀ (ha : 0 <= al) (hb : bl < 0) (w : World), Calls tP 200 #[.agg #[A B al, A B ah], .agg #[A B bl, A B bh]] w fun e w' => e = rT (.agg #[A B (-9223372036854775808), A B 9223372036854775807]) /\ Below w.heap.size w w') := by
 refine ⟨?_, ?_⟩
 intro ha w
 have _ha : decide (0 <= al) = false := by simp; omega
 rotate_left
 intro ha hb w
 have _hb : decide (0 <= bl) = false := by simp; omega
 rotate_left
 all_goals
  go_enter Tryz.func200, Tryz.ntmps200
  go_wp2_with (first | (go_at_call 141; refine (z2v _).mono ?_; rintro e w1 ⟨rfl, hb1⟩; obtain ⟨hcl1, hfr1⟩ := z0h hb1; have hs1 := hb1.size; (try simp only [z00] at hs1); (try simp at hs1); have hbw1 : Below w.heap.size w w1 := by ((refine Below.trans ?_ (hb1.mono ?_)) <;> repeat' first | exact bF _ _ | refine bA ?_ ?_ _ | refine bS ?_ ?_ _ | refine bD ?_ | (simp; done) | (simp; omega) | (simp [z00]; done) | (simp [z00]; omega) | omega)) | (go_at_call 181; refine (z2c _ _ _ ?_ ?_ _).mono ?_; omega; omega; rintro e w' ⟨rfl, rfl⟩) | go_in)
  all_goals exact bodyPost_ret (v := .agg #[A B (-9223372036854775808), A B 9223372036854775807]) (by simp [results, Tryz.results200, go_sem, hcl1]) rfl ⟨rfl, by repeat' first | exact bF _ _ | exact hbw1 | refine bA ?_ ?_ _ | refine bS ?_ ?_ _ | refine bD ?_ | (simp; done) | (simp; omega) | (simp [z00]; done) | (simp [z00]; omega) | omega⟩
def zI7 := fun al ah bl bh => (@zGz al ah bl bh).1
def zI6 := fun al ah bl bh => (@zGz al ah bl bh).2
theorem zMj (al ah bl bh : Int) (ha : 0 <= al) (hb : 0 <= bl) (hz : bl <= 0) (w : World) : Calls tP 200 #[.agg #[A B al, A B ah], .agg #[A B bl, A B bh]] w fun e w' => e = rT (.agg #[A B 0, A B ah]) /\ Below w.heap.size w w' := by
 have _hz : decide (0 < bl) = false := by simp; omega
 go_enter Tryz.func200, Tryz.ntmps200
 go_wp2_with (first | (go_at_call 141; refine (z2v _).mono ?_; rintro e w1 ⟨rfl, hb1⟩; obtain ⟨hcl1, hfr1⟩ := z0h hb1; have hs1 := hb1.size; (try simp only [z00] at hs1); (try simp at hs1); have hbw1 : Below w.heap.size w w1 := by ((refine Below.trans ?_ (hb1.mono ?_)) <;> repeat' first | exact bF _ _ | refine bA ?_ ?_ _ | refine bS ?_ ?_ _ | refine bD ?_ | (simp; done) | (simp; omega) | (simp [z00]; done) | (simp [z00]; omega) | omega)) | (go_at_call 181; refine (z2c _ _ _ ?_ ?_ _).mono ?_; omega; omega; rintro e w' ⟨rfl, rfl⟩) | go_in)
 all_goals exact bodyPost_ret (v := .agg #[A B 0, A B ah]) (by simp [results, Tryz.results200, go_sem]) rfl ⟨rfl, by repeat' first | exact bF _ _ | refine bA ?_ ?_ _ | refine bS ?_ ?_ _ | refine bD ?_ | (simp; done) | (simp; omega) | (simp [z00]; done) | (simp [z00]; omega) | omega⟩
theorem zGy (al ah bl bh : Int) : (∀ (ha : al < 0) (w : World), Calls tP 201 #[.agg #[A B al, A B ah], .agg #[A B bl, A B bh]] w fun e w' => e = rT (.agg #[A B (-9223372036854775808), A B 9223372036854775807]) /\ Below w.heap.size w w') /\ (∀ (ha : 0 <= al) (hb : bl < 0) (w : World), Calls tP 201 #[.agg #[A B al, A B ah], .agg #[A B bl, A B bh]] w fun e w' => e = rT (.agg #[A B (-9223372036854775808), A B 9223372036854775807]) /\ Below w.heap.size w w') := by
 refine ⟨?_, ?_⟩
 intro ha w
 have _ha : decide (0 <= al) = false := by simp; omega
 rotate_left
 intro ha hb w
 have _hb : decide (0 <= bl) = false := by simp; omega
 rotate_left
 all_goals
  go_enter Tryz.func201, Tryz.ntmps201
  go_wp2_with (first | (go_at_call 141; refine (z2v _).mono ?_; rintro e w1 ⟨rfl, hb1⟩; obtain ⟨hcl1, hfr1⟩ := z0h hb1; have hs1 := hb1.size; (try simp only [z00] at hs1); (try simp at hs1); have hbw1 : Below w.heap.size w w1 := by ((refine Below.trans ?_ (hb1.mono ?_)) <;> repeat' first | exact bF _ _ | refine bA ?_ ?_ _ | refine bS ?_ ?_ _ | refine bD ?_ | (simp; done) | (simp; omega) | (simp [z00]; done) | (simp [z00]; omega) | omega)) | (go_at_call 181; refine (z2c _ _ _ ?_ ?_ _).mono ?_; omega; omega; rintro e w' ⟨rfl, rfl⟩) | go_in)
  all_goals exact bodyPost_ret (v := .agg #[A B (-9223372036854775808), A B 9223372036854775807]) (by simp [results, Tryz.results201, go_sem, hcl1]) rfl ⟨rfl, by repeat' first | exact bF _ _ | exact hbw1 | refine bA ?_ ?_ _ | refine bS ?_ ?_ _ | refine bD ?_ | (simp; done) | (simp; omega) | (simp [z00]; done) | (simp [z00]; omega) | omega⟩
def zW4 := fun al ah bl bh => (@zGy al ah bl bh).1
def zW3 := fun al ah bl bh => (@zGy al ah bl bh).2
theorem zMk (al ah bl bh : Int) (ha : 0 <= al) (hb : 0 < bl) (p1 : bh <= 9223372036854775807) (p2 : bl <= 9223372036854775807) (p3 : -9223372036854775808 <= bh) (w : World) : Calls tP 200 #[.agg #[A B al, A B ah], .agg #[A B bl, A B bh]] w fun e w' => e = rT (.agg #[A B (z0s 5 al bh), A B (z0s 5 ah bl)]) /\ Below w.heap.size w w' := by
 have hb0 : 0 <= bl := by omega
 go_enter Tryz.func200, Tryz.ntmps200
 go_wp2_with (first | (go_at_call 219; go_in))
 go_region_held3 (fun w' => w'.cell? ⟨w.heap.size, 0, none⟩ = some (A B al) /\ w'.cell? ⟨w.heap.size, 1, none⟩ = some (A B ah) /\ w'.cell? ⟨w.heap.size + 1, 0, none⟩ = some (A B bl) /\ w'.cell? ⟨w.heap.size + 1, 1, none⟩ = some (A B bh)) (first | (simp [go_sem]; done) | (simp [go_sem, *]; done) | go_keep) (first | (go_at_call 181; refine (z2c _ _ _ ?_ ?_ _).mono ?_; omega; omega; rintro e w' ⟨rfl, rfl⟩))
 all_goals go_wp2_with (first | (go_at_call 181; refine (z2c _ _ _ ?_ ?_ _).mono ?_; omega; omega; rintro e w' ⟨rfl, rfl⟩))
 all_goals exact bodyPost_ret (v := .agg #[A B (z0s 5 al bh), A B (z0s 5 ah bl)]) (by simp [results, Tryz.results200, go_sem]) rfl ⟨rfl, by repeat' first | exact bF _ _ | refine bA ?_ ?_ _ | refine bS ?_ ?_ _ | refine bD ?_ | (simp; done) | (simp; omega) | (simp [z00]; done) | (simp [z00]; omega) | omega⟩
theorem zGx (al ah bl bh : Int) (ha : 0 <= al) : (∀ (hb : 0 <= bl) (hz : bl <= 0) (w : World), Calls tP 201 #[.agg #[A B al, A B ah], .agg #[A B bl, A B bh]] w fun e w' => e = rT (.agg #[A B 0, A B ah]) /\ Below w.heap.size w w') /\ (∀ (hb : 0 < bl) (p1 : bh <= 9223372036854775807) (p3 : bl <= bh) (w : World), Calls tP 201 #[.agg #[A B al, A B ah], .agg #[A B bl, A B bh]] w fun e w' => e = rT (.agg #[A B 0, A B (min ah (bh - 1))]) /\ Below w.heap.size w w') := by
 refine ⟨?_, ?_⟩
 intro hb hz w
 have _hz : decide (0 < bl) = false := by simp; omega
 rotate_left
 intro hb p1 p3 w
 have hb0 : 0 <= bl := by omega
 rotate_left
 all_goals
  go_enter Tryz.func201, Tryz.ntmps201
  go_wp2_with (first | (go_at_call 141; refine (z2v _).mono ?_; rintro e w1 ⟨rfl, hb1⟩; obtain ⟨hcl1, hfr1⟩ := z0h hb1; have hs1 := hb1.size; (try simp only [z00] at hs1); (try simp at hs1); have hbw1 : Below w.heap.size w w1 := by ((refine Below.trans ?_ (hb1.mono ?_)) <;> repeat' first | exact bF _ _ | refine bA ?_ ?_ _ | refine bS ?_ ?_ _ | refine bD ?_ | (simp; done) | (simp; omega) | (simp [z00]; done) | (simp [z00]; omega) | omega)) | (go_at_call 181; refine (z2c _ _ _ ?_ ?_ _).mono ?_; omega; omega; rintro e w' ⟨rfl, rfl⟩) | go_in)
  all_goals exact bodyPost_ret (by simp [results, Tryz.results201, go_sem]) rfl ⟨rfl, by repeat' first | exact bF _ _ | refine bA ?_ ?_ _ | refine bS ?_ ?_ _ | refine bD ?_ | (simp; done) | (simp; omega) | (simp [z00]; done) | (simp [z00]; omega) | omega⟩
def rest_z := fun al ah bl bh ha => (@zGx al ah bl bh ha).1
def rest_p := fun al ah bl bh ha => (@zGx al ah bl bh ha).2
theorem zBa (al ah bl bh : Int) : (∀ (ha : 0 <= al) (hb : 0 <= bl) (w : World), Calls tP 202 #[.agg #[A B al, A B ah], .agg #[A B bl, A B bh]] w fun e w' => e = rT (.agg #[A B 0, A B (min ah bh)]) /\ Below w.heap.size w w') /\ (∀ (ha : 0 <= al) (hb : bl < 0) (w : World), Calls tP 202 #[.agg #[A B al, A B ah], .agg #[A B bl, A B bh]] w fun e w' => e = rT (.agg #[A B 0, A B ah]) /\ Below w.heap.size w w') /\ (∀ (ha : al < 0) (hb : 0 <= bl) (w : World), Calls tP 202 #[.agg #[A B al, A B ah], .agg #[A B bl, A B bh]] w fun e w' => e = rT (.agg #[A B 0, A B bh]) /\ Below w.heap.size w w') := by
 refine ⟨?_, ?_, ?_⟩
 all_goals
  intro ha hb w
 rotate_left
 have _hb : decide (0 <= bl) = false := by simp; omega
 rotate_left
 have _ha : decide (0 <= al) = false := by simp; omega
 rotate_left
 all_goals
  go_enter Tryz.func202, Tryz.ntmps202
  go_wp2_with (first | (go_at_call 141; refine (z2v _).mono ?_; rintro e w1 ⟨rfl, hb1⟩; obtain ⟨hcl1, hfr1⟩ := z0h hb1; have hs1 := hb1.size; (try simp only [z00] at hs1); (try simp at hs1); have hbw1 : Below w.heap.size w w1 := by ((refine Below.trans ?_ (hb1.mono ?_)) <;> repeat' first | exact bF _ _ | refine bA ?_ ?_ _ | refine bS ?_ ?_ _ | refine bD ?_ | (simp; done) | (simp; omega) | (simp [z00]; done) | (simp [z00]; omega) | omega)) | (go_at_call 181; refine (z2c _ _ _ ?_ ?_ _).mono ?_; omega; omega; rintro e w' ⟨rfl, rfl⟩) | go_in)
  all_goals exact bodyPost_ret (by simp [results, Tryz.results202, go_sem]) rfl ⟨rfl, by repeat' first | exact bF _ _ | refine bA ?_ ?_ _ | refine bS ?_ ?_ _ | refine bD ?_ | (simp; done) | (simp; omega) | (simp [z00]; done) | (simp [z00]; omega) | omega⟩
def zRa := fun al ah bl bh => (@zBa al ah bl bh).1
def zRb := fun al ah bl bh => (@zBa al ah bl bh).2.1
def zRc := fun al ah bl bh => (@zBa al ah bl bh).2.2
theorem zRd (al ah bl bh : Int) (ha : al < 0) (hb : bl < 0) (w : World) : Calls tP 202 #[.agg #[A B al, A B ah], .agg #[A B bl, A B bh]] w fun e w' => e = rT (.agg #[A B (-9223372036854775808), A B 9223372036854775807]) /\ Below w.heap.size w w' := by
 have _ha : decide (0 <= al) = false := by simp; omega
 have _hb : decide (0 <= bl) = false := by simp; omega
 go_enter Tryz.func202, Tryz.ntmps202
 go_wp2_with (first | (go_at_call 141; refine (z2v _).mono ?_; rintro e w1 ⟨rfl, hb1⟩; obtain ⟨hcl1, hfr1⟩ := z0h hb1; have hs1 := hb1.size; (try simp only [z00] at hs1); (try simp at hs1); have hbw1 : Below w.heap.size w w1 := by ((refine Below.trans ?_ (hb1.mono ?_)) <;> repeat' first | exact bF _ _ | refine bA ?_ ?_ _ | refine bS ?_ ?_ _ | refine bD ?_ | (simp; done) | (simp; omega) | (simp [z00]; done) | (simp [z00]; omega) | omega)) | (go_at_call 181; refine (z2c _ _ _ ?_ ?_ _).mono ?_; omega; omega; rintro e w' ⟨rfl, rfl⟩) | go_in)
 all_goals exact bodyPost_ret (v := .agg #[A B (-9223372036854775808), A B 9223372036854775807]) (by simp [results, Tryz.results202, go_sem, hcl1]) rfl ⟨rfl, by repeat' first | exact bF _ _ | exact hbw1 | refine bA ?_ ?_ _ | refine bS ?_ ?_ _ | refine bD ?_ | (simp; done) | (simp; omega) | (simp [z00]; done) | (simp [z00]; omega) | omega⟩
theorem zQy (lo al ah bl bh : Int) (ha : 0 <= al) (hb : 0 <= bl) (p1 : -9223372036854775808 <= max ah bh) (p2 : max ah bh <= 9223372036854775807) (w : World) : Calls tP 203 #[A B lo, .agg #[A B al, A B ah], .agg #[A B bl, A B bh]] w fun e w' => e = rT (.agg #[A B lo, A B (z56 (max ah bh))]) /\ Below w.heap.size w w' := by
 go_enter Tryz.func203, Tryz.ntmps203
 go_wp2_with (first | (go_at_call 141; refine (z2v _).mono ?_; rintro e w1 ⟨rfl, hb1⟩; obtain ⟨hcl1, hfr1⟩ := z0h hb1; have hs1 := hb1.size; (try simp only [z00] at hs1); (try simp at hs1); have hbw1 : Below w.heap.size w w1 := by ((refine Below.trans ?_ (hb1.mono ?_)) <;> repeat' first | exact bF _ _ | refine bA ?_ ?_ _ | refine bS ?_ ?_ _ | refine bD ?_ | (simp; done) | (simp; omega) | (simp [z00]; done) | (simp [z00]; omega) | omega)) | (go_at_call 220; refine (zKy _ ?_ ?_ _).mono ?_; omega; omega; rintro e w' ⟨rfl, rfl⟩) | go_in)
 all_goals exact bodyPost_ret (v := .agg #[A B lo, A B (z56 (max ah bh))]) (by simp [results, Tryz.results203, go_sem]) rfl ⟨rfl, by repeat' first | exact bF _ _ | refine bA ?_ ?_ _ | refine bS ?_ ?_ _ | refine bD ?_ | (simp; done) | (simp; omega) | (simp [z00]; done) | (simp [z00]; omega) | omega⟩
theorem zGw (lo al ah bl bh : Int) : (∀ (ha : al < 0) (w : World), Calls tP 203 #[A B lo, .agg #[A B al, A B ah], .agg #[A B bl, A B bh]] w fun e w' => e = rT (.agg #[A B (-9223372036854775808), A B 9223372036854775807]) /\ Below w.heap.size w w') /\ (∀ (ha : 0 <= al) (hb : bl < 0) (w : World), Calls tP 203 #[A B lo, .agg #[A B al, A B ah], .agg #[A B bl, A B bh]] w fun e w' => e = rT (.agg #[A B (-9223372036854775808), A B 9223372036854775807]) /\ Below w.heap.size w w') := by
 refine ⟨?_, ?_⟩
 intro ha w
 have _ha : decide (0 <= al) = false := by simp; omega
 rotate_left
 intro ha hb w
 have _hb : decide (0 <= bl) = false := by simp; omega
 rotate_left
 all_goals
  go_enter Tryz.func203, Tryz.ntmps203
  go_wp2_with (first | (go_at_call 141; refine (z2v _).mono ?_; rintro e w1 ⟨rfl, hb1⟩; obtain ⟨hcl1, hfr1⟩ := z0h hb1; have hs1 := hb1.size; (try simp only [z00] at hs1); (try simp at hs1); have hbw1 : Below w.heap.size w w1 := by ((refine Below.trans ?_ (hb1.mono ?_)) <;> repeat' first | exact bF _ _ | refine bA ?_ ?_ _ | refine bS ?_ ?_ _ | refine bD ?_ | (simp; done) | (simp; omega) | (simp [z00]; done) | (simp [z00]; omega) | omega)) | (go_at_call 220; refine (zKy _ ?_ ?_ _).mono ?_; omega; omega; rintro e w' ⟨rfl, rfl⟩) | go_in)
  all_goals exact bodyPost_ret (v := .agg #[A B (-9223372036854775808), A B 9223372036854775807]) (by simp [results, Tryz.results203, go_sem, hcl1]) rfl ⟨rfl, by repeat' first | exact bF _ _ | exact hbw1 | refine bA ?_ ?_ _ | refine bS ?_ ?_ _ | refine bD ?_ | (simp; done) | (simp; omega) | (simp [z00]; done) | (simp [z00]; omega) | omega⟩
def zR0 := fun lo al ah bl bh => (@zGw lo al ah bl bh).1
def zQz := fun lo al ah bl bh => (@zGw lo al ah bl bh).2
theorem zGv (al ah : Int) : (∀ (w : World), Calls tP 205 #[A B 10, .agg #[A B al, A B ah]] w fun e w' => e = rT (.agg #[A B (-9223372036854775808), A B 9223372036854775807]) /\ Below w.heap.size w w') /\ (∀ (ha : al < 0) (w : World), Calls tP 205 #[A B 11, .agg #[A B al, A B ah]] w fun e w' => e = rT (.agg #[A B (-9223372036854775808), A B 9223372036854775807]) /\ Below w.heap.size w w') := by
 refine ⟨?_, ?_⟩
 intro w
 rotate_left
 intro ha w
 have _ha : decide (0 <= al) = false := by simp; omega
 rotate_left
 all_goals
  go_enter Tryz.func205, Tryz.ntmps205
  go_wp2_with (first | (go_at_call 141; refine (z2v _).mono ?_; rintro e w1 ⟨rfl, hb1⟩; obtain ⟨hcl1, hfr1⟩ := z0h hb1; have hs1 := hb1.size; (try simp only [z00] at hs1); (try simp at hs1); have hbw1 : Below w.heap.size w w1 := by ((refine Below.trans ?_ (hb1.mono ?_)) <;> repeat' first | exact bF _ _ | refine bA ?_ ?_ _ | refine bS ?_ ?_ _ | refine bD ?_ | (simp; done) | (simp; omega) | (simp [z00]; done) | (simp [z00]; omega) | omega)) | (go_at_call 181; refine (z2c _ _ _ ?_ ?_ _).mono ?_; omega; omega; rintro e w' ⟨rfl, rfl⟩) | go_in)
  all_goals exact bodyPost_ret (v := .agg #[A B (-9223372036854775808), A B 9223372036854775807]) (by simp [results, Tryz.results205, go_sem, hcl1]) rfl ⟨rfl, by repeat' first | exact bF _ _ | exact hbw1 | refine bA ?_ ?_ _ | refine bS ?_ ?_ _ | refine bD ?_ | (simp; done) | (simp; omega) | (simp [z00]; done) | (simp [z00]; omega) | omega⟩
def any_10 := fun al ah => (@zGv al ah).1
def any_11 := fun al ah => (@zGv al ah).2
theorem zB9  : (∀ (c al ah : Int) (hc : c = 11 \/ c = 12) (ha : 0 <= al) (w : World), Calls tP 205 #[A B c, .agg #[A B al, A B ah]] w fun e w' => e = rT (.agg #[A B 0, A B ah]) /\ Below w.heap.size w w') /\ (∀ (al ah : Int) (ha : al < 0) (hh : ah < 0) (w : World), Calls tP 205 #[A B 12, .agg #[A B al, A B ah]] w fun e w' => e = rT (.agg #[A B al, A B (-1)]) /\ Below w.heap.size w w') /\ (∀ (al ah : Int) (ha : al < 0) (hh : 0 <= ah) (w : World), Calls tP 205 #[A B 12, .agg #[A B al, A B ah]] w fun e w' => e = rT (.agg #[A B al, A B ah]) /\ Below w.heap.size w w') := by
 refine ⟨?_, ?_, ?_⟩
 intro c al ah hc ha w
 have _hc : (c == 10) = false := by simp; omega
 rotate_left
 intro al ah ha hh w
 have _ha : decide (0 <= al) = false := by simp; omega
 rotate_left
 intro al ah ha hh w
 have _ha : decide (0 <= al) = false := by simp; omega
 have _hh : decide (ah < 0) = false := by simp; omega
 rotate_left
 all_goals
  go_enter Tryz.func205, Tryz.ntmps205
  go_wp2_with (first | (go_at_call 141; refine (z2v _).mono ?_; rintro e w1 ⟨rfl, hb1⟩; obtain ⟨hcl1, hfr1⟩ := z0h hb1; have hs1 := hb1.size; (try simp only [z00] at hs1); (try simp at hs1); have hbw1 : Below w.heap.size w w1 := by ((refine Below.trans ?_ (hb1.mono ?_)) <;> repeat' first | exact bF _ _ | refine bA ?_ ?_ _ | refine bS ?_ ?_ _ | refine bD ?_ | (simp; done) | (simp; omega) | (simp [z00]; done) | (simp [z00]; omega) | omega)) | (go_at_call 181; refine (z2c _ _ _ ?_ ?_ _).mono ?_; omega; omega; rintro e w' ⟨rfl, rfl⟩) | go_in)
  all_goals exact bodyPost_ret (by simp [results, Tryz.results205, go_sem]) rfl ⟨rfl, by repeat' first | exact bF _ _ | refine bA ?_ ?_ _ | refine bS ?_ ?_ _ | refine bD ?_ | (simp; done) | (simp; omega) | (simp [z00]; done) | (simp [z00]; omega) | omega⟩
def any_p := zB9.1
def zXz := zB9.2.1
def any_12 := zB9.2.2
theorem zMb (al ah : Int) (k : Int) (h0 : 0 <= k) (h1 : k < 64) (w : World) : Calls tP 204 #[A B 10, .agg #[A B al, A B ah], A B k] w fun e w' => e = rT (.agg #[A B ((fit2 (al * 2 ^ k.toNat) (ah * 2 ^ k.toNat)).1), A B ((fit2 (al * 2 ^ k.toNat) (ah * 2 ^ k.toNat)).2)]) /\ Below w.heap.size w w' := by
 go_enter Tryz.func204, Tryz.ntmps204
 go_wp2_with fail
 go_region_held3 (fun w' => w'.cell? ⟨w.heap.size, 0, none⟩ = some (A B al) /\ w'.cell? ⟨w.heap.size, 1, none⟩ = some (A B ah)) (first | (simp [go_sem]; done) | (simp [go_sem, *]; done) | go_keep) (first | (go_at_call 221; refine (zDc _ _ ?_ ?_ _).mono ?_; omega; omega; rintro e w' ⟨rfl, rfl⟩) | (go_at_call 197; refine (zE8 _ _ ?_ ?_ ?_ ?_ _).mono ?_; omega; omega; omega; omega; rintro e w' ⟨rfl, rfl⟩) | (go_at_call 198; refine (z9l _ _ ?_ ?_ ?_ ?_ _).mono ?_; omega; omega; omega; omega; rintro e w' ⟨rfl, rfl⟩) | (go_at_call 196; refine (z5o _ _ _).mono ?_; rintro e w1 ⟨rfl, hb1⟩; obtain ⟨hcl1, hfr1⟩ := z0h hb1; have hs1 := hb1.size; (try simp only [z00] at hs1); (try simp at hs1); have hbw1 : Below w.heap.size w w1 := by ((refine Below.trans ?_ (hb1.mono ?_)) <;> repeat' first | exact bF _ _ | refine bA ?_ ?_ _ | refine bS ?_ ?_ _ | refine bD ?_ | (simp; done) | (simp; omega) | (simp [z00]; done) | (simp [z00]; omega) | omega)))
 all_goals go_wp2_with (first | (go_at_call 221; refine (zDc _ _ ?_ ?_ _).mono ?_; omega; omega; rintro e w' ⟨rfl, rfl⟩) | (go_at_call 197; refine (zE8 _ _ ?_ ?_ ?_ ?_ _).mono ?_; omega; omega; omega; omega; rintro e w' ⟨rfl, rfl⟩) | (go_at_call 198; refine (z9l _ _ ?_ ?_ ?_ ?_ _).mono ?_; omega; omega; omega; omega; rintro e w' ⟨rfl, rfl⟩) | (go_at_call 196; refine (z5o _ _ _).mono ?_; rintro e w1 ⟨rfl, hb1⟩; obtain ⟨hcl1, hfr1⟩ := z0h hb1; have hs1 := hb1.size; (try simp only [z00] at hs1); (try simp at hs1); have hbw1 : Below w.heap.size w w1 := by ((refine Below.trans ?_ (hb1.mono ?_)) <;> repeat' first | exact bF _ _ | refine bA ?_ ?_ _ | refine bS ?_ ?_ _ | refine bD ?_ | (simp; done) | (simp; omega) | (simp [z00]; done) | (simp [z00]; omega) | omega)))
 all_goals exact bodyPost_ret (v := .agg #[A B ((fit2 (al * 2 ^ k.toNat) (ah * 2 ^ k.toNat)).1), A B ((fit2 (al * 2 ^ k.toNat) (ah * 2 ^ k.toNat)).2)]) (by simp [results, Tryz.results204, go_sem, hcl1]) rfl ⟨rfl, by repeat' first | exact bF _ _ | exact hbw1 | refine bA ?_ ?_ _ | refine bS ?_ ?_ _ | refine bD ?_ | (simp; done) | (simp; omega) | (simp [z00]; done) | (simp [z00]; omega) | omega⟩
theorem zI3 (al ah : Int) (k : Int) (h0 : 0 <= k) (h1 : k < 64) (hk : 0 < k) (ha : al < 0) (w : World) : Calls tP 204 #[A B 11, .agg #[A B al, A B ah], A B k] w fun e w' => e = rT (.agg #[A B 0, A B (z0s 11 (-1) k)]) /\ Below w.heap.size w w' := by
 go_enter Tryz.func204, Tryz.ntmps204
 go_wp2_with (first | (go_at_call 181; refine (z2c _ _ _ ?_ ?_ _).mono ?_; omega; omega; rintro e w' ⟨rfl, rfl⟩))
 all_goals exact bodyPost_ret (v := .agg #[A B 0, A B (z0s 11 (-1) k)]) (by simp [results, Tryz.results204, go_sem]) rfl ⟨rfl, by repeat' first | exact bF _ _ | refine bA ?_ ?_ _ | refine bS ?_ ?_ _ | refine bD ?_ | (simp; done) | (simp; omega) | (simp [z00]; done) | (simp [z00]; omega) | omega⟩
theorem zB8 (al ah : Int) (k : Int) (h0 : 0 <= k) (h1 : k < 64) : (∀ (hk : k = 0) (w : World), Calls tP 204 #[A B 11, .agg #[A B al, A B ah], A B k] w fun e w' => e = rT (.agg #[A B (z0s 11 al k), A B (z0s 11 ah k)]) /\ Below w.heap.size w w') /\ (∀ (hk : 0 < k) (ha : 0 <= al) (w : World), Calls tP 204 #[A B 11, .agg #[A B al, A B ah], A B k] w fun e w' => e = rT (.agg #[A B (z0s 11 al k), A B (z0s 11 ah k)]) /\ Below w.heap.size w w') /\ (∀ (w : World), Calls tP 204 #[A B 12, .agg #[A B al, A B ah], A B k] w fun e w' => e = rT (.agg #[A B (z0s 12 al k), A B (z0s 12 ah k)]) /\ Below w.heap.size w w') := by
 refine ⟨?_, ?_, ?_⟩
 intro hk w
 have _hk : decide (0 < k) = false := by simp; omega
 clear hk
 rotate_left
 intro hk ha w
 have _ha : decide (al < 0) = false := by simp; omega
 rotate_left
 intro w
 rotate_left
 all_goals
  go_enter Tryz.func204, Tryz.ntmps204
  go_wp2_with fail
  go_region_held3 (fun w' => w'.cell? ⟨w.heap.size, 0, none⟩ = some (A B al) /\ w'.cell? ⟨w.heap.size, 1, none⟩ = some (A B ah)) (first | (simp [go_sem]; done) | (simp [go_sem, *]; done) | go_keep) (first | (go_at_call 181; refine (z2c _ _ _ ?_ ?_ _).mono ?_; omega; omega; rintro e w' ⟨rfl, rfl⟩))
  all_goals go_wp2_with (first | (go_at_call 181; refine (z2c _ _ _ ?_ ?_ _).mono ?_; omega; omega; rintro e w' ⟨rfl, rfl⟩))
  all_goals exact bodyPost_ret (by simp [results, Tryz.results204, go_sem]) rfl ⟨rfl, by repeat' first | exact bF _ _ | refine bA ?_ ?_ _ | refine bS ?_ ?_ _ | refine bD ?_ | (simp; done) | (simp; omega) | (simp [z00]; done) | (simp [z00]; omega) | omega⟩
def zI1 := fun al ah k h0 h1 => (@zB8 al ah k h0 h1).1
def zI2 := fun al ah k h0 h1 => (@zB8 al ah k h0 h1).2.1
def zMa := fun al ah k h0 h1 => (@zB8 al ah k h0 h1).2.2
theorem zVj (x0 x1 x2 x3 : Int) (w : World) : (Instr.index 53 (.agg #[A B x0, A B x1, A B x2, A B x3]) (A B 0)).run tP w = .ok (A B x0) w := by kernel_rfl
theorem zVi (x0 x1 x2 x3 : Int) (w : World) : (Instr.index 53 (.agg #[A B x0, A B x1, A B x2, A B x3]) (A B 1)).run tP w = .ok (A B x1) w := by kernel_rfl
theorem zVh (x0 x1 x2 x3 : Int) (w : World) : (Instr.index 53 (.agg #[A B x0, A B x1, A B x2, A B x3]) (A B 2)).run tP w = .ok (A B x2) w := by kernel_rfl
theorem zVg (x0 x1 x2 x3 : Int) (w : World) : (Instr.index 53 (.agg #[A B x0, A B x1, A B x2, A B x3]) (A B 3)).run tP w = .ok (A B x3) w := by kernel_rfl
theorem idx3_0 (x0 x1 x2 : Int) (w : World) : (Instr.index 364 (.agg #[A B x0, A B x1, A B x2]) (A B 0)).run tP w = .ok (A B x0) w := by kernel_rfl
theorem idx3_1 (x0 x1 x2 : Int) (w : World) : (Instr.index 364 (.agg #[A B x0, A B x1, A B x2]) (A B 1)).run tP w = .ok (A B x1) w := by kernel_rfl
theorem idx3_2 (x0 x1 x2 : Int) (w : World) : (Instr.index 364 (.agg #[A B x0, A B x1, A B x2]) (A B 2)).run tP w = .ok (A B x2) w := by kernel_rfl
def Firsts (p q r s : Int) (k : Nat) (lo hi : Int) : Prop :=
 (k = 0 /\ lo = p /\ hi = p) \/ (k = 1 /\ lo = min p q /\ hi = max p q) \/ (k = 2 /\ lo = min (min p q) r /\ hi = max (max p q) r) \/ (k = 3 /\ lo = min (min (min p q) r) s /\ hi = max (max (max p q) r) s)
def z19 (m r : Nat) (lo hi : Int) (w : World) : Prop :=
 (m < w.heap.size /\ w.cell? ⟨m, 0, none⟩ = some (A B lo) /\ w.cell? ⟨m, 1, none⟩ = some (A B hi) /\ w.frozen? ⟨m, 0, none⟩ = false /\ w.frozen? ⟨m, 1, none⟩ = false)
 /\ (r < w.heap.size /\ w.cell? ⟨r, 0, none⟩ = some (A B 0) /\ w.cell? ⟨r, 1, none⟩ = some (A B 0) /\ w.frozen? ⟨r, 0, none⟩ = false /\ w.frozen? ⟨r, 1, none⟩ = false)
theorem z19.later {m r : Nat} {lo hi : Int} {W w1 : World} (h : z19 m r lo hi W) (hb : Below W.heap.size W w1) : z19 m r lo hi w1 := by
 obtain ⟨⟨h0, a0, a1, a2, a3⟩, h1, b0, b1, b2, b3⟩ := h
 have hs := hb.size
 exact ⟨⟨by omega, (hb.cell (p := ⟨m, 0, none⟩) h0).trans a0, (hb.cell (p := ⟨m, 1, none⟩) h0).trans a1, (hb.frozen (p := ⟨m, 0, none⟩) h0).trans a2, (hb.frozen (p := ⟨m, 1, none⟩) h0).trans a3⟩,
  by omega, (hb.cell (p := ⟨r, 0, none⟩) h1).trans b0, (hb.cell (p := ⟨r, 1, none⟩) h1).trans b1, (hb.frozen (p := ⟨r, 0, none⟩) h1).trans b2, (hb.frozen (p := ⟨r, 1, none⟩) h1).trans b3⟩
theorem z19.drew {m r : Nat} {lo hi : Int} {W : World} (h : z19 m r lo hi W) : z19 m r lo hi W.drew := h
theorem z19.put {m r : Nat} {lo hi x y : Int} {W : World} (h : z19 m r lo hi W) (hmr : m ≠ r) : z19 m r x y ((W.setCell ⟨m, 0, none⟩ (A B x)).setCell ⟨m, 1, none⟩ (A B y)) := by
 obtain ⟨⟨h0, a0, a1, a2, a3⟩, h1, b0, b1, b2, b3⟩ := h
 refine ⟨⟨by simp [World.setCell]; exact h0, ?_, ?_, ?_, ?_⟩, by simp [World.setCell]; exact h1, ?_, ?_, ?_, ?_⟩ <;> simp [go_sem, *]
theorem zI9 (al ah bl bh : Int) (ha : -2147483648 <= al) (ha2 : al <= 2147483648) (hb : -2147483648 <= ah) (hb2 : ah <= 2147483648) (hc : -2147483648 <= bl) (hc2 : bl <= 2147483648) (hd : -2147483648 <= bh) (hd2 : bh <= 2147483648) (w : World) : Calls tP 199 #[.agg #[A B al, A B ah], .agg #[A B bl, A B bh]] w fun e w' => e = rT (.agg #[A B (min (min (min (wrap64 (al * bl)) (wrap64 (al * bh))) (wrap64 (ah * bl))) (wrap64 (ah * bh))), A B (max (max (max (wrap64 (al * bl)) (wrap64 (al * bh))) (wrap64 (ah * bl))) (wrap64 (ah * bh)))]) /\ Below w.heap.size w w' := by
 have i40 := zVj al ah bl bh
 have i41 := zVi al ah bl bh
 have i42 := zVh al ah bl bh
 have i43 := zVg al ah bl bh
 have i30 := idx3_0 (wrap64 (al * bh)) (wrap64 (ah * bl)) (wrap64 (ah * bh))
 have i31 := idx3_1 (wrap64 (al * bh)) (wrap64 (ah * bl)) (wrap64 (ah * bh))
 have i32 := idx3_2 (wrap64 (al * bh)) (wrap64 (ah * bl)) (wrap64 (ah * bh))
 go_enter Tryz.func199, Tryz.ntmps199
 go_wp2_with (first | (go_at_call 100; refine (z29 _ _).mono ?_; rintro e w' ⟨rfl, rfl⟩) | go_in)
 refine wp_loop_rounds 5 ?_
 repeat any_goals (rw [rounds_succ]; go_wp2_with (first | (go_at_call 100; refine (z29 _ _).mono ?_; rintro e w' ⟨rfl, rfl⟩) | go_in))
 go_loopw [52] (fun ix wr => ∃ (k : Nat) (lo hi : Int), Firsts (wrap64 (al * bl)) (wrap64 (al * bh)) (wrap64 (ah * bl)) (wrap64 (ah * bh)) k lo hi /\ ix = A B k /\ Below w.heap.size w wr /\ z19 (w.heap.size + 1 + 1 + 1 + 1 + 1 + 1 + 1 + 1 + 1) (w.heap.size + 1 + 1) lo hi wr) (fun ix _ => 3 - (intOf ix).toNat)
 case atStart => exact ⟨0, _, _, Or.inl ⟨rfl, rfl, rfl⟩, rfl, by repeat' first | exact bF _ _ | refine bA ?_ ?_ _ | refine bS ?_ ?_ _ | refine bD ?_ | (simp; done) | (simp; omega) | (simp [z00]; done) | (simp [z00]; omega) | omega, ⟨by (simp; try omega), by simp [go_sem], by simp [go_sem], by simp [go_sem], by simp [go_sem]⟩, by (simp; try omega), by simp [go_sem], by simp [go_sem], by simp [go_sem], by simp [go_sem]⟩
 case round =>
  obtain ⟨k, lo, hi, hk, rfl, hbw, hX⟩ := hrel
  have hmr : w.heap.size + 1 + 1 + 1 + 1 + 1 + 1 + 1 + 1 + 1 ≠ w.heap.size + 1 + 1 := by omega
  have hw1 : w.heap.size <= w.heap.size + 1 + 1 + 1 + 1 + 1 + 1 + 1 + 1 + 1 := by omega
  have hw2 : w.heap.size <= w.heap.size + 1 + 1 := by omega
  generalize w.heap.size + 1 + 1 + 1 + 1 + 1 + 1 + 1 + 1 + 1 = m at *
  generalize w.heap.size + 1 + 1 = r at *
  obtain ⟨⟨m0, c0, c1, f0, f1⟩, n0, r0, r1, z0, z1⟩ := hX
  have hX : z19 m r lo hi wr := ⟨⟨m0, c0, c1, f0, f1⟩, n0, r0, r1, z0, z1⟩
  have hsz := hbw.size
  have hsz : w.heap.size <= wr.heap.size := hbw.size
  rcases hk with ⟨rfl, hlo, hhi⟩ | ⟨rfl, hlo, hhi⟩ | ⟨rfl, hlo, hhi⟩ | ⟨rfl, rfl, rfl⟩
  ·have Hlo : Hid (_ = _) := hlo
   have Hhi : Hid (_ = _) := hhi
   clear hlo hhi
   go_wp2_with (first | (go_at_call 100; go_must (refine (z2p _ _).mono ?_; rintro e w1 ⟨rfl, hb1⟩; have hbw1 : Below w.heap.size w w1 := (by ((refine Below.trans ?_ (hb1.mono ?_)) <;> (first | exact hbw | exact hbw.drew | exact hbw1 | exact hbw1.drew | exact hsz | exact hsz1))); have hX1 : z19 m r lo hi w1 := z19.later (by first | exact hX.drew | exact hX) hb1; have hsz1 : w.heap.size <= w1.heap.size := hbw1.size; obtain ⟨⟨m1, c01, c11, f01, f11⟩, n1, r01, r11, z01, z11⟩ := hX1; have hX1 : z19 m r lo hi w1 := ⟨⟨m1, c01, c11, f01, f11⟩, n1, r01, r11, z01, z11⟩)) | (go_at_call 71; go_must (refine (z34 _ _ _ _ _).mono ?_; rintro e w2 ⟨rfl, hb2⟩; have hbw2 : Below w.heap.size w w2 := (by ((refine Below.trans ?_ (hb2.mono ?_)) <;> (first | exact hbw | exact hbw.drew | exact hbw1 | exact hbw1.drew | exact hsz | exact hsz1))); have hX2 : z19 m r lo hi w2 := z19.later (by first | exact hX1 | exact hX1.drew) hb2; have hsz2 : w.heap.size <= w2.heap.size := hbw2.size; obtain ⟨⟨m2, c02, c12, f02, f12⟩, n2, r02, r12, z02, z12⟩ := hX2; have hX2 : z19 m r lo hi w2 := ⟨⟨m2, c02, c12, f02, f12⟩, n2, r02, r12, z02, z12⟩)))
   go_region_with (first | (go_at_call 100; go_must (refine (z2p _ _).mono ?_; rintro e w1 ⟨rfl, hb1⟩; have hbw1 : Below w.heap.size w w1 := (by ((refine Below.trans ?_ (hb1.mono ?_)) <;> (first | exact hbw | exact hbw.drew | exact hbw1 | exact hbw1.drew | exact hsz | exact hsz1))); have hX1 : z19 m r lo hi w1 := z19.later (by first | exact hX.drew | exact hX) hb1; have hsz1 : w.heap.size <= w1.heap.size := hbw1.size; obtain ⟨⟨m1, c01, c11, f01, f11⟩, n1, r01, r11, z01, z11⟩ := hX1; have hX1 : z19 m r lo hi w1 := ⟨⟨m1, c01, c11, f01, f11⟩, n1, r01, r11, z01, z11⟩)) | (go_at_call 71; go_must (refine (z34 _ _ _ _ _).mono ?_; rintro e w2 ⟨rfl, hb2⟩; have hbw2 : Below w.heap.size w w2 := (by ((refine Below.trans ?_ (hb2.mono ?_)) <;> (first | exact hbw | exact hbw.drew | exact hbw1 | exact hbw1.drew | exact hsz | exact hsz1))); have hX2 : z19 m r lo hi w2 := z19.later (by first | exact hX1 | exact hX1.drew) hb2; have hsz2 : w.heap.size <= w2.heap.size := hbw2.size; obtain ⟨⟨m2, c02, c12, f02, f12⟩, n2, r02, r12, z02, z12⟩ := hX2; have hX2 : z19 m r lo hi w2 := ⟨⟨m2, c02, c12, f02, f12⟩, n2, r02, r12, z02, z12⟩)))
   all_goals go_wp2_with (first | (go_at_call 100; go_must (refine (z2p _ _).mono ?_; rintro e w1 ⟨rfl, hb1⟩; have hbw1 : Below w.heap.size w w1 := (by ((refine Below.trans ?_ (hb1.mono ?_)) <;> (first | exact hbw | exact hbw.drew | exact hbw1 | exact hbw1.drew | exact hsz | exact hsz1))); have hX1 : z19 m r lo hi w1 := z19.later (by first | exact hX.drew | exact hX) hb1; have hsz1 : w.heap.size <= w1.heap.size := hbw1.size; obtain ⟨⟨m1, c01, c11, f01, f11⟩, n1, r01, r11, z01, z11⟩ := hX1; have hX1 : z19 m r lo hi w1 := ⟨⟨m1, c01, c11, f01, f11⟩, n1, r01, r11, z01, z11⟩)) | (go_at_call 71; go_must (refine (z34 _ _ _ _ _).mono ?_; rintro e w2 ⟨rfl, hb2⟩; have hbw2 : Below w.heap.size w w2 := (by ((refine Below.trans ?_ (hb2.mono ?_)) <;> (first | exact hbw | exact hbw.drew | exact hbw1 | exact hbw1.drew | exact hsz | exact hsz1))); have hX2 : z19 m r lo hi w2 := z19.later (by first | exact hX1 | exact hX1.drew) hb2; have hsz2 : w.heap.size <= w2.heap.size := hbw2.size; obtain ⟨⟨m2, c02, c12, f02, f12⟩, n2, r02, r12, z02, z12⟩ := hX2; have hX2 : z19 m r lo hi w2 := ⟨⟨m2, c02, c12, f02, f12⟩, n2, r02, r12, z02, z12⟩)))
   all_goals exact ⟨⟨1, _, _, Or.inr (Or.inl ⟨rfl, by rw [Hlo.out], by rw [Hhi.out]⟩), rfl, (hbw2.setCell hw1 _).setCell hw1 _, hX2.put hmr⟩, by simp [intOf]⟩
  ·have Hlo : Hid (_ = _) := hlo
   have Hhi : Hid (_ = _) := hhi
   clear hlo hhi
   go_wp2_with (first | (go_at_call 100; go_must (refine (z2p _ _).mono ?_; rintro e w1 ⟨rfl, hb1⟩; have hbw1 : Below w.heap.size w w1 := (by ((refine Below.trans ?_ (hb1.mono ?_)) <;> (first | exact hbw | exact hbw.drew | exact hbw1 | exact hbw1.drew | exact hsz | exact hsz1))); have hX1 : z19 m r lo hi w1 := z19.later (by first | exact hX.drew | exact hX) hb1; have hsz1 : w.heap.size <= w1.heap.size := hbw1.size; obtain ⟨⟨m1, c01, c11, f01, f11⟩, n1, r01, r11, z01, z11⟩ := hX1; have hX1 : z19 m r lo hi w1 := ⟨⟨m1, c01, c11, f01, f11⟩, n1, r01, r11, z01, z11⟩)) | (go_at_call 71; go_must (refine (z34 _ _ _ _ _).mono ?_; rintro e w2 ⟨rfl, hb2⟩; have hbw2 : Below w.heap.size w w2 := (by ((refine Below.trans ?_ (hb2.mono ?_)) <;> (first | exact hbw | exact hbw.drew | exact hbw1 | exact hbw1.drew | exact hsz | exact hsz1))); have hX2 : z19 m r lo hi w2 := z19.later (by first | exact hX1 | exact hX1.drew) hb2; have hsz2 : w.heap.size <= w2.heap.size := hbw2.size; obtain ⟨⟨m2, c02, c12, f02, f12⟩, n2, r02, r12, z02, z12⟩ := hX2; have hX2 : z19 m r lo hi w2 := ⟨⟨m2, c02, c12, f02, f12⟩, n2, r02, r12, z02, z12⟩)))
   go_region_with (first | (go_at_call 100; go_must (refine (z2p _ _).mono ?_; rintro e w1 ⟨rfl, hb1⟩; have hbw1 : Below w.heap.size w w1 := (by ((refine Below.trans ?_ (hb1.mono ?_)) <;> (first | exact hbw | exact hbw.drew | exact hbw1 | exact hbw1.drew | exact hsz | exact hsz1))); have hX1 : z19 m r lo hi w1 := z19.later (by first | exact hX.drew | exact hX) hb1; have hsz1 : w.heap.size <= w1.heap.size := hbw1.size; obtain ⟨⟨m1, c01, c11, f01, f11⟩, n1, r01, r11, z01, z11⟩ := hX1; have hX1 : z19 m r lo hi w1 := ⟨⟨m1, c01, c11, f01, f11⟩, n1, r01, r11, z01, z11⟩)) | (go_at_call 71; go_must (refine (z34 _ _ _ _ _).mono ?_; rintro e w2 ⟨rfl, hb2⟩; have hbw2 : Below w.heap.size w w2 := (by ((refine Below.trans ?_ (hb2.mono ?_)) <;> (first | exact hbw | exact hbw.drew | exact hbw1 | exact hbw1.drew | exact hsz | exact hsz1))); have hX2 : z19 m r lo hi w2 := z19.later (by first | exact hX1 | exact hX1.drew) hb2; have hsz2 : w.heap.size <= w2.heap.size := hbw2.size; obtain ⟨⟨m2, c02, c12, f02, f12⟩, n2, r02, r12, z02, z12⟩ := hX2; have hX2 : z19 m r lo hi w2 := ⟨⟨m2, c02, c12, f02, f12⟩, n2, r02, r12, z02, z12⟩)))
   all_goals go_wp2_with (first | (go_at_call 100; go_must (refine (z2p _ _).mono ?_; rintro e w1 ⟨rfl, hb1⟩; have hbw1 : Below w.heap.size w w1 := (by ((refine Below.trans ?_ (hb1.mono ?_)) <;> (first | exact hbw | exact hbw.drew | exact hbw1 | exact hbw1.drew | exact hsz | exact hsz1))); have hX1 : z19 m r lo hi w1 := z19.later (by first | exact hX.drew | exact hX) hb1; have hsz1 : w.heap.size <= w1.heap.size := hbw1.size; obtain ⟨⟨m1, c01, c11, f01, f11⟩, n1, r01, r11, z01, z11⟩ := hX1; have hX1 : z19 m r lo hi w1 := ⟨⟨m1, c01, c11, f01, f11⟩, n1, r01, r11, z01, z11⟩)) | (go_at_call 71; go_must (refine (z34 _ _ _ _ _).mono ?_; rintro e w2 ⟨rfl, hb2⟩; have hbw2 : Below w.heap.size w w2 := (by ((refine Below.trans ?_ (hb2.mono ?_)) <;> (first | exact hbw | exact hbw.drew | exact hbw1 | exact hbw1.drew | exact hsz | exact hsz1))); have hX2 : z19 m r lo hi w2 := z19.later (by first | exact hX1 | exact hX1.drew) hb2; have hsz2 : w.heap.size <= w2.heap.size := hbw2.size; obtain ⟨⟨m2, c02, c12, f02, f12⟩, n2, r02, r12, z02, z12⟩ := hX2; have hX2 : z19 m r lo hi w2 := ⟨⟨m2, c02, c12, f02, f12⟩, n2, r02, r12, z02, z12⟩)))
   all_goals exact ⟨⟨2, _, _, Or.inr (Or.inr (Or.inl ⟨rfl, by rw [Hlo.out], by rw [Hhi.out]⟩)), rfl, (hbw2.setCell hw1 _).setCell hw1 _, hX2.put hmr⟩, by simp [intOf]⟩
  ·have Hlo : Hid (_ = _) := hlo
   have Hhi : Hid (_ = _) := hhi
   clear hlo hhi
   go_wp2_with (first | (go_at_call 100; go_must (refine (z2p _ _).mono ?_; rintro e w1 ⟨rfl, hb1⟩; have hbw1 : Below w.heap.size w w1 := (by ((refine Below.trans ?_ (hb1.mono ?_)) <;> (first | exact hbw | exact hbw.drew | exact hbw1 | exact hbw1.drew | exact hsz | exact hsz1))); have hX1 : z19 m r lo hi w1 := z19.later (by first | exact hX.drew | exact hX) hb1; have hsz1 : w.heap.size <= w1.heap.size := hbw1.size; obtain ⟨⟨m1, c01, c11, f01, f11⟩, n1, r01, r11, z01, z11⟩ := hX1; have hX1 : z19 m r lo hi w1 := ⟨⟨m1, c01, c11, f01, f11⟩, n1, r01, r11, z01, z11⟩)) | (go_at_call 71; go_must (refine (z34 _ _ _ _ _).mono ?_; rintro e w2 ⟨rfl, hb2⟩; have hbw2 : Below w.heap.size w w2 := (by ((refine Below.trans ?_ (hb2.mono ?_)) <;> (first | exact hbw | exact hbw.drew | exact hbw1 | exact hbw1.drew | exact hsz | exact hsz1))); have hX2 : z19 m r lo hi w2 := z19.later (by first | exact hX1 | exact hX1.drew) hb2; have hsz2 : w.heap.size <= w2.heap.size := hbw2.size; obtain ⟨⟨m2, c02, c12, f02, f12⟩, n2, r02, r12, z02, z12⟩ := hX2; have hX2 : z19 m r lo hi w2 := ⟨⟨m2, c02, c12, f02, f12⟩, n2, r02, r12, z02, z12⟩)))
   go_region_with (first | (go_at_call 100; go_must (refine (z2p _ _).mono ?_; rintro e w1 ⟨rfl, hb1⟩; have hbw1 : Below w.heap.size w w1 := (by ((refine Below.trans ?_ (hb1.mono ?_)) <;> (first | exact hbw | exact hbw.drew | exact hbw1 | exact hbw1.drew | exact hsz | exact hsz1))); have hX1 : z19 m r lo hi w1 := z19.later (by first | exact hX.drew | exact hX) hb1; have hsz1 : w.heap.size <= w1.heap.size := hbw1.size; obtain ⟨⟨m1, c01, c11, f01, f11⟩, n1, r01, r11, z01, z11⟩ := hX1; have hX1 : z19 m r lo hi w1 := ⟨⟨m1, c01, c11, f01, f11⟩, n1, r01, r11, z01, z11⟩)) | (go_at_call 71; go_must (refine (z34 _ _ _ _ _).mono ?_; rintro e w2 ⟨rfl, hb2⟩; have hbw2 : Below w.heap.size w w2 := (by ((refine Below.trans ?_ (hb2.mono ?_)) <;> (first | exact hbw | exact hbw.drew | exact hbw1 | exact hbw1.drew | exact hsz | exact hsz1))); have hX2 : z19 m r lo hi w2 := z19.later (by first | exact hX1 | exact hX1.drew) hb2; have hsz2 : w.heap.size <= w2.heap.size := hbw2.size; obtain ⟨⟨m2, c02, c12, f02, f12⟩, n2, r02, r12, z02, z12⟩ := hX2; have hX2 : z19 m r lo hi w2 := ⟨⟨m2, c02, c12, f02, f12⟩, n2, r02, r12, z02, z12⟩)))
   all_goals go_wp2_with (first | (go_at_call 100; go_must (refine (z2p _ _).mono ?_; rintro e w1 ⟨rfl, hb1⟩; have hbw1 : Below w.heap.size w w1 := (by ((refine Below.trans ?_ (hb1.mono ?_)) <;> (first | exact hbw | exact hbw.drew | exact hbw1 | exact hbw1.drew | exact hsz | exact hsz1))); have hX1 : z19 m r lo hi w1 := z19.later (by first | exact hX.drew | exact hX) hb1; have hsz1 : w.heap.size <= w1.heap.size := hbw1.size; obtain ⟨⟨m1, c01, c11, f01, f11⟩, n1, r01, r11, z01, z11⟩ := hX1; have hX1 : z19 m r lo hi w1 := ⟨⟨m1, c01, c11, f01, f11⟩, n1, r01, r11, z01, z11⟩)) | (go_at_call 71; go_must (refine (z34 _ _ _ _ _).mono ?_; rintro e w2 ⟨rfl, hb2⟩; have hbw2 : Below w.heap.size w w2 := (by ((refine Below.trans ?_ (hb2.mono ?_)) <;> (first | exact hbw | exact hbw.drew | exact hbw1 | exact hbw1.drew | exact hsz | exact hsz1))); have hX2 : z19 m r lo hi w2 := z19.later (by first | exact hX1 | exact hX1.drew) hb2; have hsz2 : w.heap.size <= w2.heap.size := hbw2.size; obtain ⟨⟨m2, c02, c12, f02, f12⟩, n2, r02, r12, z02, z12⟩ := hX2; have hX2 : z19 m r lo hi w2 := ⟨⟨m2, c02, c12, f02, f12⟩, n2, r02, r12, z02, z12⟩)))
   all_goals exact ⟨⟨3, _, _, Or.inr (Or.inr (Or.inr ⟨rfl, by rw [Hlo.out], by rw [Hhi.out]⟩)), rfl, (hbw2.setCell hw1 _).setCell hw1 _, hX2.put hmr⟩, by simp [intOf]⟩
  ·go_wp2_with (first | (go_at_call 100; go_must (refine (z2p _ _).mono ?_; rintro e w1 ⟨rfl, hb1⟩; have hbw1 : Below w.heap.size w w1 := (by ((refine Below.trans ?_ (hb1.mono ?_)) <;> (first | exact hbw | exact hbw.drew | exact hbw1 | exact hbw1.drew | exact hsz | exact hsz1))); have hX1 : z19 m r lo hi w1 := z19.later (by first | exact hX.drew | exact hX) hb1; have hsz1 : w.heap.size <= w1.heap.size := hbw1.size; obtain ⟨⟨m1, c01, c11, f01, f11⟩, n1, r01, r11, z01, z11⟩ := hX1; have hX1 : z19 m r lo hi w1 := ⟨⟨m1, c01, c11, f01, f11⟩, n1, r01, r11, z01, z11⟩)) | (go_at_call 71; go_must (refine (z34 _ _ _ _ _).mono ?_; rintro e w2 ⟨rfl, hb2⟩; have hbw2 : Below w.heap.size w w2 := (by ((refine Below.trans ?_ (hb2.mono ?_)) <;> (first | exact hbw | exact hbw.drew | exact hbw1 | exact hbw1.drew | exact hsz | exact hsz1))); have hX2 : z19 m r lo hi w2 := z19.later (by first | exact hX1 | exact hX1.drew) hb2; have hsz2 : w.heap.size <= w2.heap.size := hbw2.size; obtain ⟨⟨m2, c02, c12, f02, f12⟩, n2, r02, r12, z02, z12⟩ := hX2; have hX2 : z19 m r lo hi w2 := ⟨⟨m2, c02, c12, f02, f12⟩, n2, r02, r12, z02, z12⟩)))
   exact bodyPost_ret (v := .agg #[A B (min (min (min (wrap64 (al * bl)) (wrap64 (al * bh))) (wrap64 (ah * bl))) (wrap64 (ah * bh))), A B (max (max (max (wrap64 (al * bl)) (wrap64 (al * bh))) (wrap64 (ah * bl))) (wrap64 (ah * bh)))]) (by simp [results, Tryz.results199, go_sem, r0, r1]) rfl ⟨rfl, (hbw.setCell hw2 _).setCell hw2 _⟩
theorem zGq (n : Int) (w : World) : Calls tP 218 #[.agg #[A B (-2147483648), A B 2147483648], A B n] w fun e w' => e = rT (.bool (z2g n)) /\ w' = w.alloc (cT #[A B (-2147483648), A B 2147483648] 122) := by
 unfold z2g
 by_cases h1 : -2147483648 <= n
 ·go_enter Tryz.func218, Tryz.ntmps218
  go_wp2
  go_ret
  exact ⟨z7h (by simp [h1]), rfl⟩
 ·have h2 : decide (-2147483648 <= n) = false := by simpa using h1
  rw [h2, Bool.false_and]
  go_enter Tryz.func218, Tryz.ntmps218
  go_wp2
  go_ret
  exact ⟨rfl, rfl⟩
theorem z7v (al ah bl bh : Int) : (∀ (h0 : z2g al = false) (w : World), Calls tP 199 #[.agg #[A B al, A B ah], .agg #[A B bl, A B bh]] w fun e w' => e = rT (.agg #[A B (-9223372036854775808), A B 9223372036854775807]) /\ Below w.heap.size w w') /\ (∀ (h0 : z2g al = true) (h1 : z2g ah = false) (w : World), Calls tP 199 #[.agg #[A B al, A B ah], .agg #[A B bl, A B bh]] w fun e w' => e = rT (.agg #[A B (-9223372036854775808), A B 9223372036854775807]) /\ Below w.heap.size w w') /\ (∀ (h0 : z2g al = true) (h1 : z2g ah = true) (h2 : z2g bl = false) (w : World), Calls tP 199 #[.agg #[A B al, A B ah], .agg #[A B bl, A B bh]] w fun e w' => e = rT (.agg #[A B (-9223372036854775808), A B 9223372036854775807]) /\ Below w.heap.size w w') /\ (∀ (h0 : z2g al = true) (h1 : z2g ah = true) (h2 : z2g bl = true) (h3 : z2g bh = false) (w : World), Calls tP 199 #[.agg #[A B al, A B ah], .agg #[A B bl, A B bh]] w fun e w' => e = rT (.agg #[A B (-9223372036854775808), A B 9223372036854775807]) /\ Below w.heap.size w w') := by
 refine ⟨?_, ?_, ?_, ?_⟩
 intro h0 w
 rotate_left
 intro h0 h1 w
 rotate_left
 intro h0 h1 h2 w
 rotate_left
 intro h0 h1 h2 h3 w
 rotate_left
 all_goals
  have i40 := zVj al ah bl bh
  have i41 := zVi al ah bl bh
  have i42 := zVh al ah bl bh
  have i43 := zVg al ah bl bh
 all_goals
  go_enter Tryz.func199, Tryz.ntmps199
  go_wp2_with (first | (go_at_call 218; refine (zGq _ _).mono ?_; rintro e w' ⟨rfl, rfl⟩) | (go_at_call 141; refine (z2v _).mono ?_; rintro e w1 ⟨rfl, hb1⟩; obtain ⟨hcl1, hfr1⟩ := z0h hb1; have hs1 := hb1.size; (try simp only [z00] at hs1); (try simp at hs1); have hbw1 : Below w.heap.size w w1 := by ((refine Below.trans ?_ (hb1.mono ?_)) <;> repeat' first | exact bF _ _ | refine bA ?_ ?_ _ | refine bS ?_ ?_ _ | refine bD ?_ | (simp; done) | (simp; omega) | (simp [z00]; done) | (simp [z00]; omega) | omega)))
  refine wp_loop_rounds 5 ?_
  repeat any_goals (rw [rounds_succ]; go_wp2_with (first | (go_at_call 218; refine (zGq _ _).mono ?_; rintro e w' ⟨rfl, rfl⟩) | (go_at_call 141; refine (z2v _).mono ?_; rintro e w1 ⟨rfl, hb1⟩; obtain ⟨hcl1, hfr1⟩ := z0h hb1; have hs1 := hb1.size; (try simp only [z00] at hs1); (try simp at hs1); have hbw1 : Below w.heap.size w w1 := by ((refine Below.trans ?_ (hb1.mono ?_)) <;> repeat' first | exact bF _ _ | refine bA ?_ ?_ _ | refine bS ?_ ?_ _ | refine bD ?_ | (simp; done) | (simp; omega) | (simp [z00]; done) | (simp [z00]; omega) | omega))))
  all_goals exact bodyPost_ret (v := .agg #[A B (-9223372036854775808), A B 9223372036854775807]) (by simp [results, Tryz.results199, go_sem, hcl1]) rfl ⟨rfl, by repeat' first | exact bF _ _ | exact hbw1 | refine bA ?_ ?_ _ | refine bS ?_ ?_ _ | refine bD ?_ | (simp; done) | (simp; omega) | (simp [z00]; done) | (simp [z00]; omega) | omega⟩
def zId := fun al ah bl bh => (@z7v al ah bl bh).1
def zIc := fun al ah bl bh => (@z7v al ah bl bh).2.1
def zIb := fun al ah bl bh => (@z7v al ah bl bh).2.2.1
def zIa := fun al ah bl bh => (@z7v al ah bl bh).2.2.2
theorem zMl (al ah bl bh : Int) (w : World) : Calls tP 199 #[.agg #[A B al, A B ah], .agg #[A B bl, A B bh]] w fun e w' => e = rT (.agg #[A B ((bdV 4 al ah bl bh).1), A B ((bdV 4 al ah bl bh).2)]) /\ Below w.heap.size w w' := by
 rw [zXp]
 cases h0 : z2g al
 ·exact zId al ah bl bh h0 w
 cases h1 : z2g ah
 ·exact zIc al ah bl bh h0 h1 w
 cases h2 : z2g bl
 ·exact zIb al ah bl bh h0 h1 h2 w
 cases h3 : z2g bh
 ·exact zIa al ah bl bh h0 h1 h2 h3 w
 have k0 := (z3y _).1 h0
 have k1 := (z3y _).1 h1
 have k2 := (z3y _).1 h2
 have k3 := (z3y _).1 h3
 have e := zI9 al ah bl bh k0.1 k0.2 k1.1 k1.2 k2.1 k2.2 k3.1 k3.2 w
 rw [z3h h0 h2, z3h h0 h3, z3h h1 h2, z3h h1 h3] at e
 exact e
theorem bdo_1 (al ah bl bh : Int) (w : World) : Calls tP 178 #[A B 1, .agg #[A B al, A B ah], .agg #[A B bl, A B bh]] w fun e w' => e = rT (.agg #[A B bl, A B bh]) /\ Below w.heap.size w w' := by
 go_enter Tryz.func178, Tryz.ntmps178
 go_wp2_with fail
 all_goals exact bodyPost_ret (v := .agg #[A B bl, A B bh]) (by simp [results, Tryz.results178, go_sem]) rfl ⟨rfl, by repeat' first | exact bF _ _ | refine bA ?_ ?_ _ | refine bS ?_ ?_ _ | refine bD ?_ | (simp; done) | (simp; omega) | (simp [z00]; done) | (simp [z00]; omega) | omega⟩
theorem z8q (al ah bl bh : Int) (pal : -9223372036854775808 <= al) (qal : al <= 9223372036854775807) (pah : -9223372036854775808 <= ah) (qah : ah <= 9223372036854775807) : (∀ (pbl : -9223372036854775808 <= bl) (qbl : bl <= 9223372036854775807) (pbh : -9223372036854775808 <= bh) (qbh : bh <= 9223372036854775807) (w : World), Calls tP 178 #[A B 2, .agg #[A B al, A B ah], .agg #[A B bl, A B bh]] w fun e w' => e = rT (.agg #[A B ((fit2 (al + bl) (ah + bh)).1), A B ((fit2 (al + bl) (ah + bh)).2)]) /\ Below w.heap.size w w') /\ (∀ (pbl : -9223372036854775808 <= bl) (qbl : bl <= 9223372036854775807) (pbh : -9223372036854775808 <= bh) (qbh : bh <= 9223372036854775807) (w : World), Calls tP 178 #[A B 3, .agg #[A B al, A B ah], .agg #[A B bl, A B bh]] w fun e w' => e = rT (.agg #[A B ((fit2 (al - bh) (ah - bl)).1), A B ((fit2 (al - bh) (ah - bl)).2)]) /\ Below w.heap.size w w') /\ (∀ (w : World), Calls tP 178 #[A B 13, .agg #[A B al, A B ah], .agg #[A B bl, A B bh]] w fun e w' => e = rT (.agg #[A B ((fit2 (-ah) (-al)).1), A B ((fit2 (-ah) (-al)).2)]) /\ Below w.heap.size w w') := by
 refine ⟨?_, ?_, ?_⟩
 intro pbl qbl pbh qbh w
 rotate_left
 intro pbl qbl pbh qbh w
 rotate_left
 intro w
 rotate_left
 all_goals
  go_enter Tryz.func178, Tryz.ntmps178
  go_wp2_with fail
  go_region_held3 (fun w' => w'.cell? ⟨w.heap.size, 0, none⟩ = some (A B al) /\ w'.cell? ⟨w.heap.size, 1, none⟩ = some (A B ah) /\ w'.cell? ⟨w.heap.size + 1, 0, none⟩ = some (A B bl) /\ w'.cell? ⟨w.heap.size + 1, 1, none⟩ = some (A B bh)) (first | (simp [go_sem]; done) | (simp [go_sem, *]; done) | go_keep) (first | (go_at_call 197; refine (zE8 _ _ ?_ ?_ ?_ ?_ _).mono ?_; omega; omega; omega; omega; rintro e w' ⟨rfl, rfl⟩) | (go_at_call 198; refine (z9l _ _ ?_ ?_ ?_ ?_ _).mono ?_; omega; omega; omega; omega; rintro e w' ⟨rfl, rfl⟩) | (go_at_call 196; refine (z5o _ _ _).mono ?_; rintro e w1 ⟨rfl, hb1⟩; obtain ⟨hcl1, hfr1⟩ := z0h hb1; have hs1 := hb1.size; (try simp only [z00] at hs1); (try simp at hs1); have hbw1 : Below w.heap.size w w1 := by ((refine Below.trans ?_ (hb1.mono ?_)) <;> repeat' first | exact bF _ _ | refine bA ?_ ?_ _ | refine bS ?_ ?_ _ | refine bD ?_ | (simp; done) | (simp; omega) | (simp [z00]; done) | (simp [z00]; omega) | omega)))
  all_goals go_wp2_with (first | (go_at_call 197; refine (zE8 _ _ ?_ ?_ ?_ ?_ _).mono ?_; omega; omega; omega; omega; rintro e w' ⟨rfl, rfl⟩) | (go_at_call 198; refine (z9l _ _ ?_ ?_ ?_ ?_ _).mono ?_; omega; omega; omega; omega; rintro e w' ⟨rfl, rfl⟩) | (go_at_call 196; refine (z5o _ _ _).mono ?_; rintro e w1 ⟨rfl, hb1⟩; obtain ⟨hcl1, hfr1⟩ := z0h hb1; have hs1 := hb1.size; (try simp only [z00] at hs1); (try simp at hs1); have hbw1 : Below w.heap.size w w1 := by ((refine Below.trans ?_ (hb1.mono ?_)) <;> repeat' first | exact bF _ _ | refine bA ?_ ?_ _ | refine bS ?_ ?_ _ | refine bD ?_ | (simp; done) | (simp; omega) | (simp [z00]; done) | (simp [z00]; omega) | omega)))
  all_goals exact bodyPost_ret (by simp [results, Tryz.results178, go_sem, hcl1]) rfl ⟨rfl, by repeat' first | exact bF _ _ | exact hbw1 | refine bA ?_ ?_ _ | refine bS ?_ ?_ _ | refine bD ?_ | (simp; done) | (simp; omega) | (simp [z00]; done) | (simp [z00]; omega) | omega⟩
def bdo_2 := fun al ah bl bh pal qal pah qah => (@z8q al ah bl bh pal qal pah qah).1
def bdo_3 := fun al ah bl bh pal qal pah qah => (@z8q al ah bl bh pal qal pah qah).2.1
def bdo_13 := fun al ah bl bh pal qal pah qah => (@z8q al ah bl bh pal qal pah qah).2.2
theorem bdo_4 (al ah bl bh : Int) (w : World) : Calls tP 178 #[A B 4, .agg #[A B al, A B ah], .agg #[A B bl, A B bh]] w fun e w' => e = rT (.agg #[A B ((bdV 4 al ah bl bh).1), A B ((bdV 4 al ah bl bh).2)]) /\ Below w.heap.size w w' := by
 go_enter Tryz.func178, Tryz.ntmps178
 go_wp2_with (first | (go_at_call 199; refine (zMl _ _ _ _ _).mono ?_; rintro e w1 ⟨rfl, hb1⟩; obtain ⟨hcl1, hfr1⟩ := z0h hb1; have hs1 := hb1.size; (try simp only [z00] at hs1); (try simp at hs1); have hbw1 : Below w.heap.size w w1 := by ((refine Below.trans ?_ (hb1.mono ?_)) <;> repeat' first | exact bF _ _ | refine bA ?_ ?_ _ | refine bS ?_ ?_ _ | refine bD ?_ | (simp; done) | (simp; omega) | (simp [z00]; done) | (simp [z00]; omega) | omega)))
 all_goals exact bodyPost_ret (v := .agg #[A B ((bdV 4 al ah bl bh).1), A B ((bdV 4 al ah bl bh).2)]) (by simp [results, Tryz.results178, go_sem, hcl1]) rfl ⟨rfl, by repeat' first | exact bF _ _ | exact hbw1 | refine bA ?_ ?_ _ | refine bS ?_ ?_ _ | refine bD ?_ | (simp; done) | (simp; omega) | (simp [z00]; done) | (simp [z00]; omega) | omega⟩
theorem zI8 (al ah bl bh : Int) (pal : -9223372036854775808 <= al) (qal : al <= 9223372036854775807) (pah : -9223372036854775808 <= ah) (qah : ah <= 9223372036854775807) (pbl : -9223372036854775808 <= bl) (qbl : bl <= 9223372036854775807) (pbh : -9223372036854775808 <= bh) (qbh : bh <= 9223372036854775807) (oa : al <= ah) (ob : bl <= bh) (w : World) : Calls tP 200 #[.agg #[A B al, A B ah], .agg #[A B bl, A B bh]] w fun e w' => e = rT (.agg #[A B ((bdV 5 al ah bl bh).1), A B ((bdV 5 al ah bl bh).2)]) /\ Below w.heap.size w w' := by
 rw [zXo]
 by_cases ha : 0 <= al
 ·by_cases hb : 0 <= bl
  ·rw [if_pos ⟨ha, hb⟩]
   by_cases hz : 0 < bl
   ·rw [if_pos hz, <- z9q ha qal (by omega) qbh, <- z9q (by omega) qah hz qbl]
    exact zMk al ah bl bh ha hz qbh qbl pbh w
   ·rw [if_neg hz]
    exact zMj al ah bl bh ha hb (by omega) w
  ·rw [if_neg (fun h => hb h.2)]
   exact zI6 al ah bl bh ha (by omega) w
 ·rw [if_neg (fun h => ha h.1)]
  exact zI7 al ah bl bh (by omega) w
theorem zW5 (al ah bl bh : Int) (qbh : bh <= 9223372036854775807) (ob : bl <= bh) (w : World) : Calls tP 201 #[.agg #[A B al, A B ah], .agg #[A B bl, A B bh]] w fun e w' => e = rT (.agg #[A B ((bdV 6 al ah bl bh).1), A B ((bdV 6 al ah bl bh).2)]) /\ Below w.heap.size w w' := by
 rw [zXn]
 by_cases ha : 0 <= al
 ·by_cases hb : 0 <= bl
  ·rw [if_pos ⟨ha, hb⟩]
   by_cases hz : 0 < bl
   ·rw [if_pos hz]
    exact rest_p al ah bl bh ha hz qbh ob w
   ·rw [if_neg hz]
    exact rest_z al ah bl bh ha hb (by omega) w
  ·rw [if_neg (fun h => hb h.2)]
   exact zW3 al ah bl bh ha (by omega) w
 ·rw [if_neg (fun h => ha h.1)]
  exact zW4 al ah bl bh (by omega) w
theorem zRe (al ah bl bh : Int) (w : World) : Calls tP 202 #[.agg #[A B al, A B ah], .agg #[A B bl, A B bh]] w fun e w' => e = rT (.agg #[A B ((bdV 7 al ah bl bh).1), A B ((bdV 7 al ah bl bh).2)]) /\ Below w.heap.size w w' := by
 rw [zXm]
 by_cases ha : 0 <= al
 ·rw [if_pos ha]
  by_cases hb : 0 <= bl
  ·rw [if_pos hb]
   exact zRa al ah bl bh ha hb w
  ·rw [if_neg hb]
   exact zRb al ah bl bh ha (by omega) w
 ·rw [if_neg ha]
  by_cases hb : 0 <= bl
  ·rw [if_pos hb]
   exact zRc al ah bl bh (by omega) hb w
  ·rw [if_neg hb]
   exact zRd al ah bl bh (by omega) (by omega) w
theorem bdo_5 (al ah bl bh : Int) (pal : -9223372036854775808 <= al) (qal : al <= 9223372036854775807) (pah : -9223372036854775808 <= ah) (qah : ah <= 9223372036854775807) (pbl : -9223372036854775808 <= bl) (qbl : bl <= 9223372036854775807) (pbh : -9223372036854775808 <= bh) (qbh : bh <= 9223372036854775807) (oa : al <= ah) (ob : bl <= bh) (w : World) : Calls tP 178 #[A B 5, .agg #[A B al, A B ah], .agg #[A B bl, A B bh]] w fun e w' => e = rT (.agg #[A B ((bdV 5 al ah bl bh).1), A B ((bdV 5 al ah bl bh).2)]) /\ Below w.heap.size w w' := by
 go_enter Tryz.func178, Tryz.ntmps178
 go_wp2_with (first | (go_at_call 200; refine (zI8 _ _ _ _ pal qal pah qah pbl qbl pbh qbh oa ob _).mono ?_; rintro e w1 ⟨rfl, hb1⟩; obtain ⟨hcl1, hfr1⟩ := z0h hb1; have hs1 := hb1.size; (try simp only [z00] at hs1); (try simp at hs1); have hbw1 : Below w.heap.size w w1 := by ((refine Below.trans ?_ (hb1.mono ?_)) <;> repeat' first | exact bF _ _ | refine bA ?_ ?_ _ | refine bS ?_ ?_ _ | refine bD ?_ | (simp; done) | (simp; omega) | (simp [z00]; done) | (simp [z00]; omega) | omega)))
 all_goals exact bodyPost_ret (v := .agg #[A B ((bdV 5 al ah bl bh).1), A B ((bdV 5 al ah bl bh).2)]) (by simp [results, Tryz.results178, go_sem, hcl1]) rfl ⟨rfl, by repeat' first | exact bF _ _ | exact hbw1 | refine bA ?_ ?_ _ | refine bS ?_ ?_ _ | refine bD ?_ | (simp; done) | (simp; omega) | (simp [z00]; done) | (simp [z00]; omega) | omega⟩
theorem bdo_6 (al ah bl bh : Int) (qbh : bh <= 9223372036854775807) (ob : bl <= bh) (w : World) : Calls tP 178 #[A B 6, .agg #[A B al, A B ah], .agg #[A B bl, A B bh]] w fun e w' => e = rT (.agg #[A B ((bdV 6 al ah bl bh).1), A B ((bdV 6 al ah bl bh).2)]) /\ Below w.heap.size w w' := by
 go_enter Tryz.func178, Tryz.ntmps178
 go_wp2_with (first | (go_at_call 201; refine (zW5 _ _ _ _ qbh ob _).mono ?_; rintro e w1 ⟨rfl, hb1⟩; obtain ⟨hcl1, hfr1⟩ := z0h hb1; have hs1 := hb1.size; (try simp only [z00] at hs1); (try simp at hs1); have hbw1 : Below w.heap.size w w1 := by ((refine Below.trans ?_ (hb1.mono ?_)) <;> repeat' first | exact bF _ _ | refine bA ?_ ?_ _ | refine bS ?_ ?_ _ | refine bD ?_ | (simp; done) | (simp; omega) | (simp [z00]; done) | (simp [z00]; omega) | omega)))
 all_goals exact bodyPost_ret (v := .agg #[A B ((bdV 6 al ah bl bh).1), A B ((bdV 6 al ah bl bh).2)]) (by simp [results, Tryz.results178, go_sem, hcl1]) rfl ⟨rfl, by repeat' first | exact bF _ _ | exact hbw1 | refine bA ?_ ?_ _ | refine bS ?_ ?_ _ | refine bD ?_ | (simp; done) | (simp; omega) | (simp [z00]; done) | (simp [z00]; omega) | omega⟩
theorem bdo_7 (al ah bl bh : Int) (w : World) : Calls tP 178 #[A B 7, .agg #[A B al, A B ah], .agg #[A B bl, A B bh]] w fun e w' => e = rT (.agg #[A B ((bdV 7 al ah bl bh).1), A B ((bdV 7 al ah bl bh).2)]) /\ Below w.heap.size w w' := by
 go_enter Tryz.func178, Tryz.ntmps178
 go_wp2_with (first | (go_at_call 202; refine (zRe _ _ _ _ _).mono ?_; rintro e w1 ⟨rfl, hb1⟩; obtain ⟨hcl1, hfr1⟩ := z0h hb1; have hs1 := hb1.size; (try simp only [z00] at hs1); (try simp at hs1); have hbw1 : Below w.heap.size w w1 := by ((refine Below.trans ?_ (hb1.mono ?_)) <;> repeat' first | exact bF _ _ | refine bA ?_ ?_ _ | refine bS ?_ ?_ _ | refine bD ?_ | (simp; done) | (simp; omega) | (simp [z00]; done) | (simp [z00]; omega) | omega)))
 all_goals exact bodyPost_ret (v := .agg #[A B ((bdV 7 al ah bl bh).1), A B ((bdV 7 al ah bl bh).2)]) (by simp [results, Tryz.results178, go_sem, hcl1]) rfl ⟨rfl, by repeat' first | exact bF _ _ | exact hbw1 | refine bA ?_ ?_ _ | refine bS ?_ ?_ _ | refine bD ?_ | (simp; done) | (simp; omega) | (simp [z00]; done) | (simp [z00]; omega) | omega⟩
theorem zR1 (lo al ah bl bh : Int) (pal : -9223372036854775808 <= al) (qal : al <= 9223372036854775807) (pah : -9223372036854775808 <= ah) (qah : ah <= 9223372036854775807) (pbl : -9223372036854775808 <= bl) (qbl : bl <= 9223372036854775807) (pbh : -9223372036854775808 <= bh) (qbh : bh <= 9223372036854775807) (w : World) : Calls tP 203 #[A B lo, .agg #[A B al, A B ah], .agg #[A B bl, A B bh]] w fun e w' => e = rT (.agg #[A B (((if 0 <= al /\ 0 <= bl then (lo, z56 (max ah bh)) else (-9223372036854775808, 9223372036854775807) : Int × Int)).1), A B (((if 0 <= al /\ 0 <= bl then (lo, z56 (max ah bh)) else (-9223372036854775808, 9223372036854775807) : Int × Int)).2)]) /\ Below w.heap.size w w' := by
 by_cases ha : 0 <= al
 ·by_cases hb : 0 <= bl
  ·rw [if_pos ⟨ha, hb⟩]
   exact zQy lo al ah bl bh ha hb (by omega) (by omega) w
  ·rw [if_neg (fun h => hb h.2)]
   exact zQz lo al ah bl bh ha (by omega) w
 ·rw [if_neg (fun h => ha h.1)]
  exact zR0 lo al ah bl bh (by omega) w
def filV (lo al ah bl bh : Int) : Int × Int := if 0 <= al /\ 0 <= bl then (lo, z56 (max ah bh)) else (-9223372036854775808, 9223372036854775807)
theorem zR2 (lo al ah bl bh : Int) (pal : -9223372036854775808 <= al) (qal : al <= 9223372036854775807) (pah : -9223372036854775808 <= ah) (qah : ah <= 9223372036854775807) (pbl : -9223372036854775808 <= bl) (qbl : bl <= 9223372036854775807) (pbh : -9223372036854775808 <= bh) (qbh : bh <= 9223372036854775807) (w : World) : Calls tP 203 #[A B lo, .agg #[A B al, A B ah], .agg #[A B bl, A B bh]] w fun e w' => e = rT (.agg #[A B ((filV lo al ah bl bh).1), A B ((filV lo al ah bl bh).2)]) /\ Below w.heap.size w w' := zR1 lo al ah bl bh pal qal pah qah pbl qbl pbh qbh w
theorem zD9 (al ah bl bh : Int) (pal : -9223372036854775808 <= al) (qal : al <= 9223372036854775807) (pah : -9223372036854775808 <= ah) (qah : ah <= 9223372036854775807) (pbl : -9223372036854775808 <= bl) (qbl : bl <= 9223372036854775807) (pbh : -9223372036854775808 <= bh) (qbh : bh <= 9223372036854775807) (w : World) : (Calls tP 178 #[A B 8, .agg #[A B al, A B ah], .agg #[A B bl, A B bh]] w fun e w' => e = rT (.agg #[A B ((filV (max al bl) al ah bl bh).1), A B ((filV (max al bl) al ah bl bh).2)]) /\ Below w.heap.size w w') /\ (Calls tP 178 #[A B 9, .agg #[A B al, A B ah], .agg #[A B bl, A B bh]] w fun e w' => e = rT (.agg #[A B ((filV 0 al ah bl bh).1), A B ((filV 0 al ah bl bh).2)]) /\ Below w.heap.size w w') := by
 refine ⟨?_, ?_⟩
 all_goals
  go_enter Tryz.func178, Tryz.ntmps178
  go_wp2_with (first | (go_at_call 203; refine (zR2 _ _ _ _ _ pal qal pah qah pbl qbl pbh qbh _).mono ?_; rintro e w1 ⟨rfl, hb1⟩; obtain ⟨hcl1, hfr1⟩ := z0h hb1; have hs1 := hb1.size; (try simp only [z00] at hs1); (try simp at hs1); have hbw1 : Below w.heap.size w w1 := by ((refine Below.trans ?_ (hb1.mono ?_)) <;> repeat' first | exact bF _ _ | refine bA ?_ ?_ _ | refine bS ?_ ?_ _ | refine bD ?_ | (simp; done) | (simp; omega) | (simp [z00]; done) | (simp [z00]; omega) | omega)))
  all_goals exact bodyPost_ret (by simp [results, Tryz.results178, go_sem, hcl1]) rfl ⟨rfl, by repeat' first | exact bF _ _ | exact hbw1 | refine bA ?_ ?_ _ | refine bS ?_ ?_ _ | refine bD ?_ | (simp; done) | (simp; omega) | (simp [z00]; done) | (simp [z00]; omega) | omega⟩
def bdo_8 := fun al ah bl bh pal qal pah qah pbl qbl pbh qbh w => (@zD9 al ah bl bh pal qal pah qah pbl qbl pbh qbh w).1
def bdo_9 := fun al ah bl bh pal qal pah qah pbl qbl pbh qbh w => (@zD9 al ah bl bh pal qal pah qah pbl qbl pbh qbh w).2
def shV (c al ah k : Int) : Int × Int :=
 if c = 10 then fit2 (al * 2 ^ k.toNat) (ah * 2 ^ k.toNat) else if c = 11 /\ 0 < k /\ al < 0 then (0, z0s 11 (-1) k) else (z0s c al k, z0s c ah k)
def anyV (c al ah : Int) : Int × Int :=
 if c = 10 then (-9223372036854775808, 9223372036854775807) else if 0 <= al then (0, ah) else if c = 11 then (-9223372036854775808, 9223372036854775807) else if ah < 0 then (al, -1) else (al, ah)
theorem z4b (c al ah k : Int) (hc : c = 10 \/ c = 11 \/ c = 12) (h0 : 0 <= k) (h1 : k < 64) (w : World) : Calls tP 204 #[A B c, .agg #[A B al, A B ah], A B k] w fun e w' => e = rT (.agg #[A B ((shV c al ah k).1), A B ((shV c al ah k).2)]) /\ Below w.heap.size w w' := by
 rcases hc with rfl | rfl | rfl
 ·exact zMb al ah k h0 h1 w
 ·by_cases hk : 0 < k
  ·by_cases ha : al < 0
   ·have e : shV 11 al ah k = (0, z0s 11 (-1) k) := by unfold shV; rw [if_neg (by decide), if_pos ⟨rfl, hk, ha⟩]
    rw [e]
    exact zI3 al ah k h0 h1 hk ha w
   ·have e : shV 11 al ah k = (z0s 11 al k, z0s 11 ah k) := by unfold shV; rw [if_neg (by decide), if_neg (fun h => ha h.2.2)]
    rw [e]
    exact zI2 al ah k h0 h1 hk (by omega) w
  ·have e : shV 11 al ah k = (z0s 11 al k, z0s 11 ah k) := by unfold shV; rw [if_neg (by decide), if_neg (fun h => hk h.2.1)]
   rw [e]
   exact zI1 al ah k h0 h1 (by omega) w
 ·exact zMa al ah k h0 h1 w
theorem zDk (c al ah : Int) (hc : c = 10 \/ c = 11 \/ c = 12) (w : World) : Calls tP 205 #[A B c, .agg #[A B al, A B ah]] w fun e w' => e = rT (.agg #[A B ((anyV c al ah).1), A B ((anyV c al ah).2)]) /\ Below w.heap.size w w' := by
 by_cases h10 : c = 10
 ·subst h10
  exact any_10 al ah w
 ·by_cases ha : 0 <= al
  ·have e : anyV c al ah = (0, ah) := by unfold anyV; rw [if_neg h10, if_pos ha]
   rw [e]
   exact any_p c al ah (by omega) ha w
  ·by_cases h11 : c = 11
   ·subst h11
    have e : anyV 11 al ah = (-9223372036854775808, 9223372036854775807) := by unfold anyV; rw [if_neg (by decide), if_neg ha, if_pos rfl]
    rw [e]
    exact any_11 al ah (by omega) w
   ·obtain rfl : c = 12 := by omega
    by_cases hh : ah < 0
    ·have e : anyV 12 al ah = (al, -1) := by unfold anyV; rw [if_neg (by decide), if_neg ha, if_neg (by decide), if_pos hh]
     rw [e]
     exact zXz al ah (by omega) hh w
    ·have e : anyV 12 al ah = (al, ah) := by unfold anyV; rw [if_neg (by decide), if_neg ha, if_neg (by decide), if_neg hh]
     rw [e]
     exact any_12 al ah (by omega) (by omega) w
theorem zXi (al ah bl : Int) (w : World) : Calls tP 178 #[A B 10, .agg #[A B al, A B ah], .agg #[A B bl, A B bl]] w fun e w' => e = rT (.agg #[A B ((shV 10 al ah (bl % 64)).1), A B ((shV 10 al ah (bl % 64)).2)]) /\ Below w.heap.size w w' := by
 have hx := zO8 bl
 go_enter Tryz.func178, Tryz.ntmps178
 go_wp2_with fail
 go_region_held3 (fun w' => w'.cell? ⟨w.heap.size + 1, 0, none⟩ = some (A B bl) /\ w'.cell? ⟨w.heap.size + 1, 1, none⟩ = some (A B bl)) (first | (simp [go_sem]; done) | (simp [go_sem, *]; done) | go_keep) (first | (go_at_call 100; refine (z29 _ _).mono ?_; rintro e w' ⟨rfl, rfl⟩) | (go_at_call 204; refine (z4b 10 _ _ _ (by decide) (Int.emod_nonneg _ (by decide)) (Int.emod_lt_of_pos _ (by decide)) _).mono ?_; rintro e w1 ⟨rfl, hb1⟩; obtain ⟨hcl1, hfr1⟩ := z0h hb1; have hs1 := hb1.size; (try simp only [z00] at hs1); (try simp at hs1); have hbw1 : Below w.heap.size w w1 := by ((refine Below.trans ?_ (hb1.mono ?_)) <;> repeat' first | exact bF _ _ | refine bA ?_ ?_ _ | refine bS ?_ ?_ _ | refine bD ?_ | (simp; done) | (simp; omega) | (simp [z00]; done) | (simp [z00]; omega) | omega)))
 all_goals go_wp2_with (first | (go_at_call 100; refine (z29 _ _).mono ?_; rintro e w' ⟨rfl, rfl⟩) | (go_at_call 204; refine (z4b 10 _ _ _ (by decide) (Int.emod_nonneg _ (by decide)) (Int.emod_lt_of_pos _ (by decide)) _).mono ?_; rintro e w1 ⟨rfl, hb1⟩; obtain ⟨hcl1, hfr1⟩ := z0h hb1; have hs1 := hb1.size; (try simp only [z00] at hs1); (try simp at hs1); have hbw1 : Below w.heap.size w w1 := by ((refine Below.trans ?_ (hb1.mono ?_)) <;> repeat' first | exact bF _ _ | refine bA ?_ ?_ _ | refine bS ?_ ?_ _ | refine bD ?_ | (simp; done) | (simp; omega) | (simp [z00]; done) | (simp [z00]; omega) | omega)))
 all_goals exact bodyPost_ret (v := .agg #[A B ((shV 10 al ah (bl % 64)).1), A B ((shV 10 al ah (bl % 64)).2)]) (by simp [results, Tryz.results178, go_sem, hcl1]) rfl ⟨rfl, by repeat' first | exact bF _ _ | exact hbw1 | refine bA ?_ ?_ _ | refine bS ?_ ?_ _ | refine bD ?_ | (simp; done) | (simp; omega) | (simp [z00]; done) | (simp [z00]; omega) | omega⟩
theorem zXh (al ah bl bh : Int) (hne : ¬ bh = bl) (w : World) : Calls tP 178 #[A B 10, .agg #[A B al, A B ah], .agg #[A B bl, A B bh]] w fun e w' => e = rT (.agg #[A B ((anyV 10 al ah).1), A B ((anyV 10 al ah).2)]) /\ Below w.heap.size w w' := by
 go_enter Tryz.func178, Tryz.ntmps178
 go_wp2_with fail
 go_region_held3 (fun w' => w'.cell? ⟨w.heap.size + 1, 0, none⟩ = some (A B bl) /\ w'.cell? ⟨w.heap.size + 1, 1, none⟩ = some (A B bh)) (first | (simp [go_sem]; done) | (simp [go_sem, *]; done) | go_keep) (first | (go_at_call 100; refine (z29 _ _).mono ?_; rintro e w' ⟨rfl, rfl⟩) | (go_at_call 205; refine (zDk 10 _ _ (by decide) _).mono ?_; rintro e w1 ⟨rfl, hb1⟩; obtain ⟨hcl1, hfr1⟩ := z0h hb1; have hs1 := hb1.size; (try simp only [z00] at hs1); (try simp at hs1); have hbw1 : Below w.heap.size w w1 := by ((refine Below.trans ?_ (hb1.mono ?_)) <;> repeat' first | exact bF _ _ | refine bA ?_ ?_ _ | refine bS ?_ ?_ _ | refine bD ?_ | (simp; done) | (simp; omega) | (simp [z00]; done) | (simp [z00]; omega) | omega)))
 all_goals go_wp2_with (first | (go_at_call 100; refine (z29 _ _).mono ?_; rintro e w' ⟨rfl, rfl⟩) | (go_at_call 205; refine (zDk 10 _ _ (by decide) _).mono ?_; rintro e w1 ⟨rfl, hb1⟩; obtain ⟨hcl1, hfr1⟩ := z0h hb1; have hs1 := hb1.size; (try simp only [z00] at hs1); (try simp at hs1); have hbw1 : Below w.heap.size w w1 := by ((refine Below.trans ?_ (hb1.mono ?_)) <;> repeat' first | exact bF _ _ | refine bA ?_ ?_ _ | refine bS ?_ ?_ _ | refine bD ?_ | (simp; done) | (simp; omega) | (simp [z00]; done) | (simp [z00]; omega) | omega)))
 all_goals exact bodyPost_ret (v := .agg #[A B ((anyV 10 al ah).1), A B ((anyV 10 al ah).2)]) (by simp [results, Tryz.results178, go_sem, hcl1]) rfl ⟨rfl, by repeat' first | exact bF _ _ | exact hbw1 | refine bA ?_ ?_ _ | refine bS ?_ ?_ _ | refine bD ?_ | (simp; done) | (simp; omega) | (simp [z00]; done) | (simp [z00]; omega) | omega⟩
theorem zXg (al ah bl : Int) (w : World) : Calls tP 178 #[A B 11, .agg #[A B al, A B ah], .agg #[A B bl, A B bl]] w fun e w' => e = rT (.agg #[A B ((shV 11 al ah (bl % 64)).1), A B ((shV 11 al ah (bl % 64)).2)]) /\ Below w.heap.size w w' := by
 have hx := zO8 bl
 go_enter Tryz.func178, Tryz.ntmps178
 go_wp2_with fail
 go_region_held3 (fun w' => w'.cell? ⟨w.heap.size + 1, 0, none⟩ = some (A B bl) /\ w'.cell? ⟨w.heap.size + 1, 1, none⟩ = some (A B bl)) (first | (simp [go_sem]; done) | (simp [go_sem, *]; done) | go_keep) (first | (go_at_call 100; refine (z29 _ _).mono ?_; rintro e w' ⟨rfl, rfl⟩) | (go_at_call 204; refine (z4b 11 _ _ _ (by decide) (Int.emod_nonneg _ (by decide)) (Int.emod_lt_of_pos _ (by decide)) _).mono ?_; rintro e w1 ⟨rfl, hb1⟩; obtain ⟨hcl1, hfr1⟩ := z0h hb1; have hs1 := hb1.size; (try simp only [z00] at hs1); (try simp at hs1); have hbw1 : Below w.heap.size w w1 := by ((refine Below.trans ?_ (hb1.mono ?_)) <;> repeat' first | exact bF _ _ | refine bA ?_ ?_ _ | refine bS ?_ ?_ _ | refine bD ?_ | (simp; done) | (simp; omega) | (simp [z00]; done) | (simp [z00]; omega) | omega)))
 all_goals go_wp2_with (first | (go_at_call 100; refine (z29 _ _).mono ?_; rintro e w' ⟨rfl, rfl⟩) | (go_at_call 204; refine (z4b 11 _ _ _ (by decide) (Int.emod_nonneg _ (by decide)) (Int.emod_lt_of_pos _ (by decide)) _).mono ?_; rintro e w1 ⟨rfl, hb1⟩; obtain ⟨hcl1, hfr1⟩ := z0h hb1; have hs1 := hb1.size; (try simp only [z00] at hs1); (try simp at hs1); have hbw1 : Below w.heap.size w w1 := by ((refine Below.trans ?_ (hb1.mono ?_)) <;> repeat' first | exact bF _ _ | refine bA ?_ ?_ _ | refine bS ?_ ?_ _ | refine bD ?_ | (simp; done) | (simp; omega) | (simp [z00]; done) | (simp [z00]; omega) | omega)))
 all_goals exact bodyPost_ret (v := .agg #[A B ((shV 11 al ah (bl % 64)).1), A B ((shV 11 al ah (bl % 64)).2)]) (by simp [results, Tryz.results178, go_sem, hcl1]) rfl ⟨rfl, by repeat' first | exact bF _ _ | exact hbw1 | refine bA ?_ ?_ _ | refine bS ?_ ?_ _ | refine bD ?_ | (simp; done) | (simp; omega) | (simp [z00]; done) | (simp [z00]; omega) | omega⟩
theorem zXf (al ah bl bh : Int) (hne : ¬ bh = bl) (w : World) : Calls tP 178 #[A B 11, .agg #[A B al, A B ah], .agg #[A B bl, A B bh]] w fun e w' => e = rT (.agg #[A B ((anyV 11 al ah).1), A B ((anyV 11 al ah).2)]) /\ Below w.heap.size w w' := by
 go_enter Tryz.func178, Tryz.ntmps178
 go_wp2_with fail
 go_region_held3 (fun w' => w'.cell? ⟨w.heap.size + 1, 0, none⟩ = some (A B bl) /\ w'.cell? ⟨w.heap.size + 1, 1, none⟩ = some (A B bh)) (first | (simp [go_sem]; done) | (simp [go_sem, *]; done) | go_keep) (first | (go_at_call 100; refine (z29 _ _).mono ?_; rintro e w' ⟨rfl, rfl⟩) | (go_at_call 205; refine (zDk 11 _ _ (by decide) _).mono ?_; rintro e w1 ⟨rfl, hb1⟩; obtain ⟨hcl1, hfr1⟩ := z0h hb1; have hs1 := hb1.size; (try simp only [z00] at hs1); (try simp at hs1); have hbw1 : Below w.heap.size w w1 := by ((refine Below.trans ?_ (hb1.mono ?_)) <;> repeat' first | exact bF _ _ | refine bA ?_ ?_ _ | refine bS ?_ ?_ _ | refine bD ?_ | (simp; done) | (simp; omega) | (simp [z00]; done) | (simp [z00]; omega) | omega)))
 all_goals go_wp2_with (first | (go_at_call 100; refine (z29 _ _).mono ?_; rintro e w' ⟨rfl, rfl⟩) | (go_at_call 205; refine (zDk 11 _ _ (by decide) _).mono ?_; rintro e w1 ⟨rfl, hb1⟩; obtain ⟨hcl1, hfr1⟩ := z0h hb1; have hs1 := hb1.size; (try simp only [z00] at hs1); (try simp at hs1); have hbw1 : Below w.heap.size w w1 := by ((refine Below.trans ?_ (hb1.mono ?_)) <;> repeat' first | exact bF _ _ | refine bA ?_ ?_ _ | refine bS ?_ ?_ _ | refine bD ?_ | (simp; done) | (simp; omega) | (simp [z00]; done) | (simp [z00]; omega) | omega)))
 all_goals exact bodyPost_ret (v := .agg #[A B ((anyV 11 al ah).1), A B ((anyV 11 al ah).2)]) (by simp [results, Tryz.results178, go_sem, hcl1]) rfl ⟨rfl, by repeat' first | exact bF _ _ | exact hbw1 | refine bA ?_ ?_ _ | refine bS ?_ ?_ _ | refine bD ?_ | (simp; done) | (simp; omega) | (simp [z00]; done) | (simp [z00]; omega) | omega⟩
theorem zXe (al ah bl : Int) (w : World) : Calls tP 178 #[A B 12, .agg #[A B al, A B ah], .agg #[A B bl, A B bl]] w fun e w' => e = rT (.agg #[A B ((shV 12 al ah (bl % 64)).1), A B ((shV 12 al ah (bl % 64)).2)]) /\ Below w.heap.size w w' := by
 have hx := zO8 bl
 go_enter Tryz.func178, Tryz.ntmps178
 go_wp2_with fail
 go_region_held3 (fun w' => w'.cell? ⟨w.heap.size + 1, 0, none⟩ = some (A B bl) /\ w'.cell? ⟨w.heap.size + 1, 1, none⟩ = some (A B bl)) (first | (simp [go_sem]; done) | (simp [go_sem, *]; done) | go_keep) (first | (go_at_call 100; refine (z29 _ _).mono ?_; rintro e w' ⟨rfl, rfl⟩) | (go_at_call 204; refine (z4b 12 _ _ _ (by decide) (Int.emod_nonneg _ (by decide)) (Int.emod_lt_of_pos _ (by decide)) _).mono ?_; rintro e w1 ⟨rfl, hb1⟩; obtain ⟨hcl1, hfr1⟩ := z0h hb1; have hs1 := hb1.size; (try simp only [z00] at hs1); (try simp at hs1); have hbw1 : Below w.heap.size w w1 := by ((refine Below.trans ?_ (hb1.mono ?_)) <;> repeat' first | exact bF _ _ | refine bA ?_ ?_ _ | refine bS ?_ ?_ _ | refine bD ?_ | (simp; done) | (simp; omega) | (simp [z00]; done) | (simp [z00]; omega) | omega)))
 all_goals go_wp2_with (first | (go_at_call 100; refine (z29 _ _).mono ?_; rintro e w' ⟨rfl, rfl⟩) | (go_at_call 204; refine (z4b 12 _ _ _ (by decide) (Int.emod_nonneg _ (by decide)) (Int.emod_lt_of_pos _ (by decide)) _).mono ?_; rintro e w1 ⟨rfl, hb1⟩; obtain ⟨hcl1, hfr1⟩ := z0h hb1; have hs1 := hb1.size; (try simp only [z00] at hs1); (try simp at hs1); have hbw1 : Below w.heap.size w w1 := by ((refine Below.trans ?_ (hb1.mono ?_)) <;> repeat' first | exact bF _ _ | refine bA ?_ ?_ _ | refine bS ?_ ?_ _ | refine bD ?_ | (simp; done) | (simp; omega) | (simp [z00]; done) | (simp [z00]; omega) | omega)))
 all_goals exact bodyPost_ret (v := .agg #[A B ((shV 12 al ah (bl % 64)).1), A B ((shV 12 al ah (bl % 64)).2)]) (by simp [results, Tryz.results178, go_sem, hcl1]) rfl ⟨rfl, by repeat' first | exact bF _ _ | exact hbw1 | refine bA ?_ ?_ _ | refine bS ?_ ?_ _ | refine bD ?_ | (simp; done) | (simp; omega) | (simp [z00]; done) | (simp [z00]; omega) | omega⟩
theorem zXd (al ah bl bh : Int) (hne : ¬ bh = bl) (w : World) : Calls tP 178 #[A B 12, .agg #[A B al, A B ah], .agg #[A B bl, A B bh]] w fun e w' => e = rT (.agg #[A B ((anyV 12 al ah).1), A B ((anyV 12 al ah).2)]) /\ Below w.heap.size w w' := by
 go_enter Tryz.func178, Tryz.ntmps178
 go_wp2_with fail
 go_region_held3 (fun w' => w'.cell? ⟨w.heap.size + 1, 0, none⟩ = some (A B bl) /\ w'.cell? ⟨w.heap.size + 1, 1, none⟩ = some (A B bh)) (first | (simp [go_sem]; done) | (simp [go_sem, *]; done) | go_keep) (first | (go_at_call 100; refine (z29 _ _).mono ?_; rintro e w' ⟨rfl, rfl⟩) | (go_at_call 205; refine (zDk 12 _ _ (by decide) _).mono ?_; rintro e w1 ⟨rfl, hb1⟩; obtain ⟨hcl1, hfr1⟩ := z0h hb1; have hs1 := hb1.size; (try simp only [z00] at hs1); (try simp at hs1); have hbw1 : Below w.heap.size w w1 := by ((refine Below.trans ?_ (hb1.mono ?_)) <;> repeat' first | exact bF _ _ | refine bA ?_ ?_ _ | refine bS ?_ ?_ _ | refine bD ?_ | (simp; done) | (simp; omega) | (simp [z00]; done) | (simp [z00]; omega) | omega)))
 all_goals go_wp2_with (first | (go_at_call 100; refine (z29 _ _).mono ?_; rintro e w' ⟨rfl, rfl⟩) | (go_at_call 205; refine (zDk 12 _ _ (by decide) _).mono ?_; rintro e w1 ⟨rfl, hb1⟩; obtain ⟨hcl1, hfr1⟩ := z0h hb1; have hs1 := hb1.size; (try simp only [z00] at hs1); (try simp at hs1); have hbw1 : Below w.heap.size w w1 := by ((refine Below.trans ?_ (hb1.mono ?_)) <;> repeat' first | exact bF _ _ | refine bA ?_ ?_ _ | refine bS ?_ ?_ _ | refine bD ?_ | (simp; done) | (simp; omega) | (simp [z00]; done) | (simp [z00]; omega) | omega)))
 all_goals exact bodyPost_ret (v := .agg #[A B ((anyV 12 al ah).1), A B ((anyV 12 al ah).2)]) (by simp [results, Tryz.results178, go_sem, hcl1]) rfl ⟨rfl, by repeat' first | exact bF _ _ | exact hbw1 | refine bA ?_ ?_ _ | refine bS ?_ ?_ _ | refine bD ?_ | (simp; done) | (simp; omega) | (simp [z00]; done) | (simp [z00]; omega) | omega⟩
theorem bdo_no (k al ah bl bh : Int) (hk : k < 1 \/ 13 < k) (w : World) : Calls tP 178 #[A B k, .agg #[A B al, A B ah], .agg #[A B bl, A B bh]] w fun e w' => e = rT (.agg #[A B (-9223372036854775808), A B 9223372036854775807]) /\ Below w.heap.size w w' := by
 have e1 : (k == 1) = false := by simp; omega
 have e2 : (k == 2) = false := by simp; omega
 have e3 : (k == 3) = false := by simp; omega
 have e4 : (k == 4) = false := by simp; omega
 have e5 : (k == 5) = false := by simp; omega
 have e6 : (k == 6) = false := by simp; omega
 have e7 : (k == 7) = false := by simp; omega
 have e8 : (k == 8) = false := by simp; omega
 have e9 : (k == 9) = false := by simp; omega
 have e10 : (k == 10) = false := by simp; omega
 have e11 : (k == 11) = false := by simp; omega
 have e12 : (k == 12) = false := by simp; omega
 have e13 : (k == 13) = false := by simp; omega
 go_enter Tryz.func178, Tryz.ntmps178
 go_wp2_with (first | (go_at_call 141; refine (z2v _).mono ?_; rintro e w1 ⟨rfl, hb1⟩; obtain ⟨hcl1, hfr1⟩ := z0h hb1; have hs1 := hb1.size; (try simp only [z00] at hs1); (try simp at hs1); have hbw1 : Below w.heap.size w w1 := by ((refine Below.trans ?_ (hb1.mono ?_)) <;> repeat' first | exact bF _ _ | refine bA ?_ ?_ _ | refine bS ?_ ?_ _ | refine bD ?_ | (simp; done) | (simp; omega) | (simp [z00]; done) | (simp [z00]; omega) | omega)))
 all_goals exact bodyPost_ret (v := .agg #[A B (-9223372036854775808), A B 9223372036854775807]) (by simp [results, Tryz.results178, go_sem, hcl1]) rfl ⟨rfl, by repeat' first | exact bF _ _ | exact hbw1 | refine bA ?_ ?_ _ | refine bS ?_ ?_ _ | refine bD ?_ | (simp; done) | (simp; omega) | (simp [z00]; done) | (simp [z00]; omega) | omega⟩
theorem zS4 (k al ah bl bh : Int) (pal : -9223372036854775808 <= al) (qal : al <= 9223372036854775807) (pah : -9223372036854775808 <= ah) (qah : ah <= 9223372036854775807) (pbl : -9223372036854775808 <= bl) (qbl : bl <= 9223372036854775807) (pbh : -9223372036854775808 <= bh) (qbh : bh <= 9223372036854775807) (oa : al <= ah) (ob : bl <= bh) (w : World) : Calls tP 178 #[A B k, .agg #[A B al, A B ah], .agg #[A B bl, A B bh]] w fun e w' => e = rT (.agg #[A B ((bdV k al ah bl bh).1), A B ((bdV k al ah bl bh).2)]) /\ Below w.heap.size w w' := by
 by_cases hk : k < 1 \/ 13 < k
 ·rw [bdV_no al ah bl bh hk]
  exact bdo_no k al ah bl bh hk w
 ·have h : k = 1 \/ k = 2 \/ k = 3 \/ k = 4 \/ k = 5 \/ k = 6 \/ k = 7 \/ k = 8 \/ k = 9 \/ k = 10 \/ k = 11 \/ k = 12 \/ k = 13 := by omega
  have s6 := zI0 bl
  rcases h with rfl | rfl | rfl | rfl | rfl | rfl | rfl | rfl | rfl | rfl | rfl | rfl | rfl
  ·rw [zXs]; exact bdo_1 al ah bl bh w
  ·rw [zXr]; exact bdo_2 al ah bl bh pal qal pah qah pbl qbl pbh qbh w
  ·rw [zXq]; exact bdo_3 al ah bl bh pal qal pah qah pbl qbl pbh qbh w
  ·exact bdo_4 al ah bl bh w
  ·exact bdo_5 al ah bl bh pal qal pah qah pbl qbl pbh qbh oa ob w
  ·exact bdo_6 al ah bl bh qbh ob w
  ·exact bdo_7 al ah bl bh w
  ·rw [zXl]; exact bdo_8 al ah bl bh pal qal pah qah pbl qbl pbh qbh w
  ·rw [zXk]; exact bdo_9 al ah bl bh pal qal pah qah pbl qbl pbh qbh w
  ·rw [zS8]
   by_cases hb : bl = bh
   ·rw [if_pos hb]
    subst hb
    exact zXi al ah bl w
   ·rw [if_neg hb]
    exact zXh al ah bl bh (fun h => hb h.symm) w
  ·rw [zS7]
   by_cases hb : bl = bh
   ·rw [if_pos hb]
    subst hb
    have e : shV 11 al ah (bl % 64) = (if sixBits bl = 0 then (al, ah) else if 0 <= al then (al / 2 ^ sixBits bl, ah / 2 ^ sixBits bl) else (0, 2 ^ (64 - sixBits bl) - 1)) := by
     unfold shV
     rw [if_neg (by decide)]
     by_cases h0 : sixBits bl = 0
     ·rw [if_pos h0, if_neg (by have : (bl % 64).toNat = 0 := h0; omega), zDt pal qal (by omega), zDt pah qah (by omega)]
     ·rw [if_neg h0]
      have h0' : (bl % 64).toNat ≠ 0 := h0
      by_cases ha : 0 <= al
      ·rw [if_pos ha, if_neg (by omega), z9j ha qal, z9j (by omega) qah, s6]
      ·rw [if_neg ha, if_pos ⟨rfl, by omega, by omega⟩, zK8 (by omega), s6]
    rw [<- e]
    exact zXg al ah bl w
   ·rw [if_neg hb]
    exact zXf al ah bl bh (fun h => hb h.symm) w
  ·rw [zS6]
   by_cases hb : bl = bh
   ·rw [if_pos hb]
    subst hb
    have e : shV 12 al ah (bl % 64) = (al / 2 ^ sixBits bl, ah / 2 ^ sixBits bl) := by
     unfold shV
     rw [if_neg (by decide), if_neg (by omega), z7x, z7x, s6]
    rw [<- e]
    exact zXe al ah bl w
   ·rw [if_neg hb]
    exact zXd al ah bl bh (fun h => hb h.symm) w
  ·rw [zS5]; exact bdo_13 al ah bl bh pal qal pah qah w
end Go.Proofs.YtbimlalhodibjaaGreatDoor
