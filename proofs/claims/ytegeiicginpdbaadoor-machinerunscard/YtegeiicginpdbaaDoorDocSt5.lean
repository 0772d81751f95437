/-
  What a step does, by the document's answer: a Call, and what makes. Conditions: the step is a right one; numbers are of 64 bits.
-/
import Derived.Test.YtegeiicginpdbaaDoorDocEmit
import Derived.Test.YtegeiicginpdbaaDoorDocCounts
import Derived.Test.YtegeiicginpdbaaDoorMachRight
import Derived.Test.YtegeiicginpdbaaDoorOpRefIs
namespace Go.Proofs.YtegeiicginpdbaaDoor
open Go.ChangeShapes Go.WideShapes Go.ChangeAt Go.RowKit
attribute [local simp] drew_size drewN_size setCell_size
/-- What comes of a method of the document's: all below block B is as it was; what runs there is as it is to be, where nothing is wrong. -/
def DRes (B : Nat) (w w' : World) (m : Dox) (E : Int) (a : Abs) : Prop :=
  Below B w w' ∧ ∃ m' L', DoxAt w' B m' ∧ OutAt w' B m'.out L' ∧ m'.steps = m.steps ∧ (E = 0 → m'.abs L' = a)
theorem DRes.of_kept {B : Nat} {w w' : World} {m m' : Dox} {L : List Int} {E : Int} {a : Abs} (hM : DoxAt w B m) (hO : OutAt w B m.out L) (hk : Kept B w w') (hm : DoxAt w' B m') (ho : m'.out = m.out) (h2 : m'.steps = m.steps) (ha : E = 0 → m'.abs L = a) : DRes B w w' m E a :=
  ⟨kept_under hk hM.lt, m', L, hm, by rw [ho]; exact hO.kept hk, h2, ha⟩
theorem DRes.of_below {B : Nat} {w w' : World} {m : Dox} {L : List Int} {E : Int} {a : Abs} (hM : DoxAt w B m) (hO : OutAt w B m.out L) (hb : Below w.heap.size w w') (ha : E = 0 → m.abs L = a) : DRes B w w' m E a :=
  DRes.of_kept hM hO (kept_below hb B) (hM.later hb) rfl rfl ha
set_option maxHeartbeats 4000000 in
set_option maxRecDepth 100000 in
theorem dstep_call (B d s pc : Nat) (c o n : Int) (m : Dox) (hd : d < 11) (hs : s < 11) (hpc : pc ≤ 200) (xk xn xc : Int) (HX : Hid (m.reg d = ⟨xk, xn, xc⟩)) (e28 : (c == 28) = false) (e14 : (c == 14) = false) (hc1 : 24 < c) (e25 : (c == 25) = false) (e26 : (c == 26) = false) (e27 : (c == 27) = true) (L : List Int) (E : Int) (a : Abs) (HC : Hid (∀ W : World, DoxAt W B m → OutAt W B m.out L → Calls Tryd.prog 83 #[.pointer (some ⟨B, 0, none⟩), .int .i64 n] W fun e w' => e = .returned (.int .i64 E) ∧ DRes B W w' m E a)) (w : World) (hM : DoxAt w B m) (HO : Hid (OutAt w B m.out L)) : Calls Tryd.prog 61 #[.pointer (some ⟨B, 0, none⟩), .agg #[.int .i64 c, .int .i64 d, .int .i64 s, .bool false, .int .i64 o, .int .i64 n], .int .i64 pc] w fun e w' => e = .returned (.tuple #[.int .i64 ((pc : Int) + 1), .bool false, .int .i64 E]) ∧ DRes B w w' m E a := by
  have hB := hM.lt
  have hBa : B < w.heap.size + 1 := by omega
  have hBb : B < w.heap.size + 1 + 1 := by omega
  obtain ⟨h0, h1, h2⟩ := hM.reg3 hd
  rw [HX.out] at h0 h1 h2
  have hd0 : (0 : Int) ≤ (d : Int) := by omega
  have hd1 : (d : Int) < 27 := by omega
  have hs0 : (0 : Int) ≤ (s : Int) := by omega
  have hs1 : (s : Int) < 27 := by omega
  have hp0 : (0 : Int) ≤ (pc : Int) := by omega
  have hp1 : (pc : Int) ≤ 200 := by omega
  have HQ : Hid ((decide (15 ≤ c) && decide (c ≤ 24)) = false) := by show (decide (15 ≤ c) && decide (c ≤ 24)) = false; simp; omega
  clear hc1
  have _hx := HX.out
  go_enter Tryd.func61, Tryd.ntmps61
  go_wp2_with fail
  go_region
  all_goals go_wp2_with (first
    | (go_at_call 21; refine (refAsks_any c _).mono ?_; rintro e w1 ⟨rfl, rfl⟩; rw [HQ.out])
    | (go_at_call 83; refine (HC.out _ (by repeat' first | with_reducible exact hM | with_reducible refine DoxAt.drew ?_ | with_reducible refine DoxAt.off ?_ _ _ ?_ | with_reducible refine DoxAt.alloc ?_ _ | ((try dsimp only); omega) | (simp; omega)) (HO.out.kept (by repeat' first | with_reducible exact HK | with_reducible exact kept_refl _ _ | with_reducible refine kept_drew ?_ | with_reducible refine kept_set ?_ _ _ | with_reducible refine kept_new ?_ _ _ ?_ | with_reducible refine kept_alloc ?_ _ | ((try dsimp only); omega) | (simp; omega)))).mono ?_; rintro e w2 ⟨rfl, hr2⟩; have HR2 : Hid (DRes B _ w2 m E a) := hr2; clear hr2)
    | fail)
  all_goals go_ret3
  all_goals exact ⟨rfl, (kept_under (by repeat' first | with_reducible exact HK | with_reducible exact kept_refl _ _ | with_reducible refine kept_drew ?_ | with_reducible refine kept_set ?_ _ _ | with_reducible refine kept_new ?_ _ _ ?_ | with_reducible refine kept_alloc ?_ _ | ((try dsimp only); omega) | (simp; omega)) hB).trans HR2.out.1, HR2.out.2⟩
set_option maxHeartbeats 4000000 in
set_option maxRecDepth 100000 in
theorem dstep_counts_f (B d s pc : Nat) (c o n : Int) (m : Dox) (hd : d < 11) (hs : s < 11) (hpc : pc ≤ 200) (xk xn xc : Int) (HX : Hid (m.reg d = ⟨xk, xn, xc⟩)) (e28 : (c == 28) = false) (e14 : (c == 14) = false) (hc1 : c ≤ 13) (e25 : (c == 25) = false) (e26 : (c == 26) = false) (e27 : (c == 27) = false) (L : List Int) (E : Int) (a : Abs) (HC : Hid (∀ W : World, DoxAt W B m → OutAt W B m.out L → Calls Tryd.prog 84 #[.pointer (some ⟨B, 0, none⟩), .int .i64 c, .pointer (some ⟨B, d * 3, none⟩), .agg #[.int .u8 110, .int .i64 n, .int .i64 0]] W fun e w' => e = .returned (.int .i64 E) ∧ DRes B W w' m E a)) (w : World) (hM : DoxAt w B m) (HO : Hid (OutAt w B m.out L)) : Calls Tryd.prog 61 #[.pointer (some ⟨B, 0, none⟩), .agg #[.int .i64 c, .int .i64 d, .int .i64 s, .bool false, .int .i64 o, .int .i64 n], .int .i64 pc] w fun e w' => e = .returned (.tuple #[.int .i64 ((pc : Int) + 1), .bool false, .int .i64 E]) ∧ DRes B w w' m E a := by
  have hB := hM.lt
  have hBa : B < w.heap.size + 1 := by omega
  have hBb : B < w.heap.size + 1 + 1 := by omega
  obtain ⟨h0, h1, h2⟩ := hM.reg3 hd
  rw [HX.out] at h0 h1 h2
  have hd0 : (0 : Int) ≤ (d : Int) := by omega
  have hd1 : (d : Int) < 27 := by omega
  have hs0 : (0 : Int) ≤ (s : Int) := by omega
  have hs1 : (s : Int) < 27 := by omega
  have hp0 : (0 : Int) ≤ (pc : Int) := by omega
  have hp1 : (pc : Int) ≤ 200 := by omega
  have HQ : Hid ((decide (15 ≤ c) && decide (c ≤ 24)) = false) := by show (decide (15 ≤ c) && decide (c ≤ 24)) = false; simp; omega
  clear hc1
  have _hx := HX.out
  go_enter Tryd.func61, Tryd.ntmps61
  go_wp2_with fail
  go_region
  all_goals go_wp2_with (first
    | (go_at_call 21; refine (refAsks_any c _).mono ?_; rintro e w1 ⟨rfl, rfl⟩; rw [HQ.out])
    | (go_at_call 84; refine (HC.out _ (by repeat' first | with_reducible exact hM | with_reducible refine DoxAt.drew ?_ | with_reducible refine DoxAt.off ?_ _ _ ?_ | with_reducible refine DoxAt.alloc ?_ _ | ((try dsimp only); omega) | (simp; omega)) (HO.out.kept (by repeat' first | with_reducible exact HK | with_reducible exact kept_refl _ _ | with_reducible refine kept_drew ?_ | with_reducible refine kept_set ?_ _ _ | with_reducible refine kept_new ?_ _ _ ?_ | with_reducible refine kept_alloc ?_ _ | ((try dsimp only); omega) | (simp; omega)))).mono ?_; rintro e w2 ⟨rfl, hr2⟩; have HR2 : Hid (DRes B _ w2 m E a) := hr2; clear hr2)
    | fail)
  all_goals go_ret3
  all_goals exact ⟨rfl, (kept_under (by repeat' first | with_reducible exact HK | with_reducible exact kept_refl _ _ | with_reducible refine kept_drew ?_ | with_reducible refine kept_set ?_ _ _ | with_reducible refine kept_new ?_ _ _ ?_ | with_reducible refine kept_alloc ?_ _ | ((try dsimp only); omega) | (simp; omega)) hB).trans HR2.out.1, HR2.out.2⟩
set_option maxHeartbeats 4000000 in
set_option maxRecDepth 100000 in
theorem dstep_counts_t (B d s pc : Nat) (c o n : Int) (m : Dox) (hd : d < 11) (hs : s < 11) (hpc : pc ≤ 200) (xk xn xc : Int) (HX : Hid (m.reg d = ⟨xk, xn, xc⟩)) (yk yn yc : Int) (HY : Hid (m.reg s = ⟨yk, yn, yc⟩)) (e28 : (c == 28) = false) (e14 : (c == 14) = false) (hc1 : c ≤ 13) (e25 : (c == 25) = false) (e26 : (c == 26) = false) (e27 : (c == 27) = false) (L : List Int) (E : Int) (a : Abs) (HC : Hid (∀ W : World, DoxAt W B m → OutAt W B m.out L → Calls Tryd.prog 84 #[.pointer (some ⟨B, 0, none⟩), .int .i64 c, .pointer (some ⟨B, d * 3, none⟩), .agg #[.int .u8 (kd yk), .int .i64 yn, .int .i64 yc]] W fun e w' => e = .returned (.int .i64 E) ∧ DRes B W w' m E a)) (w : World) (hM : DoxAt w B m) (HO : Hid (OutAt w B m.out L)) : Calls Tryd.prog 61 #[.pointer (some ⟨B, 0, none⟩), .agg #[.int .i64 c, .int .i64 d, .int .i64 s, .bool true, .int .i64 o, .int .i64 n], .int .i64 pc] w fun e w' => e = .returned (.tuple #[.int .i64 ((pc : Int) + 1), .bool false, .int .i64 E]) ∧ DRes B w w' m E a := by
  have hB := hM.lt
  have hBa : B < w.heap.size + 1 := by omega
  have hBb : B < w.heap.size + 1 + 1 := by omega
  obtain ⟨h0, h1, h2⟩ := hM.reg3 hd
  rw [HX.out] at h0 h1 h2
  obtain ⟨j0, j1, j2⟩ := hM.reg3 hs
  rw [HY.out] at j0 j1 j2
  have hd0 : (0 : Int) ≤ (d : Int) := by omega
  have hd1 : (d : Int) < 27 := by omega
  have hs0 : (0 : Int) ≤ (s : Int) := by omega
  have hs1 : (s : Int) < 27 := by omega
  have hp0 : (0 : Int) ≤ (pc : Int) := by omega
  have hp1 : (pc : Int) ≤ 200 := by omega
  have HQ : Hid ((decide (15 ≤ c) && decide (c ≤ 24)) = false) := by show (decide (15 ≤ c) && decide (c ≤ 24)) = false; simp; omega
  clear hc1
  have _hx := HX.out
  go_enter Tryd.func61, Tryd.ntmps61
  go_wp2_with fail
  go_region
  all_goals go_wp2_with fail
  all_goals go_region
  all_goals go_wp2_with (first
    | (go_at_call 21; refine (refAsks_any c _).mono ?_; rintro e w1 ⟨rfl, rfl⟩; rw [HQ.out])
    | (go_at_call 84; refine (HC.out _ (by repeat' first | with_reducible exact hM | with_reducible refine DoxAt.drew ?_ | with_reducible refine DoxAt.off ?_ _ _ ?_ | with_reducible refine DoxAt.alloc ?_ _ | ((try dsimp only); omega) | (simp; omega)) (HO.out.kept (by repeat' first | with_reducible exact HK | with_reducible exact kept_refl _ _ | with_reducible refine kept_drew ?_ | with_reducible refine kept_set ?_ _ _ | with_reducible refine kept_new ?_ _ _ ?_ | with_reducible refine kept_alloc ?_ _ | ((try dsimp only); omega) | (simp; omega)))).mono ?_; rintro e w2 ⟨rfl, hr2⟩; have HR2 : Hid (DRes B _ w2 m E a) := hr2; clear hr2)
    | fail)
  all_goals go_ret3
  all_goals exact ⟨rfl, (kept_under (by repeat' first | with_reducible exact HK | with_reducible exact kept_refl _ _ | with_reducible refine kept_drew ?_ | with_reducible refine kept_set ?_ _ _ | with_reducible refine kept_new ?_ _ _ ?_ | with_reducible refine kept_alloc ?_ _ | ((try dsimp only); omega) | (simp; omega)) hB).trans HR2.out.1, HR2.out.2⟩
end Go.Proofs.YtegeiicginpdbaaDoor
