/-
  What the functions of package bound return: as functions on integers; the world below is as it was. Conditions: the ends are numbers of 64 bits, the low end not above the high one.
-/
import Derived.Test.YtllphbfhfmieaaaDoorOpWalks
import Derived.Test.YtllphbfhfmieaaaDoorBoundNum
import Derived.LoopN
namespace Go.Proofs.YtllphbfhfmieaaaDoor
open Go.ChangeShapes Go.WideShapes Go.ChangeAt Go.RowKit

theorem drew_size (w : World) : w.drew.heap.size = w.heap.size := rfl
theorem old_cells {W w1 : World} (hb : Below W.heap.size W w1) : (∀ b o, b < W.heap.size → w1.cell? ⟨b, o, none⟩ = W.cell? ⟨b, o, none⟩) ∧ (∀ b o, b < W.heap.size → w1.frozen? ⟨b, o, none⟩ = W.frozen? ⟨b, o, none⟩) :=
  ⟨fun b o h => hb.cell (p := ⟨b, o, none⟩) h, fun b o h => hb.frozen (p := ⟨b, o, none⟩) h⟩
theorem all_is  (w : World) : Calls Tryd.prog 25 #[] w fun e w' => e = .returned (.agg #[.int .i64 (-9223372036854775808), .int .i64 9223372036854775807]) ∧ Below w.heap.size w w' := by
  go_enter Tryd.func25, Tryd.ntmps25
  go_wp2
  exact bodyPost_ret (v := .agg #[.int .i64 (-9223372036854775808), .int .i64 9223372036854775807]) (by simp [results, Tryd.results25, go_sem]) rfl ⟨rfl, by repeat' first | exact Below.refl _ _ | refine Below.alloc ?_ ?_ _ | refine Below.setCell ?_ ?_ _ | refine Below.drew ?_ | (simp; done) | (simp; omega) | (simp [drew_size]; done) | (simp [drew_size]; omega) | omega⟩
theorem one_is (n : Int) (w : World) : Calls Tryd.prog 17 #[.int .i64 n] w fun e w' => e = .returned (.agg #[.int .i64 n, .int .i64 n]) ∧ Below w.heap.size w w' := by
  go_enter Tryd.func17, Tryd.ntmps17
  go_wp2
  exact bodyPost_ret (v := .agg #[.int .i64 n, .int .i64 n]) (by simp [results, Tryd.results17, go_sem]) rfl ⟨rfl, by repeat' first | exact Below.refl _ _ | refine Below.alloc ?_ ?_ _ | refine Below.setCell ?_ ?_ _ | refine Below.drew ?_ | (simp; done) | (simp; omega) | (simp [drew_size]; done) | (simp [drew_size]; omega) | omega⟩
theorem join_is (al ah bl bh : Int) (w : World) : Calls Tryd.prog 14 #[.agg #[.int .i64 al, .int .i64 ah], .agg #[.int .i64 bl, .int .i64 bh]] w fun e w' => e = .returned (.agg #[.int .i64 (min al bl), .int .i64 (max ah bh)]) ∧ Below w.heap.size w w' := by
  go_enter Tryd.func14, Tryd.ntmps14
  go_wp2
  exact bodyPost_ret (v := .agg #[.int .i64 (min al bl), .int .i64 (max ah bh)]) (by simp [results, Tryd.results14, go_sem]) rfl ⟨rfl, by repeat' first | exact Below.refl _ _ | refine Below.alloc ?_ ?_ _ | refine Below.setCell ?_ ?_ _ | refine Below.drew ?_ | (simp; done) | (simp; omega) | (simp [drew_size]; done) | (simp [drew_size]; omega) | omega⟩
theorem plus_is (a b : Int) (pa : -9223372036854775808 ≤ a) (qa : a ≤ 9223372036854775807) (pb : -9223372036854775808 ≤ b) (qb : b ≤ 9223372036854775807) (w : World) : Calls Tryd.prog 38 #[.int .i64 a, .int .i64 b] w fun e w' => e = .returned (.agg #[.int .i64 (wrap64 (a + b)), .bool (fits (a + b))]) ∧ Below w.heap.size w w' := by
  have hf : Hid ((decide (a ≤ wrap64 (a + b)) == decide (0 ≤ b)) = fits (a + b)) := plus_fits pa qa pb qb
  clear pa qa pb qb
  go_enter Tryd.func38, Tryd.ntmps38
  go_wp2
  rw [hf.out]
  exact bodyPost_ret (v := .agg #[.int .i64 (wrap64 (a + b)), .bool (fits (a + b))]) (by simp [results, Tryd.results38, go_sem]) rfl ⟨rfl, by repeat' first | exact Below.refl _ _ | refine Below.alloc ?_ ?_ _ | refine Below.setCell ?_ ?_ _ | refine Below.drew ?_ | (simp; done) | (simp; omega) | (simp [drew_size]; done) | (simp [drew_size]; omega) | omega⟩
theorem minus_is (a b : Int) (pa : -9223372036854775808 ≤ a) (qa : a ≤ 9223372036854775807) (pb : -9223372036854775808 ≤ b) (qb : b ≤ 9223372036854775807) (w : World) : Calls Tryd.prog 39 #[.int .i64 a, .int .i64 b] w fun e w' => e = .returned (.agg #[.int .i64 (wrap64 (a - b)), .bool (fits (a - b))]) ∧ Below w.heap.size w w' := by
  have hf : Hid ((decide (wrap64 (a - b) ≤ a) == decide (0 ≤ b)) = fits (a - b)) := minus_fits pa qa pb qb
  clear pa qa pb qb
  go_enter Tryd.func39, Tryd.ntmps39
  go_wp2
  rw [hf.out]
  exact bodyPost_ret (v := .agg #[.int .i64 (wrap64 (a - b)), .bool (fits (a - b))]) (by simp [results, Tryd.results39, go_sem]) rfl ⟨rfl, by repeat' first | exact Below.refl _ _ | refine Below.alloc ?_ ?_ _ | refine Below.setCell ?_ ?_ _ | refine Below.drew ?_ | (simp; done) | (simp; omega) | (simp [drew_size]; done) | (simp [drew_size]; omega) | omega⟩
theorem has_is (bl bh n : Int) (w : World) : Calls Tryd.prog 16 #[.agg #[.int .i64 bl, .int .i64 bh], .int .i64 n] w fun e w' => e = .returned (.bool (decide (bl ≤ n) && decide (n ≤ bh))) ∧ Below w.heap.size w w' := by
  by_cases h1 : bl ≤ n
  · go_enter Tryd.func16, Tryd.ntmps16
    go_wp2
    go_ret
    exact ⟨ret_bool (by simp [h1]), (Below.refl _ _).alloc (Nat.le_refl _) _⟩
  · have h2 : decide (bl ≤ n) = false := by simpa using h1
    rw [h2, Bool.false_and]
    go_enter Tryd.func16, Tryd.ntmps16
    go_wp2
    go_ret
    exact ⟨rfl, (Below.refl _ _).alloc (Nat.le_refl _) _⟩
theorem bare_is (al ah bl bh : Int) (w : World) : Calls Tryd.prog 68 #[.agg #[.int .i64 al, .int .i64 ah], .agg #[.int .i64 bl, .int .i64 bh]] w fun e w' => e = .returned (.bool (decide (0 ≤ al) && decide (0 ≤ bl))) ∧ Below w.heap.size w w' := by
  by_cases h1 : 0 ≤ al
  · go_enter Tryd.func68, Tryd.ntmps68
    go_wp2
    go_ret
    exact ⟨ret_bool (by simp [h1]), ((Below.refl _ _).alloc (Nat.le_refl _) _).alloc (by simp) _⟩
  · have h2 : decide (0 ≤ al) = false := by simpa using h1
    rw [h2, Bool.false_and]
    go_enter Tryd.func68, Tryd.ntmps68
    go_wp2
    go_ret
    exact ⟨rfl, ((Below.refl _ _).alloc (Nat.le_refl _) _).alloc (by simp) _⟩
theorem idx_end0 (x y : Int) (p q : Bool) (w : World) : (Instr.index 79 (.agg #[.int .i64 x, .bool p, .int .i64 y, .bool q]) (.int .i64 0)).run Tryd.prog w = .ok (.agg #[.int .i64 x, .bool p]) w := by kernel_rfl
theorem idx_end1 (x y : Int) (p q : Bool) (w : World) : (Instr.index 79 (.agg #[.int .i64 x, .bool p, .int .i64 y, .bool q]) (.int .i64 1)).run Tryd.prog w = .ok (.agg #[.int .i64 y, .bool q]) w := by kernel_rfl
theorem between_yes (x y : Int) (w : World) : Calls Tryd.prog 37 #[.agg #[.int .i64 x, .bool true, .int .i64 y, .bool true]] w fun e w' => e = .returned (.agg #[.int .i64 x, .int .i64 y]) ∧ Below w.heap.size w w' := by
  have i0 := idx_end0 x y true true
  have i1 := idx_end1 x y true true
  go_enter Tryd.func37, Tryd.ntmps37
  go_wp2
  refine wp_loop_rounds 3 ?_
  repeat any_goals (rw [rounds_succ]; go_wp2)
  exact bodyPost_ret (v := .agg #[.int .i64 x, .int .i64 y]) (by simp [results, Tryd.results37, go_sem]) rfl ⟨rfl, by repeat' first | exact Below.refl _ _ | refine Below.alloc ?_ ?_ _ | refine Below.setCell ?_ ?_ _ | refine Below.drew ?_ | (simp; done) | (simp; omega) | (simp [drew_size]; done) | (simp [drew_size]; omega) | omega⟩
theorem between_no (x y : Int) (p q : Bool) (h : (p && q) = false) (w : World) : Calls Tryd.prog 37 #[.agg #[.int .i64 x, .bool p, .int .i64 y, .bool q]] w fun e w' => e = .returned (.agg #[.int .i64 (-9223372036854775808), .int .i64 9223372036854775807]) ∧ Below w.heap.size w w' := by
  have i0 := idx_end0 x y p q
  have i1 := idx_end1 x y p q
  cases p
  · go_enter Tryd.func37, Tryd.ntmps37
    go_wp2
    refine wp_loop_rounds 3 ?_
    repeat any_goals (rw [rounds_succ]; go_wp2_with (go_at_call 25; refine (all_is _).mono ?_; rintro e w1 ⟨rfl, hb1⟩; obtain ⟨hcl1, hfr1⟩ := old_cells hb1; have hs1 := hb1.size; (try simp only [drew_size] at hs1); (try simp at hs1); have hbw1 : Below w.heap.size w w1 := by ((refine Below.trans ?_ (hb1.mono ?_)) <;> repeat' first | exact Below.refl _ _ | refine Below.alloc ?_ ?_ _ | refine Below.setCell ?_ ?_ _ | refine Below.drew ?_ | (simp; done) | (simp; omega) | (simp [drew_size]; done) | (simp [drew_size]; omega) | omega)))
    exact bodyPost_ret (v := .agg #[.int .i64 (-9223372036854775808), .int .i64 9223372036854775807]) (by simp [results, Tryd.results37, go_sem, hcl1]) rfl ⟨rfl, by repeat' first | exact Below.refl _ _ | exact hbw1 | refine Below.alloc ?_ ?_ _ | refine Below.setCell ?_ ?_ _ | refine Below.drew ?_ | (simp; done) | (simp; omega) | (simp [drew_size]; done) | (simp [drew_size]; omega) | omega⟩
  · have hq : q = false := by simpa using h
    subst hq
    go_enter Tryd.func37, Tryd.ntmps37
    go_wp2
    refine wp_loop_rounds 3 ?_
    repeat any_goals (rw [rounds_succ]; go_wp2_with (go_at_call 25; refine (all_is _).mono ?_; rintro e w1 ⟨rfl, hb1⟩; obtain ⟨hcl1, hfr1⟩ := old_cells hb1; have hs1 := hb1.size; (try simp only [drew_size] at hs1); (try simp at hs1); have hbw1 : Below w.heap.size w w1 := by ((refine Below.trans ?_ (hb1.mono ?_)) <;> repeat' first | exact Below.refl _ _ | refine Below.alloc ?_ ?_ _ | refine Below.setCell ?_ ?_ _ | refine Below.drew ?_ | (simp; done) | (simp; omega) | (simp [drew_size]; done) | (simp [drew_size]; omega) | omega)))
    exact bodyPost_ret (v := .agg #[.int .i64 (-9223372036854775808), .int .i64 9223372036854775807]) (by simp [results, Tryd.results37, go_sem, hcl1]) rfl ⟨rfl, by repeat' first | exact Below.refl _ _ | exact hbw1 | refine Below.alloc ?_ ?_ _ | refine Below.setCell ?_ ?_ _ | refine Below.drew ?_ | (simp; done) | (simp; omega) | (simp [drew_size]; done) | (simp [drew_size]; omega) | omega⟩
theorem between_is (x y : Int) (p q : Bool) (w : World) : Calls Tryd.prog 37 #[.agg #[.int .i64 x, .bool p, .int .i64 y, .bool q]] w fun e w' => e = .returned (.agg #[.int .i64 (if p && q then x else -9223372036854775808), .int .i64 (if p && q then y else 9223372036854775807)]) ∧ Below w.heap.size w w' := by
  cases h : p && q
  · exact between_no x y p q h w
  · simp only [Bool.and_eq_true] at h
    obtain ⟨rfl, rfl⟩ := h
    exact between_yes x y w
end Go.Proofs.YtllphbfhfmieaaaDoor
