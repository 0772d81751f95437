/-
  What the document's own Opposite and cut return: as functions on integers; the world below is as it was. Conditions: the ends are numbers of 64 bits, the low end not above the high one.
-/
import Derived.Test.YtllphbfhfmieaaaDoorBoundRef
import Derived.Test.YtllphbfhfmieaaaDoorBoundNarrow
namespace Go.Proofs.YtllphbfhfmieaaaDoor
open Go.ChangeShapes Go.WideShapes Go.ChangeAt Go.RowKit
set_option linter.unusedVariables false

theorem rcut_one (al bl bh : Int) (w : World) : Calls Tryd.prog 53 #[.agg #[.int .i64 al, .int .i64 al], .agg #[.int .i64 bl, .int .i64 bh]] w fun e w' => e = .returned (.agg #[.int .i64 al, .int .i64 al]) ∧ Below w.heap.size w w' := by
  go_enter Tryd.func53, Tryd.ntmps53
  go_wp2_with fail
  all_goals exact bodyPost_ret (v := .agg #[.int .i64 al, .int .i64 al]) (by simp [results, Tryd.results53, go_sem]) rfl ⟨rfl, by repeat' first | exact Below.refl _ _ | refine Below.alloc ?_ ?_ _ | refine Below.setCell ?_ ?_ _ | refine Below.drew ?_ | refine below_drewN ?_ _ | (simp; done) | (simp; omega) | (simp [drew_size]; done) | (simp [drew_size]; omega) | omega⟩
theorem rcut_not (al ah bl bh : Int) (hb : ¬ bl = bh) (w : World) : Calls Tryd.prog 53 #[.agg #[.int .i64 al, .int .i64 ah], .agg #[.int .i64 bl, .int .i64 bh]] w fun e w' => e = .returned (.agg #[.int .i64 al, .int .i64 ah]) ∧ Below w.heap.size w w' := by
  go_enter Tryd.func53, Tryd.ntmps53
  go_wp2_with fail
  all_goals exact bodyPost_ret (v := .agg #[.int .i64 al, .int .i64 ah]) (by simp [results, Tryd.results53, go_sem]) rfl ⟨rfl, by repeat' first | exact Below.refl _ _ | refine Below.alloc ?_ ?_ _ | refine Below.setCell ?_ ?_ _ | refine Below.drew ?_ | refine below_drewN ?_ _ | (simp; done) | (simp; omega) | (simp [drew_size]; done) | (simp [drew_size]; omega) | omega⟩
theorem rcut_low (al ah : Int) (hne : ¬ al = ah) (hlt : al < ah) (p1 : -9223372036854775808 ≤ al) (p2 : ah ≤ 9223372036854775807) (w : World) : Calls Tryd.prog 53 #[.agg #[.int .i64 al, .int .i64 ah], .agg #[.int .i64 al, .int .i64 al]] w fun e w' => e = .returned (.agg #[.int .i64 (al + 1), .int .i64 ah]) ∧ Below w.heap.size w w' := by
  go_enter Tryd.func53, Tryd.ntmps53
  go_wp2_with fail
  all_goals exact bodyPost_ret (v := .agg #[.int .i64 (al + 1), .int .i64 ah]) (by simp [results, Tryd.results53, go_sem]) rfl ⟨rfl, by repeat' first | exact Below.refl _ _ | refine Below.alloc ?_ ?_ _ | refine Below.setCell ?_ ?_ _ | refine Below.drew ?_ | refine below_drewN ?_ _ | (simp; done) | (simp; omega) | (simp [drew_size]; done) | (simp [drew_size]; omega) | omega⟩
theorem rcut_high (al ah : Int) (hne : ¬ al = ah) (hlt : al < ah) (p1 : -9223372036854775808 ≤ al) (p2 : ah ≤ 9223372036854775807) (w : World) : Calls Tryd.prog 53 #[.agg #[.int .i64 al, .int .i64 ah], .agg #[.int .i64 ah, .int .i64 ah]] w fun e w' => e = .returned (.agg #[.int .i64 al, .int .i64 (ah - 1)]) ∧ Below w.heap.size w w' := by
  go_enter Tryd.func53, Tryd.ntmps53
  go_wp2_with fail
  all_goals exact bodyPost_ret (v := .agg #[.int .i64 al, .int .i64 (ah - 1)]) (by simp [results, Tryd.results53, go_sem]) rfl ⟨rfl, by repeat' first | exact Below.refl _ _ | refine Below.alloc ?_ ?_ _ | refine Below.setCell ?_ ?_ _ | refine Below.drew ?_ | refine below_drewN ?_ _ | (simp; done) | (simp; omega) | (simp [drew_size]; done) | (simp [drew_size]; omega) | omega⟩
theorem rcut_none (al ah bl : Int) (hne : ¬ al = ah) (h1 : ¬ al = bl) (h2 : ¬ ah = bl) (w : World) : Calls Tryd.prog 53 #[.agg #[.int .i64 al, .int .i64 ah], .agg #[.int .i64 bl, .int .i64 bl]] w fun e w' => e = .returned (.agg #[.int .i64 al, .int .i64 ah]) ∧ Below w.heap.size w w' := by
  go_enter Tryd.func53, Tryd.ntmps53
  go_wp2_with fail
  all_goals exact bodyPost_ret (v := .agg #[.int .i64 al, .int .i64 ah]) (by simp [results, Tryd.results53, go_sem]) rfl ⟨rfl, by repeat' first | exact Below.refl _ _ | refine Below.alloc ?_ ?_ _ | refine Below.setCell ?_ ?_ _ | refine Below.drew ?_ | refine below_drewN ?_ _ | (simp; done) | (simp; omega) | (simp [drew_size]; done) | (simp [drew_size]; omega) | omega⟩
theorem rcut_is (al ah bl bh : Int) (pal : -9223372036854775808 ≤ al) (qah : ah ≤ 9223372036854775807) (oa : al ≤ ah) (w : World) : Calls Tryd.prog 53 #[.agg #[.int .i64 al, .int .i64 ah], .agg #[.int .i64 bl, .int .i64 bh]] w fun e w' => e = .returned (.agg #[.int .i64 ((cutV al ah bl bh).1), .int .i64 ((cutV al ah bl bh).2)]) ∧ Below w.heap.size w w' := by
  unfold cutV
  by_cases h0 : al = ah
  · rw [if_pos h0]
    subst h0
    exact rcut_one al bl bh w
  · rw [if_neg h0]
    by_cases hb : bl = bh
    · subst hb
      by_cases h1 : al = bl
      · rw [if_pos ⟨h1.symm, h1.symm⟩]
        subst h1
        exact rcut_low al ah h0 (by omega) pal qah w
      · rw [if_neg (fun x => h1 x.1.symm)]
        by_cases h2 : ah = bl
        · rw [if_pos ⟨h2.symm, h2.symm⟩]
          subst h2
          exact rcut_high al ah h0 (by omega) pal qah w
        · rw [if_neg (fun x => h2 x.1.symm)]
          exact rcut_none al ah bl h0 h1 h2 w
    · rw [if_neg (fun x => hb (x.1.trans x.2.symm)), if_neg (fun x => hb (x.1.trans x.2.symm))]
      exact rcut_not al ah bl bh hb w
set_option maxHeartbeats 1000000 in
set_option maxRecDepth 100000 in
theorem ropp_15 (w : World) : Calls Tryd.prog 22 #[.int .i64 15] w fun e w' => e = .returned (.int .i64 16) ∧ Below w.heap.size w w' := by
  go_enter Tryd.func22, Tryd.ntmps22
  go_wp2
  refine wp_loop_rounds 6 ?_
  repeat any_goals (rw [rounds_succ]; go_wp2)
  all_goals go_ret
  all_goals exact ⟨rfl, by repeat' first | exact Below.refl _ _ | refine Below.alloc ?_ ?_ _ | refine Below.setCell ?_ ?_ _ | refine Below.drew ?_ | refine below_drewN ?_ _ | (simp; done) | (simp; omega) | (simp [drew_size]; done) | (simp [drew_size]; omega) | omega⟩
set_option maxHeartbeats 1000000 in
set_option maxRecDepth 100000 in
theorem ropp_16 (w : World) : Calls Tryd.prog 22 #[.int .i64 16] w fun e w' => e = .returned (.int .i64 15) ∧ Below w.heap.size w w' := by
  go_enter Tryd.func22, Tryd.ntmps22
  go_wp2
  refine wp_loop_rounds 6 ?_
  repeat any_goals (rw [rounds_succ]; go_wp2)
  all_goals go_ret
  all_goals exact ⟨rfl, by repeat' first | exact Below.refl _ _ | refine Below.alloc ?_ ?_ _ | refine Below.setCell ?_ ?_ _ | refine Below.drew ?_ | refine below_drewN ?_ _ | (simp; done) | (simp; omega) | (simp [drew_size]; done) | (simp [drew_size]; omega) | omega⟩
set_option maxHeartbeats 1000000 in
set_option maxRecDepth 100000 in
theorem ropp_17 (w : World) : Calls Tryd.prog 22 #[.int .i64 17] w fun e w' => e = .returned (.int .i64 20) ∧ Below w.heap.size w w' := by
  go_enter Tryd.func22, Tryd.ntmps22
  go_wp2
  refine wp_loop_rounds 6 ?_
  repeat any_goals (rw [rounds_succ]; go_wp2)
  all_goals go_ret
  all_goals exact ⟨rfl, by repeat' first | exact Below.refl _ _ | refine Below.alloc ?_ ?_ _ | refine Below.setCell ?_ ?_ _ | refine Below.drew ?_ | refine below_drewN ?_ _ | (simp; done) | (simp; omega) | (simp [drew_size]; done) | (simp [drew_size]; omega) | omega⟩
set_option maxHeartbeats 1000000 in
set_option maxRecDepth 100000 in
theorem ropp_18 (w : World) : Calls Tryd.prog 22 #[.int .i64 18] w fun e w' => e = .returned (.int .i64 19) ∧ Below w.heap.size w w' := by
  go_enter Tryd.func22, Tryd.ntmps22
  go_wp2
  refine wp_loop_rounds 6 ?_
  repeat any_goals (rw [rounds_succ]; go_wp2)
  all_goals go_ret
  all_goals exact ⟨rfl, by repeat' first | exact Below.refl _ _ | refine Below.alloc ?_ ?_ _ | refine Below.setCell ?_ ?_ _ | refine Below.drew ?_ | refine below_drewN ?_ _ | (simp; done) | (simp; omega) | (simp [drew_size]; done) | (simp [drew_size]; omega) | omega⟩
set_option maxHeartbeats 1000000 in
set_option maxRecDepth 100000 in
theorem ropp_19 (w : World) : Calls Tryd.prog 22 #[.int .i64 19] w fun e w' => e = .returned (.int .i64 18) ∧ Below w.heap.size w w' := by
  go_enter Tryd.func22, Tryd.ntmps22
  go_wp2
  refine wp_loop_rounds 6 ?_
  repeat any_goals (rw [rounds_succ]; go_wp2)
  all_goals go_ret
  all_goals exact ⟨rfl, by repeat' first | exact Below.refl _ _ | refine Below.alloc ?_ ?_ _ | refine Below.setCell ?_ ?_ _ | refine Below.drew ?_ | refine below_drewN ?_ _ | (simp; done) | (simp; omega) | (simp [drew_size]; done) | (simp [drew_size]; omega) | omega⟩
set_option maxHeartbeats 1000000 in
set_option maxRecDepth 100000 in
theorem ropp_20 (w : World) : Calls Tryd.prog 22 #[.int .i64 20] w fun e w' => e = .returned (.int .i64 17) ∧ Below w.heap.size w w' := by
  go_enter Tryd.func22, Tryd.ntmps22
  go_wp2
  refine wp_loop_rounds 6 ?_
  repeat any_goals (rw [rounds_succ]; go_wp2)
  all_goals go_ret
  all_goals exact ⟨rfl, by repeat' first | exact Below.refl _ _ | refine Below.alloc ?_ ?_ _ | refine Below.setCell ?_ ?_ _ | refine Below.drew ?_ | refine below_drewN ?_ _ | (simp; done) | (simp; omega) | (simp [drew_size]; done) | (simp [drew_size]; omega) | omega⟩
set_option maxHeartbeats 1000000 in
set_option maxRecDepth 100000 in
theorem ropp_21 (w : World) : Calls Tryd.prog 22 #[.int .i64 21] w fun e w' => e = .returned (.int .i64 24) ∧ Below w.heap.size w w' := by
  go_enter Tryd.func22, Tryd.ntmps22
  go_wp2
  refine wp_loop_rounds 6 ?_
  repeat any_goals (rw [rounds_succ]; go_wp2)
  all_goals go_ret
  all_goals exact ⟨rfl, by repeat' first | exact Below.refl _ _ | refine Below.alloc ?_ ?_ _ | refine Below.setCell ?_ ?_ _ | refine Below.drew ?_ | refine below_drewN ?_ _ | (simp; done) | (simp; omega) | (simp [drew_size]; done) | (simp [drew_size]; omega) | omega⟩
set_option maxHeartbeats 1000000 in
set_option maxRecDepth 100000 in
theorem ropp_22 (w : World) : Calls Tryd.prog 22 #[.int .i64 22] w fun e w' => e = .returned (.int .i64 23) ∧ Below w.heap.size w w' := by
  go_enter Tryd.func22, Tryd.ntmps22
  go_wp2
  refine wp_loop_rounds 6 ?_
  repeat any_goals (rw [rounds_succ]; go_wp2)
  all_goals go_ret
  all_goals exact ⟨rfl, by repeat' first | exact Below.refl _ _ | refine Below.alloc ?_ ?_ _ | refine Below.setCell ?_ ?_ _ | refine Below.drew ?_ | refine below_drewN ?_ _ | (simp; done) | (simp; omega) | (simp [drew_size]; done) | (simp [drew_size]; omega) | omega⟩
set_option maxHeartbeats 1000000 in
set_option maxRecDepth 100000 in
theorem ropp_23 (w : World) : Calls Tryd.prog 22 #[.int .i64 23] w fun e w' => e = .returned (.int .i64 22) ∧ Below w.heap.size w w' := by
  go_enter Tryd.func22, Tryd.ntmps22
  go_wp2
  refine wp_loop_rounds 6 ?_
  repeat any_goals (rw [rounds_succ]; go_wp2)
  all_goals go_ret
  all_goals exact ⟨rfl, by repeat' first | exact Below.refl _ _ | refine Below.alloc ?_ ?_ _ | refine Below.setCell ?_ ?_ _ | refine Below.drew ?_ | refine below_drewN ?_ _ | (simp; done) | (simp; omega) | (simp [drew_size]; done) | (simp [drew_size]; omega) | omega⟩
set_option maxHeartbeats 1000000 in
set_option maxRecDepth 100000 in
theorem ropp_24 (w : World) : Calls Tryd.prog 22 #[.int .i64 24] w fun e w' => e = .returned (.int .i64 21) ∧ Below w.heap.size w w' := by
  go_enter Tryd.func22, Tryd.ntmps22
  go_wp2
  refine wp_loop_rounds 6 ?_
  repeat any_goals (rw [rounds_succ]; go_wp2)
  all_goals go_ret
  all_goals exact ⟨rfl, by repeat' first | exact Below.refl _ _ | refine Below.alloc ?_ ?_ _ | refine Below.setCell ?_ ?_ _ | refine Below.drew ?_ | refine below_drewN ?_ _ | (simp; done) | (simp; omega) | (simp [drew_size]; done) | (simp [drew_size]; omega) | omega⟩
end Go.Proofs.YtllphbfhfmieaaaDoor
