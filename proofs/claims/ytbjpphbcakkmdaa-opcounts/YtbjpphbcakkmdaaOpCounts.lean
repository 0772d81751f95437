/-
  What the document's own answers to Is and Fill return, and from all contracts together: OpCounts returns true at every code and every two numbers of 64 bits, and changes nothing. No conditions.
-/
import Derived.Test.YtbjpphbcakkmdaaRefWalks
namespace Go.Proofs.Ytbjpphbcakkmdaa
open Go.ChangeShapes Go.WideShapes Go.ChangeAt Go.RowKit

theorem at_0 (x0 x1 x2 x3 x4 x5 x6 x7 x8 x9 : Bool) (w : World) : (Instr.index 31 (.agg #[.bool x0, .bool x1, .bool x2, .bool x3, .bool x4, .bool x5, .bool x6, .bool x7, .bool x8, .bool x9]) (.int .i64 0)).run Try.prog w = .ok (.bool x0) w := by kernel_rfl
theorem at_1 (x0 x1 x2 x3 x4 x5 x6 x7 x8 x9 : Bool) (w : World) : (Instr.index 31 (.agg #[.bool x0, .bool x1, .bool x2, .bool x3, .bool x4, .bool x5, .bool x6, .bool x7, .bool x8, .bool x9]) (.int .i64 1)).run Try.prog w = .ok (.bool x1) w := by kernel_rfl
theorem at_2 (x0 x1 x2 x3 x4 x5 x6 x7 x8 x9 : Bool) (w : World) : (Instr.index 31 (.agg #[.bool x0, .bool x1, .bool x2, .bool x3, .bool x4, .bool x5, .bool x6, .bool x7, .bool x8, .bool x9]) (.int .i64 2)).run Try.prog w = .ok (.bool x2) w := by kernel_rfl
theorem at_3 (x0 x1 x2 x3 x4 x5 x6 x7 x8 x9 : Bool) (w : World) : (Instr.index 31 (.agg #[.bool x0, .bool x1, .bool x2, .bool x3, .bool x4, .bool x5, .bool x6, .bool x7, .bool x8, .bool x9]) (.int .i64 3)).run Try.prog w = .ok (.bool x3) w := by kernel_rfl
theorem at_4 (x0 x1 x2 x3 x4 x5 x6 x7 x8 x9 : Bool) (w : World) : (Instr.index 31 (.agg #[.bool x0, .bool x1, .bool x2, .bool x3, .bool x4, .bool x5, .bool x6, .bool x7, .bool x8, .bool x9]) (.int .i64 4)).run Try.prog w = .ok (.bool x4) w := by kernel_rfl
theorem at_5 (x0 x1 x2 x3 x4 x5 x6 x7 x8 x9 : Bool) (w : World) : (Instr.index 31 (.agg #[.bool x0, .bool x1, .bool x2, .bool x3, .bool x4, .bool x5, .bool x6, .bool x7, .bool x8, .bool x9]) (.int .i64 5)).run Try.prog w = .ok (.bool x5) w := by kernel_rfl
theorem at_6 (x0 x1 x2 x3 x4 x5 x6 x7 x8 x9 : Bool) (w : World) : (Instr.index 31 (.agg #[.bool x0, .bool x1, .bool x2, .bool x3, .bool x4, .bool x5, .bool x6, .bool x7, .bool x8, .bool x9]) (.int .i64 6)).run Try.prog w = .ok (.bool x6) w := by kernel_rfl
theorem at_7 (x0 x1 x2 x3 x4 x5 x6 x7 x8 x9 : Bool) (w : World) : (Instr.index 31 (.agg #[.bool x0, .bool x1, .bool x2, .bool x3, .bool x4, .bool x5, .bool x6, .bool x7, .bool x8, .bool x9]) (.int .i64 7)).run Try.prog w = .ok (.bool x7) w := by kernel_rfl
theorem at_8 (x0 x1 x2 x3 x4 x5 x6 x7 x8 x9 : Bool) (w : World) : (Instr.index 31 (.agg #[.bool x0, .bool x1, .bool x2, .bool x3, .bool x4, .bool x5, .bool x6, .bool x7, .bool x8, .bool x9]) (.int .i64 8)).run Try.prog w = .ok (.bool x8) w := by kernel_rfl
theorem at_9 (x0 x1 x2 x3 x4 x5 x6 x7 x8 x9 : Bool) (w : World) : (Instr.index 31 (.agg #[.bool x0, .bool x1, .bool x2, .bool x3, .bool x4, .bool x5, .bool x6, .bool x7, .bool x8, .bool x9]) (.int .i64 9)).run Try.prog w = .ok (.bool x9) w := by kernel_rfl
theorem refIs_15 (a b : Int) (w : World) : Calls Try.prog 8 #[.int .i64 15, .int .i64 a, .int .i64 b] w fun e w' => e = .returned (.bool (isV 15 a b)) ∧ w' = w := by
  rw [isV_15]
  have ha := uns_wrap a
  have hb := uns_wrap b
  have hx := at_0
  go_enter Try.func8, Try.ntmps8
  go_wp2_with (go_at_call 12; refine (refAsks_any _ _).mono ?_; rintro e w' ⟨rfl, rfl⟩)
  go_ret
  exact ⟨rfl, rfl⟩
theorem refIs_16 (a b : Int) (w : World) : Calls Try.prog 8 #[.int .i64 16, .int .i64 a, .int .i64 b] w fun e w' => e = .returned (.bool (isV 16 a b)) ∧ w' = w := by
  rw [isV_16]
  have ha := uns_wrap a
  have hb := uns_wrap b
  have hx := at_1
  go_enter Try.func8, Try.ntmps8
  go_wp2_with (go_at_call 12; refine (refAsks_any _ _).mono ?_; rintro e w' ⟨rfl, rfl⟩)
  go_ret
  exact ⟨rfl, rfl⟩
theorem refIs_17 (a b : Int) (w : World) : Calls Try.prog 8 #[.int .i64 17, .int .i64 a, .int .i64 b] w fun e w' => e = .returned (.bool (isV 17 a b)) ∧ w' = w := by
  rw [isV_17]
  have ha := uns_wrap a
  have hb := uns_wrap b
  have hx := at_2
  go_enter Try.func8, Try.ntmps8
  go_wp2_with (go_at_call 12; refine (refAsks_any _ _).mono ?_; rintro e w' ⟨rfl, rfl⟩)
  go_ret
  exact ⟨rfl, rfl⟩
theorem refIs_18 (a b : Int) (w : World) : Calls Try.prog 8 #[.int .i64 18, .int .i64 a, .int .i64 b] w fun e w' => e = .returned (.bool (isV 18 a b)) ∧ w' = w := by
  rw [isV_18]
  have ha := uns_wrap a
  have hb := uns_wrap b
  have hx := at_3
  go_enter Try.func8, Try.ntmps8
  go_wp2_with (go_at_call 12; refine (refAsks_any _ _).mono ?_; rintro e w' ⟨rfl, rfl⟩)
  go_ret
  exact ⟨rfl, rfl⟩
theorem refIs_19 (a b : Int) (w : World) : Calls Try.prog 8 #[.int .i64 19, .int .i64 a, .int .i64 b] w fun e w' => e = .returned (.bool (isV 19 a b)) ∧ w' = w := by
  rw [isV_19]
  have ha := uns_wrap a
  have hb := uns_wrap b
  have hx := at_4
  go_enter Try.func8, Try.ntmps8
  go_wp2_with (go_at_call 12; refine (refAsks_any _ _).mono ?_; rintro e w' ⟨rfl, rfl⟩)
  go_ret
  exact ⟨rfl, rfl⟩
theorem refIs_20 (a b : Int) (w : World) : Calls Try.prog 8 #[.int .i64 20, .int .i64 a, .int .i64 b] w fun e w' => e = .returned (.bool (isV 20 a b)) ∧ w' = w := by
  rw [isV_20]
  have ha := uns_wrap a
  have hb := uns_wrap b
  have hx := at_5
  go_enter Try.func8, Try.ntmps8
  go_wp2_with (go_at_call 12; refine (refAsks_any _ _).mono ?_; rintro e w' ⟨rfl, rfl⟩)
  go_ret
  exact ⟨rfl, rfl⟩
theorem refIs_21 (a b : Int) (w : World) : Calls Try.prog 8 #[.int .i64 21, .int .i64 a, .int .i64 b] w fun e w' => e = .returned (.bool (isV 21 a b)) ∧ w' = w := by
  rw [isV_21]
  have ha := uns_wrap a
  have hb := uns_wrap b
  have hx := at_6
  go_enter Try.func8, Try.ntmps8
  go_wp2_with (go_at_call 12; refine (refAsks_any _ _).mono ?_; rintro e w' ⟨rfl, rfl⟩)
  go_ret
  exact ⟨rfl, rfl⟩
theorem refIs_22 (a b : Int) (w : World) : Calls Try.prog 8 #[.int .i64 22, .int .i64 a, .int .i64 b] w fun e w' => e = .returned (.bool (isV 22 a b)) ∧ w' = w := by
  rw [isV_22]
  have ha := uns_wrap a
  have hb := uns_wrap b
  have hx := at_7
  go_enter Try.func8, Try.ntmps8
  go_wp2_with (go_at_call 12; refine (refAsks_any _ _).mono ?_; rintro e w' ⟨rfl, rfl⟩)
  go_ret
  exact ⟨rfl, rfl⟩
theorem refIs_23 (a b : Int) (w : World) : Calls Try.prog 8 #[.int .i64 23, .int .i64 a, .int .i64 b] w fun e w' => e = .returned (.bool (isV 23 a b)) ∧ w' = w := by
  rw [isV_23]
  have ha := uns_wrap a
  have hb := uns_wrap b
  have hx := at_8
  go_enter Try.func8, Try.ntmps8
  go_wp2_with (go_at_call 12; refine (refAsks_any _ _).mono ?_; rintro e w' ⟨rfl, rfl⟩)
  go_ret
  exact ⟨rfl, rfl⟩
theorem refIs_24 (a b : Int) (w : World) : Calls Try.prog 8 #[.int .i64 24, .int .i64 a, .int .i64 b] w fun e w' => e = .returned (.bool (isV 24 a b)) ∧ w' = w := by
  rw [isV_24]
  have ha := uns_wrap a
  have hb := uns_wrap b
  have hx := at_9
  go_enter Try.func8, Try.ntmps8
  go_wp2_with (go_at_call 12; refine (refAsks_any _ _).mono ?_; rintro e w' ⟨rfl, rfl⟩)
  go_ret
  exact ⟨rfl, rfl⟩
theorem refIs_no (c a b : Int) (hc : c < 15 ∨ 24 < c) (w : World) : Calls Try.prog 8 #[.int .i64 c, .int .i64 a, .int .i64 b] w fun e w' => e = .returned (.bool (isV c a b)) ∧ w' = w := by
  rw [isV_no a b hc]
  have hf : (decide (15 ≤ c) && decide (c ≤ 24)) = false := by
    rcases hc with h | h
    · rw [decide_eq_false (by omega : ¬ 15 ≤ c)]; rfl
    · rw [decide_eq_false (by omega : ¬ c ≤ 24), Bool.and_false]
  go_enter Try.func8, Try.ntmps8
  go_wp2_with (go_at_call 12; refine (refAsks_any _ _).mono ?_; rw [hf]; rintro e w' ⟨rfl, rfl⟩)
  go_ret
  exact ⟨rfl, rfl⟩
theorem refIs_any (c a b : Int) (w : World) : Calls Try.prog 8 #[.int .i64 c, .int .i64 a, .int .i64 b] w fun e w' => e = .returned (.bool (isV c a b)) ∧ w' = w := by
  by_cases hc : c < 15 ∨ 24 < c
  · exact refIs_no c a b hc w
  · have h : c = 15 ∨ c = 16 ∨ c = 17 ∨ c = 18 ∨ c = 19 ∨ c = 20 ∨ c = 21 ∨ c = 22 ∨ c = 23 ∨ c = 24 := by omega
    rcases h with rfl | rfl | rfl | rfl | rfl | rfl | rfl | rfl | rfl | rfl
    · exact refIs_15 a b w
    · exact refIs_16 a b w
    · exact refIs_17 a b w
    · exact refIs_18 a b w
    · exact refIs_19 a b w
    · exact refIs_20 a b w
    · exact refIs_21 a b w
    · exact refIs_22 a b w
    · exact refIs_23 a b w
    · exact refIs_24 a b w
theorem refFill_any (n : Int) (h1 : n ≤ 9223372036854775807) (w : World) : Calls Try.prog 10 #[.int .i64 n] w fun e w' => e = .returned (.int .i64 (fillV n)) ∧ w' = w := by
  go_enter Try.func10, Try.ntmps10
  go_wp2
  go_loop [3] (fun f => ∃ j : Nat, j ≤ lenV n.toNat ∧ f = .int .i64 (ones j)) (fun f => 9223372036854775808 - (intOf f).toNat)
  case atStart => exact ⟨0, Nat.zero_le _, rfl⟩
  case round =>
    obtain ⟨j, hj, rfl⟩ := hrel
    have hs : Hid (ones (j + 1) = ones j * 2 + 1) := ones_succ j
    by_cases hlt : (ones j : Int) < n
    · have hj2 : j + 1 ≤ lenV n.toNat := len_more (by omega)
      have hb := ones_lt (j := j + 1) (by have := len_63 h1; omega)
      have hb2 : ones j * 2 + 1 ≤ 9223372036854775807 := by rw [hs.out] at hb; exact hb
      clear hb
      go_wp2
      go_round
      case rel => exact ⟨j + 1, hj2, by rw [hs.out]; go_num⟩
      case measure => simp [intOf]; omega
    · have hj2 : Hid (j = lenV n.toNat) := len_same hj hlt
      go_wp2
      go_ret
      exact ⟨ret_i64 (by rw [hj2.out]; rfl), rfl⟩
namespace opCounts
set_option linter.unusedVariables false
theorem own : ownKnob Try.prog.godebug = none := by kernel_rfl

theorem walk (a0 : Int) (a1 : Int) (a2 : Int) (w1 : (Lit.int .i64 a1).wf = true) (w2 : (Lit.int .i64 a2).wf = true) (w : World) :
    Calls Try.prog 3 #[.int .i64 a0, .int .i64 a1, .int .i64 a2] w fun e w' => e = .returned (.bool true) ∧ Grown w w' := by
  have b1 := bounds_i64 w1
  have b2 := bounds_i64 w2
  go_enter Try.func3, Try.ntmps3
  go_wp2_with (first | (go_at_call 5; refine (does_any _ _ _ b2.1 b2.2 _).mono ?_; rintro e w' ⟨rfl, rfl⟩) | (go_at_call 6; refine (ref_any _ _ _ b1.1 b1.2 b2.1 b2.2 _).mono ?_; rintro e w' ⟨rfl, rfl⟩) | (go_at_call 7; refine (is_any _ _ _ _).mono ?_; rintro e w' ⟨rfl, rfl⟩) | (go_at_call 8; refine (refIs_any _ _ _ _).mono ?_; rintro e w' ⟨rfl, rfl⟩) | (go_at_call 9; refine (fill_any _ b1.1 b1.2 _).mono ?_; rintro e w' ⟨rfl, rfl⟩) | (go_at_call 10; refine (refFill_any _ b1.2 _).mono ?_; rintro e w' ⟨rfl, rfl⟩) | (go_at_call 11; refine (asks_any _ _).mono ?_; rintro e w' ⟨rfl, rfl⟩) | (go_at_call 12; refine (refAsks_any _ _).mono ?_; rintro e w' ⟨rfl, rfl⟩))
  go_ret
  exact ⟨rfl, Grown.refl _⟩

set_option maxRecDepth 100000 in
theorem lifted (os : Os) (started : os.Started) (H : Type) (enc : TypeId × Value → H) :
    ReturnsInHanded {} Try.checked os 3 .any (Rows.opCountsSpec.pre6 enc Try.prog Try.f3 Rows.opCountsRow.domain false) (Rows.opCountsSpec.post enc Try.prog Try.f3 false true false false) := by
  refine returnsInHanded_of_change (C := Try.checked) own started (by kernel_rfl) Try.func3
    (ChangeSpec.witness6 (enc := enc) (C := Try.checked) false ⟨#[], #[.int .i64 0, .int .i64 0, .int .i64 0], []⟩ 8 (by kernel_rfl) (by kernel_rfl) (by kernel_rfl) (by kernel_rfl)) ?_
  intro W base args ds gs before hval0 hW hcnd _
  have hval : ∀ (j : Nat) t v, Try.f3.params[j]? = some t → args[j]? = some v → Value.okWide Try.prog W .any base t v := hval0
  have hW' := hW
  obtain ⟨p, q, hA0, hV, rfl, hfz, hnd⟩ := hW
  have hA : DataW.TrodAll enc Try.prog W 0 (fun _ => true) true Try.f3.params.toList args.toList ds p := hA0
  rw [Try.params3] at hA hval
  obtain ⟨v0, vs0, d0, ds0, p0, q0, hargs, rfl, rfl, h0, r0⟩ := trodAll_cons hA
  obtain ⟨v1, vs1, d1, ds1, p1, q1, rfl, rfl, rfl, h1, r1⟩ := trodAll_cons r0
  obtain ⟨v2, vs2, d2, ds2, p2, q2, rfl, rfl, rfl, h2, r2⟩ := trodAll_cons r1
  obtain ⟨rfl, rfl, rfl⟩ := trodAll_nil r2
  obtain rfl : args = #[v0, v1, v2] := by cases args; simp_all
  obtain ⟨rfl, rfl⟩ := trodVars_none hV
  obtain ⟨a0, rfl, rfl, rfl, w0⟩ := open_int Try.underlying3 (hval 0 3 v0 rfl rfl) h0
  obtain ⟨a1, rfl, rfl, rfl, w1⟩ := open_int Try.underlying2 (hval 1 2 v1 rfl rfl) h1
  obtain ⟨a2, rfl, rfl, rfl, w2⟩ := open_int Try.underlying2 (hval 2 2 v2 rfl rfl) h2
  clear hA0 hval0
  simp only [List.append_nil] at hW'
  refine (walk a0 a1 a2 w1 w2 W).mono fun e W' ⟨he, hg⟩ => ?_
  subst he
  exact ⟨_, rfl, post_of_same (pa := []) (pv := []) hW' (fun _ _ _ => (trodAll_cons_mk (shut_bool Try.underlying4 _) trodAll_mk0)) (fun sp _ => (trodAll_cons_mk (shut_int Try.underlying3 w0) (trodAll_cons_mk (shut_int Try.underlying2 w1) (trodAll_cons_mk (shut_int Try.underlying2 w2) trodAll_mk0)))) (fun _ _ => rfl) rfl
    (hg.frame _) hg.2.1 (ok_one (by kernel_rfl) rfl (okWide_bool_mk Try.underlying4 _))⟩

theorem over : Rows.opCountsRow.holds Try.pinned (OpenSpec.ofChange Rows.opCountsSpec) :=
  OpenClaim.holds_of_wide 3 Try.f3 rfl rfl rfl rfl rfl rfl rfl ⟨rfl, rfl, rfl, rfl, rfl⟩ rfl rfl rfl rfl rfl (by kernel_rfl) Try.func3 (by kernel_rfl)
    (of_decide_eq_true (by kernel_rfl)) (by unfold Func.isWrapper; first | (rw [if_pos (by decide +kernel)]; kernel_rfl) | (rw [if_neg (by decide +kernel)]; exact ⟨rfl, rfl⟩))
    (fun os started H enc _ => lifted os started H enc)

theorem proved : Rows.OpCountsSaid :=
  over
#print axioms proved
end opCounts

theorem opCounts_holds : Rows.OpCountsSaid := opCounts.proved
end Go.Proofs.Ytbjpphbcakkmdaa
