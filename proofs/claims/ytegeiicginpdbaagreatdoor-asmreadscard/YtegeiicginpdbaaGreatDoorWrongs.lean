/-
  What op.wrong and the document's own wrong return, all classes of codes together. Conditions: none.
-/
import Derived.Test.YtegeiicginpdbaaGreatDoorWrongOp
namespace Go.Proofs.YtegeiicginpdbaaGreatDoor
open Go.ChangeShapes Go.WideShapes Go.ChangeAt Go.RowKit

theorem bit_one {x : Bool} (h : x = true) : bit x = 1 := by rw [h]; rfl
theorem bit_no {x : Bool} (h : x = false) : bit x = 0 := by rw [h]; rfl
/-- What is left of aloneV, once code and registers are such as there are. -/
theorem alone_last {c d s : Int} {r : Bool} {o n : Int} (c1 : 1 ≤ c) (c2 : c ≤ 28) (d1 : 0 ≤ d) (d2 : d ≤ 10) (s1 : 0 ≤ s) (s2 : s ≤ 10) (ht : ¬ (((1 ≤ c ∧ c ≤ 13) ∨ c = 25) ∧ d = 10)) :
    aloneV c d s r o n = (if moreV c d s r o n = true ∨ (c = 27 ∧ n ≠ 1 ∧ n ≠ 2 ∧ n ≠ 3) then 1 else 0) := by
  unfold aloneV
  rw [if_neg (by omega), if_neg (by omega), if_neg ht]
theorem alone_plain {c d s : Int} {r : Bool} {o n : Int} (c1 : 1 ≤ c) (c2 : c ≤ 28) (d1 : 0 ≤ d) (d2 : d ≤ 10) (s1 : 0 ≤ s) (s2 : s ≤ 10) (ht : ¬ (((1 ≤ c ∧ c ≤ 13) ∨ c = 25) ∧ d = 10)) (h27 : c ≠ 27) :
    aloneV c d s r o n = bit (moreV c d s r o n) := by
  rw [alone_last c1 c2 d1 d2 s1 s2 ht]
  unfold bit
  cases moreV c d s r o n <;> simp [h27]
theorem refWrong_any (c d s : Int) (r : Bool) (o n : Int) (w : World) :
    Calls Tryz.prog 50 #[.agg #[.int .i64 c, .int .i64 d, .int .i64 s, .bool r, .int .i64 o, .int .i64 n]] w fun e w' => e = .returned (.int .i64 (aloneV c d s r o n)) ∧ Below w.heap.size w w' := by
  by_cases k1 : c < 1
  · have e : aloneV c d s r o n = 3 := by unfold aloneV; rw [if_pos (Or.inl k1)]
    rw [e]; exact ref_c_lo c d s o n r k1 w
  by_cases k2 : 28 < c
  · have e : aloneV c d s r o n = 3 := by unfold aloneV; rw [if_pos (Or.inr k2)]
    rw [e]; exact ref_c_hi c d s o n r k2 w
  have c1 : 1 ≤ c := by omega
  have c2 : c ≤ 28 := by omega
  have two : (d < 0 ∨ 10 < d ∨ s < 0 ∨ 10 < s) → aloneV c d s r o n = 2 := fun h => by unfold aloneV; rw [if_neg (by omega), if_pos h]
  by_cases k3 : d < 0
  · rw [two (by omega)]; exact ref_d_lo c d s o n r c1 c2 k3 w
  by_cases k4 : 10 < d
  · rw [two (by omega)]; exact ref_d_hi c d s o n r c1 c2 k4 w
  have d1 : 0 ≤ d := by omega
  have d2 : d ≤ 10 := by omega
  by_cases k5 : s < 0
  · rw [two (by omega)]; exact ref_s_lo c d s o n r c1 c2 d1 d2 k5 w
  by_cases k6 : 10 < s
  · rw [two (by omega)]; exact ref_s_hi c d s o n r c1 c2 d1 d2 k6 w
  have s1 : 0 ≤ s := by omega
  have s2 : s ≤ 10 := by omega
  by_cases ht : ((1 ≤ c ∧ c ≤ 13) ∨ c = 25) ∧ d = 10
  · have e : aloneV c d s r o n = 6 := by unfold aloneV; rw [if_neg (by omega), if_neg (by omega), if_pos ht]
    rw [e]
    obtain ⟨h, rfl⟩ := ht
    rcases h with ⟨a1, a2⟩ | rfl
    · exact ref_top c s o n r a1 a2 s1 s2 w
    · exact ref_top25 s o n r s1 s2 w
  have hc : (1 ≤ c ∧ c ≤ 12) ∨ (15 ≤ c ∧ c ≤ 24) ∨ c = 13 ∨ c = 14 ∨ c = 25 ∨ c = 26 ∨ c = 27 ∨ c = 28 := by omega
  rcases hc with ⟨a1, a2⟩ | ⟨a1, a2⟩ | rfl | rfl | rfl | rfl | rfl | rfl
  · have e : moreV c d s r o n = (if r then o != 0 || n != 0 else s != 0 || o != 0) := by unfold moreV; rw [if_pos ⟨a1, a2⟩]
    rw [alone_plain c1 c2 d1 d2 s1 s2 ht (by omega), e]
    cases r
    · exact ref_two_false c d s o n a1 a2 d1 d2 s1 s2 (by omega) w
    · exact ref_two_true c d s o n a1 a2 d1 d2 s1 s2 (by omega) w
  · have e : moreV c d s r o n = (if r then n != 0 else s != 0) := by unfold moreV; rw [if_neg (by omega), if_pos ⟨a1, a2⟩]
    rw [alone_plain c1 c2 d1 d2 s1 s2 ht (by omega), e]
    cases r
    · exact ref_ask_false c d s o n a1 a2 d1 d2 s1 s2 w
    · exact ref_ask_true c d s o n a1 a2 d1 d2 s1 s2 w
  · rw [alone_plain c1 c2 d1 d2 s1 s2 ht (by omega)]
    cases r
    · exact ref_c13_false d s o n d1 d2 s1 s2 (by omega) w
    · exact ref_c13_true d s o n d1 d2 s1 s2 (by omega) w
  · rw [alone_plain c1 c2 d1 d2 s1 s2 ht (by omega)]
    cases r
    · exact ref_c14_false d s o n d1 d2 s1 s2 w
    · exact ref_c14_true d s o n d1 d2 s1 s2 w
  · rw [alone_plain c1 c2 d1 d2 s1 s2 ht (by omega)]
    cases r
    · exact ref_c25_false d s o n d1 d2 s1 s2 (by omega) w
    · exact ref_c25_true d s o n d1 d2 s1 s2 (by omega) w
  · rw [alone_plain c1 c2 d1 d2 s1 s2 ht (by omega)]
    cases r
    · exact ref_c26_false d s o n d1 d2 s1 s2 w
    · exact ref_c26_true d s o n d1 d2 s1 s2 w
  · rw [alone_last c1 c2 d1 d2 s1 s2 ht]
    have e : (if moreV 27 d s r o n = true ∨ ((27 : Int) = 27 ∧ n ≠ 1 ∧ n ≠ 2 ∧ n ≠ 3) then (1 : Int) else 0) = bit (d != 0 || s != 0 || r || o != 0 || (n != 1 && (n != 2 && n != 3))) := by
      have m : moreV 27 d s r o n = (d != 0 || s != 0 || r || o != 0) := rfl
      rw [m]
      unfold bit
      by_cases h1 : n = 1 <;> by_cases h2 : n = 2 <;> by_cases h3 : n = 3 <;> simp [h1, h2, h3] <;> omega
    rw [e]
    cases r
    · exact ref_c27_false d s o n d1 d2 s1 s2 w
    · exact ref_c27_true d s o n d1 d2 s1 s2 w
  · rw [alone_plain c1 c2 d1 d2 s1 s2 ht (by omega)]
    cases r
    · exact ref_c28_false d s o n d1 d2 s1 s2 w
    · exact ref_c28_true d s o n d1 d2 s1 s2 w
theorem wrong_alone {c d s : Int} {r : Bool} {o n b : Int} {x : Int} (h : aloneV c d s r o n = x) (h0 : x ≠ 0) : wrongV c d s r o n b = x := by
  unfold wrongV; rw [h, if_pos h0]
theorem wrong_rest {c d s : Int} {r : Bool} {o n b : Int} (h : aloneV c d s r o n = 0) : wrongV c d s r o n b = if (c = 14 ∨ (15 ≤ c ∧ c ≤ 24)) ∧ (o < 0 ∨ b ≤ o) then 10 else if b = 0 ∧ c ≠ 28 then 8 else 0 := by
  unfold wrongV; rw [if_neg (by rw [h]; exact fun f => f rfl)]
theorem wrong_end {c d s : Int} {r : Bool} {o n b : Int} (h : aloneV c d s r o n = 0) (h1 : ¬ (c = 14 ∨ (15 ≤ c ∧ c ≤ 24))) (h2 : c ≠ 28) : wrongV c d s r o n b = endV b := by
  rw [wrong_rest h, if_neg (fun f => h1 f.1)]
  unfold endV
  by_cases hb : b = 0 <;> simp [hb, h2]
theorem wrong_lead {c d s : Int} {r : Bool} {o n b : Int} (h : aloneV c d s r o n = 0) (h1 : c = 14 ∨ (15 ≤ c ∧ c ≤ 24)) : wrongV c d s r o n b = leadV o b := by
  rw [wrong_rest h]
  unfold leadV endV
  (repeat' split) <;> omega
theorem opWrong_any (c d s : Int) (r : Bool) (o n b : Int) (w : World) :
    Calls Tryz.prog 39 #[.agg #[.int .i64 c, .int .i64 d, .int .i64 s, .bool r, .int .i64 o, .int .i64 n], .int .i64 b, .func (Fn.func 38) #[] #[]] w fun e w' => e = .returned (.int .i64 (wrongV c d s r o n b)) ∧ Below w.heap.size w w' := by
  by_cases k1 : c < 1
  · have e : aloneV c d s r o n = 3 := by unfold aloneV; rw [if_pos (Or.inl k1)]
    rw [wrong_alone e (by decide)]; exact op_c_lo c d s o n b r k1 w
  by_cases k2 : 28 < c
  · have e : aloneV c d s r o n = 3 := by unfold aloneV; rw [if_pos (Or.inr k2)]
    rw [wrong_alone e (by decide)]; exact op_c_hi c d s o n b r k2 w
  have c1 : 1 ≤ c := by omega
  have c2 : c ≤ 28 := by omega
  have two : (d < 0 ∨ 10 < d ∨ s < 0 ∨ 10 < s) → wrongV c d s r o n b = 2 := fun h => wrong_alone (by unfold aloneV; rw [if_neg (by omega), if_pos h]) (by decide)
  by_cases k3 : d < 0
  · rw [two (by omega)]; exact op_d_lo c d s o n b r c1 c2 k3 w
  by_cases k4 : 10 < d
  · rw [two (by omega)]; exact op_d_hi c d s o n b r c1 c2 k4 w
  have d1 : 0 ≤ d := by omega
  have d2 : d ≤ 10 := by omega
  by_cases k5 : s < 0
  · rw [two (by omega)]; exact op_s_lo c d s o n b r c1 c2 d1 d2 k5 w
  by_cases k6 : 10 < s
  · rw [two (by omega)]; exact op_s_hi c d s o n b r c1 c2 d1 d2 k6 w
  have s1 : 0 ≤ s := by omega
  have s2 : s ≤ 10 := by omega
  by_cases ht : ((1 ≤ c ∧ c ≤ 13) ∨ c = 25) ∧ d = 10
  · have e : aloneV c d s r o n = 6 := by unfold aloneV; rw [if_neg (by omega), if_neg (by omega), if_pos ht]
    rw [wrong_alone e (by decide)]
    obtain ⟨h, rfl⟩ := ht
    rcases h with ⟨a1, a2⟩ | rfl
    · exact op_top c s o n b r a1 a2 s1 s2 w
    · exact op_top25 s o n b r s1 s2 w
  have last := alone_last (r := r) (o := o) (n := n) c1 c2 d1 d2 s1 s2 ht
  have hc : (1 ≤ c ∧ c ≤ 13) ∨ (15 ≤ c ∧ c ≤ 24) ∨ c = 14 ∨ c = 25 ∨ c = 26 ∨ c = 27 ∨ c = 28 := by omega
  cases hm : moreV c d s r o n with
  | true =>
    have e : aloneV c d s r o n = 1 := by rw [last, if_pos (Or.inl hm)]
    rw [wrong_alone e (by decide)]
    rcases hc with ⟨a1, a2⟩ | ⟨a1, a2⟩ | rfl | rfl | rfl | rfl | rfl
    · exact op_chg_more c d s o n b r a1 a2 d1 d2 s1 s2 (by omega) hm w
    · exact op_ask_more c d s o n b r a1 a2 d1 d2 s1 s2 hm w
    · exact op_c14_more d s o n b r d1 d2 s1 s2 hm w
    · exact op_c25_more d s o n b r d1 d2 s1 s2 (by omega) hm w
    · exact op_c26_more d s o n b r d1 d2 s1 s2 hm w
    · exact op_c27_more d s o n b r d1 d2 s1 s2 hm w
    · exact op_c28_more d s o n b r d1 d2 s1 s2 hm w
  | false =>
    by_cases h27 : c = 27 ∧ n ≠ 1 ∧ n ≠ 2 ∧ n ≠ 3
    · have e : aloneV c d s r o n = 1 := by rw [last, if_pos (Or.inr h27)]
      rw [wrong_alone e (by decide)]
      obtain ⟨rfl, n1, n2, n3⟩ := h27
      exact op_c27_bad d s o n b r d1 d2 s1 s2 hm (by simpa using n1) (by simpa using n2) (by simpa using n3) w
    · have e : aloneV c d s r o n = 0 := by rw [last, if_neg (by rw [hm]; simpa using h27)]
      rcases hc with ⟨a1, a2⟩ | ⟨a1, a2⟩ | rfl | rfl | rfl | rfl | rfl
      · rw [wrong_end e (by omega) (by omega)]; exact op_chg_end c d s o n b r a1 a2 d1 d2 s1 s2 (by omega) hm w
      · rw [wrong_lead e (by omega)]; exact op_ask_end c d s o n b r a1 a2 d1 d2 s1 s2 hm w
      · rw [wrong_lead e (by omega)]; exact op_c14_end d s o n b r d1 d2 s1 s2 hm w
      · rw [wrong_end e (by omega) (by omega)]; exact op_c25_end d s o n b r d1 d2 s1 s2 (by omega) hm w
      · rw [wrong_end e (by omega) (by omega)]; exact op_c26_end d s o n b r d1 d2 s1 s2 hm w
      · rw [wrong_end e (by omega) (by omega)]
        have hn : n = 1 ∨ n = 2 ∨ n = 3 := by omega
        rcases hn with rfl | rfl | rfl
        · exact op_c27_end1 d s o 1 b r d1 d2 s1 s2 hm (by decide) w
        · exact op_c27_end2 d s o 2 b r d1 d2 s1 s2 hm (by decide) (by decide) w
        · exact op_c27_end3 d s o 3 b r d1 d2 s1 s2 hm (by decide) (by decide) (by decide) w
      · have z : wrongV 28 d s r o n b = 0 := by rw [wrong_rest e, if_neg (by omega), if_neg (by omega)]
        rw [z]; exact op_c28_end d s o n b r d1 d2 s1 s2 hm w
end Go.Proofs.YtegeiicginpdbaaGreatDoor
