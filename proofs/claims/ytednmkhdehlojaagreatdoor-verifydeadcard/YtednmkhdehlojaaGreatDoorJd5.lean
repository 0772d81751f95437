/-
  What op.wrong and the document's own wrong return, all classes of codes together. Conditions: none. What op.Check and the document's own Check answer to a list of steps in memory: the first step with which something is wrong, and what, by one function on steps; the world below is as it was. Conditions: the list's cells hold steps. What op.Check and the document's Check return where all steps are right, and where the i-th is the first that is wrong; the world below is as it was. Conditions: the list's cells hold steps. What a right step is, and where it leads, on plain numbers; no program is named here. No conditions. A way of a verifier, on plain numbers: which ways lead on from a step: a machine of which what is known is so goes one of them; and all ways of a list of steps, each wholly ahead of the next one: where none goes wrong, a machine ends well, with a number that is between the ends of one way. No program is named here. Conditions: the ends are of 64 bits; the steps are right. All ways of a list of right steps, on plain numbers: where none goes wrong, a machine of which what is known at a step is so ends well from there, behind at least one step and not more than there are, with a number that is between the ends of one way. No program is named here. Conditions: the steps are right; what is known has ends of 64 bits on all ways (lk). What is known stays with ends of 64 bits, in order, behind every look of a verifier, on plain numbers. No program is named here. Conditions: the step is right. All ways of a list of steps, on plain numbers: what stands elsewhere makes no difference, one look more neither; and where more is known at the start, what went well goes well. No program is named here. Conditions: the steps are right.
-/
import Derived.Test.YtednmkhdehlojaaGreatDoorJd4
import Derived.Test.YtednmkhdehlojaaGreatDoorJd2
open Go.Value renaming int → vI
open Go.IntKind renaming i64 → vK
open Go.RowKit.Below renaming alloc → bA, setCell → bS, drew → bD, refl → bF
set_option maxHeartbeats 4000000
set_option maxRecDepth 1000000
namespace Go.Proofs.YtednmkhdehlojaaGreatDoor
open Go.ChangeShapes Go.WideShapes Go.ChangeAt Go.RowKit

theorem alone_last {c d s : Int} {r : Bool} {o n : Int} (c1 : 1 ≤ c) (c2 : c ≤ 28) (d1 : 0 ≤ d) (d2 : d ≤ 10) (s1 : 0 ≤ s) (s2 : s ≤ 10) (ht : ¬ (((1 ≤ c ∧ c ≤ 13) ∨ c = 25) ∧ d = 10)) :
    aloneV c d s r o n = (if moreV c d s r o n = true ∨ (c = 27 ∧ n ≠ 1 ∧ n ≠ 2 ∧ n ≠ 3) then 1 else 0) := by
  unfold aloneV
  rw [if_neg (by omega), if_neg (by omega), if_neg ht]
theorem alone_plain {c d s : Int} {r : Bool} {o n : Int} (c1 : 1 ≤ c) (c2 : c ≤ 28) (d1 : 0 ≤ d) (d2 : d ≤ 10) (s1 : 0 ≤ s) (s2 : s ≤ 10) (ht : ¬ (((1 ≤ c ∧ c ≤ 13) ∨ c = 25) ∧ d = 10)) (h27 : c ≠ 27) :
    aloneV c d s r o n = bit (moreV c d s r o n) := by
  rw [alone_last c1 c2 d1 d2 s1 s2 ht]
  unfold bit
  cases moreV c d s r o n <;> simp [h27]
theorem refWrong_any (c d s : Int) (r : Bool) (o n : Int) (w : World) :
    Calls Tryz.prog 50 #[.agg #[vI vK c, vI vK d, vI vK s, .bool r, vI vK o, vI vK n]] w fun e w' => e = .returned (vI vK (aloneV c d s r o n)) ∧ Below w.heap.size w w' := by
  by_cases k1 : c < 1
  · have e : aloneV c d s r o n = 3 := by unfold aloneV; rw [if_pos (Or.inl k1)]
    rw [e]; exact ref_c_lo c d s o n r k1 w
  by_cases k2 : 28 < c
  · have e : aloneV c d s r o n = 3 := by unfold aloneV; rw [if_pos (Or.inr k2)]
    rw [e]; exact ref_c_hi c d s o n r k2 w
  have c1 : 1 ≤ c := by omega
  have c2 : c ≤ 28 := by omega
  have two : (d < 0 ∨ 10 < d ∨ s < 0 ∨ 10 < s) → aloneV c d s r o n = 2 := fun h => by unfold aloneV; rw [if_neg (by omega), if_pos h]
  by_cases k3 : d < 0
  · rw [two (by omega)]; exact ref_d_lo c d s o n r c1 c2 k3 w
  by_cases k4 : 10 < d
  · rw [two (by omega)]; exact ref_d_hi c d s o n r c1 c2 k4 w
  have d1 : 0 ≤ d := by omega
  have d2 : d ≤ 10 := by omega
  by_cases k5 : s < 0
  · rw [two (by omega)]; exact ref_s_lo c d s o n r c1 c2 d1 d2 k5 w
  by_cases k6 : 10 < s
  · rw [two (by omega)]; exact ref_s_hi c d s o n r c1 c2 d1 d2 k6 w
  have s1 : 0 ≤ s := by omega
  have s2 : s ≤ 10 := by omega
  by_cases ht : ((1 ≤ c ∧ c ≤ 13) ∨ c = 25) ∧ d = 10
  · have e : aloneV c d s r o n = 6 := by unfold aloneV; rw [if_neg (by omega), if_neg (by omega), if_pos ht]
    rw [e]
    obtain ⟨h, rfl⟩ := ht
    rcases h with ⟨a1, a2⟩ | rfl
    · exact ref_top c s o n r a1 a2 s1 s2 w
    · exact ref_top25 s o n r s1 s2 w
  have hc : (1 ≤ c ∧ c ≤ 12) ∨ (15 ≤ c ∧ c ≤ 24) ∨ c = 13 ∨ c = 14 ∨ c = 25 ∨ c = 26 ∨ c = 27 ∨ c = 28 := by omega
  rcases hc with ⟨a1, a2⟩ | ⟨a1, a2⟩ | rfl | rfl | rfl | rfl | rfl | rfl
  · have e : moreV c d s r o n = (if r then o != 0 || n != 0 else s != 0 || o != 0) := by unfold moreV; rw [if_pos ⟨a1, a2⟩]
    rw [alone_plain c1 c2 d1 d2 s1 s2 ht (by omega), e]
    cases r
    · exact ref_two_false c d s o n a1 a2 d1 d2 s1 s2 (by omega) w
    · exact ref_two_true c d s o n a1 a2 d1 d2 s1 s2 (by omega) w
  · have e : moreV c d s r o n = (if r then n != 0 else s != 0) := by unfold moreV; rw [if_neg (by omega), if_pos ⟨a1, a2⟩]
    rw [alone_plain c1 c2 d1 d2 s1 s2 ht (by omega), e]
    cases r
    · exact ref_ask_false c d s o n a1 a2 d1 d2 s1 s2 w
    · exact ref_ask_true c d s o n a1 a2 d1 d2 s1 s2 w
  · rw [alone_plain c1 c2 d1 d2 s1 s2 ht (by omega)]
    cases r
    · exact ref_c13_false d s o n d1 d2 s1 s2 (by omega) w
    · exact ref_c13_true d s o n d1 d2 s1 s2 (by omega) w
  · rw [alone_plain c1 c2 d1 d2 s1 s2 ht (by omega)]
    cases r
    · exact ref_c14_false d s o n d1 d2 s1 s2 w
    · exact ref_c14_true d s o n d1 d2 s1 s2 w
  · rw [alone_plain c1 c2 d1 d2 s1 s2 ht (by omega)]
    cases r
    · exact ref_c25_false d s o n d1 d2 s1 s2 (by omega) w
    · exact ref_c25_true d s o n d1 d2 s1 s2 (by omega) w
  · rw [alone_plain c1 c2 d1 d2 s1 s2 ht (by omega)]
    cases r
    · exact ref_c26_false d s o n d1 d2 s1 s2 w
    · exact ref_c26_true d s o n d1 d2 s1 s2 w
  · rw [alone_last c1 c2 d1 d2 s1 s2 ht]
    have e : (if moreV 27 d s r o n = true ∨ ((27 : Int) = 27 ∧ n ≠ 1 ∧ n ≠ 2 ∧ n ≠ 3) then (1 : Int) else 0) = bit (d != 0 || s != 0 || r || o != 0 || (n != 1 && (n != 2 && n != 3))) := by
      have m : moreV 27 d s r o n = (d != 0 || s != 0 || r || o != 0) := rfl
      rw [m]
      unfold bit
      by_cases h1 : n = 1 <;> by_cases h2 : n = 2 <;> by_cases h3 : n = 3 <;> simp [h1, h2, h3] <;> omega
    rw [e]
    cases r
    · exact ref_c27_false d s o n d1 d2 s1 s2 w
    · exact ref_c27_true d s o n d1 d2 s1 s2 w
  · rw [alone_plain c1 c2 d1 d2 s1 s2 ht (by omega)]
    cases r
    · exact ref_c28_false d s o n d1 d2 s1 s2 w
    · exact ref_c28_true d s o n d1 d2 s1 s2 w
theorem wrong_alone {c d s : Int} {r : Bool} {o n b : Int} {x : Int} (h : aloneV c d s r o n = x) (h0 : x ≠ 0) : wrongV c d s r o n b = x := by
  unfold wrongV; rw [h, if_pos h0]
theorem wrong_rest {c d s : Int} {r : Bool} {o n b : Int} (h : aloneV c d s r o n = 0) : wrongV c d s r o n b = if (c = 14 ∨ (15 ≤ c ∧ c ≤ 24)) ∧ (o < 0 ∨ b ≤ o) then 10 else if b = 0 ∧ c ≠ 28 then 8 else 0 := by
  unfold wrongV; rw [if_neg (by rw [h]; exact fun f => f rfl)]
theorem wrong_end {c d s : Int} {r : Bool} {o n b : Int} (h : aloneV c d s r o n = 0) (h1 : ¬ (c = 14 ∨ (15 ≤ c ∧ c ≤ 24))) (h2 : c ≠ 28) : wrongV c d s r o n b = endV b := by
  rw [wrong_rest h, if_neg (fun f => h1 f.1)]
  unfold endV
  by_cases hb : b = 0 <;> simp [hb, h2]
theorem wrong_lead {c d s : Int} {r : Bool} {o n b : Int} (h : aloneV c d s r o n = 0) (h1 : c = 14 ∨ (15 ≤ c ∧ c ≤ 24)) : wrongV c d s r o n b = leadV o b := by
  rw [wrong_rest h]
  unfold leadV endV
  (repeat' split) <;> omega
theorem opWrong_any (c d s : Int) (r : Bool) (o n b : Int) (w : World) :
    Calls Tryz.prog 39 #[.agg #[vI vK c, vI vK d, vI vK s, .bool r, vI vK o, vI vK n], vI vK b, .func (Fn.func 38) #[] #[]] w fun e w' => e = .returned (vI vK (wrongV c d s r o n b)) ∧ Below w.heap.size w w' := by
  by_cases k1 : c < 1
  · have e : aloneV c d s r o n = 3 := by unfold aloneV; rw [if_pos (Or.inl k1)]
    rw [wrong_alone e (by decide)]; exact op_c_lo c d s o n b r k1 w
  by_cases k2 : 28 < c
  · have e : aloneV c d s r o n = 3 := by unfold aloneV; rw [if_pos (Or.inr k2)]
    rw [wrong_alone e (by decide)]; exact op_c_hi c d s o n b r k2 w
  have c1 : 1 ≤ c := by omega
  have c2 : c ≤ 28 := by omega
  have two : (d < 0 ∨ 10 < d ∨ s < 0 ∨ 10 < s) → wrongV c d s r o n b = 2 := fun h => wrong_alone (by unfold aloneV; rw [if_neg (by omega), if_pos h]) (by decide)
  by_cases k3 : d < 0
  · rw [two (by omega)]; exact op_d_lo c d s o n b r c1 c2 k3 w
  by_cases k4 : 10 < d
  · rw [two (by omega)]; exact op_d_hi c d s o n b r c1 c2 k4 w
  have d1 : 0 ≤ d := by omega
  have d2 : d ≤ 10 := by omega
  by_cases k5 : s < 0
  · rw [two (by omega)]; exact op_s_lo c d s o n b r c1 c2 d1 d2 k5 w
  by_cases k6 : 10 < s
  · rw [two (by omega)]; exact op_s_hi c d s o n b r c1 c2 d1 d2 k6 w
  have s1 : 0 ≤ s := by omega
  have s2 : s ≤ 10 := by omega
  by_cases ht : ((1 ≤ c ∧ c ≤ 13) ∨ c = 25) ∧ d = 10
  · have e : aloneV c d s r o n = 6 := by unfold aloneV; rw [if_neg (by omega), if_neg (by omega), if_pos ht]
    rw [wrong_alone e (by decide)]
    obtain ⟨h, rfl⟩ := ht
    rcases h with ⟨a1, a2⟩ | rfl
    · exact op_top c s o n b r a1 a2 s1 s2 w
    · exact op_top25 s o n b r s1 s2 w
  have last := alone_last (r := r) (o := o) (n := n) c1 c2 d1 d2 s1 s2 ht
  have hc : (1 ≤ c ∧ c ≤ 13) ∨ (15 ≤ c ∧ c ≤ 24) ∨ c = 14 ∨ c = 25 ∨ c = 26 ∨ c = 27 ∨ c = 28 := by omega
  cases hm : moreV c d s r o n with
  | true =>
    have e : aloneV c d s r o n = 1 := by rw [last, if_pos (Or.inl hm)]
    rw [wrong_alone e (by decide)]
    rcases hc with ⟨a1, a2⟩ | ⟨a1, a2⟩ | rfl | rfl | rfl | rfl | rfl
    · exact op_chg_more c d s o n b r a1 a2 d1 d2 s1 s2 (by omega) hm w
    · exact op_ask_more c d s o n b r a1 a2 d1 d2 s1 s2 hm w
    · exact op_c14_more d s o n b r d1 d2 s1 s2 hm w
    · exact op_c25_more d s o n b r d1 d2 s1 s2 (by omega) hm w
    · exact op_c26_more d s o n b r d1 d2 s1 s2 hm w
    · exact op_c27_more d s o n b r d1 d2 s1 s2 hm w
    · exact op_c28_more d s o n b r d1 d2 s1 s2 hm w
  | false =>
    by_cases h27 : c = 27 ∧ n ≠ 1 ∧ n ≠ 2 ∧ n ≠ 3
    · have e : aloneV c d s r o n = 1 := by rw [last, if_pos (Or.inr h27)]
      rw [wrong_alone e (by decide)]
      obtain ⟨rfl, n1, n2, n3⟩ := h27
      exact op_c27_bad d s o n b r d1 d2 s1 s2 hm (by simpa using n1) (by simpa using n2) (by simpa using n3) w
    · have e : aloneV c d s r o n = 0 := by rw [last, if_neg (by rw [hm]; simpa using h27)]
      rcases hc with ⟨a1, a2⟩ | ⟨a1, a2⟩ | rfl | rfl | rfl | rfl | rfl
      · rw [wrong_end e (by omega) (by omega)]; exact op_chg_end c d s o n b r a1 a2 d1 d2 s1 s2 (by omega) hm w
      · rw [wrong_lead e (by omega)]; exact op_ask_end c d s o n b r a1 a2 d1 d2 s1 s2 hm w
      · rw [wrong_lead e (by omega)]; exact op_c14_end d s o n b r d1 d2 s1 s2 hm w
      · rw [wrong_end e (by omega) (by omega)]; exact op_c25_end d s o n b r d1 d2 s1 s2 (by omega) hm w
      · rw [wrong_end e (by omega) (by omega)]; exact op_c26_end d s o n b r d1 d2 s1 s2 hm w
      · rw [wrong_end e (by omega) (by omega)]
        have hn : n = 1 ∨ n = 2 ∨ n = 3 := by omega
        rcases hn with rfl | rfl | rfl
        · exact op_c27_end1 d s o 1 b r d1 d2 s1 s2 hm (by decide) w
        · exact op_c27_end2 d s o 2 b r d1 d2 s1 s2 hm (by decide) (by decide) w
        · exact op_c27_end3 d s o 3 b r d1 d2 s1 s2 hm (by decide) (by decide) (by decide) w
      · have z : wrongV 28 d s r o n b = 0 := by rw [wrong_rest e, if_neg (by omega), if_neg (by omega)]
        rw [z]; exact op_c28_end d s o n b r d1 d2 s1 s2 hm w

def StepsAt (w : World) (bk off len : Nat) (C D S : Nat → Int) (R : Nat → Bool) (O N : Nat → Int) : Prop :=
  ∀ i, i < len → w.cell? ⟨bk, off + i * 6, none⟩ = some (vI vK (C i)) ∧ w.cell? ⟨bk, off + i * 6 + 1, none⟩ = some (vI vK (D i)) ∧ w.cell? ⟨bk, off + i * 6 + 2, none⟩ = some (vI vK (S i))
    ∧ w.cell? ⟨bk, off + i * 6 + 3, none⟩ = some (.bool (R i)) ∧ w.cell? ⟨bk, off + i * 6 + 4, none⟩ = some (vI vK (O i)) ∧ w.cell? ⟨bk, off + i * 6 + 5, none⟩ = some (vI vK (N i))
theorem StepsAt.later {w wr : World} {bk off len : Nat} {C D S : Nat → Int} {R : Nat → Bool} {O N : Nat → Int} (h : StepsAt w bk off len C D S R O N) (hb : Below w.heap.size w wr) (hbk : bk < w.heap.size) : StepsAt wr bk off len C D S R O N := by
  intro i hi
  obtain ⟨a, b, c, d, e, f⟩ := h i hi
  exact ⟨(hb.cell (p := ⟨bk, _, none⟩) hbk).trans a, (hb.cell (p := ⟨bk, _, none⟩) hbk).trans b, (hb.cell (p := ⟨bk, _, none⟩) hbk).trans c, (hb.cell (p := ⟨bk, _, none⟩) hbk).trans d, (hb.cell (p := ⟨bk, _, none⟩) hbk).trans e, (hb.cell (p := ⟨bk, _, none⟩) hbk).trans f⟩
def faultAt (len : Nat) (C D S : Nat → Int) (R : Nat → Bool) (O N : Nat → Int) (i : Nat) : Int := wrongV (C i) (D i) (S i) (R i) (O i) (N i) ((len : Int) - 1 - i)

theorem opCheck_limit (a : Option Addr) (len cap : Nat) (h : len < 1 ∨ 200 < len) (w : World) :
    Calls Tryz.prog 18 #[.slice a len cap] w fun e w' => e = .returned (.iface 23 (vI vK 4)) ∧ w' = w := by
  rcases h with h | h
  · obtain rfl : len = 0 := by omega
    go_enter Tryz.func18, Tryz.ntmps18
    go_wp2
    go_ret
    exact ⟨rfl, rfl⟩
  · have z0 : decide ((len : Int) < 1) = false := by simp; omega
    have z1 : decide (200 < (len : Int)) = true := by simp; omega
    go_enter Tryz.func18, Tryz.ntmps18
    go_wp2
    go_ret
    exact ⟨rfl, rfl⟩

theorem opCheck_steps (bk off len cap : Nat) (C D S O N : Nat → Int) (R : Nat → Bool) (w : World) (h1 : 1 ≤ len) (h2 : len ≤ 200) (hbk : bk < w.heap.size) (hst : StepsAt w bk off len C D S R O N) :
    Calls Tryz.prog 18 #[.slice (some ⟨bk, off, none⟩) len cap] w fun e w' => Below w.heap.size w w' ∧
      ((e = .returned .nilIface ∧ ∀ j, j < len → faultAt len C D S R O N j = 0) ∨
       (∃ i p, i < len ∧ (∀ j, j < i → faultAt len C D S R O N j = 0) ∧ faultAt len C D S R O N i ≠ 0 ∧ e = .returned (.iface 74 (.pointer (some ⟨p, 0, none⟩))) ∧ w.heap.size ≤ p
          ∧ w'.cell? ⟨p, 0, none⟩ = some (vI vK (faultAt len C D S R O N i)) ∧ w'.cell? ⟨p, 1, none⟩ = some (vI vK i))) := by
  have z0 : decide ((len : Int) < 1) = false := by simp; omega
  have z1 : decide (200 < (len : Int)) = false := by simp; omega
  go_enter Tryz.func18, Tryz.ntmps18
  go_wp2
  go_loopw [18] (fun i wr => ∃ k : Nat, k ≤ len ∧ i = vI vK k ∧ Below w.heap.size w wr ∧ ∀ j, j < k → faultAt len C D S R O N j = 0) (fun i _ => len - (intOf i).toNat)
  case atStart => exact ⟨0, Nat.zero_le _, rfl, bF _ _, fun j hj => absurd hj (Nat.not_lt_zero _)⟩
  case round =>
    obtain ⟨k, hk, rfl, hb, hno⟩ := hrel
    by_cases hlt : k < len
    · obtain ⟨g0, g1, g2, g3, g4, g5⟩ := hst.later hb hbk k hlt
      have hsz := hb.size
      have HF : Hid (faultAt len C D S R O N k = wrongV (C k) (D k) (S k) (R k) (O k) (N k) ((len : Int) - 1 - k)) := rfl
      by_cases hw : wrongV (C k) (D k) (S k) (R k) (O k) (N k) ((len : Int) - 1 - k) = 0
      · have hw2 : (wrongV (C k) (D k) (S k) (R k) (O k) (N k) ((len : Int) - 1 - k) != 0) = false := by simp [hw]
        have HW : Hid (wrongV (C k) (D k) (S k) (R k) (O k) (N k) ((len : Int) - 1 - k) = 0) := hw
        clear hw
        go_wp2_with (go_at_call 39; refine (opWrong_any _ _ _ _ _ _ _ _).mono ?_; rintro e w1 ⟨rfl, hb1⟩; obtain ⟨hcl, hfr⟩ := old_cells hb1)
        go_roundw
        case rel => exact ⟨k + 1, by omega, by go_num, (hb.alloc hsz _).trans (hb1.mono (by simp; omega)), fun j hj => by
          rcases Nat.lt_succ_iff_lt_or_eq.1 hj with h | h
          · exact hno j h
          · rw [h, HF.out]; exact HW.out⟩
        case measure => simp [intOf]; omega
      · have hw2 : (wrongV (C k) (D k) (S k) (R k) (O k) (N k) ((len : Int) - 1 - k) != 0) = true := by simp [hw]
        have HW : Hid (wrongV (C k) (D k) (S k) (R k) (O k) (N k) ((len : Int) - 1 - k) ≠ 0) := hw
        clear hw
        go_wp2_with (go_at_call 39; refine (opWrong_any _ _ _ _ _ _ _ _).mono ?_; rintro e w1 ⟨rfl, hb1⟩; obtain ⟨hcl, hfr⟩ := old_cells hb1)
        go_ret
        have hb2 : Below w.heap.size w w1 := (hb.alloc hsz _).trans (hb1.mono (by simp; omega))
        refine ⟨hb2.alloc hb2.size _, Or.inr ⟨k, w1.heap.size, hlt, hno, by rw [HF.out]; exact HW.out, rfl, hb2.size, ?_, ?_⟩⟩
        · rw [HF.out, World.cell?_alloc_at _ _ _ _ rfl]; rfl
        · rw [World.cell?_alloc_at _ _ _ _ rfl]; rfl
    · obtain rfl : k = len := by omega
      go_wp2
      go_ret
      exact ⟨hb, Or.inl ⟨rfl, hno⟩⟩

theorem below_of {w w1 : World} {Z : Obj} (h : Below (w.alloc Z).heap.size (w.alloc Z) w1) : Below w.heap.size w w1 :=
  ((bF _ _).alloc (Nat.le_refl _) Z).trans (h.mono (by simp))

theorem up_to_next {f : Nat → Int} {k : Nat} (h : ∀ j, j < k → f j = 0) (hk : f k = 0) (j : Nat) (hj : j < k + 1) : f j = 0 := by
  rcases Nat.lt_succ_iff_lt_or_eq.1 hj with g | g
  · exact h j g
  · rw [g]; exact hk
section
variable {len : Nat} {C D S : Nat → Int} {R : Nat → Bool} {O N : Nat → Int} {k : Nat}
end
end Go.Proofs.YtednmkhdehlojaaGreatDoor
namespace Go.Proofs.YtednmkhdehlojaaGreatDoor
open Go.ChangeShapes Go.WideShapes Go.ChangeAt Go.RowKit

theorem first_fault (f : Nat → Int) : ∀ len : Nat, (∀ j, j < len → f j = 0) ∨ ∃ i, i < len ∧ (∀ j, j < i → f j = 0) ∧ f i ≠ 0
  | 0 => Or.inl fun j hj => absurd hj (Nat.not_lt_zero _)
  | n + 1 => by
    rcases first_fault f n with h | ⟨i, hi, hno, hf⟩
    · by_cases hn : f n = 0
      · exact Or.inl (up_to_next h hn)
      · exact Or.inr ⟨n, Nat.lt_succ_self n, h, hn⟩
    · exact Or.inr ⟨i, Nat.lt_succ_of_lt hi, hno, hf⟩
theorem same_first {f : Nat → Int} {i k : Nat} (hi : ∀ j, j < i → f j = 0) (hf : f i ≠ 0) (hk : ∀ j, j < k → f j = 0) (hg : f k ≠ 0) : k = i := by
  rcases Nat.lt_trichotomy k i with h | h | h
  · exact absurd (hi k h) hg
  · exact h
  · exact absurd (hk i h) hf

section
variable {bk off len cap : Nat} {C D S O N : Nat → Int} {R : Nat → Bool} {w : World} (h1 : 1 ≤ len) (h2 : len ≤ 200) (hbk : bk < w.heap.size) (hst : StepsAt w bk off len C D S R O N)
theorem opCheck_fine (h : ∀ j, j < len → faultAt len C D S R O N j = 0) (hst : StepsAt w bk off len C D S R O N) (h1 : 1 ≤ len) (h2 : len ≤ 200) (hbk : bk < w.heap.size) :
    Calls Tryz.prog 18 #[.slice (some ⟨bk, off, none⟩) len cap] w fun e w' => e = .returned .nilIface ∧ Below w.heap.size w w' := by
  refine (opCheck_steps bk off len cap C D S O N R w h1 h2 hbk hst).mono fun e w' hh => ?_
  obtain ⟨hb, hh⟩ := hh
  rcases hh with ⟨he, _⟩ | ⟨i, p, hi, _, hf, _⟩
  · exact ⟨he, hb⟩
  · exact absurd (h i hi) hf
theorem opCheck_bad {i : Nat} (hi : i < len) (hno : ∀ j, j < i → faultAt len C D S R O N j = 0) (hf : faultAt len C D S R O N i ≠ 0) (hst : StepsAt w bk off len C D S R O N) (h1 : 1 ≤ len) (h2 : len ≤ 200) (hbk : bk < w.heap.size) :
    Calls Tryz.prog 18 #[.slice (some ⟨bk, off, none⟩) len cap] w fun e w' => ∃ p, e = .returned (.iface 74 (.pointer (some ⟨p, 0, none⟩))) ∧ Below w.heap.size w w' ∧ p < w'.heap.size ∧ w'.cell? ⟨p, 0, none⟩ = some (vI vK (faultAt len C D S R O N i)) ∧ w'.cell? ⟨p, 1, none⟩ = some (vI vK i) := by
  refine (opCheck_steps bk off len cap C D S O N R w h1 h2 hbk hst).mono fun e w' hh => ?_
  obtain ⟨hb, hh⟩ := hh
  rcases hh with ⟨_, h⟩ | ⟨k, p, hk, hno', hf', he, hp, hc0, hc1⟩
  · exact absurd (h i hi) hf
  · obtain rfl := same_first hno hf hno' hf'
    refine ⟨p, he, hb, ?_, hc0, hc1⟩
    rcases Nat.lt_or_ge p w'.heap.size with g | g
    · exact g
    · simp [World.cell?, Array.getElem?_eq_none g] at hc0
end
end Go.Proofs.YtednmkhdehlojaaGreatDoor
namespace Go.Proofs.YtednmkhdehlojaaGreatDoor
open Go.RowKit
structure Right (c d s : Int) (r : Bool) (o n : Int) (len k : Nat) : Prop where
  c1 : 1 ≤ c
  c2 : c ≤ 28
  d1 : 0 ≤ d
  d2 : d ≤ 10
  s1 : 0 ≤ s
  s2 : s ≤ 10
  call : c = 27 → n = 1 ∨ n = 2 ∨ n = 3
  exit : c = 28 → d = 0
  lead : (c = 14 ∨ (15 ≤ c ∧ c ≤ 24)) → 0 ≤ o ∧ o < (len : Int) - 1 - k
  last : c ≠ 28 → (k : Int) + 1 ≠ len
theorem right_of {len : Nat} {C D S : Nat → Int} {R : Nat → Bool} {O N : Nat → Int} {k : Nat} (h : faultAt len C D S R O N k = 0) : Right (C k) (D k) (S k) (R k) (O k) (N k) len k := by
  unfold faultAt wrongV at h
  have ha : aloneV (C k) (D k) (S k) (R k) (O k) (N k) = 0 := by
    by_cases e : aloneV (C k) (D k) (S k) (R k) (O k) (N k) = 0
    · exact e
    · rw [if_pos e] at h; exact h
  rw [if_neg (by simp [ha])] at h
  have hl : ¬ ((C k = 14 ∨ (15 ≤ C k ∧ C k ≤ 24)) ∧ (O k < 0 ∨ (len : Int) - 1 - k ≤ O k)) := by
    intro e; rw [if_pos e] at h; exact absurd h (by decide)
  rw [if_neg hl] at h
  have he : ¬ ((len : Int) - 1 - k = 0 ∧ C k ≠ 28) := by
    intro e; rw [if_pos e] at h; exact absurd h (by decide)
  unfold aloneV at ha
  have a1 : ¬ (C k < 1 ∨ 28 < C k) := by
    intro e; rw [if_pos e] at ha; exact absurd ha (by decide)
  rw [if_neg a1] at ha
  have a2 : ¬ (D k < 0 ∨ 10 < D k ∨ S k < 0 ∨ 10 < S k) := by
    intro e; rw [if_pos e] at ha; exact absurd ha (by decide)
  rw [if_neg a2] at ha
  have a3 : ¬ (((1 ≤ C k ∧ C k ≤ 13) ∨ C k = 25) ∧ D k = 10) := by
    intro e; rw [if_pos e] at ha; exact absurd ha (by decide)
  rw [if_neg a3] at ha
  have a4 : ¬ (moreV (C k) (D k) (S k) (R k) (O k) (N k) = true ∨ (C k = 27 ∧ N k ≠ 1 ∧ N k ≠ 2 ∧ N k ≠ 3)) := by
    intro e; rw [if_pos e] at ha; exact absurd ha (by decide)
  refine ⟨by omega, by omega, by omega, by omega, by omega, by omega, fun e => ?_, fun e => ?_, fun e => ?_, fun e => by omega⟩
  · by_cases n1 : N k = 1
    · exact Or.inl n1
    by_cases n2 : N k = 2
    · exact Or.inr (Or.inl n2)
    by_cases n3 : N k = 3
    · exact Or.inr (Or.inr n3)
    exact absurd (Or.inr ⟨e, n1, n2, n3⟩) a4
  · by_cases hd : D k = 0
    · exact hd
    · refine absurd (Or.inl ?_) a4
      unfold moreV
      rw [if_neg (by omega), if_neg (by omega), if_neg (by omega), if_neg (by omega), if_neg (by omega), if_neg (by omega), if_neg (by omega)]
      simp [hd]
  · by_cases e1 : O k < 0 ∨ (len : Int) - 1 - k ≤ O k
    · exact absurd ⟨e, e1⟩ hl
    · omega
def Way.look (y : Way) (c : Int) (d s : Nat) (r : Bool) (o n : Int) : List (Int × Way) × Int :=
  if 15 ≤ c ∧ c ≤ 24 then y.ask c d s r o n
  else if c = 14 then ([(o, y)], 0)
  else if c = 28 then ([], knoWant (y.reg 0))
  else if c = 25 then (if (y.load d s o).1 = 0 then ([(0, (y.load d s o).2)], 0) else ([], (y.load d s o).1))
  else if c = 26 then (if (y.store (y.reg d) (y.second s r n) o).1 = 0 then ([(0, (y.store (y.reg d) (y.second s r n) o).2)], 0) else ([], (y.store (y.reg d) (y.second s r n) o).1))
  else if c = 27 then (if (y.call n).1 = 0 then ([(0, (y.call n).2)], 0) else ([], (y.call n).1))
  else (if (y.change c d s r n).1 = 0 then ([(0, (y.change c d s r n).2)], 0) else ([], (y.change c d s r n).1))
def goF (C D S : Nat → Int) (R : Nat → Bool) (O N : Nat → Int) : Nat → List (Nat × Way) → List Kno → (Int × Nat) ⊕ List Kno
  | _, [], ends => .inr ends
  | 0, x :: _, _ => .inl (4, x.1)
  | f + 1, x :: st, ends =>
    if (x.2.look (C x.1) (D x.1).toNat (S x.1).toNat (R x.1) (O x.1) (N x.1)).2 ≠ 0 then .inl ((x.2.look (C x.1) (D x.1).toNat (S x.1).toNat (R x.1) (O x.1) (N x.1)).2, x.1)
    else goF C D S R O N f ((x.2.look (C x.1) (D x.1).toNat (S x.1).toNat (R x.1) (O x.1) (N x.1)).1.map (fun z => (x.1 + 1 + z.1.toNat, z.2)) ++ st) (if C x.1 = 28 then ends ++ [x.2.reg 0] else ends)
theorem ask_offs {y : Way} {c : Int} {d s : Nat} {r : Bool} {o n : Int} : ∀ z, z ∈ (y.ask c d s r o n).1 → z.1 = 0 ∨ z.1 = o := by
  intro z hz
  unfold Way.ask at hz
  split at hz
  · exact absurd hz (by simp)
  split at hz
  · unfold Way.askNumbers at hz
    rcases List.mem_append.mp hz with hz | hz
    · split at hz
      · rw [List.mem_singleton.mp hz]; exact Or.inl rfl
      · exact absurd hz (by simp)
    · split at hz
      · rw [List.mem_singleton.mp hz]; exact Or.inr rfl
      · exact absurd hz (by simp)
  split at hz
  · exact absurd hz (by simp)
  · unfold Way.askPlace at hz
    split at hz
    · rw [List.mem_singleton.mp hz]
      by_cases e : c = 16
      · exact Or.inr (if_pos e)
      · exact Or.inl (if_neg e)
    · rcases List.mem_cons.mp hz with hz | hz
      · rw [hz]
        by_cases e : c = 16
        · exact Or.inl (if_pos e)
        · exact Or.inr (if_neg e)
      · rw [List.mem_singleton.mp hz]
        by_cases e : c = 16
        · exact Or.inr (if_pos e)
        · exact Or.inl (if_neg e)
theorem look_offs {y : Way} {c : Int} {d s : Nat} {r : Bool} {o n : Int} : ∀ z, z ∈ (y.look c d s r o n).1 → c ≠ 28 ∧ (z.1 = 0 ∨ (z.1 = o ∧ (c = 14 ∨ (15 ≤ c ∧ c ≤ 24)))) := by
  intro z hz
  unfold Way.look at hz
  by_cases c1 : 15 ≤ c ∧ c ≤ 24
  · rw [if_pos c1] at hz
    exact ⟨by omega, (ask_offs z hz).elim Or.inl fun e => Or.inr ⟨e, Or.inr c1⟩⟩
  rw [if_neg c1] at hz
  by_cases c2 : c = 14
  · rw [if_pos c2] at hz
    rw [List.mem_singleton.mp hz]
    exact ⟨by omega, Or.inr ⟨rfl, Or.inl c2⟩⟩
  rw [if_neg c2] at hz
  by_cases c3 : c = 28
  · rw [if_pos c3] at hz; exact absurd hz (by simp)
  rw [if_neg c3] at hz
  refine ⟨c3, Or.inl ?_⟩
  split at hz
  · split at hz
    · rw [List.mem_singleton.mp hz]
    · exact absurd hz (by simp)
  split at hz
  · split at hz
    · rw [List.mem_singleton.mp hz]
    · exact absurd hz (by simp)
  split at hz
  · split at hz
    · rw [List.mem_singleton.mp hz]
    · exact absurd hz (by simp)
  · split at hz
    · rw [List.mem_singleton.mp hz]
    · exact absurd hz (by simp)
theorem fill_in {m : Int} (h : m ≤ 9223372036854775807) : fillV m ≤ 9223372036854775807 := by
  have d := ones_lt (fill_le h)
  unfold fillV
  omega
theorem fit2_ok (u v : Int) : -9223372036854775808 ≤ (fit2 u v).1 ∧ (fit2 u v).2 ≤ 9223372036854775807 := by
  cases h : fits u && fits v
  · rw [fit2_no h]; decide
  · rw [fit2_yes h]
    simp only [Bool.and_eq_true, fits_iff] at h
    exact ⟨h.1.1, h.2.2⟩
theorem pow_lo {k : Nat} (hk : k ≠ 0) (h : k < 64) : (2 : Int) ^ (64 - k) - 1 ≤ 9223372036854775807 := by
  have hle : 2 ^ (64 - k) ≤ 2 ^ 63 := Nat.pow_le_pow_right (by decide) (by omega)
  have := Int.ofNat_le.2 hle
  rw [Int.natCast_pow] at this
  have e : ((2 ^ 63 : Nat) : Int) = 9223372036854775808 := by decide
  rw [e] at this
  have e2 : ((2 : Nat) : Int) = 2 := rfl
  rw [e2] at this
  omega
theorem half_in {x : Int} (k : Nat) (h : In64 x) : In64 (x / 2 ^ k) := by
  have a := half_bd (x := x) k
  unfold In64 at h ⊢
  by_cases hx : 0 ≤ x
  · have := a.1 hx; omega
  · have := a.2 (by omega); omega
theorem bdV_low {c al ah bl bh : Int} (hc : 1 ≤ c ∧ c ≤ 13) (a1 : In64 al) (a2 : In64 ah) (ha : al ≤ ah) (b1 : In64 bl) (b2 : In64 bh) (hb : bl ≤ bh) :
    -9223372036854775808 ≤ (bdV c al ah bl bh).1 ∧ (bdV c al ah bl bh).2 ≤ 9223372036854775807 := by
  have all : -9223372036854775808 ≤ ((-9223372036854775808, 9223372036854775807) : Int × Int).1 ∧ ((-9223372036854775808, 9223372036854775807) : Int × Int).2 ≤ 9223372036854775807 := by decide
  have h : c = 1 ∨ c = 2 ∨ c = 3 ∨ c = 4 ∨ c = 5 ∨ c = 6 ∨ c = 7 ∨ c = 8 ∨ c = 9 ∨ c = 10 ∨ c = 11 ∨ c = 12 ∨ c = 13 := by omega
  have ua1 := a1.1
  have ua2 := a2.2
  have ub1 := b1.1
  have ub2 := b2.2
  rcases h with rfl | rfl | rfl | rfl | rfl | rfl | rfl | rfl | rfl | rfl | rfl | rfl | rfl
  · rw [bdV_1]; exact ⟨ub1, ub2⟩
  · rw [bdV_2]; exact fit2_ok _ _
  · rw [bdV_3]; exact fit2_ok _ _
  · rw [bdV_4]
    split
    · rename_i hs
      simp only [Bool.and_eq_true] at hs
      obtain ⟨⟨⟨s1, s2⟩, s3⟩, s4⟩ := hs
      have m1 := wrap64_bd (al * bl)
      have m2 := wrap64_bd (al * bh)
      have m3 := wrap64_bd (ah * bl)
      have m4 := wrap64_bd (ah * bh)
      rw [small_mul s1 s3] at m1
      rw [small_mul s1 s4] at m2
      rw [small_mul s2 s3] at m3
      rw [small_mul s2 s4] at m4
      show -9223372036854775808 ≤ mulLo al ah bl bh ∧ mulHi al ah bl bh ≤ 9223372036854775807
      unfold mulLo mulHi
      generalize al * bl = p at *
      generalize al * bh = q at *
      generalize ah * bl = r at *
      generalize ah * bh = t at *
      omega
    · exact all
  · rw [bdV_5]
    split
    · split
      · have l := Int.ediv_nonneg (by omega : 0 ≤ al) (by omega : 0 ≤ bh)
        have g := Int.ediv_le_self bl (by omega : 0 ≤ ah)
        show -9223372036854775808 ≤ al / bh ∧ ah / bl ≤ 9223372036854775807
        omega
      · show -9223372036854775808 ≤ (0 : Int) ∧ ah ≤ 9223372036854775807
        omega
    · exact all
  · rw [bdV_6]
    split
    · split
      · show -9223372036854775808 ≤ (0 : Int) ∧ min ah (bh - 1) ≤ 9223372036854775807
        omega
      · show -9223372036854775808 ≤ (0 : Int) ∧ ah ≤ 9223372036854775807
        omega
    · exact all
  · rw [bdV_7]
    split
    · split
      · show -9223372036854775808 ≤ (0 : Int) ∧ min ah bh ≤ 9223372036854775807
        omega
      · show -9223372036854775808 ≤ (0 : Int) ∧ ah ≤ 9223372036854775807
        omega
    · split
      · show -9223372036854775808 ≤ (0 : Int) ∧ bh ≤ 9223372036854775807
        omega
      · exact all
  · rw [bdV_8]
    split
    · have f := fill_in (m := max ah bh) (by omega)
      refine ⟨?_, f⟩
      show -9223372036854775808 ≤ max al bl
      omega
    · exact all
  · rw [bdV_9]
    split
    · have f := fill_in (m := max ah bh) (by omega)
      exact ⟨by show -9223372036854775808 ≤ (0 : Int); decide, f⟩
    · exact all
  · rw [bdV_10]
    split
    · exact fit2_ok _ _
    · exact all
  · rw [bdV_11]
    split
    · split
      · exact ⟨ua1, ua2⟩
      · split
        · exact ⟨(half_in _ a1).1, (half_in _ a2).2⟩
        · exact ⟨by show -9223372036854775808 ≤ (0 : Int); decide, pow_lo (by assumption) (sixBits_lt _)⟩
    · split
      · exact ⟨by show -9223372036854775808 ≤ (0 : Int); decide, ua2⟩
      · exact all
  · rw [bdV_12]
    split
    · exact ⟨(half_in _ a1).1, (half_in _ a2).2⟩
    · split
      · exact ⟨by show -9223372036854775808 ≤ (0 : Int); decide, ua2⟩
      · split
        · exact ⟨ua1, by show (-1 : Int) ≤ 9223372036854775807; decide⟩
        · exact ⟨ua1, ua2⟩
  · rw [bdV_13]; exact fit2_ok _ _
theorem bdV_ok {c al ah bl bh : Int} (hc : 1 ≤ c ∧ c ≤ 13) (a1 : In64 al) (a2 : In64 ah) (ha : al ≤ ah) (b1 : In64 bl) (b2 : In64 bh) (hb : bl ≤ bh) :
    In64 (bdV c al ah bl bh).1 ∧ In64 (bdV c al ah bl bh).2 ∧ (bdV c al ah bl bh).1 ≤ (bdV c al ah bl bh).2 := by
  have l := bdV_low hc a1 a2 ha b1 b2 hb
  have h := bdV_has (x := al) (y := bl) hc a1.1 a2.2 b1.1 b2.2 (Int.le_refl _) ha (Int.le_refl _) hb
  unfold In64
  omega
theorem kno0_ok : kno0.Ok := ⟨by decide, by decide, ⟨by decide, by decide⟩, ⟨by decide, by decide⟩, by decide⟩
theorem knoNum_ok {l h : Int} (h1 : In64 l) (h2 : In64 h) (h3 : l ≤ h) : (knoNum l h).Ok := ⟨by show (0 : Int) ≤ 1; decide, by show (1 : Int) ≤ 5; decide, h1, h2, h3⟩
theorem knoAll_ok : (knoNum (-9223372036854775808) 9223372036854775807).Ok := knoNum_ok ⟨by decide, by decide⟩ ⟨by decide, by decide⟩ (by decide)
theorem knoOne_ok {n : Int} (h : In64 n) : (knoNum n n).Ok := knoNum_ok h h (Int.le_refl _)
theorem knoFurther_ok {k : Int} {b : Int × Int} (k0 : 0 ≤ k) (k5 : k ≤ 5) (h1 : In64 b.1) (h2 : In64 b.2) (h3 : b.1 ≤ b.2) : (knoFurther k b).1.Ok := by
  unfold knoFurther
  split
  · exact kno0_ok
  · exact ⟨k0, k5, h1, h2, h3⟩
theorem knoMakes_ok {c : Int} {a b : Kno} (hc : 1 ≤ c ∧ c ≤ 13) (ka : a.Ok) (kb : b.Ok) : (knoMakes c a b).1.Ok := by
  obtain ⟨x1, x2, x3⟩ := bdV_ok hc ka.2.2.1 ka.2.2.2.1 ka.2.2.2.2 kb.2.2.1 kb.2.2.2.1 kb.2.2.2.2
  unfold knoMakes
  split
  · exact kno0_ok
  split
  · exact kb
  split
  · exact knoNum_ok x1 x2 x3
  split
  · exact knoFurther_ok ka.1 ka.2.1 x1 x2 x3
  split
  · exact knoFurther_ok kb.1 kb.2.1 x1 x2 x3
  · exact kno0_ok
theorem Way.Ok.putReg {y : Way} (h : y.Ok) (d : Nat) {x : Kno} (hx : x.Ok) : (y.putReg d x).Ok :=
  ⟨fun i hi => by show (if i = d then x else y.reg i).Ok; split; exact hx; exact h.reg i hi, h.slot⟩
theorem Way.Ok.putSlot {y : Way} (h : y.Ok) (d : Nat) {x : Kno} (hx : x.Ok) : (y.putSlot d x).Ok :=
  ⟨h.reg, fun i hi => by show (if i = d then x else y.slot i).Ok; split; exact hx; exact h.slot i hi⟩
theorem Way.Ok.lose {y : Way} (h : y.Ok) : y.lose.Ok :=
  ⟨fun i hi => by show (if 1 ≤ i ∧ i ≤ 5 then kno0 else y.reg i).Ok; split; exact kno0_ok; exact h.reg i hi, h.slot⟩
theorem joinFrom_ok : ∀ (l : List Kno) (p : Int × Int), (∀ x, x ∈ l → x.Ok) → In64 p.1 → In64 p.2 → p.1 ≤ p.2 → In64 (joinFrom p l).1 ∧ In64 (joinFrom p l).2 ∧ (joinFrom p l).1 ≤ (joinFrom p l).2
  | [], _, _, h1, h2, h3 => ⟨h1, h2, h3⟩
  | x :: l, p, hl, h1, h2, h3 => by
    rw [joinFrom]
    have hx := hl x mcS
    have k1 := hx.2.2.1
    have k2 := hx.2.2.2.1
    have k3 := hx.2.2.2.2
    refine joinFrom_ok l _ (fun z hz => hl z (mcO _ hz)) ?_ ?_ ?_
    · show In64 (min p.1 x.l)
      unfold In64 at *; omega
    · show In64 (max p.2 x.h)
      unfold In64 at *; omega
    · show min p.1 x.l ≤ max p.2 x.h
      omega
theorem joinL_ok {l : List Kno} (hl : ∀ x, x ∈ l → x.Ok) : In64 (joinL l).1 ∧ In64 (joinL l).2 ∧ (joinL l).1 ≤ (joinL l).2 := by
  cases l with
  | nil => exact ⟨⟨by decide, by decide⟩, ⟨by decide, by decide⟩, by decide⟩
  | cons x l =>
    have hx := hl x mcS
    exact joinFrom_ok l _ (fun z hz => hl z (mcO _ hz)) hx.2.2.1 hx.2.2.2.1 hx.2.2.2.2
theorem kept_ok {y : Way} {p : Int × Int} (hk : y.Ok) (h0 : -16 ≤ p.1) (h3 : p.2 ≤ -1) (h : p.1 ≤ p.2) : (y.kept p).1.Ok := by
  unfold Way.kept
  split
  · exact hk.slot _ (by omega)
  split
  · exact kno0_ok
  · have hj := joinL_ok (l := y.row (p.1 + 16).toNat (p.2 - p.1 + 1).toNat) (fun x hx => by
      obtain ⟨i, hi, rfl⟩ := List.mem_map.mp hx
      obtain ⟨j, hj, e⟩ := List.mem_range'.mp hi
      exact hk.slot _ (by omega))
    exact knoNum_ok hj.1 hj.2.1 hj.2.2
theorem knoTo_ok {x : Kno} {o : Int} (hx : x.Ok) (ho : In64 o) : (knoTo x o).1 ≤ (knoTo x o).2 := (bdV_ok ⟨by decide, by decide⟩ hx.2.2.1 hx.2.2.2.1 hx.2.2.2.2 ho ho (Int.le_refl _)).2.2
theorem knoReach_in {x : Kno} {o : Int} (h : (knoReach x o).2 = 0) : (x.k ≠ 0 ∧ x.k ≠ 1 ∧ x.k ≠ 5) ∧ (knoReach x o).1 = knoTo x o ∧ (knoRoom x.k).1 ≤ (knoTo x o).1 ∧ (knoTo x o).2 ≤ (knoRoom x.k).2 := by
  unfold knoReach at h ⊢
  by_cases h0 : x.k = 0
  · rw [if_pos h0] at h; exact absurd h (by decide)
  rw [if_neg h0] at h ⊢
  by_cases h1 : x.k = 1 ∨ x.k = 5
  · rw [if_pos h1] at h; exact absurd h (by decide)
  rw [if_neg h1] at h ⊢
  by_cases h2 : (knoTo x o).1 < (knoRoom x.k).1 ∨ (knoRoom x.k).2 < (knoTo x o).2
  · rw [if_pos h2] at h; exact absurd h (by decide)
  rw [if_neg h2]
  exact ⟨by omega, rfl, by omega, by omega⟩
theorem load_ok {y : Way} {d s : Nat} {o : Int} (hk : y.Ok) (hs : s < 11) (ho : In64 o) : (y.load d s o).2.Ok := by
  unfold Way.load
  split
  · exact hk
  rename_i h
  have h' := Classical.byContradiction h
  split
  · rename_i h3
    split
    · exact hk
    · obtain ⟨-, e, r1, r2⟩ := knoReach_in h'
      rw [h3] at r1 r2
      rw [e]
      exact hk.putReg d (kept_ok hk r1 r2 (knoTo_ok (hk.reg s hs) ho))
  · exact hk.putReg d knoAll_ok
theorem store_ok {y : Way} {p v : Kno} {o : Int} (hk : y.Ok) (hv : v.Ok) : (y.store p v o).2.Ok := by
  unfold Way.store
  split
  · exact hk
  split
  · exact hk
  split
  · exact hk
  split
  · exact hk
  split
  · exact hk
  · exact hk.putSlot _ hv
theorem call_ok {y : Way} {what : Int} (hk : y.Ok) : (y.call what).2.Ok := by
  unfold Way.call
  split
  · exact hk
  split
  · exact hk.lose.putReg 0 ⟨by show (0 : Int) ≤ 5; decide, by show (5 : Int) ≤ 5; decide, ⟨by show -9223372036854775808 ≤ (0 : Int); decide, by show (0 : Int) ≤ 9223372036854775807; decide⟩, ⟨by show -9223372036854775808 ≤ (0 : Int); decide, by show (0 : Int) ≤ 9223372036854775807; decide⟩, by show (0 : Int) ≤ 0; decide⟩
  split
  · exact hk.lose.putReg 0 knoAll_ok
  · exact hk.lose.putReg 0 (knoOne_ok ⟨by decide, by decide⟩)
theorem change_ok {y : Way} {c : Int} {d s : Nat} {r : Bool} {n : Int} (hk : y.Ok) (hc : 1 ≤ c ∧ c ≤ 13) (hd : d < 11) (hs : s < 11) (hn : In64 n) : (y.change c d s r n).2.Ok := by
  unfold Way.change
  split
  · exact hk.putReg d (knoMakes_ok hc (hk.reg d hd) (second_ok hk hs hn))
  · exact hk
theorem narrow_ok {y : Way} {c : Int} {d s : Nat} {r : Bool} {n : Int} (hk : y.Ok) (hc : 15 ≤ c ∧ c ≤ 24) (hd : d < 11) (hs : s < 11) (hn : In64 n) : (y.narrow c d s r n).2.Ok := by
  have o1 := hk.reg d hd
  have o2 := second_ok (r := r) (n := n) hk hs hn
  have nl := (nar_left (x := (y.reg d).l) (y := (y.second s r n).l) hc o1.2.2.1.1 o1.2.2.2.1.2 o2.2.2.1.1 o2.2.2.2.1.2 (Int.le_refl _) o1.2.2.2.2 (Int.le_refl _) o2.2.2.2.2).2
  unfold Way.narrow
  split
  · exact hk
  rename_i h
  obtain ⟨n1, n2, n3, n4, n5, n6⟩ := nl (by cases e : (narV c (y.reg d).l (y.reg d).h (y.second s r n).l (y.second s r n).h).2.2 with | false => exact absurd e h | true => rfl)
  have q1 := o1.2.2.1
  have q2 := o1.2.2.2.1
  have q3 := o2.2.2.1
  have q4 := o2.2.2.2.1
  generalize narV c (y.reg d).l (y.reg d).h (y.second s r n).l (y.second s r n).h = z at *
  unfold In64 at q1 q2 q3 q4
  have w1 : (knoNum z.1.1 z.1.2).Ok := knoNum_ok ⟨by omega, by omega⟩ ⟨by omega, by omega⟩ n1
  have w2 : (knoNum z.2.1.1 z.2.1.2).Ok := knoNum_ok ⟨by omega, by omega⟩ ⟨by omega, by omega⟩ n2
  split
  · exact hk
  split
  · exact (hk.putReg d w1).putReg s w2
  · exact hk.putReg d w1
theorem ask_ok {y : Way} {c : Int} {d s : Nat} {r : Bool} {o n : Int} (hk : y.Ok) (hc : 15 ≤ c ∧ c ≤ 24) (hd : d < 11) (hs : s < 11) (hn : In64 n) : ∀ z, z ∈ (y.ask c d s r o n).1 → z.2.Ok := by
  intro z hz
  unfold Way.ask at hz
  split at hz
  · exact absurd hz (by simp)
  split at hz
  · unfold Way.askNumbers at hz
    have ho := opp_facts (x := 0) (y := 0) hc
    rcases List.mem_append.mp hz with hz | hz
    · split at hz
      · rw [List.mem_singleton.mp hz]; exact narrow_ok hk ho.2.2 hd hs hn
      · exact absurd hz (by simp)
    · split at hz
      · rw [List.mem_singleton.mp hz]; exact narrow_ok hk hc hd hs hn
      · exact absurd hz (by simp)
  split at hz
  · exact absurd hz (by simp)
  · unfold Way.askPlace at hz
    split at hz
    · rw [List.mem_singleton.mp hz]; exact hk
    · rcases List.mem_cons.mp hz with hz | hz
      · rw [hz]; exact hk.putReg d (knoOne_ok ⟨by decide, by decide⟩)
      · rw [List.mem_singleton.mp hz]
        exact hk.putReg d ⟨by show (0 : Int) ≤ 4; decide, by show (4 : Int) ≤ 5; decide, ⟨by show -9223372036854775808 ≤ (0 : Int); decide, by show (0 : Int) ≤ 9223372036854775807; decide⟩, ⟨by show -9223372036854775808 ≤ (0 : Int); decide, by show (0 : Int) ≤ 9223372036854775807; decide⟩, by show (0 : Int) ≤ 0; decide⟩
theorem look_ok {y : Way} {c : Int} {d s : Nat} {r : Bool} {o n : Int} (hk : y.Ok) (c1 : 1 ≤ c) (c2 : c ≤ 28) (hd : d < 11) (hs : s < 11) (ho : In64 o) (hn : In64 n) : ∀ z, z ∈ (y.look c d s r o n).1 → z.2.Ok := by
  intro z hz
  unfold Way.look at hz
  by_cases h1 : 15 ≤ c ∧ c ≤ 24
  · rw [if_pos h1] at hz; exact ask_ok hk h1 hd hs hn z hz
  rw [if_neg h1] at hz
  by_cases h2 : c = 14
  · rw [if_pos h2] at hz; rw [List.mem_singleton.mp hz]; exact hk
  rw [if_neg h2] at hz
  by_cases h3 : c = 28
  · rw [if_pos h3] at hz; exact absurd hz (by simp)
  rw [if_neg h3] at hz
  by_cases h4 : c = 25
  · rw [if_pos h4] at hz
    split at hz
    · rw [List.mem_singleton.mp hz]; exact load_ok hk hs ho
    · exact absurd hz (by simp)
  rw [if_neg h4] at hz
  by_cases h5 : c = 26
  · rw [if_pos h5] at hz
    split at hz
    · rw [List.mem_singleton.mp hz]; exact store_ok hk (second_ok hk hs hn)
    · exact absurd hz (by simp)
  rw [if_neg h5] at hz
  by_cases h6 : c = 27
  · rw [if_pos h6] at hz
    split at hz
    · rw [List.mem_singleton.mp hz]; exact call_ok hk
    · exact absurd hz (by simp)
  rw [if_neg h6] at hz
  split at hz
  · rw [List.mem_singleton.mp hz]; exact change_ok hk ⟨by omega, by omega⟩ hd hs hn
  · exact absurd hz (by simp)
theorem way0_ok : way0.Ok := by
  refine ⟨fun i _ => ?_, fun _ _ => kno0_ok⟩
  show (if i = 1 then (⟨2, 0, 0⟩ : Kno) else if i = 10 then ⟨3, 0, 0⟩ else kno0).Ok
  split
  · exact ⟨by decide, by decide, ⟨by decide, by decide⟩, ⟨by decide, by decide⟩, by decide⟩
  split
  · exact ⟨by decide, by decide, ⟨by decide, by decide⟩, ⟨by decide, by decide⟩, by decide⟩
  · exact kno0_ok
structure Way.Le (y z : Way) : Prop where
  reg : ∀ i, (y.reg i).k = 0 ∨ z.reg i = y.reg i
  slot : z.slot = y.slot
theorem Way.Le.some {y z : Way} (h : y.Le z) {i : Nat} (hk : (y.reg i).k ≠ 0) : z.reg i = y.reg i := (h.reg i).resolve_left hk
theorem Way.Le.put {y z : Way} (h : y.Le z) (d : Nat) (x : Kno) : (y.putReg d x).Le (z.putReg d x) :=
  ⟨fun i => by
    show (if i = d then x else y.reg i).k = 0 ∨ (if i = d then x else z.reg i) = (if i = d then x else y.reg i)
    by_cases e : i = d
    · rw [if_pos e, if_pos e]; exact Or.inr rfl
    · rw [if_neg e, if_neg e]; exact h.reg i, h.slot⟩
theorem Way.Le.putSlot {y z : Way} (h : y.Le z) (d : Nat) (x : Kno) : (y.putSlot d x).Le (z.putSlot d x) :=
  ⟨h.reg, by show (fun i => if i = d then x else z.slot i) = (fun i => if i = d then x else y.slot i); rw [h.slot]⟩
theorem Way.Le.lose {y z : Way} (h : y.Le z) : y.lose.Le z.lose :=
  ⟨fun i => by
    show (if 1 ≤ i ∧ i ≤ 5 then kno0 else y.reg i).k = 0 ∨ (if 1 ≤ i ∧ i ≤ 5 then kno0 else z.reg i) = (if 1 ≤ i ∧ i ≤ 5 then kno0 else y.reg i)
    by_cases e : 1 ≤ i ∧ i ≤ 5
    · rw [if_pos e, if_pos e]; exact Or.inr rfl
    · rw [if_neg e, if_neg e]; exact h.reg i, h.slot⟩
theorem Way.Le.second {y z : Way} (h : y.Le z) {s : Nat} {r : Bool} {n : Int} (hk : (y.second s r n).k ≠ 0) : z.second s r n = y.second s r n := by
  cases r
  · rfl
  · exact h.some hk
theorem want_some {x : Kno} (h : knoWant x = 0) : x.k ≠ 0 := fun e => by unfold knoWant at h; rw [if_pos e] at h; exact absurd h (by decide)
theorem reach_some {x : Kno} {o : Int} (h : (knoReach x o).2 = 0) : x.k ≠ 0 := fun e => by unfold knoReach at h; rw [if_pos e] at h; exact absurd h (by decide)
def LeList : List (Int × Way) → List (Int × Way) → Prop
  | [], [] => True
  | x :: l, y :: m => x.1 = y.1 ∧ x.2.Le y.2 ∧ LeList l m
  | [], _ :: _ => False
  | _ :: _, [] => False
theorem LeList.one {o : Int} {y z : Way} (h : y.Le z) : LeList [(o, y)] [(o, z)] := ⟨rfl, h, trivial⟩
theorem LeList.append : ∀ {a b c d : List (Int × Way)}, LeList a b → LeList c d → LeList (a ++ c) (b ++ d)
  | [], [], _, _, _, h => h
  | _ :: _, _ :: _, _, _, h, k => ⟨h.1, h.2.1, LeList.append h.2.2 k⟩
  | [], _ :: _, _, _, h, _ => h.elim
  | _ :: _, [], _, _, h, _ => h.elim
theorem kept_le {y z : Way} (h : y.Le z) (p : Int × Int) : z.kept p = y.kept p := by
  unfold Way.kept Way.row; rw [h.slot]
theorem load_le {y z : Way} {d s : Nat} {o : Int} (h : y.Le z) (h0 : (y.load d s o).1 = 0) : (z.load d s o).1 = 0 ∧ (y.load d s o).2.Le (z.load d s o).2 := by
  unfold Way.load at h0 ⊢
  by_cases c1 : (knoReach (y.reg s) o).2 ≠ 0
  · rw [if_pos c1] at h0; exact absurd h0 c1
  rw [if_neg c1] at h0
  rw [if_neg c1, h.some (reach_some (Classical.byContradiction c1)), if_neg c1]
  by_cases c2 : (y.reg s).k = 3
  · rw [if_pos c2] at h0
    rw [if_pos c2, if_pos c2, kept_le h]
    by_cases c3 : (y.kept (knoReach (y.reg s) o).1).2 ≠ 0
    · rw [if_pos c3] at h0; exact absurd h0 c3
    rw [if_neg c3, if_neg c3]
    exact ⟨rfl, h.put _ _⟩
  · rw [if_neg c2, if_neg c2]
    exact ⟨rfl, h.put _ _⟩
theorem store_le {y z : Way} {d s : Nat} {r : Bool} {o n : Int} (h : y.Le z) (h0 : (y.store (y.reg d) (y.second s r n) o).1 = 0) :
    (z.store (z.reg d) (z.second s r n) o).1 = 0 ∧ (y.store (y.reg d) (y.second s r n) o).2.Le (z.store (z.reg d) (z.second s r n) o).2 := by
  have c1 : (knoReach (y.reg d) o).2 = 0 := by
    by_cases c1 : (knoReach (y.reg d) o).2 = 0
    · exact c1
    · unfold Way.store at h0; rw [if_pos c1] at h0; exact h0
  have c2 : (y.second s r n).k ≠ 0 := fun e => by
    unfold Way.store at h0
    rw [if_neg (fun k => k c1)] at h0
    by_cases k2 : (y.reg d).k = 2
    · rw [if_pos k2] at h0; exact absurd h0 (by show (6 : Int) ≠ 0; decide)
    · rw [if_neg k2, if_pos e] at h0; exact absurd h0 (by show (8 : Int) ≠ 0; decide)
  rw [h.some (reach_some c1), h.second c2]
  unfold Way.store at h0 ⊢
  repeat' split
  all_goals first
    | exact ⟨by simpa using h0, h⟩
    | (simp_all; done)
    | exact ⟨rfl, h.putSlot _ _⟩
theorem call_le {y z : Way} {what : Int} (h : y.Le z) (h0 : (y.call what).1 = 0) : (z.call what).1 = 0 ∧ (y.call what).2.Le (z.call what).2 := by
  unfold Way.call at h0 ⊢
  by_cases c1 : (what = 1 ∨ what = 3) ∧ knoWant (y.reg 1) ≠ 0
  · rw [if_pos c1] at h0; exact absurd h0 c1.2
  have c2 : ¬ ((what = 1 ∨ what = 3) ∧ knoWant (z.reg 1) ≠ 0) := fun e => by
    have w : knoWant (y.reg 1) = 0 := Classical.byContradiction fun k => c1 ⟨e.1, k⟩
    exact e.2 (by rw [h.some (want_some w)]; exact w)
  rw [if_neg c1, if_neg c2]
  split
  · exact ⟨rfl, h.lose.put _ _⟩
  split
  · exact ⟨rfl, h.lose.put _ _⟩
  · exact ⟨rfl, h.lose.put _ _⟩
theorem makes_le {c : Int} {a a' b : Kno} (ha : a.k = 0 ∨ a' = a) (h0 : (knoMakes c a b).2 = 0) : knoMakes c a' b = knoMakes c a b := by
  rcases ha with ha | ha
  · unfold knoMakes at h0 ⊢
    by_cases c1 : b.k = 0 ∨ (a.k = 0 ∧ c ≠ 1)
    · rw [if_pos c1] at h0; exact absurd h0 (by show (8 : Int) ≠ 0; decide)
    have c2 : c = 1 := Classical.byContradiction fun k => c1 (Or.inr ⟨ha, k⟩)
    have c3 : ¬ (b.k = 0 ∨ (a'.k = 0 ∧ c ≠ 1)) := fun e => e.elim (fun e => c1 (Or.inl e)) fun e => e.2 c2
    rw [if_neg c1, if_neg c3, if_pos c2, if_pos c2]
  · rw [ha]
theorem change_le {y z : Way} {c : Int} {d s : Nat} {r : Bool} {n : Int} (h : y.Le z) (h0 : (y.change c d s r n).1 = 0) : (z.change c d s r n).1 = 0 ∧ (y.change c d s r n).2.Le (z.change c d s r n).2 := by
  unfold Way.change at h0 ⊢
  by_cases c1 : (knoMakes c (y.reg d) (y.second s r n)).2 = 0
  · have c2 : (y.second s r n).k ≠ 0 := fun e => by
      unfold knoMakes at c1
      rw [if_pos (Or.inl e)] at c1; exact absurd c1 (by show (8 : Int) ≠ 0; decide)
    rw [h.second c2, makes_le (h.reg d) c1, if_pos c1, if_pos c1]
    exact ⟨rfl, h.put _ _⟩
  · rw [if_neg c1] at h0; exact absurd h0 c1
theorem narrow_le {y z : Way} {c : Int} {d s : Nat} {r : Bool} {n : Int} (h : y.Le z) (h1 : (y.reg d).k ≠ 0) (h2 : (y.second s r n).k ≠ 0) : (z.narrow c d s r n).1 = (y.narrow c d s r n).1 ∧ (y.narrow c d s r n).2.Le (z.narrow c d s r n).2 := by
  unfold Way.narrow
  rw [h.some h1, h.second h2]
  split
  · exact ⟨rfl, h⟩
  split
  · exact ⟨rfl, h⟩
  split
  · exact ⟨rfl, (h.put _ _).put _ _⟩
  · exact ⟨rfl, h.put _ _⟩
theorem ask_le {y z : Way} {c : Int} {d s : Nat} {r : Bool} {o n : Int} (h : y.Le z) (h0 : (y.ask c d s r o n).2 = 0) : (z.ask c d s r o n).2 = 0 ∧ LeList (y.ask c d s r o n).1 (z.ask c d s r o n).1 := by
  unfold Way.ask at h0 ⊢
  by_cases c1 : (y.reg d).k = 0 ∨ (y.second s r n).k = 0
  · rw [if_pos c1] at h0; exact absurd h0 (by show (8 : Int) ≠ 0; decide)
  have k1 : (y.reg d).k ≠ 0 := fun e => c1 (Or.inl e)
  have k2 : (y.second s r n).k ≠ 0 := fun e => c1 (Or.inr e)
  rw [if_neg c1] at h0
  rw [h.some k1, h.second k2, if_neg c1, if_neg c1]
  by_cases c2 : (y.reg d).k = 1 ∧ (y.second s r n).k = 1
  · rw [if_pos c2, if_pos c2]
    refine ⟨rfl, ?_⟩
    unfold Way.askNumbers
    obtain ⟨n1, n2⟩ := narrow_le (c := oppV c) h k1 k2
    obtain ⟨m1, m2⟩ := narrow_le (c := c) h k1 k2
    refine LeList.append ?_ ?_
    · show LeList (if _ then _ else _) (if _ then _ else _)
      rw [n1]
      split
      · exact LeList.one n2
      · trivial
    · show LeList (if _ then _ else _) (if _ then _ else _)
      rw [m1]
      split
      · exact LeList.one m2
      · trivial
  rw [if_neg c2] at h0
  rw [if_neg c2, if_neg c2]
  by_cases c3 : (c ≠ 15 ∧ c ≠ 16) ∨ r = true ∨ n ≠ 0
  · rw [if_pos c3] at h0; exact absurd h0 (by show (1 : Int) ≠ 0; decide)
  rw [if_neg c3, if_neg c3]
  refine ⟨rfl, ?_⟩
  unfold Way.askPlace
  rw [h.some k1]
  by_cases c4 : (y.reg d).k ≠ 5
  · rw [if_pos c4, if_pos c4]; exact LeList.one h
  · rw [if_neg c4, if_neg c4]; exact ⟨rfl, h.put _ _, rfl, h.put _ _, trivial⟩
theorem look_le {y z : Way} {c : Int} {d s : Nat} {r : Bool} {o n : Int} (h : y.Le z) (h0 : (y.look c d s r o n).2 = 0) :
    (z.look c d s r o n).2 = 0 ∧ LeList (y.look c d s r o n).1 (z.look c d s r o n).1 ∧ (c = 28 → z.reg 0 = y.reg 0) := by
  unfold Way.look at h0 ⊢
  by_cases c1 : 15 ≤ c ∧ c ≤ 24
  · rw [if_pos c1] at h0
    rw [if_pos c1, if_pos c1]
    obtain ⟨a, b⟩ := ask_le h h0
    exact ⟨a, b, fun e => by omega⟩
  rw [if_neg c1] at h0
  rw [if_neg c1, if_neg c1]
  by_cases c2 : c = 14
  · rw [if_pos c2, if_pos c2]; exact ⟨rfl, LeList.one h, fun e => by omega⟩
  rw [if_neg c2] at h0
  rw [if_neg c2, if_neg c2]
  by_cases c3 : c = 28
  · rw [if_pos c3] at h0
    rw [if_pos c3, if_pos c3]
    have e := h.some (want_some h0)
    exact ⟨by rw [e]; exact h0, trivial, fun _ => e⟩
  rw [if_neg c3] at h0
  rw [if_neg c3, if_neg c3]
  by_cases c4 : c = 25
  · rw [if_pos c4] at h0
    rw [if_pos c4, if_pos c4]
    by_cases k : (y.load d s o).1 = 0
    · obtain ⟨a, b⟩ := load_le h k
      rw [if_pos k, if_pos a]; exact ⟨rfl, LeList.one b, fun e => absurd e c3⟩
    · rw [if_neg k] at h0; exact absurd h0 k
  rw [if_neg c4] at h0
  rw [if_neg c4, if_neg c4]
  by_cases c5 : c = 26
  · rw [if_pos c5] at h0
    rw [if_pos c5, if_pos c5]
    by_cases k : (y.store (y.reg d) (y.second s r n) o).1 = 0
    · obtain ⟨a, b⟩ := store_le h k
      rw [if_pos k, if_pos a]; exact ⟨rfl, LeList.one b, fun e => absurd e c3⟩
    · rw [if_neg k] at h0; exact absurd h0 k
  rw [if_neg c5] at h0
  rw [if_neg c5, if_neg c5]
  by_cases c6 : c = 27
  · rw [if_pos c6] at h0
    rw [if_pos c6, if_pos c6]
    by_cases k : (y.call n).1 = 0
    · obtain ⟨a, b⟩ := call_le h k
      rw [if_pos k, if_pos a]; exact ⟨rfl, LeList.one b, fun e => absurd e c3⟩
    · rw [if_neg k] at h0; exact absurd h0 k
  rw [if_neg c6] at h0
  rw [if_neg c6, if_neg c6]
  by_cases k : (y.change c d s r n).1 = 0
  · obtain ⟨a, b⟩ := change_le h k
    rw [if_pos k, if_pos a]; exact ⟨rfl, LeList.one b, fun e => absurd e c3⟩
  · rw [if_neg k] at h0; exact absurd h0 k
theorem want_not4 (x : Kno) : knoWant x ≠ 4 := by unfold knoWant; repeat' split
                                                  all_goals decide
theorem firstBad_not4 : ∀ l : List Kno, firstBad l ≠ 4
  | [] => by show (0 : Int) ≠ 4; decide
  | x :: l => by
    rw [firstBad]
    split
    · exact firstBad_not4 l
    · exact want_not4 x
theorem reach_not4 (x : Kno) (o : Int) : (knoReach x o).2 ≠ 4 := by
  unfold knoReach
  repeat' split
  all_goals (first | (show (8 : Int) ≠ 4; decide) | (show (1 : Int) ≠ 4; decide) | (show (2 : Int) ≠ 4; decide) | (show (0 : Int) ≠ 4; decide))
theorem makes_not4 (c : Int) (a b : Kno) : (knoMakes c a b).2 ≠ 4 := by
  unfold knoMakes knoFurther
  repeat' split
  all_goals (first | (show (8 : Int) ≠ 4; decide) | (show (1 : Int) ≠ 4; decide) | (show (2 : Int) ≠ 4; decide) | (show (0 : Int) ≠ 4; decide))
theorem look_not4 (y : Way) (c : Int) (d s : Nat) (r : Bool) (o n : Int) : (y.look c d s r o n).2 ≠ 4 := by
  unfold Way.look
  split
  · unfold Way.ask
    repeat' split
    all_goals (first | (show (8 : Int) ≠ 4; decide) | (show (1 : Int) ≠ 4; decide) | (show (0 : Int) ≠ 4; decide))
  split
  · show (0 : Int) ≠ 4; decide
  split
  · exact want_not4 _
  split
  · split
    · show (0 : Int) ≠ 4; decide
    · unfold Way.load Way.kept
      repeat' split
      all_goals (first | (show (0 : Int) ≠ 4; decide) | exact reach_not4 _ _ | exact firstBad_not4 _)
  split
  · split
    · show (0 : Int) ≠ 4; decide
    · unfold Way.store
      repeat' split
      all_goals (first | (show (0 : Int) ≠ 4; decide) | (show (2 : Int) ≠ 4; decide) | (show (6 : Int) ≠ 4; decide) | (show (8 : Int) ≠ 4; decide) | exact reach_not4 _ _ | exact want_not4 _)
  split
  · split
    · show (0 : Int) ≠ 4; decide
    · unfold Way.call
      repeat' split
      all_goals (first | (show (0 : Int) ≠ 4; decide) | exact want_not4 _)
  · split
    · show (0 : Int) ≠ 4; decide
    · unfold Way.change
      split
      · show (0 : Int) ≠ 4; decide
      · exact makes_not4 _ _ _
def LeSt (sh : Nat) : List (Nat × Way) → List (Nat × Way) → Prop
  | [], [] => True
  | x :: l, y :: m => y.1 = x.1 + sh ∧ x.2.Le y.2 ∧ LeSt sh l m
  | [], _ :: _ => False
  | _ :: _, [] => False
theorem LeSt.lay (sh i : Nat) : ∀ {a b : List (Int × Way)} {c d : List (Nat × Way)}, LeList a b → LeSt sh c d → LeSt sh (a.map (fun z => (i + 1 + z.1.toNat, z.2)) ++ c) (b.map (fun z => (i + sh + 1 + z.1.toNat, z.2)) ++ d)
  | [], [], _, _, _, h => h
  | x :: _, y :: _, _, _, h, k => ⟨by show i + sh + 1 + y.1.toNat = i + 1 + x.1.toNat + sh; rw [h.1]; omega, h.2.1, LeSt.lay sh i h.2.2 k⟩
  | [], _ :: _, _, _, h, _ => h.elim
  | _ :: _, [], _, _, h, _ => h.elim
section
variable {C D S : Nat → Int} {R : Nat → Bool} {O N : Nat → Int} {C' D' S' : Nat → Int} {R' : Nat → Bool} {O' N' : Nat → Int} {len sh : Nat}
theorem stay_in (hr : ∀ i, i < len → Right (C i) (D i) (S i) (R i) (O i) (N i) len i) {x : Nat × Way} {st : List (Nat × Way)} (hst : ∀ z, z ∈ x :: st → z.1 < len) :
    ∀ z, z ∈ (x.2.look (C x.1) (D x.1).toNat (S x.1).toNat (R x.1) (O x.1) (N x.1)).1.map (fun z => (x.1 + 1 + z.1.toNat, z.2)) ++ st → z.1 < len := by
  intro z hz
  have hx1 := hst x mcS
  have r := hr x.1 hx1
  rcases List.mem_append.mp hz with hz | hz
  · obtain ⟨u, hu, rfl⟩ := List.mem_map.mp hz
    obtain ⟨u1, u2⟩ := look_offs u hu
    have hl := r.last u1
    show x.1 + 1 + u.1.toNat < len
    rcases u2 with u2 | ⟨u2, u3⟩
    · omega
    · have := r.lead u3; omega
  · exact hst z (mcO _ hz)
theorem go_le (hr : ∀ i, i < len → Right (C i) (D i) (S i) (R i) (O i) (N i) len i) (hs : ∀ i, i < len → C' (i + sh) = C i ∧ D' (i + sh) = D i ∧ S' (i + sh) = S i ∧ R' (i + sh) = R i ∧ O' (i + sh) = O i ∧ N' (i + sh) = N i) :
    ∀ (f : Nat) (st st' : List (Nat × Way)) (ends : List Kno), LeSt sh st st' → (∀ z, z ∈ st → z.1 < len) →
      (∀ E, goF C D S R O N f st ends = .inr E → goF C' D' S' R' O' N' f st' ends = .inr E) ∧ (∀ p, goF C D S R O N f st ends = .inl (4, p) → goF C' D' S' R' O' N' f st' ends = .inl (4, p + sh)) := by
  intro f
  induction f with
  | zero =>
    intro st st' ends h _
    match st, st', h with
    | [], [], _ => rw [goF, goF]; exact ⟨fun E e => e, fun p e => by cases e⟩
    | x :: st, y :: st', h => rw [goF, goF]; exact ⟨fun E e => (by cases e), fun p e => by cases e; rw [h.1]⟩
  | succ f ih =>
    intro st st' ends h hst
    match st, st', h with
    | [], [], _ => rw [goF, goF]; exact ⟨fun E e => e, fun p e => by cases e⟩
    | x :: st, y :: st', h =>
      obtain ⟨h1, h2, h3⟩ := h
      obtain ⟨e1, e2, e3, e4, e5, e6⟩ := hs x.1 (hst x mcS)
      rw [goF, goF, h1, e1, e2, e3, e4, e5, e6]
      by_cases h0 : (x.2.look (C x.1) (D x.1).toNat (S x.1).toNat (R x.1) (O x.1) (N x.1)).2 ≠ 0
      · rw [if_pos h0]
        refine ⟨fun E e => (by cases e), fun p e => ?_⟩
        injection e with e
        exact absurd (congrArg Prod.fst e) (look_not4 _ _ _ _ _ _ _)
      · obtain ⟨l1, l2, l3⟩ := look_le h2 (Classical.byContradiction h0)
        rw [if_neg h0, if_neg (show ¬ (y.2.look (C x.1) (D x.1).toNat (S x.1).toNat (R x.1) (O x.1) (N x.1)).2 ≠ 0 from fun k => k l1)]
        have := ih _ _ (if C x.1 = 28 then ends ++ [x.2.reg 0] else ends) (LeSt.lay sh x.1 l2 h3) (stay_in hr hst)
        have e : (if C x.1 = 28 then ends ++ [y.2.reg 0] else ends) = (if C x.1 = 28 then ends ++ [x.2.reg 0] else ends) := by
          by_cases c : C x.1 = 28
          · rw [if_pos c, if_pos c, l3 c]
          · rw [if_neg c, if_neg c]
        rw [e]; exact this
theorem go_shift (hr : ∀ i, i < len → Right (C i) (D i) (S i) (R i) (O i) (N i) len i) (hs : ∀ i, i < len → C' (i + sh) = C i ∧ D' (i + sh) = D i ∧ S' (i + sh) = S i ∧ R' (i + sh) = R i ∧ O' (i + sh) = O i ∧ N' (i + sh) = N i) :
    ∀ (f : Nat) (st : List (Nat × Way)) (ends : List Kno), (∀ z, z ∈ st → z.1 < len) →
      (∀ E, goF C D S R O N f st ends = .inr E → goF C' D' S' R' O' N' f (st.map fun z => (z.1 + sh, z.2)) ends = .inr E) ∧ (∀ e p, goF C D S R O N f st ends = .inl (e, p) → goF C' D' S' R' O' N' f (st.map fun z => (z.1 + sh, z.2)) ends = .inl (e, p + sh)) := by
  intro f
  induction f with
  | zero =>
    intro st ends _
    cases st with
    | nil => rw [List.map_nil, goF, goF]; exact ⟨fun E e => e, fun _ p e => by cases e⟩
    | cons x st => rw [List.map_cons, goF, goF]; exact ⟨fun E e => (by cases e), fun _ p e => by cases e; rfl⟩
  | succ f ih =>
    intro st ends hst
    cases st with
    | nil => rw [List.map_nil, goF, goF]; exact ⟨fun E e => e, fun _ p e => by cases e⟩
    | cons x st =>
      obtain ⟨e1, e2, e3, e4, e5, e6⟩ := hs x.1 (hst x mcS)
      rw [List.map_cons, goF, goF]
      dsimp only
      rw [e1, e2, e3, e4, e5, e6]
      by_cases h0 : (x.2.look (C x.1) (D x.1).toNat (S x.1).toNat (R x.1) (O x.1) (N x.1)).2 ≠ 0
      · rw [if_pos h0, if_pos h0]
        exact ⟨fun E e => (by cases e), fun _ p e => by cases e; rfl⟩
      · rw [if_neg h0, if_neg h0]
        have := ih _ (if C x.1 = 28 then ends ++ [x.2.reg 0] else ends) (stay_in hr hst)
        have e : ((x.2.look (C x.1) (D x.1).toNat (S x.1).toNat (R x.1) (O x.1) (N x.1)).1.map (fun z => (x.1 + 1 + z.1.toNat, z.2)) ++ st).map (fun z => (z.1 + sh, z.2)) = (x.2.look (C x.1) (D x.1).toNat (S x.1).toNat (R x.1) (O x.1) (N x.1)).1.map (fun z => (x.1 + sh + 1 + z.1.toNat, z.2)) ++ st.map (fun z => (z.1 + sh, z.2)) := by
          rw [List.map_append, List.map_map]
          congr 1
          refine List.map_congr_left fun z _ => ?_
          show (x.1 + 1 + z.1.toNat + sh, z.2) = (x.1 + sh + 1 + z.1.toNat, z.2)
          rw [show x.1 + 1 + z.1.toNat + sh = x.1 + sh + 1 + z.1.toNat by omega]
        rw [e] at this; exact this
theorem go_more (f : Nat) : ∀ (st : List (Nat × Way)) (ends : List Kno), (∃ p, goF C D S R O N f st ends = .inl (4, p)) ∨ goF C D S R O N (f + 1) st ends = goF C D S R O N f st ends := by
  induction f with
  | zero =>
    intro st ends
    cases st with
    | nil => exact Or.inr (by rw [goF, goF])
    | cons x st => exact Or.inl ⟨_, by rw [goF]⟩
  | succ f ih =>
    intro st ends
    cases st with
    | nil => exact Or.inr (by rw [goF, goF])
    | cons x st =>
      rw [goF, goF]
      by_cases h0 : (x.2.look (C x.1) (D x.1).toNat (S x.1).toNat (R x.1) (O x.1) (N x.1)).2 ≠ 0
      · rw [if_pos h0, if_pos h0]; exact Or.inr rfl
      · rw [if_neg h0, if_neg h0]; exact ih _ _
theorem dead_jump (hr : ∀ i, i < len → Right (C i) (D i) (S i) (R i) (O i) (N i) len i) (h0 : 0 < len) (sk : Nat) (hs : ∀ i, i < len → C' (i + (1 + sk)) = C i ∧ D' (i + (1 + sk)) = D i ∧ S' (i + (1 + sk)) = S i ∧ R' (i + (1 + sk)) = R i ∧ O' (i + (1 + sk)) = O i ∧ N' (i + (1 + sk)) = N i)
    (hc : C' 0 = 14) (ho : O' 0 = (sk : Int)) (f : Nat) : (∃ p, goF C D S R O N (f + 1) [(0, way0)] [] = .inl (4, p)) ∨ (∃ p, goF C' D' S' R' O' N' (f + 1) [(0, way0)] [] = .inl (4, p)) ∨
      (∃ E, goF C D S R O N (f + 1) [(0, way0)] [] = .inr E ∧ goF C' D' S' R' O' N' (f + 1) [(0, way0)] [] = .inr E) ∨ (∃ e p q, e ≠ 4 ∧ goF C D S R O N (f + 1) [(0, way0)] [] = .inl (e, p) ∧ goF C' D' S' R' O' N' (f + 1) [(0, way0)] [] = .inl (e, q)) := by
  have e : goF C' D' S' R' O' N' (f + 1) [(0, way0)] [] = goF C' D' S' R' O' N' f ([((0 : Nat), way0)].map fun z => (z.1 + (1 + sk), z.2)) [] := by
    rw [goF]
    dsimp only
    rw [hc, ho]
    have l : way0.look 14 (D' 0).toNat (S' 0).toNat (R' 0) (sk : Int) (N' 0) = ([((sk : Int), way0)], 0) := by unfold Way.look; rw [if_neg (by decide), if_pos rfl]
    rw [l, if_neg (fun k => k rfl), if_neg (by decide)]
    show goF C' D' S' R' O' N' f [(0 + 1 + (sk : Int).toNat, way0)] [] = goF C' D' S' R' O' N' f [(0 + (1 + sk), way0)] []
    rw [show (0 + 1 + (sk : Int).toNat) = 0 + (1 + sk) by omega]
  obtain ⟨g1, g2⟩ := go_shift (sh := 1 + sk) hr hs f [(0, way0)] [] (fun z hz => by rw [List.mem_singleton.mp hz]; exact h0)
  rcases go_more (C := C) (D := D) (S := S) (R := R) (O := O) (N := N) f [(0, way0)] [] with ⟨p, hp⟩ | hm
  · exact Or.inr (Or.inl ⟨_, by rw [e]; exact g2 _ _ hp⟩)
  · rw [e, hm]
    cases hg : goF C D S R O N f [(0, way0)] [] with
    | inl x =>
      obtain ⟨er, p⟩ := x
      by_cases h4 : er = 4
      · subst h4; exact Or.inl ⟨_, rfl⟩
      · exact Or.inr (Or.inr (Or.inr ⟨er, _, _, h4, rfl, g2 _ _ hg⟩))
    | inr E => exact Or.inr (Or.inr (Or.inl ⟨E, rfl, g1 _ hg⟩))
theorem dead_lost (hr : ∀ i, i < len → Right (C i) (D i) (S i) (R i) (O i) (N i) len i) (h0 : 0 < len) (hs : ∀ i, i < len → C' (i + 2) = C i ∧ D' (i + 2) = D i ∧ S' (i + 2) = S i ∧ R' (i + 2) = R i ∧ O' (i + 2) = O i ∧ N' (i + 2) = N i)
    (c0 : C' 0 = 1) (d0 : D' 0 = 0) (r0 : R' 0 = false) (c1 : C' 1 = 1) (d1 : D' 1 = 0) (r1 : R' 1 = true) (s1 : S' 1 = 1) (f : Nat) (E : List Kno) (h : goF C D S R O N (f + 2) [(0, way0)] [] = .inr E) :
    (∃ p, goF C' D' S' R' O' N' (f + 2) [(0, way0)] [] = .inl (4, p)) ∨ goF C' D' S' R' O' N' (f + 2) [(0, way0)] [] = .inr E := by
  have e : ∃ y, way0.Le y ∧ goF C' D' S' R' O' N' (f + 2) [(0, way0)] [] = goF C' D' S' R' O' N' f [(0 + 2, y)] [] := by
    refine ⟨(way0.putReg 0 (knoNum (N' 0) (N' 0))).putReg 0 ⟨2, 0, 0⟩, ⟨fun i => ?_, rfl⟩, ?_⟩
    · by_cases hi : i = 0
      · subst hi; exact Or.inl rfl
      · refine Or.inr ?_
        show (if i = 0 then _ else if i = 0 then _ else way0.reg i) = way0.reg i
        rw [if_neg hi, if_neg hi]
    · rw [goF]
      dsimp only
      rw [c0, d0, r0]
      have l0 : way0.look 1 (0 : Int).toNat (S' 0).toNat false (O' 0) (N' 0) = ([(0, way0.putReg 0 (knoNum (N' 0) (N' 0)))], 0) := rfl
      rw [l0, if_neg (fun k => k rfl), if_neg (by decide)]
      show goF C' D' S' R' O' N' (f + 1) [(1, way0.putReg 0 (knoNum (N' 0) (N' 0)))] [] = _
      rw [goF]
      dsimp only
      rw [c1, d1, r1, s1]
      have l1 : (way0.putReg 0 (knoNum (N' 0) (N' 0))).look 1 (0 : Int).toNat (1 : Int).toNat true (O' 1) (N' 1) = ([(0, (way0.putReg 0 (knoNum (N' 0) (N' 0))).putReg 0 ⟨2, 0, 0⟩)], 0) := rfl
      rw [l1, if_neg (fun k => k rfl), if_neg (by decide)]
      rfl
  obtain ⟨y, hy, e⟩ := e
  obtain ⟨g1, g2⟩ := go_le (sh := 2) hr hs f [(0, way0)] [(0 + 2, y)] [] ⟨rfl, hy, trivial⟩ (fun z hz => by rw [List.mem_singleton.mp hz]; exact h0)
  rw [e]
  rcases go_more (C := C) (D := D) (S := S) (R := R) (O := O) (N := N) f [(0, way0)] [] with ⟨p, hp⟩ | hm
  · exact Or.inl ⟨_, g2 _ hp⟩
  · rcases go_more (C := C) (D := D) (S := S) (R := R) (O := O) (N := N) (f + 1) [(0, way0)] [] with ⟨p, hp⟩ | hm2
    · rw [hm] at hp; exact Or.inl ⟨_, g2 _ hp⟩
    · rw [hm2, hm] at h; exact Or.inr (g1 _ h)
end
theorem fault_behind {C D S : Nat → Int} {R : Nat → Bool} {O N : Nat → Int} {C' D' S' : Nat → Int} {R' : Nat → Bool} {O' N' : Nat → Int} {len sh i : Nat} (e : C' (i + sh) = C i ∧ D' (i + sh) = D i ∧ S' (i + sh) = S i ∧ R' (i + sh) = R i ∧ O' (i + sh) = O i ∧ N' (i + sh) = N i) :
    faultAt (len + sh) C' D' S' R' O' N' (i + sh) = faultAt len C D S R O N i := by
  obtain ⟨e1, e2, e3, e4, e5, e6⟩ := e
  unfold faultAt
  rw [e1, e2, e3, e4, e5, e6]
  congr 1
  omega
theorem wrong_more {c d s : Int} {r : Bool} {o n b : Int} (h : wrongV c d s r o n 1 = 0) (hb : 1 ≤ b) : wrongV c d s r o n b = 0 := by
  have ha : aloneV c d s r o n = 0 := by
    by_cases e : aloneV c d s r o n = 0
    · exact e
    · unfold wrongV at h; rw [if_pos e] at h; exact h
  rw [wrong_rest ha] at h ⊢
  split at h
  · exact absurd h (by decide)
  · rename_i k
    rw [if_neg (by omega), if_neg (by omega)]
end Go.Proofs.YtednmkhdehlojaaGreatDoor
