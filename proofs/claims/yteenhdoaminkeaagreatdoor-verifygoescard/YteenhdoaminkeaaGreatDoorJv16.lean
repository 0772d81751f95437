/-
 What op.wrong and the document's own wrong return, all classes of codes together. Conditions: none. What op.Check and the document's own Check answer to a list of steps in memory: the first step with which something is wrong, and what, by one function on steps; the world below is as it was. Conditions: the list's cells hold steps. What op.Check and the document's Check return where all steps are right, and where the i-th is the first that is wrong; the world below is as it was. Conditions: the list's cells hold steps. What a right step is, and where it leads, on plain numbers; no program is named here. No conditions. A way of a verifier, on plain numbers: which ways lead on from a step: a machine of which what is known is so goes one of them; and all ways of a list of steps, each wholly ahead of the next one: where none goes wrong, a machine ends well, with a number that is between the ends of one way. No program is named here. Conditions: the ends are of 64 bits; the steps are right.
-/
import Derived.Test.YteenhdoaminkeaaGreatDoorJv15
import Derived.Test.YteenhdoaminkeaaGreatDoorJv3
set_option maxHeartbeats 40000000
open Go.Value renaming int → vI
open Go.IntKind renaming i64 → vK
open Go.RowKit.Below renaming alloc → bA, setCell → bS, drew → bD, refl → bF
set_option maxRecDepth 1000000
set_option linter.defProp false
set_option linter.unusedVariables false
set_option linter.unusedSimpArgs false
namespace Go.Proofs.YteenhdoaminkeaaGreatDoor
open Go.ChangeShapes Go.WideShapes Go.ChangeAt Go.RowKit

theorem z7o {c d s : Int} {r : Bool} {o n : Int} (c1 : 1 ≤ c) (c2 : c ≤ 28) (d1 : 0 ≤ d) (d2 : d ≤ 10) (s1 : 0 ≤ s) (s2 : s ≤ 10) (ht : ¬ (((1 ≤ c ∧ c ≤ 13) ∨ c = 25) ∧ d = 10)) :
  z1i c d s r o n = (if moreV c d s r o n = true ∨ (c = 27 ∧ n ≠ 1 ∧ n ≠ 2 ∧ n ≠ 3) then 1 else 0) := by
 unfold z1i
 rw [if_neg (by omega), if_neg (by omega), if_neg ht]
theorem z3b {c d s : Int} {r : Bool} {o n : Int} (c1 : 1 ≤ c) (c2 : c ≤ 28) (d1 : 0 ≤ d) (d2 : d ≤ 10) (s1 : 0 ≤ s) (s2 : s ≤ 10) (ht : ¬ (((1 ≤ c ∧ c ≤ 13) ∨ c = 25) ∧ d = 10)) (h27 : c ≠ 27) :
  z1i c d s r o n = bit (moreV c d s r o n) := by
 rw [z7o c1 c2 d1 d2 s1 s2 ht]
 unfold bit
 cases moreV c d s r o n <;> simp [h27]
theorem z14 (c d s : Int) (r : Bool) (o n : Int) (w : World) :
  Calls Tryz.prog 17 #[.agg #[vI vK c, vI vK d, vI vK s, .bool r, vI vK o, vI vK n]] w fun e w' => e = .returned (vI vK (z1i c d s r o n)) ∧ Below w.heap.size w w' := by
 by_cases k1 : c < 1
 ·have e : z1i c d s r o n = 3 := by unfold z1i; rw [if_pos (Or.inl k1)]
  rw [e]; exact zNq c d s o n r k1 w
 by_cases k2 : 28 < c
 ·have e : z1i c d s r o n = 3 := by unfold z1i; rw [if_pos (Or.inr k2)]
  rw [e]; exact zNr c d s o n r k2 w
 have c1 : 1 ≤ c := by omega
 have c2 : c ≤ 28 := by omega
 have two : (d < 0 ∨ 10 < d ∨ s < 0 ∨ 10 < s) → z1i c d s r o n = 2 := fun h => by unfold z1i; rw [if_neg (by omega), if_pos h]
 by_cases k3 : d < 0
 ·rw [two (by omega)]; exact zNo c d s o n r c1 c2 k3 w
 by_cases k4 : 10 < d
 ·rw [two (by omega)]; exact zNp c d s o n r c1 c2 k4 w
 have d1 : 0 ≤ d := by omega
 have d2 : d ≤ 10 := by omega
 by_cases k5 : s < 0
 ·rw [two (by omega)]; exact zNm c d s o n r c1 c2 d1 d2 k5 w
 by_cases k6 : 10 < s
 ·rw [two (by omega)]; exact zNn c d s o n r c1 c2 d1 d2 k6 w
 have s1 : 0 ≤ s := by omega
 have s2 : s ≤ 10 := by omega
 by_cases ht : ((1 ≤ c ∧ c ≤ 13) ∨ c = 25) ∧ d = 10
 ·have e : z1i c d s r o n = 6 := by unfold z1i; rw [if_neg (by omega), if_neg (by omega), if_pos ht]
  rw [e]
  obtain ⟨h, rfl⟩ := ht
  rcases h with ⟨a1, a2⟩ | rfl
  ·exact zS4 c s o n r a1 a2 s1 s2 w
  ·exact zJv s o n r s1 s2 w
 have hc : (1 ≤ c ∧ c ≤ 12) ∨ (15 ≤ c ∧ c ≤ 24) ∨ c = 13 ∨ c = 14 ∨ c = 25 ∨ c = 26 ∨ c = 27 ∨ c = 28 := by omega
 rcases hc with ⟨a1, a2⟩ | ⟨a1, a2⟩ | rfl | rfl | rfl | rfl | rfl | rfl
 ·have e : moreV c d s r o n = (if r then o != 0 || n != 0 else s != 0 || o != 0) := by unfold moreV; rw [if_pos ⟨a1, a2⟩]
  rw [z3b c1 c2 d1 d2 s1 s2 ht (by omega), e]
  cases r
  ·exact zAm c d s o n a1 a2 d1 d2 s1 s2 (by omega) w
  ·exact zC7 c d s o n a1 a2 d1 d2 s1 s2 (by omega) w
 ·have e : moreV c d s r o n = (if r then n != 0 else s != 0) := by unfold moreV; rw [if_neg (by omega), if_pos ⟨a1, a2⟩]
  rw [z3b c1 c2 d1 d2 s1 s2 ht (by omega), e]
  cases r
  ·exact zAt c d s o n a1 a2 d1 d2 s1 s2 w
  ·exact zCe c d s o n a1 a2 d1 d2 s1 s2 w
 ·rw [z3b c1 c2 d1 d2 s1 s2 ht (by omega)]
  cases r
  ·exact zAs d s o n d1 d2 s1 s2 (by omega) w
  ·exact zCd d s o n d1 d2 s1 s2 (by omega) w
 ·rw [z3b c1 c2 d1 d2 s1 s2 ht (by omega)]
  cases r
  ·exact zAr d s o n d1 d2 s1 s2 w
  ·exact zCc d s o n d1 d2 s1 s2 w
 ·rw [z3b c1 c2 d1 d2 s1 s2 ht (by omega)]
  cases r
  ·exact zAq d s o n d1 d2 s1 s2 (by omega) w
  ·exact zCb d s o n d1 d2 s1 s2 (by omega) w
 ·rw [z3b c1 c2 d1 d2 s1 s2 ht (by omega)]
  cases r
  ·exact zAp d s o n d1 d2 s1 s2 w
  ·exact zCa d s o n d1 d2 s1 s2 w
 ·rw [z7o c1 c2 d1 d2 s1 s2 ht]
  have e : (if moreV 27 d s r o n = true ∨ ((27 : Int) = 27 ∧ n ≠ 1 ∧ n ≠ 2 ∧ n ≠ 3) then (1 : Int) else 0) = bit (d != 0 || s != 0 || r || o != 0 || (n != 1 && (n != 2 && n != 3))) := by
   have m : moreV 27 d s r o n = (d != 0 || s != 0 || r || o != 0) := rfl
   rw [m]
   unfold bit
   by_cases h1 : n = 1 <;> by_cases h2 : n = 2 <;> by_cases h3 : n = 3 <;> simp [h1, h2, h3] <;> omega
  rw [e]
  cases r
  ·exact zAo d s o n d1 d2 s1 s2 w
  ·exact zC9 d s o n d1 d2 s1 s2 w
 ·rw [z3b c1 c2 d1 d2 s1 s2 ht (by omega)]
  cases r
  ·exact zAn d s o n d1 d2 s1 s2 w
  ·exact zC8 d s o n d1 d2 s1 s2 w
theorem z38 {c d s : Int} {r : Bool} {o n b : Int} {x : Int} (h : z1i c d s r o n = x) (h0 : x ≠ 0) : z3s c d s r o n b = x := by
 unfold z3s; rw [h, if_pos h0]
theorem z41 {c d s : Int} {r : Bool} {o n b : Int} (h : z1i c d s r o n = 0) : z3s c d s r o n b = if (c = 14 ∨ (15 ≤ c ∧ c ≤ 24)) ∧ (o < 0 ∨ b ≤ o) then 10 else if b = 0 ∧ c ≠ 28 then 8 else 0 := by
 unfold z3s; rw [if_neg (by rw [h]; exact fun f => f rfl)]
theorem z6h {c d s : Int} {r : Bool} {o n b : Int} (h : z1i c d s r o n = 0) (h1 : ¬ (c = 14 ∨ (15 ≤ c ∧ c ≤ 24))) (h2 : c ≠ 28) : z3s c d s r o n b = endV b := by
 rw [z41 h, if_neg (fun f => h1 f.1)]
 unfold endV
 by_cases hb : b = 0 <;> simp [hb, h2]
theorem z9r {c d s : Int} {r : Bool} {o n b : Int} (h : z1i c d s r o n = 0) (h1 : c = 14 ∨ (15 ≤ c ∧ c ≤ 24)) : z3s c d s r o n b = zLg o b := by
 rw [z41 h]
 unfold zLg endV
 (repeat' split) <;> omega
theorem z8o (c d s : Int) (r : Bool) (o n b : Int) (w : World) :
  Calls Tryz.prog 24 #[.agg #[vI vK c, vI vK d, vI vK s, .bool r, vI vK o, vI vK n], vI vK b, .func (Fn.func 23) #[] #[]] w fun e w' => e = .returned (vI vK (z3s c d s r o n b)) ∧ Below w.heap.size w w' := by
 by_cases k1 : c < 1
 ·have e : z1i c d s r o n = 3 := by unfold z1i; rw [if_pos (Or.inl k1)]
  rw [z38 e (by decide)]; exact zT1 c d s o n b r k1 w
 by_cases k2 : 28 < c
 ·have e : z1i c d s r o n = 3 := by unfold z1i; rw [if_pos (Or.inr k2)]
  rw [z38 e (by decide)]; exact zT2 c d s o n b r k2 w
 have c1 : 1 ≤ c := by omega
 have c2 : c ≤ 28 := by omega
 have two : (d < 0 ∨ 10 < d ∨ s < 0 ∨ 10 < s) → z3s c d s r o n b = 2 := fun h => z38 (by unfold z1i; rw [if_neg (by omega), if_pos h]) (by decide)
 by_cases k3 : d < 0
 ·rw [two (by omega)]; exact zSz c d s o n b r c1 c2 k3 w
 by_cases k4 : 10 < d
 ·rw [two (by omega)]; exact zT0 c d s o n b r c1 c2 k4 w
 have d1 : 0 ≤ d := by omega
 have d2 : d ≤ 10 := by omega
 by_cases k5 : s < 0
 ·rw [two (by omega)]; exact zSx c d s o n b r c1 c2 d1 d2 k5 w
 by_cases k6 : 10 < s
 ·rw [two (by omega)]; exact zSy c d s o n b r c1 c2 d1 d2 k6 w
 have s1 : 0 ≤ s := by omega
 have s2 : s ≤ 10 := by omega
 by_cases ht : ((1 ≤ c ∧ c ≤ 13) ∨ c = 25) ∧ d = 10
 ·have e : z1i c d s r o n = 6 := by unfold z1i; rw [if_neg (by omega), if_neg (by omega), if_pos ht]
  rw [z38 e (by decide)]
  obtain ⟨h, rfl⟩ := ht
  rcases h with ⟨a1, a2⟩ | rfl
  ·exact op_top c s o n b r a1 a2 s1 s2 w
  ·exact zP2 s o n b r s1 s2 w
 have last := z7o (r := r) (o := o) (n := n) c1 c2 d1 d2 s1 s2 ht
 have hc : (1 ≤ c ∧ c ≤ 13) ∨ (15 ≤ c ∧ c ≤ 24) ∨ c = 14 ∨ c = 25 ∨ c = 26 ∨ c = 27 ∨ c = 28 := by omega
 cases hm : moreV c d s r o n with
 | true =>
  have e : z1i c d s r o n = 1 := by rw [last, if_pos (Or.inl hm)]
  rw [z38 e (by decide)]
  rcases hc with ⟨a1, a2⟩ | ⟨a1, a2⟩ | rfl | rfl | rfl | rfl | rfl
  ·exact zEk c d s o n b r a1 a2 d1 d2 s1 s2 (by omega) hm w
  ·exact zEt c d s o n b r a1 a2 d1 d2 s1 s2 hm w
  ·exact zEs d s o n b r d1 d2 s1 s2 hm w
  ·exact zEr d s o n b r d1 d2 s1 s2 (by omega) hm w
  ·exact zEq d s o n b r d1 d2 s1 s2 hm w
  ·exact zEm d s o n b r d1 d2 s1 s2 hm w
  ·exact zEl d s o n b r d1 d2 s1 s2 hm w
 | false =>
  by_cases h27 : c = 27 ∧ n ≠ 1 ∧ n ≠ 2 ∧ n ≠ 3
  ·have e : z1i c d s r o n = 1 := by rw [last, if_pos (Or.inr h27)]
   rw [z38 e (by decide)]
   obtain ⟨rfl, n1, n2, n3⟩ := h27
   exact zI2 d s o n b r d1 d2 s1 s2 hm (by simpa using n1) (by simpa using n2) (by simpa using n3) w
  ·have e : z1i c d s r o n = 0 := by rw [last, if_neg (by rw [hm]; simpa using h27)]
   rcases hc with ⟨a1, a2⟩ | ⟨a1, a2⟩ | rfl | rfl | rfl | rfl | rfl
   ·rw [z6h e (by omega) (by omega)]; exact zI0 c d s o n b r a1 a2 d1 d2 s1 s2 (by omega) hm w
   ·rw [z9r e (by omega)]; exact zI6 c d s o n b r a1 a2 d1 d2 s1 s2 hm w
   ·rw [z9r e (by omega)]; exact zI5 d s o n b r d1 d2 s1 s2 hm w
   ·rw [z6h e (by omega) (by omega)]; exact zI4 d s o n b r d1 d2 s1 s2 (by omega) hm w
   ·rw [z6h e (by omega) (by omega)]; exact zI3 d s o n b r d1 d2 s1 s2 hm w
   ·rw [z6h e (by omega) (by omega)]
    have hn : n = 1 ∨ n = 2 ∨ n = 3 := by omega
    rcases hn with rfl | rfl | rfl
    ·exact zEp d s o 1 b r d1 d2 s1 s2 hm (by decide) w
    ·exact zEo d s o 2 b r d1 d2 s1 s2 hm (by decide) (by decide) w
    ·exact zEn d s o 3 b r d1 d2 s1 s2 hm (by decide) (by decide) (by decide) w
   ·have z : z3s 28 d s r o n b = 0 := by rw [z41 e, if_neg (by omega), if_neg (by omega)]
    rw [z]; exact zI1 d s o n b r d1 d2 s1 s2 hm w

def z33 (w : World) (bk off len : Nat) (C D S : Nat → Int) (R : Nat → Bool) (O N : Nat → Int) : Prop :=
 ∀ i, i < len → w.cell? ⟨bk, off + i * 6, none⟩ = some (vI vK (C i)) ∧ w.cell? ⟨bk, off + i * 6 + 1, none⟩ = some (vI vK (D i)) ∧ w.cell? ⟨bk, off + i * 6 + 2, none⟩ = some (vI vK (S i))
  ∧ w.cell? ⟨bk, off + i * 6 + 3, none⟩ = some (.bool (R i)) ∧ w.cell? ⟨bk, off + i * 6 + 4, none⟩ = some (vI vK (O i)) ∧ w.cell? ⟨bk, off + i * 6 + 5, none⟩ = some (vI vK (N i))
theorem z33.later {w wr : World} {bk off len : Nat} {C D S : Nat → Int} {R : Nat → Bool} {O N : Nat → Int} (h : z33 w bk off len C D S R O N) (hb : Below w.heap.size w wr) (hbk : bk < w.heap.size) : z33 wr bk off len C D S R O N := by
 intro i hi
 obtain ⟨a, b, c, d, e, f⟩ := h i hi
 exact ⟨(hb.cell (p := ⟨bk, _, none⟩) hbk).trans a, (hb.cell (p := ⟨bk, _, none⟩) hbk).trans b, (hb.cell (p := ⟨bk, _, none⟩) hbk).trans c, (hb.cell (p := ⟨bk, _, none⟩) hbk).trans d, (hb.cell (p := ⟨bk, _, none⟩) hbk).trans e, (hb.cell (p := ⟨bk, _, none⟩) hbk).trans f⟩
def z0r (len : Nat) (C D S : Nat → Int) (R : Nat → Bool) (O N : Nat → Int) (i : Nat) : Int := z3s (C i) (D i) (S i) (R i) (O i) (N i) ((len : Int) - 1 - i)

theorem zAw (a : Option Addr) (len cap : Nat) (h : len < 1 ∨ 200 < len) (w : World) :
  Calls Tryz.prog 12 #[.slice a len cap] w fun e w' => e = .returned (.iface 25 (vI vK 4)) ∧ w' = w := by
 rcases h with h | h
 ·obtain rfl : len = 0 := by omega
  go_enter Tryz.func12, Tryz.ntmps12
  go_wp2
  go_ret
  exact ⟨rfl, rfl⟩
 ·have z0 : decide ((len : Int) < 1) = false := by simp; omega
  have z1 : decide (200 < (len : Int)) = true := by simp; omega
  go_enter Tryz.func12, Tryz.ntmps12
  go_wp2
  go_ret
  exact ⟨rfl, rfl⟩

theorem z6o (bk off len cap : Nat) (C D S O N : Nat → Int) (R : Nat → Bool) (w : World) (h1 : 1 ≤ len) (h2 : len ≤ 200) (hbk : bk < w.heap.size) (hst : z33 w bk off len C D S R O N) :
    Calls Tryz.prog 12 #[.slice (some ⟨bk, off, none⟩) len cap] w fun e w' => Below w.heap.size w w' ∧
      ((e = .returned .nilIface ∧ ∀ j, j < len → z0r len C D S R O N j = 0) ∨
       (∃ i p, i < len ∧ (∀ j, j < i → z0r len C D S R O N j = 0) ∧ z0r len C D S R O N i ≠ 0 ∧ e = .returned (.iface 69 (.pointer (some ⟨p, 0, none⟩))) ∧ w.heap.size ≤ p
          ∧ w'.cell? ⟨p, 0, none⟩ = some (vI vK (z0r len C D S R O N i)) ∧ w'.cell? ⟨p, 1, none⟩ = some (vI vK i))) := by
  have z0 : decide ((len : Int) < 1) = false := by simp; omega
  have z1 : decide (200 < (len : Int)) = false := by simp; omega
  go_enter Tryz.func12, Tryz.ntmps12
  go_wp2
  go_loopw [18] (fun i wr => ∃ k : Nat, k ≤ len ∧ i = vI vK k ∧ Below w.heap.size w wr ∧ ∀ j, j < k → z0r len C D S R O N j = 0) (fun i _ => len - (intOf i).toNat)
  case atStart => exact ⟨0, Nat.zero_le _, rfl, bF _ _, fun j hj => absurd hj (Nat.not_lt_zero _)⟩
  case round =>
    obtain ⟨k, hk, rfl, hb, hno⟩ := hrel
    by_cases hlt : k < len
    · obtain ⟨g0, g1, g2, g3, g4, g5⟩ := hst.later hb hbk k hlt
      have hsz := hb.size
      have HF : Hid (z0r len C D S R O N k = z3s (C k) (D k) (S k) (R k) (O k) (N k) ((len : Int) - 1 - k)) := rfl
      by_cases hw : z3s (C k) (D k) (S k) (R k) (O k) (N k) ((len : Int) - 1 - k) = 0
      · have hw2 : (z3s (C k) (D k) (S k) (R k) (O k) (N k) ((len : Int) - 1 - k) != 0) = false := by simp [hw]
        have HW : Hid (z3s (C k) (D k) (S k) (R k) (O k) (N k) ((len : Int) - 1 - k) = 0) := hw
        clear hw
        go_wp2_with (go_at_call 24; refine (z8o _ _ _ _ _ _ _ _).mono ?_; rintro e w1 ⟨rfl, hb1⟩; obtain ⟨hcl, hfr⟩ := z09 hb1)
        go_roundw
        case rel => exact ⟨k + 1, by omega, by go_num, (hb.alloc hsz _).trans (hb1.mono (by simp; omega)), fun j hj => by
          rcases Nat.lt_succ_iff_lt_or_eq.1 hj with h | h
          · exact hno j h
          · rw [h, HF.out]; exact HW.out⟩
        case measure => simp [intOf]; omega
      · have hw2 : (z3s (C k) (D k) (S k) (R k) (O k) (N k) ((len : Int) - 1 - k) != 0) = true := by simp [hw]
        have HW : Hid (z3s (C k) (D k) (S k) (R k) (O k) (N k) ((len : Int) - 1 - k) ≠ 0) := hw
        clear hw
        go_wp2_with (go_at_call 24; refine (z8o _ _ _ _ _ _ _ _).mono ?_; rintro e w1 ⟨rfl, hb1⟩; obtain ⟨hcl, hfr⟩ := z09 hb1)
        go_ret
        have hb2 : Below w.heap.size w w1 := (hb.alloc hsz _).trans (hb1.mono (by simp; omega))
        refine ⟨hb2.alloc hb2.size _, Or.inr ⟨k, w1.heap.size, hlt, hno, by rw [HF.out]; exact HW.out, rfl, hb2.size, ?_, ?_⟩⟩
        · rw [HF.out, World.cell?_alloc_at _ _ _ _ rfl]; rfl
        · rw [World.cell?_alloc_at _ _ _ _ rfl]; rfl
    · obtain rfl : k = len := by omega
      go_wp2
      go_ret
      exact ⟨hb, Or.inl ⟨rfl, hno⟩⟩

theorem z0j {w wr w1 : World} {Z o : Obj} (hb : Below (w.alloc Z).heap.size (w.alloc Z) wr) (hb1 : Below (wr.alloc o).heap.size (wr.alloc o) w1) : Below (w.alloc Z).heap.size (w.alloc Z) w1 :=
 (hb.alloc hb.size _).trans (hb1.mono (by have := hb.size; simp at *; omega))
theorem z13 {w w1 : World} {t : TypeId} (h : Below (w.alloc (.cells #[vI vK 0, vI vK 0] t)).heap.size (w.alloc (.cells #[vI vK 0, vI vK 0] t)) w1) :
  w1.cell? ⟨w.heap.size, 0, none⟩ = some (vI vK 0) ∧ w1.cell? ⟨w.heap.size, 1, none⟩ = some (vI vK 0) ∧ w1.frozen? ⟨w.heap.size, 0, none⟩ = false ∧ w1.frozen? ⟨w.heap.size, 1, none⟩ = false ∧ w.heap.size < w1.heap.size := by
 have hs := h.size
 refine ⟨?_, ?_, ?_, ?_, by simp at hs; omega⟩
 ·rw [h.cell (p := ⟨w.heap.size, 0, none⟩) (by simp)]; simp
 ·rw [h.cell (p := ⟨w.heap.size, 1, none⟩) (by simp)]; simp
 ·rw [h.frozen (p := ⟨w.heap.size, 0, none⟩) (by simp)]; simp
 ·rw [h.frozen (p := ⟨w.heap.size, 1, none⟩) (by simp)]; simp
theorem z2z {w w1 : World} {Z : Obj} (h : Below (w.alloc Z).heap.size (w.alloc Z) w1) : Below w.heap.size w w1 :=
 ((bF _ _).alloc (Nat.le_refl _) Z).trans (h.mono (by simp))

theorem z1m {f : Nat → Int} {k : Nat} (h : ∀ j, j < k → f j = 0) (hk : f k = 0) (j : Nat) (hj : j < k + 1) : f j = 0 := by
 rcases Nat.lt_succ_iff_lt_or_eq.1 hj with g | g
 ·exact h j g
 ·rw [g]; exact hk
theorem zBq (x : Int) (w : World) :
  Calls Tryz.prog 11 #[vI vK x] w fun e w' => e = .returned (.agg #[vI vK x, vI vK (-1)]) ∧ Below w.heap.size w w' := by
 go_enter Tryz.func11, Tryz.ntmps11
 go_wp2
 exact bodyPost_ret (v := .agg #[vI vK x, vI vK (-1)]) (by simp [results, Tryz.results11, go_sem]) rfl ⟨rfl, (bF _ _).alloc (Nat.le_refl _) _⟩
theorem z9g (a : Option Addr) (len cap : Nat) (h : len < 1 ∨ 200 < len) (w : World) :
  Calls Tryz.prog 7 #[.slice a len cap] w fun e w' => e = .returned (.agg #[vI vK 4, vI vK (-1)]) ∧ Below w.heap.size w w' := by
 rcases h with h | h
 ·obtain rfl : len = 0 := by omega
  go_enter Tryz.func7, Tryz.ntmps7
  go_wp2_with (first | (go_at_call 11; refine (zBq _ _).mono ?_; rintro e w1 ⟨rfl, hb1⟩; obtain ⟨q0, q1, q2, q3, q4⟩ := z13 hb1) | go_in)
  exact bodyPost_ret (v := .agg #[vI vK 4, vI vK (-1)]) (by simp [results, Tryz.results7, go_sem, q0, q1]) rfl ⟨rfl, ((z2z hb1).setCell (Nat.le_refl _) _).setCell (Nat.le_refl _) _⟩
 ·have z0 : decide (1 ≤ (len : Int)) = true := by simp; omega
  have z1 : decide ((len : Int) ≤ 200) = false := by simp; omega
  go_enter Tryz.func7, Tryz.ntmps7
  go_wp2_with (first | (go_at_call 11; refine (zBq _ _).mono ?_; rintro e w1 ⟨rfl, hb1⟩; obtain ⟨q0, q1, q2, q3, q4⟩ := z13 hb1) | go_in)
  exact bodyPost_ret (v := .agg #[vI vK 4, vI vK (-1)]) (by simp [results, Tryz.results7, go_sem, q0, q1]) rfl ⟨rfl, ((z2z hb1).setCell (Nat.le_refl _) _).setCell (Nat.le_refl _) _⟩
section
variable {len : Nat} {C D S : Nat → Int} {R : Nat → Bool} {O N : Nat → Int} {k : Nat}
theorem zFk (h : z1i (C k) (D k) (S k) (R k) (O k) (N k) ≠ 0) : z0r len C D S R O N k = z1i (C k) (D k) (S k) (R k) (O k) (N k) := z38 rfl h
theorem z5v (h : z1i (C k) (D k) (S k) (R k) (O k) (N k) = 0) (h1 : C k = 14 ∨ (15 ≤ C k ∧ C k ≤ 24)) (h2 : O k < 0 ∨ (len : Int) - 2 - k < O k) : z0r len C D S R O N k = 10 := by
 unfold z0r; rw [z41 h, if_pos ⟨h1, by omega⟩]
theorem z5w (h : z1i (C k) (D k) (S k) (R k) (O k) (N k) = 0) (h1 : ¬ (C k = 14 ∨ (15 ≤ C k ∧ C k ≤ 24)) ∨ (0 ≤ O k ∧ O k ≤ (len : Int) - 2 - k)) (h2 : (k : Int) = len - 1) (h3 : C k ≠ 28) : z0r len C D S R O N k = 8 := by
 unfold z0r; rw [z41 h, if_neg (by omega), if_pos ⟨by omega, h3⟩]
theorem z3e (h : z1i (C k) (D k) (S k) (R k) (O k) (N k) = 0) (h1 : ¬ (C k = 14 ∨ (15 ≤ C k ∧ C k ≤ 24)) ∨ (0 ≤ O k ∧ O k ≤ (len : Int) - 2 - k)) (h2 : (k : Int) ≠ len - 1 ∨ C k = 28) : z0r len C D S R O N k = 0 := by
 unfold z0r; rw [z41 h, if_neg (by omega), if_neg (by omega)]
end
theorem z62 (bk off len cap : Nat) (C D S O N : Nat → Int) (R : Nat → Bool) (w : World) (h1 : 1 ≤ len) (h2 : len ≤ 200) (hbk : bk < w.heap.size) (hst : z33 w bk off len C D S R O N) :
    Calls Tryz.prog 7 #[.slice (some ⟨bk, off, none⟩) len cap] w fun e w' => Below w.heap.size w w' ∧
      ((e = .returned (.agg #[vI vK 0, vI vK (-1)]) ∧ ∀ j, j < len → z0r len C D S R O N j = 0) ∨
       (∃ i, i < len ∧ (∀ j, j < i → z0r len C D S R O N j = 0) ∧ z0r len C D S R O N i ≠ 0 ∧ e = .returned (.agg #[vI vK (z0r len C D S R O N i), vI vK i]))) := by
  have z0 : decide (1 ≤ (len : Int)) = true := by simp; omega
  have z1 : decide ((len : Int) ≤ 200) = true := by simp; omega
  go_enter Tryz.func7, Tryz.ntmps7
  go_wp2
  go_loopw [14] (fun i wr => ∃ k : Nat, k ≤ len ∧ i = vI vK k ∧ Below (w.alloc (.cells #[vI vK 0, vI vK 0] 27)).heap.size (w.alloc (.cells #[vI vK 0, vI vK 0] 27)) wr ∧ ∀ j, j < k → z0r len C D S R O N j = 0) (fun i _ => len - (intOf i).toNat)
  case atStart => exact ⟨0, Nat.zero_le _, rfl, bF _ _, fun j hj => absurd hj (Nat.not_lt_zero _)⟩
  case round =>
    obtain ⟨k, hk, rfl, hb, hno⟩ := hrel
    have hbw := z2z hb
    by_cases hlt : k < len
    · obtain ⟨g0, g1, g2, g3, g4, g5⟩ := hst.later hbw hbk k hlt
      have hsz := hbw.size
      by_cases hal : z1i (C k) (D k) (S k) (R k) (O k) (N k) = 0
      · have hw2 : (z1i (C k) (D k) (S k) (R k) (O k) (N k) != 0) = false := by simp [hal]
        have HA : Hid (z1i (C k) (D k) (S k) (R k) (O k) (N k) = 0) := hal
        clear hal
        by_cases h14 : C k = 14
        · have e14 : (C k == 14) = true := by simp [h14]
          have HL : Hid (C k = 14 ∨ (15 ≤ C k ∧ C k ≤ 24)) := Or.inl h14
          clear h14
          by_cases ho : O k < 0
          · have x1 : decide (O k < 0) = true := by simpa using ho
            have HN : Hid (z0r len C D S R O N k = 10) := z5v HA.out HL.out (Or.inl ho)
            go_wp2_with (first | (go_at_call 17; refine (z14 _ _ _ _ _ _ _).mono ?_; rintro e w1 ⟨rfl, hb1⟩; obtain ⟨hcl, hfr⟩ := z09 hb1; obtain ⟨q0, q1, q2, q3, q4⟩ := z13 (z0j hb hb1)) | go_in)
            refine bodyPost_ret (v := .agg #[vI vK 10, vI vK k]) (by simp [results, Tryz.results7, go_sem, q0, q1]) rfl ⟨((z2z (z0j hb hb1)).setCell (Nat.le_refl _) _).setCell (Nat.le_refl _) _, Or.inr ⟨k, hlt, hno, ?_, ?_⟩⟩
            · rw [HN.out]; decide
            · rw [HN.out]
          · have x1 : decide (O k < 0) = false := by simpa using ho
            by_cases ho2 : (len : Int) - 2 - k < O k
            · have x2 : decide ((len : Int) - 2 - k < O k) = true := by simpa using ho2
              have HN : Hid (z0r len C D S R O N k = 10) := z5v HA.out HL.out (Or.inr ho2)
              go_wp2_with (first | (go_at_call 17; refine (z14 _ _ _ _ _ _ _).mono ?_; rintro e w1 ⟨rfl, hb1⟩; obtain ⟨hcl, hfr⟩ := z09 hb1; obtain ⟨q0, q1, q2, q3, q4⟩ := z13 (z0j hb hb1)) | go_in)
              refine bodyPost_ret (v := .agg #[vI vK 10, vI vK k]) (by simp [results, Tryz.results7, go_sem, q0, q1]) rfl ⟨((z2z (z0j hb hb1)).setCell (Nat.le_refl _) _).setCell (Nat.le_refl _) _, Or.inr ⟨k, hlt, hno, ?_, ?_⟩⟩
              · rw [HN.out]; decide
              · rw [HN.out]
            · have x2 : decide ((len : Int) - 2 - k < O k) = false := by simpa using ho2
              have HO : Hid (0 ≤ O k ∧ O k ≤ (len : Int) - 2 - k) := ⟨by omega, by omega⟩
              clear ho ho2
              by_cases hl : (k : Int) = len - 1
              · have y1 : ((k : Int) == (len : Int) - 1) = true := by simp [hl]
                by_cases h28 : C k = 28
                · have y2 : (C k != 28) = false := by simp [h28]
                  have HN : Hid (z0r len C D S R O N k = 0) := z3e HA.out (Or.inr HO.out) (Or.inr h28)
                  clear hl h28
                  go_wp2_with (first | (go_at_call 17; refine (z14 _ _ _ _ _ _ _).mono ?_; rintro e w1 ⟨rfl, hb1⟩; obtain ⟨hcl, hfr⟩ := z09 hb1; obtain ⟨q0, q1, q2, q3, q4⟩ := z13 (z0j hb hb1)) | go_in)
                  go_roundw
                  case rel => first | exact ⟨k + 1, by omega, by go_num, z0j hb hb1, z1m hno HN.out⟩ | ((repeat apply Exists.intro); exact ⟨⟨k + 1, by omega, by go_num, z0j hb hb1, z1m hno HN.out⟩, rfl⟩)
                  case measure => simp [intOf]; omega
                · have y2 : (C k != 28) = true := by simp [h28]
                  have HN : Hid (z0r len C D S R O N k = 8) := z5w HA.out (Or.inr HO.out) hl h28
                  clear hl h28
                  go_wp2_with (first | (go_at_call 17; refine (z14 _ _ _ _ _ _ _).mono ?_; rintro e w1 ⟨rfl, hb1⟩; obtain ⟨hcl, hfr⟩ := z09 hb1; obtain ⟨q0, q1, q2, q3, q4⟩ := z13 (z0j hb hb1)) | go_in)
                  refine bodyPost_ret (v := .agg #[vI vK 8, vI vK k]) (by simp [results, Tryz.results7, go_sem, q0, q1]) rfl ⟨((z2z (z0j hb hb1)).setCell (Nat.le_refl _) _).setCell (Nat.le_refl _) _, Or.inr ⟨k, hlt, hno, ?_, ?_⟩⟩
                  · rw [HN.out]; decide
                  · rw [HN.out]
              · have y1 : ((k : Int) == (len : Int) - 1) = false := by simp [hl]
                have HN : Hid (z0r len C D S R O N k = 0) := z3e HA.out (Or.inr HO.out) (Or.inl hl)
                clear hl
                go_wp2_with (first | (go_at_call 17; refine (z14 _ _ _ _ _ _ _).mono ?_; rintro e w1 ⟨rfl, hb1⟩; obtain ⟨hcl, hfr⟩ := z09 hb1; obtain ⟨q0, q1, q2, q3, q4⟩ := z13 (z0j hb hb1)) | go_in)
                go_roundw
                case rel => first | exact ⟨k + 1, by omega, by go_num, z0j hb hb1, z1m hno HN.out⟩ | ((repeat apply Exists.intro); exact ⟨⟨k + 1, by omega, by go_num, z0j hb hb1, z1m hno HN.out⟩, rfl⟩)
                case measure => simp [intOf]; omega
        · have e14 : (C k == 14) = false := by simp [h14]
          by_cases h15 : 15 ≤ C k
          · have e15 : decide (15 ≤ C k) = true := by simpa using h15
            by_cases h24 : C k ≤ 24
            · have e24 : decide (C k ≤ 24) = true := by simpa using h24
              have HL : Hid (C k = 14 ∨ (15 ≤ C k ∧ C k ≤ 24)) := Or.inr ⟨h15, h24⟩
              clear h14 h15 h24
              by_cases ho : O k < 0
              · have x1 : decide (O k < 0) = true := by simpa using ho
                have HN : Hid (z0r len C D S R O N k = 10) := z5v HA.out HL.out (Or.inl ho)
                go_wp2_with (first | (go_at_call 17; refine (z14 _ _ _ _ _ _ _).mono ?_; rintro e w1 ⟨rfl, hb1⟩; obtain ⟨hcl, hfr⟩ := z09 hb1; obtain ⟨q0, q1, q2, q3, q4⟩ := z13 (z0j hb hb1)) | go_in)
                refine bodyPost_ret (v := .agg #[vI vK 10, vI vK k]) (by simp [results, Tryz.results7, go_sem, q0, q1]) rfl ⟨((z2z (z0j hb hb1)).setCell (Nat.le_refl _) _).setCell (Nat.le_refl _) _, Or.inr ⟨k, hlt, hno, ?_, ?_⟩⟩
                · rw [HN.out]; decide
                · rw [HN.out]
              · have x1 : decide (O k < 0) = false := by simpa using ho
                by_cases ho2 : (len : Int) - 2 - k < O k
                · have x2 : decide ((len : Int) - 2 - k < O k) = true := by simpa using ho2
                  have HN : Hid (z0r len C D S R O N k = 10) := z5v HA.out HL.out (Or.inr ho2)
                  go_wp2_with (first | (go_at_call 17; refine (z14 _ _ _ _ _ _ _).mono ?_; rintro e w1 ⟨rfl, hb1⟩; obtain ⟨hcl, hfr⟩ := z09 hb1; obtain ⟨q0, q1, q2, q3, q4⟩ := z13 (z0j hb hb1)) | go_in)
                  refine bodyPost_ret (v := .agg #[vI vK 10, vI vK k]) (by simp [results, Tryz.results7, go_sem, q0, q1]) rfl ⟨((z2z (z0j hb hb1)).setCell (Nat.le_refl _) _).setCell (Nat.le_refl _) _, Or.inr ⟨k, hlt, hno, ?_, ?_⟩⟩
                  · rw [HN.out]; decide
                  · rw [HN.out]
                · have x2 : decide ((len : Int) - 2 - k < O k) = false := by simpa using ho2
                  have HO : Hid (0 ≤ O k ∧ O k ≤ (len : Int) - 2 - k) := ⟨by omega, by omega⟩
                  clear ho ho2
                  by_cases hl : (k : Int) = len - 1
                  · have y1 : ((k : Int) == (len : Int) - 1) = true := by simp [hl]
                    by_cases h28 : C k = 28
                    · have y2 : (C k != 28) = false := by simp [h28]
                      have HN : Hid (z0r len C D S R O N k = 0) := z3e HA.out (Or.inr HO.out) (Or.inr h28)
                      clear hl h28
                      go_wp2_with (first | (go_at_call 17; refine (z14 _ _ _ _ _ _ _).mono ?_; rintro e w1 ⟨rfl, hb1⟩; obtain ⟨hcl, hfr⟩ := z09 hb1; obtain ⟨q0, q1, q2, q3, q4⟩ := z13 (z0j hb hb1)) | go_in)
                      go_roundw
                      case rel => first | exact ⟨k + 1, by omega, by go_num, z0j hb hb1, z1m hno HN.out⟩ | ((repeat apply Exists.intro); exact ⟨⟨k + 1, by omega, by go_num, z0j hb hb1, z1m hno HN.out⟩, rfl⟩)
                      case measure => simp [intOf]; omega
                    · have y2 : (C k != 28) = true := by simp [h28]
                      have HN : Hid (z0r len C D S R O N k = 8) := z5w HA.out (Or.inr HO.out) hl h28
                      clear hl h28
                      go_wp2_with (first | (go_at_call 17; refine (z14 _ _ _ _ _ _ _).mono ?_; rintro e w1 ⟨rfl, hb1⟩; obtain ⟨hcl, hfr⟩ := z09 hb1; obtain ⟨q0, q1, q2, q3, q4⟩ := z13 (z0j hb hb1)) | go_in)
                      refine bodyPost_ret (v := .agg #[vI vK 8, vI vK k]) (by simp [results, Tryz.results7, go_sem, q0, q1]) rfl ⟨((z2z (z0j hb hb1)).setCell (Nat.le_refl _) _).setCell (Nat.le_refl _) _, Or.inr ⟨k, hlt, hno, ?_, ?_⟩⟩
                      · rw [HN.out]; decide
                      · rw [HN.out]
                  · have y1 : ((k : Int) == (len : Int) - 1) = false := by simp [hl]
                    have HN : Hid (z0r len C D S R O N k = 0) := z3e HA.out (Or.inr HO.out) (Or.inl hl)
                    clear hl
                    go_wp2_with (first | (go_at_call 17; refine (z14 _ _ _ _ _ _ _).mono ?_; rintro e w1 ⟨rfl, hb1⟩; obtain ⟨hcl, hfr⟩ := z09 hb1; obtain ⟨q0, q1, q2, q3, q4⟩ := z13 (z0j hb hb1)) | go_in)
                    go_roundw
                    case rel => first | exact ⟨k + 1, by omega, by go_num, z0j hb hb1, z1m hno HN.out⟩ | ((repeat apply Exists.intro); exact ⟨⟨k + 1, by omega, by go_num, z0j hb hb1, z1m hno HN.out⟩, rfl⟩)
                    case measure => simp [intOf]; omega
            · have e24 : decide (C k ≤ 24) = false := by simpa using h24
              have HL : Hid (¬ (C k = 14 ∨ (15 ≤ C k ∧ C k ≤ 24))) := fun h => by omega
              clear h14 h15 h24
              by_cases hl : (k : Int) = len - 1
              · have y1 : ((k : Int) == (len : Int) - 1) = true := by simp [hl]
                by_cases h28 : C k = 28
                · have y2 : (C k != 28) = false := by simp [h28]
                  have HN : Hid (z0r len C D S R O N k = 0) := z3e HA.out (Or.inl HL.out) (Or.inr h28)
                  clear hl h28
                  go_wp2_with (first | (go_at_call 17; refine (z14 _ _ _ _ _ _ _).mono ?_; rintro e w1 ⟨rfl, hb1⟩; obtain ⟨hcl, hfr⟩ := z09 hb1; obtain ⟨q0, q1, q2, q3, q4⟩ := z13 (z0j hb hb1)) | go_in)
                  go_roundw
                  case rel => first | exact ⟨k + 1, by omega, by go_num, z0j hb hb1, z1m hno HN.out⟩ | ((repeat apply Exists.intro); exact ⟨⟨k + 1, by omega, by go_num, z0j hb hb1, z1m hno HN.out⟩, rfl⟩)
                  case measure => simp [intOf]; omega
                · have y2 : (C k != 28) = true := by simp [h28]
                  have HN : Hid (z0r len C D S R O N k = 8) := z5w HA.out (Or.inl HL.out) hl h28
                  clear hl h28
                  go_wp2_with (first | (go_at_call 17; refine (z14 _ _ _ _ _ _ _).mono ?_; rintro e w1 ⟨rfl, hb1⟩; obtain ⟨hcl, hfr⟩ := z09 hb1; obtain ⟨q0, q1, q2, q3, q4⟩ := z13 (z0j hb hb1)) | go_in)
                  refine bodyPost_ret (v := .agg #[vI vK 8, vI vK k]) (by simp [results, Tryz.results7, go_sem, q0, q1]) rfl ⟨((z2z (z0j hb hb1)).setCell (Nat.le_refl _) _).setCell (Nat.le_refl _) _, Or.inr ⟨k, hlt, hno, ?_, ?_⟩⟩
                  · rw [HN.out]; decide
                  · rw [HN.out]
              · have y1 : ((k : Int) == (len : Int) - 1) = false := by simp [hl]
                have HN : Hid (z0r len C D S R O N k = 0) := z3e HA.out (Or.inl HL.out) (Or.inl hl)
                clear hl
                go_wp2_with (first | (go_at_call 17; refine (z14 _ _ _ _ _ _ _).mono ?_; rintro e w1 ⟨rfl, hb1⟩; obtain ⟨hcl, hfr⟩ := z09 hb1; obtain ⟨q0, q1, q2, q3, q4⟩ := z13 (z0j hb hb1)) | go_in)
                go_roundw
                case rel => first | exact ⟨k + 1, by omega, by go_num, z0j hb hb1, z1m hno HN.out⟩ | ((repeat apply Exists.intro); exact ⟨⟨k + 1, by omega, by go_num, z0j hb hb1, z1m hno HN.out⟩, rfl⟩)
                case measure => simp [intOf]; omega
          · have e15 : decide (15 ≤ C k) = false := by simpa using h15
            have HL : Hid (¬ (C k = 14 ∨ (15 ≤ C k ∧ C k ≤ 24))) := fun h => by omega
            clear h14 h15
            by_cases hl : (k : Int) = len - 1
            · have y1 : ((k : Int) == (len : Int) - 1) = true := by simp [hl]
              by_cases h28 : C k = 28
              · have y2 : (C k != 28) = false := by simp [h28]
                have HN : Hid (z0r len C D S R O N k = 0) := z3e HA.out (Or.inl HL.out) (Or.inr h28)
                clear hl h28
                go_wp2_with (first | (go_at_call 17; refine (z14 _ _ _ _ _ _ _).mono ?_; rintro e w1 ⟨rfl, hb1⟩; obtain ⟨hcl, hfr⟩ := z09 hb1; obtain ⟨q0, q1, q2, q3, q4⟩ := z13 (z0j hb hb1)) | go_in)
                go_roundw
                case rel => first | exact ⟨k + 1, by omega, by go_num, z0j hb hb1, z1m hno HN.out⟩ | ((repeat apply Exists.intro); exact ⟨⟨k + 1, by omega, by go_num, z0j hb hb1, z1m hno HN.out⟩, rfl⟩)
                case measure => simp [intOf]; omega
              · have y2 : (C k != 28) = true := by simp [h28]
                have HN : Hid (z0r len C D S R O N k = 8) := z5w HA.out (Or.inl HL.out) hl h28
                clear hl h28
                go_wp2_with (first | (go_at_call 17; refine (z14 _ _ _ _ _ _ _).mono ?_; rintro e w1 ⟨rfl, hb1⟩; obtain ⟨hcl, hfr⟩ := z09 hb1; obtain ⟨q0, q1, q2, q3, q4⟩ := z13 (z0j hb hb1)) | go_in)
                refine bodyPost_ret (v := .agg #[vI vK 8, vI vK k]) (by simp [results, Tryz.results7, go_sem, q0, q1]) rfl ⟨((z2z (z0j hb hb1)).setCell (Nat.le_refl _) _).setCell (Nat.le_refl _) _, Or.inr ⟨k, hlt, hno, ?_, ?_⟩⟩
                · rw [HN.out]; decide
                · rw [HN.out]
            · have y1 : ((k : Int) == (len : Int) - 1) = false := by simp [hl]
              have HN : Hid (z0r len C D S R O N k = 0) := z3e HA.out (Or.inl HL.out) (Or.inl hl)
              clear hl
              go_wp2_with (first | (go_at_call 17; refine (z14 _ _ _ _ _ _ _).mono ?_; rintro e w1 ⟨rfl, hb1⟩; obtain ⟨hcl, hfr⟩ := z09 hb1; obtain ⟨q0, q1, q2, q3, q4⟩ := z13 (z0j hb hb1)) | go_in)
              go_roundw
              case rel => first | exact ⟨k + 1, by omega, by go_num, z0j hb hb1, z1m hno HN.out⟩ | ((repeat apply Exists.intro); exact ⟨⟨k + 1, by omega, by go_num, z0j hb hb1, z1m hno HN.out⟩, rfl⟩)
              case measure => simp [intOf]; omega
      · have hw2 : (z1i (C k) (D k) (S k) (R k) (O k) (N k) != 0) = true := by simp [hal]
        have HA : Hid (z1i (C k) (D k) (S k) (R k) (O k) (N k) ≠ 0) := hal
        have HN : Hid (z0r len C D S R O N k = z1i (C k) (D k) (S k) (R k) (O k) (N k)) := zFk hal
        clear hal
        go_wp2_with (first | (go_at_call 17; refine (z14 _ _ _ _ _ _ _).mono ?_; rintro e w1 ⟨rfl, hb1⟩; obtain ⟨hcl, hfr⟩ := z09 hb1; obtain ⟨q0, q1, q2, q3, q4⟩ := z13 (z0j hb hb1)) | go_in)
        refine bodyPost_ret (v := .agg #[vI vK (z1i (C k) (D k) (S k) (R k) (O k) (N k)), vI vK k]) (by simp [results, Tryz.results7, go_sem, q0, q1]) rfl ⟨((z2z (z0j hb hb1)).setCell (Nat.le_refl _) _).setCell (Nat.le_refl _) _, Or.inr ⟨k, hlt, hno, ?_, ?_⟩⟩
        · rw [HN.out]; exact HA.out
        · rw [HN.out]
    · obtain rfl : k = len := by omega
      go_wp2_with (first | (go_at_call 11; refine (zBq _ _).mono ?_; rintro e w1 ⟨rfl, hb1⟩; obtain ⟨q0, q1, q2, q3, q4⟩ := z13 (hb.trans (hb1.mono hb.size))) | go_in)
      exact bodyPost_ret (v := .agg #[vI vK 0, vI vK (-1)]) (by simp [results, Tryz.results7, go_sem, q0, q1]) rfl ⟨((z2z (hb.trans (hb1.mono hb.size))).setCell (Nat.le_refl _) _).setCell (Nat.le_refl _) _, Or.inl ⟨rfl, hno⟩⟩
end Go.Proofs.YteenhdoaminkeaaGreatDoor
namespace Go.Proofs.YteenhdoaminkeaaGreatDoor
open Go.ChangeShapes Go.WideShapes Go.ChangeAt Go.RowKit

theorem first_fault (f : Nat → Int) : ∀ len : Nat, (∀ j, j < len → f j = 0) ∨ ∃ i, i < len ∧ (∀ j, j < i → f j = 0) ∧ f i ≠ 0
 | 0 => Or.inl fun j hj => absurd hj (Nat.not_lt_zero _)
 | n + 1 => by
  rcases first_fault f n with h | ⟨i, hi, hno, hf⟩
  ·by_cases hn : f n = 0
   ·exact Or.inl (z1m h hn)
   ·exact Or.inr ⟨n, Nat.lt_succ_self n, h, hn⟩
  ·exact Or.inr ⟨i, Nat.lt_succ_of_lt hi, hno, hf⟩
theorem z9x {f : Nat → Int} {i k : Nat} (hi : ∀ j, j < i → f j = 0) (hf : f i ≠ 0) (hk : ∀ j, j < k → f j = 0) (hg : f k ≠ 0) : k = i := by
 rcases Nat.lt_trichotomy k i with h | h | h
 ·exact absurd (hi k h) hg
 ·exact h
 ·exact absurd (hk i h) hf

section
variable {bk off len cap : Nat} {C D S O N : Nat → Int} {R : Nat → Bool} {w : World} (h1 : 1 ≤ len) (h2 : len ≤ 200) (hbk : bk < w.heap.size) (hst : z33 w bk off len C D S R O N)
theorem zCi (h : ∀ j, j < len → z0r len C D S R O N j = 0) (hst : z33 w bk off len C D S R O N) (h1 : 1 ≤ len) (h2 : len ≤ 200) (hbk : bk < w.heap.size) :
  Calls Tryz.prog 12 #[.slice (some ⟨bk, off, none⟩) len cap] w fun e w' => e = .returned .nilIface ∧ Below w.heap.size w w' := by
 refine (z6o bk off len cap C D S O N R w h1 h2 hbk hst).mono fun e w' hh => ?_
 obtain ⟨hb, hh⟩ := hh
 rcases hh with ⟨he, _⟩ | ⟨i, p, hi, _, hf, _⟩
 ·exact ⟨he, hb⟩
 ·exact absurd (h i hi) hf
theorem zAu (h : ∀ j, j < len → z0r len C D S R O N j = 0) (hst : z33 w bk off len C D S R O N) (h1 : 1 ≤ len) (h2 : len ≤ 200) (hbk : bk < w.heap.size) :
  Calls Tryz.prog 7 #[.slice (some ⟨bk, off, none⟩) len cap] w fun e w' => e = .returned (.agg #[vI vK 0, vI vK (-1)]) ∧ Below w.heap.size w w' := by
 refine (z62 bk off len cap C D S O N R w h1 h2 hbk hst).mono fun e w' hh => ?_
 obtain ⟨hb, hh⟩ := hh
 rcases hh with ⟨he, _⟩ | ⟨i, hi, _, hf, _⟩
 ·exact ⟨he, hb⟩
 ·exact absurd (h i hi) hf
theorem zCf {i : Nat} (hi : i < len) (hno : ∀ j, j < i → z0r len C D S R O N j = 0) (hf : z0r len C D S R O N i ≠ 0) (hst : z33 w bk off len C D S R O N) (h1 : 1 ≤ len) (h2 : len ≤ 200) (hbk : bk < w.heap.size) :
  Calls Tryz.prog 7 #[.slice (some ⟨bk, off, none⟩) len cap] w fun e w' => e = .returned (.agg #[vI vK (z0r len C D S R O N i), vI vK i]) ∧ Below w.heap.size w w' := by
 refine (z62 bk off len cap C D S O N R w h1 h2 hbk hst).mono fun e w' hh => ?_
 obtain ⟨hb, hh⟩ := hh
 rcases hh with ⟨_, h⟩ | ⟨k, hk, hno', hf', he⟩
 ·exact absurd (h i hi) hf
 ·obtain rfl := z9x hno hf hno' hf'
  exact ⟨he, hb⟩
end
end Go.Proofs.YteenhdoaminkeaaGreatDoor
namespace Go.Proofs.YteenhdoaminkeaaGreatDoor
open Go.RowKit
structure z9q (c d s : Int) (r : Bool) (o n : Int) (len k : Nat) : Prop where
 c1 : 1 ≤ c
 c2 : c ≤ 28
 d1 : 0 ≤ d
 d2 : d ≤ 10
 s1 : 0 ≤ s
 s2 : s ≤ 10
 call : c = 27 → n = 1 ∨ n = 2 ∨ n = 3
 exit : c = 28 → d = 0
 lead : (c = 14 ∨ (15 ≤ c ∧ c ≤ 24)) → 0 ≤ o ∧ o < (len : Int) - 1 - k
 last : c ≠ 28 → (k : Int) + 1 ≠ len
theorem zAi {len : Nat} {C D S : Nat → Int} {R : Nat → Bool} {O N : Nat → Int} {k : Nat} (h : z0r len C D S R O N k = 0) : z9q (C k) (D k) (S k) (R k) (O k) (N k) len k := by
 unfold z0r z3s at h
 have ha : z1i (C k) (D k) (S k) (R k) (O k) (N k) = 0 := by
  by_cases e : z1i (C k) (D k) (S k) (R k) (O k) (N k) = 0
  ·exact e
  ·rw [if_pos e] at h; exact h
 rw [if_neg (by simp [ha])] at h
 have hl : ¬ ((C k = 14 ∨ (15 ≤ C k ∧ C k ≤ 24)) ∧ (O k < 0 ∨ (len : Int) - 1 - k ≤ O k)) := by
  intro e; rw [if_pos e] at h; exact absurd h (by decide)
 rw [if_neg hl] at h
 have he : ¬ ((len : Int) - 1 - k = 0 ∧ C k ≠ 28) := by
  intro e; rw [if_pos e] at h; exact absurd h (by decide)
 unfold z1i at ha
 have a1 : ¬ (C k < 1 ∨ 28 < C k) := by
  intro e; rw [if_pos e] at ha; exact absurd ha (by decide)
 rw [if_neg a1] at ha
 have a2 : ¬ (D k < 0 ∨ 10 < D k ∨ S k < 0 ∨ 10 < S k) := by
  intro e; rw [if_pos e] at ha; exact absurd ha (by decide)
 rw [if_neg a2] at ha
 have a3 : ¬ (((1 ≤ C k ∧ C k ≤ 13) ∨ C k = 25) ∧ D k = 10) := by
  intro e; rw [if_pos e] at ha; exact absurd ha (by decide)
 rw [if_neg a3] at ha
 have a4 : ¬ (moreV (C k) (D k) (S k) (R k) (O k) (N k) = true ∨ (C k = 27 ∧ N k ≠ 1 ∧ N k ≠ 2 ∧ N k ≠ 3)) := by
  intro e; rw [if_pos e] at ha; exact absurd ha (by decide)
 refine ⟨by omega, by omega, by omega, by omega, by omega, by omega, fun e => ?_, fun e => ?_, fun e => ?_, fun e => by omega⟩
 ·by_cases n1 : N k = 1
  ·exact Or.inl n1
  by_cases n2 : N k = 2
  ·exact Or.inr (Or.inl n2)
  by_cases n3 : N k = 3
  ·exact Or.inr (Or.inr n3)
  exact absurd (Or.inr ⟨e, n1, n2, n3⟩) a4
 ·by_cases hd : D k = 0
  ·exact hd
  ·refine absurd (Or.inl ?_) a4
   unfold moreV
   rw [if_neg (by omega), if_neg (by omega), if_neg (by omega), if_neg (by omega), if_neg (by omega), if_neg (by omega), if_neg (by omega)]
   simp [hd]
 ·by_cases e1 : O k < 0 ∨ (len : Int) - 1 - k ≤ O k
  ·exact absurd ⟨e, e1⟩ hl
  ·omega
def Way.look (y : Way) (c : Int) (d s : Nat) (r : Bool) (o n : Int) : List (Int × Way) × Int :=
 if 15 ≤ c ∧ c ≤ 24 then y.ask c d s r o n
 else if c = 14 then ([(o, y)], 0)
 else if c = 28 then ([], z0f (y.reg 0))
 else if c = 25 then (if (y.load d s o).1 = 0 then ([(0, (y.load d s o).2)], 0) else ([], (y.load d s o).1))
 else if c = 26 then (if (y.store (y.reg d) (y.second s r n) o).1 = 0 then ([(0, (y.store (y.reg d) (y.second s r n) o).2)], 0) else ([], (y.store (y.reg d) (y.second s r n) o).1))
 else if c = 27 then (if (y.call n).1 = 0 then ([(0, (y.call n).2)], 0) else ([], (y.call n).1))
 else (if (y.change c d s r n).1 = 0 then ([(0, (y.change c d s r n).2)], 0) else ([], (y.change c d s r n).1))
theorem zP6 {y : Way} {a : Abs} {c d s : Int} {r : Bool} {o n : Int} (hk : y.Ok) (ha : a.Ok) (hy : y.Has a) (hc : 1 ≤ c ∧ c ≤ 27) (hd : d.toNat < 11) (hs : s.toNat < 11) (ho : In64 o) (hn : In64 n) (hw : c = 27 → n = 1 ∨ n = 2 ∨ n = 3)
  (h : (y.look c d.toNat s.toNat r o n).2 = 0) : (doF c d s r o n a).2.1 = 0 ∧ ∃ y', ((doF c d s r o n a).1, y') ∈ (y.look c d.toNat s.toNat r o n).1 ∧ y'.Has (doF c d s r o n a).2.2 := by
 unfold Way.look at h ⊢
 unfold doF
 by_cases c1 : 15 ≤ c ∧ c ≤ 24
 ·rw [if_pos c1] at h ⊢
  rw [if_pos c1]
  exact zU8 hk hy c1 hd hs hn h
 rw [if_neg c1] at h ⊢
 rw [if_neg c1]
 by_cases c2 : c = 14
 ·rw [if_pos c2, if_pos c2]
  exact ⟨rfl, y, List.mem_singleton.mpr rfl, hy⟩
 rw [if_neg c2] at h ⊢
 rw [if_neg c2]
 rw [if_neg (show ¬ c = 28 by omega)] at h ⊢
 by_cases c3 : c = 25
 ·rw [if_pos c3] at h ⊢
  rw [if_pos c3]
  by_cases z : (y.load d.toNat s.toNat o).1 = 0
  ·rw [if_pos z]
   obtain ⟨g1, g2⟩ := zP8 hk ha hy hs ho z
   exact ⟨g1, _, List.mem_singleton.mpr rfl, g2⟩
  ·rw [if_neg z] at h; exact absurd h z
 rw [if_neg c3] at h ⊢
 rw [if_neg c3]
 by_cases c4 : c = 26
 ·rw [if_pos c4] at h ⊢
  rw [if_pos c4]
  by_cases z : (y.store (y.reg d.toNat) (y.second s.toNat r n) o).1 = 0
  ·rw [if_pos z]
   obtain ⟨g1, g2⟩ := zJi hy (hk.reg _ hd) (z2u hk hs hn) (hy.reg _ hd) (hy.second hs) ho z
   exact ⟨g1, _, List.mem_singleton.mpr rfl, g2⟩
  ·rw [if_neg z] at h; exact absurd h z
 rw [if_neg c4] at h ⊢
 rw [if_neg c4]
 by_cases c5 : c = 27
 ·rw [if_pos c5] at h ⊢
  rw [if_pos c5]
  by_cases z : (y.call n).1 = 0
  ·rw [if_pos z]
   obtain ⟨g1, g2⟩ := zPw ha hy (hw c5) z
   exact ⟨g1, _, List.mem_singleton.mpr rfl, g2⟩
  ·rw [if_neg z] at h; exact absurd h z
 rw [if_neg c5] at h ⊢
 rw [if_neg c5]
 by_cases z : (y.change c d.toNat s.toNat r n).1 = 0
 ·rw [if_pos z]
  obtain ⟨g1, g2⟩ := zIq hk hy ⟨by omega, by omega⟩ hd hs hn z
  exact ⟨g1, _, List.mem_singleton.mpr rfl, g2⟩
 ·rw [if_neg z] at h; exact absurd h z
def goF (C D S : Nat → Int) (R : Nat → Bool) (O N : Nat → Int) : Nat → List (Nat × Way) → List Kno → (Int × Nat) ⊕ List Kno
 | _, [], ends => .inr ends
 | 0, x :: _, _ => .inl (4, x.1)
 | f + 1, x :: st, ends =>
  if (x.2.look (C x.1) (D x.1).toNat (S x.1).toNat (R x.1) (O x.1) (N x.1)).2 ≠ 0 then .inl ((x.2.look (C x.1) (D x.1).toNat (S x.1).toNat (R x.1) (O x.1) (N x.1)).2, x.1)
  else goF C D S R O N f ((x.2.look (C x.1) (D x.1).toNat (S x.1).toNat (R x.1) (O x.1) (N x.1)).1.map (fun z => (x.1 + 1 + z.1.toNat, z.2)) ++ st) (if C x.1 = 28 then ends ++ [x.2.reg 0] else ends)
theorem zQc {y : Way} {c : Int} {d s : Nat} {r : Bool} {o n : Int} : ∀ z, z ∈ (y.ask c d s r o n).1 → z.1 = 0 ∨ z.1 = o := by
 intro z hz
 unfold Way.ask at hz
 split at hz
 ·exact absurd hz (by simp)
 split at hz
 ·unfold Way.askNumbers at hz
  rcases List.mem_append.mp hz with hz | hz
  ·split at hz
   ·rw [List.mem_singleton.mp hz]; exact Or.inl rfl
   ·exact absurd hz (by simp)
  ·split at hz
   ·rw [List.mem_singleton.mp hz]; exact Or.inr rfl
   ·exact absurd hz (by simp)
 split at hz
 ·exact absurd hz (by simp)
 ·unfold Way.askPlace at hz
  split at hz
  ·rw [List.mem_singleton.mp hz]
   by_cases e : c = 16
   ·exact Or.inr (if_pos e)
   ·exact Or.inl (if_neg e)
  ·rcases List.mem_cons.mp hz with hz | hz
   ·rw [hz]
    by_cases e : c = 16
    ·exact Or.inl (if_pos e)
    ·exact Or.inr (if_neg e)
   ·rw [List.mem_singleton.mp hz]
    by_cases e : c = 16
    ·exact Or.inr (if_pos e)
    ·exact Or.inl (if_neg e)
theorem zCo {y : Way} {c : Int} {d s : Nat} {r : Bool} {o n : Int} : ∀ z, z ∈ (y.look c d s r o n).1 → c ≠ 28 ∧ (z.1 = 0 ∨ (z.1 = o ∧ (c = 14 ∨ (15 ≤ c ∧ c ≤ 24)))) := by
 intro z hz
 unfold Way.look at hz
 by_cases c1 : 15 ≤ c ∧ c ≤ 24
 ·rw [if_pos c1] at hz
  exact ⟨by omega, (zQc z hz).elim Or.inl fun e => Or.inr ⟨e, Or.inr c1⟩⟩
 rw [if_neg c1] at hz
 by_cases c2 : c = 14
 ·rw [if_pos c2] at hz
  rw [List.mem_singleton.mp hz]
  exact ⟨by omega, Or.inr ⟨rfl, Or.inl c2⟩⟩
 rw [if_neg c2] at hz
 by_cases c3 : c = 28
 ·rw [if_pos c3] at hz; exact absurd hz (by simp)
 rw [if_neg c3] at hz
 refine ⟨c3, Or.inl ?_⟩
 split at hz
 ·split at hz
  ·rw [List.mem_singleton.mp hz]
  ·exact absurd hz (by simp)
 split at hz
 ·split at hz
  ·rw [List.mem_singleton.mp hz]
  ·exact absurd hz (by simp)
 split at hz
 ·split at hz
  ·rw [List.mem_singleton.mp hz]
  ·exact absurd hz (by simp)
 ·split at hz
  ·rw [List.mem_singleton.mp hz]
  ·exact absurd hz (by simp)
end Go.Proofs.YteenhdoaminkeaaGreatDoor
