/-
  Words that are read: a number is read where it stands as it would be written, and then it is that number; likewise a register and a place. Conditions: none.
-/
import Derived.Test.YtegeiicginpdbaaGreatDoorWords
import Derived.Lib.ParseIntB
import Derived.Shelf.Strconv.ParseIntPublic10
namespace Go.Proofs.YtegeiicginpdbaaGreatDoor
open Go.ChangeShapes Go.WideShapes Go.ChangeAt Go.RowKit

/-! ### Numbers -/
theorem digit_toNat {d : Nat} (h : d < 10) : (UInt8.ofNat (48 + d)).toNat = 48 + d := by
  rw [UInt8.toNat_ofNat']
  omega
theorem parse_digits : ∀ (u : Nat) (r : List UInt8), u ≤ 9223372036854775808 → Lib.parseUintM 18446744073709551615 0 (Lib.decDigits u ++ r) = Lib.parseUintM 18446744073709551615 u r := by
  intro u
  induction u using Nat.strongRecOn with
  | _ u ih =>
    intro r hu
    by_cases h : u < 10
    · rw [Lib.decDigits, dif_pos h, List.singleton_append, Lib.parseUintM, digit_toNat h]
      rw [if_pos (by omega), if_neg (by omega), if_neg (by omega)]
      congr 1; omega
    · rw [Lib.decDigits, dif_neg h, List.append_assoc, List.singleton_append, ih (u / 10) (by omega) _ (by omega), Lib.parseUintM, digit_toNat (by omega : u % 10 < 10)]
      rw [if_pos (by omega), if_neg (by omega), if_neg (by omega)]
      congr 1; omega
theorem digits_head : ∀ (u : Nat), ∃ c r, Lib.decDigits u = c :: r ∧ 48 ≤ c.toNat ∧ c.toNat ≤ 57 := by
  intro u
  induction u using Nat.strongRecOn with
  | _ u ih =>
    by_cases h : u < 10
    · exact ⟨_, [], by rw [Lib.decDigits, dif_pos h], by rw [digit_toNat h]; omega, by rw [digit_toNat h]; omega⟩
    · obtain ⟨c, r, e, h1, h2⟩ := ih (u / 10) (by omega)
      exact ⟨c, r ++ [UInt8.ofNat (48 + u % 10)], by rw [Lib.decDigits, dif_neg h, e]; rfl, h1, h2⟩
theorem parse_mag (u : Nat) (hu : u ≤ 9223372036854775808) : Lib.parseUintB 64 (Lib.decDigits u) = .ok u := by
  obtain ⟨c, r, e, _⟩ := digits_head u
  unfold Lib.parseUintB
  rw [if_neg (by rw [e]; simp)]
  have := parse_digits u [] hu
  rw [List.append_nil] at this
  exact this
theorem parse_itoa (n : Int) (h : Fits n) : Lib.parseIntB 64 (Lib.itoa n) = .ok n := by
  unfold Lib.itoa
  obtain ⟨h0, h1⟩ := h
  by_cases hn : n < 0
  · rw [if_pos hn]
    have hm := parse_mag n.natAbs (by omega)
    show (match Lib.parseUintB 64 (if (45 : UInt8).toNat = 43 ∨ (45 : UInt8).toNat = 45 then Lib.decDigits n.natAbs else 45 :: Lib.decDigits n.natAbs) with
      | .syntax => Lib.NumEnd.syntax
      | .range => .range
      | .ok u => if ¬ (45 : UInt8).toNat = 45 ∧ 2 ^ 63 ≤ u then .range else if (45 : UInt8).toNat = 45 ∧ 2 ^ 63 < u then .range else .ok (if (45 : UInt8).toNat = 45 then -(u : Int) else u)) = _
    rw [if_pos (by decide), hm]
    show (if ¬ (45 : UInt8).toNat = 45 ∧ 2 ^ 63 ≤ n.natAbs then Lib.NumEnd.range else if (45 : UInt8).toNat = 45 ∧ 2 ^ 63 < n.natAbs then .range else .ok (if (45 : UInt8).toNat = 45 then -(n.natAbs : Int) else n.natAbs)) = _
    rw [if_neg (fun h => h.1 (by decide)), if_neg (by omega), if_pos (by decide)]
    congr 1; omega
  · rw [if_neg hn]
    obtain ⟨c, r, e, c1, c2⟩ := digits_head n.toNat
    have hm := parse_mag n.toNat (by omega)
    rw [e] at hm ⊢
    show (match Lib.parseUintB 64 (if c.toNat = 43 ∨ c.toNat = 45 then r else c :: r) with
      | .syntax => Lib.NumEnd.syntax
      | .range => .range
      | .ok u => if ¬ c.toNat = 45 ∧ 2 ^ 63 ≤ u then .range else if c.toNat = 45 ∧ 2 ^ 63 < u then .range else .ok (if c.toNat = 45 then -(u : Int) else u)) = _
    rw [if_neg (by omega), hm]
    show (if ¬ c.toNat = 45 ∧ 2 ^ 63 ≤ n.toNat then Lib.NumEnd.range else if c.toNat = 45 ∧ 2 ^ 63 < n.toNat then .range else .ok (if c.toNat = 45 then -(n.toNat : Int) else n.toNat)) = _
    rw [if_neg (by omega), if_neg (by omega), if_neg (by omega)]
    congr 1; omega
/-- What is read of a word as a number. -/
def numOf (b : ByteArray) : Option Int :=
  match Lib.parseIntB 64 b.data.toList with
  | .ok v => if numB v = b then some v else none
  | _ => none
theorem numB_list (n : Int) : (numB n).data.toList = Lib.itoa n := by simp [numB]
theorem numOf_numB {n : Int} (h : Fits n) : numOf (numB n) = some n := by
  unfold numOf
  rw [numB_list, parse_itoa n h]
  simp
theorem numOf_some {b : ByteArray} {n : Int} (h : numOf b = some n) : Fits n ∧ b = numB n := by
  unfold numOf at h
  split at h
  · rename_i v hv
    split at h
    · rename_i hb
      obtain rfl := Option.some.inj h
      have := Lib.parseIntB_bounds (B := 64) (l := b.data.toList) hv
      obtain ⟨t1, t2⟩ := this
      simp at t1 t2
      exact ⟨⟨by omega, by omega⟩, hb.symm⟩
    · cases h
  · cases h
theorem numB_inj {m n : Int} (hm : Fits m) (hn : Fits n) (h : numB m = numB n) : m = n := by
  have a := numOf_numB hm
  rw [h, numOf_numB hn] at a
  exact (Option.some.inj a).symm

/-! ### Registers -/
theorem regB_inj {m n : Int} (hm : Fits m) (hn : Fits n) (h : regB m = regB n) : m = n := by
  refine numB_inj hm hn ?_
  have h2 : (regB m).data.toList = (regB n).data.toList := by rw [h]
  unfold regB at h2
  have h3 : (numB m).data.toList = (numB n).data.toList := by simpa using h2
  exact ByteArray.ext (Array.ext' h3)
def regOf (b : ByteArray) : Option Nat := (List.range 11).find? fun r : Nat => decide (b = regB r)
theorem fits_small {r : Nat} (h : r < 11) : Fits (r : Int) := ⟨by omega, by omega⟩
theorem regOf_regB {r : Nat} (h : r < 11) : regOf (regB r) = some r := by
  unfold regOf
  cases e : (List.range 11).find? fun k : Nat => decide (regB r = regB k) with
  | none => exact absurd (List.find?_eq_none.1 e r (List.mem_range.2 h)) (by simp)
  | some k =>
    have h1 := List.find?_some e
    have h2 := List.mem_range.1 (List.mem_of_find?_eq_some e)
    have := regB_inj (fits_small h) (fits_small h2) (of_decide_eq_true h1)
    congr 1; omega
theorem regOf_some {b : ByteArray} {r : Nat} (h : regOf b = some r) : r < 11 ∧ b = regB r :=
  ⟨List.mem_range.1 (List.mem_of_find?_eq_some h), of_decide_eq_true (p := b = regB r) (List.find?_some (p := fun k : Nat => decide (b = regB k)) h)⟩
theorem regOf_none {b : ByteArray} (h : regOf b = none) : ∀ r : Nat, r < 11 → b ≠ regB r := fun r hr e => by
  have := List.find?_eq_none.1 h r (List.mem_range.2 hr)
  simp [e] at this
/-- A register is no number. -/
theorem reg_no_num {b : ByteArray} {r : Nat} {n : Int} (hr : regOf b = some r) (hn : numOf b = some n) : False := by
  obtain ⟨_, e1⟩ := regOf_some hr
  obtain ⟨_, e2⟩ := numOf_some hn
  have h : (regB r).data.toList = (numB n).data.toList := by rw [← e1, ← e2]
  rw [numB_list] at h
  have h1 : (regB (r : Int)).data.toList = 114 :: (numB r).data.toList := by simp [regB]
  rw [h1] at h
  unfold Lib.itoa at h
  split at h
  · simp at h
  · obtain ⟨c, t, e, c1, c2⟩ := digits_head n.toNat
    rw [e] at h
    obtain rfl := (List.cons.inj h).1
    revert c2; decide
end Go.Proofs.YtegeiicginpdbaaGreatDoor
