/-
  The step that words tell the document's way is the one that they tell the program's way. Conditions: none (plain mathematics of texts).
-/
import Derived.Test.YtegeiicginpdbaaGreatDoorDocCuts
namespace Go.Proofs.YtegeiicginpdbaaGreatDoor
open Go.ChangeShapes Go.WideShapes Go.ChangeAt Go.RowKit

/-- The document's letters for the words behind a code's name. -/
def docL (c : Int) : List UInt8 :=
  if 1 ≤ c ∧ c ≤ 12 then [100, 50] else if 15 ≤ c ∧ c ≤ 24 then [100, 50, 111] else if c = 13 then [100] else if c = 14 then [111] else if c = 25 then [100, 108] else if c = 26 then [115, 50] else if c = 27 then [99] else []
def docB (c : Int) : ByteArray := ⟨(docL c).toArray⟩
theorem docL_length (c : Int) : (docL c).length = (partsL c).length := by
  unfold docL partsL
  repeat' split
  all_goals rfl
theorem docB_size (c : Int) : (docB c).size = (docL c).length := by
  show (docL c).toArray.size = _
  rw [List.size_toArray]
theorem docL_few (c : Int) : (docL c).length ≤ 3 := by
  unfold docL
  repeat' split
  all_goals decide
theorem docL_letters (c : Int) : ∀ p ∈ docL c, p = 100 ∨ p = 50 ∨ p = 111 ∨ p = 108 ∨ p = 115 ∨ p = 99 := by
  unfold docL
  repeat' split
  all_goals simp
/-- Whether a word tells what the document's letter p asks for, and the step with it. -/
def St.putD (x : St) (p : Nat) (b : ByteArray) : Bool × St :=
  if p = 100 then ((regOf b).isSome, { x with d := ((regOf b).getD 0 : Nat) })
  else if p = 50 then (if (numOf b).isSome then (true, { x with n := (numOf b).getD 0 }) else ((regOf b).isSome, { x with n := 0, s := ((regOf b).getD 0 : Nat), r := true }))
  else if p = 111 then ((numOf b).isSome, { x with o := (numOf b).getD 0 })
  else if p = 108 then ((placeOf b).isSome, { x with s := (((placeOf b).getD (0, 0)).1 : Nat), o := ((placeOf b).getD (0, 0)).2 })
  else if p = 115 then ((placeOf b).isSome, { x with d := (((placeOf b).getD (0, 0)).1 : Nat), o := ((placeOf b).getD (0, 0)).2 })
  else (true, { x with n := if callOf b = 0 then x.n else (callOf b : Nat) })
def putAllD (x : St) : List UInt8 → List ByteArray → Option St
  | p :: ps, b :: bs => if (x.putD p.toNat b).1 then putAllD (x.putD p.toNat b).2 ps bs else none
  | _, _ => some x
theorem second_eq (x : St) (hs : x.s = 0) (hr : x.r = false) (hn : x.n = 0) (b : ByteArray) (k : St → Option St) :
    (if (x.putD 50 b).1 then k (x.putD 50 b).2 else none) = (if (x.put 115 b).1 then k (x.put 115 b).2 else none) := by
  obtain ⟨c, d, s, r, o, n⟩ := x
  obtain rfl : s = 0 := hs
  obtain rfl : r = false := hr
  obtain rfl : n = 0 := hn
  cases h1 : numOf b with
  | none =>
    cases h2 : regOf b with
    | none => simp [St.putD, St.put, h1, h2]
    | some r => simp [St.putD, St.put, h1, h2]
  | some n =>
    cases h2 : regOf b with
    | none => simp [St.putD, St.put, h1, h2]
    | some r => exact (reg_no_num h2 h1).elim
theorem dst_eq (x : St) (b : ByteArray) : x.putD 100 b = x.put 100 b := rfl
theorem off_eq (x : St) (b : ByteArray) : x.putD 111 b = x.put 111 b := rfl
theorem from_eq (x : St) (b : ByteArray) : x.putD 108 b = x.put 102 b := rfl
theorem to_eq (x : St) (b : ByteArray) : x.putD 115 b = x.put 116 b := rfl
theorem call_eq (x : St) (b : ByteArray) (h : x.n = 0) : x.putD 99 b = x.put 99 b := by
  show ((true, { x with n := if callOf b = 0 then x.n else (callOf b : Nat) }) : Bool × St) = (true, { x with n := (callOf b : Nat) })
  by_cases hc : callOf b = 0
  · rw [if_pos hc, hc, h]; rfl
  · rw [if_neg hc]
theorem putAllD_nil (x : St) (ps : List UInt8) : putAllD x ps [] = some x := by cases ps <;> rfl
theorem putAll_nil (x : St) (ps : List UInt8) : putAll x ps [] = some x := by cases ps <;> rfl
theorem putAllD_one (x : St) (p : UInt8) (ps : List UInt8) (b : ByteArray) (bs : List ByteArray) : putAllD x (p :: ps) (b :: bs) = if (x.putD p.toNat b).1 then putAllD (x.putD p.toNat b).2 ps bs else none := rfl
theorem putAll_one (x : St) (p : UInt8) (ps : List UInt8) (b : ByteArray) (bs : List ByteArray) : putAll x (p :: ps) (b :: bs) = if (x.put p.toNat b).1 then putAll (x.put p.toNat b).2 ps bs else none := rfl
theorem none_eq (x : St) (bs : List ByteArray) : putAllD x [] bs = putAll x [] bs := rfl
theorem putAllD_off (x : St) (bs : List ByteArray) : putAllD x [111] bs = putAll x [111] bs := by
  cases bs with
  | nil => rfl
  | cons b bs => rfl
theorem putAllD_second (x : St) (hs : x.s = 0) (hr : x.r = false) (hn : x.n = 0) (ps : List UInt8) (h : ∀ y bs, putAllD y ps bs = putAll y ps bs) (bs : List ByteArray) : putAllD x (50 :: ps) bs = putAll x (115 :: ps) bs := by
  cases bs with
  | nil => rfl
  | cons b bs =>
    rw [putAllD_one, putAll_one]
    show (if (x.putD 50 b).1 then putAllD (x.putD 50 b).2 ps bs else none) = (if (x.put 115 b).1 then putAll (x.put 115 b).2 ps bs else none)
    rw [second_eq x hs hr hn b fun y => putAllD y ps bs, h]
theorem if_same {c : Bool} {a b : Option St} (h : a = b) : (if c then a else none) = (if c then b else none) := by rw [h]
theorem putAllD_eq (c : Int) (bs : List ByteArray) : putAllD { St.zero with c := c } (docL c) bs = putAll { St.zero with c := c } (partsL c) bs := by
  unfold docL partsL
  split
  · cases bs with
    | nil => rfl
    | cons b bs => rw [putAllD_one, putAll_one]; exact if_same (putAllD_second _ rfl rfl rfl [] none_eq bs)
  split
  · cases bs with
    | nil => rfl
    | cons b bs => rw [putAllD_one, putAll_one]; exact if_same (putAllD_second _ rfl rfl rfl [111] putAllD_off bs)
  split
  · cases bs with
    | nil => rfl
    | cons b bs => rfl
  split
  · exact putAllD_off _ bs
  split
  · cases bs with
    | nil => rfl
    | cons b bs =>
      rw [putAllD_one, putAll_one]
      refine if_same ?_
      cases bs with
      | nil => rfl
      | cons b' bs => rfl
  split
  · cases bs with
    | nil => rfl
    | cons b bs => rw [putAllD_one, putAll_one]; exact if_same (putAllD_second _ rfl rfl rfl [] none_eq bs)
  split
  · cases bs with
    | nil => rfl
    | cons b bs =>
      rw [putAllD_one, putAll_one]
      show (if (St.putD _ 99 b).1 then putAllD (St.putD _ 99 b).2 [] bs else none) = (if (St.put _ 99 b).1 then putAll (St.put _ 99 b).2 [] bs else none)
      rw [call_eq _ _ rfl]; rfl
  · rfl
/-- The step that words tell, the document's way. -/
def stepD : List ByteArray → Option St
  | [] => none
  | b :: bs => if codeOf b = 0 ∨ bs.length ≠ (docL (codeOf b)).length then none else putAllD { St.zero with c := codeOf b } (docL (codeOf b)) bs
theorem stepD_cons (b : ByteArray) (bs : List ByteArray) : stepD (b :: bs) = if codeOf b = 0 ∨ bs.length ≠ (docL (codeOf b)).length then none else putAllD { St.zero with c := codeOf b } (docL (codeOf b)) bs := rfl
theorem stepD_eq (bs : List ByteArray) : stepD bs = stepOf bs := by
  cases bs with
  | nil => rfl
  | cons b bs => rw [stepOf_cons, stepD_cons, docL_length, putAllD_eq]
/-- Words that are too many tell nothing. -/
theorem stepOf_five (bs : List ByteArray) : stepOf (bs.take 5) = stepOf bs := by
  by_cases h : bs.length ≤ 5
  · rw [List.take_of_length_le h]
  · obtain ⟨b, bs', rfl⟩ : ∃ b bs', bs = b :: bs' := by
      cases bs with
      | nil => simp at h
      | cons b bs' => exact ⟨b, bs', rfl⟩
    rw [List.length_cons] at h
    have h3 := docL_few (codeOf b)
    rw [docL_length] at h3
    show stepOf (b :: bs'.take 4) = _
    rw [stepOf_cons, stepOf_cons, if_pos (Or.inr (by rw [List.length_take]; omega)), if_pos (Or.inr (by omega))]
theorem tells_doc (p : ByteArray) : tells p = stepD (fieldsOf p) := by
  unfold tells
  rw [stepOf_five, stepD_eq]
theorem name_code {b : ByteArray} {i : Nat} (h0 : 0 < i) (h1 : i < 29) : nameB i = b ↔ codeOf b = i := by
  constructor
  · rintro rfl; exact codeOf_nameB h1
  · intro h
    unfold codeOf at h
    cases e : (List.range 29).find? fun k : Nat => decide (nameB k = b) with
    | none => rw [e] at h; simp at h; omega
    | some k =>
      rw [e] at h
      obtain rfl : k = i := by simpa using h
      exact of_decide_eq_true (p := nameB k = b) (List.find?_some (p := fun k : Nat => decide (nameB k = b)) e)
theorem call_code {b : ByteArray} {i : Nat} (h0 : 0 < i) (h1 : i < 4) : callB i = b ↔ callOf b = i := by
  constructor
  · rintro rfl; exact callOf_callB h1
  · intro h
    unfold callOf at h
    cases e : (List.range 4).find? fun k : Nat => decide (callB k = b) with
    | none => rw [e] at h; simp at h; omega
    | some k =>
      rw [e] at h
      obtain rfl : k = i := by simpa using h
      exact of_decide_eq_true (p := callB k = b) (List.find?_some (p := fun k : Nat => decide (callB k = b)) e)
end Go.Proofs.YtegeiicginpdbaaGreatDoor
