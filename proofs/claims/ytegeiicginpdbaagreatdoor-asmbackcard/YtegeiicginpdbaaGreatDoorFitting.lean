/-
  The numbers of a step that is told fit in 64 bits.
-/
import Derived.Test.YtegeiicginpdbaaGreatDoorBack3
namespace Go.Proofs.YtegeiicginpdbaaGreatDoor
open Go.ChangeShapes Go.WideShapes Go.ChangeAt Go.RowKit
def St.Fine (x : St) : Prop := Fits x.o ∧ Fits x.n
theorem fits_zero : Fits 0 := ⟨by decide, by decide⟩
theorem fits_getD (b : ByteArray) : Fits ((numOf b).getD 0) := by
  cases e : numOf b with
  | none => exact fits_zero
  | some n => exact (numOf_some e).1
theorem fits_place (b : ByteArray) : Fits ((placeOf b).getD (0, 0)).2 := by
  cases e : placeOf b with
  | none => exact fits_zero
  | some q =>
    unfold placeOf at e
    split at e
    · split at e
      · rename_i r n _ hn
        cases e
        exact (numOf_some hn).1
      · cases e
    · cases e
theorem callOf_lt (b : ByteArray) : callOf b < 4 := by
  unfold callOf
  cases h : (List.range 4).find? fun k : Nat => decide (callB k = b) with
  | none => decide
  | some k => exact List.mem_range.1 (List.mem_of_find?_eq_some h)
theorem fits_call (b : ByteArray) : Fits ((callOf b : Nat) : Int) := by
  have := callOf_lt b
  exact ⟨by omega, by omega⟩
theorem put_fine (x : St) (p : Nat) (b : ByteArray) (h : x.Fine) : (x.put p b).2.Fine := by
  unfold St.put
  split
  · exact h
  · split
    · split
      · exact h
      · exact ⟨h.1, fits_getD b⟩
    · split
      · exact ⟨fits_getD b, h.2⟩
      · split
        · exact ⟨fits_place b, h.2⟩
        · split
          · exact ⟨fits_place b, h.2⟩
          · exact ⟨h.1, fits_call b⟩
theorem putAll_fine : ∀ (ps : List UInt8) (bs : List ByteArray) (x y : St), x.Fine → putAll x ps bs = some y → y.Fine
  | [], bs, x, y, h, e => by
    have e' : some x = some y := by simpa [putAll] using e
    cases e'; exact h
  | p :: ps, [], x, y, h, e => by
    have e' : some x = some y := by simpa [putAll] using e
    cases e'; exact h
  | p :: ps, b :: bs, x, y, h, e => by
    rw [putAll] at e
    split at e
    · exact putAll_fine ps bs _ y (put_fine x _ b h) e
    · cases e
theorem tells_fine {p : ByteArray} {x : St} (h : tells p = some x) : x.Fine := by
  unfold tells at h
  cases e : (fieldsOf p).take 5 with
  | nil => rw [e] at h; cases h
  | cons b bs =>
    rw [e, stepOf_cons] at h
    split at h
    · cases h
    · exact putAll_fine _ _ _ _ ⟨fits_zero, fits_zero⟩ h
theorem told_fine (ps : List ByteArray) (j : Nat) : (nth (toldBy ps) j).Fine := by
  unfold nth toldBy
  rw [List.getElem?_map]
  cases e : ps[j]? with
  | none => exact ⟨fits_zero, fits_zero⟩
  | some p =>
    show ((tells p).getD St.zero).Fine
    cases e2 : tells p with
    | none => exact ⟨fits_zero, fits_zero⟩
    | some x => exact tells_fine e2
end Go.Proofs.YtegeiicginpdbaaGreatDoor
