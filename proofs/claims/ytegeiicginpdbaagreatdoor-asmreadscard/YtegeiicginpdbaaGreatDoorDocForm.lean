/-
  The document's way of reading a place tells what the program's tells. Conditions: none (plain mathematics of texts).
-/
import Derived.Test.YtegeiicginpdbaaGreatDoorTold
namespace Go.Proofs.YtegeiicginpdbaaGreatDoor
open Go.ChangeShapes Go.WideShapes Go.ChangeAt Go.RowKit

def headB (k : Nat) : ByteArray := ⟨#[91, 114]⟩ ++ numB k
theorem headB_list (k : Nat) : (headB k).data.toList = 91 :: (regB k).data.toList := by
  rw [regB_list]
  unfold headB
  rw [append_list, numB_list]
  rfl
theorem headB_size (k : Nat) (h : k < 11) : (headB k).size ≤ 22 := by
  have := numB_size k (fits_small h).1 (fits_small h).2
  unfold headB
  rw [ByteArray.size_append]
  have h2 : (⟨#[91, 114]⟩ : ByteArray).size = 2 := rfl
  omega
theorem inner1_cons {b : ByteArray} {t : List UInt8} (h : b.data.toList = 91 :: t) : inner1 b = mkB t := by unfold inner1; rw [h, trim_head]; rfl
theorem inner_cons {b : ByteArray} {u : List UInt8} (h : b.data.toList = 91 :: (u ++ [93])) : inner b = mkB u := by unfold inner; rw [inner1_cons h, mkB_list, trim_last]; rfl
theorem place_shape {b : ByteArray} {k : Nat} {c : UInt8} {z : List UInt8} (hk : k < 11) (hb : b.data.toList = 91 :: ((regB k).data.toList ++ (c :: z ++ [93]))) (hc : ([43, 45] : List UInt8).contains c = true) :
    placeOf b = (numOf (mkB (Lib.trimPrefix (c :: z) [43]))).map fun n => (k, n) := by
  have hb' : b.data.toList = 91 :: (((regB k).data.toList ++ c :: z) ++ [93]) := by rw [hb]; simp
  have h1 : opened b = true := by unfold opened; rw [hb]; simp [Lib.hasPrefix]
  have h2 : closed b = true := by unfold closed; rw [inner1_cons hb', mkB_list]; exact ends_with _ _
  have hi := inner_cons hb'
  have h3 : signAt b = (regB k).data.toList.length := by
    unfold signAt
    rw [hi, mkB_list]
    refine Lib.indexAny_hit (x := c) (fun j y hj hy => ?_) (by simp) hc
    rw [List.getElem?_append_left hj] at hy
    exact reg_no_sign y (List.mem_of_getElem? hy)
  have h4 : (inner b).extract 0 (signAt b).toNat = regB k := by
    apply bytes_ext
    rw [extract_list, hi, mkB_list, h3, Int.toNat_natCast]
    simp
  have h5 : behind b (signAt b).toNat = mkB (Lib.trimPrefix (c :: z) [43]) := by
    unfold behind
    rw [extract_list, hi, mkB_list, h3, Int.toNat_natCast, len_list, mkB_list, List.drop_left, List.take_of_length_le (by simp)]
    rfl
  unfold placeOf
  rw [if_pos ⟨h1, h2, by rw [h3]; omega⟩, h4, h5, regOf_regB hk]
  cases numOf (mkB (Lib.trimPrefix (c :: z) [43])) <;> rfl
theorem indexAny_at : ∀ (l c : List UInt8) (i : Nat), Lib.indexAny l c = i → ∃ x, l[i]? = some x ∧ c.contains x = true
  | [], c, i, h => by unfold Lib.indexAny at h; omega
  | b :: l, c, i, h => by
    unfold Lib.indexAny at h
    split at h
    · rename_i hc
      have : i = 0 := by omega
      subst this
      exact ⟨b, rfl, hc⟩
    · split at h
      · omega
      · obtain ⟨j, rfl⟩ : ∃ j, i = j + 1 := ⟨i - 1, by
          have := Lib.indexAny_ge c l
          rename_i hne
          have : Lib.indexAny l c ≠ -1 := fun e => hne (by rw [e]; rfl)
          omega⟩
        obtain ⟨x, h1, h2⟩ := indexAny_at l c j (by omega)
        exact ⟨x, by simpa using h1, h2⟩
theorem place_some {b : ByteArray} {r : Nat} {n : Int} (h : placeOf b = some (r, n)) :
    r < 11 ∧ ∃ c z, b.data.toList = 91 :: ((regB r).data.toList ++ (c :: z ++ [93])) ∧ ([43, 45] : List UInt8).contains c = true ∧ numOf (mkB (Lib.trimPrefix (c :: z) [43])) = some n := by
  unfold placeOf at h
  split at h
  · rename_i hh
    obtain ⟨h1, h2, h3⟩ := hh
    obtain ⟨t, ht⟩ : ∃ t, b.data.toList = 91 :: t := by
      unfold opened Lib.hasPrefix at h1
      obtain ⟨t, ht⟩ := List.isPrefixOf_iff_prefix.1 h1
      exact ⟨t, ht.symm⟩
    obtain ⟨u, hu⟩ : ∃ u, t = u ++ [93] := by
      unfold closed Lib.hasSuffix at h2
      rw [inner1_cons ht, mkB_list] at h2
      obtain ⟨u, hu⟩ := List.isSuffixOf_iff_suffix.1 h2
      exact ⟨u, hu.symm⟩
    subst hu
    have hi := inner_cons ht
    obtain ⟨i, hk⟩ := Int.eq_ofNat_of_zero_le h3
    have hs : Lib.indexAny u [43, 45] = i := by
      have : signAt b = i := hk
      unfold signAt at this
      rw [hi, mkB_list] at this
      exact this
    obtain ⟨x, hx, hc⟩ := indexAny_at _ _ _ hs
    have hlt : i < u.length := (List.getElem?_eq_some_iff.1 hx).1
    rw [hk, Int.toNat_natCast] at h
    cases hr : regOf ((inner b).extract 0 i) with
    | none => rw [hr] at h; simp at h
    | some r' =>
      cases hn : numOf (behind b i) with
      | none => rw [hr, hn] at h; simp at h
      | some n' =>
        rw [hr, hn] at h
        simp at h
        obtain ⟨rfl, rfl⟩ := h
        obtain ⟨hr1, hr2⟩ := regOf_some hr
        have e1 : u.take i = (regB r').data.toList := by
          rw [← hr2, extract_list, hi, mkB_list]; simp
        have e2 : u.drop i = x :: u.drop (i + 1) := by
          rw [List.drop_eq_getElem_cons hlt]
          congr 1
          exact Option.some.inj ((List.getElem?_eq_getElem hlt).symm.trans hx)
        refine ⟨hr1, x, u.drop (i + 1), ?_, hc, ?_⟩
        · rw [ht, ← e1, ← List.append_assoc, ← e2, List.take_append_drop]
        · rw [← hn]
          unfold behind
          rw [extract_list, hi, mkB_list, len_list, mkB_list, List.take_of_length_le (by simp), e2]
          rfl
  · cases h
/-- What the document reads of a word as a place of register k: the tests, one by one. -/
theorem doc_shape {b : ByteArray} {k : Nat} (p1 : Lib.hasPrefix b.data.toList (headB k).data.toList = true) (p2 : Lib.hasSuffix b.data.toList [93] = true) (p3 : (headB k).size + 1 < b.size) :
    ∃ c z, (b.extract (headB k).size (b.size - 1)).data.toList = c :: z ∧ b.data.toList = 91 :: ((regB k).data.toList ++ (c :: z ++ [93])) := by
  obtain ⟨t, ht⟩ := List.isPrefixOf_iff_prefix.1 p1
  obtain ⟨v, hv⟩ := List.isSuffixOf_iff_suffix.1 p2
  have hl : b.size = (headB k).size + t.length := by rw [len_list b, len_list (headB k), ← ht, List.length_append]
  obtain ⟨u, y, hu⟩ : ∃ u y, t = u ++ [y] := by
    rcases List.eq_nil_or_concat t with h | ⟨u, y, h⟩
    · subst h; simp at hl; omega
    · exact ⟨u, y, by rw [h, List.concat_eq_append]⟩
  subst hu
  have hy : y = 93 := by
    have h2 : (headB k).data.toList ++ u ++ [y] = v ++ [93] := by rw [List.append_assoc, ht, hv]
    have := (List.append_inj' h2 rfl).2
    simpa using this
  subst hy
  have hul : u.length = b.size - 1 - (headB k).size := by rw [List.length_append, List.length_singleton] at hl; omega
  have e1 : (b.extract (headB k).size (b.size - 1)).data.toList = u := by
    rw [extract_list, ← ht, len_list (headB k), List.drop_left, ← len_list (headB k), ← hul, List.take_left]
  cases u with
  | nil => rw [List.length_nil] at hul; rw [List.nil_append, List.length_singleton] at hl; omega
  | cons c z => exact ⟨c, z, e1, by rw [← ht, headB_list]; simp⟩
theorem doc_tests {b : ByteArray} {k : Nat} {c : UInt8} {z : List UInt8} (hb : b.data.toList = 91 :: ((regB k).data.toList ++ (c :: z ++ [93]))) :
    Lib.hasPrefix b.data.toList (headB k).data.toList = true ∧ Lib.hasSuffix b.data.toList [93] = true ∧ (headB k).size + 1 < b.size ∧ (b.extract (headB k).size (b.size - 1)).data.toList = c :: z := by
  have p1 : Lib.hasPrefix b.data.toList (headB k).data.toList = true := List.isPrefixOf_iff_prefix.2 ⟨c :: z ++ [93], by rw [hb, headB_list]; simp⟩
  have p2 : Lib.hasSuffix b.data.toList [93] = true := List.isSuffixOf_iff_suffix.2 ⟨91 :: ((regB k).data.toList ++ c :: z), by rw [hb]; simp⟩
  have p3 : (headB k).size + 1 < b.size := by rw [len_list b, len_list (headB k), hb, headB_list]; simp
  refine ⟨p1, p2, p3, ?_⟩
  obtain ⟨c', z', e1, e2⟩ := doc_shape p1 p2 p3
  rw [e1]
  rw [hb] at e2
  have e3 := List.append_cancel_left (List.cons.inj e2).2
  exact ((List.append_inj' e3 rfl).1).symm
/-- What is read behind a register, with its sign. -/
def signNum : List UInt8 → Option Int
  | 43 :: z => numOf (mkB z)
  | 45 :: z => numOf (mkB (45 :: z))
  | _ => none
/-- A round of the document: it tells nothing, or that register and a number. -/
def docAt (b : ByteArray) (k : Nat) : Option Int :=
  if Lib.hasPrefix b.data.toList (headB k).data.toList = true ∧ Lib.hasSuffix b.data.toList [93] = true ∧ (headB k).size + 1 < b.size then
    signNum (b.extract (headB k).size (b.size - 1)).data.toList
  else none
theorem trim_plus (c : UInt8) (z : List UInt8) (h : ([43, 45] : List UInt8).contains c = true) : (c = 43 ∧ Lib.trimPrefix (c :: z) [43] = z) ∨ (c = 45 ∧ Lib.trimPrefix (c :: z) [43] = 45 :: z) := by
  simp at h
  rcases h with rfl | rfl
  · exact Or.inl ⟨rfl, trim_head _ _⟩
  · exact Or.inr ⟨rfl, trim_other _ (by decide)⟩
theorem docAt_some {b : ByteArray} {k : Nat} {n : Int} (hk : k < 11) (h : docAt b k = some n) : placeOf b = some (k, n) := by
  unfold docAt at h
  split at h
  · rename_i hh
    obtain ⟨c, z, e1, e2⟩ := doc_shape hh.1 hh.2.1 hh.2.2
    rw [e1] at h
    unfold signNum at h
    split at h
    · rename_i h'
      obtain ⟨rfl, rfl⟩ := List.cons.inj h'
      rw [place_shape hk e2 (by decide), trim_head, h]; rfl
    · rename_i h'
      obtain ⟨rfl, rfl⟩ := List.cons.inj h'
      rw [place_shape hk e2 (by decide), trim_other _ (by decide), h]; rfl
    · cases h
  · cases h
theorem docAt_none {b : ByteArray} (h : ∀ k, k < 11 → docAt b k = none) : placeOf b = none := by
  cases e : placeOf b with
  | none => rfl
  | some x =>
    obtain ⟨r, n⟩ := x
    obtain ⟨hr, c, z, h1, h2, h3⟩ := place_some e
    obtain ⟨t1, t2, t3, t4⟩ := doc_tests h1
    have h5 := h r hr
    unfold docAt at h5
    rw [if_pos ⟨t1, t2, t3⟩, t4] at h5
    rcases trim_plus c z h2 with ⟨rfl, ht⟩ | ⟨rfl, ht⟩
    · rw [ht] at h3; simp [signNum, h3] at h5
    · rw [ht] at h3; simp [signNum, h3] at h5
end Go.Proofs.YtegeiicginpdbaaGreatDoor
