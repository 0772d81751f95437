/-
  The words of a step that nothing is wrong with: each is clean, and names, registers, numbers and places are read as what they were written of.
-/
import Derived.Test.YtegeiicginpdbaaGreatDoorLists
import Derived.Test.YtegeiicginpdbaaGreatDoorReadAll
import Derived.Test.YtegeiicginpdbaaGreatDoorWrite
namespace Go.Proofs.YtegeiicginpdbaaGreatDoor
open Go.ChangeShapes Go.WideShapes Go.ChangeAt Go.RowKit
theorem codes_back : ((List.range 29).all fun k => codeOf (nameB k) == k) = true := by kernel_rfl
theorem calls_back : ((List.range 4).all fun k => callOf (callB k) == k) = true := by kernel_rfl
theorem codeOf_nameB {k : Nat} (h : k < 29) : codeOf (nameB k) = k := by simpa using List.all_eq_true.1 codes_back k (List.mem_range.2 h)
theorem callOf_callB {k : Nat} (h : k < 4) : callOf (callB k) = k := by simpa using List.all_eq_true.1 calls_back k (List.mem_range.2 h)
def cleanB (u : List UInt8) : Bool := !u.isEmpty && u.all fun b => decide (b.toNat < 128) && (b != 32 && b != 59)
theorem clean_of {u : List UInt8} (h : cleanB u = true) : Clean u := by
  unfold cleanB at h
  obtain ⟨h1, h2⟩ := b_and h
  refine ⟨(by rintro rfl; cases h1), fun b hb => ?_⟩
  have h3 := List.all_eq_true.1 h2 b hb
  simpa using h3
theorem names_clean : ((List.range 28).all fun k => cleanB (namesL.getD (k + 1) [])) = true := by kernel_rfl
theorem calls_clean : ((List.range 3).all fun k => cleanB (callsL.getD (k + 1) [])) = true := by kernel_rfl
theorem nameB_clean {k : Nat} (h0 : 1 ≤ k) (h1 : k ≤ 28) : Clean (nameB k).data.toList := by
  obtain ⟨j, rfl⟩ : ∃ j, k = j + 1 := ⟨k - 1, by omega⟩
  show Clean (mkB (namesL.getD (j + 1) [])).data.toList
  rw [mkB_list]
  exact clean_of (List.all_eq_true.1 names_clean j (List.mem_range.2 (by omega)))
theorem callB_clean {k : Nat} (h0 : 1 ≤ k) (h1 : k ≤ 3) : Clean (callB k).data.toList := by
  obtain ⟨j, rfl⟩ : ∃ j, k = j + 1 := ⟨k - 1, by omega⟩
  show Clean (mkB (callsL.getD (j + 1) [])).data.toList
  rw [mkB_list]
  exact clean_of (List.all_eq_true.1 calls_clean j (List.mem_range.2 (by omega)))
theorem digits_all : ∀ (u : Nat), ∀ b ∈ Lib.decDigits u, 48 ≤ b.toNat ∧ b.toNat ≤ 57 := by
  intro u
  induction u using Nat.strongRecOn with
  | _ u ih =>
    intro b hb
    by_cases h : u < 10
    · rw [Lib.decDigits, dif_pos h] at hb
      rw [List.mem_singleton.1 hb, digit_toNat h]; omega
    · rw [Lib.decDigits, dif_neg h] at hb
      rcases List.mem_append.1 hb with hb | hb
      · exact ih (u / 10) (by omega) b hb
      · rw [List.mem_singleton.1 hb, digit_toNat (by omega)]; omega
theorem not_of_nat {b c : UInt8} (h : b.toNat ≠ c.toNat) : b ≠ c := fun e => h (by rw [e])
theorem digit_clean {b : UInt8} (h : 48 ≤ b.toNat ∧ b.toNat ≤ 57) : b.toNat < 128 ∧ b ≠ 32 ∧ b ≠ 59 := by
  refine ⟨by omega, not_of_nat ?_, not_of_nat ?_⟩
  · show b.toNat ≠ 32; omega
  · show b.toNat ≠ 59; omega
theorem itoa_clean (n : Int) : Clean (Lib.itoa n) := by
  unfold Lib.itoa
  split
  · refine ⟨by simp, fun b hb => ?_⟩
    rcases List.mem_cons.1 hb with rfl | hb
    · decide
    · exact digit_clean (digits_all _ b hb)
  · refine ⟨?_, fun b hb => digit_clean (digits_all _ b hb)⟩
    obtain ⟨c, r, e, _⟩ := digits_head n.toNat
    rw [e]; simp
theorem Clean.append {u v : List UInt8} (hu : Clean u) (hv : ∀ b ∈ v, b.toNat < 128 ∧ b ≠ 32 ∧ b ≠ 59) : Clean (u ++ v) :=
  ⟨by simp [hu.1], fun b hb => by
    rcases List.mem_append.1 hb with h | h
    · exact hu.2 b h
    · exact hv b h⟩
theorem append_list (a b : ByteArray) : (a ++ b).data.toList = a.data.toList ++ b.data.toList := by simp
theorem numB_clean (n : Int) : Clean (numB n).data.toList := by rw [numB_list]; exact itoa_clean n
theorem regB_list (r : Int) : (regB r).data.toList = 114 :: Lib.itoa r := by
  unfold regB; rw [append_list, numB_list]; rfl
theorem regB_clean (r : Int) : Clean (regB r).data.toList := by
  rw [regB_list]
  exact Clean.append (u := [114]) (clean_of rfl) (itoa_clean r).2
theorem signB_list (o : Int) : (signB o).data.toList = if o < 0 then [] else [43] := by
  unfold signB; split <;> rfl
theorem placeB_list (r o : Int) : (placeB r o).data.toList = 91 :: ((regB r).data.toList ++ (signB o).data.toList ++ (numB o).data.toList ++ [93]) := by
  unfold placeB
  simp only [append_list]
  simp
theorem placeB_clean (r o : Int) : Clean (placeB r o).data.toList := by
  rw [placeB_list]
  refine Clean.append (u := [91]) (v := (regB r).data.toList ++ (signB o).data.toList ++ (numB o).data.toList ++ [93]) (clean_of rfl) fun b hb => ?_
  rcases List.mem_append.1 hb with hb | hb
  · rcases List.mem_append.1 hb with hb | hb
    · rcases List.mem_append.1 hb with hb | hb
      · exact (regB_clean r).2 b hb
      · rw [signB_list] at hb
        split at hb
        · cases hb
        · rw [List.mem_singleton.1 hb]; decide
    · exact (numB_clean o).2 b hb
  · rw [List.mem_singleton.1 hb]; decide
/-! ### A place -/
theorem trim_head (c : UInt8) (r : List UInt8) : Lib.trimPrefix (c :: r) [c] = r := by simp [Lib.trimPrefix, Lib.hasPrefix]
theorem trim_other {c d : UInt8} (r : List UInt8) (h : (c == d) = false) : Lib.trimPrefix (d :: r) [c] = d :: r := by
  unfold Lib.trimPrefix Lib.hasPrefix
  rw [if_neg]
  simp [List.isPrefixOf, h]
theorem ends_with (r : List UInt8) (c : UInt8) : Lib.hasSuffix (r ++ [c]) [c] = true := by
  unfold Lib.hasSuffix
  exact List.isSuffixOf_iff_suffix.2 ⟨r, rfl⟩
theorem trim_last (r : List UInt8) (c : UInt8) : Lib.trimSuffix (r ++ [c]) [c] = r := by
  unfold Lib.trimSuffix
  rw [if_pos (ends_with r c)]
  simp
/-- What stands in a place between its brackets. -/
def bodyL (r o : Int) : List UInt8 := (regB r).data.toList ++ ((signB o).data.toList ++ (numB o).data.toList)
theorem inner1_placeB (r o : Int) : inner1 (placeB r o) = mkB (bodyL r o ++ [93]) := by
  unfold inner1
  rw [placeB_list, trim_head]
  unfold bodyL
  rw [List.append_assoc (regB r).data.toList]
  rfl
theorem inner_placeB (r o : Int) : inner (placeB r o) = mkB (bodyL r o) := by
  unfold inner
  rw [inner1_placeB, mkB_list, trim_last]
  rfl
theorem sign_num (o : Int) : ∃ x rest, (signB o).data.toList ++ (numB o).data.toList = x :: rest ∧ ([43, 45] : List UInt8).contains x = true ∧ Lib.trimPrefix (x :: rest) [43] = (numB o).data.toList := by
  rw [signB_list, numB_list]
  by_cases h : o < 0
  · rw [if_pos h]
    refine ⟨45, Lib.decDigits o.natAbs, ?_, by decide, ?_⟩
    · unfold Lib.itoa; rw [if_pos h]; rfl
    · rw [trim_other _ (by decide)]
      unfold Lib.itoa; rw [if_pos h]
  · rw [if_neg h]
    exact ⟨43, Lib.itoa o, rfl, by decide, trim_head _ _⟩
theorem reg_no_sign {r : Nat} : ∀ b ∈ (regB r).data.toList, ([43, 45] : List UInt8).contains b = false := by
  intro b hb
  rw [regB_list] at hb
  rcases List.mem_cons.1 hb with rfl | hb
  · decide
  · have hd : 48 ≤ b.toNat ∧ b.toNat ≤ 57 := by
      unfold Lib.itoa at hb
      rw [if_neg (by omega)] at hb
      exact digits_all _ b hb
    have h1 : b ≠ 43 := not_of_nat (by show b.toNat ≠ 43; omega)
    have h2 : b ≠ 45 := not_of_nat (by show b.toNat ≠ 45; omega)
    simp [h1, h2]
theorem signAt_placeB (r : Nat) (o : Int) : signAt (placeB r o) = (regB r).data.toList.length := by
  unfold signAt
  rw [inner_placeB, mkB_list]
  obtain ⟨x, rest, e, hx, _⟩ := sign_num o
  unfold bodyL
  rw [e]
  refine Lib.indexAny_hit (x := x) (fun j b hj hb => ?_) (by simp) hx
  rw [List.getElem?_append_left hj] at hb
  exact reg_no_sign b (List.mem_of_getElem? hb)
theorem placeOf_placeB {r : Nat} {o : Int} (hr : r < 11) (ho : Fits o) : placeOf (placeB r o) = some (r, o) := by
  have h1 : opened (placeB r o) = true := by unfold opened; rw [placeB_list]; simp [Lib.hasPrefix]
  have h2 : closed (placeB r o) = true := by unfold closed; rw [inner1_placeB, mkB_list]; exact ends_with _ _
  have h3 := signAt_placeB r o
  have h4 : (inner (placeB r o)).extract 0 (signAt (placeB r o)).toNat = regB r := by
    apply bytes_ext
    rw [extract_list, inner_placeB, mkB_list, h3, Int.toNat_natCast]
    unfold bodyL
    simp
  have h5 : behind (placeB r o) (signAt (placeB r o)).toNat = numB o := by
    obtain ⟨x, rest, e, _, ht⟩ := sign_num o
    unfold behind
    rw [extract_list, inner_placeB, mkB_list, h3, Int.toNat_natCast, len_list, mkB_list]
    have hd : ((bodyL r o).drop (regB r).data.toList.length).take ((bodyL r o).length - (regB r).data.toList.length) = x :: rest := by
      unfold bodyL
      rw [List.drop_left, e, List.take_of_length_le (by simp)]
    rw [hd, ht]
  unfold placeOf
  rw [if_pos ⟨h1, h2, by rw [h3]; omega⟩, h4, h5, regOf_regB hr, numOf_numB ho]
/-! ### A step -/
theorem regOf_int {d : Int} (h0 : 0 ≤ d) (h1 : d ≤ 10) : regOf (regB d) = some d.toNat := by
  obtain ⟨k, rfl⟩ : ∃ k : Nat, d = k := ⟨d.toNat, by omega⟩
  exact regOf_regB (by omega)
theorem placeOf_int {d o : Int} (h0 : 0 ≤ d) (h1 : d ≤ 10) (ho : Fits o) : placeOf (placeB d o) = some (d.toNat, o) := by
  obtain ⟨k, rfl⟩ : ∃ k : Nat, d = k := ⟨d.toNat, by omega⟩
  exact placeOf_placeB (by omega) ho
theorem regOf_numB {n : Int} (h : Fits n) : regOf (numB n) = none := by
  cases e : regOf (numB n) with
  | none => rfl
  | some r => exact (reg_no_num e (numOf_numB h)).elim
section
variable (x : St)
theorem put_dst (b : ByteArray) {d : Nat} (h : regOf b = some d) : x.put 100 b = (true, { x with d := (d : Int) }) := by simp [St.put, h]
theorem put_reg (b : ByteArray) {d : Nat} (h : regOf b = some d) : x.put 115 b = (true, { x with s := (d : Int), r := true }) := by simp [St.put, h]
theorem put_num (b : ByteArray) {n : Int} (h : regOf b = none) (h2 : numOf b = some n) : x.put 115 b = (true, { x with s := 0, r := false, n := n }) := by simp [St.put, h, h2]
theorem put_off (b : ByteArray) {o : Int} (h : numOf b = some o) : x.put 111 b = (true, { x with o := o }) := by simp [St.put, h]
theorem put_from (b : ByteArray) {d : Nat} {o : Int} (h : placeOf b = some (d, o)) : x.put 102 b = (true, { x with s := (d : Int), o := o }) := by simp [St.put, h]
theorem put_to (b : ByteArray) {d : Nat} {o : Int} (h : placeOf b = some (d, o)) : x.put 116 b = (true, { x with d := (d : Int), o := o }) := by simp [St.put, h]
theorem put_call (b : ByteArray) : x.put 99 b = (true, { x with n := (callOf b : Nat) }) := by simp [St.put]
theorem put_second {s n : Int} (r : Bool) (h0 : 0 ≤ s) (h1 : s ≤ 10) (hn : Fits n) : x.put 115 (secondB s r n) = (true, if r then { x with s := s, r := true } else { x with s := 0, r := false, n := n }) := by
  cases r with
  | true =>
    show x.put 115 (regB s) = _
    rw [put_reg x _ (regOf_int h0 h1), Int.toNat_of_nonneg h0]; rfl
  | false =>
    show x.put 115 (numB n) = _
    rw [put_num x _ (regOf_numB hn) (numOf_numB hn)]; rfl
theorem putAll_cons {y : St} {p : UInt8} {ps : List UInt8} {b : ByteArray} {bs : List ByteArray} (h : x.put p.toNat b = (true, y)) : putAll x (p :: ps) (b :: bs) = putAll y ps bs := by
  simp [putAll, h]
end
theorem alone_more {c d s : Int} {r : Bool} {o n : Int} (h : aloneV c d s r o n = 0) : moreV c d s r o n = false := by
  unfold aloneV at h
  split at h
  · cases h
  · split at h
    · cases h
    · split at h
      · cases h
      · split at h
        · cases h
        · rename_i h1
          cases e : moreV c d s r o n with
          | false => rfl
          | true => exact absurd (Or.inl e) h1
theorem putAll_words {c d s : Int} {r : Bool} {o n : Int} (h : aloneV c d s r o n = 0) (ho : Fits o) (hn : Fits n) :
    putAll { St.zero with c := c } (partsL c) ((partsL c).map fun p => tellB d s r o n p.toNat) = some ⟨c, d, s, r, o, n⟩ := by
  obtain ⟨c1, c2, d1, d2, s1, s2, hcall⟩ := alone_none h
  have hm := alone_more h
  have hd : ((d.toNat : Nat) : Int) = d := Int.toNat_of_nonneg d1
  have hs : ((s.toNat : Nat) : Int) = s := Int.toNat_of_nonneg s1
  have t100 : tellB d s r o n (100 : UInt8).toNat = regB d := rfl
  have t115 : tellB d s r o n (115 : UInt8).toNat = secondB s r n := rfl
  have t111 : tellB d s r o n (111 : UInt8).toNat = numB o := rfl
  have t102 : tellB d s r o n (102 : UInt8).toNat = placeB s o := rfl
  have t116 : tellB d s r o n (116 : UInt8).toNat = placeB d o := rfl
  have t99 : tellB d s r o n (99 : UInt8).toNat = callB n.toNat := rfl
  unfold moreV at hm
  by_cases g1 : 1 ≤ c ∧ c ≤ 12
  · rw [if_pos g1] at hm
    have e : partsL c = [100, 115] := by unfold partsL; rw [if_pos g1]
    rw [e]
    simp only [List.map, t100, t115]
    rw [putAll_cons _ (put_dst _ _ (regOf_int d1 d2)), putAll_cons _ (put_second _ r s1 s2 hn)]
    cases r <;> simp_all [putAll, St.zero]
  rw [if_neg g1] at hm
  by_cases g2 : 15 ≤ c ∧ c ≤ 24
  · rw [if_pos g2] at hm
    have e : partsL c = [100, 115, 111] := by unfold partsL; rw [if_neg g1, if_pos g2]
    rw [e]
    simp only [List.map, t100, t115, t111]
    rw [putAll_cons _ (put_dst _ _ (regOf_int d1 d2)), putAll_cons _ (put_second _ r s1 s2 hn), putAll_cons _ (put_off _ _ (numOf_numB ho))]
    cases r <;> simp_all [putAll, St.zero]
  rw [if_neg g2] at hm
  by_cases g3 : c = 13
  · rw [if_pos g3] at hm
    have e : partsL c = [100] := by unfold partsL; rw [if_neg g1, if_neg g2, if_pos g3]
    rw [e]
    simp only [List.map, t100]
    rw [putAll_cons _ (put_dst _ _ (regOf_int d1 d2))]
    simp_all [putAll, St.zero]
  rw [if_neg g3] at hm
  by_cases g4 : c = 14
  · rw [if_pos g4] at hm
    have e : partsL c = [111] := by unfold partsL; rw [if_neg g1, if_neg g2, if_neg g3, if_pos g4]
    rw [e]
    simp only [List.map, t111]
    rw [putAll_cons _ (put_off _ _ (numOf_numB ho))]
    simp_all [putAll, St.zero]
  rw [if_neg g4] at hm
  by_cases g5 : c = 25
  · rw [if_pos g5] at hm
    have e : partsL c = [100, 102] := by unfold partsL; rw [if_neg g1, if_neg g2, if_neg g3, if_neg g4, if_pos g5]
    rw [e]
    simp only [List.map, t100, t102]
    rw [putAll_cons _ (put_dst _ _ (regOf_int d1 d2)), putAll_cons _ (put_from _ _ (placeOf_int s1 s2 ho))]
    simp_all [putAll, St.zero]
  rw [if_neg g5] at hm
  by_cases g6 : c = 26
  · rw [if_pos g6] at hm
    have e : partsL c = [116, 115] := by unfold partsL; rw [if_neg g1, if_neg g2, if_neg g3, if_neg g4, if_neg g5, if_pos g6]
    rw [e]
    simp only [List.map, t116, t115]
    rw [putAll_cons _ (put_to _ _ (placeOf_int d1 d2 ho)), putAll_cons _ (put_second _ r s1 s2 hn)]
    cases r <;> simp_all [putAll, St.zero]
  rw [if_neg g6] at hm
  by_cases g7 : c = 27
  · rw [if_pos g7] at hm
    have e : partsL c = [99] := by unfold partsL; rw [if_neg g1, if_neg g2, if_neg g3, if_neg g4, if_neg g5, if_neg g6, if_pos g7]
    have hc : ((callOf (callB n.toNat) : Nat) : Int) = n := by
      rw [callOf_callB (by have := hcall g7; omega)]
      have := hcall g7; omega
    rw [e]
    simp only [List.map, t99]
    rw [putAll_cons _ (put_call _ _), hc]
    simp_all [putAll, St.zero]
  rw [if_neg g7] at hm
  have e : partsL c = [] := by unfold partsL; rw [if_neg g1, if_neg g2, if_neg g3, if_neg g4, if_neg g5, if_neg g6, if_neg g7]
  rw [e]
  simp_all [putAll, St.zero]
theorem stepOf_words {c d s : Int} {r : Bool} {o n : Int} (h : aloneV c d s r o n = 0) (ho : Fits o) (hn : Fits n) : stepOf (wordsOf c d s r o n (partsL c).length) = some ⟨c, d, s, r, o, n⟩ := by
  obtain ⟨c1, c2, _⟩ := alone_none h
  have hc : ((c.toNat : Nat) : Int) = c := Int.toNat_of_nonneg (by omega)
  unfold wordsOf
  rw [List.take_length, stepOf_cons, codeOf_nameB (by omega), hc, if_neg (by simp; omega)]
  exact putAll_words h ho hn
end Go.Proofs.YtegeiicginpdbaaGreatDoor
