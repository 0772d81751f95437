/-
  What stands between semicolons, and between blanks, in a text that was put together of clean words: those words.
-/
import Derived.Test.YtegeiicginpdbaaGreatDoorSplit
import Derived.Test.YtegeiicginpdbaaGreatDoorWritten
namespace Go.Proofs.YtegeiicginpdbaaGreatDoor
open Go.ChangeShapes Go.WideShapes Go.ChangeAt Go.RowKit
/-! ### The words of a list of bytes -/
def mkB (l : List UInt8) : ByteArray := ⟨l.toArray⟩
theorem mkB_list (l : List UInt8) : (mkB l).data.toList = l := by simp [mkB]
theorem mkB_of (b : ByteArray) : mkB b.data.toList = b := by simp [mkB]
theorem bytes_ext {a b : ByteArray} (h : a.data.toList = b.data.toList) : a = b := by rw [← mkB_of a, ← mkB_of b, h]
theorem mkB_inj {l m : List UInt8} (h : mkB l = mkB m) : l = m := by rw [← mkB_list l, h, mkB_list]
theorem extract_list (s : ByteArray) (a b : Nat) : (s.extract a b).data.toList = (s.data.toList.drop a).take (b - a) := by
  simp [ByteArray.data_extract, List.extract]
theorem len_list (s : ByteArray) : s.size = s.data.toList.length := Lib.size_eq s
def wordsL : Option (List UInt8) → List UInt8 → List ByteArray
  | none, [] => []
  | some acc, [] => [mkB acc]
  | none, c :: r => if c = 32 then wordsL none r else wordsL (some [c]) r
  | some acc, c :: r => if c = 32 then mkB acc :: wordsL none r else wordsL (some (acc ++ [c])) r
theorem fields_list (s : ByteArray) (hs : ∀ b ∈ s.data.toList, b.toNat < 128) : ∀ (f i : Nat) (st : Option Nat), s.size - i ≤ f → i ≤ s.size → (∀ a, st = some a → a ≤ i) →
    fieldsFrom s f st i = wordsL (st.map fun a => (s.data.toList.drop a).take (i - a)) (s.data.toList.drop i)
  | 0, i, st, hf, hi, hst => by
    obtain rfl : i = s.size := by omega
    have hd : s.data.toList.drop s.size = [] := List.drop_eq_nil_of_le (by rw [len_list]; exact Nat.le_refl _)
    rw [fieldsFrom, hd]
    cases st with
    | none => rfl
    | some a =>
      show [s.extract a s.size] = [mkB ((s.data.toList.drop a).take (s.size - a))]
      rw [← extract_list, mkB_of]
  | f + 1, i, st, hf, hi, hst => by
    by_cases hlt : i < s.size
    · have hx : s.data.toList[i]? = some (s[i]'hlt) := Lib.data_getElem? s i hlt
      have hmem : (s[i]'hlt) ∈ s.data.toList := List.mem_of_getElem? hx
      have hdec : Lib.decodeGo (s.extract i s.size) = ((s[i]'hlt).toNat, 1) := by
        have hz : (s.extract i s.size).size = s.size - i := by rw [ByteArray.size_extract]; omega
        have e0 : (s.extract i s.size)[0]'(by omega) = s[i]'hlt := by rw [ByteArray.getElem_extract]; rfl
        unfold Lib.decodeGo
        rw [if_neg (by omega), decode_ascii _ 0 (by omega) (by rw [e0]; exact hs _ hmem), e0]
      have hdrop : s.data.toList.drop i = s[i]'hlt :: s.data.toList.drop (i + 1) := by
        rw [List.drop_eq_getElem_cons (by rw [← len_list]; exact hlt)]
        congr 1
      have htake : ∀ a, a ≤ i → (s.data.toList.drop a).take (i + 1 - a) = (s.data.toList.drop a).take (i - a) ++ [s[i]'hlt] := by
        intro a ha
        rw [show i + 1 - a = (i - a) + 1 by omega, List.take_add_one, List.getElem?_drop, show a + (i - a) = i by omega, hx]
        rfl
      rw [hdrop]
      by_cases h32 : (s[i]'hlt).toNat = 32
      · have hc : s[i]'hlt = 32 := by
          apply UInt8.toNat_inj.1; exact h32
        have hr : (Lib.decodeGo (s.extract i s.size)).1 = 32 := by rw [hdec]; exact h32
        cases st with
        | none =>
          rw [fields_blank_none hlt hr, hdec, fields_list s hs f (i + 1) none (by omega) (by omega) (by simp)]
          show _ = wordsL none (s[i]'hlt :: _)
          rw [wordsL, if_pos hc]; rfl
        | some a =>
          rw [fields_blank hlt hr, hdec, fields_list s hs f (i + 1) none (by omega) (by omega) (by simp)]
          show _ = wordsL (some ((s.data.toList.drop a).take (i - a))) (s[i]'hlt :: _)
          rw [wordsL, if_pos hc, ← extract_list, mkB_of]; rfl
      · have hc : ¬ s[i]'hlt = 32 := fun e => h32 (by rw [e]; rfl)
        have hr : (Lib.decodeGo (s.extract i s.size)).1 ≠ 32 := by rw [hdec]; exact h32
        cases st with
        | none =>
          rw [fields_word hlt hr, hdec]
          show fieldsFrom s f (some i) (i + 1) = _
          rw [fields_list s hs f (i + 1) (some i) (by omega) (by omega) (by simp)]
          show wordsL (some ((s.data.toList.drop i).take (i + 1 - i))) _ = wordsL none (s[i]'hlt :: _)
          rw [wordsL, if_neg hc, htake i (Nat.le_refl _)]
          simp
        | some a =>
          rw [fields_word hlt hr, hdec]
          show fieldsFrom s f (some a) (i + 1) = _
          rw [fields_list s hs f (i + 1) (some a) (by omega) (by omega) (by have := hst a rfl; simp; omega)]
          show wordsL (some ((s.data.toList.drop a).take (i + 1 - a))) _ = wordsL (some ((s.data.toList.drop a).take (i - a))) (s[i]'hlt :: _)
          rw [wordsL, if_neg hc, htake a (hst a rfl)]
    · obtain rfl : i = s.size := by omega
      have hd : s.data.toList.drop s.size = [] := List.drop_eq_nil_of_le (by rw [len_list]; exact Nat.le_refl _)
      rw [fields_end hlt, hd]
      cases st with
      | none => rfl
      | some a =>
        show [s.extract a s.size] = [mkB ((s.data.toList.drop a).take (s.size - a))]
        rw [← extract_list, mkB_of]
theorem fieldsOf_list (s : ByteArray) (hs : ∀ b ∈ s.data.toList, b.toNat < 128) : fieldsOf s = wordsL none s.data.toList := by
  unfold fieldsOf
  rw [fields_list s hs s.size 0 none (by omega) (by omega) (by simp)]
  rfl
theorem words_take : ∀ (u acc r : List UInt8), (∀ b ∈ u, b ≠ 32) → wordsL (some acc) (u ++ r) = wordsL (some (acc ++ u)) r
  | [], acc, r, _ => by simp
  | c :: u, acc, r, h => by
    show wordsL (some acc) (c :: (u ++ r)) = _
    rw [wordsL, if_neg (h c List.mem_cons_self), words_take u _ r fun b hb => h b (List.mem_cons_of_mem _ hb), List.append_assoc]
    rfl
theorem words_first (u r : List UInt8) (hu : u ≠ []) (h : ∀ b ∈ u, b ≠ 32) : wordsL none (u ++ r) = wordsL (some u) r := by
  cases u with
  | nil => exact absurd rfl hu
  | cons c u =>
    show wordsL none (c :: (u ++ r)) = _
    rw [wordsL, if_neg (h c List.mem_cons_self), words_take u _ r fun b hb => h b (List.mem_cons_of_mem _ hb)]
    rfl
/-- A word: bytes of ASCII, no blank, no semicolon, one at least. -/
def Clean (u : List UInt8) : Prop := u ≠ [] ∧ ∀ b ∈ u, b.toNat < 128 ∧ b ≠ 32 ∧ b ≠ 59
theorem words_join : ∀ (us : List (List UInt8)) (u : List UInt8), Clean u → (∀ v ∈ us, Clean v) → wordsL none (u ++ Lib.joinTail [32] us) = (u :: us).map mkB
  | [], u, hu, _ => by
    rw [words_first u _ hu.1 fun b hb => (hu.2 b hb).2.1]
    rfl
  | v :: us, u, hu, h => by
    have ih := words_join us v (h v List.mem_cons_self) fun x hx => h x (List.mem_cons_of_mem _ hx)
    rw [words_first u _ hu.1 fun b hb => (hu.2 b hb).2.1, show Lib.joinTail [32] (v :: us) = 32 :: (v ++ Lib.joinTail [32] us) by simp [Lib.joinTail], wordsL, if_pos rfl, ih]
    rfl
theorem words_blank (l : List UInt8) : wordsL none (32 :: l) = wordsL none l := by rw [wordsL, if_pos rfl]
/-! ### What stands between semicolons -/
theorem index_at : ∀ (x y : List UInt8), (∀ b ∈ x, b ≠ 59) → Lib.indexByte (x ++ 59 :: y) 59 = x.length
  | [], y, _ => by simp [Lib.indexByte]
  | b :: x, y, h => by
    have ih := index_at x y fun c hc => h c (List.mem_cons_of_mem _ hc)
    have hb : (b == 59) = false := by simpa using h b List.mem_cons_self
    have hne : (((x.length : Nat) : Int) == -1) = false := by simp
    show (if b == 59 then (0 : Int) else if Lib.indexByte (x ++ 59 :: y) 59 == -1 then -1 else Lib.indexByte (x ++ 59 :: y) 59 + 1) = _
    rw [hb, ih, hne]
    simp
theorem index_none : ∀ (x : List UInt8), (∀ b ∈ x, b ≠ 59) → Lib.indexByte x 59 = -1
  | [], _ => rfl
  | b :: x, h => by
    have ih := index_none x fun c hc => h c (List.mem_cons_of_mem _ hc)
    have hb : (b == 59) = false := by simpa using h b List.mem_cons_self
    show (if b == 59 then (0 : Int) else if Lib.indexByte x 59 == -1 then -1 else Lib.indexByte x 59 + 1) = _
    rw [hb, ih]
    rfl
theorem pieces_one {f : Nat} {x : List UInt8} (h : ∀ b ∈ x, b ≠ 59) : piecesFrom f (mkB x) = [mkB x] :=
  pieces_end (by unfold semi; rw [mkB_list, index_none x h]; decide)
theorem pieces_two {f : Nat} {x y : List UInt8} (h : ∀ b ∈ x, b ≠ 59) : piecesFrom (f + 1) (mkB (x ++ 59 :: y)) = mkB x :: piecesFrom f (mkB y) := by
  have hs : semi (mkB (x ++ 59 :: y)) = x.length := by unfold semi; rw [mkB_list, index_at x y h]
  rw [pieces_cut (by rw [hs]; omega), hs, Int.toNat_natCast]
  congr 1
  · apply bytes_ext
    rw [extract_list, mkB_list, mkB_list]
    simp
  · congr 1
    apply bytes_ext
    rw [extract_list, mkB_list, mkB_list]
    rw [len_list, mkB_list]
    simp
    rw [show x.length + (y.length + 1) - (x.length + 1) = y.length by omega, List.take_length]
theorem pieces_join : ∀ (ys : List (List UInt8)) (x : List UInt8) (f : Nat), ys.length ≤ f → (∀ b ∈ x, b ≠ 59) → (∀ y ∈ ys, ∀ b ∈ y, b ≠ 59) → piecesFrom f (mkB (x ++ Lib.joinTail [59, 32] ys)) = mkB x :: ys.map fun y => mkB (32 :: y)
  | [], x, f, _, h, _ => by
    rw [show x ++ Lib.joinTail [59, 32] [] = x by simp [Lib.joinTail]]
    exact pieces_one h
  | y :: ys, x, f, hf, h, hy => by
    obtain ⟨f, rfl⟩ : ∃ g, f = g + 1 := ⟨f - 1, by simp at hf; omega⟩
    rw [show x ++ Lib.joinTail [59, 32] (y :: ys) = x ++ 59 :: ((32 :: y) ++ Lib.joinTail [59, 32] ys) by simp [Lib.joinTail], pieces_two h]
    rw [pieces_join ys (32 :: y) f (by simp at hf; omega) (by
      intro b hb
      rcases List.mem_cons.1 hb with rfl | hb
      · decide
      · exact hy y List.mem_cons_self b hb) fun z hz => hy z (List.mem_cons_of_mem _ hz)]
    rfl
end Go.Proofs.YtegeiicginpdbaaGreatDoor
