/-
  What stands between signs, cut the document's way, is what the program's ways tell. Conditions: none (plain mathematics of texts).
-/
import Derived.Test.YtegeiicginpdbaaGreatDoorDocForm
import Derived.Lib.SplitLaws
import Derived.Lib.IndexBytes
namespace Go.Proofs.YtegeiicginpdbaaGreatDoor
open Go.ChangeShapes Go.WideShapes Go.ChangeAt Go.RowKit

/-- What stands between signs c, with what is there ahead. -/
def cutsA (c : UInt8) : List UInt8 → List UInt8 → List (List UInt8)
  | acc, [] => [acc]
  | acc, b :: l => if b = c then acc :: cutsA c [] l else cutsA c (acc ++ [b]) l
theorem cuts_none (c : UInt8) : ∀ (u acc : List UInt8), (∀ b ∈ u, b ≠ c) → cutsA c acc u = [acc ++ u]
  | [], acc, _ => by simp [cutsA]
  | b :: u, acc, h => by
    rw [cutsA, if_neg (h b List.mem_cons_self), cuts_none c u _ fun x hx => h x (List.mem_cons_of_mem _ hx), List.append_assoc]
    rfl
theorem cuts_at (c : UInt8) : ∀ (u acc r : List UInt8), (∀ b ∈ u, b ≠ c) → cutsA c acc (u ++ c :: r) = (acc ++ u) :: cutsA c [] r
  | [], acc, r, _ => by
    show cutsA c acc (c :: r) = _
    rw [cutsA, if_pos rfl, List.append_nil]
  | b :: u, acc, r, h => by
    show cutsA c acc (b :: (u ++ c :: r)) = _
    rw [cutsA, if_neg (h b List.mem_cons_self), cuts_at c u _ r fun x hx => h x (List.mem_cons_of_mem _ hx), List.append_assoc]
    rfl
theorem sign_or (c : UInt8) (l : List UInt8) : (∀ b ∈ l, b ≠ c) ∨ ∃ u r, l = u ++ c :: r ∧ ∀ b ∈ u, b ≠ c := by
  by_cases h : c ∈ l
  · obtain ⟨u, r, e, hn⟩ := List.eq_append_cons_of_mem h
    exact Or.inr ⟨u, r, e, fun b hb e' => hn (e' ▸ hb)⟩
  · exact Or.inl fun b hb e => h (e ▸ hb)
theorem indexByte_at (c : UInt8) : ∀ (x y : List UInt8), (∀ b ∈ x, b ≠ c) → Lib.indexByte (x ++ c :: y) c = x.length
  | [], y, _ => by simp [Lib.indexByte]
  | b :: x, y, h => by
    have ih := indexByte_at c x y fun z hz => h z (List.mem_cons_of_mem _ hz)
    have hb : (b == c) = false := by simpa using h b List.mem_cons_self
    show Lib.indexByte (b :: (x ++ c :: y)) c = _
    rw [Lib.indexByte, ih]
    rw [if_neg (by rw [hb]; decide), if_neg (by simp)]
    simp
theorem indexByte_no (c : UInt8) : ∀ (x : List UInt8), (∀ b ∈ x, b ≠ c) → Lib.indexByte x c = -1
  | [], _ => rfl
  | b :: x, h => by
    have ih := indexByte_no c x fun z hz => h z (List.mem_cons_of_mem _ hz)
    have hb : (b == c) = false := by simpa using h b List.mem_cons_self
    rw [Lib.indexByte, ih, if_neg (by rw [hb]; decide), if_pos (by decide)]
theorem count_no (c : UInt8) (x : List UInt8) (h : ∀ b ∈ x, b ≠ c) : x.count c = 0 := List.count_eq_zero.2 fun hc => h c hc rfl
theorem splitK_cuts (c : UInt8) : ∀ (n : Nat) (l : List UInt8), l.length ≤ n → Lib.splitK [c] 0 (l.count c) l = cutsA c [] l
  | 0, l, h => by
    obtain rfl : l = [] := List.eq_nil_of_length_eq_zero (by omega)
    rfl
  | n + 1, l, h => by
    rcases sign_or c l with hn | ⟨u, r, rfl, hn⟩
    · rw [count_no c l hn, cuts_none c l [] hn]; rfl
    · have hc : (u ++ c :: r).count c = r.count c + 1 := by rw [List.count_append, count_no c u hn, List.count_cons_self]; omega
      have hx : Lib.index (u ++ c :: r) [c] = u.length := by rw [Lib.index_one]; exact indexByte_at c u r hn
      rw [hc, cuts_at c u [] r hn, Lib.splitK, hx, if_neg (by simp)]
      have e1 : (u ++ c :: r).take (((u.length : Nat) : Int).toNat + 0) = [] ++ u := by simp
      have e2 : (u ++ c :: r).drop (((u.length : Nat) : Int).toNat + [c].length) = r := by
        show (u ++ c :: r).drop (u.length + 1) = r
        rw [show u ++ c :: r = (u ++ [c]) ++ r by simp, List.drop_left' (by simp)]
      rw [e1, e2, splitK_cuts c n r (by rw [List.length_append, List.length_cons] at h; omega)]
theorem split_cuts (c : UInt8) (s : ByteArray) : Lib.splitB ⟨#[c]⟩ 0 (Lib.countB s ⟨#[c]⟩) s = (cutsA c [] s.data.toList).map mkB := by
  have h1 := Lib.splitB_data ⟨#[c]⟩ 0 (Lib.countB s ⟨#[c]⟩) s
  have h2 : Lib.countB s ⟨#[c]⟩ = s.data.toList.count c := Lib.count_one c s.data.toList
  have h3 : (⟨#[c]⟩ : ByteArray).data.toList = [c] := rfl
  rw [h3, h2, splitK_cuts c _ _ (Nat.le_refl _)] at h1
  rw [h2, ← h1, List.map_map]
  conv => lhs; rw [← List.map_id (Lib.splitB _ _ _ _)]
  exact List.map_congr_left fun x _ => (mkB_of x).symm
theorem pieces_cuts : ∀ (n f : Nat) (l : List UInt8), l.length ≤ n → l.length ≤ f → piecesFrom f (mkB l) = (cutsA 59 [] l).map mkB
  | 0, f, l, h, _ => by
    obtain rfl : l = [] := List.eq_nil_of_length_eq_zero (by omega)
    rw [pieces_one (by simp)]; rfl
  | n + 1, f, l, h, hf => by
    rcases sign_or 59 l with hn | ⟨u, r, rfl, hn⟩
    · rw [cuts_none 59 l [] hn, pieces_one hn]; rfl
    · rw [List.length_append, List.length_cons] at h hf
      obtain ⟨f', rfl⟩ : ∃ f', f = f' + 1 := ⟨f - 1, by omega⟩
      rw [pieces_two hn, cuts_at 59 u [] r hn, pieces_cuts n f' r (by omega) (by omega)]
      rfl
theorem split_pieces (s : ByteArray) : Lib.splitB ⟨#[59]⟩ 0 (Lib.countB s ⟨#[59]⟩) s = piecesOf s := by
  rw [split_cuts]
  unfold piecesOf
  have h := pieces_cuts s.size s.size s.data.toList (by rw [← len_list]; exact Nat.le_refl _) (by rw [← len_list]; exact Nat.le_refl _)
  rw [mkB_of] at h
  exact h.symm
/-! ### Words -/
theorem words_cuts : ∀ (l acc : List UInt8), wordsL (if acc = [] then none else some acc) l = ((cutsA 32 acc l).filter fun x => !x.isEmpty).map mkB
  | [], acc => by
    by_cases h : acc = []
    · rw [if_pos h, h]; rfl
    · rw [if_neg h, wordsL, cutsA]
      have : (!acc.isEmpty) = true := by simpa using h
      rw [List.filter_cons_of_pos (p := fun x : List UInt8 => !x.isEmpty) this]; rfl
  | b :: l, acc => by
    by_cases hb : b = 32
    · subst hb
      have ih := words_cuts l []
      rw [if_pos rfl] at ih
      rw [cutsA, if_pos rfl]
      by_cases h : acc = []
      · subst h
        rw [if_pos rfl, wordsL, if_pos rfl, ih]; rfl
      · rw [if_neg h, wordsL, if_pos rfl, ih]
        have : (!acc.isEmpty) = true := by simpa using h
        rw [List.filter_cons_of_pos (p := fun x : List UInt8 => !x.isEmpty) this]; rfl
    · have ih := words_cuts l (acc ++ [b])
      rw [if_neg (by simp)] at ih
      rw [cutsA, if_neg hb, ← ih]
      by_cases h : acc = []
      · subst h
        rw [if_pos rfl, wordsL, if_neg hb]; rfl
      · rw [if_neg h, wordsL, if_neg hb]
theorem decode_start (s : ByteArray) (i : Nat) (h : i < s.size) : Lib.decodeGo (s.extract i s.size) = Utf8.decode (s.extract i s.size) 0 := by
  have hz : (s.extract i s.size).size = s.size - i := by rw [ByteArray.size_extract]; omega
  unfold Lib.decodeGo
  rw [if_neg (by omega)]
theorem extract_zero (s : ByteArray) (i j : Nat) (h : i + j < s.size) : (s.extract i s.size)[j]'(by rw [ByteArray.size_extract]; omega) = s[i + j]'h := by rw [ByteArray.getElem_extract]
theorem drop_cons (s : ByteArray) (i : Nat) (h : i < s.size) : s.data.toList.drop i = s[i]'h :: s.data.toList.drop (i + 1) := by
  rw [List.drop_eq_getElem_cons (by rw [← len_list]; exact h)]
  congr 1
theorem decode_blank (s : ByteArray) (i : Nat) (h : i < s.size) (hr : (Lib.decodeGo (s.extract i s.size)).1 = 32) : s[i]'h = 32 ∧ (Lib.decodeGo (s.extract i s.size)).2 = 1 := by
  have hz : (s.extract i s.size).size = s.size - i := by rw [ByteArray.size_extract]; omega
  have e0 : (s.extract i s.size)[0]'(by omega) = s[i]'h := extract_zero s i 0 h
  rw [decode_start s i h] at hr ⊢
  by_cases ha : (s[i]'h).toNat < 128
  · rw [decode_ascii _ 0 (by omega) (by rw [e0]; exact ha), e0] at hr ⊢
    exact ⟨UInt8.toNat_inj.1 hr, rfl⟩
  · have := (decode_high (s.extract i s.size) 0 (by omega) (by rw [e0]; omega)).1
    omega
theorem decode_others (s : ByteArray) (i : Nat) (h : i < s.size) (hr : (Lib.decodeGo (s.extract i s.size)).1 ≠ 32) : ∀ b ∈ (s.data.toList.drop i).take (Lib.decodeGo (s.extract i s.size)).2, b ≠ 32 := by
  have hz : (s.extract i s.size).size = s.size - i := by rw [ByteArray.size_extract]; omega
  have e0 : (s.extract i s.size)[0]'(by omega) = s[i]'h := extract_zero s i 0 h
  rw [decode_start s i h] at hr ⊢
  by_cases ha : (s[i]'h).toNat < 128
  · rw [decode_ascii _ 0 (by omega) (by rw [e0]; exact ha), e0] at hr ⊢
    intro b hb e
    rw [drop_cons s i h] at hb
    simp at hb
    rw [hb] at e
    exact hr (by rw [e]; rfl)
  · have hbs := decode_bytes (s.extract i s.size) 0 (by omega) (by rw [e0]; omega)
    intro b hb e
    obtain ⟨j, hj⟩ := List.mem_iff_getElem?.1 hb
    have hjk : j < (Utf8.decode (s.extract i s.size) 0).2 := by
      have := (List.getElem?_eq_some_iff.1 hj).1
      rw [List.length_take] at this
      omega
    rw [List.getElem?_take_of_lt hjk, List.getElem?_drop] at hj
    obtain ⟨h1, h2⟩ := hbs j hjk
    rw [Nat.zero_add] at h1 h2
    rw [get_in _ j h1, extract_zero s i j (by omega)] at h2
    have h3 := Lib.data_getElem? s (i + j) (by omega)
    rw [h3] at hj
    have h4 := Option.some.inj hj
    rw [h4, e] at h2
    revert h2; decide
theorem fields_any (s : ByteArray) : ∀ (f i : Nat) (st : Option Nat), s.size - i ≤ f → i ≤ s.size → (∀ a, st = some a → a < i) →
    fieldsFrom s f st i = wordsL (st.map fun a => (s.data.toList.drop a).take (i - a)) (s.data.toList.drop i)
  | 0, i, st, hf, hi, hst => by
    obtain rfl : i = s.size := by omega
    have hd : s.data.toList.drop s.size = [] := List.drop_eq_nil_of_le (by rw [len_list]; exact Nat.le_refl _)
    rw [fieldsFrom, hd]
    cases st with
    | none => rfl
    | some a =>
      show [s.extract a s.size] = [mkB ((s.data.toList.drop a).take (s.size - a))]
      rw [← extract_list, mkB_of]
  | f + 1, i, st, hf, hi, hst => by
    by_cases hlt : i < s.size
    · have hw := decode_wide s i hlt
      have hn := decode_narrow s i hlt
      by_cases hr : (Lib.decodeGo (s.extract i s.size)).1 = 32
      · obtain ⟨hc, h1⟩ := decode_blank s i hlt hr
        rw [drop_cons s i hlt, hc]
        cases st with
        | none =>
          rw [fields_blank_none hlt hr, h1, fields_any s f (i + 1) none (by omega) (by omega) (by simp)]
          show _ = wordsL none (32 :: _)
          rw [wordsL, if_pos rfl]; rfl
        | some a =>
          rw [fields_blank hlt hr, h1, fields_any s f (i + 1) none (by omega) (by omega) (by simp)]
          show _ = wordsL (some ((s.data.toList.drop a).take (i - a))) (32 :: _)
          rw [wordsL, if_pos rfl, ← extract_list, mkB_of]; rfl
      · have hu := decode_others s i hlt hr
        obtain ⟨k, hk⟩ : ∃ k, (Lib.decodeGo (s.extract i s.size)).2 = k := ⟨_, rfl⟩
        rw [hk] at hw hn hu
        have hsplit : s.data.toList.drop i = (s.data.toList.drop i).take k ++ s.data.toList.drop (i + k) := by
          rw [← List.drop_drop, List.take_append_drop]
        have hne : (s.data.toList.drop i).take k ≠ [] := by
          intro e
          have := congrArg List.length e
          rw [List.length_take, List.length_drop, ← len_list, List.length_nil] at this
          omega
        cases st with
        | none =>
          rw [fields_word hlt hr, hk]
          show fieldsFrom s f (some i) (i + k) = wordsL none _
          rw [fields_any s f (i + k) (some i) (by omega) (by omega) (by simp; omega), hsplit, words_first _ _ hne hu]
          show wordsL (some ((s.data.toList.drop i).take (i + k - i))) _ = _
          rw [Nat.add_sub_cancel_left]
        | some a =>
          have ha := hst a rfl
          rw [fields_word hlt hr, hk]
          show fieldsFrom s f (some a) (i + k) = wordsL (some ((s.data.toList.drop a).take (i - a))) _
          rw [fields_any s f (i + k) (some a) (by omega) (by omega) (by simp; omega), hsplit, words_take _ _ _ hu]
          show wordsL (some ((s.data.toList.drop a).take (i + k - a))) _ = _
          congr 2
          rw [show i + k - a = (i - a) + k by omega, List.take_add, List.drop_drop, show a + (i - a) = i by omega]
    · obtain rfl : i = s.size := by omega
      have hd : s.data.toList.drop s.size = [] := List.drop_eq_nil_of_le (by rw [len_list]; exact Nat.le_refl _)
      rw [fields_end hlt, hd]
      cases st with
      | none => rfl
      | some a =>
        show [s.extract a s.size] = [mkB ((s.data.toList.drop a).take (s.size - a))]
        rw [← extract_list, mkB_of]
theorem fieldsOf_words (s : ByteArray) : fieldsOf s = wordsL none s.data.toList := by
  unfold fieldsOf
  rw [fields_any s s.size 0 none (by omega) (by omega) (by simp)]
  rfl
/-- The words that the document keeps of what stands between blanks. -/
theorem split_words (s : ByteArray) : (Lib.splitB ⟨#[32]⟩ 0 (Lib.countB s ⟨#[32]⟩) s).filter (fun x => !x.data.toList.isEmpty) = fieldsOf s := by
  rw [split_cuts, fieldsOf_words, ← show (if ([] : List UInt8) = [] then none else some []) = (none : Option (List UInt8)) from rfl, words_cuts, List.filter_map]
  congr 1
end Go.Proofs.YtegeiicginpdbaaGreatDoor
