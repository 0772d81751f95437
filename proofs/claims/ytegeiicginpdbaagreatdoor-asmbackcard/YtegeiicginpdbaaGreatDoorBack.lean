/-
  The text of a program that nothing is wrong with tells that program.
-/
import Derived.Test.YtegeiicginpdbaaGreatDoorTold
namespace Go.Proofs.YtegeiicginpdbaaGreatDoor
open Go.ChangeShapes Go.WideShapes Go.ChangeAt Go.RowKit
def listsOf (ws : List ByteArray) : List (List UInt8) := ws.map (·.data.toList)
theorem joinB_list (w0 : ByteArray) (ws : List ByteArray) (sep : ByteArray) : (joinB (w0 :: ws) sep).data.toList = w0.data.toList ++ Lib.joinTail sep.data.toList (listsOf ws) := by
  unfold joinB
  show (mkB (Lib.join _ _)).data.toList = _
  rw [mkB_list, List.map_cons, Lib.join_cons]
  rfl
theorem tail_clean : ∀ (us : List (List UInt8)), (∀ u ∈ us, Clean u) → ∀ b ∈ Lib.joinTail [32] us, b.toNat < 128 ∧ b ≠ 59
  | [], _, b, hb => by simp [Lib.joinTail] at hb
  | u :: us, h, b, hb => by
    rw [show Lib.joinTail [32] (u :: us) = 32 :: (u ++ Lib.joinTail [32] us) by simp [Lib.joinTail]] at hb
    rcases List.mem_cons.1 hb with rfl | hb
    · decide
    · rcases List.mem_append.1 hb with hb | hb
      · have := (h u List.mem_cons_self).2 b hb
        exact ⟨this.1, this.2.2⟩
      · exact tail_clean us (fun v hv => h v (List.mem_cons_of_mem _ hv)) b hb
theorem listsOf_back (ws : List ByteArray) : (listsOf ws).map mkB = ws := by
  unfold listsOf
  rw [List.map_map]
  conv => rhs; rw [← List.map_id ws]
  apply List.map_congr_left
  intro b _
  exact mkB_of b
section
variable {w0 : ByteArray} {ws : List ByteArray}
theorem lists_clean (h : ∀ u ∈ ws, Clean u.data.toList) : ∀ u ∈ listsOf ws, Clean u := by
  intro u hu
  obtain ⟨b, hb, rfl⟩ := List.mem_map.1 hu
  exact h b hb
theorem joined_bytes (h0 : Clean w0.data.toList) (h : ∀ u ∈ ws, Clean u.data.toList) : ∀ b ∈ (joinB (w0 :: ws) ⟨#[32]⟩).data.toList, b.toNat < 128 ∧ b ≠ 59 := by
  intro b hb
  rw [joinB_list] at hb
  rcases List.mem_append.1 hb with hb | hb
  · have := h0.2 b hb
    exact ⟨this.1, this.2.2⟩
  · exact tail_clean _ (lists_clean h) b hb
theorem fields_joined (h0 : Clean w0.data.toList) (h : ∀ u ∈ ws, Clean u.data.toList) : fieldsOf (joinB (w0 :: ws) ⟨#[32]⟩) = w0 :: ws := by
  rw [fieldsOf_list _ fun b hb => (joined_bytes h0 h b hb).1, joinB_list]
  show wordsL none (w0.data.toList ++ Lib.joinTail [32] (listsOf ws)) = _
  rw [words_join _ _ h0 (lists_clean h), List.map_cons, mkB_of, listsOf_back]
theorem fields_joined' (h0 : Clean w0.data.toList) (h : ∀ u ∈ ws, Clean u.data.toList) : fieldsOf (mkB (32 :: (joinB (w0 :: ws) ⟨#[32]⟩).data.toList)) = w0 :: ws := by
  rw [fieldsOf_list _ fun b hb => ?_, mkB_list, words_blank, ← fieldsOf_list _ fun b hb => (joined_bytes h0 h b hb).1, fields_joined h0 h]
  rw [mkB_list] at hb
  rcases List.mem_cons.1 hb with rfl | hb
  · decide
  · exact (joined_bytes h0 h b hb).1
end
section
variable {c d s : Int} {r : Bool} {o n : Int}
theorem tell_clean (h : aloneV c d s r o n = 0) : ∀ p ∈ partsL c, Clean (tellB d s r o n p.toNat).data.toList := by
  obtain ⟨c1, c2, d1, d2, s1, s2, hcall⟩ := alone_none h
  intro p hp
  rcases parts_ascii c p hp with rfl | rfl | rfl | rfl | rfl | ⟨rfl, hc⟩
  · exact regB_clean d
  · show Clean (secondB s r n).data.toList
    unfold secondB; split
    · exact regB_clean s
    · exact numB_clean n
  · exact numB_clean o
  · exact placeB_clean s o
  · exact placeB_clean d o
  · have := hcall hc
    exact callB_clean (k := n.toNat) (by omega) (by omega)
theorem words_clean (h : aloneV c d s r o n = 0) : Clean (nameB c.toNat).data.toList ∧ ∀ u ∈ ((partsL c).take (partsL c).length).map (fun p => tellB d s r o n p.toNat), Clean u.data.toList := by
  obtain ⟨c1, c2, _⟩ := alone_none h
  refine ⟨nameB_clean (by omega) (by omega), fun u hu => ?_⟩
  obtain ⟨p, hp, rfl⟩ := List.mem_map.1 hu
  rw [List.take_length] at hp
  exact tell_clean h p hp
theorem words_few : (wordsOf c d s r o n (partsL c).length).take 5 = wordsOf c d s r o n (partsL c).length := by
  apply List.take_of_length_le
  have := parts_few c
  unfold wordsOf
  simp
  omega
theorem tells_stepB (h : aloneV c d s r o n = 0) (ho : Fits o) (hn : Fits n) : tells (stepB c d s r o n) = some ⟨c, d, s, r, o, n⟩ := by
  have hw := words_clean h
  unfold tells stepB
  rw [show fieldsOf (joinB (wordsOf c d s r o n (partsL c).length) ⟨#[32]⟩) = wordsOf c d s r o n (partsL c).length from fields_joined hw.1 hw.2, words_few]
  exact stepOf_words h ho hn
theorem tells_stepB' (h : aloneV c d s r o n = 0) (ho : Fits o) (hn : Fits n) : tells (mkB (32 :: (stepB c d s r o n).data.toList)) = some ⟨c, d, s, r, o, n⟩ := by
  have hw := words_clean h
  unfold tells stepB
  rw [show fieldsOf (mkB (32 :: (joinB (wordsOf c d s r o n (partsL c).length) ⟨#[32]⟩).data.toList)) = wordsOf c d s r o n (partsL c).length from fields_joined' hw.1 hw.2, words_few]
  exact stepOf_words h ho hn
end
/-! ### A program -/
section
variable {len : Nat} {C D S O N : Nat → Int} {R : Nat → Bool}
def stAt (C D S : Nat → Int) (R : Nat → Bool) (O N : Nat → Int) (i : Nat) : St := ⟨C i, D i, S i, R i, O i, N i⟩
theorem tail_long : ∀ (ys : List (List UInt8)), ys.length ≤ (Lib.joinTail [59, 32] ys).length
  | [] => by simp
  | y :: ys => by
    have := tail_long ys
    rw [show Lib.joinTail [59, 32] (y :: ys) = 59 :: 32 :: (y ++ Lib.joinTail [59, 32] ys) by simp [Lib.joinTail]]
    simp
    omega
theorem pieces_text (h1 : 1 ≤ len) (hno : ∀ j, j < len → faultAt len C D S R O N j = 0) :
    piecesOf (textB C D S R O N len) = stepB (C 0) (D 0) (S 0) (R 0) (O 0) (N 0) :: ((List.range (len - 1)).map fun i => mkB (32 :: (stepB (C (i + 1)) (D (i + 1)) (S (i + 1)) (R (i + 1)) (O (i + 1)) (N (i + 1))).data.toList)) := by
  obtain ⟨m, rfl⟩ : ∃ m, len = m + 1 := ⟨len - 1, by omega⟩
  have hb : ∀ i, i < m + 1 → ∀ b ∈ (stepB (C i) (D i) (S i) (R i) (O i) (N i)).data.toList, b ≠ 59 := fun i hi b hb => by
    have hw := words_clean (fault_none_alone (hno i hi))
    exact (joined_bytes hw.1 hw.2 b hb).2
  have e : textsOf C D S R O N (m + 1) = stepB (C 0) (D 0) (S 0) (R 0) (O 0) (N 0) :: (List.range m).map fun i => stepB (C (i + 1)) (D (i + 1)) (S (i + 1)) (R (i + 1)) (O (i + 1)) (N (i + 1)) := by
    unfold textsOf
    rw [List.range_succ_eq_map, List.map_cons, List.map_map]
    rfl
  have e2 : textB C D S R O N (m + 1) = mkB ((stepB (C 0) (D 0) (S 0) (R 0) (O 0) (N 0)).data.toList ++ Lib.joinTail [59, 32] (listsOf ((List.range m).map fun i => stepB (C (i + 1)) (D (i + 1)) (S (i + 1)) (R (i + 1)) (O (i + 1)) (N (i + 1))))) := by
    apply bytes_ext
    unfold textB
    rw [e, joinB_list, mkB_list]
  unfold piecesOf
  rw [e2, pieces_join]
  · rw [mkB_of]
    unfold listsOf
    rw [List.map_map, List.map_map]
    rfl
  · rw [len_list, mkB_list, List.length_append]
    have := tail_long (listsOf ((List.range m).map fun i => stepB (C (i + 1)) (D (i + 1)) (S (i + 1)) (R (i + 1)) (O (i + 1)) (N (i + 1))))
    omega
  · exact hb 0 (by omega)
  · intro y hy
    unfold listsOf at hy
    rw [List.map_map] at hy
    obtain ⟨i, hi, rfl⟩ := List.mem_map.1 hy
    have := List.mem_range.1 hi
    exact hb (i + 1) (by omega)
theorem tells_first (h1 : 0 < len) (hno : ∀ j, j < len → faultAt len C D S R O N j = 0) (hfit : ∀ i, i < len → Fits (O i) ∧ Fits (N i)) : tells (stepB (C 0) (D 0) (S 0) (R 0) (O 0) (N 0)) = some (stAt C D S R O N 0) :=
  tells_stepB (fault_none_alone (hno 0 h1)) (hfit 0 h1).1 (hfit 0 h1).2
theorem tells_next {i : Nat} (hi : i + 1 < len) (hno : ∀ j, j < len → faultAt len C D S R O N j = 0) (hfit : ∀ i, i < len → Fits (O i) ∧ Fits (N i)) : tells (mkB (32 :: (stepB (C (i + 1)) (D (i + 1)) (S (i + 1)) (R (i + 1)) (O (i + 1)) (N (i + 1))).data.toList)) = some (stAt C D S R O N (i + 1)) :=
  tells_stepB' (fault_none_alone (hno (i + 1) hi)) (hfit (i + 1) hi).1 (hfit (i + 1) hi).2
end
end Go.Proofs.YtegeiicginpdbaaGreatDoor
