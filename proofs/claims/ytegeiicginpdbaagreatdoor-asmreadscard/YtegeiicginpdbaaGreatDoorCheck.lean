/-
  What op.Check and the document's own Check answer to a list of steps in memory: the first step with which something is wrong, and what, by one function on steps; the world below is as it was. Conditions: the list's cells hold steps.
-/
import Derived.Test.YtegeiicginpdbaaGreatDoorWrongs
namespace Go.Proofs.YtegeiicginpdbaaGreatDoor
open Go.ChangeShapes Go.WideShapes Go.ChangeAt Go.RowKit

/-- The six fields of so many steps, one behind the other in a block. -/
def StepsAt (w : World) (bk off len : Nat) (C D S : Nat → Int) (R : Nat → Bool) (O N : Nat → Int) : Prop :=
  ∀ i, i < len → w.cell? ⟨bk, off + i * 6, none⟩ = some (.int .i64 (C i)) ∧ w.cell? ⟨bk, off + i * 6 + 1, none⟩ = some (.int .i64 (D i)) ∧ w.cell? ⟨bk, off + i * 6 + 2, none⟩ = some (.int .i64 (S i))
    ∧ w.cell? ⟨bk, off + i * 6 + 3, none⟩ = some (.bool (R i)) ∧ w.cell? ⟨bk, off + i * 6 + 4, none⟩ = some (.int .i64 (O i)) ∧ w.cell? ⟨bk, off + i * 6 + 5, none⟩ = some (.int .i64 (N i))
theorem StepsAt.later {w wr : World} {bk off len : Nat} {C D S : Nat → Int} {R : Nat → Bool} {O N : Nat → Int} (h : StepsAt w bk off len C D S R O N) (hb : Below w.heap.size w wr) (hbk : bk < w.heap.size) : StepsAt wr bk off len C D S R O N := by
  intro i hi
  obtain ⟨a, b, c, d, e, f⟩ := h i hi
  exact ⟨(hb.cell (p := ⟨bk, _, none⟩) hbk).trans a, (hb.cell (p := ⟨bk, _, none⟩) hbk).trans b, (hb.cell (p := ⟨bk, _, none⟩) hbk).trans c, (hb.cell (p := ⟨bk, _, none⟩) hbk).trans d, (hb.cell (p := ⟨bk, _, none⟩) hbk).trans e, (hb.cell (p := ⟨bk, _, none⟩) hbk).trans f⟩
/-- What is wrong with step i of len. -/
def faultAt (len : Nat) (C D S : Nat → Int) (R : Nat → Bool) (O N : Nat → Int) (i : Nat) : Int := wrongV (C i) (D i) (S i) (R i) (O i) (N i) ((len : Int) - 1 - i)

theorem opCheck_limit (a : Option Addr) (len cap : Nat) (h : len < 1 ∨ 200 < len) (w : World) :
    Calls Tryz.prog 18 #[.slice a len cap] w fun e w' => e = .returned (.iface 23 (.int .i64 4)) ∧ w' = w := by
  rcases h with h | h
  · obtain rfl : len = 0 := by omega
    go_enter Tryz.func18, Tryz.ntmps18
    go_wp2
    go_ret
    exact ⟨rfl, rfl⟩
  · have z0 : decide ((len : Int) < 1) = false := by simp; omega
    have z1 : decide (200 < (len : Int)) = true := by simp; omega
    go_enter Tryz.func18, Tryz.ntmps18
    go_wp2
    go_ret
    exact ⟨rfl, rfl⟩

theorem opCheck_steps (bk off len cap : Nat) (C D S O N : Nat → Int) (R : Nat → Bool) (w : World) (h1 : 1 ≤ len) (h2 : len ≤ 200) (hbk : bk < w.heap.size) (hst : StepsAt w bk off len C D S R O N) :
    Calls Tryz.prog 18 #[.slice (some ⟨bk, off, none⟩) len cap] w fun e w' => Below w.heap.size w w' ∧
      ((e = .returned .nilIface ∧ ∀ j, j < len → faultAt len C D S R O N j = 0) ∨
       (∃ i p, i < len ∧ (∀ j, j < i → faultAt len C D S R O N j = 0) ∧ faultAt len C D S R O N i ≠ 0 ∧ e = .returned (.iface 74 (.pointer (some ⟨p, 0, none⟩))) ∧ w.heap.size ≤ p
          ∧ w'.cell? ⟨p, 0, none⟩ = some (.int .i64 (faultAt len C D S R O N i)) ∧ w'.cell? ⟨p, 1, none⟩ = some (.int .i64 i))) := by
  have z0 : decide ((len : Int) < 1) = false := by simp; omega
  have z1 : decide (200 < (len : Int)) = false := by simp; omega
  go_enter Tryz.func18, Tryz.ntmps18
  go_wp2
  go_loopw [18] (fun i wr => ∃ k : Nat, k ≤ len ∧ i = .int .i64 k ∧ Below w.heap.size w wr ∧ ∀ j, j < k → faultAt len C D S R O N j = 0) (fun i _ => len - (intOf i).toNat)
  case atStart => exact ⟨0, Nat.zero_le _, rfl, Below.refl _ _, fun j hj => absurd hj (Nat.not_lt_zero _)⟩
  case round =>
    obtain ⟨k, hk, rfl, hb, hno⟩ := hrel
    by_cases hlt : k < len
    · obtain ⟨g0, g1, g2, g3, g4, g5⟩ := hst.later hb hbk k hlt
      have hsz := hb.size
      have HF : Hid (faultAt len C D S R O N k = wrongV (C k) (D k) (S k) (R k) (O k) (N k) ((len : Int) - 1 - k)) := rfl
      by_cases hw : wrongV (C k) (D k) (S k) (R k) (O k) (N k) ((len : Int) - 1 - k) = 0
      · have hw2 : (wrongV (C k) (D k) (S k) (R k) (O k) (N k) ((len : Int) - 1 - k) != 0) = false := by simp [hw]
        have HW : Hid (wrongV (C k) (D k) (S k) (R k) (O k) (N k) ((len : Int) - 1 - k) = 0) := hw
        clear hw
        go_wp2_with (go_at_call 39; refine (opWrong_any _ _ _ _ _ _ _ _).mono ?_; rintro e w1 ⟨rfl, hb1⟩; obtain ⟨hcl, hfr⟩ := old_cells hb1)
        go_roundw
        case rel => exact ⟨k + 1, by omega, by go_num, (hb.alloc hsz _).trans (hb1.mono (by simp; omega)), fun j hj => by
          rcases Nat.lt_succ_iff_lt_or_eq.1 hj with h | h
          · exact hno j h
          · rw [h, HF.out]; exact HW.out⟩
        case measure => simp [intOf]; omega
      · have hw2 : (wrongV (C k) (D k) (S k) (R k) (O k) (N k) ((len : Int) - 1 - k) != 0) = true := by simp [hw]
        have HW : Hid (wrongV (C k) (D k) (S k) (R k) (O k) (N k) ((len : Int) - 1 - k) ≠ 0) := hw
        clear hw
        go_wp2_with (go_at_call 39; refine (opWrong_any _ _ _ _ _ _ _ _).mono ?_; rintro e w1 ⟨rfl, hb1⟩; obtain ⟨hcl, hfr⟩ := old_cells hb1)
        go_ret
        have hb2 : Below w.heap.size w w1 := (hb.alloc hsz _).trans (hb1.mono (by simp; omega))
        refine ⟨hb2.alloc hb2.size _, Or.inr ⟨k, w1.heap.size, hlt, hno, by rw [HF.out]; exact HW.out, rfl, hb2.size, ?_, ?_⟩⟩
        · rw [HF.out, World.cell?_alloc_at _ _ _ _ rfl]; rfl
        · rw [World.cell?_alloc_at _ _ _ _ rfl]; rfl
    · obtain rfl : k = len := by omega
      go_wp2
      go_ret
      exact ⟨hb, Or.inl ⟨rfl, hno⟩⟩

/-! ### The document's Check -/
theorem later_too {w wr w1 : World} {Z o : Obj} (hb : Below (w.alloc Z).heap.size (w.alloc Z) wr) (hb1 : Below (wr.alloc o).heap.size (wr.alloc o) w1) : Below (w.alloc Z).heap.size (w.alloc Z) w1 :=
  (hb.alloc hb.size _).trans (hb1.mono (by have := hb.size; simp at *; omega))
theorem fault_cells {w w1 : World} {t : TypeId} (h : Below (w.alloc (.cells #[.int .i64 0, .int .i64 0] t)).heap.size (w.alloc (.cells #[.int .i64 0, .int .i64 0] t)) w1) :
    w1.cell? ⟨w.heap.size, 0, none⟩ = some (.int .i64 0) ∧ w1.cell? ⟨w.heap.size, 1, none⟩ = some (.int .i64 0) ∧ w1.frozen? ⟨w.heap.size, 0, none⟩ = false ∧ w1.frozen? ⟨w.heap.size, 1, none⟩ = false ∧ w.heap.size < w1.heap.size := by
  have hs := h.size
  refine ⟨?_, ?_, ?_, ?_, by simp at hs; omega⟩
  · rw [h.cell (p := ⟨w.heap.size, 0, none⟩) (by simp)]; simp
  · rw [h.cell (p := ⟨w.heap.size, 1, none⟩) (by simp)]; simp
  · rw [h.frozen (p := ⟨w.heap.size, 0, none⟩) (by simp)]; simp
  · rw [h.frozen (p := ⟨w.heap.size, 1, none⟩) (by simp)]; simp
theorem below_of {w w1 : World} {Z : Obj} (h : Below (w.alloc Z).heap.size (w.alloc Z) w1) : Below w.heap.size w w1 :=
  ((Below.refl _ _).alloc (Nat.le_refl _) Z).trans (h.mono (by simp))

theorem up_to_next {f : Nat → Int} {k : Nat} (h : ∀ j, j < k → f j = 0) (hk : f k = 0) (j : Nat) (hj : j < k + 1) : f j = 0 := by
  rcases Nat.lt_succ_iff_lt_or_eq.1 hj with g | g
  · exact h j g
  · rw [g]; exact hk
theorem bare_any (x : Int) (w : World) :
    Calls Tryz.prog 26 #[.int .i64 x] w fun e w' => e = .returned (.agg #[.int .i64 x, .int .i64 (-1)]) ∧ Below w.heap.size w w' := by
  go_enter Tryz.func26, Tryz.ntmps26
  go_wp2
  exact bodyPost_ret (v := .agg #[.int .i64 x, .int .i64 (-1)]) (by simp [results, Tryz.results26, go_sem]) rfl ⟨rfl, (Below.refl _ _).alloc (Nat.le_refl _) _⟩
theorem refCheck_limit (a : Option Addr) (len cap : Nat) (h : len < 1 ∨ 200 < len) (w : World) :
    Calls Tryz.prog 25 #[.slice a len cap] w fun e w' => e = .returned (.agg #[.int .i64 4, .int .i64 (-1)]) ∧ Below w.heap.size w w' := by
  rcases h with h | h
  · obtain rfl : len = 0 := by omega
    go_enter Tryz.func25, Tryz.ntmps25
    go_wp2_with (first | (go_at_call 26; refine (bare_any _ _).mono ?_; rintro e w1 ⟨rfl, hb1⟩; obtain ⟨q0, q1, q2, q3, q4⟩ := fault_cells hb1) | go_in)
    exact bodyPost_ret (v := .agg #[.int .i64 4, .int .i64 (-1)]) (by simp [results, Tryz.results25, go_sem, q0, q1]) rfl ⟨rfl, ((below_of hb1).setCell (Nat.le_refl _) _).setCell (Nat.le_refl _) _⟩
  · have z0 : decide (1 ≤ (len : Int)) = true := by simp; omega
    have z1 : decide ((len : Int) ≤ 200) = false := by simp; omega
    go_enter Tryz.func25, Tryz.ntmps25
    go_wp2_with (first | (go_at_call 26; refine (bare_any _ _).mono ?_; rintro e w1 ⟨rfl, hb1⟩; obtain ⟨q0, q1, q2, q3, q4⟩ := fault_cells hb1) | go_in)
    exact bodyPost_ret (v := .agg #[.int .i64 4, .int .i64 (-1)]) (by simp [results, Tryz.results25, go_sem, q0, q1]) rfl ⟨rfl, ((below_of hb1).setCell (Nat.le_refl _) _).setCell (Nat.le_refl _) _⟩
section
variable {len : Nat} {C D S : Nat → Int} {R : Nat → Bool} {O N : Nat → Int} {k : Nat}
theorem fault_alone (h : aloneV (C k) (D k) (S k) (R k) (O k) (N k) ≠ 0) : faultAt len C D S R O N k = aloneV (C k) (D k) (S k) (R k) (O k) (N k) := wrong_alone rfl h
theorem fault_lead (h : aloneV (C k) (D k) (S k) (R k) (O k) (N k) = 0) (h1 : C k = 14 ∨ (15 ≤ C k ∧ C k ≤ 24)) (h2 : O k < 0 ∨ (len : Int) - 2 - k < O k) : faultAt len C D S R O N k = 10 := by
  unfold faultAt; rw [wrong_rest h, if_pos ⟨h1, by omega⟩]
theorem fault_last (h : aloneV (C k) (D k) (S k) (R k) (O k) (N k) = 0) (h1 : ¬ (C k = 14 ∨ (15 ≤ C k ∧ C k ≤ 24)) ∨ (0 ≤ O k ∧ O k ≤ (len : Int) - 2 - k)) (h2 : (k : Int) = len - 1) (h3 : C k ≠ 28) : faultAt len C D S R O N k = 8 := by
  unfold faultAt; rw [wrong_rest h, if_neg (by omega), if_pos ⟨by omega, h3⟩]
theorem fault_none (h : aloneV (C k) (D k) (S k) (R k) (O k) (N k) = 0) (h1 : ¬ (C k = 14 ∨ (15 ≤ C k ∧ C k ≤ 24)) ∨ (0 ≤ O k ∧ O k ≤ (len : Int) - 2 - k)) (h2 : (k : Int) ≠ len - 1 ∨ C k = 28) : faultAt len C D S R O N k = 0 := by
  unfold faultAt; rw [wrong_rest h, if_neg (by omega), if_neg (by omega)]
end
set_option maxHeartbeats 2000000 in
theorem refCheck_steps (bk off len cap : Nat) (C D S O N : Nat → Int) (R : Nat → Bool) (w : World) (h1 : 1 ≤ len) (h2 : len ≤ 200) (hbk : bk < w.heap.size) (hst : StepsAt w bk off len C D S R O N) :
    Calls Tryz.prog 25 #[.slice (some ⟨bk, off, none⟩) len cap] w fun e w' => Below w.heap.size w w' ∧
      ((e = .returned (.agg #[.int .i64 0, .int .i64 (-1)]) ∧ ∀ j, j < len → faultAt len C D S R O N j = 0) ∨
       (∃ i, i < len ∧ (∀ j, j < i → faultAt len C D S R O N j = 0) ∧ faultAt len C D S R O N i ≠ 0 ∧ e = .returned (.agg #[.int .i64 (faultAt len C D S R O N i), .int .i64 i]))) := by
  have z0 : decide (1 ≤ (len : Int)) = true := by simp; omega
  have z1 : decide ((len : Int) ≤ 200) = true := by simp; omega
  go_enter Tryz.func25, Tryz.ntmps25
  go_wp2
  go_loopw [14] (fun i wr => ∃ k : Nat, k ≤ len ∧ i = .int .i64 k ∧ Below (w.alloc (.cells #[.int .i64 0, .int .i64 0] 25)).heap.size (w.alloc (.cells #[.int .i64 0, .int .i64 0] 25)) wr ∧ ∀ j, j < k → faultAt len C D S R O N j = 0) (fun i _ => len - (intOf i).toNat)
  case atStart => exact ⟨0, Nat.zero_le _, rfl, Below.refl _ _, fun j hj => absurd hj (Nat.not_lt_zero _)⟩
  case round =>
    obtain ⟨k, hk, rfl, hb, hno⟩ := hrel
    have hbw := below_of hb
    by_cases hlt : k < len
    · obtain ⟨g0, g1, g2, g3, g4, g5⟩ := hst.later hbw hbk k hlt
      have hsz := hbw.size
      by_cases hal : aloneV (C k) (D k) (S k) (R k) (O k) (N k) = 0
      · have hw2 : (aloneV (C k) (D k) (S k) (R k) (O k) (N k) != 0) = false := by simp [hal]
        have HA : Hid (aloneV (C k) (D k) (S k) (R k) (O k) (N k) = 0) := hal
        clear hal
        by_cases h14 : C k = 14
        · have e14 : (C k == 14) = true := by simp [h14]
          have HL : Hid (C k = 14 ∨ (15 ≤ C k ∧ C k ≤ 24)) := Or.inl h14
          clear h14
          by_cases ho : O k < 0
          · have x1 : decide (O k < 0) = true := by simpa using ho
            have HN : Hid (faultAt len C D S R O N k = 10) := fault_lead HA.out HL.out (Or.inl ho)
            go_wp2_with (first | (go_at_call 50; refine (refWrong_any _ _ _ _ _ _ _).mono ?_; rintro e w1 ⟨rfl, hb1⟩; obtain ⟨hcl, hfr⟩ := old_cells hb1; obtain ⟨q0, q1, q2, q3, q4⟩ := fault_cells (later_too hb hb1)) | go_in)
            refine bodyPost_ret (v := .agg #[.int .i64 10, .int .i64 k]) (by simp [results, Tryz.results25, go_sem, q0, q1]) rfl ⟨((below_of (later_too hb hb1)).setCell (Nat.le_refl _) _).setCell (Nat.le_refl _) _, Or.inr ⟨k, hlt, hno, ?_, ?_⟩⟩
            · rw [HN.out]; decide
            · rw [HN.out]
          · have x1 : decide (O k < 0) = false := by simpa using ho
            by_cases ho2 : (len : Int) - 2 - k < O k
            · have x2 : decide ((len : Int) - 2 - k < O k) = true := by simpa using ho2
              have HN : Hid (faultAt len C D S R O N k = 10) := fault_lead HA.out HL.out (Or.inr ho2)
              go_wp2_with (first | (go_at_call 50; refine (refWrong_any _ _ _ _ _ _ _).mono ?_; rintro e w1 ⟨rfl, hb1⟩; obtain ⟨hcl, hfr⟩ := old_cells hb1; obtain ⟨q0, q1, q2, q3, q4⟩ := fault_cells (later_too hb hb1)) | go_in)
              refine bodyPost_ret (v := .agg #[.int .i64 10, .int .i64 k]) (by simp [results, Tryz.results25, go_sem, q0, q1]) rfl ⟨((below_of (later_too hb hb1)).setCell (Nat.le_refl _) _).setCell (Nat.le_refl _) _, Or.inr ⟨k, hlt, hno, ?_, ?_⟩⟩
              · rw [HN.out]; decide
              · rw [HN.out]
            · have x2 : decide ((len : Int) - 2 - k < O k) = false := by simpa using ho2
              have HO : Hid (0 ≤ O k ∧ O k ≤ (len : Int) - 2 - k) := ⟨by omega, by omega⟩
              clear ho ho2
              by_cases hl : (k : Int) = len - 1
              · have y1 : ((k : Int) == (len : Int) - 1) = true := by simp [hl]
                by_cases h28 : C k = 28
                · have y2 : (C k != 28) = false := by simp [h28]
                  have HN : Hid (faultAt len C D S R O N k = 0) := fault_none HA.out (Or.inr HO.out) (Or.inr h28)
                  clear hl h28
                  go_wp2_with (first | (go_at_call 50; refine (refWrong_any _ _ _ _ _ _ _).mono ?_; rintro e w1 ⟨rfl, hb1⟩; obtain ⟨hcl, hfr⟩ := old_cells hb1; obtain ⟨q0, q1, q2, q3, q4⟩ := fault_cells (later_too hb hb1)) | go_in)
                  go_roundw
                  case rel => first | exact ⟨k + 1, by omega, by go_num, later_too hb hb1, up_to_next hno HN.out⟩ | ((repeat apply Exists.intro); exact ⟨⟨k + 1, by omega, by go_num, later_too hb hb1, up_to_next hno HN.out⟩, rfl⟩)
                  case measure => simp [intOf]; omega
                · have y2 : (C k != 28) = true := by simp [h28]
                  have HN : Hid (faultAt len C D S R O N k = 8) := fault_last HA.out (Or.inr HO.out) hl h28
                  clear hl h28
                  go_wp2_with (first | (go_at_call 50; refine (refWrong_any _ _ _ _ _ _ _).mono ?_; rintro e w1 ⟨rfl, hb1⟩; obtain ⟨hcl, hfr⟩ := old_cells hb1; obtain ⟨q0, q1, q2, q3, q4⟩ := fault_cells (later_too hb hb1)) | go_in)
                  refine bodyPost_ret (v := .agg #[.int .i64 8, .int .i64 k]) (by simp [results, Tryz.results25, go_sem, q0, q1]) rfl ⟨((below_of (later_too hb hb1)).setCell (Nat.le_refl _) _).setCell (Nat.le_refl _) _, Or.inr ⟨k, hlt, hno, ?_, ?_⟩⟩
                  · rw [HN.out]; decide
                  · rw [HN.out]
              · have y1 : ((k : Int) == (len : Int) - 1) = false := by simp [hl]
                have HN : Hid (faultAt len C D S R O N k = 0) := fault_none HA.out (Or.inr HO.out) (Or.inl hl)
                clear hl
                go_wp2_with (first | (go_at_call 50; refine (refWrong_any _ _ _ _ _ _ _).mono ?_; rintro e w1 ⟨rfl, hb1⟩; obtain ⟨hcl, hfr⟩ := old_cells hb1; obtain ⟨q0, q1, q2, q3, q4⟩ := fault_cells (later_too hb hb1)) | go_in)
                go_roundw
                case rel => first | exact ⟨k + 1, by omega, by go_num, later_too hb hb1, up_to_next hno HN.out⟩ | ((repeat apply Exists.intro); exact ⟨⟨k + 1, by omega, by go_num, later_too hb hb1, up_to_next hno HN.out⟩, rfl⟩)
                case measure => simp [intOf]; omega
        · have e14 : (C k == 14) = false := by simp [h14]
          by_cases h15 : 15 ≤ C k
          · have e15 : decide (15 ≤ C k) = true := by simpa using h15
            by_cases h24 : C k ≤ 24
            · have e24 : decide (C k ≤ 24) = true := by simpa using h24
              have HL : Hid (C k = 14 ∨ (15 ≤ C k ∧ C k ≤ 24)) := Or.inr ⟨h15, h24⟩
              clear h14 h15 h24
              by_cases ho : O k < 0
              · have x1 : decide (O k < 0) = true := by simpa using ho
                have HN : Hid (faultAt len C D S R O N k = 10) := fault_lead HA.out HL.out (Or.inl ho)
                go_wp2_with (first | (go_at_call 50; refine (refWrong_any _ _ _ _ _ _ _).mono ?_; rintro e w1 ⟨rfl, hb1⟩; obtain ⟨hcl, hfr⟩ := old_cells hb1; obtain ⟨q0, q1, q2, q3, q4⟩ := fault_cells (later_too hb hb1)) | go_in)
                refine bodyPost_ret (v := .agg #[.int .i64 10, .int .i64 k]) (by simp [results, Tryz.results25, go_sem, q0, q1]) rfl ⟨((below_of (later_too hb hb1)).setCell (Nat.le_refl _) _).setCell (Nat.le_refl _) _, Or.inr ⟨k, hlt, hno, ?_, ?_⟩⟩
                · rw [HN.out]; decide
                · rw [HN.out]
              · have x1 : decide (O k < 0) = false := by simpa using ho
                by_cases ho2 : (len : Int) - 2 - k < O k
                · have x2 : decide ((len : Int) - 2 - k < O k) = true := by simpa using ho2
                  have HN : Hid (faultAt len C D S R O N k = 10) := fault_lead HA.out HL.out (Or.inr ho2)
                  go_wp2_with (first | (go_at_call 50; refine (refWrong_any _ _ _ _ _ _ _).mono ?_; rintro e w1 ⟨rfl, hb1⟩; obtain ⟨hcl, hfr⟩ := old_cells hb1; obtain ⟨q0, q1, q2, q3, q4⟩ := fault_cells (later_too hb hb1)) | go_in)
                  refine bodyPost_ret (v := .agg #[.int .i64 10, .int .i64 k]) (by simp [results, Tryz.results25, go_sem, q0, q1]) rfl ⟨((below_of (later_too hb hb1)).setCell (Nat.le_refl _) _).setCell (Nat.le_refl _) _, Or.inr ⟨k, hlt, hno, ?_, ?_⟩⟩
                  · rw [HN.out]; decide
                  · rw [HN.out]
                · have x2 : decide ((len : Int) - 2 - k < O k) = false := by simpa using ho2
                  have HO : Hid (0 ≤ O k ∧ O k ≤ (len : Int) - 2 - k) := ⟨by omega, by omega⟩
                  clear ho ho2
                  by_cases hl : (k : Int) = len - 1
                  · have y1 : ((k : Int) == (len : Int) - 1) = true := by simp [hl]
                    by_cases h28 : C k = 28
                    · have y2 : (C k != 28) = false := by simp [h28]
                      have HN : Hid (faultAt len C D S R O N k = 0) := fault_none HA.out (Or.inr HO.out) (Or.inr h28)
                      clear hl h28
                      go_wp2_with (first | (go_at_call 50; refine (refWrong_any _ _ _ _ _ _ _).mono ?_; rintro e w1 ⟨rfl, hb1⟩; obtain ⟨hcl, hfr⟩ := old_cells hb1; obtain ⟨q0, q1, q2, q3, q4⟩ := fault_cells (later_too hb hb1)) | go_in)
                      go_roundw
                      case rel => first | exact ⟨k + 1, by omega, by go_num, later_too hb hb1, up_to_next hno HN.out⟩ | ((repeat apply Exists.intro); exact ⟨⟨k + 1, by omega, by go_num, later_too hb hb1, up_to_next hno HN.out⟩, rfl⟩)
                      case measure => simp [intOf]; omega
                    · have y2 : (C k != 28) = true := by simp [h28]
                      have HN : Hid (faultAt len C D S R O N k = 8) := fault_last HA.out (Or.inr HO.out) hl h28
                      clear hl h28
                      go_wp2_with (first | (go_at_call 50; refine (refWrong_any _ _ _ _ _ _ _).mono ?_; rintro e w1 ⟨rfl, hb1⟩; obtain ⟨hcl, hfr⟩ := old_cells hb1; obtain ⟨q0, q1, q2, q3, q4⟩ := fault_cells (later_too hb hb1)) | go_in)
                      refine bodyPost_ret (v := .agg #[.int .i64 8, .int .i64 k]) (by simp [results, Tryz.results25, go_sem, q0, q1]) rfl ⟨((below_of (later_too hb hb1)).setCell (Nat.le_refl _) _).setCell (Nat.le_refl _) _, Or.inr ⟨k, hlt, hno, ?_, ?_⟩⟩
                      · rw [HN.out]; decide
                      · rw [HN.out]
                  · have y1 : ((k : Int) == (len : Int) - 1) = false := by simp [hl]
                    have HN : Hid (faultAt len C D S R O N k = 0) := fault_none HA.out (Or.inr HO.out) (Or.inl hl)
                    clear hl
                    go_wp2_with (first | (go_at_call 50; refine (refWrong_any _ _ _ _ _ _ _).mono ?_; rintro e w1 ⟨rfl, hb1⟩; obtain ⟨hcl, hfr⟩ := old_cells hb1; obtain ⟨q0, q1, q2, q3, q4⟩ := fault_cells (later_too hb hb1)) | go_in)
                    go_roundw
                    case rel => first | exact ⟨k + 1, by omega, by go_num, later_too hb hb1, up_to_next hno HN.out⟩ | ((repeat apply Exists.intro); exact ⟨⟨k + 1, by omega, by go_num, later_too hb hb1, up_to_next hno HN.out⟩, rfl⟩)
                    case measure => simp [intOf]; omega
            · have e24 : decide (C k ≤ 24) = false := by simpa using h24
              have HL : Hid (¬ (C k = 14 ∨ (15 ≤ C k ∧ C k ≤ 24))) := fun h => by omega
              clear h14 h15 h24
              by_cases hl : (k : Int) = len - 1
              · have y1 : ((k : Int) == (len : Int) - 1) = true := by simp [hl]
                by_cases h28 : C k = 28
                · have y2 : (C k != 28) = false := by simp [h28]
                  have HN : Hid (faultAt len C D S R O N k = 0) := fault_none HA.out (Or.inl HL.out) (Or.inr h28)
                  clear hl h28
                  go_wp2_with (first | (go_at_call 50; refine (refWrong_any _ _ _ _ _ _ _).mono ?_; rintro e w1 ⟨rfl, hb1⟩; obtain ⟨hcl, hfr⟩ := old_cells hb1; obtain ⟨q0, q1, q2, q3, q4⟩ := fault_cells (later_too hb hb1)) | go_in)
                  go_roundw
                  case rel => first | exact ⟨k + 1, by omega, by go_num, later_too hb hb1, up_to_next hno HN.out⟩ | ((repeat apply Exists.intro); exact ⟨⟨k + 1, by omega, by go_num, later_too hb hb1, up_to_next hno HN.out⟩, rfl⟩)
                  case measure => simp [intOf]; omega
                · have y2 : (C k != 28) = true := by simp [h28]
                  have HN : Hid (faultAt len C D S R O N k = 8) := fault_last HA.out (Or.inl HL.out) hl h28
                  clear hl h28
                  go_wp2_with (first | (go_at_call 50; refine (refWrong_any _ _ _ _ _ _ _).mono ?_; rintro e w1 ⟨rfl, hb1⟩; obtain ⟨hcl, hfr⟩ := old_cells hb1; obtain ⟨q0, q1, q2, q3, q4⟩ := fault_cells (later_too hb hb1)) | go_in)
                  refine bodyPost_ret (v := .agg #[.int .i64 8, .int .i64 k]) (by simp [results, Tryz.results25, go_sem, q0, q1]) rfl ⟨((below_of (later_too hb hb1)).setCell (Nat.le_refl _) _).setCell (Nat.le_refl _) _, Or.inr ⟨k, hlt, hno, ?_, ?_⟩⟩
                  · rw [HN.out]; decide
                  · rw [HN.out]
              · have y1 : ((k : Int) == (len : Int) - 1) = false := by simp [hl]
                have HN : Hid (faultAt len C D S R O N k = 0) := fault_none HA.out (Or.inl HL.out) (Or.inl hl)
                clear hl
                go_wp2_with (first | (go_at_call 50; refine (refWrong_any _ _ _ _ _ _ _).mono ?_; rintro e w1 ⟨rfl, hb1⟩; obtain ⟨hcl, hfr⟩ := old_cells hb1; obtain ⟨q0, q1, q2, q3, q4⟩ := fault_cells (later_too hb hb1)) | go_in)
                go_roundw
                case rel => first | exact ⟨k + 1, by omega, by go_num, later_too hb hb1, up_to_next hno HN.out⟩ | ((repeat apply Exists.intro); exact ⟨⟨k + 1, by omega, by go_num, later_too hb hb1, up_to_next hno HN.out⟩, rfl⟩)
                case measure => simp [intOf]; omega
          · have e15 : decide (15 ≤ C k) = false := by simpa using h15
            have HL : Hid (¬ (C k = 14 ∨ (15 ≤ C k ∧ C k ≤ 24))) := fun h => by omega
            clear h14 h15
            by_cases hl : (k : Int) = len - 1
            · have y1 : ((k : Int) == (len : Int) - 1) = true := by simp [hl]
              by_cases h28 : C k = 28
              · have y2 : (C k != 28) = false := by simp [h28]
                have HN : Hid (faultAt len C D S R O N k = 0) := fault_none HA.out (Or.inl HL.out) (Or.inr h28)
                clear hl h28
                go_wp2_with (first | (go_at_call 50; refine (refWrong_any _ _ _ _ _ _ _).mono ?_; rintro e w1 ⟨rfl, hb1⟩; obtain ⟨hcl, hfr⟩ := old_cells hb1; obtain ⟨q0, q1, q2, q3, q4⟩ := fault_cells (later_too hb hb1)) | go_in)
                go_roundw
                case rel => first | exact ⟨k + 1, by omega, by go_num, later_too hb hb1, up_to_next hno HN.out⟩ | ((repeat apply Exists.intro); exact ⟨⟨k + 1, by omega, by go_num, later_too hb hb1, up_to_next hno HN.out⟩, rfl⟩)
                case measure => simp [intOf]; omega
              · have y2 : (C k != 28) = true := by simp [h28]
                have HN : Hid (faultAt len C D S R O N k = 8) := fault_last HA.out (Or.inl HL.out) hl h28
                clear hl h28
                go_wp2_with (first | (go_at_call 50; refine (refWrong_any _ _ _ _ _ _ _).mono ?_; rintro e w1 ⟨rfl, hb1⟩; obtain ⟨hcl, hfr⟩ := old_cells hb1; obtain ⟨q0, q1, q2, q3, q4⟩ := fault_cells (later_too hb hb1)) | go_in)
                refine bodyPost_ret (v := .agg #[.int .i64 8, .int .i64 k]) (by simp [results, Tryz.results25, go_sem, q0, q1]) rfl ⟨((below_of (later_too hb hb1)).setCell (Nat.le_refl _) _).setCell (Nat.le_refl _) _, Or.inr ⟨k, hlt, hno, ?_, ?_⟩⟩
                · rw [HN.out]; decide
                · rw [HN.out]
            · have y1 : ((k : Int) == (len : Int) - 1) = false := by simp [hl]
              have HN : Hid (faultAt len C D S R O N k = 0) := fault_none HA.out (Or.inl HL.out) (Or.inl hl)
              clear hl
              go_wp2_with (first | (go_at_call 50; refine (refWrong_any _ _ _ _ _ _ _).mono ?_; rintro e w1 ⟨rfl, hb1⟩; obtain ⟨hcl, hfr⟩ := old_cells hb1; obtain ⟨q0, q1, q2, q3, q4⟩ := fault_cells (later_too hb hb1)) | go_in)
              go_roundw
              case rel => first | exact ⟨k + 1, by omega, by go_num, later_too hb hb1, up_to_next hno HN.out⟩ | ((repeat apply Exists.intro); exact ⟨⟨k + 1, by omega, by go_num, later_too hb hb1, up_to_next hno HN.out⟩, rfl⟩)
              case measure => simp [intOf]; omega
      · have hw2 : (aloneV (C k) (D k) (S k) (R k) (O k) (N k) != 0) = true := by simp [hal]
        have HA : Hid (aloneV (C k) (D k) (S k) (R k) (O k) (N k) ≠ 0) := hal
        have HN : Hid (faultAt len C D S R O N k = aloneV (C k) (D k) (S k) (R k) (O k) (N k)) := fault_alone hal
        clear hal
        go_wp2_with (first | (go_at_call 50; refine (refWrong_any _ _ _ _ _ _ _).mono ?_; rintro e w1 ⟨rfl, hb1⟩; obtain ⟨hcl, hfr⟩ := old_cells hb1; obtain ⟨q0, q1, q2, q3, q4⟩ := fault_cells (later_too hb hb1)) | go_in)
        refine bodyPost_ret (v := .agg #[.int .i64 (aloneV (C k) (D k) (S k) (R k) (O k) (N k)), .int .i64 k]) (by simp [results, Tryz.results25, go_sem, q0, q1]) rfl ⟨((below_of (later_too hb hb1)).setCell (Nat.le_refl _) _).setCell (Nat.le_refl _) _, Or.inr ⟨k, hlt, hno, ?_, ?_⟩⟩
        · rw [HN.out]; exact HA.out
        · rw [HN.out]
    · obtain rfl : k = len := by omega
      go_wp2_with (first | (go_at_call 26; refine (bare_any _ _).mono ?_; rintro e w1 ⟨rfl, hb1⟩; obtain ⟨q0, q1, q2, q3, q4⟩ := fault_cells (hb.trans (hb1.mono hb.size))) | go_in)
      exact bodyPost_ret (v := .agg #[.int .i64 0, .int .i64 (-1)]) (by simp [results, Tryz.results25, go_sem, q0, q1]) rfl ⟨((below_of (hb.trans (hb1.mono hb.size))).setCell (Nat.le_refl _) _).setCell (Nat.le_refl _) _, Or.inl ⟨rfl, hno⟩⟩
end Go.Proofs.YtegeiicginpdbaaGreatDoor
