/-
  The document's small readers: what Number and register return; the world below is as it was. Conditions: the tables lie in memory, the library's two errors are errors, words are short.
-/
import Derived.Test.YtegeiicginpdbaaGreatDoorLeaf
import Derived.Test.YtegeiicginpdbaaGreatDoorRefNum
namespace Go.Proofs.YtegeiicginpdbaaGreatDoor
open Go.ChangeShapes Go.WideShapes Go.ChangeAt Go.RowKit
variable {ex : Ext}
theorem rnumber_some {b : ByteArray} {v : Int} (h : numOf b = some v) (w : World) (hb : b.size ≤ 100000) (hT : Tabs ex w) :
    Calls Tryz.prog 47 #[.string b] w fun e w' => e = .returned (.tuple #[.int .i64 v, .bool true]) ∧ Below w.heap.size w w' := by
  have hF := Fine.start hT
  obtain ⟨⟨v1, v2⟩, rfl⟩ := numOf_some h
  have HP : Hid (Lib.parseIntB 64 (numB v).data.toList = .ok v) := by rw [numB_list]; exact parse_itoa v ⟨v1, v2⟩
  clear h
  go_enter Tryz.func47, Tryz.ntmps47
  go_wp2_with (first
    | (go_at_call 82; refine (parse_ok HP.out _ hb).mono ?_; rintro e w1 ⟨rfl, hb1⟩)
    | (go_at_call 81; refine (num_any _ _ v1 v2 (hF.call hb1).tabs).mono ?_; rintro e w2 ⟨rfl, hb2⟩))
  go_ret2
  exact ⟨rfl, ((hF.call hb1).call hb2).bel⟩
theorem rnumber_none (he : ∀ w, ex.holds w → ErrTabs w) {b : ByteArray} (hno : numOf b = none) (w : World) (hb : b.size ≤ 100000) (hT : Tabs ex w) :
    Calls Tryz.prog 47 #[.string b] w fun e w' => (∃ v, e = .returned (.tuple #[.int .i64 v, .bool false])) ∧ Below w.heap.size w w' := by
  have hF := Fine.start hT
  by_cases hok : ∃ v, Lib.parseIntB 64 b.data.toList = .ok v
  · obtain ⟨v, h⟩ := hok
    have hv := Lib.parseIntB_bounds (B := 64) h
    have v1 : -9223372036854775808 ≤ v := by have := hv.1; simp at this; omega
    have v2 : v ≤ 9223372036854775807 := by have := hv.2; simp at this; omega
    have HP : Hid (Lib.parseIntB 64 b.data.toList = .ok v) := h
    clear h hv
    have hbv : numB v ≠ b := fun e => by
      unfold numOf at hno; rw [HP.out] at hno; simp [e] at hno
    have hq := other_text hbv
    clear hno hbv
    go_enter Tryz.func47, Tryz.ntmps47
    go_wp2_with (first
      | (go_at_call 82; refine (parse_ok HP.out _ hb).mono ?_; rintro e w1 ⟨rfl, hb1⟩)
      | (go_at_call 81; refine (num_any _ _ v1 v2 (hF.call hb1).tabs).mono ?_; rintro e w2 ⟨rfl, hb2⟩))
    go_ret2
    exact ⟨⟨_, rfl⟩, ((hF.call hb1).call hb2).bel⟩
  · have hn : ∀ v, Lib.parseIntB 64 b.data.toList ≠ .ok v := fun v e => hok ⟨v, e⟩
    clear hok hno
    go_enter Tryz.func47, Tryz.ntmps47
    go_wp2_with (go_at_call 82; refine (parse_no he hn _ hb hT).mono ?_; rintro e w1 ⟨⟨v, t, p, rfl⟩, hb1⟩)
    go_ret2
    exact ⟨⟨_, rfl⟩, hb1⟩
theorem reg_spelt (k : Int) : regB k = ⟨#[114]⟩ ++ numB k := rfl
theorem rregister_any (b : ByteArray) (w : World) (hT : Tabs ex w) :
    Calls Tryz.prog 46 #[.string b] w fun e w' => e = .returned (.tuple #[.int .i64 (((regOf b).getD 0 : Nat) : Int), .bool (regOf b).isSome]) ∧ Below w.heap.size w w' := by
  have hF := Fine.start hT
  go_enter Tryz.func46, Tryz.ntmps46
  go_wp2
  go_loopw [5] (fun i wr => ∃ k : Nat, k ≤ 11 ∧ i = .int .i64 k ∧ Fine ex w wr ∧ ∀ j : Nat, j < k → b ≠ regB j) (fun i _ => 11 - (intOf i).toNat)
  case atStart => exact ⟨0, by omega, rfl, hF, fun j hj => absurd hj (Nat.not_lt_zero _)⟩
  case round =>
    obtain ⟨k, hk, rfl, hFr, hno⟩ := hrel
    by_cases hlt : k < 11
    · have hf := fits_small hlt
      have hz := numB_size k hf.1 hf.2
      by_cases hbk : b = regB k
      · have HR : Hid (regOf b = some k) := regOf_first hlt hbk
        have HB : Hid (b = regB k) := hbk
        have hq : (b.toList == ((⟨#[114]⟩ : ByteArray) ++ numB k).toList) = true := by rw [hbk, reg_spelt]; simp
        clear hbk hno
        go_wp2_with (go_at_call 81; refine (num_any _ _ hf.1 hf.2 hFr.tabs).mono ?_; rintro e w1 ⟨rfl, hb1⟩)
        go_ret2
        exact ⟨by rw [HR.out]; rfl, (hFr.call hb1).bel⟩
      · have hq : (b.toList == ((⟨#[114]⟩ : ByteArray) ++ numB k).toList) = false := other_text hbk
        have HB : Hid (b ≠ regB k) := hbk
        clear hbk
        go_wp2_with (go_at_call 81; refine (num_any _ _ hf.1 hf.2 hFr.tabs).mono ?_; rintro e w1 ⟨rfl, hb1⟩)
        go_roundw
        case rel => exact ⟨k + 1, by omega, by go_num, hFr.call hb1, fun j hj => by
          rcases Nat.lt_succ_iff_lt_or_eq.1 hj with h | h
          · exact hno j h
          · rw [h]; exact HB.out⟩
        case measure => simp [intOf]; omega
    · have hkk : k = 11 := by omega
      subst hkk
      have HR : Hid (regOf b = none) := by
        show regOf b = none
        cases e : regOf b with
        | none => rfl
        | some r => exact absurd (regOf_some e).2 (hno r (regOf_some e).1)
      go_wp2
      go_ret2
      exact ⟨by rw [HR.out]; rfl, hFr.bel⟩
end Go.Proofs.YtegeiicginpdbaaGreatDoor
