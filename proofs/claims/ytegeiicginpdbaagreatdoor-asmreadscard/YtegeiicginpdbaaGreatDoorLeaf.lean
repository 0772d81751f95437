/-
  The small readers: what asm.number, offset, register, codeOf and callOf return; the world below is as it was. Conditions: the tables lie in memory, the library's two errors are errors, words are short.
-/
import Derived.Test.YtegeiicginpdbaaGreatDoorForms
namespace Go.Proofs.YtegeiicginpdbaaGreatDoor
open Go.ChangeShapes Go.WideShapes Go.ChangeAt Go.RowKit
variable {ex : Ext}

/-- The library's errors for numbers that are none, or too great, are errors. -/
structure ErrTabs (w : World) : Prop where
  synt : ∃ te pe, w.cell? ⟨9, 0, none⟩ = some (.iface te pe)
  rang : ∃ te pe, w.cell? ⟨10, 0, none⟩ = some (.iface te pe)
theorem ErrTabs.on {w w' : World} {B : Nat} (h : ErrTabs w) (hb : Below B w w') (hB : 14 ≤ B) : ErrTabs w' := by
  obtain ⟨⟨t, p, h1⟩, ⟨t', p', h2⟩⟩ := h
  refine ⟨⟨t, p, ?_⟩, ⟨t', p', ?_⟩⟩
  · rw [hb.cell (p := ⟨9, 0, none⟩) (by show 9 < B; omega)]; exact h1
  · rw [hb.cell (p := ⟨10, 0, none⟩) (by show 10 < B; omega)]; exact h2
theorem below_bytes (w : World) (e : TypeId) (s : ByteArray) : Below w.heap.size w (Lib.bytesWorld w e s) :=
  ⟨rfl, rfl, rfl, by rw [Lib.bytesWorld_size]; omega, fun k hk => Lib.bytesWorld_at_old w e s k hk⟩
theorem parse_ok {b : ByteArray} {v : Int} (h : Lib.parseIntB 64 b.data.toList = .ok v) (w : World) (hb : b.size ≤ 100000) :
    Calls Tryz.prog 82 #[.string b, .int .i64 10, .int .i64 64] w fun e w' => e = .returned (.tuple #[.int .i64 v, .nilIface]) ∧ Below w.heap.size w w' := by
  refine (Tryz.strconv_ParseInt_10_at64_ok b (by omega) v h w).mono fun e w' hh => ?_
  obtain ⟨h1, h2⟩ := hh
  refine ⟨h1, ?_⟩
  rcases h2 with rfl | ⟨t, rfl⟩
  · exact Below.refl _ _
  · exact below_bytes w _ t
theorem parse_no (he : ∀ w, ex.holds w → ErrTabs w) {b : ByteArray} (h : ∀ v, Lib.parseIntB 64 b.data.toList ≠ .ok v) (w : World) (hb : b.size ≤ 100000) (hT : Tabs ex w) :
    Calls Tryz.prog 82 #[.string b, .int .i64 10, .int .i64 64] w fun e w' => (∃ v t p, e = .returned (.tuple #[.int .i64 v, .iface t p])) ∧ Below w.heap.size w w' := by
  cases h' : Lib.parseIntB 64 b.data.toList with
  | ok v => exact absurd h' (h v)
  | «syntax» =>
    obtain ⟨t, p, hv⟩ := (he w hT.ext).synt
    refine (Tryz.strconv_ParseInt_10_at64_syntax b (by omega) h' _ w hv (Or.inr ⟨t, p, rfl⟩)).mono fun e w' hh => ?_
    obtain ⟨N, h1, _, _, h2⟩ := hh
    exact ⟨⟨_, _, _, h1⟩, h2⟩
  | range =>
    obtain ⟨t, p, hv⟩ := (he w hT.ext).rang
    refine (Tryz.strconv_ParseInt_10_at64_range b (by omega) h' _ w hv (Or.inr ⟨t, p, rfl⟩)).mono fun e w' hh => ?_
    obtain ⟨N, h1, _, _, h2⟩ := hh
    exact ⟨⟨_, _, _, h1⟩, h2⟩
theorem other_text {a b : ByteArray} (h : a ≠ b) : (a.toList == b.toList) = false := by
  rw [beq_eq_false_iff_ne]
  intro e
  exact h (by rw [Lib.toList_data, Lib.toList_data] at e; exact ByteArray.ext (Array.ext' e))
theorem number_any (he : ∀ w, ex.holds w → ErrTabs w) (b : ByteArray) (w : World) (hb : b.size ≤ 100000) (hT : Tabs ex w) :
    Calls Tryz.prog 91 #[.string b] w fun e w' => e = .returned (.tuple #[.int .i64 ((numOf b).getD 0), .bool (numOf b).isSome]) ∧ Below w.heap.size w w' := by
  have hF := Fine.start hT
  by_cases hok : ∃ v, Lib.parseIntB 64 b.data.toList = .ok v
  · obtain ⟨v, h⟩ := hok
    have hv := Lib.parseIntB_bounds (B := 64) h
    have v1 : -9223372036854775808 ≤ v := by have := hv.1; simp at this; omega
    have v2 : v ≤ 9223372036854775807 := by have := hv.2; simp at this; omega
    have HP : Hid (Lib.parseIntB 64 b.data.toList = .ok v) := h
    clear h hv
    by_cases hbv : numB v = b
    · have hno : numOf b = some v := by unfold numOf; rw [HP.out]; simp [hbv]
      rw [hno]
      subst hbv
      clear hno
      go_enter Tryz.func91, Tryz.ntmps91
      go_wp2_with (first
        | (go_at_call 82; refine (parse_ok HP.out _ hb).mono ?_; rintro e w1 ⟨rfl, hb1⟩)
        | (go_at_call 96; refine (numberWord_any _ _ v1 v2 (hF.call hb1).tabs).mono ?_; rintro e w2 ⟨rfl, hb2⟩))
      go_ret2
      exact ⟨rfl, ((hF.call hb1).call hb2).bel⟩
    · have hno : numOf b = none := by unfold numOf; rw [HP.out]; simp [hbv]
      rw [hno]
      have hq := other_text hbv
      clear hno hbv
      go_enter Tryz.func91, Tryz.ntmps91
      go_wp2_with (first
        | (go_at_call 82; refine (parse_ok HP.out _ hb).mono ?_; rintro e w1 ⟨rfl, hb1⟩)
        | (go_at_call 96; refine (numberWord_any _ _ v1 v2 (hF.call hb1).tabs).mono ?_; rintro e w2 ⟨rfl, hb2⟩))
      go_ret2
      exact ⟨rfl, ((hF.call hb1).call hb2).bel⟩
  · have hn : ∀ v, Lib.parseIntB 64 b.data.toList ≠ .ok v := fun v e => hok ⟨v, e⟩
    have hno : numOf b = none := by
      unfold numOf
      split
      · rename_i v e; exact absurd e (hn v)
      · rfl
    rw [hno]
    clear hok hno
    go_enter Tryz.func91, Tryz.ntmps91
    go_wp2_with (go_at_call 82; refine (parse_no he hn _ hb hT).mono ?_; rintro e w1 ⟨⟨v, t, p, rfl⟩, hb1⟩)
    go_ret2
    exact ⟨rfl, hb1⟩
theorem offset_any (he : ∀ w, ex.holds w → ErrTabs w) (b : ByteArray) (w : World) (hb : b.size ≤ 100000) (hT : Tabs ex w) :
    Calls Tryz.prog 92 #[.string b] w fun e w' => e = .returned (.tuple #[.int .i64 ((numOf b).getD 0), .bool (numOf b).isSome]) ∧ Below w.heap.size w w' := by
  go_enter Tryz.func92, Tryz.ntmps92
  go_wp2_with (go_at_call 91; refine (number_any he _ _ hb hT).mono ?_; rintro e w1 ⟨rfl, hb1⟩)
  go_ret2
  exact ⟨rfl, hb1⟩
theorem regOf_first {b : ByteArray} {k : Nat} (hk : k < 11) (hb : b = regB k) : regOf b = some k := by rw [hb]; exact regOf_regB hk
theorem register_any (b : ByteArray) (w : World) (hT : Tabs ex w) :
    Calls Tryz.prog 90 #[.string b] w fun e w' => e = .returned (.tuple #[.int .i64 (((regOf b).getD 0 : Nat) : Int), .bool (regOf b).isSome]) ∧ Below w.heap.size w w' := by
  have hF := Fine.start hT
  go_enter Tryz.func90, Tryz.ntmps90
  go_wp2
  go_loopw [5] (fun i wr => ∃ k : Nat, k ≤ 11 ∧ i = .int .i64 k ∧ Fine ex w wr ∧ ∀ j : Nat, j < k → b ≠ regB j) (fun i _ => 11 - (intOf i).toNat)
  case atStart => exact ⟨0, by omega, rfl, hF, fun j hj => absurd hj (Nat.not_lt_zero _)⟩
  case round =>
    obtain ⟨k, hk, rfl, hFr, hno⟩ := hrel
    by_cases hlt : k < 11
    · have hf := fits_small hlt
      by_cases hbk : b = regB k
      · have HR : Hid (regOf b = some k) := regOf_first hlt hbk
        have HB : Hid (b = regB k) := hbk
        have hq : (b.toList == (regB k).toList) = true := by rw [hbk]; simp
        clear hbk hno
        go_wp2_with (go_at_call 95; refine (registerWord_any _ _ hf.1 hf.2 hFr.tabs).mono ?_; rintro e w1 ⟨rfl, hb1⟩)
        go_ret2
        exact ⟨by rw [HR.out]; rfl, (hFr.call hb1).bel⟩
      · have hq := other_text hbk
        have HB : Hid (b ≠ regB k) := hbk
        clear hbk
        go_wp2_with (go_at_call 95; refine (registerWord_any _ _ hf.1 hf.2 hFr.tabs).mono ?_; rintro e w1 ⟨rfl, hb1⟩)
        go_roundw
        case rel => exact ⟨k + 1, by omega, by go_num, hFr.call hb1, fun j hj => by
          rcases Nat.lt_succ_iff_lt_or_eq.1 hj with h | h
          · exact hno j h
          · rw [h]; exact HB.out⟩
        case measure => simp [intOf]; omega
    · have hkk : k = 11 := by omega
      subst hkk
      have HR : Hid (regOf b = none) := by
        show regOf b = none
        cases e : regOf b with
        | none => rfl
        | some r => exact absurd (regOf_some e).2 (hno r (regOf_some e).1)
      go_wp2
      go_ret2
      exact ⟨by rw [HR.out]; rfl, hFr.bel⟩
end Go.Proofs.YtegeiicginpdbaaGreatDoor
