/-
  A program as text: what asm.Write returns to a list of steps in memory: the steps' texts, with a semicolon and a blank between, or what op.Check returned; the world below is as it was. Conditions: the list's cells hold steps with numbers of 64 bits, the tables lie in memory.
-/
import Derived.Test.YtegeiicginpdbaaGreatDoorWritten
import Derived.Test.YtegeiicginpdbaaGreatDoorChecks
namespace Go.Proofs.YtegeiicginpdbaaGreatDoor
open Go.ChangeShapes Go.WideShapes Go.ChangeAt Go.RowKit
variable {ex : Ext}

theorem alone_none {c d s : Int} {r : Bool} {o n : Int} (h : aloneV c d s r o n = 0) : 1 ≤ c ∧ c ≤ 28 ∧ 0 ≤ d ∧ d ≤ 10 ∧ 0 ≤ s ∧ s ≤ 10 ∧ (c = 27 → n = 1 ∨ n = 2 ∨ n = 3) := by
  unfold aloneV at h
  split at h
  · cases h
  · split at h
    · cases h
    · split at h
      · cases h
      · split at h
        · cases h
        · rename_i h1 h2 h3 h4
          refine ⟨by omega, by omega, by omega, by omega, by omega, by omega, fun hc => ?_⟩
          have : ¬ (c = 27 ∧ n ≠ 1 ∧ n ≠ 2 ∧ n ≠ 3) := fun h => h4 (Or.inr h)
          omega
theorem fault_none_alone {len : Nat} {C D S : Nat → Int} {R : Nat → Bool} {O N : Nat → Int} {k : Nat} (h : faultAt len C D S R O N k = 0) : aloneV (C k) (D k) (S k) (R k) (O k) (N k) = 0 := by
  by_cases h0 : aloneV (C k) (D k) (S k) (R k) (O k) (N k) = 0
  · exact h0
  · exact absurd (fault_alone h0 ▸ h) h0
theorem fits_reg {x : Int} (h0 : 0 ≤ x) (h1 : x ≤ 10) : Fits x := ⟨by omega, by omega⟩
def textsOf (C D S : Nat → Int) (R : Nat → Bool) (O N : Nat → Int) (k : Nat) : List ByteArray := (List.range k).map fun i => stepB (C i) (D i) (S i) (R i) (O i) (N i)
def textB (C D S : Nat → Int) (R : Nat → Bool) (O N : Nat → Int) (len : Nat) : ByteArray := joinB (textsOf C D S R O N len) ⟨#[59, 32]⟩
theorem textsOf_succ (C D S O N : Nat → Int) (R : Nat → Bool) (k : Nat) : textsOf C D S R O N (k + 1) = textsOf C D S R O N k ++ [stepB (C k) (D k) (S k) (R k) (O k) (N k)] := by
  unfold textsOf
  rw [List.range_succ, List.map_append]; rfl
theorem textsOf_length (C D S O N : Nat → Int) (R : Nat → Bool) (k : Nat) : (textsOf C D S R O N k).length = k := by simp [textsOf]
section
variable {len : Nat} {C D S O N : Nat → Int} {R : Nat → Bool}
theorem textsOf_size (hno : ∀ j, j < len → faultAt len C D S R O N j = 0) (hfit : ∀ i, i < len → Fits (O i) ∧ Fits (N i)) : ∀ x ∈ textsOf C D S R O N len, x.size ≤ 184 := by
  intro x hx
  obtain ⟨i, hi, rfl⟩ := List.mem_map.1 hx
  have hi' := List.mem_range.1 hi
  obtain ⟨_, _, d1, d2, s1, s2, _⟩ := alone_none (fault_none_alone (hno i hi'))
  exact stepB_size _ _ _ _ _ _ (fits_reg d1 d2) (fits_reg s1 s2) (hfit i hi').1 (hfit i hi').2
theorem textB_size (h2 : len ≤ 200) (hno : ∀ j, j < len → faultAt len C D S R O N j = 0) (hfit : ∀ i, i < len → Fits (O i) ∧ Fits (N i)) : (textB C D S R O N len).size ≤ 37200 := by
  have h := joinB_size (textsOf C D S R O N len) ⟨#[59, 32]⟩ 184 (by decide) (textsOf_size hno hfit)
  rw [textsOf_length] at h
  unfold textB
  omega
end

/-! ### asm.Write -/
theorem write_limit (a : Option Addr) (len cap : Nat) (h : len < 1 ∨ 200 < len) (w : World) :
    Calls Tryz.prog 13 #[.slice a len cap] w fun e w' => e = .returned (.tuple #[.string ⟨#[]⟩, .iface 23 (.int .i64 4)]) ∧ w' = w := by
  go_enter Tryz.func13, Tryz.ntmps13
  go_wp2_with (go_at_call 18; refine (opCheck_limit _ _ _ h _).mono ?_; rintro e w1 ⟨rfl, rfl⟩)
  go_ret2
  exact ⟨rfl, rfl⟩
section
variable {bk off len cap : Nat} {C D S O N : Nat → Int} {R : Nat → Bool} {w : World}
theorem write_bad {i : Nat} (hi : i < len) (hno : ∀ j, j < i → faultAt len C D S R O N j = 0) (hf : faultAt len C D S R O N i ≠ 0) (hst : StepsAt w bk off len C D S R O N) (h1 : 1 ≤ len) (h2 : len ≤ 200) (hbk : bk < w.heap.size) :
    Calls Tryz.prog 13 #[.slice (some ⟨bk, off, none⟩) len cap] w fun e w' => ∃ p, e = .returned (.tuple #[.string ⟨#[]⟩, .iface 74 (.pointer (some ⟨p, 0, none⟩))]) ∧ Below w.heap.size w w' ∧ p < w'.heap.size ∧ w'.cell? ⟨p, 0, none⟩ = some (.int .i64 (faultAt len C D S R O N i)) ∧ w'.cell? ⟨p, 1, none⟩ = some (.int .i64 i) := by
  go_enter Tryz.func13, Tryz.ntmps13
  go_wp2_with (go_at_call 18; refine (opCheck_bad hi hno hf hst h1 h2 hbk).mono ?_; rintro e w1 ⟨p, rfl, hb1, hpl, hc0, hc1⟩)
  go_ret2
  exact ⟨p, rfl, hb1, hpl, hc0, hc1⟩
set_option maxHeartbeats 2000000 in
theorem write_fine (hno : ∀ j, j < len → faultAt len C D S R O N j = 0) (hfit : ∀ i, i < len → Fits (O i) ∧ Fits (N i)) (hst : StepsAt w bk off len C D S R O N) (h1 : 1 ≤ len) (h2 : len ≤ 200) (hbk : bk < w.heap.size) (hT : Tabs ex w) :
    Calls Tryz.prog 13 #[.slice (some ⟨bk, off, none⟩) len cap] w fun e w' => e = .returned (.tuple #[.string (textB C D S R O N len), .nilIface]) ∧ Below w.heap.size w w' := by
  have hF := Fine.start hT
  obtain ⟨i0, hi, hz0, hz1, hz2⟩ := info_parts Tryz.infoS
  go_enter Tryz.func13, Tryz.ntmps13
  go_wp2_with (go_at_call 18; refine (opCheck_fine hno hst h1 h2 hbk).mono ?_; rintro e w1 ⟨rfl, hb1⟩)
  have hF1 := hF.call hb1
  go_loopw [5, 15] (fun v i wr => ∃ k : Nat, k ≤ len ∧ i = .int .i64 k ∧ wr.ownsRow w.heap.size 9 1 v k ((textsOf C D S R O N k).map Value.string) ∧ Fine ex w wr) (fun _ i _ => len - (intOf i).toNat)
  case atStart => exact ⟨0, Nat.zero_le _, rfl, World.ownsRow_nil _ _ _ _, hF1⟩
  case round =>
    obtain ⟨k, hk, rfl, hown, hFr⟩ := hrel
    by_cases hlt : k < len
    · obtain ⟨g0, g1, g2, g3, g4, g5⟩ := hst.later hFr.bel hbk k hlt
      have hsz := hFr.bel.size
      have hbk' : bk < wr.heap.size := by omega
      obtain ⟨c1, c2, d1, d2, s1, s2, h27⟩ := alone_none (fault_none_alone (hno k hlt))
      have HT := textsOf_succ C D S O N R k
      have HT' : Hid (textsOf C D S R O N (k + 1) = textsOf C D S R O N k ++ [stepB (C k) (D k) (S k) (R k) (O k) (N k)]) := HT
      clear HT
      go_wp2_with (first
        | (go_at_call 30; refine (written_any _ _ _ _ _ _ _ c1 c2 (fits_reg d1 d2) (fits_reg s1 s2) (hfit k hlt).1 (hfit k hlt).2 h27 (hFr.alloc _).tabs).mono ?_; rintro e w2 ⟨rfl, hb2⟩)
        | (at_builtin; refine wpList_append_own _ rfl (.tmp 19) (.tmp 22) 64 rfl w.heap.size 9 i0 (.string ⟨#[]⟩) 1 16 Tryz.underlying64 hi hz0 hz1 hz2 rfl (by decide) _ _ _ rfl ((own_later (hown.alloc _) hb2).alloc _) ⟨w2.heap.size, 0, none⟩ 1 1 [.string (stepB (C k) (D k) (S k) (R k) (O k) (N k))] rfl rfl ?c1 ?c2 ?c3 ?c4 ?c5 ?_)
        | go_in)
      case c1 =>
        intro j u hj
        match j, hj with
        | 0, hj => simp at hj; subst hj; simp [Addr.add]
      case c2 => intro u hu; simp at hu; subst hu; rfl
      case c3 => unfold maxLen; omega
      case c4 => omega
      case c5 =>
        have h5 := hb2.size
        simp at h5 ⊢; omega
      · intro v' w3 hown' hgrow _
        have hF3 : Fine ex w w3 := Fine.grown (((hFr.alloc _).call hb2).alloc _) hgrow (own_from hown) hT.room
        have hown3 : w3.ownsRow w.heap.size 9 1 v' (k + 1) ((textsOf C D S R O N (k + 1)).map Value.string) := by rw [HT'.out, List.map_append]; exact hown'
        clear hown' hgrow hown hb2 g0 g1 g2 g3 g4 g5
        go_wp2
        go_roundw
        case rel => exact ⟨k + 1, by omega, by go_num, hown3, hF3⟩
        case measure => simp [intOf]; omega
    · have hkk : k = len := by omega
      subst hkk
      obtain ⟨g, cp, hv⟩ := own_shape hown (by omega)
      subst hv
      have hwl := textsOf_length C D S O N R k
      have hwz : ∀ x ∈ textsOf C D S R O N k, x.size ≤ 49998 := fun x hx => Nat.le_trans (textsOf_size hno hfit x hx) (by decide)
      go_wp2_with (go_at_call 31; refine (join_any g _ cp _ _ _ _ hown (by omega) (by decide) hwz).mono ?_; rintro e w2 ⟨rfl, hb2⟩)
      go_ret2
      exact ⟨rfl, (hFr.call hb2).bel⟩
end
end Go.Proofs.YtegeiicginpdbaaGreatDoor
