/-
  Two lists of numbers that are the same are told to be the same. Conditions: none.
-/
import Derived.Test.YtegeiicginpdbaaDoorMachRun
namespace Go.Proofs.YtegeiicginpdbaaDoor
open Go.ChangeShapes Go.WideShapes Go.ChangeAt Go.RowKit
attribute [local simp] drew_size drewN_size setCell_size
/-- Two rows that hold the same numbers. -/
def Twin (w : World) (pa pb : Option Addr) (n : Nat) : Prop :=
  n = 0 ∨ ∃ (ga gb : Nat) (L : Nat → Int), pa = some ⟨ga, 0, none⟩ ∧ pb = some ⟨gb, 0, none⟩ ∧ ∀ i, i < n → w.cell? ⟨ga, i, none⟩ = some (.int .i64 (L i)) ∧ w.cell? ⟨gb, i, none⟩ = some (.int .i64 (L i))
theorem own_cell {w : World} {b : Nat} {e : TypeId} {v : Value} {L : List Int} (h : w.ownsRow b e 1 v L.length (L.map (Value.int .i64))) : ∃ p c, v = .slice p L.length c ∧ (L.length = 0 ∨ ∃ g, p = some ⟨g, 0, none⟩ ∧ ∀ i, i < L.length → w.cell? ⟨g, i, none⟩ = some (.int .i64 (L.getD i 0))) := by
  rcases h.2 with ⟨hv, hn⟩ | ⟨g, cap, cur, hv, _, hh, hle, _, hs, ht⟩
  · exact ⟨none, 0, by rw [hv, hn], Or.inl hn⟩
  · refine ⟨some ⟨g, 0, none⟩, cap, hv, Or.inr ⟨g, rfl, fun i hi => ?_⟩⟩
    rw [cell_of_row w g i cur e _ hh]
    have e1 : (cur.toList.take (L.length * 1))[i]? = (L.map (Value.int .i64))[i]? := by rw [ht]
    rw [List.getElem?_take, if_pos (by omega), List.getElem?_map] at e1
    rw [← Array.getElem?_toList, e1, List.getElem?_eq_getElem hi]
    simp [List.getD, hi]
theorem own_room {w : World} {b : Nat} {e : TypeId} {v : Value} {L : List Int} (h : w.ownsRow b e 1 v L.length (L.map (Value.int .i64))) : (L.length : Int) ≤ 9223372036854775807 := by
  rcases h.2 with ⟨_, hn⟩ | ⟨g, cap, cur, _, _, _, hle, hm, _⟩
  · omega
  · unfold maxLen at hm; omega
theorem twin_of {w : World} {b b' : Nat} {e e' : TypeId} {v v' : Value} {L : List Int} (h : w.ownsRow b e 1 v L.length (L.map (Value.int .i64))) (h' : w.ownsRow b' e' 1 v' L.length (L.map (Value.int .i64))) : ∃ p c p' c', v = .slice p L.length c ∧ v' = .slice p' L.length c' ∧ Twin w p p' L.length := by
  obtain ⟨p, c, hv, k⟩ := own_cell h
  obtain ⟨p', c', hv', k'⟩ := own_cell h'
  refine ⟨p, c, p', c', hv, hv', ?_⟩
  rcases k with k | ⟨g, hp, k⟩
  · exact Or.inl k
  rcases k' with k' | ⟨g', hp', k'⟩
  · exact Or.inl k'
  · exact Or.inr ⟨g, g', fun i => L.getD i 0, hp, hp', fun i hi => ⟨k i hi, k' i hi⟩⟩
set_option maxHeartbeats 4000000 in
theorem same_any (pa pb : Option Addr) (n ca cb : Nat) (hn : (n : Int) ≤ 9223372036854775807) (w : World) (h : Twin w pa pb n) :
    Calls Tryd.prog 29 #[.slice pa n ca, .slice pb n cb] w fun e w' => e = .returned (.bool true) ∧ Below w.heap.size w w' := by
  have HT : Hid (Twin w pa pb n) := h
  clear h
  have z : ((n : Int) != (n : Int)) = false := by simp
  go_enter Tryd.func29, Tryd.ntmps29
  go_wp2_with fail
  go_loopw [5] (fun ix wr => ∃ k : Nat, k ≤ n ∧ ix = .int .i64 k ∧ Below w.heap.size w wr) (fun ix _ => n - (intOf ix).toNat)
  case atStart => exact ⟨0, Nat.zero_le _, rfl, Below.refl _ _⟩
  case round =>
    obtain ⟨k, hk, rfl, hb⟩ := hrel
    have hk0 : (0 : Int) ≤ (k : Int) := by omega
    by_cases hlt : k < n
    · rcases HT.out with h0 | ⟨ga, gb, L, ha, hb', hc⟩
      · omega
      subst ha
      subst hb'
      obtain ⟨c0, c1⟩ := hc k hlt
      have l0 := World.block_lt_of_cell? w _ c0
      have l1 := World.block_lt_of_cell? w _ c1
      have d0 := (hb.cell (p := ⟨ga, k, none⟩) l0).trans c0
      have d1 := (hb.cell (p := ⟨gb, k, none⟩) l1).trans c1
      have hk1 : (k : Int) < n := by omega
      have hk2 : (k : Int) + 1 ≤ 9223372036854775807 := by omega
      have zz : (L k != L k) = false := by simp
      clear hc c0 c1 HT
      go_wp2_with fail
      go_region
      all_goals go_wp2
      all_goals go_roundw
      case rel => exact ⟨k + 1, by omega, by go_num, by repeat' first | with_reducible exact hb | with_reducible refine Below.drew ?_⟩
      case measure => simp [intOf]; omega
    · obtain rfl : k = n := by omega
      go_wp2
      go_ret
      exact ⟨rfl, hb⟩
end Go.Proofs.YtegeiicginpdbaaDoor
