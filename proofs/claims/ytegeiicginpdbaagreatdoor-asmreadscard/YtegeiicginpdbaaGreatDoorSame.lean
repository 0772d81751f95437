/-
  gatehousekeep.same and gatehouselaw.same at two lists that hold the same steps: true; the world below is as it was. Conditions: both lie in memory, below the heap's end; they are short.
-/
import Derived.Test.YtegeiicginpdbaaGreatDoorCheck
import Derived.RegionTactic
namespace Go.Proofs.YtegeiicginpdbaaGreatDoor
open Go.ChangeShapes Go.WideShapes Go.ChangeAt Go.RowKit
set_option maxHeartbeats 4000000 in
set_option maxRecDepth 100000 in
theorem keepSame (ga oa ca gb ob cb n : Nat) (C D S O N : Nat → Int) (R : Nat → Bool) (w : World) (hn : n ≤ 300) (ha : StepsAt w ga oa n C D S R O N) (hb : StepsAt w gb ob n C D S R O N) (hga : ga < w.heap.size) (hgb : gb < w.heap.size) :
    Calls Tryz.prog 14 #[.slice (some ⟨ga, oa, none⟩) n ca, .slice (some ⟨gb, ob, none⟩) n cb] w fun e w' => e = .returned (.bool true) ∧ Below w.heap.size w w' := by
  go_enter Tryz.func14, Tryz.ntmps14
  go_wp2
  go_loopw [5] (fun i wr => ∃ k : Nat, k ≤ n ∧ i = .int .i64 k ∧ Below w.heap.size w wr) (fun i _ => n - (intOf i).toNat)
  case atStart => exact ⟨0, Nat.zero_le _, rfl, Below.refl _ _⟩
  case round =>
    obtain ⟨k, hk, rfl, hbw⟩ := hrel
    by_cases hlt : k < n
    · obtain ⟨a0, a1, a2, a3, a4, a5⟩ := (ha.later hbw hga) k hlt
      obtain ⟨b0, b1, b2, b3, b4, b5⟩ := (hb.later hbw hgb) k hlt
      go_wp2
      go_region
      all_goals go_wp2
      all_goals exact ⟨⟨k + 1, by omega, by go_num, hbw.drew⟩, by simp [intOf]; omega⟩
    · obtain rfl : k = n := by omega
      go_wp2
      go_ret
      exact ⟨rfl, hbw⟩
set_option maxHeartbeats 4000000 in
set_option maxRecDepth 100000 in
theorem lawSame (ga oa ca gb ob cb n : Nat) (C D S O N : Nat → Int) (R : Nat → Bool) (w : World) (hn : n ≤ 300) (ha : StepsAt w ga oa n C D S R O N) (hb : StepsAt w gb ob n C D S R O N) (hga : ga < w.heap.size) (hgb : gb < w.heap.size) :
    Calls Tryz.prog 11 #[.slice (some ⟨ga, oa, none⟩) n ca, .slice (some ⟨gb, ob, none⟩) n cb] w fun e w' => e = .returned (.bool true) ∧ Below w.heap.size w w' := by
  go_enter Tryz.func11, Tryz.ntmps11
  go_wp2
  go_loopw [5] (fun i wr => ∃ k : Nat, k ≤ n ∧ i = .int .i64 k ∧ Below w.heap.size w wr) (fun i _ => n - (intOf i).toNat)
  case atStart => exact ⟨0, Nat.zero_le _, rfl, Below.refl _ _⟩
  case round =>
    obtain ⟨k, hk, rfl, hbw⟩ := hrel
    by_cases hlt : k < n
    · obtain ⟨a0, a1, a2, a3, a4, a5⟩ := (ha.later hbw hga) k hlt
      obtain ⟨b0, b1, b2, b3, b4, b5⟩ := (hb.later hbw hgb) k hlt
      go_wp2
      go_region
      all_goals go_wp2
      all_goals exact ⟨⟨k + 1, by omega, by go_num, hbw.drew⟩, by simp [intOf]; omega⟩
    · obtain rfl : k = n := by omega
      go_wp2
      go_ret
      exact ⟨rfl, hbw⟩
end Go.Proofs.YtegeiicginpdbaaGreatDoor
