/-
  What the document's own answer to Fill returns: as a function on integers; the world is as it was. Condition: the argument is a number of 64 bits.
-/
import Derived.Test.YtllphbfhfmieaaaDoorOpRefWalks
namespace Go.Proofs.YtllphbfhfmieaaaDoor
open Go.ChangeShapes Go.WideShapes Go.ChangeAt Go.RowKit

theorem refFill_any (n : Int) (h1 : n ≤ 9223372036854775807) (w : World) : Calls Tryd.prog 50 #[.int .i64 n] w fun e w' => e = .returned (.int .i64 (fillV n)) ∧ w' = w := by
  go_enter Tryd.func50, Tryd.ntmps50
  go_wp2
  go_loop [3] (fun f => ∃ j : Nat, j ≤ lenV n.toNat ∧ f = .int .i64 (ones j)) (fun f => 9223372036854775808 - (intOf f).toNat)
  case atStart => exact ⟨0, Nat.zero_le _, rfl⟩
  case round =>
    obtain ⟨j, hj, rfl⟩ := hrel
    have hs : Hid (ones (j + 1) = ones j * 2 + 1) := ones_succ j
    by_cases hlt : (ones j : Int) < n
    · have hj2 : j + 1 ≤ lenV n.toNat := len_more (by omega)
      have hb := ones_lt (j := j + 1) (by have := len_63 h1; omega)
      have hb2 : ones j * 2 + 1 ≤ 9223372036854775807 := by rw [hs.out] at hb; exact hb
      clear hb
      go_wp2
      go_round
      case rel => exact ⟨j + 1, hj2, by rw [hs.out]; go_num⟩
      case measure => simp [intOf]; omega
    · have hj2 : Hid (j = lenV n.toNat) := len_same hj hlt
      go_wp2
      go_ret
      exact ⟨ret_i64 (by rw [hj2.out]; rfl), rfl⟩
end Go.Proofs.YtllphbfhfmieaaaDoor
