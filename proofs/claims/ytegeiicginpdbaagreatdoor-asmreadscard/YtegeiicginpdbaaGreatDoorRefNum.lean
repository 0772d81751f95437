/-
  What the document's num returns: a number in decimal; the world below is as it was. Conditions: the library's table of powers lies in memory, the number is of 64 bits.
-/
import Derived.Test.YtegeiicginpdbaaGreatDoorWords
namespace Go.Proofs.YtegeiicginpdbaaGreatDoor
open Go.ChangeShapes Go.WideShapes Go.ChangeAt Go.RowKit
variable {ex : Ext}

theorem num_any (n : Int) (w : World) (h0 : -9223372036854775808 ≤ n) (h1 : n ≤ 9223372036854775807) (hT : Tabs ex w) :
    Calls Tryz.prog 81 #[.int .i64 n] w fun e w' => e = .returned (.string (numB n)) ∧ Below w.heap.size w w' := by
  go_enter Tryz.func81, Tryz.ntmps81
  go_wp2_with (go_at_call 125; refine (fmt_any _ _ h0 h1 hT).mono ?_; rintro e w1 ⟨rfl, hb1⟩)
  go_ret
  exact ⟨rfl, hb1⟩
end Go.Proofs.YtegeiicginpdbaaGreatDoor
