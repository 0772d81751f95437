/-
  What bound.Narrow and bound.Opposite return, by one contract each; the world below is as it was. Conditions: the ends are numbers of 64 bits, the low end not above the high one.
-/
import Derived.Test.YtllphbfhfmieaaaDoorBoundNar17
import Derived.Test.YtllphbfhfmieaaaDoorBoundNar18
import Derived.Test.YtllphbfhfmieaaaDoorBoundNar21
import Derived.Test.YtllphbfhfmieaaaDoorBoundNar22
namespace Go.Proofs.YtllphbfhfmieaaaDoor
open Go.ChangeShapes Go.WideShapes Go.ChangeAt Go.RowKit

theorem narrow_is (c al ah bl bh : Int) (pal : -9223372036854775808 ≤ al) (qal : al ≤ 9223372036854775807) (pah : -9223372036854775808 ≤ ah) (qah : ah ≤ 9223372036854775807) (pbl : -9223372036854775808 ≤ bl) (qbl : bl ≤ 9223372036854775807) (pbh : -9223372036854775808 ≤ bh) (qbh : bh ≤ 9223372036854775807) (oa : al ≤ ah) (ob : bl ≤ bh) (w : World) : Calls Tryd.prog 24 #[.int .i64 c, .agg #[.int .i64 al, .int .i64 ah], .agg #[.int .i64 bl, .int .i64 bh]] w fun e w' => e = .returned (.tuple #[.agg #[.int .i64 (((narV c al ah bl bh).1).1), .int .i64 (((narV c al ah bl bh).1).2)], .agg #[.int .i64 (((narV c al ah bl bh).2.1).1), .int .i64 (((narV c al ah bl bh).2.1).2)], .bool ((narV c al ah bl bh).2.2)]) ∧ Below w.heap.size w w' := by
  by_cases hc : c < 15 ∨ 24 < c
  · rw [narV_no al ah bl bh hc]
    exact nar_no c al ah bl bh hc w
  · have e : c = 15 ∨ c = 16 ∨ c = 17 ∨ c = 18 ∨ c = 19 ∨ c = 20 ∨ c = 21 ∨ c = 22 ∨ c = 23 ∨ c = 24 := by omega
    rcases e with rfl | rfl | rfl | rfl | rfl | rfl | rfl | rfl | rfl | rfl
    · rw [narV_15]; exact nar_15 al ah bl bh pal qal pah qah pbl qbl pbh qbh oa ob w
    · rw [narV_16]; exact nar_16 al ah bl bh pal qal pah qah pbl qbl pbh qbh oa ob w
    · rw [narV_17]; exact nar_17 al ah bl bh pal qal pah qah pbl qbl pbh qbh oa ob w
    · rw [narV_18]; exact nar_18 al ah bl bh pal qal pah qah pbl qbl pbh qbh oa ob w
    · rw [narV_19]; exact nar_19 al ah bl bh pal qal pah qah pbl qbl pbh qbh oa ob w
    · rw [narV_20]; exact nar_20 al ah bl bh pal qal pah qah pbl qbl pbh qbh oa ob w
    · rw [narV_21]; exact nar_21 al ah bl bh pal qal pah qah pbl qbl pbh qbh oa ob w
    · rw [narV_22]; exact nar_22 al ah bl bh pal qal pah qah pbl qbl pbh qbh oa ob w
    · rw [narV_23]; exact nar_23 al ah bl bh pal qal pah qah pbl qbl pbh qbh oa ob w
    · rw [narV_24]; exact nar_24 al ah bl bh pal qal pah qah pbl qbl pbh qbh oa ob w
theorem opp_is (c : Int) (h : 15 ≤ c ∧ c ≤ 24) (w : World) : Calls Tryd.prog 21 #[.int .i64 c] w fun e w' => e = .returned (.int .i64 (oppV c)) ∧ w' = w := by
  have e : c = 15 ∨ c = 16 ∨ c = 17 ∨ c = 18 ∨ c = 19 ∨ c = 20 ∨ c = 21 ∨ c = 22 ∨ c = 23 ∨ c = 24 := by omega
  rcases e with rfl | rfl | rfl | rfl | rfl | rfl | rfl | rfl | rfl | rfl
  · exact opp_15 w
  · exact opp_16 w
  · exact opp_17 w
  · exact opp_18 w
  · exact opp_19 w
  · exact opp_20 w
  · exact opp_21 w
  · exact opp_22 w
  · exact opp_23 w
  · exact opp_24 w
end Go.Proofs.YtllphbfhfmieaaaDoor
