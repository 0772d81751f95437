/-
  What the document's own BoundDoes returns at Mul: the same function on integers; the world below is as it was. Conditions: the ends are numbers of 64 bits, the low end not above the high one; the document's variable of all numbers holds them.
-/
import Derived.Test.YtllphbfhfmieaaaDoorBoundRefMul
import Derived.Test.YtllphbfhfmieaaaDoorBoundRefMuq
namespace Go.Proofs.YtllphbfhfmieaaaDoor
open Go.ChangeShapes Go.WideShapes Go.ChangeAt Go.RowKit
set_option linter.unusedVariables false

theorem small_no (n : Int) : smallB n = false ↔ n < -2147483648 ∨ 2147483648 < n := by rw [← Bool.not_eq_true, small_iff]; omega
theorem rbd_4 (al ah bl bh : Int) (pal : -9223372036854775808 ≤ al) (qal : al ≤ 9223372036854775807) (pah : -9223372036854775808 ≤ ah) (qah : ah ≤ 9223372036854775807) (pbl : -9223372036854775808 ≤ bl) (qbl : bl ≤ 9223372036854775807) (pbh : -9223372036854775808 ≤ bh) (qbh : bh ≤ 9223372036854775807) (oa : al ≤ ah) (ob : bl ≤ bh) (w : World) (hA : AllAt w) : Calls Tryd.prog 13 #[.int .i64 4, .agg #[.int .i64 al, .int .i64 ah], .agg #[.int .i64 bl, .int .i64 bh]] w fun e w' => e = .returned (.agg #[.int .i64 ((bdV 4 al ah bl bh).1), .int .i64 ((bdV 4 al ah bl bh).2)]) ∧ Below w.heap.size w w' := by
  rw [bdV_4]
  cases h0 : smallB al
  · have k0 := (small_no _).1 h0
    rw [if_neg (by simp)]
    by_cases ha : 0 ≤ al
    · by_cases hb : 0 ≤ bl
      · skip
        exact rbd_4pp0hi al ah bl bh pal qal pah qah pbl qbl pbh qbh oa ob ha hb (by omega) (by omega) w hA
      · have hb : bl < 0 := by omega
        exact rbd_4pn0hi al ah bl bh pal qal pah qah pbl qbl pbh qbh oa ob ha hb (by omega) (by omega) w hA
    · have ha : al < 0 := by omega
      exact rbd_4n0lo al ah bl bh pal qal pah qah pbl qbl pbh qbh oa ob ha (by omega) w hA
  have k0 := (small_iff _).1 h0
  cases h1 : smallB ah
  · have k1 := (small_no _).1 h1
    rw [if_neg (by simp)]
    by_cases ha : 0 ≤ al
    · by_cases hb : 0 ≤ bl
      · skip
        exact rbd_4pp1hi al ah bl bh pal qal pah qah pbl qbl pbh qbh oa ob ha hb k0.1 k0.2 (by omega) (by omega) w hA
      · have hb : bl < 0 := by omega
        exact rbd_4pn1hi al ah bl bh pal qal pah qah pbl qbl pbh qbh oa ob ha hb k0.1 k0.2 (by omega) (by omega) w hA
    · have ha : al < 0 := by omega
      exact rbd_4n1hi al ah bl bh pal qal pah qah pbl qbl pbh qbh oa ob ha k0.1 k0.2 (by omega) (by omega) w hA
  have k1 := (small_iff _).1 h1
  cases h2 : smallB bl
  · have k2 := (small_no _).1 h2
    rw [if_neg (by simp)]
    by_cases ha : 0 ≤ al
    · by_cases hb : 0 ≤ bl
      · skip
        exact rbd_4pp2hi al ah bl bh pal qal pah qah pbl qbl pbh qbh oa ob ha hb k0.1 k0.2 k1.1 k1.2 (by omega) (by omega) w hA
      · have hb : bl < 0 := by omega
        exact rbd_4pn2lo al ah bl bh pal qal pah qah pbl qbl pbh qbh oa ob ha hb k0.1 k0.2 k1.1 k1.2 (by omega) w hA
    · have ha : al < 0 := by omega
      by_cases hq : bl < -2147483648
      · exact rbd_4n2lo al ah bl bh pal qal pah qah pbl qbl pbh qbh oa ob ha k0.1 k0.2 k1.1 k1.2 (by omega) w hA
      · exact rbd_4n2hi al ah bl bh pal qal pah qah pbl qbl pbh qbh oa ob ha k0.1 k0.2 k1.1 k1.2 (by omega) (by omega) w hA
  have k2 := (small_iff _).1 h2
  cases h3 : smallB bh
  · have k3 := (small_no _).1 h3
    rw [if_neg (by simp)]
    by_cases ha : 0 ≤ al
    · by_cases hb : 0 ≤ bl
      · skip
        exact rbd_4pp3hi al ah bl bh pal qal pah qah pbl qbl pbh qbh oa ob ha hb k0.1 k0.2 k1.1 k1.2 k2.1 k2.2 (by omega) (by omega) w hA
      · have hb : bl < 0 := by omega
        exact rbd_4pn3hi al ah bl bh pal qal pah qah pbl qbl pbh qbh oa ob ha hb k0.1 k0.2 k1.1 k1.2 k2.1 k2.2 (by omega) (by omega) w hA
    · have ha : al < 0 := by omega
      exact rbd_4n3hi al ah bl bh pal qal pah qah pbl qbl pbh qbh oa ob ha k0.1 k0.2 k1.1 k1.2 k2.1 k2.2 (by omega) (by omega) w hA
  have k3 := (small_iff _).1 h3
  rw [if_pos (show (true && true && true && true) = true from rfl)]
  unfold mulLo mulHi
  rw [← small_mul h0 h2, ← small_mul h0 h3, ← small_mul h1 h2, ← small_mul h1 h3]
  by_cases ha : 0 ≤ al
  · by_cases hb : 0 ≤ bl
    · exact rbd_4ppy al ah bl bh pal qal pah qah pbl qbl pbh qbh oa ob ha hb k0.1 k0.2 k1.1 k1.2 k2.1 k2.2 k3.1 k3.2 w hA
    · exact rbd_4pny al ah bl bh pal qal pah qah pbl qbl pbh qbh oa ob ha (by omega) k0.1 k0.2 k1.1 k1.2 k2.1 k2.2 k3.1 k3.2 w hA
  · exact rbd_4ny al ah bl bh pal qal pah qah pbl qbl pbh qbh oa ob (by omega) k0.1 k0.2 k1.1 k1.2 k2.1 k2.2 k3.1 k3.2 w hA
end Go.Proofs.YtllphbfhfmieaaaDoor
