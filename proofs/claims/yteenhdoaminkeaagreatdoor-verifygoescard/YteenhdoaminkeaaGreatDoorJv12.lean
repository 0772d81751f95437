/-
 What the document's own BoundDoes returns, by one function on integers; the world below is as it was. Conditions: the ends are numbers of 64 bits, the low end not above the high one; the document's variable of all numbers holds them. What the document's further and combine return, by the functions on plain numbers. Conditions: the ends are of 64 bits, in order; the document's variable of all numbers is as it is laid. What package verify's begin and on return: a way at its first step, a way further on. Conditions: the steps are of 64 bits.
-/
import Derived.Test.YteenhdoaminkeaaGreatDoorJv10
import Derived.Test.YteenhdoaminkeaaGreatDoorJv11
import Derived.Test.YteenhdoaminkeaaGreatDoorJv9
import Derived.Test.YteenhdoaminkeaaGreatDoorJv6
import Derived.Test.YteenhdoaminkeaaGreatDoorJv4
set_option maxHeartbeats 40000000
open Go.Value renaming int → vI
open Go.IntKind renaming i64 → vK
open Go.RowKit.Below renaming alloc → bA, setCell → bS, drew → bD, refl → bF
set_option maxRecDepth 1000000
set_option linter.defProp false
set_option linter.unusedVariables false
set_option linter.unusedSimpArgs false
namespace Go.Proofs.YteenhdoaminkeaaGreatDoor
open Go.ChangeShapes Go.WideShapes Go.ChangeAt Go.RowKit

theorem rbda_1 (al ah bl bh : Int) (pal : -9223372036854775808 ≤ al) (qal : al ≤ 9223372036854775807) (pah : -9223372036854775808 ≤ ah) (qah : ah ≤ 9223372036854775807) (pbl : -9223372036854775808 ≤ bl) (qbl : bl ≤ 9223372036854775807) (pbh : -9223372036854775808 ≤ bh) (qbh : bh ≤ 9223372036854775807) (oa : al ≤ ah) (ob : bl ≤ bh) (w : World) (hA : z0a w) : Calls Tryz.prog 32 #[vI vK 1, .agg #[vI vK al, vI vK ah], .agg #[vI vK bl, vI vK bh]] w fun e w' => e = .returned (.agg #[vI vK ((bdV 1 al ah bl bh).1), vI vK ((bdV 1 al ah bl bh).2)]) ∧ Below w.heap.size w w' := by
 rw [zQa]
 by_cases ha : 0 ≤ al
 ·by_cases hb : 0 ≤ bl
  ·exact zSr al ah bl bh pal qal pah qah pbl qbl pbh qbh oa ob ha hb w hA
  ·have hb : bl < 0 := by omega
   exact zSs al ah bl bh pal qal pah qah pbl qbl pbh qbh oa ob ha hb w hA
 ·have ha : al < 0 := by omega
  exact rbd_1n al ah bl bh pal qal pah qah pbl qbl pbh qbh oa ob ha w hA
theorem rbda_2 (al ah bl bh : Int) (pal : -9223372036854775808 ≤ al) (qal : al ≤ 9223372036854775807) (pah : -9223372036854775808 ≤ ah) (qah : ah ≤ 9223372036854775807) (pbl : -9223372036854775808 ≤ bl) (qbl : bl ≤ 9223372036854775807) (pbh : -9223372036854775808 ≤ bh) (qbh : bh ≤ 9223372036854775807) (oa : al ≤ ah) (ob : bl ≤ bh) (w : World) (hA : z0a w) : Calls Tryz.prog 32 #[vI vK 2, .agg #[vI vK al, vI vK ah], .agg #[vI vK bl, vI vK bh]] w fun e w' => e = .returned (.agg #[vI vK ((bdV 2 al ah bl bh).1), vI vK ((bdV 2 al ah bl bh).2)]) ∧ Below w.heap.size w w' := by
 rw [zIu]
 cases f1 : fits (al + bl)
 ·rw [z4c (by rw [f1]; rfl)]
  by_cases ha : 0 ≤ al
  ·by_cases hb : 0 ≤ bl
   ·exact zOh al ah bl bh pal qal pah qah pbl qbl pbh qbh oa ob ha hb f1 w hA
   ·have hb : bl < 0 := by omega
    exact zOk al ah bl bh pal qal pah qah pbl qbl pbh qbh oa ob ha hb f1 w hA
  ·have ha : al < 0 := by omega
   exact zSq al ah bl bh pal qal pah qah pbl qbl pbh qbh oa ob ha f1 w hA
 ·cases f2 : fits (ah + bh)
  ·rw [z4c (by rw [f1, f2]; rfl)]
   by_cases ha : 0 ≤ al
   ·by_cases hb : 0 ≤ bl
    ·exact zOf al ah bl bh pal qal pah qah pbl qbl pbh qbh oa ob ha hb f1 f2 w hA
    ·have hb : bl < 0 := by omega
     exact zOi al ah bl bh pal qal pah qah pbl qbl pbh qbh oa ob ha hb f1 f2 w hA
   ·have ha : al < 0 := by omega
    exact zSo al ah bl bh pal qal pah qah pbl qbl pbh qbh oa ob ha f1 f2 w hA
  ·rw [z4g (by rw [f1, f2]; rfl)]
   by_cases ha : 0 ≤ al
   ·by_cases hb : 0 ≤ bl
    ·exact zOg al ah bl bh pal qal pah qah pbl qbl pbh qbh oa ob ha hb f1 f2 w hA
    ·have hb : bl < 0 := by omega
     exact zOj al ah bl bh pal qal pah qah pbl qbl pbh qbh oa ob ha hb f1 f2 w hA
   ·have ha : al < 0 := by omega
    exact zSp al ah bl bh pal qal pah qah pbl qbl pbh qbh oa ob ha f1 f2 w hA
theorem rbda_3 (al ah bl bh : Int) (pal : -9223372036854775808 ≤ al) (qal : al ≤ 9223372036854775807) (pah : -9223372036854775808 ≤ ah) (qah : ah ≤ 9223372036854775807) (pbl : -9223372036854775808 ≤ bl) (qbl : bl ≤ 9223372036854775807) (pbh : -9223372036854775808 ≤ bh) (qbh : bh ≤ 9223372036854775807) (oa : al ≤ ah) (ob : bl ≤ bh) (w : World) (hA : z0a w) : Calls Tryz.prog 32 #[vI vK 3, .agg #[vI vK al, vI vK ah], .agg #[vI vK bl, vI vK bh]] w fun e w' => e = .returned (.agg #[vI vK ((bdV 3 al ah bl bh).1), vI vK ((bdV 3 al ah bl bh).2)]) ∧ Below w.heap.size w w' := by
 rw [zQ9]
 cases f1 : fits (al - bh)
 ·rw [z4c (by rw [f1]; rfl)]
  by_cases ha : 0 ≤ al
  ·by_cases hb : 0 ≤ bl
   ·exact zOb al ah bl bh pal qal pah qah pbl qbl pbh qbh oa ob ha hb f1 w hA
   ·have hb : bl < 0 := by omega
    exact zOe al ah bl bh pal qal pah qah pbl qbl pbh qbh oa ob ha hb f1 w hA
  ·have ha : al < 0 := by omega
   exact zSn al ah bl bh pal qal pah qah pbl qbl pbh qbh oa ob ha f1 w hA
 ·cases f2 : fits (ah - bl)
  ·rw [z4c (by rw [f1, f2]; rfl)]
   by_cases ha : 0 ≤ al
   ·by_cases hb : 0 ≤ bl
    ·exact zO9 al ah bl bh pal qal pah qah pbl qbl pbh qbh oa ob ha hb f1 f2 w hA
    ·have hb : bl < 0 := by omega
     exact zOc al ah bl bh pal qal pah qah pbl qbl pbh qbh oa ob ha hb f1 f2 w hA
   ·have ha : al < 0 := by omega
    exact zSl al ah bl bh pal qal pah qah pbl qbl pbh qbh oa ob ha f1 f2 w hA
  ·rw [z4g (by rw [f1, f2]; rfl)]
   by_cases ha : 0 ≤ al
   ·by_cases hb : 0 ≤ bl
    ·exact zOa al ah bl bh pal qal pah qah pbl qbl pbh qbh oa ob ha hb f1 f2 w hA
    ·have hb : bl < 0 := by omega
     exact zOd al ah bl bh pal qal pah qah pbl qbl pbh qbh oa ob ha hb f1 f2 w hA
   ·have ha : al < 0 := by omega
    exact zSm al ah bl bh pal qal pah qah pbl qbl pbh qbh oa ob ha f1 f2 w hA
theorem rbda_4 (al ah bl bh : Int) (pal : -9223372036854775808 ≤ al) (qal : al ≤ 9223372036854775807) (pah : -9223372036854775808 ≤ ah) (qah : ah ≤ 9223372036854775807) (pbl : -9223372036854775808 ≤ bl) (qbl : bl ≤ 9223372036854775807) (pbh : -9223372036854775808 ≤ bh) (qbh : bh ≤ 9223372036854775807) (oa : al ≤ ah) (ob : bl ≤ bh) (w : World) (hA : z0a w) : Calls Tryz.prog 32 #[vI vK 4, .agg #[vI vK al, vI vK ah], .agg #[vI vK bl, vI vK bh]] w fun e w' => e = .returned (.agg #[vI vK ((bdV 4 al ah bl bh).1), vI vK ((bdV 4 al ah bl bh).2)]) ∧ Below w.heap.size w w' := by
 exact rbd_4 al ah bl bh pal qal pah qah pbl qbl pbh qbh oa ob w hA
theorem rbda_5 (al ah bl bh : Int) (pal : -9223372036854775808 ≤ al) (qal : al ≤ 9223372036854775807) (pah : -9223372036854775808 ≤ ah) (qah : ah ≤ 9223372036854775807) (pbl : -9223372036854775808 ≤ bl) (qbl : bl ≤ 9223372036854775807) (pbh : -9223372036854775808 ≤ bh) (qbh : bh ≤ 9223372036854775807) (oa : al ≤ ah) (ob : bl ≤ bh) (w : World) (hA : z0a w) : Calls Tryz.prog 32 #[vI vK 5, .agg #[vI vK al, vI vK ah], .agg #[vI vK bl, vI vK bh]] w fun e w' => e = .returned (.agg #[vI vK ((bdV 5 al ah bl bh).1), vI vK ((bdV 5 al ah bl bh).2)]) ∧ Below w.heap.size w w' := by
 rw [zQ7]
 by_cases ha : 0 ≤ al
 ·by_cases hb : 0 ≤ bl
  ·rw [if_pos ⟨ha, hb⟩]
   by_cases hp : 0 < bl
   ·rw [if_pos hp]
    exact rbd_5p al ah bl bh pal qal pah qah pbl qbl pbh qbh oa ob ha hb hp w hA
   ·rw [if_neg hp]
    exact rbd_5z al ah bl bh pal qal pah qah pbl qbl pbh qbh oa ob ha hb (by omega) w hA
  ·rw [if_neg (fun x => hb x.2)]
   exact zSj al ah bl bh pal qal pah qah pbl qbl pbh qbh oa ob ha (by omega) w hA
 ·rw [if_neg (fun x => ha x.1)]
  exact rbd_5n al ah bl bh pal qal pah qah pbl qbl pbh qbh oa ob (by omega) w hA
theorem rbda_6 (al ah bl bh : Int) (pal : -9223372036854775808 ≤ al) (qal : al ≤ 9223372036854775807) (pah : -9223372036854775808 ≤ ah) (qah : ah ≤ 9223372036854775807) (pbl : -9223372036854775808 ≤ bl) (qbl : bl ≤ 9223372036854775807) (pbh : -9223372036854775808 ≤ bh) (qbh : bh ≤ 9223372036854775807) (oa : al ≤ ah) (ob : bl ≤ bh) (w : World) (hA : z0a w) : Calls Tryz.prog 32 #[vI vK 6, .agg #[vI vK al, vI vK ah], .agg #[vI vK bl, vI vK bh]] w fun e w' => e = .returned (.agg #[vI vK ((bdV 6 al ah bl bh).1), vI vK ((bdV 6 al ah bl bh).2)]) ∧ Below w.heap.size w w' := by
 rw [zQ6]
 by_cases ha : 0 ≤ al
 ·by_cases hb : 0 ≤ bl
  ·rw [if_pos ⟨ha, hb⟩]
   by_cases hp : 0 < bl
   ·rw [if_pos hp]
    exact rbd_6p al ah bl bh pal qal pah qah pbl qbl pbh qbh oa ob ha hb hp w hA
   ·rw [if_neg hp]
    exact rbd_6z al ah bl bh pal qal pah qah pbl qbl pbh qbh oa ob ha hb (by omega) w hA
  ·rw [if_neg (fun x => hb x.2)]
   exact zSi al ah bl bh pal qal pah qah pbl qbl pbh qbh oa ob ha (by omega) w hA
 ·rw [if_neg (fun x => ha x.1)]
  exact rbd_6n al ah bl bh pal qal pah qah pbl qbl pbh qbh oa ob (by omega) w hA
theorem rbda_7 (al ah bl bh : Int) (pal : -9223372036854775808 ≤ al) (qal : al ≤ 9223372036854775807) (pah : -9223372036854775808 ≤ ah) (qah : ah ≤ 9223372036854775807) (pbl : -9223372036854775808 ≤ bl) (qbl : bl ≤ 9223372036854775807) (pbh : -9223372036854775808 ≤ bh) (qbh : bh ≤ 9223372036854775807) (oa : al ≤ ah) (ob : bl ≤ bh) (w : World) (hA : z0a w) : Calls Tryz.prog 32 #[vI vK 7, .agg #[vI vK al, vI vK ah], .agg #[vI vK bl, vI vK bh]] w fun e w' => e = .returned (.agg #[vI vK ((bdV 7 al ah bl bh).1), vI vK ((bdV 7 al ah bl bh).2)]) ∧ Below w.heap.size w w' := by
 rw [zQ5]
 by_cases ha : 0 ≤ al
 ·rw [if_pos ha]
  by_cases hb : 0 ≤ bl
  ·rw [if_pos hb]
   exact zSe al ah bl bh pal qal pah qah pbl qbl pbh qbh oa ob ha hb w hA
  ·rw [if_neg hb]
   exact zSf al ah bl bh pal qal pah qah pbl qbl pbh qbh oa ob ha (by omega) w hA
 ·rw [if_neg ha]
  by_cases hb : 0 ≤ bl
  ·rw [if_pos hb]
   have e := zSg al ah bl bh pal qal pah qah pbl qbl pbh qbh oa ob (by omega) hb w hA
   rw [show min 9223372036854775807 bh = bh by omega] at e
   exact e
  ·rw [if_neg hb]
   exact zSh al ah bl bh pal qal pah qah pbl qbl pbh qbh oa ob (by omega) (by omega) w hA
theorem rbda_8 (al ah bl bh : Int) (pal : -9223372036854775808 ≤ al) (qal : al ≤ 9223372036854775807) (pah : -9223372036854775808 ≤ ah) (qah : ah ≤ 9223372036854775807) (pbl : -9223372036854775808 ≤ bl) (qbl : bl ≤ 9223372036854775807) (pbh : -9223372036854775808 ≤ bh) (qbh : bh ≤ 9223372036854775807) (oa : al ≤ ah) (ob : bl ≤ bh) (w : World) (hA : z0a w) : Calls Tryz.prog 32 #[vI vK 8, .agg #[vI vK al, vI vK ah], .agg #[vI vK bl, vI vK bh]] w fun e w' => e = .returned (.agg #[vI vK ((bdV 8 al ah bl bh).1), vI vK ((bdV 8 al ah bl bh).2)]) ∧ Below w.heap.size w w' := by
 rw [zQ4]
 by_cases ha : 0 ≤ al
 ·by_cases hb : 0 ≤ bl
  ·rw [if_pos ⟨ha, hb⟩]
   exact rbd_8p al ah bl bh pal qal pah qah pbl qbl pbh qbh oa ob ha hb w hA
  ·rw [if_neg (fun x => hb x.2)]
   exact zSd al ah bl bh pal qal pah qah pbl qbl pbh qbh oa ob ha (by omega) w hA
 ·rw [if_neg (fun x => ha x.1)]
  exact rbd_8n al ah bl bh pal qal pah qah pbl qbl pbh qbh oa ob (by omega) w hA
theorem rbda_9 (al ah bl bh : Int) (pal : -9223372036854775808 ≤ al) (qal : al ≤ 9223372036854775807) (pah : -9223372036854775808 ≤ ah) (qah : ah ≤ 9223372036854775807) (pbl : -9223372036854775808 ≤ bl) (qbl : bl ≤ 9223372036854775807) (pbh : -9223372036854775808 ≤ bh) (qbh : bh ≤ 9223372036854775807) (oa : al ≤ ah) (ob : bl ≤ bh) (w : World) (hA : z0a w) : Calls Tryz.prog 32 #[vI vK 9, .agg #[vI vK al, vI vK ah], .agg #[vI vK bl, vI vK bh]] w fun e w' => e = .returned (.agg #[vI vK ((bdV 9 al ah bl bh).1), vI vK ((bdV 9 al ah bl bh).2)]) ∧ Below w.heap.size w w' := by
 rw [zQ3]
 by_cases ha : 0 ≤ al
 ·by_cases hb : 0 ≤ bl
  ·rw [if_pos ⟨ha, hb⟩]
   exact rbd_9p al ah bl bh pal qal pah qah pbl qbl pbh qbh oa ob ha hb w hA
  ·rw [if_neg (fun x => hb x.2)]
   exact zSc al ah bl bh pal qal pah qah pbl qbl pbh qbh oa ob ha (by omega) w hA
 ·rw [if_neg (fun x => ha x.1)]
  exact rbd_9n al ah bl bh pal qal pah qah pbl qbl pbh qbh oa ob (by omega) w hA
theorem zSa (al ah bl bh : Int) (pal : -9223372036854775808 ≤ al) (qal : al ≤ 9223372036854775807) (pah : -9223372036854775808 ≤ ah) (qah : ah ≤ 9223372036854775807) (pbl : -9223372036854775808 ≤ bl) (qbl : bl ≤ 9223372036854775807) (pbh : -9223372036854775808 ≤ bh) (qbh : bh ≤ 9223372036854775807) (oa : al ≤ ah) (ob : bl ≤ bh) (w : World) (hA : z0a w) : Calls Tryz.prog 32 #[vI vK 10, .agg #[vI vK al, vI vK ah], .agg #[vI vK bl, vI vK bh]] w fun e w' => e = .returned (.agg #[vI vK ((bdV 10 al ah bl bh).1), vI vK ((bdV 10 al ah bl bh).2)]) ∧ Below w.heap.size w w' := by
 rw [zGt]
 by_cases he : bl = bh
 ·rw [if_pos he]
  have s6 := z4w bl
  cases f1 : fits (al * 2 ^ sixBits bl)
  ·rw [z4c (by rw [f1]; rfl)]
   have g1 := f1
   rw [← s6] at g1
   by_cases ha : 0 ≤ al
   ·by_cases hb : 0 ≤ bl
    ·exact zKt al ah bl bh pal qal pah qah pbl qbl pbh qbh oa ob ha hb he g1 w hA
    ·have hb : bl < 0 := by omega
     exact zKx al ah bl bh pal qal pah qah pbl qbl pbh qbh oa ob ha hb he g1 w hA
   ·have ha : al < 0 := by omega
    exact zOv al ah bl bh pal qal pah qah pbl qbl pbh qbh oa ob ha he g1 w hA
  ·have g1 := f1
   rw [← s6] at g1
   cases f2 : fits (ah * 2 ^ sixBits bl)
   ·rw [z4c (by rw [f1, f2]; rfl)]
    have g2 := f2
    rw [← s6] at g2
    by_cases ha : 0 ≤ al
    ·by_cases hb : 0 ≤ bl
     ·exact zKr al ah bl bh pal qal pah qah pbl qbl pbh qbh oa ob ha hb he g1 g2 w hA
     ·have hb : bl < 0 := by omega
      exact zKv al ah bl bh pal qal pah qah pbl qbl pbh qbh oa ob ha hb he g1 g2 w hA
    ·have ha : al < 0 := by omega
     exact zOt al ah bl bh pal qal pah qah pbl qbl pbh qbh oa ob ha he g1 g2 w hA
   ·rw [z4g (by rw [f1, f2]; rfl)]
    have g2 := f2
    rw [← s6] at g2
    have i1 := (z28 _).1 f1
    have i2 := (z28 _).1 f2
    by_cases ha : 0 ≤ al
    ·by_cases hb : 0 ≤ bl
     ·have e := zKs al ah bl bh pal qal pah qah pbl qbl pbh qbh oa ob ha hb he g1 g2 w hA
      rw [z1g, z1g, s6, z0e i1.1 i1.2, z0e i2.1 i2.2] at e
      exact e
     ·have hb : bl < 0 := by omega
      have e := zKw al ah bl bh pal qal pah qah pbl qbl pbh qbh oa ob ha hb he g1 g2 w hA
      rw [z1g, z1g, s6, z0e i1.1 i1.2, z0e i2.1 i2.2] at e
      exact e
    ·have ha : al < 0 := by omega
     have e := zOu al ah bl bh pal qal pah qah pbl qbl pbh qbh oa ob ha he g1 g2 w hA
     rw [z1g, z1g, s6, z0e i1.1 i1.2, z0e i2.1 i2.2] at e
     exact e
 ·rw [if_neg he]
  by_cases ha : 0 ≤ al
  ·by_cases hb : 0 ≤ bl
   ·exact zKu al ah bl bh pal qal pah qah pbl qbl pbh qbh oa ob ha hb he w hA
   ·have hb : bl < 0 := by omega
    exact zKy al ah bl bh pal qal pah qah pbl qbl pbh qbh oa ob ha hb he w hA
  ·have ha : al < 0 := by omega
   exact zOw al ah bl bh pal qal pah qah pbl qbl pbh qbh oa ob ha he w hA
theorem zFu {b : Int} : sixBits b = 0 ↔ b % 64 = 0 := by unfold sixBits; omega
theorem zS9 (al ah bl bh : Int) (pal : -9223372036854775808 ≤ al) (qal : al ≤ 9223372036854775807) (pah : -9223372036854775808 ≤ ah) (qah : ah ≤ 9223372036854775807) (pbl : -9223372036854775808 ≤ bl) (qbl : bl ≤ 9223372036854775807) (pbh : -9223372036854775808 ≤ bh) (qbh : bh ≤ 9223372036854775807) (oa : al ≤ ah) (ob : bl ≤ bh) (w : World) (hA : z0a w) : Calls Tryz.prog 32 #[vI vK 11, .agg #[vI vK al, vI vK ah], .agg #[vI vK bl, vI vK bh]] w fun e w' => e = .returned (.agg #[vI vK ((bdV 11 al ah bl bh).1), vI vK ((bdV 11 al ah bl bh).2)]) ∧ Below w.heap.size w w' := by
 rw [zGs]
 have s6 := z4w bl
 by_cases he : bl = bh
 ·rw [if_pos he]
  by_cases hk : sixBits bl = 0
  ·rw [if_pos hk]
   have hk := zFu.1 hk
   by_cases ha : 0 ≤ al
   ·by_cases hb : 0 ≤ bl
    ·exact zKn al ah bl bh pal qal pah qah pbl qbl pbh qbh oa ob ha hb he hk w hA
    ·have hb : bl < 0 := by omega
     exact zKq al ah bl bh pal qal pah qah pbl qbl pbh qbh oa ob ha hb he hk w hA
   ·have ha : al < 0 := by omega
    exact zOs al ah bl bh pal qal pah qah pbl qbl pbh qbh oa ob ha he hk w hA
  ·rw [if_neg hk]
   have hk2 : bl % 64 ≠ 0 := fun h => hk (zFu.2 h)
   by_cases ha : 0 ≤ al
   ·rw [if_pos ha, ← s6]
    by_cases hb : 0 ≤ bl
    ·exact zKl al ah bl bh pal qal pah qah pbl qbl pbh qbh oa ob ha hb he hk2 w hA
    ·exact zKo al ah bl bh pal qal pah qah pbl qbl pbh qbh oa ob ha (by omega) he hk2 w hA
   ·rw [if_neg ha]
    have e := zOr al ah bl bh pal qal pah qah pbl qbl pbh qbh oa ob (by omega) he hk2 w hA
    rw [zAg (by rw [s6]; exact hk), s6] at e
    exact e
 ·rw [if_neg he]
  by_cases ha : 0 ≤ al
  ·rw [if_pos ha]
   by_cases hb : 0 ≤ bl
   ·exact zKm al ah bl bh pal qal pah qah pbl qbl pbh qbh oa ob ha hb he w hA
   ·exact zKp al ah bl bh pal qal pah qah pbl qbl pbh qbh oa ob ha (by omega) he w hA
  ·rw [if_neg ha]
   exact zOq al ah bl bh pal qal pah qah pbl qbl pbh qbh oa ob (by omega) he w hA
theorem zS8 (al ah bl bh : Int) (pal : -9223372036854775808 ≤ al) (qal : al ≤ 9223372036854775807) (pah : -9223372036854775808 ≤ ah) (qah : ah ≤ 9223372036854775807) (pbl : -9223372036854775808 ≤ bl) (qbl : bl ≤ 9223372036854775807) (pbh : -9223372036854775808 ≤ bh) (qbh : bh ≤ 9223372036854775807) (oa : al ≤ ah) (ob : bl ≤ bh) (w : World) (hA : z0a w) : Calls Tryz.prog 32 #[vI vK 12, .agg #[vI vK al, vI vK ah], .agg #[vI vK bl, vI vK bh]] w fun e w' => e = .returned (.agg #[vI vK ((bdV 12 al ah bl bh).1), vI vK ((bdV 12 al ah bl bh).2)]) ∧ Below w.heap.size w w' := by
 rw [zGr]
 have s6 := z4w bl
 by_cases he : bl = bh
 ·rw [if_pos he, ← s6]
  by_cases ha : 0 ≤ al
  ·by_cases hb : 0 ≤ bl
   ·exact zKh al ah bl bh pal qal pah qah pbl qbl pbh qbh oa ob ha hb he w hA
   ·have hb : bl < 0 := by omega
    exact zKj al ah bl bh pal qal pah qah pbl qbl pbh qbh oa ob ha hb he w hA
  ·have ha : al < 0 := by omega
   exact zOn al ah bl bh pal qal pah qah pbl qbl pbh qbh oa ob ha he w hA
 ·rw [if_neg he]
  by_cases ha : 0 ≤ al
  ·rw [if_pos ha]
   by_cases hb : 0 ≤ bl
   ·exact zKi al ah bl bh pal qal pah qah pbl qbl pbh qbh oa ob ha hb he w hA
   ·exact zKk al ah bl bh pal qal pah qah pbl qbl pbh qbh oa ob ha (by omega) he w hA
  ·rw [if_neg ha]
   by_cases hh : ah < 0
   ·rw [if_pos hh]
    exact zOp al ah bl bh pal qal pah qah pbl qbl pbh qbh oa ob (by omega) he hh w hA
   ·rw [if_neg hh]
    exact zOo al ah bl bh pal qal pah qah pbl qbl pbh qbh oa ob (by omega) he (by omega) w hA
theorem zS7 (al ah bl bh : Int) (pal : -9223372036854775808 ≤ al) (qal : al ≤ 9223372036854775807) (pah : -9223372036854775808 ≤ ah) (qah : ah ≤ 9223372036854775807) (pbl : -9223372036854775808 ≤ bl) (qbl : bl ≤ 9223372036854775807) (pbh : -9223372036854775808 ≤ bh) (qbh : bh ≤ 9223372036854775807) (oa : al ≤ ah) (ob : bl ≤ bh) (w : World) (hA : z0a w) : Calls Tryz.prog 32 #[vI vK 13, .agg #[vI vK al, vI vK ah], .agg #[vI vK bl, vI vK bh]] w fun e w' => e = .returned (.agg #[vI vK ((bdV 13 al ah bl bh).1), vI vK ((bdV 13 al ah bl bh).2)]) ∧ Below w.heap.size w w' := by
 rw [zGq]
 by_cases hl : -9223372036854775808 < al
 ·rw [z4g (by rw [(z28 _).2 (by omega), (z28 _).2 (by omega)]; rfl)]
  by_cases ha : 0 ≤ al
  ·by_cases hb : 0 ≤ bl
   ·exact zKf al ah bl bh pal qal pah qah pbl qbl pbh qbh oa ob ha hb hl w hA
   ·have hb : bl < 0 := by omega
    exact zKg al ah bl bh pal qal pah qah pbl qbl pbh qbh oa ob ha hb hl w hA
  ·have ha : al < 0 := by omega
   exact zOl al ah bl bh pal qal pah qah pbl qbl pbh qbh oa ob ha hl w hA
 ·rw [z4c (by rw [(z9a (-al)).2 (by omega), Bool.and_false])]
  exact zOm al ah bl bh pal qal pah qah pbl qbl pbh qbh oa ob (by omega) (by omega) w hA
theorem zE8 (c al ah bl bh : Int) (pal : -9223372036854775808 ≤ al) (qal : al ≤ 9223372036854775807) (pah : -9223372036854775808 ≤ ah) (qah : ah ≤ 9223372036854775807) (pbl : -9223372036854775808 ≤ bl) (qbl : bl ≤ 9223372036854775807) (pbh : -9223372036854775808 ≤ bh) (qbh : bh ≤ 9223372036854775807) (oa : al ≤ ah) (ob : bl ≤ bh) (w : World) (hA : z0a w) : Calls Tryz.prog 32 #[vI vK c, .agg #[vI vK al, vI vK ah], .agg #[vI vK bl, vI vK bh]] w fun e w' => e = .returned (.agg #[vI vK ((bdV c al ah bl bh).1), vI vK ((bdV c al ah bl bh).2)]) ∧ Below w.heap.size w w' := by
 by_cases hc : c < 1 ∨ 13 < c
 ·rw [zQz al ah bl bh hc]
  by_cases ha : 0 ≤ al
  ·by_cases hb : 0 ≤ bl
   ·exact zO5 c al ah bl bh pal qal pah qah pbl qbl pbh qbh oa ob ha hb hc w hA
   ·exact zO6 c al ah bl bh pal qal pah qah pbl qbl pbh qbh oa ob ha (by omega) hc w hA
  ·exact zSb c al ah bl bh pal qal pah qah pbl qbl pbh qbh oa ob (by omega) hc w hA
 ·have e : c = 1 ∨ c = 2 ∨ c = 3 ∨ c = 4 ∨ c = 5 ∨ c = 6 ∨ c = 7 ∨ c = 8 ∨ c = 9 ∨ c = 10 ∨ c = 11 ∨ c = 12 ∨ c = 13 := by omega
  rcases e with rfl | rfl | rfl | rfl | rfl | rfl | rfl | rfl | rfl | rfl | rfl | rfl | rfl
  ·exact rbda_1 al ah bl bh pal qal pah qah pbl qbl pbh qbh oa ob w hA
  ·exact rbda_2 al ah bl bh pal qal pah qah pbl qbl pbh qbh oa ob w hA
  ·exact rbda_3 al ah bl bh pal qal pah qah pbl qbl pbh qbh oa ob w hA
  ·exact rbda_4 al ah bl bh pal qal pah qah pbl qbl pbh qbh oa ob w hA
  ·exact rbda_5 al ah bl bh pal qal pah qah pbl qbl pbh qbh oa ob w hA
  ·exact rbda_6 al ah bl bh pal qal pah qah pbl qbl pbh qbh oa ob w hA
  ·exact rbda_7 al ah bl bh pal qal pah qah pbl qbl pbh qbh oa ob w hA
  ·exact rbda_8 al ah bl bh pal qal pah qah pbl qbl pbh qbh oa ob w hA
  ·exact rbda_9 al ah bl bh pal qal pah qah pbl qbl pbh qbh oa ob w hA
  ·exact zSa al ah bl bh pal qal pah qah pbl qbl pbh qbh oa ob w hA
  ·exact zS9 al ah bl bh pal qal pah qah pbl qbl pbh qbh oa ob w hA
  ·exact zS8 al ah bl bh pal qal pah qah pbl qbl pbh qbh oa ob w hA
  ·exact zS7 al ah bl bh pal qal pah qah pbl qbl pbh qbh oa ob w hA
def kD (k : Int) : Int := if k = 1 then 110 else if k = 2 then 116 else if k = 3 then 102 else if k = 4 then 99 else if k = 5 then 109 else 0
theorem kD_six {k : Int} (h0 : 0 ≤ k) (h5 : k ≤ 5) : k = 0 ∨ k = 1 ∨ k = 2 ∨ k = 3 ∨ k = 4 ∨ k = 5 := by omega
theorem kD_0 {k : Int} (h0 : 0 ≤ k) (h5 : k ≤ 5) : (kD k == 0) = (k == 0) := by rcases kD_six h0 h5 with rfl | rfl | rfl | rfl | rfl | rfl <;> rfl
theorem kD_n {k : Int} (h0 : 0 ≤ k) (h5 : k ≤ 5) : (kD k == 110) = (k == 1) := by rcases kD_six h0 h5 with rfl | rfl | rfl | rfl | rfl | rfl <;> rfl
theorem kD_m {k : Int} (h0 : 0 ≤ k) (h5 : k ≤ 5) : (kD k == 109) = (k == 5) := by rcases kD_six h0 h5 with rfl | rfl | rfl | rfl | rfl | rfl <;> rfl
theorem kD_p {k : Int} (h0 : 0 ≤ k) (h5 : k ≤ 5) : plB (kD k) = (k == 2 || k == 3 || k == 4) := by rcases kD_six h0 h5 with rfl | rfl | rfl | rfl | rfl | rfl <;> rfl
def Kno.d (x : Kno) : Value := .agg #[.int .u8 (kD x.k), vI vK x.l, vI vK x.h]
theorem zJq {k : Int} (h : k = 2 ∨ k = 3 ∨ k = 4) (w : World) : Calls Tryz.prog 33 #[.int .u8 (kD k)] w fun e w' => e = .returned (.agg #[vI vK (z1u k).1, vI vK (z1u k).2]) ∧ Below w.heap.size w w' := by
 rcases h with rfl | rfl | rfl
 ·exact zRd w
 ·exact zRe w
 ·exact zRf w
theorem zC5 (x : Kno) (o : Int) (hx : x.Ok) (ho : In64 o) (w : World) (hA : z0a w) : Calls Tryz.prog 21 #[x.d, vI vK o] w fun e w' => ∃ b0 b1, e = .returned (.tuple #[.agg #[vI vK b0, vI vK b1], vI vK (z0l x o).2]) ∧ Below w.heap.size w w' ∧ ((z0l x o).2 = 0 → (b0, b1) = (z0l x o).1) ∧ ((z0l x o).2 ≠ 0 → b0 = -9223372036854775808 ∧ b1 = 9223372036854775807) := by
 obtain ⟨k, l, h⟩ := x
 have k0 : 0 ≤ k := hx.1
 have k5 : k ≤ 5 := hx.2.1
 have e0 := kD_0 k0 k5
 have e1 := kD_n k0 k5
 have e2 := kD_m k0 k5
 unfold z0l Kno.d
 dsimp only
 by_cases c0 : k = 0
 ·rw [if_pos c0]
  exact (zAj (kD k) l h o (by rw [e0]; simpa using c0) w hA).mono fun e w' hh => ⟨_, _, hh.1, hh.2, fun z => absurd z (by decide), fun _ => ⟨rfl, rfl⟩⟩
 rw [if_neg c0]
 have y0 : (kD k == 0) = false := by rw [e0]; simpa using c0
 by_cases c1 : k = 1 ∨ k = 5
 ·rw [if_pos c1]
  by_cases c2 : k = 1
  ·exact (zC3 (kD k) l h o y0 (by rw [e1]; simpa using c2) w hA).mono fun e w' hh => ⟨_, _, hh.1, hh.2, fun z => absurd z (by decide), fun _ => ⟨rfl, rfl⟩⟩
  ·exact (zC4 (kD k) l h o y0 (by rw [e1]; simpa using c2) (by rw [e2]; simp; omega) w hA).mono fun e w' hh => ⟨_, _, hh.1, hh.2, fun z => absurd z (by decide), fun _ => ⟨rfl, rfl⟩⟩
 rw [if_neg c1]
 have y1 : (kD k == 110) = false := by rw [e1]; simp; omega
 have y2 : (kD k == 109) = false := by rw [e2]; simp; omega
 have HD := fun (W : World) (hW : z0a W) => zE8 2 l h o o hx.2.2.1.1 hx.2.2.1.2 hx.2.2.2.1.1 hx.2.2.2.1.2 ho.1 ho.2 ho.1 ho.2 hx.2.2.2.2 (Int.le_refl _) W hW
 have HR := fun W : World => zJq (k := k) (by omega) W
 have eT : z3z ⟨k, l, h⟩ o = bdV 2 l h o o := rfl
 rw [eT]
 generalize bdV 2 l h o o = t at *
 obtain ⟨tl, th⟩ := t
 generalize z1u k = r at *
 obtain ⟨rl, rh⟩ := r
 dsimp only at *
 by_cases g1 : tl < rl
 ·rw [if_pos (Or.inl g1)]
  exact (zE3 (kD k) l h o y0 y1 y2 tl th rl rh HD HR (by simpa using g1) w hA).mono fun e w' hh => ⟨_, _, hh.1, hh.2, fun z => absurd z (by decide), fun _ => ⟨rfl, rfl⟩⟩
 by_cases g2 : rh < th
 ·rw [if_pos (Or.inr g2)]
  exact (zE5 (kD k) l h o y0 y1 y2 tl th rl rh HD HR (by simpa using g1) (by simpa using g2) w hA).mono fun e w' hh => ⟨_, _, hh.1, hh.2, fun z => absurd z (by decide), fun _ => ⟨rfl, rfl⟩⟩
 ·rw [if_neg (by omega)]
  exact (zE4 (kD k) l h o y0 y1 y2 tl th rl rh HD HR (by simpa using g1) (by simpa using g2) w hA).mono fun e w' hh => ⟨_, _, hh.1, hh.2, fun _ => rfl, fun z => absurd rfl z⟩
theorem zQb (al ah bl bh : Int) : bdV 2 bl bh al ah = bdV 2 al ah bl bh := by rw [zIu, zIu, Int.add_comm bl al, Int.add_comm bh ah]
theorem zC6 {k tl th : Int} (h : tl = -9223372036854775808 ∧ th = 9223372036854775807) : z1h k (tl, th) = (kno0, 2) := if_pos h
theorem zFw {k tl th : Int} (h : ¬ (tl = -9223372036854775808 ∧ th = 9223372036854775807)) : z1h k (tl, th) = (⟨k, tl, th⟩, 0) := if_neg h
theorem zK9 (c : Int) (a b : Kno) (ha : a.Ok) (hb : b.Ok) (w : World) (hA : z0a w) : Calls Tryz.prog 22 #[vI vK c, a.d, b.d] w fun e w' => e = .returned (.tuple #[(z2e c a b).1.d, vI vK (z2e c a b).2]) ∧ Below w.heap.size w w' := by
  obtain ⟨ak, al, ah⟩ := a
  obtain ⟨bk, bl, bh⟩ := b
  have a0 : 0 ≤ ak := ha.1
  have a5 : ak ≤ 5 := ha.2.1
  have b0 : 0 ≤ bk := hb.1
  have b5 : bk ≤ 5 := hb.2.1
  have ea0 := kD_0 a0 a5
  have ea1 := kD_n a0 a5
  have eap := kD_p a0 a5
  have eb0 := kD_0 b0 b5
  have eb1 := kD_n b0 b5
  have ebp := kD_p b0 b5
  have paT : (ak = 2 ∨ ak = 3 ∨ ak = 4) → plB (kD ak) = true := fun z => by rw [eap]; simp; omega
  have paF : ¬ (ak = 2 ∨ ak = 3 ∨ ak = 4) → plB (kD ak) = false := fun z => by rw [eap]; simp; omega
  have pbT : (bk = 2 ∨ bk = 3 ∨ bk = 4) → plB (kD bk) = true := fun z => by rw [ebp]; simp; omega
  have pbF : ¬ (bk = 2 ∨ bk = 3 ∨ bk = 4) → plB (kD bk) = false := fun z => by rw [ebp]; simp; omega
  clear eap ebp
  unfold z2e
  dsimp only
  by_cases h1 : bk = 0 ∨ (ak = 0 ∧ c ≠ 1)
  · rw [if_pos h1]
    by_cases h2 : bk = 0
    · exact zO1 c (kD ak) al ah (kD bk) bl bh (by rw [eb0]; simpa using h2) w
    · exact zO2 c (kD ak) al ah (kD bk) bl bh (by rw [eb0]; simpa using h2) (by rw [ea0]; simp; omega) (by simp; omega) w
  rw [if_neg h1]
  have nb : (kD bk == 0) = false := by rw [eb0]; simp; omega
  by_cases h2 : c = 1
  · rw [if_pos h2]
    by_cases h3 : ak = 0
    · exact zO3 c (kD ak) al ah (kD bk) bl bh nb (by rw [ea0]; simpa using h3) (by simpa using h2) (by simpa using h2) w
    · exact zO4 c (kD ak) al ah (kD bk) bl bh nb (by rw [ea0]; simpa using h3) (by simpa using h2) w
  rw [if_neg h2]
  have na : (kD ak == 0) = false := by rw [ea0]; simp; omega
  have nc : (c == 1) = false := by simpa using h2
  have HD := fun (W : World) (hW : z0a W) => zE8 c al ah bl bh ha.2.2.1.1 ha.2.2.1.2 ha.2.2.2.1.1 ha.2.2.2.1.2 hb.2.2.1.1 hb.2.2.1.2 hb.2.2.2.1.1 hb.2.2.2.1.2 ha.2.2.2.2 hb.2.2.2.2 W hW
  by_cases h3 : ak = 1 ∧ bk = 1
  · rw [if_pos h3]
    exact zK8 c (kD ak) al ah (kD bk) bl bh w _ _ hA HD nb na nc (by rw [ea1]; simp; omega) (by rw [eb1]; simp; omega)
  rw [if_neg h3]
  by_cases h4 : (ak = 2 ∨ ak = 3 ∨ ak = 4) ∧ bk = 1 ∧ (c = 2 ∨ c = 3)
  · rw [if_pos h4]
    have n4 : (kD ak == 110) = false := by rw [ea1]; simp; omega
    have pa := paT (by omega)
    have n6 : (kD bk != 110) = false := by have : (kD bk == 110) = true := by rw [eb1]; simp; omega
                                           simp [bne, this]
    generalize bdV c al ah bl bh = t at *
    obtain ⟨tl, th⟩ := t
    dsimp only at *
    by_cases hall : tl = -9223372036854775808 ∧ th = 9223372036854775807
    · rw [zC6 hall]
      rcases h4.2.2 with e | e
      · exact zK0 c (kD ak) al ah (kD bk) bl bh w tl th hA HD nb na nc n4 (by simpa using e) (by simpa using e) (pbF (by omega)) pa n6 (by simpa using hall.1) (by simpa using hall.2)
      · exact zK3 c (kD ak) al ah (kD bk) bl bh w tl th hA HD nb na nc n4 (by simp; omega) (by simp; omega) pa n6 (by simpa using e) (by simpa using hall.1) (by simpa using hall.2)
    · rw [zFw hall]
      by_cases hl : tl = -9223372036854775808
      · rcases h4.2.2 with e | e
        · exact zJy c (kD ak) al ah (kD bk) bl bh w tl th hA HD nb na nc n4 (by simpa using e) (by simpa using e) (pbF (by omega)) pa n6 (by simpa using hl) (by simp; omega)
        · exact zK1 c (kD ak) al ah (kD bk) bl bh w tl th hA HD nb na nc n4 (by simp; omega) (by simp; omega) pa n6 (by simpa using e) (by simpa using hl) (by simp; omega)
      · rcases h4.2.2 with e | e
        · exact zJz c (kD ak) al ah (kD bk) bl bh w tl th hA HD nb na nc n4 (by simpa using e) (by simpa using e) (pbF (by omega)) pa n6 (by simpa using hl)
        · exact zK2 c (kD ak) al ah (kD bk) bl bh w tl th hA HD nb na nc n4 (by simp; omega) (by simp; omega) pa n6 (by simpa using e) (by simpa using hl)
  rw [if_neg h4]
  by_cases h5 : ak = 1 ∧ (bk = 2 ∨ bk = 3 ∨ bk = 4) ∧ c = 2
  · rw [if_pos h5]
    have n4 : (kD ak == 110) = true := by rw [ea1]; simp; omega
    have n5 : (kD bk == 110) = false := by rw [eb1]; simp; omega
    have pb := pbT (by omega)
    have n6 : (kD ak != 110) = false := by simp [bne, n4]
    have HE := fun (W : World) (hW : z0a W) => zE8 c bl bh al ah hb.2.2.1.1 hb.2.2.1.2 hb.2.2.2.1.1 hb.2.2.2.1.2 ha.2.2.1.1 ha.2.2.1.2 ha.2.2.2.1.1 ha.2.2.2.1.2 hb.2.2.2.2 ha.2.2.2.2 W hW
    have hc := h5.2.2
    have ec : bdV c bl bh al ah = bdV c al ah bl bh := by rw [hc]; exact zQb _ _ _ _
    rw [ec] at HE
    clear ec HD
    generalize bdV c al ah bl bh = t at *
    obtain ⟨tl, th⟩ := t
    dsimp only at *
    have s1 : (c == 2) = true := by simpa using hc
    have s2 : (c != 2) = false := by simpa using hc
    by_cases hall : tl = -9223372036854775808 ∧ th = 9223372036854775807
    · rw [zC6 hall]
      exact zNy c (kD ak) al ah (kD bk) bl bh w tl th hA HE nb na nc n4 n5 s1 s2 pb n6 (by simpa using hall.1) (by simpa using hall.2)
    · rw [zFw hall]
      by_cases hl : tl = -9223372036854775808
      · exact zNw c (kD ak) al ah (kD bk) bl bh w tl th hA HE nb na nc n4 n5 s1 s2 pb n6 (by simpa using hl) (by simp; omega)
      · exact zNx c (kD ak) al ah (kD bk) bl bh w tl th hA HE nb na nc n4 n5 s1 s2 pb n6 (by simpa using hl)
  rw [if_neg h5]
  clear HD
  by_cases hc : c = 2
  · have s1 : (c == 2) = true := by simpa using hc
    have s2 : (c != 2) = false := by simpa using hc
    by_cases hp : bk = 2 ∨ bk = 3 ∨ bk = 4
    · have n4 : (kD ak == 110) = false := by rw [ea1]; simp; omega
      exact zS5 c (kD ak) al ah (kD bk) bl bh nb na nc n4 s1 s2 (pbT hp) (by simp [bne, n4]) w
    have pb := pbF hp
    by_cases ha1 : ak = 1
    · exact zK4 c (kD ak) al ah (kD bk) bl bh nb na nc (by rw [ea1]; simp; omega) (by rw [eb1]; simp; omega) s1 s2 pb (paF (by omega)) w
    have n4 : (kD ak == 110) = false := by rw [ea1]; simp; omega
    by_cases hq : ak = 2 ∨ ak = 3 ∨ ak = 4
    · have n5 : (kD bk == 110) = false := by rw [eb1]; simp; omega
      exact zNz c (kD ak) al ah (kD bk) bl bh nb na nc n4 s1 s2 pb (paT hq) (by simp [bne, n5]) w
    · exact zK5 c (kD ak) al ah (kD bk) bl bh nb na nc n4 s1 s2 pb (paF (by omega)) w
  · have s1 : (c == 2) = false := by simpa using hc
    have s2 : (c != 2) = true := by simpa using hc
    by_cases ha1 : ak = 1
    · exact zK6 c (kD ak) al ah (kD bk) bl bh nb na nc (by rw [ea1]; simp; omega) (by rw [eb1]; simp; omega) s1 s2 (paF (by omega)) w
    have n4 : (kD ak == 110) = false := by rw [ea1]; simp; omega
    by_cases hq : ak = 2 ∨ ak = 3 ∨ ak = 4
    · have pa := paT (by omega)
      by_cases hb1 : bk = 1
      · have n5 : (kD bk == 110) = true := by rw [eb1]; simp; omega
        exact zS6 c (kD ak) al ah (kD bk) bl bh nb na nc n4 s1 s2 pa (by simp [bne, n5]) (by simp; omega) w
      · have n5 : (kD bk == 110) = false := by rw [eb1]; simp; omega
        exact zO0 c (kD ak) al ah (kD bk) bl bh nb na nc n4 s1 s2 pa (by simp [bne, n5]) w
    · exact zK7 c (kD ak) al ah (kD bk) bl bh nb na nc n4 s1 s2 (paF (by omega)) w
end Go.Proofs.YteenhdoaminkeaaGreatDoor
namespace Go.Proofs.YteenhdoaminkeaaGreatDoor
open Go.ChangeShapes Go.WideShapes Go.ChangeAt Go.RowKit
attribute [local simp] z00 z0y z0o
theorem z08 {B : Nat} {a w : World} (h : Below B a w) {g : Nat} (hg : B ≤ g) (cs : Array Value) : Below B a (w.setRow g cs) :=
 h.trans ⟨rfl, rfl, rfl, by simp, fun k hk => setRow_other w g k cs (by omega)⟩
theorem zFq : Tryz.zeroCells76 = z06 0 ⟨fun _ => kno0, fun _ => kno0⟩ := by kernel_rfl
theorem z1w : Tryz.zeroCells76.size = 82 := by rw [zFq, z0h]
theorem zCk (p o : Int) (y : Way) (h0 : 0 ≤ p) (h1 : p ≤ 1000) (h2 : 0 ≤ o) (h3 : o ≤ 1000) (w : World) : Calls Tryz.prog 42 #[.agg (z06 p y), vI vK o] w fun e w' => e = .returned (.agg (z06 (p + (1 + o)) y)) ∧ Below w.heap.size w w' := by
 go_enter Tryz.func42, Tryz.ntmps42
 iterate 2 go_step
 go_cut [2, 4] (fun s2 s4 wx => s2 = .pointer (some ⟨w.heap.size, 0, none⟩) ∧ s4 = .pointer (some ⟨w.heap.size + 1, 0, none⟩) ∧ Below w.heap.size w wx ∧ z05 wx w.heap.size p y ∧ wx.heap[w.heap.size + 1]? = some (.cells Tryz.zeroCells76 76 (0, 0)))
 case first =>
  go_wp2_with fail
  go_meet
  exact ⟨rfl, rfl, (by repeat' first | with_reducible (first | exact bF _ _ | refine bA ?_ ?_ _ | refine bS ?_ ?_ _ | refine z08 ?_ ?_ _) | ((try dsimp only); omega) | (simp; done) | (simp; omega)), (z05.start w p y).alloc _, heap_alloc2_new _ _ _⟩
 case rest =>
 obtain ⟨rfl, rfl, hbw, hW, hZ⟩ := hcut
 have q0 := hW.step
 have f0 := hW.frozen 0
 have HW : Hid (z05 wc w.heap.size p y) := hW
 have HZ : Hid (wc.heap[w.heap.size + 1]? = some (.cells Tryz.zeroCells76 76 (0, 0))) := hZ
 clear hW hZ
 go_wp2_with (first
  | (refine wpList_load_row rfl 76 (.tmp 2) rfl w.heap.size rfl 76 (z06 (p + (1 + o)) y) (0, 0) _ (HW.out.putStep _) Tryz.underlying76 rfl (z0q _ _) ?_)
  | (refine wpList_store_row rfl 76 (.tmp 4) (.tmp 11) rfl (w.heap.size + 1) (z06 (p + (1 + o)) y) rfl rfl 76 Tryz.zeroCells76 ((heap_setCell_other _ _ _ _ (by simp)).trans HZ.out) (z0q _ _) (by rw [z1w, z0h]) (z2a _ _) ?_)
  | fail)
 exact bodyPost_ret (v := .agg (z06 (p + (1 + o)) y)) (z7s rfl _ _ (w.heap.size + 1) _ _ rfl (z05.setRow (old := Tryz.zeroCells76) ((heap_setCell_other _ _ _ _ (by simp)).trans HZ.out) _ _)) rfl ⟨rfl, (by repeat' first | with_reducible (first | exact hbw | exact bF _ _ | refine bA ?_ ?_ _ | refine bS ?_ ?_ _ | refine z08 ?_ ?_ _) | ((try dsimp only); omega) | (simp; done) | (simp; omega))⟩
theorem z05.zero (w : World) : z05 (w.alloc (.cells Tryz.zeroCells76 76)) w.heap.size 0 ⟨fun _ => kno0, fun _ => kno0⟩ := by
 rw [zFq]; exact z05.start w _ _
theorem zR3 : (Way.putReg (Way.putReg ⟨fun _ => kno0, fun _ => kno0⟩ 1 ⟨2, 0, 0⟩) 10 ⟨3, 0, 0⟩) = way0 := by
 unfold Way.putReg way0
 congr 1
 funext i
 show (if i = 10 then _ else if i = 1 then _ else _) = if i = 1 then _ else if i = 10 then _ else _
 by_cases h1 : i = 1
 ·subst h1; rfl
 ·rw [if_neg h1, if_neg h1]
section
variable {w : World} {B : Nat} {p : Int} {y : Way}
theorem z05.put0 (h : z05 w B p y) (k l g : Int) : z05 (((w.setCell ⟨B, 1, none⟩ (vI vK k)).setCell ⟨B, 2, none⟩ (vI vK l)).setCell ⟨B, 3, none⟩ (vI vK g)) B p (y.putReg 0 ⟨k, l, g⟩) := h.reg3 (d := 0) (by decide) k l g
theorem z05.put1 (h : z05 w B p y) (k l g : Int) : z05 (((w.setCell ⟨B, 4, none⟩ (vI vK k)).setCell ⟨B, 5, none⟩ (vI vK l)).setCell ⟨B, 6, none⟩ (vI vK g)) B p (y.putReg 1 ⟨k, l, g⟩) := h.reg3 (d := 1) (by decide) k l g
theorem z05.put10 (h : z05 w B p y) (k l g : Int) : z05 (((w.setCell ⟨B, 31, none⟩ (vI vK k)).setCell ⟨B, 32, none⟩ (vI vK l)).setCell ⟨B, 33, none⟩ (vI vK g)) B p (y.putReg 10 ⟨k, l, g⟩) := h.reg3 (d := 10) (by decide) k l g
end
theorem z05.at0 {w : World} {B : Nat} (h : z05 w B 0 (Way.putReg (Way.putReg ⟨fun _ => kno0, fun _ => kno0⟩ 1 ⟨2, 0, 0⟩) 10 ⟨3, 0, 0⟩)) : z05 w B 0 way0 := by rw [zR3] at h; exact h
theorem zHe (w : World) : Calls Tryz.prog 25 #[] w fun e w' => e = .returned (.agg (z06 0 way0)) ∧ Below w.heap.size w w' := by
 go_enter Tryz.func25, Tryz.ntmps25
 iterate 2 go_step
 go_cut [0] (fun s0 wx => s0 = .pointer (some ⟨w.heap.size, 0, none⟩) ∧ Below w.heap.size w wx ∧ wx.heap.size = w.heap.size + 1 ∧ wx.heap[w.heap.size]? = some (.cells Tryz.zeroCells76 76 (0, 0)))
 case first =>
  go_wp2_with fail
  go_meet
  exact ⟨rfl, (by repeat' first | with_reducible (first | exact bF _ _ | refine bA ?_ ?_ _ | refine bS ?_ ?_ _ | refine z08 ?_ ?_ _) | ((try dsimp only); omega) | (simp; done) | (simp; omega)), by simp, heap_alloc_new _ _⟩
 case rest =>
 obtain ⟨rfl, hbw, hsz, hZ⟩ := hcut
 iterate 2 go_step
 go_cut [1] (fun s1 wx => s1 = .pointer (some ⟨w.heap.size + 1, 0, none⟩) ∧ Below w.heap.size w wx ∧ z05 wx (w.heap.size + 1) 0 ⟨fun _ => kno0, fun _ => kno0⟩ ∧ wx.heap[w.heap.size]? = some (.cells Tryz.zeroCells76 76 (0, 0)))
 case first =>
  go_wp2_with fail
  go_meet
  exact ⟨rfl, (by repeat' first | with_reducible (first | exact hbw | exact bF _ _ | refine bA ?_ ?_ _ | refine bS ?_ ?_ _ | refine z08 ?_ ?_ _) | ((try dsimp only); omega) | (simp; done) | (simp; omega)), by rw [← hsz]; exact z05.zero _, by rw [Below.heap_alloc _ _ _ (by omega)]; exact hZ⟩
 case rest =>
 clear hbw hsz hZ
 obtain ⟨rfl, hbw, hW, hZ⟩ := hcut
 have hlt := hW.lt
 have HW : Hid (z05 wc (w.heap.size + 1) 0 ⟨fun _ => kno0, fun _ => kno0⟩) := hW
 have HZ : Hid (wc.heap[w.heap.size]? = some (.cells Tryz.zeroCells76 76 (0, 0))) := hZ
 have HB : Hid (Below w.heap.size w wc) := hbw
 clear hW hZ hbw
 go_wp2_with (first
  | (go_at_call 39; have hg := HW.out; clear hg; go_must (refine (z2t 0 _).mono ?_; rintro e w1 ⟨rfl, hb1⟩; have hW1 := HW.out.later hb1; have hlt := hW1.lt; obtain ⟨i0, i1, i2⟩ := hW1.reg (d := 1) (by decide); simp only [Nat.reduceMul, Nat.reduceAdd] at i0 i1 i2; have f0 := hW1.frozen 4; have f1 := hW1.frozen 5; have f2 := hW1.frozen 6; have HW1 : Hid (z05 w1 (w.heap.size + 1) 0 ⟨fun _ => kno0, fun _ => kno0⟩) := hW1; have HZ1 : Hid (w1.heap[w.heap.size]? = some (.cells Tryz.zeroCells76 76 (0, 0))) := (hb1.block _ (by omega)).trans HZ.out; have HB1 : Hid (Below w.heap.size w w1) := HB.out.trans (hb1.mono HB.out.size); clear HW HZ HB hb1 hW1))
  | (go_at_call 39; go_must (refine (z2t 0 _).mono ?_; rintro e w2 ⟨rfl, hb2⟩; have hW2 := (HW1.out.put1 2 0 0).later hb2; have hlt := hW2.lt; clear i0 i1 i2 f0 f1 f2; obtain ⟨i0, i1, i2⟩ := hW2.reg (d := 10) (by decide); simp only [Nat.reduceMul, Nat.reduceAdd] at i0 i1 i2; have f0 := hW2.frozen 31; have f1 := hW2.frozen 32; have f2 := hW2.frozen 33; have HW2 : Hid (z05 w2 (w.heap.size + 1) 0 (Way.putReg ⟨fun _ => kno0, fun _ => kno0⟩ 1 ⟨2, 0, 0⟩)) := hW2; have HZ2 : Hid (w2.heap[w.heap.size]? = some (.cells Tryz.zeroCells76 76 (0, 0))) := (hb2.block _ (by simp; omega)).trans ((heap_setCell_other _ _ _ _ (by simp)).trans ((heap_setCell_other _ _ _ _ (by simp)).trans ((heap_setCell_other _ _ _ _ (by simp)).trans HZ1.out))); have HB2 : Hid (Below w.heap.size w w2) := ((((HB1.out.setCell (by show w.heap.size ≤ w.heap.size + 1; omega) _).setCell (by show w.heap.size ≤ w.heap.size + 1; omega) _).setCell (by show w.heap.size ≤ w.heap.size + 1; omega) _).trans (hb2.mono (by simp; omega))); clear HW1 HZ1 HB1 hb2 hW2))
  | (refine wpList_load_row rfl 76 (.tmp 1) rfl (w.heap.size + 1) rfl 76 (z06 0 way0) (0, 0) _ (z05.at0 (HW2.out.put10 3 0 0)) Tryz.underlying76 rfl (z0q _ _) ?_)
  | (refine wpList_store_row rfl 76 (.tmp 0) (.tmp 10) rfl w.heap.size (z06 0 way0) rfl rfl 76 Tryz.zeroCells76 ((heap_setCell_other _ _ _ _ (by simp)).trans ((heap_setCell_other _ _ _ _ (by simp)).trans ((heap_setCell_other _ _ _ _ (by simp)).trans HZ2.out))) (z0q _ _) (by rw [z1w, z0h]) (z2a _ _) ?_)
  | fail)
 exact bodyPost_ret (v := .agg (z06 0 way0)) (z7s rfl _ _ w.heap.size _ _ rfl (z05.setRow (old := Tryz.zeroCells76) ((heap_setCell_other _ _ _ _ (by simp)).trans ((heap_setCell_other _ _ _ _ (by simp)).trans ((heap_setCell_other _ _ _ _ (by simp)).trans HZ2.out))) _ _)) rfl ⟨rfl, (by repeat' first | with_reducible (first | exact HB2.out | refine bA ?_ ?_ _ | refine bS ?_ ?_ _ | refine z08 ?_ ?_ _) | ((try dsimp only); omega) | (simp; done) | (simp; omega))⟩
end Go.Proofs.YteenhdoaminkeaaGreatDoor
