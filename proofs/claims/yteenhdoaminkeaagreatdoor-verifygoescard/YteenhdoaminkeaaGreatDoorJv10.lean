/-
 What the document's own BoundDoes returns: the same function on integers; the world below is as it was. Conditions: the ends are numbers of 64 bits, the low end not above the high one; the document's variable of all numbers holds them.
-/
import Derived.Test.YteenhdoaminkeaaGreatDoorJv8
import Derived.Deep.RegionHeld3
import Derived.BigQuiet
import Derived.Test.YteenhdoaminkeaaGreatDoorJv5
set_option maxHeartbeats 40000000
open Go.Value renaming int → vI
open Go.IntKind renaming i64 → vK
open Go.RowKit.Below renaming alloc → bA, setCell → bS, drew → bD, refl → bF
set_option maxRecDepth 1000000
set_option linter.defProp false
set_option linter.unusedVariables false
set_option linter.unusedSimpArgs false
namespace Go.Proofs.YteenhdoaminkeaaGreatDoor
open Go.ChangeShapes Go.WideShapes Go.ChangeAt Go.RowKit
set_option linter.unusedVariables false
def z0a (w : World) : Prop := 0 < w.heap.size ∧ w.cell? ⟨0, 0, none⟩ = some (vI vK (-9223372036854775808)) ∧ w.cell? ⟨0, 1, none⟩ = some (vI vK 9223372036854775807)

attribute [local simp] z00
theorem z18 (al ah bl bh : Int) (pal : -9223372036854775808 ≤ al) (qal : al ≤ 9223372036854775807) (pah : -9223372036854775808 ≤ ah) (qah : ah ≤ 9223372036854775807) (pbl : -9223372036854775808 ≤ bl) (qbl : bl ≤ 9223372036854775807) (pbh : -9223372036854775808 ≤ bh) (qbh : bh ≤ 9223372036854775807) (oa : al ≤ ah) (ob : bl ≤ bh) : (∀ (ha : 0 ≤ al) (hb : 0 ≤ bl) (w : World) (hA : z0a w), Calls Tryz.prog 32 #[vI vK 1, .agg #[vI vK al, vI vK ah], .agg #[vI vK bl, vI vK bh]] w fun e w' => e = .returned (.agg #[vI vK bl, vI vK bh]) ∧ Below w.heap.size w w') ∧ (∀ (ha : 0 ≤ al) (hb : bl < 0) (w : World) (hA : z0a w), Calls Tryz.prog 32 #[vI vK 1, .agg #[vI vK al, vI vK ah], .agg #[vI vK bl, vI vK bh]] w fun e w' => e = .returned (.agg #[vI vK bl, vI vK bh]) ∧ Below w.heap.size w w') ∧ (∀ (ha : al < 0) (w : World) (hA : z0a w), Calls Tryz.prog 32 #[vI vK 1, .agg #[vI vK al, vI vK ah], .agg #[vI vK bl, vI vK bh]] w fun e w' => e = .returned (.agg #[vI vK bl, vI vK bh]) ∧ Below w.heap.size w w') ∧ (∀ (ha : 0 ≤ al) (hb : 0 ≤ bl) (f1 : fits (al + bl) = true) (f2 : fits (ah + bh) = true) (w : World) (hA : z0a w), Calls Tryz.prog 32 #[vI vK 2, .agg #[vI vK al, vI vK ah], .agg #[vI vK bl, vI vK bh]] w fun e w' => e = .returned (.agg #[vI vK (al + bl), vI vK (ah + bh)]) ∧ Below w.heap.size w w') ∧ (∀ (ha : 0 ≤ al) (hb : 0 ≤ bl) (f1 : fits (al + bl) = false) (w : World) (hA : z0a w), Calls Tryz.prog 32 #[vI vK 2, .agg #[vI vK al, vI vK ah], .agg #[vI vK bl, vI vK bh]] w fun e w' => e = .returned (.agg #[vI vK (-9223372036854775808), vI vK 9223372036854775807]) ∧ Below w.heap.size w w') ∧ (∀ (ha : 0 ≤ al) (hb : 0 ≤ bl) (f1 : fits (al + bl) = true) (f2 : fits (ah + bh) = false) (w : World) (hA : z0a w), Calls Tryz.prog 32 #[vI vK 2, .agg #[vI vK al, vI vK ah], .agg #[vI vK bl, vI vK bh]] w fun e w' => e = .returned (.agg #[vI vK (-9223372036854775808), vI vK 9223372036854775807]) ∧ Below w.heap.size w w') ∧ (∀ (ha : 0 ≤ al) (hb : bl < 0) (f1 : fits (al + bl) = true) (f2 : fits (ah + bh) = true) (w : World) (hA : z0a w), Calls Tryz.prog 32 #[vI vK 2, .agg #[vI vK al, vI vK ah], .agg #[vI vK bl, vI vK bh]] w fun e w' => e = .returned (.agg #[vI vK (al + bl), vI vK (ah + bh)]) ∧ Below w.heap.size w w') ∧ (∀ (ha : 0 ≤ al) (hb : bl < 0) (f1 : fits (al + bl) = false) (w : World) (hA : z0a w), Calls Tryz.prog 32 #[vI vK 2, .agg #[vI vK al, vI vK ah], .agg #[vI vK bl, vI vK bh]] w fun e w' => e = .returned (.agg #[vI vK (-9223372036854775808), vI vK 9223372036854775807]) ∧ Below w.heap.size w w') ∧ (∀ (ha : 0 ≤ al) (hb : bl < 0) (f1 : fits (al + bl) = true) (f2 : fits (ah + bh) = false) (w : World) (hA : z0a w), Calls Tryz.prog 32 #[vI vK 2, .agg #[vI vK al, vI vK ah], .agg #[vI vK bl, vI vK bh]] w fun e w' => e = .returned (.agg #[vI vK (-9223372036854775808), vI vK 9223372036854775807]) ∧ Below w.heap.size w w') ∧ (∀ (ha : al < 0) (f1 : fits (al + bl) = true) (f2 : fits (ah + bh) = true) (w : World) (hA : z0a w), Calls Tryz.prog 32 #[vI vK 2, .agg #[vI vK al, vI vK ah], .agg #[vI vK bl, vI vK bh]] w fun e w' => e = .returned (.agg #[vI vK (al + bl), vI vK (ah + bh)]) ∧ Below w.heap.size w w') ∧ (∀ (ha : al < 0) (f1 : fits (al + bl) = false) (w : World) (hA : z0a w), Calls Tryz.prog 32 #[vI vK 2, .agg #[vI vK al, vI vK ah], .agg #[vI vK bl, vI vK bh]] w fun e w' => e = .returned (.agg #[vI vK (-9223372036854775808), vI vK 9223372036854775807]) ∧ Below w.heap.size w w') ∧ (∀ (ha : al < 0) (f1 : fits (al + bl) = true) (f2 : fits (ah + bh) = false) (w : World) (hA : z0a w), Calls Tryz.prog 32 #[vI vK 2, .agg #[vI vK al, vI vK ah], .agg #[vI vK bl, vI vK bh]] w fun e w' => e = .returned (.agg #[vI vK (-9223372036854775808), vI vK 9223372036854775807]) ∧ Below w.heap.size w w') ∧ (∀ (ha : 0 ≤ al) (hb : 0 ≤ bl) (f1 : fits (al - bh) = true) (f2 : fits (ah - bl) = true) (w : World) (hA : z0a w), Calls Tryz.prog 32 #[vI vK 3, .agg #[vI vK al, vI vK ah], .agg #[vI vK bl, vI vK bh]] w fun e w' => e = .returned (.agg #[vI vK (al - bh), vI vK (ah - bl)]) ∧ Below w.heap.size w w') ∧ (∀ (ha : 0 ≤ al) (hb : 0 ≤ bl) (f1 : fits (al - bh) = false) (w : World) (hA : z0a w), Calls Tryz.prog 32 #[vI vK 3, .agg #[vI vK al, vI vK ah], .agg #[vI vK bl, vI vK bh]] w fun e w' => e = .returned (.agg #[vI vK (-9223372036854775808), vI vK 9223372036854775807]) ∧ Below w.heap.size w w') := by
 refine ⟨?_, ?_, ?_, ?_, ?_, ?_, ?_, ?_, ?_, ?_, ?_, ?_, ?_, ?_⟩
 intro ha hb w hA
 rotate_left
 intro ha hb w hA
 rotate_left
 intro ha w hA
 rotate_left
 intro ha hb f1 f2 w hA
 rotate_left
 intro ha hb f1 w hA
 rotate_left
 intro ha hb f1 f2 w hA
 rotate_left
 intro ha hb f1 f2 w hA
 rotate_left
 intro ha hb f1 w hA
 rotate_left
 intro ha hb f1 f2 w hA
 rotate_left
 intro ha f1 f2 w hA
 rotate_left
 intro ha f1 w hA
 rotate_left
 intro ha f1 f2 w hA
 rotate_left
 intro ha hb f1 f2 w hA
 rotate_left
 intro ha hb f1 w hA
 rotate_left
 all_goals
  obtain ⟨gz, g0, g1⟩ := hA
  have gz0 : 0 < w.heap.size := by omega
  have gz1 : 0 < w.heap.size + 1 := by omega
  have gz2 : 0 < w.heap.size + 1 + 1 := by omega
  have gz3 : 0 < w.heap.size + 1 + 1 + 1 := by omega
  have gz4 : 0 < w.heap.size + 1 + 1 + 1 + 1 := by omega
  have hx := z76 bl
  have hk0 : 0 ≤ bl % 64 := Int.emod_nonneg _ (by decide)
  have hk1 : bl % 64 < 64 := Int.emod_lt_of_pos _ (by decide)
 have da : decide (0 ≤ al) = true := by simp; omega
 have db : decide (0 ≤ bl) = true := by simp; omega
 rotate_left
 have da : decide (0 ≤ al) = true := by simp; omega
 have db : decide (0 ≤ bl) = false := by simp; omega
 rotate_left
 have da : decide (0 ≤ al) = false := by simp; omega
 rotate_left
 have da : decide (0 ≤ al) = true := by simp; omega
 have db : decide (0 ≤ bl) = true := by simp; omega
 rotate_left
 have da : decide (0 ≤ al) = true := by simp; omega
 have db : decide (0 ≤ bl) = true := by simp; omega
 rotate_left
 have da : decide (0 ≤ al) = true := by simp; omega
 have db : decide (0 ≤ bl) = true := by simp; omega
 rotate_left
 have da : decide (0 ≤ al) = true := by simp; omega
 have db : decide (0 ≤ bl) = false := by simp; omega
 rotate_left
 have da : decide (0 ≤ al) = true := by simp; omega
 have db : decide (0 ≤ bl) = false := by simp; omega
 rotate_left
 have da : decide (0 ≤ al) = true := by simp; omega
 have db : decide (0 ≤ bl) = false := by simp; omega
 rotate_left
 have da : decide (0 ≤ al) = false := by simp; omega
 rotate_left
 have da : decide (0 ≤ al) = false := by simp; omega
 rotate_left
 have da : decide (0 ≤ al) = false := by simp; omega
 rotate_left
 have da : decide (0 ≤ al) = true := by simp; omega
 have db : decide (0 ≤ bl) = true := by simp; omega
 rotate_left
 have da : decide (0 ≤ al) = true := by simp; omega
 have db : decide (0 ≤ bl) = true := by simp; omega
 rotate_left
 all_goals
  go_enter Tryz.func32, Tryz.ntmps32
  go_wp2_with (first | (go_at_call 51; refine (z2n _ _ ?_ ?_ ?_ ?_ _).mono ?_; omega; omega; omega; omega; rintro e w' ⟨rfl, rfl⟩) | (go_at_call 52; refine (z2l _ _ ?_ ?_ ?_ ?_ _).mono ?_; omega; omega; omega; omega; rintro e w' ⟨rfl, rfl⟩) | (go_at_call 53; refine (z10 _ ?_ _).mono ?_; omega; rintro e w' ⟨rfl, rfl⟩) | (go_at_call 55; refine (z1r _ _ ?_ ?_ ?_ ?_ _).mono ?_; omega; omega; omega; omega; rintro e w' ⟨rfl, rfl⟩) | (go_at_call 54; refine (z2h _ _ _ ?_ ?_ ?_ ?_ _).mono ?_; omega; omega; omega; omega; rintro e w' ⟨rfl, rfl⟩))
  all_goals exact bodyPost_ret (by simp [results, Tryz.results32, go_sem]) rfl ⟨rfl, by repeat' first | exact bF _ _ | refine bA ?_ ?_ _ | refine bS ?_ ?_ _ | refine bD ?_ | refine below_drewN ?_ _ | (simp; done) | (simp; omega) | (simp [z00]; done) | (simp [z00]; omega) | omega⟩
def zSr := fun al ah bl bh pal qal pah qah pbl qbl pbh qbh oa ob => (@z18 al ah bl bh pal qal pah qah pbl qbl pbh qbh oa ob).1
def zSs := fun al ah bl bh pal qal pah qah pbl qbl pbh qbh oa ob => (@z18 al ah bl bh pal qal pah qah pbl qbl pbh qbh oa ob).2.1
def rbd_1n := fun al ah bl bh pal qal pah qah pbl qbl pbh qbh oa ob => (@z18 al ah bl bh pal qal pah qah pbl qbl pbh qbh oa ob).2.2.1
def zOg := fun al ah bl bh pal qal pah qah pbl qbl pbh qbh oa ob => (@z18 al ah bl bh pal qal pah qah pbl qbl pbh qbh oa ob).2.2.2.1
def zOh := fun al ah bl bh pal qal pah qah pbl qbl pbh qbh oa ob => (@z18 al ah bl bh pal qal pah qah pbl qbl pbh qbh oa ob).2.2.2.2.1
def zOf := fun al ah bl bh pal qal pah qah pbl qbl pbh qbh oa ob => (@z18 al ah bl bh pal qal pah qah pbl qbl pbh qbh oa ob).2.2.2.2.2.1
def zOj := fun al ah bl bh pal qal pah qah pbl qbl pbh qbh oa ob => (@z18 al ah bl bh pal qal pah qah pbl qbl pbh qbh oa ob).2.2.2.2.2.2.1
def zOk := fun al ah bl bh pal qal pah qah pbl qbl pbh qbh oa ob => (@z18 al ah bl bh pal qal pah qah pbl qbl pbh qbh oa ob).2.2.2.2.2.2.2.1
def zOi := fun al ah bl bh pal qal pah qah pbl qbl pbh qbh oa ob => (@z18 al ah bl bh pal qal pah qah pbl qbl pbh qbh oa ob).2.2.2.2.2.2.2.2.1
def zSp := fun al ah bl bh pal qal pah qah pbl qbl pbh qbh oa ob => (@z18 al ah bl bh pal qal pah qah pbl qbl pbh qbh oa ob).2.2.2.2.2.2.2.2.2.1
def zSq := fun al ah bl bh pal qal pah qah pbl qbl pbh qbh oa ob => (@z18 al ah bl bh pal qal pah qah pbl qbl pbh qbh oa ob).2.2.2.2.2.2.2.2.2.2.1
def zSo := fun al ah bl bh pal qal pah qah pbl qbl pbh qbh oa ob => (@z18 al ah bl bh pal qal pah qah pbl qbl pbh qbh oa ob).2.2.2.2.2.2.2.2.2.2.2.1
def zOa := fun al ah bl bh pal qal pah qah pbl qbl pbh qbh oa ob => (@z18 al ah bl bh pal qal pah qah pbl qbl pbh qbh oa ob).2.2.2.2.2.2.2.2.2.2.2.2.1
def zOb := fun al ah bl bh pal qal pah qah pbl qbl pbh qbh oa ob => (@z18 al ah bl bh pal qal pah qah pbl qbl pbh qbh oa ob).2.2.2.2.2.2.2.2.2.2.2.2.2
theorem z17 (al ah bl bh : Int) (pal : -9223372036854775808 ≤ al) (qal : al ≤ 9223372036854775807) (pah : -9223372036854775808 ≤ ah) (qah : ah ≤ 9223372036854775807) (pbl : -9223372036854775808 ≤ bl) (qbl : bl ≤ 9223372036854775807) (pbh : -9223372036854775808 ≤ bh) (qbh : bh ≤ 9223372036854775807) (oa : al ≤ ah) (ob : bl ≤ bh) : (∀ (ha : 0 ≤ al) (hb : 0 ≤ bl) (f1 : fits (al - bh) = true) (f2 : fits (ah - bl) = false) (w : World) (hA : z0a w), Calls Tryz.prog 32 #[vI vK 3, .agg #[vI vK al, vI vK ah], .agg #[vI vK bl, vI vK bh]] w fun e w' => e = .returned (.agg #[vI vK (-9223372036854775808), vI vK 9223372036854775807]) ∧ Below w.heap.size w w') ∧ (∀ (ha : 0 ≤ al) (hb : bl < 0) (f1 : fits (al - bh) = true) (f2 : fits (ah - bl) = true) (w : World) (hA : z0a w), Calls Tryz.prog 32 #[vI vK 3, .agg #[vI vK al, vI vK ah], .agg #[vI vK bl, vI vK bh]] w fun e w' => e = .returned (.agg #[vI vK (al - bh), vI vK (ah - bl)]) ∧ Below w.heap.size w w') ∧ (∀ (ha : 0 ≤ al) (hb : bl < 0) (f1 : fits (al - bh) = false) (w : World) (hA : z0a w), Calls Tryz.prog 32 #[vI vK 3, .agg #[vI vK al, vI vK ah], .agg #[vI vK bl, vI vK bh]] w fun e w' => e = .returned (.agg #[vI vK (-9223372036854775808), vI vK 9223372036854775807]) ∧ Below w.heap.size w w') ∧ (∀ (ha : 0 ≤ al) (hb : bl < 0) (f1 : fits (al - bh) = true) (f2 : fits (ah - bl) = false) (w : World) (hA : z0a w), Calls Tryz.prog 32 #[vI vK 3, .agg #[vI vK al, vI vK ah], .agg #[vI vK bl, vI vK bh]] w fun e w' => e = .returned (.agg #[vI vK (-9223372036854775808), vI vK 9223372036854775807]) ∧ Below w.heap.size w w') ∧ (∀ (ha : al < 0) (f1 : fits (al - bh) = true) (f2 : fits (ah - bl) = true) (w : World) (hA : z0a w), Calls Tryz.prog 32 #[vI vK 3, .agg #[vI vK al, vI vK ah], .agg #[vI vK bl, vI vK bh]] w fun e w' => e = .returned (.agg #[vI vK (al - bh), vI vK (ah - bl)]) ∧ Below w.heap.size w w') ∧ (∀ (ha : al < 0) (f1 : fits (al - bh) = false) (w : World) (hA : z0a w), Calls Tryz.prog 32 #[vI vK 3, .agg #[vI vK al, vI vK ah], .agg #[vI vK bl, vI vK bh]] w fun e w' => e = .returned (.agg #[vI vK (-9223372036854775808), vI vK 9223372036854775807]) ∧ Below w.heap.size w w') ∧ (∀ (ha : al < 0) (f1 : fits (al - bh) = true) (f2 : fits (ah - bl) = false) (w : World) (hA : z0a w), Calls Tryz.prog 32 #[vI vK 3, .agg #[vI vK al, vI vK ah], .agg #[vI vK bl, vI vK bh]] w fun e w' => e = .returned (.agg #[vI vK (-9223372036854775808), vI vK 9223372036854775807]) ∧ Below w.heap.size w w') ∧ (∀ (ha : 0 ≤ al) (hb : 0 ≤ bl) (hz : bl ≤ 0) (w : World) (hA : z0a w), Calls Tryz.prog 32 #[vI vK 5, .agg #[vI vK al, vI vK ah], .agg #[vI vK bl, vI vK bh]] w fun e w' => e = .returned (.agg #[vI vK 0, vI vK ah]) ∧ Below w.heap.size w w') ∧ (∀ (ha : 0 ≤ al) (hb : 0 ≤ bl) (hp : 0 < bl) (w : World) (hA : z0a w), Calls Tryz.prog 32 #[vI vK 6, .agg #[vI vK al, vI vK ah], .agg #[vI vK bl, vI vK bh]] w fun e w' => e = .returned (.agg #[vI vK 0, vI vK (min ah (bh - 1))]) ∧ Below w.heap.size w w') ∧ (∀ (ha : 0 ≤ al) (hb : 0 ≤ bl) (hz : bl ≤ 0) (w : World) (hA : z0a w), Calls Tryz.prog 32 #[vI vK 6, .agg #[vI vK al, vI vK ah], .agg #[vI vK bl, vI vK bh]] w fun e w' => e = .returned (.agg #[vI vK 0, vI vK ah]) ∧ Below w.heap.size w w') ∧ (∀ (ha : 0 ≤ al) (hb : 0 ≤ bl) (w : World) (hA : z0a w), Calls Tryz.prog 32 #[vI vK 9, .agg #[vI vK al, vI vK ah], .agg #[vI vK bl, vI vK bh]] w fun e w' => e = .returned (.agg #[vI vK 0, vI vK (z4d (max ah bh))]) ∧ Below w.heap.size w w') ∧ (∀ (ha : 0 ≤ al) (hb : bl < 0) (w : World) (hA : z0a w), Calls Tryz.prog 32 #[vI vK 5, .agg #[vI vK al, vI vK ah], .agg #[vI vK bl, vI vK bh]] w fun e w' => e = .returned (.agg #[vI vK (-9223372036854775808), vI vK 9223372036854775807]) ∧ Below w.heap.size w w') ∧ (∀ (ha : al < 0) (w : World) (hA : z0a w), Calls Tryz.prog 32 #[vI vK 5, .agg #[vI vK al, vI vK ah], .agg #[vI vK bl, vI vK bh]] w fun e w' => e = .returned (.agg #[vI vK (-9223372036854775808), vI vK 9223372036854775807]) ∧ Below w.heap.size w w') ∧ (∀ (ha : 0 ≤ al) (hb : bl < 0) (w : World) (hA : z0a w), Calls Tryz.prog 32 #[vI vK 6, .agg #[vI vK al, vI vK ah], .agg #[vI vK bl, vI vK bh]] w fun e w' => e = .returned (.agg #[vI vK (-9223372036854775808), vI vK 9223372036854775807]) ∧ Below w.heap.size w w') := by
 refine ⟨?_, ?_, ?_, ?_, ?_, ?_, ?_, ?_, ?_, ?_, ?_, ?_, ?_, ?_⟩
 intro ha hb f1 f2 w hA
 rotate_left
 intro ha hb f1 f2 w hA
 rotate_left
 intro ha hb f1 w hA
 rotate_left
 intro ha hb f1 f2 w hA
 rotate_left
 intro ha f1 f2 w hA
 rotate_left
 intro ha f1 w hA
 rotate_left
 intro ha f1 f2 w hA
 rotate_left
 intro ha hb hz w hA
 rotate_left
 intro ha hb hp w hA
 rotate_left
 intro ha hb hz w hA
 rotate_left
 intro ha hb w hA
 rotate_left
 intro ha hb w hA
 rotate_left
 intro ha w hA
 rotate_left
 intro ha hb w hA
 rotate_left
 all_goals
  obtain ⟨gz, g0, g1⟩ := hA
  have gz0 : 0 < w.heap.size := by omega
  have gz1 : 0 < w.heap.size + 1 := by omega
  have gz2 : 0 < w.heap.size + 1 + 1 := by omega
  have gz3 : 0 < w.heap.size + 1 + 1 + 1 := by omega
  have gz4 : 0 < w.heap.size + 1 + 1 + 1 + 1 := by omega
  have hx := z76 bl
  have hk0 : 0 ≤ bl % 64 := Int.emod_nonneg _ (by decide)
  have hk1 : bl % 64 < 64 := Int.emod_lt_of_pos _ (by decide)
 have da : decide (0 ≤ al) = true := by simp; omega
 have db : decide (0 ≤ bl) = true := by simp; omega
 rotate_left
 have da : decide (0 ≤ al) = true := by simp; omega
 have db : decide (0 ≤ bl) = false := by simp; omega
 rotate_left
 have da : decide (0 ≤ al) = true := by simp; omega
 have db : decide (0 ≤ bl) = false := by simp; omega
 rotate_left
 have da : decide (0 ≤ al) = true := by simp; omega
 have db : decide (0 ≤ bl) = false := by simp; omega
 rotate_left
 have da : decide (0 ≤ al) = false := by simp; omega
 rotate_left
 have da : decide (0 ≤ al) = false := by simp; omega
 rotate_left
 have da : decide (0 ≤ al) = false := by simp; omega
 rotate_left
 have da : decide (0 ≤ al) = true := by simp; omega
 have db : decide (0 ≤ bl) = true := by simp; omega
 have dz : decide (0 < bl) = false := by simp; omega
 rotate_left
 have da : decide (0 ≤ al) = true := by simp; omega
 have db : decide (0 ≤ bl) = true := by simp; omega
 have dz : decide (0 < bl) = true := by simp; omega
 rotate_left
 have da : decide (0 ≤ al) = true := by simp; omega
 have db : decide (0 ≤ bl) = true := by simp; omega
 have dz : decide (0 < bl) = false := by simp; omega
 rotate_left
 have da : decide (0 ≤ al) = true := by simp; omega
 have db : decide (0 ≤ bl) = true := by simp; omega
 rotate_left
 have da : decide (0 ≤ al) = true := by simp; omega
 have db : decide (0 ≤ bl) = false := by simp; omega
 rotate_left
 have da : decide (0 ≤ al) = false := by simp; omega
 rotate_left
 have da : decide (0 ≤ al) = true := by simp; omega
 have db : decide (0 ≤ bl) = false := by simp; omega
 rotate_left
 all_goals
  go_enter Tryz.func32, Tryz.ntmps32
  go_wp2_with (first | (go_at_call 51; refine (z2n _ _ ?_ ?_ ?_ ?_ _).mono ?_; omega; omega; omega; omega; rintro e w' ⟨rfl, rfl⟩) | (go_at_call 52; refine (z2l _ _ ?_ ?_ ?_ ?_ _).mono ?_; omega; omega; omega; omega; rintro e w' ⟨rfl, rfl⟩) | (go_at_call 53; refine (z10 _ ?_ _).mono ?_; omega; rintro e w' ⟨rfl, rfl⟩) | (go_at_call 55; refine (z1r _ _ ?_ ?_ ?_ ?_ _).mono ?_; omega; omega; omega; omega; rintro e w' ⟨rfl, rfl⟩) | (go_at_call 54; refine (z2h _ _ _ ?_ ?_ ?_ ?_ _).mono ?_; omega; omega; omega; omega; rintro e w' ⟨rfl, rfl⟩))
  all_goals exact bodyPost_ret (by simp [results, Tryz.results32, go_sem]) rfl ⟨rfl, by repeat' first | exact bF _ _ | refine bA ?_ ?_ _ | refine bS ?_ ?_ _ | refine bD ?_ | refine below_drewN ?_ _ | (simp; done) | (simp; omega) | (simp [z00]; done) | (simp [z00]; omega) | omega⟩
def zO9 := fun al ah bl bh pal qal pah qah pbl qbl pbh qbh oa ob => (@z17 al ah bl bh pal qal pah qah pbl qbl pbh qbh oa ob).1
def zOd := fun al ah bl bh pal qal pah qah pbl qbl pbh qbh oa ob => (@z17 al ah bl bh pal qal pah qah pbl qbl pbh qbh oa ob).2.1
def zOe := fun al ah bl bh pal qal pah qah pbl qbl pbh qbh oa ob => (@z17 al ah bl bh pal qal pah qah pbl qbl pbh qbh oa ob).2.2.1
def zOc := fun al ah bl bh pal qal pah qah pbl qbl pbh qbh oa ob => (@z17 al ah bl bh pal qal pah qah pbl qbl pbh qbh oa ob).2.2.2.1
def zSm := fun al ah bl bh pal qal pah qah pbl qbl pbh qbh oa ob => (@z17 al ah bl bh pal qal pah qah pbl qbl pbh qbh oa ob).2.2.2.2.1
def zSn := fun al ah bl bh pal qal pah qah pbl qbl pbh qbh oa ob => (@z17 al ah bl bh pal qal pah qah pbl qbl pbh qbh oa ob).2.2.2.2.2.1
def zSl := fun al ah bl bh pal qal pah qah pbl qbl pbh qbh oa ob => (@z17 al ah bl bh pal qal pah qah pbl qbl pbh qbh oa ob).2.2.2.2.2.2.1
def rbd_5z := fun al ah bl bh pal qal pah qah pbl qbl pbh qbh oa ob => (@z17 al ah bl bh pal qal pah qah pbl qbl pbh qbh oa ob).2.2.2.2.2.2.2.1
def rbd_6p := fun al ah bl bh pal qal pah qah pbl qbl pbh qbh oa ob => (@z17 al ah bl bh pal qal pah qah pbl qbl pbh qbh oa ob).2.2.2.2.2.2.2.2.1
def rbd_6z := fun al ah bl bh pal qal pah qah pbl qbl pbh qbh oa ob => (@z17 al ah bl bh pal qal pah qah pbl qbl pbh qbh oa ob).2.2.2.2.2.2.2.2.2.1
def rbd_9p := fun al ah bl bh pal qal pah qah pbl qbl pbh qbh oa ob => (@z17 al ah bl bh pal qal pah qah pbl qbl pbh qbh oa ob).2.2.2.2.2.2.2.2.2.2.1
def zSj := fun al ah bl bh pal qal pah qah pbl qbl pbh qbh oa ob => (@z17 al ah bl bh pal qal pah qah pbl qbl pbh qbh oa ob).2.2.2.2.2.2.2.2.2.2.2.1
def rbd_5n := fun al ah bl bh pal qal pah qah pbl qbl pbh qbh oa ob => (@z17 al ah bl bh pal qal pah qah pbl qbl pbh qbh oa ob).2.2.2.2.2.2.2.2.2.2.2.2.1
def zSi := fun al ah bl bh pal qal pah qah pbl qbl pbh qbh oa ob => (@z17 al ah bl bh pal qal pah qah pbl qbl pbh qbh oa ob).2.2.2.2.2.2.2.2.2.2.2.2.2
theorem z0u (a b : Int) : -9223372036854775808 ≤ z0i 10 a b ∧ z0i 10 a b ≤ 9223372036854775807 := by rw [z1g]; exact z1s _

theorem z1c (al ah bl bh : Int) (pal : -9223372036854775808 ≤ al) (qal : al ≤ 9223372036854775807) (pah : -9223372036854775808 ≤ ah) (qah : ah ≤ 9223372036854775807) (pbl : -9223372036854775808 ≤ bl) (qbl : bl ≤ 9223372036854775807) (pbh : -9223372036854775808 ≤ bh) (qbh : bh ≤ 9223372036854775807) (oa : al ≤ ah) (ob : bl ≤ bh) : (∀ (ha : 0 ≤ al) (hb : 0 ≤ bl) (hp : 0 < bl) (w : World) (hA : z0a w), Calls Tryz.prog 32 #[vI vK 5, .agg #[vI vK al, vI vK ah], .agg #[vI vK bl, vI vK bh]] w fun e w' => e = .returned (.agg #[vI vK (al / bh), vI vK (ah / bl)]) ∧ Below w.heap.size w w') ∧ (∀ (ha : 0 ≤ al) (hb : 0 ≤ bl) (he : bl = bh) (f1 : fits (al * 2 ^ sixBits (bl % 64)) = false) (w : World) (hA : z0a w), Calls Tryz.prog 32 #[vI vK 10, .agg #[vI vK al, vI vK ah], .agg #[vI vK bl, vI vK bh]] w fun e w' => e = .returned (.agg #[vI vK (-9223372036854775808), vI vK 9223372036854775807]) ∧ Below w.heap.size w w') ∧ (∀ (ha : 0 ≤ al) (hb : 0 ≤ bl) (he : bl = bh) (f1 : fits (al * 2 ^ sixBits (bl % 64)) = true) (f2 : fits (ah * 2 ^ sixBits (bl % 64)) = false) (w : World) (hA : z0a w), Calls Tryz.prog 32 #[vI vK 10, .agg #[vI vK al, vI vK ah], .agg #[vI vK bl, vI vK bh]] w fun e w' => e = .returned (.agg #[vI vK (-9223372036854775808), vI vK 9223372036854775807]) ∧ Below w.heap.size w w') ∧ (∀ (ha : 0 ≤ al) (hb : 0 ≤ bl) (he : bl ≠ bh) (w : World) (hA : z0a w), Calls Tryz.prog 32 #[vI vK 10, .agg #[vI vK al, vI vK ah], .agg #[vI vK bl, vI vK bh]] w fun e w' => e = .returned (.agg #[vI vK (-9223372036854775808), vI vK 9223372036854775807]) ∧ Below w.heap.size w w') ∧ (∀ (ha : 0 ≤ al) (hb : bl < 0) (he : bl = bh) (f1 : fits (al * 2 ^ sixBits (bl % 64)) = false) (w : World) (hA : z0a w), Calls Tryz.prog 32 #[vI vK 10, .agg #[vI vK al, vI vK ah], .agg #[vI vK bl, vI vK bh]] w fun e w' => e = .returned (.agg #[vI vK (-9223372036854775808), vI vK 9223372036854775807]) ∧ Below w.heap.size w w') ∧ (∀ (ha : 0 ≤ al) (hb : bl < 0) (he : bl = bh) (f1 : fits (al * 2 ^ sixBits (bl % 64)) = true) (f2 : fits (ah * 2 ^ sixBits (bl % 64)) = false) (w : World) (hA : z0a w), Calls Tryz.prog 32 #[vI vK 10, .agg #[vI vK al, vI vK ah], .agg #[vI vK bl, vI vK bh]] w fun e w' => e = .returned (.agg #[vI vK (-9223372036854775808), vI vK 9223372036854775807]) ∧ Below w.heap.size w w') ∧ (∀ (ha : 0 ≤ al) (hb : bl < 0) (he : bl ≠ bh) (w : World) (hA : z0a w), Calls Tryz.prog 32 #[vI vK 10, .agg #[vI vK al, vI vK ah], .agg #[vI vK bl, vI vK bh]] w fun e w' => e = .returned (.agg #[vI vK (-9223372036854775808), vI vK 9223372036854775807]) ∧ Below w.heap.size w w') ∧ (∀ (ha : al < 0) (he : bl = bh) (f1 : fits (al * 2 ^ sixBits (bl % 64)) = false) (w : World) (hA : z0a w), Calls Tryz.prog 32 #[vI vK 10, .agg #[vI vK al, vI vK ah], .agg #[vI vK bl, vI vK bh]] w fun e w' => e = .returned (.agg #[vI vK (-9223372036854775808), vI vK 9223372036854775807]) ∧ Below w.heap.size w w') ∧ (∀ (ha : al < 0) (he : bl = bh) (f1 : fits (al * 2 ^ sixBits (bl % 64)) = true) (f2 : fits (ah * 2 ^ sixBits (bl % 64)) = false) (w : World) (hA : z0a w), Calls Tryz.prog 32 #[vI vK 10, .agg #[vI vK al, vI vK ah], .agg #[vI vK bl, vI vK bh]] w fun e w' => e = .returned (.agg #[vI vK (-9223372036854775808), vI vK 9223372036854775807]) ∧ Below w.heap.size w w') ∧ (∀ (ha : al < 0) (he : bl ≠ bh) (w : World) (hA : z0a w), Calls Tryz.prog 32 #[vI vK 10, .agg #[vI vK al, vI vK ah], .agg #[vI vK bl, vI vK bh]] w fun e w' => e = .returned (.agg #[vI vK (-9223372036854775808), vI vK 9223372036854775807]) ∧ Below w.heap.size w w') ∧ (∀ (ha : 0 ≤ al) (hb : 0 ≤ bl) (he : bl = bh) (f1 : fits (al * 2 ^ sixBits (bl % 64)) = true) (f2 : fits (ah * 2 ^ sixBits (bl % 64)) = true) (w : World) (hA : z0a w), Calls Tryz.prog 32 #[vI vK 10, .agg #[vI vK al, vI vK ah], .agg #[vI vK bl, vI vK bh]] w fun e w' => e = .returned (.agg #[vI vK (z0i 10 al (bl % 64)), vI vK (z0i 10 ah (bl % 64))]) ∧ Below w.heap.size w w') ∧ (∀ (ha : 0 ≤ al) (hb : bl < 0) (he : bl = bh) (f1 : fits (al * 2 ^ sixBits (bl % 64)) = true) (f2 : fits (ah * 2 ^ sixBits (bl % 64)) = true) (w : World) (hA : z0a w), Calls Tryz.prog 32 #[vI vK 10, .agg #[vI vK al, vI vK ah], .agg #[vI vK bl, vI vK bh]] w fun e w' => e = .returned (.agg #[vI vK (z0i 10 al (bl % 64)), vI vK (z0i 10 ah (bl % 64))]) ∧ Below w.heap.size w w') ∧ (∀ (ha : al < 0) (he : bl = bh) (f1 : fits (al * 2 ^ sixBits (bl % 64)) = true) (f2 : fits (ah * 2 ^ sixBits (bl % 64)) = true) (w : World) (hA : z0a w), Calls Tryz.prog 32 #[vI vK 10, .agg #[vI vK al, vI vK ah], .agg #[vI vK bl, vI vK bh]] w fun e w' => e = .returned (.agg #[vI vK (z0i 10 al (bl % 64)), vI vK (z0i 10 ah (bl % 64))]) ∧ Below w.heap.size w w') := by
 refine ⟨?_, ?_, ?_, ?_, ?_, ?_, ?_, ?_, ?_, ?_, ?_, ?_, ?_⟩
 intro ha hb hp w hA
 rotate_left
 intro ha hb he f1 w hA
 rotate_left
 intro ha hb he f1 f2 w hA
 rotate_left
 intro ha hb he w hA
 rotate_left
 intro ha hb he f1 w hA
 rotate_left
 intro ha hb he f1 f2 w hA
 rotate_left
 intro ha hb he w hA
 rotate_left
 intro ha he f1 w hA
 rotate_left
 intro ha he f1 f2 w hA
 rotate_left
 intro ha he w hA
 rotate_left
 intro ha hb he f1 f2 w hA
 rotate_left
 intro ha hb he f1 f2 w hA
 rotate_left
 intro ha he f1 f2 w hA
 rotate_left
 all_goals
  obtain ⟨gz, g0, g1⟩ := hA
  have gz0 : 0 < w.heap.size := by omega
  have gz1 : 0 < w.heap.size + 1 := by omega
  have gz2 : 0 < w.heap.size + 1 + 1 := by omega
  have gz3 : 0 < w.heap.size + 1 + 1 + 1 := by omega
  have gz4 : 0 < w.heap.size + 1 + 1 + 1 + 1 := by omega
  have hx := z76 bl
  have hk0 : 0 ≤ bl % 64 := Int.emod_nonneg _ (by decide)
  have hk1 : bl % 64 < 64 := Int.emod_lt_of_pos _ (by decide)
 have da : decide (0 ≤ al) = true := by simp; omega
 have db : decide (0 ≤ bl) = true := by simp; omega
 have dz : decide (0 < bl) = true := by simp; omega
 have e1 : al.tdiv bh = al / bh := Int.tdiv_eq_ediv_of_nonneg ha
 have e2 : ah.tdiv bl = ah / bl := Int.tdiv_eq_ediv_of_nonneg (by omega)
 have w1 : wrap64 (al / bh) = al / bh := z0e (by have := Int.ediv_nonneg ha (by omega : 0 ≤ bh); omega) (by have := Int.ediv_le_self bh ha; omega)
 have w2 : wrap64 (ah / bl) = ah / bl := z0e (by have := Int.ediv_nonneg (by omega : 0 ≤ ah) (by omega : 0 ≤ bl); omega) (by have := Int.ediv_le_self bl (by omega : 0 ≤ ah); omega)
 have n1 : ¬ bh = 0 := by omega
 have n2 : ¬ bl = 0 := by omega
 have x1 : IntKind.i64.wrap (al / bh) = al / bh := by rw [IntWalk.i64_left]; exact w1
 have x2 : IntKind.i64.wrap (ah / bl) = ah / bl := by rw [IntWalk.i64_left]; exact w2
 rotate_left
 have da : decide (0 ≤ al) = true := by simp; omega
 have db : decide (0 ≤ bl) = true := by simp; omega
 have kn : (bl == bh) = true := by simp; omega
 clear he
 have b1 : (z0i 10 al (bl % 64) / 2 ^ sixBits (bl % 64) == al) = false := by rw [z1g, z1z (z19 _)]; exact f1
 have kA : -9223372036854775808 ≤ bl % 64 := by omega
 have kB : bl % 64 ≤ 9223372036854775807 := by omega
 have z1 := z0u al (bl % 64)
 have z2 := z0u ah (bl % 64)
 obtain ⟨z1, z1b⟩ := z1
 obtain ⟨z2, z2b⟩ := z2
 rotate_left
 have da : decide (0 ≤ al) = true := by simp; omega
 have db : decide (0 ≤ bl) = true := by simp; omega
 have kn : (bl == bh) = true := by simp; omega
 clear he
 have b1 : (z0i 10 al (bl % 64) / 2 ^ sixBits (bl % 64) == al) = true := by rw [z1g, z1z (z19 _)]; exact f1
 have b2 : (z0i 10 ah (bl % 64) / 2 ^ sixBits (bl % 64) == ah) = false := by rw [z1g, z1z (z19 _)]; exact f2
 have kA : -9223372036854775808 ≤ bl % 64 := by omega
 have kB : bl % 64 ≤ 9223372036854775807 := by omega
 have z1 := z0u al (bl % 64)
 have z2 := z0u ah (bl % 64)
 obtain ⟨z1, z1b⟩ := z1
 obtain ⟨z2, z2b⟩ := z2
 rotate_left
 have da : decide (0 ≤ al) = true := by simp; omega
 have db : decide (0 ≤ bl) = true := by simp; omega
 have kn : (bl == bh) = false := by simp; omega
 clear he
 have kA : -9223372036854775808 ≤ bl % 64 := by omega
 have kB : bl % 64 ≤ 9223372036854775807 := by omega
 have z1 := z0u al (bl % 64)
 have z2 := z0u ah (bl % 64)
 obtain ⟨z1, z1b⟩ := z1
 obtain ⟨z2, z2b⟩ := z2
 rotate_left
 have da : decide (0 ≤ al) = true := by simp; omega
 have db : decide (0 ≤ bl) = false := by simp; omega
 have kn : (bl == bh) = true := by simp; omega
 clear he
 have b1 : (z0i 10 al (bl % 64) / 2 ^ sixBits (bl % 64) == al) = false := by rw [z1g, z1z (z19 _)]; exact f1
 have kA : -9223372036854775808 ≤ bl % 64 := by omega
 have kB : bl % 64 ≤ 9223372036854775807 := by omega
 have z1 := z0u al (bl % 64)
 have z2 := z0u ah (bl % 64)
 obtain ⟨z1, z1b⟩ := z1
 obtain ⟨z2, z2b⟩ := z2
 rotate_left
 have da : decide (0 ≤ al) = true := by simp; omega
 have db : decide (0 ≤ bl) = false := by simp; omega
 have kn : (bl == bh) = true := by simp; omega
 clear he
 have b1 : (z0i 10 al (bl % 64) / 2 ^ sixBits (bl % 64) == al) = true := by rw [z1g, z1z (z19 _)]; exact f1
 have b2 : (z0i 10 ah (bl % 64) / 2 ^ sixBits (bl % 64) == ah) = false := by rw [z1g, z1z (z19 _)]; exact f2
 have kA : -9223372036854775808 ≤ bl % 64 := by omega
 have kB : bl % 64 ≤ 9223372036854775807 := by omega
 have z1 := z0u al (bl % 64)
 have z2 := z0u ah (bl % 64)
 obtain ⟨z1, z1b⟩ := z1
 obtain ⟨z2, z2b⟩ := z2
 rotate_left
 have da : decide (0 ≤ al) = true := by simp; omega
 have db : decide (0 ≤ bl) = false := by simp; omega
 have kn : (bl == bh) = false := by simp; omega
 clear he
 have kA : -9223372036854775808 ≤ bl % 64 := by omega
 have kB : bl % 64 ≤ 9223372036854775807 := by omega
 have z1 := z0u al (bl % 64)
 have z2 := z0u ah (bl % 64)
 obtain ⟨z1, z1b⟩ := z1
 obtain ⟨z2, z2b⟩ := z2
 rotate_left
 have da : decide (0 ≤ al) = false := by simp; omega
 have kn : (bl == bh) = true := by simp; omega
 clear he
 have b1 : (z0i 10 al (bl % 64) / 2 ^ sixBits (bl % 64) == al) = false := by rw [z1g, z1z (z19 _)]; exact f1
 have kA : -9223372036854775808 ≤ bl % 64 := by omega
 have kB : bl % 64 ≤ 9223372036854775807 := by omega
 have z1 := z0u al (bl % 64)
 have z2 := z0u ah (bl % 64)
 obtain ⟨z1, z1b⟩ := z1
 obtain ⟨z2, z2b⟩ := z2
 rotate_left
 have da : decide (0 ≤ al) = false := by simp; omega
 have kn : (bl == bh) = true := by simp; omega
 clear he
 have b1 : (z0i 10 al (bl % 64) / 2 ^ sixBits (bl % 64) == al) = true := by rw [z1g, z1z (z19 _)]; exact f1
 have b2 : (z0i 10 ah (bl % 64) / 2 ^ sixBits (bl % 64) == ah) = false := by rw [z1g, z1z (z19 _)]; exact f2
 have kA : -9223372036854775808 ≤ bl % 64 := by omega
 have kB : bl % 64 ≤ 9223372036854775807 := by omega
 have z1 := z0u al (bl % 64)
 have z2 := z0u ah (bl % 64)
 obtain ⟨z1, z1b⟩ := z1
 obtain ⟨z2, z2b⟩ := z2
 rotate_left
 have da : decide (0 ≤ al) = false := by simp; omega
 have kn : (bl == bh) = false := by simp; omega
 clear he
 have kA : -9223372036854775808 ≤ bl % 64 := by omega
 have kB : bl % 64 ≤ 9223372036854775807 := by omega
 have z1 := z0u al (bl % 64)
 have z2 := z0u ah (bl % 64)
 obtain ⟨z1, z1b⟩ := z1
 obtain ⟨z2, z2b⟩ := z2
 rotate_left
 have da : decide (0 ≤ al) = true := by simp; omega
 have db : decide (0 ≤ bl) = true := by simp; omega
 have kn : (bl == bh) = true := by simp; omega
 clear he
 have b1 : (z0i 10 al (bl % 64) / 2 ^ sixBits (bl % 64) == al) = true := by rw [z1g, z1z (z19 _)]; exact f1
 have b2 : (z0i 10 ah (bl % 64) / 2 ^ sixBits (bl % 64) == ah) = true := by rw [z1g, z1z (z19 _)]; exact f2
 have z1 := z0u al (bl % 64)
 have z2 := z0u ah (bl % 64)
 obtain ⟨z1, z1b⟩ := z1
 obtain ⟨z2, z2b⟩ := z2
 rotate_left
 have da : decide (0 ≤ al) = true := by simp; omega
 have db : decide (0 ≤ bl) = false := by simp; omega
 have kn : (bl == bh) = true := by simp; omega
 clear he
 have b1 : (z0i 10 al (bl % 64) / 2 ^ sixBits (bl % 64) == al) = true := by rw [z1g, z1z (z19 _)]; exact f1
 have b2 : (z0i 10 ah (bl % 64) / 2 ^ sixBits (bl % 64) == ah) = true := by rw [z1g, z1z (z19 _)]; exact f2
 have z1 := z0u al (bl % 64)
 have z2 := z0u ah (bl % 64)
 obtain ⟨z1, z1b⟩ := z1
 obtain ⟨z2, z2b⟩ := z2
 rotate_left
 have da : decide (0 ≤ al) = false := by simp; omega
 have kn : (bl == bh) = true := by simp; omega
 clear he
 have b1 : (z0i 10 al (bl % 64) / 2 ^ sixBits (bl % 64) == al) = true := by rw [z1g, z1z (z19 _)]; exact f1
 have b2 : (z0i 10 ah (bl % 64) / 2 ^ sixBits (bl % 64) == ah) = true := by rw [z1g, z1z (z19 _)]; exact f2
 have z1 := z0u al (bl % 64)
 have z2 := z0u ah (bl % 64)
 obtain ⟨z1, z1b⟩ := z1
 obtain ⟨z2, z2b⟩ := z2
 rotate_left
 all_goals
  go_enter Tryz.func32, Tryz.ntmps32
  go_wp2_with (first | (go_at_call 51; refine (z2n _ _ ?_ ?_ ?_ ?_ _).mono ?_; omega; omega; omega; omega; rintro e w' ⟨rfl, rfl⟩) | (go_at_call 52; refine (z2l _ _ ?_ ?_ ?_ ?_ _).mono ?_; omega; omega; omega; omega; rintro e w' ⟨rfl, rfl⟩) | (go_at_call 53; refine (z10 _ ?_ _).mono ?_; omega; rintro e w' ⟨rfl, rfl⟩) | (go_at_call 55; refine (z1r _ _ ?_ ?_ ?_ ?_ _).mono ?_; omega; omega; omega; omega; rintro e w' ⟨rfl, rfl⟩) | (go_at_call 54; refine (z2h _ _ _ ?_ ?_ ?_ ?_ _).mono ?_; omega; omega; omega; omega; rintro e w' ⟨rfl, rfl⟩))
 ·go_region_held3 (fun w' => w'.cell? ⟨w.heap.size, 0, none⟩ = some (vI vK al) ∧ w'.cell? ⟨w.heap.size, 1, none⟩ = some (vI vK ah) ∧ w'.cell? ⟨w.heap.size + 1, 0, none⟩ = some (vI vK bl) ∧ w'.cell? ⟨w.heap.size + 1, 1, none⟩ = some (vI vK bh)) (first | (simp [go_sem]; done) | (simp [go_sem, *]; done) | go_keep) (first | (go_at_call 51; refine (z2n _ _ ?_ ?_ ?_ ?_ _).mono ?_; omega; omega; omega; omega; rintro e w' ⟨rfl, rfl⟩) | (go_at_call 52; refine (z2l _ _ ?_ ?_ ?_ ?_ _).mono ?_; omega; omega; omega; omega; rintro e w' ⟨rfl, rfl⟩) | (go_at_call 53; refine (z10 _ ?_ _).mono ?_; omega; rintro e w' ⟨rfl, rfl⟩) | (go_at_call 55; refine (z1r _ _ ?_ ?_ ?_ ?_ _).mono ?_; omega; omega; omega; omega; rintro e w' ⟨rfl, rfl⟩) | (go_at_call 54; refine (z2h _ _ _ ?_ ?_ ?_ ?_ _).mono ?_; omega; omega; omega; omega; rintro e w' ⟨rfl, rfl⟩))
  all_goals go_wp2_with fail
  all_goals exact bodyPost_ret (v := .agg #[vI vK (al / bh), vI vK (ah / bl)]) (by simp [results, Tryz.results32, go_sem]) rfl ⟨rfl, by repeat' first | exact bF _ _ | refine bA ?_ ?_ _ | refine bS ?_ ?_ _ | refine bD ?_ | refine below_drewN ?_ _ | (simp; done) | (simp; omega) | (simp [z00]; done) | (simp [z00]; omega) | omega⟩
 iterate 9
  ·go_region_held3 (fun w' => w'.cell? ⟨w.heap.size, 0, none⟩ = some (vI vK al) ∧ w'.cell? ⟨w.heap.size, 1, none⟩ = some (vI vK ah) ∧ w'.cell? ⟨w.heap.size + 1, 0, none⟩ = some (vI vK bl) ∧ w'.cell? ⟨w.heap.size + 1, 1, none⟩ = some (vI vK bh)) (first | (simp [go_sem]; done) | (simp [go_sem, *]; done) | go_keep) (first | (go_at_call 51; refine (z2n _ _ ?_ ?_ ?_ ?_ _).mono ?_; omega; omega; omega; omega; rintro e w' ⟨rfl, rfl⟩) | (go_at_call 52; refine (z2l _ _ ?_ ?_ ?_ ?_ _).mono ?_; omega; omega; omega; omega; rintro e w' ⟨rfl, rfl⟩) | (go_at_call 53; refine (z10 _ ?_ _).mono ?_; omega; rintro e w' ⟨rfl, rfl⟩) | (go_at_call 55; refine (z1r _ _ ?_ ?_ ?_ ?_ _).mono ?_; omega; omega; omega; omega; rintro e w' ⟨rfl, rfl⟩) | (go_at_call 54; refine (z2h _ _ _ ?_ ?_ ?_ ?_ _).mono ?_; omega; omega; omega; omega; rintro e w' ⟨rfl, rfl⟩))
   all_goals go_wp2_with (first | (go_at_call 51; refine (z2n _ _ ?_ ?_ ?_ ?_ _).mono ?_; omega; omega; omega; omega; rintro e w' ⟨rfl, rfl⟩) | (go_at_call 52; refine (z2l _ _ ?_ ?_ ?_ ?_ _).mono ?_; omega; omega; omega; omega; rintro e w' ⟨rfl, rfl⟩) | (go_at_call 53; refine (z10 _ ?_ _).mono ?_; omega; rintro e w' ⟨rfl, rfl⟩) | (go_at_call 55; refine (z1r _ _ ?_ ?_ ?_ ?_ _).mono ?_; omega; omega; omega; omega; rintro e w' ⟨rfl, rfl⟩) | (go_at_call 54; refine (z2h _ _ _ ?_ ?_ ?_ ?_ _).mono ?_; omega; omega; omega; omega; rintro e w' ⟨rfl, rfl⟩))
   all_goals go_quiet ((first | (go_at_call 55; first | exact (z1r _ _ z1 z1b kA kB _).mono fun e w' ⟨he, hw⟩ => ⟨he, _, hw⟩ | exact (z1r _ _ z2 z2b kA kB _).mono fun e w' ⟨he, hw⟩ => ⟨he, _, hw⟩)))
   all_goals go_wp2_with (first | (go_at_call 51; refine (z2n _ _ ?_ ?_ ?_ ?_ _).mono ?_; omega; omega; omega; omega; rintro e w' ⟨rfl, rfl⟩) | (go_at_call 52; refine (z2l _ _ ?_ ?_ ?_ ?_ _).mono ?_; omega; omega; omega; omega; rintro e w' ⟨rfl, rfl⟩) | (go_at_call 53; refine (z10 _ ?_ _).mono ?_; omega; rintro e w' ⟨rfl, rfl⟩) | (go_at_call 55; refine (z1r _ _ ?_ ?_ ?_ ?_ _).mono ?_; omega; omega; omega; omega; rintro e w' ⟨rfl, rfl⟩) | (go_at_call 54; refine (z2h _ _ _ ?_ ?_ ?_ ?_ _).mono ?_; omega; omega; omega; omega; rintro e w' ⟨rfl, rfl⟩))
   all_goals exact bodyPost_ret (v := .agg #[vI vK (-9223372036854775808), vI vK 9223372036854775807]) (by simp [results, Tryz.results32, go_sem]) rfl ⟨rfl, by repeat' first | exact bF _ _ | refine bA ?_ ?_ _ | refine bS ?_ ?_ _ | refine bD ?_ | refine below_drewN ?_ _ | (simp; done) | (simp; omega) | (simp [z00]; done) | (simp [z00]; omega) | omega⟩
 iterate 3
  ·go_region_held3 (fun w' => w'.cell? ⟨w.heap.size, 0, none⟩ = some (vI vK al) ∧ w'.cell? ⟨w.heap.size, 1, none⟩ = some (vI vK ah) ∧ w'.cell? ⟨w.heap.size + 1, 0, none⟩ = some (vI vK bl) ∧ w'.cell? ⟨w.heap.size + 1, 1, none⟩ = some (vI vK bh)) (first | (simp [go_sem]; done) | (simp [go_sem, *]; done) | go_keep) (first | (go_at_call 51; refine (z2n _ _ ?_ ?_ ?_ ?_ _).mono ?_; omega; omega; omega; omega; rintro e w' ⟨rfl, rfl⟩) | (go_at_call 52; refine (z2l _ _ ?_ ?_ ?_ ?_ _).mono ?_; omega; omega; omega; omega; rintro e w' ⟨rfl, rfl⟩) | (go_at_call 53; refine (z10 _ ?_ _).mono ?_; omega; rintro e w' ⟨rfl, rfl⟩) | (go_at_call 55; refine (z1r _ _ ?_ ?_ ?_ ?_ _).mono ?_; omega; omega; omega; omega; rintro e w' ⟨rfl, rfl⟩) | (go_at_call 54; refine (z2h _ _ _ ?_ ?_ ?_ ?_ _).mono ?_; omega; omega; omega; omega; rintro e w' ⟨rfl, rfl⟩))
   all_goals go_wp2_with (first | (go_at_call 51; refine (z2n _ _ ?_ ?_ ?_ ?_ _).mono ?_; omega; omega; omega; omega; rintro e w' ⟨rfl, rfl⟩) | (go_at_call 52; refine (z2l _ _ ?_ ?_ ?_ ?_ _).mono ?_; omega; omega; omega; omega; rintro e w' ⟨rfl, rfl⟩) | (go_at_call 53; refine (z10 _ ?_ _).mono ?_; omega; rintro e w' ⟨rfl, rfl⟩) | (go_at_call 55; refine (z1r _ _ ?_ ?_ ?_ ?_ _).mono ?_; omega; omega; omega; omega; rintro e w' ⟨rfl, rfl⟩) | (go_at_call 54; refine (z2h _ _ _ ?_ ?_ ?_ ?_ _).mono ?_; omega; omega; omega; omega; rintro e w' ⟨rfl, rfl⟩))
   all_goals go_region_held3 (fun w' => w'.cell? ⟨w.heap.size, 0, none⟩ = some (vI vK al) ∧ w'.cell? ⟨w.heap.size, 1, none⟩ = some (vI vK ah) ∧ w'.cell? ⟨w.heap.size + 1, 0, none⟩ = some (vI vK bl) ∧ w'.cell? ⟨w.heap.size + 1, 1, none⟩ = some (vI vK bh)) (first | (simp [go_sem]; done) | (simp [go_sem, *]; done) | go_keep) (first | (go_at_call 51; refine (z2n _ _ ?_ ?_ ?_ ?_ _).mono ?_; omega; omega; omega; omega; rintro e w' ⟨rfl, rfl⟩) | (go_at_call 52; refine (z2l _ _ ?_ ?_ ?_ ?_ _).mono ?_; omega; omega; omega; omega; rintro e w' ⟨rfl, rfl⟩) | (go_at_call 53; refine (z10 _ ?_ _).mono ?_; omega; rintro e w' ⟨rfl, rfl⟩) | (go_at_call 55; refine (z1r _ _ ?_ ?_ ?_ ?_ _).mono ?_; omega; omega; omega; omega; rintro e w' ⟨rfl, rfl⟩) | (go_at_call 54; refine (z2h _ _ _ ?_ ?_ ?_ ?_ _).mono ?_; omega; omega; omega; omega; rintro e w' ⟨rfl, rfl⟩))
   all_goals go_wp2_with (first | (go_at_call 51; refine (z2n _ _ ?_ ?_ ?_ ?_ _).mono ?_; omega; omega; omega; omega; rintro e w' ⟨rfl, rfl⟩) | (go_at_call 52; refine (z2l _ _ ?_ ?_ ?_ ?_ _).mono ?_; omega; omega; omega; omega; rintro e w' ⟨rfl, rfl⟩) | (go_at_call 53; refine (z10 _ ?_ _).mono ?_; omega; rintro e w' ⟨rfl, rfl⟩) | (go_at_call 55; refine (z1r _ _ ?_ ?_ ?_ ?_ _).mono ?_; omega; omega; omega; omega; rintro e w' ⟨rfl, rfl⟩) | (go_at_call 54; refine (z2h _ _ _ ?_ ?_ ?_ ?_ _).mono ?_; omega; omega; omega; omega; rintro e w' ⟨rfl, rfl⟩))
   all_goals exact bodyPost_ret (v := .agg #[vI vK (z0i 10 al (bl % 64)), vI vK (z0i 10 ah (bl % 64))]) (by simp [results, Tryz.results32, go_sem]) rfl ⟨rfl, by repeat' first | exact bF _ _ | refine bA ?_ ?_ _ | refine bS ?_ ?_ _ | refine bD ?_ | refine below_drewN ?_ _ | (simp; done) | (simp; omega) | (simp [z00]; done) | (simp [z00]; omega) | omega⟩
def rbd_5p := fun al ah bl bh pal qal pah qah pbl qbl pbh qbh oa ob => (@z1c al ah bl bh pal qal pah qah pbl qbl pbh qbh oa ob).1
def zKt := fun al ah bl bh pal qal pah qah pbl qbl pbh qbh oa ob => (@z1c al ah bl bh pal qal pah qah pbl qbl pbh qbh oa ob).2.1
def zKr := fun al ah bl bh pal qal pah qah pbl qbl pbh qbh oa ob => (@z1c al ah bl bh pal qal pah qah pbl qbl pbh qbh oa ob).2.2.1
def zKu := fun al ah bl bh pal qal pah qah pbl qbl pbh qbh oa ob => (@z1c al ah bl bh pal qal pah qah pbl qbl pbh qbh oa ob).2.2.2.1
def zKx := fun al ah bl bh pal qal pah qah pbl qbl pbh qbh oa ob => (@z1c al ah bl bh pal qal pah qah pbl qbl pbh qbh oa ob).2.2.2.2.1
def zKv := fun al ah bl bh pal qal pah qah pbl qbl pbh qbh oa ob => (@z1c al ah bl bh pal qal pah qah pbl qbl pbh qbh oa ob).2.2.2.2.2.1
def zKy := fun al ah bl bh pal qal pah qah pbl qbl pbh qbh oa ob => (@z1c al ah bl bh pal qal pah qah pbl qbl pbh qbh oa ob).2.2.2.2.2.2.1
def zOv := fun al ah bl bh pal qal pah qah pbl qbl pbh qbh oa ob => (@z1c al ah bl bh pal qal pah qah pbl qbl pbh qbh oa ob).2.2.2.2.2.2.2.1
def zOt := fun al ah bl bh pal qal pah qah pbl qbl pbh qbh oa ob => (@z1c al ah bl bh pal qal pah qah pbl qbl pbh qbh oa ob).2.2.2.2.2.2.2.2.1
def zOw := fun al ah bl bh pal qal pah qah pbl qbl pbh qbh oa ob => (@z1c al ah bl bh pal qal pah qah pbl qbl pbh qbh oa ob).2.2.2.2.2.2.2.2.2.1
def zKs := fun al ah bl bh pal qal pah qah pbl qbl pbh qbh oa ob => (@z1c al ah bl bh pal qal pah qah pbl qbl pbh qbh oa ob).2.2.2.2.2.2.2.2.2.2.1
def zKw := fun al ah bl bh pal qal pah qah pbl qbl pbh qbh oa ob => (@z1c al ah bl bh pal qal pah qah pbl qbl pbh qbh oa ob).2.2.2.2.2.2.2.2.2.2.2.1
def zOu := fun al ah bl bh pal qal pah qah pbl qbl pbh qbh oa ob => (@z1c al ah bl bh pal qal pah qah pbl qbl pbh qbh oa ob).2.2.2.2.2.2.2.2.2.2.2.2
theorem z16 (al ah bl bh : Int) (pal : -9223372036854775808 ≤ al) (qal : al ≤ 9223372036854775807) (pah : -9223372036854775808 ≤ ah) (qah : ah ≤ 9223372036854775807) (pbl : -9223372036854775808 ≤ bl) (qbl : bl ≤ 9223372036854775807) (pbh : -9223372036854775808 ≤ bh) (qbh : bh ≤ 9223372036854775807) (oa : al ≤ ah) (ob : bl ≤ bh) : (∀ (ha : al < 0) (w : World) (hA : z0a w), Calls Tryz.prog 32 #[vI vK 6, .agg #[vI vK al, vI vK ah], .agg #[vI vK bl, vI vK bh]] w fun e w' => e = .returned (.agg #[vI vK (-9223372036854775808), vI vK 9223372036854775807]) ∧ Below w.heap.size w w') ∧ (∀ (ha : 0 ≤ al) (hb : bl < 0) (w : World) (hA : z0a w), Calls Tryz.prog 32 #[vI vK 8, .agg #[vI vK al, vI vK ah], .agg #[vI vK bl, vI vK bh]] w fun e w' => e = .returned (.agg #[vI vK (-9223372036854775808), vI vK 9223372036854775807]) ∧ Below w.heap.size w w') ∧ (∀ (ha : al < 0) (w : World) (hA : z0a w), Calls Tryz.prog 32 #[vI vK 8, .agg #[vI vK al, vI vK ah], .agg #[vI vK bl, vI vK bh]] w fun e w' => e = .returned (.agg #[vI vK (-9223372036854775808), vI vK 9223372036854775807]) ∧ Below w.heap.size w w') ∧ (∀ (ha : 0 ≤ al) (hb : bl < 0) (w : World) (hA : z0a w), Calls Tryz.prog 32 #[vI vK 9, .agg #[vI vK al, vI vK ah], .agg #[vI vK bl, vI vK bh]] w fun e w' => e = .returned (.agg #[vI vK (-9223372036854775808), vI vK 9223372036854775807]) ∧ Below w.heap.size w w') ∧ (∀ (ha : al < 0) (w : World) (hA : z0a w), Calls Tryz.prog 32 #[vI vK 9, .agg #[vI vK al, vI vK ah], .agg #[vI vK bl, vI vK bh]] w fun e w' => e = .returned (.agg #[vI vK (-9223372036854775808), vI vK 9223372036854775807]) ∧ Below w.heap.size w w') ∧ (∀ (ha : 0 ≤ al) (hb : 0 ≤ bl) (w : World) (hA : z0a w), Calls Tryz.prog 32 #[vI vK 7, .agg #[vI vK al, vI vK ah], .agg #[vI vK bl, vI vK bh]] w fun e w' => e = .returned (.agg #[vI vK 0, vI vK (min ah bh)]) ∧ Below w.heap.size w w') ∧ (∀ (ha : 0 ≤ al) (hb : bl < 0) (w : World) (hA : z0a w), Calls Tryz.prog 32 #[vI vK 7, .agg #[vI vK al, vI vK ah], .agg #[vI vK bl, vI vK bh]] w fun e w' => e = .returned (.agg #[vI vK 0, vI vK ah]) ∧ Below w.heap.size w w') ∧ (∀ (ha : al < 0) (hb : 0 ≤ bl) (w : World) (hA : z0a w), Calls Tryz.prog 32 #[vI vK 7, .agg #[vI vK al, vI vK ah], .agg #[vI vK bl, vI vK bh]] w fun e w' => e = .returned (.agg #[vI vK 0, vI vK (min 9223372036854775807 bh)]) ∧ Below w.heap.size w w') ∧ (∀ (ha : al < 0) (hb : bl < 0) (w : World) (hA : z0a w), Calls Tryz.prog 32 #[vI vK 7, .agg #[vI vK al, vI vK ah], .agg #[vI vK bl, vI vK bh]] w fun e w' => e = .returned (.agg #[vI vK (-9223372036854775808), vI vK 9223372036854775807]) ∧ Below w.heap.size w w') ∧ (∀ (ha : 0 ≤ al) (hb : 0 ≤ bl) (hl : -9223372036854775808 < al) (w : World) (hA : z0a w), Calls Tryz.prog 32 #[vI vK 13, .agg #[vI vK al, vI vK ah], .agg #[vI vK bl, vI vK bh]] w fun e w' => e = .returned (.agg #[vI vK (-ah), vI vK (-al)]) ∧ Below w.heap.size w w') ∧ (∀ (ha : 0 ≤ al) (hb : bl < 0) (hl : -9223372036854775808 < al) (w : World) (hA : z0a w), Calls Tryz.prog 32 #[vI vK 13, .agg #[vI vK al, vI vK ah], .agg #[vI vK bl, vI vK bh]] w fun e w' => e = .returned (.agg #[vI vK (-ah), vI vK (-al)]) ∧ Below w.heap.size w w') ∧ (∀ (ha : al < 0) (hl : -9223372036854775808 < al) (w : World) (hA : z0a w), Calls Tryz.prog 32 #[vI vK 13, .agg #[vI vK al, vI vK ah], .agg #[vI vK bl, vI vK bh]] w fun e w' => e = .returned (.agg #[vI vK (-ah), vI vK (-al)]) ∧ Below w.heap.size w w') ∧ (∀ (ha : al < 0) (hl : al ≤ -9223372036854775808) (w : World) (hA : z0a w), Calls Tryz.prog 32 #[vI vK 13, .agg #[vI vK al, vI vK ah], .agg #[vI vK bl, vI vK bh]] w fun e w' => e = .returned (.agg #[vI vK (-9223372036854775808), vI vK 9223372036854775807]) ∧ Below w.heap.size w w') ∧ (∀ (ha : 0 ≤ al) (hb : 0 ≤ bl) (he : bl = bh) (hk : bl % 64 = 0) (w : World) (hA : z0a w), Calls Tryz.prog 32 #[vI vK 11, .agg #[vI vK al, vI vK ah], .agg #[vI vK bl, vI vK bh]] w fun e w' => e = .returned (.agg #[vI vK al, vI vK ah]) ∧ Below w.heap.size w w') := by
 refine ⟨?_, ?_, ?_, ?_, ?_, ?_, ?_, ?_, ?_, ?_, ?_, ?_, ?_, ?_⟩
 intro ha w hA
 rotate_left
 intro ha hb w hA
 rotate_left
 intro ha w hA
 rotate_left
 intro ha hb w hA
 rotate_left
 intro ha w hA
 rotate_left
 intro ha hb w hA
 rotate_left
 intro ha hb w hA
 rotate_left
 intro ha hb w hA
 rotate_left
 intro ha hb w hA
 rotate_left
 intro ha hb hl w hA
 rotate_left
 intro ha hb hl w hA
 rotate_left
 intro ha hl w hA
 rotate_left
 intro ha hl w hA
 rotate_left
 intro ha hb he hk w hA
 rotate_left
 all_goals
  obtain ⟨gz, g0, g1⟩ := hA
  have gz0 : 0 < w.heap.size := by omega
  have gz1 : 0 < w.heap.size + 1 := by omega
  have gz2 : 0 < w.heap.size + 1 + 1 := by omega
  have gz3 : 0 < w.heap.size + 1 + 1 + 1 := by omega
  have gz4 : 0 < w.heap.size + 1 + 1 + 1 + 1 := by omega
  have hx := z76 bl
  have hk0 : 0 ≤ bl % 64 := Int.emod_nonneg _ (by decide)
  have hk1 : bl % 64 < 64 := Int.emod_lt_of_pos _ (by decide)
 have da : decide (0 ≤ al) = false := by simp; omega
 rotate_left
 have da : decide (0 ≤ al) = true := by simp; omega
 have db : decide (0 ≤ bl) = false := by simp; omega
 rotate_left
 have da : decide (0 ≤ al) = false := by simp; omega
 rotate_left
 have da : decide (0 ≤ al) = true := by simp; omega
 have db : decide (0 ≤ bl) = false := by simp; omega
 rotate_left
 have da : decide (0 ≤ al) = false := by simp; omega
 rotate_left
 have da : decide (0 ≤ al) = true := by simp; omega
 have db : decide (0 ≤ bl) = true := by simp; omega
 rotate_left
 have da : decide (0 ≤ al) = true := by simp; omega
 have db : decide (0 ≤ bl) = false := by simp; omega
 rotate_left
 have da : decide (0 ≤ al) = false := by simp; omega
 have db : decide (0 ≤ bl) = true := by simp; omega
 rotate_left
 have da : decide (0 ≤ al) = false := by simp; omega
 have db : decide (0 ≤ bl) = false := by simp; omega
 rotate_left
 have da : decide (0 ≤ al) = true := by simp; omega
 have db : decide (0 ≤ bl) = true := by simp; omega
 rotate_left
 have da : decide (0 ≤ al) = true := by simp; omega
 have db : decide (0 ≤ bl) = false := by simp; omega
 rotate_left
 have da : decide (0 ≤ al) = false := by simp; omega
 rotate_left
 have da : decide (0 ≤ al) = false := by simp; omega
 have dl : decide (-9223372036854775808 < al) = false := by simp; omega
 rotate_left
 have da : decide (0 ≤ al) = true := by simp; omega
 have db : decide (0 ≤ bl) = true := by simp; omega
 have kn : (bl == bh) = true := by simp; omega
 have kz : (bl % 64 == 0) = true := by simp; omega
 clear he hk
 rotate_left
 all_goals
  go_enter Tryz.func32, Tryz.ntmps32
  go_wp2_with (first | (go_at_call 51; refine (z2n _ _ ?_ ?_ ?_ ?_ _).mono ?_; omega; omega; omega; omega; rintro e w' ⟨rfl, rfl⟩) | (go_at_call 52; refine (z2l _ _ ?_ ?_ ?_ ?_ _).mono ?_; omega; omega; omega; omega; rintro e w' ⟨rfl, rfl⟩) | (go_at_call 53; refine (z10 _ ?_ _).mono ?_; omega; rintro e w' ⟨rfl, rfl⟩) | (go_at_call 55; refine (z1r _ _ ?_ ?_ ?_ ?_ _).mono ?_; omega; omega; omega; omega; rintro e w' ⟨rfl, rfl⟩) | (go_at_call 54; refine (z2h _ _ _ ?_ ?_ ?_ ?_ _).mono ?_; omega; omega; omega; omega; rintro e w' ⟨rfl, rfl⟩))
  all_goals exact bodyPost_ret (by simp [results, Tryz.results32, go_sem]) rfl ⟨rfl, by repeat' first | exact bF _ _ | refine bA ?_ ?_ _ | refine bS ?_ ?_ _ | refine bD ?_ | refine below_drewN ?_ _ | (simp; done) | (simp; omega) | (simp [z00]; done) | (simp [z00]; omega) | omega⟩
def rbd_6n := fun al ah bl bh pal qal pah qah pbl qbl pbh qbh oa ob => (@z16 al ah bl bh pal qal pah qah pbl qbl pbh qbh oa ob).1
def zSd := fun al ah bl bh pal qal pah qah pbl qbl pbh qbh oa ob => (@z16 al ah bl bh pal qal pah qah pbl qbl pbh qbh oa ob).2.1
def rbd_8n := fun al ah bl bh pal qal pah qah pbl qbl pbh qbh oa ob => (@z16 al ah bl bh pal qal pah qah pbl qbl pbh qbh oa ob).2.2.1
def zSc := fun al ah bl bh pal qal pah qah pbl qbl pbh qbh oa ob => (@z16 al ah bl bh pal qal pah qah pbl qbl pbh qbh oa ob).2.2.2.1
def rbd_9n := fun al ah bl bh pal qal pah qah pbl qbl pbh qbh oa ob => (@z16 al ah bl bh pal qal pah qah pbl qbl pbh qbh oa ob).2.2.2.2.1
def zSe := fun al ah bl bh pal qal pah qah pbl qbl pbh qbh oa ob => (@z16 al ah bl bh pal qal pah qah pbl qbl pbh qbh oa ob).2.2.2.2.2.1
def zSf := fun al ah bl bh pal qal pah qah pbl qbl pbh qbh oa ob => (@z16 al ah bl bh pal qal pah qah pbl qbl pbh qbh oa ob).2.2.2.2.2.2.1
def zSg := fun al ah bl bh pal qal pah qah pbl qbl pbh qbh oa ob => (@z16 al ah bl bh pal qal pah qah pbl qbl pbh qbh oa ob).2.2.2.2.2.2.2.1
def zSh := fun al ah bl bh pal qal pah qah pbl qbl pbh qbh oa ob => (@z16 al ah bl bh pal qal pah qah pbl qbl pbh qbh oa ob).2.2.2.2.2.2.2.2.1
def zKf := fun al ah bl bh pal qal pah qah pbl qbl pbh qbh oa ob => (@z16 al ah bl bh pal qal pah qah pbl qbl pbh qbh oa ob).2.2.2.2.2.2.2.2.2.1
def zKg := fun al ah bl bh pal qal pah qah pbl qbl pbh qbh oa ob => (@z16 al ah bl bh pal qal pah qah pbl qbl pbh qbh oa ob).2.2.2.2.2.2.2.2.2.2.1
def zOl := fun al ah bl bh pal qal pah qah pbl qbl pbh qbh oa ob => (@z16 al ah bl bh pal qal pah qah pbl qbl pbh qbh oa ob).2.2.2.2.2.2.2.2.2.2.2.1
def zOm := fun al ah bl bh pal qal pah qah pbl qbl pbh qbh oa ob => (@z16 al ah bl bh pal qal pah qah pbl qbl pbh qbh oa ob).2.2.2.2.2.2.2.2.2.2.2.2.1
def zKn := fun al ah bl bh pal qal pah qah pbl qbl pbh qbh oa ob => (@z16 al ah bl bh pal qal pah qah pbl qbl pbh qbh oa ob).2.2.2.2.2.2.2.2.2.2.2.2.2
theorem z2x (al ah bl bh : Int) (pal : -9223372036854775808 ≤ al) (qal : al ≤ 9223372036854775807) (pah : -9223372036854775808 ≤ ah) (qah : ah ≤ 9223372036854775807) (pbl : -9223372036854775808 ≤ bl) (qbl : bl ≤ 9223372036854775807) (pbh : -9223372036854775808 ≤ bh) (qbh : bh ≤ 9223372036854775807) (oa : al ≤ ah) (ob : bl ≤ bh) : (∀ (ha : 0 ≤ al) (hb : 0 ≤ bl) (w : World) (hA : z0a w), Calls Tryz.prog 32 #[vI vK 8, .agg #[vI vK al, vI vK ah], .agg #[vI vK bl, vI vK bh]] w fun e w' => e = .returned (.agg #[vI vK (max al bl), vI vK (z4d (max ah bh))]) ∧ Below w.heap.size w w') ∧ (∀ (ha : 0 ≤ al) (hb : 0 ≤ bl) (he : bl = bh) (hk : bl % 64 ≠ 0) (w : World) (hA : z0a w), Calls Tryz.prog 32 #[vI vK 11, .agg #[vI vK al, vI vK ah], .agg #[vI vK bl, vI vK bh]] w fun e w' => e = .returned (.agg #[vI vK (al / 2 ^ sixBits (bl % 64)), vI vK (ah / 2 ^ sixBits (bl % 64))]) ∧ Below w.heap.size w w') ∧ (∀ (ha : 0 ≤ al) (hb : 0 ≤ bl) (he : bl = bh) (w : World) (hA : z0a w), Calls Tryz.prog 32 #[vI vK 12, .agg #[vI vK al, vI vK ah], .agg #[vI vK bl, vI vK bh]] w fun e w' => e = .returned (.agg #[vI vK (al / 2 ^ sixBits (bl % 64)), vI vK (ah / 2 ^ sixBits (bl % 64))]) ∧ Below w.heap.size w w') ∧ (∀ (ha : 0 ≤ al) (hb : bl < 0) (he : bl = bh) (hk : bl % 64 ≠ 0) (w : World) (hA : z0a w), Calls Tryz.prog 32 #[vI vK 11, .agg #[vI vK al, vI vK ah], .agg #[vI vK bl, vI vK bh]] w fun e w' => e = .returned (.agg #[vI vK (al / 2 ^ sixBits (bl % 64)), vI vK (ah / 2 ^ sixBits (bl % 64))]) ∧ Below w.heap.size w w') ∧ (∀ (ha : 0 ≤ al) (hb : bl < 0) (he : bl = bh) (w : World) (hA : z0a w), Calls Tryz.prog 32 #[vI vK 12, .agg #[vI vK al, vI vK ah], .agg #[vI vK bl, vI vK bh]] w fun e w' => e = .returned (.agg #[vI vK (al / 2 ^ sixBits (bl % 64)), vI vK (ah / 2 ^ sixBits (bl % 64))]) ∧ Below w.heap.size w w') ∧ (∀ (ha : al < 0) (he : bl = bh) (w : World) (hA : z0a w), Calls Tryz.prog 32 #[vI vK 12, .agg #[vI vK al, vI vK ah], .agg #[vI vK bl, vI vK bh]] w fun e w' => e = .returned (.agg #[vI vK (al / 2 ^ sixBits (bl % 64)), vI vK (ah / 2 ^ sixBits (bl % 64))]) ∧ Below w.heap.size w w') := by
 refine ⟨?_, ?_, ?_, ?_, ?_, ?_⟩
 intro ha hb w hA
 rotate_left
 intro ha hb he hk w hA
 rotate_left
 intro ha hb he w hA
 rotate_left
 intro ha hb he hk w hA
 rotate_left
 intro ha hb he w hA
 rotate_left
 intro ha he w hA
 rotate_left
 all_goals
  obtain ⟨gz, g0, g1⟩ := hA
  have gz0 : 0 < w.heap.size := by omega
  have gz1 : 0 < w.heap.size + 1 := by omega
  have gz2 : 0 < w.heap.size + 1 + 1 := by omega
  have gz3 : 0 < w.heap.size + 1 + 1 + 1 := by omega
  have gz4 : 0 < w.heap.size + 1 + 1 + 1 + 1 := by omega
  have hx := z76 bl
  have hk0 : 0 ≤ bl % 64 := Int.emod_nonneg _ (by decide)
  have hk1 : bl % 64 < 64 := Int.emod_lt_of_pos _ (by decide)
 have da : decide (0 ≤ al) = true := by simp; omega
 have db : decide (0 ≤ bl) = true := by simp; omega
 rotate_left
 have da : decide (0 ≤ al) = true := by simp; omega
 have db : decide (0 ≤ bl) = true := by simp; omega
 have kn : (bl == bh) = true := by simp; omega
 have kz : (bl % 64 == 0) = false := by simp; omega
 clear he hk
 rotate_left
 have da : decide (0 ≤ al) = true := by simp; omega
 have db : decide (0 ≤ bl) = true := by simp; omega
 have kn : (bl == bh) = true := by simp; omega
 clear he
 rotate_left
 have da : decide (0 ≤ al) = true := by simp; omega
 have db : decide (0 ≤ bl) = false := by simp; omega
 have kn : (bl == bh) = true := by simp; omega
 have kz : (bl % 64 == 0) = false := by simp; omega
 clear he hk
 rotate_left
 have da : decide (0 ≤ al) = true := by simp; omega
 have db : decide (0 ≤ bl) = false := by simp; omega
 have kn : (bl == bh) = true := by simp; omega
 clear he
 rotate_left
 have da : decide (0 ≤ al) = false := by simp; omega
 have kn : (bl == bh) = true := by simp; omega
 clear he
 rotate_left
 all_goals
  go_enter Tryz.func32, Tryz.ntmps32
  go_wp2_with (first | (go_at_call 51; refine (z2n _ _ ?_ ?_ ?_ ?_ _).mono ?_; omega; omega; omega; omega; rintro e w' ⟨rfl, rfl⟩) | (go_at_call 52; refine (z2l _ _ ?_ ?_ ?_ ?_ _).mono ?_; omega; omega; omega; omega; rintro e w' ⟨rfl, rfl⟩) | (go_at_call 53; refine (z10 _ ?_ _).mono ?_; omega; rintro e w' ⟨rfl, rfl⟩) | (go_at_call 55; refine (z1r _ _ ?_ ?_ ?_ ?_ _).mono ?_; omega; omega; omega; omega; rintro e w' ⟨rfl, rfl⟩) | (go_at_call 54; refine (z2h _ _ _ ?_ ?_ ?_ ?_ _).mono ?_; omega; omega; omega; omega; rintro e w' ⟨rfl, rfl⟩))
  go_region_held3 (fun w' => w'.cell? ⟨w.heap.size, 0, none⟩ = some (vI vK al) ∧ w'.cell? ⟨w.heap.size, 1, none⟩ = some (vI vK ah) ∧ w'.cell? ⟨w.heap.size + 1, 0, none⟩ = some (vI vK bl) ∧ w'.cell? ⟨w.heap.size + 1, 1, none⟩ = some (vI vK bh)) (first | (simp [go_sem]; done) | (simp [go_sem, *]; done) | go_keep) (first | (go_at_call 51; refine (z2n _ _ ?_ ?_ ?_ ?_ _).mono ?_; omega; omega; omega; omega; rintro e w' ⟨rfl, rfl⟩) | (go_at_call 52; refine (z2l _ _ ?_ ?_ ?_ ?_ _).mono ?_; omega; omega; omega; omega; rintro e w' ⟨rfl, rfl⟩) | (go_at_call 53; refine (z10 _ ?_ _).mono ?_; omega; rintro e w' ⟨rfl, rfl⟩) | (go_at_call 55; refine (z1r _ _ ?_ ?_ ?_ ?_ _).mono ?_; omega; omega; omega; omega; rintro e w' ⟨rfl, rfl⟩) | (go_at_call 54; refine (z2h _ _ _ ?_ ?_ ?_ ?_ _).mono ?_; omega; omega; omega; omega; rintro e w' ⟨rfl, rfl⟩))
  all_goals go_wp2_with (first | (go_at_call 51; refine (z2n _ _ ?_ ?_ ?_ ?_ _).mono ?_; omega; omega; omega; omega; rintro e w' ⟨rfl, rfl⟩) | (go_at_call 52; refine (z2l _ _ ?_ ?_ ?_ ?_ _).mono ?_; omega; omega; omega; omega; rintro e w' ⟨rfl, rfl⟩) | (go_at_call 53; refine (z10 _ ?_ _).mono ?_; omega; rintro e w' ⟨rfl, rfl⟩) | (go_at_call 55; refine (z1r _ _ ?_ ?_ ?_ ?_ _).mono ?_; omega; omega; omega; omega; rintro e w' ⟨rfl, rfl⟩) | (go_at_call 54; refine (z2h _ _ _ ?_ ?_ ?_ ?_ _).mono ?_; omega; omega; omega; omega; rintro e w' ⟨rfl, rfl⟩))
  all_goals exact bodyPost_ret (by simp [results, Tryz.results32, go_sem]) rfl ⟨rfl, by repeat' first | exact bF _ _ | refine bA ?_ ?_ _ | refine bS ?_ ?_ _ | refine bD ?_ | refine below_drewN ?_ _ | (simp; done) | (simp; omega) | (simp [z00]; done) | (simp [z00]; omega) | omega⟩
def rbd_8p := fun al ah bl bh pal qal pah qah pbl qbl pbh qbh oa ob => (@z2x al ah bl bh pal qal pah qah pbl qbl pbh qbh oa ob).1
def zKl := fun al ah bl bh pal qal pah qah pbl qbl pbh qbh oa ob => (@z2x al ah bl bh pal qal pah qah pbl qbl pbh qbh oa ob).2.1
def zKh := fun al ah bl bh pal qal pah qah pbl qbl pbh qbh oa ob => (@z2x al ah bl bh pal qal pah qah pbl qbl pbh qbh oa ob).2.2.1
def zKo := fun al ah bl bh pal qal pah qah pbl qbl pbh qbh oa ob => (@z2x al ah bl bh pal qal pah qah pbl qbl pbh qbh oa ob).2.2.2.1
def zKj := fun al ah bl bh pal qal pah qah pbl qbl pbh qbh oa ob => (@z2x al ah bl bh pal qal pah qah pbl qbl pbh qbh oa ob).2.2.2.2.1
def zOn := fun al ah bl bh pal qal pah qah pbl qbl pbh qbh oa ob => (@z2x al ah bl bh pal qal pah qah pbl qbl pbh qbh oa ob).2.2.2.2.2
theorem z1d  : (∀ (al ah bl bh : Int) (pal : -9223372036854775808 ≤ al) (qal : al ≤ 9223372036854775807) (pah : -9223372036854775808 ≤ ah) (qah : ah ≤ 9223372036854775807) (pbl : -9223372036854775808 ≤ bl) (qbl : bl ≤ 9223372036854775807) (pbh : -9223372036854775808 ≤ bh) (qbh : bh ≤ 9223372036854775807) (oa : al ≤ ah) (ob : bl ≤ bh) (ha : 0 ≤ al) (hb : 0 ≤ bl) (he : bl ≠ bh) (w : World) (hA : z0a w), Calls Tryz.prog 32 #[vI vK 11, .agg #[vI vK al, vI vK ah], .agg #[vI vK bl, vI vK bh]] w fun e w' => e = .returned (.agg #[vI vK 0, vI vK ah]) ∧ Below w.heap.size w w') ∧ (∀ (al ah bl bh : Int) (pal : -9223372036854775808 ≤ al) (qal : al ≤ 9223372036854775807) (pah : -9223372036854775808 ≤ ah) (qah : ah ≤ 9223372036854775807) (pbl : -9223372036854775808 ≤ bl) (qbl : bl ≤ 9223372036854775807) (pbh : -9223372036854775808 ≤ bh) (qbh : bh ≤ 9223372036854775807) (oa : al ≤ ah) (ob : bl ≤ bh) (ha : 0 ≤ al) (hb : 0 ≤ bl) (he : bl ≠ bh) (w : World) (hA : z0a w), Calls Tryz.prog 32 #[vI vK 12, .agg #[vI vK al, vI vK ah], .agg #[vI vK bl, vI vK bh]] w fun e w' => e = .returned (.agg #[vI vK 0, vI vK ah]) ∧ Below w.heap.size w w') ∧ (∀ (k al ah bl bh : Int) (pal : -9223372036854775808 ≤ al) (qal : al ≤ 9223372036854775807) (pah : -9223372036854775808 ≤ ah) (qah : ah ≤ 9223372036854775807) (pbl : -9223372036854775808 ≤ bl) (qbl : bl ≤ 9223372036854775807) (pbh : -9223372036854775808 ≤ bh) (qbh : bh ≤ 9223372036854775807) (oa : al ≤ ah) (ob : bl ≤ bh) (ha : 0 ≤ al) (hb : 0 ≤ bl) (hk : k < 1 ∨ 13 < k) (w : World) (hA : z0a w), Calls Tryz.prog 32 #[vI vK k, .agg #[vI vK al, vI vK ah], .agg #[vI vK bl, vI vK bh]] w fun e w' => e = .returned (.agg #[vI vK (-9223372036854775808), vI vK 9223372036854775807]) ∧ Below w.heap.size w w') ∧ (∀ (al ah bl bh : Int) (pal : -9223372036854775808 ≤ al) (qal : al ≤ 9223372036854775807) (pah : -9223372036854775808 ≤ ah) (qah : ah ≤ 9223372036854775807) (pbl : -9223372036854775808 ≤ bl) (qbl : bl ≤ 9223372036854775807) (pbh : -9223372036854775808 ≤ bh) (qbh : bh ≤ 9223372036854775807) (oa : al ≤ ah) (ob : bl ≤ bh) (ha : 0 ≤ al) (hb : bl < 0) (he : bl = bh) (hk : bl % 64 = 0) (w : World) (hA : z0a w), Calls Tryz.prog 32 #[vI vK 11, .agg #[vI vK al, vI vK ah], .agg #[vI vK bl, vI vK bh]] w fun e w' => e = .returned (.agg #[vI vK al, vI vK ah]) ∧ Below w.heap.size w w') ∧ (∀ (al ah bl bh : Int) (pal : -9223372036854775808 ≤ al) (qal : al ≤ 9223372036854775807) (pah : -9223372036854775808 ≤ ah) (qah : ah ≤ 9223372036854775807) (pbl : -9223372036854775808 ≤ bl) (qbl : bl ≤ 9223372036854775807) (pbh : -9223372036854775808 ≤ bh) (qbh : bh ≤ 9223372036854775807) (oa : al ≤ ah) (ob : bl ≤ bh) (ha : 0 ≤ al) (hb : bl < 0) (he : bl ≠ bh) (w : World) (hA : z0a w), Calls Tryz.prog 32 #[vI vK 11, .agg #[vI vK al, vI vK ah], .agg #[vI vK bl, vI vK bh]] w fun e w' => e = .returned (.agg #[vI vK 0, vI vK ah]) ∧ Below w.heap.size w w') ∧ (∀ (al ah bl bh : Int) (pal : -9223372036854775808 ≤ al) (qal : al ≤ 9223372036854775807) (pah : -9223372036854775808 ≤ ah) (qah : ah ≤ 9223372036854775807) (pbl : -9223372036854775808 ≤ bl) (qbl : bl ≤ 9223372036854775807) (pbh : -9223372036854775808 ≤ bh) (qbh : bh ≤ 9223372036854775807) (oa : al ≤ ah) (ob : bl ≤ bh) (ha : 0 ≤ al) (hb : bl < 0) (he : bl ≠ bh) (w : World) (hA : z0a w), Calls Tryz.prog 32 #[vI vK 12, .agg #[vI vK al, vI vK ah], .agg #[vI vK bl, vI vK bh]] w fun e w' => e = .returned (.agg #[vI vK 0, vI vK ah]) ∧ Below w.heap.size w w') ∧ (∀ (k al ah bl bh : Int) (pal : -9223372036854775808 ≤ al) (qal : al ≤ 9223372036854775807) (pah : -9223372036854775808 ≤ ah) (qah : ah ≤ 9223372036854775807) (pbl : -9223372036854775808 ≤ bl) (qbl : bl ≤ 9223372036854775807) (pbh : -9223372036854775808 ≤ bh) (qbh : bh ≤ 9223372036854775807) (oa : al ≤ ah) (ob : bl ≤ bh) (ha : 0 ≤ al) (hb : bl < 0) (hk : k < 1 ∨ 13 < k) (w : World) (hA : z0a w), Calls Tryz.prog 32 #[vI vK k, .agg #[vI vK al, vI vK ah], .agg #[vI vK bl, vI vK bh]] w fun e w' => e = .returned (.agg #[vI vK (-9223372036854775808), vI vK 9223372036854775807]) ∧ Below w.heap.size w w') ∧ (∀ (al ah bl bh : Int) (pal : -9223372036854775808 ≤ al) (qal : al ≤ 9223372036854775807) (pah : -9223372036854775808 ≤ ah) (qah : ah ≤ 9223372036854775807) (pbl : -9223372036854775808 ≤ bl) (qbl : bl ≤ 9223372036854775807) (pbh : -9223372036854775808 ≤ bh) (qbh : bh ≤ 9223372036854775807) (oa : al ≤ ah) (ob : bl ≤ bh) (ha : al < 0) (he : bl = bh) (hk : bl % 64 = 0) (w : World) (hA : z0a w), Calls Tryz.prog 32 #[vI vK 11, .agg #[vI vK al, vI vK ah], .agg #[vI vK bl, vI vK bh]] w fun e w' => e = .returned (.agg #[vI vK al, vI vK ah]) ∧ Below w.heap.size w w') ∧ (∀ (al ah bl bh : Int) (pal : -9223372036854775808 ≤ al) (qal : al ≤ 9223372036854775807) (pah : -9223372036854775808 ≤ ah) (qah : ah ≤ 9223372036854775807) (pbl : -9223372036854775808 ≤ bl) (qbl : bl ≤ 9223372036854775807) (pbh : -9223372036854775808 ≤ bh) (qbh : bh ≤ 9223372036854775807) (oa : al ≤ ah) (ob : bl ≤ bh) (ha : al < 0) (he : bl = bh) (hk : bl % 64 ≠ 0) (w : World) (hA : z0a w), Calls Tryz.prog 32 #[vI vK 11, .agg #[vI vK al, vI vK ah], .agg #[vI vK bl, vI vK bh]] w fun e w' => e = .returned (.agg #[vI vK 0, vI vK (z0i 11 (-1) (bl % 64))]) ∧ Below w.heap.size w w') ∧ (∀ (al ah bl bh : Int) (pal : -9223372036854775808 ≤ al) (qal : al ≤ 9223372036854775807) (pah : -9223372036854775808 ≤ ah) (qah : ah ≤ 9223372036854775807) (pbl : -9223372036854775808 ≤ bl) (qbl : bl ≤ 9223372036854775807) (pbh : -9223372036854775808 ≤ bh) (qbh : bh ≤ 9223372036854775807) (oa : al ≤ ah) (ob : bl ≤ bh) (ha : al < 0) (he : bl ≠ bh) (w : World) (hA : z0a w), Calls Tryz.prog 32 #[vI vK 11, .agg #[vI vK al, vI vK ah], .agg #[vI vK bl, vI vK bh]] w fun e w' => e = .returned (.agg #[vI vK (-9223372036854775808), vI vK 9223372036854775807]) ∧ Below w.heap.size w w') ∧ (∀ (al ah bl bh : Int) (pal : -9223372036854775808 ≤ al) (qal : al ≤ 9223372036854775807) (pah : -9223372036854775808 ≤ ah) (qah : ah ≤ 9223372036854775807) (pbl : -9223372036854775808 ≤ bl) (qbl : bl ≤ 9223372036854775807) (pbh : -9223372036854775808 ≤ bh) (qbh : bh ≤ 9223372036854775807) (oa : al ≤ ah) (ob : bl ≤ bh) (ha : al < 0) (he : bl ≠ bh) (hh : ah < 0) (w : World) (hA : z0a w), Calls Tryz.prog 32 #[vI vK 12, .agg #[vI vK al, vI vK ah], .agg #[vI vK bl, vI vK bh]] w fun e w' => e = .returned (.agg #[vI vK al, vI vK (-1)]) ∧ Below w.heap.size w w') ∧ (∀ (al ah bl bh : Int) (pal : -9223372036854775808 ≤ al) (qal : al ≤ 9223372036854775807) (pah : -9223372036854775808 ≤ ah) (qah : ah ≤ 9223372036854775807) (pbl : -9223372036854775808 ≤ bl) (qbl : bl ≤ 9223372036854775807) (pbh : -9223372036854775808 ≤ bh) (qbh : bh ≤ 9223372036854775807) (oa : al ≤ ah) (ob : bl ≤ bh) (ha : al < 0) (he : bl ≠ bh) (hh : 0 ≤ ah) (w : World) (hA : z0a w), Calls Tryz.prog 32 #[vI vK 12, .agg #[vI vK al, vI vK ah], .agg #[vI vK bl, vI vK bh]] w fun e w' => e = .returned (.agg #[vI vK al, vI vK ah]) ∧ Below w.heap.size w w') ∧ (∀ (k al ah bl bh : Int) (pal : -9223372036854775808 ≤ al) (qal : al ≤ 9223372036854775807) (pah : -9223372036854775808 ≤ ah) (qah : ah ≤ 9223372036854775807) (pbl : -9223372036854775808 ≤ bl) (qbl : bl ≤ 9223372036854775807) (pbh : -9223372036854775808 ≤ bh) (qbh : bh ≤ 9223372036854775807) (oa : al ≤ ah) (ob : bl ≤ bh) (ha : al < 0) (hk : k < 1 ∨ 13 < k) (w : World) (hA : z0a w), Calls Tryz.prog 32 #[vI vK k, .agg #[vI vK al, vI vK ah], .agg #[vI vK bl, vI vK bh]] w fun e w' => e = .returned (.agg #[vI vK (-9223372036854775808), vI vK 9223372036854775807]) ∧ Below w.heap.size w w') := by
 refine ⟨?_, ?_, ?_, ?_, ?_, ?_, ?_, ?_, ?_, ?_, ?_, ?_, ?_⟩
 intro al ah bl bh pal qal pah qah pbl qbl pbh qbh oa ob ha hb he w hA
 rotate_left
 intro al ah bl bh pal qal pah qah pbl qbl pbh qbh oa ob ha hb he w hA
 rotate_left
 intro k al ah bl bh pal qal pah qah pbl qbl pbh qbh oa ob ha hb hk w hA
 rotate_left
 intro al ah bl bh pal qal pah qah pbl qbl pbh qbh oa ob ha hb he hk w hA
 rotate_left
 intro al ah bl bh pal qal pah qah pbl qbl pbh qbh oa ob ha hb he w hA
 rotate_left
 intro al ah bl bh pal qal pah qah pbl qbl pbh qbh oa ob ha hb he w hA
 rotate_left
 intro k al ah bl bh pal qal pah qah pbl qbl pbh qbh oa ob ha hb hk w hA
 rotate_left
 intro al ah bl bh pal qal pah qah pbl qbl pbh qbh oa ob ha he hk w hA
 rotate_left
 intro al ah bl bh pal qal pah qah pbl qbl pbh qbh oa ob ha he hk w hA
 rotate_left
 intro al ah bl bh pal qal pah qah pbl qbl pbh qbh oa ob ha he w hA
 rotate_left
 intro al ah bl bh pal qal pah qah pbl qbl pbh qbh oa ob ha he hh w hA
 rotate_left
 intro al ah bl bh pal qal pah qah pbl qbl pbh qbh oa ob ha he hh w hA
 rotate_left
 intro k al ah bl bh pal qal pah qah pbl qbl pbh qbh oa ob ha hk w hA
 rotate_left
 all_goals
  obtain ⟨gz, g0, g1⟩ := hA
  have gz0 : 0 < w.heap.size := by omega
  have gz1 : 0 < w.heap.size + 1 := by omega
  have gz2 : 0 < w.heap.size + 1 + 1 := by omega
  have gz3 : 0 < w.heap.size + 1 + 1 + 1 := by omega
  have gz4 : 0 < w.heap.size + 1 + 1 + 1 + 1 := by omega
  have hx := z76 bl
  have hk0 : 0 ≤ bl % 64 := Int.emod_nonneg _ (by decide)
  have hk1 : bl % 64 < 64 := Int.emod_lt_of_pos _ (by decide)
 have da : decide (0 ≤ al) = true := by simp; omega
 have db : decide (0 ≤ bl) = true := by simp; omega
 have kn : (bl == bh) = false := by simp; omega
 clear he
 rotate_left
 have da : decide (0 ≤ al) = true := by simp; omega
 have db : decide (0 ≤ bl) = true := by simp; omega
 have kn : (bl == bh) = false := by simp; omega
 clear he
 rotate_left
 have da : decide (0 ≤ al) = true := by simp; omega
 have db : decide (0 ≤ bl) = true := by simp; omega
 have e1 : (k == 1) = false := by simp; omega
 have e2 : (k == 2) = false := by simp; omega
 have e3 : (k == 3) = false := by simp; omega
 have e4 : (k == 4) = false := by simp; omega
 have e5 : (k == 5) = false := by simp; omega
 have e6 : (k == 6) = false := by simp; omega
 have e7 : (k == 7) = false := by simp; omega
 have e8 : (k == 8) = false := by simp; omega
 have e9 : (k == 9) = false := by simp; omega
 have e10 : (k == 10) = false := by simp; omega
 have e11 : (k == 11) = false := by simp; omega
 have e12 : (k == 12) = false := by simp; omega
 have e13 : (k == 13) = false := by simp; omega
 rotate_left
 have da : decide (0 ≤ al) = true := by simp; omega
 have db : decide (0 ≤ bl) = false := by simp; omega
 have kn : (bl == bh) = true := by simp; omega
 have kz : (bl % 64 == 0) = true := by simp; omega
 clear he hk
 rotate_left
 have da : decide (0 ≤ al) = true := by simp; omega
 have db : decide (0 ≤ bl) = false := by simp; omega
 have kn : (bl == bh) = false := by simp; omega
 clear he
 rotate_left
 have da : decide (0 ≤ al) = true := by simp; omega
 have db : decide (0 ≤ bl) = false := by simp; omega
 have kn : (bl == bh) = false := by simp; omega
 clear he
 rotate_left
 have da : decide (0 ≤ al) = true := by simp; omega
 have db : decide (0 ≤ bl) = false := by simp; omega
 have e1 : (k == 1) = false := by simp; omega
 have e2 : (k == 2) = false := by simp; omega
 have e3 : (k == 3) = false := by simp; omega
 have e4 : (k == 4) = false := by simp; omega
 have e5 : (k == 5) = false := by simp; omega
 have e6 : (k == 6) = false := by simp; omega
 have e7 : (k == 7) = false := by simp; omega
 have e8 : (k == 8) = false := by simp; omega
 have e9 : (k == 9) = false := by simp; omega
 have e10 : (k == 10) = false := by simp; omega
 have e11 : (k == 11) = false := by simp; omega
 have e12 : (k == 12) = false := by simp; omega
 have e13 : (k == 13) = false := by simp; omega
 rotate_left
 have da : decide (0 ≤ al) = false := by simp; omega
 have kn : (bl == bh) = true := by simp; omega
 have kz : (bl % 64 == 0) = true := by simp; omega
 clear he hk
 rotate_left
 have da : decide (0 ≤ al) = false := by simp; omega
 have kn : (bl == bh) = true := by simp; omega
 have kz : (bl % 64 == 0) = false := by simp; omega
 clear he hk
 rotate_left
 have da : decide (0 ≤ al) = false := by simp; omega
 have kn : (bl == bh) = false := by simp; omega
 clear he
 rotate_left
 have da : decide (0 ≤ al) = false := by simp; omega
 have kn : (bl == bh) = false := by simp; omega
 clear he
 have dh : decide (ah < 0) = true := by simp; omega
 rotate_left
 have da : decide (0 ≤ al) = false := by simp; omega
 have kn : (bl == bh) = false := by simp; omega
 clear he
 have dh : decide (ah < 0) = false := by simp; omega
 rotate_left
 have da : decide (0 ≤ al) = false := by simp; omega
 have e1 : (k == 1) = false := by simp; omega
 have e2 : (k == 2) = false := by simp; omega
 have e3 : (k == 3) = false := by simp; omega
 have e4 : (k == 4) = false := by simp; omega
 have e5 : (k == 5) = false := by simp; omega
 have e6 : (k == 6) = false := by simp; omega
 have e7 : (k == 7) = false := by simp; omega
 have e8 : (k == 8) = false := by simp; omega
 have e9 : (k == 9) = false := by simp; omega
 have e10 : (k == 10) = false := by simp; omega
 have e11 : (k == 11) = false := by simp; omega
 have e12 : (k == 12) = false := by simp; omega
 have e13 : (k == 13) = false := by simp; omega
 rotate_left
 all_goals
  go_enter Tryz.func32, Tryz.ntmps32
  go_wp2_with (first | (go_at_call 51; refine (z2n _ _ ?_ ?_ ?_ ?_ _).mono ?_; omega; omega; omega; omega; rintro e w' ⟨rfl, rfl⟩) | (go_at_call 52; refine (z2l _ _ ?_ ?_ ?_ ?_ _).mono ?_; omega; omega; omega; omega; rintro e w' ⟨rfl, rfl⟩) | (go_at_call 53; refine (z10 _ ?_ _).mono ?_; omega; rintro e w' ⟨rfl, rfl⟩) | (go_at_call 55; refine (z1r _ _ ?_ ?_ ?_ ?_ _).mono ?_; omega; omega; omega; omega; rintro e w' ⟨rfl, rfl⟩) | (go_at_call 54; refine (z2h _ _ _ ?_ ?_ ?_ ?_ _).mono ?_; omega; omega; omega; omega; rintro e w' ⟨rfl, rfl⟩))
  all_goals exact bodyPost_ret (by simp [results, Tryz.results32, go_sem]) rfl ⟨rfl, by repeat' first | exact bF _ _ | refine bA ?_ ?_ _ | refine bS ?_ ?_ _ | refine bD ?_ | refine below_drewN ?_ _ | (simp; done) | (simp; omega) | (simp [z00]; done) | (simp [z00]; omega) | omega⟩
def zKm := z1d.1
def zKi := z1d.2.1
def zO5 := z1d.2.2.1
def zKq := z1d.2.2.2.1
def zKp := z1d.2.2.2.2.1
def zKk := z1d.2.2.2.2.2.1
def zO6 := z1d.2.2.2.2.2.2.1
def zOs := z1d.2.2.2.2.2.2.2.1
def zOr := z1d.2.2.2.2.2.2.2.2.1
def zOq := z1d.2.2.2.2.2.2.2.2.2.1
def zOp := z1d.2.2.2.2.2.2.2.2.2.2.1
def zOo := z1d.2.2.2.2.2.2.2.2.2.2.2.1
def zSb := z1d.2.2.2.2.2.2.2.2.2.2.2.2
theorem z1a (al ah bl bh : Int) (pal : -9223372036854775808 ≤ al) (qal : al ≤ 9223372036854775807) (pah : -9223372036854775808 ≤ ah) (qah : ah ≤ 9223372036854775807) (pbl : -9223372036854775808 ≤ bl) (qbl : bl ≤ 9223372036854775807) (pbh : -9223372036854775808 ≤ bh) (qbh : bh ≤ 9223372036854775807) (oa : al ≤ ah) (ob : bl ≤ bh) : (∀ (ha : 0 ≤ al) (hb : 0 ≤ bl) (lal : -2147483648 ≤ al) (gal : 2147483648 < al) (w : World) (hA : z0a w), Calls Tryz.prog 32 #[vI vK 4, .agg #[vI vK al, vI vK ah], .agg #[vI vK bl, vI vK bh]] w fun e w' => e = .returned (.agg #[vI vK (-9223372036854775808), vI vK 9223372036854775807]) ∧ Below w.heap.size w w') ∧ (∀ (ha : 0 ≤ al) (hb : 0 ≤ bl) (lal : -2147483648 ≤ al) (gal : al ≤ 2147483648) (lah : -2147483648 ≤ ah) (gah : 2147483648 < ah) (w : World) (hA : z0a w), Calls Tryz.prog 32 #[vI vK 4, .agg #[vI vK al, vI vK ah], .agg #[vI vK bl, vI vK bh]] w fun e w' => e = .returned (.agg #[vI vK (-9223372036854775808), vI vK 9223372036854775807]) ∧ Below w.heap.size w w') ∧ (∀ (ha : 0 ≤ al) (hb : 0 ≤ bl) (lal : -2147483648 ≤ al) (gal : al ≤ 2147483648) (lah : -2147483648 ≤ ah) (gah : ah ≤ 2147483648) (lbl : -2147483648 ≤ bl) (gbl : 2147483648 < bl) (w : World) (hA : z0a w), Calls Tryz.prog 32 #[vI vK 4, .agg #[vI vK al, vI vK ah], .agg #[vI vK bl, vI vK bh]] w fun e w' => e = .returned (.agg #[vI vK (-9223372036854775808), vI vK 9223372036854775807]) ∧ Below w.heap.size w w') ∧ (∀ (ha : 0 ≤ al) (hb : 0 ≤ bl) (lal : -2147483648 ≤ al) (gal : al ≤ 2147483648) (lah : -2147483648 ≤ ah) (gah : ah ≤ 2147483648) (lbl : -2147483648 ≤ bl) (gbl : bl ≤ 2147483648) (lbh : -2147483648 ≤ bh) (gbh : 2147483648 < bh) (w : World) (hA : z0a w), Calls Tryz.prog 32 #[vI vK 4, .agg #[vI vK al, vI vK ah], .agg #[vI vK bl, vI vK bh]] w fun e w' => e = .returned (.agg #[vI vK (-9223372036854775808), vI vK 9223372036854775807]) ∧ Below w.heap.size w w') ∧ (∀ (ha : 0 ≤ al) (hb : bl < 0) (lal : -2147483648 ≤ al) (gal : 2147483648 < al) (w : World) (hA : z0a w), Calls Tryz.prog 32 #[vI vK 4, .agg #[vI vK al, vI vK ah], .agg #[vI vK bl, vI vK bh]] w fun e w' => e = .returned (.agg #[vI vK (-9223372036854775808), vI vK 9223372036854775807]) ∧ Below w.heap.size w w') ∧ (∀ (ha : 0 ≤ al) (hb : bl < 0) (lal : -2147483648 ≤ al) (gal : al ≤ 2147483648) (lah : -2147483648 ≤ ah) (gah : 2147483648 < ah) (w : World) (hA : z0a w), Calls Tryz.prog 32 #[vI vK 4, .agg #[vI vK al, vI vK ah], .agg #[vI vK bl, vI vK bh]] w fun e w' => e = .returned (.agg #[vI vK (-9223372036854775808), vI vK 9223372036854775807]) ∧ Below w.heap.size w w') ∧ (∀ (ha : 0 ≤ al) (hb : bl < 0) (lal : -2147483648 ≤ al) (gal : al ≤ 2147483648) (lah : -2147483648 ≤ ah) (gah : ah ≤ 2147483648) (lbl : bl < -2147483648) (w : World) (hA : z0a w), Calls Tryz.prog 32 #[vI vK 4, .agg #[vI vK al, vI vK ah], .agg #[vI vK bl, vI vK bh]] w fun e w' => e = .returned (.agg #[vI vK (-9223372036854775808), vI vK 9223372036854775807]) ∧ Below w.heap.size w w') ∧ (∀ (ha : 0 ≤ al) (hb : bl < 0) (lal : -2147483648 ≤ al) (gal : al ≤ 2147483648) (lah : -2147483648 ≤ ah) (gah : ah ≤ 2147483648) (lbl : -2147483648 ≤ bl) (gbl : bl ≤ 2147483648) (lbh : -2147483648 ≤ bh) (gbh : 2147483648 < bh) (w : World) (hA : z0a w), Calls Tryz.prog 32 #[vI vK 4, .agg #[vI vK al, vI vK ah], .agg #[vI vK bl, vI vK bh]] w fun e w' => e = .returned (.agg #[vI vK (-9223372036854775808), vI vK 9223372036854775807]) ∧ Below w.heap.size w w') ∧ (∀ (ha : al < 0) (lal : al < -2147483648) (w : World) (hA : z0a w), Calls Tryz.prog 32 #[vI vK 4, .agg #[vI vK al, vI vK ah], .agg #[vI vK bl, vI vK bh]] w fun e w' => e = .returned (.agg #[vI vK (-9223372036854775808), vI vK 9223372036854775807]) ∧ Below w.heap.size w w') ∧ (∀ (ha : al < 0) (lal : -2147483648 ≤ al) (gal : al ≤ 2147483648) (lah : -2147483648 ≤ ah) (gah : 2147483648 < ah) (w : World) (hA : z0a w), Calls Tryz.prog 32 #[vI vK 4, .agg #[vI vK al, vI vK ah], .agg #[vI vK bl, vI vK bh]] w fun e w' => e = .returned (.agg #[vI vK (-9223372036854775808), vI vK 9223372036854775807]) ∧ Below w.heap.size w w') ∧ (∀ (ha : al < 0) (lal : -2147483648 ≤ al) (gal : al ≤ 2147483648) (lah : -2147483648 ≤ ah) (gah : ah ≤ 2147483648) (lbl : bl < -2147483648) (w : World) (hA : z0a w), Calls Tryz.prog 32 #[vI vK 4, .agg #[vI vK al, vI vK ah], .agg #[vI vK bl, vI vK bh]] w fun e w' => e = .returned (.agg #[vI vK (-9223372036854775808), vI vK 9223372036854775807]) ∧ Below w.heap.size w w') ∧ (∀ (ha : al < 0) (lal : -2147483648 ≤ al) (gal : al ≤ 2147483648) (lah : -2147483648 ≤ ah) (gah : ah ≤ 2147483648) (lbl : -2147483648 ≤ bl) (gbl : 2147483648 < bl) (w : World) (hA : z0a w), Calls Tryz.prog 32 #[vI vK 4, .agg #[vI vK al, vI vK ah], .agg #[vI vK bl, vI vK bh]] w fun e w' => e = .returned (.agg #[vI vK (-9223372036854775808), vI vK 9223372036854775807]) ∧ Below w.heap.size w w') ∧ (∀ (ha : al < 0) (lal : -2147483648 ≤ al) (gal : al ≤ 2147483648) (lah : -2147483648 ≤ ah) (gah : ah ≤ 2147483648) (lbl : -2147483648 ≤ bl) (gbl : bl ≤ 2147483648) (lbh : -2147483648 ≤ bh) (gbh : 2147483648 < bh) (w : World) (hA : z0a w), Calls Tryz.prog 32 #[vI vK 4, .agg #[vI vK al, vI vK ah], .agg #[vI vK bl, vI vK bh]] w fun e w' => e = .returned (.agg #[vI vK (-9223372036854775808), vI vK 9223372036854775807]) ∧ Below w.heap.size w w') := by
 refine ⟨?_, ?_, ?_, ?_, ?_, ?_, ?_, ?_, ?_, ?_, ?_, ?_, ?_⟩
 intro ha hb lal gal w hA
 rotate_left
 intro ha hb lal gal lah gah w hA
 rotate_left
 intro ha hb lal gal lah gah lbl gbl w hA
 rotate_left
 intro ha hb lal gal lah gah lbl gbl lbh gbh w hA
 rotate_left
 intro ha hb lal gal w hA
 rotate_left
 intro ha hb lal gal lah gah w hA
 rotate_left
 intro ha hb lal gal lah gah lbl w hA
 rotate_left
 intro ha hb lal gal lah gah lbl gbl lbh gbh w hA
 rotate_left
 intro ha lal w hA
 rotate_left
 intro ha lal gal lah gah w hA
 rotate_left
 intro ha lal gal lah gah lbl w hA
 rotate_left
 intro ha lal gal lah gah lbl gbl w hA
 rotate_left
 intro ha lal gal lah gah lbl gbl lbh gbh w hA
 rotate_left
 all_goals
  obtain ⟨gz, g0, g1⟩ := hA
  have gz0 : 0 < w.heap.size := by omega
  have gz1 : 0 < w.heap.size + 1 := by omega
  have gz2 : 0 < w.heap.size + 1 + 1 := by omega
  have gz3 : 0 < w.heap.size + 1 + 1 + 1 := by omega
  have gz4 : 0 < w.heap.size + 1 + 1 + 1 + 1 := by omega
  have hx := z76 bl
  have hk0 : 0 ≤ bl % 64 := Int.emod_nonneg _ (by decide)
  have hk1 : bl % 64 < 64 := Int.emod_lt_of_pos _ (by decide)
 have da : decide (0 ≤ al) = true := by simp; omega
 have db : decide (0 ≤ bl) = true := by simp; omega
 have _lal : decide (-2147483648 ≤ al) = true := by simp; omega
 have _gal : decide (al ≤ 2147483648) = false := by simp; omega
 rotate_left
 have da : decide (0 ≤ al) = true := by simp; omega
 have db : decide (0 ≤ bl) = true := by simp; omega
 have _lal : decide (-2147483648 ≤ al) = true := by simp; omega
 have _gal : decide (al ≤ 2147483648) = true := by simp; omega
 have _lah : decide (-2147483648 ≤ ah) = true := by simp; omega
 have _gah : decide (ah ≤ 2147483648) = false := by simp; omega
 rotate_left
 have da : decide (0 ≤ al) = true := by simp; omega
 have db : decide (0 ≤ bl) = true := by simp; omega
 have _lal : decide (-2147483648 ≤ al) = true := by simp; omega
 have _gal : decide (al ≤ 2147483648) = true := by simp; omega
 have _lah : decide (-2147483648 ≤ ah) = true := by simp; omega
 have _gah : decide (ah ≤ 2147483648) = true := by simp; omega
 have _lbl : decide (-2147483648 ≤ bl) = true := by simp; omega
 have _gbl : decide (bl ≤ 2147483648) = false := by simp; omega
 rotate_left
 have da : decide (0 ≤ al) = true := by simp; omega
 have db : decide (0 ≤ bl) = true := by simp; omega
 have _lal : decide (-2147483648 ≤ al) = true := by simp; omega
 have _gal : decide (al ≤ 2147483648) = true := by simp; omega
 have _lah : decide (-2147483648 ≤ ah) = true := by simp; omega
 have _gah : decide (ah ≤ 2147483648) = true := by simp; omega
 have _lbl : decide (-2147483648 ≤ bl) = true := by simp; omega
 have _gbl : decide (bl ≤ 2147483648) = true := by simp; omega
 have _lbh : decide (-2147483648 ≤ bh) = true := by simp; omega
 have _gbh : decide (bh ≤ 2147483648) = false := by simp; omega
 rotate_left
 have da : decide (0 ≤ al) = true := by simp; omega
 have db : decide (0 ≤ bl) = false := by simp; omega
 have _lal : decide (-2147483648 ≤ al) = true := by simp; omega
 have _gal : decide (al ≤ 2147483648) = false := by simp; omega
 rotate_left
 have da : decide (0 ≤ al) = true := by simp; omega
 have db : decide (0 ≤ bl) = false := by simp; omega
 have _lal : decide (-2147483648 ≤ al) = true := by simp; omega
 have _gal : decide (al ≤ 2147483648) = true := by simp; omega
 have _lah : decide (-2147483648 ≤ ah) = true := by simp; omega
 have _gah : decide (ah ≤ 2147483648) = false := by simp; omega
 rotate_left
 have da : decide (0 ≤ al) = true := by simp; omega
 have db : decide (0 ≤ bl) = false := by simp; omega
 have _lal : decide (-2147483648 ≤ al) = true := by simp; omega
 have _gal : decide (al ≤ 2147483648) = true := by simp; omega
 have _lah : decide (-2147483648 ≤ ah) = true := by simp; omega
 have _gah : decide (ah ≤ 2147483648) = true := by simp; omega
 have _lbl : decide (-2147483648 ≤ bl) = false := by simp; omega
 rotate_left
 have da : decide (0 ≤ al) = true := by simp; omega
 have db : decide (0 ≤ bl) = false := by simp; omega
 have _lal : decide (-2147483648 ≤ al) = true := by simp; omega
 have _gal : decide (al ≤ 2147483648) = true := by simp; omega
 have _lah : decide (-2147483648 ≤ ah) = true := by simp; omega
 have _gah : decide (ah ≤ 2147483648) = true := by simp; omega
 have _lbl : decide (-2147483648 ≤ bl) = true := by simp; omega
 have _gbl : decide (bl ≤ 2147483648) = true := by simp; omega
 have _lbh : decide (-2147483648 ≤ bh) = true := by simp; omega
 have _gbh : decide (bh ≤ 2147483648) = false := by simp; omega
 rotate_left
 have da : decide (0 ≤ al) = false := by simp; omega
 have _lal : decide (-2147483648 ≤ al) = false := by simp; omega
 rotate_left
 have da : decide (0 ≤ al) = false := by simp; omega
 have _lal : decide (-2147483648 ≤ al) = true := by simp; omega
 have _gal : decide (al ≤ 2147483648) = true := by simp; omega
 have _lah : decide (-2147483648 ≤ ah) = true := by simp; omega
 have _gah : decide (ah ≤ 2147483648) = false := by simp; omega
 rotate_left
 have da : decide (0 ≤ al) = false := by simp; omega
 have _lal : decide (-2147483648 ≤ al) = true := by simp; omega
 have _gal : decide (al ≤ 2147483648) = true := by simp; omega
 have _lah : decide (-2147483648 ≤ ah) = true := by simp; omega
 have _gah : decide (ah ≤ 2147483648) = true := by simp; omega
 have _lbl : decide (-2147483648 ≤ bl) = false := by simp; omega
 rotate_left
 have da : decide (0 ≤ al) = false := by simp; omega
 have _lal : decide (-2147483648 ≤ al) = true := by simp; omega
 have _gal : decide (al ≤ 2147483648) = true := by simp; omega
 have _lah : decide (-2147483648 ≤ ah) = true := by simp; omega
 have _gah : decide (ah ≤ 2147483648) = true := by simp; omega
 have _lbl : decide (-2147483648 ≤ bl) = true := by simp; omega
 have _gbl : decide (bl ≤ 2147483648) = false := by simp; omega
 rotate_left
 have da : decide (0 ≤ al) = false := by simp; omega
 have _lal : decide (-2147483648 ≤ al) = true := by simp; omega
 have _gal : decide (al ≤ 2147483648) = true := by simp; omega
 have _lah : decide (-2147483648 ≤ ah) = true := by simp; omega
 have _gah : decide (ah ≤ 2147483648) = true := by simp; omega
 have _lbl : decide (-2147483648 ≤ bl) = true := by simp; omega
 have _gbl : decide (bl ≤ 2147483648) = true := by simp; omega
 have _lbh : decide (-2147483648 ≤ bh) = true := by simp; omega
 have _gbh : decide (bh ≤ 2147483648) = false := by simp; omega
 rotate_left
 all_goals
  go_enter Tryz.func32, Tryz.ntmps32
  go_wp2_with (first | (go_at_call 51; refine (z2n _ _ ?_ ?_ ?_ ?_ _).mono ?_; omega; omega; omega; omega; rintro e w' ⟨rfl, rfl⟩) | (go_at_call 52; refine (z2l _ _ ?_ ?_ ?_ ?_ _).mono ?_; omega; omega; omega; omega; rintro e w' ⟨rfl, rfl⟩) | (go_at_call 53; refine (z10 _ ?_ _).mono ?_; omega; rintro e w' ⟨rfl, rfl⟩) | (go_at_call 55; refine (z1r _ _ ?_ ?_ ?_ ?_ _).mono ?_; omega; omega; omega; omega; rintro e w' ⟨rfl, rfl⟩) | (go_at_call 54; refine (z2h _ _ _ ?_ ?_ ?_ ?_ _).mono ?_; omega; omega; omega; omega; rintro e w' ⟨rfl, rfl⟩) | (go_at_call 8; refine (z43 _ _).mono ?_; rintro e w' ⟨rfl, rfl⟩) | (go_at_call 10; refine (z5m _ _ _ _ _).mono ?_; rintro e w' ⟨rfl, rfl⟩))
  refine wp_loop_rounds 5 ?_
  repeat any_goals (rw [rounds_succ]; go_wp2_with (first | (go_at_call 51; refine (z2n _ _ ?_ ?_ ?_ ?_ _).mono ?_; omega; omega; omega; omega; rintro e w' ⟨rfl, rfl⟩) | (go_at_call 52; refine (z2l _ _ ?_ ?_ ?_ ?_ _).mono ?_; omega; omega; omega; omega; rintro e w' ⟨rfl, rfl⟩) | (go_at_call 53; refine (z10 _ ?_ _).mono ?_; omega; rintro e w' ⟨rfl, rfl⟩) | (go_at_call 55; refine (z1r _ _ ?_ ?_ ?_ ?_ _).mono ?_; omega; omega; omega; omega; rintro e w' ⟨rfl, rfl⟩) | (go_at_call 54; refine (z2h _ _ _ ?_ ?_ ?_ ?_ _).mono ?_; omega; omega; omega; omega; rintro e w' ⟨rfl, rfl⟩) | (go_at_call 8; refine (z43 _ _).mono ?_; rintro e w' ⟨rfl, rfl⟩) | (go_at_call 10; refine (z5m _ _ _ _ _).mono ?_; rintro e w' ⟨rfl, rfl⟩)))
  all_goals exact bodyPost_ret (v := .agg #[vI vK (-9223372036854775808), vI vK 9223372036854775807]) (by simp [results, Tryz.results32, go_sem]) rfl ⟨rfl, by repeat' first | exact bF _ _ | refine bA ?_ ?_ _ | refine bS ?_ ?_ _ | refine bD ?_ | refine below_drewN ?_ _ | (simp; done) | (simp; omega) | (simp [z00]; done) | (simp [z00]; omega) | omega⟩
def zHq := fun al ah bl bh pal qal pah qah pbl qbl pbh qbh oa ob => (@z1a al ah bl bh pal qal pah qah pbl qbl pbh qbh oa ob).1
def zHp := fun al ah bl bh pal qal pah qah pbl qbl pbh qbh oa ob => (@z1a al ah bl bh pal qal pah qah pbl qbl pbh qbh oa ob).2.1
def zHo := fun al ah bl bh pal qal pah qah pbl qbl pbh qbh oa ob => (@z1a al ah bl bh pal qal pah qah pbl qbl pbh qbh oa ob).2.2.1
def zHn := fun al ah bl bh pal qal pah qah pbl qbl pbh qbh oa ob => (@z1a al ah bl bh pal qal pah qah pbl qbl pbh qbh oa ob).2.2.2.1
def zHu := fun al ah bl bh pal qal pah qah pbl qbl pbh qbh oa ob => (@z1a al ah bl bh pal qal pah qah pbl qbl pbh qbh oa ob).2.2.2.2.1
def zHt := fun al ah bl bh pal qal pah qah pbl qbl pbh qbh oa ob => (@z1a al ah bl bh pal qal pah qah pbl qbl pbh qbh oa ob).2.2.2.2.2.1
def zHs := fun al ah bl bh pal qal pah qah pbl qbl pbh qbh oa ob => (@z1a al ah bl bh pal qal pah qah pbl qbl pbh qbh oa ob).2.2.2.2.2.2.1
def zHr := fun al ah bl bh pal qal pah qah pbl qbl pbh qbh oa ob => (@z1a al ah bl bh pal qal pah qah pbl qbl pbh qbh oa ob).2.2.2.2.2.2.2.1
def zKe := fun al ah bl bh pal qal pah qah pbl qbl pbh qbh oa ob => (@z1a al ah bl bh pal qal pah qah pbl qbl pbh qbh oa ob).2.2.2.2.2.2.2.2.1
def zKd := fun al ah bl bh pal qal pah qah pbl qbl pbh qbh oa ob => (@z1a al ah bl bh pal qal pah qah pbl qbl pbh qbh oa ob).2.2.2.2.2.2.2.2.2.1
def zKb := fun al ah bl bh pal qal pah qah pbl qbl pbh qbh oa ob => (@z1a al ah bl bh pal qal pah qah pbl qbl pbh qbh oa ob).2.2.2.2.2.2.2.2.2.2.1
def zKc := fun al ah bl bh pal qal pah qah pbl qbl pbh qbh oa ob => (@z1a al ah bl bh pal qal pah qah pbl qbl pbh qbh oa ob).2.2.2.2.2.2.2.2.2.2.2.1
def zKa := fun al ah bl bh pal qal pah qah pbl qbl pbh qbh oa ob => (@z1a al ah bl bh pal qal pah qah pbl qbl pbh qbh oa ob).2.2.2.2.2.2.2.2.2.2.2.2
end Go.Proofs.YteenhdoaminkeaaGreatDoor
