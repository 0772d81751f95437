/-
  What the document's own BoundDoes returns, by one function on integers; the world below is as it was. Conditions: the ends are numbers of 64 bits, the low end not above the high one; the document's variable of all numbers holds them.
-/
import Derived.Test.YtllphbfhfmieaaaDoorBoundRefDp
import Derived.Test.YtllphbfhfmieaaaDoorBoundRefDq
import Derived.Test.YtllphbfhfmieaaaDoorBoundRefDr
import Derived.Test.YtllphbfhfmieaaaDoorBoundRefMur
namespace Go.Proofs.YtllphbfhfmieaaaDoor
open Go.ChangeShapes Go.WideShapes Go.ChangeAt Go.RowKit

theorem rbda_1 (al ah bl bh : Int) (pal : -9223372036854775808 ≤ al) (qal : al ≤ 9223372036854775807) (pah : -9223372036854775808 ≤ ah) (qah : ah ≤ 9223372036854775807) (pbl : -9223372036854775808 ≤ bl) (qbl : bl ≤ 9223372036854775807) (pbh : -9223372036854775808 ≤ bh) (qbh : bh ≤ 9223372036854775807) (oa : al ≤ ah) (ob : bl ≤ bh) (w : World) (hA : AllAt w) : Calls Tryd.prog 13 #[.int .i64 1, .agg #[.int .i64 al, .int .i64 ah], .agg #[.int .i64 bl, .int .i64 bh]] w fun e w' => e = .returned (.agg #[.int .i64 ((bdV 1 al ah bl bh).1), .int .i64 ((bdV 1 al ah bl bh).2)]) ∧ Below w.heap.size w w' := by
  rw [bdV_1]
  by_cases ha : 0 ≤ al
  · by_cases hb : 0 ≤ bl
    · exact rbd_1pp al ah bl bh pal qal pah qah pbl qbl pbh qbh oa ob ha hb w hA
    · have hb : bl < 0 := by omega
      exact rbd_1pn al ah bl bh pal qal pah qah pbl qbl pbh qbh oa ob ha hb w hA
  · have ha : al < 0 := by omega
    exact rbd_1n al ah bl bh pal qal pah qah pbl qbl pbh qbh oa ob ha w hA
theorem rbda_2 (al ah bl bh : Int) (pal : -9223372036854775808 ≤ al) (qal : al ≤ 9223372036854775807) (pah : -9223372036854775808 ≤ ah) (qah : ah ≤ 9223372036854775807) (pbl : -9223372036854775808 ≤ bl) (qbl : bl ≤ 9223372036854775807) (pbh : -9223372036854775808 ≤ bh) (qbh : bh ≤ 9223372036854775807) (oa : al ≤ ah) (ob : bl ≤ bh) (w : World) (hA : AllAt w) : Calls Tryd.prog 13 #[.int .i64 2, .agg #[.int .i64 al, .int .i64 ah], .agg #[.int .i64 bl, .int .i64 bh]] w fun e w' => e = .returned (.agg #[.int .i64 ((bdV 2 al ah bl bh).1), .int .i64 ((bdV 2 al ah bl bh).2)]) ∧ Below w.heap.size w w' := by
  rw [bdV_2]
  cases f1 : fits (al + bl)
  · rw [fit2_no (by rw [f1]; rfl)]
    by_cases ha : 0 ≤ al
    · by_cases hb : 0 ≤ bl
      · exact rbd_2ppx al ah bl bh pal qal pah qah pbl qbl pbh qbh oa ob ha hb f1 w hA
      · have hb : bl < 0 := by omega
        exact rbd_2pnx al ah bl bh pal qal pah qah pbl qbl pbh qbh oa ob ha hb f1 w hA
    · have ha : al < 0 := by omega
      exact rbd_2nx al ah bl bh pal qal pah qah pbl qbl pbh qbh oa ob ha f1 w hA
  · cases f2 : fits (ah + bh)
    · rw [fit2_no (by rw [f1, f2]; rfl)]
      by_cases ha : 0 ≤ al
      · by_cases hb : 0 ≤ bl
        · exact rbd_2ppz al ah bl bh pal qal pah qah pbl qbl pbh qbh oa ob ha hb f1 f2 w hA
        · have hb : bl < 0 := by omega
          exact rbd_2pnz al ah bl bh pal qal pah qah pbl qbl pbh qbh oa ob ha hb f1 f2 w hA
      · have ha : al < 0 := by omega
        exact rbd_2nz al ah bl bh pal qal pah qah pbl qbl pbh qbh oa ob ha f1 f2 w hA
    · rw [fit2_yes (by rw [f1, f2]; rfl)]
      by_cases ha : 0 ≤ al
      · by_cases hb : 0 ≤ bl
        · exact rbd_2ppy al ah bl bh pal qal pah qah pbl qbl pbh qbh oa ob ha hb f1 f2 w hA
        · have hb : bl < 0 := by omega
          exact rbd_2pny al ah bl bh pal qal pah qah pbl qbl pbh qbh oa ob ha hb f1 f2 w hA
      · have ha : al < 0 := by omega
        exact rbd_2ny al ah bl bh pal qal pah qah pbl qbl pbh qbh oa ob ha f1 f2 w hA
theorem rbda_3 (al ah bl bh : Int) (pal : -9223372036854775808 ≤ al) (qal : al ≤ 9223372036854775807) (pah : -9223372036854775808 ≤ ah) (qah : ah ≤ 9223372036854775807) (pbl : -9223372036854775808 ≤ bl) (qbl : bl ≤ 9223372036854775807) (pbh : -9223372036854775808 ≤ bh) (qbh : bh ≤ 9223372036854775807) (oa : al ≤ ah) (ob : bl ≤ bh) (w : World) (hA : AllAt w) : Calls Tryd.prog 13 #[.int .i64 3, .agg #[.int .i64 al, .int .i64 ah], .agg #[.int .i64 bl, .int .i64 bh]] w fun e w' => e = .returned (.agg #[.int .i64 ((bdV 3 al ah bl bh).1), .int .i64 ((bdV 3 al ah bl bh).2)]) ∧ Below w.heap.size w w' := by
  rw [bdV_3]
  cases f1 : fits (al - bh)
  · rw [fit2_no (by rw [f1]; rfl)]
    by_cases ha : 0 ≤ al
    · by_cases hb : 0 ≤ bl
      · exact rbd_3ppx al ah bl bh pal qal pah qah pbl qbl pbh qbh oa ob ha hb f1 w hA
      · have hb : bl < 0 := by omega
        exact rbd_3pnx al ah bl bh pal qal pah qah pbl qbl pbh qbh oa ob ha hb f1 w hA
    · have ha : al < 0 := by omega
      exact rbd_3nx al ah bl bh pal qal pah qah pbl qbl pbh qbh oa ob ha f1 w hA
  · cases f2 : fits (ah - bl)
    · rw [fit2_no (by rw [f1, f2]; rfl)]
      by_cases ha : 0 ≤ al
      · by_cases hb : 0 ≤ bl
        · exact rbd_3ppz al ah bl bh pal qal pah qah pbl qbl pbh qbh oa ob ha hb f1 f2 w hA
        · have hb : bl < 0 := by omega
          exact rbd_3pnz al ah bl bh pal qal pah qah pbl qbl pbh qbh oa ob ha hb f1 f2 w hA
      · have ha : al < 0 := by omega
        exact rbd_3nz al ah bl bh pal qal pah qah pbl qbl pbh qbh oa ob ha f1 f2 w hA
    · rw [fit2_yes (by rw [f1, f2]; rfl)]
      by_cases ha : 0 ≤ al
      · by_cases hb : 0 ≤ bl
        · exact rbd_3ppy al ah bl bh pal qal pah qah pbl qbl pbh qbh oa ob ha hb f1 f2 w hA
        · have hb : bl < 0 := by omega
          exact rbd_3pny al ah bl bh pal qal pah qah pbl qbl pbh qbh oa ob ha hb f1 f2 w hA
      · have ha : al < 0 := by omega
        exact rbd_3ny al ah bl bh pal qal pah qah pbl qbl pbh qbh oa ob ha f1 f2 w hA
theorem rbda_4 (al ah bl bh : Int) (pal : -9223372036854775808 ≤ al) (qal : al ≤ 9223372036854775807) (pah : -9223372036854775808 ≤ ah) (qah : ah ≤ 9223372036854775807) (pbl : -9223372036854775808 ≤ bl) (qbl : bl ≤ 9223372036854775807) (pbh : -9223372036854775808 ≤ bh) (qbh : bh ≤ 9223372036854775807) (oa : al ≤ ah) (ob : bl ≤ bh) (w : World) (hA : AllAt w) : Calls Tryd.prog 13 #[.int .i64 4, .agg #[.int .i64 al, .int .i64 ah], .agg #[.int .i64 bl, .int .i64 bh]] w fun e w' => e = .returned (.agg #[.int .i64 ((bdV 4 al ah bl bh).1), .int .i64 ((bdV 4 al ah bl bh).2)]) ∧ Below w.heap.size w w' := by
  exact rbd_4 al ah bl bh pal qal pah qah pbl qbl pbh qbh oa ob w hA
theorem rbda_5 (al ah bl bh : Int) (pal : -9223372036854775808 ≤ al) (qal : al ≤ 9223372036854775807) (pah : -9223372036854775808 ≤ ah) (qah : ah ≤ 9223372036854775807) (pbl : -9223372036854775808 ≤ bl) (qbl : bl ≤ 9223372036854775807) (pbh : -9223372036854775808 ≤ bh) (qbh : bh ≤ 9223372036854775807) (oa : al ≤ ah) (ob : bl ≤ bh) (w : World) (hA : AllAt w) : Calls Tryd.prog 13 #[.int .i64 5, .agg #[.int .i64 al, .int .i64 ah], .agg #[.int .i64 bl, .int .i64 bh]] w fun e w' => e = .returned (.agg #[.int .i64 ((bdV 5 al ah bl bh).1), .int .i64 ((bdV 5 al ah bl bh).2)]) ∧ Below w.heap.size w w' := by
  rw [bdV_5]
  by_cases ha : 0 ≤ al
  · by_cases hb : 0 ≤ bl
    · rw [if_pos ⟨ha, hb⟩]
      by_cases hp : 0 < bl
      · rw [if_pos hp]
        exact rbd_5p al ah bl bh pal qal pah qah pbl qbl pbh qbh oa ob ha hb hp w hA
      · rw [if_neg hp]
        exact rbd_5z al ah bl bh pal qal pah qah pbl qbl pbh qbh oa ob ha hb (by omega) w hA
    · rw [if_neg (fun x => hb x.2)]
      exact rbd_5pn al ah bl bh pal qal pah qah pbl qbl pbh qbh oa ob ha (by omega) w hA
  · rw [if_neg (fun x => ha x.1)]
    exact rbd_5n al ah bl bh pal qal pah qah pbl qbl pbh qbh oa ob (by omega) w hA
theorem rbda_6 (al ah bl bh : Int) (pal : -9223372036854775808 ≤ al) (qal : al ≤ 9223372036854775807) (pah : -9223372036854775808 ≤ ah) (qah : ah ≤ 9223372036854775807) (pbl : -9223372036854775808 ≤ bl) (qbl : bl ≤ 9223372036854775807) (pbh : -9223372036854775808 ≤ bh) (qbh : bh ≤ 9223372036854775807) (oa : al ≤ ah) (ob : bl ≤ bh) (w : World) (hA : AllAt w) : Calls Tryd.prog 13 #[.int .i64 6, .agg #[.int .i64 al, .int .i64 ah], .agg #[.int .i64 bl, .int .i64 bh]] w fun e w' => e = .returned (.agg #[.int .i64 ((bdV 6 al ah bl bh).1), .int .i64 ((bdV 6 al ah bl bh).2)]) ∧ Below w.heap.size w w' := by
  rw [bdV_6]
  by_cases ha : 0 ≤ al
  · by_cases hb : 0 ≤ bl
    · rw [if_pos ⟨ha, hb⟩]
      by_cases hp : 0 < bl
      · rw [if_pos hp]
        exact rbd_6p al ah bl bh pal qal pah qah pbl qbl pbh qbh oa ob ha hb hp w hA
      · rw [if_neg hp]
        exact rbd_6z al ah bl bh pal qal pah qah pbl qbl pbh qbh oa ob ha hb (by omega) w hA
    · rw [if_neg (fun x => hb x.2)]
      exact rbd_6pn al ah bl bh pal qal pah qah pbl qbl pbh qbh oa ob ha (by omega) w hA
  · rw [if_neg (fun x => ha x.1)]
    exact rbd_6n al ah bl bh pal qal pah qah pbl qbl pbh qbh oa ob (by omega) w hA
theorem rbda_7 (al ah bl bh : Int) (pal : -9223372036854775808 ≤ al) (qal : al ≤ 9223372036854775807) (pah : -9223372036854775808 ≤ ah) (qah : ah ≤ 9223372036854775807) (pbl : -9223372036854775808 ≤ bl) (qbl : bl ≤ 9223372036854775807) (pbh : -9223372036854775808 ≤ bh) (qbh : bh ≤ 9223372036854775807) (oa : al ≤ ah) (ob : bl ≤ bh) (w : World) (hA : AllAt w) : Calls Tryd.prog 13 #[.int .i64 7, .agg #[.int .i64 al, .int .i64 ah], .agg #[.int .i64 bl, .int .i64 bh]] w fun e w' => e = .returned (.agg #[.int .i64 ((bdV 7 al ah bl bh).1), .int .i64 ((bdV 7 al ah bl bh).2)]) ∧ Below w.heap.size w w' := by
  rw [bdV_7]
  by_cases ha : 0 ≤ al
  · rw [if_pos ha]
    by_cases hb : 0 ≤ bl
    · rw [if_pos hb]
      exact rbd_7pp al ah bl bh pal qal pah qah pbl qbl pbh qbh oa ob ha hb w hA
    · rw [if_neg hb]
      exact rbd_7pn al ah bl bh pal qal pah qah pbl qbl pbh qbh oa ob ha (by omega) w hA
  · rw [if_neg ha]
    by_cases hb : 0 ≤ bl
    · rw [if_pos hb]
      have e := rbd_7np al ah bl bh pal qal pah qah pbl qbl pbh qbh oa ob (by omega) hb w hA
      rw [show min 9223372036854775807 bh = bh by omega] at e
      exact e
    · rw [if_neg hb]
      exact rbd_7nn al ah bl bh pal qal pah qah pbl qbl pbh qbh oa ob (by omega) (by omega) w hA
theorem rbda_8 (al ah bl bh : Int) (pal : -9223372036854775808 ≤ al) (qal : al ≤ 9223372036854775807) (pah : -9223372036854775808 ≤ ah) (qah : ah ≤ 9223372036854775807) (pbl : -9223372036854775808 ≤ bl) (qbl : bl ≤ 9223372036854775807) (pbh : -9223372036854775808 ≤ bh) (qbh : bh ≤ 9223372036854775807) (oa : al ≤ ah) (ob : bl ≤ bh) (w : World) (hA : AllAt w) : Calls Tryd.prog 13 #[.int .i64 8, .agg #[.int .i64 al, .int .i64 ah], .agg #[.int .i64 bl, .int .i64 bh]] w fun e w' => e = .returned (.agg #[.int .i64 ((bdV 8 al ah bl bh).1), .int .i64 ((bdV 8 al ah bl bh).2)]) ∧ Below w.heap.size w w' := by
  rw [bdV_8]
  by_cases ha : 0 ≤ al
  · by_cases hb : 0 ≤ bl
    · rw [if_pos ⟨ha, hb⟩]
      exact rbd_8p al ah bl bh pal qal pah qah pbl qbl pbh qbh oa ob ha hb w hA
    · rw [if_neg (fun x => hb x.2)]
      exact rbd_8pn al ah bl bh pal qal pah qah pbl qbl pbh qbh oa ob ha (by omega) w hA
  · rw [if_neg (fun x => ha x.1)]
    exact rbd_8n al ah bl bh pal qal pah qah pbl qbl pbh qbh oa ob (by omega) w hA
theorem rbda_9 (al ah bl bh : Int) (pal : -9223372036854775808 ≤ al) (qal : al ≤ 9223372036854775807) (pah : -9223372036854775808 ≤ ah) (qah : ah ≤ 9223372036854775807) (pbl : -9223372036854775808 ≤ bl) (qbl : bl ≤ 9223372036854775807) (pbh : -9223372036854775808 ≤ bh) (qbh : bh ≤ 9223372036854775807) (oa : al ≤ ah) (ob : bl ≤ bh) (w : World) (hA : AllAt w) : Calls Tryd.prog 13 #[.int .i64 9, .agg #[.int .i64 al, .int .i64 ah], .agg #[.int .i64 bl, .int .i64 bh]] w fun e w' => e = .returned (.agg #[.int .i64 ((bdV 9 al ah bl bh).1), .int .i64 ((bdV 9 al ah bl bh).2)]) ∧ Below w.heap.size w w' := by
  rw [bdV_9]
  by_cases ha : 0 ≤ al
  · by_cases hb : 0 ≤ bl
    · rw [if_pos ⟨ha, hb⟩]
      exact rbd_9p al ah bl bh pal qal pah qah pbl qbl pbh qbh oa ob ha hb w hA
    · rw [if_neg (fun x => hb x.2)]
      exact rbd_9pn al ah bl bh pal qal pah qah pbl qbl pbh qbh oa ob ha (by omega) w hA
  · rw [if_neg (fun x => ha x.1)]
    exact rbd_9n al ah bl bh pal qal pah qah pbl qbl pbh qbh oa ob (by omega) w hA
theorem rbda_10 (al ah bl bh : Int) (pal : -9223372036854775808 ≤ al) (qal : al ≤ 9223372036854775807) (pah : -9223372036854775808 ≤ ah) (qah : ah ≤ 9223372036854775807) (pbl : -9223372036854775808 ≤ bl) (qbl : bl ≤ 9223372036854775807) (pbh : -9223372036854775808 ≤ bh) (qbh : bh ≤ 9223372036854775807) (oa : al ≤ ah) (ob : bl ≤ bh) (w : World) (hA : AllAt w) : Calls Tryd.prog 13 #[.int .i64 10, .agg #[.int .i64 al, .int .i64 ah], .agg #[.int .i64 bl, .int .i64 bh]] w fun e w' => e = .returned (.agg #[.int .i64 ((bdV 10 al ah bl bh).1), .int .i64 ((bdV 10 al ah bl bh).2)]) ∧ Below w.heap.size w w' := by
  rw [bdV_10]
  by_cases he : bl = bh
  · rw [if_pos he]
    have s6 := sixBits_mod bl
    cases f1 : fits (al * 2 ^ sixBits bl)
    · rw [fit2_no (by rw [f1]; rfl)]
      have g1 := f1
      rw [← s6] at g1
      by_cases ha : 0 ≤ al
      · by_cases hb : 0 ≤ bl
        · exact rbd_10ppx al ah bl bh pal qal pah qah pbl qbl pbh qbh oa ob ha hb he g1 w hA
        · have hb : bl < 0 := by omega
          exact rbd_10pnx al ah bl bh pal qal pah qah pbl qbl pbh qbh oa ob ha hb he g1 w hA
      · have ha : al < 0 := by omega
        exact rbd_10nx al ah bl bh pal qal pah qah pbl qbl pbh qbh oa ob ha he g1 w hA
    · have g1 := f1
      rw [← s6] at g1
      cases f2 : fits (ah * 2 ^ sixBits bl)
      · rw [fit2_no (by rw [f1, f2]; rfl)]
        have g2 := f2
        rw [← s6] at g2
        by_cases ha : 0 ≤ al
        · by_cases hb : 0 ≤ bl
          · exact rbd_10ppz al ah bl bh pal qal pah qah pbl qbl pbh qbh oa ob ha hb he g1 g2 w hA
          · have hb : bl < 0 := by omega
            exact rbd_10pnz al ah bl bh pal qal pah qah pbl qbl pbh qbh oa ob ha hb he g1 g2 w hA
        · have ha : al < 0 := by omega
          exact rbd_10nz al ah bl bh pal qal pah qah pbl qbl pbh qbh oa ob ha he g1 g2 w hA
      · rw [fit2_yes (by rw [f1, f2]; rfl)]
        have g2 := f2
        rw [← s6] at g2
        have i1 := (fits_iff _).1 f1
        have i2 := (fits_iff _).1 f2
        by_cases ha : 0 ≤ al
        · by_cases hb : 0 ≤ bl
          · have e := rbd_10ppy al ah bl bh pal qal pah qah pbl qbl pbh qbh oa ob ha hb he g1 g2 w hA
            rw [doesV_10, doesV_10, s6, wrap64_in i1.1 i1.2, wrap64_in i2.1 i2.2] at e
            exact e
          · have hb : bl < 0 := by omega
            have e := rbd_10pny al ah bl bh pal qal pah qah pbl qbl pbh qbh oa ob ha hb he g1 g2 w hA
            rw [doesV_10, doesV_10, s6, wrap64_in i1.1 i1.2, wrap64_in i2.1 i2.2] at e
            exact e
        · have ha : al < 0 := by omega
          have e := rbd_10ny al ah bl bh pal qal pah qah pbl qbl pbh qbh oa ob ha he g1 g2 w hA
          rw [doesV_10, doesV_10, s6, wrap64_in i1.1 i1.2, wrap64_in i2.1 i2.2] at e
          exact e
  · rw [if_neg he]
    by_cases ha : 0 ≤ al
    · by_cases hb : 0 ≤ bl
      · exact rbd_10ppn al ah bl bh pal qal pah qah pbl qbl pbh qbh oa ob ha hb he w hA
      · have hb : bl < 0 := by omega
        exact rbd_10pnn al ah bl bh pal qal pah qah pbl qbl pbh qbh oa ob ha hb he w hA
    · have ha : al < 0 := by omega
      exact rbd_10nn al ah bl bh pal qal pah qah pbl qbl pbh qbh oa ob ha he w hA
theorem six_zero {b : Int} : sixBits b = 0 ↔ b % 64 = 0 := by unfold sixBits; omega
theorem rbda_11 (al ah bl bh : Int) (pal : -9223372036854775808 ≤ al) (qal : al ≤ 9223372036854775807) (pah : -9223372036854775808 ≤ ah) (qah : ah ≤ 9223372036854775807) (pbl : -9223372036854775808 ≤ bl) (qbl : bl ≤ 9223372036854775807) (pbh : -9223372036854775808 ≤ bh) (qbh : bh ≤ 9223372036854775807) (oa : al ≤ ah) (ob : bl ≤ bh) (w : World) (hA : AllAt w) : Calls Tryd.prog 13 #[.int .i64 11, .agg #[.int .i64 al, .int .i64 ah], .agg #[.int .i64 bl, .int .i64 bh]] w fun e w' => e = .returned (.agg #[.int .i64 ((bdV 11 al ah bl bh).1), .int .i64 ((bdV 11 al ah bl bh).2)]) ∧ Below w.heap.size w w' := by
  rw [bdV_11]
  have s6 := sixBits_mod bl
  by_cases he : bl = bh
  · rw [if_pos he]
    by_cases hk : sixBits bl = 0
    · rw [if_pos hk]
      have hk := six_zero.1 hk
      by_cases ha : 0 ≤ al
      · by_cases hb : 0 ≤ bl
        · exact rbd_11pp0 al ah bl bh pal qal pah qah pbl qbl pbh qbh oa ob ha hb he hk w hA
        · have hb : bl < 0 := by omega
          exact rbd_11pn0 al ah bl bh pal qal pah qah pbl qbl pbh qbh oa ob ha hb he hk w hA
      · have ha : al < 0 := by omega
        exact rbd_11n0 al ah bl bh pal qal pah qah pbl qbl pbh qbh oa ob ha he hk w hA
    · rw [if_neg hk]
      have hk2 : bl % 64 ≠ 0 := fun h => hk (six_zero.2 h)
      by_cases ha : 0 ≤ al
      · rw [if_pos ha, ← s6]
        by_cases hb : 0 ≤ bl
        · exact rbd_11ppp al ah bl bh pal qal pah qah pbl qbl pbh qbh oa ob ha hb he hk2 w hA
        · exact rbd_11pnp al ah bl bh pal qal pah qah pbl qbl pbh qbh oa ob ha (by omega) he hk2 w hA
      · rw [if_neg ha]
        have e := rbd_11nm al ah bl bh pal qal pah qah pbl qbl pbh qbh oa ob (by omega) he hk2 w hA
        rw [rsh_ones (by rw [s6]; exact hk), s6] at e
        exact e
  · rw [if_neg he]
    by_cases ha : 0 ≤ al
    · rw [if_pos ha]
      by_cases hb : 0 ≤ bl
      · exact rbd_11ppn al ah bl bh pal qal pah qah pbl qbl pbh qbh oa ob ha hb he w hA
      · exact rbd_11pnn al ah bl bh pal qal pah qah pbl qbl pbh qbh oa ob ha (by omega) he w hA
    · rw [if_neg ha]
      exact rbd_11nn al ah bl bh pal qal pah qah pbl qbl pbh qbh oa ob (by omega) he w hA
theorem rbda_12 (al ah bl bh : Int) (pal : -9223372036854775808 ≤ al) (qal : al ≤ 9223372036854775807) (pah : -9223372036854775808 ≤ ah) (qah : ah ≤ 9223372036854775807) (pbl : -9223372036854775808 ≤ bl) (qbl : bl ≤ 9223372036854775807) (pbh : -9223372036854775808 ≤ bh) (qbh : bh ≤ 9223372036854775807) (oa : al ≤ ah) (ob : bl ≤ bh) (w : World) (hA : AllAt w) : Calls Tryd.prog 13 #[.int .i64 12, .agg #[.int .i64 al, .int .i64 ah], .agg #[.int .i64 bl, .int .i64 bh]] w fun e w' => e = .returned (.agg #[.int .i64 ((bdV 12 al ah bl bh).1), .int .i64 ((bdV 12 al ah bl bh).2)]) ∧ Below w.heap.size w w' := by
  rw [bdV_12]
  have s6 := sixBits_mod bl
  by_cases he : bl = bh
  · rw [if_pos he, ← s6]
    by_cases ha : 0 ≤ al
    · by_cases hb : 0 ≤ bl
      · exact rbd_12ppy al ah bl bh pal qal pah qah pbl qbl pbh qbh oa ob ha hb he w hA
      · have hb : bl < 0 := by omega
        exact rbd_12pny al ah bl bh pal qal pah qah pbl qbl pbh qbh oa ob ha hb he w hA
    · have ha : al < 0 := by omega
      exact rbd_12ny al ah bl bh pal qal pah qah pbl qbl pbh qbh oa ob ha he w hA
  · rw [if_neg he]
    by_cases ha : 0 ≤ al
    · rw [if_pos ha]
      by_cases hb : 0 ≤ bl
      · exact rbd_12ppn al ah bl bh pal qal pah qah pbl qbl pbh qbh oa ob ha hb he w hA
      · exact rbd_12pnn al ah bl bh pal qal pah qah pbl qbl pbh qbh oa ob ha (by omega) he w hA
    · rw [if_neg ha]
      by_cases hh : ah < 0
      · rw [if_pos hh]
        exact rbd_12na al ah bl bh pal qal pah qah pbl qbl pbh qbh oa ob (by omega) he hh w hA
      · rw [if_neg hh]
        exact rbd_12nb al ah bl bh pal qal pah qah pbl qbl pbh qbh oa ob (by omega) he (by omega) w hA
theorem rbda_13 (al ah bl bh : Int) (pal : -9223372036854775808 ≤ al) (qal : al ≤ 9223372036854775807) (pah : -9223372036854775808 ≤ ah) (qah : ah ≤ 9223372036854775807) (pbl : -9223372036854775808 ≤ bl) (qbl : bl ≤ 9223372036854775807) (pbh : -9223372036854775808 ≤ bh) (qbh : bh ≤ 9223372036854775807) (oa : al ≤ ah) (ob : bl ≤ bh) (w : World) (hA : AllAt w) : Calls Tryd.prog 13 #[.int .i64 13, .agg #[.int .i64 al, .int .i64 ah], .agg #[.int .i64 bl, .int .i64 bh]] w fun e w' => e = .returned (.agg #[.int .i64 ((bdV 13 al ah bl bh).1), .int .i64 ((bdV 13 al ah bl bh).2)]) ∧ Below w.heap.size w w' := by
  rw [bdV_13]
  by_cases hl : -9223372036854775808 < al
  · rw [fit2_yes (by rw [(fits_iff _).2 (by omega), (fits_iff _).2 (by omega)]; rfl)]
    by_cases ha : 0 ≤ al
    · by_cases hb : 0 ≤ bl
      · exact rbd_13ppy al ah bl bh pal qal pah qah pbl qbl pbh qbh oa ob ha hb hl w hA
      · have hb : bl < 0 := by omega
        exact rbd_13pny al ah bl bh pal qal pah qah pbl qbl pbh qbh oa ob ha hb hl w hA
    · have ha : al < 0 := by omega
      exact rbd_13ny al ah bl bh pal qal pah qah pbl qbl pbh qbh oa ob ha hl w hA
  · rw [fit2_no (by rw [(fits_no (-al)).2 (by omega), Bool.and_false])]
    exact rbd_13nx al ah bl bh pal qal pah qah pbl qbl pbh qbh oa ob (by omega) (by omega) w hA
theorem rbd_any (c al ah bl bh : Int) (pal : -9223372036854775808 ≤ al) (qal : al ≤ 9223372036854775807) (pah : -9223372036854775808 ≤ ah) (qah : ah ≤ 9223372036854775807) (pbl : -9223372036854775808 ≤ bl) (qbl : bl ≤ 9223372036854775807) (pbh : -9223372036854775808 ≤ bh) (qbh : bh ≤ 9223372036854775807) (oa : al ≤ ah) (ob : bl ≤ bh) (w : World) (hA : AllAt w) : Calls Tryd.prog 13 #[.int .i64 c, .agg #[.int .i64 al, .int .i64 ah], .agg #[.int .i64 bl, .int .i64 bh]] w fun e w' => e = .returned (.agg #[.int .i64 ((bdV c al ah bl bh).1), .int .i64 ((bdV c al ah bl bh).2)]) ∧ Below w.heap.size w w' := by
  by_cases hc : c < 1 ∨ 13 < c
  · rw [bdV_no al ah bl bh hc]
    by_cases ha : 0 ≤ al
    · by_cases hb : 0 ≤ bl
      · exact rbd_nopp c al ah bl bh pal qal pah qah pbl qbl pbh qbh oa ob ha hb hc w hA
      · exact rbd_nopn c al ah bl bh pal qal pah qah pbl qbl pbh qbh oa ob ha (by omega) hc w hA
    · exact rbd_non c al ah bl bh pal qal pah qah pbl qbl pbh qbh oa ob (by omega) hc w hA
  · have e : c = 1 ∨ c = 2 ∨ c = 3 ∨ c = 4 ∨ c = 5 ∨ c = 6 ∨ c = 7 ∨ c = 8 ∨ c = 9 ∨ c = 10 ∨ c = 11 ∨ c = 12 ∨ c = 13 := by omega
    rcases e with rfl | rfl | rfl | rfl | rfl | rfl | rfl | rfl | rfl | rfl | rfl | rfl | rfl
    · exact rbda_1 al ah bl bh pal qal pah qah pbl qbl pbh qbh oa ob w hA
    · exact rbda_2 al ah bl bh pal qal pah qah pbl qbl pbh qbh oa ob w hA
    · exact rbda_3 al ah bl bh pal qal pah qah pbl qbl pbh qbh oa ob w hA
    · exact rbda_4 al ah bl bh pal qal pah qah pbl qbl pbh qbh oa ob w hA
    · exact rbda_5 al ah bl bh pal qal pah qah pbl qbl pbh qbh oa ob w hA
    · exact rbda_6 al ah bl bh pal qal pah qah pbl qbl pbh qbh oa ob w hA
    · exact rbda_7 al ah bl bh pal qal pah qah pbl qbl pbh qbh oa ob w hA
    · exact rbda_8 al ah bl bh pal qal pah qah pbl qbl pbh qbh oa ob w hA
    · exact rbda_9 al ah bl bh pal qal pah qah pbl qbl pbh qbh oa ob w hA
    · exact rbda_10 al ah bl bh pal qal pah qah pbl qbl pbh qbh oa ob w hA
    · exact rbda_11 al ah bl bh pal qal pah qah pbl qbl pbh qbh oa ob w hA
    · exact rbda_12 al ah bl bh pal qal pah qah pbl qbl pbh qbh oa ob w hA
    · exact rbda_13 al ah bl bh pal qal pah qah pbl qbl pbh qbh oa ob w hA
end Go.Proofs.YtllphbfhfmieaaaDoor
