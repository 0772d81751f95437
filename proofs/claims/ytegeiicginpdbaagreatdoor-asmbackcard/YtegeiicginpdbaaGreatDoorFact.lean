/-
  gatehousekeep.written: the words of its text.
-/
import Derived.Test.YtegeiicginpdbaaGreatDoorFitting
import Derived.RegionTactic
namespace Go.Proofs.YtegeiicginpdbaaGreatDoor
open Go.ChangeShapes Go.WideShapes Go.ChangeAt Go.RowKit
variable {ex : Ext}
def factB : ByteArray := ⟨#[108, 111, 97, 100, 32, 114, 48, 32, 91, 114, 49, 43, 50, 93, 59, 32, 106, 101, 113, 32, 114, 48, 32, 55, 32, 49, 59, 32, 32, 109, 111, 118, 32, 114, 48, 32, 45, 51, 59, 32, 101, 120, 105, 116]⟩
theorem fact_words : (piecesOf factB).map fieldsOf = [[⟨#[108, 111, 97, 100]⟩, ⟨#[114, 48]⟩, ⟨#[91, 114, 49, 43, 50, 93]⟩], [⟨#[106, 101, 113]⟩, ⟨#[114, 48]⟩, ⟨#[55]⟩, ⟨#[49]⟩], [⟨#[109, 111, 118]⟩, ⟨#[114, 48]⟩, ⟨#[45, 51]⟩], [⟨#[101, 120, 105, 116]⟩]] := by kernel_rfl
def factS : List St := [⟨25, 0, 1, false, 2, 0⟩, ⟨15, 0, 0, false, 1, 7⟩, ⟨1, 0, 0, false, 0, -3⟩, ⟨28, 0, 0, false, 0, 0⟩]
theorem fact_tells : (piecesOf factB).map tells = factS.map some := by kernel_rfl
def fC (i : Nat) : Int := (nth factS i).c
def fD (i : Nat) : Int := (nth factS i).d
def fS (i : Nat) : Int := (nth factS i).s
def fR (i : Nat) : Bool := (nth factS i).r
def fO (i : Nat) : Int := (nth factS i).o
def fN (i : Nat) : Int := (nth factS i).n
theorem fact_pieces : (piecesOf factB).map tells = (List.range 4).map fun i => some (stAt fC fD fS fR fO fN i) := by kernel_rfl
theorem fact_fine : ∀ j, j < 4 → faultAt 4 fC fD fS fR fO fN j = 0 := by
  intro j hj
  rcases (by omega : j = 0 ∨ j = 1 ∨ j = 2 ∨ j = 3) with rfl | rfl | rfl | rfl <;> decide
theorem fact_fits : ∀ j, j < 4 → Fits (fO j) ∧ Fits (fN j) := by
  intro j hj
  rcases (by omega : j = 0 ∨ j = 1 ∨ j = 2 ∨ j = 3) with rfl | rfl | rfl | rfl <;> (unfold Fits; decide)
def factT : ByteArray := ⟨#[108, 111, 97, 100, 32, 114, 48, 32, 91, 114, 49, 43, 50, 93, 59, 32, 106, 101, 113, 32, 114, 48, 32, 55, 32, 49, 59, 32, 109, 111, 118, 32, 114, 48, 32, 45, 51, 59, 32, 101, 120, 105, 116]⟩
theorem fact_text : textB fC fD fS fR fO fN 4 = factT := by kernel_rfl
section
set_option maxHeartbeats 2000000 in
theorem written_fact (he : ∀ w, ex.holds w → ErrTabs w) (hu : ∀ w, ex.holds w → Lib.Utf8Tabs 7 8 w) (w : World) (hT : Tabs ex w) : Calls Tryz.prog 12 #[] w fun e w' => e = .returned (.bool true) ∧ Below w.heap.size w w' := by
  have hroom := hT.room
  have y1 : fO 1 = 1 := rfl
  have y2 : fN 2 = -3 := rfl
  have y3 : (factT.toList == [108, 111, 97, 100, 32, 114, 48, 32, 91, 114, 49, 43, 50, 93, 59, 32, 106, 101, 113, 32, 114, 48, 32, 55, 32, 49, 59, 32, 109, 111, 118, 32, 114, 48, 32, 45, 51, 59, 32, 101, 120, 105, 116]) = true := by kernel_rfl
  go_enter Tryz.func12, Tryz.ntmps12
  go_wp2_with (first
    | (go_at_call 9; refine (read_any he hu factB (by decide) w hT).mono ?_; intro e w1 hre; obtain ⟨g, cp, rfl, hb1, hg, hst⟩ := read_written fact_pieces (by decide) fact_fine hre; obtain ⟨p0, p1, p2, p3, p4, p5⟩ := hst 1 (by decide); obtain ⟨q0, q1, q2, q3, q4, q5⟩ := hst 2 (by decide))
    | (go_at_call 13; refine (write_fine fact_fine fact_fits hst (by decide) (by decide) hg (hT.on hb1 hroom)).mono ?_; rintro e w2 ⟨rfl, hb2⟩; rw [fact_text])
    | go_in)
  go_ret
  exact ⟨rfl, hb1.trans (hb2.mono hb1.size)⟩
end
end Go.Proofs.YtegeiicginpdbaaGreatDoor
