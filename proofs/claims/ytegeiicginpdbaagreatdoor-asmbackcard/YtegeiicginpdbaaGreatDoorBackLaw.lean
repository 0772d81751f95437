/-
  gatehousekeep.AsmBack: true at whatever list and text; the world below is as it was. Conditions: the tables lie in memory, the library's two errors are errors.
-/
import Derived.Test.YtegeiicginpdbaaGreatDoorFact
import Derived.Test.YtegeiicginpdbaaGreatDoorSame
namespace Go.Proofs.YtegeiicginpdbaaGreatDoor
open Go.ChangeShapes Go.WideShapes Go.ChangeAt Go.RowKit
variable {ex : Ext}
def GoodText (s : ByteArray) : Prop := (∀ y ∈ piecesOf s, (tells y).isSome = true) ∧ (piecesOf s).length ≤ 200 ∧ ∀ j, j < (piecesOf s).length → faultOf (toldBy (piecesOf s)) j = 0
def tC (s : ByteArray) (j : Nat) : Int := (nth (toldBy (piecesOf s)) j).c
def tD (s : ByteArray) (j : Nat) : Int := (nth (toldBy (piecesOf s)) j).d
def tS (s : ByteArray) (j : Nat) : Int := (nth (toldBy (piecesOf s)) j).s
def tR (s : ByteArray) (j : Nat) : Bool := (nth (toldBy (piecesOf s)) j).r
def tO (s : ByteArray) (j : Nat) : Int := (nth (toldBy (piecesOf s)) j).o
def tN (s : ByteArray) (j : Nat) : Int := (nth (toldBy (piecesOf s)) j).n
theorem read_bad {w W : World} {s : ByteArray} {e : Ending} (hn : ¬ GoodText s) (h : ReadEnds w s e W) : (∃ ty v, e = .returned (.tuple #[.slice none 0 0, .iface ty v])) ∧ Below w.heap.size w W := by
  obtain ⟨hb, h⟩ := h
  refine ⟨?_, hb⟩
  rcases h with ⟨pre, x, post, p, _, _, _, rfl, _⟩ | ⟨hall, h⟩
  · exact ⟨_, _, rfl⟩
  · rcases h with ⟨_, rfl⟩ | ⟨hl, h⟩
    · exact ⟨_, _, rfl⟩
    · rcases h with ⟨i, p, _, _, _, rfl, _⟩ | ⟨hno, _⟩
      · exact ⟨_, _, rfl⟩
      · exact absurd ⟨hall, hl, hno⟩ hn
theorem read_good {w W : World} {s : ByteArray} {e : Ending} (hg : GoodText s) (h : ReadEnds w s e W) :
    ∃ g cap, e = .returned (.tuple #[.slice (some ⟨g, 0, none⟩) (piecesOf s).length cap, .nilIface]) ∧ Below w.heap.size w W ∧ g < W.heap.size ∧ StepsAt W g 0 (piecesOf s).length (tC s) (tD s) (tS s) (tR s) (tO s) (tN s) := by
  obtain ⟨hb, h⟩ := h
  obtain ⟨hall, hl, hno⟩ := hg
  rcases h with ⟨pre, x, post, p, hps, _, hx, _⟩ | ⟨_, h⟩
  · have h1 := hall x (by rw [hps]; simp)
    rw [hx] at h1; cases h1
  · rcases h with ⟨h200, _⟩ | ⟨_, h⟩
    · omega
    · rcases h with ⟨i, p, hi, _, hf, _⟩ | ⟨_, g, cap, rfl, hrow⟩
      · exact absurd (hno i hi) hf
      · exact ⟨g, cap, rfl, hb, row_lt hrow, row_steps hrow (told_length _)⟩
theorem good_fine {s : ByteArray} (hg : GoodText s) : ∀ j, j < (piecesOf s).length → faultAt (piecesOf s).length (tC s) (tD s) (tS s) (tR s) (tO s) (tN s) j = 0 := by
  intro j hj
  have h := hg.2.2 j hj
  unfold faultOf at h
  rw [told_length] at h
  exact h
theorem good_fits (s : ByteArray) : ∀ j, j < (piecesOf s).length → Fits (tO s j) ∧ Fits (tN s j) := fun j _ => told_fine (piecesOf s) j
section
/-- asm.Read at what asm.Write wrote. -/
theorem read_again (he : ∀ w, ex.holds w → ErrTabs w) (hu : ∀ w, ex.holds w → Lib.Utf8Tabs 7 8 w) {len : Nat} {C D S O N : Nat → Int} {R : Nat → Bool} (h1 : 1 ≤ len) (h2 : len ≤ 200) (hno : ∀ j, j < len → faultAt len C D S R O N j = 0) (hfit : ∀ i, i < len → Fits (O i) ∧ Fits (N i)) (w : World) (hT : Tabs ex w) :
    Calls Tryz.prog 9 #[.string (textB C D S R O N len)] w fun e W => ∃ g cap, e = .returned (.tuple #[.slice (some ⟨g, 0, none⟩) len cap, .nilIface]) ∧ Below w.heap.size w W ∧ g < W.heap.size ∧ StepsAt W g 0 len C D S R O N :=
  (read_any he hu _ (by have := textB_size h2 hno hfit; omega) w hT).mono fun _ _ h => read_written (text_tells h1 hno hfit) h2 hno h
set_option maxHeartbeats 4000000 in
/-- A list that asm.Write refuses, and a text that asm.Read refuses. -/
theorem back_none (he : ∀ w, ex.holds w → ErrTabs w) (hu : ∀ w, ex.holds w → Lib.Utf8Tabs 7 8 w) (a : Option Addr) (len cap : Nat) (hlen : len ≤ 300) (s : ByteArray) (hs : s.size ≤ 1500) (w : World) (hT : Tabs ex w)
    (hl : ∀ W, Below w.heap.size w W → Calls Tryz.prog 13 #[.slice a len cap] W fun e W' => (∃ ty v, e = .returned (.tuple #[.string ⟨#[]⟩, .iface ty v])) ∧ Below W.heap.size W W') (hg : ¬ GoodText s) :
    Calls Tryz.prog 4 #[.slice a len cap, .string s] w fun e w' => e = .returned (.bool true) ∧ Below w.heap.size w w' := by
  have hroom := hT.room
  have x1 : decide (300 < (len : Int)) = false := by simp; omega
  have x2 : decide (1500 < (s.size : Int)) = false := by simp; omega
  go_enter Tryz.func4, Tryz.ntmps4
  go_wp2_with (first
    | (go_at_call 12; refine (written_fact he hu _ hT).mono ?_; rintro e w1 ⟨rfl, hb1⟩)
    | (go_at_call 13; refine (hl _ hb1).mono ?_; rintro e w2 ⟨⟨ty, v, rfl⟩, hb2⟩; have hb12 := hb1.trans (hb2.mono hb1.size))
    | (go_at_call 9; refine (read_any he hu s (by omega) _ (hT.on hb12 hroom)).mono ?_; intro e w3 hre; obtain ⟨⟨ty3, v3, rfl⟩, hb3⟩ := read_bad hg hre)
    | go_in)
  go_ret
  exact ⟨rfl, hb12.trans (hb3.mono hb12.size)⟩
end
end Go.Proofs.YtegeiicginpdbaaGreatDoor
