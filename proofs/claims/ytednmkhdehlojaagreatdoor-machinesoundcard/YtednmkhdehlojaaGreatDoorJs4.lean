/-
  A Store, of a program that runs: what is in a slot, or in a cell, then, or what is wrong. Conditions: numbers are of 64 bits. What a call leaves, of a program that runs: registers that are lost, numbers that are given out, what is answered. Conditions: numbers are of 64 bits. A Call, of a program that runs: what it leaves, or what is wrong. Conditions: numbers are of 64 bits. What a step that is no Exit does to a program that runs: by the plain machine. Conditions: the step is a right one; numbers are of 64 bits. What package machine's do does to a program that runs: by the plain machine. Conditions: the step is a right one; numbers are of 64 bits. What is wrong with a step, as a function on its six fields: what op.wrong and op.hasMore return, and what the document's own answer returns; the world below is as it was. Conditions: none on the fields.
-/
import Derived.Test.YtednmkhdehlojaaGreatDoorJs3
import Derived.Laws.IdiomCopy
import Derived.Test.YtednmkhdehlojaaGreatDoorRows
import Derived.WalkKit
import Derived.ProofKit
import Derived.OpenShut
import Derived.WalkLawsBesides
import Derived.BigCall
import Derived.BigGuardPart
import Derived.Test.YtednmkhdehlojaaGreatDoorJs2
open Go.Value renaming int → vI
open Go.IntKind renaming i64 → vK
open Go.RowKit.Below renaming alloc → bA, setCell → bS, drew → bD, refl → bF
set_option maxHeartbeats 4000000
set_option maxRecDepth 1000000
namespace Go.Proofs.YtednmkhdehlojaaGreatDoor
open Go.ChangeShapes Go.WideShapes Go.ChangeAt Go.RowKit
attribute [local simp] drew_size drewN_size setCell_size
theorem store_no (B d s : Nat) (c o n : Int) (r : Bool) (m : Mac) (hd : d < 11) (hs : s < 11) (ak an ac bk bn bc : Int) (HA : Hid (m.reg d = ⟨ak, an, ac⟩)) (HB : Hid (m.second s r n = ⟨bk, bn, bc⟩)) (t E : Int) (HR : Hid (reachF ⟨ak, an, ac⟩ o = (t, E))) (hE : (E != 0) = true) (w : World) (hM : MacAt w B m) :
    Calls Tryz.prog 119 #[.pointer (some ⟨B, 0, none⟩), .agg #[vI vK c, vI vK d, vI vK s, .bool r, vI vK o, vI vK n]] w fun e w' => e = .returned (vI vK E) ∧ Below w.heap.size w w' := by
  have hB := hM.lt
  have hF0 : Frm w.heap.size B c d s r o n m _ := Frm.start hM
  obtain ⟨p0, p1, p2, p3, p4, p5⟩ := hF0.cells
  obtain ⟨h0, h1, h2⟩ := hF0.mac.reg hd
  rw [HA.out] at h0 h1 h2
  have hd0 : (0 : Int) ≤ (d : Int) := by omega
  have hd1 : (d : Int) < 11 := by omega
  go_enter Tryz.func119, Tryz.ntmps119
  go_wp2_with fail
  go_cut [5, 6] (fun s6 s7 wx => ∃ L K : Nat, s6 = .pointer (some ⟨L, 0, none⟩) ∧ s7 = .pointer (some ⟨K, 0, none⟩) ∧ Below w.heap.size w wx ∧ Frm w.heap.size B c d s r o n m wx ∧ L < wx.heap.size ∧ K < wx.heap.size ∧ wx.cell? ⟨L, 0, none⟩ = some (vI vK ak) ∧ wx.cell? ⟨L, 1, none⟩ = some (vI vK an) ∧ wx.cell? ⟨L, 2, none⟩ = some (vI vK ac) ∧ wx.cell? ⟨K, 0, none⟩ = some (vI vK bk) ∧ wx.cell? ⟨K, 1, none⟩ = some (vI vK bn) ∧ wx.cell? ⟨K, 2, none⟩ = some (vI vK bc))
  case first =>
    go_region_held3 (fun w' => w'.cell? ⟨w.heap.size, 0, none⟩ = some (vI vK c) ∧ w'.cell? ⟨w.heap.size, 1, none⟩ = some (vI vK d) ∧ w'.cell? ⟨w.heap.size, 2, none⟩ = some (vI vK s) ∧ w'.cell? ⟨w.heap.size, 3, none⟩ = some (.bool r) ∧ w'.cell? ⟨w.heap.size, 4, none⟩ = some (vI vK o) ∧ w'.cell? ⟨w.heap.size, 5, none⟩ = some (vI vK n) ∧ w'.cell? ⟨B, 2 + d * 3, none⟩ = some (vI vK ak) ∧ w'.cell? ⟨B, 2 + d * 3 + 1, none⟩ = some (vI vK an) ∧ w'.cell? ⟨B, 2 + d * 3 + 2, none⟩ = some (vI vK ac)) (first | (simp [go_sem]; done) | (simp [go_sem, *]; done) | go_keep) (first
      | (go_at_call 154; go_must (refine (second_any B s c d o n r m hs _ (Frm.mac (S := w.heap.size) (c := c) (d := d) (s := s) (r := r) (o := o) (n := n) (by repeat' first | exact hF0 | exact hF1 | exact hF2 | refine Frm.alloc ?_ _ | refine Frm.drew ?_ | refine Frm.drewN ?_ _ | refine Frm.set ?_ _ _ ?_ ?_ | (intro hh; simp at hh; done) | (intro hh; simp at hh; omega)))).mono ?_; rintro e w1 ⟨rfl, hb1⟩; rw [HB.out]; simp only [Val.v]; have hF1 : Frm w.heap.size B c d s r o n m w1 := Frm.later (by repeat' first | exact hF0 | exact hF1 | exact hF2 | refine Frm.alloc ?_ _ | refine Frm.drew ?_ | refine Frm.drewN ?_ _ | refine Frm.set ?_ _ _ ?_ ?_ | (intro hh; simp at hh; done) | (intro hh; simp at hh; omega)) hb1; have hbw1 : Below w.heap.size w w1 := (by ((refine Below.trans ?_ (hb1.mono ?_)) <;> repeat' first | exact bF _ _ | exact hbw1 | exact hbw2 | refine bA ?_ ?_ _ | refine bS ?_ ?_ _ | refine bD ?_ | refine below_drewN ?_ _ | (simp; done) | (simp; omega) | omega)); obtain ⟨v0, v1, v2, v3, v4, v5⟩ := hF1.cells; obtain ⟨i0, i1, i2⟩ := hF1.mac.reg hd; rw [HA.out] at i0 i1 i2; have hS1 := hF1.ltS; have hB1 := hF1.mac.lt; have v6 := later_box hb1 (w.heap.size + 1); (try simp [go_sem] at v6); have v7 := later_box hb1 (w.heap.size + 1 + 1); (try simp [go_sem] at v7))))
    all_goals (go_wp2_with fail; go_meet)
    all_goals refine ⟨_, _, rfl, rfl, ?_, ?_, ?_, ?_, ?_, ?_, ?_, ?_, ?_, ?_⟩
    all_goals clear HA HB p0 p1 p2 p3 p4 p5 h0 h1 h2 hF0
    all_goals first
      | (with_reducible refine bA ?_ ?_ _; (repeat' first | with_reducible (first | exact hbw1 | refine bA ?_ ?_ _ | refine bS ?_ ?_ _) | ((try dsimp only); omega) | (simp; done) | (simp; omega)); done)
      | (with_reducible refine bS ?_ ?_ _; (repeat' first | with_reducible (first | exact hbw1 | refine bA ?_ ?_ _ | refine bS ?_ ?_ _) | ((try dsimp only); omega) | (simp; done) | (simp; omega)); done)
      | (with_reducible refine Frm.alloc ?_ _; (repeat' first | with_reducible (first | exact hF1 | refine Frm.alloc ?_ _ | refine Frm.set ?_ _ _ ?_ ?_) | ((try dsimp only); omega) | (simp; done) | (simp; omega)); done)
      | (with_reducible refine Frm.set ?_ _ _ ?_ ?_; (repeat' first | with_reducible (first | exact hF1 | refine Frm.alloc ?_ _ | refine Frm.set ?_ _ _ ?_ ?_) | ((try dsimp only); omega) | (simp; done) | (simp; omega)); done)
      | (simp; done) | (simp; omega) | (simp [go_sem]; done) | (simp [go_sem, v6]; done) | (simp [go_sem, v7]; done) | (simp [go_sem, *]; done)
  case rest =>
    obtain ⟨L, K, rfl, rfl, hbw, hFx, hL, hK, l0, l1, l2, g0, g1, g2⟩ := hcut
    obtain ⟨v0, v1, v2, v3, v4, v5⟩ := hFx.cells
    have hSx := hFx.ltS
    have hBx := hFx.mac.lt
    clear p0 p1 p2 p3 p4 p5 h0 h1 h2 hF0 HA HB hM
    go_wp2_with (first
      | (go_at_call 156; refine (reach_any ⟨ak, an, ac⟩ o _).mono ?_; rintro e w1 ⟨rfl, hb1⟩; rw [HR.out]; have hF1 : Frm w.heap.size B c d s r o n m w1 := hFx.later hb1; have hbw1 : Below w.heap.size w w1 := hbw.trans (hb1.mono hbw.size); have l0 := (hb1.cell (p := ⟨L, 0, none⟩) hL).trans l0; have l1 := (hb1.cell (p := ⟨L, 1, none⟩) hL).trans l1; have l2 := (hb1.cell (p := ⟨L, 2, none⟩) hL).trans l2; have g0 := (hb1.cell (p := ⟨K, 0, none⟩) hK).trans g0; have g1 := (hb1.cell (p := ⟨K, 1, none⟩) hK).trans g1; have g2 := (hb1.cell (p := ⟨K, 2, none⟩) hK).trans g2; have hL := Nat.lt_of_lt_of_le hL hb1.size; have hK := Nat.lt_of_lt_of_le hK hb1.size; have hB1 := hF1.mac.lt)
      | go_in)
    all_goals go_ret
    all_goals exact ⟨rfl, hbw1⟩
theorem store_told (B d s t : Nat) (c o n : Int) (r : Bool) (m : Mac) (hd : d < 11) (hs : s < 11) (ak an ac bk bn bc : Int) (HA : Hid (m.reg d = ⟨ak, an, ac⟩)) (HB : Hid (m.second s r n = ⟨bk, bn, bc⟩)) (HR : Hid (reachF ⟨ak, an, ac⟩ o = (((t : Nat) : Int), 0))) (hk : (ak == 2) = true) (w : World) (hM : MacAt w B m) :
    Calls Tryz.prog 119 #[.pointer (some ⟨B, 0, none⟩), .agg #[vI vK c, vI vK d, vI vK s, .bool r, vI vK o, vI vK n]] w fun e w' => e = .returned (vI vK 6) ∧ Below w.heap.size w w' := by
  have hB := hM.lt
  have hF0 : Frm w.heap.size B c d s r o n m _ := Frm.start hM
  obtain ⟨p0, p1, p2, p3, p4, p5⟩ := hF0.cells
  obtain ⟨h0, h1, h2⟩ := hF0.mac.reg hd
  rw [HA.out] at h0 h1 h2
  have hd0 : (0 : Int) ≤ (d : Int) := by omega
  have hd1 : (d : Int) < 11 := by omega
  go_enter Tryz.func119, Tryz.ntmps119
  go_wp2_with fail
  go_cut [5, 6] (fun s6 s7 wx => ∃ L K : Nat, s6 = .pointer (some ⟨L, 0, none⟩) ∧ s7 = .pointer (some ⟨K, 0, none⟩) ∧ Below w.heap.size w wx ∧ Frm w.heap.size B c d s r o n m wx ∧ L < wx.heap.size ∧ K < wx.heap.size ∧ wx.cell? ⟨L, 0, none⟩ = some (vI vK ak) ∧ wx.cell? ⟨L, 1, none⟩ = some (vI vK an) ∧ wx.cell? ⟨L, 2, none⟩ = some (vI vK ac) ∧ wx.cell? ⟨K, 0, none⟩ = some (vI vK bk) ∧ wx.cell? ⟨K, 1, none⟩ = some (vI vK bn) ∧ wx.cell? ⟨K, 2, none⟩ = some (vI vK bc))
  case first =>
    go_region_held3 (fun w' => w'.cell? ⟨w.heap.size, 0, none⟩ = some (vI vK c) ∧ w'.cell? ⟨w.heap.size, 1, none⟩ = some (vI vK d) ∧ w'.cell? ⟨w.heap.size, 2, none⟩ = some (vI vK s) ∧ w'.cell? ⟨w.heap.size, 3, none⟩ = some (.bool r) ∧ w'.cell? ⟨w.heap.size, 4, none⟩ = some (vI vK o) ∧ w'.cell? ⟨w.heap.size, 5, none⟩ = some (vI vK n) ∧ w'.cell? ⟨B, 2 + d * 3, none⟩ = some (vI vK ak) ∧ w'.cell? ⟨B, 2 + d * 3 + 1, none⟩ = some (vI vK an) ∧ w'.cell? ⟨B, 2 + d * 3 + 2, none⟩ = some (vI vK ac)) (first | (simp [go_sem]; done) | (simp [go_sem, *]; done) | go_keep) (first
      | (go_at_call 154; go_must (refine (second_any B s c d o n r m hs _ (Frm.mac (S := w.heap.size) (c := c) (d := d) (s := s) (r := r) (o := o) (n := n) (by repeat' first | exact hF0 | exact hF1 | exact hF2 | refine Frm.alloc ?_ _ | refine Frm.drew ?_ | refine Frm.drewN ?_ _ | refine Frm.set ?_ _ _ ?_ ?_ | (intro hh; simp at hh; done) | (intro hh; simp at hh; omega)))).mono ?_; rintro e w1 ⟨rfl, hb1⟩; rw [HB.out]; simp only [Val.v]; have hF1 : Frm w.heap.size B c d s r o n m w1 := Frm.later (by repeat' first | exact hF0 | exact hF1 | exact hF2 | refine Frm.alloc ?_ _ | refine Frm.drew ?_ | refine Frm.drewN ?_ _ | refine Frm.set ?_ _ _ ?_ ?_ | (intro hh; simp at hh; done) | (intro hh; simp at hh; omega)) hb1; have hbw1 : Below w.heap.size w w1 := (by ((refine Below.trans ?_ (hb1.mono ?_)) <;> repeat' first | exact bF _ _ | exact hbw1 | exact hbw2 | refine bA ?_ ?_ _ | refine bS ?_ ?_ _ | refine bD ?_ | refine below_drewN ?_ _ | (simp; done) | (simp; omega) | omega)); obtain ⟨v0, v1, v2, v3, v4, v5⟩ := hF1.cells; obtain ⟨i0, i1, i2⟩ := hF1.mac.reg hd; rw [HA.out] at i0 i1 i2; have hS1 := hF1.ltS; have hB1 := hF1.mac.lt; have v6 := later_box hb1 (w.heap.size + 1); (try simp [go_sem] at v6); have v7 := later_box hb1 (w.heap.size + 1 + 1); (try simp [go_sem] at v7))))
    all_goals (go_wp2_with fail; go_meet)
    all_goals refine ⟨_, _, rfl, rfl, ?_, ?_, ?_, ?_, ?_, ?_, ?_, ?_, ?_, ?_⟩
    all_goals clear HA HB p0 p1 p2 p3 p4 p5 h0 h1 h2 hF0
    all_goals first
      | (with_reducible refine bA ?_ ?_ _; (repeat' first | with_reducible (first | exact hbw1 | refine bA ?_ ?_ _ | refine bS ?_ ?_ _) | ((try dsimp only); omega) | (simp; done) | (simp; omega)); done)
      | (with_reducible refine bS ?_ ?_ _; (repeat' first | with_reducible (first | exact hbw1 | refine bA ?_ ?_ _ | refine bS ?_ ?_ _) | ((try dsimp only); omega) | (simp; done) | (simp; omega)); done)
      | (with_reducible refine Frm.alloc ?_ _; (repeat' first | with_reducible (first | exact hF1 | refine Frm.alloc ?_ _ | refine Frm.set ?_ _ _ ?_ ?_) | ((try dsimp only); omega) | (simp; done) | (simp; omega)); done)
      | (with_reducible refine Frm.set ?_ _ _ ?_ ?_; (repeat' first | with_reducible (first | exact hF1 | refine Frm.alloc ?_ _ | refine Frm.set ?_ _ _ ?_ ?_) | ((try dsimp only); omega) | (simp; done) | (simp; omega)); done)
      | (simp; done) | (simp; omega) | (simp [go_sem]; done) | (simp [go_sem, v6]; done) | (simp [go_sem, v7]; done) | (simp [go_sem, *]; done)
  case rest =>
    obtain ⟨L, K, rfl, rfl, hbw, hFx, hL, hK, l0, l1, l2, g0, g1, g2⟩ := hcut
    obtain ⟨v0, v1, v2, v3, v4, v5⟩ := hFx.cells
    have hSx := hFx.ltS
    have hBx := hFx.mac.lt
    clear p0 p1 p2 p3 p4 p5 h0 h1 h2 hF0 HA HB hM
    go_wp2_with (first
      | (go_at_call 156; refine (reach_any ⟨ak, an, ac⟩ o _).mono ?_; rintro e w1 ⟨rfl, hb1⟩; rw [HR.out]; have hF1 : Frm w.heap.size B c d s r o n m w1 := hFx.later hb1; have hbw1 : Below w.heap.size w w1 := hbw.trans (hb1.mono hbw.size); have l0 := (hb1.cell (p := ⟨L, 0, none⟩) hL).trans l0; have l1 := (hb1.cell (p := ⟨L, 1, none⟩) hL).trans l1; have l2 := (hb1.cell (p := ⟨L, 2, none⟩) hL).trans l2; have g0 := (hb1.cell (p := ⟨K, 0, none⟩) hK).trans g0; have g1 := (hb1.cell (p := ⟨K, 1, none⟩) hK).trans g1; have g2 := (hb1.cell (p := ⟨K, 2, none⟩) hK).trans g2; have hL := Nat.lt_of_lt_of_le hL hb1.size; have hK := Nat.lt_of_lt_of_le hK hb1.size; have hB1 := hF1.mac.lt)
      | go_in)
    all_goals go_ret
    all_goals exact ⟨rfl, hbw1⟩
theorem store_none (B d s t : Nat) (c o n : Int) (r : Bool) (m : Mac) (hd : d < 11) (hs : s < 11) (ak an ac bk bn bc : Int) (HA : Hid (m.reg d = ⟨ak, an, ac⟩)) (HB : Hid (m.second s r n = ⟨bk, bn, bc⟩)) (HR : Hid (reachF ⟨ak, an, ac⟩ o = (((t : Nat) : Int), 0))) (hk : (ak == 2) = false) (hv : (bk == 0) = true) (w : World) (hM : MacAt w B m) :
    Calls Tryz.prog 119 #[.pointer (some ⟨B, 0, none⟩), .agg #[vI vK c, vI vK d, vI vK s, .bool r, vI vK o, vI vK n]] w fun e w' => e = .returned (vI vK 8) ∧ Below w.heap.size w w' := by
  have hB := hM.lt
  have hF0 : Frm w.heap.size B c d s r o n m _ := Frm.start hM
  obtain ⟨p0, p1, p2, p3, p4, p5⟩ := hF0.cells
  obtain ⟨h0, h1, h2⟩ := hF0.mac.reg hd
  rw [HA.out] at h0 h1 h2
  have hd0 : (0 : Int) ≤ (d : Int) := by omega
  have hd1 : (d : Int) < 11 := by omega
  go_enter Tryz.func119, Tryz.ntmps119
  go_wp2_with fail
  go_cut [5, 6] (fun s6 s7 wx => ∃ L K : Nat, s6 = .pointer (some ⟨L, 0, none⟩) ∧ s7 = .pointer (some ⟨K, 0, none⟩) ∧ Below w.heap.size w wx ∧ Frm w.heap.size B c d s r o n m wx ∧ L < wx.heap.size ∧ K < wx.heap.size ∧ wx.cell? ⟨L, 0, none⟩ = some (vI vK ak) ∧ wx.cell? ⟨L, 1, none⟩ = some (vI vK an) ∧ wx.cell? ⟨L, 2, none⟩ = some (vI vK ac) ∧ wx.cell? ⟨K, 0, none⟩ = some (vI vK bk) ∧ wx.cell? ⟨K, 1, none⟩ = some (vI vK bn) ∧ wx.cell? ⟨K, 2, none⟩ = some (vI vK bc))
  case first =>
    go_region_held3 (fun w' => w'.cell? ⟨w.heap.size, 0, none⟩ = some (vI vK c) ∧ w'.cell? ⟨w.heap.size, 1, none⟩ = some (vI vK d) ∧ w'.cell? ⟨w.heap.size, 2, none⟩ = some (vI vK s) ∧ w'.cell? ⟨w.heap.size, 3, none⟩ = some (.bool r) ∧ w'.cell? ⟨w.heap.size, 4, none⟩ = some (vI vK o) ∧ w'.cell? ⟨w.heap.size, 5, none⟩ = some (vI vK n) ∧ w'.cell? ⟨B, 2 + d * 3, none⟩ = some (vI vK ak) ∧ w'.cell? ⟨B, 2 + d * 3 + 1, none⟩ = some (vI vK an) ∧ w'.cell? ⟨B, 2 + d * 3 + 2, none⟩ = some (vI vK ac)) (first | (simp [go_sem]; done) | (simp [go_sem, *]; done) | go_keep) (first
      | (go_at_call 154; go_must (refine (second_any B s c d o n r m hs _ (Frm.mac (S := w.heap.size) (c := c) (d := d) (s := s) (r := r) (o := o) (n := n) (by repeat' first | exact hF0 | exact hF1 | exact hF2 | refine Frm.alloc ?_ _ | refine Frm.drew ?_ | refine Frm.drewN ?_ _ | refine Frm.set ?_ _ _ ?_ ?_ | (intro hh; simp at hh; done) | (intro hh; simp at hh; omega)))).mono ?_; rintro e w1 ⟨rfl, hb1⟩; rw [HB.out]; simp only [Val.v]; have hF1 : Frm w.heap.size B c d s r o n m w1 := Frm.later (by repeat' first | exact hF0 | exact hF1 | exact hF2 | refine Frm.alloc ?_ _ | refine Frm.drew ?_ | refine Frm.drewN ?_ _ | refine Frm.set ?_ _ _ ?_ ?_ | (intro hh; simp at hh; done) | (intro hh; simp at hh; omega)) hb1; have hbw1 : Below w.heap.size w w1 := (by ((refine Below.trans ?_ (hb1.mono ?_)) <;> repeat' first | exact bF _ _ | exact hbw1 | exact hbw2 | refine bA ?_ ?_ _ | refine bS ?_ ?_ _ | refine bD ?_ | refine below_drewN ?_ _ | (simp; done) | (simp; omega) | omega)); obtain ⟨v0, v1, v2, v3, v4, v5⟩ := hF1.cells; obtain ⟨i0, i1, i2⟩ := hF1.mac.reg hd; rw [HA.out] at i0 i1 i2; have hS1 := hF1.ltS; have hB1 := hF1.mac.lt; have v6 := later_box hb1 (w.heap.size + 1); (try simp [go_sem] at v6); have v7 := later_box hb1 (w.heap.size + 1 + 1); (try simp [go_sem] at v7))))
    all_goals (go_wp2_with fail; go_meet)
    all_goals refine ⟨_, _, rfl, rfl, ?_, ?_, ?_, ?_, ?_, ?_, ?_, ?_, ?_, ?_⟩
    all_goals clear HA HB p0 p1 p2 p3 p4 p5 h0 h1 h2 hF0
    all_goals first
      | (with_reducible refine bA ?_ ?_ _; (repeat' first | with_reducible (first | exact hbw1 | refine bA ?_ ?_ _ | refine bS ?_ ?_ _) | ((try dsimp only); omega) | (simp; done) | (simp; omega)); done)
      | (with_reducible refine bS ?_ ?_ _; (repeat' first | with_reducible (first | exact hbw1 | refine bA ?_ ?_ _ | refine bS ?_ ?_ _) | ((try dsimp only); omega) | (simp; done) | (simp; omega)); done)
      | (with_reducible refine Frm.alloc ?_ _; (repeat' first | with_reducible (first | exact hF1 | refine Frm.alloc ?_ _ | refine Frm.set ?_ _ _ ?_ ?_) | ((try dsimp only); omega) | (simp; done) | (simp; omega)); done)
      | (with_reducible refine Frm.set ?_ _ _ ?_ ?_; (repeat' first | with_reducible (first | exact hF1 | refine Frm.alloc ?_ _ | refine Frm.set ?_ _ _ ?_ ?_) | ((try dsimp only); omega) | (simp; done) | (simp; omega)); done)
      | (simp; done) | (simp; omega) | (simp [go_sem]; done) | (simp [go_sem, v6]; done) | (simp [go_sem, v7]; done) | (simp [go_sem, *]; done)
  case rest =>
    obtain ⟨L, K, rfl, rfl, hbw, hFx, hL, hK, l0, l1, l2, g0, g1, g2⟩ := hcut
    obtain ⟨v0, v1, v2, v3, v4, v5⟩ := hFx.cells
    have hSx := hFx.ltS
    have hBx := hFx.mac.lt
    clear p0 p1 p2 p3 p4 p5 h0 h1 h2 hF0 HA HB hM
    go_wp2_with (first
      | (go_at_call 156; refine (reach_any ⟨ak, an, ac⟩ o _).mono ?_; rintro e w1 ⟨rfl, hb1⟩; rw [HR.out]; have hF1 : Frm w.heap.size B c d s r o n m w1 := hFx.later hb1; have hbw1 : Below w.heap.size w w1 := hbw.trans (hb1.mono hbw.size); have l0 := (hb1.cell (p := ⟨L, 0, none⟩) hL).trans l0; have l1 := (hb1.cell (p := ⟨L, 1, none⟩) hL).trans l1; have l2 := (hb1.cell (p := ⟨L, 2, none⟩) hL).trans l2; have g0 := (hb1.cell (p := ⟨K, 0, none⟩) hK).trans g0; have g1 := (hb1.cell (p := ⟨K, 1, none⟩) hK).trans g1; have g2 := (hb1.cell (p := ⟨K, 2, none⟩) hK).trans g2; have hL := Nat.lt_of_lt_of_le hL hb1.size; have hK := Nat.lt_of_lt_of_le hK hb1.size; have hB1 := hF1.mac.lt)
      | go_in)
    all_goals go_ret
    all_goals exact ⟨rfl, hbw1⟩
theorem store_slot (B d s t : Nat) (c o n : Int) (r : Bool) (m : Mac) (hd : d < 11) (hs : s < 11) (ak an ac bk bn bc : Int) (HA : Hid (m.reg d = ⟨ak, an, ac⟩)) (HB : Hid (m.second s r n = ⟨bk, bn, bc⟩)) (HR : Hid (reachF ⟨ak, an, ac⟩ o = (((t : Nat) : Int), 0))) (ht : t < 16) (hk : (ak == 2) = false) (hv : (bk == 0) = false) (hk3 : (ak == 3) = true) (w : World) (hM : MacAt w B m) :
    Calls Tryz.prog 119 #[.pointer (some ⟨B, 0, none⟩), .agg #[vI vK c, vI vK d, vI vK s, .bool r, vI vK o, vI vK n]] w fun e w' => e = .returned (vI vK 0) ∧ Kept B w w' ∧ MacAt w' B (m.putSlot t ⟨bk, bn, bc⟩) := by
  have hB := hM.lt
  have hF0 : Frm w.heap.size B c d s r o n m _ := Frm.start hM
  obtain ⟨p0, p1, p2, p3, p4, p5⟩ := hF0.cells
  obtain ⟨h0, h1, h2⟩ := hF0.mac.reg hd
  rw [HA.out] at h0 h1 h2
  have hd0 : (0 : Int) ≤ (d : Int) := by omega
  have hd1 : (d : Int) < 11 := by omega
  have ht0 : (0 : Int) ≤ (t : Int) := by omega
  have ht1 : (t : Int) < 16 := by omega
  go_enter Tryz.func119, Tryz.ntmps119
  go_wp2_with fail
  go_cut [5, 6] (fun s6 s7 wx => ∃ L K : Nat, s6 = .pointer (some ⟨L, 0, none⟩) ∧ s7 = .pointer (some ⟨K, 0, none⟩) ∧ Below w.heap.size w wx ∧ Frm w.heap.size B c d s r o n m wx ∧ L < wx.heap.size ∧ K < wx.heap.size ∧ wx.cell? ⟨L, 0, none⟩ = some (vI vK ak) ∧ wx.cell? ⟨L, 1, none⟩ = some (vI vK an) ∧ wx.cell? ⟨L, 2, none⟩ = some (vI vK ac) ∧ wx.cell? ⟨K, 0, none⟩ = some (vI vK bk) ∧ wx.cell? ⟨K, 1, none⟩ = some (vI vK bn) ∧ wx.cell? ⟨K, 2, none⟩ = some (vI vK bc))
  case first =>
    go_region_held3 (fun w' => w'.cell? ⟨w.heap.size, 0, none⟩ = some (vI vK c) ∧ w'.cell? ⟨w.heap.size, 1, none⟩ = some (vI vK d) ∧ w'.cell? ⟨w.heap.size, 2, none⟩ = some (vI vK s) ∧ w'.cell? ⟨w.heap.size, 3, none⟩ = some (.bool r) ∧ w'.cell? ⟨w.heap.size, 4, none⟩ = some (vI vK o) ∧ w'.cell? ⟨w.heap.size, 5, none⟩ = some (vI vK n) ∧ w'.cell? ⟨B, 2 + d * 3, none⟩ = some (vI vK ak) ∧ w'.cell? ⟨B, 2 + d * 3 + 1, none⟩ = some (vI vK an) ∧ w'.cell? ⟨B, 2 + d * 3 + 2, none⟩ = some (vI vK ac)) (first | (simp [go_sem]; done) | (simp [go_sem, *]; done) | go_keep) (first
      | (go_at_call 154; go_must (refine (second_any B s c d o n r m hs _ (Frm.mac (S := w.heap.size) (c := c) (d := d) (s := s) (r := r) (o := o) (n := n) (by repeat' first | exact hF0 | exact hF1 | exact hF2 | refine Frm.alloc ?_ _ | refine Frm.drew ?_ | refine Frm.drewN ?_ _ | refine Frm.set ?_ _ _ ?_ ?_ | (intro hh; simp at hh; done) | (intro hh; simp at hh; omega)))).mono ?_; rintro e w1 ⟨rfl, hb1⟩; rw [HB.out]; simp only [Val.v]; have hF1 : Frm w.heap.size B c d s r o n m w1 := Frm.later (by repeat' first | exact hF0 | exact hF1 | exact hF2 | refine Frm.alloc ?_ _ | refine Frm.drew ?_ | refine Frm.drewN ?_ _ | refine Frm.set ?_ _ _ ?_ ?_ | (intro hh; simp at hh; done) | (intro hh; simp at hh; omega)) hb1; have hbw1 : Below w.heap.size w w1 := (by ((refine Below.trans ?_ (hb1.mono ?_)) <;> repeat' first | exact bF _ _ | exact hbw1 | exact hbw2 | refine bA ?_ ?_ _ | refine bS ?_ ?_ _ | refine bD ?_ | refine below_drewN ?_ _ | (simp; done) | (simp; omega) | omega)); obtain ⟨v0, v1, v2, v3, v4, v5⟩ := hF1.cells; obtain ⟨i0, i1, i2⟩ := hF1.mac.reg hd; rw [HA.out] at i0 i1 i2; have hS1 := hF1.ltS; have hB1 := hF1.mac.lt; have v6 := later_box hb1 (w.heap.size + 1); (try simp [go_sem] at v6); have v7 := later_box hb1 (w.heap.size + 1 + 1); (try simp [go_sem] at v7))))
    all_goals (go_wp2_with fail; go_meet)
    all_goals refine ⟨_, _, rfl, rfl, ?_, ?_, ?_, ?_, ?_, ?_, ?_, ?_, ?_, ?_⟩
    all_goals clear HA HB p0 p1 p2 p3 p4 p5 h0 h1 h2 hF0
    all_goals first
      | (with_reducible refine bA ?_ ?_ _; (repeat' first | with_reducible (first | exact hbw1 | refine bA ?_ ?_ _ | refine bS ?_ ?_ _) | ((try dsimp only); omega) | (simp; done) | (simp; omega)); done)
      | (with_reducible refine bS ?_ ?_ _; (repeat' first | with_reducible (first | exact hbw1 | refine bA ?_ ?_ _ | refine bS ?_ ?_ _) | ((try dsimp only); omega) | (simp; done) | (simp; omega)); done)
      | (with_reducible refine Frm.alloc ?_ _; (repeat' first | with_reducible (first | exact hF1 | refine Frm.alloc ?_ _ | refine Frm.set ?_ _ _ ?_ ?_) | ((try dsimp only); omega) | (simp; done) | (simp; omega)); done)
      | (with_reducible refine Frm.set ?_ _ _ ?_ ?_; (repeat' first | with_reducible (first | exact hF1 | refine Frm.alloc ?_ _ | refine Frm.set ?_ _ _ ?_ ?_) | ((try dsimp only); omega) | (simp; done) | (simp; omega)); done)
      | (simp; done) | (simp; omega) | (simp [go_sem]; done) | (simp [go_sem, v6]; done) | (simp [go_sem, v7]; done) | (simp [go_sem, *]; done)
  case rest =>
    obtain ⟨L, K, rfl, rfl, hbw, hFx, hL, hK, l0, l1, l2, g0, g1, g2⟩ := hcut
    obtain ⟨v0, v1, v2, v3, v4, v5⟩ := hFx.cells
    have hSx := hFx.ltS
    have hBx := hFx.mac.lt
    clear p0 p1 p2 p3 p4 p5 h0 h1 h2 hF0 HA HB hM
    go_wp2_with (first
      | (go_at_call 156; refine (reach_any ⟨ak, an, ac⟩ o _).mono ?_; rintro e w1 ⟨rfl, hb1⟩; rw [HR.out]; have hF1 : Frm w.heap.size B c d s r o n m w1 := hFx.later hb1; have hbw1 : Below w.heap.size w w1 := hbw.trans (hb1.mono hbw.size); have l0 := (hb1.cell (p := ⟨L, 0, none⟩) hL).trans l0; have l1 := (hb1.cell (p := ⟨L, 1, none⟩) hL).trans l1; have l2 := (hb1.cell (p := ⟨L, 2, none⟩) hL).trans l2; have g0 := (hb1.cell (p := ⟨K, 0, none⟩) hK).trans g0; have g1 := (hb1.cell (p := ⟨K, 1, none⟩) hK).trans g1; have g2 := (hb1.cell (p := ⟨K, 2, none⟩) hK).trans g2; have hL := Nat.lt_of_lt_of_le hL hb1.size; have hK := Nat.lt_of_lt_of_le hK hb1.size; have hB1 := hF1.mac.lt; obtain ⟨i0, i1, i2⟩ := hF1.mac.slot ht; have f0 := hF1.mac.frozen (35 + t * 3); have f1 := hF1.mac.frozen (35 + t * 3 + 1); have f2 := hF1.mac.frozen (35 + t * 3 + 2))
      | go_in)
    all_goals go_region
    all_goals go_wp2
    all_goals go_ret
    all_goals have HK : Kept B w w1 := kept_below hbw1 B
    all_goals have HM := hF1.mac
    all_goals exact ⟨rfl, (by repeat' first | with_reducible (first | exact HK | refine kept_drew ?_ | refine kept_set ?_ _ _ | refine kept_new ?_ _ _ ?_ | refine kept_alloc ?_ _) | ((try dsimp only); omega)), (by repeat' first | with_reducible (first | exact HM | refine MacAt.drew ?_ | refine MacAt.put3 ?_ hd _ _ _ | refine MacAt.slot3 ?_ ht _ _ _ | refine MacAt.cel1 ?_ hct _ | refine MacAt.off ?_ _ _ ?_ | refine MacAt.alloc ?_ _) | ((try dsimp only); omega))⟩
theorem store_arg (B d s t : Nat) (c o n : Int) (r : Bool) (m : Mac) (hd : d < 11) (hs : s < 11) (ak an ac bk bn bc : Int) (HA : Hid (m.reg d = ⟨ak, an, ac⟩)) (HB : Hid (m.second s r n = ⟨bk, bn, bc⟩)) (HR : Hid (reachF ⟨ak, an, ac⟩ o = (((t : Nat) : Int), 0))) (hk : (ak == 2) = false) (hv : (bk == 0) = false) (hk3 : (ak == 3) = false) (hv1 : (bk != 1) = true) (w : World) (hM : MacAt w B m) :
    Calls Tryz.prog 119 #[.pointer (some ⟨B, 0, none⟩), .agg #[vI vK c, vI vK d, vI vK s, .bool r, vI vK o, vI vK n]] w fun e w' => e = .returned (vI vK 1) ∧ Below w.heap.size w w' := by
  have hB := hM.lt
  have hF0 : Frm w.heap.size B c d s r o n m _ := Frm.start hM
  obtain ⟨p0, p1, p2, p3, p4, p5⟩ := hF0.cells
  obtain ⟨h0, h1, h2⟩ := hF0.mac.reg hd
  rw [HA.out] at h0 h1 h2
  have hd0 : (0 : Int) ≤ (d : Int) := by omega
  have hd1 : (d : Int) < 11 := by omega
  go_enter Tryz.func119, Tryz.ntmps119
  go_wp2_with fail
  go_cut [5, 6] (fun s6 s7 wx => ∃ L K : Nat, s6 = .pointer (some ⟨L, 0, none⟩) ∧ s7 = .pointer (some ⟨K, 0, none⟩) ∧ Below w.heap.size w wx ∧ Frm w.heap.size B c d s r o n m wx ∧ L < wx.heap.size ∧ K < wx.heap.size ∧ wx.cell? ⟨L, 0, none⟩ = some (vI vK ak) ∧ wx.cell? ⟨L, 1, none⟩ = some (vI vK an) ∧ wx.cell? ⟨L, 2, none⟩ = some (vI vK ac) ∧ wx.cell? ⟨K, 0, none⟩ = some (vI vK bk) ∧ wx.cell? ⟨K, 1, none⟩ = some (vI vK bn) ∧ wx.cell? ⟨K, 2, none⟩ = some (vI vK bc))
  case first =>
    go_region_held3 (fun w' => w'.cell? ⟨w.heap.size, 0, none⟩ = some (vI vK c) ∧ w'.cell? ⟨w.heap.size, 1, none⟩ = some (vI vK d) ∧ w'.cell? ⟨w.heap.size, 2, none⟩ = some (vI vK s) ∧ w'.cell? ⟨w.heap.size, 3, none⟩ = some (.bool r) ∧ w'.cell? ⟨w.heap.size, 4, none⟩ = some (vI vK o) ∧ w'.cell? ⟨w.heap.size, 5, none⟩ = some (vI vK n) ∧ w'.cell? ⟨B, 2 + d * 3, none⟩ = some (vI vK ak) ∧ w'.cell? ⟨B, 2 + d * 3 + 1, none⟩ = some (vI vK an) ∧ w'.cell? ⟨B, 2 + d * 3 + 2, none⟩ = some (vI vK ac)) (first | (simp [go_sem]; done) | (simp [go_sem, *]; done) | go_keep) (first
      | (go_at_call 154; go_must (refine (second_any B s c d o n r m hs _ (Frm.mac (S := w.heap.size) (c := c) (d := d) (s := s) (r := r) (o := o) (n := n) (by repeat' first | exact hF0 | exact hF1 | exact hF2 | refine Frm.alloc ?_ _ | refine Frm.drew ?_ | refine Frm.drewN ?_ _ | refine Frm.set ?_ _ _ ?_ ?_ | (intro hh; simp at hh; done) | (intro hh; simp at hh; omega)))).mono ?_; rintro e w1 ⟨rfl, hb1⟩; rw [HB.out]; simp only [Val.v]; have hF1 : Frm w.heap.size B c d s r o n m w1 := Frm.later (by repeat' first | exact hF0 | exact hF1 | exact hF2 | refine Frm.alloc ?_ _ | refine Frm.drew ?_ | refine Frm.drewN ?_ _ | refine Frm.set ?_ _ _ ?_ ?_ | (intro hh; simp at hh; done) | (intro hh; simp at hh; omega)) hb1; have hbw1 : Below w.heap.size w w1 := (by ((refine Below.trans ?_ (hb1.mono ?_)) <;> repeat' first | exact bF _ _ | exact hbw1 | exact hbw2 | refine bA ?_ ?_ _ | refine bS ?_ ?_ _ | refine bD ?_ | refine below_drewN ?_ _ | (simp; done) | (simp; omega) | omega)); obtain ⟨v0, v1, v2, v3, v4, v5⟩ := hF1.cells; obtain ⟨i0, i1, i2⟩ := hF1.mac.reg hd; rw [HA.out] at i0 i1 i2; have hS1 := hF1.ltS; have hB1 := hF1.mac.lt; have v6 := later_box hb1 (w.heap.size + 1); (try simp [go_sem] at v6); have v7 := later_box hb1 (w.heap.size + 1 + 1); (try simp [go_sem] at v7))))
    all_goals (go_wp2_with fail; go_meet)
    all_goals refine ⟨_, _, rfl, rfl, ?_, ?_, ?_, ?_, ?_, ?_, ?_, ?_, ?_, ?_⟩
    all_goals clear HA HB p0 p1 p2 p3 p4 p5 h0 h1 h2 hF0
    all_goals first
      | (with_reducible refine bA ?_ ?_ _; (repeat' first | with_reducible (first | exact hbw1 | refine bA ?_ ?_ _ | refine bS ?_ ?_ _) | ((try dsimp only); omega) | (simp; done) | (simp; omega)); done)
      | (with_reducible refine bS ?_ ?_ _; (repeat' first | with_reducible (first | exact hbw1 | refine bA ?_ ?_ _ | refine bS ?_ ?_ _) | ((try dsimp only); omega) | (simp; done) | (simp; omega)); done)
      | (with_reducible refine Frm.alloc ?_ _; (repeat' first | with_reducible (first | exact hF1 | refine Frm.alloc ?_ _ | refine Frm.set ?_ _ _ ?_ ?_) | ((try dsimp only); omega) | (simp; done) | (simp; omega)); done)
      | (with_reducible refine Frm.set ?_ _ _ ?_ ?_; (repeat' first | with_reducible (first | exact hF1 | refine Frm.alloc ?_ _ | refine Frm.set ?_ _ _ ?_ ?_) | ((try dsimp only); omega) | (simp; done) | (simp; omega)); done)
      | (simp; done) | (simp; omega) | (simp [go_sem]; done) | (simp [go_sem, v6]; done) | (simp [go_sem, v7]; done) | (simp [go_sem, *]; done)
  case rest =>
    obtain ⟨L, K, rfl, rfl, hbw, hFx, hL, hK, l0, l1, l2, g0, g1, g2⟩ := hcut
    obtain ⟨v0, v1, v2, v3, v4, v5⟩ := hFx.cells
    have hSx := hFx.ltS
    have hBx := hFx.mac.lt
    clear p0 p1 p2 p3 p4 p5 h0 h1 h2 hF0 HA HB hM
    go_wp2_with (first
      | (go_at_call 156; refine (reach_any ⟨ak, an, ac⟩ o _).mono ?_; rintro e w1 ⟨rfl, hb1⟩; rw [HR.out]; have hF1 : Frm w.heap.size B c d s r o n m w1 := hFx.later hb1; have hbw1 : Below w.heap.size w w1 := hbw.trans (hb1.mono hbw.size); have l0 := (hb1.cell (p := ⟨L, 0, none⟩) hL).trans l0; have l1 := (hb1.cell (p := ⟨L, 1, none⟩) hL).trans l1; have l2 := (hb1.cell (p := ⟨L, 2, none⟩) hL).trans l2; have g0 := (hb1.cell (p := ⟨K, 0, none⟩) hK).trans g0; have g1 := (hb1.cell (p := ⟨K, 1, none⟩) hK).trans g1; have g2 := (hb1.cell (p := ⟨K, 2, none⟩) hK).trans g2; have hL := Nat.lt_of_lt_of_le hL hb1.size; have hK := Nat.lt_of_lt_of_le hK hb1.size; have hB1 := hF1.mac.lt)
      | go_in)
    all_goals go_ret
    all_goals exact ⟨rfl, hbw1⟩
theorem store_cell (B d s t acn : Nat) (c o n : Int) (r : Bool) (m : Mac) (hd : d < 11) (hs : s < 11) (ak an bk bn bc : Int) (HA : Hid (m.reg d = ⟨ak, an, (acn : Int)⟩)) (HB : Hid (m.second s r n = ⟨bk, bn, bc⟩)) (HR : Hid (reachF ⟨ak, an, (acn : Int)⟩ o = (((t : Nat) : Int), 0))) (ht : t < 4) (hac : acn < 4) (hk : (ak == 2) = false) (hv : (bk == 0) = false) (hk3 : (ak == 3) = false) (hv1 : (bk != 1) = false) (w : World) (hM : MacAt w B m) :
    Calls Tryz.prog 119 #[.pointer (some ⟨B, 0, none⟩), .agg #[vI vK c, vI vK d, vI vK s, .bool r, vI vK o, vI vK n]] w fun e w' => e = .returned (vI vK 0) ∧ Kept B w w' ∧ MacAt w' B (m.putCel (acn * 4 + t) bn) := by
  have hB := hM.lt
  have hF0 : Frm w.heap.size B c d s r o n m _ := Frm.start hM
  obtain ⟨p0, p1, p2, p3, p4, p5⟩ := hF0.cells
  obtain ⟨h0, h1, h2⟩ := hF0.mac.reg hd
  rw [HA.out] at h0 h1 h2
  have hd0 : (0 : Int) ≤ (d : Int) := by omega
  have hd1 : (d : Int) < 11 := by omega
  have ht0 : (0 : Int) ≤ (t : Int) := by omega
  have ht1 : (t : Int) < 4 := by omega
  have hc0 : (0 : Int) ≤ (acn : Int) := by omega
  have hc1 : (acn : Int) < 4 := by omega
  have hct : acn * 4 + t < 16 := by omega
  go_enter Tryz.func119, Tryz.ntmps119
  go_wp2_with fail
  go_cut [5, 6] (fun s6 s7 wx => ∃ L K : Nat, s6 = .pointer (some ⟨L, 0, none⟩) ∧ s7 = .pointer (some ⟨K, 0, none⟩) ∧ Below w.heap.size w wx ∧ Frm w.heap.size B c d s r o n m wx ∧ L < wx.heap.size ∧ K < wx.heap.size ∧ wx.cell? ⟨L, 0, none⟩ = some (vI vK ak) ∧ wx.cell? ⟨L, 1, none⟩ = some (vI vK an) ∧ wx.cell? ⟨L, 2, none⟩ = some (vI vK (acn : Int)) ∧ wx.cell? ⟨K, 0, none⟩ = some (vI vK bk) ∧ wx.cell? ⟨K, 1, none⟩ = some (vI vK bn) ∧ wx.cell? ⟨K, 2, none⟩ = some (vI vK bc))
  case first =>
    go_region_held3 (fun w' => w'.cell? ⟨w.heap.size, 0, none⟩ = some (vI vK c) ∧ w'.cell? ⟨w.heap.size, 1, none⟩ = some (vI vK d) ∧ w'.cell? ⟨w.heap.size, 2, none⟩ = some (vI vK s) ∧ w'.cell? ⟨w.heap.size, 3, none⟩ = some (.bool r) ∧ w'.cell? ⟨w.heap.size, 4, none⟩ = some (vI vK o) ∧ w'.cell? ⟨w.heap.size, 5, none⟩ = some (vI vK n) ∧ w'.cell? ⟨B, 2 + d * 3, none⟩ = some (vI vK ak) ∧ w'.cell? ⟨B, 2 + d * 3 + 1, none⟩ = some (vI vK an) ∧ w'.cell? ⟨B, 2 + d * 3 + 2, none⟩ = some (vI vK (acn : Int))) (first | (simp [go_sem]; done) | (simp [go_sem, *]; done) | go_keep) (first
      | (go_at_call 154; go_must (refine (second_any B s c d o n r m hs _ (Frm.mac (S := w.heap.size) (c := c) (d := d) (s := s) (r := r) (o := o) (n := n) (by repeat' first | exact hF0 | exact hF1 | exact hF2 | refine Frm.alloc ?_ _ | refine Frm.drew ?_ | refine Frm.drewN ?_ _ | refine Frm.set ?_ _ _ ?_ ?_ | (intro hh; simp at hh; done) | (intro hh; simp at hh; omega)))).mono ?_; rintro e w1 ⟨rfl, hb1⟩; rw [HB.out]; simp only [Val.v]; have hF1 : Frm w.heap.size B c d s r o n m w1 := Frm.later (by repeat' first | exact hF0 | exact hF1 | exact hF2 | refine Frm.alloc ?_ _ | refine Frm.drew ?_ | refine Frm.drewN ?_ _ | refine Frm.set ?_ _ _ ?_ ?_ | (intro hh; simp at hh; done) | (intro hh; simp at hh; omega)) hb1; have hbw1 : Below w.heap.size w w1 := (by ((refine Below.trans ?_ (hb1.mono ?_)) <;> repeat' first | exact bF _ _ | exact hbw1 | exact hbw2 | refine bA ?_ ?_ _ | refine bS ?_ ?_ _ | refine bD ?_ | refine below_drewN ?_ _ | (simp; done) | (simp; omega) | omega)); obtain ⟨v0, v1, v2, v3, v4, v5⟩ := hF1.cells; obtain ⟨i0, i1, i2⟩ := hF1.mac.reg hd; rw [HA.out] at i0 i1 i2; have hS1 := hF1.ltS; have hB1 := hF1.mac.lt; have v6 := later_box hb1 (w.heap.size + 1); (try simp [go_sem] at v6); have v7 := later_box hb1 (w.heap.size + 1 + 1); (try simp [go_sem] at v7))))
    all_goals (go_wp2_with fail; go_meet)
    all_goals refine ⟨_, _, rfl, rfl, ?_, ?_, ?_, ?_, ?_, ?_, ?_, ?_, ?_, ?_⟩
    all_goals clear HA HB p0 p1 p2 p3 p4 p5 h0 h1 h2 hF0
    all_goals first
      | (with_reducible refine bA ?_ ?_ _; (repeat' first | with_reducible (first | exact hbw1 | refine bA ?_ ?_ _ | refine bS ?_ ?_ _) | ((try dsimp only); omega) | (simp; done) | (simp; omega)); done)
      | (with_reducible refine bS ?_ ?_ _; (repeat' first | with_reducible (first | exact hbw1 | refine bA ?_ ?_ _ | refine bS ?_ ?_ _) | ((try dsimp only); omega) | (simp; done) | (simp; omega)); done)
      | (with_reducible refine Frm.alloc ?_ _; (repeat' first | with_reducible (first | exact hF1 | refine Frm.alloc ?_ _ | refine Frm.set ?_ _ _ ?_ ?_) | ((try dsimp only); omega) | (simp; done) | (simp; omega)); done)
      | (with_reducible refine Frm.set ?_ _ _ ?_ ?_; (repeat' first | with_reducible (first | exact hF1 | refine Frm.alloc ?_ _ | refine Frm.set ?_ _ _ ?_ ?_) | ((try dsimp only); omega) | (simp; done) | (simp; omega)); done)
      | (simp; done) | (simp; omega) | (simp [go_sem]; done) | (simp [go_sem, v6]; done) | (simp [go_sem, v7]; done) | (simp [go_sem, *]; done)
  case rest =>
    obtain ⟨L, K, rfl, rfl, hbw, hFx, hL, hK, l0, l1, l2, g0, g1, g2⟩ := hcut
    obtain ⟨v0, v1, v2, v3, v4, v5⟩ := hFx.cells
    have hSx := hFx.ltS
    have hBx := hFx.mac.lt
    clear p0 p1 p2 p3 p4 p5 h0 h1 h2 hF0 HA HB hM
    go_wp2_with (first
      | (go_at_call 156; refine (reach_any ⟨ak, an, (acn : Int)⟩ o _).mono ?_; rintro e w1 ⟨rfl, hb1⟩; rw [HR.out]; have hF1 : Frm w.heap.size B c d s r o n m w1 := hFx.later hb1; have hbw1 : Below w.heap.size w w1 := hbw.trans (hb1.mono hbw.size); have l0 := (hb1.cell (p := ⟨L, 0, none⟩) hL).trans l0; have l1 := (hb1.cell (p := ⟨L, 1, none⟩) hL).trans l1; have l2 := (hb1.cell (p := ⟨L, 2, none⟩) hL).trans l2; have g0 := (hb1.cell (p := ⟨K, 0, none⟩) hK).trans g0; have g1 := (hb1.cell (p := ⟨K, 1, none⟩) hK).trans g1; have g2 := (hb1.cell (p := ⟨K, 2, none⟩) hK).trans g2; have hL := Nat.lt_of_lt_of_le hL hb1.size; have hK := Nat.lt_of_lt_of_le hK hb1.size; have hB1 := hF1.mac.lt; have i0 : w1.cell? ⟨B, 91 + acn * 4 + t, none⟩ = some (vI vK (m.cel (acn * 4 + t))) := (by rw [Nat.add_assoc]; exact hF1.mac.cel (d := acn * 4 + t) (by omega)); have f0 := hF1.mac.frozen (91 + acn * 4 + t))
      | go_in)
    all_goals go_region
    all_goals go_wp2
    all_goals go_ret
    all_goals have HK : Kept B w w1 := kept_below hbw1 B
    all_goals have HM := hF1.mac
    all_goals rw [Nat.add_assoc 91 (acn * 4) t]
    all_goals exact ⟨rfl, (by repeat' first | with_reducible (first | exact HK | refine kept_drew ?_ | refine kept_set ?_ _ _ | refine kept_new ?_ _ _ ?_ | refine kept_alloc ?_ _) | ((try dsimp only); omega)), (by repeat' first | with_reducible (first | exact HM | refine MacAt.drew ?_ | refine MacAt.put3 ?_ hd _ _ _ | refine MacAt.slot3 ?_ ht _ _ _ | refine MacAt.cel1 ?_ hct _ | refine MacAt.off ?_ _ _ ?_ | refine MacAt.alloc ?_ _) | ((try dsimp only); omega))⟩
def Mac.lose (m : Mac) : Mac := { m with reg := fun i => if 1 ≤ i ∧ i ≤ 5 then none0 else m.reg i }
theorem Mac.lose_put (m : Mac) : m.lose = ((((m.putReg 1 none0).putReg 2 none0).putReg 3 none0).putReg 4 none0).putReg 5 none0 := by
  unfold Mac.lose Mac.putReg
  congr 1
  funext i
  by_cases h : 1 ≤ i ∧ i ≤ 5
  · rw [if_pos h]
    rcases (show i = 1 ∨ i = 2 ∨ i = 3 ∨ i = 4 ∨ i = 5 by omega) with rfl | rfl | rfl | rfl | rfl <;> rfl
  · rw [if_neg h]
    show _ = if i = 5 then none0 else if i = 4 then none0 else if i = 3 then none0 else if i = 2 then none0 else if i = 1 then none0 else m.reg i
    rw [if_neg (by omega), if_neg (by omega), if_neg (by omega), if_neg (by omega), if_neg (by omega)]
theorem clear_run {w : World} {B : Nat} {m : Mac} (hM : MacAt w B m) : ∃ w', (Builtin.clear_ #[239] 0 #[.slice (some ⟨B, 5, none⟩) 5 10]).run Tryz.prog w = .ok (.tuple #[]) w' ∧ Kept B w w' ∧ MacAt w' B m.lose := by
  have hst := run_storeCells_cells (P := Tryz.prog) B 5 (List.replicate 15 (vI vK 0)) 0 w (by
    intro j hj
    rw [List.length_replicate] at hj
    rw [hM.at _ (by omega)]; rfl) (by intro j hj; exact hM.frozen _) (by intro v hv'; rw [List.eq_of_mem_replicate hv']; rfl)
  simp only [Nat.add_zero] at hst
  have hzc : (Builtin.zeroCells (Value.agg #[vI vK 0, vI vK 0, vI vK 0]).cells 5).toList = List.replicate 15 (vI vK 0) := by first | rfl | kernel_rfl | (simp [Builtin.zeroCells]; rfl)
  refine ⟨w.setCells B 5 (List.replicate 15 (vI vK 0)), ?_, ?_, ?_⟩
  · generalize List.replicate 15 (Value.int .i64 0) = zs at hst hzc ⊢
    simp [Builtin.clear_, run_underlying Tryz.underlying239, hzc, hst]
  · show Kept B w (((((((((((((((w.setCell ⟨B, 5, none⟩ _).setCell ⟨B, 6, none⟩ _).setCell ⟨B, 7, none⟩ _).setCell ⟨B, 8, none⟩ _).setCell ⟨B, 9, none⟩ _).setCell ⟨B, 10, none⟩ _).setCell ⟨B, 11, none⟩ _).setCell ⟨B, 12, none⟩ _).setCell ⟨B, 13, none⟩ _).setCell ⟨B, 14, none⟩ _).setCell ⟨B, 15, none⟩ _).setCell ⟨B, 16, none⟩ _).setCell ⟨B, 17, none⟩ _).setCell ⟨B, 18, none⟩ _).setCell ⟨B, 19, none⟩ _)
    repeat with_reducible refine kept_set ?_ _ _
    exact kept_refl B w
  · rw [m.lose_put]
    exact ((((hM.put3 (d := 1) (by decide) 0 0 0).put3 (d := 2) (by decide) 0 0 0).put3 (d := 3) (by decide) 0 0 0).put3 (d := 4) (by decide) 0 0 0).put3 (d := 5) (by decide) 0 0 0
theorem Tryz.infoI : (Tryz.prog.info? 2).map (fun i => (i.zero, i.size, i.bytes)) = some (some (vI vK 0), 1, 8) := by kernel_rfl
theorem cell_one {w : World} {x : Value} {e : TypeId} {b : Nat} (hb : b = w.heap.size) : ∀ (j : Nat) u, [x][j]? = some u → (w.alloc (.cells #[x] e)).cell? ((⟨b, 0, none⟩ : Addr).add j) = some u := by
  subst hb
  intro j u hj
  match j, hj with
  | 0, hj => simp at hj; subst hj; simp [Addr.add]
theorem OutAt.shape {w : World} {B : Nat} {v : Value} {L : List Int} (h : OutAt w B v L) : ∃ a cap, v = .slice a L.length cap := by
  rcases h.2 with ⟨hv, hn⟩ | ⟨g, cap, _, hv, _⟩
  · exact ⟨none, 0, by rw [hv, hn]⟩
  · exact ⟨some ⟨g, 0, none⟩, cap, hv⟩
theorem own_above {w : World} {B : Nat} {e : TypeId} {z : Nat} {v : Value} {n : Nat} {xs : List Value} (h : w.ownsRow (B + 1) e z v n xs) : some B ≠ v.ownBlock := by
  intro hh
  have := h.lt B hh.symm
  omega
def giveL (L : List Int) (n : Int) : List Int := if L.length < 50 then L ++ [n] else L
theorem give_any (B : Nat) (n : Int) (m : Mac) (L : List Int) (w : World) (hM : MacAt w B m) (hO : OutAt w B m.out L) :
    Calls Tryz.prog 159 #[.pointer (some ⟨B, 0, none⟩), vI vK n] w fun e w' => e = .returned (.tuple #[]) ∧ Below B w w' ∧ ∃ v', MacAt w' B (m.setOut v') ∧ OutAt w' B v' (giveL L n) := by
  have hB := hM.lt
  have h0 := hM.outv
  obtain ⟨a, cap, hv⟩ := hO.shape
  have hO' := hO
  rw [hv] at h0 hO'
  have HV : Hid (m.out = .slice a L.length cap) := hv
  have hg : giveL L n = if L.length < 50 then L ++ [n] else L := rfl
  by_cases hk : L.length < 50
  · rw [if_pos hk] at hg
    have HG : Hid (giveL L n = L ++ [n]) := hg
    have HO : Hid (w.ownsRow (B + 1) 2 1 (.slice a L.length cap) L.length (L.map (Value.int .i64))) := hO'
    have HL : Hid (L.length < 50) := hk
    have hk0 : decide ((L.length : Int) < 50) = true := by simp; omega
    clear hv hg hO' hO hk
    obtain ⟨i0, hi, hz0, hz1, hz2⟩ := info_parts Tryz.infoI
    generalize HN : L.length = k at h0 hk0
    have HN' : Hid (L.length = k) := HN
    clear HN
    go_enter Tryz.func159, Tryz.ntmps159
    go_wp2_with (at_builtin; refine wpList_append_own _ rfl (.tmp 14) (.tmp 16) 57 rfl (B + 1) 2 i0 (vI vK 0) 1 8 Tryz.underlying57 hi hz0 hz1 hz2 rfl (by decide) (.slice a k cap) k (L.map (Value.int .i64)) rfl (by have := HO.out; rw [HN'.out] at this; exact this.alloc _) ⟨w.heap.size, 0, none⟩ 1 1 [vI vK n] rfl rfl (cell_one rfl) (by intro u hu; simp at hu; subst hu; rfl) (by have := HL.out; have := HN'.out; unfold maxLen; omega) (by have := HL.out; have := HN'.out; omega) (by simp; omega) ?_; intro v5 w5 hown5 hgrow5 _; have hM5 : MacAt w5 B m := (hgrow5.block B (by simp; omega) (by have := HO.out; rw [HN'.out] at this; exact own_above this)).trans (hM.alloc _); have hB5 := hM5.lt; have k0 := hM5.outv; have f0 := hM5.frozen 108; obtain ⟨g5, cp5, hv5⟩ : ∃ g5 cp5, v5 = .slice (some ⟨g5, 0, none⟩) (k + 1) cp5 := (by rcases hown5.2 with ⟨_, h⟩ | ⟨g, cap', _, h, _⟩; (omega); (exact ⟨g, cap', h⟩)); subst hv5)
    go_end0
    refine ⟨rfl, ?_, .slice (some ⟨g5, 0, none⟩) (k + 1) cp5, hM5.putOut _, ?_⟩
    · have hr : B ≤ (⟨B, 108, none⟩ : Addr).block := Nat.le_refl _
      refine bS ?_ hr _
      exact ((bF _ _).alloc (by omega) _).grown hgrow5 (by simp; omega) (fun j hj => by
        have := HO.out
        rw [HN'.out] at this
        have := this.lt j hj
        omega)
    · rw [HG.out]
      unfold OutAt
      rw [List.length_append, HN'.out, List.map_append]
      exact ownsRow_setCell_below hown5 (Nat.lt_succ_self B) _
  · rw [if_neg hk] at hg
    have hk0 : decide ((L.length : Int) < 50) = false := by simp; omega
    have HG : Hid (giveL L n = L) := hg
    have HO : Hid (OutAt w B m.out L) := hO
    clear hv hg hO' hO hk
    go_enter Tryz.func159, Tryz.ntmps159
    go_wp2
    go_end0
    exact ⟨rfl, bF _ _, m.out, hM, by rw [HG.out]; exact HO.out⟩
theorem MacAt.put0 {w : World} {B : Nat} {m : Mac} (h : MacAt w B m) (k n c : Int) : MacAt (((w.setCell ⟨B, 2, none⟩ (vI vK k)).setCell ⟨B, 3, none⟩ (vI vK n)).setCell ⟨B, 4, none⟩ (vI vK c)) B (m.putReg 0 ⟨k, n, c⟩) := h.put3 (d := 0) (by decide) k n c
theorem call_no1 (B : Nat) (m : Mac) (fk fn fc : Int) (HA : Hid (m.reg 1 = ⟨fk, fn, fc⟩)) (E : Int) (HW : Hid (wantF ⟨fk, fn, fc⟩ = E)) (hE : (E != 0) = true) (w : World) (hM : MacAt w B m) :
    Calls Tryz.prog 120 #[.pointer (some ⟨B, 0, none⟩), vI vK 1] w fun e w' => e = .returned (vI vK E) ∧ Below w.heap.size w w' := by
  have hB := hM.lt
  obtain ⟨h0, h1, h2⟩ := hM.reg (d := 1) (by decide)
  simp only [Nat.reduceMul, Nat.reduceAdd] at h0 h1 h2
  rw [HA.out] at h0 h1 h2
  go_enter Tryz.func120, Tryz.ntmps120
  go_wp2_with (first
    | (go_at_call 76; refine (want_any fk fn fc _).mono ?_; rintro e w1 ⟨rfl, hb1⟩; rw [HW.out]; have hM1 : MacAt w1 B m := (hM.alloc _).later hb1; have hB1 := hM1.lt; have v6 := later_box hb1 w.heap.size (by simp); have hS1 := v6.2.2; have hbw : Below w.heap.size w w1 := below_zero hb1; have u1 : w1.cell? ⟨w.heap.size, 1, none⟩ = some (vI vK fn) := (by rw [v6.1]; simp [go_sem]))
    | go_in)
  go_ret
  exact ⟨rfl, hbw⟩
theorem call_no3 (B : Nat) (m : Mac) (fk fn fc : Int) (HA : Hid (m.reg 1 = ⟨fk, fn, fc⟩)) (E : Int) (HW : Hid (wantF ⟨fk, fn, fc⟩ = E)) (hE : (E != 0) = true) (w : World) (hM : MacAt w B m) :
    Calls Tryz.prog 120 #[.pointer (some ⟨B, 0, none⟩), vI vK 3] w fun e w' => e = .returned (vI vK E) ∧ Below w.heap.size w w' := by
  have hB := hM.lt
  obtain ⟨h0, h1, h2⟩ := hM.reg (d := 1) (by decide)
  simp only [Nat.reduceMul, Nat.reduceAdd] at h0 h1 h2
  rw [HA.out] at h0 h1 h2
  go_enter Tryz.func120, Tryz.ntmps120
  go_wp2_with (first
    | (go_at_call 76; refine (want_any fk fn fc _).mono ?_; rintro e w1 ⟨rfl, hb1⟩; rw [HW.out]; have hM1 : MacAt w1 B m := (hM.alloc _).later hb1; have hB1 := hM1.lt; have v6 := later_box hb1 w.heap.size (by simp); have hS1 := v6.2.2; have hbw : Below w.heap.size w w1 := below_zero hb1; have u1 : w1.cell? ⟨w.heap.size, 1, none⟩ = some (vI vK fn) := (by rw [v6.1]; simp [go_sem]))
    | go_in)
  go_ret
  exact ⟨rfl, hbw⟩
theorem call_find (B : Nat) (m : Mac) (fk fn fc : Int) (HA : Hid (m.reg 1 = ⟨fk, fn, fc⟩)) (HW : Hid (wantF ⟨fk, fn, fc⟩ = 0)) (rk rn rc : Int) (HF : Hid (foundF fn = ⟨rk, rn, rc⟩)) (w : World) (hM : MacAt w B m) :
    Calls Tryz.prog 120 #[.pointer (some ⟨B, 0, none⟩), vI vK 1] w fun e w' => e = .returned (vI vK 0) ∧ Kept B w w' ∧ MacAt w' B (m.lose.putReg 0 ⟨rk, rn, rc⟩) := by
  have hB := hM.lt
  obtain ⟨h0, h1, h2⟩ := hM.reg (d := 1) (by decide)
  simp only [Nat.reduceMul, Nat.reduceAdd] at h0 h1 h2
  rw [HA.out] at h0 h1 h2
  go_enter Tryz.func120, Tryz.ntmps120
  go_wp2_with (first
    | (go_at_call 76; refine (want_any fk fn fc _).mono ?_; rintro e w1 ⟨rfl, hb1⟩; rw [HW.out]; have hM1 : MacAt w1 B m := (hM.alloc _).later hb1; have hB1 := hM1.lt; have v6 := later_box hb1 w.heap.size (by simp); have hS1 := v6.2.2; have hbw : Below w.heap.size w w1 := below_zero hb1; have u1 : w1.cell? ⟨w.heap.size, 1, none⟩ = some (vI vK fn) := (by rw [v6.1]; simp [go_sem]))
    | go_in)
  obtain ⟨wc, hc, hkc, hmc⟩ := clear_run hM1
  rw [hc]
  clear hc
  have u2 : wc.cell? ⟨w.heap.size, 1, none⟩ = some (vI vK fn) := (World.cell?_of_block (a := ⟨w.heap.size, 1, none⟩) (hkc.block w.heap.size hS1 (by intro h; injection h with h; omega))).trans u1
  have hBc := hmc.lt
  have hSc : w.heap.size < wc.heap.size := Nat.lt_of_lt_of_le hS1 hkc.size
  go_wp2_with fail
  go_region_held3 (fun w' => w'.cell? ⟨w.heap.size, 1, none⟩ = some (vI vK fn)) (first | (simp [go_sem]; done) | (simp [go_sem, *]; done) | go_keep) (first
    | (go_at_call 158; go_must (refine (found_any fn _).mono ?_; rintro e w3 ⟨rfl, hb3⟩; have hb3 := drew_below hb3; have hM3 := hmc.later hb3; have hB3 := hM3.lt; obtain ⟨i0, i1, i2⟩ := hM3.reg (d := 0) (by decide); simp only [Nat.reduceMul, Nat.reduceAdd] at i0 i1 i2; have f0 := hM3.frozen 2; have f1 := hM3.frozen 3; have f2 := hM3.frozen 4; have y0 : w3.cell? ⟨w.heap.size, 1, none⟩ = some (vI vK fn) := (hb3.cell (p := ⟨w.heap.size, 1, none⟩) hSc).trans u2; rw [HF.out]; simp only [Val.v])))
  all_goals have HK : Kept B w w3 := kept_later (kept_trans (kept_below hbw B) hkc) hb3
  all_goals go_wp2
  all_goals go_ret
  all_goals have HM := hM3
  all_goals exact ⟨rfl, (by repeat' first | with_reducible (first | exact HK | refine kept_drew ?_ | refine kept_set ?_ _ _ | refine kept_new ?_ _ _ ?_ | refine kept_alloc ?_ _) | ((try dsimp only); omega)), (by repeat' first | with_reducible (first | exact HM | refine MacAt.drew ?_ | refine MacAt.put0 ?_ _ _ _ | refine MacAt.off ?_ _ _ ?_ | refine MacAt.alloc ?_ _) | ((try dsimp only); omega))⟩
theorem call_time (B : Nat) (m : Mac) (fk fn fc : Int) (HA : Hid (m.reg 1 = ⟨fk, fn, fc⟩)) (w : World) (hM : MacAt w B m) :
    Calls Tryz.prog 120 #[.pointer (some ⟨B, 0, none⟩), vI vK 2] w fun e w' => e = .returned (vI vK 0) ∧ Kept B w w' ∧ MacAt w' B (m.lose.putReg 0 ⟨1, m.time, 0⟩) := by
  have hB := hM.lt
  obtain ⟨h0, h1, h2⟩ := hM.reg (d := 1) (by decide)
  simp only [Nat.reduceMul, Nat.reduceAdd] at h0 h1 h2
  rw [HA.out] at h0 h1 h2
  go_enter Tryz.func120, Tryz.ntmps120
  go_wp2_with fail
  have hM1 := hM.alloc (.cells #[vI vK fk, vI vK fn, vI vK fc] 104)
  have hS1 : w.heap.size < (w.alloc (.cells #[vI vK fk, vI vK fn, vI vK fc] 104)).heap.size := by simp
  obtain ⟨wc, hc, hkc, hmc⟩ := clear_run hM1
  rw [hc]
  clear hc
  have hBc := hmc.lt
  have t0 : wc.cell? ⟨B, 107, none⟩ = some (vI vK m.time) := hmc.time
  go_wp2_with fail
  go_region_held3 (fun w' => w'.cell? ⟨B, 107, none⟩ = some (vI vK m.time)) (first | (simp [go_sem]; done) | (simp [go_sem, *]; done) | go_keep) (first
    | (go_at_call 157; go_must (refine (mnum_any m.time _).mono ?_; rintro e w3 ⟨rfl, hb3⟩; have hb3 := drew_below hb3; have hM3 := hmc.later hb3; have hB3 := hM3.lt; obtain ⟨i0, i1, i2⟩ := hM3.reg (d := 0) (by decide); simp only [Nat.reduceMul, Nat.reduceAdd] at i0 i1 i2; have f0 := hM3.frozen 2; have f1 := hM3.frozen 3; have f2 := hM3.frozen 4; have y0 : w3.cell? ⟨B, 107, none⟩ = some (vI vK m.time) := hM3.time; simp only [Val.v, numF])))
  all_goals have HK : Kept B w w3 := kept_later (kept_trans (kept_alloc (kept_refl B w) _) hkc) hb3
  all_goals go_wp2
  all_goals go_ret
  all_goals have HM := hM3
  all_goals exact ⟨rfl, (by repeat' first | with_reducible (first | exact HK | refine kept_drew ?_ | refine kept_set ?_ _ _ | refine kept_new ?_ _ _ ?_ | refine kept_alloc ?_ _) | ((try dsimp only); omega)), (by repeat' first | with_reducible (first | exact HM | refine MacAt.drew ?_ | refine MacAt.put0 ?_ _ _ _ | refine MacAt.off ?_ _ _ ?_ | refine MacAt.alloc ?_ _) | ((try dsimp only); omega))⟩
theorem call_emit (B : Nat) (m : Mac) (fk fn fc : Int) (HA : Hid (m.reg 1 = ⟨fk, fn, fc⟩)) (L : List Int) (HW : Hid (wantF ⟨fk, fn, fc⟩ = 0)) (w : World) (hM : MacAt w B m) (hO : OutAt w B m.out L) :
    Calls Tryz.prog 120 #[.pointer (some ⟨B, 0, none⟩), vI vK 3] w fun e w' => e = .returned (vI vK 0) ∧ Below B w w' ∧ ∃ v', MacAt w' B ((m.lose.setOut v').putReg 0 ⟨1, 0, 0⟩) ∧ OutAt w' B v' (giveL L fn) := by
  have hB := hM.lt
  obtain ⟨h0, h1, h2⟩ := hM.reg (d := 1) (by decide)
  simp only [Nat.reduceMul, Nat.reduceAdd] at h0 h1 h2
  rw [HA.out] at h0 h1 h2
  have HO : Hid (OutAt w B m.out L) := hO
  clear hO
  go_enter Tryz.func120, Tryz.ntmps120
  go_wp2_with (first
    | (go_at_call 76; refine (want_any fk fn fc _).mono ?_; rintro e w1 ⟨rfl, hb1⟩; rw [HW.out]; have hM1 : MacAt w1 B m := (hM.alloc _).later hb1; have hB1 := hM1.lt; have v6 := later_box hb1 w.heap.size (by simp); have hS1 := v6.2.2; have hbw : Below w.heap.size w w1 := below_zero hb1; have u1 : w1.cell? ⟨w.heap.size, 1, none⟩ = some (vI vK fn) := (by rw [v6.1]; simp [go_sem]))
    | go_in)
  obtain ⟨wc, hc, hkc, hmc⟩ := clear_run hM1
  rw [hc]
  clear hc
  have u2 : wc.cell? ⟨w.heap.size, 1, none⟩ = some (vI vK fn) := (World.cell?_of_block (a := ⟨w.heap.size, 1, none⟩) (hkc.block w.heap.size hS1 (by intro h; injection h with h; omega))).trans u1
  have hBc := hmc.lt
  have hSc : w.heap.size < wc.heap.size := Nat.lt_of_lt_of_le hS1 hkc.size
  go_wp2_with fail
  go_wp2_with (first
    | (go_at_call 159; refine (give_any B fn m.lose L _ hmc (OutAt.kept (OutAt.kept HO.out (kept_below hbw B)) hkc)).mono ?_; rintro e w4 ⟨rfl, hb4, v4, hM4, hO4⟩; have HO4 : Hid (OutAt w4 B v4 (giveL L fn)) := hO4; clear hO4; have hB4 := hM4.lt; have t0 : w4.cell? ⟨B, 107, none⟩ = some (vI vK m.time) := hM4.time)
    | fail)
  go_region_held3 (fun w' => w'.cell? ⟨B, 107, none⟩ = some (vI vK m.time)) (first | (simp [go_sem]; done) | (simp [go_sem, *]; done) | go_keep) (first
    | (go_at_call 157; go_must (refine (mnum_any 0 _).mono ?_; rintro e w3 ⟨rfl, hb3⟩; have hb3 := drew_below hb3; have hM3 := hM4.later hb3; have hB3 := hM3.lt; obtain ⟨i0, i1, i2⟩ := hM3.reg (d := 0) (by decide); simp only [Nat.reduceMul, Nat.reduceAdd] at i0 i1 i2; have f0 := hM3.frozen 2; have f1 := hM3.frozen 3; have f2 := hM3.frozen 4; have y0 : w3.cell? ⟨B, 107, none⟩ = some (vI vK m.time) := hM3.time; simp only [Val.v, numF])))
  all_goals go_wp2
  all_goals go_ret
  all_goals have HK : Kept B w4 w3 := kept_below hb3 B
  all_goals have HM := hM3
  all_goals exact ⟨rfl, ((hbw.mono (by omega)).trans (kept_under hkc hB1)).trans (hb4.trans (kept_under (by repeat' first | with_reducible (first | exact HK | refine kept_drew ?_ | refine kept_set ?_ _ _ | refine kept_new ?_ _ _ ?_ | refine kept_alloc ?_ _) | ((try dsimp only); omega)) hB4)), v4, (by repeat' first | with_reducible (first | exact HM | refine MacAt.drew ?_ | refine MacAt.put0 ?_ _ _ _ | refine MacAt.off ?_ _ _ ?_ | refine MacAt.alloc ?_ _) | ((try dsimp only); omega)), OutAt.kept HO4.out (by repeat' first | with_reducible (first | exact HK | refine kept_drew ?_ | refine kept_set ?_ _ _ | refine kept_new ?_ _ _ ?_ | refine kept_alloc ?_ _) | ((try dsimp only); omega))⟩
end Go.Proofs.YtednmkhdehlojaaGreatDoor
namespace Go.Proofs.YtednmkhdehlojaaGreatDoor
open Go.ChangeShapes Go.WideShapes Go.ChangeAt Go.RowKit
section
variable {a : Abs} {p v : Val} {o t : Int} {E : Int} {d : Nat}
theorem loadF_no (h : reachF p o = (t, E)) (hE : E ≠ 0) : loadF a d p o = (E, a) := by unfold loadF; rw [h]; exact if_pos hE
theorem loadF_at (h : reachF p o = (t, 0)) : loadF a d p o = if (a.at p t.toNat).k = 0 then (8, a) else (0, a.putReg d (a.at p t.toNat)) := by
  unfold loadF; rw [h]; exact if_neg (by simp)
theorem loadF_told (h : reachF p o = (t, 0)) (hk : p.k = 2) : loadF a d p o = (0, a.putReg d ⟨1, a.word t.toNat, 0⟩) := by
  have e : a.at p t.toNat = ⟨1, a.word t.toNat, 0⟩ := if_pos hk
  rw [loadF_at h, e]; exact if_neg (show ¬ (1 : Int) = 0 by decide)
theorem loadF_slot (h : reachF p o = (t, 0)) (hk : p.k = 3) (hn : (a.slot t.toNat).k ≠ 0) : loadF a d p o = (0, a.putReg d (a.slot t.toNat)) := by
  have e : a.at p t.toNat = a.slot t.toNat := by unfold Abs.at; rw [if_neg (by omega), if_pos hk]
  rw [loadF_at h, e]; exact if_neg hn
theorem loadF_empty (h : reachF p o = (t, 0)) (hk : p.k = 3) (hn : (a.slot t.toNat).k = 0) : loadF a d p o = (8, a) := by
  have e : a.at p t.toNat = a.slot t.toNat := by unfold Abs.at; rw [if_neg (by omega), if_pos hk]
  rw [loadF_at h, e]; exact if_pos hn
theorem loadF_cell (h : reachF p o = (t, 0)) (hk : p.k = 4) : loadF a d p o = (0, a.putReg d ⟨1, a.cel (p.c.toNat * 4 + t.toNat), 0⟩) := by
  have e : a.at p t.toNat = ⟨1, a.cel (p.c.toNat * 4 + t.toNat), 0⟩ := by unfold Abs.at; rw [if_neg (by omega), if_neg (by omega)]; rfl
  rw [loadF_at h, e]; exact if_neg (show ¬ (1 : Int) = 0 by decide)
theorem storeF_no (h : reachF p o = (t, E)) (hE : E ≠ 0) : storeF a p v o = (E, a) := by unfold storeF; rw [h]; exact if_pos hE
theorem storeF_at (h : reachF p o = (t, 0)) : storeF a p v o = if p.k = 2 then (6, a) else if v.k = 0 then (8, a) else if p.k = 3 then (0, a.putSlot t.toNat v) else if v.k ≠ 1 then (1, a) else (0, a.putCel (p.c.toNat * 4 + t.toNat) v.n) := by
  unfold storeF; rw [h]; exact if_neg (by simp)
end
def Res (B : Nat) (w w' : World) (m : Mac) (E : Int) (a : Abs) : Prop :=
  Below B w w' ∧ ∃ m' L', MacAt w' B m' ∧ OutAt w' B m'.out L' ∧ m'.step = m.step ∧ m'.steps = m.steps ∧ (E = 0 → m'.abs L' = a)
theorem Res.of_kept {B : Nat} {w w' : World} {m m' : Mac} {L : List Int} {E : Int} {a : Abs} (hM : MacAt w B m) (hO : OutAt w B m.out L) (hk : Kept B w w') (hm : MacAt w' B m') (ho : m'.out = m.out) (h1 : m'.step = m.step) (h2 : m'.steps = m.steps) (ha : E = 0 → m'.abs L = a) : Res B w w' m E a :=
  ⟨kept_under hk hM.lt, m', L, hm, by rw [ho]; exact hO.kept hk, h1, h2, ha⟩
theorem Res.of_below {B : Nat} {w w' : World} {m : Mac} {L : List Int} {E : Int} {a : Abs} (hM : MacAt w B m) (hO : OutAt w B m.out L) (hb : Below w.heap.size w w') (ha : E = 0 → m.abs L = a) : Res B w w' m E a :=
  Res.of_kept hM hO (kept_below hb B) (hM.later hb) rfl rfl rfl ha
section
variable {B d s : Nat} {c o n : Int} {r : Bool} {m : Mac} {L : List Int} {w : World}
theorem ask_all (hd : d < 11) (hs : s < 11) (hM : MacAt w B m) :
    Calls Tryz.prog 117 #[.pointer (some ⟨B, 0, none⟩), .agg #[vI vK c, vI vK d, vI vK s, .bool r, vI vK o, vI vK n]] w fun e w' => e = .returned (.tuple #[vI vK (askF c (m.reg d) (m.second s r n) r o n).1, vI vK (askF c (m.reg d) (m.second s r n) r o n).2]) ∧ Below w.heap.size w w' := by
  rcases h1 : m.reg d with ⟨ak, an, ac⟩
  rcases h2 : m.second s r n with ⟨bk, bn, bc⟩
  exact ask_any B d s c o n r m hd hs ak an ac bk bn bc h1 h2 w hM
theorem load_all (hd : d < 11) (hs : s < 11) (hM : MacAt w B m) (hO : OutAt w B m.out L) (hok : (m.abs L).Ok) :
    Calls Tryz.prog 118 #[.pointer (some ⟨B, 0, none⟩), .agg #[vI vK c, vI vK d, vI vK s, .bool r, vI vK o, vI vK n]] w fun e w' => e = .returned (vI vK (loadF (m.abs L) d (m.reg s) o).1) ∧ Res B w w' m (loadF (m.abs L) d (m.reg s) o).1 (loadF (m.abs L) d (m.reg s) o).2 := by
  have hp : (m.reg s).Ok := hok.reg s hs
  rcases h1 : m.reg s with ⟨fk, fn, fc⟩
  rw [h1] at hp
  have k0 : 0 ≤ fk := hp.k0
  have k4 : fk ≤ 4 := hp.k4
  rcases h2 : reachF ⟨fk, fn, fc⟩ o with ⟨t, E⟩
  by_cases hE : E = 0
  · subst hE
    have hr : (reachF ⟨fk, fn, fc⟩ o).2 = 0 := by rw [h2]
    have hb := reach_bd hr
    have hi : 2 ≤ fk ∨ fk < 0 := reach_in hr
    rw [h2] at hb
    obtain ⟨j, rfl⟩ := Int.eq_ofNat_of_zero_le hb.1
    have hj := hb.2
    unfold reachMax at hj
    by_cases hk2 : fk = 2
    · rw [if_pos hk2] at hj
      rw [loadF_told h2 hk2]
      exact (load_told B d s j c o n r m hd hs fk fn fc h1 (by show j < 8; omega) h2 (by simpa using hk2) w hM).mono fun e w' ⟨he, hk, hm⟩ => ⟨he, Res.of_kept hM hO hk hm rfl rfl rfl fun _ => rfl⟩
    rw [if_neg hk2] at hj
    by_cases hk3 : fk = 3
    · rw [if_pos hk3] at hj
      rcases h3 : m.slot j with ⟨sk, sn, sc⟩
      by_cases hsk : sk = 0
      · rw [loadF_empty h2 hk3 (by show (m.slot j).k = 0; rw [h3]; exact hsk)]
        exact (load_empty B d s j c o n r m hd hs fk fn fc h1 (by show j < 16; omega) h2 (by simpa using hk2) (by simpa using hk3) sk sn sc h3 (by simpa using hsk) w hM).mono fun e w' ⟨he, hb⟩ => ⟨he, Res.of_below hM hO hb fun h => absurd h (by simp)⟩
      · rw [loadF_slot h2 hk3 (by show (m.slot j).k ≠ 0; rw [h3]; exact hsk)]
        exact (load_slot B d s j c o n r m hd hs fk fn fc h1 (by show j < 16; omega) h2 (by simpa using hk2) (by simpa using hk3) sk sn sc h3 (by simpa using hsk) w hM).mono fun e w' ⟨he, hk, hm⟩ => ⟨he, Res.of_kept hM hO hk hm rfl rfl rfl fun _ => by show _ = (m.abs L).putReg d (m.slot j); rw [h3]; rfl⟩
    rw [if_neg hk3] at hj
    have hk4 : fk = 4 := by omega
    obtain ⟨q, hq⟩ := Int.eq_ofNat_of_zero_le hp.c0
    have hq' : fc = (q : Int) := hq
    subst hq'
    have hq3 : (q : Int) ≤ 3 := hp.c3
    rw [loadF_cell h2 hk4]
    exact (load_cell B d s j q c o n r m hd hs fk fn h1 (by omega) (by show j < 4; omega) h2 (by simpa using hk2) (by simpa using hk3) (by simpa using hk4) w hM).mono fun e w' ⟨he, hk, hm⟩ => ⟨he, Res.of_kept hM hO hk hm rfl rfl rfl fun _ => rfl⟩
  · rw [loadF_no h2 hE]
    exact (load_no B d s c o n r m hd hs fk fn fc h1 t E h2 (by simpa using hE) w hM).mono fun e w' ⟨he, hb⟩ => ⟨he, Res.of_below hM hO hb fun h => absurd h hE⟩
theorem store_all (hd : d < 11) (hs : s < 11) (hM : MacAt w B m) (hO : OutAt w B m.out L) (hok : (m.abs L).Ok) :
    Calls Tryz.prog 119 #[.pointer (some ⟨B, 0, none⟩), .agg #[vI vK c, vI vK d, vI vK s, .bool r, vI vK o, vI vK n]] w fun e w' => e = .returned (vI vK (storeF (m.abs L) (m.reg d) (m.second s r n) o).1) ∧ Res B w w' m (storeF (m.abs L) (m.reg d) (m.second s r n) o).1 (storeF (m.abs L) (m.reg d) (m.second s r n) o).2 := by
  have hp : (m.reg d).Ok := hok.reg d hd
  rcases h1 : m.reg d with ⟨fk, fn, fc⟩
  rcases hv : m.second s r n with ⟨bk, bn, bc⟩
  rw [h1] at hp
  have k0 : 0 ≤ fk := hp.k0
  have k4 : fk ≤ 4 := hp.k4
  rcases h2 : reachF ⟨fk, fn, fc⟩ o with ⟨t, E⟩
  by_cases hE : E = 0
  · subst hE
    have hr : (reachF ⟨fk, fn, fc⟩ o).2 = 0 := by rw [h2]
    have hb := reach_bd hr
    have hi : 2 ≤ fk ∨ fk < 0 := reach_in hr
    rw [h2] at hb
    obtain ⟨j, rfl⟩ := Int.eq_ofNat_of_zero_le hb.1
    have hj := hb.2
    unfold reachMax at hj
    rw [storeF_at h2]
    by_cases hk2 : fk = 2
    · rw [if_pos hk2]
      exact (store_told B d s j c o n r m hd hs fk fn fc bk bn bc h1 hv h2 (by simpa using hk2) w hM).mono fun e w' ⟨he, hb⟩ => ⟨he, Res.of_below hM hO hb fun h => absurd h (by simp)⟩
    rw [if_neg hk2] at hj ⊢
    by_cases hb0 : bk = 0
    · rw [if_pos hb0]
      exact (store_none B d s j c o n r m hd hs fk fn fc bk bn bc h1 hv h2 (by simpa using hk2) (by simpa using hb0) w hM).mono fun e w' ⟨he, hb⟩ => ⟨he, Res.of_below hM hO hb fun h => absurd h (by simp)⟩
    rw [if_neg hb0]
    by_cases hk3 : fk = 3
    · rw [if_pos hk3] at hj ⊢
      exact (store_slot B d s j c o n r m hd hs fk fn fc bk bn bc h1 hv h2 (by show j < 16; omega) (by simpa using hk2) (by simpa using hb0) (by simpa using hk3) w hM).mono fun e w' ⟨he, hk, hm⟩ => ⟨he, Res.of_kept hM hO hk hm rfl rfl rfl fun _ => rfl⟩
    rw [if_neg hk3] at hj ⊢
    by_cases hb1 : bk = 1
    · rw [if_neg (by simpa using hb1)]
      obtain ⟨q, hq⟩ := Int.eq_ofNat_of_zero_le hp.c0
      have hq' : fc = (q : Int) := hq
      subst hq'
      have hq3 : (q : Int) ≤ 3 := hp.c3
      exact (store_cell B d s j q c o n r m hd hs fk fn bk bn bc h1 hv h2 (by show j < 4; omega) (by omega) (by simpa using hk2) (by simpa using hb0) (by simpa using hk3) (by simpa using hb1) w hM).mono fun e w' ⟨he, hk, hm⟩ => ⟨he, Res.of_kept hM hO hk hm rfl rfl rfl fun _ => rfl⟩
    · rw [if_pos hb1]
      exact (store_arg B d s j c o n r m hd hs fk fn fc bk bn bc h1 hv h2 (by simpa using hk2) (by simpa using hb0) (by simpa using hk3) (by simpa using hb1) w hM).mono fun e w' ⟨he, hb⟩ => ⟨he, Res.of_below hM hO hb fun h => absurd h (by simp)⟩
  · rw [storeF_no h2 hE]
    exact (store_no B d s c o n r m hd hs fk fn fc bk bn bc h1 hv t E h2 (by simpa using hE) w hM).mono fun e w' ⟨he, hb⟩ => ⟨he, Res.of_below hM hO hb fun h => absurd h hE⟩
theorem call_all (hn : n = 1 ∨ n = 2 ∨ n = 3) (hM : MacAt w B m) (hO : OutAt w B m.out L) :
    Calls Tryz.prog 120 #[.pointer (some ⟨B, 0, none⟩), vI vK n] w fun e w' => e = .returned (vI vK (callF (m.abs L) n).1) ∧ Res B w w' m (callF (m.abs L) n).1 (callF (m.abs L) n).2 := by
  rcases h1 : m.reg 1 with ⟨fk, fn, fc⟩
  have h1' : (m.abs L).reg 1 = ⟨fk, fn, fc⟩ := h1
  unfold callF
  rw [h1']
  rcases hn with rfl | rfl | rfl
  · by_cases hw : wantF ⟨fk, fn, fc⟩ = 0
    · rw [if_neg (by simp [hw]), if_pos rfl]
      rcases hf : foundF fn with ⟨rk, rn, rc⟩
      exact (call_find B m fk fn fc h1 hw rk rn rc hf w hM).mono fun e w' ⟨he, hk, hm⟩ => ⟨he, Res.of_kept hM hO hk hm rfl rfl rfl fun _ => rfl⟩
    · rw [if_pos ⟨by decide, hw⟩]
      exact (call_no1 B m fk fn fc h1 _ rfl (by simpa using hw) w hM).mono fun e w' ⟨he, hb⟩ => ⟨he, Res.of_below hM hO hb fun h => absurd h hw⟩
  · rw [if_neg (by simp), if_neg (by decide), if_pos rfl]
    exact (call_time B m fk fn fc h1 w hM).mono fun e w' ⟨he, hk, hm⟩ => ⟨he, Res.of_kept hM hO hk hm rfl rfl rfl fun _ => rfl⟩
  · by_cases hw : wantF ⟨fk, fn, fc⟩ = 0
    · rw [if_neg (by simp [hw]), if_neg (by decide), if_neg (by decide)]
      exact (call_emit B m fk fn fc h1 L hw w hM hO).mono fun e w' ⟨he, hb, v', hm, ho⟩ => ⟨he, hb, _, _, hm, ho, rfl, rfl, fun _ => rfl⟩
    · rw [if_pos ⟨by decide, hw⟩]
      exact (call_no3 B m fk fn fc h1 _ rfl (by simpa using hw) w hM).mono fun e w' ⟨he, hb⟩ => ⟨he, Res.of_below hM hO hb fun h => absurd h hw⟩
theorem change_all (hd : d < 11) (hs : s < 11) (hn : In64 n) (hM : MacAt w B m) (hO : OutAt w B m.out L) (hok : (m.abs L).Ok) :
    Calls Tryz.prog 121 #[.pointer (some ⟨B, 0, none⟩), .agg #[vI vK c, vI vK d, vI vK s, .bool r, vI vK o, vI vK n]] w fun e w' => e = .returned (vI vK (makesF c (m.reg d) (m.second s r n)).2) ∧ Res B w w' m (makesF c (m.reg d) (m.second s r n)).2 ((m.abs L).putReg d (makesF c (m.reg d) (m.second s r n)).1) := by
  have h2 : (m.second s r n).Ok := hok.second hs r hn
  rcases hm : makesF c (m.reg d) (m.second s r n) with ⟨⟨mk, mn, mc⟩, E⟩
  exact (change_any B d s c o n r m hd hs h2.n.1 h2.n.2 mk mn mc E hm w hM).mono fun e w' ⟨he, hk, hm⟩ => ⟨he, Res.of_kept hM hO hk hm rfl rfl rfl fun _ => rfl⟩
end
end Go.Proofs.YtednmkhdehlojaaGreatDoor
namespace Go.Proofs.YtednmkhdehlojaaGreatDoor
open Go.ChangeShapes Go.WideShapes Go.ChangeAt Go.RowKit
attribute [local simp] drew_size drewN_size setCell_size
theorem under_of {w w1 : World} {Z : Obj} (h : Below (w.alloc Z).heap.size (w.alloc Z) w1) : Below w.heap.size w w1 :=
  ((bF _ _).alloc (Nat.le_refl _) _).trans (h.mono (by simp))
theorem do_ask (B d s : Nat) (c o n : Int) (r : Bool) (m : Mac) (L : List Int) (hd : d < 11) (hs : s < 11) (w : World) (hM : MacAt w B m) (hO : OutAt w B m.out L) (h1 : 15 ≤ c) (h2 : c ≤ 24) :
    Calls Tryz.prog 77 #[.pointer (some ⟨B, 0, none⟩), .agg #[vI vK c, vI vK d, vI vK s, .bool r, vI vK o, vI vK n]] w fun e w' => e = .returned (.tuple #[vI vK (askF c (m.reg d) (m.second s r n) r o n).1, vI vK (askF c (m.reg d) (m.second s r n) r o n).2]) ∧ Below w.heap.size w w' := by
  have hM0 := hM.alloc (.cells #[vI vK c, vI vK d, vI vK s, .bool r, vI vK o, vI vK n] 49)
  have hO0 : OutAt (w.alloc (.cells #[vI vK c, vI vK d, vI vK s, .bool r, vI vK o, vI vK n] 49)) B m.out L := hO.kept (kept_alloc (kept_refl B w) _)
  have HO : Hid (OutAt w B m.out L) := hO
  have HO0 : Hid (OutAt _ B m.out L) := hO0
  clear hO hO0
  have HQ : Hid ((decide (15 ≤ c) && decide (c ≤ 24)) = true) := by show (decide (15 ≤ c) && decide (c ≤ 24)) = true; simp; omega
  rcases hA : askF c (m.reg d) (m.second s r n) r o n with ⟨X, Y⟩
  have HA : Hid (askF c (m.reg d) (m.second s r n) r o n = (X, Y)) := hA
  clear hA h1 h2
  go_enter Tryz.func77, Tryz.ntmps77
  go_wp2_with (first
    | (go_at_call 89; refine (asks_any c _).mono ?_; rintro e w1 ⟨rfl, rfl⟩; rw [HQ.out])
    | (go_at_call 117; refine (ask_all hd hs hM0).mono ?_; rintro e w2 ⟨rfl, hb2⟩; rw [HA.out])
    | fail)
  go_ret2
  exact ⟨rfl, under_of hb2⟩
theorem do_jump (B d s : Nat) (c o n : Int) (r : Bool) (m : Mac) (L : List Int) (_ : d < 11) (_ : s < 11) (w : World) (hM : MacAt w B m) (hO : OutAt w B m.out L) (h1 : c = 14) :
    Calls Tryz.prog 77 #[.pointer (some ⟨B, 0, none⟩), .agg #[vI vK c, vI vK d, vI vK s, .bool r, vI vK o, vI vK n]] w fun e w' => e = .returned (.tuple #[vI vK o, vI vK 0]) ∧ Below w.heap.size w w' := by
  have hM0 := hM.alloc (.cells #[vI vK c, vI vK d, vI vK s, .bool r, vI vK o, vI vK n] 49)
  have hO0 : OutAt (w.alloc (.cells #[vI vK c, vI vK d, vI vK s, .bool r, vI vK o, vI vK n] 49)) B m.out L := hO.kept (kept_alloc (kept_refl B w) _)
  have HO : Hid (OutAt w B m.out L) := hO
  have HO0 : Hid (OutAt _ B m.out L) := hO0
  clear hO hO0
  have HQ : Hid ((decide (15 ≤ c) && decide (c ≤ 24)) = false) := by show (decide (15 ≤ c) && decide (c ≤ 24)) = false; simp; omega
  have x14 : (c == 14) = true := by simp; omega
  clear h1
  go_enter Tryz.func77, Tryz.ntmps77
  go_wp2_with (first
    | (go_at_call 89; refine (asks_any c _).mono ?_; rintro e w1 ⟨rfl, rfl⟩; rw [HQ.out])
    | fail)
  go_ret2
  exact ⟨rfl, (bF _ _).alloc (Nat.le_refl _) _⟩
theorem do_load (B d s : Nat) (c o n : Int) (r : Bool) (m : Mac) (L : List Int) (hd : d < 11) (hs : s < 11) (w : World) (hM : MacAt w B m) (hO : OutAt w B m.out L) (hok : (m.abs L).Ok) (h1 : c = 25) :
    Calls Tryz.prog 77 #[.pointer (some ⟨B, 0, none⟩), .agg #[vI vK c, vI vK d, vI vK s, .bool r, vI vK o, vI vK n]] w fun e w' => e = .returned (.tuple #[vI vK 0, vI vK (loadF (m.abs L) d (m.reg s) o).1]) ∧ Res B w w' m (loadF (m.abs L) d (m.reg s) o).1 (loadF (m.abs L) d (m.reg s) o).2 := by
  have hM0 := hM.alloc (.cells #[vI vK c, vI vK d, vI vK s, .bool r, vI vK o, vI vK n] 49)
  have hO0 : OutAt (w.alloc (.cells #[vI vK c, vI vK d, vI vK s, .bool r, vI vK o, vI vK n] 49)) B m.out L := hO.kept (kept_alloc (kept_refl B w) _)
  have HO : Hid (OutAt w B m.out L) := hO
  have HO0 : Hid (OutAt _ B m.out L) := hO0
  clear hO hO0
  have HQ : Hid ((decide (15 ≤ c) && decide (c ≤ 24)) = false) := by show (decide (15 ≤ c) && decide (c ≤ 24)) = false; simp; omega
  have x14 : (c == 14) = false := by simp; omega
  have x25 : (c == 25) = true := by simp; omega
  clear h1
  obtain ⟨E, hE⟩ : ∃ E, (loadF (m.abs L) d (m.reg s) o).1 = E := ⟨_, rfl⟩
  have HE : Hid ((loadF (m.abs L) d (m.reg s) o).1 = E) := hE
  clear hE
  go_enter Tryz.func77, Tryz.ntmps77
  go_wp2_with (first
    | (go_at_call 89; refine (asks_any c _).mono ?_; rintro e w1 ⟨rfl, rfl⟩; rw [HQ.out])
    | (go_at_call 118; refine (load_all hd hs hM0 HO0.out hok).mono ?_; rintro e w2 ⟨rfl, hr2⟩; have HR2 : Hid (Res B _ w2 m (loadF (m.abs L) d (m.reg s) o).1 (loadF (m.abs L) d (m.reg s) o).2) := hr2; clear hr2; rw [HE.out])
    | fail)
  go_ret2
  exact ⟨by rw [HE.out]; rfl, ((bF _ _).alloc (by have := hM.lt; omega) _).trans HR2.out.1, HR2.out.2⟩
theorem do_store (B d s : Nat) (c o n : Int) (r : Bool) (m : Mac) (L : List Int) (hd : d < 11) (hs : s < 11) (w : World) (hM : MacAt w B m) (hO : OutAt w B m.out L) (hok : (m.abs L).Ok) (h1 : c = 26) :
    Calls Tryz.prog 77 #[.pointer (some ⟨B, 0, none⟩), .agg #[vI vK c, vI vK d, vI vK s, .bool r, vI vK o, vI vK n]] w fun e w' => e = .returned (.tuple #[vI vK 0, vI vK (storeF (m.abs L) (m.reg d) (m.second s r n) o).1]) ∧ Res B w w' m (storeF (m.abs L) (m.reg d) (m.second s r n) o).1 (storeF (m.abs L) (m.reg d) (m.second s r n) o).2 := by
  have hM0 := hM.alloc (.cells #[vI vK c, vI vK d, vI vK s, .bool r, vI vK o, vI vK n] 49)
  have hO0 : OutAt (w.alloc (.cells #[vI vK c, vI vK d, vI vK s, .bool r, vI vK o, vI vK n] 49)) B m.out L := hO.kept (kept_alloc (kept_refl B w) _)
  have HO : Hid (OutAt w B m.out L) := hO
  have HO0 : Hid (OutAt _ B m.out L) := hO0
  clear hO hO0
  have HQ : Hid ((decide (15 ≤ c) && decide (c ≤ 24)) = false) := by show (decide (15 ≤ c) && decide (c ≤ 24)) = false; simp; omega
  have x14 : (c == 14) = false := by simp; omega
  have x25 : (c == 25) = false := by simp; omega
  have x26 : (c == 26) = true := by simp; omega
  clear h1
  obtain ⟨E, hE⟩ : ∃ E, (storeF (m.abs L) (m.reg d) (m.second s r n) o).1 = E := ⟨_, rfl⟩
  have HE : Hid ((storeF (m.abs L) (m.reg d) (m.second s r n) o).1 = E) := hE
  clear hE
  go_enter Tryz.func77, Tryz.ntmps77
  go_wp2_with (first
    | (go_at_call 89; refine (asks_any c _).mono ?_; rintro e w1 ⟨rfl, rfl⟩; rw [HQ.out])
    | (go_at_call 119; refine (store_all hd hs hM0 HO0.out hok).mono ?_; rintro e w2 ⟨rfl, hr2⟩; have HR2 : Hid (Res B _ w2 m (storeF (m.abs L) (m.reg d) (m.second s r n) o).1 (storeF (m.abs L) (m.reg d) (m.second s r n) o).2) := hr2; clear hr2; rw [HE.out])
    | fail)
  go_ret2
  exact ⟨by rw [HE.out]; rfl, ((bF _ _).alloc (by have := hM.lt; omega) _).trans HR2.out.1, HR2.out.2⟩
theorem do_call (B d s : Nat) (c o n : Int) (r : Bool) (m : Mac) (L : List Int) (_ : d < 11) (_ : s < 11) (w : World) (hM : MacAt w B m) (hO : OutAt w B m.out L) (_ : (m.abs L).Ok) (HN : Hid (n = 1 ∨ n = 2 ∨ n = 3)) (h1 : c = 27) :
    Calls Tryz.prog 77 #[.pointer (some ⟨B, 0, none⟩), .agg #[vI vK c, vI vK d, vI vK s, .bool r, vI vK o, vI vK n]] w fun e w' => e = .returned (.tuple #[vI vK 0, vI vK (callF (m.abs L) n).1]) ∧ Res B w w' m (callF (m.abs L) n).1 (callF (m.abs L) n).2 := by
  have hM0 := hM.alloc (.cells #[vI vK c, vI vK d, vI vK s, .bool r, vI vK o, vI vK n] 49)
  have hO0 : OutAt (w.alloc (.cells #[vI vK c, vI vK d, vI vK s, .bool r, vI vK o, vI vK n] 49)) B m.out L := hO.kept (kept_alloc (kept_refl B w) _)
  have HO : Hid (OutAt w B m.out L) := hO
  have HO0 : Hid (OutAt _ B m.out L) := hO0
  clear hO hO0
  have HQ : Hid ((decide (15 ≤ c) && decide (c ≤ 24)) = false) := by show (decide (15 ≤ c) && decide (c ≤ 24)) = false; simp; omega
  have x14 : (c == 14) = false := by simp; omega
  have x25 : (c == 25) = false := by simp; omega
  have x26 : (c == 26) = false := by simp; omega
  have x27 : (c == 27) = true := by simp; omega
  clear h1
  obtain ⟨E, hE⟩ : ∃ E, (callF (m.abs L) n).1 = E := ⟨_, rfl⟩
  have HE : Hid ((callF (m.abs L) n).1 = E) := hE
  clear hE
  go_enter Tryz.func77, Tryz.ntmps77
  go_wp2_with (first
    | (go_at_call 89; refine (asks_any c _).mono ?_; rintro e w1 ⟨rfl, rfl⟩; rw [HQ.out])
    | (go_at_call 120; refine (call_all HN.out hM0 HO0.out).mono ?_; rintro e w2 ⟨rfl, hr2⟩; have HR2 : Hid (Res B _ w2 m (callF (m.abs L) n).1 (callF (m.abs L) n).2) := hr2; clear hr2; rw [HE.out])
    | fail)
  go_ret2
  exact ⟨by rw [HE.out]; rfl, ((bF _ _).alloc (by have := hM.lt; omega) _).trans HR2.out.1, HR2.out.2⟩
theorem do_change (B d s : Nat) (c o n : Int) (r : Bool) (m : Mac) (L : List Int) (hd : d < 11) (hs : s < 11) (w : World) (hM : MacAt w B m) (hO : OutAt w B m.out L) (hok : (m.abs L).Ok) (HN : Hid (In64 n)) (h1 : 1 ≤ c) (h2 : c ≤ 13) :
    Calls Tryz.prog 77 #[.pointer (some ⟨B, 0, none⟩), .agg #[vI vK c, vI vK d, vI vK s, .bool r, vI vK o, vI vK n]] w fun e w' => e = .returned (.tuple #[vI vK 0, vI vK (makesF c (m.reg d) (m.second s r n)).2]) ∧ Res B w w' m (makesF c (m.reg d) (m.second s r n)).2 ((m.abs L).putReg d (makesF c (m.reg d) (m.second s r n)).1) := by
  have hM0 := hM.alloc (.cells #[vI vK c, vI vK d, vI vK s, .bool r, vI vK o, vI vK n] 49)
  have hO0 : OutAt (w.alloc (.cells #[vI vK c, vI vK d, vI vK s, .bool r, vI vK o, vI vK n] 49)) B m.out L := hO.kept (kept_alloc (kept_refl B w) _)
  have HO : Hid (OutAt w B m.out L) := hO
  have HO0 : Hid (OutAt _ B m.out L) := hO0
  clear hO hO0
  have HQ : Hid ((decide (15 ≤ c) && decide (c ≤ 24)) = false) := by show (decide (15 ≤ c) && decide (c ≤ 24)) = false; simp; omega
  have x14 : (c == 14) = false := by simp; omega
  have x25 : (c == 25) = false := by simp; omega
  have x26 : (c == 26) = false := by simp; omega
  have x27 : (c == 27) = false := by simp; omega
  clear h1 h2
  obtain ⟨E, hE⟩ : ∃ E, (makesF c (m.reg d) (m.second s r n)).2 = E := ⟨_, rfl⟩
  have HE : Hid ((makesF c (m.reg d) (m.second s r n)).2 = E) := hE
  clear hE
  go_enter Tryz.func77, Tryz.ntmps77
  go_wp2_with (first
    | (go_at_call 89; refine (asks_any c _).mono ?_; rintro e w1 ⟨rfl, rfl⟩; rw [HQ.out])
    | (go_at_call 121; refine (change_all hd hs HN.out hM0 HO0.out hok).mono ?_; rintro e w2 ⟨rfl, hr2⟩; have HR2 : Hid (Res B _ w2 m (makesF c (m.reg d) (m.second s r n)).2 ((m.abs L).putReg d (makesF c (m.reg d) (m.second s r n)).1)) := hr2; clear hr2; rw [HE.out])
    | fail)
  go_ret2
  exact ⟨by rw [HE.out]; rfl, ((bF _ _).alloc (by have := hM.lt; omega) _).trans HR2.out.1, HR2.out.2⟩
theorem do_all (B d s : Nat) (c o n : Int) (r : Bool) (m : Mac) (L : List Int) (hd : d < 11) (hs : s < 11) (w : World) (hM : MacAt w B m) (hO : OutAt w B m.out L) (hok : (m.abs L).Ok) (hn : In64 n) (c1 : 1 ≤ c) (c2 : c ≤ 28) (hc : c ≠ 28) (h27 : c = 27 → n = 1 ∨ n = 2 ∨ n = 3) :
    Calls Tryz.prog 77 #[.pointer (some ⟨B, 0, none⟩), .agg #[vI vK c, vI vK d, vI vK s, .bool r, vI vK o, vI vK n]] w fun e w' => e = .returned (.tuple #[vI vK (doF c d s r o n (m.abs L)).1, vI vK (doF c d s r o n (m.abs L)).2.1]) ∧ Res B w w' m (doF c d s r o n (m.abs L)).2.1 (doF c d s r o n (m.abs L)).2.2 := by
  unfold doF
  rw [Int.toNat_natCast, Int.toNat_natCast]
  by_cases h1 : 15 ≤ c ∧ c ≤ 24
  · rw [if_pos h1]
    exact (do_ask B d s c o n r m L hd hs w hM hO h1.1 h1.2).mono fun e w' ⟨he, hb⟩ => ⟨he, Res.of_below hM hO hb fun _ => rfl⟩
  rw [if_neg h1]
  by_cases h2 : c = 14
  · rw [if_pos h2]
    exact (do_jump B d s c o n r m L hd hs w hM hO h2).mono fun e w' ⟨he, hb⟩ => ⟨he, Res.of_below hM hO hb fun _ => rfl⟩
  rw [if_neg h2]
  by_cases h3 : c = 25
  · rw [if_pos h3]
    exact do_load B d s c o n r m L hd hs w hM hO hok h3
  rw [if_neg h3]
  by_cases h4 : c = 26
  · rw [if_pos h4]
    exact do_store B d s c o n r m L hd hs w hM hO hok h4
  rw [if_neg h4]
  by_cases h5 : c = 27
  · rw [if_pos h5]
    exact do_call B d s c o n r m L hd hs w hM hO hok (h27 h5) h5
  rw [if_neg h5]
  exact do_change B d s c o n r m L hd hs w hM hO hok hn c1 (by omega)
end Go.Proofs.YtednmkhdehlojaaGreatDoor
namespace Go.Proofs.YtednmkhdehlojaaGreatDoor
open Go.ChangeShapes Go.WideShapes Go.ChangeAt Go.RowKit

theorem ret_int {k : IntKind} {a b : Int} (h : a = b) : Ending.returned (.int k a) = .returned (.int k b) := by rw [h]

def moreV (c d s : Int) (r : Bool) (o n : Int) : Bool :=
  if 1 ≤ c ∧ c ≤ 12 then (if r then o != 0 || n != 0 else s != 0 || o != 0)
  else if 15 ≤ c ∧ c ≤ 24 then (if r then n != 0 else s != 0)
  else if c = 13 then s != 0 || r || o != 0 || n != 0
  else if c = 14 then d != 0 || s != 0 || r || n != 0
  else if c = 25 then r || n != 0
  else if c = 26 then (if r then n != 0 else s != 0)
  else if c = 27 then d != 0 || s != 0 || r || o != 0
  else d != 0 || s != 0 || r || o != 0 || n != 0
def aloneV (c d s : Int) (r : Bool) (o n : Int) : Int :=
  if c < 1 ∨ 28 < c then 3
  else if d < 0 ∨ 10 < d ∨ s < 0 ∨ 10 < s then 2
  else if ((1 ≤ c ∧ c ≤ 13) ∨ c = 25) ∧ d = 10 then 6
  else if moreV c d s r o n = true ∨ (c = 27 ∧ n ≠ 1 ∧ n ≠ 2 ∧ n ≠ 3) then 1 else 0
def wrongV (c d s : Int) (r : Bool) (o n b : Int) : Int :=
  if aloneV c d s r o n ≠ 0 then aloneV c d s r o n
  else if (c = 14 ∨ (15 ≤ c ∧ c ≤ 24)) ∧ (o < 0 ∨ b ≤ o) then 10
  else if b = 0 ∧ c ≠ 28 then 8 else 0

theorem more_two_true (c d s o n : Int) (h1 : 1 ≤ c) (h2 : c ≤ 12) (w : World) :
    Calls Tryz.prog 69 #[.agg #[vI vK c, vI vK d, vI vK s, .bool true, vI vK o, vI vK n]] w fun e w' => e = .returned (.bool (o != 0 || n != 0)) ∧ Below w.heap.size w w' := by
  have e13 : (c == 13) = false := by simp; omega
  have e14 : (c == 14) = false := by simp; omega
  have e25 : (c == 25) = false := by simp; omega
  have e26 : (c == 26) = false := by simp; omega
  have e27 : (c == 27) = false := by simp; omega
  have e28 : (c == 28) = false := by simp; omega
  go_enter Tryz.func69, Tryz.ntmps69
  go_wp2
  all_goals
    go_ret
    exact ⟨ret_bool (by simp [*]), (bF _ _).alloc (Nat.le_refl _) _⟩
theorem more_two_false (c d s o n : Int) (h1 : 1 ≤ c) (h2 : c ≤ 12) (w : World) :
    Calls Tryz.prog 69 #[.agg #[vI vK c, vI vK d, vI vK s, .bool false, vI vK o, vI vK n]] w fun e w' => e = .returned (.bool (s != 0 || o != 0)) ∧ Below w.heap.size w w' := by
  have e13 : (c == 13) = false := by simp; omega
  have e14 : (c == 14) = false := by simp; omega
  have e25 : (c == 25) = false := by simp; omega
  have e26 : (c == 26) = false := by simp; omega
  have e27 : (c == 27) = false := by simp; omega
  have e28 : (c == 28) = false := by simp; omega
  go_enter Tryz.func69, Tryz.ntmps69
  go_wp2
  all_goals
    go_ret
    exact ⟨ret_bool (by simp [*]), (bF _ _).alloc (Nat.le_refl _) _⟩
theorem more_ask_true (c d s o n : Int) (h1 : 15 ≤ c) (h2 : c ≤ 24) (w : World) :
    Calls Tryz.prog 69 #[.agg #[vI vK c, vI vK d, vI vK s, .bool true, vI vK o, vI vK n]] w fun e w' => e = .returned (.bool (n != 0)) ∧ Below w.heap.size w w' := by
  have e13 : (c == 13) = false := by simp; omega
  have e14 : (c == 14) = false := by simp; omega
  have e25 : (c == 25) = false := by simp; omega
  have e26 : (c == 26) = false := by simp; omega
  have e27 : (c == 27) = false := by simp; omega
  have e28 : (c == 28) = false := by simp; omega
  have g1 : 1 ≤ c := by omega
  have g2 : decide (c ≤ 12) = false := by simp; omega
  go_enter Tryz.func69, Tryz.ntmps69
  go_wp2
  all_goals
    go_ret
    exact ⟨ret_bool (by simp [*]), (bF _ _).alloc (Nat.le_refl _) _⟩
theorem more_ask_false (c d s o n : Int) (h1 : 15 ≤ c) (h2 : c ≤ 24) (w : World) :
    Calls Tryz.prog 69 #[.agg #[vI vK c, vI vK d, vI vK s, .bool false, vI vK o, vI vK n]] w fun e w' => e = .returned (.bool (s != 0)) ∧ Below w.heap.size w w' := by
  have e13 : (c == 13) = false := by simp; omega
  have e14 : (c == 14) = false := by simp; omega
  have e25 : (c == 25) = false := by simp; omega
  have e26 : (c == 26) = false := by simp; omega
  have e27 : (c == 27) = false := by simp; omega
  have e28 : (c == 28) = false := by simp; omega
  have g1 : 1 ≤ c := by omega
  have g2 : decide (c ≤ 12) = false := by simp; omega
  go_enter Tryz.func69, Tryz.ntmps69
  go_wp2
  all_goals
    go_ret
    exact ⟨ret_bool (by simp [*]), (bF _ _).alloc (Nat.le_refl _) _⟩
theorem more_c13_true (d s o n : Int)  (w : World) :
    Calls Tryz.prog 69 #[.agg #[vI vK 13, vI vK d, vI vK s, .bool true, vI vK o, vI vK n]] w fun e w' => e = .returned (.bool (s != 0 || true || o != 0 || n != 0)) ∧ Below w.heap.size w w' := by
  go_enter Tryz.func69, Tryz.ntmps69
  go_wp2
  all_goals
    go_ret
    exact ⟨ret_bool (by simp [*]), (bF _ _).alloc (Nat.le_refl _) _⟩
theorem more_c13_false (d s o n : Int)  (w : World) :
    Calls Tryz.prog 69 #[.agg #[vI vK 13, vI vK d, vI vK s, .bool false, vI vK o, vI vK n]] w fun e w' => e = .returned (.bool (s != 0 || false || o != 0 || n != 0)) ∧ Below w.heap.size w w' := by
  go_enter Tryz.func69, Tryz.ntmps69
  go_wp2
  all_goals
    go_ret
    exact ⟨ret_bool (by simp [*]), (bF _ _).alloc (Nat.le_refl _) _⟩
theorem more_c14_true (d s o n : Int)  (w : World) :
    Calls Tryz.prog 69 #[.agg #[vI vK 14, vI vK d, vI vK s, .bool true, vI vK o, vI vK n]] w fun e w' => e = .returned (.bool (d != 0 || s != 0 || true || n != 0)) ∧ Below w.heap.size w w' := by
  go_enter Tryz.func69, Tryz.ntmps69
  go_wp2
  all_goals
    go_ret
    exact ⟨ret_bool (by simp [*]), (bF _ _).alloc (Nat.le_refl _) _⟩
theorem more_c14_false (d s o n : Int)  (w : World) :
    Calls Tryz.prog 69 #[.agg #[vI vK 14, vI vK d, vI vK s, .bool false, vI vK o, vI vK n]] w fun e w' => e = .returned (.bool (d != 0 || s != 0 || false || n != 0)) ∧ Below w.heap.size w w' := by
  go_enter Tryz.func69, Tryz.ntmps69
  go_wp2
  all_goals
    go_ret
    exact ⟨ret_bool (by simp [*]), (bF _ _).alloc (Nat.le_refl _) _⟩
theorem more_c25_true (d s o n : Int)  (w : World) :
    Calls Tryz.prog 69 #[.agg #[vI vK 25, vI vK d, vI vK s, .bool true, vI vK o, vI vK n]] w fun e w' => e = .returned (.bool (true || n != 0)) ∧ Below w.heap.size w w' := by
  go_enter Tryz.func69, Tryz.ntmps69
  go_wp2
  all_goals
    go_ret
    exact ⟨ret_bool (by simp [*]), (bF _ _).alloc (Nat.le_refl _) _⟩
theorem more_c25_false (d s o n : Int)  (w : World) :
    Calls Tryz.prog 69 #[.agg #[vI vK 25, vI vK d, vI vK s, .bool false, vI vK o, vI vK n]] w fun e w' => e = .returned (.bool (false || n != 0)) ∧ Below w.heap.size w w' := by
  go_enter Tryz.func69, Tryz.ntmps69
  go_wp2
  all_goals
    go_ret
    exact ⟨ret_bool (by simp [*]), (bF _ _).alloc (Nat.le_refl _) _⟩
theorem more_c26_true (d s o n : Int)  (w : World) :
    Calls Tryz.prog 69 #[.agg #[vI vK 26, vI vK d, vI vK s, .bool true, vI vK o, vI vK n]] w fun e w' => e = .returned (.bool (n != 0)) ∧ Below w.heap.size w w' := by
  go_enter Tryz.func69, Tryz.ntmps69
  go_wp2
  all_goals
    go_ret
    exact ⟨ret_bool (by simp [*]), (bF _ _).alloc (Nat.le_refl _) _⟩
theorem more_c26_false (d s o n : Int)  (w : World) :
    Calls Tryz.prog 69 #[.agg #[vI vK 26, vI vK d, vI vK s, .bool false, vI vK o, vI vK n]] w fun e w' => e = .returned (.bool (s != 0)) ∧ Below w.heap.size w w' := by
  go_enter Tryz.func69, Tryz.ntmps69
  go_wp2
  all_goals
    go_ret
    exact ⟨ret_bool (by simp [*]), (bF _ _).alloc (Nat.le_refl _) _⟩
theorem more_c27_true (d s o n : Int)  (w : World) :
    Calls Tryz.prog 69 #[.agg #[vI vK 27, vI vK d, vI vK s, .bool true, vI vK o, vI vK n]] w fun e w' => e = .returned (.bool (d != 0 || s != 0 || true || o != 0)) ∧ Below w.heap.size w w' := by
  go_enter Tryz.func69, Tryz.ntmps69
  go_wp2
  all_goals
    go_ret
    exact ⟨ret_bool (by simp [*]), (bF _ _).alloc (Nat.le_refl _) _⟩
theorem more_c27_false (d s o n : Int)  (w : World) :
    Calls Tryz.prog 69 #[.agg #[vI vK 27, vI vK d, vI vK s, .bool false, vI vK o, vI vK n]] w fun e w' => e = .returned (.bool (d != 0 || s != 0 || false || o != 0)) ∧ Below w.heap.size w w' := by
  go_enter Tryz.func69, Tryz.ntmps69
  go_wp2
  all_goals
    go_ret
    exact ⟨ret_bool (by simp [*]), (bF _ _).alloc (Nat.le_refl _) _⟩
theorem more_c28_true (d s o n : Int)  (w : World) :
    Calls Tryz.prog 69 #[.agg #[vI vK 28, vI vK d, vI vK s, .bool true, vI vK o, vI vK n]] w fun e w' => e = .returned (.bool (d != 0 || s != 0 || true || o != 0 || n != 0)) ∧ Below w.heap.size w w' := by
  go_enter Tryz.func69, Tryz.ntmps69
  go_wp2
  all_goals
    go_ret
    exact ⟨ret_bool (by simp [*]), (bF _ _).alloc (Nat.le_refl _) _⟩
theorem more_c28_false (d s o n : Int)  (w : World) :
    Calls Tryz.prog 69 #[.agg #[vI vK 28, vI vK d, vI vK s, .bool false, vI vK o, vI vK n]] w fun e w' => e = .returned (.bool (d != 0 || s != 0 || false || o != 0 || n != 0)) ∧ Below w.heap.size w w' := by
  go_enter Tryz.func69, Tryz.ntmps69
  go_wp2
  all_goals
    go_ret
    exact ⟨ret_bool (by simp [*]), (bF _ _).alloc (Nat.le_refl _) _⟩
theorem more_any (c d s : Int) (r : Bool) (o n : Int) (h1 : 1 ≤ c) (h2 : c ≤ 28) (w : World) :
    Calls Tryz.prog 69 #[.agg #[vI vK c, vI vK d, vI vK s, .bool r, vI vK o, vI vK n]] w fun e w' => e = .returned (.bool (moreV c d s r o n)) ∧ Below w.heap.size w w' := by
  have hc : (1 ≤ c ∧ c ≤ 12) ∨ (15 ≤ c ∧ c ≤ 24) ∨ c = 13 ∨ c = 14 ∨ c = 25 ∨ c = 26 ∨ c = 27 ∨ c = 28 := by omega
  rcases hc with ⟨a1, a2⟩ | ⟨a1, a2⟩ | rfl | rfl | rfl | rfl | rfl | rfl
  · have e : moreV c d s r o n = (if r then o != 0 || n != 0 else s != 0 || o != 0) := by unfold moreV; rw [if_pos ⟨a1, a2⟩]
    rw [e]; cases r
    · exact more_two_false c d s o n a1 a2 w
    · exact more_two_true c d s o n a1 a2 w
  · have e : moreV c d s r o n = (if r then n != 0 else s != 0) := by unfold moreV; rw [if_neg (by omega), if_pos ⟨a1, a2⟩]
    rw [e]; cases r
    · exact more_ask_false c d s o n a1 a2 w
    · exact more_ask_true c d s o n a1 a2 w
  · cases r
    · exact more_c13_false d s o n w
    · exact more_c13_true d s o n w
  · cases r
    · exact more_c14_false d s o n w
    · exact more_c14_true d s o n w
  · cases r
    · exact more_c25_false d s o n w
    · exact more_c25_true d s o n w
  · cases r
    · exact more_c26_false d s o n w
    · exact more_c26_true d s o n w
  · cases r
    · exact more_c27_false d s o n w
    · exact more_c27_true d s o n w
  · cases r
    · exact more_c28_false d s o n w
    · exact more_c28_true d s o n w
end Go.Proofs.YtednmkhdehlojaaGreatDoor
