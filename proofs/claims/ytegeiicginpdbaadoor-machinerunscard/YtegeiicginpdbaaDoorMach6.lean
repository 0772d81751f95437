/-
  A Store, of a program that runs: what is in a slot, or in a cell, then, or what is wrong. Conditions: numbers are of 64 bits.
-/
import Derived.Test.YtegeiicginpdbaaDoorMachMem
namespace Go.Proofs.YtegeiicginpdbaaDoor
open Go.ChangeShapes Go.WideShapes Go.ChangeAt Go.RowKit
attribute [local simp] drew_size drewN_size setCell_size
set_option maxHeartbeats 4000000 in
set_option maxRecDepth 100000 in
theorem store_no (B d s : Nat) (c o n : Int) (r : Bool) (m : Mac) (hd : d < 11) (hs : s < 11) (ak an ac bk bn bc : Int) (HA : Hid (m.reg d = ⟨ak, an, ac⟩)) (HB : Hid (m.second s r n = ⟨bk, bn, bc⟩)) (t E : Int) (HR : Hid (reachF ⟨ak, an, ac⟩ o = (t, E))) (hE : (E != 0) = true) (w : World) (hM : MacAt w B m) :
    Calls Tryd.prog 102 #[.pointer (some ⟨B, 0, none⟩), .agg #[.int .i64 c, .int .i64 d, .int .i64 s, .bool r, .int .i64 o, .int .i64 n]] w fun e w' => e = .returned (.int .i64 E) ∧ Below w.heap.size w w' := by
  have hB := hM.lt
  have hF0 : Frm w.heap.size B c d s r o n m _ := Frm.start hM
  obtain ⟨p0, p1, p2, p3, p4, p5⟩ := hF0.cells
  obtain ⟨h0, h1, h2⟩ := hF0.mac.reg hd
  rw [HA.out] at h0 h1 h2
  have hd0 : (0 : Int) ≤ (d : Int) := by omega
  have hd1 : (d : Int) < 11 := by omega
  go_enter Tryd.func102, Tryd.ntmps102
  go_wp2_with fail
  go_cut [5, 6] (fun s6 s7 wx => ∃ L K : Nat, s6 = .pointer (some ⟨L, 0, none⟩) ∧ s7 = .pointer (some ⟨K, 0, none⟩) ∧ Below w.heap.size w wx ∧ Frm w.heap.size B c d s r o n m wx ∧ L < wx.heap.size ∧ K < wx.heap.size ∧ wx.cell? ⟨L, 0, none⟩ = some (.int .i64 ak) ∧ wx.cell? ⟨L, 1, none⟩ = some (.int .i64 an) ∧ wx.cell? ⟨L, 2, none⟩ = some (.int .i64 ac) ∧ wx.cell? ⟨K, 0, none⟩ = some (.int .i64 bk) ∧ wx.cell? ⟨K, 1, none⟩ = some (.int .i64 bn) ∧ wx.cell? ⟨K, 2, none⟩ = some (.int .i64 bc))
  case first =>
    go_region_held3 (fun w' => w'.cell? ⟨w.heap.size, 0, none⟩ = some (.int .i64 c) ∧ w'.cell? ⟨w.heap.size, 1, none⟩ = some (.int .i64 d) ∧ w'.cell? ⟨w.heap.size, 2, none⟩ = some (.int .i64 s) ∧ w'.cell? ⟨w.heap.size, 3, none⟩ = some (.bool r) ∧ w'.cell? ⟨w.heap.size, 4, none⟩ = some (.int .i64 o) ∧ w'.cell? ⟨w.heap.size, 5, none⟩ = some (.int .i64 n) ∧ w'.cell? ⟨B, 2 + d * 3, none⟩ = some (.int .i64 ak) ∧ w'.cell? ⟨B, 2 + d * 3 + 1, none⟩ = some (.int .i64 an) ∧ w'.cell? ⟨B, 2 + d * 3 + 2, none⟩ = some (.int .i64 ac)) (first | (simp [go_sem]; done) | (simp [go_sem, *]; done) | go_keep) (first
      | (go_at_call 116; go_must (refine (second_any B s c d o n r m hs _ (Frm.mac (S := w.heap.size) (c := c) (d := d) (s := s) (r := r) (o := o) (n := n) (by repeat' first | exact hF0 | exact hF1 | exact hF2 | refine Frm.alloc ?_ _ | refine Frm.drew ?_ | refine Frm.drewN ?_ _ | refine Frm.set ?_ _ _ ?_ ?_ | (intro hh; simp at hh; done) | (intro hh; simp at hh; omega)))).mono ?_; rintro e w1 ⟨rfl, hb1⟩; rw [HB.out]; simp only [Val.v]; have hF1 : Frm w.heap.size B c d s r o n m w1 := Frm.later (by repeat' first | exact hF0 | exact hF1 | exact hF2 | refine Frm.alloc ?_ _ | refine Frm.drew ?_ | refine Frm.drewN ?_ _ | refine Frm.set ?_ _ _ ?_ ?_ | (intro hh; simp at hh; done) | (intro hh; simp at hh; omega)) hb1; have hbw1 : Below w.heap.size w w1 := (by ((refine Below.trans ?_ (hb1.mono ?_)) <;> repeat' first | exact Below.refl _ _ | exact hbw1 | exact hbw2 | refine Below.alloc ?_ ?_ _ | refine Below.setCell ?_ ?_ _ | refine Below.drew ?_ | refine below_drewN ?_ _ | (simp; done) | (simp; omega) | omega)); obtain ⟨v0, v1, v2, v3, v4, v5⟩ := hF1.cells; obtain ⟨i0, i1, i2⟩ := hF1.mac.reg hd; rw [HA.out] at i0 i1 i2; have hS1 := hF1.ltS; have hB1 := hF1.mac.lt; have v6 := later_box hb1 (w.heap.size + 1); (try simp [go_sem] at v6); have v7 := later_box hb1 (w.heap.size + 1 + 1); (try simp [go_sem] at v7))))
    all_goals (go_wp2_with fail; go_meet)
    all_goals refine ⟨_, _, rfl, rfl, ?_, ?_, ?_, ?_, ?_, ?_, ?_, ?_, ?_, ?_⟩
    all_goals clear HA HB p0 p1 p2 p3 p4 p5 h0 h1 h2 hF0
    all_goals first
      | (with_reducible refine Below.alloc ?_ ?_ _; (repeat' first | with_reducible exact hbw1 | with_reducible refine Below.alloc ?_ ?_ _ | with_reducible refine Below.setCell ?_ ?_ _ | ((try dsimp only); omega) | (simp; done) | (simp; omega)); done)
      | (with_reducible refine Below.setCell ?_ ?_ _; (repeat' first | with_reducible exact hbw1 | with_reducible refine Below.alloc ?_ ?_ _ | with_reducible refine Below.setCell ?_ ?_ _ | ((try dsimp only); omega) | (simp; done) | (simp; omega)); done)
      | (with_reducible refine Frm.alloc ?_ _; (repeat' first | with_reducible exact hF1 | with_reducible refine Frm.alloc ?_ _ | with_reducible refine Frm.set ?_ _ _ ?_ ?_ | ((try dsimp only); omega) | (simp; done) | (simp; omega)); done)
      | (with_reducible refine Frm.set ?_ _ _ ?_ ?_; (repeat' first | with_reducible exact hF1 | with_reducible refine Frm.alloc ?_ _ | with_reducible refine Frm.set ?_ _ _ ?_ ?_ | ((try dsimp only); omega) | (simp; done) | (simp; omega)); done)
      | (simp; done) | (simp; omega) | (simp [go_sem]; done) | (simp [go_sem, v6]; done) | (simp [go_sem, v7]; done) | (simp [go_sem, *]; done)
  case rest =>
    obtain ⟨L, K, rfl, rfl, hbw, hFx, hL, hK, l0, l1, l2, g0, g1, g2⟩ := hcut
    obtain ⟨v0, v1, v2, v3, v4, v5⟩ := hFx.cells
    have hSx := hFx.ltS
    have hBx := hFx.mac.lt
    clear p0 p1 p2 p3 p4 p5 h0 h1 h2 hF0 HA HB hM
    go_wp2_with (first
      | (go_at_call 117; refine (reach_any ⟨ak, an, ac⟩ o _).mono ?_; rintro e w1 ⟨rfl, hb1⟩; rw [HR.out]; have hF1 : Frm w.heap.size B c d s r o n m w1 := hFx.later hb1; have hbw1 : Below w.heap.size w w1 := hbw.trans (hb1.mono hbw.size); have l0 := (hb1.cell (p := ⟨L, 0, none⟩) hL).trans l0; have l1 := (hb1.cell (p := ⟨L, 1, none⟩) hL).trans l1; have l2 := (hb1.cell (p := ⟨L, 2, none⟩) hL).trans l2; have g0 := (hb1.cell (p := ⟨K, 0, none⟩) hK).trans g0; have g1 := (hb1.cell (p := ⟨K, 1, none⟩) hK).trans g1; have g2 := (hb1.cell (p := ⟨K, 2, none⟩) hK).trans g2; have hL := Nat.lt_of_lt_of_le hL hb1.size; have hK := Nat.lt_of_lt_of_le hK hb1.size; have hB1 := hF1.mac.lt)
      | go_in)
    all_goals go_ret
    all_goals exact ⟨rfl, hbw1⟩
set_option maxHeartbeats 4000000 in
set_option maxRecDepth 100000 in
theorem store_told (B d s t : Nat) (c o n : Int) (r : Bool) (m : Mac) (hd : d < 11) (hs : s < 11) (ak an ac bk bn bc : Int) (HA : Hid (m.reg d = ⟨ak, an, ac⟩)) (HB : Hid (m.second s r n = ⟨bk, bn, bc⟩)) (HR : Hid (reachF ⟨ak, an, ac⟩ o = (((t : Nat) : Int), 0))) (hk : (ak == 2) = true) (w : World) (hM : MacAt w B m) :
    Calls Tryd.prog 102 #[.pointer (some ⟨B, 0, none⟩), .agg #[.int .i64 c, .int .i64 d, .int .i64 s, .bool r, .int .i64 o, .int .i64 n]] w fun e w' => e = .returned (.int .i64 6) ∧ Below w.heap.size w w' := by
  have hB := hM.lt
  have hF0 : Frm w.heap.size B c d s r o n m _ := Frm.start hM
  obtain ⟨p0, p1, p2, p3, p4, p5⟩ := hF0.cells
  obtain ⟨h0, h1, h2⟩ := hF0.mac.reg hd
  rw [HA.out] at h0 h1 h2
  have hd0 : (0 : Int) ≤ (d : Int) := by omega
  have hd1 : (d : Int) < 11 := by omega
  go_enter Tryd.func102, Tryd.ntmps102
  go_wp2_with fail
  go_cut [5, 6] (fun s6 s7 wx => ∃ L K : Nat, s6 = .pointer (some ⟨L, 0, none⟩) ∧ s7 = .pointer (some ⟨K, 0, none⟩) ∧ Below w.heap.size w wx ∧ Frm w.heap.size B c d s r o n m wx ∧ L < wx.heap.size ∧ K < wx.heap.size ∧ wx.cell? ⟨L, 0, none⟩ = some (.int .i64 ak) ∧ wx.cell? ⟨L, 1, none⟩ = some (.int .i64 an) ∧ wx.cell? ⟨L, 2, none⟩ = some (.int .i64 ac) ∧ wx.cell? ⟨K, 0, none⟩ = some (.int .i64 bk) ∧ wx.cell? ⟨K, 1, none⟩ = some (.int .i64 bn) ∧ wx.cell? ⟨K, 2, none⟩ = some (.int .i64 bc))
  case first =>
    go_region_held3 (fun w' => w'.cell? ⟨w.heap.size, 0, none⟩ = some (.int .i64 c) ∧ w'.cell? ⟨w.heap.size, 1, none⟩ = some (.int .i64 d) ∧ w'.cell? ⟨w.heap.size, 2, none⟩ = some (.int .i64 s) ∧ w'.cell? ⟨w.heap.size, 3, none⟩ = some (.bool r) ∧ w'.cell? ⟨w.heap.size, 4, none⟩ = some (.int .i64 o) ∧ w'.cell? ⟨w.heap.size, 5, none⟩ = some (.int .i64 n) ∧ w'.cell? ⟨B, 2 + d * 3, none⟩ = some (.int .i64 ak) ∧ w'.cell? ⟨B, 2 + d * 3 + 1, none⟩ = some (.int .i64 an) ∧ w'.cell? ⟨B, 2 + d * 3 + 2, none⟩ = some (.int .i64 ac)) (first | (simp [go_sem]; done) | (simp [go_sem, *]; done) | go_keep) (first
      | (go_at_call 116; go_must (refine (second_any B s c d o n r m hs _ (Frm.mac (S := w.heap.size) (c := c) (d := d) (s := s) (r := r) (o := o) (n := n) (by repeat' first | exact hF0 | exact hF1 | exact hF2 | refine Frm.alloc ?_ _ | refine Frm.drew ?_ | refine Frm.drewN ?_ _ | refine Frm.set ?_ _ _ ?_ ?_ | (intro hh; simp at hh; done) | (intro hh; simp at hh; omega)))).mono ?_; rintro e w1 ⟨rfl, hb1⟩; rw [HB.out]; simp only [Val.v]; have hF1 : Frm w.heap.size B c d s r o n m w1 := Frm.later (by repeat' first | exact hF0 | exact hF1 | exact hF2 | refine Frm.alloc ?_ _ | refine Frm.drew ?_ | refine Frm.drewN ?_ _ | refine Frm.set ?_ _ _ ?_ ?_ | (intro hh; simp at hh; done) | (intro hh; simp at hh; omega)) hb1; have hbw1 : Below w.heap.size w w1 := (by ((refine Below.trans ?_ (hb1.mono ?_)) <;> repeat' first | exact Below.refl _ _ | exact hbw1 | exact hbw2 | refine Below.alloc ?_ ?_ _ | refine Below.setCell ?_ ?_ _ | refine Below.drew ?_ | refine below_drewN ?_ _ | (simp; done) | (simp; omega) | omega)); obtain ⟨v0, v1, v2, v3, v4, v5⟩ := hF1.cells; obtain ⟨i0, i1, i2⟩ := hF1.mac.reg hd; rw [HA.out] at i0 i1 i2; have hS1 := hF1.ltS; have hB1 := hF1.mac.lt; have v6 := later_box hb1 (w.heap.size + 1); (try simp [go_sem] at v6); have v7 := later_box hb1 (w.heap.size + 1 + 1); (try simp [go_sem] at v7))))
    all_goals (go_wp2_with fail; go_meet)
    all_goals refine ⟨_, _, rfl, rfl, ?_, ?_, ?_, ?_, ?_, ?_, ?_, ?_, ?_, ?_⟩
    all_goals clear HA HB p0 p1 p2 p3 p4 p5 h0 h1 h2 hF0
    all_goals first
      | (with_reducible refine Below.alloc ?_ ?_ _; (repeat' first | with_reducible exact hbw1 | with_reducible refine Below.alloc ?_ ?_ _ | with_reducible refine Below.setCell ?_ ?_ _ | ((try dsimp only); omega) | (simp; done) | (simp; omega)); done)
      | (with_reducible refine Below.setCell ?_ ?_ _; (repeat' first | with_reducible exact hbw1 | with_reducible refine Below.alloc ?_ ?_ _ | with_reducible refine Below.setCell ?_ ?_ _ | ((try dsimp only); omega) | (simp; done) | (simp; omega)); done)
      | (with_reducible refine Frm.alloc ?_ _; (repeat' first | with_reducible exact hF1 | with_reducible refine Frm.alloc ?_ _ | with_reducible refine Frm.set ?_ _ _ ?_ ?_ | ((try dsimp only); omega) | (simp; done) | (simp; omega)); done)
      | (with_reducible refine Frm.set ?_ _ _ ?_ ?_; (repeat' first | with_reducible exact hF1 | with_reducible refine Frm.alloc ?_ _ | with_reducible refine Frm.set ?_ _ _ ?_ ?_ | ((try dsimp only); omega) | (simp; done) | (simp; omega)); done)
      | (simp; done) | (simp; omega) | (simp [go_sem]; done) | (simp [go_sem, v6]; done) | (simp [go_sem, v7]; done) | (simp [go_sem, *]; done)
  case rest =>
    obtain ⟨L, K, rfl, rfl, hbw, hFx, hL, hK, l0, l1, l2, g0, g1, g2⟩ := hcut
    obtain ⟨v0, v1, v2, v3, v4, v5⟩ := hFx.cells
    have hSx := hFx.ltS
    have hBx := hFx.mac.lt
    clear p0 p1 p2 p3 p4 p5 h0 h1 h2 hF0 HA HB hM
    go_wp2_with (first
      | (go_at_call 117; refine (reach_any ⟨ak, an, ac⟩ o _).mono ?_; rintro e w1 ⟨rfl, hb1⟩; rw [HR.out]; have hF1 : Frm w.heap.size B c d s r o n m w1 := hFx.later hb1; have hbw1 : Below w.heap.size w w1 := hbw.trans (hb1.mono hbw.size); have l0 := (hb1.cell (p := ⟨L, 0, none⟩) hL).trans l0; have l1 := (hb1.cell (p := ⟨L, 1, none⟩) hL).trans l1; have l2 := (hb1.cell (p := ⟨L, 2, none⟩) hL).trans l2; have g0 := (hb1.cell (p := ⟨K, 0, none⟩) hK).trans g0; have g1 := (hb1.cell (p := ⟨K, 1, none⟩) hK).trans g1; have g2 := (hb1.cell (p := ⟨K, 2, none⟩) hK).trans g2; have hL := Nat.lt_of_lt_of_le hL hb1.size; have hK := Nat.lt_of_lt_of_le hK hb1.size; have hB1 := hF1.mac.lt)
      | go_in)
    all_goals go_ret
    all_goals exact ⟨rfl, hbw1⟩
set_option maxHeartbeats 4000000 in
set_option maxRecDepth 100000 in
theorem store_none (B d s t : Nat) (c o n : Int) (r : Bool) (m : Mac) (hd : d < 11) (hs : s < 11) (ak an ac bk bn bc : Int) (HA : Hid (m.reg d = ⟨ak, an, ac⟩)) (HB : Hid (m.second s r n = ⟨bk, bn, bc⟩)) (HR : Hid (reachF ⟨ak, an, ac⟩ o = (((t : Nat) : Int), 0))) (hk : (ak == 2) = false) (hv : (bk == 0) = true) (w : World) (hM : MacAt w B m) :
    Calls Tryd.prog 102 #[.pointer (some ⟨B, 0, none⟩), .agg #[.int .i64 c, .int .i64 d, .int .i64 s, .bool r, .int .i64 o, .int .i64 n]] w fun e w' => e = .returned (.int .i64 8) ∧ Below w.heap.size w w' := by
  have hB := hM.lt
  have hF0 : Frm w.heap.size B c d s r o n m _ := Frm.start hM
  obtain ⟨p0, p1, p2, p3, p4, p5⟩ := hF0.cells
  obtain ⟨h0, h1, h2⟩ := hF0.mac.reg hd
  rw [HA.out] at h0 h1 h2
  have hd0 : (0 : Int) ≤ (d : Int) := by omega
  have hd1 : (d : Int) < 11 := by omega
  go_enter Tryd.func102, Tryd.ntmps102
  go_wp2_with fail
  go_cut [5, 6] (fun s6 s7 wx => ∃ L K : Nat, s6 = .pointer (some ⟨L, 0, none⟩) ∧ s7 = .pointer (some ⟨K, 0, none⟩) ∧ Below w.heap.size w wx ∧ Frm w.heap.size B c d s r o n m wx ∧ L < wx.heap.size ∧ K < wx.heap.size ∧ wx.cell? ⟨L, 0, none⟩ = some (.int .i64 ak) ∧ wx.cell? ⟨L, 1, none⟩ = some (.int .i64 an) ∧ wx.cell? ⟨L, 2, none⟩ = some (.int .i64 ac) ∧ wx.cell? ⟨K, 0, none⟩ = some (.int .i64 bk) ∧ wx.cell? ⟨K, 1, none⟩ = some (.int .i64 bn) ∧ wx.cell? ⟨K, 2, none⟩ = some (.int .i64 bc))
  case first =>
    go_region_held3 (fun w' => w'.cell? ⟨w.heap.size, 0, none⟩ = some (.int .i64 c) ∧ w'.cell? ⟨w.heap.size, 1, none⟩ = some (.int .i64 d) ∧ w'.cell? ⟨w.heap.size, 2, none⟩ = some (.int .i64 s) ∧ w'.cell? ⟨w.heap.size, 3, none⟩ = some (.bool r) ∧ w'.cell? ⟨w.heap.size, 4, none⟩ = some (.int .i64 o) ∧ w'.cell? ⟨w.heap.size, 5, none⟩ = some (.int .i64 n) ∧ w'.cell? ⟨B, 2 + d * 3, none⟩ = some (.int .i64 ak) ∧ w'.cell? ⟨B, 2 + d * 3 + 1, none⟩ = some (.int .i64 an) ∧ w'.cell? ⟨B, 2 + d * 3 + 2, none⟩ = some (.int .i64 ac)) (first | (simp [go_sem]; done) | (simp [go_sem, *]; done) | go_keep) (first
      | (go_at_call 116; go_must (refine (second_any B s c d o n r m hs _ (Frm.mac (S := w.heap.size) (c := c) (d := d) (s := s) (r := r) (o := o) (n := n) (by repeat' first | exact hF0 | exact hF1 | exact hF2 | refine Frm.alloc ?_ _ | refine Frm.drew ?_ | refine Frm.drewN ?_ _ | refine Frm.set ?_ _ _ ?_ ?_ | (intro hh; simp at hh; done) | (intro hh; simp at hh; omega)))).mono ?_; rintro e w1 ⟨rfl, hb1⟩; rw [HB.out]; simp only [Val.v]; have hF1 : Frm w.heap.size B c d s r o n m w1 := Frm.later (by repeat' first | exact hF0 | exact hF1 | exact hF2 | refine Frm.alloc ?_ _ | refine Frm.drew ?_ | refine Frm.drewN ?_ _ | refine Frm.set ?_ _ _ ?_ ?_ | (intro hh; simp at hh; done) | (intro hh; simp at hh; omega)) hb1; have hbw1 : Below w.heap.size w w1 := (by ((refine Below.trans ?_ (hb1.mono ?_)) <;> repeat' first | exact Below.refl _ _ | exact hbw1 | exact hbw2 | refine Below.alloc ?_ ?_ _ | refine Below.setCell ?_ ?_ _ | refine Below.drew ?_ | refine below_drewN ?_ _ | (simp; done) | (simp; omega) | omega)); obtain ⟨v0, v1, v2, v3, v4, v5⟩ := hF1.cells; obtain ⟨i0, i1, i2⟩ := hF1.mac.reg hd; rw [HA.out] at i0 i1 i2; have hS1 := hF1.ltS; have hB1 := hF1.mac.lt; have v6 := later_box hb1 (w.heap.size + 1); (try simp [go_sem] at v6); have v7 := later_box hb1 (w.heap.size + 1 + 1); (try simp [go_sem] at v7))))
    all_goals (go_wp2_with fail; go_meet)
    all_goals refine ⟨_, _, rfl, rfl, ?_, ?_, ?_, ?_, ?_, ?_, ?_, ?_, ?_, ?_⟩
    all_goals clear HA HB p0 p1 p2 p3 p4 p5 h0 h1 h2 hF0
    all_goals first
      | (with_reducible refine Below.alloc ?_ ?_ _; (repeat' first | with_reducible exact hbw1 | with_reducible refine Below.alloc ?_ ?_ _ | with_reducible refine Below.setCell ?_ ?_ _ | ((try dsimp only); omega) | (simp; done) | (simp; omega)); done)
      | (with_reducible refine Below.setCell ?_ ?_ _; (repeat' first | with_reducible exact hbw1 | with_reducible refine Below.alloc ?_ ?_ _ | with_reducible refine Below.setCell ?_ ?_ _ | ((try dsimp only); omega) | (simp; done) | (simp; omega)); done)
      | (with_reducible refine Frm.alloc ?_ _; (repeat' first | with_reducible exact hF1 | with_reducible refine Frm.alloc ?_ _ | with_reducible refine Frm.set ?_ _ _ ?_ ?_ | ((try dsimp only); omega) | (simp; done) | (simp; omega)); done)
      | (with_reducible refine Frm.set ?_ _ _ ?_ ?_; (repeat' first | with_reducible exact hF1 | with_reducible refine Frm.alloc ?_ _ | with_reducible refine Frm.set ?_ _ _ ?_ ?_ | ((try dsimp only); omega) | (simp; done) | (simp; omega)); done)
      | (simp; done) | (simp; omega) | (simp [go_sem]; done) | (simp [go_sem, v6]; done) | (simp [go_sem, v7]; done) | (simp [go_sem, *]; done)
  case rest =>
    obtain ⟨L, K, rfl, rfl, hbw, hFx, hL, hK, l0, l1, l2, g0, g1, g2⟩ := hcut
    obtain ⟨v0, v1, v2, v3, v4, v5⟩ := hFx.cells
    have hSx := hFx.ltS
    have hBx := hFx.mac.lt
    clear p0 p1 p2 p3 p4 p5 h0 h1 h2 hF0 HA HB hM
    go_wp2_with (first
      | (go_at_call 117; refine (reach_any ⟨ak, an, ac⟩ o _).mono ?_; rintro e w1 ⟨rfl, hb1⟩; rw [HR.out]; have hF1 : Frm w.heap.size B c d s r o n m w1 := hFx.later hb1; have hbw1 : Below w.heap.size w w1 := hbw.trans (hb1.mono hbw.size); have l0 := (hb1.cell (p := ⟨L, 0, none⟩) hL).trans l0; have l1 := (hb1.cell (p := ⟨L, 1, none⟩) hL).trans l1; have l2 := (hb1.cell (p := ⟨L, 2, none⟩) hL).trans l2; have g0 := (hb1.cell (p := ⟨K, 0, none⟩) hK).trans g0; have g1 := (hb1.cell (p := ⟨K, 1, none⟩) hK).trans g1; have g2 := (hb1.cell (p := ⟨K, 2, none⟩) hK).trans g2; have hL := Nat.lt_of_lt_of_le hL hb1.size; have hK := Nat.lt_of_lt_of_le hK hb1.size; have hB1 := hF1.mac.lt)
      | go_in)
    all_goals go_ret
    all_goals exact ⟨rfl, hbw1⟩
set_option maxHeartbeats 4000000 in
set_option maxRecDepth 100000 in
theorem store_slot (B d s t : Nat) (c o n : Int) (r : Bool) (m : Mac) (hd : d < 11) (hs : s < 11) (ak an ac bk bn bc : Int) (HA : Hid (m.reg d = ⟨ak, an, ac⟩)) (HB : Hid (m.second s r n = ⟨bk, bn, bc⟩)) (HR : Hid (reachF ⟨ak, an, ac⟩ o = (((t : Nat) : Int), 0))) (ht : t < 16) (hk : (ak == 2) = false) (hv : (bk == 0) = false) (hk3 : (ak == 3) = true) (w : World) (hM : MacAt w B m) :
    Calls Tryd.prog 102 #[.pointer (some ⟨B, 0, none⟩), .agg #[.int .i64 c, .int .i64 d, .int .i64 s, .bool r, .int .i64 o, .int .i64 n]] w fun e w' => e = .returned (.int .i64 0) ∧ Kept B w w' ∧ MacAt w' B (m.putSlot t ⟨bk, bn, bc⟩) := by
  have hB := hM.lt
  have hF0 : Frm w.heap.size B c d s r o n m _ := Frm.start hM
  obtain ⟨p0, p1, p2, p3, p4, p5⟩ := hF0.cells
  obtain ⟨h0, h1, h2⟩ := hF0.mac.reg hd
  rw [HA.out] at h0 h1 h2
  have hd0 : (0 : Int) ≤ (d : Int) := by omega
  have hd1 : (d : Int) < 11 := by omega
  have ht0 : (0 : Int) ≤ (t : Int) := by omega
  have ht1 : (t : Int) < 16 := by omega
  go_enter Tryd.func102, Tryd.ntmps102
  go_wp2_with fail
  go_cut [5, 6] (fun s6 s7 wx => ∃ L K : Nat, s6 = .pointer (some ⟨L, 0, none⟩) ∧ s7 = .pointer (some ⟨K, 0, none⟩) ∧ Below w.heap.size w wx ∧ Frm w.heap.size B c d s r o n m wx ∧ L < wx.heap.size ∧ K < wx.heap.size ∧ wx.cell? ⟨L, 0, none⟩ = some (.int .i64 ak) ∧ wx.cell? ⟨L, 1, none⟩ = some (.int .i64 an) ∧ wx.cell? ⟨L, 2, none⟩ = some (.int .i64 ac) ∧ wx.cell? ⟨K, 0, none⟩ = some (.int .i64 bk) ∧ wx.cell? ⟨K, 1, none⟩ = some (.int .i64 bn) ∧ wx.cell? ⟨K, 2, none⟩ = some (.int .i64 bc))
  case first =>
    go_region_held3 (fun w' => w'.cell? ⟨w.heap.size, 0, none⟩ = some (.int .i64 c) ∧ w'.cell? ⟨w.heap.size, 1, none⟩ = some (.int .i64 d) ∧ w'.cell? ⟨w.heap.size, 2, none⟩ = some (.int .i64 s) ∧ w'.cell? ⟨w.heap.size, 3, none⟩ = some (.bool r) ∧ w'.cell? ⟨w.heap.size, 4, none⟩ = some (.int .i64 o) ∧ w'.cell? ⟨w.heap.size, 5, none⟩ = some (.int .i64 n) ∧ w'.cell? ⟨B, 2 + d * 3, none⟩ = some (.int .i64 ak) ∧ w'.cell? ⟨B, 2 + d * 3 + 1, none⟩ = some (.int .i64 an) ∧ w'.cell? ⟨B, 2 + d * 3 + 2, none⟩ = some (.int .i64 ac)) (first | (simp [go_sem]; done) | (simp [go_sem, *]; done) | go_keep) (first
      | (go_at_call 116; go_must (refine (second_any B s c d o n r m hs _ (Frm.mac (S := w.heap.size) (c := c) (d := d) (s := s) (r := r) (o := o) (n := n) (by repeat' first | exact hF0 | exact hF1 | exact hF2 | refine Frm.alloc ?_ _ | refine Frm.drew ?_ | refine Frm.drewN ?_ _ | refine Frm.set ?_ _ _ ?_ ?_ | (intro hh; simp at hh; done) | (intro hh; simp at hh; omega)))).mono ?_; rintro e w1 ⟨rfl, hb1⟩; rw [HB.out]; simp only [Val.v]; have hF1 : Frm w.heap.size B c d s r o n m w1 := Frm.later (by repeat' first | exact hF0 | exact hF1 | exact hF2 | refine Frm.alloc ?_ _ | refine Frm.drew ?_ | refine Frm.drewN ?_ _ | refine Frm.set ?_ _ _ ?_ ?_ | (intro hh; simp at hh; done) | (intro hh; simp at hh; omega)) hb1; have hbw1 : Below w.heap.size w w1 := (by ((refine Below.trans ?_ (hb1.mono ?_)) <;> repeat' first | exact Below.refl _ _ | exact hbw1 | exact hbw2 | refine Below.alloc ?_ ?_ _ | refine Below.setCell ?_ ?_ _ | refine Below.drew ?_ | refine below_drewN ?_ _ | (simp; done) | (simp; omega) | omega)); obtain ⟨v0, v1, v2, v3, v4, v5⟩ := hF1.cells; obtain ⟨i0, i1, i2⟩ := hF1.mac.reg hd; rw [HA.out] at i0 i1 i2; have hS1 := hF1.ltS; have hB1 := hF1.mac.lt; have v6 := later_box hb1 (w.heap.size + 1); (try simp [go_sem] at v6); have v7 := later_box hb1 (w.heap.size + 1 + 1); (try simp [go_sem] at v7))))
    all_goals (go_wp2_with fail; go_meet)
    all_goals refine ⟨_, _, rfl, rfl, ?_, ?_, ?_, ?_, ?_, ?_, ?_, ?_, ?_, ?_⟩
    all_goals clear HA HB p0 p1 p2 p3 p4 p5 h0 h1 h2 hF0
    all_goals first
      | (with_reducible refine Below.alloc ?_ ?_ _; (repeat' first | with_reducible exact hbw1 | with_reducible refine Below.alloc ?_ ?_ _ | with_reducible refine Below.setCell ?_ ?_ _ | ((try dsimp only); omega) | (simp; done) | (simp; omega)); done)
      | (with_reducible refine Below.setCell ?_ ?_ _; (repeat' first | with_reducible exact hbw1 | with_reducible refine Below.alloc ?_ ?_ _ | with_reducible refine Below.setCell ?_ ?_ _ | ((try dsimp only); omega) | (simp; done) | (simp; omega)); done)
      | (with_reducible refine Frm.alloc ?_ _; (repeat' first | with_reducible exact hF1 | with_reducible refine Frm.alloc ?_ _ | with_reducible refine Frm.set ?_ _ _ ?_ ?_ | ((try dsimp only); omega) | (simp; done) | (simp; omega)); done)
      | (with_reducible refine Frm.set ?_ _ _ ?_ ?_; (repeat' first | with_reducible exact hF1 | with_reducible refine Frm.alloc ?_ _ | with_reducible refine Frm.set ?_ _ _ ?_ ?_ | ((try dsimp only); omega) | (simp; done) | (simp; omega)); done)
      | (simp; done) | (simp; omega) | (simp [go_sem]; done) | (simp [go_sem, v6]; done) | (simp [go_sem, v7]; done) | (simp [go_sem, *]; done)
  case rest =>
    obtain ⟨L, K, rfl, rfl, hbw, hFx, hL, hK, l0, l1, l2, g0, g1, g2⟩ := hcut
    obtain ⟨v0, v1, v2, v3, v4, v5⟩ := hFx.cells
    have hSx := hFx.ltS
    have hBx := hFx.mac.lt
    clear p0 p1 p2 p3 p4 p5 h0 h1 h2 hF0 HA HB hM
    go_wp2_with (first
      | (go_at_call 117; refine (reach_any ⟨ak, an, ac⟩ o _).mono ?_; rintro e w1 ⟨rfl, hb1⟩; rw [HR.out]; have hF1 : Frm w.heap.size B c d s r o n m w1 := hFx.later hb1; have hbw1 : Below w.heap.size w w1 := hbw.trans (hb1.mono hbw.size); have l0 := (hb1.cell (p := ⟨L, 0, none⟩) hL).trans l0; have l1 := (hb1.cell (p := ⟨L, 1, none⟩) hL).trans l1; have l2 := (hb1.cell (p := ⟨L, 2, none⟩) hL).trans l2; have g0 := (hb1.cell (p := ⟨K, 0, none⟩) hK).trans g0; have g1 := (hb1.cell (p := ⟨K, 1, none⟩) hK).trans g1; have g2 := (hb1.cell (p := ⟨K, 2, none⟩) hK).trans g2; have hL := Nat.lt_of_lt_of_le hL hb1.size; have hK := Nat.lt_of_lt_of_le hK hb1.size; have hB1 := hF1.mac.lt; obtain ⟨i0, i1, i2⟩ := hF1.mac.slot ht; have f0 := hF1.mac.frozen (35 + t * 3); have f1 := hF1.mac.frozen (35 + t * 3 + 1); have f2 := hF1.mac.frozen (35 + t * 3 + 2))
      | go_in)
    all_goals go_region
    all_goals go_wp2
    all_goals go_ret
    all_goals have HK : Kept B w w1 := kept_below hbw1 B
    all_goals have HM := hF1.mac
    all_goals exact ⟨rfl, (by repeat' first | with_reducible exact HK | with_reducible refine kept_drew ?_ | with_reducible refine kept_set ?_ _ _ | with_reducible refine kept_new ?_ _ _ ?_ | with_reducible refine kept_alloc ?_ _ | ((try dsimp only); omega)), (by repeat' first | with_reducible exact HM | with_reducible refine MacAt.drew ?_ | with_reducible refine MacAt.put3 ?_ hd _ _ _ | with_reducible refine MacAt.slot3 ?_ ht _ _ _ | with_reducible refine MacAt.cel1 ?_ hct _ | with_reducible refine MacAt.off ?_ _ _ ?_ | with_reducible refine MacAt.alloc ?_ _ | ((try dsimp only); omega))⟩
set_option maxHeartbeats 4000000 in
set_option maxRecDepth 100000 in
theorem store_arg (B d s t : Nat) (c o n : Int) (r : Bool) (m : Mac) (hd : d < 11) (hs : s < 11) (ak an ac bk bn bc : Int) (HA : Hid (m.reg d = ⟨ak, an, ac⟩)) (HB : Hid (m.second s r n = ⟨bk, bn, bc⟩)) (HR : Hid (reachF ⟨ak, an, ac⟩ o = (((t : Nat) : Int), 0))) (hk : (ak == 2) = false) (hv : (bk == 0) = false) (hk3 : (ak == 3) = false) (hv1 : (bk != 1) = true) (w : World) (hM : MacAt w B m) :
    Calls Tryd.prog 102 #[.pointer (some ⟨B, 0, none⟩), .agg #[.int .i64 c, .int .i64 d, .int .i64 s, .bool r, .int .i64 o, .int .i64 n]] w fun e w' => e = .returned (.int .i64 1) ∧ Below w.heap.size w w' := by
  have hB := hM.lt
  have hF0 : Frm w.heap.size B c d s r o n m _ := Frm.start hM
  obtain ⟨p0, p1, p2, p3, p4, p5⟩ := hF0.cells
  obtain ⟨h0, h1, h2⟩ := hF0.mac.reg hd
  rw [HA.out] at h0 h1 h2
  have hd0 : (0 : Int) ≤ (d : Int) := by omega
  have hd1 : (d : Int) < 11 := by omega
  go_enter Tryd.func102, Tryd.ntmps102
  go_wp2_with fail
  go_cut [5, 6] (fun s6 s7 wx => ∃ L K : Nat, s6 = .pointer (some ⟨L, 0, none⟩) ∧ s7 = .pointer (some ⟨K, 0, none⟩) ∧ Below w.heap.size w wx ∧ Frm w.heap.size B c d s r o n m wx ∧ L < wx.heap.size ∧ K < wx.heap.size ∧ wx.cell? ⟨L, 0, none⟩ = some (.int .i64 ak) ∧ wx.cell? ⟨L, 1, none⟩ = some (.int .i64 an) ∧ wx.cell? ⟨L, 2, none⟩ = some (.int .i64 ac) ∧ wx.cell? ⟨K, 0, none⟩ = some (.int .i64 bk) ∧ wx.cell? ⟨K, 1, none⟩ = some (.int .i64 bn) ∧ wx.cell? ⟨K, 2, none⟩ = some (.int .i64 bc))
  case first =>
    go_region_held3 (fun w' => w'.cell? ⟨w.heap.size, 0, none⟩ = some (.int .i64 c) ∧ w'.cell? ⟨w.heap.size, 1, none⟩ = some (.int .i64 d) ∧ w'.cell? ⟨w.heap.size, 2, none⟩ = some (.int .i64 s) ∧ w'.cell? ⟨w.heap.size, 3, none⟩ = some (.bool r) ∧ w'.cell? ⟨w.heap.size, 4, none⟩ = some (.int .i64 o) ∧ w'.cell? ⟨w.heap.size, 5, none⟩ = some (.int .i64 n) ∧ w'.cell? ⟨B, 2 + d * 3, none⟩ = some (.int .i64 ak) ∧ w'.cell? ⟨B, 2 + d * 3 + 1, none⟩ = some (.int .i64 an) ∧ w'.cell? ⟨B, 2 + d * 3 + 2, none⟩ = some (.int .i64 ac)) (first | (simp [go_sem]; done) | (simp [go_sem, *]; done) | go_keep) (first
      | (go_at_call 116; go_must (refine (second_any B s c d o n r m hs _ (Frm.mac (S := w.heap.size) (c := c) (d := d) (s := s) (r := r) (o := o) (n := n) (by repeat' first | exact hF0 | exact hF1 | exact hF2 | refine Frm.alloc ?_ _ | refine Frm.drew ?_ | refine Frm.drewN ?_ _ | refine Frm.set ?_ _ _ ?_ ?_ | (intro hh; simp at hh; done) | (intro hh; simp at hh; omega)))).mono ?_; rintro e w1 ⟨rfl, hb1⟩; rw [HB.out]; simp only [Val.v]; have hF1 : Frm w.heap.size B c d s r o n m w1 := Frm.later (by repeat' first | exact hF0 | exact hF1 | exact hF2 | refine Frm.alloc ?_ _ | refine Frm.drew ?_ | refine Frm.drewN ?_ _ | refine Frm.set ?_ _ _ ?_ ?_ | (intro hh; simp at hh; done) | (intro hh; simp at hh; omega)) hb1; have hbw1 : Below w.heap.size w w1 := (by ((refine Below.trans ?_ (hb1.mono ?_)) <;> repeat' first | exact Below.refl _ _ | exact hbw1 | exact hbw2 | refine Below.alloc ?_ ?_ _ | refine Below.setCell ?_ ?_ _ | refine Below.drew ?_ | refine below_drewN ?_ _ | (simp; done) | (simp; omega) | omega)); obtain ⟨v0, v1, v2, v3, v4, v5⟩ := hF1.cells; obtain ⟨i0, i1, i2⟩ := hF1.mac.reg hd; rw [HA.out] at i0 i1 i2; have hS1 := hF1.ltS; have hB1 := hF1.mac.lt; have v6 := later_box hb1 (w.heap.size + 1); (try simp [go_sem] at v6); have v7 := later_box hb1 (w.heap.size + 1 + 1); (try simp [go_sem] at v7))))
    all_goals (go_wp2_with fail; go_meet)
    all_goals refine ⟨_, _, rfl, rfl, ?_, ?_, ?_, ?_, ?_, ?_, ?_, ?_, ?_, ?_⟩
    all_goals clear HA HB p0 p1 p2 p3 p4 p5 h0 h1 h2 hF0
    all_goals first
      | (with_reducible refine Below.alloc ?_ ?_ _; (repeat' first | with_reducible exact hbw1 | with_reducible refine Below.alloc ?_ ?_ _ | with_reducible refine Below.setCell ?_ ?_ _ | ((try dsimp only); omega) | (simp; done) | (simp; omega)); done)
      | (with_reducible refine Below.setCell ?_ ?_ _; (repeat' first | with_reducible exact hbw1 | with_reducible refine Below.alloc ?_ ?_ _ | with_reducible refine Below.setCell ?_ ?_ _ | ((try dsimp only); omega) | (simp; done) | (simp; omega)); done)
      | (with_reducible refine Frm.alloc ?_ _; (repeat' first | with_reducible exact hF1 | with_reducible refine Frm.alloc ?_ _ | with_reducible refine Frm.set ?_ _ _ ?_ ?_ | ((try dsimp only); omega) | (simp; done) | (simp; omega)); done)
      | (with_reducible refine Frm.set ?_ _ _ ?_ ?_; (repeat' first | with_reducible exact hF1 | with_reducible refine Frm.alloc ?_ _ | with_reducible refine Frm.set ?_ _ _ ?_ ?_ | ((try dsimp only); omega) | (simp; done) | (simp; omega)); done)
      | (simp; done) | (simp; omega) | (simp [go_sem]; done) | (simp [go_sem, v6]; done) | (simp [go_sem, v7]; done) | (simp [go_sem, *]; done)
  case rest =>
    obtain ⟨L, K, rfl, rfl, hbw, hFx, hL, hK, l0, l1, l2, g0, g1, g2⟩ := hcut
    obtain ⟨v0, v1, v2, v3, v4, v5⟩ := hFx.cells
    have hSx := hFx.ltS
    have hBx := hFx.mac.lt
    clear p0 p1 p2 p3 p4 p5 h0 h1 h2 hF0 HA HB hM
    go_wp2_with (first
      | (go_at_call 117; refine (reach_any ⟨ak, an, ac⟩ o _).mono ?_; rintro e w1 ⟨rfl, hb1⟩; rw [HR.out]; have hF1 : Frm w.heap.size B c d s r o n m w1 := hFx.later hb1; have hbw1 : Below w.heap.size w w1 := hbw.trans (hb1.mono hbw.size); have l0 := (hb1.cell (p := ⟨L, 0, none⟩) hL).trans l0; have l1 := (hb1.cell (p := ⟨L, 1, none⟩) hL).trans l1; have l2 := (hb1.cell (p := ⟨L, 2, none⟩) hL).trans l2; have g0 := (hb1.cell (p := ⟨K, 0, none⟩) hK).trans g0; have g1 := (hb1.cell (p := ⟨K, 1, none⟩) hK).trans g1; have g2 := (hb1.cell (p := ⟨K, 2, none⟩) hK).trans g2; have hL := Nat.lt_of_lt_of_le hL hb1.size; have hK := Nat.lt_of_lt_of_le hK hb1.size; have hB1 := hF1.mac.lt)
      | go_in)
    all_goals go_ret
    all_goals exact ⟨rfl, hbw1⟩
set_option maxHeartbeats 4000000 in
set_option maxRecDepth 100000 in
theorem store_cell (B d s t acn : Nat) (c o n : Int) (r : Bool) (m : Mac) (hd : d < 11) (hs : s < 11) (ak an bk bn bc : Int) (HA : Hid (m.reg d = ⟨ak, an, (acn : Int)⟩)) (HB : Hid (m.second s r n = ⟨bk, bn, bc⟩)) (HR : Hid (reachF ⟨ak, an, (acn : Int)⟩ o = (((t : Nat) : Int), 0))) (ht : t < 4) (hac : acn < 4) (hk : (ak == 2) = false) (hv : (bk == 0) = false) (hk3 : (ak == 3) = false) (hv1 : (bk != 1) = false) (w : World) (hM : MacAt w B m) :
    Calls Tryd.prog 102 #[.pointer (some ⟨B, 0, none⟩), .agg #[.int .i64 c, .int .i64 d, .int .i64 s, .bool r, .int .i64 o, .int .i64 n]] w fun e w' => e = .returned (.int .i64 0) ∧ Kept B w w' ∧ MacAt w' B (m.putCel (acn * 4 + t) bn) := by
  have hB := hM.lt
  have hF0 : Frm w.heap.size B c d s r o n m _ := Frm.start hM
  obtain ⟨p0, p1, p2, p3, p4, p5⟩ := hF0.cells
  obtain ⟨h0, h1, h2⟩ := hF0.mac.reg hd
  rw [HA.out] at h0 h1 h2
  have hd0 : (0 : Int) ≤ (d : Int) := by omega
  have hd1 : (d : Int) < 11 := by omega
  have ht0 : (0 : Int) ≤ (t : Int) := by omega
  have ht1 : (t : Int) < 4 := by omega
  have hc0 : (0 : Int) ≤ (acn : Int) := by omega
  have hc1 : (acn : Int) < 4 := by omega
  have hct : acn * 4 + t < 16 := by omega
  go_enter Tryd.func102, Tryd.ntmps102
  go_wp2_with fail
  go_cut [5, 6] (fun s6 s7 wx => ∃ L K : Nat, s6 = .pointer (some ⟨L, 0, none⟩) ∧ s7 = .pointer (some ⟨K, 0, none⟩) ∧ Below w.heap.size w wx ∧ Frm w.heap.size B c d s r o n m wx ∧ L < wx.heap.size ∧ K < wx.heap.size ∧ wx.cell? ⟨L, 0, none⟩ = some (.int .i64 ak) ∧ wx.cell? ⟨L, 1, none⟩ = some (.int .i64 an) ∧ wx.cell? ⟨L, 2, none⟩ = some (.int .i64 (acn : Int)) ∧ wx.cell? ⟨K, 0, none⟩ = some (.int .i64 bk) ∧ wx.cell? ⟨K, 1, none⟩ = some (.int .i64 bn) ∧ wx.cell? ⟨K, 2, none⟩ = some (.int .i64 bc))
  case first =>
    go_region_held3 (fun w' => w'.cell? ⟨w.heap.size, 0, none⟩ = some (.int .i64 c) ∧ w'.cell? ⟨w.heap.size, 1, none⟩ = some (.int .i64 d) ∧ w'.cell? ⟨w.heap.size, 2, none⟩ = some (.int .i64 s) ∧ w'.cell? ⟨w.heap.size, 3, none⟩ = some (.bool r) ∧ w'.cell? ⟨w.heap.size, 4, none⟩ = some (.int .i64 o) ∧ w'.cell? ⟨w.heap.size, 5, none⟩ = some (.int .i64 n) ∧ w'.cell? ⟨B, 2 + d * 3, none⟩ = some (.int .i64 ak) ∧ w'.cell? ⟨B, 2 + d * 3 + 1, none⟩ = some (.int .i64 an) ∧ w'.cell? ⟨B, 2 + d * 3 + 2, none⟩ = some (.int .i64 (acn : Int))) (first | (simp [go_sem]; done) | (simp [go_sem, *]; done) | go_keep) (first
      | (go_at_call 116; go_must (refine (second_any B s c d o n r m hs _ (Frm.mac (S := w.heap.size) (c := c) (d := d) (s := s) (r := r) (o := o) (n := n) (by repeat' first | exact hF0 | exact hF1 | exact hF2 | refine Frm.alloc ?_ _ | refine Frm.drew ?_ | refine Frm.drewN ?_ _ | refine Frm.set ?_ _ _ ?_ ?_ | (intro hh; simp at hh; done) | (intro hh; simp at hh; omega)))).mono ?_; rintro e w1 ⟨rfl, hb1⟩; rw [HB.out]; simp only [Val.v]; have hF1 : Frm w.heap.size B c d s r o n m w1 := Frm.later (by repeat' first | exact hF0 | exact hF1 | exact hF2 | refine Frm.alloc ?_ _ | refine Frm.drew ?_ | refine Frm.drewN ?_ _ | refine Frm.set ?_ _ _ ?_ ?_ | (intro hh; simp at hh; done) | (intro hh; simp at hh; omega)) hb1; have hbw1 : Below w.heap.size w w1 := (by ((refine Below.trans ?_ (hb1.mono ?_)) <;> repeat' first | exact Below.refl _ _ | exact hbw1 | exact hbw2 | refine Below.alloc ?_ ?_ _ | refine Below.setCell ?_ ?_ _ | refine Below.drew ?_ | refine below_drewN ?_ _ | (simp; done) | (simp; omega) | omega)); obtain ⟨v0, v1, v2, v3, v4, v5⟩ := hF1.cells; obtain ⟨i0, i1, i2⟩ := hF1.mac.reg hd; rw [HA.out] at i0 i1 i2; have hS1 := hF1.ltS; have hB1 := hF1.mac.lt; have v6 := later_box hb1 (w.heap.size + 1); (try simp [go_sem] at v6); have v7 := later_box hb1 (w.heap.size + 1 + 1); (try simp [go_sem] at v7))))
    all_goals (go_wp2_with fail; go_meet)
    all_goals refine ⟨_, _, rfl, rfl, ?_, ?_, ?_, ?_, ?_, ?_, ?_, ?_, ?_, ?_⟩
    all_goals clear HA HB p0 p1 p2 p3 p4 p5 h0 h1 h2 hF0
    all_goals first
      | (with_reducible refine Below.alloc ?_ ?_ _; (repeat' first | with_reducible exact hbw1 | with_reducible refine Below.alloc ?_ ?_ _ | with_reducible refine Below.setCell ?_ ?_ _ | ((try dsimp only); omega) | (simp; done) | (simp; omega)); done)
      | (with_reducible refine Below.setCell ?_ ?_ _; (repeat' first | with_reducible exact hbw1 | with_reducible refine Below.alloc ?_ ?_ _ | with_reducible refine Below.setCell ?_ ?_ _ | ((try dsimp only); omega) | (simp; done) | (simp; omega)); done)
      | (with_reducible refine Frm.alloc ?_ _; (repeat' first | with_reducible exact hF1 | with_reducible refine Frm.alloc ?_ _ | with_reducible refine Frm.set ?_ _ _ ?_ ?_ | ((try dsimp only); omega) | (simp; done) | (simp; omega)); done)
      | (with_reducible refine Frm.set ?_ _ _ ?_ ?_; (repeat' first | with_reducible exact hF1 | with_reducible refine Frm.alloc ?_ _ | with_reducible refine Frm.set ?_ _ _ ?_ ?_ | ((try dsimp only); omega) | (simp; done) | (simp; omega)); done)
      | (simp; done) | (simp; omega) | (simp [go_sem]; done) | (simp [go_sem, v6]; done) | (simp [go_sem, v7]; done) | (simp [go_sem, *]; done)
  case rest =>
    obtain ⟨L, K, rfl, rfl, hbw, hFx, hL, hK, l0, l1, l2, g0, g1, g2⟩ := hcut
    obtain ⟨v0, v1, v2, v3, v4, v5⟩ := hFx.cells
    have hSx := hFx.ltS
    have hBx := hFx.mac.lt
    clear p0 p1 p2 p3 p4 p5 h0 h1 h2 hF0 HA HB hM
    go_wp2_with (first
      | (go_at_call 117; refine (reach_any ⟨ak, an, (acn : Int)⟩ o _).mono ?_; rintro e w1 ⟨rfl, hb1⟩; rw [HR.out]; have hF1 : Frm w.heap.size B c d s r o n m w1 := hFx.later hb1; have hbw1 : Below w.heap.size w w1 := hbw.trans (hb1.mono hbw.size); have l0 := (hb1.cell (p := ⟨L, 0, none⟩) hL).trans l0; have l1 := (hb1.cell (p := ⟨L, 1, none⟩) hL).trans l1; have l2 := (hb1.cell (p := ⟨L, 2, none⟩) hL).trans l2; have g0 := (hb1.cell (p := ⟨K, 0, none⟩) hK).trans g0; have g1 := (hb1.cell (p := ⟨K, 1, none⟩) hK).trans g1; have g2 := (hb1.cell (p := ⟨K, 2, none⟩) hK).trans g2; have hL := Nat.lt_of_lt_of_le hL hb1.size; have hK := Nat.lt_of_lt_of_le hK hb1.size; have hB1 := hF1.mac.lt; have i0 : w1.cell? ⟨B, 91 + acn * 4 + t, none⟩ = some (.int .i64 (m.cel (acn * 4 + t))) := (by rw [Nat.add_assoc]; exact hF1.mac.cel (d := acn * 4 + t) (by omega)); have f0 := hF1.mac.frozen (91 + acn * 4 + t))
      | go_in)
    all_goals go_region
    all_goals go_wp2
    all_goals go_ret
    all_goals have HK : Kept B w w1 := kept_below hbw1 B
    all_goals have HM := hF1.mac
    all_goals rw [Nat.add_assoc 91 (acn * 4) t]
    all_goals exact ⟨rfl, (by repeat' first | with_reducible exact HK | with_reducible refine kept_drew ?_ | with_reducible refine kept_set ?_ _ _ | with_reducible refine kept_new ?_ _ _ ?_ | with_reducible refine kept_alloc ?_ _ | ((try dsimp only); omega)), (by repeat' first | with_reducible exact HM | with_reducible refine MacAt.drew ?_ | with_reducible refine MacAt.put3 ?_ hd _ _ _ | with_reducible refine MacAt.slot3 ?_ ht _ _ _ | with_reducible refine MacAt.cel1 ?_ hct _ | with_reducible refine MacAt.off ?_ _ _ ?_ | with_reducible refine MacAt.alloc ?_ _ | ((try dsimp only); omega))⟩
end Go.Proofs.YtegeiicginpdbaaDoor
