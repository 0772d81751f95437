/-
 A Store, of a program that runs: what is in a slot, or in a cell, then, or what is wrong. Conditions: numbers are of 64 bits. What a call leaves, of a program that runs: registers that are lost, numbers that are given out, what is answered. Conditions: numbers are of 64 bits. A Call, of a program that runs: what it leaves, or what is wrong. Conditions: numbers are of 64 bits. What a step that is no Exit does to a program that runs: by the plain machine. Conditions: the step is a right one; numbers are of 64 bits. What package machine's do does to a program that runs: by the plain machine. Conditions: the step is a right one; numbers are of 64 bits. What a right step is, and where it leads, on plain numbers; no program is named here. No conditions.
-/
import Derived.Test.YtbimlalhodibjaaGreatDoorJf7
import Derived.Laws.IdiomCopy
import Derived.Test.YtbimlalhodibjaaGreatDoorJf4
set_option maxHeartbeats 40000000
open Go.Value renaming int → A
open Go.IntKind renaming i64 → F
open Go.RowKit.Below renaming alloc → bA, setCell → bS, drew → bD, refl → bF
set_option maxRecDepth 1000000
set_option linter.defProp false
set_option linter.unusedVariables false
set_option linter.unusedSimpArgs false
open Go.Ending renaming returned → rT
open Go.Value renaming pointer → pT
open Go.Obj renaming cells → cT
open Go.Proofs.Tryz renaming prog → tP
namespace Go.Proofs.YtbimlalhodibjaaGreatDoor
section
open Go.ChangeShapes Go.WideShapes Go.ChangeAt Go.RowKit
attribute [local simp] z00 z0d z07
theorem zM5 (B d s t : Nat) (c o n : Int) (r : Bool) (m : Mac) (hd : d < 11) (hs : s < 11) (ak an ac bk bn bc : Int) (HA : Hid (m.reg d = ⟨ak, an, ac⟩)) (HB : Hid (m.second s r n = ⟨bk, bn, bc⟩)) (HR : Hid (z14 ⟨ak, an, ac⟩ o = (((t : Nat) : Int), 0))) (ht : t < 16) (hk : (ak == 2) = false) (hv : (bk == 0) = false) (hk3 : (ak == 3) = true) (w : World) (hM : z09 w B m) :
  Calls tP 120 #[pT (some ⟨B, 0, none⟩), .agg #[A F c, A F d, A F s, .bool r, A F o, A F n]] w fun e w' => e = rT (A F 0) /\ Kept B w w' /\ z09 w' B (m.putSlot t ⟨bk, bn, bc⟩) := by
 have hB := hM.lt
 have hF0 : Frm w.heap.size B c d s r o n m _ := Frm.start hM
 obtain ⟨p0, p1, p2, p3, p4, p5⟩ := hF0.cells
 obtain ⟨h0, h1, h2⟩ := hF0.mac.reg hd
 rw [HA.out] at h0 h1 h2
 have hd0 : (0 : Int) <= (d : Int) := by omega
 have hd1 : (d : Int) < 11 := by omega
 have ht0 : (0 : Int) <= (t : Int) := by omega
 have ht1 : (t : Int) < 16 := by omega
 go_enter Tryz.func120, Tryz.ntmps120
 go_wp2_with fail
 go_cut [5, 6] (fun s6 s7 wx => ∃ L K : Nat, s6 = pT (some ⟨L, 0, none⟩) /\ s7 = pT (some ⟨K, 0, none⟩) /\ Below w.heap.size w wx /\ Frm w.heap.size B c d s r o n m wx /\ L < wx.heap.size /\ K < wx.heap.size /\ wx.cell? ⟨L, 0, none⟩ = some (A F ak) /\ wx.cell? ⟨L, 1, none⟩ = some (A F an) /\ wx.cell? ⟨L, 2, none⟩ = some (A F ac) /\ wx.cell? ⟨K, 0, none⟩ = some (A F bk) /\ wx.cell? ⟨K, 1, none⟩ = some (A F bn) /\ wx.cell? ⟨K, 2, none⟩ = some (A F bc))
 case first =>
  go_region_held3 (fun w' => w'.cell? ⟨w.heap.size, 0, none⟩ = some (A F c) /\ w'.cell? ⟨w.heap.size, 1, none⟩ = some (A F d) /\ w'.cell? ⟨w.heap.size, 2, none⟩ = some (A F s) /\ w'.cell? ⟨w.heap.size, 3, none⟩ = some (.bool r) /\ w'.cell? ⟨w.heap.size, 4, none⟩ = some (A F o) /\ w'.cell? ⟨w.heap.size, 5, none⟩ = some (A F n) /\ w'.cell? ⟨B, 2 + d * 3, none⟩ = some (A F ak) /\ w'.cell? ⟨B, 2 + d * 3 + 1, none⟩ = some (A F an) /\ w'.cell? ⟨B, 2 + d * 3 + 2, none⟩ = some (A F ac)) (first | (simp [go_sem]; done) | (simp [go_sem, *]; done) | go_keep) (first
   | (go_at_call 153; go_must (refine (z4y B s c d o n r m hs _ (Frm.mac (S := w.heap.size) (c := c) (d := d) (s := s) (r := r) (o := o) (n := n) (by repeat' first | exact hF0 | exact hF1 | exact hF2 | refine Frm.alloc ?_ _ | refine Frm.drew ?_ | refine Frm.drewN ?_ _ | refine Frm.set ?_ _ _ ?_ ?_ | (intro hh; simp at hh; done) | (intro hh; simp at hh; omega)))).mono ?_; rintro e w1 ⟨rfl, hb1⟩; rw [HB.out]; simp only [Val.v]; have hF1 : Frm w.heap.size B c d s r o n m w1 := Frm.later (by repeat' first | exact hF0 | exact hF1 | exact hF2 | refine Frm.alloc ?_ _ | refine Frm.drew ?_ | refine Frm.drewN ?_ _ | refine Frm.set ?_ _ _ ?_ ?_ | (intro hh; simp at hh; done) | (intro hh; simp at hh; omega)) hb1; have hbw1 : Below w.heap.size w w1 := (by ((refine Below.trans ?_ (hb1.mono ?_)) <;> repeat' first | exact bF _ _ | exact hbw1 | exact hbw2 | refine bA ?_ ?_ _ | refine bS ?_ ?_ _ | refine bD ?_ | refine below_drewN ?_ _ | (simp; done) | (simp; omega) | omega)); obtain ⟨v0, v1, v2, v3, v4, v5⟩ := hF1.cells; obtain ⟨i0, i1, i2⟩ := hF1.mac.reg hd; rw [HA.out] at i0 i1 i2; have hS1 := hF1.ltS; have hB1 := hF1.mac.lt; have v6 := z15 hb1 (w.heap.size + 1); (try simp [go_sem] at v6); have v7 := z15 hb1 (w.heap.size + 1 + 1); (try simp [go_sem] at v7))))
  all_goals (go_wp2_with fail; go_meet)
  all_goals refine ⟨_, _, rfl, rfl, ?_, ?_, ?_, ?_, ?_, ?_, ?_, ?_, ?_, ?_⟩
  all_goals clear HA HB p0 p1 p2 p3 p4 p5 h0 h1 h2 hF0
  all_goals first
   | (with_reducible refine bA ?_ ?_ _; (repeat' first | with_reducible (first | exact hbw1 | refine bA ?_ ?_ _ | refine bS ?_ ?_ _) | ((try dsimp only); omega) | (simp; done) | (simp; omega)); done)
   | (with_reducible refine bS ?_ ?_ _; (repeat' first | with_reducible (first | exact hbw1 | refine bA ?_ ?_ _ | refine bS ?_ ?_ _) | ((try dsimp only); omega) | (simp; done) | (simp; omega)); done)
   | (with_reducible refine Frm.alloc ?_ _; (repeat' first | with_reducible (first | exact hF1 | refine Frm.alloc ?_ _ | refine Frm.set ?_ _ _ ?_ ?_) | ((try dsimp only); omega) | (simp; done) | (simp; omega)); done)
   | (with_reducible refine Frm.set ?_ _ _ ?_ ?_; (repeat' first | with_reducible (first | exact hF1 | refine Frm.alloc ?_ _ | refine Frm.set ?_ _ _ ?_ ?_) | ((try dsimp only); omega) | (simp; done) | (simp; omega)); done)
   | (simp; done) | (simp; omega) | (simp [go_sem]; done) | (simp [go_sem, v6]; done) | (simp [go_sem, v7]; done) | (simp [go_sem, *]; done)
 case rest =>
  obtain ⟨L, K, rfl, rfl, hbw, hFx, hL, hK, l0, l1, l2, g0, g1, g2⟩ := hcut
  obtain ⟨v0, v1, v2, v3, v4, v5⟩ := hFx.cells
  have hSx := hFx.ltS
  have hBx := hFx.mac.lt
  clear p0 p1 p2 p3 p4 p5 h0 h1 h2 hF0 HA HB hM
  go_wp2_with (first
   | (go_at_call 155; refine (z3z ⟨ak, an, ac⟩ o _).mono ?_; rintro e w1 ⟨rfl, hb1⟩; rw [HR.out]; have hF1 : Frm w.heap.size B c d s r o n m w1 := hFx.later hb1; have hbw1 : Below w.heap.size w w1 := hbw.trans (hb1.mono hbw.size); have l0 := (hb1.cell (p := ⟨L, 0, none⟩) hL).trans l0; have l1 := (hb1.cell (p := ⟨L, 1, none⟩) hL).trans l1; have l2 := (hb1.cell (p := ⟨L, 2, none⟩) hL).trans l2; have g0 := (hb1.cell (p := ⟨K, 0, none⟩) hK).trans g0; have g1 := (hb1.cell (p := ⟨K, 1, none⟩) hK).trans g1; have g2 := (hb1.cell (p := ⟨K, 2, none⟩) hK).trans g2; have hL := Nat.lt_of_lt_of_le hL hb1.size; have hK := Nat.lt_of_lt_of_le hK hb1.size; have hB1 := hF1.mac.lt; obtain ⟨i0, i1, i2⟩ := hF1.mac.slot ht; have f0 := hF1.mac.frozen (35 + t * 3); have f1 := hF1.mac.frozen (35 + t * 3 + 1); have f2 := hF1.mac.frozen (35 + t * 3 + 2))
   | go_in)
  all_goals go_region
  all_goals go_wp2
  all_goals go_ret
  all_goals have HK : Kept B w w1 := z0e hbw1 B
  all_goals have HM := hF1.mac
  all_goals exact ⟨rfl, (by repeat' first | with_reducible (first | exact HK | refine z1c ?_ | refine kept_set ?_ _ _ | refine z17 ?_ _ _ ?_ | refine z0j ?_ _) | ((try dsimp only); omega)), (by repeat' first | with_reducible (first | exact HM | refine z09.drew ?_ | refine z09.put3 ?_ hd _ _ _ | refine z09.slot3 ?_ ht _ _ _ | refine z09.cel1 ?_ hct _ | refine z09.off ?_ _ _ ?_ | refine z09.alloc ?_ _) | ((try dsimp only); omega))⟩
theorem zEp  : (∀ (B d s : Nat) (c o n : Int) (r : Bool) (m : Mac) (hd : d < 11) (hs : s < 11) (ak an ac bk bn bc : Int) (HA : Hid (m.reg d = ⟨ak, an, ac⟩)) (HB : Hid (m.second s r n = ⟨bk, bn, bc⟩)) (t E : Int) (HR : Hid (z14 ⟨ak, an, ac⟩ o = (t, E))) (hE : (E != 0) = true) (w : World) (hM : z09 w B m), Calls tP 120 #[pT (some ⟨B, 0, none⟩), .agg #[A F c, A F d, A F s, .bool r, A F o, A F n]] w fun e w' => e = rT (A F E) /\ Below w.heap.size w w') /\ (∀ (B d s t : Nat) (c o n : Int) (r : Bool) (m : Mac) (hd : d < 11) (hs : s < 11) (ak an ac bk bn bc : Int) (HA : Hid (m.reg d = ⟨ak, an, ac⟩)) (HB : Hid (m.second s r n = ⟨bk, bn, bc⟩)) (HR : Hid (z14 ⟨ak, an, ac⟩ o = (((t : Nat) : Int), 0))) (hk : (ak == 2) = true) (w : World) (hM : z09 w B m), Calls tP 120 #[pT (some ⟨B, 0, none⟩), .agg #[A F c, A F d, A F s, .bool r, A F o, A F n]] w fun e w' => e = rT (A F 6) /\ Below w.heap.size w w') /\ (∀ (B d s t : Nat) (c o n : Int) (r : Bool) (m : Mac) (hd : d < 11) (hs : s < 11) (ak an ac bk bn bc : Int) (HA : Hid (m.reg d = ⟨ak, an, ac⟩)) (HB : Hid (m.second s r n = ⟨bk, bn, bc⟩)) (HR : Hid (z14 ⟨ak, an, ac⟩ o = (((t : Nat) : Int), 0))) (hk : (ak == 2) = false) (hv : (bk == 0) = true) (w : World) (hM : z09 w B m), Calls tP 120 #[pT (some ⟨B, 0, none⟩), .agg #[A F c, A F d, A F s, .bool r, A F o, A F n]] w fun e w' => e = rT (A F 8) /\ Below w.heap.size w w') /\ (∀ (B d s t : Nat) (c o n : Int) (r : Bool) (m : Mac) (hd : d < 11) (hs : s < 11) (ak an ac bk bn bc : Int) (HA : Hid (m.reg d = ⟨ak, an, ac⟩)) (HB : Hid (m.second s r n = ⟨bk, bn, bc⟩)) (HR : Hid (z14 ⟨ak, an, ac⟩ o = (((t : Nat) : Int), 0))) (hk : (ak == 2) = false) (hv : (bk == 0) = false) (hk3 : (ak == 3) = false) (hv1 : (bk != 1) = true) (w : World) (hM : z09 w B m), Calls tP 120 #[pT (some ⟨B, 0, none⟩), .agg #[A F c, A F d, A F s, .bool r, A F o, A F n]] w fun e w' => e = rT (A F 1) /\ Below w.heap.size w w') := by
 refine ⟨?_, ?_, ?_, ?_⟩
 intro B d s c o n r m hd hs ak an ac bk bn bc HA HB t E HR hE w hM
 rotate_left
 intro B d s t c o n r m hd hs ak an ac bk bn bc HA HB HR hk w hM
 rotate_left
 intro B d s t c o n r m hd hs ak an ac bk bn bc HA HB HR hk hv w hM
 rotate_left
 intro B d s t c o n r m hd hs ak an ac bk bn bc HA HB HR hk hv hk3 hv1 w hM
 rotate_left
 all_goals
  have hB := hM.lt
  have hF0 : Frm w.heap.size B c d s r o n m _ := Frm.start hM
  obtain ⟨p0, p1, p2, p3, p4, p5⟩ := hF0.cells
  obtain ⟨h0, h1, h2⟩ := hF0.mac.reg hd
  rw [HA.out] at h0 h1 h2
  have hd0 : (0 : Int) <= (d : Int) := by omega
  have hd1 : (d : Int) < 11 := by omega
 all_goals
  go_enter Tryz.func120, Tryz.ntmps120
  go_wp2_with fail
  go_cut [5, 6] (fun s6 s7 wx => ∃ L K : Nat, s6 = pT (some ⟨L, 0, none⟩) /\ s7 = pT (some ⟨K, 0, none⟩) /\ Below w.heap.size w wx /\ Frm w.heap.size B c d s r o n m wx /\ L < wx.heap.size /\ K < wx.heap.size /\ wx.cell? ⟨L, 0, none⟩ = some (A F ak) /\ wx.cell? ⟨L, 1, none⟩ = some (A F an) /\ wx.cell? ⟨L, 2, none⟩ = some (A F ac) /\ wx.cell? ⟨K, 0, none⟩ = some (A F bk) /\ wx.cell? ⟨K, 1, none⟩ = some (A F bn) /\ wx.cell? ⟨K, 2, none⟩ = some (A F bc))
  case first =>
   go_region_held3 (fun w' => w'.cell? ⟨w.heap.size, 0, none⟩ = some (A F c) /\ w'.cell? ⟨w.heap.size, 1, none⟩ = some (A F d) /\ w'.cell? ⟨w.heap.size, 2, none⟩ = some (A F s) /\ w'.cell? ⟨w.heap.size, 3, none⟩ = some (.bool r) /\ w'.cell? ⟨w.heap.size, 4, none⟩ = some (A F o) /\ w'.cell? ⟨w.heap.size, 5, none⟩ = some (A F n) /\ w'.cell? ⟨B, 2 + d * 3, none⟩ = some (A F ak) /\ w'.cell? ⟨B, 2 + d * 3 + 1, none⟩ = some (A F an) /\ w'.cell? ⟨B, 2 + d * 3 + 2, none⟩ = some (A F ac)) (first | (simp [go_sem]; done) | (simp [go_sem, *]; done) | go_keep) (first
    | (go_at_call 153; go_must (refine (z4y B s c d o n r m hs _ (Frm.mac (S := w.heap.size) (c := c) (d := d) (s := s) (r := r) (o := o) (n := n) (by repeat' first | exact hF0 | exact hF1 | exact hF2 | refine Frm.alloc ?_ _ | refine Frm.drew ?_ | refine Frm.drewN ?_ _ | refine Frm.set ?_ _ _ ?_ ?_ | (intro hh; simp at hh; done) | (intro hh; simp at hh; omega)))).mono ?_; rintro e w1 ⟨rfl, hb1⟩; rw [HB.out]; simp only [Val.v]; have hF1 : Frm w.heap.size B c d s r o n m w1 := Frm.later (by repeat' first | exact hF0 | exact hF1 | exact hF2 | refine Frm.alloc ?_ _ | refine Frm.drew ?_ | refine Frm.drewN ?_ _ | refine Frm.set ?_ _ _ ?_ ?_ | (intro hh; simp at hh; done) | (intro hh; simp at hh; omega)) hb1; have hbw1 : Below w.heap.size w w1 := (by ((refine Below.trans ?_ (hb1.mono ?_)) <;> repeat' first | exact bF _ _ | exact hbw1 | exact hbw2 | refine bA ?_ ?_ _ | refine bS ?_ ?_ _ | refine bD ?_ | refine below_drewN ?_ _ | (simp; done) | (simp; omega) | omega)); obtain ⟨v0, v1, v2, v3, v4, v5⟩ := hF1.cells; obtain ⟨i0, i1, i2⟩ := hF1.mac.reg hd; rw [HA.out] at i0 i1 i2; have hS1 := hF1.ltS; have hB1 := hF1.mac.lt; have v6 := z15 hb1 (w.heap.size + 1); (try simp [go_sem] at v6); have v7 := z15 hb1 (w.heap.size + 1 + 1); (try simp [go_sem] at v7))))
   all_goals (go_wp2_with fail; go_meet)
   all_goals refine ⟨_, _, rfl, rfl, ?_, ?_, ?_, ?_, ?_, ?_, ?_, ?_, ?_, ?_⟩
   all_goals clear HA HB p0 p1 p2 p3 p4 p5 h0 h1 h2 hF0
   all_goals first
    | (with_reducible refine bA ?_ ?_ _; (repeat' first | with_reducible (first | exact hbw1 | refine bA ?_ ?_ _ | refine bS ?_ ?_ _) | ((try dsimp only); omega) | (simp; done) | (simp; omega)); done)
    | (with_reducible refine bS ?_ ?_ _; (repeat' first | with_reducible (first | exact hbw1 | refine bA ?_ ?_ _ | refine bS ?_ ?_ _) | ((try dsimp only); omega) | (simp; done) | (simp; omega)); done)
    | (with_reducible refine Frm.alloc ?_ _; (repeat' first | with_reducible (first | exact hF1 | refine Frm.alloc ?_ _ | refine Frm.set ?_ _ _ ?_ ?_) | ((try dsimp only); omega) | (simp; done) | (simp; omega)); done)
    | (with_reducible refine Frm.set ?_ _ _ ?_ ?_; (repeat' first | with_reducible (first | exact hF1 | refine Frm.alloc ?_ _ | refine Frm.set ?_ _ _ ?_ ?_) | ((try dsimp only); omega) | (simp; done) | (simp; omega)); done)
    | (simp; done) | (simp; omega) | (simp [go_sem]; done) | (simp [go_sem, v6]; done) | (simp [go_sem, v7]; done) | (simp [go_sem, *]; done)
  case rest =>
   obtain ⟨L, K, rfl, rfl, hbw, hFx, hL, hK, l0, l1, l2, g0, g1, g2⟩ := hcut
   obtain ⟨v0, v1, v2, v3, v4, v5⟩ := hFx.cells
   have hSx := hFx.ltS
   have hBx := hFx.mac.lt
   clear p0 p1 p2 p3 p4 p5 h0 h1 h2 hF0 HA HB hM
   go_wp2_with (first
    | (go_at_call 155; refine (z3z ⟨ak, an, ac⟩ o _).mono ?_; rintro e w1 ⟨rfl, hb1⟩; rw [HR.out]; have hF1 : Frm w.heap.size B c d s r o n m w1 := hFx.later hb1; have hbw1 : Below w.heap.size w w1 := hbw.trans (hb1.mono hbw.size); have l0 := (hb1.cell (p := ⟨L, 0, none⟩) hL).trans l0; have l1 := (hb1.cell (p := ⟨L, 1, none⟩) hL).trans l1; have l2 := (hb1.cell (p := ⟨L, 2, none⟩) hL).trans l2; have g0 := (hb1.cell (p := ⟨K, 0, none⟩) hK).trans g0; have g1 := (hb1.cell (p := ⟨K, 1, none⟩) hK).trans g1; have g2 := (hb1.cell (p := ⟨K, 2, none⟩) hK).trans g2; have hL := Nat.lt_of_lt_of_le hL hb1.size; have hK := Nat.lt_of_lt_of_le hK hb1.size; have hB1 := hF1.mac.lt)
    | go_in)
   all_goals go_ret
   all_goals exact ⟨rfl, hbw1⟩
def zT1 := zEp.1
def zM4 := zEp.2.1
def zM6 := zEp.2.2.1
def zOz := zEp.2.2.2
theorem zM7 (B d s t acn : Nat) (c o n : Int) (r : Bool) (m : Mac) (hd : d < 11) (hs : s < 11) (ak an bk bn bc : Int) (HA : Hid (m.reg d = ⟨ak, an, (acn : Int)⟩)) (HB : Hid (m.second s r n = ⟨bk, bn, bc⟩)) (HR : Hid (z14 ⟨ak, an, (acn : Int)⟩ o = (((t : Nat) : Int), 0))) (ht : t < 4) (hac : acn < 4) (hk : (ak == 2) = false) (hv : (bk == 0) = false) (hk3 : (ak == 3) = false) (hv1 : (bk != 1) = false) (w : World) (hM : z09 w B m) :
  Calls tP 120 #[pT (some ⟨B, 0, none⟩), .agg #[A F c, A F d, A F s, .bool r, A F o, A F n]] w fun e w' => e = rT (A F 0) /\ Kept B w w' /\ z09 w' B (m.putCel (acn * 4 + t) bn) := by
 have hB := hM.lt
 have hF0 : Frm w.heap.size B c d s r o n m _ := Frm.start hM
 obtain ⟨p0, p1, p2, p3, p4, p5⟩ := hF0.cells
 obtain ⟨h0, h1, h2⟩ := hF0.mac.reg hd
 rw [HA.out] at h0 h1 h2
 have hd0 : (0 : Int) <= (d : Int) := by omega
 have hd1 : (d : Int) < 11 := by omega
 have ht0 : (0 : Int) <= (t : Int) := by omega
 have ht1 : (t : Int) < 4 := by omega
 have hc0 : (0 : Int) <= (acn : Int) := by omega
 have hc1 : (acn : Int) < 4 := by omega
 have hct : acn * 4 + t < 16 := by omega
 go_enter Tryz.func120, Tryz.ntmps120
 go_wp2_with fail
 go_cut [5, 6] (fun s6 s7 wx => ∃ L K : Nat, s6 = pT (some ⟨L, 0, none⟩) /\ s7 = pT (some ⟨K, 0, none⟩) /\ Below w.heap.size w wx /\ Frm w.heap.size B c d s r o n m wx /\ L < wx.heap.size /\ K < wx.heap.size /\ wx.cell? ⟨L, 0, none⟩ = some (A F ak) /\ wx.cell? ⟨L, 1, none⟩ = some (A F an) /\ wx.cell? ⟨L, 2, none⟩ = some (A F (acn : Int)) /\ wx.cell? ⟨K, 0, none⟩ = some (A F bk) /\ wx.cell? ⟨K, 1, none⟩ = some (A F bn) /\ wx.cell? ⟨K, 2, none⟩ = some (A F bc))
 case first =>
  go_region_held3 (fun w' => w'.cell? ⟨w.heap.size, 0, none⟩ = some (A F c) /\ w'.cell? ⟨w.heap.size, 1, none⟩ = some (A F d) /\ w'.cell? ⟨w.heap.size, 2, none⟩ = some (A F s) /\ w'.cell? ⟨w.heap.size, 3, none⟩ = some (.bool r) /\ w'.cell? ⟨w.heap.size, 4, none⟩ = some (A F o) /\ w'.cell? ⟨w.heap.size, 5, none⟩ = some (A F n) /\ w'.cell? ⟨B, 2 + d * 3, none⟩ = some (A F ak) /\ w'.cell? ⟨B, 2 + d * 3 + 1, none⟩ = some (A F an) /\ w'.cell? ⟨B, 2 + d * 3 + 2, none⟩ = some (A F (acn : Int))) (first | (simp [go_sem]; done) | (simp [go_sem, *]; done) | go_keep) (first
   | (go_at_call 153; go_must (refine (z4y B s c d o n r m hs _ (Frm.mac (S := w.heap.size) (c := c) (d := d) (s := s) (r := r) (o := o) (n := n) (by repeat' first | exact hF0 | exact hF1 | exact hF2 | refine Frm.alloc ?_ _ | refine Frm.drew ?_ | refine Frm.drewN ?_ _ | refine Frm.set ?_ _ _ ?_ ?_ | (intro hh; simp at hh; done) | (intro hh; simp at hh; omega)))).mono ?_; rintro e w1 ⟨rfl, hb1⟩; rw [HB.out]; simp only [Val.v]; have hF1 : Frm w.heap.size B c d s r o n m w1 := Frm.later (by repeat' first | exact hF0 | exact hF1 | exact hF2 | refine Frm.alloc ?_ _ | refine Frm.drew ?_ | refine Frm.drewN ?_ _ | refine Frm.set ?_ _ _ ?_ ?_ | (intro hh; simp at hh; done) | (intro hh; simp at hh; omega)) hb1; have hbw1 : Below w.heap.size w w1 := (by ((refine Below.trans ?_ (hb1.mono ?_)) <;> repeat' first | exact bF _ _ | exact hbw1 | exact hbw2 | refine bA ?_ ?_ _ | refine bS ?_ ?_ _ | refine bD ?_ | refine below_drewN ?_ _ | (simp; done) | (simp; omega) | omega)); obtain ⟨v0, v1, v2, v3, v4, v5⟩ := hF1.cells; obtain ⟨i0, i1, i2⟩ := hF1.mac.reg hd; rw [HA.out] at i0 i1 i2; have hS1 := hF1.ltS; have hB1 := hF1.mac.lt; have v6 := z15 hb1 (w.heap.size + 1); (try simp [go_sem] at v6); have v7 := z15 hb1 (w.heap.size + 1 + 1); (try simp [go_sem] at v7))))
  all_goals (go_wp2_with fail; go_meet)
  all_goals refine ⟨_, _, rfl, rfl, ?_, ?_, ?_, ?_, ?_, ?_, ?_, ?_, ?_, ?_⟩
  all_goals clear HA HB p0 p1 p2 p3 p4 p5 h0 h1 h2 hF0
  all_goals first
   | (with_reducible refine bA ?_ ?_ _; (repeat' first | with_reducible (first | exact hbw1 | refine bA ?_ ?_ _ | refine bS ?_ ?_ _) | ((try dsimp only); omega) | (simp; done) | (simp; omega)); done)
   | (with_reducible refine bS ?_ ?_ _; (repeat' first | with_reducible (first | exact hbw1 | refine bA ?_ ?_ _ | refine bS ?_ ?_ _) | ((try dsimp only); omega) | (simp; done) | (simp; omega)); done)
   | (with_reducible refine Frm.alloc ?_ _; (repeat' first | with_reducible (first | exact hF1 | refine Frm.alloc ?_ _ | refine Frm.set ?_ _ _ ?_ ?_) | ((try dsimp only); omega) | (simp; done) | (simp; omega)); done)
   | (with_reducible refine Frm.set ?_ _ _ ?_ ?_; (repeat' first | with_reducible (first | exact hF1 | refine Frm.alloc ?_ _ | refine Frm.set ?_ _ _ ?_ ?_) | ((try dsimp only); omega) | (simp; done) | (simp; omega)); done)
   | (simp; done) | (simp; omega) | (simp [go_sem]; done) | (simp [go_sem, v6]; done) | (simp [go_sem, v7]; done) | (simp [go_sem, *]; done)
 case rest =>
  obtain ⟨L, K, rfl, rfl, hbw, hFx, hL, hK, l0, l1, l2, g0, g1, g2⟩ := hcut
  obtain ⟨v0, v1, v2, v3, v4, v5⟩ := hFx.cells
  have hSx := hFx.ltS
  have hBx := hFx.mac.lt
  clear p0 p1 p2 p3 p4 p5 h0 h1 h2 hF0 HA HB hM
  go_wp2_with (first
   | (go_at_call 155; refine (z3z ⟨ak, an, (acn : Int)⟩ o _).mono ?_; rintro e w1 ⟨rfl, hb1⟩; rw [HR.out]; have hF1 : Frm w.heap.size B c d s r o n m w1 := hFx.later hb1; have hbw1 : Below w.heap.size w w1 := hbw.trans (hb1.mono hbw.size); have l0 := (hb1.cell (p := ⟨L, 0, none⟩) hL).trans l0; have l1 := (hb1.cell (p := ⟨L, 1, none⟩) hL).trans l1; have l2 := (hb1.cell (p := ⟨L, 2, none⟩) hL).trans l2; have g0 := (hb1.cell (p := ⟨K, 0, none⟩) hK).trans g0; have g1 := (hb1.cell (p := ⟨K, 1, none⟩) hK).trans g1; have g2 := (hb1.cell (p := ⟨K, 2, none⟩) hK).trans g2; have hL := Nat.lt_of_lt_of_le hL hb1.size; have hK := Nat.lt_of_lt_of_le hK hb1.size; have hB1 := hF1.mac.lt; have i0 : w1.cell? ⟨B, 91 + acn * 4 + t, none⟩ = some (A F (m.cel (acn * 4 + t))) := (by rw [Nat.add_assoc]; exact hF1.mac.cel (d := acn * 4 + t) (by omega)); have f0 := hF1.mac.frozen (91 + acn * 4 + t))
   | go_in)
  all_goals go_region
  all_goals go_wp2
  all_goals go_ret
  all_goals have HK : Kept B w w1 := z0e hbw1 B
  all_goals have HM := hF1.mac
  all_goals rw [Nat.add_assoc 91 (acn * 4) t]
  all_goals exact ⟨rfl, (by repeat' first | with_reducible (first | exact HK | refine z1c ?_ | refine kept_set ?_ _ _ | refine z17 ?_ _ _ ?_ | refine z0j ?_ _) | ((try dsimp only); omega)), (by repeat' first | with_reducible (first | exact HM | refine z09.drew ?_ | refine z09.put3 ?_ hd _ _ _ | refine z09.slot3 ?_ ht _ _ _ | refine z09.cel1 ?_ hct _ | refine z09.off ?_ _ _ ?_ | refine z09.alloc ?_ _) | ((try dsimp only); omega))⟩
def Mac.lose (m : Mac) : Mac := { m with reg := fun i => if 1 <= i /\ i <= 5 then z5s else m.reg i }
theorem Mac.lose_put (m : Mac) : m.lose = ((((m.putReg 1 z5s).putReg 2 z5s).putReg 3 z5s).putReg 4 z5s).putReg 5 z5s := by
 unfold Mac.lose Mac.putReg
 congr 1
 funext i
 by_cases h : 1 <= i /\ i <= 5
 ·rw [if_pos h]
  rcases (show i = 1 \/ i = 2 \/ i = 3 \/ i = 4 \/ i = 5 by omega) with rfl | rfl | rfl | rfl | rfl <;> rfl
 ·rw [if_neg h]
  show _ = if i = 5 then z5s else if i = 4 then z5s else if i = 3 then z5s else if i = 2 then z5s else if i = 1 then z5s else m.reg i
  rw [if_neg (by omega), if_neg (by omega), if_neg (by omega), if_neg (by omega), if_neg (by omega)]
theorem zH8 {w : World} {B : Nat} {m : Mac} (hM : z09 w B m) : ∃ w', (Builtin.clear_ #[308] 0 #[.slice (some ⟨B, 5, none⟩) 5 10]).run tP w = .ok (.tuple #[]) w' /\ Kept B w w' /\ z09 w' B m.lose := by
 have hst := run_storeCells_cells (P := tP) B 5 (List.replicate 15 (A F 0)) 0 w (by
  intro j hj
  rw [List.length_replicate] at hj
  rw [hM.at _ (by omega)]; rfl) (by intro j hj; exact hM.frozen _) (by intro v hv'; rw [List.eq_of_mem_replicate hv']; rfl)
 simp only [Nat.add_zero] at hst
 have hzc : (Builtin.zeroCells (Value.agg #[A F 0, A F 0, A F 0]).cells 5).toList = List.replicate 15 (A F 0) := by first | rfl | kernel_rfl | (simp [Builtin.zeroCells]; rfl)
 refine ⟨w.setCells B 5 (List.replicate 15 (A F 0)), ?_, ?_, ?_⟩
 ·generalize List.replicate 15 (Value.int .i64 0) = zs at hst hzc ⊢
  simp [Builtin.clear_, run_underlying Tryz.underlying308, hzc, hst]
 ·show Kept B w (((((((((((((((w.setCell ⟨B, 5, none⟩ _).setCell ⟨B, 6, none⟩ _).setCell ⟨B, 7, none⟩ _).setCell ⟨B, 8, none⟩ _).setCell ⟨B, 9, none⟩ _).setCell ⟨B, 10, none⟩ _).setCell ⟨B, 11, none⟩ _).setCell ⟨B, 12, none⟩ _).setCell ⟨B, 13, none⟩ _).setCell ⟨B, 14, none⟩ _).setCell ⟨B, 15, none⟩ _).setCell ⟨B, 16, none⟩ _).setCell ⟨B, 17, none⟩ _).setCell ⟨B, 18, none⟩ _).setCell ⟨B, 19, none⟩ _)
  repeat with_reducible refine kept_set ?_ _ _
  exact z1b B w
 ·rw [m.lose_put]
  exact ((((hM.put3 (d := 1) (by decide) 0 0 0).put3 (d := 2) (by decide) 0 0 0).put3 (d := 3) (by decide) 0 0 0).put3 (d := 4) (by decide) 0 0 0).put3 (d := 5) (by decide) 0 0 0
theorem Tryz.infoI : (Tryz.prog.info? 2).map (fun i => (i.zero, i.size, i.bytes)) = some (some (A F 0), 1, 8) := by kernel_rfl
theorem zUq {w : World} {x : Value} {e : TypeId} {b : Nat} (hb : b = w.heap.size) : ∀ (j : Nat) u, [x][j]? = some u -> (w.alloc (cT #[x] e)).cell? ((⟨b, 0, none⟩ : Addr).add j) = some u := by
 subst hb
 intro j u hj
 match j, hj with
 | 0, hj => simp at hj; subst hj; simp [Addr.add]
theorem z1n.shape {w : World} {B : Nat} {v : Value} {L : List Int} (h : z1n w B v L) : ∃ a cap, v = .slice a L.length cap := by
 rcases h.2 with ⟨hv, hn⟩ | ⟨g, cap, _, hv, _⟩
 ·exact ⟨none, 0, by rw [hv, hn]⟩
 ·exact ⟨some ⟨g, 0, none⟩, cap, hv⟩
theorem zPn {w : World} {B : Nat} {e : TypeId} {z : Nat} {v : Value} {n : Nat} {xs : List Value} (h : w.ownsRow (B + 1) e z v n xs) : some B ≠ v.ownBlock := by
 intro hh
 have := h.lt B hh.symm
 omega
def zNq (L : List Int) (n : Int) : List Int := if L.length < 50 then L ++ [n] else L
theorem zUc (B : Nat) (n : Int) (m : Mac) (L : List Int) (w : World) (hM : z09 w B m) (hO : z1n w B m.out L) :
  Calls tP 158 #[pT (some ⟨B, 0, none⟩), A F n] w fun e w' => e = rT (.tuple #[]) /\ Below B w w' /\ ∃ v', z09 w' B (m.setOut v') /\ z1n w' B v' (zNq L n) := by
 have hB := hM.lt
 have h0 := hM.outv
 obtain ⟨a, cap, hv⟩ := hO.shape
 have hO' := hO
 rw [hv] at h0 hO'
 have HV : Hid (m.out = .slice a L.length cap) := hv
 have hg : zNq L n = if L.length < 50 then L ++ [n] else L := rfl
 by_cases hk : L.length < 50
 ·rw [if_pos hk] at hg
  have HG : Hid (zNq L n = L ++ [n]) := hg
  have HO : Hid (w.ownsRow (B + 1) 2 1 (.slice a L.length cap) L.length (L.map (Value.int .i64))) := hO'
  have HL : Hid (L.length < 50) := hk
  have hk0 : decide ((L.length : Int) < 50) = true := by simp; omega
  clear hv hg hO' hO hk
  obtain ⟨i0, hi, hz0, hz1, hz2⟩ := info_parts Tryz.infoI
  generalize HN : L.length = k at h0 hk0
  have HN' : Hid (L.length = k) := HN
  clear HN
  go_enter Tryz.func158, Tryz.ntmps158
  go_wp2_with (at_builtin; refine wpList_append_own _ rfl (.tmp 14) (.tmp 16) 73 rfl (B + 1) 2 i0 (A F 0) 1 8 Tryz.underlying73 hi hz0 hz1 hz2 rfl (by decide) (.slice a k cap) k (L.map (Value.int .i64)) rfl (by have := HO.out; rw [HN'.out] at this; exact this.alloc _) ⟨w.heap.size, 0, none⟩ 1 1 [A F n] rfl rfl (zUq rfl) (by intro u hu; simp at hu; subst hu; rfl) (by have := HL.out; have := HN'.out; unfold maxLen; omega) (by have := HL.out; have := HN'.out; omega) (by simp; omega) ?_; intro v5 w5 hown5 hgrow5 _; have hM5 : z09 w5 B m := (hgrow5.block B (by simp; omega) (by have := HO.out; rw [HN'.out] at this; exact zPn this)).trans (hM.alloc _); have hB5 := hM5.lt; have k0 := hM5.outv; have f0 := hM5.frozen 108; obtain ⟨g5, cp5, hv5⟩ : ∃ g5 cp5, v5 = .slice (some ⟨g5, 0, none⟩) (k + 1) cp5 := (by rcases hown5.2 with ⟨_, h⟩ | ⟨g, cap', _, h, _⟩; (omega); (exact ⟨g, cap', h⟩)); subst hv5)
  go_end0
  refine ⟨rfl, ?_, .slice (some ⟨g5, 0, none⟩) (k + 1) cp5, hM5.putOut _, ?_⟩
  ·have hr : B <= (⟨B, 108, none⟩ : Addr).block := Nat.le_refl _
   refine bS ?_ hr _
   exact ((bF _ _).alloc (by omega) _).grown hgrow5 (by simp; omega) (fun j hj => by
    have := HO.out
    rw [HN'.out] at this
    have := this.lt j hj
    omega)
  ·rw [HG.out]
   unfold z1n
   rw [List.length_append, HN'.out, List.map_append]
   exact ownsRow_setCell_below hown5 (Nat.lt_succ_self B) _
 ·rw [if_neg hk] at hg
  have hk0 : decide ((L.length : Int) < 50) = false := by simp; omega
  have HG : Hid (zNq L n = L) := hg
  have HO : Hid (z1n w B m.out L) := hO
  clear hv hg hO' hO hk
  go_enter Tryz.func158, Tryz.ntmps158
  go_wp2
  go_end0
  exact ⟨rfl, bF _ _, m.out, hM, by rw [HG.out]; exact HO.out⟩
theorem z09.put0 {w : World} {B : Nat} {m : Mac} (h : z09 w B m) (k n c : Int) : z09 (((w.setCell ⟨B, 2, none⟩ (A F k)).setCell ⟨B, 3, none⟩ (A F n)).setCell ⟨B, 4, none⟩ (A F c)) B (m.putReg 0 ⟨k, n, c⟩) := h.put3 (d := 0) (by decide) k n c
theorem zQs (B : Nat) (m : Mac) (fk fn fc : Int) (HA : Hid (m.reg 1 = ⟨fk, fn, fc⟩)) (E : Int) (HW : Hid (z2r ⟨fk, fn, fc⟩ = E)) (hE : (E != 0) = true) (w : World) (hM : z09 w B m) : (Calls tP 121 #[pT (some ⟨B, 0, none⟩), A F 1] w fun e w' => e = rT (A F E) /\ Below w.heap.size w w') /\ (Calls tP 121 #[pT (some ⟨B, 0, none⟩), A F 3] w fun e w' => e = rT (A F E) /\ Below w.heap.size w w') := by
 refine ⟨?_, ?_⟩
 all_goals
  have hB := hM.lt
  obtain ⟨h0, h1, h2⟩ := hM.reg (d := 1) (by decide)
  simp only [Nat.reduceMul, Nat.reduceAdd] at h0 h1 h2
  rw [HA.out] at h0 h1 h2
 all_goals
  go_enter Tryz.func121, Tryz.ntmps121
  go_wp2_with (first
   | (go_at_call 79; refine (zDm fk fn fc _).mono ?_; rintro e w1 ⟨rfl, hb1⟩; rw [HW.out]; have hM1 : z09 w1 B m := (hM.alloc _).later hb1; have hB1 := hM1.lt; have v6 := z15 hb1 w.heap.size (by simp); have hS1 := v6.2.2; have hbw : Below w.heap.size w w1 := z6m hb1; have u1 : w1.cell? ⟨w.heap.size, 1, none⟩ = some (A F fn) := (by rw [v6.1]; simp [go_sem]))
   | go_in)
  go_ret
  exact ⟨rfl, hbw⟩
def zUt := fun B m fk fn fc HA E HW hE w hM => (@zQs B m fk fn fc HA E HW hE w hM).1
def zUs := fun B m fk fn fc HA E HW hE w hM => (@zQs B m fk fn fc HA E HW hE w hM).2
theorem zRm (B : Nat) (m : Mac) (fk fn fc : Int) (HA : Hid (m.reg 1 = ⟨fk, fn, fc⟩)) (w : World) (hM : z09 w B m) :
  Calls tP 121 #[pT (some ⟨B, 0, none⟩), A F 2] w fun e w' => e = rT (A F 0) /\ Kept B w w' /\ z09 w' B (m.lose.putReg 0 ⟨1, m.time, 0⟩) := by
 have hB := hM.lt
 obtain ⟨h0, h1, h2⟩ := hM.reg (d := 1) (by decide)
 simp only [Nat.reduceMul, Nat.reduceAdd] at h0 h1 h2
 rw [HA.out] at h0 h1 h2
 go_enter Tryz.func121, Tryz.ntmps121
 go_wp2_with fail
 have hM1 := hM.alloc (cT #[A F fk, A F fn, A F fc] 178)
 have hS1 : w.heap.size < (w.alloc (cT #[A F fk, A F fn, A F fc] 178)).heap.size := by simp
 obtain ⟨wc, hc, hkc, hmc⟩ := zH8 hM1
 rw [hc]
 clear hc
 have hBc := hmc.lt
 have t0 : wc.cell? ⟨B, 107, none⟩ = some (A F m.time) := hmc.time
 go_wp2_with fail
 go_region_held3 (fun w' => w'.cell? ⟨B, 107, none⟩ = some (A F m.time)) (first | (simp [go_sem]; done) | (simp [go_sem, *]; done) | go_keep) (first
  | (go_at_call 156; go_must (refine (z6e m.time _).mono ?_; rintro e w3 ⟨rfl, hb3⟩; have hb3 := z6j hb3; have hM3 := hmc.later hb3; have hB3 := hM3.lt; obtain ⟨i0, i1, i2⟩ := hM3.reg (d := 0) (by decide); simp only [Nat.reduceMul, Nat.reduceAdd] at i0 i1 i2; have f0 := hM3.frozen 2; have f1 := hM3.frozen 3; have f2 := hM3.frozen 4; have y0 : w3.cell? ⟨B, 107, none⟩ = some (A F m.time) := hM3.time; simp only [Val.v, numF])))
 all_goals have HK : Kept B w w3 := z1w (z1t (z0j (z1b B w) _) hkc) hb3
 all_goals go_wp2
 all_goals go_ret
 all_goals have HM := hM3
 all_goals exact ⟨rfl, (by repeat' first | with_reducible (first | exact HK | refine z1c ?_ | refine kept_set ?_ _ _ | refine z17 ?_ _ _ ?_ | refine z0j ?_ _) | ((try dsimp only); omega)), (by repeat' first | with_reducible (first | exact HM | refine z09.drew ?_ | refine z09.put0 ?_ _ _ _ | refine z09.off ?_ _ _ ?_ | refine z09.alloc ?_ _) | ((try dsimp only); omega))⟩
theorem zQr (B : Nat) (m : Mac) (fk fn fc : Int) (HA : Hid (m.reg 1 = ⟨fk, fn, fc⟩)) : (∀ (HW : Hid (z2r ⟨fk, fn, fc⟩ = 0)) (rk rn rc : Int) (HF : Hid (z7w fn = ⟨rk, rn, rc⟩)) (w : World) (hM : z09 w B m), Calls tP 121 #[pT (some ⟨B, 0, none⟩), A F 1] w fun e w' => e = rT (A F 0) /\ Kept B w w' /\ z09 w' B (m.lose.putReg 0 ⟨rk, rn, rc⟩)) /\ (∀ (L : List Int) (HW : Hid (z2r ⟨fk, fn, fc⟩ = 0)) (w : World) (hM : z09 w B m) (hO : z1n w B m.out L), Calls tP 121 #[pT (some ⟨B, 0, none⟩), A F 3] w fun e w' => e = rT (A F 0) /\ Below B w w' /\ ∃ v', z09 w' B ((m.lose.setOut v').putReg 0 ⟨1, 0, 0⟩) /\ z1n w' B v' (zNq L fn)) := by
 refine ⟨?_, ?_⟩
 intro HW rk rn rc HF w hM
 rotate_left
 intro L HW w hM hO
 rotate_left
 all_goals
  have hB := hM.lt
  obtain ⟨h0, h1, h2⟩ := hM.reg (d := 1) (by decide)
  simp only [Nat.reduceMul, Nat.reduceAdd] at h0 h1 h2
  rw [HA.out] at h0 h1 h2
 rotate_left
 have HO : Hid (z1n w B m.out L) := hO
 clear hO
 rotate_left
 all_goals
  go_enter Tryz.func121, Tryz.ntmps121
  go_wp2_with (first
   | (go_at_call 79; refine (zDm fk fn fc _).mono ?_; rintro e w1 ⟨rfl, hb1⟩; rw [HW.out]; have hM1 : z09 w1 B m := (hM.alloc _).later hb1; have hB1 := hM1.lt; have v6 := z15 hb1 w.heap.size (by simp); have hS1 := v6.2.2; have hbw : Below w.heap.size w w1 := z6m hb1; have u1 : w1.cell? ⟨w.heap.size, 1, none⟩ = some (A F fn) := (by rw [v6.1]; simp [go_sem]))
   | go_in)
  obtain ⟨wc, hc, hkc, hmc⟩ := zH8 hM1
  rw [hc]
  clear hc
  have u2 : wc.cell? ⟨w.heap.size, 1, none⟩ = some (A F fn) := (World.cell?_of_block (a := ⟨w.heap.size, 1, none⟩) (hkc.block w.heap.size hS1 (by intro h; injection h with h; omega))).trans u1
  have hBc := hmc.lt
  have hSc : w.heap.size < wc.heap.size := Nat.lt_of_lt_of_le hS1 hkc.size
  go_wp2_with fail
 ·go_region_held3 (fun w' => w'.cell? ⟨w.heap.size, 1, none⟩ = some (A F fn)) (first | (simp [go_sem]; done) | (simp [go_sem, *]; done) | go_keep) (first
   | (go_at_call 157; go_must (refine (zQw fn _).mono ?_; rintro e w3 ⟨rfl, hb3⟩; have hb3 := z6j hb3; have hM3 := hmc.later hb3; have hB3 := hM3.lt; obtain ⟨i0, i1, i2⟩ := hM3.reg (d := 0) (by decide); simp only [Nat.reduceMul, Nat.reduceAdd] at i0 i1 i2; have f0 := hM3.frozen 2; have f1 := hM3.frozen 3; have f2 := hM3.frozen 4; have y0 : w3.cell? ⟨w.heap.size, 1, none⟩ = some (A F fn) := (hb3.cell (p := ⟨w.heap.size, 1, none⟩) hSc).trans u2; rw [HF.out]; simp only [Val.v])))
  all_goals have HK : Kept B w w3 := z1w (z1t (z0e hbw B) hkc) hb3
  all_goals go_wp2
  all_goals go_ret
  all_goals have HM := hM3
  all_goals exact ⟨rfl, (by repeat' first | with_reducible (first | exact HK | refine z1c ?_ | refine kept_set ?_ _ _ | refine z17 ?_ _ _ ?_ | refine z0j ?_ _) | ((try dsimp only); omega)), (by repeat' first | with_reducible (first | exact HM | refine z09.drew ?_ | refine z09.put0 ?_ _ _ _ | refine z09.off ?_ _ _ ?_ | refine z09.alloc ?_ _) | ((try dsimp only); omega))⟩
 ·go_wp2_with (first
   | (go_at_call 158; refine (zUc B fn m.lose L _ hmc (z1n.kept (z1n.kept HO.out (z0e hbw B)) hkc)).mono ?_; rintro e w4 ⟨rfl, hb4, v4, hM4, hO4⟩; have HO4 : Hid (z1n w4 B v4 (zNq L fn)) := hO4; clear hO4; have hB4 := hM4.lt; have t0 : w4.cell? ⟨B, 107, none⟩ = some (A F m.time) := hM4.time)
   | fail)
  go_region_held3 (fun w' => w'.cell? ⟨B, 107, none⟩ = some (A F m.time)) (first | (simp [go_sem]; done) | (simp [go_sem, *]; done) | go_keep) (first
   | (go_at_call 156; go_must (refine (z6e 0 _).mono ?_; rintro e w3 ⟨rfl, hb3⟩; have hb3 := z6j hb3; have hM3 := hM4.later hb3; have hB3 := hM3.lt; obtain ⟨i0, i1, i2⟩ := hM3.reg (d := 0) (by decide); simp only [Nat.reduceMul, Nat.reduceAdd] at i0 i1 i2; have f0 := hM3.frozen 2; have f1 := hM3.frozen 3; have f2 := hM3.frozen 4; have y0 : w3.cell? ⟨B, 107, none⟩ = some (A F m.time) := hM3.time; simp only [Val.v, numF])))
  all_goals go_wp2
  all_goals go_ret
  all_goals have HK : Kept B w4 w3 := z0e hb3 B
  all_goals have HM := hM3
  all_goals exact ⟨rfl, ((hbw.mono (by omega)).trans (z4d hkc hB1)).trans (hb4.trans (z4d (by repeat' first | with_reducible (first | exact HK | refine z1c ?_ | refine kept_set ?_ _ _ | refine z17 ?_ _ _ ?_ | refine z0j ?_ _) | ((try dsimp only); omega)) hB4)), v4, (by repeat' first | with_reducible (first | exact HM | refine z09.drew ?_ | refine z09.put0 ?_ _ _ _ | refine z09.off ?_ _ _ ?_ | refine z09.alloc ?_ _) | ((try dsimp only); omega)), z1n.kept HO4.out (by repeat' first | with_reducible (first | exact HK | refine z1c ?_ | refine kept_set ?_ _ _ | refine z17 ?_ _ _ ?_ | refine z0j ?_ _) | ((try dsimp only); omega))⟩
def zRn := fun B m fk fn fc HA => (@zQr B m fk fn fc HA).1
def zRo := fun B m fk fn fc HA => (@zQr B m fk fn fc HA).2
end
section
open Go.ChangeShapes Go.WideShapes Go.ChangeAt Go.RowKit
section
variable {a : Abs} {p v : Val} {o t : Int} {E : Int} {d : Nat}
theorem zTz (h : z14 p o = (t, E)) (hE : E ≠ 0) : z45 a d p o = (E, a) := by unfold z45; rw [h]; exact if_pos hE
theorem z9m (h : z14 p o = (t, 0)) : z45 a d p o = if (a.at p t.toNat).k = 0 then (8, a) else (0, a.putReg d (a.at p t.toNat)) := by
 unfold z45; rw [h]; exact if_neg (by simp)
theorem zNd (h : z14 p o = (t, 0)) (hk : p.k = 2) : z45 a d p o = (0, a.putReg d ⟨1, a.word t.toNat, 0⟩) := by
 have e : a.at p t.toNat = ⟨1, a.word t.toNat, 0⟩ := if_pos hk
 rw [z9m h, e]; exact if_neg (show ¬ (1 : Int) = 0 by decide)
theorem zNe (h : z14 p o = (t, 0)) (hk : p.k = 3) (hn : (a.slot t.toNat).k ≠ 0) : z45 a d p o = (0, a.putReg d (a.slot t.toNat)) := by
 have e : a.at p t.toNat = a.slot t.toNat := by unfold Abs.at; rw [if_neg (by omega), if_pos hk]
 rw [z9m h, e]; exact if_neg hn
theorem zIx (h : z14 p o = (t, 0)) (hk : p.k = 3) (hn : (a.slot t.toNat).k = 0) : z45 a d p o = (8, a) := by
 have e : a.at p t.toNat = a.slot t.toNat := by unfold Abs.at; rw [if_neg (by omega), if_pos hk]
 rw [z9m h, e]; exact if_pos hn
theorem zNf (h : z14 p o = (t, 0)) (hk : p.k = 4) : z45 a d p o = (0, a.putReg d ⟨1, a.cel (p.c.toNat * 4 + t.toNat), 0⟩) := by
 have e : a.at p t.toNat = ⟨1, a.cel (p.c.toNat * 4 + t.toNat), 0⟩ := by unfold Abs.at; rw [if_neg (by omega), if_neg (by omega)]; rfl
 rw [z9m h, e]; exact if_neg (show ¬ (1 : Int) = 0 by decide)
theorem zP2 (h : z14 p o = (t, E)) (hE : E ≠ 0) : z38 a p v o = (E, a) := by unfold z38; rw [h]; exact if_pos hE
theorem zP3 (h : z14 p o = (t, 0)) : z38 a p v o = if p.k = 2 then (6, a) else if v.k = 0 then (8, a) else if p.k = 3 then (0, a.putSlot t.toNat v) else if v.k ≠ 1 then (1, a) else (0, a.putCel (p.c.toNat * 4 + t.toNat) v.n) := by
 unfold z38; rw [h]; exact if_neg (by simp)
end
def Res (B : Nat) (w w' : World) (m : Mac) (E : Int) (a : Abs) : Prop :=
 Below B w w' /\ ∃ m' L', z09 w' B m' /\ z1n w' B m'.out L' /\ m'.step = m.step /\ m'.steps = m.steps /\ (E = 0 -> m'.abs L' = a)
theorem Res.of_kept {B : Nat} {w w' : World} {m m' : Mac} {L : List Int} {E : Int} {a : Abs} (hM : z09 w B m) (hO : z1n w B m.out L) (hk : Kept B w w') (hm : z09 w' B m') (ho : m'.out = m.out) (h1 : m'.step = m.step) (h2 : m'.steps = m.steps) (ha : E = 0 -> m'.abs L = a) : Res B w w' m E a :=
 ⟨z4d hk hM.lt, m', L, hm, by rw [ho]; exact hO.kept hk, h1, h2, ha⟩
theorem Res.of_below {B : Nat} {w w' : World} {m : Mac} {L : List Int} {E : Int} {a : Abs} (hM : z09 w B m) (hO : z1n w B m.out L) (hb : Below w.heap.size w w') (ha : E = 0 -> m.abs L = a) : Res B w w' m E a :=
 Res.of_kept hM hO (z0e hb B) (hM.later hb) rfl rfl rfl ha
section
variable {B d s : Nat} {c o n : Int} {r : Bool} {m : Mac} {L : List Int} {w : World}
theorem zXx (hd : d < 11) (hs : s < 11) (hM : z09 w B m) :
  Calls tP 118 #[pT (some ⟨B, 0, none⟩), .agg #[A F c, A F d, A F s, .bool r, A F o, A F n]] w fun e w' => e = rT (.tuple #[A F (askF c (m.reg d) (m.second s r n) r o n).1, A F (askF c (m.reg d) (m.second s r n) r o n).2]) /\ Below w.heap.size w w' := by
 rcases h1 : m.reg d with ⟨ak, an, ac⟩
 rcases h2 : m.second s r n with ⟨bk, bn, bc⟩
 exact zXw B d s c o n r m hd hs ak an ac bk bn bc h1 h2 w hM
theorem zTx (hd : d < 11) (hs : s < 11) (hM : z09 w B m) (hO : z1n w B m.out L) (hok : (m.abs L).Ok) :
  Calls tP 119 #[pT (some ⟨B, 0, none⟩), .agg #[A F c, A F d, A F s, .bool r, A F o, A F n]] w fun e w' => e = rT (A F (z45 (m.abs L) d (m.reg s) o).1) /\ Res B w w' m (z45 (m.abs L) d (m.reg s) o).1 (z45 (m.abs L) d (m.reg s) o).2 := by
 have hp : (m.reg s).Ok := hok.reg s hs
 rcases h1 : m.reg s with ⟨fk, fn, fc⟩
 rw [h1] at hp
 have k0 : 0 <= fk := hp.k0
 have k4 : fk <= 4 := hp.k4
 rcases h2 : z14 ⟨fk, fn, fc⟩ o with ⟨t, E⟩
 by_cases hE : E = 0
 ·subst hE
  have hr : (z14 ⟨fk, fn, fc⟩ o).2 = 0 := by rw [h2]
  have hb := zE6 hr
  have hi : 2 <= fk \/ fk < 0 := zKb hr
  rw [h2] at hb
  obtain ⟨j, rfl⟩ := Int.eq_ofNat_of_zero_le hb.1
  have hj := hb.2
  unfold z28 at hj
  by_cases hk2 : fk = 2
  ·rw [if_pos hk2] at hj
   rw [zNd h2 hk2]
   exact (zQf B d s j c o n r m hd hs fk fn fc h1 (by show j < 8; omega) h2 (by simpa using hk2) w hM).mono fun e w' ⟨he, hk, hm⟩ => ⟨he, Res.of_kept hM hO hk hm rfl rfl rfl fun _ => rfl⟩
  rw [if_neg hk2] at hj
  by_cases hk3 : fk = 3
  ·rw [if_pos hk3] at hj
   rcases h3 : m.slot j with ⟨sk, sn, sc⟩
   by_cases hsk : sk = 0
   ·rw [zIx h2 hk3 (by show (m.slot j).k = 0; rw [h3]; exact hsk)]
    exact (zNb B d s j c o n r m hd hs fk fn fc h1 (by show j < 16; omega) h2 (by simpa using hk2) (by simpa using hk3) sk sn sc h3 (by simpa using hsk) w hM).mono fun e w' ⟨he, hb⟩ => ⟨he, Res.of_below hM hO hb fun h => absurd h (by simp)⟩
   ·rw [zNe h2 hk3 (by show (m.slot j).k ≠ 0; rw [h3]; exact hsk)]
    exact (zQg B d s j c o n r m hd hs fk fn fc h1 (by show j < 16; omega) h2 (by simpa using hk2) (by simpa using hk3) sk sn sc h3 (by simpa using hsk) w hM).mono fun e w' ⟨he, hk, hm⟩ => ⟨he, Res.of_kept hM hO hk hm rfl rfl rfl fun _ => by show _ = (m.abs L).putReg d (m.slot j); rw [h3]; rfl⟩
  rw [if_neg hk3] at hj
  have hk4 : fk = 4 := by omega
  obtain ⟨q, hq⟩ := Int.eq_ofNat_of_zero_le hp.c0
  have hq' : fc = (q : Int) := hq
  subst hq'
  have hq3 : (q : Int) <= 3 := hp.c3
  rw [zNf h2 hk4]
  exact (zQh B d s j q c o n r m hd hs fk fn h1 (by omega) (by show j < 4; omega) h2 (by simpa using hk2) (by simpa using hk3) (by simpa using hk4) w hM).mono fun e w' ⟨he, hk, hm⟩ => ⟨he, Res.of_kept hM hO hk hm rfl rfl rfl fun _ => rfl⟩
 ·rw [zTz h2 hE]
  exact (zWo B d s c o n r m hd hs fk fn fc h1 t E h2 (by simpa using hE) w hM).mono fun e w' ⟨he, hb⟩ => ⟨he, Res.of_below hM hO hb fun h => absurd h hE⟩
theorem zP0 (hd : d < 11) (hs : s < 11) (hM : z09 w B m) (hO : z1n w B m.out L) (hok : (m.abs L).Ok) :
  Calls tP 120 #[pT (some ⟨B, 0, none⟩), .agg #[A F c, A F d, A F s, .bool r, A F o, A F n]] w fun e w' => e = rT (A F (z38 (m.abs L) (m.reg d) (m.second s r n) o).1) /\ Res B w w' m (z38 (m.abs L) (m.reg d) (m.second s r n) o).1 (z38 (m.abs L) (m.reg d) (m.second s r n) o).2 := by
 have hp : (m.reg d).Ok := hok.reg d hd
 rcases h1 : m.reg d with ⟨fk, fn, fc⟩
 rcases hv : m.second s r n with ⟨bk, bn, bc⟩
 rw [h1] at hp
 have k0 : 0 <= fk := hp.k0
 have k4 : fk <= 4 := hp.k4
 rcases h2 : z14 ⟨fk, fn, fc⟩ o with ⟨t, E⟩
 by_cases hE : E = 0
 ·subst hE
  have hr : (z14 ⟨fk, fn, fc⟩ o).2 = 0 := by rw [h2]
  have hb := zE6 hr
  have hi : 2 <= fk \/ fk < 0 := zKb hr
  rw [h2] at hb
  obtain ⟨j, rfl⟩ := Int.eq_ofNat_of_zero_le hb.1
  have hj := hb.2
  unfold z28 at hj
  rw [zP3 h2]
  by_cases hk2 : fk = 2
  ·rw [if_pos hk2]
   exact (zM4 B d s j c o n r m hd hs fk fn fc bk bn bc h1 hv h2 (by simpa using hk2) w hM).mono fun e w' ⟨he, hb⟩ => ⟨he, Res.of_below hM hO hb fun h => absurd h (by simp)⟩
  rw [if_neg hk2] at hj ⊢
  by_cases hb0 : bk = 0
  ·rw [if_pos hb0]
   exact (zM6 B d s j c o n r m hd hs fk fn fc bk bn bc h1 hv h2 (by simpa using hk2) (by simpa using hb0) w hM).mono fun e w' ⟨he, hb⟩ => ⟨he, Res.of_below hM hO hb fun h => absurd h (by simp)⟩
  rw [if_neg hb0]
  by_cases hk3 : fk = 3
  ·rw [if_pos hk3] at hj ⊢
   exact (zM5 B d s j c o n r m hd hs fk fn fc bk bn bc h1 hv h2 (by show j < 16; omega) (by simpa using hk2) (by simpa using hb0) (by simpa using hk3) w hM).mono fun e w' ⟨he, hk, hm⟩ => ⟨he, Res.of_kept hM hO hk hm rfl rfl rfl fun _ => rfl⟩
  rw [if_neg hk3] at hj ⊢
  by_cases hb1 : bk = 1
  ·rw [if_neg (by simpa using hb1)]
   obtain ⟨q, hq⟩ := Int.eq_ofNat_of_zero_le hp.c0
   have hq' : fc = (q : Int) := hq
   subst hq'
   have hq3 : (q : Int) <= 3 := hp.c3
   exact (zM7 B d s j q c o n r m hd hs fk fn bk bn bc h1 hv h2 (by show j < 4; omega) (by omega) (by simpa using hk2) (by simpa using hb0) (by simpa using hk3) (by simpa using hb1) w hM).mono fun e w' ⟨he, hk, hm⟩ => ⟨he, Res.of_kept hM hO hk hm rfl rfl rfl fun _ => rfl⟩
  ·rw [if_pos hb1]
   exact (zOz B d s j c o n r m hd hs fk fn fc bk bn bc h1 hv h2 (by simpa using hk2) (by simpa using hb0) (by simpa using hk3) (by simpa using hb1) w hM).mono fun e w' ⟨he, hb⟩ => ⟨he, Res.of_below hM hO hb fun h => absurd h (by simp)⟩
 ·rw [zP2 h2 hE]
  exact (zT1 B d s c o n r m hd hs fk fn fc bk bn bc h1 hv t E h2 (by simpa using hE) w hM).mono fun e w' ⟨he, hb⟩ => ⟨he, Res.of_below hM hO hb fun h => absurd h hE⟩
theorem zUv (hn : n = 1 \/ n = 2 \/ n = 3) (hM : z09 w B m) (hO : z1n w B m.out L) :
  Calls tP 121 #[pT (some ⟨B, 0, none⟩), A F n] w fun e w' => e = rT (A F (z69 (m.abs L) n).1) /\ Res B w w' m (z69 (m.abs L) n).1 (z69 (m.abs L) n).2 := by
 rcases h1 : m.reg 1 with ⟨fk, fn, fc⟩
 have h1' : (m.abs L).reg 1 = ⟨fk, fn, fc⟩ := h1
 unfold z69
 rw [h1']
 rcases hn with rfl | rfl | rfl
 ·by_cases hw : z2r ⟨fk, fn, fc⟩ = 0
  ·rw [if_neg (by simp [hw]), if_pos rfl]
   rcases hf : z7w fn with ⟨rk, rn, rc⟩
   exact (zRn B m fk fn fc h1 hw rk rn rc hf w hM).mono fun e w' ⟨he, hk, hm⟩ => ⟨he, Res.of_kept hM hO hk hm rfl rfl rfl fun _ => rfl⟩
  ·rw [if_pos ⟨by decide, hw⟩]
   exact (zUt B m fk fn fc h1 _ rfl (by simpa using hw) w hM).mono fun e w' ⟨he, hb⟩ => ⟨he, Res.of_below hM hO hb fun h => absurd h hw⟩
 ·rw [if_neg (by simp), if_neg (by decide), if_pos rfl]
  exact (zRm B m fk fn fc h1 w hM).mono fun e w' ⟨he, hk, hm⟩ => ⟨he, Res.of_kept hM hO hk hm rfl rfl rfl fun _ => rfl⟩
 ·by_cases hw : z2r ⟨fk, fn, fc⟩ = 0
  ·rw [if_neg (by simp [hw]), if_neg (by decide), if_neg (by decide)]
   exact (zRo B m fk fn fc h1 L hw w hM hO).mono fun e w' ⟨he, hb, v', hm, ho⟩ => ⟨he, hb, _, _, hm, ho, rfl, rfl, fun _ => rfl⟩
  ·rw [if_pos ⟨by decide, hw⟩]
   exact (zUs B m fk fn fc h1 _ rfl (by simpa using hw) w hM).mono fun e w' ⟨he, hb⟩ => ⟨he, Res.of_below hM hO hb fun h => absurd h hw⟩
theorem zO0 (hd : d < 11) (hs : s < 11) (hn : In64 n) (hM : z09 w B m) (hO : z1n w B m.out L) (hok : (m.abs L).Ok) :
  Calls tP 122 #[pT (some ⟨B, 0, none⟩), .agg #[A F c, A F d, A F s, .bool r, A F o, A F n]] w fun e w' => e = rT (A F (z2q c (m.reg d) (m.second s r n)).2) /\ Res B w w' m (z2q c (m.reg d) (m.second s r n)).2 ((m.abs L).putReg d (z2q c (m.reg d) (m.second s r n)).1) := by
 have h2 : (m.second s r n).Ok := hok.second hs r hn
 rcases hm : z2q c (m.reg d) (m.second s r n) with ⟨⟨mk, mn, mc⟩, E⟩
 exact (zNz B d s c o n r m hd hs h2.n.1 h2.n.2 mk mn mc E hm w hM).mono fun e w' ⟨he, hk, hm⟩ => ⟨he, Res.of_kept hM hO hk hm rfl rfl rfl fun _ => rfl⟩
end
end
section
open Go.ChangeShapes Go.WideShapes Go.ChangeAt Go.RowKit
attribute [local simp] z00 z0d z07
theorem zSx {w w1 : World} {Z : Obj} (h : Below (w.alloc Z).heap.size (w.alloc Z) w1) : Below w.heap.size w w1 :=
 ((bF _ _).alloc (Nat.le_refl _) _).trans (h.mono (by simp))
theorem do_ask (B d s : Nat) (c o n : Int) (r : Bool) (m : Mac) (L : List Int) (hd : d < 11) (hs : s < 11) (w : World) (hM : z09 w B m) (hO : z1n w B m.out L) (h1 : 15 <= c) (h2 : c <= 24) :
  Calls tP 80 #[pT (some ⟨B, 0, none⟩), .agg #[A F c, A F d, A F s, .bool r, A F o, A F n]] w fun e w' => e = rT (.tuple #[A F (askF c (m.reg d) (m.second s r n) r o n).1, A F (askF c (m.reg d) (m.second s r n) r o n).2]) /\ Below w.heap.size w w' := by
 have hM0 := hM.alloc (cT #[A F c, A F d, A F s, .bool r, A F o, A F n] 80)
 have hO0 : z1n (w.alloc (cT #[A F c, A F d, A F s, .bool r, A F o, A F n] 80)) B m.out L := hO.kept (z0j (z1b B w) _)
 have HO : Hid (z1n w B m.out L) := hO
 have HO0 : Hid (z1n _ B m.out L) := hO0
 clear hO hO0
 have HQ : Hid ((decide (15 <= c) && decide (c <= 24)) = true) := by show (decide (15 <= c) && decide (c <= 24)) = true; simp; omega
 rcases hA : askF c (m.reg d) (m.second s r n) r o n with ⟨X, Y⟩
 have HA : Hid (askF c (m.reg d) (m.second s r n) r o n = (X, Y)) := hA
 clear hA h1 h2
 go_enter Tryz.func80, Tryz.ntmps80
 go_wp2_with (first
  | (go_at_call 90; refine (z2y c _).mono ?_; rintro e w1 ⟨rfl, rfl⟩; rw [HQ.out])
  | (go_at_call 118; refine (zXx hd hs hM0).mono ?_; rintro e w2 ⟨rfl, hb2⟩; rw [HA.out])
  | fail)
 go_ret2
 exact ⟨rfl, zSx hb2⟩
theorem zX6 (B d s : Nat) (c o n : Int) (r : Bool) (m : Mac) (L : List Int) (_ : d < 11) (_ : s < 11) (w : World) (hM : z09 w B m) (hO : z1n w B m.out L) (h1 : c = 14) :
  Calls tP 80 #[pT (some ⟨B, 0, none⟩), .agg #[A F c, A F d, A F s, .bool r, A F o, A F n]] w fun e w' => e = rT (.tuple #[A F o, A F 0]) /\ Below w.heap.size w w' := by
 have hM0 := hM.alloc (cT #[A F c, A F d, A F s, .bool r, A F o, A F n] 80)
 have hO0 : z1n (w.alloc (cT #[A F c, A F d, A F s, .bool r, A F o, A F n] 80)) B m.out L := hO.kept (z0j (z1b B w) _)
 have HO : Hid (z1n w B m.out L) := hO
 have HO0 : Hid (z1n _ B m.out L) := hO0
 clear hO hO0
 have HQ : Hid ((decide (15 <= c) && decide (c <= 24)) = false) := by show (decide (15 <= c) && decide (c <= 24)) = false; simp; omega
 have x14 : (c == 14) = true := by simp; omega
 clear h1
 go_enter Tryz.func80, Tryz.ntmps80
 go_wp2_with (first
  | (go_at_call 90; refine (z2y c _).mono ?_; rintro e w1 ⟨rfl, rfl⟩; rw [HQ.out])
  | fail)
 go_ret2
 exact ⟨rfl, (bF _ _).alloc (Nat.le_refl _) _⟩
theorem zX5 (B d s : Nat) (c o n : Int) (r : Bool) (m : Mac) (L : List Int) (hd : d < 11) (hs : s < 11) (w : World) (hM : z09 w B m) (hO : z1n w B m.out L) (hok : (m.abs L).Ok) (h1 : c = 25) :
  Calls tP 80 #[pT (some ⟨B, 0, none⟩), .agg #[A F c, A F d, A F s, .bool r, A F o, A F n]] w fun e w' => e = rT (.tuple #[A F 0, A F (z45 (m.abs L) d (m.reg s) o).1]) /\ Res B w w' m (z45 (m.abs L) d (m.reg s) o).1 (z45 (m.abs L) d (m.reg s) o).2 := by
 have hM0 := hM.alloc (cT #[A F c, A F d, A F s, .bool r, A F o, A F n] 80)
 have hO0 : z1n (w.alloc (cT #[A F c, A F d, A F s, .bool r, A F o, A F n] 80)) B m.out L := hO.kept (z0j (z1b B w) _)
 have HO : Hid (z1n w B m.out L) := hO
 have HO0 : Hid (z1n _ B m.out L) := hO0
 clear hO hO0
 have HQ : Hid ((decide (15 <= c) && decide (c <= 24)) = false) := by show (decide (15 <= c) && decide (c <= 24)) = false; simp; omega
 have x14 : (c == 14) = false := by simp; omega
 have x25 : (c == 25) = true := by simp; omega
 clear h1
 obtain ⟨E, hE⟩ : ∃ E, (z45 (m.abs L) d (m.reg s) o).1 = E := ⟨_, rfl⟩
 have HE : Hid ((z45 (m.abs L) d (m.reg s) o).1 = E) := hE
 clear hE
 go_enter Tryz.func80, Tryz.ntmps80
 go_wp2_with (first
  | (go_at_call 90; refine (z2y c _).mono ?_; rintro e w1 ⟨rfl, rfl⟩; rw [HQ.out])
  | (go_at_call 119; refine (zTx hd hs hM0 HO0.out hok).mono ?_; rintro e w2 ⟨rfl, hr2⟩; have HR2 : Hid (Res B _ w2 m (z45 (m.abs L) d (m.reg s) o).1 (z45 (m.abs L) d (m.reg s) o).2) := hr2; clear hr2; rw [HE.out])
  | fail)
 go_ret2
 exact ⟨by rw [HE.out]; rfl, ((bF _ _).alloc (by have := hM.lt; omega) _).trans HR2.out.1, HR2.out.2⟩
theorem zUj (B d s : Nat) (c o n : Int) (r : Bool) (m : Mac) (L : List Int) (hd : d < 11) (hs : s < 11) (w : World) (hM : z09 w B m) (hO : z1n w B m.out L) (hok : (m.abs L).Ok) (h1 : c = 26) :
  Calls tP 80 #[pT (some ⟨B, 0, none⟩), .agg #[A F c, A F d, A F s, .bool r, A F o, A F n]] w fun e w' => e = rT (.tuple #[A F 0, A F (z38 (m.abs L) (m.reg d) (m.second s r n) o).1]) /\ Res B w w' m (z38 (m.abs L) (m.reg d) (m.second s r n) o).1 (z38 (m.abs L) (m.reg d) (m.second s r n) o).2 := by
 have hM0 := hM.alloc (cT #[A F c, A F d, A F s, .bool r, A F o, A F n] 80)
 have hO0 : z1n (w.alloc (cT #[A F c, A F d, A F s, .bool r, A F o, A F n] 80)) B m.out L := hO.kept (z0j (z1b B w) _)
 have HO : Hid (z1n w B m.out L) := hO
 have HO0 : Hid (z1n _ B m.out L) := hO0
 clear hO hO0
 have HQ : Hid ((decide (15 <= c) && decide (c <= 24)) = false) := by show (decide (15 <= c) && decide (c <= 24)) = false; simp; omega
 have x14 : (c == 14) = false := by simp; omega
 have x25 : (c == 25) = false := by simp; omega
 have x26 : (c == 26) = true := by simp; omega
 clear h1
 obtain ⟨E, hE⟩ : ∃ E, (z38 (m.abs L) (m.reg d) (m.second s r n) o).1 = E := ⟨_, rfl⟩
 have HE : Hid ((z38 (m.abs L) (m.reg d) (m.second s r n) o).1 = E) := hE
 clear hE
 go_enter Tryz.func80, Tryz.ntmps80
 go_wp2_with (first
  | (go_at_call 90; refine (z2y c _).mono ?_; rintro e w1 ⟨rfl, rfl⟩; rw [HQ.out])
  | (go_at_call 120; refine (zP0 hd hs hM0 HO0.out hok).mono ?_; rintro e w2 ⟨rfl, hr2⟩; have HR2 : Hid (Res B _ w2 m (z38 (m.abs L) (m.reg d) (m.second s r n) o).1 (z38 (m.abs L) (m.reg d) (m.second s r n) o).2) := hr2; clear hr2; rw [HE.out])
  | fail)
 go_ret2
 exact ⟨by rw [HE.out]; rfl, ((bF _ _).alloc (by have := hM.lt; omega) _).trans HR2.out.1, HR2.out.2⟩
theorem zX7 (B d s : Nat) (c o n : Int) (r : Bool) (m : Mac) (L : List Int) (_ : d < 11) (_ : s < 11) (w : World) (hM : z09 w B m) (hO : z1n w B m.out L) (_ : (m.abs L).Ok) (HN : Hid (n = 1 \/ n = 2 \/ n = 3)) (h1 : c = 27) :
  Calls tP 80 #[pT (some ⟨B, 0, none⟩), .agg #[A F c, A F d, A F s, .bool r, A F o, A F n]] w fun e w' => e = rT (.tuple #[A F 0, A F (z69 (m.abs L) n).1]) /\ Res B w w' m (z69 (m.abs L) n).1 (z69 (m.abs L) n).2 := by
 have hM0 := hM.alloc (cT #[A F c, A F d, A F s, .bool r, A F o, A F n] 80)
 have hO0 : z1n (w.alloc (cT #[A F c, A F d, A F s, .bool r, A F o, A F n] 80)) B m.out L := hO.kept (z0j (z1b B w) _)
 have HO : Hid (z1n w B m.out L) := hO
 have HO0 : Hid (z1n _ B m.out L) := hO0
 clear hO hO0
 have HQ : Hid ((decide (15 <= c) && decide (c <= 24)) = false) := by show (decide (15 <= c) && decide (c <= 24)) = false; simp; omega
 have x14 : (c == 14) = false := by simp; omega
 have x25 : (c == 25) = false := by simp; omega
 have x26 : (c == 26) = false := by simp; omega
 have x27 : (c == 27) = true := by simp; omega
 clear h1
 obtain ⟨E, hE⟩ : ∃ E, (z69 (m.abs L) n).1 = E := ⟨_, rfl⟩
 have HE : Hid ((z69 (m.abs L) n).1 = E) := hE
 clear hE
 go_enter Tryz.func80, Tryz.ntmps80
 go_wp2_with (first
  | (go_at_call 90; refine (z2y c _).mono ?_; rintro e w1 ⟨rfl, rfl⟩; rw [HQ.out])
  | (go_at_call 121; refine (zUv HN.out hM0 HO0.out).mono ?_; rintro e w2 ⟨rfl, hr2⟩; have HR2 : Hid (Res B _ w2 m (z69 (m.abs L) n).1 (z69 (m.abs L) n).2) := hr2; clear hr2; rw [HE.out])
  | fail)
 go_ret2
 exact ⟨by rw [HE.out]; rfl, ((bF _ _).alloc (by have := hM.lt; omega) _).trans HR2.out.1, HR2.out.2⟩
theorem zR8 (B d s : Nat) (c o n : Int) (r : Bool) (m : Mac) (L : List Int) (hd : d < 11) (hs : s < 11) (w : World) (hM : z09 w B m) (hO : z1n w B m.out L) (hok : (m.abs L).Ok) (HN : Hid (In64 n)) (h1 : 1 <= c) (h2 : c <= 13) :
  Calls tP 80 #[pT (some ⟨B, 0, none⟩), .agg #[A F c, A F d, A F s, .bool r, A F o, A F n]] w fun e w' => e = rT (.tuple #[A F 0, A F (z2q c (m.reg d) (m.second s r n)).2]) /\ Res B w w' m (z2q c (m.reg d) (m.second s r n)).2 ((m.abs L).putReg d (z2q c (m.reg d) (m.second s r n)).1) := by
 have hM0 := hM.alloc (cT #[A F c, A F d, A F s, .bool r, A F o, A F n] 80)
 have hO0 : z1n (w.alloc (cT #[A F c, A F d, A F s, .bool r, A F o, A F n] 80)) B m.out L := hO.kept (z0j (z1b B w) _)
 have HO : Hid (z1n w B m.out L) := hO
 have HO0 : Hid (z1n _ B m.out L) := hO0
 clear hO hO0
 have HQ : Hid ((decide (15 <= c) && decide (c <= 24)) = false) := by show (decide (15 <= c) && decide (c <= 24)) = false; simp; omega
 have x14 : (c == 14) = false := by simp; omega
 have x25 : (c == 25) = false := by simp; omega
 have x26 : (c == 26) = false := by simp; omega
 have x27 : (c == 27) = false := by simp; omega
 clear h1 h2
 obtain ⟨E, hE⟩ : ∃ E, (z2q c (m.reg d) (m.second s r n)).2 = E := ⟨_, rfl⟩
 have HE : Hid ((z2q c (m.reg d) (m.second s r n)).2 = E) := hE
 clear hE
 go_enter Tryz.func80, Tryz.ntmps80
 go_wp2_with (first
  | (go_at_call 90; refine (z2y c _).mono ?_; rintro e w1 ⟨rfl, rfl⟩; rw [HQ.out])
  | (go_at_call 122; refine (zO0 hd hs HN.out hM0 HO0.out hok).mono ?_; rintro e w2 ⟨rfl, hr2⟩; have HR2 : Hid (Res B _ w2 m (z2q c (m.reg d) (m.second s r n)).2 ((m.abs L).putReg d (z2q c (m.reg d) (m.second s r n)).1)) := hr2; clear hr2; rw [HE.out])
  | fail)
 go_ret2
 exact ⟨by rw [HE.out]; rfl, ((bF _ _).alloc (by have := hM.lt; omega) _).trans HR2.out.1, HR2.out.2⟩
theorem zVo (B d s : Nat) (c o n : Int) (r : Bool) (m : Mac) (L : List Int) (hd : d < 11) (hs : s < 11) (w : World) (hM : z09 w B m) (hO : z1n w B m.out L) (hok : (m.abs L).Ok) (hn : In64 n) (c1 : 1 <= c) (c2 : c <= 28) (hc : c ≠ 28) (h27 : c = 27 -> n = 1 \/ n = 2 \/ n = 3) :
  Calls tP 80 #[pT (some ⟨B, 0, none⟩), .agg #[A F c, A F d, A F s, .bool r, A F o, A F n]] w fun e w' => e = rT (.tuple #[A F (doF c d s r o n (m.abs L)).1, A F (doF c d s r o n (m.abs L)).2.1]) /\ Res B w w' m (doF c d s r o n (m.abs L)).2.1 (doF c d s r o n (m.abs L)).2.2 := by
 unfold doF
 rw [Int.toNat_natCast, Int.toNat_natCast]
 by_cases h1 : 15 <= c /\ c <= 24
 ·rw [if_pos h1]
  exact (do_ask B d s c o n r m L hd hs w hM hO h1.1 h1.2).mono fun e w' ⟨he, hb⟩ => ⟨he, Res.of_below hM hO hb fun _ => rfl⟩
 rw [if_neg h1]
 by_cases h2 : c = 14
 ·rw [if_pos h2]
  exact (zX6 B d s c o n r m L hd hs w hM hO h2).mono fun e w' ⟨he, hb⟩ => ⟨he, Res.of_below hM hO hb fun _ => rfl⟩
 rw [if_neg h2]
 by_cases h3 : c = 25
 ·rw [if_pos h3]
  exact zX5 B d s c o n r m L hd hs w hM hO hok h3
 rw [if_neg h3]
 by_cases h4 : c = 26
 ·rw [if_pos h4]
  exact zUj B d s c o n r m L hd hs w hM hO hok h4
 rw [if_neg h4]
 by_cases h5 : c = 27
 ·rw [if_pos h5]
  exact zX7 B d s c o n r m L hd hs w hM hO hok (h27 h5) h5
 rw [if_neg h5]
 exact zR8 B d s c o n r m L hd hs w hM hO hok hn c1 (by omega)
end
section
open Go.RowKit
structure zK1 (c d s : Int) (r : Bool) (o n : Int) (len k : Nat) : Prop where
 c1 : 1 <= c
 c2 : c <= 28
 d1 : 0 <= d
 d2 : d <= 10
 s1 : 0 <= s
 s2 : s <= 10
 call : c = 27 -> n = 1 \/ n = 2 \/ n = 3
 exit : c = 28 -> d = 0
 lead : (c = 14 \/ (15 <= c /\ c <= 24)) -> 0 <= o /\ o < (len : Int) - 1 - k
 last : c ≠ 28 -> (k : Int) + 1 ≠ len
theorem z7g {len : Nat} {C D S : Nat -> Int} {R : Nat -> Bool} {O N : Nat -> Int} {k : Nat} (h : z1j len C D S R O N k = 0) : zK1 (C k) (D k) (S k) (R k) (O k) (N k) len k := by
 unfold z1j z3x at h
 have ha : z1z (C k) (D k) (S k) (R k) (O k) (N k) = 0 := by
  by_cases e : z1z (C k) (D k) (S k) (R k) (O k) (N k) = 0
  ·exact e
  ·rw [if_pos e] at h; exact h
 rw [if_neg (by simp [ha])] at h
 have hl : ¬ ((C k = 14 \/ (15 <= C k /\ C k <= 24)) /\ (O k < 0 \/ (len : Int) - 1 - k <= O k)) := by
  intro e; rw [if_pos e] at h; exact absurd h (by decide)
 rw [if_neg hl] at h
 have he : ¬ ((len : Int) - 1 - k = 0 /\ C k ≠ 28) := by
  intro e; rw [if_pos e] at h; exact absurd h (by decide)
 unfold z1z at ha
 have a1 : ¬ (C k < 1 \/ 28 < C k) := by
  intro e; rw [if_pos e] at ha; exact absurd ha (by decide)
 rw [if_neg a1] at ha
 have a2 : ¬ (D k < 0 \/ 10 < D k \/ S k < 0 \/ 10 < S k) := by
  intro e; rw [if_pos e] at ha; exact absurd ha (by decide)
 rw [if_neg a2] at ha
 have a3 : ¬ (((1 <= C k /\ C k <= 13) \/ C k = 25) /\ D k = 10) := by
  intro e; rw [if_pos e] at ha; exact absurd ha (by decide)
 rw [if_neg a3] at ha
 have a4 : ¬ (moreV (C k) (D k) (S k) (R k) (O k) (N k) = true \/ (C k = 27 /\ N k ≠ 1 /\ N k ≠ 2 /\ N k ≠ 3)) := by
  intro e; rw [if_pos e] at ha; exact absurd ha (by decide)
 refine ⟨by omega, by omega, by omega, by omega, by omega, by omega, fun e => ?_, fun e => ?_, fun e => ?_, fun e => by omega⟩
 ·by_cases n1 : N k = 1
  ·exact Or.inl n1
  by_cases n2 : N k = 2
  ·exact Or.inr (Or.inl n2)
  by_cases n3 : N k = 3
  ·exact Or.inr (Or.inr n3)
  exact absurd (Or.inr ⟨e, n1, n2, n3⟩) a4
 ·by_cases hd : D k = 0
  ·exact hd
  ·refine absurd (Or.inl ?_) a4
   unfold moreV
   rw [if_neg (by omega), if_neg (by omega), if_neg (by omega), if_neg (by omega), if_neg (by omega), if_neg (by omega), if_neg (by omega)]
   simp [hd]
 ·by_cases e1 : O k < 0 \/ (len : Int) - 1 - k <= O k
  ·exact absurd ⟨e, e1⟩ hl
  ·omega
theorem askF_off (c : Int) (a b : Val) (r : Bool) (o n : Int) : (askF c a b r o n).1 = o \/ (askF c a b r o n).1 = 0 := by
 unfold askF
 split
 ·exact Or.inr rfl
 split
 ·split
  ·exact Or.inl rfl
  ·exact Or.inr rfl
 split
 ·exact Or.inr rfl
 split
 ·exact Or.inl rfl
 ·exact Or.inr rfl
theorem zX8 {c d s : Int} {r : Bool} {o n : Int} {len k : Nat} (h : zK1 c d s r o n len k) (hk : k < len) (hc : c ≠ 28) (a : Abs) : 0 <= (doF c d s r o n a).1 /\ (k : Int) + 1 + (doF c d s r o n a).1 < len := by
 have hl := h.last hc
 unfold doF
 by_cases h1 : 15 <= c /\ c <= 24
 ·rw [if_pos h1]
  have := h.lead (Or.inr h1)
  rcases askF_off c (a.reg d.toNat) (a.second s.toNat r n) r o n with e | e
  ·show 0 <= (askF _ _ _ _ _ _).1 /\ (k : Int) + 1 + (askF _ _ _ _ _ _).1 < len
   rw [e]; omega
  ·show 0 <= (askF _ _ _ _ _ _).1 /\ (k : Int) + 1 + (askF _ _ _ _ _ _).1 < len
   rw [e]; omega
 rw [if_neg h1]
 by_cases h2 : c = 14
 ·rw [if_pos h2]
  have := h.lead (Or.inl h2)
  show 0 <= o /\ (k : Int) + 1 + o < len
  omega
 rw [if_neg h2]
 split
 ·show (0 : Int) <= 0 /\ (k : Int) + 1 + 0 < len
  omega
 split
 ·show (0 : Int) <= 0 /\ (k : Int) + 1 + 0 < len
  omega
 split
 ·show (0 : Int) <= 0 /\ (k : Int) + 1 + 0 < len
  omega
 ·show (0 : Int) <= 0 /\ (k : Int) + 1 + 0 < len
  omega
end
end Go.Proofs.YtbimlalhodibjaaGreatDoor
