/-
  A Load, of a program that runs: what is in a register then, or what is wrong. Conditions: numbers are of 64 bits.
-/
import Derived.Test.YtegeiicginpdbaaDoorMachMem
namespace Go.Proofs.YtegeiicginpdbaaDoor
open Go.ChangeShapes Go.WideShapes Go.ChangeAt Go.RowKit
attribute [local simp] drew_size drewN_size setCell_size
set_option maxHeartbeats 4000000 in
set_option maxRecDepth 100000 in
theorem load_no (B d s : Nat) (c o n : Int) (r : Bool) (m : Mac) (hd : d < 11) (hs : s < 11) (fk fn fc : Int) (HA : Hid (m.reg s = ⟨fk, fn, fc⟩)) (t E : Int) (HR : Hid (reachF ⟨fk, fn, fc⟩ o = (t, E))) (hE : (E != 0) = true) (w : World) (hM : MacAt w B m) :
    Calls Tryd.prog 101 #[.pointer (some ⟨B, 0, none⟩), .agg #[.int .i64 c, .int .i64 d, .int .i64 s, .bool r, .int .i64 o, .int .i64 n]] w fun e w' => e = .returned (.int .i64 E) ∧ Below w.heap.size w w' := by
  have hB := hM.lt
  have hF0 : Frm w.heap.size B c d s r o n m _ := Frm.start hM
  obtain ⟨p0, p1, p2, p3, p4, p5⟩ := hF0.cells
  obtain ⟨h0, h1, h2⟩ := hF0.mac.reg hs
  rw [HA.out] at h0 h1 h2
  have hs0 : (0 : Int) ≤ (s : Int) := by omega
  have hs1 : (s : Int) < 11 := by omega
  have hd0 : (0 : Int) ≤ (d : Int) := by omega
  have hd1 : (d : Int) < 11 := by omega
  go_enter Tryd.func101, Tryd.ntmps101
  go_wp2_with fail
  go_region
  all_goals go_wp2_with (first
    | (go_at_call 117; refine (reach_any ⟨fk, fn, fc⟩ o _).mono ?_; rintro e w1 ⟨rfl, hb1⟩; rw [HR.out]; have hF1 : Frm w.heap.size B c d s r o n m w1 := Frm.later (by repeat' first | with_reducible exact hF0 | with_reducible exact hF1 | with_reducible refine Frm.alloc ?_ _ | with_reducible refine Frm.drew ?_ | with_reducible refine Frm.drewN ?_ _) hb1; have hbw : Below w.heap.size w w1 := (by ((refine Below.trans ?_ (hb1.mono ?_)) <;> repeat' first | with_reducible exact Below.refl _ _ | with_reducible exact hbw | with_reducible refine Below.alloc ?_ ?_ _ | with_reducible refine Below.setCell ?_ ?_ _ | with_reducible refine Below.drew ?_ | with_reducible refine below_drewN ?_ _ | (simp; done) | (simp; omega) | omega)); obtain ⟨v0, v1, v2, v3, v4, v5⟩ := hF1.cells; have v6 := later_box hb1 (w.heap.size + 1); (try simp [go_sem] at v6); have hS1 := hF1.ltS; have hB1 := hF1.mac.lt; have hne : B ≠ w1.heap.size := (by omega); have hne2 : w.heap.size ≠ w1.heap.size := (by omega))
    | go_in)
  all_goals go_ret
  all_goals exact ⟨rfl, hbw⟩
set_option maxHeartbeats 4000000 in
set_option maxRecDepth 100000 in
theorem load_told (B d s t : Nat) (c o n : Int) (r : Bool) (m : Mac) (hd : d < 11) (hs : s < 11) (fk fn fc : Int) (HA : Hid (m.reg s = ⟨fk, fn, fc⟩)) (ht : t < 8) (HR : Hid (reachF ⟨fk, fn, fc⟩ o = (((t : Nat) : Int), 0))) (hk : (fk == 2) = true) (w : World) (hM : MacAt w B m) :
    Calls Tryd.prog 101 #[.pointer (some ⟨B, 0, none⟩), .agg #[.int .i64 c, .int .i64 d, .int .i64 s, .bool r, .int .i64 o, .int .i64 n]] w fun e w' => e = .returned (.int .i64 0) ∧ Kept B w w' ∧ MacAt w' B (m.putReg d ⟨1, m.word t, 0⟩) := by
  have hB := hM.lt
  have hF0 : Frm w.heap.size B c d s r o n m _ := Frm.start hM
  obtain ⟨p0, p1, p2, p3, p4, p5⟩ := hF0.cells
  obtain ⟨h0, h1, h2⟩ := hF0.mac.reg hs
  rw [HA.out] at h0 h1 h2
  have hs0 : (0 : Int) ≤ (s : Int) := by omega
  have hs1 : (s : Int) < 11 := by omega
  have hd0 : (0 : Int) ≤ (d : Int) := by omega
  have hd1 : (d : Int) < 11 := by omega
  have ht0 : (0 : Int) ≤ (t : Int) := by omega
  have ht1 : (t : Int) < 8 := by omega
  go_enter Tryd.func101, Tryd.ntmps101
  go_wp2_with fail
  go_region
  all_goals go_wp2_with (first
    | (go_at_call 117; refine (reach_any ⟨fk, fn, fc⟩ o _).mono ?_; rintro e w1 ⟨rfl, hb1⟩; rw [HR.out]; have hF1 : Frm w.heap.size B c d s r o n m w1 := Frm.later (by repeat' first | with_reducible exact hF0 | with_reducible exact hF1 | with_reducible refine Frm.alloc ?_ _ | with_reducible refine Frm.drew ?_ | with_reducible refine Frm.drewN ?_ _) hb1; have hbw : Below w.heap.size w w1 := (by ((refine Below.trans ?_ (hb1.mono ?_)) <;> repeat' first | with_reducible exact Below.refl _ _ | with_reducible exact hbw | with_reducible refine Below.alloc ?_ ?_ _ | with_reducible refine Below.setCell ?_ ?_ _ | with_reducible refine Below.drew ?_ | with_reducible refine below_drewN ?_ _ | (simp; done) | (simp; omega) | omega)); obtain ⟨v0, v1, v2, v3, v4, v5⟩ := hF1.cells; have v6 := later_box hb1 (w.heap.size + 1); (try simp [go_sem] at v6); have hS1 := hF1.ltS; have hB1 := hF1.mac.lt; have hne : B ≠ w1.heap.size := (by omega); have hne2 : w.heap.size ≠ w1.heap.size := (by omega); have q0 := hF1.mac.word ht)
    | (go_at_call 118; refine (mnum_any (m.word t) _).mono ?_; rintro e w2 ⟨rfl, hb2⟩; simp only [Val.v, numF]; obtain ⟨a0, a1, a2, z0, z1, z2, hl⟩ := zero_box hb2; have hF2 : Frm w.heap.size B c d s r o n m w2 := Frm.later (hF1.alloc _) hb2; obtain ⟨u0, u1, u2, u3, u4, u5⟩ := hF2.cells; obtain ⟨i0, i1, i2⟩ := hF2.mac.reg hd; have f0 := hF2.mac.frozen (2 + d * 3); have f1 := hF2.mac.frozen (2 + d * 3 + 1); have f2 := hF2.mac.frozen (2 + d * 3 + 2); have hS2 := hF2.ltS; have hB2 := hF2.mac.lt)
    | go_in)
  all_goals go_region
  all_goals go_wp2
  all_goals go_ret
  all_goals have HK : Kept B w w2 := kept_later (kept_alloc (kept_below hbw B) _) hb2
  all_goals have HM := hF2.mac
  all_goals exact ⟨rfl, (by repeat' first | with_reducible exact HK | with_reducible refine kept_drew ?_ | with_reducible refine kept_set ?_ _ _ | with_reducible refine kept_new ?_ _ _ ?_ | with_reducible refine kept_alloc ?_ _ | ((try dsimp only); omega)), (by repeat' first | with_reducible exact HM | with_reducible refine MacAt.drew ?_ | with_reducible refine MacAt.put3 ?_ hd _ _ _ | with_reducible refine MacAt.slot3 ?_ ht _ _ _ | with_reducible refine MacAt.cel1 ?_ hct _ | with_reducible refine MacAt.off ?_ _ _ ?_ | with_reducible refine MacAt.alloc ?_ _ | ((try dsimp only); omega))⟩
set_option maxHeartbeats 4000000 in
set_option maxRecDepth 100000 in
theorem load_slot (B d s t : Nat) (c o n : Int) (r : Bool) (m : Mac) (hd : d < 11) (hs : s < 11) (fk fn fc : Int) (HA : Hid (m.reg s = ⟨fk, fn, fc⟩)) (ht : t < 16) (HR : Hid (reachF ⟨fk, fn, fc⟩ o = (((t : Nat) : Int), 0))) (hk : (fk == 2) = false) (hk3 : (fk == 3) = true) (sk sn sc : Int) (HS : Hid (m.slot t = ⟨sk, sn, sc⟩)) (hsk : (sk == 0) = false) (w : World) (hM : MacAt w B m) :
    Calls Tryd.prog 101 #[.pointer (some ⟨B, 0, none⟩), .agg #[.int .i64 c, .int .i64 d, .int .i64 s, .bool r, .int .i64 o, .int .i64 n]] w fun e w' => e = .returned (.int .i64 0) ∧ Kept B w w' ∧ MacAt w' B (m.putReg d ⟨sk, sn, sc⟩) := by
  have hB := hM.lt
  have hF0 : Frm w.heap.size B c d s r o n m _ := Frm.start hM
  obtain ⟨p0, p1, p2, p3, p4, p5⟩ := hF0.cells
  obtain ⟨h0, h1, h2⟩ := hF0.mac.reg hs
  rw [HA.out] at h0 h1 h2
  have hs0 : (0 : Int) ≤ (s : Int) := by omega
  have hs1 : (s : Int) < 11 := by omega
  have hd0 : (0 : Int) ≤ (d : Int) := by omega
  have hd1 : (d : Int) < 11 := by omega
  have ht0 : (0 : Int) ≤ (t : Int) := by omega
  have ht1 : (t : Int) < 16 := by omega
  go_enter Tryd.func101, Tryd.ntmps101
  go_wp2_with fail
  go_region
  all_goals go_wp2_with (first
    | (go_at_call 117; refine (reach_any ⟨fk, fn, fc⟩ o _).mono ?_; rintro e w1 ⟨rfl, hb1⟩; rw [HR.out]; have hF1 : Frm w.heap.size B c d s r o n m w1 := Frm.later (by repeat' first | with_reducible exact hF0 | with_reducible exact hF1 | with_reducible refine Frm.alloc ?_ _ | with_reducible refine Frm.drew ?_ | with_reducible refine Frm.drewN ?_ _) hb1; have hbw : Below w.heap.size w w1 := (by ((refine Below.trans ?_ (hb1.mono ?_)) <;> repeat' first | with_reducible exact Below.refl _ _ | with_reducible exact hbw | with_reducible refine Below.alloc ?_ ?_ _ | with_reducible refine Below.setCell ?_ ?_ _ | with_reducible refine Below.drew ?_ | with_reducible refine below_drewN ?_ _ | (simp; done) | (simp; omega) | omega)); obtain ⟨v0, v1, v2, v3, v4, v5⟩ := hF1.cells; have v6 := later_box hb1 (w.heap.size + 1); (try simp [go_sem] at v6); have hS1 := hF1.ltS; have hB1 := hF1.mac.lt; have hne : B ≠ w1.heap.size := (by omega); have hne2 : w.heap.size ≠ w1.heap.size := (by omega); obtain ⟨q0, q1, q2⟩ := hF1.mac.slot ht; rw [HS.out] at q0 q1 q2; obtain ⟨i0, i1, i2⟩ := hF1.mac.reg hd; have f0 := hF1.mac.frozen (2 + d * 3); have f1 := hF1.mac.frozen (2 + d * 3 + 1); have f2 := hF1.mac.frozen (2 + d * 3 + 2))
    | go_in)
  all_goals go_region
  all_goals go_wp2
  all_goals go_ret
  all_goals have HK : Kept B w w1 := kept_below hbw B
  all_goals have HM := hF1.mac
  all_goals exact ⟨rfl, (by repeat' first | with_reducible exact HK | with_reducible refine kept_drew ?_ | with_reducible refine kept_set ?_ _ _ | with_reducible refine kept_new ?_ _ _ ?_ | with_reducible refine kept_alloc ?_ _ | ((try dsimp only); omega)), (by repeat' first | with_reducible exact HM | with_reducible refine MacAt.drew ?_ | with_reducible refine MacAt.put3 ?_ hd _ _ _ | with_reducible refine MacAt.slot3 ?_ ht _ _ _ | with_reducible refine MacAt.cel1 ?_ hct _ | with_reducible refine MacAt.off ?_ _ _ ?_ | with_reducible refine MacAt.alloc ?_ _ | ((try dsimp only); omega))⟩
set_option maxHeartbeats 4000000 in
set_option maxRecDepth 100000 in
theorem load_empty (B d s t : Nat) (c o n : Int) (r : Bool) (m : Mac) (hd : d < 11) (hs : s < 11) (fk fn fc : Int) (HA : Hid (m.reg s = ⟨fk, fn, fc⟩)) (ht : t < 16) (HR : Hid (reachF ⟨fk, fn, fc⟩ o = (((t : Nat) : Int), 0))) (hk : (fk == 2) = false) (hk3 : (fk == 3) = true) (sk sn sc : Int) (HS : Hid (m.slot t = ⟨sk, sn, sc⟩)) (hsk : (sk == 0) = true) (w : World) (hM : MacAt w B m) :
    Calls Tryd.prog 101 #[.pointer (some ⟨B, 0, none⟩), .agg #[.int .i64 c, .int .i64 d, .int .i64 s, .bool r, .int .i64 o, .int .i64 n]] w fun e w' => e = .returned (.int .i64 8) ∧ Below w.heap.size w w' := by
  have hB := hM.lt
  have hF0 : Frm w.heap.size B c d s r o n m _ := Frm.start hM
  obtain ⟨p0, p1, p2, p3, p4, p5⟩ := hF0.cells
  obtain ⟨h0, h1, h2⟩ := hF0.mac.reg hs
  rw [HA.out] at h0 h1 h2
  have hs0 : (0 : Int) ≤ (s : Int) := by omega
  have hs1 : (s : Int) < 11 := by omega
  have hd0 : (0 : Int) ≤ (d : Int) := by omega
  have hd1 : (d : Int) < 11 := by omega
  have ht0 : (0 : Int) ≤ (t : Int) := by omega
  have ht1 : (t : Int) < 16 := by omega
  go_enter Tryd.func101, Tryd.ntmps101
  go_wp2_with fail
  go_region
  all_goals go_wp2_with (first
    | (go_at_call 117; refine (reach_any ⟨fk, fn, fc⟩ o _).mono ?_; rintro e w1 ⟨rfl, hb1⟩; rw [HR.out]; have hF1 : Frm w.heap.size B c d s r o n m w1 := Frm.later (by repeat' first | with_reducible exact hF0 | with_reducible exact hF1 | with_reducible refine Frm.alloc ?_ _ | with_reducible refine Frm.drew ?_ | with_reducible refine Frm.drewN ?_ _) hb1; have hbw : Below w.heap.size w w1 := (by ((refine Below.trans ?_ (hb1.mono ?_)) <;> repeat' first | with_reducible exact Below.refl _ _ | with_reducible exact hbw | with_reducible refine Below.alloc ?_ ?_ _ | with_reducible refine Below.setCell ?_ ?_ _ | with_reducible refine Below.drew ?_ | with_reducible refine below_drewN ?_ _ | (simp; done) | (simp; omega) | omega)); obtain ⟨v0, v1, v2, v3, v4, v5⟩ := hF1.cells; have v6 := later_box hb1 (w.heap.size + 1); (try simp [go_sem] at v6); have hS1 := hF1.ltS; have hB1 := hF1.mac.lt; have hne : B ≠ w1.heap.size := (by omega); have hne2 : w.heap.size ≠ w1.heap.size := (by omega); obtain ⟨q0, q1, q2⟩ := hF1.mac.slot ht; rw [HS.out] at q0 q1 q2)
    | go_in)
  all_goals go_ret
  all_goals exact ⟨rfl, (by repeat' first | with_reducible exact hbw | with_reducible refine Below.alloc ?_ ?_ _ | with_reducible refine Below.setCell ?_ ?_ _ | with_reducible refine Below.drew ?_ | ((try dsimp only); omega) | (simp; omega))⟩
set_option maxHeartbeats 4000000 in
set_option maxRecDepth 100000 in
theorem load_cell (B d s t fcn : Nat) (c o n : Int) (r : Bool) (m : Mac) (hd : d < 11) (hs : s < 11) (fk fn : Int) (HA : Hid (m.reg s = ⟨fk, fn, (fcn : Int)⟩)) (hfc : fcn < 4) (ht : t < 4) (HR : Hid (reachF ⟨fk, fn, fcn⟩ o = (((t : Nat) : Int), 0))) (hk : (fk == 2) = false) (hk3 : (fk == 3) = false) (hk4 : (fk == 4) = true) (w : World) (hM : MacAt w B m) :
    Calls Tryd.prog 101 #[.pointer (some ⟨B, 0, none⟩), .agg #[.int .i64 c, .int .i64 d, .int .i64 s, .bool r, .int .i64 o, .int .i64 n]] w fun e w' => e = .returned (.int .i64 0) ∧ Kept B w w' ∧ MacAt w' B (m.putReg d ⟨1, m.cel (fcn * 4 + t), 0⟩) := by
  have hB := hM.lt
  have hF0 : Frm w.heap.size B c d s r o n m _ := Frm.start hM
  obtain ⟨p0, p1, p2, p3, p4, p5⟩ := hF0.cells
  obtain ⟨h0, h1, h2⟩ := hF0.mac.reg hs
  rw [HA.out] at h0 h1 h2
  have hs0 : (0 : Int) ≤ (s : Int) := by omega
  have hs1 : (s : Int) < 11 := by omega
  have hd0 : (0 : Int) ≤ (d : Int) := by omega
  have hd1 : (d : Int) < 11 := by omega
  have ht0 : (0 : Int) ≤ (t : Int) := by omega
  have ht1 : (t : Int) < 4 := by omega
  have hc0 : (0 : Int) ≤ (fcn : Int) := by omega
  have hc1 : (fcn : Int) < 4 := by omega
  go_enter Tryd.func101, Tryd.ntmps101
  go_wp2_with fail
  go_region
  all_goals go_wp2_with (first
    | (go_at_call 117; refine (reach_any ⟨fk, fn, (fcn : Int)⟩ o _).mono ?_; rintro e w1 ⟨rfl, hb1⟩; rw [HR.out]; have hF1 : Frm w.heap.size B c d s r o n m w1 := Frm.later (by repeat' first | with_reducible exact hF0 | with_reducible exact hF1 | with_reducible refine Frm.alloc ?_ _ | with_reducible refine Frm.drew ?_ | with_reducible refine Frm.drewN ?_ _) hb1; have hbw : Below w.heap.size w w1 := (by ((refine Below.trans ?_ (hb1.mono ?_)) <;> repeat' first | with_reducible exact Below.refl _ _ | with_reducible exact hbw | with_reducible refine Below.alloc ?_ ?_ _ | with_reducible refine Below.setCell ?_ ?_ _ | with_reducible refine Below.drew ?_ | with_reducible refine below_drewN ?_ _ | (simp; done) | (simp; omega) | omega)); obtain ⟨v0, v1, v2, v3, v4, v5⟩ := hF1.cells; have v6 := later_box hb1 (w.heap.size + 1); (try simp [go_sem] at v6); have hS1 := hF1.ltS; have hB1 := hF1.mac.lt; have hne : B ≠ w1.heap.size := (by omega); have hne2 : w.heap.size ≠ w1.heap.size := (by omega); have q0 : w1.cell? ⟨B, 91 + fcn * 4 + t, none⟩ = some (.int .i64 (m.cel (fcn * 4 + t))) := (by rw [Nat.add_assoc]; exact hF1.mac.cel (d := fcn * 4 + t) (by omega)); have q1 : w1.cell? ⟨w.heap.size + 1, 2, none⟩ = some (.int .i64 fcn) := (by rw [v6.1]; rfl))
    | (go_at_call 118; fail)
    | go_in)
  all_goals go_region_held3 (fun w' => w'.cell? ⟨w.heap.size + 1, 2, none⟩ = some (.int .i64 fcn) ∧ w'.cell? ⟨B, 91 + fcn * 4 + t, none⟩ = some (.int .i64 (m.cel (fcn * 4 + t)))) (first | (simp [go_sem]; done) | (simp [go_sem, *]; done) | go_keep) (first
    | (go_at_call 118; go_must (refine (mnum_any (m.cel (fcn * 4 + t)) _).mono ?_; rintro e w2 ⟨rfl, hb2⟩; simp only [Val.v, numF]; have hb2 := drew_below hb2; have hb12 := below_zero hb2; have y0 : w2.cell? ⟨w.heap.size + 1, 2, none⟩ = some (.int .i64 fcn) := (hb12.cell (p := ⟨w.heap.size + 1, 2, none⟩) v6.2.2).trans q1; have y1 : w2.cell? ⟨B, 91 + fcn * 4 + t, none⟩ = some (.int .i64 (m.cel (fcn * 4 + t))) := (hb12.cell (p := ⟨B, 91 + fcn * 4 + t, none⟩) hB1).trans q0; obtain ⟨a0, a1, a2, z0, z1, z2, hl⟩ := zero_box hb2; have hF2 : Frm w.heap.size B c d s r o n m w2 := Frm.later (hF1.alloc _) hb2; obtain ⟨u0, u1, u2, u3, u4, u5⟩ := hF2.cells; obtain ⟨i0, i1, i2⟩ := hF2.mac.reg hd; have f0 := hF2.mac.frozen (2 + d * 3); have f1 := hF2.mac.frozen (2 + d * 3 + 1); have f2 := hF2.mac.frozen (2 + d * 3 + 2); have hS2 := hF2.ltS; have hB2 := hF2.mac.lt)))
  all_goals go_wp2_with fail
  all_goals go_region
  all_goals go_wp2
  all_goals go_ret
  all_goals have HK : Kept B w w2 := kept_later (kept_below hbw B) hb12
  all_goals have HM := hF2.mac
  all_goals exact ⟨rfl, (by repeat' first | with_reducible exact HK | with_reducible refine kept_drew ?_ | with_reducible refine kept_set ?_ _ _ | with_reducible refine kept_new ?_ _ _ ?_ | with_reducible refine kept_alloc ?_ _ | ((try dsimp only); omega)), (by repeat' first | with_reducible exact HM | with_reducible refine MacAt.drew ?_ | with_reducible refine MacAt.put3 ?_ hd _ _ _ | with_reducible refine MacAt.slot3 ?_ ht _ _ _ | with_reducible refine MacAt.cel1 ?_ hct _ | with_reducible refine MacAt.off ?_ _ _ ?_ | with_reducible refine MacAt.alloc ?_ _ | ((try dsimp only); omega))⟩
end Go.Proofs.YtegeiicginpdbaaDoor
