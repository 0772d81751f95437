/-
  A step that asks, of a program that runs: how far it leads, or what is wrong; nothing that was there is changed. Conditions: numbers are of 64 bits.
-/
import Derived.Test.YtegeiicginpdbaaDoorMachMem
namespace Go.Proofs.YtegeiicginpdbaaDoor
open Go.ChangeShapes Go.WideShapes Go.ChangeAt Go.RowKit
attribute [local simp] drew_size drewN_size setCell_size
set_option maxHeartbeats 8000000 in
set_option maxRecDepth 100000 in
theorem ask_any (B d s : Nat) (c o n : Int) (r : Bool) (m : Mac) (hd : d < 11) (hs : s < 11) (ak an ac bk bn bc : Int) (HA : Hid (m.reg d = ⟨ak, an, ac⟩)) (HB : Hid (m.second s r n = ⟨bk, bn, bc⟩)) (w : World) (hM : MacAt w B m) :
    Calls Tryd.prog 100 #[.pointer (some ⟨B, 0, none⟩), .agg #[.int .i64 c, .int .i64 d, .int .i64 s, .bool r, .int .i64 o, .int .i64 n]] w fun e w' => e = .returned (.tuple #[.int .i64 (askF c ⟨ak, an, ac⟩ ⟨bk, bn, bc⟩ r o n).1, .int .i64 (askF c ⟨ak, an, ac⟩ ⟨bk, bn, bc⟩ r o n).2]) ∧ Below w.heap.size w w' := by
  have hB := hM.lt
  have hF0 : Frm w.heap.size B c d s r o n m _ := Frm.start hM
  obtain ⟨p0, p1, p2, p3, p4, p5⟩ := hF0.cells
  obtain ⟨h0, h1, h2⟩ := hF0.mac.reg hd
  rw [HA.out] at h0 h1 h2
  have hd0 : (0 : Int) ≤ (d : Int) := by omega
  have hd1 : (d : Int) < 11 := by omega
  go_enter Tryd.func100, Tryd.ntmps100
  go_wp2_with fail
  go_cut [6, 7] (fun s6 s7 wx => ∃ L K : Nat, s6 = .pointer (some ⟨L, 0, none⟩) ∧ s7 = .pointer (some ⟨K, 0, none⟩) ∧ Below w.heap.size w wx ∧ Frm w.heap.size B c d s r o n m wx ∧ L < wx.heap.size ∧ K < wx.heap.size ∧ wx.cell? ⟨L, 0, none⟩ = some (.int .i64 ak) ∧ wx.cell? ⟨L, 1, none⟩ = some (.int .i64 an) ∧ wx.cell? ⟨L, 2, none⟩ = some (.int .i64 ac) ∧ wx.cell? ⟨K, 0, none⟩ = some (.int .i64 bk) ∧ wx.cell? ⟨K, 1, none⟩ = some (.int .i64 bn) ∧ wx.cell? ⟨K, 2, none⟩ = some (.int .i64 bc))
  case first =>
    go_region_held3 (fun w' => w'.cell? ⟨w.heap.size, 0, none⟩ = some (.int .i64 c) ∧ w'.cell? ⟨w.heap.size, 1, none⟩ = some (.int .i64 d) ∧ w'.cell? ⟨w.heap.size, 2, none⟩ = some (.int .i64 s) ∧ w'.cell? ⟨w.heap.size, 3, none⟩ = some (.bool r) ∧ w'.cell? ⟨w.heap.size, 4, none⟩ = some (.int .i64 o) ∧ w'.cell? ⟨w.heap.size, 5, none⟩ = some (.int .i64 n) ∧ w'.cell? ⟨B, 2 + d * 3, none⟩ = some (.int .i64 ak) ∧ w'.cell? ⟨B, 2 + d * 3 + 1, none⟩ = some (.int .i64 an) ∧ w'.cell? ⟨B, 2 + d * 3 + 2, none⟩ = some (.int .i64 ac)) (first | (simp [go_sem]; done) | (simp [go_sem, *]; done) | go_keep) (first
      | (go_at_call 116; go_must (refine (second_any B s c d o n r m hs _ (Frm.mac (S := w.heap.size) (c := c) (d := d) (s := s) (r := r) (o := o) (n := n) (by repeat' first | exact hF0 | exact hF1 | exact hF2 | refine Frm.alloc ?_ _ | refine Frm.drew ?_ | refine Frm.drewN ?_ _ | refine Frm.set ?_ _ _ ?_ ?_ | (intro hh; simp at hh; done) | (intro hh; simp at hh; omega)))).mono ?_; rintro e w1 ⟨rfl, hb1⟩; rw [HB.out]; simp only [Val.v]; have hF1 : Frm w.heap.size B c d s r o n m w1 := Frm.later (by repeat' first | exact hF0 | exact hF1 | exact hF2 | refine Frm.alloc ?_ _ | refine Frm.drew ?_ | refine Frm.drewN ?_ _ | refine Frm.set ?_ _ _ ?_ ?_ | (intro hh; simp at hh; done) | (intro hh; simp at hh; omega)) hb1; have hbw1 : Below w.heap.size w w1 := (by ((refine Below.trans ?_ (hb1.mono ?_)) <;> repeat' first | exact Below.refl _ _ | exact hbw1 | exact hbw2 | refine Below.alloc ?_ ?_ _ | refine Below.setCell ?_ ?_ _ | refine Below.drew ?_ | refine below_drewN ?_ _ | (simp; done) | (simp; omega) | omega)); obtain ⟨v0, v1, v2, v3, v4, v5⟩ := hF1.cells; obtain ⟨i0, i1, i2⟩ := hF1.mac.reg hd; rw [HA.out] at i0 i1 i2; have hS1 := hF1.ltS; have hB1 := hF1.mac.lt; have v6 := later_box hb1 (w.heap.size + 1); (try simp [go_sem] at v6); have v7 := later_box hb1 (w.heap.size + 1 + 1); (try simp [go_sem] at v7))))
    all_goals (go_wp2_with fail; go_meet)
    all_goals refine ⟨_, _, rfl, rfl, ?_, ?_, ?_, ?_, ?_, ?_, ?_, ?_, ?_, ?_⟩
    all_goals clear HA HB p0 p1 p2 p3 p4 p5 h0 h1 h2 hF0
    all_goals first
      | (with_reducible refine Below.alloc ?_ ?_ _; (repeat' first | with_reducible exact hbw1 | with_reducible refine Below.alloc ?_ ?_ _ | with_reducible refine Below.setCell ?_ ?_ _ | ((try dsimp only); omega) | (simp; done) | (simp; omega)); done)
      | (with_reducible refine Below.setCell ?_ ?_ _; (repeat' first | with_reducible exact hbw1 | with_reducible refine Below.alloc ?_ ?_ _ | with_reducible refine Below.setCell ?_ ?_ _ | ((try dsimp only); omega) | (simp; done) | (simp; omega)); done)
      | (with_reducible refine Frm.alloc ?_ _; (repeat' first | with_reducible exact hF1 | with_reducible refine Frm.alloc ?_ _ | with_reducible refine Frm.set ?_ _ _ ?_ ?_ | ((try dsimp only); omega) | (simp; done) | (simp; omega)); done)
      | (with_reducible refine Frm.set ?_ _ _ ?_ ?_; (repeat' first | with_reducible exact hF1 | with_reducible refine Frm.alloc ?_ _ | with_reducible refine Frm.set ?_ _ _ ?_ ?_ | ((try dsimp only); omega) | (simp; done) | (simp; omega)); done)
      | (simp; done) | (simp; omega) | (simp [go_sem]; done) | (simp [go_sem, v6]; done) | (simp [go_sem, v7]; done) | (simp [go_sem, *]; done)
  case rest =>
    obtain ⟨L, K, rfl, rfl, hbw, hFx, hL, hK, l0, l1, l2, g0, g1, g2⟩ := hcut
    obtain ⟨v0, v1, v2, v3, v4, v5⟩ := hFx.cells
    have hSx := hFx.ltS
    clear p0 p1 p2 p3 p4 p5 h0 h1 h2 hF0 hFx HA HB hM
    by_cases ha : ak = 0
    · have x0 : (ak == 0) = true := by simp; omega
      have HV : Hid (askF c ⟨ak, an, ac⟩ ⟨bk, bn, bc⟩ r o n = (0, 8)) := by
        show askF c ⟨ak, an, ac⟩ ⟨bk, bn, bc⟩ r o n = (0, 8)
        exact askF_a ha
      clear ha
      go_wp2
      all_goals go_ret2
      all_goals exact ⟨by rw [HV.out]; rfl, hbw⟩
    by_cases hb : bk = 0
    · have x0 : (ak == 0) = false := by simp; omega
      have x1 : (bk == 0) = true := by simp; omega
      have HV : Hid (askF c ⟨ak, an, ac⟩ ⟨bk, bn, bc⟩ r o n = (0, 8)) := by
        show askF c ⟨ak, an, ac⟩ ⟨bk, bn, bc⟩ r o n = (0, 8)
        exact askF_b hb
      clear ha hb
      go_wp2
      all_goals go_ret2
      all_goals exact ⟨by rw [HV.out]; rfl, hbw⟩
    by_cases ha1 : ak = 1
    · by_cases hb1 : bk = 1
      · cases hi : isV c an bn
        · skip
          have x0 : (ak == 0) = false := by simp; omega
          have x1 : (bk == 0) = false := by simp; omega
          have x2 : (ak == 1) = true := by simp; omega
          have x3 : (bk == 1) = true := by simp; omega
          have HV : Hid (askF c ⟨ak, an, ac⟩ ⟨bk, bn, bc⟩ r o n = (0, 0)) := by
            show askF c ⟨ak, an, ac⟩ ⟨bk, bn, bc⟩ r o n = (0, 0)
            exact askF_not ha1 hb1 hi
          have HI : Hid (isV c an bn = _) := hi
          clear ha hb ha1 hb1 hi
          go_wp2_with (first | (go_at_call 80; refine (is_any _ _ _ _).mono ?_; rintro e w1 ⟨rfl, rfl⟩; rw [HI.out]) | go_in)
          all_goals go_ret2
          all_goals exact ⟨by rw [HV.out]; rfl, hbw⟩
        · skip
          have x0 : (ak == 0) = false := by simp; omega
          have x1 : (bk == 0) = false := by simp; omega
          have x2 : (ak == 1) = true := by simp; omega
          have x3 : (bk == 1) = true := by simp; omega
          have HV : Hid (askF c ⟨ak, an, ac⟩ ⟨bk, bn, bc⟩ r o n = (o, 0)) := by
            show askF c ⟨ak, an, ac⟩ ⟨bk, bn, bc⟩ r o n = (o, 0)
            exact askF_so ha1 hb1 hi
          have HI : Hid (isV c an bn = _) := hi
          clear ha hb ha1 hb1 hi
          go_wp2_with (first | (go_at_call 80; refine (is_any _ _ _ _).mono ?_; rintro e w1 ⟨rfl, rfl⟩; rw [HI.out]) | go_in)
          all_goals go_ret2
          all_goals exact ⟨by rw [HV.out]; rfl, hbw⟩
      · skip
        by_cases hj : c = 15
        · cases r
          · by_cases hn : n = 0
            · skip
              have x0 : (ak == 0) = false := by simp; omega
              have x1 : (bk == 0) = false := by simp; omega
              have x2 : (ak == 1) = true := by simp; omega
              have x3 : (bk == 1) = false := by simp; omega
              have x4 : (c != 15) = false := by simp; omega
              have x5 : (c == 16) = false := by simp; omega
              have x6 : (n != 0) = false := by simp; omega
              have HV : Hid (askF c ⟨ak, an, ac⟩ ⟨bk, bn, bc⟩ false o n = (0, 0)) := by
                show askF c ⟨ak, an, ac⟩ ⟨bk, bn, bc⟩ false o n = (0, 0)
                exact askF_eq ha hb (by omega) hj hn
              clear ha ha1 hb hb1 hj hn
              go_wp2
              all_goals go_ret2
              all_goals exact ⟨by rw [HV.out]; rfl, hbw⟩
            · skip
              have x0 : (ak == 0) = false := by simp; omega
              have x1 : (bk == 0) = false := by simp; omega
              have x2 : (ak == 1) = true := by simp; omega
              have x3 : (bk == 1) = false := by simp; omega
              have x4 : (c != 15) = false := by simp; omega
              have x5 : (n != 0) = true := by simp; omega
              have HV : Hid (askF c ⟨ak, an, ac⟩ ⟨bk, bn, bc⟩ false o n = (0, 1)) := by
                show askF c ⟨ak, an, ac⟩ ⟨bk, bn, bc⟩ false o n = (0, 1)
                exact askF_arg ha hb (by omega) (Or.inr (Or.inr hn))
              clear ha ha1 hb hb1 hj hn
              go_wp2
              all_goals go_ret2
              all_goals exact ⟨by rw [HV.out]; rfl, hbw⟩
          · skip
            have x0 : (ak == 0) = false := by simp; omega
            have x1 : (bk == 0) = false := by simp; omega
            have x2 : (ak == 1) = true := by simp; omega
            have x3 : (bk == 1) = false := by simp; omega
            have x4 : (c != 15) = false := by simp; omega
            have HV : Hid (askF c ⟨ak, an, ac⟩ ⟨bk, bn, bc⟩ true o n = (0, 1)) := by
              show askF c ⟨ak, an, ac⟩ ⟨bk, bn, bc⟩ true o n = (0, 1)
              exact askF_arg ha hb (by omega) (Or.inr (Or.inl rfl))
            clear ha ha1 hb hb1 hj
            go_wp2
            all_goals go_ret2
            all_goals exact ⟨by rw [HV.out]; rfl, hbw⟩
        · by_cases hk : c = 16
          · cases r
            · by_cases hn : n = 0
              · skip
                have x0 : (ak == 0) = false := by simp; omega
                have x1 : (bk == 0) = false := by simp; omega
                have x2 : (ak == 1) = true := by simp; omega
                have x3 : (bk == 1) = false := by simp; omega
                have x4 : (c != 15) = true := by simp; omega
                have x5 : (c != 16) = false := by simp; omega
                have x6 : (c == 16) = true := by simp; omega
                have x7 : (n != 0) = false := by simp; omega
                have HV : Hid (askF c ⟨ak, an, ac⟩ ⟨bk, bn, bc⟩ false o n = (o, 0)) := by
                  show askF c ⟨ak, an, ac⟩ ⟨bk, bn, bc⟩ false o n = (o, 0)
                  exact askF_ne ha hb (by omega) hk hn
                clear ha ha1 hb hb1 hj hk hn
                go_wp2
                all_goals go_ret2
                all_goals exact ⟨by rw [HV.out]; rfl, hbw⟩
              · skip
                have x0 : (ak == 0) = false := by simp; omega
                have x1 : (bk == 0) = false := by simp; omega
                have x2 : (ak == 1) = true := by simp; omega
                have x3 : (bk == 1) = false := by simp; omega
                have x4 : (c != 15) = true := by simp; omega
                have x5 : (c != 16) = false := by simp; omega
                have x6 : (n != 0) = true := by simp; omega
                have HV : Hid (askF c ⟨ak, an, ac⟩ ⟨bk, bn, bc⟩ false o n = (0, 1)) := by
                  show askF c ⟨ak, an, ac⟩ ⟨bk, bn, bc⟩ false o n = (0, 1)
                  exact askF_arg ha hb (by omega) (Or.inr (Or.inr hn))
                clear ha ha1 hb hb1 hj hk hn
                go_wp2
                all_goals go_ret2
                all_goals exact ⟨by rw [HV.out]; rfl, hbw⟩
            · skip
              have x0 : (ak == 0) = false := by simp; omega
              have x1 : (bk == 0) = false := by simp; omega
              have x2 : (ak == 1) = true := by simp; omega
              have x3 : (bk == 1) = false := by simp; omega
              have x4 : (c != 15) = true := by simp; omega
              have x5 : (c != 16) = false := by simp; omega
              have HV : Hid (askF c ⟨ak, an, ac⟩ ⟨bk, bn, bc⟩ true o n = (0, 1)) := by
                show askF c ⟨ak, an, ac⟩ ⟨bk, bn, bc⟩ true o n = (0, 1)
                exact askF_arg ha hb (by omega) (Or.inr (Or.inl rfl))
              clear ha ha1 hb hb1 hj hk
              go_wp2
              all_goals go_ret2
              all_goals exact ⟨by rw [HV.out]; rfl, hbw⟩
          · skip
            have x0 : (ak == 0) = false := by simp; omega
            have x1 : (bk == 0) = false := by simp; omega
            have x2 : (ak == 1) = true := by simp; omega
            have x3 : (bk == 1) = false := by simp; omega
            have x4 : (c != 15) = true := by simp; omega
            have x5 : (c != 16) = true := by simp; omega
            have HV : Hid (askF c ⟨ak, an, ac⟩ ⟨bk, bn, bc⟩ r o n = (0, 1)) := by
              show askF c ⟨ak, an, ac⟩ ⟨bk, bn, bc⟩ r o n = (0, 1)
              exact askF_arg ha hb (by omega) (Or.inl ⟨hj, hk⟩)
            clear ha ha1 hb hb1 hj hk
            go_wp2
            all_goals go_ret2
            all_goals exact ⟨by rw [HV.out]; rfl, hbw⟩
    · skip
      by_cases hj : c = 15
      · cases r
        · by_cases hn : n = 0
          · skip
            have x0 : (ak == 0) = false := by simp; omega
            have x1 : (bk == 0) = false := by simp; omega
            have x2 : (ak == 1) = false := by simp; omega
            have x3 : (c != 15) = false := by simp; omega
            have x4 : (c == 16) = false := by simp; omega
            have x5 : (n != 0) = false := by simp; omega
            have HV : Hid (askF c ⟨ak, an, ac⟩ ⟨bk, bn, bc⟩ false o n = (0, 0)) := by
              show askF c ⟨ak, an, ac⟩ ⟨bk, bn, bc⟩ false o n = (0, 0)
              exact askF_eq ha hb (by omega) hj hn
            clear ha ha1 hb hj hn
            go_wp2
            all_goals go_ret2
            all_goals exact ⟨by rw [HV.out]; rfl, hbw⟩
          · skip
            have x0 : (ak == 0) = false := by simp; omega
            have x1 : (bk == 0) = false := by simp; omega
            have x2 : (ak == 1) = false := by simp; omega
            have x3 : (c != 15) = false := by simp; omega
            have x4 : (n != 0) = true := by simp; omega
            have HV : Hid (askF c ⟨ak, an, ac⟩ ⟨bk, bn, bc⟩ false o n = (0, 1)) := by
              show askF c ⟨ak, an, ac⟩ ⟨bk, bn, bc⟩ false o n = (0, 1)
              exact askF_arg ha hb (by omega) (Or.inr (Or.inr hn))
            clear ha ha1 hb hj hn
            go_wp2
            all_goals go_ret2
            all_goals exact ⟨by rw [HV.out]; rfl, hbw⟩
        · skip
          have x0 : (ak == 0) = false := by simp; omega
          have x1 : (bk == 0) = false := by simp; omega
          have x2 : (ak == 1) = false := by simp; omega
          have x3 : (c != 15) = false := by simp; omega
          have HV : Hid (askF c ⟨ak, an, ac⟩ ⟨bk, bn, bc⟩ true o n = (0, 1)) := by
            show askF c ⟨ak, an, ac⟩ ⟨bk, bn, bc⟩ true o n = (0, 1)
            exact askF_arg ha hb (by omega) (Or.inr (Or.inl rfl))
          clear ha ha1 hb hj
          go_wp2
          all_goals go_ret2
          all_goals exact ⟨by rw [HV.out]; rfl, hbw⟩
      · by_cases hk : c = 16
        · cases r
          · by_cases hn : n = 0
            · skip
              have x0 : (ak == 0) = false := by simp; omega
              have x1 : (bk == 0) = false := by simp; omega
              have x2 : (ak == 1) = false := by simp; omega
              have x3 : (c != 15) = true := by simp; omega
              have x4 : (c != 16) = false := by simp; omega
              have x5 : (c == 16) = true := by simp; omega
              have x6 : (n != 0) = false := by simp; omega
              have HV : Hid (askF c ⟨ak, an, ac⟩ ⟨bk, bn, bc⟩ false o n = (o, 0)) := by
                show askF c ⟨ak, an, ac⟩ ⟨bk, bn, bc⟩ false o n = (o, 0)
                exact askF_ne ha hb (by omega) hk hn
              clear ha ha1 hb hj hk hn
              go_wp2
              all_goals go_ret2
              all_goals exact ⟨by rw [HV.out]; rfl, hbw⟩
            · skip
              have x0 : (ak == 0) = false := by simp; omega
              have x1 : (bk == 0) = false := by simp; omega
              have x2 : (ak == 1) = false := by simp; omega
              have x3 : (c != 15) = true := by simp; omega
              have x4 : (c != 16) = false := by simp; omega
              have x5 : (n != 0) = true := by simp; omega
              have HV : Hid (askF c ⟨ak, an, ac⟩ ⟨bk, bn, bc⟩ false o n = (0, 1)) := by
                show askF c ⟨ak, an, ac⟩ ⟨bk, bn, bc⟩ false o n = (0, 1)
                exact askF_arg ha hb (by omega) (Or.inr (Or.inr hn))
              clear ha ha1 hb hj hk hn
              go_wp2
              all_goals go_ret2
              all_goals exact ⟨by rw [HV.out]; rfl, hbw⟩
          · skip
            have x0 : (ak == 0) = false := by simp; omega
            have x1 : (bk == 0) = false := by simp; omega
            have x2 : (ak == 1) = false := by simp; omega
            have x3 : (c != 15) = true := by simp; omega
            have x4 : (c != 16) = false := by simp; omega
            have HV : Hid (askF c ⟨ak, an, ac⟩ ⟨bk, bn, bc⟩ true o n = (0, 1)) := by
              show askF c ⟨ak, an, ac⟩ ⟨bk, bn, bc⟩ true o n = (0, 1)
              exact askF_arg ha hb (by omega) (Or.inr (Or.inl rfl))
            clear ha ha1 hb hj hk
            go_wp2
            all_goals go_ret2
            all_goals exact ⟨by rw [HV.out]; rfl, hbw⟩
        · skip
          have x0 : (ak == 0) = false := by simp; omega
          have x1 : (bk == 0) = false := by simp; omega
          have x2 : (ak == 1) = false := by simp; omega
          have x3 : (c != 15) = true := by simp; omega
          have x4 : (c != 16) = true := by simp; omega
          have HV : Hid (askF c ⟨ak, an, ac⟩ ⟨bk, bn, bc⟩ r o n = (0, 1)) := by
            show askF c ⟨ak, an, ac⟩ ⟨bk, bn, bc⟩ r o n = (0, 1)
            exact askF_arg ha hb (by omega) (Or.inl ⟨hj, hk⟩)
          clear ha ha1 hb hj hk
          go_wp2
          all_goals go_ret2
          all_goals exact ⟨by rw [HV.out]; rfl, hbw⟩
end Go.Proofs.YtegeiicginpdbaaDoor
