/-
  BoundCounts returns true at every code, every two bounds and every number of 64 bits, and changes nothing. Conditions: the document's variable of all numbers holds them.
-/
import Derived.Test.YtllphbfhfmieaaaDoorBoundRefAny
import Derived.Test.YtllphbfhfmieaaaDoorBoundRefNar6
import Derived.Test.YtllphbfhfmieaaaDoorBoundDo
import Derived.Deep.DeepCutAuto
import Derived.BigQuiet
namespace Go.Proofs.YtllphbfhfmieaaaDoor
open Go.ChangeShapes Go.WideShapes Go.ChangeAt Go.RowKit
set_option linter.unusedVariables false
attribute [local simp] drew_size drewN_size setCell_size

theorem lawrow_is (bl bh : Int) (w : World) : Calls Tryd.prog 11 #[.agg #[.int .i64 bl, .int .i64 bh]] w fun e w' => e = .returned (.agg #[.int .i64 (min bl bh), .int .i64 (max bl bh)]) ∧ Below w.heap.size w w' := by
  go_enter Tryd.func11, Tryd.ntmps11
  go_wp2
  all_goals exact bodyPost_ret (v := .agg #[.int .i64 (min bl bh), .int .i64 (max bl bh)]) (by simp [results, Tryd.results11, go_sem]) rfl ⟨rfl, by repeat' first | exact Below.refl _ _ | refine Below.alloc ?_ ?_ _ | refine Below.setCell ?_ ?_ _ | refine Below.drew ?_ | refine below_drewN ?_ _ | (simp; done) | (simp; omega) | (simp [drew_size]; done) | (simp [drew_size]; omega) | omega⟩
theorem AllAt.later {w w' : World} (h : AllAt w) (hb : Below w.heap.size w w') : AllAt w' := by
  obtain ⟨h0, h1, h2⟩ := h
  exact ⟨Nat.lt_of_lt_of_le h0 hb.size, (hb.cell (p := ⟨2, 0, none⟩) h0).trans h1, (hb.cell (p := ⟨2, 1, none⟩) h0).trans h2⟩
/-- Two boxes of a bound each, one behind the other, with these ends. -/
def Duo (n : Nat) (al ah bl bh : Int) (w : World) : Prop :=
  n + 1 < w.heap.size ∧ w.cell? ⟨n, 0, none⟩ = some (.int .i64 al) ∧ w.cell? ⟨n, 1, none⟩ = some (.int .i64 ah) ∧ w.frozen? ⟨n, 0, none⟩ = false ∧ w.frozen? ⟨n, 1, none⟩ = false ∧ w.cell? ⟨n + 1, 0, none⟩ = some (.int .i64 bl) ∧ w.cell? ⟨n + 1, 1, none⟩ = some (.int .i64 bh) ∧ w.frozen? ⟨n + 1, 0, none⟩ = false ∧ w.frozen? ⟨n + 1, 1, none⟩ = false
theorem Duo.later {n : Nat} {al ah bl bh : Int} {W w1 : World} (h : Duo n al ah bl bh W) (hb : Below W.heap.size W w1) : Duo n al ah bl bh w1 := by
  obtain ⟨t0, a0, a1, af0, af1, b0, b1, bf0, bf1⟩ := h
  have hs := hb.size
  have l0 : n < W.heap.size := by omega
  have l1 : n + 1 < W.heap.size := by omega
  exact ⟨by omega, (hb.cell (p := ⟨n, 0, none⟩) l0).trans a0, (hb.cell (p := ⟨n, 1, none⟩) l0).trans a1, (hb.frozen (p := ⟨n, 0, none⟩) l0).trans af0, (hb.frozen (p := ⟨n, 1, none⟩) l0).trans af1, (hb.cell (p := ⟨n + 1, 0, none⟩) l1).trans b0, (hb.cell (p := ⟨n + 1, 1, none⟩) l1).trans b1, (hb.frozen (p := ⟨n + 1, 0, none⟩) l1).trans bf0, (hb.frozen (p := ⟨n + 1, 1, none⟩) l1).trans bf1⟩
theorem Duo.drew {n : Nat} {al ah bl bh : Int} {W : World} (h : Duo n al ah bl bh W) : Duo n al ah bl bh W.drew := h
theorem Duo.drewN {n k : Nat} {al ah bl bh : Int} {W : World} (h : Duo n al ah bl bh W) : Duo n al ah bl bh (W.drewN k) := h
/-- A box of a bound with these ends. -/
def Box (m : Nat) (lo hi : Int) (w : World) : Prop := m < w.heap.size ∧ w.cell? ⟨m, 0, none⟩ = some (.int .i64 lo) ∧ w.cell? ⟨m, 1, none⟩ = some (.int .i64 hi)
theorem Box.later {m : Nat} {lo hi : Int} {W w1 : World} (h : Box m lo hi W) (hb : Below W.heap.size W w1) : Box m lo hi w1 :=
  ⟨Nat.lt_of_lt_of_le h.1 hb.size, (hb.cell (p := ⟨m, 0, none⟩) h.1).trans h.2.1, (hb.cell (p := ⟨m, 1, none⟩) h.1).trans h.2.2⟩
/-- The law's four boxes. -/
def Four2 (n X Y : Nat) (al ah bl bh : Int) (w : World) : Prop := Box n al ah w ∧ Box (n + 1) bl bh w ∧ Box X al ah w ∧ Box Y bl bh w
theorem Four2.later {n X Y : Nat} {al ah bl bh : Int} {W w1 : World} (h : Four2 n X Y al ah bl bh W) (hb : Below W.heap.size W w1) : Four2 n X Y al ah bl bh w1 :=
  ⟨h.1.later hb, h.2.1.later hb, h.2.2.1.later hb, h.2.2.2.later hb⟩
theorem Four2.drew {n X Y : Nat} {al ah bl bh : Int} {W : World} (h : Four2 n X Y al ah bl bh W) : Four2 n X Y al ah bl bh W.drew := h
theorem Four2.drewN {n X Y k : Nat} {al ah bl bh : Int} {W : World} (h : Four2 n X Y al ah bl bh W) : Four2 n X Y al ah bl bh (W.drewN k) := h
theorem rasks_yes (c : Int) (h1 : 15 ≤ c) (h2 : c ≤ 24) (w : World) : Calls Tryd.prog 20 #[.int .i64 c] w fun e w' => e = .returned (.bool true) ∧ w' = w := by
  go_enter Tryd.func20, Tryd.ntmps20
  go_wp2
  go_ret
  exact ⟨rfl, rfl⟩
theorem rasks_no (c : Int) (h : ¬ (15 ≤ c ∧ c ≤ 24)) (w : World) : Calls Tryd.prog 20 #[.int .i64 c] w fun e w' => e = .returned (.bool false) ∧ w' = w := by
  by_cases h1 : 15 ≤ c
  · have h2 : ¬ c ≤ 24 := fun x => h ⟨h1, x⟩
    clear h
    go_enter Tryd.func20, Tryd.ntmps20
    go_wp2
    go_ret
    exact ⟨rfl, rfl⟩
  · have h2 : decide (15 ≤ c) = false := by simpa using h1
    clear h
    go_enter Tryd.func20, Tryd.ntmps20
    go_wp2
    go_ret
    exact ⟨rfl, rfl⟩
theorem quiet_yield {P : Program} {ops : Array Oper} {C : World → Prop} {Q : Act → Prop} {o : Oper} {rest : List Oper} {a : Act} {v : Value} (hw : Region.wanted o (yielded ops a.tmps) = true)
    (hy : ∀ w, C w → (execOp a.eval o).run P w = .ok (.value v) w) (h : wpQuiet P ops C Q rest (a.put o.dst v)) : wpQuiet P ops C Q (o :: rest) a :=
  wpQuiet_step fun K hK => by rw [if_pos hw]; exact ⟨v, fun w hC => by unfold Oper.quietAt; rw [hy w hC]; exact ⟨rfl, rfl⟩, hK _ h⟩
theorem quiet_enter {P : Program} {ops : Array Oper} {C : World → Prop} {Q : Act → Prop} {o : Oper} {rest : List Oper} {a : Act} (hw : Region.wanted o (yielded ops a.tmps) = true)
    (h : ∃ v, (∀ w, C w → o.quietAt P a C w v) ∧ wpQuiet P ops C Q rest (a.put o.dst v)) : wpQuiet P ops C Q (o :: rest) a :=
  wpQuiet_step fun K hK => by rw [if_pos hw]; obtain ⟨v, hy, h⟩ := h; exact ⟨v, hy, hK _ h⟩
theorem quiet_skip {P : Program} {ops : Array Oper} {C : World → Prop} {Q : Act → Prop} {o : Oper} {rest : List Oper} {a : Act} (hw : Region.wanted o (yielded ops a.tmps) = false) (h : wpQuiet P ops C Q rest (a.put o.dst undef)) : wpQuiet P ops C Q (o :: rest) a :=
  wpQuiet_step fun K hK => by rw [hw]; exact hK _ h
/-- The law's worlds: all below is as it was, the four boxes are there. -/
def Cls (w : World) (X Y : Nat) (al ah bl bh : Int) (w' : World) : Prop := Below w.heap.size w w' ∧ Four2 w.heap.size X Y al ah bl bh w'
theorem Cls.next {w : World} {X Y : Nat} {al ah bl bh : Int} {w' w2 : World} (h : Cls w X Y al ah bl bh w') (hb : Below w'.heap.size w' w2) : Cls w X Y al ah bl bh w2 :=
  ⟨h.1.trans (hb.mono h.1.size), h.2.later hb⟩
set_option maxHeartbeats 4000000 in
set_option maxRecDepth 100000 in
theorem counts1 (c al ah bl bh n : Int) (pal : -9223372036854775808 ≤ al) (qal : al ≤ 9223372036854775807) (pah : -9223372036854775808 ≤ ah) (qah : ah ≤ 9223372036854775807) (pbl : -9223372036854775808 ≤ bl) (qbl : bl ≤ 9223372036854775807) (pbh : -9223372036854775808 ≤ bh) (qbh : bh ≤ 9223372036854775807) (pn : -9223372036854775808 ≤ n) (qn : n ≤ 9223372036854775807) (w : World) (hA : AllAt w) :
    Calls Tryd.prog 5 #[.int .i64 c, .agg #[.int .i64 al, .int .i64 ah], .agg #[.int .i64 bl, .int .i64 bh], .int .i64 n] w fun e w' => e = .returned (.bool true) ∧ Below w.heap.size w w' := by
  go_enter Tryd.func5, Tryd.ntmps5
  go_wp2_with fail
  go_cut [] (fun wx => Below w.heap.size w wx ∧ Duo w.heap.size (min al ah) (max al ah) (min bl bh) (max bl bh) wx)
  case first =>
    go_region_with (first | (go_at_call 11; go_must (refine (lawrow_is _ _ _).mono ?_; rintro e w1 ⟨rfl, hb1⟩; have hbw : Below w.heap.size w w1 := (by ((refine Below.trans ?_ (hb1.mono ?_)) <;> repeat' first | exact Below.refl _ _ | exact hbw | refine Below.alloc ?_ ?_ _ | refine Below.setCell ?_ ?_ _ | refine Below.drew ?_ | refine below_drewN ?_ _ | (simp; done) | (simp; omega) | (simp [drew_size]; done) | (simp [drew_size]; omega) | omega)); have hX : Duo w.heap.size al ah bl bh w1 := Duo.later (by first | exact hX | exact hX.drew | exact hX.drewN | exact (hX.drewN).drew | exact (hX.drew).drew | (refine ⟨?_, ?_, ?_, ?_, ?_, ?_, ?_, ?_, ?_⟩ <;> simp [go_sem, *])) hb1; have hY := hX; obtain ⟨t0, a0, a1, af0, af1, b0, b1, bf0, bf1⟩ := hY; have sz0 : w.heap.size < w1.heap.size := (by omega); have sz1 : w.heap.size < w1.heap.size + 1 := (by omega); have sz2 : w.heap.size < w1.heap.size + 1 + 1 := (by omega); have sz3 : w.heap.size < w1.heap.size + 1 + 1 + 1 := (by omega); have sz4 : w.heap.size < w1.heap.size + 1 + 1 + 1 + 1 := (by omega); have sz5 : w.heap.size < w1.heap.size + 1 + 1 + 1 + 1 + 1 := (by omega); have sz6 : w.heap.size < w1.heap.size + 1 + 1 + 1 + 1 + 1 + 1 := (by omega); have sz7 : w.heap.size < w1.heap.size + 1 + 1 + 1 + 1 + 1 + 1 + 1 := (by omega); have sz8 : w.heap.size < w1.heap.size + 1 + 1 + 1 + 1 + 1 + 1 + 1 + 1 := (by omega); have sz9 : w.heap.size < w1.heap.size + 1 + 1 + 1 + 1 + 1 + 1 + 1 + 1 + 1 := (by omega); have sz10 : w.heap.size < w1.heap.size + 1 + 1 + 1 + 1 + 1 + 1 + 1 + 1 + 1 + 1 := (by omega); have sz11 : w.heap.size < w1.heap.size + 1 + 1 + 1 + 1 + 1 + 1 + 1 + 1 + 1 + 1 + 1 := (by omega); have sz12 : w.heap.size < w1.heap.size + 1 + 1 + 1 + 1 + 1 + 1 + 1 + 1 + 1 + 1 + 1 + 1 := (by omega))))
    all_goals go_wp2_with fail
    all_goals go_meet
    all_goals exact ⟨by repeat' first | exact Below.refl _ _ | exact hbw | refine Below.alloc ?_ ?_ _ | refine Below.setCell ?_ ?_ _ | refine Below.drew ?_ | refine below_drewN ?_ _ | (simp; done) | (simp; omega) | (simp [drew_size]; done) | (simp [drew_size]; omega) | omega, by refine ⟨?_, ?_, ?_, ?_, ?_, ?_, ?_, ?_, ?_⟩ <;> simp [go_sem, *]⟩
  case rest =>
  obtain ⟨hbw, hX⟩ := hcut
  have o5 : -9223372036854775808 ≤ min al ah := by omega
  have o6 : max al ah ≤ 9223372036854775807 := by omega
  have o7 : -9223372036854775808 ≤ min bl bh := by omega
  have o8 : max bl bh ≤ 9223372036854775807 := by omega
  have o9 : min al ah ≤ max al ah := by omega
  have o0 : min bl bh ≤ max bl bh := by omega
  generalize min al ah = AL at *
  generalize max al ah = AH at *
  generalize min bl bh = BL at *
  generalize max bl bh = BH at *
  clear pal qal pah qah pbl qbl pbh qbh
  obtain ⟨t0, a0, a1, af0, af1, b0, b1, bf0, bf1⟩ := hX
  have hX : Duo w.heap.size AL AH BL BH wc := ⟨t0, a0, a1, af0, af1, b0, b1, bf0, bf1⟩
  go_wp2_with fail
  go_cut [9, 10] (fun s9 s10 wx => ∃ X Y : Nat, s9 = .pointer (some ⟨X, 0, none⟩) ∧ s10 = .pointer (some ⟨Y, 0, none⟩) ∧ Below w.heap.size w wx ∧ Four2 w.heap.size X Y AL AH BL BH wx)
  case first =>
    have q00 : w.heap.size < wc.heap.size := (by omega); have q01 : w.heap.size < wc.heap.size + 1 := (by omega); have q02 : w.heap.size < wc.heap.size + 1 + 1 := (by omega); have q03 : w.heap.size < wc.heap.size + 1 + 1 + 1 := (by omega); have q10 : w.heap.size + 1 < wc.heap.size := (by omega); have q11 : w.heap.size + 1 < wc.heap.size + 1 := (by omega); have q12 : w.heap.size + 1 < wc.heap.size + 1 + 1 := (by omega); have q13 : w.heap.size + 1 < wc.heap.size + 1 + 1 + 1 := (by omega)
    go_region
    all_goals go_wp2
    all_goals go_meet
    all_goals exact ⟨_, _, rfl, rfl, by repeat' first | exact Below.refl _ _ | exact hbw | refine Below.alloc ?_ ?_ _ | refine Below.setCell ?_ ?_ _ | refine Below.drew ?_ | refine below_drewN ?_ _ | (simp; done) | (simp; omega) | (simp [drew_size]; done) | (simp [drew_size]; omega) | omega, ⟨(by first | (simp; done) | (simp; omega)), (by simp [go_sem, *]), (by simp [go_sem, *])⟩, ⟨(by first | (simp; done) | (simp; omega)), (by simp [go_sem, *]), (by simp [go_sem, *])⟩, ⟨(by first | (simp; done) | (simp; omega)), (by simp [go_sem, *]), (by simp [go_sem, *])⟩, ⟨(by first | (simp; done) | (simp; omega)), (by simp [go_sem, *]), (by simp [go_sem, *])⟩⟩
  case rest =>
  clear hbw hX t0 a0 a1 af0 af1 b0 b1 bf0 bf1
  obtain ⟨X, Y, rfl, rfl, hbw, hX⟩ := hcut
  obtain ⟨⟨ga, a0, a1⟩, ⟨gb, b0, b1⟩, ⟨gx, x0, x1⟩, ⟨gy, y0, y1⟩⟩ := hX
  have hX : Four2 w.heap.size X Y AL AH BL BH _ := ⟨⟨ga, a0, a1⟩, ⟨gb, b0, b1⟩, ⟨gx, x0, x1⟩, ⟨gy, y0, y1⟩⟩
  have hA0 : AllAt w := hA
  have hd := fun w => bdo_any c AL AH BL BH o5 (by omega) (by omega) o6 o7 (by omega) (by omega) o8 o9 o0 w
  have he := fun w => rbd_any c AL AH BL BH o5 (by omega) (by omega) o6 o7 (by omega) (by omega) o8 o9 o0 w
  generalize bdV c AL AH BL BH = dv at hd he
  obtain ⟨d1, d2⟩ := dv
  have HD : Hid (∀ w : World, Calls Tryd.prog 12 #[.int .i64 c, .agg #[.int .i64 AL, .int .i64 AH], .agg #[.int .i64 BL, .int .i64 BH]] w fun e w' => e = .returned (.agg #[.int .i64 d1, .int .i64 d2]) ∧ Below w.heap.size w w') := hd
  have HE : Hid (∀ w : World, AllAt w → Calls Tryd.prog 13 #[.int .i64 c, .agg #[.int .i64 AL, .int .i64 AH], .agg #[.int .i64 BL, .int .i64 BH]] w fun e w' => e = .returned (.agg #[.int .i64 d1, .int .i64 d2]) ∧ Below w.heap.size w w') := he
  clear hd he
  have hm := fun w => meet_is AL AH BL BH w
  have hu := fun w => rmeet_is AL AH BL BH w
  generalize meetV AL AH BL BH = mv at hm hu
  obtain ⟨⟨m1, m2⟩, mo⟩ := mv
  have HM : Hid (∀ w : World, Calls Tryd.prog 19 #[.agg #[.int .i64 AL, .int .i64 AH], .agg #[.int .i64 BL, .int .i64 BH]] w fun e w' => e = .returned (.tuple #[.agg #[.int .i64 m1, .int .i64 m2], .bool mo]) ∧ Below w.heap.size w w') := hm
  have HU : Hid (∀ w : World, Calls Tryd.prog 18 #[.agg #[.int .i64 AL, .int .i64 AH], .agg #[.int .i64 BL, .int .i64 BH]] w fun e w' => e = .returned (.tuple #[.agg #[.int .i64 m1, .int .i64 m2], .bool mo]) ∧ Below w.heap.size w w') := hu
  clear hm hu
  have hn := fun w => narrow_is c AL AH BL BH o5 (by omega) (by omega) o6 o7 (by omega) (by omega) o8 o9 o0 w
  have hr := fun w => rnarrow_is c AL AH BL BH o5 (by omega) (by omega) o6 o7 (by omega) (by omega) o8 o9 o0 w
  generalize narV c AL AH BL BH = nv at hn hr
  obtain ⟨⟨r1, r2⟩, ⟨r3, r4⟩, ok⟩ := nv
  have HN : Hid (∀ w : World, Calls Tryd.prog 24 #[.int .i64 c, .agg #[.int .i64 AL, .int .i64 AH], .agg #[.int .i64 BL, .int .i64 BH]] w fun e w' => e = .returned (.tuple #[.agg #[.int .i64 r1, .int .i64 r2], .agg #[.int .i64 r3, .int .i64 r4], .bool ok]) ∧ Below w.heap.size w w') := hn
  have HR : Hid (∀ w : World, Calls Tryd.prog 23 #[.int .i64 c, .agg #[.int .i64 AL, .int .i64 AH], .agg #[.int .i64 BL, .int .i64 BH]] w fun e w' => e = .returned (.tuple #[.agg #[.int .i64 r1, .int .i64 r2], .agg #[.int .i64 r3, .int .i64 r4], .bool ok]) ∧ Below w.heap.size w w') := hr
  clear hn hr
  have hh0 := fun w => has_is AL AH n w
  go_wp2_with fail
  go_cut [66] (fun s66 wx => s66 = .bool false ∧ Below w.heap.size w wx ∧ Four2 w.heap.size X Y AL AH BL BH wx)
  case first =>
    clear HM HU HN HR
    by_cases n1 : AL ≤ n
    · by_cases n2 : n ≤ AH
      · have HH : Hid (∀ w : World, Calls Tryd.prog 16 #[.agg #[.int .i64 AL, .int .i64 AH], .int .i64 n] w fun e w' => e = .returned (.bool true) ∧ Below w.heap.size w w') := fun w => by have e := hh0 w; rw [decide_eq_true n1, decide_eq_true n2] at e; exact e
        clear hh0
        refine wp_region_quiet (C := Cls w X Y AL AH BL BH) (by kernel_rfl) (by kernel_rfl) ⟨hbw.drew, hX.drew⟩ ?_
        dsimp only [List.toList_toArray]
        repeat (first
          | (refine quiet_skip (by rfl) ?_; simp only [Act.put, List.setIfInBounds_toArray, List.set_cons_zero, List.set_cons_succ])
          | (refine quiet_yield (by rfl) (v := ?_) ?_ ?_; rotate_left; (intro w2 hC; obtain ⟨hbw2, ⟨ga2, a02, a12⟩, ⟨gb2, b02, b12⟩, ⟨gx2, x02, x12⟩, ⟨gy2, y02, y12⟩⟩ := hC; go_simp; try with_reducible rfl); simp only [Act.put, List.setIfInBounds_toArray, List.set_cons_zero, List.set_cons_succ])
          | (refine quiet_enter (by rfl) ?_; apply Exists.intro; refine ⟨fun w2 hC => ?_, ?_⟩; (go_simp; first | (go_at_call 12; exact (HD.out w2).mono fun e w3 h3 => ⟨h3.1, hC.next h3.2⟩) | (go_at_call 13; exact (HE.out w2 (hA.later hC.1)).mono fun e w3 h3 => ⟨h3.1, hC.next h3.2⟩) | (go_at_call 14; exact (join_is _ _ _ _ w2).mono fun e w3 h3 => ⟨h3.1, hC.next h3.2⟩) | (go_at_call 15; exact (rjoin_is _ _ _ _ w2).mono fun e w3 h3 => ⟨h3.1, hC.next h3.2⟩) | (go_at_call 16; exact (HH.out w2).mono fun e w3 h3 => ⟨h3.1, hC.next h3.2⟩) | (go_at_call 17; exact (one_is _ w2).mono fun e w3 h3 => ⟨h3.1, hC.next h3.2⟩)); simp only [Act.put, List.setIfInBounds_toArray, List.set_cons_zero, List.set_cons_succ]))
        refine wpQuiet_nil ?_
        intro w2 hC
        obtain ⟨hbw, hX⟩ := hC
        go_wp2_with fail
        go_meet
        exact ⟨by simp [*], hbw, hX⟩
      · have HH : Hid (∀ w : World, Calls Tryd.prog 16 #[.agg #[.int .i64 AL, .int .i64 AH], .int .i64 n] w fun e w' => e = .returned (.bool false) ∧ Below w.heap.size w w') := fun w => by have e := hh0 w; rw [decide_eq_true n1, decide_eq_false n2] at e; exact e
        have n3 : decide (n ≤ AH) = false := decide_eq_false n2
        clear hh0 n2
        refine wp_region_quiet (C := Cls w X Y AL AH BL BH) (by kernel_rfl) (by kernel_rfl) ⟨hbw.drew, hX.drew⟩ ?_
        dsimp only [List.toList_toArray]
        repeat (first
          | (refine quiet_skip (by rfl) ?_; simp only [Act.put, List.setIfInBounds_toArray, List.set_cons_zero, List.set_cons_succ])
          | (refine quiet_yield (by rfl) (v := ?_) ?_ ?_; rotate_left; (intro w2 hC; obtain ⟨hbw2, ⟨ga2, a02, a12⟩, ⟨gb2, b02, b12⟩, ⟨gx2, x02, x12⟩, ⟨gy2, y02, y12⟩⟩ := hC; go_simp; try with_reducible rfl); simp only [Act.put, List.setIfInBounds_toArray, List.set_cons_zero, List.set_cons_succ])
          | (refine quiet_enter (by rfl) ?_; apply Exists.intro; refine ⟨fun w2 hC => ?_, ?_⟩; (go_simp; first | (go_at_call 12; exact (HD.out w2).mono fun e w3 h3 => ⟨h3.1, hC.next h3.2⟩) | (go_at_call 13; exact (HE.out w2 (hA.later hC.1)).mono fun e w3 h3 => ⟨h3.1, hC.next h3.2⟩) | (go_at_call 14; exact (join_is _ _ _ _ w2).mono fun e w3 h3 => ⟨h3.1, hC.next h3.2⟩) | (go_at_call 15; exact (rjoin_is _ _ _ _ w2).mono fun e w3 h3 => ⟨h3.1, hC.next h3.2⟩) | (go_at_call 16; exact (HH.out w2).mono fun e w3 h3 => ⟨h3.1, hC.next h3.2⟩) | (go_at_call 17; exact (one_is _ w2).mono fun e w3 h3 => ⟨h3.1, hC.next h3.2⟩)); simp only [Act.put, List.setIfInBounds_toArray, List.set_cons_zero, List.set_cons_succ]))
        refine wpQuiet_nil ?_
        intro w2 hC
        obtain ⟨hbw, hX⟩ := hC
        go_wp2_with fail
        go_meet
        exact ⟨by simp [*], hbw, hX⟩
    · have HH : Hid (∀ w : World, Calls Tryd.prog 16 #[.agg #[.int .i64 AL, .int .i64 AH], .int .i64 n] w fun e w' => e = .returned (.bool false) ∧ Below w.heap.size w w') := fun w => by have e := hh0 w; rw [decide_eq_false n1] at e; exact e
      have n3 : decide (AL ≤ n) = false := decide_eq_false n1
      clear hh0 n1
      refine wp_region_quiet (C := Cls w X Y AL AH BL BH) (by kernel_rfl) (by kernel_rfl) ⟨hbw.drew, hX.drew⟩ ?_
      dsimp only [List.toList_toArray]
      repeat (first
          | (refine quiet_skip (by rfl) ?_; simp only [Act.put, List.setIfInBounds_toArray, List.set_cons_zero, List.set_cons_succ])
          | (refine quiet_yield (by rfl) (v := ?_) ?_ ?_; rotate_left; (intro w2 hC; obtain ⟨hbw2, ⟨ga2, a02, a12⟩, ⟨gb2, b02, b12⟩, ⟨gx2, x02, x12⟩, ⟨gy2, y02, y12⟩⟩ := hC; go_simp; try with_reducible rfl); simp only [Act.put, List.setIfInBounds_toArray, List.set_cons_zero, List.set_cons_succ])
          | (refine quiet_enter (by rfl) ?_; apply Exists.intro; refine ⟨fun w2 hC => ?_, ?_⟩; (go_simp; first | (go_at_call 12; exact (HD.out w2).mono fun e w3 h3 => ⟨h3.1, hC.next h3.2⟩) | (go_at_call 13; exact (HE.out w2 (hA.later hC.1)).mono fun e w3 h3 => ⟨h3.1, hC.next h3.2⟩) | (go_at_call 14; exact (join_is _ _ _ _ w2).mono fun e w3 h3 => ⟨h3.1, hC.next h3.2⟩) | (go_at_call 15; exact (rjoin_is _ _ _ _ w2).mono fun e w3 h3 => ⟨h3.1, hC.next h3.2⟩) | (go_at_call 16; exact (HH.out w2).mono fun e w3 h3 => ⟨h3.1, hC.next h3.2⟩) | (go_at_call 17; exact (one_is _ w2).mono fun e w3 h3 => ⟨h3.1, hC.next h3.2⟩)); simp only [Act.put, List.setIfInBounds_toArray, List.set_cons_zero, List.set_cons_succ]))
      refine wpQuiet_nil ?_
      intro w2 hC
      obtain ⟨hbw, hX⟩ := hC
      go_wp2_with fail
      go_meet
      exact ⟨by simp [*], hbw, hX⟩
  case rest =>
  clear HD HE hbw hX a0 a1 b0 b1 x0 x1 y0 y1 ga gb gx gy
  obtain ⟨rfl, hbw, hX⟩ := hcut
  obtain ⟨⟨ga, a0, a1⟩, ⟨gb, b0, b1⟩, ⟨gx, x0, x1⟩, ⟨gy, y0, y1⟩⟩ := hX
  have hX : Four2 w.heap.size X Y AL AH BL BH _ := ⟨⟨ga, a0, a1⟩, ⟨gb, b0, b1⟩, ⟨gx, x0, x1⟩, ⟨gy, y0, y1⟩⟩
  have hh2 := fun w => has_is (-9223372036854775808) 9223372036854775807 n w
  have HT : Hid (∀ w : World, Calls Tryd.prog 16 #[.agg #[.int .i64 (-9223372036854775808), .int .i64 9223372036854775807], .int .i64 n] w fun e w' => e = .returned (.bool true) ∧ Below w.heap.size w w') := fun w => by have e := hh2 w; rw [decide_eq_true pn, decide_eq_true qn] at e; exact e
  clear hh2 hh0
  by_cases hc : 15 ≤ c ∧ c ≤ 24
  · have HQ : Hid (∀ w : World, Calls Tryd.prog 20 #[.int .i64 c] w fun e w' => e = .returned (.bool true) ∧ w' = w) := fun w => rasks_yes c hc.1 hc.2 w
    have HP : Hid (∀ w : World, Calls Tryd.prog 21 #[.int .i64 c] w fun e w' => e = .returned (.int .i64 (oppV c)) ∧ w' = w) := fun w => opp_is c hc w
    have HO : Hid (∀ w : World, Calls Tryd.prog 22 #[.int .i64 c] w fun e w' => e = .returned (.int .i64 (oppV c)) ∧ Below w.heap.size w w') := fun w => ropp_is c hc w
    clear hc
    generalize oppV c = oc at HP HO
    go_wp2_with (first | (go_at_call 18; go_must (refine (HU.out _).mono ?_; rintro e w1 ⟨rfl, hb1⟩; have hbw1 : Below w.heap.size w w1 := (by ((refine Below.trans ?_ (hb1.mono ?_)) <;> repeat' first | exact Below.refl _ _ | exact hbw | refine Below.alloc ?_ ?_ _ | refine Below.setCell ?_ ?_ _ | refine Below.drew ?_ | refine below_drewN ?_ _ | (simp; done) | (simp; omega) | (simp [drew_size]; done) | (simp [drew_size]; omega) | omega)); have hX1 : Four2 w.heap.size X Y AL AH BL BH w1 := Four2.later (by first | exact hX) hb1; have hY := hX1; obtain ⟨⟨ga1, a01, a11⟩, ⟨gb1, b01, b11⟩, ⟨gx1, x01, x11⟩, ⟨gy1, y01, y11⟩⟩ := hY; have z101 : w.heap.size < w1.heap.size + 1 := (by omega); have z102 : w.heap.size < w1.heap.size + 1 + 1 := (by omega); have z111 : w.heap.size + 1 < w1.heap.size + 1 := (by omega); have z112 : w.heap.size + 1 < w1.heap.size + 1 + 1 := (by omega); have z121 : X < w1.heap.size + 1 := (by omega); have z122 : X < w1.heap.size + 1 + 1 := (by omega); have z131 : Y < w1.heap.size + 1 := (by omega); have z132 : Y < w1.heap.size + 1 + 1 := (by omega))) | (go_at_call 19; go_must (refine (HM.out _).mono ?_; rintro e w2 ⟨rfl, hb2⟩; have hbw2 : Below w.heap.size w w2 := (by ((refine Below.trans ?_ (hb2.mono ?_)) <;> repeat' first | exact Below.refl _ _ | exact hbw1 | refine Below.alloc ?_ ?_ _ | refine Below.setCell ?_ ?_ _ | refine Below.drew ?_ | refine below_drewN ?_ _ | (simp; done) | (simp; omega) | (simp [drew_size]; done) | (simp [drew_size]; omega) | omega)); have hX2 : Four2 w.heap.size X Y AL AH BL BH w2 := Four2.later (by first | exact hX1.later ((Below.refl _ _).alloc (Nat.le_refl _) _)) hb2; have hY := hX2; obtain ⟨⟨ga2, a02, a12⟩, ⟨gb2, b02, b12⟩, ⟨gx2, x02, x12⟩, ⟨gy2, y02, y12⟩⟩ := hY; have z201 : w.heap.size < w2.heap.size + 1 := (by omega); have z202 : w.heap.size < w2.heap.size + 1 + 1 := (by omega); have z211 : w.heap.size + 1 < w2.heap.size + 1 := (by omega); have z212 : w.heap.size + 1 < w2.heap.size + 1 + 1 := (by omega); have z221 : X < w2.heap.size + 1 := (by omega); have z222 : X < w2.heap.size + 1 + 1 := (by omega); have z231 : Y < w2.heap.size + 1 := (by omega); have z232 : Y < w2.heap.size + 1 + 1 := (by omega); have u := later_box hb2 (w1.heap.size) (by first | (simp; done) | (simp; omega)); obtain ⟨u0, u1, u2, u3, u4⟩ := u; simp [go_sem] at u1 u2; have uz1 : w1.heap.size < w2.heap.size + 1 := (by omega); have uz2 : w1.heap.size < w2.heap.size + 1 + 1 := (by omega))) | (go_at_call 20; refine (HQ.out _).mono ?_; rintro e w' ⟨rfl, rfl⟩) | (go_at_call 21; refine (HP.out _).mono ?_; rintro e w' ⟨rfl, rfl⟩) | (go_at_call 22; go_must (refine (HO.out _).mono ?_; rintro e w3 ⟨rfl, hb3⟩; have hbw3 : Below w.heap.size w w3 := (by ((refine Below.trans ?_ (hb3.mono ?_)) <;> repeat' first | exact Below.refl _ _ | exact hbw2 | refine Below.alloc ?_ ?_ _ | refine Below.setCell ?_ ?_ _ | refine Below.drew ?_ | refine below_drewN ?_ _ | (simp; done) | (simp; omega) | (simp [drew_size]; done) | (simp [drew_size]; omega) | omega)); have hX3 : Four2 w.heap.size X Y AL AH BL BH w3 := Four2.later (by first | exact hX2.later ((Below.refl _ _).alloc (Nat.le_refl _) _)) hb3; have hY := hX3; obtain ⟨⟨ga3, a03, a13⟩, ⟨gb3, b03, b13⟩, ⟨gx3, x03, x13⟩, ⟨gy3, y03, y13⟩⟩ := hY; have z301 : w.heap.size < w3.heap.size + 1 := (by omega); have z302 : w.heap.size < w3.heap.size + 1 + 1 := (by omega); have z311 : w.heap.size + 1 < w3.heap.size + 1 := (by omega); have z312 : w.heap.size + 1 < w3.heap.size + 1 + 1 := (by omega); have z321 : X < w3.heap.size + 1 := (by omega); have z322 : X < w3.heap.size + 1 + 1 := (by omega); have z331 : Y < w3.heap.size + 1 := (by omega); have z332 : Y < w3.heap.size + 1 + 1 := (by omega))) | (go_at_call 23; go_must (refine (HR.out _).mono ?_; rintro e w4 ⟨rfl, hb4⟩; have hbw4 : Below w.heap.size w w4 := (by ((refine Below.trans ?_ (hb4.mono ?_)) <;> repeat' first | exact Below.refl _ _ | exact hbw3 | exact hbw2 | refine Below.alloc ?_ ?_ _ | refine Below.setCell ?_ ?_ _ | refine Below.drew ?_ | refine below_drewN ?_ _ | (simp; done) | (simp; omega) | (simp [drew_size]; done) | (simp [drew_size]; omega) | omega)); have hX4 : Four2 w.heap.size X Y AL AH BL BH w4 := Four2.later (by first | exact hX3 | exact hX2.later ((Below.refl _ _).alloc (Nat.le_refl _) _)) hb4; have hY := hX4; obtain ⟨⟨ga4, a04, a14⟩, ⟨gb4, b04, b14⟩, ⟨gx4, x04, x14⟩, ⟨gy4, y04, y14⟩⟩ := hY; have z401 : w.heap.size < w4.heap.size + 1 := (by omega); have z402 : w.heap.size < w4.heap.size + 1 + 1 := (by omega); have z411 : w.heap.size + 1 < w4.heap.size + 1 := (by omega); have z412 : w.heap.size + 1 < w4.heap.size + 1 + 1 := (by omega); have z421 : X < w4.heap.size + 1 := (by omega); have z422 : X < w4.heap.size + 1 + 1 := (by omega); have z431 : Y < w4.heap.size + 1 := (by omega); have z432 : Y < w4.heap.size + 1 + 1 := (by omega))) | (go_at_call 24; go_must (refine (HN.out _).mono ?_; rintro e w5 ⟨rfl, hb5⟩; have hbw5 : Below w.heap.size w w5 := (by ((refine Below.trans ?_ (hb5.mono ?_)) <;> repeat' first | exact Below.refl _ _ | exact hbw4 | refine Below.alloc ?_ ?_ _ | refine Below.setCell ?_ ?_ _ | refine Below.drew ?_ | refine below_drewN ?_ _ | (simp; done) | (simp; omega) | (simp [drew_size]; done) | (simp [drew_size]; omega) | omega)); have hX5 : Four2 w.heap.size X Y AL AH BL BH w5 := Four2.later (by first | exact hX4.later (((Below.refl _ _).alloc (Nat.le_refl _) _).alloc (by simp) _) | exact hX4.later ((Below.refl _ _).alloc (Nat.le_refl _) _)) hb5; have hY := hX5; obtain ⟨⟨ga5, a05, a15⟩, ⟨gb5, b05, b15⟩, ⟨gx5, x05, x15⟩, ⟨gy5, y05, y15⟩⟩ := hY; have z501 : w.heap.size < w5.heap.size + 1 := (by omega); have z502 : w.heap.size < w5.heap.size + 1 + 1 := (by omega); have z511 : w.heap.size + 1 < w5.heap.size + 1 := (by omega); have z512 : w.heap.size + 1 < w5.heap.size + 1 + 1 := (by omega); have z521 : X < w5.heap.size + 1 := (by omega); have z522 : X < w5.heap.size + 1 + 1 := (by omega); have z531 : Y < w5.heap.size + 1 := (by omega); have z532 : Y < w5.heap.size + 1 + 1 := (by omega); have p := later_box hb5 (w4.heap.size) (by first | (simp; done) | (simp; omega)); obtain ⟨p0, p1, p2, p3, p4⟩ := p; simp [go_sem] at p1 p2; have pz1 : w4.heap.size < w5.heap.size + 1 := (by omega); have pz2 : w4.heap.size < w5.heap.size + 1 + 1 := (by omega); have q := later_box hb5 (w4.heap.size + 1) (by first | (simp; done) | (simp; omega)); obtain ⟨q0, q1, q2, q3, q4⟩ := q; simp [go_sem] at q1 q2; have qz1 : w4.heap.size + 1 < w5.heap.size + 1 := (by omega); have qz2 : w4.heap.size + 1 < w5.heap.size + 1 + 1 := (by omega))) | (go_at_call 25; go_must (refine (all_is _).mono ?_; rintro e w6 ⟨rfl, hb6⟩; have hbw6 : Below w.heap.size w w6 := (by ((refine Below.trans ?_ (hb6.mono ?_)) <;> repeat' first | exact Below.refl _ _ | exact hbw5 | refine Below.alloc ?_ ?_ _ | refine Below.setCell ?_ ?_ _ | refine Below.drew ?_ | refine below_drewN ?_ _ | (simp; done) | (simp; omega) | (simp [drew_size]; done) | (simp [drew_size]; omega) | omega)); have hX6 : Four2 w.heap.size X Y AL AH BL BH w6 := Four2.later (by first | exact hX5.later (((Below.refl _ _).alloc (Nat.le_refl _) _).alloc (by simp) _) | exact hX5.later ((Below.refl _ _).alloc (Nat.le_refl _) _)) hb6; have hY := hX6; obtain ⟨⟨ga6, a06, a16⟩, ⟨gb6, b06, b16⟩, ⟨gx6, x06, x16⟩, ⟨gy6, y06, y16⟩⟩ := hY; have z601 : w.heap.size < w6.heap.size + 1 := (by omega); have z602 : w.heap.size < w6.heap.size + 1 + 1 := (by omega); have z611 : w.heap.size + 1 < w6.heap.size + 1 := (by omega); have z612 : w.heap.size + 1 < w6.heap.size + 1 + 1 := (by omega); have z621 : X < w6.heap.size + 1 := (by omega); have z622 : X < w6.heap.size + 1 + 1 := (by omega); have z631 : Y < w6.heap.size + 1 := (by omega); have z632 : Y < w6.heap.size + 1 + 1 := (by omega))) | (go_at_call 16; go_must (refine (HT.out _).mono ?_; rintro e w7 ⟨rfl, hb7⟩; have hbw7 : Below w.heap.size w w7 := (by ((refine Below.trans ?_ (hb7.mono ?_)) <;> repeat' first | exact Below.refl _ _ | exact hbw6 | refine Below.alloc ?_ ?_ _ | refine Below.setCell ?_ ?_ _ | refine Below.drew ?_ | refine below_drewN ?_ _ | (simp; done) | (simp; omega) | (simp [drew_size]; done) | (simp [drew_size]; omega) | omega)); have hX7 : Four2 w.heap.size X Y AL AH BL BH w7 := Four2.later (by first | exact hX6) hb7; have hY := hX7; obtain ⟨⟨ga7, a07, a17⟩, ⟨gb7, b07, b17⟩, ⟨gx7, x07, x17⟩, ⟨gy7, y07, y17⟩⟩ := hY; have z701 : w.heap.size < w7.heap.size + 1 := (by omega); have z702 : w.heap.size < w7.heap.size + 1 + 1 := (by omega); have z711 : w.heap.size + 1 < w7.heap.size + 1 := (by omega); have z712 : w.heap.size + 1 < w7.heap.size + 1 + 1 := (by omega); have z721 : X < w7.heap.size + 1 := (by omega); have z722 : X < w7.heap.size + 1 + 1 := (by omega); have z731 : Y < w7.heap.size + 1 := (by omega); have z732 : Y < w7.heap.size + 1 + 1 := (by omega))))
    go_ret
    exact ⟨rfl, by repeat' first | exact Below.refl _ _ | exact hbw7 | exact hbw6 | exact hbw5 | refine Below.alloc ?_ ?_ _ | refine Below.setCell ?_ ?_ _ | refine Below.drew ?_ | refine below_drewN ?_ _ | (simp; done) | (simp; omega) | (simp [drew_size]; done) | (simp [drew_size]; omega) | omega⟩
  · have HQ : Hid (∀ w : World, Calls Tryd.prog 20 #[.int .i64 c] w fun e w' => e = .returned (.bool false) ∧ w' = w) := fun w => rasks_no c hc w
    clear hc
    go_wp2_with (first | (go_at_call 18; go_must (refine (HU.out _).mono ?_; rintro e w1 ⟨rfl, hb1⟩; have hbw1 : Below w.heap.size w w1 := (by ((refine Below.trans ?_ (hb1.mono ?_)) <;> repeat' first | exact Below.refl _ _ | exact hbw | refine Below.alloc ?_ ?_ _ | refine Below.setCell ?_ ?_ _ | refine Below.drew ?_ | refine below_drewN ?_ _ | (simp; done) | (simp; omega) | (simp [drew_size]; done) | (simp [drew_size]; omega) | omega)); have hX1 : Four2 w.heap.size X Y AL AH BL BH w1 := Four2.later (by first | exact hX) hb1; have hY := hX1; obtain ⟨⟨ga1, a01, a11⟩, ⟨gb1, b01, b11⟩, ⟨gx1, x01, x11⟩, ⟨gy1, y01, y11⟩⟩ := hY; have z101 : w.heap.size < w1.heap.size + 1 := (by omega); have z102 : w.heap.size < w1.heap.size + 1 + 1 := (by omega); have z111 : w.heap.size + 1 < w1.heap.size + 1 := (by omega); have z112 : w.heap.size + 1 < w1.heap.size + 1 + 1 := (by omega); have z121 : X < w1.heap.size + 1 := (by omega); have z122 : X < w1.heap.size + 1 + 1 := (by omega); have z131 : Y < w1.heap.size + 1 := (by omega); have z132 : Y < w1.heap.size + 1 + 1 := (by omega))) | (go_at_call 19; go_must (refine (HM.out _).mono ?_; rintro e w2 ⟨rfl, hb2⟩; have hbw2 : Below w.heap.size w w2 := (by ((refine Below.trans ?_ (hb2.mono ?_)) <;> repeat' first | exact Below.refl _ _ | exact hbw1 | refine Below.alloc ?_ ?_ _ | refine Below.setCell ?_ ?_ _ | refine Below.drew ?_ | refine below_drewN ?_ _ | (simp; done) | (simp; omega) | (simp [drew_size]; done) | (simp [drew_size]; omega) | omega)); have hX2 : Four2 w.heap.size X Y AL AH BL BH w2 := Four2.later (by first | exact hX1.later ((Below.refl _ _).alloc (Nat.le_refl _) _)) hb2; have hY := hX2; obtain ⟨⟨ga2, a02, a12⟩, ⟨gb2, b02, b12⟩, ⟨gx2, x02, x12⟩, ⟨gy2, y02, y12⟩⟩ := hY; have z201 : w.heap.size < w2.heap.size + 1 := (by omega); have z202 : w.heap.size < w2.heap.size + 1 + 1 := (by omega); have z211 : w.heap.size + 1 < w2.heap.size + 1 := (by omega); have z212 : w.heap.size + 1 < w2.heap.size + 1 + 1 := (by omega); have z221 : X < w2.heap.size + 1 := (by omega); have z222 : X < w2.heap.size + 1 + 1 := (by omega); have z231 : Y < w2.heap.size + 1 := (by omega); have z232 : Y < w2.heap.size + 1 + 1 := (by omega); have u := later_box hb2 (w1.heap.size) (by first | (simp; done) | (simp; omega)); obtain ⟨u0, u1, u2, u3, u4⟩ := u; simp [go_sem] at u1 u2; have uz1 : w1.heap.size < w2.heap.size + 1 := (by omega); have uz2 : w1.heap.size < w2.heap.size + 1 + 1 := (by omega))) | (go_at_call 20; refine (HQ.out _).mono ?_; rintro e w' ⟨rfl, rfl⟩) | (go_at_call 21; refine (HP.out _).mono ?_; rintro e w' ⟨rfl, rfl⟩) | (go_at_call 22; go_must (refine (HO.out _).mono ?_; rintro e w3 ⟨rfl, hb3⟩; have hbw3 : Below w.heap.size w w3 := (by ((refine Below.trans ?_ (hb3.mono ?_)) <;> repeat' first | exact Below.refl _ _ | exact hbw2 | refine Below.alloc ?_ ?_ _ | refine Below.setCell ?_ ?_ _ | refine Below.drew ?_ | refine below_drewN ?_ _ | (simp; done) | (simp; omega) | (simp [drew_size]; done) | (simp [drew_size]; omega) | omega)); have hX3 : Four2 w.heap.size X Y AL AH BL BH w3 := Four2.later (by first | exact hX2.later ((Below.refl _ _).alloc (Nat.le_refl _) _)) hb3; have hY := hX3; obtain ⟨⟨ga3, a03, a13⟩, ⟨gb3, b03, b13⟩, ⟨gx3, x03, x13⟩, ⟨gy3, y03, y13⟩⟩ := hY; have z301 : w.heap.size < w3.heap.size + 1 := (by omega); have z302 : w.heap.size < w3.heap.size + 1 + 1 := (by omega); have z311 : w.heap.size + 1 < w3.heap.size + 1 := (by omega); have z312 : w.heap.size + 1 < w3.heap.size + 1 + 1 := (by omega); have z321 : X < w3.heap.size + 1 := (by omega); have z322 : X < w3.heap.size + 1 + 1 := (by omega); have z331 : Y < w3.heap.size + 1 := (by omega); have z332 : Y < w3.heap.size + 1 + 1 := (by omega))) | (go_at_call 23; go_must (refine (HR.out _).mono ?_; rintro e w4 ⟨rfl, hb4⟩; have hbw4 : Below w.heap.size w w4 := (by ((refine Below.trans ?_ (hb4.mono ?_)) <;> repeat' first | exact Below.refl _ _ | exact hbw3 | exact hbw2 | refine Below.alloc ?_ ?_ _ | refine Below.setCell ?_ ?_ _ | refine Below.drew ?_ | refine below_drewN ?_ _ | (simp; done) | (simp; omega) | (simp [drew_size]; done) | (simp [drew_size]; omega) | omega)); have hX4 : Four2 w.heap.size X Y AL AH BL BH w4 := Four2.later (by first | exact hX3 | exact hX2.later ((Below.refl _ _).alloc (Nat.le_refl _) _)) hb4; have hY := hX4; obtain ⟨⟨ga4, a04, a14⟩, ⟨gb4, b04, b14⟩, ⟨gx4, x04, x14⟩, ⟨gy4, y04, y14⟩⟩ := hY; have z401 : w.heap.size < w4.heap.size + 1 := (by omega); have z402 : w.heap.size < w4.heap.size + 1 + 1 := (by omega); have z411 : w.heap.size + 1 < w4.heap.size + 1 := (by omega); have z412 : w.heap.size + 1 < w4.heap.size + 1 + 1 := (by omega); have z421 : X < w4.heap.size + 1 := (by omega); have z422 : X < w4.heap.size + 1 + 1 := (by omega); have z431 : Y < w4.heap.size + 1 := (by omega); have z432 : Y < w4.heap.size + 1 + 1 := (by omega))) | (go_at_call 24; go_must (refine (HN.out _).mono ?_; rintro e w5 ⟨rfl, hb5⟩; have hbw5 : Below w.heap.size w w5 := (by ((refine Below.trans ?_ (hb5.mono ?_)) <;> repeat' first | exact Below.refl _ _ | exact hbw4 | refine Below.alloc ?_ ?_ _ | refine Below.setCell ?_ ?_ _ | refine Below.drew ?_ | refine below_drewN ?_ _ | (simp; done) | (simp; omega) | (simp [drew_size]; done) | (simp [drew_size]; omega) | omega)); have hX5 : Four2 w.heap.size X Y AL AH BL BH w5 := Four2.later (by first | exact hX4.later (((Below.refl _ _).alloc (Nat.le_refl _) _).alloc (by simp) _) | exact hX4.later ((Below.refl _ _).alloc (Nat.le_refl _) _)) hb5; have hY := hX5; obtain ⟨⟨ga5, a05, a15⟩, ⟨gb5, b05, b15⟩, ⟨gx5, x05, x15⟩, ⟨gy5, y05, y15⟩⟩ := hY; have z501 : w.heap.size < w5.heap.size + 1 := (by omega); have z502 : w.heap.size < w5.heap.size + 1 + 1 := (by omega); have z511 : w.heap.size + 1 < w5.heap.size + 1 := (by omega); have z512 : w.heap.size + 1 < w5.heap.size + 1 + 1 := (by omega); have z521 : X < w5.heap.size + 1 := (by omega); have z522 : X < w5.heap.size + 1 + 1 := (by omega); have z531 : Y < w5.heap.size + 1 := (by omega); have z532 : Y < w5.heap.size + 1 + 1 := (by omega); have p := later_box hb5 (w4.heap.size) (by first | (simp; done) | (simp; omega)); obtain ⟨p0, p1, p2, p3, p4⟩ := p; simp [go_sem] at p1 p2; have pz1 : w4.heap.size < w5.heap.size + 1 := (by omega); have pz2 : w4.heap.size < w5.heap.size + 1 + 1 := (by omega); have q := later_box hb5 (w4.heap.size + 1) (by first | (simp; done) | (simp; omega)); obtain ⟨q0, q1, q2, q3, q4⟩ := q; simp [go_sem] at q1 q2; have qz1 : w4.heap.size + 1 < w5.heap.size + 1 := (by omega); have qz2 : w4.heap.size + 1 < w5.heap.size + 1 + 1 := (by omega))) | (go_at_call 25; go_must (refine (all_is _).mono ?_; rintro e w6 ⟨rfl, hb6⟩; have hbw6 : Below w.heap.size w w6 := (by ((refine Below.trans ?_ (hb6.mono ?_)) <;> repeat' first | exact Below.refl _ _ | exact hbw5 | refine Below.alloc ?_ ?_ _ | refine Below.setCell ?_ ?_ _ | refine Below.drew ?_ | refine below_drewN ?_ _ | (simp; done) | (simp; omega) | (simp [drew_size]; done) | (simp [drew_size]; omega) | omega)); have hX6 : Four2 w.heap.size X Y AL AH BL BH w6 := Four2.later (by first | exact hX5.later (((Below.refl _ _).alloc (Nat.le_refl _) _).alloc (by simp) _) | exact hX5.later ((Below.refl _ _).alloc (Nat.le_refl _) _)) hb6; have hY := hX6; obtain ⟨⟨ga6, a06, a16⟩, ⟨gb6, b06, b16⟩, ⟨gx6, x06, x16⟩, ⟨gy6, y06, y16⟩⟩ := hY; have z601 : w.heap.size < w6.heap.size + 1 := (by omega); have z602 : w.heap.size < w6.heap.size + 1 + 1 := (by omega); have z611 : w.heap.size + 1 < w6.heap.size + 1 := (by omega); have z612 : w.heap.size + 1 < w6.heap.size + 1 + 1 := (by omega); have z621 : X < w6.heap.size + 1 := (by omega); have z622 : X < w6.heap.size + 1 + 1 := (by omega); have z631 : Y < w6.heap.size + 1 := (by omega); have z632 : Y < w6.heap.size + 1 + 1 := (by omega))) | (go_at_call 16; go_must (refine (HT.out _).mono ?_; rintro e w7 ⟨rfl, hb7⟩; have hbw7 : Below w.heap.size w w7 := (by ((refine Below.trans ?_ (hb7.mono ?_)) <;> repeat' first | exact Below.refl _ _ | exact hbw6 | refine Below.alloc ?_ ?_ _ | refine Below.setCell ?_ ?_ _ | refine Below.drew ?_ | refine below_drewN ?_ _ | (simp; done) | (simp; omega) | (simp [drew_size]; done) | (simp [drew_size]; omega) | omega)); have hX7 : Four2 w.heap.size X Y AL AH BL BH w7 := Four2.later (by first | exact hX6) hb7; have hY := hX7; obtain ⟨⟨ga7, a07, a17⟩, ⟨gb7, b07, b17⟩, ⟨gx7, x07, x17⟩, ⟨gy7, y07, y17⟩⟩ := hY; have z701 : w.heap.size < w7.heap.size + 1 := (by omega); have z702 : w.heap.size < w7.heap.size + 1 + 1 := (by omega); have z711 : w.heap.size + 1 < w7.heap.size + 1 := (by omega); have z712 : w.heap.size + 1 < w7.heap.size + 1 + 1 := (by omega); have z721 : X < w7.heap.size + 1 := (by omega); have z722 : X < w7.heap.size + 1 + 1 := (by omega); have z731 : Y < w7.heap.size + 1 := (by omega); have z732 : Y < w7.heap.size + 1 + 1 := (by omega))))
    go_ret
    exact ⟨rfl, by repeat' first | exact Below.refl _ _ | exact hbw7 | exact hbw6 | exact hbw5 | refine Below.alloc ?_ ?_ _ | refine Below.setCell ?_ ?_ _ | refine Below.drew ?_ | refine below_drewN ?_ _ | (simp; done) | (simp; omega) | (simp [drew_size]; done) | (simp [drew_size]; omega) | omega⟩
end Go.Proofs.YtllphbfhfmieaaaDoor
