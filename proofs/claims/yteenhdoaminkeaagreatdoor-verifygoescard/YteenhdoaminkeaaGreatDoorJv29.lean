/-
 What the document's own Opposite and cut return: as functions on integers; the world below is as it was. Conditions: the ends are numbers of 64 bits, the low end not above the high one.
-/
import Derived.Test.YteenhdoaminkeaaGreatDoorJv8
import Derived.Test.YteenhdoaminkeaaGreatDoorJv21
import Derived.Deep.RegionHeld3
import Derived.BigQuiet
import Derived.Deep.DeepMust
set_option maxHeartbeats 40000000
open Go.Value renaming int → vI
open Go.IntKind renaming i64 → vK
open Go.RowKit.Below renaming alloc → bA, setCell → bS, drew → bD, refl → bF
set_option maxRecDepth 1000000
set_option linter.defProp false
set_option linter.unusedVariables false
set_option linter.unusedSimpArgs false
namespace Go.Proofs.YteenhdoaminkeaaGreatDoor
open Go.ChangeShapes Go.WideShapes Go.ChangeAt Go.RowKit
set_option linter.unusedVariables false
attribute [local simp] z00 z0y z0o
theorem z35  : (∀ (al bl bh : Int) (w : World), Calls Tryz.prog 50 #[.agg #[vI vK al, vI vK al], .agg #[vI vK bl, vI vK bh]] w fun e w' => e = .returned (.agg #[vI vK al, vI vK al]) ∧ Below w.heap.size w w') ∧ (∀ (al ah bl bh : Int) (hb : ¬ bl = bh) (w : World), Calls Tryz.prog 50 #[.agg #[vI vK al, vI vK ah], .agg #[vI vK bl, vI vK bh]] w fun e w' => e = .returned (.agg #[vI vK al, vI vK ah]) ∧ Below w.heap.size w w') ∧ (∀ (al ah : Int) (hne : ¬ al = ah) (hlt : al < ah) (p1 : -9223372036854775808 ≤ al) (p2 : ah ≤ 9223372036854775807) (w : World), Calls Tryz.prog 50 #[.agg #[vI vK al, vI vK ah], .agg #[vI vK al, vI vK al]] w fun e w' => e = .returned (.agg #[vI vK (al + 1), vI vK ah]) ∧ Below w.heap.size w w') ∧ (∀ (al ah : Int) (hne : ¬ al = ah) (hlt : al < ah) (p1 : -9223372036854775808 ≤ al) (p2 : ah ≤ 9223372036854775807) (w : World), Calls Tryz.prog 50 #[.agg #[vI vK al, vI vK ah], .agg #[vI vK ah, vI vK ah]] w fun e w' => e = .returned (.agg #[vI vK al, vI vK (ah - 1)]) ∧ Below w.heap.size w w') ∧ (∀ (al ah bl : Int) (hne : ¬ al = ah) (h1 : ¬ al = bl) (h2 : ¬ ah = bl) (w : World), Calls Tryz.prog 50 #[.agg #[vI vK al, vI vK ah], .agg #[vI vK bl, vI vK bl]] w fun e w' => e = .returned (.agg #[vI vK al, vI vK ah]) ∧ Below w.heap.size w w') := by
 refine ⟨?_, ?_, ?_, ?_, ?_⟩
 intro al bl bh w
 rotate_left
 intro al ah bl bh hb w
 rotate_left
 intro al ah hne hlt p1 p2 w
 rotate_left
 intro al ah hne hlt p1 p2 w
 rotate_left
 intro al ah bl hne h1 h2 w
 rotate_left
 all_goals
  go_enter Tryz.func50, Tryz.ntmps50
  go_wp2_with fail
  all_goals exact bodyPost_ret (by simp [results, Tryz.results50, go_sem]) rfl ⟨rfl, by repeat' first | exact bF _ _ | refine bA ?_ ?_ _ | refine bS ?_ ?_ _ | refine bD ?_ | refine below_drewN ?_ _ | (simp; done) | (simp; omega) | (simp [z00]; done) | (simp [z00]; omega) | omega⟩
def zNt := z35.1
def zNu := z35.2.1
def zNv := z35.2.2.1
def zJx := z35.2.2.2.1
def zJw := z35.2.2.2.2
theorem zE7 (al ah bl bh : Int) (pal : -9223372036854775808 ≤ al) (qah : ah ≤ 9223372036854775807) (oa : al ≤ ah) (w : World) : Calls Tryz.prog 50 #[.agg #[vI vK al, vI vK ah], .agg #[vI vK bl, vI vK bh]] w fun e w' => e = .returned (.agg #[vI vK ((cutV al ah bl bh).1), vI vK ((cutV al ah bl bh).2)]) ∧ Below w.heap.size w w' := by
 unfold cutV
 by_cases h0 : al = ah
 ·rw [if_pos h0]
  subst h0
  exact zNt al bl bh w
 ·rw [if_neg h0]
  by_cases hb : bl = bh
  ·subst hb
   by_cases h1 : al = bl
   ·rw [if_pos ⟨h1.symm, h1.symm⟩]
    subst h1
    exact zNv al ah h0 (by omega) pal qah w
   ·rw [if_neg (fun x => h1 x.1.symm)]
    by_cases h2 : ah = bl
    ·rw [if_pos ⟨h2.symm, h2.symm⟩]
     subst h2
     exact zJx al ah h0 (by omega) pal qah w
    ·rw [if_neg (fun x => h2 x.1.symm)]
     exact zJw al ah bl h0 h1 h2 w
  ·rw [if_neg (fun x => hb (x.1.trans x.2.symm)), if_neg (fun x => hb (x.1.trans x.2.symm))]
   exact zNu al ah bl bh hb w
theorem z1o (w : World) : (Calls Tryz.prog 30 #[vI vK 15] w fun e w' => e = .returned (vI vK 16) ∧ Below w.heap.size w w') ∧ (Calls Tryz.prog 30 #[vI vK 16] w fun e w' => e = .returned (vI vK 15) ∧ Below w.heap.size w w') ∧ (Calls Tryz.prog 30 #[vI vK 17] w fun e w' => e = .returned (vI vK 20) ∧ Below w.heap.size w w') ∧ (Calls Tryz.prog 30 #[vI vK 18] w fun e w' => e = .returned (vI vK 19) ∧ Below w.heap.size w w') ∧ (Calls Tryz.prog 30 #[vI vK 19] w fun e w' => e = .returned (vI vK 18) ∧ Below w.heap.size w w') ∧ (Calls Tryz.prog 30 #[vI vK 20] w fun e w' => e = .returned (vI vK 17) ∧ Below w.heap.size w w') ∧ (Calls Tryz.prog 30 #[vI vK 21] w fun e w' => e = .returned (vI vK 24) ∧ Below w.heap.size w w') ∧ (Calls Tryz.prog 30 #[vI vK 22] w fun e w' => e = .returned (vI vK 23) ∧ Below w.heap.size w w') ∧ (Calls Tryz.prog 30 #[vI vK 23] w fun e w' => e = .returned (vI vK 22) ∧ Below w.heap.size w w') ∧ (Calls Tryz.prog 30 #[vI vK 24] w fun e w' => e = .returned (vI vK 21) ∧ Below w.heap.size w w') := by
 refine ⟨?_, ?_, ?_, ?_, ?_, ?_, ?_, ?_, ?_, ?_⟩
 all_goals
  go_enter Tryz.func30, Tryz.ntmps30
  go_wp2
  refine wp_loop_rounds 6 ?_
  repeat any_goals (rw [rounds_succ]; go_wp2)
  all_goals go_ret
  all_goals exact ⟨rfl, by repeat' first | exact bF _ _ | refine bA ?_ ?_ _ | refine bS ?_ ?_ _ | refine bD ?_ | refine below_drewN ?_ _ | (simp; done) | (simp; omega) | (simp [z00]; done) | (simp [z00]; omega) | omega⟩
def zRq := fun w => (@z1o w).1
def zRp := fun w => (@z1o w).2.1
def zRo := fun w => (@z1o w).2.2.1
def zRn := fun w => (@z1o w).2.2.2.1
def zRm := fun w => (@z1o w).2.2.2.2.1
def zRl := fun w => (@z1o w).2.2.2.2.2.1
def zRk := fun w => (@z1o w).2.2.2.2.2.2.1
def zRj := fun w => (@z1o w).2.2.2.2.2.2.2.1
def zRi := fun w => (@z1o w).2.2.2.2.2.2.2.2.1
def zRh := fun w => (@z1o w).2.2.2.2.2.2.2.2.2
theorem z3r (al ah bl bh : Int) (pal : -9223372036854775808 ≤ al) (qal : al ≤ 9223372036854775807) (pah : -9223372036854775808 ≤ ah) (qah : ah ≤ 9223372036854775807) (pbl : -9223372036854775808 ≤ bl) (qbl : bl ≤ 9223372036854775807) (pbh : -9223372036854775808 ≤ bh) (qbh : bh ≤ 9223372036854775807) (oa : al ≤ ah) (ob : bl ≤ bh) : (∀ (h : bl + 1 ≤ ah) (w : World), Calls Tryz.prog 31 #[vI vK 21, .agg #[vI vK al, vI vK ah], .agg #[vI vK bl, vI vK bh]] w fun e w' => e = .returned (.tuple #[.agg #[vI vK (max al (bl + 1)), vI vK ah], .agg #[vI vK bl, vI vK (min bh (ah - 1))], .bool true]) ∧ Below w.heap.size w w') ∧ (∀ (h : ah ≤ bl) (k1 : bl < 9223372036854775807) (k2 : -9223372036854775808 < ah) (w : World), Calls Tryz.prog 31 #[vI vK 21, .agg #[vI vK al, vI vK ah], .agg #[vI vK bl, vI vK bh]] w fun e w' => e = .returned (.tuple #[.agg #[vI vK 0, vI vK 0], .agg #[vI vK 0, vI vK 0], .bool false]) ∧ Below w.heap.size w w') ∧ (∀ (h : bl ≤ ah) (w : World), Calls Tryz.prog 31 #[vI vK 22, .agg #[vI vK al, vI vK ah], .agg #[vI vK bl, vI vK bh]] w fun e w' => e = .returned (.tuple #[.agg #[vI vK (max al bl), vI vK ah], .agg #[vI vK bl, vI vK (min bh ah)], .bool true]) ∧ Below w.heap.size w w') ∧ (∀ (h : ah < bl) (w : World), Calls Tryz.prog 31 #[vI vK 22, .agg #[vI vK al, vI vK ah], .agg #[vI vK bl, vI vK bh]] w fun e w' => e = .returned (.tuple #[.agg #[vI vK 0, vI vK 0], .agg #[vI vK 0, vI vK 0], .bool false]) ∧ Below w.heap.size w w') := by
 refine ⟨?_, ?_, ?_, ?_⟩
 intro h w
 have h1 : ∀ w : World, Calls Tryz.prog 49 #[.agg #[vI vK al, vI vK ah], .agg #[vI vK (bl + 1), vI vK 9223372036854775807]] w fun e w' => e = .returned (.tuple #[.agg #[vI vK (max al (bl + 1)), vI vK ah], .bool true]) ∧ Below w.heap.size w w' := fun w => by have e := z44 al ah (bl + 1) 9223372036854775807 (by omega) w; rw [show min ah 9223372036854775807 = ah by omega] at e; exact e
 have h2 : ∀ w : World, Calls Tryz.prog 49 #[.agg #[vI vK bl, vI vK bh], .agg #[vI vK (-9223372036854775808), vI vK (ah - 1)]] w fun e w' => e = .returned (.tuple #[.agg #[vI vK bl, vI vK (min bh (ah - 1))], .bool true]) ∧ Below w.heap.size w w' := fun w => by have e := z44 bl bh (-9223372036854775808) (ah - 1) (by omega) w; rw [show max bl (-9223372036854775808) = bl by omega] at e; exact e
 have H1 : Hid (∀ w : World, Calls Tryz.prog 49 #[.agg #[vI vK al, vI vK ah], .agg #[vI vK (bl + 1), vI vK 9223372036854775807]] w fun e w' => e = .returned (.tuple #[.agg #[vI vK (max al (bl + 1)), vI vK ah], .bool true]) ∧ Below w.heap.size w w') := h1
 have H2 : Hid (∀ w : World, Calls Tryz.prog 49 #[.agg #[vI vK bl, vI vK bh], .agg #[vI vK (-9223372036854775808), vI vK (ah - 1)]] w fun e w' => e = .returned (.tuple #[.agg #[vI vK bl, vI vK (min bh (ah - 1))], .bool true]) ∧ Below w.heap.size w w') := h2
 rotate_left
 intro h k1 k2 w
 have h1 : ∀ w : World, Calls Tryz.prog 49 #[.agg #[vI vK al, vI vK ah], .agg #[vI vK (bl + 1), vI vK 9223372036854775807]] w fun e w' => e = .returned (.tuple #[.agg #[vI vK 0, vI vK 0], .bool false]) ∧ Below w.heap.size w w' := fun w => z4x al ah (bl + 1) 9223372036854775807 (by omega) w
 have h2 : ∀ w : World, Calls Tryz.prog 49 #[.agg #[vI vK bl, vI vK bh], .agg #[vI vK (-9223372036854775808), vI vK (ah - 1)]] w fun e w' => e = .returned (.tuple #[.agg #[vI vK 0, vI vK 0], .bool false]) ∧ Below w.heap.size w w' := fun w => z4x bl bh (-9223372036854775808) (ah - 1) (by omega) w
 have H1 : Hid (∀ w : World, Calls Tryz.prog 49 #[.agg #[vI vK al, vI vK ah], .agg #[vI vK (bl + 1), vI vK 9223372036854775807]] w fun e w' => e = .returned (.tuple #[.agg #[vI vK 0, vI vK 0], .bool false]) ∧ Below w.heap.size w w') := h1
 have H2 : Hid (∀ w : World, Calls Tryz.prog 49 #[.agg #[vI vK bl, vI vK bh], .agg #[vI vK (-9223372036854775808), vI vK (ah - 1)]] w fun e w' => e = .returned (.tuple #[.agg #[vI vK 0, vI vK 0], .bool false]) ∧ Below w.heap.size w w') := h2
 rotate_left
 intro h w
 have h1 : ∀ w : World, Calls Tryz.prog 49 #[.agg #[vI vK al, vI vK ah], .agg #[vI vK bl, vI vK 9223372036854775807]] w fun e w' => e = .returned (.tuple #[.agg #[vI vK (max al bl), vI vK ah], .bool true]) ∧ Below w.heap.size w w' := fun w => by have e := z44 al ah bl 9223372036854775807 (by omega) w; rw [show min ah 9223372036854775807 = ah by omega] at e; exact e
 have h2 : ∀ w : World, Calls Tryz.prog 49 #[.agg #[vI vK bl, vI vK bh], .agg #[vI vK (-9223372036854775808), vI vK ah]] w fun e w' => e = .returned (.tuple #[.agg #[vI vK bl, vI vK (min bh ah)], .bool true]) ∧ Below w.heap.size w w' := fun w => by have e := z44 bl bh (-9223372036854775808) ah (by omega) w; rw [show max bl (-9223372036854775808) = bl by omega] at e; exact e
 have H1 : Hid (∀ w : World, Calls Tryz.prog 49 #[.agg #[vI vK al, vI vK ah], .agg #[vI vK bl, vI vK 9223372036854775807]] w fun e w' => e = .returned (.tuple #[.agg #[vI vK (max al bl), vI vK ah], .bool true]) ∧ Below w.heap.size w w') := h1
 have H2 : Hid (∀ w : World, Calls Tryz.prog 49 #[.agg #[vI vK bl, vI vK bh], .agg #[vI vK (-9223372036854775808), vI vK ah]] w fun e w' => e = .returned (.tuple #[.agg #[vI vK bl, vI vK (min bh ah)], .bool true]) ∧ Below w.heap.size w w') := h2
 rotate_left
 intro h w
 have h1 : ∀ w : World, Calls Tryz.prog 49 #[.agg #[vI vK al, vI vK ah], .agg #[vI vK bl, vI vK 9223372036854775807]] w fun e w' => e = .returned (.tuple #[.agg #[vI vK 0, vI vK 0], .bool false]) ∧ Below w.heap.size w w' := fun w => z4x al ah bl 9223372036854775807 (by omega) w
 have h2 : ∀ w : World, Calls Tryz.prog 49 #[.agg #[vI vK bl, vI vK bh], .agg #[vI vK (-9223372036854775808), vI vK ah]] w fun e w' => e = .returned (.tuple #[.agg #[vI vK 0, vI vK 0], .bool false]) ∧ Below w.heap.size w w' := fun w => z4x bl bh (-9223372036854775808) ah (by omega) w
 have H1 : Hid (∀ w : World, Calls Tryz.prog 49 #[.agg #[vI vK al, vI vK ah], .agg #[vI vK bl, vI vK 9223372036854775807]] w fun e w' => e = .returned (.tuple #[.agg #[vI vK 0, vI vK 0], .bool false]) ∧ Below w.heap.size w w') := h1
 have H2 : Hid (∀ w : World, Calls Tryz.prog 49 #[.agg #[vI vK bl, vI vK bh], .agg #[vI vK (-9223372036854775808), vI vK ah]] w fun e w' => e = .returned (.tuple #[.agg #[vI vK 0, vI vK 0], .bool false]) ∧ Below w.heap.size w w') := h2
 rotate_left
 all_goals
  clear h1 h2
 have z1 : (bl == 9223372036854775807) = false := by simp; omega
 have z2 : (ah == -9223372036854775808) = false := by simp; omega
 rotate_left
 have z1 : (bl == 9223372036854775807) = false := by simp; omega
 have z2 : (ah == -9223372036854775808) = false := by simp; omega
 rotate_left
 rotate_left
 rotate_left
 all_goals
  go_enter Tryz.func31, Tryz.ntmps31
  go_wp2_with fail
  go_quiet (fail)
  go_wp2_with (first | (go_at_call_of 49 (Value.agg #[Value.int IntKind.i64 al, Value.int IntKind.i64 ah]); go_must (refine (H1.out _).mono ?_; rintro e w1 ⟨rfl, hb1⟩; have hX1 : Quad w.heap.size al ah bl bh w1 := Quad.later (by first | exact hX1 | (refine ⟨?_, ?_, ?_, ?_, ?_, ?_, ?_, ?_, ?_, ?_, ?_, ?_, ?_, ?_, ?_, ?_, ?_⟩ <;> simp [go_sem])) hb1; have hbw1 : Below w.heap.size w w1 := (by ((refine Below.trans ?_ (hb1.mono ?_)) <;> repeat' first | exact bF _ _ | exact hbw1 | refine bA ?_ ?_ _ | refine bS ?_ ?_ _ | refine bD ?_ | refine below_drewN ?_ _ | (simp; done) | (simp; omega) | (simp [z00]; done) | (simp [z00]; omega) | omega)); have hY := hX1; obtain ⟨t0, a0, a1, af0, af1, b0, b1, bf0, bf1, r0, r1, rf0, rf1, s0, s1, sf0, sf1⟩ := hY; have x4 := z1n hb1 (w.heap.size + 1 + 1 + 1 + 1) (by simp); obtain ⟨x40, x41, x42, x43, x44⟩ := x4; simp [go_sem] at x41 x42; have sz100 : w.heap.size < w1.heap.size := (by omega); have sz101 : w.heap.size < w1.heap.size + 1 := (by omega); have sz102 : w.heap.size < w1.heap.size + 1 + 1 := (by omega); have sz110 : w.heap.size + 1 < w1.heap.size := (by omega); have sz111 : w.heap.size + 1 < w1.heap.size + 1 := (by omega); have sz112 : w.heap.size + 1 < w1.heap.size + 1 + 1 := (by omega); have sz120 : w.heap.size + 1 + 1 < w1.heap.size := (by omega); have sz121 : w.heap.size + 1 + 1 < w1.heap.size + 1 := (by omega); have sz122 : w.heap.size + 1 + 1 < w1.heap.size + 1 + 1 := (by omega); have sz130 : w.heap.size + 1 + 1 + 1 < w1.heap.size := (by omega); have sz131 : w.heap.size + 1 + 1 + 1 < w1.heap.size + 1 := (by omega); have sz132 : w.heap.size + 1 + 1 + 1 < w1.heap.size + 1 + 1 := (by omega); have sz140 : w.heap.size + 1 + 1 + 1 + 1 < w1.heap.size := (by omega); have sz141 : w.heap.size + 1 + 1 + 1 + 1 < w1.heap.size + 1 := (by omega); have sz142 : w.heap.size + 1 + 1 + 1 + 1 < w1.heap.size + 1 + 1 := (by omega))) | (go_at_call_of 49 (Value.agg #[Value.int IntKind.i64 bl, Value.int IntKind.i64 bh]); go_must (refine (H2.out _).mono ?_; rintro e w2 ⟨rfl, hb2⟩; have hX2 : Quad w.heap.size al ah bl bh w2 := Quad.later (by first | exact hX1.later ((bF _ _).alloc (Nat.le_refl _) _) | (refine ⟨?_, ?_, ?_, ?_, ?_, ?_, ?_, ?_, ?_, ?_, ?_, ?_, ?_, ?_, ?_, ?_, ?_⟩ <;> simp [go_sem])) hb2; have hbw2 : Below w.heap.size w w2 := (by ((refine Below.trans ?_ (hb2.mono ?_)) <;> repeat' first | exact bF _ _ | exact hbw1 | refine bA ?_ ?_ _ | refine bS ?_ ?_ _ | refine bD ?_ | refine below_drewN ?_ _ | (simp; done) | (simp; omega) | (simp [z00]; done) | (simp [z00]; omega) | omega)); have hY := hX2; obtain ⟨t0, a0, a1, af0, af1, b0, b1, bf0, bf1, r0, r1, rf0, rf1, s0, s1, sf0, sf1⟩ := hY; have v := z1n hb2 w1.heap.size (by simp); obtain ⟨v0, v1, v2, v3, v4⟩ := v; simp [go_sem] at v1 v2; have y4 := z1n hb2 (w.heap.size + 1 + 1 + 1 + 1) (by simp; omega); obtain ⟨y40, y41, y42, y43, y44⟩ := y4; simp [go_sem, x40, x41, x42] at y41 y42; have sz200 : w.heap.size < w2.heap.size := (by omega); have sz201 : w.heap.size < w2.heap.size + 1 := (by omega); have sz202 : w.heap.size < w2.heap.size + 1 + 1 := (by omega); have sz210 : w.heap.size + 1 < w2.heap.size := (by omega); have sz211 : w.heap.size + 1 < w2.heap.size + 1 := (by omega); have sz212 : w.heap.size + 1 < w2.heap.size + 1 + 1 := (by omega); have sz220 : w.heap.size + 1 + 1 < w2.heap.size := (by omega); have sz221 : w.heap.size + 1 + 1 < w2.heap.size + 1 := (by omega); have sz222 : w.heap.size + 1 + 1 < w2.heap.size + 1 + 1 := (by omega); have sz230 : w.heap.size + 1 + 1 + 1 < w2.heap.size := (by omega); have sz231 : w.heap.size + 1 + 1 + 1 < w2.heap.size + 1 := (by omega); have sz232 : w.heap.size + 1 + 1 + 1 < w2.heap.size + 1 + 1 := (by omega); have sz240 : w.heap.size + 1 + 1 + 1 + 1 < w2.heap.size := (by omega); have sz241 : w.heap.size + 1 + 1 + 1 + 1 < w2.heap.size + 1 := (by omega); have sz242 : w.heap.size + 1 + 1 + 1 + 1 < w2.heap.size + 1 + 1 := (by omega); have sx1 : w1.heap.size < w2.heap.size + 1 := (by omega); have sx2 : w1.heap.size < w2.heap.size + 1 + 1 := (by omega))))
  all_goals go_region
  all_goals go_wp2
  all_goals exact bodyPost_ret (by simp [results, Tryz.results31, go_sem, r0, r1, s0, s1, sz220, sz230]) rfl ⟨rfl, by repeat' first | exact bF _ _ | exact hbw2 | exact hbw1 | refine bA ?_ ?_ _ | refine bS ?_ ?_ _ | refine bD ?_ | refine below_drewN ?_ _ | (simp; done) | (simp; omega) | (simp [z00]; done) | (simp [z00]; omega) | omega⟩
def rn_21y := fun al ah bl bh pal qal pah qah pbl qbl pbh qbh oa ob => (@z3r al ah bl bh pal qal pah qah pbl qbl pbh qbh oa ob).1
def rn_21n := fun al ah bl bh pal qal pah qah pbl qbl pbh qbh oa ob => (@z3r al ah bl bh pal qal pah qah pbl qbl pbh qbh oa ob).2.1
def rn_22y := fun al ah bl bh pal qal pah qah pbl qbl pbh qbh oa ob => (@z3r al ah bl bh pal qal pah qah pbl qbl pbh qbh oa ob).2.2.1
def rn_22n := fun al ah bl bh pal qal pah qah pbl qbl pbh qbh oa ob => (@z3r al ah bl bh pal qal pah qah pbl qbl pbh qbh oa ob).2.2.2
theorem z66 (al ah bl bh : Int) (pal : -9223372036854775808 ≤ al) (qal : al ≤ 9223372036854775807) (pah : -9223372036854775808 ≤ ah) (qah : ah ≤ 9223372036854775807) (pbl : -9223372036854775808 ≤ bl) (qbl : bl ≤ 9223372036854775807) (pbh : -9223372036854775808 ≤ bh) (qbh : bh ≤ 9223372036854775807) (oa : al ≤ ah) (ob : bl ≤ bh) : (∀ (h : 9223372036854775807 ≤ bl) (w : World), Calls Tryz.prog 31 #[vI vK 21, .agg #[vI vK al, vI vK ah], .agg #[vI vK bl, vI vK bh]] w fun e w' => e = .returned (.tuple #[.agg #[vI vK 0, vI vK 0], .agg #[vI vK 0, vI vK 0], .bool false]) ∧ Below w.heap.size w w') ∧ (∀ (h : ah ≤ -9223372036854775808) (h2 : bl < 9223372036854775807) (w : World), Calls Tryz.prog 31 #[vI vK 21, .agg #[vI vK al, vI vK ah], .agg #[vI vK bl, vI vK bh]] w fun e w' => e = .returned (.tuple #[.agg #[vI vK 0, vI vK 0], .agg #[vI vK 0, vI vK 0], .bool false]) ∧ Below w.heap.size w w') := by
 refine ⟨?_, ?_⟩
 intro h w
 have z1 : (bl == 9223372036854775807) = true := by simp; omega
 rotate_left
 intro h h2 w
 have z1 : (bl == 9223372036854775807) = false := by simp; omega
 have z2 : (ah == -9223372036854775808) = true := by simp; omega
 rotate_left
 all_goals
  go_enter Tryz.func31, Tryz.ntmps31
  go_wp2_with fail
  go_quiet (fail)
  go_wp2_with fail
  all_goals go_region
  all_goals go_wp2
  all_goals exact bodyPost_ret (v := .tuple #[.agg #[vI vK 0, vI vK 0], .agg #[vI vK 0, vI vK 0], .bool false]) (by simp [results, Tryz.results31, go_sem]) rfl ⟨rfl, by repeat' first | exact bF _ _ | refine bA ?_ ?_ _ | refine bS ?_ ?_ _ | refine bD ?_ | refine below_drewN ?_ _ | (simp; done) | (simp; omega) | (simp [z00]; done) | (simp [z00]; omega) | omega⟩
def rn_21g := fun al ah bl bh pal qal pah qah pbl qbl pbh qbh oa ob => (@z66 al ah bl bh pal qal pah qah pbl qbl pbh qbh oa ob).1
def rn_21l := fun al ah bl bh pal qal pah qah pbl qbl pbh qbh oa ob => (@z66 al ah bl bh pal qal pah qah pbl qbl pbh qbh oa ob).2
theorem zDx (al ah bl bh : Int) (pal : -9223372036854775808 ≤ al) (qal : al ≤ 9223372036854775807) (pah : -9223372036854775808 ≤ ah) (qah : ah ≤ 9223372036854775807) (pbl : -9223372036854775808 ≤ bl) (qbl : bl ≤ 9223372036854775807) (pbh : -9223372036854775808 ≤ bh) (qbh : bh ≤ 9223372036854775807) (oa : al ≤ ah) (ob : bl ≤ bh) (w : World) : Calls Tryz.prog 31 #[vI vK 21, .agg #[vI vK al, vI vK ah], .agg #[vI vK bl, vI vK bh]] w fun e w' => e = .returned (.tuple #[.agg #[vI vK (((narV 21 al ah bl bh).1).1), vI vK (((narV 21 al ah bl bh).1).2)], .agg #[vI vK (((narV 21 al ah bl bh).2.1).1), vI vK (((narV 21 al ah bl bh).2.1).2)], .bool ((narV 21 al ah bl bh).2.2)]) ∧ Below w.heap.size w w' := by
 rw [z8r]
 unfold z5b belV
 by_cases h : bl + 1 ≤ ah
 ·rw [if_pos ⟨ob, h⟩]
  exact rn_21y al ah bl bh pal qal pah qah pbl qbl pbh qbh oa ob h w
 ·rw [if_neg (fun x => h x.2)]
  by_cases h1 : 9223372036854775807 ≤ bl
  ·exact rn_21g al ah bl bh pal qal pah qah pbl qbl pbh qbh oa ob h1 w
  ·by_cases h2 : ah ≤ -9223372036854775808
   ·exact rn_21l al ah bl bh pal qal pah qah pbl qbl pbh qbh oa ob h2 (by omega) w
   ·exact rn_21n al ah bl bh pal qal pah qah pbl qbl pbh qbh oa ob (by omega) (by omega) (by omega) w
theorem zDw (al ah bl bh : Int) (pal : -9223372036854775808 ≤ al) (qal : al ≤ 9223372036854775807) (pah : -9223372036854775808 ≤ ah) (qah : ah ≤ 9223372036854775807) (pbl : -9223372036854775808 ≤ bl) (qbl : bl ≤ 9223372036854775807) (pbh : -9223372036854775808 ≤ bh) (qbh : bh ≤ 9223372036854775807) (oa : al ≤ ah) (ob : bl ≤ bh) (w : World) : Calls Tryz.prog 31 #[vI vK 22, .agg #[vI vK al, vI vK ah], .agg #[vI vK bl, vI vK bh]] w fun e w' => e = .returned (.tuple #[.agg #[vI vK (((narV 22 al ah bl bh).1).1), vI vK (((narV 22 al ah bl bh).1).2)], .agg #[vI vK (((narV 22 al ah bl bh).2.1).1), vI vK (((narV 22 al ah bl bh).2.1).2)], .bool ((narV 22 al ah bl bh).2.2)]) ∧ Below w.heap.size w w' := by
 rw [z8q]
 unfold z5b belV
 rw [show ah - 0 = ah by omega, show bl + 0 = bl by omega]
 by_cases h : bl ≤ ah
 ·rw [if_pos ⟨ob, h⟩]
  exact rn_22y al ah bl bh pal qal pah qah pbl qbl pbh qbh oa ob h w
 ·rw [if_neg (fun x => h x.2)]
  exact rn_22n al ah bl bh pal qal pah qah pbl qbl pbh qbh oa ob (by omega) w
theorem zNk (al ah bl bh : Int) (w : World) : Calls Tryz.prog 49 #[.agg #[vI vK al, vI vK ah], .agg #[vI vK bl, vI vK bh]] w fun e w' => e = .returned (.tuple #[.agg #[vI vK (((meetV al ah bl bh).1).1), vI vK (((meetV al ah bl bh).1).2)], .bool ((meetV al ah bl bh).2)]) ∧ Below w.heap.size w w' := by
 unfold meetV
 by_cases h : max al bl ≤ min ah bh
 ·rw [if_pos h]
  exact z44 al ah bl bh h w
 ·rw [if_neg h]
  exact z4x al ah bl bh (by omega) w
theorem zRx (al ah bl bh : Int) (pal : -9223372036854775808 ≤ al) (qal : al ≤ 9223372036854775807) (pah : -9223372036854775808 ≤ ah) (qah : ah ≤ 9223372036854775807) (pbl : -9223372036854775808 ≤ bl) (qbl : bl ≤ 9223372036854775807) (pbh : -9223372036854775808 ≤ bh) (qbh : bh ≤ 9223372036854775807) (oa : al ≤ ah) (ob : bl ≤ bh) (w : World) : Calls Tryz.prog 31 #[vI vK 15, .agg #[vI vK al, vI vK ah], .agg #[vI vK bl, vI vK bh]] w fun e w' => e = .returned (.tuple #[.agg #[vI vK (((narV 15 al ah bl bh).1).1), vI vK (((narV 15 al ah bl bh).1).2)], .agg #[vI vK (((narV 15 al ah bl bh).2.1).1), vI vK (((narV 15 al ah bl bh).2.1).2)], .bool ((narV 15 al ah bl bh).2.2)]) ∧ Below w.heap.size w w' := by
 rw [zEz]
 have hn := fun w => zNk al ah bl bh w
 generalize meetV al ah bl bh = r at hn ⊢
 obtain ⟨⟨k1, k2⟩, ok⟩ := r
 have H : Hid (∀ w : World, Calls Tryz.prog 49 #[.agg #[vI vK al, vI vK ah], .agg #[vI vK bl, vI vK bh]] w fun e w' => e = .returned (.tuple #[.agg #[vI vK k1, vI vK k2], .bool ok]) ∧ Below w.heap.size w w') := hn
 clear hn
 go_enter Tryz.func31, Tryz.ntmps31
 go_wp2_with (first | (go_at_call 49; go_must (refine (H.out _).mono ?_; rintro e w1 ⟨rfl, hb1⟩; have hX1 : Quad w.heap.size al ah bl bh w1 := Quad.later (by first | exact hX1 | (refine ⟨?_, ?_, ?_, ?_, ?_, ?_, ?_, ?_, ?_, ?_, ?_, ?_, ?_, ?_, ?_, ?_, ?_⟩ <;> simp [go_sem])) hb1; have hbw1 : Below w.heap.size w w1 := (by ((refine Below.trans ?_ (hb1.mono ?_)) <;> repeat' first | exact bF _ _ | refine bA ?_ ?_ _ | refine bS ?_ ?_ _ | refine bD ?_ | refine below_drewN ?_ _ | (simp; done) | (simp; omega) | (simp [z00]; done) | (simp [z00]; omega) | omega)); have hY := hX1; obtain ⟨t0, a0, a1, af0, af1, b0, b1, bf0, bf1, r0, r1, rf0, rf1, s0, s1, sf0, sf1⟩ := hY; have sz00 : w.heap.size < w1.heap.size := (by omega); have sz01 : w.heap.size < w1.heap.size + 1 := (by omega); have sz02 : w.heap.size < w1.heap.size + 1 + 1 := (by omega); have sz03 : w.heap.size < w1.heap.size + 1 + 1 + 1 := (by omega); have sz10 : w.heap.size + 1 < w1.heap.size := (by omega); have sz11 : w.heap.size + 1 < w1.heap.size + 1 := (by omega); have sz12 : w.heap.size + 1 < w1.heap.size + 1 + 1 := (by omega); have sz13 : w.heap.size + 1 < w1.heap.size + 1 + 1 + 1 := (by omega); have sz20 : w.heap.size + 1 + 1 < w1.heap.size := (by omega); have sz21 : w.heap.size + 1 + 1 < w1.heap.size + 1 := (by omega); have sz22 : w.heap.size + 1 + 1 < w1.heap.size + 1 + 1 := (by omega); have sz23 : w.heap.size + 1 + 1 < w1.heap.size + 1 + 1 + 1 := (by omega); have sz30 : w.heap.size + 1 + 1 + 1 < w1.heap.size := (by omega); have sz31 : w.heap.size + 1 + 1 + 1 < w1.heap.size + 1 := (by omega); have sz32 : w.heap.size + 1 + 1 + 1 < w1.heap.size + 1 + 1 := (by omega); have sz33 : w.heap.size + 1 + 1 + 1 < w1.heap.size + 1 + 1 + 1 := (by omega))))
 all_goals go_region
 all_goals go_wp2
 all_goals exact bodyPost_ret (v := .tuple #[.agg #[vI vK k1, vI vK k2], .agg #[vI vK k1, vI vK k2], .bool ok]) (by simp [results, Tryz.results31, go_sem, r0, r1, s0, s1, sz20, sz30]) rfl ⟨rfl, by repeat' first | exact bF _ _ | exact hbw1 | refine bA ?_ ?_ _ | refine bS ?_ ?_ _ | refine bD ?_ | refine below_drewN ?_ _ | (simp; done) | (simp; omega) | (simp [z00]; done) | (simp [z00]; omega) | omega⟩
theorem zRz (al ah bl bh : Int) (pal : -9223372036854775808 ≤ al) (qal : al ≤ 9223372036854775807) (pah : -9223372036854775808 ≤ ah) (qah : ah ≤ 9223372036854775807) (pbl : -9223372036854775808 ≤ bl) (qbl : bl ≤ 9223372036854775807) (pbh : -9223372036854775808 ≤ bh) (qbh : bh ≤ 9223372036854775807) (oa : al ≤ ah) (ob : bl ≤ bh) (hne : ¬ al = bl) (w : World) : Calls Tryz.prog 31 #[vI vK 16, .agg #[vI vK al, vI vK ah], .agg #[vI vK bl, vI vK bh]] w fun e w' => e = .returned (.tuple #[.agg #[vI vK ((cutV al ah bl bh).1), vI vK ((cutV al ah bl bh).2)], .agg #[vI vK ((cutV bl bh al ah).1), vI vK ((cutV bl bh al ah).2)], .bool true]) ∧ Below w.heap.size w w' := by
 go_enter Tryz.func31, Tryz.ntmps31
 go_wp2_with fail
 go_region_held3 (fun w' => w'.cell? ⟨w.heap.size, 0, none⟩ = some (vI vK al) ∧ w'.cell? ⟨w.heap.size, 1, none⟩ = some (vI vK ah) ∧ w'.cell? ⟨w.heap.size + 1, 0, none⟩ = some (vI vK bl) ∧ w'.cell? ⟨w.heap.size + 1, 1, none⟩ = some (vI vK bh)) (first | (simp [go_sem]; done) | (simp [go_sem, *]; done) | go_keep) (first | (go_at_call 50; go_must (refine (zE7 _ _ _ _ ?_ ?_ ?_ _).mono ?_; omega; omega; omega; rintro e w1 ⟨rfl, hb1⟩; have hX1 : Quad w.heap.size al ah bl bh w1 := Quad.later (by first | exact hX1 | (refine ⟨?_, ?_, ?_, ?_, ?_, ?_, ?_, ?_, ?_, ?_, ?_, ?_, ?_, ?_, ?_, ?_, ?_⟩ <;> simp [go_sem])) hb1; have hbw1 : Below w.heap.size w w1 := (by ((refine Below.trans ?_ (hb1.mono ?_)) <;> repeat' first | exact bF _ _ | refine bA ?_ ?_ _ | refine bS ?_ ?_ _ | refine bD ?_ | refine below_drewN ?_ _ | (simp; done) | (simp; omega) | (simp [z00]; done) | (simp [z00]; omega) | omega)); have hY := hX1; obtain ⟨t0, a0, a1, af0, af1, b0, b1, bf0, bf1, r0, r1, rf0, rf1, s0, s1, sf0, sf1⟩ := hY; have sz00 : w.heap.size < w1.heap.size := (by omega); have sz01 : w.heap.size < w1.heap.size + 1 := (by omega); have sz02 : w.heap.size < w1.heap.size + 1 + 1 := (by omega); have sz03 : w.heap.size < w1.heap.size + 1 + 1 + 1 := (by omega); have sz10 : w.heap.size + 1 < w1.heap.size := (by omega); have sz11 : w.heap.size + 1 < w1.heap.size + 1 := (by omega); have sz12 : w.heap.size + 1 < w1.heap.size + 1 + 1 := (by omega); have sz13 : w.heap.size + 1 < w1.heap.size + 1 + 1 + 1 := (by omega); have sz20 : w.heap.size + 1 + 1 < w1.heap.size := (by omega); have sz21 : w.heap.size + 1 + 1 < w1.heap.size + 1 := (by omega); have sz22 : w.heap.size + 1 + 1 < w1.heap.size + 1 + 1 := (by omega); have sz23 : w.heap.size + 1 + 1 < w1.heap.size + 1 + 1 + 1 := (by omega); have sz30 : w.heap.size + 1 + 1 + 1 < w1.heap.size := (by omega); have sz31 : w.heap.size + 1 + 1 + 1 < w1.heap.size + 1 := (by omega); have sz32 : w.heap.size + 1 + 1 + 1 < w1.heap.size + 1 + 1 := (by omega); have sz33 : w.heap.size + 1 + 1 + 1 < w1.heap.size + 1 + 1 + 1 := (by omega))))
 all_goals go_wp2_with fail
 all_goals exact bodyPost_ret (v := .tuple #[.agg #[vI vK ((cutV al ah bl bh).1), vI vK ((cutV al ah bl bh).2)], .agg #[vI vK ((cutV bl bh al ah).1), vI vK ((cutV bl bh al ah).2)], .bool true]) (by simp [results, Tryz.results31, go_sem, r0, r1, s0, s1]) rfl ⟨rfl, by repeat' first | exact bF _ _ | exact hbw1 | refine bA ?_ ?_ _ | refine bS ?_ ?_ _ | refine bD ?_ | refine below_drewN ?_ _ | (simp; done) | (simp; omega) | (simp [z00]; done) | (simp [z00]; omega) | omega⟩
theorem zRy (al ah bh : Int) (pal : -9223372036854775808 ≤ al) (qal : al ≤ 9223372036854775807) (pah : -9223372036854775808 ≤ ah) (qah : ah ≤ 9223372036854775807) (pbh : -9223372036854775808 ≤ bh) (qbh : bh ≤ 9223372036854775807) (oa : al ≤ ah) (ob : al ≤ bh) (hne : ¬ ah = bh) (w : World) : Calls Tryz.prog 31 #[vI vK 16, .agg #[vI vK al, vI vK ah], .agg #[vI vK al, vI vK bh]] w fun e w' => e = .returned (.tuple #[.agg #[vI vK ((cutV al ah al bh).1), vI vK ((cutV al ah al bh).2)], .agg #[vI vK ((cutV al bh al ah).1), vI vK ((cutV al bh al ah).2)], .bool true]) ∧ Below w.heap.size w w' := by
 go_enter Tryz.func31, Tryz.ntmps31
 go_wp2_with fail
 go_region_held3 (fun w' => w'.cell? ⟨w.heap.size, 0, none⟩ = some (vI vK al) ∧ w'.cell? ⟨w.heap.size, 1, none⟩ = some (vI vK ah) ∧ w'.cell? ⟨w.heap.size + 1, 0, none⟩ = some (vI vK al) ∧ w'.cell? ⟨w.heap.size + 1, 1, none⟩ = some (vI vK bh)) (first | (simp [go_sem]; done) | (simp [go_sem, *]; done) | go_keep) (first | (go_at_call 50; go_must (refine (zE7 _ _ _ _ ?_ ?_ ?_ _).mono ?_; omega; omega; omega; rintro e w1 ⟨rfl, hb1⟩; have hX1 : Quad w.heap.size al ah al bh w1 := Quad.later (by first | exact hX1 | (refine ⟨?_, ?_, ?_, ?_, ?_, ?_, ?_, ?_, ?_, ?_, ?_, ?_, ?_, ?_, ?_, ?_, ?_⟩ <;> simp [go_sem])) hb1; have hbw1 : Below w.heap.size w w1 := (by ((refine Below.trans ?_ (hb1.mono ?_)) <;> repeat' first | exact bF _ _ | refine bA ?_ ?_ _ | refine bS ?_ ?_ _ | refine bD ?_ | refine below_drewN ?_ _ | (simp; done) | (simp; omega) | (simp [z00]; done) | (simp [z00]; omega) | omega)); have hY := hX1; obtain ⟨t0, a0, a1, af0, af1, b0, b1, bf0, bf1, r0, r1, rf0, rf1, s0, s1, sf0, sf1⟩ := hY; have sz00 : w.heap.size < w1.heap.size := (by omega); have sz01 : w.heap.size < w1.heap.size + 1 := (by omega); have sz02 : w.heap.size < w1.heap.size + 1 + 1 := (by omega); have sz03 : w.heap.size < w1.heap.size + 1 + 1 + 1 := (by omega); have sz10 : w.heap.size + 1 < w1.heap.size := (by omega); have sz11 : w.heap.size + 1 < w1.heap.size + 1 := (by omega); have sz12 : w.heap.size + 1 < w1.heap.size + 1 + 1 := (by omega); have sz13 : w.heap.size + 1 < w1.heap.size + 1 + 1 + 1 := (by omega); have sz20 : w.heap.size + 1 + 1 < w1.heap.size := (by omega); have sz21 : w.heap.size + 1 + 1 < w1.heap.size + 1 := (by omega); have sz22 : w.heap.size + 1 + 1 < w1.heap.size + 1 + 1 := (by omega); have sz23 : w.heap.size + 1 + 1 < w1.heap.size + 1 + 1 + 1 := (by omega); have sz30 : w.heap.size + 1 + 1 + 1 < w1.heap.size := (by omega); have sz31 : w.heap.size + 1 + 1 + 1 < w1.heap.size + 1 := (by omega); have sz32 : w.heap.size + 1 + 1 + 1 < w1.heap.size + 1 + 1 := (by omega); have sz33 : w.heap.size + 1 + 1 + 1 < w1.heap.size + 1 + 1 + 1 := (by omega))))
 all_goals go_wp2_with fail
 all_goals exact bodyPost_ret (v := .tuple #[.agg #[vI vK ((cutV al ah al bh).1), vI vK ((cutV al ah al bh).2)], .agg #[vI vK ((cutV al bh al ah).1), vI vK ((cutV al bh al ah).2)], .bool true]) (by simp [results, Tryz.results31, go_sem, r0, r1, s0, s1]) rfl ⟨rfl, by repeat' first | exact bF _ _ | exact hbw1 | refine bA ?_ ?_ _ | refine bS ?_ ?_ _ | refine bD ?_ | refine below_drewN ?_ _ | (simp; done) | (simp; omega) | (simp [z00]; done) | (simp [z00]; omega) | omega⟩
theorem zS0 (al ah : Int) (pal : -9223372036854775808 ≤ al) (qal : al ≤ 9223372036854775807) (pah : -9223372036854775808 ≤ ah) (qah : ah ≤ 9223372036854775807) (oa : al ≤ ah) (hne : ¬ al = ah) (w : World) : Calls Tryz.prog 31 #[vI vK 16, .agg #[vI vK al, vI vK ah], .agg #[vI vK al, vI vK ah]] w fun e w' => e = .returned (.tuple #[.agg #[vI vK ((cutV al ah al ah).1), vI vK ((cutV al ah al ah).2)], .agg #[vI vK ((cutV al ah al ah).1), vI vK ((cutV al ah al ah).2)], .bool true]) ∧ Below w.heap.size w w' := by
 go_enter Tryz.func31, Tryz.ntmps31
 go_wp2_with fail
 go_region_held3 (fun w' => w'.cell? ⟨w.heap.size, 0, none⟩ = some (vI vK al) ∧ w'.cell? ⟨w.heap.size, 1, none⟩ = some (vI vK ah) ∧ w'.cell? ⟨w.heap.size + 1, 0, none⟩ = some (vI vK al) ∧ w'.cell? ⟨w.heap.size + 1, 1, none⟩ = some (vI vK ah)) (first | (simp [go_sem]; done) | (simp [go_sem, *]; done) | go_keep) (first | (go_at_call 50; go_must (refine (zE7 _ _ _ _ ?_ ?_ ?_ _).mono ?_; omega; omega; omega; rintro e w1 ⟨rfl, hb1⟩; have hX1 : Quad w.heap.size al ah al ah w1 := Quad.later (by first | exact hX1 | (refine ⟨?_, ?_, ?_, ?_, ?_, ?_, ?_, ?_, ?_, ?_, ?_, ?_, ?_, ?_, ?_, ?_, ?_⟩ <;> simp [go_sem])) hb1; have hbw1 : Below w.heap.size w w1 := (by ((refine Below.trans ?_ (hb1.mono ?_)) <;> repeat' first | exact bF _ _ | refine bA ?_ ?_ _ | refine bS ?_ ?_ _ | refine bD ?_ | refine below_drewN ?_ _ | (simp; done) | (simp; omega) | (simp [z00]; done) | (simp [z00]; omega) | omega)); have hY := hX1; obtain ⟨t0, a0, a1, af0, af1, b0, b1, bf0, bf1, r0, r1, rf0, rf1, s0, s1, sf0, sf1⟩ := hY; have sz00 : w.heap.size < w1.heap.size := (by omega); have sz01 : w.heap.size < w1.heap.size + 1 := (by omega); have sz02 : w.heap.size < w1.heap.size + 1 + 1 := (by omega); have sz03 : w.heap.size < w1.heap.size + 1 + 1 + 1 := (by omega); have sz10 : w.heap.size + 1 < w1.heap.size := (by omega); have sz11 : w.heap.size + 1 < w1.heap.size + 1 := (by omega); have sz12 : w.heap.size + 1 < w1.heap.size + 1 + 1 := (by omega); have sz13 : w.heap.size + 1 < w1.heap.size + 1 + 1 + 1 := (by omega); have sz20 : w.heap.size + 1 + 1 < w1.heap.size := (by omega); have sz21 : w.heap.size + 1 + 1 < w1.heap.size + 1 := (by omega); have sz22 : w.heap.size + 1 + 1 < w1.heap.size + 1 + 1 := (by omega); have sz23 : w.heap.size + 1 + 1 < w1.heap.size + 1 + 1 + 1 := (by omega); have sz30 : w.heap.size + 1 + 1 + 1 < w1.heap.size := (by omega); have sz31 : w.heap.size + 1 + 1 + 1 < w1.heap.size + 1 := (by omega); have sz32 : w.heap.size + 1 + 1 + 1 < w1.heap.size + 1 + 1 := (by omega); have sz33 : w.heap.size + 1 + 1 + 1 < w1.heap.size + 1 + 1 + 1 := (by omega))))
 all_goals go_wp2_with fail
 all_goals exact bodyPost_ret (v := .tuple #[.agg #[vI vK ((cutV al ah al ah).1), vI vK ((cutV al ah al ah).2)], .agg #[vI vK ((cutV al ah al ah).1), vI vK ((cutV al ah al ah).2)], .bool true]) (by simp [results, Tryz.results31, go_sem, r0, r1, s0, s1]) rfl ⟨rfl, by repeat' first | exact bF _ _ | exact hbw1 | refine bA ?_ ?_ _ | refine bS ?_ ?_ _ | refine bD ?_ | refine below_drewN ?_ _ | (simp; done) | (simp; omega) | (simp [z00]; done) | (simp [z00]; omega) | omega⟩
theorem z3q  : (∀ (k al ah bl bh : Int) (hk : k < 15 ∨ 24 < k) (w : World), Calls Tryz.prog 31 #[vI vK k, .agg #[vI vK al, vI vK ah], .agg #[vI vK bl, vI vK bh]] w fun e w' => e = .returned (.tuple #[.agg #[vI vK al, vI vK ah], .agg #[vI vK bl, vI vK bh], .bool true]) ∧ Below w.heap.size w w') ∧ (∀ (al : Int) (w : World), Calls Tryz.prog 31 #[vI vK 16, .agg #[vI vK al, vI vK al], .agg #[vI vK al, vI vK al]] w fun e w' => e = .returned (.tuple #[.agg #[vI vK 0, vI vK 0], .agg #[vI vK 0, vI vK 0], .bool false]) ∧ Below w.heap.size w w') ∧ (∀ (al ah bl bh : Int) (hb : bl < 0) (w : World), Calls Tryz.prog 31 #[vI vK 19, .agg #[vI vK al, vI vK ah], .agg #[vI vK bl, vI vK bh]] w fun e w' => e = .returned (.tuple #[.agg #[vI vK al, vI vK ah], .agg #[vI vK bl, vI vK bh], .bool true]) ∧ Below w.heap.size w w') ∧ (∀ (al ah bl bh : Int) (hb : bl < 0) (w : World), Calls Tryz.prog 31 #[vI vK 20, .agg #[vI vK al, vI vK ah], .agg #[vI vK bl, vI vK bh]] w fun e w' => e = .returned (.tuple #[.agg #[vI vK al, vI vK ah], .agg #[vI vK bl, vI vK bh], .bool true]) ∧ Below w.heap.size w w') := by
 refine ⟨?_, ?_, ?_, ?_⟩
 intro k al ah bl bh hk w
 have e15 : (k == 15) = false := by simp; omega
 have e16 : (k == 16) = false := by simp; omega
 have e17 : (k == 17) = false := by simp; omega
 have e18 : (k == 18) = false := by simp; omega
 have e19 : (k == 19) = false := by simp; omega
 have e20 : (k == 20) = false := by simp; omega
 have e21 : (k == 21) = false := by simp; omega
 have e22 : (k == 22) = false := by simp; omega
 have e23 : (k == 23) = false := by simp; omega
 have e24 : (k == 24) = false := by simp; omega
 rotate_left
 intro al w
 rotate_left
 intro al ah bl bh hb w
 have z1 : decide (bl < 0) = true := by simp; omega
 rotate_left
 intro al ah bl bh hb w
 have z1 : decide (bl < 0) = true := by simp; omega
 rotate_left
 all_goals
  go_enter Tryz.func31, Tryz.ntmps31
  go_wp2_with fail
  all_goals go_region
  all_goals go_wp2
  all_goals exact bodyPost_ret (by simp [results, Tryz.results31, go_sem]) rfl ⟨rfl, by repeat' first | exact bF _ _ | refine bA ?_ ?_ _ | refine bS ?_ ?_ _ | refine bD ?_ | refine below_drewN ?_ _ | (simp; done) | (simp; omega) | (simp [z00]; done) | (simp [z00]; omega) | omega⟩
def zRr := z3q.1
def rn_16n := z3q.2.1
theorem zRw (al ah bl bh : Int) (pal : -9223372036854775808 ≤ al) (qal : al ≤ 9223372036854775807) (pah : -9223372036854775808 ≤ ah) (qah : ah ≤ 9223372036854775807) (pbl : -9223372036854775808 ≤ bl) (qbl : bl ≤ 9223372036854775807) (pbh : -9223372036854775808 ≤ bh) (qbh : bh ≤ 9223372036854775807) (oa : al ≤ ah) (ob : bl ≤ bh) (w : World) : Calls Tryz.prog 31 #[vI vK 16, .agg #[vI vK al, vI vK ah], .agg #[vI vK bl, vI vK bh]] w fun e w' => e = .returned (.tuple #[.agg #[vI vK (((narV 16 al ah bl bh).1).1), vI vK (((narV 16 al ah bl bh).1).2)], .agg #[vI vK (((narV 16 al ah bl bh).2.1).1), vI vK (((narV 16 al ah bl bh).2.1).2)], .bool ((narV 16 al ah bl bh).2.2)]) ∧ Below w.heap.size w w' := by
 rw [zEy]
 unfold apV
 by_cases h0 : al = bl
 ·subst h0
  by_cases h1 : ah = bh
  ·subst h1
   by_cases h2 : ah = al
   ·rw [if_pos ⟨rfl, rfl, h2⟩]
    subst h2
    exact rn_16n ah w
   ·rw [if_neg (fun x => h2 x.2.2)]
    exact zS0 al ah pal qal pah qah oa (fun h => h2 h.symm) w
  ·rw [if_neg (fun x => h1 x.2.1)]
   exact zRy al ah bh pal qal pah qah pbh qbh oa ob h1 w
 ·rw [if_neg (fun x => h0 x.1)]
  exact zRz al ah bl bh pal qal pah qah pbl qbl pbh qbh oa ob h0 w
def rn_19b := z3q.2.2.1
def rn_20b := z3q.2.2.2
theorem z65 (al ah bl bh : Int) (hb : 0 ≤ bl) (H1 : Hid (∀ w : World, Calls Tryz.prog 49 #[.agg #[vI vK al, vI vK ah], .agg #[vI vK 0, vI vK 9223372036854775807]] w fun e w' => e = .returned (.tuple #[.agg #[vI vK 0, vI vK 0], .bool false]) ∧ Below w.heap.size w w')) (w : World) : (Calls Tryz.prog 31 #[vI vK 19, .agg #[vI vK al, vI vK ah], .agg #[vI vK bl, vI vK bh]] w fun e w' => e = .returned (.tuple #[.agg #[vI vK 0, vI vK 0], .agg #[vI vK 0, vI vK 0], .bool false]) ∧ Below w.heap.size w w') ∧ (Calls Tryz.prog 31 #[vI vK 20, .agg #[vI vK al, vI vK ah], .agg #[vI vK bl, vI vK bh]] w fun e w' => e = .returned (.tuple #[.agg #[vI vK 0, vI vK 0], .agg #[vI vK 0, vI vK 0], .bool false]) ∧ Below w.heap.size w w') := by
 refine ⟨?_, ?_⟩
 all_goals
  have z1 : decide (bl < 0) = false := by simp; omega
 all_goals
  go_enter Tryz.func31, Tryz.ntmps31
  go_wp2_with (first | (go_at_call 49; go_must (refine (H1.out _).mono ?_; rintro e w1 ⟨rfl, hb1⟩; have hX1 : Quad w.heap.size al ah bl bh w1 := Quad.later (by first | exact hX1 | (refine ⟨?_, ?_, ?_, ?_, ?_, ?_, ?_, ?_, ?_, ?_, ?_, ?_, ?_, ?_, ?_, ?_, ?_⟩ <;> simp [go_sem])) hb1; have hbw1 : Below w.heap.size w w1 := (by ((refine Below.trans ?_ (hb1.mono ?_)) <;> repeat' first | exact bF _ _ | refine bA ?_ ?_ _ | refine bS ?_ ?_ _ | refine bD ?_ | refine below_drewN ?_ _ | (simp; done) | (simp; omega) | (simp [z00]; done) | (simp [z00]; omega) | omega)); have hY := hX1; obtain ⟨t0, a0, a1, af0, af1, b0, b1, bf0, bf1, r0, r1, rf0, rf1, s0, s1, sf0, sf1⟩ := hY; have sz00 : w.heap.size < w1.heap.size := (by omega); have sz01 : w.heap.size < w1.heap.size + 1 := (by omega); have sz02 : w.heap.size < w1.heap.size + 1 + 1 := (by omega); have sz03 : w.heap.size < w1.heap.size + 1 + 1 + 1 := (by omega); have sz10 : w.heap.size + 1 < w1.heap.size := (by omega); have sz11 : w.heap.size + 1 < w1.heap.size + 1 := (by omega); have sz12 : w.heap.size + 1 < w1.heap.size + 1 + 1 := (by omega); have sz13 : w.heap.size + 1 < w1.heap.size + 1 + 1 + 1 := (by omega); have sz20 : w.heap.size + 1 + 1 < w1.heap.size := (by omega); have sz21 : w.heap.size + 1 + 1 < w1.heap.size + 1 := (by omega); have sz22 : w.heap.size + 1 + 1 < w1.heap.size + 1 + 1 := (by omega); have sz23 : w.heap.size + 1 + 1 < w1.heap.size + 1 + 1 + 1 := (by omega); have sz30 : w.heap.size + 1 + 1 + 1 < w1.heap.size := (by omega); have sz31 : w.heap.size + 1 + 1 + 1 < w1.heap.size + 1 := (by omega); have sz32 : w.heap.size + 1 + 1 + 1 < w1.heap.size + 1 + 1 := (by omega); have sz33 : w.heap.size + 1 + 1 + 1 < w1.heap.size + 1 + 1 + 1 := (by omega); have x4 := z1n hb1 (w.heap.size + 1 + 1 + 1 + 1) (by simp); obtain ⟨x40, x41, x42, x43, x44⟩ := x4; simp [go_sem] at x41 x42; have sw0 : w.heap.size + 1 + 1 + 1 + 1 < w1.heap.size := (by omega); have sw1 : w.heap.size + 1 + 1 + 1 + 1 < w1.heap.size + 1 := (by omega); have sw2 : w.heap.size + 1 + 1 + 1 + 1 < w1.heap.size + 1 + 1 := (by omega))))
  all_goals go_region
  all_goals go_wp2
  all_goals exact bodyPost_ret (v := .tuple #[.agg #[vI vK 0, vI vK 0], .agg #[vI vK 0, vI vK 0], .bool false]) (by simp [results, Tryz.results31, go_sem, r0, r1, s0, s1, sz20, sz30]) rfl ⟨rfl, by repeat' first | exact bF _ _ | exact hbw1 | refine bA ?_ ?_ _ | refine bS ?_ ?_ _ | refine bD ?_ | refine below_drewN ?_ _ | (simp; done) | (simp; omega) | (simp [z00]; done) | (simp [z00]; omega) | omega⟩
def rn_19e := fun al ah bl bh hb H1 w => (@z65 al ah bl bh hb H1 w).1
def rn_20e := fun al ah bl bh hb H1 w => (@z65 al ah bl bh hb H1 w).2
theorem z64 (al ah bl bh x k1 k2 k3 k4 : Int) (ok : Bool) (hb : 0 ≤ bl) (H1 : Hid (∀ w : World, Calls Tryz.prog 49 #[.agg #[vI vK al, vI vK ah], .agg #[vI vK 0, vI vK 9223372036854775807]] w fun e w' => e = .returned (.tuple #[.agg #[vI vK x, vI vK ah], .bool true]) ∧ Below w.heap.size w w')) : (∀ (H2 : Hid (∀ w : World, Calls Tryz.prog 31 #[vI vK 21, .agg #[vI vK bl, vI vK bh], .agg #[vI vK x, vI vK ah]] w fun e w' => e = .returned (.tuple #[.agg #[vI vK k3, vI vK k4], .agg #[vI vK k1, vI vK k2], .bool ok]) ∧ Below w.heap.size w w')) (w : World), Calls Tryz.prog 31 #[vI vK 19, .agg #[vI vK al, vI vK ah], .agg #[vI vK bl, vI vK bh]] w fun e w' => e = .returned (.tuple #[.agg #[vI vK k1, vI vK k2], .agg #[vI vK k3, vI vK k4], .bool ok]) ∧ Below w.heap.size w w') ∧ (∀ (H2 : Hid (∀ w : World, Calls Tryz.prog 31 #[vI vK 22, .agg #[vI vK bl, vI vK bh], .agg #[vI vK x, vI vK ah]] w fun e w' => e = .returned (.tuple #[.agg #[vI vK k3, vI vK k4], .agg #[vI vK k1, vI vK k2], .bool ok]) ∧ Below w.heap.size w w')) (w : World), Calls Tryz.prog 31 #[vI vK 20, .agg #[vI vK al, vI vK ah], .agg #[vI vK bl, vI vK bh]] w fun e w' => e = .returned (.tuple #[.agg #[vI vK k1, vI vK k2], .agg #[vI vK k3, vI vK k4], .bool ok]) ∧ Below w.heap.size w w') := by
 refine ⟨?_, ?_⟩
 all_goals
  intro H2 w
  have z1 : decide (bl < 0) = false := by simp; omega
 all_goals
  go_enter Tryz.func31, Tryz.ntmps31
  go_wp2_with (first | (go_at_call 49; go_must (refine (H1.out _).mono ?_; rintro e w1 ⟨rfl, hb1⟩; have hX1 : Quad w.heap.size al ah bl bh w1 := Quad.later (by first | exact hX1 | (refine ⟨?_, ?_, ?_, ?_, ?_, ?_, ?_, ?_, ?_, ?_, ?_, ?_, ?_, ?_, ?_, ?_, ?_⟩ <;> simp [go_sem])) hb1; have hbw1 : Below w.heap.size w w1 := (by ((refine Below.trans ?_ (hb1.mono ?_)) <;> repeat' first | exact bF _ _ | refine bA ?_ ?_ _ | refine bS ?_ ?_ _ | refine bD ?_ | refine below_drewN ?_ _ | (simp; done) | (simp; omega) | (simp [z00]; done) | (simp [z00]; omega) | omega)); have hY := hX1; obtain ⟨t0, a0, a1, af0, af1, b0, b1, bf0, bf1, r0, r1, rf0, rf1, s0, s1, sf0, sf1⟩ := hY; have sz00 : w.heap.size < w1.heap.size := (by omega); have sz01 : w.heap.size < w1.heap.size + 1 := (by omega); have sz02 : w.heap.size < w1.heap.size + 1 + 1 := (by omega); have sz03 : w.heap.size < w1.heap.size + 1 + 1 + 1 := (by omega); have sz10 : w.heap.size + 1 < w1.heap.size := (by omega); have sz11 : w.heap.size + 1 < w1.heap.size + 1 := (by omega); have sz12 : w.heap.size + 1 < w1.heap.size + 1 + 1 := (by omega); have sz13 : w.heap.size + 1 < w1.heap.size + 1 + 1 + 1 := (by omega); have sz20 : w.heap.size + 1 + 1 < w1.heap.size := (by omega); have sz21 : w.heap.size + 1 + 1 < w1.heap.size + 1 := (by omega); have sz22 : w.heap.size + 1 + 1 < w1.heap.size + 1 + 1 := (by omega); have sz23 : w.heap.size + 1 + 1 < w1.heap.size + 1 + 1 + 1 := (by omega); have sz30 : w.heap.size + 1 + 1 + 1 < w1.heap.size := (by omega); have sz31 : w.heap.size + 1 + 1 + 1 < w1.heap.size + 1 := (by omega); have sz32 : w.heap.size + 1 + 1 + 1 < w1.heap.size + 1 + 1 := (by omega); have sz33 : w.heap.size + 1 + 1 + 1 < w1.heap.size + 1 + 1 + 1 := (by omega); have x4 := z1n hb1 (w.heap.size + 1 + 1 + 1 + 1) (by simp); obtain ⟨x40, x41, x42, x43, x44⟩ := x4; simp [go_sem] at x41 x42; have sw0 : w.heap.size + 1 + 1 + 1 + 1 < w1.heap.size := (by omega); have sw1 : w.heap.size + 1 + 1 + 1 + 1 < w1.heap.size + 1 := (by omega); have sw2 : w.heap.size + 1 + 1 + 1 + 1 < w1.heap.size + 1 + 1 := (by omega))) | (go_at_call 31; go_must (refine (H2.out _).mono ?_; rintro e w2 ⟨rfl, hb2⟩; have hX2 : Quad w.heap.size x ah bl bh w2 := Quad.later (by refine ⟨?_, ?_, ?_, ?_, ?_, ?_, ?_, ?_, ?_, ?_, ?_, ?_, ?_, ?_, ?_, ?_, ?_⟩ <;> first | (simp [go_sem, *]; done) | (simp; omega) | omega) hb2; have hbw2 : Below w.heap.size w w2 := (by ((refine Below.trans ?_ (hb2.mono ?_)) <;> repeat' first | exact bF _ _ | exact hbw1 | refine bA ?_ ?_ _ | refine bS ?_ ?_ _ | refine bD ?_ | refine below_drewN ?_ _ | (simp; done) | (simp; omega) | (simp [z00]; done) | (simp [z00]; omega) | omega)); have hY2 := hX2; obtain ⟨t0, a0, a1, af0, af1, b0, b1, bf0, bf1, r0, r1, rf0, rf1, s0, s1, sf0, sf1⟩ := hY2; have sy00 : w.heap.size < w2.heap.size := (by omega); have sy01 : w.heap.size < w2.heap.size + 1 := (by omega); have sy02 : w.heap.size < w2.heap.size + 1 + 1 := (by omega); have sy03 : w.heap.size < w2.heap.size + 1 + 1 + 1 := (by omega); have sy10 : w.heap.size + 1 < w2.heap.size := (by omega); have sy11 : w.heap.size + 1 < w2.heap.size + 1 := (by omega); have sy12 : w.heap.size + 1 < w2.heap.size + 1 + 1 := (by omega); have sy13 : w.heap.size + 1 < w2.heap.size + 1 + 1 + 1 := (by omega); have sy20 : w.heap.size + 1 + 1 < w2.heap.size := (by omega); have sy21 : w.heap.size + 1 + 1 < w2.heap.size + 1 := (by omega); have sy22 : w.heap.size + 1 + 1 < w2.heap.size + 1 + 1 := (by omega); have sy23 : w.heap.size + 1 + 1 < w2.heap.size + 1 + 1 + 1 := (by omega); have sy30 : w.heap.size + 1 + 1 + 1 < w2.heap.size := (by omega); have sy31 : w.heap.size + 1 + 1 + 1 < w2.heap.size + 1 := (by omega); have sy32 : w.heap.size + 1 + 1 + 1 < w2.heap.size + 1 + 1 := (by omega); have sy33 : w.heap.size + 1 + 1 + 1 < w2.heap.size + 1 + 1 + 1 := (by omega))))
  all_goals go_region
  all_goals go_wp2
  all_goals exact bodyPost_ret (v := .tuple #[.agg #[vI vK k1, vI vK k2], .agg #[vI vK k3, vI vK k4], .bool ok]) (by simp [results, Tryz.results31, go_sem, r0, r1, s0, s1, sy10, sy20, sy30]) rfl ⟨rfl, by repeat' first | exact bF _ _ | exact hbw2 | exact hbw1 | refine bA ?_ ?_ _ | refine bS ?_ ?_ _ | refine bD ?_ | refine below_drewN ?_ _ | (simp; done) | (simp; omega) | (simp [z00]; done) | (simp [z00]; omega) | omega⟩
def rn_19t := fun al ah bl bh x k1 k2 k3 k4 ok hb H1 => (@z64 al ah bl bh x k1 k2 k3 k4 ok hb H1).1
theorem zJu (al ah bl bh : Int) (pal : -9223372036854775808 ≤ al) (qal : al ≤ 9223372036854775807) (pah : -9223372036854775808 ≤ ah) (qah : ah ≤ 9223372036854775807) (pbl : -9223372036854775808 ≤ bl) (qbl : bl ≤ 9223372036854775807) (pbh : -9223372036854775808 ≤ bh) (qbh : bh ≤ 9223372036854775807) (oa : al ≤ ah) (ob : bl ≤ bh) (w : World) : Calls Tryz.prog 31 #[vI vK 19, .agg #[vI vK al, vI vK ah], .agg #[vI vK bl, vI vK bh]] w fun e w' => e = .returned (.tuple #[.agg #[vI vK (((narV 19 al ah bl bh).1).1), vI vK (((narV 19 al ah bl bh).1).2)], .agg #[vI vK (((narV 19 al ah bl bh).2.1).1), vI vK (((narV 19 al ah bl bh).2.1).2)], .bool ((narV 19 al ah bl bh).2.2)]) ∧ Below w.heap.size w w' := by
 rw [zAz]
 unfold unsV
 by_cases hb : bl < 0
 ·rw [if_pos hb]
  exact rn_19b al ah bl bh hb w
 ·rw [if_neg hb]
  by_cases hx : max al 0 ≤ ah
  ·have h1 := fun w => z44 al ah 0 9223372036854775807 (by omega) w
   rw [show min ah 9223372036854775807 = ah by omega] at h1
   have hn := fun w => zDx bl bh (max al 0) ah pbl qbl pbh qbh (by omega) (by omega) pah qah ob hx w
   rw [z8r] at hn
   unfold z5b at hn
   generalize belV 1 (max al 0) ah bl bh = r at hn ⊢
   obtain ⟨⟨k1, k2⟩, ⟨k3, k4⟩, ok⟩ := r
   exact rn_19t al ah bl bh (max al 0) k1 k2 k3 k4 ok (by omega) h1 hn w
  ·have h1 := fun w => z4x al ah 0 9223372036854775807 (by omega) w
   unfold belV
   rw [if_neg (fun x => hx x.1)]
   exact rn_19e al ah bl bh (by omega) h1 w
def rn_20t := fun al ah bl bh x k1 k2 k3 k4 ok hb H1 => (@z64 al ah bl bh x k1 k2 k3 k4 ok hb H1).2
theorem zJt (al ah bl bh : Int) (pal : -9223372036854775808 ≤ al) (qal : al ≤ 9223372036854775807) (pah : -9223372036854775808 ≤ ah) (qah : ah ≤ 9223372036854775807) (pbl : -9223372036854775808 ≤ bl) (qbl : bl ≤ 9223372036854775807) (pbh : -9223372036854775808 ≤ bh) (qbh : bh ≤ 9223372036854775807) (oa : al ≤ ah) (ob : bl ≤ bh) (w : World) : Calls Tryz.prog 31 #[vI vK 20, .agg #[vI vK al, vI vK ah], .agg #[vI vK bl, vI vK bh]] w fun e w' => e = .returned (.tuple #[.agg #[vI vK (((narV 20 al ah bl bh).1).1), vI vK (((narV 20 al ah bl bh).1).2)], .agg #[vI vK (((narV 20 al ah bl bh).2.1).1), vI vK (((narV 20 al ah bl bh).2.1).2)], .bool ((narV 20 al ah bl bh).2.2)]) ∧ Below w.heap.size w w' := by
 rw [zAy]
 unfold unsV
 by_cases hb : bl < 0
 ·rw [if_pos hb]
  exact rn_20b al ah bl bh hb w
 ·rw [if_neg hb]
  by_cases hx : max al 0 ≤ ah
  ·have h1 := fun w => z44 al ah 0 9223372036854775807 (by omega) w
   rw [show min ah 9223372036854775807 = ah by omega] at h1
   have hn := fun w => zDw bl bh (max al 0) ah pbl qbl pbh qbh (by omega) (by omega) pah qah ob hx w
   rw [z8q] at hn
   unfold z5b at hn
   generalize belV 0 (max al 0) ah bl bh = r at hn ⊢
   obtain ⟨⟨k1, k2⟩, ⟨k3, k4⟩, ok⟩ := r
   exact rn_20t al ah bl bh (max al 0) k1 k2 k3 k4 ok (by omega) h1 hn w
  ·have h1 := fun w => z4x al ah 0 9223372036854775807 (by omega) w
   unfold belV
   rw [if_neg (fun x => hx x.1)]
   exact rn_20e al ah bl bh (by omega) h1 w
theorem z3p (al ah bl bh : Int) (pal : -9223372036854775808 ≤ al) (qal : al ≤ 9223372036854775807) (pah : -9223372036854775808 ≤ ah) (qah : ah ≤ 9223372036854775807) (pbl : -9223372036854775808 ≤ bl) (qbl : bl ≤ 9223372036854775807) (pbh : -9223372036854775808 ≤ bh) (qbh : bh ≤ 9223372036854775807) (oa : al ≤ ah) (ob : bl ≤ bh) (w : World) : (Calls Tryz.prog 31 #[vI vK 23, .agg #[vI vK al, vI vK ah], .agg #[vI vK bl, vI vK bh]] w fun e w' => e = .returned (.tuple #[.agg #[vI vK (((narV 23 al ah bl bh).1).1), vI vK (((narV 23 al ah bl bh).1).2)], .agg #[vI vK (((narV 23 al ah bl bh).2.1).1), vI vK (((narV 23 al ah bl bh).2.1).2)], .bool ((narV 23 al ah bl bh).2.2)]) ∧ Below w.heap.size w w') ∧ (Calls Tryz.prog 31 #[vI vK 24, .agg #[vI vK al, vI vK ah], .agg #[vI vK bl, vI vK bh]] w fun e w' => e = .returned (.tuple #[.agg #[vI vK (((narV 24 al ah bl bh).1).1), vI vK (((narV 24 al ah bl bh).1).2)], .agg #[vI vK (((narV 24 al ah bl bh).2.1).1), vI vK (((narV 24 al ah bl bh).2.1).2)], .bool ((narV 24 al ah bl bh).2.2)]) ∧ Below w.heap.size w w') ∧ (Calls Tryz.prog 31 #[vI vK 17, .agg #[vI vK al, vI vK ah], .agg #[vI vK bl, vI vK bh]] w fun e w' => e = .returned (.tuple #[.agg #[vI vK (((narV 17 al ah bl bh).1).1), vI vK (((narV 17 al ah bl bh).1).2)], .agg #[vI vK (((narV 17 al ah bl bh).2.1).1), vI vK (((narV 17 al ah bl bh).2.1).2)], .bool ((narV 17 al ah bl bh).2.2)]) ∧ Below w.heap.size w w') ∧ (Calls Tryz.prog 31 #[vI vK 18, .agg #[vI vK al, vI vK ah], .agg #[vI vK bl, vI vK bh]] w fun e w' => e = .returned (.tuple #[.agg #[vI vK (((narV 18 al ah bl bh).1).1), vI vK (((narV 18 al ah bl bh).1).2)], .agg #[vI vK (((narV 18 al ah bl bh).2.1).1), vI vK (((narV 18 al ah bl bh).2.1).2)], .bool ((narV 18 al ah bl bh).2.2)]) ∧ Below w.heap.size w w') := by
 refine ⟨?_, ?_, ?_, ?_⟩
 rw [zEv]
 have hn := fun w => zDx bl bh al ah pbl qbl pbh qbh pal qal pah qah ob oa w
 rw [z8r] at hn
 unfold z5b at hn
 generalize belV 1 al ah bl bh = r at hn ⊢
 obtain ⟨⟨k1, k2⟩, ⟨k3, k4⟩, ok⟩ := r
 have H : Hid (∀ w : World, Calls Tryz.prog 31 #[vI vK 21, .agg #[vI vK bl, vI vK bh], .agg #[vI vK al, vI vK ah]] w fun e w' => e = .returned (.tuple #[.agg #[vI vK k3, vI vK k4], .agg #[vI vK k1, vI vK k2], .bool ok]) ∧ Below w.heap.size w w') := hn
 rotate_left
 rw [zEu]
 have hn := fun w => zDw bl bh al ah pbl qbl pbh qbh pal qal pah qah ob oa w
 rw [z8q] at hn
 unfold z5b at hn
 generalize belV 0 al ah bl bh = r at hn ⊢
 obtain ⟨⟨k1, k2⟩, ⟨k3, k4⟩, ok⟩ := r
 have H : Hid (∀ w : World, Calls Tryz.prog 31 #[vI vK 22, .agg #[vI vK bl, vI vK bh], .agg #[vI vK al, vI vK ah]] w fun e w' => e = .returned (.tuple #[.agg #[vI vK k3, vI vK k4], .agg #[vI vK k1, vI vK k2], .bool ok]) ∧ Below w.heap.size w w') := hn
 rotate_left
 rw [zEx]
 have hn := fun w => zJu bl bh al ah pbl qbl pbh qbh pal qal pah qah ob oa w
 rw [zAz] at hn
 unfold z5b
 generalize unsV 1 bl bh al ah = r at hn ⊢
 obtain ⟨⟨k3, k4⟩, ⟨k1, k2⟩, ok⟩ := r
 have H : Hid (∀ w : World, Calls Tryz.prog 31 #[vI vK 19, .agg #[vI vK bl, vI vK bh], .agg #[vI vK al, vI vK ah]] w fun e w' => e = .returned (.tuple #[.agg #[vI vK k3, vI vK k4], .agg #[vI vK k1, vI vK k2], .bool ok]) ∧ Below w.heap.size w w') := hn
 rotate_left
 rw [zEw]
 have hn := fun w => zJt bl bh al ah pbl qbl pbh qbh pal qal pah qah ob oa w
 rw [zAy] at hn
 unfold z5b
 generalize unsV 0 bl bh al ah = r at hn ⊢
 obtain ⟨⟨k3, k4⟩, ⟨k1, k2⟩, ok⟩ := r
 have H : Hid (∀ w : World, Calls Tryz.prog 31 #[vI vK 20, .agg #[vI vK bl, vI vK bh], .agg #[vI vK al, vI vK ah]] w fun e w' => e = .returned (.tuple #[.agg #[vI vK k3, vI vK k4], .agg #[vI vK k1, vI vK k2], .bool ok]) ∧ Below w.heap.size w w') := hn
 rotate_left
 all_goals
  clear hn
 all_goals
  go_enter Tryz.func31, Tryz.ntmps31
  go_wp2_with (first | (go_at_call 31; go_must (refine (H.out _).mono ?_; rintro e w1 ⟨rfl, hb1⟩; have hX1 : Quad w.heap.size al ah bl bh w1 := Quad.later (by first | exact hX1 | (refine ⟨?_, ?_, ?_, ?_, ?_, ?_, ?_, ?_, ?_, ?_, ?_, ?_, ?_, ?_, ?_, ?_, ?_⟩ <;> simp [go_sem])) hb1; have hbw1 : Below w.heap.size w w1 := (by ((refine Below.trans ?_ (hb1.mono ?_)) <;> repeat' first | exact bF _ _ | refine bA ?_ ?_ _ | refine bS ?_ ?_ _ | refine bD ?_ | refine below_drewN ?_ _ | (simp; done) | (simp; omega) | (simp [z00]; done) | (simp [z00]; omega) | omega)); have hY := hX1; obtain ⟨t0, a0, a1, af0, af1, b0, b1, bf0, bf1, r0, r1, rf0, rf1, s0, s1, sf0, sf1⟩ := hY; have sz00 : w.heap.size < w1.heap.size := (by omega); have sz01 : w.heap.size < w1.heap.size + 1 := (by omega); have sz02 : w.heap.size < w1.heap.size + 1 + 1 := (by omega); have sz03 : w.heap.size < w1.heap.size + 1 + 1 + 1 := (by omega); have sz10 : w.heap.size + 1 < w1.heap.size := (by omega); have sz11 : w.heap.size + 1 < w1.heap.size + 1 := (by omega); have sz12 : w.heap.size + 1 < w1.heap.size + 1 + 1 := (by omega); have sz13 : w.heap.size + 1 < w1.heap.size + 1 + 1 + 1 := (by omega); have sz20 : w.heap.size + 1 + 1 < w1.heap.size := (by omega); have sz21 : w.heap.size + 1 + 1 < w1.heap.size + 1 := (by omega); have sz22 : w.heap.size + 1 + 1 < w1.heap.size + 1 + 1 := (by omega); have sz23 : w.heap.size + 1 + 1 < w1.heap.size + 1 + 1 + 1 := (by omega); have sz30 : w.heap.size + 1 + 1 + 1 < w1.heap.size := (by omega); have sz31 : w.heap.size + 1 + 1 + 1 < w1.heap.size + 1 := (by omega); have sz32 : w.heap.size + 1 + 1 + 1 < w1.heap.size + 1 + 1 := (by omega); have sz33 : w.heap.size + 1 + 1 + 1 < w1.heap.size + 1 + 1 + 1 := (by omega))))
  all_goals go_region
  all_goals go_wp2
  all_goals exact bodyPost_ret (v := .tuple #[.agg #[vI vK k1, vI vK k2], .agg #[vI vK k3, vI vK k4], .bool ok]) (by simp [results, Tryz.results31, go_sem, r0, r1, s0, s1, sz10, sz20, sz30]) rfl ⟨rfl, by repeat' first | exact bF _ _ | exact hbw1 | refine bA ?_ ?_ _ | refine bS ?_ ?_ _ | refine bD ?_ | refine below_drewN ?_ _ | (simp; done) | (simp; omega) | (simp [z00]; done) | (simp [z00]; omega) | omega⟩
def zRt := fun al ah bl bh pal qal pah qah pbl qbl pbh qbh oa ob w => (@z3p al ah bl bh pal qal pah qah pbl qbl pbh qbh oa ob w).1
def zRs := fun al ah bl bh pal qal pah qah pbl qbl pbh qbh oa ob w => (@z3p al ah bl bh pal qal pah qah pbl qbl pbh qbh oa ob w).2.1
def zRv := fun al ah bl bh pal qal pah qah pbl qbl pbh qbh oa ob w => (@z3p al ah bl bh pal qal pah qah pbl qbl pbh qbh oa ob w).2.2.1
def zRu := fun al ah bl bh pal qal pah qah pbl qbl pbh qbh oa ob w => (@z3p al ah bl bh pal qal pah qah pbl qbl pbh qbh oa ob w).2.2.2
theorem zHj (c al ah bl bh : Int) (pal : -9223372036854775808 ≤ al) (qal : al ≤ 9223372036854775807) (pah : -9223372036854775808 ≤ ah) (qah : ah ≤ 9223372036854775807) (pbl : -9223372036854775808 ≤ bl) (qbl : bl ≤ 9223372036854775807) (pbh : -9223372036854775808 ≤ bh) (qbh : bh ≤ 9223372036854775807) (oa : al ≤ ah) (ob : bl ≤ bh) (w : World) : Calls Tryz.prog 31 #[vI vK c, .agg #[vI vK al, vI vK ah], .agg #[vI vK bl, vI vK bh]] w fun e w' => e = .returned (.tuple #[.agg #[vI vK (((narV c al ah bl bh).1).1), vI vK (((narV c al ah bl bh).1).2)], .agg #[vI vK (((narV c al ah bl bh).2.1).1), vI vK (((narV c al ah bl bh).2.1).2)], .bool ((narV c al ah bl bh).2.2)]) ∧ Below w.heap.size w w' := by
 by_cases hc : c < 15 ∨ 24 < c
 ·rw [zL9 al ah bl bh hc]
  exact zRr c al ah bl bh hc w
 ·have e : c = 15 ∨ c = 16 ∨ c = 17 ∨ c = 18 ∨ c = 19 ∨ c = 20 ∨ c = 21 ∨ c = 22 ∨ c = 23 ∨ c = 24 := by omega
  rcases e with rfl | rfl | rfl | rfl | rfl | rfl | rfl | rfl | rfl | rfl
  ·exact zRx al ah bl bh pal qal pah qah pbl qbl pbh qbh oa ob w
  ·exact zRw al ah bl bh pal qal pah qah pbl qbl pbh qbh oa ob w
  ·exact zRv al ah bl bh pal qal pah qah pbl qbl pbh qbh oa ob w
  ·exact zRu al ah bl bh pal qal pah qah pbl qbl pbh qbh oa ob w
  ·exact zJu al ah bl bh pal qal pah qah pbl qbl pbh qbh oa ob w
  ·exact zJt al ah bl bh pal qal pah qah pbl qbl pbh qbh oa ob w
  ·exact zDx al ah bl bh pal qal pah qah pbl qbl pbh qbh oa ob w
  ·exact zDw al ah bl bh pal qal pah qah pbl qbl pbh qbh oa ob w
  ·exact zRt al ah bl bh pal qal pah qah pbl qbl pbh qbh oa ob w
  ·exact zRs al ah bl bh pal qal pah qah pbl qbl pbh qbh oa ob w
theorem zRg (c : Int) (h : 15 ≤ c ∧ c ≤ 24) (w : World) : Calls Tryz.prog 30 #[vI vK c] w fun e w' => e = .returned (vI vK (oppV c)) ∧ Below w.heap.size w w' := by
 have e : c = 15 ∨ c = 16 ∨ c = 17 ∨ c = 18 ∨ c = 19 ∨ c = 20 ∨ c = 21 ∨ c = 22 ∨ c = 23 ∨ c = 24 := by omega
 rcases e with rfl | rfl | rfl | rfl | rfl | rfl | rfl | rfl | rfl | rfl
 ·exact zRq w
 ·exact zRp w
 ·exact zRo w
 ·exact zRn w
 ·exact zRm w
 ·exact zRl w
 ·exact zRk w
 ·exact zRj w
 ·exact zRi w
 ·exact zRh w
end Go.Proofs.YteenhdoaminkeaaGreatDoor
