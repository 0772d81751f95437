/-
  What bound.Narrow, bound.Meet and bound.Opposite return, by one function on integers each; the world below is as it was. Conditions: the ends are numbers of 64 bits, the low end not above the high one. Plain facts on what is left of two bounds: numbers of which what is asked is so are in it, and it is no more than there was; no program is named here. Conditions: the numbers are of 64 bits, and between the ends. A way of a verifier, on plain numbers: which ways lead on from a step that asks: a machine of which what is known is so goes one of them. No program is named here. Conditions: the ends are of 64 bits; the step is right. What is wrong with a step, as a function on its six fields: what op.wrong and op.hasMore return, and what the document's own answer returns; the world below is as it was. Conditions: none on the fields. What op.wrong and the document's own wrong return at every step: the same function on the six fields and on how many steps stand behind; the world below is as it was. Conditions: none. What op.wrong returns at steps whose code and registers are such as there are: by classes of codes; the world below is as it was. Conditions: as each says.
-/
import Derived.Test.YtednmkhdehlojaaGreatDoorJd3
import Derived.Test.YtednmkhdehlojaaGreatDoorJd2
import Derived.Test.YtednmkhdehlojaaGreatDoorRows
import Derived.WalkKit
import Derived.ProofKit
import Derived.OpenShut
import Derived.WalkLawsBesides
import Derived.BigCall
import Derived.BigGuardPart
open Go.Value renaming int → vI
open Go.IntKind renaming i64 → vK
open Go.RowKit.Below renaming alloc → bA, setCell → bS, drew → bD, refl → bF
set_option maxHeartbeats 4000000
set_option maxRecDepth 1000000
namespace Go.Proofs.YtednmkhdehlojaaGreatDoor
open Go.ChangeShapes Go.WideShapes Go.ChangeAt Go.RowKit
set_option linter.unusedVariables false
theorem setCell_size (w : World) (a : Addr) (v : Value) : (w.setCell a v).heap.size = w.heap.size := by simp [World.setCell]
attribute [local simp] drew_size drewN_size setCell_size
theorem bd_later_box {W w1 : World} (hb : Below W.heap.size W w1) (n : Nat) (h : n < W.heap.size) : n < w1.heap.size ∧ w1.cell? ⟨n, 0, none⟩ = W.cell? ⟨n, 0, none⟩ ∧ w1.cell? ⟨n, 1, none⟩ = W.cell? ⟨n, 1, none⟩ ∧ w1.frozen? ⟨n, 0, none⟩ = W.frozen? ⟨n, 0, none⟩ ∧ w1.frozen? ⟨n, 1, none⟩ = W.frozen? ⟨n, 1, none⟩ :=
  ⟨Nat.lt_of_lt_of_le h hb.size, hb.cell (p := ⟨n, 0, none⟩) h, hb.cell (p := ⟨n, 1, none⟩) h, hb.frozen (p := ⟨n, 0, none⟩) h, hb.frozen (p := ⟨n, 1, none⟩) h⟩
def meetV (al ah bl bh : Int) : (Int × Int) × Bool := if max al bl ≤ min ah bh then ((max al bl, min ah bh), true) else ((0, 0), false)
def belV (g al ah bl bh : Int) : (Int × Int) × (Int × Int) × Bool := if al ≤ ah ∧ al + g ≤ bh then ((al, min ah (bh - g)), (max bl (al + g), bh), true) else ((0, 0), (0, 0), false)
def unsV (g al ah bl bh : Int) : (Int × Int) × (Int × Int) × Bool := if bl < 0 then ((al, ah), (bl, bh), true) else belV g (max al 0) ah bl bh
def apV (al ah bl bh : Int) : (Int × Int) × (Int × Int) × Bool := if al = bl ∧ ah = bh ∧ ah = al then ((0, 0), (0, 0), false) else (cutV al ah bl bh, cutV bl bh al ah, true)
def swapV (x : (Int × Int) × (Int × Int) × Bool) : (Int × Int) × (Int × Int) × Bool := (x.2.1, x.1, x.2.2)
def narV (c al ah bl bh : Int) : (Int × Int) × (Int × Int) × Bool :=
  if c = 15 then ((meetV al ah bl bh).1, (meetV al ah bl bh).1, (meetV al ah bl bh).2) else if c = 16 then apV al ah bl bh
  else if c = 17 then swapV (unsV 1 bl bh al ah) else if c = 18 then swapV (unsV 0 bl bh al ah) else if c = 19 then unsV 1 al ah bl bh else if c = 20 then unsV 0 al ah bl bh
  else if c = 21 then swapV (belV 1 bl bh al ah) else if c = 22 then swapV (belV 0 bl bh al ah) else if c = 23 then belV 1 al ah bl bh else if c = 24 then belV 0 al ah bl bh
  else ((al, ah), (bl, bh), true)
theorem narV_15 (al ah bl bh : Int) : narV 15 al ah bl bh = ((meetV al ah bl bh).1, (meetV al ah bl bh).1, (meetV al ah bl bh).2) := by simp only [narV, reduceIte, Int.reduceEq]
theorem narV_16 (al ah bl bh : Int) : narV 16 al ah bl bh = apV al ah bl bh := by simp only [narV, reduceIte, Int.reduceEq]
theorem narV_17 (al ah bl bh : Int) : narV 17 al ah bl bh = swapV (unsV 1 bl bh al ah) := by simp only [narV, reduceIte, Int.reduceEq]
theorem narV_18 (al ah bl bh : Int) : narV 18 al ah bl bh = swapV (unsV 0 bl bh al ah) := by simp only [narV, reduceIte, Int.reduceEq]
theorem narV_19 (al ah bl bh : Int) : narV 19 al ah bl bh = unsV 1 al ah bl bh := by simp only [narV, reduceIte, Int.reduceEq]
theorem narV_20 (al ah bl bh : Int) : narV 20 al ah bl bh = unsV 0 al ah bl bh := by simp only [narV, reduceIte, Int.reduceEq]
theorem narV_21 (al ah bl bh : Int) : narV 21 al ah bl bh = swapV (belV 1 bl bh al ah) := by simp only [narV, reduceIte, Int.reduceEq]
theorem narV_22 (al ah bl bh : Int) : narV 22 al ah bl bh = swapV (belV 0 bl bh al ah) := by simp only [narV, reduceIte, Int.reduceEq]
theorem narV_23 (al ah bl bh : Int) : narV 23 al ah bl bh = belV 1 al ah bl bh := by simp only [narV, reduceIte, Int.reduceEq]
theorem narV_24 (al ah bl bh : Int) : narV 24 al ah bl bh = belV 0 al ah bl bh := by simp only [narV, reduceIte, Int.reduceEq]
theorem narV_no {c : Int} (al ah bl bh : Int) (h : c < 15 ∨ 24 < c) : narV c al ah bl bh = ((al, ah), (bl, bh), true) := by
  have e : ∀ k : Int, 15 ≤ k → k ≤ 24 → c ≠ k := fun k h1 h2 => by omega
  unfold narV
  rw [if_neg (e 15 (by decide) (by decide)), if_neg (e 16 (by decide) (by decide)), if_neg (e 17 (by decide) (by decide)), if_neg (e 18 (by decide) (by decide)), if_neg (e 19 (by decide) (by decide)), if_neg (e 20 (by decide) (by decide)), if_neg (e 21 (by decide) (by decide)), if_neg (e 22 (by decide) (by decide)), if_neg (e 23 (by decide) (by decide)), if_neg (e 24 (by decide) (by decide))]
theorem meet_is (al ah bl bh : Int) (w : World) : Calls Tryz.prog 214 #[.agg #[vI vK al, vI vK ah], .agg #[vI vK bl, vI vK bh]] w fun e w' => e = .returned (.tuple #[.agg #[vI vK (((meetV al ah bl bh).1).1), vI vK (((meetV al ah bl bh).1).2)], .bool ((meetV al ah bl bh).2)]) ∧ Below w.heap.size w w' := by
  unfold meetV
  by_cases h : max al bl ≤ min ah bh
  · rw [if_pos h]
    exact meet_yes al ah bl bh h w
  · rw [if_neg h]
    exact meet_no al ah bl bh (by omega) w
theorem asks_19 {x y : Int} (h0 : 0 ≤ x) (h1 : x ≤ 9223372036854775807) (h2 : 0 ≤ y) (h3 : y ≤ 9223372036854775807) : isV 19 x y = decide (x < y) := by
  rw [isV_19]; have a := uns_pos h0 h1; have b := uns_pos h2 h3; congr 1; rw [eq_iff_iff]; omega
theorem asks_20 {x y : Int} (h0 : 0 ≤ x) (h1 : x ≤ 9223372036854775807) (h2 : 0 ≤ y) (h3 : y ≤ 9223372036854775807) : isV 20 x y = decide (x ≤ y) := by
  rw [isV_20]; have a := uns_pos h0 h1; have b := uns_pos h2 h3; congr 1; rw [eq_iff_iff]; omega
theorem below_19 (al ah bl bh : Int) (pal : -9223372036854775808 ≤ al) (qal : al ≤ 9223372036854775807) (pah : -9223372036854775808 ≤ ah) (qah : ah ≤ 9223372036854775807) (pbl : -9223372036854775808 ≤ bl) (qbl : bl ≤ 9223372036854775807) (pbh : -9223372036854775808 ≤ bh) (qbh : bh ≤ 9223372036854775807) (oa : al ≤ ah) (ob : bl ≤ bh) (w : World) : Calls Tryz.prog 216 #[vI vK 19, .agg #[vI vK al, vI vK ah], .agg #[vI vK bl, vI vK bh]] w fun e w' => e = .returned (.tuple #[.agg #[vI vK (((unsV 1 al ah bl bh).1).1), vI vK (((unsV 1 al ah bl bh).1).2)], .agg #[vI vK (((unsV 1 al ah bl bh).2.1).1), vI vK (((unsV 1 al ah bl bh).2.1).2)], .bool ((unsV 1 al ah bl bh).2.2)]) ∧ Below w.heap.size w w' := by
  unfold unsV
  by_cases hb : bl < 0
  · rw [if_pos hb]
    exact below_19n al ah bl bh hb w
  rw [if_neg hb]
  have hb0 : 0 ≤ bl := by omega
  have hi := asks_19 (x := max al 0) (y := bh) (by omega) (by omega) (by omega) qbh
  unfold belV
  by_cases h : max al 0 ≤ ah
  · by_cases h2 : max al 0 < bh
    · rw [if_pos ⟨h, by omega⟩]
      exact below_19t al ah bl bh hb0 h (by rw [hi]; exact decide_eq_true h2) (by omega) (by omega) (by omega) (by omega) w
    · rw [if_neg (fun x => h2 (by omega))]
      exact below_19f al ah bl bh hb0 h (by rw [hi]; exact decide_eq_false h2) w
  · rw [if_neg (fun x => h x.1)]
    exact below_19e al ah bl bh hb0 (by omega) w
theorem below_20 (al ah bl bh : Int) (pal : -9223372036854775808 ≤ al) (qal : al ≤ 9223372036854775807) (pah : -9223372036854775808 ≤ ah) (qah : ah ≤ 9223372036854775807) (pbl : -9223372036854775808 ≤ bl) (qbl : bl ≤ 9223372036854775807) (pbh : -9223372036854775808 ≤ bh) (qbh : bh ≤ 9223372036854775807) (oa : al ≤ ah) (ob : bl ≤ bh) (w : World) : Calls Tryz.prog 216 #[vI vK 20, .agg #[vI vK al, vI vK ah], .agg #[vI vK bl, vI vK bh]] w fun e w' => e = .returned (.tuple #[.agg #[vI vK (((unsV 0 al ah bl bh).1).1), vI vK (((unsV 0 al ah bl bh).1).2)], .agg #[vI vK (((unsV 0 al ah bl bh).2.1).1), vI vK (((unsV 0 al ah bl bh).2.1).2)], .bool ((unsV 0 al ah bl bh).2.2)]) ∧ Below w.heap.size w w' := by
  unfold unsV
  by_cases hb : bl < 0
  · rw [if_pos hb]
    exact below_20n al ah bl bh hb w
  rw [if_neg hb]
  have hb0 : 0 ≤ bl := by omega
  have hi := asks_20 (x := max al 0) (y := bh) (by omega) (by omega) (by omega) qbh
  unfold belV
  by_cases h : max al 0 ≤ ah
  · by_cases h2 : max al 0 ≤ bh
    · rw [if_pos ⟨h, by omega⟩]
      rw [show bh - 0 = bh by omega, show max al 0 + 0 = max al 0 by omega]
      exact below_20t al ah bl bh hb0 h (by rw [hi]; exact decide_eq_true h2) (by omega) (by omega) (by omega) (by omega) w
    · rw [if_neg (fun x => h2 (by omega))]
      exact below_20f al ah bl bh hb0 h (by rw [hi]; exact decide_eq_false h2) w
  · rw [if_neg (fun x => h x.1)]
    exact below_20e al ah bl bh hb0 (by omega) w
theorem below_23 (al ah bl bh : Int) (pal : -9223372036854775808 ≤ al) (qal : al ≤ 9223372036854775807) (pah : -9223372036854775808 ≤ ah) (qah : ah ≤ 9223372036854775807) (pbl : -9223372036854775808 ≤ bl) (qbl : bl ≤ 9223372036854775807) (pbh : -9223372036854775808 ≤ bh) (qbh : bh ≤ 9223372036854775807) (oa : al ≤ ah) (ob : bl ≤ bh) (w : World) : Calls Tryz.prog 216 #[vI vK 23, .agg #[vI vK al, vI vK ah], .agg #[vI vK bl, vI vK bh]] w fun e w' => e = .returned (.tuple #[.agg #[vI vK (((belV 1 al ah bl bh).1).1), vI vK (((belV 1 al ah bl bh).1).2)], .agg #[vI vK (((belV 1 al ah bl bh).2.1).1), vI vK (((belV 1 al ah bl bh).2.1).2)], .bool ((belV 1 al ah bl bh).2.2)]) ∧ Below w.heap.size w w' := by
  have hi := isV_23 al bh
  unfold belV
  by_cases h : al ≤ ah
  · by_cases h2 : al < bh
    · rw [if_pos ⟨h, by omega⟩]
      exact below_23t al ah bl bh h (by rw [hi]; exact decide_eq_true h2) (by omega) (by omega) (by omega) (by omega) w
    · rw [if_neg (fun x => h2 (by omega))]
      exact below_23f al ah bl bh h (by rw [hi]; exact decide_eq_false h2) w
  · rw [if_neg (fun x => h x.1)]
    exact below_23e al ah bl bh (by omega) w
theorem below_24 (al ah bl bh : Int) (pal : -9223372036854775808 ≤ al) (qal : al ≤ 9223372036854775807) (pah : -9223372036854775808 ≤ ah) (qah : ah ≤ 9223372036854775807) (pbl : -9223372036854775808 ≤ bl) (qbl : bl ≤ 9223372036854775807) (pbh : -9223372036854775808 ≤ bh) (qbh : bh ≤ 9223372036854775807) (oa : al ≤ ah) (ob : bl ≤ bh) (w : World) : Calls Tryz.prog 216 #[vI vK 24, .agg #[vI vK al, vI vK ah], .agg #[vI vK bl, vI vK bh]] w fun e w' => e = .returned (.tuple #[.agg #[vI vK (((belV 0 al ah bl bh).1).1), vI vK (((belV 0 al ah bl bh).1).2)], .agg #[vI vK (((belV 0 al ah bl bh).2.1).1), vI vK (((belV 0 al ah bl bh).2.1).2)], .bool ((belV 0 al ah bl bh).2.2)]) ∧ Below w.heap.size w w' := by
  have hi := isV_24 al bh
  unfold belV
  by_cases h : al ≤ ah
  · by_cases h2 : al ≤ bh
    · rw [if_pos ⟨h, by omega⟩]
      rw [show bh - 0 = bh by omega, show al + 0 = al by omega]
      exact below_24t al ah bl bh h (by rw [hi]; exact decide_eq_true h2) (by omega) (by omega) (by omega) (by omega) w
    · rw [if_neg (fun x => h2 (by omega))]
      exact below_24f al ah bl bh h (by rw [hi]; exact decide_eq_false h2) w
  · rw [if_neg (fun x => h x.1)]
    exact below_24e al ah bl bh (by omega) w
theorem apart_is (al ah bl bh : Int) (pal : -9223372036854775808 ≤ al) (qal : al ≤ 9223372036854775807) (pah : -9223372036854775808 ≤ ah) (qah : ah ≤ 9223372036854775807) (pbl : -9223372036854775808 ≤ bl) (qbl : bl ≤ 9223372036854775807) (pbh : -9223372036854775808 ≤ bh) (qbh : bh ≤ 9223372036854775807) (oa : al ≤ ah) (ob : bl ≤ bh) (w : World) : Calls Tryz.prog 215 #[.agg #[vI vK al, vI vK ah], .agg #[vI vK bl, vI vK bh]] w fun e w' => e = .returned (.tuple #[.agg #[vI vK (((apV al ah bl bh).1).1), vI vK (((apV al ah bl bh).1).2)], .agg #[vI vK (((apV al ah bl bh).2.1).1), vI vK (((apV al ah bl bh).2.1).2)], .bool ((apV al ah bl bh).2.2)]) ∧ Below w.heap.size w w' := by
  unfold apV
  by_cases h0 : al = bl
  · subst h0
    by_cases h1 : ah = bh
    · subst h1
      by_cases h2 : ah = al
      · rw [if_pos ⟨rfl, rfl, h2⟩]
        subst h2
        exact apart_no ah w
      · rw [if_neg (fun x => h2 x.2.2)]
        exact apart_y1 al ah pal qal pah qah oa h2 w
    · rw [if_neg (fun x => h1 x.2.1)]
      exact apart_y3 al ah bh pal qal pah qah pbh qbh oa ob h1 w
  · rw [if_neg (fun x => h0 x.1)]
    exact apart_y2 al ah bl bh pal qal pah qah pbl qbl pbh qbh oa ob h0 w
def Outs (n L U : Nat) (x0 x1 y0 y1 : Int) (w : World) : Prop :=
  w.cell? ⟨n + 1 + 1, 0, none⟩ = some (vI vK 0) ∧ w.cell? ⟨n + 1 + 1, 1, none⟩ = some (vI vK 0) ∧ w.frozen? ⟨n + 1 + 1, 0, none⟩ = false ∧ w.frozen? ⟨n + 1 + 1, 1, none⟩ = false
  ∧ w.cell? ⟨n + 1 + 1 + 1, 0, none⟩ = some (vI vK 0) ∧ w.cell? ⟨n + 1 + 1 + 1, 1, none⟩ = some (vI vK 0) ∧ w.frozen? ⟨n + 1 + 1 + 1, 0, none⟩ = false ∧ w.frozen? ⟨n + 1 + 1 + 1, 1, none⟩ = false
  ∧ w.cell? ⟨L, 0, none⟩ = some (vI vK x0) ∧ w.cell? ⟨L, 1, none⟩ = some (vI vK x1) ∧ w.cell? ⟨U, 0, none⟩ = some (vI vK y0) ∧ w.cell? ⟨U, 1, none⟩ = some (vI vK y1)
  ∧ L ≠ n + 1 + 1 ∧ L ≠ n + 1 + 1 + 1 ∧ U ≠ n + 1 + 1 ∧ U ≠ n + 1 + 1 + 1
theorem nar_15 (al ah bl bh : Int) (pal : -9223372036854775808 ≤ al) (qal : al ≤ 9223372036854775807) (pah : -9223372036854775808 ≤ ah) (qah : ah ≤ 9223372036854775807) (pbl : -9223372036854775808 ≤ bl) (qbl : bl ≤ 9223372036854775807) (pbh : -9223372036854775808 ≤ bh) (qbh : bh ≤ 9223372036854775807) (oa : al ≤ ah) (ob : bl ≤ bh) (w : World) : Calls Tryz.prog 198 #[vI vK 15, .agg #[vI vK al, vI vK ah], .agg #[vI vK bl, vI vK bh]] w fun e w' => e = .returned (.tuple #[.agg #[vI vK (((meetV al ah bl bh).1).1), vI vK (((meetV al ah bl bh).1).2)], .agg #[vI vK (((meetV al ah bl bh).1).1), vI vK (((meetV al ah bl bh).1).2)], .bool ((meetV al ah bl bh).2)]) ∧ Below w.heap.size w w' := by
  go_enter Tryz.func198, Tryz.ntmps198
  go_wp2_with (first | (go_at_call 214; go_must (refine (meet_is _ _ _ _ _).mono ?_; rintro e w1 ⟨rfl, hb1⟩; have hX1 : Quad w.heap.size al ah bl bh w1 := Quad.later (by first | exact hX1 | (refine ⟨?_, ?_, ?_, ?_, ?_, ?_, ?_, ?_, ?_, ?_, ?_, ?_, ?_, ?_, ?_, ?_, ?_⟩ <;> simp [go_sem])) hb1; have hbw1 : Below w.heap.size w w1 := (by ((refine Below.trans ?_ (hb1.mono ?_)) <;> repeat' first | exact bF _ _ | exact hbw1 | refine bA ?_ ?_ _ | refine bS ?_ ?_ _ | refine bD ?_ | refine below_drewN ?_ _ | (simp; done) | (simp; omega) | (simp [drew_size]; done) | (simp [drew_size]; omega) | omega)); have hY := hX1; obtain ⟨t0, a0, a1, af0, af1, b0, b1, bf0, bf1, r0, r1, rf0, rf1, s0, s1, sf0, sf1⟩ := hY; have u2 : w.heap.size + 1 + 1 < w1.heap.size := (by omega); have u0 : w.heap.size < w1.heap.size := (by omega); have u1 : w.heap.size + 1 < w1.heap.size := (by omega))))
  all_goals go_region
  all_goals go_wp2
  all_goals exact bodyPost_ret (v := .tuple #[.agg #[vI vK (((meetV al ah bl bh).1).1), vI vK (((meetV al ah bl bh).1).2)], .agg #[vI vK (((meetV al ah bl bh).1).1), vI vK (((meetV al ah bl bh).1).2)], .bool ((meetV al ah bl bh).2)]) (by simp [results, Tryz.results198, go_sem, r0, r1, s0, s1, u2, t0]) rfl ⟨rfl, by repeat' first | exact bF _ _ | exact hbw1 | refine bA ?_ ?_ _ | refine bS ?_ ?_ _ | refine bD ?_ | refine below_drewN ?_ _ | (simp; done) | (simp; omega) | (simp [drew_size]; done) | (simp [drew_size]; omega) | omega⟩
theorem nar_16 (al ah bl bh : Int) (pal : -9223372036854775808 ≤ al) (qal : al ≤ 9223372036854775807) (pah : -9223372036854775808 ≤ ah) (qah : ah ≤ 9223372036854775807) (pbl : -9223372036854775808 ≤ bl) (qbl : bl ≤ 9223372036854775807) (pbh : -9223372036854775808 ≤ bh) (qbh : bh ≤ 9223372036854775807) (oa : al ≤ ah) (ob : bl ≤ bh) (w : World) : Calls Tryz.prog 198 #[vI vK 16, .agg #[vI vK al, vI vK ah], .agg #[vI vK bl, vI vK bh]] w fun e w' => e = .returned (.tuple #[.agg #[vI vK (((apV al ah bl bh).1).1), vI vK (((apV al ah bl bh).1).2)], .agg #[vI vK (((apV al ah bl bh).2.1).1), vI vK (((apV al ah bl bh).2.1).2)], .bool ((apV al ah bl bh).2.2)]) ∧ Below w.heap.size w w' := by
  go_enter Tryz.func198, Tryz.ntmps198
  go_wp2_with (first | (go_at_call 215; go_must (refine (apart_is _ _ _ _ pal qal pah qah pbl qbl pbh qbh oa ob _).mono ?_; rintro e w1 ⟨rfl, hb1⟩; have hX1 : Quad w.heap.size al ah bl bh w1 := Quad.later (by first | exact hX1 | (refine ⟨?_, ?_, ?_, ?_, ?_, ?_, ?_, ?_, ?_, ?_, ?_, ?_, ?_, ?_, ?_, ?_, ?_⟩ <;> simp [go_sem])) hb1; have hbw1 : Below w.heap.size w w1 := (by ((refine Below.trans ?_ (hb1.mono ?_)) <;> repeat' first | exact bF _ _ | exact hbw1 | refine bA ?_ ?_ _ | refine bS ?_ ?_ _ | refine bD ?_ | refine below_drewN ?_ _ | (simp; done) | (simp; omega) | (simp [drew_size]; done) | (simp [drew_size]; omega) | omega)); have hY := hX1; obtain ⟨t0, a0, a1, af0, af1, b0, b1, bf0, bf1, r0, r1, rf0, rf1, s0, s1, sf0, sf1⟩ := hY; have u2 : w.heap.size + 1 + 1 < w1.heap.size := (by omega); have u0 : w.heap.size < w1.heap.size := (by omega); have u1 : w.heap.size + 1 < w1.heap.size := (by omega))))
  all_goals exact bodyPost_ret (v := .tuple #[.agg #[vI vK (((apV al ah bl bh).1).1), vI vK (((apV al ah bl bh).1).2)], .agg #[vI vK (((apV al ah bl bh).2.1).1), vI vK (((apV al ah bl bh).2.1).2)], .bool ((apV al ah bl bh).2.2)]) (by simp [results, Tryz.results198, go_sem, r0, r1, s0, s1]) rfl ⟨rfl, by repeat' first | exact bF _ _ | exact hbw1 | refine bA ?_ ?_ _ | refine bS ?_ ?_ _ | refine bD ?_ | refine below_drewN ?_ _ | (simp; done) | (simp; omega) | (simp [drew_size]; done) | (simp [drew_size]; omega) | omega⟩
theorem nar_19 (al ah bl bh : Int) (pal : -9223372036854775808 ≤ al) (qal : al ≤ 9223372036854775807) (pah : -9223372036854775808 ≤ ah) (qah : ah ≤ 9223372036854775807) (pbl : -9223372036854775808 ≤ bl) (qbl : bl ≤ 9223372036854775807) (pbh : -9223372036854775808 ≤ bh) (qbh : bh ≤ 9223372036854775807) (oa : al ≤ ah) (ob : bl ≤ bh) (w : World) : Calls Tryz.prog 198 #[vI vK 19, .agg #[vI vK al, vI vK ah], .agg #[vI vK bl, vI vK bh]] w fun e w' => e = .returned (.tuple #[.agg #[vI vK (((unsV 1 al ah bl bh).1).1), vI vK (((unsV 1 al ah bl bh).1).2)], .agg #[vI vK (((unsV 1 al ah bl bh).2.1).1), vI vK (((unsV 1 al ah bl bh).2.1).2)], .bool ((unsV 1 al ah bl bh).2.2)]) ∧ Below w.heap.size w w' := by
  go_enter Tryz.func198, Tryz.ntmps198
  go_wp2_with (first | (go_at_call 216; go_must (refine (below_19 _ _ _ _ pal qal pah qah pbl qbl pbh qbh oa ob _).mono ?_; rintro e w1 ⟨rfl, hb1⟩; have hX1 : Quad w.heap.size al ah bl bh w1 := Quad.later (by first | exact hX1 | (refine ⟨?_, ?_, ?_, ?_, ?_, ?_, ?_, ?_, ?_, ?_, ?_, ?_, ?_, ?_, ?_, ?_, ?_⟩ <;> simp [go_sem])) hb1; have hbw1 : Below w.heap.size w w1 := (by ((refine Below.trans ?_ (hb1.mono ?_)) <;> repeat' first | exact bF _ _ | exact hbw1 | refine bA ?_ ?_ _ | refine bS ?_ ?_ _ | refine bD ?_ | refine below_drewN ?_ _ | (simp; done) | (simp; omega) | (simp [drew_size]; done) | (simp [drew_size]; omega) | omega)); have hY := hX1; obtain ⟨t0, a0, a1, af0, af1, b0, b1, bf0, bf1, r0, r1, rf0, rf1, s0, s1, sf0, sf1⟩ := hY; have u2 : w.heap.size + 1 + 1 < w1.heap.size := (by omega); have u0 : w.heap.size < w1.heap.size := (by omega); have u1 : w.heap.size + 1 < w1.heap.size := (by omega))))
  all_goals exact bodyPost_ret (v := .tuple #[.agg #[vI vK (((unsV 1 al ah bl bh).1).1), vI vK (((unsV 1 al ah bl bh).1).2)], .agg #[vI vK (((unsV 1 al ah bl bh).2.1).1), vI vK (((unsV 1 al ah bl bh).2.1).2)], .bool ((unsV 1 al ah bl bh).2.2)]) (by simp [results, Tryz.results198, go_sem, r0, r1, s0, s1]) rfl ⟨rfl, by repeat' first | exact bF _ _ | exact hbw1 | refine bA ?_ ?_ _ | refine bS ?_ ?_ _ | refine bD ?_ | refine below_drewN ?_ _ | (simp; done) | (simp; omega) | (simp [drew_size]; done) | (simp [drew_size]; omega) | omega⟩
theorem nar_20 (al ah bl bh : Int) (pal : -9223372036854775808 ≤ al) (qal : al ≤ 9223372036854775807) (pah : -9223372036854775808 ≤ ah) (qah : ah ≤ 9223372036854775807) (pbl : -9223372036854775808 ≤ bl) (qbl : bl ≤ 9223372036854775807) (pbh : -9223372036854775808 ≤ bh) (qbh : bh ≤ 9223372036854775807) (oa : al ≤ ah) (ob : bl ≤ bh) (w : World) : Calls Tryz.prog 198 #[vI vK 20, .agg #[vI vK al, vI vK ah], .agg #[vI vK bl, vI vK bh]] w fun e w' => e = .returned (.tuple #[.agg #[vI vK (((unsV 0 al ah bl bh).1).1), vI vK (((unsV 0 al ah bl bh).1).2)], .agg #[vI vK (((unsV 0 al ah bl bh).2.1).1), vI vK (((unsV 0 al ah bl bh).2.1).2)], .bool ((unsV 0 al ah bl bh).2.2)]) ∧ Below w.heap.size w w' := by
  go_enter Tryz.func198, Tryz.ntmps198
  go_wp2_with (first | (go_at_call 216; go_must (refine (below_20 _ _ _ _ pal qal pah qah pbl qbl pbh qbh oa ob _).mono ?_; rintro e w1 ⟨rfl, hb1⟩; have hX1 : Quad w.heap.size al ah bl bh w1 := Quad.later (by first | exact hX1 | (refine ⟨?_, ?_, ?_, ?_, ?_, ?_, ?_, ?_, ?_, ?_, ?_, ?_, ?_, ?_, ?_, ?_, ?_⟩ <;> simp [go_sem])) hb1; have hbw1 : Below w.heap.size w w1 := (by ((refine Below.trans ?_ (hb1.mono ?_)) <;> repeat' first | exact bF _ _ | exact hbw1 | refine bA ?_ ?_ _ | refine bS ?_ ?_ _ | refine bD ?_ | refine below_drewN ?_ _ | (simp; done) | (simp; omega) | (simp [drew_size]; done) | (simp [drew_size]; omega) | omega)); have hY := hX1; obtain ⟨t0, a0, a1, af0, af1, b0, b1, bf0, bf1, r0, r1, rf0, rf1, s0, s1, sf0, sf1⟩ := hY; have u2 : w.heap.size + 1 + 1 < w1.heap.size := (by omega); have u0 : w.heap.size < w1.heap.size := (by omega); have u1 : w.heap.size + 1 < w1.heap.size := (by omega))))
  all_goals exact bodyPost_ret (v := .tuple #[.agg #[vI vK (((unsV 0 al ah bl bh).1).1), vI vK (((unsV 0 al ah bl bh).1).2)], .agg #[vI vK (((unsV 0 al ah bl bh).2.1).1), vI vK (((unsV 0 al ah bl bh).2.1).2)], .bool ((unsV 0 al ah bl bh).2.2)]) (by simp [results, Tryz.results198, go_sem, r0, r1, s0, s1]) rfl ⟨rfl, by repeat' first | exact bF _ _ | exact hbw1 | refine bA ?_ ?_ _ | refine bS ?_ ?_ _ | refine bD ?_ | refine below_drewN ?_ _ | (simp; done) | (simp; omega) | (simp [drew_size]; done) | (simp [drew_size]; omega) | omega⟩
theorem nar_23 (al ah bl bh : Int) (pal : -9223372036854775808 ≤ al) (qal : al ≤ 9223372036854775807) (pah : -9223372036854775808 ≤ ah) (qah : ah ≤ 9223372036854775807) (pbl : -9223372036854775808 ≤ bl) (qbl : bl ≤ 9223372036854775807) (pbh : -9223372036854775808 ≤ bh) (qbh : bh ≤ 9223372036854775807) (oa : al ≤ ah) (ob : bl ≤ bh) (w : World) : Calls Tryz.prog 198 #[vI vK 23, .agg #[vI vK al, vI vK ah], .agg #[vI vK bl, vI vK bh]] w fun e w' => e = .returned (.tuple #[.agg #[vI vK (((belV 1 al ah bl bh).1).1), vI vK (((belV 1 al ah bl bh).1).2)], .agg #[vI vK (((belV 1 al ah bl bh).2.1).1), vI vK (((belV 1 al ah bl bh).2.1).2)], .bool ((belV 1 al ah bl bh).2.2)]) ∧ Below w.heap.size w w' := by
  go_enter Tryz.func198, Tryz.ntmps198
  go_wp2_with (first | (go_at_call 216; go_must (refine (below_23 _ _ _ _ pal qal pah qah pbl qbl pbh qbh oa ob _).mono ?_; rintro e w1 ⟨rfl, hb1⟩; have hX1 : Quad w.heap.size al ah bl bh w1 := Quad.later (by first | exact hX1 | (refine ⟨?_, ?_, ?_, ?_, ?_, ?_, ?_, ?_, ?_, ?_, ?_, ?_, ?_, ?_, ?_, ?_, ?_⟩ <;> simp [go_sem])) hb1; have hbw1 : Below w.heap.size w w1 := (by ((refine Below.trans ?_ (hb1.mono ?_)) <;> repeat' first | exact bF _ _ | exact hbw1 | refine bA ?_ ?_ _ | refine bS ?_ ?_ _ | refine bD ?_ | refine below_drewN ?_ _ | (simp; done) | (simp; omega) | (simp [drew_size]; done) | (simp [drew_size]; omega) | omega)); have hY := hX1; obtain ⟨t0, a0, a1, af0, af1, b0, b1, bf0, bf1, r0, r1, rf0, rf1, s0, s1, sf0, sf1⟩ := hY; have u2 : w.heap.size + 1 + 1 < w1.heap.size := (by omega); have u0 : w.heap.size < w1.heap.size := (by omega); have u1 : w.heap.size + 1 < w1.heap.size := (by omega))))
  all_goals exact bodyPost_ret (v := .tuple #[.agg #[vI vK (((belV 1 al ah bl bh).1).1), vI vK (((belV 1 al ah bl bh).1).2)], .agg #[vI vK (((belV 1 al ah bl bh).2.1).1), vI vK (((belV 1 al ah bl bh).2.1).2)], .bool ((belV 1 al ah bl bh).2.2)]) (by simp [results, Tryz.results198, go_sem, r0, r1, s0, s1]) rfl ⟨rfl, by repeat' first | exact bF _ _ | exact hbw1 | refine bA ?_ ?_ _ | refine bS ?_ ?_ _ | refine bD ?_ | refine below_drewN ?_ _ | (simp; done) | (simp; omega) | (simp [drew_size]; done) | (simp [drew_size]; omega) | omega⟩
theorem nar_24 (al ah bl bh : Int) (pal : -9223372036854775808 ≤ al) (qal : al ≤ 9223372036854775807) (pah : -9223372036854775808 ≤ ah) (qah : ah ≤ 9223372036854775807) (pbl : -9223372036854775808 ≤ bl) (qbl : bl ≤ 9223372036854775807) (pbh : -9223372036854775808 ≤ bh) (qbh : bh ≤ 9223372036854775807) (oa : al ≤ ah) (ob : bl ≤ bh) (w : World) : Calls Tryz.prog 198 #[vI vK 24, .agg #[vI vK al, vI vK ah], .agg #[vI vK bl, vI vK bh]] w fun e w' => e = .returned (.tuple #[.agg #[vI vK (((belV 0 al ah bl bh).1).1), vI vK (((belV 0 al ah bl bh).1).2)], .agg #[vI vK (((belV 0 al ah bl bh).2.1).1), vI vK (((belV 0 al ah bl bh).2.1).2)], .bool ((belV 0 al ah bl bh).2.2)]) ∧ Below w.heap.size w w' := by
  go_enter Tryz.func198, Tryz.ntmps198
  go_wp2_with (first | (go_at_call 216; go_must (refine (below_24 _ _ _ _ pal qal pah qah pbl qbl pbh qbh oa ob _).mono ?_; rintro e w1 ⟨rfl, hb1⟩; have hX1 : Quad w.heap.size al ah bl bh w1 := Quad.later (by first | exact hX1 | (refine ⟨?_, ?_, ?_, ?_, ?_, ?_, ?_, ?_, ?_, ?_, ?_, ?_, ?_, ?_, ?_, ?_, ?_⟩ <;> simp [go_sem])) hb1; have hbw1 : Below w.heap.size w w1 := (by ((refine Below.trans ?_ (hb1.mono ?_)) <;> repeat' first | exact bF _ _ | exact hbw1 | refine bA ?_ ?_ _ | refine bS ?_ ?_ _ | refine bD ?_ | refine below_drewN ?_ _ | (simp; done) | (simp; omega) | (simp [drew_size]; done) | (simp [drew_size]; omega) | omega)); have hY := hX1; obtain ⟨t0, a0, a1, af0, af1, b0, b1, bf0, bf1, r0, r1, rf0, rf1, s0, s1, sf0, sf1⟩ := hY; have u2 : w.heap.size + 1 + 1 < w1.heap.size := (by omega); have u0 : w.heap.size < w1.heap.size := (by omega); have u1 : w.heap.size + 1 < w1.heap.size := (by omega))))
  all_goals exact bodyPost_ret (v := .tuple #[.agg #[vI vK (((belV 0 al ah bl bh).1).1), vI vK (((belV 0 al ah bl bh).1).2)], .agg #[vI vK (((belV 0 al ah bl bh).2.1).1), vI vK (((belV 0 al ah bl bh).2.1).2)], .bool ((belV 0 al ah bl bh).2.2)]) (by simp [results, Tryz.results198, go_sem, r0, r1, s0, s1]) rfl ⟨rfl, by repeat' first | exact bF _ _ | exact hbw1 | refine bA ?_ ?_ _ | refine bS ?_ ?_ _ | refine bD ?_ | refine below_drewN ?_ _ | (simp; done) | (simp; omega) | (simp [drew_size]; done) | (simp [drew_size]; omega) | omega⟩
theorem nar_no (k al ah bl bh : Int) (hk : k < 15 ∨ 24 < k) (w : World) : Calls Tryz.prog 198 #[vI vK k, .agg #[vI vK al, vI vK ah], .agg #[vI vK bl, vI vK bh]] w fun e w' => e = .returned (.tuple #[.agg #[vI vK al, vI vK ah], .agg #[vI vK bl, vI vK bh], .bool true]) ∧ Below w.heap.size w w' := by
  have e15 : (k == 15) = false := by simp; omega
  have e16 : (k == 16) = false := by simp; omega
  have e17 : (k == 17) = false := by simp; omega
  have e18 : (k == 18) = false := by simp; omega
  have e19 : (k == 19) = false := by simp; omega
  have e20 : (k == 20) = false := by simp; omega
  have e21 : (k == 21) = false := by simp; omega
  have e22 : (k == 22) = false := by simp; omega
  have e23 : (k == 23) = false := by simp; omega
  have e24 : (k == 24) = false := by simp; omega
  go_enter Tryz.func198, Tryz.ntmps198
  go_wp2_with fail
  all_goals go_region
  all_goals go_wp2
  all_goals exact bodyPost_ret (v := .tuple #[.agg #[vI vK al, vI vK ah], .agg #[vI vK bl, vI vK bh], .bool true]) (by simp [results, Tryz.results198, go_sem]) rfl ⟨rfl, by repeat' first | exact bF _ _ | refine bA ?_ ?_ _ | refine bS ?_ ?_ _ | refine bD ?_ | refine below_drewN ?_ _ | (simp; done) | (simp; omega) | (simp [drew_size]; done) | (simp [drew_size]; omega) | omega⟩
end Go.Proofs.YtednmkhdehlojaaGreatDoor
namespace Go.Proofs.YtednmkhdehlojaaGreatDoor
open Go.RowKit

theorem opp_facts {c x y : Int} (h : 15 ≤ c ∧ c ≤ 24) : (isV c x y == isV (oppV c) x y) = false ∧ oppV (oppV c) = c ∧ 15 ≤ oppV c ∧ oppV c ≤ 24 := by
  have e : c = 15 ∨ c = 16 ∨ c = 17 ∨ c = 18 ∨ c = 19 ∨ c = 20 ∨ c = 21 ∨ c = 22 ∨ c = 23 ∨ c = 24 := by omega
  rcases e with rfl | rfl | rfl | rfl | rfl | rfl | rfl | rfl | rfl | rfl
  · refine ⟨?_, by decide, by decide, by decide⟩
    show (isV 15 x y == isV 16 x y) = false
    rw [isV_15, isV_16]; cases decide (x = y) <;> rfl
  · refine ⟨?_, by decide, by decide, by decide⟩
    show (isV 16 x y == isV 15 x y) = false
    rw [isV_15, isV_16]; cases decide (x = y) <;> rfl
  · refine ⟨?_, by decide, by decide, by decide⟩
    show (isV 17 x y == isV 20 x y) = false
    rw [isV_17, isV_20, beq_eq_false_iff_ne, ne_eq, decide_eq_decide]; omega
  · refine ⟨?_, by decide, by decide, by decide⟩
    show (isV 18 x y == isV 19 x y) = false
    rw [isV_18, isV_19, beq_eq_false_iff_ne, ne_eq, decide_eq_decide]; omega
  · refine ⟨?_, by decide, by decide, by decide⟩
    show (isV 19 x y == isV 18 x y) = false
    rw [isV_18, isV_19, beq_eq_false_iff_ne, ne_eq, decide_eq_decide]; omega
  · refine ⟨?_, by decide, by decide, by decide⟩
    show (isV 20 x y == isV 17 x y) = false
    rw [isV_17, isV_20, beq_eq_false_iff_ne, ne_eq, decide_eq_decide]; omega
  · refine ⟨?_, by decide, by decide, by decide⟩
    show (isV 21 x y == isV 24 x y) = false
    rw [isV_21, isV_24, beq_eq_false_iff_ne, ne_eq, decide_eq_decide]; omega
  · refine ⟨?_, by decide, by decide, by decide⟩
    show (isV 22 x y == isV 23 x y) = false
    rw [isV_22, isV_23, beq_eq_false_iff_ne, ne_eq, decide_eq_decide]; omega
  · refine ⟨?_, by decide, by decide, by decide⟩
    show (isV 23 x y == isV 22 x y) = false
    rw [isV_22, isV_23, beq_eq_false_iff_ne, ne_eq, decide_eq_decide]; omega
  · refine ⟨?_, by decide, by decide, by decide⟩
    show (isV 24 x y == isV 21 x y) = false
    rw [isV_21, isV_24, beq_eq_false_iff_ne, ne_eq, decide_eq_decide]; omega

def BdLeft (r : (Int × Int) × (Int × Int) × Bool) (al ah bl bh x y : Int) (is : Prop) : Prop :=
  (is → r.2.2 = true ∧ (r.1.1 ≤ x ∧ x ≤ r.1.2) ∧ r.2.1.1 ≤ y ∧ y ≤ r.2.1.2) ∧ (r.2.2 = true → r.1.1 ≤ r.1.2 ∧ r.2.1.1 ≤ r.2.1.2 ∧ al ≤ r.1.1 ∧ r.1.2 ≤ ah ∧ bl ≤ r.2.1.1 ∧ r.2.1.2 ≤ bh)
theorem BdLeft.swap {r : (Int × Int) × (Int × Int) × Bool} {al ah bl bh x y : Int} {p q : Prop} (h : BdLeft r al ah bl bh x y p) (e : q → p) : BdLeft (swapV r) bl bh al ah y x q :=
  ⟨fun z => by obtain ⟨a, b, c⟩ := h.1 (e z); exact ⟨a, c, b⟩, fun z => by obtain ⟨a, b, c, d, e, f⟩ := h.2 z; exact ⟨b, a, e, f, c, d⟩⟩
theorem bel_left {g al ah bl bh x y : Int} (h1 : al ≤ x) (h2 : x ≤ ah) (h3 : bl ≤ y) (h4 : y ≤ bh) : BdLeft (belV g al ah bl bh) al ah bl bh x y (x + g ≤ y) := by
  unfold belV BdLeft
  split
  · exact ⟨fun h => ⟨rfl, by show al ≤ x ∧ x ≤ min ah (bh - g); omega, by show max bl (al + g) ≤ y ∧ y ≤ bh; omega⟩, fun _ => by show al ≤ min ah (bh - g) ∧ max bl (al + g) ≤ bh ∧ al ≤ al ∧ min ah (bh - g) ≤ ah ∧ bl ≤ max bl (al + g) ∧ bh ≤ bh; omega⟩
  · exact ⟨fun h => by omega, fun h => by cases h⟩
theorem uns_left {g al ah bl bh x y : Int} (h1 : al ≤ x) (h2 : x ≤ ah) (h3 : bl ≤ y) (h4 : y ≤ bh) (h5 : 0 ≤ g) (px : -9223372036854775808 ≤ x) (qx : x ≤ 9223372036854775807) (qy : y ≤ 9223372036854775807) :
    BdLeft (unsV g al ah bl bh) al ah bl bh x y ((uns x : Int) + g ≤ uns y) := by
  have ex := uns_eq x
  have ey := uns_eq y
  unfold unsV
  split
  · exact ⟨fun h => ⟨rfl, ⟨h1, h2⟩, h3, h4⟩, fun _ => by show al ≤ ah ∧ bl ≤ bh ∧ al ≤ al ∧ ah ≤ ah ∧ bl ≤ bl ∧ bh ≤ bh; omega⟩
  · by_cases hx : 0 ≤ x
    · have b := bel_left (g := g) (al := max al 0) (ah := ah) (by omega : max al 0 ≤ x) h2 h3 h4
      refine ⟨fun h => b.1 (by omega), fun h => ?_⟩
      have c := b.2 h
      omega
    · refine ⟨fun h => by omega, fun h => ?_⟩
      unfold belV at h ⊢
      split at h
      · rename_i hc
        rw [if_pos hc]
        show max al 0 ≤ min ah (bh - g) ∧ max bl (max al 0 + g) ≤ bh ∧ al ≤ max al 0 ∧ min ah (bh - g) ≤ ah ∧ bl ≤ max bl (max al 0 + g) ∧ bh ≤ bh
        omega
      · cases h
theorem nar_left {c al ah bl bh x y : Int} (hc : 15 ≤ c ∧ c ≤ 24) (pal : -9223372036854775808 ≤ al) (qah : ah ≤ 9223372036854775807) (pbl : -9223372036854775808 ≤ bl) (qbh : bh ≤ 9223372036854775807)
    (h1 : al ≤ x) (h2 : x ≤ ah) (h3 : bl ≤ y) (h4 : y ≤ bh) : BdLeft (narV c al ah bl bh) al ah bl bh x y (isV c x y = true) := by
  have e : c = 15 ∨ c = 16 ∨ c = 17 ∨ c = 18 ∨ c = 19 ∨ c = 20 ∨ c = 21 ∨ c = 22 ∨ c = 23 ∨ c = 24 := by omega
  rcases e with rfl | rfl | rfl | rfl | rfl | rfl | rfl | rfl | rfl | rfl
  · rw [narV_15, isV_15, decide_eq_true_eq]
    unfold meetV BdLeft
    split
    · exact ⟨fun h => ⟨rfl, by show max al bl ≤ x ∧ x ≤ min ah bh; omega, by show max al bl ≤ y ∧ y ≤ min ah bh; omega⟩, fun _ => by show max al bl ≤ min ah bh ∧ max al bl ≤ min ah bh ∧ al ≤ max al bl ∧ min ah bh ≤ ah ∧ bl ≤ max al bl ∧ min ah bh ≤ bh; omega⟩
    · exact ⟨fun h => by omega, fun h => by cases h⟩
  · rw [narV_16, isV_16, Bool.not_eq_true', decide_eq_false_iff_not]
    unfold apV
    split
    · exact ⟨fun h => by omega, fun h => by cases h⟩
    · have cut : ∀ {al ah ol oh x y : Int}, al ≤ x → x ≤ ah → ol ≤ y → y ≤ oh → (¬ x = y → (cutV al ah ol oh).1 ≤ x ∧ x ≤ (cutV al ah ol oh).2) ∧ (cutV al ah ol oh).1 ≤ (cutV al ah ol oh).2 ∧ al ≤ (cutV al ah ol oh).1 ∧ (cutV al ah ol oh).2 ≤ ah := by
        intro al ah ol oh x y a1 a2 a3 a4
        unfold cutV
        split
        · exact ⟨fun _ => ⟨a1, a2⟩, by show al ≤ ah ∧ al ≤ al ∧ ah ≤ ah; omega⟩
        · split
          · exact ⟨fun _ => by show al + 1 ≤ x ∧ x ≤ ah; omega, by show al + 1 ≤ ah ∧ al ≤ al + 1 ∧ ah ≤ ah; omega⟩
          · split
            · exact ⟨fun _ => by show al ≤ x ∧ x ≤ ah - 1; omega, by show al ≤ ah - 1 ∧ al ≤ al ∧ ah - 1 ≤ ah; omega⟩
            · exact ⟨fun _ => ⟨a1, a2⟩, by show al ≤ ah ∧ al ≤ al ∧ ah ≤ ah; omega⟩
      have k1 := cut h1 h2 h3 h4
      have k2 := cut h3 h4 h1 h2
      exact ⟨fun h => ⟨rfl, k1.1 h, k2.1 (fun z => h z.symm)⟩, fun _ => ⟨k1.2.1, k2.2.1, k1.2.2.1, k1.2.2.2, k2.2.2.1, k2.2.2.2⟩⟩
  · rw [narV_17, isV_17, decide_eq_true_eq]
    exact (uns_left (g := 1) h3 h4 h1 h2 (by omega) (by omega) (by omega) (by omega)).swap (fun h => by omega)
  · rw [narV_18, isV_18, decide_eq_true_eq]
    exact (uns_left (g := 0) h3 h4 h1 h2 (by omega) (by omega) (by omega) (by omega)).swap (fun h => by omega)
  · rw [narV_19, isV_19, decide_eq_true_eq]
    have k := uns_left (g := 1) h1 h2 h3 h4 (by omega) (by omega) (by omega) (by omega)
    exact ⟨fun h => k.1 (by omega), k.2⟩
  · rw [narV_20, isV_20, decide_eq_true_eq]
    have k := uns_left (g := 0) h1 h2 h3 h4 (by omega) (by omega) (by omega) (by omega)
    exact ⟨fun h => k.1 (by omega), k.2⟩
  · rw [narV_21, isV_21, decide_eq_true_eq]
    exact (bel_left (g := 1) h3 h4 h1 h2).swap (fun h => by omega)
  · rw [narV_22, isV_22, decide_eq_true_eq]
    exact (bel_left (g := 0) h3 h4 h1 h2).swap (fun h => by omega)
  · rw [narV_23, isV_23, decide_eq_true_eq]
    have k := bel_left (g := 1) h1 h2 h3 h4
    exact ⟨fun h => k.1 (by omega), k.2⟩
  · rw [narV_24, isV_24, decide_eq_true_eq]
    have k := bel_left (g := 0) h1 h2 h3 h4
    exact ⟨fun h => k.1 (by omega), k.2⟩
def Way.narrow (y : Way) (c : Int) (d s : Nat) (r : Bool) (n : Int) : Bool × Way :=
  if (narV c (y.reg d).l (y.reg d).h (y.second s r n).l (y.second s r n).h).2.2 = false then (false, y)
  else if r = true ∧ s = d then (true, y)
  else if r = true then (true, (y.putReg d (knoNum (narV c (y.reg d).l (y.reg d).h (y.second s r n).l (y.second s r n).h).1.1 (narV c (y.reg d).l (y.reg d).h (y.second s r n).l (y.second s r n).h).1.2)).putReg s (knoNum (narV c (y.reg d).l (y.reg d).h (y.second s r n).l (y.second s r n).h).2.1.1 (narV c (y.reg d).l (y.reg d).h (y.second s r n).l (y.second s r n).h).2.1.2))
  else (true, y.putReg d (knoNum (narV c (y.reg d).l (y.reg d).h (y.second s r n).l (y.second s r n).h).1.1 (narV c (y.reg d).l (y.reg d).h (y.second s r n).l (y.second s r n).h).1.2))
def Way.askNumbers (y : Way) (c : Int) (d s : Nat) (r : Bool) (o n : Int) : List (Int × Way) :=
  (if (y.narrow (oppV c) d s r n).1 = true then [(0, (y.narrow (oppV c) d s r n).2)] else []) ++ (if (y.narrow c d s r n).1 = true then [(o, (y.narrow c d s r n).2)] else [])
def Way.askPlace (y : Way) (c : Int) (d : Nat) (o : Int) : List (Int × Way) :=
  if (y.reg d).k ≠ 5 then [(if c = 16 then o else 0, y)] else [(if c = 16 then 0 else o, y.putReg d (knoNum 0 0)), (if c = 16 then o else 0, y.putReg d ⟨4, 0, 0⟩)]
def Way.ask (y : Way) (c : Int) (d s : Nat) (r : Bool) (o n : Int) : List (Int × Way) × Int :=
  if (y.reg d).k = 0 ∨ (y.second s r n).k = 0 then ([], 8)
  else if (y.reg d).k = 1 ∧ (y.second s r n).k = 1 then (y.askNumbers c d s r o n, 0)
  else if (c ≠ 15 ∧ c ≠ 16) ∨ r = true ∨ n ≠ 0 then ([], 1)
  else (y.askPlace c d o, 0)
end Go.Proofs.YtednmkhdehlojaaGreatDoor
namespace Go.Proofs.YtednmkhdehlojaaGreatDoor
open Go.ChangeShapes Go.WideShapes Go.ChangeAt Go.RowKit

theorem ret_int {k : IntKind} {a b : Int} (h : a = b) : Ending.returned (.int k a) = .returned (.int k b) := by rw [h]

def moreV (c d s : Int) (r : Bool) (o n : Int) : Bool :=
  if 1 ≤ c ∧ c ≤ 12 then (if r then o != 0 || n != 0 else s != 0 || o != 0)
  else if 15 ≤ c ∧ c ≤ 24 then (if r then n != 0 else s != 0)
  else if c = 13 then s != 0 || r || o != 0 || n != 0
  else if c = 14 then d != 0 || s != 0 || r || n != 0
  else if c = 25 then r || n != 0
  else if c = 26 then (if r then n != 0 else s != 0)
  else if c = 27 then d != 0 || s != 0 || r || o != 0
  else d != 0 || s != 0 || r || o != 0 || n != 0
def aloneV (c d s : Int) (r : Bool) (o n : Int) : Int :=
  if c < 1 ∨ 28 < c then 3
  else if d < 0 ∨ 10 < d ∨ s < 0 ∨ 10 < s then 2
  else if ((1 ≤ c ∧ c ≤ 13) ∨ c = 25) ∧ d = 10 then 6
  else if moreV c d s r o n = true ∨ (c = 27 ∧ n ≠ 1 ∧ n ≠ 2 ∧ n ≠ 3) then 1 else 0
def wrongV (c d s : Int) (r : Bool) (o n b : Int) : Int :=
  if aloneV c d s r o n ≠ 0 then aloneV c d s r o n
  else if (c = 14 ∨ (15 ≤ c ∧ c ≤ 24)) ∧ (o < 0 ∨ b ≤ o) then 10
  else if b = 0 ∧ c ≠ 28 then 8 else 0

theorem more_two_true (c d s o n : Int) (h1 : 1 ≤ c) (h2 : c ≤ 12) (w : World) :
    Calls Tryz.prog 69 #[.agg #[vI vK c, vI vK d, vI vK s, .bool true, vI vK o, vI vK n]] w fun e w' => e = .returned (.bool (o != 0 || n != 0)) ∧ Below w.heap.size w w' := by
  have e13 : (c == 13) = false := by simp; omega
  have e14 : (c == 14) = false := by simp; omega
  have e25 : (c == 25) = false := by simp; omega
  have e26 : (c == 26) = false := by simp; omega
  have e27 : (c == 27) = false := by simp; omega
  have e28 : (c == 28) = false := by simp; omega
  go_enter Tryz.func69, Tryz.ntmps69
  go_wp2
  all_goals
    go_ret
    exact ⟨ret_bool (by simp [*]), (bF _ _).alloc (Nat.le_refl _) _⟩
theorem more_two_false (c d s o n : Int) (h1 : 1 ≤ c) (h2 : c ≤ 12) (w : World) :
    Calls Tryz.prog 69 #[.agg #[vI vK c, vI vK d, vI vK s, .bool false, vI vK o, vI vK n]] w fun e w' => e = .returned (.bool (s != 0 || o != 0)) ∧ Below w.heap.size w w' := by
  have e13 : (c == 13) = false := by simp; omega
  have e14 : (c == 14) = false := by simp; omega
  have e25 : (c == 25) = false := by simp; omega
  have e26 : (c == 26) = false := by simp; omega
  have e27 : (c == 27) = false := by simp; omega
  have e28 : (c == 28) = false := by simp; omega
  go_enter Tryz.func69, Tryz.ntmps69
  go_wp2
  all_goals
    go_ret
    exact ⟨ret_bool (by simp [*]), (bF _ _).alloc (Nat.le_refl _) _⟩
theorem more_ask_true (c d s o n : Int) (h1 : 15 ≤ c) (h2 : c ≤ 24) (w : World) :
    Calls Tryz.prog 69 #[.agg #[vI vK c, vI vK d, vI vK s, .bool true, vI vK o, vI vK n]] w fun e w' => e = .returned (.bool (n != 0)) ∧ Below w.heap.size w w' := by
  have e13 : (c == 13) = false := by simp; omega
  have e14 : (c == 14) = false := by simp; omega
  have e25 : (c == 25) = false := by simp; omega
  have e26 : (c == 26) = false := by simp; omega
  have e27 : (c == 27) = false := by simp; omega
  have e28 : (c == 28) = false := by simp; omega
  have g1 : 1 ≤ c := by omega
  have g2 : decide (c ≤ 12) = false := by simp; omega
  go_enter Tryz.func69, Tryz.ntmps69
  go_wp2
  all_goals
    go_ret
    exact ⟨ret_bool (by simp [*]), (bF _ _).alloc (Nat.le_refl _) _⟩
theorem more_ask_false (c d s o n : Int) (h1 : 15 ≤ c) (h2 : c ≤ 24) (w : World) :
    Calls Tryz.prog 69 #[.agg #[vI vK c, vI vK d, vI vK s, .bool false, vI vK o, vI vK n]] w fun e w' => e = .returned (.bool (s != 0)) ∧ Below w.heap.size w w' := by
  have e13 : (c == 13) = false := by simp; omega
  have e14 : (c == 14) = false := by simp; omega
  have e25 : (c == 25) = false := by simp; omega
  have e26 : (c == 26) = false := by simp; omega
  have e27 : (c == 27) = false := by simp; omega
  have e28 : (c == 28) = false := by simp; omega
  have g1 : 1 ≤ c := by omega
  have g2 : decide (c ≤ 12) = false := by simp; omega
  go_enter Tryz.func69, Tryz.ntmps69
  go_wp2
  all_goals
    go_ret
    exact ⟨ret_bool (by simp [*]), (bF _ _).alloc (Nat.le_refl _) _⟩
theorem more_c13_true (d s o n : Int)  (w : World) :
    Calls Tryz.prog 69 #[.agg #[vI vK 13, vI vK d, vI vK s, .bool true, vI vK o, vI vK n]] w fun e w' => e = .returned (.bool (s != 0 || true || o != 0 || n != 0)) ∧ Below w.heap.size w w' := by
  go_enter Tryz.func69, Tryz.ntmps69
  go_wp2
  all_goals
    go_ret
    exact ⟨ret_bool (by simp [*]), (bF _ _).alloc (Nat.le_refl _) _⟩
theorem more_c13_false (d s o n : Int)  (w : World) :
    Calls Tryz.prog 69 #[.agg #[vI vK 13, vI vK d, vI vK s, .bool false, vI vK o, vI vK n]] w fun e w' => e = .returned (.bool (s != 0 || false || o != 0 || n != 0)) ∧ Below w.heap.size w w' := by
  go_enter Tryz.func69, Tryz.ntmps69
  go_wp2
  all_goals
    go_ret
    exact ⟨ret_bool (by simp [*]), (bF _ _).alloc (Nat.le_refl _) _⟩
theorem more_c14_true (d s o n : Int)  (w : World) :
    Calls Tryz.prog 69 #[.agg #[vI vK 14, vI vK d, vI vK s, .bool true, vI vK o, vI vK n]] w fun e w' => e = .returned (.bool (d != 0 || s != 0 || true || n != 0)) ∧ Below w.heap.size w w' := by
  go_enter Tryz.func69, Tryz.ntmps69
  go_wp2
  all_goals
    go_ret
    exact ⟨ret_bool (by simp [*]), (bF _ _).alloc (Nat.le_refl _) _⟩
theorem more_c14_false (d s o n : Int)  (w : World) :
    Calls Tryz.prog 69 #[.agg #[vI vK 14, vI vK d, vI vK s, .bool false, vI vK o, vI vK n]] w fun e w' => e = .returned (.bool (d != 0 || s != 0 || false || n != 0)) ∧ Below w.heap.size w w' := by
  go_enter Tryz.func69, Tryz.ntmps69
  go_wp2
  all_goals
    go_ret
    exact ⟨ret_bool (by simp [*]), (bF _ _).alloc (Nat.le_refl _) _⟩
theorem more_c25_true (d s o n : Int)  (w : World) :
    Calls Tryz.prog 69 #[.agg #[vI vK 25, vI vK d, vI vK s, .bool true, vI vK o, vI vK n]] w fun e w' => e = .returned (.bool (true || n != 0)) ∧ Below w.heap.size w w' := by
  go_enter Tryz.func69, Tryz.ntmps69
  go_wp2
  all_goals
    go_ret
    exact ⟨ret_bool (by simp [*]), (bF _ _).alloc (Nat.le_refl _) _⟩
theorem more_c25_false (d s o n : Int)  (w : World) :
    Calls Tryz.prog 69 #[.agg #[vI vK 25, vI vK d, vI vK s, .bool false, vI vK o, vI vK n]] w fun e w' => e = .returned (.bool (false || n != 0)) ∧ Below w.heap.size w w' := by
  go_enter Tryz.func69, Tryz.ntmps69
  go_wp2
  all_goals
    go_ret
    exact ⟨ret_bool (by simp [*]), (bF _ _).alloc (Nat.le_refl _) _⟩
theorem more_c26_true (d s o n : Int)  (w : World) :
    Calls Tryz.prog 69 #[.agg #[vI vK 26, vI vK d, vI vK s, .bool true, vI vK o, vI vK n]] w fun e w' => e = .returned (.bool (n != 0)) ∧ Below w.heap.size w w' := by
  go_enter Tryz.func69, Tryz.ntmps69
  go_wp2
  all_goals
    go_ret
    exact ⟨ret_bool (by simp [*]), (bF _ _).alloc (Nat.le_refl _) _⟩
theorem more_c26_false (d s o n : Int)  (w : World) :
    Calls Tryz.prog 69 #[.agg #[vI vK 26, vI vK d, vI vK s, .bool false, vI vK o, vI vK n]] w fun e w' => e = .returned (.bool (s != 0)) ∧ Below w.heap.size w w' := by
  go_enter Tryz.func69, Tryz.ntmps69
  go_wp2
  all_goals
    go_ret
    exact ⟨ret_bool (by simp [*]), (bF _ _).alloc (Nat.le_refl _) _⟩
theorem more_c27_true (d s o n : Int)  (w : World) :
    Calls Tryz.prog 69 #[.agg #[vI vK 27, vI vK d, vI vK s, .bool true, vI vK o, vI vK n]] w fun e w' => e = .returned (.bool (d != 0 || s != 0 || true || o != 0)) ∧ Below w.heap.size w w' := by
  go_enter Tryz.func69, Tryz.ntmps69
  go_wp2
  all_goals
    go_ret
    exact ⟨ret_bool (by simp [*]), (bF _ _).alloc (Nat.le_refl _) _⟩
theorem more_c27_false (d s o n : Int)  (w : World) :
    Calls Tryz.prog 69 #[.agg #[vI vK 27, vI vK d, vI vK s, .bool false, vI vK o, vI vK n]] w fun e w' => e = .returned (.bool (d != 0 || s != 0 || false || o != 0)) ∧ Below w.heap.size w w' := by
  go_enter Tryz.func69, Tryz.ntmps69
  go_wp2
  all_goals
    go_ret
    exact ⟨ret_bool (by simp [*]), (bF _ _).alloc (Nat.le_refl _) _⟩
theorem more_c28_true (d s o n : Int)  (w : World) :
    Calls Tryz.prog 69 #[.agg #[vI vK 28, vI vK d, vI vK s, .bool true, vI vK o, vI vK n]] w fun e w' => e = .returned (.bool (d != 0 || s != 0 || true || o != 0 || n != 0)) ∧ Below w.heap.size w w' := by
  go_enter Tryz.func69, Tryz.ntmps69
  go_wp2
  all_goals
    go_ret
    exact ⟨ret_bool (by simp [*]), (bF _ _).alloc (Nat.le_refl _) _⟩
theorem more_c28_false (d s o n : Int)  (w : World) :
    Calls Tryz.prog 69 #[.agg #[vI vK 28, vI vK d, vI vK s, .bool false, vI vK o, vI vK n]] w fun e w' => e = .returned (.bool (d != 0 || s != 0 || false || o != 0 || n != 0)) ∧ Below w.heap.size w w' := by
  go_enter Tryz.func69, Tryz.ntmps69
  go_wp2
  all_goals
    go_ret
    exact ⟨ret_bool (by simp [*]), (bF _ _).alloc (Nat.le_refl _) _⟩
theorem more_any (c d s : Int) (r : Bool) (o n : Int) (h1 : 1 ≤ c) (h2 : c ≤ 28) (w : World) :
    Calls Tryz.prog 69 #[.agg #[vI vK c, vI vK d, vI vK s, .bool r, vI vK o, vI vK n]] w fun e w' => e = .returned (.bool (moreV c d s r o n)) ∧ Below w.heap.size w w' := by
  have hc : (1 ≤ c ∧ c ≤ 12) ∨ (15 ≤ c ∧ c ≤ 24) ∨ c = 13 ∨ c = 14 ∨ c = 25 ∨ c = 26 ∨ c = 27 ∨ c = 28 := by omega
  rcases hc with ⟨a1, a2⟩ | ⟨a1, a2⟩ | rfl | rfl | rfl | rfl | rfl | rfl
  · have e : moreV c d s r o n = (if r then o != 0 || n != 0 else s != 0 || o != 0) := by unfold moreV; rw [if_pos ⟨a1, a2⟩]
    rw [e]; cases r
    · exact more_two_false c d s o n a1 a2 w
    · exact more_two_true c d s o n a1 a2 w
  · have e : moreV c d s r o n = (if r then n != 0 else s != 0) := by unfold moreV; rw [if_neg (by omega), if_pos ⟨a1, a2⟩]
    rw [e]; cases r
    · exact more_ask_false c d s o n a1 a2 w
    · exact more_ask_true c d s o n a1 a2 w
  · cases r
    · exact more_c13_false d s o n w
    · exact more_c13_true d s o n w
  · cases r
    · exact more_c14_false d s o n w
    · exact more_c14_true d s o n w
  · cases r
    · exact more_c25_false d s o n w
    · exact more_c25_true d s o n w
  · cases r
    · exact more_c26_false d s o n w
    · exact more_c26_true d s o n w
  · cases r
    · exact more_c27_false d s o n w
    · exact more_c27_true d s o n w
  · cases r
    · exact more_c28_false d s o n w
    · exact more_c28_true d s o n w

def bit (b : Bool) : Int := if b then 1 else 0
def endV (b : Int) : Int := if b = 0 then 8 else 0
def leadV (o b : Int) : Int := if o < 0 then 10 else if b ≤ o then 10 else endV b
theorem ref_c_lo (c d s o n : Int) (r : Bool) (h : c < 1) (w : World) :
    Calls Tryz.prog 50 #[.agg #[vI vK c, vI vK d, vI vK s, .bool r, vI vK o, vI vK n]] w fun e w' => e = .returned (vI vK 3) ∧ Below w.heap.size w w' := by
  go_enter Tryz.func50, Tryz.ntmps50
  go_wp2
  all_goals
    go_ret
    exact ⟨rfl, (by repeat (first | exact bF _ _ | refine bA ?_ (by simp) _))⟩
theorem ref_c_hi (c d s o n : Int) (r : Bool) (h : 28 < c) (w : World) :
    Calls Tryz.prog 50 #[.agg #[vI vK c, vI vK d, vI vK s, .bool r, vI vK o, vI vK n]] w fun e w' => e = .returned (vI vK 3) ∧ Below w.heap.size w w' := by
  have z0 : decide (1 ≤ c) = true := by simp; omega
  have z1 : decide (c ≤ 28) = false := by simp; omega
  go_enter Tryz.func50, Tryz.ntmps50
  go_wp2
  all_goals
    go_ret
    exact ⟨rfl, (by repeat (first | exact bF _ _ | refine bA ?_ (by simp) _))⟩
theorem ref_d_lo (c d s o n : Int) (r : Bool) (h1 : 1 ≤ c) (h2 : c ≤ 28) (h : d < 0) (w : World) :
    Calls Tryz.prog 50 #[.agg #[vI vK c, vI vK d, vI vK s, .bool r, vI vK o, vI vK n]] w fun e w' => e = .returned (vI vK 2) ∧ Below w.heap.size w w' := by
  have z0 : decide (0 ≤ d) = false := by simp; omega
  go_enter Tryz.func50, Tryz.ntmps50
  go_wp2
  all_goals
    go_ret
    exact ⟨rfl, (by repeat (first | exact bF _ _ | refine bA ?_ (by simp) _))⟩
theorem ref_d_hi (c d s o n : Int) (r : Bool) (h1 : 1 ≤ c) (h2 : c ≤ 28) (h : 10 < d) (w : World) :
    Calls Tryz.prog 50 #[.agg #[vI vK c, vI vK d, vI vK s, .bool r, vI vK o, vI vK n]] w fun e w' => e = .returned (vI vK 2) ∧ Below w.heap.size w w' := by
  have z0 : decide (0 ≤ d) = true := by simp; omega
  have z1 : decide (d ≤ 10) = false := by simp; omega
  go_enter Tryz.func50, Tryz.ntmps50
  go_wp2
  all_goals
    go_ret
    exact ⟨rfl, (by repeat (first | exact bF _ _ | refine bA ?_ (by simp) _))⟩
theorem ref_s_lo (c d s o n : Int) (r : Bool) (h1 : 1 ≤ c) (h2 : c ≤ 28) (d1 : 0 ≤ d) (d2 : d ≤ 10) (h : s < 0) (w : World) :
    Calls Tryz.prog 50 #[.agg #[vI vK c, vI vK d, vI vK s, .bool r, vI vK o, vI vK n]] w fun e w' => e = .returned (vI vK 2) ∧ Below w.heap.size w w' := by
  have z0 : decide (0 ≤ s) = false := by simp; omega
  go_enter Tryz.func50, Tryz.ntmps50
  go_wp2
  all_goals
    go_ret
    exact ⟨rfl, (by repeat (first | exact bF _ _ | refine bA ?_ (by simp) _))⟩
theorem ref_s_hi (c d s o n : Int) (r : Bool) (h1 : 1 ≤ c) (h2 : c ≤ 28) (d1 : 0 ≤ d) (d2 : d ≤ 10) (h : 10 < s) (w : World) :
    Calls Tryz.prog 50 #[.agg #[vI vK c, vI vK d, vI vK s, .bool r, vI vK o, vI vK n]] w fun e w' => e = .returned (vI vK 2) ∧ Below w.heap.size w w' := by
  have z0 : decide (0 ≤ s) = true := by simp; omega
  have z1 : decide (s ≤ 10) = false := by simp; omega
  go_enter Tryz.func50, Tryz.ntmps50
  go_wp2
  all_goals
    go_ret
    exact ⟨rfl, (by repeat (first | exact bF _ _ | refine bA ?_ (by simp) _))⟩
theorem ref_top (c s o n : Int) (r : Bool) (h1 : 1 ≤ c) (h2 : c ≤ 13) (s1 : 0 ≤ s) (s2 : s ≤ 10) (w : World) :
    Calls Tryz.prog 50 #[.agg #[vI vK c, vI vK 10, vI vK s, .bool r, vI vK o, vI vK n]] w fun e w' => e = .returned (vI vK 6) ∧ Below w.heap.size w w' := by
  have z0 : decide (1 ≤ c) = true := by simp; omega
  have z1 : decide (c ≤ 28) = true := by simp; omega
  have z2 : decide (c ≤ 13) = true := by simp; omega
  go_enter Tryz.func50, Tryz.ntmps50
  go_wp2
  all_goals
    go_ret
    exact ⟨rfl, (by repeat (first | exact bF _ _ | refine bA ?_ (by simp) _))⟩
theorem ref_top25 (s o n : Int) (r : Bool) (s1 : 0 ≤ s) (s2 : s ≤ 10) (w : World) :
    Calls Tryz.prog 50 #[.agg #[vI vK 25, vI vK 10, vI vK s, .bool r, vI vK o, vI vK n]] w fun e w' => e = .returned (vI vK 6) ∧ Below w.heap.size w w' := by
  go_enter Tryz.func50, Tryz.ntmps50
  go_wp2
  all_goals
    go_ret
    exact ⟨rfl, (by repeat (first | exact bF _ _ | refine bA ?_ (by simp) _))⟩
theorem op_c_lo (c d s o n b : Int) (r : Bool) (h : c < 1) (w : World) :
    Calls Tryz.prog 39 #[.agg #[vI vK c, vI vK d, vI vK s, .bool r, vI vK o, vI vK n], vI vK b, .func (Fn.func 38) #[] #[]] w fun e w' => e = .returned (vI vK 3) ∧ Below w.heap.size w w' := by
  have z0 : decide (c < 1) = true := by simp; omega
  go_enter Tryz.func39, Tryz.ntmps39
  go_wp2
  all_goals
    go_ret
    exact ⟨rfl, (by repeat (first | exact bF _ _ | refine bA ?_ (by simp) _))⟩
theorem op_c_hi (c d s o n b : Int) (r : Bool) (h : 28 < c) (w : World) :
    Calls Tryz.prog 39 #[.agg #[vI vK c, vI vK d, vI vK s, .bool r, vI vK o, vI vK n], vI vK b, .func (Fn.func 38) #[] #[]] w fun e w' => e = .returned (vI vK 3) ∧ Below w.heap.size w w' := by
  have z0 : decide (c < 1) = false := by simp; omega
  have z1 : decide (28 < c) = true := by simp; omega
  go_enter Tryz.func39, Tryz.ntmps39
  go_wp2
  all_goals
    go_ret
    exact ⟨rfl, (by repeat (first | exact bF _ _ | refine bA ?_ (by simp) _))⟩
theorem op_d_lo (c d s o n b : Int) (r : Bool) (h1 : 1 ≤ c) (h2 : c ≤ 28) (h : d < 0) (w : World) :
    Calls Tryz.prog 39 #[.agg #[vI vK c, vI vK d, vI vK s, .bool r, vI vK o, vI vK n], vI vK b, .func (Fn.func 38) #[] #[]] w fun e w' => e = .returned (vI vK 2) ∧ Below w.heap.size w w' := by
  have z0 : decide (c < 1) = false := by simp; omega
  have z1 : decide (28 < c) = false := by simp; omega
  have z2 : decide (0 ≤ d) = false := by simp; omega
  go_enter Tryz.func39, Tryz.ntmps39
  go_wp2
  all_goals
    go_ret
    exact ⟨rfl, (by repeat (first | exact bF _ _ | refine bA ?_ (by simp) _))⟩
theorem op_d_hi (c d s o n b : Int) (r : Bool) (h1 : 1 ≤ c) (h2 : c ≤ 28) (h : 10 < d) (w : World) :
    Calls Tryz.prog 39 #[.agg #[vI vK c, vI vK d, vI vK s, .bool r, vI vK o, vI vK n], vI vK b, .func (Fn.func 38) #[] #[]] w fun e w' => e = .returned (vI vK 2) ∧ Below w.heap.size w w' := by
  have z0 : decide (c < 1) = false := by simp; omega
  have z1 : decide (28 < c) = false := by simp; omega
  have z2 : decide (0 ≤ d) = true := by simp; omega
  have z3 : decide (d < 11) = false := by simp; omega
  go_enter Tryz.func39, Tryz.ntmps39
  go_wp2
  all_goals
    go_ret
    exact ⟨rfl, (by repeat (first | exact bF _ _ | refine bA ?_ (by simp) _))⟩
theorem op_s_lo (c d s o n b : Int) (r : Bool) (h1 : 1 ≤ c) (h2 : c ≤ 28) (d1 : 0 ≤ d) (d2 : d ≤ 10) (h : s < 0) (w : World) :
    Calls Tryz.prog 39 #[.agg #[vI vK c, vI vK d, vI vK s, .bool r, vI vK o, vI vK n], vI vK b, .func (Fn.func 38) #[] #[]] w fun e w' => e = .returned (vI vK 2) ∧ Below w.heap.size w w' := by
  have z0 : decide (c < 1) = false := by simp; omega
  have z1 : decide (28 < c) = false := by simp; omega
  have z2 : decide (0 ≤ d) = true := by simp; omega
  have z3 : decide (d < 11) = true := by simp; omega
  have z4 : decide (0 ≤ s) = false := by simp; omega
  go_enter Tryz.func39, Tryz.ntmps39
  go_wp2
  all_goals
    go_ret
    exact ⟨rfl, (by repeat (first | exact bF _ _ | refine bA ?_ (by simp) _))⟩
theorem op_s_hi (c d s o n b : Int) (r : Bool) (h1 : 1 ≤ c) (h2 : c ≤ 28) (d1 : 0 ≤ d) (d2 : d ≤ 10) (h : 10 < s) (w : World) :
    Calls Tryz.prog 39 #[.agg #[vI vK c, vI vK d, vI vK s, .bool r, vI vK o, vI vK n], vI vK b, .func (Fn.func 38) #[] #[]] w fun e w' => e = .returned (vI vK 2) ∧ Below w.heap.size w w' := by
  have z0 : decide (c < 1) = false := by simp; omega
  have z1 : decide (28 < c) = false := by simp; omega
  have z2 : decide (0 ≤ d) = true := by simp; omega
  have z3 : decide (d < 11) = true := by simp; omega
  have z4 : decide (0 ≤ s) = true := by simp; omega
  have z5 : decide (s < 11) = false := by simp; omega
  go_enter Tryz.func39, Tryz.ntmps39
  go_wp2
  all_goals
    go_ret
    exact ⟨rfl, (by repeat (first | exact bF _ _ | refine bA ?_ (by simp) _))⟩
theorem op_top (c s o n b : Int) (r : Bool) (h1 : 1 ≤ c) (h2 : c ≤ 13) (s1 : 0 ≤ s) (s2 : s ≤ 10) (w : World) :
    Calls Tryz.prog 39 #[.agg #[vI vK c, vI vK 10, vI vK s, .bool r, vI vK o, vI vK n], vI vK b, .func (Fn.func 38) #[] #[]] w fun e w' => e = .returned (vI vK 6) ∧ Below w.heap.size w w' := by
  have z0 : decide (c < 1) = false := by simp; omega
  have z1 : decide (28 < c) = false := by simp; omega
  have z2 : decide (0 ≤ s) = true := by simp; omega
  have z3 : decide (s < 11) = true := by simp; omega
  have z4 : decide (1 ≤ c) = true := by simp; omega
  have z5 : decide (c ≤ 13) = true := by simp; omega
  go_enter Tryz.func39, Tryz.ntmps39
  go_wp2
  all_goals
    go_ret
    exact ⟨rfl, (by repeat (first | exact bF _ _ | refine bA ?_ (by simp) _))⟩
theorem op_top25 (s o n b : Int) (r : Bool) (s1 : 0 ≤ s) (s2 : s ≤ 10) (w : World) :
    Calls Tryz.prog 39 #[.agg #[vI vK 25, vI vK 10, vI vK s, .bool r, vI vK o, vI vK n], vI vK b, .func (Fn.func 38) #[] #[]] w fun e w' => e = .returned (vI vK 6) ∧ Below w.heap.size w w' := by
  have z0 : decide (0 ≤ s) = true := by simp; omega
  have z1 : decide (s < 11) = true := by simp; omega
  go_enter Tryz.func39, Tryz.ntmps39
  go_wp2
  all_goals
    go_ret
    exact ⟨rfl, (by repeat (first | exact bF _ _ | refine bA ?_ (by simp) _))⟩
theorem ref_two_true (c d s o n : Int) (h1 : 1 ≤ c) (h2 : c ≤ 12) (d1 : 0 ≤ d) (d2 : d ≤ 10) (s1 : 0 ≤ s) (s2 : s ≤ 10) (dt : d ≠ 10) (w : World) :
    Calls Tryz.prog 50 #[.agg #[vI vK c, vI vK d, vI vK s, .bool true, vI vK o, vI vK n]] w fun e w' => e = .returned (vI vK (bit (o != 0 || n != 0))) ∧ Below w.heap.size w w' := by
  have e13 : (c == 13) = false := by simp; omega
  have e14 : (c == 14) = false := by simp; omega
  have e25 : (c == 25) = false := by simp; omega
  have e26 : (c == 26) = false := by simp; omega
  have e27 : (c == 27) = false := by simp; omega
  have e28 : (c == 28) = false := by simp; omega
  have z0 : decide (1 ≤ c) = true := by simp; omega
  have z1 : decide (c ≤ 28) = true := by simp; omega
  have z2 : decide (c ≤ 13) = true := by simp; omega
  have z3 : decide (c ≤ 12) = true := by simp; omega
  have z4 : decide (15 ≤ c) = false := by simp; omega
  have e10 : (d == 10) = false := by simpa using dt
  go_enter Tryz.func50, Tryz.ntmps50
  go_wp2
  all_goals
    go_ret
    exact ⟨ret_int (by simp [bit, *]), (by repeat (first | exact bF _ _ | refine bA ?_ (by simp) _))⟩
theorem ref_two_false (c d s o n : Int) (h1 : 1 ≤ c) (h2 : c ≤ 12) (d1 : 0 ≤ d) (d2 : d ≤ 10) (s1 : 0 ≤ s) (s2 : s ≤ 10) (dt : d ≠ 10) (w : World) :
    Calls Tryz.prog 50 #[.agg #[vI vK c, vI vK d, vI vK s, .bool false, vI vK o, vI vK n]] w fun e w' => e = .returned (vI vK (bit (s != 0 || o != 0))) ∧ Below w.heap.size w w' := by
  have e13 : (c == 13) = false := by simp; omega
  have e14 : (c == 14) = false := by simp; omega
  have e25 : (c == 25) = false := by simp; omega
  have e26 : (c == 26) = false := by simp; omega
  have e27 : (c == 27) = false := by simp; omega
  have e28 : (c == 28) = false := by simp; omega
  have z0 : decide (1 ≤ c) = true := by simp; omega
  have z1 : decide (c ≤ 28) = true := by simp; omega
  have z2 : decide (c ≤ 13) = true := by simp; omega
  have z3 : decide (c ≤ 12) = true := by simp; omega
  have z4 : decide (15 ≤ c) = false := by simp; omega
  have e10 : (d == 10) = false := by simpa using dt
  go_enter Tryz.func50, Tryz.ntmps50
  go_wp2
  all_goals
    go_ret
    exact ⟨ret_int (by simp [bit, *]), (by repeat (first | exact bF _ _ | refine bA ?_ (by simp) _))⟩
theorem ref_ask_true (c d s o n : Int) (h1 : 15 ≤ c) (h2 : c ≤ 24) (d1 : 0 ≤ d) (d2 : d ≤ 10) (s1 : 0 ≤ s) (s2 : s ≤ 10) (w : World) :
    Calls Tryz.prog 50 #[.agg #[vI vK c, vI vK d, vI vK s, .bool true, vI vK o, vI vK n]] w fun e w' => e = .returned (vI vK (bit (n != 0))) ∧ Below w.heap.size w w' := by
  have e13 : (c == 13) = false := by simp; omega
  have e14 : (c == 14) = false := by simp; omega
  have e25 : (c == 25) = false := by simp; omega
  have e26 : (c == 26) = false := by simp; omega
  have e27 : (c == 27) = false := by simp; omega
  have e28 : (c == 28) = false := by simp; omega
  have z0 : decide (1 ≤ c) = true := by simp; omega
  have z1 : decide (c ≤ 28) = true := by simp; omega
  have z2 : decide (c ≤ 13) = false := by simp; omega
  have z3 : decide (c ≤ 12) = false := by simp; omega
  have z4 : decide (15 ≤ c) = true := by simp; omega
  have z5 : decide (c ≤ 24) = true := by simp; omega
  go_enter Tryz.func50, Tryz.ntmps50
  go_wp2
  all_goals
    go_ret
    exact ⟨ret_int (by simp [bit, *]), (by repeat (first | exact bF _ _ | refine bA ?_ (by simp) _))⟩
theorem ref_ask_false (c d s o n : Int) (h1 : 15 ≤ c) (h2 : c ≤ 24) (d1 : 0 ≤ d) (d2 : d ≤ 10) (s1 : 0 ≤ s) (s2 : s ≤ 10) (w : World) :
    Calls Tryz.prog 50 #[.agg #[vI vK c, vI vK d, vI vK s, .bool false, vI vK o, vI vK n]] w fun e w' => e = .returned (vI vK (bit (s != 0))) ∧ Below w.heap.size w w' := by
  have e13 : (c == 13) = false := by simp; omega
  have e14 : (c == 14) = false := by simp; omega
  have e25 : (c == 25) = false := by simp; omega
  have e26 : (c == 26) = false := by simp; omega
  have e27 : (c == 27) = false := by simp; omega
  have e28 : (c == 28) = false := by simp; omega
  have z0 : decide (1 ≤ c) = true := by simp; omega
  have z1 : decide (c ≤ 28) = true := by simp; omega
  have z2 : decide (c ≤ 13) = false := by simp; omega
  have z3 : decide (c ≤ 12) = false := by simp; omega
  have z4 : decide (15 ≤ c) = true := by simp; omega
  have z5 : decide (c ≤ 24) = true := by simp; omega
  go_enter Tryz.func50, Tryz.ntmps50
  go_wp2
  all_goals
    go_ret
    exact ⟨ret_int (by simp [bit, *]), (by repeat (first | exact bF _ _ | refine bA ?_ (by simp) _))⟩
theorem ref_c13_true (d s o n : Int) (d1 : 0 ≤ d) (d2 : d ≤ 10) (s1 : 0 ≤ s) (s2 : s ≤ 10) (dt : d ≠ 10) (w : World) :
    Calls Tryz.prog 50 #[.agg #[vI vK 13, vI vK d, vI vK s, .bool true, vI vK o, vI vK n]] w fun e w' => e = .returned (vI vK (bit (s != 0 || true || o != 0 || n != 0))) ∧ Below w.heap.size w w' := by
  have e10 : (d == 10) = false := by simpa using dt
  go_enter Tryz.func50, Tryz.ntmps50
  go_wp2
  all_goals
    go_ret
    exact ⟨ret_int (by simp [bit, *]), (by repeat (first | exact bF _ _ | refine bA ?_ (by simp) _))⟩
theorem ref_c13_false (d s o n : Int) (d1 : 0 ≤ d) (d2 : d ≤ 10) (s1 : 0 ≤ s) (s2 : s ≤ 10) (dt : d ≠ 10) (w : World) :
    Calls Tryz.prog 50 #[.agg #[vI vK 13, vI vK d, vI vK s, .bool false, vI vK o, vI vK n]] w fun e w' => e = .returned (vI vK (bit (s != 0 || false || o != 0 || n != 0))) ∧ Below w.heap.size w w' := by
  have e10 : (d == 10) = false := by simpa using dt
  go_enter Tryz.func50, Tryz.ntmps50
  go_wp2
  all_goals
    go_ret
    exact ⟨ret_int (by simp [bit, *]), (by repeat (first | exact bF _ _ | refine bA ?_ (by simp) _))⟩
theorem ref_c14_true (d s o n : Int) (d1 : 0 ≤ d) (d2 : d ≤ 10) (s1 : 0 ≤ s) (s2 : s ≤ 10) (w : World) :
    Calls Tryz.prog 50 #[.agg #[vI vK 14, vI vK d, vI vK s, .bool true, vI vK o, vI vK n]] w fun e w' => e = .returned (vI vK (bit (d != 0 || s != 0 || true || n != 0))) ∧ Below w.heap.size w w' := by
  go_enter Tryz.func50, Tryz.ntmps50
  go_wp2
  all_goals
    go_ret
    exact ⟨ret_int (by simp [bit, *]), (by repeat (first | exact bF _ _ | refine bA ?_ (by simp) _))⟩
theorem ref_c14_false (d s o n : Int) (d1 : 0 ≤ d) (d2 : d ≤ 10) (s1 : 0 ≤ s) (s2 : s ≤ 10) (w : World) :
    Calls Tryz.prog 50 #[.agg #[vI vK 14, vI vK d, vI vK s, .bool false, vI vK o, vI vK n]] w fun e w' => e = .returned (vI vK (bit (d != 0 || s != 0 || false || n != 0))) ∧ Below w.heap.size w w' := by
  go_enter Tryz.func50, Tryz.ntmps50
  go_wp2
  all_goals
    go_ret
    exact ⟨ret_int (by simp [bit, *]), (by repeat (first | exact bF _ _ | refine bA ?_ (by simp) _))⟩
theorem ref_c25_true (d s o n : Int) (d1 : 0 ≤ d) (d2 : d ≤ 10) (s1 : 0 ≤ s) (s2 : s ≤ 10) (dt : d ≠ 10) (w : World) :
    Calls Tryz.prog 50 #[.agg #[vI vK 25, vI vK d, vI vK s, .bool true, vI vK o, vI vK n]] w fun e w' => e = .returned (vI vK (bit (true || n != 0))) ∧ Below w.heap.size w w' := by
  have e10 : (d == 10) = false := by simpa using dt
  go_enter Tryz.func50, Tryz.ntmps50
  go_wp2
  all_goals
    go_ret
    exact ⟨ret_int (by simp [bit, *]), (by repeat (first | exact bF _ _ | refine bA ?_ (by simp) _))⟩
theorem ref_c25_false (d s o n : Int) (d1 : 0 ≤ d) (d2 : d ≤ 10) (s1 : 0 ≤ s) (s2 : s ≤ 10) (dt : d ≠ 10) (w : World) :
    Calls Tryz.prog 50 #[.agg #[vI vK 25, vI vK d, vI vK s, .bool false, vI vK o, vI vK n]] w fun e w' => e = .returned (vI vK (bit (false || n != 0))) ∧ Below w.heap.size w w' := by
  have e10 : (d == 10) = false := by simpa using dt
  go_enter Tryz.func50, Tryz.ntmps50
  go_wp2
  all_goals
    go_ret
    exact ⟨ret_int (by simp [bit, *]), (by repeat (first | exact bF _ _ | refine bA ?_ (by simp) _))⟩
theorem ref_c26_true (d s o n : Int) (d1 : 0 ≤ d) (d2 : d ≤ 10) (s1 : 0 ≤ s) (s2 : s ≤ 10) (w : World) :
    Calls Tryz.prog 50 #[.agg #[vI vK 26, vI vK d, vI vK s, .bool true, vI vK o, vI vK n]] w fun e w' => e = .returned (vI vK (bit (n != 0))) ∧ Below w.heap.size w w' := by
  go_enter Tryz.func50, Tryz.ntmps50
  go_wp2
  all_goals
    go_ret
    exact ⟨ret_int (by simp [bit, *]), (by repeat (first | exact bF _ _ | refine bA ?_ (by simp) _))⟩
theorem ref_c26_false (d s o n : Int) (d1 : 0 ≤ d) (d2 : d ≤ 10) (s1 : 0 ≤ s) (s2 : s ≤ 10) (w : World) :
    Calls Tryz.prog 50 #[.agg #[vI vK 26, vI vK d, vI vK s, .bool false, vI vK o, vI vK n]] w fun e w' => e = .returned (vI vK (bit (s != 0))) ∧ Below w.heap.size w w' := by
  go_enter Tryz.func50, Tryz.ntmps50
  go_wp2
  all_goals
    go_ret
    exact ⟨ret_int (by simp [bit, *]), (by repeat (first | exact bF _ _ | refine bA ?_ (by simp) _))⟩
theorem ref_c27_true (d s o n : Int) (d1 : 0 ≤ d) (d2 : d ≤ 10) (s1 : 0 ≤ s) (s2 : s ≤ 10) (w : World) :
    Calls Tryz.prog 50 #[.agg #[vI vK 27, vI vK d, vI vK s, .bool true, vI vK o, vI vK n]] w fun e w' => e = .returned (vI vK (bit (d != 0 || s != 0 || true || o != 0 || (n != 1 && (n != 2 && n != 3))))) ∧ Below w.heap.size w w' := by
  go_enter Tryz.func50, Tryz.ntmps50
  go_wp2
  all_goals
    go_ret
    exact ⟨ret_int (by simp [bit, *]), (by repeat (first | exact bF _ _ | refine bA ?_ (by simp) _))⟩
theorem ref_c27_false (d s o n : Int) (d1 : 0 ≤ d) (d2 : d ≤ 10) (s1 : 0 ≤ s) (s2 : s ≤ 10) (w : World) :
    Calls Tryz.prog 50 #[.agg #[vI vK 27, vI vK d, vI vK s, .bool false, vI vK o, vI vK n]] w fun e w' => e = .returned (vI vK (bit (d != 0 || s != 0 || false || o != 0 || (n != 1 && (n != 2 && n != 3))))) ∧ Below w.heap.size w w' := by
  go_enter Tryz.func50, Tryz.ntmps50
  go_wp2
  all_goals
    go_ret
    exact ⟨ret_int (by simp [bit, *]), (by repeat (first | exact bF _ _ | refine bA ?_ (by simp) _))⟩
theorem ref_c28_true (d s o n : Int) (d1 : 0 ≤ d) (d2 : d ≤ 10) (s1 : 0 ≤ s) (s2 : s ≤ 10) (w : World) :
    Calls Tryz.prog 50 #[.agg #[vI vK 28, vI vK d, vI vK s, .bool true, vI vK o, vI vK n]] w fun e w' => e = .returned (vI vK (bit (d != 0 || s != 0 || true || o != 0 || n != 0))) ∧ Below w.heap.size w w' := by
  go_enter Tryz.func50, Tryz.ntmps50
  go_wp2
  all_goals
    go_ret
    exact ⟨ret_int (by simp [bit, *]), (by repeat (first | exact bF _ _ | refine bA ?_ (by simp) _))⟩
theorem ref_c28_false (d s o n : Int) (d1 : 0 ≤ d) (d2 : d ≤ 10) (s1 : 0 ≤ s) (s2 : s ≤ 10) (w : World) :
    Calls Tryz.prog 50 #[.agg #[vI vK 28, vI vK d, vI vK s, .bool false, vI vK o, vI vK n]] w fun e w' => e = .returned (vI vK (bit (d != 0 || s != 0 || false || o != 0 || n != 0))) ∧ Below w.heap.size w w' := by
  go_enter Tryz.func50, Tryz.ntmps50
  go_wp2
  all_goals
    go_ret
    exact ⟨ret_int (by simp [bit, *]), (by repeat (first | exact bF _ _ | refine bA ?_ (by simp) _))⟩

theorem op_chg_more (c d s o n b : Int) (r : Bool) (h1 : 1 ≤ c) (h2 : c ≤ 13) (d1 : 0 ≤ d) (d2 : d ≤ 10) (s1 : 0 ≤ s) (s2 : s ≤ 10) (dt : d ≠ 10) (hm : moreV c d s r o n = true) (w : World) :
    Calls Tryz.prog 39 #[.agg #[vI vK c, vI vK d, vI vK s, .bool r, vI vK o, vI vK n], vI vK b, .func (Fn.func 38) #[] #[]] w fun e w' => e = .returned (vI vK 1) ∧ Below w.heap.size w w' := by
  have e14 : (c == 14) = false := by simp; omega
  have e25 : (c == 25) = false := by simp; omega
  have e26 : (c == 26) = false := by simp; omega
  have e27 : (c == 27) = false := by simp; omega
  have e28 : (c == 28) = false := by simp; omega
  have e10 : (d == 10) = false := by simpa using dt
  have z0 : decide (0 ≤ d) = true := by simp; omega
  have z1 : decide (d < 11) = true := by simp; omega
  have z2 : decide (0 ≤ s) = true := by simp; omega
  have z3 : decide (s < 11) = true := by simp; omega
  have z4 : decide (c < 1) = false := by simp; omega
  have z5 : decide (28 < c) = false := by simp; omega
  have z6 : decide (1 ≤ c) = true := by simp; omega
  have z7 : decide (c ≤ 13) = true := by simp; omega
  have z8 : decide (15 ≤ c) = false := by simp; omega
  go_enter Tryz.func39, Tryz.ntmps39
  go_wp2_with (first | (go_at_call 69; refine (more_any _ _ _ _ _ _ (by omega) (by omega) _).mono ?_; rw [hm]; rintro e w1 ⟨rfl, hb⟩; obtain ⟨hcl, hfr⟩ := old_cells hb) | go_in)
  all_goals
    go_ret
    exact ⟨rfl, (((bF _ _).alloc (Nat.le_refl _) _).trans (hb.mono (by simp)))⟩
theorem op_chg_end (c d s o n b : Int) (r : Bool) (h1 : 1 ≤ c) (h2 : c ≤ 13) (d1 : 0 ≤ d) (d2 : d ≤ 10) (s1 : 0 ≤ s) (s2 : s ≤ 10) (dt : d ≠ 10) (hm : moreV c d s r o n = false) (w : World) :
    Calls Tryz.prog 39 #[.agg #[vI vK c, vI vK d, vI vK s, .bool r, vI vK o, vI vK n], vI vK b, .func (Fn.func 38) #[] #[]] w fun e w' => e = .returned (vI vK (endV b)) ∧ Below w.heap.size w w' := by
  have e14 : (c == 14) = false := by simp; omega
  have e25 : (c == 25) = false := by simp; omega
  have e26 : (c == 26) = false := by simp; omega
  have e27 : (c == 27) = false := by simp; omega
  have e28 : (c == 28) = false := by simp; omega
  have e10 : (d == 10) = false := by simpa using dt
  have z0 : decide (0 ≤ d) = true := by simp; omega
  have z1 : decide (d < 11) = true := by simp; omega
  have z2 : decide (0 ≤ s) = true := by simp; omega
  have z3 : decide (s < 11) = true := by simp; omega
  have z4 : decide (c < 1) = false := by simp; omega
  have z5 : decide (28 < c) = false := by simp; omega
  have z6 : decide (1 ≤ c) = true := by simp; omega
  have z7 : decide (c ≤ 13) = true := by simp; omega
  have z8 : decide (15 ≤ c) = false := by simp; omega
  go_enter Tryz.func39, Tryz.ntmps39
  go_wp2_with (first | (go_at_call 69; refine (more_any _ _ _ _ _ _ (by omega) (by omega) _).mono ?_; rw [hm]; rintro e w1 ⟨rfl, hb⟩; obtain ⟨hcl, hfr⟩ := old_cells hb) | go_in)
  all_goals
    go_ret
    exact ⟨ret_int (by simp [endV, *]), (((bF _ _).alloc (Nat.le_refl _) _).trans (hb.mono (by simp)))⟩
theorem op_ask_more (c d s o n b : Int) (r : Bool) (h1 : 15 ≤ c) (h2 : c ≤ 24) (d1 : 0 ≤ d) (d2 : d ≤ 10) (s1 : 0 ≤ s) (s2 : s ≤ 10) (hm : moreV c d s r o n = true) (w : World) :
    Calls Tryz.prog 39 #[.agg #[vI vK c, vI vK d, vI vK s, .bool r, vI vK o, vI vK n], vI vK b, .func (Fn.func 38) #[] #[]] w fun e w' => e = .returned (vI vK 1) ∧ Below w.heap.size w w' := by
  have e14 : (c == 14) = false := by simp; omega
  have e25 : (c == 25) = false := by simp; omega
  have e26 : (c == 26) = false := by simp; omega
  have e27 : (c == 27) = false := by simp; omega
  have e28 : (c == 28) = false := by simp; omega
  have z0 : decide (0 ≤ d) = true := by simp; omega
  have z1 : decide (d < 11) = true := by simp; omega
  have z2 : decide (0 ≤ s) = true := by simp; omega
  have z3 : decide (s < 11) = true := by simp; omega
  have z4 : decide (c < 1) = false := by simp; omega
  have z5 : decide (28 < c) = false := by simp; omega
  have z6 : decide (1 ≤ c) = true := by simp; omega
  have z7 : decide (c ≤ 13) = false := by simp; omega
  have z8 : decide (15 ≤ c) = true := by simp; omega
  have z9 : decide (c ≤ 24) = true := by simp; omega
  go_enter Tryz.func39, Tryz.ntmps39
  go_wp2_with (first | (go_at_call 69; refine (more_any _ _ _ _ _ _ (by omega) (by omega) _).mono ?_; rw [hm]; rintro e w1 ⟨rfl, hb⟩; obtain ⟨hcl, hfr⟩ := old_cells hb) | go_in)
  all_goals
    go_ret
    exact ⟨rfl, (((bF _ _).alloc (Nat.le_refl _) _).trans (hb.mono (by simp)))⟩
theorem op_ask_end (c d s o n b : Int) (r : Bool) (h1 : 15 ≤ c) (h2 : c ≤ 24) (d1 : 0 ≤ d) (d2 : d ≤ 10) (s1 : 0 ≤ s) (s2 : s ≤ 10) (hm : moreV c d s r o n = false) (w : World) :
    Calls Tryz.prog 39 #[.agg #[vI vK c, vI vK d, vI vK s, .bool r, vI vK o, vI vK n], vI vK b, .func (Fn.func 38) #[] #[]] w fun e w' => e = .returned (vI vK (leadV o b)) ∧ Below w.heap.size w w' := by
  have e14 : (c == 14) = false := by simp; omega
  have e25 : (c == 25) = false := by simp; omega
  have e26 : (c == 26) = false := by simp; omega
  have e27 : (c == 27) = false := by simp; omega
  have e28 : (c == 28) = false := by simp; omega
  have z0 : decide (0 ≤ d) = true := by simp; omega
  have z1 : decide (d < 11) = true := by simp; omega
  have z2 : decide (0 ≤ s) = true := by simp; omega
  have z3 : decide (s < 11) = true := by simp; omega
  have z4 : decide (c < 1) = false := by simp; omega
  have z5 : decide (28 < c) = false := by simp; omega
  have z6 : decide (1 ≤ c) = true := by simp; omega
  have z7 : decide (c ≤ 13) = false := by simp; omega
  have z8 : decide (15 ≤ c) = true := by simp; omega
  have z9 : decide (c ≤ 24) = true := by simp; omega
  go_enter Tryz.func39, Tryz.ntmps39
  go_wp2_with (first | (go_at_call 69; refine (more_any _ _ _ _ _ _ (by omega) (by omega) _).mono ?_; rw [hm]; rintro e w1 ⟨rfl, hb⟩; obtain ⟨hcl, hfr⟩ := old_cells hb) | go_in)
  all_goals
    go_ret
    exact ⟨ret_int (by unfold leadV endV; (repeat' split) <;> omega), (((bF _ _).alloc (Nat.le_refl _) _).trans (hb.mono (by simp)))⟩
theorem op_c14_more (d s o n b : Int) (r : Bool) (d1 : 0 ≤ d) (d2 : d ≤ 10) (s1 : 0 ≤ s) (s2 : s ≤ 10) (hm : moreV 14 d s r o n = true) (w : World) :
    Calls Tryz.prog 39 #[.agg #[vI vK 14, vI vK d, vI vK s, .bool r, vI vK o, vI vK n], vI vK b, .func (Fn.func 38) #[] #[]] w fun e w' => e = .returned (vI vK 1) ∧ Below w.heap.size w w' := by
  have z0 : decide (0 ≤ d) = true := by simp; omega
  have z1 : decide (d < 11) = true := by simp; omega
  have z2 : decide (0 ≤ s) = true := by simp; omega
  have z3 : decide (s < 11) = true := by simp; omega
  go_enter Tryz.func39, Tryz.ntmps39
  go_wp2_with (first | (go_at_call 69; refine (more_any _ _ _ _ _ _ (by omega) (by omega) _).mono ?_; rw [hm]; rintro e w1 ⟨rfl, hb⟩; obtain ⟨hcl, hfr⟩ := old_cells hb) | go_in)
  all_goals
    go_ret
    exact ⟨rfl, (((bF _ _).alloc (Nat.le_refl _) _).trans (hb.mono (by simp)))⟩
theorem op_c14_end (d s o n b : Int) (r : Bool) (d1 : 0 ≤ d) (d2 : d ≤ 10) (s1 : 0 ≤ s) (s2 : s ≤ 10) (hm : moreV 14 d s r o n = false) (w : World) :
    Calls Tryz.prog 39 #[.agg #[vI vK 14, vI vK d, vI vK s, .bool r, vI vK o, vI vK n], vI vK b, .func (Fn.func 38) #[] #[]] w fun e w' => e = .returned (vI vK (leadV o b)) ∧ Below w.heap.size w w' := by
  have z0 : decide (0 ≤ d) = true := by simp; omega
  have z1 : decide (d < 11) = true := by simp; omega
  have z2 : decide (0 ≤ s) = true := by simp; omega
  have z3 : decide (s < 11) = true := by simp; omega
  go_enter Tryz.func39, Tryz.ntmps39
  go_wp2_with (first | (go_at_call 69; refine (more_any _ _ _ _ _ _ (by omega) (by omega) _).mono ?_; rw [hm]; rintro e w1 ⟨rfl, hb⟩; obtain ⟨hcl, hfr⟩ := old_cells hb) | go_in)
  all_goals
    go_ret
    exact ⟨ret_int (by unfold leadV endV; (repeat' split) <;> omega), (((bF _ _).alloc (Nat.le_refl _) _).trans (hb.mono (by simp)))⟩
theorem op_c25_more (d s o n b : Int) (r : Bool) (d1 : 0 ≤ d) (d2 : d ≤ 10) (s1 : 0 ≤ s) (s2 : s ≤ 10) (dt : d ≠ 10) (hm : moreV 25 d s r o n = true) (w : World) :
    Calls Tryz.prog 39 #[.agg #[vI vK 25, vI vK d, vI vK s, .bool r, vI vK o, vI vK n], vI vK b, .func (Fn.func 38) #[] #[]] w fun e w' => e = .returned (vI vK 1) ∧ Below w.heap.size w w' := by
  have e10 : (d == 10) = false := by simpa using dt
  have z0 : decide (0 ≤ d) = true := by simp; omega
  have z1 : decide (d < 11) = true := by simp; omega
  have z2 : decide (0 ≤ s) = true := by simp; omega
  have z3 : decide (s < 11) = true := by simp; omega
  go_enter Tryz.func39, Tryz.ntmps39
  go_wp2_with (first | (go_at_call 69; refine (more_any _ _ _ _ _ _ (by omega) (by omega) _).mono ?_; rw [hm]; rintro e w1 ⟨rfl, hb⟩; obtain ⟨hcl, hfr⟩ := old_cells hb) | go_in)
  all_goals
    go_ret
    exact ⟨rfl, (((bF _ _).alloc (Nat.le_refl _) _).trans (hb.mono (by simp)))⟩
theorem op_c25_end (d s o n b : Int) (r : Bool) (d1 : 0 ≤ d) (d2 : d ≤ 10) (s1 : 0 ≤ s) (s2 : s ≤ 10) (dt : d ≠ 10) (hm : moreV 25 d s r o n = false) (w : World) :
    Calls Tryz.prog 39 #[.agg #[vI vK 25, vI vK d, vI vK s, .bool r, vI vK o, vI vK n], vI vK b, .func (Fn.func 38) #[] #[]] w fun e w' => e = .returned (vI vK (endV b)) ∧ Below w.heap.size w w' := by
  have e10 : (d == 10) = false := by simpa using dt
  have z0 : decide (0 ≤ d) = true := by simp; omega
  have z1 : decide (d < 11) = true := by simp; omega
  have z2 : decide (0 ≤ s) = true := by simp; omega
  have z3 : decide (s < 11) = true := by simp; omega
  go_enter Tryz.func39, Tryz.ntmps39
  go_wp2_with (first | (go_at_call 69; refine (more_any _ _ _ _ _ _ (by omega) (by omega) _).mono ?_; rw [hm]; rintro e w1 ⟨rfl, hb⟩; obtain ⟨hcl, hfr⟩ := old_cells hb) | go_in)
  all_goals
    go_ret
    exact ⟨ret_int (by simp [endV, *]), (((bF _ _).alloc (Nat.le_refl _) _).trans (hb.mono (by simp)))⟩
theorem op_c26_more (d s o n b : Int) (r : Bool) (d1 : 0 ≤ d) (d2 : d ≤ 10) (s1 : 0 ≤ s) (s2 : s ≤ 10) (hm : moreV 26 d s r o n = true) (w : World) :
    Calls Tryz.prog 39 #[.agg #[vI vK 26, vI vK d, vI vK s, .bool r, vI vK o, vI vK n], vI vK b, .func (Fn.func 38) #[] #[]] w fun e w' => e = .returned (vI vK 1) ∧ Below w.heap.size w w' := by
  have z0 : decide (0 ≤ d) = true := by simp; omega
  have z1 : decide (d < 11) = true := by simp; omega
  have z2 : decide (0 ≤ s) = true := by simp; omega
  have z3 : decide (s < 11) = true := by simp; omega
  go_enter Tryz.func39, Tryz.ntmps39
  go_wp2_with (first | (go_at_call 69; refine (more_any _ _ _ _ _ _ (by omega) (by omega) _).mono ?_; rw [hm]; rintro e w1 ⟨rfl, hb⟩; obtain ⟨hcl, hfr⟩ := old_cells hb) | go_in)
  all_goals
    go_ret
    exact ⟨rfl, (((bF _ _).alloc (Nat.le_refl _) _).trans (hb.mono (by simp)))⟩
theorem op_c26_end (d s o n b : Int) (r : Bool) (d1 : 0 ≤ d) (d2 : d ≤ 10) (s1 : 0 ≤ s) (s2 : s ≤ 10) (hm : moreV 26 d s r o n = false) (w : World) :
    Calls Tryz.prog 39 #[.agg #[vI vK 26, vI vK d, vI vK s, .bool r, vI vK o, vI vK n], vI vK b, .func (Fn.func 38) #[] #[]] w fun e w' => e = .returned (vI vK (endV b)) ∧ Below w.heap.size w w' := by
  have z0 : decide (0 ≤ d) = true := by simp; omega
  have z1 : decide (d < 11) = true := by simp; omega
  have z2 : decide (0 ≤ s) = true := by simp; omega
  have z3 : decide (s < 11) = true := by simp; omega
  go_enter Tryz.func39, Tryz.ntmps39
  go_wp2_with (first | (go_at_call 69; refine (more_any _ _ _ _ _ _ (by omega) (by omega) _).mono ?_; rw [hm]; rintro e w1 ⟨rfl, hb⟩; obtain ⟨hcl, hfr⟩ := old_cells hb) | go_in)
  all_goals
    go_ret
    exact ⟨ret_int (by simp [endV, *]), (((bF _ _).alloc (Nat.le_refl _) _).trans (hb.mono (by simp)))⟩
theorem op_c27_more (d s o n b : Int) (r : Bool) (d1 : 0 ≤ d) (d2 : d ≤ 10) (s1 : 0 ≤ s) (s2 : s ≤ 10) (hm : moreV 27 d s r o n = true) (w : World) :
    Calls Tryz.prog 39 #[.agg #[vI vK 27, vI vK d, vI vK s, .bool r, vI vK o, vI vK n], vI vK b, .func (Fn.func 38) #[] #[]] w fun e w' => e = .returned (vI vK 1) ∧ Below w.heap.size w w' := by
  have z0 : decide (0 ≤ d) = true := by simp; omega
  have z1 : decide (d < 11) = true := by simp; omega
  have z2 : decide (0 ≤ s) = true := by simp; omega
  have z3 : decide (s < 11) = true := by simp; omega
  go_enter Tryz.func39, Tryz.ntmps39
  go_wp2_with (first | (go_at_call 69; refine (more_any _ _ _ _ _ _ (by omega) (by omega) _).mono ?_; rw [hm]; rintro e w1 ⟨rfl, hb⟩; obtain ⟨hcl, hfr⟩ := old_cells hb) | go_in)
  all_goals
    go_ret
    exact ⟨rfl, (((bF _ _).alloc (Nat.le_refl _) _).trans (hb.mono (by simp)))⟩
theorem op_c27_bad (d s o n b : Int) (r : Bool) (d1 : 0 ≤ d) (d2 : d ≤ 10) (s1 : 0 ≤ s) (s2 : s ≤ 10) (hm : moreV 27 d s r o n = false) (n1 : (n == 1) = false) (n2 : (n == 2) = false) (n3 : (n == 3) = false) (w : World) :
    Calls Tryz.prog 39 #[.agg #[vI vK 27, vI vK d, vI vK s, .bool r, vI vK o, vI vK n], vI vK b, .func (Fn.func 38) #[] #[]] w fun e w' => e = .returned (vI vK 1) ∧ Below w.heap.size w w' := by
  have z0 : decide (0 ≤ d) = true := by simp; omega
  have z1 : decide (d < 11) = true := by simp; omega
  have z2 : decide (0 ≤ s) = true := by simp; omega
  have z3 : decide (s < 11) = true := by simp; omega
  go_enter Tryz.func39, Tryz.ntmps39
  go_wp2_with (first | (go_at_call 69; refine (more_any _ _ _ _ _ _ (by omega) (by omega) _).mono ?_; rw [hm]; rintro e w1 ⟨rfl, hb⟩; obtain ⟨hcl, hfr⟩ := old_cells hb) | go_in)
  all_goals
    go_ret
    exact ⟨rfl, (((bF _ _).alloc (Nat.le_refl _) _).trans (hb.mono (by simp)))⟩
theorem op_c27_end1 (d s o n b : Int) (r : Bool) (d1 : 0 ≤ d) (d2 : d ≤ 10) (s1 : 0 ≤ s) (s2 : s ≤ 10) (hm : moreV 27 d s r o n = false) (n1 : (n == 1) = true) (w : World) :
    Calls Tryz.prog 39 #[.agg #[vI vK 27, vI vK d, vI vK s, .bool r, vI vK o, vI vK n], vI vK b, .func (Fn.func 38) #[] #[]] w fun e w' => e = .returned (vI vK (endV b)) ∧ Below w.heap.size w w' := by
  have z0 : decide (0 ≤ d) = true := by simp; omega
  have z1 : decide (d < 11) = true := by simp; omega
  have z2 : decide (0 ≤ s) = true := by simp; omega
  have z3 : decide (s < 11) = true := by simp; omega
  go_enter Tryz.func39, Tryz.ntmps39
  go_wp2_with (first | (go_at_call 69; refine (more_any _ _ _ _ _ _ (by omega) (by omega) _).mono ?_; rw [hm]; rintro e w1 ⟨rfl, hb⟩; obtain ⟨hcl, hfr⟩ := old_cells hb) | go_in)
  all_goals
    go_ret
    exact ⟨ret_int (by simp [endV, *]), (((bF _ _).alloc (Nat.le_refl _) _).trans (hb.mono (by simp)))⟩
theorem op_c27_end2 (d s o n b : Int) (r : Bool) (d1 : 0 ≤ d) (d2 : d ≤ 10) (s1 : 0 ≤ s) (s2 : s ≤ 10) (hm : moreV 27 d s r o n = false) (n1 : (n == 1) = false) (n2 : (n == 2) = true) (w : World) :
    Calls Tryz.prog 39 #[.agg #[vI vK 27, vI vK d, vI vK s, .bool r, vI vK o, vI vK n], vI vK b, .func (Fn.func 38) #[] #[]] w fun e w' => e = .returned (vI vK (endV b)) ∧ Below w.heap.size w w' := by
  have z0 : decide (0 ≤ d) = true := by simp; omega
  have z1 : decide (d < 11) = true := by simp; omega
  have z2 : decide (0 ≤ s) = true := by simp; omega
  have z3 : decide (s < 11) = true := by simp; omega
  go_enter Tryz.func39, Tryz.ntmps39
  go_wp2_with (first | (go_at_call 69; refine (more_any _ _ _ _ _ _ (by omega) (by omega) _).mono ?_; rw [hm]; rintro e w1 ⟨rfl, hb⟩; obtain ⟨hcl, hfr⟩ := old_cells hb) | go_in)
  all_goals
    go_ret
    exact ⟨ret_int (by simp [endV, *]), (((bF _ _).alloc (Nat.le_refl _) _).trans (hb.mono (by simp)))⟩
theorem op_c27_end3 (d s o n b : Int) (r : Bool) (d1 : 0 ≤ d) (d2 : d ≤ 10) (s1 : 0 ≤ s) (s2 : s ≤ 10) (hm : moreV 27 d s r o n = false) (n1 : (n == 1) = false) (n2 : (n == 2) = false) (n3 : (n == 3) = true) (w : World) :
    Calls Tryz.prog 39 #[.agg #[vI vK 27, vI vK d, vI vK s, .bool r, vI vK o, vI vK n], vI vK b, .func (Fn.func 38) #[] #[]] w fun e w' => e = .returned (vI vK (endV b)) ∧ Below w.heap.size w w' := by
  have z0 : decide (0 ≤ d) = true := by simp; omega
  have z1 : decide (d < 11) = true := by simp; omega
  have z2 : decide (0 ≤ s) = true := by simp; omega
  have z3 : decide (s < 11) = true := by simp; omega
  go_enter Tryz.func39, Tryz.ntmps39
  go_wp2_with (first | (go_at_call 69; refine (more_any _ _ _ _ _ _ (by omega) (by omega) _).mono ?_; rw [hm]; rintro e w1 ⟨rfl, hb⟩; obtain ⟨hcl, hfr⟩ := old_cells hb) | go_in)
  all_goals
    go_ret
    exact ⟨ret_int (by simp [endV, *]), (((bF _ _).alloc (Nat.le_refl _) _).trans (hb.mono (by simp)))⟩
theorem op_c28_more (d s o n b : Int) (r : Bool) (d1 : 0 ≤ d) (d2 : d ≤ 10) (s1 : 0 ≤ s) (s2 : s ≤ 10) (hm : moreV 28 d s r o n = true) (w : World) :
    Calls Tryz.prog 39 #[.agg #[vI vK 28, vI vK d, vI vK s, .bool r, vI vK o, vI vK n], vI vK b, .func (Fn.func 38) #[] #[]] w fun e w' => e = .returned (vI vK 1) ∧ Below w.heap.size w w' := by
  have z0 : decide (0 ≤ d) = true := by simp; omega
  have z1 : decide (d < 11) = true := by simp; omega
  have z2 : decide (0 ≤ s) = true := by simp; omega
  have z3 : decide (s < 11) = true := by simp; omega
  go_enter Tryz.func39, Tryz.ntmps39
  go_wp2_with (first | (go_at_call 69; refine (more_any _ _ _ _ _ _ (by omega) (by omega) _).mono ?_; rw [hm]; rintro e w1 ⟨rfl, hb⟩; obtain ⟨hcl, hfr⟩ := old_cells hb) | go_in)
  all_goals
    go_ret
    exact ⟨rfl, (((bF _ _).alloc (Nat.le_refl _) _).trans (hb.mono (by simp)))⟩
theorem op_c28_end (d s o n b : Int) (r : Bool) (d1 : 0 ≤ d) (d2 : d ≤ 10) (s1 : 0 ≤ s) (s2 : s ≤ 10) (hm : moreV 28 d s r o n = false) (w : World) :
    Calls Tryz.prog 39 #[.agg #[vI vK 28, vI vK d, vI vK s, .bool r, vI vK o, vI vK n], vI vK b, .func (Fn.func 38) #[] #[]] w fun e w' => e = .returned (vI vK 0) ∧ Below w.heap.size w w' := by
  have z0 : decide (0 ≤ d) = true := by simp; omega
  have z1 : decide (d < 11) = true := by simp; omega
  have z2 : decide (0 ≤ s) = true := by simp; omega
  have z3 : decide (s < 11) = true := by simp; omega
  go_enter Tryz.func39, Tryz.ntmps39
  go_wp2_with (first | (go_at_call 69; refine (more_any _ _ _ _ _ _ (by omega) (by omega) _).mono ?_; rw [hm]; rintro e w1 ⟨rfl, hb⟩; obtain ⟨hcl, hfr⟩ := old_cells hb) | go_in)
  all_goals
    go_ret
    exact ⟨rfl, (((bF _ _).alloc (Nat.le_refl _) _).trans (hb.mono (by simp)))⟩
end Go.Proofs.YtednmkhdehlojaaGreatDoor
