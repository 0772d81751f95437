/-
 The frame of a method of package verify: its step in one box, its way in another. No conditions. What package verify's further, makes and reach return, of what is known of values. Conditions: the ends are of 64 bits, in order.
-/
import Derived.Test.YteenhdoaminkeaaGreatDoorJv4
import Derived.Deep.DeepCutAuto
import Derived.Deep.DeepMust
import Derived.BigQuiet
import Derived.Deep.QuietTactic
import Derived.Test.YteenhdoaminkeaaGreatDoorJv5
set_option maxHeartbeats 40000000
open Go.Value renaming int → vI
open Go.IntKind renaming i64 → vK
open Go.RowKit.Below renaming alloc → bA, setCell → bS, drew → bD, refl → bF
set_option maxRecDepth 1000000
set_option linter.defProp false
set_option linter.unusedVariables false
set_option linter.unusedSimpArgs false
namespace Go.Proofs.YteenhdoaminkeaaGreatDoor
open Go.ChangeShapes Go.WideShapes Go.ChangeAt Go.RowKit
section
variable {S B : Nat} {c d s o n p : Int} {r : Bool} {y : Way} {w w1 : World}
end
end Go.Proofs.YteenhdoaminkeaaGreatDoor
namespace Go.Proofs.YteenhdoaminkeaaGreatDoor
open Go.ChangeShapes Go.WideShapes Go.ChangeAt Go.RowKit
attribute [local simp] z00 z0y z0o
theorem zFi (k : Int) (w : World) : Calls Tryz.prog 75 #[vI vK k, .agg #[vI vK (-9223372036854775808), vI vK 9223372036854775807]] w fun e w' => e = .returned (.tuple #[.agg #[vI vK 0, vI vK 0, vI vK 0], vI vK 2]) ∧ Below w.heap.size w w' := by
 go_enter Tryz.func75, Tryz.ntmps75
 go_wp2_with fail
 go_region_held3 (fun w' => w'.cell? ⟨w.heap.size, 0, none⟩ = some (vI vK (-9223372036854775808)) ∧ w'.cell? ⟨w.heap.size, 1, none⟩ = some (vI vK 9223372036854775807)) (first | (simp [go_sem]; done) | (simp [go_sem, *]; done) | go_keep) (first
  | (go_at_call 63; go_must (refine (z2v _).mono ?_; rintro e w1 ⟨rfl, hb1⟩; have hbw1 : Below w.heap.size w w1 := (by ((refine Below.trans ?_ (hb1.mono ?_)) <;> repeat' first | with_reducible (first | exact bF _ _ | exact hbw1 | refine bA ?_ ?_ _ | refine bS ?_ ?_ _ | refine bD ?_ | refine below_drewN ?_ _) | ((try dsimp only); omega) | (simp; done) | (simp; omega) | omega)); have v6 := z4q hb1 w.heap.size; have v7 := z4q hb1 (w.heap.size + 1); (try simp [go_sem] at v6); (try simp [go_sem] at v7))))
 all_goals go_wp2_with fail
 all_goals exact bodyPost_ret (v := .tuple #[.agg #[vI vK 0, vI vK 0, vI vK 0], vI vK 2]) (by simp [results, Tryz.results75, go_sem, v7]) rfl ⟨rfl, (by repeat' first | with_reducible (first | exact hbw | exact hbw1 | exact hbw2 | exact bF _ _ | refine bA ?_ ?_ _ | refine bS ?_ ?_ _ | refine bD ?_ | refine below_drewN ?_ _) | ((try dsimp only); omega) | (simp; done) | (simp; omega))⟩
theorem zLu (k h : Int) (hne : ¬ h = 9223372036854775807) (w : World) : Calls Tryz.prog 75 #[vI vK k, .agg #[vI vK (-9223372036854775808), vI vK h]] w fun e w' => e = .returned (.tuple #[.agg #[vI vK k, vI vK (-9223372036854775808), vI vK h], vI vK 0]) ∧ Below w.heap.size w w' := by
 go_enter Tryz.func75, Tryz.ntmps75
 go_wp2_with fail
 go_region_held3 (fun w' => w'.cell? ⟨w.heap.size, 0, none⟩ = some (vI vK (-9223372036854775808)) ∧ w'.cell? ⟨w.heap.size, 1, none⟩ = some (vI vK h)) (first | (simp [go_sem]; done) | (simp [go_sem, *]; done) | go_keep) (first
  | (go_at_call 63; go_must (refine (z2v _).mono ?_; rintro e w1 ⟨rfl, hb1⟩; have hbw1 : Below w.heap.size w w1 := (by ((refine Below.trans ?_ (hb1.mono ?_)) <;> repeat' first | with_reducible (first | exact bF _ _ | exact hbw1 | refine bA ?_ ?_ _ | refine bS ?_ ?_ _ | refine bD ?_ | refine below_drewN ?_ _) | ((try dsimp only); omega) | (simp; done) | (simp; omega) | omega)); have v6 := z4q hb1 w.heap.size; have v7 := z4q hb1 (w.heap.size + 1); (try simp [go_sem] at v6); (try simp [go_sem] at v7))))
 all_goals go_wp2_with fail
 all_goals exact bodyPost_ret (v := .tuple #[.agg #[vI vK k, vI vK (-9223372036854775808), vI vK h], vI vK 0]) (by simp [results, Tryz.results75, go_sem, v7]) rfl ⟨rfl, (by repeat' first | with_reducible (first | exact hbw | exact hbw1 | exact hbw2 | exact bF _ _ | refine bA ?_ ?_ _ | refine bS ?_ ?_ _ | refine bD ?_ | refine below_drewN ?_ _) | ((try dsimp only); omega) | (simp; done) | (simp; omega))⟩
theorem zLt (k l h : Int) (hne : ¬ l = -9223372036854775808) (w : World) : Calls Tryz.prog 75 #[vI vK k, .agg #[vI vK l, vI vK h]] w fun e w' => e = .returned (.tuple #[.agg #[vI vK k, vI vK l, vI vK h], vI vK 0]) ∧ Below w.heap.size w w' := by
 go_enter Tryz.func75, Tryz.ntmps75
 go_wp2_with fail
 go_region_held3 (fun w' => w'.cell? ⟨w.heap.size, 0, none⟩ = some (vI vK l) ∧ w'.cell? ⟨w.heap.size, 1, none⟩ = some (vI vK h)) (first | (simp [go_sem]; done) | (simp [go_sem, *]; done) | go_keep) (first
  | (go_at_call 63; go_must (refine (z2v _).mono ?_; rintro e w1 ⟨rfl, hb1⟩; have hbw1 : Below w.heap.size w w1 := (by ((refine Below.trans ?_ (hb1.mono ?_)) <;> repeat' first | with_reducible (first | exact bF _ _ | exact hbw1 | refine bA ?_ ?_ _ | refine bS ?_ ?_ _ | refine bD ?_ | refine below_drewN ?_ _) | ((try dsimp only); omega) | (simp; done) | (simp; omega) | omega)); have v6 := z4q hb1 w.heap.size; have v7 := z4q hb1 (w.heap.size + 1); (try simp [go_sem] at v6); (try simp [go_sem] at v7))))
 all_goals go_wp2_with fail
 all_goals exact bodyPost_ret (v := .tuple #[.agg #[vI vK k, vI vK l, vI vK h], vI vK 0]) (by simp [results, Tryz.results75, go_sem, v7]) rfl ⟨rfl, (by repeat' first | with_reducible (first | exact hbw | exact hbw1 | exact hbw2 | exact bF _ _ | refine bA ?_ ?_ _ | refine bS ?_ ?_ _ | refine bD ?_ | refine below_drewN ?_ _) | ((try dsimp only); omega) | (simp; done) | (simp; omega))⟩
theorem z99 (k l h : Int) (w : World) : Calls Tryz.prog 75 #[vI vK k, .agg #[vI vK l, vI vK h]] w fun e w' => e = .returned (.tuple #[(z1h k (l, h)).1.v, vI vK (z1h k (l, h)).2]) ∧ Below w.heap.size w w' := by
 unfold z1h
 by_cases h1 : l = -9223372036854775808
 ·by_cases h2 : h = 9223372036854775807
  ·rw [if_pos ⟨h1, h2⟩]; subst h1; subst h2; exact zFi k w
  ·rw [if_neg (fun e => h2 e.2)]; subst h1; exact zLu k h h2 w
 ·rw [if_neg (fun e => h1 e.1)]; exact zLt k l h h1 w
structure Mk3 (n : Nat) (ak al ah bk bl bh : Int) (w : World) : Prop where
 a : w.heap[n]? = some (.cells #[vI vK ak, vI vK al, vI vK ah] 72 (0, 0))
 b : w.heap[n + 1]? = some (.cells #[vI vK bk, vI vK bl, vI vK bh] 72 (0, 0))
 r : w.heap[n + 1 + 1]? = some (.cells #[vI vK 0, vI vK 0, vI vK 0] 72 (0, 0))
section
variable {n : Nat} {ak al ah bk bl bh : Int} {w w1 : World}
theorem Mk3.lt (h : Mk3 n ak al ah bk bl bh w) : n + 1 + 1 < w.heap.size := (Array.getElem?_eq_some_iff.1 h.r).1
theorem Mk3.later (h : Mk3 n ak al ah bk bl bh w) (hb : Below w.heap.size w w1) : Mk3 n ak al ah bk bl bh w1 := by
 have := h.lt
 exact ⟨(hb.block _ (by omega)).trans h.a, (hb.block _ (by omega)).trans h.b, (hb.block _ (by omega)).trans h.r⟩
theorem Mk3.drew (h : Mk3 n ak al ah bk bl bh w) : Mk3 n ak al ah bk bl bh w.drew := ⟨h.a, h.b, h.r⟩
theorem Mk3.drewN (h : Mk3 n ak al ah bk bl bh w) (k : Nat) : Mk3 n ak al ah bk bl bh (w.drewN k) := ⟨h.a, h.b, h.r⟩
theorem Mk3.cells (h : Mk3 n ak al ah bk bl bh w) : w.cell? ⟨n, 0, none⟩ = some (vI vK ak) ∧ w.cell? ⟨n, 1, none⟩ = some (vI vK al) ∧ w.cell? ⟨n, 2, none⟩ = some (vI vK ah) ∧ w.cell? ⟨n + 1, 0, none⟩ = some (vI vK bk) ∧ w.cell? ⟨n + 1, 1, none⟩ = some (vI vK bl) ∧ w.cell? ⟨n + 1, 2, none⟩ = some (vI vK bh) ∧ w.cell? ⟨n + 1 + 1, 0, none⟩ = some (vI vK 0) ∧ w.cell? ⟨n + 1 + 1, 1, none⟩ = some (vI vK 0) ∧ w.cell? ⟨n + 1 + 1, 2, none⟩ = some (vI vK 0) ∧ w.frozen? ⟨n + 1 + 1, 0, none⟩ = false ∧ w.frozen? ⟨n + 1 + 1, 1, none⟩ = false ∧ w.frozen? ⟨n + 1 + 1, 2, none⟩ = false ∧ n + 1 + 1 < w.heap.size := by
 have e1 := h.a
 have e2 := h.b
 have e3 := h.r
 exact ⟨by simp [World.cell?, e1], by simp [World.cell?, e1], by simp [World.cell?, e1], by simp [World.cell?, e2], by simp [World.cell?, e2], by simp [World.cell?, e2], by simp [World.cell?, e3], by simp [World.cell?, e3], by simp [World.cell?, e3], by simp [World.frozen?, e3], by simp [World.frozen?, e3], by simp [World.frozen?, e3], h.lt⟩
theorem Mk3.start (w : World) (ak al ah bk bl bh : Int) : Mk3 w.heap.size ak al ah bk bl bh (((w.alloc (.cells #[vI vK ak, vI vK al, vI vK ah] 72)).alloc (.cells #[vI vK bk, vI vK bl, vI vK bh] 72)).alloc (.cells #[vI vK 0, vI vK 0, vI vK 0] 72)) := by
 refine ⟨?_, ?_, ?_⟩
 ·rw [Below.heap_alloc _ _ _ (by simp; omega), Below.heap_alloc _ _ _ (by simp)]; exact heap_alloc_new _ _
 ·rw [Below.heap_alloc _ _ _ (by simp)]; exact heap_alloc2_new _ _ _
 ·have := heap_alloc_new ((w.alloc (.cells #[vI vK ak, vI vK al, vI vK ah] 72)).alloc (.cells #[vI vK bk, vI vK bl, vI vK bh] 72)) (.cells #[vI vK 0, vI vK 0, vI vK 0] 72)
  simp only [World.size_alloc] at this
  exact this
end
theorem z6y (code ak al ah bk bl bh : Int) : (∀ (x0 : (bk == 0) = true) (w : World), Calls Tryz.prog 65 #[vI vK code, .agg #[vI vK ak, vI vK al, vI vK ah], .agg #[vI vK bk, vI vK bl, vI vK bh]] w fun e w' => e = .returned (.tuple #[.agg #[vI vK 0, vI vK 0, vI vK 0], vI vK 8]) ∧ Below w.heap.size w w') ∧ (∀ (x0 : (bk == 0) = false) (x1 : (ak == 0) = true) (x2 : (code != 1) = true) (w : World), Calls Tryz.prog 65 #[vI vK code, .agg #[vI vK ak, vI vK al, vI vK ah], .agg #[vI vK bk, vI vK bl, vI vK bh]] w fun e w' => e = .returned (.tuple #[.agg #[vI vK 0, vI vK 0, vI vK 0], vI vK 8]) ∧ Below w.heap.size w w') ∧ (∀ (x0 : (bk == 0) = false) (x1 : (ak == 0) = true) (x2 : (code != 1) = false) (x3 : (code == 1) = true) (w : World), Calls Tryz.prog 65 #[vI vK code, .agg #[vI vK ak, vI vK al, vI vK ah], .agg #[vI vK bk, vI vK bl, vI vK bh]] w fun e w' => e = .returned (.tuple #[.agg #[vI vK bk, vI vK bl, vI vK bh], vI vK 0]) ∧ Below w.heap.size w w') ∧ (∀ (x0 : (bk == 0) = false) (x1 : (ak == 0) = false) (x2 : (code == 1) = true) (w : World), Calls Tryz.prog 65 #[vI vK code, .agg #[vI vK ak, vI vK al, vI vK ah], .agg #[vI vK bk, vI vK bl, vI vK bh]] w fun e w' => e = .returned (.tuple #[.agg #[vI vK bk, vI vK bl, vI vK bh], vI vK 0]) ∧ Below w.heap.size w w') := by
 refine ⟨?_, ?_, ?_, ?_⟩
 intro x0 w
 rotate_left
 intro x0 x1 x2 w
 rotate_left
 intro x0 x1 x2 x3 w
 rotate_left
 intro x0 x1 x2 w
 rotate_left
 all_goals
  have hK0 := Mk3.start w ak al ah bk bl bh
  obtain ⟨a0, a1, a2, b0, b1, b2, r0, r1, r2, f0, f1, f2, hn⟩ := hK0.cells
 all_goals
  go_enter Tryz.func65, Tryz.ntmps65
  go_wp2_with fail
  exact bodyPost_ret (by simp [results, Tryz.results65, go_sem, *]) rfl ⟨rfl, (by repeat' first | with_reducible (first | exact hbw | exact hbw1 | exact hbw2 | exact bF _ _ | refine bA ?_ ?_ _ | refine bS ?_ ?_ _ | refine bD ?_ | refine below_drewN ?_ _) | ((try dsimp only); omega) | (simp; done) | (simp; omega))⟩
def vmk_b0 := fun code ak al ah bk bl bh => (@z6y code ak al ah bk bl bh).1
def vmk_a0 := fun code ak al ah bk bl bh => (@z6y code ak al ah bk bl bh).2.1
def zN5 := fun code ak al ah bk bl bh => (@z6y code ak al ah bk bl bh).2.2.1
def zN4 := fun code ak al ah bk bl bh => (@z6y code ak al ah bk bl bh).2.2.2
theorem zN2 (code ak al ah bk bl bh : Int) (dl dh : Int) (HD : Hid (∀ W : World, Calls Tryz.prog 73 #[vI vK code, .agg #[vI vK al, vI vK ah], .agg #[vI vK bl, vI vK bh]] W fun e w' => e = .returned (.agg #[vI vK dl, vI vK dh]) ∧ Below W.heap.size W w')) (x0 : (bk == 0) = false) (x1 : (ak == 0) = false) (x2 : (code == 1) = false) (x3 : (ak == 1) = true) (x4 : (bk == 1) = true) (w : World) : Calls Tryz.prog 65 #[vI vK code, .agg #[vI vK ak, vI vK al, vI vK ah], .agg #[vI vK bk, vI vK bl, vI vK bh]] w fun e w' => e = .returned (.tuple #[.agg #[vI vK 1, vI vK dl, vI vK dh], vI vK 0]) ∧ Below w.heap.size w w' := by
 have hK0 := Mk3.start w ak al ah bk bl bh
 obtain ⟨a0, a1, a2, b0, b1, b2, r0, r1, r2, f0, f1, f2, hn⟩ := hK0.cells
 go_enter Tryz.func65, Tryz.ntmps65
 go_wp2_with (first
  | (go_at_call 73; go_must (refine (HD.out _).mono ?_; rintro e w1 ⟨rfl, hb1⟩; have hK1 : Mk3 w.heap.size ak al ah bk bl bh w1 := Mk3.later (by repeat' first | with_reducible (first | exact hK0 | exact hK1 | exact hK2 | exact hK3 | refine Mk3.drew ?_) | with_reducible refine Mk3.drewN ?_ _) hb1; have hbw1 : Below w.heap.size w w1 := (by ((refine Below.trans ?_ (hb1.mono ?_)) <;> repeat' first | with_reducible (first | exact bF _ _ | exact hbw1 | exact hbw2 | refine bA ?_ ?_ _ | refine bS ?_ ?_ _ | refine bD ?_ | refine below_drewN ?_ _) | ((try dsimp only); omega) | (simp; done) | (simp; omega) | omega)); clear a0 a1 a2 b0 b1 b2 r0 r1 r2 f0 f1 f2 hn; obtain ⟨a0, a1, a2, b0, b1, b2, r0, r1, r2, f0, f1, f2, hn⟩ := hK1.cells))
  | (go_at_call 62; go_must (refine (z1k _ _ _).mono ?_; rintro e w2 ⟨rfl, hb2⟩; simp only [Kno.v, z15]; have hK2 : Mk3 w.heap.size ak al ah bk bl bh w2 := Mk3.later (by repeat' first | with_reducible (first | exact hK0 | exact hK1 | exact hK2 | exact hK3 | refine Mk3.drew ?_) | with_reducible refine Mk3.drewN ?_ _) hb2; have hbw2 : Below w.heap.size w w2 := (by ((refine Below.trans ?_ (hb2.mono ?_)) <;> repeat' first | with_reducible (first | exact bF _ _ | exact hbw1 | exact hbw2 | refine bA ?_ ?_ _ | refine bS ?_ ?_ _ | refine bD ?_ | refine below_drewN ?_ _) | ((try dsimp only); omega) | (simp; done) | (simp; omega) | omega)); clear a0 a1 a2 b0 b1 b2 r0 r1 r2 f0 f1 f2 hn; obtain ⟨a0, a1, a2, b0, b1, b2, r0, r1, r2, f0, f1, f2, hn⟩ := hK2.cells))
  | fail)
 exact bodyPost_ret (v := .tuple #[.agg #[vI vK 1, vI vK dl, vI vK dh], vI vK 0]) (by simp [results, Tryz.results65, go_sem, *]) rfl ⟨rfl, (by repeat' first | with_reducible (first | exact hbw | exact hbw1 | exact hbw2 | exact bF _ _ | refine bA ?_ ?_ _ | refine bS ?_ ?_ _ | refine bD ?_ | refine below_drewN ?_ _) | ((try dsimp only); omega) | (simp; done) | (simp; omega))⟩
theorem z8x (code ak al ah bk bl bh : Int) : (∀ (dl dh : Int) (HD : Hid (∀ W : World, Calls Tryz.prog 73 #[vI vK code, .agg #[vI vK al, vI vK ah], .agg #[vI vK bl, vI vK bh]] W fun e w' => e = .returned (.agg #[vI vK dl, vI vK dh]) ∧ Below W.heap.size W w')) (gk gl gh E : Int) (HF : Hid (z1h bk (dl, dh) = (⟨gk, gl, gh⟩, E))) (HP : Hid (z1p ak = false)) (HQ : Hid (z1p bk = true)) (x0 : (bk == 0) = false) (x1 : (ak == 0) = false) (x2 : (code == 1) = false) (x3 : (ak == 1) = true) (x4 : (bk == 1) = false) (x5 : (code == 2) = true) (w : World), Calls Tryz.prog 65 #[vI vK code, .agg #[vI vK ak, vI vK al, vI vK ah], .agg #[vI vK bk, vI vK bl, vI vK bh]] w fun e w' => e = .returned (.tuple #[.agg #[vI vK gk, vI vK gl, vI vK gh], vI vK E]) ∧ Below w.heap.size w w') ∧ (∀ (HP : Hid (z1p ak = false)) (HQ : Hid (z1p bk = true)) (x0 : (bk == 0) = false) (x1 : (ak == 0) = false) (x2 : (code == 1) = false) (x3 : (ak == 1) = true) (x4 : (bk == 1) = false) (x5 : (code == 2) = false) (w : World), Calls Tryz.prog 65 #[vI vK code, .agg #[vI vK ak, vI vK al, vI vK ah], .agg #[vI vK bk, vI vK bl, vI vK bh]] w fun e w' => e = .returned (.tuple #[.agg #[vI vK 0, vI vK 0, vI vK 0], vI vK 1]) ∧ Below w.heap.size w w') ∧ (∀ (HP : Hid (z1p ak = false)) (HQ : Hid (z1p bk = false)) (x0 : (bk == 0) = false) (x1 : (ak == 0) = false) (x2 : (code == 1) = false) (x3 : (ak == 1) = true) (x4 : (bk == 1) = false) (w : World), Calls Tryz.prog 65 #[vI vK code, .agg #[vI vK ak, vI vK al, vI vK ah], .agg #[vI vK bk, vI vK bl, vI vK bh]] w fun e w' => e = .returned (.tuple #[.agg #[vI vK 0, vI vK 0, vI vK 0], vI vK 1]) ∧ Below w.heap.size w w') := by
 refine ⟨?_, ?_, ?_⟩
 intro dl dh HD gk gl gh E HF HP HQ x0 x1 x2 x3 x4 x5 w
 rotate_left
 intro HP HQ x0 x1 x2 x3 x4 x5 w
 rotate_left
 intro HP HQ x0 x1 x2 x3 x4 w
 rotate_left
 all_goals
  have hK0 := Mk3.start w ak al ah bk bl bh
  obtain ⟨a0, a1, a2, b0, b1, b2, r0, r1, r2, f0, f1, f2, hn⟩ := hK0.cells
 all_goals
  go_enter Tryz.func65, Tryz.ntmps65
  go_wp2_with (first
   | (go_at_call 72; have hg := HP.out; clear hg; go_must (refine (z49 ak al ah _).mono ?_; rintro e w1 ⟨rfl, hb1⟩; rw [HP.out]; clear HP; have hK1 : Mk3 w.heap.size ak al ah bk bl bh w1 := Mk3.later (by repeat' first | with_reducible (first | exact hK0 | exact hK1 | exact hK2 | exact hK3 | refine Mk3.drew ?_) | with_reducible refine Mk3.drewN ?_ _) hb1; have hbw1 : Below w.heap.size w w1 := (by ((refine Below.trans ?_ (hb1.mono ?_)) <;> repeat' first | with_reducible (first | exact bF _ _ | exact hbw1 | exact hbw2 | refine bA ?_ ?_ _ | refine bS ?_ ?_ _ | refine bD ?_ | refine below_drewN ?_ _) | ((try dsimp only); omega) | (simp; done) | (simp; omega) | omega)); clear a0 a1 a2 b0 b1 b2 r0 r1 r2 f0 f1 f2 hn; obtain ⟨a0, a1, a2, b0, b1, b2, r0, r1, r2, f0, f1, f2, hn⟩ := hK1.cells))
   | (go_at_call 72; go_must (refine (z49 bk bl bh _).mono ?_; rintro e w2 ⟨rfl, hb2⟩; rw [HQ.out]; have hK2 : Mk3 w.heap.size ak al ah bk bl bh w2 := Mk3.later (by repeat' first | with_reducible (first | exact hK0 | exact hK1 | exact hK2 | exact hK3 | refine Mk3.drew ?_) | with_reducible refine Mk3.drewN ?_ _) hb2; have hbw2 : Below w.heap.size w w2 := (by ((refine Below.trans ?_ (hb2.mono ?_)) <;> repeat' first | with_reducible (first | exact bF _ _ | exact hbw1 | exact hbw2 | refine bA ?_ ?_ _ | refine bS ?_ ?_ _ | refine bD ?_ | refine below_drewN ?_ _) | ((try dsimp only); omega) | (simp; done) | (simp; omega) | omega)); clear a0 a1 a2 b0 b1 b2 r0 r1 r2 f0 f1 f2 hn; obtain ⟨a0, a1, a2, b0, b1, b2, r0, r1, r2, f0, f1, f2, hn⟩ := hK2.cells))
   | fail)
 ·go_region_held3 (fun w' => w'.cell? ⟨w.heap.size, 0, none⟩ = some (vI vK ak) ∧ w'.cell? ⟨w.heap.size, 1, none⟩ = some (vI vK al) ∧ w'.cell? ⟨w.heap.size, 2, none⟩ = some (vI vK ah) ∧ w'.cell? ⟨w.heap.size + 1, 0, none⟩ = some (vI vK bk) ∧ w'.cell? ⟨w.heap.size + 1, 1, none⟩ = some (vI vK bl) ∧ w'.cell? ⟨w.heap.size + 1, 2, none⟩ = some (vI vK bh)) (first | (simp [go_sem]; done) | (simp [go_sem, *]; done) | go_keep) (first
   | (go_at_call 73; go_must (refine (HD.out _).mono ?_; rintro e w2 ⟨rfl, hb2⟩; have hK2 : Mk3 w.heap.size ak al ah bk bl bh w2 := Mk3.later (by repeat' first | with_reducible (first | exact hK0 | exact hK1 | exact hK2 | exact hK3 | refine Mk3.drew ?_) | with_reducible refine Mk3.drewN ?_ _) hb2; have hbw2 : Below w.heap.size w w2 := (by ((refine Below.trans ?_ (hb2.mono ?_)) <;> repeat' first | with_reducible (first | exact bF _ _ | exact hbw1 | exact hbw2 | refine bA ?_ ?_ _ | refine bS ?_ ?_ _ | refine bD ?_ | refine below_drewN ?_ _) | ((try dsimp only); omega) | (simp; done) | (simp; omega) | omega)); clear a0 a1 a2 b0 b1 b2 r0 r1 r2 f0 f1 f2 hn; obtain ⟨a0, a1, a2, b0, b1, b2, r0, r1, r2, f0, f1, f2, hn⟩ := hK2.cells))
   | (go_at_call 75; go_must (refine (z99 bk dl dh _).mono ?_; rintro e w3 ⟨rfl, hb3⟩; rw [HF.out]; simp only [Kno.v]; have hK3 : Mk3 w.heap.size ak al ah bk bl bh w3 := Mk3.later (by repeat' first | with_reducible (first | exact hK0 | exact hK1 | exact hK2 | exact hK3 | refine Mk3.drew ?_) | with_reducible refine Mk3.drewN ?_ _) hb3; have hbw3 : Below w.heap.size w w3 := (by ((refine Below.trans ?_ (hb3.mono ?_)) <;> repeat' first | with_reducible (first | exact bF _ _ | exact hbw1 | exact hbw2 | refine bA ?_ ?_ _ | refine bS ?_ ?_ _ | refine bD ?_ | refine below_drewN ?_ _) | ((try dsimp only); omega) | (simp; done) | (simp; omega) | omega)); clear a0 a1 a2 b0 b1 b2 r0 r1 r2 f0 f1 f2 hn; obtain ⟨a0, a1, a2, b0, b1, b2, r0, r1, r2, f0, f1, f2, hn⟩ := hK3.cells)))
  all_goals go_wp2_with fail
  all_goals exact bodyPost_ret (v := .tuple #[.agg #[vI vK gk, vI vK gl, vI vK gh], vI vK E]) (by simp [results, Tryz.results65, go_sem, *]) rfl ⟨rfl, (by repeat' first | with_reducible (first | exact hbw | exact hbw1 | exact hbw2 | exact bF _ _ | refine bA ?_ ?_ _ | refine bS ?_ ?_ _ | refine bD ?_ | refine below_drewN ?_ _) | ((try dsimp only); omega) | (simp; done) | (simp; omega))⟩
 iterate 2
  ·exact bodyPost_ret (v := .tuple #[.agg #[vI vK 0, vI vK 0, vI vK 0], vI vK 1]) (by simp [results, Tryz.results65, go_sem, *]) rfl ⟨rfl, (by repeat' first | with_reducible (first | exact hbw | exact hbw1 | exact hbw2 | exact bF _ _ | refine bA ?_ ?_ _ | refine bS ?_ ?_ _ | refine bD ?_ | refine below_drewN ?_ _) | ((try dsimp only); omega) | (simp; done) | (simp; omega))⟩
def zN3 := fun code ak al ah bk bl bh => (@z8x code ak al ah bk bl bh).1
def zR5 := fun code ak al ah bk bl bh => (@z8x code ak al ah bk bl bh).2.1
def vmk_nb := fun code ak al ah bk bl bh => (@z8x code ak al ah bk bl bh).2.2
theorem z5j (code ak al ah bk bl bh : Int) : (∀ (dl dh : Int) (HD : Hid (∀ W : World, Calls Tryz.prog 73 #[vI vK code, .agg #[vI vK al, vI vK ah], .agg #[vI vK bl, vI vK bh]] W fun e w' => e = .returned (.agg #[vI vK dl, vI vK dh]) ∧ Below W.heap.size W w')) (gk gl gh E : Int) (HF : Hid (z1h ak (dl, dh) = (⟨gk, gl, gh⟩, E))) (HP : Hid (z1p ak = true)) (x0 : (bk == 0) = false) (x1 : (ak == 0) = false) (x2 : (code == 1) = false) (x3 : (ak == 1) = false) (x4 : (bk == 1) = true) (x5 : (code == 2) = true) (w : World), Calls Tryz.prog 65 #[vI vK code, .agg #[vI vK ak, vI vK al, vI vK ah], .agg #[vI vK bk, vI vK bl, vI vK bh]] w fun e w' => e = .returned (.tuple #[.agg #[vI vK gk, vI vK gl, vI vK gh], vI vK E]) ∧ Below w.heap.size w w') ∧ (∀ (dl dh : Int) (HD : Hid (∀ W : World, Calls Tryz.prog 73 #[vI vK code, .agg #[vI vK al, vI vK ah], .agg #[vI vK bl, vI vK bh]] W fun e w' => e = .returned (.agg #[vI vK dl, vI vK dh]) ∧ Below W.heap.size W w')) (gk gl gh E : Int) (HF : Hid (z1h ak (dl, dh) = (⟨gk, gl, gh⟩, E))) (HP : Hid (z1p ak = true)) (x0 : (bk == 0) = false) (x1 : (ak == 0) = false) (x2 : (code == 1) = false) (x3 : (ak == 1) = false) (x4 : (bk == 1) = true) (x5 : (code == 2) = false) (x6 : (code == 3) = true) (w : World), Calls Tryz.prog 65 #[vI vK code, .agg #[vI vK ak, vI vK al, vI vK ah], .agg #[vI vK bk, vI vK bl, vI vK bh]] w fun e w' => e = .returned (.tuple #[.agg #[vI vK gk, vI vK gl, vI vK gh], vI vK E]) ∧ Below w.heap.size w w') ∧ (∀ (HP : Hid (z1p ak = true)) (x0 : (bk == 0) = false) (x1 : (ak == 0) = false) (x2 : (code == 1) = false) (x3 : (ak == 1) = false) (x4 : (bk == 1) = true) (x5 : (code == 2) = false) (x6 : (code == 3) = false) (w : World), Calls Tryz.prog 65 #[vI vK code, .agg #[vI vK ak, vI vK al, vI vK ah], .agg #[vI vK bk, vI vK bl, vI vK bh]] w fun e w' => e = .returned (.tuple #[.agg #[vI vK 0, vI vK 0, vI vK 0], vI vK 1]) ∧ Below w.heap.size w w') ∧ (∀ (HP : Hid (z1p ak = true)) (x0 : (bk == 0) = false) (x1 : (ak == 0) = false) (x2 : (code == 1) = false) (x3 : (ak == 1) = false) (x4 : (bk == 1) = false) (w : World), Calls Tryz.prog 65 #[vI vK code, .agg #[vI vK ak, vI vK al, vI vK ah], .agg #[vI vK bk, vI vK bl, vI vK bh]] w fun e w' => e = .returned (.tuple #[.agg #[vI vK 0, vI vK 0, vI vK 0], vI vK 1]) ∧ Below w.heap.size w w') ∧ (∀ (HP : Hid (z1p ak = false)) (x0 : (bk == 0) = false) (x1 : (ak == 0) = false) (x2 : (code == 1) = false) (x3 : (ak == 1) = false) (w : World), Calls Tryz.prog 65 #[vI vK code, .agg #[vI vK ak, vI vK al, vI vK ah], .agg #[vI vK bk, vI vK bl, vI vK bh]] w fun e w' => e = .returned (.tuple #[.agg #[vI vK 0, vI vK 0, vI vK 0], vI vK 1]) ∧ Below w.heap.size w w') := by
 refine ⟨?_, ?_, ?_, ?_, ?_⟩
 intro dl dh HD gk gl gh E HF HP x0 x1 x2 x3 x4 x5 w
 rotate_left
 intro dl dh HD gk gl gh E HF HP x0 x1 x2 x3 x4 x5 x6 w
 rotate_left
 intro HP x0 x1 x2 x3 x4 x5 x6 w
 rotate_left
 intro HP x0 x1 x2 x3 x4 w
 rotate_left
 intro HP x0 x1 x2 x3 w
 rotate_left
 all_goals
  have hK0 := Mk3.start w ak al ah bk bl bh
  obtain ⟨a0, a1, a2, b0, b1, b2, r0, r1, r2, f0, f1, f2, hn⟩ := hK0.cells
 all_goals
  go_enter Tryz.func65, Tryz.ntmps65
  go_wp2_with (first
   | (go_at_call 72; go_must (refine (z49 ak al ah _).mono ?_; rintro e w1 ⟨rfl, hb1⟩; rw [HP.out]; have hK1 : Mk3 w.heap.size ak al ah bk bl bh w1 := Mk3.later (by repeat' first | with_reducible (first | exact hK0 | exact hK1 | exact hK2 | exact hK3 | refine Mk3.drew ?_) | with_reducible refine Mk3.drewN ?_ _) hb1; have hbw1 : Below w.heap.size w w1 := (by ((refine Below.trans ?_ (hb1.mono ?_)) <;> repeat' first | with_reducible (first | exact bF _ _ | exact hbw1 | exact hbw2 | refine bA ?_ ?_ _ | refine bS ?_ ?_ _ | refine bD ?_ | refine below_drewN ?_ _) | ((try dsimp only); omega) | (simp; done) | (simp; omega) | omega)); clear a0 a1 a2 b0 b1 b2 r0 r1 r2 f0 f1 f2 hn; obtain ⟨a0, a1, a2, b0, b1, b2, r0, r1, r2, f0, f1, f2, hn⟩ := hK1.cells))
   | fail)
 iterate 2
  ·go_region_held3 (fun w' => w'.cell? ⟨w.heap.size, 0, none⟩ = some (vI vK ak) ∧ w'.cell? ⟨w.heap.size, 1, none⟩ = some (vI vK al) ∧ w'.cell? ⟨w.heap.size, 2, none⟩ = some (vI vK ah) ∧ w'.cell? ⟨w.heap.size + 1, 0, none⟩ = some (vI vK bk) ∧ w'.cell? ⟨w.heap.size + 1, 1, none⟩ = some (vI vK bl) ∧ w'.cell? ⟨w.heap.size + 1, 2, none⟩ = some (vI vK bh)) (first | (simp [go_sem]; done) | (simp [go_sem, *]; done) | go_keep) (first
    | (go_at_call 73; go_must (refine (HD.out _).mono ?_; rintro e w2 ⟨rfl, hb2⟩; have hK2 : Mk3 w.heap.size ak al ah bk bl bh w2 := Mk3.later (by repeat' first | with_reducible (first | exact hK0 | exact hK1 | exact hK2 | exact hK3 | refine Mk3.drew ?_) | with_reducible refine Mk3.drewN ?_ _) hb2; have hbw2 : Below w.heap.size w w2 := (by ((refine Below.trans ?_ (hb2.mono ?_)) <;> repeat' first | with_reducible (first | exact bF _ _ | exact hbw1 | exact hbw2 | refine bA ?_ ?_ _ | refine bS ?_ ?_ _ | refine bD ?_ | refine below_drewN ?_ _) | ((try dsimp only); omega) | (simp; done) | (simp; omega) | omega)); clear a0 a1 a2 b0 b1 b2 r0 r1 r2 f0 f1 f2 hn; obtain ⟨a0, a1, a2, b0, b1, b2, r0, r1, r2, f0, f1, f2, hn⟩ := hK2.cells))
    | (go_at_call 75; go_must (refine (z99 ak dl dh _).mono ?_; rintro e w3 ⟨rfl, hb3⟩; rw [HF.out]; simp only [Kno.v]; have hK3 : Mk3 w.heap.size ak al ah bk bl bh w3 := Mk3.later (by repeat' first | with_reducible (first | exact hK0 | exact hK1 | exact hK2 | exact hK3 | refine Mk3.drew ?_) | with_reducible refine Mk3.drewN ?_ _) hb3; have hbw3 : Below w.heap.size w w3 := (by ((refine Below.trans ?_ (hb3.mono ?_)) <;> repeat' first | with_reducible (first | exact bF _ _ | exact hbw1 | exact hbw2 | refine bA ?_ ?_ _ | refine bS ?_ ?_ _ | refine bD ?_ | refine below_drewN ?_ _) | ((try dsimp only); omega) | (simp; done) | (simp; omega) | omega)); clear a0 a1 a2 b0 b1 b2 r0 r1 r2 f0 f1 f2 hn; obtain ⟨a0, a1, a2, b0, b1, b2, r0, r1, r2, f0, f1, f2, hn⟩ := hK3.cells)))
   all_goals go_wp2_with fail
   all_goals exact bodyPost_ret (v := .tuple #[.agg #[vI vK gk, vI vK gl, vI vK gh], vI vK E]) (by simp [results, Tryz.results65, go_sem, *]) rfl ⟨rfl, (by repeat' first | with_reducible (first | exact hbw | exact hbw1 | exact hbw2 | exact bF _ _ | refine bA ?_ ?_ _ | refine bS ?_ ?_ _ | refine bD ?_ | refine below_drewN ?_ _) | ((try dsimp only); omega) | (simp; done) | (simp; omega))⟩
 iterate 3
  ·exact bodyPost_ret (v := .tuple #[.agg #[vI vK 0, vI vK 0, vI vK 0], vI vK 1]) (by simp [results, Tryz.results65, go_sem, *]) rfl ⟨rfl, (by repeat' first | with_reducible (first | exact hbw | exact hbw1 | exact hbw2 | exact bF _ _ | refine bA ?_ ?_ _ | refine bS ?_ ?_ _ | refine bD ?_ | refine below_drewN ?_ _) | ((try dsimp only); omega) | (simp; done) | (simp; omega))⟩
def zN1 := fun code ak al ah bk bl bh => (@z5j code ak al ah bk bl bh).1
def zN0 := fun code ak al ah bk bl bh => (@z5j code ak al ah bk bl bh).2.1
def zR4 := fun code ak al ah bk bl bh => (@z5j code ak al ah bk bl bh).2.2.1
def vmk_pb := fun code ak al ah bk bl bh => (@z5j code ak al ah bk bl bh).2.2.2.1
def vmk_m := fun code ak al ah bk bl bh => (@z5j code ak al ah bk bl bh).2.2.2.2
end Go.Proofs.YteenhdoaminkeaaGreatDoor
