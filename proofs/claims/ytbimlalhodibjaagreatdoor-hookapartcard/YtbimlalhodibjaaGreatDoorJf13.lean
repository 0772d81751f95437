/-
 The frame of a method of package verify: its step in one box, its way in another. No conditions. What package verify's further, makes and reach return, of what is known of values. Conditions: the ends are of 64 bits, in order. What package verify's reach returns: which words, or slots, a place leads to. Conditions: the ends are of 64 bits, in order. What package verify's begin and on return: a way at its first step, a way further on. Conditions: the steps are of 64 bits. A way of a verifier, on plain numbers: stores, calls and what a code makes: a machine of which what is known is so goes on well. No program is named here. Conditions: the ends are of 64 bits; the step is right.
-/
import Derived.Test.YtbimlalhodibjaaGreatDoorJf11
import Derived.Deep.DeepCutAuto
import Derived.Deep.DeepMust
import Derived.BigQuiet
import Derived.Deep.QuietTactic
import Derived.Test.YtbimlalhodibjaaGreatDoorJf12
import Derived.Test.YtbimlalhodibjaaGreatDoorJf10
set_option maxHeartbeats 40000000
open Go.Value renaming int → A
open Go.IntKind renaming i64 → D
open Go.RowKit.Below renaming alloc → bA, setCell → bS, drew → bD, refl → bF
set_option maxRecDepth 1000000
set_option linter.defProp false
set_option linter.unusedVariables false
set_option linter.unusedSimpArgs false
open Go.Ending renaming returned → rT
open Go.Value renaming pointer → pT
open Go.Obj renaming cells → cT
open Go.Proofs.Tryz renaming prog → tP
namespace Go.Proofs.YtbimlalhodibjaaGreatDoor
section
open Go.ChangeShapes Go.WideShapes Go.ChangeAt Go.RowKit
section
variable {S B : Nat} {c d s o n p : Int} {r : Bool} {y : Way} {w w1 : World}
end
end
section
open Go.ChangeShapes Go.WideShapes Go.ChangeAt Go.RowKit
attribute [local simp] z00 z0d z07
theorem zJe (k : Int) (w : World) : Calls tP 180 #[A D k, .agg #[A D (-9223372036854775808), A D 9223372036854775807]] w fun e w' => e = rT (.tuple #[.agg #[A D 0, A D 0, A D 0], A D 2]) /\ Below w.heap.size w w' := by
 go_enter Tryz.func180, Tryz.ntmps180
 go_wp2_with fail
 go_region_held3 (fun w' => w'.cell? ⟨w.heap.size, 0, none⟩ = some (A D (-9223372036854775808)) /\ w'.cell? ⟨w.heap.size, 1, none⟩ = some (A D 9223372036854775807)) (first | (simp [go_sem]; done) | (simp [go_sem, *]; done) | go_keep) (first
  | (go_at_call 141; go_must (refine (z2v _).mono ?_; rintro e w1 ⟨rfl, hb1⟩; have hbw1 : Below w.heap.size w w1 := (by ((refine Below.trans ?_ (hb1.mono ?_)) <;> repeat' first | with_reducible (first | exact bF _ _ | exact hbw1 | refine bA ?_ ?_ _ | refine bS ?_ ?_ _ | refine bD ?_ | refine below_drewN ?_ _) | ((try dsimp only); omega) | (simp; done) | (simp; omega) | omega)); have v6 := z15 hb1 w.heap.size; have v7 := z15 hb1 (w.heap.size + 1); (try simp [go_sem] at v6); (try simp [go_sem] at v7))))
 all_goals go_wp2_with fail
 all_goals exact bodyPost_ret (v := .tuple #[.agg #[A D 0, A D 0, A D 0], A D 2]) (by simp [results, Tryz.results180, go_sem, v7]) rfl ⟨rfl, (by repeat' first | with_reducible (first | exact hbw | exact hbw1 | exact hbw2 | exact bF _ _ | refine bA ?_ ?_ _ | refine bS ?_ ?_ _ | refine bD ?_ | refine below_drewN ?_ _) | ((try dsimp only); omega) | (simp; done) | (simp; omega))⟩
theorem zQu (k h : Int) (hne : ¬ h = 9223372036854775807) (w : World) : Calls tP 180 #[A D k, .agg #[A D (-9223372036854775808), A D h]] w fun e w' => e = rT (.tuple #[.agg #[A D k, A D (-9223372036854775808), A D h], A D 0]) /\ Below w.heap.size w w' := by
 go_enter Tryz.func180, Tryz.ntmps180
 go_wp2_with fail
 go_region_held3 (fun w' => w'.cell? ⟨w.heap.size, 0, none⟩ = some (A D (-9223372036854775808)) /\ w'.cell? ⟨w.heap.size, 1, none⟩ = some (A D h)) (first | (simp [go_sem]; done) | (simp [go_sem, *]; done) | go_keep) (first
  | (go_at_call 141; go_must (refine (z2v _).mono ?_; rintro e w1 ⟨rfl, hb1⟩; have hbw1 : Below w.heap.size w w1 := (by ((refine Below.trans ?_ (hb1.mono ?_)) <;> repeat' first | with_reducible (first | exact bF _ _ | exact hbw1 | refine bA ?_ ?_ _ | refine bS ?_ ?_ _ | refine bD ?_ | refine below_drewN ?_ _) | ((try dsimp only); omega) | (simp; done) | (simp; omega) | omega)); have v6 := z15 hb1 w.heap.size; have v7 := z15 hb1 (w.heap.size + 1); (try simp [go_sem] at v6); (try simp [go_sem] at v7))))
 all_goals go_wp2_with fail
 all_goals exact bodyPost_ret (v := .tuple #[.agg #[A D k, A D (-9223372036854775808), A D h], A D 0]) (by simp [results, Tryz.results180, go_sem, v7]) rfl ⟨rfl, (by repeat' first | with_reducible (first | exact hbw | exact hbw1 | exact hbw2 | exact bF _ _ | refine bA ?_ ?_ _ | refine bS ?_ ?_ _ | refine bD ?_ | refine below_drewN ?_ _) | ((try dsimp only); omega) | (simp; done) | (simp; omega))⟩
theorem zQt (k l h : Int) (hne : ¬ l = -9223372036854775808) (w : World) : Calls tP 180 #[A D k, .agg #[A D l, A D h]] w fun e w' => e = rT (.tuple #[.agg #[A D k, A D l, A D h], A D 0]) /\ Below w.heap.size w w' := by
 go_enter Tryz.func180, Tryz.ntmps180
 go_wp2_with fail
 go_region_held3 (fun w' => w'.cell? ⟨w.heap.size, 0, none⟩ = some (A D l) /\ w'.cell? ⟨w.heap.size, 1, none⟩ = some (A D h)) (first | (simp [go_sem]; done) | (simp [go_sem, *]; done) | go_keep) (first
  | (go_at_call 141; go_must (refine (z2v _).mono ?_; rintro e w1 ⟨rfl, hb1⟩; have hbw1 : Below w.heap.size w w1 := (by ((refine Below.trans ?_ (hb1.mono ?_)) <;> repeat' first | with_reducible (first | exact bF _ _ | exact hbw1 | refine bA ?_ ?_ _ | refine bS ?_ ?_ _ | refine bD ?_ | refine below_drewN ?_ _) | ((try dsimp only); omega) | (simp; done) | (simp; omega) | omega)); have v6 := z15 hb1 w.heap.size; have v7 := z15 hb1 (w.heap.size + 1); (try simp [go_sem] at v6); (try simp [go_sem] at v7))))
 all_goals go_wp2_with fail
 all_goals exact bodyPost_ret (v := .tuple #[.agg #[A D k, A D l, A D h], A D 0]) (by simp [results, Tryz.results180, go_sem, v7]) rfl ⟨rfl, (by repeat' first | with_reducible (first | exact hbw | exact hbw1 | exact hbw2 | exact bF _ _ | refine bA ?_ ?_ _ | refine bS ?_ ?_ _ | refine bD ?_ | refine below_drewN ?_ _) | ((try dsimp only); omega) | (simp; done) | (simp; omega))⟩
theorem zBb (k l h : Int) (w : World) : Calls tP 180 #[A D k, .agg #[A D l, A D h]] w fun e w' => e = rT (.tuple #[(z1m k (l, h)).1.v, A D (z1m k (l, h)).2]) /\ Below w.heap.size w w' := by
 unfold z1m
 by_cases h1 : l = -9223372036854775808
 ·by_cases h2 : h = 9223372036854775807
  ·rw [if_pos ⟨h1, h2⟩]; subst h1; subst h2; exact zJe k w
  ·rw [if_neg (fun e => h2 e.2)]; subst h1; exact zQu k h h2 w
 ·rw [if_neg (fun e => h1 e.1)]; exact zQt k l h h1 w
structure Mk3 (n : Nat) (ak al ah bk bl bh : Int) (w : World) : Prop where
 a : w.heap[n]? = some (cT #[A D ak, A D al, A D ah] 201 (0, 0))
 b : w.heap[n + 1]? = some (cT #[A D bk, A D bl, A D bh] 201 (0, 0))
 r : w.heap[n + 1 + 1]? = some (cT #[A D 0, A D 0, A D 0] 201 (0, 0))
section
variable {n : Nat} {ak al ah bk bl bh : Int} {w w1 : World}
theorem Mk3.lt (h : Mk3 n ak al ah bk bl bh w) : n + 1 + 1 < w.heap.size := (Array.getElem?_eq_some_iff.1 h.r).1
theorem Mk3.later (h : Mk3 n ak al ah bk bl bh w) (hb : Below w.heap.size w w1) : Mk3 n ak al ah bk bl bh w1 := by
 have := h.lt
 exact ⟨(hb.block _ (by omega)).trans h.a, (hb.block _ (by omega)).trans h.b, (hb.block _ (by omega)).trans h.r⟩
theorem Mk3.drew (h : Mk3 n ak al ah bk bl bh w) : Mk3 n ak al ah bk bl bh w.drew := ⟨h.a, h.b, h.r⟩
theorem Mk3.drewN (h : Mk3 n ak al ah bk bl bh w) (k : Nat) : Mk3 n ak al ah bk bl bh (w.drewN k) := ⟨h.a, h.b, h.r⟩
theorem Mk3.cells (h : Mk3 n ak al ah bk bl bh w) : w.cell? ⟨n, 0, none⟩ = some (A D ak) /\ w.cell? ⟨n, 1, none⟩ = some (A D al) /\ w.cell? ⟨n, 2, none⟩ = some (A D ah) /\ w.cell? ⟨n + 1, 0, none⟩ = some (A D bk) /\ w.cell? ⟨n + 1, 1, none⟩ = some (A D bl) /\ w.cell? ⟨n + 1, 2, none⟩ = some (A D bh) /\ w.cell? ⟨n + 1 + 1, 0, none⟩ = some (A D 0) /\ w.cell? ⟨n + 1 + 1, 1, none⟩ = some (A D 0) /\ w.cell? ⟨n + 1 + 1, 2, none⟩ = some (A D 0) /\ w.frozen? ⟨n + 1 + 1, 0, none⟩ = false /\ w.frozen? ⟨n + 1 + 1, 1, none⟩ = false /\ w.frozen? ⟨n + 1 + 1, 2, none⟩ = false /\ n + 1 + 1 < w.heap.size := by
 have e1 := h.a
 have e2 := h.b
 have e3 := h.r
 exact ⟨by simp [World.cell?, e1], by simp [World.cell?, e1], by simp [World.cell?, e1], by simp [World.cell?, e2], by simp [World.cell?, e2], by simp [World.cell?, e2], by simp [World.cell?, e3], by simp [World.cell?, e3], by simp [World.cell?, e3], by simp [World.frozen?, e3], by simp [World.frozen?, e3], by simp [World.frozen?, e3], h.lt⟩
theorem Mk3.start (w : World) (ak al ah bk bl bh : Int) : Mk3 w.heap.size ak al ah bk bl bh (((w.alloc (cT #[A D ak, A D al, A D ah] 201)).alloc (cT #[A D bk, A D bl, A D bh] 201)).alloc (cT #[A D 0, A D 0, A D 0] 201)) := by
 refine ⟨?_, ?_, ?_⟩
 ·rw [Below.heap_alloc _ _ _ (by simp; omega), Below.heap_alloc _ _ _ (by simp)]; exact heap_alloc_new _ _
 ·rw [Below.heap_alloc _ _ _ (by simp)]; exact heap_alloc2_new _ _ _
 ·have := heap_alloc_new ((w.alloc (cT #[A D ak, A D al, A D ah] 201)).alloc (cT #[A D bk, A D bl, A D bh] 201)) (cT #[A D 0, A D 0, A D 0] 201)
  simp only [World.size_alloc] at this
  exact this
end
theorem z7u (code ak al ah bk bl bh : Int) : (∀ (x0 : (bk == 0) = true) (w : World), Calls tP 143 #[A D code, .agg #[A D ak, A D al, A D ah], .agg #[A D bk, A D bl, A D bh]] w fun e w' => e = rT (.tuple #[.agg #[A D 0, A D 0, A D 0], A D 8]) /\ Below w.heap.size w w') /\ (∀ (x0 : (bk == 0) = false) (x1 : (ak == 0) = true) (x2 : (code != 1) = true) (w : World), Calls tP 143 #[A D code, .agg #[A D ak, A D al, A D ah], .agg #[A D bk, A D bl, A D bh]] w fun e w' => e = rT (.tuple #[.agg #[A D 0, A D 0, A D 0], A D 8]) /\ Below w.heap.size w w') /\ (∀ (x0 : (bk == 0) = false) (x1 : (ak == 0) = true) (x2 : (code != 1) = false) (x3 : (code == 1) = true) (w : World), Calls tP 143 #[A D code, .agg #[A D ak, A D al, A D ah], .agg #[A D bk, A D bl, A D bh]] w fun e w' => e = rT (.tuple #[.agg #[A D bk, A D bl, A D bh], A D 0]) /\ Below w.heap.size w w') /\ (∀ (x0 : (bk == 0) = false) (x1 : (ak == 0) = false) (x2 : (code == 1) = true) (w : World), Calls tP 143 #[A D code, .agg #[A D ak, A D al, A D ah], .agg #[A D bk, A D bl, A D bh]] w fun e w' => e = rT (.tuple #[.agg #[A D bk, A D bl, A D bh], A D 0]) /\ Below w.heap.size w w') := by
 refine ⟨?_, ?_, ?_, ?_⟩
 intro x0 w
 rotate_left
 intro x0 x1 x2 w
 rotate_left
 intro x0 x1 x2 x3 w
 rotate_left
 intro x0 x1 x2 w
 rotate_left
 all_goals
  have hK0 := Mk3.start w ak al ah bk bl bh
  obtain ⟨a0, a1, a2, b0, b1, b2, r0, r1, r2, f0, f1, f2, hn⟩ := hK0.cells
 all_goals
  go_enter Tryz.func143, Tryz.ntmps143
  go_wp2_with fail
  exact bodyPost_ret (by simp [results, Tryz.results143, go_sem, *]) rfl ⟨rfl, (by repeat' first | with_reducible (first | exact hbw | exact hbw1 | exact hbw2 | exact bF _ _ | refine bA ?_ ?_ _ | refine bS ?_ ?_ _ | refine bD ?_ | refine below_drewN ?_ _) | ((try dsimp only); omega) | (simp; done) | (simp; omega))⟩
def vmk_b0 := fun code ak al ah bk bl bh => (@z7u code ak al ah bk bl bh).1
def vmk_a0 := fun code ak al ah bk bl bh => (@z7u code ak al ah bk bl bh).2.1
def zSs := fun code ak al ah bk bl bh => (@z7u code ak al ah bk bl bh).2.2.1
def zSr := fun code ak al ah bk bl bh => (@z7u code ak al ah bk bl bh).2.2.2
theorem zSp (code ak al ah bk bl bh : Int) (dl dh : Int) (HD : Hid (∀ W : World, Calls tP 178 #[A D code, .agg #[A D al, A D ah], .agg #[A D bl, A D bh]] W fun e w' => e = rT (.agg #[A D dl, A D dh]) /\ Below W.heap.size W w')) (x0 : (bk == 0) = false) (x1 : (ak == 0) = false) (x2 : (code == 1) = false) (x3 : (ak == 1) = true) (x4 : (bk == 1) = true) (w : World) : Calls tP 143 #[A D code, .agg #[A D ak, A D al, A D ah], .agg #[A D bk, A D bl, A D bh]] w fun e w' => e = rT (.tuple #[.agg #[A D 1, A D dl, A D dh], A D 0]) /\ Below w.heap.size w w' := by
 have hK0 := Mk3.start w ak al ah bk bl bh
 obtain ⟨a0, a1, a2, b0, b1, b2, r0, r1, r2, f0, f1, f2, hn⟩ := hK0.cells
 go_enter Tryz.func143, Tryz.ntmps143
 go_wp2_with (first
  | (go_at_call 178; go_must (refine (HD.out _).mono ?_; rintro e w1 ⟨rfl, hb1⟩; have hK1 : Mk3 w.heap.size ak al ah bk bl bh w1 := Mk3.later (by repeat' first | with_reducible (first | exact hK0 | exact hK1 | exact hK2 | exact hK3 | refine Mk3.drew ?_) | with_reducible refine Mk3.drewN ?_ _) hb1; have hbw1 : Below w.heap.size w w1 := (by ((refine Below.trans ?_ (hb1.mono ?_)) <;> repeat' first | with_reducible (first | exact bF _ _ | exact hbw1 | exact hbw2 | refine bA ?_ ?_ _ | refine bS ?_ ?_ _ | refine bD ?_ | refine below_drewN ?_ _) | ((try dsimp only); omega) | (simp; done) | (simp; omega) | omega)); clear a0 a1 a2 b0 b1 b2 r0 r1 r2 f0 f1 f2 hn; obtain ⟨a0, a1, a2, b0, b1, b2, r0, r1, r2, f0, f1, f2, hn⟩ := hK1.cells))
  | (go_at_call 140; go_must (refine (z1g _ _ _).mono ?_; rintro e w2 ⟨rfl, hb2⟩; simp only [Kno.v, z1d]; have hK2 : Mk3 w.heap.size ak al ah bk bl bh w2 := Mk3.later (by repeat' first | with_reducible (first | exact hK0 | exact hK1 | exact hK2 | exact hK3 | refine Mk3.drew ?_) | with_reducible refine Mk3.drewN ?_ _) hb2; have hbw2 : Below w.heap.size w w2 := (by ((refine Below.trans ?_ (hb2.mono ?_)) <;> repeat' first | with_reducible (first | exact bF _ _ | exact hbw1 | exact hbw2 | refine bA ?_ ?_ _ | refine bS ?_ ?_ _ | refine bD ?_ | refine below_drewN ?_ _) | ((try dsimp only); omega) | (simp; done) | (simp; omega) | omega)); clear a0 a1 a2 b0 b1 b2 r0 r1 r2 f0 f1 f2 hn; obtain ⟨a0, a1, a2, b0, b1, b2, r0, r1, r2, f0, f1, f2, hn⟩ := hK2.cells))
  | fail)
 exact bodyPost_ret (v := .tuple #[.agg #[A D 1, A D dl, A D dh], A D 0]) (by simp [results, Tryz.results143, go_sem, *]) rfl ⟨rfl, (by repeat' first | with_reducible (first | exact hbw | exact hbw1 | exact hbw2 | exact bF _ _ | refine bA ?_ ?_ _ | refine bS ?_ ?_ _ | refine bD ?_ | refine below_drewN ?_ _) | ((try dsimp only); omega) | (simp; done) | (simp; omega))⟩
theorem zB6 (code ak al ah bk bl bh : Int) : (∀ (dl dh : Int) (HD : Hid (∀ W : World, Calls tP 178 #[A D code, .agg #[A D al, A D ah], .agg #[A D bl, A D bh]] W fun e w' => e = rT (.agg #[A D dl, A D dh]) /\ Below W.heap.size W w')) (gk gl gh E : Int) (HF : Hid (z1m bk (dl, dh) = (⟨gk, gl, gh⟩, E))) (HP : Hid (z1k ak = false)) (HQ : Hid (z1k bk = true)) (x0 : (bk == 0) = false) (x1 : (ak == 0) = false) (x2 : (code == 1) = false) (x3 : (ak == 1) = true) (x4 : (bk == 1) = false) (x5 : (code == 2) = true) (w : World), Calls tP 143 #[A D code, .agg #[A D ak, A D al, A D ah], .agg #[A D bk, A D bl, A D bh]] w fun e w' => e = rT (.tuple #[.agg #[A D gk, A D gl, A D gh], A D E]) /\ Below w.heap.size w w') /\ (∀ (HP : Hid (z1k ak = false)) (HQ : Hid (z1k bk = true)) (x0 : (bk == 0) = false) (x1 : (ak == 0) = false) (x2 : (code == 1) = false) (x3 : (ak == 1) = true) (x4 : (bk == 1) = false) (x5 : (code == 2) = false) (w : World), Calls tP 143 #[A D code, .agg #[A D ak, A D al, A D ah], .agg #[A D bk, A D bl, A D bh]] w fun e w' => e = rT (.tuple #[.agg #[A D 0, A D 0, A D 0], A D 1]) /\ Below w.heap.size w w') /\ (∀ (HP : Hid (z1k ak = false)) (HQ : Hid (z1k bk = false)) (x0 : (bk == 0) = false) (x1 : (ak == 0) = false) (x2 : (code == 1) = false) (x3 : (ak == 1) = true) (x4 : (bk == 1) = false) (w : World), Calls tP 143 #[A D code, .agg #[A D ak, A D al, A D ah], .agg #[A D bk, A D bl, A D bh]] w fun e w' => e = rT (.tuple #[.agg #[A D 0, A D 0, A D 0], A D 1]) /\ Below w.heap.size w w') := by
 refine ⟨?_, ?_, ?_⟩
 intro dl dh HD gk gl gh E HF HP HQ x0 x1 x2 x3 x4 x5 w
 rotate_left
 intro HP HQ x0 x1 x2 x3 x4 x5 w
 rotate_left
 intro HP HQ x0 x1 x2 x3 x4 w
 rotate_left
 all_goals
  have hK0 := Mk3.start w ak al ah bk bl bh
  obtain ⟨a0, a1, a2, b0, b1, b2, r0, r1, r2, f0, f1, f2, hn⟩ := hK0.cells
 all_goals
  go_enter Tryz.func143, Tryz.ntmps143
  go_wp2_with (first
   | (go_at_call 177; have hg := HP.out; clear hg; go_must (refine (z4g ak al ah _).mono ?_; rintro e w1 ⟨rfl, hb1⟩; rw [HP.out]; clear HP; have hK1 : Mk3 w.heap.size ak al ah bk bl bh w1 := Mk3.later (by repeat' first | with_reducible (first | exact hK0 | exact hK1 | exact hK2 | exact hK3 | refine Mk3.drew ?_) | with_reducible refine Mk3.drewN ?_ _) hb1; have hbw1 : Below w.heap.size w w1 := (by ((refine Below.trans ?_ (hb1.mono ?_)) <;> repeat' first | with_reducible (first | exact bF _ _ | exact hbw1 | exact hbw2 | refine bA ?_ ?_ _ | refine bS ?_ ?_ _ | refine bD ?_ | refine below_drewN ?_ _) | ((try dsimp only); omega) | (simp; done) | (simp; omega) | omega)); clear a0 a1 a2 b0 b1 b2 r0 r1 r2 f0 f1 f2 hn; obtain ⟨a0, a1, a2, b0, b1, b2, r0, r1, r2, f0, f1, f2, hn⟩ := hK1.cells))
   | (go_at_call 177; go_must (refine (z4g bk bl bh _).mono ?_; rintro e w2 ⟨rfl, hb2⟩; rw [HQ.out]; have hK2 : Mk3 w.heap.size ak al ah bk bl bh w2 := Mk3.later (by repeat' first | with_reducible (first | exact hK0 | exact hK1 | exact hK2 | exact hK3 | refine Mk3.drew ?_) | with_reducible refine Mk3.drewN ?_ _) hb2; have hbw2 : Below w.heap.size w w2 := (by ((refine Below.trans ?_ (hb2.mono ?_)) <;> repeat' first | with_reducible (first | exact bF _ _ | exact hbw1 | exact hbw2 | refine bA ?_ ?_ _ | refine bS ?_ ?_ _ | refine bD ?_ | refine below_drewN ?_ _) | ((try dsimp only); omega) | (simp; done) | (simp; omega) | omega)); clear a0 a1 a2 b0 b1 b2 r0 r1 r2 f0 f1 f2 hn; obtain ⟨a0, a1, a2, b0, b1, b2, r0, r1, r2, f0, f1, f2, hn⟩ := hK2.cells))
   | fail)
 ·go_region_held3 (fun w' => w'.cell? ⟨w.heap.size, 0, none⟩ = some (A D ak) /\ w'.cell? ⟨w.heap.size, 1, none⟩ = some (A D al) /\ w'.cell? ⟨w.heap.size, 2, none⟩ = some (A D ah) /\ w'.cell? ⟨w.heap.size + 1, 0, none⟩ = some (A D bk) /\ w'.cell? ⟨w.heap.size + 1, 1, none⟩ = some (A D bl) /\ w'.cell? ⟨w.heap.size + 1, 2, none⟩ = some (A D bh)) (first | (simp [go_sem]; done) | (simp [go_sem, *]; done) | go_keep) (first
   | (go_at_call 178; go_must (refine (HD.out _).mono ?_; rintro e w2 ⟨rfl, hb2⟩; have hK2 : Mk3 w.heap.size ak al ah bk bl bh w2 := Mk3.later (by repeat' first | with_reducible (first | exact hK0 | exact hK1 | exact hK2 | exact hK3 | refine Mk3.drew ?_) | with_reducible refine Mk3.drewN ?_ _) hb2; have hbw2 : Below w.heap.size w w2 := (by ((refine Below.trans ?_ (hb2.mono ?_)) <;> repeat' first | with_reducible (first | exact bF _ _ | exact hbw1 | exact hbw2 | refine bA ?_ ?_ _ | refine bS ?_ ?_ _ | refine bD ?_ | refine below_drewN ?_ _) | ((try dsimp only); omega) | (simp; done) | (simp; omega) | omega)); clear a0 a1 a2 b0 b1 b2 r0 r1 r2 f0 f1 f2 hn; obtain ⟨a0, a1, a2, b0, b1, b2, r0, r1, r2, f0, f1, f2, hn⟩ := hK2.cells))
   | (go_at_call 180; go_must (refine (zBb bk dl dh _).mono ?_; rintro e w3 ⟨rfl, hb3⟩; rw [HF.out]; simp only [Kno.v]; have hK3 : Mk3 w.heap.size ak al ah bk bl bh w3 := Mk3.later (by repeat' first | with_reducible (first | exact hK0 | exact hK1 | exact hK2 | exact hK3 | refine Mk3.drew ?_) | with_reducible refine Mk3.drewN ?_ _) hb3; have hbw3 : Below w.heap.size w w3 := (by ((refine Below.trans ?_ (hb3.mono ?_)) <;> repeat' first | with_reducible (first | exact bF _ _ | exact hbw1 | exact hbw2 | refine bA ?_ ?_ _ | refine bS ?_ ?_ _ | refine bD ?_ | refine below_drewN ?_ _) | ((try dsimp only); omega) | (simp; done) | (simp; omega) | omega)); clear a0 a1 a2 b0 b1 b2 r0 r1 r2 f0 f1 f2 hn; obtain ⟨a0, a1, a2, b0, b1, b2, r0, r1, r2, f0, f1, f2, hn⟩ := hK3.cells)))
  all_goals go_wp2_with fail
  all_goals exact bodyPost_ret (v := .tuple #[.agg #[A D gk, A D gl, A D gh], A D E]) (by simp [results, Tryz.results143, go_sem, *]) rfl ⟨rfl, (by repeat' first | with_reducible (first | exact hbw | exact hbw1 | exact hbw2 | exact bF _ _ | refine bA ?_ ?_ _ | refine bS ?_ ?_ _ | refine bD ?_ | refine below_drewN ?_ _) | ((try dsimp only); omega) | (simp; done) | (simp; omega))⟩
 iterate 2
  ·exact bodyPost_ret (v := .tuple #[.agg #[A D 0, A D 0, A D 0], A D 1]) (by simp [results, Tryz.results143, go_sem, *]) rfl ⟨rfl, (by repeat' first | with_reducible (first | exact hbw | exact hbw1 | exact hbw2 | exact bF _ _ | refine bA ?_ ?_ _ | refine bS ?_ ?_ _ | refine bD ?_ | refine below_drewN ?_ _) | ((try dsimp only); omega) | (simp; done) | (simp; omega))⟩
def zSq := fun code ak al ah bk bl bh => (@zB6 code ak al ah bk bl bh).1
def zVv := fun code ak al ah bk bl bh => (@zB6 code ak al ah bk bl bh).2.1
def vmk_nb := fun code ak al ah bk bl bh => (@zB6 code ak al ah bk bl bh).2.2
theorem z64 (code ak al ah bk bl bh : Int) : (∀ (dl dh : Int) (HD : Hid (∀ W : World, Calls tP 178 #[A D code, .agg #[A D al, A D ah], .agg #[A D bl, A D bh]] W fun e w' => e = rT (.agg #[A D dl, A D dh]) /\ Below W.heap.size W w')) (gk gl gh E : Int) (HF : Hid (z1m ak (dl, dh) = (⟨gk, gl, gh⟩, E))) (HP : Hid (z1k ak = true)) (x0 : (bk == 0) = false) (x1 : (ak == 0) = false) (x2 : (code == 1) = false) (x3 : (ak == 1) = false) (x4 : (bk == 1) = true) (x5 : (code == 2) = true) (w : World), Calls tP 143 #[A D code, .agg #[A D ak, A D al, A D ah], .agg #[A D bk, A D bl, A D bh]] w fun e w' => e = rT (.tuple #[.agg #[A D gk, A D gl, A D gh], A D E]) /\ Below w.heap.size w w') /\ (∀ (dl dh : Int) (HD : Hid (∀ W : World, Calls tP 178 #[A D code, .agg #[A D al, A D ah], .agg #[A D bl, A D bh]] W fun e w' => e = rT (.agg #[A D dl, A D dh]) /\ Below W.heap.size W w')) (gk gl gh E : Int) (HF : Hid (z1m ak (dl, dh) = (⟨gk, gl, gh⟩, E))) (HP : Hid (z1k ak = true)) (x0 : (bk == 0) = false) (x1 : (ak == 0) = false) (x2 : (code == 1) = false) (x3 : (ak == 1) = false) (x4 : (bk == 1) = true) (x5 : (code == 2) = false) (x6 : (code == 3) = true) (w : World), Calls tP 143 #[A D code, .agg #[A D ak, A D al, A D ah], .agg #[A D bk, A D bl, A D bh]] w fun e w' => e = rT (.tuple #[.agg #[A D gk, A D gl, A D gh], A D E]) /\ Below w.heap.size w w') /\ (∀ (HP : Hid (z1k ak = true)) (x0 : (bk == 0) = false) (x1 : (ak == 0) = false) (x2 : (code == 1) = false) (x3 : (ak == 1) = false) (x4 : (bk == 1) = true) (x5 : (code == 2) = false) (x6 : (code == 3) = false) (w : World), Calls tP 143 #[A D code, .agg #[A D ak, A D al, A D ah], .agg #[A D bk, A D bl, A D bh]] w fun e w' => e = rT (.tuple #[.agg #[A D 0, A D 0, A D 0], A D 1]) /\ Below w.heap.size w w') /\ (∀ (HP : Hid (z1k ak = true)) (x0 : (bk == 0) = false) (x1 : (ak == 0) = false) (x2 : (code == 1) = false) (x3 : (ak == 1) = false) (x4 : (bk == 1) = false) (w : World), Calls tP 143 #[A D code, .agg #[A D ak, A D al, A D ah], .agg #[A D bk, A D bl, A D bh]] w fun e w' => e = rT (.tuple #[.agg #[A D 0, A D 0, A D 0], A D 1]) /\ Below w.heap.size w w') /\ (∀ (HP : Hid (z1k ak = false)) (x0 : (bk == 0) = false) (x1 : (ak == 0) = false) (x2 : (code == 1) = false) (x3 : (ak == 1) = false) (w : World), Calls tP 143 #[A D code, .agg #[A D ak, A D al, A D ah], .agg #[A D bk, A D bl, A D bh]] w fun e w' => e = rT (.tuple #[.agg #[A D 0, A D 0, A D 0], A D 1]) /\ Below w.heap.size w w') := by
 refine ⟨?_, ?_, ?_, ?_, ?_⟩
 intro dl dh HD gk gl gh E HF HP x0 x1 x2 x3 x4 x5 w
 rotate_left
 intro dl dh HD gk gl gh E HF HP x0 x1 x2 x3 x4 x5 x6 w
 rotate_left
 intro HP x0 x1 x2 x3 x4 x5 x6 w
 rotate_left
 intro HP x0 x1 x2 x3 x4 w
 rotate_left
 intro HP x0 x1 x2 x3 w
 rotate_left
 all_goals
  have hK0 := Mk3.start w ak al ah bk bl bh
  obtain ⟨a0, a1, a2, b0, b1, b2, r0, r1, r2, f0, f1, f2, hn⟩ := hK0.cells
 all_goals
  go_enter Tryz.func143, Tryz.ntmps143
  go_wp2_with (first
   | (go_at_call 177; go_must (refine (z4g ak al ah _).mono ?_; rintro e w1 ⟨rfl, hb1⟩; rw [HP.out]; have hK1 : Mk3 w.heap.size ak al ah bk bl bh w1 := Mk3.later (by repeat' first | with_reducible (first | exact hK0 | exact hK1 | exact hK2 | exact hK3 | refine Mk3.drew ?_) | with_reducible refine Mk3.drewN ?_ _) hb1; have hbw1 : Below w.heap.size w w1 := (by ((refine Below.trans ?_ (hb1.mono ?_)) <;> repeat' first | with_reducible (first | exact bF _ _ | exact hbw1 | exact hbw2 | refine bA ?_ ?_ _ | refine bS ?_ ?_ _ | refine bD ?_ | refine below_drewN ?_ _) | ((try dsimp only); omega) | (simp; done) | (simp; omega) | omega)); clear a0 a1 a2 b0 b1 b2 r0 r1 r2 f0 f1 f2 hn; obtain ⟨a0, a1, a2, b0, b1, b2, r0, r1, r2, f0, f1, f2, hn⟩ := hK1.cells))
   | fail)
 iterate 2
  ·go_region_held3 (fun w' => w'.cell? ⟨w.heap.size, 0, none⟩ = some (A D ak) /\ w'.cell? ⟨w.heap.size, 1, none⟩ = some (A D al) /\ w'.cell? ⟨w.heap.size, 2, none⟩ = some (A D ah) /\ w'.cell? ⟨w.heap.size + 1, 0, none⟩ = some (A D bk) /\ w'.cell? ⟨w.heap.size + 1, 1, none⟩ = some (A D bl) /\ w'.cell? ⟨w.heap.size + 1, 2, none⟩ = some (A D bh)) (first | (simp [go_sem]; done) | (simp [go_sem, *]; done) | go_keep) (first
    | (go_at_call 178; go_must (refine (HD.out _).mono ?_; rintro e w2 ⟨rfl, hb2⟩; have hK2 : Mk3 w.heap.size ak al ah bk bl bh w2 := Mk3.later (by repeat' first | with_reducible (first | exact hK0 | exact hK1 | exact hK2 | exact hK3 | refine Mk3.drew ?_) | with_reducible refine Mk3.drewN ?_ _) hb2; have hbw2 : Below w.heap.size w w2 := (by ((refine Below.trans ?_ (hb2.mono ?_)) <;> repeat' first | with_reducible (first | exact bF _ _ | exact hbw1 | exact hbw2 | refine bA ?_ ?_ _ | refine bS ?_ ?_ _ | refine bD ?_ | refine below_drewN ?_ _) | ((try dsimp only); omega) | (simp; done) | (simp; omega) | omega)); clear a0 a1 a2 b0 b1 b2 r0 r1 r2 f0 f1 f2 hn; obtain ⟨a0, a1, a2, b0, b1, b2, r0, r1, r2, f0, f1, f2, hn⟩ := hK2.cells))
    | (go_at_call 180; go_must (refine (zBb ak dl dh _).mono ?_; rintro e w3 ⟨rfl, hb3⟩; rw [HF.out]; simp only [Kno.v]; have hK3 : Mk3 w.heap.size ak al ah bk bl bh w3 := Mk3.later (by repeat' first | with_reducible (first | exact hK0 | exact hK1 | exact hK2 | exact hK3 | refine Mk3.drew ?_) | with_reducible refine Mk3.drewN ?_ _) hb3; have hbw3 : Below w.heap.size w w3 := (by ((refine Below.trans ?_ (hb3.mono ?_)) <;> repeat' first | with_reducible (first | exact bF _ _ | exact hbw1 | exact hbw2 | refine bA ?_ ?_ _ | refine bS ?_ ?_ _ | refine bD ?_ | refine below_drewN ?_ _) | ((try dsimp only); omega) | (simp; done) | (simp; omega) | omega)); clear a0 a1 a2 b0 b1 b2 r0 r1 r2 f0 f1 f2 hn; obtain ⟨a0, a1, a2, b0, b1, b2, r0, r1, r2, f0, f1, f2, hn⟩ := hK3.cells)))
   all_goals go_wp2_with fail
   all_goals exact bodyPost_ret (v := .tuple #[.agg #[A D gk, A D gl, A D gh], A D E]) (by simp [results, Tryz.results143, go_sem, *]) rfl ⟨rfl, (by repeat' first | with_reducible (first | exact hbw | exact hbw1 | exact hbw2 | exact bF _ _ | refine bA ?_ ?_ _ | refine bS ?_ ?_ _ | refine bD ?_ | refine below_drewN ?_ _) | ((try dsimp only); omega) | (simp; done) | (simp; omega))⟩
 iterate 3
  ·exact bodyPost_ret (v := .tuple #[.agg #[A D 0, A D 0, A D 0], A D 1]) (by simp [results, Tryz.results143, go_sem, *]) rfl ⟨rfl, (by repeat' first | with_reducible (first | exact hbw | exact hbw1 | exact hbw2 | exact bF _ _ | refine bA ?_ ?_ _ | refine bS ?_ ?_ _ | refine bD ?_ | refine below_drewN ?_ _) | ((try dsimp only); omega) | (simp; done) | (simp; omega))⟩
def zSo := fun code ak al ah bk bl bh => (@z64 code ak al ah bk bl bh).1
def zSn := fun code ak al ah bk bl bh => (@z64 code ak al ah bk bl bh).2.1
def zVu := fun code ak al ah bk bl bh => (@z64 code ak al ah bk bl bh).2.2.1
def vmk_pb := fun code ak al ah bk bl bh => (@z64 code ak al ah bk bl bh).2.2.2.1
def vmk_m := fun code ak al ah bk bl bh => (@z64 code ak al ah bk bl bh).2.2.2.2
end
section
open Go.ChangeShapes Go.WideShapes Go.ChangeAt Go.RowKit
attribute [local simp] z00 z0d z07
theorem zHr (k l h o : Int) (x0 : (k == 0) = true) (w : World) : Calls tP 139 #[.agg #[A D k, A D l, A D h], A D o] w fun e w' => e = rT (.tuple #[.agg #[A D 0, A D 0], A D 8]) /\ Below w.heap.size w w' := by
 go_enter Tryz.func139, Tryz.ntmps139
 go_wp2_with fail
 exact bodyPost_ret (v := .tuple #[.agg #[A D 0, A D 0], A D 8]) (by simp [results, Tryz.results139, go_sem, *]) rfl ⟨rfl, (by repeat' first | with_reducible (first | exact hbw | exact hbw1 | exact bF _ _ | refine bA ?_ ?_ _ | refine bS ?_ ?_ _ | refine bD ?_) | ((try dsimp only); omega) | (simp; done) | (simp; omega))⟩
theorem zLk (k l h o : Int) (x0 : (k == 0) = false) (HP : Hid (z1k k = false)) (w : World) : Calls tP 139 #[.agg #[A D k, A D l, A D h], A D o] w fun e w' => e = rT (.tuple #[.agg #[A D 0, A D 0], A D 1]) /\ Below w.heap.size w w' := by
 have hK0 : Blk w [(w.heap.size, cT #[A D k, A D l, A D h] 201 (0, 0)), (w.heap.size + 1, cT #[A D 0, A D 0] 122 (0, 0))] ((w.alloc (cT #[A D k, A D l, A D h] 201)).alloc (cT #[A D 0, A D 0] 122)) := (((Blk.nil ((((bF _ _).alloc (Nat.le_refl _) _).alloc (by simp) _))).cons (heap_alloc2_new _ _ _)).cons (by rw [Below.heap_alloc _ _ _ (by simp)]; exact heap_alloc_new _ _))
 go_enter Tryz.func139, Tryz.ntmps139
 go_wp2_with (first
  | (go_at_call 177; go_must (refine (z4g k l h _).mono ?_; rintro e w1 ⟨rfl, hb1⟩; rw [HP.out]; have hK1 := hK0.later hb1; have hbw1 := hK1.1; obtain ⟨c0, c1, c2, -, -, -, lt0⟩ := row3 (hK1.2 _ (mcS)); obtain ⟨r0, r1, f0, f1, lt1⟩ := row2 (hK1.2 _ (mcO _ mcS))))
  | fail)
 exact bodyPost_ret (v := .tuple #[.agg #[A D 0, A D 0], A D 1]) (by simp [results, Tryz.results139, go_sem, *]) rfl ⟨rfl, (by repeat' first | with_reducible (first | exact hbw | exact hbw1 | exact bF _ _ | refine bA ?_ ?_ _ | refine bS ?_ ?_ _ | refine bD ?_) | ((try dsimp only); omega) | (simp; done) | (simp; omega))⟩
theorem z8o (k l h o : Int) (x0 : (k == 0) = false) (HP : Hid (z1k k = true)) (tl th rl rh : Int) (HD : Hid (∀ W : World, Calls tP 178 #[A D 2, .agg #[A D l, A D h], .agg #[A D o, A D o]] W fun e w' => e = rT (.agg #[A D tl, A D th]) /\ Below W.heap.size W w')) (HR : Hid (∀ W : World, Calls tP 179 #[A D k] W fun e w' => e = rT (.agg #[A D rl, A D rh]) /\ Below W.heap.size W w')) : (∀ (jl jh : Int) (hj : ¬ jl = rl) (HJ : Hid (∀ W : World, Calls tP 71 #[.agg #[A D tl, A D th], .agg #[A D rl, A D rh]] W fun e w' => e = rT (.agg #[A D jl, A D jh]) /\ Below W.heap.size W w')) (w : World), Calls tP 139 #[.agg #[A D k, A D l, A D h], A D o] w fun e w' => e = rT (.tuple #[.agg #[A D 0, A D 0], A D 2]) /\ Below w.heap.size w w') /\ (∀ (jh : Int) (hj : ¬ jh = rh) (HJ : Hid (∀ W : World, Calls tP 71 #[.agg #[A D tl, A D th], .agg #[A D rl, A D rh]] W fun e w' => e = rT (.agg #[A D rl, A D jh]) /\ Below W.heap.size W w')) (w : World), Calls tP 139 #[.agg #[A D k, A D l, A D h], A D o] w fun e w' => e = rT (.tuple #[.agg #[A D 0, A D 0], A D 2]) /\ Below w.heap.size w w') /\ (∀ (HJ : Hid (∀ W : World, Calls tP 71 #[.agg #[A D tl, A D th], .agg #[A D rl, A D rh]] W fun e w' => e = rT (.agg #[A D rl, A D rh]) /\ Below W.heap.size W w')) (w : World), Calls tP 139 #[.agg #[A D k, A D l, A D h], A D o] w fun e w' => e = rT (.tuple #[.agg #[A D tl, A D th], A D 0]) /\ Below w.heap.size w w') := by
 refine ⟨?_, ?_, ?_⟩
 intro jl jh hj HJ w
 rotate_left
 intro jh hj HJ w
 rotate_left
 intro HJ w
 rotate_left
 all_goals
  have hK0 : Blk w [(w.heap.size, cT #[A D k, A D l, A D h] 201 (0, 0)), (w.heap.size + 1, cT #[A D 0, A D 0] 122 (0, 0))] ((w.alloc (cT #[A D k, A D l, A D h] 201)).alloc (cT #[A D 0, A D 0] 122)) := (((Blk.nil ((((bF _ _).alloc (Nat.le_refl _) _).alloc (by simp) _))).cons (heap_alloc2_new _ _ _)).cons (by rw [Below.heap_alloc _ _ _ (by simp)]; exact heap_alloc_new _ _))
 all_goals
  go_enter Tryz.func139, Tryz.ntmps139
  go_wp2_with (first
   | (go_at_call 177; go_must (refine (z4g k l h _).mono ?_; rintro e w1 ⟨rfl, hb1⟩; rw [HP.out]; have hK1 := hK0.later hb1; have hbw1 := hK1.1; obtain ⟨c0, c1, c2, -, -, -, lt0⟩ := row3 (hK1.2 _ (mcS)); obtain ⟨r0, r1, f0, f1, lt1⟩ := row2 (hK1.2 _ (mcO _ mcS))))
   | fail)
  refine z0l (C := Blk w [(w.heap.size, cT #[A D k, A D l, A D h] 201 (0, 0)), (w.heap.size + 1, cT #[A D 0, A D 0] 122 (0, 0))]) (n0 := w.heap.size + 1 + 1) 8 [] [cT #[A D 0, A D 0] 122 (0, 0), cT #[A D 0, A D 0] 122 (0, 0)] (by kernel_rfl) (by kernel_rfl) (fun d _ _ _ _ h => by cases d <;> exact h) (Blk.stable _ _) (Blk.room w (mcO _ mcS)) hK1.drew ⟨⟨rfl, fun a w2 hC => by go_simp; try rfl⟩, ⟨rfl, fun a w2 hC => by go_simp; try rfl⟩, trivial⟩ ?_
  simp only [List.take_succ_cons, List.take_zero, List.drop_succ_cons, List.drop_zero, List.length_cons, List.length_nil, Nat.reduceAdd]
  repeat (first
   | (refine z0i (by rfl) ?_; simp only [Act.put, siA, scZ, scS])
   | (refine z0a (by rfl) (v := ?_) ?_ ?_; rotate_left; (intro w2 hC; obtain ⟨c0, c1, c2, -, -, -, lt0⟩ := row3 (hC.2 _ (mcS)); obtain ⟨r0, r1, f0, f1, lt1⟩ := row2 (hC.2 _ (mcO _ mcS)); go_simp; try with_reducible rfl); simp only [Act.put, siA, scZ, scS])
   | (refine z0v (by rfl) ?_; apply Exists.intro; refine ⟨fun w2 hC => ?_, ?_⟩; (obtain ⟨c0, c1, c2, -, -, -, lt0⟩ := row3 (hC.2 _ (mcS)); obtain ⟨r0, r1, f0, f1, lt1⟩ := row2 (hC.2 _ (mcO _ mcS)); go_simp; apply z16; first | (go_at_call 100; exact z2p _ w2) | (go_at_call 178; exact HD.out w2) | (go_at_call 179; exact HR.out w2)); simp only [Act.put, siA, scZ, scS]))
  refine z0r ?_
  intro L h6 g6 K h7 g7 w3 hC hB
  have hne : K ≠ L := (FB.upd_none h7).1
  have hne' : L ≠ K := fun e => hne e.symm
  have bK := hB K _ (FB.at_new _ _ _)
  have bL := hB L _ (FB.at_old hne' (FB.at_new _ _ _))
  obtain ⟨p0, p1, pf0, pf1, ltL⟩ := row2 bL
  obtain ⟨q0, q1, qf0, qf1, ltK⟩ := row2 bK
  have hK3 := hC
  clear c0 c1 c2 lt0 r0 r1 f0 f1 lt1 hB h6 h7 hK0 hb1 hbw1 hK1
  obtain ⟨c0, c1, c2, -, -, -, lt0⟩ := row3 (hC.2 _ (mcS)); obtain ⟨r0, r1, f0, f1, lt1⟩ := row2 (hC.2 _ (mcO _ mcS))
  have g6' : w.heap.size ≠ L := by omega
  have g7' : w.heap.size ≠ K := by omega
  have g8' : w.heap.size + 1 ≠ L := by omega
  have g9' : w.heap.size + 1 ≠ K := by omega
  simp only [z5f]
  go_wp2_with fail
  have hK6 : Blk w [(w.heap.size, cT #[A D k, A D l, A D h] 201 (0, 0)), (w.heap.size + 1, cT #[A D 0, A D 0] 122 (0, 0)), (L, cT #[A D tl, A D th] 122 (0, 0)), (K, cT #[A D rl, A D rh] 122 (0, 0))] _ := ((((Blk.nil (((((hC.1.setCell (by show _ <= L; omega) _).setCell (by show _ <= L; omega) _).setCell (by show _ <= K; omega) _).setCell (by show _ <= K; omega) _))).cons (put2 (off2 bK hne))).cons (off2 (put2 bL) hne')).cons (off2 (off2 (hC.2 _ (mcO _ mcS)) g8') g9')).cons (off2 (off2 (hC.2 _ mcS) g6') g7')
  clear c0 c1 c2 lt0 r0 r1 f0 f1 lt1 p0 p1 pf0 pf1 q0 q1 qf0 qf1 hC bK bL hK3
  refine z0l (C := Blk w [(w.heap.size, cT #[A D k, A D l, A D h] 201 (0, 0)), (w.heap.size + 1, cT #[A D 0, A D 0] 122 (0, 0)), (L, cT #[A D tl, A D th] 122 (0, 0)), (K, cT #[A D rl, A D rh] 122 (0, 0))]) (n0 := w.heap.size) 4 [] [] (by kernel_rfl) (by kernel_rfl) (fun d _ _ _ _ h => by cases d <;> exact h) (Blk.stable _ _) (Blk.room0 _ _) hK6.drew trivial ?_
  simp only [List.take_succ_cons, List.take_zero, List.drop_succ_cons, List.drop_zero, List.length_nil, Nat.reduceAdd]
  repeat (first
   | (refine z0i (by rfl) ?_; simp only [Act.put, siA, scZ, scS])
   | (refine z0a (by rfl) (v := ?_) ?_ ?_; rotate_left; (intro w2 hC; obtain ⟨c0, c1, c2, -, -, -, lt0⟩ := row3 (hC.2 _ mcS); obtain ⟨r0, r1, f0, f1, lt1⟩ := row2 (hC.2 _ (mcO _ mcS)); obtain ⟨t0, t1, -, -, lt2⟩ := row2 (hC.2 _ (mcO _ (mcO _ mcS))); obtain ⟨s0, s1, -, -, lt3⟩ := row2 (hC.2 _ (mcO _ (mcO _ (mcO _ mcS)))); go_simp; try with_reducible rfl); simp only [Act.put, siA, scZ, scS])
   | (refine z0v (by rfl) ?_; apply Exists.intro; refine ⟨fun w2 hC => ?_, ?_⟩; (obtain ⟨c0, c1, c2, -, -, -, lt0⟩ := row3 (hC.2 _ mcS); obtain ⟨r0, r1, f0, f1, lt1⟩ := row2 (hC.2 _ (mcO _ mcS)); obtain ⟨t0, t1, -, -, lt2⟩ := row2 (hC.2 _ (mcO _ (mcO _ mcS))); obtain ⟨s0, s1, -, -, lt3⟩ := row2 (hC.2 _ (mcO _ (mcO _ (mcO _ mcS)))); go_simp; apply z16; first | (go_at_call 71; exact HJ.out w2)); simp only [Act.put, siA, scZ, scS]))
  refine z0r ?_
  intro w4 hC hB
  clear hB
  obtain ⟨c0, c1, c2, -, -, -, lt0⟩ := row3 (hC.2 _ mcS); obtain ⟨r0, r1, f0, f1, lt1⟩ := row2 (hC.2 _ (mcO _ mcS)); obtain ⟨t0, t1, -, -, lt2⟩ := row2 (hC.2 _ (mcO _ (mcO _ mcS))); obtain ⟨s0, s1, -, -, lt3⟩ := row2 (hC.2 _ (mcO _ (mcO _ (mcO _ mcS))))
  have hbw := hC.1
  go_wp2_with fail
  exact bodyPost_ret (by simp [results, Tryz.results139, go_sem, *]) rfl ⟨rfl, (by repeat' first | with_reducible (first | exact hbw | exact hbw1 | exact bF _ _ | refine bA ?_ ?_ _ | refine bS ?_ ?_ _ | refine bD ?_) | ((try dsimp only); omega) | (simp; done) | (simp; omega))⟩
def zHq := fun k l h o x0 HP tl th rl rh HD HR => (@z8o k l h o x0 HP tl th rl rh HD HR).1
def zHp := fun k l h o x0 HP tl th rl rh HD HR => (@z8o k l h o x0 HP tl th rl rh HD HR).2.1
def zOf := fun k l h o x0 HP tl th rl rh HD HR => (@z8o k l h o x0 HP tl th rl rh HD HR).2.2
theorem zCc (x : Kno) (o : Int) (hx : x.Ok) (ho : In64 o) (w : World) : Calls tP 139 #[x.v, A D o] w fun e w' => e = rT (.tuple #[.agg #[A D (z0y x o).1.1, A D (z0y x o).1.2], A D (z0y x o).2]) /\ Below w.heap.size w w' := by
 obtain ⟨k, l, h⟩ := x
 unfold z0y Kno.v
 by_cases h0 : k = 0
 ·rw [if_pos h0]; exact zHr k l h o (by simpa using h0) w
 rw [if_neg h0]
 have hk := hx.1
 have hk5 := hx.2.1
 have y0 : (k == 0) = false := by simpa using h0
 by_cases h1 : k = 1 \/ k = 5
 ·rw [if_pos h1]
  have hp : z1k k = false := by
   cases e : z1k k
   ·rfl
   ·have := (z3b k).1 e; omega
  exact zLk k l h o y0 hp w
 rw [if_neg h1]
 have hp : z1k k = true := (z3b k).2 (by change 0 <= k at hk; change k <= 5 at hk5; omega)
 have HD := fun W : World => zS4 2 l h o o hx.2.2.1.1 hx.2.2.1.2 hx.2.2.2.1.1 hx.2.2.2.1.2 ho.1 ho.2 ho.1 ho.2 hx.2.2.2.2 (Int.le_refl _) W
 have HR := fun W : World => zT7 k W
 have eT : z52 ⟨k, l, h⟩ o = bdV 2 l h o o := rfl
 rw [eT]
 generalize bdV 2 l h o o = t at *
 change ∀ W : World, _ at HR
 obtain ⟨tl, th⟩ := t
 have eR : z23 (⟨k, l, h⟩ : Kno).k = z23 k := rfl
 rw [eR]
 generalize z23 k = r at *
 obtain ⟨rl, rh⟩ := r
 by_cases g1 : tl < rl
 ·rw [if_pos (Or.inl g1)]
  exact zHq k l h o y0 hp tl th rl rh HD HR (min tl rl) (max th rh) (by omega) (fun W => z34 tl th rl rh W) w
 by_cases g2 : rh < th
 ·rw [if_pos (Or.inr g2)]
  exact zHp k l h o y0 hp tl th rl rh HD HR (max th rh) (by omega) (fun W => by have := z34 tl th rl rh W; rw [Int.min_eq_right (by omega)] at this; exact this) w
 ·rw [if_neg (by show ¬ (tl < rl \/ rh < th); omega)]
  exact zOf k l h o y0 hp tl th rl rh HD HR (fun W => by have := z34 tl th rl rh W; rw [Int.min_eq_right (by omega), Int.max_eq_right (by omega)] at this; exact this) w
theorem z06 {B : Nat} {a w : World} (h : Below B a w) {g : Nat} (hg : B <= g) (cs : Array Value) : Below B a (w.setRow g cs) :=
 h.trans ⟨rfl, rfl, rfl, by simp, fun k hk => setRow_other w g k cs (by omega)⟩
theorem zK2 : Tryz.zeroCells205 = z05 0 ⟨fun _ => kno0, fun _ => kno0⟩ := by kernel_rfl
theorem z1s : Tryz.zeroCells205.size = 82 := by rw [zK2, z0c]
theorem zG6 (p o : Int) (y : Way) (h0 : 0 <= p) (h1 : p <= 1000) (h2 : 0 <= o) (h3 : o <= 1000) (w : World) : Calls tP 102 #[.agg (z05 p y), A D o] w fun e w' => e = rT (.agg (z05 (p + (1 + o)) y)) /\ Below w.heap.size w w' := by
 go_enter Tryz.func102, Tryz.ntmps102
 iterate 2 go_step
 go_cut [2, 4] (fun s2 s4 wx => s2 = pT (some ⟨w.heap.size, 0, none⟩) /\ s4 = pT (some ⟨w.heap.size + 1, 0, none⟩) /\ Below w.heap.size w wx /\ z04 wx w.heap.size p y /\ wx.heap[w.heap.size + 1]? = some (cT Tryz.zeroCells205 205 (0, 0)))
 case first =>
  go_wp2_with fail
  go_meet
  exact ⟨rfl, rfl, (by repeat' first | with_reducible (first | exact bF _ _ | refine bA ?_ ?_ _ | refine bS ?_ ?_ _ | refine z06 ?_ ?_ _) | ((try dsimp only); omega) | (simp; done) | (simp; omega)), (z04.start w p y).alloc _, heap_alloc2_new _ _ _⟩
 case rest =>
 obtain ⟨rfl, rfl, hbw, hW, hZ⟩ := hcut
 have q0 := hW.step
 have f0 := hW.frozen 0
 have HW : Hid (z04 wc w.heap.size p y) := hW
 have HZ : Hid (wc.heap[w.heap.size + 1]? = some (cT Tryz.zeroCells205 205 (0, 0))) := hZ
 clear hW hZ
 go_wp2_with (first
  | (refine wpList_load_row rfl 205 (.tmp 2) rfl w.heap.size rfl 205 (z05 (p + (1 + o)) y) (0, 0) _ (HW.out.putStep _) Tryz.underlying205 rfl (z0n _ _) ?_)
  | (refine wpList_store_row rfl 205 (.tmp 4) (.tmp 11) rfl (w.heap.size + 1) (z05 (p + (1 + o)) y) rfl rfl 205 Tryz.zeroCells205 ((heap_setCell_other _ _ _ _ (by simp)).trans HZ.out) (z0n _ _) (by rw [z1s, z0c]) (z26 _ _) ?_)
  | fail)
 exact bodyPost_ret (v := .agg (z05 (p + (1 + o)) y)) (z8z rfl _ _ (w.heap.size + 1) _ _ rfl (z04.setRow (old := Tryz.zeroCells205) ((heap_setCell_other _ _ _ _ (by simp)).trans HZ.out) _ _)) rfl ⟨rfl, (by repeat' first | with_reducible (first | exact hbw | exact bF _ _ | refine bA ?_ ?_ _ | refine bS ?_ ?_ _ | refine z06 ?_ ?_ _) | ((try dsimp only); omega) | (simp; done) | (simp; omega))⟩
theorem z04.zero (w : World) : z04 (w.alloc (cT Tryz.zeroCells205 205)) w.heap.size 0 ⟨fun _ => kno0, fun _ => kno0⟩ := by
 rw [zK2]; exact z04.start w _ _
theorem zVt : (Way.putReg (Way.putReg ⟨fun _ => kno0, fun _ => kno0⟩ 1 ⟨2, 0, 0⟩) 10 ⟨3, 0, 0⟩) = way0 := by
 unfold Way.putReg way0
 congr 1
 funext i
 show (if i = 10 then _ else if i = 1 then _ else _) = if i = 1 then _ else if i = 10 then _ else _
 by_cases h1 : i = 1
 ·subst h1; rfl
 ·rw [if_neg h1, if_neg h1]
section
variable {w : World} {B : Nat} {p : Int} {y : Way}
theorem z04.put0 (h : z04 w B p y) (k l g : Int) : z04 (((w.setCell ⟨B, 1, none⟩ (A D k)).setCell ⟨B, 2, none⟩ (A D l)).setCell ⟨B, 3, none⟩ (A D g)) B p (y.putReg 0 ⟨k, l, g⟩) := h.reg3 (d := 0) (by decide) k l g
theorem z04.put1 (h : z04 w B p y) (k l g : Int) : z04 (((w.setCell ⟨B, 4, none⟩ (A D k)).setCell ⟨B, 5, none⟩ (A D l)).setCell ⟨B, 6, none⟩ (A D g)) B p (y.putReg 1 ⟨k, l, g⟩) := h.reg3 (d := 1) (by decide) k l g
theorem z04.put10 (h : z04 w B p y) (k l g : Int) : z04 (((w.setCell ⟨B, 31, none⟩ (A D k)).setCell ⟨B, 32, none⟩ (A D l)).setCell ⟨B, 33, none⟩ (A D g)) B p (y.putReg 10 ⟨k, l, g⟩) := h.reg3 (d := 10) (by decide) k l g
end
theorem z04.at0 {w : World} {B : Nat} (h : z04 w B 0 (Way.putReg (Way.putReg ⟨fun _ => kno0, fun _ => kno0⟩ 1 ⟨2, 0, 0⟩) 10 ⟨3, 0, 0⟩)) : z04 w B 0 way0 := by rw [zVt] at h; exact h
theorem zLz (w : World) : Calls tP 69 #[] w fun e w' => e = rT (.agg (z05 0 way0)) /\ Below w.heap.size w w' := by
 go_enter Tryz.func69, Tryz.ntmps69
 iterate 2 go_step
 go_cut [0] (fun s0 wx => s0 = pT (some ⟨w.heap.size, 0, none⟩) /\ Below w.heap.size w wx /\ wx.heap.size = w.heap.size + 1 /\ wx.heap[w.heap.size]? = some (cT Tryz.zeroCells205 205 (0, 0)))
 case first =>
  go_wp2_with fail
  go_meet
  exact ⟨rfl, (by repeat' first | with_reducible (first | exact bF _ _ | refine bA ?_ ?_ _ | refine bS ?_ ?_ _ | refine z06 ?_ ?_ _) | ((try dsimp only); omega) | (simp; done) | (simp; omega)), by simp, heap_alloc_new _ _⟩
 case rest =>
 obtain ⟨rfl, hbw, hsz, hZ⟩ := hcut
 iterate 2 go_step
 go_cut [1] (fun s1 wx => s1 = pT (some ⟨w.heap.size + 1, 0, none⟩) /\ Below w.heap.size w wx /\ z04 wx (w.heap.size + 1) 0 ⟨fun _ => kno0, fun _ => kno0⟩ /\ wx.heap[w.heap.size]? = some (cT Tryz.zeroCells205 205 (0, 0)))
 case first =>
  go_wp2_with fail
  go_meet
  exact ⟨rfl, (by repeat' first | with_reducible (first | exact hbw | exact bF _ _ | refine bA ?_ ?_ _ | refine bS ?_ ?_ _ | refine z06 ?_ ?_ _) | ((try dsimp only); omega) | (simp; done) | (simp; omega)), by rw [<- hsz]; exact z04.zero _, by rw [Below.heap_alloc _ _ _ (by omega)]; exact hZ⟩
 case rest =>
 clear hbw hsz hZ
 obtain ⟨rfl, hbw, hW, hZ⟩ := hcut
 have hlt := hW.lt
 have HW : Hid (z04 wc (w.heap.size + 1) 0 ⟨fun _ => kno0, fun _ => kno0⟩) := hW
 have HZ : Hid (wc.heap[w.heap.size]? = some (cT Tryz.zeroCells205 205 (0, 0))) := hZ
 have HB : Hid (Below w.heap.size w wc) := hbw
 clear hW hZ hbw
 go_wp2_with (first
  | (go_at_call 100; have hg := HW.out; clear hg; go_must (refine (z2p 0 _).mono ?_; rintro e w1 ⟨rfl, hb1⟩; have hW1 := HW.out.later hb1; have hlt := hW1.lt; obtain ⟨i0, i1, i2⟩ := hW1.reg (d := 1) (by decide); simp only [Nat.reduceMul, Nat.reduceAdd] at i0 i1 i2; have f0 := hW1.frozen 4; have f1 := hW1.frozen 5; have f2 := hW1.frozen 6; have HW1 : Hid (z04 w1 (w.heap.size + 1) 0 ⟨fun _ => kno0, fun _ => kno0⟩) := hW1; have HZ1 : Hid (w1.heap[w.heap.size]? = some (cT Tryz.zeroCells205 205 (0, 0))) := (hb1.block _ (by omega)).trans HZ.out; have HB1 : Hid (Below w.heap.size w w1) := HB.out.trans (hb1.mono HB.out.size); clear HW HZ HB hb1 hW1))
  | (go_at_call 100; go_must (refine (z2p 0 _).mono ?_; rintro e w2 ⟨rfl, hb2⟩; have hW2 := (HW1.out.put1 2 0 0).later hb2; have hlt := hW2.lt; clear i0 i1 i2 f0 f1 f2; obtain ⟨i0, i1, i2⟩ := hW2.reg (d := 10) (by decide); simp only [Nat.reduceMul, Nat.reduceAdd] at i0 i1 i2; have f0 := hW2.frozen 31; have f1 := hW2.frozen 32; have f2 := hW2.frozen 33; have HW2 : Hid (z04 w2 (w.heap.size + 1) 0 (Way.putReg ⟨fun _ => kno0, fun _ => kno0⟩ 1 ⟨2, 0, 0⟩)) := hW2; have HZ2 : Hid (w2.heap[w.heap.size]? = some (cT Tryz.zeroCells205 205 (0, 0))) := (hb2.block _ (by simp; omega)).trans ((heap_setCell_other _ _ _ _ (by simp)).trans ((heap_setCell_other _ _ _ _ (by simp)).trans ((heap_setCell_other _ _ _ _ (by simp)).trans HZ1.out))); have HB2 : Hid (Below w.heap.size w w2) := ((((HB1.out.setCell (by show w.heap.size <= w.heap.size + 1; omega) _).setCell (by show w.heap.size <= w.heap.size + 1; omega) _).setCell (by show w.heap.size <= w.heap.size + 1; omega) _).trans (hb2.mono (by simp; omega))); clear HW1 HZ1 HB1 hb2 hW2))
  | (refine wpList_load_row rfl 205 (.tmp 1) rfl (w.heap.size + 1) rfl 205 (z05 0 way0) (0, 0) _ (z04.at0 (HW2.out.put10 3 0 0)) Tryz.underlying205 rfl (z0n _ _) ?_)
  | (refine wpList_store_row rfl 205 (.tmp 0) (.tmp 10) rfl w.heap.size (z05 0 way0) rfl rfl 205 Tryz.zeroCells205 ((heap_setCell_other _ _ _ _ (by simp)).trans ((heap_setCell_other _ _ _ _ (by simp)).trans ((heap_setCell_other _ _ _ _ (by simp)).trans HZ2.out))) (z0n _ _) (by rw [z1s, z0c]) (z26 _ _) ?_)
  | fail)
 exact bodyPost_ret (v := .agg (z05 0 way0)) (z8z rfl _ _ w.heap.size _ _ rfl (z04.setRow (old := Tryz.zeroCells205) ((heap_setCell_other _ _ _ _ (by simp)).trans ((heap_setCell_other _ _ _ _ (by simp)).trans ((heap_setCell_other _ _ _ _ (by simp)).trans HZ2.out))) _ _)) rfl ⟨rfl, (by repeat' first | with_reducible (first | exact HB2.out | refine bA ?_ ?_ _ | refine bS ?_ ?_ _ | refine z06 ?_ ?_ _) | ((try dsimp only); omega) | (simp; done) | (simp; omega))⟩
end
section
open Go.RowKit
def Way.store (y : Way) (p v : Kno) (o : Int) : Int × Way :=
 if (z0y p o).2 ≠ 0 then ((z0y p o).2, y)
 else if p.k = 2 then (6, y)
 else if v.k = 0 then (8, y)
 else if p.k = 4 then (z0w v, y)
 else if (z0y p o).1.1 ≠ (z0y p o).1.2 then (2, y)
 else (0, y.putSlot ((z0y p o).1.1 + 16).toNat v)
theorem zOy {y : Way} {a : Abs} {p v : Kno} {vp vv : Val} {o : Int} (hy : y.Has a) (kp : p.Ok) (kv : v.Ok) (hp : p.Has vp) (hv : v.Has vv) (ho : In64 o) (h : (y.store p v o).1 = 0) :
  (z38 a vp vv o).1 = 0 /\ (y.store p v o).2.Has (z38 a vp vv o).2 := by
 unfold Way.store at h ⊢
 by_cases c1 : (z0y p o).2 ≠ 0
 ·rw [if_pos c1] at h; exact absurd h c1
 rw [if_neg c1] at h ⊢
 obtain ⟨r0, rk, rp, rt, b1, b2, m1, m2, r1⟩ := z97 kp ho hp (Classical.byContradiction c1)
 by_cases c2 : p.k = 2
 ·rw [if_pos c2] at h; exact absurd h (by show ¬ (6 : Int) = 0; decide)
 rw [if_neg c2] at h ⊢
 by_cases c3 : v.k = 0
 ·rw [if_pos c3] at h; exact absurd h (by show ¬ (8 : Int) = 0; decide)
 rw [if_neg c3] at h ⊢
 have n3 : vv.k ≠ 0 := hv.some kv c3
 unfold z38
 rw [if_neg (by rw [r0]; decide), if_neg (by omega), if_neg n3]
 by_cases c4 : p.k = 4
 ·rw [if_pos c4] at h ⊢
  obtain ⟨-, w1, -⟩ := z5j hv h
  rw [if_neg (by omega), if_neg (by omega)]
  exact ⟨rfl, hy.putCel⟩
 rw [if_neg c4] at h ⊢
 have c5 : p.k = 3 := by omega
 by_cases c6 : (z0y p o).1.1 ≠ (z0y p o).1.2
 ·rw [if_pos c6] at h; exact absurd h (by show ¬ (2 : Int) = 0; decide)
 rw [if_neg c6]
 rw [if_pos c5] at r1
 have e : wrap64 (vp.n + o) = (z0y p o).1.1 := by rw [rt] at c6 ⊢; omega
 rw [if_pos (by omega), r1, e]
 exact ⟨rfl, hy.putSlot hv⟩
def Way.call (y : Way) (what : Int) : Int × Way :=
 if (what = 1 \/ what = 3) /\ z0w (y.reg 1) ≠ 0 then (z0w (y.reg 1), y)
 else if what = 1 then (0, y.lose.putReg 0 ⟨5, 0, 0⟩)
 else if what = 2 then (0, y.lose.putReg 0 (z1d (-9223372036854775808) 9223372036854775807))
 else (0, y.lose.putReg 0 (z1d 0 0))
theorem zUu {y : Way} {a : Abs} {what : Int} (ha : a.Ok) (hy : y.Has a) (hw : what = 1 \/ what = 2 \/ what = 3) (h : (y.call what).1 = 0) :
  (z69 a what).1 = 0 /\ (y.call what).2.Has (z69 a what).2 := by
 unfold Way.call at h ⊢
 by_cases c1 : (what = 1 \/ what = 3) /\ z0w (y.reg 1) ≠ 0
 ·rw [if_pos c1] at h; exact absurd h c1.2
 rw [if_neg c1]
 unfold z69
 have c2 : ¬ (what ≠ 2 /\ z2r (a.reg 1) ≠ 0) := fun e => e.2 (z5j (hy.reg 1 (by decide)) (Classical.byContradiction fun z => c1 ⟨by omega, z⟩)).1
 rw [if_neg c2]
 rcases hw with rfl | rfl | rfl
 ·rw [if_pos rfl, if_pos rfl]
  refine ⟨rfl, hy.lose.putReg (Or.inr (Or.inr ⟨rfl, ?_, ?_⟩))⟩
  ·unfold z7w; split <;> rfl
  ·unfold z7w; split
   ·exact Or.inl rfl
   ·exact Or.inr rfl
 ·rw [if_neg (by decide), if_pos rfl, if_neg (by decide), if_pos rfl]
  exact ⟨rfl, hy.lose.putReg (Kno.has_num ha.time.1 ha.time.2)⟩
 ·rw [if_neg (by decide), if_neg (by decide), if_neg (by decide), if_neg (by decide)]
  exact ⟨rfl, (Way.Has.give hy.lose).putReg (Kno.has_num (Int.le_refl _) (Int.le_refl _))⟩
def Way.change (y : Way) (c : Int) (d s : Nat) (r : Bool) (n : Int) : Int × Way :=
 if (z2x c (y.reg d) (y.second s r n)).2 = 0 then (0, y.putReg d (z2x c (y.reg d) (y.second s r n)).1) else ((z2x c (y.reg d) (y.second s r n)).2, y)
theorem z3j {y : Way} {s : Nat} {r : Bool} {n : Int} (hk : y.Ok) (hs : s < 11) (hn : In64 n) : (y.second s r n).Ok := by
 cases r
 ·exact ⟨by show (0 : Int) <= 1; decide, by show (1 : Int) <= 5; decide, hn, hn, Int.le_refl _⟩
 ·exact hk.reg s hs
theorem zNy {y : Way} {a : Abs} {c : Int} {d s : Nat} {r : Bool} {n : Int} (hk : y.Ok) (hy : y.Has a) (hc : 1 <= c /\ c <= 13) (hd : d < 11) (hs : s < 11) (hn : In64 n) (h : (y.change c d s r n).1 = 0) :
  (z2q c (a.reg d) (a.second s r n)).2 = 0 /\ (y.change c d s r n).2.Has (a.putReg d (z2q c (a.reg d) (a.second s r n)).1) := by
 unfold Way.change at h ⊢
 by_cases c1 : (z2x c (y.reg d) (y.second s r n)).2 = 0
 ·rw [if_pos c1]
  have m := zGe hc (hk.reg d hd) (z3j hk hs hn) (hy.reg d hd) (hy.second hs) c1
  exact ⟨m.1, hy.putReg m.2⟩
 ·rw [if_neg c1] at h; exact absurd h c1
end
end Go.Proofs.YtbimlalhodibjaaGreatDoor
