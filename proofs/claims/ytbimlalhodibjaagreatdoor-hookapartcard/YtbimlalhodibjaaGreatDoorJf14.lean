/-
 What bound.Meet, bound.Opposite and bound.Narrow return, as functions on integers; the world below is as it was. Conditions: the ends are numbers of 64 bits, the low end not above the high one. What bound.apart and bound.Narrow return, as functions on integers; the world below is as it was. Conditions: the ends are numbers of 64 bits, the low end not above the high one. What bound.Narrow, bound.Meet and bound.Opposite return, by one function on integers each; the world below is as it was. Conditions: the ends are numbers of 64 bits, the low end not above the high one. Plain facts on what is left of two bounds: numbers of which what is asked is so are in it, and it is no more than there was; no program is named here. Conditions: the numbers are of 64 bits, and between the ends.
-/
import Derived.Test.YtbimlalhodibjaaGreatDoorJf12
import Derived.Deep.DeepMust
import Derived.Outline
import Derived.BigQuiet
import Derived.Test.YtbimlalhodibjaaGreatDoorJf6
set_option maxHeartbeats 40000000
open Go.Value renaming int → A
open Go.IntKind renaming i64 → B
open Go.RowKit.Below renaming alloc → bA, setCell → bS, drew → bD, refl → bF
set_option maxRecDepth 1000000
set_option linter.defProp false
set_option linter.unusedVariables false
set_option linter.unusedSimpArgs false
open Go.Ending renaming returned → rT
open Go.Value renaming pointer → pT
open Go.Proofs.Tryz renaming prog → tP
namespace Go.Proofs.YtbimlalhodibjaaGreatDoor
section
open Go.ChangeShapes Go.WideShapes Go.ChangeAt Go.RowKit
attribute [local simp] z00
theorem zD8 (al ah bl bh : Int) : (∀ (h : max al bl <= min ah bh) (w : World), Calls tP 214 #[.agg #[A B al, A B ah], .agg #[A B bl, A B bh]] w fun e w' => e = rT (.tuple #[.agg #[A B (max al bl), A B (min ah bh)], .bool true]) /\ Below w.heap.size w w') /\ (∀ (h : min ah bh < max al bl) (w : World), Calls tP 214 #[.agg #[A B al, A B ah], .agg #[A B bl, A B bh]] w fun e w' => e = rT (.tuple #[.agg #[A B 0, A B 0], .bool false]) /\ Below w.heap.size w w') := by
 refine ⟨?_, ?_⟩
 all_goals
  intro h w
 have _h : decide (min ah bh < max al bl) = false := by simp; omega
 rotate_left
 have _h : decide (min ah bh < max al bl) = true := by simp; omega
 rotate_left
 all_goals
  go_enter Tryz.func214, Tryz.ntmps214
  go_wp2_with fail
  all_goals exact bodyPost_ret (by simp [results, Tryz.results214, go_sem]) rfl ⟨rfl, by repeat' first | exact bF _ _ | refine bA ?_ ?_ _ | refine bS ?_ ?_ _ | refine bD ?_ | (simp; done) | (simp; omega) | (simp [z00]; done) | (simp [z00]; omega) | omega⟩
def zTr := fun al ah bl bh => (@zD8 al ah bl bh).1
def zWj := fun al ah bl bh => (@zD8 al ah bl bh).2
def oppV (c : Int) : Int := if c = 15 then 16 else if c = 16 then 15 else if c = 17 then 20 else if c = 18 then 19 else if c = 19 then 18 else if c = 20 then 17 else if c = 21 then 24 else if c = 22 then 23 else if c = 23 then 22 else if c = 24 then 21 else 0
theorem z2m (w : World) : (Calls tP 176 #[A B 15] w fun e w' => e = rT (A B 16) /\ w' = w) /\ (Calls tP 176 #[A B 16] w fun e w' => e = rT (A B 15) /\ w' = w) /\ (Calls tP 176 #[A B 17] w fun e w' => e = rT (A B 20) /\ w' = w) /\ (Calls tP 176 #[A B 18] w fun e w' => e = rT (A B 19) /\ w' = w) /\ (Calls tP 176 #[A B 19] w fun e w' => e = rT (A B 18) /\ w' = w) /\ (Calls tP 176 #[A B 20] w fun e w' => e = rT (A B 17) /\ w' = w) /\ (Calls tP 176 #[A B 21] w fun e w' => e = rT (A B 24) /\ w' = w) /\ (Calls tP 176 #[A B 22] w fun e w' => e = rT (A B 23) /\ w' = w) /\ (Calls tP 176 #[A B 23] w fun e w' => e = rT (A B 22) /\ w' = w) /\ (Calls tP 176 #[A B 24] w fun e w' => e = rT (A B 21) /\ w' = w) := by
 refine ⟨?_, ?_, ?_, ?_, ?_, ?_, ?_, ?_, ?_, ?_⟩
 all_goals
  go_enter Tryz.func176, Tryz.ntmps176
  go_wp2
  go_ret
  exact ⟨rfl, rfl⟩
def opp_15 := fun w => (@z2m w).1
def opp_16 := fun w => (@z2m w).2.1
def opp_17 := fun w => (@z2m w).2.2.1
def opp_18 := fun w => (@z2m w).2.2.2.1
def opp_19 := fun w => (@z2m w).2.2.2.2.1
def opp_20 := fun w => (@z2m w).2.2.2.2.2.1
def opp_21 := fun w => (@z2m w).2.2.2.2.2.2.1
def opp_22 := fun w => (@z2m w).2.2.2.2.2.2.2.1
def opp_23 := fun w => (@z2m w).2.2.2.2.2.2.2.2.1
def opp_24 := fun w => (@z2m w).2.2.2.2.2.2.2.2.2
theorem z6i (w : World) : (Calls tP 217 #[A B 17] w fun e w' => e = rT (A B 19) /\ w' = w) /\ (Calls tP 217 #[A B 18] w fun e w' => e = rT (A B 20) /\ w' = w) /\ (Calls tP 217 #[A B 21] w fun e w' => e = rT (A B 23) /\ w' = w) /\ (Calls tP 217 #[A B 22] w fun e w' => e = rT (A B 24) /\ w' = w) := by
 refine ⟨?_, ?_, ?_, ?_⟩
 all_goals
  go_enter Tryz.func217, Tryz.ntmps217
  go_wp2
  go_ret
  exact ⟨rfl, rfl⟩
def zOv := fun w => (@z6i w).1
def zOu := fun w => (@z6i w).2.1
def zOt := fun w => (@z6i w).2.2.1
def zOs := fun w => (@z6i w).2.2.2
theorem zD7 (al ah bl bh : Int) (hb : bl < 0) (w : World) : (Calls tP 216 #[A B 19, .agg #[A B al, A B ah], .agg #[A B bl, A B bh]] w fun e w' => e = rT (.tuple #[.agg #[A B al, A B ah], .agg #[A B bl, A B bh], .bool true]) /\ Below w.heap.size w w') /\ (Calls tP 216 #[A B 20, .agg #[A B al, A B ah], .agg #[A B bl, A B bh]] w fun e w' => e = rT (.tuple #[.agg #[A B al, A B ah], .agg #[A B bl, A B bh], .bool true]) /\ Below w.heap.size w w') := by
 refine ⟨?_, ?_⟩
 all_goals
  go_enter Tryz.func216, Tryz.ntmps216
  go_wp2_with fail
  go_region
  all_goals go_wp2
  all_goals exact bodyPost_ret (v := .tuple #[.agg #[A B al, A B ah], .agg #[A B bl, A B bh], .bool true]) (by simp [results, Tryz.results216, go_sem]) rfl ⟨rfl, by repeat' first | exact bF _ _ | refine bA ?_ ?_ _ | refine bS ?_ ?_ _ | refine bD ?_ | (simp; done) | (simp; omega) | (simp [z00]; done) | (simp [z00]; omega) | omega⟩
def zS1 := fun al ah bl bh hb w => (@zD7 al ah bl bh hb w).1
def zRx := fun al ah bl bh hb w => (@zD7 al ah bl bh hb w).2
theorem z3c (al ah bl bh : Int) : (∀ (hb : 0 <= bl) (h : ah < max al 0) (w : World), Calls tP 216 #[A B 19, .agg #[A B al, A B ah], .agg #[A B bl, A B bh]] w fun e w' => e = rT (.tuple #[.agg #[A B 0, A B 0], .agg #[A B 0, A B 0], .bool false]) /\ Below w.heap.size w w') /\ (∀ (hb : 0 <= bl) (h : max al 0 <= ah) (hi : isV 19 (max al 0) bh = false) (w : World), Calls tP 216 #[A B 19, .agg #[A B al, A B ah], .agg #[A B bl, A B bh]] w fun e w' => e = rT (.tuple #[.agg #[A B 0, A B 0], .agg #[A B 0, A B 0], .bool false]) /\ Below w.heap.size w w') /\ (∀ (hb : 0 <= bl) (h : ah < max al 0) (w : World), Calls tP 216 #[A B 20, .agg #[A B al, A B ah], .agg #[A B bl, A B bh]] w fun e w' => e = rT (.tuple #[.agg #[A B 0, A B 0], .agg #[A B 0, A B 0], .bool false]) /\ Below w.heap.size w w') /\ (∀ (hb : 0 <= bl) (h : max al 0 <= ah) (hi : isV 20 (max al 0) bh = false) (w : World), Calls tP 216 #[A B 20, .agg #[A B al, A B ah], .agg #[A B bl, A B bh]] w fun e w' => e = rT (.tuple #[.agg #[A B 0, A B 0], .agg #[A B 0, A B 0], .bool false]) /\ Below w.heap.size w w') /\ (∀ (h : ah < al) (w : World), Calls tP 216 #[A B 23, .agg #[A B al, A B ah], .agg #[A B bl, A B bh]] w fun e w' => e = rT (.tuple #[.agg #[A B 0, A B 0], .agg #[A B 0, A B 0], .bool false]) /\ Below w.heap.size w w') /\ (∀ (h : al <= ah) (hi : isV 23 (al) bh = false) (w : World), Calls tP 216 #[A B 23, .agg #[A B al, A B ah], .agg #[A B bl, A B bh]] w fun e w' => e = rT (.tuple #[.agg #[A B 0, A B 0], .agg #[A B 0, A B 0], .bool false]) /\ Below w.heap.size w w') /\ (∀ (h : ah < al) (w : World), Calls tP 216 #[A B 24, .agg #[A B al, A B ah], .agg #[A B bl, A B bh]] w fun e w' => e = rT (.tuple #[.agg #[A B 0, A B 0], .agg #[A B 0, A B 0], .bool false]) /\ Below w.heap.size w w') /\ (∀ (h : al <= ah) (hi : isV 24 (al) bh = false) (w : World), Calls tP 216 #[A B 24, .agg #[A B al, A B ah], .agg #[A B bl, A B bh]] w fun e w' => e = rT (.tuple #[.agg #[A B 0, A B 0], .agg #[A B 0, A B 0], .bool false]) /\ Below w.heap.size w w') := by
 refine ⟨?_, ?_, ?_, ?_, ?_, ?_, ?_, ?_⟩
 intro hb h w
 have _hb : decide (bl < 0) = false := by simp; omega
 have _h : decide (ah < max al 0) = true := by simp; omega
 rotate_left
 intro hb h hi w
 have _hb : decide (bl < 0) = false := by simp; omega
 have _h : decide (ah < max al 0) = false := by simp; omega
 rotate_left
 intro hb h w
 have _hb : decide (bl < 0) = false := by simp; omega
 have _h : decide (ah < max al 0) = true := by simp; omega
 rotate_left
 intro hb h hi w
 have _hb : decide (bl < 0) = false := by simp; omega
 have _h : decide (ah < max al 0) = false := by simp; omega
 rotate_left
 intro h w
 have _h : decide (ah < al) = true := by simp; omega
 rotate_left
 intro h hi w
 have _h : decide (ah < al) = false := by simp; omega
 rotate_left
 intro h w
 have _h : decide (ah < al) = true := by simp; omega
 rotate_left
 intro h hi w
 have _h : decide (ah < al) = false := by simp; omega
 rotate_left
 all_goals
  go_enter Tryz.func216, Tryz.ntmps216
  go_wp2_with (first | (go_at_call 154; refine (zKl _ _ _ _).mono ?_; rintro e w' ⟨rfl, rfl⟩))
  all_goals exact bodyPost_ret (v := .tuple #[.agg #[A B 0, A B 0], .agg #[A B 0, A B 0], .bool false]) (by simp [results, Tryz.results216, go_sem]) rfl ⟨rfl, by repeat' first | exact bF _ _ | refine bA ?_ ?_ _ | refine bS ?_ ?_ _ | refine bD ?_ | (simp; done) | (simp; omega) | (simp [z00]; done) | (simp [z00]; omega) | omega⟩
def zS3 := fun al ah bl bh => (@z3c al ah bl bh).1
def zS2 := fun al ah bl bh => (@z3c al ah bl bh).2.1
def zRz := fun al ah bl bh => (@z3c al ah bl bh).2.2.1
def zRy := fun al ah bl bh => (@z3c al ah bl bh).2.2.2.1
def zRv := fun al ah bl bh => (@z3c al ah bl bh).2.2.2.2.1
def zRu := fun al ah bl bh => (@z3c al ah bl bh).2.2.2.2.2.1
def zRs := fun al ah bl bh => (@z3c al ah bl bh).2.2.2.2.2.2.1
def zRr := fun al ah bl bh => (@z3c al ah bl bh).2.2.2.2.2.2.2
theorem z6h (al ah bl bh : Int) : (∀ (hb : 0 <= bl) (h : max al 0 <= ah) (hi : isV 19 (max al 0) bh = true) (p1 : -9223372036854775808 <= max al 0) (p2 : max al 0 + 1 <= 9223372036854775807) (p3 : -9223372036854775808 <= bh - 1) (p4 : bh <= 9223372036854775807) (w : World), Calls tP 216 #[A B 19, .agg #[A B al, A B ah], .agg #[A B bl, A B bh]] w fun e w' => e = rT (.tuple #[.agg #[A B (max al 0), A B (min ah (bh - 1))], .agg #[A B (max bl (max al 0 + 1)), A B bh], .bool true]) /\ Below w.heap.size w w') /\ (∀ (hb : 0 <= bl) (h : max al 0 <= ah) (hi : isV 20 (max al 0) bh = true) (p1 : -9223372036854775808 <= max al 0) (p2 : max al 0 + 0 <= 9223372036854775807) (p3 : -9223372036854775808 <= bh - 0) (p4 : bh <= 9223372036854775807) (w : World), Calls tP 216 #[A B 20, .agg #[A B al, A B ah], .agg #[A B bl, A B bh]] w fun e w' => e = rT (.tuple #[.agg #[A B (max al 0), A B (min ah (bh))], .agg #[A B (max bl (max al 0)), A B bh], .bool true]) /\ Below w.heap.size w w') /\ (∀ (h : al <= ah) (hi : isV 23 (al) bh = true) (p1 : -9223372036854775808 <= al) (p2 : al + 1 <= 9223372036854775807) (p3 : -9223372036854775808 <= bh - 1) (p4 : bh <= 9223372036854775807) (w : World), Calls tP 216 #[A B 23, .agg #[A B al, A B ah], .agg #[A B bl, A B bh]] w fun e w' => e = rT (.tuple #[.agg #[A B al, A B (min ah (bh - 1))], .agg #[A B (max bl (al + 1)), A B bh], .bool true]) /\ Below w.heap.size w w') /\ (∀ (h : al <= ah) (hi : isV 24 (al) bh = true) (p1 : -9223372036854775808 <= al) (p2 : al + 0 <= 9223372036854775807) (p3 : -9223372036854775808 <= bh - 0) (p4 : bh <= 9223372036854775807) (w : World), Calls tP 216 #[A B 24, .agg #[A B al, A B ah], .agg #[A B bl, A B bh]] w fun e w' => e = rT (.tuple #[.agg #[A B al, A B (min ah (bh))], .agg #[A B (max bl (al)), A B bh], .bool true]) /\ Below w.heap.size w w') := by
 refine ⟨?_, ?_, ?_, ?_⟩
 intro hb h hi p1 p2 p3 p4 w
 have _hb : decide (bl < 0) = false := by simp; omega
 have _h : decide (ah < max al 0) = false := by simp; omega
 rotate_left
 intro hb h hi p1 p2 p3 p4 w
 have _hb : decide (bl < 0) = false := by simp; omega
 have _h : decide (ah < max al 0) = false := by simp; omega
 rotate_left
 intro h hi p1 p2 p3 p4 w
 have _h : decide (ah < al) = false := by simp; omega
 rotate_left
 intro h hi p1 p2 p3 p4 w
 have _h : decide (ah < al) = false := by simp; omega
 rotate_left
 all_goals
  go_enter Tryz.func216, Tryz.ntmps216
  go_wp2_with (first | (go_at_call 154; refine (zKl _ _ _ _).mono ?_; rintro e w' ⟨rfl, rfl⟩))
  go_region
  all_goals go_wp2
  all_goals exact bodyPost_ret (by simp [results, Tryz.results216, go_sem]) rfl ⟨rfl, by repeat' first | exact bF _ _ | refine bA ?_ ?_ _ | refine bS ?_ ?_ _ | refine bD ?_ | (simp; done) | (simp; omega) | (simp [z00]; done) | (simp [z00]; omega) | omega⟩
def zS0 := fun al ah bl bh => (@z6h al ah bl bh).1
def zRw := fun al ah bl bh => (@z6h al ah bl bh).2.1
def zRt := fun al ah bl bh => (@z6h al ah bl bh).2.2.1
def zRq := fun al ah bl bh => (@z6h al ah bl bh).2.2.2
def eqB (l h e : Int) : Bool := decide (l = e) && decide (h = e)
theorem zEt (l h e : Int) : eqB l h e = true ↔ l = e /\ h = e := by simp [eqB]
theorem zH3 (l h e : Int) : eqB l h e = false ↔ ¬ (l = e /\ h = e) := by rw [<- Bool.not_eq_true, zEt]
theorem zX9 (e l h : Int) (bk : Nat) (p : l = e) (q : h = e) (w : World) (hbk : bk < w.heap.size) (c0 : w.cell? ⟨bk, 0, none⟩ = some (A B l)) (c1 : w.cell? ⟨bk, 1, none⟩ = some (A B h)) : Calls tP 230 #[A B e, pT (some ⟨bk, 0, none⟩)] w fun r w' => r = rT (.bool true) /\ Below w.heap.size w w' := by
 obtain rfl : e = l := p.symm
 obtain rfl : e = h := q.symm
 go_enter Tryz.func230, Tryz.ntmps230
 go_wp2_with (first | (go_at_call 100; refine (z29 _ _).mono ?_; rintro e w' ⟨rfl, rfl⟩))
 go_region_held3 (fun w' => w'.cell? ⟨bk, 0, none⟩ = some (A B e) /\ w'.cell? ⟨bk, 1, none⟩ = some (A B e)) (first | (simp [go_sem]; done) | (simp [go_sem, *]; done) | go_keep) (first | (go_at_call 100; refine (z29 _ _).mono ?_; rintro e w' ⟨rfl, rfl⟩))
 all_goals go_wp2
 all_goals go_ret
 all_goals exact ⟨rfl, by repeat' first | exact bF _ _ | refine bA ?_ ?_ _ | refine bS ?_ ?_ _ | refine bD ?_ | (simp; done) | (simp; omega) | (simp [z00]; done) | (simp [z00]; omega) | omega⟩
theorem zXb (e l h : Int) (bk : Nat) (p : ¬ l = e) (w : World) (hbk : bk < w.heap.size) (c0 : w.cell? ⟨bk, 0, none⟩ = some (A B l)) (c1 : w.cell? ⟨bk, 1, none⟩ = some (A B h)) : Calls tP 230 #[A B e, pT (some ⟨bk, 0, none⟩)] w fun r w' => r = rT (.bool false) /\ Below w.heap.size w w' := by
 go_enter Tryz.func230, Tryz.ntmps230
 go_wp2_with (first | (go_at_call 100; refine (z29 _ _).mono ?_; rintro e w' ⟨rfl, rfl⟩))
 go_region_held3 (fun w' => w'.cell? ⟨bk, 0, none⟩ = some (A B l) /\ w'.cell? ⟨bk, 1, none⟩ = some (A B h)) (first | (simp [go_sem]; done) | (simp [go_sem, *]; done) | go_keep) (first | (go_at_call 100; refine (z29 _ _).mono ?_; rintro e w' ⟨rfl, rfl⟩))
 all_goals go_wp2
 all_goals go_ret
 all_goals exact ⟨rfl, by repeat' first | exact bF _ _ | refine bA ?_ ?_ _ | refine bS ?_ ?_ _ | refine bD ?_ | (simp; done) | (simp; omega) | (simp [z00]; done) | (simp [z00]; omega) | omega⟩
theorem zXa (e l h : Int) (bk : Nat) (p : l = e) (q : ¬ h = e) (w : World) (hbk : bk < w.heap.size) (c0 : w.cell? ⟨bk, 0, none⟩ = some (A B l)) (c1 : w.cell? ⟨bk, 1, none⟩ = some (A B h)) : Calls tP 230 #[A B e, pT (some ⟨bk, 0, none⟩)] w fun r w' => r = rT (.bool false) /\ Below w.heap.size w w' := by
 obtain rfl : e = l := p.symm
 go_enter Tryz.func230, Tryz.ntmps230
 go_wp2_with (first | (go_at_call 100; refine (z29 _ _).mono ?_; rintro e w' ⟨rfl, rfl⟩))
 go_region_held3 (fun w' => w'.cell? ⟨bk, 0, none⟩ = some (A B e) /\ w'.cell? ⟨bk, 1, none⟩ = some (A B h)) (first | (simp [go_sem]; done) | (simp [go_sem, *]; done) | go_keep) (first | (go_at_call 100; refine (z29 _ _).mono ?_; rintro e w' ⟨rfl, rfl⟩))
 all_goals go_wp2
 all_goals go_ret
 all_goals exact ⟨rfl, by repeat' first | exact bF _ _ | refine bA ?_ ?_ _ | refine bS ?_ ?_ _ | refine bD ?_ | (simp; done) | (simp; omega) | (simp [z00]; done) | (simp [z00]; omega) | omega⟩
theorem zL1 (e l h : Int) (bk : Nat) (w : World) (hbk : bk < w.heap.size) (c0 : w.cell? ⟨bk, 0, none⟩ = some (A B l)) (c1 : w.cell? ⟨bk, 1, none⟩ = some (A B h)) : Calls tP 230 #[A B e, pT (some ⟨bk, 0, none⟩)] w fun r w' => r = rT (.bool (eqB l h e)) /\ Below w.heap.size w w' := by
 by_cases p : l = e
 ·by_cases q : h = e
  ·have hb : eqB l h e = true := (zEt _ _ _).2 ⟨p, q⟩
   rw [hb]
   exact zX9 e l h bk p q w hbk c0 c1
  ·have hb : eqB l h e = false := (zH3 _ _ _).2 (fun x => q x.2)
   rw [hb]
   exact zXa e l h bk p q w hbk c0 c1
 ·have hb : eqB l h e = false := (zH3 _ _ _).2 (fun x => p x.1)
  rw [hb]
  exact zXb e l h bk p w hbk c0 c1
def Trio (n : Nat) (al ah bl bh : Int) (w : World) : Prop :=
 n + 1 + 1 < w.heap.size /\ w.cell? ⟨n, 0, none⟩ = some (A B al) /\ w.cell? ⟨n, 1, none⟩ = some (A B ah) /\ w.frozen? ⟨n, 0, none⟩ = false /\ w.frozen? ⟨n, 1, none⟩ = false
 /\ w.cell? ⟨n + 1, 0, none⟩ = some (A B bl) /\ w.cell? ⟨n + 1, 1, none⟩ = some (A B bh) /\ w.frozen? ⟨n + 1, 0, none⟩ = false /\ w.frozen? ⟨n + 1, 1, none⟩ = false
 /\ w.cell? ⟨n + 1 + 1, 0, none⟩ = some (A B 0) /\ w.cell? ⟨n + 1 + 1, 1, none⟩ = some (A B 0) /\ w.frozen? ⟨n + 1 + 1, 0, none⟩ = false /\ w.frozen? ⟨n + 1 + 1, 1, none⟩ = false
theorem Trio.later {n : Nat} {al ah bl bh : Int} {W w1 : World} (h : Trio n al ah bl bh W) (hb : Below W.heap.size W w1) : Trio n al ah bl bh w1 := by
 obtain ⟨t0, a0, a1, af0, af1, b0, b1, bf0, bf1, r0, r1, rf0, rf1⟩ := h
 have hs := hb.size
 have l0 : n < W.heap.size := by omega
 have l1 : n + 1 < W.heap.size := by omega
 exact ⟨by omega, (hb.cell (p := ⟨n, 0, none⟩) l0).trans a0, (hb.cell (p := ⟨n, 1, none⟩) l0).trans a1, (hb.frozen (p := ⟨n, 0, none⟩) l0).trans af0, (hb.frozen (p := ⟨n, 1, none⟩) l0).trans af1,
  (hb.cell (p := ⟨n + 1, 0, none⟩) l1).trans b0, (hb.cell (p := ⟨n + 1, 1, none⟩) l1).trans b1, (hb.frozen (p := ⟨n + 1, 0, none⟩) l1).trans bf0, (hb.frozen (p := ⟨n + 1, 1, none⟩) l1).trans bf1,
  (hb.cell (p := ⟨n + 1 + 1, 0, none⟩) t0).trans r0, (hb.cell (p := ⟨n + 1 + 1, 1, none⟩) t0).trans r1, (hb.frozen (p := ⟨n + 1 + 1, 0, none⟩) t0).trans rf0, (hb.frozen (p := ⟨n + 1 + 1, 1, none⟩) t0).trans rf1⟩
theorem wo_one (al bl bh : Int) (w : World) : Calls tP 227 #[.agg #[A B al, A B al], .agg #[A B bl, A B bh]] w fun e w' => e = rT (.agg #[A B al, A B al]) /\ Below w.heap.size w w' := by
 go_enter Tryz.func227, Tryz.ntmps227
 go_wp2_with fail
 go_region_held3 (fun w' => w'.cell? ⟨w.heap.size, 0, none⟩ = some (A B al) /\ w'.cell? ⟨w.heap.size, 1, none⟩ = some (A B al)) (first | (simp [go_sem]; done) | (simp [go_sem, *]; done) | go_keep) (first | (go_at_call 100; refine (z29 _ _).mono ?_; rintro e w' ⟨rfl, rfl⟩) | (go_at_call 230; go_must (refine (zL1 _ bl bh _ _ ?_ ?_ ?_).mono ?_; (focus first | (simp; done) | (simp; omega) | omega); (focus first | (simp [go_sem]; done) | (simp [go_sem, *]; done)); (focus first | (simp [go_sem]; done) | (simp [go_sem, *]; done)); rintro e w1 ⟨rfl, hb1⟩; have hX1 : Trio w.heap.size al ah bl bh w1 := Trio.later (by first | exact hX1 | (refine ⟨?_, ?_, ?_, ?_, ?_, ?_, ?_, ?_, ?_, ?_, ?_, ?_, ?_⟩ <;> simp [go_sem])) hb1; have hbw1 : Below w.heap.size w w1 := (by ((refine Below.trans ?_ (hb1.mono ?_)) <;> repeat' first | exact bF _ _ | exact hbw1 | refine bA ?_ ?_ _ | refine bS ?_ ?_ _ | refine bD ?_ | (simp; done) | (simp; omega) | (simp [z00]; done) | (simp [z00]; omega) | omega)); have hY := hX1; obtain ⟨t0, a0, a1, af0, af1, b0, b1, bf0, bf1, r0, r1, rf0, rf1⟩ := hY)))
 all_goals go_wp2_with (first | (go_at_call 100; refine (z29 _ _).mono ?_; rintro e w' ⟨rfl, rfl⟩) | (go_at_call 230; go_must (refine (zL1 _ bl bh _ _ ?_ ?_ ?_).mono ?_; (focus first | (simp; done) | (simp; omega) | omega); (focus first | (simp [go_sem]; done) | (simp [go_sem, *]; done)); (focus first | (simp [go_sem]; done) | (simp [go_sem, *]; done)); rintro e w1 ⟨rfl, hb1⟩; have hX1 : Trio w.heap.size al ah bl bh w1 := Trio.later (by first | exact hX1 | (refine ⟨?_, ?_, ?_, ?_, ?_, ?_, ?_, ?_, ?_, ?_, ?_, ?_, ?_⟩ <;> simp [go_sem])) hb1; have hbw1 : Below w.heap.size w w1 := (by ((refine Below.trans ?_ (hb1.mono ?_)) <;> repeat' first | exact bF _ _ | exact hbw1 | refine bA ?_ ?_ _ | refine bS ?_ ?_ _ | refine bD ?_ | (simp; done) | (simp; omega) | (simp [z00]; done) | (simp [z00]; omega) | omega)); have hY := hX1; obtain ⟨t0, a0, a1, af0, af1, b0, b1, bf0, bf1, r0, r1, rf0, rf1⟩ := hY)))
 all_goals exact bodyPost_ret (v := .agg #[A B al, A B al]) (by simp [results, Tryz.results227, go_sem]) rfl ⟨rfl, by repeat' first | exact bF _ _ | refine bA ?_ ?_ _ | refine bS ?_ ?_ _ | refine bD ?_ | (simp; done) | (simp; omega) | (simp [z00]; done) | (simp [z00]; omega) | omega⟩
theorem z8p (al ah bl bh : Int) (hne : ¬ ah = al) : (∀ (hlt : al < ah) (p1 : -9223372036854775808 <= al) (p2 : ah <= 9223372036854775807) (hp : eqB bl bh al = true) (w : World), Calls tP 227 #[.agg #[A B al, A B ah], .agg #[A B bl, A B bh]] w fun e w' => e = rT (.agg #[A B (al + 1), A B ah]) /\ Below w.heap.size w w') /\ (∀ (hlt : al < ah) (p1 : -9223372036854775808 <= al) (p2 : ah <= 9223372036854775807) (hp : eqB bl bh al = false) (hq : eqB bl bh ah = true) (w : World), Calls tP 227 #[.agg #[A B al, A B ah], .agg #[A B bl, A B bh]] w fun e w' => e = rT (.agg #[A B al, A B (ah - 1)]) /\ Below w.heap.size w w') /\ (∀ (hp : eqB bl bh al = false) (hq : eqB bl bh ah = false) (w : World), Calls tP 227 #[.agg #[A B al, A B ah], .agg #[A B bl, A B bh]] w fun e w' => e = rT (.agg #[A B al, A B ah]) /\ Below w.heap.size w w') := by
 refine ⟨?_, ?_, ?_⟩
 intro hlt p1 p2 hp w
 rotate_left
 intro hlt p1 p2 hp hq w
 rotate_left
 intro hp hq w
 rotate_left
 all_goals
  go_enter Tryz.func227, Tryz.ntmps227
  go_wp2_with fail
  go_region_held3 (fun w' => w'.cell? ⟨w.heap.size, 0, none⟩ = some (A B al) /\ w'.cell? ⟨w.heap.size, 1, none⟩ = some (A B ah)) (first | (simp [go_sem]; done) | (simp [go_sem, *]; done) | go_keep) (first | (go_at_call 100; refine (z29 _ _).mono ?_; rintro e w' ⟨rfl, rfl⟩) | (go_at_call 230; go_must (refine (zL1 _ bl bh _ _ ?_ ?_ ?_).mono ?_; (focus first | (simp; done) | (simp; omega) | omega); (focus first | (simp [go_sem]; done) | (simp [go_sem, *]; done)); (focus first | (simp [go_sem]; done) | (simp [go_sem, *]; done)); rintro e w1 ⟨rfl, hb1⟩; have hX1 : Trio w.heap.size al ah bl bh w1 := Trio.later (by first | exact hX1 | (refine ⟨?_, ?_, ?_, ?_, ?_, ?_, ?_, ?_, ?_, ?_, ?_, ?_, ?_⟩ <;> simp [go_sem])) hb1; have hbw1 : Below w.heap.size w w1 := (by ((refine Below.trans ?_ (hb1.mono ?_)) <;> repeat' first | exact bF _ _ | exact hbw1 | refine bA ?_ ?_ _ | refine bS ?_ ?_ _ | refine bD ?_ | (simp; done) | (simp; omega) | (simp [z00]; done) | (simp [z00]; omega) | omega)); have hY := hX1; obtain ⟨t0, a0, a1, af0, af1, b0, b1, bf0, bf1, r0, r1, rf0, rf1⟩ := hY)))
  all_goals go_wp2_with (first | (go_at_call 100; refine (z29 _ _).mono ?_; rintro e w' ⟨rfl, rfl⟩) | (go_at_call 230; go_must (refine (zL1 _ bl bh _ _ ?_ ?_ ?_).mono ?_; (focus first | (simp; done) | (simp; omega) | omega); (focus first | (simp [go_sem]; done) | (simp [go_sem, *]; done)); (focus first | (simp [go_sem]; done) | (simp [go_sem, *]; done)); rintro e w1 ⟨rfl, hb1⟩; have hX1 : Trio w.heap.size al ah bl bh w1 := Trio.later (by first | exact hX1 | (refine ⟨?_, ?_, ?_, ?_, ?_, ?_, ?_, ?_, ?_, ?_, ?_, ?_, ?_⟩ <;> simp [go_sem])) hb1; have hbw1 : Below w.heap.size w w1 := (by ((refine Below.trans ?_ (hb1.mono ?_)) <;> repeat' first | exact bF _ _ | exact hbw1 | refine bA ?_ ?_ _ | refine bS ?_ ?_ _ | refine bD ?_ | (simp; done) | (simp; omega) | (simp [z00]; done) | (simp [z00]; omega) | omega)); have hY := hX1; obtain ⟨t0, a0, a1, af0, af1, b0, b1, bf0, bf1, r0, r1, rf0, rf1⟩ := hY)))
  all_goals exact bodyPost_ret (by simp [results, Tryz.results227, go_sem, r0, r1]) rfl ⟨rfl, by repeat' first | exact bF _ _ | exact hbw1 | refine bA ?_ ?_ _ | refine bS ?_ ?_ _ | refine bD ?_ | (simp; done) | (simp; omega) | (simp [z00]; done) | (simp [z00]; omega) | omega⟩
def wo_low := fun al ah bl bh hne => (@z8p al ah bl bh hne).1
def zVs := fun al ah bl bh hne => (@z8p al ah bl bh hne).2.1
def zVr := fun al ah bl bh hne => (@z8p al ah bl bh hne).2.2
end
section
open Go.ChangeShapes Go.WideShapes Go.ChangeAt Go.RowKit
attribute [local simp] z00
def cutV (al ah ol oh : Int) : Int × Int :=
 if al = ah then (al, ah) else if ol = al /\ oh = al then (al + 1, ah) else if ol = ah /\ oh = ah then (al, ah - 1) else (al, ah)
theorem z8a (al ah bl bh : Int) (pal : -9223372036854775808 <= al) (qah : ah <= 9223372036854775807) (oa : al <= ah) (w : World) : Calls tP 227 #[.agg #[A B al, A B ah], .agg #[A B bl, A B bh]] w fun e w' => e = rT (.agg #[A B ((cutV al ah bl bh).1), A B ((cutV al ah bl bh).2)]) /\ Below w.heap.size w w' := by
 unfold cutV
 by_cases h0 : al = ah
 ·rw [if_pos h0]
  subst h0
  exact wo_one al bl bh w
 ·rw [if_neg h0]
  by_cases h1 : bl = al /\ bh = al
  ·rw [if_pos h1]
   exact wo_low al ah bl bh (fun h => h0 h.symm) (by omega) pal qah ((zEt _ _ _).2 h1) w
  ·rw [if_neg h1]
   by_cases h2 : bl = ah /\ bh = ah
   ·rw [if_pos h2]
    exact zVs al ah bl bh (fun h => h0 h.symm) (by omega) pal qah ((zH3 _ _ _).2 h1) ((zEt _ _ _).2 h2) w
   ·rw [if_neg h2]
    exact zVr al ah bl bh (fun h => h0 h.symm) ((zH3 _ _ _).2 h1) ((zH3 _ _ _).2 h2) w
def Quad (n : Nat) (al ah bl bh : Int) (w : World) : Prop :=
 n + 1 + 1 + 1 < w.heap.size /\ w.cell? ⟨n, 0, none⟩ = some (A B al) /\ w.cell? ⟨n, 1, none⟩ = some (A B ah) /\ w.frozen? ⟨n, 0, none⟩ = false /\ w.frozen? ⟨n, 1, none⟩ = false /\ w.cell? ⟨n + 1, 0, none⟩ = some (A B bl) /\ w.cell? ⟨n + 1, 1, none⟩ = some (A B bh) /\ w.frozen? ⟨n + 1, 0, none⟩ = false /\ w.frozen? ⟨n + 1, 1, none⟩ = false /\ w.cell? ⟨n + 1 + 1, 0, none⟩ = some (A B 0) /\ w.cell? ⟨n + 1 + 1, 1, none⟩ = some (A B 0) /\ w.frozen? ⟨n + 1 + 1, 0, none⟩ = false /\ w.frozen? ⟨n + 1 + 1, 1, none⟩ = false /\ w.cell? ⟨n + 1 + 1 + 1, 0, none⟩ = some (A B 0) /\ w.cell? ⟨n + 1 + 1 + 1, 1, none⟩ = some (A B 0) /\ w.frozen? ⟨n + 1 + 1 + 1, 0, none⟩ = false /\ w.frozen? ⟨n + 1 + 1 + 1, 1, none⟩ = false
theorem Quad.later {n : Nat} {al ah bl bh : Int} {W w1 : World} (h : Quad n al ah bl bh W) (hb : Below W.heap.size W w1) : Quad n al ah bl bh w1 := by
 obtain ⟨t0, a0, a1, af0, af1, b0, b1, bf0, bf1, r0, r1, rf0, rf1, s0, s1, sf0, sf1⟩ := h
 have hs := hb.size
 have l0 : n < W.heap.size := by omega
 have l1 : n + 1 < W.heap.size := by omega
 have l2 : n + 1 + 1 < W.heap.size := by omega
 have l3 : n + 1 + 1 + 1 < W.heap.size := by omega
 exact ⟨by omega, (hb.cell (p := ⟨n, 0, none⟩) l0).trans a0, (hb.cell (p := ⟨n, 1, none⟩) l0).trans a1, (hb.frozen (p := ⟨n, 0, none⟩) l0).trans af0, (hb.frozen (p := ⟨n, 1, none⟩) l0).trans af1, (hb.cell (p := ⟨n + 1, 0, none⟩) l1).trans b0, (hb.cell (p := ⟨n + 1, 1, none⟩) l1).trans b1, (hb.frozen (p := ⟨n + 1, 0, none⟩) l1).trans bf0, (hb.frozen (p := ⟨n + 1, 1, none⟩) l1).trans bf1, (hb.cell (p := ⟨n + 1 + 1, 0, none⟩) l2).trans r0, (hb.cell (p := ⟨n + 1 + 1, 1, none⟩) l2).trans r1, (hb.frozen (p := ⟨n + 1 + 1, 0, none⟩) l2).trans rf0, (hb.frozen (p := ⟨n + 1 + 1, 1, none⟩) l2).trans rf1, (hb.cell (p := ⟨n + 1 + 1 + 1, 0, none⟩) l3).trans s0, (hb.cell (p := ⟨n + 1 + 1 + 1, 1, none⟩) l3).trans s1, (hb.frozen (p := ⟨n + 1 + 1 + 1, 0, none⟩) l3).trans sf0, (hb.frozen (p := ⟨n + 1 + 1 + 1, 1, none⟩) l3).trans sf1⟩
theorem zV6 (al : Int) (w : World) : Calls tP 215 #[.agg #[A B al, A B al], .agg #[A B al, A B al]] w fun e w' => e = rT (.tuple #[.agg #[A B 0, A B 0], .agg #[A B 0, A B 0], .bool false]) /\ Below w.heap.size w w' := by
 go_enter Tryz.func215, Tryz.ntmps215
 go_wp2_with fail
 go_region_held3 (fun w' => w'.cell? ⟨w.heap.size, 0, none⟩ = some (A B al) /\ w'.cell? ⟨w.heap.size, 1, none⟩ = some (A B al) /\ w'.cell? ⟨w.heap.size + 1, 0, none⟩ = some (A B al) /\ w'.cell? ⟨w.heap.size + 1, 1, none⟩ = some (A B al)) (first | (simp [go_sem]; done) | (simp [go_sem, *]; done) | go_keep) (first | (go_at_call 100; refine (z29 _ _).mono ?_; rintro e w' ⟨rfl, rfl⟩))
 all_goals go_wp2
 all_goals exact bodyPost_ret (v := .tuple #[.agg #[A B 0, A B 0], .agg #[A B 0, A B 0], .bool false]) (by simp [results, Tryz.results215, go_sem]) rfl ⟨rfl, by repeat' first | exact bF _ _ | refine bA ?_ ?_ _ | refine bS ?_ ?_ _ | refine bD ?_ | refine below_drewN ?_ _ | (simp; done) | (simp; omega) | (simp [z00]; done) | (simp [z00]; omega) | omega⟩
attribute [local simp] z0d
theorem zV4 (al ah bl bh : Int) (pal : -9223372036854775808 <= al) (qal : al <= 9223372036854775807) (pah : -9223372036854775808 <= ah) (qah : ah <= 9223372036854775807) (pbl : -9223372036854775808 <= bl) (qbl : bl <= 9223372036854775807) (pbh : -9223372036854775808 <= bh) (qbh : bh <= 9223372036854775807) (oa : al <= ah) (ob : bl <= bh) (hne : ¬ al = bl) (w : World) : Calls tP 215 #[.agg #[A B al, A B ah], .agg #[A B bl, A B bh]] w fun e w' => e = rT (.tuple #[.agg #[A B ((cutV al ah bl bh).1), A B ((cutV al ah bl bh).2)], .agg #[A B ((cutV bl bh al ah).1), A B ((cutV bl bh al ah).2)], .bool true]) /\ Below w.heap.size w w' := by
 go_enter Tryz.func215, Tryz.ntmps215
 go_wp2_with fail
 go_quiet (fail)
 go_wp2_with fail
 go_region_held3 (fun w' => w'.cell? ⟨w.heap.size, 0, none⟩ = some (A B al) /\ w'.cell? ⟨w.heap.size, 1, none⟩ = some (A B ah) /\ w'.cell? ⟨w.heap.size + 1, 0, none⟩ = some (A B bl) /\ w'.cell? ⟨w.heap.size + 1, 1, none⟩ = some (A B bh)) (first | (simp [go_sem]; done) | (simp [go_sem, *]; done) | go_keep) (first | (go_at_call 100; refine (z29 _ _).mono ?_; rintro e w' ⟨rfl, rfl⟩) | (go_at_call 227; go_must (refine (z8a _ _ _ _ ?_ ?_ ?_ _).mono ?_; omega; omega; omega; rintro e w1 ⟨rfl, hb1⟩; have hX1 : Quad w.heap.size al ah bl bh w1 := Quad.later (by first | exact hX1 | (refine ⟨?_, ?_, ?_, ?_, ?_, ?_, ?_, ?_, ?_, ?_, ?_, ?_, ?_, ?_, ?_, ?_, ?_⟩ <;> simp [go_sem])) hb1; have hbw1 : Below w.heap.size w w1 := (by ((refine Below.trans ?_ (hb1.mono ?_)) <;> repeat' first | exact bF _ _ | exact hbw1 | refine bA ?_ ?_ _ | refine bS ?_ ?_ _ | refine bD ?_ | refine below_drewN ?_ _ | (simp; done) | (simp; omega) | (simp [z00]; done) | (simp [z00]; omega) | omega)); have hY := hX1; obtain ⟨t0, a0, a1, af0, af1, b0, b1, bf0, bf1, r0, r1, rf0, rf1, s0, s1, sf0, sf1⟩ := hY)))
 all_goals go_wp2_with fail
 all_goals exact bodyPost_ret (v := .tuple #[.agg #[A B ((cutV al ah bl bh).1), A B ((cutV al ah bl bh).2)], .agg #[A B ((cutV bl bh al ah).1), A B ((cutV bl bh al ah).2)], .bool true]) (by simp [results, Tryz.results215, go_sem, r0, r1, s0, s1]) rfl ⟨rfl, by repeat' first | exact bF _ _ | exact hbw1 | refine bA ?_ ?_ _ | refine bS ?_ ?_ _ | refine bD ?_ | refine below_drewN ?_ _ | (simp; done) | (simp; omega) | (simp [z00]; done) | (simp [z00]; omega) | omega⟩
theorem zV3 (al ah bh : Int) (pal : -9223372036854775808 <= al) (qal : al <= 9223372036854775807) (pah : -9223372036854775808 <= ah) (qah : ah <= 9223372036854775807) (pbh : -9223372036854775808 <= bh) (qbh : bh <= 9223372036854775807) (oa : al <= ah) (ob : al <= bh) (hne : ¬ ah = bh) (w : World) : Calls tP 215 #[.agg #[A B al, A B ah], .agg #[A B al, A B bh]] w fun e w' => e = rT (.tuple #[.agg #[A B ((cutV al ah al bh).1), A B ((cutV al ah al bh).2)], .agg #[A B ((cutV al bh al ah).1), A B ((cutV al bh al ah).2)], .bool true]) /\ Below w.heap.size w w' := by
 go_enter Tryz.func215, Tryz.ntmps215
 go_wp2_with fail
 go_quiet (fail)
 go_wp2_with fail
 go_region_held3 (fun w' => w'.cell? ⟨w.heap.size, 0, none⟩ = some (A B al) /\ w'.cell? ⟨w.heap.size, 1, none⟩ = some (A B ah) /\ w'.cell? ⟨w.heap.size + 1, 0, none⟩ = some (A B al) /\ w'.cell? ⟨w.heap.size + 1, 1, none⟩ = some (A B bh)) (first | (simp [go_sem]; done) | (simp [go_sem, *]; done) | go_keep) (first | (go_at_call 100; refine (z29 _ _).mono ?_; rintro e w' ⟨rfl, rfl⟩) | (go_at_call 227; go_must (refine (z8a _ _ _ _ ?_ ?_ ?_ _).mono ?_; omega; omega; omega; rintro e w1 ⟨rfl, hb1⟩; have hX1 : Quad w.heap.size al ah al bh w1 := Quad.later (by first | exact hX1 | (refine ⟨?_, ?_, ?_, ?_, ?_, ?_, ?_, ?_, ?_, ?_, ?_, ?_, ?_, ?_, ?_, ?_, ?_⟩ <;> simp [go_sem])) hb1; have hbw1 : Below w.heap.size w w1 := (by ((refine Below.trans ?_ (hb1.mono ?_)) <;> repeat' first | exact bF _ _ | exact hbw1 | refine bA ?_ ?_ _ | refine bS ?_ ?_ _ | refine bD ?_ | refine below_drewN ?_ _ | (simp; done) | (simp; omega) | (simp [z00]; done) | (simp [z00]; omega) | omega)); have hY := hX1; obtain ⟨t0, a0, a1, af0, af1, b0, b1, bf0, bf1, r0, r1, rf0, rf1, s0, s1, sf0, sf1⟩ := hY)))
 all_goals go_wp2_with fail
 all_goals exact bodyPost_ret (v := .tuple #[.agg #[A B ((cutV al ah al bh).1), A B ((cutV al ah al bh).2)], .agg #[A B ((cutV al bh al ah).1), A B ((cutV al bh al ah).2)], .bool true]) (by simp [results, Tryz.results215, go_sem, r0, r1, s0, s1]) rfl ⟨rfl, by repeat' first | exact bF _ _ | exact hbw1 | refine bA ?_ ?_ _ | refine bS ?_ ?_ _ | refine bD ?_ | refine below_drewN ?_ _ | (simp; done) | (simp; omega) | (simp [z00]; done) | (simp [z00]; omega) | omega⟩
theorem zV5 (al ah : Int) (pal : -9223372036854775808 <= al) (qal : al <= 9223372036854775807) (pah : -9223372036854775808 <= ah) (qah : ah <= 9223372036854775807) (oa : al <= ah) (hne : ¬ ah = al) (w : World) : Calls tP 215 #[.agg #[A B al, A B ah], .agg #[A B al, A B ah]] w fun e w' => e = rT (.tuple #[.agg #[A B ((cutV al ah al ah).1), A B ((cutV al ah al ah).2)], .agg #[A B ((cutV al ah al ah).1), A B ((cutV al ah al ah).2)], .bool true]) /\ Below w.heap.size w w' := by
 go_enter Tryz.func215, Tryz.ntmps215
 go_wp2_with fail
 go_region_held3 (fun w' => w'.cell? ⟨w.heap.size, 0, none⟩ = some (A B al) /\ w'.cell? ⟨w.heap.size, 1, none⟩ = some (A B ah) /\ w'.cell? ⟨w.heap.size + 1, 0, none⟩ = some (A B al) /\ w'.cell? ⟨w.heap.size + 1, 1, none⟩ = some (A B ah)) (first | (simp [go_sem]; done) | (simp [go_sem, *]; done) | go_keep) (first | (go_at_call 100; refine (z29 _ _).mono ?_; rintro e w' ⟨rfl, rfl⟩))
 all_goals go_wp2_with fail
 go_region_held3 (fun w' => w'.cell? ⟨w.heap.size, 0, none⟩ = some (A B al) /\ w'.cell? ⟨w.heap.size, 1, none⟩ = some (A B ah) /\ w'.cell? ⟨w.heap.size + 1, 0, none⟩ = some (A B al) /\ w'.cell? ⟨w.heap.size + 1, 1, none⟩ = some (A B ah)) (first | (simp [go_sem]; done) | (simp [go_sem, *]; done) | go_keep) (first | (go_at_call 100; refine (z29 _ _).mono ?_; rintro e w' ⟨rfl, rfl⟩) | (go_at_call 227; go_must (refine (z8a _ _ _ _ ?_ ?_ ?_ _).mono ?_; omega; omega; omega; rintro e w1 ⟨rfl, hb1⟩; have hX1 : Quad w.heap.size al ah al ah w1 := Quad.later (by first | exact hX1 | (refine ⟨?_, ?_, ?_, ?_, ?_, ?_, ?_, ?_, ?_, ?_, ?_, ?_, ?_, ?_, ?_, ?_, ?_⟩ <;> simp [go_sem])) hb1; have hbw1 : Below w.heap.size w w1 := (by ((refine Below.trans ?_ (hb1.mono ?_)) <;> repeat' first | exact bF _ _ | exact hbw1 | refine bA ?_ ?_ _ | refine bS ?_ ?_ _ | refine bD ?_ | refine below_drewN ?_ _ | (simp; done) | (simp; omega) | (simp [z00]; done) | (simp [z00]; omega) | omega)); have hY := hX1; obtain ⟨t0, a0, a1, af0, af1, b0, b1, bf0, bf1, r0, r1, rf0, rf1, s0, s1, sf0, sf1⟩ := hY)))
 all_goals go_wp2_with fail
 all_goals exact bodyPost_ret (v := .tuple #[.agg #[A B ((cutV al ah al ah).1), A B ((cutV al ah al ah).2)], .agg #[A B ((cutV al ah al ah).1), A B ((cutV al ah al ah).2)], .bool true]) (by simp [results, Tryz.results215, go_sem, r0, r1, s0, s1]) rfl ⟨rfl, by repeat' first | exact bF _ _ | exact hbw1 | refine bA ?_ ?_ _ | refine bS ?_ ?_ _ | refine bD ?_ | refine below_drewN ?_ _ | (simp; done) | (simp; omega) | (simp [z00]; done) | (simp [z00]; omega) | omega⟩
end
section
open Go.ChangeShapes Go.WideShapes Go.ChangeAt Go.RowKit
attribute [local simp] z00 z0d z07
theorem z2j {W w1 : World} (hb : Below W.heap.size W w1) (n : Nat) (h : n < W.heap.size) : n < w1.heap.size /\ w1.cell? ⟨n, 0, none⟩ = W.cell? ⟨n, 0, none⟩ /\ w1.cell? ⟨n, 1, none⟩ = W.cell? ⟨n, 1, none⟩ /\ w1.frozen? ⟨n, 0, none⟩ = W.frozen? ⟨n, 0, none⟩ /\ w1.frozen? ⟨n, 1, none⟩ = W.frozen? ⟨n, 1, none⟩ :=
 ⟨Nat.lt_of_lt_of_le h hb.size, hb.cell (p := ⟨n, 0, none⟩) h, hb.cell (p := ⟨n, 1, none⟩) h, hb.frozen (p := ⟨n, 0, none⟩) h, hb.frozen (p := ⟨n, 1, none⟩) h⟩
def z4u (al ah bl bh : Int) : (Int × Int) × Bool := if max al bl <= min ah bh then ((max al bl, min ah bh), true) else ((0, 0), false)
def belV (g al ah bl bh : Int) : (Int × Int) × (Int × Int) × Bool := if al <= ah /\ al + g <= bh then ((al, min ah (bh - g)), (max bl (al + g), bh), true) else ((0, 0), (0, 0), false)
def unsV (g al ah bl bh : Int) : (Int × Int) × (Int × Int) × Bool := if bl < 0 then ((al, ah), (bl, bh), true) else belV g (max al 0) ah bl bh
def apV (al ah bl bh : Int) : (Int × Int) × (Int × Int) × Bool := if al = bl /\ ah = bh /\ ah = al then ((0, 0), (0, 0), false) else (cutV al ah bl bh, cutV bl bh al ah, true)
def zDq (x : (Int × Int) × (Int × Int) × Bool) : (Int × Int) × (Int × Int) × Bool := (x.2.1, x.1, x.2.2)
def narV (c al ah bl bh : Int) : (Int × Int) × (Int × Int) × Bool :=
 if c = 15 then ((z4u al ah bl bh).1, (z4u al ah bl bh).1, (z4u al ah bl bh).2) else if c = 16 then apV al ah bl bh
 else if c = 17 then zDq (unsV 1 bl bh al ah) else if c = 18 then zDq (unsV 0 bl bh al ah) else if c = 19 then unsV 1 al ah bl bh else if c = 20 then unsV 0 al ah bl bh
 else if c = 21 then zDq (belV 1 bl bh al ah) else if c = 22 then zDq (belV 0 bl bh al ah) else if c = 23 then belV 1 al ah bl bh else if c = 24 then belV 0 al ah bl bh
 else ((al, ah), (bl, bh), true)
theorem zQ6 (al ah bl bh : Int) : narV 15 al ah bl bh = ((z4u al ah bl bh).1, (z4u al ah bl bh).1, (z4u al ah bl bh).2) := by simp only [narV, reduceIte, Int.reduceEq]
theorem zQ5 (al ah bl bh : Int) : narV 16 al ah bl bh = apV al ah bl bh := by simp only [narV, reduceIte, Int.reduceEq]
theorem zQ4 (al ah bl bh : Int) : narV 17 al ah bl bh = zDq (unsV 1 bl bh al ah) := by simp only [narV, reduceIte, Int.reduceEq]
theorem zQ3 (al ah bl bh : Int) : narV 18 al ah bl bh = zDq (unsV 0 bl bh al ah) := by simp only [narV, reduceIte, Int.reduceEq]
theorem zQ2 (al ah bl bh : Int) : narV 19 al ah bl bh = unsV 1 al ah bl bh := by simp only [narV, reduceIte, Int.reduceEq]
theorem zQ1 (al ah bl bh : Int) : narV 20 al ah bl bh = unsV 0 al ah bl bh := by simp only [narV, reduceIte, Int.reduceEq]
theorem zQ0 (al ah bl bh : Int) : narV 21 al ah bl bh = zDq (belV 1 bl bh al ah) := by simp only [narV, reduceIte, Int.reduceEq]
theorem zPz (al ah bl bh : Int) : narV 22 al ah bl bh = zDq (belV 0 bl bh al ah) := by simp only [narV, reduceIte, Int.reduceEq]
theorem zPy (al ah bl bh : Int) : narV 23 al ah bl bh = belV 1 al ah bl bh := by simp only [narV, reduceIte, Int.reduceEq]
theorem zPx (al ah bl bh : Int) : narV 24 al ah bl bh = belV 0 al ah bl bh := by simp only [narV, reduceIte, Int.reduceEq]
theorem zWi {c : Int} (al ah bl bh : Int) (h : c < 15 \/ 24 < c) : narV c al ah bl bh = ((al, ah), (bl, bh), true) := by
 have e : ∀ k : Int, 15 <= k -> k <= 24 -> c ≠ k := fun k h1 h2 => by omega
 unfold narV
 rw [if_neg (e 15 (by decide) (by decide)), if_neg (e 16 (by decide) (by decide)), if_neg (e 17 (by decide) (by decide)), if_neg (e 18 (by decide) (by decide)), if_neg (e 19 (by decide) (by decide)), if_neg (e 20 (by decide) (by decide)), if_neg (e 21 (by decide) (by decide)), if_neg (e 22 (by decide) (by decide)), if_neg (e 23 (by decide) (by decide)), if_neg (e 24 (by decide) (by decide))]
theorem zWk (al ah bl bh : Int) (w : World) : Calls tP 214 #[.agg #[A B al, A B ah], .agg #[A B bl, A B bh]] w fun e w' => e = rT (.tuple #[.agg #[A B (((z4u al ah bl bh).1).1), A B (((z4u al ah bl bh).1).2)], .bool ((z4u al ah bl bh).2)]) /\ Below w.heap.size w w' := by
 unfold z4u
 by_cases h : max al bl <= min ah bh
 ·rw [if_pos h]
  exact zTr al ah bl bh h w
 ·rw [if_neg h]
  exact zWj al ah bl bh (by omega) w
theorem zXu {x y : Int} (h0 : 0 <= x) (h1 : x <= 9223372036854775807) (h2 : 0 <= y) (h3 : y <= 9223372036854775807) : isV 19 x y = decide (x < y) := by
 rw [zGk]; have a := z3p h0 h1; have b := z3p h2 h3; congr 1; rw [eq_iff_iff]; omega
theorem zXt {x y : Int} (h0 : 0 <= x) (h1 : x <= 9223372036854775807) (h2 : 0 <= y) (h3 : y <= 9223372036854775807) : isV 20 x y = decide (x <= y) := by
 rw [zGj]; have a := z3p h0 h1; have b := z3p h2 h3; congr 1; rw [eq_iff_iff]; omega
theorem zLb (al ah bl bh : Int) (pal : -9223372036854775808 <= al) (qal : al <= 9223372036854775807) (pah : -9223372036854775808 <= ah) (qah : ah <= 9223372036854775807) (pbl : -9223372036854775808 <= bl) (qbl : bl <= 9223372036854775807) (pbh : -9223372036854775808 <= bh) (qbh : bh <= 9223372036854775807) (oa : al <= ah) (ob : bl <= bh) (w : World) : Calls tP 216 #[A B 19, .agg #[A B al, A B ah], .agg #[A B bl, A B bh]] w fun e w' => e = rT (.tuple #[.agg #[A B (((unsV 1 al ah bl bh).1).1), A B (((unsV 1 al ah bl bh).1).2)], .agg #[A B (((unsV 1 al ah bl bh).2.1).1), A B (((unsV 1 al ah bl bh).2.1).2)], .bool ((unsV 1 al ah bl bh).2.2)]) /\ Below w.heap.size w w' := by
 unfold unsV
 by_cases hb : bl < 0
 ·rw [if_pos hb]
  exact zS1 al ah bl bh hb w
 rw [if_neg hb]
 have hb0 : 0 <= bl := by omega
 have hi := zXu (x := max al 0) (y := bh) (by omega) (by omega) (by omega) qbh
 unfold belV
 by_cases h : max al 0 <= ah
 ·by_cases h2 : max al 0 < bh
  ·rw [if_pos ⟨h, by omega⟩]
   exact zS0 al ah bl bh hb0 h (by rw [hi]; exact decide_eq_true h2) (by omega) (by omega) (by omega) (by omega) w
  ·rw [if_neg (fun x => h2 (by omega))]
   exact zS2 al ah bl bh hb0 h (by rw [hi]; exact decide_eq_false h2) w
 ·rw [if_neg (fun x => h x.1)]
  exact zS3 al ah bl bh hb0 (by omega) w
theorem zLa (al ah bl bh : Int) (pal : -9223372036854775808 <= al) (qal : al <= 9223372036854775807) (pah : -9223372036854775808 <= ah) (qah : ah <= 9223372036854775807) (pbl : -9223372036854775808 <= bl) (qbl : bl <= 9223372036854775807) (pbh : -9223372036854775808 <= bh) (qbh : bh <= 9223372036854775807) (oa : al <= ah) (ob : bl <= bh) (w : World) : Calls tP 216 #[A B 20, .agg #[A B al, A B ah], .agg #[A B bl, A B bh]] w fun e w' => e = rT (.tuple #[.agg #[A B (((unsV 0 al ah bl bh).1).1), A B (((unsV 0 al ah bl bh).1).2)], .agg #[A B (((unsV 0 al ah bl bh).2.1).1), A B (((unsV 0 al ah bl bh).2.1).2)], .bool ((unsV 0 al ah bl bh).2.2)]) /\ Below w.heap.size w w' := by
 unfold unsV
 by_cases hb : bl < 0
 ·rw [if_pos hb]
  exact zRx al ah bl bh hb w
 rw [if_neg hb]
 have hb0 : 0 <= bl := by omega
 have hi := zXt (x := max al 0) (y := bh) (by omega) (by omega) (by omega) qbh
 unfold belV
 by_cases h : max al 0 <= ah
 ·by_cases h2 : max al 0 <= bh
  ·rw [if_pos ⟨h, by omega⟩]
   rw [show bh - 0 = bh by omega, show max al 0 + 0 = max al 0 by omega]
   exact zRw al ah bl bh hb0 h (by rw [hi]; exact decide_eq_true h2) (by omega) (by omega) (by omega) (by omega) w
  ·rw [if_neg (fun x => h2 (by omega))]
   exact zRy al ah bl bh hb0 h (by rw [hi]; exact decide_eq_false h2) w
 ·rw [if_neg (fun x => h x.1)]
  exact zRz al ah bl bh hb0 (by omega) w
theorem zL9 (al ah bl bh : Int) (pal : -9223372036854775808 <= al) (qal : al <= 9223372036854775807) (pah : -9223372036854775808 <= ah) (qah : ah <= 9223372036854775807) (pbl : -9223372036854775808 <= bl) (qbl : bl <= 9223372036854775807) (pbh : -9223372036854775808 <= bh) (qbh : bh <= 9223372036854775807) (oa : al <= ah) (ob : bl <= bh) (w : World) : Calls tP 216 #[A B 23, .agg #[A B al, A B ah], .agg #[A B bl, A B bh]] w fun e w' => e = rT (.tuple #[.agg #[A B (((belV 1 al ah bl bh).1).1), A B (((belV 1 al ah bl bh).1).2)], .agg #[A B (((belV 1 al ah bl bh).2.1).1), A B (((belV 1 al ah bl bh).2.1).2)], .bool ((belV 1 al ah bl bh).2.2)]) /\ Below w.heap.size w w' := by
 have hi := zGi al bh
 unfold belV
 by_cases h : al <= ah
 ·by_cases h2 : al < bh
  ·rw [if_pos ⟨h, by omega⟩]
   exact zRt al ah bl bh h (by rw [hi]; exact decide_eq_true h2) (by omega) (by omega) (by omega) (by omega) w
  ·rw [if_neg (fun x => h2 (by omega))]
   exact zRu al ah bl bh h (by rw [hi]; exact decide_eq_false h2) w
 ·rw [if_neg (fun x => h x.1)]
  exact zRv al ah bl bh (by omega) w
theorem zL8 (al ah bl bh : Int) (pal : -9223372036854775808 <= al) (qal : al <= 9223372036854775807) (pah : -9223372036854775808 <= ah) (qah : ah <= 9223372036854775807) (pbl : -9223372036854775808 <= bl) (qbl : bl <= 9223372036854775807) (pbh : -9223372036854775808 <= bh) (qbh : bh <= 9223372036854775807) (oa : al <= ah) (ob : bl <= bh) (w : World) : Calls tP 216 #[A B 24, .agg #[A B al, A B ah], .agg #[A B bl, A B bh]] w fun e w' => e = rT (.tuple #[.agg #[A B (((belV 0 al ah bl bh).1).1), A B (((belV 0 al ah bl bh).1).2)], .agg #[A B (((belV 0 al ah bl bh).2.1).1), A B (((belV 0 al ah bl bh).2.1).2)], .bool ((belV 0 al ah bl bh).2.2)]) /\ Below w.heap.size w w' := by
 have hi := zGh al bh
 unfold belV
 by_cases h : al <= ah
 ·by_cases h2 : al <= bh
  ·rw [if_pos ⟨h, by omega⟩]
   rw [show bh - 0 = bh by omega, show al + 0 = al by omega]
   exact zRq al ah bl bh h (by rw [hi]; exact decide_eq_true h2) (by omega) (by omega) (by omega) (by omega) w
  ·rw [if_neg (fun x => h2 (by omega))]
   exact zRr al ah bl bh h (by rw [hi]; exact decide_eq_false h2) w
 ·rw [if_neg (fun x => h x.1)]
  exact zRs al ah bl bh (by omega) w
theorem zV7 (al ah bl bh : Int) (pal : -9223372036854775808 <= al) (qal : al <= 9223372036854775807) (pah : -9223372036854775808 <= ah) (qah : ah <= 9223372036854775807) (pbl : -9223372036854775808 <= bl) (qbl : bl <= 9223372036854775807) (pbh : -9223372036854775808 <= bh) (qbh : bh <= 9223372036854775807) (oa : al <= ah) (ob : bl <= bh) (w : World) : Calls tP 215 #[.agg #[A B al, A B ah], .agg #[A B bl, A B bh]] w fun e w' => e = rT (.tuple #[.agg #[A B (((apV al ah bl bh).1).1), A B (((apV al ah bl bh).1).2)], .agg #[A B (((apV al ah bl bh).2.1).1), A B (((apV al ah bl bh).2.1).2)], .bool ((apV al ah bl bh).2.2)]) /\ Below w.heap.size w w' := by
 unfold apV
 by_cases h0 : al = bl
 ·subst h0
  by_cases h1 : ah = bh
  ·subst h1
   by_cases h2 : ah = al
   ·rw [if_pos ⟨rfl, rfl, h2⟩]
    subst h2
    exact zV6 ah w
   ·rw [if_neg (fun x => h2 x.2.2)]
    exact zV5 al ah pal qal pah qah oa h2 w
  ·rw [if_neg (fun x => h1 x.2.1)]
   exact zV3 al ah bh pal qal pah qah pbh qbh oa ob h1 w
 ·rw [if_neg (fun x => h0 x.1)]
  exact zV4 al ah bl bh pal qal pah qah pbl qbl pbh qbh oa ob h0 w
def Outs (n L U : Nat) (x0 x1 y0 y1 : Int) (w : World) : Prop :=
 w.cell? ⟨n + 1 + 1, 0, none⟩ = some (A B 0) /\ w.cell? ⟨n + 1 + 1, 1, none⟩ = some (A B 0) /\ w.frozen? ⟨n + 1 + 1, 0, none⟩ = false /\ w.frozen? ⟨n + 1 + 1, 1, none⟩ = false
 /\ w.cell? ⟨n + 1 + 1 + 1, 0, none⟩ = some (A B 0) /\ w.cell? ⟨n + 1 + 1 + 1, 1, none⟩ = some (A B 0) /\ w.frozen? ⟨n + 1 + 1 + 1, 0, none⟩ = false /\ w.frozen? ⟨n + 1 + 1 + 1, 1, none⟩ = false
 /\ w.cell? ⟨L, 0, none⟩ = some (A B x0) /\ w.cell? ⟨L, 1, none⟩ = some (A B x1) /\ w.cell? ⟨U, 0, none⟩ = some (A B y0) /\ w.cell? ⟨U, 1, none⟩ = some (A B y1)
 /\ L ≠ n + 1 + 1 /\ L ≠ n + 1 + 1 + 1 /\ U ≠ n + 1 + 1 /\ U ≠ n + 1 + 1 + 1
theorem nar_15 (al ah bl bh : Int) (pal : -9223372036854775808 <= al) (qal : al <= 9223372036854775807) (pah : -9223372036854775808 <= ah) (qah : ah <= 9223372036854775807) (pbl : -9223372036854775808 <= bl) (qbl : bl <= 9223372036854775807) (pbh : -9223372036854775808 <= bh) (qbh : bh <= 9223372036854775807) (oa : al <= ah) (ob : bl <= bh) (w : World) : Calls tP 195 #[A B 15, .agg #[A B al, A B ah], .agg #[A B bl, A B bh]] w fun e w' => e = rT (.tuple #[.agg #[A B (((z4u al ah bl bh).1).1), A B (((z4u al ah bl bh).1).2)], .agg #[A B (((z4u al ah bl bh).1).1), A B (((z4u al ah bl bh).1).2)], .bool ((z4u al ah bl bh).2)]) /\ Below w.heap.size w w' := by
 go_enter Tryz.func195, Tryz.ntmps195
 go_wp2_with (first | (go_at_call 214; go_must (refine (zWk _ _ _ _ _).mono ?_; rintro e w1 ⟨rfl, hb1⟩; have hX1 : Quad w.heap.size al ah bl bh w1 := Quad.later (by first | exact hX1 | (refine ⟨?_, ?_, ?_, ?_, ?_, ?_, ?_, ?_, ?_, ?_, ?_, ?_, ?_, ?_, ?_, ?_, ?_⟩ <;> simp [go_sem])) hb1; have hbw1 : Below w.heap.size w w1 := (by ((refine Below.trans ?_ (hb1.mono ?_)) <;> repeat' first | exact bF _ _ | exact hbw1 | refine bA ?_ ?_ _ | refine bS ?_ ?_ _ | refine bD ?_ | refine below_drewN ?_ _ | (simp; done) | (simp; omega) | (simp [z00]; done) | (simp [z00]; omega) | omega)); have hY := hX1; obtain ⟨t0, a0, a1, af0, af1, b0, b1, bf0, bf1, r0, r1, rf0, rf1, s0, s1, sf0, sf1⟩ := hY; have u2 : w.heap.size + 1 + 1 < w1.heap.size := (by omega); have u0 : w.heap.size < w1.heap.size := (by omega); have u1 : w.heap.size + 1 < w1.heap.size := (by omega))))
 all_goals go_region
 all_goals go_wp2
 all_goals exact bodyPost_ret (v := .tuple #[.agg #[A B (((z4u al ah bl bh).1).1), A B (((z4u al ah bl bh).1).2)], .agg #[A B (((z4u al ah bl bh).1).1), A B (((z4u al ah bl bh).1).2)], .bool ((z4u al ah bl bh).2)]) (by simp [results, Tryz.results195, go_sem, r0, r1, s0, s1, u2, t0]) rfl ⟨rfl, by repeat' first | exact bF _ _ | exact hbw1 | refine bA ?_ ?_ _ | refine bS ?_ ?_ _ | refine bD ?_ | refine below_drewN ?_ _ | (simp; done) | (simp; omega) | (simp [z00]; done) | (simp [z00]; omega) | omega⟩
theorem nar_16 (al ah bl bh : Int) (pal : -9223372036854775808 <= al) (qal : al <= 9223372036854775807) (pah : -9223372036854775808 <= ah) (qah : ah <= 9223372036854775807) (pbl : -9223372036854775808 <= bl) (qbl : bl <= 9223372036854775807) (pbh : -9223372036854775808 <= bh) (qbh : bh <= 9223372036854775807) (oa : al <= ah) (ob : bl <= bh) (w : World) : Calls tP 195 #[A B 16, .agg #[A B al, A B ah], .agg #[A B bl, A B bh]] w fun e w' => e = rT (.tuple #[.agg #[A B (((apV al ah bl bh).1).1), A B (((apV al ah bl bh).1).2)], .agg #[A B (((apV al ah bl bh).2.1).1), A B (((apV al ah bl bh).2.1).2)], .bool ((apV al ah bl bh).2.2)]) /\ Below w.heap.size w w' := by
 go_enter Tryz.func195, Tryz.ntmps195
 go_wp2_with (first | (go_at_call 215; go_must (refine (zV7 _ _ _ _ pal qal pah qah pbl qbl pbh qbh oa ob _).mono ?_; rintro e w1 ⟨rfl, hb1⟩; have hX1 : Quad w.heap.size al ah bl bh w1 := Quad.later (by first | exact hX1 | (refine ⟨?_, ?_, ?_, ?_, ?_, ?_, ?_, ?_, ?_, ?_, ?_, ?_, ?_, ?_, ?_, ?_, ?_⟩ <;> simp [go_sem])) hb1; have hbw1 : Below w.heap.size w w1 := (by ((refine Below.trans ?_ (hb1.mono ?_)) <;> repeat' first | exact bF _ _ | exact hbw1 | refine bA ?_ ?_ _ | refine bS ?_ ?_ _ | refine bD ?_ | refine below_drewN ?_ _ | (simp; done) | (simp; omega) | (simp [z00]; done) | (simp [z00]; omega) | omega)); have hY := hX1; obtain ⟨t0, a0, a1, af0, af1, b0, b1, bf0, bf1, r0, r1, rf0, rf1, s0, s1, sf0, sf1⟩ := hY; have u2 : w.heap.size + 1 + 1 < w1.heap.size := (by omega); have u0 : w.heap.size < w1.heap.size := (by omega); have u1 : w.heap.size + 1 < w1.heap.size := (by omega))))
 all_goals exact bodyPost_ret (v := .tuple #[.agg #[A B (((apV al ah bl bh).1).1), A B (((apV al ah bl bh).1).2)], .agg #[A B (((apV al ah bl bh).2.1).1), A B (((apV al ah bl bh).2.1).2)], .bool ((apV al ah bl bh).2.2)]) (by simp [results, Tryz.results195, go_sem, r0, r1, s0, s1]) rfl ⟨rfl, by repeat' first | exact bF _ _ | exact hbw1 | refine bA ?_ ?_ _ | refine bS ?_ ?_ _ | refine bD ?_ | refine below_drewN ?_ _ | (simp; done) | (simp; omega) | (simp [z00]; done) | (simp [z00]; omega) | omega⟩
theorem nar_19 (al ah bl bh : Int) (pal : -9223372036854775808 <= al) (qal : al <= 9223372036854775807) (pah : -9223372036854775808 <= ah) (qah : ah <= 9223372036854775807) (pbl : -9223372036854775808 <= bl) (qbl : bl <= 9223372036854775807) (pbh : -9223372036854775808 <= bh) (qbh : bh <= 9223372036854775807) (oa : al <= ah) (ob : bl <= bh) (w : World) : Calls tP 195 #[A B 19, .agg #[A B al, A B ah], .agg #[A B bl, A B bh]] w fun e w' => e = rT (.tuple #[.agg #[A B (((unsV 1 al ah bl bh).1).1), A B (((unsV 1 al ah bl bh).1).2)], .agg #[A B (((unsV 1 al ah bl bh).2.1).1), A B (((unsV 1 al ah bl bh).2.1).2)], .bool ((unsV 1 al ah bl bh).2.2)]) /\ Below w.heap.size w w' := by
 go_enter Tryz.func195, Tryz.ntmps195
 go_wp2_with (first | (go_at_call 216; go_must (refine (zLb _ _ _ _ pal qal pah qah pbl qbl pbh qbh oa ob _).mono ?_; rintro e w1 ⟨rfl, hb1⟩; have hX1 : Quad w.heap.size al ah bl bh w1 := Quad.later (by first | exact hX1 | (refine ⟨?_, ?_, ?_, ?_, ?_, ?_, ?_, ?_, ?_, ?_, ?_, ?_, ?_, ?_, ?_, ?_, ?_⟩ <;> simp [go_sem])) hb1; have hbw1 : Below w.heap.size w w1 := (by ((refine Below.trans ?_ (hb1.mono ?_)) <;> repeat' first | exact bF _ _ | exact hbw1 | refine bA ?_ ?_ _ | refine bS ?_ ?_ _ | refine bD ?_ | refine below_drewN ?_ _ | (simp; done) | (simp; omega) | (simp [z00]; done) | (simp [z00]; omega) | omega)); have hY := hX1; obtain ⟨t0, a0, a1, af0, af1, b0, b1, bf0, bf1, r0, r1, rf0, rf1, s0, s1, sf0, sf1⟩ := hY; have u2 : w.heap.size + 1 + 1 < w1.heap.size := (by omega); have u0 : w.heap.size < w1.heap.size := (by omega); have u1 : w.heap.size + 1 < w1.heap.size := (by omega))))
 all_goals exact bodyPost_ret (v := .tuple #[.agg #[A B (((unsV 1 al ah bl bh).1).1), A B (((unsV 1 al ah bl bh).1).2)], .agg #[A B (((unsV 1 al ah bl bh).2.1).1), A B (((unsV 1 al ah bl bh).2.1).2)], .bool ((unsV 1 al ah bl bh).2.2)]) (by simp [results, Tryz.results195, go_sem, r0, r1, s0, s1]) rfl ⟨rfl, by repeat' first | exact bF _ _ | exact hbw1 | refine bA ?_ ?_ _ | refine bS ?_ ?_ _ | refine bD ?_ | refine below_drewN ?_ _ | (simp; done) | (simp; omega) | (simp [z00]; done) | (simp [z00]; omega) | omega⟩
theorem nar_20 (al ah bl bh : Int) (pal : -9223372036854775808 <= al) (qal : al <= 9223372036854775807) (pah : -9223372036854775808 <= ah) (qah : ah <= 9223372036854775807) (pbl : -9223372036854775808 <= bl) (qbl : bl <= 9223372036854775807) (pbh : -9223372036854775808 <= bh) (qbh : bh <= 9223372036854775807) (oa : al <= ah) (ob : bl <= bh) (w : World) : Calls tP 195 #[A B 20, .agg #[A B al, A B ah], .agg #[A B bl, A B bh]] w fun e w' => e = rT (.tuple #[.agg #[A B (((unsV 0 al ah bl bh).1).1), A B (((unsV 0 al ah bl bh).1).2)], .agg #[A B (((unsV 0 al ah bl bh).2.1).1), A B (((unsV 0 al ah bl bh).2.1).2)], .bool ((unsV 0 al ah bl bh).2.2)]) /\ Below w.heap.size w w' := by
 go_enter Tryz.func195, Tryz.ntmps195
 go_wp2_with (first | (go_at_call 216; go_must (refine (zLa _ _ _ _ pal qal pah qah pbl qbl pbh qbh oa ob _).mono ?_; rintro e w1 ⟨rfl, hb1⟩; have hX1 : Quad w.heap.size al ah bl bh w1 := Quad.later (by first | exact hX1 | (refine ⟨?_, ?_, ?_, ?_, ?_, ?_, ?_, ?_, ?_, ?_, ?_, ?_, ?_, ?_, ?_, ?_, ?_⟩ <;> simp [go_sem])) hb1; have hbw1 : Below w.heap.size w w1 := (by ((refine Below.trans ?_ (hb1.mono ?_)) <;> repeat' first | exact bF _ _ | exact hbw1 | refine bA ?_ ?_ _ | refine bS ?_ ?_ _ | refine bD ?_ | refine below_drewN ?_ _ | (simp; done) | (simp; omega) | (simp [z00]; done) | (simp [z00]; omega) | omega)); have hY := hX1; obtain ⟨t0, a0, a1, af0, af1, b0, b1, bf0, bf1, r0, r1, rf0, rf1, s0, s1, sf0, sf1⟩ := hY; have u2 : w.heap.size + 1 + 1 < w1.heap.size := (by omega); have u0 : w.heap.size < w1.heap.size := (by omega); have u1 : w.heap.size + 1 < w1.heap.size := (by omega))))
 all_goals exact bodyPost_ret (v := .tuple #[.agg #[A B (((unsV 0 al ah bl bh).1).1), A B (((unsV 0 al ah bl bh).1).2)], .agg #[A B (((unsV 0 al ah bl bh).2.1).1), A B (((unsV 0 al ah bl bh).2.1).2)], .bool ((unsV 0 al ah bl bh).2.2)]) (by simp [results, Tryz.results195, go_sem, r0, r1, s0, s1]) rfl ⟨rfl, by repeat' first | exact bF _ _ | exact hbw1 | refine bA ?_ ?_ _ | refine bS ?_ ?_ _ | refine bD ?_ | refine below_drewN ?_ _ | (simp; done) | (simp; omega) | (simp [z00]; done) | (simp [z00]; omega) | omega⟩
theorem nar_23 (al ah bl bh : Int) (pal : -9223372036854775808 <= al) (qal : al <= 9223372036854775807) (pah : -9223372036854775808 <= ah) (qah : ah <= 9223372036854775807) (pbl : -9223372036854775808 <= bl) (qbl : bl <= 9223372036854775807) (pbh : -9223372036854775808 <= bh) (qbh : bh <= 9223372036854775807) (oa : al <= ah) (ob : bl <= bh) (w : World) : Calls tP 195 #[A B 23, .agg #[A B al, A B ah], .agg #[A B bl, A B bh]] w fun e w' => e = rT (.tuple #[.agg #[A B (((belV 1 al ah bl bh).1).1), A B (((belV 1 al ah bl bh).1).2)], .agg #[A B (((belV 1 al ah bl bh).2.1).1), A B (((belV 1 al ah bl bh).2.1).2)], .bool ((belV 1 al ah bl bh).2.2)]) /\ Below w.heap.size w w' := by
 go_enter Tryz.func195, Tryz.ntmps195
 go_wp2_with (first | (go_at_call 216; go_must (refine (zL9 _ _ _ _ pal qal pah qah pbl qbl pbh qbh oa ob _).mono ?_; rintro e w1 ⟨rfl, hb1⟩; have hX1 : Quad w.heap.size al ah bl bh w1 := Quad.later (by first | exact hX1 | (refine ⟨?_, ?_, ?_, ?_, ?_, ?_, ?_, ?_, ?_, ?_, ?_, ?_, ?_, ?_, ?_, ?_, ?_⟩ <;> simp [go_sem])) hb1; have hbw1 : Below w.heap.size w w1 := (by ((refine Below.trans ?_ (hb1.mono ?_)) <;> repeat' first | exact bF _ _ | exact hbw1 | refine bA ?_ ?_ _ | refine bS ?_ ?_ _ | refine bD ?_ | refine below_drewN ?_ _ | (simp; done) | (simp; omega) | (simp [z00]; done) | (simp [z00]; omega) | omega)); have hY := hX1; obtain ⟨t0, a0, a1, af0, af1, b0, b1, bf0, bf1, r0, r1, rf0, rf1, s0, s1, sf0, sf1⟩ := hY; have u2 : w.heap.size + 1 + 1 < w1.heap.size := (by omega); have u0 : w.heap.size < w1.heap.size := (by omega); have u1 : w.heap.size + 1 < w1.heap.size := (by omega))))
 all_goals exact bodyPost_ret (v := .tuple #[.agg #[A B (((belV 1 al ah bl bh).1).1), A B (((belV 1 al ah bl bh).1).2)], .agg #[A B (((belV 1 al ah bl bh).2.1).1), A B (((belV 1 al ah bl bh).2.1).2)], .bool ((belV 1 al ah bl bh).2.2)]) (by simp [results, Tryz.results195, go_sem, r0, r1, s0, s1]) rfl ⟨rfl, by repeat' first | exact bF _ _ | exact hbw1 | refine bA ?_ ?_ _ | refine bS ?_ ?_ _ | refine bD ?_ | refine below_drewN ?_ _ | (simp; done) | (simp; omega) | (simp [z00]; done) | (simp [z00]; omega) | omega⟩
theorem nar_24 (al ah bl bh : Int) (pal : -9223372036854775808 <= al) (qal : al <= 9223372036854775807) (pah : -9223372036854775808 <= ah) (qah : ah <= 9223372036854775807) (pbl : -9223372036854775808 <= bl) (qbl : bl <= 9223372036854775807) (pbh : -9223372036854775808 <= bh) (qbh : bh <= 9223372036854775807) (oa : al <= ah) (ob : bl <= bh) (w : World) : Calls tP 195 #[A B 24, .agg #[A B al, A B ah], .agg #[A B bl, A B bh]] w fun e w' => e = rT (.tuple #[.agg #[A B (((belV 0 al ah bl bh).1).1), A B (((belV 0 al ah bl bh).1).2)], .agg #[A B (((belV 0 al ah bl bh).2.1).1), A B (((belV 0 al ah bl bh).2.1).2)], .bool ((belV 0 al ah bl bh).2.2)]) /\ Below w.heap.size w w' := by
 go_enter Tryz.func195, Tryz.ntmps195
 go_wp2_with (first | (go_at_call 216; go_must (refine (zL8 _ _ _ _ pal qal pah qah pbl qbl pbh qbh oa ob _).mono ?_; rintro e w1 ⟨rfl, hb1⟩; have hX1 : Quad w.heap.size al ah bl bh w1 := Quad.later (by first | exact hX1 | (refine ⟨?_, ?_, ?_, ?_, ?_, ?_, ?_, ?_, ?_, ?_, ?_, ?_, ?_, ?_, ?_, ?_, ?_⟩ <;> simp [go_sem])) hb1; have hbw1 : Below w.heap.size w w1 := (by ((refine Below.trans ?_ (hb1.mono ?_)) <;> repeat' first | exact bF _ _ | exact hbw1 | refine bA ?_ ?_ _ | refine bS ?_ ?_ _ | refine bD ?_ | refine below_drewN ?_ _ | (simp; done) | (simp; omega) | (simp [z00]; done) | (simp [z00]; omega) | omega)); have hY := hX1; obtain ⟨t0, a0, a1, af0, af1, b0, b1, bf0, bf1, r0, r1, rf0, rf1, s0, s1, sf0, sf1⟩ := hY; have u2 : w.heap.size + 1 + 1 < w1.heap.size := (by omega); have u0 : w.heap.size < w1.heap.size := (by omega); have u1 : w.heap.size + 1 < w1.heap.size := (by omega))))
 all_goals exact bodyPost_ret (v := .tuple #[.agg #[A B (((belV 0 al ah bl bh).1).1), A B (((belV 0 al ah bl bh).1).2)], .agg #[A B (((belV 0 al ah bl bh).2.1).1), A B (((belV 0 al ah bl bh).2.1).2)], .bool ((belV 0 al ah bl bh).2.2)]) (by simp [results, Tryz.results195, go_sem, r0, r1, s0, s1]) rfl ⟨rfl, by repeat' first | exact bF _ _ | exact hbw1 | refine bA ?_ ?_ _ | refine bS ?_ ?_ _ | refine bD ?_ | refine below_drewN ?_ _ | (simp; done) | (simp; omega) | (simp [z00]; done) | (simp [z00]; omega) | omega⟩
theorem nar_no (k al ah bl bh : Int) (hk : k < 15 \/ 24 < k) (w : World) : Calls tP 195 #[A B k, .agg #[A B al, A B ah], .agg #[A B bl, A B bh]] w fun e w' => e = rT (.tuple #[.agg #[A B al, A B ah], .agg #[A B bl, A B bh], .bool true]) /\ Below w.heap.size w w' := by
 have e15 : (k == 15) = false := by simp; omega
 have e16 : (k == 16) = false := by simp; omega
 have e17 : (k == 17) = false := by simp; omega
 have e18 : (k == 18) = false := by simp; omega
 have e19 : (k == 19) = false := by simp; omega
 have e20 : (k == 20) = false := by simp; omega
 have e21 : (k == 21) = false := by simp; omega
 have e22 : (k == 22) = false := by simp; omega
 have e23 : (k == 23) = false := by simp; omega
 have e24 : (k == 24) = false := by simp; omega
 go_enter Tryz.func195, Tryz.ntmps195
 go_wp2_with fail
 all_goals go_region
 all_goals go_wp2
 all_goals exact bodyPost_ret (v := .tuple #[.agg #[A B al, A B ah], .agg #[A B bl, A B bh], .bool true]) (by simp [results, Tryz.results195, go_sem]) rfl ⟨rfl, by repeat' first | exact bF _ _ | refine bA ?_ ?_ _ | refine bS ?_ ?_ _ | refine bD ?_ | refine below_drewN ?_ _ | (simp; done) | (simp; omega) | (simp [z00]; done) | (simp [z00]; omega) | omega⟩
end
section
open Go.RowKit
theorem zG4 {c x y : Int} (h : 15 <= c /\ c <= 24) : (isV c x y == isV (oppV c) x y) = false /\ oppV (oppV c) = c /\ 15 <= oppV c /\ oppV c <= 24 := by
 have e : c = 15 \/ c = 16 \/ c = 17 \/ c = 18 \/ c = 19 \/ c = 20 \/ c = 21 \/ c = 22 \/ c = 23 \/ c = 24 := by omega
 rcases e with rfl | rfl | rfl | rfl | rfl | rfl | rfl | rfl | rfl | rfl
 ·refine ⟨?_, by decide, by decide, by decide⟩
  show (isV 15 x y == isV 16 x y) = false
  rw [zKr, zKq]; cases decide (x = y) <;> rfl
 ·refine ⟨?_, by decide, by decide, by decide⟩
  show (isV 16 x y == isV 15 x y) = false
  rw [zKr, zKq]; cases decide (x = y) <;> rfl
 ·refine ⟨?_, by decide, by decide, by decide⟩
  show (isV 17 x y == isV 20 x y) = false
  rw [zKp, zGj, beq_eq_false_iff_ne, ne_eq, decide_eq_decide]; omega
 ·refine ⟨?_, by decide, by decide, by decide⟩
  show (isV 18 x y == isV 19 x y) = false
  rw [zKo, zGk, beq_eq_false_iff_ne, ne_eq, decide_eq_decide]; omega
 ·refine ⟨?_, by decide, by decide, by decide⟩
  show (isV 19 x y == isV 18 x y) = false
  rw [zKo, zGk, beq_eq_false_iff_ne, ne_eq, decide_eq_decide]; omega
 ·refine ⟨?_, by decide, by decide, by decide⟩
  show (isV 20 x y == isV 17 x y) = false
  rw [zKp, zGj, beq_eq_false_iff_ne, ne_eq, decide_eq_decide]; omega
 ·refine ⟨?_, by decide, by decide, by decide⟩
  show (isV 21 x y == isV 24 x y) = false
  rw [zKn, zGh, beq_eq_false_iff_ne, ne_eq, decide_eq_decide]; omega
 ·refine ⟨?_, by decide, by decide, by decide⟩
  show (isV 22 x y == isV 23 x y) = false
  rw [zKm, zGi, beq_eq_false_iff_ne, ne_eq, decide_eq_decide]; omega
 ·refine ⟨?_, by decide, by decide, by decide⟩
  show (isV 23 x y == isV 22 x y) = false
  rw [zKm, zGi, beq_eq_false_iff_ne, ne_eq, decide_eq_decide]; omega
 ·refine ⟨?_, by decide, by decide, by decide⟩
  show (isV 24 x y == isV 21 x y) = false
  rw [zKn, zGh, beq_eq_false_iff_ne, ne_eq, decide_eq_decide]; omega
def z9d (r : (Int × Int) × (Int × Int) × Bool) (al ah bl bh x y : Int) (is : Prop) : Prop :=
 (is -> r.2.2 = true /\ (r.1.1 <= x /\ x <= r.1.2) /\ r.2.1.1 <= y /\ y <= r.2.1.2) /\ (r.2.2 = true -> r.1.1 <= r.1.2 /\ r.2.1.1 <= r.2.1.2 /\ al <= r.1.1 /\ r.1.2 <= ah /\ bl <= r.2.1.1 /\ r.2.1.2 <= bh)
theorem z9d.swap {r : (Int × Int) × (Int × Int) × Bool} {al ah bl bh x y : Int} {p q : Prop} (h : z9d r al ah bl bh x y p) (e : q -> p) : z9d (zDq r) bl bh al ah y x q :=
 ⟨fun z => by obtain ⟨a, b, c⟩ := h.1 (e z); exact ⟨a, c, b⟩, fun z => by obtain ⟨a, b, c, d, e, f⟩ := h.2 z; exact ⟨b, a, e, f, c, d⟩⟩
theorem z83 {g al ah bl bh x y : Int} (h1 : al <= x) (h2 : x <= ah) (h3 : bl <= y) (h4 : y <= bh) : z9d (belV g al ah bl bh) al ah bl bh x y (x + g <= y) := by
 unfold belV z9d
 split
 ·exact ⟨fun h => ⟨rfl, by show al <= x /\ x <= min ah (bh - g); omega, by show max bl (al + g) <= y /\ y <= bh; omega⟩, fun _ => by show al <= min ah (bh - g) /\ max bl (al + g) <= bh /\ al <= al /\ min ah (bh - g) <= ah /\ bl <= max bl (al + g) /\ bh <= bh; omega⟩
 ·exact ⟨fun h => by omega, fun h => by cases h⟩
theorem z9i {g al ah bl bh x y : Int} (h1 : al <= x) (h2 : x <= ah) (h3 : bl <= y) (h4 : y <= bh) (h5 : 0 <= g) (px : -9223372036854775808 <= x) (qx : x <= 9223372036854775807) (qy : y <= 9223372036854775807) :
  z9d (unsV g al ah bl bh) al ah bl bh x y ((uns x : Int) + g <= uns y) := by
 have ex := zK5 x
 have ey := zK5 y
 unfold unsV
 split
 ·exact ⟨fun h => ⟨rfl, ⟨h1, h2⟩, h3, h4⟩, fun _ => by show al <= ah /\ bl <= bh /\ al <= al /\ ah <= ah /\ bl <= bl /\ bh <= bh; omega⟩
 ·by_cases hx : 0 <= x
  ·have b := z83 (g := g) (al := max al 0) (ah := ah) (by omega : max al 0 <= x) h2 h3 h4
   refine ⟨fun h => b.1 (by omega), fun h => ?_⟩
   have c := b.2 h
   omega
  ·refine ⟨fun h => by omega, fun h => ?_⟩
   unfold belV at h ⊢
   split at h
   ·rename_i hc
    rw [if_pos hc]
    show max al 0 <= min ah (bh - g) /\ max bl (max al 0 + g) <= bh /\ al <= max al 0 /\ min ah (bh - g) <= ah /\ bl <= max bl (max al 0 + g) /\ bh <= bh
    omega
   ·cases h
theorem zKg {c al ah bl bh x y : Int} (hc : 15 <= c /\ c <= 24) (pal : -9223372036854775808 <= al) (qah : ah <= 9223372036854775807) (pbl : -9223372036854775808 <= bl) (qbh : bh <= 9223372036854775807)
  (h1 : al <= x) (h2 : x <= ah) (h3 : bl <= y) (h4 : y <= bh) : z9d (narV c al ah bl bh) al ah bl bh x y (isV c x y = true) := by
 have e : c = 15 \/ c = 16 \/ c = 17 \/ c = 18 \/ c = 19 \/ c = 20 \/ c = 21 \/ c = 22 \/ c = 23 \/ c = 24 := by omega
 rcases e with rfl | rfl | rfl | rfl | rfl | rfl | rfl | rfl | rfl | rfl
 ·rw [zQ6, zKr, decide_eq_true_eq]
  unfold z4u z9d
  split
  ·exact ⟨fun h => ⟨rfl, by show max al bl <= x /\ x <= min ah bh; omega, by show max al bl <= y /\ y <= min ah bh; omega⟩, fun _ => by show max al bl <= min ah bh /\ max al bl <= min ah bh /\ al <= max al bl /\ min ah bh <= ah /\ bl <= max al bl /\ min ah bh <= bh; omega⟩
  ·exact ⟨fun h => by omega, fun h => by cases h⟩
 ·rw [zQ5, zKq, Bool.not_eq_true', decide_eq_false_iff_not]
  unfold apV
  split
  ·exact ⟨fun h => by omega, fun h => by cases h⟩
  ·have cut : ∀ {al ah ol oh x y : Int}, al <= x -> x <= ah -> ol <= y -> y <= oh -> (¬ x = y -> (cutV al ah ol oh).1 <= x /\ x <= (cutV al ah ol oh).2) /\ (cutV al ah ol oh).1 <= (cutV al ah ol oh).2 /\ al <= (cutV al ah ol oh).1 /\ (cutV al ah ol oh).2 <= ah := by
    intro al ah ol oh x y a1 a2 a3 a4
    unfold cutV
    split
    ·exact ⟨fun _ => ⟨a1, a2⟩, by show al <= ah /\ al <= al /\ ah <= ah; omega⟩
    ·split
     ·exact ⟨fun _ => by show al + 1 <= x /\ x <= ah; omega, by show al + 1 <= ah /\ al <= al + 1 /\ ah <= ah; omega⟩
     ·split
      ·exact ⟨fun _ => by show al <= x /\ x <= ah - 1; omega, by show al <= ah - 1 /\ al <= al /\ ah - 1 <= ah; omega⟩
      ·exact ⟨fun _ => ⟨a1, a2⟩, by show al <= ah /\ al <= al /\ ah <= ah; omega⟩
   have k1 := cut h1 h2 h3 h4
   have k2 := cut h3 h4 h1 h2
   exact ⟨fun h => ⟨rfl, k1.1 h, k2.1 (fun z => h z.symm)⟩, fun _ => ⟨k1.2.1, k2.2.1, k1.2.2.1, k1.2.2.2, k2.2.2.1, k2.2.2.2⟩⟩
 ·rw [zQ4, zKp, decide_eq_true_eq]
  exact (z9i (g := 1) h3 h4 h1 h2 (by omega) (by omega) (by omega) (by omega)).swap (fun h => by omega)
 ·rw [zQ3, zKo, decide_eq_true_eq]
  exact (z9i (g := 0) h3 h4 h1 h2 (by omega) (by omega) (by omega) (by omega)).swap (fun h => by omega)
 ·rw [zQ2, zGk, decide_eq_true_eq]
  have k := z9i (g := 1) h1 h2 h3 h4 (by omega) (by omega) (by omega) (by omega)
  exact ⟨fun h => k.1 (by omega), k.2⟩
 ·rw [zQ1, zGj, decide_eq_true_eq]
  have k := z9i (g := 0) h1 h2 h3 h4 (by omega) (by omega) (by omega) (by omega)
  exact ⟨fun h => k.1 (by omega), k.2⟩
 ·rw [zQ0, zKn, decide_eq_true_eq]
  exact (z83 (g := 1) h3 h4 h1 h2).swap (fun h => by omega)
 ·rw [zPz, zKm, decide_eq_true_eq]
  exact (z83 (g := 0) h3 h4 h1 h2).swap (fun h => by omega)
 ·rw [zPy, zGi, decide_eq_true_eq]
  have k := z83 (g := 1) h1 h2 h3 h4
  exact ⟨fun h => k.1 (by omega), k.2⟩
 ·rw [zPx, zGh, decide_eq_true_eq]
  have k := z83 (g := 0) h1 h2 h3 h4
  exact ⟨fun h => k.1 (by omega), k.2⟩
end
end Go.Proofs.YtbimlalhodibjaaGreatDoor
