/-
  Programs as they run: what a register has, as a plain triple, and what the small functions of package machine return of it; the world below is as it was. Conditions: numbers are of 64 bits.
-/
import Derived.Test.YtegeiicginpdbaaDoorOpWalks
import Derived.BigCall
import Derived.BigGuardPart
import Derived.WalkLawsBesides
namespace Go.Proofs.YtegeiicginpdbaaDoor
open Go.ChangeShapes Go.WideShapes Go.ChangeAt Go.RowKit
/-- What a register has: its kind (0: nothing, 1: a number, 2: a place in what is told, 3: in the frame, 4: in a cell), its number, its cell. -/
structure Val where
  k : Int
  n : Int
  c : Int
def Val.v (x : Val) : Value := .agg #[.int .i64 x.k, .int .i64 x.n, .int .i64 x.c]
def wantF (x : Val) : Int := if x.k = 0 then 8 else if x.k = 1 then 0 else 1
def numF (n : Int) : Val := ⟨1, n, 0⟩
def foundF (n : Int) : Val := if n < 0 ∨ 4 ≤ n then ⟨1, 0, 0⟩ else ⟨4, 0, n⟩
def makesF (code : Int) (a b : Val) : Val × Int :=
  if b.k = 0 ∨ (a.k = 0 ∧ code ≠ 1) then (⟨0, 0, 0⟩, 8)
  else if code = 1 then (b, 0)
  else if b.k = 1 ∧ (a.k = 1 ∨ code = 2 ∨ code = 3) then (⟨a.k, doesV code a.n b.n, a.c⟩, 0)
  else if a.k = 1 ∧ code = 2 then (⟨b.k, doesV code a.n b.n, b.c⟩, 0)
  else (⟨0, 0, 0⟩, 1)
def reachTo (x : Val) (off : Int) : Int := if x.k = 3 then wrap64 (wrap64 (x.n + off) + 16) else wrap64 (x.n + off)
def reachMax (x : Val) : Int := if x.k = 2 then 8 else if x.k = 3 then 16 else 4
def reachF (x : Val) (off : Int) : Int × Int :=
  if x.k = 0 then (0, 8) else if x.k = 1 then (0, 1) else if reachTo x off < 0 ∨ reachMax x ≤ reachTo x off then (0, 2) else (reachTo x off, 0)
theorem zero_box {w w1 : World} {t : TypeId} (h : Below (w.alloc (.cells #[.int .i64 0, .int .i64 0, .int .i64 0] t)).heap.size (w.alloc (.cells #[.int .i64 0, .int .i64 0, .int .i64 0] t)) w1) :
    w1.cell? ⟨w.heap.size, 0, none⟩ = some (.int .i64 0) ∧ w1.cell? ⟨w.heap.size, 1, none⟩ = some (.int .i64 0) ∧ w1.cell? ⟨w.heap.size, 2, none⟩ = some (.int .i64 0) ∧ w1.frozen? ⟨w.heap.size, 0, none⟩ = false ∧ w1.frozen? ⟨w.heap.size, 1, none⟩ = false ∧ w1.frozen? ⟨w.heap.size, 2, none⟩ = false ∧ w.heap.size < w1.heap.size := by
  have e : w1.heap[w.heap.size]? = some (.cells #[.int .i64 0, .int .i64 0, .int .i64 0] t (0, 0)) := by
    rw [h.block w.heap.size (by simp)]
    show (w.heap.push _)[w.heap.size]? = _
    simp
  have hs := h.size
  simp at hs
  exact ⟨by simp [World.cell?, e], by simp [World.cell?, e], by simp [World.cell?, e], by simp [World.frozen?, e], by simp [World.frozen?, e], by simp [World.frozen?, e], by omega⟩
theorem below_zero {w w1 : World} {o : Obj} (h : Below (w.alloc o).heap.size (w.alloc o) w1) : Below w.heap.size w w1 := ((Below.refl _ _).alloc (Nat.le_refl _) _).trans (h.mono (by simp))
theorem mnum_any (n : Int) (w : World) : Calls Tryd.prog 118 #[.int .i64 n] w fun e w' => e = .returned (numF n).v ∧ Below w.heap.size w w' := by
  go_enter Tryd.func118, Tryd.ntmps118
  go_wp2
  exact bodyPost_ret (v := (numF n).v) (by simp [results, Tryd.results118, go_sem, numF, Val.v]) rfl ⟨rfl, (Below.refl _ _).alloc (Nat.le_refl _) _⟩
theorem want_any (k n c : Int) (w : World) : Calls Tryd.prog 85 #[.agg #[.int .i64 k, .int .i64 n, .int .i64 c]] w fun e w' => e = .returned (.int .i64 (wantF ⟨k, n, c⟩)) ∧ Below w.heap.size w w' := by
  by_cases h0 : k = 0
  · have x0 : (k == 0) = true := by simpa using h0
    have HV : Hid (wantF ⟨k, n, c⟩ = 8) := if_pos h0
    clear h0
    go_enter Tryd.func85, Tryd.ntmps85
    go_wp2
    go_ret
    exact ⟨by rw [HV.out]; rfl, (Below.refl _ _).alloc (Nat.le_refl _) _⟩
  · have x0 : (k == 0) = false := by simpa using h0
    by_cases h1 : k = 1
    · have x1 : (k == 1) = true := by simpa using h1
      have HV : Hid (wantF ⟨k, n, c⟩ = 0) := by
        show wantF ⟨k, n, c⟩ = 0
        unfold wantF
        rw [if_neg h0, if_pos h1]
      clear h0 h1
      go_enter Tryd.func85, Tryd.ntmps85
      go_wp2
      go_ret
      exact ⟨by rw [HV.out]; rfl, (Below.refl _ _).alloc (Nat.le_refl _) _⟩
    · have x1 : (k == 1) = false := by simpa using h1
      have HV : Hid (wantF ⟨k, n, c⟩ = 1) := by
        show wantF ⟨k, n, c⟩ = 1
        unfold wantF
        rw [if_neg h0, if_neg h1]
      clear h0 h1
      go_enter Tryd.func85, Tryd.ntmps85
      go_wp2
      go_ret
      exact ⟨by rw [HV.out]; rfl, (Below.refl _ _).alloc (Nat.le_refl _) _⟩
theorem found_low (n : Int) (w : World) (x0 : decide (n < 0) = true) : Calls Tryd.prog 119 #[.int .i64 n] w fun e w' => e = .returned (.agg #[.int .i64 1, .int .i64 0, .int .i64 0]) ∧ Below w.heap.size w w' := by
  go_enter Tryd.func119, Tryd.ntmps119
  go_wp2_with (first
    | (go_at_call 118; refine (mnum_any 0 _).mono ?_; rintro e w1 ⟨rfl, hb1⟩; simp only [Val.v, numF]; obtain ⟨q0, q1, q2, z0, z1, z2, hl⟩ := zero_box hb1)
    | go_in)
  exact bodyPost_ret (v := .agg #[.int .i64 1, .int .i64 0, .int .i64 0]) (by simp [results, Tryd.results119, go_sem, q0, q1, q2]) rfl ⟨rfl, (((below_zero hb1).setCell (Nat.le_refl _) _).setCell (Nat.le_refl _) _).setCell (Nat.le_refl _) _⟩
theorem found_high (n : Int) (w : World) (x0 : decide (n < 0) = false) (x1 : decide (4 ≤ n) = true) : Calls Tryd.prog 119 #[.int .i64 n] w fun e w' => e = .returned (.agg #[.int .i64 1, .int .i64 0, .int .i64 0]) ∧ Below w.heap.size w w' := by
  go_enter Tryd.func119, Tryd.ntmps119
  go_wp2_with (first
    | (go_at_call 118; refine (mnum_any 0 _).mono ?_; rintro e w1 ⟨rfl, hb1⟩; simp only [Val.v, numF]; obtain ⟨q0, q1, q2, z0, z1, z2, hl⟩ := zero_box hb1)
    | go_in)
  exact bodyPost_ret (v := .agg #[.int .i64 1, .int .i64 0, .int .i64 0]) (by simp [results, Tryd.results119, go_sem, q0, q1, q2]) rfl ⟨rfl, (((below_zero hb1).setCell (Nat.le_refl _) _).setCell (Nat.le_refl _) _).setCell (Nat.le_refl _) _⟩
theorem found_in (n : Int) (w : World) (x0 : decide (n < 0) = false) (x1 : decide (4 ≤ n) = false) : Calls Tryd.prog 119 #[.int .i64 n] w fun e w' => e = .returned (.agg #[.int .i64 4, .int .i64 0, .int .i64 n]) ∧ Below w.heap.size w w' := by
  go_enter Tryd.func119, Tryd.ntmps119
  go_wp2
  exact bodyPost_ret (v := .agg #[.int .i64 4, .int .i64 0, .int .i64 n]) (by simp [results, Tryd.results119, go_sem]) rfl ⟨rfl, (Below.refl _ _).alloc (Nat.le_refl _) _⟩
section
variable (code ak an ac bk bn bc : Int) (w : World)
theorem makes_bk0 (x0 : (bk == 0) = true) : Calls Tryd.prog 121 #[.int .i64 code, .agg #[.int .i64 ak, .int .i64 an, .int .i64 ac], .agg #[.int .i64 bk, .int .i64 bn, .int .i64 bc]] w fun e w' => e = .returned (.tuple #[.agg #[.int .i64 0, .int .i64 0, .int .i64 0], .int .i64 8]) ∧ Below w.heap.size w w' := by
  go_enter Tryd.func121, Tryd.ntmps121
  go_wp2
  exact bodyPost_ret (v := .tuple #[.agg #[.int .i64 0, .int .i64 0, .int .i64 0], .int .i64 8]) (by simp [results, Tryd.results121, go_sem]) rfl ⟨rfl, ((((Below.refl _ _).alloc (Nat.le_refl _) _).alloc (by simp) _).alloc (by simp; omega) _)⟩
theorem makes_ak0 (x0 : (bk == 0) = false) (x1 : (ak == 0) = true) (x2 : (code != 1) = true) : Calls Tryd.prog 121 #[.int .i64 code, .agg #[.int .i64 ak, .int .i64 an, .int .i64 ac], .agg #[.int .i64 bk, .int .i64 bn, .int .i64 bc]] w fun e w' => e = .returned (.tuple #[.agg #[.int .i64 0, .int .i64 0, .int .i64 0], .int .i64 8]) ∧ Below w.heap.size w w' := by
  go_enter Tryd.func121, Tryd.ntmps121
  go_wp2
  exact bodyPost_ret (v := .tuple #[.agg #[.int .i64 0, .int .i64 0, .int .i64 0], .int .i64 8]) (by simp [results, Tryd.results121, go_sem]) rfl ⟨rfl, ((((Below.refl _ _).alloc (Nat.le_refl _) _).alloc (by simp) _).alloc (by simp; omega) _)⟩
theorem makes_mova (x0 : (bk == 0) = false) (x1 : (ak == 0) = true) (x2 : (code == 1) = true) (x3 : (code != 1) = false) : Calls Tryd.prog 121 #[.int .i64 code, .agg #[.int .i64 ak, .int .i64 an, .int .i64 ac], .agg #[.int .i64 bk, .int .i64 bn, .int .i64 bc]] w fun e w' => e = .returned (.tuple #[.agg #[.int .i64 bk, .int .i64 bn, .int .i64 bc], .int .i64 0]) ∧ Below w.heap.size w w' := by
  go_enter Tryd.func121, Tryd.ntmps121
  go_wp2
  exact bodyPost_ret (v := .tuple #[.agg #[.int .i64 bk, .int .i64 bn, .int .i64 bc], .int .i64 0]) (by simp [results, Tryd.results121, go_sem]) rfl ⟨rfl, ((((Below.refl _ _).alloc (Nat.le_refl _) _).alloc (by simp) _).alloc (by simp; omega) _)⟩
theorem makes_movb (x0 : (bk == 0) = false) (x1 : (ak == 0) = false) (x2 : (code == 1) = true) : Calls Tryd.prog 121 #[.int .i64 code, .agg #[.int .i64 ak, .int .i64 an, .int .i64 ac], .agg #[.int .i64 bk, .int .i64 bn, .int .i64 bc]] w fun e w' => e = .returned (.tuple #[.agg #[.int .i64 bk, .int .i64 bn, .int .i64 bc], .int .i64 0]) ∧ Below w.heap.size w w' := by
  go_enter Tryd.func121, Tryd.ntmps121
  go_wp2
  exact bodyPost_ret (v := .tuple #[.agg #[.int .i64 bk, .int .i64 bn, .int .i64 bc], .int .i64 0]) (by simp [results, Tryd.results121, go_sem]) rfl ⟨rfl, ((((Below.refl _ _).alloc (Nat.le_refl _) _).alloc (by simp) _).alloc (by simp; omega) _)⟩
theorem makes_nums (k0 : -9223372036854775808 ≤ bn) (k1 : bn ≤ 9223372036854775807) (x0 : (bk == 0) = false) (x1 : (ak == 0) = false) (x2 : (code == 1) = false) (x3 : (bk == 1) = true) (x4 : (ak == 1) = true) : Calls Tryd.prog 121 #[.int .i64 code, .agg #[.int .i64 ak, .int .i64 an, .int .i64 ac], .agg #[.int .i64 bk, .int .i64 bn, .int .i64 bc]] w fun e w' => e = .returned (.tuple #[.agg #[.int .i64 ak, .int .i64 (doesV code an bn), .int .i64 ac], .int .i64 0]) ∧ Below w.heap.size w w' := by
  go_enter Tryd.func121, Tryd.ntmps121
  go_wp2_with (first
    | (go_at_call 76; refine (does_any _ _ _ k0 k1 _).mono ?_; rintro e w1 ⟨rfl, rfl⟩)
    | go_in)
  exact bodyPost_ret (v := .tuple #[.agg #[.int .i64 ak, .int .i64 (doesV code an bn), .int .i64 ac], .int .i64 0]) (by simp [results, Tryd.results121, go_sem]) rfl ⟨rfl, ((((Below.refl _ _).alloc (Nat.le_refl _) _).alloc (by simp) _).alloc (by simp; omega) _)⟩
theorem makes_padd (k0 : -9223372036854775808 ≤ bn) (k1 : bn ≤ 9223372036854775807) (x0 : (bk == 0) = false) (x1 : (ak == 0) = false) (x2 : (code == 1) = false) (x3 : (bk == 1) = true) (x4 : (ak == 1) = false) (x5 : (code == 2) = true) : Calls Tryd.prog 121 #[.int .i64 code, .agg #[.int .i64 ak, .int .i64 an, .int .i64 ac], .agg #[.int .i64 bk, .int .i64 bn, .int .i64 bc]] w fun e w' => e = .returned (.tuple #[.agg #[.int .i64 ak, .int .i64 (doesV code an bn), .int .i64 ac], .int .i64 0]) ∧ Below w.heap.size w w' := by
  go_enter Tryd.func121, Tryd.ntmps121
  go_wp2_with (first
    | (go_at_call 76; refine (does_any _ _ _ k0 k1 _).mono ?_; rintro e w1 ⟨rfl, rfl⟩)
    | go_in)
  exact bodyPost_ret (v := .tuple #[.agg #[.int .i64 ak, .int .i64 (doesV code an bn), .int .i64 ac], .int .i64 0]) (by simp [results, Tryd.results121, go_sem]) rfl ⟨rfl, ((((Below.refl _ _).alloc (Nat.le_refl _) _).alloc (by simp) _).alloc (by simp; omega) _)⟩
theorem makes_psub (k0 : -9223372036854775808 ≤ bn) (k1 : bn ≤ 9223372036854775807) (x0 : (bk == 0) = false) (x1 : (ak == 0) = false) (x2 : (code == 1) = false) (x3 : (bk == 1) = true) (x4 : (ak == 1) = false) (x5 : (code == 2) = false) (x6 : (code == 3) = true) : Calls Tryd.prog 121 #[.int .i64 code, .agg #[.int .i64 ak, .int .i64 an, .int .i64 ac], .agg #[.int .i64 bk, .int .i64 bn, .int .i64 bc]] w fun e w' => e = .returned (.tuple #[.agg #[.int .i64 ak, .int .i64 (doesV code an bn), .int .i64 ac], .int .i64 0]) ∧ Below w.heap.size w w' := by
  go_enter Tryd.func121, Tryd.ntmps121
  go_wp2_with (first
    | (go_at_call 76; refine (does_any _ _ _ k0 k1 _).mono ?_; rintro e w1 ⟨rfl, rfl⟩)
    | go_in)
  exact bodyPost_ret (v := .tuple #[.agg #[.int .i64 ak, .int .i64 (doesV code an bn), .int .i64 ac], .int .i64 0]) (by simp [results, Tryd.results121, go_sem]) rfl ⟨rfl, ((((Below.refl _ _).alloc (Nat.le_refl _) _).alloc (by simp) _).alloc (by simp; omega) _)⟩
theorem makes_pno (x0 : (bk == 0) = false) (x1 : (ak == 0) = false) (x2 : (code == 1) = false) (x3 : (bk == 1) = true) (x4 : (ak == 1) = false) (x5 : (code == 2) = false) (x6 : (code == 3) = false) : Calls Tryd.prog 121 #[.int .i64 code, .agg #[.int .i64 ak, .int .i64 an, .int .i64 ac], .agg #[.int .i64 bk, .int .i64 bn, .int .i64 bc]] w fun e w' => e = .returned (.tuple #[.agg #[.int .i64 0, .int .i64 0, .int .i64 0], .int .i64 1]) ∧ Below w.heap.size w w' := by
  go_enter Tryd.func121, Tryd.ntmps121
  go_wp2
  exact bodyPost_ret (v := .tuple #[.agg #[.int .i64 0, .int .i64 0, .int .i64 0], .int .i64 1]) (by simp [results, Tryd.results121, go_sem]) rfl ⟨rfl, ((((Below.refl _ _).alloc (Nat.le_refl _) _).alloc (by simp) _).alloc (by simp; omega) _)⟩
theorem makes_nadd (k0 : -9223372036854775808 ≤ bn) (k1 : bn ≤ 9223372036854775807) (x0 : (bk == 0) = false) (x1 : (ak == 0) = false) (x2 : (code == 1) = false) (x3 : (bk == 1) = false) (x4 : (ak == 1) = true) (x5 : (code == 2) = true) : Calls Tryd.prog 121 #[.int .i64 code, .agg #[.int .i64 ak, .int .i64 an, .int .i64 ac], .agg #[.int .i64 bk, .int .i64 bn, .int .i64 bc]] w fun e w' => e = .returned (.tuple #[.agg #[.int .i64 bk, .int .i64 (doesV code an bn), .int .i64 bc], .int .i64 0]) ∧ Below w.heap.size w w' := by
  go_enter Tryd.func121, Tryd.ntmps121
  go_wp2_with (first
    | (go_at_call 76; refine (does_any _ _ _ k0 k1 _).mono ?_; rintro e w1 ⟨rfl, rfl⟩)
    | go_in)
  exact bodyPost_ret (v := .tuple #[.agg #[.int .i64 bk, .int .i64 (doesV code an bn), .int .i64 bc], .int .i64 0]) (by simp [results, Tryd.results121, go_sem]) rfl ⟨rfl, ((((Below.refl _ _).alloc (Nat.le_refl _) _).alloc (by simp) _).alloc (by simp; omega) _)⟩
theorem makes_nno (x0 : (bk == 0) = false) (x1 : (ak == 0) = false) (x2 : (code == 1) = false) (x3 : (bk == 1) = false) (x4 : (ak == 1) = true) (x5 : (code == 2) = false) : Calls Tryd.prog 121 #[.int .i64 code, .agg #[.int .i64 ak, .int .i64 an, .int .i64 ac], .agg #[.int .i64 bk, .int .i64 bn, .int .i64 bc]] w fun e w' => e = .returned (.tuple #[.agg #[.int .i64 0, .int .i64 0, .int .i64 0], .int .i64 1]) ∧ Below w.heap.size w w' := by
  go_enter Tryd.func121, Tryd.ntmps121
  go_wp2
  exact bodyPost_ret (v := .tuple #[.agg #[.int .i64 0, .int .i64 0, .int .i64 0], .int .i64 1]) (by simp [results, Tryd.results121, go_sem]) rfl ⟨rfl, ((((Below.refl _ _).alloc (Nat.le_refl _) _).alloc (by simp) _).alloc (by simp; omega) _)⟩
theorem makes_two (x0 : (bk == 0) = false) (x1 : (ak == 0) = false) (x2 : (code == 1) = false) (x3 : (bk == 1) = false) (x4 : (ak == 1) = false) : Calls Tryd.prog 121 #[.int .i64 code, .agg #[.int .i64 ak, .int .i64 an, .int .i64 ac], .agg #[.int .i64 bk, .int .i64 bn, .int .i64 bc]] w fun e w' => e = .returned (.tuple #[.agg #[.int .i64 0, .int .i64 0, .int .i64 0], .int .i64 1]) ∧ Below w.heap.size w w' := by
  go_enter Tryd.func121, Tryd.ntmps121
  go_wp2
  exact bodyPost_ret (v := .tuple #[.agg #[.int .i64 0, .int .i64 0, .int .i64 0], .int .i64 1]) (by simp [results, Tryd.results121, go_sem]) rfl ⟨rfl, ((((Below.refl _ _).alloc (Nat.le_refl _) _).alloc (by simp) _).alloc (by simp; omega) _)⟩
end
section
variable (k n c off : Int) (w : World)
theorem reach_none (x0 : (k == 0) = true) : Calls Tryd.prog 117 #[.agg #[.int .i64 k, .int .i64 n, .int .i64 c], .int .i64 off] w fun e w' => e = .returned (.tuple #[.int .i64 0, .int .i64 8]) ∧ Below w.heap.size w w' := by
  go_enter Tryd.func117, Tryd.ntmps117
  go_wp2
  go_ret2
  exact ⟨rfl, (Below.refl _ _).alloc (Nat.le_refl _) _⟩
theorem reach_num (x0 : (k == 0) = false) (x1 : (k == 1) = true) : Calls Tryd.prog 117 #[.agg #[.int .i64 k, .int .i64 n, .int .i64 c], .int .i64 off] w fun e w' => e = .returned (.tuple #[.int .i64 0, .int .i64 1]) ∧ Below w.heap.size w w' := by
  go_enter Tryd.func117, Tryd.ntmps117
  go_wp2
  go_ret2
  exact ⟨rfl, (Below.refl _ _).alloc (Nat.le_refl _) _⟩
theorem reach_told_low (x0 : (k == 0) = false) (x1 : (k == 1) = false) (x2 : (k == 2) = true) (x3 : (decide (wrap64 (n + off) < 0)) = true) : Calls Tryd.prog 117 #[.agg #[.int .i64 k, .int .i64 n, .int .i64 c], .int .i64 off] w fun e w' => e = .returned (.tuple #[.int .i64 0, .int .i64 2]) ∧ Below w.heap.size w w' := by
  go_enter Tryd.func117, Tryd.ntmps117
  go_wp2
  go_ret2
  exact ⟨rfl, (Below.refl _ _).alloc (Nat.le_refl _) _⟩
theorem reach_told_high (x0 : (k == 0) = false) (x1 : (k == 1) = false) (x2 : (k == 2) = true) (x3 : (decide (wrap64 (n + off) < 0)) = false) (x4 : (decide (8 ≤ wrap64 (n + off))) = true) : Calls Tryd.prog 117 #[.agg #[.int .i64 k, .int .i64 n, .int .i64 c], .int .i64 off] w fun e w' => e = .returned (.tuple #[.int .i64 0, .int .i64 2]) ∧ Below w.heap.size w w' := by
  go_enter Tryd.func117, Tryd.ntmps117
  go_wp2
  go_ret2
  exact ⟨rfl, (Below.refl _ _).alloc (Nat.le_refl _) _⟩
theorem reach_told_in (x0 : (k == 0) = false) (x1 : (k == 1) = false) (x2 : (k == 2) = true) (x3 : (decide (wrap64 (n + off) < 0)) = false) (x4 : (decide (8 ≤ wrap64 (n + off))) = false) : Calls Tryd.prog 117 #[.agg #[.int .i64 k, .int .i64 n, .int .i64 c], .int .i64 off] w fun e w' => e = .returned (.tuple #[.int .i64 (wrap64 (n + off)), .int .i64 0]) ∧ Below w.heap.size w w' := by
  go_enter Tryd.func117, Tryd.ntmps117
  go_wp2
  go_ret2
  exact ⟨rfl, (Below.refl _ _).alloc (Nat.le_refl _) _⟩
theorem reach_frame_low (x0 : (k == 0) = false) (x1 : (k == 1) = false) (x2 : (k == 2) = false) (x3 : (k == 3) = true) (x4 : (decide (wrap64 (wrap64 (n + off) + 16) < 0)) = true) : Calls Tryd.prog 117 #[.agg #[.int .i64 k, .int .i64 n, .int .i64 c], .int .i64 off] w fun e w' => e = .returned (.tuple #[.int .i64 0, .int .i64 2]) ∧ Below w.heap.size w w' := by
  go_enter Tryd.func117, Tryd.ntmps117
  go_wp2
  go_ret2
  exact ⟨rfl, (Below.refl _ _).alloc (Nat.le_refl _) _⟩
theorem reach_frame_high (x0 : (k == 0) = false) (x1 : (k == 1) = false) (x2 : (k == 2) = false) (x3 : (k == 3) = true) (x4 : (decide (wrap64 (wrap64 (n + off) + 16) < 0)) = false) (x5 : (decide (16 ≤ wrap64 (wrap64 (n + off) + 16))) = true) : Calls Tryd.prog 117 #[.agg #[.int .i64 k, .int .i64 n, .int .i64 c], .int .i64 off] w fun e w' => e = .returned (.tuple #[.int .i64 0, .int .i64 2]) ∧ Below w.heap.size w w' := by
  go_enter Tryd.func117, Tryd.ntmps117
  go_wp2
  go_ret2
  exact ⟨rfl, (Below.refl _ _).alloc (Nat.le_refl _) _⟩
theorem reach_frame_in (x0 : (k == 0) = false) (x1 : (k == 1) = false) (x2 : (k == 2) = false) (x3 : (k == 3) = true) (x4 : (decide (wrap64 (wrap64 (n + off) + 16) < 0)) = false) (x5 : (decide (16 ≤ wrap64 (wrap64 (n + off) + 16))) = false) : Calls Tryd.prog 117 #[.agg #[.int .i64 k, .int .i64 n, .int .i64 c], .int .i64 off] w fun e w' => e = .returned (.tuple #[.int .i64 (wrap64 (wrap64 (n + off) + 16)), .int .i64 0]) ∧ Below w.heap.size w w' := by
  go_enter Tryd.func117, Tryd.ntmps117
  go_wp2
  go_ret2
  exact ⟨rfl, (Below.refl _ _).alloc (Nat.le_refl _) _⟩
theorem reach_cell_low (x0 : (k == 0) = false) (x1 : (k == 1) = false) (x2 : (k == 2) = false) (x3 : (k == 3) = false) (x4 : (decide (wrap64 (n + off) < 0)) = true) : Calls Tryd.prog 117 #[.agg #[.int .i64 k, .int .i64 n, .int .i64 c], .int .i64 off] w fun e w' => e = .returned (.tuple #[.int .i64 0, .int .i64 2]) ∧ Below w.heap.size w w' := by
  go_enter Tryd.func117, Tryd.ntmps117
  go_wp2
  go_ret2
  exact ⟨rfl, (Below.refl _ _).alloc (Nat.le_refl _) _⟩
theorem reach_cell_high (x0 : (k == 0) = false) (x1 : (k == 1) = false) (x2 : (k == 2) = false) (x3 : (k == 3) = false) (x4 : (decide (wrap64 (n + off) < 0)) = false) (x5 : (decide (4 ≤ wrap64 (n + off))) = true) : Calls Tryd.prog 117 #[.agg #[.int .i64 k, .int .i64 n, .int .i64 c], .int .i64 off] w fun e w' => e = .returned (.tuple #[.int .i64 0, .int .i64 2]) ∧ Below w.heap.size w w' := by
  go_enter Tryd.func117, Tryd.ntmps117
  go_wp2
  go_ret2
  exact ⟨rfl, (Below.refl _ _).alloc (Nat.le_refl _) _⟩
theorem reach_cell_in (x0 : (k == 0) = false) (x1 : (k == 1) = false) (x2 : (k == 2) = false) (x3 : (k == 3) = false) (x4 : (decide (wrap64 (n + off) < 0)) = false) (x5 : (decide (4 ≤ wrap64 (n + off))) = false) : Calls Tryd.prog 117 #[.agg #[.int .i64 k, .int .i64 n, .int .i64 c], .int .i64 off] w fun e w' => e = .returned (.tuple #[.int .i64 (wrap64 (n + off)), .int .i64 0]) ∧ Below w.heap.size w w' := by
  go_enter Tryd.func117, Tryd.ntmps117
  go_wp2
  go_ret2
  exact ⟨rfl, (Below.refl _ _).alloc (Nat.le_refl _) _⟩
end
end Go.Proofs.YtegeiicginpdbaaDoor
