/-
  What api.Tell, plain.Place and the statements' own 'is' answer at nil, at an Errno, and at an *At around an Errno; the world below is as it was. Conditions: the library's variable errorType holds the handle of the type error; the At's cells are there.
-/
import Derived.Test.YtegeiicginpdbaaGreatDoorAs
import Derived.Deep.QuietTactic
import Derived.BigQuiet
import Derived.WalkLawsBesides
namespace Go.Proofs.YtegeiicginpdbaaGreatDoor
open Go.RowKit Go.Extern.Stop Go.Stop Go.Extern

/-- The library's variable errorType holds the handle of the type error. -/
def HandleAt (w : World) : Prop := w.cell? ⟨4, 0, none⟩ = some (.iface 196 (.agg #[.pointer (some ⟨14, 29, none⟩)]))
theorem HandleAt.pos {w : World} (h : HandleAt w) : 4 < w.heap.size := by
  rcases Nat.lt_or_ge 4 w.heap.size with g | g
  · exact g
  · simp [HandleAt, World.cell?, Array.getElem?_eq_none g] at h
theorem HandleAt.later {w w' : World} (h : HandleAt w) (hb : Below w.heap.size w w') : HandleAt w' := (hb.cell (p := ⟨4, 0, none⟩) h.pos).trans h
theorem HandleAt.alloc {w : World} (h : HandleAt w) (o : Obj) : HandleAt (w.alloc o) := h.later ((Below.refl _ _).alloc (Nat.le_refl _) _)

theorem seen_cells {W w1 : World} (hb : Below W.heap.size W w1) : (∀ b o, b < W.heap.size → w1.cell? ⟨b, o, none⟩ = W.cell? ⟨b, o, none⟩) ∧ (∀ b o, b < W.heap.size → w1.frozen? ⟨b, o, none⟩ = W.frozen? ⟨b, o, none⟩) :=
  ⟨fun b o h => hb.cell (p := ⟨b, o, none⟩) h, fun b o h => hb.frozen (p := ⟨b, o, none⟩) h⟩
theorem tell_nil (w : World) : Calls Tryz.prog 19 #[.nilIface] w fun e w' => e = .returned (.int .i64 0) ∧ w' = w := by
  go_enter Tryz.func19, Tryz.ntmps19
  go_wp2
  go_ret
  exact ⟨rfl, rfl⟩
/-- The target's block, once errors.As has filled it. -/
theorem target_filled {w : World} {x : Int} {o1 o2 o3 o4 : Obj} : (((((w.alloc (.cells #[.int .i64 0] 23)).alloc o1).alloc o2).alloc o3).alloc o4 |>.setCell ⟨w.heap.size, 0, none⟩ (.int .i64 x)).cell? ⟨w.heap.size, 0, none⟩ = some (.int .i64 x) ∧
    Below w.heap.size w (((((w.alloc (.cells #[.int .i64 0] 23)).alloc o1).alloc o2).alloc o3).alloc o4 |>.setCell ⟨w.heap.size, 0, none⟩ (.int .i64 x)) := by
  constructor
  · apply World.cell?_setCell_same (u := .int .i64 0)
    have h := ((((Below.refl (w.alloc (.cells #[.int .i64 0] 23)).heap.size (w.alloc (.cells #[.int .i64 0] 23))).alloc (Nat.le_refl _) o1).alloc (by simp) o2).alloc (by simp <;> omega) o3).alloc (by simp <;> omega) o4
    rw [h.cell (p := ⟨w.heap.size, 0, none⟩) (by simp)]
    simp
  · exact ((((((Below.refl _ _).alloc (Nat.le_refl _) _).alloc (by simp) _).alloc (by simp; omega) _).alloc (by simp; omega) _).alloc (by simp; omega) _).setCell (Nat.le_refl _) _
theorem tell_errno (x : Int) (w : World) (hg : HandleAt w) : Calls Tryz.prog 19 #[.iface 23 (.int .i64 x)] w fun e w' => e = .returned (.int .i64 x) ∧ Below w.heap.size w w' := by
  have hg1 := hg.alloc (.cells #[.int .i64 0] 23)
  go_enter Tryz.func19, Tryz.ntmps19
  go_wp2_with (go_at_call 40; refine (as_errno x ⟨w.heap.size, 0, none⟩ (.int .i64 0) _ hg1 (by simp) (by simp)).mono ?_; rintro e w1 ⟨rfl, hw1⟩; obtain ⟨t1, t2⟩ := target_filled (w := w) (x := x); rw [← hw1] at t1 t2; clear hw1)
  go_ret
  exact ⟨rfl, t2⟩
theorem tell_at (x : Int) (p : Addr) (w : World) (hg : HandleAt w) (hp : w.cell? p = some (.int .i64 x)) (hpl : p.block < w.heap.size) : Calls Tryz.prog 19 #[.iface 74 (.pointer (some p))] w fun e w' => e = .returned (.int .i64 x) ∧ Below w.heap.size w w' := by
  have hg1 := hg.alloc (.cells #[.int .i64 0] 23)
  have hp1 : (w.alloc (.cells #[.int .i64 0] 23)).cell? p = some (.int .i64 x) := (((Below.refl _ _).alloc (Nat.le_refl _) _).cell hpl).trans hp
  go_enter Tryz.func19, Tryz.ntmps19
  go_wp2_with (go_at_call 40; refine (as_at x p ⟨w.heap.size, 0, none⟩ (.int .i64 0) _ hp1 hg1 (by simp) (by simp)).mono ?_; rintro e w1 ⟨rfl, hw1⟩; obtain ⟨t1, t2⟩ := target_filled (w := w) (x := x); rw [← hw1] at t1 t2; clear hw1)
  go_ret
  exact ⟨rfl, t2⟩

theorem isAtE (v : Value) (w : World) : (Instr.typeAssert (.iface 23 v) 29 74 true).run Tryz.prog w = .ok (.tuple #[.pointer none, .bool false]) w := by kernel_rfl
theorem isAtA (v : Value) (w : World) : (Instr.typeAssert (.iface 74 v) 29 74 true).run Tryz.prog w = .ok (.tuple #[v, .bool true]) w := by kernel_rfl
theorem place_nil (w : World) : Calls Tryz.prog 29 #[.nilIface] w fun e w' => e = .returned (.tuple #[.int .i64 0, .int .i64 (-1)]) ∧ w' = w := by
  go_enter Tryz.func29, Tryz.ntmps29
  go_wp2_with (go_at_call 19; refine (tell_nil _).mono ?_; rintro e w1 ⟨rfl, rfl⟩)
  refine wp_loop_rounds 1 ?_
  rw [rounds_succ]
  go_wp2
  go_ret2
  exact ⟨rfl, rfl⟩
theorem place_errno (x : Int) (w : World) (hg : HandleAt w) : Calls Tryz.prog 29 #[.iface 23 (.int .i64 x)] w fun e w' => e = .returned (.tuple #[.int .i64 x, .int .i64 (-1)]) ∧ Below w.heap.size w w' := by
  have c1 := noUnwrapE
  have c2 := isAtE
  go_enter Tryz.func29, Tryz.ntmps29
  go_wp2_with (go_at_call 19; refine (tell_errno x _ hg).mono ?_; rintro e w1 ⟨rfl, hb1⟩)
  refine wp_loop_rounds 1 ?_
  rw [rounds_succ]
  go_wp2
  go_ret2
  exact ⟨rfl, hb1⟩
theorem place_at (x y : Int) (p : Nat) (w : World) (hg : HandleAt w) (hp : w.cell? ⟨p, 0, none⟩ = some (.int .i64 x)) (hq : w.cell? ⟨p, 1, none⟩ = some (.int .i64 y)) (hpl : p < w.heap.size) :
    Calls Tryz.prog 29 #[.iface 74 (.pointer (some ⟨p, 0, none⟩))] w fun e w' => e = .returned (.tuple #[.int .i64 x, .int .i64 y]) ∧ Below w.heap.size w w' := by
  have c2 := isAtA
  go_enter Tryz.func29, Tryz.ntmps29
  go_wp2_with (go_at_call 19; refine (tell_at x ⟨p, 0, none⟩ _ hg hp hpl).mono ?_; rintro e w1 ⟨rfl, hb1⟩)
  have hq1 : w1.cell? ⟨p, 1, none⟩ = some (.int .i64 y) := (hb1.cell (p := ⟨p, 1, none⟩) hpl).trans hq
  refine wp_loop_rounds 1 ?_
  rw [rounds_succ]
  go_wp2
  go_quiet (fail)
  go_wp2
  go_ret2
  exact ⟨rfl, below_drewN hb1 _⟩
theorem is_nil (w : World) : Calls Tryz.prog 10 #[.nilIface, .agg #[.int .i64 0, .int .i64 (-1)]] w fun e w' => e = .returned (.bool true) ∧ Below w.heap.size w w' := by
  go_enter Tryz.func10, Tryz.ntmps10
  go_wp2_with (go_at_call 29; refine (place_nil _).mono ?_; rintro e w1 ⟨rfl, rfl⟩)
  go_ret
  exact ⟨rfl, (Below.refl _ _).alloc (Nat.le_refl _) _⟩
theorem is_errno (x : Int) (w : World) (hg : HandleAt w) : Calls Tryz.prog 10 #[.iface 23 (.int .i64 x), .agg #[.int .i64 x, .int .i64 (-1)]] w fun e w' => e = .returned (.bool true) ∧ Below w.heap.size w w' := by
  have hg1 := hg.alloc (.cells #[.int .i64 x, .int .i64 (-1)] 25)
  go_enter Tryz.func10, Tryz.ntmps10
  go_wp2_with (go_at_call 29; refine (place_errno x _ hg1).mono ?_; rintro e w1 ⟨rfl, hb1⟩; obtain ⟨hcl, hfr⟩ := seen_cells hb1)
  go_ret
  exact ⟨rfl, ((Below.refl _ _).alloc (Nat.le_refl _) _).trans (hb1.mono (by simp))⟩
theorem is_at (x y : Int) (p : Nat) (w : World) (hg : HandleAt w) (hp : w.cell? ⟨p, 0, none⟩ = some (.int .i64 x)) (hq : w.cell? ⟨p, 1, none⟩ = some (.int .i64 y)) (hpl : p < w.heap.size) :
    Calls Tryz.prog 10 #[.iface 74 (.pointer (some ⟨p, 0, none⟩)), .agg #[.int .i64 x, .int .i64 y]] w fun e w' => e = .returned (.bool true) ∧ Below w.heap.size w w' := by
  have hg1 := hg.alloc (.cells #[.int .i64 x, .int .i64 y] 25)
  have hbl : Below w.heap.size w (w.alloc (.cells #[.int .i64 x, .int .i64 y] 25)) := (Below.refl _ _).alloc (Nat.le_refl _) _
  have hp1 := (hbl.cell (p := ⟨p, 0, none⟩) hpl).trans hp
  have hq1 := (hbl.cell (p := ⟨p, 1, none⟩) hpl).trans hq
  go_enter Tryz.func10, Tryz.ntmps10
  go_wp2_with (go_at_call 29; refine (place_at x y p _ hg1 hp1 hq1 (by simp; omega)).mono ?_; rintro e w1 ⟨rfl, hb1⟩; obtain ⟨hcl, hfr⟩ := seen_cells hb1)
  go_ret
  exact ⟨rfl, ((Below.refl _ _).alloc (Nat.le_refl _) _).trans (hb1.mono (by simp))⟩
end Go.Proofs.YtegeiicginpdbaaGreatDoor
