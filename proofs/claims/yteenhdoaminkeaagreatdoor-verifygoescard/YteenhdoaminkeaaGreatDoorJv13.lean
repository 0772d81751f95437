/-
 What the document knows ahead of a step, as it lies in memory: 81 cells: registers, then slots. No conditions. A way of a verifier, on plain numbers: stores, calls and what a code makes: a machine of which what is known is so goes on well. No program is named here. Conditions: the ends are of 64 bits; the step is right. What bound.Meet, bound.Opposite and bound.Narrow return, as functions on integers; the world below is as it was. Conditions: the ends are numbers of 64 bits, the low end not above the high one.
-/
import Derived.Test.YteenhdoaminkeaaGreatDoorJv12
import Derived.Test.YteenhdoaminkeaaGreatDoorJv3
import Derived.Test.YteenhdoaminkeaaGreatDoorJv5
import Derived.Deep.DeepMust
set_option maxHeartbeats 40000000
open Go.Value renaming int → vI
open Go.IntKind renaming i64 → vK
open Go.RowKit.Below renaming alloc → bA, setCell → bS, drew → bD, refl → bF
set_option maxRecDepth 1000000
set_option linter.defProp false
set_option linter.unusedVariables false
set_option linter.unusedSimpArgs false
namespace Go.Proofs.YteenhdoaminkeaaGreatDoor
open Go.ChangeShapes Go.WideShapes Go.ChangeAt Go.RowKit
def z4z (x : Kno) (j : Nat) : Value := if j = 0 then .int .u8 (kD x.k) else if j = 1 then vI vK x.l else vI vK x.h
def Way.all (y : Way) (i : Nat) : Kno := if i < 11 then y.reg i else y.slot (i - 11)
def Way.putAll (y : Way) (d : Nat) (x : Kno) : Way := if d < 11 then y.putReg d x else y.putSlot (d - 11) x
def z2d (y : Way) (i : Nat) : Value := z4z (y.all (i / 3)) (i % 3)
def z04 (y : Way) : Array Value := Array.ofFn (n := 81) fun i => z2d y i.1
def z07 (w : World) (B : Nat) (y : Way) : Prop := w.heap[B]? = some (.cells (z04 y) 45 (0, 0))
theorem z5l (y : Way) (d : Nat) (x : Kno) (i : Nat) : (y.putAll d x).all i = if i = d then x else y.all i := by
 unfold Way.putAll Way.all
 by_cases h : d < 11
 ·rw [if_pos h]
  by_cases hi : i < 11
  ·rw [if_pos hi, if_pos hi]; rfl
  ·rw [if_neg hi, if_neg hi, if_neg (by omega)]; rfl
 ·rw [if_neg h]
  by_cases hi : i < 11
  ·rw [if_pos hi, if_pos hi, if_neg (by omega)]; rfl
  ·rw [if_neg hi, if_neg hi]
   show (if i - 11 = d - 11 then x else y.slot (i - 11)) = _
   by_cases e : i = d
   ·rw [if_pos e, if_pos (by omega)]
   ·rw [if_neg e, if_neg (by omega)]
theorem z25 {y : Way} {d : Nat} {x : Kno} (h : d < 11) : y.putAll d x = y.putReg d x := if_pos h
theorem z8n {y : Way} {d : Nat} {x : Kno} : y.putAll (11 + d) x = y.putSlot d x := by
 unfold Way.putAll
 rw [if_neg (by omega), show 11 + d - 11 = d by omega]
theorem z22 {y : Way} {d : Nat} (h : d < 11) : y.all d = y.reg d := if_pos h
theorem z77 {y : Way} {d : Nat} : y.all (11 + d) = y.slot d := by
 unfold Way.all
 rw [if_neg (by omega), show 11 + d - 11 = d by omega]
theorem z2i (y : Way) : (z04 y).size = 81 := by simp [z04]
theorem zFd (x : Kno) (j : Nat) : (z4z x j).oneCell' = true := by
 unfold z4z
 split
 ·rfl
 split <;> rfl
theorem z4o (y : Way) (i : Nat) (h : i < (z04 y).size) : (z04 y)[i] = z2d y i := by simp [z04]
theorem z7g (y : Way) : (z04 y).all (·.oneCell') = true := by
 rw [Array.all_eq_true_iff_forall_mem]
 intro v hv
 obtain ⟨i, h1, h2⟩ := Array.mem_iff_getElem.1 hv
 rw [← h2, z4o y i h1]
 exact zFd _ _
theorem zLb (y : Way) (i : Nat) (hi : i < 81) : (z04 y)[i]? = some (z2d y i) := by
 unfold z04
 simp [hi]
theorem z6r {y z : Way} (h : ∀ i, i < 27 → y.all i = z.all i) : z04 y = z04 z := by
 apply Array.ext
 ·rw [z2i, z2i]
 ·intro j h1 h2
  rw [z2i] at h1
  rw [z4o, z4o]
  unfold z2d
  rw [h (j / 3) (by omega)]
section
variable {w : World} {B d : Nat} {y : Way}
theorem z07.lt (h : z07 w B y) : B < w.heap.size := (Array.getElem?_eq_some_iff.1 h).1
theorem z07.at (h : z07 w B y) (i : Nat) (hi : i < 81) : w.cell? ⟨B, i, none⟩ = some (z2d y i) := by
 rw [cell_of_row w B i _ _ _ h, zLb y i hi]
theorem z07.frozen (h : z07 w B y) (i : Nat) : w.frozen? ⟨B, i, none⟩ = false := by
 have h' : w.heap[B]? = some (.cells (z04 y) 45 (0, 0)) := h
 simp [World.frozen?, h']
theorem z07.later {w1 : World} (h : z07 w B y) (hb : Below w.heap.size w w1) : z07 w1 B y := (hb.block B h.lt).trans h
theorem z07.alloc (h : z07 w B y) (o : Obj) : z07 (w.alloc o) B y := h.later ((bF _ _).alloc (Nat.le_refl _) _)
theorem z07.off (h : z07 w B y) (a : Addr) (v : Value) (hne : B ≠ a.block) : z07 (w.setCell a v) B y := (Below.heap_setCell w a v B hne).trans h
theorem z07.setRow {w : World} {g : Nat} {old : Array Value} (hg : w.heap[g]? = some (.cells old 45 (0, 0))) (y : Way) : z07 (w.setRow g (z04 y)) g y := setRow_heap w g old _ _ _ hg
theorem z07.set {y' : Way} (h : z07 w B y) (i : Nat) (v : Value) (he : ∀ j, j < 81 → z2d y' j = if j = i then v else z2d y j) : z07 (w.setCell ⟨B, i, none⟩ v) B y' := by
 have e : (z04 y).setIfInBounds i v = z04 y' := by
  apply Array.ext
  ·simp [z04]
  ·intro j h1 h2
   have h3 : j < 81 := by rw [z2i] at h2; exact h2
   rw [Array.getElem_setIfInBounds (by rw [z2i]; exact h3), z4o, z4o, he j h3]
   by_cases hj : i = j
   ·rw [if_pos hj, if_pos hj.symm]
   ·rw [if_neg hj, if_neg (fun e => hj e.symm)]
 unfold z07
 rw [← e]
 exact heap_setCell_same w B i _ _ v h
theorem z6c (y : Way) (d i : Nat) (hi : i < 3) : z2d y (d * 3 + i) = z4z (y.all d) i := by
 unfold z2d
 rw [show (d * 3 + i) / 3 = d by omega, show (d * 3 + i) % 3 = i by omega]
theorem z07.know (h : z07 w B y) (hd : d < 27) : w.cell? ⟨B, d * 3, none⟩ = some (.int .u8 (kD (y.all d).k)) ∧ w.cell? ⟨B, d * 3 + 1, none⟩ = some (vI vK (y.all d).l) ∧ w.cell? ⟨B, d * 3 + 2, none⟩ = some (vI vK (y.all d).h) :=
 ⟨by rw [h.at _ (by omega)]; exact congrArg some (z6c y d 0 (by omega)), by rw [h.at _ (by omega), z6c y d 1 (by omega)]; rfl, by rw [h.at _ (by omega), z6c y d 2 (by omega)]; rfl⟩
theorem z7t (y : Way) (d : Nat) (x : Kno) (j : Nat) : z2d (y.putAll d x) j = if d * 3 ≤ j ∧ j < d * 3 + 3 then z4z x (j - d * 3) else z2d y j := by
 unfold z2d
 rw [z5l]
 by_cases h : d * 3 ≤ j ∧ j < d * 3 + 3
 ·rw [if_pos h, if_pos (by omega), show j % 3 = j - d * 3 by omega]
 ·rw [if_neg h, if_neg (by omega)]
theorem z5f (y : Way) (d : Nat) (x z : Kno) (i : Nat) (hi : i < 3) (h : ∀ j, j < 3 → z4z z j = if j = i then z4z z i else z4z x j) : ∀ j, j < 81 → z2d (y.putAll d z) j = if j = d * 3 + i then z4z z i else z2d (y.putAll d x) j := by
 intro j _
 rw [z7t y d z j, z7t y d x j]
 by_cases hin : d * 3 ≤ j ∧ j < d * 3 + 3
 ·rw [if_pos hin, if_pos hin, h _ (by omega)]
  by_cases e : j = d * 3 + i
  ·rw [if_pos e, if_pos (by omega)]
  ·rw [if_neg e, if_neg (by omega)]
 ·rw [if_neg hin, if_neg hin, if_neg (by omega)]
theorem zCn (y : Way) (d j : Nat) : z2d (y.putAll d (y.all d)) j = z2d y j := by
 unfold z2d
 rw [z5l]
 by_cases h : j / 3 = d
 ·rw [if_pos h, h]
 ·rw [if_neg h]
theorem z07.put3 (h : z07 w B y) (d : Nat) (x : Kno) : z07 (((w.setCell ⟨B, d * 3, none⟩ (.int .u8 (kD x.k))).setCell ⟨B, d * 3 + 1, none⟩ (vI vK x.l)).setCell ⟨B, d * 3 + 2, none⟩ (vI vK x.h)) B (y.putAll d x) := by
 have h1 : z07 (w.setCell ⟨B, d * 3, none⟩ (.int .u8 (kD x.k))) B (y.putAll d ⟨x.k, (y.all d).l, (y.all d).h⟩) := h.set _ _ fun j hj => by
  have := z5f y d (y.all d) ⟨x.k, (y.all d).l, (y.all d).h⟩ 0 (by omega) (fun j hj => by rcases (show j = 0 ∨ j = 1 ∨ j = 2 by omega) with rfl | rfl | rfl <;> rfl) j hj
  rw [this, zCn]; rfl
 have h2 : z07 ((w.setCell ⟨B, d * 3, none⟩ (.int .u8 (kD x.k))).setCell ⟨B, d * 3 + 1, none⟩ (vI vK x.l)) B (y.putAll d ⟨x.k, x.l, (y.all d).h⟩) := h1.set _ _ fun j hj =>
  z5f y d ⟨x.k, (y.all d).l, (y.all d).h⟩ ⟨x.k, x.l, (y.all d).h⟩ 1 (by omega) (fun j hj => by rcases (show j = 0 ∨ j = 1 ∨ j = 2 by omega) with rfl | rfl | rfl <;> rfl) j hj
 exact h2.set _ _ fun j hj =>
  z5f y d ⟨x.k, x.l, (y.all d).h⟩ x 2 (by omega) (fun j hj => by rcases (show j = 0 ∨ j = 1 ∨ j = 2 by omega) with rfl | rfl | rfl <;> rfl) j hj
theorem z07.put2 (h : z07 w B y) (d : Nat) (l g : Int) : z07 ((w.setCell ⟨B, d * 3 + 1, none⟩ (vI vK l)).setCell ⟨B, d * 3 + 2, none⟩ (vI vK g)) B (y.putAll d ⟨(y.all d).k, l, g⟩) := by
 have h2 : z07 (w.setCell ⟨B, d * 3 + 1, none⟩ (vI vK l)) B (y.putAll d ⟨(y.all d).k, l, (y.all d).h⟩) := h.set _ _ fun j hj => by
  have := z5f y d (y.all d) ⟨(y.all d).k, l, (y.all d).h⟩ 1 (by omega) (fun j hj => by rcases (show j = 0 ∨ j = 1 ∨ j = 2 by omega) with rfl | rfl | rfl <;> rfl) j hj
  rw [this, zCn]; rfl
 exact h2.set _ _ fun j hj =>
  z5f y d ⟨(y.all d).k, l, (y.all d).h⟩ ⟨(y.all d).k, l, g⟩ 2 (by omega) (fun j hj => by rcases (show j = 0 ∨ j = 1 ∨ j = 2 by omega) with rfl | rfl | rfl <;> rfl) j hj
end
theorem Tryz.infoM : (Tryz.prog.info? 45).map (·.size) = some 81 := by kernel_rfl
theorem z1e (y : Way) : (Tryz.prog.info? 45).map (·.size) = some (z04 y).size := by rw [z2i]; exact Tryz.infoM
theorem zBs : Tryz.zeroCells45 = z04 ⟨fun _ => kno0, fun _ => kno0⟩ := by kernel_rfl
theorem z78 : Tryz.zeroCells45.size = 81 := by rw [zBs, z2i]
theorem zCp {o : Oper} {u : Act} {x : Operand} {W : World} {B : Nat} {y : Way} (hW : z07 W B y) (ho : o.op = .load 45 x) (hx : u.eval x = .pointer (some ⟨B, 0, none⟩)) : (execOp u.eval o).run Tryz.prog W = .ok (.value (.agg (z04 y))) W := by
 have hl := run_loadVar_row (P := Tryz.prog) W B 45 45 (z04 y) (0, 0) _ hW Tryz.underlying45 rfl (z1e y)
 unfold execOp
 simp only [ho, hx, Instr.loadAt, Instr.sureAddr, Sem.run_bind, Sem.run_pure, Result.andThen_ok, hl]
end Go.Proofs.YteenhdoaminkeaaGreatDoor
namespace Go.Proofs.YteenhdoaminkeaaGreatDoor
open Go.RowKit
def Way.store (y : Way) (p v : Kno) (o : Int) : Int × Way :=
 if (z0l p o).2 ≠ 0 then ((z0l p o).2, y)
 else if p.k = 2 then (6, y)
 else if v.k = 0 then (8, y)
 else if p.k = 4 then (z0f v, y)
 else if (z0l p o).1.1 ≠ (z0l p o).1.2 then (2, y)
 else (0, y.putSlot ((z0l p o).1.1 + 16).toNat v)
theorem zJi {y : Way} {a : Abs} {p v : Kno} {vp vv : Val} {o : Int} (hy : y.Has a) (kp : p.Ok) (kv : v.Ok) (hp : p.Has vp) (hv : v.Has vv) (ho : In64 o) (h : (y.store p v o).1 = 0) :
  (z9v a vp vv o).1 = 0 ∧ (y.store p v o).2.Has (z9v a vp vv o).2 := by
 unfold Way.store at h ⊢
 by_cases c1 : (z0l p o).2 ≠ 0
 ·rw [if_pos c1] at h; exact absurd h c1
 rw [if_neg c1] at h ⊢
 obtain ⟨r0, rk, rp, rt, b1, b2, m1, m2, r1⟩ := z7w kp ho hp (Classical.byContradiction c1)
 by_cases c2 : p.k = 2
 ·rw [if_pos c2] at h; exact absurd h (by show ¬ (6 : Int) = 0; decide)
 rw [if_neg c2] at h ⊢
 by_cases c3 : v.k = 0
 ·rw [if_pos c3] at h; exact absurd h (by show ¬ (8 : Int) = 0; decide)
 rw [if_neg c3] at h ⊢
 have n3 : vv.k ≠ 0 := hv.some kv c3
 unfold z9v
 rw [if_neg (by rw [r0]; decide), if_neg (by omega), if_neg n3]
 by_cases c4 : p.k = 4
 ·rw [if_pos c4] at h ⊢
  obtain ⟨-, w1, -⟩ := z4y hv h
  rw [if_neg (by omega), if_neg (by omega)]
  exact ⟨rfl, hy.putCel⟩
 rw [if_neg c4] at h ⊢
 have c5 : p.k = 3 := by omega
 by_cases c6 : (z0l p o).1.1 ≠ (z0l p o).1.2
 ·rw [if_pos c6] at h; exact absurd h (by show ¬ (2 : Int) = 0; decide)
 rw [if_neg c6]
 rw [if_pos c5] at r1
 have e : wrap64 (vp.n + o) = (z0l p o).1.1 := by rw [rt] at c6 ⊢; omega
 rw [if_pos (by omega), r1, e]
 exact ⟨rfl, hy.putSlot hv⟩
def Way.call (y : Way) (what : Int) : Int × Way :=
 if (what = 1 ∨ what = 3) ∧ z0f (y.reg 1) ≠ 0 then (z0f (y.reg 1), y)
 else if what = 1 then (0, y.lose.putReg 0 ⟨5, 0, 0⟩)
 else if what = 2 then (0, y.lose.putReg 0 (z15 (-9223372036854775808) 9223372036854775807))
 else (0, y.lose.putReg 0 (z15 0 0))
theorem zPw {y : Way} {a : Abs} {what : Int} (ha : a.Ok) (hy : y.Has a) (hw : what = 1 ∨ what = 2 ∨ what = 3) (h : (y.call what).1 = 0) :
  (zIr a what).1 = 0 ∧ (y.call what).2.Has (zIr a what).2 := by
 unfold Way.call at h ⊢
 by_cases c1 : (what = 1 ∨ what = 3) ∧ z0f (y.reg 1) ≠ 0
 ·rw [if_pos c1] at h; exact absurd h c1.2
 rw [if_neg c1]
 unfold zIr
 have c2 : ¬ (what ≠ 2 ∧ z82 (a.reg 1) ≠ 0) := fun e => e.2 (z4y (hy.reg 1 (by decide)) (Classical.byContradiction fun z => c1 ⟨by omega, z⟩)).1
 rw [if_neg c2]
 rcases hw with rfl | rfl | rfl
 ·rw [if_pos rfl, if_pos rfl]
  refine ⟨rfl, hy.lose.putReg (Or.inr (Or.inr ⟨rfl, ?_, ?_⟩))⟩
  ·unfold zD7; split <;> rfl
  ·unfold zD7; split
   ·exact Or.inl rfl
   ·exact Or.inr rfl
 ·rw [if_neg (by decide), if_pos rfl, if_neg (by decide), if_pos rfl]
  exact ⟨rfl, hy.lose.putReg (Kno.has_num ha.time.1 ha.time.2)⟩
 ·rw [if_neg (by decide), if_neg (by decide), if_neg (by decide), if_neg (by decide)]
  exact ⟨rfl, (Way.Has.give hy.lose).putReg (Kno.has_num (Int.le_refl _) (Int.le_refl _))⟩
def Way.change (y : Way) (c : Int) (d s : Nat) (r : Bool) (n : Int) : Int × Way :=
 if (z2e c (y.reg d) (y.second s r n)).2 = 0 then (0, y.putReg d (z2e c (y.reg d) (y.second s r n)).1) else ((z2e c (y.reg d) (y.second s r n)).2, y)
theorem z2u {y : Way} {s : Nat} {r : Bool} {n : Int} (hk : y.Ok) (hs : s < 11) (hn : In64 n) : (y.second s r n).Ok := by
 cases r
 ·exact ⟨by show (0 : Int) ≤ 1; decide, by show (1 : Int) ≤ 5; decide, hn, hn, Int.le_refl _⟩
 ·exact hk.reg s hs
theorem zIq {y : Way} {a : Abs} {c : Int} {d s : Nat} {r : Bool} {n : Int} (hk : y.Ok) (hy : y.Has a) (hc : 1 ≤ c ∧ c ≤ 13) (hd : d < 11) (hs : s < 11) (hn : In64 n) (h : (y.change c d s r n).1 = 0) :
  (z6s c (a.reg d) (a.second s r n)).2 = 0 ∧ (y.change c d s r n).2.Has (a.putReg d (z6s c (a.reg d) (a.second s r n)).1) := by
 unfold Way.change at h ⊢
 by_cases c1 : (z2e c (y.reg d) (y.second s r n)).2 = 0
 ·rw [if_pos c1]
  have m := zCr hc (hk.reg d hd) (z2u hk hs hn) (hy.reg d hd) (hy.second hs) c1
  exact ⟨m.1, hy.putReg m.2⟩
 ·rw [if_neg c1] at h; exact absurd h c1
end Go.Proofs.YteenhdoaminkeaaGreatDoor
namespace Go.Proofs.YteenhdoaminkeaaGreatDoor
open Go.ChangeShapes Go.WideShapes Go.ChangeAt Go.RowKit
attribute [local simp] z00

theorem zA8 (al ah bl bh : Int) : (∀ (h : max al bl ≤ min ah bh) (w : World), Calls Tryz.prog 90 #[.agg #[vI vK al, vI vK ah], .agg #[vI vK bl, vI vK bh]] w fun e w' => e = .returned (.tuple #[.agg #[vI vK (max al bl), vI vK (min ah bh)], .bool true]) ∧ Below w.heap.size w w') ∧ (∀ (h : min ah bh < max al bl) (w : World), Calls Tryz.prog 90 #[.agg #[vI vK al, vI vK ah], .agg #[vI vK bl, vI vK bh]] w fun e w' => e = .returned (.tuple #[.agg #[vI vK 0, vI vK 0], .bool false]) ∧ Below w.heap.size w w') := by
 refine ⟨?_, ?_⟩
 all_goals
  intro h w
 have _h : decide (min ah bh < max al bl) = false := by simp; omega
 rotate_left
 have _h : decide (min ah bh < max al bl) = true := by simp; omega
 rotate_left
 all_goals
  go_enter Tryz.func90, Tryz.ntmps90
  go_wp2_with fail
  all_goals exact bodyPost_ret (by simp [results, Tryz.results90, go_sem]) rfl ⟨rfl, by repeat' first | exact bF _ _ | refine bA ?_ ?_ _ | refine bS ?_ ?_ _ | refine bD ?_ | (simp; done) | (simp; omega) | (simp [z00]; done) | (simp [z00]; omega) | omega⟩
def zP4 := fun al ah bl bh => (@zA8 al ah bl bh).1
def zT3 := fun al ah bl bh => (@zA8 al ah bl bh).2
def oppV (c : Int) : Int := if c = 15 then 16 else if c = 16 then 15 else if c = 17 then 20 else if c = 18 then 19 else if c = 19 then 18 else if c = 20 then 17 else if c = 21 then 24 else if c = 22 then 23 else if c = 23 then 22 else if c = 24 then 21 else 0
theorem z2q (w : World) : (Calls Tryz.prog 71 #[vI vK 15] w fun e w' => e = .returned (vI vK 16) ∧ w' = w) ∧ (Calls Tryz.prog 71 #[vI vK 16] w fun e w' => e = .returned (vI vK 15) ∧ w' = w) ∧ (Calls Tryz.prog 71 #[vI vK 17] w fun e w' => e = .returned (vI vK 20) ∧ w' = w) ∧ (Calls Tryz.prog 71 #[vI vK 18] w fun e w' => e = .returned (vI vK 19) ∧ w' = w) ∧ (Calls Tryz.prog 71 #[vI vK 19] w fun e w' => e = .returned (vI vK 18) ∧ w' = w) ∧ (Calls Tryz.prog 71 #[vI vK 20] w fun e w' => e = .returned (vI vK 17) ∧ w' = w) ∧ (Calls Tryz.prog 71 #[vI vK 21] w fun e w' => e = .returned (vI vK 24) ∧ w' = w) ∧ (Calls Tryz.prog 71 #[vI vK 22] w fun e w' => e = .returned (vI vK 23) ∧ w' = w) ∧ (Calls Tryz.prog 71 #[vI vK 23] w fun e w' => e = .returned (vI vK 22) ∧ w' = w) ∧ (Calls Tryz.prog 71 #[vI vK 24] w fun e w' => e = .returned (vI vK 21) ∧ w' = w) := by
 refine ⟨?_, ?_, ?_, ?_, ?_, ?_, ?_, ?_, ?_, ?_⟩
 all_goals
  go_enter Tryz.func71, Tryz.ntmps71
  go_wp2
  go_ret
  exact ⟨rfl, rfl⟩
def opp_15 := fun w => (@z2q w).1
def opp_16 := fun w => (@z2q w).2.1
def opp_17 := fun w => (@z2q w).2.2.1
def opp_18 := fun w => (@z2q w).2.2.2.1
def opp_19 := fun w => (@z2q w).2.2.2.2.1
def opp_20 := fun w => (@z2q w).2.2.2.2.2.1
def opp_21 := fun w => (@z2q w).2.2.2.2.2.2.1
def opp_22 := fun w => (@z2q w).2.2.2.2.2.2.2.1
def opp_23 := fun w => (@z2q w).2.2.2.2.2.2.2.2.1
def opp_24 := fun w => (@z2q w).2.2.2.2.2.2.2.2.2
theorem z5u (w : World) : (Calls Tryz.prog 93 #[vI vK 17] w fun e w' => e = .returned (vI vK 19) ∧ w' = w) ∧ (Calls Tryz.prog 93 #[vI vK 18] w fun e w' => e = .returned (vI vK 20) ∧ w' = w) ∧ (Calls Tryz.prog 93 #[vI vK 21] w fun e w' => e = .returned (vI vK 23) ∧ w' = w) ∧ (Calls Tryz.prog 93 #[vI vK 22] w fun e w' => e = .returned (vI vK 24) ∧ w' = w) := by
 refine ⟨?_, ?_, ?_, ?_⟩
 all_goals
  go_enter Tryz.func93, Tryz.ntmps93
  go_wp2
  go_ret
  exact ⟨rfl, rfl⟩
def zJg := fun w => (@z5u w).1
def zJf := fun w => (@z5u w).2.1
def zJe := fun w => (@z5u w).2.2.1
def zJd := fun w => (@z5u w).2.2.2
theorem zA7 (al ah bl bh : Int) (hb : bl < 0) (w : World) : (Calls Tryz.prog 92 #[vI vK 19, .agg #[vI vK al, vI vK ah], .agg #[vI vK bl, vI vK bh]] w fun e w' => e = .returned (.tuple #[.agg #[vI vK al, vI vK ah], .agg #[vI vK bl, vI vK bh], .bool true]) ∧ Below w.heap.size w w') ∧ (Calls Tryz.prog 92 #[vI vK 20, .agg #[vI vK al, vI vK ah], .agg #[vI vK bl, vI vK bh]] w fun e w' => e = .returned (.tuple #[.agg #[vI vK al, vI vK ah], .agg #[vI vK bl, vI vK bh], .bool true]) ∧ Below w.heap.size w w') := by
 refine ⟨?_, ?_⟩
 all_goals
  go_enter Tryz.func92, Tryz.ntmps92
  go_wp2_with fail
  go_region
  all_goals go_wp2
  all_goals exact bodyPost_ret (v := .tuple #[.agg #[vI vK al, vI vK ah], .agg #[vI vK bl, vI vK bh], .bool true]) (by simp [results, Tryz.results92, go_sem]) rfl ⟨rfl, by repeat' first | exact bF _ _ | refine bA ?_ ?_ _ | refine bS ?_ ?_ _ | refine bD ?_ | (simp; done) | (simp; omega) | (simp [z00]; done) | (simp [z00]; omega) | omega⟩
def zMo := fun al ah bl bh hb w => (@zA7 al ah bl bh hb w).1
def zMk := fun al ah bl bh hb w => (@zA7 al ah bl bh hb w).2
theorem z3d (al ah bl bh : Int) : (∀ (hb : 0 ≤ bl) (h : ah < max al 0) (w : World), Calls Tryz.prog 92 #[vI vK 19, .agg #[vI vK al, vI vK ah], .agg #[vI vK bl, vI vK bh]] w fun e w' => e = .returned (.tuple #[.agg #[vI vK 0, vI vK 0], .agg #[vI vK 0, vI vK 0], .bool false]) ∧ Below w.heap.size w w') ∧ (∀ (hb : 0 ≤ bl) (h : max al 0 ≤ ah) (hi : isV 19 (max al 0) bh = false) (w : World), Calls Tryz.prog 92 #[vI vK 19, .agg #[vI vK al, vI vK ah], .agg #[vI vK bl, vI vK bh]] w fun e w' => e = .returned (.tuple #[.agg #[vI vK 0, vI vK 0], .agg #[vI vK 0, vI vK 0], .bool false]) ∧ Below w.heap.size w w') ∧ (∀ (hb : 0 ≤ bl) (h : ah < max al 0) (w : World), Calls Tryz.prog 92 #[vI vK 20, .agg #[vI vK al, vI vK ah], .agg #[vI vK bl, vI vK bh]] w fun e w' => e = .returned (.tuple #[.agg #[vI vK 0, vI vK 0], .agg #[vI vK 0, vI vK 0], .bool false]) ∧ Below w.heap.size w w') ∧ (∀ (hb : 0 ≤ bl) (h : max al 0 ≤ ah) (hi : isV 20 (max al 0) bh = false) (w : World), Calls Tryz.prog 92 #[vI vK 20, .agg #[vI vK al, vI vK ah], .agg #[vI vK bl, vI vK bh]] w fun e w' => e = .returned (.tuple #[.agg #[vI vK 0, vI vK 0], .agg #[vI vK 0, vI vK 0], .bool false]) ∧ Below w.heap.size w w') ∧ (∀ (h : ah < al) (w : World), Calls Tryz.prog 92 #[vI vK 23, .agg #[vI vK al, vI vK ah], .agg #[vI vK bl, vI vK bh]] w fun e w' => e = .returned (.tuple #[.agg #[vI vK 0, vI vK 0], .agg #[vI vK 0, vI vK 0], .bool false]) ∧ Below w.heap.size w w') ∧ (∀ (h : al ≤ ah) (hi : isV 23 (al) bh = false) (w : World), Calls Tryz.prog 92 #[vI vK 23, .agg #[vI vK al, vI vK ah], .agg #[vI vK bl, vI vK bh]] w fun e w' => e = .returned (.tuple #[.agg #[vI vK 0, vI vK 0], .agg #[vI vK 0, vI vK 0], .bool false]) ∧ Below w.heap.size w w') ∧ (∀ (h : ah < al) (w : World), Calls Tryz.prog 92 #[vI vK 24, .agg #[vI vK al, vI vK ah], .agg #[vI vK bl, vI vK bh]] w fun e w' => e = .returned (.tuple #[.agg #[vI vK 0, vI vK 0], .agg #[vI vK 0, vI vK 0], .bool false]) ∧ Below w.heap.size w w') ∧ (∀ (h : al ≤ ah) (hi : isV 24 (al) bh = false) (w : World), Calls Tryz.prog 92 #[vI vK 24, .agg #[vI vK al, vI vK ah], .agg #[vI vK bl, vI vK bh]] w fun e w' => e = .returned (.tuple #[.agg #[vI vK 0, vI vK 0], .agg #[vI vK 0, vI vK 0], .bool false]) ∧ Below w.heap.size w w') := by
 refine ⟨?_, ?_, ?_, ?_, ?_, ?_, ?_, ?_⟩
 intro hb h w
 have _hb : decide (bl < 0) = false := by simp; omega
 have _h : decide (ah < max al 0) = true := by simp; omega
 rotate_left
 intro hb h hi w
 have _hb : decide (bl < 0) = false := by simp; omega
 have _h : decide (ah < max al 0) = false := by simp; omega
 rotate_left
 intro hb h w
 have _hb : decide (bl < 0) = false := by simp; omega
 have _h : decide (ah < max al 0) = true := by simp; omega
 rotate_left
 intro hb h hi w
 have _hb : decide (bl < 0) = false := by simp; omega
 have _h : decide (ah < max al 0) = false := by simp; omega
 rotate_left
 intro h w
 have _h : decide (ah < al) = true := by simp; omega
 rotate_left
 intro h hi w
 have _h : decide (ah < al) = false := by simp; omega
 rotate_left
 intro h w
 have _h : decide (ah < al) = true := by simp; omega
 rotate_left
 intro h hi w
 have _h : decide (ah < al) = false := by simp; omega
 rotate_left
 all_goals
  go_enter Tryz.func92, Tryz.ntmps92
  go_wp2_with (first | (go_at_call 100; refine (zQo _ _ _ _).mono ?_; rintro e w' ⟨rfl, rfl⟩))
  all_goals exact bodyPost_ret (v := .tuple #[.agg #[vI vK 0, vI vK 0], .agg #[vI vK 0, vI vK 0], .bool false]) (by simp [results, Tryz.results92, go_sem]) rfl ⟨rfl, by repeat' first | exact bF _ _ | refine bA ?_ ?_ _ | refine bS ?_ ?_ _ | refine bD ?_ | (simp; done) | (simp; omega) | (simp [z00]; done) | (simp [z00]; omega) | omega⟩
def zMq := fun al ah bl bh => (@z3d al ah bl bh).1
def zMp := fun al ah bl bh => (@z3d al ah bl bh).2.1
def zMm := fun al ah bl bh => (@z3d al ah bl bh).2.2.1
def zMl := fun al ah bl bh => (@z3d al ah bl bh).2.2.2.1
def zMi := fun al ah bl bh => (@z3d al ah bl bh).2.2.2.2.1
def zMh := fun al ah bl bh => (@z3d al ah bl bh).2.2.2.2.2.1
def zMf := fun al ah bl bh => (@z3d al ah bl bh).2.2.2.2.2.2.1
def zMe := fun al ah bl bh => (@z3d al ah bl bh).2.2.2.2.2.2.2
theorem z5t (al ah bl bh : Int) : (∀ (hb : 0 ≤ bl) (h : max al 0 ≤ ah) (hi : isV 19 (max al 0) bh = true) (p1 : -9223372036854775808 ≤ max al 0) (p2 : max al 0 + 1 ≤ 9223372036854775807) (p3 : -9223372036854775808 ≤ bh - 1) (p4 : bh ≤ 9223372036854775807) (w : World), Calls Tryz.prog 92 #[vI vK 19, .agg #[vI vK al, vI vK ah], .agg #[vI vK bl, vI vK bh]] w fun e w' => e = .returned (.tuple #[.agg #[vI vK (max al 0), vI vK (min ah (bh - 1))], .agg #[vI vK (max bl (max al 0 + 1)), vI vK bh], .bool true]) ∧ Below w.heap.size w w') ∧ (∀ (hb : 0 ≤ bl) (h : max al 0 ≤ ah) (hi : isV 20 (max al 0) bh = true) (p1 : -9223372036854775808 ≤ max al 0) (p2 : max al 0 + 0 ≤ 9223372036854775807) (p3 : -9223372036854775808 ≤ bh - 0) (p4 : bh ≤ 9223372036854775807) (w : World), Calls Tryz.prog 92 #[vI vK 20, .agg #[vI vK al, vI vK ah], .agg #[vI vK bl, vI vK bh]] w fun e w' => e = .returned (.tuple #[.agg #[vI vK (max al 0), vI vK (min ah (bh))], .agg #[vI vK (max bl (max al 0)), vI vK bh], .bool true]) ∧ Below w.heap.size w w') ∧ (∀ (h : al ≤ ah) (hi : isV 23 (al) bh = true) (p1 : -9223372036854775808 ≤ al) (p2 : al + 1 ≤ 9223372036854775807) (p3 : -9223372036854775808 ≤ bh - 1) (p4 : bh ≤ 9223372036854775807) (w : World), Calls Tryz.prog 92 #[vI vK 23, .agg #[vI vK al, vI vK ah], .agg #[vI vK bl, vI vK bh]] w fun e w' => e = .returned (.tuple #[.agg #[vI vK al, vI vK (min ah (bh - 1))], .agg #[vI vK (max bl (al + 1)), vI vK bh], .bool true]) ∧ Below w.heap.size w w') ∧ (∀ (h : al ≤ ah) (hi : isV 24 (al) bh = true) (p1 : -9223372036854775808 ≤ al) (p2 : al + 0 ≤ 9223372036854775807) (p3 : -9223372036854775808 ≤ bh - 0) (p4 : bh ≤ 9223372036854775807) (w : World), Calls Tryz.prog 92 #[vI vK 24, .agg #[vI vK al, vI vK ah], .agg #[vI vK bl, vI vK bh]] w fun e w' => e = .returned (.tuple #[.agg #[vI vK al, vI vK (min ah (bh))], .agg #[vI vK (max bl (al)), vI vK bh], .bool true]) ∧ Below w.heap.size w w') := by
 refine ⟨?_, ?_, ?_, ?_⟩
 intro hb h hi p1 p2 p3 p4 w
 have _hb : decide (bl < 0) = false := by simp; omega
 have _h : decide (ah < max al 0) = false := by simp; omega
 rotate_left
 intro hb h hi p1 p2 p3 p4 w
 have _hb : decide (bl < 0) = false := by simp; omega
 have _h : decide (ah < max al 0) = false := by simp; omega
 rotate_left
 intro h hi p1 p2 p3 p4 w
 have _h : decide (ah < al) = false := by simp; omega
 rotate_left
 intro h hi p1 p2 p3 p4 w
 have _h : decide (ah < al) = false := by simp; omega
 rotate_left
 all_goals
  go_enter Tryz.func92, Tryz.ntmps92
  go_wp2_with (first | (go_at_call 100; refine (zQo _ _ _ _).mono ?_; rintro e w' ⟨rfl, rfl⟩))
  go_region
  all_goals go_wp2
  all_goals exact bodyPost_ret (by simp [results, Tryz.results92, go_sem]) rfl ⟨rfl, by repeat' first | exact bF _ _ | refine bA ?_ ?_ _ | refine bS ?_ ?_ _ | refine bD ?_ | (simp; done) | (simp; omega) | (simp [z00]; done) | (simp [z00]; omega) | omega⟩
def zMn := fun al ah bl bh => (@z5t al ah bl bh).1
def zMj := fun al ah bl bh => (@z5t al ah bl bh).2.1
def zMg := fun al ah bl bh => (@z5t al ah bl bh).2.2.1
def zMd := fun al ah bl bh => (@z5t al ah bl bh).2.2.2
def eqB (l h e : Int) : Bool := decide (l = e) && decide (h = e)
theorem zBf (l h e : Int) : eqB l h e = true ↔ l = e ∧ h = e := by simp [eqB]
theorem zD8 (l h e : Int) : eqB l h e = false ↔ ¬ (l = e ∧ h = e) := by rw [← Bool.not_eq_true, zBf]
theorem zTn (e l h : Int) (bk : Nat) (p : l = e) (q : h = e) (w : World) (hbk : bk < w.heap.size) (c0 : w.cell? ⟨bk, 0, none⟩ = some (vI vK l)) (c1 : w.cell? ⟨bk, 1, none⟩ = some (vI vK h)) : Calls Tryz.prog 102 #[vI vK e, .pointer (some ⟨bk, 0, none⟩)] w fun r w' => r = .returned (.bool true) ∧ Below w.heap.size w w' := by
 obtain rfl : e = l := p.symm
 obtain rfl : e = h := q.symm
 go_enter Tryz.func102, Tryz.ntmps102
 go_wp2_with (first | (go_at_call 39; refine (z2c _ _).mono ?_; rintro e w' ⟨rfl, rfl⟩))
 go_region_held3 (fun w' => w'.cell? ⟨bk, 0, none⟩ = some (vI vK e) ∧ w'.cell? ⟨bk, 1, none⟩ = some (vI vK e)) (first | (simp [go_sem]; done) | (simp [go_sem, *]; done) | go_keep) (first | (go_at_call 39; refine (z2c _ _).mono ?_; rintro e w' ⟨rfl, rfl⟩))
 all_goals go_wp2
 all_goals go_ret
 all_goals exact ⟨rfl, by repeat' first | exact bF _ _ | refine bA ?_ ?_ _ | refine bS ?_ ?_ _ | refine bD ?_ | (simp; done) | (simp; omega) | (simp [z00]; done) | (simp [z00]; omega) | omega⟩
theorem zTp (e l h : Int) (bk : Nat) (p : ¬ l = e) (w : World) (hbk : bk < w.heap.size) (c0 : w.cell? ⟨bk, 0, none⟩ = some (vI vK l)) (c1 : w.cell? ⟨bk, 1, none⟩ = some (vI vK h)) : Calls Tryz.prog 102 #[vI vK e, .pointer (some ⟨bk, 0, none⟩)] w fun r w' => r = .returned (.bool false) ∧ Below w.heap.size w w' := by
 go_enter Tryz.func102, Tryz.ntmps102
 go_wp2_with (first | (go_at_call 39; refine (z2c _ _).mono ?_; rintro e w' ⟨rfl, rfl⟩))
 go_region_held3 (fun w' => w'.cell? ⟨bk, 0, none⟩ = some (vI vK l) ∧ w'.cell? ⟨bk, 1, none⟩ = some (vI vK h)) (first | (simp [go_sem]; done) | (simp [go_sem, *]; done) | go_keep) (first | (go_at_call 39; refine (z2c _ _).mono ?_; rintro e w' ⟨rfl, rfl⟩))
 all_goals go_wp2
 all_goals go_ret
 all_goals exact ⟨rfl, by repeat' first | exact bF _ _ | refine bA ?_ ?_ _ | refine bS ?_ ?_ _ | refine bD ?_ | (simp; done) | (simp; omega) | (simp [z00]; done) | (simp [z00]; omega) | omega⟩
theorem zTo (e l h : Int) (bk : Nat) (p : l = e) (q : ¬ h = e) (w : World) (hbk : bk < w.heap.size) (c0 : w.cell? ⟨bk, 0, none⟩ = some (vI vK l)) (c1 : w.cell? ⟨bk, 1, none⟩ = some (vI vK h)) : Calls Tryz.prog 102 #[vI vK e, .pointer (some ⟨bk, 0, none⟩)] w fun r w' => r = .returned (.bool false) ∧ Below w.heap.size w w' := by
 obtain rfl : e = l := p.symm
 go_enter Tryz.func102, Tryz.ntmps102
 go_wp2_with (first | (go_at_call 39; refine (z2c _ _).mono ?_; rintro e w' ⟨rfl, rfl⟩))
 go_region_held3 (fun w' => w'.cell? ⟨bk, 0, none⟩ = some (vI vK e) ∧ w'.cell? ⟨bk, 1, none⟩ = some (vI vK h)) (first | (simp [go_sem]; done) | (simp [go_sem, *]; done) | go_keep) (first | (go_at_call 39; refine (z2c _ _).mono ?_; rintro e w' ⟨rfl, rfl⟩))
 all_goals go_wp2
 all_goals go_ret
 all_goals exact ⟨rfl, by repeat' first | exact bF _ _ | refine bA ?_ ?_ _ | refine bS ?_ ?_ _ | refine bD ?_ | (simp; done) | (simp; omega) | (simp [z00]; done) | (simp [z00]; omega) | omega⟩
theorem zGj (e l h : Int) (bk : Nat) (w : World) (hbk : bk < w.heap.size) (c0 : w.cell? ⟨bk, 0, none⟩ = some (vI vK l)) (c1 : w.cell? ⟨bk, 1, none⟩ = some (vI vK h)) : Calls Tryz.prog 102 #[vI vK e, .pointer (some ⟨bk, 0, none⟩)] w fun r w' => r = .returned (.bool (eqB l h e)) ∧ Below w.heap.size w w' := by
 by_cases p : l = e
 ·by_cases q : h = e
  ·have hb : eqB l h e = true := (zBf _ _ _).2 ⟨p, q⟩
   rw [hb]
   exact zTn e l h bk p q w hbk c0 c1
  ·have hb : eqB l h e = false := (zD8 _ _ _).2 (fun x => q x.2)
   rw [hb]
   exact zTo e l h bk p q w hbk c0 c1
 ·have hb : eqB l h e = false := (zD8 _ _ _).2 (fun x => p x.1)
  rw [hb]
  exact zTp e l h bk p w hbk c0 c1
def Trio (n : Nat) (al ah bl bh : Int) (w : World) : Prop :=
 n + 1 + 1 < w.heap.size ∧ w.cell? ⟨n, 0, none⟩ = some (vI vK al) ∧ w.cell? ⟨n, 1, none⟩ = some (vI vK ah) ∧ w.frozen? ⟨n, 0, none⟩ = false ∧ w.frozen? ⟨n, 1, none⟩ = false
 ∧ w.cell? ⟨n + 1, 0, none⟩ = some (vI vK bl) ∧ w.cell? ⟨n + 1, 1, none⟩ = some (vI vK bh) ∧ w.frozen? ⟨n + 1, 0, none⟩ = false ∧ w.frozen? ⟨n + 1, 1, none⟩ = false
 ∧ w.cell? ⟨n + 1 + 1, 0, none⟩ = some (vI vK 0) ∧ w.cell? ⟨n + 1 + 1, 1, none⟩ = some (vI vK 0) ∧ w.frozen? ⟨n + 1 + 1, 0, none⟩ = false ∧ w.frozen? ⟨n + 1 + 1, 1, none⟩ = false
theorem Trio.later {n : Nat} {al ah bl bh : Int} {W w1 : World} (h : Trio n al ah bl bh W) (hb : Below W.heap.size W w1) : Trio n al ah bl bh w1 := by
 obtain ⟨t0, a0, a1, af0, af1, b0, b1, bf0, bf1, r0, r1, rf0, rf1⟩ := h
 have hs := hb.size
 have l0 : n < W.heap.size := by omega
 have l1 : n + 1 < W.heap.size := by omega
 exact ⟨by omega, (hb.cell (p := ⟨n, 0, none⟩) l0).trans a0, (hb.cell (p := ⟨n, 1, none⟩) l0).trans a1, (hb.frozen (p := ⟨n, 0, none⟩) l0).trans af0, (hb.frozen (p := ⟨n, 1, none⟩) l0).trans af1,
  (hb.cell (p := ⟨n + 1, 0, none⟩) l1).trans b0, (hb.cell (p := ⟨n + 1, 1, none⟩) l1).trans b1, (hb.frozen (p := ⟨n + 1, 0, none⟩) l1).trans bf0, (hb.frozen (p := ⟨n + 1, 1, none⟩) l1).trans bf1,
  (hb.cell (p := ⟨n + 1 + 1, 0, none⟩) t0).trans r0, (hb.cell (p := ⟨n + 1 + 1, 1, none⟩) t0).trans r1, (hb.frozen (p := ⟨n + 1 + 1, 0, none⟩) t0).trans rf0, (hb.frozen (p := ⟨n + 1 + 1, 1, none⟩) t0).trans rf1⟩

theorem wo_one (al bl bh : Int) (w : World) : Calls Tryz.prog 99 #[.agg #[vI vK al, vI vK al], .agg #[vI vK bl, vI vK bh]] w fun e w' => e = .returned (.agg #[vI vK al, vI vK al]) ∧ Below w.heap.size w w' := by
 go_enter Tryz.func99, Tryz.ntmps99
 go_wp2_with fail
 go_region_held3 (fun w' => w'.cell? ⟨w.heap.size, 0, none⟩ = some (vI vK al) ∧ w'.cell? ⟨w.heap.size, 1, none⟩ = some (vI vK al)) (first | (simp [go_sem]; done) | (simp [go_sem, *]; done) | go_keep) (first | (go_at_call 39; refine (z2c _ _).mono ?_; rintro e w' ⟨rfl, rfl⟩) | (go_at_call 102; go_must (refine (zGj _ bl bh _ _ ?_ ?_ ?_).mono ?_; (focus first | (simp; done) | (simp; omega) | omega); (focus first | (simp [go_sem]; done) | (simp [go_sem, *]; done)); (focus first | (simp [go_sem]; done) | (simp [go_sem, *]; done)); rintro e w1 ⟨rfl, hb1⟩; have hX1 : Trio w.heap.size al ah bl bh w1 := Trio.later (by first | exact hX1 | (refine ⟨?_, ?_, ?_, ?_, ?_, ?_, ?_, ?_, ?_, ?_, ?_, ?_, ?_⟩ <;> simp [go_sem])) hb1; have hbw1 : Below w.heap.size w w1 := (by ((refine Below.trans ?_ (hb1.mono ?_)) <;> repeat' first | exact bF _ _ | exact hbw1 | refine bA ?_ ?_ _ | refine bS ?_ ?_ _ | refine bD ?_ | (simp; done) | (simp; omega) | (simp [z00]; done) | (simp [z00]; omega) | omega)); have hY := hX1; obtain ⟨t0, a0, a1, af0, af1, b0, b1, bf0, bf1, r0, r1, rf0, rf1⟩ := hY)))
 all_goals go_wp2_with (first | (go_at_call 39; refine (z2c _ _).mono ?_; rintro e w' ⟨rfl, rfl⟩) | (go_at_call 102; go_must (refine (zGj _ bl bh _ _ ?_ ?_ ?_).mono ?_; (focus first | (simp; done) | (simp; omega) | omega); (focus first | (simp [go_sem]; done) | (simp [go_sem, *]; done)); (focus first | (simp [go_sem]; done) | (simp [go_sem, *]; done)); rintro e w1 ⟨rfl, hb1⟩; have hX1 : Trio w.heap.size al ah bl bh w1 := Trio.later (by first | exact hX1 | (refine ⟨?_, ?_, ?_, ?_, ?_, ?_, ?_, ?_, ?_, ?_, ?_, ?_, ?_⟩ <;> simp [go_sem])) hb1; have hbw1 : Below w.heap.size w w1 := (by ((refine Below.trans ?_ (hb1.mono ?_)) <;> repeat' first | exact bF _ _ | exact hbw1 | refine bA ?_ ?_ _ | refine bS ?_ ?_ _ | refine bD ?_ | (simp; done) | (simp; omega) | (simp [z00]; done) | (simp [z00]; omega) | omega)); have hY := hX1; obtain ⟨t0, a0, a1, af0, af1, b0, b1, bf0, bf1, r0, r1, rf0, rf1⟩ := hY)))
 all_goals exact bodyPost_ret (v := .agg #[vI vK al, vI vK al]) (by simp [results, Tryz.results99, go_sem]) rfl ⟨rfl, by repeat' first | exact bF _ _ | refine bA ?_ ?_ _ | refine bS ?_ ?_ _ | refine bD ?_ | (simp; done) | (simp; omega) | (simp [z00]; done) | (simp [z00]; omega) | omega⟩
theorem z7k (al ah bl bh : Int) (hne : ¬ ah = al) : (∀ (hlt : al < ah) (p1 : -9223372036854775808 ≤ al) (p2 : ah ≤ 9223372036854775807) (hp : eqB bl bh al = true) (w : World), Calls Tryz.prog 99 #[.agg #[vI vK al, vI vK ah], .agg #[vI vK bl, vI vK bh]] w fun e w' => e = .returned (.agg #[vI vK (al + 1), vI vK ah]) ∧ Below w.heap.size w w') ∧ (∀ (hlt : al < ah) (p1 : -9223372036854775808 ≤ al) (p2 : ah ≤ 9223372036854775807) (hp : eqB bl bh al = false) (hq : eqB bl bh ah = true) (w : World), Calls Tryz.prog 99 #[.agg #[vI vK al, vI vK ah], .agg #[vI vK bl, vI vK bh]] w fun e w' => e = .returned (.agg #[vI vK al, vI vK (ah - 1)]) ∧ Below w.heap.size w w') ∧ (∀ (hp : eqB bl bh al = false) (hq : eqB bl bh ah = false) (w : World), Calls Tryz.prog 99 #[.agg #[vI vK al, vI vK ah], .agg #[vI vK bl, vI vK bh]] w fun e w' => e = .returned (.agg #[vI vK al, vI vK ah]) ∧ Below w.heap.size w w') := by
 refine ⟨?_, ?_, ?_⟩
 intro hlt p1 p2 hp w
 rotate_left
 intro hlt p1 p2 hp hq w
 rotate_left
 intro hp hq w
 rotate_left
 all_goals
  go_enter Tryz.func99, Tryz.ntmps99
  go_wp2_with fail
  go_region_held3 (fun w' => w'.cell? ⟨w.heap.size, 0, none⟩ = some (vI vK al) ∧ w'.cell? ⟨w.heap.size, 1, none⟩ = some (vI vK ah)) (first | (simp [go_sem]; done) | (simp [go_sem, *]; done) | go_keep) (first | (go_at_call 39; refine (z2c _ _).mono ?_; rintro e w' ⟨rfl, rfl⟩) | (go_at_call 102; go_must (refine (zGj _ bl bh _ _ ?_ ?_ ?_).mono ?_; (focus first | (simp; done) | (simp; omega) | omega); (focus first | (simp [go_sem]; done) | (simp [go_sem, *]; done)); (focus first | (simp [go_sem]; done) | (simp [go_sem, *]; done)); rintro e w1 ⟨rfl, hb1⟩; have hX1 : Trio w.heap.size al ah bl bh w1 := Trio.later (by first | exact hX1 | (refine ⟨?_, ?_, ?_, ?_, ?_, ?_, ?_, ?_, ?_, ?_, ?_, ?_, ?_⟩ <;> simp [go_sem])) hb1; have hbw1 : Below w.heap.size w w1 := (by ((refine Below.trans ?_ (hb1.mono ?_)) <;> repeat' first | exact bF _ _ | exact hbw1 | refine bA ?_ ?_ _ | refine bS ?_ ?_ _ | refine bD ?_ | (simp; done) | (simp; omega) | (simp [z00]; done) | (simp [z00]; omega) | omega)); have hY := hX1; obtain ⟨t0, a0, a1, af0, af1, b0, b1, bf0, bf1, r0, r1, rf0, rf1⟩ := hY)))
  all_goals go_wp2_with (first | (go_at_call 39; refine (z2c _ _).mono ?_; rintro e w' ⟨rfl, rfl⟩) | (go_at_call 102; go_must (refine (zGj _ bl bh _ _ ?_ ?_ ?_).mono ?_; (focus first | (simp; done) | (simp; omega) | omega); (focus first | (simp [go_sem]; done) | (simp [go_sem, *]; done)); (focus first | (simp [go_sem]; done) | (simp [go_sem, *]; done)); rintro e w1 ⟨rfl, hb1⟩; have hX1 : Trio w.heap.size al ah bl bh w1 := Trio.later (by first | exact hX1 | (refine ⟨?_, ?_, ?_, ?_, ?_, ?_, ?_, ?_, ?_, ?_, ?_, ?_, ?_⟩ <;> simp [go_sem])) hb1; have hbw1 : Below w.heap.size w w1 := (by ((refine Below.trans ?_ (hb1.mono ?_)) <;> repeat' first | exact bF _ _ | exact hbw1 | refine bA ?_ ?_ _ | refine bS ?_ ?_ _ | refine bD ?_ | (simp; done) | (simp; omega) | (simp [z00]; done) | (simp [z00]; omega) | omega)); have hY := hX1; obtain ⟨t0, a0, a1, af0, af1, b0, b1, bf0, bf1, r0, r1, rf0, rf1⟩ := hY)))
  all_goals exact bodyPost_ret (by simp [results, Tryz.results99, go_sem, r0, r1]) rfl ⟨rfl, by repeat' first | exact bF _ _ | exact hbw1 | refine bA ?_ ?_ _ | refine bS ?_ ?_ _ | refine bD ?_ | (simp; done) | (simp; omega) | (simp [z00]; done) | (simp [z00]; omega) | omega⟩
def wo_low := fun al ah bl bh hne => (@z7k al ah bl bh hne).1
def zR2 := fun al ah bl bh hne => (@z7k al ah bl bh hne).2.1
def zR1 := fun al ah bl bh hne => (@z7k al ah bl bh hne).2.2
end Go.Proofs.YteenhdoaminkeaaGreatDoor
