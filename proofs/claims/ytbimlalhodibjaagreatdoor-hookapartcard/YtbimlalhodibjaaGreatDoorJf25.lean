/-
 What package hook's New returns where each number is from 1 to 1000: a desk where nothing is put in and nothing waits. Conditions: said. Two desks beside one another, as they lie and as they are: what HookApart goes through. Conditions: said. What HookApart puts together of two rounds, as it lies. Conditions: said. What stands between semicolons, and between blanks, in a text that was put together of clean words: those words. A program as text: what asm.Write returns to a list of steps in memory: the steps' texts, with a semicolon and a blank between, or what op.Check returned; the world below is as it was. Conditions: the list's cells hold steps with numbers of 64 bits, the tables lie in memory. The words of a step that nothing is wrong with: each is clean, and names, registers, numbers and places are read as what they were written of. The text of a program that nothing is wrong with z2s that program. The steps that a written program's text z2s: those that were written. What asm.Read returns to the text of a program that nothing is wrong with: that program. The numbers of a step that is told fit in 64 bits. What errors.As answers at a target that is an *api.Errno: nil: false; an Errno, or an *At around one: true, and the target gets it; four new blocks. Conditions: the library's variable errorType holds the handle of the type error, and the target's cell is there and not frozen. What api.Tell, plain.Place and the statements' own 'is' answer at nil, at an Errno, and at an *At around an Errno; the world below is as it was. Conditions: the library's variable errorType holds the handle of the type error; the At's cells are there. gatehousekeep.let and gatehousekeep.runs are true. Conditions: the library's tables are as they are laid. What a chain's Cells returns where the program is there. Conditions: the desk lies in memory. The program that gatehousekeep.hooked reads, and what comes of it on a desk, on plain numbers. Conditions: the library's tables are as they are laid. gatehousekeep.hooked is true. Conditions: the library's tables are as they are laid. Small things that HookFair and HookApart have in common. No conditions.
-/
import Derived.Test.YtbimlalhodibjaaGreatDoorJf24
import Derived.Test.YtbimlalhodibjaaGreatDoorJf4
import Derived.Test.YtbimlalhodibjaaGreatDoorJf2
import Derived.Test.YtbimlalhodibjaaGreatDoorRows
import Derived.WalkKit
import Derived.ProofKit
import Derived.LaidEql
import Derived.Stop.Asserts
import Derived.RowKitTokens
import Derived.Deep.QuietTactic
import Derived.BigQuiet
import Derived.WalkLawsBesides
import Derived.Test.YtbimlalhodibjaaGreatDoorJf22
import Derived.Test.YtbimlalhodibjaaGreatDoorJf9
import Derived.RegionTactic
set_option maxHeartbeats 40000000
open Go.Value renaming int → A
open Go.IntKind renaming i64 → E
open Go.RowKit.Below renaming alloc → bA, setCell → bS, drew → bD, refl → bF
set_option maxRecDepth 1000000
set_option linter.defProp false
set_option linter.unusedVariables false
set_option linter.unusedSimpArgs false
open Go.Ending renaming returned → rT
open Go.Value renaming pointer → pT
open Go.Obj renaming cells → cT
open Go.Proofs.Tryz renaming prog → tP
namespace Go.Proofs.YtbimlalhodibjaaGreatDoor
section
open Go.ChangeShapes Go.WideShapes Go.ChangeAt Go.RowKit
attribute [local simp] z00 z0d z07
def z44 (may : Nat -> Int) (j : Nat) : Dsk := ⟨fun i => ⟨[], 0, [], if i < j then may i else 0, 0⟩, 0⟩
def z5a : Array Value := Array.ofFn (n := 952) fun i => (z44 (fun _ => 0) 0).cell i.1
theorem zMx (may : Nat -> Int) : z44 may 0 = z44 (fun _ => 0) 0 := by
 unfold z44
 congr 1
theorem zO3 : Tryz.prog.built 93 [] = some z5a := by kernel_rfl
theorem zUr (d : Dsk) {k : Nat} (x : Int) (hk : k < 3) (j : Nat) (_ : j < 952) : (d.put k { d.g k with may := x }).cell j = if j = k * 317 + 315 then A E x else d.cell j := by
 rw [z6l d _ hk]
 by_cases c : k * 317 <= j /\ j < k * 317 + 317
 ·rw [if_pos c]
  obtain ⟨i, rfl⟩ : ∃ i, j = k * 317 + i := ⟨j - k * 317, by omega⟩
  rw [Nat.add_sub_cancel_left, z2l d hk (by omega)]
  unfold z1f
  dsimp only
  by_cases c1 : i < 154
  ·rw [if_pos c1, if_pos c1, if_neg (show ¬ k * 317 + i = k * 317 + 315 by omega)]
  rw [if_neg c1, if_neg c1]
  by_cases c2 : i < 314
  ·rw [if_pos c2, if_pos c2, if_neg (show ¬ k * 317 + i = k * 317 + 315 by omega)]
  rw [if_neg c2, if_neg c2]
  by_cases c3 : i = 314
  ·rw [if_pos c3, if_pos c3, if_neg (show ¬ k * 317 + i = k * 317 + 315 by omega)]
  rw [if_neg c3, if_neg c3]
  by_cases c4 : i = 315
  ·rw [if_pos c4, if_pos (show k * 317 + i = k * 317 + 315 by omega)]
  ·rw [if_neg c4, if_neg c4, if_neg (show ¬ k * 317 + i = k * 317 + 315 by omega)]
 ·rw [if_neg c, if_neg (show ¬ j = k * 317 + 315 by omega)]
theorem zMy (may : Nat -> Int) (k : Nat) : z44 may (k + 1) = (z44 may k).put k { (z44 may k).g k with may := may k } := by
 unfold z44 Dsk.put
 dsimp only
 congr 1
 funext i
 by_cases c : i = k
 ·rw [if_pos c, c, if_pos (Nat.lt_succ_self k)]
 ·rw [if_neg c]
  congr 1
  by_cases c2 : i < k
  ·rw [if_pos c2, if_pos (by omega)]
  ·rw [if_neg c2, if_neg (by omega)]
theorem zVf (a b c : Value) : (Tryz.prog.info? 22).map (·.size) = some #[a, b, c].size := by kernel_rfl
theorem zQm (may : Nat -> Int) (h0 : ∀ k, k < 3 -> 1 <= may k) (h1 : ∀ k, k < 3 -> may k <= 1000) (w : World) :
  Calls tP 6 #[.agg #[A E (may 0), A E (may 1), A E (may 2)]] w fun e w' => e = rT (.tuple #[pT (some ⟨w.heap.size + 1, 0, none⟩), .nilIface]) /\ Below w.heap.size w w' /\ z0k w' (w.heap.size + 1) (z44 may 3) := by
 have hK0 : Blk w [(w.heap.size, cT #[A E (may 0), A E (may 1), A E (may 2)] 22 (0, 0))] (w.alloc (cT #[A E (may 0), A E (may 1), A E (may 2)] 22)) := (Blk.nil ((bF _ _).alloc (Nat.le_refl _) _)).cons (heap_alloc_new w _)
 have hz0 : (w.alloc (cT #[A E (may 0), A E (may 1), A E (may 2)] 22)).heap.size = w.heap.size + 1 := by simp
 go_enter Tryz.func6, Tryz.ntmps6
 go_upto_region 1 with fail
 generalize w.alloc (cT #[A E (may 0), A E (may 1), A E (may 2)] 22) = w0 at hK0 hz0 ⊢
 go_step
 refine wpList_buildTo rfl 93 #[] rfl (some 7) rfl z5a (by simpa using zO3) ?_
 simp only [Act.put, siA, scZ, scS]
 (refine z03 rfl (pT (some ⟨w.heap.size + 1, 0, none⟩)) (w0.alloc (cT z5a 93)) (by rw [<- hz0]; go_simp; try rfl) ?_); simp only [Act.put, siA, scZ, scS]
 have hb1 : Below w.heap.size w (w0.alloc (cT z5a 93)) := hK0.1.alloc hK0.1.size _
 have hm1 := (heap_alloc_old w0 (cT z5a 93) (hK0.lt mcS)).trans (hK0.2 _ mcS)
 have hd1 : z0k (w0.alloc (cT z5a 93)) (w.heap.size + 1) (z44 may 0) := by rw [zMx, <- hz0]; exact heap_alloc_new w0 _
 clear hK0
 generalize w0.alloc (cT z5a 93) = w1 at hb1 hm1 hd1 ⊢
 have HI : Hid (Below w.heap.size w w1 /\ z0k w1 (w.heap.size + 1) (z44 may 0)) := ⟨hb1, hd1⟩
 go_upto_region 2 with fail
 go_step
 refine wpList_load_row rfl 22 (.tmp 1) rfl w.heap.size rfl 22 #[A E (may 0), A E (may 1), A E (may 2)] (0, 0) _ hm1 Tryz.underlying22 rfl (zVf _ _ _) ?_
 simp only [Act.put, siA, scZ, scS]
 clear hb1 hm1 hd1
 go_upto_region 3 with fail
 go_loopw [10] (fun kv wr => ∃ k : Nat, kv = A E k /\ k <= 3 /\ Hid (Below w.heap.size w wr /\ z0k wr (w.heap.size + 1) (z44 may k))) (fun kv _ => 3 - (intOf kv).toNat)
 case atStart => exact ⟨0, rfl, by decide, HI.out⟩
 case round =>
  obtain ⟨k, rfl, hk3, H⟩ := hrel
  clear HI
  by_cases hk : k < 3
  ·have a0 := h0 k hk
   have a1 := h1 k hk
   have cf := FnAt.frozen H.out.2 (k * 317 + 315)
   have c0 := zF1 H.out.2 hk
   have HN : Hid (Below w.heap.size w (wr.setCell ⟨w.heap.size + 1, k * 317 + 315, none⟩ (A E (may k))) /\ z0k (wr.setCell ⟨w.heap.size + 1, k * 317 + 315, none⟩ (A E (may k))) (w.heap.size + 1) (z44 may (k + 1))) := by
    refine ⟨H.out.1.setCell (show w.heap.size <= w.heap.size + 1 by omega) _, ?_⟩
    rw [zMy]
    exact FnAt.ext (FnAt.set H.out.2 (k * 317 + 315) _) fun j hj => zUr (z44 may k) (may k) hk j hj
   have t1 : decide (may k < 1) = false := decide_eq_false (by omega)
   have t2 : decide (1000 < may k) = false := decide_eq_false (by omega)
   rcases (show k = 0 \/ k = 1 \/ k = 2 by omega) with rfl | rfl | rfl
   ·simp only [Nat.zero_mul, Nat.one_mul, Nat.zero_add, Nat.reduceMul, Nat.reduceAdd] at c0 cf HN t1 t2
    push_cast
    go_upto_region 4 with fail
    go_step
    (refine z03 rfl (A E 0) wr (by go_simp; try rfl) ?_); simp only [Act.put, siA, scZ, scS]
    (refine z03 rfl (A E (may 0)) wr (by kernel_rfl) ?_); simp only [Act.put, siA, scZ, scS]
    go_wp2_with fail
    go_roundw
    case rel => exact ⟨1, by go_num, by decide, HN.out⟩
    case measure => simp [intOf]
   ·simp only [Nat.zero_mul, Nat.one_mul, Nat.zero_add, Nat.reduceMul, Nat.reduceAdd] at c0 cf HN t1 t2
    push_cast
    go_upto_region 4 with fail
    go_step
    (refine z03 rfl (A E 1) wr (by go_simp; try rfl) ?_); simp only [Act.put, siA, scZ, scS]
    (refine z03 rfl (A E (may 1)) wr (by kernel_rfl) ?_); simp only [Act.put, siA, scZ, scS]
    go_wp2_with fail
    go_roundw
    case rel => exact ⟨2, by go_num, by decide, HN.out⟩
    case measure => simp [intOf]
   ·simp only [Nat.zero_mul, Nat.one_mul, Nat.zero_add, Nat.reduceMul, Nat.reduceAdd] at c0 cf HN t1 t2
    push_cast
    go_upto_region 4 with fail
    go_step
    (refine z03 rfl (A E 2) wr (by go_simp; try rfl) ?_); simp only [Act.put, siA, scZ, scS]
    (refine z03 rfl (A E (may 2)) wr (by kernel_rfl) ?_); simp only [Act.put, siA, scZ, scS]
    go_wp2_with fail
    go_roundw
    case rel => exact ⟨3, by go_num, by decide, HN.out⟩
    case measure => simp [intOf]
  ·obtain rfl : k = 3 := by omega
   go_wp2_with fail
   exact bodyPost_ret (v := .tuple #[pT (some ⟨w.heap.size + 1, 0, none⟩), .nilIface]) (by simp [results, Tryz.results6, go_sem, *]) rfl ⟨rfl, H.out.1, H.out.2⟩
end
section
open Go.ChangeShapes Go.WideShapes Go.ChangeAt Go.RowKit
attribute [local simp] z00 z0d z07
theorem pg_off {w : World} {Ba Bb : Nat} {p : Pg} {d : Dsk} (h : PgOk w Bb p) (hD : z0k w Ba d) : ∀ bk cap, p.sl = .slice (some ⟨bk, 0, none⟩) p.xs.length cap -> z1l w bk 0 p.xs.length (fun j => (nth p.xs j).c) (fun j => (nth p.xs j).d) (fun j => (nth p.xs j).s) (fun j => (nth p.xs j).r) (fun j => (nth p.xs j).o) (fun j => (nth p.xs j).n) -> bk ≠ Ba := fun bk cap e hst hne => by
 have h3 := (hst 0 h.some).2.2.2.1
 rw [hne] at h3
 have h4 := FnAt.at hD (0 + 0 * 6 + 3) (by decide)
 rw [h3] at h4
 exact absurd (Option.some.inj h4) (by intro e; cases e)
theorem DOk.other {w w' : World} {Ba Bb : Nat} {da db : Dsk} {M : Int} (h : DOk w Bb db M) (hD : z0k w Ba da) (hne : Bb ≠ Ba) (hk : Kept Ba w w') : DOk w' Bb db M := by
 refine ⟨FnAt.block h.at_ (hk.block Bb h.at_.lt fun e => hne (Option.some.inj e)), fun k hk3 p hp => ?_, h.few, h.evs, h.told, h.may0, h.may1, h.left0, h.left1, h.last0, h.last1, h.ran0, h.ran1⟩
 have q := h.ps k hk3 p hp
 obtain ⟨bk, cap, e, h1, h2, h3⟩ := q.lies
 have ho := pg_off q hD bk cap e h3
 exact ⟨⟨bk, cap, e, Nat.lt_of_lt_of_le h1 hk.size, h2, z33 h3 (hk.block bk h1 fun z => ho (Option.some.inj z))⟩, q.some, q.few, q.right, q.nums, q.tab, q.goes⟩
structure Ap2 (w : World) (Ba Bb : Nat) (da db : Dsk) (M : Int) (wr : World) : Prop where
 bel : Below w.heap.size w wr
 a : DOk wr Ba da M
 b : DOk wr Bb db M
 o1 : w.heap.size <= Ba
 o2 : Ba < Bb
section
variable {w : World} {Ba Bb : Nat} {da db : Dsk} {M : Int} {wr wr' : World}
theorem Ap2.later (h : Ap2 w Ba Bb da db M wr) (hb : Below wr.heap.size wr wr') : Ap2 w Ba Bb da db M wr' := ⟨h.bel.trans (hb.mono h.bel.size), h.a.later hb, h.b.later hb, h.o1, h.o2⟩
theorem Ap2.drewN (h : Ap2 w Ba Bb da db M wr) (k : Nat) : Ap2 w Ba Bb da db M (wr.drewN k) := h.later (below_drewN (bF _ _) k)
theorem Ap2.mono {M' : Int} (h : Ap2 w Ba Bb da db M wr) (hm : M <= M') : Ap2 w Ba Bb da db M' wr := ⟨h.bel, h.a.mono hm, h.b.mono hm, h.o1, h.o2⟩
theorem Ap2.setA {da' : Dsk} (h : Ap2 w Ba Bb da db M wr) (hk : Kept Ba wr wr') (hd : DOk wr' Ba da' M) : Ap2 w Ba Bb da' db M wr' := ⟨Kept.below h.bel hk h.o1, hd, h.b.other h.a.at_ (by have := h.o2; omega) hk, h.o1, h.o2⟩
theorem Ap2.setB {db' : Dsk} (h : Ap2 w Ba Bb da db M wr) (hk : Kept Bb wr wr') (hd : DOk wr' Bb db' M) : Ap2 w Ba Bb da db' M wr' := ⟨Kept.below h.bel hk (by have := h.o1; have := h.o2; omega), h.a.other h.b.at_ (by have := h.o2; omega) hk, hd, h.o1, h.o2⟩
theorem Ap2.grown {n : Nat} {row : Option Nat} (h : Ap2 w Ba Bb da db M wr) (hg : wr.grownBy wr' row) (hr : ∀ b, row = some b -> n <= b) (ha : zC8 n da) (hb : zC8 n db) (hB : Bb < n) : Ap2 w Ba Bb da db M wr' := by
 have o1 := h.o1; have o2 := h.o2
 exact ⟨⟨hg.os.trans h.bel.os, hg.tape.trans h.bel.tape, hg.output.trans h.bel.output, Nat.le_trans h.bel.size hg.size, fun k hk => (hg.block k (Nat.lt_of_lt_of_le hk h.bel.size) fun e => by have := hr _ e.symm; omega).trans (h.bel.block k hk)⟩, h.a.grown hg hr ha (by omega), h.b.grown hg hr hb hB, o1, o2⟩
end
structure ApM (c : Nat) (da db : Dsk) : Prop where
 same : zY4 (da.g c) (db.g c)
 none : ∀ k, k < 3 -> k ≠ c -> (db.g k).evs = []
 la : ∀ k, k < 3 -> (da.g k).left <= 0
 lb : ∀ k, k < 3 -> (db.g k).left <= 0
theorem ApM.new {c : Nat} (hc : c < 3) (mv : Nat -> Int) : ApM c (z44 mv 3) (z44 mv 3) :=
 ⟨⟨rfl, rfl, rfl, rfl, rfl, fun p hp => absurd hp List.not_mem_nil⟩, fun k _ _ => rfl, fun k _ => Int.le_refl _, fun k _ => Int.le_refl _⟩
def zYh (d : Dsk) (k : Nat) (T : Nat -> Int) : Dsk := d.put k { d.g k with evs := (d.g k).evs ++ [T] }
theorem ApM.evA {c k : Nat} {da db : Dsk} (h : ApM c da db) (hk : k ≠ c) (T : Nat -> Int) : ApM c (zYh da k T) db := by
 refine ⟨?_, h.none, fun j hj => ?_, h.lb⟩
 ·unfold zYh; rw [z3r, if_neg (fun e => hk e.symm)]; exact h.same
 ·unfold zYh; rw [z3r]
  split
  ·rename_i e; rw [<- e]; exact h.la j hj
  ·exact h.la j hj
theorem ApM.evB {c : Nat} {da db : Dsk} (h : ApM c da db) (T : Nat -> Int) : ApM c (zYh da c T) (zYh db c T) := by
 unfold zYh
 refine ⟨?_, fun k hk hne => ?_, fun j hj => ?_, fun j hj => ?_⟩
 ·rw [z3r, z3r, if_pos rfl, if_pos rfl]
  exact ⟨h.same.ps, h.same.last, by show _ ++ _ = _ ++ _; rw [h.same.evs], h.same.may, h.same.left, h.same.deaf⟩
 ·rw [z3r, if_neg hne]; exact h.none k hk hne
 ·rw [z3r]
  split
  ·rename_i e; rw [<- e]; exact h.la j hj
  ·exact h.la j hj
 ·rw [z3r]
  split
  ·rename_i e; rw [<- e]; exact h.lb j hj
  ·exact h.lb j hj
theorem zZ1 {ps qs : List Pg} (h : ps.map Pg.bare = qs.map Pg.bare) : ps.length = qs.length := by
 have := congrArg List.length h
 rwa [List.length_map, List.length_map] at this
theorem zYi (rank : Int) : ∀ {ps qs : List Pg}, ps.map Pg.bare = qs.map Pg.bare -> (ps.findIdx fun p => decide (rank < p.rank)) = qs.findIdx fun p => decide (rank < p.rank)
 | [], [], _ => rfl
 | [], _ :: _, h => by simp at h
 | _ :: _, [], h => by simp at h
 | p :: ps, q :: qs, h => by
  rw [List.map_cons, List.map_cons] at h
  have e1 : p.rank = q.rank := show p.bare.rank = q.bare.rank by rw [(List.cons.inj h).1]
  rw [List.findIdx_cons, List.findIdx_cons, e1, zYi rank (List.cons.inj h).2]
theorem zZ2 {ps qs : List Pg} (h : ps.map Pg.bare = qs.map Pg.bare) (i : Nat) {p q : Pg} (hp : p.bare = q.bare) : (Pg.ins ps i p).map Pg.bare = (Pg.ins qs i q).map Pg.bare := by
 unfold Pg.ins
 rw [List.map_append, List.map_append, List.map_cons, List.map_cons, List.map_take, List.map_take, List.map_drop, List.map_drop, h, hp]
theorem ApM.attA {c k : Nat} {da da' db : Dsk} {xs : List St} {rank : Int} (h : ApM c da db) (hk : k ≠ c) (ha : zVa da k xs rank da') : ApM c da' db := by
 refine ⟨?_, h.none, fun j hj => by rw [(ha.same j).2.2]; exact h.la j hj, h.lb⟩
 rcases ha with ⟨-, rfl⟩ | ⟨-, -, q, -, -, -, -, rfl⟩
 ·exact h.same
 ·rw [z3r, if_neg (fun e => hk e.symm)]; exact h.same
theorem ApM.attB {c : Nat} {da da' db db' : Dsk} {xs : List St} {rank : Int} (h : ApM c da db) (hd : Deaf xs) (ha : zVa da c xs rank da') (hb : zVa db c xs rank db') : ApM c da' db' := by
 refine ⟨?_, fun k hk hne => by rw [(hb.same k).1]; exact h.none k hk hne, fun j hj => by rw [(ha.same j).2.2]; exact h.la j hj, fun j hj => by rw [(hb.same j).2.2]; exact h.lb j hj⟩
 have hl := zZ1 h.same.ps
 rcases ha with ⟨n1, rfl⟩ | ⟨l1, l2, q, q1, q2, q3, q4, rfl⟩
 ·rcases hb with ⟨-, rfl⟩ | ⟨m1, m2, -⟩
  ·exact h.same
  ·exact absurd ⟨m1, by omega⟩ n1
 ·rcases hb with ⟨n1, -⟩ | ⟨m1, m2, p, p1, p2, p3, p4, rfl⟩
  ·exact absurd ⟨l1, by omega⟩ n1
  ·rw [z3r, z3r, if_pos rfl, if_pos rfl]
   have e : q.bare = p.bare := by
    unfold Pg.bare
    rw [q1, q2, q3, q4, p1, p2, p3, p4, h.same.last]
   refine ⟨?_, by show _ + 1 = _ + 1; rw [h.same.last], h.same.evs, h.same.may, h.same.left, fun r hr => ?_⟩
   ·show (Pg.ins _ _ q).map Pg.bare = (Pg.ins _ _ p).map Pg.bare
    rw [zYi rank h.same.ps]
    exact zZ2 h.same.ps _ e
   ·rcases ins_mem hr with rfl | hr
    ·rw [q3]; exact hd
    ·exact h.same.deaf r hr
theorem ApM.round {c : Nat} {da db : Dsk} (h : ApM c da db) (hc : c < 3) (ea : ∀ k, k < 3 -> (da.g k).evs.length <= 20) (eb : ∀ k, k < 3 -> (db.g k).evs.length <= 20) : ApM c (z0g 3 da).1 (z0g 3 db).1 /\ ofH c (z0g 3 da).2 = ofH c (z0g 3 db).2 /\ ∀ x, x ∈ (z0g 3 db).2 -> x.1 = c := by
 obtain ⟨h1, h2⟩ := zYn hc h.same
 refine ⟨⟨h1, fun k hk hne => (zYc hk (h.none k hk hne)).2, z90 da h.la ea 3 (Nat.le_refl _), z90 db h.lb eb 3 (Nat.le_refl _)⟩, h2, fun x hx => ?_⟩
 by_cases e : x.1 = c
 ·exact e
 ·have h3 := zCk db 3 x hx
  have h4 := zYj hx rfl
  rw [(zYc h3 (h.none x.1 h3 e)).1] at h4
  exact absurd h4 List.not_mem_nil
def evTo (d : Dsk) (k : Nat) (T : Nat -> Int) : Dsk := if (d.g k).evs.length < 20 then zYh d k T else d
theorem zYd (B k : Nat) (hk : k < 3) (d : Dsk) (M : Int) (T : Nat -> Int) (w : World) (HD : Hid (DOk w B d M)) (HT : Hid (∀ i, i < 8 -> In64 (T i))) : Calls tP 17 #[pT (some ⟨B, 0, none⟩), A E (k : Int), .agg (z0o T)] w fun e w' => ∃ v, e = rT v /\ Kept B w w' /\ DOk w' B (evTo d k T) M := by
 unfold evTo zYh
 by_cases h20 : (d.g k).evs.length < 20
 ·rw [if_pos h20]
  refine (zB3 B k _ hk d T w HD.out.at_ rfl h20).mono fun e w' h => ?_
  obtain ⟨h1, h2, h3⟩ := h
  exact ⟨_, h1, h2, HD.out.event hk h20 HT.out h2 h3⟩
 ·rw [if_neg h20]
  refine (zJ8 B k hk d T w HD.out.at_ (by have := HD.out.evs k hk; omega)).mono fun e w' h => ?_
  exact ⟨_, h.1, z0e h.2 B, HD.out.later h.2⟩
theorem ApM.toA {c k : Nat} {da db : Dsk} (h : ApM c da db) (hk : k ≠ c) (T : Nat -> Int) : ApM c (evTo da k T) db := by
 unfold evTo
 split
 ·exact h.evA hk T
 ·exact h
theorem ApM.toB {c : Nat} {da db : Dsk} (h : ApM c da db) (T : Nat -> Int) : ApM c (evTo da c T) (evTo db c T) := by
 unfold evTo
 rw [h.same.evs]
 split
 ·exact h.evB T
 ·exact h
def Dn.said (x : Dn) : Array Value := #[A E x.s.bf, A E x.s.num, x.v, A E x.s.steps]
def zY3 (l : List Dn) : List Value := (l.map fun x => x.said.toList).flatten
theorem zYf (l : List Dn) (x : Dn) : zY3 (l ++ [x]) = zY3 l ++ x.said.toList := by simp [zY3]
theorem zYa : ∀ (ds : List Dn) (q j : Nat) (x : Dn), ds[q]? = some x -> j < 4 -> (zY3 ds)[q * 4 + j]? = x.said.toList[j]?
 | [], q, j, x, h, _ => by simp at h
 | y :: ds, 0, j, x, h, hj => by
  have e : y = x := by simpa using h
  subst e
  have e1 : zY3 (y :: ds) = y.said.toList ++ zY3 ds := rfl
  rw [e1, Nat.zero_mul, Nat.zero_add, List.getElem?_append_left (by show j < 4; exact hj)]
 | y :: ds, q + 1, j, x, h, hj => by
  have e1 : zY3 (y :: ds) = y.said.toList ++ zY3 ds := rfl
  have hl : y.said.toList.length = 4 := rfl
  rw [e1, List.getElem?_append_right (by omega), hl, show (q + 1) * 4 + j - 4 = q * 4 + j by omega]
  exact zYa ds q j x (by simpa using h) hj
def fl (c : Nat) (ds : List Dn) : List Dn := ds.filter fun x => x.k == c
theorem zYt {c q : Nat} {ds : List Dn} {y : Dn} (h : ds[q]? = some y) : fl c (ds.take (q + 1)) = if y.k = c then fl c (ds.take q) ++ [y] else fl c (ds.take q) := by
 rw [List.take_add_one, h]
 unfold fl
 rw [List.filter_append]
 by_cases e : y.k = c
 ·rw [if_pos e]; simp [e]
 ·rw [if_neg e]; simp [e]
theorem zYk (c : Nat) : ∀ ds : List Dn, (fl c ds).map Dn.s = ofH c (dnL ds)
 | [] => rfl
 | x :: ds => by
  have e1 : dnL (x :: ds) = (x.k, x.s) :: dnL ds := rfl
  have ih := zYk c ds
  unfold fl at ih ⊢
  rw [e1, ofH, List.filter_cons]
  by_cases e : x.k = c
  ·rw [if_pos (by simpa using e), if_pos e, List.map_cons, ih]
  ·rw [if_neg (by simpa using e), if_neg e, ih]
theorem zZ7 (c : Nat) (ds : List Dn) : (fl c ds).length <= ds.length := List.length_filter_le _ _
theorem zZ6 {c : Nat} {ds : List Dn} {x : Dn} (h : x ∈ fl c ds) : x ∈ ds := (List.mem_filter.1 h).1
def zY5 (xs : List St) (j : Nat) : Bool := decide (60 < xs.length) || (xs.take j).any fun s => s.c == 27 && s.n == 2
theorem zYo {xs : List St} {j : Nat} (h : j < xs.length) : zY5 xs (j + 1) = (zY5 xs j || ((nth xs j).c == 27 && (nth xs j).n == 2)) := by
 unfold zY5 nth
 rw [List.take_add_one, List.getElem?_eq_getElem h, List.any_append]
 simp [Bool.or_assoc]
theorem zYv {xs : List St} (h : zY5 xs xs.length = false) : xs.length <= 60 /\ Deaf xs := by
 unfold zY5 at h
 rw [Bool.or_eq_false_iff, decide_eq_false_iff_not, List.take_length] at h
 refine ⟨by omega, fun j hj e => ?_⟩
 have h2 := List.any_eq_false.1 h.2 (nth xs j) (zZc hj)
 apply h2
 rw [e.1, e.2]
 rfl
theorem zYl {w : World} {base cap gu q : Nat} {l : List Dn} {x : Dn} (h : w.ownsRow base 75 4 (.slice (some ⟨gu, 0, none⟩) l.length cap) l.length (zY3 l)) (hq : l[q]? = some x) : w.cell? ⟨gu, q * 4, none⟩ = some (A E x.s.bf) /\ w.cell? ⟨gu, q * 4 + 1, none⟩ = some (A E x.s.num) /\ w.cell? ⟨gu, q * 4 + 2, none⟩ = some x.v /\ w.cell? ⟨gu, q * 4 + 3, none⟩ = some (A E x.s.steps) := by
 have hl := (List.getElem?_eq_some_iff.1 hq).1
 have e : ∀ j, j < 4 -> w.cell? ⟨gu, q * 4 + j, none⟩ = x.said.toList[j]? := fun j hj => by
  rw [World.ownsRow.cellAt h (q * 4 + j) (by omega), zYa l q j x hq hj]
 exact ⟨e 0 (by decide), e 1 (by decide), e 2 (by decide), e 3 (by decide)⟩
end
section
open Go.ChangeShapes Go.WideShapes Go.ChangeAt Go.RowKit
attribute [local simp] z00 z0d z07
theorem Tryz.infoSd : (Tryz.prog.info? 75).map (fun i => (i.zero, i.size, i.bytes)) = some (some (.agg #[A E 0, A E 0, .slice none 0 0, A E 0]), 4, 48) := by kernel_rfl
theorem zY6 {w w' : World} {base n z : Nat} {e : TypeId} {v : Value} {xs : List Value} (h : w.ownsRow base e z v n xs) (hb : Below w.heap.size w w') : w'.ownsRow base e z v n xs :=
 World.ownsRow.kept h (z0e hb w.heap.size) (Or.inr fun e => by have := (World.ownsRow.lt h _ e).2; omega)
theorem zZa {w w' : World} {base n z B : Nat} {e : TypeId} {v : Value} {xs : List Value} (h : w.ownsRow base e z v n xs) (hk : Kept B w w') (hB : B < base) : w'.ownsRow base e z v n xs :=
 World.ownsRow.kept h hk (Or.inr fun e => by have := (World.ownsRow.lt h _ e).1; omega)
theorem zYs {w w' : World} {b1 b2 n1 n2 z1 z2 : Nat} {e1 e2 : TypeId} {v1 v2 : Value} {x1 x2 : List Value} (h1 : w.ownsRow b1 e1 z1 v1 n1 x1) (h2 : w.ownsRow b2 e2 z2 v2 n2 x2) (hg : w.grownBy w' v2.ownBlock) (hu : ∀ k, v1.ownBlock = some k -> k < b2) : w'.ownsRow b1 e1 z1 v1 n1 x1 := by
 refine World.ownsRow.kept h1 hg ?_
 cases h : v1.ownBlock with
 | none => exact Or.inl rfl
 | some k => exact Or.inr fun e => by have h3 := hu k h; have h4 := (World.ownsRow.lt h2 k e.symm).1; omega
theorem zYb {w : World} {g : Nat} {y : Dn} {t : TypeId} (h : w.heap[g]? = some (cT y.cells.toArray t (0, 0))) : w.rangeAt g 1 y.said.toList := fun j v hv => by
 have hj : j < 4 := by have := (List.getElem?_eq_some_iff.1 hv).1; simpa [Dn.said] using this
 rw [cell_of_row w g (1 + j) _ _ _ h, <- hv]
 rcases (show j = 0 \/ j = 1 \/ j = 2 \/ j = 3 by omega) with rfl | rfl | rfl | rfl <;> rfl
theorem zYg {y : Dn} (h : y.v.oneCell' = true) : ∀ u ∈ y.said.toList, u.oneCell' = true := by
 intro u hu
 unfold Dn.said at hu
 simp only [List.mem_cons, List.not_mem_nil, or_false] at hu
 rcases hu with rfl | rfl | rfl | rfl
 ·rfl
 ·rfl
 ·exact h
 ·rfl
structure LSt (w : World) (Ba Bb : Nat) (da db : Dsk) (M : Int) (c b0 b1 : Nat) (vd : Value) (ds : List Dn) (q : Nat) (v : Value) (wr : World) : Prop where
 ap : Ap2 w Ba Bb da db M wr
 own : wr.ownsRow b0 77 5 vd ds.length (z2k ds)
 u : wr.ownsRow b1 75 4 v (fl c (ds.take q)).length (zY3 (fl c (ds.take q)))
 sz : b1 <= wr.heap.size
section
variable {w : World} {Ba Bb : Nat} {da db : Dsk} {M : Int} {c b0 b1 : Nat} {vd : Value} {ds : List Dn} {q : Nat} {v : Value} {wr : World}
theorem LSt.later {wr' : World} (h : LSt w Ba Bb da db M c b0 b1 vd ds q v wr) (hb : Below wr.heap.size wr wr') : LSt w Ba Bb da db M c b0 b1 vd ds q v wr' := ⟨h.ap.later hb, zY6 h.own hb, zY6 h.u hb, Nat.le_trans h.sz hb.size⟩
theorem LSt.skip {y : Dn} (h : LSt w Ba Bb da db M c b0 b1 vd ds q v wr) (hy : ds[q]? = some y) (hc : y.k ≠ c) : LSt w Ba Bb da db M c b0 b1 vd ds (q + 1) v wr := ⟨h.ap, h.own, by rw [zYt hy, if_neg hc]; exact h.u, h.sz⟩
theorem LSt.put {y : Dn} {v' : Value} {wr' : World} (h : LSt w Ba Bb da db M c b0 b1 vd ds q v wr) (hy : ds[q]? = some y) (hc : y.k = c) (hla : zC8 b1 da) (hlb : zC8 b1 db) (hB : Bb < b1) (hu : wr'.ownsRow b1 75 4 v' ((fl c (ds.take q)).length + 1) (zY3 (fl c (ds.take q)) ++ y.said.toList)) (hg : wr.grownBy wr' v.ownBlock) : LSt w Ba Bb da db M c b0 b1 vd ds (q + 1) v' wr' := by
 refine ⟨h.ap.grown hg (fun b e => (World.ownsRow.lt h.u b e).1) hla hlb hB, World.ownsRow.kept h.own hg (zG3 h.own h.u (by decide)), ?_, Nat.le_trans h.sz hg.size⟩
 rw [zYt hy, if_pos hc, zYf, List.length_append, List.length_singleton]
 exact hu
theorem zYm (hl : ds.length <= 60) : (fl c (ds.take q)).length <= 60 := by
 have h1 := zZ7 c (ds.take q)
 have h2 : (ds.take q).length <= ds.length := by rw [List.length_take]; omega
 omega
end
theorem fl_get {U V : List Dn} (h : U.map Dn.s = V.map Dn.s) {j : Nat} (hj : j < U.length) : ∃ x y, U[j]? = some x /\ V[j]? = some y /\ x.s = y.s := by
 have hl : U.length = V.length := by have := congrArg List.length h; rwa [List.length_map, List.length_map] at this
 refine ⟨U[j], V[j]'(by omega), List.getElem?_eq_getElem hj, List.getElem?_eq_getElem _, ?_⟩
 have e : (U.map Dn.s)[j]? = (V.map Dn.s)[j]? := by rw [h]
 rw [List.getElem?_map, List.getElem?_map, List.getElem?_eq_getElem hj, List.getElem?_eq_getElem (by omega)] at e
 exact Option.some.inj e
end
section
open Go.ChangeShapes Go.WideShapes Go.ChangeAt Go.RowKit
variable {ex : Ext}
section
variable {len : Nat} {C D S O N : Nat -> Int} {R : Nat -> Bool}
end
section
variable {bk off len cap : Nat} {C D S O N : Nat -> Int} {R : Nat -> Bool} {w : World}
end
end
section
open Go.ChangeShapes Go.WideShapes Go.ChangeAt Go.RowKit
section
variable (x : St)
end
end
section
open Go.ChangeShapes Go.WideShapes Go.ChangeAt Go.RowKit
section
variable {w0 : ByteArray} {ws : List ByteArray}
end
section
variable {c d s : Int} {r : Bool} {o n : Int}
end
section
variable {len : Nat} {C D S O N : Nat -> Int} {R : Nat -> Bool}
def stAt (C D S : Nat -> Int) (R : Nat -> Bool) (O N : Nat -> Int) (i : Nat) : St := ⟨C i, D i, S i, R i, O i, N i⟩
end
end
section
open Go.ChangeShapes Go.WideShapes Go.ChangeAt Go.RowKit
variable {len : Nat} {C D S O N : Nat -> Int} {R : Nat -> Bool}
end
section
open Go.ChangeShapes Go.WideShapes Go.ChangeAt Go.RowKit
section
variable {len : Nat} {C D S O N : Nat -> Int} {R : Nat -> Bool} {ps : List ByteArray}
theorem zCe (h : ps.map z2s = (List.range len).map fun i => some (stAt C D S R O N i)) : ps.length = len := by
 have := congrArg List.length h
 simpa using this
theorem zSy (h : ps.map z2s = (List.range len).map fun i => some (stAt C D S R O N i)) : ∀ y ∈ ps, (z2s y).isSome = true := by
 intro y hy
 have h1 : z2s y ∈ ps.map z2s := List.mem_map.2 ⟨y, hy, rfl⟩
 rw [h] at h1
 obtain ⟨i, _, e⟩ := List.mem_map.1 h1
 rw [<- e]; rfl
theorem zM1 (h : ps.map z2s = (List.range len).map fun i => some (stAt C D S R O N i)) : z3g ps = (List.range len).map (stAt C D S R O N) := by
 have h1 := congrArg (List.map fun o : Option St => o.getD St.zero) h
 rw [List.map_map, List.map_map] at h1
 exact h1
theorem zK6 (h : ps.map z2s = (List.range len).map fun i => some (stAt C D S R O N i)) {j : Nat} (hj : j < len) : nth (z3g ps) j = stAt C D S R O N j := by
 unfold nth
 rw [zM1 h, List.getElem?_map, List.getElem?_range hj]
 rfl
theorem zM2 (h : ps.map z2s = (List.range len).map fun i => some (stAt C D S R O N i)) {j : Nat} (hj : j < len) : z3m (z3g ps) j = z1j len C D S R O N j := by
 unfold z3m z1j
 rw [z3q, zCe h]
 dsimp only
 rw [zK6 h hj]
 rfl
end
theorem zFy {len : Nat} {C D S O N : Nat -> Int} {R : Nat -> Bool} {w W : World} {e : Ending} {t : ByteArray} (hp : (z0t t).map z2s = (List.range len).map fun i => some (stAt C D S R O N i)) (h2 : len <= 200) (hno : ∀ j, j < len -> z1j len C D S R O N j = 0) (h : zLd w t e W) :
  ∃ g cap, e = rT (.tuple #[.slice (some ⟨g, 0, none⟩) len cap, .nilIface]) /\ Below w.heap.size w W /\ g < W.heap.size /\ z1l W g 0 len C D S R O N := by
 obtain ⟨hb, h⟩ := h
 have hall := zSy hp
 have hlen := zCe hp
 rcases h with ⟨pre, x, post, p, hps, _, hx, _⟩ | ⟨_, h⟩
 ·have h1 := hall x (by rw [hps]; simp)
  rw [hx] at h1; cases h1
 ·rcases h with ⟨h200, _⟩ | ⟨_, h⟩
  ·omega
  ·rcases h with ⟨i, p, hi, _, hf, _⟩ | ⟨_, g, cap, rfl, hrow⟩
   ·rw [zM2 hp (by omega)] at hf
    exact absurd (hno i (by omega)) hf
   ·rw [hlen] at hrow ⊢
    refine ⟨g, cap, rfl, hb, zK9 hrow, fun i hi => ?_⟩
    have hst := z7f hrow (by rw [z3q, hlen]) i hi
    dsimp only at hst
    rw [zK6 hp hi] at hst
    exact hst
end
section
open Go.ChangeShapes Go.WideShapes Go.ChangeAt Go.RowKit
end
section
open Go.RowKit Go.Extern.Stop Go.Stop Go.Extern
def zLf (w : World) : Prop := w.cell? ⟨2, 0, none⟩ = some (.iface 286 (.agg #[pT (some ⟨12, 26, none⟩)]))
end
section
open Go.ChangeShapes Go.WideShapes Go.ChangeAt Go.RowKit
attribute [local simp] z00 z0d z07
variable {ex : Ext}
end
section
open Go.ChangeShapes Go.WideShapes Go.ChangeAt Go.RowKit
attribute [local simp] z00 z0d z07
def z5p : Array Value := z27 fun _ => 0
theorem zF5 (tmps : Array Value) (w' : World) (g : Nat) (cs : Array Value) (h4 : tmps.getD 4 undef = pT (some ⟨g, 0, none⟩)) (h5 : tmps.getD 5 undef = .nilIface) (hg : w'.heap[g]? = some (cT cs 55 (0, 0))) (hs : cs.size = 16) :
  (results Tryz.f14 tmps).run tP w' = .ok (.tuple #[.agg cs, .nilIface]) w' := by
 have h4' : tmps[4]?.getD undef = pT (some ⟨g, 0, none⟩) := by simpa using h4
 have h5' : tmps[5]?.getD undef = .nilIface := by simpa using h5
 have hl := run_loadVar_row (P := tP) w' g 55 55 cs (0, 0) _ hg Tryz.underlying55 rfl (by rw [Tryz.info55, hs])
 simp [results, Tryz.results14, asAddr, h4', h5', hl]
theorem zUn (B k : Nat) (hk : k < 3) (d : Dsk) (id : Int) (p : Pg) (w : World) (hD : z0k w B d) (h8 : (d.g k).ps.length <= 8) (I : Nat) (HI : Hid (((d.g k).ps.findIdx fun p => p.id == id) = I)) (HN : Hid (I < (d.g k).ps.length)) (HP : Hid ((d.g k).ps.getD I pg0 = p)) : Calls tP 14 #[pT (some ⟨B, k * 317, none⟩), A E id] w fun e w' => e = rT (.tuple #[.agg (z27 p.tab), .nilIface]) /\ Below w.heap.size w w' := by
 have hI8 : I < 8 := by have := HN.out; omega
 have hI0 : (0 : Int) <= (I : Int) := by omega
 have hI1 : (I : Int) < 8 := by omega
 have hK0 : Blk w [(w.heap.size, cT z5p 55 (0, 0)), (B, cT (Array.ofFn (n := 952) fun i => Dsk.cell d i.1) 93 (0, 0))] (w.alloc (cT z5p 55)) := ((Blk.nil ((bF _ _).alloc (Nat.le_refl _) _)).cons ((heap_alloc_old _ _ hD.lt).trans hD)).cons (heap_alloc_new w _)
 go_enter Tryz.func14, Tryz.ntmps14
 go_upto_region 1 with fail
 change Code.wp _ _ _ _ (w.alloc (cT z5p 55))
 generalize w.alloc (cT z5p 55) = w0 at hK0 ⊢
 have hF := zTk B k hk d id w0 (hK0.2 _ (mcO _ mcS)) h8 I HI HN
 go_upto_region 4 with (first | (go_at_call 33; go_must (refine hF.mono ?_; rintro e w3 ⟨rfl, hb3⟩; have hK3 := hK0.later hb3; clear hK0 hb3)) | fail)
 go_step
 (refine z03 rfl (pT (some ⟨B, k * 317, none⟩)) w3 (by go_simp; try rfl) ?_); simp only [Act.put, siA, scZ, scS]
 (refine z03 rfl (A E (I : Int)) w3 (by go_simp; try rfl) ?_); simp only [Act.put, siA, scZ, scS]
 (refine z03 rfl (pT (some ⟨B, k * 317, none⟩)) w3 (by go_simp; try rfl) ?_); simp only [Act.put, siA, scZ, scS]
 (refine z03 rfl (pT (some ⟨B, k * 317, none⟩)) w3 (by go_simp; try rfl) ?_); simp only [Act.put, siA, scZ, scS]
 (refine z03 rfl (pT (some ⟨B, k * 317 + I * 19, none⟩)) w3 (by go_simp; try rfl) ?_); simp only [Act.put, siA, scZ, scS]
 (refine z03 rfl (pT (some ⟨B, k * 317 + I * 19 + 3, none⟩)) w3 (by go_simp; try rfl) ?_); simp only [Act.put, siA, scZ, scS]
 refine wpList_load_mid rfl 55 (.tmp 23) rfl B (k * 317 + I * 19 + 3) rfl (z27 p.tab).toList _ (by have h := zL0 (hK3.2 _ (mcO _ mcS)) hk hI8; rw [HP.out] at h; exact h) Tryz.underlying55 rfl (by rw [Tryz.info55]; rfl) ?_
 rw [Array.toArray_toList]
 simp only [Act.put, siA, scZ, scS]
 refine wpList_store_row rfl 55 (.tmp 4) (.tmp 24) rfl w.heap.size (z27 p.tab) rfl rfl 55 z5p (hK3.2 _ mcS) Tryz.info55 rfl (zA0 _) ?_
 simp only [Act.put, siA, scZ, scS]
 have hr := setRow_heap w3 w.heap.size z5p (z27 p.tab) 55 (0, 0) (hK3.2 _ mcS)
 have hb := z06 hK3.1 (Nat.le_refl _) (z27 p.tab)
 go_wp2_with fail
 exact bodyPost_ret (v := .tuple #[.agg (z27 p.tab), .nilIface]) (zF5 _ _ w.heap.size _ rfl rfl hr rfl) rfl ⟨rfl, hb⟩
end
section
open Go.ChangeShapes Go.WideShapes Go.ChangeAt Go.RowKit
variable {ex : Ext}
theorem zLg {z : Int} (h1 : 0 <= z) (h2 : z < 9223372036854775808) : wrap64 z = z := by unfold wrap64; omega
theorem zW8 (a n : Int) (hn : 0 < n) (hn2 : n <= 9223372036854775807) (w : World) : Calls tP 16 #[A E a, A E n] w fun e w' => e = rT (A E (wrap64 ((a % 18446744073709551616) % (n % 18446744073709551616)))) /\ w' = w := by
 have ha := IntKind.wrap_u64 a
 have hb := IntKind.wrap_u64 n
 go_enter Tryz.func16, Tryz.ntmps16
 go_wp2
 go_ret
 exact ⟨rfl, rfl⟩
def pickF (a : Int) (n : Nat) : Nat := ((a % 18446744073709551616) % (n : Int)).toNat
theorem zE9 (a : Int) {n : Nat} (hn : 0 < n) : pickF a n < n := by
 unfold pickF
 have h1 := Int.emod_nonneg (a % 18446744073709551616) (show (n : Int) ≠ 0 by omega)
 have h2 := Int.emod_lt_of_pos (a % 18446744073709551616) (show (0 : Int) < (n : Int) by omega)
 omega
theorem zPj (a : Int) (n : Nat) (hn : 0 < n) (hn2 : n <= 1000) (w : World) : Calls tP 16 #[A E a, A E (n : Int)] w fun e w' => e = rT (A E (pickF a n : Int)) /\ w' = w := by
 have h := zW8 a n (by omega) (by omega) w
 have e : wrap64 ((a % 18446744073709551616) % ((n : Int) % 18446744073709551616)) = (pickF a n : Int) := by
  have h1 := Int.emod_nonneg (a % 18446744073709551616) (show (n : Int) ≠ 0 by omega)
  have h2 := Int.emod_lt_of_pos (a % 18446744073709551616) (show (0 : Int) < (n : Int) by omega)
  rw [Int.emod_eq_of_lt (a := (n : Int)) (by omega) (by omega), zLg h1 (by omega)]
  unfold pickF
  omega
 rw [e] at h
 exact h
def hkB : ByteArray := ⟨#[109, 111, 118, 32, 114, 49, 32, 48, 59, 32, 99, 97, 108, 108, 32, 102, 105, 110, 100, 59, 32, 106, 101, 113, 32, 114, 48, 32, 48, 32, 51, 59, 32, 108, 111, 97, 100, 32, 114, 50, 32, 91, 114, 48, 43, 48, 93, 59, 32, 97, 100, 100, 32, 114, 50, 32, 49, 59, 32, 115, 116, 111, 114, 101, 32, 91, 114, 48, 43, 48, 93, 32, 114, 50, 59, 32, 109, 111, 118, 32, 114, 48, 32, 48, 59, 32, 101, 120, 105, 116]⟩
def hkL : List St := [⟨1, 1, 0, false, 0, 0⟩, ⟨27, 0, 0, false, 0, 1⟩, ⟨15, 0, 0, false, 3, 0⟩, ⟨25, 2, 0, false, 0, 0⟩, ⟨2, 2, 0, false, 0, 1⟩, ⟨26, 0, 2, true, 0, 0⟩, ⟨1, 0, 0, false, 0, 0⟩, ⟨28, 0, 0, false, 0, 0⟩]
def hkC (i : Nat) : Int := (nth hkL i).c
def hkD (i : Nat) : Int := (nth hkL i).d
def hkS (i : Nat) : Int := (nth hkL i).s
def hkR (i : Nat) : Bool := (nth hkL i).r
def hkO (i : Nat) : Int := (nth hkL i).o
def hkN (i : Nat) : Int := (nth hkL i).n
theorem zQn : (z0t hkB).map z2s = (List.range 8).map fun i => some (stAt hkC hkD hkS hkR hkO hkN i) := by kernel_rfl
theorem zQo : ∀ j, j < 8 -> z1j 8 hkC hkD hkS hkR hkO hkN j = 0 := by
 intro j hj
 rcases (by omega : j = 0 \/ j = 1 \/ j = 2 \/ j = 3 \/ j = 4 \/ j = 5 \/ j = 6 \/ j = 7) with rfl | rfl | rfl | rfl | rfl | rfl | rfl | rfl <;> decide
theorem hk_64 : ∀ j, j < 8 -> In64 (nth hkL j).o /\ In64 (nth hkL j).n := by
 intro j hj
 rcases (by omega : j = 0 \/ j = 1 \/ j = 2 \/ j = 3 \/ j = 4 \/ j = 5 \/ j = 6 \/ j = 7) with rfl | rfl | rfl | rfl | rfl | rfl | rfl | rfl <;> (unfold In64; decide)
theorem zWs (he : ∀ w, ex.holds w -> z36 w) (hu : ∀ w, ex.holds w -> Lib.Utf8Tabs 4 5 w) (w : World) (hT : Tabs ex w) : Calls tP 34 #[.string ⟨#[109, 111, 118, 32, 114, 49, 32, 48, 59, 32, 99, 97, 108, 108, 32, 102, 105, 110, 100, 59, 32, 106, 101, 113, 32, 114, 48, 32, 48, 32, 51, 59, 32, 108, 111, 97, 100, 32, 114, 50, 32, 91, 114, 48, 43, 48, 93, 59, 32, 97, 100, 100, 32, 114, 50, 32, 49, 59, 32, 115, 116, 111, 114, 101, 32, 91, 114, 48, 43, 48, 93, 32, 114, 50, 59, 32, 109, 111, 118, 32, 114, 48, 32, 48, 59, 32, 101, 120, 105, 116]⟩] w fun e w' => ∃ v, e = rT v /\ ∃ g cp, v = .tuple #[.slice (some ⟨g, 0, none⟩) 8 cp, .nilIface] /\ Below w.heap.size w w' /\ LsAt w' (.slice (some ⟨g, 0, none⟩) 8 cp) hkL :=
 (zTg he hu hkB (by decide) w hT).mono fun e w' hre => by
  obtain ⟨g, cp, h1, h2, h3, h4⟩ := zFy zQn (by decide) zQo hre
  exact ⟨_, h1, g, cp, rfl, h2, ⟨⟨_, cp, rfl, Or.inr ⟨g, 0, rfl, h3, h4⟩⟩, hk_64⟩⟩
theorem zWt : Lets hkL := ⟨by decide, by decide, fun j hj => zQo j hj, [⟨1, 0, 0⟩, ⟨1, 0, 0⟩], by kernel_rfl⟩
def hkD0 : Dsk := z44 (fun _ => 5) 3
def hkPg (sl : Value) : Pg := ⟨1, 3, sl, hkL, fun _ => 0⟩
def hkD1 (sl : Value) : Dsk := hkD0.put 1 { hkD0.g 1 with ps := [hkPg sl], last := 1 }
def hkT : Nat -> Int := fun _ => 0
def hkEv (d : Dsk) : Dsk := d.put 1 { d.g 1 with evs := (d.g 1).evs ++ [hkT] }
def hkD3 (sl : Value) : Dsk := hkEv (hkEv (hkD1 sl))
theorem zU9 (sl : Value) : ((z0g 3 (hkD3 sl)).2.map fun x => (x.1, x.2.steps)) = [(1, 8)] /\ ((z0g 3 (hkD3 sl)).1.g 1).evs.length = 1 /\ ((z0g 3 (hkD3 sl)).1.g 1).left = -4 /\ ((z0g 3 (hkD3 sl)).1.g 1).ps.length = 1 /\ (((z0g 3 (hkD3 sl)).1.g 1).ps.getD 0 pg0).id = 1 /\ (((z0g 3 (hkD3 sl)).1.g 1).ps.getD 0 pg0).tab 0 = 1 := ⟨by kernel_rfl, by kernel_rfl, by kernel_rfl, by kernel_rfl, by kernel_rfl, by kernel_rfl⟩
end
section
open Go.ChangeShapes Go.WideShapes Go.ChangeAt Go.RowKit
attribute [local simp] z00 z0d z07
variable {ex : Ext}
theorem one_of {ds : List Dn} (h : (ds.map fun x => (x.k, x.s.steps)) = [(1, 8)]) : ∃ x, ds = [x] /\ x.s.steps = 8 := by
 rcases ds with _ | ⟨x, _ | ⟨y, r⟩⟩
 ·exact absurd h (by simp)
 ·exact ⟨x, rfl, congrArg Prod.snd (List.cons.inj h).1⟩
 ·exact absurd (congrArg List.length h) (by simp)
theorem zWu (sl : Value) : ∀ k, k < 3 -> ((hkD3 sl).g k).left <= 0 := by
 intro k hk
 rcases (by omega : k = 0 \/ k = 1 \/ k = 2) with rfl | rfl | rfl <;> exact Int.le_refl _
theorem zUa (sl : Value) : (((z0g 3 (hkD3 sl)).1.g 1).ps.findIdx fun p => p.id == 1) = 0 := by kernel_rfl
theorem hk_ok (w : World) (B : Nat) (sl : Value) (hD : z0k w B (hkD3 sl)) (hq : PgOk w B (hkPg sl)) : DOk w B (hkD3 sl) 1 := by
 refine ⟨hD, ?_, ?_, ?_, ?_, ?_, ?_, ?_, ?_, ?_, ?_, by show (0 : Int) <= 0; decide, by show (0 : Int) <= 1; decide⟩ <;> intro k hk <;> rcases (by omega : k = 0 \/ k = 1 \/ k = 2) with rfl | rfl | rfl
 ·exact fun p hp => absurd hp (by exact List.not_mem_nil)
 ·exact fun p hp => by rw [List.mem_singleton.1 (show p ∈ [hkPg sl] from hp)]; exact hq
 ·exact fun p hp => absurd hp (by exact List.not_mem_nil)
 ·show 0 <= 8; decide
 ·show 1 <= 8; decide
 ·show 0 <= 8; decide
 ·show 0 <= 20; decide
 ·show 2 <= 20; decide
 ·show 0 <= 20; decide
 ·exact fun T hp => absurd hp (by exact List.not_mem_nil)
 ·intro T hp i _
  have : T ∈ [hkT, hkT] := hp
  have e : T = hkT := by simpa using this
  rw [e]
  exact ⟨by show (-9223372036854775808 : Int) <= 0; decide, by show (0 : Int) <= 9223372036854775807; decide⟩
 ·exact fun T hp => absurd hp (by exact List.not_mem_nil)
 ·show (1 : Int) <= 5; decide
 ·show (1 : Int) <= 5; decide
 ·show (1 : Int) <= 5; decide
 ·show (5 : Int) <= 1000; decide
 ·show (5 : Int) <= 1000; decide
 ·show (5 : Int) <= 1000; decide
 ·show (-1601 : Int) <= 0; decide
 ·show (-1601 : Int) <= 0; decide
 ·show (-1601 : Int) <= 0; decide
 ·show (0 : Int) <= 2000; decide
 ·show (0 : Int) <= 2000; decide
 ·show (0 : Int) <= 2000; decide
 ·show (0 : Int) <= 0; decide
 ·show (0 : Int) <= 1; decide
 ·show (0 : Int) <= 0; decide
 ·show (0 : Int) <= 1; decide
 ·show (1 : Int) <= 1; decide
 ·show (0 : Int) <= 1; decide
theorem zJ7 (he : ∀ w, ex.holds w -> z36 w) (hu : ∀ w, ex.holds w -> Lib.Utf8Tabs 4 5 w) (w : World) (hT : Tabs ex w) : Calls tP 15 #[] w fun e w' => e = rT (.bool true) /\ Below w.heap.size w w' := by
 go_enter Tryz.func15, Tryz.ntmps15
 go_upto_region 1 with fail
 go_step
 refine z0p rfl 34 #[.string ⟨#[109, 111, 118, 32, 114, 49, 32, 48, 59, 32, 99, 97, 108, 108, 32, 102, 105, 110, 100, 59, 32, 106, 101, 113, 32, 114, 48, 32, 48, 32, 51, 59, 32, 108, 111, 97, 100, 32, 114, 50, 32, 91, 114, 48, 43, 48, 93, 59, 32, 97, 100, 100, 32, 114, 50, 32, 49, 59, 32, 115, 116, 111, 114, 101, 32, 91, 114, 48, 43, 48, 93, 32, 114, 50, 59, 32, 109, 111, 118, 32, 114, 48, 32, 48, 59, 32, 101, 120, 105, 116]⟩] (by go_simp; try rfl) (zWs he hu w hT) ?_
 rintro v w1 ⟨g, cp, rfl, hb1, hL1⟩
 simp only [Act.put, siA, scZ, scS]
 go_upto_region 2 with fail
 go_step
 (refine z03 rfl (.agg #[A E 5, A E 5, A E 5]) w1 (by go_simp; try rfl) ?_); simp only [Act.put, siA, scZ, scS]
 refine z0p rfl 6 #[.agg #[A E 5, A E 5, A E 5]] (by go_simp; try rfl) (R := fun v w' => v = .tuple #[pT (some ⟨(w1.heap.size + 1), 0, none⟩), .nilIface] /\ Below w1.heap.size w1 w' /\ z0k w' (w1.heap.size + 1) hkD0) ((zQm (fun _ => 5) (fun _ _ => by decide) (fun _ _ => by decide) w1).mono fun e w' ⟨h1, h2⟩ => ⟨_, h1, rfl, h2⟩) ?_
 rintro v w2 ⟨rfl, hb2, hD2⟩
 simp only [Act.put, siA, scZ, scS]
 have hL2 := hL1.later hb2
 have hlow := hL1.low (by decide)
 have hbw2 := hb1.trans (hb2.mono hb1.size)
 have hs2 := hD2.lt
 have hs1 := hb1.size
 clear hL1 hb1 hb2
 generalize hB : (w1.heap.size + 1) = B at hD2 hs2 ⊢
 go_upto_region 8 with (first | (go_at_call 10; go_must (refine (zGo B 1 (by decide) _).mono ?_; rintro e w3 ⟨rfl, rfl⟩)) | fail)
 go_step
 (refine z03 rfl (pT (some ⟨B, 317, none⟩)) w3 (by go_simp; try rfl) ?_); simp only [Act.put, siA, scZ, scS]
 (refine z03 rfl (.slice (some ⟨g, 0, none⟩) 8 cp) w3 (by go_simp; try rfl) ?_); simp only [Act.put, siA, scZ, scS]
 refine z0p rfl 18 #[pT (some ⟨B, 317, none⟩), .slice (some ⟨g, 0, none⟩) 8 cp, A E 3] (by go_simp; try rfl) (R := fun v w' => v = .tuple #[A E 1, .nilIface] /\ Kept B w3 w' /\ ∃ sl, PgOk w' B (hkPg sl) /\ z0k w' B (hkD1 sl)) ((zD1 B 1 0 (by decide) hkD0 _ hkL 3 w3 hD2 rfl (by decide) hL2 zWt (fun k _ p hp => absurd hp (by exact List.not_mem_nil)) (fun a n c e => by have := hlow a n c e; omega) (by decide) (by decide)).mono fun e w' h => by
  obtain ⟨h1, h2, q, q1, q2, q3, q4, q5, q6⟩ := h
  have eq : q = hkPg q.sl := by rcases q with ⟨a1, a2, a3, a4, a5⟩; dsimp only at q1 q2 q3 q4; rw [q1, q2, q3, q4]; rfl
  rw [eq] at q5 q6
  exact ⟨_, h1, rfl, h2, q.sl, q5, q6⟩) ?_
 rintro v w4 ⟨rfl, hk4, sl, hq4, hD4⟩
 simp only [Act.put, siA, scZ, scS]
 have hbw4 := Kept.below hbw2 hk4 (by omega)
 clear hbw2 hL2 hD2 hs2
 go_upto_region 11 with (first | (go_at_call 17; refine (zB3 B 1 0 (by decide) (hkD1 sl) hkT _ hD4 rfl (by decide)).mono ?_; rintro e w5 ⟨rfl, hk5, hD5⟩) | (go_at_call 17; go_must (refine (zB3 B 1 1 (by decide) (hkEv (hkD1 sl)) hkT _ hD5 rfl (by decide)).mono ?_; rintro e w6 ⟨rfl, hk6, hD6⟩)) | fail)
 have hk46 : Kept B w4 w6 := z1t hk5 hk6
 have hbw6 := Kept.below hbw4 hk46 (by omega)
 have hO6 : DOk w6 B (hkD3 sl) 1 := hk_ok w6 B sl hD6 (hq4.kept hk46)
 clear hD5 hk5 hk6 hk46 hbw4 hD4 hq4 hk4 hD6
 have hR := zGn B (hkD3 sl) 1 (by decide) (by decide) w6 hO6 (zWu sl)
 have rds := zU9 sl
 have hpl := zUa sl
 clear hO6
 generalize z0g 3 (hkD3 sl) = RR at hR rds hpl
 obtain ⟨rd1, rd2, rd3, rd4, rd5, rd6⟩ := rds
 go_step
 (refine z03 rfl (pT (some ⟨B, 0, none⟩)) w6 (by go_simp; try rfl) ?_); simp only [Act.put, siA, scZ, scS]
 refine z0p rfl 19 #[pT (some ⟨B, 0, none⟩)] (by go_simp; try rfl) (R := fun vd w' => ∃ ds, Kept B w6 w' /\ DOk w' B RR.1 (1 + 60) /\ DnAt w' w6.heap.size vd ds /\ (ds.map fun x => (x.k, x.s)) = RR.2 /\ ds.length <= 60) (hR.mono fun e w' ⟨vd, ds, h1, h2⟩ => ⟨vd, h1, ds, h2⟩) ?_
 rintro vd w7 ⟨ds, hk7, hO7, hd7, hm7, -⟩
 simp only [Act.put, siA, scZ, scS]
 obtain ⟨x, hx, hxs⟩ := one_of (ds := ds) (by have e := congrArg (List.map fun x : Nat × Sd => (x.1, x.2.steps)) hm7; rw [rd1, List.map_map] at e; exact e)
 subst hx
 have hbw7 := Kept.below hbw6 hk7 (by omega)
 obtain ⟨gd, cpd, rfl⟩ : ∃ gd cpd, vd = .slice (some ⟨gd, 0, none⟩) 1 cpd := by
  rcases rowShape hd7.1 with ⟨-, e⟩ | ⟨g, c, e⟩
  ·exact absurd e (Nat.succ_ne_zero 0)
  ·exact ⟨g, c, e⟩
 have cs7 : w7.cell? ⟨gd, 4, none⟩ = some (A E 8) := by rw [World.ownsRow.cellAt hd7.1 4 (by decide)]; show some (Value.int .i64 x.s.steps) = _; rw [hxs]
 have hgd : gd < w7.heap.size := (World.ownsRow.lt hd7.1 gd rfl).2
 clear hm7 hd7 hbw6 hk7
 obtain ⟨P, hP⟩ : ∃ P, (RR.1.g 1).ps.getD 0 pg0 = P := ⟨_, rfl⟩
 go_upto_region 12 with fail
 go_step
 (refine z03 rfl (pT (some ⟨B, 317, none⟩)) w7 (by go_simp; try rfl) ?_); simp only [Act.put, siA, scZ, scS]
 refine z0m rfl 14 #[pT (some ⟨B, 317, none⟩), A E 1] (by go_simp; try rfl) (.tuple #[.agg (z27 P.tab), .nilIface]) (zUn B 1 (by decide) RR.1 1 P w7 hO7.at_ (by rw [rd4]; decide) 0 hpl (show 0 < _ by rw [rd4]; decide) hP) ?_
 intro w8 hb8
 simp only [Act.put, siA, scZ, scS]
 (refine z03 rfl (.tuple #[.agg (z27 P.tab), .nilIface]) w8 (by go_simp; try rfl) ?_); simp only [Act.put, siA, scZ, scS]
 (refine z03 rfl (.agg (z27 P.tab)) w8 (by go_simp; try rfl) ?_); simp only [Act.put, siA, scZ, scS]
 (refine z03 rfl (.nilIface) w8 (by go_simp; try rfl) ?_); simp only [Act.put, siA, scZ, scS]
 (refine z03 rfl (pT (some ⟨w8.heap.size, 0, none⟩)) (w8.alloc (cT z5p 55)) (by go_simp; try rfl) ?_); simp only [Act.put, siA, scZ, scS]
 refine wpList_store_row rfl 55 (.tmp 8) (.tmp 68) rfl w8.heap.size (z27 P.tab) rfl rfl 55 z5p (heap_alloc_new w8 _) Tryz.info55 rfl (zA0 _) ?_
 simp only [Act.put, siA, scZ, scS]
 have hb9 : Below w7.heap.size w7 ((w8.alloc (cT z5p 55)).setRow w8.heap.size (z27 P.tab)) := z06 (hb8.alloc hb8.size _) hb8.size _
 have ct := setRow_heap _ w8.heap.size z5p (z27 P.tab) 55 (0, 0) (heap_alloc_new w8 (cT z5p 55))
 generalize (w8.alloc (cT z5p 55)).setRow w8.heap.size (z27 P.tab) = w9 at hb9 ct ⊢
 generalize w8.heap.size = b8 at ct ⊢
 have hbw9 := hbw7.trans (hb9.mono hbw7.size)
 have hO9 := hO7.later hb9
 have c9 := (hb9.cell (p := ⟨gd, 4, none⟩) hgd).trans cs7
 have ct0 : w9.cell? ⟨b8, 0, none⟩ = some (A E 1) := by rw [cell_of_row w9 b8 0 _ _ _ ct]; show some (Value.int .i64 (P.tab 0)) = _; rw [<- hP, rd6]
 have hw9 := zB2 B 1 (by decide) _ w9 hO9.at_
 have hl9 := zU8 B 1 (by decide) _ w9 hO9.at_
 rw [rd2] at hw9
 rw [rd3] at hl9
 have HW : Hid (Calls tP 11 #[pT (some ⟨B, 0, none⟩), A E 1] w9 fun e w' => e = rT (A E 1) /\ w' = w9) := hw9
 have HLe : Hid (Calls tP 12 #[pT (some ⟨B, 0, none⟩), A E 1] w9 fun e w' => e = rT (A E (-4)) /\ w' = w9) := hl9
 clear hw9 hl9 hO9 hO7 hb9 cs7 hbw7 rd1 rd2 rd3 rd4 rd5 rd6 ct hb8
 go_upto_region 13 with fail
 go_wp2_with (first | (go_at_call 11; go_must (refine HW.out.mono ?_; rintro e w10 ⟨rfl, rfl⟩)) | (go_at_call 12; go_must (refine HLe.out.mono ?_; rintro e w10 ⟨rfl, rfl⟩)) | fail)
 go_ret
 exact ⟨rfl, hbw9⟩
end
section
open Go.ChangeShapes Go.WideShapes Go.ChangeAt Go.RowKit
theorem z5i (j : Nat) : Value.int .i64 ((j : Int) + 1) = A E ((j + 1 : Nat) : Int) := rfl
theorem zZ5 {w : World} {B : Nat} {mv : Nat -> Int} (hD : z0k w B (z44 mv 3)) (hm : ∀ k, k < 3 -> 1 <= mv k /\ mv k <= 60) : DOk w B (z44 mv 3) 0 := by
 have e : ∀ k, k < 3 -> (z44 mv 3).g k = ⟨[], 0, [], mv k, 0⟩ := fun k hk => by unfold z44; dsimp only; rw [if_pos hk]
 refine ⟨hD, ?_, ?_, ?_, ?_, ?_, ?_, ?_, ?_, ?_, ?_, Int.le_refl _, Int.le_refl _⟩ <;> intro k hk <;> rw [e k hk]
 ·exact fun p hp => absurd hp List.not_mem_nil
 ·exact Nat.zero_le _
 ·exact Nat.zero_le _
 ·exact fun T hp => absurd hp List.not_mem_nil
 ·exact (hm k hk).1
 ·have := (hm k hk).2; show mv k <= 1000; omega
 ·show (-1601 : Int) <= 0; decide
 ·show (0 : Int) <= 2000; decide
 ·exact Int.le_refl _
 ·exact Int.le_refl _
theorem ac_one {w : World} {x : Ac} (h : LsAt w x.code x.xs) : x.cs.all (·.oneCell') = true := by
 obtain ⟨a, cap, e, -⟩ := h.lies
 unfold Ac.cs
 rw [e]
 kernel_rfl
theorem zPv (w : World) (old cs : Array Value) (t : TypeId) : Below w.heap.size w ((w.alloc (cT old t)).setRow w.heap.size cs) /\ ((w.alloc (cT old t)).setRow w.heap.size cs).heap[w.heap.size]? = some (cT cs t (0, 0)) :=
 ⟨z06 ((bF _ _).alloc (Nat.le_refl _) _) (Nat.le_refl _) _, setRow_heap _ _ old cs t (0, 0) (heap_alloc_new _ _)⟩
def dnZ : Array Value := #[A E 0, A E 0, A E 0, .slice none 0 0, A E 0]
theorem zZ8 {y : Dn} (h : y.v.oneCell' = true) : y.cells.toArray.all (·.oneCell') = true := by
 unfold Dn.cells
 simpa [Value.oneCell'] using h
theorem zY0 {w : World} {g : Nat} {x : Ac} {t : TypeId} (h : w.heap[g]? = some (cT x.cs t (0, 0))) : w.rangeAt g 4 (z0o x.T).toList := fun j v hv => by
 have hj : j < 8 := by have := (List.getElem?_eq_some_iff.1 hv).1; simpa [z0o] using this
 rw [cell_of_row w g (4 + j) _ _ _ h, <- hv]
 rcases (show j = 0 \/ j = 1 \/ j = 2 \/ j = 3 \/ j = 4 \/ j = 5 \/ j = 6 \/ j = 7 by omega) with rfl | rfl | rfl | rfl | rfl | rfl | rfl | rfl <;> rfl
end
end Go.Proofs.YtbimlalhodibjaaGreatDoor
