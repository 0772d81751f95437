/-
 What a chain's Attach returns, and what it writes: a program is put in by its rank. Conditions: the desk lies in memory; the list of steps lies elsewhere. Attach where the program is not let in, or there are eight; Event where twenty wait; where a program of a number stands, and its table. Conditions: the desk lies in memory. A list of a desk's acts as it lies in memory. Conditions: none. A round of a desk, on plain numbers: each gate in turn lets events go through while it has something left. What holds of a desk that is right, and that a round keeps it. Conditions: said.
-/
import Derived.Test.YtbimlalhodibjaaGreatDoorJf22
set_option maxHeartbeats 40000000
open Go.Value renaming int → A
open Go.IntKind renaming i64 → D
open Go.RowKit.Below renaming alloc → bA, setCell → bS, drew → bD, refl → bF
set_option maxRecDepth 1000000
set_option linter.defProp false
set_option linter.unusedVariables false
set_option linter.unusedSimpArgs false
open Go.Ending renaming returned → rT
open Go.Value renaming pointer → pT
open Go.Obj renaming cells → cT
open Go.Proofs.Tryz renaming prog → tP
open List renaming length_cons → lQ
namespace Go.Proofs.YtbimlalhodibjaaGreatDoor
open Go.ChangeShapes Go.WideShapes Go.ChangeAt Go.RowKit
section
attribute [local simp] z00 z0d z07
def pgCs (p : Pg) : Array Value := #[A D p.id, A D p.rank, p.sl, A D (p.tab 0), A D (p.tab 1), A D (p.tab 2), A D (p.tab 3), A D (p.tab 4), A D (p.tab 5), A D (p.tab 6), A D (p.tab 7), A D (p.tab 8), A D (p.tab 9), A D (p.tab 10), A D (p.tab 11), A D (p.tab 12), A D (p.tab 13), A D (p.tab 14), A D (p.tab 15)]
theorem zTl (p : Pg) {j : Nat} (hj : j < 19) : (pgCs p).toList.getD j undef = zAi p j := by
 rcases (show j = 0 \/ j = 1 \/ j = 2 \/ j = 3 \/ j = 4 \/ j = 5 \/ j = 6 \/ j = 7 \/ j = 8 \/ j = 9 \/ j = 10 \/ j = 11 \/ j = 12 \/ j = 13 \/ j = 14 \/ j = 15 \/ j = 16 \/ j = 17 \/ j = 18 by omega) with rfl | rfl | rfl | rfl | rfl | rfl | rfl | rfl | rfl | rfl | rfl | rfl | rfl | rfl | rfl | rfl | rfl | rfl | rfl <;> rfl
def Pg.ins (ps : List Pg) (i : Nat) (q : Pg) : List Pg := ps.take i ++ q :: ps.drop i
theorem zD0 (ps : List Pg) {i : Nat} (q : Pg) (h : i <= ps.length) : (Pg.ins ps i q).length = ps.length + 1 := by
 unfold Pg.ins
 rw [List.length_append, lQ, List.length_take, List.length_drop]
 omega
theorem zU6 (ps : List Pg) {i : Nat} (q z : Pg) (h : i <= ps.length) (m : Nat) : (Pg.ins ps i q).getD m z = if m < i then ps.getD m z else if m = i then q else ps.getD (m - 1) z := by
 unfold Pg.ins
 have hl : (ps.take i).length = i := by rw [List.length_take]; omega
 simp only [List.getD_eq_getElem?_getD]
 by_cases c : m < i
 ·rw [if_pos c, List.getElem?_append_left (by omega), List.getElem?_take_of_lt c]
 ·rw [if_neg c, List.getElem?_append_right (by omega), hl]
  by_cases e : m = i
  ·rw [if_pos e, e, Nat.sub_self]; rfl
  ·rw [if_neg e, show m - i = (m - i - 1) + 1 by omega, List.getElem?_cons_succ, List.getElem?_drop, show i + (m - i - 1) = m - 1 by omega]
theorem zJw (d : Dsk) {k i n : Nat} (q : Pg) (z : Int) (hk : k < 3) (hn : (d.g k).ps.length = n) (h7 : n <= 7) (hi : i <= n) (j : Nat) (_ : j < 952) :
  (d.put k { d.g k with ps := Pg.ins (d.g k).ps i q, last := z }).cell j = if k * 317 + i * 19 <= j /\ j < k * 317 + i * 19 + (pgCs q).toList.length then (pgCs q).toList.getD (j - (k * 317 + i * 19)) undef else if j = k * 317 + 153 then A D z else if j = k * 317 + 152 then A D ((n : Int) + 1) else if k * 317 + (i + 1) * 19 <= j /\ j < k * 317 + (i + 1) * 19 + ((List.range ((n - i) * 19)).map fun t => d.cell (k * 317 + i * 19 + t)).length then ((List.range ((n - i) * 19)).map fun t => d.cell (k * 317 + i * 19 + t)).getD (j - (k * 317 + (i + 1) * 19)) undef else d.cell j := by
 have hl : (pgCs q).toList.length = 19 := rfl
 have hc : ((List.range ((n - i) * 19)).map fun t => d.cell (k * 317 + i * 19 + t)).length = (n - i) * 19 := by rw [List.length_map, List.length_range]
 rw [hl, hc, z6l d _ hk]
 by_cases c : k * 317 <= j /\ j < k * 317 + 317
 ·rw [if_pos c]
  obtain ⟨x, rfl⟩ : ∃ x, j = k * 317 + x := ⟨j - k * 317, by omega⟩
  have hx : x < 317 := by omega
  have e0 : z1f { d.g k with ps := Pg.ins (d.g k).ps i q, last := z } x = if x < 154 then z2u (Pg.ins (d.g k).ps i q) z x else z1f (d.g k) x := by
   unfold z1f
   dsimp only
   by_cases c1 : x < 154
   ·rw [if_pos c1, if_pos c1]
   ·rw [if_neg c1, if_neg c1, if_neg c1]
  rw [Nat.add_sub_cancel_left, e0, z2l d hk hx]
  by_cases c1 : x < 154
  ·have e1 : z2u (Pg.ins (d.g k).ps i q) z x = if x < 152 then zAi (if x / 19 < i then (d.g k).ps.getD (x / 19) pg0 else if x / 19 = i then q else (d.g k).ps.getD (x / 19 - 1) pg0) (x % 19) else if x = 152 then A D ((n : Int) + 1) else A D z := by
    unfold z2u
    rw [zU6 _ q pg0 (by omega), zD0 _ q (by omega), hn]
    rfl
   rw [if_pos c1, e1]
   by_cases a1 : i * 19 <= x /\ x < i * 19 + 19
   ·rw [if_pos (show k * 317 + i * 19 <= k * 317 + x /\ k * 317 + x < k * 317 + i * 19 + 19 by omega), if_pos (show x < 152 by omega), if_neg (show ¬ x / 19 < i by omega), if_pos (show x / 19 = i by omega), show k * 317 + x - (k * 317 + i * 19) = x % 19 by omega, zTl q (by omega)]
   rw [if_neg (show ¬ (k * 317 + i * 19 <= k * 317 + x /\ k * 317 + x < k * 317 + i * 19 + 19) by omega)]
   by_cases a2 : x = 153
   ·rw [if_pos (show k * 317 + x = k * 317 + 153 by omega), if_neg (show ¬ x < 152 by omega), if_neg (show ¬ x = 152 by omega)]
   rw [if_neg (show ¬ k * 317 + x = k * 317 + 153 by omega)]
   by_cases a3 : x = 152
   ·rw [if_pos (show k * 317 + x = k * 317 + 152 by omega), if_neg (show ¬ x < 152 by omega), if_pos a3]
   rw [if_neg (show ¬ k * 317 + x = k * 317 + 152 by omega), if_pos (show x < 152 by omega)]
   by_cases a4 : (i + 1) * 19 <= x /\ x < (i + 1) * 19 + (n - i) * 19
   ·have ht : x - (i + 1) * 19 < (n - i) * 19 := by omega
    have es : ((List.range ((n - i) * 19)).map fun t => d.cell (k * 317 + i * 19 + t)).getD (x - (i + 1) * 19) undef = d.cell (k * 317 + i * 19 + (x - (i + 1) * 19)) := by rw [List.getD_eq_getElem?_getD, List.getElem?_map, List.getElem?_range ht]; rfl
    rw [if_pos (show k * 317 + (i + 1) * 19 <= k * 317 + x /\ k * 317 + x < k * 317 + (i + 1) * 19 + (n - i) * 19 by omega), show k * 317 + x - (k * 317 + (i + 1) * 19) = x - (i + 1) * 19 by omega, es, show k * 317 + i * 19 + (x - (i + 1) * 19) = k * 317 + (x - 19) by omega, z2l d hk (by omega)]
    unfold z1f z2u
    rw [if_pos (show x - 19 < 154 by omega), if_pos (show x - 19 < 152 by omega), if_neg (show ¬ x / 19 < i by omega), if_neg (show ¬ x / 19 = i by omega), show (x - 19) / 19 = x / 19 - 1 by omega, show (x - 19) % 19 = x % 19 by omega]
   ·rw [if_neg (show ¬ (k * 317 + (i + 1) * 19 <= k * 317 + x /\ k * 317 + x < k * 317 + (i + 1) * 19 + (n - i) * 19) by omega)]
    unfold z1f z2u
    rw [if_pos c1, if_pos (show x < 152 by omega)]
    by_cases a5 : x / 19 < i
    ·rw [if_pos a5]
    ·rw [if_neg a5, if_neg (show ¬ x / 19 = i by omega), List.getD_eq_getElem?_getD, List.getD_eq_getElem?_getD, List.getElem?_eq_none (by omega), List.getElem?_eq_none (by omega)]
  ·rw [if_neg c1, if_neg (show ¬ (k * 317 + i * 19 <= k * 317 + x /\ k * 317 + x < k * 317 + i * 19 + 19) by omega), if_neg (show ¬ k * 317 + x = k * 317 + 153 by omega), if_neg (show ¬ k * 317 + x = k * 317 + 152 by omega), if_neg (show ¬ (k * 317 + (i + 1) * 19 <= k * 317 + x /\ k * 317 + x < k * 317 + (i + 1) * 19 + (n - i) * 19) by omega)]
 ·rw [if_neg c, if_neg (show ¬ (k * 317 + i * 19 <= j /\ j < k * 317 + i * 19 + 19) by omega), if_neg (show ¬ j = k * 317 + 153 by omega), if_neg (show ¬ j = k * 317 + 152 by omega), if_neg (show ¬ (k * 317 + (i + 1) * 19 <= j /\ j < k * 317 + (i + 1) * 19 + (n - i) * 19) by omega)]
theorem Tryz.infoBd : (Tryz.prog.info? 122).map (·.size) = some 2 := by kernel_rfl
theorem zF8 {w0 w : World} {F : List (Nat × Obj)} {g : Nat} (h : Blk w0 F w) (hg : w0.heap.size <= g) (hF : ∀ x, x ∈ F -> x.1 < g) (cs' : Array Value) : Blk w0 F (w.setRow g cs') :=
 ⟨z06 h.1 hg cs', fun x hx => (setRow_other w g x.1 cs' (by have := hF x hx; omega)).trans (h.2 x hx)⟩
theorem zVz {o : Oper} {u : Act} (V : World) (B k I : Nat) (x y : Operand) (ho : o.op = .slice 85 x (some y) none none) (hx : u.eval x = pT (some ⟨B, k * 317, none⟩)) (hy : u.eval y = A D ((I : Int) + 1)) (hI : I <= 7) : (execOp u.eval o).run tP V = .ok (.value (.slice (some ⟨B, (if I = 7 then k * 317 else k * 317 + (I + 1) * 19), none⟩) (7 - I) (7 - I))) V := by
 have s1 : (0 : Int) <= (I : Int) + 1 := by omega
 have s2 : (I : Int) + 1 <= 8 := by omega
 by_cases c : I = 7
 ·rw [if_pos c]
  subst c
  unfold execOp
  simp only [ho, hx, hy, Option.map_some, Option.map_none]
  go_simp
  try rfl
 ·rw [if_neg c]
  unfold execOp
  simp only [ho, hx, hy, Option.map_some, Option.map_none]
  go_simp
  try omega
theorem zVy {o : Oper} {u : Act} (V : World) (B k I n : Nat) (x y z : Operand) (ho : o.op = .slice 85 x (some y) (some z) none) (hx : u.eval x = pT (some ⟨B, k * 317, none⟩)) (hy : u.eval y = A D (I : Int)) (hz : u.eval z = A D (n : Int)) (hI : I <= n) (hn : n <= 7) : (execOp u.eval o).run tP V = .ok (.value (.slice (some ⟨B, k * 317 + I * 19, none⟩) (n - I) (8 - I))) V := by
 have s1 : (0 : Int) <= (I : Int) := by omega
 have s2 : (I : Int) <= (n : Int) := by omega
 have s3 : (0 : Int) <= (n : Int) := by omega
 have s4 : (n : Int) <= 8 := by omega
 unfold execOp
 simp only [ho, hx, hy, hz, Option.map_some, Option.map_none]
 go_simp
 try omega
def AtS (w7 : World) (B r p : Nat) (rank z : Int) (V : World) : Prop := Kept B w7 V /\ V.heap[r]? = some (cT #[A D rank] 3 (0, 0)) /\ V.cell? ⟨B, p, none⟩ = some (A D z)
theorem AtS.later {w7 V V' : World} {B r p : Nat} {rank z : Int} (h : AtS w7 B r p rank z V) (hB : B < V.heap.size) (hb : Below V.heap.size V V') : AtS w7 B r p rank z V' := ⟨z1w h.1 hb, (hb.block r (Array.getElem?_eq_some_iff.1 h.2.1).1).trans h.2.1, (hb.cell (p := ⟨B, p, none⟩) hB).trans h.2.2⟩
theorem zUx {o : Oper} {u : Act} {x y z : Operand} {W : World} {a b : Int} {g n c : Nat} {xs : List St} (ho : o.op = .build 84 #[(0, x), (1, y), (2, z)]) (hx : u.eval x = A D a) (hy : u.eval y = A D b) (hz : u.eval z = .slice (some ⟨g, 0, none⟩) n c) : (execOp u.eval o).run tP W = .ok (.value (.agg (pgCs ⟨a, b, .slice (some ⟨g, 0, none⟩) n c, xs, fun _ => 0⟩))) W := by
 have hb : Tryz.prog.built 84 #[(0, Value.int .i64 a), (1, A D b), (2, .slice (some ⟨g, 0, none⟩) n c)].toList = some (pgCs ⟨a, b, .slice (some ⟨g, 0, none⟩) n c, xs, fun _ => 0⟩) := by kernel_rfl
 have hr := run_build W 84 _ _ hb
 unfold execOp
 simp only [ho, List.map_toArray, List.map_cons, List.map_nil, hx, hy, hz, Sem.run_bind, Sem.run_pure, Result.andThen_ok, hr]
theorem Tryz.infoPg : (Tryz.prog.info? 84).map (·.size) = some 19 := by kernel_rfl
theorem LsAt.kept {w w' : World} {l : Value} {xs : List St} {B : Nat} (h : LsAt w l xs) (hk : Kept B w w') (hne : ∀ a n c, l = .slice (some a) n c -> a.block ≠ B) : LsAt w' l xs := by
 obtain ⟨a, cap, e, h1⟩ := h.lies
 refine ⟨⟨a, cap, e, h1.imp id fun ⟨bk, off, h2, h3, h4⟩ => ⟨bk, off, h2, Nat.lt_of_lt_of_le h3 hk.size, z33 h4 (hk.block bk h3 fun z => ?_)⟩⟩, h.nums⟩
 exact hne ⟨bk, off, none⟩ xs.length cap (by rw [e, h2]) (Option.some.inj z)
theorem zSz {o : Oper} {u : Act} {x y : Operand} {W : World} {B q : Nat} {p : Pg} (hc : W.there B q 19) (h1 : (pgCs p).all (·.oneCell') = true) (ho : o.op = .store 84 x y) (hx : u.eval x = pT (some ⟨B, q, none⟩)) (hy : u.eval y = .agg (pgCs p)) : (execOp u.eval o).run tP W = .ok .skip (W.setCells B q (pgCs p).toList) := by
 have hl := run_storeVar_mid (P := tP) W B q 84 (pgCs p) hc Tryz.infoPg h1
 unfold execOp
 simp only [ho, hx, hy, Instr.storeAt, Instr.sureAddr, Sem.run_bind, Sem.run_pure, Result.andThen_ok, hl]
theorem zD1 (B k n : Nat) (hk : k < 3) (d : Dsk) (l : Value) (xs : List St) (rank : Int) (w : World) (hD : z0k w B d) (HN : Hid ((d.g k).ps.length = n)) (h7 : n <= 7) (HL : Hid (LsAt w l xs)) (HLe : Hid (Lets xs)) (HP : Hid (∀ k, k < 3 -> ∀ p, p ∈ (d.g k).ps -> p.sl.oneCell' = true)) (HB : Hid (∀ a n c, l = .slice (some a) n c -> a.block ≠ B)) (hl0 : -1000000 <= (d.g k).last) (hl1 : (d.g k).last <= 1000000) :
  Calls tP 18 #[pT (some ⟨B, k * 317, none⟩), l, A D rank] w fun e w' => e = rT (.tuple #[A D ((d.g k).last + 1), .nilIface]) /\ Kept B w w' /\ ∃ q : Pg, q.id = (d.g k).last + 1 /\ q.rank = rank /\ q.xs = xs /\ q.tab = (fun _ => 0) /\ PgOk w' B q /\ z0k w' B (d.put k { d.g k with ps := Pg.ins (d.g k).ps ((d.g k).ps.findIdx fun p => decide (rank < p.rank)) q, last := (d.g k).last + 1 }) := by
 have hlt := hD.lt
 have hK0 : Blk w [(w.heap.size, cT #[A D rank] 3 (0, 0)), (B, cT (Array.ofFn (n := 952) fun i => Dsk.cell d i.1) 93 (0, 0))] (w.alloc (cT #[A D rank] 3)) := ((Blk.nil ((bF _ _).alloc (Nat.le_refl _) _)).cons ((heap_alloc_old _ _ hD.lt).trans hD)).cons (heap_alloc_new w _)
 go_enter Tryz.func18, Tryz.ntmps18
 go_upto_region 1 with fail
 generalize w.alloc (cT #[A D rank] 3) = w0 at hK0 ⊢
 go_step
 (refine z03 rfl (l) w0 (by go_simp; try rfl) ?_); simp only [Act.put, siA, scZ, scS]
 refine z0p rfl 35 #[l] (by go_simp; try rfl) (R := fun v w' => ∃ x y, v = .tuple #[.agg #[A D x, A D y], .nilIface] /\ Below w0.heap.size w0 w') ((zK3 (HL.out.later hK0.1) HLe.out).mono fun e w' ⟨x, y, h1, h2⟩ => ⟨_, h1, x, y, rfl, h2⟩) ?_
 rintro v w1 ⟨x, y, rfl, hb1⟩
 simp only [Act.put, siA, scZ, scS]
 have hK1 := hK0.later hb1
 clear hK0 hb1
 (refine z03 rfl (.tuple #[.agg #[A D x, A D y], .nilIface]) w1 (by go_simp; try rfl) ?_); simp only [Act.put, siA, scZ, scS]
 (refine z03 rfl (.agg #[A D x, A D y]) w1 (by go_simp; try rfl) ?_); simp only [Act.put, siA, scZ, scS]
 (refine z03 rfl (.nilIface) w1 (by go_simp; try rfl) ?_); simp only [Act.put, siA, scZ, scS]
 (refine z03 rfl (pT (some ⟨w1.heap.size, 0, none⟩)) (w1.alloc (cT #[A D 0, A D 0] 122)) (by go_simp; try rfl) ?_); simp only [Act.put, siA, scZ, scS]
 refine wpList_store_row rfl 122 (.tmp 8) (.tmp 14) rfl w1.heap.size #[A D x, A D y] rfl rfl 122 #[A D 0, A D 0] (heap_alloc_new w1 _) Tryz.infoBd rfl (by kernel_rfl) ?_
 simp only [Act.put, siA, scZ, scS]
 have hK2 : Blk w [(w.heap.size, cT #[A D rank] 3 (0, 0)), (B, cT (Array.ofFn (n := 952) fun i => Dsk.cell d i.1) 93 (0, 0))] ((w1.alloc (cT #[A D 0, A D 0] 122)).setRow w1.heap.size #[A D x, A D y]) := zF8 (hK1.later ((bF _ _).alloc (Nat.le_refl _) _)) (hK1.1.size) (fun z hz => (Array.getElem?_eq_some_iff.1 (hK1.2 z hz)).1) _
 generalize (w1.alloc (cT #[A D 0, A D 0] 122)).setRow w1.heap.size #[A D x, A D y] = w2 at hK2 ⊢
 generalize w1.heap.size = g1
 clear hK1
 obtain ⟨I, HI⟩ : ∃ I, Hid (((d.g k).ps.findIdx fun p => decide (rank < p.rank)) = I) := ⟨_, rfl⟩
 have hI : I <= n := by rw [<- HI.out, <- HN.out]; exact List.findIdx_le_length
 have hI0 : (0 : Int) <= (I : Int) := by omega
 have hI8 : (I : Int) < 8 := by omega
 have z8 : ((n : Int) == 8) = false := by simp; omega
 have hF := zNs B k w.heap.size hk d rank w2 (hK2.2 _ (mcO _ mcS)) (by rw [HN.out]; omega) (hK2.2 _ mcS)
 rw [HI.out] at hF
 have cN := z2n (hK2.2 _ (mcO _ mcS)) hk
 rw [HN.out] at cN
 go_upto_region 7 with (first | (go_at_call 36; go_must (refine hF.mono ?_; rintro e w3 ⟨rfl, hb3⟩; have hK3 := hK2.later hb3; clear hK2 hb3 cN)) | fail)
 have e1 : IntKind.i64.wrap ((I : Int) + 1) = (I : Int) + 1 := by rw [IntWalk.i64_left, z0f (by omega) (by omega)]
 obtain ⟨o1, HO1⟩ : ∃ o, Hid ((if I = 7 then k * 317 else k * 317 + (I + 1) * 19) = o) := ⟨_, rfl⟩
 have s3 : (I : Int) <= (n : Int) := by omega
 have s4 : (n : Int) <= 8 := by omega
 refine z0l (C := Blk w [(w.heap.size, cT #[A D rank] 3 (0, 0)), (B, cT (Array.ofFn (n := 952) fun i => Dsk.cell d i.1) 93 (0, 0))]) (n0 := w.heap.size) 15 [] [] (by kernel_rfl) (by kernel_rfl) (fun d _ _ _ _ h => by cases d <;> exact h) (Blk.stable _ _) (fun w2 h => h.1.size) hK3.drew trivial ?_
 simp only [List.take_succ_cons, List.take_zero, List.drop_succ_cons, List.drop_zero, List.length_nil, Nat.reduceAdd]
 repeat (first
  | (refine z0i (by rfl) ?_; simp only [Act.put, siA, scZ, scS])
  | (refine z0a (by rfl) (v := .slice (some ⟨B, o1, none⟩) (7 - I) (7 - I)) (fun w2 hC => by rw [<- HO1.out]; exact zVz w2 B k I _ _ rfl rfl rfl (by omega)) ?_; simp only [Act.put, siA, scZ, scS])
  | (refine z0a (by rfl) (v := .slice (some ⟨B, k * 317 + I * 19, none⟩) (n - I) (8 - I)) (fun w2 hC => zVy w2 B k I n _ _ _ rfl rfl rfl rfl (by omega) h7) ?_; simp only [Act.put, siA, scZ, scS])
  | (refine z0a (by rfl) (v := ?_) ?_ ?_; rotate_left; (intro w2 hC; have hDk : z0k _ B d := (hC.2 _ (mcO _ mcS)); have c0 : World.cell? _ ⟨B, k * 317 + 152, none⟩ = some (A D (n : Int)) := (by have h := z2n hDk hk; rw [HN.out] at h; exact h); go_simp; try with_reducible rfl); simp only [Act.put, siA, scZ, scS]))
 refine z0r ?_
 intro w4 hC hB4
 have hDk : z0k _ B d := (hC.2 _ (mcO _ mcS)); have c0 : World.cell? _ ⟨B, k * 317 + 152, none⟩ = some (A D (n : Int)) := (by have h := z2n hDk hk; rw [HN.out] at h; exact h)
 have hlen : ((List.range ((n - I) * 19)).map fun t => d.cell (k * 317 + I * 19 + t)).length = (n - I) * 19 := by rw [List.length_map, List.length_range]
 have hmin : Nat.min (n - I) (7 - I) = n - I := Nat.min_eq_left (by omega)
 have ho1 : ∀ j, j < ((List.range ((n - I) * 19)).map fun t => d.cell (k * 317 + I * 19 + t)).length -> o1 + j < 952 := fun j hj => by
  rw [hlen] at hj
  rw [<- HO1.out]
  split <;> omega
 have hcopy := z7d (P := tP) w4 116 116 3 84 B o1 (7 - I) (7 - I) ⟨B, k * 317 + I * 19, none⟩ (n - I) (8 - I) 19 ((List.range ((n - I) * 19)).map fun t => d.cell (k * 317 + I * 19 + t)) Tryz.underlying116 Tryz.infoPg (by rw [hlen, hmin]) (fun j v hv => by
   have hj : j < (n - I) * 19 := by have := (List.getElem?_eq_some_iff.1 hv).1; rw [hlen] at this; exact this
   rw [List.getElem?_map, List.getElem?_range hj] at hv
   rw [Addr.add_mid, FnAt.at hDk _ (by omega)]
   exact hv) (fun j hj => by rw [FnAt.at hDk _ (ho1 j hj)]; rfl) (fun j hj => FnAt.frozen hDk _) (fun v hv => by
   obtain ⟨t, ht, rfl⟩ := List.mem_map.1 hv
   rw [List.mem_range] at ht
   exact zH9 d HP.out _ (by omega))
 (refine z03 rfl (goInt (Nat.min (n - I) (7 - I))) (w4.setCells B o1 ((List.range ((n - I) * 19)).map fun t => d.cell (k * 317 + I * 19 + t))) (zL3 _ _ (.tmp 33) (.tmp 42) _ _ _ _ _ rfl rfl rfl hcopy) ?_); simp only [Act.put, siA, scZ, scS]
 obtain ⟨f1, HE1⟩ : ∃ f1 : Nat -> Value, Hid ((fun j => if k * 317 + (I + 1) * 19 <= j /\ j < k * 317 + (I + 1) * 19 + ((List.range ((n - I) * 19)).map fun t => d.cell (k * 317 + I * 19 + t)).length then ((List.range ((n - I) * 19)).map fun t => d.cell (k * 317 + I * 19 + t)).getD (j - (k * 317 + (I + 1) * 19)) undef else d.cell j) = f1) := ⟨_, rfl⟩
 have hF1 : FnAt (w4.setCells B o1 ((List.range ((n - I) * 19)).map fun t => d.cell (k * 317 + I * 19 + t))) B f1 := by
  rw [<- HE1.out]
  refine FnAt.ext (FnAt.setCells hDk ((List.range ((n - I) * 19)).map fun t => d.cell (k * 317 + I * 19 + t)) o1) fun j hj => ?_
  by_cases c : I = 7
  ·have hz : ((List.range ((n - I) * 19)).map fun t => d.cell (k * 317 + I * 19 + t)).length = 0 := by rw [hlen]; omega
   rw [hz, if_neg (by omega), if_neg (by omega)]
  ·have ho : o1 = k * 317 + (I + 1) * 19 := by rw [<- HO1.out, if_neg c]
   rw [ho]
 have hKp5 := z2a (z0e hC.1 B) o1 ((List.range ((n - I) * 19)).map fun t => d.cell (k * 317 + I * 19 + t))
 have hr5 := (z1a (w := w4) (B := B) (show w.heap.size ≠ B by omega) ((List.range ((n - I) * 19)).map fun t => d.cell (k * 317 + I * 19 + t)) o1).trans (hC.2 _ mcS)
 have q1 : f1 (k * 317 + 152) = A D (n : Int) := by rw [<- HE1.out]; dsimp only; rw [if_neg (by rw [hlen]; omega), z2l d hk (by omega)]; have h := HN.out; rw [<- h]; rfl
 have q2 : f1 (k * 317 + 153) = A D (d.g k).last := by rw [<- HE1.out]; dsimp only; rw [if_neg (by rw [hlen]; omega), z2l d hk (by omega)]; rfl
 obtain ⟨la, HLA⟩ : ∃ la, Hid ((d.g k).last = la) := ⟨_, rfl⟩
 rw [HLA.out] at q2 hl0 hl1
 have c5 := hF1.at (k * 317 + 152) (by omega)
 rw [q1] at c5
 have cf5 := hF1.frozen (k * 317 + 152)
 have Q2 : Hid (f1 (k * 317 + 153) = A D la) := q2
 clear hC hDk c0 hcopy hK3 hB4 ho1 q1 q2 hlen hmin
 generalize w4.setCells B o1 ((List.range ((n - I) * 19)).map fun t => d.cell (k * 317 + I * 19 + t)) = w5 at hF1 hKp5 hr5 c5 cf5 ⊢
 have e5 : IntKind.i64.wrap ((n : Int) + 1) = (n : Int) + 1 := by rw [IntWalk.i64_left, z0f (by omega) (by omega)]
 go_upto_region 9 with fail
 clear c5 cf5
 obtain ⟨f2, HE2⟩ : ∃ f2 : Nat -> Value, Hid ((fun j => if j = k * 317 + 152 then A D ((n : Int) + 1) else f1 j) = f2) := ⟨_, rfl⟩
 have hF2 : FnAt (w5.setCell ⟨B, k * 317 + 152, none⟩ (A D ((n : Int) + 1))) B f2 := by rw [<- HE2.out]; exact hF1.set (k * 317 + 152) _
 have hKp6 := kept_set hKp5 (k * 317 + 152) (A D ((n : Int) + 1))
 have hr6 := (heap_setCell_other w5 ⟨B, k * 317 + 152, none⟩ w.heap.size (A D ((n : Int) + 1)) (show w.heap.size ≠ B by omega)).trans hr5
 clear hF1 hKp5 hr5
 generalize w5.setCell ⟨B, k * 317 + 152, none⟩ (A D ((n : Int) + 1)) = w6 at hF2 hKp6 hr6 ⊢
 have c6 : w6.cell? ⟨B, k * 317 + 153, none⟩ = some (A D la) := by rw [FnAt.at hF2 _ (by omega), <- HE2.out]; dsimp only; rw [if_neg (by omega), Q2.out]
 have cf6 := hF2.frozen (k * 317 + 153)
 have e6 : IntKind.i64.wrap (la + 1) = la + 1 := by rw [IntWalk.i64_left, z0f (by omega) (by omega)]
 go_upto_region 10 with fail
 clear c6 cf6
 obtain ⟨f3, HE3⟩ : ∃ f3 : Nat -> Value, Hid ((fun j => if j = k * 317 + 153 then A D (la + 1) else f2 j) = f3) := ⟨_, rfl⟩
 have hF3 : FnAt (w6.setCell ⟨B, k * 317 + 153, none⟩ (A D (la + 1))) B f3 := by rw [<- HE3.out]; exact hF2.set (k * 317 + 153) _
 have hKp7 := kept_set hKp6 (k * 317 + 153) (A D (la + 1))
 have hr7 := (heap_setCell_other w6 ⟨B, k * 317 + 153, none⟩ w.heap.size (A D (la + 1)) (show w.heap.size ≠ B by omega)).trans hr6
 have Q3 : Hid (f3 (k * 317 + 153) = A D (la + 1)) := by rw [<- HE3.out]; exact if_pos rfl
 clear hF2 hKp6 hr6
 generalize w6.setCell ⟨B, k * 317 + 153, none⟩ (A D (la + 1)) = w7 at hF3 hKp7 hr7 ⊢
 have hL7 := HL.out.kept hKp7 HB.out
 have hD : AtS w7 B w.heap.size (k * 317 + 153) rank (la + 1) w7.drew := ⟨z1c (z1b B w7), hr7, (FnAt.at hF3 _ (by omega)).trans (congrArg some Q3.out)⟩
 clear hr7
 have hLt7 : B < w7.heap.size := hF3.lt
 refine wp_region_held_drew (S := AtS w7 B w.heap.size (k * 317 + 153) rank (la + 1)) (by kernel_rfl) hD fun _ => ?_
 change wpAnyH _ _ _ _ _ 14 (Array.replicate 14 false) _ _
 refine z0x (i := 0) (some 58) (pT (some ⟨B, k * 317, none⟩)) rfl rfl (by kernel_rfl) (by kernel_rfl) (by kernel_rfl) (fun _ _ _ h => h) (by rfl) (fun V hV => by go_simp; try rfl) hD ?_
 simp only [Act.put, siA, scZ, scS]
 refine z0x (i := 1) (some 59) (A D (I : Int)) rfl rfl (by kernel_rfl) (by kernel_rfl) (by kernel_rfl) (fun _ _ _ h => h) (by rfl) (fun V hV => by go_simp; try rfl) hD ?_
 simp only [Act.put, siA, scZ, scS]
 refine z0x (i := 2) (some 60) (pT (some ⟨B, k * 317, none⟩)) rfl rfl (by kernel_rfl) (by kernel_rfl) (by kernel_rfl) (fun _ _ _ h => h) (by rfl) (fun V hV => by go_simp; try rfl) hD ?_
 simp only [Act.put, siA, scZ, scS]
 refine z0x (i := 3) (some 61) (pT (some ⟨B, k * 317, none⟩)) rfl rfl (by kernel_rfl) (by kernel_rfl) (by kernel_rfl) (fun _ _ _ h => h) (by rfl) (fun V hV => by go_simp; try rfl) hD ?_
 simp only [Act.put, siA, scZ, scS]
 refine z0x (i := 4) (some 62) (pT (some ⟨B, k * 317 + 153, none⟩)) rfl rfl (by kernel_rfl) (by kernel_rfl) (by kernel_rfl) (fun _ _ _ h => h) (by rfl) (fun V hV => by go_simp; try rfl) hD ?_
 simp only [Act.put, siA, scZ, scS]
 refine z0x (i := 5) (some 63) (A D (la + 1)) rfl rfl (by kernel_rfl) (by kernel_rfl) (by kernel_rfl) (fun _ _ _ h => h) (by rfl) (fun V hV => by have c2 := hV.2.2; go_simp; try rfl) hD ?_
 simp only [Act.put, siA, scZ, scS]
 refine z0x (i := 6) (some 64) (A D rank) rfl rfl (by kernel_rfl) (by kernel_rfl) (by kernel_rfl) (fun _ _ _ h => h) (by rfl) (fun V hV => by have c2 : V.cell? ⟨w.heap.size, 0, none⟩ = some (A D rank) := (cell_of_row V _ 0 _ _ _ hV.2.1).trans rfl; go_simp; try rfl) hD ?_
 simp only [Act.put, siA, scZ, scS]
 refine z0x (i := 7) (some 65) (l) rfl rfl (by kernel_rfl) (by kernel_rfl) (by kernel_rfl) (fun _ _ _ h => h) (by rfl) (fun V hV => by go_simp; try rfl) hD ?_
 simp only [Act.put, siA, scZ, scS]
 refine z0x (i := 10) (some 68) (pT (some ⟨B, k * 317, none⟩)) rfl rfl (by kernel_rfl) (by kernel_rfl) (by kernel_rfl) (fun _ _ _ h => h) (by rfl) (fun V hV => by go_simp; try rfl) hD ?_
 simp only [Act.put, siA, scZ, scS]
 refine z0x (i := 11) (some 69) (pT (some ⟨B, k * 317, none⟩)) rfl rfl (by kernel_rfl) (by kernel_rfl) (by kernel_rfl) (fun _ _ _ h => h) (by rfl) (fun V hV => by go_simp; try rfl) hD ?_
 simp only [Act.put, siA, scZ, scS]
 refine wpAnyH_ready (rs := [8]) (by kernel_rfl) (by simp) ?_
 refine zFl (some 66) 38 #[l] rfl rfl (by rfl) (by go_simp; try rfl) ?_ AllReadyH.nil
 refine (zUm (w := w7.drew) (hL7.later (bF _ _).drew) HLe.out.1 HLe.out.2.1).mono ?_
 rintro e w8 ⟨g, cp, rfl, hg8, hb8, ho8⟩
 have hD8 := hD.later (show B < w7.drew.heap.size from hLt7) hb8
 have hF8 : FnAt w8 B f3 := FnAt.later (w := w7.drew) hF3 hb8
 refine ⟨_, rfl, hD8, ?_⟩
 simp only [Act.put, siA, scZ, scS]
 have hg7 : w7.heap.size <= g := hg8
 have hgl := zK9 ho8
 clear hL7
 obtain ⟨q, HQ⟩ : ∃ q : Pg, Hid ((⟨la + 1, rank, .slice (some ⟨g, 0, none⟩) xs.length cp, xs, fun _ => 0⟩ : Pg) = q) := ⟨_, rfl⟩
 refine z0x (i := 9) (some 67) (.agg (pgCs q)) rfl rfl (by kernel_rfl) (by kernel_rfl) (by kernel_rfl) (fun _ _ _ h => h) (by rfl) (fun V hV => by rw [<- HQ.out]; exact zUx rfl rfl rfl rfl) hD8 ?_
 simp only [Act.put, siA, scZ, scS]
 refine z0x (i := 12) (some 70) (pT (some ⟨B, k * 317 + I * 19, none⟩)) rfl rfl (by kernel_rfl) (by kernel_rfl) (by kernel_rfl) (fun _ _ _ h => h) (by rfl) (fun V hV => by go_simp; try rfl) hD8 ?_
 simp only [Act.put, siA, scZ, scS]
 have hq1 : (pgCs q).all (·.oneCell') = true := by rw [<- HQ.out]; kernel_rfl
 have hF9 := FnAt.setCells hF8 (pgCs q).toList (k * 317 + I * 19)
 have hl19 : (pgCs q).toList.length = 19 := rfl
 have c9 : (w8.setCells B (k * 317 + I * 19) (pgCs q).toList).cell? ⟨B, k * 317 + 153, none⟩ = some (A D (la + 1)) := by rw [FnAt.at hF9 _ (by omega), if_neg (by rw [hl19]; omega), Q3.out]
 have hD9 : AtS w7 B w.heap.size (k * 317 + 153) rank (la + 1) (w8.setCells B (k * 317 + I * 19) (pgCs q).toList) := ⟨z2a hD8.1 _ _, (z1a (w := w8) (B := B) (show w.heap.size ≠ B by omega) _ _).trans hD8.2.1, c9⟩
 have hs9 : z1l (w8.setCells B (k * 317 + I * 19) (pgCs q).toList) g 0 xs.length (fun j => (nth xs j).c) (fun j => (nth xs j).d) (fun j => (nth xs j).s) (fun j => (nth xs j).r) (fun j => (nth xs j).o) (fun j => (nth xs j).n) := z33 (z7f ho8 rfl) (z1a (show g ≠ B by omega) _ _)
 have hz9 : g < (w8.setCells B (k * 317 + I * 19) (pgCs q).toList).heap.size := by rw [(z5c B (pgCs q).toList (k * 317 + I * 19) w8).1]; exact hgl
 refine wpAnyH_ready (rs := [13]) (by kernel_rfl) (by simp) ?_
 refine z5x (w8.setCells B (k * 317 + I * 19) (pgCs q).toList) rfl rfl (by rfl) (zSz (FnAt.there hF8 (by omega)) hq1 rfl rfl rfl) hD9 ?_ AllReadyH.nil
 simp only [Act.put, siA, scZ, scS]
 have hdk : z0k (w8.setCells B (k * 317 + I * 19) (pgCs q).toList) B (d.put k { d.g k with ps := Pg.ins (d.g k).ps I q, last := la + 1 }) := FnAt.ext hF9 fun j hj => by rw [zJw d q (la + 1) hk HN.out h7 hI j hj, <- HE3.out, <- HE2.out, <- HE1.out]
 have hkp : Kept B w (w8.setCells B (k * 317 + I * 19) (pgCs q).toList) := z1t hKp7 hD9.1
 clear hF9 hF8 hD8 hD9 hF3 hD hb8 ho8 hg8
 generalize w8.setCells B (k * 317 + I * 19) (pgCs q).toList = w9 at c9 hdk hkp hs9 hz9 ⊢
 refine wpAnyH_done (by kernel_rfl) ?_ _
 go_wp2_with fail
 refine bodyPost_ret (v := .tuple #[A D (la + 1), .nilIface]) (by simp [results, Tryz.results18, go_sem, *]) rfl ⟨by rw [HLA.out], hkp, q, ?_⟩
 rw [HLA.out, HI.out]
 refine ⟨by rw [<- HQ.out], by rw [<- HQ.out], by rw [<- HQ.out], by rw [<- HQ.out], ?_, hdk⟩
 rw [<- HQ.out]
 exact ⟨⟨g, cp, rfl, hz9, by omega, hs9⟩, HLe.out.1, HLe.out.2.1, HLe.out.2.2.1, HL.out.nums, fun i _ => (⟨by decide, by decide⟩ : In64 0), fun T K time h1 h2 h3 => zQi HLe.out HL.out.nums T K time h1 h2 h3⟩
end
section
attribute [local simp] z00 z0d z07
theorem zJ9 (B k n : Nat) (hk : k < 3) (d : Dsk) (l : Value) (xs : List St) (rank : Int) (w : World) (hD : z0k w B d) (HL : Hid (LsAt w l xs)) (HLe : Hid (¬ Lets xs)) :
  Calls tP 18 #[pT (some ⟨B, k * 317, none⟩), l, A D rank] w fun e w' => (∃ t x, e = rT (.tuple #[A D 0, .iface t x])) /\ Below w.heap.size w w' := by
 have hlt := hD.lt
 have hK0 : Blk w [(w.heap.size, cT #[A D rank] 3 (0, 0)), (B, cT (Array.ofFn (n := 952) fun i => Dsk.cell d i.1) 93 (0, 0))] (w.alloc (cT #[A D rank] 3)) := ((Blk.nil ((bF _ _).alloc (Nat.le_refl _) _)).cons ((heap_alloc_old _ _ hD.lt).trans hD)).cons (heap_alloc_new w _)
 go_enter Tryz.func18, Tryz.ntmps18
 go_upto_region 1 with fail
 generalize w.alloc (cT #[A D rank] 3) = w0 at hK0 ⊢
 go_step
 (refine z03 rfl (l) w0 (by go_simp; try rfl) ?_); simp only [Act.put, siA, scZ, scS]
 refine z0p rfl 35 #[l] (by go_simp; try rfl) (R := fun v w' => ∃ x y, v = .tuple #[.agg #[A D 0, A D 0], .iface x y] /\ Below w0.heap.size w0 w') ((zVw (HL.out.later hK0.1) HLe.out).mono fun e w' ⟨x, y, h1, h2⟩ => ⟨_, h1, x, y, rfl, h2⟩) ?_
 rintro v w1 ⟨x, y, rfl, hb1⟩
 simp only [Act.put, siA, scZ, scS]
 have hK1 := hK0.later hb1
 clear hK0 hb1
 (refine z03 rfl (.tuple #[.agg #[A D 0, A D 0], .iface x y]) w1 (by go_simp; try rfl) ?_); simp only [Act.put, siA, scZ, scS]
 (refine z03 rfl (.agg #[A D 0, A D 0]) w1 (by go_simp; try rfl) ?_); simp only [Act.put, siA, scZ, scS]
 (refine z03 rfl (.iface x y) w1 (by go_simp; try rfl) ?_); simp only [Act.put, siA, scZ, scS]
 (refine z03 rfl (pT (some ⟨w1.heap.size, 0, none⟩)) (w1.alloc (cT #[A D 0, A D 0] 122)) (by go_simp; try rfl) ?_); simp only [Act.put, siA, scZ, scS]
 refine wpList_store_row rfl 122 (.tmp 8) (.tmp 14) rfl w1.heap.size #[A D 0, A D 0] rfl rfl 122 #[A D 0, A D 0] (heap_alloc_new w1 _) Tryz.infoBd rfl (by kernel_rfl) ?_
 simp only [Act.put, siA, scZ, scS]
 have hK2 : Blk w [(w.heap.size, cT #[A D rank] 3 (0, 0)), (B, cT (Array.ofFn (n := 952) fun i => Dsk.cell d i.1) 93 (0, 0))] ((w1.alloc (cT #[A D 0, A D 0] 122)).setRow w1.heap.size #[A D 0, A D 0]) := zF8 (hK1.later ((bF _ _).alloc (Nat.le_refl _) _)) (hK1.1.size) (fun z hz => (Array.getElem?_eq_some_iff.1 (hK1.2 z hz)).1) _
 generalize (w1.alloc (cT #[A D 0, A D 0] 122)).setRow w1.heap.size #[A D 0, A D 0] = w2 at hK2 ⊢
 generalize w1.heap.size = g1
 clear hK1
 go_wp2_with fail
 exact bodyPost_ret (v := .tuple #[A D 0, .iface x y]) (by simp [results, Tryz.results18, go_sem, *]) rfl ⟨⟨x, y, rfl⟩, hK2.1⟩
theorem zGp (B k n : Nat) (hk : k < 3) (d : Dsk) (l : Value) (xs : List St) (rank : Int) (w : World) (hD : z0k w B d) (HL : Hid (LsAt w l xs)) (HLe : Hid (Lets xs)) (HN : Hid ((d.g k).ps.length = 8)) :
  Calls tP 18 #[pT (some ⟨B, k * 317, none⟩), l, A D rank] w fun e w' => e = rT (.tuple #[A D 0, .iface 30 (A D 12)]) /\ Below w.heap.size w w' := by
 have hlt := hD.lt
 have hK0 : Blk w [(w.heap.size, cT #[A D rank] 3 (0, 0)), (B, cT (Array.ofFn (n := 952) fun i => Dsk.cell d i.1) 93 (0, 0))] (w.alloc (cT #[A D rank] 3)) := ((Blk.nil ((bF _ _).alloc (Nat.le_refl _) _)).cons ((heap_alloc_old _ _ hD.lt).trans hD)).cons (heap_alloc_new w _)
 go_enter Tryz.func18, Tryz.ntmps18
 go_upto_region 1 with fail
 generalize w.alloc (cT #[A D rank] 3) = w0 at hK0 ⊢
 go_step
 (refine z03 rfl (l) w0 (by go_simp; try rfl) ?_); simp only [Act.put, siA, scZ, scS]
 refine z0p rfl 35 #[l] (by go_simp; try rfl) (R := fun v w' => ∃ x y, v = .tuple #[.agg #[A D x, A D y], .nilIface] /\ Below w0.heap.size w0 w') ((zK3 (HL.out.later hK0.1) HLe.out).mono fun e w' ⟨x, y, h1, h2⟩ => ⟨_, h1, x, y, rfl, h2⟩) ?_
 rintro v w1 ⟨x, y, rfl, hb1⟩
 simp only [Act.put, siA, scZ, scS]
 have hK1 := hK0.later hb1
 clear hK0 hb1
 (refine z03 rfl (.tuple #[.agg #[A D x, A D y], .nilIface]) w1 (by go_simp; try rfl) ?_); simp only [Act.put, siA, scZ, scS]
 (refine z03 rfl (.agg #[A D x, A D y]) w1 (by go_simp; try rfl) ?_); simp only [Act.put, siA, scZ, scS]
 (refine z03 rfl (.nilIface) w1 (by go_simp; try rfl) ?_); simp only [Act.put, siA, scZ, scS]
 (refine z03 rfl (pT (some ⟨w1.heap.size, 0, none⟩)) (w1.alloc (cT #[A D 0, A D 0] 122)) (by go_simp; try rfl) ?_); simp only [Act.put, siA, scZ, scS]
 refine wpList_store_row rfl 122 (.tmp 8) (.tmp 14) rfl w1.heap.size #[A D x, A D y] rfl rfl 122 #[A D 0, A D 0] (heap_alloc_new w1 _) Tryz.infoBd rfl (by kernel_rfl) ?_
 simp only [Act.put, siA, scZ, scS]
 have hK2 : Blk w [(w.heap.size, cT #[A D rank] 3 (0, 0)), (B, cT (Array.ofFn (n := 952) fun i => Dsk.cell d i.1) 93 (0, 0))] ((w1.alloc (cT #[A D 0, A D 0] 122)).setRow w1.heap.size #[A D x, A D y]) := zF8 (hK1.later ((bF _ _).alloc (Nat.le_refl _) _)) (hK1.1.size) (fun z hz => (Array.getElem?_eq_some_iff.1 (hK1.2 z hz)).1) _
 generalize (w1.alloc (cT #[A D 0, A D 0] 122)).setRow w1.heap.size #[A D x, A D y] = w2 at hK2 ⊢
 generalize w1.heap.size = g1
 clear hK1
 have cN := z2n (hK2.2 _ (mcO _ mcS)) hk
 rw [HN.out] at cN
 go_wp2_with fail
 exact bodyPost_ret (v := .tuple #[A D 0, .iface 30 (A D 12)]) (by simp [results, Tryz.results18, go_sem, *]) rfl ⟨rfl, hK2.1⟩
theorem zTk (B k : Nat) (hk : k < 3) (d : Dsk) (id : Int) (w : World) (hD : z0k w B d) (h8 : (d.g k).ps.length <= 8) (I : Nat) (HI : Hid (((d.g k).ps.findIdx fun p => p.id == id) = I)) (HN : Hid (I < (d.g k).ps.length)) : Calls tP 33 #[pT (some ⟨B, k * 317, none⟩), A D id] w fun e w' => e = rT (.tuple #[A D (I : Int), .nilIface]) /\ Below w.heap.size w w' := by
 have hK0 : Blk w [(w.heap.size, cT #[A D id] 3 (0, 0)), (B, cT (Array.ofFn (n := 952) fun i => Dsk.cell d i.1) 93 (0, 0))] (w.alloc (cT #[A D id] 3)) := ((Blk.nil ((bF _ _).alloc (Nat.le_refl _) _)).cons ((heap_alloc_old _ _ hD.lt).trans hD)).cons (heap_alloc_new w _)
 go_enter Tryz.func33, Tryz.ntmps33
 go_upto_region 1 with fail
 generalize w.alloc (cT #[A D id] 3) = w0 at hK0 ⊢
 have hF := zUg B k w.heap.size hk d id w0 (hK0.2 _ (mcO _ mcS)) h8 (hK0.2 _ mcS)
 rw [HI.out] at hF
 have z1 : ((I : Int) == ((d.g k).ps.length : Int)) = false := by have := HN.out; simp; omega
 go_upto_region 2 with (first | (go_at_call 36; go_must (refine hF.mono ?_; rintro e w3 ⟨rfl, hb3⟩; have hK3 := hK0.later hb3; clear hK0 hb3)) | fail)
 have cN := z2n (hK3.2 _ (mcO _ mcS)) hk
 generalize (d.g k).ps.length = N at cN z1
 go_wp2_with fail
 exact bodyPost_ret (v := .tuple #[A D (I : Int), .nilIface]) (by simp [results, Tryz.results33, go_sem, *]) rfl ⟨rfl, hK3.1⟩
theorem zJ8 (B k : Nat) (hk : k < 3) (d : Dsk) (T : Nat -> Int) (w : World) (hD : z0k w B d) (hn : (d.g k).evs.length = 20) : Calls tP 17 #[pT (some ⟨B, 0, none⟩), A D (k : Int), .agg (z0o T)] w fun e w' => e = rT (.iface 30 (A D 12)) /\ Below w.heap.size w w' := by
 have hK0 : Blk w [(w.heap.size, cT (z0o T) 34 (0, 0)), (B, cT (Array.ofFn (n := 952) fun i => Dsk.cell d i.1) 93 (0, 0))] (w.alloc (cT (z0o T) 34)) := ((Blk.nil ((bF _ _).alloc (Nat.le_refl _) _)).cons ((heap_alloc_old _ _ hD.lt).trans hD)).cons (heap_alloc_new w _)
 have HNN : Hid ((d.g k).evs.length = 20) := hn
 clear hn
 go_enter Tryz.func17, Tryz.ntmps17
 go_upto_region 1 with fail
 generalize w.alloc (cT (z0o T) 34) = w0 at hK0 ⊢
 go_upto_region 3 with (first | (go_at_call 32; go_must (refine (z7s B k hk w0).mono ?_; rintro e w1 ⟨rfl, hb1⟩; subst hb1; have hK1 := hK0; have c0 : World.cell? _ ⟨B, k * 317 + 314, none⟩ = some (A D 20) := (by have h := FnAt.gate (hK1.2 _ (mcO _ mcS)) hk (j := 314) (by decide); unfold z1f at h; rw [if_neg (by decide), if_neg (by decide), if_pos rfl, HNN.out] at h; exact h))) | fail)
 go_wp2_with fail
 exact bodyPost_ret (v := .iface 30 (A D 12)) (by simp [results, Tryz.results17, go_sem, *]) rfl ⟨rfl, hK1.1⟩
end
structure Ac where
 what : Int
 hook : Int
 rank : Int
 code : Value
 xs : List St
 T : Nat -> Int
def ac0 : Ac := ⟨0, 0, 0, .slice none 0 0, [], fun _ => 0⟩
def Ac.cs (x : Ac) : Array Value := #[A D x.what, A D x.hook, A D x.rank, x.code, A D (x.T 0), A D (x.T 1), A D (x.T 2), A D (x.T 3), A D (x.T 4), A D (x.T 5), A D (x.T 6), A D (x.T 7)]
structure zDl (w : World) (a : Option Addr) (xs : List Ac) : Prop where
 lies : xs.length = 0 \/ ∃ bk off, a = some ⟨bk, off, none⟩ /\ bk < w.heap.size /\ ∀ i, i < xs.length -> w.rangeAt bk (off + i * 12) (xs.getD i ac0).cs.toList
 code : ∀ x, x ∈ xs -> LsAt w x.code x.xs
 told : ∀ x, x ∈ xs -> ∀ i, i < 8 -> In64 (x.T i)
theorem zAg {w w' : World} {b o : Nat} {vs : List Value} (h : w.rangeAt b o vs) (hb : w'.heap[b]? = w.heap[b]?) : w'.rangeAt b o vs := fun j v hv => (World.cell?_of_block (a := ⟨b, o + j, none⟩) hb).trans (h j v hv)
theorem LsAt.low {w : World} {l : Value} {xs : List St} (h : LsAt w l xs) (h1 : 1 <= xs.length) : ∀ a n c, l = .slice (some a) n c -> a.block < w.heap.size := fun a n c e => by
 obtain ⟨a', cap, e', h2⟩ := h.lies
 rw [e] at e'
 injection e' with e1 e2 e3
 rcases h2 with h2 | ⟨bk, off, h3, h4, h5⟩
 ·omega
 ·rw [h3] at e1
  rw [Option.some.inj e1]
  exact h4
theorem zUd {α : Type} {l : List α} {i : Nat} (z : α) (h : i < l.length) : l.getD i z ∈ l := by
 rw [List.getD_eq_getElem?_getD, List.getElem?_eq_getElem h]
 exact List.getElem_mem h
def evGo (d : Dsk) (k : Nat) (T : Nat -> Int) (rest : List (Nat -> Int)) : Dsk × Sd :=
 ({ d.put k { d.g k with ps := (z08 T d.ran (d.g k).ps sd0).2, evs := rest, left := (d.g k).left - ((z08 T d.ran (d.g k).ps sd0).1.steps + 1) } with ran := d.ran + 1 }, (z08 T d.ran (d.g k).ps sd0).1)
def z1y (k : Nat) : Nat -> Dsk -> List Sd -> Dsk × List Sd
 | 0, d, l => (d, l)
 | f + 1, d, l => match (d.g k).evs with
  | [] => (d, l)
  | T :: rest => if 0 < (d.g k).left then z1y k f (evGo d k T rest).1 (l ++ [(evGo d k T rest).2]) else (d, l)
def z40 (d : Dsk) (k : Nat) : Dsk := d.put k { d.g k with left := (d.g k).left + (d.g k).may }
def z4m (d : Dsk) (k : Nat) : Dsk := if (d.g k).evs.length = 0 then d.put k { d.g k with left := min (d.g k).left 0 } else d
def z13 (d : Dsk) (k : Nat) : Dsk × List Sd :=
 (z4m (z1y k 20 (z40 d k) []).1 k, (z1y k 20 (z40 d k) []).2)
theorem z49 {w : World} {B : Nat} {T : Nat -> Int} {time : Int} (hT : ∀ i, i < 8 -> In64 (T i)) (ht : In64 time) : ∀ (ps : List Pg) (s : Sd), (∀ p, p ∈ ps -> PgOk w B p) ->
  (z08 T time ps s).2.length = ps.length /\ s.steps <= (z08 T time ps s).1.steps /\ (z08 T time ps s).1.steps <= s.steps + 200 * (ps.length : Int) /\ (∀ p, p ∈ (z08 T time ps s).2 -> PgOk w B p) /\ (z08 T time ps s).1.out.length <= s.out.length + 50 * ps.length
 | [], s, _ => ⟨rfl, Int.le_refl _, by simp [z08], by simp [z08], by simp [z08]⟩
 | p :: ps, s, h => by
  obtain ⟨r1, r2, r3, r4⟩ := (h p mcS).small T time hT ht
  have hran : PgOk w B (p.ran (p.run T time)) := by
   have q := h p mcS
   exact ⟨q.lies, q.some, q.few, q.right, q.nums, r4, q.goes⟩
  have m1 : (s.more p (p.run T time)).steps = s.steps + (p.run T time).steps := rfl
  have m2 : (s.more p (p.run T time)).out = s.out ++ (p.run T time).out := rfl
  rw [z08]
  by_cases c : (p.run T time).num = 0
  ·rw [if_pos c]
   obtain ⟨i1, i2, i3, i4, i5⟩ := z49 hT ht ps (s.more p (p.run T time)) (fun q hq => h q (mcO _ hq))
   refine ⟨?_, ?_, ?_, ?_, ?_⟩
   ·show _ + 1 = _; rw [i1]; rfl
   ·show s.steps <= (z08 T time ps (s.more p (p.run T time))).1.steps; omega
   ·show (z08 T time ps (s.more p (p.run T time))).1.steps <= _; rw [lQ]; omega
   ·intro q hq
    rcases List.mem_cons.1 hq with rfl | hq
    ·exact hran
    ·exact i4 q hq
   ·show (z08 T time ps (s.more p (p.run T time))).1.out.length <= _
    rw [m2, List.length_append] at i5
    rw [lQ]; omega
  ·rw [if_neg c]
   refine ⟨rfl, ?_, ?_, ?_, ?_⟩
   ·show s.steps <= (s.more p (p.run T time)).steps; omega
   ·show (s.more p (p.run T time)).steps <= _; rw [lQ]; omega
   ·intro q hq
    rcases List.mem_cons.1 hq with rfl | hq
    ·exact hran
    ·exact h q (mcO _ hq)
   ·show (s.more p (p.run T time)).out.length <= _
    rw [m2, List.length_append, lQ]; omega
structure DOk (w : World) (B : Nat) (d : Dsk) (M : Int) : Prop where
 at_ : z0k w B d
 ps : ∀ k, k < 3 -> ∀ p, p ∈ (d.g k).ps -> PgOk w B p
 few : ∀ k, k < 3 -> (d.g k).ps.length <= 8
 evs : ∀ k, k < 3 -> (d.g k).evs.length <= 20
 told : ∀ k, k < 3 -> ∀ T, T ∈ (d.g k).evs -> ∀ i, i < 8 -> In64 (T i)
 may0 : ∀ k, k < 3 -> 1 <= (d.g k).may
 may1 : ∀ k, k < 3 -> (d.g k).may <= 1000
 left0 : ∀ k, k < 3 -> -1601 <= (d.g k).left
 left1 : ∀ k, k < 3 -> (d.g k).left <= 2000
 last0 : ∀ k, k < 3 -> 0 <= (d.g k).last
 last1 : ∀ k, k < 3 -> (d.g k).last <= M
 ran0 : 0 <= d.ran
 ran1 : d.ran <= M
theorem DOk.one {w : World} {B : Nat} {d : Dsk} {M : Int} (h : DOk w B d M) : ∀ k, k < 3 -> ∀ p, p ∈ (d.g k).ps -> p.sl.oneCell' = true := fun k hk p hp => (h.ps k hk p hp).one
theorem DOk.kept {w w' : World} {B : Nat} {d : Dsk} {M : Int} (h : DOk w B d M) (hk : Kept B w w') (hD : z0k w' B d) : DOk w' B d M :=
 ⟨hD, fun k hk3 p hp => (h.ps k hk3 p hp).kept hk, h.few, h.evs, h.told, h.may0, h.may1, h.left0, h.left1, h.last0, h.last1, h.ran0, h.ran1⟩
theorem DOk.later {w w' : World} {B : Nat} {d : Dsk} {M : Int} (h : DOk w B d M) (hb : Below w.heap.size w w') : DOk w' B d M := h.kept (z0e hb B) (FnAt.later h.at_ hb)
theorem z3r (d : Dsk) (k : Nat) (x : Gt) (j : Nat) : (d.put k x).g j = if j = k then x else d.g j := rfl
theorem DOk.ev {w w' : World} {B k : Nat} {d : Dsk} {M : Int} {T : Nat -> Int} {rest : List (Nat -> Int)} (h : DOk w B d M) (hk : k < 3) (hM : M <= 1000000) (he : (d.g k).evs = T :: rest) (hl : 0 < (d.g k).left) (hkp : Kept B w w') (hD : z0k w' B (evGo d k T rest).1) : DOk w' B (evGo d k T rest).1 (M + 1) := by
 have hT : ∀ i, i < 8 -> In64 (T i) := h.told k hk T (by rw [he]; exact mcS)
 have hti : In64 d.ran := ⟨by have := h.ran0; omega, by have := h.ran1; omega⟩
 obtain ⟨c1, c2, c3, c4, c5⟩ := z49 (w := w') (B := B) hT hti (d.g k).ps sd0 (fun p hp => (h.ps k hk p hp).kept hkp)
 have c2' : 0 <= (z08 T d.ran (d.g k).ps sd0).1.steps := c2
 have c3' : (z08 T d.ran (d.g k).ps sd0).1.steps <= 0 + 200 * ((d.g k).ps.length : Int) := c3
 have hf := h.few k hk
 have hl1 := h.left1 k hk
 have e : ∀ j, ((evGo d k T rest).1.g j) = if j = k then { d.g k with ps := (z08 T d.ran (d.g k).ps sd0).2, evs := rest, left := (d.g k).left - ((z08 T d.ran (d.g k).ps sd0).1.steps + 1) } else d.g j := fun j => rfl
 have hr : (evGo d k T rest).1.ran = d.ran + 1 := rfl
 refine ⟨hD, ?_, ?_, ?_, ?_, ?_, ?_, ?_, ?_, ?_, ?_, by rw [hr]; have := h.ran0; omega, by rw [hr]; have := h.ran1; omega⟩ <;> intro j hj <;> rw [e j] <;> split
 ·exact c4
 ·exact fun p hp => (h.ps j hj p hp).kept hkp
 ·show (z08 T d.ran (d.g k).ps sd0).2.length <= 8; omega
 ·exact h.few j hj
 ·show rest.length <= 20; have := h.evs k hk; rw [he, lQ] at this; omega
 ·exact h.evs j hj
 ·exact fun T' hT' => h.told k hk T' (by rw [he]; exact mcO _ hT')
 ·exact h.told j hj
 ·exact h.may0 k hk
 ·exact h.may0 j hj
 ·exact h.may1 k hk
 ·exact h.may1 j hj
 ·show -1601 <= (d.g k).left - ((z08 T d.ran (d.g k).ps sd0).1.steps + 1); omega
 ·exact h.left0 j hj
 ·show (d.g k).left - ((z08 T d.ran (d.g k).ps sd0).1.steps + 1) <= 2000; omega
 ·exact h.left1 j hj
 ·exact h.last0 k hk
 ·exact h.last0 j hj
 ·show (d.g k).last <= M + 1; have := h.last1 k hk; omega
 ·have := h.last1 j hj; omega
end Go.Proofs.YtbimlalhodibjaaGreatDoor
