/-
 Ways in a row of memory, one behind the other; a list of one or two ways that is made. No conditions. What package verify's askPlace returns: which ways lead on from Jeq or Jne against 0, of a place, or of a MAYBE. Conditions: the steps are few.
-/
import Derived.Test.YteenhdoaminkeaaGreatDoorJv21
import Derived.Great.BuildSlice
set_option maxHeartbeats 40000000
open Go.Value renaming int → vI
open Go.IntKind renaming i64 → vK
open Go.RowKit.Below renaming alloc → bA, setCell → bS, drew → bD, refl → bF
set_option maxRecDepth 1000000
set_option linter.defProp false
set_option linter.unusedVariables false
set_option linter.unusedSimpArgs false
namespace Go.Proofs.YteenhdoaminkeaaGreatDoor
open Go.ChangeShapes Go.WideShapes Go.ChangeAt Go.RowKit
def wayV (x : Int × Way) : Value := .agg (z06 x.1 x.2)
def z0s (l : List (Int × Way)) : List Value := l.flatMap fun x => (z06 x.1 x.2).toList
theorem z29 (l : List (Int × Way)) : (z0s l).length = l.length * 82 := by
 induction l with
 | nil => rfl
 | cons x l ih =>
  unfold z0s at ih ⊢
  rw [List.flatMap_cons, List.length_append, ih, Array.length_toList, z0h, List.length_cons]
  omega
theorem z4j (l : List (Int × Way)) (x : Int × Way) : z0s (l ++ [x]) = z0s l ++ (z06 x.1 x.2).toList := by
 unfold z0s; rw [List.flatMap_append]; simp
def z0g (w : World) (base : Nat) (v : Value) (l : List (Int × Way)) : Prop := w.ownsRow base 76 82 v l.length (z0s l)
theorem Tryz.infoWz : (Tryz.prog.info? 76).map (fun i => (i.zero, i.size, i.bytes)) = some (some (.agg Tryz.zeroCells76), 82, 656) := by kernel_rfl
theorem zM0 (l : List (Int × Way)) (Z : Array Value) (hZ : Z.size = l.length * 82) : Instr.fill (fun i => some (i * 82, 82)) Z (((l.map wayV).zipIdx 0).map fun x => (x.2, x.1)) = some (z0s l).toArray := by
 have h := Great.fill_whole (s := 82) (by decide) (l.map wayV) Z (by
  intro v hv
  obtain ⟨x, -, rfl⟩ := List.mem_map.1 hv
  exact z0h x.1 x.2) (by rw [List.length_map]; exact hZ.symm)
 rw [h]
 congr 2
 unfold z0s
 rw [List.flatMap_map]
 rfl
theorem zM1 (z : Value) (n : Nat) : ((Array.range n).map (z.cells[· % z.cells.size]!)).size = n := by simp
theorem z8g {ops : Array Oper} {rest : List Oper} {o : Oper} {a : Act} {w : World} {Q : Exit → Act → World → Prop} (hg : o.guard = none) (l : List (Int × Way)) (n : Nat) (hn : n = l.length) (h1 : 1 ≤ n) (h2 : n ≤ 1000) (parts : Array (Nat × Operand)) (ho : o.op = .buildSlice 78 n parts)
  (hp : (parts.map fun (i, x) => (i, a.eval x)).toList = ((l.map wayV).zipIdx 0).map fun x => (x.2, x.1))
  (h : wpList Tryz.prog ops Q rest (a.put o.dst (.slice (some ⟨w.heap.size, 0, none⟩) n n)) (w.alloc (.cells (z0s l).toArray 76))) : wpList Tryz.prog ops Q (o :: rest) a w := by
 obtain ⟨i0, hi, hz0, hz1, hz2⟩ := info_parts Tryz.infoWz
 refine wpList_buildSlice hg 78 76 n parts ho _ i0 _ Tryz.underlying78 hi hz0 (by rw [hz1]; omega) (by rw [hz1]; omega) ?_ h
 rw [hp, hz1]
 exact zM0 l _ (by rw [zM1, hn])
theorem z1l {ops : Array Oper} {rest : List Oper} {o : Oper} {a : Act} {w : World} {Q : Exit → Act → World → Prop} (hg : o.guard = none) (x : Operand) (p : Int) (y : Way) (ho : o.op = .buildSlice 78 1 #[(0, x)]) (hx : a.eval x = .agg (z06 p y))
  (h : wpList Tryz.prog ops Q rest (a.put o.dst (.slice (some ⟨w.heap.size, 0, none⟩) 1 1)) (w.alloc (.cells (z0s [(p, y)]).toArray 76))) : wpList Tryz.prog ops Q (o :: rest) a w :=
 z8g hg [(p, y)] 1 rfl (by decide) (by decide) _ ho (by simp [hx, wayV]) h
theorem z7q {ops : Array Oper} {rest : List Oper} {o : Oper} {a : Act} {w : World} {Q : Exit → Act → World → Prop} (hg : o.guard = none) (x x' : Operand) (p p' : Int) (y y' : Way) (ho : o.op = .buildSlice 78 2 #[(0, x), (1, x')]) (hx : a.eval x = .agg (z06 p y)) (hx' : a.eval x' = .agg (z06 p' y'))
  (h : wpList Tryz.prog ops Q rest (a.put o.dst (.slice (some ⟨w.heap.size, 0, none⟩) 2 2)) (w.alloc (.cells (z0s [(p, y), (p', y')]).toArray 76))) : wpList Tryz.prog ops Q (o :: rest) a w :=
 z8g hg [(p, y), (p', y')] 2 rfl (by decide) (by decide) _ ho (by simp [hx, hx', wayV]) h
theorem z0g.made (w : World) (base : Nat) (l : List (Int × Way)) (hb : base ≤ w.heap.size) (h : l.length ≤ maxLen) : z0g (w.alloc (.cells (z0s l).toArray 76)) base (.slice (some ⟨w.heap.size, 0, none⟩) l.length l.length) l := by
 have := World.ownsRow_lit (base := base) (e := 76) (size := 82) w (z0s l).toArray l.length hb h (by simp [z29])
 simpa [z0g] using this
theorem z0g.nil (w : World) (base : Nat) : z0g w base (.slice none 0 0) [] := World.ownsRow_nil _ _ _ _
theorem z0g.mono {w : World} {base base' : Nat} {v : Value} {l : List (Int × Way)} (h : z0g w base v l) (hb : base' ≤ base) : z0g w base' v l := by
 obtain ⟨h1, h2⟩ := h
 refine ⟨h1, ?_⟩
 rcases h2 with h2 | ⟨g, cap, cur, e1, e2, r⟩
 ·exact Or.inl h2
 ·exact Or.inr ⟨g, cap, cur, e1, by omega, r⟩
theorem z0g.later {w w1 : World} {base : Nat} {v : Value} {l : List (Int × Way)} (h : z0g w base v l) (hb : Below w.heap.size w w1) : z0g w1 base v l :=
 World.ownsRow.kept (w' := w1) (row := none) h ⟨hb.os, hb.tape, hb.output, hb.size, fun k hk _ => hb.block k hk⟩ (by cases v.ownBlock <;> simp)
theorem zP7 {o : Oper} {u : Act} {x : Operand} {W : World} {B : Nat} {p : Int} {y : Way} (hW : z05 W B p y) (ho : o.op = .load 76 x) (hx : u.eval x = .pointer (some ⟨B, 0, none⟩)) : (execOp u.eval o).run Tryz.prog W = .ok (.value (.agg (z06 p y))) W := by
 have hl := run_loadVar_row (P := Tryz.prog) W B 76 76 (z06 p y) (0, 0) _ hW Tryz.underlying76 rfl (z0q p y)
 unfold execOp
 simp only [ho, hx, Instr.loadAt, Instr.sureAddr, Sem.run_bind, Sem.run_pure, Result.andThen_ok, hl]
end Go.Proofs.YteenhdoaminkeaaGreatDoor
namespace Go.Proofs.YteenhdoaminkeaaGreatDoor
open Go.ChangeShapes Go.WideShapes Go.ChangeAt Go.RowKit
attribute [local simp] z00 z0y z0o
theorem z7e (p : Int) (y : Way) (h0 : 0 ≤ p) (h1 : p ≤ 1000) (w : World) : Calls Tryz.prog 42 #[.agg (z06 p y), vI vK 0] w fun e w' => e = .returned (.agg (z06 (p + 1) y)) ∧ Below w.heap.size w w' := zCk p 0 y h0 h1 (by decide) (by decide) w
theorem zN7 (d s : Nat) (c o n p : Int) (r : Bool) (y : Way) (hd : d < 11) (hp0 : 0 ≤ p) (hp1 : p ≤ 1000) (ho0 : 0 ≤ o) (ho1 : o ≤ 1000) (m1 m2 : Bool) (x16 : (c == 16) = m1) (x5 : ((y.reg d).k != 5) = m2) (w : World) :
  Calls Tryz.prog 60 #[.agg (z06 p y), .agg #[vI vK c, vI vK d, vI vK s, .bool r, vI vK o, vI vK n]] w fun e w' => ∃ v, e = .returned v ∧ z0g w' w.heap.size v (if m2 = true then [((if m1 = true then (p + (1 + o)) else (p + 1)), y)] else [((if m1 = true then (p + 1) else (p + (1 + o))), y.putReg d ⟨1, 0, 0⟩), ((if m1 = true then (p + (1 + o)) else (p + 1)), y.putReg d ⟨4, 0, 0⟩)]) ∧ Below w.heap.size w w' := by
 have hK0 : Blk w [(w.heap.size, .cells (z06 p y) 76 (0, 0)), (w.heap.size + 1, .cells #[vI vK c, vI vK d, vI vK s, .bool r, vI vK o, vI vK n] 59 (0, 0))] _ := ((Blk.nil (((bF _ _).alloc (Nat.le_refl _) _).alloc (by simp) _)).cons (heap_alloc2_new w (.cells (z06 p y) 76) (.cells #[vI vK c, vI vK d, vI vK s, .bool r, vI vK o, vI vK n] 59))).cons ((z05.start w p y).alloc (.cells #[vI vK c, vI vK d, vI vK s, .bool r, vI vK o, vI vK n] 59))
 have hd0 : (0 : Int) ≤ (d : Int) := by omega
 have hd1 : (d : Int) < 11 := by omega
 go_enter Tryz.func60, Tryz.ntmps60
 go_wp2_with fail
 refine z0n (C := Blk w [(w.heap.size, .cells (z06 p y) 76 (0, 0)), (w.heap.size + 1, .cells #[vI vK c, vI vK d, vI vK s, .bool r, vI vK o, vI vK n] 59 (0, 0))]) (n0 := w.heap.size + 1 + 1) 6 [] [.cells Tryz.zeroCells76 76 (0, 0), .cells Tryz.zeroCells76 76 (0, 0)] (by kernel_rfl) (by kernel_rfl) (fun d _ _ _ _ h => by cases d <;> exact h) (Blk.stable _ _) (Blk.room w (mcO _ mcS)) hK0.drew ⟨⟨rfl, fun a w2 hC => by go_simp; try rfl⟩, ⟨rfl, fun a w2 hC => by go_simp; try rfl⟩, trivial⟩ ?_
 simp only [List.take_succ_cons, List.take_zero, List.drop_succ_cons, List.drop_zero, List.length_cons, List.length_nil, Nat.reduceAdd]
 repeat (first
  | (refine z0k (by rfl) ?_; simp only [Act.put, siA, scZ, scS])
  | (refine z0b (by rfl) (v := .agg (z06 p y)) (fun w2 hC => zP7 (hC.2 _ mcS) rfl rfl) ?_; simp only [Act.put, siA, scZ, scS])
  | (refine z0b (by rfl) (v := ?_) ?_ ?_; rotate_left; (intro w2 hC; have yW : z05 _ w.heap.size _ _ := (hC.2 _ mcS); have ylt := yW.lt; obtain ⟨i0, i1, i2⟩ := yW.reg hd; obtain ⟨p0, p1, p2, p3, p4, p5, ltS⟩ := row6 (hC.2 _ (mcO _ mcS)); go_simp; try with_reducible rfl); simp only [Act.put, siA, scZ, scS])
  | (refine z0p (by rfl) ?_; apply Exists.intro; refine ⟨fun w2 hC => ?_, ?_⟩; (have yW : z05 _ w.heap.size _ _ := (hC.2 _ mcS); have ylt := yW.lt; obtain ⟨i0, i1, i2⟩ := yW.reg hd; obtain ⟨p0, p1, p2, p3, p4, p5, ltS⟩ := row6 (hC.2 _ (mcO _ mcS)); go_simp; apply z0v; first | (go_at_call 42; exact (by first | with_reducible exact z7e p y hp0 hp1 w2 | with_reducible exact zCk p o y hp0 hp1 ho0 ho1 w2))); simp only [Act.put, siA, scZ, scS]))
 refine z0t ?_
 intro L h5 g5 K h6 g6 w3 hC hB3
 have hne : K ≠ L := (FB.upd_none h6).1
 have hne' : L ≠ K := fun e => hne e.symm
 have bK := hB3 K _ (FB.at_new _ _ _)
 have bL := hB3 L _ (FB.at_old hne' (FB.at_new _ _ _))
 have yW : z05 _ w.heap.size _ _ := (hC.2 _ mcS); have ylt := yW.lt; obtain ⟨i0, i1, i2⟩ := yW.reg hd; obtain ⟨p0, p1, p2, p3, p4, p5, ltS⟩ := row6 (hC.2 _ (mcO _ mcS))
 have hbw := hC.1
 have n1 : w.heap.size + 1 ≠ L := by omega
 have n2 : w.heap.size ≠ L := by omega
 have n3 : w.heap.size + 1 ≠ K := by omega
 have n4 : w.heap.size ≠ K := by omega
 simp only [z4l, Act.put, siA, scZ, scS]
 have hK1 : Blk w [(L, .cells (z06 (p + (1 + o)) y) 76 (0, 0)), (K, .cells (z06 (p + 1) y) 76 (0, 0)), (w.heap.size, .cells (z06 p y) 76 (0, 0)), (w.heap.size + 1, .cells #[vI vK c, vI vK d, vI vK s, .bool r, vI vK o, vI vK n] 59 (0, 0))] ((w3.setRow L (z06 (p + (1 + o)) y)).setRow K (z06 (p + 1) y)) := ((((Blk.nil (by repeat' first | with_reducible (first | exact hbw | refine z08 ?_ ?_ _ | refine bS ?_ ?_ _ | refine bA ?_ ?_ _) | ((try dsimp only); omega) | (simp; omega))).cons ((setRow_other _ K _ _ n3).trans ((setRow_other _ L _ _ n1).trans (hC.2 _ (mcO _ mcS))))).cons ((setRow_other _ K _ _ n4).trans ((setRow_other _ L _ _ n2).trans (hC.2 _ mcS)))).cons (setRow_heap _ K _ (z06 (p + 1) y) 76 _ ((setRow_other _ L _ _ hne).trans bK))).cons ((setRow_other _ K _ _ hne').trans (setRow_heap _ L _ (z06 (p + (1 + o)) y) 76 _ bL))
 clear yW ylt i0 i1 i2 p0 p1 p2 p3 p4 p5 ltS hK0
 have yW : z05 _ w.heap.size _ _ := (hK1.2 _ (mcO _ (mcO _ mcS))); have ylt := yW.lt; obtain ⟨i0, i1, i2⟩ := yW.reg hd; obtain ⟨p0, p1, p2, p3, p4, p5, ltS⟩ := row6 (hK1.2 _ (mcO _ (mcO _ (mcO _ mcS))))
 (refine wpList_store_row rfl 76 (.tmp 5) (.tmp 10) rfl L (z06 (p + (1 + o)) y) rfl rfl 76 _ bL (z0q _ _) (by first | rw [z1w, z0h] | rw [z0h, z0h]) (z2a _ _) ?_)
 (refine wpList_store_row rfl 76 (.tmp 6) (.tmp 12) rfl K (z06 (p + 1) y) rfl rfl 76 _ ((setRow_other _ L _ _ hne).trans bK) (z0q _ _) (by first | rw [z1w, z0h] | rw [z0h, z0h]) (z2a _ _) ?_)
 cases m1
 ·cases m2
  ·go_upto_region 6 with fail
   clear yW ylt i0 i1 i2 p0 p1 p2 p3 p4 p5 ltS
   refine z0n (C := Blk w [(L, .cells (z06 (p + (1 + o)) y) 76 (0, 0)), (K, .cells (z06 (p + 1) y) 76 (0, 0)), (w.heap.size, .cells (z06 p y) 76 (0, 0)), (w.heap.size + 1, .cells #[vI vK c, vI vK d, vI vK s, .bool r, vI vK o, vI vK n] 59 (0, 0))]) (n0 := w.heap.size) 6 [] [] (by kernel_rfl) (by kernel_rfl) (fun d _ _ _ _ h => by cases d <;> exact h) (Blk.stable _ _) (Blk.room0 _ _) hK1.drew trivial ?_
   simp only [List.take_succ_cons, List.take_zero, List.drop_succ_cons, List.drop_zero, List.length_nil, Nat.reduceAdd]
   repeat (first
    | (refine z0k (by rfl) ?_; simp only [Act.put, siA, scZ, scS])
    | (refine z0b (by rfl) (v := ?_) ?_ ?_; rotate_left; (intro w2 hC; have aW : z05 _ L _ _ := (hC.2 _ mcS); have alt := aW.lt; have bW : z05 _ K _ _ := (hC.2 _ (mcO _ mcS)); have blt := bW.lt; have yW : z05 _ w.heap.size _ _ := (hC.2 _ (mcO _ (mcO _ mcS))); have ylt := yW.lt; obtain ⟨p0, p1, p2, p3, p4, p5, ltS⟩ := row6 (hC.2 _ (mcO _ (mcO _ (mcO _ mcS)))); go_simp; try with_reducible rfl); simp only [Act.put, siA, scZ, scS])
    | (refine z0p (by rfl) ?_; apply Exists.intro; refine ⟨fun w2 hC => ?_, ?_⟩; (have aW : z05 _ L _ _ := (hC.2 _ mcS); have alt := aW.lt; have bW : z05 _ K _ _ := (hC.2 _ (mcO _ mcS)); have blt := bW.lt; have yW : z05 _ w.heap.size _ _ := (hC.2 _ (mcO _ (mcO _ mcS))); have ylt := yW.lt; obtain ⟨p0, p1, p2, p3, p4, p5, ltS⟩ := row6 (hC.2 _ (mcO _ (mcO _ (mcO _ mcS)))); go_simp; apply z0v; first | (go_at_call 39; exact z2t 0 w2) | (go_at_call 62; exact (by have hq := z1k 0 0 w2; unfold Kno.v z15 at hq; exact hq))); simp only [Act.put, siA, scZ, scS]))
   refine z0t ?_
   intro w5 hC hB5
   have aW : z05 _ L _ _ := (hC.2 _ mcS); have alt := aW.lt; have bW : z05 _ K _ _ := (hC.2 _ (mcO _ mcS)); have blt := bW.lt; have yW : z05 _ w.heap.size _ _ := (hC.2 _ (mcO _ (mcO _ mcS))); have ylt := yW.lt; obtain ⟨p0, p1, p2, p3, p4, p5, ltS⟩ := row6 (hC.2 _ (mcO _ (mcO _ (mcO _ mcS))))
   obtain ⟨i0, i1, i2⟩ := aW.reg hd
   have if0 := aW.frozen (1 + d * 3)
   have if1 := aW.frozen (1 + d * 3 + 1)
   have if2 := aW.frozen (1 + d * 3 + 2)
   go_upto_region 7 with fail
   have hbw5 := hC.1
   have hK7 : Blk w [(L, .cells (z06 (p + (1 + o)) (y.putReg d ⟨1, 0, 0⟩)) 76 (0, 0)), (K, .cells (z06 (p + 1) y) 76 (0, 0)), (w.heap.size, .cells (z06 p y) 76 (0, 0)), (w.heap.size + 1, .cells #[vI vK c, vI vK d, vI vK s, .bool r, vI vK o, vI vK n] 59 (0, 0))] (((w5.setCell ⟨L, 1 + d * 3, none⟩ (vI vK 1)).setCell ⟨L, 1 + d * 3 + 1, none⟩ (vI vK 0)).setCell ⟨L, 1 + d * 3 + 2, none⟩ (vI vK 0)) := ((((Blk.nil (by repeat' first | with_reducible (first | exact hbw5 | refine z08 ?_ ?_ _ | refine bS ?_ ?_ _ | refine bA ?_ ?_ _) | ((try dsimp only); omega) | (simp; omega))).cons (off3 (hC.2 _ (mcO _ (mcO _ (mcO _ mcS)))) (by omega))).cons (off3 (hC.2 _ (mcO _ (mcO _ mcS))) (by omega))).cons (off3 (hC.2 _ (mcO _ mcS)) hne)).cons (aW.reg3 hd 1 0 0)
   clear aW alt bW blt yW ylt i0 i1 i2 if0 if1 if2 p0 p1 p2 p3 p4 p5 ltS hC hB5
   refine z0n (C := Blk w [(L, .cells (z06 (p + (1 + o)) (y.putReg d ⟨1, 0, 0⟩)) 76 (0, 0)), (K, .cells (z06 (p + 1) y) 76 (0, 0)), (w.heap.size, .cells (z06 p y) 76 (0, 0)), (w.heap.size + 1, .cells #[vI vK c, vI vK d, vI vK s, .bool r, vI vK o, vI vK n] 59 (0, 0))]) (n0 := w.heap.size) 6 [] [] (by kernel_rfl) (by kernel_rfl) (fun d _ _ _ _ h => by cases d <;> exact h) (Blk.stable _ _) (Blk.room0 _ _) hK7.drew trivial ?_
   simp only [List.take_succ_cons, List.take_zero, List.drop_succ_cons, List.drop_zero, List.length_nil, Nat.reduceAdd]
   repeat (first
    | (refine z0k (by rfl) ?_; simp only [Act.put, siA, scZ, scS])
    | (refine z0b (by rfl) (v := ?_) ?_ ?_; rotate_left; (intro w2 hC; have aW : z05 _ L _ _ := (hC.2 _ mcS); have alt := aW.lt; have bW : z05 _ K _ _ := (hC.2 _ (mcO _ mcS)); have blt := bW.lt; have yW : z05 _ w.heap.size _ _ := (hC.2 _ (mcO _ (mcO _ mcS))); have ylt := yW.lt; obtain ⟨p0, p1, p2, p3, p4, p5, ltS⟩ := row6 (hC.2 _ (mcO _ (mcO _ (mcO _ mcS)))); go_simp; try with_reducible rfl); simp only [Act.put, siA, scZ, scS])
    | (refine z0p (by rfl) ?_; apply Exists.intro; refine ⟨fun w2 hC => ?_, ?_⟩; (have aW : z05 _ L _ _ := (hC.2 _ mcS); have alt := aW.lt; have bW : z05 _ K _ _ := (hC.2 _ (mcO _ mcS)); have blt := bW.lt; have yW : z05 _ w.heap.size _ _ := (hC.2 _ (mcO _ (mcO _ mcS))); have ylt := yW.lt; obtain ⟨p0, p1, p2, p3, p4, p5, ltS⟩ := row6 (hC.2 _ (mcO _ (mcO _ (mcO _ mcS)))); go_simp; apply z0v; first | (go_at_call 39; exact z2t 0 w2)); simp only [Act.put, siA, scZ, scS]))
   refine z0t ?_
   intro w6 hC hB6
   have aW : z05 _ L _ _ := (hC.2 _ mcS); have alt := aW.lt; have bW : z05 _ K _ _ := (hC.2 _ (mcO _ mcS)); have blt := bW.lt; have yW : z05 _ w.heap.size _ _ := (hC.2 _ (mcO _ (mcO _ mcS))); have ylt := yW.lt; obtain ⟨p0, p1, p2, p3, p4, p5, ltS⟩ := row6 (hC.2 _ (mcO _ (mcO _ (mcO _ mcS))))
   obtain ⟨i0, i1, i2⟩ := bW.reg hd
   have if0 := bW.frozen (1 + d * 3)
   have if1 := bW.frozen (1 + d * 3 + 1)
   have if2 := bW.frozen (1 + d * 3 + 2)
   go_upto_region 8 with fail
   have hbw6 := hC.1
   have hK8 : Blk w [(L, .cells (z06 (p + (1 + o)) (y.putReg d ⟨1, 0, 0⟩)) 76 (0, 0)), (K, .cells (z06 (p + 1) (y.putReg d ⟨4, 0, 0⟩)) 76 (0, 0))] (((w6.setCell ⟨K, 1 + d * 3, none⟩ (vI vK 4)).setCell ⟨K, 1 + d * 3 + 1, none⟩ (vI vK 0)).setCell ⟨K, 1 + d * 3 + 2, none⟩ (vI vK 0)) := ((Blk.nil (by repeat' first | with_reducible (first | exact hbw6 | refine z08 ?_ ?_ _ | refine bS ?_ ?_ _ | refine bA ?_ ?_ _) | ((try dsimp only); omega) | (simp; omega))).cons (bW.reg3 hd 4 0 0)).cons (off3 (hC.2 _ mcS) hne')
   clear aW alt bW blt yW ylt i0 i1 i2 if0 if1 if2 p0 p1 p2 p3 p4 p5 ltS hC hB6
   go_step
   (refine wpList_load_row rfl 76 (.tmp 5) rfl L rfl 76 (z06 (p + (1 + o)) (y.putReg d ⟨1, 0, 0⟩)) (0, 0) _ (hK8.2 _ mcS) Tryz.underlying76 rfl (z0q _ _) ?_)
   (refine wpList_load_row rfl 76 (.tmp 6) rfl K rfl 76 (z06 (p + 1) (y.putReg d ⟨4, 0, 0⟩)) (0, 0) _ (hK8.2 _ (mcO _ mcS)) Tryz.underlying76 rfl (z0q _ _) ?_)
   refine z7q rfl (.tmp 39) (.tmp 40) (p + (1 + o)) (p + 1) (y.putReg d ⟨1, 0, 0⟩) (y.putReg d ⟨4, 0, 0⟩) rfl rfl rfl ?_
   simp only [Act.put, siA, scZ, scS]
   go_wp2_with fail
   go_ret
   have hbwE := hK8.1
   have hsE := hbwE.size
   have hm := z0g.made (((w6.setCell ⟨K, 1 + d * 3, none⟩ (vI vK 4)).setCell ⟨K, 1 + d * 3 + 1, none⟩ (vI vK 0)).setCell ⟨K, 1 + d * 3 + 2, none⟩ (vI vK 0)) w.heap.size [((p + (1 + o)), y.putReg d ⟨1, 0, 0⟩), ((p + 1), y.putReg d ⟨4, 0, 0⟩)] hbwE.size (by unfold maxLen; simp)
   simp only [z0o] at hm hsE
   exact ⟨_, rfl, by simpa using hm, (by repeat' first | with_reducible (first | exact hbwE | refine z08 ?_ ?_ _ | refine bS ?_ ?_ _ | refine bA ?_ ?_ _) | ((try dsimp only); omega) | (simp; omega))⟩
  ·go_upto_region 5 with fail
   have hbK : ((w3.setRow L (z06 (p + (1 + o)) y)).setRow K (z06 (p + 1) y)).heap[K]? = some (.cells (z06 (p + 1) y) 76) := hK1.2 _ (mcO _ mcS)
   clear yW ylt i0 i1 i2 p0 p1 p2 p3 p4 p5 ltS
   generalize ((w3.setRow L (z06 (p + (1 + o)) y)).setRow K (z06 (p + 1) y)) = w9 at hbK hK1 ⊢
   go_step
   (refine wpList_load_row rfl 76 (.tmp 6) rfl K rfl 76 (z06 (p + 1) y) (0, 0) _ hbK Tryz.underlying76 rfl (z0q _ _) ?_)
   refine z1l rfl (.tmp 25) (p + 1) y rfl rfl ?_
   simp only [Act.put, siA, scZ, scS]
   go_wp2_with fail
   go_ret
   have hbwE := hK1.1
   have hsE := hbwE.size
   have hm := z0g.made w9 w.heap.size [((p + 1), y)] hbwE.size (by unfold maxLen; simp)
   exact ⟨_, rfl, by simpa using hm, (by repeat' first | with_reducible (first | exact hbwE | refine z08 ?_ ?_ _ | refine bS ?_ ?_ _ | refine bA ?_ ?_ _) | ((try dsimp only); omega) | (simp; omega))⟩
 ·cases m2
  ·go_upto_region 3 with fail
   go_step
   (refine wpList_load_row rfl 76 (.tmp 6) rfl K rfl 76 (z06 (p + 1) y) (0, 0) _ (hK1.2 _ (mcO _ mcS)) Tryz.underlying76 rfl (z0q _ _) ?_)
   (refine wpList_load_row rfl 76 (.tmp 5) rfl L rfl 76 (z06 (p + (1 + o)) y) (0, 0) _ (hK1.2 _ mcS) Tryz.underlying76 rfl (z0q _ _) ?_)
   (refine wpList_store_row rfl 76 (.tmp 5) (.tmp 16) rfl L (z06 (p + 1) y) rfl rfl 76 _ (hK1.2 _ mcS) (z0q _ _) (by first | rw [z1w, z0h] | rw [z0h, z0h]) (z2a _ _) ?_)
   (refine wpList_store_row rfl 76 (.tmp 6) (.tmp 17) rfl K (z06 (p + (1 + o)) y) rfl rfl 76 _ ((setRow_other _ L _ _ hne).trans (hK1.2 _ (mcO _ mcS))) (z0q _ _) (by first | rw [z1w, z0h] | rw [z0h, z0h]) (z2a _ _) ?_)
   simp only [Act.put, siA, scZ, scS]
   have hbw1 := hK1.1
   have hK2 : Blk w [(L, .cells (z06 (p + 1) y) 76 (0, 0)), (K, .cells (z06 (p + (1 + o)) y) 76 (0, 0)), (w.heap.size, .cells (z06 p y) 76 (0, 0)), (w.heap.size + 1, .cells #[vI vK c, vI vK d, vI vK s, .bool r, vI vK o, vI vK n] 59 (0, 0))] ((((w3.setRow L (z06 (p + (1 + o)) y)).setRow K (z06 (p + 1) y)).setRow L (z06 (p + 1) y)).setRow K (z06 (p + (1 + o)) y)) := ((((Blk.nil (by repeat' first | with_reducible (first | exact hbw1 | refine z08 ?_ ?_ _ | refine bS ?_ ?_ _ | refine bA ?_ ?_ _) | ((try dsimp only); omega) | (simp; omega))).cons ((setRow_other _ K _ _ n3).trans ((setRow_other _ L _ _ n1).trans (hK1.2 _ (mcO _ (mcO _ (mcO _ mcS))))))).cons ((setRow_other _ K _ _ n4).trans ((setRow_other _ L _ _ n2).trans (hK1.2 _ (mcO _ (mcO _ mcS)))))).cons (setRow_heap _ K _ (z06 (p + (1 + o)) y) 76 _ ((setRow_other _ L _ _ hne).trans (hK1.2 _ (mcO _ mcS))))).cons ((setRow_other _ K _ _ hne').trans (setRow_heap _ L _ (z06 (p + 1) y) 76 _ (hK1.2 _ mcS)))
   clear yW ylt i0 i1 i2 p0 p1 p2 p3 p4 p5 ltS
   have yW : z05 _ w.heap.size _ _ := (hK2.2 _ (mcO _ (mcO _ mcS))); have ylt := yW.lt; obtain ⟨i0, i1, i2⟩ := yW.reg hd; obtain ⟨p0, p1, p2, p3, p4, p5, ltS⟩ := row6 (hK2.2 _ (mcO _ (mcO _ (mcO _ mcS))))
   go_upto_region 6 with fail
   clear yW ylt i0 i1 i2 p0 p1 p2 p3 p4 p5 ltS
   refine z0n (C := Blk w [(L, .cells (z06 (p + 1) y) 76 (0, 0)), (K, .cells (z06 (p + (1 + o)) y) 76 (0, 0)), (w.heap.size, .cells (z06 p y) 76 (0, 0)), (w.heap.size + 1, .cells #[vI vK c, vI vK d, vI vK s, .bool r, vI vK o, vI vK n] 59 (0, 0))]) (n0 := w.heap.size) 6 [] [] (by kernel_rfl) (by kernel_rfl) (fun d _ _ _ _ h => by cases d <;> exact h) (Blk.stable _ _) (Blk.room0 _ _) hK2.drew trivial ?_
   simp only [List.take_succ_cons, List.take_zero, List.drop_succ_cons, List.drop_zero, List.length_nil, Nat.reduceAdd]
   repeat (first
    | (refine z0k (by rfl) ?_; simp only [Act.put, siA, scZ, scS])
    | (refine z0b (by rfl) (v := ?_) ?_ ?_; rotate_left; (intro w2 hC; have aW : z05 _ L _ _ := (hC.2 _ mcS); have alt := aW.lt; have bW : z05 _ K _ _ := (hC.2 _ (mcO _ mcS)); have blt := bW.lt; have yW : z05 _ w.heap.size _ _ := (hC.2 _ (mcO _ (mcO _ mcS))); have ylt := yW.lt; obtain ⟨p0, p1, p2, p3, p4, p5, ltS⟩ := row6 (hC.2 _ (mcO _ (mcO _ (mcO _ mcS)))); go_simp; try with_reducible rfl); simp only [Act.put, siA, scZ, scS])
    | (refine z0p (by rfl) ?_; apply Exists.intro; refine ⟨fun w2 hC => ?_, ?_⟩; (have aW : z05 _ L _ _ := (hC.2 _ mcS); have alt := aW.lt; have bW : z05 _ K _ _ := (hC.2 _ (mcO _ mcS)); have blt := bW.lt; have yW : z05 _ w.heap.size _ _ := (hC.2 _ (mcO _ (mcO _ mcS))); have ylt := yW.lt; obtain ⟨p0, p1, p2, p3, p4, p5, ltS⟩ := row6 (hC.2 _ (mcO _ (mcO _ (mcO _ mcS)))); go_simp; apply z0v; first | (go_at_call 39; exact z2t 0 w2) | (go_at_call 62; exact (by have hq := z1k 0 0 w2; unfold Kno.v z15 at hq; exact hq))); simp only [Act.put, siA, scZ, scS]))
   refine z0t ?_
   intro w5 hC hB5
   have aW : z05 _ L _ _ := (hC.2 _ mcS); have alt := aW.lt; have bW : z05 _ K _ _ := (hC.2 _ (mcO _ mcS)); have blt := bW.lt; have yW : z05 _ w.heap.size _ _ := (hC.2 _ (mcO _ (mcO _ mcS))); have ylt := yW.lt; obtain ⟨p0, p1, p2, p3, p4, p5, ltS⟩ := row6 (hC.2 _ (mcO _ (mcO _ (mcO _ mcS))))
   obtain ⟨i0, i1, i2⟩ := aW.reg hd
   have if0 := aW.frozen (1 + d * 3)
   have if1 := aW.frozen (1 + d * 3 + 1)
   have if2 := aW.frozen (1 + d * 3 + 2)
   go_upto_region 7 with fail
   have hbw5 := hC.1
   have hK7 : Blk w [(L, .cells (z06 (p + 1) (y.putReg d ⟨1, 0, 0⟩)) 76 (0, 0)), (K, .cells (z06 (p + (1 + o)) y) 76 (0, 0)), (w.heap.size, .cells (z06 p y) 76 (0, 0)), (w.heap.size + 1, .cells #[vI vK c, vI vK d, vI vK s, .bool r, vI vK o, vI vK n] 59 (0, 0))] (((w5.setCell ⟨L, 1 + d * 3, none⟩ (vI vK 1)).setCell ⟨L, 1 + d * 3 + 1, none⟩ (vI vK 0)).setCell ⟨L, 1 + d * 3 + 2, none⟩ (vI vK 0)) := ((((Blk.nil (by repeat' first | with_reducible (first | exact hbw5 | refine z08 ?_ ?_ _ | refine bS ?_ ?_ _ | refine bA ?_ ?_ _) | ((try dsimp only); omega) | (simp; omega))).cons (off3 (hC.2 _ (mcO _ (mcO _ (mcO _ mcS)))) (by omega))).cons (off3 (hC.2 _ (mcO _ (mcO _ mcS))) (by omega))).cons (off3 (hC.2 _ (mcO _ mcS)) hne)).cons (aW.reg3 hd 1 0 0)
   clear aW alt bW blt yW ylt i0 i1 i2 if0 if1 if2 p0 p1 p2 p3 p4 p5 ltS hC hB5
   refine z0n (C := Blk w [(L, .cells (z06 (p + 1) (y.putReg d ⟨1, 0, 0⟩)) 76 (0, 0)), (K, .cells (z06 (p + (1 + o)) y) 76 (0, 0)), (w.heap.size, .cells (z06 p y) 76 (0, 0)), (w.heap.size + 1, .cells #[vI vK c, vI vK d, vI vK s, .bool r, vI vK o, vI vK n] 59 (0, 0))]) (n0 := w.heap.size) 6 [] [] (by kernel_rfl) (by kernel_rfl) (fun d _ _ _ _ h => by cases d <;> exact h) (Blk.stable _ _) (Blk.room0 _ _) hK7.drew trivial ?_
   simp only [List.take_succ_cons, List.take_zero, List.drop_succ_cons, List.drop_zero, List.length_nil, Nat.reduceAdd]
   repeat (first
    | (refine z0k (by rfl) ?_; simp only [Act.put, siA, scZ, scS])
    | (refine z0b (by rfl) (v := ?_) ?_ ?_; rotate_left; (intro w2 hC; have aW : z05 _ L _ _ := (hC.2 _ mcS); have alt := aW.lt; have bW : z05 _ K _ _ := (hC.2 _ (mcO _ mcS)); have blt := bW.lt; have yW : z05 _ w.heap.size _ _ := (hC.2 _ (mcO _ (mcO _ mcS))); have ylt := yW.lt; obtain ⟨p0, p1, p2, p3, p4, p5, ltS⟩ := row6 (hC.2 _ (mcO _ (mcO _ (mcO _ mcS)))); go_simp; try with_reducible rfl); simp only [Act.put, siA, scZ, scS])
    | (refine z0p (by rfl) ?_; apply Exists.intro; refine ⟨fun w2 hC => ?_, ?_⟩; (have aW : z05 _ L _ _ := (hC.2 _ mcS); have alt := aW.lt; have bW : z05 _ K _ _ := (hC.2 _ (mcO _ mcS)); have blt := bW.lt; have yW : z05 _ w.heap.size _ _ := (hC.2 _ (mcO _ (mcO _ mcS))); have ylt := yW.lt; obtain ⟨p0, p1, p2, p3, p4, p5, ltS⟩ := row6 (hC.2 _ (mcO _ (mcO _ (mcO _ mcS)))); go_simp; apply z0v; first | (go_at_call 39; exact z2t 0 w2)); simp only [Act.put, siA, scZ, scS]))
   refine z0t ?_
   intro w6 hC hB6
   have aW : z05 _ L _ _ := (hC.2 _ mcS); have alt := aW.lt; have bW : z05 _ K _ _ := (hC.2 _ (mcO _ mcS)); have blt := bW.lt; have yW : z05 _ w.heap.size _ _ := (hC.2 _ (mcO _ (mcO _ mcS))); have ylt := yW.lt; obtain ⟨p0, p1, p2, p3, p4, p5, ltS⟩ := row6 (hC.2 _ (mcO _ (mcO _ (mcO _ mcS))))
   obtain ⟨i0, i1, i2⟩ := bW.reg hd
   have if0 := bW.frozen (1 + d * 3)
   have if1 := bW.frozen (1 + d * 3 + 1)
   have if2 := bW.frozen (1 + d * 3 + 2)
   go_upto_region 8 with fail
   have hbw6 := hC.1
   have hK8 : Blk w [(L, .cells (z06 (p + 1) (y.putReg d ⟨1, 0, 0⟩)) 76 (0, 0)), (K, .cells (z06 (p + (1 + o)) (y.putReg d ⟨4, 0, 0⟩)) 76 (0, 0))] (((w6.setCell ⟨K, 1 + d * 3, none⟩ (vI vK 4)).setCell ⟨K, 1 + d * 3 + 1, none⟩ (vI vK 0)).setCell ⟨K, 1 + d * 3 + 2, none⟩ (vI vK 0)) := ((Blk.nil (by repeat' first | with_reducible (first | exact hbw6 | refine z08 ?_ ?_ _ | refine bS ?_ ?_ _ | refine bA ?_ ?_ _) | ((try dsimp only); omega) | (simp; omega))).cons (bW.reg3 hd 4 0 0)).cons (off3 (hC.2 _ mcS) hne')
   clear aW alt bW blt yW ylt i0 i1 i2 if0 if1 if2 p0 p1 p2 p3 p4 p5 ltS hC hB6
   go_step
   (refine wpList_load_row rfl 76 (.tmp 5) rfl L rfl 76 (z06 (p + 1) (y.putReg d ⟨1, 0, 0⟩)) (0, 0) _ (hK8.2 _ mcS) Tryz.underlying76 rfl (z0q _ _) ?_)
   (refine wpList_load_row rfl 76 (.tmp 6) rfl K rfl 76 (z06 (p + (1 + o)) (y.putReg d ⟨4, 0, 0⟩)) (0, 0) _ (hK8.2 _ (mcO _ mcS)) Tryz.underlying76 rfl (z0q _ _) ?_)
   refine z7q rfl (.tmp 39) (.tmp 40) (p + 1) (p + (1 + o)) (y.putReg d ⟨1, 0, 0⟩) (y.putReg d ⟨4, 0, 0⟩) rfl rfl rfl ?_
   simp only [Act.put, siA, scZ, scS]
   go_wp2_with fail
   go_ret
   have hbwE := hK8.1
   have hsE := hbwE.size
   have hm := z0g.made (((w6.setCell ⟨K, 1 + d * 3, none⟩ (vI vK 4)).setCell ⟨K, 1 + d * 3 + 1, none⟩ (vI vK 0)).setCell ⟨K, 1 + d * 3 + 2, none⟩ (vI vK 0)) w.heap.size [((p + 1), y.putReg d ⟨1, 0, 0⟩), ((p + (1 + o)), y.putReg d ⟨4, 0, 0⟩)] hbwE.size (by unfold maxLen; simp)
   simp only [z0o] at hm hsE
   exact ⟨_, rfl, by simpa using hm, (by repeat' first | with_reducible (first | exact hbwE | refine z08 ?_ ?_ _ | refine bS ?_ ?_ _ | refine bA ?_ ?_ _) | ((try dsimp only); omega) | (simp; omega))⟩
  ·go_upto_region 3 with fail
   go_step
   (refine wpList_load_row rfl 76 (.tmp 6) rfl K rfl 76 (z06 (p + 1) y) (0, 0) _ (hK1.2 _ (mcO _ mcS)) Tryz.underlying76 rfl (z0q _ _) ?_)
   (refine wpList_load_row rfl 76 (.tmp 5) rfl L rfl 76 (z06 (p + (1 + o)) y) (0, 0) _ (hK1.2 _ mcS) Tryz.underlying76 rfl (z0q _ _) ?_)
   (refine wpList_store_row rfl 76 (.tmp 5) (.tmp 16) rfl L (z06 (p + 1) y) rfl rfl 76 _ (hK1.2 _ mcS) (z0q _ _) (by first | rw [z1w, z0h] | rw [z0h, z0h]) (z2a _ _) ?_)
   (refine wpList_store_row rfl 76 (.tmp 6) (.tmp 17) rfl K (z06 (p + (1 + o)) y) rfl rfl 76 _ ((setRow_other _ L _ _ hne).trans (hK1.2 _ (mcO _ mcS))) (z0q _ _) (by first | rw [z1w, z0h] | rw [z0h, z0h]) (z2a _ _) ?_)
   simp only [Act.put, siA, scZ, scS]
   have hbw1 := hK1.1
   have hK2 : Blk w [(L, .cells (z06 (p + 1) y) 76 (0, 0)), (K, .cells (z06 (p + (1 + o)) y) 76 (0, 0)), (w.heap.size, .cells (z06 p y) 76 (0, 0)), (w.heap.size + 1, .cells #[vI vK c, vI vK d, vI vK s, .bool r, vI vK o, vI vK n] 59 (0, 0))] ((((w3.setRow L (z06 (p + (1 + o)) y)).setRow K (z06 (p + 1) y)).setRow L (z06 (p + 1) y)).setRow K (z06 (p + (1 + o)) y)) := ((((Blk.nil (by repeat' first | with_reducible (first | exact hbw1 | refine z08 ?_ ?_ _ | refine bS ?_ ?_ _ | refine bA ?_ ?_ _) | ((try dsimp only); omega) | (simp; omega))).cons ((setRow_other _ K _ _ n3).trans ((setRow_other _ L _ _ n1).trans (hK1.2 _ (mcO _ (mcO _ (mcO _ mcS))))))).cons ((setRow_other _ K _ _ n4).trans ((setRow_other _ L _ _ n2).trans (hK1.2 _ (mcO _ (mcO _ mcS)))))).cons (setRow_heap _ K _ (z06 (p + (1 + o)) y) 76 _ ((setRow_other _ L _ _ hne).trans (hK1.2 _ (mcO _ mcS))))).cons ((setRow_other _ K _ _ hne').trans (setRow_heap _ L _ (z06 (p + 1) y) 76 _ (hK1.2 _ mcS)))
   clear yW ylt i0 i1 i2 p0 p1 p2 p3 p4 p5 ltS
   have yW : z05 _ w.heap.size _ _ := (hK2.2 _ (mcO _ (mcO _ mcS))); have ylt := yW.lt; obtain ⟨i0, i1, i2⟩ := yW.reg hd; obtain ⟨p0, p1, p2, p3, p4, p5, ltS⟩ := row6 (hK2.2 _ (mcO _ (mcO _ (mcO _ mcS))))
   go_upto_region 5 with fail
   have hbK : ((((w3.setRow L (z06 (p + (1 + o)) y)).setRow K (z06 (p + 1) y)).setRow L (z06 (p + 1) y)).setRow K (z06 (p + (1 + o)) y)).heap[K]? = some (.cells (z06 (p + (1 + o)) y) 76) := hK2.2 _ (mcO _ mcS)
   clear yW ylt i0 i1 i2 p0 p1 p2 p3 p4 p5 ltS
   generalize ((((w3.setRow L (z06 (p + (1 + o)) y)).setRow K (z06 (p + 1) y)).setRow L (z06 (p + 1) y)).setRow K (z06 (p + (1 + o)) y)) = w9 at hbK hK2 ⊢
   go_step
   (refine wpList_load_row rfl 76 (.tmp 6) rfl K rfl 76 (z06 (p + (1 + o)) y) (0, 0) _ hbK Tryz.underlying76 rfl (z0q _ _) ?_)
   refine z1l rfl (.tmp 25) (p + (1 + o)) y rfl rfl ?_
   simp only [Act.put, siA, scZ, scS]
   go_wp2_with fail
   go_ret
   have hbwE := hK2.1
   have hsE := hbwE.size
   have hm := z0g.made w9 w.heap.size [((p + (1 + o)), y)] hbwE.size (by unfold maxLen; simp)
   exact ⟨_, rfl, by simpa using hm, (by repeat' first | with_reducible (first | exact hbwE | refine z08 ?_ ?_ _ | refine bS ?_ ?_ _ | refine bA ?_ ?_ _) | ((try dsimp only); omega) | (simp; omega))⟩
end Go.Proofs.YteenhdoaminkeaaGreatDoor
