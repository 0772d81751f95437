/-
 What package verify's askNumbers returns: which ways lead on from a step that asks, of two numbers. Conditions: the way is right; the step's code asks, and its numbers are few. What package verify's ask returns: which ways lead on from a step that asks. Conditions: the way is right; the step's code asks, and its numbers are few. What package verify's look returns: which ways lead on from a step. Conditions: the way is right; the step is right.
-/
import Derived.Test.YtbimlalhodibjaaGreatDoorJf18
set_option maxHeartbeats 40000000
open Go.Value renaming int → A
open Go.IntKind renaming i64 → D
open Go.RowKit.Below renaming alloc → bA, setCell → bS, drew → bD, refl → bF
set_option maxRecDepth 1000000
set_option linter.defProp false
set_option linter.unusedVariables false
set_option linter.unusedSimpArgs false
open Go.Ending renaming returned → rT
open Go.Value renaming pointer → pT
open Go.Obj renaming cells → cT
open Go.Proofs.Tryz renaming prog → tP
namespace Go.Proofs.YtbimlalhodibjaaGreatDoor
open Go.ChangeShapes Go.WideShapes Go.ChangeAt Go.RowKit
section
attribute [local simp] z00 z0d z07
theorem z0m {P : Program} {ops : Array Oper} {rest : List Oper} {o : Oper} {a : Act} {w : World} {Q : Exit -> Act -> World -> Prop} (hg : o.guard = none)
  (f : FuncId) (args : Array Value) (hrun : (execOp a.eval o).run P w = .ok (.enter f args) w) (v : Value) {R : World -> Prop}
  (hc : Calls P f args w fun e w' => e = rT v /\ R w') (h : ∀ w', R w' -> wpList P ops Q rest (a.put o.dst v) w') : wpList P ops Q (o :: rest) a w := by
 refine wpList_plain hg fun K hK => ?_
 unfold Oper.wp
 rw [hrun, Oper.upon_enter]
 refine hc.mono fun e w' hh => ?_
 obtain ⟨rfl, hr⟩ := hh
 exact hK _ _ (h w' hr)
theorem z03 {P : Program} {ops : Array Oper} {rest : List Oper} {o : Oper} {a : Act} {w : World} {Q : Exit -> Act -> World -> Prop} (hg : o.guard = none)
  (v : Value) (w' : World) (hrun : (execOp a.eval o).run P w = .ok (.value v) w') (h : wpList P ops Q rest (a.put o.dst v) w') : wpList P ops Q (o :: rest) a w := by
 refine wpList_plain hg fun K hK => ?_
 unfold Oper.wp
 rw [hrun, Oper.upon_value]
 exact hK _ _ h
theorem z6w {ops : Array Oper} {rest : List Oper} {o : Oper} {a : Act} {w : World} {Q : Exit -> Act -> World -> Prop} (hg : o.guard = none) (s x : Operand) (ho : o.op = .call { callee := .builtin .append, args := #[s, x], argTypes := #[207, 207] })
  (base : Nat) (v : Value) (l : List (Int × Way)) (hs : a.eval s = v) (hw : z0b w base v l) (p : Int) (y : Way) (hx : a.eval x = .slice (some ⟨w.heap.size, 0, none⟩) 1 1) (hl : l.length <= 1000000) (hb : base <= w.heap.size)
  (h : ∀ v' w', z0b w' base v' (l ++ [(p, y)]) -> w.grownBy w' v.ownBlock -> wpList tP ops Q rest (a.put o.dst v') w') : wpList tP ops Q (o :: rest) a (w.alloc (cT (z0q [(p, y)]).toArray 205)) := by
 obtain ⟨i0, hi, hz0, hz1, hz2⟩ := info_parts Tryz.infoWz
 have e1 : z0q [(p, y)] = (z05 p y).toList := by unfold z0q; simp
 refine wpList_append_own _ hg s x 207 ho base 205 i0 _ 82 656 Tryz.underlying207 hi hz0 hz1 hz2 z1s (by decide) v l.length (z0q l) hs (hw.alloc _) ⟨w.heap.size, 0, none⟩ 1 1 (z0q [(p, y)]) hx (by rw [z25]; rfl) ?_ ?_ (by unfold maxLen; omega) (by omega) (by simp; omega) ?_
 ·intro j u hu
  rw [e1] at hu ⊢
  have hadd : (⟨w.heap.size, 0, none⟩ : Addr).add j = ⟨w.heap.size, j, none⟩ := by unfold Addr.add; split <;> simp_all
  rw [hadd, cell_of_row _ w.heap.size j _ 205 (0, 0) (heap_alloc_new w _)]
  simpa using hu
 ·intro u hu
  rw [e1] at hu
  exact (Array.all_eq_true_iff_forall_mem.1 (z26 p y)) u (Array.mem_toList_iff.1 hu)
 ·intro v' w' h1 h2 _
  refine h v' w' ?_ ⟨h2.os, h2.tape, h2.output, Nat.le_trans (by simp) h2.size, fun k hk hne => (h2.block k (by simp; omega) hne).trans (heap_alloc_old w _ hk)⟩
  show w'.ownsRow base 205 82 v' (l ++ [(p, y)]).length (z0q (l ++ [(p, y)]))
  rw [z4s, List.length_append, <- e1]
  exact h1
theorem Blk.wayRow {w0 w : World} {F : List (Nat × Obj)} (h : Blk w0 F w) (p : Int) (y : Way) : Blk w0 ((w.heap.size, cT (z05 p y) 205 (0, 0)) :: F) ((w.alloc (cT Tryz.zeroCells205 205 (0, 0))).setRow w.heap.size (z05 p y)) := by
 have hs := h.1.size
 refine Blk.cons ⟨z06 (h.1.alloc hs _) hs _, fun x hx => ?_⟩ (z04.setRow (heap_alloc_new _ _) p y)
 have hl := (Array.getElem?_eq_some_iff.1 (h.2 x hx)).1
 exact (setRow_other _ _ _ _ (Nat.ne_of_lt hl)).trans ((heap_alloc_old _ _ hl).trans (h.2 x hx))
theorem z0b.off {w w' : World} {base B : Nat} {v : Value} {l : List (Int × Way)} (h : z0b w base v l) (hk : Kept B w w') (hB : ∀ k, v.ownBlock = some k -> k ≠ B) : z0b w' base v l :=
 World.ownsRow.kept (w' := w') (row := some B) h hk (Or.inr fun e => hB B e rfl)
theorem z0b.above {w : World} {base : Nat} {v : Value} {l : List (Int × Way)} (h : z0b w base v l) : ∀ k, v.ownBlock = some k -> base <= k /\ k < w.heap.size := World.ownsRow.lt h
theorem zKk (w : World) (g : Nat) (cs : Array Value) : Kept g w (w.setRow g cs) :=
 ⟨rfl, rfl, rfl, by rw [setRow_size]; exact Nat.le_refl _, fun k _ hne => setRow_other _ _ _ _ (fun e => hne (congrArg some e))⟩
theorem zSv (d s : Nat) (c o n p : Int) (r b1 b2 : Bool) (y y1 y2 : Way) (hc : 15 <= c /\ c <= 24) (hp0 : 0 <= p) (hp1 : p <= 1000) (ho0 : 0 <= o) (ho1 : o <= 1000) (HN1 : Hid (∀ (W : World) (B : Nat), z04 W B (p + 1) y -> Calls tP 175 #[pT (some ⟨B, 0, none⟩), .agg #[A D c, A D d, A D s, .bool r, A D o, A D n], A D (oppV c)] W fun e w' => e = rT (.bool b1) /\ Kept B W w' /\ z04 w' B (p + 1) y1)) (HN2 : Hid (∀ (W : World) (B : Nat), z04 W B (p + (1 + o)) y -> Calls tP 175 #[pT (some ⟨B, 0, none⟩), .agg #[A D c, A D d, A D s, .bool r, A D o, A D n], A D c] W fun e w' => e = rT (.bool b2) /\ Kept B W w' /\ z04 w' B (p + (1 + o)) y2)) (w : World) :
  Calls tP 137 #[.agg (z05 p y), .agg #[A D c, A D d, A D s, .bool r, A D o, A D n]] w fun e w' => ∃ v, e = rT v /\ z0b w' w.heap.size v ((if b1 = true then [((p + 1), y1)] else []) ++ (if b2 = true then [((p + (1 + o)), y2)] else [])) /\ Below w.heap.size w w' := by
 have hK0 : Blk w [(w.heap.size, cT (z05 p y) 205 (0, 0)), (w.heap.size + 1, cT #[A D c, A D d, A D s, .bool r, A D o, A D n] 80 (0, 0))] _ := ((Blk.nil (((bF _ _).alloc (Nat.le_refl _) _).alloc (by simp) _)).cons (heap_alloc2_new w (cT (z05 p y) 205) (cT #[A D c, A D d, A D s, .bool r, A D o, A D n] 80))).cons ((z04.start w p y).alloc (cT #[A D c, A D d, A D s, .bool r, A D o, A D n] 80))
 go_enter Tryz.func137, Tryz.ntmps137
 go_upto_region 2 with fail
 generalize ((w.alloc (cT (z05 p y) 205)).alloc (cT #[A D c, A D d, A D s, .bool r, A D o, A D n] 80)) = w1 at hK0 ⊢
 go_step
 (refine wpList_load_row rfl 205 (.tmp 2) rfl w.heap.size rfl 205 (z05 p y) (0, 0) _ (hK0.2 _ mcS) Tryz.underlying205 rfl (z0n _ _) ?_)
 simp only [Act.put, siA, scZ, scS]
 (refine z0m rfl 102 #[.agg (z05 p y), A D 0] (by go_simp; try rfl) (.agg (z05 (p + 1) y)) (z8l p y hp0 hp1 w1) ?_)
 intro w3 hB
 have hC := hK0.later hB
 simp only [Act.put, siA, scZ, scS]
 (refine z03 rfl (pT (some ⟨w3.heap.size, 0, none⟩)) (w3.alloc (cT Tryz.zeroCells205 205 (0, 0))) (by go_simp; try rfl) ?_)
 simp only [Act.put, siA, scZ, scS]
 (refine wpList_store_row rfl 205 (.tmp 6) (.tmp 9) rfl w3.heap.size (z05 (p + 1) y) rfl rfl 205 _ (heap_alloc_new _ _) (z0n _ _) (by first | rw [z1s, z0c] | rw [z0c, z0c]) (z26 _ _) ?_)
 simp only [Act.put]
 have hC3 := hC.wayRow (p + 1) y
 have hW3 := hC3.2 _ mcS
 have lt3 := hC.lt (mcO _ mcS)
 clear hC hB hK0
 generalize ((w3.alloc (cT Tryz.zeroCells205 205 (0, 0))).setRow w3.heap.size (z05 (p + 1) y)) = w4 at hC3 hW3 ⊢
 generalize w3.heap.size = B3 at hC3 hW3 lt3 ⊢
 go_upto_region 3 with fail
 refine z0l (C := Blk w [(B3, cT (z05 (p + 1) y) 205 (0, 0)), (w.heap.size, cT (z05 p y) 205 (0, 0)), (w.heap.size + 1, cT #[A D c, A D d, A D s, .bool r, A D o, A D n] 80 (0, 0))]) (n0 := w.heap.size) 4 [] [] (by kernel_rfl) (by kernel_rfl) (fun d _ _ _ _ h => by cases d <;> exact h) (Blk.stable _ _) (Blk.room0 _ _) hC3.drew trivial ?_
 simp only [List.take_succ_cons, List.take_zero, List.drop_succ_cons, List.drop_zero, List.length_nil, Nat.reduceAdd]
 repeat (first
  | (refine z0i (by rfl) ?_; simp only [Act.put, siA, scZ, scS])
  | (refine z0a (by rfl) (v := ?_) ?_ ?_; rotate_left; (intro w2 hC; have yW : z04 _ w.heap.size _ _ := (hC.2 _ (mcO _ mcS)); have ylt := yW.lt; obtain ⟨p0, p1, p2, p3, p4, p5, ltS⟩ := row6 (hC.2 _ (mcO _ (mcO _ mcS))); go_simp; try with_reducible rfl); simp only [Act.put, siA, scZ, scS])
  | (refine z0v (by rfl) ?_; apply Exists.intro; refine ⟨fun w2 hC => ?_, ?_⟩; (have yW : z04 _ w.heap.size _ _ := (hC.2 _ (mcO _ mcS)); have ylt := yW.lt; obtain ⟨p0, p1, p2, p3, p4, p5, ltS⟩ := row6 (hC.2 _ (mcO _ (mcO _ mcS))); go_simp; apply z16; first | (go_at_call 176; exact ((opp_is c hc w2).mono fun _ _ h => ⟨h.1, h.2 ▸ bF _ _⟩))); simp only [Act.put, siA, scZ, scS]))
 refine z0r ?_
 intro w5 hC hB5
 (refine z0m rfl 175 #[pT (some ⟨B3, 0, none⟩), .agg #[A D c, A D d, A D s, .bool r, A D o, A D n], A D (oppV c)] (by go_simp; try rfl) (.bool b1) (HN1.out w5 B3 (hC.2 _ mcS)) ?_)
 intro w6 hq
 obtain ⟨hk6, hW6⟩ := hq
 simp only [Act.put, siA, scZ, scS]
 have hC6 := (Blk.more (F' := [(w.heap.size, cT (z05 p y) 205 (0, 0)), (w.heap.size + 1, cT #[A D c, A D d, A D s, .bool r, A D o, A D n] 80 (0, 0))]) hC (by intro x hx; simp at hx ⊢; rcases hx with rfl | rfl <;> simp)).grown (b := B3) hk6 (fun k e => Nat.le_of_eq (Option.some.inj e)) (by omega) (by simp; omega)
 have sz6 := hC6.lt (mcO _ mcS)
 have hA6 := z0b.nil w6 (w.heap.size + 2)
 clear hC hB5 hk6 hC3 hW3
 cases b1
 ·go_upto_region 5 with fail
  have sz7 := hC6.lt (mcO _ mcS)
  have yW : z04 _ w.heap.size _ _ := (hC6.2 _ mcS); have ylt := yW.lt; obtain ⟨p0, p1, p2, p3, p4, p5, ltS⟩ := row6 (hC6.2 _ (mcO _ mcS))
  go_step
  (refine wpList_load_row rfl 205 (.tmp 2) rfl w.heap.size rfl 205 (z05 p y) (0, 0) _ (hC6.2 _ mcS) Tryz.underlying205 rfl (z0n _ _) ?_)
  simp only [Act.put, siA, scZ, scS]
  (refine z03 rfl (pT (some ⟨w.heap.size + 1, 4, none⟩)) w6 (by go_simp; try rfl) ?_); simp only [Act.put, siA, scZ, scS]
  (refine z03 rfl (A D o) w6 (by go_simp; try rfl) ?_); simp only [Act.put, siA, scZ, scS]
  (refine z0m rfl 102 #[.agg (z05 p y), A D o] (by go_simp; try rfl) (.agg (z05 (p + (1 + o)) y)) (zG6 p o y hp0 hp1 ho0 ho1 w6) ?_)
  intro w8 hB
  have hC8 := hC6.later hB
  have hA8 := hA6.later hB
  simp only [Act.put, siA, scZ, scS]
  (refine z03 rfl (pT (some ⟨w8.heap.size, 0, none⟩)) (w8.alloc (cT Tryz.zeroCells205 205 (0, 0))) (by go_simp; try rfl) ?_)
  simp only [Act.put, siA, scZ, scS]
  (refine wpList_store_row rfl 205 (.tmp 7) (.tmp 22) rfl w8.heap.size (z05 (p + (1 + o)) y) rfl rfl 205 _ (heap_alloc_new _ _) (z0n _ _) (by first | rw [z1s, z0c] | rw [z0c, z0c]) (z26 _ _) ?_)
  simp only [Act.put]
  have hC9 := hC8.wayRow (p + (1 + o)) y
  have hA9 := z0b.off (hA8.alloc (cT Tryz.zeroCells205 205 (0, 0))) (B := w8.heap.size) (zKk _ _ (z05 (p + (1 + o)) y)) (fun k e => Nat.ne_of_lt (hA8.above k e).2)
  have hW9 := hC9.2 _ mcS
  have lt9 := hC8.lt (mcO _ mcS)
  have ab9 := fun k e => (hA8.above k e).2
  clear hC8 hA8 hB hC6 hA6 yW ylt p0 p1 p2 p3 p4 p5 ltS
  generalize ((w8.alloc (cT Tryz.zeroCells205 205 (0, 0))).setRow w8.heap.size (z05 (p + (1 + o)) y)) = w9 at hC9 hW9 hA9 ⊢
  generalize w8.heap.size = B9 at hC9 hW9 lt9 ab9 ⊢
  go_upto_region 6 with fail
  have yW : z04 _ w.heap.size _ _ := (hC9.2 _ (mcO _ mcS)); have ylt := yW.lt; obtain ⟨p0, p1, p2, p3, p4, p5, ltS⟩ := row6 (hC9.2 _ (mcO _ (mcO _ mcS)))
  go_step
  (refine z03 rfl (.agg #[A D c, A D d, A D s, .bool r, A D o, A D n]) w9 (by go_simp; try rfl) ?_); simp only [Act.put, siA, scZ, scS]
  (refine z03 rfl (pT (some ⟨w.heap.size + 1, 0, none⟩)) w9 (by go_simp; try rfl) ?_); simp only [Act.put, siA, scZ, scS]
  (refine z03 rfl (A D c) w9 (by go_simp; try rfl) ?_); simp only [Act.put, siA, scZ, scS]
  (refine z0m rfl 175 #[pT (some ⟨B9, 0, none⟩), .agg #[A D c, A D d, A D s, .bool r, A D o, A D n], A D c] (by go_simp; try rfl) (.bool b2) (HN2.out w9 B9 hW9) ?_)
  intro w10 hq
  obtain ⟨hk10, hW10⟩ := hq
  simp only [Act.put, siA, scZ, scS]
  have hC10 := (Blk.more (F' := [(w.heap.size, cT (z05 p y) 205 (0, 0)), (w.heap.size + 1, cT #[A D c, A D d, A D s, .bool r, A D o, A D n] 80 (0, 0))]) hC9 (by intro x hx; simp at hx ⊢; rcases hx with rfl | rfl <;> simp)).grown (b := B9) hk10 (fun k e => Nat.le_of_eq (Option.some.inj e)) (by omega) (by simp; omega)
  have sz10 := hC10.lt (mcO _ mcS)
  have hA10 := hA9.off hk10 (fun k e => Nat.ne_of_lt (ab9 k e))
  clear hC9 hA9 hW9 hk10 ab9 yW ylt p0 p1 p2 p3 p4 p5 ltS
  cases b2
  ·go_wp2_with fail
   go_ret
   exact ⟨_, rfl, by have h := z0b.mono hA10 (base' := w.heap.size) (by omega); simpa using h, hC10.1⟩
  ·go_upto_region 7 with fail
   go_step
   (refine z03 rfl (.slice none 0 0) w10 (by go_simp; try rfl) ?_); simp only [Act.put, siA, scZ, scS]
   (refine wpList_load_row rfl 205 (.tmp 7) rfl B9 rfl 205 (z05 (p + (1 + o)) y2) (0, 0) _ hW10 Tryz.underlying205 rfl (z0n _ _) ?_)
   refine z1h rfl (.tmp 28) (p + (1 + o)) y2 rfl rfl ?_
   simp only [Act.put, siA, scZ, scS]
   refine z6w rfl (.tmp 27) (.tmp 29) rfl (w.heap.size + 2) (.slice none 0 0) [] rfl hA10 (p + (1 + o)) y2 rfl (by simp) (by omega) ?_
   intro v11 w11 hA11 hgw11
   have hC11 := hC10.grown (b := w.heap.size + 2) hgw11 (fun k e => (hA10.above k e).1) (by omega) (by simp)
   simp only [List.nil_append] at hA11
   simp only [Act.put, siA, scZ, scS]
   go_wp2_with fail
   go_ret
   exact ⟨_, rfl, by have h := z0b.mono hA11 (base' := w.heap.size) (by omega); simpa using h, hC11.1⟩
 ·go_upto_region 4 with fail
  go_step
  (refine z03 rfl (.slice none 0 0) w6 (by go_simp; try rfl) ?_); simp only [Act.put, siA, scZ, scS]
  (refine wpList_load_row rfl 205 (.tmp 6) rfl B3 rfl 205 (z05 (p + 1) y1) (0, 0) _ hW6 Tryz.underlying205 rfl (z0n _ _) ?_)
  refine z1h rfl (.tmp 16) (p + 1) y1 rfl rfl ?_
  simp only [Act.put, siA, scZ, scS]
  refine z6w rfl (.tmp 15) (.tmp 17) rfl (w.heap.size + 2) (.slice none 0 0) [] rfl hA6 (p + 1) y1 rfl (by simp) (by omega) ?_
  intro v7 w7 hA7 hgw7
  have hC7 := hC6.grown (b := w.heap.size + 2) hgw7 (fun k e => (hA6.above k e).1) (by omega) (by simp)
  simp only [List.nil_append] at hA7
  simp only [Act.put, siA, scZ, scS]
  clear hC6 hA6 hW6 hgw7
  go_upto_region 5 with fail
  have sz7 := hC7.lt (mcO _ mcS)
  have yW : z04 _ w.heap.size _ _ := (hC7.2 _ mcS); have ylt := yW.lt; obtain ⟨p0, p1, p2, p3, p4, p5, ltS⟩ := row6 (hC7.2 _ (mcO _ mcS))
  go_step
  (refine wpList_load_row rfl 205 (.tmp 2) rfl w.heap.size rfl 205 (z05 p y) (0, 0) _ (hC7.2 _ mcS) Tryz.underlying205 rfl (z0n _ _) ?_)
  simp only [Act.put, siA, scZ, scS]
  (refine z03 rfl (pT (some ⟨w.heap.size + 1, 4, none⟩)) w7 (by go_simp; try rfl) ?_); simp only [Act.put, siA, scZ, scS]
  (refine z03 rfl (A D o) w7 (by go_simp; try rfl) ?_); simp only [Act.put, siA, scZ, scS]
  (refine z0m rfl 102 #[.agg (z05 p y), A D o] (by go_simp; try rfl) (.agg (z05 (p + (1 + o)) y)) (zG6 p o y hp0 hp1 ho0 ho1 w7) ?_)
  intro w8 hB
  have hC8 := hC7.later hB
  have hA8 := hA7.later hB
  simp only [Act.put, siA, scZ, scS]
  (refine z03 rfl (pT (some ⟨w8.heap.size, 0, none⟩)) (w8.alloc (cT Tryz.zeroCells205 205 (0, 0))) (by go_simp; try rfl) ?_)
  simp only [Act.put, siA, scZ, scS]
  (refine wpList_store_row rfl 205 (.tmp 7) (.tmp 22) rfl w8.heap.size (z05 (p + (1 + o)) y) rfl rfl 205 _ (heap_alloc_new _ _) (z0n _ _) (by first | rw [z1s, z0c] | rw [z0c, z0c]) (z26 _ _) ?_)
  simp only [Act.put]
  have hC9 := hC8.wayRow (p + (1 + o)) y
  have hA9 := z0b.off (hA8.alloc (cT Tryz.zeroCells205 205 (0, 0))) (B := w8.heap.size) (zKk _ _ (z05 (p + (1 + o)) y)) (fun k e => Nat.ne_of_lt (hA8.above k e).2)
  have hW9 := hC9.2 _ mcS
  have lt9 := hC8.lt (mcO _ mcS)
  have ab9 := fun k e => (hA8.above k e).2
  clear hC8 hA8 hB hC7 hA7 yW ylt p0 p1 p2 p3 p4 p5 ltS
  generalize ((w8.alloc (cT Tryz.zeroCells205 205 (0, 0))).setRow w8.heap.size (z05 (p + (1 + o)) y)) = w9 at hC9 hW9 hA9 ⊢
  generalize w8.heap.size = B9 at hC9 hW9 lt9 ab9 ⊢
  go_upto_region 6 with fail
  have yW : z04 _ w.heap.size _ _ := (hC9.2 _ (mcO _ mcS)); have ylt := yW.lt; obtain ⟨p0, p1, p2, p3, p4, p5, ltS⟩ := row6 (hC9.2 _ (mcO _ (mcO _ mcS)))
  go_step
  (refine z03 rfl (.agg #[A D c, A D d, A D s, .bool r, A D o, A D n]) w9 (by go_simp; try rfl) ?_); simp only [Act.put, siA, scZ, scS]
  (refine z03 rfl (pT (some ⟨w.heap.size + 1, 0, none⟩)) w9 (by go_simp; try rfl) ?_); simp only [Act.put, siA, scZ, scS]
  (refine z03 rfl (A D c) w9 (by go_simp; try rfl) ?_); simp only [Act.put, siA, scZ, scS]
  (refine z0m rfl 175 #[pT (some ⟨B9, 0, none⟩), .agg #[A D c, A D d, A D s, .bool r, A D o, A D n], A D c] (by go_simp; try rfl) (.bool b2) (HN2.out w9 B9 hW9) ?_)
  intro w10 hq
  obtain ⟨hk10, hW10⟩ := hq
  simp only [Act.put, siA, scZ, scS]
  have hC10 := (Blk.more (F' := [(w.heap.size, cT (z05 p y) 205 (0, 0)), (w.heap.size + 1, cT #[A D c, A D d, A D s, .bool r, A D o, A D n] 80 (0, 0))]) hC9 (by intro x hx; simp at hx ⊢; rcases hx with rfl | rfl <;> simp)).grown (b := B9) hk10 (fun k e => Nat.le_of_eq (Option.some.inj e)) (by omega) (by simp; omega)
  have sz10 := hC10.lt (mcO _ mcS)
  have hA10 := hA9.off hk10 (fun k e => Nat.ne_of_lt (ab9 k e))
  clear hC9 hA9 hW9 hk10 ab9 yW ylt p0 p1 p2 p3 p4 p5 ltS
  cases b2
  ·go_wp2_with fail
   go_ret
   exact ⟨_, rfl, by have h := z0b.mono hA10 (base' := w.heap.size) (by omega); simpa using h, hC10.1⟩
  ·go_upto_region 7 with fail
   go_step
   (refine z03 rfl v7 w10 (by go_simp; try rfl) ?_); simp only [Act.put, siA, scZ, scS]
   (refine wpList_load_row rfl 205 (.tmp 7) rfl B9 rfl 205 (z05 (p + (1 + o)) y2) (0, 0) _ hW10 Tryz.underlying205 rfl (z0n _ _) ?_)
   refine z1h rfl (.tmp 28) (p + (1 + o)) y2 rfl rfl ?_
   simp only [Act.put, siA, scZ, scS]
   refine z6w rfl (.tmp 27) (.tmp 29) rfl (w.heap.size + 2) v7 [((p + 1), y1)] rfl hA10 (p + (1 + o)) y2 rfl (by simp) (by omega) ?_
   intro v11 w11 hA11 hgw11
   have hC11 := hC10.grown (b := w.heap.size + 2) hgw11 (fun k e => (hA10.above k e).1) (by omega) (by simp)
   simp only [List.nil_append, List.cons_append] at hA11
   simp only [Act.put, siA, scZ, scS]
   go_wp2_with fail
   go_ret
   exact ⟨_, rfl, by have h := z0b.mono hA11 (base' := w.heap.size) (by omega); simpa using h, hC11.1⟩
theorem z0p {P : Program} {ops : Array Oper} {rest : List Oper} {o : Oper} {a : Act} {w : World} {Q : Exit -> Act -> World -> Prop} (hg : o.guard = none)
  (f : FuncId) (args : Array Value) (hrun : (execOp a.eval o).run P w = .ok (.enter f args) w) {R : Value -> World -> Prop}
  (hc : Calls P f args w fun e w' => ∃ v, e = rT v /\ R v w') (h : ∀ v w', R v w' -> wpList P ops Q rest (a.put o.dst v) w') : wpList P ops Q (o :: rest) a w := by
 refine wpList_plain hg fun K hK => ?_
 unfold Oper.wp
 rw [hrun, Oper.upon_enter]
 refine hc.mono fun e w' hh => ?_
 obtain ⟨v, rfl, hr⟩ := hh
 exact hK _ _ (h v w' hr)
theorem zOr {d s : Nat} {c o n p : Int} {r : Bool} {y : Way} (hd : d < 11) (hs : s < 11) (hc : 15 <= c /\ c <= 24) (hp0 : 0 <= p) (hp1 : p <= 1000) (ho0 : 0 <= o) (ho1 : o <= 1000) (hy : y.Ok) (hn : In64 n) (w : World) :
  Calls tP 137 #[.agg (z05 p y), .agg #[A D c, A D d, A D s, .bool r, A D o, A D n]] w fun e w' => ∃ v, e = rT v /\ z0b w' w.heap.size v ((y.askNumbers c d s r o n).map fun x => (p + (1 + x.1), x.2)) /\ Below w.heap.size w w' := by
 have HN1 := fun (W : World) (B : Nat) (hW : z04 W B (p + 1) y) => z9v (c := c) (o := o) (r := r) (code := oppV c) hd hs hy hn hW
 have HN2 := fun (W : World) (B : Nat) (hW : z04 W B (p + (1 + o)) y) => z9v (c := c) (o := o) (r := r) (code := c) hd hs hy hn hW
 unfold Way.askNumbers
 generalize y.narrow (oppV c) d s r n = z1 at *
 generalize y.narrow c d s r n = z2 at *
 obtain ⟨b1, y1⟩ := z1
 obtain ⟨b2, y2⟩ := z2
 have h := zSv d s c o n p r b1 b2 y y1 y2 hc hp0 hp1 ho0 ho1 HN1 HN2 w
 refine h.mono fun e w' hh => ?_
 obtain ⟨v, h1, h2, h3⟩ := hh
 refine ⟨v, h1, ?_, h3⟩
 cases b1 <;> cases b2 <;> simpa using h2
theorem zOq {d s : Nat} {c o n p : Int} {r : Bool} {y : Way} (hd : d < 11) (hs : s < 11) (hc : 15 <= c /\ c <= 24) (hp0 : 0 <= p) (hp1 : p <= 1000) (ho0 : 0 <= o) (ho1 : o <= 1000) (w : World) :
  Calls tP 138 #[.agg (z05 p y), .agg #[A D c, A D d, A D s, .bool r, A D o, A D n]] w fun e w' => ∃ v, e = rT v /\ z0b w' w.heap.size v ((y.askPlace c d o).map fun x => (p + (1 + x.1), x.2)) /\ Below w.heap.size w w' := by
 have h := zSu d s c o n p r y hd hp0 hp1 ho0 ho1 (c == 16) ((y.reg d).k != 5) rfl rfl w
 refine h.mono fun e w' hh => ?_
 obtain ⟨v, h1, h2, h3⟩ := hh
 refine ⟨v, h1, ?_, h3⟩
 unfold Way.askPlace
 by_cases e16 : c = 16 <;> by_cases e5 : (y.reg d).k = 5 <;> simpa [e16, e5, z1d] using h2
theorem zSw {d s : Nat} {c o n p : Int} {r : Bool} {y : Way} (hd : d < 11) (hs : s < 11) (hc : 15 <= c /\ c <= 24) (hp0 : 0 <= p) (hp1 : p <= 1000) (ho0 : 0 <= o) (ho1 : o <= 1000) (hy : y.Ok) (hn : In64 n) (w : World) :
  Calls tP 101 #[.agg (z05 p y), .agg #[A D c, A D d, A D s, .bool r, A D o, A D n]] w fun e w' => ∃ v, e = rT (.tuple #[v, A D (y.ask c d s r o n).2]) /\ z0b w' w.heap.size v ((y.ask c d s r o n).1.map fun x => (p + (1 + x.1), x.2)) /\ Below w.heap.size w w' := by
 have HA : Hid (∀ W : World, Calls tP 137 #[.agg (z05 p y), .agg #[A D c, A D d, A D s, .bool r, A D o, A D n]] W fun e w' => ∃ v, e = rT v /\ z0b w' W.heap.size v ((y.askNumbers c d s r o n).map fun x => (p + (1 + x.1), x.2)) /\ Below W.heap.size W w') := fun W => zOr (r := r) hd hs hc hp0 hp1 ho0 ho1 hy hn W
 have HP : Hid (∀ W : World, Calls tP 138 #[.agg (z05 p y), .agg #[A D c, A D d, A D s, .bool r, A D o, A D n]] W fun e w' => ∃ v, e = rT v /\ z0b w' W.heap.size v ((y.askPlace c d o).map fun x => (p + (1 + x.1), x.2)) /\ Below W.heap.size W w') := fun W => zOq (r := r) (n := n) (y := y) hd hs hc hp0 hp1 ho0 ho1 W
 clear hy hn hc hp0 hp1 ho0 ho1
 unfold Way.ask
 rcases hv : y.second s r n with ⟨bk, bl, bh⟩
 have HB : Hid (y.second s r n = ⟨bk, bl, bh⟩) := hv
 clear hv
 dsimp only
 rcases hX : (if (y.reg d).k = 0 \/ bk = 0 then (([] : List (Int × Way)), (8 : Int)) else if (y.reg d).k = 1 /\ bk = 1 then (y.askNumbers c d s r o n, 0) else if (c ≠ 15 /\ c ≠ 16) \/ r = true \/ n ≠ 0 then ([], 1) else (y.askPlace c d o, 0)) with ⟨ls, E⟩
 have HX : Hid ((if (y.reg d).k = 0 \/ bk = 0 then (([] : List (Int × Way)), (8 : Int)) else if (y.reg d).k = 1 /\ bk = 1 then (y.askNumbers c d s r o n, 0) else if (c ≠ 15 /\ c ≠ 16) \/ r = true \/ n ≠ 0 then ([], 1) else (y.askPlace c d o, 0)) = (ls, E)) := hX
 clear hX
 dsimp only
 have hK0 : Blk w [(w.heap.size, cT (z05 p y) 205 (0, 0)), (w.heap.size + 1, cT #[A D c, A D d, A D s, .bool r, A D o, A D n] 80 (0, 0))] _ := ((Blk.nil (((bF _ _).alloc (Nat.le_refl _) _).alloc (by simp) _)).cons (heap_alloc2_new w (cT (z05 p y) 205) (cT #[A D c, A D d, A D s, .bool r, A D o, A D n] 80))).cons ((z04.start w p y).alloc (cT #[A D c, A D d, A D s, .bool r, A D o, A D n] 80))
 have hd0 : (0 : Int) <= (d : Int) := by omega
 have hd1 : (d : Int) < 11 := by omega
 go_enter Tryz.func101, Tryz.ntmps101
 go_wp2_with fail
 refine z0l (C := Blk w [(w.heap.size, cT (z05 p y) 205 (0, 0)), (w.heap.size + 1, cT #[A D c, A D d, A D s, .bool r, A D o, A D n] 80 (0, 0))]) (n0 := w.heap.size + 1 + 1) 7 [] [cT #[A D 0, A D 0, A D 0] 201 (0, 0), cT #[A D 0, A D 0, A D 0] 201 (0, 0)] (by kernel_rfl) (by kernel_rfl) (fun d _ _ _ _ h => by cases d <;> exact h) (Blk.stable _ _) (Blk.room w (mcO _ mcS)) hK0.drew ⟨⟨rfl, fun a w2 hC => by go_simp; try rfl⟩, ⟨rfl, fun a w2 hC => by go_simp; try rfl⟩, trivial⟩ ?_
 simp only [List.take_succ_cons, List.take_zero, List.drop_succ_cons, List.drop_zero, List.length_cons, List.length_nil, Nat.reduceAdd]
 repeat (first
  | (refine z0i (by rfl) ?_; simp only [Act.put, siA, scZ, scS])
  | (refine z0a (by rfl) (v := ?_) ?_ ?_; rotate_left; (intro w2 hC; have yW : z04 _ w.heap.size _ _ := (hC.2 _ mcS); have ylt := yW.lt; obtain ⟨i0, i1, i2⟩ := yW.reg hd; obtain ⟨p0, p1, p2, p3, p4, p5, ltS⟩ := row6 (hC.2 _ (mcO _ mcS)); go_simp; try with_reducible rfl); simp only [Act.put, siA, scZ, scS])
  | (refine z0v (by rfl) ?_; apply Exists.intro; refine ⟨fun w2 hC => ?_, ?_⟩; (have yW : z04 _ w.heap.size _ _ := (hC.2 _ mcS); have ylt := yW.lt; obtain ⟨i0, i1, i2⟩ := yW.reg hd; obtain ⟨p0, p1, p2, p3, p4, p5, ltS⟩ := row6 (hC.2 _ (mcO _ mcS)); go_simp; apply z16; first | (go_at_call 136; exact (by have hq := z2d w.heap.size s c d o n r p y hs w2 yW; rw [HB.out] at hq; unfold Kno.v at hq; exact hq))); simp only [Act.put, siA, scZ, scS]))
 refine z0r ?_
 intro L h5 g5 K h6 g6 w3 hC hB3
 have hne : K ≠ L := (FB.upd_none h6).1
 have hne' : L ≠ K := fun e => hne e.symm
 have bK := hB3 K _ (FB.at_new _ _ _)
 have bL := hB3 L _ (FB.at_old hne' (FB.at_new _ _ _))
 obtain ⟨l0, l1, l2, lf0, lf1, lf2, llt⟩ := row3 bL
 obtain ⟨k0, k1, k2, kf0, kf1, kf2, klt⟩ := row3 bK
 have yW : z04 _ w.heap.size _ _ := (hC.2 _ mcS); have ylt := yW.lt; obtain ⟨i0, i1, i2⟩ := yW.reg hd; obtain ⟨p0, p1, p2, p3, p4, p5, ltS⟩ := row6 (hC.2 _ (mcO _ mcS))
 have hbw := hC.1
 have n1 : w.heap.size + 1 ≠ L := by omega
 have n2 : w.heap.size ≠ L := by omega
 have n3 : w.heap.size + 1 ≠ K := by omega
 have n4 : w.heap.size ≠ K := by omega
 simp only [z5f]
 go_upto_region 2 with fail
 have hK1 : Blk w [(L, cT #[A D (y.reg d).k, A D (y.reg d).l, A D (y.reg d).h] 201 (0, 0)), (K, cT #[A D bk, A D bl, A D bh] 201 (0, 0)), (w.heap.size, cT (z05 p y) 205 (0, 0)), (w.heap.size + 1, cT #[A D c, A D d, A D s, .bool r, A D o, A D n] 80 (0, 0))] (((((((w3.setCell ⟨L, 0, none⟩ (A D (y.reg d).k)).setCell ⟨L, 1, none⟩ (A D (y.reg d).l)).setCell ⟨L, 2, none⟩ (A D (y.reg d).h))).setCell ⟨K, 0, none⟩ (A D bk)).setCell ⟨K, 1, none⟩ (A D bl)).setCell ⟨K, 2, none⟩ (A D bh)) := ((((Blk.nil (by repeat' first | with_reducible (first | exact hbw | exact bF _ _ | refine bA ?_ ?_ _ | refine bS ?_ ?_ _ | refine bD ?_ | refine z06 ?_ ?_ _) | ((try dsimp only); omega) | (simp; done) | (simp; omega))).cons (off3 (off3 (hC.2 _ (mcO _ mcS)) n1) n3)).cons (off3 (off3 (hC.2 _ mcS) n2) n4)).cons (put3 (off3 bK hne))).cons (off3 (put3 bL) hne')
 clear l0 l1 l2 lf0 lf1 lf2 llt k0 k1 k2 kf0 kf1 kf2 klt p0 p1 p2 p3 p4 p5 ltS yW ylt i0 i1 i2
 clear hbw bL bK hB3 hC hK0 n1 n2 n3 n4 HB
 generalize (((((((w3.setCell ⟨L, 0, none⟩ (A D (y.reg d).k)).setCell ⟨L, 1, none⟩ (A D (y.reg d).l)).setCell ⟨L, 2, none⟩ (A D (y.reg d).h))).setCell ⟨K, 0, none⟩ (A D bk)).setCell ⟨K, 1, none⟩ (A D bl)).setCell ⟨K, 2, none⟩ (A D bh)) = w4 at hK1 ⊢
 obtain ⟨l0, l1, l2, lf0, lf1, lf2, llt⟩ := row3 (hK1.2 _ mcS); obtain ⟨k0, k1, k2, kf0, kf1, kf2, klt⟩ := row3 (hK1.2 _ (mcO _ mcS)); have yW : z04 _ w.heap.size _ _ := (hK1.2 _ (mcO _ (mcO _ mcS))); have ylt := yW.lt; obtain ⟨p0, p1, p2, p3, p4, p5, ltS⟩ := row6 (hK1.2 _ (mcO _ (mcO _ (mcO _ mcS))))
 have eX := HX.out
 clear HX
 by_cases h1 : (y.reg d).k = 0
 ·have x1 : ((y.reg d).k == 0) = true := by simp [h1]
  rw [if_pos (Or.inl h1)] at eX
  cases eX
  clear h1
  go_wp2_with fail
  exact bodyPost_ret (v := .tuple #[.slice none 0 0, A D 8]) (by simp [results, Tryz.results101, go_sem]) rfl ⟨_, rfl, z0b.nil _ _, hK1.1⟩
 by_cases h2 : bk = 0
 ·have x1 : ((y.reg d).k == 0) = false := by simp [h1]
  have x2 : (bk == 0) = true := by simp [h2]
  rw [if_pos (Or.inr h2)] at eX
  cases eX
  clear h1 h2
  go_wp2_with fail
  exact bodyPost_ret (v := .tuple #[.slice none 0 0, A D 8]) (by simp [results, Tryz.results101, go_sem]) rfl ⟨_, rfl, z0b.nil _ _, hK1.1⟩
 rw [if_neg (fun e => e.elim h1 h2)] at eX
 have x1 : ((y.reg d).k == 0) = false := by simp [h1]
 have x2 : (bk == 0) = false := by simp [h2]
 clear h1 h2
 by_cases h34 : (y.reg d).k = 1 /\ bk = 1
 ·rw [if_pos h34] at eX
  cases eX
  have x3 : ((y.reg d).k == 1) = true := by simp [h34.1]
  have x4 : (bk == 1) = true := by simp [h34.2]
  clear h34
  go_upto_region 5 with fail
  go_step
  (refine wpList_load_row rfl 205 (.tmp 2) rfl w.heap.size rfl 205 (z05 p y) (0, 0) _ yW Tryz.underlying205 rfl (z0n _ _) ?_)
  simp only [Act.put, siA, scZ, scS]
  (refine z03 rfl (.agg #[A D c, A D d, A D s, .bool r, A D o, A D n]) w4 (by go_simp; try rfl) ?_); simp only [Act.put, siA, scZ, scS]
  refine z0p rfl 137 #[.agg (z05 p y), .agg #[A D c, A D d, A D s, .bool r, A D o, A D n]] (by go_simp; try rfl) (HA.out w4) ?_
  intro v5 w5 hq
  obtain ⟨hA5, hB5⟩ := hq
  have hK5 := hK1.later hB5
  have hs5 := hK1.1.size
  simp only [Act.put, siA, scZ, scS]
  clear hK1 l0 l1 l2 lf0 lf1 lf2 llt k0 k1 k2 kf0 kf1 kf2 klt p0 p1 p2 p3 p4 p5 ltS yW ylt
  go_wp2_with fail
  exact bodyPost_ret (v := .tuple #[v5, A D 0]) (by simp [results, Tryz.results101, go_sem]) rfl ⟨_, rfl, hA5.mono hs5, hK5.1⟩
 rw [if_neg h34] at eX
 by_cases h3 : (y.reg d).k = 1
 ·have x3 : ((y.reg d).k == 1) = true := by simp [h3]
  have x4 : (bk == 1) = false := by simp; exact fun e => h34 ⟨h3, e⟩
  clear h3 h34
  by_cases h5 : c = 15
  ·have x5 : (c != 15) = false := by simp [h5]
   cases r
   ·by_cases h7 : n = 0
    ·have x7 : (n != 0) = false := by simp [h7]
     rw [if_neg (by simp [h5, h7])] at eX
     cases eX
     clear h7 h5
     go_upto_region 8 with fail
     go_step
     (refine wpList_load_row rfl 205 (.tmp 2) rfl w.heap.size rfl 205 (z05 p y) (0, 0) _ yW Tryz.underlying205 rfl (z0n _ _) ?_)
     simp only [Act.put, siA, scZ, scS]
     (refine z03 rfl (.agg #[A D c, A D d, A D s, .bool false, A D o, A D n]) w4 (by go_simp; try rfl) ?_); simp only [Act.put, siA, scZ, scS]
     refine z0p rfl 138 #[.agg (z05 p y), .agg #[A D c, A D d, A D s, .bool false, A D o, A D n]] (by go_simp; try rfl) (HP.out w4) ?_
     intro v5 w5 hq
     obtain ⟨hA5, hB5⟩ := hq
     have hK5 := hK1.later hB5
     have hs5 := hK1.1.size
     simp only [Act.put, siA, scZ, scS]
     clear hK1 l0 l1 l2 lf0 lf1 lf2 llt k0 k1 k2 kf0 kf1 kf2 klt p0 p1 p2 p3 p4 p5 ltS yW ylt
     go_wp2_with fail
     exact bodyPost_ret (v := .tuple #[v5, A D 0]) (by simp [results, Tryz.results101, go_sem]) rfl ⟨_, rfl, hA5.mono hs5, hK5.1⟩
    ·have x7 : (n != 0) = true := by simp [h7]
     rw [if_pos (Or.inr (Or.inr h7))] at eX
     cases eX
     clear h7 h5
     go_wp2_with fail
     exact bodyPost_ret (v := .tuple #[.slice none 0 0, A D 1]) (by simp [results, Tryz.results101, go_sem]) rfl ⟨_, rfl, z0b.nil _ _, hK1.1⟩
   ·rw [if_pos (Or.inr (Or.inl rfl))] at eX
    cases eX
    clear h5
    go_wp2_with fail
    exact bodyPost_ret (v := .tuple #[.slice none 0 0, A D 1]) (by simp [results, Tryz.results101, go_sem]) rfl ⟨_, rfl, z0b.nil _ _, hK1.1⟩
  have x5 : (c != 15) = true := by simp [h5]
  by_cases h6 : c = 16
  ·have x6 : (c != 16) = false := by simp [h6]
   cases r
   ·by_cases h7 : n = 0
    ·have x7 : (n != 0) = false := by simp [h7]
     rw [if_neg (by simp [h6, h7])] at eX
     cases eX
     clear h7 h6
     go_upto_region 8 with fail
     go_step
     (refine wpList_load_row rfl 205 (.tmp 2) rfl w.heap.size rfl 205 (z05 p y) (0, 0) _ yW Tryz.underlying205 rfl (z0n _ _) ?_)
     simp only [Act.put, siA, scZ, scS]
     (refine z03 rfl (.agg #[A D c, A D d, A D s, .bool false, A D o, A D n]) w4 (by go_simp; try rfl) ?_); simp only [Act.put, siA, scZ, scS]
     refine z0p rfl 138 #[.agg (z05 p y), .agg #[A D c, A D d, A D s, .bool false, A D o, A D n]] (by go_simp; try rfl) (HP.out w4) ?_
     intro v5 w5 hq
     obtain ⟨hA5, hB5⟩ := hq
     have hK5 := hK1.later hB5
     have hs5 := hK1.1.size
     simp only [Act.put, siA, scZ, scS]
     clear hK1 l0 l1 l2 lf0 lf1 lf2 llt k0 k1 k2 kf0 kf1 kf2 klt p0 p1 p2 p3 p4 p5 ltS yW ylt
     go_wp2_with fail
     exact bodyPost_ret (v := .tuple #[v5, A D 0]) (by simp [results, Tryz.results101, go_sem]) rfl ⟨_, rfl, hA5.mono hs5, hK5.1⟩
    ·have x7 : (n != 0) = true := by simp [h7]
     rw [if_pos (Or.inr (Or.inr h7))] at eX
     cases eX
     clear h7 h6
     go_wp2_with fail
     exact bodyPost_ret (v := .tuple #[.slice none 0 0, A D 1]) (by simp [results, Tryz.results101, go_sem]) rfl ⟨_, rfl, z0b.nil _ _, hK1.1⟩
   ·rw [if_pos (Or.inr (Or.inl rfl))] at eX
    cases eX
    clear h6
    go_wp2_with fail
    exact bodyPost_ret (v := .tuple #[.slice none 0 0, A D 1]) (by simp [results, Tryz.results101, go_sem]) rfl ⟨_, rfl, z0b.nil _ _, hK1.1⟩
  have x6 : (c != 16) = true := by simp [h6]
  rw [if_pos (Or.inl ⟨h5, h6⟩)] at eX
  cases eX
  clear h5 h6
  go_wp2_with fail
  exact bodyPost_ret (v := .tuple #[.slice none 0 0, A D 1]) (by simp [results, Tryz.results101, go_sem]) rfl ⟨_, rfl, z0b.nil _ _, hK1.1⟩
 have x3 : ((y.reg d).k == 1) = false := by simp [h3]
 clear h3 h34
 by_cases h5 : c = 15
 ·have x5 : (c != 15) = false := by simp [h5]
  cases r
  ·by_cases h7 : n = 0
   ·have x7 : (n != 0) = false := by simp [h7]
    rw [if_neg (by simp [h5, h7])] at eX
    cases eX
    clear h7 h5
    go_upto_region 8 with fail
    go_step
    (refine wpList_load_row rfl 205 (.tmp 2) rfl w.heap.size rfl 205 (z05 p y) (0, 0) _ yW Tryz.underlying205 rfl (z0n _ _) ?_)
    simp only [Act.put, siA, scZ, scS]
    (refine z03 rfl (.agg #[A D c, A D d, A D s, .bool false, A D o, A D n]) w4 (by go_simp; try rfl) ?_); simp only [Act.put, siA, scZ, scS]
    refine z0p rfl 138 #[.agg (z05 p y), .agg #[A D c, A D d, A D s, .bool false, A D o, A D n]] (by go_simp; try rfl) (HP.out w4) ?_
    intro v5 w5 hq
    obtain ⟨hA5, hB5⟩ := hq
    have hK5 := hK1.later hB5
    have hs5 := hK1.1.size
    simp only [Act.put, siA, scZ, scS]
    clear hK1 l0 l1 l2 lf0 lf1 lf2 llt k0 k1 k2 kf0 kf1 kf2 klt p0 p1 p2 p3 p4 p5 ltS yW ylt
    go_wp2_with fail
    exact bodyPost_ret (v := .tuple #[v5, A D 0]) (by simp [results, Tryz.results101, go_sem]) rfl ⟨_, rfl, hA5.mono hs5, hK5.1⟩
   ·have x7 : (n != 0) = true := by simp [h7]
    rw [if_pos (Or.inr (Or.inr h7))] at eX
    cases eX
    clear h7 h5
    go_wp2_with fail
    exact bodyPost_ret (v := .tuple #[.slice none 0 0, A D 1]) (by simp [results, Tryz.results101, go_sem]) rfl ⟨_, rfl, z0b.nil _ _, hK1.1⟩
  ·rw [if_pos (Or.inr (Or.inl rfl))] at eX
   cases eX
   clear h5
   go_wp2_with fail
   exact bodyPost_ret (v := .tuple #[.slice none 0 0, A D 1]) (by simp [results, Tryz.results101, go_sem]) rfl ⟨_, rfl, z0b.nil _ _, hK1.1⟩
 have x5 : (c != 15) = true := by simp [h5]
 by_cases h6 : c = 16
 ·have x6 : (c != 16) = false := by simp [h6]
  cases r
  ·by_cases h7 : n = 0
   ·have x7 : (n != 0) = false := by simp [h7]
    rw [if_neg (by simp [h6, h7])] at eX
    cases eX
    clear h7 h6
    go_upto_region 8 with fail
    go_step
    (refine wpList_load_row rfl 205 (.tmp 2) rfl w.heap.size rfl 205 (z05 p y) (0, 0) _ yW Tryz.underlying205 rfl (z0n _ _) ?_)
    simp only [Act.put, siA, scZ, scS]
    (refine z03 rfl (.agg #[A D c, A D d, A D s, .bool false, A D o, A D n]) w4 (by go_simp; try rfl) ?_); simp only [Act.put, siA, scZ, scS]
    refine z0p rfl 138 #[.agg (z05 p y), .agg #[A D c, A D d, A D s, .bool false, A D o, A D n]] (by go_simp; try rfl) (HP.out w4) ?_
    intro v5 w5 hq
    obtain ⟨hA5, hB5⟩ := hq
    have hK5 := hK1.later hB5
    have hs5 := hK1.1.size
    simp only [Act.put, siA, scZ, scS]
    clear hK1 l0 l1 l2 lf0 lf1 lf2 llt k0 k1 k2 kf0 kf1 kf2 klt p0 p1 p2 p3 p4 p5 ltS yW ylt
    go_wp2_with fail
    exact bodyPost_ret (v := .tuple #[v5, A D 0]) (by simp [results, Tryz.results101, go_sem]) rfl ⟨_, rfl, hA5.mono hs5, hK5.1⟩
   ·have x7 : (n != 0) = true := by simp [h7]
    rw [if_pos (Or.inr (Or.inr h7))] at eX
    cases eX
    clear h7 h6
    go_wp2_with fail
    exact bodyPost_ret (v := .tuple #[.slice none 0 0, A D 1]) (by simp [results, Tryz.results101, go_sem]) rfl ⟨_, rfl, z0b.nil _ _, hK1.1⟩
  ·rw [if_pos (Or.inr (Or.inl rfl))] at eX
   cases eX
   clear h6
   go_wp2_with fail
   exact bodyPost_ret (v := .tuple #[.slice none 0 0, A D 1]) (by simp [results, Tryz.results101, go_sem]) rfl ⟨_, rfl, z0b.nil _ _, hK1.1⟩
 have x6 : (c != 16) = true := by simp [h6]
 rw [if_pos (Or.inl ⟨h5, h6⟩)] at eX
 cases eX
 clear h5 h6
 go_wp2_with fail
 exact bodyPost_ret (v := .tuple #[.slice none 0 0, A D 1]) (by simp [results, Tryz.results101, go_sem]) rfl ⟨_, rfl, z0b.nil _ _, hK1.1⟩
end
section
attribute [local simp] z00 z0d z07
theorem zOg (d s : Nat) (c o n p : Int) (r : Bool) (y : Way) (l : List (Int × Way)) (E : Int) (HL : Hid (∀ W : World, Calls tP 101 #[.agg (z05 p y), .agg #[A D c, A D d, A D s, .bool r, A D o, A D n]] W fun e w' => ∃ v, e = rT (.tuple #[v, A D E]) /\ z0b w' W.heap.size v l /\ Below W.heap.size W w')) (HQ : Hid ((decide (15 <= c) && decide (c <= 24)) = true)) (w : World) :
  Calls tP 70 #[.agg (z05 p y), .agg #[A D c, A D d, A D s, .bool r, A D o, A D n]] w fun e w' => ∃ v, e = rT (.tuple #[v, A D E]) /\ z0b w' w.heap.size v l /\ Below w.heap.size w w' := by
 have hK0 : Blk w [(w.heap.size, cT (z05 p y) 205 (0, 0)), (w.heap.size + 1, cT #[A D c, A D d, A D s, .bool r, A D o, A D n] 80 (0, 0))] _ := ((Blk.nil (((bF _ _).alloc (Nat.le_refl _) _).alloc (by simp) _)).cons (heap_alloc2_new w (cT (z05 p y) 205) (cT #[A D c, A D d, A D s, .bool r, A D o, A D n] 80))).cons ((z04.start w p y).alloc (cT #[A D c, A D d, A D s, .bool r, A D o, A D n] 80))
 go_enter Tryz.func70, Tryz.ntmps70
 go_upto_region 1 with fail
 generalize ((w.alloc (cT (z05 p y) 205)).alloc (cT #[A D c, A D d, A D s, .bool r, A D o, A D n] 80)) = w1 at hK0 ⊢
 have yW : z04 _ w.heap.size _ _ := (hK0.2 _ mcS); have ylt := yW.lt; obtain ⟨p0, p1, p2, p3, p4, p5, ltS⟩ := row6 (hK0.2 _ (mcO _ mcS))
 go_upto_region 4 with (first | (go_at_call 90; refine (z2y c _).mono ?_; rintro e w1 ⟨rfl, rfl⟩; rw [HQ.out]) | fail)
 go_step
 (refine wpList_load_row rfl 205 (.tmp 2) rfl w.heap.size rfl 205 (z05 p y) (0, 0) _ yW Tryz.underlying205 rfl (z0n _ _) ?_)
 simp only [Act.put, siA, scZ, scS]
 (refine z03 rfl (.agg #[A D c, A D d, A D s, .bool r, A D o, A D n]) w1 (by go_simp; try rfl) ?_); simp only [Act.put, siA, scZ, scS]
 refine z0p rfl 101 #[.agg (z05 p y), .agg #[A D c, A D d, A D s, .bool r, A D o, A D n]] (by go_simp; try rfl) (R := fun x w' => ∃ v, x = .tuple #[v, A D E] /\ z0b w' w1.heap.size v l /\ Below w1.heap.size w1 w') ((HL.out w1).mono fun e w' h => by obtain ⟨v, h1, h2⟩ := h; exact ⟨_, h1, v, rfl, h2⟩) ?_
 intro v5 w5 hq
 obtain ⟨v, rfl, hA5, hB5⟩ := hq
 have hK5 := hK0.later hB5
 have hs5 := hK0.1.size
 simp only [Act.put, siA, scZ, scS]
 clear yW ylt p0 p1 p2 p3 p4 p5 ltS
 clear hK0
 go_wp2_with fail
 exact bodyPost_ret (v := .tuple #[v, A D E]) (by simp [results, Tryz.results70, go_sem]) rfl ⟨_, rfl, hA5.mono hs5, hK5.1⟩
theorem zLo (d s : Nat) (c o n p : Int) (r : Bool) (y : Way) (hp0 : 0 <= p) (hp1 : p <= 1000) (ho0 : 0 <= o) (ho1 : o <= 1000) (HQ : Hid ((decide (15 <= c) && decide (c <= 24)) = false)) (x14 : (c == 14) = true) (w : World) :
  Calls tP 70 #[.agg (z05 p y), .agg #[A D c, A D d, A D s, .bool r, A D o, A D n]] w fun e w' => ∃ v, e = rT (.tuple #[v, A D 0]) /\ z0b w' w.heap.size v [((p + (1 + o)), y)] /\ Below w.heap.size w w' := by
 have hK0 : Blk w [(w.heap.size, cT (z05 p y) 205 (0, 0)), (w.heap.size + 1, cT #[A D c, A D d, A D s, .bool r, A D o, A D n] 80 (0, 0))] _ := ((Blk.nil (((bF _ _).alloc (Nat.le_refl _) _).alloc (by simp) _)).cons (heap_alloc2_new w (cT (z05 p y) 205) (cT #[A D c, A D d, A D s, .bool r, A D o, A D n] 80))).cons ((z04.start w p y).alloc (cT #[A D c, A D d, A D s, .bool r, A D o, A D n] 80))
 go_enter Tryz.func70, Tryz.ntmps70
 go_upto_region 1 with fail
 generalize ((w.alloc (cT (z05 p y) 205)).alloc (cT #[A D c, A D d, A D s, .bool r, A D o, A D n] 80)) = w1 at hK0 ⊢
 have yW : z04 _ w.heap.size _ _ := (hK0.2 _ mcS); have ylt := yW.lt; obtain ⟨p0, p1, p2, p3, p4, p5, ltS⟩ := row6 (hK0.2 _ (mcO _ mcS))
 go_upto_region 6 with (first | (go_at_call 90; refine (z2y c _).mono ?_; rintro e w1 ⟨rfl, rfl⟩; rw [HQ.out]) | fail)
 go_step
 (refine wpList_load_row rfl 205 (.tmp 2) rfl w.heap.size rfl 205 (z05 p y) (0, 0) _ yW Tryz.underlying205 rfl (z0n _ _) ?_)
 simp only [Act.put, siA, scZ, scS]
 (refine z03 rfl (pT (some ⟨w.heap.size + 1, 4, none⟩)) w1 (by go_simp; try rfl) ?_); simp only [Act.put, siA, scZ, scS]
 (refine z03 rfl (A D o) w1 (by go_simp; try rfl) ?_); simp only [Act.put, siA, scZ, scS]
 (refine z0m rfl 102 #[.agg (z05 p y), A D o] (by go_simp; try rfl) (.agg (z05 (p + (1 + o)) y)) (zG6 p o y hp0 hp1 ho0 ho1 w1) ?_)
 intro w5 hB5
 have hK5 := hK0.later hB5
 simp only [Act.put, siA, scZ, scS]
 refine z1h rfl (.tmp 25) (p + (1 + o)) y rfl rfl ?_
 simp only [Act.put, siA, scZ, scS]
 clear yW ylt p0 p1 p2 p3 p4 p5 ltS
 have hbE := hK5.1
 have hm := z0b.made w5 w.heap.size [((p + (1 + o)), y)] hbE.size (by unfold maxLen; simp)
 go_wp2_with fail
 exact bodyPost_ret (v := .tuple #[_, A D 0]) (by simp [results, Tryz.results70, go_sem]) rfl ⟨_, rfl, hm, hbE.alloc hbE.size _⟩
theorem zLp (d s : Nat) (c o n p : Int) (r : Bool) (y : Way)  (HQ : Hid ((decide (15 <= c) && decide (c <= 24)) = false)) (x14 : (c == 14) = false) (x28 : (c == 28) = true) (w : World) :
  Calls tP 70 #[.agg (z05 p y), .agg #[A D c, A D d, A D s, .bool r, A D o, A D n]] w fun e w' => e = rT (.tuple #[.slice none 0 0, A D (z0w (y.reg 0))]) /\ Below w.heap.size w w' := by
 have hK0 : Blk w [(w.heap.size, cT (z05 p y) 205 (0, 0)), (w.heap.size + 1, cT #[A D c, A D d, A D s, .bool r, A D o, A D n] 80 (0, 0))] _ := ((Blk.nil (((bF _ _).alloc (Nat.le_refl _) _).alloc (by simp) _)).cons (heap_alloc2_new w (cT (z05 p y) 205) (cT #[A D c, A D d, A D s, .bool r, A D o, A D n] 80))).cons ((z04.start w p y).alloc (cT #[A D c, A D d, A D s, .bool r, A D o, A D n] 80))
 go_enter Tryz.func70, Tryz.ntmps70
 go_upto_region 1 with fail
 generalize ((w.alloc (cT (z05 p y) 205)).alloc (cT #[A D c, A D d, A D s, .bool r, A D o, A D n] 80)) = w1 at hK0 ⊢
 have yW : z04 _ w.heap.size _ _ := (hK0.2 _ mcS); have ylt := yW.lt; obtain ⟨p0, p1, p2, p3, p4, p5, ltS⟩ := row6 (hK0.2 _ (mcO _ mcS))
 go_upto_region 8 with (first | (go_at_call 90; refine (z2y c _).mono ?_; rintro e w1 ⟨rfl, rfl⟩; rw [HQ.out]) | fail)
 go_step
 obtain ⟨i0, i1, i2⟩ := yW.reg (d := 0) (by decide)
 (refine z03 rfl (pT (some ⟨w.heap.size, 1, none⟩)) w1 (by go_simp; try rfl) ?_); simp only [Act.put, siA, scZ, scS]
 (refine z03 rfl (pT (some ⟨w.heap.size, 1 + 0 * 3, none⟩)) w1 (by go_simp; try rfl) ?_); simp only [Act.put, siA, scZ, scS]
 (refine z03 rfl (.agg #[A D (y.reg 0).k, A D (y.reg 0).l, A D (y.reg 0).h]) w1 (by go_simp; try rfl) ?_); simp only [Act.put, siA, scZ, scS]
 (refine z0m rfl 103 #[.agg #[A D (y.reg 0).k, A D (y.reg 0).l, A D (y.reg 0).h]] (by go_simp; try rfl) (A D (z0w (y.reg 0))) (z3f _ _ _ w1) ?_)
 intro w5 hB5
 have hK5 := hK0.later hB5
 simp only [Act.put, siA, scZ, scS]
 clear yW ylt p0 p1 p2 p3 p4 p5 ltS i0 i1 i2
 go_wp2_with fail
 exact bodyPost_ret (v := .tuple #[.slice none 0 0, A D (z0w (y.reg 0))]) (by simp [results, Tryz.results70, go_sem]) rfl ⟨rfl, hK5.1⟩
theorem zD6 (d s : Nat) (c o n p : Int) (r : Bool) (y : Way) (hp0 : 0 <= p) (hp1 : p <= 1000) (E : Int) (y1 : Way) (HM : Hid (∀ (W : World) (B : Nat), z04 W B p y -> Calls tP 104 #[pT (some ⟨B, 0, none⟩), .agg #[A D c, A D d, A D s, .bool r, A D o, A D n]] W fun e w' => e = rT (A D E) /\ Kept B W w' /\ z04 w' B p y1)) : (∀ (xE : (E != 0) = true) (HQ : Hid ((decide (15 <= c) && decide (c <= 24)) = false)) (x14 : (c == 14) = false) (x28 : (c == 28) = false) (x25 : (c == 25) = true) (w : World), Calls tP 70 #[.agg (z05 p y), .agg #[A D c, A D d, A D s, .bool r, A D o, A D n]] w fun e w' => e = rT (.tuple #[.slice none 0 0, A D E]) /\ Below w.heap.size w w') /\ (∀ (xE : (E != 0) = false) (HQ : Hid ((decide (15 <= c) && decide (c <= 24)) = false)) (x14 : (c == 14) = false) (x28 : (c == 28) = false) (x25 : (c == 25) = true) (w : World), Calls tP 70 #[.agg (z05 p y), .agg #[A D c, A D d, A D s, .bool r, A D o, A D n]] w fun e w' => ∃ v, e = rT (.tuple #[v, A D 0]) /\ z0b w' w.heap.size v [((p + 1), y1)] /\ Below w.heap.size w w') := by
 refine ⟨?_, ?_⟩
 all_goals
  intro xE HQ x14 x28 x25 w
  have hK0 : Blk w [(w.heap.size, cT (z05 p y) 205 (0, 0)), (w.heap.size + 1, cT #[A D c, A D d, A D s, .bool r, A D o, A D n] 80 (0, 0))] _ := ((Blk.nil (((bF _ _).alloc (Nat.le_refl _) _).alloc (by simp) _)).cons (heap_alloc2_new w (cT (z05 p y) 205) (cT #[A D c, A D d, A D s, .bool r, A D o, A D n] 80))).cons ((z04.start w p y).alloc (cT #[A D c, A D d, A D s, .bool r, A D o, A D n] 80))
 all_goals
  go_enter Tryz.func70, Tryz.ntmps70
  go_upto_region 1 with fail
  generalize ((w.alloc (cT (z05 p y) 205)).alloc (cT #[A D c, A D d, A D s, .bool r, A D o, A D n] 80)) = w1 at hK0 ⊢
  have yW : z04 _ w.heap.size _ _ := (hK0.2 _ mcS); have ylt := yW.lt; obtain ⟨p0, p1, p2, p3, p4, p5, ltS⟩ := row6 (hK0.2 _ (mcO _ mcS))
  go_upto_region 10 with (first | (go_at_call 90; refine (z2y c _).mono ?_; rintro e w1 ⟨rfl, rfl⟩; rw [HQ.out]) | fail)
  go_step
  (refine z03 rfl (.agg #[A D c, A D d, A D s, .bool r, A D o, A D n]) w1 (by go_simp; try rfl) ?_); simp only [Act.put, siA, scZ, scS]
  (refine z0m rfl 104 #[pT (some ⟨w.heap.size, 0, none⟩), .agg #[A D c, A D d, A D s, .bool r, A D o, A D n]] (by go_simp; try rfl) (A D E) (HM.out w1 w.heap.size yW) ?_)
  intro w5 hq
  obtain ⟨hk5, hW5⟩ := hq
  have hK5 := (Blk.more (F' := []) hK0 (by simp)).grown (b := w.heap.size) hk5 (fun k e => Nat.le_of_eq (Option.some.inj e)) (Nat.le_refl _) (by simp)
  clear yW ylt p0 p1 p2 p3 p4 p5 ltS
  clear hk5 hK0
  simp only [Act.put, siA, scZ, scS]
 ·go_wp2_with fail
  exact bodyPost_ret (v := .tuple #[.slice none 0 0, A D E]) (by simp [results, Tryz.results70, go_sem]) rfl ⟨rfl, hK5.1⟩
 ·go_upto_region 17 with fail
  go_step
  (refine wpList_load_row rfl 205 (.tmp 2) rfl w.heap.size rfl 205 (z05 p y1) (0, 0) _ hW5 Tryz.underlying205 rfl (z0n _ _) ?_)
  simp only [Act.put, siA, scZ, scS]
  (refine z0m rfl 102 #[.agg (z05 p y1), A D 0] (by go_simp; try rfl) (.agg (z05 (p + 1) y1)) (z8l p y1 hp0 hp1 w5) ?_)
  intro w6 hB6
  have hK6 := hK5.later hB6
  simp only [Act.put, siA, scZ, scS]
  refine z1h rfl (.tmp 58) (p + 1) y1 rfl rfl ?_
  simp only [Act.put, siA, scZ, scS]
  have hbE := hK6.1
  have hm := z0b.made w6 w.heap.size [((p + 1), y1)] hbE.size (by unfold maxLen; simp)
  go_wp2_with fail
  exact bodyPost_ret (v := .tuple #[_, A D 0]) (by simp [results, Tryz.results70, go_sem]) rfl ⟨_, rfl, hm, hbE.alloc hbE.size _⟩
def zDn := fun d s c o n p r y hp0 hp1 E y1 HM => (@zD6 d s c o n p r y hp0 hp1 E y1 HM).1
def zLn := fun d s c o n p r y hp0 hp1 E y1 HM => (@zD6 d s c o n p r y hp0 hp1 E y1 HM).2
theorem zD5 (d s : Nat) (c o n p : Int) (r : Bool) (y : Way) (hp0 : 0 <= p) (hp1 : p <= 1000) (E : Int) (y1 : Way) (HM : Hid (∀ (W : World) (B : Nat), z04 W B p y -> Calls tP 105 #[pT (some ⟨B, 0, none⟩), .agg #[A D c, A D d, A D s, .bool r, A D o, A D n]] W fun e w' => e = rT (A D E) /\ Kept B W w' /\ z04 w' B p y1)) : (∀ (xE : (E != 0) = true) (HQ : Hid ((decide (15 <= c) && decide (c <= 24)) = false)) (x14 : (c == 14) = false) (x28 : (c == 28) = false) (x25 : (c == 25) = false) (x26 : (c == 26) = true) (w : World), Calls tP 70 #[.agg (z05 p y), .agg #[A D c, A D d, A D s, .bool r, A D o, A D n]] w fun e w' => e = rT (.tuple #[.slice none 0 0, A D E]) /\ Below w.heap.size w w') /\ (∀ (xE : (E != 0) = false) (HQ : Hid ((decide (15 <= c) && decide (c <= 24)) = false)) (x14 : (c == 14) = false) (x28 : (c == 28) = false) (x25 : (c == 25) = false) (x26 : (c == 26) = true) (w : World), Calls tP 70 #[.agg (z05 p y), .agg #[A D c, A D d, A D s, .bool r, A D o, A D n]] w fun e w' => ∃ v, e = rT (.tuple #[v, A D 0]) /\ z0b w' w.heap.size v [((p + 1), y1)] /\ Below w.heap.size w w') := by
 refine ⟨?_, ?_⟩
 all_goals
  intro xE HQ x14 x28 x25 x26 w
  have hK0 : Blk w [(w.heap.size, cT (z05 p y) 205 (0, 0)), (w.heap.size + 1, cT #[A D c, A D d, A D s, .bool r, A D o, A D n] 80 (0, 0))] _ := ((Blk.nil (((bF _ _).alloc (Nat.le_refl _) _).alloc (by simp) _)).cons (heap_alloc2_new w (cT (z05 p y) 205) (cT #[A D c, A D d, A D s, .bool r, A D o, A D n] 80))).cons ((z04.start w p y).alloc (cT #[A D c, A D d, A D s, .bool r, A D o, A D n] 80))
 all_goals
  go_enter Tryz.func70, Tryz.ntmps70
  go_upto_region 1 with fail
  generalize ((w.alloc (cT (z05 p y) 205)).alloc (cT #[A D c, A D d, A D s, .bool r, A D o, A D n] 80)) = w1 at hK0 ⊢
  have yW : z04 _ w.heap.size _ _ := (hK0.2 _ mcS); have ylt := yW.lt; obtain ⟨p0, p1, p2, p3, p4, p5, ltS⟩ := row6 (hK0.2 _ (mcO _ mcS))
  go_upto_region 12 with (first | (go_at_call 90; refine (z2y c _).mono ?_; rintro e w1 ⟨rfl, rfl⟩; rw [HQ.out]) | fail)
  go_step
  (refine z03 rfl (.agg #[A D c, A D d, A D s, .bool r, A D o, A D n]) w1 (by go_simp; try rfl) ?_); simp only [Act.put, siA, scZ, scS]
  (refine z0m rfl 105 #[pT (some ⟨w.heap.size, 0, none⟩), .agg #[A D c, A D d, A D s, .bool r, A D o, A D n]] (by go_simp; try rfl) (A D E) (HM.out w1 w.heap.size yW) ?_)
  intro w5 hq
  obtain ⟨hk5, hW5⟩ := hq
  have hK5 := (Blk.more (F' := []) hK0 (by simp)).grown (b := w.heap.size) hk5 (fun k e => Nat.le_of_eq (Option.some.inj e)) (Nat.le_refl _) (by simp)
  clear yW ylt p0 p1 p2 p3 p4 p5 ltS
  clear hk5 hK0
  simp only [Act.put, siA, scZ, scS]
 ·go_wp2_with fail
  exact bodyPost_ret (v := .tuple #[.slice none 0 0, A D E]) (by simp [results, Tryz.results70, go_sem]) rfl ⟨rfl, hK5.1⟩
 ·go_upto_region 17 with fail
  go_step
  (refine wpList_load_row rfl 205 (.tmp 2) rfl w.heap.size rfl 205 (z05 p y1) (0, 0) _ hW5 Tryz.underlying205 rfl (z0n _ _) ?_)
  simp only [Act.put, siA, scZ, scS]
  (refine z0m rfl 102 #[.agg (z05 p y1), A D 0] (by go_simp; try rfl) (.agg (z05 (p + 1) y1)) (z8l p y1 hp0 hp1 w5) ?_)
  intro w6 hB6
  have hK6 := hK5.later hB6
  simp only [Act.put, siA, scZ, scS]
  refine z1h rfl (.tmp 58) (p + 1) y1 rfl rfl ?_
  simp only [Act.put, siA, scZ, scS]
  have hbE := hK6.1
  have hm := z0b.made w6 w.heap.size [((p + 1), y1)] hbE.size (by unfold maxLen; simp)
  go_wp2_with fail
  exact bodyPost_ret (v := .tuple #[_, A D 0]) (by simp [results, Tryz.results70, go_sem]) rfl ⟨_, rfl, hm, hbE.alloc hbE.size _⟩
def zBm := fun d s c o n p r y hp0 hp1 E y1 HM => (@zD5 d s c o n p r y hp0 hp1 E y1 HM).1
def zHu := fun d s c o n p r y hp0 hp1 E y1 HM => (@zD5 d s c o n p r y hp0 hp1 E y1 HM).2
theorem zD4 (d s : Nat) (c o n p : Int) (r : Bool) (y : Way) (hp0 : 0 <= p) (hp1 : p <= 1000) (E : Int) (y1 : Way) (HM : Hid (∀ (W : World) (B : Nat), z04 W B p y -> Calls tP 106 #[pT (some ⟨B, 0, none⟩), A D n] W fun e w' => e = rT (A D E) /\ Kept B W w' /\ z04 w' B p y1)) : (∀ (xE : (E != 0) = true) (HQ : Hid ((decide (15 <= c) && decide (c <= 24)) = false)) (x14 : (c == 14) = false) (x28 : (c == 28) = false) (x25 : (c == 25) = false) (x26 : (c == 26) = false) (x27 : (c == 27) = true) (w : World), Calls tP 70 #[.agg (z05 p y), .agg #[A D c, A D d, A D s, .bool r, A D o, A D n]] w fun e w' => e = rT (.tuple #[.slice none 0 0, A D E]) /\ Below w.heap.size w w') /\ (∀ (xE : (E != 0) = false) (HQ : Hid ((decide (15 <= c) && decide (c <= 24)) = false)) (x14 : (c == 14) = false) (x28 : (c == 28) = false) (x25 : (c == 25) = false) (x26 : (c == 26) = false) (x27 : (c == 27) = true) (w : World), Calls tP 70 #[.agg (z05 p y), .agg #[A D c, A D d, A D s, .bool r, A D o, A D n]] w fun e w' => ∃ v, e = rT (.tuple #[v, A D 0]) /\ z0b w' w.heap.size v [((p + 1), y1)] /\ Below w.heap.size w w') := by
 refine ⟨?_, ?_⟩
 all_goals
  intro xE HQ x14 x28 x25 x26 x27 w
  have hK0 : Blk w [(w.heap.size, cT (z05 p y) 205 (0, 0)), (w.heap.size + 1, cT #[A D c, A D d, A D s, .bool r, A D o, A D n] 80 (0, 0))] _ := ((Blk.nil (((bF _ _).alloc (Nat.le_refl _) _).alloc (by simp) _)).cons (heap_alloc2_new w (cT (z05 p y) 205) (cT #[A D c, A D d, A D s, .bool r, A D o, A D n] 80))).cons ((z04.start w p y).alloc (cT #[A D c, A D d, A D s, .bool r, A D o, A D n] 80))
 all_goals
  go_enter Tryz.func70, Tryz.ntmps70
  go_upto_region 1 with fail
  generalize ((w.alloc (cT (z05 p y) 205)).alloc (cT #[A D c, A D d, A D s, .bool r, A D o, A D n] 80)) = w1 at hK0 ⊢
  have yW : z04 _ w.heap.size _ _ := (hK0.2 _ mcS); have ylt := yW.lt; obtain ⟨p0, p1, p2, p3, p4, p5, ltS⟩ := row6 (hK0.2 _ (mcO _ mcS))
  go_upto_region 14 with (first | (go_at_call 90; refine (z2y c _).mono ?_; rintro e w1 ⟨rfl, rfl⟩; rw [HQ.out]) | fail)
  go_step
  (refine z03 rfl (pT (some ⟨w.heap.size + 1, 5, none⟩)) w1 (by go_simp; try rfl) ?_); simp only [Act.put, siA, scZ, scS]
  (refine z03 rfl (A D n) w1 (by go_simp; try rfl) ?_); simp only [Act.put, siA, scZ, scS]
  (refine z0m rfl 106 #[pT (some ⟨w.heap.size, 0, none⟩), A D n] (by go_simp; try rfl) (A D E) (HM.out w1 w.heap.size yW) ?_)
  intro w5 hq
  obtain ⟨hk5, hW5⟩ := hq
  have hK5 := (Blk.more (F' := []) hK0 (by simp)).grown (b := w.heap.size) hk5 (fun k e => Nat.le_of_eq (Option.some.inj e)) (Nat.le_refl _) (by simp)
  clear yW ylt p0 p1 p2 p3 p4 p5 ltS
  clear hk5 hK0
  simp only [Act.put, siA, scZ, scS]
 ·go_wp2_with fail
  exact bodyPost_ret (v := .tuple #[.slice none 0 0, A D E]) (by simp [results, Tryz.results70, go_sem]) rfl ⟨rfl, hK5.1⟩
 ·go_upto_region 17 with fail
  go_step
  (refine wpList_load_row rfl 205 (.tmp 2) rfl w.heap.size rfl 205 (z05 p y1) (0, 0) _ hW5 Tryz.underlying205 rfl (z0n _ _) ?_)
  simp only [Act.put, siA, scZ, scS]
  (refine z0m rfl 102 #[.agg (z05 p y1), A D 0] (by go_simp; try rfl) (.agg (z05 (p + 1) y1)) (z8l p y1 hp0 hp1 w5) ?_)
  intro w6 hB6
  have hK6 := hK5.later hB6
  simp only [Act.put, siA, scZ, scS]
  refine z1h rfl (.tmp 58) (p + 1) y1 rfl rfl ?_
  simp only [Act.put, siA, scZ, scS]
  have hbE := hK6.1
  have hm := z0b.made w6 w.heap.size [((p + 1), y1)] hbE.size (by unfold maxLen; simp)
  go_wp2_with fail
  exact bodyPost_ret (v := .tuple #[_, A D 0]) (by simp [results, Tryz.results70, go_sem]) rfl ⟨_, rfl, hm, hbE.alloc hbE.size _⟩
def zDo := fun d s c o n p r y hp0 hp1 E y1 HM => (@zD4 d s c o n p r y hp0 hp1 E y1 HM).1
def zLq := fun d s c o n p r y hp0 hp1 E y1 HM => (@zD4 d s c o n p r y hp0 hp1 E y1 HM).2
theorem zD3 (d s : Nat) (c o n p : Int) (r : Bool) (y : Way) (hp0 : 0 <= p) (hp1 : p <= 1000) (E : Int) (y1 : Way) (HM : Hid (∀ (W : World) (B : Nat), z04 W B p y -> Calls tP 107 #[pT (some ⟨B, 0, none⟩), .agg #[A D c, A D d, A D s, .bool r, A D o, A D n]] W fun e w' => e = rT (A D E) /\ Kept B W w' /\ z04 w' B p y1)) : (∀ (xE : (E != 0) = true) (HQ : Hid ((decide (15 <= c) && decide (c <= 24)) = false)) (x14 : (c == 14) = false) (x28 : (c == 28) = false) (x25 : (c == 25) = false) (x26 : (c == 26) = false) (x27 : (c == 27) = false) (w : World), Calls tP 70 #[.agg (z05 p y), .agg #[A D c, A D d, A D s, .bool r, A D o, A D n]] w fun e w' => e = rT (.tuple #[.slice none 0 0, A D E]) /\ Below w.heap.size w w') /\ (∀ (xE : (E != 0) = false) (HQ : Hid ((decide (15 <= c) && decide (c <= 24)) = false)) (x14 : (c == 14) = false) (x28 : (c == 28) = false) (x25 : (c == 25) = false) (x26 : (c == 26) = false) (x27 : (c == 27) = false) (w : World), Calls tP 70 #[.agg (z05 p y), .agg #[A D c, A D d, A D s, .bool r, A D o, A D n]] w fun e w' => ∃ v, e = rT (.tuple #[v, A D 0]) /\ z0b w' w.heap.size v [((p + 1), y1)] /\ Below w.heap.size w w') := by
 refine ⟨?_, ?_⟩
 all_goals
  intro xE HQ x14 x28 x25 x26 x27 w
  have hK0 : Blk w [(w.heap.size, cT (z05 p y) 205 (0, 0)), (w.heap.size + 1, cT #[A D c, A D d, A D s, .bool r, A D o, A D n] 80 (0, 0))] _ := ((Blk.nil (((bF _ _).alloc (Nat.le_refl _) _).alloc (by simp) _)).cons (heap_alloc2_new w (cT (z05 p y) 205) (cT #[A D c, A D d, A D s, .bool r, A D o, A D n] 80))).cons ((z04.start w p y).alloc (cT #[A D c, A D d, A D s, .bool r, A D o, A D n] 80))
 all_goals
  go_enter Tryz.func70, Tryz.ntmps70
  go_upto_region 1 with fail
  generalize ((w.alloc (cT (z05 p y) 205)).alloc (cT #[A D c, A D d, A D s, .bool r, A D o, A D n] 80)) = w1 at hK0 ⊢
  have yW : z04 _ w.heap.size _ _ := (hK0.2 _ mcS); have ylt := yW.lt; obtain ⟨p0, p1, p2, p3, p4, p5, ltS⟩ := row6 (hK0.2 _ (mcO _ mcS))
  go_upto_region 2 with (first | (go_at_call 90; refine (z2y c _).mono ?_; rintro e w1 ⟨rfl, rfl⟩; rw [HQ.out]) | fail)
  go_step
  (refine z03 rfl (.agg #[A D c, A D d, A D s, .bool r, A D o, A D n]) w1 (by go_simp; try rfl) ?_); simp only [Act.put, siA, scZ, scS]
  (refine z0m rfl 107 #[pT (some ⟨w.heap.size, 0, none⟩), .agg #[A D c, A D d, A D s, .bool r, A D o, A D n]] (by go_simp; try rfl) (A D E) (HM.out w1 w.heap.size yW) ?_)
  intro w5 hq
  obtain ⟨hk5, hW5⟩ := hq
  have hK5 := (Blk.more (F' := []) hK0 (by simp)).grown (b := w.heap.size) hk5 (fun k e => Nat.le_of_eq (Option.some.inj e)) (Nat.le_refl _) (by simp)
  clear yW ylt p0 p1 p2 p3 p4 p5 ltS
  clear hk5 hK0
  simp only [Act.put, siA, scZ, scS]
 ·go_wp2_with fail
  exact bodyPost_ret (v := .tuple #[.slice none 0 0, A D E]) (by simp [results, Tryz.results70, go_sem]) rfl ⟨rfl, hK5.1⟩
 ·go_upto_region 17 with fail
  go_step
  (refine wpList_load_row rfl 205 (.tmp 2) rfl w.heap.size rfl 205 (z05 p y1) (0, 0) _ hW5 Tryz.underlying205 rfl (z0n _ _) ?_)
  simp only [Act.put, siA, scZ, scS]
  (refine z0m rfl 102 #[.agg (z05 p y1), A D 0] (by go_simp; try rfl) (.agg (z05 (p + 1) y1)) (z8l p y1 hp0 hp1 w5) ?_)
  intro w6 hB6
  have hK6 := hK5.later hB6
  simp only [Act.put, siA, scZ, scS]
  refine z1h rfl (.tmp 58) (p + 1) y1 rfl rfl ?_
  simp only [Act.put, siA, scZ, scS]
  have hbE := hK6.1
  have hm := z0b.made w6 w.heap.size [((p + 1), y1)] hbE.size (by unfold maxLen; simp)
  go_wp2_with fail
  exact bodyPost_ret (v := .tuple #[_, A D 0]) (by simp [results, Tryz.results70, go_sem]) rfl ⟨_, rfl, hm, hbE.alloc hbE.size _⟩
def z9w := fun d s c o n p r y hp0 hp1 E y1 HM => (@zD3 d s c o n p r y hp0 hp1 E y1 HM).1
def zFd := fun d s c o n p r y hp0 hp1 E y1 HM => (@zD3 d s c o n p r y hp0 hp1 E y1 HM).2
theorem zOh {d s : Nat} {c o n p : Int} {r : Bool} {y : Way} (hd : d < 11) (hs : s < 11) (hp0 : 0 <= p) (hp1 : p <= 1000) (ho : In64 o) (hj : 14 <= c -> c <= 24 -> 0 <= o /\ o <= 1000) (hw : c = 27 -> n = 1 \/ n = 2 \/ n = 3) (hy : y.Ok) (hn : In64 n) (w : World) :
  Calls tP 70 #[.agg (z05 p y), .agg #[A D c, A D d, A D s, .bool r, A D o, A D n]] w fun e w' => ∃ v, e = rT (.tuple #[v, A D (y.look c d s r o n).2]) /\ z0b w' w.heap.size v ((y.look c d s r o n).1.map fun x => (p + (1 + x.1), x.2)) /\ Below w.heap.size w w' := by
 have mv : ∀ {E : Int} {e : Ending} {w' : World}, (e = rT (.tuple #[.slice none 0 0, A D E]) /\ Below w.heap.size w w') -> ∃ v, e = rT (.tuple #[v, A D E]) /\ z0b w' w.heap.size v [] /\ Below w.heap.size w w' := fun h => ⟨_, h.1, z0b.nil _ _, h.2⟩
 have tt : ∀ {a b : Int}, a = b -> (a == b) = true := fun h => by simp [h]
 have tb : ∀ {a b : Int}, ¬ a = b -> (a == b) = false := fun h => by simp [h]
 have nt : ∀ {a b : Int}, ¬ a = b -> (a != b) = true := fun h => by simp [h]
 have nf : ∀ {a b : Int}, a = b -> (a != b) = false := fun h => by simp [h]
 unfold Way.look
 by_cases h1 : 15 <= c /\ c <= 24
 ·rw [if_pos h1]
  have hoo := hj (by omega) h1.2
  exact zOg d s c o n p r y _ _ (fun W : World => zSw (r := r) hd hs h1 hp0 hp1 hoo.1 hoo.2 hy hn W) (by show (decide (15 <= c) && decide (c <= 24)) = true; simp; omega) w
 rw [if_neg h1]
 have HQ : Hid ((decide (15 <= c) && decide (c <= 24)) = false) := by show (decide (15 <= c) && decide (c <= 24)) = false; simp; omega
 by_cases h14 : c = 14
 ·rw [if_pos h14]
  have hoo := hj (by omega) (by omega)
  simpa using zLo d s c o n p r y hp0 hp1 hoo.1 hoo.2 HQ (tt h14) w
 rw [if_neg h14]
 by_cases h28 : c = 28
 ·rw [if_pos h28]
  exact (zLp d s c o n p r y HQ (tb h14) (tt h28) w).mono fun _ _ h => mv h
 rw [if_neg h28]
 by_cases h25 : c = 25
 ·rw [if_pos h25]
  have HM := fun (W : World) (B : Nat) (hW : z04 W B p y) => zOk (c := c) (r := r) (n := n) hd hs hy ho hW
  generalize y.load d s o = z at *
  obtain ⟨E, y1⟩ := z
  dsimp only
  by_cases hE : E = 0
  ·rw [if_pos hE]; simpa [hE] using zLn d s c o n p r y hp0 hp1 E y1 HM (nf hE) HQ (tb h14) (tb h28) (tt h25) w
  ·rw [if_neg hE]; exact (zDn d s c o n p r y hp0 hp1 E y1 HM (nt hE) HQ (tb h14) (tb h28) (tt h25) w).mono fun _ _ h => mv h
 rw [if_neg h25]
 by_cases h26 : c = 26
 ·rw [if_pos h26]
  have HM := fun (W : World) (B : Nat) (hW : z04 W B p y) => zLj (c := c) (r := r) (n := n) hd hs hy ho hW
  generalize y.store (y.reg d) (y.second s r n) o = z at *
  obtain ⟨E, y1⟩ := z
  dsimp only
  by_cases hE : E = 0
  ·rw [if_pos hE]; simpa [hE] using zHu d s c o n p r y hp0 hp1 E y1 HM (nf hE) HQ (tb h14) (tb h28) (tb h25) (tt h26) w
  ·rw [if_neg hE]; exact (zBm d s c o n p r y hp0 hp1 E y1 HM (nt hE) HQ (tb h14) (tb h28) (tb h25) (tt h26) w).mono fun _ _ h => mv h
 rw [if_neg h26]
 by_cases h27 : c = 27
 ·rw [if_pos h27]
  have HM := fun (W : World) (B : Nat) (hW : z04 W B p y) => zOp (hw h27) hW
  generalize y.call n = z at *
  obtain ⟨E, y1⟩ := z
  dsimp only
  by_cases hE : E = 0
  ·rw [if_pos hE]; simpa [hE] using zLq d s c o n p r y hp0 hp1 E y1 HM (nf hE) HQ (tb h14) (tb h28) (tb h25) (tb h26) (tt h27) w
  ·rw [if_neg hE]; exact (zDo d s c o n p r y hp0 hp1 E y1 HM (nt hE) HQ (tb h14) (tb h28) (tb h25) (tb h26) (tt h27) w).mono fun _ _ h => mv h
 rw [if_neg h27]
 ·have HM := fun (W : World) (B : Nat) (hW : z04 W B p y) => zHx (c := c) (o := o) (r := r) hd hs hy hn hW
  generalize y.change c d s r n = z at *
  obtain ⟨E, y1⟩ := z
  dsimp only
  by_cases hE : E = 0
  ·rw [if_pos hE]; simpa [hE] using zFd d s c o n p r y hp0 hp1 E y1 HM (nf hE) HQ (tb h14) (tb h28) (tb h25) (tb h26) (tb h27) w
  ·rw [if_neg hE]; exact (z9w d s c o n p r y hp0 hp1 E y1 HM (nt hE) HQ (tb h14) (tb h28) (tb h25) (tb h26) (tb h27) w).mono fun _ _ h => mv h
end
end Go.Proofs.YtbimlalhodibjaaGreatDoor
