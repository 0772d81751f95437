/-
  What package verify's ask returns: which ways lead on from a step that asks. Conditions: the way is right; the step's code asks, and its numbers are few. What package verify's look returns: which ways lead on from a step. Conditions: the way is right; the step is right. Ways that wait, one behind the other in a row, the last one first; the ends of ways; what comes of all ways. Conditions: the steps are right.
-/
import Derived.Test.YtednmkhdehlojaaGreatDoorJs13
import Derived.Test.YtednmkhdehlojaaGreatDoorJs11
import Derived.Deep.MidRow
import Derived.Maps.AppendAt
open Go.Value renaming int → vI
open Go.IntKind renaming i64 → vK
open Go.RowKit.Below renaming alloc → bA, setCell → bS, drew → bD, refl → bF
set_option maxHeartbeats 4000000
set_option maxRecDepth 1000000
namespace Go.Proofs.YtednmkhdehlojaaGreatDoor
open Go.ChangeShapes Go.WideShapes Go.ChangeAt Go.RowKit
attribute [local simp] drew_size drewN_size setCell_size
set_option linter.unusedVariables false
theorem wpList_callEx {P : Program} {ops : Array Oper} {rest : List Oper} {o : Oper} {a : Act} {w : World} {Q : Exit → Act → World → Prop} (hg : o.guard = none)
    (f : FuncId) (args : Array Value) (hrun : (execOp a.eval o).run P w = .ok (.enter f args) w) {R : Value → World → Prop}
    (hc : Calls P f args w fun e w' => ∃ v, e = .returned v ∧ R v w') (h : ∀ v w', R v w' → wpList P ops Q rest (a.put o.dst v) w') : wpList P ops Q (o :: rest) a w := by
  refine wpList_plain hg fun K hK => ?_
  unfold Oper.wp
  rw [hrun, Oper.upon_enter]
  refine hc.mono fun e w' hh => ?_
  obtain ⟨v, rfl, hr⟩ := hh
  exact hK _ _ (h v w' hr)
theorem vaskn_all {d s : Nat} {c o n p : Int} {r : Bool} {y : Way} (hd : d < 11) (hs : s < 11) (hc : 15 ≤ c ∧ c ≤ 24) (hp0 : 0 ≤ p) (hp1 : p ≤ 1000) (ho0 : 0 ≤ o) (ho1 : o ≤ 1000) (hy : y.Ok) (hn : In64 n) (w : World) :
    Calls Tryz.prog 147 #[.agg (wayCs p y), .agg #[vI vK c, vI vK d, vI vK s, .bool r, vI vK o, vI vK n]] w fun e w' => ∃ v, e = .returned v ∧ WaysAt w' w.heap.size v ((y.askNumbers c d s r o n).map fun x => (p + (1 + x.1), x.2)) ∧ Below w.heap.size w w' := by
  have HN1 := fun (W : World) (B : Nat) (hW : WayAt W B (p + 1) y) => vnarrow_all (c := c) (o := o) (r := r) (code := oppV c) hd hs hy hn hW
  have HN2 := fun (W : World) (B : Nat) (hW : WayAt W B (p + (1 + o)) y) => vnarrow_all (c := c) (o := o) (r := r) (code := c) hd hs hy hn hW
  unfold Way.askNumbers
  generalize y.narrow (oppV c) d s r n = z1 at *
  generalize y.narrow c d s r n = z2 at *
  obtain ⟨b1, y1⟩ := z1
  obtain ⟨b2, y2⟩ := z2
  have h := vaskn_bb d s c o n p r b1 b2 y y1 y2 hc hp0 hp1 ho0 ho1 HN1 HN2 w
  refine h.mono fun e w' hh => ?_
  obtain ⟨v, h1, h2, h3⟩ := hh
  refine ⟨v, h1, ?_, h3⟩
  cases b1 <;> cases b2 <;> simpa using h2
theorem vaskp_all {d s : Nat} {c o n p : Int} {r : Bool} {y : Way} (hd : d < 11) (hs : s < 11) (hc : 15 ≤ c ∧ c ≤ 24) (hp0 : 0 ≤ p) (hp1 : p ≤ 1000) (ho0 : 0 ≤ o) (ho1 : o ≤ 1000) (w : World) :
    Calls Tryz.prog 148 #[.agg (wayCs p y), .agg #[vI vK c, vI vK d, vI vK s, .bool r, vI vK o, vI vK n]] w fun e w' => ∃ v, e = .returned v ∧ WaysAt w' w.heap.size v ((y.askPlace c d o).map fun x => (p + (1 + x.1), x.2)) ∧ Below w.heap.size w w' := by
  have h := vaskp_bb d s c o n p r y hd hp0 hp1 ho0 ho1 (c == 16) ((y.reg d).k != 5) rfl rfl w
  refine h.mono fun e w' hh => ?_
  obtain ⟨v, h1, h2, h3⟩ := hh
  refine ⟨v, h1, ?_, h3⟩
  unfold Way.askPlace
  by_cases e16 : c = 16 <;> by_cases e5 : (y.reg d).k = 5 <;> simpa [e16, e5, knoNum] using h2
theorem vask_all {d s : Nat} {c o n p : Int} {r : Bool} {y : Way} (hd : d < 11) (hs : s < 11) (hc : 15 ≤ c ∧ c ≤ 24) (hp0 : 0 ≤ p) (hp1 : p ≤ 1000) (ho0 : 0 ≤ o) (ho1 : o ≤ 1000) (hy : y.Ok) (hn : In64 n) (w : World) :
    Calls Tryz.prog 105 #[.agg (wayCs p y), .agg #[vI vK c, vI vK d, vI vK s, .bool r, vI vK o, vI vK n]] w fun e w' => ∃ v, e = .returned (.tuple #[v, vI vK (y.ask c d s r o n).2]) ∧ WaysAt w' w.heap.size v ((y.ask c d s r o n).1.map fun x => (p + (1 + x.1), x.2)) ∧ Below w.heap.size w w' := by
  have HA : Hid (∀ W : World, Calls Tryz.prog 147 #[.agg (wayCs p y), .agg #[vI vK c, vI vK d, vI vK s, .bool r, vI vK o, vI vK n]] W fun e w' => ∃ v, e = .returned v ∧ WaysAt w' W.heap.size v ((y.askNumbers c d s r o n).map fun x => (p + (1 + x.1), x.2)) ∧ Below W.heap.size W w') := fun W => vaskn_all (r := r) hd hs hc hp0 hp1 ho0 ho1 hy hn W
  have HP : Hid (∀ W : World, Calls Tryz.prog 148 #[.agg (wayCs p y), .agg #[vI vK c, vI vK d, vI vK s, .bool r, vI vK o, vI vK n]] W fun e w' => ∃ v, e = .returned v ∧ WaysAt w' W.heap.size v ((y.askPlace c d o).map fun x => (p + (1 + x.1), x.2)) ∧ Below W.heap.size W w') := fun W => vaskp_all (r := r) (n := n) (y := y) hd hs hc hp0 hp1 ho0 ho1 W
  clear hy hn hc hp0 hp1 ho0 ho1
  unfold Way.ask
  rcases hv : y.second s r n with ⟨bk, bl, bh⟩
  have HB : Hid (y.second s r n = ⟨bk, bl, bh⟩) := hv
  clear hv
  dsimp only
  rcases hX : (if (y.reg d).k = 0 ∨ bk = 0 then (([] : List (Int × Way)), (8 : Int)) else if (y.reg d).k = 1 ∧ bk = 1 then (y.askNumbers c d s r o n, 0) else if (c ≠ 15 ∧ c ≠ 16) ∨ r = true ∨ n ≠ 0 then ([], 1) else (y.askPlace c d o, 0)) with ⟨ls, E⟩
  have HX : Hid ((if (y.reg d).k = 0 ∨ bk = 0 then (([] : List (Int × Way)), (8 : Int)) else if (y.reg d).k = 1 ∧ bk = 1 then (y.askNumbers c d s r o n, 0) else if (c ≠ 15 ∧ c ≠ 16) ∨ r = true ∨ n ≠ 0 then ([], 1) else (y.askPlace c d o, 0)) = (ls, E)) := hX
  clear hX
  dsimp only
  have hK0 : Blk w [(w.heap.size, .cells (wayCs p y) 150 (0, 0)), (w.heap.size + 1, .cells #[vI vK c, vI vK d, vI vK s, .bool r, vI vK o, vI vK n] 49 (0, 0))] _ := ((Blk.nil (((bF _ _).alloc (Nat.le_refl _) _).alloc (by simp) _)).cons (heap_alloc2_new w (.cells (wayCs p y) 150) (.cells #[vI vK c, vI vK d, vI vK s, .bool r, vI vK o, vI vK n] 49))).cons ((WayAt.start w p y).alloc (.cells #[vI vK c, vI vK d, vI vK s, .bool r, vI vK o, vI vK n] 49))
  have hd0 : (0 : Int) ≤ (d : Int) := by omega
  have hd1 : (d : Int) < 11 := by omega
  go_enter Tryz.func105, Tryz.ntmps105
  go_wp2_with fail
  refine wp_float (C := Blk w [(w.heap.size, .cells (wayCs p y) 150 (0, 0)), (w.heap.size + 1, .cells #[vI vK c, vI vK d, vI vK s, .bool r, vI vK o, vI vK n] 49 (0, 0))]) (n0 := w.heap.size + 1 + 1) 7 [] [.cells #[vI vK 0, vI vK 0, vI vK 0] 146 (0, 0), .cells #[vI vK 0, vI vK 0, vI vK 0] 146 (0, 0)] (by kernel_rfl) (by kernel_rfl) (fun d _ _ _ _ h => by cases d <;> exact h) (Blk.stable _ _) (Blk.room w (mcO _ mcS)) hK0.drew ⟨⟨rfl, fun a w2 hC => by go_simp; try rfl⟩, ⟨rfl, fun a w2 hC => by go_simp; try rfl⟩, trivial⟩ ?_
  simp only [List.take_succ_cons, List.take_zero, List.drop_succ_cons, List.drop_zero, List.length_cons, List.length_nil, Nat.reduceAdd]
  repeat (first
    | (refine wpQ_skip (by rfl) ?_; simp only [Act.put, siA, scZ, scS])
    | (refine wpQ_yield (by rfl) (v := ?_) ?_ ?_; rotate_left; (intro w2 hC; have yW : WayAt _ w.heap.size _ _ := (hC.2 _ mcS); have ylt := yW.lt; obtain ⟨i0, i1, i2⟩ := yW.reg hd; obtain ⟨p0, p1, p2, p3, p4, p5, ltS⟩ := row6 (hC.2 _ (mcO _ mcS)); go_simp; try with_reducible rfl); simp only [Act.put, siA, scZ, scS])
    | (refine wpQ_enter (by rfl) ?_; apply Exists.intro; refine ⟨fun w2 hC => ?_, ?_⟩; (have yW : WayAt _ w.heap.size _ _ := (hC.2 _ mcS); have ylt := yW.lt; obtain ⟨i0, i1, i2⟩ := yW.reg hd; obtain ⟨p0, p1, p2, p3, p4, p5, ltS⟩ := row6 (hC.2 _ (mcO _ mcS)); go_simp; apply qb_enter; first | (go_at_call 146; exact (by have hq := vsecond_any w.heap.size s c d o n r p y hs w2 yW; rw [HB.out] at hq; unfold Kno.v at hq; exact hq))); simp only [Act.put, siA, scZ, scS]))
  refine wpQ_nil ?_
  intro L h5 g5 K h6 g6 w3 hC hB3
  have hne : K ≠ L := (FB.upd_none h6).1
  have hne' : L ≠ K := fun e => hne e.symm
  have bK := hB3 K _ (FB.at_new _ _ _)
  have bL := hB3 L _ (FB.at_old hne' (FB.at_new _ _ _))
  obtain ⟨l0, l1, l2, lf0, lf1, lf2, llt⟩ := row3 bL
  obtain ⟨k0, k1, k2, kf0, kf1, kf2, klt⟩ := row3 bK
  have yW : WayAt _ w.heap.size _ _ := (hC.2 _ mcS); have ylt := yW.lt; obtain ⟨i0, i1, i2⟩ := yW.reg hd; obtain ⟨p0, p1, p2, p3, p4, p5, ltS⟩ := row6 (hC.2 _ (mcO _ mcS))
  have hbw := hC.1
  have n1 : w.heap.size + 1 ≠ L := by omega
  have n2 : w.heap.size ≠ L := by omega
  have n3 : w.heap.size + 1 ≠ K := by omega
  have n4 : w.heap.size ≠ K := by omega
  simp only [ptrTo]
  go_upto_region 2 with fail
  have hK1 : Blk w [(L, .cells #[vI vK (y.reg d).k, vI vK (y.reg d).l, vI vK (y.reg d).h] 146 (0, 0)), (K, .cells #[vI vK bk, vI vK bl, vI vK bh] 146 (0, 0)), (w.heap.size, .cells (wayCs p y) 150 (0, 0)), (w.heap.size + 1, .cells #[vI vK c, vI vK d, vI vK s, .bool r, vI vK o, vI vK n] 49 (0, 0))] (((((((w3.setCell ⟨L, 0, none⟩ (vI vK (y.reg d).k)).setCell ⟨L, 1, none⟩ (vI vK (y.reg d).l)).setCell ⟨L, 2, none⟩ (vI vK (y.reg d).h))).setCell ⟨K, 0, none⟩ (vI vK bk)).setCell ⟨K, 1, none⟩ (vI vK bl)).setCell ⟨K, 2, none⟩ (vI vK bh)) := ((((Blk.nil (by repeat' first | with_reducible (first | exact hbw | exact bF _ _ | refine bA ?_ ?_ _ | refine bS ?_ ?_ _ | refine bD ?_ | refine below_setRow ?_ ?_ _) | ((try dsimp only); omega) | (simp; done) | (simp; omega))).cons (off3 (off3 (hC.2 _ (mcO _ mcS)) n1) n3)).cons (off3 (off3 (hC.2 _ mcS) n2) n4)).cons (put3 (off3 bK hne))).cons (off3 (put3 bL) hne')
  clear l0 l1 l2 lf0 lf1 lf2 llt k0 k1 k2 kf0 kf1 kf2 klt p0 p1 p2 p3 p4 p5 ltS yW ylt i0 i1 i2
  clear hbw bL bK hB3 hC hK0 n1 n2 n3 n4 HB
  generalize (((((((w3.setCell ⟨L, 0, none⟩ (vI vK (y.reg d).k)).setCell ⟨L, 1, none⟩ (vI vK (y.reg d).l)).setCell ⟨L, 2, none⟩ (vI vK (y.reg d).h))).setCell ⟨K, 0, none⟩ (vI vK bk)).setCell ⟨K, 1, none⟩ (vI vK bl)).setCell ⟨K, 2, none⟩ (vI vK bh)) = w4 at hK1 ⊢
  obtain ⟨l0, l1, l2, lf0, lf1, lf2, llt⟩ := row3 (hK1.2 _ mcS); obtain ⟨k0, k1, k2, kf0, kf1, kf2, klt⟩ := row3 (hK1.2 _ (mcO _ mcS)); have yW : WayAt _ w.heap.size _ _ := (hK1.2 _ (mcO _ (mcO _ mcS))); have ylt := yW.lt; obtain ⟨p0, p1, p2, p3, p4, p5, ltS⟩ := row6 (hK1.2 _ (mcO _ (mcO _ (mcO _ mcS))))
  have eX := HX.out
  clear HX
  by_cases h1 : (y.reg d).k = 0
  · have x1 : ((y.reg d).k == 0) = true := by simp [h1]
    rw [if_pos (Or.inl h1)] at eX
    cases eX
    clear h1
    go_wp2_with fail
    exact bodyPost_ret (v := .tuple #[.slice none 0 0, vI vK 8]) (by simp [results, Tryz.results105, go_sem]) rfl ⟨_, rfl, WaysAt.nil _ _, hK1.1⟩
  by_cases h2 : bk = 0
  · have x1 : ((y.reg d).k == 0) = false := by simp [h1]
    have x2 : (bk == 0) = true := by simp [h2]
    rw [if_pos (Or.inr h2)] at eX
    cases eX
    clear h1 h2
    go_wp2_with fail
    exact bodyPost_ret (v := .tuple #[.slice none 0 0, vI vK 8]) (by simp [results, Tryz.results105, go_sem]) rfl ⟨_, rfl, WaysAt.nil _ _, hK1.1⟩
  rw [if_neg (fun e => e.elim h1 h2)] at eX
  have x1 : ((y.reg d).k == 0) = false := by simp [h1]
  have x2 : (bk == 0) = false := by simp [h2]
  clear h1 h2
  by_cases h34 : (y.reg d).k = 1 ∧ bk = 1
  · rw [if_pos h34] at eX
    cases eX
    have x3 : ((y.reg d).k == 1) = true := by simp [h34.1]
    have x4 : (bk == 1) = true := by simp [h34.2]
    clear h34
    go_upto_region 5 with fail
    go_step
    (refine wpList_load_row rfl 150 (.tmp 2) rfl w.heap.size rfl 150 (wayCs p y) (0, 0) _ yW Tryz.underlying150 rfl (infoW_of _ _) ?_)
    simp only [Act.put, siA, scZ, scS]
    (refine wpList_valueOf rfl (.agg #[vI vK c, vI vK d, vI vK s, .bool r, vI vK o, vI vK n]) w4 (by go_simp; try rfl) ?_); simp only [Act.put, siA, scZ, scS]
    refine wpList_callEx rfl 147 #[.agg (wayCs p y), .agg #[vI vK c, vI vK d, vI vK s, .bool r, vI vK o, vI vK n]] (by go_simp; try rfl) (HA.out w4) ?_
    intro v5 w5 hq
    obtain ⟨hA5, hB5⟩ := hq
    have hK5 := hK1.later hB5
    have hs5 := hK1.1.size
    simp only [Act.put, siA, scZ, scS]
    clear hK1 l0 l1 l2 lf0 lf1 lf2 llt k0 k1 k2 kf0 kf1 kf2 klt p0 p1 p2 p3 p4 p5 ltS yW ylt
    go_wp2_with fail
    exact bodyPost_ret (v := .tuple #[v5, vI vK 0]) (by simp [results, Tryz.results105, go_sem]) rfl ⟨_, rfl, hA5.mono hs5, hK5.1⟩
  rw [if_neg h34] at eX
  by_cases h3 : (y.reg d).k = 1
  · have x3 : ((y.reg d).k == 1) = true := by simp [h3]
    have x4 : (bk == 1) = false := by simp; exact fun e => h34 ⟨h3, e⟩
    clear h3 h34
    by_cases h5 : c = 15
    · have x5 : (c != 15) = false := by simp [h5]
      cases r
      · by_cases h7 : n = 0
        · have x7 : (n != 0) = false := by simp [h7]
          rw [if_neg (by simp [h5, h7])] at eX
          cases eX
          clear h7 h5
          go_upto_region 8 with fail
          go_step
          (refine wpList_load_row rfl 150 (.tmp 2) rfl w.heap.size rfl 150 (wayCs p y) (0, 0) _ yW Tryz.underlying150 rfl (infoW_of _ _) ?_)
          simp only [Act.put, siA, scZ, scS]
          (refine wpList_valueOf rfl (.agg #[vI vK c, vI vK d, vI vK s, .bool false, vI vK o, vI vK n]) w4 (by go_simp; try rfl) ?_); simp only [Act.put, siA, scZ, scS]
          refine wpList_callEx rfl 148 #[.agg (wayCs p y), .agg #[vI vK c, vI vK d, vI vK s, .bool false, vI vK o, vI vK n]] (by go_simp; try rfl) (HP.out w4) ?_
          intro v5 w5 hq
          obtain ⟨hA5, hB5⟩ := hq
          have hK5 := hK1.later hB5
          have hs5 := hK1.1.size
          simp only [Act.put, siA, scZ, scS]
          clear hK1 l0 l1 l2 lf0 lf1 lf2 llt k0 k1 k2 kf0 kf1 kf2 klt p0 p1 p2 p3 p4 p5 ltS yW ylt
          go_wp2_with fail
          exact bodyPost_ret (v := .tuple #[v5, vI vK 0]) (by simp [results, Tryz.results105, go_sem]) rfl ⟨_, rfl, hA5.mono hs5, hK5.1⟩
        · have x7 : (n != 0) = true := by simp [h7]
          rw [if_pos (Or.inr (Or.inr h7))] at eX
          cases eX
          clear h7 h5
          go_wp2_with fail
          exact bodyPost_ret (v := .tuple #[.slice none 0 0, vI vK 1]) (by simp [results, Tryz.results105, go_sem]) rfl ⟨_, rfl, WaysAt.nil _ _, hK1.1⟩
      · rw [if_pos (Or.inr (Or.inl rfl))] at eX
        cases eX
        clear h5
        go_wp2_with fail
        exact bodyPost_ret (v := .tuple #[.slice none 0 0, vI vK 1]) (by simp [results, Tryz.results105, go_sem]) rfl ⟨_, rfl, WaysAt.nil _ _, hK1.1⟩
    have x5 : (c != 15) = true := by simp [h5]
    by_cases h6 : c = 16
    · have x6 : (c != 16) = false := by simp [h6]
      cases r
      · by_cases h7 : n = 0
        · have x7 : (n != 0) = false := by simp [h7]
          rw [if_neg (by simp [h6, h7])] at eX
          cases eX
          clear h7 h6
          go_upto_region 8 with fail
          go_step
          (refine wpList_load_row rfl 150 (.tmp 2) rfl w.heap.size rfl 150 (wayCs p y) (0, 0) _ yW Tryz.underlying150 rfl (infoW_of _ _) ?_)
          simp only [Act.put, siA, scZ, scS]
          (refine wpList_valueOf rfl (.agg #[vI vK c, vI vK d, vI vK s, .bool false, vI vK o, vI vK n]) w4 (by go_simp; try rfl) ?_); simp only [Act.put, siA, scZ, scS]
          refine wpList_callEx rfl 148 #[.agg (wayCs p y), .agg #[vI vK c, vI vK d, vI vK s, .bool false, vI vK o, vI vK n]] (by go_simp; try rfl) (HP.out w4) ?_
          intro v5 w5 hq
          obtain ⟨hA5, hB5⟩ := hq
          have hK5 := hK1.later hB5
          have hs5 := hK1.1.size
          simp only [Act.put, siA, scZ, scS]
          clear hK1 l0 l1 l2 lf0 lf1 lf2 llt k0 k1 k2 kf0 kf1 kf2 klt p0 p1 p2 p3 p4 p5 ltS yW ylt
          go_wp2_with fail
          exact bodyPost_ret (v := .tuple #[v5, vI vK 0]) (by simp [results, Tryz.results105, go_sem]) rfl ⟨_, rfl, hA5.mono hs5, hK5.1⟩
        · have x7 : (n != 0) = true := by simp [h7]
          rw [if_pos (Or.inr (Or.inr h7))] at eX
          cases eX
          clear h7 h6
          go_wp2_with fail
          exact bodyPost_ret (v := .tuple #[.slice none 0 0, vI vK 1]) (by simp [results, Tryz.results105, go_sem]) rfl ⟨_, rfl, WaysAt.nil _ _, hK1.1⟩
      · rw [if_pos (Or.inr (Or.inl rfl))] at eX
        cases eX
        clear h6
        go_wp2_with fail
        exact bodyPost_ret (v := .tuple #[.slice none 0 0, vI vK 1]) (by simp [results, Tryz.results105, go_sem]) rfl ⟨_, rfl, WaysAt.nil _ _, hK1.1⟩
    have x6 : (c != 16) = true := by simp [h6]
    rw [if_pos (Or.inl ⟨h5, h6⟩)] at eX
    cases eX
    clear h5 h6
    go_wp2_with fail
    exact bodyPost_ret (v := .tuple #[.slice none 0 0, vI vK 1]) (by simp [results, Tryz.results105, go_sem]) rfl ⟨_, rfl, WaysAt.nil _ _, hK1.1⟩
  have x3 : ((y.reg d).k == 1) = false := by simp [h3]
  clear h3 h34
  by_cases h5 : c = 15
  · have x5 : (c != 15) = false := by simp [h5]
    cases r
    · by_cases h7 : n = 0
      · have x7 : (n != 0) = false := by simp [h7]
        rw [if_neg (by simp [h5, h7])] at eX
        cases eX
        clear h7 h5
        go_upto_region 8 with fail
        go_step
        (refine wpList_load_row rfl 150 (.tmp 2) rfl w.heap.size rfl 150 (wayCs p y) (0, 0) _ yW Tryz.underlying150 rfl (infoW_of _ _) ?_)
        simp only [Act.put, siA, scZ, scS]
        (refine wpList_valueOf rfl (.agg #[vI vK c, vI vK d, vI vK s, .bool false, vI vK o, vI vK n]) w4 (by go_simp; try rfl) ?_); simp only [Act.put, siA, scZ, scS]
        refine wpList_callEx rfl 148 #[.agg (wayCs p y), .agg #[vI vK c, vI vK d, vI vK s, .bool false, vI vK o, vI vK n]] (by go_simp; try rfl) (HP.out w4) ?_
        intro v5 w5 hq
        obtain ⟨hA5, hB5⟩ := hq
        have hK5 := hK1.later hB5
        have hs5 := hK1.1.size
        simp only [Act.put, siA, scZ, scS]
        clear hK1 l0 l1 l2 lf0 lf1 lf2 llt k0 k1 k2 kf0 kf1 kf2 klt p0 p1 p2 p3 p4 p5 ltS yW ylt
        go_wp2_with fail
        exact bodyPost_ret (v := .tuple #[v5, vI vK 0]) (by simp [results, Tryz.results105, go_sem]) rfl ⟨_, rfl, hA5.mono hs5, hK5.1⟩
      · have x7 : (n != 0) = true := by simp [h7]
        rw [if_pos (Or.inr (Or.inr h7))] at eX
        cases eX
        clear h7 h5
        go_wp2_with fail
        exact bodyPost_ret (v := .tuple #[.slice none 0 0, vI vK 1]) (by simp [results, Tryz.results105, go_sem]) rfl ⟨_, rfl, WaysAt.nil _ _, hK1.1⟩
    · rw [if_pos (Or.inr (Or.inl rfl))] at eX
      cases eX
      clear h5
      go_wp2_with fail
      exact bodyPost_ret (v := .tuple #[.slice none 0 0, vI vK 1]) (by simp [results, Tryz.results105, go_sem]) rfl ⟨_, rfl, WaysAt.nil _ _, hK1.1⟩
  have x5 : (c != 15) = true := by simp [h5]
  by_cases h6 : c = 16
  · have x6 : (c != 16) = false := by simp [h6]
    cases r
    · by_cases h7 : n = 0
      · have x7 : (n != 0) = false := by simp [h7]
        rw [if_neg (by simp [h6, h7])] at eX
        cases eX
        clear h7 h6
        go_upto_region 8 with fail
        go_step
        (refine wpList_load_row rfl 150 (.tmp 2) rfl w.heap.size rfl 150 (wayCs p y) (0, 0) _ yW Tryz.underlying150 rfl (infoW_of _ _) ?_)
        simp only [Act.put, siA, scZ, scS]
        (refine wpList_valueOf rfl (.agg #[vI vK c, vI vK d, vI vK s, .bool false, vI vK o, vI vK n]) w4 (by go_simp; try rfl) ?_); simp only [Act.put, siA, scZ, scS]
        refine wpList_callEx rfl 148 #[.agg (wayCs p y), .agg #[vI vK c, vI vK d, vI vK s, .bool false, vI vK o, vI vK n]] (by go_simp; try rfl) (HP.out w4) ?_
        intro v5 w5 hq
        obtain ⟨hA5, hB5⟩ := hq
        have hK5 := hK1.later hB5
        have hs5 := hK1.1.size
        simp only [Act.put, siA, scZ, scS]
        clear hK1 l0 l1 l2 lf0 lf1 lf2 llt k0 k1 k2 kf0 kf1 kf2 klt p0 p1 p2 p3 p4 p5 ltS yW ylt
        go_wp2_with fail
        exact bodyPost_ret (v := .tuple #[v5, vI vK 0]) (by simp [results, Tryz.results105, go_sem]) rfl ⟨_, rfl, hA5.mono hs5, hK5.1⟩
      · have x7 : (n != 0) = true := by simp [h7]
        rw [if_pos (Or.inr (Or.inr h7))] at eX
        cases eX
        clear h7 h6
        go_wp2_with fail
        exact bodyPost_ret (v := .tuple #[.slice none 0 0, vI vK 1]) (by simp [results, Tryz.results105, go_sem]) rfl ⟨_, rfl, WaysAt.nil _ _, hK1.1⟩
    · rw [if_pos (Or.inr (Or.inl rfl))] at eX
      cases eX
      clear h6
      go_wp2_with fail
      exact bodyPost_ret (v := .tuple #[.slice none 0 0, vI vK 1]) (by simp [results, Tryz.results105, go_sem]) rfl ⟨_, rfl, WaysAt.nil _ _, hK1.1⟩
  have x6 : (c != 16) = true := by simp [h6]
  rw [if_pos (Or.inl ⟨h5, h6⟩)] at eX
  cases eX
  clear h5 h6
  go_wp2_with fail
  exact bodyPost_ret (v := .tuple #[.slice none 0 0, vI vK 1]) (by simp [results, Tryz.results105, go_sem]) rfl ⟨_, rfl, WaysAt.nil _ _, hK1.1⟩
end Go.Proofs.YtednmkhdehlojaaGreatDoor
namespace Go.Proofs.YtednmkhdehlojaaGreatDoor
open Go.ChangeShapes Go.WideShapes Go.ChangeAt Go.RowKit
attribute [local simp] drew_size drewN_size setCell_size
set_option linter.unusedVariables false
theorem vlook_ask (d s : Nat) (c o n p : Int) (r : Bool) (y : Way) (l : List (Int × Way)) (E : Int) (HL : Hid (∀ W : World, Calls Tryz.prog 105 #[.agg (wayCs p y), .agg #[vI vK c, vI vK d, vI vK s, .bool r, vI vK o, vI vK n]] W fun e w' => ∃ v, e = .returned (.tuple #[v, vI vK E]) ∧ WaysAt w' W.heap.size v l ∧ Below W.heap.size W w')) (HQ : Hid ((decide (15 ≤ c) && decide (c ≤ 24)) = true)) (w : World) :
    Calls Tryz.prog 66 #[.agg (wayCs p y), .agg #[vI vK c, vI vK d, vI vK s, .bool r, vI vK o, vI vK n]] w fun e w' => ∃ v, e = .returned (.tuple #[v, vI vK E]) ∧ WaysAt w' w.heap.size v l ∧ Below w.heap.size w w' := by
  have hK0 : Blk w [(w.heap.size, .cells (wayCs p y) 150 (0, 0)), (w.heap.size + 1, .cells #[vI vK c, vI vK d, vI vK s, .bool r, vI vK o, vI vK n] 49 (0, 0))] _ := ((Blk.nil (((bF _ _).alloc (Nat.le_refl _) _).alloc (by simp) _)).cons (heap_alloc2_new w (.cells (wayCs p y) 150) (.cells #[vI vK c, vI vK d, vI vK s, .bool r, vI vK o, vI vK n] 49))).cons ((WayAt.start w p y).alloc (.cells #[vI vK c, vI vK d, vI vK s, .bool r, vI vK o, vI vK n] 49))
  go_enter Tryz.func66, Tryz.ntmps66
  go_upto_region 1 with fail
  generalize ((w.alloc (.cells (wayCs p y) 150)).alloc (.cells #[vI vK c, vI vK d, vI vK s, .bool r, vI vK o, vI vK n] 49)) = w1 at hK0 ⊢
  have yW : WayAt _ w.heap.size _ _ := (hK0.2 _ mcS); have ylt := yW.lt; obtain ⟨p0, p1, p2, p3, p4, p5, ltS⟩ := row6 (hK0.2 _ (mcO _ mcS))
  go_upto_region 4 with (first | (go_at_call 89; refine (asks_any c _).mono ?_; rintro e w1 ⟨rfl, rfl⟩; rw [HQ.out]) | fail)
  go_step
  (refine wpList_load_row rfl 150 (.tmp 2) rfl w.heap.size rfl 150 (wayCs p y) (0, 0) _ yW Tryz.underlying150 rfl (infoW_of _ _) ?_)
  simp only [Act.put, siA, scZ, scS]
  (refine wpList_valueOf rfl (.agg #[vI vK c, vI vK d, vI vK s, .bool r, vI vK o, vI vK n]) w1 (by go_simp; try rfl) ?_); simp only [Act.put, siA, scZ, scS]
  refine wpList_callEx rfl 105 #[.agg (wayCs p y), .agg #[vI vK c, vI vK d, vI vK s, .bool r, vI vK o, vI vK n]] (by go_simp; try rfl) (R := fun x w' => ∃ v, x = .tuple #[v, vI vK E] ∧ WaysAt w' w1.heap.size v l ∧ Below w1.heap.size w1 w') ((HL.out w1).mono fun e w' h => by obtain ⟨v, h1, h2⟩ := h; exact ⟨_, h1, v, rfl, h2⟩) ?_
  intro v5 w5 hq
  obtain ⟨v, rfl, hA5, hB5⟩ := hq
  have hK5 := hK0.later hB5
  have hs5 := hK0.1.size
  simp only [Act.put, siA, scZ, scS]
  clear yW ylt p0 p1 p2 p3 p4 p5 ltS
  clear hK0
  go_wp2_with fail
  exact bodyPost_ret (v := .tuple #[v, vI vK E]) (by simp [results, Tryz.results66, go_sem]) rfl ⟨_, rfl, hA5.mono hs5, hK5.1⟩
theorem vlook_jump (d s : Nat) (c o n p : Int) (r : Bool) (y : Way) (hp0 : 0 ≤ p) (hp1 : p ≤ 1000) (ho0 : 0 ≤ o) (ho1 : o ≤ 1000) (HQ : Hid ((decide (15 ≤ c) && decide (c ≤ 24)) = false)) (x14 : (c == 14) = true) (w : World) :
    Calls Tryz.prog 66 #[.agg (wayCs p y), .agg #[vI vK c, vI vK d, vI vK s, .bool r, vI vK o, vI vK n]] w fun e w' => ∃ v, e = .returned (.tuple #[v, vI vK 0]) ∧ WaysAt w' w.heap.size v [((p + (1 + o)), y)] ∧ Below w.heap.size w w' := by
  have hK0 : Blk w [(w.heap.size, .cells (wayCs p y) 150 (0, 0)), (w.heap.size + 1, .cells #[vI vK c, vI vK d, vI vK s, .bool r, vI vK o, vI vK n] 49 (0, 0))] _ := ((Blk.nil (((bF _ _).alloc (Nat.le_refl _) _).alloc (by simp) _)).cons (heap_alloc2_new w (.cells (wayCs p y) 150) (.cells #[vI vK c, vI vK d, vI vK s, .bool r, vI vK o, vI vK n] 49))).cons ((WayAt.start w p y).alloc (.cells #[vI vK c, vI vK d, vI vK s, .bool r, vI vK o, vI vK n] 49))
  go_enter Tryz.func66, Tryz.ntmps66
  go_upto_region 1 with fail
  generalize ((w.alloc (.cells (wayCs p y) 150)).alloc (.cells #[vI vK c, vI vK d, vI vK s, .bool r, vI vK o, vI vK n] 49)) = w1 at hK0 ⊢
  have yW : WayAt _ w.heap.size _ _ := (hK0.2 _ mcS); have ylt := yW.lt; obtain ⟨p0, p1, p2, p3, p4, p5, ltS⟩ := row6 (hK0.2 _ (mcO _ mcS))
  go_upto_region 6 with (first | (go_at_call 89; refine (asks_any c _).mono ?_; rintro e w1 ⟨rfl, rfl⟩; rw [HQ.out]) | fail)
  go_step
  (refine wpList_load_row rfl 150 (.tmp 2) rfl w.heap.size rfl 150 (wayCs p y) (0, 0) _ yW Tryz.underlying150 rfl (infoW_of _ _) ?_)
  simp only [Act.put, siA, scZ, scS]
  (refine wpList_valueOf rfl (.pointer (some ⟨w.heap.size + 1, 4, none⟩)) w1 (by go_simp; try rfl) ?_); simp only [Act.put, siA, scZ, scS]
  (refine wpList_valueOf rfl (vI vK o) w1 (by go_simp; try rfl) ?_); simp only [Act.put, siA, scZ, scS]
  (refine wpList_callOf rfl 106 #[.agg (wayCs p y), vI vK o] (by go_simp; try rfl) (.agg (wayCs (p + (1 + o)) y)) (on_any p o y hp0 hp1 ho0 ho1 w1) ?_)
  intro w5 hB5
  have hK5 := hK0.later hB5
  simp only [Act.put, siA, scZ, scS]
  refine wpList_ways1 rfl (.tmp 25) (p + (1 + o)) y rfl rfl ?_
  simp only [Act.put, siA, scZ, scS]
  clear yW ylt p0 p1 p2 p3 p4 p5 ltS
  have hbE := hK5.1
  have hm := WaysAt.made w5 w.heap.size [((p + (1 + o)), y)] hbE.size (by unfold maxLen; simp)
  go_wp2_with fail
  exact bodyPost_ret (v := .tuple #[_, vI vK 0]) (by simp [results, Tryz.results66, go_sem]) rfl ⟨_, rfl, hm, hbE.alloc hbE.size _⟩
theorem vlook_exit (d s : Nat) (c o n p : Int) (r : Bool) (y : Way)  (HQ : Hid ((decide (15 ≤ c) && decide (c ≤ 24)) = false)) (x14 : (c == 14) = false) (x28 : (c == 28) = true) (w : World) :
    Calls Tryz.prog 66 #[.agg (wayCs p y), .agg #[vI vK c, vI vK d, vI vK s, .bool r, vI vK o, vI vK n]] w fun e w' => e = .returned (.tuple #[.slice none 0 0, vI vK (knoWant (y.reg 0))]) ∧ Below w.heap.size w w' := by
  have hK0 : Blk w [(w.heap.size, .cells (wayCs p y) 150 (0, 0)), (w.heap.size + 1, .cells #[vI vK c, vI vK d, vI vK s, .bool r, vI vK o, vI vK n] 49 (0, 0))] _ := ((Blk.nil (((bF _ _).alloc (Nat.le_refl _) _).alloc (by simp) _)).cons (heap_alloc2_new w (.cells (wayCs p y) 150) (.cells #[vI vK c, vI vK d, vI vK s, .bool r, vI vK o, vI vK n] 49))).cons ((WayAt.start w p y).alloc (.cells #[vI vK c, vI vK d, vI vK s, .bool r, vI vK o, vI vK n] 49))
  go_enter Tryz.func66, Tryz.ntmps66
  go_upto_region 1 with fail
  generalize ((w.alloc (.cells (wayCs p y) 150)).alloc (.cells #[vI vK c, vI vK d, vI vK s, .bool r, vI vK o, vI vK n] 49)) = w1 at hK0 ⊢
  have yW : WayAt _ w.heap.size _ _ := (hK0.2 _ mcS); have ylt := yW.lt; obtain ⟨p0, p1, p2, p3, p4, p5, ltS⟩ := row6 (hK0.2 _ (mcO _ mcS))
  go_upto_region 8 with (first | (go_at_call 89; refine (asks_any c _).mono ?_; rintro e w1 ⟨rfl, rfl⟩; rw [HQ.out]) | fail)
  go_step
  obtain ⟨i0, i1, i2⟩ := yW.reg (d := 0) (by decide)
  (refine wpList_valueOf rfl (.pointer (some ⟨w.heap.size, 1, none⟩)) w1 (by go_simp; try rfl) ?_); simp only [Act.put, siA, scZ, scS]
  (refine wpList_valueOf rfl (.pointer (some ⟨w.heap.size, 1 + 0 * 3, none⟩)) w1 (by go_simp; try rfl) ?_); simp only [Act.put, siA, scZ, scS]
  (refine wpList_valueOf rfl (.agg #[vI vK (y.reg 0).k, vI vK (y.reg 0).l, vI vK (y.reg 0).h]) w1 (by go_simp; try rfl) ?_); simp only [Act.put, siA, scZ, scS]
  (refine wpList_callOf rfl 107 #[.agg #[vI vK (y.reg 0).k, vI vK (y.reg 0).l, vI vK (y.reg 0).h]] (by go_simp; try rfl) (vI vK (knoWant (y.reg 0))) (vwant_any _ _ _ w1) ?_)
  intro w5 hB5
  have hK5 := hK0.later hB5
  simp only [Act.put, siA, scZ, scS]
  clear yW ylt p0 p1 p2 p3 p4 p5 ltS i0 i1 i2
  go_wp2_with fail
  exact bodyPost_ret (v := .tuple #[.slice none 0 0, vI vK (knoWant (y.reg 0))]) (by simp [results, Tryz.results66, go_sem]) rfl ⟨rfl, hK5.1⟩
theorem vlook_load_no (d s : Nat) (c o n p : Int) (r : Bool) (y : Way) (hp0 : 0 ≤ p) (hp1 : p ≤ 1000) (E : Int) (y1 : Way) (HM : Hid (∀ (W : World) (B : Nat), WayAt W B p y → Calls Tryz.prog 108 #[.pointer (some ⟨B, 0, none⟩), .agg #[vI vK c, vI vK d, vI vK s, .bool r, vI vK o, vI vK n]] W fun e w' => e = .returned (vI vK E) ∧ Kept B W w' ∧ WayAt w' B p y1)) (xE : (E != 0) = true) (HQ : Hid ((decide (15 ≤ c) && decide (c ≤ 24)) = false)) (x14 : (c == 14) = false) (x28 : (c == 28) = false) (x25 : (c == 25) = true) (w : World) :
    Calls Tryz.prog 66 #[.agg (wayCs p y), .agg #[vI vK c, vI vK d, vI vK s, .bool r, vI vK o, vI vK n]] w fun e w' => e = .returned (.tuple #[.slice none 0 0, vI vK E]) ∧ Below w.heap.size w w' := by
  have hK0 : Blk w [(w.heap.size, .cells (wayCs p y) 150 (0, 0)), (w.heap.size + 1, .cells #[vI vK c, vI vK d, vI vK s, .bool r, vI vK o, vI vK n] 49 (0, 0))] _ := ((Blk.nil (((bF _ _).alloc (Nat.le_refl _) _).alloc (by simp) _)).cons (heap_alloc2_new w (.cells (wayCs p y) 150) (.cells #[vI vK c, vI vK d, vI vK s, .bool r, vI vK o, vI vK n] 49))).cons ((WayAt.start w p y).alloc (.cells #[vI vK c, vI vK d, vI vK s, .bool r, vI vK o, vI vK n] 49))
  go_enter Tryz.func66, Tryz.ntmps66
  go_upto_region 1 with fail
  generalize ((w.alloc (.cells (wayCs p y) 150)).alloc (.cells #[vI vK c, vI vK d, vI vK s, .bool r, vI vK o, vI vK n] 49)) = w1 at hK0 ⊢
  have yW : WayAt _ w.heap.size _ _ := (hK0.2 _ mcS); have ylt := yW.lt; obtain ⟨p0, p1, p2, p3, p4, p5, ltS⟩ := row6 (hK0.2 _ (mcO _ mcS))
  go_upto_region 10 with (first | (go_at_call 89; refine (asks_any c _).mono ?_; rintro e w1 ⟨rfl, rfl⟩; rw [HQ.out]) | fail)
  go_step
  (refine wpList_valueOf rfl (.agg #[vI vK c, vI vK d, vI vK s, .bool r, vI vK o, vI vK n]) w1 (by go_simp; try rfl) ?_); simp only [Act.put, siA, scZ, scS]
  (refine wpList_callOf rfl 108 #[.pointer (some ⟨w.heap.size, 0, none⟩), .agg #[vI vK c, vI vK d, vI vK s, .bool r, vI vK o, vI vK n]] (by go_simp; try rfl) (vI vK E) (HM.out w1 w.heap.size yW) ?_)
  intro w5 hq
  obtain ⟨hk5, hW5⟩ := hq
  have hK5 := (Blk.more (F' := []) hK0 (by simp)).grown (b := w.heap.size) hk5 (fun k e => Nat.le_of_eq (Option.some.inj e)) (Nat.le_refl _) (by simp)
  clear yW ylt p0 p1 p2 p3 p4 p5 ltS
  clear hk5 hK0
  simp only [Act.put, siA, scZ, scS]
  go_wp2_with fail
  exact bodyPost_ret (v := .tuple #[.slice none 0 0, vI vK E]) (by simp [results, Tryz.results66, go_sem]) rfl ⟨rfl, hK5.1⟩
theorem vlook_load (d s : Nat) (c o n p : Int) (r : Bool) (y : Way) (hp0 : 0 ≤ p) (hp1 : p ≤ 1000) (E : Int) (y1 : Way) (HM : Hid (∀ (W : World) (B : Nat), WayAt W B p y → Calls Tryz.prog 108 #[.pointer (some ⟨B, 0, none⟩), .agg #[vI vK c, vI vK d, vI vK s, .bool r, vI vK o, vI vK n]] W fun e w' => e = .returned (vI vK E) ∧ Kept B W w' ∧ WayAt w' B p y1)) (xE : (E != 0) = false) (HQ : Hid ((decide (15 ≤ c) && decide (c ≤ 24)) = false)) (x14 : (c == 14) = false) (x28 : (c == 28) = false) (x25 : (c == 25) = true) (w : World) :
    Calls Tryz.prog 66 #[.agg (wayCs p y), .agg #[vI vK c, vI vK d, vI vK s, .bool r, vI vK o, vI vK n]] w fun e w' => ∃ v, e = .returned (.tuple #[v, vI vK 0]) ∧ WaysAt w' w.heap.size v [((p + 1), y1)] ∧ Below w.heap.size w w' := by
  have hK0 : Blk w [(w.heap.size, .cells (wayCs p y) 150 (0, 0)), (w.heap.size + 1, .cells #[vI vK c, vI vK d, vI vK s, .bool r, vI vK o, vI vK n] 49 (0, 0))] _ := ((Blk.nil (((bF _ _).alloc (Nat.le_refl _) _).alloc (by simp) _)).cons (heap_alloc2_new w (.cells (wayCs p y) 150) (.cells #[vI vK c, vI vK d, vI vK s, .bool r, vI vK o, vI vK n] 49))).cons ((WayAt.start w p y).alloc (.cells #[vI vK c, vI vK d, vI vK s, .bool r, vI vK o, vI vK n] 49))
  go_enter Tryz.func66, Tryz.ntmps66
  go_upto_region 1 with fail
  generalize ((w.alloc (.cells (wayCs p y) 150)).alloc (.cells #[vI vK c, vI vK d, vI vK s, .bool r, vI vK o, vI vK n] 49)) = w1 at hK0 ⊢
  have yW : WayAt _ w.heap.size _ _ := (hK0.2 _ mcS); have ylt := yW.lt; obtain ⟨p0, p1, p2, p3, p4, p5, ltS⟩ := row6 (hK0.2 _ (mcO _ mcS))
  go_upto_region 10 with (first | (go_at_call 89; refine (asks_any c _).mono ?_; rintro e w1 ⟨rfl, rfl⟩; rw [HQ.out]) | fail)
  go_step
  (refine wpList_valueOf rfl (.agg #[vI vK c, vI vK d, vI vK s, .bool r, vI vK o, vI vK n]) w1 (by go_simp; try rfl) ?_); simp only [Act.put, siA, scZ, scS]
  (refine wpList_callOf rfl 108 #[.pointer (some ⟨w.heap.size, 0, none⟩), .agg #[vI vK c, vI vK d, vI vK s, .bool r, vI vK o, vI vK n]] (by go_simp; try rfl) (vI vK E) (HM.out w1 w.heap.size yW) ?_)
  intro w5 hq
  obtain ⟨hk5, hW5⟩ := hq
  have hK5 := (Blk.more (F' := []) hK0 (by simp)).grown (b := w.heap.size) hk5 (fun k e => Nat.le_of_eq (Option.some.inj e)) (Nat.le_refl _) (by simp)
  clear yW ylt p0 p1 p2 p3 p4 p5 ltS
  clear hk5 hK0
  simp only [Act.put, siA, scZ, scS]
  go_upto_region 17 with fail
  go_step
  (refine wpList_load_row rfl 150 (.tmp 2) rfl w.heap.size rfl 150 (wayCs p y1) (0, 0) _ hW5 Tryz.underlying150 rfl (infoW_of _ _) ?_)
  simp only [Act.put, siA, scZ, scS]
  (refine wpList_callOf rfl 106 #[.agg (wayCs p y1), vI vK 0] (by go_simp; try rfl) (.agg (wayCs (p + 1) y1)) (on_zero p y1 hp0 hp1 w5) ?_)
  intro w6 hB6
  have hK6 := hK5.later hB6
  simp only [Act.put, siA, scZ, scS]
  refine wpList_ways1 rfl (.tmp 58) (p + 1) y1 rfl rfl ?_
  simp only [Act.put, siA, scZ, scS]
  have hbE := hK6.1
  have hm := WaysAt.made w6 w.heap.size [((p + 1), y1)] hbE.size (by unfold maxLen; simp)
  go_wp2_with fail
  exact bodyPost_ret (v := .tuple #[_, vI vK 0]) (by simp [results, Tryz.results66, go_sem]) rfl ⟨_, rfl, hm, hbE.alloc hbE.size _⟩
theorem vlook_store_no (d s : Nat) (c o n p : Int) (r : Bool) (y : Way) (hp0 : 0 ≤ p) (hp1 : p ≤ 1000) (E : Int) (y1 : Way) (HM : Hid (∀ (W : World) (B : Nat), WayAt W B p y → Calls Tryz.prog 109 #[.pointer (some ⟨B, 0, none⟩), .agg #[vI vK c, vI vK d, vI vK s, .bool r, vI vK o, vI vK n]] W fun e w' => e = .returned (vI vK E) ∧ Kept B W w' ∧ WayAt w' B p y1)) (xE : (E != 0) = true) (HQ : Hid ((decide (15 ≤ c) && decide (c ≤ 24)) = false)) (x14 : (c == 14) = false) (x28 : (c == 28) = false) (x25 : (c == 25) = false) (x26 : (c == 26) = true) (w : World) :
    Calls Tryz.prog 66 #[.agg (wayCs p y), .agg #[vI vK c, vI vK d, vI vK s, .bool r, vI vK o, vI vK n]] w fun e w' => e = .returned (.tuple #[.slice none 0 0, vI vK E]) ∧ Below w.heap.size w w' := by
  have hK0 : Blk w [(w.heap.size, .cells (wayCs p y) 150 (0, 0)), (w.heap.size + 1, .cells #[vI vK c, vI vK d, vI vK s, .bool r, vI vK o, vI vK n] 49 (0, 0))] _ := ((Blk.nil (((bF _ _).alloc (Nat.le_refl _) _).alloc (by simp) _)).cons (heap_alloc2_new w (.cells (wayCs p y) 150) (.cells #[vI vK c, vI vK d, vI vK s, .bool r, vI vK o, vI vK n] 49))).cons ((WayAt.start w p y).alloc (.cells #[vI vK c, vI vK d, vI vK s, .bool r, vI vK o, vI vK n] 49))
  go_enter Tryz.func66, Tryz.ntmps66
  go_upto_region 1 with fail
  generalize ((w.alloc (.cells (wayCs p y) 150)).alloc (.cells #[vI vK c, vI vK d, vI vK s, .bool r, vI vK o, vI vK n] 49)) = w1 at hK0 ⊢
  have yW : WayAt _ w.heap.size _ _ := (hK0.2 _ mcS); have ylt := yW.lt; obtain ⟨p0, p1, p2, p3, p4, p5, ltS⟩ := row6 (hK0.2 _ (mcO _ mcS))
  go_upto_region 12 with (first | (go_at_call 89; refine (asks_any c _).mono ?_; rintro e w1 ⟨rfl, rfl⟩; rw [HQ.out]) | fail)
  go_step
  (refine wpList_valueOf rfl (.agg #[vI vK c, vI vK d, vI vK s, .bool r, vI vK o, vI vK n]) w1 (by go_simp; try rfl) ?_); simp only [Act.put, siA, scZ, scS]
  (refine wpList_callOf rfl 109 #[.pointer (some ⟨w.heap.size, 0, none⟩), .agg #[vI vK c, vI vK d, vI vK s, .bool r, vI vK o, vI vK n]] (by go_simp; try rfl) (vI vK E) (HM.out w1 w.heap.size yW) ?_)
  intro w5 hq
  obtain ⟨hk5, hW5⟩ := hq
  have hK5 := (Blk.more (F' := []) hK0 (by simp)).grown (b := w.heap.size) hk5 (fun k e => Nat.le_of_eq (Option.some.inj e)) (Nat.le_refl _) (by simp)
  clear yW ylt p0 p1 p2 p3 p4 p5 ltS
  clear hk5 hK0
  simp only [Act.put, siA, scZ, scS]
  go_wp2_with fail
  exact bodyPost_ret (v := .tuple #[.slice none 0 0, vI vK E]) (by simp [results, Tryz.results66, go_sem]) rfl ⟨rfl, hK5.1⟩
theorem vlook_store (d s : Nat) (c o n p : Int) (r : Bool) (y : Way) (hp0 : 0 ≤ p) (hp1 : p ≤ 1000) (E : Int) (y1 : Way) (HM : Hid (∀ (W : World) (B : Nat), WayAt W B p y → Calls Tryz.prog 109 #[.pointer (some ⟨B, 0, none⟩), .agg #[vI vK c, vI vK d, vI vK s, .bool r, vI vK o, vI vK n]] W fun e w' => e = .returned (vI vK E) ∧ Kept B W w' ∧ WayAt w' B p y1)) (xE : (E != 0) = false) (HQ : Hid ((decide (15 ≤ c) && decide (c ≤ 24)) = false)) (x14 : (c == 14) = false) (x28 : (c == 28) = false) (x25 : (c == 25) = false) (x26 : (c == 26) = true) (w : World) :
    Calls Tryz.prog 66 #[.agg (wayCs p y), .agg #[vI vK c, vI vK d, vI vK s, .bool r, vI vK o, vI vK n]] w fun e w' => ∃ v, e = .returned (.tuple #[v, vI vK 0]) ∧ WaysAt w' w.heap.size v [((p + 1), y1)] ∧ Below w.heap.size w w' := by
  have hK0 : Blk w [(w.heap.size, .cells (wayCs p y) 150 (0, 0)), (w.heap.size + 1, .cells #[vI vK c, vI vK d, vI vK s, .bool r, vI vK o, vI vK n] 49 (0, 0))] _ := ((Blk.nil (((bF _ _).alloc (Nat.le_refl _) _).alloc (by simp) _)).cons (heap_alloc2_new w (.cells (wayCs p y) 150) (.cells #[vI vK c, vI vK d, vI vK s, .bool r, vI vK o, vI vK n] 49))).cons ((WayAt.start w p y).alloc (.cells #[vI vK c, vI vK d, vI vK s, .bool r, vI vK o, vI vK n] 49))
  go_enter Tryz.func66, Tryz.ntmps66
  go_upto_region 1 with fail
  generalize ((w.alloc (.cells (wayCs p y) 150)).alloc (.cells #[vI vK c, vI vK d, vI vK s, .bool r, vI vK o, vI vK n] 49)) = w1 at hK0 ⊢
  have yW : WayAt _ w.heap.size _ _ := (hK0.2 _ mcS); have ylt := yW.lt; obtain ⟨p0, p1, p2, p3, p4, p5, ltS⟩ := row6 (hK0.2 _ (mcO _ mcS))
  go_upto_region 12 with (first | (go_at_call 89; refine (asks_any c _).mono ?_; rintro e w1 ⟨rfl, rfl⟩; rw [HQ.out]) | fail)
  go_step
  (refine wpList_valueOf rfl (.agg #[vI vK c, vI vK d, vI vK s, .bool r, vI vK o, vI vK n]) w1 (by go_simp; try rfl) ?_); simp only [Act.put, siA, scZ, scS]
  (refine wpList_callOf rfl 109 #[.pointer (some ⟨w.heap.size, 0, none⟩), .agg #[vI vK c, vI vK d, vI vK s, .bool r, vI vK o, vI vK n]] (by go_simp; try rfl) (vI vK E) (HM.out w1 w.heap.size yW) ?_)
  intro w5 hq
  obtain ⟨hk5, hW5⟩ := hq
  have hK5 := (Blk.more (F' := []) hK0 (by simp)).grown (b := w.heap.size) hk5 (fun k e => Nat.le_of_eq (Option.some.inj e)) (Nat.le_refl _) (by simp)
  clear yW ylt p0 p1 p2 p3 p4 p5 ltS
  clear hk5 hK0
  simp only [Act.put, siA, scZ, scS]
  go_upto_region 17 with fail
  go_step
  (refine wpList_load_row rfl 150 (.tmp 2) rfl w.heap.size rfl 150 (wayCs p y1) (0, 0) _ hW5 Tryz.underlying150 rfl (infoW_of _ _) ?_)
  simp only [Act.put, siA, scZ, scS]
  (refine wpList_callOf rfl 106 #[.agg (wayCs p y1), vI vK 0] (by go_simp; try rfl) (.agg (wayCs (p + 1) y1)) (on_zero p y1 hp0 hp1 w5) ?_)
  intro w6 hB6
  have hK6 := hK5.later hB6
  simp only [Act.put, siA, scZ, scS]
  refine wpList_ways1 rfl (.tmp 58) (p + 1) y1 rfl rfl ?_
  simp only [Act.put, siA, scZ, scS]
  have hbE := hK6.1
  have hm := WaysAt.made w6 w.heap.size [((p + 1), y1)] hbE.size (by unfold maxLen; simp)
  go_wp2_with fail
  exact bodyPost_ret (v := .tuple #[_, vI vK 0]) (by simp [results, Tryz.results66, go_sem]) rfl ⟨_, rfl, hm, hbE.alloc hbE.size _⟩
theorem vlook_call_no (d s : Nat) (c o n p : Int) (r : Bool) (y : Way) (hp0 : 0 ≤ p) (hp1 : p ≤ 1000) (E : Int) (y1 : Way) (HM : Hid (∀ (W : World) (B : Nat), WayAt W B p y → Calls Tryz.prog 110 #[.pointer (some ⟨B, 0, none⟩), vI vK n] W fun e w' => e = .returned (vI vK E) ∧ Kept B W w' ∧ WayAt w' B p y1)) (xE : (E != 0) = true) (HQ : Hid ((decide (15 ≤ c) && decide (c ≤ 24)) = false)) (x14 : (c == 14) = false) (x28 : (c == 28) = false) (x25 : (c == 25) = false) (x26 : (c == 26) = false) (x27 : (c == 27) = true) (w : World) :
    Calls Tryz.prog 66 #[.agg (wayCs p y), .agg #[vI vK c, vI vK d, vI vK s, .bool r, vI vK o, vI vK n]] w fun e w' => e = .returned (.tuple #[.slice none 0 0, vI vK E]) ∧ Below w.heap.size w w' := by
  have hK0 : Blk w [(w.heap.size, .cells (wayCs p y) 150 (0, 0)), (w.heap.size + 1, .cells #[vI vK c, vI vK d, vI vK s, .bool r, vI vK o, vI vK n] 49 (0, 0))] _ := ((Blk.nil (((bF _ _).alloc (Nat.le_refl _) _).alloc (by simp) _)).cons (heap_alloc2_new w (.cells (wayCs p y) 150) (.cells #[vI vK c, vI vK d, vI vK s, .bool r, vI vK o, vI vK n] 49))).cons ((WayAt.start w p y).alloc (.cells #[vI vK c, vI vK d, vI vK s, .bool r, vI vK o, vI vK n] 49))
  go_enter Tryz.func66, Tryz.ntmps66
  go_upto_region 1 with fail
  generalize ((w.alloc (.cells (wayCs p y) 150)).alloc (.cells #[vI vK c, vI vK d, vI vK s, .bool r, vI vK o, vI vK n] 49)) = w1 at hK0 ⊢
  have yW : WayAt _ w.heap.size _ _ := (hK0.2 _ mcS); have ylt := yW.lt; obtain ⟨p0, p1, p2, p3, p4, p5, ltS⟩ := row6 (hK0.2 _ (mcO _ mcS))
  go_upto_region 14 with (first | (go_at_call 89; refine (asks_any c _).mono ?_; rintro e w1 ⟨rfl, rfl⟩; rw [HQ.out]) | fail)
  go_step
  (refine wpList_valueOf rfl (.pointer (some ⟨w.heap.size + 1, 5, none⟩)) w1 (by go_simp; try rfl) ?_); simp only [Act.put, siA, scZ, scS]
  (refine wpList_valueOf rfl (vI vK n) w1 (by go_simp; try rfl) ?_); simp only [Act.put, siA, scZ, scS]
  (refine wpList_callOf rfl 110 #[.pointer (some ⟨w.heap.size, 0, none⟩), vI vK n] (by go_simp; try rfl) (vI vK E) (HM.out w1 w.heap.size yW) ?_)
  intro w5 hq
  obtain ⟨hk5, hW5⟩ := hq
  have hK5 := (Blk.more (F' := []) hK0 (by simp)).grown (b := w.heap.size) hk5 (fun k e => Nat.le_of_eq (Option.some.inj e)) (Nat.le_refl _) (by simp)
  clear yW ylt p0 p1 p2 p3 p4 p5 ltS
  clear hk5 hK0
  simp only [Act.put, siA, scZ, scS]
  go_wp2_with fail
  exact bodyPost_ret (v := .tuple #[.slice none 0 0, vI vK E]) (by simp [results, Tryz.results66, go_sem]) rfl ⟨rfl, hK5.1⟩
theorem vlook_call (d s : Nat) (c o n p : Int) (r : Bool) (y : Way) (hp0 : 0 ≤ p) (hp1 : p ≤ 1000) (E : Int) (y1 : Way) (HM : Hid (∀ (W : World) (B : Nat), WayAt W B p y → Calls Tryz.prog 110 #[.pointer (some ⟨B, 0, none⟩), vI vK n] W fun e w' => e = .returned (vI vK E) ∧ Kept B W w' ∧ WayAt w' B p y1)) (xE : (E != 0) = false) (HQ : Hid ((decide (15 ≤ c) && decide (c ≤ 24)) = false)) (x14 : (c == 14) = false) (x28 : (c == 28) = false) (x25 : (c == 25) = false) (x26 : (c == 26) = false) (x27 : (c == 27) = true) (w : World) :
    Calls Tryz.prog 66 #[.agg (wayCs p y), .agg #[vI vK c, vI vK d, vI vK s, .bool r, vI vK o, vI vK n]] w fun e w' => ∃ v, e = .returned (.tuple #[v, vI vK 0]) ∧ WaysAt w' w.heap.size v [((p + 1), y1)] ∧ Below w.heap.size w w' := by
  have hK0 : Blk w [(w.heap.size, .cells (wayCs p y) 150 (0, 0)), (w.heap.size + 1, .cells #[vI vK c, vI vK d, vI vK s, .bool r, vI vK o, vI vK n] 49 (0, 0))] _ := ((Blk.nil (((bF _ _).alloc (Nat.le_refl _) _).alloc (by simp) _)).cons (heap_alloc2_new w (.cells (wayCs p y) 150) (.cells #[vI vK c, vI vK d, vI vK s, .bool r, vI vK o, vI vK n] 49))).cons ((WayAt.start w p y).alloc (.cells #[vI vK c, vI vK d, vI vK s, .bool r, vI vK o, vI vK n] 49))
  go_enter Tryz.func66, Tryz.ntmps66
  go_upto_region 1 with fail
  generalize ((w.alloc (.cells (wayCs p y) 150)).alloc (.cells #[vI vK c, vI vK d, vI vK s, .bool r, vI vK o, vI vK n] 49)) = w1 at hK0 ⊢
  have yW : WayAt _ w.heap.size _ _ := (hK0.2 _ mcS); have ylt := yW.lt; obtain ⟨p0, p1, p2, p3, p4, p5, ltS⟩ := row6 (hK0.2 _ (mcO _ mcS))
  go_upto_region 14 with (first | (go_at_call 89; refine (asks_any c _).mono ?_; rintro e w1 ⟨rfl, rfl⟩; rw [HQ.out]) | fail)
  go_step
  (refine wpList_valueOf rfl (.pointer (some ⟨w.heap.size + 1, 5, none⟩)) w1 (by go_simp; try rfl) ?_); simp only [Act.put, siA, scZ, scS]
  (refine wpList_valueOf rfl (vI vK n) w1 (by go_simp; try rfl) ?_); simp only [Act.put, siA, scZ, scS]
  (refine wpList_callOf rfl 110 #[.pointer (some ⟨w.heap.size, 0, none⟩), vI vK n] (by go_simp; try rfl) (vI vK E) (HM.out w1 w.heap.size yW) ?_)
  intro w5 hq
  obtain ⟨hk5, hW5⟩ := hq
  have hK5 := (Blk.more (F' := []) hK0 (by simp)).grown (b := w.heap.size) hk5 (fun k e => Nat.le_of_eq (Option.some.inj e)) (Nat.le_refl _) (by simp)
  clear yW ylt p0 p1 p2 p3 p4 p5 ltS
  clear hk5 hK0
  simp only [Act.put, siA, scZ, scS]
  go_upto_region 17 with fail
  go_step
  (refine wpList_load_row rfl 150 (.tmp 2) rfl w.heap.size rfl 150 (wayCs p y1) (0, 0) _ hW5 Tryz.underlying150 rfl (infoW_of _ _) ?_)
  simp only [Act.put, siA, scZ, scS]
  (refine wpList_callOf rfl 106 #[.agg (wayCs p y1), vI vK 0] (by go_simp; try rfl) (.agg (wayCs (p + 1) y1)) (on_zero p y1 hp0 hp1 w5) ?_)
  intro w6 hB6
  have hK6 := hK5.later hB6
  simp only [Act.put, siA, scZ, scS]
  refine wpList_ways1 rfl (.tmp 58) (p + 1) y1 rfl rfl ?_
  simp only [Act.put, siA, scZ, scS]
  have hbE := hK6.1
  have hm := WaysAt.made w6 w.heap.size [((p + 1), y1)] hbE.size (by unfold maxLen; simp)
  go_wp2_with fail
  exact bodyPost_ret (v := .tuple #[_, vI vK 0]) (by simp [results, Tryz.results66, go_sem]) rfl ⟨_, rfl, hm, hbE.alloc hbE.size _⟩
theorem vlook_change_no (d s : Nat) (c o n p : Int) (r : Bool) (y : Way) (hp0 : 0 ≤ p) (hp1 : p ≤ 1000) (E : Int) (y1 : Way) (HM : Hid (∀ (W : World) (B : Nat), WayAt W B p y → Calls Tryz.prog 111 #[.pointer (some ⟨B, 0, none⟩), .agg #[vI vK c, vI vK d, vI vK s, .bool r, vI vK o, vI vK n]] W fun e w' => e = .returned (vI vK E) ∧ Kept B W w' ∧ WayAt w' B p y1)) (xE : (E != 0) = true) (HQ : Hid ((decide (15 ≤ c) && decide (c ≤ 24)) = false)) (x14 : (c == 14) = false) (x28 : (c == 28) = false) (x25 : (c == 25) = false) (x26 : (c == 26) = false) (x27 : (c == 27) = false) (w : World) :
    Calls Tryz.prog 66 #[.agg (wayCs p y), .agg #[vI vK c, vI vK d, vI vK s, .bool r, vI vK o, vI vK n]] w fun e w' => e = .returned (.tuple #[.slice none 0 0, vI vK E]) ∧ Below w.heap.size w w' := by
  have hK0 : Blk w [(w.heap.size, .cells (wayCs p y) 150 (0, 0)), (w.heap.size + 1, .cells #[vI vK c, vI vK d, vI vK s, .bool r, vI vK o, vI vK n] 49 (0, 0))] _ := ((Blk.nil (((bF _ _).alloc (Nat.le_refl _) _).alloc (by simp) _)).cons (heap_alloc2_new w (.cells (wayCs p y) 150) (.cells #[vI vK c, vI vK d, vI vK s, .bool r, vI vK o, vI vK n] 49))).cons ((WayAt.start w p y).alloc (.cells #[vI vK c, vI vK d, vI vK s, .bool r, vI vK o, vI vK n] 49))
  go_enter Tryz.func66, Tryz.ntmps66
  go_upto_region 1 with fail
  generalize ((w.alloc (.cells (wayCs p y) 150)).alloc (.cells #[vI vK c, vI vK d, vI vK s, .bool r, vI vK o, vI vK n] 49)) = w1 at hK0 ⊢
  have yW : WayAt _ w.heap.size _ _ := (hK0.2 _ mcS); have ylt := yW.lt; obtain ⟨p0, p1, p2, p3, p4, p5, ltS⟩ := row6 (hK0.2 _ (mcO _ mcS))
  go_upto_region 2 with (first | (go_at_call 89; refine (asks_any c _).mono ?_; rintro e w1 ⟨rfl, rfl⟩; rw [HQ.out]) | fail)
  go_step
  (refine wpList_valueOf rfl (.agg #[vI vK c, vI vK d, vI vK s, .bool r, vI vK o, vI vK n]) w1 (by go_simp; try rfl) ?_); simp only [Act.put, siA, scZ, scS]
  (refine wpList_callOf rfl 111 #[.pointer (some ⟨w.heap.size, 0, none⟩), .agg #[vI vK c, vI vK d, vI vK s, .bool r, vI vK o, vI vK n]] (by go_simp; try rfl) (vI vK E) (HM.out w1 w.heap.size yW) ?_)
  intro w5 hq
  obtain ⟨hk5, hW5⟩ := hq
  have hK5 := (Blk.more (F' := []) hK0 (by simp)).grown (b := w.heap.size) hk5 (fun k e => Nat.le_of_eq (Option.some.inj e)) (Nat.le_refl _) (by simp)
  clear yW ylt p0 p1 p2 p3 p4 p5 ltS
  clear hk5 hK0
  simp only [Act.put, siA, scZ, scS]
  go_wp2_with fail
  exact bodyPost_ret (v := .tuple #[.slice none 0 0, vI vK E]) (by simp [results, Tryz.results66, go_sem]) rfl ⟨rfl, hK5.1⟩
theorem vlook_change (d s : Nat) (c o n p : Int) (r : Bool) (y : Way) (hp0 : 0 ≤ p) (hp1 : p ≤ 1000) (E : Int) (y1 : Way) (HM : Hid (∀ (W : World) (B : Nat), WayAt W B p y → Calls Tryz.prog 111 #[.pointer (some ⟨B, 0, none⟩), .agg #[vI vK c, vI vK d, vI vK s, .bool r, vI vK o, vI vK n]] W fun e w' => e = .returned (vI vK E) ∧ Kept B W w' ∧ WayAt w' B p y1)) (xE : (E != 0) = false) (HQ : Hid ((decide (15 ≤ c) && decide (c ≤ 24)) = false)) (x14 : (c == 14) = false) (x28 : (c == 28) = false) (x25 : (c == 25) = false) (x26 : (c == 26) = false) (x27 : (c == 27) = false) (w : World) :
    Calls Tryz.prog 66 #[.agg (wayCs p y), .agg #[vI vK c, vI vK d, vI vK s, .bool r, vI vK o, vI vK n]] w fun e w' => ∃ v, e = .returned (.tuple #[v, vI vK 0]) ∧ WaysAt w' w.heap.size v [((p + 1), y1)] ∧ Below w.heap.size w w' := by
  have hK0 : Blk w [(w.heap.size, .cells (wayCs p y) 150 (0, 0)), (w.heap.size + 1, .cells #[vI vK c, vI vK d, vI vK s, .bool r, vI vK o, vI vK n] 49 (0, 0))] _ := ((Blk.nil (((bF _ _).alloc (Nat.le_refl _) _).alloc (by simp) _)).cons (heap_alloc2_new w (.cells (wayCs p y) 150) (.cells #[vI vK c, vI vK d, vI vK s, .bool r, vI vK o, vI vK n] 49))).cons ((WayAt.start w p y).alloc (.cells #[vI vK c, vI vK d, vI vK s, .bool r, vI vK o, vI vK n] 49))
  go_enter Tryz.func66, Tryz.ntmps66
  go_upto_region 1 with fail
  generalize ((w.alloc (.cells (wayCs p y) 150)).alloc (.cells #[vI vK c, vI vK d, vI vK s, .bool r, vI vK o, vI vK n] 49)) = w1 at hK0 ⊢
  have yW : WayAt _ w.heap.size _ _ := (hK0.2 _ mcS); have ylt := yW.lt; obtain ⟨p0, p1, p2, p3, p4, p5, ltS⟩ := row6 (hK0.2 _ (mcO _ mcS))
  go_upto_region 2 with (first | (go_at_call 89; refine (asks_any c _).mono ?_; rintro e w1 ⟨rfl, rfl⟩; rw [HQ.out]) | fail)
  go_step
  (refine wpList_valueOf rfl (.agg #[vI vK c, vI vK d, vI vK s, .bool r, vI vK o, vI vK n]) w1 (by go_simp; try rfl) ?_); simp only [Act.put, siA, scZ, scS]
  (refine wpList_callOf rfl 111 #[.pointer (some ⟨w.heap.size, 0, none⟩), .agg #[vI vK c, vI vK d, vI vK s, .bool r, vI vK o, vI vK n]] (by go_simp; try rfl) (vI vK E) (HM.out w1 w.heap.size yW) ?_)
  intro w5 hq
  obtain ⟨hk5, hW5⟩ := hq
  have hK5 := (Blk.more (F' := []) hK0 (by simp)).grown (b := w.heap.size) hk5 (fun k e => Nat.le_of_eq (Option.some.inj e)) (Nat.le_refl _) (by simp)
  clear yW ylt p0 p1 p2 p3 p4 p5 ltS
  clear hk5 hK0
  simp only [Act.put, siA, scZ, scS]
  go_upto_region 17 with fail
  go_step
  (refine wpList_load_row rfl 150 (.tmp 2) rfl w.heap.size rfl 150 (wayCs p y1) (0, 0) _ hW5 Tryz.underlying150 rfl (infoW_of _ _) ?_)
  simp only [Act.put, siA, scZ, scS]
  (refine wpList_callOf rfl 106 #[.agg (wayCs p y1), vI vK 0] (by go_simp; try rfl) (.agg (wayCs (p + 1) y1)) (on_zero p y1 hp0 hp1 w5) ?_)
  intro w6 hB6
  have hK6 := hK5.later hB6
  simp only [Act.put, siA, scZ, scS]
  refine wpList_ways1 rfl (.tmp 58) (p + 1) y1 rfl rfl ?_
  simp only [Act.put, siA, scZ, scS]
  have hbE := hK6.1
  have hm := WaysAt.made w6 w.heap.size [((p + 1), y1)] hbE.size (by unfold maxLen; simp)
  go_wp2_with fail
  exact bodyPost_ret (v := .tuple #[_, vI vK 0]) (by simp [results, Tryz.results66, go_sem]) rfl ⟨_, rfl, hm, hbE.alloc hbE.size _⟩
theorem vlook_all {d s : Nat} {c o n p : Int} {r : Bool} {y : Way} (hd : d < 11) (hs : s < 11) (hp0 : 0 ≤ p) (hp1 : p ≤ 1000) (ho : In64 o) (hj : 14 ≤ c → c ≤ 24 → 0 ≤ o ∧ o ≤ 1000) (hw : c = 27 → n = 1 ∨ n = 2 ∨ n = 3) (hy : y.Ok) (hn : In64 n) (w : World) :
    Calls Tryz.prog 66 #[.agg (wayCs p y), .agg #[vI vK c, vI vK d, vI vK s, .bool r, vI vK o, vI vK n]] w fun e w' => ∃ v, e = .returned (.tuple #[v, vI vK (y.look c d s r o n).2]) ∧ WaysAt w' w.heap.size v ((y.look c d s r o n).1.map fun x => (p + (1 + x.1), x.2)) ∧ Below w.heap.size w w' := by
  have mv : ∀ {E : Int} {e : Ending} {w' : World}, (e = .returned (.tuple #[.slice none 0 0, vI vK E]) ∧ Below w.heap.size w w') → ∃ v, e = .returned (.tuple #[v, vI vK E]) ∧ WaysAt w' w.heap.size v [] ∧ Below w.heap.size w w' := fun h => ⟨_, h.1, WaysAt.nil _ _, h.2⟩
  have tt : ∀ {a b : Int}, a = b → (a == b) = true := fun h => by simp [h]
  have tb : ∀ {a b : Int}, ¬ a = b → (a == b) = false := fun h => by simp [h]
  have nt : ∀ {a b : Int}, ¬ a = b → (a != b) = true := fun h => by simp [h]
  have nf : ∀ {a b : Int}, a = b → (a != b) = false := fun h => by simp [h]
  unfold Way.look
  by_cases h1 : 15 ≤ c ∧ c ≤ 24
  · rw [if_pos h1]
    have hoo := hj (by omega) h1.2
    exact vlook_ask d s c o n p r y _ _ (fun W : World => vask_all (r := r) hd hs h1 hp0 hp1 hoo.1 hoo.2 hy hn W) (by show (decide (15 ≤ c) && decide (c ≤ 24)) = true; simp; omega) w
  rw [if_neg h1]
  have HQ : Hid ((decide (15 ≤ c) && decide (c ≤ 24)) = false) := by show (decide (15 ≤ c) && decide (c ≤ 24)) = false; simp; omega
  by_cases h14 : c = 14
  · rw [if_pos h14]
    have hoo := hj (by omega) (by omega)
    simpa using vlook_jump d s c o n p r y hp0 hp1 hoo.1 hoo.2 HQ (tt h14) w
  rw [if_neg h14]
  by_cases h28 : c = 28
  · rw [if_pos h28]
    exact (vlook_exit d s c o n p r y HQ (tb h14) (tt h28) w).mono fun _ _ h => mv h
  rw [if_neg h28]
  by_cases h25 : c = 25
  · rw [if_pos h25]
    have HM := fun (W : World) (B : Nat) (hW : WayAt W B p y) => vload_all (c := c) (r := r) (n := n) hd hs hy ho hW
    generalize y.load d s o = z at *
    obtain ⟨E, y1⟩ := z
    dsimp only
    by_cases hE : E = 0
    · rw [if_pos hE]; simpa [hE] using vlook_load d s c o n p r y hp0 hp1 E y1 HM (nf hE) HQ (tb h14) (tb h28) (tt h25) w
    · rw [if_neg hE]; exact (vlook_load_no d s c o n p r y hp0 hp1 E y1 HM (nt hE) HQ (tb h14) (tb h28) (tt h25) w).mono fun _ _ h => mv h
  rw [if_neg h25]
  by_cases h26 : c = 26
  · rw [if_pos h26]
    have HM := fun (W : World) (B : Nat) (hW : WayAt W B p y) => vstore_all (c := c) (r := r) (n := n) hd hs hy ho hW
    generalize y.store (y.reg d) (y.second s r n) o = z at *
    obtain ⟨E, y1⟩ := z
    dsimp only
    by_cases hE : E = 0
    · rw [if_pos hE]; simpa [hE] using vlook_store d s c o n p r y hp0 hp1 E y1 HM (nf hE) HQ (tb h14) (tb h28) (tb h25) (tt h26) w
    · rw [if_neg hE]; exact (vlook_store_no d s c o n p r y hp0 hp1 E y1 HM (nt hE) HQ (tb h14) (tb h28) (tb h25) (tt h26) w).mono fun _ _ h => mv h
  rw [if_neg h26]
  by_cases h27 : c = 27
  · rw [if_pos h27]
    have HM := fun (W : World) (B : Nat) (hW : WayAt W B p y) => vcall_all (hw h27) hW
    generalize y.call n = z at *
    obtain ⟨E, y1⟩ := z
    dsimp only
    by_cases hE : E = 0
    · rw [if_pos hE]; simpa [hE] using vlook_call d s c o n p r y hp0 hp1 E y1 HM (nf hE) HQ (tb h14) (tb h28) (tb h25) (tb h26) (tt h27) w
    · rw [if_neg hE]; exact (vlook_call_no d s c o n p r y hp0 hp1 E y1 HM (nt hE) HQ (tb h14) (tb h28) (tb h25) (tb h26) (tt h27) w).mono fun _ _ h => mv h
  rw [if_neg h27]
  · have HM := fun (W : World) (B : Nat) (hW : WayAt W B p y) => vchange_all (c := c) (o := o) (r := r) hd hs hy hn hW
    generalize y.change c d s r n = z at *
    obtain ⟨E, y1⟩ := z
    dsimp only
    by_cases hE : E = 0
    · rw [if_pos hE]; simpa [hE] using vlook_change d s c o n p r y hp0 hp1 E y1 HM (nf hE) HQ (tb h14) (tb h28) (tb h25) (tb h26) (tb h27) w
    · rw [if_neg hE]; exact (vlook_change_no d s c o n p r y hp0 hp1 E y1 HM (nt hE) HQ (tb h14) (tb h28) (tb h25) (tb h26) (tb h27) w).mono fun _ _ h => mv h
end Go.Proofs.YtednmkhdehlojaaGreatDoor
namespace Go.Proofs.YtednmkhdehlojaaGreatDoor
open Go.ChangeShapes Go.WideShapes Go.ChangeAt Go.RowKit
def posL (st : List (Nat × Way)) : List (Int × Way) := st.map fun x => ((x.1 : Int), x.2)
def endCells (es : List Kno) : List Value := es.flatMap fun b => [vI vK b.l, vI vK b.h]
def EndsAt (w : World) (base : Nat) (v : Value) (es : List Kno) : Prop := w.ownsRow base 43 2 v es.length (endCells es)
theorem endCells_snoc (es : List Kno) (b : Kno) : endCells (es ++ [b]) = endCells es ++ [vI vK b.l, vI vK b.h] := by
  unfold endCells; rw [List.flatMap_append]; simp
theorem posL_rev (pc : Nat) (y : Way) (st : List (Nat × Way)) : posL (((pc, y) :: st).reverse) = posL st.reverse ++ [((pc : Int), y)] := by unfold posL; rw [List.reverse_cons, List.map_append]; rfl
theorem posL_len (st : List (Nat × Way)) : (posL st.reverse).length = st.length := by unfold posL; rw [List.length_map, List.length_reverse]
theorem goF_nil (C D S : Nat → Int) (R : Nat → Bool) (O N : Nat → Int) (f : Nat) (es : List Kno) : goF C D S R O N f [] es = .inr es := by cases f <;> rfl
theorem goF_step {C D S : Nat → Int} {R : Nat → Bool} {O N : Nat → Int} (f pc : Nat) (y : Way) (st : List (Nat × Way)) (es : List Kno) (d s : Nat) (hd : D pc = (d : Int)) (hs : S pc = (s : Int)) :
    goF C D S R O N (f + 1) ((pc, y) :: st) es = if (y.look (C pc) d s (R pc) (O pc) (N pc)).2 ≠ 0 then .inl ((y.look (C pc) d s (R pc) (O pc) (N pc)).2, pc)
      else goF C D S R O N f ((y.look (C pc) d s (R pc) (O pc) (N pc)).1.map (fun z => (pc + 1 + z.1.toNat, z.2)) ++ st) (if C pc = 28 then es ++ [y.reg 0] else es) := by
  rw [goF]
  simp only [hd, hs, Int.toNat_natCast]
theorem at_made (w : World) (a b : Value) (t : TypeId) : (w.alloc (.cells #[a, b] t)).drew.cell? ⟨w.heap.size, 0, none⟩ = some a ∧ (w.alloc (.cells #[a, b] t)).drew.cell? ⟨w.heap.size, 1, none⟩ = some b ∧ w.heap.size < (w.alloc (.cells #[a, b] t)).drew.heap.size := by
  have h : (w.alloc (.cells #[a, b] t)).drew.heap[w.heap.size]? = some (.cells #[a, b] t (0, 0)) := heap_alloc_new w _
  obtain ⟨h0, h1, -, -, h2⟩ := row2 h
  exact ⟨h0, h1, h2⟩
section
variable {w w' : World} {base : Nat} {v : Value} {l : List (Int × Way)} {es : List Kno}
theorem WaysAt.shape (h : WaysAt w base v l) : ∃ a cap, v = .slice a l.length cap := by
  rcases h.2 with ⟨h1, h2⟩ | ⟨g, cap, cur, h1, _⟩
  · exact ⟨none, 0, by rw [h2]; exact h1⟩
  · exact ⟨_, _, h1⟩
theorem WaysAt.more {x : Int × Way} (h : WaysAt w base v (l ++ [x])) : ∃ g cap, v = .slice (some ⟨g, 0, none⟩) (l.length + 1) cap ∧ l.length + 1 ≤ cap ∧ cap ≤ maxLen ∧ base ≤ g ∧ g < w.heap.size := by
  rcases h.2 with ⟨_, h2⟩ | ⟨g, cap, cur, h1, h2, h3, h4, h5, _⟩
  · rw [List.length_append] at h2; exact absurd h2 (by simp)
  · rw [List.length_append] at h1 h4
    exact ⟨g, cap, h1, h4, h5, h2, (Array.getElem?_eq_some_iff.1 h3).1⟩
theorem WaysAt.pop {g cap : Nat} {x : Int × Way} (h : WaysAt w base (.slice (some ⟨g, 0, none⟩) (l.length + 1) cap) (l ++ [x])) : WaysAt w base (.slice (some ⟨g, 0, none⟩) l.length cap) l := by
  rcases h.2 with ⟨h1, _⟩ | ⟨g', cap', cur, h1, h2, h3, h4, h5, h6, h7⟩
  · exact absurd h1 (by simp)
  · rw [List.length_append] at h1 h4 h7
    cases h1
    refine ⟨by rw [waysCells_len], Or.inr ⟨g, cap, cur, rfl, h2, h3, by omega, h5, h6, ?_⟩⟩
    have h8 : (cur.toList.take ((l.length + [x].length) * 82)).take (l.length * 82) = (waysCells (l ++ [x])).take (l.length * 82) := by rw [h7]
    rw [List.take_take, Nat.min_eq_left (Nat.mul_le_mul_right _ (by omega)), waysCells_snoc, ← waysCells_len l] at h8
    rw [← waysCells_len l, h8, List.take_left]
theorem waysCells_append (l1 l2 : List (Int × Way)) : waysCells (l1 ++ l2) = waysCells l1 ++ waysCells l2 := by unfold waysCells; rw [List.flatMap_append]
theorem WaysAt.elem {g n cap : Nat} {x : Int × Way} {l2 : List (Int × Way)} (h : WaysAt w base (.slice (some ⟨g, 0, none⟩) n cap) (l ++ x :: l2)) : w.rangeAt g (l.length * 82) (wayCs x.1 x.2).toList := by
  intro j u hj
  have hk := World.ownsRow.cells h (g := g) rfl (l.length * 82 + j) u (by
    rw [waysCells_append, List.getElem?_append_right (by rw [waysCells_len]; omega), waysCells_len, show l.length * 82 + j - l.length * 82 = j by omega]
    unfold waysCells
    rw [List.flatMap_cons, List.getElem?_append_left (List.getElem?_eq_some_iff.1 hj).1]
    exact hj)
  rw [Addr.add_mid, Nat.zero_add] at hk
  exact hk
theorem WaysAt.some_of {a : Option Addr} {n cap : Nat} (h : WaysAt w base (.slice a n cap) l) (hl : 0 < l.length) : ∃ g, a = some ⟨g, 0, none⟩ ∧ n = l.length ∧ base ≤ g ∧ g < w.heap.size := by
  rcases h.2 with ⟨_, h2⟩ | ⟨g, cap', cur, h1, h2, h3, _⟩
  · omega
  · cases h1
    exact ⟨g, rfl, rfl, h2, (Array.getElem?_eq_some_iff.1 h3).1⟩
theorem EndsAt.nil (w : World) (base : Nat) : EndsAt w base (.slice none 0 0) [] := World.ownsRow_nil _ _ _ _
theorem EndsAt.later (h : EndsAt w base v es) (hb : Below w.heap.size w w') : EndsAt w' base v es :=
  World.ownsRow.kept (w' := w') (row := none) h ⟨hb.os, hb.tape, hb.output, hb.size, fun k hk _ => hb.block k hk⟩ (by cases v.ownBlock <;> simp)
theorem EndsAt.grown {row : Option Nat} (h : EndsAt w base v es) (hg : w.grownBy w' row) (hne : ∀ k, row = some k → v.ownBlock ≠ some k) : EndsAt w' base v es :=
  World.ownsRow.kept (w' := w') (row := row) h hg (by
    cases row with
    | none => cases v.ownBlock <;> simp
    | some k => exact Or.inr (hne k rfl))
theorem WaysAt.grown {row : Option Nat} (h : WaysAt w base v l) (hg : w.grownBy w' row) (hne : ∀ k, row = some k → v.ownBlock ≠ some k) : WaysAt w' base v l :=
  World.ownsRow.kept (w' := w') (row := row) h hg (by
    cases row with
    | none => cases v.ownBlock <;> simp
    | some k => exact Or.inr (hne k rfl))
theorem EndsAt.above (h : EndsAt w base v es) : ∀ k, v.ownBlock = some k → base ≤ k ∧ k < w.heap.size := World.ownsRow.lt h
end
theorem wpList_snoc2 {ops : Array Oper} {rest : List Oper} {o : Oper} {a : Act} {w : World} {Q : Exit → Act → World → Prop} (hg : o.guard = none) (s x : Operand) (ho : o.op = .call { callee := .builtin .append, args := #[s, x], argTypes := #[152, 152] })
    (base : Nat) (v : Value) (l : List (Int × Way)) (hs : a.eval s = v) (hw : WaysAt w base v l) (p : Int) (y : Way) (hx : a.eval x = .slice (some ⟨w.heap.size, 0, none⟩) 1 1) (hl : l.length ≤ 1000000) (hb : base ≤ w.heap.size)
    (h : ∀ v' w', WaysAt w' base v' (l ++ [(p, y)]) → w.grownBy w' v.ownBlock → (∀ k, v'.ownBlock = some k → v.ownBlock = some k ∨ w.heap.size ≤ k) → wpList Tryz.prog ops Q rest (a.put o.dst v') w') : wpList Tryz.prog ops Q (o :: rest) a (w.alloc (.cells (waysCells [(p, y)]).toArray 150)) := by
  obtain ⟨i0, hi, hz0, hz1, hz2⟩ := info_parts Tryz.infoWz
  have e1 : waysCells [(p, y)] = (wayCs p y).toList := by unfold waysCells; simp
  refine wpList_append_own_at _ hg s x 152 ho base 150 i0 _ 82 656 Tryz.underlying152 hi hz0 hz1 hz2 zeroW_size (by decide) v l.length (waysCells l) hs (hw.alloc _) ⟨w.heap.size, 0, none⟩ 1 1 (waysCells [(p, y)]) hx (by rw [waysCells_len]; rfl) ?_ ?_ (by unfold maxLen; omega) (by omega) (by simp; omega) ?_
  · intro j u hu
    rw [e1] at hu ⊢
    rw [Addr.add_mid, Nat.zero_add, cell_of_row _ w.heap.size j _ 150 (0, 0) (heap_alloc_new w _)]
    simpa using hu
  · intro u hu
    rw [e1] at hu
    exact (Array.all_eq_true_iff_forall_mem.1 (wayCs_one p y)) u (Array.mem_toList_iff.1 hu)
  · intro v' w' h1 h2 _ h4
    refine h v' w' ?_ ⟨h2.os, h2.tape, h2.output, Nat.le_trans (by simp) h2.size, fun k hk hne => (h2.block k (by simp; omega) hne).trans (heap_alloc_old w _ hk)⟩ (fun k e => ?_)
    · show w'.ownsRow base 150 82 v' (l ++ [(p, y)]).length (waysCells (l ++ [(p, y)]))
      rw [waysCells_snoc, List.length_append, ← e1]
      exact h1
    · rcases h4 with h4 | h4
      · exact Or.inl (h4.symm.trans e)
      · rw [e] at h4
        have := Option.some.inj h4
        right; rw [this]; simp
theorem Tryz.infoBz : (Tryz.prog.info? 43).map (fun i => (i.zero, i.size, i.bytes)) = some (some (.agg #[vI vK 0, vI vK 0]), 2, 16) := by kernel_rfl
theorem wpList_end {ops : Array Oper} {rest : List Oper} {o : Oper} {a : Act} {w : World} {Q : Exit → Act → World → Prop} (hg : o.guard = none) (s x : Operand) (ho : o.op = .call { callee := .builtin .append, args := #[s, x], argTypes := #[91, 91] })
    (base : Nat) (v : Value) (es : List Kno) (hs : a.eval s = v) (hw : EndsAt w base v es) (b : Kno) (hx : a.eval x = .slice (some ⟨w.heap.size, 0, none⟩) 1 1) (hl : es.length ≤ 1000000) (hb : base ≤ w.heap.size)
    (h : ∀ v' w', EndsAt w' base v' (es ++ [b]) → w.grownBy w' v.ownBlock → (∀ k, v'.ownBlock = some k → v.ownBlock = some k ∨ w.heap.size ≤ k) → wpList Tryz.prog ops Q rest (a.put o.dst v') w') : wpList Tryz.prog ops Q (o :: rest) a (w.alloc (.cells #[vI vK b.l, vI vK b.h] 43)) := by
  obtain ⟨i0, hi, hz0, hz1, hz2⟩ := info_parts Tryz.infoBz
  refine wpList_append_own_at _ hg s x 91 ho base 43 i0 _ 2 16 Tryz.underlying91 hi hz0 hz1 hz2 rfl (by decide) v es.length (endCells es) hs (hw.alloc _) ⟨w.heap.size, 0, none⟩ 1 1 [vI vK b.l, vI vK b.h] hx rfl ?_ ?_ (by unfold maxLen; omega) (by omega) (by simp; omega) ?_
  · intro j u hu
    rw [Addr.add_mid, Nat.zero_add, cell_of_row _ w.heap.size j _ 43 (0, 0) (heap_alloc_new w _)]
    simpa using hu
  · intro u hu
    simp at hu
    rcases hu with rfl | rfl <;> rfl
  · intro v' w' h1 h2 _ h4
    refine h v' w' ?_ ⟨h2.os, h2.tape, h2.output, Nat.le_trans (by simp) h2.size, fun k hk hne => (h2.block k (by simp; omega) hne).trans (heap_alloc_old w _ hk)⟩ (fun k e => ?_)
    · show w'.ownsRow base 43 2 v' (es ++ [b]).length (endCells (es ++ [b]))
      rw [endCells_snoc, List.length_append]
      exact h1
    · rcases h4 with h4 | h4
      · exact Or.inl (h4.symm.trans e)
      · rw [e] at h4
        have := Option.some.inj h4
        right; rw [this]; simp
theorem wpList_way {ops : Array Oper} {rest : List Oper} {op : Oper} {a : Act} {w : World} {Q : Exit → Act → World → Prop} (hgd : op.guard = none) (x : Operand) (ho : op.op = .load 150 x)
    (b o : Nat) (hx : a.eval x = .pointer (some ⟨b, o, none⟩)) (p : Int) (y : Way) (hc : w.rangeAt b o (wayCs p y).toList)
    (h : wpList Tryz.prog ops Q rest (a.put op.dst (.agg (wayCs p y))) w) : wpList Tryz.prog ops Q (op :: rest) a w :=
  wpList_load_mid hgd 150 x ho b o hx (wayCs p y).toList _ hc Tryz.underlying150 rfl (by rw [Array.length_toList]; exact infoW_of p y) (by simpa using h)
theorem look_two (y : Way) (c : Int) (d s : Nat) (r : Bool) (o n : Int) : (y.look c d s r o n).1.length ≤ 2 := by
  unfold Way.look Way.ask Way.askNumbers Way.askPlace
  repeat' split
  all_goals simp
theorem led_pos (pc : Nat) (ls : List (Int × Way)) (h : ∀ z, z ∈ ls → 0 ≤ z.1) : (ls.map fun x => ((pc : Int) + (1 + x.1), x.2)) = posL (ls.map fun z => (pc + 1 + z.1.toNat, z.2)) := by
  unfold posL
  rw [List.map_map]
  refine List.map_congr_left fun z hz => ?_
  have := h z hz
  simp only [Function.comp_apply, Prod.mk.injEq, and_true]
  omega
structure LaySt (w : World) (st0 l2 : List (Int × Way)) (V10 E : Value) (es : List Kno) (j : Nat) (V : Value) (wr : World) : Prop where
  jl : j ≤ l2.length
  below : Below w.heap.size w wr
  ways : WaysAt wr w.heap.size V (st0 ++ (l2.drop j).reverse)
  led : WaysAt wr w.heap.size V10 l2
  ends : EndsAt wr w.heap.size E es
  sepE : ∀ k, V.ownBlock = some k → E.ownBlock ≠ some k
  sepL : ∀ k, V.ownBlock = some k → V10.ownBlock ≠ some k
  few : st0.length + l2.length ≤ 100000
theorem LaySt.part {w : World} {st0 l2 : List (Int × Way)} {V10 E : Value} {es : List Kno} {j : Nat} {V : Value} {wr : World} (h : LaySt w st0 l2 V10 E es (j + 1) V wr) :
    ∃ x, l2.drop j = x :: l2.drop (j + 1) ∧ l2 = l2.take j ++ x :: l2.drop (j + 1) ∧ (l2.take j).length = j := by
  have hj : j < l2.length := h.jl
  refine ⟨l2[j], List.drop_eq_getElem_cons hj, ?_, by rw [List.length_take]; omega⟩
  rw [← List.drop_eq_getElem_cons hj, List.take_append_drop]
theorem LaySt.small {w : World} {st0 l2 : List (Int × Way)} {V10 E : Value} {es : List Kno} {j : Nat} {V : Value} {wr : World} (h : LaySt w st0 l2 V10 E es j V wr) : (st0 ++ (l2.drop j).reverse).length ≤ 1000000 := by
  have := h.few
  rw [List.length_append, List.length_reverse, List.length_drop]
  omega
theorem LaySt.lay {w : World} {st0 l2 : List (Int × Way)} {V10 E : Value} {es : List Kno} {j : Nat} {V V' : Value} {wr wr3 : World} {x : Int × Way} (h : LaySt w st0 l2 V10 E es (j + 1) V wr) (hx : l2.drop j = x :: l2.drop (j + 1))
    (hA : WaysAt wr3 w.heap.size V' ((st0 ++ (l2.drop (j + 1)).reverse) ++ [x])) (hg : wr.grownBy wr3 V.ownBlock) (hs : ∀ k, V'.ownBlock = some k → V.ownBlock = some k ∨ wr.heap.size ≤ k) : LaySt w st0 l2 V10 E es j V' wr3 where
  jl := Nat.le_of_succ_le h.jl
  below := ((Blk.nil h.below).grown hg (b := w.heap.size) (fun k e => (h.ways.above k e).1) (Nat.le_refl _) (by simp)).1
  ways := by rw [hx, List.reverse_cons, ← List.append_assoc]; exact hA
  led := h.led.grown hg h.sepL
  ends := h.ends.grown hg h.sepE
  sepE := fun k e => by
    rcases hs k e with e | e
    · exact h.sepE k e
    · intro e2; have := (h.ends.above k e2).2; omega
  sepL := fun k e => by
    rcases hs k e with e | e
    · exact h.sepL k e
    · intro e2; have := (h.led.above k e2).2; omega
  few := h.few
theorem posL_app (a b : List (Nat × Way)) : posL ((a ++ b).reverse) = posL b.reverse ++ (posL a).reverse := by
  unfold posL
  rw [List.reverse_append, List.map_append, List.map_reverse (l := a)]
structure GoSt (w : World) (len : Nat) (C D S : Nat → Int) (R : Nat → Bool) (O N : Nat → Int) (X : (Int × Nat) ⊕ List Kno) (k : Nat) (st : List (Nat × Way)) (es : List Kno) (V E : Value) (wr : World) : Prop where
  k4 : k ≤ 4000
  below : Below w.heap.size w wr
  ways : WaysAt wr w.heap.size V (posL st.reverse)
  ends : EndsAt wr w.heap.size E es
  sep : ∀ k, V.ownBlock = some k → E.ownBlock ≠ some k
  okst : ∀ x, x ∈ st → x.1 < len ∧ x.2.Ok
  stl : st.length ≤ k + 1
  esl : es.length ≤ k
  go : goF C D S R O N (4000 - k) st es = X
def GoneAll (w : World) (X : (Int × Nat) ⊕ List Kno) (e : Ending) (w' : World) : Prop := Below w.heap.size w w' ∧
  match X with
  | .inl (er, i) => ∃ p, e = .returned (.tuple #[.slice none 0 0, .iface 74 (.pointer (some ⟨p, 0, none⟩))]) ∧ w.heap.size ≤ p ∧ p < w'.heap.size ∧ w'.cell? ⟨p, 0, none⟩ = some (vI vK er) ∧ w'.cell? ⟨p, 1, none⟩ = some (vI vK (i : Int))
  | .inr es => ∃ E, e = .returned (.tuple #[E, .nilIface]) ∧ EndsAt w' w.heap.size E es ∧ es.length ≤ 4000
end Go.Proofs.YtednmkhdehlojaaGreatDoor
