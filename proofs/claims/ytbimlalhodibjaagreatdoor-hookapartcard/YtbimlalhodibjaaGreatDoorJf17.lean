/-
 What package verify's load does. Conditions: the ends are of 64 bits, in order. What bound.Narrow returns at code 17, as a function on integers; the world below is as it was. Conditions: the ends are numbers of 64 bits, the low end not above the high one. What bound.Narrow returns at code 18, as a function on integers; the world below is as it was. Conditions: the ends are numbers of 64 bits, the low end not above the high one.
-/
import Derived.Test.YtbimlalhodibjaaGreatDoorJf16
import Derived.Laws.IdiomCopy
import Derived.Test.YtbimlalhodibjaaGreatDoorJf14
import Derived.Deep.DeepCutAuto
set_option maxHeartbeats 40000000
open Go.Value renaming int → A
open Go.IntKind renaming i64 → D
open Go.RowKit.Below renaming alloc → bA, setCell → bS, drew → bD, refl → bF
set_option maxRecDepth 1000000
set_option linter.defProp false
set_option linter.unusedVariables false
set_option linter.unusedSimpArgs false
open Go.Ending renaming returned → rT
open Go.Value renaming pointer → pT
open Go.Obj renaming cells → cT
open Go.Proofs.Tryz renaming prog → tP
open List renaming take_succ_cons → lQ, take_zero → lX, drop_succ_cons → lY, drop_zero → lZ, length_nil → lJ, length_cons → lV
namespace Go.Proofs.YtbimlalhodibjaaGreatDoor
open Go.ChangeShapes Go.WideShapes Go.ChangeAt Go.RowKit
section
theorem Blk.add {w0 w : World} {F : List (Nat × Obj)} (h : Blk w0 F w) (z : Obj) : Blk w0 ((w.heap.size, z) :: F) (w.alloc z) :=
 (h.later ((bF _ _).alloc (Nat.le_refl _) z)).cons (heap_alloc_new w z)
attribute [local simp] z00 z0d z07
theorem zSt (B d s : Nat) (c o n p : Int) (r : Bool) (y : Way) (hd : d < 11) (hs : s < 11) (wl wh E : Int) (HR : Hid (∀ W : World, Calls tP 139 #[.agg #[A D (y.reg s).k, A D (y.reg s).l, A D (y.reg s).h], A D o] W fun e w' => e = rT (.tuple #[.agg #[A D wl, A D wh], A D E]) /\ Below W.heap.size W w')) (hE : (E == 0) = false) (w : World) (hW : z04 w B p y) :
  Calls tP 104 #[pT (some ⟨B, 0, none⟩), .agg #[A D c, A D d, A D s, .bool r, A D o, A D n]] w fun e w' => e = rT (A D E) /\ Below w.heap.size w w' := by
 have hK0 : Blk w [(w.heap.size, cT #[A D c, A D d, A D s, .bool r, A D o, A D n] 80 (0, 0)), (B, cT (z05 p y) 205 (0, 0))] _ := ((Blk.nil ((bF _ _).alloc (Nat.le_refl _) _)).cons (hW.alloc _)).cons (heap_alloc_new w (cT #[A D c, A D d, A D s, .bool r, A D o, A D n] 80))
 have hB := hW.lt
 have hs0 : (0 : Int) <= (s : Int) := by omega
 have hs1 : (s : Int) < 11 := by omega
 have hd0 : (0 : Int) <= (d : Int) := by omega
 have hd1 : (d : Int) < 11 := by omega
 go_enter Tryz.func104, Tryz.ntmps104
 go_wp2_with fail
 refine z0l (C := Blk w [(w.heap.size, cT #[A D c, A D d, A D s, .bool r, A D o, A D n] 80 (0, 0)), (B, cT (z05 p y) 205 (0, 0))]) (n0 := w.heap.size + 1) 7 [] [cT #[A D 0, A D 0, A D 0] 201 (0, 0)] (by kernel_rfl) (by kernel_rfl) (fun d _ _ _ _ h => by cases d <;> exact h) (Blk.stable _ _) (Blk.room w mcS) hK0.drew ⟨⟨rfl, fun a w2 hC => by go_simp; try rfl⟩, trivial⟩ ?_
 simp only [lQ, lX, lY, lZ, lV, lJ, Nat.reduceAdd]
 repeat (first
  | (refine z0i (by rfl) ?_; simp only [Act.put, siA, scZ, scS])
  | (refine z0a (by rfl) (v := ?_) ?_ ?_; rotate_left; (intro w2 hC; obtain ⟨p0, p1, p2, p3, p4, p5, ltS⟩ := row6 (hC.2 _ mcS); have yW : z04 _ B _ _ := (hC.2 _ (mcO _ mcS)); have ylt := yW.lt; obtain ⟨i0, i1, i2⟩ := yW.reg hs; go_simp; try with_reducible rfl); simp only [Act.put, siA, scZ, scS]))
 refine z0r ?_
 intro L h5 g5 w3 hC hB3
 have bL := hB3 L _ (FB.at_new _ _ _)
 obtain ⟨l0, l1, l2, lf0, lf1, lf2, llt⟩ := row3 bL
 obtain ⟨p0, p1, p2, p3, p4, p5, ltS⟩ := row6 (hC.2 _ mcS); have yW : z04 _ B _ _ := (hC.2 _ (mcO _ mcS)); have ylt := yW.lt; obtain ⟨i0, i1, i2⟩ := yW.reg hs
 have hbw := hC.1
 have n1 : w.heap.size ≠ L := by omega
 have n2 : B ≠ L := by omega
 simp only [z5f]
 go_wp2_with (first
  | (go_at_call 139; go_must (have hK1 : Blk w [(L, cT #[A D (y.reg s).k, A D (y.reg s).l, A D (y.reg s).h] 201 (0, 0)), (B, cT (z05 p y) 205 (0, 0)), (w.heap.size, cT #[A D c, A D d, A D s, .bool r, A D o, A D n] 80 (0, 0))] _ := (((Blk.nil (by repeat' first | with_reducible (first | exact hbw | exact bF _ _ | refine bA ?_ ?_ _ | refine bS ?_ ?_ _ | refine bD ?_ | refine z06 ?_ ?_ _) | ((try dsimp only); omega) | (simp; done) | (simp; omega))).cons (off3 (hC.2 _ mcS) n1)).cons (off3 (hC.2 _ (mcO _ mcS)) n2)).cons (put3 bL); refine (HR.out _).mono ?_; rintro e w4 ⟨rfl, hb4⟩; have hK4 := hK1.later hb4; clear l0 l1 l2 lf0 lf1 lf2 llt p0 p1 p2 p3 p4 p5 ltS yW ylt i0 i1 i2; obtain ⟨l0, l1, l2, lf0, lf1, lf2, llt⟩ := row3 (hK4.2 _ mcS); have yW : z04 _ B _ _ := (hK4.2 _ (mcO _ mcS)); have ylt := yW.lt; obtain ⟨p0, p1, p2, p3, p4, p5, ltS⟩ := row6 (hK4.2 _ (mcO _ (mcO _ mcS)))))
  | (go_at_call 141; go_must (refine (z2v _).mono ?_; rintro e w5 ⟨rfl, hb5⟩; have hK5 := (hK4.add (cT #[A D wl, A D wh] 122)).later hb5; clear l0 l1 l2 lf0 lf1 lf2 llt p0 p1 p2 p3 p4 p5 ltS yW ylt; obtain ⟨u0, u1, uf0, uf1, ult⟩ := row2 (hK5.2 _ mcS); obtain ⟨l0, l1, l2, lf0, lf1, lf2, llt⟩ := row3 (hK5.2 _ (mcO _ mcS)); have yW : z04 _ B _ _ := (hK5.2 _ (mcO _ (mcO _ mcS))); have ylt := yW.lt; obtain ⟨p0, p1, p2, p3, p4, p5, ltS⟩ := row6 (hK5.2 _ (mcO _ (mcO _ (mcO _ mcS))))))
  | (go_at_call 140; go_must (refine (z1g _ _ _).mono ?_; rintro e w6 ⟨rfl, hb6⟩; simp only [Kno.v, z1d]; have hK6 := hK5.later hb6; clear l0 l1 l2 lf0 lf1 lf2 llt p0 p1 p2 p3 p4 p5 ltS yW ylt u0 u1 uf0 uf1 ult; obtain ⟨u0, u1, uf0, uf1, ult⟩ := row2 (hK6.2 _ mcS); obtain ⟨l0, l1, l2, lf0, lf1, lf2, llt⟩ := row3 (hK6.2 _ (mcO _ mcS)); have yW : z04 _ B _ _ := (hK6.2 _ (mcO _ (mcO _ mcS))); have ylt := yW.lt; obtain ⟨p0, p1, p2, p3, p4, p5, ltS⟩ := row6 (hK6.2 _ (mcO _ (mcO _ (mcO _ mcS)))); have hbw6 := hK6.1; have hs6 := hbw6.size; have hq6 := ylt; have hq7 := ltS))
  | fail)
 go_ret
 exact ⟨rfl, (by repeat' first | with_reducible (first | exact hbw6 | exact bF _ _ | refine bA ?_ ?_ _ | refine bS ?_ ?_ _ | refine bD ?_ | refine z06 ?_ ?_ _) | ((try dsimp only); omega) | (simp; done) | (simp; omega))⟩
theorem zOj (B d s : Nat) (c o n p : Int) (r : Bool) (y : Way) (hd : d < 11) (hs : s < 11) (wl wh E : Int) (HR : Hid (∀ W : World, Calls tP 139 #[.agg #[A D (y.reg s).k, A D (y.reg s).l, A D (y.reg s).h], A D o] W fun e w' => e = rT (.tuple #[.agg #[A D wl, A D wh], A D E]) /\ Below W.heap.size W w')) (hE : (E == 0) = true) (hk : ((y.reg s).k == 3) = false) (w : World) (hW : z04 w B p y) :
  Calls tP 104 #[pT (some ⟨B, 0, none⟩), .agg #[A D c, A D d, A D s, .bool r, A D o, A D n]] w fun e w' => e = rT (A D E) /\ Kept B w w' /\ z04 w' B p (y.putReg d ⟨1, (-9223372036854775808), 9223372036854775807⟩) := by
 have hK0 : Blk w [(w.heap.size, cT #[A D c, A D d, A D s, .bool r, A D o, A D n] 80 (0, 0)), (B, cT (z05 p y) 205 (0, 0))] _ := ((Blk.nil ((bF _ _).alloc (Nat.le_refl _) _)).cons (hW.alloc _)).cons (heap_alloc_new w (cT #[A D c, A D d, A D s, .bool r, A D o, A D n] 80))
 have hB := hW.lt
 have hs0 : (0 : Int) <= (s : Int) := by omega
 have hs1 : (s : Int) < 11 := by omega
 have hd0 : (0 : Int) <= (d : Int) := by omega
 have hd1 : (d : Int) < 11 := by omega
 go_enter Tryz.func104, Tryz.ntmps104
 go_wp2_with fail
 refine z0l (C := Blk w [(w.heap.size, cT #[A D c, A D d, A D s, .bool r, A D o, A D n] 80 (0, 0)), (B, cT (z05 p y) 205 (0, 0))]) (n0 := w.heap.size + 1) 7 [] [cT #[A D 0, A D 0, A D 0] 201 (0, 0)] (by kernel_rfl) (by kernel_rfl) (fun d _ _ _ _ h => by cases d <;> exact h) (Blk.stable _ _) (Blk.room w mcS) hK0.drew ⟨⟨rfl, fun a w2 hC => by go_simp; try rfl⟩, trivial⟩ ?_
 simp only [lQ, lX, lY, lZ, lV, lJ, Nat.reduceAdd]
 repeat (first
  | (refine z0i (by rfl) ?_; simp only [Act.put, siA, scZ, scS])
  | (refine z0a (by rfl) (v := ?_) ?_ ?_; rotate_left; (intro w2 hC; obtain ⟨p0, p1, p2, p3, p4, p5, ltS⟩ := row6 (hC.2 _ mcS); have yW : z04 _ B _ _ := (hC.2 _ (mcO _ mcS)); have ylt := yW.lt; obtain ⟨i0, i1, i2⟩ := yW.reg hs; go_simp; try with_reducible rfl); simp only [Act.put, siA, scZ, scS]))
 refine z0r ?_
 intro L h5 g5 w3 hC hB3
 have bL := hB3 L _ (FB.at_new _ _ _)
 obtain ⟨l0, l1, l2, lf0, lf1, lf2, llt⟩ := row3 bL
 obtain ⟨p0, p1, p2, p3, p4, p5, ltS⟩ := row6 (hC.2 _ mcS); have yW : z04 _ B _ _ := (hC.2 _ (mcO _ mcS)); have ylt := yW.lt; obtain ⟨i0, i1, i2⟩ := yW.reg hs
 have hbw := hC.1
 have n1 : w.heap.size ≠ L := by omega
 have n2 : B ≠ L := by omega
 simp only [z5f]
 go_wp2_with (first
  | (go_at_call 139; go_must (have hK1 : Blk w [(L, cT #[A D (y.reg s).k, A D (y.reg s).l, A D (y.reg s).h] 201 (0, 0)), (B, cT (z05 p y) 205 (0, 0)), (w.heap.size, cT #[A D c, A D d, A D s, .bool r, A D o, A D n] 80 (0, 0))] _ := (((Blk.nil (by repeat' first | with_reducible (first | exact hbw | exact bF _ _ | refine bA ?_ ?_ _ | refine bS ?_ ?_ _ | refine bD ?_ | refine z06 ?_ ?_ _) | ((try dsimp only); omega) | (simp; done) | (simp; omega))).cons (off3 (hC.2 _ mcS) n1)).cons (off3 (hC.2 _ (mcO _ mcS)) n2)).cons (put3 bL); refine (HR.out _).mono ?_; rintro e w4 ⟨rfl, hb4⟩; have hK4 := hK1.later hb4; clear l0 l1 l2 lf0 lf1 lf2 llt p0 p1 p2 p3 p4 p5 ltS yW ylt i0 i1 i2; obtain ⟨l0, l1, l2, lf0, lf1, lf2, llt⟩ := row3 (hK4.2 _ mcS); have yW : z04 _ B _ _ := (hK4.2 _ (mcO _ mcS)); have ylt := yW.lt; obtain ⟨p0, p1, p2, p3, p4, p5, ltS⟩ := row6 (hK4.2 _ (mcO _ (mcO _ mcS)))))
  | (go_at_call 141; go_must (refine (z2v _).mono ?_; rintro e w5 ⟨rfl, hb5⟩; have hK5 := (hK4.add (cT #[A D wl, A D wh] 122)).later hb5; clear l0 l1 l2 lf0 lf1 lf2 llt p0 p1 p2 p3 p4 p5 ltS yW ylt; obtain ⟨u0, u1, uf0, uf1, ult⟩ := row2 (hK5.2 _ mcS); obtain ⟨l0, l1, l2, lf0, lf1, lf2, llt⟩ := row3 (hK5.2 _ (mcO _ mcS)); have yW : z04 _ B _ _ := (hK5.2 _ (mcO _ (mcO _ mcS))); have ylt := yW.lt; obtain ⟨p0, p1, p2, p3, p4, p5, ltS⟩ := row6 (hK5.2 _ (mcO _ (mcO _ (mcO _ mcS))))))
  | (go_at_call 140; go_must (refine (z1g _ _ _).mono ?_; rintro e w6 ⟨rfl, hb6⟩; simp only [Kno.v, z1d]; have hK6 := hK5.later hb6; clear l0 l1 l2 lf0 lf1 lf2 llt p0 p1 p2 p3 p4 p5 ltS yW ylt u0 u1 uf0 uf1 ult; obtain ⟨u0, u1, uf0, uf1, ult⟩ := row2 (hK6.2 _ mcS); obtain ⟨l0, l1, l2, lf0, lf1, lf2, llt⟩ := row3 (hK6.2 _ (mcO _ mcS)); have yW : z04 _ B _ _ := (hK6.2 _ (mcO _ (mcO _ mcS))); have ylt := yW.lt; obtain ⟨p0, p1, p2, p3, p4, p5, ltS⟩ := row6 (hK6.2 _ (mcO _ (mcO _ (mcO _ mcS)))); have hbw6 := hK6.1; have hs6 := hbw6.size; have hq6 := ylt; have hq7 := ltS))
  | fail)
 have hK8 : Blk w [(w6.heap.size, cT #[A D 1, A D (-9223372036854775808), A D 9223372036854775807] 201 (0, 0)), (B, cT (z05 p y) 205 (0, 0)), (w.heap.size, cT #[A D c, A D d, A D s, .bool r, A D o, A D n] 80 (0, 0))] _ := ((((hK6.add (cT #[A D 1, A D (-9223372036854775808), A D 9223372036854775807] 201))))).more (fun x hx => by simp only [List.mem_cons, List.not_mem_nil, or_false] at hx ⊢; rcases hx with rfl | rfl | rfl <;> simp)
 clear hC
 refine z0l (C := Blk w [(w6.heap.size, cT #[A D 1, A D (-9223372036854775808), A D 9223372036854775807] 201 (0, 0)), (B, cT (z05 p y) 205 (0, 0)), (w.heap.size, cT #[A D c, A D d, A D s, .bool r, A D o, A D n] 80 (0, 0))]) (n0 := w.heap.size) 7 [] [] (by kernel_rfl) (by kernel_rfl) (fun d _ _ _ _ h => by cases d <;> exact h) (Blk.stable _ _) (Blk.room0 _ _) hK8.drew trivial ?_
 simp only [lQ, lX, lY, lZ, lJ, Nat.reduceAdd]
 repeat (first
  | (refine z0i (by rfl) ?_; simp only [Act.put, siA, scZ, scS])
  | (refine z0a (by rfl) (v := ?_) ?_ ?_; rotate_left; (intro w2 hC; obtain ⟨g0, g1, g2, gf0, gf1, gf2, glt⟩ := row3 (hC.2 _ mcS); have yW : z04 _ B _ _ := (hC.2 _ (mcO _ mcS)); have ylt := yW.lt; obtain ⟨i0, i1, i2⟩ := yW.reg hd; obtain ⟨p0, p1, p2, p3, p4, p5, ltS⟩ := row6 (hC.2 _ (mcO _ (mcO _ mcS))); go_simp; try with_reducible rfl); simp only [Act.put, siA, scZ, scS]))
 refine z0r ?_
 intro w9 hC hB9
 obtain ⟨g0, g1, g2, gf0, gf1, gf2, glt⟩ := row3 (hC.2 _ mcS); have yW : z04 _ B _ _ := (hC.2 _ (mcO _ mcS)); have ylt := yW.lt; obtain ⟨i0, i1, i2⟩ := yW.reg hd; obtain ⟨p0, p1, p2, p3, p4, p5, ltS⟩ := row6 (hC.2 _ (mcO _ (mcO _ mcS)))
 have if0 := yW.frozen (1 + d * 3); have if1 := yW.frozen (1 + d * 3 + 1); have if2 := yW.frozen (1 + d * 3 + 2)
 have HK := z0e hC.1 B
 go_wp2_with fail
 go_ret
 exact ⟨rfl, (by repeat' first | with_reducible (first | exact HK | refine z1c ?_ | refine kept_set ?_ _ _ | refine z17 ?_ _ _ ?_ | refine z0j ?_ _) | ((try dsimp only); omega) | (simp; omega)), yW.reg3 hd 1 (-9223372036854775808) 9223372036854775807⟩
theorem zOi (B d s : Nat) (c o n p : Int) (r : Bool) (y : Way) (hd : d < 11) (hs : s < 11) (wl wh E : Int) (HR : Hid (∀ W : World, Calls tP 139 #[.agg #[A D (y.reg s).k, A D (y.reg s).l, A D (y.reg s).h], A D o] W fun e w' => e = rT (.tuple #[.agg #[A D wl, A D wh], A D E]) /\ Below W.heap.size W w')) (hE : (E == 0) = true) (hk : ((y.reg s).k == 3) = true) (gk gl gh E2 : Int) (HKP : Hid (∀ W : World, z04 W B p y -> Calls tP 142 #[pT (some ⟨B, 0, none⟩), .agg #[A D wl, A D wh]] W fun e w' => e = rT (.tuple #[.agg #[A D gk, A D gl, A D gh], A D E2]) /\ Below W.heap.size W w')) (hE2 : (E2 == 0) = false) (w : World) (hW : z04 w B p y) :
  Calls tP 104 #[pT (some ⟨B, 0, none⟩), .agg #[A D c, A D d, A D s, .bool r, A D o, A D n]] w fun e w' => e = rT (A D E2) /\ Below w.heap.size w w' := by
 have hK0 : Blk w [(w.heap.size, cT #[A D c, A D d, A D s, .bool r, A D o, A D n] 80 (0, 0)), (B, cT (z05 p y) 205 (0, 0))] _ := ((Blk.nil ((bF _ _).alloc (Nat.le_refl _) _)).cons (hW.alloc _)).cons (heap_alloc_new w (cT #[A D c, A D d, A D s, .bool r, A D o, A D n] 80))
 have hB := hW.lt
 have hs0 : (0 : Int) <= (s : Int) := by omega
 have hs1 : (s : Int) < 11 := by omega
 have hd0 : (0 : Int) <= (d : Int) := by omega
 have hd1 : (d : Int) < 11 := by omega
 go_enter Tryz.func104, Tryz.ntmps104
 go_wp2_with fail
 refine z0l (C := Blk w [(w.heap.size, cT #[A D c, A D d, A D s, .bool r, A D o, A D n] 80 (0, 0)), (B, cT (z05 p y) 205 (0, 0))]) (n0 := w.heap.size + 1) 7 [] [cT #[A D 0, A D 0, A D 0] 201 (0, 0)] (by kernel_rfl) (by kernel_rfl) (fun d _ _ _ _ h => by cases d <;> exact h) (Blk.stable _ _) (Blk.room w mcS) hK0.drew ⟨⟨rfl, fun a w2 hC => by go_simp; try rfl⟩, trivial⟩ ?_
 simp only [lQ, lX, lY, lZ, lV, lJ, Nat.reduceAdd]
 repeat (first
  | (refine z0i (by rfl) ?_; simp only [Act.put, siA, scZ, scS])
  | (refine z0a (by rfl) (v := ?_) ?_ ?_; rotate_left; (intro w2 hC; obtain ⟨p0, p1, p2, p3, p4, p5, ltS⟩ := row6 (hC.2 _ mcS); have yW : z04 _ B _ _ := (hC.2 _ (mcO _ mcS)); have ylt := yW.lt; obtain ⟨i0, i1, i2⟩ := yW.reg hs; go_simp; try with_reducible rfl); simp only [Act.put, siA, scZ, scS]))
 refine z0r ?_
 intro L h5 g5 w3 hC hB3
 have bL := hB3 L _ (FB.at_new _ _ _)
 obtain ⟨l0, l1, l2, lf0, lf1, lf2, llt⟩ := row3 bL
 obtain ⟨p0, p1, p2, p3, p4, p5, ltS⟩ := row6 (hC.2 _ mcS); have yW : z04 _ B _ _ := (hC.2 _ (mcO _ mcS)); have ylt := yW.lt; obtain ⟨i0, i1, i2⟩ := yW.reg hs
 have hbw := hC.1
 have n1 : w.heap.size ≠ L := by omega
 have n2 : B ≠ L := by omega
 simp only [z5f]
 go_wp2_with (first
  | (go_at_call 139; go_must (have hK1 : Blk w [(L, cT #[A D (y.reg s).k, A D (y.reg s).l, A D (y.reg s).h] 201 (0, 0)), (B, cT (z05 p y) 205 (0, 0)), (w.heap.size, cT #[A D c, A D d, A D s, .bool r, A D o, A D n] 80 (0, 0))] _ := (((Blk.nil (by repeat' first | with_reducible (first | exact hbw | exact bF _ _ | refine bA ?_ ?_ _ | refine bS ?_ ?_ _ | refine bD ?_ | refine z06 ?_ ?_ _) | ((try dsimp only); omega) | (simp; done) | (simp; omega))).cons (off3 (hC.2 _ mcS) n1)).cons (off3 (hC.2 _ (mcO _ mcS)) n2)).cons (put3 bL); refine (HR.out _).mono ?_; rintro e w4 ⟨rfl, hb4⟩; have hK4 := hK1.later hb4; clear l0 l1 l2 lf0 lf1 lf2 llt p0 p1 p2 p3 p4 p5 ltS yW ylt i0 i1 i2; obtain ⟨l0, l1, l2, lf0, lf1, lf2, llt⟩ := row3 (hK4.2 _ mcS); have yW : z04 _ B _ _ := (hK4.2 _ (mcO _ mcS)); have ylt := yW.lt; obtain ⟨p0, p1, p2, p3, p4, p5, ltS⟩ := row6 (hK4.2 _ (mcO _ (mcO _ mcS)))))
  | (go_at_call 141; go_must (refine (z2v _).mono ?_; rintro e w5 ⟨rfl, hb5⟩; have hK5 := (hK4.add (cT #[A D wl, A D wh] 122)).later hb5; clear l0 l1 l2 lf0 lf1 lf2 llt p0 p1 p2 p3 p4 p5 ltS yW ylt; obtain ⟨u0, u1, uf0, uf1, ult⟩ := row2 (hK5.2 _ mcS); obtain ⟨l0, l1, l2, lf0, lf1, lf2, llt⟩ := row3 (hK5.2 _ (mcO _ mcS)); have yW : z04 _ B _ _ := (hK5.2 _ (mcO _ (mcO _ mcS))); have ylt := yW.lt; obtain ⟨p0, p1, p2, p3, p4, p5, ltS⟩ := row6 (hK5.2 _ (mcO _ (mcO _ (mcO _ mcS))))))
  | (go_at_call 140; go_must (refine (z1g _ _ _).mono ?_; rintro e w6 ⟨rfl, hb6⟩; simp only [Kno.v, z1d]; have hK6 := hK5.later hb6; clear l0 l1 l2 lf0 lf1 lf2 llt p0 p1 p2 p3 p4 p5 ltS yW ylt u0 u1 uf0 uf1 ult; obtain ⟨u0, u1, uf0, uf1, ult⟩ := row2 (hK6.2 _ mcS); obtain ⟨l0, l1, l2, lf0, lf1, lf2, llt⟩ := row3 (hK6.2 _ (mcO _ mcS)); have yW : z04 _ B _ _ := (hK6.2 _ (mcO _ (mcO _ mcS))); have ylt := yW.lt; obtain ⟨p0, p1, p2, p3, p4, p5, ltS⟩ := row6 (hK6.2 _ (mcO _ (mcO _ (mcO _ mcS)))); have hbw6 := hK6.1; have hs6 := hbw6.size; have hq6 := ylt; have hq7 := ltS))
  | (go_at_call 142; go_must (have hKG := (((hK6.add (cT #[A D 1, A D (-9223372036854775808), A D 9223372036854775807] 201)))); refine (HKP.out _ (hKG.2 _ (mcO _ (mcO _ (mcO _ mcS))))).mono ?_; rintro e w7 ⟨rfl, hb7⟩; have hK7 := hKG.later hb7; clear l0 l1 l2 lf0 lf1 lf2 llt p0 p1 p2 p3 p4 p5 ltS yW ylt u0 u1 uf0 uf1 ult; obtain ⟨g0, g1, g2, gf0, gf1, gf2, glt⟩ := row3 (hK7.2 _ mcS); obtain ⟨u0, u1, uf0, uf1, ult⟩ := row2 (hK7.2 _ (mcO _ mcS)); obtain ⟨l0, l1, l2, lf0, lf1, lf2, llt⟩ := row3 (hK7.2 _ (mcO _ (mcO _ mcS))); have yW : z04 _ B _ _ := (hK7.2 _ (mcO _ (mcO _ (mcO _ mcS)))); have ylt := yW.lt; obtain ⟨i0, i1, i2⟩ := yW.reg hd; obtain ⟨p0, p1, p2, p3, p4, p5, ltS⟩ := row6 (hK7.2 _ (mcO _ (mcO _ (mcO _ (mcO _ mcS))))); have hbw7 := hK7.1))
  | fail)
 go_ret
 exact ⟨rfl, (by repeat' first | with_reducible (first | exact hbw7 | exact bF _ _ | refine bA ?_ ?_ _ | refine bS ?_ ?_ _ | refine bD ?_ | refine z06 ?_ ?_ _) | ((try dsimp only); omega) | (simp; done) | (simp; omega))⟩
theorem zLr (B d s : Nat) (c o n p : Int) (r : Bool) (y : Way) (hd : d < 11) (hs : s < 11) (wl wh E : Int) (HR : Hid (∀ W : World, Calls tP 139 #[.agg #[A D (y.reg s).k, A D (y.reg s).l, A D (y.reg s).h], A D o] W fun e w' => e = rT (.tuple #[.agg #[A D wl, A D wh], A D E]) /\ Below W.heap.size W w')) (hE : (E == 0) = true) (hk : ((y.reg s).k == 3) = true) (gk gl gh E2 : Int) (HKP : Hid (∀ W : World, z04 W B p y -> Calls tP 142 #[pT (some ⟨B, 0, none⟩), .agg #[A D wl, A D wh]] W fun e w' => e = rT (.tuple #[.agg #[A D gk, A D gl, A D gh], A D E2]) /\ Below W.heap.size W w')) (hE2 : (E2 == 0) = true) (w : World) (hW : z04 w B p y) :
  Calls tP 104 #[pT (some ⟨B, 0, none⟩), .agg #[A D c, A D d, A D s, .bool r, A D o, A D n]] w fun e w' => e = rT (A D E2) /\ Kept B w w' /\ z04 w' B p (y.putReg d ⟨gk, gl, gh⟩) := by
 have hK0 : Blk w [(w.heap.size, cT #[A D c, A D d, A D s, .bool r, A D o, A D n] 80 (0, 0)), (B, cT (z05 p y) 205 (0, 0))] _ := ((Blk.nil ((bF _ _).alloc (Nat.le_refl _) _)).cons (hW.alloc _)).cons (heap_alloc_new w (cT #[A D c, A D d, A D s, .bool r, A D o, A D n] 80))
 have hB := hW.lt
 have hs0 : (0 : Int) <= (s : Int) := by omega
 have hs1 : (s : Int) < 11 := by omega
 have hd0 : (0 : Int) <= (d : Int) := by omega
 have hd1 : (d : Int) < 11 := by omega
 go_enter Tryz.func104, Tryz.ntmps104
 go_wp2_with fail
 refine z0l (C := Blk w [(w.heap.size, cT #[A D c, A D d, A D s, .bool r, A D o, A D n] 80 (0, 0)), (B, cT (z05 p y) 205 (0, 0))]) (n0 := w.heap.size + 1) 7 [] [cT #[A D 0, A D 0, A D 0] 201 (0, 0)] (by kernel_rfl) (by kernel_rfl) (fun d _ _ _ _ h => by cases d <;> exact h) (Blk.stable _ _) (Blk.room w mcS) hK0.drew ⟨⟨rfl, fun a w2 hC => by go_simp; try rfl⟩, trivial⟩ ?_
 simp only [lQ, lX, lY, lZ, lV, lJ, Nat.reduceAdd]
 repeat (first
  | (refine z0i (by rfl) ?_; simp only [Act.put, siA, scZ, scS])
  | (refine z0a (by rfl) (v := ?_) ?_ ?_; rotate_left; (intro w2 hC; obtain ⟨p0, p1, p2, p3, p4, p5, ltS⟩ := row6 (hC.2 _ mcS); have yW : z04 _ B _ _ := (hC.2 _ (mcO _ mcS)); have ylt := yW.lt; obtain ⟨i0, i1, i2⟩ := yW.reg hs; go_simp; try with_reducible rfl); simp only [Act.put, siA, scZ, scS]))
 refine z0r ?_
 intro L h5 g5 w3 hC hB3
 have bL := hB3 L _ (FB.at_new _ _ _)
 obtain ⟨l0, l1, l2, lf0, lf1, lf2, llt⟩ := row3 bL
 obtain ⟨p0, p1, p2, p3, p4, p5, ltS⟩ := row6 (hC.2 _ mcS); have yW : z04 _ B _ _ := (hC.2 _ (mcO _ mcS)); have ylt := yW.lt; obtain ⟨i0, i1, i2⟩ := yW.reg hs
 have hbw := hC.1
 have n1 : w.heap.size ≠ L := by omega
 have n2 : B ≠ L := by omega
 simp only [z5f]
 go_wp2_with (first
  | (go_at_call 139; go_must (have hK1 : Blk w [(L, cT #[A D (y.reg s).k, A D (y.reg s).l, A D (y.reg s).h] 201 (0, 0)), (B, cT (z05 p y) 205 (0, 0)), (w.heap.size, cT #[A D c, A D d, A D s, .bool r, A D o, A D n] 80 (0, 0))] _ := (((Blk.nil (by repeat' first | with_reducible (first | exact hbw | exact bF _ _ | refine bA ?_ ?_ _ | refine bS ?_ ?_ _ | refine bD ?_ | refine z06 ?_ ?_ _) | ((try dsimp only); omega) | (simp; done) | (simp; omega))).cons (off3 (hC.2 _ mcS) n1)).cons (off3 (hC.2 _ (mcO _ mcS)) n2)).cons (put3 bL); refine (HR.out _).mono ?_; rintro e w4 ⟨rfl, hb4⟩; have hK4 := hK1.later hb4; clear l0 l1 l2 lf0 lf1 lf2 llt p0 p1 p2 p3 p4 p5 ltS yW ylt i0 i1 i2; obtain ⟨l0, l1, l2, lf0, lf1, lf2, llt⟩ := row3 (hK4.2 _ mcS); have yW : z04 _ B _ _ := (hK4.2 _ (mcO _ mcS)); have ylt := yW.lt; obtain ⟨p0, p1, p2, p3, p4, p5, ltS⟩ := row6 (hK4.2 _ (mcO _ (mcO _ mcS)))))
  | (go_at_call 141; go_must (refine (z2v _).mono ?_; rintro e w5 ⟨rfl, hb5⟩; have hK5 := (hK4.add (cT #[A D wl, A D wh] 122)).later hb5; clear l0 l1 l2 lf0 lf1 lf2 llt p0 p1 p2 p3 p4 p5 ltS yW ylt; obtain ⟨u0, u1, uf0, uf1, ult⟩ := row2 (hK5.2 _ mcS); obtain ⟨l0, l1, l2, lf0, lf1, lf2, llt⟩ := row3 (hK5.2 _ (mcO _ mcS)); have yW : z04 _ B _ _ := (hK5.2 _ (mcO _ (mcO _ mcS))); have ylt := yW.lt; obtain ⟨p0, p1, p2, p3, p4, p5, ltS⟩ := row6 (hK5.2 _ (mcO _ (mcO _ (mcO _ mcS))))))
  | (go_at_call 140; go_must (refine (z1g _ _ _).mono ?_; rintro e w6 ⟨rfl, hb6⟩; simp only [Kno.v, z1d]; have hK6 := hK5.later hb6; clear l0 l1 l2 lf0 lf1 lf2 llt p0 p1 p2 p3 p4 p5 ltS yW ylt u0 u1 uf0 uf1 ult; obtain ⟨u0, u1, uf0, uf1, ult⟩ := row2 (hK6.2 _ mcS); obtain ⟨l0, l1, l2, lf0, lf1, lf2, llt⟩ := row3 (hK6.2 _ (mcO _ mcS)); have yW : z04 _ B _ _ := (hK6.2 _ (mcO _ (mcO _ mcS))); have ylt := yW.lt; obtain ⟨p0, p1, p2, p3, p4, p5, ltS⟩ := row6 (hK6.2 _ (mcO _ (mcO _ (mcO _ mcS)))); have hbw6 := hK6.1; have hs6 := hbw6.size; have hq6 := ylt; have hq7 := ltS))
  | (go_at_call 142; go_must (have hKG := (((hK6.add (cT #[A D 1, A D (-9223372036854775808), A D 9223372036854775807] 201)))); refine (HKP.out _ (hKG.2 _ (mcO _ (mcO _ (mcO _ mcS))))).mono ?_; rintro e w7 ⟨rfl, hb7⟩; have hK7 := hKG.later hb7; clear l0 l1 l2 lf0 lf1 lf2 llt p0 p1 p2 p3 p4 p5 ltS yW ylt u0 u1 uf0 uf1 ult; obtain ⟨g0, g1, g2, gf0, gf1, gf2, glt⟩ := row3 (hK7.2 _ mcS); obtain ⟨u0, u1, uf0, uf1, ult⟩ := row2 (hK7.2 _ (mcO _ mcS)); obtain ⟨l0, l1, l2, lf0, lf1, lf2, llt⟩ := row3 (hK7.2 _ (mcO _ (mcO _ mcS))); have yW : z04 _ B _ _ := (hK7.2 _ (mcO _ (mcO _ (mcO _ mcS)))); have ylt := yW.lt; obtain ⟨i0, i1, i2⟩ := yW.reg hd; obtain ⟨p0, p1, p2, p3, p4, p5, ltS⟩ := row6 (hK7.2 _ (mcO _ (mcO _ (mcO _ (mcO _ mcS))))); have hbw7 := hK7.1))
  | fail)
 have hK8 : Blk w [(w6.heap.size, cT #[A D gk, A D gl, A D gh] 201 (0, 0)), (B, cT (z05 p y) 205 (0, 0)), (w.heap.size, cT #[A D c, A D d, A D s, .bool r, A D o, A D n] 80 (0, 0))] _ := ((Blk.nil (by repeat' first | with_reducible (first | exact hbw7 | exact bF _ _ | refine bA ?_ ?_ _ | refine bS ?_ ?_ _ | refine bD ?_ | refine z06 ?_ ?_ _) | ((try dsimp only); omega) | (simp; done) | (simp; omega))).cons (off3 (hK7.2 _ (mcO _ (mcO _ (mcO _ (mcO _ mcS))))) (by omega))).cons (off3 (hK7.2 _ (mcO _ (mcO _ (mcO _ mcS)))) (by omega)) |>.cons (put3 (hK7.2 _ mcS))
 clear hC
 refine z0l (C := Blk w [(w6.heap.size, cT #[A D gk, A D gl, A D gh] 201 (0, 0)), (B, cT (z05 p y) 205 (0, 0)), (w.heap.size, cT #[A D c, A D d, A D s, .bool r, A D o, A D n] 80 (0, 0))]) (n0 := w.heap.size) 7 [] [] (by kernel_rfl) (by kernel_rfl) (fun d _ _ _ _ h => by cases d <;> exact h) (Blk.stable _ _) (Blk.room0 _ _) hK8.drew trivial ?_
 simp only [lQ, lX, lY, lZ, lJ, Nat.reduceAdd]
 repeat (first
  | (refine z0i (by rfl) ?_; simp only [Act.put, siA, scZ, scS])
  | (refine z0a (by rfl) (v := ?_) ?_ ?_; rotate_left; (intro w2 hC; obtain ⟨g0, g1, g2, gf0, gf1, gf2, glt⟩ := row3 (hC.2 _ mcS); have yW : z04 _ B _ _ := (hC.2 _ (mcO _ mcS)); have ylt := yW.lt; obtain ⟨i0, i1, i2⟩ := yW.reg hd; obtain ⟨p0, p1, p2, p3, p4, p5, ltS⟩ := row6 (hC.2 _ (mcO _ (mcO _ mcS))); go_simp; try with_reducible rfl); simp only [Act.put, siA, scZ, scS]))
 refine z0r ?_
 intro w9 hC hB9
 obtain ⟨g0, g1, g2, gf0, gf1, gf2, glt⟩ := row3 (hC.2 _ mcS); have yW : z04 _ B _ _ := (hC.2 _ (mcO _ mcS)); have ylt := yW.lt; obtain ⟨i0, i1, i2⟩ := yW.reg hd; obtain ⟨p0, p1, p2, p3, p4, p5, ltS⟩ := row6 (hC.2 _ (mcO _ (mcO _ mcS)))
 have if0 := yW.frozen (1 + d * 3); have if1 := yW.frozen (1 + d * 3 + 1); have if2 := yW.frozen (1 + d * 3 + 2)
 have HK := z0e hC.1 B
 go_wp2_with fail
 go_ret
 exact ⟨rfl, (by repeat' first | with_reducible (first | exact HK | refine z1c ?_ | refine kept_set ?_ _ _ | refine z17 ?_ _ _ ?_ | refine z0j ?_ _) | ((try dsimp only); omega) | (simp; omega)), yW.reg3 hd gk gl gh⟩
theorem zOk {B d s : Nat} {c o n p : Int} {r : Bool} {y : Way} (hd : d < 11) (hs : s < 11) (hy : y.Ok) (ho : In64 o) {w : World} (hW : z04 w B p y) :
  Calls tP 104 #[pT (some ⟨B, 0, none⟩), .agg #[A D c, A D d, A D s, .bool r, A D o, A D n]] w fun e w' => e = rT (A D (y.load d s o).1) /\ Kept B w w' /\ z04 w' B p (y.load d s o).2 := by
 have HR := fun W : World => zCc (y.reg s) o (hy.reg s hs) ho W
 unfold Way.load
 rcases e : z0y (y.reg s) o with ⟨⟨wl, wh⟩, E⟩
 rw [e] at HR
 by_cases hE : E = 0
 ·subst hE
  rw [if_neg (by simp)]
  have er : (z0y (y.reg s) o).2 = 0 := by rw [e]
  obtain ⟨-, e1, r1, r2⟩ := z71 er
  have ot := zEj (hy.reg s hs) ho
  rw [e] at e1
  rw [<- e1] at r1 r2 ot
  by_cases h3 : (y.reg s).k = 3
  ·rw [if_pos h3]
   rw [h3] at r1 r2
   have HKP := fun (W : World) (h : z04 W B p y) => zOm B wl wh p y r1 ot r2 W h
   show Calls _ _ _ _ fun e w' => e = rT (A D (if (y.kept (wl, wh)).2 ≠ 0 then ((y.kept (wl, wh)).2, y) else (0, y.putReg d (y.kept (wl, wh)).1) : Int × Way).1) /\ Kept B w w' /\ z04 w' B p (if (y.kept (wl, wh)).2 ≠ 0 then ((y.kept (wl, wh)).2, y) else (0, y.putReg d (y.kept (wl, wh)).1) : Int × Way).2
   rcases ek : y.kept (wl, wh) with ⟨⟨gk, gl, gh⟩, E2⟩
   rw [ek] at HKP
   by_cases hE2 : E2 = 0
   ·subst hE2
    rw [if_neg (by simp)]
    exact zLr B d s c o n p r y hd hs wl wh 0 HR rfl (by simpa using h3) gk gl gh 0 HKP rfl w hW
   ·rw [if_pos hE2]
    exact (zOi B d s c o n p r y hd hs wl wh 0 HR rfl (by simpa using h3) gk gl gh E2 HKP (by simpa using hE2) w hW).mono fun e w' ⟨h1, h2⟩ => ⟨h1, z0e h2 B, hW.later h2⟩
  ·rw [if_neg h3]
   exact zOj B d s c o n p r y hd hs wl wh 0 HR rfl (by simpa using h3) w hW
 ·rw [if_pos hE]
  exact (zSt B d s c o n p r y hd hs wl wh E HR (by simpa using hE) w hW).mono fun e w' ⟨h1, h2⟩ => ⟨h1, z0e h2 B, hW.later h2⟩
theorem zB7 (B d s : Nat) (c o n p : Int) (r : Bool) (y : Way) (hd : d < 11) (hs : s < 11) (bk bl bh : Int) (HB : Hid (y.second s r n = ⟨bk, bl, bh⟩)) : (∀ (wl wh E : Int) (HR : Hid (∀ W : World, Calls tP 139 #[.agg #[A D (y.reg d).k, A D (y.reg d).l, A D (y.reg d).h], A D o] W fun e w' => e = rT (.tuple #[.agg #[A D wl, A D wh], A D E]) /\ Below W.heap.size W w')) (X : Int) (HX : Hid (((E != 0) = true /\ X = E) \/ ((E != 0) = false /\ ((y.reg d).k == 2) = true /\ X = 6) \/ ((E != 0) = false /\ ((y.reg d).k == 2) = false /\ (bk == 0) = true /\ X = 8) \/ ((E != 0) = false /\ ((y.reg d).k == 2) = false /\ (bk == 0) = false /\ ((y.reg d).k == 4) = true /\ X = z0w ⟨bk, bl, bh⟩))) (w : World) (hW : z04 w B p y), Calls tP 105 #[pT (some ⟨B, 0, none⟩), .agg #[A D c, A D d, A D s, .bool r, A D o, A D n]] w fun e w' => e = rT (A D X) /\ Below w.heap.size w w') /\ (∀ (wl E : Int) (HR : Hid (∀ W : World, Calls tP 139 #[.agg #[A D (y.reg d).k, A D (y.reg d).l, A D (y.reg d).h], A D o] W fun e w' => e = rT (.tuple #[.agg #[A D wl, A D wl], A D E]) /\ Below W.heap.size W w')) (t : Nat) (ht : t < 16) (e1 : IntKind.i64.wrap (wl + 16) = (t : Int)) (hE : (E != 0) = false) (x2 : ((y.reg d).k == 2) = false) (x3 : (bk == 0) = false) (x4 : ((y.reg d).k == 4) = false) (w : World) (hW : z04 w B p y), Calls tP 105 #[pT (some ⟨B, 0, none⟩), .agg #[A D c, A D d, A D s, .bool r, A D o, A D n]] w fun e w' => e = rT (A D 0) /\ Kept B w w' /\ z04 w' B p (y.putSlot t ⟨bk, bl, bh⟩)) /\ (∀ (wl wh E : Int) (HR : Hid (∀ W : World, Calls tP 139 #[.agg #[A D (y.reg d).k, A D (y.reg d).l, A D (y.reg d).h], A D o] W fun e w' => e = rT (.tuple #[.agg #[A D wl, A D wh], A D E]) /\ Below W.heap.size W w')) (hE : (E != 0) = false) (x2 : ((y.reg d).k == 2) = false) (x3 : (bk == 0) = false) (x4 : ((y.reg d).k == 4) = false) (hwide : ¬ wh = wl) (w : World) (hW : z04 w B p y), Calls tP 105 #[pT (some ⟨B, 0, none⟩), .agg #[A D c, A D d, A D s, .bool r, A D o, A D n]] w fun e w' => e = rT (A D 2) /\ Below w.heap.size w w') := by
 refine ⟨?_, ?_, ?_⟩
 intro wl wh E HR X HX w hW
 rotate_left
 intro wl E HR t ht e1 hE x2 x3 x4 w hW
 rotate_left
 intro wl wh E HR hE x2 x3 x4 hwide w hW
 rotate_left
 all_goals
  have hK0 : Blk w [(w.heap.size, cT #[A D c, A D d, A D s, .bool r, A D o, A D n] 80 (0, 0)), (B, cT (z05 p y) 205 (0, 0))] _ := ((Blk.nil ((bF _ _).alloc (Nat.le_refl _) _)).cons (hW.alloc _)).cons (heap_alloc_new w (cT #[A D c, A D d, A D s, .bool r, A D o, A D n] 80))
  have hB := hW.lt
  have hs0 : (0 : Int) <= (s : Int) := by omega
  have hs1 : (s : Int) < 11 := by omega
  have hd0 : (0 : Int) <= (d : Int) := by omega
  have hd1 : (d : Int) < 11 := by omega
 rotate_left
 have ht0 : (0 : Int) <= (t : Int) := by omega
 have ht1 : (t : Int) < 16 := by omega
 rotate_left
 rotate_left
 all_goals
  go_enter Tryz.func105, Tryz.ntmps105
  go_wp2_with fail
  refine z0l (C := Blk w [(w.heap.size, cT #[A D c, A D d, A D s, .bool r, A D o, A D n] 80 (0, 0)), (B, cT (z05 p y) 205 (0, 0))]) (n0 := w.heap.size + 1) 10 [] [cT #[A D 0, A D 0, A D 0] 201 (0, 0), cT #[A D 0, A D 0, A D 0] 201 (0, 0)] (by kernel_rfl) (by kernel_rfl) (fun d _ _ _ _ h => by cases d <;> exact h) (Blk.stable _ _) (Blk.room w mcS) hK0.drew ⟨⟨rfl, fun a w2 hC => by go_simp; try rfl⟩, ⟨rfl, fun a w2 hC => by go_simp; try rfl⟩, trivial⟩ ?_
 ·simp only [lQ, lX, lY, lZ, lV, lJ, Nat.reduceAdd]
  repeat (first
   | (refine z0i (by rfl) ?_; simp only [Act.put, siA, scZ, scS])
   | (refine z0a (by rfl) (v := ?_) ?_ ?_; rotate_left; (intro w2 hC; obtain ⟨p0, p1, p2, p3, p4, p5, ltS⟩ := row6 (hC.2 _ mcS); have yW : z04 _ B _ _ := (hC.2 _ (mcO _ mcS)); have ylt := yW.lt; obtain ⟨i0, i1, i2⟩ := yW.reg hd; go_simp; try with_reducible rfl); simp only [Act.put, siA, scZ, scS])
   | (refine z0v (by rfl) ?_; apply Exists.intro; refine ⟨fun w2 hC => ?_, ?_⟩; (obtain ⟨p0, p1, p2, p3, p4, p5, ltS⟩ := row6 (hC.2 _ mcS); have yW : z04 _ B _ _ := (hC.2 _ (mcO _ mcS)); have ylt := yW.lt; obtain ⟨i0, i1, i2⟩ := yW.reg hd; go_simp; apply z16; first | (go_at_call 136; exact (by have hq := z2d B s c d o n r p y hs w2 yW; rw [HB.out] at hq; unfold Kno.v at hq; exact hq))); simp only [Act.put, siA, scZ, scS]))
  refine z0r ?_
  intro L h5 g5 K h6 g6 w3 hC hB3
  have hne : K ≠ L := (FB.upd_none h6).1
  have hne' : L ≠ K := fun e => hne e.symm
  have bK := hB3 K _ (FB.at_new _ _ _)
  have bL := hB3 L _ (FB.at_old hne' (FB.at_new _ _ _))
  obtain ⟨l0, l1, l2, lf0, lf1, lf2, llt⟩ := row3 bL
  obtain ⟨k0, k1, k2, kf0, kf1, kf2, klt⟩ := row3 bK
  obtain ⟨p0, p1, p2, p3, p4, p5, ltS⟩ := row6 (hC.2 _ mcS); have yW : z04 _ B _ _ := (hC.2 _ (mcO _ mcS)); have ylt := yW.lt; obtain ⟨i0, i1, i2⟩ := yW.reg hd
  have hbw := hC.1
  have n1 : w.heap.size ≠ L := by omega
  have n2 : B ≠ L := by omega
  have n3 : w.heap.size ≠ K := by omega
  have n4 : B ≠ K := by omega
  simp only [z5f]
  go_upto_region 3 with (first
   | (go_at_call 139; go_must (have hK1 : Blk w [(L, cT #[A D (y.reg d).k, A D (y.reg d).l, A D (y.reg d).h] 201 (0, 0)), (K, cT #[A D bk, A D bl, A D bh] 201 (0, 0)), (B, cT (z05 p y) 205 (0, 0)), (w.heap.size, cT #[A D c, A D d, A D s, .bool r, A D o, A D n] 80 (0, 0))] _ := ((((Blk.nil (by repeat' first | with_reducible (first | exact hbw | exact bF _ _ | refine bA ?_ ?_ _ | refine bS ?_ ?_ _ | refine bD ?_ | refine z06 ?_ ?_ _) | ((try dsimp only); omega) | (simp; done) | (simp; omega))).cons (off3 (off3 (hC.2 _ mcS) n1) n3)).cons (off3 (off3 (hC.2 _ (mcO _ mcS)) n2) n4)).cons (put3 (off3 bK hne))).cons (off3 (put3 bL) hne'); refine (HR.out _).mono ?_; rintro e w4 ⟨rfl, hb4⟩; have hK4 := hK1.later hb4; clear l0 l1 l2 lf0 lf1 lf2 llt k0 k1 k2 kf0 kf1 kf2 klt p0 p1 p2 p3 p4 p5 ltS yW ylt i0 i1 i2; obtain ⟨l0, l1, l2, lf0, lf1, lf2, llt⟩ := row3 (hK4.2 _ mcS); obtain ⟨k0, k1, k2, kf0, kf1, kf2, klt⟩ := row3 (hK4.2 _ (mcO _ mcS)); have yW : z04 _ B _ _ := (hK4.2 _ (mcO _ (mcO _ mcS))); have ylt := yW.lt; obtain ⟨p0, p1, p2, p3, p4, p5, ltS⟩ := row6 (hK4.2 _ (mcO _ (mcO _ (mcO _ mcS)))); have hbw4 := hK4.1))
   | fail)
  rcases HX.out with ⟨hE, rfl⟩ | ⟨hE, x2, rfl⟩ | ⟨hE, x2, x3, rfl⟩ | ⟨hE, x2, x3, x4, rfl⟩
  ·go_wp2_with fail
   go_ret
   exact ⟨rfl, (by repeat' first | with_reducible (first | exact hbw4 | exact bF _ _ | refine bA ?_ ?_ _ | refine bS ?_ ?_ _ | refine bD ?_ | refine z06 ?_ ?_ _) | ((try dsimp only); omega) | (simp; done) | (simp; omega))⟩
  ·go_wp2_with fail
   go_ret
   exact ⟨rfl, (by repeat' first | with_reducible (first | exact hbw4 | exact bF _ _ | refine bA ?_ ?_ _ | refine bS ?_ ?_ _ | refine bD ?_ | refine z06 ?_ ?_ _) | ((try dsimp only); omega) | (simp; done) | (simp; omega))⟩
  ·go_wp2_with fail
   go_ret
   exact ⟨rfl, (by repeat' first | with_reducible (first | exact hbw4 | exact bF _ _ | refine bA ?_ ?_ _ | refine bS ?_ ?_ _ | refine bD ?_ | refine z06 ?_ ?_ _) | ((try dsimp only); omega) | (simp; done) | (simp; omega))⟩
  ·go_wp2_with (first | (go_at_call 103; go_must (refine (z3f bk bl bh _).mono ?_; rintro e w5 ⟨rfl, hb5⟩; have hbw4 := ((hK4.add (cT #[A D wl, A D wh] 122)).later hb5).1)) | fail)
   go_ret
   exact ⟨rfl, (by repeat' first | with_reducible (first | exact hbw4 | exact bF _ _ | refine bA ?_ ?_ _ | refine bS ?_ ?_ _ | refine bD ?_ | refine z06 ?_ ?_ _) | ((try dsimp only); omega) | (simp; done) | (simp; omega))⟩
 ·simp only [lQ, lX, lY, lZ, lV, lJ, Nat.reduceAdd]
  repeat (first
   | (refine z0i (by rfl) ?_; simp only [Act.put, siA, scZ, scS])
   | (refine z0a (by rfl) (v := ?_) ?_ ?_; rotate_left; (intro w2 hC; obtain ⟨p0, p1, p2, p3, p4, p5, ltS⟩ := row6 (hC.2 _ mcS); have yW : z04 _ B _ _ := (hC.2 _ (mcO _ mcS)); have ylt := yW.lt; obtain ⟨i0, i1, i2⟩ := yW.reg hd; go_simp; try with_reducible rfl); simp only [Act.put, siA, scZ, scS])
   | (refine z0v (by rfl) ?_; apply Exists.intro; refine ⟨fun w2 hC => ?_, ?_⟩; (obtain ⟨p0, p1, p2, p3, p4, p5, ltS⟩ := row6 (hC.2 _ mcS); have yW : z04 _ B _ _ := (hC.2 _ (mcO _ mcS)); have ylt := yW.lt; obtain ⟨i0, i1, i2⟩ := yW.reg hd; go_simp; apply z16; first | (go_at_call 136; exact (by have hq := z2d B s c d o n r p y hs w2 yW; rw [HB.out] at hq; unfold Kno.v at hq; exact hq))); simp only [Act.put, siA, scZ, scS]))
  refine z0r ?_
  intro L h5 g5 K h6 g6 w3 hC hB3
  have hne : K ≠ L := (FB.upd_none h6).1
  have hne' : L ≠ K := fun e => hne e.symm
  have bK := hB3 K _ (FB.at_new _ _ _)
  have bL := hB3 L _ (FB.at_old hne' (FB.at_new _ _ _))
  obtain ⟨l0, l1, l2, lf0, lf1, lf2, llt⟩ := row3 bL
  obtain ⟨k0, k1, k2, kf0, kf1, kf2, klt⟩ := row3 bK
  obtain ⟨p0, p1, p2, p3, p4, p5, ltS⟩ := row6 (hC.2 _ mcS); have yW : z04 _ B _ _ := (hC.2 _ (mcO _ mcS)); have ylt := yW.lt; obtain ⟨i0, i1, i2⟩ := yW.reg hd
  have hbw := hC.1
  have n1 : w.heap.size ≠ L := by omega
  have n2 : B ≠ L := by omega
  have n3 : w.heap.size ≠ K := by omega
  have n4 : B ≠ K := by omega
  simp only [z5f]
  go_wp2_with (first
   | (go_at_call 139; go_must (have hK1 : Blk w [(L, cT #[A D (y.reg d).k, A D (y.reg d).l, A D (y.reg d).h] 201 (0, 0)), (K, cT #[A D bk, A D bl, A D bh] 201 (0, 0)), (B, cT (z05 p y) 205 (0, 0)), (w.heap.size, cT #[A D c, A D d, A D s, .bool r, A D o, A D n] 80 (0, 0))] _ := ((((Blk.nil (by repeat' first | with_reducible (first | exact hbw | exact bF _ _ | refine bA ?_ ?_ _ | refine bS ?_ ?_ _ | refine bD ?_ | refine z06 ?_ ?_ _) | ((try dsimp only); omega) | (simp; done) | (simp; omega))).cons (off3 (off3 (hC.2 _ mcS) n1) n3)).cons (off3 (off3 (hC.2 _ (mcO _ mcS)) n2) n4)).cons (put3 (off3 bK hne))).cons (off3 (put3 bL) hne'); refine (HR.out _).mono ?_; rintro e w4 ⟨rfl, hb4⟩; have hK4 := hK1.later hb4; clear l0 l1 l2 lf0 lf1 lf2 llt k0 k1 k2 kf0 kf1 kf2 klt p0 p1 p2 p3 p4 p5 ltS yW ylt i0 i1 i2; obtain ⟨l0, l1, l2, lf0, lf1, lf2, llt⟩ := row3 (hK4.2 _ mcS); obtain ⟨k0, k1, k2, kf0, kf1, kf2, klt⟩ := row3 (hK4.2 _ (mcO _ mcS)); have yW : z04 _ B _ _ := (hK4.2 _ (mcO _ (mcO _ mcS))); have ylt := yW.lt; obtain ⟨p0, p1, p2, p3, p4, p5, ltS⟩ := row6 (hK4.2 _ (mcO _ (mcO _ (mcO _ mcS)))); have hbw4 := hK4.1))
   | fail)
  have hK5 := hK4.add (cT #[A D wl, A D wl] 122)
  clear hC l0 l1 l2 lf0 lf1 lf2 llt k0 k1 k2 kf0 kf1 kf2 klt p0 p1 p2 p3 p4 p5 ltS yW ylt
  refine z0l (C := Blk w [(w4.heap.size, cT #[A D wl, A D wl] 122 (0, 0)), (L, cT #[A D (y.reg d).k, A D (y.reg d).l, A D (y.reg d).h] 201 (0, 0)), (K, cT #[A D bk, A D bl, A D bh] 201 (0, 0)), (B, cT (z05 p y) 205 (0, 0)), (w.heap.size, cT #[A D c, A D d, A D s, .bool r, A D o, A D n] 80 (0, 0))]) (n0 := w.heap.size) 5 [] [] (by kernel_rfl) (by kernel_rfl) (fun d _ _ _ _ h => by cases d <;> exact h) (Blk.stable _ _) (Blk.room0 _ _) hK5.drew trivial ?_
  simp only [lQ, lX, lY, lZ, lJ, Nat.reduceAdd]
  repeat (first
   | (refine z0i (by rfl) ?_; simp only [Act.put, siA, scZ, scS])
   | (refine z0a (by rfl) (v := ?_) ?_ ?_; rotate_left; (intro w2 hC; obtain ⟨u0, u1, uf0, uf1, ult⟩ := row2 (hC.2 _ mcS); obtain ⟨l0, l1, l2, lf0, lf1, lf2, llt⟩ := row3 (hC.2 _ (mcO _ mcS)); obtain ⟨k0, k1, k2, kf0, kf1, kf2, klt⟩ := row3 (hC.2 _ (mcO _ (mcO _ mcS))); have yW : z04 _ B _ _ := (hC.2 _ (mcO _ (mcO _ (mcO _ mcS)))); have ylt := yW.lt; obtain ⟨p0, p1, p2, p3, p4, p5, ltS⟩ := row6 (hC.2 _ (mcO _ (mcO _ (mcO _ (mcO _ mcS))))); go_simp; try with_reducible rfl); simp only [Act.put, siA, scZ, scS])
   | (refine z0v (by rfl) ?_; apply Exists.intro; refine ⟨fun w2 hC => ?_, ?_⟩; (obtain ⟨u0, u1, uf0, uf1, ult⟩ := row2 (hC.2 _ mcS); obtain ⟨l0, l1, l2, lf0, lf1, lf2, llt⟩ := row3 (hC.2 _ (mcO _ mcS)); obtain ⟨k0, k1, k2, kf0, kf1, kf2, klt⟩ := row3 (hC.2 _ (mcO _ (mcO _ mcS))); have yW : z04 _ B _ _ := (hC.2 _ (mcO _ (mcO _ (mcO _ mcS)))); have ylt := yW.lt; obtain ⟨p0, p1, p2, p3, p4, p5, ltS⟩ := row6 (hC.2 _ (mcO _ (mcO _ (mcO _ (mcO _ mcS))))); go_simp; apply z16; first | (go_at_call 100; exact z2p _ w2)); simp only [Act.put, siA, scZ, scS]))
  refine z0r ?_
  intro w6 hC hB6
  obtain ⟨u0, u1, uf0, uf1, ult⟩ := row2 (hC.2 _ mcS); obtain ⟨l0, l1, l2, lf0, lf1, lf2, llt⟩ := row3 (hC.2 _ (mcO _ mcS)); obtain ⟨k0, k1, k2, kf0, kf1, kf2, klt⟩ := row3 (hC.2 _ (mcO _ (mcO _ mcS))); have yW : z04 _ B _ _ := (hC.2 _ (mcO _ (mcO _ (mcO _ mcS)))); have ylt := yW.lt; obtain ⟨p0, p1, p2, p3, p4, p5, ltS⟩ := row6 (hC.2 _ (mcO _ (mcO _ (mcO _ (mcO _ mcS)))))
  have hK7 := hC
  go_wp2_with fail
  clear hC l0 l1 l2 lf0 lf1 lf2 llt k0 k1 k2 kf0 kf1 kf2 klt p0 p1 p2 p3 p4 p5 ltS yW ylt u0 u1 uf0 uf1 ult hK5 hB6
  refine z0l (C := Blk w [(w4.heap.size, cT #[A D wl, A D wl] 122 (0, 0)), (L, cT #[A D (y.reg d).k, A D (y.reg d).l, A D (y.reg d).h] 201 (0, 0)), (K, cT #[A D bk, A D bl, A D bh] 201 (0, 0)), (B, cT (z05 p y) 205 (0, 0)), (w.heap.size, cT #[A D c, A D d, A D s, .bool r, A D o, A D n] 80 (0, 0))]) (n0 := w.heap.size) 8 [] [] (by kernel_rfl) (by kernel_rfl) (fun d _ _ _ _ h => by cases d <;> exact h) (Blk.stable _ _) (Blk.room0 _ _) hK7.drew trivial ?_
  simp only [lQ, lX, lY, lZ, lJ, Nat.reduceAdd]
  repeat (first
   | (refine z0i (by rfl) ?_; simp only [Act.put, siA, scZ, scS])
   | (refine z0a (by rfl) (v := ?_) ?_ ?_; rotate_left; (intro w2 hC; obtain ⟨u0, u1, uf0, uf1, ult⟩ := row2 (hC.2 _ mcS); obtain ⟨l0, l1, l2, lf0, lf1, lf2, llt⟩ := row3 (hC.2 _ (mcO _ mcS)); obtain ⟨k0, k1, k2, kf0, kf1, kf2, klt⟩ := row3 (hC.2 _ (mcO _ (mcO _ mcS))); have yW : z04 _ B _ _ := (hC.2 _ (mcO _ (mcO _ (mcO _ mcS)))); have ylt := yW.lt; obtain ⟨p0, p1, p2, p3, p4, p5, ltS⟩ := row6 (hC.2 _ (mcO _ (mcO _ (mcO _ (mcO _ mcS))))); go_simp; try with_reducible rfl); simp only [Act.put, siA, scZ, scS]))
  refine z0r ?_
  intro w8 hC hB8
  obtain ⟨u0, u1, uf0, uf1, ult⟩ := row2 (hC.2 _ mcS); obtain ⟨l0, l1, l2, lf0, lf1, lf2, llt⟩ := row3 (hC.2 _ (mcO _ mcS)); obtain ⟨k0, k1, k2, kf0, kf1, kf2, klt⟩ := row3 (hC.2 _ (mcO _ (mcO _ mcS))); have yW : z04 _ B _ _ := (hC.2 _ (mcO _ (mcO _ (mcO _ mcS)))); have ylt := yW.lt; obtain ⟨p0, p1, p2, p3, p4, p5, ltS⟩ := row6 (hC.2 _ (mcO _ (mcO _ (mcO _ (mcO _ mcS)))))
  obtain ⟨i0, i1, i2⟩ := yW.slot ht
  have if0 := yW.frozen (34 + t * 3); have if1 := yW.frozen (34 + t * 3 + 1); have if2 := yW.frozen (34 + t * 3 + 2)
  have HK := z0e hC.1 B
  go_wp2_with fail
  go_ret
  exact ⟨rfl, (by repeat' first | with_reducible (first | exact HK | refine z1c ?_ | refine kept_set ?_ _ _ | refine z17 ?_ _ _ ?_ | refine z0j ?_ _) | ((try dsimp only); omega) | (simp; omega)), yW.slot3 t bk bl bh⟩
 ·simp only [lQ, lX, lY, lZ, lV, lJ, Nat.reduceAdd]
  repeat (first
   | (refine z0i (by rfl) ?_; simp only [Act.put, siA, scZ, scS])
   | (refine z0a (by rfl) (v := ?_) ?_ ?_; rotate_left; (intro w2 hC; obtain ⟨p0, p1, p2, p3, p4, p5, ltS⟩ := row6 (hC.2 _ mcS); have yW : z04 _ B _ _ := (hC.2 _ (mcO _ mcS)); have ylt := yW.lt; obtain ⟨i0, i1, i2⟩ := yW.reg hd; go_simp; try with_reducible rfl); simp only [Act.put, siA, scZ, scS])
   | (refine z0v (by rfl) ?_; apply Exists.intro; refine ⟨fun w2 hC => ?_, ?_⟩; (obtain ⟨p0, p1, p2, p3, p4, p5, ltS⟩ := row6 (hC.2 _ mcS); have yW : z04 _ B _ _ := (hC.2 _ (mcO _ mcS)); have ylt := yW.lt; obtain ⟨i0, i1, i2⟩ := yW.reg hd; go_simp; apply z16; first | (go_at_call 136; exact (by have hq := z2d B s c d o n r p y hs w2 yW; rw [HB.out] at hq; unfold Kno.v at hq; exact hq))); simp only [Act.put, siA, scZ, scS]))
  refine z0r ?_
  intro L h5 g5 K h6 g6 w3 hC hB3
  have hne : K ≠ L := (FB.upd_none h6).1
  have hne' : L ≠ K := fun e => hne e.symm
  have bK := hB3 K _ (FB.at_new _ _ _)
  have bL := hB3 L _ (FB.at_old hne' (FB.at_new _ _ _))
  obtain ⟨l0, l1, l2, lf0, lf1, lf2, llt⟩ := row3 bL
  obtain ⟨k0, k1, k2, kf0, kf1, kf2, klt⟩ := row3 bK
  obtain ⟨p0, p1, p2, p3, p4, p5, ltS⟩ := row6 (hC.2 _ mcS); have yW : z04 _ B _ _ := (hC.2 _ (mcO _ mcS)); have ylt := yW.lt; obtain ⟨i0, i1, i2⟩ := yW.reg hd
  have hbw := hC.1
  have n1 : w.heap.size ≠ L := by omega
  have n2 : B ≠ L := by omega
  have n3 : w.heap.size ≠ K := by omega
  have n4 : B ≠ K := by omega
  simp only [z5f]
  go_wp2_with (first
   | (go_at_call 139; go_must (have hK1 : Blk w [(L, cT #[A D (y.reg d).k, A D (y.reg d).l, A D (y.reg d).h] 201 (0, 0)), (K, cT #[A D bk, A D bl, A D bh] 201 (0, 0)), (B, cT (z05 p y) 205 (0, 0)), (w.heap.size, cT #[A D c, A D d, A D s, .bool r, A D o, A D n] 80 (0, 0))] _ := ((((Blk.nil (by repeat' first | with_reducible (first | exact hbw | exact bF _ _ | refine bA ?_ ?_ _ | refine bS ?_ ?_ _ | refine bD ?_ | refine z06 ?_ ?_ _) | ((try dsimp only); omega) | (simp; done) | (simp; omega))).cons (off3 (off3 (hC.2 _ mcS) n1) n3)).cons (off3 (off3 (hC.2 _ (mcO _ mcS)) n2) n4)).cons (put3 (off3 bK hne))).cons (off3 (put3 bL) hne'); refine (HR.out _).mono ?_; rintro e w4 ⟨rfl, hb4⟩; have hK4 := hK1.later hb4; clear l0 l1 l2 lf0 lf1 lf2 llt k0 k1 k2 kf0 kf1 kf2 klt p0 p1 p2 p3 p4 p5 ltS yW ylt i0 i1 i2; obtain ⟨l0, l1, l2, lf0, lf1, lf2, llt⟩ := row3 (hK4.2 _ mcS); obtain ⟨k0, k1, k2, kf0, kf1, kf2, klt⟩ := row3 (hK4.2 _ (mcO _ mcS)); have yW : z04 _ B _ _ := (hK4.2 _ (mcO _ (mcO _ mcS))); have ylt := yW.lt; obtain ⟨p0, p1, p2, p3, p4, p5, ltS⟩ := row6 (hK4.2 _ (mcO _ (mcO _ (mcO _ mcS)))); have hbw4 := hK4.1))
   | fail)
  have hK5 := hK4.add (cT #[A D wl, A D wh] 122)
  clear hC l0 l1 l2 lf0 lf1 lf2 llt k0 k1 k2 kf0 kf1 kf2 klt p0 p1 p2 p3 p4 p5 ltS yW ylt
  refine z0l (C := Blk w [(w4.heap.size, cT #[A D wl, A D wh] 122 (0, 0)), (L, cT #[A D (y.reg d).k, A D (y.reg d).l, A D (y.reg d).h] 201 (0, 0)), (K, cT #[A D bk, A D bl, A D bh] 201 (0, 0)), (B, cT (z05 p y) 205 (0, 0)), (w.heap.size, cT #[A D c, A D d, A D s, .bool r, A D o, A D n] 80 (0, 0))]) (n0 := w.heap.size) 5 [] [] (by kernel_rfl) (by kernel_rfl) (fun d _ _ _ _ h => by cases d <;> exact h) (Blk.stable _ _) (Blk.room0 _ _) hK5.drew trivial ?_
  simp only [lQ, lX, lY, lZ, lJ, Nat.reduceAdd]
  repeat (first
   | (refine z0i (by rfl) ?_; simp only [Act.put, siA, scZ, scS])
   | (refine z0a (by rfl) (v := ?_) ?_ ?_; rotate_left; (intro w2 hC; obtain ⟨u0, u1, uf0, uf1, ult⟩ := row2 (hC.2 _ mcS); obtain ⟨l0, l1, l2, lf0, lf1, lf2, llt⟩ := row3 (hC.2 _ (mcO _ mcS)); obtain ⟨k0, k1, k2, kf0, kf1, kf2, klt⟩ := row3 (hC.2 _ (mcO _ (mcO _ mcS))); have yW : z04 _ B _ _ := (hC.2 _ (mcO _ (mcO _ (mcO _ mcS)))); have ylt := yW.lt; obtain ⟨p0, p1, p2, p3, p4, p5, ltS⟩ := row6 (hC.2 _ (mcO _ (mcO _ (mcO _ (mcO _ mcS))))); go_simp; try with_reducible rfl); simp only [Act.put, siA, scZ, scS])
   | (refine z0v (by rfl) ?_; apply Exists.intro; refine ⟨fun w2 hC => ?_, ?_⟩; (obtain ⟨u0, u1, uf0, uf1, ult⟩ := row2 (hC.2 _ mcS); obtain ⟨l0, l1, l2, lf0, lf1, lf2, llt⟩ := row3 (hC.2 _ (mcO _ mcS)); obtain ⟨k0, k1, k2, kf0, kf1, kf2, klt⟩ := row3 (hC.2 _ (mcO _ (mcO _ mcS))); have yW : z04 _ B _ _ := (hC.2 _ (mcO _ (mcO _ (mcO _ mcS)))); have ylt := yW.lt; obtain ⟨p0, p1, p2, p3, p4, p5, ltS⟩ := row6 (hC.2 _ (mcO _ (mcO _ (mcO _ (mcO _ mcS))))); go_simp; apply z16; first | (go_at_call 100; exact z2p _ w2)); simp only [Act.put, siA, scZ, scS]))
  refine z0r ?_
  intro w6 hC hB6
  obtain ⟨u0, u1, uf0, uf1, ult⟩ := row2 (hC.2 _ mcS); obtain ⟨l0, l1, l2, lf0, lf1, lf2, llt⟩ := row3 (hC.2 _ (mcO _ mcS)); obtain ⟨k0, k1, k2, kf0, kf1, kf2, klt⟩ := row3 (hC.2 _ (mcO _ (mcO _ mcS))); have yW : z04 _ B _ _ := (hC.2 _ (mcO _ (mcO _ (mcO _ mcS)))); have ylt := yW.lt; obtain ⟨p0, p1, p2, p3, p4, p5, ltS⟩ := row6 (hC.2 _ (mcO _ (mcO _ (mcO _ (mcO _ mcS)))))
  have hbw4 := hC.1
  go_wp2_with fail
  go_ret
  exact ⟨rfl, (by repeat' first | with_reducible (first | exact hbw4 | exact bF _ _ | refine bA ?_ ?_ _ | refine bS ?_ ?_ _ | refine bD ?_ | refine z06 ?_ ?_ _) | ((try dsimp only); omega) | (simp; done) | (simp; omega))⟩
def z4k := fun B d s c o n p r y hd hs bk bl bh HB => (@zB7 B d s c o n p r y hd hs bk bl bh HB).1
def zHm := fun B d s c o n p r y hd hs bk bl bh HB => (@zB7 B d s c o n p r y hd hs bk bl bh HB).2.1
def zHl := fun B d s c o n p r y hd hs bk bl bh HB => (@zB7 B d s c o n p r y hd hs bk bl bh HB).2.2
theorem zLj {B d s : Nat} {c o n p : Int} {r : Bool} {y : Way} (hd : d < 11) (hs : s < 11) (hy : y.Ok) (ho : In64 o) {w : World} (hW : z04 w B p y) :
  Calls tP 105 #[pT (some ⟨B, 0, none⟩), .agg #[A D c, A D d, A D s, .bool r, A D o, A D n]] w fun e w' => e = rT (A D (y.store (y.reg d) (y.second s r n) o).1) /\ Kept B w w' /\ z04 w' B p (y.store (y.reg d) (y.second s r n) o).2 := by
 have HR := fun W : World => zCc (y.reg d) o (hy.reg d hd) ho W
 have mv : ∀ {E : Int} {e : Ending} {w' : World}, (e = rT (A D E) /\ Below w.heap.size w w') -> e = rT (A D E) /\ Kept B w w' /\ z04 w' B p y := fun h => ⟨h.1, z0e h.2 B, hW.later h.2⟩
 unfold Way.store
 rcases hv : y.second s r n with ⟨bk, bl, bh⟩
 rcases e : z0y (y.reg d) o with ⟨⟨wl, wh⟩, E⟩
 rw [e] at HR
 by_cases hE : E = 0
 ·subst hE
  rw [if_neg (by simp)]
  have er : (z0y (y.reg d) o).2 = 0 := by rw [e]
  obtain ⟨hk, e1, r1, r2⟩ := z71 er
  have ot := zEj (hy.reg d hd) ho
  rw [e] at e1
  rw [<- e1] at r1 r2 ot
  have k0 := (hy.reg d hd).1
  have k5 := (hy.reg d hd).2.1
  by_cases h2 : (y.reg d).k = 2
  ·rw [if_pos h2]; exact (z4k B d s c o n p r y hd hs bk bl bh hv wl wh 0 HR 6 (Or.inr (Or.inl ⟨rfl, by simpa using h2, rfl⟩)) w hW).mono fun _ _ h => mv h
  rw [if_neg h2]
  by_cases h0 : bk = 0
  ·rw [if_pos h0]; exact (z4k B d s c o n p r y hd hs bk bl bh hv wl wh 0 HR 8 (Or.inr (Or.inr (Or.inl ⟨rfl, by simpa using h2, by simpa using h0, rfl⟩))) w hW).mono fun _ _ h => mv h
  rw [if_neg h0]
  by_cases h4 : (y.reg d).k = 4
  ·rw [if_pos h4]; exact (z4k B d s c o n p r y hd hs bk bl bh hv wl wh 0 HR _ (Or.inr (Or.inr (Or.inr ⟨rfl, by simpa using h2, by simpa using h0, by simpa using h4, rfl⟩))) w hW).mono fun _ _ h => mv h
  rw [if_neg h4]
  have h3 : (y.reg d).k = 3 := by omega
  rw [h3] at r1 r2
  change -16 <= wl at r1
  change wh <= -1 at r2
  change wl <= wh at ot
  by_cases hq : wl = wh
  ·subst hq
   rw [if_neg (by simp)]
   obtain ⟨t, et⟩ := Int.eq_ofNat_of_zero_le (show 0 <= wl + 16 by omega)
   have e2 : IntKind.i64.wrap (wl + 16) = (t : Int) := by rw [IntWalk.i64_left, z0f (by omega) (by omega)]; exact et
   show Calls _ _ _ _ fun e w' => e = rT (A D 0) /\ Kept B w w' /\ z04 w' B p (y.putSlot (wl + 16).toNat ⟨bk, bl, bh⟩)
   rw [show (wl + 16).toNat = t by omega]
   exact zHm B d s c o n p r y hd hs bk bl bh hv wl 0 HR t (by omega) e2 rfl (by simpa using h2) (by simpa using h0) (by simpa using h4) w hW
  ·rw [if_pos hq]
   exact (zHl B d s c o n p r y hd hs bk bl bh hv wl wh 0 HR rfl (by simpa using h2) (by simpa using h0) (by simpa using h4) (fun e => hq e.symm) w hW).mono fun _ _ h => mv h
 ·rw [if_pos hE]
  exact (z4k B d s c o n p r y hd hs bk bl bh hv wl wh E HR E (Or.inl ⟨by simpa using hE, rfl⟩) w hW).mono fun _ _ h => mv h
theorem Way.lose_put (y : Way) : y.lose = ((((y.putReg 1 kno0).putReg 2 kno0).putReg 3 kno0).putReg 4 kno0).putReg 5 kno0 := by
 unfold Way.lose Way.putReg
 congr 1
 funext i
 by_cases h : 1 <= i /\ i <= 5
 ·rw [if_pos h]
  rcases (show i = 1 \/ i = 2 \/ i = 3 \/ i = 4 \/ i = 5 by omega) with rfl | rfl | rfl | rfl | rfl <;> rfl
 ·rw [if_neg h]
  show _ = if i = 5 then kno0 else if i = 4 then kno0 else if i = 3 then kno0 else if i = 2 then kno0 else if i = 1 then kno0 else y.reg i
  rw [if_neg (by omega), if_neg (by omega), if_neg (by omega), if_neg (by omega), if_neg (by omega)]
theorem z8b {w : World} {B : Nat} {p : Int} {y : Way} (hW : z04 w B p y) : ∃ w', (Builtin.clear_ #[283] 0 #[.slice (some ⟨B, 4, none⟩) 5 10]).run tP w = .ok (.tuple #[]) w' /\ Kept B w w' /\ z04 w' B p y.lose := by
 have hst := run_storeCells_cells (P := tP) B 4 (List.replicate 15 (A D 0)) 0 w (by
  intro j hj
  rw [List.length_replicate] at hj
  rw [hW.at _ (by omega)]; rfl) (by intro j hj; exact hW.frozen _) (by intro v hv'; rw [List.eq_of_mem_replicate hv']; rfl)
 simp only [Nat.add_zero] at hst
 have hzc : (Builtin.zeroCells (Value.agg #[A D 0, A D 0, A D 0]).cells 5).toList = List.replicate 15 (A D 0) := by first | rfl | kernel_rfl | (simp [Builtin.zeroCells]; rfl)
 refine ⟨w.setCells B 4 (List.replicate 15 (A D 0)), ?_, ?_, ?_⟩
 ·generalize List.replicate 15 (Value.int .i64 0) = zs at hst hzc ⊢
  simp [Builtin.clear_, run_underlying Tryz.underlying283, hzc, hst]
 ·show Kept B w (((((((((((((((w.setCell ⟨B, 4, none⟩ _).setCell ⟨B, 5, none⟩ _).setCell ⟨B, 6, none⟩ _).setCell ⟨B, 7, none⟩ _).setCell ⟨B, 8, none⟩ _).setCell ⟨B, 9, none⟩ _).setCell ⟨B, 10, none⟩ _).setCell ⟨B, 11, none⟩ _).setCell ⟨B, 12, none⟩ _).setCell ⟨B, 13, none⟩ _).setCell ⟨B, 14, none⟩ _).setCell ⟨B, 15, none⟩ _).setCell ⟨B, 16, none⟩ _).setCell ⟨B, 17, none⟩ _).setCell ⟨B, 18, none⟩ _)
  repeat with_reducible refine kept_set ?_ _ _
  exact z1b B w
 ·rw [y.lose_put]
  exact ((((hW.reg3 (d := 1) (by decide) 0 0 0).reg3 (d := 2) (by decide) 0 0 0).reg3 (d := 3) (by decide) 0 0 0).reg3 (d := 4) (by decide) 0 0 0).reg3 (d := 5) (by decide) 0 0 0
theorem zGu (B : Nat) (p : Int) (y : Way) (E : Int) (HW : Hid (z0w ⟨(y.reg 1).k, (y.reg 1).l, (y.reg 1).h⟩ = E)) (hE : (E != 0) = true) (w : World) (hW : z04 w B p y) : (Calls tP 106 #[pT (some ⟨B, 0, none⟩), A D 1] w fun e w' => e = rT (A D E) /\ Below w.heap.size w w') /\ (Calls tP 106 #[pT (some ⟨B, 0, none⟩), A D 3] w fun e w' => e = rT (A D E) /\ Below w.heap.size w w') := by
 refine ⟨?_, ?_⟩
 all_goals
  have hB := hW.lt
  obtain ⟨h0, h1, h2⟩ := hW.reg (d := 1) (by decide)
  simp only [Nat.reduceMul, Nat.reduceAdd] at h0 h1 h2
 all_goals
  go_enter Tryz.func106, Tryz.ntmps106
  go_wp2_with (first
   | (go_at_call 103; go_must (refine (z3f _ _ _ _).mono ?_; rintro e w1 ⟨rfl, hb1⟩; rw [HW.out]; have hW1 : z04 w1 B p y := hW.later hb1; have hB1 := hW1.lt))
   | fail)
  go_ret
  exact ⟨rfl, hb1⟩
def zOo := fun B p y E HW hE w hW => (@zGu B p y E HW hE w hW).1
def zOn := fun B p y E HW hE w hW => (@zGu B p y E HW hE w hW).2
theorem zLx (B : Nat) (p : Int) (y : Way) (HW : Hid (z0w ⟨(y.reg 1).k, (y.reg 1).l, (y.reg 1).h⟩ = 0)) (w : World) (hW : z04 w B p y) :
  Calls tP 106 #[pT (some ⟨B, 0, none⟩), A D 1] w fun e w' => e = rT (A D 0) /\ Kept B w w' /\ z04 w' B p (y.lose.putReg 0 ⟨5, 0, 0⟩) := by
 have hB := hW.lt
 obtain ⟨h0, h1, h2⟩ := hW.reg (d := 1) (by decide)
 simp only [Nat.reduceMul, Nat.reduceAdd] at h0 h1 h2
 go_enter Tryz.func106, Tryz.ntmps106
 go_wp2_with (first
  | (go_at_call 103; go_must (refine (z3f _ _ _ _).mono ?_; rintro e w1 ⟨rfl, hb1⟩; rw [HW.out]; have hW1 : z04 w1 B p y := hW.later hb1; have hB1 := hW1.lt))
  | fail)
 obtain ⟨wc, hc, hkc, hmc⟩ := z8b hW1
 rw [hc]
 clear hc
 have hBc := hmc.lt
 obtain ⟨i0, i1, i2⟩ := hmc.reg (d := 0) (by decide)
 simp only [Nat.reduceMul, Nat.reduceAdd] at i0 i1 i2
 have f0 := hmc.frozen 1
 have f1 := hmc.frozen 2
 have f2 := hmc.frozen 3
 go_wp2_with fail
 go_ret
 have HK : Kept B w wc := z1t (z0e hb1 B) hkc
 exact ⟨rfl, (by repeat' first | with_reducible (first | exact HK | refine z1c ?_ | refine kept_set ?_ _ _ | refine z17 ?_ _ _ ?_ | refine z0j ?_ _) | ((try dsimp only); omega) | (simp; omega)), hmc.put0 5 0 0⟩
theorem zLw (B : Nat) (p : Int) (y : Way) (w : World) (hW : z04 w B p y) :
  Calls tP 106 #[pT (some ⟨B, 0, none⟩), A D 2] w fun e w' => e = rT (A D 0) /\ Kept B w w' /\ z04 w' B p (y.lose.putReg 0 ⟨1, (-9223372036854775808), 9223372036854775807⟩) := by
 have hB := hW.lt
 go_enter Tryz.func106, Tryz.ntmps106
 go_wp2_with fail
 obtain ⟨wc, hc, hkc, hmc⟩ := z8b hW
 rw [hc]
 clear hc
 have hBc := hmc.lt
 go_wp2_with fail
 refine z0l (C := Blk wc [(B, cT (z05 p y.lose) 205 (0, 0))]) (n0 := wc.heap.size) 6 [] [] (by kernel_rfl) (by kernel_rfl) (fun d _ _ _ _ h => by cases d <;> exact h) (Blk.stable _ _) (Blk.room0 _ _) (((Blk.nil (bF _ _)).cons hmc).drew) trivial ?_
 simp only [lQ, lX, lY, lZ, lJ, Nat.reduceAdd]
 repeat (first
  | (refine z0i (by rfl) ?_; simp only [Act.put, siA, scZ, scS])
  | (refine z0a (by rfl) (v := ?_) ?_ ?_; rotate_left; (intro w2 hC; have yW : z04 _ B _ _ := (hC.2 _ mcS); have ylt := yW.lt; go_simp; try with_reducible rfl); simp only [Act.put, siA, scZ, scS])
  | (refine z0v (by rfl) ?_; apply Exists.intro; refine ⟨fun w2 hC => ?_, ?_⟩; (have yW : z04 _ B _ _ := (hC.2 _ mcS); have ylt := yW.lt; go_simp; apply z16; first | (go_at_call 141; exact z2v w2) | (go_at_call 140; exact z1g _ _ w2)); simp only [Act.put, siA, scZ, scS]))
 refine z0r ?_
 intro w5 hC hB5
 have yW : z04 _ B _ _ := (hC.2 _ mcS); have ylt := yW.lt
 obtain ⟨i0, i1, i2⟩ := yW.reg (d := 0) (by decide)
 simp only [Nat.reduceMul, Nat.reduceAdd] at i0 i1 i2
 have f0 := yW.frozen 1
 have f1 := yW.frozen 2
 have f2 := yW.frozen 3
 simp only [Kno.v, z1d]
 go_wp2_with fail
 go_ret
 have HK : Kept B w w5 := z1w (hkc) hC.1
 exact ⟨rfl, (by repeat' first | with_reducible (first | exact HK | refine z1c ?_ | refine kept_set ?_ _ _ | refine z17 ?_ _ _ ?_ | refine z0j ?_ _) | ((try dsimp only); omega) | (simp; omega)), yW.put0 1 (-9223372036854775808) 9223372036854775807⟩
theorem zLy (B : Nat) (p : Int) (y : Way) (HW : Hid (z0w ⟨(y.reg 1).k, (y.reg 1).l, (y.reg 1).h⟩ = 0)) (w : World) (hW : z04 w B p y) :
  Calls tP 106 #[pT (some ⟨B, 0, none⟩), A D 3] w fun e w' => e = rT (A D 0) /\ Kept B w w' /\ z04 w' B p (y.lose.putReg 0 ⟨1, 0, 0⟩) := by
 have hB := hW.lt
 obtain ⟨h0, h1, h2⟩ := hW.reg (d := 1) (by decide)
 simp only [Nat.reduceMul, Nat.reduceAdd] at h0 h1 h2
 go_enter Tryz.func106, Tryz.ntmps106
 go_wp2_with (first
  | (go_at_call 103; go_must (refine (z3f _ _ _ _).mono ?_; rintro e w1 ⟨rfl, hb1⟩; rw [HW.out]; have hW1 : z04 w1 B p y := hW.later hb1; have hB1 := hW1.lt))
  | fail)
 obtain ⟨wc, hc, hkc, hmc⟩ := z8b hW1
 rw [hc]
 clear hc
 have hBc := hmc.lt
 go_wp2_with fail
 refine z0l (C := Blk wc [(B, cT (z05 p y.lose) 205 (0, 0))]) (n0 := wc.heap.size) 6 [] [] (by kernel_rfl) (by kernel_rfl) (fun d _ _ _ _ h => by cases d <;> exact h) (Blk.stable _ _) (Blk.room0 _ _) (((Blk.nil (bF _ _)).cons hmc).drew) trivial ?_
 simp only [lQ, lX, lY, lZ, lJ, Nat.reduceAdd]
 repeat (first
  | (refine z0i (by rfl) ?_; simp only [Act.put, siA, scZ, scS])
  | (refine z0a (by rfl) (v := ?_) ?_ ?_; rotate_left; (intro w2 hC; have yW : z04 _ B _ _ := (hC.2 _ mcS); have ylt := yW.lt; go_simp; try with_reducible rfl); simp only [Act.put, siA, scZ, scS])
  | (refine z0v (by rfl) ?_; apply Exists.intro; refine ⟨fun w2 hC => ?_, ?_⟩; (have yW : z04 _ B _ _ := (hC.2 _ mcS); have ylt := yW.lt; go_simp; apply z16; first | (go_at_call 100; exact z2p _ w2) | (go_at_call 140; exact z1g _ _ w2)); simp only [Act.put, siA, scZ, scS]))
 refine z0r ?_
 intro w5 hC hB5
 have yW : z04 _ B _ _ := (hC.2 _ mcS); have ylt := yW.lt
 obtain ⟨i0, i1, i2⟩ := yW.reg (d := 0) (by decide)
 simp only [Nat.reduceMul, Nat.reduceAdd] at i0 i1 i2
 have f0 := yW.frozen 1
 have f1 := yW.frozen 2
 have f2 := yW.frozen 3
 simp only [Kno.v, z1d]
 go_wp2_with fail
 go_ret
 have HK : Kept B w w5 := z1w ((z1t (z0e hb1 B) hkc)) hC.1
 exact ⟨rfl, (by repeat' first | with_reducible (first | exact HK | refine z1c ?_ | refine kept_set ?_ _ _ | refine z17 ?_ _ _ ?_ | refine z0j ?_ _) | ((try dsimp only); omega) | (simp; omega)), yW.put0 1 0 0⟩
theorem zOp {B : Nat} {p what : Int} {y : Way} (hw : what = 1 \/ what = 2 \/ what = 3) {w : World} (hW : z04 w B p y) :
  Calls tP 106 #[pT (some ⟨B, 0, none⟩), A D what] w fun e w' => e = rT (A D (y.call what).1) /\ Kept B w w' /\ z04 w' B p (y.call what).2 := by
 have mv : ∀ {E : Int} {e : Ending} {w' : World}, (e = rT (A D E) /\ Below w.heap.size w w') -> e = rT (A D E) /\ Kept B w w' /\ z04 w' B p y := fun h => ⟨h.1, z0e h.2 B, hW.later h.2⟩
 unfold Way.call
 rcases hw with rfl | rfl | rfl
 ·by_cases h : z0w (y.reg 1) = 0
  ·rw [if_neg (fun e => e.2 h), if_pos rfl]; exact zLx B p y h w hW
  ·rw [if_pos ⟨Or.inl rfl, h⟩]; exact (zOo B p y _ rfl (by simpa using h) w hW).mono fun _ _ h => mv h
 ·rw [if_neg (by intro e; omega), if_neg (by decide), if_pos rfl]; exact zLw B p y w hW
 ·by_cases h : z0w (y.reg 1) = 0
  ·rw [if_neg (fun e => e.2 h), if_neg (by decide), if_neg (by decide)]; exact zLy B p y h w hW
  ·rw [if_pos ⟨Or.inr rfl, h⟩]; exact (zOn B p y _ rfl (by simpa using h) w hW).mono fun _ _ h => mv h
end
section
attribute [local simp] z00 z0d z07
theorem nar_17 (al ah bl bh : Int) (pal : -9223372036854775808 <= al) (qal : al <= 9223372036854775807) (pah : -9223372036854775808 <= ah) (qah : ah <= 9223372036854775807) (pbl : -9223372036854775808 <= bl) (qbl : bl <= 9223372036854775807) (pbh : -9223372036854775808 <= bh) (qbh : bh <= 9223372036854775807) (oa : al <= ah) (ob : bl <= bh) (w : World) : Calls tP 195 #[A D 17, .agg #[A D al, A D ah], .agg #[A D bl, A D bh]] w fun e w' => e = rT (.tuple #[.agg #[A D (((unsV 1 bl bh al ah).2.1).1), A D (((unsV 1 bl bh al ah).2.1).2)], .agg #[A D (((unsV 1 bl bh al ah).1).1), A D (((unsV 1 bl bh al ah).1).2)], .bool ((unsV 1 bl bh al ah).2.2)]) /\ Below w.heap.size w w' := by
 go_enter Tryz.func195, Tryz.ntmps195
 go_wp2_with fail
 go_cut [11, 12, 13] (fun s11 s12 s13 wx => ∃ L U : Nat, s11 = pT (some ⟨L, 0, none⟩) /\ s12 = pT (some ⟨U, 0, none⟩) /\ s13 = .bool (unsV 1 bl bh al ah).2.2 /\ Below w.heap.size w wx /\ Outs w.heap.size L U (unsV 1 bl bh al ah).1.1 (unsV 1 bl bh al ah).1.2 (unsV 1 bl bh al ah).2.1.1 (unsV 1 bl bh al ah).2.1.2 wx)
 case first =>
  go_region_held3 (fun w' => w'.cell? ⟨w.heap.size, 0, none⟩ = some (A D al) /\ w'.cell? ⟨w.heap.size, 1, none⟩ = some (A D ah) /\ w'.cell? ⟨w.heap.size + 1, 0, none⟩ = some (A D bl) /\ w'.cell? ⟨w.heap.size + 1, 1, none⟩ = some (A D bh)) (first | (simp [go_sem]; done) | (simp [go_sem, *]; done) | go_keep) (first | (go_at_call 217; refine (zOv _).mono ?_; rintro e w' ⟨rfl, rfl⟩) | (go_at_call 216; go_must (refine (zLb _ _ _ _ pbl qbl pbh qbh pal qal pah qah ob oa _).mono ?_; rintro e w1 ⟨rfl, hb1⟩; have hX1 : Quad w.heap.size al ah bl bh w1 := Quad.later (by first | exact hX1 | (refine ⟨?_, ?_, ?_, ?_, ?_, ?_, ?_, ?_, ?_, ?_, ?_, ?_, ?_, ?_, ?_, ?_, ?_⟩ <;> simp [go_sem])) hb1; have hbw1 : Below w.heap.size w w1 := (by ((refine Below.trans ?_ (hb1.mono ?_)) <;> repeat' first | exact bF _ _ | exact hbw1 | refine bA ?_ ?_ _ | refine bS ?_ ?_ _ | refine bD ?_ | refine below_drewN ?_ _ | (simp; done) | (simp; omega) | (simp [z00]; done) | (simp [z00]; omega) | omega)); have hY := hX1; obtain ⟨t0, a0, a1, af0, af1, b0, b1, bf0, bf1, r0, r1, rf0, rf1, s0, s1, sf0, sf1⟩ := hY; have u2 : w.heap.size + 1 + 1 < w1.heap.size := (by omega); have u0 : w.heap.size < w1.heap.size := (by omega); have u1 : w.heap.size + 1 < w1.heap.size := (by omega); have v4 := z2j hb1 (w.heap.size + 1 + 1 + 1 + 1); have v5 := z2j hb1 (w.heap.size + 1 + 1 + 1 + 1 + 1); (try simp [go_sem] at v4); (try simp [go_sem] at v5))))
  all_goals (go_wp2_with fail; go_meet)
  all_goals exact ⟨_, _, rfl, rfl, rfl, by repeat' first | exact bF _ _ | exact hbw1 | refine bA ?_ ?_ _ | refine bS ?_ ?_ _ | refine bD ?_ | refine below_drewN ?_ _ | (simp; done) | (simp; omega) | (simp [z00]; done) | (simp [z00]; omega) | omega, by refine ⟨?_, ?_, ?_, ?_, ?_, ?_, ?_, ?_, ?_, ?_, ?_, ?_, ?_, ?_, ?_, ?_⟩ <;> first | (simp [go_sem, *]; done) | omega | (simp; omega)⟩
 case rest =>
 obtain ⟨L, U, rfl, rfl, rfl, hbw, r0, r1, rf0, rf1, s0, s1, sf0, sf1, l0, l1, m0, m1, n0, n1, n2, n3⟩ := hcut
 go_wp2_with fail
 all_goals go_region
 all_goals go_wp2
 all_goals exact bodyPost_ret (v := .tuple #[.agg #[A D (((unsV 1 bl bh al ah).2.1).1), A D (((unsV 1 bl bh al ah).2.1).2)], .agg #[A D (((unsV 1 bl bh al ah).1).1), A D (((unsV 1 bl bh al ah).1).2)], .bool ((unsV 1 bl bh al ah).2.2)]) (by simp [results, Tryz.results195, go_sem, r0, r1, s0, s1]) rfl ⟨rfl, by repeat' first | exact bF _ _ | exact hbw | refine bA ?_ ?_ _ | refine bS ?_ ?_ _ | refine bD ?_ | refine below_drewN ?_ _ | (simp; done) | (simp; omega) | (simp [z00]; done) | (simp [z00]; omega) | omega⟩
end
section
attribute [local simp] z00 z0d z07
theorem nar_18 (al ah bl bh : Int) (pal : -9223372036854775808 <= al) (qal : al <= 9223372036854775807) (pah : -9223372036854775808 <= ah) (qah : ah <= 9223372036854775807) (pbl : -9223372036854775808 <= bl) (qbl : bl <= 9223372036854775807) (pbh : -9223372036854775808 <= bh) (qbh : bh <= 9223372036854775807) (oa : al <= ah) (ob : bl <= bh) (w : World) : Calls tP 195 #[A D 18, .agg #[A D al, A D ah], .agg #[A D bl, A D bh]] w fun e w' => e = rT (.tuple #[.agg #[A D (((unsV 0 bl bh al ah).2.1).1), A D (((unsV 0 bl bh al ah).2.1).2)], .agg #[A D (((unsV 0 bl bh al ah).1).1), A D (((unsV 0 bl bh al ah).1).2)], .bool ((unsV 0 bl bh al ah).2.2)]) /\ Below w.heap.size w w' := by
 go_enter Tryz.func195, Tryz.ntmps195
 go_wp2_with fail
 go_cut [11, 12, 13] (fun s11 s12 s13 wx => ∃ L U : Nat, s11 = pT (some ⟨L, 0, none⟩) /\ s12 = pT (some ⟨U, 0, none⟩) /\ s13 = .bool (unsV 0 bl bh al ah).2.2 /\ Below w.heap.size w wx /\ Outs w.heap.size L U (unsV 0 bl bh al ah).1.1 (unsV 0 bl bh al ah).1.2 (unsV 0 bl bh al ah).2.1.1 (unsV 0 bl bh al ah).2.1.2 wx)
 case first =>
  go_region_held3 (fun w' => w'.cell? ⟨w.heap.size, 0, none⟩ = some (A D al) /\ w'.cell? ⟨w.heap.size, 1, none⟩ = some (A D ah) /\ w'.cell? ⟨w.heap.size + 1, 0, none⟩ = some (A D bl) /\ w'.cell? ⟨w.heap.size + 1, 1, none⟩ = some (A D bh)) (first | (simp [go_sem]; done) | (simp [go_sem, *]; done) | go_keep) (first | (go_at_call 217; refine (zOu _).mono ?_; rintro e w' ⟨rfl, rfl⟩) | (go_at_call 216; go_must (refine (zLa _ _ _ _ pbl qbl pbh qbh pal qal pah qah ob oa _).mono ?_; rintro e w1 ⟨rfl, hb1⟩; have hX1 : Quad w.heap.size al ah bl bh w1 := Quad.later (by first | exact hX1 | (refine ⟨?_, ?_, ?_, ?_, ?_, ?_, ?_, ?_, ?_, ?_, ?_, ?_, ?_, ?_, ?_, ?_, ?_⟩ <;> simp [go_sem])) hb1; have hbw1 : Below w.heap.size w w1 := (by ((refine Below.trans ?_ (hb1.mono ?_)) <;> repeat' first | exact bF _ _ | exact hbw1 | refine bA ?_ ?_ _ | refine bS ?_ ?_ _ | refine bD ?_ | refine below_drewN ?_ _ | (simp; done) | (simp; omega) | (simp [z00]; done) | (simp [z00]; omega) | omega)); have hY := hX1; obtain ⟨t0, a0, a1, af0, af1, b0, b1, bf0, bf1, r0, r1, rf0, rf1, s0, s1, sf0, sf1⟩ := hY; have u2 : w.heap.size + 1 + 1 < w1.heap.size := (by omega); have u0 : w.heap.size < w1.heap.size := (by omega); have u1 : w.heap.size + 1 < w1.heap.size := (by omega); have v4 := z2j hb1 (w.heap.size + 1 + 1 + 1 + 1); have v5 := z2j hb1 (w.heap.size + 1 + 1 + 1 + 1 + 1); (try simp [go_sem] at v4); (try simp [go_sem] at v5))))
  all_goals (go_wp2_with fail; go_meet)
  all_goals exact ⟨_, _, rfl, rfl, rfl, by repeat' first | exact bF _ _ | exact hbw1 | refine bA ?_ ?_ _ | refine bS ?_ ?_ _ | refine bD ?_ | refine below_drewN ?_ _ | (simp; done) | (simp; omega) | (simp [z00]; done) | (simp [z00]; omega) | omega, by refine ⟨?_, ?_, ?_, ?_, ?_, ?_, ?_, ?_, ?_, ?_, ?_, ?_, ?_, ?_, ?_, ?_⟩ <;> first | (simp [go_sem, *]; done) | omega | (simp; omega)⟩
 case rest =>
 obtain ⟨L, U, rfl, rfl, rfl, hbw, r0, r1, rf0, rf1, s0, s1, sf0, sf1, l0, l1, m0, m1, n0, n1, n2, n3⟩ := hcut
 go_wp2_with fail
 all_goals go_region
 all_goals go_wp2
 all_goals exact bodyPost_ret (v := .tuple #[.agg #[A D (((unsV 0 bl bh al ah).2.1).1), A D (((unsV 0 bl bh al ah).2.1).2)], .agg #[A D (((unsV 0 bl bh al ah).1).1), A D (((unsV 0 bl bh al ah).1).2)], .bool ((unsV 0 bl bh al ah).2.2)]) (by simp [results, Tryz.results195, go_sem, r0, r1, s0, s1]) rfl ⟨rfl, by repeat' first | exact bF _ _ | exact hbw | refine bA ?_ ?_ _ | refine bS ?_ ?_ _ | refine bD ?_ | refine below_drewN ?_ _ | (simp; done) | (simp; omega) | (simp [z00]; done) | (simp [z00]; omega) | omega⟩
end
end Go.Proofs.YtbimlalhodibjaaGreatDoor
