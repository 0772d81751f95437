/-
 What bound.Narrow returns at code 21, as a function on integers; the world below is as it was. Conditions: the ends are numbers of 64 bits, the low end not above the high one. What bound.Narrow returns at code 22, as a function on integers; the world below is as it was. Conditions: the ends are numbers of 64 bits, the low end not above the high one. What bound.Narrow and bound.Opposite return, by one contract each; the world below is as it was. Conditions: the ends are numbers of 64 bits, the low end not above the high one. What package verify's narrow does. Conditions: the ends are of 64 bits, in order. Ways in a row of memory, one behind the other; a list of one or two ways that is made. No conditions. What package verify's askPlace returns: which ways lead on from Jeq or Jne against 0, of a place, or of a MAYBE. Conditions: the steps are few.
-/
import Derived.Test.YtbimlalhodibjaaGreatDoorJf14
import Derived.Deep.DeepCutAuto
import Derived.Test.YtbimlalhodibjaaGreatDoorJf17
import Derived.Great.BuildSlice
set_option maxHeartbeats 40000000
open Go.Value renaming int → A
open Go.IntKind renaming i64 → D
open Go.RowKit.Below renaming alloc → bA, setCell → bS, drew → bD, refl → bF
set_option maxRecDepth 1000000
set_option linter.defProp false
set_option linter.unusedVariables false
set_option linter.unusedSimpArgs false
open Go.Ending renaming returned → rT
open Go.Value renaming pointer → pT
open Go.Obj renaming cells → cT
open Go.Proofs.Tryz renaming prog → tP
open List renaming take_succ_cons → lQ, take_zero → lX, drop_succ_cons → lY, drop_zero → lZ, length_nil → lJ, length_cons → lV
namespace Go.Proofs.YtbimlalhodibjaaGreatDoor
open Go.ChangeShapes Go.WideShapes Go.ChangeAt Go.RowKit
section
attribute [local simp] z00 z0d z07
theorem nar_21 (al ah bl bh : Int) (pal : -9223372036854775808 <= al) (qal : al <= 9223372036854775807) (pah : -9223372036854775808 <= ah) (qah : ah <= 9223372036854775807) (pbl : -9223372036854775808 <= bl) (qbl : bl <= 9223372036854775807) (pbh : -9223372036854775808 <= bh) (qbh : bh <= 9223372036854775807) (oa : al <= ah) (ob : bl <= bh) (w : World) : Calls tP 195 #[A D 21, .agg #[A D al, A D ah], .agg #[A D bl, A D bh]] w fun e w' => e = rT (.tuple #[.agg #[A D (((belV 1 bl bh al ah).2.1).1), A D (((belV 1 bl bh al ah).2.1).2)], .agg #[A D (((belV 1 bl bh al ah).1).1), A D (((belV 1 bl bh al ah).1).2)], .bool ((belV 1 bl bh al ah).2.2)]) /\ Below w.heap.size w w' := by
 go_enter Tryz.func195, Tryz.ntmps195
 go_wp2_with fail
 go_cut [11, 12, 13] (fun s11 s12 s13 wx => ∃ L U : Nat, s11 = pT (some ⟨L, 0, none⟩) /\ s12 = pT (some ⟨U, 0, none⟩) /\ s13 = .bool (belV 1 bl bh al ah).2.2 /\ Below w.heap.size w wx /\ Outs w.heap.size L U (belV 1 bl bh al ah).1.1 (belV 1 bl bh al ah).1.2 (belV 1 bl bh al ah).2.1.1 (belV 1 bl bh al ah).2.1.2 wx)
 case first =>
  go_region_held3 (fun w' => w'.cell? ⟨w.heap.size, 0, none⟩ = some (A D al) /\ w'.cell? ⟨w.heap.size, 1, none⟩ = some (A D ah) /\ w'.cell? ⟨w.heap.size + 1, 0, none⟩ = some (A D bl) /\ w'.cell? ⟨w.heap.size + 1, 1, none⟩ = some (A D bh)) (first | (simp [go_sem]; done) | (simp [go_sem, *]; done) | go_keep) (first | (go_at_call 217; refine (zOt _).mono ?_; rintro e w' ⟨rfl, rfl⟩) | (go_at_call 216; go_must (refine (zL9 _ _ _ _ pbl qbl pbh qbh pal qal pah qah ob oa _).mono ?_; rintro e w1 ⟨rfl, hb1⟩; have hX1 : Quad w.heap.size al ah bl bh w1 := Quad.later (by first | exact hX1 | (refine ⟨?_, ?_, ?_, ?_, ?_, ?_, ?_, ?_, ?_, ?_, ?_, ?_, ?_, ?_, ?_, ?_, ?_⟩ <;> simp [go_sem])) hb1; have hbw1 : Below w.heap.size w w1 := (by ((refine Below.trans ?_ (hb1.mono ?_)) <;> repeat' first | exact bF _ _ | exact hbw1 | refine bA ?_ ?_ _ | refine bS ?_ ?_ _ | refine bD ?_ | refine below_drewN ?_ _ | (simp; done) | (simp; omega) | (simp [z00]; done) | (simp [z00]; omega) | omega)); have hY := hX1; obtain ⟨t0, a0, a1, af0, af1, b0, b1, bf0, bf1, r0, r1, rf0, rf1, s0, s1, sf0, sf1⟩ := hY; have u2 : w.heap.size + 1 + 1 < w1.heap.size := (by omega); have u0 : w.heap.size < w1.heap.size := (by omega); have u1 : w.heap.size + 1 < w1.heap.size := (by omega); have v4 := z2j hb1 (w.heap.size + 1 + 1 + 1 + 1); have v5 := z2j hb1 (w.heap.size + 1 + 1 + 1 + 1 + 1); (try simp [go_sem] at v4); (try simp [go_sem] at v5))))
  all_goals (go_wp2_with fail; go_meet)
  all_goals exact ⟨_, _, rfl, rfl, rfl, by repeat' first | exact bF _ _ | exact hbw1 | refine bA ?_ ?_ _ | refine bS ?_ ?_ _ | refine bD ?_ | refine below_drewN ?_ _ | (simp; done) | (simp; omega) | (simp [z00]; done) | (simp [z00]; omega) | omega, by refine ⟨?_, ?_, ?_, ?_, ?_, ?_, ?_, ?_, ?_, ?_, ?_, ?_, ?_, ?_, ?_, ?_⟩ <;> first | (simp [go_sem, *]; done) | omega | (simp; omega)⟩
 case rest =>
 obtain ⟨L, U, rfl, rfl, rfl, hbw, r0, r1, rf0, rf1, s0, s1, sf0, sf1, l0, l1, m0, m1, n0, n1, n2, n3⟩ := hcut
 go_wp2_with fail
 all_goals go_region
 all_goals go_wp2
 all_goals exact bodyPost_ret (v := .tuple #[.agg #[A D (((belV 1 bl bh al ah).2.1).1), A D (((belV 1 bl bh al ah).2.1).2)], .agg #[A D (((belV 1 bl bh al ah).1).1), A D (((belV 1 bl bh al ah).1).2)], .bool ((belV 1 bl bh al ah).2.2)]) (by simp [results, Tryz.results195, go_sem, r0, r1, s0, s1]) rfl ⟨rfl, by repeat' first | exact bF _ _ | exact hbw | refine bA ?_ ?_ _ | refine bS ?_ ?_ _ | refine bD ?_ | refine below_drewN ?_ _ | (simp; done) | (simp; omega) | (simp [z00]; done) | (simp [z00]; omega) | omega⟩
end
section
attribute [local simp] z00 z0d z07
theorem nar_22 (al ah bl bh : Int) (pal : -9223372036854775808 <= al) (qal : al <= 9223372036854775807) (pah : -9223372036854775808 <= ah) (qah : ah <= 9223372036854775807) (pbl : -9223372036854775808 <= bl) (qbl : bl <= 9223372036854775807) (pbh : -9223372036854775808 <= bh) (qbh : bh <= 9223372036854775807) (oa : al <= ah) (ob : bl <= bh) (w : World) : Calls tP 195 #[A D 22, .agg #[A D al, A D ah], .agg #[A D bl, A D bh]] w fun e w' => e = rT (.tuple #[.agg #[A D (((belV 0 bl bh al ah).2.1).1), A D (((belV 0 bl bh al ah).2.1).2)], .agg #[A D (((belV 0 bl bh al ah).1).1), A D (((belV 0 bl bh al ah).1).2)], .bool ((belV 0 bl bh al ah).2.2)]) /\ Below w.heap.size w w' := by
 go_enter Tryz.func195, Tryz.ntmps195
 go_wp2_with fail
 go_cut [11, 12, 13] (fun s11 s12 s13 wx => ∃ L U : Nat, s11 = pT (some ⟨L, 0, none⟩) /\ s12 = pT (some ⟨U, 0, none⟩) /\ s13 = .bool (belV 0 bl bh al ah).2.2 /\ Below w.heap.size w wx /\ Outs w.heap.size L U (belV 0 bl bh al ah).1.1 (belV 0 bl bh al ah).1.2 (belV 0 bl bh al ah).2.1.1 (belV 0 bl bh al ah).2.1.2 wx)
 case first =>
  go_region_held3 (fun w' => w'.cell? ⟨w.heap.size, 0, none⟩ = some (A D al) /\ w'.cell? ⟨w.heap.size, 1, none⟩ = some (A D ah) /\ w'.cell? ⟨w.heap.size + 1, 0, none⟩ = some (A D bl) /\ w'.cell? ⟨w.heap.size + 1, 1, none⟩ = some (A D bh)) (first | (simp [go_sem]; done) | (simp [go_sem, *]; done) | go_keep) (first | (go_at_call 217; refine (zOs _).mono ?_; rintro e w' ⟨rfl, rfl⟩) | (go_at_call 216; go_must (refine (zL8 _ _ _ _ pbl qbl pbh qbh pal qal pah qah ob oa _).mono ?_; rintro e w1 ⟨rfl, hb1⟩; have hX1 : Quad w.heap.size al ah bl bh w1 := Quad.later (by first | exact hX1 | (refine ⟨?_, ?_, ?_, ?_, ?_, ?_, ?_, ?_, ?_, ?_, ?_, ?_, ?_, ?_, ?_, ?_, ?_⟩ <;> simp [go_sem])) hb1; have hbw1 : Below w.heap.size w w1 := (by ((refine Below.trans ?_ (hb1.mono ?_)) <;> repeat' first | exact bF _ _ | exact hbw1 | refine bA ?_ ?_ _ | refine bS ?_ ?_ _ | refine bD ?_ | refine below_drewN ?_ _ | (simp; done) | (simp; omega) | (simp [z00]; done) | (simp [z00]; omega) | omega)); have hY := hX1; obtain ⟨t0, a0, a1, af0, af1, b0, b1, bf0, bf1, r0, r1, rf0, rf1, s0, s1, sf0, sf1⟩ := hY; have u2 : w.heap.size + 1 + 1 < w1.heap.size := (by omega); have u0 : w.heap.size < w1.heap.size := (by omega); have u1 : w.heap.size + 1 < w1.heap.size := (by omega); have v4 := z2j hb1 (w.heap.size + 1 + 1 + 1 + 1); have v5 := z2j hb1 (w.heap.size + 1 + 1 + 1 + 1 + 1); (try simp [go_sem] at v4); (try simp [go_sem] at v5))))
  all_goals (go_wp2_with fail; go_meet)
  all_goals exact ⟨_, _, rfl, rfl, rfl, by repeat' first | exact bF _ _ | exact hbw1 | refine bA ?_ ?_ _ | refine bS ?_ ?_ _ | refine bD ?_ | refine below_drewN ?_ _ | (simp; done) | (simp; omega) | (simp [z00]; done) | (simp [z00]; omega) | omega, by refine ⟨?_, ?_, ?_, ?_, ?_, ?_, ?_, ?_, ?_, ?_, ?_, ?_, ?_, ?_, ?_, ?_⟩ <;> first | (simp [go_sem, *]; done) | omega | (simp; omega)⟩
 case rest =>
 obtain ⟨L, U, rfl, rfl, rfl, hbw, r0, r1, rf0, rf1, s0, s1, sf0, sf1, l0, l1, m0, m1, n0, n1, n2, n3⟩ := hcut
 go_wp2_with fail
 all_goals go_region
 all_goals go_wp2
 all_goals exact bodyPost_ret (v := .tuple #[.agg #[A D (((belV 0 bl bh al ah).2.1).1), A D (((belV 0 bl bh al ah).2.1).2)], .agg #[A D (((belV 0 bl bh al ah).1).1), A D (((belV 0 bl bh al ah).1).2)], .bool ((belV 0 bl bh al ah).2.2)]) (by simp [results, Tryz.results195, go_sem, r0, r1, s0, s1]) rfl ⟨rfl, by repeat' first | exact bF _ _ | exact hbw | refine bA ?_ ?_ _ | refine bS ?_ ?_ _ | refine bD ?_ | refine below_drewN ?_ _ | (simp; done) | (simp; omega) | (simp [z00]; done) | (simp [z00]; omega) | omega⟩
end
theorem zPw (c al ah bl bh : Int) (pal : -9223372036854775808 <= al) (qal : al <= 9223372036854775807) (pah : -9223372036854775808 <= ah) (qah : ah <= 9223372036854775807) (pbl : -9223372036854775808 <= bl) (qbl : bl <= 9223372036854775807) (pbh : -9223372036854775808 <= bh) (qbh : bh <= 9223372036854775807) (oa : al <= ah) (ob : bl <= bh) (w : World) : Calls tP 195 #[A D c, .agg #[A D al, A D ah], .agg #[A D bl, A D bh]] w fun e w' => e = rT (.tuple #[.agg #[A D (((narV c al ah bl bh).1).1), A D (((narV c al ah bl bh).1).2)], .agg #[A D (((narV c al ah bl bh).2.1).1), A D (((narV c al ah bl bh).2.1).2)], .bool ((narV c al ah bl bh).2.2)]) /\ Below w.heap.size w w' := by
 by_cases hc : c < 15 \/ 24 < c
 ·rw [zWi al ah bl bh hc]
  exact nar_no c al ah bl bh hc w
 ·have e : c = 15 \/ c = 16 \/ c = 17 \/ c = 18 \/ c = 19 \/ c = 20 \/ c = 21 \/ c = 22 \/ c = 23 \/ c = 24 := by omega
  rcases e with rfl | rfl | rfl | rfl | rfl | rfl | rfl | rfl | rfl | rfl
  ·rw [zQ6]; exact nar_15 al ah bl bh pal qal pah qah pbl qbl pbh qbh oa ob w
  ·rw [zQ5]; exact nar_16 al ah bl bh pal qal pah qah pbl qbl pbh qbh oa ob w
  ·rw [zQ4]; exact nar_17 al ah bl bh pal qal pah qah pbl qbl pbh qbh oa ob w
  ·rw [zQ3]; exact nar_18 al ah bl bh pal qal pah qah pbl qbl pbh qbh oa ob w
  ·rw [zQ2]; exact nar_19 al ah bl bh pal qal pah qah pbl qbl pbh qbh oa ob w
  ·rw [zQ1]; exact nar_20 al ah bl bh pal qal pah qah pbl qbl pbh qbh oa ob w
  ·rw [zQ0]; exact nar_21 al ah bl bh pal qal pah qah pbl qbl pbh qbh oa ob w
  ·rw [zPz]; exact nar_22 al ah bl bh pal qal pah qah pbl qbl pbh qbh oa ob w
  ·rw [zPy]; exact nar_23 al ah bl bh pal qal pah qah pbl qbl pbh qbh oa ob w
  ·rw [zPx]; exact nar_24 al ah bl bh pal qal pah qah pbl qbl pbh qbh oa ob w
theorem opp_is (c : Int) (h : 15 <= c /\ c <= 24) (w : World) : Calls tP 176 #[A D c] w fun e w' => e = rT (A D (oppV c)) /\ w' = w := by
 have e : c = 15 \/ c = 16 \/ c = 17 \/ c = 18 \/ c = 19 \/ c = 20 \/ c = 21 \/ c = 22 \/ c = 23 \/ c = 24 := by omega
 rcases e with rfl | rfl | rfl | rfl | rfl | rfl | rfl | rfl | rfl | rfl
 ·exact opp_15 w
 ·exact opp_16 w
 ·exact opp_17 w
 ·exact opp_18 w
 ·exact opp_19 w
 ·exact opp_20 w
 ·exact opp_21 w
 ·exact opp_22 w
 ·exact opp_23 w
 ·exact opp_24 w
section
attribute [local simp] z00 z0d z07
theorem z7a (k l h : Int) (w : World) : (Instr.field 201 (.agg #[A D k, A D l, A D h]) 1).run tP w = .ok (.agg #[A D l, A D h]) w := by kernel_rfl
theorem zLl (B d s : Nat) (c o n p code : Int) (r : Bool) (y : Way) (hd : d < 11) (hs : s < 11) (bk bl bh : Int) (HB : Hid (y.second s r n = ⟨bk, bl, bh⟩)) (x0 x1 y0 y1 : Int) (HN : Hid (∀ W : World, Calls tP 195 #[A D code, .agg #[A D (y.reg d).l, A D (y.reg d).h], .agg #[A D bl, A D bh]] W fun e w' => e = rT (.tuple #[.agg #[A D x0, A D x1], .agg #[A D y0, A D y1], .bool false]) /\ Below W.heap.size W w')) (w : World) (hW : z04 w B p y) :
  Calls tP 175 #[pT (some ⟨B, 0, none⟩), .agg #[A D c, A D d, A D s, .bool r, A D o, A D n], A D code] w fun e w' => e = rT (.bool false) /\ Below w.heap.size w w' := by
 have hK0 : Blk w [(w.heap.size, cT #[A D c, A D d, A D s, .bool r, A D o, A D n] 80 (0, 0)), (B, cT (z05 p y) 205 (0, 0))] _ := ((Blk.nil ((bF _ _).alloc (Nat.le_refl _) _)).cons (hW.alloc _)).cons (heap_alloc_new w (cT #[A D c, A D d, A D s, .bool r, A D o, A D n] 80))
 have hB := hW.lt
 have hs0 : (0 : Int) <= (s : Int) := by omega
 have hs1 : (s : Int) < 11 := by omega
 have hd0 : (0 : Int) <= (d : Int) := by omega
 have hd1 : (d : Int) < 11 := by omega
 have hfl := z7a bk bl bh
 go_enter Tryz.func175, Tryz.ntmps175
 go_wp2_with fail
 refine z0l (C := Blk w [(w.heap.size, cT #[A D c, A D d, A D s, .bool r, A D o, A D n] 80 (0, 0)), (B, cT (z05 p y) 205 (0, 0))]) (n0 := w.heap.size + 1) 18 [16, 17] [cT #[A D 0, A D 0] 122 (0, 0), cT #[A D 0, A D 0] 122 (0, 0)] (by kernel_rfl) (by kernel_rfl) (fun d _ _ _ _ h => by cases d <;> exact h) (Blk.stable _ _) (Blk.room w mcS) hK0.drew ⟨⟨rfl, fun a w2 hC => by go_simp; try rfl⟩, ⟨rfl, fun a w2 hC => by go_simp; try rfl⟩, trivial⟩ ?_
 simp only [lQ, lX, lY, lZ, lV, lJ, Nat.reduceAdd]
 repeat (first
  | (refine z0i (by rfl) ?_; simp only [Act.put, siA, scZ, scS])
  | (refine z0a (by rfl) (v := ?_) ?_ ?_; rotate_left; (intro w2 hC; obtain ⟨p0, p1, p2, p3, p4, p5, ltS⟩ := row6 (hC.2 _ mcS); have yW : z04 _ B _ _ := (hC.2 _ (mcO _ mcS)); have ylt := yW.lt; obtain ⟨i0, i1, i2⟩ := yW.reg hd; go_simp; try with_reducible rfl); simp only [Act.put, siA, scZ, scS])
  | (refine z0v (by rfl) ?_; apply Exists.intro; refine ⟨fun w2 hC => ?_, ?_⟩; (obtain ⟨p0, p1, p2, p3, p4, p5, ltS⟩ := row6 (hC.2 _ mcS); have yW : z04 _ B _ _ := (hC.2 _ (mcO _ mcS)); have ylt := yW.lt; obtain ⟨i0, i1, i2⟩ := yW.reg hd; go_simp; apply z16; first | (go_at_call 136; exact (by have hq := z2d B s c d o n r p y hs w2 yW; rw [HB.out] at hq; unfold Kno.v at hq; exact hq)) | (go_at_call 195; exact HN.out w2)); simp only [Act.put, siA, scZ, scS]))
 refine z0r ?_
 intro L h5 g5 K h6 g6 w3 hC hB3
 have hne : K ≠ L := (FB.upd_none h6).1
 have hne' : L ≠ K := fun e => hne e.symm
 have bK := hB3 K _ (FB.at_new _ _ _)
 have bL := hB3 L _ (FB.at_old hne' (FB.at_new _ _ _))
 obtain ⟨l0, l1, lf0, lf1, llt⟩ := row2 bL
 obtain ⟨k0, k1, kf0, kf1, klt⟩ := row2 bK
 obtain ⟨p0, p1, p2, p3, p4, p5, ltS⟩ := row6 (hC.2 _ mcS); have yW : z04 _ B _ _ := (hC.2 _ (mcO _ mcS)); have ylt := yW.lt; obtain ⟨i0, i1, i2⟩ := yW.reg hd
 have hbw := hC.1
 have n1 : w.heap.size ≠ L := by omega
 have n2 : B ≠ L := by omega
 have n3 : w.heap.size ≠ K := by omega
 have n4 : B ≠ K := by omega
 simp only [z5f]
 go_wp2_with fail
 go_ret
 exact ⟨rfl, (by repeat' first | with_reducible (first | exact hbw | exact bF _ _ | refine bA ?_ ?_ _ | refine bS ?_ ?_ _ | refine bD ?_ | refine z06 ?_ ?_ _) | ((try dsimp only); omega) | (simp; done) | (simp; omega))⟩
theorem zFc (B d : Nat) (c o n p code : Int) (y : Way) (hd : d < 11) (bk bl bh : Int) (HB : Hid (y.second d true n = ⟨bk, bl, bh⟩)) (x0 x1 y0 y1 : Int) (HN : Hid (∀ W : World, Calls tP 195 #[A D code, .agg #[A D (y.reg d).l, A D (y.reg d).h], .agg #[A D bl, A D bh]] W fun e w' => e = rT (.tuple #[.agg #[A D x0, A D x1], .agg #[A D y0, A D y1], .bool true]) /\ Below W.heap.size W w')) (w : World) (hW : z04 w B p y) :
  Calls tP 175 #[pT (some ⟨B, 0, none⟩), .agg #[A D c, A D d, A D d, .bool true, A D o, A D n], A D code] w fun e w' => e = rT (.bool true) /\ Below w.heap.size w w' := by
 have hK0 : Blk w [(w.heap.size, cT #[A D c, A D d, A D d, .bool true, A D o, A D n] 80 (0, 0)), (B, cT (z05 p y) 205 (0, 0))] _ := ((Blk.nil ((bF _ _).alloc (Nat.le_refl _) _)).cons (hW.alloc _)).cons (heap_alloc_new w (cT #[A D c, A D d, A D d, .bool true, A D o, A D n] 80))
 have hB := hW.lt
 have hd0 : (0 : Int) <= (d : Int) := by omega
 have hd1 : (d : Int) < 11 := by omega
 have hfl := z7a bk bl bh
 go_enter Tryz.func175, Tryz.ntmps175
 go_wp2_with fail
 refine z0l (C := Blk w [(w.heap.size, cT #[A D c, A D d, A D d, .bool true, A D o, A D n] 80 (0, 0)), (B, cT (z05 p y) 205 (0, 0))]) (n0 := w.heap.size + 1) 18 [16, 17] [cT #[A D 0, A D 0] 122 (0, 0), cT #[A D 0, A D 0] 122 (0, 0)] (by kernel_rfl) (by kernel_rfl) (fun d _ _ _ _ h => by cases d <;> exact h) (Blk.stable _ _) (Blk.room w mcS) hK0.drew ⟨⟨rfl, fun a w2 hC => by go_simp; try rfl⟩, ⟨rfl, fun a w2 hC => by go_simp; try rfl⟩, trivial⟩ ?_
 simp only [lQ, lX, lY, lZ, lV, lJ, Nat.reduceAdd]
 repeat (first
  | (refine z0i (by rfl) ?_; simp only [Act.put, siA, scZ, scS])
  | (refine z0a (by rfl) (v := ?_) ?_ ?_; rotate_left; (intro w2 hC; obtain ⟨p0, p1, p2, p3, p4, p5, ltS⟩ := row6 (hC.2 _ mcS); have yW : z04 _ B _ _ := (hC.2 _ (mcO _ mcS)); have ylt := yW.lt; obtain ⟨i0, i1, i2⟩ := yW.reg hd; go_simp; try with_reducible rfl); simp only [Act.put, siA, scZ, scS])
  | (refine z0v (by rfl) ?_; apply Exists.intro; refine ⟨fun w2 hC => ?_, ?_⟩; (obtain ⟨p0, p1, p2, p3, p4, p5, ltS⟩ := row6 (hC.2 _ mcS); have yW : z04 _ B _ _ := (hC.2 _ (mcO _ mcS)); have ylt := yW.lt; obtain ⟨i0, i1, i2⟩ := yW.reg hd; go_simp; apply z16; first | (go_at_call 136; exact (by have hq := z2d B d c d o n true p y hd w2 yW; rw [HB.out] at hq; unfold Kno.v at hq; exact hq)) | (go_at_call 195; exact HN.out w2)); simp only [Act.put, siA, scZ, scS]))
 refine z0r ?_
 intro L h5 g5 K h6 g6 w3 hC hB3
 have hne : K ≠ L := (FB.upd_none h6).1
 have hne' : L ≠ K := fun e => hne e.symm
 have bK := hB3 K _ (FB.at_new _ _ _)
 have bL := hB3 L _ (FB.at_old hne' (FB.at_new _ _ _))
 obtain ⟨l0, l1, lf0, lf1, llt⟩ := row2 bL
 obtain ⟨k0, k1, kf0, kf1, klt⟩ := row2 bK
 obtain ⟨p0, p1, p2, p3, p4, p5, ltS⟩ := row6 (hC.2 _ mcS); have yW : z04 _ B _ _ := (hC.2 _ (mcO _ mcS)); have ylt := yW.lt; obtain ⟨i0, i1, i2⟩ := yW.reg hd
 have hbw := hC.1
 have n1 : w.heap.size ≠ L := by omega
 have n2 : B ≠ L := by omega
 have n3 : w.heap.size ≠ K := by omega
 have n4 : B ≠ K := by omega
 simp only [z5f]
 go_wp2_with fail
 go_ret
 exact ⟨rfl, (by repeat' first | with_reducible (first | exact hbw | exact bF _ _ | refine bA ?_ ?_ _ | refine bS ?_ ?_ _ | refine bD ?_ | refine z06 ?_ ?_ _) | ((try dsimp only); omega) | (simp; done) | (simp; omega))⟩
theorem zHt (B d s : Nat) (c o n p code : Int) (y : Way) (hd : d < 11) (hs : s < 11) (bk bl bh : Int) (HB : Hid (y.second s false n = ⟨bk, bl, bh⟩)) (x0 x1 y0 y1 : Int) (HN : Hid (∀ W : World, Calls tP 195 #[A D code, .agg #[A D (y.reg d).l, A D (y.reg d).h], .agg #[A D bl, A D bh]] W fun e w' => e = rT (.tuple #[.agg #[A D x0, A D x1], .agg #[A D y0, A D y1], .bool true]) /\ Below W.heap.size W w')) (w : World) (hW : z04 w B p y) :
  Calls tP 175 #[pT (some ⟨B, 0, none⟩), .agg #[A D c, A D d, A D s, .bool false, A D o, A D n], A D code] w fun e w' => e = rT (.bool true) /\ Kept B w w' /\ z04 w' B p (y.putReg d ⟨1, x0, x1⟩) := by
 have hK0 : Blk w [(w.heap.size, cT #[A D c, A D d, A D s, .bool false, A D o, A D n] 80 (0, 0)), (B, cT (z05 p y) 205 (0, 0))] _ := ((Blk.nil ((bF _ _).alloc (Nat.le_refl _) _)).cons (hW.alloc _)).cons (heap_alloc_new w (cT #[A D c, A D d, A D s, .bool false, A D o, A D n] 80))
 have hB := hW.lt
 have hs0 : (0 : Int) <= (s : Int) := by omega
 have hs1 : (s : Int) < 11 := by omega
 have hd0 : (0 : Int) <= (d : Int) := by omega
 have hd1 : (d : Int) < 11 := by omega
 have hfl := z7a bk bl bh
 go_enter Tryz.func175, Tryz.ntmps175
 go_wp2_with fail
 refine z0l (C := Blk w [(w.heap.size, cT #[A D c, A D d, A D s, .bool false, A D o, A D n] 80 (0, 0)), (B, cT (z05 p y) 205 (0, 0))]) (n0 := w.heap.size + 1) 18 [16, 17] [cT #[A D 0, A D 0] 122 (0, 0), cT #[A D 0, A D 0] 122 (0, 0)] (by kernel_rfl) (by kernel_rfl) (fun d _ _ _ _ h => by cases d <;> exact h) (Blk.stable _ _) (Blk.room w mcS) hK0.drew ⟨⟨rfl, fun a w2 hC => by go_simp; try rfl⟩, ⟨rfl, fun a w2 hC => by go_simp; try rfl⟩, trivial⟩ ?_
 simp only [lQ, lX, lY, lZ, lV, lJ, Nat.reduceAdd]
 repeat (first
  | (refine z0i (by rfl) ?_; simp only [Act.put, siA, scZ, scS])
  | (refine z0a (by rfl) (v := ?_) ?_ ?_; rotate_left; (intro w2 hC; obtain ⟨p0, p1, p2, p3, p4, p5, ltS⟩ := row6 (hC.2 _ mcS); have yW : z04 _ B _ _ := (hC.2 _ (mcO _ mcS)); have ylt := yW.lt; obtain ⟨i0, i1, i2⟩ := yW.reg hd; go_simp; try with_reducible rfl); simp only [Act.put, siA, scZ, scS])
  | (refine z0v (by rfl) ?_; apply Exists.intro; refine ⟨fun w2 hC => ?_, ?_⟩; (obtain ⟨p0, p1, p2, p3, p4, p5, ltS⟩ := row6 (hC.2 _ mcS); have yW : z04 _ B _ _ := (hC.2 _ (mcO _ mcS)); have ylt := yW.lt; obtain ⟨i0, i1, i2⟩ := yW.reg hd; go_simp; apply z16; first | (go_at_call 136; exact (by have hq := z2d B s c d o n false p y hs w2 yW; rw [HB.out] at hq; unfold Kno.v at hq; exact hq)) | (go_at_call 195; exact HN.out w2)); simp only [Act.put, siA, scZ, scS]))
 refine z0r ?_
 intro L h5 g5 K h6 g6 w3 hC hB3
 have hne : K ≠ L := (FB.upd_none h6).1
 have hne' : L ≠ K := fun e => hne e.symm
 have bK := hB3 K _ (FB.at_new _ _ _)
 have bL := hB3 L _ (FB.at_old hne' (FB.at_new _ _ _))
 obtain ⟨l0, l1, lf0, lf1, llt⟩ := row2 bL
 obtain ⟨k0, k1, kf0, kf1, klt⟩ := row2 bK
 obtain ⟨p0, p1, p2, p3, p4, p5, ltS⟩ := row6 (hC.2 _ mcS); have yW : z04 _ B _ _ := (hC.2 _ (mcO _ mcS)); have ylt := yW.lt; obtain ⟨i0, i1, i2⟩ := yW.reg hd
 have hbw := hC.1
 have n1 : w.heap.size ≠ L := by omega
 have n2 : B ≠ L := by omega
 have n3 : w.heap.size ≠ K := by omega
 have n4 : B ≠ K := by omega
 simp only [z5f]
 go_wp2_with fail
 have hK1 : Blk w [(L, cT #[A D x0, A D x1] 122 (0, 0)), (K, cT #[A D y0, A D y1] 122 (0, 0)), (B, cT (z05 p y) 205 (0, 0)), (w.heap.size, cT #[A D c, A D d, A D s, .bool false, A D o, A D n] 80 (0, 0))] _ := ((((Blk.nil (by repeat' first | with_reducible (first | exact hbw | exact bF _ _ | refine bA ?_ ?_ _ | refine bS ?_ ?_ _ | refine bD ?_ | refine z06 ?_ ?_ _) | ((try dsimp only); omega) | (simp; done) | (simp; omega))).cons (off2 (off2 (hC.2 _ mcS) n1) n3)).cons (off2 (off2 (hC.2 _ (mcO _ mcS)) n2) n4)).cons (put2 (off2 bK hne))).cons (off2 (put2 bL) hne')
 clear l0 l1 lf0 lf1 llt k0 k1 kf0 kf1 klt p0 p1 p2 p3 p4 p5 ltS yW ylt i0 i1 i2 hC hbw bL bK hB3
 refine z0l (C := Blk w [(L, cT #[A D x0, A D x1] 122 (0, 0)), (K, cT #[A D y0, A D y1] 122 (0, 0)), (B, cT (z05 p y) 205 (0, 0)), (w.heap.size, cT #[A D c, A D d, A D s, .bool false, A D o, A D n] 80 (0, 0))]) (n0 := w.heap.size) 8 [] [] (by kernel_rfl) (by kernel_rfl) (fun d _ _ _ _ h => by cases d <;> exact h) (Blk.stable _ _) (Blk.room0 _ _) hK1.drew trivial ?_
 simp only [lQ, lX, lY, lZ, lJ, Nat.reduceAdd]
 repeat (first
  | (refine z0i (by rfl) ?_; simp only [Act.put, siA, scZ, scS])
  | (refine z0a (by rfl) (v := ?_) ?_ ?_; rotate_left; (intro w2 hC; obtain ⟨l0, l1, lf0, lf1, llt⟩ := row2 (hC.2 _ mcS); obtain ⟨k0, k1, kf0, kf1, klt⟩ := row2 (hC.2 _ (mcO _ mcS)); have yW : z04 _ B _ _ := (hC.2 _ (mcO _ (mcO _ mcS))); have ylt := yW.lt; obtain ⟨i0, i1, i2⟩ := yW.reg hd; obtain ⟨p0, p1, p2, p3, p4, p5, ltS⟩ := row6 (hC.2 _ (mcO _ (mcO _ (mcO _ mcS)))); go_simp; try with_reducible rfl); simp only [Act.put, siA, scZ, scS])
  | (refine z0v (by rfl) ?_; apply Exists.intro; refine ⟨fun w2 hC => ?_, ?_⟩; (obtain ⟨l0, l1, lf0, lf1, llt⟩ := row2 (hC.2 _ mcS); obtain ⟨k0, k1, kf0, kf1, klt⟩ := row2 (hC.2 _ (mcO _ mcS)); have yW : z04 _ B _ _ := (hC.2 _ (mcO _ (mcO _ mcS))); have ylt := yW.lt; obtain ⟨i0, i1, i2⟩ := yW.reg hd; obtain ⟨p0, p1, p2, p3, p4, p5, ltS⟩ := row6 (hC.2 _ (mcO _ (mcO _ (mcO _ mcS)))); go_simp; apply z16; first | (go_at_call 140; exact (by have hq := z1g x0 x1 w2; unfold Kno.v z1d at hq; exact hq))); simp only [Act.put, siA, scZ, scS]))
 refine z0r ?_
 intro w5 hC hB5
 obtain ⟨l0, l1, lf0, lf1, llt⟩ := row2 (hC.2 _ mcS); obtain ⟨k0, k1, kf0, kf1, klt⟩ := row2 (hC.2 _ (mcO _ mcS)); have yW : z04 _ B _ _ := (hC.2 _ (mcO _ (mcO _ mcS))); have ylt := yW.lt; obtain ⟨i0, i1, i2⟩ := yW.reg hd; obtain ⟨p0, p1, p2, p3, p4, p5, ltS⟩ := row6 (hC.2 _ (mcO _ (mcO _ (mcO _ mcS))))
 have if0 := yW.frozen (1 + d * 3); have if1 := yW.frozen (1 + d * 3 + 1); have if2 := yW.frozen (1 + d * 3 + 2)
 have HK := z0e hC.1 B
 go_wp2_with fail
 go_ret
 exact ⟨rfl, (by repeat' first | with_reducible (first | exact HK | refine z1c ?_ | refine kept_set ?_ _ _ | refine z17 ?_ _ _ ?_ | refine z0j ?_ _) | ((try dsimp only); omega) | (simp; omega)), yW.reg3 hd 1 x0 x1⟩
theorem zHs (B d s : Nat) (c o n p code : Int) (y : Way) (hd : d < 11) (hs : s < 11) (bk bl bh : Int) (HB : Hid (y.second s true n = ⟨bk, bl, bh⟩)) (x0 x1 y0 y1 : Int) (HN : Hid (∀ W : World, Calls tP 195 #[A D code, .agg #[A D (y.reg d).l, A D (y.reg d).h], .agg #[A D bl, A D bh]] W fun e w' => e = rT (.tuple #[.agg #[A D x0, A D x1], .agg #[A D y0, A D y1], .bool true]) /\ Below W.heap.size W w')) (hsd : ¬ (s : Int) = (d : Int)) (hsd2 : ¬ s = d) (w : World) (hW : z04 w B p y) :
  Calls tP 175 #[pT (some ⟨B, 0, none⟩), .agg #[A D c, A D d, A D s, .bool true, A D o, A D n], A D code] w fun e w' => e = rT (.bool true) /\ Kept B w w' /\ z04 w' B p ((y.putReg d ⟨1, x0, x1⟩).putReg s ⟨1, y0, y1⟩) := by
 have hK0 : Blk w [(w.heap.size, cT #[A D c, A D d, A D s, .bool true, A D o, A D n] 80 (0, 0)), (B, cT (z05 p y) 205 (0, 0))] _ := ((Blk.nil ((bF _ _).alloc (Nat.le_refl _) _)).cons (hW.alloc _)).cons (heap_alloc_new w (cT #[A D c, A D d, A D s, .bool true, A D o, A D n] 80))
 have hB := hW.lt
 have hs0 : (0 : Int) <= (s : Int) := by omega
 have hs1 : (s : Int) < 11 := by omega
 have hd0 : (0 : Int) <= (d : Int) := by omega
 have hd1 : (d : Int) < 11 := by omega
 have hfl := z7a bk bl bh
 go_enter Tryz.func175, Tryz.ntmps175
 go_wp2_with fail
 refine z0l (C := Blk w [(w.heap.size, cT #[A D c, A D d, A D s, .bool true, A D o, A D n] 80 (0, 0)), (B, cT (z05 p y) 205 (0, 0))]) (n0 := w.heap.size + 1) 18 [16, 17] [cT #[A D 0, A D 0] 122 (0, 0), cT #[A D 0, A D 0] 122 (0, 0)] (by kernel_rfl) (by kernel_rfl) (fun d _ _ _ _ h => by cases d <;> exact h) (Blk.stable _ _) (Blk.room w mcS) hK0.drew ⟨⟨rfl, fun a w2 hC => by go_simp; try rfl⟩, ⟨rfl, fun a w2 hC => by go_simp; try rfl⟩, trivial⟩ ?_
 simp only [lQ, lX, lY, lZ, lV, lJ, Nat.reduceAdd]
 repeat (first
  | (refine z0i (by rfl) ?_; simp only [Act.put, siA, scZ, scS])
  | (refine z0a (by rfl) (v := ?_) ?_ ?_; rotate_left; (intro w2 hC; obtain ⟨p0, p1, p2, p3, p4, p5, ltS⟩ := row6 (hC.2 _ mcS); have yW : z04 _ B _ _ := (hC.2 _ (mcO _ mcS)); have ylt := yW.lt; obtain ⟨i0, i1, i2⟩ := yW.reg hd; go_simp; try with_reducible rfl); simp only [Act.put, siA, scZ, scS])
  | (refine z0v (by rfl) ?_; apply Exists.intro; refine ⟨fun w2 hC => ?_, ?_⟩; (obtain ⟨p0, p1, p2, p3, p4, p5, ltS⟩ := row6 (hC.2 _ mcS); have yW : z04 _ B _ _ := (hC.2 _ (mcO _ mcS)); have ylt := yW.lt; obtain ⟨i0, i1, i2⟩ := yW.reg hd; go_simp; apply z16; first | (go_at_call 136; exact (by have hq := z2d B s c d o n true p y hs w2 yW; rw [HB.out] at hq; unfold Kno.v at hq; exact hq)) | (go_at_call 195; exact HN.out w2)); simp only [Act.put, siA, scZ, scS]))
 refine z0r ?_
 intro L h5 g5 K h6 g6 w3 hC hB3
 have hne : K ≠ L := (FB.upd_none h6).1
 have hne' : L ≠ K := fun e => hne e.symm
 have bK := hB3 K _ (FB.at_new _ _ _)
 have bL := hB3 L _ (FB.at_old hne' (FB.at_new _ _ _))
 obtain ⟨l0, l1, lf0, lf1, llt⟩ := row2 bL
 obtain ⟨k0, k1, kf0, kf1, klt⟩ := row2 bK
 obtain ⟨p0, p1, p2, p3, p4, p5, ltS⟩ := row6 (hC.2 _ mcS); have yW : z04 _ B _ _ := (hC.2 _ (mcO _ mcS)); have ylt := yW.lt; obtain ⟨i0, i1, i2⟩ := yW.reg hd
 have hbw := hC.1
 have n1 : w.heap.size ≠ L := by omega
 have n2 : B ≠ L := by omega
 have n3 : w.heap.size ≠ K := by omega
 have n4 : B ≠ K := by omega
 simp only [z5f]
 go_wp2_with fail
 have hK1 : Blk w [(L, cT #[A D x0, A D x1] 122 (0, 0)), (K, cT #[A D y0, A D y1] 122 (0, 0)), (B, cT (z05 p y) 205 (0, 0)), (w.heap.size, cT #[A D c, A D d, A D s, .bool true, A D o, A D n] 80 (0, 0))] _ := ((((Blk.nil (by repeat' first | with_reducible (first | exact hbw | exact bF _ _ | refine bA ?_ ?_ _ | refine bS ?_ ?_ _ | refine bD ?_ | refine z06 ?_ ?_ _) | ((try dsimp only); omega) | (simp; done) | (simp; omega))).cons (off2 (off2 (hC.2 _ mcS) n1) n3)).cons (off2 (off2 (hC.2 _ (mcO _ mcS)) n2) n4)).cons (put2 (off2 bK hne))).cons (off2 (put2 bL) hne')
 clear l0 l1 lf0 lf1 llt k0 k1 kf0 kf1 klt p0 p1 p2 p3 p4 p5 ltS yW ylt i0 i1 i2 hC hbw bL bK hB3
 refine z0l (C := Blk w [(L, cT #[A D x0, A D x1] 122 (0, 0)), (K, cT #[A D y0, A D y1] 122 (0, 0)), (B, cT (z05 p y) 205 (0, 0)), (w.heap.size, cT #[A D c, A D d, A D s, .bool true, A D o, A D n] 80 (0, 0))]) (n0 := w.heap.size) 8 [] [] (by kernel_rfl) (by kernel_rfl) (fun d _ _ _ _ h => by cases d <;> exact h) (Blk.stable _ _) (Blk.room0 _ _) hK1.drew trivial ?_
 simp only [lQ, lX, lY, lZ, lJ, Nat.reduceAdd]
 repeat (first
  | (refine z0i (by rfl) ?_; simp only [Act.put, siA, scZ, scS])
  | (refine z0a (by rfl) (v := ?_) ?_ ?_; rotate_left; (intro w2 hC; obtain ⟨l0, l1, lf0, lf1, llt⟩ := row2 (hC.2 _ mcS); obtain ⟨k0, k1, kf0, kf1, klt⟩ := row2 (hC.2 _ (mcO _ mcS)); have yW : z04 _ B _ _ := (hC.2 _ (mcO _ (mcO _ mcS))); have ylt := yW.lt; obtain ⟨i0, i1, i2⟩ := yW.reg hd; obtain ⟨p0, p1, p2, p3, p4, p5, ltS⟩ := row6 (hC.2 _ (mcO _ (mcO _ (mcO _ mcS)))); go_simp; try with_reducible rfl); simp only [Act.put, siA, scZ, scS])
  | (refine z0v (by rfl) ?_; apply Exists.intro; refine ⟨fun w2 hC => ?_, ?_⟩; (obtain ⟨l0, l1, lf0, lf1, llt⟩ := row2 (hC.2 _ mcS); obtain ⟨k0, k1, kf0, kf1, klt⟩ := row2 (hC.2 _ (mcO _ mcS)); have yW : z04 _ B _ _ := (hC.2 _ (mcO _ (mcO _ mcS))); have ylt := yW.lt; obtain ⟨i0, i1, i2⟩ := yW.reg hd; obtain ⟨p0, p1, p2, p3, p4, p5, ltS⟩ := row6 (hC.2 _ (mcO _ (mcO _ (mcO _ mcS)))); go_simp; apply z16; first | (go_at_call 140; exact (by have hq := z1g x0 x1 w2; unfold Kno.v z1d at hq; exact hq))); simp only [Act.put, siA, scZ, scS]))
 refine z0r ?_
 intro w5 hC hB5
 obtain ⟨l0, l1, lf0, lf1, llt⟩ := row2 (hC.2 _ mcS); obtain ⟨k0, k1, kf0, kf1, klt⟩ := row2 (hC.2 _ (mcO _ mcS)); have yW : z04 _ B _ _ := (hC.2 _ (mcO _ (mcO _ mcS))); have ylt := yW.lt; obtain ⟨i0, i1, i2⟩ := yW.reg hd; obtain ⟨p0, p1, p2, p3, p4, p5, ltS⟩ := row6 (hC.2 _ (mcO _ (mcO _ (mcO _ mcS))))
 have if0 := yW.frozen (1 + d * 3); have if1 := yW.frozen (1 + d * 3 + 1); have if2 := yW.frozen (1 + d * 3 + 2)
 have HK := z0e hC.1 B
 go_wp2_with fail
 have hK6 : Blk (((w5.setCell ⟨B, 1 + d * 3, none⟩ (A D 1)).setCell ⟨B, 1 + d * 3 + 1, none⟩ (A D x0)).setCell ⟨B, 1 + d * 3 + 2, none⟩ (A D x1)) [(K, cT #[A D y0, A D y1] 122 (0, 0)), (B, cT (z05 p (y.putReg d ⟨1, x0, x1⟩)) 205 (0, 0)), (w.heap.size, cT #[A D c, A D d, A D s, .bool true, A D o, A D n] 80 (0, 0))] (((w5.setCell ⟨B, 1 + d * 3, none⟩ (A D 1)).setCell ⟨B, 1 + d * 3 + 1, none⟩ (A D x0)).setCell ⟨B, 1 + d * 3 + 2, none⟩ (A D x1)) := (((Blk.nil (bF _ _)).cons (off3 (hC.2 _ (mcO _ (mcO _ (mcO _ mcS)))) (by omega))).cons (yW.reg3 hd 1 x0 x1)).cons (off3 (hC.2 _ (mcO _ mcS)) (by omega))
 clear l0 l1 lf0 lf1 llt k0 k1 kf0 kf1 klt p0 p1 p2 p3 p4 p5 ltS yW ylt i0 i1 i2 if0 if1 if2 hB5 hC hK1
 refine z0l (C := Blk (((w5.setCell ⟨B, 1 + d * 3, none⟩ (A D 1)).setCell ⟨B, 1 + d * 3 + 1, none⟩ (A D x0)).setCell ⟨B, 1 + d * 3 + 2, none⟩ (A D x1)) [(K, cT #[A D y0, A D y1] 122 (0, 0)), (B, cT (z05 p (y.putReg d ⟨1, x0, x1⟩)) 205 (0, 0)), (w.heap.size, cT #[A D c, A D d, A D s, .bool true, A D o, A D n] 80 (0, 0))]) (n0 := (((w5.setCell ⟨B, 1 + d * 3, none⟩ (A D 1)).setCell ⟨B, 1 + d * 3 + 1, none⟩ (A D x0)).setCell ⟨B, 1 + d * 3 + 2, none⟩ (A D x1)).heap.size) 8 [] [] (by kernel_rfl) (by kernel_rfl) (fun d _ _ _ _ h => by cases d <;> exact h) (Blk.stable _ _) (Blk.room0 _ _) hK6.drew trivial ?_
 simp only [lQ, lX, lY, lZ, lJ, Nat.reduceAdd]
 repeat (first
  | (refine z0i (by rfl) ?_; simp only [Act.put, siA, scZ, scS])
  | (refine z0a (by rfl) (v := ?_) ?_ ?_; rotate_left; (intro w2 hC; obtain ⟨k0, k1, kf0, kf1, klt⟩ := row2 (hC.2 _ mcS); have yW : z04 _ B _ _ := (hC.2 _ (mcO _ mcS)); have ylt := yW.lt; obtain ⟨i0, i1, i2⟩ := yW.reg hs; obtain ⟨p0, p1, p2, p3, p4, p5, ltS⟩ := row6 (hC.2 _ (mcO _ (mcO _ mcS))); go_simp; try with_reducible rfl); simp only [Act.put, siA, scZ, scS])
  | (refine z0v (by rfl) ?_; apply Exists.intro; refine ⟨fun w2 hC => ?_, ?_⟩; (obtain ⟨k0, k1, kf0, kf1, klt⟩ := row2 (hC.2 _ mcS); have yW : z04 _ B _ _ := (hC.2 _ (mcO _ mcS)); have ylt := yW.lt; obtain ⟨i0, i1, i2⟩ := yW.reg hs; obtain ⟨p0, p1, p2, p3, p4, p5, ltS⟩ := row6 (hC.2 _ (mcO _ (mcO _ mcS))); go_simp; apply z16; first | (go_at_call 140; exact (by have hq := z1g y0 y1 w2; unfold Kno.v z1d at hq; exact hq))); simp only [Act.put, siA, scZ, scS]))
 refine z0r ?_
 intro w7 hC hB7
 obtain ⟨k0, k1, kf0, kf1, klt⟩ := row2 (hC.2 _ mcS); have yW : z04 _ B _ _ := (hC.2 _ (mcO _ mcS)); have ylt := yW.lt; obtain ⟨i0, i1, i2⟩ := yW.reg hs; obtain ⟨p0, p1, p2, p3, p4, p5, ltS⟩ := row6 (hC.2 _ (mcO _ (mcO _ mcS)))
 have if0 := yW.frozen (1 + s * 3); have if1 := yW.frozen (1 + s * 3 + 1); have if2 := yW.frozen (1 + s * 3 + 2)
 have HK6 := z1w (kept_set (kept_set (kept_set HK (1 + d * 3) (A D 1)) (1 + d * 3 + 1) (A D x0)) (1 + d * 3 + 2) (A D x1)) hC.1
 go_wp2_with fail
 go_ret
 exact ⟨rfl, (by repeat' first | with_reducible (first | exact HK6 | refine z1c ?_ | refine kept_set ?_ _ _ | refine z17 ?_ _ _ ?_ | refine z0j ?_ _) | ((try dsimp only); omega) | (simp; omega)), yW.reg3 hs 1 y0 y1⟩
theorem z9v {B d s : Nat} {c o n p code : Int} {r : Bool} {y : Way} (hd : d < 11) (hs : s < 11) (hy : y.Ok) (hn : In64 n) {w : World} (hW : z04 w B p y) :
  Calls tP 175 #[pT (some ⟨B, 0, none⟩), .agg #[A D c, A D d, A D s, .bool r, A D o, A D n], A D code] w fun e w' => e = rT (.bool (y.narrow code d s r n).1) /\ Kept B w w' /\ z04 w' B p (y.narrow code d s r n).2 := by
 have o1 := hy.reg d hd
 have o2 := z3j (r := r) (n := n) hy hs hn
 have mv : ∀ {E : Bool} {e : Ending} {w' : World}, (e = rT (.bool E) /\ Below w.heap.size w w') -> e = rT (.bool E) /\ Kept B w w' /\ z04 w' B p y := fun h => ⟨h.1, z0e h.2 B, hW.later h.2⟩
 unfold Way.narrow
 rcases hv : y.second s r n with ⟨bk, bl, bh⟩
 rw [hv] at o2
 have HN := fun W : World => zPw code (y.reg d).l (y.reg d).h bl bh o1.2.2.1.1 o1.2.2.1.2 o1.2.2.2.1.1 o1.2.2.2.1.2 o2.2.2.1.1 o2.2.2.1.2 o2.2.2.2.1.1 o2.2.2.2.1.2 o1.2.2.2.2 o2.2.2.2.2 W
 dsimp only
 generalize narV code (y.reg d).l (y.reg d).h bl bh = z at *
 obtain ⟨⟨x0, x1⟩, ⟨y0, y1⟩, ok⟩ := z
 cases ok
 ·rw [if_pos rfl]
  exact (zLl B d s c o n p code r y hd hs bk bl bh hv x0 x1 y0 y1 HN w hW).mono fun _ _ h => mv h
 rw [if_neg (by simp)]
 cases r
 ·rw [if_neg (by intro e; exact absurd e.1 (by simp)), if_neg (by simp)]
  exact zHt B d s c o n p code y hd hs bk bl bh hv x0 x1 y0 y1 HN w hW
 ·by_cases e : s = d
  ·subst e
   rw [if_pos ⟨rfl, rfl⟩]
   exact (zFc B s c o n p code y hd bk bl bh hv x0 x1 y0 y1 HN w hW).mono fun _ _ h => mv h
  ·rw [if_neg (fun h => e h.2), if_pos rfl]
   exact zHs B d s c o n p code y hd hs bk bl bh hv x0 x1 y0 y1 HN (by omega) e w hW
end
def wayV (x : Int × Way) : Value := .agg (z05 x.1 x.2)
def z0q (l : List (Int × Way)) : List Value := l.flatMap fun x => (z05 x.1 x.2).toList
theorem z25 (l : List (Int × Way)) : (z0q l).length = l.length * 82 := by
 induction l with
 | nil => rfl
 | cons x l ih =>
  unfold z0q at ih ⊢
  rw [List.flatMap_cons, List.length_append, ih, Array.length_toList, z0c, lV]
  omega
theorem z4s (l : List (Int × Way)) (x : Int × Way) : z0q (l ++ [x]) = z0q l ++ (z05 x.1 x.2).toList := by
 unfold z0q; rw [List.flatMap_append]; simp
def z0b (w : World) (base : Nat) (v : Value) (l : List (Int × Way)) : Prop := w.ownsRow base 205 82 v l.length (z0q l)
theorem Tryz.infoWz : (Tryz.prog.info? 205).map (fun i => (i.zero, i.size, i.bytes)) = some (some (.agg Tryz.zeroCells205), 82, 656) := by kernel_rfl
theorem zR3 (l : List (Int × Way)) (Z : Array Value) (hZ : Z.size = l.length * 82) : Instr.fill (fun i => some (i * 82, 82)) Z (((l.map wayV).zipIdx 0).map fun x => (x.2, x.1)) = some (z0q l).toArray := by
 have h := Great.fill_whole (s := 82) (by decide) (l.map wayV) Z (by
  intro v hv
  obtain ⟨x, -, rfl⟩ := List.mem_map.1 hv
  exact z0c x.1 x.2) (by rw [List.length_map]; exact hZ.symm)
 rw [h]
 congr 2
 unfold z0q
 rw [List.flatMap_map]
 rfl
theorem zR4 (z : Value) (n : Nat) : ((Array.range n).map (z.cells[· % z.cells.size]!)).size = n := by simp
theorem z9t {ops : Array Oper} {rest : List Oper} {o : Oper} {a : Act} {w : World} {Q : Exit -> Act -> World -> Prop} (hg : o.guard = none) (l : List (Int × Way)) (n : Nat) (hn : n = l.length) (h1 : 1 <= n) (h2 : n <= 1000) (parts : Array (Nat × Operand)) (ho : o.op = .buildSlice 207 n parts)
  (hp : (parts.map fun (i, x) => (i, a.eval x)).toList = ((l.map wayV).zipIdx 0).map fun x => (x.2, x.1))
  (h : wpList tP ops Q rest (a.put o.dst (.slice (some ⟨w.heap.size, 0, none⟩) n n)) (w.alloc (cT (z0q l).toArray 205))) : wpList tP ops Q (o :: rest) a w := by
 obtain ⟨i0, hi, hz0, hz1, hz2⟩ := info_parts Tryz.infoWz
 refine wpList_buildSlice hg 207 205 n parts ho _ i0 _ Tryz.underlying207 hi hz0 (by rw [hz1]; omega) (by rw [hz1]; omega) ?_ h
 rw [hp, hz1]
 exact zR3 l _ (by rw [zR4, hn])
theorem z1h {ops : Array Oper} {rest : List Oper} {o : Oper} {a : Act} {w : World} {Q : Exit -> Act -> World -> Prop} (hg : o.guard = none) (x : Operand) (p : Int) (y : Way) (ho : o.op = .buildSlice 207 1 #[(0, x)]) (hx : a.eval x = .agg (z05 p y))
  (h : wpList tP ops Q rest (a.put o.dst (.slice (some ⟨w.heap.size, 0, none⟩) 1 1)) (w.alloc (cT (z0q [(p, y)]).toArray 205))) : wpList tP ops Q (o :: rest) a w :=
 z9t hg [(p, y)] 1 rfl (by decide) (by decide) _ ho (by simp [hx, wayV]) h
theorem z8x {ops : Array Oper} {rest : List Oper} {o : Oper} {a : Act} {w : World} {Q : Exit -> Act -> World -> Prop} (hg : o.guard = none) (x x' : Operand) (p p' : Int) (y y' : Way) (ho : o.op = .buildSlice 207 2 #[(0, x), (1, x')]) (hx : a.eval x = .agg (z05 p y)) (hx' : a.eval x' = .agg (z05 p' y'))
  (h : wpList tP ops Q rest (a.put o.dst (.slice (some ⟨w.heap.size, 0, none⟩) 2 2)) (w.alloc (cT (z0q [(p, y), (p', y')]).toArray 205))) : wpList tP ops Q (o :: rest) a w :=
 z9t hg [(p, y), (p', y')] 2 rfl (by decide) (by decide) _ ho (by simp [hx, hx', wayV]) h
theorem z0b.made (w : World) (base : Nat) (l : List (Int × Way)) (hb : base <= w.heap.size) (h : l.length <= maxLen) : z0b (w.alloc (cT (z0q l).toArray 205)) base (.slice (some ⟨w.heap.size, 0, none⟩) l.length l.length) l := by
 have := World.ownsRow_lit (base := base) (e := 205) (size := 82) w (z0q l).toArray l.length hb h (by simp [z25])
 simpa [z0b] using this
theorem z0b.nil (w : World) (base : Nat) : z0b w base (.slice none 0 0) [] := World.ownsRow_nil _ _ _ _
theorem z0b.mono {w : World} {base base' : Nat} {v : Value} {l : List (Int × Way)} (h : z0b w base v l) (hb : base' <= base) : z0b w base' v l := by
 obtain ⟨h1, h2⟩ := h
 refine ⟨h1, ?_⟩
 rcases h2 with h2 | ⟨g, cap, cur, e1, e2, r⟩
 ·exact Or.inl h2
 ·exact Or.inr ⟨g, cap, cur, e1, by omega, r⟩
theorem z0b.later {w w1 : World} {base : Nat} {v : Value} {l : List (Int × Way)} (h : z0b w base v l) (hb : Below w.heap.size w w1) : z0b w1 base v l :=
 World.ownsRow.kept (w' := w1) (row := none) h ⟨hb.os, hb.tape, hb.output, hb.size, fun k hk _ => hb.block k hk⟩ (by cases v.ownBlock <;> simp)
theorem zTu {o : Oper} {u : Act} {x : Operand} {W : World} {B : Nat} {p : Int} {y : Way} (hW : z04 W B p y) (ho : o.op = .load 205 x) (hx : u.eval x = pT (some ⟨B, 0, none⟩)) : (execOp u.eval o).run tP W = .ok (.value (.agg (z05 p y))) W := by
 have hl := run_loadVar_row (P := tP) W B 205 205 (z05 p y) (0, 0) _ hW Tryz.underlying205 rfl (z0n p y)
 unfold execOp
 simp only [ho, hx, Instr.loadAt, Instr.sureAddr, Sem.run_bind, Sem.run_pure, Result.andThen_ok, hl]
section
attribute [local simp] z00 z0d z07
theorem z8l (p : Int) (y : Way) (h0 : 0 <= p) (h1 : p <= 1000) (w : World) : Calls tP 102 #[.agg (z05 p y), A D 0] w fun e w' => e = rT (.agg (z05 (p + 1) y)) /\ Below w.heap.size w w' := zG6 p 0 y h0 h1 (by decide) (by decide) w
theorem zSu (d s : Nat) (c o n p : Int) (r : Bool) (y : Way) (hd : d < 11) (hp0 : 0 <= p) (hp1 : p <= 1000) (ho0 : 0 <= o) (ho1 : o <= 1000) (m1 m2 : Bool) (x16 : (c == 16) = m1) (x5 : ((y.reg d).k != 5) = m2) (w : World) :
  Calls tP 138 #[.agg (z05 p y), .agg #[A D c, A D d, A D s, .bool r, A D o, A D n]] w fun e w' => ∃ v, e = rT v /\ z0b w' w.heap.size v (if m2 = true then [((if m1 = true then (p + (1 + o)) else (p + 1)), y)] else [((if m1 = true then (p + 1) else (p + (1 + o))), y.putReg d ⟨1, 0, 0⟩), ((if m1 = true then (p + (1 + o)) else (p + 1)), y.putReg d ⟨4, 0, 0⟩)]) /\ Below w.heap.size w w' := by
 have hK0 : Blk w [(w.heap.size, cT (z05 p y) 205 (0, 0)), (w.heap.size + 1, cT #[A D c, A D d, A D s, .bool r, A D o, A D n] 80 (0, 0))] _ := ((Blk.nil (((bF _ _).alloc (Nat.le_refl _) _).alloc (by simp) _)).cons (heap_alloc2_new w (cT (z05 p y) 205) (cT #[A D c, A D d, A D s, .bool r, A D o, A D n] 80))).cons ((z04.start w p y).alloc (cT #[A D c, A D d, A D s, .bool r, A D o, A D n] 80))
 have hd0 : (0 : Int) <= (d : Int) := by omega
 have hd1 : (d : Int) < 11 := by omega
 go_enter Tryz.func138, Tryz.ntmps138
 go_wp2_with fail
 refine z0l (C := Blk w [(w.heap.size, cT (z05 p y) 205 (0, 0)), (w.heap.size + 1, cT #[A D c, A D d, A D s, .bool r, A D o, A D n] 80 (0, 0))]) (n0 := w.heap.size + 1 + 1) 6 [] [cT Tryz.zeroCells205 205 (0, 0), cT Tryz.zeroCells205 205 (0, 0)] (by kernel_rfl) (by kernel_rfl) (fun d _ _ _ _ h => by cases d <;> exact h) (Blk.stable _ _) (Blk.room w (mcO _ mcS)) hK0.drew ⟨⟨rfl, fun a w2 hC => by go_simp; try rfl⟩, ⟨rfl, fun a w2 hC => by go_simp; try rfl⟩, trivial⟩ ?_
 simp only [lQ, lX, lY, lZ, lV, lJ, Nat.reduceAdd]
 repeat (first
  | (refine z0i (by rfl) ?_; simp only [Act.put, siA, scZ, scS])
  | (refine z0a (by rfl) (v := .agg (z05 p y)) (fun w2 hC => zTu (hC.2 _ mcS) rfl rfl) ?_; simp only [Act.put, siA, scZ, scS])
  | (refine z0a (by rfl) (v := ?_) ?_ ?_; rotate_left; (intro w2 hC; have yW : z04 _ w.heap.size _ _ := (hC.2 _ mcS); have ylt := yW.lt; obtain ⟨i0, i1, i2⟩ := yW.reg hd; obtain ⟨p0, p1, p2, p3, p4, p5, ltS⟩ := row6 (hC.2 _ (mcO _ mcS)); go_simp; try with_reducible rfl); simp only [Act.put, siA, scZ, scS])
  | (refine z0v (by rfl) ?_; apply Exists.intro; refine ⟨fun w2 hC => ?_, ?_⟩; (have yW : z04 _ w.heap.size _ _ := (hC.2 _ mcS); have ylt := yW.lt; obtain ⟨i0, i1, i2⟩ := yW.reg hd; obtain ⟨p0, p1, p2, p3, p4, p5, ltS⟩ := row6 (hC.2 _ (mcO _ mcS)); go_simp; apply z16; first | (go_at_call 102; exact (by first | with_reducible exact z8l p y hp0 hp1 w2 | with_reducible exact zG6 p o y hp0 hp1 ho0 ho1 w2))); simp only [Act.put, siA, scZ, scS]))
 refine z0r ?_
 intro L h5 g5 K h6 g6 w3 hC hB3
 have hne : K ≠ L := (FB.upd_none h6).1
 have hne' : L ≠ K := fun e => hne e.symm
 have bK := hB3 K _ (FB.at_new _ _ _)
 have bL := hB3 L _ (FB.at_old hne' (FB.at_new _ _ _))
 have yW : z04 _ w.heap.size _ _ := (hC.2 _ mcS); have ylt := yW.lt; obtain ⟨i0, i1, i2⟩ := yW.reg hd; obtain ⟨p0, p1, p2, p3, p4, p5, ltS⟩ := row6 (hC.2 _ (mcO _ mcS))
 have hbw := hC.1
 have n1 : w.heap.size + 1 ≠ L := by omega
 have n2 : w.heap.size ≠ L := by omega
 have n3 : w.heap.size + 1 ≠ K := by omega
 have n4 : w.heap.size ≠ K := by omega
 simp only [z5f, Act.put, siA, scZ, scS]
 have hK1 : Blk w [(L, cT (z05 (p + (1 + o)) y) 205 (0, 0)), (K, cT (z05 (p + 1) y) 205 (0, 0)), (w.heap.size, cT (z05 p y) 205 (0, 0)), (w.heap.size + 1, cT #[A D c, A D d, A D s, .bool r, A D o, A D n] 80 (0, 0))] ((w3.setRow L (z05 (p + (1 + o)) y)).setRow K (z05 (p + 1) y)) := ((((Blk.nil (by repeat' first | with_reducible (first | exact hbw | refine z06 ?_ ?_ _ | refine bS ?_ ?_ _ | refine bA ?_ ?_ _) | ((try dsimp only); omega) | (simp; omega))).cons ((setRow_other _ K _ _ n3).trans ((setRow_other _ L _ _ n1).trans (hC.2 _ (mcO _ mcS))))).cons ((setRow_other _ K _ _ n4).trans ((setRow_other _ L _ _ n2).trans (hC.2 _ mcS)))).cons (setRow_heap _ K _ (z05 (p + 1) y) 205 _ ((setRow_other _ L _ _ hne).trans bK))).cons ((setRow_other _ K _ _ hne').trans (setRow_heap _ L _ (z05 (p + (1 + o)) y) 205 _ bL))
 clear yW ylt i0 i1 i2 p0 p1 p2 p3 p4 p5 ltS hK0
 have yW : z04 _ w.heap.size _ _ := (hK1.2 _ (mcO _ (mcO _ mcS))); have ylt := yW.lt; obtain ⟨i0, i1, i2⟩ := yW.reg hd; obtain ⟨p0, p1, p2, p3, p4, p5, ltS⟩ := row6 (hK1.2 _ (mcO _ (mcO _ (mcO _ mcS))))
 (refine wpList_store_row rfl 205 (.tmp 5) (.tmp 10) rfl L (z05 (p + (1 + o)) y) rfl rfl 205 _ bL (z0n _ _) (by first | rw [z1s, z0c] | rw [z0c, z0c]) (z26 _ _) ?_)
 (refine wpList_store_row rfl 205 (.tmp 6) (.tmp 12) rfl K (z05 (p + 1) y) rfl rfl 205 _ ((setRow_other _ L _ _ hne).trans bK) (z0n _ _) (by first | rw [z1s, z0c] | rw [z0c, z0c]) (z26 _ _) ?_)
 cases m1
 ·cases m2
  ·go_upto_region 6 with fail
   clear yW ylt i0 i1 i2 p0 p1 p2 p3 p4 p5 ltS
   refine z0l (C := Blk w [(L, cT (z05 (p + (1 + o)) y) 205 (0, 0)), (K, cT (z05 (p + 1) y) 205 (0, 0)), (w.heap.size, cT (z05 p y) 205 (0, 0)), (w.heap.size + 1, cT #[A D c, A D d, A D s, .bool r, A D o, A D n] 80 (0, 0))]) (n0 := w.heap.size) 6 [] [] (by kernel_rfl) (by kernel_rfl) (fun d _ _ _ _ h => by cases d <;> exact h) (Blk.stable _ _) (Blk.room0 _ _) hK1.drew trivial ?_
   simp only [lQ, lX, lY, lZ, lJ, Nat.reduceAdd]
   repeat (first
    | (refine z0i (by rfl) ?_; simp only [Act.put, siA, scZ, scS])
    | (refine z0a (by rfl) (v := ?_) ?_ ?_; rotate_left; (intro w2 hC; have aW : z04 _ L _ _ := (hC.2 _ mcS); have alt := aW.lt; have bW : z04 _ K _ _ := (hC.2 _ (mcO _ mcS)); have blt := bW.lt; have yW : z04 _ w.heap.size _ _ := (hC.2 _ (mcO _ (mcO _ mcS))); have ylt := yW.lt; obtain ⟨p0, p1, p2, p3, p4, p5, ltS⟩ := row6 (hC.2 _ (mcO _ (mcO _ (mcO _ mcS)))); go_simp; try with_reducible rfl); simp only [Act.put, siA, scZ, scS])
    | (refine z0v (by rfl) ?_; apply Exists.intro; refine ⟨fun w2 hC => ?_, ?_⟩; (have aW : z04 _ L _ _ := (hC.2 _ mcS); have alt := aW.lt; have bW : z04 _ K _ _ := (hC.2 _ (mcO _ mcS)); have blt := bW.lt; have yW : z04 _ w.heap.size _ _ := (hC.2 _ (mcO _ (mcO _ mcS))); have ylt := yW.lt; obtain ⟨p0, p1, p2, p3, p4, p5, ltS⟩ := row6 (hC.2 _ (mcO _ (mcO _ (mcO _ mcS)))); go_simp; apply z16; first | (go_at_call 100; exact z2p 0 w2) | (go_at_call 140; exact (by have hq := z1g 0 0 w2; unfold Kno.v z1d at hq; exact hq))); simp only [Act.put, siA, scZ, scS]))
   refine z0r ?_
   intro w5 hC hB5
   have aW : z04 _ L _ _ := (hC.2 _ mcS); have alt := aW.lt; have bW : z04 _ K _ _ := (hC.2 _ (mcO _ mcS)); have blt := bW.lt; have yW : z04 _ w.heap.size _ _ := (hC.2 _ (mcO _ (mcO _ mcS))); have ylt := yW.lt; obtain ⟨p0, p1, p2, p3, p4, p5, ltS⟩ := row6 (hC.2 _ (mcO _ (mcO _ (mcO _ mcS))))
   obtain ⟨i0, i1, i2⟩ := aW.reg hd
   have if0 := aW.frozen (1 + d * 3)
   have if1 := aW.frozen (1 + d * 3 + 1)
   have if2 := aW.frozen (1 + d * 3 + 2)
   go_upto_region 7 with fail
   have hbw5 := hC.1
   have hK7 : Blk w [(L, cT (z05 (p + (1 + o)) (y.putReg d ⟨1, 0, 0⟩)) 205 (0, 0)), (K, cT (z05 (p + 1) y) 205 (0, 0)), (w.heap.size, cT (z05 p y) 205 (0, 0)), (w.heap.size + 1, cT #[A D c, A D d, A D s, .bool r, A D o, A D n] 80 (0, 0))] (((w5.setCell ⟨L, 1 + d * 3, none⟩ (A D 1)).setCell ⟨L, 1 + d * 3 + 1, none⟩ (A D 0)).setCell ⟨L, 1 + d * 3 + 2, none⟩ (A D 0)) := ((((Blk.nil (by repeat' first | with_reducible (first | exact hbw5 | refine z06 ?_ ?_ _ | refine bS ?_ ?_ _ | refine bA ?_ ?_ _) | ((try dsimp only); omega) | (simp; omega))).cons (off3 (hC.2 _ (mcO _ (mcO _ (mcO _ mcS)))) (by omega))).cons (off3 (hC.2 _ (mcO _ (mcO _ mcS))) (by omega))).cons (off3 (hC.2 _ (mcO _ mcS)) hne)).cons (aW.reg3 hd 1 0 0)
   clear aW alt bW blt yW ylt i0 i1 i2 if0 if1 if2 p0 p1 p2 p3 p4 p5 ltS hC hB5
   refine z0l (C := Blk w [(L, cT (z05 (p + (1 + o)) (y.putReg d ⟨1, 0, 0⟩)) 205 (0, 0)), (K, cT (z05 (p + 1) y) 205 (0, 0)), (w.heap.size, cT (z05 p y) 205 (0, 0)), (w.heap.size + 1, cT #[A D c, A D d, A D s, .bool r, A D o, A D n] 80 (0, 0))]) (n0 := w.heap.size) 6 [] [] (by kernel_rfl) (by kernel_rfl) (fun d _ _ _ _ h => by cases d <;> exact h) (Blk.stable _ _) (Blk.room0 _ _) hK7.drew trivial ?_
   simp only [lQ, lX, lY, lZ, lJ, Nat.reduceAdd]
   repeat (first
    | (refine z0i (by rfl) ?_; simp only [Act.put, siA, scZ, scS])
    | (refine z0a (by rfl) (v := ?_) ?_ ?_; rotate_left; (intro w2 hC; have aW : z04 _ L _ _ := (hC.2 _ mcS); have alt := aW.lt; have bW : z04 _ K _ _ := (hC.2 _ (mcO _ mcS)); have blt := bW.lt; have yW : z04 _ w.heap.size _ _ := (hC.2 _ (mcO _ (mcO _ mcS))); have ylt := yW.lt; obtain ⟨p0, p1, p2, p3, p4, p5, ltS⟩ := row6 (hC.2 _ (mcO _ (mcO _ (mcO _ mcS)))); go_simp; try with_reducible rfl); simp only [Act.put, siA, scZ, scS])
    | (refine z0v (by rfl) ?_; apply Exists.intro; refine ⟨fun w2 hC => ?_, ?_⟩; (have aW : z04 _ L _ _ := (hC.2 _ mcS); have alt := aW.lt; have bW : z04 _ K _ _ := (hC.2 _ (mcO _ mcS)); have blt := bW.lt; have yW : z04 _ w.heap.size _ _ := (hC.2 _ (mcO _ (mcO _ mcS))); have ylt := yW.lt; obtain ⟨p0, p1, p2, p3, p4, p5, ltS⟩ := row6 (hC.2 _ (mcO _ (mcO _ (mcO _ mcS)))); go_simp; apply z16; first | (go_at_call 100; exact z2p 0 w2)); simp only [Act.put, siA, scZ, scS]))
   refine z0r ?_
   intro w6 hC hB6
   have aW : z04 _ L _ _ := (hC.2 _ mcS); have alt := aW.lt; have bW : z04 _ K _ _ := (hC.2 _ (mcO _ mcS)); have blt := bW.lt; have yW : z04 _ w.heap.size _ _ := (hC.2 _ (mcO _ (mcO _ mcS))); have ylt := yW.lt; obtain ⟨p0, p1, p2, p3, p4, p5, ltS⟩ := row6 (hC.2 _ (mcO _ (mcO _ (mcO _ mcS))))
   obtain ⟨i0, i1, i2⟩ := bW.reg hd
   have if0 := bW.frozen (1 + d * 3)
   have if1 := bW.frozen (1 + d * 3 + 1)
   have if2 := bW.frozen (1 + d * 3 + 2)
   go_upto_region 8 with fail
   have hbw6 := hC.1
   have hK8 : Blk w [(L, cT (z05 (p + (1 + o)) (y.putReg d ⟨1, 0, 0⟩)) 205 (0, 0)), (K, cT (z05 (p + 1) (y.putReg d ⟨4, 0, 0⟩)) 205 (0, 0))] (((w6.setCell ⟨K, 1 + d * 3, none⟩ (A D 4)).setCell ⟨K, 1 + d * 3 + 1, none⟩ (A D 0)).setCell ⟨K, 1 + d * 3 + 2, none⟩ (A D 0)) := ((Blk.nil (by repeat' first | with_reducible (first | exact hbw6 | refine z06 ?_ ?_ _ | refine bS ?_ ?_ _ | refine bA ?_ ?_ _) | ((try dsimp only); omega) | (simp; omega))).cons (bW.reg3 hd 4 0 0)).cons (off3 (hC.2 _ mcS) hne')
   clear aW alt bW blt yW ylt i0 i1 i2 if0 if1 if2 p0 p1 p2 p3 p4 p5 ltS hC hB6
   go_step
   (refine wpList_load_row rfl 205 (.tmp 5) rfl L rfl 205 (z05 (p + (1 + o)) (y.putReg d ⟨1, 0, 0⟩)) (0, 0) _ (hK8.2 _ mcS) Tryz.underlying205 rfl (z0n _ _) ?_)
   (refine wpList_load_row rfl 205 (.tmp 6) rfl K rfl 205 (z05 (p + 1) (y.putReg d ⟨4, 0, 0⟩)) (0, 0) _ (hK8.2 _ (mcO _ mcS)) Tryz.underlying205 rfl (z0n _ _) ?_)
   refine z8x rfl (.tmp 39) (.tmp 40) (p + (1 + o)) (p + 1) (y.putReg d ⟨1, 0, 0⟩) (y.putReg d ⟨4, 0, 0⟩) rfl rfl rfl ?_
   simp only [Act.put, siA, scZ, scS]
   go_wp2_with fail
   go_ret
   have hbwE := hK8.1
   have hsE := hbwE.size
   have hm := z0b.made (((w6.setCell ⟨K, 1 + d * 3, none⟩ (A D 4)).setCell ⟨K, 1 + d * 3 + 1, none⟩ (A D 0)).setCell ⟨K, 1 + d * 3 + 2, none⟩ (A D 0)) w.heap.size [((p + (1 + o)), y.putReg d ⟨1, 0, 0⟩), ((p + 1), y.putReg d ⟨4, 0, 0⟩)] hbwE.size (by unfold maxLen; simp)
   simp only [z07] at hm hsE
   exact ⟨_, rfl, by simpa using hm, (by repeat' first | with_reducible (first | exact hbwE | refine z06 ?_ ?_ _ | refine bS ?_ ?_ _ | refine bA ?_ ?_ _) | ((try dsimp only); omega) | (simp; omega))⟩
  ·go_upto_region 5 with fail
   have hbK : ((w3.setRow L (z05 (p + (1 + o)) y)).setRow K (z05 (p + 1) y)).heap[K]? = some (cT (z05 (p + 1) y) 205) := hK1.2 _ (mcO _ mcS)
   clear yW ylt i0 i1 i2 p0 p1 p2 p3 p4 p5 ltS
   generalize ((w3.setRow L (z05 (p + (1 + o)) y)).setRow K (z05 (p + 1) y)) = w9 at hbK hK1 ⊢
   go_step
   (refine wpList_load_row rfl 205 (.tmp 6) rfl K rfl 205 (z05 (p + 1) y) (0, 0) _ hbK Tryz.underlying205 rfl (z0n _ _) ?_)
   refine z1h rfl (.tmp 25) (p + 1) y rfl rfl ?_
   simp only [Act.put, siA, scZ, scS]
   go_wp2_with fail
   go_ret
   have hbwE := hK1.1
   have hsE := hbwE.size
   have hm := z0b.made w9 w.heap.size [((p + 1), y)] hbwE.size (by unfold maxLen; simp)
   exact ⟨_, rfl, by simpa using hm, (by repeat' first | with_reducible (first | exact hbwE | refine z06 ?_ ?_ _ | refine bS ?_ ?_ _ | refine bA ?_ ?_ _) | ((try dsimp only); omega) | (simp; omega))⟩
 ·cases m2
  ·go_upto_region 3 with fail
   go_step
   (refine wpList_load_row rfl 205 (.tmp 6) rfl K rfl 205 (z05 (p + 1) y) (0, 0) _ (hK1.2 _ (mcO _ mcS)) Tryz.underlying205 rfl (z0n _ _) ?_)
   (refine wpList_load_row rfl 205 (.tmp 5) rfl L rfl 205 (z05 (p + (1 + o)) y) (0, 0) _ (hK1.2 _ mcS) Tryz.underlying205 rfl (z0n _ _) ?_)
   (refine wpList_store_row rfl 205 (.tmp 5) (.tmp 16) rfl L (z05 (p + 1) y) rfl rfl 205 _ (hK1.2 _ mcS) (z0n _ _) (by first | rw [z1s, z0c] | rw [z0c, z0c]) (z26 _ _) ?_)
   (refine wpList_store_row rfl 205 (.tmp 6) (.tmp 17) rfl K (z05 (p + (1 + o)) y) rfl rfl 205 _ ((setRow_other _ L _ _ hne).trans (hK1.2 _ (mcO _ mcS))) (z0n _ _) (by first | rw [z1s, z0c] | rw [z0c, z0c]) (z26 _ _) ?_)
   simp only [Act.put, siA, scZ, scS]
   have hbw1 := hK1.1
   have hK2 : Blk w [(L, cT (z05 (p + 1) y) 205 (0, 0)), (K, cT (z05 (p + (1 + o)) y) 205 (0, 0)), (w.heap.size, cT (z05 p y) 205 (0, 0)), (w.heap.size + 1, cT #[A D c, A D d, A D s, .bool r, A D o, A D n] 80 (0, 0))] ((((w3.setRow L (z05 (p + (1 + o)) y)).setRow K (z05 (p + 1) y)).setRow L (z05 (p + 1) y)).setRow K (z05 (p + (1 + o)) y)) := ((((Blk.nil (by repeat' first | with_reducible (first | exact hbw1 | refine z06 ?_ ?_ _ | refine bS ?_ ?_ _ | refine bA ?_ ?_ _) | ((try dsimp only); omega) | (simp; omega))).cons ((setRow_other _ K _ _ n3).trans ((setRow_other _ L _ _ n1).trans (hK1.2 _ (mcO _ (mcO _ (mcO _ mcS))))))).cons ((setRow_other _ K _ _ n4).trans ((setRow_other _ L _ _ n2).trans (hK1.2 _ (mcO _ (mcO _ mcS)))))).cons (setRow_heap _ K _ (z05 (p + (1 + o)) y) 205 _ ((setRow_other _ L _ _ hne).trans (hK1.2 _ (mcO _ mcS))))).cons ((setRow_other _ K _ _ hne').trans (setRow_heap _ L _ (z05 (p + 1) y) 205 _ (hK1.2 _ mcS)))
   clear yW ylt i0 i1 i2 p0 p1 p2 p3 p4 p5 ltS
   have yW : z04 _ w.heap.size _ _ := (hK2.2 _ (mcO _ (mcO _ mcS))); have ylt := yW.lt; obtain ⟨i0, i1, i2⟩ := yW.reg hd; obtain ⟨p0, p1, p2, p3, p4, p5, ltS⟩ := row6 (hK2.2 _ (mcO _ (mcO _ (mcO _ mcS))))
   go_upto_region 6 with fail
   clear yW ylt i0 i1 i2 p0 p1 p2 p3 p4 p5 ltS
   refine z0l (C := Blk w [(L, cT (z05 (p + 1) y) 205 (0, 0)), (K, cT (z05 (p + (1 + o)) y) 205 (0, 0)), (w.heap.size, cT (z05 p y) 205 (0, 0)), (w.heap.size + 1, cT #[A D c, A D d, A D s, .bool r, A D o, A D n] 80 (0, 0))]) (n0 := w.heap.size) 6 [] [] (by kernel_rfl) (by kernel_rfl) (fun d _ _ _ _ h => by cases d <;> exact h) (Blk.stable _ _) (Blk.room0 _ _) hK2.drew trivial ?_
   simp only [lQ, lX, lY, lZ, lJ, Nat.reduceAdd]
   repeat (first
    | (refine z0i (by rfl) ?_; simp only [Act.put, siA, scZ, scS])
    | (refine z0a (by rfl) (v := ?_) ?_ ?_; rotate_left; (intro w2 hC; have aW : z04 _ L _ _ := (hC.2 _ mcS); have alt := aW.lt; have bW : z04 _ K _ _ := (hC.2 _ (mcO _ mcS)); have blt := bW.lt; have yW : z04 _ w.heap.size _ _ := (hC.2 _ (mcO _ (mcO _ mcS))); have ylt := yW.lt; obtain ⟨p0, p1, p2, p3, p4, p5, ltS⟩ := row6 (hC.2 _ (mcO _ (mcO _ (mcO _ mcS)))); go_simp; try with_reducible rfl); simp only [Act.put, siA, scZ, scS])
    | (refine z0v (by rfl) ?_; apply Exists.intro; refine ⟨fun w2 hC => ?_, ?_⟩; (have aW : z04 _ L _ _ := (hC.2 _ mcS); have alt := aW.lt; have bW : z04 _ K _ _ := (hC.2 _ (mcO _ mcS)); have blt := bW.lt; have yW : z04 _ w.heap.size _ _ := (hC.2 _ (mcO _ (mcO _ mcS))); have ylt := yW.lt; obtain ⟨p0, p1, p2, p3, p4, p5, ltS⟩ := row6 (hC.2 _ (mcO _ (mcO _ (mcO _ mcS)))); go_simp; apply z16; first | (go_at_call 100; exact z2p 0 w2) | (go_at_call 140; exact (by have hq := z1g 0 0 w2; unfold Kno.v z1d at hq; exact hq))); simp only [Act.put, siA, scZ, scS]))
   refine z0r ?_
   intro w5 hC hB5
   have aW : z04 _ L _ _ := (hC.2 _ mcS); have alt := aW.lt; have bW : z04 _ K _ _ := (hC.2 _ (mcO _ mcS)); have blt := bW.lt; have yW : z04 _ w.heap.size _ _ := (hC.2 _ (mcO _ (mcO _ mcS))); have ylt := yW.lt; obtain ⟨p0, p1, p2, p3, p4, p5, ltS⟩ := row6 (hC.2 _ (mcO _ (mcO _ (mcO _ mcS))))
   obtain ⟨i0, i1, i2⟩ := aW.reg hd
   have if0 := aW.frozen (1 + d * 3)
   have if1 := aW.frozen (1 + d * 3 + 1)
   have if2 := aW.frozen (1 + d * 3 + 2)
   go_upto_region 7 with fail
   have hbw5 := hC.1
   have hK7 : Blk w [(L, cT (z05 (p + 1) (y.putReg d ⟨1, 0, 0⟩)) 205 (0, 0)), (K, cT (z05 (p + (1 + o)) y) 205 (0, 0)), (w.heap.size, cT (z05 p y) 205 (0, 0)), (w.heap.size + 1, cT #[A D c, A D d, A D s, .bool r, A D o, A D n] 80 (0, 0))] (((w5.setCell ⟨L, 1 + d * 3, none⟩ (A D 1)).setCell ⟨L, 1 + d * 3 + 1, none⟩ (A D 0)).setCell ⟨L, 1 + d * 3 + 2, none⟩ (A D 0)) := ((((Blk.nil (by repeat' first | with_reducible (first | exact hbw5 | refine z06 ?_ ?_ _ | refine bS ?_ ?_ _ | refine bA ?_ ?_ _) | ((try dsimp only); omega) | (simp; omega))).cons (off3 (hC.2 _ (mcO _ (mcO _ (mcO _ mcS)))) (by omega))).cons (off3 (hC.2 _ (mcO _ (mcO _ mcS))) (by omega))).cons (off3 (hC.2 _ (mcO _ mcS)) hne)).cons (aW.reg3 hd 1 0 0)
   clear aW alt bW blt yW ylt i0 i1 i2 if0 if1 if2 p0 p1 p2 p3 p4 p5 ltS hC hB5
   refine z0l (C := Blk w [(L, cT (z05 (p + 1) (y.putReg d ⟨1, 0, 0⟩)) 205 (0, 0)), (K, cT (z05 (p + (1 + o)) y) 205 (0, 0)), (w.heap.size, cT (z05 p y) 205 (0, 0)), (w.heap.size + 1, cT #[A D c, A D d, A D s, .bool r, A D o, A D n] 80 (0, 0))]) (n0 := w.heap.size) 6 [] [] (by kernel_rfl) (by kernel_rfl) (fun d _ _ _ _ h => by cases d <;> exact h) (Blk.stable _ _) (Blk.room0 _ _) hK7.drew trivial ?_
   simp only [lQ, lX, lY, lZ, lJ, Nat.reduceAdd]
   repeat (first
    | (refine z0i (by rfl) ?_; simp only [Act.put, siA, scZ, scS])
    | (refine z0a (by rfl) (v := ?_) ?_ ?_; rotate_left; (intro w2 hC; have aW : z04 _ L _ _ := (hC.2 _ mcS); have alt := aW.lt; have bW : z04 _ K _ _ := (hC.2 _ (mcO _ mcS)); have blt := bW.lt; have yW : z04 _ w.heap.size _ _ := (hC.2 _ (mcO _ (mcO _ mcS))); have ylt := yW.lt; obtain ⟨p0, p1, p2, p3, p4, p5, ltS⟩ := row6 (hC.2 _ (mcO _ (mcO _ (mcO _ mcS)))); go_simp; try with_reducible rfl); simp only [Act.put, siA, scZ, scS])
    | (refine z0v (by rfl) ?_; apply Exists.intro; refine ⟨fun w2 hC => ?_, ?_⟩; (have aW : z04 _ L _ _ := (hC.2 _ mcS); have alt := aW.lt; have bW : z04 _ K _ _ := (hC.2 _ (mcO _ mcS)); have blt := bW.lt; have yW : z04 _ w.heap.size _ _ := (hC.2 _ (mcO _ (mcO _ mcS))); have ylt := yW.lt; obtain ⟨p0, p1, p2, p3, p4, p5, ltS⟩ := row6 (hC.2 _ (mcO _ (mcO _ (mcO _ mcS)))); go_simp; apply z16; first | (go_at_call 100; exact z2p 0 w2)); simp only [Act.put, siA, scZ, scS]))
   refine z0r ?_
   intro w6 hC hB6
   have aW : z04 _ L _ _ := (hC.2 _ mcS); have alt := aW.lt; have bW : z04 _ K _ _ := (hC.2 _ (mcO _ mcS)); have blt := bW.lt; have yW : z04 _ w.heap.size _ _ := (hC.2 _ (mcO _ (mcO _ mcS))); have ylt := yW.lt; obtain ⟨p0, p1, p2, p3, p4, p5, ltS⟩ := row6 (hC.2 _ (mcO _ (mcO _ (mcO _ mcS))))
   obtain ⟨i0, i1, i2⟩ := bW.reg hd
   have if0 := bW.frozen (1 + d * 3)
   have if1 := bW.frozen (1 + d * 3 + 1)
   have if2 := bW.frozen (1 + d * 3 + 2)
   go_upto_region 8 with fail
   have hbw6 := hC.1
   have hK8 : Blk w [(L, cT (z05 (p + 1) (y.putReg d ⟨1, 0, 0⟩)) 205 (0, 0)), (K, cT (z05 (p + (1 + o)) (y.putReg d ⟨4, 0, 0⟩)) 205 (0, 0))] (((w6.setCell ⟨K, 1 + d * 3, none⟩ (A D 4)).setCell ⟨K, 1 + d * 3 + 1, none⟩ (A D 0)).setCell ⟨K, 1 + d * 3 + 2, none⟩ (A D 0)) := ((Blk.nil (by repeat' first | with_reducible (first | exact hbw6 | refine z06 ?_ ?_ _ | refine bS ?_ ?_ _ | refine bA ?_ ?_ _) | ((try dsimp only); omega) | (simp; omega))).cons (bW.reg3 hd 4 0 0)).cons (off3 (hC.2 _ mcS) hne')
   clear aW alt bW blt yW ylt i0 i1 i2 if0 if1 if2 p0 p1 p2 p3 p4 p5 ltS hC hB6
   go_step
   (refine wpList_load_row rfl 205 (.tmp 5) rfl L rfl 205 (z05 (p + 1) (y.putReg d ⟨1, 0, 0⟩)) (0, 0) _ (hK8.2 _ mcS) Tryz.underlying205 rfl (z0n _ _) ?_)
   (refine wpList_load_row rfl 205 (.tmp 6) rfl K rfl 205 (z05 (p + (1 + o)) (y.putReg d ⟨4, 0, 0⟩)) (0, 0) _ (hK8.2 _ (mcO _ mcS)) Tryz.underlying205 rfl (z0n _ _) ?_)
   refine z8x rfl (.tmp 39) (.tmp 40) (p + 1) (p + (1 + o)) (y.putReg d ⟨1, 0, 0⟩) (y.putReg d ⟨4, 0, 0⟩) rfl rfl rfl ?_
   simp only [Act.put, siA, scZ, scS]
   go_wp2_with fail
   go_ret
   have hbwE := hK8.1
   have hsE := hbwE.size
   have hm := z0b.made (((w6.setCell ⟨K, 1 + d * 3, none⟩ (A D 4)).setCell ⟨K, 1 + d * 3 + 1, none⟩ (A D 0)).setCell ⟨K, 1 + d * 3 + 2, none⟩ (A D 0)) w.heap.size [((p + 1), y.putReg d ⟨1, 0, 0⟩), ((p + (1 + o)), y.putReg d ⟨4, 0, 0⟩)] hbwE.size (by unfold maxLen; simp)
   simp only [z07] at hm hsE
   exact ⟨_, rfl, by simpa using hm, (by repeat' first | with_reducible (first | exact hbwE | refine z06 ?_ ?_ _ | refine bS ?_ ?_ _ | refine bA ?_ ?_ _) | ((try dsimp only); omega) | (simp; omega))⟩
  ·go_upto_region 3 with fail
   go_step
   (refine wpList_load_row rfl 205 (.tmp 6) rfl K rfl 205 (z05 (p + 1) y) (0, 0) _ (hK1.2 _ (mcO _ mcS)) Tryz.underlying205 rfl (z0n _ _) ?_)
   (refine wpList_load_row rfl 205 (.tmp 5) rfl L rfl 205 (z05 (p + (1 + o)) y) (0, 0) _ (hK1.2 _ mcS) Tryz.underlying205 rfl (z0n _ _) ?_)
   (refine wpList_store_row rfl 205 (.tmp 5) (.tmp 16) rfl L (z05 (p + 1) y) rfl rfl 205 _ (hK1.2 _ mcS) (z0n _ _) (by first | rw [z1s, z0c] | rw [z0c, z0c]) (z26 _ _) ?_)
   (refine wpList_store_row rfl 205 (.tmp 6) (.tmp 17) rfl K (z05 (p + (1 + o)) y) rfl rfl 205 _ ((setRow_other _ L _ _ hne).trans (hK1.2 _ (mcO _ mcS))) (z0n _ _) (by first | rw [z1s, z0c] | rw [z0c, z0c]) (z26 _ _) ?_)
   simp only [Act.put, siA, scZ, scS]
   have hbw1 := hK1.1
   have hK2 : Blk w [(L, cT (z05 (p + 1) y) 205 (0, 0)), (K, cT (z05 (p + (1 + o)) y) 205 (0, 0)), (w.heap.size, cT (z05 p y) 205 (0, 0)), (w.heap.size + 1, cT #[A D c, A D d, A D s, .bool r, A D o, A D n] 80 (0, 0))] ((((w3.setRow L (z05 (p + (1 + o)) y)).setRow K (z05 (p + 1) y)).setRow L (z05 (p + 1) y)).setRow K (z05 (p + (1 + o)) y)) := ((((Blk.nil (by repeat' first | with_reducible (first | exact hbw1 | refine z06 ?_ ?_ _ | refine bS ?_ ?_ _ | refine bA ?_ ?_ _) | ((try dsimp only); omega) | (simp; omega))).cons ((setRow_other _ K _ _ n3).trans ((setRow_other _ L _ _ n1).trans (hK1.2 _ (mcO _ (mcO _ (mcO _ mcS))))))).cons ((setRow_other _ K _ _ n4).trans ((setRow_other _ L _ _ n2).trans (hK1.2 _ (mcO _ (mcO _ mcS)))))).cons (setRow_heap _ K _ (z05 (p + (1 + o)) y) 205 _ ((setRow_other _ L _ _ hne).trans (hK1.2 _ (mcO _ mcS))))).cons ((setRow_other _ K _ _ hne').trans (setRow_heap _ L _ (z05 (p + 1) y) 205 _ (hK1.2 _ mcS)))
   clear yW ylt i0 i1 i2 p0 p1 p2 p3 p4 p5 ltS
   have yW : z04 _ w.heap.size _ _ := (hK2.2 _ (mcO _ (mcO _ mcS))); have ylt := yW.lt; obtain ⟨i0, i1, i2⟩ := yW.reg hd; obtain ⟨p0, p1, p2, p3, p4, p5, ltS⟩ := row6 (hK2.2 _ (mcO _ (mcO _ (mcO _ mcS))))
   go_upto_region 5 with fail
   have hbK : ((((w3.setRow L (z05 (p + (1 + o)) y)).setRow K (z05 (p + 1) y)).setRow L (z05 (p + 1) y)).setRow K (z05 (p + (1 + o)) y)).heap[K]? = some (cT (z05 (p + (1 + o)) y) 205) := hK2.2 _ (mcO _ mcS)
   clear yW ylt i0 i1 i2 p0 p1 p2 p3 p4 p5 ltS
   generalize ((((w3.setRow L (z05 (p + (1 + o)) y)).setRow K (z05 (p + 1) y)).setRow L (z05 (p + 1) y)).setRow K (z05 (p + (1 + o)) y)) = w9 at hbK hK2 ⊢
   go_step
   (refine wpList_load_row rfl 205 (.tmp 6) rfl K rfl 205 (z05 (p + (1 + o)) y) (0, 0) _ hbK Tryz.underlying205 rfl (z0n _ _) ?_)
   refine z1h rfl (.tmp 25) (p + (1 + o)) y rfl rfl ?_
   simp only [Act.put, siA, scZ, scS]
   go_wp2_with fail
   go_ret
   have hbwE := hK2.1
   have hsE := hbwE.size
   have hm := z0b.made w9 w.heap.size [((p + (1 + o)), y)] hbwE.size (by unfold maxLen; simp)
   exact ⟨_, rfl, by simpa using hm, (by repeat' first | with_reducible (first | exact hbwE | refine z06 ?_ ?_ _ | refine bS ?_ ?_ _ | refine bA ?_ ?_ _) | ((try dsimp only); omega) | (simp; omega))⟩
end
end Go.Proofs.YtbimlalhodibjaaGreatDoor
