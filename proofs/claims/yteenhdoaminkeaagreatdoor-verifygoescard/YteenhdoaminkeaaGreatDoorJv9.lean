/-
 What the document's size, further and isPlace return. Conditions: the document's variable of all numbers is as it is laid; what it calls answers as it should.
-/
import Derived.Test.YteenhdoaminkeaaGreatDoorJv7
import Derived.Test.YteenhdoaminkeaaGreatDoorJv10
set_option maxHeartbeats 40000000
open Go.Value renaming int → vI
open Go.IntKind renaming i64 → vK
open Go.RowKit.Below renaming alloc → bA, setCell → bS, drew → bD, refl → bF
set_option maxRecDepth 1000000
set_option linter.defProp false
set_option linter.unusedVariables false
set_option linter.unusedSimpArgs false
namespace Go.Proofs.YteenhdoaminkeaaGreatDoor
open Go.ChangeShapes Go.WideShapes Go.ChangeAt Go.RowKit
theorem z0a.later {w w' : World} (h : z0a w) (hb : Below w.heap.size w w') : z0a w' := by
 obtain ⟨h1, h2, h3⟩ := h
 exact ⟨Nat.lt_of_lt_of_le h1 hb.size, (hb.cell (p := ⟨0, 0, none⟩) h1).trans h2, (hb.cell (p := ⟨0, 1, none⟩) h1).trans h3⟩
theorem z26 (n : Int) (w : World) : Calls Tryz.prog 8 #[vI vK n] w fun e w' => e = .returned (.agg #[vI vK n, vI vK n]) ∧ Below w.heap.size w w' :=
 (z43 n w).mono fun e w' h => ⟨h.1, by rw [h.2]; exact (bF _ _).alloc (Nat.le_refl _) _⟩
attribute [local simp] z00 z0y z0o
theorem z94 (w : World) : (Calls Tryz.prog 33 #[.int .u8 116] w fun e w' => e = .returned (.agg #[vI vK 0, vI vK 7]) ∧ Below w.heap.size w w') ∧ (Calls Tryz.prog 33 #[.int .u8 99] w fun e w' => e = .returned (.agg #[vI vK 0, vI vK 3]) ∧ Below w.heap.size w w') ∧ (Calls Tryz.prog 33 #[.int .u8 102] w fun e w' => e = .returned (.agg #[vI vK (-16), vI vK (-1)]) ∧ Below w.heap.size w w') := by
 refine ⟨?_, ?_, ?_⟩
 all_goals
  go_enter Tryz.func33, Tryz.ntmps33
  go_wp2_with fail
  exact bodyPost_ret (by simp [results, Tryz.results33, go_sem, *]) rfl ⟨rfl, (by repeat' first | with_reducible (first | exact hbw | exact bF _ _ | refine bA ?_ ?_ _ | refine bS ?_ ?_ _ | refine bD ?_) | ((try dsimp only); omega) | (simp; done) | (simp; omega))⟩
def zRd := fun w => (@z94 w).1
def zRf := fun w => (@z94 w).2.1
def zRe := fun w => (@z94 w).2.2
theorem z93 (k l h o : Int) : (∀ (n0 : (k == 0) = true) (w : World) (hA : z0a w), Calls Tryz.prog 21 #[.agg #[.int .u8 k, vI vK l, vI vK h], vI vK o] w fun e w' => e = .returned (.tuple #[.agg #[vI vK (-9223372036854775808), vI vK 9223372036854775807], vI vK 8]) ∧ Below w.heap.size w w') ∧ (∀ (n0 : (k == 0) = false) (n1 : (k == 110) = true) (w : World) (hA : z0a w), Calls Tryz.prog 21 #[.agg #[.int .u8 k, vI vK l, vI vK h], vI vK o] w fun e w' => e = .returned (.tuple #[.agg #[vI vK (-9223372036854775808), vI vK 9223372036854775807], vI vK 1]) ∧ Below w.heap.size w w') ∧ (∀ (n0 : (k == 0) = false) (n1 : (k == 110) = false) (n2 : (k == 109) = true) (w : World) (hA : z0a w), Calls Tryz.prog 21 #[.agg #[.int .u8 k, vI vK l, vI vK h], vI vK o] w fun e w' => e = .returned (.tuple #[.agg #[vI vK (-9223372036854775808), vI vK 9223372036854775807], vI vK 1]) ∧ Below w.heap.size w w') := by
 refine ⟨?_, ?_, ?_⟩
 intro n0 w hA
 rotate_left
 intro n0 n1 w hA
 rotate_left
 intro n0 n1 n2 w hA
 rotate_left
 all_goals
  obtain ⟨ga, ga0, ga1⟩ := hA
 all_goals
  go_enter Tryz.func21, Tryz.ntmps21
  go_wp2_with fail
  exact bodyPost_ret (by simp [results, Tryz.results21, go_sem, *]) rfl ⟨rfl, (by repeat' first | with_reducible (first | exact hbw | exact bF _ _ | refine bA ?_ ?_ _ | refine bS ?_ ?_ _ | refine bD ?_) | ((try dsimp only); omega) | (simp; done) | (simp; omega))⟩
def zAj := fun k l h o => (@z93 k l h o).1
def zC3 := fun k l h o => (@z93 k l h o).2.1
def zC4 := fun k l h o => (@z93 k l h o).2.2
theorem z92 (k l h o : Int) (n0 : (k == 0) = false) (n1 : (k == 110) = false) (n2 : (k == 109) = false) (tl th rl rh : Int) (HD : Hid (∀ W : World, z0a W → Calls Tryz.prog 32 #[vI vK 2, .agg #[vI vK l, vI vK h], .agg #[vI vK o, vI vK o]] W fun e w' => e = .returned (.agg #[vI vK tl, vI vK th]) ∧ Below W.heap.size W w')) (HR : Hid (∀ W : World, Calls Tryz.prog 33 #[.int .u8 k] W fun e w' => e = .returned (.agg #[vI vK rl, vI vK rh]) ∧ Below W.heap.size W w')) : (∀ (t1 : decide (tl < rl) = true) (w : World) (HA : Hid (z0a w)), Calls Tryz.prog 21 #[.agg #[.int .u8 k, vI vK l, vI vK h], vI vK o] w fun e w' => e = .returned (.tuple #[.agg #[vI vK (-9223372036854775808), vI vK 9223372036854775807], vI vK 2]) ∧ Below w.heap.size w w') ∧ (∀ (t1 : decide (tl < rl) = false) (t2 : decide (rh < th) = true) (w : World) (HA : Hid (z0a w)), Calls Tryz.prog 21 #[.agg #[.int .u8 k, vI vK l, vI vK h], vI vK o] w fun e w' => e = .returned (.tuple #[.agg #[vI vK (-9223372036854775808), vI vK 9223372036854775807], vI vK 2]) ∧ Below w.heap.size w w') ∧ (∀ (t1 : decide (tl < rl) = false) (t2 : decide (rh < th) = false) (w : World) (HA : Hid (z0a w)), Calls Tryz.prog 21 #[.agg #[.int .u8 k, vI vK l, vI vK h], vI vK o] w fun e w' => e = .returned (.tuple #[.agg #[vI vK tl, vI vK th], vI vK 0]) ∧ Below w.heap.size w w') := by
 refine ⟨?_, ?_, ?_⟩
 intro t1 w HA
 rotate_left
 intro t1 t2 w HA
 rotate_left
 intro t1 t2 w HA
 rotate_left
 all_goals
  have hK0 : Blk w [(w.heap.size, .cells #[.int .u8 k, vI vK l, vI vK h] 43 (0, 0)), (w.heap.size + 1, .cells #[vI vK 0, vI vK 0] 24 (0, 0))] ((w.alloc (.cells #[.int .u8 k, vI vK l, vI vK h] 43)).alloc (.cells #[vI vK 0, vI vK 0] 24)) := (((Blk.nil ((((bF _ _).alloc (Nat.le_refl _) _).alloc (by simp) _))).cons (heap_alloc2_new _ _ _)).cons (by rw [Below.heap_alloc _ _ _ (by simp)]; exact heap_alloc_new _ _))
 all_goals
  go_enter Tryz.func21, Tryz.ntmps21
  go_wp2_with fail
  refine z0n (C := Blk w [(w.heap.size, .cells #[.int .u8 k, vI vK l, vI vK h] 43 (0, 0)), (w.heap.size + 1, .cells #[vI vK 0, vI vK 0] 24 (0, 0))]) (n0 := w.heap.size + 1 + 1) 8 [] [.cells #[vI vK 0, vI vK 0] 24 (0, 0), .cells #[vI vK 0, vI vK 0] 24 (0, 0)] (by kernel_rfl) (by kernel_rfl) (fun d _ _ _ _ h => by cases d <;> exact h) (Blk.stable _ _) (Blk.room w (mcO _ mcS)) hK0.drew ⟨⟨rfl, fun a w2 hC => by go_simp; try rfl⟩, ⟨rfl, fun a w2 hC => by go_simp; try rfl⟩, trivial⟩ ?_
  simp only [List.take_succ_cons, List.take_zero, List.drop_succ_cons, List.drop_zero, List.length_cons, List.length_nil, Nat.reduceAdd]
  repeat (first
   | (refine z0k (by rfl) ?_; simp only [Act.put, siA, scZ, scS])
   | (refine z0b (by rfl) (v := ?_) ?_ ?_; rotate_left; (intro w2 hC; obtain ⟨c0, c1, c2, -, -, -, lt0⟩ := row3 (hC.2 _ (mcS)); obtain ⟨r0, r1, f0, f1, lt1⟩ := row2 (hC.2 _ (mcO _ mcS)); go_simp; try with_reducible rfl); simp only [Act.put, siA, scZ, scS])
   | (refine z0p (by rfl) ?_; apply Exists.intro; refine ⟨fun w2 hC => ?_, ?_⟩; (obtain ⟨c0, c1, c2, -, -, -, lt0⟩ := row3 (hC.2 _ (mcS)); obtain ⟨r0, r1, f0, f1, lt1⟩ := row2 (hC.2 _ (mcO _ mcS)); go_simp; apply z0v; first | (go_at_call 8; exact z26 _ w2) | (go_at_call 32; exact HD.out w2 (HA.out.later hC.1)) | (go_at_call 33; exact HR.out w2)); simp only [Act.put, siA, scZ, scS]))
  refine z0t ?_
  intro L h6 g6 K h7 g7 w3 hC hB
  have hne : K ≠ L := (FB.upd_none h7).1
  have hne' : L ≠ K := fun e => hne e.symm
  have bK := hB K _ (FB.at_new _ _ _)
  have bL := hB L _ (FB.at_old hne' (FB.at_new _ _ _))
  obtain ⟨p0, p1, pf0, pf1, ltL⟩ := row2 bL
  obtain ⟨q0, q1, qf0, qf1, ltK⟩ := row2 bK
  have hbw := hC.1
  obtain ⟨ga, ga0, ga1⟩ := HA.out.later hbw
  have gl := HA.out.1
  have gneL : 0 ≠ L := by omega
  have gneK : 0 ≠ K := by omega
  clear hB h6 h7 hK0
  obtain ⟨c0, c1, c2, -, -, -, lt0⟩ := row3 (hC.2 _ (mcS)); obtain ⟨r0, r1, f0, f1, lt1⟩ := row2 (hC.2 _ (mcO _ mcS))
  have g6' : w.heap.size ≠ L := by omega
  have g7' : w.heap.size ≠ K := by omega
  have g8' : w.heap.size + 1 ≠ L := by omega
  have g9' : w.heap.size + 1 ≠ K := by omega
  simp only [z4l]
  go_wp2_with fail
  exact bodyPost_ret (by simp [results, Tryz.results21, go_sem, *]) rfl ⟨rfl, (by repeat' first | with_reducible (first | exact hbw | exact bF _ _ | refine bA ?_ ?_ _ | refine bS ?_ ?_ _ | refine bD ?_) | ((try dsimp only); omega) | (simp; done) | (simp; omega))⟩
def zE3 := fun k l h o n0 n1 n2 tl th rl rh HD HR => (@z92 k l h o n0 n1 n2 tl th rl rh HD HR).1
def zE5 := fun k l h o n0 n1 n2 tl th rl rh HD HR => (@z92 k l h o n0 n1 n2 tl th rl rh HD HR).2.1
def zE4 := fun k l h o n0 n1 n2 tl th rl rh HD HR => (@z92 k l h o n0 n1 n2 tl th rl rh HD HR).2.2
def plB (k : Int) : Bool := k == 116 || k == 102 || k == 99
theorem z3w (k l h : Int) (w : World) : Calls Tryz.prog 34 #[.agg #[.int .u8 k, vI vK l, vI vK h]] w fun e w' => e = .returned (.bool (plB k)) ∧ Below w.heap.size w w' := by
 unfold plB
 cases e1 : (k == 116) <;> cases e2 : (k == 102) <;> cases e3 : (k == 99)
 all_goals
  go_enter Tryz.func34, Tryz.ntmps34
  go_wp2_with fail
  go_ret
  exact ⟨by simp [*], (by repeat' first | with_reducible (first | exact hbw | exact bF _ _ | refine bA ?_ ?_ _ | refine bS ?_ ?_ _ | refine bD ?_) | ((try dsimp only); omega) | (simp; done) | (simp; omega))⟩
theorem z4a (w : World) (A B C : Obj) : (((w.alloc A).alloc B).alloc C).heap[w.heap.size + 1 + 1]? = some C := by
 have h := heap_alloc_new ((w.alloc A).alloc B) C
 rw [World.size_alloc, World.size_alloc] at h
 exact h
theorem zFm (w : World) (ak al ah bk bl bh : Int) : Blk w [(w.heap.size, .cells #[.int .u8 ak, vI vK al, vI vK ah] 43 (0, 0)), (w.heap.size + 1, .cells #[.int .u8 bk, vI vK bl, vI vK bh] 43 (0, 0)), (w.heap.size + 1 + 1, .cells #[.int .u8 0, vI vK 0, vI vK 0] 43 (0, 0))] (((w.alloc (.cells #[.int .u8 ak, vI vK al, vI vK ah] 43)).alloc (.cells #[.int .u8 bk, vI vK bl, vI vK bh] 43)).alloc (.cells #[.int .u8 0, vI vK 0, vI vK 0] 43)) := ((((Blk.nil (((((bF _ _).alloc (Nat.le_refl _) _).alloc (by simp) _).alloc (by simp; omega) _))).cons (z4a w _ _ _)).cons (by rw [Below.heap_alloc _ _ _ (by simp)]; exact heap_alloc2_new _ _ _)).cons (by rw [Below.heap_alloc _ _ _ (by simp; omega), Below.heap_alloc _ _ _ (by simp)]; exact heap_alloc_new _ _))
theorem z71 (c ak al ah bk bl bh : Int) : (∀ (n1 : (bk == 0) = true) (w : World), Calls Tryz.prog 22 #[vI vK c, .agg #[.int .u8 ak, vI vK al, vI vK ah], .agg #[.int .u8 bk, vI vK bl, vI vK bh]] w fun e w' => e = .returned (.tuple #[.agg #[.int .u8 0, vI vK 0, vI vK 0], vI vK 8]) ∧ Below w.heap.size w w') ∧ (∀ (n1 : (bk == 0) = false) (n2 : (ak == 0) = true) (n3 : (c != 1) = true) (w : World), Calls Tryz.prog 22 #[vI vK c, .agg #[.int .u8 ak, vI vK al, vI vK ah], .agg #[.int .u8 bk, vI vK bl, vI vK bh]] w fun e w' => e = .returned (.tuple #[.agg #[.int .u8 0, vI vK 0, vI vK 0], vI vK 8]) ∧ Below w.heap.size w w') ∧ (∀ (n1 : (bk == 0) = false) (n2 : (ak == 0) = false) (n3 : (c == 1) = true) (w : World), Calls Tryz.prog 22 #[vI vK c, .agg #[.int .u8 ak, vI vK al, vI vK ah], .agg #[.int .u8 bk, vI vK bl, vI vK bh]] w fun e w' => e = .returned (.tuple #[.agg #[.int .u8 bk, vI vK bl, vI vK bh], vI vK 0]) ∧ Below w.heap.size w w') ∧ (∀ (n1 : (bk == 0) = false) (n2 : (ak == 0) = true) (n3 : (c == 1) = true) (n4 : (c != 1) = false) (w : World), Calls Tryz.prog 22 #[vI vK c, .agg #[.int .u8 ak, vI vK al, vI vK ah], .agg #[.int .u8 bk, vI vK bl, vI vK bh]] w fun e w' => e = .returned (.tuple #[.agg #[.int .u8 bk, vI vK bl, vI vK bh], vI vK 0]) ∧ Below w.heap.size w w') := by
 refine ⟨?_, ?_, ?_, ?_⟩
 intro n1 w
 rotate_left
 intro n1 n2 n3 w
 rotate_left
 intro n1 n2 n3 w
 rotate_left
 intro n1 n2 n3 n4 w
 rotate_left
 all_goals
  have hK0 := zFm w ak al ah bk bl bh
  have hbw := hK0.1
 all_goals
  go_enter Tryz.func22, Tryz.ntmps22
  go_wp2_with fail
  exact bodyPost_ret (by simp [results, Tryz.results22, go_sem, *]) rfl ⟨rfl, (by repeat' first | with_reducible (first | exact hbw | exact hbw1 | exact hbw2 | exact hbw3 | exact bF _ _ | refine bA ?_ ?_ _ | refine bS ?_ ?_ _ | refine bD ?_) | ((try dsimp only); omega) | (simp; done) | (simp; omega))⟩
def zO1 := fun c ak al ah bk bl bh => (@z71 c ak al ah bk bl bh).1
def zO2 := fun c ak al ah bk bl bh => (@z71 c ak al ah bk bl bh).2.1
def zO4 := fun c ak al ah bk bl bh => (@z71 c ak al ah bk bl bh).2.2.1
def zO3 := fun c ak al ah bk bl bh => (@z71 c ak al ah bk bl bh).2.2.2
theorem zK8 (c ak al ah bk bl bh : Int) (w : World) (tl th : Int) (HA : Hid (z0a w)) (HD : Hid (∀ W : World, z0a W → Calls Tryz.prog 32 #[vI vK c, .agg #[vI vK al, vI vK ah], .agg #[vI vK bl, vI vK bh]] W fun e w' => e = .returned (.agg #[vI vK tl, vI vK th]) ∧ Below W.heap.size W w')) (n1 : (bk == 0) = false) (n2 : (ak == 0) = false) (n3 : (c == 1) = false) (n4 : (ak == 110) = true) (n5 : (bk == 110) = true) : Calls Tryz.prog 22 #[vI vK c, .agg #[.int .u8 ak, vI vK al, vI vK ah], .agg #[.int .u8 bk, vI vK bl, vI vK bh]] w fun e w' => e = .returned (.tuple #[.agg #[.int .u8 110, vI vK tl, vI vK th], vI vK 0]) ∧ Below w.heap.size w w' := by
 have hK0 := zFm w ak al ah bk bl bh
 have hbw := hK0.1
 go_enter Tryz.func22, Tryz.ntmps22
 go_upto_region 1 with fail
 have hKx := hK0
 obtain ⟨a0, a1, a2, af0, af1, af2, alt⟩ := row3 (hKx.2 _ mcS); obtain ⟨b0, b1, b2, bf0, bf1, bf2, blt⟩ := row3 (hKx.2 _ (mcO _ mcS)); obtain ⟨z0, z1, z2, zf0, zf1, zf2, zlt⟩ := row3 (hKx.2 _ (mcO _ (mcO _ mcS)))
 go_wp2_with (first | (go_at_call 32; go_must (refine (HD.out _ (HA.out.later hKx.1)).mono ?_; rintro e w3 ⟨rfl, hb3⟩; have hK3 := hKx.later hb3; have hbw3 := hK3.1; obtain ⟨ga, ga0, ga1⟩ := HA.out.later hbw3; clear a0 a1 a2 af0 af1 af2 alt b0 b1 b2 bf0 bf1 bf2 blt z0 z1 z2 zf0 zf1 zf2 zlt; obtain ⟨a0, a1, a2, af0, af1, af2, alt⟩ := row3 (hK3.2 _ mcS); obtain ⟨b0, b1, b2, bf0, bf1, bf2, blt⟩ := row3 (hK3.2 _ (mcO _ mcS)); obtain ⟨z0, z1, z2, zf0, zf1, zf2, zlt⟩ := row3 (hK3.2 _ (mcO _ (mcO _ mcS))))) | fail)
 exact bodyPost_ret (v := .tuple #[.agg #[.int .u8 110, vI vK tl, vI vK th], vI vK 0]) (by simp [results, Tryz.results22, go_sem, *]) rfl ⟨rfl, (by repeat' first | with_reducible (first | exact hbw | exact hbw1 | exact hbw2 | exact hbw3 | exact bF _ _ | refine bA ?_ ?_ _ | refine bS ?_ ?_ _ | refine bD ?_) | ((try dsimp only); omega) | (simp; done) | (simp; omega))⟩
theorem z91 (c ak al ah bk bl bh : Int) (n1 : (bk == 0) = false) (n2 : (ak == 0) = false) (n3 : (c == 1) = false) : (∀ (n4 : (ak == 110) = false) (s1 : (c == 2) = true) (_ : (c != 2) = false) (HPB : Hid (plB bk = false)) (HPA : Hid (plB ak = false)) (w : World), Calls Tryz.prog 22 #[vI vK c, .agg #[.int .u8 ak, vI vK al, vI vK ah], .agg #[.int .u8 bk, vI vK bl, vI vK bh]] w fun e w' => e = .returned (.tuple #[.agg #[.int .u8 0, vI vK 0, vI vK 0], vI vK 1]) ∧ Below w.heap.size w w') ∧ (∀ (n4 : (ak == 110) = true) (n5 : (bk == 110) = false) (s1 : (c == 2) = true) (_ : (c != 2) = false) (HPB : Hid (plB bk = false)) (HPA : Hid (plB ak = false)) (w : World), Calls Tryz.prog 22 #[vI vK c, .agg #[.int .u8 ak, vI vK al, vI vK ah], .agg #[.int .u8 bk, vI vK bl, vI vK bh]] w fun e w' => e = .returned (.tuple #[.agg #[.int .u8 0, vI vK 0, vI vK 0], vI vK 1]) ∧ Below w.heap.size w w') ∧ (∀ (n4 : (ak == 110) = false) (s1 : (c == 2) = true) (_ : (c != 2) = false) (HPB : Hid (plB bk = false)) (HPA : Hid (plB ak = true)) (n6 : (bk != 110) = true) (w : World), Calls Tryz.prog 22 #[vI vK c, .agg #[.int .u8 ak, vI vK al, vI vK ah], .agg #[.int .u8 bk, vI vK bl, vI vK bh]] w fun e w' => e = .returned (.tuple #[.agg #[.int .u8 0, vI vK 0, vI vK 0], vI vK 1]) ∧ Below w.heap.size w w') := by
 refine ⟨?_, ?_, ?_⟩
 intro n4 s1 _ HPB HPA w
 rotate_left
 intro n4 n5 s1 _ HPB HPA w
 rotate_left
 intro n4 s1 _ HPB HPA n6 w
 rotate_left
 all_goals
  have hK0 := zFm w ak al ah bk bl bh
  have hbw := hK0.1
 all_goals
  go_enter Tryz.func22, Tryz.ntmps22
  go_upto_region 8 with fail
  have hKx := hK0
  obtain ⟨a0, a1, a2, af0, af1, af2, alt⟩ := row3 (hKx.2 _ mcS); obtain ⟨b0, b1, b2, bf0, bf1, bf2, blt⟩ := row3 (hKx.2 _ (mcO _ mcS)); obtain ⟨z0, z1, z2, zf0, zf1, zf2, zlt⟩ := row3 (hKx.2 _ (mcO _ (mcO _ mcS)))
  go_wp2_with (first | (go_at_call_of 34 (Value.agg #[Value.int IntKind.u8 bk, Value.int IntKind.i64 bl, Value.int IntKind.i64 bh]); go_must (refine (z3w bk bl bh _).mono ?_; rintro e w1 ⟨rfl, hb1⟩; rw [HPB.out]; have hK1 := hKx.later hb1; clear hKx; have hKx := hK1; have hbw1 := hKx.1; clear a0 a1 a2 af0 af1 af2 alt b0 b1 b2 bf0 bf1 bf2 blt z0 z1 z2 zf0 zf1 zf2 zlt; obtain ⟨a0, a1, a2, af0, af1, af2, alt⟩ := row3 (hKx.2 _ mcS); obtain ⟨b0, b1, b2, bf0, bf1, bf2, blt⟩ := row3 (hKx.2 _ (mcO _ mcS)); obtain ⟨z0, z1, z2, zf0, zf1, zf2, zlt⟩ := row3 (hKx.2 _ (mcO _ (mcO _ mcS))))) | (go_at_call_of 34 (Value.agg #[Value.int IntKind.u8 ak, Value.int IntKind.i64 al, Value.int IntKind.i64 ah]); go_must (refine (z3w ak al ah _).mono ?_; rintro e w2 ⟨rfl, hb2⟩; rw [HPA.out]; have hK2 := hKx.later hb2; clear hKx; have hKx := hK2; have hbw2 := hKx.1; clear a0 a1 a2 af0 af1 af2 alt b0 b1 b2 bf0 bf1 bf2 blt z0 z1 z2 zf0 zf1 zf2 zlt; obtain ⟨a0, a1, a2, af0, af1, af2, alt⟩ := row3 (hKx.2 _ mcS); obtain ⟨b0, b1, b2, bf0, bf1, bf2, blt⟩ := row3 (hKx.2 _ (mcO _ mcS)); obtain ⟨z0, z1, z2, zf0, zf1, zf2, zlt⟩ := row3 (hKx.2 _ (mcO _ (mcO _ mcS))))) | fail)
  exact bodyPost_ret (v := .tuple #[.agg #[.int .u8 0, vI vK 0, vI vK 0], vI vK 1]) (by simp [results, Tryz.results22, go_sem, *]) rfl ⟨rfl, (by repeat' first | with_reducible (first | exact hbw | exact hbw1 | exact hbw2 | exact hbw3 | exact bF _ _ | refine bA ?_ ?_ _ | refine bS ?_ ?_ _ | refine bD ?_) | ((try dsimp only); omega) | (simp; done) | (simp; omega))⟩
def zK5 := fun c ak al ah bk bl bh n1 n2 n3 => (@z91 c ak al ah bk bl bh n1 n2 n3).1
def zK4 := fun c ak al ah bk bl bh n1 n2 n3 => (@z91 c ak al ah bk bl bh n1 n2 n3).2.1
def zNz := fun c ak al ah bk bl bh n1 n2 n3 => (@z91 c ak al ah bk bl bh n1 n2 n3).2.2
theorem z70 (c ak al ah bk bl bh : Int) (n1 : (bk == 0) = false) (n2 : (ak == 0) = false) (n3 : (c == 1) = false) : (∀ (n4 : (ak == 110) = false) (s1 : (c == 2) = false) (_ : (c != 2) = true) (HPA : Hid (plB ak = false)) (w : World), Calls Tryz.prog 22 #[vI vK c, .agg #[.int .u8 ak, vI vK al, vI vK ah], .agg #[.int .u8 bk, vI vK bl, vI vK bh]] w fun e w' => e = .returned (.tuple #[.agg #[.int .u8 0, vI vK 0, vI vK 0], vI vK 1]) ∧ Below w.heap.size w w') ∧ (∀ (n4 : (ak == 110) = true) (n5 : (bk == 110) = false) (s1 : (c == 2) = false) (_ : (c != 2) = true) (HPA : Hid (plB ak = false)) (w : World), Calls Tryz.prog 22 #[vI vK c, .agg #[.int .u8 ak, vI vK al, vI vK ah], .agg #[.int .u8 bk, vI vK bl, vI vK bh]] w fun e w' => e = .returned (.tuple #[.agg #[.int .u8 0, vI vK 0, vI vK 0], vI vK 1]) ∧ Below w.heap.size w w') ∧ (∀ (n4 : (ak == 110) = false) (s1 : (c == 2) = false) (_ : (c != 2) = true) (HPA : Hid (plB ak = true)) (n6 : (bk != 110) = true) (w : World), Calls Tryz.prog 22 #[vI vK c, .agg #[.int .u8 ak, vI vK al, vI vK ah], .agg #[.int .u8 bk, vI vK bl, vI vK bh]] w fun e w' => e = .returned (.tuple #[.agg #[.int .u8 0, vI vK 0, vI vK 0], vI vK 1]) ∧ Below w.heap.size w w') ∧ (∀ (n4 : (ak == 110) = false) (s1 : (c == 2) = false) (s2 : (c != 2) = true) (HPA : Hid (plB ak = true)) (n6 : (bk != 110) = false) (n7 : (c != 3) = true) (w : World), Calls Tryz.prog 22 #[vI vK c, .agg #[.int .u8 ak, vI vK al, vI vK ah], .agg #[.int .u8 bk, vI vK bl, vI vK bh]] w fun e w' => e = .returned (.tuple #[.agg #[.int .u8 0, vI vK 0, vI vK 0], vI vK 1]) ∧ Below w.heap.size w w') := by
 refine ⟨?_, ?_, ?_, ?_⟩
 intro n4 s1 _ HPA w
 rotate_left
 intro n4 n5 s1 _ HPA w
 rotate_left
 intro n4 s1 _ HPA n6 w
 rotate_left
 intro n4 s1 s2 HPA n6 n7 w
 rotate_left
 all_goals
  have hK0 := zFm w ak al ah bk bl bh
  have hbw := hK0.1
 all_goals
  go_enter Tryz.func22, Tryz.ntmps22
  go_upto_region 8 with fail
  have hKx := hK0
  obtain ⟨a0, a1, a2, af0, af1, af2, alt⟩ := row3 (hKx.2 _ mcS); obtain ⟨b0, b1, b2, bf0, bf1, bf2, blt⟩ := row3 (hKx.2 _ (mcO _ mcS)); obtain ⟨z0, z1, z2, zf0, zf1, zf2, zlt⟩ := row3 (hKx.2 _ (mcO _ (mcO _ mcS)))
  go_wp2_with (first | (go_at_call_of 34 (Value.agg #[Value.int IntKind.u8 ak, Value.int IntKind.i64 al, Value.int IntKind.i64 ah]); go_must (refine (z3w ak al ah _).mono ?_; rintro e w2 ⟨rfl, hb2⟩; rw [HPA.out]; have hK2 := hKx.later hb2; clear hKx; have hKx := hK2; have hbw2 := hKx.1; clear a0 a1 a2 af0 af1 af2 alt b0 b1 b2 bf0 bf1 bf2 blt z0 z1 z2 zf0 zf1 zf2 zlt; obtain ⟨a0, a1, a2, af0, af1, af2, alt⟩ := row3 (hKx.2 _ mcS); obtain ⟨b0, b1, b2, bf0, bf1, bf2, blt⟩ := row3 (hKx.2 _ (mcO _ mcS)); obtain ⟨z0, z1, z2, zf0, zf1, zf2, zlt⟩ := row3 (hKx.2 _ (mcO _ (mcO _ mcS))))) | fail)
  exact bodyPost_ret (v := .tuple #[.agg #[.int .u8 0, vI vK 0, vI vK 0], vI vK 1]) (by simp [results, Tryz.results22, go_sem, *]) rfl ⟨rfl, (by repeat' first | with_reducible (first | exact hbw | exact hbw1 | exact hbw2 | exact hbw3 | exact bF _ _ | refine bA ?_ ?_ _ | refine bS ?_ ?_ _ | refine bD ?_) | ((try dsimp only); omega) | (simp; done) | (simp; omega))⟩
def zK7 := fun c ak al ah bk bl bh n1 n2 n3 => (@z70 c ak al ah bk bl bh n1 n2 n3).1
def zK6 := fun c ak al ah bk bl bh n1 n2 n3 => (@z70 c ak al ah bk bl bh n1 n2 n3).2.1
def zO0 := fun c ak al ah bk bl bh n1 n2 n3 => (@z70 c ak al ah bk bl bh n1 n2 n3).2.2.1
def zS6 := fun c ak al ah bk bl bh n1 n2 n3 => (@z70 c ak al ah bk bl bh n1 n2 n3).2.2.2
theorem z90 (c ak al ah bk bl bh : Int) (w : World) (tl th : Int) (HA : Hid (z0a w)) (HD : Hid (∀ W : World, z0a W → Calls Tryz.prog 32 #[vI vK c, .agg #[vI vK al, vI vK ah], .agg #[vI vK bl, vI vK bh]] W fun e w' => e = .returned (.agg #[vI vK tl, vI vK th]) ∧ Below W.heap.size W w')) (n1 : (bk == 0) = false) (n2 : (ak == 0) = false) (n3 : (c == 1) = false) (n4 : (ak == 110) = false) (s1 : (c == 2) = false) (s2 : (c != 2) = true) (HPA : Hid (plB ak = true)) (n6 : (bk != 110) = false) (n7 : (c != 3) = false) : (∀ (e1 : (tl == -9223372036854775808) = true) (e2 : (th == 9223372036854775807) = true), Calls Tryz.prog 22 #[vI vK c, .agg #[.int .u8 ak, vI vK al, vI vK ah], .agg #[.int .u8 bk, vI vK bl, vI vK bh]] w fun e w' => e = .returned (.tuple #[.agg #[.int .u8 0, vI vK 0, vI vK 0], vI vK 2]) ∧ Below w.heap.size w w') ∧ (∀ (e1 : (tl == -9223372036854775808) = false), Calls Tryz.prog 22 #[vI vK c, .agg #[.int .u8 ak, vI vK al, vI vK ah], .agg #[.int .u8 bk, vI vK bl, vI vK bh]] w fun e w' => e = .returned (.tuple #[.agg #[.int .u8 ak, vI vK tl, vI vK th], vI vK 0]) ∧ Below w.heap.size w w') ∧ (∀ (e1 : (tl == -9223372036854775808) = true) (e2 : (th == 9223372036854775807) = false), Calls Tryz.prog 22 #[vI vK c, .agg #[.int .u8 ak, vI vK al, vI vK ah], .agg #[.int .u8 bk, vI vK bl, vI vK bh]] w fun e w' => e = .returned (.tuple #[.agg #[.int .u8 ak, vI vK tl, vI vK th], vI vK 0]) ∧ Below w.heap.size w w') := by
 refine ⟨?_, ?_, ?_⟩
 intro e1 e2
 rotate_left
 intro e1
 rotate_left
 intro e1 e2
 rotate_left
 all_goals
  have hK0 := zFm w ak al ah bk bl bh
  have hbw := hK0.1
 all_goals
  go_enter Tryz.func22, Tryz.ntmps22
  go_upto_region 8 with fail
  have hKx := hK0
  obtain ⟨a0, a1, a2, af0, af1, af2, alt⟩ := row3 (hKx.2 _ mcS); obtain ⟨b0, b1, b2, bf0, bf1, bf2, blt⟩ := row3 (hKx.2 _ (mcO _ mcS)); obtain ⟨z0, z1, z2, zf0, zf1, zf2, zlt⟩ := row3 (hKx.2 _ (mcO _ (mcO _ mcS)))
  go_wp2_with (first | (go_at_call_of 34 (Value.agg #[Value.int IntKind.u8 ak, Value.int IntKind.i64 al, Value.int IntKind.i64 ah]); go_must (refine (z3w ak al ah _).mono ?_; rintro e w2 ⟨rfl, hb2⟩; rw [HPA.out]; have hK2 := hKx.later hb2; clear hKx; have hKx := hK2; have hbw2 := hKx.1; clear a0 a1 a2 af0 af1 af2 alt b0 b1 b2 bf0 bf1 bf2 blt z0 z1 z2 zf0 zf1 zf2 zlt; obtain ⟨a0, a1, a2, af0, af1, af2, alt⟩ := row3 (hKx.2 _ mcS); obtain ⟨b0, b1, b2, bf0, bf1, bf2, blt⟩ := row3 (hKx.2 _ (mcO _ mcS)); obtain ⟨z0, z1, z2, zf0, zf1, zf2, zlt⟩ := row3 (hKx.2 _ (mcO _ (mcO _ mcS))))) | (go_at_call 32; go_must (refine (HD.out _ (HA.out.later hKx.1)).mono ?_; rintro e w3 ⟨rfl, hb3⟩; have hK3 := hKx.later hb3; have hbw3 := hK3.1; obtain ⟨ga, ga0, ga1⟩ := HA.out.later hbw3; clear a0 a1 a2 af0 af1 af2 alt b0 b1 b2 bf0 bf1 bf2 blt z0 z1 z2 zf0 zf1 zf2 zlt; obtain ⟨a0, a1, a2, af0, af1, af2, alt⟩ := row3 (hK3.2 _ mcS); obtain ⟨b0, b1, b2, bf0, bf1, bf2, blt⟩ := row3 (hK3.2 _ (mcO _ mcS)); obtain ⟨z0, z1, z2, zf0, zf1, zf2, zlt⟩ := row3 (hK3.2 _ (mcO _ (mcO _ mcS))))) | fail)
  exact bodyPost_ret (by simp [results, Tryz.results22, go_sem, *]) rfl ⟨rfl, (by repeat' first | with_reducible (first | exact hbw | exact hbw1 | exact hbw2 | exact hbw3 | exact bF _ _ | refine bA ?_ ?_ _ | refine bS ?_ ?_ _ | refine bD ?_) | ((try dsimp only); omega) | (simp; done) | (simp; omega))⟩
def zK3 := fun c ak al ah bk bl bh w tl th HA HD n1 n2 n3 n4 s1 s2 HPA n6 n7 => (@z90 c ak al ah bk bl bh w tl th HA HD n1 n2 n3 n4 s1 s2 HPA n6 n7).1
def zK2 := fun c ak al ah bk bl bh w tl th HA HD n1 n2 n3 n4 s1 s2 HPA n6 n7 => (@z90 c ak al ah bk bl bh w tl th HA HD n1 n2 n3 n4 s1 s2 HPA n6 n7).2.1
def zK1 := fun c ak al ah bk bl bh w tl th HA HD n1 n2 n3 n4 s1 s2 HPA n6 n7 => (@z90 c ak al ah bk bl bh w tl th HA HD n1 n2 n3 n4 s1 s2 HPA n6 n7).2.2
theorem z8z (c ak al ah bk bl bh : Int) (w : World) (tl th : Int) (HA : Hid (z0a w)) (HD : Hid (∀ W : World, z0a W → Calls Tryz.prog 32 #[vI vK c, .agg #[vI vK al, vI vK ah], .agg #[vI vK bl, vI vK bh]] W fun e w' => e = .returned (.agg #[vI vK tl, vI vK th]) ∧ Below W.heap.size W w')) (n1 : (bk == 0) = false) (n2 : (ak == 0) = false) (n3 : (c == 1) = false) (n4 : (ak == 110) = false) (s1 : (c == 2) = true) (s2 : (c != 2) = false) (HPB : Hid (plB bk = false)) (HPA : Hid (plB ak = true)) (n6 : (bk != 110) = false) : (∀ (e1 : (tl == -9223372036854775808) = true) (e2 : (th == 9223372036854775807) = true), Calls Tryz.prog 22 #[vI vK c, .agg #[.int .u8 ak, vI vK al, vI vK ah], .agg #[.int .u8 bk, vI vK bl, vI vK bh]] w fun e w' => e = .returned (.tuple #[.agg #[.int .u8 0, vI vK 0, vI vK 0], vI vK 2]) ∧ Below w.heap.size w w') ∧ (∀ (e1 : (tl == -9223372036854775808) = false), Calls Tryz.prog 22 #[vI vK c, .agg #[.int .u8 ak, vI vK al, vI vK ah], .agg #[.int .u8 bk, vI vK bl, vI vK bh]] w fun e w' => e = .returned (.tuple #[.agg #[.int .u8 ak, vI vK tl, vI vK th], vI vK 0]) ∧ Below w.heap.size w w') ∧ (∀ (e1 : (tl == -9223372036854775808) = true) (e2 : (th == 9223372036854775807) = false), Calls Tryz.prog 22 #[vI vK c, .agg #[.int .u8 ak, vI vK al, vI vK ah], .agg #[.int .u8 bk, vI vK bl, vI vK bh]] w fun e w' => e = .returned (.tuple #[.agg #[.int .u8 ak, vI vK tl, vI vK th], vI vK 0]) ∧ Below w.heap.size w w') := by
 refine ⟨?_, ?_, ?_⟩
 intro e1 e2
 rotate_left
 intro e1
 rotate_left
 intro e1 e2
 rotate_left
 all_goals
  have hK0 := zFm w ak al ah bk bl bh
  have hbw := hK0.1
 all_goals
  go_enter Tryz.func22, Tryz.ntmps22
  go_upto_region 8 with fail
  have hKx := hK0
  obtain ⟨a0, a1, a2, af0, af1, af2, alt⟩ := row3 (hKx.2 _ mcS); obtain ⟨b0, b1, b2, bf0, bf1, bf2, blt⟩ := row3 (hKx.2 _ (mcO _ mcS)); obtain ⟨z0, z1, z2, zf0, zf1, zf2, zlt⟩ := row3 (hKx.2 _ (mcO _ (mcO _ mcS)))
  go_wp2_with (first | (go_at_call_of 34 (Value.agg #[Value.int IntKind.u8 bk, Value.int IntKind.i64 bl, Value.int IntKind.i64 bh]); go_must (refine (z3w bk bl bh _).mono ?_; rintro e w1 ⟨rfl, hb1⟩; rw [HPB.out]; have hK1 := hKx.later hb1; clear hKx; have hKx := hK1; have hbw1 := hKx.1; clear a0 a1 a2 af0 af1 af2 alt b0 b1 b2 bf0 bf1 bf2 blt z0 z1 z2 zf0 zf1 zf2 zlt; obtain ⟨a0, a1, a2, af0, af1, af2, alt⟩ := row3 (hKx.2 _ mcS); obtain ⟨b0, b1, b2, bf0, bf1, bf2, blt⟩ := row3 (hKx.2 _ (mcO _ mcS)); obtain ⟨z0, z1, z2, zf0, zf1, zf2, zlt⟩ := row3 (hKx.2 _ (mcO _ (mcO _ mcS))))) | (go_at_call_of 34 (Value.agg #[Value.int IntKind.u8 ak, Value.int IntKind.i64 al, Value.int IntKind.i64 ah]); go_must (refine (z3w ak al ah _).mono ?_; rintro e w2 ⟨rfl, hb2⟩; rw [HPA.out]; have hK2 := hKx.later hb2; clear hKx; have hKx := hK2; have hbw2 := hKx.1; clear a0 a1 a2 af0 af1 af2 alt b0 b1 b2 bf0 bf1 bf2 blt z0 z1 z2 zf0 zf1 zf2 zlt; obtain ⟨a0, a1, a2, af0, af1, af2, alt⟩ := row3 (hKx.2 _ mcS); obtain ⟨b0, b1, b2, bf0, bf1, bf2, blt⟩ := row3 (hKx.2 _ (mcO _ mcS)); obtain ⟨z0, z1, z2, zf0, zf1, zf2, zlt⟩ := row3 (hKx.2 _ (mcO _ (mcO _ mcS))))) | (go_at_call 32; go_must (refine (HD.out _ (HA.out.later hKx.1)).mono ?_; rintro e w3 ⟨rfl, hb3⟩; have hK3 := hKx.later hb3; have hbw3 := hK3.1; obtain ⟨ga, ga0, ga1⟩ := HA.out.later hbw3; clear a0 a1 a2 af0 af1 af2 alt b0 b1 b2 bf0 bf1 bf2 blt z0 z1 z2 zf0 zf1 zf2 zlt; obtain ⟨a0, a1, a2, af0, af1, af2, alt⟩ := row3 (hK3.2 _ mcS); obtain ⟨b0, b1, b2, bf0, bf1, bf2, blt⟩ := row3 (hK3.2 _ (mcO _ mcS)); obtain ⟨z0, z1, z2, zf0, zf1, zf2, zlt⟩ := row3 (hK3.2 _ (mcO _ (mcO _ mcS))))) | fail)
  exact bodyPost_ret (by simp [results, Tryz.results22, go_sem, *]) rfl ⟨rfl, (by repeat' first | with_reducible (first | exact hbw | exact hbw1 | exact hbw2 | exact hbw3 | exact bF _ _ | refine bA ?_ ?_ _ | refine bS ?_ ?_ _ | refine bD ?_) | ((try dsimp only); omega) | (simp; done) | (simp; omega))⟩
def zK0 := fun c ak al ah bk bl bh w tl th HA HD n1 n2 n3 n4 s1 s2 HPB HPA n6 => (@z8z c ak al ah bk bl bh w tl th HA HD n1 n2 n3 n4 s1 s2 HPB HPA n6).1
def zJz := fun c ak al ah bk bl bh w tl th HA HD n1 n2 n3 n4 s1 s2 HPB HPA n6 => (@z8z c ak al ah bk bl bh w tl th HA HD n1 n2 n3 n4 s1 s2 HPB HPA n6).2.1
def zJy := fun c ak al ah bk bl bh w tl th HA HD n1 n2 n3 n4 s1 s2 HPB HPA n6 => (@z8z c ak al ah bk bl bh w tl th HA HD n1 n2 n3 n4 s1 s2 HPB HPA n6).2.2
theorem z6z (c ak al ah bk bl bh : Int) : (∀ (n1 : (bk == 0) = false) (n2 : (ak == 0) = false) (n3 : (c == 1) = false) (n4 : (ak == 110) = false) (s1 : (c == 2) = true) (_ : (c != 2) = false) (HPB : Hid (plB bk = true)) (n6 : (ak != 110) = true) (w : World), Calls Tryz.prog 22 #[vI vK c, .agg #[.int .u8 ak, vI vK al, vI vK ah], .agg #[.int .u8 bk, vI vK bl, vI vK bh]] w fun e w' => e = .returned (.tuple #[.agg #[.int .u8 0, vI vK 0, vI vK 0], vI vK 1]) ∧ Below w.heap.size w w') ∧ (∀ (w : World) (tl th : Int) (HA : Hid (z0a w)) (HD : Hid (∀ W : World, z0a W → Calls Tryz.prog 32 #[vI vK c, .agg #[vI vK bl, vI vK bh], .agg #[vI vK al, vI vK ah]] W fun e w' => e = .returned (.agg #[vI vK tl, vI vK th]) ∧ Below W.heap.size W w')) (n1 : (bk == 0) = false) (n2 : (ak == 0) = false) (n3 : (c == 1) = false) (n4 : (ak == 110) = true) (n5 : (bk == 110) = false) (s1 : (c == 2) = true) (s2 : (c != 2) = false) (HPB : Hid (plB bk = true)) (n6 : (ak != 110) = false) (e1 : (tl == -9223372036854775808) = true) (e2 : (th == 9223372036854775807) = true), Calls Tryz.prog 22 #[vI vK c, .agg #[.int .u8 ak, vI vK al, vI vK ah], .agg #[.int .u8 bk, vI vK bl, vI vK bh]] w fun e w' => e = .returned (.tuple #[.agg #[.int .u8 0, vI vK 0, vI vK 0], vI vK 2]) ∧ Below w.heap.size w w') ∧ (∀ (w : World) (tl th : Int) (HA : Hid (z0a w)) (HD : Hid (∀ W : World, z0a W → Calls Tryz.prog 32 #[vI vK c, .agg #[vI vK bl, vI vK bh], .agg #[vI vK al, vI vK ah]] W fun e w' => e = .returned (.agg #[vI vK tl, vI vK th]) ∧ Below W.heap.size W w')) (n1 : (bk == 0) = false) (n2 : (ak == 0) = false) (n3 : (c == 1) = false) (n4 : (ak == 110) = true) (n5 : (bk == 110) = false) (s1 : (c == 2) = true) (s2 : (c != 2) = false) (HPB : Hid (plB bk = true)) (n6 : (ak != 110) = false) (e1 : (tl == -9223372036854775808) = false), Calls Tryz.prog 22 #[vI vK c, .agg #[.int .u8 ak, vI vK al, vI vK ah], .agg #[.int .u8 bk, vI vK bl, vI vK bh]] w fun e w' => e = .returned (.tuple #[.agg #[.int .u8 bk, vI vK tl, vI vK th], vI vK 0]) ∧ Below w.heap.size w w') ∧ (∀ (w : World) (tl th : Int) (HA : Hid (z0a w)) (HD : Hid (∀ W : World, z0a W → Calls Tryz.prog 32 #[vI vK c, .agg #[vI vK bl, vI vK bh], .agg #[vI vK al, vI vK ah]] W fun e w' => e = .returned (.agg #[vI vK tl, vI vK th]) ∧ Below W.heap.size W w')) (n1 : (bk == 0) = false) (n2 : (ak == 0) = false) (n3 : (c == 1) = false) (n4 : (ak == 110) = true) (n5 : (bk == 110) = false) (s1 : (c == 2) = true) (s2 : (c != 2) = false) (HPB : Hid (plB bk = true)) (n6 : (ak != 110) = false) (e1 : (tl == -9223372036854775808) = true) (e2 : (th == 9223372036854775807) = false), Calls Tryz.prog 22 #[vI vK c, .agg #[.int .u8 ak, vI vK al, vI vK ah], .agg #[.int .u8 bk, vI vK bl, vI vK bh]] w fun e w' => e = .returned (.tuple #[.agg #[.int .u8 bk, vI vK tl, vI vK th], vI vK 0]) ∧ Below w.heap.size w w') := by
 refine ⟨?_, ?_, ?_, ?_⟩
 intro n1 n2 n3 n4 s1 _ HPB n6 w
 rotate_left
 intro w tl th HA HD n1 n2 n3 n4 n5 s1 s2 HPB n6 e1 e2
 rotate_left
 intro w tl th HA HD n1 n2 n3 n4 n5 s1 s2 HPB n6 e1
 rotate_left
 intro w tl th HA HD n1 n2 n3 n4 n5 s1 s2 HPB n6 e1 e2
 rotate_left
 all_goals
  have hK0 := zFm w ak al ah bk bl bh
  have hbw := hK0.1
 all_goals
  go_enter Tryz.func22, Tryz.ntmps22
  go_upto_region 8 with fail
  have hKx := hK0
  obtain ⟨a0, a1, a2, af0, af1, af2, alt⟩ := row3 (hKx.2 _ mcS); obtain ⟨b0, b1, b2, bf0, bf1, bf2, blt⟩ := row3 (hKx.2 _ (mcO _ mcS)); obtain ⟨z0, z1, z2, zf0, zf1, zf2, zlt⟩ := row3 (hKx.2 _ (mcO _ (mcO _ mcS)))
  go_upto_region 10 with (first | (go_at_call_of 34 (Value.agg #[Value.int IntKind.u8 bk, Value.int IntKind.i64 bl, Value.int IntKind.i64 bh]); go_must (refine (z3w bk bl bh _).mono ?_; rintro e w1 ⟨rfl, hb1⟩; rw [HPB.out]; have hK1 := hKx.later hb1; clear hKx; have hKx := hK1; have hbw1 := hKx.1; clear a0 a1 a2 af0 af1 af2 alt b0 b1 b2 bf0 bf1 bf2 blt z0 z1 z2 zf0 zf1 zf2 zlt; obtain ⟨a0, a1, a2, af0, af1, af2, alt⟩ := row3 (hKx.2 _ mcS); obtain ⟨b0, b1, b2, bf0, bf1, bf2, blt⟩ := row3 (hKx.2 _ (mcO _ mcS)); obtain ⟨z0, z1, z2, zf0, zf1, zf2, zlt⟩ := row3 (hKx.2 _ (mcO _ (mcO _ mcS))))) | fail)
  have hs1 := hbw1.size
  have hK5 : Blk w [(w.heap.size, .cells #[.int .u8 bk, vI vK bl, vI vK bh] 43 (0, 0)), (w.heap.size + 1, .cells #[.int .u8 ak, vI vK al, vI vK ah] 43 (0, 0)), (w.heap.size + 1 + 1, .cells #[.int .u8 0, vI vK 0, vI vK 0] 43 (0, 0))] _ := ((((Blk.nil (((((((hbw1.setCell (Nat.le_refl _) _).setCell (Nat.le_refl _) _).setCell (Nat.le_refl _) _).setCell (by show _ ≤ w.heap.size + 1; omega) _).setCell (by show _ ≤ w.heap.size + 1; omega) _).setCell (by show _ ≤ w.heap.size + 1; omega) _))).cons (off3 (off3 (hKx.2 _ (mcO _ (mcO _ mcS))) (by omega)) (by omega))).cons (put3 (off3 (hKx.2 _ (mcO _ mcS)) (by omega)))).cons (off3 (put3 (hKx.2 _ mcS)) (by omega)))
  clear hKx hK1
  have hKx := hK5
  have hbw5 := hKx.1
  clear hK5 hbw1 hb1 hbw
  clear a0 a1 a2 af0 af1 af2 alt b0 b1 b2 bf0 bf1 bf2 blt z0 z1 z2 zf0 zf1 zf2 zlt
  generalize (((((w1.setCell ⟨w.heap.size, 0, none⟩ (.int .u8 bk)).setCell ⟨w.heap.size, 1, none⟩ (vI vK bl)).setCell ⟨w.heap.size, 2, none⟩ (vI vK bh)).setCell ⟨w.heap.size + 1, 0, none⟩ (.int .u8 ak)).setCell ⟨w.heap.size + 1, 1, none⟩ (vI vK al)).setCell ⟨w.heap.size + 1, 2, none⟩ (vI vK ah) = w5 at hKx hbw5 ⊢
  obtain ⟨a0, a1, a2, af0, af1, af2, alt⟩ := row3 (hKx.2 _ mcS); obtain ⟨b0, b1, b2, bf0, bf1, bf2, blt⟩ := row3 (hKx.2 _ (mcO _ mcS)); obtain ⟨z0, z1, z2, zf0, zf1, zf2, zlt⟩ := row3 (hKx.2 _ (mcO _ (mcO _ mcS)))
 ·go_wp2_with (first | (go_at_call_of 34 (Value.agg #[Value.int IntKind.u8 bk, Value.int IntKind.i64 bl, Value.int IntKind.i64 bh]); go_must (refine (z3w bk bl bh _).mono ?_; rintro e w2 ⟨rfl, hb2⟩; rw [HPB.out]; have hK2 := hKx.later hb2; clear hKx; have hKx := hK2; have hbw2 := hKx.1; clear a0 a1 a2 af0 af1 af2 alt b0 b1 b2 bf0 bf1 bf2 blt z0 z1 z2 zf0 zf1 zf2 zlt; obtain ⟨a0, a1, a2, af0, af1, af2, alt⟩ := row3 (hKx.2 _ mcS); obtain ⟨b0, b1, b2, bf0, bf1, bf2, blt⟩ := row3 (hKx.2 _ (mcO _ mcS)); obtain ⟨z0, z1, z2, zf0, zf1, zf2, zlt⟩ := row3 (hKx.2 _ (mcO _ (mcO _ mcS))))) | fail)
  exact bodyPost_ret (v := .tuple #[.agg #[.int .u8 0, vI vK 0, vI vK 0], vI vK 1]) (by simp [results, Tryz.results22, go_sem, *]) rfl ⟨rfl, (by repeat' first | with_reducible (first | exact hbw | exact hbw1 | exact hbw2 | exact hbw3 | exact bF _ _ | refine bA ?_ ?_ _ | refine bS ?_ ?_ _ | refine bD ?_) | ((try dsimp only); omega) | (simp; done) | (simp; omega))⟩
 iterate 3
  ·go_wp2_with (first | (go_at_call_of 34 (Value.agg #[Value.int IntKind.u8 bk, Value.int IntKind.i64 bl, Value.int IntKind.i64 bh]); go_must (refine (z3w bk bl bh _).mono ?_; rintro e w2 ⟨rfl, hb2⟩; rw [HPB.out]; have hK2 := hKx.later hb2; clear hKx; have hKx := hK2; have hbw2 := hKx.1; clear a0 a1 a2 af0 af1 af2 alt b0 b1 b2 bf0 bf1 bf2 blt z0 z1 z2 zf0 zf1 zf2 zlt; obtain ⟨a0, a1, a2, af0, af1, af2, alt⟩ := row3 (hKx.2 _ mcS); obtain ⟨b0, b1, b2, bf0, bf1, bf2, blt⟩ := row3 (hKx.2 _ (mcO _ mcS)); obtain ⟨z0, z1, z2, zf0, zf1, zf2, zlt⟩ := row3 (hKx.2 _ (mcO _ (mcO _ mcS))))) | (go_at_call 32; go_must (refine (HD.out _ (HA.out.later hKx.1)).mono ?_; rintro e w3 ⟨rfl, hb3⟩; have hK3 := hKx.later hb3; have hbw3 := hK3.1; obtain ⟨ga, ga0, ga1⟩ := HA.out.later hbw3; clear a0 a1 a2 af0 af1 af2 alt b0 b1 b2 bf0 bf1 bf2 blt z0 z1 z2 zf0 zf1 zf2 zlt; obtain ⟨a0, a1, a2, af0, af1, af2, alt⟩ := row3 (hK3.2 _ mcS); obtain ⟨b0, b1, b2, bf0, bf1, bf2, blt⟩ := row3 (hK3.2 _ (mcO _ mcS)); obtain ⟨z0, z1, z2, zf0, zf1, zf2, zlt⟩ := row3 (hK3.2 _ (mcO _ (mcO _ mcS))))) | fail)
   exact bodyPost_ret (by simp [results, Tryz.results22, go_sem, *]) rfl ⟨rfl, (by repeat' first | with_reducible (first | exact hbw | exact hbw1 | exact hbw2 | exact hbw3 | exact bF _ _ | refine bA ?_ ?_ _ | refine bS ?_ ?_ _ | refine bD ?_) | ((try dsimp only); omega) | (simp; done) | (simp; omega))⟩
def zS5 := fun c ak al ah bk bl bh => (@z6z c ak al ah bk bl bh).1
def zNy := fun c ak al ah bk bl bh => (@z6z c ak al ah bk bl bh).2.1
def zNx := fun c ak al ah bk bl bh => (@z6z c ak al ah bk bl bh).2.2.1
def zNw := fun c ak al ah bk bl bh => (@z6z c ak al ah bk bl bh).2.2.2
end Go.Proofs.YteenhdoaminkeaaGreatDoor
