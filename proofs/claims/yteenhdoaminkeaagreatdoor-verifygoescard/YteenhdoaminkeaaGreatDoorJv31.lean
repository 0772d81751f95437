/-
 What package verify's goAll returns: all ways of a list of right steps, each wholly ahead of the next one. Conditions: the list's cells hold right steps; numbers are of 64 bits. What package verify's Verify returns: what is wrong with the list or with a step; the first thing that may go wrong on a way; or between which numbers all ways end. Conditions: the list's cells hold steps of 64 bits.
-/
import Derived.Test.YteenhdoaminkeaaGreatDoorJv24
import Derived.Test.YteenhdoaminkeaaGreatDoorJv16
set_option maxHeartbeats 40000000
open Go.Value renaming int → vI
open Go.IntKind renaming i64 → vK
open Go.RowKit.Below renaming alloc → bA, setCell → bS, drew → bD, refl → bF
set_option maxRecDepth 1000000
set_option linter.defProp false
set_option linter.unusedVariables false
set_option linter.unusedSimpArgs false
namespace Go.Proofs.YteenhdoaminkeaaGreatDoor
open Go.ChangeShapes Go.WideShapes Go.ChangeAt Go.RowKit
attribute [local simp] z00 z0y z0o
theorem zCy (bk off len cap : Nat) (C D S O N : Nat → Int) (R : Nat → Bool) (w : World) (h1 : 1 ≤ len) (h2 : len ≤ 200) (hbk : bk < w.heap.size) (hst : z33 w bk off len C D S R O N) (hr : ∀ i, i < len → z9q (C i) (D i) (S i) (R i) (O i) (N i) len i) (hf : ∀ i, i < len → In64 (O i) ∧ In64 (N i)) :
  Calls Tryz.prog 13 #[.slice (some ⟨bk, off, none⟩) len cap] w fun e w' => zUb w (goF C D S R O N 4000 [(0, way0)] []) e w' := by
 obtain ⟨X, hX⟩ : ∃ X, goF C D S R O N 4000 [(0, way0)] [] = X := ⟨_, rfl⟩
 rw [hX]
 have HX : Hid (goF C D S R O N 4000 [(0, way0)] [] = X) := hX
 have HST : Hid (z33 w bk off len C D S R O N) := hst
 have HR : Hid (∀ i, i < len → z9q (C i) (D i) (S i) (R i) (O i) (N i) len i) := hr
 have HF : Hid (∀ i, i < len → In64 (O i) ∧ In64 (N i)) := hf
 clear hX hst hr hf
 go_enter Tryz.func13, Tryz.ntmps13
 go_upto_region 2 with fail
 go_step
 (refine z0m rfl 25 #[] (by go_simp; try rfl) (.agg (z06 0 way0)) (zHe w) ?_)
 intro w1 hb1
 simp only [Act.put, siA, scZ, scS]
 refine z1l rfl (.tmp 13) 0 way0 rfl rfl ?_
 simp only [Act.put, siA, scZ, scS]
 have hA1 := z0g.made w1 w.heap.size [(0, way0)] hb1.size (by unfold maxLen; simp)
 have hB1 := hb1.alloc hb1.size (.cells (z0s [(0, way0)]).toArray 76)
 have HG : Hid (GoSt w len C D S R O N X 0 [(0, way0)] [] (.slice (some ⟨w1.heap.size, 0, none⟩) 1 1) (.slice none 0 0) (w1.alloc (.cells (z0s [(0, way0)]).toArray 76))) :=
  ⟨by omega, hB1, hA1, z36.nil _ _, fun k _ e => absurd e (by simp [Value.ownBlock]), fun x hx => by rw [List.mem_singleton.mp hx]; exact ⟨h1, zDe⟩, by simp, by simp, HX.out⟩
 clear hA1 hB1 hb1
 generalize (w1.alloc (.cells (z0s [(0, way0)]).toArray 76)) = w2 at HG ⊢
 generalize w1.heap.size = g1 at HG ⊢
 go_wp2_with fail
 go_loopw [4, 5, 6] (fun ve vw vl wr => ∃ (k : Nat) (st : List (Nat × Way)) (es : List Kno), vl = vI vK ((k : Int) + 1) ∧ Hid (GoSt w len C D S R O N X k st es vw ve wr)) (fun _ _ vl _ => 4001 - (intOf vl).toNat)
 case atStart => exact ⟨0, [(0, way0)], [], rfl, HG.out⟩
 case round =>
  obtain ⟨k, st, es, rfl, H⟩ := hrel
  clear HG
  cases st with
  | nil =>
   obtain ⟨a, cp, hv⟩ := H.out.ways.shape
   rw [zFy] at hv
   subst hv
   go_wp2_with fail
   exact bodyPost_ret (v := .tuple #[u4, .nilIface]) (by simp [results, Tryz.results13, go_sem]) rfl ⟨H.out.below, (by rw [← H.out.go, zFh]; exact ⟨_, rfl, H.out.ends, Nat.le_trans H.out.esl H.out.k4⟩)⟩
  | cons x st =>
   obtain ⟨pc, y⟩ := x
   have hw0 := H.out.ways
   rw [zP0] at hw0
   obtain ⟨g, cp, hv, hcp, hcm, hg0, hg1⟩ := hw0.more
   subst hv
   have hpop := hw0.pop
   have hel := hw0.elem (l2 := [])
   have hml := zFy st
   have hml2 := H.out.stl
   have hk4 := H.out.k4
   rw [List.length_cons] at hml2
   generalize hm : (posL st.reverse).length = m at *
   have HP : Hid (z0g wr w.heap.size (.slice (some ⟨g, 0, none⟩) m cp) (posL st.reverse)) := hpop
   have HE : Hid (wr.rangeAt g (m * 82) (z06 (pc : Int) y).toList) := hel
   have HM : Hid ((posL st.reverse).length = m) := hm
   have hm1 : (m : Int) ≤ 4000 := by omega
   have hm0 : (0 : Int) ≤ (m : Int) := by omega
   have hm2 : (m : Int) < ((m + 1 : Nat) : Int) := by omega
   have hcm' : cp ≤ 9223372036854775807 := hcm
   clear hpop hel hm hw0 hml hcm
   go_upto_region 7 with fail
   go_step
   (refine z03 rfl (.slice (some ⟨g, 0, none⟩) (m + 1) cp) wr (by go_simp; try rfl) ?_); simp only [Act.put, siA, scZ, scS]
   (refine z03 rfl (vI vK (m : Int)) wr (by go_simp; try rfl) ?_); simp only [Act.put, siA, scZ, scS]
   refine z03 rfl (.pointer (some ⟨g, m * 82, none⟩)) wr (by go_simp; intro h; omega) ?_
   simp only [Act.put, siA, scZ, scS]
   refine z7a rfl (.tmp 25) rfl g (m * 82) rfl (pc : Int) y HE.out ?_
   simp only [Act.put, siA, scZ, scS]
   refine z03 rfl (.pointer (some ⟨wr.heap.size, 0, none⟩)) (wr.alloc (.cells Tryz.zeroCells76 76 (0, 0))) (by go_simp; try rfl) ?_
   simp only [Act.put, siA, scZ, scS]
   (refine wpList_store_row rfl 76 (.tmp 8) (.tmp 26) rfl wr.heap.size (z06 (pc : Int) y) rfl rfl 76 _ (heap_alloc_new _ _) (z0q _ _) (by first | rw [z1w, z0h] | rw [z0h, z0h]) (z2a _ _) ?_)
   simp only [Act.put]
   have hq7 : Below wr.heap.size wr ((wr.alloc (.cells Tryz.zeroCells76 76 (0, 0))).setRow wr.heap.size (z06 (pc : Int) y)) := z08 ((bF _ _).alloc (Nat.le_refl _) _) (Nat.le_refl _) _
   have hW7 : z05 ((wr.alloc (.cells Tryz.zeroCells76 76 (0, 0))).setRow wr.heap.size (z06 (pc : Int) y)) wr.heap.size (pc : Int) y := z05.setRow (heap_alloc_new _ _) _ _
   have hb7 := H.out.below.trans (hq7.mono H.out.below.size)
   have HP7 : Hid (z0g _ w.heap.size (.slice (some ⟨g, 0, none⟩) m cp) (posL st.reverse)) := HP.out.later hq7
   have HE7 : Hid (z36 _ w.heap.size u4 es) := H.out.ends.later hq7
   have HSep : Hid (∀ k, (Value.slice (some ⟨g, 0, none⟩) (m + 1) cp).ownBlock = some k → u4.ownBlock ≠ some k) := H.out.sep
   have HEB : Hid (∀ k, u4.ownBlock = some k → k < wr.heap.size) := fun k e => (H.out.ends.above k e).2
   have hB0 : w.heap.size ≤ wr.heap.size := H.out.below.size
   clear hq7
   generalize ((wr.alloc (.cells Tryz.zeroCells76 76 (0, 0))).setRow wr.heap.size (z06 (pc : Int) y)) = w7 at hW7 hb7 HP7 HE7 ⊢
   generalize wr.heap.size = B at hg1 hW7 HEB hB0 ⊢
   have hst0 := hW7.step
   have hlt0 := hW7.lt
   have hpc := (H.out.okst _ mcS).1
   have hoky := (H.out.okst _ mcS).2
   dsimp only at hpc hoky
   have hmc : (m : Int) ≤ (cp : Int) := by omega
   have hpc0 : (0 : Int) ≤ (pc : Int) := by omega
   have hpc1 : (pc : Int) < len := by omega
   by_cases hkk : k = 4000
   ·subst hkk
    go_wp2_with fail
    clear hW7
    go_region
    go_wp2_with fail
    exact bodyPost_ret (v := .tuple #[.slice none 0 0, .iface 69 (.pointer (some ⟨w7.heap.size, 0, none⟩))]) (by simp [results, Tryz.results13, go_sem]) rfl ⟨(hb7.alloc hb7.size _).drew, (by rw [← H.out.go]; exact ⟨w7.heap.size, rfl, hb7.size, (z7n _ _ _ _).2.2, (z7n _ _ _ _).1, (z7n _ _ _ _).2.1⟩)⟩
   ·have hb7' := hb7
    have hR := HR.out pc hpc
    obtain ⟨hO64, hN64⟩ := HF.out pc hpc
    obtain ⟨g0, g1c, g2, g3, g4, g5⟩ := HST.out.later hb7 hbk pc hpc
    obtain ⟨d, hd⟩ := Int.eq_ofNat_of_zero_le hR.d1
    obtain ⟨s, hs⟩ := Int.eq_ofNat_of_zero_le hR.s1
    have hd11 : d < 11 := by have := hR.d2; omega
    have hs11 : s < 11 := by have := hR.s2; omega
    have HGo : Hid (goF C D S R O N (4000 - k) ((pc, y) :: st) es = X) := H.out.go
    have hbk7 : bk < w7.heap.size := Nat.lt_of_lt_of_le hbk hb7.size
    have hkx : decide (4000 < (k : Int) + 1) = false := by simp; omega
    have hk0 : (0 : Int) ≤ (k : Int) := by omega
    have hk1 : (k : Int) ≤ 4000 := by omega
    rw [hd] at g1c
    rw [hs] at g2
    have H27 : Hid (C pc = 27 → N pc = 1 ∨ N pc = 2 ∨ N pc = 3) := hR.call
    have HJ : Hid (14 ≤ C pc → C pc ≤ 24 → 0 ≤ O pc ∧ O pc ≤ 1000) := fun a b => by have := hR.lead (by omega); omega
    have hgs := HGo.out
    rw [show 4000 - k = (3999 - k) + 1 by omega, zPs _ pc y st es d s hd hs] at hgs
    have hl2 := zP5 y (C pc) d s (R pc) (O pc) (N pc)
    have hlo := zLd hoky hR.c1 hR.c2 hd11 hs11 hO64 hN64 (r := R pc)
    have hlf := zCo (y := y) (c := C pc) (d := d) (s := s) (r := R pc) (o := O pc) (n := N pc)
    have hlz : ∀ z, z ∈ (y.look (C pc) d s (R pc) (O pc) (N pc)).1 → 0 ≤ z.1 ∧ pc + 1 + z.1.toNat < len := fun z hz => by
     obtain ⟨u1, u2⟩ := hlf z hz
     have hl := hR.last u1
     rcases u2 with u2 | ⟨u2, u3⟩
     ·omega
     ·have := hR.lead u3; omega
    have hl28 : C pc = 28 → (y.look (C pc) d s (R pc) (O pc) (N pc)).1 = [] := fun e => List.eq_nil_iff_forall_not_mem.mpr fun z hz => (hlf z hz).1 e
    have hlk := fun W : World => zIz (r := R pc) hd11 hs11 hpc0 (by omega) hO64 HJ.out H27.out hoky hN64 W
    generalize y.look (C pc) d s (R pc) (O pc) (N pc) = lk at hgs hl2 hlo hlz hl28 hlk
    obtain ⟨ls, er⟩ := lk
    dsimp only at hgs hl2 hlo hlz hl28 hlk
    rw [zT6 pc ls fun z hz => (hlz z hz).1] at hlk
    have HLK : Hid (∀ W : World, Calls Tryz.prog 26 #[.agg (z06 (pc : Int) y), .agg #[vI vK (C pc), vI vK d, vI vK s, .bool (R pc), vI vK (O pc), vI vK (N pc)]] W fun e w' => ∃ v, e = .returned (.tuple #[v, vI vK er]) ∧ z0g w' W.heap.size v (posL (ls.map fun z => (pc + 1 + z.1.toNat, z.2))) ∧ Below W.heap.size W w') := hlk
    have HGS : Hid ((if er ≠ 0 then .inl (er, pc) else goF C D S R O N (3999 - k) ((ls.map fun z => (pc + 1 + z.1.toNat, z.2)) ++ st) (if C pc = 28 then es ++ [y.reg 0] else es)) = X) := hgs
    have HL2 : Hid (ls.length ≤ 2) := hl2
    have HLO : Hid (∀ x, x ∈ (ls.map fun z => (pc + 1 + z.1.toNat, z.2)) ++ st → x.1 < len ∧ x.2.Ok) := fun x hx => by
     rcases List.mem_append.mp hx with hx | hx
     ·obtain ⟨z, hz, rfl⟩ := List.mem_map.mp hx
      exact ⟨(hlz z hz).2, hlo z hz⟩
     ·exact H.out.okst x (mcO _ hx)
    have HL28 : Hid (C pc = 28 → ls = []) := hl28
    have HW7 : Hid (z05 w7 B (pc : Int) y) := hW7
    clear hW7 hgs hl2 hlo hlf hlz hl28 hlk HJ H27 hR hd hs HGo hO64 hN64
    generalize C pc = c at *
    generalize R pc = r at *
    generalize O pc = o at *
    generalize N pc = n at *
    go_upto_region 12 with fail
    have hq8 : Below w7.heap.size w7 (w7.alloc (.cells #[vI vK c, vI vK d, vI vK s, .bool r, vI vK o, vI vK n] 59)) := (bF _ _).alloc (Nat.le_refl _) _
    have hW8 := HW7.out.later hq8
    have hb8 := hb7.trans (hq8.mono hb7.size)
    have HP8 : Hid (z0g _ w.heap.size (.slice (some ⟨g, 0, none⟩) m cp) (posL st.reverse)) := HP7.out.later hq8
    have HE8 : Hid (z36 _ w.heap.size u4 es) := HE7.out.later hq8
    obtain ⟨p0, p1, p2, p3, p4, p5, ltS⟩ := row6 (heap_alloc_new w7 (.cells #[vI vK c, vI vK d, vI vK s, .bool r, vI vK o, vI vK n] 59))
    have hBS : B < w7.heap.size := hlt0
    clear hq8 g0 g1c g2 g3 g4 g5 hst0 hlt0 hb7 hb7' HP7 HE7 HW7 hbk7
    generalize (w7.alloc (.cells #[vI vK c, vI vK d, vI vK s, .bool r, vI vK o, vI vK n] 59)) = w8 at hW8 hb8 HP8 HE8 p0 p1 p2 p3 p4 p5 ltS ⊢
    generalize w7.heap.size = S0 at hBS p0 p1 p2 p3 p4 p5 ltS ⊢
    go_step
    (refine wpList_load_row rfl 76 (.tmp 8) rfl B rfl 76 (z06 (pc : Int) y) (0, 0) _ hW8 Tryz.underlying76 rfl (z0q _ _) ?_)
    simp only [Act.put, siA, scZ, scS]
    (refine z03 rfl (.agg #[vI vK c, vI vK d, vI vK s, .bool r, vI vK o, vI vK n]) w8 (by go_simp; try rfl) ?_); simp only [Act.put, siA, scZ, scS]
    refine z0d rfl 26 #[.agg (z06 (pc : Int) y), .agg #[vI vK c, vI vK d, vI vK s, .bool r, vI vK o, vI vK n]] (by go_simp; try rfl) (R := fun x w' => ∃ v, x = .tuple #[v, vI vK er] ∧ z0g w' w8.heap.size v (posL (ls.map fun z => (pc + 1 + z.1.toNat, z.2))) ∧ Below w8.heap.size w8 w') ((HLK.out w8).mono fun e w' h => by obtain ⟨v, h1, h2⟩ := h; exact ⟨_, h1, v, rfl, h2⟩) ?_
    intro v9 w9 hq
    obtain ⟨v10, rfl, hA9, hq9⟩ := hq
    simp only [Act.put, siA, scZ, scS]
    have hb9 := hb8.trans (hq9.mono hb8.size)
    have HP9 : Hid (z0g w9 w.heap.size (.slice (some ⟨g, 0, none⟩) m cp) (posL st.reverse)) := HP8.out.later hq9
    have HE9 : Hid (z36 w9 w.heap.size u4 es) := HE8.out.later hq9
    have hW9 := hW8.later hq9
    have HA9 : Hid (z0g w9 w.heap.size v10 (posL (ls.map fun z => (pc + 1 + z.1.toNat, z.2)))) := hA9.mono hb8.size
    have HAB : Hid (∀ k, v10.ownBlock = some k → w8.heap.size ≤ k) := fun k e => (hA9.above k e).1
    have P0 := (hq9.cell (p := ⟨S0, 0, none⟩) ltS).trans p0
    have ltS9 := Nat.lt_of_lt_of_le ltS hq9.size
    clear p0 p1 p2 p3 p4 p5 hA9 hW8 hb8 HP8 HE8 HLK
    obtain ⟨i0, i1, i2⟩ := hW9.reg (d := 0) (by decide)
    have hst9 := hW9.step
    have hlt9 := hW9.lt
    simp only [Nat.zero_mul, Nat.add_zero, Nat.reduceAdd] at i0 i1 i2
    have HW9 : Hid (z05 w9 B (pc : Int) y) := hW9
    clear hW9
    by_cases he : er = 0
    ·subst he
     obtain ⟨a10, c10, hv10⟩ := HA9.out.shape
     subst hv10
     have hql : (posL (ls.map fun z => (pc + 1 + z.1.toNat, z.2))).length = ls.length := by unfold posL; rw [List.length_map, List.length_map]
     have hq2 := HL2.out
     rw [← hql] at hq2
     clear hql
     generalize hq : (posL (ls.map fun z => (pc + 1 + z.1.toNat, z.2))).length = q at *
     have HQ : Hid ((posL (ls.map fun z => (pc + 1 + z.1.toNat, z.2))).length = q) := hq
     have hq0 : (0 : Int) ≤ (q : Int) := by omega
     have hq1 : (q : Int) ≤ 2 := by omega
     have HGS2 : Hid (goF C D S R O N (3999 - k) ((ls.map fun z => (pc + 1 + z.1.toNat, z.2)) ++ st) (if c = 28 then es ++ [y.reg 0] else es) = X) := HGS.out
     have hgB : g < w8.heap.size := by omega
     clear hq HGS
     by_cases h28 : c = 28
     ·have x28 : (c == 28) = true := by simpa using h28
      have HGS3 : Hid (goF C D S R O N (3999 - k) ((ls.map fun z => (pc + 1 + z.1.toNat, z.2)) ++ st) (es ++ [y.reg 0]) = X) := by have := HGS2.out; rw [if_pos h28] at this; exact this
      have HESL : Hid (es.length ≤ k) := H.out.esl
      have hesl := H.out.esl
      clear HGS2
      go_upto_region 16 with fail
      go_step
      (refine z03 rfl u4 w9 (by go_simp; try rfl) ?_); simp only [Act.put, siA, scZ, scS]
      (refine z03 rfl (.pointer (some ⟨B, 1, none⟩)) w9 (by go_simp; try rfl) ?_); simp only [Act.put, siA, scZ, scS]
      (refine z03 rfl (.pointer (some ⟨B, 1, none⟩)) w9 (by go_simp; try rfl) ?_); simp only [Act.put, siA, scZ, scS]
      (refine z03 rfl (.pointer (some ⟨B, 2, none⟩)) w9 (by go_simp; try rfl) ?_); simp only [Act.put, siA, scZ, scS]
      (refine z03 rfl (.agg #[vI vK (y.reg 0).l, vI vK (y.reg 0).h]) w9 (by go_simp; try rfl) ?_); simp only [Act.put, siA, scZ, scS]
      refine z03 rfl (.slice (some ⟨w9.heap.size, 0, none⟩) 1 1) (w9.alloc (.cells #[vI vK (y.reg 0).l, vI vK (y.reg 0).h] 30)) (by go_simp; try rfl) ?_
      simp only [Act.put, siA, scZ, scS]
      refine zGw rfl (.tmp 59) (.tmp 64) rfl w.heap.size u4 es rfl HE9.out (y.reg 0) rfl (by omega) hb9.size ?_
      intro E2 w10 hE2 hg10 hs10
      simp only [Act.put, siA, scZ, scS]
      have hb10 := ((Blk.nil hb9).grown hg10 (b := w.heap.size) (fun k e => (HE9.out.above k e).1) (Nat.le_refl _) (by simp)).1
      have HP10 := HP9.out.grown hg10 (fun k e e2 => HSep.out k e2 e)
      have HA10 := HA9.out.grown hg10 (fun k e e2 => by have h3 := HAB.out k e2; have h4 := HEB.out k e; omega)
      have HLay : Hid (z7p w (posL st.reverse) (posL (ls.map fun z => (pc + 1 + z.1.toNat, z.2))) (.slice a10 q c10) E2 (es ++ [y.reg 0]) q (.slice (some ⟨g, 0, none⟩) m cp) w10) := ⟨Nat.le_of_eq HQ.out.symm, hb10, by rw [List.drop_eq_nil_of_le (Nat.le_of_eq HQ.out), List.reverse_nil, List.append_nil]; exact HP10, HA10, hE2, fun k e e2 => (hs10 k e2).elim (fun e3 => HSep.out k e e3) (fun e3 => by have h4 : g = k := Option.some.inj e; have := hq9.size; omega), fun k e e2 => by have h3 := HAB.out k e2; have h4 : g = k := Option.some.inj e; omega, by rw [HQ.out, HM.out]; omega⟩
      clear hE2 hg10 hs10 HP10 HA10 hb10
      go_wp2_with fail
      go_loopw [5, 12] (fun vw vi wr2 => ∃ j : Nat, vi = vI vK ((j : Int) - 1) ∧ Hid (z7p w (posL st.reverse) (posL (ls.map fun z => (pc + 1 + z.1.toNat, z.2))) (.slice a10 q c10) E2 (es ++ [y.reg 0]) j vw wr2)) (fun _ vi _ => (intOf vi + 1).toNat)
      case atStart => exact ⟨q, by go_num, HLay.out⟩
      case round =>
       obtain ⟨j, rfl, HI⟩ := hrel
       clear HLay
       cases j with
       | zero =>
        go_wp2_with fail
        go_roundw
        case rel =>
         refine ⟨k + 1, (ls.map fun z => (pc + 1 + z.1.toNat, z.2)) ++ st, (es ++ [y.reg 0]), by go_num, by omega, HI.out.below, ?_, HI.out.ends, HI.out.sepE, HLO.out, ?_, ?_, ?_⟩
         ·rw [zFz]; exact HI.out.ways
         ·have := HL2.out; rw [List.length_append, List.length_map]; omega
         ·have := HESL.out; rw [List.length_append]; simp; omega
         ·rw [show 4000 - (k + 1) = 3999 - k by omega]; exact HGS3.out
        case measure => first | (simp [intOf]; done) | (simp [intOf]; omega)
       | succ j =>
        have hj1 : j + 1 ≤ q := by have := HI.out.jl; rw [HQ.out] at this; exact this
        obtain ⟨x, hx1, hx2, hx3⟩ := HI.out.part
        obtain ⟨px, yx⟩ := x
        obtain ⟨gv, ha10, -, -, hgv⟩ := HI.out.led.some_of (by have := HQ.out; omega)
        subst ha10
        have hld := HI.out.led
        have hel : wr.rangeAt gv (j * 82) (z06 px yx).toList := by rw [hx2] at hld; have := hld.elem; rw [hx3] at this; exact this
        have HEL : Hid (wr.rangeAt gv (j * 82) (z06 px yx).toList) := hel
        have HX1 : Hid ((posL (ls.map fun z => (pc + 1 + z.1.toNat, z.2))).drop j = (px, yx) :: (posL (ls.map fun z => (pc + 1 + z.1.toNat, z.2))).drop (j + 1)) := hx1
        have e1 : ((j + 1 : Nat) : Int) - 1 = (j : Int) := by omega
        rw [e1]
        have hj0 : (0 : Int) ≤ (j : Int) := by omega
        have hj2 : (j : Int) < (q : Int) := by omega
        have hwv := HI.out.ways.shape
        obtain ⟨av, cv, hv⟩ := hwv
        have HF5 : Hid (((posL st.reverse) ++ ((posL (ls.map fun z => (pc + 1 + z.1.toNat, z.2))).drop (j + 1)).reverse).length ≤ 1000000) := HI.out.small
        have hb5 := HI.out.below.size
        clear hel hld hx1 hx2 hx3 hv e1
        go_upto_region 20 with fail
        go_step
        (refine z03 rfl u5 wr (by go_simp; try rfl) ?_); simp only [Act.put, siA, scZ, scS]
        (refine z03 rfl (.slice (some ⟨gv, 0, none⟩) q c10) wr (by go_simp; try rfl) ?_); simp only [Act.put, siA, scZ, scS]
        (refine z03 rfl (vI vK (j : Int)) wr (by go_simp; try rfl) ?_); simp only [Act.put, siA, scZ, scS]
        refine z03 rfl (.pointer (some ⟨gv, j * 82, none⟩)) wr (by go_simp; try (intro h; omega)) ?_
        simp only [Act.put, siA, scZ, scS]
        refine z7a rfl (.tmp 76) rfl gv (j * 82) rfl px yx HEL.out ?_
        simp only [Act.put, siA, scZ, scS]
        refine z1l rfl (.tmp 77) px yx rfl rfl ?_
        simp only [Act.put, siA, scZ, scS]
        refine z7r rfl (.tmp 73) (.tmp 78) rfl w.heap.size u5 _ rfl HI.out.ways px yx rfl HF5.out hb5 ?_
        intro V3 w13 hA3 hg3 hs3
        have HL3 : Hid (z7p w (posL st.reverse) (posL (ls.map fun z => (pc + 1 + z.1.toNat, z.2))) (.slice (some ⟨gv, 0, none⟩) q c10) E2 (es ++ [y.reg 0]) j V3 w13) := HI.out.lay HX1.out hA3 hg3 hs3
        clear hA3 hg3 hs3
        simp only [Act.put, siA, scZ, scS]
        go_wp2_with fail
        go_roundw
        case rel => exact ⟨j, by go_num, HL3.out⟩
        case measure => first | (simp [intOf]; done) | (simp [intOf]; omega)
     ·have x28 : (c == 28) = false := by simpa using h28
      have HGS3 : Hid (goF C D S R O N (3999 - k) ((ls.map fun z => (pc + 1 + z.1.toNat, z.2)) ++ st) es = X) := by have := HGS2.out; rw [if_neg h28] at this; exact this
      have HESL : Hid (es.length ≤ k) := H.out.esl
      have HLay : Hid (z7p w (posL st.reverse) (posL (ls.map fun z => (pc + 1 + z.1.toNat, z.2))) (.slice a10 q c10) u4 es q (.slice (some ⟨g, 0, none⟩) m cp) w9) := ⟨Nat.le_of_eq HQ.out.symm, hb9, by rw [List.drop_eq_nil_of_le (Nat.le_of_eq HQ.out), List.reverse_nil, List.append_nil]; exact HP9.out, HA9.out, HE9.out, HSep.out, fun k e e2 => by have h3 := HAB.out k e2; have h4 : g = k := Option.some.inj e; omega, by rw [HQ.out, HM.out]; omega⟩
      clear HGS2
      go_wp2_with fail
      go_loopw [5, 12] (fun vw vi wr2 => ∃ j : Nat, vi = vI vK ((j : Int) - 1) ∧ Hid (z7p w (posL st.reverse) (posL (ls.map fun z => (pc + 1 + z.1.toNat, z.2))) (.slice a10 q c10) u4 es j vw wr2)) (fun _ vi _ => (intOf vi + 1).toNat)
      case atStart => exact ⟨q, by go_num, HLay.out⟩
      case round =>
       obtain ⟨j, rfl, HI⟩ := hrel
       clear HLay
       cases j with
       | zero =>
        go_wp2_with fail
        go_roundw
        case rel =>
         refine ⟨k + 1, (ls.map fun z => (pc + 1 + z.1.toNat, z.2)) ++ st, es, by go_num, by omega, HI.out.below, ?_, HI.out.ends, HI.out.sepE, HLO.out, ?_, ?_, ?_⟩
         ·rw [zFz]; exact HI.out.ways
         ·have := HL2.out; rw [List.length_append, List.length_map]; omega
         ·have := HESL.out; omega
         ·rw [show 4000 - (k + 1) = 3999 - k by omega]; exact HGS3.out
        case measure => first | (simp [intOf]; done) | (simp [intOf]; omega)
       | succ j =>
        have hj1 : j + 1 ≤ q := by have := HI.out.jl; rw [HQ.out] at this; exact this
        obtain ⟨x, hx1, hx2, hx3⟩ := HI.out.part
        obtain ⟨px, yx⟩ := x
        obtain ⟨gv, ha10, -, -, hgv⟩ := HI.out.led.some_of (by have := HQ.out; omega)
        subst ha10
        have hld := HI.out.led
        have hel : wr.rangeAt gv (j * 82) (z06 px yx).toList := by rw [hx2] at hld; have := hld.elem; rw [hx3] at this; exact this
        have HEL : Hid (wr.rangeAt gv (j * 82) (z06 px yx).toList) := hel
        have HX1 : Hid ((posL (ls.map fun z => (pc + 1 + z.1.toNat, z.2))).drop j = (px, yx) :: (posL (ls.map fun z => (pc + 1 + z.1.toNat, z.2))).drop (j + 1)) := hx1
        have e1 : ((j + 1 : Nat) : Int) - 1 = (j : Int) := by omega
        rw [e1]
        have hj0 : (0 : Int) ≤ (j : Int) := by omega
        have hj2 : (j : Int) < (q : Int) := by omega
        have hwv := HI.out.ways.shape
        obtain ⟨av, cv, hv⟩ := hwv
        have HF5 : Hid (((posL st.reverse) ++ ((posL (ls.map fun z => (pc + 1 + z.1.toNat, z.2))).drop (j + 1)).reverse).length ≤ 1000000) := HI.out.small
        have hb5 := HI.out.below.size
        clear hel hld hx1 hx2 hx3 hv e1
        go_upto_region 20 with fail
        go_step
        (refine z03 rfl u5 wr (by go_simp; try rfl) ?_); simp only [Act.put, siA, scZ, scS]
        (refine z03 rfl (.slice (some ⟨gv, 0, none⟩) q c10) wr (by go_simp; try rfl) ?_); simp only [Act.put, siA, scZ, scS]
        (refine z03 rfl (vI vK (j : Int)) wr (by go_simp; try rfl) ?_); simp only [Act.put, siA, scZ, scS]
        refine z03 rfl (.pointer (some ⟨gv, j * 82, none⟩)) wr (by go_simp; try (intro h; omega)) ?_
        simp only [Act.put, siA, scZ, scS]
        refine z7a rfl (.tmp 76) rfl gv (j * 82) rfl px yx HEL.out ?_
        simp only [Act.put, siA, scZ, scS]
        refine z1l rfl (.tmp 77) px yx rfl rfl ?_
        simp only [Act.put, siA, scZ, scS]
        refine z7r rfl (.tmp 73) (.tmp 78) rfl w.heap.size u5 _ rfl HI.out.ways px yx rfl HF5.out hb5 ?_
        intro V3 w13 hA3 hg3 hs3
        have HL3 : Hid (z7p w (posL st.reverse) (posL (ls.map fun z => (pc + 1 + z.1.toNat, z.2))) (.slice (some ⟨gv, 0, none⟩) q c10) u4 es j V3 w13) := HI.out.lay HX1.out hA3 hg3 hs3
        clear hA3 hg3 hs3
        simp only [Act.put, siA, scZ, scS]
        go_wp2_with fail
        go_roundw
        case rel => exact ⟨j, by go_num, HL3.out⟩
        case measure => first | (simp [intOf]; done) | (simp [intOf]; omega)
    ·have he2 : (er != 0) = true := by simpa using he
     go_upto_region 14 with fail
     go_region
     go_wp2_with fail
     exact bodyPost_ret (v := .tuple #[.slice none 0 0, .iface 69 (.pointer (some ⟨w9.heap.size, 0, none⟩))]) (by simp [results, Tryz.results13, go_sem]) rfl ⟨(hb9.alloc hb9.size _).drew, (by rw [← HGS.out, if_pos he]; exact ⟨w9.heap.size, rfl, hb9.size, (z7n _ _ _ _).2.2, (z7n _ _ _ _).1, (z7n _ _ _ _).2.1⟩)⟩
def z53 (es : List Kno) (i : Nat) : Int × Int := ((es.getD i kno0).l, (es.getD i kno0).h)
theorem z9b (es : List Kno) : ∀ i, i < es.length → (z37 es)[i * 2]? = some (vI vK (z53 es i).1) ∧ (z37 es)[i * 2 + 1]? = some (vI vK (z53 es i).2) := by
 induction es with
 | nil => intro i hi; exact absurd hi (by simp)
 | cons b es ih =>
  intro i hi
  cases i with
  | zero => exact ⟨rfl, rfl⟩
  | succ i =>
   obtain ⟨h1, h2⟩ := ih i (by simpa using hi)
   unfold z37 z53 at *
   rw [List.flatMap_cons, show (i + 1) * 2 = (i * 2 + 1) + 1 by omega]
   exact ⟨h1, h2⟩
theorem zFe {w : World} {base : Nat} {v : Value} {es : List Kno} (h : z36 w base v es) (hl : es.length ≤ 4000) : Calls Tryz.prog 14 #[v] w fun e w' => e = .returned (.agg #[vI vK (z0z (z53 es) es.length).1, vI vK (z0z (z53 es) es.length).2]) ∧ Below w.heap.size w w' := by
 rcases h.2 with ⟨h1, h2⟩ | ⟨g, cap, cur, h1, h2, h3, h4⟩
 ·rw [h1, h2]; exact z5r none 0 w
 ·rw [h1]
  by_cases hz : es.length = 0
  ·rw [hz]; exact z5r _ cap w
  ·refine z8u g es.length cap (z53 es) (by omega) (by omega) w (Array.getElem?_eq_some_iff.1 h3).1 (fun i hi => ?_)
   obtain ⟨e1, e2⟩ := z9b es i hi
   have k1 := World.ownsRow.cells h (g := g) (by rw [h1]; rfl) _ _ e1
   have k2 := World.ownsRow.cells h (g := g) (by rw [h1]; rfl) _ _ e2
   rw [Addr.add_mid, Nat.zero_add] at k1 k2
   exact ⟨k1, k2⟩
theorem zCj {bk off len cap : Nat} {C D S O N : Nat → Int} {R : Nat → Bool} {w : World} {i : Nat} (hi : i < len) (hno : ∀ j, j < i → z0r len C D S R O N j = 0) (hf : z0r len C D S R O N i ≠ 0) (hst : z33 w bk off len C D S R O N) (h1 : 1 ≤ len) (h2 : len ≤ 200) (hbk : bk < w.heap.size) :
  Calls Tryz.prog 12 #[.slice (some ⟨bk, off, none⟩) len cap] w fun e w' => ∃ p, e = .returned (.iface 69 (.pointer (some ⟨p, 0, none⟩))) ∧ w.heap.size ≤ p ∧ Below w.heap.size w w' ∧ p < w'.heap.size ∧ w'.cell? ⟨p, 0, none⟩ = some (vI vK (z0r len C D S R O N i)) ∧ w'.cell? ⟨p, 1, none⟩ = some (vI vK (i : Int)) := by
 refine (z6o bk off len cap C D S O N R w h1 h2 hbk hst).mono fun e w' hh => ?_
 obtain ⟨hb, hh⟩ := hh
 rcases hh with ⟨_, h⟩ | ⟨k, p, hk, hno', hf', he, hp, hc0, hc1⟩
 ·exact absurd (h i hi) hf
 ·obtain rfl := z9x hno hf hno' hf'
  exact ⟨p, he, hp, hb, World.block_lt_of_cell? w' _ hc0, hc0, hc1⟩
theorem z74 {w : World} {B p o o' q : Nat} {x y : Value} (hne : p ≠ B) : ((w.setCell ⟨B, o, none⟩ x).setCell ⟨B, o', none⟩ y).cell? ⟨p, q, none⟩ = w.cell? ⟨p, q, none⟩ :=
 World.cell?_of_block ((Below.heap_setCell _ _ _ p hne).trans (Below.heap_setCell _ _ _ p hne))
theorem zBx (a : Option Addr) (len cap : Nat) (h : len < 1 ∨ 200 < len) (w : World) :
  Calls Tryz.prog 5 #[.slice a len cap] w fun e w' => e = .returned (.tuple #[.agg #[vI vK 0, vI vK 0], .iface 25 (vI vK 4)]) ∧ Below w.heap.size w w' := by
 have hK0 : Blk w [(w.heap.size, .cells #[vI vK 0, vI vK 0] 30 (0, 0))] (w.alloc (.cells #[vI vK 0, vI vK 0] 30)) := (Blk.nil ((bF _ _).alloc (Nat.le_refl _) _)).cons (heap_alloc_new w _)
 go_enter Tryz.func5, Tryz.ntmps5
 go_upto_region 1 with fail
 generalize (w.alloc (.cells #[vI vK 0, vI vK 0] 30)) = w0 at hK0 ⊢
 go_step
 (refine z03 rfl (.slice a len cap) w0 (by go_simp; try rfl) ?_); simp only [Act.put, siA, scZ, scS]
 (refine z0m rfl 12 #[.slice a len cap] (by go_simp; try rfl) (.iface 25 (vI vK 4)) (zAw a len cap h w0) ?_)
 intro w1 hw1
 subst hw1
 have hK1 := hK0
 obtain ⟨r0, r1, rf0, rf1, rlt⟩ := row2 (hK1.2 _ mcS)
 simp only [Act.put, siA, scZ, scS]
 go_wp2_with fail
 exact bodyPost_ret (v := .tuple #[.agg #[vI vK 0, vI vK 0], .iface 25 (vI vK 4)]) (by simp [results, Tryz.results5, go_sem, *]) rfl ⟨rfl, (hK1.1.setCell (Nat.le_refl _) _).setCell (Nat.le_refl _) _⟩
theorem zBw (bk off len cap : Nat) (C D S O N : Nat → Int) (R : Nat → Bool) (w : World) (h1 : 1 ≤ len) (h2 : len ≤ 200) (hbk : bk < w.heap.size) (hst : z33 w bk off len C D S R O N) (i : Nat) (hi : i < len) (hno : ∀ j, j < i → z0r len C D S R O N j = 0) (hfa : z0r len C D S R O N i ≠ 0) :
  Calls Tryz.prog 5 #[.slice (some ⟨bk, off, none⟩) len cap] w fun e w' => ∃ p, e = .returned (.tuple #[.agg #[vI vK 0, vI vK 0], .iface 69 (.pointer (some ⟨p, 0, none⟩))]) ∧ Below w.heap.size w w' ∧ w.heap.size < p ∧ p < w'.heap.size ∧ w'.cell? ⟨p, 0, none⟩ = some (vI vK (z0r len C D S R O N i)) ∧ w'.cell? ⟨p, 1, none⟩ = some (vI vK (i : Int)) := by
 have hK0 : Blk w [(w.heap.size, .cells #[vI vK 0, vI vK 0] 30 (0, 0))] (w.alloc (.cells #[vI vK 0, vI vK 0] 30)) := (Blk.nil ((bF _ _).alloc (Nat.le_refl _) _)).cons (heap_alloc_new w _)
 go_enter Tryz.func5, Tryz.ntmps5
 go_upto_region 1 with fail
 generalize (w.alloc (.cells #[vI vK 0, vI vK 0] 30)) = w0 at hK0 ⊢
 go_step
 (refine z03 rfl (.slice (some ⟨bk, off, none⟩) len cap) w0 (by go_simp; try rfl) ?_); simp only [Act.put, siA, scZ, scS]
 have hst0 := hst.later (hK0.1) hbk
 have hbk0 := Nat.lt_of_lt_of_le hbk hK0.1.size
 refine z0d rfl 12 #[.slice (some ⟨bk, off, none⟩) len cap] (by go_simp; try rfl) (R := fun x w' => ∃ p, x = .iface 69 (.pointer (some ⟨p, 0, none⟩)) ∧ w0.heap.size ≤ p ∧ Below w0.heap.size w0 w' ∧ p < w'.heap.size ∧ w'.cell? ⟨p, 0, none⟩ = some (vI vK (z0r len C D S R O N i)) ∧ w'.cell? ⟨p, 1, none⟩ = some (vI vK (i : Int))) ((zCj (cap := cap) hi hno hfa hst0 h1 h2 hbk0).mono fun e w' h => by obtain ⟨p, h1, h2⟩ := h; exact ⟨_, h1, p, rfl, h2⟩) ?_
 intro v1 w1 hq
 obtain ⟨p, rfl, hp0, hb1, hp1, c0, c1⟩ := hq
 have hK1 := hK0.later hb1
 obtain ⟨r0, r1, rf0, rf1, rlt⟩ := row2 (hK1.2 _ mcS)
 have hw0 := hK0.lt mcS
 have hpne : p ≠ w.heap.size := by omega
 simp only [Act.put, siA, scZ, scS]
 go_wp2_with fail
 exact bodyPost_ret (v := .tuple #[.agg #[vI vK 0, vI vK 0], .iface 69 (.pointer (some ⟨p, 0, none⟩))]) (by simp [results, Tryz.results5, go_sem, *]) rfl ⟨p, rfl, (hK1.1.setCell (Nat.le_refl _) _).setCell (Nat.le_refl _) _, by omega, by simpa using hp1, (z74 hpne).trans c0, (z74 hpne).trans c1⟩
theorem zGe (bk off len cap : Nat) (C D S O N : Nat → Int) (R : Nat → Bool) (w : World) (h1 : 1 ≤ len) (h2 : len ≤ 200) (hbk : bk < w.heap.size) (hst : z33 w bk off len C D S R O N) (h : ∀ j, j < len → z0r len C D S R O N j = 0) (hf : ∀ i, i < len → In64 (O i) ∧ In64 (N i)) : (∀ (er : Int) (i : Nat) (hgo : goF C D S R O N 4000 [(0, way0)] [] = .inl (er, i)), Calls Tryz.prog 5 #[.slice (some ⟨bk, off, none⟩) len cap] w fun e w' => ∃ p, e = .returned (.tuple #[.agg #[vI vK 0, vI vK 0], .iface 69 (.pointer (some ⟨p, 0, none⟩))]) ∧ Below w.heap.size w w' ∧ w.heap.size < p ∧ p < w'.heap.size ∧ w'.cell? ⟨p, 0, none⟩ = some (vI vK er) ∧ w'.cell? ⟨p, 1, none⟩ = some (vI vK (i : Int))) ∧ (∀ (es : List Kno) (hgo : goF C D S R O N 4000 [(0, way0)] [] = .inr es), Calls Tryz.prog 5 #[.slice (some ⟨bk, off, none⟩) len cap] w fun e w' => e = .returned (.tuple #[.agg #[vI vK (z0z (z53 es) es.length).1, vI vK (z0z (z53 es) es.length).2], .nilIface]) ∧ Below w.heap.size w w') := by
 refine ⟨?_, ?_⟩
 intro er i hgo
 rotate_left
 intro es hgo
 rotate_left
 all_goals
  have hK0 : Blk w [(w.heap.size, .cells #[vI vK 0, vI vK 0] 30 (0, 0))] (w.alloc (.cells #[vI vK 0, vI vK 0] 30)) := (Blk.nil ((bF _ _).alloc (Nat.le_refl _) _)).cons (heap_alloc_new w _)
 all_goals
  go_enter Tryz.func5, Tryz.ntmps5
  go_upto_region 1 with fail
  generalize (w.alloc (.cells #[vI vK 0, vI vK 0] 30)) = w0 at hK0 ⊢
  go_step
  (refine z03 rfl (.slice (some ⟨bk, off, none⟩) len cap) w0 (by go_simp; try rfl) ?_); simp only [Act.put, siA, scZ, scS]
  have hst0 := hst.later (hK0.1) hbk
  have hbk0 := Nat.lt_of_lt_of_le hbk hK0.1.size
  (refine z0m rfl 12 #[.slice (some ⟨bk, off, none⟩) len cap] (by go_simp; try rfl) .nilIface (zCi h hst0 h1 h2 hbk0) ?_)
  intro w1 hb1
  have hK1 := hK0.later hb1
  have hst1 := hst0.later hb1 hbk0
  have hbk1 := Nat.lt_of_lt_of_le hbk0 hb1.size
  simp only [Act.put, siA, scZ, scS]
  go_upto_region 4 with fail
  go_step
  (refine z03 rfl (.slice (some ⟨bk, off, none⟩) len cap) w1 (by go_simp; try rfl) ?_); simp only [Act.put, siA, scZ, scS]
 ·refine z0d rfl 13 #[.slice (some ⟨bk, off, none⟩) len cap] (by go_simp; try rfl) (R := fun x w' => ∃ p, x = .tuple #[.slice none 0 0, .iface 69 (.pointer (some ⟨p, 0, none⟩))] ∧ Below w1.heap.size w1 w' ∧ w1.heap.size ≤ p ∧ p < w'.heap.size ∧ w'.cell? ⟨p, 0, none⟩ = some (vI vK er) ∧ w'.cell? ⟨p, 1, none⟩ = some (vI vK (i : Int))) ((zCy bk off len cap C D S O N R w1 h1 h2 hbk1 hst1 (fun i hi => zAi (h i hi)) hf).mono fun e w' hh => by rw [hgo] at hh; obtain ⟨hb, hh⟩ := hh; obtain ⟨p, h3, h4⟩ := hh; exact ⟨_, h3, p, rfl, hb, h4⟩) ?_
  intro v2 w2 hq
  obtain ⟨p, rfl, hb2, hp0, hp1, c0, c1⟩ := hq
  have hw1 := hK1.lt mcS
  have hpne : p ≠ w.heap.size := by omega
  have hK1 := hK1.later hb2
  obtain ⟨r0, r1, rf0, rf1, rlt⟩ := row2 (hK1.2 _ mcS)
  simp only [Act.put, siA, scZ, scS]
  go_wp2_with fail
  exact bodyPost_ret (v := .tuple #[.agg #[vI vK 0, vI vK 0], .iface 69 (.pointer (some ⟨p, 0, none⟩))]) (by simp [results, Tryz.results5, go_sem, *]) rfl ⟨p, rfl, (hK1.1.setCell (Nat.le_refl _) _).setCell (Nat.le_refl _) _, by omega, by simpa using hp1, (z74 hpne).trans c0, (z74 hpne).trans c1⟩
 ·refine z0d rfl 13 #[.slice (some ⟨bk, off, none⟩) len cap] (by go_simp; try rfl) (R := fun x w' => ∃ E, x = .tuple #[E, .nilIface] ∧ Below w1.heap.size w1 w' ∧ z36 w' w1.heap.size E es ∧ es.length ≤ 4000) ((zCy bk off len cap C D S O N R w1 h1 h2 hbk1 hst1 (fun i hi => zAi (h i hi)) hf).mono fun e w' hh => by rw [hgo] at hh; obtain ⟨hb, hh⟩ := hh; obtain ⟨E, h3, h4⟩ := hh; exact ⟨_, h3, E, rfl, hb, h4⟩) ?_
  intro v2 w2 hq
  obtain ⟨E, rfl, hb2, hE2, hl2⟩ := hq
  have hK2 := hK1.later hb2
  simp only [Act.put, siA, scZ, scS]
  go_upto_region 7 with fail
  go_step
  (refine z03 rfl E w2 (by go_simp; try rfl) ?_); simp only [Act.put, siA, scZ, scS]
  (refine z0m rfl 14 #[E] (by go_simp; try rfl) (.agg #[vI vK (z0z (z53 es) es.length).1, vI vK (z0z (z53 es) es.length).2]) (zFe hE2 hl2) ?_)
  intro w3 hb3
  have hK1 := hK2.later hb3
  obtain ⟨r0, r1, rf0, rf1, rlt⟩ := row2 (hK1.2 _ mcS)
  simp only [Act.put, siA, scZ, scS]
  clear hE2
  go_wp2_with fail
  exact bodyPost_ret (v := .tuple #[.agg #[vI vK (z0z (z53 es) es.length).1, vI vK (z0z (z53 es) es.length).2], .nilIface]) (by simp [results, Tryz.results5, go_sem, *]) rfl ⟨rfl, (hK1.1.setCell (Nat.le_refl _) _).setCell (Nat.le_refl _) _⟩
def zH9 := fun bk off len cap C D S O N R w h1 h2 hbk hst h hf => (@zGe bk off len cap C D S O N R w h1 h2 hbk hst h hf).1
def zDq := fun bk off len cap C D S O N R w h1 h2 hbk hst h hf => (@zGe bk off len cap C D S O N R w h1 h2 hbk hst h hf).2
end Go.Proofs.YteenhdoaminkeaaGreatDoor
