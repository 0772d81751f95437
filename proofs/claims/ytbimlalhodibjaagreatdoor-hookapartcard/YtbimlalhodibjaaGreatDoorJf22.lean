/-
 What package verify's goAll returns: all ways of a list of right steps, each wholly ahead of the next one. Conditions: the list's cells hold right steps; numbers are of 64 bits. What package verify's Verify returns: what is wrong with the list or with a step; the first thing that may go wrong on a way; or between which numbers all ways end. Conditions: the list's cells hold steps of 64 bits. A program that is let go can't go wrong: on plain numbers. Conditions: the steps are right; numbers are of 64 bits. A list of steps as it lies; a copy of one; whether Verify lets it go. Conditions: the list's cells hold steps of 64 bits.
-/
import Derived.Test.YtbimlalhodibjaaGreatDoorJf20
import Derived.Test.YtbimlalhodibjaaGreatDoorJf4
import Derived.Test.YtbimlalhodibjaaGreatDoorJf9
import Derived.Test.YtbimlalhodibjaaGreatDoorJf21
set_option maxHeartbeats 40000000
open Go.Value renaming int → A
open Go.IntKind renaming i64 → F
open Go.RowKit.Below renaming alloc → bA, setCell → bS, drew → bD, refl → bF
set_option maxRecDepth 1000000
set_option linter.defProp false
set_option linter.unusedVariables false
set_option linter.unusedSimpArgs false
open Go.Ending renaming returned → rT
open Go.Value renaming pointer → pT
open Go.Obj renaming cells → cT
open Go.Proofs.Tryz renaming prog → tP
namespace Go.Proofs.YtbimlalhodibjaaGreatDoor
section
open Go.ChangeShapes Go.WideShapes Go.ChangeAt Go.RowKit
attribute [local simp] z00 z0d z07
theorem zGr (bk off len cap : Nat) (C D S O N : Nat -> Int) (R : Nat -> Bool) (w : World) (h1 : 1 <= len) (h2 : len <= 200) (hbk : bk < w.heap.size) (hst : z1l w bk off len C D S R O N) (hr : ∀ i, i < len -> zK1 (C i) (D i) (S i) (R i) (O i) (N i) len i) (hf : ∀ i, i < len -> In64 (O i) /\ In64 (N i)) :
  Calls tP 51 #[.slice (some ⟨bk, off, none⟩) len cap] w fun e w' => zY2 w (goF C D S R O N 4000 [(0, way0)] []) e w' := by
 obtain ⟨X, hX⟩ : ∃ X, goF C D S R O N 4000 [(0, way0)] [] = X := ⟨_, rfl⟩
 rw [hX]
 have HX : Hid (goF C D S R O N 4000 [(0, way0)] [] = X) := hX
 have HST : Hid (z1l w bk off len C D S R O N) := hst
 have HR : Hid (∀ i, i < len -> zK1 (C i) (D i) (S i) (R i) (O i) (N i) len i) := hr
 have HF : Hid (∀ i, i < len -> In64 (O i) /\ In64 (N i)) := hf
 clear hX hst hr hf
 go_enter Tryz.func51, Tryz.ntmps51
 go_upto_region 2 with fail
 go_step
 (refine z0m rfl 69 #[] (by go_simp; try rfl) (.agg (z05 0 way0)) (zLz w) ?_)
 intro w1 hb1
 simp only [Act.put, siA, scZ, scS]
 refine z1h rfl (.tmp 13) 0 way0 rfl rfl ?_
 simp only [Act.put, siA, scZ, scS]
 have hA1 := z0b.made w1 w.heap.size [(0, way0)] hb1.size (by unfold maxLen; simp)
 have hB1 := hb1.alloc hb1.size (cT (z0q [(0, way0)]).toArray 205)
 have HG : Hid (GoSt w len C D S R O N X 0 [(0, way0)] [] (.slice (some ⟨w1.heap.size, 0, none⟩) 1 1) (.slice none 0 0) (w1.alloc (cT (z0q [(0, way0)]).toArray 205))) :=
  ⟨by omega, hB1, hA1, z31.nil _ _, fun k _ e => absurd e (by simp [Value.ownBlock]), fun x hx => by rw [List.mem_singleton.mp hx]; exact ⟨h1, zOe⟩, by simp, by simp, HX.out⟩
 clear hA1 hB1 hb1
 generalize (w1.alloc (cT (z0q [(0, way0)]).toArray 205)) = w2 at HG ⊢
 generalize w1.heap.size = g1 at HG ⊢
 go_wp2_with fail
 go_loopw [4, 5, 6] (fun ve vw vl wr => ∃ (k : Nat) (st : List (Nat × Way)) (es : List Kno), vl = A F ((k : Int) + 1) /\ Hid (GoSt w len C D S R O N X k st es vw ve wr)) (fun _ _ vl _ => 4001 - (intOf vl).toNat)
 case atStart => exact ⟨0, [(0, way0)], [], rfl, HG.out⟩
 case round =>
  obtain ⟨k, st, es, rfl, H⟩ := hrel
  clear HG
  cases st with
  | nil =>
   obtain ⟨a, cp, hv⟩ := H.out.ways.shape
   rw [zKc] at hv
   subst hv
   go_wp2_with fail
   exact bodyPost_ret (v := .tuple #[u4, .nilIface]) (by simp [results, Tryz.results51, go_sem]) rfl ⟨H.out.below, (by rw [<- H.out.go, zWv]; exact ⟨_, rfl, H.out.ends, Nat.le_trans H.out.esl H.out.k4⟩)⟩
  | cons x st =>
   obtain ⟨pc, y⟩ := x
   have hw0 := H.out.ways
   rw [zTj] at hw0
   obtain ⟨g, cp, hv, hcp, hcm, hg0, hg1⟩ := hw0.more
   subst hv
   have hpop := hw0.pop
   have hel := hw0.elem (l2 := [])
   have hml := zKc st
   have hml2 := H.out.stl
   have hk4 := H.out.k4
   rw [List.length_cons] at hml2
   generalize hm : (posL st.reverse).length = m at *
   have HP : Hid (z0b wr w.heap.size (.slice (some ⟨g, 0, none⟩) m cp) (posL st.reverse)) := hpop
   have HE : Hid (wr.rangeAt g (m * 82) (z05 (pc : Int) y).toList) := hel
   have HM : Hid ((posL st.reverse).length = m) := hm
   have hm1 : (m : Int) <= 4000 := by omega
   have hm0 : (0 : Int) <= (m : Int) := by omega
   have hm2 : (m : Int) < ((m + 1 : Nat) : Int) := by omega
   have hcm' : cp <= 9223372036854775807 := hcm
   clear hpop hel hm hw0 hml hcm
   go_upto_region 7 with fail
   go_step
   (refine z03 rfl (.slice (some ⟨g, 0, none⟩) (m + 1) cp) wr (by go_simp; try rfl) ?_); simp only [Act.put, siA, scZ, scS]
   (refine z03 rfl (A F (m : Int)) wr (by go_simp; try rfl) ?_); simp only [Act.put, siA, scZ, scS]
   refine z03 rfl (pT (some ⟨g, m * 82, none⟩)) wr (by go_simp; intro h; omega) ?_
   simp only [Act.put, siA, scZ, scS]
   refine z88 rfl (.tmp 25) rfl g (m * 82) rfl (pc : Int) y HE.out ?_
   simp only [Act.put, siA, scZ, scS]
   refine z03 rfl (pT (some ⟨wr.heap.size, 0, none⟩)) (wr.alloc (cT Tryz.zeroCells205 205 (0, 0))) (by go_simp; try rfl) ?_
   simp only [Act.put, siA, scZ, scS]
   (refine wpList_store_row rfl 205 (.tmp 8) (.tmp 26) rfl wr.heap.size (z05 (pc : Int) y) rfl rfl 205 _ (heap_alloc_new _ _) (z0n _ _) (by first | rw [z1s, z0c] | rw [z0c, z0c]) (z26 _ _) ?_)
   simp only [Act.put]
   have hq7 : Below wr.heap.size wr ((wr.alloc (cT Tryz.zeroCells205 205 (0, 0))).setRow wr.heap.size (z05 (pc : Int) y)) := z06 ((bF _ _).alloc (Nat.le_refl _) _) (Nat.le_refl _) _
   have hW7 : z04 ((wr.alloc (cT Tryz.zeroCells205 205 (0, 0))).setRow wr.heap.size (z05 (pc : Int) y)) wr.heap.size (pc : Int) y := z04.setRow (heap_alloc_new _ _) _ _
   have hb7 := H.out.below.trans (hq7.mono H.out.below.size)
   have HP7 : Hid (z0b _ w.heap.size (.slice (some ⟨g, 0, none⟩) m cp) (posL st.reverse)) := HP.out.later hq7
   have HE7 : Hid (z31 _ w.heap.size u4 es) := H.out.ends.later hq7
   have HSep : Hid (∀ k, (Value.slice (some ⟨g, 0, none⟩) (m + 1) cp).ownBlock = some k -> u4.ownBlock ≠ some k) := H.out.sep
   have HEB : Hid (∀ k, u4.ownBlock = some k -> k < wr.heap.size) := fun k e => (H.out.ends.above k e).2
   have hB0 : w.heap.size <= wr.heap.size := H.out.below.size
   clear hq7
   generalize ((wr.alloc (cT Tryz.zeroCells205 205 (0, 0))).setRow wr.heap.size (z05 (pc : Int) y)) = w7 at hW7 hb7 HP7 HE7 ⊢
   generalize wr.heap.size = B at hg1 hW7 HEB hB0 ⊢
   have hst0 := hW7.step
   have hlt0 := hW7.lt
   have hpc := (H.out.okst _ mcS).1
   have hoky := (H.out.okst _ mcS).2
   dsimp only at hpc hoky
   have hmc : (m : Int) <= (cp : Int) := by omega
   have hpc0 : (0 : Int) <= (pc : Int) := by omega
   have hpc1 : (pc : Int) < len := by omega
   by_cases hkk : k = 4000
   ·subst hkk
    go_wp2_with fail
    clear hW7
    go_region
    go_wp2_with fail
    exact bodyPost_ret (v := .tuple #[.slice none 0 0, .iface 150 (pT (some ⟨w7.heap.size, 0, none⟩))]) (by simp [results, Tryz.results51, go_sem]) rfl ⟨(hb7.alloc hb7.size _).drew, (by rw [<- H.out.go]; exact ⟨w7.heap.size, rfl, hb7.size, (z8u _ _ _ _).2.2, (z8u _ _ _ _).1, (z8u _ _ _ _).2.1⟩)⟩
   ·have hb7' := hb7
    have hR := HR.out pc hpc
    obtain ⟨hO64, hN64⟩ := HF.out pc hpc
    obtain ⟨g0, g1c, g2, g3, g4, g5⟩ := HST.out.later hb7 hbk pc hpc
    obtain ⟨d, hd⟩ := Int.eq_ofNat_of_zero_le hR.d1
    obtain ⟨s, hs⟩ := Int.eq_ofNat_of_zero_le hR.s1
    have hd11 : d < 11 := by have := hR.d2; omega
    have hs11 : s < 11 := by have := hR.s2; omega
    have HGo : Hid (goF C D S R O N (4000 - k) ((pc, y) :: st) es = X) := H.out.go
    have hbk7 : bk < w7.heap.size := Nat.lt_of_lt_of_le hbk hb7.size
    have hkx : decide (4000 < (k : Int) + 1) = false := by simp; omega
    have hk0 : (0 : Int) <= (k : Int) := by omega
    have hk1 : (k : Int) <= 4000 := by omega
    rw [hd] at g1c
    rw [hs] at g2
    have H27 : Hid (C pc = 27 -> N pc = 1 \/ N pc = 2 \/ N pc = 3) := hR.call
    have HJ : Hid (14 <= C pc -> C pc <= 24 -> 0 <= O pc /\ O pc <= 1000) := fun a b => by have := hR.lead (by omega); omega
    have hgs := HGo.out
    rw [show 4000 - k = (3999 - k) + 1 by omega, zUb _ pc y st es d s hd hs] at hgs
    have hl2 := zTs y (C pc) d s (R pc) (O pc) (N pc)
    have hlo := zQe hoky hR.c1 hR.c2 hd11 hs11 hO64 hN64 (r := R pc)
    have hlf := zGa (y := y) (c := C pc) (d := d) (s := s) (r := R pc) (o := O pc) (n := N pc)
    have hlz : ∀ z, z ∈ (y.look (C pc) d s (R pc) (O pc) (N pc)).1 -> 0 <= z.1 /\ pc + 1 + z.1.toNat < len := fun z hz => by
     obtain ⟨u1, u2⟩ := hlf z hz
     have hl := hR.last u1
     rcases u2 with u2 | ⟨u2, u3⟩
     ·omega
     ·have := hR.lead u3; omega
    have hl28 : C pc = 28 -> (y.look (C pc) d s (R pc) (O pc) (N pc)).1 = [] := fun e => List.eq_nil_iff_forall_not_mem.mpr fun z hz => (hlf z hz).1 e
    have hlk := fun W : World => zOh (r := R pc) hd11 hs11 hpc0 (by omega) hO64 HJ.out H27.out hoky hN64 W
    generalize y.look (C pc) d s (R pc) (O pc) (N pc) = lk at hgs hl2 hlo hlz hl28 hlk
    obtain ⟨ls, er⟩ := lk
    dsimp only at hgs hl2 hlo hlz hl28 hlk
    rw [zWp pc ls fun z hz => (hlz z hz).1] at hlk
    have HLK : Hid (∀ W : World, Calls tP 70 #[.agg (z05 (pc : Int) y), .agg #[A F (C pc), A F d, A F s, .bool (R pc), A F (O pc), A F (N pc)]] W fun e w' => ∃ v, e = rT (.tuple #[v, A F er]) /\ z0b w' W.heap.size v (posL (ls.map fun z => (pc + 1 + z.1.toNat, z.2))) /\ Below W.heap.size W w') := hlk
    have HGS : Hid ((if er ≠ 0 then .inl (er, pc) else goF C D S R O N (3999 - k) ((ls.map fun z => (pc + 1 + z.1.toNat, z.2)) ++ st) (if C pc = 28 then es ++ [y.reg 0] else es)) = X) := hgs
    have HL2 : Hid (ls.length <= 2) := hl2
    have HLO : Hid (∀ x, x ∈ (ls.map fun z => (pc + 1 + z.1.toNat, z.2)) ++ st -> x.1 < len /\ x.2.Ok) := fun x hx => by
     rcases List.mem_append.mp hx with hx | hx
     ·obtain ⟨z, hz, rfl⟩ := List.mem_map.mp hx
      exact ⟨(hlz z hz).2, hlo z hz⟩
     ·exact H.out.okst x (mcO _ hx)
    have HL28 : Hid (C pc = 28 -> ls = []) := hl28
    have HW7 : Hid (z04 w7 B (pc : Int) y) := hW7
    clear hW7 hgs hl2 hlo hlf hlz hl28 hlk HJ H27 hR hd hs HGo hO64 hN64
    generalize C pc = c at *
    generalize R pc = r at *
    generalize O pc = o at *
    generalize N pc = n at *
    go_upto_region 12 with fail
    have hq8 : Below w7.heap.size w7 (w7.alloc (cT #[A F c, A F d, A F s, .bool r, A F o, A F n] 80)) := (bF _ _).alloc (Nat.le_refl _) _
    have hW8 := HW7.out.later hq8
    have hb8 := hb7.trans (hq8.mono hb7.size)
    have HP8 : Hid (z0b _ w.heap.size (.slice (some ⟨g, 0, none⟩) m cp) (posL st.reverse)) := HP7.out.later hq8
    have HE8 : Hid (z31 _ w.heap.size u4 es) := HE7.out.later hq8
    obtain ⟨p0, p1, p2, p3, p4, p5, ltS⟩ := row6 (heap_alloc_new w7 (cT #[A F c, A F d, A F s, .bool r, A F o, A F n] 80))
    have hBS : B < w7.heap.size := hlt0
    clear hq8 g0 g1c g2 g3 g4 g5 hst0 hlt0 hb7 hb7' HP7 HE7 HW7 hbk7
    generalize (w7.alloc (cT #[A F c, A F d, A F s, .bool r, A F o, A F n] 80)) = w8 at hW8 hb8 HP8 HE8 p0 p1 p2 p3 p4 p5 ltS ⊢
    generalize w7.heap.size = S0 at hBS p0 p1 p2 p3 p4 p5 ltS ⊢
    go_step
    (refine wpList_load_row rfl 205 (.tmp 8) rfl B rfl 205 (z05 (pc : Int) y) (0, 0) _ hW8 Tryz.underlying205 rfl (z0n _ _) ?_)
    simp only [Act.put, siA, scZ, scS]
    (refine z03 rfl (.agg #[A F c, A F d, A F s, .bool r, A F o, A F n]) w8 (by go_simp; try rfl) ?_); simp only [Act.put, siA, scZ, scS]
    refine z0p rfl 70 #[.agg (z05 (pc : Int) y), .agg #[A F c, A F d, A F s, .bool r, A F o, A F n]] (by go_simp; try rfl) (R := fun x w' => ∃ v, x = .tuple #[v, A F er] /\ z0b w' w8.heap.size v (posL (ls.map fun z => (pc + 1 + z.1.toNat, z.2))) /\ Below w8.heap.size w8 w') ((HLK.out w8).mono fun e w' h => by obtain ⟨v, h1, h2⟩ := h; exact ⟨_, h1, v, rfl, h2⟩) ?_
    intro v9 w9 hq
    obtain ⟨v10, rfl, hA9, hq9⟩ := hq
    simp only [Act.put, siA, scZ, scS]
    have hb9 := hb8.trans (hq9.mono hb8.size)
    have HP9 : Hid (z0b w9 w.heap.size (.slice (some ⟨g, 0, none⟩) m cp) (posL st.reverse)) := HP8.out.later hq9
    have HE9 : Hid (z31 w9 w.heap.size u4 es) := HE8.out.later hq9
    have hW9 := hW8.later hq9
    have HA9 : Hid (z0b w9 w.heap.size v10 (posL (ls.map fun z => (pc + 1 + z.1.toNat, z.2)))) := hA9.mono hb8.size
    have HAB : Hid (∀ k, v10.ownBlock = some k -> w8.heap.size <= k) := fun k e => (hA9.above k e).1
    have P0 := (hq9.cell (p := ⟨S0, 0, none⟩) ltS).trans p0
    have ltS9 := Nat.lt_of_lt_of_le ltS hq9.size
    clear p0 p1 p2 p3 p4 p5 hA9 hW8 hb8 HP8 HE8 HLK
    obtain ⟨i0, i1, i2⟩ := hW9.reg (d := 0) (by decide)
    have hst9 := hW9.step
    have hlt9 := hW9.lt
    simp only [Nat.zero_mul, Nat.add_zero, Nat.reduceAdd] at i0 i1 i2
    have HW9 : Hid (z04 w9 B (pc : Int) y) := hW9
    clear hW9
    by_cases he : er = 0
    ·subst he
     obtain ⟨a10, c10, hv10⟩ := HA9.out.shape
     subst hv10
     have hql : (posL (ls.map fun z => (pc + 1 + z.1.toNat, z.2))).length = ls.length := by unfold posL; rw [List.length_map, List.length_map]
     have hq2 := HL2.out
     rw [<- hql] at hq2
     clear hql
     generalize hq : (posL (ls.map fun z => (pc + 1 + z.1.toNat, z.2))).length = q at *
     have HQ : Hid ((posL (ls.map fun z => (pc + 1 + z.1.toNat, z.2))).length = q) := hq
     have hq0 : (0 : Int) <= (q : Int) := by omega
     have hq1 : (q : Int) <= 2 := by omega
     have HGS2 : Hid (goF C D S R O N (3999 - k) ((ls.map fun z => (pc + 1 + z.1.toNat, z.2)) ++ st) (if c = 28 then es ++ [y.reg 0] else es) = X) := HGS.out
     have hgB : g < w8.heap.size := by omega
     clear hq HGS
     by_cases h28 : c = 28
     ·have x28 : (c == 28) = true := by simpa using h28
      have HGS3 : Hid (goF C D S R O N (3999 - k) ((ls.map fun z => (pc + 1 + z.1.toNat, z.2)) ++ st) (es ++ [y.reg 0]) = X) := by have := HGS2.out; rw [if_pos h28] at this; exact this
      have HESL : Hid (es.length <= k) := H.out.esl
      have hesl := H.out.esl
      clear HGS2
      go_upto_region 16 with fail
      go_step
      (refine z03 rfl u4 w9 (by go_simp; try rfl) ?_); simp only [Act.put, siA, scZ, scS]
      (refine z03 rfl (pT (some ⟨B, 1, none⟩)) w9 (by go_simp; try rfl) ?_); simp only [Act.put, siA, scZ, scS]
      (refine z03 rfl (pT (some ⟨B, 1, none⟩)) w9 (by go_simp; try rfl) ?_); simp only [Act.put, siA, scZ, scS]
      (refine z03 rfl (pT (some ⟨B, 2, none⟩)) w9 (by go_simp; try rfl) ?_); simp only [Act.put, siA, scZ, scS]
      (refine z03 rfl (.agg #[A F (y.reg 0).l, A F (y.reg 0).h]) w9 (by go_simp; try rfl) ?_); simp only [Act.put, siA, scZ, scS]
      refine z03 rfl (.slice (some ⟨w9.heap.size, 0, none⟩) 1 1) (w9.alloc (cT #[A F (y.reg 0).l, A F (y.reg 0).h] 122)) (by go_simp; try rfl) ?_
      simp only [Act.put, siA, scZ, scS]
      refine zLi rfl (.tmp 59) (.tmp 64) rfl w.heap.size u4 es rfl HE9.out (y.reg 0) rfl (by omega) hb9.size ?_
      intro E2 w10 hE2 hg10 hs10
      simp only [Act.put, siA, scZ, scS]
      have hb10 := ((Blk.nil hb9).grown hg10 (b := w.heap.size) (fun k e => (HE9.out.above k e).1) (Nat.le_refl _) (by simp)).1
      have HP10 := HP9.out.grown hg10 (fun k e e2 => HSep.out k e2 e)
      have HA10 := HA9.out.grown hg10 (fun k e e2 => by have h3 := HAB.out k e2; have h4 := HEB.out k e; omega)
      have HLay : Hid (z8w w (posL st.reverse) (posL (ls.map fun z => (pc + 1 + z.1.toNat, z.2))) (.slice a10 q c10) E2 (es ++ [y.reg 0]) q (.slice (some ⟨g, 0, none⟩) m cp) w10) := ⟨Nat.le_of_eq HQ.out.symm, hb10, by rw [List.drop_eq_nil_of_le (Nat.le_of_eq HQ.out), List.reverse_nil, List.append_nil]; exact HP10, HA10, hE2, fun k e e2 => (hs10 k e2).elim (fun e3 => HSep.out k e e3) (fun e3 => by have h4 : g = k := Option.some.inj e; have := hq9.size; omega), fun k e e2 => by have h3 := HAB.out k e2; have h4 : g = k := Option.some.inj e; omega, by rw [HQ.out, HM.out]; omega⟩
      clear hE2 hg10 hs10 HP10 HA10 hb10
      go_wp2_with fail
      go_loopw [5, 12] (fun vw vi wr2 => ∃ j : Nat, vi = A F ((j : Int) - 1) /\ Hid (z8w w (posL st.reverse) (posL (ls.map fun z => (pc + 1 + z.1.toNat, z.2))) (.slice a10 q c10) E2 (es ++ [y.reg 0]) j vw wr2)) (fun _ vi _ => (intOf vi + 1).toNat)
      case atStart => exact ⟨q, by go_num, HLay.out⟩
      case round =>
       obtain ⟨j, rfl, HI⟩ := hrel
       clear HLay
       cases j with
       | zero =>
        go_wp2_with fail
        go_roundw
        case rel =>
         refine ⟨k + 1, (ls.map fun z => (pc + 1 + z.1.toNat, z.2)) ++ st, (es ++ [y.reg 0]), by go_num, by omega, HI.out.below, ?_, HI.out.ends, HI.out.sepE, HLO.out, ?_, ?_, ?_⟩
         ·rw [zKd]; exact HI.out.ways
         ·have := HL2.out; rw [List.length_append, List.length_map]; omega
         ·have := HESL.out; rw [List.length_append]; simp; omega
         ·rw [show 4000 - (k + 1) = 3999 - k by omega]; exact HGS3.out
        case measure => first | (simp [intOf]; done) | (simp [intOf]; omega)
       | succ j =>
        have hj1 : j + 1 <= q := by have := HI.out.jl; rw [HQ.out] at this; exact this
        obtain ⟨x, hx1, hx2, hx3⟩ := HI.out.part
        obtain ⟨px, yx⟩ := x
        obtain ⟨gv, ha10, -, -, hgv⟩ := HI.out.led.some_of (by have := HQ.out; omega)
        subst ha10
        have hld := HI.out.led
        have hel : wr.rangeAt gv (j * 82) (z05 px yx).toList := by rw [hx2] at hld; have := hld.elem; rw [hx3] at this; exact this
        have HEL : Hid (wr.rangeAt gv (j * 82) (z05 px yx).toList) := hel
        have HX1 : Hid ((posL (ls.map fun z => (pc + 1 + z.1.toNat, z.2))).drop j = (px, yx) :: (posL (ls.map fun z => (pc + 1 + z.1.toNat, z.2))).drop (j + 1)) := hx1
        have e1 : ((j + 1 : Nat) : Int) - 1 = (j : Int) := by omega
        rw [e1]
        have hj0 : (0 : Int) <= (j : Int) := by omega
        have hj2 : (j : Int) < (q : Int) := by omega
        have hwv := HI.out.ways.shape
        obtain ⟨av, cv, hv⟩ := hwv
        have HF5 : Hid (((posL st.reverse) ++ ((posL (ls.map fun z => (pc + 1 + z.1.toNat, z.2))).drop (j + 1)).reverse).length <= 1000000) := HI.out.small
        have hb5 := HI.out.below.size
        clear hel hld hx1 hx2 hx3 hv e1
        go_upto_region 20 with fail
        go_step
        (refine z03 rfl u5 wr (by go_simp; try rfl) ?_); simp only [Act.put, siA, scZ, scS]
        (refine z03 rfl (.slice (some ⟨gv, 0, none⟩) q c10) wr (by go_simp; try rfl) ?_); simp only [Act.put, siA, scZ, scS]
        (refine z03 rfl (A F (j : Int)) wr (by go_simp; try rfl) ?_); simp only [Act.put, siA, scZ, scS]
        refine z03 rfl (pT (some ⟨gv, j * 82, none⟩)) wr (by go_simp; try (intro h; omega)) ?_
        simp only [Act.put, siA, scZ, scS]
        refine z88 rfl (.tmp 76) rfl gv (j * 82) rfl px yx HEL.out ?_
        simp only [Act.put, siA, scZ, scS]
        refine z1h rfl (.tmp 77) px yx rfl rfl ?_
        simp only [Act.put, siA, scZ, scS]
        refine z8y rfl (.tmp 73) (.tmp 78) rfl w.heap.size u5 _ rfl HI.out.ways px yx rfl HF5.out hb5 ?_
        intro V3 w13 hA3 hg3 hs3
        have HL3 : Hid (z8w w (posL st.reverse) (posL (ls.map fun z => (pc + 1 + z.1.toNat, z.2))) (.slice (some ⟨gv, 0, none⟩) q c10) E2 (es ++ [y.reg 0]) j V3 w13) := HI.out.lay HX1.out hA3 hg3 hs3
        clear hA3 hg3 hs3
        simp only [Act.put, siA, scZ, scS]
        go_wp2_with fail
        go_roundw
        case rel => exact ⟨j, by go_num, HL3.out⟩
        case measure => first | (simp [intOf]; done) | (simp [intOf]; omega)
     ·have x28 : (c == 28) = false := by simpa using h28
      have HGS3 : Hid (goF C D S R O N (3999 - k) ((ls.map fun z => (pc + 1 + z.1.toNat, z.2)) ++ st) es = X) := by have := HGS2.out; rw [if_neg h28] at this; exact this
      have HESL : Hid (es.length <= k) := H.out.esl
      have HLay : Hid (z8w w (posL st.reverse) (posL (ls.map fun z => (pc + 1 + z.1.toNat, z.2))) (.slice a10 q c10) u4 es q (.slice (some ⟨g, 0, none⟩) m cp) w9) := ⟨Nat.le_of_eq HQ.out.symm, hb9, by rw [List.drop_eq_nil_of_le (Nat.le_of_eq HQ.out), List.reverse_nil, List.append_nil]; exact HP9.out, HA9.out, HE9.out, HSep.out, fun k e e2 => by have h3 := HAB.out k e2; have h4 : g = k := Option.some.inj e; omega, by rw [HQ.out, HM.out]; omega⟩
      clear HGS2
      go_wp2_with fail
      go_loopw [5, 12] (fun vw vi wr2 => ∃ j : Nat, vi = A F ((j : Int) - 1) /\ Hid (z8w w (posL st.reverse) (posL (ls.map fun z => (pc + 1 + z.1.toNat, z.2))) (.slice a10 q c10) u4 es j vw wr2)) (fun _ vi _ => (intOf vi + 1).toNat)
      case atStart => exact ⟨q, by go_num, HLay.out⟩
      case round =>
       obtain ⟨j, rfl, HI⟩ := hrel
       clear HLay
       cases j with
       | zero =>
        go_wp2_with fail
        go_roundw
        case rel =>
         refine ⟨k + 1, (ls.map fun z => (pc + 1 + z.1.toNat, z.2)) ++ st, es, by go_num, by omega, HI.out.below, ?_, HI.out.ends, HI.out.sepE, HLO.out, ?_, ?_, ?_⟩
         ·rw [zKd]; exact HI.out.ways
         ·have := HL2.out; rw [List.length_append, List.length_map]; omega
         ·have := HESL.out; omega
         ·rw [show 4000 - (k + 1) = 3999 - k by omega]; exact HGS3.out
        case measure => first | (simp [intOf]; done) | (simp [intOf]; omega)
       | succ j =>
        have hj1 : j + 1 <= q := by have := HI.out.jl; rw [HQ.out] at this; exact this
        obtain ⟨x, hx1, hx2, hx3⟩ := HI.out.part
        obtain ⟨px, yx⟩ := x
        obtain ⟨gv, ha10, -, -, hgv⟩ := HI.out.led.some_of (by have := HQ.out; omega)
        subst ha10
        have hld := HI.out.led
        have hel : wr.rangeAt gv (j * 82) (z05 px yx).toList := by rw [hx2] at hld; have := hld.elem; rw [hx3] at this; exact this
        have HEL : Hid (wr.rangeAt gv (j * 82) (z05 px yx).toList) := hel
        have HX1 : Hid ((posL (ls.map fun z => (pc + 1 + z.1.toNat, z.2))).drop j = (px, yx) :: (posL (ls.map fun z => (pc + 1 + z.1.toNat, z.2))).drop (j + 1)) := hx1
        have e1 : ((j + 1 : Nat) : Int) - 1 = (j : Int) := by omega
        rw [e1]
        have hj0 : (0 : Int) <= (j : Int) := by omega
        have hj2 : (j : Int) < (q : Int) := by omega
        have hwv := HI.out.ways.shape
        obtain ⟨av, cv, hv⟩ := hwv
        have HF5 : Hid (((posL st.reverse) ++ ((posL (ls.map fun z => (pc + 1 + z.1.toNat, z.2))).drop (j + 1)).reverse).length <= 1000000) := HI.out.small
        have hb5 := HI.out.below.size
        clear hel hld hx1 hx2 hx3 hv e1
        go_upto_region 20 with fail
        go_step
        (refine z03 rfl u5 wr (by go_simp; try rfl) ?_); simp only [Act.put, siA, scZ, scS]
        (refine z03 rfl (.slice (some ⟨gv, 0, none⟩) q c10) wr (by go_simp; try rfl) ?_); simp only [Act.put, siA, scZ, scS]
        (refine z03 rfl (A F (j : Int)) wr (by go_simp; try rfl) ?_); simp only [Act.put, siA, scZ, scS]
        refine z03 rfl (pT (some ⟨gv, j * 82, none⟩)) wr (by go_simp; try (intro h; omega)) ?_
        simp only [Act.put, siA, scZ, scS]
        refine z88 rfl (.tmp 76) rfl gv (j * 82) rfl px yx HEL.out ?_
        simp only [Act.put, siA, scZ, scS]
        refine z1h rfl (.tmp 77) px yx rfl rfl ?_
        simp only [Act.put, siA, scZ, scS]
        refine z8y rfl (.tmp 73) (.tmp 78) rfl w.heap.size u5 _ rfl HI.out.ways px yx rfl HF5.out hb5 ?_
        intro V3 w13 hA3 hg3 hs3
        have HL3 : Hid (z8w w (posL st.reverse) (posL (ls.map fun z => (pc + 1 + z.1.toNat, z.2))) (.slice (some ⟨gv, 0, none⟩) q c10) u4 es j V3 w13) := HI.out.lay HX1.out hA3 hg3 hs3
        clear hA3 hg3 hs3
        simp only [Act.put, siA, scZ, scS]
        go_wp2_with fail
        go_roundw
        case rel => exact ⟨j, by go_num, HL3.out⟩
        case measure => first | (simp [intOf]; done) | (simp [intOf]; omega)
    ·have he2 : (er != 0) = true := by simpa using he
     go_upto_region 14 with fail
     go_region
     go_wp2_with fail
     exact bodyPost_ret (v := .tuple #[.slice none 0 0, .iface 150 (pT (some ⟨w9.heap.size, 0, none⟩))]) (by simp [results, Tryz.results51, go_sem]) rfl ⟨(hb9.alloc hb9.size _).drew, (by rw [<- HGS.out, if_pos he]; exact ⟨w9.heap.size, rfl, hb9.size, (z8u _ _ _ _).2.2, (z8u _ _ _ _).1, (z8u _ _ _ _).2.1⟩)⟩
def z5m (es : List Kno) (i : Nat) : Int × Int := ((es.getD i kno0).l, (es.getD i kno0).h)
theorem zJi (es : List Kno) : ∀ i, i < es.length -> (z48 es)[i * 2]? = some (A F (z5m es i).1) /\ (z48 es)[i * 2 + 1]? = some (A F (z5m es i).2) := by
 induction es with
 | nil => intro i hi; exact absurd hi (by simp)
 | cons b es ih =>
  intro i hi
  cases i with
  | zero => exact ⟨rfl, rfl⟩
  | succ i =>
   obtain ⟨h1, h2⟩ := ih i (by simpa using hi)
   unfold z48 z5m at *
   rw [List.flatMap_cons, show (i + 1) * 2 = (i * 2 + 1) + 1 by omega]
   exact ⟨h1, h2⟩
theorem zJ4 {w : World} {base : Nat} {v : Value} {es : List Kno} (h : z31 w base v es) (hl : es.length <= 4000) : Calls tP 52 #[v] w fun e w' => e = rT (.agg #[A F (z1e (z5m es) es.length).1, A F (z1e (z5m es) es.length).2]) /\ Below w.heap.size w w' := by
 rcases h.2 with ⟨h1, h2⟩ | ⟨g, cap, cur, h1, h2, h3, h4⟩
 ·rw [h1, h2]; exact z6g none 0 w
 ·rw [h1]
  by_cases hz : es.length = 0
  ·rw [hz]; exact z6g _ cap w
  ·refine zAx g es.length cap (z5m es) (by omega) (by omega) w (Array.getElem?_eq_some_iff.1 h3).1 (fun i hi => ?_)
   obtain ⟨e1, e2⟩ := zJi es i hi
   have k1 := World.ownsRow.cells h (g := g) (by rw [h1]; rfl) _ _ e1
   have k2 := World.ownsRow.cells h (g := g) (by rw [h1]; rfl) _ _ e2
   rw [Addr.add_mid, Nat.zero_add] at k1 k2
   exact ⟨k1, k2⟩
theorem zNj (f : Nat -> Int × Int) (n : Int) : ∀ k i, i < k -> (f i).1 <= n -> n <= (f i).2 -> (z1e f k).1 <= n /\ n <= (z1e f k).2 := by
 intro k
 induction k with
 | zero => intro i hi; exact absurd hi (by omega)
 | succ k ih =>
  intro i hi h1 h2
  by_cases hk : k = 0
  ·subst hk
   obtain rfl : i = 0 := by omega
   rw [zCz]; exact ⟨h1, h2⟩
  ·rw [z73 f hk]
   by_cases e : i = k
   ·subst e; exact ⟨by show min _ _ <= n; omega, by show n <= max _ _; omega⟩
   ·obtain ⟨a, b⟩ := ih i (by omega) h1 h2
    exact ⟨by show min _ _ <= n; omega, by show n <= max _ _; omega⟩
theorem zNi {es : List Kno} {b : Kno} (hb : b ∈ es) {n : Int} (h1 : b.l <= n) (h2 : n <= b.h) : (z1e (z5m es) es.length).1 <= n /\ n <= (z1e (z5m es) es.length).2 := by
 obtain ⟨i, hi, e⟩ := List.getElem_of_mem hb
 have e1 : z5m es i = (b.l, b.h) := by unfold z5m; rw [List.getD_eq_getElem?_getD, List.getElem?_eq_getElem hi, e]; rfl
 exact zNj (z5m es) n es.length i hi (by rw [e1]; exact h1) (by rw [e1]; exact h2)
theorem zG5 {bk off len cap : Nat} {C D S O N : Nat -> Int} {R : Nat -> Bool} {w : World} {i : Nat} (hi : i < len) (hno : ∀ j, j < i -> z1j len C D S R O N j = 0) (hf : z1j len C D S R O N i ≠ 0) (hst : z1l w bk off len C D S R O N) (h1 : 1 <= len) (h2 : len <= 200) (hbk : bk < w.heap.size) :
  Calls tP 50 #[.slice (some ⟨bk, off, none⟩) len cap] w fun e w' => ∃ p, e = rT (.iface 150 (pT (some ⟨p, 0, none⟩))) /\ w.heap.size <= p /\ Below w.heap.size w w' /\ p < w'.heap.size /\ w'.cell? ⟨p, 0, none⟩ = some (A F (z1j len C D S R O N i)) /\ w'.cell? ⟨p, 1, none⟩ = some (A F (i : Int)) := by
 refine (z5g bk off len cap C D S O N R w h1 h2 hbk hst).mono fun e w' hh => ?_
 obtain ⟨hb, hh⟩ := hh
 rcases hh with ⟨_, h⟩ | ⟨k, p, hk, hno', hf', he, hp, hc0, hc1⟩
 ·exact absurd (h i hi) hf
 ·obtain rfl := zCh hno hf hno' hf'
  exact ⟨p, he, hp, hb, World.block_lt_of_cell? w' _ hc0, hc0, hc1⟩
theorem z7z {w : World} {B p o o' q : Nat} {x y : Value} (hne : p ≠ B) : ((w.setCell ⟨B, o, none⟩ x).setCell ⟨B, o', none⟩ y).cell? ⟨p, q, none⟩ = w.cell? ⟨p, q, none⟩ :=
 World.cell?_of_block ((Below.heap_setCell _ _ _ p hne).trans (Below.heap_setCell _ _ _ p hne))
theorem zFf (a : Option Addr) (len cap : Nat) (h : len < 1 \/ 200 < len) (w : World) :
  Calls tP 35 #[.slice a len cap] w fun e w' => e = rT (.tuple #[.agg #[A F 0, A F 0], .iface 30 (A F 4)]) /\ Below w.heap.size w w' := by
 have hK0 : Blk w [(w.heap.size, cT #[A F 0, A F 0] 122 (0, 0))] (w.alloc (cT #[A F 0, A F 0] 122)) := (Blk.nil ((bF _ _).alloc (Nat.le_refl _) _)).cons (heap_alloc_new w _)
 go_enter Tryz.func35, Tryz.ntmps35
 go_upto_region 1 with fail
 generalize (w.alloc (cT #[A F 0, A F 0] 122)) = w0 at hK0 ⊢
 go_step
 (refine z03 rfl (.slice a len cap) w0 (by go_simp; try rfl) ?_); simp only [Act.put, siA, scZ, scS]
 (refine z0m rfl 50 #[.slice a len cap] (by go_simp; try rfl) (.iface 30 (A F 4)) (z7l a len cap h w0) ?_)
 intro w1 hw1
 subst hw1
 have hK1 := hK0
 obtain ⟨r0, r1, rf0, rf1, rlt⟩ := row2 (hK1.2 _ mcS)
 simp only [Act.put, siA, scZ, scS]
 go_wp2_with fail
 exact bodyPost_ret (v := .tuple #[.agg #[A F 0, A F 0], .iface 30 (A F 4)]) (by simp [results, Tryz.results35, go_sem, *]) rfl ⟨rfl, (hK1.1.setCell (Nat.le_refl _) _).setCell (Nat.le_refl _) _⟩
theorem zFe (bk off len cap : Nat) (C D S O N : Nat -> Int) (R : Nat -> Bool) (w : World) (h1 : 1 <= len) (h2 : len <= 200) (hbk : bk < w.heap.size) (hst : z1l w bk off len C D S R O N) (i : Nat) (hi : i < len) (hno : ∀ j, j < i -> z1j len C D S R O N j = 0) (hfa : z1j len C D S R O N i ≠ 0) :
  Calls tP 35 #[.slice (some ⟨bk, off, none⟩) len cap] w fun e w' => ∃ p, e = rT (.tuple #[.agg #[A F 0, A F 0], .iface 150 (pT (some ⟨p, 0, none⟩))]) /\ Below w.heap.size w w' /\ w.heap.size < p /\ p < w'.heap.size /\ w'.cell? ⟨p, 0, none⟩ = some (A F (z1j len C D S R O N i)) /\ w'.cell? ⟨p, 1, none⟩ = some (A F (i : Int)) := by
 have hK0 : Blk w [(w.heap.size, cT #[A F 0, A F 0] 122 (0, 0))] (w.alloc (cT #[A F 0, A F 0] 122)) := (Blk.nil ((bF _ _).alloc (Nat.le_refl _) _)).cons (heap_alloc_new w _)
 go_enter Tryz.func35, Tryz.ntmps35
 go_upto_region 1 with fail
 generalize (w.alloc (cT #[A F 0, A F 0] 122)) = w0 at hK0 ⊢
 go_step
 (refine z03 rfl (.slice (some ⟨bk, off, none⟩) len cap) w0 (by go_simp; try rfl) ?_); simp only [Act.put, siA, scZ, scS]
 have hst0 := hst.later (hK0.1) hbk
 have hbk0 := Nat.lt_of_lt_of_le hbk hK0.1.size
 refine z0p rfl 50 #[.slice (some ⟨bk, off, none⟩) len cap] (by go_simp; try rfl) (R := fun x w' => ∃ p, x = .iface 150 (pT (some ⟨p, 0, none⟩)) /\ w0.heap.size <= p /\ Below w0.heap.size w0 w' /\ p < w'.heap.size /\ w'.cell? ⟨p, 0, none⟩ = some (A F (z1j len C D S R O N i)) /\ w'.cell? ⟨p, 1, none⟩ = some (A F (i : Int))) ((zG5 (cap := cap) hi hno hfa hst0 h1 h2 hbk0).mono fun e w' h => by obtain ⟨p, h1, h2⟩ := h; exact ⟨_, h1, p, rfl, h2⟩) ?_
 intro v1 w1 hq
 obtain ⟨p, rfl, hp0, hb1, hp1, c0, c1⟩ := hq
 have hK1 := hK0.later hb1
 obtain ⟨r0, r1, rf0, rf1, rlt⟩ := row2 (hK1.2 _ mcS)
 have hw0 := hK0.lt mcS
 have hpne : p ≠ w.heap.size := by omega
 simp only [Act.put, siA, scZ, scS]
 go_wp2_with fail
 exact bodyPost_ret (v := .tuple #[.agg #[A F 0, A F 0], .iface 150 (pT (some ⟨p, 0, none⟩))]) (by simp [results, Tryz.results35, go_sem, *]) rfl ⟨p, rfl, (hK1.1.setCell (Nat.le_refl _) _).setCell (Nat.le_refl _) _, by omega, by simpa using hp1, (z7z hpne).trans c0, (z7z hpne).trans c1⟩
theorem zKv (bk off len cap : Nat) (C D S O N : Nat -> Int) (R : Nat -> Bool) (w : World) (h1 : 1 <= len) (h2 : len <= 200) (hbk : bk < w.heap.size) (hst : z1l w bk off len C D S R O N) (h : ∀ j, j < len -> z1j len C D S R O N j = 0) (hf : ∀ i, i < len -> In64 (O i) /\ In64 (N i)) : (∀ (er : Int) (i : Nat) (hgo : goF C D S R O N 4000 [(0, way0)] [] = .inl (er, i)), Calls tP 35 #[.slice (some ⟨bk, off, none⟩) len cap] w fun e w' => ∃ p, e = rT (.tuple #[.agg #[A F 0, A F 0], .iface 150 (pT (some ⟨p, 0, none⟩))]) /\ Below w.heap.size w w' /\ w.heap.size < p /\ p < w'.heap.size /\ w'.cell? ⟨p, 0, none⟩ = some (A F er) /\ w'.cell? ⟨p, 1, none⟩ = some (A F (i : Int))) /\ (∀ (es : List Kno) (hgo : goF C D S R O N 4000 [(0, way0)] [] = .inr es), Calls tP 35 #[.slice (some ⟨bk, off, none⟩) len cap] w fun e w' => e = rT (.tuple #[.agg #[A F (z1e (z5m es) es.length).1, A F (z1e (z5m es) es.length).2], .nilIface]) /\ Below w.heap.size w w') := by
 refine ⟨?_, ?_⟩
 intro er i hgo
 rotate_left
 intro es hgo
 rotate_left
 all_goals
  have hK0 : Blk w [(w.heap.size, cT #[A F 0, A F 0] 122 (0, 0))] (w.alloc (cT #[A F 0, A F 0] 122)) := (Blk.nil ((bF _ _).alloc (Nat.le_refl _) _)).cons (heap_alloc_new w _)
 all_goals
  go_enter Tryz.func35, Tryz.ntmps35
  go_upto_region 1 with fail
  generalize (w.alloc (cT #[A F 0, A F 0] 122)) = w0 at hK0 ⊢
  go_step
  (refine z03 rfl (.slice (some ⟨bk, off, none⟩) len cap) w0 (by go_simp; try rfl) ?_); simp only [Act.put, siA, scZ, scS]
  have hst0 := hst.later (hK0.1) hbk
  have hbk0 := Nat.lt_of_lt_of_le hbk hK0.1.size
  (refine z0m rfl 50 #[.slice (some ⟨bk, off, none⟩) len cap] (by go_simp; try rfl) .nilIface (z4n h hst0 h1 h2 hbk0) ?_)
  intro w1 hb1
  have hK1 := hK0.later hb1
  have hst1 := hst0.later hb1 hbk0
  have hbk1 := Nat.lt_of_lt_of_le hbk0 hb1.size
  simp only [Act.put, siA, scZ, scS]
  go_upto_region 4 with fail
  go_step
  (refine z03 rfl (.slice (some ⟨bk, off, none⟩) len cap) w1 (by go_simp; try rfl) ?_); simp only [Act.put, siA, scZ, scS]
 ·refine z0p rfl 51 #[.slice (some ⟨bk, off, none⟩) len cap] (by go_simp; try rfl) (R := fun x w' => ∃ p, x = .tuple #[.slice none 0 0, .iface 150 (pT (some ⟨p, 0, none⟩))] /\ Below w1.heap.size w1 w' /\ w1.heap.size <= p /\ p < w'.heap.size /\ w'.cell? ⟨p, 0, none⟩ = some (A F er) /\ w'.cell? ⟨p, 1, none⟩ = some (A F (i : Int))) ((zGr bk off len cap C D S O N R w1 h1 h2 hbk1 hst1 (fun i hi => z7g (h i hi)) hf).mono fun e w' hh => by rw [hgo] at hh; obtain ⟨hb, hh⟩ := hh; obtain ⟨p, h3, h4⟩ := hh; exact ⟨_, h3, p, rfl, hb, h4⟩) ?_
  intro v2 w2 hq
  obtain ⟨p, rfl, hb2, hp0, hp1, c0, c1⟩ := hq
  have hw1 := hK1.lt mcS
  have hpne : p ≠ w.heap.size := by omega
  have hK1 := hK1.later hb2
  obtain ⟨r0, r1, rf0, rf1, rlt⟩ := row2 (hK1.2 _ mcS)
  simp only [Act.put, siA, scZ, scS]
  go_wp2_with fail
  exact bodyPost_ret (v := .tuple #[.agg #[A F 0, A F 0], .iface 150 (pT (some ⟨p, 0, none⟩))]) (by simp [results, Tryz.results35, go_sem, *]) rfl ⟨p, rfl, (hK1.1.setCell (Nat.le_refl _) _).setCell (Nat.le_refl _) _, by omega, by simpa using hp1, (z7z hpne).trans c0, (z7z hpne).trans c1⟩
 ·refine z0p rfl 51 #[.slice (some ⟨bk, off, none⟩) len cap] (by go_simp; try rfl) (R := fun x w' => ∃ E, x = .tuple #[E, .nilIface] /\ Below w1.heap.size w1 w' /\ z31 w' w1.heap.size E es /\ es.length <= 4000) ((zGr bk off len cap C D S O N R w1 h1 h2 hbk1 hst1 (fun i hi => z7g (h i hi)) hf).mono fun e w' hh => by rw [hgo] at hh; obtain ⟨hb, hh⟩ := hh; obtain ⟨E, h3, h4⟩ := hh; exact ⟨_, h3, E, rfl, hb, h4⟩) ?_
  intro v2 w2 hq
  obtain ⟨E, rfl, hb2, hE2, hl2⟩ := hq
  have hK2 := hK1.later hb2
  simp only [Act.put, siA, scZ, scS]
  go_upto_region 7 with fail
  go_step
  (refine z03 rfl E w2 (by go_simp; try rfl) ?_); simp only [Act.put, siA, scZ, scS]
  (refine z0m rfl 52 #[E] (by go_simp; try rfl) (.agg #[A F (z1e (z5m es) es.length).1, A F (z1e (z5m es) es.length).2]) (zJ4 hE2 hl2) ?_)
  intro w3 hb3
  have hK1 := hK2.later hb3
  obtain ⟨r0, r1, rf0, rf1, rlt⟩ := row2 (hK1.2 _ mcS)
  simp only [Act.put, siA, scZ, scS]
  clear hE2
  go_wp2_with fail
  exact bodyPost_ret (v := .tuple #[.agg #[A F (z1e (z5m es) es.length).1, A F (z1e (z5m es) es.length).2], .nilIface]) (by simp [results, Tryz.results35, go_sem, *]) rfl ⟨rfl, (hK1.1.setCell (Nat.le_refl _) _).setCell (Nat.le_refl _) _⟩
def zLu := fun bk off len cap C D S O N R w h1 h2 hbk hst h hf => (@zKv bk off len cap C D S O N R w h1 h2 hbk hst h hf).1
def zHv := fun bk off len cap C D S O N R w h1 h2 hbk hst h hf => (@zKv bk off len cap C D S O N R w h1 h2 hbk hst h hf).2
end
section
open Go.RowKit
theorem zCi {C D S : Nat -> Int} {R : Nat -> Bool} {O N : Nat -> Int} {len : Nat} (hr : ∀ i, i < len -> zK1 (C i) (D i) (S i) (R i) (O i) (N i) len i) (hf : ∀ i, i < len -> In64 (N i)) :
  ∀ (m pc k : Nat) (a : Abs), len <= pc + m -> a.Ok -> ∀ n k' a', runF C D S R O N len pc k a = .fine n k' a' -> a'.Ok := by
 intro m
 induction m with
 | zero =>
  intro pc k a hm ha n k' a' h
  rw [z8g, if_neg (by omega)] at h
  exact absurd h (by simp [End.bad, End.fine])
 | succ m ih =>
  intro pc k a hm ha n k' a' h
  by_cases hp : pc < len
  ·by_cases hc : C pc = 28
   ·by_cases hw : z2r (a.reg 0) = 0
    ·rw [zAb hp hc hw] at h
     have e : a = a' := by
      simp only [End.fine, Sum.inr.injEq, Prod.mk.injEq] at h
      exact h.2.2
     rw [<- e]; exact ha
    ·rw [z7e hp hc hw] at h
     exact absurd h (by simp [End.bad, End.fine])
   ·by_cases hw : (doF (C pc) (D pc) (S pc) (R pc) (O pc) (N pc) a).2.1 = 0
    ·rw [zI4 hp hc hw] at h
     have r := hr pc hp
     exact ih _ _ _ (by omega) (zR9 ha r.c1 r.c2 hc r.d1 r.d2 r.s1 r.s2 (hf pc hp) (r := R pc) (o := O pc)) _ _ _ h
    ·rw [zK7 hp hc hw] at h
     exact absurd h (by simp [End.bad, End.fine])
  ·rw [z8g, if_neg hp] at h
   exact absurd h (by simp [End.bad, End.fine])
theorem zP5 (T K : Nat -> Int) (time : Int) : way0.Has ((z4t T K time).abs []) := by
 refine ⟨fun i hi => ?_, fun i hi => Or.inl rfl⟩
 rcases (by omega : i = 0 \/ i = 1 \/ i = 2 \/ i = 3 \/ i = 4 \/ i = 5 \/ i = 6 \/ i = 7 \/ i = 8 \/ i = 9 \/ i = 10) with rfl | rfl | rfl | rfl | rfl | rfl | rfl | rfl | rfl | rfl | rfl <;>
  first | exact Or.inl rfl | exact Or.inr (Or.inl ⟨by decide, by decide, rfl, Int.le_refl (0 : Int), Int.le_refl (0 : Int)⟩)
theorem zP7 {C D S : Nat -> Int} {R : Nat -> Bool} {O N : Nat -> Int} {len : Nat} {es : List Kno} (h1 : 1 <= len) (h : ∀ j, j < len -> z1j len C D S R O N j = 0) (hf : ∀ i, i < len -> In64 (O i) /\ In64 (N i)) (hgo : goF C D S R O N 4000 [(0, way0)] [] = .inr es)
  (T K : Nat -> Int) (time : Int) (hT : ∀ i, i < 8 -> In64 (T i)) (hK : ∀ i, i < 16 -> In64 (K i)) (ht : In64 time) :
  ∃ n k a, runF C D S R O N len 0 0 ((z4t T K time).abs []) = .fine n k a /\ 1 <= k /\ k <= len /\ (z1e (z5m es) es.length).1 <= n /\ n <= (z1e (z5m es) es.length).2 /\ a.out.length <= 50 := by
 have hr := fun i hi => z7g (h i hi)
 obtain ⟨n, k, a, e1, e2, e3, b, hb, b1, b2⟩ := go_from_start hr hf h1 hgo _ (z7c hT hK ht) (zP5 T K time)
 obtain ⟨j1, j2⟩ := zNi hb b1 b2
 exact ⟨n, k, a, e1, e2, e3, j1, j2, (zCi hr (fun i hi => (hf i hi).2) len 0 0 _ (by omega) (z7c hT hK ht) n k a e1).room⟩
end
section
open Go.ChangeShapes Go.WideShapes Go.ChangeAt Go.RowKit
attribute [local simp] z00 z0d z07
structure LsAt (w : World) (l : Value) (xs : List St) : Prop where
 lies : ∃ a cap, l = .slice a xs.length cap /\ (xs.length = 0 \/ ∃ bk off, a = some ⟨bk, off, none⟩ /\ bk < w.heap.size /\ z1l w bk off xs.length (fun j => (nth xs j).c) (fun j => (nth xs j).d) (fun j => (nth xs j).s) (fun j => (nth xs j).r) (fun j => (nth xs j).o) (fun j => (nth xs j).n))
 nums : ∀ j, j < xs.length -> In64 (nth xs j).o /\ In64 (nth xs j).n
theorem LsAt.later {w w' : World} {l : Value} {xs : List St} (h : LsAt w l xs) (hb : Below w.heap.size w w') : LsAt w' l xs := by
 obtain ⟨a, cap, e, h1⟩ := h.lies
 refine ⟨⟨a, cap, e, h1.imp id fun ⟨bk, off, h2, h3, h4⟩ => ⟨bk, off, h2, Nat.lt_of_lt_of_le h3 hb.size, z33 h4 (hb.block bk h3)⟩⟩, h.nums⟩
def Lets (xs : List St) : Prop := 1 <= xs.length /\ xs.length <= 200 /\ (∀ j, j < xs.length -> z3m xs j = 0) /\ ∃ es, goL xs = .inr es
theorem fault_first (f : Nat -> Int) : ∀ n, (∀ j, j < n -> f j = 0) \/ ∃ i, i < n /\ (∀ j, j < i -> f j = 0) /\ f i ≠ 0
 | 0 => Or.inl fun j hj => absurd hj (Nat.not_lt_zero j)
 | n + 1 => by
  rcases fault_first f n with h | ⟨i, h1, h2, h3⟩
  ·by_cases c : f n = 0
   ·exact Or.inl fun j hj => by
     rcases Nat.lt_succ_iff_lt_or_eq.1 hj with g | g
     ·exact h j g
     ·rw [g]; exact c
   ·exact Or.inr ⟨n, Nat.lt_succ_self n, h, c⟩
  ·exact Or.inr ⟨i, Nat.lt_succ_of_lt h1, h2, h3⟩
theorem zK3 {w : World} {l : Value} {xs : List St} (hl : LsAt w l xs) (h : Lets xs) : Calls tP 35 #[l] w fun e w' => ∃ x y, e = rT (.tuple #[.agg #[A F x, A F y], .nilIface]) /\ Below w.heap.size w w' := by
 obtain ⟨a, cap, rfl, h0⟩ := hl.lies
 obtain ⟨h1, h2, h3, es, h4⟩ := h
 obtain ⟨bk, off, rfl, hb, hs⟩ := h0.resolve_left (by omega)
 exact (zHv bk off xs.length cap _ _ _ _ _ _ w h1 h2 hb hs h3 hl.nums es h4).mono fun e w' ⟨g1, g2⟩ => ⟨_, _, g1, g2⟩
theorem zVw {w : World} {l : Value} {xs : List St} (hl : LsAt w l xs) (h : ¬ Lets xs) : Calls tP 35 #[l] w fun e w' => ∃ t x, e = rT (.tuple #[.agg #[A F 0, A F 0], .iface t x]) /\ Below w.heap.size w w' := by
 obtain ⟨a, cap, rfl, h0⟩ := hl.lies
 by_cases hc : xs.length < 1 \/ 200 < xs.length
 ·exact (zFf a xs.length cap hc w).mono fun e w' ⟨g1, g2⟩ => ⟨_, _, g1, g2⟩
 ·obtain ⟨bk, off, rfl, hb, hs⟩ := h0.resolve_left (by omega)
  rcases fault_first (z3m xs) xs.length with hf | ⟨i, i1, i2, i3⟩
  ·cases hg : goL xs with
   | inr es => exact absurd ⟨by omega, by omega, hf, es, hg⟩ h
   | inl x =>
    obtain ⟨er, i⟩ := x
    exact (zLu bk off xs.length cap _ _ _ _ _ _ w (by omega) (by omega) hb hs hf hl.nums er i hg).mono fun e w' ⟨p, g1, g2, _⟩ => ⟨_, _, g1, g2⟩
  ·exact (zFe bk off xs.length cap _ _ _ _ _ _ w (by omega) (by omega) hb hs i i1 i2 i3).mono fun e w' ⟨p, g1, g2, _⟩ => ⟨_, _, g1, g2⟩
theorem zQi {xs : List St} (h : Lets xs) (hf : ∀ j, j < xs.length -> In64 (nth xs j).o /\ In64 (nth xs j).n) (T K : Nat -> Int) (time : Int) (hT : ∀ i, i < 8 -> In64 (T i)) (hK : ∀ i, i < 16 -> In64 (K i)) (ht : In64 time) : ∃ n k a, runL xs T K time = .fine n k a /\ 1 <= k /\ k <= 200 /\ a.Ok := by
 obtain ⟨h1, h2, h3, es, h4⟩ := h
 obtain ⟨n, k, a, e1, e2, e3, -, -, -⟩ := zP7 h1 h3 hf h4 T K time hT hK ht
 exact ⟨n, k, a, e1, e2, by omega, zCi (fun i hi => z7g (h3 i hi)) (fun i hi => (hf i hi).2) xs.length 0 0 _ (by omega) (z7c hT hK ht) n k a e1⟩
theorem zO4 {o : Oper} {u : Act} (w : World) (ho : o.op = .buildSlice 33 0 #[]) : (execOp u.eval o).run tP w = .ok (.value (.slice (some ⟨w.heap.size, 0, none⟩) 0 0)) (w.alloc (cT #[] 80)) := by
 obtain ⟨i0, hi0, hz0, hz1, hz2⟩ := info_parts Tryz.infoStep
 unfold execOp
 simp only [ho, Sem.run_bind, Instr.buildSlice, run_underlying Tryz.underlying33, Result.andThen_ok, sizeOf, typeInfo, hi0, Sem.run_pure, Nat.zero_mul, if_true, if_false]
 have e : Array.map (fun x : Nat => (default : Value)) (Array.range 0) = #[] := Array.eq_empty_of_size_eq_zero (by simp)
 simp [Instr.fill, newRow, hi0, hz1, e]
theorem zUm {w : World} {l : Value} {xs : List St} (hl : LsAt w l xs) (h1 : 1 <= xs.length) (h2 : xs.length <= 200) : Calls tP 38 #[l] w fun e w' => ∃ g cap, e = rT (.slice (some ⟨g, 0, none⟩) xs.length cap) /\ w.heap.size <= g /\ Below w.heap.size w w' /\ w'.ownsRow w.heap.size 80 6 (.slice (some ⟨g, 0, none⟩) xs.length cap) xs.length (z1q xs) := by
 obtain ⟨a, cap, rfl, h0⟩ := hl.lies
 obtain ⟨bk, off, rfl, hb, hs⟩ := h0.resolve_left (by omega)
 obtain ⟨N, HN⟩ : ∃ N, Hid (xs.length = N) := ⟨_, rfl⟩
 have HS : Hid (z1l w bk off xs.length (fun j => (nth xs j).c) (fun j => (nth xs j).d) (fun j => (nth xs j).s) (fun j => (nth xs j).r) (fun j => (nth xs j).o) (fun j => (nth xs j).n)) := hs
 clear hs
 rw [HN.out] at h1 h2 ⊢
 have hen : Sem.run tP (binOp .eql 33 (.slice (some ⟨bk, off, none⟩) N cap) (.slice none 0 0)) w = .ok (.bool false) w := Lib.run_eql_slice_nil w 33 80 (some ⟨bk, off, none⟩) N cap 0 0 Tryz.underlying33
 go_enter Tryz.func38, Tryz.ntmps38
 go_upto_region 3 with fail
 go_step
 obtain ⟨i0, hi0, hz0, hz1, hz2⟩ := info_parts Tryz.infoStep
 (refine z03 rfl (.slice (some ⟨w.heap.size, 0, none⟩) 0 0) (w.alloc (cT #[] 80)) (zO4 w rfl) ?_); simp only [Act.put, siA, scZ, scS]
 (refine z03 rfl (.slice (some ⟨bk, off, none⟩) N cap) (w.alloc (cT #[] 80)) (by go_simp; try rfl) ?_); simp only [Act.put, siA, scZ, scS]
 refine wpList_append_own (w.alloc (cT #[] 80)) rfl (.tmp 5) (.tmp 6) 33 rfl w.heap.size 80 i0 (.agg St.zero.cells) 6 48 Tryz.underlying33 hi0 hz0 hz1 hz2 rfl (by decide) (.slice (some ⟨w.heap.size, 0, none⟩) 0 0) 0 [] rfl ⟨rfl, .inr ⟨w.heap.size, 0, #[], rfl, Nat.le_refl _, heap_alloc_new _ _, Nat.le_refl _, by decide, rfl, rfl⟩⟩ ⟨bk, off, none⟩ N cap (z1q xs) rfl (by rw [z77, HN.out]) (zM9 HN.out (by have := z33 HS.out (w' := w.alloc (cT #[] 80)) (heap_alloc_old _ _ hb); rw [HN.out] at this; exact this)) (zJu xs) (by unfold maxLen; omega) (by omega) (by simp) ?_
 intro v5 w5 ho5 hg5 _
 simp only [Act.put, siA, scZ, scS]
 rw [Nat.zero_add, List.nil_append] at ho5
 have hb5 : Below w.heap.size w w5 := ((bF _ _).alloc (Nat.le_refl _) _).grown hg5 (by simp) (fun j hj => Nat.le_of_eq (Option.some.inj hj))
 rcases rowShape ho5 with ⟨-, e0⟩ | ⟨g, cp, rfl⟩
 ·omega
 have hl5 := (World.ownsRow.lt ho5 g rfl).1
 go_wp2_with fail
 go_ret
 exact ⟨g, cp, rfl, hl5, hb5, ho5⟩
end
end Go.Proofs.YtbimlalhodibjaaGreatDoor
