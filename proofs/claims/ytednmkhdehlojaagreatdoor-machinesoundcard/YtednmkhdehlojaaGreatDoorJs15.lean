/-
  What package verify's goAll returns: all ways of a list of right steps, each wholly ahead of the next one. Conditions: the list's cells hold right steps; numbers are of 64 bits. What package verify's Verify returns: what is wrong with the list or with a step; the first thing that may go wrong on a way; or between which numbers all ways end. Conditions: the list's cells hold steps of 64 bits. A program that is let go can't go wrong: on plain numbers. Conditions: the steps are right; numbers are of 64 bits. gatehousekeep.MachineSound returns true where what it calls answers as it should. Conditions: said.
-/
import Derived.Test.YtednmkhdehlojaaGreatDoorJs14
import Derived.Test.YtednmkhdehlojaaGreatDoorJs5
import Derived.Test.YtednmkhdehlojaaGreatDoorJs6
open Go.Value renaming int → vI
open Go.IntKind renaming i64 → vK
open Go.RowKit.Below renaming alloc → bA, setCell → bS, drew → bD, refl → bF
set_option maxHeartbeats 4000000
set_option maxRecDepth 1000000
namespace Go.Proofs.YtednmkhdehlojaaGreatDoor
open Go.ChangeShapes Go.WideShapes Go.ChangeAt Go.RowKit
attribute [local simp] drew_size drewN_size setCell_size
theorem goAll_any (bk off len cap : Nat) (C D S O N : Nat → Int) (R : Nat → Bool) (w : World) (h1 : 1 ≤ len) (h2 : len ≤ 200) (hbk : bk < w.heap.size) (hst : StepsAt w bk off len C D S R O N) (hr : ∀ i, i < len → Right (C i) (D i) (S i) (R i) (O i) (N i) len i) (hf : ∀ i, i < len → In64 (O i) ∧ In64 (N i)) :
    Calls Tryz.prog 35 #[.slice (some ⟨bk, off, none⟩) len cap] w fun e w' => GoneAll w (goF C D S R O N 4000 [(0, way0)] []) e w' := by
  obtain ⟨X, hX⟩ : ∃ X, goF C D S R O N 4000 [(0, way0)] [] = X := ⟨_, rfl⟩
  rw [hX]
  have HX : Hid (goF C D S R O N 4000 [(0, way0)] [] = X) := hX
  have HST : Hid (StepsAt w bk off len C D S R O N) := hst
  have HR : Hid (∀ i, i < len → Right (C i) (D i) (S i) (R i) (O i) (N i) len i) := hr
  have HF : Hid (∀ i, i < len → In64 (O i) ∧ In64 (N i)) := hf
  clear hX hst hr hf
  go_enter Tryz.func35, Tryz.ntmps35
  go_upto_region 2 with fail
  go_step
  (refine wpList_callOf rfl 65 #[] (by go_simp; try rfl) (.agg (wayCs 0 way0)) (vbegin_any w) ?_)
  intro w1 hb1
  simp only [Act.put, siA, scZ, scS]
  refine wpList_ways1 rfl (.tmp 13) 0 way0 rfl rfl ?_
  simp only [Act.put, siA, scZ, scS]
  have hA1 := WaysAt.made w1 w.heap.size [(0, way0)] hb1.size (by unfold maxLen; simp)
  have hB1 := hb1.alloc hb1.size (.cells (waysCells [(0, way0)]).toArray 150)
  have HG : Hid (GoSt w len C D S R O N X 0 [(0, way0)] [] (.slice (some ⟨w1.heap.size, 0, none⟩) 1 1) (.slice none 0 0) (w1.alloc (.cells (waysCells [(0, way0)]).toArray 150))) :=
    ⟨by omega, hB1, hA1, EndsAt.nil _ _, fun k _ e => absurd e (by simp [Value.ownBlock]), fun x hx => by rw [List.mem_singleton.mp hx]; exact ⟨h1, way0_ok⟩, by simp, by simp, HX.out⟩
  clear hA1 hB1 hb1
  generalize (w1.alloc (.cells (waysCells [(0, way0)]).toArray 150)) = w2 at HG ⊢
  generalize w1.heap.size = g1 at HG ⊢
  go_wp2_with fail
  go_loopw [4, 5, 6] (fun ve vw vl wr => ∃ (k : Nat) (st : List (Nat × Way)) (es : List Kno), vl = vI vK ((k : Int) + 1) ∧ Hid (GoSt w len C D S R O N X k st es vw ve wr)) (fun _ _ vl _ => 4001 - (intOf vl).toNat)
  case atStart => exact ⟨0, [(0, way0)], [], rfl, HG.out⟩
  case round =>
    obtain ⟨k, st, es, rfl, H⟩ := hrel
    clear HG
    cases st with
    | nil =>
      obtain ⟨a, cp, hv⟩ := H.out.ways.shape
      rw [posL_len] at hv
      subst hv
      go_wp2_with fail
      exact bodyPost_ret (v := .tuple #[u4, .nilIface]) (by simp [results, Tryz.results35, go_sem]) rfl ⟨H.out.below, (by rw [← H.out.go, goF_nil]; exact ⟨_, rfl, H.out.ends, Nat.le_trans H.out.esl H.out.k4⟩)⟩
    | cons x st =>
      obtain ⟨pc, y⟩ := x
      have hw0 := H.out.ways
      rw [posL_rev] at hw0
      obtain ⟨g, cp, hv, hcp, hcm, hg0, hg1⟩ := hw0.more
      subst hv
      have hpop := hw0.pop
      have hel := hw0.elem (l2 := [])
      have hml := posL_len st
      have hml2 := H.out.stl
      have hk4 := H.out.k4
      rw [List.length_cons] at hml2
      generalize hm : (posL st.reverse).length = m at *
      have HP : Hid (WaysAt wr w.heap.size (.slice (some ⟨g, 0, none⟩) m cp) (posL st.reverse)) := hpop
      have HE : Hid (wr.rangeAt g (m * 82) (wayCs (pc : Int) y).toList) := hel
      have HM : Hid ((posL st.reverse).length = m) := hm
      have hm1 : (m : Int) ≤ 4000 := by omega
      have hm0 : (0 : Int) ≤ (m : Int) := by omega
      have hm2 : (m : Int) < ((m + 1 : Nat) : Int) := by omega
      have hcm' : cp ≤ 9223372036854775807 := hcm
      clear hpop hel hm hw0 hml hcm
      go_upto_region 7 with fail
      go_step
      (refine wpList_valueOf rfl (.slice (some ⟨g, 0, none⟩) (m + 1) cp) wr (by go_simp; try rfl) ?_); simp only [Act.put, siA, scZ, scS]
      (refine wpList_valueOf rfl (vI vK (m : Int)) wr (by go_simp; try rfl) ?_); simp only [Act.put, siA, scZ, scS]
      refine wpList_valueOf rfl (.pointer (some ⟨g, m * 82, none⟩)) wr (by go_simp; intro h; omega) ?_
      simp only [Act.put, siA, scZ, scS]
      refine wpList_way rfl (.tmp 25) rfl g (m * 82) rfl (pc : Int) y HE.out ?_
      simp only [Act.put, siA, scZ, scS]
      refine wpList_valueOf rfl (.pointer (some ⟨wr.heap.size, 0, none⟩)) (wr.alloc (.cells Tryz.zeroCells150 150 (0, 0))) (by go_simp; try rfl) ?_
      simp only [Act.put, siA, scZ, scS]
      (refine wpList_store_row rfl 150 (.tmp 8) (.tmp 26) rfl wr.heap.size (wayCs (pc : Int) y) rfl rfl 150 _ (heap_alloc_new _ _) (infoW_of _ _) (by first | rw [zeroW_size, wayCs_size] | rw [wayCs_size, wayCs_size]) (wayCs_one _ _) ?_)
      simp only [Act.put]
      have hq7 : Below wr.heap.size wr ((wr.alloc (.cells Tryz.zeroCells150 150 (0, 0))).setRow wr.heap.size (wayCs (pc : Int) y)) := below_setRow ((bF _ _).alloc (Nat.le_refl _) _) (Nat.le_refl _) _
      have hW7 : WayAt ((wr.alloc (.cells Tryz.zeroCells150 150 (0, 0))).setRow wr.heap.size (wayCs (pc : Int) y)) wr.heap.size (pc : Int) y := WayAt.setRow (heap_alloc_new _ _) _ _
      have hb7 := H.out.below.trans (hq7.mono H.out.below.size)
      have HP7 : Hid (WaysAt _ w.heap.size (.slice (some ⟨g, 0, none⟩) m cp) (posL st.reverse)) := HP.out.later hq7
      have HE7 : Hid (EndsAt _ w.heap.size u4 es) := H.out.ends.later hq7
      have HSep : Hid (∀ k, (Value.slice (some ⟨g, 0, none⟩) (m + 1) cp).ownBlock = some k → u4.ownBlock ≠ some k) := H.out.sep
      have HEB : Hid (∀ k, u4.ownBlock = some k → k < wr.heap.size) := fun k e => (H.out.ends.above k e).2
      have hB0 : w.heap.size ≤ wr.heap.size := H.out.below.size
      clear hq7
      generalize ((wr.alloc (.cells Tryz.zeroCells150 150 (0, 0))).setRow wr.heap.size (wayCs (pc : Int) y)) = w7 at hW7 hb7 HP7 HE7 ⊢
      generalize wr.heap.size = B at hg1 hW7 HEB hB0 ⊢
      have hst0 := hW7.step
      have hlt0 := hW7.lt
      have hpc := (H.out.okst _ mcS).1
      have hoky := (H.out.okst _ mcS).2
      dsimp only at hpc hoky
      have hmc : (m : Int) ≤ (cp : Int) := by omega
      have hpc0 : (0 : Int) ≤ (pc : Int) := by omega
      have hpc1 : (pc : Int) < len := by omega
      by_cases hkk : k = 4000
      · subst hkk
        go_wp2_with fail
        clear hW7
        go_region
        go_wp2_with fail
        exact bodyPost_ret (v := .tuple #[.slice none 0 0, .iface 74 (.pointer (some ⟨w7.heap.size, 0, none⟩))]) (by simp [results, Tryz.results35, go_sem]) rfl ⟨(hb7.alloc hb7.size _).drew, (by rw [← H.out.go]; exact ⟨w7.heap.size, rfl, hb7.size, (at_made _ _ _ _).2.2, (at_made _ _ _ _).1, (at_made _ _ _ _).2.1⟩)⟩
      · have hb7' := hb7
        have hR := HR.out pc hpc
        obtain ⟨hO64, hN64⟩ := HF.out pc hpc
        obtain ⟨g0, g1c, g2, g3, g4, g5⟩ := HST.out.later hb7 hbk pc hpc
        obtain ⟨d, hd⟩ := Int.eq_ofNat_of_zero_le hR.d1
        obtain ⟨s, hs⟩ := Int.eq_ofNat_of_zero_le hR.s1
        have hd11 : d < 11 := by have := hR.d2; omega
        have hs11 : s < 11 := by have := hR.s2; omega
        have HGo : Hid (goF C D S R O N (4000 - k) ((pc, y) :: st) es = X) := H.out.go
        have hbk7 : bk < w7.heap.size := Nat.lt_of_lt_of_le hbk hb7.size
        have hkx : decide (4000 < (k : Int) + 1) = false := by simp; omega
        have hk0 : (0 : Int) ≤ (k : Int) := by omega
        have hk1 : (k : Int) ≤ 4000 := by omega
        rw [hd] at g1c
        rw [hs] at g2
        have H27 : Hid (C pc = 27 → N pc = 1 ∨ N pc = 2 ∨ N pc = 3) := hR.call
        have HJ : Hid (14 ≤ C pc → C pc ≤ 24 → 0 ≤ O pc ∧ O pc ≤ 1000) := fun a b => by have := hR.lead (by omega); omega
        have hgs := HGo.out
        rw [show 4000 - k = (3999 - k) + 1 by omega, goF_step _ pc y st es d s hd hs] at hgs
        have hl2 := look_two y (C pc) d s (R pc) (O pc) (N pc)
        have hlo := look_ok hoky hR.c1 hR.c2 hd11 hs11 hO64 hN64 (r := R pc)
        have hlf := look_offs (y := y) (c := C pc) (d := d) (s := s) (r := R pc) (o := O pc) (n := N pc)
        have hlz : ∀ z, z ∈ (y.look (C pc) d s (R pc) (O pc) (N pc)).1 → 0 ≤ z.1 ∧ pc + 1 + z.1.toNat < len := fun z hz => by
          obtain ⟨u1, u2⟩ := hlf z hz
          have hl := hR.last u1
          rcases u2 with u2 | ⟨u2, u3⟩
          · omega
          · have := hR.lead u3; omega
        have hl28 : C pc = 28 → (y.look (C pc) d s (R pc) (O pc) (N pc)).1 = [] := fun e => List.eq_nil_iff_forall_not_mem.mpr fun z hz => (hlf z hz).1 e
        have hlk := fun W : World => vlook_all (r := R pc) hd11 hs11 hpc0 (by omega) hO64 HJ.out H27.out hoky hN64 W
        generalize y.look (C pc) d s (R pc) (O pc) (N pc) = lk at hgs hl2 hlo hlz hl28 hlk
        obtain ⟨ls, er⟩ := lk
        dsimp only at hgs hl2 hlo hlz hl28 hlk
        rw [led_pos pc ls fun z hz => (hlz z hz).1] at hlk
        have HLK : Hid (∀ W : World, Calls Tryz.prog 66 #[.agg (wayCs (pc : Int) y), .agg #[vI vK (C pc), vI vK d, vI vK s, .bool (R pc), vI vK (O pc), vI vK (N pc)]] W fun e w' => ∃ v, e = .returned (.tuple #[v, vI vK er]) ∧ WaysAt w' W.heap.size v (posL (ls.map fun z => (pc + 1 + z.1.toNat, z.2))) ∧ Below W.heap.size W w') := hlk
        have HGS : Hid ((if er ≠ 0 then .inl (er, pc) else goF C D S R O N (3999 - k) ((ls.map fun z => (pc + 1 + z.1.toNat, z.2)) ++ st) (if C pc = 28 then es ++ [y.reg 0] else es)) = X) := hgs
        have HL2 : Hid (ls.length ≤ 2) := hl2
        have HLO : Hid (∀ x, x ∈ (ls.map fun z => (pc + 1 + z.1.toNat, z.2)) ++ st → x.1 < len ∧ x.2.Ok) := fun x hx => by
          rcases List.mem_append.mp hx with hx | hx
          · obtain ⟨z, hz, rfl⟩ := List.mem_map.mp hx
            exact ⟨(hlz z hz).2, hlo z hz⟩
          · exact H.out.okst x (mcO _ hx)
        have HL28 : Hid (C pc = 28 → ls = []) := hl28
        have HW7 : Hid (WayAt w7 B (pc : Int) y) := hW7
        clear hW7 hgs hl2 hlo hlf hlz hl28 hlk HJ H27 hR hd hs HGo hO64 hN64
        generalize C pc = c at *
        generalize R pc = r at *
        generalize O pc = o at *
        generalize N pc = n at *
        go_upto_region 12 with fail
        have hq8 : Below w7.heap.size w7 (w7.alloc (.cells #[vI vK c, vI vK d, vI vK s, .bool r, vI vK o, vI vK n] 49)) := (bF _ _).alloc (Nat.le_refl _) _
        have hW8 := HW7.out.later hq8
        have hb8 := hb7.trans (hq8.mono hb7.size)
        have HP8 : Hid (WaysAt _ w.heap.size (.slice (some ⟨g, 0, none⟩) m cp) (posL st.reverse)) := HP7.out.later hq8
        have HE8 : Hid (EndsAt _ w.heap.size u4 es) := HE7.out.later hq8
        obtain ⟨p0, p1, p2, p3, p4, p5, ltS⟩ := row6 (heap_alloc_new w7 (.cells #[vI vK c, vI vK d, vI vK s, .bool r, vI vK o, vI vK n] 49))
        have hBS : B < w7.heap.size := hlt0
        clear hq8 g0 g1c g2 g3 g4 g5 hst0 hlt0 hb7 hb7' HP7 HE7 HW7 hbk7
        generalize (w7.alloc (.cells #[vI vK c, vI vK d, vI vK s, .bool r, vI vK o, vI vK n] 49)) = w8 at hW8 hb8 HP8 HE8 p0 p1 p2 p3 p4 p5 ltS ⊢
        generalize w7.heap.size = S0 at hBS p0 p1 p2 p3 p4 p5 ltS ⊢
        go_step
        (refine wpList_load_row rfl 150 (.tmp 8) rfl B rfl 150 (wayCs (pc : Int) y) (0, 0) _ hW8 Tryz.underlying150 rfl (infoW_of _ _) ?_)
        simp only [Act.put, siA, scZ, scS]
        (refine wpList_valueOf rfl (.agg #[vI vK c, vI vK d, vI vK s, .bool r, vI vK o, vI vK n]) w8 (by go_simp; try rfl) ?_); simp only [Act.put, siA, scZ, scS]
        refine wpList_callEx rfl 66 #[.agg (wayCs (pc : Int) y), .agg #[vI vK c, vI vK d, vI vK s, .bool r, vI vK o, vI vK n]] (by go_simp; try rfl) (R := fun x w' => ∃ v, x = .tuple #[v, vI vK er] ∧ WaysAt w' w8.heap.size v (posL (ls.map fun z => (pc + 1 + z.1.toNat, z.2))) ∧ Below w8.heap.size w8 w') ((HLK.out w8).mono fun e w' h => by obtain ⟨v, h1, h2⟩ := h; exact ⟨_, h1, v, rfl, h2⟩) ?_
        intro v9 w9 hq
        obtain ⟨v10, rfl, hA9, hq9⟩ := hq
        simp only [Act.put, siA, scZ, scS]
        have hb9 := hb8.trans (hq9.mono hb8.size)
        have HP9 : Hid (WaysAt w9 w.heap.size (.slice (some ⟨g, 0, none⟩) m cp) (posL st.reverse)) := HP8.out.later hq9
        have HE9 : Hid (EndsAt w9 w.heap.size u4 es) := HE8.out.later hq9
        have hW9 := hW8.later hq9
        have HA9 : Hid (WaysAt w9 w.heap.size v10 (posL (ls.map fun z => (pc + 1 + z.1.toNat, z.2)))) := hA9.mono hb8.size
        have HAB : Hid (∀ k, v10.ownBlock = some k → w8.heap.size ≤ k) := fun k e => (hA9.above k e).1
        have P0 := (hq9.cell (p := ⟨S0, 0, none⟩) ltS).trans p0
        have ltS9 := Nat.lt_of_lt_of_le ltS hq9.size
        clear p0 p1 p2 p3 p4 p5 hA9 hW8 hb8 HP8 HE8 HLK
        obtain ⟨i0, i1, i2⟩ := hW9.reg (d := 0) (by decide)
        have hst9 := hW9.step
        have hlt9 := hW9.lt
        simp only [Nat.zero_mul, Nat.add_zero, Nat.reduceAdd] at i0 i1 i2
        have HW9 : Hid (WayAt w9 B (pc : Int) y) := hW9
        clear hW9
        by_cases he : er = 0
        · subst he
          obtain ⟨a10, c10, hv10⟩ := HA9.out.shape
          subst hv10
          have hql : (posL (ls.map fun z => (pc + 1 + z.1.toNat, z.2))).length = ls.length := by unfold posL; rw [List.length_map, List.length_map]
          have hq2 := HL2.out
          rw [← hql] at hq2
          clear hql
          generalize hq : (posL (ls.map fun z => (pc + 1 + z.1.toNat, z.2))).length = q at *
          have HQ : Hid ((posL (ls.map fun z => (pc + 1 + z.1.toNat, z.2))).length = q) := hq
          have hq0 : (0 : Int) ≤ (q : Int) := by omega
          have hq1 : (q : Int) ≤ 2 := by omega
          have HGS2 : Hid (goF C D S R O N (3999 - k) ((ls.map fun z => (pc + 1 + z.1.toNat, z.2)) ++ st) (if c = 28 then es ++ [y.reg 0] else es) = X) := HGS.out
          have hgB : g < w8.heap.size := by omega
          clear hq HGS
          by_cases h28 : c = 28
          · have x28 : (c == 28) = true := by simpa using h28
            have HGS3 : Hid (goF C D S R O N (3999 - k) ((ls.map fun z => (pc + 1 + z.1.toNat, z.2)) ++ st) (es ++ [y.reg 0]) = X) := by have := HGS2.out; rw [if_pos h28] at this; exact this
            have HESL : Hid (es.length ≤ k) := H.out.esl
            have hesl := H.out.esl
            clear HGS2
            go_upto_region 16 with fail
            go_step
            (refine wpList_valueOf rfl u4 w9 (by go_simp; try rfl) ?_); simp only [Act.put, siA, scZ, scS]
            (refine wpList_valueOf rfl (.pointer (some ⟨B, 1, none⟩)) w9 (by go_simp; try rfl) ?_); simp only [Act.put, siA, scZ, scS]
            (refine wpList_valueOf rfl (.pointer (some ⟨B, 1, none⟩)) w9 (by go_simp; try rfl) ?_); simp only [Act.put, siA, scZ, scS]
            (refine wpList_valueOf rfl (.pointer (some ⟨B, 2, none⟩)) w9 (by go_simp; try rfl) ?_); simp only [Act.put, siA, scZ, scS]
            (refine wpList_valueOf rfl (.agg #[vI vK (y.reg 0).l, vI vK (y.reg 0).h]) w9 (by go_simp; try rfl) ?_); simp only [Act.put, siA, scZ, scS]
            refine wpList_valueOf rfl (.slice (some ⟨w9.heap.size, 0, none⟩) 1 1) (w9.alloc (.cells #[vI vK (y.reg 0).l, vI vK (y.reg 0).h] 43)) (by go_simp; try rfl) ?_
            simp only [Act.put, siA, scZ, scS]
            refine wpList_end rfl (.tmp 59) (.tmp 64) rfl w.heap.size u4 es rfl HE9.out (y.reg 0) rfl (by omega) hb9.size ?_
            intro E2 w10 hE2 hg10 hs10
            simp only [Act.put, siA, scZ, scS]
            have hb10 := ((Blk.nil hb9).grown hg10 (b := w.heap.size) (fun k e => (HE9.out.above k e).1) (Nat.le_refl _) (by simp)).1
            have HP10 := HP9.out.grown hg10 (fun k e e2 => HSep.out k e2 e)
            have HA10 := HA9.out.grown hg10 (fun k e e2 => by have h3 := HAB.out k e2; have h4 := HEB.out k e; omega)
            have HLay : Hid (LaySt w (posL st.reverse) (posL (ls.map fun z => (pc + 1 + z.1.toNat, z.2))) (.slice a10 q c10) E2 (es ++ [y.reg 0]) q (.slice (some ⟨g, 0, none⟩) m cp) w10) := ⟨Nat.le_of_eq HQ.out.symm, hb10, by rw [List.drop_eq_nil_of_le (Nat.le_of_eq HQ.out), List.reverse_nil, List.append_nil]; exact HP10, HA10, hE2, fun k e e2 => (hs10 k e2).elim (fun e3 => HSep.out k e e3) (fun e3 => by have h4 : g = k := Option.some.inj e; have := hq9.size; omega), fun k e e2 => by have h3 := HAB.out k e2; have h4 : g = k := Option.some.inj e; omega, by rw [HQ.out, HM.out]; omega⟩
            clear hE2 hg10 hs10 HP10 HA10 hb10
            go_wp2_with fail
            go_loopw [5, 12] (fun vw vi wr2 => ∃ j : Nat, vi = vI vK ((j : Int) - 1) ∧ Hid (LaySt w (posL st.reverse) (posL (ls.map fun z => (pc + 1 + z.1.toNat, z.2))) (.slice a10 q c10) E2 (es ++ [y.reg 0]) j vw wr2)) (fun _ vi _ => (intOf vi + 1).toNat)
            case atStart => exact ⟨q, by go_num, HLay.out⟩
            case round =>
              obtain ⟨j, rfl, HI⟩ := hrel
              clear HLay
              cases j with
              | zero =>
                go_wp2_with fail
                go_roundw
                case rel =>
                  refine ⟨k + 1, (ls.map fun z => (pc + 1 + z.1.toNat, z.2)) ++ st, (es ++ [y.reg 0]), by go_num, by omega, HI.out.below, ?_, HI.out.ends, HI.out.sepE, HLO.out, ?_, ?_, ?_⟩
                  · rw [posL_app]; exact HI.out.ways
                  · have := HL2.out; rw [List.length_append, List.length_map]; omega
                  · have := HESL.out; rw [List.length_append]; simp; omega
                  · rw [show 4000 - (k + 1) = 3999 - k by omega]; exact HGS3.out
                case measure => first | (simp [intOf]; done) | (simp [intOf]; omega)
              | succ j =>
                have hj1 : j + 1 ≤ q := by have := HI.out.jl; rw [HQ.out] at this; exact this
                obtain ⟨x, hx1, hx2, hx3⟩ := HI.out.part
                obtain ⟨px, yx⟩ := x
                obtain ⟨gv, ha10, -, -, hgv⟩ := HI.out.led.some_of (by have := HQ.out; omega)
                subst ha10
                have hld := HI.out.led
                have hel : wr.rangeAt gv (j * 82) (wayCs px yx).toList := by rw [hx2] at hld; have := hld.elem; rw [hx3] at this; exact this
                have HEL : Hid (wr.rangeAt gv (j * 82) (wayCs px yx).toList) := hel
                have HX1 : Hid ((posL (ls.map fun z => (pc + 1 + z.1.toNat, z.2))).drop j = (px, yx) :: (posL (ls.map fun z => (pc + 1 + z.1.toNat, z.2))).drop (j + 1)) := hx1
                have e1 : ((j + 1 : Nat) : Int) - 1 = (j : Int) := by omega
                rw [e1]
                have hj0 : (0 : Int) ≤ (j : Int) := by omega
                have hj2 : (j : Int) < (q : Int) := by omega
                have hwv := HI.out.ways.shape
                obtain ⟨av, cv, hv⟩ := hwv
                have HF5 : Hid (((posL st.reverse) ++ ((posL (ls.map fun z => (pc + 1 + z.1.toNat, z.2))).drop (j + 1)).reverse).length ≤ 1000000) := HI.out.small
                have hb5 := HI.out.below.size
                clear hel hld hx1 hx2 hx3 hv e1
                go_upto_region 20 with fail
                go_step
                (refine wpList_valueOf rfl u5 wr (by go_simp; try rfl) ?_); simp only [Act.put, siA, scZ, scS]
                (refine wpList_valueOf rfl (.slice (some ⟨gv, 0, none⟩) q c10) wr (by go_simp; try rfl) ?_); simp only [Act.put, siA, scZ, scS]
                (refine wpList_valueOf rfl (vI vK (j : Int)) wr (by go_simp; try rfl) ?_); simp only [Act.put, siA, scZ, scS]
                refine wpList_valueOf rfl (.pointer (some ⟨gv, j * 82, none⟩)) wr (by go_simp; try (intro h; omega)) ?_
                simp only [Act.put, siA, scZ, scS]
                refine wpList_way rfl (.tmp 76) rfl gv (j * 82) rfl px yx HEL.out ?_
                simp only [Act.put, siA, scZ, scS]
                refine wpList_ways1 rfl (.tmp 77) px yx rfl rfl ?_
                simp only [Act.put, siA, scZ, scS]
                refine wpList_snoc2 rfl (.tmp 73) (.tmp 78) rfl w.heap.size u5 _ rfl HI.out.ways px yx rfl HF5.out hb5 ?_
                intro V3 w13 hA3 hg3 hs3
                have HL3 : Hid (LaySt w (posL st.reverse) (posL (ls.map fun z => (pc + 1 + z.1.toNat, z.2))) (.slice (some ⟨gv, 0, none⟩) q c10) E2 (es ++ [y.reg 0]) j V3 w13) := HI.out.lay HX1.out hA3 hg3 hs3
                clear hA3 hg3 hs3
                simp only [Act.put, siA, scZ, scS]
                go_wp2_with fail
                go_roundw
                case rel => exact ⟨j, by go_num, HL3.out⟩
                case measure => first | (simp [intOf]; done) | (simp [intOf]; omega)
          · have x28 : (c == 28) = false := by simpa using h28
            have HGS3 : Hid (goF C D S R O N (3999 - k) ((ls.map fun z => (pc + 1 + z.1.toNat, z.2)) ++ st) es = X) := by have := HGS2.out; rw [if_neg h28] at this; exact this
            have HESL : Hid (es.length ≤ k) := H.out.esl
            have HLay : Hid (LaySt w (posL st.reverse) (posL (ls.map fun z => (pc + 1 + z.1.toNat, z.2))) (.slice a10 q c10) u4 es q (.slice (some ⟨g, 0, none⟩) m cp) w9) := ⟨Nat.le_of_eq HQ.out.symm, hb9, by rw [List.drop_eq_nil_of_le (Nat.le_of_eq HQ.out), List.reverse_nil, List.append_nil]; exact HP9.out, HA9.out, HE9.out, HSep.out, fun k e e2 => by have h3 := HAB.out k e2; have h4 : g = k := Option.some.inj e; omega, by rw [HQ.out, HM.out]; omega⟩
            clear HGS2
            go_wp2_with fail
            go_loopw [5, 12] (fun vw vi wr2 => ∃ j : Nat, vi = vI vK ((j : Int) - 1) ∧ Hid (LaySt w (posL st.reverse) (posL (ls.map fun z => (pc + 1 + z.1.toNat, z.2))) (.slice a10 q c10) u4 es j vw wr2)) (fun _ vi _ => (intOf vi + 1).toNat)
            case atStart => exact ⟨q, by go_num, HLay.out⟩
            case round =>
              obtain ⟨j, rfl, HI⟩ := hrel
              clear HLay
              cases j with
              | zero =>
                go_wp2_with fail
                go_roundw
                case rel =>
                  refine ⟨k + 1, (ls.map fun z => (pc + 1 + z.1.toNat, z.2)) ++ st, es, by go_num, by omega, HI.out.below, ?_, HI.out.ends, HI.out.sepE, HLO.out, ?_, ?_, ?_⟩
                  · rw [posL_app]; exact HI.out.ways
                  · have := HL2.out; rw [List.length_append, List.length_map]; omega
                  · have := HESL.out; omega
                  · rw [show 4000 - (k + 1) = 3999 - k by omega]; exact HGS3.out
                case measure => first | (simp [intOf]; done) | (simp [intOf]; omega)
              | succ j =>
                have hj1 : j + 1 ≤ q := by have := HI.out.jl; rw [HQ.out] at this; exact this
                obtain ⟨x, hx1, hx2, hx3⟩ := HI.out.part
                obtain ⟨px, yx⟩ := x
                obtain ⟨gv, ha10, -, -, hgv⟩ := HI.out.led.some_of (by have := HQ.out; omega)
                subst ha10
                have hld := HI.out.led
                have hel : wr.rangeAt gv (j * 82) (wayCs px yx).toList := by rw [hx2] at hld; have := hld.elem; rw [hx3] at this; exact this
                have HEL : Hid (wr.rangeAt gv (j * 82) (wayCs px yx).toList) := hel
                have HX1 : Hid ((posL (ls.map fun z => (pc + 1 + z.1.toNat, z.2))).drop j = (px, yx) :: (posL (ls.map fun z => (pc + 1 + z.1.toNat, z.2))).drop (j + 1)) := hx1
                have e1 : ((j + 1 : Nat) : Int) - 1 = (j : Int) := by omega
                rw [e1]
                have hj0 : (0 : Int) ≤ (j : Int) := by omega
                have hj2 : (j : Int) < (q : Int) := by omega
                have hwv := HI.out.ways.shape
                obtain ⟨av, cv, hv⟩ := hwv
                have HF5 : Hid (((posL st.reverse) ++ ((posL (ls.map fun z => (pc + 1 + z.1.toNat, z.2))).drop (j + 1)).reverse).length ≤ 1000000) := HI.out.small
                have hb5 := HI.out.below.size
                clear hel hld hx1 hx2 hx3 hv e1
                go_upto_region 20 with fail
                go_step
                (refine wpList_valueOf rfl u5 wr (by go_simp; try rfl) ?_); simp only [Act.put, siA, scZ, scS]
                (refine wpList_valueOf rfl (.slice (some ⟨gv, 0, none⟩) q c10) wr (by go_simp; try rfl) ?_); simp only [Act.put, siA, scZ, scS]
                (refine wpList_valueOf rfl (vI vK (j : Int)) wr (by go_simp; try rfl) ?_); simp only [Act.put, siA, scZ, scS]
                refine wpList_valueOf rfl (.pointer (some ⟨gv, j * 82, none⟩)) wr (by go_simp; try (intro h; omega)) ?_
                simp only [Act.put, siA, scZ, scS]
                refine wpList_way rfl (.tmp 76) rfl gv (j * 82) rfl px yx HEL.out ?_
                simp only [Act.put, siA, scZ, scS]
                refine wpList_ways1 rfl (.tmp 77) px yx rfl rfl ?_
                simp only [Act.put, siA, scZ, scS]
                refine wpList_snoc2 rfl (.tmp 73) (.tmp 78) rfl w.heap.size u5 _ rfl HI.out.ways px yx rfl HF5.out hb5 ?_
                intro V3 w13 hA3 hg3 hs3
                have HL3 : Hid (LaySt w (posL st.reverse) (posL (ls.map fun z => (pc + 1 + z.1.toNat, z.2))) (.slice (some ⟨gv, 0, none⟩) q c10) u4 es j V3 w13) := HI.out.lay HX1.out hA3 hg3 hs3
                clear hA3 hg3 hs3
                simp only [Act.put, siA, scZ, scS]
                go_wp2_with fail
                go_roundw
                case rel => exact ⟨j, by go_num, HL3.out⟩
                case measure => first | (simp [intOf]; done) | (simp [intOf]; omega)
        · have he2 : (er != 0) = true := by simpa using he
          go_upto_region 14 with fail
          go_region
          go_wp2_with fail
          exact bodyPost_ret (v := .tuple #[.slice none 0 0, .iface 74 (.pointer (some ⟨w9.heap.size, 0, none⟩))]) (by simp [results, Tryz.results35, go_sem]) rfl ⟨(hb9.alloc hb9.size _).drew, (by rw [← HGS.out, if_pos he]; exact ⟨w9.heap.size, rfl, hb9.size, (at_made _ _ _ _).2.2, (at_made _ _ _ _).1, (at_made _ _ _ _).2.1⟩)⟩
def endAt (es : List Kno) (i : Nat) : Int × Int := ((es.getD i kno0).l, (es.getD i kno0).h)
theorem endCells_at (es : List Kno) : ∀ i, i < es.length → (endCells es)[i * 2]? = some (vI vK (endAt es i).1) ∧ (endCells es)[i * 2 + 1]? = some (vI vK (endAt es i).2) := by
  induction es with
  | nil => intro i hi; exact absurd hi (by simp)
  | cons b es ih =>
    intro i hi
    cases i with
    | zero => exact ⟨rfl, rfl⟩
    | succ i =>
      obtain ⟨h1, h2⟩ := ih i (by simpa using hi)
      unfold endCells endAt at *
      rw [List.flatMap_cons, show (i + 1) * 2 = (i * 2 + 1) + 1 by omega]
      exact ⟨h1, h2⟩
theorem joined_ends {w : World} {base : Nat} {v : Value} {es : List Kno} (h : EndsAt w base v es) (hl : es.length ≤ 4000) : Calls Tryz.prog 36 #[v] w fun e w' => e = .returned (.agg #[vI vK (joinTo (endAt es) es.length).1, vI vK (joinTo (endAt es) es.length).2]) ∧ Below w.heap.size w w' := by
  rcases h.2 with ⟨h1, h2⟩ | ⟨g, cap, cur, h1, h2, h3, h4⟩
  · rw [h1, h2]; exact joined_nil none 0 w
  · rw [h1]
    by_cases hz : es.length = 0
    · rw [hz]; exact joined_nil _ cap w
    · refine joined_some g es.length cap (endAt es) (by omega) (by omega) w (Array.getElem?_eq_some_iff.1 h3).1 (fun i hi => ?_)
      obtain ⟨e1, e2⟩ := endCells_at es i hi
      have k1 := World.ownsRow.cells h (g := g) (by rw [h1]; rfl) _ _ e1
      have k2 := World.ownsRow.cells h (g := g) (by rw [h1]; rfl) _ _ e2
      rw [Addr.add_mid, Nat.zero_add] at k1 k2
      exact ⟨k1, k2⟩
theorem joinTo_has (f : Nat → Int × Int) (n : Int) : ∀ k i, i < k → (f i).1 ≤ n → n ≤ (f i).2 → (joinTo f k).1 ≤ n ∧ n ≤ (joinTo f k).2 := by
  intro k
  induction k with
  | zero => intro i hi; exact absurd hi (by omega)
  | succ k ih =>
    intro i hi h1 h2
    by_cases hk : k = 0
    · subst hk
      obtain rfl : i = 0 := by omega
      rw [joinTo_one]; exact ⟨h1, h2⟩
    · rw [joinTo_more f hk]
      by_cases e : i = k
      · subst e; exact ⟨by show min _ _ ≤ n; omega, by show n ≤ max _ _; omega⟩
      · obtain ⟨a, b⟩ := ih i (by omega) h1 h2
        exact ⟨by show min _ _ ≤ n; omega, by show n ≤ max _ _; omega⟩
theorem joined_has {es : List Kno} {b : Kno} (hb : b ∈ es) {n : Int} (h1 : b.l ≤ n) (h2 : n ≤ b.h) : (joinTo (endAt es) es.length).1 ≤ n ∧ n ≤ (joinTo (endAt es) es.length).2 := by
  obtain ⟨i, hi, e⟩ := List.getElem_of_mem hb
  have e1 : endAt es i = (b.l, b.h) := by unfold endAt; rw [List.getD_eq_getElem?_getD, List.getElem?_eq_getElem hi, e]; rfl
  exact joinTo_has (endAt es) n es.length i hi (by rw [e1]; exact h1) (by rw [e1]; exact h2)
theorem opCheck_bad3 {bk off len cap : Nat} {C D S O N : Nat → Int} {R : Nat → Bool} {w : World} {i : Nat} (hi : i < len) (hno : ∀ j, j < i → faultAt len C D S R O N j = 0) (hf : faultAt len C D S R O N i ≠ 0) (hst : StepsAt w bk off len C D S R O N) (h1 : 1 ≤ len) (h2 : len ≤ 200) (hbk : bk < w.heap.size) :
    Calls Tryz.prog 18 #[.slice (some ⟨bk, off, none⟩) len cap] w fun e w' => ∃ p, e = .returned (.iface 74 (.pointer (some ⟨p, 0, none⟩))) ∧ w.heap.size ≤ p ∧ Below w.heap.size w w' ∧ p < w'.heap.size ∧ w'.cell? ⟨p, 0, none⟩ = some (vI vK (faultAt len C D S R O N i)) ∧ w'.cell? ⟨p, 1, none⟩ = some (vI vK (i : Int)) := by
  refine (opCheck_steps bk off len cap C D S O N R w h1 h2 hbk hst).mono fun e w' hh => ?_
  obtain ⟨hb, hh⟩ := hh
  rcases hh with ⟨_, h⟩ | ⟨k, p, hk, hno', hf', he, hp, hc0, hc1⟩
  · exact absurd (h i hi) hf
  · obtain rfl := same_first hno hf hno' hf'
    exact ⟨p, he, hp, hb, World.block_lt_of_cell? w' _ hc0, hc0, hc1⟩
theorem cell_off2 {w : World} {B p o o' q : Nat} {x y : Value} (hne : p ≠ B) : ((w.setCell ⟨B, o, none⟩ x).setCell ⟨B, o', none⟩ y).cell? ⟨p, q, none⟩ = w.cell? ⟨p, q, none⟩ :=
  World.cell?_of_block ((Below.heap_setCell _ _ _ p hne).trans (Below.heap_setCell _ _ _ p hne))
theorem verify_limit (a : Option Addr) (len cap : Nat) (h : len < 1 ∨ 200 < len) (w : World) :
    Calls Tryz.prog 16 #[.slice a len cap] w fun e w' => e = .returned (.tuple #[.agg #[vI vK 0, vI vK 0], .iface 23 (vI vK 4)]) ∧ Below w.heap.size w w' := by
  have hK0 : Blk w [(w.heap.size, .cells #[vI vK 0, vI vK 0] 43 (0, 0))] (w.alloc (.cells #[vI vK 0, vI vK 0] 43)) := (Blk.nil ((bF _ _).alloc (Nat.le_refl _) _)).cons (heap_alloc_new w _)
  go_enter Tryz.func16, Tryz.ntmps16
  go_upto_region 1 with fail
  generalize (w.alloc (.cells #[vI vK 0, vI vK 0] 43)) = w0 at hK0 ⊢
  go_step
  (refine wpList_valueOf rfl (.slice a len cap) w0 (by go_simp; try rfl) ?_); simp only [Act.put, siA, scZ, scS]
  (refine wpList_callOf rfl 18 #[.slice a len cap] (by go_simp; try rfl) (.iface 23 (vI vK 4)) (opCheck_limit a len cap h w0) ?_)
  intro w1 hw1
  subst hw1
  have hK1 := hK0
  obtain ⟨r0, r1, rf0, rf1, rlt⟩ := row2 (hK1.2 _ mcS)
  simp only [Act.put, siA, scZ, scS]
  go_wp2_with fail
  exact bodyPost_ret (v := .tuple #[.agg #[vI vK 0, vI vK 0], .iface 23 (vI vK 4)]) (by simp [results, Tryz.results16, go_sem, *]) rfl ⟨rfl, (hK1.1.setCell (Nat.le_refl _) _).setCell (Nat.le_refl _) _⟩
theorem verify_wrong (bk off len cap : Nat) (C D S O N : Nat → Int) (R : Nat → Bool) (w : World) (h1 : 1 ≤ len) (h2 : len ≤ 200) (hbk : bk < w.heap.size) (hst : StepsAt w bk off len C D S R O N) (i : Nat) (hi : i < len) (hno : ∀ j, j < i → faultAt len C D S R O N j = 0) (hfa : faultAt len C D S R O N i ≠ 0) :
    Calls Tryz.prog 16 #[.slice (some ⟨bk, off, none⟩) len cap] w fun e w' => ∃ p, e = .returned (.tuple #[.agg #[vI vK 0, vI vK 0], .iface 74 (.pointer (some ⟨p, 0, none⟩))]) ∧ Below w.heap.size w w' ∧ w.heap.size < p ∧ p < w'.heap.size ∧ w'.cell? ⟨p, 0, none⟩ = some (vI vK (faultAt len C D S R O N i)) ∧ w'.cell? ⟨p, 1, none⟩ = some (vI vK (i : Int)) := by
  have hK0 : Blk w [(w.heap.size, .cells #[vI vK 0, vI vK 0] 43 (0, 0))] (w.alloc (.cells #[vI vK 0, vI vK 0] 43)) := (Blk.nil ((bF _ _).alloc (Nat.le_refl _) _)).cons (heap_alloc_new w _)
  go_enter Tryz.func16, Tryz.ntmps16
  go_upto_region 1 with fail
  generalize (w.alloc (.cells #[vI vK 0, vI vK 0] 43)) = w0 at hK0 ⊢
  go_step
  (refine wpList_valueOf rfl (.slice (some ⟨bk, off, none⟩) len cap) w0 (by go_simp; try rfl) ?_); simp only [Act.put, siA, scZ, scS]
  have hst0 := hst.later (hK0.1) hbk
  have hbk0 := Nat.lt_of_lt_of_le hbk hK0.1.size
  refine wpList_callEx rfl 18 #[.slice (some ⟨bk, off, none⟩) len cap] (by go_simp; try rfl) (R := fun x w' => ∃ p, x = .iface 74 (.pointer (some ⟨p, 0, none⟩)) ∧ w0.heap.size ≤ p ∧ Below w0.heap.size w0 w' ∧ p < w'.heap.size ∧ w'.cell? ⟨p, 0, none⟩ = some (vI vK (faultAt len C D S R O N i)) ∧ w'.cell? ⟨p, 1, none⟩ = some (vI vK (i : Int))) ((opCheck_bad3 (cap := cap) hi hno hfa hst0 h1 h2 hbk0).mono fun e w' h => by obtain ⟨p, h1, h2⟩ := h; exact ⟨_, h1, p, rfl, h2⟩) ?_
  intro v1 w1 hq
  obtain ⟨p, rfl, hp0, hb1, hp1, c0, c1⟩ := hq
  have hK1 := hK0.later hb1
  obtain ⟨r0, r1, rf0, rf1, rlt⟩ := row2 (hK1.2 _ mcS)
  have hw0 := hK0.lt mcS
  have hpne : p ≠ w.heap.size := by omega
  simp only [Act.put, siA, scZ, scS]
  go_wp2_with fail
  exact bodyPost_ret (v := .tuple #[.agg #[vI vK 0, vI vK 0], .iface 74 (.pointer (some ⟨p, 0, none⟩))]) (by simp [results, Tryz.results16, go_sem, *]) rfl ⟨p, rfl, (hK1.1.setCell (Nat.le_refl _) _).setCell (Nat.le_refl _) _, by omega, by simpa using hp1, (cell_off2 hpne).trans c0, (cell_off2 hpne).trans c1⟩
theorem verify_bad (bk off len cap : Nat) (C D S O N : Nat → Int) (R : Nat → Bool) (w : World) (h1 : 1 ≤ len) (h2 : len ≤ 200) (hbk : bk < w.heap.size) (hst : StepsAt w bk off len C D S R O N) (h : ∀ j, j < len → faultAt len C D S R O N j = 0) (hf : ∀ i, i < len → In64 (O i) ∧ In64 (N i)) (er : Int) (i : Nat) (hgo : goF C D S R O N 4000 [(0, way0)] [] = .inl (er, i)) :
    Calls Tryz.prog 16 #[.slice (some ⟨bk, off, none⟩) len cap] w fun e w' => ∃ p, e = .returned (.tuple #[.agg #[vI vK 0, vI vK 0], .iface 74 (.pointer (some ⟨p, 0, none⟩))]) ∧ Below w.heap.size w w' ∧ w.heap.size < p ∧ p < w'.heap.size ∧ w'.cell? ⟨p, 0, none⟩ = some (vI vK er) ∧ w'.cell? ⟨p, 1, none⟩ = some (vI vK (i : Int)) := by
  have hK0 : Blk w [(w.heap.size, .cells #[vI vK 0, vI vK 0] 43 (0, 0))] (w.alloc (.cells #[vI vK 0, vI vK 0] 43)) := (Blk.nil ((bF _ _).alloc (Nat.le_refl _) _)).cons (heap_alloc_new w _)
  go_enter Tryz.func16, Tryz.ntmps16
  go_upto_region 1 with fail
  generalize (w.alloc (.cells #[vI vK 0, vI vK 0] 43)) = w0 at hK0 ⊢
  go_step
  (refine wpList_valueOf rfl (.slice (some ⟨bk, off, none⟩) len cap) w0 (by go_simp; try rfl) ?_); simp only [Act.put, siA, scZ, scS]
  have hst0 := hst.later (hK0.1) hbk
  have hbk0 := Nat.lt_of_lt_of_le hbk hK0.1.size
  (refine wpList_callOf rfl 18 #[.slice (some ⟨bk, off, none⟩) len cap] (by go_simp; try rfl) .nilIface (opCheck_fine h hst0 h1 h2 hbk0) ?_)
  intro w1 hb1
  have hK1 := hK0.later hb1
  have hst1 := hst0.later hb1 hbk0
  have hbk1 := Nat.lt_of_lt_of_le hbk0 hb1.size
  simp only [Act.put, siA, scZ, scS]
  go_upto_region 4 with fail
  go_step
  (refine wpList_valueOf rfl (.slice (some ⟨bk, off, none⟩) len cap) w1 (by go_simp; try rfl) ?_); simp only [Act.put, siA, scZ, scS]
  refine wpList_callEx rfl 35 #[.slice (some ⟨bk, off, none⟩) len cap] (by go_simp; try rfl) (R := fun x w' => ∃ p, x = .tuple #[.slice none 0 0, .iface 74 (.pointer (some ⟨p, 0, none⟩))] ∧ Below w1.heap.size w1 w' ∧ w1.heap.size ≤ p ∧ p < w'.heap.size ∧ w'.cell? ⟨p, 0, none⟩ = some (vI vK er) ∧ w'.cell? ⟨p, 1, none⟩ = some (vI vK (i : Int))) ((goAll_any bk off len cap C D S O N R w1 h1 h2 hbk1 hst1 (fun i hi => right_of (h i hi)) hf).mono fun e w' hh => by rw [hgo] at hh; obtain ⟨hb, hh⟩ := hh; obtain ⟨p, h3, h4⟩ := hh; exact ⟨_, h3, p, rfl, hb, h4⟩) ?_
  intro v2 w2 hq
  obtain ⟨p, rfl, hb2, hp0, hp1, c0, c1⟩ := hq
  have hw1 := hK1.lt mcS
  have hpne : p ≠ w.heap.size := by omega
  have hK1 := hK1.later hb2
  obtain ⟨r0, r1, rf0, rf1, rlt⟩ := row2 (hK1.2 _ mcS)
  simp only [Act.put, siA, scZ, scS]
  go_wp2_with fail
  exact bodyPost_ret (v := .tuple #[.agg #[vI vK 0, vI vK 0], .iface 74 (.pointer (some ⟨p, 0, none⟩))]) (by simp [results, Tryz.results16, go_sem, *]) rfl ⟨p, rfl, (hK1.1.setCell (Nat.le_refl _) _).setCell (Nat.le_refl _) _, by omega, by simpa using hp1, (cell_off2 hpne).trans c0, (cell_off2 hpne).trans c1⟩
theorem verify_fine (bk off len cap : Nat) (C D S O N : Nat → Int) (R : Nat → Bool) (w : World) (h1 : 1 ≤ len) (h2 : len ≤ 200) (hbk : bk < w.heap.size) (hst : StepsAt w bk off len C D S R O N) (h : ∀ j, j < len → faultAt len C D S R O N j = 0) (hf : ∀ i, i < len → In64 (O i) ∧ In64 (N i)) (es : List Kno) (hgo : goF C D S R O N 4000 [(0, way0)] [] = .inr es) :
    Calls Tryz.prog 16 #[.slice (some ⟨bk, off, none⟩) len cap] w fun e w' => e = .returned (.tuple #[.agg #[vI vK (joinTo (endAt es) es.length).1, vI vK (joinTo (endAt es) es.length).2], .nilIface]) ∧ Below w.heap.size w w' := by
  have hK0 : Blk w [(w.heap.size, .cells #[vI vK 0, vI vK 0] 43 (0, 0))] (w.alloc (.cells #[vI vK 0, vI vK 0] 43)) := (Blk.nil ((bF _ _).alloc (Nat.le_refl _) _)).cons (heap_alloc_new w _)
  go_enter Tryz.func16, Tryz.ntmps16
  go_upto_region 1 with fail
  generalize (w.alloc (.cells #[vI vK 0, vI vK 0] 43)) = w0 at hK0 ⊢
  go_step
  (refine wpList_valueOf rfl (.slice (some ⟨bk, off, none⟩) len cap) w0 (by go_simp; try rfl) ?_); simp only [Act.put, siA, scZ, scS]
  have hst0 := hst.later (hK0.1) hbk
  have hbk0 := Nat.lt_of_lt_of_le hbk hK0.1.size
  (refine wpList_callOf rfl 18 #[.slice (some ⟨bk, off, none⟩) len cap] (by go_simp; try rfl) .nilIface (opCheck_fine h hst0 h1 h2 hbk0) ?_)
  intro w1 hb1
  have hK1 := hK0.later hb1
  have hst1 := hst0.later hb1 hbk0
  have hbk1 := Nat.lt_of_lt_of_le hbk0 hb1.size
  simp only [Act.put, siA, scZ, scS]
  go_upto_region 4 with fail
  go_step
  (refine wpList_valueOf rfl (.slice (some ⟨bk, off, none⟩) len cap) w1 (by go_simp; try rfl) ?_); simp only [Act.put, siA, scZ, scS]
  refine wpList_callEx rfl 35 #[.slice (some ⟨bk, off, none⟩) len cap] (by go_simp; try rfl) (R := fun x w' => ∃ E, x = .tuple #[E, .nilIface] ∧ Below w1.heap.size w1 w' ∧ EndsAt w' w1.heap.size E es ∧ es.length ≤ 4000) ((goAll_any bk off len cap C D S O N R w1 h1 h2 hbk1 hst1 (fun i hi => right_of (h i hi)) hf).mono fun e w' hh => by rw [hgo] at hh; obtain ⟨hb, hh⟩ := hh; obtain ⟨E, h3, h4⟩ := hh; exact ⟨_, h3, E, rfl, hb, h4⟩) ?_
  intro v2 w2 hq
  obtain ⟨E, rfl, hb2, hE2, hl2⟩ := hq
  have hK2 := hK1.later hb2
  simp only [Act.put, siA, scZ, scS]
  go_upto_region 7 with fail
  go_step
  (refine wpList_valueOf rfl E w2 (by go_simp; try rfl) ?_); simp only [Act.put, siA, scZ, scS]
  (refine wpList_callOf rfl 36 #[E] (by go_simp; try rfl) (.agg #[vI vK (joinTo (endAt es) es.length).1, vI vK (joinTo (endAt es) es.length).2]) (joined_ends hE2 hl2) ?_)
  intro w3 hb3
  have hK1 := hK2.later hb3
  obtain ⟨r0, r1, rf0, rf1, rlt⟩ := row2 (hK1.2 _ mcS)
  simp only [Act.put, siA, scZ, scS]
  clear hE2
  go_wp2_with fail
  exact bodyPost_ret (v := .tuple #[.agg #[vI vK (joinTo (endAt es) es.length).1, vI vK (joinTo (endAt es) es.length).2], .nilIface]) (by simp [results, Tryz.results16, go_sem, *]) rfl ⟨rfl, (hK1.1.setCell (Nat.le_refl _) _).setCell (Nat.le_refl _) _⟩
end Go.Proofs.YtednmkhdehlojaaGreatDoor
namespace Go.Proofs.YtednmkhdehlojaaGreatDoor
open Go.RowKit
theorem runF_keeps {C D S : Nat → Int} {R : Nat → Bool} {O N : Nat → Int} {len : Nat} (hr : ∀ i, i < len → Right (C i) (D i) (S i) (R i) (O i) (N i) len i) (hf : ∀ i, i < len → In64 (N i)) :
    ∀ (m pc k : Nat) (a : Abs), len ≤ pc + m → a.Ok → ∀ n k' a', runF C D S R O N len pc k a = .fine n k' a' → a'.Ok := by
  intro m
  induction m with
  | zero =>
    intro pc k a hm ha n k' a' h
    rw [runF_eq, if_neg (by omega)] at h
    exact absurd h (by simp [End.bad, End.fine])
  | succ m ih =>
    intro pc k a hm ha n k' a' h
    by_cases hp : pc < len
    · by_cases hc : C pc = 28
      · by_cases hw : wantF (a.reg 0) = 0
        · rw [runF_exit hp hc hw] at h
          have e : a = a' := by
            simp only [End.fine, Sum.inr.injEq, Prod.mk.injEq] at h
            exact h.2.2
          rw [← e]; exact ha
        · rw [runF_exit_bad hp hc hw] at h
          exact absurd h (by simp [End.bad, End.fine])
      · by_cases hw : (doF (C pc) (D pc) (S pc) (R pc) (O pc) (N pc) a).2.1 = 0
        · rw [runF_go hp hc hw] at h
          have r := hr pc hp
          exact ih _ _ _ (by omega) (doF_ok ha r.c1 r.c2 hc r.d1 r.d2 r.s1 r.s2 (hf pc hp) (r := R pc) (o := O pc)) _ _ _ h
        · rw [runF_bad hp hc hw] at h
          exact absurd h (by simp [End.bad, End.fine])
    · rw [runF_eq, if_neg hp] at h
      exact absurd h (by simp [End.bad, End.fine])
theorem start_way (T K : Nat → Int) (time : Int) : way0.Has ((start T K time).abs []) := by
  refine ⟨fun i hi => ?_, fun i hi => Or.inl rfl⟩
  rcases (by omega : i = 0 ∨ i = 1 ∨ i = 2 ∨ i = 3 ∨ i = 4 ∨ i = 5 ∨ i = 6 ∨ i = 7 ∨ i = 8 ∨ i = 9 ∨ i = 10) with rfl | rfl | rfl | rfl | rfl | rfl | rfl | rfl | rfl | rfl | rfl <;>
    first | exact Or.inl rfl | exact Or.inr (Or.inl ⟨by decide, by decide, rfl, Int.le_refl (0 : Int), Int.le_refl (0 : Int)⟩)
theorem sound_run {C D S : Nat → Int} {R : Nat → Bool} {O N : Nat → Int} {len : Nat} {es : List Kno} (h1 : 1 ≤ len) (h : ∀ j, j < len → faultAt len C D S R O N j = 0) (hf : ∀ i, i < len → In64 (O i) ∧ In64 (N i)) (hgo : goF C D S R O N 4000 [(0, way0)] [] = .inr es)
    (T K : Nat → Int) (time : Int) (hT : ∀ i, i < 8 → In64 (T i)) (hK : ∀ i, i < 16 → In64 (K i)) (ht : In64 time) :
    ∃ n k a, runF C D S R O N len 0 0 ((start T K time).abs []) = .fine n k a ∧ 1 ≤ k ∧ k ≤ len ∧ (joinTo (endAt es) es.length).1 ≤ n ∧ n ≤ (joinTo (endAt es) es.length).2 ∧ a.out.length ≤ 50 := by
  have hr := fun i hi => right_of (h i hi)
  obtain ⟨n, k, a, e1, e2, e3, b, hb, b1, b2⟩ := go_from_start hr hf h1 hgo _ (start_ok hT hK ht) (start_way T K time)
  obtain ⟨j1, j2⟩ := joined_has hb b1 b2
  exact ⟨n, k, a, e1, e2, e3, j1, j2, (runF_keeps hr (fun i hi => (hf i hi).2) len 0 0 _ (by omega) (start_ok hT hK ht) n k a e1).room⟩
end Go.Proofs.YtednmkhdehlojaaGreatDoor
namespace Go.Proofs.YtednmkhdehlojaaGreatDoor
open Go.ChangeShapes Go.WideShapes Go.ChangeAt Go.RowKit
attribute [local simp] drew_size drewN_size setCell_size
theorem own_slice {w : World} {b : Nat} {e : TypeId} {z : Nat} {v : Value} {n : Nat} {xs : List Value} (h : w.ownsRow b e z v n xs) : ∃ qa qc, v = .slice qa n qc := by
  rcases h.2 with ⟨e1, e2⟩ | ⟨g, cap, cur, e1, _⟩
  · exact ⟨none, 0, by rw [e2]; exact e1⟩
  · exact ⟨_, _, e1⟩
theorem Blk.newRow {w0 w : World} {F : List (Nat × Obj)} (h : Blk w0 F w) (old cs : Array Value) (t : TypeId) : Blk w0 ((w.heap.size, .cells cs t (0, 0)) :: F) ((w.alloc (.cells old t (0, 0))).setRow w.heap.size cs) := by
  have hs := h.1.size
  refine Blk.cons ⟨below_setRow (h.1.alloc hs _) hs _, fun x hx => ?_⟩ (setRow_heap _ _ old cs t (0, 0) (heap_alloc_new _ _))
  have hl := (Array.getElem?_eq_some_iff.1 (h.2 x hx)).1
  exact (setRow_other _ _ _ _ (Nat.ne_of_lt hl)).trans ((heap_alloc_old _ _ hl).trans (h.2 x hx))
theorem Blk.drop2 {w0 w : World} {F : List (Nat × Obj)} {x y : Nat × Obj} (h : Blk w0 (x :: y :: F) w) : Blk w0 F w := ⟨h.1, fun z hz => h.2 z (mcO _ (mcO _ hz))⟩
theorem Blk.drop1 {w0 w : World} {F : List (Nat × Obj)} {x : Nat × Obj} (h : Blk w0 (x :: F) w) : Blk w0 F w := ⟨h.1, fun z hz => h.2 z (mcO _ hz)⟩
theorem tab_same (a : Abs) (w : World) : (Op.equalIn 10000 55 (.agg #[vI vK (a.cel 0), vI vK (a.cel 1), vI vK (a.cel 2), vI vK (a.cel 3), vI vK (a.cel 4), vI vK (a.cel 5), vI vK (a.cel 6), vI vK (a.cel 7), vI vK (a.cel 8), vI vK (a.cel 9), vI vK (a.cel 10), vI vK (a.cel 11), vI vK (a.cel 12), vI vK (a.cel 13), vI vK (a.cel 14), vI vK (a.cel 15)]) (.agg #[vI vK (a.cel 0), vI vK (a.cel 1), vI vK (a.cel 2), vI vK (a.cel 3), vI vK (a.cel 4), vI vK (a.cel 5), vI vK (a.cel 6), vI vK (a.cel 7), vI vK (a.cel 8), vI vK (a.cel 9), vI vK (a.cel 10), vI vK (a.cel 11), vI vK (a.cel 12), vI vK (a.cel 13), vI vK (a.cel 14), vI vK (a.cel 15)])).run Tryz.prog w = .ok true w := by
  obtain ⟨z, h1, h2⟩ := tab_told a.cel a.cel
  rw [h2 w, h1 rfl]
theorem sound_walk (bk off len cap : Nat) (T K : Nat → Int) (time : Int) (w : World) (h300 : len ≤ 300) (b0 b1 : Int) (HLET : Hid (∀ W : World, Below w.heap.size w W → Calls Tryz.prog 17 #[] W fun e w' => e = .returned (.bool true) ∧ Below W.heap.size W w')) (HRUNS : Hid (∀ W : World, Below w.heap.size w W → Calls Tryz.prog 20 #[] W fun e w' => e = .returned (.bool true) ∧ Below W.heap.size W w')) (HVER : Hid (∀ W : World, Below w.heap.size w W → Calls Tryz.prog 16 #[.slice (some ⟨bk, off, none⟩) len cap] W fun e w' => e = .returned (.tuple #[.agg #[vI vK b0, vI vK b1], .nilIface]) ∧ Below W.heap.size W w'))
    (n1 : Int) (k1 : Nat) (a1 : Abs) (HF1 : Hid (1 ≤ k1 ∧ k1 ≤ len ∧ b0 ≤ n1 ∧ n1 ≤ b1 ∧ a1.out.length ≤ 50)) (HR1 : Hid (∀ W : World, Below w.heap.size w W → Calls Tryz.prog 21 #[.slice (some ⟨bk, off, none⟩) len cap, .agg #[vI vK (T 0), vI vK (T 1), vI vK (T 2), vI vK (T 3), vI vK (T 4), vI vK (T 5), vI vK (T 6), vI vK (T 7)], .agg #[vI vK (K 0), vI vK (K 1), vI vK (K 2), vI vK (K 3), vI vK (K 4), vI vK (K 5), vI vK (K 6), vI vK (K 7), vI vK (K 8), vI vK (K 9), vI vK (K 10), vI vK (K 11), vI vK (K 12), vI vK (K 13), vI vK (K 14), vI vK (K 15)], vI vK time] W fun e w' => ∃ v3, e = .returned (.tuple #[.agg #[vI vK n1, vI vK (a1.cel 0), vI vK (a1.cel 1), vI vK (a1.cel 2), vI vK (a1.cel 3), vI vK (a1.cel 4), vI vK (a1.cel 5), vI vK (a1.cel 6), vI vK (a1.cel 7), vI vK (a1.cel 8), vI vK (a1.cel 9), vI vK (a1.cel 10), vI vK (a1.cel 11), vI vK (a1.cel 12), vI vK (a1.cel 13), vI vK (a1.cel 14), vI vK (a1.cel 15), v3, vI vK (k1 : Int)], .nilIface]) ∧ Below W.heap.size W w' ∧ w'.ownsRow (W.heap.size + 1) 2 1 v3 a1.out.length (a1.out.map (Value.int .i64))))
    (n2 : Int) (k2 : Nat) (a2 : Abs) (HF2 : Hid (1 ≤ k2 ∧ k2 ≤ len ∧ b0 ≤ n2 ∧ n2 ≤ b1 ∧ a2.out.length ≤ 50)) (HR2 : Hid (∀ W : World, Below w.heap.size w W → Calls Tryz.prog 21 #[.slice (some ⟨bk, off, none⟩) len cap, .agg #[vI vK (T 0), vI vK (T 1), vI vK (T 2), vI vK (T 3), vI vK (T 4), vI vK (T 5), vI vK (T 6), vI vK (T 7)], .agg #[vI vK 0, vI vK 0, vI vK 0, vI vK 0, vI vK 0, vI vK 0, vI vK 0, vI vK 0, vI vK 0, vI vK 0, vI vK 0, vI vK 0, vI vK 0, vI vK 0, vI vK 0, vI vK 0], vI vK time] W fun e w' => ∃ v3, e = .returned (.tuple #[.agg #[vI vK n2, vI vK (a2.cel 0), vI vK (a2.cel 1), vI vK (a2.cel 2), vI vK (a2.cel 3), vI vK (a2.cel 4), vI vK (a2.cel 5), vI vK (a2.cel 6), vI vK (a2.cel 7), vI vK (a2.cel 8), vI vK (a2.cel 9), vI vK (a2.cel 10), vI vK (a2.cel 11), vI vK (a2.cel 12), vI vK (a2.cel 13), vI vK (a2.cel 14), vI vK (a2.cel 15), v3, vI vK (k2 : Int)], .nilIface]) ∧ Below W.heap.size W w' ∧ w'.ownsRow (W.heap.size + 1) 2 1 v3 a2.out.length (a2.out.map (Value.int .i64)))) :
    Calls Tryz.prog 7 #[.slice (some ⟨bk, off, none⟩) len cap, .agg #[vI vK (T 0), vI vK (T 1), vI vK (T 2), vI vK (T 3), vI vK (T 4), vI vK (T 5), vI vK (T 6), vI vK (T 7)], .agg #[vI vK (K 0), vI vK (K 1), vI vK (K 2), vI vK (K 3), vI vK (K 4), vI vK (K 5), vI vK (K 6), vI vK (K 7), vI vK (K 8), vI vK (K 9), vI vK (K 10), vI vK (K 11), vI vK (K 12), vI vK (K 13), vI vK (K 14), vI vK (K 15)], vI vK time] w fun e w' => e = .returned (.bool true) ∧ Below w.heap.size w w' := by
  have z300 : decide (300 < (len : Int)) = false := by simp; omega
  have hK0 : Blk w [(w.heap.size, .cells #[vI vK (T 0), vI vK (T 1), vI vK (T 2), vI vK (T 3), vI vK (T 4), vI vK (T 5), vI vK (T 6), vI vK (T 7)] 52 (0, 0)), (w.heap.size + 1, .cells #[vI vK (K 0), vI vK (K 1), vI vK (K 2), vI vK (K 3), vI vK (K 4), vI vK (K 5), vI vK (K 6), vI vK (K 7), vI vK (K 8), vI vK (K 9), vI vK (K 10), vI vK (K 11), vI vK (K 12), vI vK (K 13), vI vK (K 14), vI vK (K 15)] 55 (0, 0))] ((w.alloc (.cells #[vI vK (T 0), vI vK (T 1), vI vK (T 2), vI vK (T 3), vI vK (T 4), vI vK (T 5), vI vK (T 6), vI vK (T 7)] 52)).alloc (.cells #[vI vK (K 0), vI vK (K 1), vI vK (K 2), vI vK (K 3), vI vK (K 4), vI vK (K 5), vI vK (K 6), vI vK (K 7), vI vK (K 8), vI vK (K 9), vI vK (K 10), vI vK (K 11), vI vK (K 12), vI vK (K 13), vI vK (K 14), vI vK (K 15)] 55)) := ((Blk.nil (((bF _ _).alloc (Nat.le_refl _) _).alloc (by simp) _)).cons (heap_alloc2_new w (.cells #[vI vK (T 0), vI vK (T 1), vI vK (T 2), vI vK (T 3), vI vK (T 4), vI vK (T 5), vI vK (T 6), vI vK (T 7)] 52) (.cells #[vI vK (K 0), vI vK (K 1), vI vK (K 2), vI vK (K 3), vI vK (K 4), vI vK (K 5), vI vK (K 6), vI vK (K 7), vI vK (K 8), vI vK (K 9), vI vK (K 10), vI vK (K 11), vI vK (K 12), vI vK (K 13), vI vK (K 14), vI vK (K 15)] 55))).cons ((Below.heap_alloc (w.alloc (.cells #[vI vK (T 0), vI vK (T 1), vI vK (T 2), vI vK (T 3), vI vK (T 4), vI vK (T 5), vI vK (T 6), vI vK (T 7)] 52)) _ _ (by simp)).trans (heap_alloc_new w _))
  go_enter Tryz.func7, Tryz.ntmps7
  go_upto_region 3 with fail
  generalize ((w.alloc (.cells #[vI vK (T 0), vI vK (T 1), vI vK (T 2), vI vK (T 3), vI vK (T 4), vI vK (T 5), vI vK (T 6), vI vK (T 7)] 52)).alloc (.cells #[vI vK (K 0), vI vK (K 1), vI vK (K 2), vI vK (K 3), vI vK (K 4), vI vK (K 5), vI vK (K 6), vI vK (K 7), vI vK (K 8), vI vK (K 9), vI vK (K 10), vI vK (K 11), vI vK (K 12), vI vK (K 13), vI vK (K 14), vI vK (K 15)] 55)) = w0 at hK0 ⊢
  have HB0 : Hid (Below w.heap.size w w0) := hK0.1
  go_upto_region 5 with (first
    | (go_at_call 17; go_must (refine (HLET.out _ HB0.out).mono ?_; rintro e w1 ⟨rfl, hb1⟩))
    | (go_at_call 20; go_must (refine (HRUNS.out _ (HB0.out.trans (hb1.mono HB0.out.size))).mono ?_; rintro e w2 ⟨rfl, hb2⟩))
    | fail)
  have hK2 := (hK0.later hb1).later hb2
  clear hK0 HB0 hb1 hb2 HLET HRUNS
  go_step
  (refine wpList_valueOf rfl (.slice (some ⟨bk, off, none⟩) len cap) w2 (by go_simp; try rfl) ?_); simp only [Act.put, siA, scZ, scS]
  (refine wpList_callOf rfl 16 #[.slice (some ⟨bk, off, none⟩) len cap] (by go_simp; try rfl) (.tuple #[.agg #[vI vK b0, vI vK b1], .nilIface]) (HVER.out w2 hK2.1) ?_)
  intro w3 hb3
  have hK3 := hK2.later hb3
  simp only [Act.put, siA, scZ, scS]
  go_upto_region 8 with fail
  have hK4 := hK3.add (.cells #[vI vK b0, vI vK b1] 43)
  clear hK2 hK3 hb3 HVER
  generalize (w3.alloc (.cells #[vI vK b0, vI vK b1] 43)) = w4 at hK4 ⊢
  generalize w3.heap.size = BB at hK4 ⊢
  go_step
  (refine wpList_load_row rfl 55 (.tmp 6) rfl (w.heap.size + 1) rfl 55 #[vI vK (K 0), vI vK (K 1), vI vK (K 2), vI vK (K 3), vI vK (K 4), vI vK (K 5), vI vK (K 6), vI vK (K 7), vI vK (K 8), vI vK (K 9), vI vK (K 10), vI vK (K 11), vI vK (K 12), vI vK (K 13), vI vK (K 14), vI vK (K 15)] (0, 0) _ (hK4.2 _ (mcO _ (mcO _ mcS))) Tryz.underlying55 rfl Tryz.infoK ?_)
  simp only [Act.put, siA, scZ, scS]
  (refine wpList_valueOf rfl (.agg #[vI vK 0, vI vK 0, vI vK 0, vI vK 0, vI vK 0, vI vK 0, vI vK 0, vI vK 0, vI vK 0, vI vK 0, vI vK 0, vI vK 0, vI vK 0, vI vK 0, vI vK 0, vI vK 0]) w4 (by go_simp; try rfl) ?_); simp only [Act.put, siA, scZ, scS]
  (refine wpList_load_row rfl 55 (.tmp 6) rfl (w.heap.size + 1) rfl 55 #[vI vK (K 0), vI vK (K 1), vI vK (K 2), vI vK (K 3), vI vK (K 4), vI vK (K 5), vI vK (K 6), vI vK (K 7), vI vK (K 8), vI vK (K 9), vI vK (K 10), vI vK (K 11), vI vK (K 12), vI vK (K 13), vI vK (K 14), vI vK (K 15)] (0, 0) _ (hK4.2 _ (mcO _ (mcO _ mcS))) Tryz.underlying55 rfl Tryz.infoK ?_)
  simp only [Act.put, siA, scZ, scS]
  (refine wpList_valueOf rfl (.agg #[vI vK (K 0), vI vK (K 1), vI vK (K 2), vI vK (K 3), vI vK (K 4), vI vK (K 5), vI vK (K 6), vI vK (K 7), vI vK (K 8), vI vK (K 9), vI vK (K 10), vI vK (K 11), vI vK (K 12), vI vK (K 13), vI vK (K 14), vI vK (K 15), vI vK 0, vI vK 0, vI vK 0, vI vK 0, vI vK 0, vI vK 0, vI vK 0, vI vK 0, vI vK 0, vI vK 0, vI vK 0, vI vK 0, vI vK 0, vI vK 0, vI vK 0, vI vK 0, vI vK (K 0), vI vK (K 1), vI vK (K 2), vI vK (K 3), vI vK (K 4), vI vK (K 5), vI vK (K 6), vI vK (K 7), vI vK (K 8), vI vK (K 9), vI vK (K 10), vI vK (K 11), vI vK (K 12), vI vK (K 13), vI vK (K 14), vI vK (K 15)]) w4 (by go_simp; try rfl) ?_); simp only [Act.put, siA, scZ, scS]
  (refine wpList_valueOf rfl (vI vK 0) w4 (by go_simp; try rfl) ?_); simp only [Act.put, siA, scZ, scS]
  have HK4 : Hid (Blk w [(BB, .cells #[vI vK b0, vI vK b1] 43 (0, 0)), (w.heap.size, .cells #[vI vK (T 0), vI vK (T 1), vI vK (T 2), vI vK (T 3), vI vK (T 4), vI vK (T 5), vI vK (T 6), vI vK (T 7)] 52 (0, 0)), (w.heap.size + 1, .cells #[vI vK (K 0), vI vK (K 1), vI vK (K 2), vI vK (K 3), vI vK (K 4), vI vK (K 5), vI vK (K 6), vI vK (K 7), vI vK (K 8), vI vK (K 9), vI vK (K 10), vI vK (K 11), vI vK (K 12), vI vK (K 13), vI vK (K 14), vI vK (K 15)] 55 (0, 0))] w4) := hK4
  clear hK4
  go_wp2_with fail
  go_loopw [39] (fun i wr => ∃ q : Nat, i = vI vK q ∧ q ≤ 3 ∧ Hid (Blk w [(BB, .cells #[vI vK b0, vI vK b1] 43 (0, 0)), (w.heap.size, .cells #[vI vK (T 0), vI vK (T 1), vI vK (T 2), vI vK (T 3), vI vK (T 4), vI vK (T 5), vI vK (T 6), vI vK (T 7)] 52 (0, 0)), (w.heap.size + 1, .cells #[vI vK (K 0), vI vK (K 1), vI vK (K 2), vI vK (K 3), vI vK (K 4), vI vK (K 5), vI vK (K 6), vI vK (K 7), vI vK (K 8), vI vK (K 9), vI vK (K 10), vI vK (K 11), vI vK (K 12), vI vK (K 13), vI vK (K 14), vI vK (K 15)] 55 (0, 0))] wr)) (fun i _ => 3 - (intOf i).toNat)
  case atStart => exact ⟨0, rfl, by omega, HK4.out⟩
  case round =>
    obtain ⟨q, rfl, hq3, H⟩ := hrel
    clear HK4
    by_cases h3 : q < 3
    · obtain ⟨Q, n9, k9, a9, HFQ, HRQ, HQ⟩ : ∃ (Q : Nat → Int) (n9 : Int) (k9 : Nat) (a9 : Abs), Hid (1 ≤ k9 ∧ k9 ≤ len ∧ b0 ≤ n9 ∧ n9 ≤ b1 ∧ a9.out.length ≤ 50) ∧ Hid (∀ W : World, Below w.heap.size w W → Calls Tryz.prog 21 #[.slice (some ⟨bk, off, none⟩) len cap, .agg #[vI vK (T 0), vI vK (T 1), vI vK (T 2), vI vK (T 3), vI vK (T 4), vI vK (T 5), vI vK (T 6), vI vK (T 7)], .agg #[vI vK (Q 0), vI vK (Q 1), vI vK (Q 2), vI vK (Q 3), vI vK (Q 4), vI vK (Q 5), vI vK (Q 6), vI vK (Q 7), vI vK (Q 8), vI vK (Q 9), vI vK (Q 10), vI vK (Q 11), vI vK (Q 12), vI vK (Q 13), vI vK (Q 14), vI vK (Q 15)], vI vK time] W fun e w' => ∃ v3, e = .returned (.tuple #[.agg #[vI vK n9, vI vK (a9.cel 0), vI vK (a9.cel 1), vI vK (a9.cel 2), vI vK (a9.cel 3), vI vK (a9.cel 4), vI vK (a9.cel 5), vI vK (a9.cel 6), vI vK (a9.cel 7), vI vK (a9.cel 8), vI vK (a9.cel 9), vI vK (a9.cel 10), vI vK (a9.cel 11), vI vK (a9.cel 12), vI vK (a9.cel 13), vI vK (a9.cel 14), vI vK (a9.cel 15), v3, vI vK (k9 : Int)], .nilIface]) ∧ Below W.heap.size W w' ∧ w'.ownsRow (W.heap.size + 1) 2 1 v3 a9.out.length (a9.out.map (Value.int .i64))) ∧ Hid ((q = 0 ∧ Q = K) ∨ (q = 1 ∧ Q = fun _ => 0) ∨ (q = 2 ∧ Q = K)) := by
        rcases (by omega : q = 0 ∨ q = 1 ∨ q = 2) with e | e | e
        · exact ⟨K, n1, k1, a1, HF1, HR1, Or.inl ⟨e, rfl⟩⟩
        · exact ⟨fun _ => 0, n2, k2, a2, HF2, HR2, Or.inr (Or.inl ⟨e, rfl⟩)⟩
        · exact ⟨K, n1, k1, a1, HF1, HR1, Or.inr (Or.inr ⟨e, rfl⟩)⟩
      clear HF1 HR1 HF2 HR2
      have hq0 : (0 : Int) ≤ (q : Int) := by omega
      have hq1 : (q : Int) < 3 := by omega
      have hK := H.out
      obtain ⟨f1, f2, f3, f4, f5⟩ := HFQ.out
      have y1 : decide ((k9 : Int) < 1) = false := by simp; omega
      have y2 : decide ((len : Int) < (k9 : Int)) = false := by simp; omega
      have y4 : decide (len < k9) = false := by simp; omega
      have y5 : ¬ (len < k9) := by omega
      have y3 : decide (50 < (a9.out.length : Int)) = false := by simp; omega
      have HHAS : Hid (∀ W : World, Calls Tryz.prog 22 #[.agg #[vI vK b0, vI vK b1], vI vK n9] W fun e w' => e = .returned (.bool true) ∧ Below W.heap.size W w') := fun W => by have e := has_is b0 b1 n9 W; rw [decide_eq_true f3, decide_eq_true f4] at e; exact e
      obtain ⟨z, -, hz⟩ := tab_told Q (fun _ => 0)
      have hz2 := tab_same a9
      try dsimp only at hz
      clear f1 f2 f3 f4 f5
      go_upto_region 10 with fail
      go_step
      refine wpList_valueOf rfl (.agg #[vI vK (Q 0), vI vK (Q 1), vI vK (Q 2), vI vK (Q 3), vI vK (Q 4), vI vK (Q 5), vI vK (Q 6), vI vK (Q 7), vI vK (Q 8), vI vK (Q 9), vI vK (Q 10), vI vK (Q 11), vI vK (Q 12), vI vK (Q 13), vI vK (Q 14), vI vK (Q 15)]) wr (by rcases HQ.out with ⟨e1, e2⟩ | ⟨e1, e2⟩ | ⟨e1, e2⟩ <;> (rw [e1, e2]; go_simp; try rfl)) ?_
      simp only [Act.put, siA, scZ, scS]
      refine wpList_valueOf rfl (.pointer (some ⟨wr.heap.size, 0, none⟩)) (wr.alloc (.cells #[vI vK 0, vI vK 0, vI vK 0, vI vK 0, vI vK 0, vI vK 0, vI vK 0, vI vK 0, vI vK 0, vI vK 0, vI vK 0, vI vK 0, vI vK 0, vI vK 0, vI vK 0, vI vK 0] 55)) (by go_simp; try rfl) ?_
      simp only [Act.put, siA, scZ, scS]
      (refine wpList_store_row rfl 55 (.tmp 12) (.tmp 41) rfl wr.heap.size #[vI vK (Q 0), vI vK (Q 1), vI vK (Q 2), vI vK (Q 3), vI vK (Q 4), vI vK (Q 5), vI vK (Q 6), vI vK (Q 7), vI vK (Q 8), vI vK (Q 9), vI vK (Q 10), vI vK (Q 11), vI vK (Q 12), vI vK (Q 13), vI vK (Q 14), vI vK (Q 15)] rfl rfl 55 #[vI vK 0, vI vK 0, vI vK 0, vI vK 0, vI vK 0, vI vK 0, vI vK 0, vI vK 0, vI vK 0, vI vK 0, vI vK 0, vI vK 0, vI vK 0, vI vK 0, vI vK 0, vI vK 0] (heap_alloc_new _ _) Tryz.infoK rfl (by kernel_rfl) ?_)
      simp only [Act.put]
      have hK5 := hK.newRow #[vI vK 0, vI vK 0, vI vK 0, vI vK 0, vI vK 0, vI vK 0, vI vK 0, vI vK 0, vI vK 0, vI vK 0, vI vK 0, vI vK 0, vI vK 0, vI vK 0, vI vK 0, vI vK 0] #[vI vK (Q 0), vI vK (Q 1), vI vK (Q 2), vI vK (Q 3), vI vK (Q 4), vI vK (Q 5), vI vK (Q 6), vI vK (Q 7), vI vK (Q 8), vI vK (Q 9), vI vK (Q 10), vI vK (Q 11), vI vK (Q 12), vI vK (Q 13), vI vK (Q 14), vI vK (Q 15)] 55
      clear hK H
      generalize ((wr.alloc (.cells #[vI vK 0, vI vK 0, vI vK 0, vI vK 0, vI vK 0, vI vK 0, vI vK 0, vI vK 0, vI vK 0, vI vK 0, vI vK 0, vI vK 0, vI vK 0, vI vK 0, vI vK 0, vI vK 0] 55)).setRow wr.heap.size #[vI vK (Q 0), vI vK (Q 1), vI vK (Q 2), vI vK (Q 3), vI vK (Q 4), vI vK (Q 5), vI vK (Q 6), vI vK (Q 7), vI vK (Q 8), vI vK (Q 9), vI vK (Q 10), vI vK (Q 11), vI vK (Q 12), vI vK (Q 13), vI vK (Q 14), vI vK (Q 15)]) = w5 at hK5 ⊢
      generalize wr.heap.size = B12 at hK5 ⊢
      go_upto_region 11 with fail
      go_step
      (refine wpList_valueOf rfl (.slice (some ⟨bk, off, none⟩) len cap) w5 (by go_simp; try rfl) ?_); simp only [Act.put, siA, scZ, scS]
      (refine wpList_load_row rfl 52 (.tmp 5) rfl w.heap.size rfl 52 #[vI vK (T 0), vI vK (T 1), vI vK (T 2), vI vK (T 3), vI vK (T 4), vI vK (T 5), vI vK (T 6), vI vK (T 7)] (0, 0) _ (hK5.2 _ (mcO _ (mcO _ mcS))) Tryz.underlying52 rfl Tryz.infoT ?_)
      simp only [Act.put, siA, scZ, scS]
      (refine wpList_load_row rfl 55 (.tmp 12) rfl B12 rfl 55 #[vI vK (Q 0), vI vK (Q 1), vI vK (Q 2), vI vK (Q 3), vI vK (Q 4), vI vK (Q 5), vI vK (Q 6), vI vK (Q 7), vI vK (Q 8), vI vK (Q 9), vI vK (Q 10), vI vK (Q 11), vI vK (Q 12), vI vK (Q 13), vI vK (Q 14), vI vK (Q 15)] (0, 0) _ (hK5.2 _ mcS) Tryz.underlying55 rfl Tryz.infoK ?_)
      simp only [Act.put, siA, scZ, scS]
      (refine wpList_valueOf rfl (vI vK time) w5 (by go_simp; try rfl) ?_); simp only [Act.put, siA, scZ, scS]
      refine wpList_callEx rfl 21 #[.slice (some ⟨bk, off, none⟩) len cap, .agg #[vI vK (T 0), vI vK (T 1), vI vK (T 2), vI vK (T 3), vI vK (T 4), vI vK (T 5), vI vK (T 6), vI vK (T 7)], .agg #[vI vK (Q 0), vI vK (Q 1), vI vK (Q 2), vI vK (Q 3), vI vK (Q 4), vI vK (Q 5), vI vK (Q 6), vI vK (Q 7), vI vK (Q 8), vI vK (Q 9), vI vK (Q 10), vI vK (Q 11), vI vK (Q 12), vI vK (Q 13), vI vK (Q 14), vI vK (Q 15)], vI vK time] (by go_simp; try rfl) (R := fun x w' => ∃ v3, x = .tuple #[.agg #[vI vK n9, vI vK (a9.cel 0), vI vK (a9.cel 1), vI vK (a9.cel 2), vI vK (a9.cel 3), vI vK (a9.cel 4), vI vK (a9.cel 5), vI vK (a9.cel 6), vI vK (a9.cel 7), vI vK (a9.cel 8), vI vK (a9.cel 9), vI vK (a9.cel 10), vI vK (a9.cel 11), vI vK (a9.cel 12), vI vK (a9.cel 13), vI vK (a9.cel 14), vI vK (a9.cel 15), v3, vI vK ((k9 : Int) : Int)], .nilIface] ∧ Below w5.heap.size w5 w' ∧ w'.ownsRow (w5.heap.size + 1) 2 1 v3 a9.out.length (a9.out.map (Value.int .i64))) ((HRQ.out w5 hK5.1).mono fun e w' h => by obtain ⟨v3, h1, h2⟩ := h; exact ⟨_, h1, v3, rfl, h2⟩) ?_
      intro v6 w6 hq
      obtain ⟨v3, rfl, hb6, hown6⟩ := hq
      obtain ⟨qa6, qc6, rfl⟩ : ∃ qa qc, v3 = .slice qa a9.out.length qc := own_slice hown6
      simp only [Act.put, siA, scZ, scS]
      (refine wpList_valueOf rfl (.tuple #[.agg #[vI vK n9, vI vK (a9.cel 0), vI vK (a9.cel 1), vI vK (a9.cel 2), vI vK (a9.cel 3), vI vK (a9.cel 4), vI vK (a9.cel 5), vI vK (a9.cel 6), vI vK (a9.cel 7), vI vK (a9.cel 8), vI vK (a9.cel 9), vI vK (a9.cel 10), vI vK (a9.cel 11), vI vK (a9.cel 12), vI vK (a9.cel 13), vI vK (a9.cel 14), vI vK (a9.cel 15), (.slice qa6 a9.out.length qc6), vI vK ((k9 : Int) : Int)], .nilIface]) w6 (by go_simp; try rfl) ?_); simp only [Act.put, siA, scZ, scS]
      (refine wpList_valueOf rfl (.agg #[vI vK n9, vI vK (a9.cel 0), vI vK (a9.cel 1), vI vK (a9.cel 2), vI vK (a9.cel 3), vI vK (a9.cel 4), vI vK (a9.cel 5), vI vK (a9.cel 6), vI vK (a9.cel 7), vI vK (a9.cel 8), vI vK (a9.cel 9), vI vK (a9.cel 10), vI vK (a9.cel 11), vI vK (a9.cel 12), vI vK (a9.cel 13), vI vK (a9.cel 14), vI vK (a9.cel 15), (.slice qa6 a9.out.length qc6), vI vK ((k9 : Int) : Int)]) w6 (by go_simp; try rfl) ?_); simp only [Act.put, siA, scZ, scS]
      (refine wpList_valueOf rfl .nilIface w6 (by go_simp; try rfl) ?_); simp only [Act.put, siA, scZ, scS]
      refine wpList_valueOf rfl (.pointer (some ⟨w6.heap.size, 0, none⟩)) (w6.alloc (.cells zeroCs 59)) (by go_simp; try rfl) ?_
      simp only [Act.put, siA, scZ, scS]
      (refine wpList_store_row rfl 59 (.tmp 13) (.tmp 48) rfl w6.heap.size #[vI vK n9, vI vK (a9.cel 0), vI vK (a9.cel 1), vI vK (a9.cel 2), vI vK (a9.cel 3), vI vK (a9.cel 4), vI vK (a9.cel 5), vI vK (a9.cel 6), vI vK (a9.cel 7), vI vK (a9.cel 8), vI vK (a9.cel 9), vI vK (a9.cel 10), vI vK (a9.cel 11), vI vK (a9.cel 12), vI vK (a9.cel 13), vI vK (a9.cel 14), vI vK (a9.cel 15), (.slice qa6 a9.out.length qc6), vI vK ((k9 : Int) : Int)] rfl rfl 59 zeroCs (heap_alloc_new _ _) Tryz.infoRan rfl (by kernel_rfl) ?_)
      simp only [Act.put]
      have hL6 := (hK5.later hb6).newRow zeroCs #[vI vK n9, vI vK (a9.cel 0), vI vK (a9.cel 1), vI vK (a9.cel 2), vI vK (a9.cel 3), vI vK (a9.cel 4), vI vK (a9.cel 5), vI vK (a9.cel 6), vI vK (a9.cel 7), vI vK (a9.cel 8), vI vK (a9.cel 9), vI vK (a9.cel 10), vI vK (a9.cel 11), vI vK (a9.cel 12), vI vK (a9.cel 13), vI vK (a9.cel 14), vI vK (a9.cel 15), (.slice qa6 a9.out.length qc6), vI vK ((k9 : Int) : Int)] 59
      clear hown6 hb6
      generalize ((w6.alloc (.cells zeroCs 59)).setRow w6.heap.size #[vI vK n9, vI vK (a9.cel 0), vI vK (a9.cel 1), vI vK (a9.cel 2), vI vK (a9.cel 3), vI vK (a9.cel 4), vI vK (a9.cel 5), vI vK (a9.cel 6), vI vK (a9.cel 7), vI vK (a9.cel 8), vI vK (a9.cel 9), vI vK (a9.cel 10), vI vK (a9.cel 11), vI vK (a9.cel 12), vI vK (a9.cel 13), vI vK (a9.cel 14), vI vK (a9.cel 15), (.slice qa6 a9.out.length qc6), vI vK ((k9 : Int) : Int)]) = W6 at hL6 ⊢
      generalize w6.heap.size = B6 at hL6 ⊢
      have rrow := hL6.2 _ mcS; have r0 := cell_of_row _ B6 0 _ 59 (0, 0) rrow; have r17 := cell_of_row _ B6 17 _ 59 (0, 0) rrow; have r18 := cell_of_row _ B6 18 _ 59 (0, 0) rrow; simp only [List.getElem?_toArray, List.getElem?_cons_zero, List.getElem?_cons_succ] at r0 r17 r18; have rlt := (Array.getElem?_eq_some_iff.1 rrow).1
      obtain ⟨z0, z1, zf0, zf1, zlt⟩ := row2 (hL6.2 _ (mcO _ (mcO _ mcS)))
      go_upto_region 14 with (first | (go_at_call 22; go_must (refine (HHAS.out _).mono ?_; rintro e W8 ⟨rfl, hb8⟩; have hK8 := hL6.later hb8; clear r0 r17 r18 rlt rrow z0 z1 zf0 zf1 zlt; have rrow := hK8.2 _ mcS; have r0 := cell_of_row _ B6 0 _ 59 (0, 0) rrow; have r17 := cell_of_row _ B6 17 _ 59 (0, 0) rrow; have r18 := cell_of_row _ B6 18 _ 59 (0, 0) rrow; simp only [List.getElem?_toArray, List.getElem?_cons_zero, List.getElem?_cons_succ] at r0 r17 r18; have rlt := (Array.getElem?_eq_some_iff.1 rrow).1)) | fail)
      go_step
      (refine wpList_load_row rfl 55 (.tmp 12) rfl B12 rfl 55 #[vI vK (Q 0), vI vK (Q 1), vI vK (Q 2), vI vK (Q 3), vI vK (Q 4), vI vK (Q 5), vI vK (Q 6), vI vK (Q 7), vI vK (Q 8), vI vK (Q 9), vI vK (Q 10), vI vK (Q 11), vI vK (Q 12), vI vK (Q 13), vI vK (Q 14), vI vK (Q 15)] (0, 0) _ (hK8.2 _ (mcO _ mcS)) Tryz.underlying55 rfl Tryz.infoK ?_)
      simp only [Act.put, siA, scZ, scS]
      (refine wpList_valueOf rfl (.agg #[vI vK 0, vI vK 0, vI vK 0, vI vK 0, vI vK 0, vI vK 0, vI vK 0, vI vK 0, vI vK 0, vI vK 0, vI vK 0, vI vK 0, vI vK 0, vI vK 0, vI vK 0, vI vK 0]) W8 (by go_simp; try rfl) ?_); simp only [Act.put, siA, scZ, scS]
      refine wpList_valueOf rfl (.bool (!z)) W8 (by go_simp; try rfl) ?_
      simp only [Act.put, siA, scZ, scS]
      clear r0 r17 r18 rlt rrow
      cases z
      · have HE8 : Hid (Blk w [(BB, .cells #[vI vK b0, vI vK b1] 43 (0, 0)), (w.heap.size, .cells #[vI vK (T 0), vI vK (T 1), vI vK (T 2), vI vK (T 3), vI vK (T 4), vI vK (T 5), vI vK (T 6), vI vK (T 7)] 52 (0, 0)), (w.heap.size + 1, .cells #[vI vK (K 0), vI vK (K 1), vI vK (K 2), vI vK (K 3), vI vK (K 4), vI vK (K 5), vI vK (K 6), vI vK (K 7), vI vK (K 8), vI vK (K 9), vI vK (K 10), vI vK (K 11), vI vK (K 12), vI vK (K 13), vI vK (K 14), vI vK (K 15)] 55 (0, 0))] W8) := hK8.drop2
        clear hK8 hL6 hK5
        go_wp2_with fail
        go_roundw
        case rel => exact ⟨q + 1, by go_num, by omega, HE8.out⟩
        case measure => first | (simp [intOf]; done) | (simp [intOf]; omega)
      · go_upto_region 15 with fail
        go_step
        (refine wpList_valueOf rfl (.slice (some ⟨bk, off, none⟩) len cap) W8 (by go_simp; try rfl) ?_); simp only [Act.put, siA, scZ, scS]
        (refine wpList_load_row rfl 52 (.tmp 5) rfl w.heap.size rfl 52 #[vI vK (T 0), vI vK (T 1), vI vK (T 2), vI vK (T 3), vI vK (T 4), vI vK (T 5), vI vK (T 6), vI vK (T 7)] (0, 0) _ (hK8.2 _ (mcO _ (mcO _ (mcO _ mcS)))) Tryz.underlying52 rfl Tryz.infoT ?_)
        simp only [Act.put, siA, scZ, scS]
        (refine wpList_load_row rfl 55 (.tmp 12) rfl B12 rfl 55 #[vI vK (Q 0), vI vK (Q 1), vI vK (Q 2), vI vK (Q 3), vI vK (Q 4), vI vK (Q 5), vI vK (Q 6), vI vK (Q 7), vI vK (Q 8), vI vK (Q 9), vI vK (Q 10), vI vK (Q 11), vI vK (Q 12), vI vK (Q 13), vI vK (Q 14), vI vK (Q 15)] (0, 0) _ (hK8.2 _ (mcO _ mcS)) Tryz.underlying55 rfl Tryz.infoK ?_)
        simp only [Act.put, siA, scZ, scS]
        (refine wpList_valueOf rfl (vI vK time) W8 (by go_simp; try rfl) ?_); simp only [Act.put, siA, scZ, scS]
        refine wpList_callEx rfl 21 #[.slice (some ⟨bk, off, none⟩) len cap, .agg #[vI vK (T 0), vI vK (T 1), vI vK (T 2), vI vK (T 3), vI vK (T 4), vI vK (T 5), vI vK (T 6), vI vK (T 7)], .agg #[vI vK (Q 0), vI vK (Q 1), vI vK (Q 2), vI vK (Q 3), vI vK (Q 4), vI vK (Q 5), vI vK (Q 6), vI vK (Q 7), vI vK (Q 8), vI vK (Q 9), vI vK (Q 10), vI vK (Q 11), vI vK (Q 12), vI vK (Q 13), vI vK (Q 14), vI vK (Q 15)], vI vK time] (by go_simp; try rfl) (R := fun x w' => ∃ v3, x = .tuple #[.agg #[vI vK n9, vI vK (a9.cel 0), vI vK (a9.cel 1), vI vK (a9.cel 2), vI vK (a9.cel 3), vI vK (a9.cel 4), vI vK (a9.cel 5), vI vK (a9.cel 6), vI vK (a9.cel 7), vI vK (a9.cel 8), vI vK (a9.cel 9), vI vK (a9.cel 10), vI vK (a9.cel 11), vI vK (a9.cel 12), vI vK (a9.cel 13), vI vK (a9.cel 14), vI vK (a9.cel 15), v3, vI vK ((k9 : Int) : Int)], .nilIface] ∧ Below W8.heap.size W8 w' ∧ w'.ownsRow (W8.heap.size + 1) 2 1 v3 a9.out.length (a9.out.map (Value.int .i64))) ((HRQ.out W8 hK8.1).mono fun e w' h => by obtain ⟨v3, h1, h2⟩ := h; exact ⟨_, h1, v3, rfl, h2⟩) ?_
        intro v9 w9 hq
        obtain ⟨v3, rfl, hb9, hown9⟩ := hq
        obtain ⟨qa9, qc9, rfl⟩ : ∃ qa qc, v3 = .slice qa a9.out.length qc := own_slice hown9
        simp only [Act.put, siA, scZ, scS]
        (refine wpList_valueOf rfl (.tuple #[.agg #[vI vK n9, vI vK (a9.cel 0), vI vK (a9.cel 1), vI vK (a9.cel 2), vI vK (a9.cel 3), vI vK (a9.cel 4), vI vK (a9.cel 5), vI vK (a9.cel 6), vI vK (a9.cel 7), vI vK (a9.cel 8), vI vK (a9.cel 9), vI vK (a9.cel 10), vI vK (a9.cel 11), vI vK (a9.cel 12), vI vK (a9.cel 13), vI vK (a9.cel 14), vI vK (a9.cel 15), (.slice qa9 a9.out.length qc9), vI vK ((k9 : Int) : Int)], .nilIface]) w9 (by go_simp; try rfl) ?_); simp only [Act.put, siA, scZ, scS]
        (refine wpList_valueOf rfl (.agg #[vI vK n9, vI vK (a9.cel 0), vI vK (a9.cel 1), vI vK (a9.cel 2), vI vK (a9.cel 3), vI vK (a9.cel 4), vI vK (a9.cel 5), vI vK (a9.cel 6), vI vK (a9.cel 7), vI vK (a9.cel 8), vI vK (a9.cel 9), vI vK (a9.cel 10), vI vK (a9.cel 11), vI vK (a9.cel 12), vI vK (a9.cel 13), vI vK (a9.cel 14), vI vK (a9.cel 15), (.slice qa9 a9.out.length qc9), vI vK ((k9 : Int) : Int)]) w9 (by go_simp; try rfl) ?_); simp only [Act.put, siA, scZ, scS]
        (refine wpList_valueOf rfl .nilIface w9 (by go_simp; try rfl) ?_); simp only [Act.put, siA, scZ, scS]
        refine wpList_valueOf rfl (.pointer (some ⟨w9.heap.size, 0, none⟩)) (w9.alloc (.cells zeroCs 59)) (by go_simp; try rfl) ?_
        simp only [Act.put, siA, scZ, scS]
        (refine wpList_store_row rfl 59 (.tmp 15) (.tmp 86) rfl w9.heap.size #[vI vK n9, vI vK (a9.cel 0), vI vK (a9.cel 1), vI vK (a9.cel 2), vI vK (a9.cel 3), vI vK (a9.cel 4), vI vK (a9.cel 5), vI vK (a9.cel 6), vI vK (a9.cel 7), vI vK (a9.cel 8), vI vK (a9.cel 9), vI vK (a9.cel 10), vI vK (a9.cel 11), vI vK (a9.cel 12), vI vK (a9.cel 13), vI vK (a9.cel 14), vI vK (a9.cel 15), (.slice qa9 a9.out.length qc9), vI vK ((k9 : Int) : Int)] rfl rfl 59 zeroCs (heap_alloc_new _ _) Tryz.infoRan rfl (by kernel_rfl) ?_)
        simp only [Act.put]
        have hL9 := (hK8.later hb9).newRow zeroCs #[vI vK n9, vI vK (a9.cel 0), vI vK (a9.cel 1), vI vK (a9.cel 2), vI vK (a9.cel 3), vI vK (a9.cel 4), vI vK (a9.cel 5), vI vK (a9.cel 6), vI vK (a9.cel 7), vI vK (a9.cel 8), vI vK (a9.cel 9), vI vK (a9.cel 10), vI vK (a9.cel 11), vI vK (a9.cel 12), vI vK (a9.cel 13), vI vK (a9.cel 14), vI vK (a9.cel 15), (.slice qa9 a9.out.length qc9), vI vK ((k9 : Int) : Int)] 59
        clear hown9 hb9
        generalize ((w9.alloc (.cells zeroCs 59)).setRow w9.heap.size #[vI vK n9, vI vK (a9.cel 0), vI vK (a9.cel 1), vI vK (a9.cel 2), vI vK (a9.cel 3), vI vK (a9.cel 4), vI vK (a9.cel 5), vI vK (a9.cel 6), vI vK (a9.cel 7), vI vK (a9.cel 8), vI vK (a9.cel 9), vI vK (a9.cel 10), vI vK (a9.cel 11), vI vK (a9.cel 12), vI vK (a9.cel 13), vI vK (a9.cel 14), vI vK (a9.cel 15), (.slice qa9 a9.out.length qc9), vI vK ((k9 : Int) : Int)]) = W9 at hL9 ⊢
        generalize w9.heap.size = B9 at hL9 ⊢
        have rrow := hL9.2 _ mcS; have r0 := cell_of_row _ B9 0 _ 59 (0, 0) rrow; have r1 := cell_of_row _ B9 1 _ 59 (0, 0) rrow; have r2 := cell_of_row _ B9 2 _ 59 (0, 0) rrow; have r3 := cell_of_row _ B9 3 _ 59 (0, 0) rrow; have r4 := cell_of_row _ B9 4 _ 59 (0, 0) rrow; have r5 := cell_of_row _ B9 5 _ 59 (0, 0) rrow; have r6 := cell_of_row _ B9 6 _ 59 (0, 0) rrow; have r7 := cell_of_row _ B9 7 _ 59 (0, 0) rrow; have r8 := cell_of_row _ B9 8 _ 59 (0, 0) rrow; have r9 := cell_of_row _ B9 9 _ 59 (0, 0) rrow; have r10 := cell_of_row _ B9 10 _ 59 (0, 0) rrow; have r11 := cell_of_row _ B9 11 _ 59 (0, 0) rrow; have r12 := cell_of_row _ B9 12 _ 59 (0, 0) rrow; have r13 := cell_of_row _ B9 13 _ 59 (0, 0) rrow; have r14 := cell_of_row _ B9 14 _ 59 (0, 0) rrow; have r15 := cell_of_row _ B9 15 _ 59 (0, 0) rrow; have r16 := cell_of_row _ B9 16 _ 59 (0, 0) rrow; have r17 := cell_of_row _ B9 17 _ 59 (0, 0) rrow; have r18 := cell_of_row _ B9 18 _ 59 (0, 0) rrow; simp only [List.getElem?_toArray, List.getElem?_cons_zero, List.getElem?_cons_succ] at r0 r1 r2 r3 r4 r5 r6 r7 r8 r9 r10 r11 r12 r13 r14 r15 r16 r17 r18; have rlt := (Array.getElem?_eq_some_iff.1 rrow).1
        have srow := hL9.2 _ (mcO _ mcS); have s0 := cell_of_row _ B6 0 _ 59 (0, 0) srow; have s1 := cell_of_row _ B6 1 _ 59 (0, 0) srow; have s2 := cell_of_row _ B6 2 _ 59 (0, 0) srow; have s3 := cell_of_row _ B6 3 _ 59 (0, 0) srow; have s4 := cell_of_row _ B6 4 _ 59 (0, 0) srow; have s5 := cell_of_row _ B6 5 _ 59 (0, 0) srow; have s6 := cell_of_row _ B6 6 _ 59 (0, 0) srow; have s7 := cell_of_row _ B6 7 _ 59 (0, 0) srow; have s8 := cell_of_row _ B6 8 _ 59 (0, 0) srow; have s9 := cell_of_row _ B6 9 _ 59 (0, 0) srow; have s10 := cell_of_row _ B6 10 _ 59 (0, 0) srow; have s11 := cell_of_row _ B6 11 _ 59 (0, 0) srow; have s12 := cell_of_row _ B6 12 _ 59 (0, 0) srow; have s13 := cell_of_row _ B6 13 _ 59 (0, 0) srow; have s14 := cell_of_row _ B6 14 _ 59 (0, 0) srow; have s15 := cell_of_row _ B6 15 _ 59 (0, 0) srow; have s16 := cell_of_row _ B6 16 _ 59 (0, 0) srow; have s17 := cell_of_row _ B6 17 _ 59 (0, 0) srow; have s18 := cell_of_row _ B6 18 _ 59 (0, 0) srow; simp only [List.getElem?_toArray, List.getElem?_cons_zero, List.getElem?_cons_succ] at s0 s1 s2 s3 s4 s5 s6 s7 s8 s9 s10 s11 s12 s13 s14 s15 s16 s17 s18; have slt := (Array.getElem?_eq_some_iff.1 srow).1
        have HE9 : Hid (Blk w [(BB, .cells #[vI vK b0, vI vK b1] 43 (0, 0)), (w.heap.size, .cells #[vI vK (T 0), vI vK (T 1), vI vK (T 2), vI vK (T 3), vI vK (T 4), vI vK (T 5), vI vK (T 6), vI vK (T 7)] 52 (0, 0)), (w.heap.size + 1, .cells #[vI vK (K 0), vI vK (K 1), vI vK (K 2), vI vK (K 3), vI vK (K 4), vI vK (K 5), vI vK (K 6), vI vK (K 7), vI vK (K 8), vI vK (K 9), vI vK (K 10), vI vK (K 11), vI vK (K 12), vI vK (K 13), vI vK (K 14), vI vK (K 15)] 55 (0, 0))] W9) := hL9.drop2.drop1
        clear rrow srow hK8 hL6 hK5 hL9
        go_wp2_with fail
        go_roundw
        case rel => exact ⟨q + 1, by go_num, by omega, HE9.out⟩
        case measure => first | (simp [intOf]; done) | (simp [intOf]; omega)
    · obtain rfl : q = 3 := by omega
      have hbE := H.out.1
      go_wp2_with fail
      go_ret
      exact ⟨rfl, hbE⟩
theorem sound_long (a0 : Option Addr) (len cap : Nat) (T K : Nat → Int) (time : Int) (h : 300 < len) (w : World) : Calls Tryz.prog 7 #[.slice a0 len cap, .agg #[vI vK (T 0), vI vK (T 1), vI vK (T 2), vI vK (T 3), vI vK (T 4), vI vK (T 5), vI vK (T 6), vI vK (T 7)], .agg #[vI vK (K 0), vI vK (K 1), vI vK (K 2), vI vK (K 3), vI vK (K 4), vI vK (K 5), vI vK (K 6), vI vK (K 7), vI vK (K 8), vI vK (K 9), vI vK (K 10), vI vK (K 11), vI vK (K 12), vI vK (K 13), vI vK (K 14), vI vK (K 15)], vI vK time] w fun e w' => e = .returned (.bool true) ∧ Below w.heap.size w w' := by
  have z : decide (300 < (len : Int)) = true := by simp; omega
  go_enter Tryz.func7, Tryz.ntmps7
  go_wp2
  go_ret
  exact ⟨rfl, ((bF _ _).alloc (Nat.le_refl _) _).alloc (by simp) _⟩
theorem sound_err (a0 : Option Addr) (len cap : Nat) (T K : Nat → Int) (time : Int) (w : World) (h300 : len ≤ 300) (HLET : Hid (∀ W : World, Below w.heap.size w W → Calls Tryz.prog 17 #[] W fun e w' => e = .returned (.bool true) ∧ Below W.heap.size W w')) (HRUNS : Hid (∀ W : World, Below w.heap.size w W → Calls Tryz.prog 20 #[] W fun e w' => e = .returned (.bool true) ∧ Below W.heap.size W w')) (HVER : Hid (∀ W : World, Below w.heap.size w W → Calls Tryz.prog 16 #[.slice a0 len cap] W fun e w' => ∃ v, e = .returned v ∧ ∃ t x, v = .tuple #[.agg #[vI vK 0, vI vK 0], .iface t x] ∧ Below W.heap.size W w')) :
    Calls Tryz.prog 7 #[.slice a0 len cap, .agg #[vI vK (T 0), vI vK (T 1), vI vK (T 2), vI vK (T 3), vI vK (T 4), vI vK (T 5), vI vK (T 6), vI vK (T 7)], .agg #[vI vK (K 0), vI vK (K 1), vI vK (K 2), vI vK (K 3), vI vK (K 4), vI vK (K 5), vI vK (K 6), vI vK (K 7), vI vK (K 8), vI vK (K 9), vI vK (K 10), vI vK (K 11), vI vK (K 12), vI vK (K 13), vI vK (K 14), vI vK (K 15)], vI vK time] w fun e w' => e = .returned (.bool true) ∧ Below w.heap.size w w' := by
  have z300 : decide (300 < (len : Int)) = false := by simp; omega
  have hK0 : Blk w [(w.heap.size, .cells #[vI vK (T 0), vI vK (T 1), vI vK (T 2), vI vK (T 3), vI vK (T 4), vI vK (T 5), vI vK (T 6), vI vK (T 7)] 52 (0, 0)), (w.heap.size + 1, .cells #[vI vK (K 0), vI vK (K 1), vI vK (K 2), vI vK (K 3), vI vK (K 4), vI vK (K 5), vI vK (K 6), vI vK (K 7), vI vK (K 8), vI vK (K 9), vI vK (K 10), vI vK (K 11), vI vK (K 12), vI vK (K 13), vI vK (K 14), vI vK (K 15)] 55 (0, 0))] ((w.alloc (.cells #[vI vK (T 0), vI vK (T 1), vI vK (T 2), vI vK (T 3), vI vK (T 4), vI vK (T 5), vI vK (T 6), vI vK (T 7)] 52)).alloc (.cells #[vI vK (K 0), vI vK (K 1), vI vK (K 2), vI vK (K 3), vI vK (K 4), vI vK (K 5), vI vK (K 6), vI vK (K 7), vI vK (K 8), vI vK (K 9), vI vK (K 10), vI vK (K 11), vI vK (K 12), vI vK (K 13), vI vK (K 14), vI vK (K 15)] 55)) := ((Blk.nil (((bF _ _).alloc (Nat.le_refl _) _).alloc (by simp) _)).cons (heap_alloc2_new w (.cells #[vI vK (T 0), vI vK (T 1), vI vK (T 2), vI vK (T 3), vI vK (T 4), vI vK (T 5), vI vK (T 6), vI vK (T 7)] 52) (.cells #[vI vK (K 0), vI vK (K 1), vI vK (K 2), vI vK (K 3), vI vK (K 4), vI vK (K 5), vI vK (K 6), vI vK (K 7), vI vK (K 8), vI vK (K 9), vI vK (K 10), vI vK (K 11), vI vK (K 12), vI vK (K 13), vI vK (K 14), vI vK (K 15)] 55))).cons ((Below.heap_alloc (w.alloc (.cells #[vI vK (T 0), vI vK (T 1), vI vK (T 2), vI vK (T 3), vI vK (T 4), vI vK (T 5), vI vK (T 6), vI vK (T 7)] 52)) _ _ (by simp)).trans (heap_alloc_new w _))
  go_enter Tryz.func7, Tryz.ntmps7
  go_upto_region 3 with fail
  generalize ((w.alloc (.cells #[vI vK (T 0), vI vK (T 1), vI vK (T 2), vI vK (T 3), vI vK (T 4), vI vK (T 5), vI vK (T 6), vI vK (T 7)] 52)).alloc (.cells #[vI vK (K 0), vI vK (K 1), vI vK (K 2), vI vK (K 3), vI vK (K 4), vI vK (K 5), vI vK (K 6), vI vK (K 7), vI vK (K 8), vI vK (K 9), vI vK (K 10), vI vK (K 11), vI vK (K 12), vI vK (K 13), vI vK (K 14), vI vK (K 15)] 55)) = w0 at hK0 ⊢
  have HB0 : Hid (Below w.heap.size w w0) := hK0.1
  go_upto_region 5 with (first
    | (go_at_call 17; go_must (refine (HLET.out _ HB0.out).mono ?_; rintro e w1 ⟨rfl, hb1⟩))
    | (go_at_call 20; go_must (refine (HRUNS.out _ (HB0.out.trans (hb1.mono HB0.out.size))).mono ?_; rintro e w2 ⟨rfl, hb2⟩))
    | fail)
  have hK2 := (hK0.later hb1).later hb2
  clear hK0 HB0 hb1 hb2 HLET HRUNS
  go_step
  (refine wpList_valueOf rfl (.slice a0 len cap) w2 (by go_simp; try rfl) ?_); simp only [Act.put, siA, scZ, scS]
  refine wpList_callEx rfl 16 #[.slice a0 len cap] (by go_simp; try rfl) (HVER.out w2 hK2.1) ?_
  intro v3 w3 hq
  obtain ⟨t, x, rfl, hb3⟩ := hq
  have hK3 := hK2.later hb3
  simp only [Act.put, siA, scZ, scS]
  have hbE := hK3.1
  go_wp2_with fail
  go_ret
  exact ⟨rfl, hbE.alloc hbE.size _⟩
end Go.Proofs.YtednmkhdehlojaaGreatDoor
