/-
  What a call that gives a number out leaves, by the document's answer. Conditions: numbers are of 64 bits.
-/
import Derived.Test.YtegeiicginpdbaaDoorDocCall
import Derived.Test.YtegeiicginpdbaaDoorMach7
namespace Go.Proofs.YtegeiicginpdbaaDoor
open Go.ChangeShapes Go.WideShapes Go.ChangeAt Go.RowKit
attribute [local simp] drew_size drewN_size setCell_size
theorem own_kept {w w1 : World} {B : Nat} {e : TypeId} {z : Nat} {v : Value} {n : Nat} {xs : List Value} (h : w.ownsRow (B + 1) e z v n xs) (hk : Kept B w w1) : w1.ownsRow (B + 1) e z v n xs := by
  obtain ⟨h1, h2⟩ := h
  refine ⟨h1, ?_⟩
  rcases h2 with h2 | ⟨g, cap, cur, hv, hg, hh, r⟩
  · exact Or.inl h2
  · exact Or.inr ⟨g, cap, cur, hv, hg, by rw [hk.block g (Array.getElem?_eq_some_iff.1 hh).1 (fun e => by injection e with e; omega)]; exact hh, r⟩
theorem OutAt_alloc {w1 : World} {b : Nat} {e : TypeId} {z : Nat} {v : Value} {n : Nat} {xs : List Value} {X : Obj} (h : w1.ownsRow b e z v n xs) : (w1.drew.alloc X).ownsRow b e z v n xs := by
  have h' : w1.drew.ownsRow b e z v n xs := h
  exact h'.alloc X
theorem append_run {P : Program} {o : Oper} {u : Act} (W W' : World) (x y : Operand) (t : TypeId) (s1 s2 v : Value) (ho : o.op = .call { callee := .builtin .append, args := #[x, y], argTypes := #[t, t] }) (hx : u.eval x = s1) (hy : u.eval y = s2)
    (hr : (Builtin.append_ #[t, t] o.type #[s1, s2]).run P W = .ok v W') : (execOp u.eval o).run P W = .ok (.value v) W' := by
  unfold execOp
  simp only [ho, resolve, invoke, builtin, Sem.run_bind, Sem.run_pure, Result.andThen_ok, List.map_toArray, List.map_cons, List.map_nil, hx, hy, hr]
set_option maxHeartbeats 4000000 in
set_option maxRecDepth 100000 in
theorem dcall_emit (B : Nat) (m : Dox) (L : List Int) (fk fn fc : Int) (HA : Hid (m.reg 1 = ⟨fk, fn, fc⟩)) (x0 : (kd fk == 0) = false) (x1 : (kd fk != 110) = false) (hL : L.length < 50) (w : World) (hM : DoxAt w B m) (hO : OutAt w B m.out L) : Calls Tryd.prog 83 #[.pointer (some ⟨B, 0, none⟩), .int .i64 3] w fun e w' => e = .returned (.int .i64 0) ∧ Below B w w' ∧ ∃ v', DoxAt w' B (((m.putReg 0 ⟨1, 0, 0⟩).setOut v').loseTo 6) ∧ OutAt w' B v' (L ++ [fn]) := by
  have hB := hM.lt
  obtain ⟨h0, h1, h2⟩ := hM.reg3 (d := 1) (by decide)
  simp only [Nat.reduceMul, Nat.reduceAdd] at h0 h1 h2
  rw [HA.out] at h0 h1 h2
  obtain ⟨r0, r1, r2⟩ := hM.reg3 (d := 0) (by decide)
  simp only [Nat.reduceMul, Nat.reduceAdd] at r0 r1 r2
  have f0 := hM.frozen 0
  have f1 := hM.frozen 1
  have f2 := hM.frozen 2
  have t0 := hM.time
  have HO : Hid (OutAt w B m.out L) := hO
  clear hO
  obtain ⟨qa, cap, hq⟩ := HO.out.shape
  have o0 := hM.outv
  rw [hq] at o0
  have x4 : decide ((L.length : Int) < 50) = true := by simp; omega
  have HL : Hid (L.length < 50) := hL
  obtain ⟨k, hk⟩ : ∃ k, L.length = k := ⟨_, rfl⟩
  rw [hk] at hq o0 x4
  have HOV : Hid (some m.out = some (.slice qa k cap)) := congrArg some hq
  have HOW : Hid (w.ownsRow (B + 1) 2 1 (.slice qa k cap) k (L.map (Value.int .i64))) := by have := HO.out; unfold OutAt at this; rw [hq, hk] at this; exact this
  have HKL : Hid (L.length = k) := hk
  clear hL hq hk
  go_enter Tryd.func83, Tryd.ntmps83
  go_wp2_with fail
  have hM1 : DoxAt ((((w.setCell ⟨B, 0, none⟩ (.int .u8 110)).setCell ⟨B, 1, none⟩ (.int .i64 0)).setCell ⟨B, 2, none⟩ (.int .i64 0)).alloc (.cells #[.int .u8 (kd fk), .int .i64 fn, .int .i64 fc] 108)) B (m.putReg 0 ⟨1, 0, 0⟩) := (hM.put0n 0 0).alloc _
  generalize hW1 : (((w.setCell ⟨B, 0, none⟩ (.int .u8 110)).setCell ⟨B, 1, none⟩ (.int .i64 0)).setCell ⟨B, 2, none⟩ (.int .i64 0)).alloc (.cells #[.int .u8 (kd fk), .int .i64 fn, .int .i64 fc] 108) = w1 at hM1 ⊢
  have hX1 : w1.cell? ⟨w.heap.size, 1, none⟩ = some (.int .i64 fn) := by rw [← hW1]; simp [go_sem]
  have HKW : Hid (Kept B w w1) := by
    rw [← hW1]
    exact kept_alloc (kept_set (kept_set (kept_set (kept_refl B w) _ _) _ _) _ _) _
  have hz1 : w.heap.size + 1 = w1.heap.size := by rw [← hW1]; simp
  have hsz1 : w.heap.size < w1.heap.size := by omega
  have hB1 := hM1.lt
  have q106 : w1.cell? ⟨B, 106, none⟩ = some (.slice qa k cap) := hM1.outv.trans HOV.out
  clear hW1 h0 h1 h2 r0 r1 r2 f0 f1 f2 t0 hM o0
  obtain ⟨i0, hi, hz0, hzz1, hz2⟩ := info_parts Tryd.infoI
  obtain ⟨v5, w5, hr5, hown5, hgrow5, -⟩ := run_append_own (P := Tryd.prog) (w1.drew.alloc (.cells #[.int .i64 fn] 2)) (B + 1) 62 62 2 i0 (.int .i64 0) 1 8 Tryd.underlying62 hi hz0 hzz1 hz2 rfl (by decide) (.slice qa k cap) k (L.map (Value.int .i64)) (OutAt_alloc (own_kept HOW.out HKW.out)) ⟨w1.heap.size, 0, none⟩ 1 1 [.int .i64 fn] rfl (cell_one rfl) (by intro u hu; simp at hu; subst hu; rfl) (by have := HL.out; have := HKL.out; unfold maxLen; omega) (by have := HL.out; have := HKL.out; omega) (by show B + 1 ≤ (w1.heap.push _).size; rw [Array.size_push]; omega)
  obtain ⟨g5, cp5, hv5⟩ : ∃ g5 cp5, v5 = .slice (some ⟨g5, 0, none⟩) (k + 1) cp5 := by
    rcases hown5.2 with ⟨_, h⟩ | ⟨g, cap', _, h, _⟩
    · omega
    · exact ⟨g, cap', h⟩
  subst hv5
  have HR5 : Hid ((Builtin.append_ #[62, 62] 62 #[.slice qa k cap, .slice (some ⟨w1.heap.size, 0, none⟩) 1 1]).run Tryd.prog (w1.drew.alloc (.cells #[.int .i64 fn] 2)) = .ok (.slice (some ⟨g5, 0, none⟩) (k + 1) cp5) w5) := hr5
  have hownW := (own_kept HOW.out HKW.out)
  have hM5 : DoxAt w5 B (m.putReg 0 ⟨1, 0, 0⟩) := (hgrow5.block B (by show B < (w1.heap.push _).size; rw [Array.size_push]; omega) (own_above hownW)).trans (hM1.drew.alloc _)
  have hX5 : w5.cell? ⟨w.heap.size, 1, none⟩ = some (.int .i64 fn) := by
    refine (World.cell?_of_block (a := ⟨w.heap.size, 1, none⟩) (w := (w1.drew.alloc (.cells #[.int .i64 fn] 2))) (hgrow5.block w.heap.size (by show w.heap.size < (w1.heap.push _).size; rw [Array.size_push]; omega) ?_)).trans ?_
    · intro hh
      have := HOW.out.lt w.heap.size hh.symm
      omega
    · exact (World.cell?_of_block (a := ⟨w.heap.size, 1, none⟩) (Below.heap_alloc w1.drew _ w.heap.size hsz1)).trans hX1
  have hB5 := hM5.lt
  have k0 := hM5.outv
  have kf := hM5.frozen 106
  have hBW5 : Below B w w5 := ((kept_under HKW.out hB).trans (((Below.refl B w1).drew).alloc (by show B ≤ w1.heap.size; omega) _)).grown hgrow5 (by show B ≤ (w1.heap.push _).size; rw [Array.size_push]; omega) (fun j hj => by have := hownW.lt j hj; omega)
  have hM6 : DoxAt (w5.setCell ⟨B, 106, none⟩ (.slice (some ⟨g5, 0, none⟩) (k + 1) cp5)) B ((m.putReg 0 ⟨1, 0, 0⟩).setOut (.slice (some ⟨g5, 0, none⟩) (k + 1) cp5)) := hM5.putOut _
  have hS : (∃ u, DoxAt w1.drew B ((m.putReg 0 ⟨1, 0, 0⟩).setOut u)) ∧ w1.drew.cell? ⟨w.heap.size, 1, none⟩ = some (.int .i64 fn) := ⟨⟨m.out, hM1⟩, hX1⟩
  have hS8 : (∃ u, DoxAt (w1.drew.alloc (.cells #[.int .i64 fn] 2)) B ((m.putReg 0 ⟨1, 0, 0⟩).setOut u)) ∧ (w1.drew.alloc (.cells #[.int .i64 fn] 2)).cell? ⟨w.heap.size, 1, none⟩ = some (.int .i64 fn) := ⟨⟨m.out, hM1.drew.alloc _⟩, (World.cell?_of_block (a := ⟨w.heap.size, 1, none⟩) (Below.heap_alloc w1.drew _ w.heap.size hsz1)).trans hX1⟩
  have hS5 : (∃ u, DoxAt w5 B ((m.putReg 0 ⟨1, 0, 0⟩).setOut u)) ∧ w5.cell? ⟨w.heap.size, 1, none⟩ = some (.int .i64 fn) := ⟨⟨m.out, hM5⟩, hX5⟩
  have hS6 : (∃ u, DoxAt (w5.setCell ⟨B, 106, none⟩ (.slice (some ⟨g5, 0, none⟩) (k + 1) cp5)) B ((m.putReg 0 ⟨1, 0, 0⟩).setOut u)) ∧ (w5.setCell ⟨B, 106, none⟩ (.slice (some ⟨g5, 0, none⟩) (k + 1) cp5)).cell? ⟨w.heap.size, 1, none⟩ = some (.int .i64 fn) := ⟨⟨_, hM6⟩, (World.cell?_of_block (a := ⟨w.heap.size, 1, none⟩) (Below.heap_setCell w5 _ _ w.heap.size (by show w.heap.size ≠ B; omega))).trans hX5⟩
  have HOUT : Hid (OutAt (w5.setCell ⟨B, 106, none⟩ (.slice (some ⟨g5, 0, none⟩) (k + 1) cp5)) B (.slice (some ⟨g5, 0, none⟩) (k + 1) cp5) (L ++ [fn])) := by
    show World.ownsRow _ _ _ _ _ _ _
    rw [List.length_append, HKL.out, List.map_append]
    exact ownsRow_setCell_below hown5 (Nat.lt_succ_self B) _
  have HBW : Hid (Below B w (w5.setCell ⟨B, 106, none⟩ (.slice (some ⟨g5, 0, none⟩) (k + 1) cp5))) := by
    have hr : B ≤ (⟨B, 106, none⟩ : Addr).block := Nat.le_refl _
    exact hBW5.setCell hr _
  clear hr5 hown5 hgrow5 hownW hBW5 HKW HOW
  refine wp_region_held_drew (S := fun W => (∃ u, DoxAt W B ((m.putReg 0 ⟨1, 0, 0⟩).setOut u)) ∧ W.cell? ⟨w.heap.size, 1, none⟩ = some (.int .i64 fn)) (by kernel_rfl) hS fun _ => ?_
  change wpAnyH _ _ _ _ _ 14 (Array.replicate 14 false) _ _
  refine takeH (i := 0) (some 75) (.pointer (some ⟨B, 0, none⟩)) rfl rfl (by kernel_rfl) (by kernel_rfl) (by kernel_rfl) (fun _ _ _ h => h) (by rfl) (fun W hW => ?_) hS ?_
  · go_simp
  simp only [Act.put, List.setIfInBounds_toArray, List.set_cons_zero, List.set_cons_succ]
  refine takeH (i := 1) (some 76) (.pointer (some ⟨B, 0, none⟩)) rfl rfl (by kernel_rfl) (by kernel_rfl) (by kernel_rfl) (fun _ _ _ h => h) (by rfl) (fun W hW => ?_) hS ?_
  · go_simp
  simp only [Act.put, List.setIfInBounds_toArray, List.set_cons_zero, List.set_cons_succ]
  refine takeH (i := 2) (some 77) (.pointer (some ⟨B, 0, none⟩)) rfl rfl (by kernel_rfl) (by kernel_rfl) (by kernel_rfl) (fun _ _ _ h => h) (by rfl) (fun W hW => ?_) hS ?_
  · go_simp
  simp only [Act.put, List.setIfInBounds_toArray, List.set_cons_zero, List.set_cons_succ]
  refine takeH (i := 3) (some 78) (.pointer (some ⟨B, 89, none⟩)) rfl rfl (by kernel_rfl) (by kernel_rfl) (by kernel_rfl) (fun _ _ _ h => h) (by rfl) (fun W hW => ?_) hS ?_
  · go_simp
  simp only [Act.put, List.setIfInBounds_toArray, List.set_cons_zero, List.set_cons_succ]
  refine takeH (i := 4) (some 79) (.pointer (some ⟨B, 106, none⟩)) rfl rfl (by kernel_rfl) (by kernel_rfl) (by kernel_rfl) (fun _ _ _ h => h) (by rfl) (fun W hW => ?_) hS ?_
  · go_simp
  simp only [Act.put, List.setIfInBounds_toArray, List.set_cons_zero, List.set_cons_succ]
  refine takeH (i := 6) (some 81) (.pointer (some ⟨w.heap.size, 1, none⟩)) rfl rfl (by kernel_rfl) (by kernel_rfl) (by kernel_rfl) (fun _ _ _ h => h) (by rfl) (fun W hW => ?_) hS ?_
  · go_simp
  simp only [Act.put, List.setIfInBounds_toArray, List.set_cons_zero, List.set_cons_succ]
  refine takeH (i := 7) (some 82) (.int .i64 fn) rfl rfl (by kernel_rfl) (by kernel_rfl) (by kernel_rfl) (fun _ _ _ h => h) (by rfl) (fun W hW => ?_) hS ?_
  · have y0 := hW.2
    go_simp
  simp only [Act.put, List.setIfInBounds_toArray, List.set_cons_zero, List.set_cons_succ]
  refine wpAnyH_ready (rs := [5, 8]) (by kernel_rfl) (by simp) ?_
  refine stepH (some 80) (.slice qa k cap) w1.drew rfl rfl (by rfl) ?_ hS ?_ (stepH (some 83) (.slice (some ⟨w1.heap.size, 0, none⟩) 1 1) (w1.drew.alloc (.cells #[.int .i64 fn] 2)) rfl rfl (by rfl) ?_ hS8 ?_ AllReadyH.nil)
  · go_simp
  · simp only [Act.put, List.setIfInBounds_toArray, List.set_cons_zero, List.set_cons_succ]
    refine wpAnyH_ready (rs := [8]) (by kernel_rfl) (by simp) ?_
    refine stepH (some 83) (.slice (some ⟨w1.heap.size, 0, none⟩) 1 1) (w1.drew.alloc (.cells #[.int .i64 fn] 2)) rfl rfl (by rfl) ?_ hS8 ?_ AllReadyH.nil
    · go_simp
    simp only [Act.put, List.setIfInBounds_toArray, List.set_cons_zero, List.set_cons_succ]
    refine wpAnyH_ready (rs := [9]) (by kernel_rfl) (by simp) ?_
    refine stepH (some 84) (.slice (some ⟨g5, 0, none⟩) (k + 1) cp5) w5 rfl rfl (by rfl) ?_ hS5 ?_ AllReadyH.nil
    · exact append_run _ _ _ _ _ _ _ _ rfl rfl rfl HR5.out
    simp only [Act.put, List.setIfInBounds_toArray, List.set_cons_zero, List.set_cons_succ]
    refine takeH (i := 10) (some 85) (.pointer (some ⟨B, 0, none⟩)) rfl rfl (by kernel_rfl) (by kernel_rfl) (by kernel_rfl) (fun _ _ _ h => h) (by rfl) (fun W hW => ?_) hS5 ?_
    · go_simp
    simp only [Act.put, List.setIfInBounds_toArray, List.set_cons_zero, List.set_cons_succ]
    refine takeH (i := 11) (some 86) (.pointer (some ⟨B, 89, none⟩)) rfl rfl (by kernel_rfl) (by kernel_rfl) (by kernel_rfl) (fun _ _ _ h => h) (by rfl) (fun W hW => ?_) hS5 ?_
    · go_simp
    simp only [Act.put, List.setIfInBounds_toArray, List.set_cons_zero, List.set_cons_succ]
    refine takeH (i := 12) (some 87) (.pointer (some ⟨B, 106, none⟩)) rfl rfl (by kernel_rfl) (by kernel_rfl) (by kernel_rfl) (fun _ _ _ h => h) (by rfl) (fun W hW => ?_) hS5 ?_
    · go_simp
    simp only [Act.put, List.setIfInBounds_toArray, List.set_cons_zero, List.set_cons_succ]
    refine wpAnyH_ready (rs := [13]) (by kernel_rfl) (by simp) ?_
    refine stepS (w5.setCell ⟨B, 106, none⟩ (.slice (some ⟨g5, 0, none⟩) (k + 1) cp5)) rfl rfl (by rfl) ?_ hS6 ?_ AllReadyH.nil
    · go_simp
    simp only [Act.put]
    refine wpAnyH_done (by kernel_rfl) ?_ _
    go_wp2_with fail
    go_loopw [6] (fun ix wr => ∃ j : Nat, Hid (1 ≤ j ∧ j ≤ 6 ∧ ix = .int .i64 j ∧ DoxAt wr B (((m.putReg 0 ⟨1, 0, 0⟩).setOut (.slice (some ⟨g5, 0, none⟩) (k + 1) cp5)).loseTo j) ∧ Kept B (w5.setCell ⟨B, 106, none⟩ (.slice (some ⟨g5, 0, none⟩) (k + 1) cp5)) wr)) (fun ix _ => 6 - (intOf ix).toNat)
    case atStart => exact ⟨1, by decide, by decide, rfl, by rw [Dox.lose_one]; exact hM6, kept_refl _ _⟩
    case round =>
      obtain ⟨j, H⟩ := hrel
      have hk1 := H.out.1
      have hk6 := H.out.2.1
      have hix := H.out.2.2.1
      have hMr := H.out.2.2.2.1
      have HKr : Hid (Kept B (w5.setCell ⟨B, 106, none⟩ (.slice (some ⟨g5, 0, none⟩) (k + 1) cp5)) wr) := H.out.2.2.2.2
      clear H
      subst hix
      have hBr := hMr.lt
      have hk0 : (0 : Int) ≤ (j : Int) := by omega
      by_cases hlt : j < 6
      · obtain ⟨a0, a1, a2⟩ := hMr.reg3 (d := j) (by omega)
        have g0 := hMr.frozen (j * 3)
        have g1 := hMr.frozen (j * 3 + 1)
        have g2 := hMr.frozen (j * 3 + 2)
        have hk5 : (j : Int) ≤ 5 := by omega
        go_wp2
        go_roundw
        case rel =>
          refine ⟨j + 1, by omega, by omega, by go_num, ?_, ?_⟩
          · rw [← Dox.lose_next _ j hk1]
            with_reducible exact hMr.clear3 (by omega)
          · have HK := HKr.out
            repeat' first | with_reducible exact HK | with_reducible refine kept_set ?_ _ _
        case measure => simp [intOf]; omega
      · obtain rfl : j = 6 := by omega
        go_wp2
        go_ret
        exact ⟨rfl, HBW.out.trans (kept_under HKr.out hM6.lt), _, hMr, HOUT.out.kept HKr.out⟩
  · go_simp
  · simp only [Act.put, List.setIfInBounds_toArray, List.set_cons_zero, List.set_cons_succ]
    refine wpAnyH_ready (rs := [5]) (by kernel_rfl) (by simp) ?_
    refine stepH (some 80) (.slice qa k cap) (w1.drew.alloc (.cells #[.int .i64 fn] 2)) rfl rfl (by rfl) ?_ hS8 ?_ AllReadyH.nil
    · go_simp
    simp only [Act.put, List.setIfInBounds_toArray, List.set_cons_zero, List.set_cons_succ]
    refine wpAnyH_ready (rs := [9]) (by kernel_rfl) (by simp) ?_
    refine stepH (some 84) (.slice (some ⟨g5, 0, none⟩) (k + 1) cp5) w5 rfl rfl (by rfl) ?_ hS5 ?_ AllReadyH.nil
    · exact append_run _ _ _ _ _ _ _ _ rfl rfl rfl HR5.out
    simp only [Act.put, List.setIfInBounds_toArray, List.set_cons_zero, List.set_cons_succ]
    refine takeH (i := 10) (some 85) (.pointer (some ⟨B, 0, none⟩)) rfl rfl (by kernel_rfl) (by kernel_rfl) (by kernel_rfl) (fun _ _ _ h => h) (by rfl) (fun W hW => ?_) hS5 ?_
    · go_simp
    simp only [Act.put, List.setIfInBounds_toArray, List.set_cons_zero, List.set_cons_succ]
    refine takeH (i := 11) (some 86) (.pointer (some ⟨B, 89, none⟩)) rfl rfl (by kernel_rfl) (by kernel_rfl) (by kernel_rfl) (fun _ _ _ h => h) (by rfl) (fun W hW => ?_) hS5 ?_
    · go_simp
    simp only [Act.put, List.setIfInBounds_toArray, List.set_cons_zero, List.set_cons_succ]
    refine takeH (i := 12) (some 87) (.pointer (some ⟨B, 106, none⟩)) rfl rfl (by kernel_rfl) (by kernel_rfl) (by kernel_rfl) (fun _ _ _ h => h) (by rfl) (fun W hW => ?_) hS5 ?_
    · go_simp
    simp only [Act.put, List.setIfInBounds_toArray, List.set_cons_zero, List.set_cons_succ]
    refine wpAnyH_ready (rs := [13]) (by kernel_rfl) (by simp) ?_
    refine stepS (w5.setCell ⟨B, 106, none⟩ (.slice (some ⟨g5, 0, none⟩) (k + 1) cp5)) rfl rfl (by rfl) ?_ hS6 ?_ AllReadyH.nil
    · go_simp
    simp only [Act.put]
    refine wpAnyH_done (by kernel_rfl) ?_ _
    go_wp2_with fail
    go_loopw [6] (fun ix wr => ∃ j : Nat, Hid (1 ≤ j ∧ j ≤ 6 ∧ ix = .int .i64 j ∧ DoxAt wr B (((m.putReg 0 ⟨1, 0, 0⟩).setOut (.slice (some ⟨g5, 0, none⟩) (k + 1) cp5)).loseTo j) ∧ Kept B (w5.setCell ⟨B, 106, none⟩ (.slice (some ⟨g5, 0, none⟩) (k + 1) cp5)) wr)) (fun ix _ => 6 - (intOf ix).toNat)
    case atStart => exact ⟨1, by decide, by decide, rfl, by rw [Dox.lose_one]; exact hM6, kept_refl _ _⟩
    case round =>
      obtain ⟨j, H⟩ := hrel
      have hk1 := H.out.1
      have hk6 := H.out.2.1
      have hix := H.out.2.2.1
      have hMr := H.out.2.2.2.1
      have HKr : Hid (Kept B (w5.setCell ⟨B, 106, none⟩ (.slice (some ⟨g5, 0, none⟩) (k + 1) cp5)) wr) := H.out.2.2.2.2
      clear H
      subst hix
      have hBr := hMr.lt
      have hk0 : (0 : Int) ≤ (j : Int) := by omega
      by_cases hlt : j < 6
      · obtain ⟨a0, a1, a2⟩ := hMr.reg3 (d := j) (by omega)
        have g0 := hMr.frozen (j * 3)
        have g1 := hMr.frozen (j * 3 + 1)
        have g2 := hMr.frozen (j * 3 + 2)
        have hk5 : (j : Int) ≤ 5 := by omega
        go_wp2
        go_roundw
        case rel =>
          refine ⟨j + 1, by omega, by omega, by go_num, ?_, ?_⟩
          · rw [← Dox.lose_next _ j hk1]
            with_reducible exact hMr.clear3 (by omega)
          · have HK := HKr.out
            repeat' first | with_reducible exact HK | with_reducible refine kept_set ?_ _ _
        case measure => simp [intOf]; omega
      · obtain rfl : j = 6 := by omega
        go_wp2
        go_ret
        exact ⟨rfl, HBW.out.trans (kept_under HKr.out hM6.lt), _, hMr, HOUT.out.kept HKr.out⟩
end Go.Proofs.YtegeiicginpdbaaDoor
