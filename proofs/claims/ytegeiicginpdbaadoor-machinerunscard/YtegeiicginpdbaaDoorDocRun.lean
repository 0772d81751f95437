/-
  What the document's Run answers, where something is wrong with a list of steps. Conditions: the list's cells hold steps; numbers are of 64 bits.
-/
import Derived.Test.YtegeiicginpdbaaDoorMachRun
namespace Go.Proofs.YtegeiicginpdbaaDoor
open Go.ChangeShapes Go.WideShapes Go.ChangeAt Go.RowKit
attribute [local simp] drew_size drewN_size setCell_size
theorem Tryd.infoDan : (Tryd.prog.info? 64).map (·.size) = some 19 := by kernel_rfl
theorem Tryd.infoFlt : (Tryd.prog.info? 29).map (·.size) = some 2 := by kernel_rfl
theorem boxA (w : World) (X Y Z U : Obj) : ((((w.alloc X).alloc Y).alloc Z).alloc U).heap[w.heap.size]? = some X := by
  rw [Below.heap_alloc (((w.alloc X).alloc Y).alloc Z) U _ (by first | (simp; done) | (simp; omega))]; exact first_box w X Y Z
theorem boxB (w : World) (X Y Z U : Obj) : ((((w.alloc X).alloc Y).alloc Z).alloc U).heap[w.heap.size + 1]? = some Y := by
  rw [Below.heap_alloc (((w.alloc X).alloc Y).alloc Z) U _ (by first | (simp; done) | (simp; omega))]; exact second_box w X Y Z
theorem boxC (w : World) (X Y Z U : Obj) : ((((w.alloc X).alloc Y).alloc Z).alloc U).heap[w.heap.size + 1 + 1]? = some Z := by
  rw [Below.heap_alloc (((w.alloc X).alloc Y).alloc Z) U _ (by simp)]; exact third_box w X Y Z
theorem boxD (w : World) (X Y Z U : Obj) : ((((w.alloc X).alloc Y).alloc Z).alloc U).heap[w.heap.size + 1 + 1 + 1]? = some U := by
  have := heap_alloc_new (((w.alloc X).alloc Y).alloc Z) U
  simp only [World.size_alloc] at this
  exact this
theorem dan_results (tmps : Array Value) (w' : World) (g g2 : Nat) (cs fs : Array Value) (h8 : tmps.getD 8 undef = .pointer (some ⟨g, 0, none⟩)) (h9 : tmps.getD 9 undef = .pointer (some ⟨g2, 0, none⟩)) (hg : w'.heap[g]? = some (.cells cs 64 (0, 0))) (hs : cs.size = 19) (hg2 : w'.heap[g2]? = some (.cells fs 29 (0, 0))) (hs2 : fs.size = 2) :
    (results Tryd.f27 tmps).run Tryd.prog w' = .ok (.tuple #[.agg cs, .agg fs]) w' := by
  have h8' : tmps[8]?.getD undef = .pointer (some ⟨g, 0, none⟩) := by simpa using h8
  have h9' : tmps[9]?.getD undef = .pointer (some ⟨g2, 0, none⟩) := by simpa using h9
  have hl := run_loadVar_row (P := Tryd.prog) w' g 64 64 cs (0, 0) _ hg Tryd.underlying64 rfl (by rw [Tryd.infoDan, hs])
  have hl2 := run_loadVar_row (P := Tryd.prog) w' g2 29 29 fs (0, 0) _ hg2 Tryd.underlying29 rfl (by rw [Tryd.infoFlt, hs2])
  simp [results, Tryd.results27, asAddr, h8', h9', hl, hl2]
theorem store_any {o : Oper} {a : Act} (W : World) (x y : Operand) (g : Nat) (ty : TypeId) (old cs : Array Value) (ho : o.op = .store ty x y) (hx : a.eval x = .pointer (some ⟨g, 0, none⟩)) (hy : a.eval y = .agg cs) (hi : (Tryd.prog.info? ty).map (·.size) = some cs.size) (h : W.heap[g]? = some (.cells old ty (0, 0))) (hs : old.size = cs.size) (h1 : cs.all (·.oneCell') = true) : (execOp a.eval o).run Tryd.prog W = .ok .skip (W.setRow g cs) := by
  unfold execOp
  simp only [ho, hx, hy, Instr.storeAt, Instr.sureAddr, Sem.run_bind, Sem.run_pure, Result.andThen_ok, run_storeVar_row W g ty ty old cs h hi hs h1]
theorem flt_one (E p : Int) : (#[.int .i64 E, .int .i64 p] : Array Value).all (·.oneCell') = true := by kernel_rfl
theorem load_flt (W : World) (g : Nat) (fs : Array Value) (hg : W.heap[g]? = some (.cells fs 29 (0, 0))) (hs : fs.size = 2) : (loadVar 29 ⟨g, 0, none⟩).run Tryd.prog W = .ok (.agg fs) W :=
  run_loadVar_row (P := Tryd.prog) W g 29 29 fs (0, 0) _ hg Tryd.underlying29 rfl (by rw [Tryd.infoFlt, hs])
def DS (x g g2 : Nat) (fs : Array Value) (W : World) : Prop := W.heap[x]? = some (.cells fs 29 (0, 0)) ∧ W.heap[g]? = some (.cells zeroCs 64 (0, 0)) ∧ ∃ us : Array Value, us.size = 2 ∧ W.heap[g2]? = some (.cells us 29 (0, 0))
theorem load_any {o : Oper} {a : Act} (W : World) (x : Operand) (g : Nat) (ty : TypeId) (cs : Array Value) (ho : o.op = .load ty x) (hx : a.eval x = .pointer (some ⟨g, 0, none⟩)) (hl : (loadVar ty ⟨g, 0, none⟩).run Tryd.prog W = .ok (.agg cs) W) : (execOp a.eval o).run Tryd.prog W = .ok (.value (.agg cs)) W := by
  unfold execOp
  simp only [ho, hx, Instr.loadAt, Instr.sureAddr, Sem.run_bind, Sem.run_pure, Result.andThen_ok, hl]
set_option maxHeartbeats 4000000 in
set_option maxRecDepth 100000 in
theorem drun_err (l : Value) (T K : Nat → Int) (time : Int) (w : World) (E p : Int) (hE : (E != 0) = true) (HC : Hid (∀ W : World, Below w.heap.size w W → Calls Tryd.prog 9 #[l] W fun e w' => e = .returned (.agg #[.int .i64 E, .int .i64 p]) ∧ Below W.heap.size W w')) :
    Calls Tryd.prog 27 #[l, .agg #[.int .i64 (T 0), .int .i64 (T 1), .int .i64 (T 2), .int .i64 (T 3), .int .i64 (T 4), .int .i64 (T 5), .int .i64 (T 6), .int .i64 (T 7)], .agg #[.int .i64 (K 0), .int .i64 (K 1), .int .i64 (K 2), .int .i64 (K 3), .int .i64 (K 4), .int .i64 (K 5), .int .i64 (K 6), .int .i64 (K 7), .int .i64 (K 8), .int .i64 (K 9), .int .i64 (K 10), .int .i64 (K 11), .int .i64 (K 12), .int .i64 (K 13), .int .i64 (K 14), .int .i64 (K 15)], .int .i64 time] w fun e w' => e = .returned (.tuple #[zeroRan, .agg #[.int .i64 E, .int .i64 p]]) ∧ Below w.heap.size w w' := by
  have HB : Hid (Below w.heap.size w ((((w.alloc (.cells #[.int .i64 (T 0), .int .i64 (T 1), .int .i64 (T 2), .int .i64 (T 3), .int .i64 (T 4), .int .i64 (T 5), .int .i64 (T 6), .int .i64 (T 7)] 58)).alloc (.cells #[.int .i64 (K 0), .int .i64 (K 1), .int .i64 (K 2), .int .i64 (K 3), .int .i64 (K 4), .int .i64 (K 5), .int .i64 (K 6), .int .i64 (K 7), .int .i64 (K 8), .int .i64 (K 9), .int .i64 (K 10), .int .i64 (K 11), .int .i64 (K 12), .int .i64 (K 13), .int .i64 (K 14), .int .i64 (K 15)] 61)).alloc (.cells zeroCs 64)).alloc (.cells #[.int .i64 0, .int .i64 0] 29))) := (((((Below.refl _ _).alloc (Nat.le_refl _) _).alloc (by simp) _).alloc (by simp; omega) _).alloc (by simp; omega) _)
  have HT : Hid (((((w.alloc (.cells #[.int .i64 (T 0), .int .i64 (T 1), .int .i64 (T 2), .int .i64 (T 3), .int .i64 (T 4), .int .i64 (T 5), .int .i64 (T 6), .int .i64 (T 7)] 58)).alloc (.cells #[.int .i64 (K 0), .int .i64 (K 1), .int .i64 (K 2), .int .i64 (K 3), .int .i64 (K 4), .int .i64 (K 5), .int .i64 (K 6), .int .i64 (K 7), .int .i64 (K 8), .int .i64 (K 9), .int .i64 (K 10), .int .i64 (K 11), .int .i64 (K 12), .int .i64 (K 13), .int .i64 (K 14), .int .i64 (K 15)] 61)).alloc (.cells zeroCs 64)).alloc (.cells #[.int .i64 0, .int .i64 0] 29)).heap[w.heap.size + 1 + 1]? = some (.cells zeroCs 64 (0, 0))) := boxC _ _ _ _ _
  have HU : Hid (((((w.alloc (.cells #[.int .i64 (T 0), .int .i64 (T 1), .int .i64 (T 2), .int .i64 (T 3), .int .i64 (T 4), .int .i64 (T 5), .int .i64 (T 6), .int .i64 (T 7)] 58)).alloc (.cells #[.int .i64 (K 0), .int .i64 (K 1), .int .i64 (K 2), .int .i64 (K 3), .int .i64 (K 4), .int .i64 (K 5), .int .i64 (K 6), .int .i64 (K 7), .int .i64 (K 8), .int .i64 (K 9), .int .i64 (K 10), .int .i64 (K 11), .int .i64 (K 12), .int .i64 (K 13), .int .i64 (K 14), .int .i64 (K 15)] 61)).alloc (.cells zeroCs 64)).alloc (.cells #[.int .i64 0, .int .i64 0] 29)).heap[w.heap.size + 1 + 1 + 1]? = some (.cells #[.int .i64 0, .int .i64 0] 29 (0, 0))) := boxD _ _ _ _ _
  go_enter Tryd.func27, Tryd.ntmps27
  go_wp2_with (first
    | (go_at_call 9; go_must (refine (HC.out _ HB.out).mono ?_; rintro e w1 ⟨rfl, hb1⟩; have HZ1 : Hid (w1.heap[w.heap.size + 1 + 1]? = some (.cells zeroCs 64 (0, 0))) := (hb1.block (w.heap.size + 1 + 1) (by first | (simp; done) | (simp; omega))).trans HT.out; have HF1 : Hid (w1.heap[w.heap.size + 1 + 1 + 1]? = some (.cells #[.int .i64 0, .int .i64 0] 29 (0, 0))) := (hb1.block (w.heap.size + 1 + 1 + 1) (by first | (simp; done) | (simp; omega))).trans HU.out; have HBW : Hid (Below w.heap.size w w1) := HB.out.trans (hb1.mono HB.out.size); have HS1 : Hid (w.heap.size + 1 + 1 + 1 < w1.heap.size) := (by have := hb1.size; simp at this; show w.heap.size + 1 + 1 + 1 < w1.heap.size; omega); clear hb1))
    | fail)
  clear HC HB HT HU
  have hN : (w1.alloc (.cells #[.int .i64 E, .int .i64 p] 29)).heap[w1.heap.size]? = some (.cells #[.int .i64 E, .int .i64 p] 29 (0, 0)) := heap_alloc_new w1 _
  have hZ : (w1.alloc (.cells #[.int .i64 E, .int .i64 p] 29)).heap[w.heap.size + 1 + 1]? = some (.cells zeroCs 64 (0, 0)) := (Below.heap_alloc w1 _ _ (by have := HS1.out; omega)).trans HZ1.out
  have hF : (w1.alloc (.cells #[.int .i64 E, .int .i64 p] 29)).heap[w.heap.size + 1 + 1 + 1]? = some (.cells #[.int .i64 0, .int .i64 0] 29 (0, 0)) := (Below.heap_alloc w1 _ _ HS1.out).trans HF1.out
  have HBA : Hid (Below w.heap.size w (w1.alloc (.cells #[.int .i64 E, .int .i64 p] 29))) := HBW.out.alloc HBW.out.size _
  have hlt := HS1.out
  generalize w1.alloc (.cells #[.int .i64 E, .int .i64 p] 29) = w2 at hN hZ hF HBA ⊢
  refine wp_region_held_drew (S := DS w1.heap.size (w.heap.size + 1 + 1) (w.heap.size + 1 + 1 + 1) #[.int .i64 E, .int .i64 p]) (by kernel_rfl) ⟨hN, hZ, _, rfl, hF⟩ fun hS => ?_
  change wpAnyH _ _ _ _ _ 4 (Array.replicate 4 false) _ _
  refine takeH (i := 0) (some 21) (.agg #[.int .i64 0, .int .i64 0, .int .i64 0, .int .i64 0, .int .i64 0, .int .i64 0, .int .i64 0, .int .i64 0, .int .i64 0, .int .i64 0, .int .i64 0, .int .i64 0, .int .i64 0, .int .i64 0, .int .i64 0, .int .i64 0, .int .i64 0, .slice none 0 0, .int .i64 0]) rfl rfl (by kernel_rfl) (by kernel_rfl) (by kernel_rfl) (fun _ _ _ h => h) (by rfl) (fun W hW => ?_) hS ?_
  · go_simp
  simp only [Act.put, List.setIfInBounds_toArray, List.set_cons_zero, List.set_cons_succ]
  refine takeH (i := 1) (some 22) (.agg #[.int .i64 E, .int .i64 p]) rfl rfl (by kernel_rfl) (by kernel_rfl) (by kernel_rfl) (fun _ _ _ h => h) (by rfl) (fun W hW => ?_) hS ?_
  · exact load_any W (.tmp 10) w1.heap.size 29 _ rfl rfl (load_flt W _ _ hW.1 rfl)
  simp only [Act.put, List.setIfInBounds_toArray, List.set_cons_zero, List.set_cons_succ]
  refine wpAnyH_ready (rs := [2]) (by kernel_rfl) (by simp) ?_
  have hA : DS w1.heap.size (w.heap.size + 1 + 1) (w.heap.size + 1 + 1 + 1) #[.int .i64 E, .int .i64 p] (w2.drew.setRow (w.heap.size + 1 + 1) zeroCs) := ⟨(setRow_other w2.drew _ _ _ (by omega)).trans hN, setRow_heap w2.drew _ zeroCs _ _ _ hZ, _, rfl, (setRow_other w2.drew _ _ _ (by omega)).trans hF⟩
  have hA2 : DS w1.heap.size (w.heap.size + 1 + 1) (w.heap.size + 1 + 1 + 1) #[.int .i64 E, .int .i64 p] ((w2.drew.setRow (w.heap.size + 1 + 1) zeroCs).setRow (w.heap.size + 1 + 1 + 1) #[.int .i64 E, .int .i64 p]) := ⟨(setRow_other _ _ _ _ (by omega)).trans hA.1, (setRow_other _ _ _ _ (by omega)).trans hA.2.1, _, rfl, setRow_heap _ _ #[.int .i64 0, .int .i64 0] _ _ _ ((setRow_other w2.drew _ _ _ (by omega)).trans hF)⟩
  refine stepS (w2.drew.setRow (w.heap.size + 1 + 1) zeroCs) rfl rfl (by rfl) ?_ hA ?_ AllReadyH.nil
  · exact store_any _ _ _ _ _ zeroCs zeroCs rfl rfl rfl Tryd.infoDan hZ rfl zeroCs_one
  simp only [Act.put]
  refine wpAnyH_ready (rs := [3]) (by kernel_rfl) (by simp) ?_
  refine stepS ((w2.drew.setRow (w.heap.size + 1 + 1) zeroCs).setRow (w.heap.size + 1 + 1 + 1) #[.int .i64 E, .int .i64 p]) rfl rfl (by rfl) ?_ hA2 ?_ AllReadyH.nil
  · exact store_any _ _ _ _ _ #[.int .i64 0, .int .i64 0] _ rfl rfl rfl Tryd.infoFlt ((setRow_other w2.drew _ _ _ (by omega)).trans hF) rfl (flt_one E p)
  simp only [Act.put]
  refine wpAnyH_done (by kernel_rfl) ?_ _
  go_wp2
  exact bodyPost_ret (v := .tuple #[zeroRan, .agg #[.int .i64 E, .int .i64 p]]) (dan_results _ _ (w.heap.size + 1 + 1) (w.heap.size + 1 + 1 + 1) zeroCs _ rfl rfl hA2.2.1 rfl (setRow_heap _ _ #[.int .i64 0, .int .i64 0] _ _ _ ((setRow_other w2.drew _ _ _ (by omega)).trans hF)) rfl) rfl ⟨rfl, below_row (below_row HBA.out.drew (by omega) _) (by omega) _⟩
end Go.Proofs.YtegeiicginpdbaaDoor
