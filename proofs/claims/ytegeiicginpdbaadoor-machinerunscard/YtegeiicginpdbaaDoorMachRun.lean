/-
  What package machine's Run answers: by the plain machine. Conditions: the list's cells hold steps; numbers are of 64 bits.
-/
import Derived.Test.YtegeiicginpdbaaDoorMachGo
import Derived.Test.YtegeiicginpdbaaDoorMachBegin
import Derived.BigRegion
import Derived.Deep.MidRow
import Derived.Test.YtegeiicginpdbaaDoorRegionHand
namespace Go.Proofs.YtegeiicginpdbaaDoor
open Go.ChangeShapes Go.WideShapes Go.ChangeAt Go.RowKit
attribute [local simp] drew_size drewN_size setCell_size
def zeroCs : Array Value := #[.int .i64 0, .int .i64 0, .int .i64 0, .int .i64 0, .int .i64 0, .int .i64 0, .int .i64 0, .int .i64 0, .int .i64 0, .int .i64 0, .int .i64 0, .int .i64 0, .int .i64 0, .int .i64 0, .int .i64 0, .int .i64 0, .int .i64 0, .slice none 0 0, .int .i64 0]
def zeroRan : Value := .agg zeroCs
theorem Tryd.infoK : (Tryd.prog.info? 61).map (·.size) = some 16 := by kernel_rfl
theorem Tryd.infoRan : (Tryd.prog.info? 67).map (·.size) = some 19 := by kernel_rfl
theorem store_ran (W : World) (g : Nat) (cs : Array Value) (h : W.heap[g]? = some (.cells zeroCs 67 (0, 0))) (hs : cs.size = 19) (h1 : cs.all (·.oneCell') = true) : (Instr.storeAt 67 (.pointer (some ⟨g, 0, none⟩)) (.agg cs)).run Tryd.prog W = .ok () (W.setRow g cs) := by
  simp only [Instr.storeAt, Instr.sureAddr, Sem.run_bind, Sem.run_pure, Result.andThen_ok, run_storeVar_row W g 67 67 zeroCs cs h (by rw [Tryd.infoRan, hs]) (by rw [hs]; rfl) h1]
theorem store_run {o : Oper} {a : Act} (W : World) (x y : Operand) (g : Nat) (cs : Array Value) (ho : o.op = .store 67 x y) (hx : a.eval x = .pointer (some ⟨g, 0, none⟩)) (hy : a.eval y = .agg cs) (h : W.heap[g]? = some (.cells zeroCs 67 (0, 0))) (hs : cs.size = 19) (h1 : cs.all (·.oneCell') = true) : (execOp a.eval o).run Tryd.prog W = .ok .skip (W.setRow g cs) := by
  unfold execOp
  simp only [ho, hx, hy, Sem.run_bind, Sem.run_pure, Result.andThen_ok, store_ran W g cs h hs h1]
theorem load_tab {o : Oper} {x : Operand} {u : Act} (W : World) (B : Nat) (m : Mac) (a : Abs) {L : List Int} (hM : MacAt W B m) (ha : m.abs L = a) (cs : Array Value) (hcs : cs = #[.int .i64 (a.cel 0), .int .i64 (a.cel 1), .int .i64 (a.cel 2), .int .i64 (a.cel 3), .int .i64 (a.cel 4), .int .i64 (a.cel 5), .int .i64 (a.cel 6), .int .i64 (a.cel 7), .int .i64 (a.cel 8), .int .i64 (a.cel 9), .int .i64 (a.cel 10), .int .i64 (a.cel 11), .int .i64 (a.cel 12), .int .i64 (a.cel 13), .int .i64 (a.cel 14), .int .i64 (a.cel 15)]) (ho : o.op = .load 61 x) (hx : u.eval x = .pointer (some ⟨B, 91, none⟩)) : (execOp u.eval o).run Tryd.prog W = .ok (.value (.agg cs)) W := by
  have hr : W.rangeAt B 91 cs.toList := by
    intro j v hv
    have hj : j < 16 := by have := (List.getElem?_eq_some_iff.1 hv).1; rw [hcs] at this; simpa using this
    rw [hM.cel hj]
    rw [show m.cel = a.cel by rw [← ha]; rfl]
    rw [hcs] at hv
    have hk : ∀ i, i < 16 → (#[Value.int .i64 (a.cel 0), Value.int .i64 (a.cel 1), Value.int .i64 (a.cel 2), Value.int .i64 (a.cel 3), Value.int .i64 (a.cel 4), Value.int .i64 (a.cel 5), Value.int .i64 (a.cel 6), Value.int .i64 (a.cel 7), Value.int .i64 (a.cel 8), Value.int .i64 (a.cel 9), Value.int .i64 (a.cel 10), Value.int .i64 (a.cel 11), Value.int .i64 (a.cel 12), Value.int .i64 (a.cel 13), Value.int .i64 (a.cel 14), Value.int .i64 (a.cel 15)] : Array Value).toList[i]? = some (.int .i64 (a.cel i)) := by
      intro i hi
      rcases (show i = 0 ∨ i = 1 ∨ i = 2 ∨ i = 3 ∨ i = 4 ∨ i = 5 ∨ i = 6 ∨ i = 7 ∨ i = 8 ∨ i = 9 ∨ i = 10 ∨ i = 11 ∨ i = 12 ∨ i = 13 ∨ i = 14 ∨ i = 15 by omega) with rfl | rfl | rfl | rfl | rfl | rfl | rfl | rfl | rfl | rfl | rfl | rfl | rfl | rfl | rfl | rfl <;> rfl
    rw [hk j hj] at hv
    exact hv
  have hl := run_loadVar_mid (P := Tryd.prog) W B 91 61 cs.toList _ hr Tryd.underlying61 rfl (by rw [Tryd.infoK, hcs]; rfl)
  unfold execOp
  simp only [ho, hx, Instr.loadAt, Instr.sureAddr, Sem.run_bind, Sem.run_pure, Result.andThen_ok, hl]
theorem zeroCs_at (o : Nat) : zeroCs[o]? = [.int .i64 0, .int .i64 0, .int .i64 0, .int .i64 0, .int .i64 0, .int .i64 0, .int .i64 0, .int .i64 0, .int .i64 0, .int .i64 0, .int .i64 0, .int .i64 0, .int .i64 0, .int .i64 0, .int .i64 0, .int .i64 0, .int .i64 0, .slice none 0 0, .int .i64 0][o]? := by simp [zeroCs]
theorem zeroCs_one : zeroCs.all (·.oneCell') = true := by kernel_rfl
theorem below_row {B : Nat} {a w : World} (h : Below B a w) {g : Nat} (hg : B ≤ g) (cs : Array Value) : Below B a (w.setRow g cs) :=
  h.trans ⟨rfl, rfl, rfl, by simp, fun k hk => setRow_other w g k cs (by omega)⟩
theorem opCheck_bad2 {bk off len cap : Nat} {C D S O N : Nat → Int} {R : Nat → Bool} {w : World} {i : Nat} (hi : i < len) (hno : ∀ j, j < i → faultAt len C D S R O N j = 0) (hf : faultAt len C D S R O N i ≠ 0) (hst : StepsAt w bk off len C D S R O N) (h1 : 1 ≤ len) (h2 : len ≤ 200) (hbk : bk < w.heap.size) :
    Calls Tryd.prog 8 #[.slice (some ⟨bk, off, none⟩) len cap] w fun e w' => ∃ p, e = .returned (.iface 77 (.pointer (some ⟨p, 0, none⟩))) ∧ Below w.heap.size w w' ∧ w.heap.size ≤ p ∧ p < w'.heap.size ∧ w'.cell? ⟨p, 0, none⟩ = some (.int .i64 (faultAt len C D S R O N i)) ∧ w'.cell? ⟨p, 1, none⟩ = some (.int .i64 i) := by
  refine (opCheck_steps bk off len cap C D S O N R w h1 h2 hbk hst).mono fun e w' hh => ?_
  obtain ⟨hb, hh⟩ := hh
  rcases hh with ⟨_, h⟩ | ⟨k, p, hk, hno', hf', he, hp, hc0, hc1⟩
  · exact absurd (h i hi) hf
  · obtain rfl := same_first hno hf hno' hf'
    refine ⟨p, he, hb, hp, ?_, hc0, hc1⟩
    rcases Nat.lt_or_ge p w'.heap.size with g | g
    · exact g
    · simp [World.cell?, Array.getElem?_eq_none g] at hc0
theorem third_box (w : World) (X Y Z : Obj) : (((w.alloc X).alloc Y).alloc Z).heap[w.heap.size + 1 + 1]? = some Z := by
  have := heap_alloc_new ((w.alloc X).alloc Y) Z
  simp only [World.size_alloc] at this
  exact this
theorem ran_results (tmps : Array Value) (w' : World) (g : Nat) (cs : Array Value) (x : Value) (h8 : tmps.getD 8 undef = .pointer (some ⟨g, 0, none⟩)) (h9 : tmps.getD 9 undef = x) (hg : w'.heap[g]? = some (.cells cs 67 (0, 0))) (hs : cs.size = 19) :
    (results Tryd.f28 tmps).run Tryd.prog w' = .ok (.tuple #[.agg cs, x]) w' := by
  have h8' : tmps[8]?.getD undef = .pointer (some ⟨g, 0, none⟩) := by simpa using h8
  have h9' : tmps[9]?.getD undef = x := by simpa using h9
  have hl := run_loadVar_row (P := Tryd.prog) w' g 67 67 cs (0, 0) _ hg Tryd.underlying67 rfl (by rw [Tryd.infoRan, hs])
  simp [results, Tryd.results28, asAddr, h8', h9', hl]
theorem Tryd.infoT : (Tryd.prog.info? 58).map (·.size) = some 8 := by kernel_rfl
def RS (B g : Nat) (m : Mac) (W : World) : Prop := MacAt W B m ∧ W.heap[g]? = some (.cells zeroCs 67 (0, 0))
theorem RS.row {B g : Nat} {m : Mac} {W : World} (h : RS B g m W) (hne : g ≠ B) : RS B g m (W.setRow g zeroCs) := ⟨(setRow_other W g B zeroCs (fun e => hne e.symm)).trans h.1, setRow_heap W g zeroCs zeroCs _ _ h.2⟩
def RS2 (B g : Nat) (m : Mac) (W : World) : Prop := MacAt W B m ∧ ∃ cs : Array Value, cs.size = 19 ∧ W.heap[g]? = some (.cells cs 67 (0, 0))
theorem own_row {w3 : World} {b b' g : Nat} {e : TypeId} {z : Nat} {v : Value} {n : Nat} {xs : List Value} (h : w3.ownsRow b e z v n xs) (hg : g < b) (hb : b' ≤ b) (cs : Array Value) : (w3.drew.setRow g cs).ownsRow b' e z v n xs := by
  obtain ⟨h1, h2⟩ := h
  refine ⟨h1, ?_⟩
  rcases h2 with h2 | ⟨k, cap, cur, hv, hk, hh, r⟩
  · exact Or.inl h2
  · exact Or.inr ⟨k, cap, cur, hv, by omega, (setRow_other w3.drew g k cs (by omega)).trans hh, r⟩
theorem first_box (w : World) (X Y Z : Obj) : (((w.alloc X).alloc Y).alloc Z).heap[w.heap.size]? = some X := by
  have e1 := Below.heap_alloc ((w.alloc X).alloc Y) Z w.heap.size (by simp; omega)
  have e2 := Below.heap_alloc (w.alloc X) Y w.heap.size (by simp)
  rw [e1, e2]; exact heap_alloc_new w X
theorem second_box (w : World) (X Y Z : Obj) : (((w.alloc X).alloc Y).alloc Z).heap[w.heap.size + 1]? = some Y := by
  have e1 := Below.heap_alloc ((w.alloc X).alloc Y) Z (w.heap.size + 1) (by simp)
  have e2 := heap_alloc_new (w.alloc X) Y
  simp only [World.size_alloc] at e2
  rw [e1, e2]
theorem start_ok {T K : Nat → Int} {time : Int} (hT : ∀ i, i < 8 → In64 (T i)) (hK : ∀ i, i < 16 → In64 (K i)) (ht : In64 time) : ((start T K time).abs []).Ok := by
  refine ⟨fun i _ => ?_, fun i _ => none0_ok, hT, hK, ht, fun x hx => absurd hx (by simp [Mac.abs]), Nat.zero_le _⟩
  show (if i = 10 then (⟨3, 0, 0⟩ : Val) else if i = 1 then ⟨2, 0, 0⟩ else none0).Ok
  split
  · exact ⟨by decide, by decide, ⟨by decide, by decide⟩, by decide, by decide⟩
  split
  · exact ⟨by decide, by decide, ⟨by decide, by decide⟩, by decide, by decide⟩
  · exact none0_ok
set_option maxHeartbeats 4000000 in
set_option maxRecDepth 100000 in
theorem run_limit (a : Option Addr) (len cap : Nat) (T K : Nat → Int) (time : Int) (h : len < 1 ∨ 200 < len) (w : World) :
    Calls Tryd.prog 28 #[.slice a len cap, .agg #[.int .i64 (T 0), .int .i64 (T 1), .int .i64 (T 2), .int .i64 (T 3), .int .i64 (T 4), .int .i64 (T 5), .int .i64 (T 6), .int .i64 (T 7)], .agg #[.int .i64 (K 0), .int .i64 (K 1), .int .i64 (K 2), .int .i64 (K 3), .int .i64 (K 4), .int .i64 (K 5), .int .i64 (K 6), .int .i64 (K 7), .int .i64 (K 8), .int .i64 (K 9), .int .i64 (K 10), .int .i64 (K 11), .int .i64 (K 12), .int .i64 (K 13), .int .i64 (K 14), .int .i64 (K 15)], .int .i64 time] w fun e w' => e = .returned (.tuple #[zeroRan, .iface 27 (.int .i64 4)]) ∧ Below w.heap.size w w' := by
  have HL : Hid (len < 1 ∨ 200 < len) := h
  clear h
  go_enter Tryd.func28, Tryd.ntmps28
  go_wp2_with (first
    | (go_at_call 8; refine (opCheck_limit a len cap HL.out _).mono ?_; rintro e w1 ⟨rfl, rfl⟩)
    | (refine wpList_store_row rfl 67 (.tmp 8) (.tmp 17) rfl (w.heap.size + 1 + 1) zeroCs rfl rfl 67 zeroCs (third_box _ _ _ _) Tryd.infoRan rfl zeroCs_one ?_)
    | fail)
  exact bodyPost_ret (v := .tuple #[zeroRan, .iface 27 (.int .i64 4)]) (ran_results _ _ (w.heap.size + 1 + 1) zeroCs _ rfl rfl (setRow_heap _ _ zeroCs zeroCs _ _ (third_box _ _ _ _)) rfl) rfl ⟨rfl, below_row (by repeat' first | with_reducible exact Below.refl _ _ | with_reducible refine Below.alloc ?_ ?_ _ | ((try dsimp only); omega) | (simp; done) | (simp; omega)) (by omega) _⟩
set_option maxHeartbeats 4000000 in
set_option maxRecDepth 100000 in
theorem run_wrong (bk off len cap : Nat) (C D S O N : Nat → Int) (R : Nat → Bool) (T K : Nat → Int) (time : Int) (w : World) (h1 : 1 ≤ len) (h2 : len ≤ 200) (hbk : bk < w.heap.size) (hst : StepsAt w bk off len C D S R O N) (i : Nat) (hi : i < len) (hno : ∀ j, j < i → faultAt len C D S R O N j = 0) (hf : faultAt len C D S R O N i ≠ 0) :
    Calls Tryd.prog 28 #[.slice (some ⟨bk, off, none⟩) len cap, .agg #[.int .i64 (T 0), .int .i64 (T 1), .int .i64 (T 2), .int .i64 (T 3), .int .i64 (T 4), .int .i64 (T 5), .int .i64 (T 6), .int .i64 (T 7)], .agg #[.int .i64 (K 0), .int .i64 (K 1), .int .i64 (K 2), .int .i64 (K 3), .int .i64 (K 4), .int .i64 (K 5), .int .i64 (K 6), .int .i64 (K 7), .int .i64 (K 8), .int .i64 (K 9), .int .i64 (K 10), .int .i64 (K 11), .int .i64 (K 12), .int .i64 (K 13), .int .i64 (K 14), .int .i64 (K 15)], .int .i64 time] w fun e w' => ∃ p, e = .returned (.tuple #[zeroRan, .iface 77 (.pointer (some ⟨p, 0, none⟩))]) ∧ Below w.heap.size w w' ∧ p < w'.heap.size ∧ w'.cell? ⟨p, 0, none⟩ = some (.int .i64 (faultAt len C D S R O N i)) ∧ w'.cell? ⟨p, 1, none⟩ = some (.int .i64 i) := by
  have HC : Hid (∀ W : World, Below w.heap.size w W → Calls Tryd.prog 8 #[.slice (some ⟨bk, off, none⟩) len cap] W fun e w' => ∃ p, e = .returned (.iface 77 (.pointer (some ⟨p, 0, none⟩))) ∧ Below W.heap.size W w' ∧ W.heap.size ≤ p ∧ p < w'.heap.size ∧ w'.cell? ⟨p, 0, none⟩ = some (.int .i64 (faultAt len C D S R O N i)) ∧ w'.cell? ⟨p, 1, none⟩ = some (.int .i64 i)) := fun W hW => opCheck_bad2 hi hno hf (hst.later hW hbk) h1 h2 (Nat.lt_of_lt_of_le hbk hW.size)
  have HB : Hid (Below w.heap.size w (((w.alloc (.cells #[.int .i64 (T 0), .int .i64 (T 1), .int .i64 (T 2), .int .i64 (T 3), .int .i64 (T 4), .int .i64 (T 5), .int .i64 (T 6), .int .i64 (T 7)] 58)).alloc (.cells #[.int .i64 (K 0), .int .i64 (K 1), .int .i64 (K 2), .int .i64 (K 3), .int .i64 (K 4), .int .i64 (K 5), .int .i64 (K 6), .int .i64 (K 7), .int .i64 (K 8), .int .i64 (K 9), .int .i64 (K 10), .int .i64 (K 11), .int .i64 (K 12), .int .i64 (K 13), .int .i64 (K 14), .int .i64 (K 15)] 61)).alloc (.cells zeroCs 67))) := ((((Below.refl _ _).alloc (Nat.le_refl _) _).alloc (by simp) _).alloc (by simp; omega) _)
  have HT : Hid ((((w.alloc (.cells #[.int .i64 (T 0), .int .i64 (T 1), .int .i64 (T 2), .int .i64 (T 3), .int .i64 (T 4), .int .i64 (T 5), .int .i64 (T 6), .int .i64 (T 7)] 58)).alloc (.cells #[.int .i64 (K 0), .int .i64 (K 1), .int .i64 (K 2), .int .i64 (K 3), .int .i64 (K 4), .int .i64 (K 5), .int .i64 (K 6), .int .i64 (K 7), .int .i64 (K 8), .int .i64 (K 9), .int .i64 (K 10), .int .i64 (K 11), .int .i64 (K 12), .int .i64 (K 13), .int .i64 (K 14), .int .i64 (K 15)] 61)).alloc (.cells zeroCs 67)).heap[w.heap.size + 1 + 1]? = some (.cells zeroCs 67 (0, 0))) := third_box _ _ _ _
  clear hst hno hf hbk
  go_enter Tryd.func28, Tryd.ntmps28
  go_wp2_with (first
    | (go_at_call 8; refine (HC.out _ HB.out).mono ?_; rintro e w1 ⟨p, rfl, hb1, hp0, hp1, c0, c1⟩; have HZ1 : Hid (w1.heap[w.heap.size + 1 + 1]? = some (.cells zeroCs 67 (0, 0))) := (hb1.block (w.heap.size + 1 + 1) (by simp)).trans HT.out; have HBW : Hid (Below w.heap.size w w1) := HB.out.trans (hb1.mono HB.out.size); have HP : Hid (w.heap.size + 1 + 1 < p) := (by simp at hp0; show w.heap.size + 1 + 1 < p; omega); clear hb1 hp0)
    | (refine wpList_store_row rfl 67 (.tmp 8) (.tmp 17) rfl (w.heap.size + 1 + 1) zeroCs rfl rfl 67 zeroCs HZ1.out Tryd.infoRan rfl zeroCs_one ?_)
    | fail)
  exact bodyPost_ret (v := .tuple #[zeroRan, .iface 77 (.pointer (some ⟨p, 0, none⟩))]) (ran_results _ _ (w.heap.size + 1 + 1) zeroCs _ rfl rfl (setRow_heap _ _ zeroCs zeroCs _ _ HZ1.out) rfl) rfl ⟨p, rfl, below_row HBW.out (by omega) _, by simpa using hp1, by rw [cell_setRow_other _ _ _ _ (by have := HP.out; show p ≠ _; omega)]; exact c0, by rw [cell_setRow_other _ _ _ _ (by have := HP.out; show p ≠ _; omega)]; exact c1⟩
set_option maxHeartbeats 4000000 in
set_option maxRecDepth 100000 in
theorem run_bad (bk off len cap : Nat) (C D S O N : Nat → Int) (R : Nat → Bool) (T K : Nat → Int) (time : Int) (w : World) (h1 : 1 ≤ len) (h2 : len ≤ 200) (hbk : bk < w.heap.size) (hst : StepsAt w bk off len C D S R O N) (h : ∀ j, j < len → faultAt len C D S R O N j = 0) (hN : ∀ k, k < len → In64 (N k)) (hT : ∀ i, i < 8 → In64 (T i)) (hK : ∀ i, i < 16 → In64 (K i)) (ht : In64 time) (er : Int) (q : Nat) (HR : Hid (runF C D S R O N len 0 0 ((start T K time).abs []) = .bad er q)) :
    Calls Tryd.prog 28 #[.slice (some ⟨bk, off, none⟩) len cap, .agg #[.int .i64 (T 0), .int .i64 (T 1), .int .i64 (T 2), .int .i64 (T 3), .int .i64 (T 4), .int .i64 (T 5), .int .i64 (T 6), .int .i64 (T 7)], .agg #[.int .i64 (K 0), .int .i64 (K 1), .int .i64 (K 2), .int .i64 (K 3), .int .i64 (K 4), .int .i64 (K 5), .int .i64 (K 6), .int .i64 (K 7), .int .i64 (K 8), .int .i64 (K 9), .int .i64 (K 10), .int .i64 (K 11), .int .i64 (K 12), .int .i64 (K 13), .int .i64 (K 14), .int .i64 (K 15)], .int .i64 time] w fun e w' => ∃ p, e = .returned (.tuple #[zeroRan, .iface 77 (.pointer (some ⟨p, 0, none⟩))]) ∧ Below w.heap.size w w' ∧ p < w'.heap.size ∧ w'.cell? ⟨p, 0, none⟩ = some (.int .i64 er) ∧ w'.cell? ⟨p, 1, none⟩ = some (.int .i64 q) ∧ er ≠ 0 := by
  have HC : Hid (∀ W : World, Below w.heap.size w W → Calls Tryd.prog 8 #[.slice (some ⟨bk, off, none⟩) len cap] W fun e w' => e = .returned .nilIface ∧ Below W.heap.size W w') := fun W hW => opCheck_fine h (hst.later hW hbk) h1 h2 (Nat.lt_of_lt_of_le hbk hW.size)
  have HG : Hid (∀ (B : Nat) (W : World), w.heap.size < B → Below w.heap.size w W → MacAt W B (start T K time) → Calls Tryd.prog 63 #[.pointer (some ⟨B, 0, none⟩), .slice (some ⟨bk, off, none⟩) len cap] W fun e w' => ∃ E, e = .returned (.int .i64 E) ∧ Gone B W w' (runF C D S R O N len 0 0 ((start T K time).abs [])) E) := fun B W hB hW hM => goOn_all B bk off len cap C D S O N R (start T K time) [] W hM (World.ownsRow_nil W (B + 1) _ 1) (start_ok hT hK ht) (hst.later hW hbk) (by omega) h2 h1 h hN rfl rfl
  have HB : Hid (Below w.heap.size w (((w.alloc (.cells #[.int .i64 (T 0), .int .i64 (T 1), .int .i64 (T 2), .int .i64 (T 3), .int .i64 (T 4), .int .i64 (T 5), .int .i64 (T 6), .int .i64 (T 7)] 58)).alloc (.cells #[.int .i64 (K 0), .int .i64 (K 1), .int .i64 (K 2), .int .i64 (K 3), .int .i64 (K 4), .int .i64 (K 5), .int .i64 (K 6), .int .i64 (K 7), .int .i64 (K 8), .int .i64 (K 9), .int .i64 (K 10), .int .i64 (K 11), .int .i64 (K 12), .int .i64 (K 13), .int .i64 (K 14), .int .i64 (K 15)] 61)).alloc (.cells zeroCs 67))) := ((((Below.refl _ _).alloc (Nat.le_refl _) _).alloc (by simp) _).alloc (by simp; omega) _)
  have HT : Hid ((((w.alloc (.cells #[.int .i64 (T 0), .int .i64 (T 1), .int .i64 (T 2), .int .i64 (T 3), .int .i64 (T 4), .int .i64 (T 5), .int .i64 (T 6), .int .i64 (T 7)] 58)).alloc (.cells #[.int .i64 (K 0), .int .i64 (K 1), .int .i64 (K 2), .int .i64 (K 3), .int .i64 (K 4), .int .i64 (K 5), .int .i64 (K 6), .int .i64 (K 7), .int .i64 (K 8), .int .i64 (K 9), .int .i64 (K 10), .int .i64 (K 11), .int .i64 (K 12), .int .i64 (K 13), .int .i64 (K 14), .int .i64 (K 15)] 61)).alloc (.cells zeroCs 67)).heap[w.heap.size + 1 + 1]? = some (.cells zeroCs 67 (0, 0))) := third_box _ _ _ _
  have HX : Hid ((((w.alloc (.cells #[.int .i64 (T 0), .int .i64 (T 1), .int .i64 (T 2), .int .i64 (T 3), .int .i64 (T 4), .int .i64 (T 5), .int .i64 (T 6), .int .i64 (T 7)] 58)).alloc (.cells #[.int .i64 (K 0), .int .i64 (K 1), .int .i64 (K 2), .int .i64 (K 3), .int .i64 (K 4), .int .i64 (K 5), .int .i64 (K 6), .int .i64 (K 7), .int .i64 (K 8), .int .i64 (K 9), .int .i64 (K 10), .int .i64 (K 11), .int .i64 (K 12), .int .i64 (K 13), .int .i64 (K 14), .int .i64 (K 15)] 61)).alloc (.cells zeroCs 67)).heap[w.heap.size]? = some (.cells #[.int .i64 (T 0), .int .i64 (T 1), .int .i64 (T 2), .int .i64 (T 3), .int .i64 (T 4), .int .i64 (T 5), .int .i64 (T 6), .int .i64 (T 7)] 58 (0, 0))) := first_box _ _ _ _
  have HY : Hid ((((w.alloc (.cells #[.int .i64 (T 0), .int .i64 (T 1), .int .i64 (T 2), .int .i64 (T 3), .int .i64 (T 4), .int .i64 (T 5), .int .i64 (T 6), .int .i64 (T 7)] 58)).alloc (.cells #[.int .i64 (K 0), .int .i64 (K 1), .int .i64 (K 2), .int .i64 (K 3), .int .i64 (K 4), .int .i64 (K 5), .int .i64 (K 6), .int .i64 (K 7), .int .i64 (K 8), .int .i64 (K 9), .int .i64 (K 10), .int .i64 (K 11), .int .i64 (K 12), .int .i64 (K 13), .int .i64 (K 14), .int .i64 (K 15)] 61)).alloc (.cells zeroCs 67)).heap[w.heap.size + 1]? = some (.cells #[.int .i64 (K 0), .int .i64 (K 1), .int .i64 (K 2), .int .i64 (K 3), .int .i64 (K 4), .int .i64 (K 5), .int .i64 (K 6), .int .i64 (K 7), .int .i64 (K 8), .int .i64 (K 9), .int .i64 (K 10), .int .i64 (K 11), .int .i64 (K 12), .int .i64 (K 13), .int .i64 (K 14), .int .i64 (K 15)] 61 (0, 0))) := second_box _ _ _ _
  clear hst h hbk hT hK ht hN h1 h2
  go_enter Tryd.func28, Tryd.ntmps28
  go_wp2_with (first
    | (go_at_call 8; refine (HC.out _ HB.out).mono ?_; rintro e w1 ⟨rfl, hb1⟩; have HZ1 : Hid (w1.heap[w.heap.size + 1 + 1]? = some (.cells zeroCs 67 (0, 0))) := (hb1.block (w.heap.size + 1 + 1) (by simp)).trans HT.out; have HX1 : Hid (w1.heap[w.heap.size]? = some (.cells #[.int .i64 (T 0), .int .i64 (T 1), .int .i64 (T 2), .int .i64 (T 3), .int .i64 (T 4), .int .i64 (T 5), .int .i64 (T 6), .int .i64 (T 7)] 58 (0, 0))) := (hb1.block w.heap.size (by simp; omega)).trans HX.out; have HY1 : Hid (w1.heap[w.heap.size + 1]? = some (.cells #[.int .i64 (K 0), .int .i64 (K 1), .int .i64 (K 2), .int .i64 (K 3), .int .i64 (K 4), .int .i64 (K 5), .int .i64 (K 6), .int .i64 (K 7), .int .i64 (K 8), .int .i64 (K 9), .int .i64 (K 10), .int .i64 (K 11), .int .i64 (K 12), .int .i64 (K 13), .int .i64 (K 14), .int .i64 (K 15)] 61 (0, 0))) := (hb1.block (w.heap.size + 1) (by simp)).trans HY.out; have HBW : Hid (Below w.heap.size w w1) := HB.out.trans (hb1.mono HB.out.size); have HS1 : Hid (w.heap.size + 1 + 1 < w1.heap.size) := (by have := hb1.size; simp at this; show w.heap.size + 1 + 1 < w1.heap.size; omega); clear hb1)
    | (refine wpList_load_row rfl 58 (.tmp 5) rfl w.heap.size rfl 58 #[.int .i64 (T 0), .int .i64 (T 1), .int .i64 (T 2), .int .i64 (T 3), .int .i64 (T 4), .int .i64 (T 5), .int .i64 (T 6), .int .i64 (T 7)] (0, 0) _ HX1.out Tryd.underlying58 rfl Tryd.infoT ?_)
    | (refine wpList_load_row rfl 61 (.tmp 6) rfl (w.heap.size + 1) rfl 61 #[.int .i64 (K 0), .int .i64 (K 1), .int .i64 (K 2), .int .i64 (K 3), .int .i64 (K 4), .int .i64 (K 5), .int .i64 (K 6), .int .i64 (K 7), .int .i64 (K 8), .int .i64 (K 9), .int .i64 (K 10), .int .i64 (K 11), .int .i64 (K 12), .int .i64 (K 13), .int .i64 (K 14), .int .i64 (K 15)] (0, 0) _ HY1.out Tryd.underlying61 rfl Tryd.infoK ?_)
    | (go_at_call 62; refine (begin_all T K time _).mono ?_; rintro e w2 ⟨rfl, hb2, hM2⟩; obtain ⟨B, hBe⟩ : ∃ B, w1.heap.size + 1 + 1 = B := ⟨_, rfl⟩; rw [hBe] at hM2 ⊢; have HBe : Hid (w.heap.size + 1 + 1 < B) := (by have := HS1.out; show w.heap.size + 1 + 1 < B; omega); have HM2 : Hid (MacAt w2 B (start T K time)) := hM2; have HB2 : Hid (Below w1.heap.size w1 w2) := hb2; clear hBe hM2 hb2)
    | (go_at_call 63; go_must (refine (HG.out B _ (by have := HBe.out; omega) (HBW.out.trans (HB2.out.mono HBW.out.size)) HM2.out).mono ?_; rintro e w3 ⟨E, rfl, hg⟩; rw [HR.out] at hg; obtain ⟨hb3, m3, L3, hM3, hO3, hE, hE0, hst3⟩ := hg; subst hE; have HE0 : Hid (E ≠ 0) := hE0; have he1 : (E != 0) = true := (by simpa using hE0); have HQ : Hid (m3.step = (q : Int)) := hst3; clear hE0 hst3 hO3; have HZ3 : Hid (w3.heap[w.heap.size + 1 + 1]? = some (.cells zeroCs 67 (0, 0))) := (hb3.block _ HBe.out).trans ((HB2.out.block _ HS1.out).trans HZ1.out); have HBW3 : Hid (Below w.heap.size w w3) := (HBW.out.trans (HB2.out.mono HBW.out.size)).trans (hb3.mono (by have := HBe.out; omega)); have hz3 : ∀ o, w3.cell? ⟨w.heap.size + 1 + 1, o, none⟩ = [.int .i64 0, .int .i64 0, .int .i64 0, .int .i64 0, .int .i64 0, .int .i64 0, .int .i64 0, .int .i64 0, .int .i64 0, .int .i64 0, .int .i64 0, .int .i64 0, .int .i64 0, .int .i64 0, .int .i64 0, .int .i64 0, .int .i64 0, .slice none 0 0, .int .i64 0][o]? := (fun o => (cell_of_row w3 _ o zeroCs _ _ HZ3.out).trans (zeroCs_at o)); have fz3 : ∀ o, w3.frozen? ⟨w.heap.size + 1 + 1, o, none⟩ = false := (fun o => by simp [World.frozen?, HZ3.out]); have hB3 := hM3.lt; have hS3 : w.heap.size + 1 + 1 < w3.heap.size := (by have := HBe.out; omega); have hne : w.heap.size + 1 + 1 ≠ B := (by have := HBe.out; omega)))
    | fail)
  clear HC HG HB HT HX HY HX1 HY1 HZ1 HB2 HM2 HBW hz3 fz3
  refine wp_region_held_drew (S := RS B (w.heap.size + 1 + 1) m3) (by kernel_rfl) ⟨hM3, HZ3.out⟩ fun hS => ?_
  change wpAnyH _ _ _ _ _ 11 (Array.replicate 11 false) _ _
  refine takeH (i := 0) (some 28) (.agg #[.int .i64 0, .int .i64 0, .int .i64 0, .int .i64 0, .int .i64 0, .int .i64 0, .int .i64 0, .int .i64 0, .int .i64 0, .int .i64 0, .int .i64 0, .int .i64 0, .int .i64 0, .int .i64 0, .int .i64 0, .int .i64 0, .int .i64 0, .slice none 0 0, .int .i64 0]) rfl rfl (by kernel_rfl) (by kernel_rfl) (by kernel_rfl) (fun _ _ _ h => h) (by rfl) (fun W hW => ?_) hS ?_
  · go_simp
  simp only [Act.put, List.setIfInBounds_toArray, List.set_cons_zero, List.set_cons_succ]
  refine takeH (i := 1) (some 29) (.int .i64 E) rfl rfl (by kernel_rfl) (by kernel_rfl) (by kernel_rfl) (fun _ _ _ h => h) (by rfl) (fun W hW => ?_) hS ?_
  · go_simp
  simp only [Act.put, List.setIfInBounds_toArray, List.set_cons_zero, List.set_cons_succ]
  refine takeH (i := 2) (some 30) (.pointer (some ⟨B, 0, none⟩)) rfl rfl (by kernel_rfl) (by kernel_rfl) (by kernel_rfl) (fun _ _ _ h => h) (by rfl) (fun W hW => ?_) hS ?_
  · go_simp
  simp only [Act.put, List.setIfInBounds_toArray, List.set_cons_zero, List.set_cons_succ]
  refine takeH (i := 3) (some 31) (.pointer (some ⟨B, 0, none⟩)) rfl rfl (by kernel_rfl) (by kernel_rfl) (by kernel_rfl) (fun _ _ _ h => h) (by rfl) (fun W hW => ?_) hS ?_
  · go_simp
  simp only [Act.put, List.setIfInBounds_toArray, List.set_cons_zero, List.set_cons_succ]
  refine takeH (i := 4) (some 32) (.pointer (some ⟨B, 0, none⟩)) rfl rfl (by kernel_rfl) (by kernel_rfl) (by kernel_rfl) (fun _ _ _ h => h) (by rfl) (fun W hW => ?_) hS ?_
  · go_simp
  simp only [Act.put, List.setIfInBounds_toArray, List.set_cons_zero, List.set_cons_succ]
  refine takeH (i := 5) (some 33) (.int .i64 (q : Int)) rfl rfl (by kernel_rfl) (by kernel_rfl) (by kernel_rfl) (fun _ _ _ h => h) (by rfl) (fun W hW => ?_) hS ?_
  · have y0 : W.cell? ⟨B, 0, none⟩ = some (.int .i64 (q : Int)) := (by rw [hW.1.step]; exact congrArg _ (congrArg _ HQ.out))
    go_simp
  simp only [Act.put, List.setIfInBounds_toArray, List.set_cons_zero, List.set_cons_succ]
  refine takeH (i := 6) (some 34) (.agg #[.int .i64 E, .int .i64 (q : Int)]) rfl rfl (by kernel_rfl) (by kernel_rfl) (by kernel_rfl) (fun _ _ _ h => h) (by rfl) (fun W hW => ?_) hS ?_
  · go_simp
  simp only [Act.put, List.setIfInBounds_toArray, List.set_cons_zero, List.set_cons_succ]
  refine wpAnyH_ready (rs := [7, 9]) (by kernel_rfl) (by simp) ?_
  have hA : RS B (w.heap.size + 1 + 1) m3 (w3.drew.alloc (.cells #[.int .i64 E, .int .i64 (q : Int)] 78)) := ⟨hM3.drew.alloc _, (Below.heap_alloc w3.drew _ _ hS3).trans HZ3.out⟩
  have hA2 : RS B (w.heap.size + 1 + 1) m3 ((w3.drew.alloc (.cells #[.int .i64 E, .int .i64 (q : Int)] 78)).setRow (w.heap.size + 1 + 1) zeroCs) := RS.row hA hne
  have hA3 : RS B (w.heap.size + 1 + 1) m3 (w3.drew.setRow (w.heap.size + 1 + 1) zeroCs) := RS.row hS hne
  have hA4 : RS B (w.heap.size + 1 + 1) m3 ((w3.drew.setRow (w.heap.size + 1 + 1) zeroCs).alloc (.cells #[.int .i64 E, .int .i64 (q : Int)] 78)) := ⟨hA3.1.alloc _, (Below.heap_alloc _ _ _ (by simpa using hS3)).trans hA3.2⟩
  refine stepH (some 35) (.pointer (some ⟨w3.heap.size, 0, none⟩)) (w3.drew.alloc (.cells #[.int .i64 E, .int .i64 (q : Int)] 78)) rfl rfl (by rfl) ?_ hA ?_ (stepS (w3.drew.setRow (w.heap.size + 1 + 1) zeroCs) rfl rfl (by rfl) ?_ hA3 ?_ AllReadyH.nil)
  · go_simp
  · simp only [Act.put, List.setIfInBounds_toArray, List.set_cons_zero, List.set_cons_succ]
    refine takeH (i := 8) (some 36) (.iface 77 (.pointer (some ⟨w3.heap.size, 0, none⟩))) rfl rfl (by kernel_rfl) (by kernel_rfl) (by kernel_rfl) (fun _ _ _ h => h) (by rfl) (fun W hW => ?_) hA ?_
    · go_simp
    simp only [Act.put, List.setIfInBounds_toArray, List.set_cons_zero, List.set_cons_succ]
    refine wpAnyH_ready (rs := [9]) (by kernel_rfl) (by simp) ?_
    refine stepS ((w3.drew.alloc (.cells #[.int .i64 E, .int .i64 (q : Int)] 78)).setRow (w.heap.size + 1 + 1) zeroCs) rfl rfl (by rfl) ?_ hA2 ?_ AllReadyH.nil
    · exact store_run _ _ _ _ _ rfl rfl rfl hA.2 rfl zeroCs_one
    simp only [Act.put]
    refine takeH (i := 10) (some 9) (.iface 77 (.pointer (some ⟨w3.heap.size, 0, none⟩))) rfl rfl (by kernel_rfl) (by kernel_rfl) (by kernel_rfl) (fun _ _ _ h => h) (by rfl) (fun W hW => ?_) hA2 ?_
    · go_simp
    simp only [Act.put, List.setIfInBounds_toArray, List.set_cons_zero, List.set_cons_succ]
    refine wpAnyH_done (by kernel_rfl) ?_ _
    go_wp2
    exact bodyPost_ret (v := .tuple #[zeroRan, .iface 77 (.pointer (some ⟨w3.heap.size, 0, none⟩))]) (ran_results _ _ (w.heap.size + 1 + 1) zeroCs _ rfl rfl hA2.2 rfl) rfl ⟨w3.heap.size, rfl, below_row ((HBW3.out.drew).alloc (by have := HBW3.out.size; simpa using this) _) (by omega) _, by simp, by rw [cell_setRow_other _ _ _ _ (by show w3.heap.size ≠ _; omega), World.cell?_alloc_at _ _ _ _ (by simp)]; rfl, by rw [cell_setRow_other _ _ _ _ (by show w3.heap.size ≠ _; omega), World.cell?_alloc_at _ _ _ _ (by simp)]; rfl, HE0.out⟩
  · exact store_run _ _ _ _ _ rfl rfl rfl hS.2 rfl zeroCs_one
  · simp only [Act.put]
    refine wpAnyH_ready (rs := [7]) (by kernel_rfl) (by simp) ?_
    refine stepH (some 35) (.pointer (some ⟨w3.heap.size, 0, none⟩)) ((w3.drew.setRow (w.heap.size + 1 + 1) zeroCs).alloc (.cells #[.int .i64 E, .int .i64 (q : Int)] 78)) rfl rfl (by rfl) ?_ hA4 ?_ AllReadyH.nil
    · go_simp
    simp only [Act.put, List.setIfInBounds_toArray, List.set_cons_zero, List.set_cons_succ]
    refine takeH (i := 8) (some 36) (.iface 77 (.pointer (some ⟨w3.heap.size, 0, none⟩))) rfl rfl (by kernel_rfl) (by kernel_rfl) (by kernel_rfl) (fun _ _ _ h => h) (by rfl) (fun W hW => ?_) hA4 ?_
    · go_simp
    simp only [Act.put, List.setIfInBounds_toArray, List.set_cons_zero, List.set_cons_succ]
    refine takeH (i := 10) (some 9) (.iface 77 (.pointer (some ⟨w3.heap.size, 0, none⟩))) rfl rfl (by kernel_rfl) (by kernel_rfl) (by kernel_rfl) (fun _ _ _ h => h) (by rfl) (fun W hW => ?_) hA4 ?_
    · go_simp
    simp only [Act.put, List.setIfInBounds_toArray, List.set_cons_zero, List.set_cons_succ]
    refine wpAnyH_done (by kernel_rfl) ?_ _
    go_wp2
    exact bodyPost_ret (v := .tuple #[zeroRan, .iface 77 (.pointer (some ⟨w3.heap.size, 0, none⟩))]) (ran_results _ _ (w.heap.size + 1 + 1) zeroCs _ rfl rfl hA4.2 rfl) rfl ⟨w3.heap.size, rfl, (below_row HBW3.out.drew (by omega) _).alloc (by have := HBW3.out.size; simpa using this) _, by simp, by rw [World.cell?_alloc_at _ _ _ _ (by simp)]; rfl, by rw [World.cell?_alloc_at _ _ _ _ (by simp)]; rfl, HE0.out⟩
set_option maxHeartbeats 4000000 in
set_option maxRecDepth 100000 in
theorem run_fine (bk off len cap : Nat) (C D S O N : Nat → Int) (R : Nat → Bool) (T K : Nat → Int) (time : Int) (w : World) (h1 : 1 ≤ len) (h2 : len ≤ 200) (hbk : bk < w.heap.size) (hst : StepsAt w bk off len C D S R O N) (h : ∀ j, j < len → faultAt len C D S R O N j = 0) (hN : ∀ k, k < len → In64 (N k)) (hT : ∀ i, i < 8 → In64 (T i)) (hK : ∀ i, i < 16 → In64 (K i)) (ht : In64 time) (n0 : Int) (k : Nat) (a : Abs) (HR : Hid (runF C D S R O N len 0 0 ((start T K time).abs []) = .fine n0 k a)) :
    Calls Tryd.prog 28 #[.slice (some ⟨bk, off, none⟩) len cap, .agg #[.int .i64 (T 0), .int .i64 (T 1), .int .i64 (T 2), .int .i64 (T 3), .int .i64 (T 4), .int .i64 (T 5), .int .i64 (T 6), .int .i64 (T 7)], .agg #[.int .i64 (K 0), .int .i64 (K 1), .int .i64 (K 2), .int .i64 (K 3), .int .i64 (K 4), .int .i64 (K 5), .int .i64 (K 6), .int .i64 (K 7), .int .i64 (K 8), .int .i64 (K 9), .int .i64 (K 10), .int .i64 (K 11), .int .i64 (K 12), .int .i64 (K 13), .int .i64 (K 14), .int .i64 (K 15)], .int .i64 time] w fun e w' => ∃ v3, e = .returned (.tuple #[.agg #[.int .i64 n0, .int .i64 (a.cel 0), .int .i64 (a.cel 1), .int .i64 (a.cel 2), .int .i64 (a.cel 3), .int .i64 (a.cel 4), .int .i64 (a.cel 5), .int .i64 (a.cel 6), .int .i64 (a.cel 7), .int .i64 (a.cel 8), .int .i64 (a.cel 9), .int .i64 (a.cel 10), .int .i64 (a.cel 11), .int .i64 (a.cel 12), .int .i64 (a.cel 13), .int .i64 (a.cel 14), .int .i64 (a.cel 15), v3, .int .i64 (k : Int)], .nilIface]) ∧ Below w.heap.size w w' ∧ w'.ownsRow (w.heap.size + 1) 2 1 v3 a.out.length (a.out.map (Value.int .i64)) := by
  have HC : Hid (∀ W : World, Below w.heap.size w W → Calls Tryd.prog 8 #[.slice (some ⟨bk, off, none⟩) len cap] W fun e w' => e = .returned .nilIface ∧ Below W.heap.size W w') := fun W hW => opCheck_fine h (hst.later hW hbk) h1 h2 (Nat.lt_of_lt_of_le hbk hW.size)
  have HG : Hid (∀ (B : Nat) (W : World), w.heap.size < B → Below w.heap.size w W → MacAt W B (start T K time) → Calls Tryd.prog 63 #[.pointer (some ⟨B, 0, none⟩), .slice (some ⟨bk, off, none⟩) len cap] W fun e w' => ∃ E, e = .returned (.int .i64 E) ∧ Gone B W w' (runF C D S R O N len 0 0 ((start T K time).abs [])) E) := fun B W hB hW hM => goOn_all B bk off len cap C D S O N R (start T K time) [] W hM (World.ownsRow_nil W (B + 1) _ 1) (start_ok hT hK ht) (hst.later hW hbk) (by omega) h2 h1 h hN rfl rfl
  have HB : Hid (Below w.heap.size w (((w.alloc (.cells #[.int .i64 (T 0), .int .i64 (T 1), .int .i64 (T 2), .int .i64 (T 3), .int .i64 (T 4), .int .i64 (T 5), .int .i64 (T 6), .int .i64 (T 7)] 58)).alloc (.cells #[.int .i64 (K 0), .int .i64 (K 1), .int .i64 (K 2), .int .i64 (K 3), .int .i64 (K 4), .int .i64 (K 5), .int .i64 (K 6), .int .i64 (K 7), .int .i64 (K 8), .int .i64 (K 9), .int .i64 (K 10), .int .i64 (K 11), .int .i64 (K 12), .int .i64 (K 13), .int .i64 (K 14), .int .i64 (K 15)] 61)).alloc (.cells zeroCs 67))) := ((((Below.refl _ _).alloc (Nat.le_refl _) _).alloc (by simp) _).alloc (by simp; omega) _)
  have HT : Hid ((((w.alloc (.cells #[.int .i64 (T 0), .int .i64 (T 1), .int .i64 (T 2), .int .i64 (T 3), .int .i64 (T 4), .int .i64 (T 5), .int .i64 (T 6), .int .i64 (T 7)] 58)).alloc (.cells #[.int .i64 (K 0), .int .i64 (K 1), .int .i64 (K 2), .int .i64 (K 3), .int .i64 (K 4), .int .i64 (K 5), .int .i64 (K 6), .int .i64 (K 7), .int .i64 (K 8), .int .i64 (K 9), .int .i64 (K 10), .int .i64 (K 11), .int .i64 (K 12), .int .i64 (K 13), .int .i64 (K 14), .int .i64 (K 15)] 61)).alloc (.cells zeroCs 67)).heap[w.heap.size + 1 + 1]? = some (.cells zeroCs 67 (0, 0))) := third_box _ _ _ _
  have HX : Hid ((((w.alloc (.cells #[.int .i64 (T 0), .int .i64 (T 1), .int .i64 (T 2), .int .i64 (T 3), .int .i64 (T 4), .int .i64 (T 5), .int .i64 (T 6), .int .i64 (T 7)] 58)).alloc (.cells #[.int .i64 (K 0), .int .i64 (K 1), .int .i64 (K 2), .int .i64 (K 3), .int .i64 (K 4), .int .i64 (K 5), .int .i64 (K 6), .int .i64 (K 7), .int .i64 (K 8), .int .i64 (K 9), .int .i64 (K 10), .int .i64 (K 11), .int .i64 (K 12), .int .i64 (K 13), .int .i64 (K 14), .int .i64 (K 15)] 61)).alloc (.cells zeroCs 67)).heap[w.heap.size]? = some (.cells #[.int .i64 (T 0), .int .i64 (T 1), .int .i64 (T 2), .int .i64 (T 3), .int .i64 (T 4), .int .i64 (T 5), .int .i64 (T 6), .int .i64 (T 7)] 58 (0, 0))) := first_box _ _ _ _
  have HY : Hid ((((w.alloc (.cells #[.int .i64 (T 0), .int .i64 (T 1), .int .i64 (T 2), .int .i64 (T 3), .int .i64 (T 4), .int .i64 (T 5), .int .i64 (T 6), .int .i64 (T 7)] 58)).alloc (.cells #[.int .i64 (K 0), .int .i64 (K 1), .int .i64 (K 2), .int .i64 (K 3), .int .i64 (K 4), .int .i64 (K 5), .int .i64 (K 6), .int .i64 (K 7), .int .i64 (K 8), .int .i64 (K 9), .int .i64 (K 10), .int .i64 (K 11), .int .i64 (K 12), .int .i64 (K 13), .int .i64 (K 14), .int .i64 (K 15)] 61)).alloc (.cells zeroCs 67)).heap[w.heap.size + 1]? = some (.cells #[.int .i64 (K 0), .int .i64 (K 1), .int .i64 (K 2), .int .i64 (K 3), .int .i64 (K 4), .int .i64 (K 5), .int .i64 (K 6), .int .i64 (K 7), .int .i64 (K 8), .int .i64 (K 9), .int .i64 (K 10), .int .i64 (K 11), .int .i64 (K 12), .int .i64 (K 13), .int .i64 (K 14), .int .i64 (K 15)] 61 (0, 0))) := second_box _ _ _ _
  clear hst h hbk hT hK ht hN h1 h2
  go_enter Tryd.func28, Tryd.ntmps28
  go_wp2_with (first
    | (go_at_call 8; refine (HC.out _ HB.out).mono ?_; rintro e w1 ⟨rfl, hb1⟩; have HZ1 : Hid (w1.heap[w.heap.size + 1 + 1]? = some (.cells zeroCs 67 (0, 0))) := (hb1.block (w.heap.size + 1 + 1) (by simp)).trans HT.out; have HX1 : Hid (w1.heap[w.heap.size]? = some (.cells #[.int .i64 (T 0), .int .i64 (T 1), .int .i64 (T 2), .int .i64 (T 3), .int .i64 (T 4), .int .i64 (T 5), .int .i64 (T 6), .int .i64 (T 7)] 58 (0, 0))) := (hb1.block w.heap.size (by simp; omega)).trans HX.out; have HY1 : Hid (w1.heap[w.heap.size + 1]? = some (.cells #[.int .i64 (K 0), .int .i64 (K 1), .int .i64 (K 2), .int .i64 (K 3), .int .i64 (K 4), .int .i64 (K 5), .int .i64 (K 6), .int .i64 (K 7), .int .i64 (K 8), .int .i64 (K 9), .int .i64 (K 10), .int .i64 (K 11), .int .i64 (K 12), .int .i64 (K 13), .int .i64 (K 14), .int .i64 (K 15)] 61 (0, 0))) := (hb1.block (w.heap.size + 1) (by simp)).trans HY.out; have HBW : Hid (Below w.heap.size w w1) := HB.out.trans (hb1.mono HB.out.size); have HS1 : Hid (w.heap.size + 1 + 1 < w1.heap.size) := (by have := hb1.size; simp at this; show w.heap.size + 1 + 1 < w1.heap.size; omega); clear hb1)
    | (refine wpList_load_row rfl 58 (.tmp 5) rfl w.heap.size rfl 58 #[.int .i64 (T 0), .int .i64 (T 1), .int .i64 (T 2), .int .i64 (T 3), .int .i64 (T 4), .int .i64 (T 5), .int .i64 (T 6), .int .i64 (T 7)] (0, 0) _ HX1.out Tryd.underlying58 rfl Tryd.infoT ?_)
    | (refine wpList_load_row rfl 61 (.tmp 6) rfl (w.heap.size + 1) rfl 61 #[.int .i64 (K 0), .int .i64 (K 1), .int .i64 (K 2), .int .i64 (K 3), .int .i64 (K 4), .int .i64 (K 5), .int .i64 (K 6), .int .i64 (K 7), .int .i64 (K 8), .int .i64 (K 9), .int .i64 (K 10), .int .i64 (K 11), .int .i64 (K 12), .int .i64 (K 13), .int .i64 (K 14), .int .i64 (K 15)] (0, 0) _ HY1.out Tryd.underlying61 rfl Tryd.infoK ?_)
    | (go_at_call 62; refine (begin_all T K time _).mono ?_; rintro e w2 ⟨rfl, hb2, hM2⟩; obtain ⟨B, hBe⟩ : ∃ B, w1.heap.size + 1 + 1 = B := ⟨_, rfl⟩; rw [hBe] at hM2 ⊢; have HBe : Hid (w.heap.size + 1 + 1 < B) := (by have := HS1.out; show w.heap.size + 1 + 1 < B; omega); have HM2 : Hid (MacAt w2 B (start T K time)) := hM2; have HB2 : Hid (Below w1.heap.size w1 w2) := hb2; clear hBe hM2 hb2)
    | (go_at_call 63; go_must (refine (HG.out B _ (by have := HBe.out; omega) (HBW.out.trans (HB2.out.mono HBW.out.size)) HM2.out).mono ?_; rintro e w3 ⟨E, rfl, hg⟩; rw [HR.out] at hg; obtain ⟨hb3, m3, L3, hM3, hO3, hE, hst3, ha3, hn3⟩ := hg; subst hE; have HA : Hid (m3.abs L3 = a) := ha3; have HK0 : Hid (m3.steps = (k : Int)) := hst3; have HN3 : Hid (n0 = (a.reg 0).n) := hn3; have HO3 : Hid (OutAt w3 B m3.out L3) := hO3; clear hst3 hO3 ha3 hn3; have HZ3 : Hid (w3.heap[w.heap.size + 1 + 1]? = some (.cells zeroCs 67 (0, 0))) := (hb3.block _ HBe.out).trans ((HB2.out.block _ HS1.out).trans HZ1.out); have HBW3 : Hid (Below w.heap.size w w3) := (HBW.out.trans (HB2.out.mono HBW.out.size)).trans (hb3.mono (by have := HBe.out; omega)); have hz3 : ∀ o, w3.cell? ⟨w.heap.size + 1 + 1, o, none⟩ = [.int .i64 0, .int .i64 0, .int .i64 0, .int .i64 0, .int .i64 0, .int .i64 0, .int .i64 0, .int .i64 0, .int .i64 0, .int .i64 0, .int .i64 0, .int .i64 0, .int .i64 0, .int .i64 0, .int .i64 0, .int .i64 0, .int .i64 0, .slice none 0 0, .int .i64 0][o]? := (fun o => (cell_of_row w3 _ o zeroCs _ _ HZ3.out).trans (zeroCs_at o)); have fz3 : ∀ o, w3.frozen? ⟨w.heap.size + 1 + 1, o, none⟩ = false := (fun o => by simp [World.frozen?, HZ3.out]); have hB3 := hM3.lt; have hS3 : w.heap.size + 1 + 1 < w3.heap.size := (by have := HBe.out; omega); have hne : w.heap.size + 1 + 1 ≠ B := (by have := HBe.out; omega)))
    | fail)
  clear HC HG HB HT HX HY HX1 HY1 HZ1 HB2 HM2 HBW hz3 fz3
  obtain ⟨v3, hv3⟩ : ∃ v3, m3.out = v3 := ⟨_, rfl⟩
  have HV3 : Hid (some m3.out = some v3) := congrArg some hv3
  have HVV : Hid (m3.out = v3) := hv3
  have HSL : Hid (∃ q1 q2 q3, v3 = .slice q1 q2 q3) := by obtain ⟨p, c, hh⟩ := HO3.out.shape; exact ⟨p, _, c, hv3.symm.trans hh⟩
  have HK3 : Hid (some (Value.int .i64 m3.steps) = some (.int .i64 (k : Int))) := congrArg (fun x => some (Value.int .i64 x)) HK0.out
  have HN0 : Hid (some (m3.cell 3) = some (.int .i64 n0)) := by rw [HN3.out, ← HA.out]; rfl
  clear hv3
  refine wp_region_held_drew (S := RS2 B (w.heap.size + 1 + 1) m3) (by kernel_rfl) ⟨hM3, zeroCs, rfl, HZ3.out⟩ fun hS => ?_
  change wpAnyH _ _ _ _ _ 21 (Array.replicate 21 false) _ _
  refine takeH (i := 0) (some 37) (.pointer (some ⟨B, 0, none⟩)) rfl rfl (by kernel_rfl) (by kernel_rfl) (by kernel_rfl) (fun _ _ _ h => h) (by rfl) (fun W hW => ?_) hS ?_
  · go_simp
  simp only [Act.put, List.setIfInBounds_toArray, List.set_cons_zero, List.set_cons_succ]
  refine takeH (i := 1) (some 38) (.pointer (some ⟨B, 0, none⟩)) rfl rfl (by kernel_rfl) (by kernel_rfl) (by kernel_rfl) (fun _ _ _ h => h) (by rfl) (fun W hW => ?_) hS ?_
  · go_simp
  simp only [Act.put, List.setIfInBounds_toArray, List.set_cons_zero, List.set_cons_succ]
  refine takeH (i := 2) (some 39) (.pointer (some ⟨B, 2, none⟩)) rfl rfl (by kernel_rfl) (by kernel_rfl) (by kernel_rfl) (fun _ _ _ h => h) (by rfl) (fun W hW => ?_) hS ?_
  · go_simp
  simp only [Act.put, List.setIfInBounds_toArray, List.set_cons_zero, List.set_cons_succ]
  refine takeH (i := 3) (some 40) (.pointer (some ⟨B, 2, none⟩)) rfl rfl (by kernel_rfl) (by kernel_rfl) (by kernel_rfl) (fun _ _ _ h => h) (by rfl) (fun W hW => ?_) hS ?_
  · go_simp
  simp only [Act.put, List.setIfInBounds_toArray, List.set_cons_zero, List.set_cons_succ]
  refine takeH (i := 4) (some 41) (.pointer (some ⟨B, 3, none⟩)) rfl rfl (by kernel_rfl) (by kernel_rfl) (by kernel_rfl) (fun _ _ _ h => h) (by rfl) (fun W hW => ?_) hS ?_
  · go_simp
  simp only [Act.put, List.setIfInBounds_toArray, List.set_cons_zero, List.set_cons_succ]
  refine takeH (i := 5) (some 42) (.int .i64 n0) rfl rfl (by kernel_rfl) (by kernel_rfl) (by kernel_rfl) (fun _ _ _ h => h) (by rfl) (fun W hW => ?_) hS ?_
  · have y0 : W.cell? ⟨B, 3, none⟩ = some (.int .i64 n0) := (hW.1.at 3 (by decide)).trans HN0.out
    go_simp
  simp only [Act.put, List.setIfInBounds_toArray, List.set_cons_zero, List.set_cons_succ]
  refine takeH (i := 6) (some 43) (.pointer (some ⟨B, 0, none⟩)) rfl rfl (by kernel_rfl) (by kernel_rfl) (by kernel_rfl) (fun _ _ _ h => h) (by rfl) (fun W hW => ?_) hS ?_
  · go_simp
  simp only [Act.put, List.setIfInBounds_toArray, List.set_cons_zero, List.set_cons_succ]
  refine takeH (i := 7) (some 44) (.pointer (some ⟨B, 0, none⟩)) rfl rfl (by kernel_rfl) (by kernel_rfl) (by kernel_rfl) (fun _ _ _ h => h) (by rfl) (fun W hW => ?_) hS ?_
  · go_simp
  simp only [Act.put, List.setIfInBounds_toArray, List.set_cons_zero, List.set_cons_succ]
  refine takeH (i := 8) (some 45) (.pointer (some ⟨B, 91, none⟩)) rfl rfl (by kernel_rfl) (by kernel_rfl) (by kernel_rfl) (fun _ _ _ h => h) (by rfl) (fun W hW => ?_) hS ?_
  · go_simp
  simp only [Act.put, List.setIfInBounds_toArray, List.set_cons_zero, List.set_cons_succ]
  refine takeH (i := 9) (some 46) (.agg #[.int .i64 (a.cel 0), .int .i64 (a.cel 1), .int .i64 (a.cel 2), .int .i64 (a.cel 3), .int .i64 (a.cel 4), .int .i64 (a.cel 5), .int .i64 (a.cel 6), .int .i64 (a.cel 7), .int .i64 (a.cel 8), .int .i64 (a.cel 9), .int .i64 (a.cel 10), .int .i64 (a.cel 11), .int .i64 (a.cel 12), .int .i64 (a.cel 13), .int .i64 (a.cel 14), .int .i64 (a.cel 15)]) rfl rfl (by kernel_rfl) (by kernel_rfl) (by kernel_rfl) (fun _ _ _ h => h) (by rfl) (fun W hW => ?_) hS ?_
  · refine load_tab (x := .tmp 45) W B m3 a hW.1 HA.out _ rfl ?_ ?_
    · rfl
    · rfl
  simp only [Act.put, List.setIfInBounds_toArray, List.set_cons_zero, List.set_cons_succ]
  refine takeH (i := 10) (some 47) (.pointer (some ⟨B, 0, none⟩)) rfl rfl (by kernel_rfl) (by kernel_rfl) (by kernel_rfl) (fun _ _ _ h => h) (by rfl) (fun W hW => ?_) hS ?_
  · go_simp
  simp only [Act.put, List.setIfInBounds_toArray, List.set_cons_zero, List.set_cons_succ]
  refine takeH (i := 11) (some 48) (.pointer (some ⟨B, 0, none⟩)) rfl rfl (by kernel_rfl) (by kernel_rfl) (by kernel_rfl) (fun _ _ _ h => h) (by rfl) (fun W hW => ?_) hS ?_
  · go_simp
  simp only [Act.put, List.setIfInBounds_toArray, List.set_cons_zero, List.set_cons_succ]
  refine takeH (i := 12) (some 49) (.pointer (some ⟨B, 108, none⟩)) rfl rfl (by kernel_rfl) (by kernel_rfl) (by kernel_rfl) (fun _ _ _ h => h) (by rfl) (fun W hW => ?_) hS ?_
  · go_simp
  simp only [Act.put, List.setIfInBounds_toArray, List.set_cons_zero, List.set_cons_succ]
  refine takeH (i := 13) (some 50) (v3) rfl rfl (by kernel_rfl) (by kernel_rfl) (by kernel_rfl) (fun _ _ _ h => h) (by rfl) (fun W hW => ?_) hS ?_
  · have y0 : W.cell? ⟨B, 108, none⟩ = some v3 := hW.1.outv.trans HV3.out
    obtain ⟨q1, q2, q3, hq⟩ := HSL.out
    subst hq
    go_simp
  simp only [Act.put, List.setIfInBounds_toArray, List.set_cons_zero, List.set_cons_succ]
  refine takeH (i := 14) (some 51) (.pointer (some ⟨B, 0, none⟩)) rfl rfl (by kernel_rfl) (by kernel_rfl) (by kernel_rfl) (fun _ _ _ h => h) (by rfl) (fun W hW => ?_) hS ?_
  · go_simp
  simp only [Act.put, List.setIfInBounds_toArray, List.set_cons_zero, List.set_cons_succ]
  refine takeH (i := 15) (some 52) (.pointer (some ⟨B, 0, none⟩)) rfl rfl (by kernel_rfl) (by kernel_rfl) (by kernel_rfl) (fun _ _ _ h => h) (by rfl) (fun W hW => ?_) hS ?_
  · go_simp
  simp only [Act.put, List.setIfInBounds_toArray, List.set_cons_zero, List.set_cons_succ]
  refine takeH (i := 16) (some 53) (.pointer (some ⟨B, 1, none⟩)) rfl rfl (by kernel_rfl) (by kernel_rfl) (by kernel_rfl) (fun _ _ _ h => h) (by rfl) (fun W hW => ?_) hS ?_
  · go_simp
  simp only [Act.put, List.setIfInBounds_toArray, List.set_cons_zero, List.set_cons_succ]
  refine takeH (i := 17) (some 54) (.int .i64 (k : Int)) rfl rfl (by kernel_rfl) (by kernel_rfl) (by kernel_rfl) (fun _ _ _ h => h) (by rfl) (fun W hW => ?_) hS ?_
  · have y0 : W.cell? ⟨B, 1, none⟩ = some (.int .i64 (k : Int)) := hW.1.steps.trans HK3.out
    go_simp
  simp only [Act.put, List.setIfInBounds_toArray, List.set_cons_zero, List.set_cons_succ]
  refine takeH (i := 18) (some 55) (.agg #[.int .i64 n0, .int .i64 (a.cel 0), .int .i64 (a.cel 1), .int .i64 (a.cel 2), .int .i64 (a.cel 3), .int .i64 (a.cel 4), .int .i64 (a.cel 5), .int .i64 (a.cel 6), .int .i64 (a.cel 7), .int .i64 (a.cel 8), .int .i64 (a.cel 9), .int .i64 (a.cel 10), .int .i64 (a.cel 11), .int .i64 (a.cel 12), .int .i64 (a.cel 13), .int .i64 (a.cel 14), .int .i64 (a.cel 15), v3, .int .i64 (k : Int)]) rfl rfl (by kernel_rfl) (by kernel_rfl) (by kernel_rfl) (fun _ _ _ h => h) (by rfl) (fun W hW => ?_) hS ?_
  · obtain ⟨q1, q2, q3, hq⟩ := HSL.out
    subst hq
    go_simp
  simp only [Act.put, List.setIfInBounds_toArray, List.set_cons_zero, List.set_cons_succ]
  refine wpAnyH_ready (rs := [19]) (by kernel_rfl) (by simp) ?_
  have hone : (#[.int .i64 n0, .int .i64 (a.cel 0), .int .i64 (a.cel 1), .int .i64 (a.cel 2), .int .i64 (a.cel 3), .int .i64 (a.cel 4), .int .i64 (a.cel 5), .int .i64 (a.cel 6), .int .i64 (a.cel 7), .int .i64 (a.cel 8), .int .i64 (a.cel 9), .int .i64 (a.cel 10), .int .i64 (a.cel 11), .int .i64 (a.cel 12), .int .i64 (a.cel 13), .int .i64 (a.cel 14), .int .i64 (a.cel 15), v3, .int .i64 (k : Int)] : Array Value).all (·.oneCell') = true := by
    obtain ⟨q1, q2, q3, hq⟩ := HSL.out
    rw [hq]
    kernel_rfl
  have hA : RS2 B (w.heap.size + 1 + 1) m3 (w3.drew.setRow (w.heap.size + 1 + 1) #[.int .i64 n0, .int .i64 (a.cel 0), .int .i64 (a.cel 1), .int .i64 (a.cel 2), .int .i64 (a.cel 3), .int .i64 (a.cel 4), .int .i64 (a.cel 5), .int .i64 (a.cel 6), .int .i64 (a.cel 7), .int .i64 (a.cel 8), .int .i64 (a.cel 9), .int .i64 (a.cel 10), .int .i64 (a.cel 11), .int .i64 (a.cel 12), .int .i64 (a.cel 13), .int .i64 (a.cel 14), .int .i64 (a.cel 15), v3, .int .i64 (k : Int)]) := ⟨(setRow_other w3.drew _ B _ (fun e => hne e.symm)).trans hM3, _, rfl, setRow_heap w3.drew _ zeroCs _ _ _ HZ3.out⟩
  refine stepS (w3.drew.setRow (w.heap.size + 1 + 1) #[.int .i64 n0, .int .i64 (a.cel 0), .int .i64 (a.cel 1), .int .i64 (a.cel 2), .int .i64 (a.cel 3), .int .i64 (a.cel 4), .int .i64 (a.cel 5), .int .i64 (a.cel 6), .int .i64 (a.cel 7), .int .i64 (a.cel 8), .int .i64 (a.cel 9), .int .i64 (a.cel 10), .int .i64 (a.cel 11), .int .i64 (a.cel 12), .int .i64 (a.cel 13), .int .i64 (a.cel 14), .int .i64 (a.cel 15), v3, .int .i64 (k : Int)]) rfl rfl (by rfl) ?_ hA ?_ AllReadyH.nil
  · exact store_run _ _ _ _ _ rfl rfl rfl HZ3.out rfl hone
  simp only [Act.put]
  refine takeH (i := 20) (some 9) (.nilIface) rfl rfl (by kernel_rfl) (by kernel_rfl) (by kernel_rfl) (fun _ _ _ h => h) (by rfl) (fun W hW => ?_) hA ?_
  · go_simp
  simp only [Act.put, List.setIfInBounds_toArray, List.set_cons_zero, List.set_cons_succ]
  refine wpAnyH_done (by kernel_rfl) ?_ _
  go_wp2
  refine bodyPost_ret (v := .tuple #[.agg #[.int .i64 n0, .int .i64 (a.cel 0), .int .i64 (a.cel 1), .int .i64 (a.cel 2), .int .i64 (a.cel 3), .int .i64 (a.cel 4), .int .i64 (a.cel 5), .int .i64 (a.cel 6), .int .i64 (a.cel 7), .int .i64 (a.cel 8), .int .i64 (a.cel 9), .int .i64 (a.cel 10), .int .i64 (a.cel 11), .int .i64 (a.cel 12), .int .i64 (a.cel 13), .int .i64 (a.cel 14), .int .i64 (a.cel 15), v3, .int .i64 (k : Int)], .nilIface]) (ran_results _ _ (w.heap.size + 1 + 1) #[.int .i64 n0, .int .i64 (a.cel 0), .int .i64 (a.cel 1), .int .i64 (a.cel 2), .int .i64 (a.cel 3), .int .i64 (a.cel 4), .int .i64 (a.cel 5), .int .i64 (a.cel 6), .int .i64 (a.cel 7), .int .i64 (a.cel 8), .int .i64 (a.cel 9), .int .i64 (a.cel 10), .int .i64 (a.cel 11), .int .i64 (a.cel 12), .int .i64 (a.cel 13), .int .i64 (a.cel 14), .int .i64 (a.cel 15), v3, .int .i64 (k : Int)] _ rfl rfl (setRow_heap w3.drew _ zeroCs _ _ _ HZ3.out) rfl) rfl ⟨v3, rfl, below_row HBW3.out.drew (by omega) _, ?_⟩
  have hL : L3 = a.out := by rw [← HA.out]; rfl
  have hown : w3.ownsRow (B + 1) 2 1 m3.out L3.length (L3.map (Value.int .i64)) := HO3.out
  rw [HVV.out, hL] at hown
  exact own_row hown (by have := HBe.out; omega) (by have := HBe.out; omega) _
end Go.Proofs.YtegeiicginpdbaaDoor
