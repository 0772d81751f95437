/-
  What package machine's Run answers: by the plain machine. Conditions: the list's cells hold steps; numbers are of 64 bits. Whether two tables are the same: it is told, one way or the other; and of the same two that they are. Conditions: none. What is known of a value, on plain numbers: its kind, and between which ends it is; what a verifier makes of two such, and where a place may lead: what a machine makes of values of which that is known goes well, and what is known of it then holds. No program is named here. Conditions: the ends are of 64 bits. A way of a verifier, on plain numbers: what is known of registers and slots; what a step that asks nothing makes of it, and that a machine of which that is known goes on well. No program is named here. Conditions: the ends are of 64 bits; the step is right. A way of package verify, as it lies in memory: 82 cells: its step, what is known of registers, of slots. No conditions. What the small functions of package verify return, of what is known of a value. No conditions but those that each names. What the functions of package bound return: as functions on integers; the world below is as it was. Conditions: the ends are numbers of 64 bits, the low end not above the high one.
-/
import Derived.Test.YtednmkhdehlojaaGreatDoorJs5
import Derived.BigRegion
import Derived.Deep.MidRow
import Derived.Test.YtednmkhdehlojaaGreatDoorJs3
import Derived.Laws.Tables
import Derived.Laws.Rows
import Derived.BigCall
import Derived.BigGuardPart
import Derived.Test.YtednmkhdehlojaaGreatDoorJs2
import Derived.LoopN
open Go.Value renaming int → vI
open Go.IntKind renaming i64 → vK
open Go.RowKit.Below renaming alloc → bA, setCell → bS, drew → bD, refl → bF
set_option maxHeartbeats 4000000
set_option maxRecDepth 1000000
namespace Go.Proofs.YtednmkhdehlojaaGreatDoor
open Go.ChangeShapes Go.WideShapes Go.ChangeAt Go.RowKit
attribute [local simp] drew_size drewN_size setCell_size
def zeroCs : Array Value := #[vI vK 0, vI vK 0, vI vK 0, vI vK 0, vI vK 0, vI vK 0, vI vK 0, vI vK 0, vI vK 0, vI vK 0, vI vK 0, vI vK 0, vI vK 0, vI vK 0, vI vK 0, vI vK 0, vI vK 0, .slice none 0 0, vI vK 0]
def zeroRan : Value := .agg zeroCs
theorem Tryz.infoK : (Tryz.prog.info? 55).map (·.size) = some 16 := by kernel_rfl
theorem Tryz.infoRan : (Tryz.prog.info? 59).map (·.size) = some 19 := by kernel_rfl
theorem store_ran (W : World) (g : Nat) (cs : Array Value) (h : W.heap[g]? = some (.cells zeroCs 59 (0, 0))) (hs : cs.size = 19) (h1 : cs.all (·.oneCell') = true) : (Instr.storeAt 59 (.pointer (some ⟨g, 0, none⟩)) (.agg cs)).run Tryz.prog W = .ok () (W.setRow g cs) := by
  simp only [Instr.storeAt, Instr.sureAddr, Sem.run_bind, Sem.run_pure, Result.andThen_ok, run_storeVar_row W g 59 59 zeroCs cs h (by rw [Tryz.infoRan, hs]) (by rw [hs]; rfl) h1]
theorem store_run {o : Oper} {a : Act} (W : World) (x y : Operand) (g : Nat) (cs : Array Value) (ho : o.op = .store 59 x y) (hx : a.eval x = .pointer (some ⟨g, 0, none⟩)) (hy : a.eval y = .agg cs) (h : W.heap[g]? = some (.cells zeroCs 59 (0, 0))) (hs : cs.size = 19) (h1 : cs.all (·.oneCell') = true) : (execOp a.eval o).run Tryz.prog W = .ok .skip (W.setRow g cs) := by
  unfold execOp
  simp only [ho, hx, hy, Sem.run_bind, Sem.run_pure, Result.andThen_ok, store_ran W g cs h hs h1]
theorem load_tab {o : Oper} {x : Operand} {u : Act} (W : World) (B : Nat) (m : Mac) (a : Abs) {L : List Int} (hM : MacAt W B m) (ha : m.abs L = a) (cs : Array Value) (hcs : cs = #[vI vK (a.cel 0), vI vK (a.cel 1), vI vK (a.cel 2), vI vK (a.cel 3), vI vK (a.cel 4), vI vK (a.cel 5), vI vK (a.cel 6), vI vK (a.cel 7), vI vK (a.cel 8), vI vK (a.cel 9), vI vK (a.cel 10), vI vK (a.cel 11), vI vK (a.cel 12), vI vK (a.cel 13), vI vK (a.cel 14), vI vK (a.cel 15)]) (ho : o.op = .load 55 x) (hx : u.eval x = .pointer (some ⟨B, 91, none⟩)) : (execOp u.eval o).run Tryz.prog W = .ok (.value (.agg cs)) W := by
  have hr : W.rangeAt B 91 cs.toList := by
    intro j v hv
    have hj : j < 16 := by have := (List.getElem?_eq_some_iff.1 hv).1; rw [hcs] at this; simpa using this
    rw [hM.cel hj]
    rw [show m.cel = a.cel by rw [← ha]; rfl]
    rw [hcs] at hv
    have hk : ∀ i, i < 16 → (#[Value.int .i64 (a.cel 0), Value.int .i64 (a.cel 1), Value.int .i64 (a.cel 2), Value.int .i64 (a.cel 3), Value.int .i64 (a.cel 4), Value.int .i64 (a.cel 5), Value.int .i64 (a.cel 6), Value.int .i64 (a.cel 7), Value.int .i64 (a.cel 8), Value.int .i64 (a.cel 9), Value.int .i64 (a.cel 10), Value.int .i64 (a.cel 11), Value.int .i64 (a.cel 12), Value.int .i64 (a.cel 13), Value.int .i64 (a.cel 14), Value.int .i64 (a.cel 15)] : Array Value).toList[i]? = some (vI vK (a.cel i)) := by
      intro i hi
      rcases (show i = 0 ∨ i = 1 ∨ i = 2 ∨ i = 3 ∨ i = 4 ∨ i = 5 ∨ i = 6 ∨ i = 7 ∨ i = 8 ∨ i = 9 ∨ i = 10 ∨ i = 11 ∨ i = 12 ∨ i = 13 ∨ i = 14 ∨ i = 15 by omega) with rfl | rfl | rfl | rfl | rfl | rfl | rfl | rfl | rfl | rfl | rfl | rfl | rfl | rfl | rfl | rfl <;> rfl
    rw [hk j hj] at hv
    exact hv
  have hl := run_loadVar_mid (P := Tryz.prog) W B 91 55 cs.toList _ hr Tryz.underlying55 rfl (by rw [Tryz.infoK, hcs]; rfl)
  unfold execOp
  simp only [ho, hx, Instr.loadAt, Instr.sureAddr, Sem.run_bind, Sem.run_pure, Result.andThen_ok, hl]
theorem zeroCs_at (o : Nat) : zeroCs[o]? = [vI vK 0, vI vK 0, vI vK 0, vI vK 0, vI vK 0, vI vK 0, vI vK 0, vI vK 0, vI vK 0, vI vK 0, vI vK 0, vI vK 0, vI vK 0, vI vK 0, vI vK 0, vI vK 0, vI vK 0, .slice none 0 0, vI vK 0][o]? := by simp [zeroCs]
theorem zeroCs_one : zeroCs.all (·.oneCell') = true := by kernel_rfl
theorem below_row {B : Nat} {a w : World} (h : Below B a w) {g : Nat} (hg : B ≤ g) (cs : Array Value) : Below B a (w.setRow g cs) :=
  h.trans ⟨rfl, rfl, rfl, by simp, fun k hk => setRow_other w g k cs (by omega)⟩
theorem third_box (w : World) (X Y Z : Obj) : (((w.alloc X).alloc Y).alloc Z).heap[w.heap.size + 1 + 1]? = some Z := by
  have := heap_alloc_new ((w.alloc X).alloc Y) Z
  simp only [World.size_alloc] at this
  exact this
theorem ran_results (tmps : Array Value) (w' : World) (g : Nat) (cs : Array Value) (x : Value) (h8 : tmps.getD 8 undef = .pointer (some ⟨g, 0, none⟩)) (h9 : tmps.getD 9 undef = x) (hg : w'.heap[g]? = some (.cells cs 59 (0, 0))) (hs : cs.size = 19) :
    (results Tryz.f21 tmps).run Tryz.prog w' = .ok (.tuple #[.agg cs, x]) w' := by
  have h8' : tmps[8]?.getD undef = .pointer (some ⟨g, 0, none⟩) := by simpa using h8
  have h9' : tmps[9]?.getD undef = x := by simpa using h9
  have hl := run_loadVar_row (P := Tryz.prog) w' g 59 59 cs (0, 0) _ hg Tryz.underlying59 rfl (by rw [Tryz.infoRan, hs])
  simp [results, Tryz.results21, asAddr, h8', h9', hl]
theorem Tryz.infoT : (Tryz.prog.info? 52).map (·.size) = some 8 := by kernel_rfl
def RS (B g : Nat) (m : Mac) (W : World) : Prop := MacAt W B m ∧ W.heap[g]? = some (.cells zeroCs 59 (0, 0))
theorem RS.row {B g : Nat} {m : Mac} {W : World} (h : RS B g m W) (hne : g ≠ B) : RS B g m (W.setRow g zeroCs) := ⟨(setRow_other W g B zeroCs (fun e => hne e.symm)).trans h.1, setRow_heap W g zeroCs zeroCs _ _ h.2⟩
def RS2 (B g : Nat) (m : Mac) (W : World) : Prop := MacAt W B m ∧ ∃ cs : Array Value, cs.size = 19 ∧ W.heap[g]? = some (.cells cs 59 (0, 0))
theorem own_row {w3 : World} {b b' g : Nat} {e : TypeId} {z : Nat} {v : Value} {n : Nat} {xs : List Value} (h : w3.ownsRow b e z v n xs) (hg : g < b) (hb : b' ≤ b) (cs : Array Value) : (w3.drew.setRow g cs).ownsRow b' e z v n xs := by
  obtain ⟨h1, h2⟩ := h
  refine ⟨h1, ?_⟩
  rcases h2 with h2 | ⟨k, cap, cur, hv, hk, hh, r⟩
  · exact Or.inl h2
  · exact Or.inr ⟨k, cap, cur, hv, by omega, (setRow_other w3.drew g k cs (by omega)).trans hh, r⟩
theorem first_box (w : World) (X Y Z : Obj) : (((w.alloc X).alloc Y).alloc Z).heap[w.heap.size]? = some X := by
  have e1 := Below.heap_alloc ((w.alloc X).alloc Y) Z w.heap.size (by simp; omega)
  have e2 := Below.heap_alloc (w.alloc X) Y w.heap.size (by simp)
  rw [e1, e2]; exact heap_alloc_new w X
theorem second_box (w : World) (X Y Z : Obj) : (((w.alloc X).alloc Y).alloc Z).heap[w.heap.size + 1]? = some Y := by
  have e1 := Below.heap_alloc ((w.alloc X).alloc Y) Z (w.heap.size + 1) (by simp)
  have e2 := heap_alloc_new (w.alloc X) Y
  simp only [World.size_alloc] at e2
  rw [e1, e2]
theorem start_ok {T K : Nat → Int} {time : Int} (hT : ∀ i, i < 8 → In64 (T i)) (hK : ∀ i, i < 16 → In64 (K i)) (ht : In64 time) : ((start T K time).abs []).Ok := by
  refine ⟨fun i _ => ?_, fun i _ => none0_ok, hT, hK, ht, fun x hx => absurd hx (by simp [Mac.abs]), Nat.zero_le _⟩
  show (if i = 10 then (⟨3, 0, 0⟩ : Val) else if i = 1 then ⟨2, 0, 0⟩ else none0).Ok
  split
  · exact ⟨by decide, by decide, ⟨by decide, by decide⟩, by decide, by decide⟩
  split
  · exact ⟨by decide, by decide, ⟨by decide, by decide⟩, by decide, by decide⟩
  · exact none0_ok
theorem run_bad (bk off len cap : Nat) (C D S O N : Nat → Int) (R : Nat → Bool) (T K : Nat → Int) (time : Int) (w : World) (h1 : 1 ≤ len) (h2 : len ≤ 200) (hbk : bk < w.heap.size) (hst : StepsAt w bk off len C D S R O N) (h : ∀ j, j < len → faultAt len C D S R O N j = 0) (hN : ∀ k, k < len → In64 (N k)) (hT : ∀ i, i < 8 → In64 (T i)) (hK : ∀ i, i < 16 → In64 (K i)) (ht : In64 time) (er : Int) (q : Nat) (HR : Hid (runF C D S R O N len 0 0 ((start T K time).abs []) = .bad er q)) :
    Calls Tryz.prog 21 #[.slice (some ⟨bk, off, none⟩) len cap, .agg #[vI vK (T 0), vI vK (T 1), vI vK (T 2), vI vK (T 3), vI vK (T 4), vI vK (T 5), vI vK (T 6), vI vK (T 7)], .agg #[vI vK (K 0), vI vK (K 1), vI vK (K 2), vI vK (K 3), vI vK (K 4), vI vK (K 5), vI vK (K 6), vI vK (K 7), vI vK (K 8), vI vK (K 9), vI vK (K 10), vI vK (K 11), vI vK (K 12), vI vK (K 13), vI vK (K 14), vI vK (K 15)], vI vK time] w fun e w' => ∃ p, e = .returned (.tuple #[zeroRan, .iface 74 (.pointer (some ⟨p, 0, none⟩))]) ∧ Below w.heap.size w w' ∧ p < w'.heap.size ∧ w'.cell? ⟨p, 0, none⟩ = some (vI vK er) ∧ w'.cell? ⟨p, 1, none⟩ = some (vI vK q) ∧ er ≠ 0 := by
  have HC : Hid (∀ W : World, Below w.heap.size w W → Calls Tryz.prog 18 #[.slice (some ⟨bk, off, none⟩) len cap] W fun e w' => e = .returned .nilIface ∧ Below W.heap.size W w') := fun W hW => opCheck_fine h (hst.later hW hbk) h1 h2 (Nat.lt_of_lt_of_le hbk hW.size)
  have HG : Hid (∀ (B : Nat) (W : World), w.heap.size < B → Below w.heap.size w W → MacAt W B (start T K time) → Calls Tryz.prog 42 #[.pointer (some ⟨B, 0, none⟩), .slice (some ⟨bk, off, none⟩) len cap] W fun e w' => ∃ E, e = .returned (vI vK E) ∧ Gone B W w' (runF C D S R O N len 0 0 ((start T K time).abs [])) E) := fun B W hB hW hM => goOn_all B bk off len cap C D S O N R (start T K time) [] W hM (World.ownsRow_nil W (B + 1) _ 1) (start_ok hT hK ht) (hst.later hW hbk) (by omega) h2 h1 h hN rfl rfl
  have HB : Hid (Below w.heap.size w (((w.alloc (.cells #[vI vK (T 0), vI vK (T 1), vI vK (T 2), vI vK (T 3), vI vK (T 4), vI vK (T 5), vI vK (T 6), vI vK (T 7)] 52)).alloc (.cells #[vI vK (K 0), vI vK (K 1), vI vK (K 2), vI vK (K 3), vI vK (K 4), vI vK (K 5), vI vK (K 6), vI vK (K 7), vI vK (K 8), vI vK (K 9), vI vK (K 10), vI vK (K 11), vI vK (K 12), vI vK (K 13), vI vK (K 14), vI vK (K 15)] 55)).alloc (.cells zeroCs 59))) := ((((bF _ _).alloc (Nat.le_refl _) _).alloc (by simp) _).alloc (by simp; omega) _)
  have HT : Hid ((((w.alloc (.cells #[vI vK (T 0), vI vK (T 1), vI vK (T 2), vI vK (T 3), vI vK (T 4), vI vK (T 5), vI vK (T 6), vI vK (T 7)] 52)).alloc (.cells #[vI vK (K 0), vI vK (K 1), vI vK (K 2), vI vK (K 3), vI vK (K 4), vI vK (K 5), vI vK (K 6), vI vK (K 7), vI vK (K 8), vI vK (K 9), vI vK (K 10), vI vK (K 11), vI vK (K 12), vI vK (K 13), vI vK (K 14), vI vK (K 15)] 55)).alloc (.cells zeroCs 59)).heap[w.heap.size + 1 + 1]? = some (.cells zeroCs 59 (0, 0))) := third_box _ _ _ _
  have HX : Hid ((((w.alloc (.cells #[vI vK (T 0), vI vK (T 1), vI vK (T 2), vI vK (T 3), vI vK (T 4), vI vK (T 5), vI vK (T 6), vI vK (T 7)] 52)).alloc (.cells #[vI vK (K 0), vI vK (K 1), vI vK (K 2), vI vK (K 3), vI vK (K 4), vI vK (K 5), vI vK (K 6), vI vK (K 7), vI vK (K 8), vI vK (K 9), vI vK (K 10), vI vK (K 11), vI vK (K 12), vI vK (K 13), vI vK (K 14), vI vK (K 15)] 55)).alloc (.cells zeroCs 59)).heap[w.heap.size]? = some (.cells #[vI vK (T 0), vI vK (T 1), vI vK (T 2), vI vK (T 3), vI vK (T 4), vI vK (T 5), vI vK (T 6), vI vK (T 7)] 52 (0, 0))) := first_box _ _ _ _
  have HY : Hid ((((w.alloc (.cells #[vI vK (T 0), vI vK (T 1), vI vK (T 2), vI vK (T 3), vI vK (T 4), vI vK (T 5), vI vK (T 6), vI vK (T 7)] 52)).alloc (.cells #[vI vK (K 0), vI vK (K 1), vI vK (K 2), vI vK (K 3), vI vK (K 4), vI vK (K 5), vI vK (K 6), vI vK (K 7), vI vK (K 8), vI vK (K 9), vI vK (K 10), vI vK (K 11), vI vK (K 12), vI vK (K 13), vI vK (K 14), vI vK (K 15)] 55)).alloc (.cells zeroCs 59)).heap[w.heap.size + 1]? = some (.cells #[vI vK (K 0), vI vK (K 1), vI vK (K 2), vI vK (K 3), vI vK (K 4), vI vK (K 5), vI vK (K 6), vI vK (K 7), vI vK (K 8), vI vK (K 9), vI vK (K 10), vI vK (K 11), vI vK (K 12), vI vK (K 13), vI vK (K 14), vI vK (K 15)] 55 (0, 0))) := second_box _ _ _ _
  clear hst h hbk hT hK ht hN h1 h2
  go_enter Tryz.func21, Tryz.ntmps21
  go_wp2_with (first
    | (go_at_call 18; refine (HC.out _ HB.out).mono ?_; rintro e w1 ⟨rfl, hb1⟩; have HZ1 : Hid (w1.heap[w.heap.size + 1 + 1]? = some (.cells zeroCs 59 (0, 0))) := (hb1.block (w.heap.size + 1 + 1) (by simp)).trans HT.out; have HX1 : Hid (w1.heap[w.heap.size]? = some (.cells #[vI vK (T 0), vI vK (T 1), vI vK (T 2), vI vK (T 3), vI vK (T 4), vI vK (T 5), vI vK (T 6), vI vK (T 7)] 52 (0, 0))) := (hb1.block w.heap.size (by simp; omega)).trans HX.out; have HY1 : Hid (w1.heap[w.heap.size + 1]? = some (.cells #[vI vK (K 0), vI vK (K 1), vI vK (K 2), vI vK (K 3), vI vK (K 4), vI vK (K 5), vI vK (K 6), vI vK (K 7), vI vK (K 8), vI vK (K 9), vI vK (K 10), vI vK (K 11), vI vK (K 12), vI vK (K 13), vI vK (K 14), vI vK (K 15)] 55 (0, 0))) := (hb1.block (w.heap.size + 1) (by simp)).trans HY.out; have HBW : Hid (Below w.heap.size w w1) := HB.out.trans (hb1.mono HB.out.size); have HS1 : Hid (w.heap.size + 1 + 1 < w1.heap.size) := (by have := hb1.size; simp at this; show w.heap.size + 1 + 1 < w1.heap.size; omega); clear hb1)
    | (refine wpList_load_row rfl 52 (.tmp 5) rfl w.heap.size rfl 52 #[vI vK (T 0), vI vK (T 1), vI vK (T 2), vI vK (T 3), vI vK (T 4), vI vK (T 5), vI vK (T 6), vI vK (T 7)] (0, 0) _ HX1.out Tryz.underlying52 rfl Tryz.infoT ?_)
    | (refine wpList_load_row rfl 55 (.tmp 6) rfl (w.heap.size + 1) rfl 55 #[vI vK (K 0), vI vK (K 1), vI vK (K 2), vI vK (K 3), vI vK (K 4), vI vK (K 5), vI vK (K 6), vI vK (K 7), vI vK (K 8), vI vK (K 9), vI vK (K 10), vI vK (K 11), vI vK (K 12), vI vK (K 13), vI vK (K 14), vI vK (K 15)] (0, 0) _ HY1.out Tryz.underlying55 rfl Tryz.infoK ?_)
    | (go_at_call 41; refine (begin_all T K time _).mono ?_; rintro e w2 ⟨rfl, hb2, hM2⟩; obtain ⟨B, hBe⟩ : ∃ B, w1.heap.size + 1 + 1 = B := ⟨_, rfl⟩; rw [hBe] at hM2 ⊢; have HBe : Hid (w.heap.size + 1 + 1 < B) := (by have := HS1.out; show w.heap.size + 1 + 1 < B; omega); have HM2 : Hid (MacAt w2 B (start T K time)) := hM2; have HB2 : Hid (Below w1.heap.size w1 w2) := hb2; clear hBe hM2 hb2)
    | (go_at_call 42; go_must (refine (HG.out B _ (by have := HBe.out; omega) (HBW.out.trans (HB2.out.mono HBW.out.size)) HM2.out).mono ?_; rintro e w3 ⟨E, rfl, hg⟩; rw [HR.out] at hg; obtain ⟨hb3, m3, L3, hM3, hO3, hE, hE0, hst3⟩ := hg; subst hE; have HE0 : Hid (E ≠ 0) := hE0; have he1 : (E != 0) = true := (by simpa using hE0); have HQ : Hid (m3.step = (q : Int)) := hst3; clear hE0 hst3 hO3; have HZ3 : Hid (w3.heap[w.heap.size + 1 + 1]? = some (.cells zeroCs 59 (0, 0))) := (hb3.block _ HBe.out).trans ((HB2.out.block _ HS1.out).trans HZ1.out); have HBW3 : Hid (Below w.heap.size w w3) := (HBW.out.trans (HB2.out.mono HBW.out.size)).trans (hb3.mono (by have := HBe.out; omega)); have hz3 : ∀ o, w3.cell? ⟨w.heap.size + 1 + 1, o, none⟩ = [vI vK 0, vI vK 0, vI vK 0, vI vK 0, vI vK 0, vI vK 0, vI vK 0, vI vK 0, vI vK 0, vI vK 0, vI vK 0, vI vK 0, vI vK 0, vI vK 0, vI vK 0, vI vK 0, vI vK 0, .slice none 0 0, vI vK 0][o]? := (fun o => (cell_of_row w3 _ o zeroCs _ _ HZ3.out).trans (zeroCs_at o)); have fz3 : ∀ o, w3.frozen? ⟨w.heap.size + 1 + 1, o, none⟩ = false := (fun o => by simp [World.frozen?, HZ3.out]); have hB3 := hM3.lt; have hS3 : w.heap.size + 1 + 1 < w3.heap.size := (by have := HBe.out; omega); have hne : w.heap.size + 1 + 1 ≠ B := (by have := HBe.out; omega)))
    | fail)
  clear HC HG HB HT HX HY HX1 HY1 HZ1 HB2 HM2 HBW hz3 fz3
  refine wp_region_held_drew (S := RS B (w.heap.size + 1 + 1) m3) (by kernel_rfl) ⟨hM3, HZ3.out⟩ fun hS => ?_
  change wpAnyH _ _ _ _ _ 11 (Array.replicate 11 false) _ _
  refine takeH (i := 0) (some 28) (.agg #[vI vK 0, vI vK 0, vI vK 0, vI vK 0, vI vK 0, vI vK 0, vI vK 0, vI vK 0, vI vK 0, vI vK 0, vI vK 0, vI vK 0, vI vK 0, vI vK 0, vI vK 0, vI vK 0, vI vK 0, .slice none 0 0, vI vK 0]) rfl rfl (by kernel_rfl) (by kernel_rfl) (by kernel_rfl) (fun _ _ _ h => h) (by rfl) (fun W hW => ?_) hS ?_
  · go_simp
  simp only [Act.put, siA, scZ, scS]
  refine takeH (i := 1) (some 29) (vI vK E) rfl rfl (by kernel_rfl) (by kernel_rfl) (by kernel_rfl) (fun _ _ _ h => h) (by rfl) (fun W hW => ?_) hS ?_
  · go_simp
  simp only [Act.put, siA, scZ, scS]
  refine takeH (i := 2) (some 30) (.pointer (some ⟨B, 0, none⟩)) rfl rfl (by kernel_rfl) (by kernel_rfl) (by kernel_rfl) (fun _ _ _ h => h) (by rfl) (fun W hW => ?_) hS ?_
  · go_simp
  simp only [Act.put, siA, scZ, scS]
  refine takeH (i := 3) (some 31) (.pointer (some ⟨B, 0, none⟩)) rfl rfl (by kernel_rfl) (by kernel_rfl) (by kernel_rfl) (fun _ _ _ h => h) (by rfl) (fun W hW => ?_) hS ?_
  · go_simp
  simp only [Act.put, siA, scZ, scS]
  refine takeH (i := 4) (some 32) (.pointer (some ⟨B, 0, none⟩)) rfl rfl (by kernel_rfl) (by kernel_rfl) (by kernel_rfl) (fun _ _ _ h => h) (by rfl) (fun W hW => ?_) hS ?_
  · go_simp
  simp only [Act.put, siA, scZ, scS]
  refine takeH (i := 5) (some 33) (vI vK (q : Int)) rfl rfl (by kernel_rfl) (by kernel_rfl) (by kernel_rfl) (fun _ _ _ h => h) (by rfl) (fun W hW => ?_) hS ?_
  · have y0 : W.cell? ⟨B, 0, none⟩ = some (vI vK (q : Int)) := (by rw [hW.1.step]; exact congrArg _ (congrArg _ HQ.out))
    go_simp
  simp only [Act.put, siA, scZ, scS]
  refine takeH (i := 6) (some 34) (.agg #[vI vK E, vI vK (q : Int)]) rfl rfl (by kernel_rfl) (by kernel_rfl) (by kernel_rfl) (fun _ _ _ h => h) (by rfl) (fun W hW => ?_) hS ?_
  · go_simp
  simp only [Act.put, siA, scZ, scS]
  refine wpAnyH_ready (rs := [7, 9]) (by kernel_rfl) (by simp) ?_
  have hA : RS B (w.heap.size + 1 + 1) m3 (w3.drew.alloc (.cells #[vI vK E, vI vK (q : Int)] 75)) := ⟨hM3.drew.alloc _, (Below.heap_alloc w3.drew _ _ hS3).trans HZ3.out⟩
  have hA2 : RS B (w.heap.size + 1 + 1) m3 ((w3.drew.alloc (.cells #[vI vK E, vI vK (q : Int)] 75)).setRow (w.heap.size + 1 + 1) zeroCs) := RS.row hA hne
  have hA3 : RS B (w.heap.size + 1 + 1) m3 (w3.drew.setRow (w.heap.size + 1 + 1) zeroCs) := RS.row hS hne
  have hA4 : RS B (w.heap.size + 1 + 1) m3 ((w3.drew.setRow (w.heap.size + 1 + 1) zeroCs).alloc (.cells #[vI vK E, vI vK (q : Int)] 75)) := ⟨hA3.1.alloc _, (Below.heap_alloc _ _ _ (by simpa using hS3)).trans hA3.2⟩
  refine stepH (some 35) (.pointer (some ⟨w3.heap.size, 0, none⟩)) (w3.drew.alloc (.cells #[vI vK E, vI vK (q : Int)] 75)) rfl rfl (by rfl) ?_ hA ?_ (stepS (w3.drew.setRow (w.heap.size + 1 + 1) zeroCs) rfl rfl (by rfl) ?_ hA3 ?_ AllReadyH.nil)
  · go_simp
  · simp only [Act.put, siA, scZ, scS]
    refine takeH (i := 8) (some 36) (.iface 74 (.pointer (some ⟨w3.heap.size, 0, none⟩))) rfl rfl (by kernel_rfl) (by kernel_rfl) (by kernel_rfl) (fun _ _ _ h => h) (by rfl) (fun W hW => ?_) hA ?_
    · go_simp
    simp only [Act.put, siA, scZ, scS]
    refine wpAnyH_ready (rs := [9]) (by kernel_rfl) (by simp) ?_
    refine stepS ((w3.drew.alloc (.cells #[vI vK E, vI vK (q : Int)] 75)).setRow (w.heap.size + 1 + 1) zeroCs) rfl rfl (by rfl) ?_ hA2 ?_ AllReadyH.nil
    · exact store_run _ _ _ _ _ rfl rfl rfl hA.2 rfl zeroCs_one
    simp only [Act.put]
    refine takeH (i := 10) (some 9) (.iface 74 (.pointer (some ⟨w3.heap.size, 0, none⟩))) rfl rfl (by kernel_rfl) (by kernel_rfl) (by kernel_rfl) (fun _ _ _ h => h) (by rfl) (fun W hW => ?_) hA2 ?_
    · go_simp
    simp only [Act.put, siA, scZ, scS]
    refine wpAnyH_done (by kernel_rfl) ?_ _
    go_wp2
    exact bodyPost_ret (v := .tuple #[zeroRan, .iface 74 (.pointer (some ⟨w3.heap.size, 0, none⟩))]) (ran_results _ _ (w.heap.size + 1 + 1) zeroCs _ rfl rfl hA2.2 rfl) rfl ⟨w3.heap.size, rfl, below_row ((HBW3.out.drew).alloc (by have := HBW3.out.size; simpa using this) _) (by omega) _, by simp, by rw [cell_setRow_other _ _ _ _ (by show w3.heap.size ≠ _; omega), World.cell?_alloc_at _ _ _ _ (by simp)]; rfl, by rw [cell_setRow_other _ _ _ _ (by show w3.heap.size ≠ _; omega), World.cell?_alloc_at _ _ _ _ (by simp)]; rfl, HE0.out⟩
  · exact store_run _ _ _ _ _ rfl rfl rfl hS.2 rfl zeroCs_one
  · simp only [Act.put]
    refine wpAnyH_ready (rs := [7]) (by kernel_rfl) (by simp) ?_
    refine stepH (some 35) (.pointer (some ⟨w3.heap.size, 0, none⟩)) ((w3.drew.setRow (w.heap.size + 1 + 1) zeroCs).alloc (.cells #[vI vK E, vI vK (q : Int)] 75)) rfl rfl (by rfl) ?_ hA4 ?_ AllReadyH.nil
    · go_simp
    simp only [Act.put, siA, scZ, scS]
    refine takeH (i := 8) (some 36) (.iface 74 (.pointer (some ⟨w3.heap.size, 0, none⟩))) rfl rfl (by kernel_rfl) (by kernel_rfl) (by kernel_rfl) (fun _ _ _ h => h) (by rfl) (fun W hW => ?_) hA4 ?_
    · go_simp
    simp only [Act.put, siA, scZ, scS]
    refine takeH (i := 10) (some 9) (.iface 74 (.pointer (some ⟨w3.heap.size, 0, none⟩))) rfl rfl (by kernel_rfl) (by kernel_rfl) (by kernel_rfl) (fun _ _ _ h => h) (by rfl) (fun W hW => ?_) hA4 ?_
    · go_simp
    simp only [Act.put, siA, scZ, scS]
    refine wpAnyH_done (by kernel_rfl) ?_ _
    go_wp2
    exact bodyPost_ret (v := .tuple #[zeroRan, .iface 74 (.pointer (some ⟨w3.heap.size, 0, none⟩))]) (ran_results _ _ (w.heap.size + 1 + 1) zeroCs _ rfl rfl hA4.2 rfl) rfl ⟨w3.heap.size, rfl, (below_row HBW3.out.drew (by omega) _).alloc (by have := HBW3.out.size; simpa using this) _, by simp, by rw [World.cell?_alloc_at _ _ _ _ (by simp)]; rfl, by rw [World.cell?_alloc_at _ _ _ _ (by simp)]; rfl, HE0.out⟩
theorem run_fine (bk off len cap : Nat) (C D S O N : Nat → Int) (R : Nat → Bool) (T K : Nat → Int) (time : Int) (w : World) (h1 : 1 ≤ len) (h2 : len ≤ 200) (hbk : bk < w.heap.size) (hst : StepsAt w bk off len C D S R O N) (h : ∀ j, j < len → faultAt len C D S R O N j = 0) (hN : ∀ k, k < len → In64 (N k)) (hT : ∀ i, i < 8 → In64 (T i)) (hK : ∀ i, i < 16 → In64 (K i)) (ht : In64 time) (n0 : Int) (k : Nat) (a : Abs) (HR : Hid (runF C D S R O N len 0 0 ((start T K time).abs []) = .fine n0 k a)) :
    Calls Tryz.prog 21 #[.slice (some ⟨bk, off, none⟩) len cap, .agg #[vI vK (T 0), vI vK (T 1), vI vK (T 2), vI vK (T 3), vI vK (T 4), vI vK (T 5), vI vK (T 6), vI vK (T 7)], .agg #[vI vK (K 0), vI vK (K 1), vI vK (K 2), vI vK (K 3), vI vK (K 4), vI vK (K 5), vI vK (K 6), vI vK (K 7), vI vK (K 8), vI vK (K 9), vI vK (K 10), vI vK (K 11), vI vK (K 12), vI vK (K 13), vI vK (K 14), vI vK (K 15)], vI vK time] w fun e w' => ∃ v3, e = .returned (.tuple #[.agg #[vI vK n0, vI vK (a.cel 0), vI vK (a.cel 1), vI vK (a.cel 2), vI vK (a.cel 3), vI vK (a.cel 4), vI vK (a.cel 5), vI vK (a.cel 6), vI vK (a.cel 7), vI vK (a.cel 8), vI vK (a.cel 9), vI vK (a.cel 10), vI vK (a.cel 11), vI vK (a.cel 12), vI vK (a.cel 13), vI vK (a.cel 14), vI vK (a.cel 15), v3, vI vK (k : Int)], .nilIface]) ∧ Below w.heap.size w w' ∧ w'.ownsRow (w.heap.size + 1) 2 1 v3 a.out.length (a.out.map (Value.int .i64)) := by
  have HC : Hid (∀ W : World, Below w.heap.size w W → Calls Tryz.prog 18 #[.slice (some ⟨bk, off, none⟩) len cap] W fun e w' => e = .returned .nilIface ∧ Below W.heap.size W w') := fun W hW => opCheck_fine h (hst.later hW hbk) h1 h2 (Nat.lt_of_lt_of_le hbk hW.size)
  have HG : Hid (∀ (B : Nat) (W : World), w.heap.size < B → Below w.heap.size w W → MacAt W B (start T K time) → Calls Tryz.prog 42 #[.pointer (some ⟨B, 0, none⟩), .slice (some ⟨bk, off, none⟩) len cap] W fun e w' => ∃ E, e = .returned (vI vK E) ∧ Gone B W w' (runF C D S R O N len 0 0 ((start T K time).abs [])) E) := fun B W hB hW hM => goOn_all B bk off len cap C D S O N R (start T K time) [] W hM (World.ownsRow_nil W (B + 1) _ 1) (start_ok hT hK ht) (hst.later hW hbk) (by omega) h2 h1 h hN rfl rfl
  have HB : Hid (Below w.heap.size w (((w.alloc (.cells #[vI vK (T 0), vI vK (T 1), vI vK (T 2), vI vK (T 3), vI vK (T 4), vI vK (T 5), vI vK (T 6), vI vK (T 7)] 52)).alloc (.cells #[vI vK (K 0), vI vK (K 1), vI vK (K 2), vI vK (K 3), vI vK (K 4), vI vK (K 5), vI vK (K 6), vI vK (K 7), vI vK (K 8), vI vK (K 9), vI vK (K 10), vI vK (K 11), vI vK (K 12), vI vK (K 13), vI vK (K 14), vI vK (K 15)] 55)).alloc (.cells zeroCs 59))) := ((((bF _ _).alloc (Nat.le_refl _) _).alloc (by simp) _).alloc (by simp; omega) _)
  have HT : Hid ((((w.alloc (.cells #[vI vK (T 0), vI vK (T 1), vI vK (T 2), vI vK (T 3), vI vK (T 4), vI vK (T 5), vI vK (T 6), vI vK (T 7)] 52)).alloc (.cells #[vI vK (K 0), vI vK (K 1), vI vK (K 2), vI vK (K 3), vI vK (K 4), vI vK (K 5), vI vK (K 6), vI vK (K 7), vI vK (K 8), vI vK (K 9), vI vK (K 10), vI vK (K 11), vI vK (K 12), vI vK (K 13), vI vK (K 14), vI vK (K 15)] 55)).alloc (.cells zeroCs 59)).heap[w.heap.size + 1 + 1]? = some (.cells zeroCs 59 (0, 0))) := third_box _ _ _ _
  have HX : Hid ((((w.alloc (.cells #[vI vK (T 0), vI vK (T 1), vI vK (T 2), vI vK (T 3), vI vK (T 4), vI vK (T 5), vI vK (T 6), vI vK (T 7)] 52)).alloc (.cells #[vI vK (K 0), vI vK (K 1), vI vK (K 2), vI vK (K 3), vI vK (K 4), vI vK (K 5), vI vK (K 6), vI vK (K 7), vI vK (K 8), vI vK (K 9), vI vK (K 10), vI vK (K 11), vI vK (K 12), vI vK (K 13), vI vK (K 14), vI vK (K 15)] 55)).alloc (.cells zeroCs 59)).heap[w.heap.size]? = some (.cells #[vI vK (T 0), vI vK (T 1), vI vK (T 2), vI vK (T 3), vI vK (T 4), vI vK (T 5), vI vK (T 6), vI vK (T 7)] 52 (0, 0))) := first_box _ _ _ _
  have HY : Hid ((((w.alloc (.cells #[vI vK (T 0), vI vK (T 1), vI vK (T 2), vI vK (T 3), vI vK (T 4), vI vK (T 5), vI vK (T 6), vI vK (T 7)] 52)).alloc (.cells #[vI vK (K 0), vI vK (K 1), vI vK (K 2), vI vK (K 3), vI vK (K 4), vI vK (K 5), vI vK (K 6), vI vK (K 7), vI vK (K 8), vI vK (K 9), vI vK (K 10), vI vK (K 11), vI vK (K 12), vI vK (K 13), vI vK (K 14), vI vK (K 15)] 55)).alloc (.cells zeroCs 59)).heap[w.heap.size + 1]? = some (.cells #[vI vK (K 0), vI vK (K 1), vI vK (K 2), vI vK (K 3), vI vK (K 4), vI vK (K 5), vI vK (K 6), vI vK (K 7), vI vK (K 8), vI vK (K 9), vI vK (K 10), vI vK (K 11), vI vK (K 12), vI vK (K 13), vI vK (K 14), vI vK (K 15)] 55 (0, 0))) := second_box _ _ _ _
  clear hst h hbk hT hK ht hN h1 h2
  go_enter Tryz.func21, Tryz.ntmps21
  go_wp2_with (first
    | (go_at_call 18; refine (HC.out _ HB.out).mono ?_; rintro e w1 ⟨rfl, hb1⟩; have HZ1 : Hid (w1.heap[w.heap.size + 1 + 1]? = some (.cells zeroCs 59 (0, 0))) := (hb1.block (w.heap.size + 1 + 1) (by simp)).trans HT.out; have HX1 : Hid (w1.heap[w.heap.size]? = some (.cells #[vI vK (T 0), vI vK (T 1), vI vK (T 2), vI vK (T 3), vI vK (T 4), vI vK (T 5), vI vK (T 6), vI vK (T 7)] 52 (0, 0))) := (hb1.block w.heap.size (by simp; omega)).trans HX.out; have HY1 : Hid (w1.heap[w.heap.size + 1]? = some (.cells #[vI vK (K 0), vI vK (K 1), vI vK (K 2), vI vK (K 3), vI vK (K 4), vI vK (K 5), vI vK (K 6), vI vK (K 7), vI vK (K 8), vI vK (K 9), vI vK (K 10), vI vK (K 11), vI vK (K 12), vI vK (K 13), vI vK (K 14), vI vK (K 15)] 55 (0, 0))) := (hb1.block (w.heap.size + 1) (by simp)).trans HY.out; have HBW : Hid (Below w.heap.size w w1) := HB.out.trans (hb1.mono HB.out.size); have HS1 : Hid (w.heap.size + 1 + 1 < w1.heap.size) := (by have := hb1.size; simp at this; show w.heap.size + 1 + 1 < w1.heap.size; omega); clear hb1)
    | (refine wpList_load_row rfl 52 (.tmp 5) rfl w.heap.size rfl 52 #[vI vK (T 0), vI vK (T 1), vI vK (T 2), vI vK (T 3), vI vK (T 4), vI vK (T 5), vI vK (T 6), vI vK (T 7)] (0, 0) _ HX1.out Tryz.underlying52 rfl Tryz.infoT ?_)
    | (refine wpList_load_row rfl 55 (.tmp 6) rfl (w.heap.size + 1) rfl 55 #[vI vK (K 0), vI vK (K 1), vI vK (K 2), vI vK (K 3), vI vK (K 4), vI vK (K 5), vI vK (K 6), vI vK (K 7), vI vK (K 8), vI vK (K 9), vI vK (K 10), vI vK (K 11), vI vK (K 12), vI vK (K 13), vI vK (K 14), vI vK (K 15)] (0, 0) _ HY1.out Tryz.underlying55 rfl Tryz.infoK ?_)
    | (go_at_call 41; refine (begin_all T K time _).mono ?_; rintro e w2 ⟨rfl, hb2, hM2⟩; obtain ⟨B, hBe⟩ : ∃ B, w1.heap.size + 1 + 1 = B := ⟨_, rfl⟩; rw [hBe] at hM2 ⊢; have HBe : Hid (w.heap.size + 1 + 1 < B) := (by have := HS1.out; show w.heap.size + 1 + 1 < B; omega); have HM2 : Hid (MacAt w2 B (start T K time)) := hM2; have HB2 : Hid (Below w1.heap.size w1 w2) := hb2; clear hBe hM2 hb2)
    | (go_at_call 42; go_must (refine (HG.out B _ (by have := HBe.out; omega) (HBW.out.trans (HB2.out.mono HBW.out.size)) HM2.out).mono ?_; rintro e w3 ⟨E, rfl, hg⟩; rw [HR.out] at hg; obtain ⟨hb3, m3, L3, hM3, hO3, hE, hst3, ha3, hn3⟩ := hg; subst hE; have HA : Hid (m3.abs L3 = a) := ha3; have HK0 : Hid (m3.steps = (k : Int)) := hst3; have HN3 : Hid (n0 = (a.reg 0).n) := hn3; have HO3 : Hid (OutAt w3 B m3.out L3) := hO3; clear hst3 hO3 ha3 hn3; have HZ3 : Hid (w3.heap[w.heap.size + 1 + 1]? = some (.cells zeroCs 59 (0, 0))) := (hb3.block _ HBe.out).trans ((HB2.out.block _ HS1.out).trans HZ1.out); have HBW3 : Hid (Below w.heap.size w w3) := (HBW.out.trans (HB2.out.mono HBW.out.size)).trans (hb3.mono (by have := HBe.out; omega)); have hz3 : ∀ o, w3.cell? ⟨w.heap.size + 1 + 1, o, none⟩ = [vI vK 0, vI vK 0, vI vK 0, vI vK 0, vI vK 0, vI vK 0, vI vK 0, vI vK 0, vI vK 0, vI vK 0, vI vK 0, vI vK 0, vI vK 0, vI vK 0, vI vK 0, vI vK 0, vI vK 0, .slice none 0 0, vI vK 0][o]? := (fun o => (cell_of_row w3 _ o zeroCs _ _ HZ3.out).trans (zeroCs_at o)); have fz3 : ∀ o, w3.frozen? ⟨w.heap.size + 1 + 1, o, none⟩ = false := (fun o => by simp [World.frozen?, HZ3.out]); have hB3 := hM3.lt; have hS3 : w.heap.size + 1 + 1 < w3.heap.size := (by have := HBe.out; omega); have hne : w.heap.size + 1 + 1 ≠ B := (by have := HBe.out; omega)))
    | fail)
  clear HC HG HB HT HX HY HX1 HY1 HZ1 HB2 HM2 HBW hz3 fz3
  obtain ⟨v3, hv3⟩ : ∃ v3, m3.out = v3 := ⟨_, rfl⟩
  have HV3 : Hid (some m3.out = some v3) := congrArg some hv3
  have HVV : Hid (m3.out = v3) := hv3
  have HSL : Hid (∃ q1 q2 q3, v3 = .slice q1 q2 q3) := by obtain ⟨p, c, hh⟩ := HO3.out.shape; exact ⟨p, _, c, hv3.symm.trans hh⟩
  have HK3 : Hid (some (Value.int .i64 m3.steps) = some (vI vK (k : Int))) := congrArg (fun x => some (Value.int .i64 x)) HK0.out
  have HN0 : Hid (some (m3.cell 3) = some (vI vK n0)) := by rw [HN3.out, ← HA.out]; rfl
  clear hv3
  refine wp_region_held_drew (S := RS2 B (w.heap.size + 1 + 1) m3) (by kernel_rfl) ⟨hM3, zeroCs, rfl, HZ3.out⟩ fun hS => ?_
  change wpAnyH _ _ _ _ _ 21 (Array.replicate 21 false) _ _
  refine takeH (i := 0) (some 37) (.pointer (some ⟨B, 0, none⟩)) rfl rfl (by kernel_rfl) (by kernel_rfl) (by kernel_rfl) (fun _ _ _ h => h) (by rfl) (fun W hW => ?_) hS ?_
  · go_simp
  simp only [Act.put, siA, scZ, scS]
  refine takeH (i := 1) (some 38) (.pointer (some ⟨B, 0, none⟩)) rfl rfl (by kernel_rfl) (by kernel_rfl) (by kernel_rfl) (fun _ _ _ h => h) (by rfl) (fun W hW => ?_) hS ?_
  · go_simp
  simp only [Act.put, siA, scZ, scS]
  refine takeH (i := 2) (some 39) (.pointer (some ⟨B, 2, none⟩)) rfl rfl (by kernel_rfl) (by kernel_rfl) (by kernel_rfl) (fun _ _ _ h => h) (by rfl) (fun W hW => ?_) hS ?_
  · go_simp
  simp only [Act.put, siA, scZ, scS]
  refine takeH (i := 3) (some 40) (.pointer (some ⟨B, 2, none⟩)) rfl rfl (by kernel_rfl) (by kernel_rfl) (by kernel_rfl) (fun _ _ _ h => h) (by rfl) (fun W hW => ?_) hS ?_
  · go_simp
  simp only [Act.put, siA, scZ, scS]
  refine takeH (i := 4) (some 41) (.pointer (some ⟨B, 3, none⟩)) rfl rfl (by kernel_rfl) (by kernel_rfl) (by kernel_rfl) (fun _ _ _ h => h) (by rfl) (fun W hW => ?_) hS ?_
  · go_simp
  simp only [Act.put, siA, scZ, scS]
  refine takeH (i := 5) (some 42) (vI vK n0) rfl rfl (by kernel_rfl) (by kernel_rfl) (by kernel_rfl) (fun _ _ _ h => h) (by rfl) (fun W hW => ?_) hS ?_
  · have y0 : W.cell? ⟨B, 3, none⟩ = some (vI vK n0) := (hW.1.at 3 (by decide)).trans HN0.out
    go_simp
  simp only [Act.put, siA, scZ, scS]
  refine takeH (i := 6) (some 43) (.pointer (some ⟨B, 0, none⟩)) rfl rfl (by kernel_rfl) (by kernel_rfl) (by kernel_rfl) (fun _ _ _ h => h) (by rfl) (fun W hW => ?_) hS ?_
  · go_simp
  simp only [Act.put, siA, scZ, scS]
  refine takeH (i := 7) (some 44) (.pointer (some ⟨B, 0, none⟩)) rfl rfl (by kernel_rfl) (by kernel_rfl) (by kernel_rfl) (fun _ _ _ h => h) (by rfl) (fun W hW => ?_) hS ?_
  · go_simp
  simp only [Act.put, siA, scZ, scS]
  refine takeH (i := 8) (some 45) (.pointer (some ⟨B, 91, none⟩)) rfl rfl (by kernel_rfl) (by kernel_rfl) (by kernel_rfl) (fun _ _ _ h => h) (by rfl) (fun W hW => ?_) hS ?_
  · go_simp
  simp only [Act.put, siA, scZ, scS]
  refine takeH (i := 9) (some 46) (.agg #[vI vK (a.cel 0), vI vK (a.cel 1), vI vK (a.cel 2), vI vK (a.cel 3), vI vK (a.cel 4), vI vK (a.cel 5), vI vK (a.cel 6), vI vK (a.cel 7), vI vK (a.cel 8), vI vK (a.cel 9), vI vK (a.cel 10), vI vK (a.cel 11), vI vK (a.cel 12), vI vK (a.cel 13), vI vK (a.cel 14), vI vK (a.cel 15)]) rfl rfl (by kernel_rfl) (by kernel_rfl) (by kernel_rfl) (fun _ _ _ h => h) (by rfl) (fun W hW => ?_) hS ?_
  · refine load_tab (x := .tmp 45) W B m3 a hW.1 HA.out _ rfl ?_ ?_
    · rfl
    · rfl
  simp only [Act.put, siA, scZ, scS]
  refine takeH (i := 10) (some 47) (.pointer (some ⟨B, 0, none⟩)) rfl rfl (by kernel_rfl) (by kernel_rfl) (by kernel_rfl) (fun _ _ _ h => h) (by rfl) (fun W hW => ?_) hS ?_
  · go_simp
  simp only [Act.put, siA, scZ, scS]
  refine takeH (i := 11) (some 48) (.pointer (some ⟨B, 0, none⟩)) rfl rfl (by kernel_rfl) (by kernel_rfl) (by kernel_rfl) (fun _ _ _ h => h) (by rfl) (fun W hW => ?_) hS ?_
  · go_simp
  simp only [Act.put, siA, scZ, scS]
  refine takeH (i := 12) (some 49) (.pointer (some ⟨B, 108, none⟩)) rfl rfl (by kernel_rfl) (by kernel_rfl) (by kernel_rfl) (fun _ _ _ h => h) (by rfl) (fun W hW => ?_) hS ?_
  · go_simp
  simp only [Act.put, siA, scZ, scS]
  refine takeH (i := 13) (some 50) (v3) rfl rfl (by kernel_rfl) (by kernel_rfl) (by kernel_rfl) (fun _ _ _ h => h) (by rfl) (fun W hW => ?_) hS ?_
  · have y0 : W.cell? ⟨B, 108, none⟩ = some v3 := hW.1.outv.trans HV3.out
    obtain ⟨q1, q2, q3, hq⟩ := HSL.out
    subst hq
    go_simp
  simp only [Act.put, siA, scZ, scS]
  refine takeH (i := 14) (some 51) (.pointer (some ⟨B, 0, none⟩)) rfl rfl (by kernel_rfl) (by kernel_rfl) (by kernel_rfl) (fun _ _ _ h => h) (by rfl) (fun W hW => ?_) hS ?_
  · go_simp
  simp only [Act.put, siA, scZ, scS]
  refine takeH (i := 15) (some 52) (.pointer (some ⟨B, 0, none⟩)) rfl rfl (by kernel_rfl) (by kernel_rfl) (by kernel_rfl) (fun _ _ _ h => h) (by rfl) (fun W hW => ?_) hS ?_
  · go_simp
  simp only [Act.put, siA, scZ, scS]
  refine takeH (i := 16) (some 53) (.pointer (some ⟨B, 1, none⟩)) rfl rfl (by kernel_rfl) (by kernel_rfl) (by kernel_rfl) (fun _ _ _ h => h) (by rfl) (fun W hW => ?_) hS ?_
  · go_simp
  simp only [Act.put, siA, scZ, scS]
  refine takeH (i := 17) (some 54) (vI vK (k : Int)) rfl rfl (by kernel_rfl) (by kernel_rfl) (by kernel_rfl) (fun _ _ _ h => h) (by rfl) (fun W hW => ?_) hS ?_
  · have y0 : W.cell? ⟨B, 1, none⟩ = some (vI vK (k : Int)) := hW.1.steps.trans HK3.out
    go_simp
  simp only [Act.put, siA, scZ, scS]
  refine takeH (i := 18) (some 55) (.agg #[vI vK n0, vI vK (a.cel 0), vI vK (a.cel 1), vI vK (a.cel 2), vI vK (a.cel 3), vI vK (a.cel 4), vI vK (a.cel 5), vI vK (a.cel 6), vI vK (a.cel 7), vI vK (a.cel 8), vI vK (a.cel 9), vI vK (a.cel 10), vI vK (a.cel 11), vI vK (a.cel 12), vI vK (a.cel 13), vI vK (a.cel 14), vI vK (a.cel 15), v3, vI vK (k : Int)]) rfl rfl (by kernel_rfl) (by kernel_rfl) (by kernel_rfl) (fun _ _ _ h => h) (by rfl) (fun W hW => ?_) hS ?_
  · obtain ⟨q1, q2, q3, hq⟩ := HSL.out
    subst hq
    go_simp
  simp only [Act.put, siA, scZ, scS]
  refine wpAnyH_ready (rs := [19]) (by kernel_rfl) (by simp) ?_
  have hone : (#[vI vK n0, vI vK (a.cel 0), vI vK (a.cel 1), vI vK (a.cel 2), vI vK (a.cel 3), vI vK (a.cel 4), vI vK (a.cel 5), vI vK (a.cel 6), vI vK (a.cel 7), vI vK (a.cel 8), vI vK (a.cel 9), vI vK (a.cel 10), vI vK (a.cel 11), vI vK (a.cel 12), vI vK (a.cel 13), vI vK (a.cel 14), vI vK (a.cel 15), v3, vI vK (k : Int)] : Array Value).all (·.oneCell') = true := by
    obtain ⟨q1, q2, q3, hq⟩ := HSL.out
    rw [hq]
    kernel_rfl
  have hA : RS2 B (w.heap.size + 1 + 1) m3 (w3.drew.setRow (w.heap.size + 1 + 1) #[vI vK n0, vI vK (a.cel 0), vI vK (a.cel 1), vI vK (a.cel 2), vI vK (a.cel 3), vI vK (a.cel 4), vI vK (a.cel 5), vI vK (a.cel 6), vI vK (a.cel 7), vI vK (a.cel 8), vI vK (a.cel 9), vI vK (a.cel 10), vI vK (a.cel 11), vI vK (a.cel 12), vI vK (a.cel 13), vI vK (a.cel 14), vI vK (a.cel 15), v3, vI vK (k : Int)]) := ⟨(setRow_other w3.drew _ B _ (fun e => hne e.symm)).trans hM3, _, rfl, setRow_heap w3.drew _ zeroCs _ _ _ HZ3.out⟩
  refine stepS (w3.drew.setRow (w.heap.size + 1 + 1) #[vI vK n0, vI vK (a.cel 0), vI vK (a.cel 1), vI vK (a.cel 2), vI vK (a.cel 3), vI vK (a.cel 4), vI vK (a.cel 5), vI vK (a.cel 6), vI vK (a.cel 7), vI vK (a.cel 8), vI vK (a.cel 9), vI vK (a.cel 10), vI vK (a.cel 11), vI vK (a.cel 12), vI vK (a.cel 13), vI vK (a.cel 14), vI vK (a.cel 15), v3, vI vK (k : Int)]) rfl rfl (by rfl) ?_ hA ?_ AllReadyH.nil
  · exact store_run _ _ _ _ _ rfl rfl rfl HZ3.out rfl hone
  simp only [Act.put]
  refine takeH (i := 20) (some 9) (.nilIface) rfl rfl (by kernel_rfl) (by kernel_rfl) (by kernel_rfl) (fun _ _ _ h => h) (by rfl) (fun W hW => ?_) hA ?_
  · go_simp
  simp only [Act.put, siA, scZ, scS]
  refine wpAnyH_done (by kernel_rfl) ?_ _
  go_wp2
  refine bodyPost_ret (v := .tuple #[.agg #[vI vK n0, vI vK (a.cel 0), vI vK (a.cel 1), vI vK (a.cel 2), vI vK (a.cel 3), vI vK (a.cel 4), vI vK (a.cel 5), vI vK (a.cel 6), vI vK (a.cel 7), vI vK (a.cel 8), vI vK (a.cel 9), vI vK (a.cel 10), vI vK (a.cel 11), vI vK (a.cel 12), vI vK (a.cel 13), vI vK (a.cel 14), vI vK (a.cel 15), v3, vI vK (k : Int)], .nilIface]) (ran_results _ _ (w.heap.size + 1 + 1) #[vI vK n0, vI vK (a.cel 0), vI vK (a.cel 1), vI vK (a.cel 2), vI vK (a.cel 3), vI vK (a.cel 4), vI vK (a.cel 5), vI vK (a.cel 6), vI vK (a.cel 7), vI vK (a.cel 8), vI vK (a.cel 9), vI vK (a.cel 10), vI vK (a.cel 11), vI vK (a.cel 12), vI vK (a.cel 13), vI vK (a.cel 14), vI vK (a.cel 15), v3, vI vK (k : Int)] _ rfl rfl (setRow_heap w3.drew _ zeroCs _ _ _ HZ3.out) rfl) rfl ⟨v3, rfl, below_row HBW3.out.drew (by omega) _, ?_⟩
  have hL : L3 = a.out := by rw [← HA.out]; rfl
  have hown : w3.ownsRow (B + 1) 2 1 m3.out L3.length (L3.map (Value.int .i64)) := HO3.out
  rw [HVV.out, hL] at hown
  exact own_row hown (by have := HBe.out; omega) (by have := HBe.out; omega) _
end Go.Proofs.YtednmkhdehlojaaGreatDoor
namespace Go.Proofs.YtednmkhdehlojaaGreatDoor
open Go.ChangeShapes Go.WideShapes Go.ChangeAt Go.RowKit
theorem row_told (d : Nat) (a b c e a' b' c' e' : Int) (w : World) : (Op.equalIn (d + 1 + 1) 53 (.agg #[vI vK a, vI vK b, vI vK c, vI vK e]) (.agg #[vI vK a', vI vK b', vI vK c', vI vK e'])).run Tryz.prog w = .ok (a == a' && (b == b' && (c == c' && e == e'))) w := by
  have u2 := Tryz.underlying2
  have a2 := Tryz.isAgg2
  have z2 := Tryz.sizeOf2
  rw [Op.equalIn]
  simp only [Sem.run_bind, run_underlying Tryz.underlying53, Result.andThen_ok]
  simp only [Std.Legacy.Range.forIn_eq_forIn_range', Std.Legacy.Range.size, Nat.sub_zero, Nat.add_sub_cancel, Nat.div_one, List.range'_succ, List.range'_zero, List.forIn_cons, List.forIn_nil]
  rcases h1 : (a == a') with _ | _ <;> rcases h2 : (b == b') with _ | _ <;> rcases h3 : (c == c') with _ | _ <;> rcases h4 : (e == e') with _ | _ <;> go_simp
theorem tab_told (K L : Nat → Int) : ∃ z : Bool, (K = L → z = true) ∧ ∀ w : World, (Op.equalIn 10000 55 (.agg #[vI vK (K 0), vI vK (K 1), vI vK (K 2), vI vK (K 3), vI vK (K 4), vI vK (K 5), vI vK (K 6), vI vK (K 7), vI vK (K 8), vI vK (K 9), vI vK (K 10), vI vK (K 11), vI vK (K 12), vI vK (K 13), vI vK (K 14), vI vK (K 15)]) (.agg #[vI vK (L 0), vI vK (L 1), vI vK (L 2), vI vK (L 3), vI vK (L 4), vI vK (L 5), vI vK (L 6), vI vK (L 7), vI vK (L 8), vI vK (L 9), vI vK (L 10), vI vK (L 11), vI vK (L 12), vI vK (L 13), vI vK (L 14), vI vK (L 15)])).run Tryz.prog w = .ok z w := by
  refine ⟨(K 0 == L 0 && (K 1 == L 1 && (K 2 == L 2 && K 3 == L 3))) && ((K 4 == L 4 && (K 5 == L 5 && (K 6 == L 6 && K 7 == L 7))) && ((K 8 == L 8 && (K 9 == L 9 && (K 10 == L 10 && K 11 == L 11))) && (K 12 == L 12 && (K 13 == L 13 && (K 14 == L 14 && K 15 == L 15))))), fun e => by subst e; simp, fun w => ?_⟩
  have u2 := Tryz.underlying53
  have a2 := Tryz.isAgg53
  have z2 := Tryz.sizeOf53
  have hr := row_told 9997
  rw [show (10000 : Nat) = 9999 + 1 from rfl, Op.equalIn]
  simp only [Sem.run_bind, run_underlying Tryz.underlying55, Result.andThen_ok]
  simp only [Std.Legacy.Range.forIn_eq_forIn_range', Std.Legacy.Range.size, Nat.sub_zero, Nat.add_sub_cancel, Nat.div_one, List.range'_succ, List.range'_zero, List.forIn_cons, List.forIn_nil]
  rcases h1 : (K 0 == L 0 && (K 1 == L 1 && (K 2 == L 2 && K 3 == L 3))) with _ | _ <;> rcases h2 : (K 4 == L 4 && (K 5 == L 5 && (K 6 == L 6 && K 7 == L 7))) with _ | _ <;> rcases h3 : (K 8 == L 8 && (K 9 == L 9 && (K 10 == L 10 && K 11 == L 11))) with _ | _ <;> rcases h4 : (K 12 == L 12 && (K 13 == L 13 && (K 14 == L 14 && K 15 == L 15))) with _ | _ <;> go_simp
end Go.Proofs.YtednmkhdehlojaaGreatDoor
namespace Go.Proofs.YtednmkhdehlojaaGreatDoor
open Go.RowKit
structure Kno where
  k : Int
  l : Int
  h : Int
def Kno.Ok (x : Kno) : Prop := 0 ≤ x.k ∧ x.k ≤ 5 ∧ In64 x.l ∧ In64 x.h ∧ x.l ≤ x.h
def Kno.Has (x : Kno) (v : Val) : Prop :=
  x.k = 0 ∨ (1 ≤ x.k ∧ x.k ≤ 4 ∧ v.k = x.k ∧ x.l ≤ v.n ∧ v.n ≤ x.h) ∨ (x.k = 5 ∧ v.n = 0 ∧ (v.k = 1 ∨ v.k = 4))
def kno0 : Kno := ⟨0, 0, 0⟩
def knoNum (l h : Int) : Kno := ⟨1, l, h⟩
def knoWant (x : Kno) : Int := if x.k = 0 then 8 else if x.k = 1 then 0 else 1
theorem knoWant_has {x : Kno} {v : Val} (hx : x.Has v) (h : knoWant x = 0) : wantF v = 0 ∧ v.k = 1 ∧ x.l ≤ v.n ∧ v.n ≤ x.h := by
  unfold knoWant at h
  by_cases h0 : x.k = 0
  · rw [if_pos h0] at h; exact absurd h (by decide)
  by_cases h1 : x.k = 1
  · rcases hx with hx | hx | hx
    · exact absurd hx h0
    · have e : v.k = 1 := by omega
      exact ⟨by unfold wantF; rw [if_neg (by omega), if_pos e], e, hx.2.2.2.1, hx.2.2.2.2⟩
    · omega
  · rw [if_neg h0, if_neg h1] at h; exact absurd h (by decide)
def knoFurther (k : Int) (b : Int × Int) : Kno × Int := if b.1 = -9223372036854775808 ∧ b.2 = 9223372036854775807 then (kno0, 2) else (⟨k, b.1, b.2⟩, 0)
def knoMakes (c : Int) (a b : Kno) : Kno × Int :=
  if b.k = 0 ∨ (a.k = 0 ∧ c ≠ 1) then (kno0, 8)
  else if c = 1 then (b, 0)
  else if a.k = 1 ∧ b.k = 1 then (knoNum (bdV c a.l a.h b.l b.h).1 (bdV c a.l a.h b.l b.h).2, 0)
  else if (a.k = 2 ∨ a.k = 3 ∨ a.k = 4) ∧ b.k = 1 ∧ (c = 2 ∨ c = 3) then knoFurther a.k (bdV c a.l a.h b.l b.h)
  else if a.k = 1 ∧ (b.k = 2 ∨ b.k = 3 ∨ b.k = 4) ∧ c = 2 then knoFurther b.k (bdV c a.l a.h b.l b.h)
  else (kno0, 1)
theorem knoFurther_has {k : Int} {b : Int × Int} (h : (knoFurther k b).2 = 0) : (knoFurther k b).1 = ⟨k, b.1, b.2⟩ := by
  unfold knoFurther at h ⊢
  split at h
  · exact absurd h (by decide)
  · rw [if_neg (by assumption)]
theorem Kno.Has.same {x : Kno} {v : Val} (hx : x.Has v) (h0 : 1 ≤ x.k) (h4 : x.k ≤ 4) : v.k = x.k ∧ x.l ≤ v.n ∧ v.n ≤ x.h := by
  rcases hx with hx | hx | hx
  · omega
  · exact hx.2.2
  · omega
theorem Kno.Has.some {x : Kno} {v : Val} (hk : x.Ok) (hx : x.Has v) (h0 : x.k ≠ 0) : v.k ≠ 0 := by
  rcases hx with hx | hx | hx
  · exact absurd hx h0
  · have := hk.1; omega
  · omega
theorem knoMakes_has {c : Int} {a b : Kno} {va vb : Val} (hc : 1 ≤ c ∧ c ≤ 13) (ka : a.Ok) (kb : b.Ok) (ha : a.Has va) (hb : b.Has vb) (h : (knoMakes c a b).2 = 0) :
    (makesF c va vb).2 = 0 ∧ (knoMakes c a b).1.Has (makesF c va vb).1 := by
  unfold knoMakes at h ⊢
  by_cases h1 : b.k = 0 ∨ (a.k = 0 ∧ c ≠ 1)
  · rw [if_pos h1] at h; exact absurd h (by decide)
  rw [if_neg h1] at h ⊢
  have nb : vb.k ≠ 0 := hb.some kb (fun e => h1 (Or.inl e))
  have na : ¬ (vb.k = 0 ∨ (va.k = 0 ∧ c ≠ 1)) := fun e => e.elim nb fun e => ha.some ka (fun e1 => h1 (Or.inr ⟨e1, e.2⟩)) e.1
  unfold makesF
  rw [if_neg na]
  by_cases h2 : c = 1
  · rw [if_pos h2] at h ⊢; rw [if_pos h2]; exact ⟨rfl, hb⟩
  rw [if_neg h2] at h ⊢; rw [if_neg h2]
  by_cases h3 : a.k = 1 ∧ b.k = 1
  · rw [if_pos h3] at h ⊢
    obtain ⟨e1, e2, e3⟩ := ha.same (by omega) (by omega)
    obtain ⟨f1, f2, f3⟩ := hb.same (by omega) (by omega)
    rw [if_pos ⟨by omega, Or.inl (by omega)⟩]
    have bd := bdV_has hc ka.2.2.1.1 ka.2.2.2.1.2 kb.2.2.1.1 kb.2.2.2.1.2 e2 e3 f2 f3
    exact ⟨rfl, Or.inr (Or.inl ⟨by show (1 : Int) ≤ 1; decide, by show (1 : Int) ≤ 4; decide, by show va.k = 1; omega, bd.1, bd.2⟩)⟩
  rw [if_neg h3] at h ⊢
  by_cases h4 : (a.k = 2 ∨ a.k = 3 ∨ a.k = 4) ∧ b.k = 1 ∧ (c = 2 ∨ c = 3)
  · rw [if_pos h4] at h ⊢
    obtain ⟨e1, e2, e3⟩ := ha.same (by omega) (by omega)
    obtain ⟨f1, f2, f3⟩ := hb.same (by omega) (by omega)
    rw [if_pos ⟨by omega, Or.inr h4.2.2⟩, knoFurther_has h]
    have bd := bdV_has hc ka.2.2.1.1 ka.2.2.2.1.2 kb.2.2.1.1 kb.2.2.2.1.2 e2 e3 f2 f3
    exact ⟨rfl, Or.inr (Or.inl ⟨by show 1 ≤ a.k; omega, by show a.k ≤ 4; omega, e1, bd.1, bd.2⟩)⟩
  rw [if_neg h4] at h ⊢
  by_cases h5 : a.k = 1 ∧ (b.k = 2 ∨ b.k = 3 ∨ b.k = 4) ∧ c = 2
  · rw [if_pos h5] at h ⊢
    obtain ⟨e1, e2, e3⟩ := ha.same (by omega) (by omega)
    obtain ⟨f1, f2, f3⟩ := hb.same (by omega) (by omega)
    rw [if_neg (by omega), if_pos ⟨by omega, h5.2.2⟩, knoFurther_has h]
    have bd := bdV_has hc ka.2.2.1.1 ka.2.2.2.1.2 kb.2.2.1.1 kb.2.2.2.1.2 e2 e3 f2 f3
    exact ⟨rfl, Or.inr (Or.inl ⟨by show 1 ≤ b.k; omega, by show b.k ≤ 4; omega, f1, bd.1, bd.2⟩)⟩
  · rw [if_neg h5] at h; exact absurd h (by decide)
def knoRoom (k : Int) : Int × Int := if k = 2 then (0, 7) else if k = 3 then (-16, -1) else (0, 3)
def knoTo (x : Kno) (o : Int) : Int × Int := bdV 2 x.l x.h o o
def knoReach (x : Kno) (o : Int) : (Int × Int) × Int :=
  if x.k = 0 then ((0, 0), 8)
  else if x.k = 1 ∨ x.k = 5 then ((0, 0), 1)
  else if (knoTo x o).1 < (knoRoom x.k).1 ∨ (knoRoom x.k).2 < (knoTo x o).2 then ((0, 0), 2)
  else (knoTo x o, 0)
theorem knoReach_has {x : Kno} {v : Val} {o : Int} (kx : x.Ok) (ho : In64 o) (hx : x.Has v) (h : (knoReach x o).2 = 0) :
    (reachF v o).2 = 0 ∧ v.k = x.k ∧ (x.k = 2 ∨ x.k = 3 ∨ x.k = 4) ∧ (knoReach x o).1 = knoTo x o ∧ (knoTo x o).1 ≤ wrap64 (v.n + o) ∧ wrap64 (v.n + o) ≤ (knoTo x o).2 ∧
      (knoRoom x.k).1 ≤ (knoTo x o).1 ∧ (knoTo x o).2 ≤ (knoRoom x.k).2 ∧ (reachF v o).1 = (if x.k = 3 then wrap64 (v.n + o) + 16 else wrap64 (v.n + o)) := by
  unfold knoReach at h ⊢
  by_cases h0 : x.k = 0
  · rw [if_pos h0] at h; exact absurd h (by decide)
  rw [if_neg h0] at h ⊢
  by_cases h1 : x.k = 1 ∨ x.k = 5
  · rw [if_pos h1] at h; exact absurd h (by decide)
  rw [if_neg h1] at h ⊢
  by_cases h2 : (knoTo x o).1 < (knoRoom x.k).1 ∨ (knoRoom x.k).2 < (knoTo x o).2
  · rw [if_pos h2] at h; exact absurd h (by decide)
  rw [if_neg h2]
  have k0 := kx.1
  have k5 := kx.2.1
  obtain ⟨e1, e2, e3⟩ := hx.same (by omega) (by omega)
  have bd : (knoTo x o).1 ≤ doesV 2 v.n o ∧ doesV 2 v.n o ≤ (knoTo x o).2 := bdV_has ⟨by decide, by decide⟩ kx.2.2.1.1 kx.2.2.2.1.2 ho.1 ho.2 e2 e3 (Int.le_refl _) (Int.le_refl _)
  have ed : doesV 2 v.n o = wrap64 (v.n + o) := by simp only [doesV, reduceIte, Int.reduceEq]
  rw [ed] at bd
  have hk : x.k = 2 ∨ x.k = 3 ∨ x.k = 4 := by omega
  have hr : (reachF v o).2 = 0 ∧ (reachF v o).1 = (if x.k = 3 then wrap64 (v.n + o) + 16 else wrap64 (v.n + o)) := by
    unfold reachF
    rw [if_neg (by omega), if_neg (by omega)]
    rcases hk with hk | hk | hk
    · have er : knoRoom x.k = (0, 7) := by rw [hk]; rfl
      have et : reachTo v o = wrap64 (v.n + o) := if_neg (by omega)
      have em : reachMax v = 8 := if_pos (by omega)
      rw [er] at h2
      rw [et, em, if_neg (by omega), if_neg (by omega)]
      exact ⟨rfl, rfl⟩
    · have er : knoRoom x.k = (-16, -1) := by rw [hk]; rfl
      have e16 : wrap64 (wrap64 (v.n + o) + 16) = wrap64 (v.n + o) + 16 := wrap64_in (by rw [er] at h2; omega) (by rw [er] at h2; omega)
      have et : reachTo v o = wrap64 (v.n + o) + 16 := by unfold reachTo; rw [if_pos (by omega), e16]
      have em : reachMax v = 16 := by unfold reachMax; rw [if_neg (by omega), if_pos (by omega)]
      rw [er] at h2
      rw [et, em, if_neg (by omega), if_pos hk]
      exact ⟨rfl, rfl⟩
    · have er : knoRoom x.k = (0, 3) := by rw [hk]; rfl
      have et : reachTo v o = wrap64 (v.n + o) := if_neg (by omega)
      have em : reachMax v = 4 := by unfold reachMax; rw [if_neg (by omega), if_neg (by omega)]
      rw [er] at h2
      rw [et, em, if_neg (by omega), if_neg (by omega)]
      exact ⟨rfl, rfl⟩
  exact ⟨hr.1, e1, hk, rfl, bd.1, bd.2, by omega, by omega, hr.2⟩
structure Way where
  reg : Nat → Kno
  slot : Nat → Kno
def Way.putReg (y : Way) (d : Nat) (x : Kno) : Way := { y with reg := fun i => if i = d then x else y.reg i }
def Way.putSlot (y : Way) (t : Nat) (x : Kno) : Way := { y with slot := fun i => if i = t then x else y.slot i }
def Way.second (y : Way) (s : Nat) (r : Bool) (n : Int) : Kno := if r then y.reg s else knoNum n n
def Way.lose (y : Way) : Way := { y with reg := fun i => if 1 ≤ i ∧ i ≤ 5 then kno0 else y.reg i }
structure Way.Ok (y : Way) : Prop where
  reg : ∀ i, i < 11 → (y.reg i).Ok
  slot : ∀ i, i < 16 → (y.slot i).Ok
structure Way.Has (y : Way) (a : Abs) : Prop where
  reg : ∀ i, i < 11 → (y.reg i).Has (a.reg i)
  slot : ∀ i, i < 16 → (y.slot i).Has (a.slot i)
theorem Way.Has.putReg {y : Way} {a : Abs} {d : Nat} {x : Kno} {v : Val} (h : y.Has a) (hx : x.Has v) : (y.putReg d x).Has (a.putReg d v) :=
  ⟨fun i hi => by
    show (if i = d then x else y.reg i).Has (if i = d then v else a.reg i)
    by_cases e : i = d
    · rw [if_pos e, if_pos e]; exact hx
    · rw [if_neg e, if_neg e]; exact h.reg i hi, h.slot⟩
theorem Way.Has.putSlot {y : Way} {a : Abs} {d : Nat} {x : Kno} {v : Val} (h : y.Has a) (hx : x.Has v) : (y.putSlot d x).Has (a.putSlot d v) :=
  ⟨h.reg, fun i hi => by
    show (if i = d then x else y.slot i).Has (if i = d then v else a.slot i)
    by_cases e : i = d
    · rw [if_pos e, if_pos e]; exact hx
    · rw [if_neg e, if_neg e]; exact h.slot i hi⟩
theorem Way.Has.putCel {y : Way} {a : Abs} {d : Nat} {n : Int} (h : y.Has a) : y.Has (a.putCel d n) := ⟨h.reg, h.slot⟩
theorem Way.Has.give {y : Way} {a : Abs} {n : Int} (h : y.Has a) : y.Has (a.give n) := ⟨h.reg, h.slot⟩
theorem Way.Has.lose {y : Way} {a : Abs} (h : y.Has a) : y.lose.Has a.lose :=
  ⟨fun i hi => by
    show (if 1 ≤ i ∧ i ≤ 5 then kno0 else y.reg i).Has (if 1 ≤ i ∧ i ≤ 5 then none0 else a.reg i)
    by_cases e : 1 ≤ i ∧ i ≤ 5
    · rw [if_pos e, if_pos e]; exact Or.inl rfl
    · rw [if_neg e, if_neg e]; exact h.reg i hi, h.slot⟩
theorem Kno.has_num {n l h : Int} (h1 : l ≤ n) (h2 : n ≤ h) : (knoNum l h).Has (numF n) := Or.inr (Or.inl ⟨by show (1 : Int) ≤ 1; decide, by show (1 : Int) ≤ 4; decide, rfl, h1, h2⟩)
theorem Way.Has.second {y : Way} {a : Abs} {s : Nat} {r : Bool} {n : Int} (h : y.Has a) (hs : s < 11) : (y.second s r n).Has (a.second s r n) := by
  cases r
  · exact Kno.has_num (Int.le_refl _) (Int.le_refl _)
  · exact h.reg s hs
def firstBad : List Kno → Int
  | [] => 0
  | x :: l => if knoWant x = 0 then firstBad l else knoWant x
def joinFrom : Int × Int → List Kno → Int × Int
  | p, [] => p
  | p, x :: l => joinFrom (min p.1 x.l, max p.2 x.h) l
def joinL : List Kno → Int × Int
  | [] => (0, 0)
  | x :: l => joinFrom (x.l, x.h) l
theorem firstBad_none : ∀ {l : List Kno}, firstBad l = 0 → ∀ x, x ∈ l → knoWant x = 0
  | [], _, _, h => absurd h (by simp)
  | y :: l, h, x, hx => by
    by_cases hy : knoWant y = 0
    · rw [firstBad, if_pos hy] at h
      rcases List.mem_cons.mp hx with rfl | hx
      · exact hy
      · exact firstBad_none h x hx
    · rw [firstBad, if_neg hy] at h; exact absurd h hy
theorem joinFrom_ends : ∀ (l : List Kno) (p : Int × Int), (joinFrom p l).1 ≤ p.1 ∧ p.2 ≤ (joinFrom p l).2
  | [], _ => ⟨Int.le_refl _, Int.le_refl _⟩
  | x :: l, p => by
    have := joinFrom_ends l (min p.1 x.l, max p.2 x.h)
    rw [joinFrom]
    exact ⟨by have h1 := this.1; show _ ≤ p.1; have h2 : (min p.1 x.l) ≤ p.1 := Int.min_le_left _ _; exact Int.le_trans h1 h2, by have h1 := this.2; have h2 : p.2 ≤ max p.2 x.h := Int.le_max_left _ _; exact Int.le_trans h2 h1⟩
theorem joinFrom_has : ∀ (l : List Kno) (p : Int × Int) (x : Kno), x ∈ l → (joinFrom p l).1 ≤ x.l ∧ x.h ≤ (joinFrom p l).2
  | [], _, _, h => absurd h (by simp)
  | y :: l, p, x, hx => by
    rw [joinFrom]
    rcases List.mem_cons.mp hx with rfl | hx
    · have := joinFrom_ends l (min p.1 x.l, max p.2 x.h)
      exact ⟨Int.le_trans this.1 (Int.min_le_right _ _), Int.le_trans (Int.le_max_right _ _) this.2⟩
    · exact joinFrom_has l _ x hx
theorem joinL_has {l : List Kno} {x : Kno} (hx : x ∈ l) : (joinL l).1 ≤ x.l ∧ x.h ≤ (joinL l).2 := by
  cases l with
  | nil => exact absurd hx (by simp)
  | cons y l =>
    rcases List.mem_cons.mp hx with rfl | hx
    · exact joinFrom_ends l (x.l, x.h)
    · exact joinFrom_has l _ x hx
def Way.row (y : Way) (t n : Nat) : List Kno := (List.range' t n).map y.slot
def Way.kept (y : Way) (p : Int × Int) : Kno × Int :=
  if p.1 = p.2 ∧ (y.slot (p.1 + 16).toNat).k ≠ 0 then (y.slot (p.1 + 16).toNat, 0)
  else if firstBad (y.row (p.1 + 16).toNat (p.2 - p.1 + 1).toNat) ≠ 0 then (kno0, firstBad (y.row (p.1 + 16).toNat (p.2 - p.1 + 1).toNat))
  else (knoNum (joinL (y.row (p.1 + 16).toNat (p.2 - p.1 + 1).toNat)).1 (joinL (y.row (p.1 + 16).toNat (p.2 - p.1 + 1).toNat)).2, 0)
theorem kept_has {y : Way} {a : Abs} {p : Int × Int} {i : Int} (hk : y.Ok) (hy : y.Has a) (h0 : -16 ≤ p.1) (h1 : p.1 ≤ i) (h2 : i ≤ p.2) (h3 : p.2 ≤ -1) (h : (y.kept p).2 = 0) :
    (a.slot (i + 16).toNat).k ≠ 0 ∧ (y.kept p).1.Has (a.slot (i + 16).toNat) := by
  unfold Way.kept at h ⊢
  by_cases c1 : p.1 = p.2 ∧ (y.slot (p.1 + 16).toNat).k ≠ 0
  · rw [if_pos c1] at h ⊢
    have e : i = p.1 := by omega
    rw [e]
    exact ⟨(hy.slot _ (by omega)).some (hk.slot _ (by omega)) c1.2, hy.slot _ (by omega)⟩
  rw [if_neg c1] at h ⊢
  by_cases c2 : firstBad (y.row (p.1 + 16).toNat (p.2 - p.1 + 1).toNat) ≠ 0
  · rw [if_pos c2] at h; exact absurd h c2
  rw [if_neg c2]
  have hm : y.slot (i + 16).toNat ∈ y.row (p.1 + 16).toNat (p.2 - p.1 + 1).toNat := List.mem_map.mpr ⟨(i + 16).toNat, List.mem_range'.mpr ⟨(i - p.1).toNat, by omega, by omega⟩, rfl⟩
  obtain ⟨-, w1, w2, w3⟩ := knoWant_has (hy.slot (i + 16).toNat (by omega)) (firstBad_none (Classical.byContradiction c2) _ hm)
  have j := joinL_has hm
  exact ⟨by omega, Or.inr (Or.inl ⟨by show (1 : Int) ≤ 1; decide, by show (1 : Int) ≤ 4; decide, w1, Int.le_trans j.1 w2, Int.le_trans w3 j.2⟩)⟩
def Way.load (y : Way) (d s : Nat) (o : Int) : Int × Way :=
  if (knoReach (y.reg s) o).2 ≠ 0 then ((knoReach (y.reg s) o).2, y)
  else if (y.reg s).k = 3 then (if (y.kept (knoReach (y.reg s) o).1).2 ≠ 0 then ((y.kept (knoReach (y.reg s) o).1).2, y) else (0, y.putReg d (y.kept (knoReach (y.reg s) o).1).1))
  else (0, y.putReg d (knoNum (-9223372036854775808) 9223372036854775807))
theorem load_has {y : Way} {a : Abs} {d s : Nat} {o : Int} (hk : y.Ok) (ha : a.Ok) (hy : y.Has a) (hs : s < 11) (ho : In64 o) (h : (y.load d s o).1 = 0) :
    (loadF a d (a.reg s) o).1 = 0 ∧ (y.load d s o).2.Has (loadF a d (a.reg s) o).2 := by
  unfold Way.load at h ⊢
  by_cases c1 : (knoReach (y.reg s) o).2 ≠ 0
  · rw [if_pos c1] at h; exact absurd h c1
  rw [if_neg c1] at h ⊢
  have c1' : (knoReach (y.reg s) o).2 = 0 := Classical.byContradiction c1
  obtain ⟨r0, rk, rp, rt, b1, b2, m1, m2, r1⟩ := knoReach_has (hk.reg s hs) ho (hy.reg s hs) c1'
  unfold loadF
  rw [if_neg (by rw [r0]; decide)]
  by_cases c2 : (y.reg s).k = 3
  · rw [if_pos c2] at h ⊢
    rw [if_pos c2] at r1
    by_cases c3 : (y.kept (knoReach (y.reg s) o).1).2 ≠ 0
    · rw [if_pos c3] at h; exact absurd h c3
    rw [if_neg c3]
    have er : knoRoom (y.reg s).k = (-16, -1) := by rw [c2]; rfl
    rw [er] at m1 m2
    rw [rt] at c3 ⊢
    obtain ⟨n0, nh⟩ := kept_has (i := wrap64 ((a.reg s).n + o)) hk hy m1 b1 b2 m2 (Classical.byContradiction c3)
    have ea : a.at (a.reg s) (reachF (a.reg s) o).1.toNat = a.slot (wrap64 ((a.reg s).n + o) + 16).toNat := by
      unfold Abs.at; rw [if_neg (by omega), if_pos (by omega), r1]
    rw [ea, if_neg n0]
    exact ⟨rfl, hy.putReg nh⟩
  · rw [if_neg c2]
    rw [if_neg c2] at r1
    obtain ⟨n, en, hn⟩ : ∃ n, a.at (a.reg s) (reachF (a.reg s) o).1.toNat = numF n ∧ In64 n := by
      unfold Abs.at
      rw [r1]
      rcases rp with e | e | e
      · have er : knoRoom (y.reg s).k = (0, 7) := by rw [e]; rfl
        rw [er] at m1 m2
        exact ⟨_, if_pos (by omega), ha.word _ (by omega)⟩
      · exact absurd e c2
      · have er : knoRoom (y.reg s).k = (0, 3) := by rw [e]; rfl
        rw [er] at m1 m2
        have := (ha.reg s hs).c0
        have := (ha.reg s hs).c3
        exact ⟨_, by rw [if_neg (by omega), if_neg (by omega)], ha.cel _ (by omega)⟩
    rw [en, if_neg (by show ¬ (1 : Int) = 0; decide)]
    exact ⟨rfl, hy.putReg (Kno.has_num hn.1 hn.2)⟩
def way0 : Way := ⟨fun i => if i = 1 then ⟨2, 0, 0⟩ else if i = 10 then ⟨3, 0, 0⟩ else kno0, fun _ => kno0⟩
end Go.Proofs.YtednmkhdehlojaaGreatDoor
namespace Go.Proofs.YtednmkhdehlojaaGreatDoor
open Go.ChangeShapes Go.WideShapes Go.ChangeAt Go.RowKit
def Kno.v (x : Kno) : Value := .agg #[vI vK x.k, vI vK x.l, vI vK x.h]
def knoCell (x : Kno) (j : Nat) : Value := if j = 0 then vI vK x.k else if j = 1 then vI vK x.l else vI vK x.h
def wayCell (p : Int) (y : Way) (i : Nat) : Value :=
  if i = 0 then vI vK p
  else if i < 34 then knoCell (y.reg ((i - 1) / 3)) ((i - 1) % 3)
  else knoCell (y.slot ((i - 34) / 3)) ((i - 34) % 3)
def wayCs (p : Int) (y : Way) : Array Value := Array.ofFn (n := 82) fun i => wayCell p y i.1
def WayAt (w : World) (B : Nat) (p : Int) (y : Way) : Prop := w.heap[B]? = some (.cells (wayCs p y) 150 (0, 0))
theorem wayCs_size (p : Int) (y : Way) : (wayCs p y).size = 82 := by simp [wayCs]
theorem knoCell_one (x : Kno) (j : Nat) : (knoCell x j).oneCell' = true := by
  unfold knoCell
  split
  · rfl
  split <;> rfl
theorem wayCell_one (p : Int) (y : Way) (i : Nat) : (wayCell p y i).oneCell' = true := by
  unfold wayCell
  split
  · rfl
  split <;> exact knoCell_one _ _
theorem wayCs_get (p : Int) (y : Way) (i : Nat) (h : i < (wayCs p y).size) : (wayCs p y)[i] = wayCell p y i := by simp [wayCs]
theorem wayCs_one (p : Int) (y : Way) : (wayCs p y).all (·.oneCell') = true := by
  rw [Array.all_eq_true_iff_forall_mem]
  intro v hv
  obtain ⟨i, h1, h2⟩ := Array.mem_iff_getElem.1 hv
  rw [← h2, wayCs_get p y i h1]
  exact wayCell_one _ _ _
theorem wayCs_at (p : Int) (y : Way) (i : Nat) (hi : i < 82) : (wayCs p y)[i]? = some (wayCell p y i) := by
  unfold wayCs
  simp [hi]
section
variable {w : World} {B d : Nat} {p : Int} {y : Way}
theorem WayAt.lt (h : WayAt w B p y) : B < w.heap.size := (Array.getElem?_eq_some_iff.1 h).1
theorem WayAt.at (h : WayAt w B p y) (i : Nat) (hi : i < 82) : w.cell? ⟨B, i, none⟩ = some (wayCell p y i) := by
  rw [cell_of_row w B i _ _ _ h, wayCs_at p y i hi]
theorem WayAt.frozen (h : WayAt w B p y) (i : Nat) : w.frozen? ⟨B, i, none⟩ = false := by
  have h' : w.heap[B]? = some (.cells (wayCs p y) 150 (0, 0)) := h
  simp [World.frozen?, h']
theorem WayAt.later {w1 : World} (h : WayAt w B p y) (hb : Below w.heap.size w w1) : WayAt w1 B p y := (hb.block B h.lt).trans h
theorem WayAt.alloc (h : WayAt w B p y) (o : Obj) : WayAt (w.alloc o) B p y := h.later ((bF _ _).alloc (Nat.le_refl _) _)
theorem WayAt.start (w : World) (p : Int) (y : Way) : WayAt (w.alloc (.cells (wayCs p y) 150)) w.heap.size p y := heap_alloc_new w _
theorem WayAt.setRow {w : World} {g : Nat} {old : Array Value} (hg : w.heap[g]? = some (.cells old 150 (0, 0))) (p : Int) (y : Way) : WayAt (w.setRow g (wayCs p y)) g p y := setRow_heap w g old _ _ _ hg
theorem WayAt.set {p' : Int} {y' : Way} (h : WayAt w B p y) (i : Nat) (v : Value) (he : ∀ j, j < 82 → wayCell p' y' j = if j = i then v else wayCell p y j) : WayAt (w.setCell ⟨B, i, none⟩ v) B p' y' := by
  have e : (wayCs p y).setIfInBounds i v = wayCs p' y' := by
    apply Array.ext
    · simp [wayCs]
    · intro j h1 h2
      have h3 : j < 82 := by rw [wayCs_size] at h2; exact h2
      rw [Array.getElem_setIfInBounds (by rw [wayCs_size]; exact h3), wayCs_get, wayCs_get, he j h3]
      by_cases hj : i = j
      · rw [if_pos hj, if_pos hj.symm]
      · rw [if_neg hj, if_neg (fun e => hj e.symm)]
  unfold WayAt
  rw [← e]
  exact heap_setCell_same w B i _ _ v h
theorem wayCell_reg (p : Int) (y : Way) (d : Nat) (hd : d < 11) (i : Nat) (hi : i < 3) : wayCell p y (1 + d * 3 + i) = knoCell (y.reg d) i := by
  unfold wayCell
  rw [if_neg (by omega), if_pos (by omega), show (1 + d * 3 + i - 1) / 3 = d by omega, show (1 + d * 3 + i - 1) % 3 = i by omega]
theorem wayCell_slot (p : Int) (y : Way) (d : Nat) (i : Nat) (hi : i < 3) : wayCell p y (34 + d * 3 + i) = knoCell (y.slot d) i := by
  unfold wayCell
  rw [if_neg (by omega), if_neg (by omega), show (34 + d * 3 + i - 34) / 3 = d by omega, show (34 + d * 3 + i - 34) % 3 = i by omega]
theorem WayAt.step (h : WayAt w B p y) : w.cell? ⟨B, 0, none⟩ = some (vI vK p) := h.at 0 (by omega)
theorem WayAt.reg (h : WayAt w B p y) (hd : d < 11) : w.cell? ⟨B, 1 + d * 3, none⟩ = some (vI vK (y.reg d).k) ∧ w.cell? ⟨B, 1 + d * 3 + 1, none⟩ = some (vI vK (y.reg d).l) ∧ w.cell? ⟨B, 1 + d * 3 + 2, none⟩ = some (vI vK (y.reg d).h) :=
  ⟨by rw [h.at _ (by omega)]; exact congrArg some (wayCell_reg p y d hd 0 (by omega)), by rw [h.at _ (by omega), wayCell_reg p y d hd 1 (by omega)]; rfl, by rw [h.at _ (by omega), wayCell_reg p y d hd 2 (by omega)]; rfl⟩
theorem WayAt.slot (h : WayAt w B p y) (hd : d < 16) : w.cell? ⟨B, 34 + d * 3, none⟩ = some (vI vK (y.slot d).k) ∧ w.cell? ⟨B, 34 + d * 3 + 1, none⟩ = some (vI vK (y.slot d).l) ∧ w.cell? ⟨B, 34 + d * 3 + 2, none⟩ = some (vI vK (y.slot d).h) :=
  ⟨by rw [h.at _ (by omega)]; exact congrArg some (wayCell_slot p y d 0 (by omega)), by rw [h.at _ (by omega), wayCell_slot p y d 1 (by omega)]; rfl, by rw [h.at _ (by omega), wayCell_slot p y d 2 (by omega)]; rfl⟩
theorem WayAt.putStep (h : WayAt w B p y) (q : Int) : WayAt (w.setCell ⟨B, 0, none⟩ (vI vK q)) B q y :=
  h.set 0 _ fun j _ => by
    by_cases e : j = 0
    · rw [if_pos e, e]; rfl
    · rw [if_neg e]; unfold wayCell; rw [if_neg e, if_neg e]
theorem wayCell_putReg (p : Int) (y : Way) (d : Nat) (hd : d < 11) (x : Kno) (j : Nat) : wayCell p (y.putReg d x) j = if 1 + d * 3 ≤ j ∧ j < 1 + d * 3 + 3 then knoCell x (j - (1 + d * 3)) else wayCell p y j := by
  by_cases h : 1 + d * 3 ≤ j ∧ j < 1 + d * 3 + 3
  · rw [if_pos h]
    unfold wayCell
    rw [if_neg (by omega), if_pos (by omega), show (j - 1) / 3 = d by omega, show (j - 1) % 3 = j - (1 + d * 3) by omega]
    show knoCell (if d = d then x else y.reg d) _ = _
    rw [if_pos rfl]
  · rw [if_neg h]
    unfold wayCell
    by_cases h0 : j = 0
    · rw [if_pos h0, if_pos h0]
    rw [if_neg h0, if_neg h0]
    by_cases h1 : j < 34
    · rw [if_pos h1, if_pos h1]
      show knoCell (if (j - 1) / 3 = d then x else y.reg ((j - 1) / 3)) _ = _
      rw [if_neg (by omega)]
    · rw [if_neg h1, if_neg h1]; rfl
theorem wayCell_putSlot (p : Int) (y : Way) (d : Nat) (x : Kno) (j : Nat) : wayCell p (y.putSlot d x) j = if 34 + d * 3 ≤ j ∧ j < 34 + d * 3 + 3 then knoCell x (j - (34 + d * 3)) else wayCell p y j := by
  by_cases h : 34 + d * 3 ≤ j ∧ j < 34 + d * 3 + 3
  · rw [if_pos h]
    unfold wayCell
    rw [if_neg (by omega), if_neg (by omega), show (j - 34) / 3 = d by omega, show (j - 34) % 3 = j - (34 + d * 3) by omega]
    show knoCell (if d = d then x else y.slot d) _ = _
    rw [if_pos rfl]
  · rw [if_neg h]
    unfold wayCell
    by_cases h0 : j = 0
    · rw [if_pos h0, if_pos h0]
    rw [if_neg h0, if_neg h0]
    by_cases h1 : j < 34
    · rw [if_pos h1, if_pos h1]; rfl
    · rw [if_neg h1, if_neg h1]
      show knoCell (if (j - 34) / 3 = d then x else y.slot ((j - 34) / 3)) _ = _
      rw [if_neg (by omega)]
theorem way_regs (y : Way) (d : Nat) : y.putReg d (y.reg d) = y := by
  unfold Way.putReg
  have : (fun i => if i = d then y.reg d else y.reg i) = y.reg := by
    funext i
    by_cases h : i = d
    · rw [if_pos h, h]
    · rw [if_neg h]
  rw [this]
theorem way_slots (y : Way) (d : Nat) : y.putSlot d (y.slot d) = y := by
  unfold Way.putSlot
  have : (fun i => if i = d then y.slot d else y.slot i) = y.slot := by
    funext i
    by_cases h : i = d
    · rw [if_pos h, h]
    · rw [if_neg h]
  rw [this]
theorem reg_part (p : Int) (y : Way) (d : Nat) (hd : d < 11) (x z : Kno) (i : Nat) (hi : i < 3) (h : ∀ j, j < 3 → knoCell z j = if j = i then knoCell z i else knoCell x j) : ∀ j, j < 82 → wayCell p (y.putReg d z) j = if j = 1 + d * 3 + i then knoCell z i else wayCell p (y.putReg d x) j := by
  intro j _
  rw [wayCell_putReg p y d hd z j, wayCell_putReg p y d hd x j]
  by_cases hin : 1 + d * 3 ≤ j ∧ j < 1 + d * 3 + 3
  · rw [if_pos hin, if_pos hin, h _ (by omega)]
    by_cases e : j = 1 + d * 3 + i
    · rw [if_pos e, if_pos (by omega)]
    · rw [if_neg e, if_neg (by omega)]
  · rw [if_neg hin, if_neg hin, if_neg (by omega)]
theorem wslot_part (p : Int) (y : Way) (d : Nat) (x z : Kno) (i : Nat) (hi : i < 3) (h : ∀ j, j < 3 → knoCell z j = if j = i then knoCell z i else knoCell x j) : ∀ j, j < 82 → wayCell p (y.putSlot d z) j = if j = 34 + d * 3 + i then knoCell z i else wayCell p (y.putSlot d x) j := by
  intro j _
  rw [wayCell_putSlot p y d z j, wayCell_putSlot p y d x j]
  by_cases hin : 34 + d * 3 ≤ j ∧ j < 34 + d * 3 + 3
  · rw [if_pos hin, if_pos hin, h _ (by omega)]
    by_cases e : j = 34 + d * 3 + i
    · rw [if_pos e, if_pos (by omega)]
    · rw [if_neg e, if_neg (by omega)]
  · rw [if_neg hin, if_neg hin, if_neg (by omega)]
theorem WayAt.reg3 (h : WayAt w B p y) (hd : d < 11) (k l g : Int) : WayAt (((w.setCell ⟨B, 1 + d * 3, none⟩ (vI vK k)).setCell ⟨B, 1 + d * 3 + 1, none⟩ (vI vK l)).setCell ⟨B, 1 + d * 3 + 2, none⟩ (vI vK g)) B p (y.putReg d ⟨k, l, g⟩) := by
  have h1 : WayAt (w.setCell ⟨B, 1 + d * 3, none⟩ (vI vK k)) B p (y.putReg d ⟨k, (y.reg d).l, (y.reg d).h⟩) := h.set _ _ fun j hj => by
    have := reg_part p y d hd (y.reg d) ⟨k, (y.reg d).l, (y.reg d).h⟩ 0 (by omega) (fun j hj => by rcases (show j = 0 ∨ j = 1 ∨ j = 2 by omega) with rfl | rfl | rfl <;> rfl) j hj
    rw [this, way_regs y d]; rfl
  have h2 : WayAt ((w.setCell ⟨B, 1 + d * 3, none⟩ (vI vK k)).setCell ⟨B, 1 + d * 3 + 1, none⟩ (vI vK l)) B p (y.putReg d ⟨k, l, (y.reg d).h⟩) := h1.set _ _ fun j hj =>
    reg_part p y d hd ⟨k, (y.reg d).l, (y.reg d).h⟩ ⟨k, l, (y.reg d).h⟩ 1 (by omega) (fun j hj => by rcases (show j = 0 ∨ j = 1 ∨ j = 2 by omega) with rfl | rfl | rfl <;> rfl) j hj
  exact h2.set _ _ fun j hj =>
    reg_part p y d hd ⟨k, l, (y.reg d).h⟩ ⟨k, l, g⟩ 2 (by omega) (fun j hj => by rcases (show j = 0 ∨ j = 1 ∨ j = 2 by omega) with rfl | rfl | rfl <;> rfl) j hj
theorem WayAt.slot3 (h : WayAt w B p y) (d : Nat) (k l g : Int) : WayAt (((w.setCell ⟨B, 34 + d * 3, none⟩ (vI vK k)).setCell ⟨B, 34 + d * 3 + 1, none⟩ (vI vK l)).setCell ⟨B, 34 + d * 3 + 2, none⟩ (vI vK g)) B p (y.putSlot d ⟨k, l, g⟩) := by
  have h1 : WayAt (w.setCell ⟨B, 34 + d * 3, none⟩ (vI vK k)) B p (y.putSlot d ⟨k, (y.slot d).l, (y.slot d).h⟩) := h.set _ _ fun j hj => by
    have := wslot_part p y d (y.slot d) ⟨k, (y.slot d).l, (y.slot d).h⟩ 0 (by omega) (fun j hj => by rcases (show j = 0 ∨ j = 1 ∨ j = 2 by omega) with rfl | rfl | rfl <;> rfl) j hj
    rw [this, way_slots y d]; rfl
  have h2 : WayAt ((w.setCell ⟨B, 34 + d * 3, none⟩ (vI vK k)).setCell ⟨B, 34 + d * 3 + 1, none⟩ (vI vK l)) B p (y.putSlot d ⟨k, l, (y.slot d).h⟩) := h1.set _ _ fun j hj =>
    wslot_part p y d ⟨k, (y.slot d).l, (y.slot d).h⟩ ⟨k, l, (y.slot d).h⟩ 1 (by omega) (fun j hj => by rcases (show j = 0 ∨ j = 1 ∨ j = 2 by omega) with rfl | rfl | rfl <;> rfl) j hj
  exact h2.set _ _ fun j hj =>
    wslot_part p y d ⟨k, l, (y.slot d).h⟩ ⟨k, l, g⟩ 2 (by omega) (fun j hj => by rcases (show j = 0 ∨ j = 1 ∨ j = 2 by omega) with rfl | rfl | rfl <;> rfl) j hj
end
theorem Tryz.infoW : (Tryz.prog.info? 150).map (·.size) = some 82 := by kernel_rfl
theorem infoW_of (p : Int) (y : Way) : (Tryz.prog.info? 150).map (·.size) = some (wayCs p y).size := by rw [wayCs_size]; exact Tryz.infoW
theorem way_results1 {fn : Func} {q : Tmp} (h : fn.results = #[.cell q 150]) (tmps : Array Value) (w : World) (g : Nat) (p : Int) (y : Way) (hp : tmps.getD q undef = .pointer (some ⟨g, 0, none⟩)) (hg : WayAt w g p y) :
    (results fn tmps).run Tryz.prog w = .ok (.agg (wayCs p y)) w :=
  results_cell_row h tmps w g _ _ _ _ hp hg Tryz.underlying150 rfl (infoW_of p y)
end Go.Proofs.YtednmkhdehlojaaGreatDoor
namespace Go.Proofs.YtednmkhdehlojaaGreatDoor
open Go.ChangeShapes Go.WideShapes Go.ChangeAt Go.RowKit
theorem vnumber_any (l h : Int) (w : World) : Calls Tryz.prog 150 #[.agg #[vI vK l, vI vK h]] w fun e w' => e = .returned (knoNum l h).v ∧ Below w.heap.size w w' := by
  go_enter Tryz.func150, Tryz.ntmps150
  go_wp2
  exact bodyPost_ret (v := (knoNum l h).v) (by simp [results, Tryz.results150, go_sem, knoNum, Kno.v]) rfl ⟨rfl, by repeat' first | with_reducible (first | exact bF _ _ | refine bA ?_ ?_ _ | refine bS ?_ ?_ _ | refine bD ?_) | ((try dsimp only); omega) | (simp; done) | (simp; omega)⟩
theorem isPlace_x2 (k l h : Int) (w : World) (y2 : (k == 2) = true) : Calls Tryz.prog 181 #[.agg #[vI vK k, vI vK l, vI vK h]] w fun e w' => e = .returned (.bool true) ∧ Below w.heap.size w w' := by
  go_enter Tryz.func181, Tryz.ntmps181
  go_wp2
  go_ret
  exact ⟨rfl, by repeat' first | with_reducible (first | exact bF _ _ | refine bA ?_ ?_ _ | refine bS ?_ ?_ _ | refine bD ?_) | ((try dsimp only); omega) | (simp; done) | (simp; omega)⟩
theorem isPlace_x3 (k l h : Int) (w : World) (y2 : (k == 2) = false) (y3 : (k == 3) = true) : Calls Tryz.prog 181 #[.agg #[vI vK k, vI vK l, vI vK h]] w fun e w' => e = .returned (.bool true) ∧ Below w.heap.size w w' := by
  go_enter Tryz.func181, Tryz.ntmps181
  go_wp2
  go_ret
  exact ⟨rfl, by repeat' first | with_reducible (first | exact bF _ _ | refine bA ?_ ?_ _ | refine bS ?_ ?_ _ | refine bD ?_) | ((try dsimp only); omega) | (simp; done) | (simp; omega)⟩
theorem isPlace_x4 (k l h : Int) (w : World) (y2 : (k == 2) = false) (y3 : (k == 3) = false) (y4 : (k == 4) = true) : Calls Tryz.prog 181 #[.agg #[vI vK k, vI vK l, vI vK h]] w fun e w' => e = .returned (.bool true) ∧ Below w.heap.size w w' := by
  go_enter Tryz.func181, Tryz.ntmps181
  go_wp2
  go_ret
  exact ⟨rfl, by repeat' first | with_reducible (first | exact bF _ _ | refine bA ?_ ?_ _ | refine bS ?_ ?_ _ | refine bD ?_) | ((try dsimp only); omega) | (simp; done) | (simp; omega)⟩
theorem isPlace_no (k l h : Int) (w : World) (y2 : (k == 2) = false) (y3 : (k == 3) = false) (y4 : (k == 4) = false) : Calls Tryz.prog 181 #[.agg #[vI vK k, vI vK l, vI vK h]] w fun e w' => e = .returned (.bool false) ∧ Below w.heap.size w w' := by
  go_enter Tryz.func181, Tryz.ntmps181
  go_wp2
  go_ret
  exact ⟨rfl, by repeat' first | with_reducible (first | exact bF _ _ | refine bA ?_ ?_ _ | refine bS ?_ ?_ _ | refine bD ?_) | ((try dsimp only); omega) | (simp; done) | (simp; omega)⟩
def isPlaceB (k : Int) : Bool := k == 2 || k == 3 || k == 4
theorem isPlace_any (k l h : Int) (w : World) : Calls Tryz.prog 181 #[.agg #[vI vK k, vI vK l, vI vK h]] w fun e w' => e = .returned (.bool (isPlaceB k)) ∧ Below w.heap.size w w' := by
  unfold isPlaceB
  cases y2 : k == 2
  · cases y3 : k == 3
    · cases y4 : k == 4
      · exact isPlace_no k l h w y2 y3 y4
      · exact isPlace_x4 k l h w y2 y3 y4
    · exact isPlace_x3 k l h w y2 y3
  · exact isPlace_x2 k l h w y2
theorem isPlaceB_iff (k : Int) : isPlaceB k = true ↔ (k = 2 ∨ k = 3 ∨ k = 4) := by unfold isPlaceB; simp [or_assoc]
theorem vwant_n0 (k l h : Int) (w : World) (y0 : (k == 0) = true) : Calls Tryz.prog 107 #[.agg #[vI vK k, vI vK l, vI vK h]] w fun e w' => e = .returned (vI vK 8) ∧ Below w.heap.size w w' := by
  go_enter Tryz.func107, Tryz.ntmps107
  go_wp2
  go_ret
  exact ⟨rfl, by repeat' first | with_reducible (first | exact bF _ _ | refine bA ?_ ?_ _ | refine bS ?_ ?_ _ | refine bD ?_) | ((try dsimp only); omega) | (simp; done) | (simp; omega)⟩
theorem vwant_n1 (k l h : Int) (w : World) (y0 : (k == 0) = false) (y1 : (k == 1) = true) : Calls Tryz.prog 107 #[.agg #[vI vK k, vI vK l, vI vK h]] w fun e w' => e = .returned (vI vK 0) ∧ Below w.heap.size w w' := by
  go_enter Tryz.func107, Tryz.ntmps107
  go_wp2
  go_ret
  exact ⟨rfl, by repeat' first | with_reducible (first | exact bF _ _ | refine bA ?_ ?_ _ | refine bS ?_ ?_ _ | refine bD ?_) | ((try dsimp only); omega) | (simp; done) | (simp; omega)⟩
theorem vwant_n2 (k l h : Int) (w : World) (y0 : (k == 0) = false) (y1 : (k == 1) = false) : Calls Tryz.prog 107 #[.agg #[vI vK k, vI vK l, vI vK h]] w fun e w' => e = .returned (vI vK 1) ∧ Below w.heap.size w w' := by
  go_enter Tryz.func107, Tryz.ntmps107
  go_wp2
  go_ret
  exact ⟨rfl, by repeat' first | with_reducible (first | exact bF _ _ | refine bA ?_ ?_ _ | refine bS ?_ ?_ _ | refine bD ?_) | ((try dsimp only); omega) | (simp; done) | (simp; omega)⟩
theorem vwant_any (k l h : Int) (w : World) : Calls Tryz.prog 107 #[.agg #[vI vK k, vI vK l, vI vK h]] w fun e w' => e = .returned (vI vK (knoWant ⟨k, l, h⟩)) ∧ Below w.heap.size w w' := by
  unfold knoWant
  by_cases h0 : k = 0
  · rw [if_pos h0]; exact vwant_n0 k l h w (by simpa using h0)
  by_cases h1 : k = 1
  · rw [if_neg h0, if_pos h1]; exact vwant_n1 k l h w (by simpa using h0) (by simpa using h1)
  · rw [if_neg h0, if_neg h1]; exact vwant_n2 k l h w (by simpa using h0) (by simpa using h1)
theorem room_2 (k : Int) (w : World) (y2 : (k == 2) = true) : Calls Tryz.prog 183 #[vI vK k] w fun e w' => e = .returned (.agg #[vI vK 0, vI vK 7]) ∧ Below w.heap.size w w' := by
  go_enter Tryz.func183, Tryz.ntmps183
  go_wp2
  exact bodyPost_ret (v := .agg #[vI vK 0, vI vK 7]) (by simp [results, Tryz.results183, go_sem]) rfl ⟨rfl, by repeat' first | with_reducible (first | exact bF _ _ | refine bA ?_ ?_ _ | refine bS ?_ ?_ _ | refine bD ?_) | ((try dsimp only); omega) | (simp; done) | (simp; omega)⟩
theorem room_3 (k : Int) (w : World) (y2 : (k == 2) = false) (y3 : (k == 3) = true) : Calls Tryz.prog 183 #[vI vK k] w fun e w' => e = .returned (.agg #[vI vK (-16), vI vK (-1)]) ∧ Below w.heap.size w w' := by
  go_enter Tryz.func183, Tryz.ntmps183
  go_wp2
  exact bodyPost_ret (v := .agg #[vI vK (-16), vI vK (-1)]) (by simp [results, Tryz.results183, go_sem]) rfl ⟨rfl, by repeat' first | with_reducible (first | exact bF _ _ | refine bA ?_ ?_ _ | refine bS ?_ ?_ _ | refine bD ?_) | ((try dsimp only); omega) | (simp; done) | (simp; omega)⟩
theorem room_4 (k : Int) (w : World) (y2 : (k == 2) = false) (y3 : (k == 3) = false) : Calls Tryz.prog 183 #[vI vK k] w fun e w' => e = .returned (.agg #[vI vK 0, vI vK 3]) ∧ Below w.heap.size w w' := by
  go_enter Tryz.func183, Tryz.ntmps183
  go_wp2
  exact bodyPost_ret (v := .agg #[vI vK 0, vI vK 3]) (by simp [results, Tryz.results183, go_sem]) rfl ⟨rfl, by repeat' first | with_reducible (first | exact bF _ _ | refine bA ?_ ?_ _ | refine bS ?_ ?_ _ | refine bD ?_) | ((try dsimp only); omega) | (simp; done) | (simp; omega)⟩
theorem room_any (k : Int) (w : World) : Calls Tryz.prog 183 #[vI vK k] w fun e w' => e = .returned (.agg #[vI vK (knoRoom k).1, vI vK (knoRoom k).2]) ∧ Below w.heap.size w w' := by
  unfold knoRoom
  by_cases h2 : k = 2
  · rw [if_pos h2]; exact room_2 k w (by simpa using h2)
  by_cases h3 : k = 3
  · rw [if_neg h2, if_pos h3]; exact room_3 k w (by simpa using h2) (by simpa using h3)
  · rw [if_neg h2, if_neg h3]; exact room_4 k w (by simpa using h2) (by simpa using h3)

theorem all_is  (w : World) : Calls Tryz.prog 151 #[] w fun e w' => e = .returned (.agg #[vI vK (-9223372036854775808), vI vK 9223372036854775807]) ∧ Below w.heap.size w w' := by
  go_enter Tryz.func151, Tryz.ntmps151
  go_wp2
  exact bodyPost_ret (v := .agg #[vI vK (-9223372036854775808), vI vK 9223372036854775807]) (by simp [results, Tryz.results151, go_sem]) rfl ⟨rfl, by repeat' first | exact bF _ _ | refine bA ?_ ?_ _ | refine bS ?_ ?_ _ | refine bD ?_ | (simp; done) | (simp; omega) | (simp [drew_size]; done) | (simp [drew_size]; omega) | omega⟩
theorem one_is (n : Int) (w : World) : Calls Tryz.prog 37 #[vI vK n] w fun e w' => e = .returned (.agg #[vI vK n, vI vK n]) ∧ Below w.heap.size w w' := by
  go_enter Tryz.func37, Tryz.ntmps37
  go_wp2
  exact bodyPost_ret (v := .agg #[vI vK n, vI vK n]) (by simp [results, Tryz.results37, go_sem]) rfl ⟨rfl, by repeat' first | exact bF _ _ | refine bA ?_ ?_ _ | refine bS ?_ ?_ _ | refine bD ?_ | (simp; done) | (simp; omega) | (simp [drew_size]; done) | (simp [drew_size]; omega) | omega⟩
theorem join_is (al ah bl bh : Int) (w : World) : Calls Tryz.prog 67 #[.agg #[vI vK al, vI vK ah], .agg #[vI vK bl, vI vK bh]] w fun e w' => e = .returned (.agg #[vI vK (min al bl), vI vK (max ah bh)]) ∧ Below w.heap.size w w' := by
  go_enter Tryz.func67, Tryz.ntmps67
  go_wp2
  exact bodyPost_ret (v := .agg #[vI vK (min al bl), vI vK (max ah bh)]) (by simp [results, Tryz.results67, go_sem]) rfl ⟨rfl, by repeat' first | exact bF _ _ | refine bA ?_ ?_ _ | refine bS ?_ ?_ _ | refine bD ?_ | (simp; done) | (simp; omega) | (simp [drew_size]; done) | (simp [drew_size]; omega) | omega⟩
theorem has_is (bl bh n : Int) (w : World) : Calls Tryz.prog 22 #[.agg #[vI vK bl, vI vK bh], vI vK n] w fun e w' => e = .returned (.bool (decide (bl ≤ n) && decide (n ≤ bh))) ∧ Below w.heap.size w w' := by
  by_cases h1 : bl ≤ n
  · go_enter Tryz.func22, Tryz.ntmps22
    go_wp2
    go_ret
    exact ⟨ret_bool (by simp [h1]), (bF _ _).alloc (Nat.le_refl _) _⟩
  · have h2 : decide (bl ≤ n) = false := by simpa using h1
    rw [h2, Bool.false_and]
    go_enter Tryz.func22, Tryz.ntmps22
    go_wp2
    go_ret
    exact ⟨rfl, (bF _ _).alloc (Nat.le_refl _) _⟩
theorem idx_end0 (x y : Int) (p q : Bool) (w : World) : (Instr.index 285 (.agg #[vI vK x, .bool p, vI vK y, .bool q]) (vI vK 0)).run Tryz.prog w = .ok (.agg #[vI vK x, .bool p]) w := by kernel_rfl
theorem idx_end1 (x y : Int) (p q : Bool) (w : World) : (Instr.index 285 (.agg #[vI vK x, .bool p, vI vK y, .bool q]) (vI vK 1)).run Tryz.prog w = .ok (.agg #[vI vK y, .bool q]) w := by kernel_rfl
theorem between_yes (x y : Int) (w : World) : Calls Tryz.prog 199 #[.agg #[vI vK x, .bool true, vI vK y, .bool true]] w fun e w' => e = .returned (.agg #[vI vK x, vI vK y]) ∧ Below w.heap.size w w' := by
  have i0 := idx_end0 x y true true
  have i1 := idx_end1 x y true true
  go_enter Tryz.func199, Tryz.ntmps199
  go_wp2
  refine wp_loop_rounds 3 ?_
  repeat any_goals (rw [rounds_succ]; go_wp2)
  exact bodyPost_ret (v := .agg #[vI vK x, vI vK y]) (by simp [results, Tryz.results199, go_sem]) rfl ⟨rfl, by repeat' first | exact bF _ _ | refine bA ?_ ?_ _ | refine bS ?_ ?_ _ | refine bD ?_ | (simp; done) | (simp; omega) | (simp [drew_size]; done) | (simp [drew_size]; omega) | omega⟩
theorem between_no (x y : Int) (p q : Bool) (h : (p && q) = false) (w : World) : Calls Tryz.prog 199 #[.agg #[vI vK x, .bool p, vI vK y, .bool q]] w fun e w' => e = .returned (.agg #[vI vK (-9223372036854775808), vI vK 9223372036854775807]) ∧ Below w.heap.size w w' := by
  have i0 := idx_end0 x y p q
  have i1 := idx_end1 x y p q
  cases p
  · go_enter Tryz.func199, Tryz.ntmps199
    go_wp2
    refine wp_loop_rounds 3 ?_
    repeat any_goals (rw [rounds_succ]; go_wp2_with (go_at_call 151; refine (all_is _).mono ?_; rintro e w1 ⟨rfl, hb1⟩; obtain ⟨hcl1, hfr1⟩ := old_cells hb1; have hs1 := hb1.size; (try simp only [drew_size] at hs1); (try simp at hs1); have hbw1 : Below w.heap.size w w1 := by ((refine Below.trans ?_ (hb1.mono ?_)) <;> repeat' first | exact bF _ _ | refine bA ?_ ?_ _ | refine bS ?_ ?_ _ | refine bD ?_ | (simp; done) | (simp; omega) | (simp [drew_size]; done) | (simp [drew_size]; omega) | omega)))
    exact bodyPost_ret (v := .agg #[vI vK (-9223372036854775808), vI vK 9223372036854775807]) (by simp [results, Tryz.results199, go_sem, hcl1]) rfl ⟨rfl, by repeat' first | exact bF _ _ | exact hbw1 | refine bA ?_ ?_ _ | refine bS ?_ ?_ _ | refine bD ?_ | (simp; done) | (simp; omega) | (simp [drew_size]; done) | (simp [drew_size]; omega) | omega⟩
  · have hq : q = false := by simpa using h
    subst hq
    go_enter Tryz.func199, Tryz.ntmps199
    go_wp2
    refine wp_loop_rounds 3 ?_
    repeat any_goals (rw [rounds_succ]; go_wp2_with (go_at_call 151; refine (all_is _).mono ?_; rintro e w1 ⟨rfl, hb1⟩; obtain ⟨hcl1, hfr1⟩ := old_cells hb1; have hs1 := hb1.size; (try simp only [drew_size] at hs1); (try simp at hs1); have hbw1 : Below w.heap.size w w1 := by ((refine Below.trans ?_ (hb1.mono ?_)) <;> repeat' first | exact bF _ _ | refine bA ?_ ?_ _ | refine bS ?_ ?_ _ | refine bD ?_ | (simp; done) | (simp; omega) | (simp [drew_size]; done) | (simp [drew_size]; omega) | omega)))
    exact bodyPost_ret (v := .agg #[vI vK (-9223372036854775808), vI vK 9223372036854775807]) (by simp [results, Tryz.results199, go_sem, hcl1]) rfl ⟨rfl, by repeat' first | exact bF _ _ | exact hbw1 | refine bA ?_ ?_ _ | refine bS ?_ ?_ _ | refine bD ?_ | (simp; done) | (simp; omega) | (simp [drew_size]; done) | (simp [drew_size]; omega) | omega⟩
theorem between_is (x y : Int) (p q : Bool) (w : World) : Calls Tryz.prog 199 #[.agg #[vI vK x, .bool p, vI vK y, .bool q]] w fun e w' => e = .returned (.agg #[vI vK (if p && q then x else -9223372036854775808), vI vK (if p && q then y else 9223372036854775807)]) ∧ Below w.heap.size w w' := by
  cases h : p && q
  · exact between_no x y p q h w
  · simp only [Bool.and_eq_true] at h
    obtain ⟨rfl, rfl⟩ := h
    exact between_yes x y w
end Go.Proofs.YtednmkhdehlojaaGreatDoor
