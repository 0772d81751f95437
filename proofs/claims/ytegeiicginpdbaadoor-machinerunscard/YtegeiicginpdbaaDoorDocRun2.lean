/-
  What the document's Run answers, of right steps: by the plain machine. Conditions: the list's cells hold steps; numbers are of 64 bits.
-/
import Derived.Test.YtegeiicginpdbaaDoorDocRun
import Derived.Test.YtegeiicginpdbaaDoorDocAll
import Derived.Test.YtegeiicginpdbaaDoorRegionHand2
namespace Go.Proofs.YtegeiicginpdbaaDoor
open Go.ChangeShapes Go.WideShapes Go.ChangeAt Go.RowKit
attribute [local simp] drew_size drewN_size setCell_size
def dox0 (T K : Nat → Int) (time : Int) : Dox := ⟨fun _ => none0, fun _ => none0, T, 0, K, .slice none 0 0, 0, time⟩
def dcells0 (z : Array Value) (T K : Nat → Int) (time : Int) : Array Value := (((((((((((((((((((((((((z).setIfInBounds 81 (.int .i64 (T 0))).setIfInBounds 82 (.int .i64 (T 1))).setIfInBounds 83 (.int .i64 (T 2))).setIfInBounds 84 (.int .i64 (T 3))).setIfInBounds 85 (.int .i64 (T 4))).setIfInBounds 86 (.int .i64 (T 5))).setIfInBounds 87 (.int .i64 (T 6))).setIfInBounds 88 (.int .i64 (T 7))).setIfInBounds 108 (.int .i64 time)).setIfInBounds 90 (.int .i64 (K 0))).setIfInBounds 91 (.int .i64 (K 1))).setIfInBounds 92 (.int .i64 (K 2))).setIfInBounds 93 (.int .i64 (K 3))).setIfInBounds 94 (.int .i64 (K 4))).setIfInBounds 95 (.int .i64 (K 5))).setIfInBounds 96 (.int .i64 (K 6))).setIfInBounds 97 (.int .i64 (K 7))).setIfInBounds 98 (.int .i64 (K 8))).setIfInBounds 99 (.int .i64 (K 9))).setIfInBounds 100 (.int .i64 (K 10))).setIfInBounds 101 (.int .i64 (K 11))).setIfInBounds 102 (.int .i64 (K 12))).setIfInBounds 103 (.int .i64 (K 13))).setIfInBounds 104 (.int .i64 (K 14))).setIfInBounds 105 (.int .i64 (K 15))
theorem dcells0_is (T K : Nat → Int) (time : Int) : dcells0 Tryd.zeroCells111 T K time = Array.ofFn (n := 109) fun i => (dox0 T K time).cell i.1 := by
  kernel_rfl
theorem dox0_at (w : World) (T K : Nat → Int) (time : Int) : DoxAt (w.alloc (.cells (dcells0 Tryd.zeroCells111 T K time) 111)) w.heap.size (dox0 T K time) := by
  rw [dcells0_is]
  show (w.heap.push _)[w.heap.size]? = _
  simp
def dstart (T K : Nat → Int) (time : Int) : Dox := ((dox0 T K time).putReg 1 ⟨2, 0, 0⟩).putReg 10 ⟨3, 0, 0⟩
theorem dstart_other (T K : Nat → Int) (time : Int) : ((dox0 T K time).putReg 10 ⟨3, 0, 0⟩).putReg 1 ⟨2, 0, 0⟩ = dstart T K time := by
  unfold dstart Dox.putReg
  congr 1
  funext i
  show (if i = 1 then (⟨2, 0, 0⟩ : Val) else if i = 10 then ⟨3, 0, 0⟩ else none0) = if i = 10 then ⟨3, 0, 0⟩ else if i = 1 then ⟨2, 0, 0⟩ else none0
  by_cases h : i = 1
  · rw [if_pos h, if_neg (by omega), if_pos h]
  · rw [if_neg h, if_neg h]
theorem DoxAt.put1t {w : World} {B : Nat} {m : Dox} (h : DoxAt w B m) : DoxAt (((w.setCell ⟨B, 3, none⟩ (.int .u8 116)).setCell ⟨B, 4, none⟩ (.int .i64 0)).setCell ⟨B, 5, none⟩ (.int .i64 0)) B (m.putReg 1 ⟨2, 0, 0⟩) := h.putReg3 (d := 1) (by decide) 2 0 0
theorem DoxAt.put10f {w : World} {B : Nat} {m : Dox} (h : DoxAt w B m) : DoxAt (((w.setCell ⟨B, 30, none⟩ (.int .u8 102)).setCell ⟨B, 31, none⟩ (.int .i64 0)).setCell ⟨B, 32, none⟩ (.int .i64 0)) B (m.putReg 10 ⟨3, 0, 0⟩) := h.putReg3 (d := 10) (by decide) 3 0 0
theorem dstart_abs (T K : Nat → Int) (time : Int) : (dstart T K time).abs [] = (start T K time).abs [] := rfl
theorem right_reg {len : Nat} {C D S : Nat → Int} {R : Nat → Bool} {O N : Nat → Int} {k : Nat} (h : faultAt len C D S R O N k = 0) (hc : C k = 14 ∨ C k = 25 ∨ C k = 27 ∨ C k = 28) : R k = false := by
  have hr := right_of h
  have c1 := hr.c1
  have c2 := hr.c2
  have d1 := hr.d1
  have d2 := hr.d2
  have s1 := hr.s1
  have s2 := hr.s2
  unfold faultAt wrongV at h
  have ha : aloneV (C k) (D k) (S k) (R k) (O k) (N k) = 0 := by
    by_cases e : aloneV (C k) (D k) (S k) (R k) (O k) (N k) = 0
    · exact e
    · rw [if_pos e] at h; exact h
  cases hR : R k
  · rfl
  · exfalso
    rw [hR] at ha
    have hm : moreV (C k) (D k) (S k) true (O k) (N k) = true := by
      unfold moreV
      rcases hc with e | e | e | e
      · rw [if_neg (by omega), if_neg (by omega), if_neg (by omega), if_pos e]; simp
      · rw [if_neg (by omega), if_neg (by omega), if_neg (by omega), if_neg (by omega), if_pos e]; simp
      · rw [if_neg (by omega), if_neg (by omega), if_neg (by omega), if_neg (by omega), if_neg (by omega), if_neg (by omega), if_pos e]; simp
      · rw [if_neg (by omega), if_neg (by omega), if_neg (by omega), if_neg (by omega), if_neg (by omega), if_neg (by omega), if_neg (by omega)]; simp
    unfold aloneV at ha
    rw [if_neg (by omega), if_neg (by omega)] at ha
    split at ha
    · exact absurd ha (by decide)
    · rw [if_pos (Or.inl hm)] at ha; exact absurd ha (by decide)
def ranCs (n0 : Int) (a : Abs) (v : Value) (k : Int) : Array Value := #[.int .i64 n0, .int .i64 (a.cel 0), .int .i64 (a.cel 1), .int .i64 (a.cel 2), .int .i64 (a.cel 3), .int .i64 (a.cel 4), .int .i64 (a.cel 5), .int .i64 (a.cel 6), .int .i64 (a.cel 7), .int .i64 (a.cel 8), .int .i64 (a.cel 9), .int .i64 (a.cel 10), .int .i64 (a.cel 11), .int .i64 (a.cel 12), .int .i64 (a.cel 13), .int .i64 (a.cel 14), .int .i64 (a.cel 15), v, .int .i64 k]
/-- What the document's Run answers. -/
def DPost (w w' : World) (X : End) (e : Ending) : Prop :=
  Below w.heap.size w w' ∧
    match X with
    | .inl (er, q) => e = .returned (.tuple #[zeroRan, .agg #[.int .i64 er, .int .i64 (q : Int)]]) ∧ er ≠ 0
    | .inr (n0, k, a) => ∃ v, e = .returned (.tuple #[.agg (ranCs n0 a v (k : Int)), .agg #[.int .i64 0, .int .i64 (-1)]]) ∧ w'.ownsRow (w.heap.size + 1) 2 1 v a.out.length (a.out.map (Value.int .i64))
theorem own_rows {w2 w7 : World} {b b' g g2 : Nat} {e : TypeId} {z : Nat} {v : Value} {n : Nat} {xs : List Value} (h : w2.ownsRow b e z v n xs) (hb : Below w2.heap.size w2 w7) (hg : g < b) (hg2 : g2 < b) (hb' : b' ≤ b) (cs us : Array Value) : ((w7.setRow g cs).setRow g2 us).ownsRow b' e z v n xs := by
  obtain ⟨h1, h2⟩ := h
  refine ⟨h1, ?_⟩
  rcases h2 with h2 | ⟨k, cap, cur, hv, hk, hh, r⟩
  · exact Or.inl h2
  · exact Or.inr ⟨k, cap, cur, hv, by omega, (setRow_other _ g2 k us (by omega)).trans ((setRow_other w7 g k cs (by omega)).trans ((hb.block k (Array.getElem?_eq_some_iff.1 hh).1).trans hh)), r⟩
def S13 (B g g2 : Nat) (m : Dox) (W : World) : Prop := DoxAt W B m ∧ (∃ cs : Array Value, cs.size = 19 ∧ W.heap[g]? = some (.cells cs 64 (0, 0))) ∧ ∃ us : Array Value, us.size = 2 ∧ W.heap[g2]? = some (.cells us 29 (0, 0))
theorem load_dan {o : Oper} {x : Operand} {u : Act} (W : World) (B : Nat) (m : Dox) (hM : DoxAt W B m) (L : List Int) (ho : o.op = .load 64 x) (hx : u.eval x = .pointer (some ⟨B, 89, none⟩)) : (execOp u.eval o).run Tryd.prog W = .ok (.value (.agg (ranCs m.num (m.abs L) m.out m.steps))) W := by
  have hr : W.rangeAt B 89 (ranCs m.num (m.abs L) m.out m.steps).toList := by
    intro j v hv
    have hj : j < 19 := (List.getElem?_eq_some_iff.1 hv).1
    rw [hM.at _ (by omega)]
    have hk : ∀ i, i < 19 → (ranCs m.num (m.abs L) m.out m.steps).toList[i]? = some (m.cell (89 + i)) := by
      intro i hi
      rcases (show i = 0 ∨ i = 1 ∨ i = 2 ∨ i = 3 ∨ i = 4 ∨ i = 5 ∨ i = 6 ∨ i = 7 ∨ i = 8 ∨ i = 9 ∨ i = 10 ∨ i = 11 ∨ i = 12 ∨ i = 13 ∨ i = 14 ∨ i = 15 ∨ i = 16 ∨ i = 17 ∨ i = 18 by omega) with rfl | rfl | rfl | rfl | rfl | rfl | rfl | rfl | rfl | rfl | rfl | rfl | rfl | rfl | rfl | rfl | rfl | rfl | rfl <;> rfl
    rw [hk j hj] at hv
    exact hv
  have hl := run_loadVar_mid (P := Tryd.prog) W B 89 64 (ranCs m.num (m.abs L) m.out m.steps).toList _ hr Tryd.underlying64 rfl (by rw [Tryd.infoDan]; rfl)
  unfold execOp
  simp only [ho, hx, Instr.loadAt, Instr.sureAddr, Sem.run_bind, Sem.run_pure, Result.andThen_ok, hl]
set_option maxHeartbeats 4000000 in
set_option maxRecDepth 100000 in
theorem drun_all (bk off len cap : Nat) (C D S O N : Nat → Int) (R : Nat → Bool) (T K : Nat → Int) (time : Int) (w : World) (h1 : 1 ≤ len) (h2 : len ≤ 200) (hbk : bk < w.heap.size) (hst : StepsAt w bk off len C D S R O N) (h : ∀ j, j < len → faultAt len C D S R O N j = 0) (hN : ∀ k, k < len → In64 (N k)) (hOo : ∀ k, k < len → In64 (O k)) (hT : ∀ i, i < 8 → In64 (T i)) (hK : ∀ i, i < 16 → In64 (K i)) (ht : In64 time) :
    Calls Tryd.prog 27 #[.slice (some ⟨bk, off, none⟩) len cap, .agg #[.int .i64 (T 0), .int .i64 (T 1), .int .i64 (T 2), .int .i64 (T 3), .int .i64 (T 4), .int .i64 (T 5), .int .i64 (T 6), .int .i64 (T 7)], .agg #[.int .i64 (K 0), .int .i64 (K 1), .int .i64 (K 2), .int .i64 (K 3), .int .i64 (K 4), .int .i64 (K 5), .int .i64 (K 6), .int .i64 (K 7), .int .i64 (K 8), .int .i64 (K 9), .int .i64 (K 10), .int .i64 (K 11), .int .i64 (K 12), .int .i64 (K 13), .int .i64 (K 14), .int .i64 (K 15)], .int .i64 time] w fun e w' => DPost w w' (runF C D S R O N len 0 0 ((start T K time).abs [])) e := by
  obtain ⟨X, hX⟩ : ∃ X, runF C D S R O N len 0 0 ((start T K time).abs []) = X := ⟨_, rfl⟩
  rw [hX]
  have HX0 : Hid (runF C D S R O N len 0 0 ((start T K time).abs []) = X) := hX
  clear hX
  have HC : Hid (∀ W : World, Below w.heap.size w W → Calls Tryd.prog 9 #[.slice (some ⟨bk, off, none⟩) len cap] W fun e w' => e = .returned (.agg #[.int .i64 0, .int .i64 (-1)]) ∧ Below W.heap.size W w') := fun W hW => refCheck_fine h (hst.later hW hbk) h1 h2 (Nat.lt_of_lt_of_le hbk hW.size)
  have HST : Hid (∀ W : World, Below w.heap.size w W → StepsAt W bk off len C D S R O N) := fun W hW => hst.later hW hbk
  have HR : Hid (∀ k, k < len → faultAt len C D S R O N k = 0) := h
  have HN : Hid (∀ k, k < len → In64 (N k)) := hN
  have HOO : Hid (∀ k, k < len → In64 (O k)) := hOo
  have HOK : Hid (((start T K time).abs []).Ok) := start_ok hT hK ht
  have HL : Hid (1 ≤ len ∧ len ≤ 200 ∧ bk < w.heap.size) := ⟨h1, h2, hbk⟩
  clear h hst hN hOo hT hK ht h1 h2 hbk
  have HB : Hid (Below w.heap.size w ((((w.alloc (.cells #[.int .i64 (T 0), .int .i64 (T 1), .int .i64 (T 2), .int .i64 (T 3), .int .i64 (T 4), .int .i64 (T 5), .int .i64 (T 6), .int .i64 (T 7)] 58)).alloc (.cells #[.int .i64 (K 0), .int .i64 (K 1), .int .i64 (K 2), .int .i64 (K 3), .int .i64 (K 4), .int .i64 (K 5), .int .i64 (K 6), .int .i64 (K 7), .int .i64 (K 8), .int .i64 (K 9), .int .i64 (K 10), .int .i64 (K 11), .int .i64 (K 12), .int .i64 (K 13), .int .i64 (K 14), .int .i64 (K 15)] 61)).alloc (.cells zeroCs 64)).alloc (.cells #[.int .i64 0, .int .i64 0] 29))) := (((((Below.refl _ _).alloc (Nat.le_refl _) _).alloc (by simp) _).alloc (by simp; omega) _).alloc (by simp; omega) _)
  have HT : Hid (((((w.alloc (.cells #[.int .i64 (T 0), .int .i64 (T 1), .int .i64 (T 2), .int .i64 (T 3), .int .i64 (T 4), .int .i64 (T 5), .int .i64 (T 6), .int .i64 (T 7)] 58)).alloc (.cells #[.int .i64 (K 0), .int .i64 (K 1), .int .i64 (K 2), .int .i64 (K 3), .int .i64 (K 4), .int .i64 (K 5), .int .i64 (K 6), .int .i64 (K 7), .int .i64 (K 8), .int .i64 (K 9), .int .i64 (K 10), .int .i64 (K 11), .int .i64 (K 12), .int .i64 (K 13), .int .i64 (K 14), .int .i64 (K 15)] 61)).alloc (.cells zeroCs 64)).alloc (.cells #[.int .i64 0, .int .i64 0] 29)).heap[w.heap.size + 1 + 1]? = some (.cells zeroCs 64 (0, 0))) := boxC _ _ _ _ _
  have HU : Hid (((((w.alloc (.cells #[.int .i64 (T 0), .int .i64 (T 1), .int .i64 (T 2), .int .i64 (T 3), .int .i64 (T 4), .int .i64 (T 5), .int .i64 (T 6), .int .i64 (T 7)] 58)).alloc (.cells #[.int .i64 (K 0), .int .i64 (K 1), .int .i64 (K 2), .int .i64 (K 3), .int .i64 (K 4), .int .i64 (K 5), .int .i64 (K 6), .int .i64 (K 7), .int .i64 (K 8), .int .i64 (K 9), .int .i64 (K 10), .int .i64 (K 11), .int .i64 (K 12), .int .i64 (K 13), .int .i64 (K 14), .int .i64 (K 15)] 61)).alloc (.cells zeroCs 64)).alloc (.cells #[.int .i64 0, .int .i64 0] 29)).heap[w.heap.size + 1 + 1 + 1]? = some (.cells #[.int .i64 0, .int .i64 0] 29 (0, 0))) := boxD _ _ _ _ _
  have HX : Hid (((((w.alloc (.cells #[.int .i64 (T 0), .int .i64 (T 1), .int .i64 (T 2), .int .i64 (T 3), .int .i64 (T 4), .int .i64 (T 5), .int .i64 (T 6), .int .i64 (T 7)] 58)).alloc (.cells #[.int .i64 (K 0), .int .i64 (K 1), .int .i64 (K 2), .int .i64 (K 3), .int .i64 (K 4), .int .i64 (K 5), .int .i64 (K 6), .int .i64 (K 7), .int .i64 (K 8), .int .i64 (K 9), .int .i64 (K 10), .int .i64 (K 11), .int .i64 (K 12), .int .i64 (K 13), .int .i64 (K 14), .int .i64 (K 15)] 61)).alloc (.cells zeroCs 64)).alloc (.cells #[.int .i64 0, .int .i64 0] 29)).heap[w.heap.size]? = some (.cells #[.int .i64 (T 0), .int .i64 (T 1), .int .i64 (T 2), .int .i64 (T 3), .int .i64 (T 4), .int .i64 (T 5), .int .i64 (T 6), .int .i64 (T 7)] 58 (0, 0))) := boxA _ _ _ _ _
  have HY : Hid (((((w.alloc (.cells #[.int .i64 (T 0), .int .i64 (T 1), .int .i64 (T 2), .int .i64 (T 3), .int .i64 (T 4), .int .i64 (T 5), .int .i64 (T 6), .int .i64 (T 7)] 58)).alloc (.cells #[.int .i64 (K 0), .int .i64 (K 1), .int .i64 (K 2), .int .i64 (K 3), .int .i64 (K 4), .int .i64 (K 5), .int .i64 (K 6), .int .i64 (K 7), .int .i64 (K 8), .int .i64 (K 9), .int .i64 (K 10), .int .i64 (K 11), .int .i64 (K 12), .int .i64 (K 13), .int .i64 (K 14), .int .i64 (K 15)] 61)).alloc (.cells zeroCs 64)).alloc (.cells #[.int .i64 0, .int .i64 0] 29)).heap[w.heap.size + 1]? = some (.cells #[.int .i64 (K 0), .int .i64 (K 1), .int .i64 (K 2), .int .i64 (K 3), .int .i64 (K 4), .int .i64 (K 5), .int .i64 (K 6), .int .i64 (K 7), .int .i64 (K 8), .int .i64 (K 9), .int .i64 (K 10), .int .i64 (K 11), .int .i64 (K 12), .int .i64 (K 13), .int .i64 (K 14), .int .i64 (K 15)] 61 (0, 0))) := boxB _ _ _ _ _
  go_enter Tryd.func27, Tryd.ntmps27
  go_wp2_with (first
    | (go_at_call 9; go_must (refine (HC.out _ HB.out).mono ?_; rintro e w1 ⟨rfl, hb1⟩; have HZ1 : Hid (w1.heap[w.heap.size + 1 + 1]? = some (.cells zeroCs 64 (0, 0))) := (hb1.block (w.heap.size + 1 + 1) (by first | (simp; done) | (simp; omega))).trans HT.out; have HF1 : Hid (w1.heap[w.heap.size + 1 + 1 + 1]? = some (.cells #[.int .i64 0, .int .i64 0] 29 (0, 0))) := (hb1.block (w.heap.size + 1 + 1 + 1) (by first | (simp; done) | (simp; omega))).trans HU.out; have HX1 : Hid (w1.heap[w.heap.size]? = some (.cells #[.int .i64 (T 0), .int .i64 (T 1), .int .i64 (T 2), .int .i64 (T 3), .int .i64 (T 4), .int .i64 (T 5), .int .i64 (T 6), .int .i64 (T 7)] 58 (0, 0))) := (hb1.block w.heap.size (by first | (simp; done) | (simp; omega))).trans HX.out; have HY1 : Hid (w1.heap[w.heap.size + 1]? = some (.cells #[.int .i64 (K 0), .int .i64 (K 1), .int .i64 (K 2), .int .i64 (K 3), .int .i64 (K 4), .int .i64 (K 5), .int .i64 (K 6), .int .i64 (K 7), .int .i64 (K 8), .int .i64 (K 9), .int .i64 (K 10), .int .i64 (K 11), .int .i64 (K 12), .int .i64 (K 13), .int .i64 (K 14), .int .i64 (K 15)] 61 (0, 0))) := (hb1.block (w.heap.size + 1) (by first | (simp; done) | (simp; omega))).trans HY.out; have HBW : Hid (Below w.heap.size w w1) := HB.out.trans (hb1.mono HB.out.size); have HS1 : Hid (w.heap.size + 1 + 1 + 1 < w1.heap.size) := (by have := hb1.size; simp at this; show w.heap.size + 1 + 1 + 1 < w1.heap.size; omega); have HX2 : Hid (∀ o, (w1.alloc o).heap[w.heap.size]? = some (.cells #[.int .i64 (T 0), .int .i64 (T 1), .int .i64 (T 2), .int .i64 (T 3), .int .i64 (T 4), .int .i64 (T 5), .int .i64 (T 6), .int .i64 (T 7)] 58 (0, 0))) := (fun o => (Below.heap_alloc w1 o _ (by have := HS1.out; omega)).trans HX1.out); have HY2 : Hid (∀ o u, ((w1.alloc o).alloc u).heap[w.heap.size + 1]? = some (.cells #[.int .i64 (K 0), .int .i64 (K 1), .int .i64 (K 2), .int .i64 (K 3), .int .i64 (K 4), .int .i64 (K 5), .int .i64 (K 6), .int .i64 (K 7), .int .i64 (K 8), .int .i64 (K 9), .int .i64 (K 10), .int .i64 (K 11), .int .i64 (K 12), .int .i64 (K 13), .int .i64 (K 14), .int .i64 (K 15)] 61 (0, 0))) := (fun o u => (Below.heap_alloc (w1.alloc o) u _ (by have := HS1.out; simp; omega)).trans ((Below.heap_alloc w1 o _ (by have := HS1.out; omega)).trans HY1.out)); clear hb1))
    | (refine wpList_load_row rfl 58 (.tmp 5) rfl w.heap.size rfl 58 #[.int .i64 (T 0), .int .i64 (T 1), .int .i64 (T 2), .int .i64 (T 3), .int .i64 (T 4), .int .i64 (T 5), .int .i64 (T 6), .int .i64 (T 7)] (0, 0) _ (HX2.out _) Tryd.underlying58 rfl Tryd.infoT ?_)
    | (refine wpList_load_row rfl 61 (.tmp 6) rfl (w.heap.size + 1) rfl 61 #[.int .i64 (K 0), .int .i64 (K 1), .int .i64 (K 2), .int .i64 (K 3), .int .i64 (K 4), .int .i64 (K 5), .int .i64 (K 6), .int .i64 (K 7), .int .i64 (K 8), .int .i64 (K 9), .int .i64 (K 10), .int .i64 (K 11), .int .i64 (K 12), .int .i64 (K 13), .int .i64 (K 14), .int .i64 (K 15)] (0, 0) _ (HY2.out _ _) Tryd.underlying61 rfl Tryd.infoK ?_)
    | fail)
  have hD0 : DoxAt ((w1.alloc (.cells #[.int .i64 0, .int .i64 (-1)] 29)).alloc (.cells (dcells0 Tryd.zeroCells111 T K time) 111)) (w1.heap.size + 1) (dox0 T K time) := by
    have := dox0_at (w1.alloc (.cells #[.int .i64 0, .int .i64 (-1)] 29)) T K time
    simp only [World.size_alloc] at this
    exact this
  have HBA : Hid (Below w.heap.size w ((w1.alloc (.cells #[.int .i64 0, .int .i64 (-1)] 29)).alloc (.cells (dcells0 Tryd.zeroCells111 T K time) 111))) := (HBW.out.alloc HBW.out.size _).alloc (by have := HBW.out.size; simp; omega) _
  have HZA : Hid (((w1.alloc (.cells #[.int .i64 0, .int .i64 (-1)] 29)).alloc (.cells (dcells0 Tryd.zeroCells111 T K time) 111)).heap[w.heap.size + 1 + 1]? = some (.cells zeroCs 64 (0, 0))) := (Below.heap_alloc (w1.alloc (.cells #[.int .i64 0, .int .i64 (-1)] 29)) _ _ (by have := HS1.out; simp; omega)).trans ((Below.heap_alloc w1 _ _ (by have := HS1.out; omega)).trans HZ1.out)
  have HFA : Hid (((w1.alloc (.cells #[.int .i64 0, .int .i64 (-1)] 29)).alloc (.cells (dcells0 Tryd.zeroCells111 T K time) 111)).heap[w.heap.size + 1 + 1 + 1]? = some (.cells #[.int .i64 0, .int .i64 0] 29 (0, 0))) := (Below.heap_alloc (w1.alloc (.cells #[.int .i64 0, .int .i64 (-1)] 29)) _ _ (by have := HS1.out; simp; omega)).trans ((Below.heap_alloc w1 _ _ HS1.out).trans HF1.out)
  have HBe : Hid (w.heap.size + 1 + 1 + 1 < w1.heap.size + 1) := by show w.heap.size + 1 + 1 + 1 < w1.heap.size + 1; have := HS1.out; omega
  unfold dcells0 at hD0 HBA HZA HFA
  generalize (w1.alloc (.cells #[.int .i64 0, .int .i64 (-1)] 29)).alloc (.cells ((((((((((((((((((((((((((Tryd.zeroCells111).setIfInBounds 81 (.int .i64 (T 0))).setIfInBounds 82 (.int .i64 (T 1))).setIfInBounds 83 (.int .i64 (T 2))).setIfInBounds 84 (.int .i64 (T 3))).setIfInBounds 85 (.int .i64 (T 4))).setIfInBounds 86 (.int .i64 (T 5))).setIfInBounds 87 (.int .i64 (T 6))).setIfInBounds 88 (.int .i64 (T 7))).setIfInBounds 108 (.int .i64 time)).setIfInBounds 90 (.int .i64 (K 0))).setIfInBounds 91 (.int .i64 (K 1))).setIfInBounds 92 (.int .i64 (K 2))).setIfInBounds 93 (.int .i64 (K 3))).setIfInBounds 94 (.int .i64 (K 4))).setIfInBounds 95 (.int .i64 (K 5))).setIfInBounds 96 (.int .i64 (K 6))).setIfInBounds 97 (.int .i64 (K 7))).setIfInBounds 98 (.int .i64 (K 8))).setIfInBounds 99 (.int .i64 (K 9))).setIfInBounds 100 (.int .i64 (K 10))).setIfInBounds 101 (.int .i64 (K 11))).setIfInBounds 102 (.int .i64 (K 12))).setIfInBounds 103 (.int .i64 (K 13))).setIfInBounds 104 (.int .i64 (K 14))).setIfInBounds 105 (.int .i64 (K 15))) 111) = w5 at hD0 HBA HZA HFA ⊢
  generalize w1.heap.size + 1 = B at hD0 HBe ⊢
  clear HC HB HT HU HX HY HX1 HY1 HX2 HY2 HZ1 HF1 HBW HS1
  have hB5 := hD0.lt
  obtain ⟨a0, a1, a2⟩ := hD0.reg3 (d := 1) (by decide)
  simp only [Nat.reduceMul, Nat.reduceAdd] at a0 a1 a2
  obtain ⟨b0, b1, b2⟩ := hD0.reg3 (d := 10) (by decide)
  simp only [Nat.reduceMul, Nat.reduceAdd] at b0 b1 b2
  have f3 := hD0.frozen 3
  have f4 := hD0.frozen 4
  have f5 := hD0.frozen 5
  have f30 := hD0.frozen 30
  have f31 := hD0.frozen 31
  have f32 := hD0.frozen 32
  go_cut [32] (fun _ wx => DoxAt wx B (dstart T K time) ∧ Hid (Kept B w5 wx))
  case first =>
    go_region
    all_goals (go_wp2_with fail; go_meet)
    all_goals refine ⟨?_, (by show Kept _ _ _; repeat' first | with_reducible exact kept_refl _ _ | with_reducible refine kept_drew ?_ | with_reducible refine kept_set ?_ _ _)⟩
    all_goals first | (unfold dstart; exact (by repeat' first | with_reducible exact hD0 | with_reducible refine DoxAt.drew ?_ | with_reducible refine DoxAt.put10f ?_ | with_reducible refine DoxAt.put1t ?_)) | (rw [← dstart_other]; exact (by repeat' first | with_reducible exact hD0 | with_reducible refine DoxAt.drew ?_ | with_reducible refine DoxAt.put10f ?_ | with_reducible refine DoxAt.put1t ?_))
  case rest =>
    obtain ⟨hD, HKc⟩ := hcut
    have HBc : Hid (Below w.heap.size w wc) := HBA.out.trans ((kept_under HKc.out hB5).mono (by have := HBe.out; omega))
    have HZc : Hid (wc.heap[w.heap.size + 1 + 1]? = some (.cells zeroCs 64 (0, 0))) := ((kept_under HKc.out hB5).block _ (by have := HBe.out; omega)).trans HZA.out
    have HFc : Hid (wc.heap[w.heap.size + 1 + 1 + 1]? = some (.cells #[.int .i64 0, .int .i64 0] 29 (0, 0))) := ((kept_under HKc.out hB5).block _ HBe.out).trans HFA.out
    clear a0 a1 a2 b0 b1 b2 f3 f4 f5 f30 f31 f32 hD0 HBA HZA HFA HKc hB5
    go_wp2_with fail
    go_loopw [12] (fun ix wr => ∃ (pc k : Nat) (m1 : Dox) (L1 : List Int), Hid (ix = .int .i64 pc ∧ pc < len ∧ k ≤ pc ∧ Below B wc wr ∧ DoxAt wr B m1 ∧ OutAt wr B m1.out L1 ∧ (m1.abs L1).Ok ∧ m1.steps = (k : Int) ∧ runF C D S R O N len pc k (m1.abs L1) = X)) (fun ix _ => len - (intOf ix).toNat)
    case atStart => exact ⟨0, 0, dstart T K time, [], rfl, by have := HL.out; omega, Nat.le_refl _, Below.refl _ _, hD, World.ownsRow_nil wc (B + 1) _ 1, HOK.out, rfl, HX0.out⟩
    case round =>
      obtain ⟨pc, k, m1, L1, H⟩ := hrel
      have hix := H.out.1
      have hpc := H.out.2.1
      have hkp := H.out.2.2.1
      have hb := H.out.2.2.2.1
      have hM1 := H.out.2.2.2.2.1
      have hok1 := H.out.2.2.2.2.2.2.1
      have hB := hM1.lt
      have q1 := hM1.steps
      rw [H.out.2.2.2.2.2.2.2.1] at q1
      have f1 := hM1.frozen 107
      have HH : Hid (runF C D S R O N len pc k (m1.abs L1) = X) := H.out.2.2.2.2.2.2.2.2
      have HO1 : Hid (OutAt wr B m1.out L1) := H.out.2.2.2.2.2.1
      subst hix
      have HBr : Hid (Below w.heap.size w wr) := HBc.out.trans (hb.mono (by have := HBe.out; omega))
      obtain ⟨g0, g1, g2, g3, g4, g5⟩ := HST.out wr HBr.out pc hpc
      have hr := right_of (HR.out pc hpc)
      have hn := HN.out pc hpc
      have ho := HOO.out pc hpc
      have hreg := right_reg (HR.out pc hpc)
      obtain ⟨d, hd⟩ := Int.eq_ofNat_of_zero_le hr.d1
      obtain ⟨s, hs⟩ := Int.eq_ofNat_of_zero_le hr.s1
      have hd11 : d < 11 := by have := hr.d2; omega
      have hs11 : s < 11 := by have := hr.s2; omega
      rcases hD2 : doF (C pc) (D pc) (S pc) (R pc) (O pc) (N pc) (m1.abs L1) with ⟨of, er, a2⟩
      have hofs := doF_off hr hpc
      have HX1 : Hid (C pc = 28 → (wantF (m1.reg 0) = 0 → X = .fine (m1.reg 0).n (k + 1) (m1.abs L1)) ∧ (wantF (m1.reg 0) ≠ 0 → X = .bad (wantF (m1.reg 0)) pc)) := fun h => ⟨fun hw => HH.out.symm.trans (runF_exit hpc h hw), fun hw => HH.out.symm.trans (runF_exit_bad hpc h hw)⟩
      have HX2 : Hid (C pc ≠ 28 → (er ≠ 0 → X = .bad er pc) ∧ (er = 0 → runF C D S R O N len (pc + 1 + of.toNat) (k + 1) a2 = X)) := fun h => ⟨fun hw => by
        have := runF_bad (k := k) (a := m1.abs L1) (R := R) (D := D) (S := S) (O := O) (N := N) hpc h (by rw [hD2]; exact hw)
        rw [hD2] at this
        exact HH.out.symm.trans this, fun hw => by
        have := runF_go (k := k) (a := m1.abs L1) (R := R) (D := D) (S := S) (O := O) (N := N) hpc h (by rw [hD2]; exact hw)
        rw [hD2] at this
        exact this.symm.trans HH.out⟩
      have HOF : Hid (C pc ≠ 28 → 0 ≤ of ∧ (pc : Int) + 1 + of < len) := fun h => by have := hofs h (m1.abs L1); rw [hD2] at this; exact this
      have HOKA : Hid (C pc ≠ 28 → a2.Ok) := fun h => by have := doF_ok hok1 hr.c1 hr.c2 h hr.d1 hr.d2 hr.s1 hr.s2 hn (r := R pc) (o := O pc); rw [hD2] at this; exact this
      have HLEAD : Hid ((C pc = 14 ∨ (15 ≤ C pc ∧ C pc ≤ 24)) → 0 ≤ O pc ∧ O pc ≤ 200) := fun h => by have := hr.lead h; have := HL.out; omega
      have HREG : Hid (C pc = 14 ∨ C pc = 25 ∨ C pc = 27 → R pc = false) := fun h => hreg (by omega)
      have HREGX : Hid (C pc = 28 → R pc = false) := fun h => hreg (by omega)
      have HD00 : Hid (C pc = 28 → d = 0) := fun h => by have := hr.exit h; omega
      have c1 := hr.c1
      have c2 := hr.c2
      have H27 : Hid (C pc = 27 → N pc = 1 ∨ N pc = 2 ∨ N pc = 3) := hr.call
      rw [hd, hs] at hD2
      rw [hd] at g1
      rw [hs] at g2
      clear hofs hd hs H hr HH hreg
      generalize C pc = c at *
      generalize R pc = r at *
      generalize O pc = o at *
      generalize N pc = n at *
      have HD : Hid (doF c (d : Int) (s : Int) r o n ((m1.setSteps ((k : Int) + 1)).abs L1) = (of, er, a2)) := hD2
      have HNN : Hid (In64 n ∧ In64 o) := ⟨hn, ho⟩
      clear hD2 hn ho HX0 hD HOK
      have hl := HL.out
      have hbe := HBe.out
      have hbkB : bk < B := by omega
      have hbkn : bk ≠ B := by omega
      clear hbe
      have hk0 : (0 : Int) ≤ (k : Int) := by omega
      have hk1 : (k : Int) ≤ 200 := by omega
      have hp0 : (0 : Int) ≤ (pc : Int) := by omega
      have hp1 : (pc : Int) < len := by omega
      have hp2 : pc ≤ 200 := by omega
      clear hl
      have HMW : Hid (DoxAt (wr.setCell ⟨B, 107, none⟩ (.int .i64 ((k : Int) + 1))) B (m1.setSteps ((k : Int) + 1))) := hM1.putSteps _
      have HOW : Hid (OutAt (wr.setCell ⟨B, 107, none⟩ (.int .i64 ((k : Int) + 1))) B m1.out L1) := HO1.out.kept (kept_set (kept_refl B wr) _ _)
      have HBW2 : Hid (Below B wc (wr.setCell ⟨B, 107, none⟩ (.int .i64 ((k : Int) + 1)))) := hb.trans (kept_under (kept_set (kept_refl B wr) _ _) hB)
      by_cases hc : c = 28
      · have HX3 := HX1.out hc
        have hd0 : d = 0 := HD00.out hc
        have hr0 : r = false := HREGX.out hc
        subst hr0
        have e28 : (c == 28) = true := by simpa using hc
        rcases h0 : m1.reg 0 with ⟨xk, xn, xc⟩
        rw [h0] at HX3
        have HXd : Hid ((m1.setSteps ((k : Int) + 1)).reg d = ⟨xk, xn, xc⟩) := by show m1.reg d = _; rw [hd0]; exact h0
        have HX4 : Hid ((wantF ⟨xk, xn, xc⟩ = 0 → X = .fine xn (k + 1) (m1.abs L1)) ∧ (wantF ⟨xk, xn, xc⟩ ≠ 0 → X = .bad (wantF ⟨xk, xn, xc⟩) pc)) := HX3
        clear HX3 HX1 HX2 HOF HOKA HLEAD HREG HREGX HD00 HD H27 c1 c2 hc hd0 h0
        by_cases hx1 : xk = 1
        · have x0 : (kd xk == 0) = false := by rw [kd_0]; simp [hx1]
          have x1 : (kd xk == 110) = true := by rw [kd_n]; simpa using hx1
          have HXF : Hid (X = .fine xn (k + 1) (m1.abs L1)) := HX4.out.1 (by unfold wantF; rw [if_neg (by show ¬ xk = 0; omega), if_pos hx1])
          have HE := dexit_fine B d s pc c o n (m1.setSteps ((k : Int) + 1)) hd11 hs11 hp2 xk xn xc HXd e28 x0 x1 _ HMW.out
          have HEh : Hid (Calls Tryd.prog 61 #[.pointer (some ⟨B, 0, none⟩), .agg #[.int .i64 c, .int .i64 d, .int .i64 s, .bool false, .int .i64 o, .int .i64 n], .int .i64 pc] (wr.setCell ⟨B, 107, none⟩ (.int .i64 ((k : Int) + 1))) fun e w' => e = .returned (.tuple #[.int .i64 ((pc : Int) + 1), .bool true, .int .i64 0]) ∧ Kept B (wr.setCell ⟨B, 107, none⟩ (.int .i64 ((k : Int) + 1))) w' ∧ DoxAt w' B ((m1.setSteps ((k : Int) + 1)).setNum xn)) := HE
          clear HE hx1 x0 x1
          go_wp2_with (first
            | (go_at_call 61; go_must (refine HEh.out.mono ?_; rintro e w2 ⟨rfl, hk2, hM2⟩; have HB2 : Hid (Below B wc w2) := HBW2.out.trans (kept_under hk2 (by simp; omega)); have HZ2 : Hid (w2.heap[w.heap.size + 1 + 1]? = some (.cells zeroCs 64 (0, 0))) := (HB2.out.block _ (by have := HBe.out; omega)).trans HZc.out; have HF2 : Hid (w2.heap[w.heap.size + 1 + 1 + 1]? = some (.cells #[.int .i64 0, .int .i64 0] 29 (0, 0))) := (HB2.out.block _ HBe.out).trans HFc.out; have HO2 : Hid (OutAt w2 B m1.out L1) := HOW.out.kept hk2; clear hk2))
            | fail)
          obtain ⟨u0, u1, hsl⟩ := HO2.out.shape
          have HSL : Hid (m1.out = .slice u0 L1.length u1) := hsl
          clear hsl
          have hbe := HBe.out
          have hb2lt := hM2.lt
          have HBF : Hid (Below w.heap.size w w2) := HBc.out.trans (HB2.out.mono (by omega))
          have hone : (ranCs xn (m1.abs L1) m1.out ((k : Int) + 1)).all (·.oneCell') = true := by rw [HSL.out]; kernel_rfl
          have hS : S13 B (w.heap.size + 1 + 1) (w.heap.size + 1 + 1 + 1) ((m1.setSteps ((k : Int) + 1)).setNum xn) w2.drew := ⟨hM2, ⟨_, rfl, HZ2.out⟩, ⟨_, rfl, HF2.out⟩⟩
          refine wp_region_held_drew (S := S13 B (w.heap.size + 1 + 1) (w.heap.size + 1 + 1 + 1) ((m1.setSteps ((k : Int) + 1)).setNum xn)) (by kernel_rfl) hS fun _ => ?_
          change wpAnyH _ _ _ _ _ 7 (Array.replicate 7 false) _ _
          refine takeH (i := 0) (some 69) (.pointer (some ⟨B, 0, none⟩)) rfl rfl (by kernel_rfl) (by kernel_rfl) (by kernel_rfl) (fun _ _ _ h => h) (by rfl) (fun W hW => ?_) hS ?_
          · go_simp
          simp only [Act.put, List.setIfInBounds_toArray, List.set_cons_zero, List.set_cons_succ]
          refine takeH (i := 1) (some 70) (.pointer (some ⟨B, 0, none⟩)) rfl rfl (by kernel_rfl) (by kernel_rfl) (by kernel_rfl) (fun _ _ _ h => h) (by rfl) (fun W hW => ?_) hS ?_
          · go_simp
          simp only [Act.put, List.setIfInBounds_toArray, List.set_cons_zero, List.set_cons_succ]
          refine takeH (i := 2) (some 71) (.pointer (some ⟨B, 89, none⟩)) rfl rfl (by kernel_rfl) (by kernel_rfl) (by kernel_rfl) (fun _ _ _ h => h) (by rfl) (fun W hW => ?_) hS ?_
          · go_simp
          simp only [Act.put, List.setIfInBounds_toArray, List.set_cons_zero, List.set_cons_succ]
          refine takeH (i := 3) (some 72) (.agg (ranCs xn (m1.abs L1) m1.out ((k : Int) + 1))) rfl rfl (by kernel_rfl) (by kernel_rfl) (by kernel_rfl) (fun _ _ _ h => h) (by rfl) (fun W hW => ?_) hS ?_
          · exact load_dan (x := .tmp 71) W B _ hW.1 L1 rfl rfl
          simp only [Act.put, List.setIfInBounds_toArray, List.set_cons_zero, List.set_cons_succ]
          refine wpAnyH_ready (rs := [4]) (by kernel_rfl) (by simp) ?_
          refine stepC (some 73) 34 #[.int .i64 0] rfl rfl (by rfl) ?_ ?_ AllReadyH.nil
          · go_simp
          refine (bare_any 0 _).mono ?_
          rintro e w7 ⟨rfl, hb7⟩
          have hb7 := drew_below hb7
          have HZ7 : Hid (w7.heap[w.heap.size + 1 + 1]? = some (.cells zeroCs 64 (0, 0))) := (hb7.block _ (by omega)).trans HZ2.out
          have HF7 : Hid (w7.heap[w.heap.size + 1 + 1 + 1]? = some (.cells #[.int .i64 0, .int .i64 0] 29 (0, 0))) := (hb7.block _ (by omega)).trans HF2.out
          have hM7 := hM2.later hb7
          have HF8 : Hid ((w7.setRow (w.heap.size + 1 + 1) (ranCs xn (m1.abs L1) m1.out ((k : Int) + 1))).heap[w.heap.size + 1 + 1 + 1]? = some (.cells #[.int .i64 0, .int .i64 0] 29 (0, 0))) := (setRow_other w7 _ _ _ (by omega)).trans HF7.out
          have hS7 : S13 B (w.heap.size + 1 + 1) (w.heap.size + 1 + 1 + 1) ((m1.setSteps ((k : Int) + 1)).setNum xn) w7 := ⟨hM7, ⟨_, rfl, HZ7.out⟩, ⟨_, rfl, HF7.out⟩⟩
          have hS8 : S13 B (w.heap.size + 1 + 1) (w.heap.size + 1 + 1 + 1) ((m1.setSteps ((k : Int) + 1)).setNum xn) (w7.setRow (w.heap.size + 1 + 1) (ranCs xn (m1.abs L1) m1.out ((k : Int) + 1))) := ⟨(setRow_other w7 _ B _ (by omega)).trans hM7, ⟨_, rfl, setRow_heap w7 _ zeroCs _ _ _ HZ7.out⟩, ⟨_, rfl, HF8.out⟩⟩
          have hS9 : S13 B (w.heap.size + 1 + 1) (w.heap.size + 1 + 1 + 1) ((m1.setSteps ((k : Int) + 1)).setNum xn) ((w7.setRow (w.heap.size + 1 + 1) (ranCs xn (m1.abs L1) m1.out ((k : Int) + 1))).setRow (w.heap.size + 1 + 1 + 1) #[.int .i64 0, .int .i64 (-1)]) := ⟨(setRow_other _ _ B _ (by omega)).trans hS8.1, ⟨_, rfl, (setRow_other _ _ _ _ (by omega)).trans (setRow_heap w7 _ zeroCs _ _ _ HZ7.out)⟩, ⟨_, rfl, setRow_heap _ _ #[.int .i64 0, .int .i64 0] _ _ _ HF8.out⟩⟩
          refine ⟨_, rfl, hS7, ?_⟩
          simp only [Act.put, List.setIfInBounds_toArray, List.set_cons_zero, List.set_cons_succ]
          refine wpAnyH_ready (rs := [5]) (by kernel_rfl) (by simp) ?_
          refine stepS (w7.setRow (w.heap.size + 1 + 1) (ranCs xn (m1.abs L1) m1.out ((k : Int) + 1))) rfl rfl (by rfl) ?_ hS8 ?_ AllReadyH.nil
          · exact store_any _ _ _ _ _ zeroCs _ rfl rfl rfl Tryd.infoDan HZ7.out rfl hone
          simp only [Act.put]
          refine wpAnyH_ready (rs := [6]) (by kernel_rfl) (by simp) ?_
          refine stepS ((w7.setRow (w.heap.size + 1 + 1) (ranCs xn (m1.abs L1) m1.out ((k : Int) + 1))).setRow (w.heap.size + 1 + 1 + 1) #[.int .i64 0, .int .i64 (-1)]) rfl rfl (by rfl) ?_ hS9 ?_ AllReadyH.nil
          · exact store_any _ _ _ _ _ #[.int .i64 0, .int .i64 0] _ rfl rfl rfl Tryd.infoFlt HF8.out rfl (flt_one _ _)
          simp only [Act.put]
          refine wpAnyH_done (by kernel_rfl) ?_ _
          go_wp2
          refine bodyPost_ret (v := .tuple #[.agg (ranCs xn (m1.abs L1) m1.out ((k : Int) + 1)), .agg #[.int .i64 0, .int .i64 (-1)]]) (dan_results _ _ (w.heap.size + 1 + 1) (w.heap.size + 1 + 1 + 1) _ _ rfl rfl ((setRow_other _ _ _ _ (by omega)).trans (setRow_heap w7 _ zeroCs _ _ _ HZ7.out)) rfl (setRow_heap _ _ #[.int .i64 0, .int .i64 0] _ _ _ HF8.out) rfl) rfl ?_
          rw [HXF.out]
          refine ⟨below_row (below_row (HBF.out.trans (hb7.mono HBF.out.size)) (by omega) _) (by omega) _, m1.out, ?_, ?_⟩
          · rw [show (((k + 1 : Nat)) : Int) = (k : Int) + 1 by omega]
          · have hown : w2.ownsRow (B + 1) 2 1 m1.out L1.length (L1.map (Value.int .i64)) := HO2.out
            exact own_rows hown hb7 (by omega) (by omega) (by omega) _ _
        · obtain ⟨er, HER, HXB, HE⟩ : ∃ er : Int, Hid (er ≠ 0) ∧ Hid (X = .bad er pc) ∧ Hid (Calls Tryd.prog 61 #[.pointer (some ⟨B, 0, none⟩), .agg #[.int .i64 c, .int .i64 d, .int .i64 s, .bool false, .int .i64 o, .int .i64 n], .int .i64 pc] (wr.setCell ⟨B, 107, none⟩ (.int .i64 ((k : Int) + 1))) fun e w' => e = .returned (.tuple #[.int .i64 ((pc : Int) + 1), .bool false, .int .i64 er]) ∧ Below (wr.setCell ⟨B, 107, none⟩ (.int .i64 ((k : Int) + 1))).heap.size (wr.setCell ⟨B, 107, none⟩ (.int .i64 ((k : Int) + 1))) w') := by
            by_cases hx0 : xk = 0
            · have hw : wantF ⟨xk, xn, xc⟩ = 8 := if_pos hx0
              exact ⟨8, by show (8 : Int) ≠ 0; decide, by show X = _; rw [HX4.out.2 (by rw [hw]; decide), hw], dexit_no B d s pc c o n (m1.setSteps ((k : Int) + 1)) hd11 hs11 hp2 xk xn xc HXd e28 (by rw [kd_0]; simpa using hx0) _ HMW.out⟩
            · have hw : wantF ⟨xk, xn, xc⟩ = 1 := by unfold wantF; rw [if_neg hx0, if_neg hx1]
              exact ⟨1, by show (1 : Int) ≠ 0; decide, by show X = _; rw [HX4.out.2 (by rw [hw]; decide), hw], dexit_arg B d s pc c o n (m1.setSteps ((k : Int) + 1)) hd11 hs11 hp2 xk xn xc HXd e28 (by rw [kd_0]; simpa using hx0) (by rw [kd_n]; simpa using hx1) _ HMW.out⟩
          have he1 : (er != 0) = true := by simpa using HER.out
          clear hx1
          go_wp2_with (first
            | (go_at_call 61; go_must (refine HE.out.mono ?_; rintro e w2 ⟨rfl, hb2⟩; have HB2 : Hid (Below B wc w2) := HBW2.out.trans (hb2.mono (by simp; omega)); have HZ2 : Hid (w2.heap[w.heap.size + 1 + 1]? = some (.cells zeroCs 64 (0, 0))) := (HB2.out.block _ (by have := HBe.out; omega)).trans HZc.out; have HF3 : Hid ((w2.setRow (w.heap.size + 1 + 1) zeroCs).heap[w.heap.size + 1 + 1 + 1]? = some (.cells #[.int .i64 0, .int .i64 0] 29 (0, 0))) := (setRow_other w2 _ _ _ (by omega)).trans ((HB2.out.block _ HBe.out).trans HFc.out); clear hb2))
            | (refine wpList_store_row rfl 64 (.tmp 8) (.tmp 64) rfl (w.heap.size + 1 + 1) zeroCs rfl rfl 64 zeroCs HZ2.out Tryd.infoDan rfl zeroCs_one ?_)
            | (refine wpList_store_row rfl 29 (.tmp 9) (.tmp 67) rfl (w.heap.size + 1 + 1 + 1) #[.int .i64 er, .int .i64 (pc : Int)] rfl rfl 29 #[.int .i64 0, .int .i64 0] HF3.out Tryd.infoFlt rfl (flt_one _ _) ?_)
            | fail)
          exact bodyPost_ret (v := .tuple #[zeroRan, .agg #[.int .i64 er, .int .i64 (pc : Int)]]) (dan_results _ _ (w.heap.size + 1 + 1) (w.heap.size + 1 + 1 + 1) zeroCs _ rfl rfl ((setRow_other _ _ _ _ (by omega)).trans (setRow_heap w2 _ zeroCs _ _ _ HZ2.out)) rfl (setRow_heap _ _ #[.int .i64 0, .int .i64 0] _ _ _ HF3.out) rfl) rfl (by rw [HXB.out]; exact ⟨below_row (below_row (HBc.out.trans (HB2.out.mono (by have := HBe.out; omega))) (by omega) _) (by omega) _, rfl, HER.out⟩)
      · have HX3 : Hid ((er ≠ 0 → X = .bad er pc) ∧ (er = 0 → runF C D S R O N len (pc + 1 + of.toNat) (k + 1) a2 = X)) := HX2.out hc
        have HOK3 : Hid a2.Ok := HOKA.out hc
        have hof := HOF.out hc
        obtain ⟨j, rfl⟩ := Int.eq_ofNat_of_zero_le hof.1
        have hj0 : (0 : Int) ≤ (j : Int) := by omega
        have hj1 : (pc : Int) + 1 + (j : Int) < len := hof.2
        have HE : Hid (Calls Tryd.prog 61 #[.pointer (some ⟨B, 0, none⟩), .agg #[.int .i64 c, .int .i64 d, .int .i64 s, .bool r, .int .i64 o, .int .i64 n], .int .i64 pc] (wr.setCell ⟨B, 107, none⟩ (.int .i64 ((k : Int) + 1))) fun e w' => e = .returned (.tuple #[.int .i64 ((pc : Int) + 1 + (j : Int)), .bool false, .int .i64 er]) ∧ DRes B (wr.setCell ⟨B, 107, none⟩ (.int .i64 ((k : Int) + 1))) w' (m1.setSteps ((k : Int) + 1)) er a2) := by
          have := dstep_all (B := B) (d := d) (s := s) (pc := pc) (r := r) (c := c) (o := o) (n := n) (m := m1.setSteps ((k : Int) + 1)) (L := L1) (w := wr.setCell ⟨B, 107, none⟩ (.int .i64 ((k : Int) + 1))) hd11 hs11 hp2 c1 c2 hc HNN.out.1 HNN.out.2 H27.out HLEAD.out HREG.out hok1 HMW.out HOW.out
          rw [HD.out] at this
          exact this
        clear hc hof HX1 HX2 HOF HOKA HLEAD HREG HREGX HD00 HD H27 c1 c2
        by_cases he : er = 0
        · subst he
          go_wp2_with (first
            | (go_at_call 61; go_must (refine HE.out.mono ?_; rintro e w2 ⟨rfl, hr2⟩; have HR2 : Hid (DRes B _ w2 (m1.setSteps ((k : Int) + 1)) 0 a2) := hr2; clear hr2))
            | fail)
          go_roundw
          case rel =>
            obtain ⟨hb2, m2, L2, hM2, hO2, e2, ea⟩ := HR2.out
            have ha2 : m2.abs L2 = a2 := ea rfl
            have hrun := HX3.out.2 (by trivial)
            rw [Int.toNat_natCast, ← ha2] at hrun
            refine ⟨pc + 1 + j, k + 1, m2, L2, ?_, by omega, by omega, HBW2.out.trans hb2, hM2, hO2, ?_, ?_, hrun⟩
            · show Value.int .i64 ((pc : Int) + 1 + (j : Int)) = .int .i64 ((pc + 1 + j : Nat) : Int)
              congr 1
            · have := HOK3.out
              rw [← ha2] at this
              exact this
            · rw [e2]
              show (k : Int) + 1 = ((k + 1 : Nat) : Int)
              omega
          case measure => simp [intOf]; omega
        · have he1 : (er != 0) = true := by simpa using he
          have HER : Hid (er ≠ 0) := he
          have HXB : Hid (X = .bad er pc) := HX3.out.1 he
          clear he
          go_wp2_with (first
            | (go_at_call 61; go_must (refine HE.out.mono ?_; rintro e w2 ⟨rfl, hr2⟩; have HB2 : Hid (Below B wc w2) := HBW2.out.trans hr2.1; have HZ2 : Hid (w2.heap[w.heap.size + 1 + 1]? = some (.cells zeroCs 64 (0, 0))) := (HB2.out.block _ (by have := HBe.out; omega)).trans HZc.out; have HF3 : Hid ((w2.setRow (w.heap.size + 1 + 1) zeroCs).heap[w.heap.size + 1 + 1 + 1]? = some (.cells #[.int .i64 0, .int .i64 0] 29 (0, 0))) := (setRow_other w2 _ _ _ (by omega)).trans ((HB2.out.block _ HBe.out).trans HFc.out); clear hr2))
            | (refine wpList_store_row rfl 64 (.tmp 8) (.tmp 64) rfl (w.heap.size + 1 + 1) zeroCs rfl rfl 64 zeroCs HZ2.out Tryd.infoDan rfl zeroCs_one ?_)
            | (refine wpList_store_row rfl 29 (.tmp 9) (.tmp 67) rfl (w.heap.size + 1 + 1 + 1) #[.int .i64 er, .int .i64 (pc : Int)] rfl rfl 29 #[.int .i64 0, .int .i64 0] HF3.out Tryd.infoFlt rfl (flt_one _ _) ?_)
            | fail)
          exact bodyPost_ret (v := .tuple #[zeroRan, .agg #[.int .i64 er, .int .i64 (pc : Int)]]) (dan_results _ _ (w.heap.size + 1 + 1) (w.heap.size + 1 + 1 + 1) zeroCs _ rfl rfl ((setRow_other _ _ _ _ (by omega)).trans (setRow_heap w2 _ zeroCs _ _ _ HZ2.out)) rfl (setRow_heap _ _ #[.int .i64 0, .int .i64 0] _ _ _ HF3.out) rfl) rfl (by rw [HXB.out]; exact ⟨below_row (below_row (HBc.out.trans (HB2.out.mono (by have := HBe.out; omega))) (by omega) _) (by omega) _, rfl, HER.out⟩)
end Go.Proofs.YtegeiicginpdbaaDoor
