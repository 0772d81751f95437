/-
 A range over a function whose iterator keeps its own state in a captured variable: the law for the caller, at an iterator that writes one box of its own between two rounds. Conditions: the caller's invariant does not speak of that box. What stands between semicolons, and the library's iterator over it. Conditions: the text is short. What op.Check and the document's Check return where all steps are right, and where the i-th is the first that is wrong; the world below is as it was. Conditions: the list's cells hold steps. What asm.Read returns to a text: the steps that it z2s, or which piece is none, or what op.Check returned; the world below is as it was. Conditions: the tables lie in memory, the library's two errors are errors, the text is short.
-/
import Derived.Test.YtbimlalhodibjaaGreatDoorJf3
import Derived.RangeFuncNested
import Derived.Shelf.RegionOpen
set_option maxHeartbeats 40000000
open Go.Value renaming int → E
open Go.IntKind renaming i64 → F
open Go.RowKit.Below renaming alloc → bA, setCell → bS, drew → bD, refl → bF
set_option maxRecDepth 1000000
set_option linter.defProp false
set_option linter.unusedVariables false
set_option linter.unusedSimpArgs false
open Go.Ending renaming returned → rT
open Go.Value renaming pointer → pT
open Go.Obj renaming cells → cT
open Go.Proofs.Tryz renaming prog → tP
open List renaming length_cons → lQ
namespace Go.Proofs.YtbimlalhodibjaaGreatDoor
section
open Go.ChangeShapes Go.WideShapes Go.ChangeAt Go.RowKit Go.Shelf
def zO9 {β : Type} (Bs : Nat) (J : β -> World -> Prop) : Prop := ∀ s W W' row, J s W -> W.grownBy W' row -> (row = none \/ row = some Bs) -> J s W'
def zSe {α : Type} (n : Nat) (P : Program) (g : Nat) (lb : Array Value) (encs : α -> Array Value) (Kp : World -> World -> Prop) (S Sp : List α -> Prop) (N Bs : Nat) (w : World) : Prop :=
 ∀ (l : Nat) (J Jx : List α -> World -> Prop) (W : World), Below w.heap.size w W -> zO9 Bs J -> zO9 Bs Jx ->
  (∀ pre x W1, J pre W1 -> pre.length < N -> YieldAt Fence.wide (n - 1) P l (encs x) W1 fun e W' =>
   (e = rT (.bool true) /\ J (pre ++ [x]) W' /\ Kp W1 W') \/ (e = rT (.bool false) /\ Jx (pre ++ [x]) W')) ->
  J [] W ->
  CallsIn Fence.wide n P g (#[.func (.yield l) #[] #[]] ++ lb) W fun e W' => (∃ v, e = rT v) /\ ((∃ xs, S xs /\ J xs W') \/ (∃ pre, Sp pre /\ Jx pre W'))
theorem z6f {W W' : World} {row : Option Nat} {Bs k : Nat} {o : Obj} (hg : W.grownBy W' row) (hr : row = none \/ row = some Bs) (hk : W.heap[k]? = some o) (hne : k ≠ Bs) : W'.heap[k]? = some o := by
 refine (hg.block k (Array.getElem?_eq_some_iff.1 hk).1 fun e => ?_).trans hk
 rcases hr with h | h
 ·rw [h] at e; cases e
 ·rw [h] at e; exact hne (Option.some.inj e)
theorem zMi {P : Program} {α : Type} {n : Nat} {g : Operand} {ps : Array Tmp} {assign body : Code} {Q : Exit -> Act -> World -> Prop} {a : Act} {w : World} (h1 : 1 <= n) {gf : Nat} {lb : Array Value} (hg : a.eval g = .func (.func gf) #[] lb)
  (eg : ∀ args w, (callFunc gf args).run P w = .ok (.enter gf args) w) {encs : α -> Array Value} {Kp : World -> World -> Prop} {S Sp : List α -> Prop} {N Bs : Nat} (hseq : zSe (n - 1) P gf lb encs Kp S Sp N Bs w) (hBs : Bs < w.heap.size)
  (hKt : ∀ {A B C : World}, Kp A B -> Kp B C -> Kp A C) (hKb : ∀ (W : World) (l : Nat) (o o' : Obj), w.heap.size <= l -> W.heap[l]? = some o -> o.isCells = false -> o.isWalk = false -> Kp W (W.putObj l o')) (hps : ∀ x, (encs x).size = ps.size)
  (I : List α -> World -> Prop) (Ix : Code -> List α -> World -> Prop) (hI : OwnFrom w.heap.size I) (hIa : zO9 Bs I) (hIx : ∀ c, OwnFrom w.heap.size (Ix c)) (hIxa : ∀ c, zO9 Bs (Ix c)) (h0 : I [] w) (a₁ : α -> Act)
  (hassign : ∀ (l : Nat) (x : α) (W : World) (K : Act -> World -> Prop), K (a₁ x) W -> assign.wpIn (Fence.wide.inRound l) (n - 1 - 1) P (Exit.then K (fun _ _ _ => False)) { tmps := (ps.zip (encs x)).foldl (fun t (p, v) => t.setIfInBounds p v) a.tmps, defers := [] } W)
  (hbody : ∀ (l : Nat) (pre : List α) (x : α) (W : World), I pre W -> pre.length < N -> body.wpIn (Fence.wide.inRound l) (n - 1 - 1) P (ownPostG w.heap.size Kp I Ix (pre ++ [x]) W) (a₁ x) W)
  (hdone : ∀ (D : Nat) (xs : List α) (W : World), w.heap.size <= D -> S xs -> I xs W -> W.heap[D]? = some (.deferred (some [])) -> Q .normal { a with defers := { target := .collected D, args := #[] } :: a.defers } W)
  (hstop : ∀ (D : Nat) (c : Code) (pre : List α) (W : World), w.heap.size <= D -> Sp pre -> Ix c pre W -> W.heap[D]? = some (.deferred (some [])) -> c.wpIn Fence.wide n P Q { a with defers := { target := .collected D, args := #[] } :: a.defers } W) :
  (Code.rangeFunc g ps assign body).wpIn Fence.wide n P Q a w := by
 refine wpIn_rangeFunc fun fn hfn => ?_
 let R (st : LoopState) (pe : Option Code) : Loop := { state := st, pending := pe, fn := fn, tmps := a.tmps, params := ps, assign := assign, body := body, defers := w.heap.size }
 let W1 : World := (w.alloc (.deferred (some []))).alloc (.loop (R .ready none))
 have hL : W1.heap[w.heap.size + 1]? = some (.loop (R .ready none)) := by
  have h := World.alloc_heap_new (w.alloc (.deferred (some []))) (.loop (R .ready none))
  rw [World.size_alloc] at h; exact h
 have hD : W1.heap[w.heap.size]? = some (.deferred (some [])) := (Below.heap_alloc _ _ _ (by simp)).trans (World.alloc_heap_new w _)
 have hI1 : I [] W1 := hI.alloc _ (hI.alloc _ h0)
 have hB1 : Below w.heap.size w W1 := ((bF _ w).alloc (Nat.le_refl _) _).alloc (by simp) _
 refine ⟨w.heap.size + 1, [{ target := .collected w.heap.size, args := #[] }], W1, { target := .fn (.func gf) lb, args := #[.func (.yield (w.heap.size + 1)) #[] #[]] }, W1, gf, #[.func (.yield (w.heap.size + 1)) #[] #[]] ++ lb, W1, run_enterLoop_outer _ _ _ _ _, ?_, fun _ _ => trivial, ?_, fun _ => h1, ?_⟩
 ·simp only [resolve, hg]
  simp [go_sem]
 ·simp [invoke, go_sem, eg]
 ·-- the iterator, at the caller's invariant and the loop's own two blocks
  refine (hseq (w.heap.size + 1) (fun pre W => I pre W /\ W.heap[w.heap.size + 1]? = some (.loop (R .ready none)) /\ W.heap[w.heap.size]? = some (.deferred (some [])))
   (fun pre W => ∃ c, Ix c pre W /\ W.heap[w.heap.size + 1]? = some (.loop (R .done (some c))) /\ W.heap[w.heap.size]? = some (.deferred (some []))) W1 hB1
   (fun s A B row hs hgr hr => ⟨hIa s A B row hs.1 hgr hr, z6f hgr hr hs.2.1 (by omega), z6f hgr hr hs.2.2 (by omega)⟩)
   (fun s A B row hs hgr hr => by
    obtain ⟨c, hc, hl, hd⟩ := hs
    exact ⟨c, hIxa c s A B row hc hgr hr, z6f hgr hr hl (by omega), z6f hgr hr hd (by omega)⟩) ?_ ⟨hI1, hL, hD⟩).mono ?_
  ·rintro pre x W ⟨hi, hl, hd⟩ hlen
   have hlt : w.heap.size + 1 < W.heap.size := (Array.getElem?_eq_some_iff.1 hl).1
   have hy := run_yield (P := P) (args := encs x) hl (hps x)
   refine ⟨fn, _, assign, body, hy, roundIn_of_wpIn hfn (hassign _ x W _ ⟨_, run_beginRound hl rfl, ?_⟩)⟩
   -- the record is busy while the body runs
   have hl2 : (W.putObj (w.heap.size + 1) (.loop { R .ready none with state := .busy })).heap[w.heap.size + 1]? = some (.loop { R .ready none with state := .busy }) := World.putObj_heap_same hlt
   have hd2 : (W.putObj (w.heap.size + 1) (.loop { R .ready none with state := .busy })).heap[w.heap.size]? = some (.deferred (some [])) := (World.putObj_heap_other (by omega)).trans hd
   have hk2 : Kp W (W.putObj (w.heap.size + 1) (.loop { R .ready none with state := .busy })) := hKb _ _ _ _ (by omega) hl rfl rfl
   have hend : ∀ (jump : Option Code) (W3 : World), KeepsFrom w.heap.size (W.putObj (w.heap.size + 1) (.loop { R .ready none with state := .busy })) W3 ->
     (Instr.endRound (w.heap.size + 1) jump).run P W3 = .ok (.bool jump.isNone) (W3.putObj (w.heap.size + 1) (.loop (R (if jump.isNone then .ready else .done) jump))) /\ W3.heap[w.heap.size + 1]? = some (.loop { R .ready none with state := .busy }) /\
     (W3.putObj (w.heap.size + 1) (.loop (R (if jump.isNone then .ready else .done) jump))).heap[w.heap.size + 1]? = some (.loop (R (if jump.isNone then .ready else .done) jump)) /\
     (W3.putObj (w.heap.size + 1) (.loop (R (if jump.isNone then .ready else .done) jump))).heap[w.heap.size]? = some (.deferred (some [])) := fun jump W3 hk3 => by
    have hl3 := hk3.same _ _ (by omega) hl2 rfl
    exact ⟨run_endRound (P := P) jump hl3, hl3, World.putObj_heap_same (Array.getElem?_eq_some_iff.1 hl3).1, (World.putObj_heap_other (by omega)).trans (hk3.same _ _ (Nat.le_refl _) hd2 rfl)⟩
   refine wpIn_mono (hbody _ pre x _ (hI.putObj _ hi (by omega) hl rfl) hlen) ?_
   rintro e a3 W3 hp
   have leaves : ∀ c, KeepsFrom w.heap.size (W.putObj (w.heap.size + 1) (.loop { R .ready none with state := .busy })) W3 /\ Ix c (pre ++ [x]) W3 -> ∃ v W4, (Instr.endRound (w.heap.size + 1) (some c)).run P W3 = .ok v W4 /\ ((Ending.returned v = rT (.bool true) /\ (I (pre ++ [x]) W4 /\ W4.heap[w.heap.size + 1]? = some (.loop (R .ready none)) /\ W4.heap[w.heap.size]? = some (.deferred (some []))) /\ Kp W W4) \/
     (Ending.returned v = rT (.bool false) /\ ∃ c, Ix c (pre ++ [x]) W4 /\ W4.heap[w.heap.size + 1]? = some (.loop (R .done (some c))) /\ W4.heap[w.heap.size]? = some (.deferred (some [])))) := fun c hp => by
    obtain ⟨hr, hl3, hl4, hd4⟩ := hend (some c) W3 hp.1
    exact ⟨_, _, hr, .inr ⟨rfl, c, (hIx c).putObj _ hp.2 (by omega) hl3 rfl, hl4, hd4⟩⟩
   cases e with
   | normal =>
    obtain ⟨hk3, hkp3, hi3⟩ := hp
    obtain ⟨hr, hl3, hl4, hd4⟩ := hend none W3 hk3
    exact ⟨_, _, hr, .inl ⟨rfl, ⟨hI.putObj _ hi3 (by omega) hl3 rfl, hl4, hd4⟩, hKt (hKt hk2 hkp3) (hKb _ _ _ _ (by omega) hl3 rfl rfl)⟩⟩
   | ret => exact leaves .ret hp
   | exit id => exact leaves (.exit id) hp
   | goto t => exact leaves (.goto t) hp
   | panic ch => exact hp.elim
   | outgrown => exact hp.elim
  ·rintro e W2 ⟨⟨v, rfl⟩, (⟨xs, hS, hi, hl, hd⟩ | ⟨pre, hSp, c, hi, hl, hd⟩)⟩
   ·exact ⟨none, _, run_endLoop (P := P) hl (by simp [R]), hdone _ xs _ (Nat.le_refl _) hS (hI.putObj _ hi (by omega) hl rfl) ((World.putObj_heap_other (by omega)).trans hd)⟩
   ·exact ⟨some c, _, run_endLoop (P := P) hl (by simp [R]), hstop _ c pre _ (Nat.le_refl _) hSp ((hIx c).putObj _ hi (by omega) hl rfl) ((World.putObj_heap_other (by omega)).trans hd)⟩
variable {ex : Ext}
attribute [local go_sem] Oper.semAt_some
def semi (t : ByteArray) : Int := Lib.indexByte t.data.toList 59
def z1o : Nat -> ByteArray -> List ByteArray
 | 0, t => [t]
 | f + 1, t => if 0 <= semi t then t.extract 0 (semi t).toNat :: z1o f (t.extract ((semi t).toNat + 1) t.size) else [t]
def z0t (s : ByteArray) : List ByteArray := z1o s.size s
structure z32 (n₀ : Nat) (bs : List Nat) (W W' : World) : Prop where
 bel : Below n₀ W W'
 also : ∀ b ∈ bs, W'.heap[b]? = W.heap[b]?
theorem z32.trans {n₀ : Nat} {bs : List Nat} {A B C : World} (h : z32 n₀ bs A B) (k : z32 n₀ bs B C) : z32 n₀ bs A C := ⟨h.bel.trans k.bel, fun b hb => (k.also b hb).trans (h.also b hb)⟩
theorem z32.put {n₀ : Nat} {bs : List Nat} {w : World} (hn : n₀ <= w.heap.size) (h1 : ∀ b ∈ bs, b < w.heap.size) (W : World) (l : Nat) (o o' : Obj) (hl : w.heap.size <= l) (h : W.heap[l]? = some o) (hc : o.isCells = false) (hw : o.isWalk = false) : z32 n₀ bs W (W.putObj l o') :=
 ⟨belowK_b hn W l o o' hl h hc hw, fun b hb => World.putObj_heap_other (by have := h1 b hb; omega)⟩
def zL7 (W : World) (b : Nat) : Nat := match W.cell? ⟨b, 0, none⟩ with
 | some (.string t) => t.size
 | _ => 0
theorem zHd {W : World} {b : Nat} {ty : TypeId} {t : ByteArray} (h : Boxed W b ty (.string t)) : zL7 W b = t.size := by
 unfold zL7; rw [h.cell]
theorem z99 : ∀ (l : List UInt8) (c : UInt8), Lib.indexByte l c < l.length
 | [], c => by simp [Lib.indexByte]
 | b :: l, c => by
  have ih := z99 l c
  unfold Lib.indexByte
  rw [lQ]
  split
  ·omega
  ·split
   ·omega
   ·omega
theorem zW1 (t : ByteArray) : semi t < t.size /\ -1 <= semi t := by
 have h := z99 t.data.toList 59
 rw [z5y] at h
 exact ⟨h, Lib.indexByte_ge _ _⟩
theorem Boxed.other_box {W : World} {b c : Nat} {ty : TypeId} {v : Value} (h : Boxed W b ty v) (hne : b ≠ c) (u : Value) : Boxed (W.setCell ⟨c, 0, none⟩ u) b ty v := (Below.heap_setCell W ⟨c, 0, none⟩ u b hne).trans h
theorem z8i {f : Nat} {t : ByteArray} (h : 0 <= semi t) : z1o (f + 1) t = t.extract 0 (semi t).toNat :: z1o f (t.extract ((semi t).toNat + 1) t.size) := by rw [z1o, if_pos h]
theorem z8h {f : Nat} {t : ByteArray} (h : ¬ 0 <= semi t) : z1o f t = [t] := by
 cases f with
 | zero => rfl
 | succ f => rw [z1o, if_neg h]
theorem zGl (t : ByteArray) (w : World) : Calls tP 87 #[.string t, .string ⟨#[59]⟩] w fun e w' => e = rT (E F (semi t)) /\ w' = w := Tryz.strings_Index_one t 59 w
theorem zP6 (n : Nat) (hn : 1 <= n) (l Bp Bs Bv n₀ : Nat) (h1 : Bp ≠ Bs) (h2 : Bv ≠ Bs) (s : ByteArray) (hs : s.size <= 100000) (J Jx : List z3e -> World -> Prop) (W : World) (hJ : zO9 Bs J)
  (hY : ∀ (pre : List z3e) (x : z3e) W, J pre W -> pre.length < (z0t s).length -> YieldAt Fence.wide (n - 1) tP l #[.string x.1] W fun e W' =>
   (e = rT (.bool true) /\ J (pre ++ [x]) W' /\ z32 n₀ [Bp, Bs, Bv] W W') \/ (e = rT (.bool false) /\ Jx (pre ++ [x]) W'))
  (bP : Boxed W Bp 9 (.string ⟨#[59]⟩)) (bS : Boxed W Bs 9 (.string s)) (bV : Boxed W Bv 3 (E F 0)) (h0 : J [] W) :
  CallsIn Fence.wide n tP 85 #[.func (.yield l) #[] #[], pT (some ⟨Bp, 0, none⟩), pT (some ⟨Bs, 0, none⟩), pT (some ⟨Bv, 0, none⟩)] W fun e W' => (∃ v, e = rT v) /\
   ((∃ ys : List z3e, ys.map (·.1) = z0t s /\ J ys W') \/ (∃ pre : List z3e, pre.map (·.1) <+: z0t s /\ Jx pre W')) := by
 refine callsIn_of_wp Tryz.func85 rfl trivial ?_ rfl
 simp only [Tryz.ntmps85, List.size_toArray, lQ, List.length_nil, Nat.reduceAdd, Nat.reduceSub, Array.replicate_succ, Array.replicate_zero, List.push_toArray, List.append_toArray, List.nil_append, List.cons_append]
 have hf1 : Fence.wide.fn 87 := trivial
 have cP := bP.cell
 gi_wp2
 gi_loopw [] (fun wr => ∃ (pre : List z3e) (t : ByteArray) (fuel : Nat), Boxed wr Bs 9 (.string t) /\ Boxed wr Bp 9 (.string ⟨#[59]⟩) /\ Boxed wr Bv 3 (E F 0) /\ pre.map (·.1) ++ z1o fuel t = z0t s /\ t.size <= fuel /\ t.size <= 100000 /\ J pre wr) (fun wr => zL7 wr Bs)
 case atStart => exact ⟨[], s, s.size, bS, bP, bV, rfl, Nat.le_refl _, hs, h0⟩
 case round =>
  obtain ⟨pre, t, fuel, bS', bP', bV', hacc, hfu, htz, hJr⟩ := hrel
  have cS := bS'.cell
  have cP' := bP'.cell
  have cV := bV'.cell
  have hsm := zW1 t
  by_cases hi : 0 <= semi t
  ·obtain ⟨f, rfl⟩ : ∃ f, fuel = f + 1 := ⟨fuel - 1, by omega⟩
   rw [z8i hi] at hacc
   obtain ⟨k, hk⟩ := Int.eq_ofNat_of_zero_le hi
   rw [hk] at hacc hsm
   have hkl : k < t.size := by have := hsm.1; omega
   have hlen : pre.length < (z0t s).length := by rw [<- hacc]; simp
   have HA : Hid (pre.map (·.1) ++ t.extract 0 k :: z1o f (t.extract (k + 1) t.size) = z0t s) := hacc
   have HK : Hid (semi t = k) := hk
   clear hacc hi hsm hk
   obtain ⟨fn, tmps, assign, body, hy, hR⟩ := hY pre ⟨t.extract 0 k, z4f htz _ _⟩ wr hJr hlen
   dsimp only at hy
   gi_wp2_with (gi_at_call 87; refine (callsIn_wide.2 (zGl _ _)).mono ?_; rintro e w1 ⟨rfl, rfl⟩; rw [HK.out])
   refine hR.mono ?_
   rintro e W3 (⟨rfl, hJ3, hk3⟩ | ⟨rfl, hJx3⟩)
   ·have bS3 : Boxed W3 Bs 9 (.string t) := (hk3.also Bs (by simp)).trans bS'
    have bP3 : Boxed W3 Bp 9 (.string ⟨#[59]⟩) := (hk3.also Bp (by simp)).trans bP'
    have bV3 : Boxed W3 Bv 3 (E F 0) := (hk3.also Bv (by simp)).trans bV'
    have cS3 := bS3.cell
    have fS3 := bS3.frozen
    have cP3 := bP3.cell
    have hz : zL7 w1 Bs = t.size := zHd bS'
    gi_wp2
    go_roundw
    case rel => exact ⟨pre ++ [⟨t.extract 0 k, z4f htz _ _⟩], t.extract (k + 1) t.size, f, bS3.set _, Boxed.other_box bP3 h1 _, Boxed.other_box bV3 h2 _, by rw [List.map_append, List.append_assoc]; exact HA.out, by rw [ByteArray.size_extract]; omega, by rw [ByteArray.size_extract]; omega, hJ _ _ _ _ hJ3 (z2i (z2e (bF _ _) _) 0 _) (Or.inr rfl)⟩
    case measure => rw [hz, zHd (bS3.set _), ByteArray.size_extract]; omega
   ·gi_wp2
    refine bodyPost_ret (results_none rfl _ _ _) rfl ?_
    exact ⟨⟨_, rfl⟩, .inr ⟨_, ⟨z1o f (t.extract (k + 1) t.size), by rw [List.map_append, List.append_assoc]; exact HA.out⟩, hJx3⟩⟩
  ·have x1 : decide (semi t < 0) = true := by simp; omega
   rw [z8h hi] at hacc
   have hlen : pre.length < (z0t s).length := by rw [<- hacc]; simp
   have HA : Hid (pre.map (·.1) ++ [t] = z0t s) := hacc
   clear hacc hi hsm
   obtain ⟨fn, tmps, assign, body, hy, hR⟩ := hY pre ⟨t, htz⟩ wr hJr hlen
   dsimp only at hy
   gi_wp2_with (gi_at_call 87; refine (callsIn_wide.2 (zGl _ _)).mono ?_; rintro e w1 ⟨rfl, rfl⟩)
   refine hR.mono ?_
   rintro e W3 (⟨rfl, hJ3, hk3⟩ | ⟨rfl, hJx3⟩)
   ·gi_wp2
    go_end0
    exact ⟨⟨_, rfl⟩, .inl ⟨_, by rw [List.map_append]; exact HA.out, hJ3⟩⟩
   ·gi_wp2
    go_end0
    exact ⟨⟨_, rfl⟩, .inr ⟨_, ⟨[], by rw [List.map_append, List.append_nil]; exact HA.out⟩, hJx3⟩⟩
theorem zFm (s : ByteArray) (w : World) : Calls tP 48 #[.string s, .string ⟨#[59]⟩] w fun e w' =>
  e = rT (.func (.func 85) #[] #[pT (some ⟨w.heap.size + 1, 0, none⟩), pT (some ⟨w.heap.size, 0, none⟩), pT (some ⟨w.heap.size + 2, 0, none⟩)]) /\ w' = ((w.alloc (cT #[.string s] 9)).alloc (cT #[.string ⟨#[59]⟩] 9)).alloc (cT #[E F 0] 3) := by
 go_enter Tryz.func48, Tryz.ntmps48
 go_wp2
 go_ret
 exact ⟨rfl, rfl⟩
end
section
open Go.ChangeShapes Go.WideShapes Go.ChangeAt Go.RowKit
theorem first_fault (f : Nat -> Int) : ∀ len : Nat, (∀ j, j < len -> f j = 0) \/ ∃ i, i < len /\ (∀ j, j < i -> f j = 0) /\ f i ≠ 0
 | 0 => Or.inl fun j hj => absurd hj (Nat.not_lt_zero _)
 | n + 1 => by
  rcases first_fault f n with h | ⟨i, hi, hno, hf⟩
  ·by_cases hn : f n = 0
   ·exact Or.inl (zM0 h hn)
   ·exact Or.inr ⟨n, Nat.lt_succ_self n, h, hn⟩
  ·exact Or.inr ⟨i, Nat.lt_succ_of_lt hi, hno, hf⟩
theorem zCh {f : Nat -> Int} {i k : Nat} (hi : ∀ j, j < i -> f j = 0) (hf : f i ≠ 0) (hk : ∀ j, j < k -> f j = 0) (hg : f k ≠ 0) : k = i := by
 rcases Nat.lt_trichotomy k i with h | h | h
 ·exact absurd (hi k h) hg
 ·exact h
 ·exact absurd (hk i h) hf
section
variable {bk off len cap : Nat} {C D S O N : Nat -> Int} {R : Nat -> Bool} {w : World} (h1 : 1 <= len) (h2 : len <= 200) (hbk : bk < w.heap.size) (hst : z1l w bk off len C D S R O N)
theorem z4n (h : ∀ j, j < len -> z1j len C D S R O N j = 0) (hst : z1l w bk off len C D S R O N) (h1 : 1 <= len) (h2 : len <= 200) (hbk : bk < w.heap.size) :
  Calls tP 50 #[.slice (some ⟨bk, off, none⟩) len cap] w fun e w' => e = rT .nilIface /\ Below w.heap.size w w' := by
 refine (z5g bk off len cap C D S O N R w h1 h2 hbk hst).mono fun e w' hh => ?_
 obtain ⟨hb, hh⟩ := hh
 rcases hh with ⟨he, _⟩ | ⟨i, p, hi, _, hf, _⟩
 ·exact ⟨he, hb⟩
 ·exact absurd (h i hi) hf
theorem zIt {i : Nat} (hi : i < len) (hno : ∀ j, j < i -> z1j len C D S R O N j = 0) (hf : z1j len C D S R O N i ≠ 0) (hst : z1l w bk off len C D S R O N) (h1 : 1 <= len) (h2 : len <= 200) (hbk : bk < w.heap.size) :
  Calls tP 50 #[.slice (some ⟨bk, off, none⟩) len cap] w fun e w' => ∃ p, e = rT (.iface 150 (pT (some ⟨p, 0, none⟩))) /\ Below w.heap.size w w' /\ p < w'.heap.size /\ w'.cell? ⟨p, 0, none⟩ = some (E F (z1j len C D S R O N i)) /\ w'.cell? ⟨p, 1, none⟩ = some (E F i) := by
 refine (z5g bk off len cap C D S O N R w h1 h2 hbk hst).mono fun e w' hh => ?_
 obtain ⟨hb, hh⟩ := hh
 rcases hh with ⟨_, h⟩ | ⟨k, p, hk, hno', hf', he, hp, hc0, hc1⟩
 ·exact absurd (h i hi) hf
 ·obtain rfl := zCh hno hf hno' hf'
  refine ⟨p, he, hb, ?_, hc0, hc1⟩
  rcases Nat.lt_or_ge p w'.heap.size with g | g
  ·exact g
  ·simp [World.cell?, Array.getElem?_eq_none g] at hc0
end
end
section
open Go.ChangeShapes Go.WideShapes Go.ChangeAt Go.RowKit Go.Shelf
variable {ex : Ext}
attribute [local go_sem] Oper.semAt_some
section
variable {w w1 : World} {base base' n size : Nat} {e : TypeId} {v : Value} {xs : List Value}
theorem z8j (h : w.ownsRow base e size v n xs) (hb : Below w.heap.size w w1) : w1.ownsRow base e size v n xs :=
 h.kept (row := none) ⟨hb.os, hb.tape, hb.output, hb.size, fun k hk _ => hb.block k hk⟩ (by cases v.ownBlock <;> simp)
theorem zPo (h : w.ownsRow base e size v n xs) : ∀ k, v.ownBlock = some k -> base <= k := by
 intro k hk
 rcases h.2 with ⟨rfl, _⟩ | ⟨g, cap, cur, rfl, hb, _⟩
 ·simp [Value.ownBlock] at hk
 ·simp [Value.ownBlock] at hk; omega
theorem zMo (h : w.ownsRow base e size v n xs) (hb : base' <= base) : w.ownsRow base' e size v n xs := by
 refine ⟨h.1, ?_⟩
 rcases h.2 with hn | ⟨g, cap, cur, rfl, hg, rest⟩
 ·exact .inl hn
 ·exact .inr ⟨g, cap, cur, rfl, Nat.le_trans hb hg, rest⟩
theorem zCq (h : w.ownsRow base e size v n xs) (hn : 0 < n) : ∃ g cap, v = .slice (some ⟨g, 0, none⟩) n cap := by
 rcases h.2 with ⟨_, rfl⟩ | ⟨g, cap, _, rfl, _⟩
 ·omega
 ·exact ⟨g, cap, rfl⟩
end
theorem zNw {W w1 : World} {B n₁ size : Nat} {t e : TypeId} {v v' : Value} {k m : Nat} {xs ys : List Value} {tmp : Obj} (hv : Boxed W B t v) (hB : B < n₁) (hn₁ : n₁ <= W.heap.size) (hrow : W.ownsRow n₁ e size v k xs)
  (hown' : w1.ownsRow n₁ e size v' m ys) (hgrow : (W.alloc tmp).grownBy w1 v.ownBlock) :
  Boxed w1 B t v /\ Boxed (w1.setCell ⟨B, 0, none⟩ v') B t v' /\ (w1.setCell ⟨B, 0, none⟩ v').ownsRow n₁ e size v' m ys /\ KeepsOthers W (w1.setCell ⟨B, 0, none⟩ v') /\ Below B W (w1.setCell ⟨B, 0, none⟩ v')
   /\ ∀ j, j < n₁ -> j ≠ B -> (w1.setCell ⟨B, 0, none⟩ v').heap[j]? = W.heap[j]? := by
 have hf := zPo hrow
 have hk : ∀ j, j < n₁ -> w1.heap[j]? = W.heap[j]? := fun j hj => (hgrow.block j (by simp; omega) (fun e => by have := hf j e.symm; omega)).trans (Below.heap_alloc _ _ _ (by omega))
 have hb1 : Boxed w1 B t v := (hk B hB).trans hv
 refine ⟨hb1, hb1.set v', ownsRow_setCell_below hown' hB v', ?_, ?_, fun j hj hne => (Below.heap_setCell w1 ⟨B, 0, none⟩ v' j hne).trans (hk j hj)⟩
 ·refine ((KeepsOthers.alloc W tmp).trans (KeepsOthers.of_grownBy hgrow fun j o e ho => ?_)).trans (KeepsOthers.setCell _ _ _)
  rcases (hrow.alloc tmp).2 with ⟨rfl, _⟩ | ⟨g, cap, cur, rfl, _, hg, _⟩
  ·simp [Value.ownBlock] at e
  ·simp [Value.ownBlock] at e
   subst e; rw [hg] at ho; cases ho; rfl
 ·exact (((bF B W).alloc (by omega) tmp).grown hgrow (by simp; omega) (fun j e => by have := hf j e; omega)).setCell (Nat.le_refl _) _
theorem z18 {W w1 : World} {b : Nat} {ty : TypeId} {v : Value} (h : Boxed W b ty v) (hb : Below W.heap.size W w1) : Boxed w1 b ty v := (hb.block b h.lt).trans h
def z2s (p : ByteArray) : Option St := z4x ((z0z p).take 5)
def z3g (ps : List ByteArray) : List St := ps.map fun p => (z2s p).getD St.zero
def z1q (xs : List St) : List Value := (xs.map fun x => x.cells.toList).flatten
theorem zC7 (xs : List St) (x : St) : z1q (xs ++ [x]) = z1q xs ++ x.cells.toList := by simp [z1q]
theorem Tryz.infoStep : (Tryz.prog.info? 80).map (fun i => (i.zero, i.size, i.bytes)) = some (some (.agg St.zero.cells), 6, 48) := by kernel_rfl
def Stab {β : Type} (B Bs : Nat) (I : β -> World -> Prop) : Prop := ∀ s W W' row, I s W -> W.grownBy W' row -> (∀ r, row = some r -> (B <= r /\ ∃ o : Obj, W.heap[r]? = some o /\ o.isCells = false) \/ r = Bs) -> I s W'
theorem Stab.own {β : Type} {B Bs : Nat} {I : β -> World -> Prop} (h : Stab B Bs I) : OwnFrom B I := fun s W W' row hs hg hr => h s W W' row hs hg fun r e => Or.inl (hr r e)
theorem Stab.abide {β : Type} {B Bs : Nat} {I : β -> World -> Prop} (h : Stab B Bs I) : zO9 Bs I := fun s W W' row hs hg hr => h s W W' row hs hg fun r e => by
 rcases hr with k | k
 ·rw [k] at e; cases e
 ·rw [k] at e; exact Or.inr (Option.some.inj e).symm
theorem z39 {W W' : World} {row : Option Nat} {B Bs k : Nat} {c : Array Value} {t : TypeId} {fz : Nat × Nat} (hg : W.grownBy W' row) (hr : ∀ r, row = some r -> (B <= r /\ ∃ o : Obj, W.heap[r]? = some o /\ o.isCells = false) \/ r = Bs) (hk : W.heap[k]? = some (cT c t fz)) (hne : k ≠ Bs) : W'.heap[k]? = some (cT c t fz) := by
 refine (hg.block k (Array.getElem?_eq_some_iff.1 hk).1 fun e => ?_).trans hk
 rcases hr k e.symm with ⟨_, o, ho, hc⟩ | h
 ·rw [hk] at ho; cases ho; cases hc
 ·exact hne h
theorem zT3 {W W' : World} {row : Option Nat} {B Bs base n size : Nat} {e : TypeId} {v : Value} {xs : List Value} (hg : W.grownBy W' row) (hr : ∀ r, row = some r -> (B <= r /\ ∃ o : Obj, W.heap[r]? = some o /\ o.isCells = false) \/ r = Bs) (h : W.ownsRow base e size v n xs) (hb : Bs < base) : W'.ownsRow base e size v n xs := by
 refine ⟨h.1, ?_⟩
 rcases h.2 with hn | ⟨g, cap, cur, rfl, hbg, hgg, rest⟩
 ·exact .inl hn
 ·exact .inr ⟨g, cap, cur, rfl, hbg, z39 hg hr hgg (by omega), rest⟩
theorem zCg {W W' w : World} {row : Option Nat} {B Bs : Nat} (hg : W.grownBy W' row) (hr : ∀ r, row = some r -> (B <= r /\ ∃ o : Obj, W.heap[r]? = some o /\ o.isCells = false) \/ r = Bs) (h : Below w.heap.size w W) (h1 : w.heap.size <= B) (h2 : w.heap.size <= Bs) : Below w.heap.size w W' :=
 h.trans ⟨hg.os, hg.tape, hg.output, hg.size, fun k hk => hg.block k (Nat.lt_of_lt_of_le hk h.size) fun e => by
  rcases hr k e.symm with ⟨hb, _⟩ | hb
  ·omega
  ·omega⟩
theorem z7i : ∀ (f : Nat) (t : ByteArray), (z1o f t).length <= f + 1
 | 0, t => by simp [z1o]
 | f + 1, t => by
  by_cases h : 0 <= semi t
  ·rw [z8i h, lQ]; have := z7i f (t.extract ((semi t).toNat + 1) t.size); omega
  ·rw [z8h h]; simp
def zHg (ex : Ext) (w : World) (pre : List z3e) (W : World) : Prop :=
 (∃ v, Boxed W (w.heap.size + 2) 33 v /\ W.ownsRow (w.heap.size + 7) 80 6 v (min pre.length 201) (z1q ((z3g (pre.map (·.1))).take 201))) /\ (∀ x ∈ pre, (z2s x.1).isSome = true) /\ Boxed W (w.heap.size + 3) 3 (E F pre.length)
 /\ Boxed W w.heap.size 33 (.slice none 0 0) /\ Boxed W (w.heap.size + 1) 26 .nilIface /\ Below w.heap.size w W /\ w.heap.size + 7 <= W.heap.size /\ Tabs ex W
def Left (w : World) (c : Code) (pre : List z3e) (W : World) : Prop :=
 c = .ret /\ ∃ (pre0 : List z3e) (x : z3e) (p : Nat), pre = pre0 ++ [x] /\ (∀ y ∈ pre0, (z2s y.1).isSome = true) /\ z2s x.1 = none /\ Boxed W w.heap.size 33 (.slice none 0 0) /\ Boxed W (w.heap.size + 1) 26 (.iface 150 (pT (some ⟨p, 0, none⟩)))
  /\ w.heap.size + 7 <= p /\ W.heap[p]? = some (cT #[E F 3, E F pre0.length] 151 (0, 0)) /\ Below w.heap.size w W
theorem zAw {W w1 : World} (hb : Below W.heap.size W w1) : KeepsOthers W w1 := ⟨hb.size, fun k _ hk _ => (hb.block k (Array.getElem?_eq_some_iff.1 hk).1).trans hk⟩
theorem z3i (w : World) (p : Addr) (u : Value) : (w.setCell p u).heap.size = w.heap.size := by
 show (w.heap.modify p.block _).size = _
 rw [Array.size_modify]
theorem zU2 {B : Nat} {w W w1 : World} {pre : List z3e} {x : z3e} {S : Obj} (hb1 : Below W.heap.size W w1) (hall : ∀ y ∈ pre, (z2s y.1).isSome = true) (htl : z2s x.1 = none) (hR : Boxed W w.heap.size 33 (.slice none 0 0)) (hE : Boxed W (w.heap.size + 1) 26 .nilIface) (hB : Below w.heap.size w W) (hsz : w.heap.size + 7 <= W.heap.size) :
  KeepsFrom B W ((((w1.setCell ⟨w.heap.size, 0, none⟩ (.slice none 0 0)).setCell ⟨w.heap.size + 1, 0, none⟩ (.iface 150 (pT (some ⟨w1.heap.size + 1, 0, none⟩)))).alloc S).alloc (cT #[E F 3, E F pre.length] 151)).drew
   /\ Left w .ret (pre ++ [x]) ((((w1.setCell ⟨w.heap.size, 0, none⟩ (.slice none 0 0)).setCell ⟨w.heap.size + 1, 0, none⟩ (.iface 150 (pT (some ⟨w1.heap.size + 1, 0, none⟩)))).alloc S).alloc (cT #[E F 3, E F pre.length] 151)).drew := by
 have hs := hb1.size
 refine ⟨(((((zAw hb1).trans (KeepsOthers.setCell _ _ _)).trans (KeepsOthers.setCell _ _ _)).trans (KeepsOthers.alloc _ _)).trans (KeepsOthers.alloc _ _)).trans (KeepsOthers.drew _) |>.from _, rfl, pre, x, w1.heap.size + 1, rfl, hall, htl, ?_, ?_, by omega, ?_, ?_⟩
 ·exact ((Boxed.other_box ((z18 hR hb1).set _) (by omega) _).alloc _).alloc _
 ·exact (((Boxed.other_box (z18 hE hb1) (by omega) _).set _).alloc _).alloc _
 ·have h := World.alloc_heap_new (((w1.setCell ⟨w.heap.size, 0, none⟩ (.slice none 0 0)).setCell ⟨w.heap.size + 1, 0, none⟩ (.iface 150 (pT (some ⟨w1.heap.size + 1, 0, none⟩)))).alloc S) (cT #[E F 3, E F pre.length] 151)
  rw [World.size_alloc, z3i, z3i] at h
  exact h
 ·exact ((((hB.trans (hb1.mono (by omega))).setCell (Nat.le_refl _) _).setCell (by show w.heap.size <= w.heap.size + 1; omega) _).alloc (by rw [z3i, z3i]; omega) _).alloc (by rw [World.size_alloc, z3i, z3i]; omega) _ |>.drew
theorem zCp {w : World} {base n size : Nat} {e : TypeId} {v : Value} {xs : List Value} (h : w.ownsRow base e size v n xs) : ∃ a c, v = .slice a n c := by
 rcases h.2 with ⟨rfl, rfl⟩ | ⟨g, cap, cur, rfl, _⟩
 ·exact ⟨_, _, rfl⟩
 ·exact ⟨_, _, rfl⟩
theorem zFh (pre : List z3e) {x : z3e} {st : St} (h : z2s x.1 = some st) : z3g ((pre ++ [x]).map (·.1)) = z3g (pre.map (·.1)) ++ [st] := by simp [z3g, h]
theorem z3q (ps : List ByteArray) : (z3g ps).length = ps.length := by simp [z3g]
theorem zM3 {xs : List St} {x : St} (h : xs.length <= 200) : (xs ++ [x]).take 201 = xs.take 201 ++ [x] := by
 rw [List.take_of_length_le (by rw [List.length_append]; simp; omega), List.take_of_length_le (by omega)]
theorem zOw {xs : List St} {x : St} (h : ¬ xs.length <= 200) : (xs ++ [x]).take 201 = xs.take 201 := List.take_append_of_le_length (by omega)
theorem zRi {w : World} {b : Nat} {x : St} (hb : b = w.heap.size) : ∀ (j : Nat) u, x.cells.toList[j]? = some u -> (w.alloc (cT x.cells 80)).cell? ((⟨b, 0, none⟩ : Addr).add j) = some u := by
 subst hb
 intro j u hj
 have e : (⟨w.heap.size, 0, none⟩ : Addr).add j = ⟨w.heap.size, j, none⟩ := by unfold Addr.add; split <;> simp_all
 rw [e, World.cell?_alloc_at _ _ _ _ rfl]
 simpa using hj
theorem zP9 (x : St) : ∀ u ∈ x.cells.toList, u.oneCell' = true := by
 intro u hu
 simp [St.cells] at hu
 rcases hu with rfl | rfl | rfl | rfl | rfl | rfl <;> rfl
section
variable {w W w1 : World} {pre : List z3e} {x : z3e} {st : St} {v : Value}
theorem zF4 (hb1 : Below W.heap.size W w1) (hg : zHg ex w pre W) (S : Obj) :
  Boxed ((w1.setCell ⟨w.heap.size + 3, 0, none⟩ (E F ((pre.length : Int) + 1))).alloc S) (w.heap.size + 3) 3 (E F ((pre.length : Int) + 1))
  /\ Boxed ((w1.setCell ⟨w.heap.size + 3, 0, none⟩ (E F ((pre.length : Int) + 1))).alloc S) w.heap.size 33 (.slice none 0 0)
  /\ Boxed ((w1.setCell ⟨w.heap.size + 3, 0, none⟩ (E F ((pre.length : Int) + 1))).alloc S) (w.heap.size + 1) 26 .nilIface
  /\ Below w.heap.size W ((w1.setCell ⟨w.heap.size + 3, 0, none⟩ (E F ((pre.length : Int) + 1))).alloc S)
  /\ KeepsOthers W ((w1.setCell ⟨w.heap.size + 3, 0, none⟩ (E F ((pre.length : Int) + 1))).alloc S)
  /\ (∀ j, j < w.heap.size + 7 -> j ≠ w.heap.size + 3 -> ((w1.setCell ⟨w.heap.size + 3, 0, none⟩ (E F ((pre.length : Int) + 1))).alloc S).heap[j]? = W.heap[j]?) := by
 obtain ⟨_, _, hC, hR, hE, hB, hsz, _⟩ := hg
 have hs := hb1.size
 refine ⟨((z18 hC hb1).set _).alloc _, (Boxed.other_box (z18 hR hb1) (by omega) _).alloc _, (Boxed.other_box (z18 hE hb1) (by omega) _).alloc _, ?_, ((zAw hb1).trans (KeepsOthers.setCell _ _ _)).trans (KeepsOthers.alloc _ _), fun j hj hne => ?_⟩
 ·exact ((hb1.mono (by omega)).setCell (by show w.heap.size <= w.heap.size + 3; omega) _).alloc (by rw [z3i]; omega) _
 ·exact (Below.heap_alloc _ _ _ (by rw [z3i]; omega)).trans ((Below.heap_setCell _ _ _ _ hne).trans (hb1.block j (by omega)))
theorem zLc (hall : ∀ y ∈ pre, (z2s y.1).isSome = true) (htl : z2s x.1 = some st) : ∀ y ∈ pre ++ [x], (z2s y.1).isSome = true := by
 intro y hy
 rcases List.mem_append.1 hy with h | h
 ·exact hall y h
 ·rw [List.mem_singleton.1 h, htl]; rfl
theorem zQp {W4 : World} {S : Obj} {v' : Value} {m : Nat} (hgo : zHg ex w pre W) (hw : 12 <= w.heap.size) (hb1 : Below W.heap.size W w1) (h200 : pre.length <= 200) (htl : z2s x.1 = some st) (hm : m = pre.length) (hv2 : Boxed W4 (w.heap.size + 2) 33 v')
  (hr2 : W4.ownsRow (w.heap.size + 7) 80 6 v' (m + 1) (z1q ((z3g (pre.map (·.1))).take 201) ++ st.cells.toList)) (hj : ∀ j, j < w.heap.size + 7 -> j ≠ w.heap.size + 2 -> W4.heap[j]? = ((w1.setCell ⟨w.heap.size + 3, 0, none⟩ (E F ((pre.length : Int) + 1))).alloc S).heap[j]?) (hb : Below (w.heap.size + 2) ((w1.setCell ⟨w.heap.size + 3, 0, none⟩ (E F ((pre.length : Int) + 1))).alloc S) W4) :
  zHg ex w (pre ++ [x]) W4 /\ z32 w.heap.size [w.heap.size + 5, w.heap.size + 4, w.heap.size + 6] W W4 := by
 obtain ⟨bC, bR, bE, hB2, _, hk2⟩ := zF4 hb1 hgo S
 obtain ⟨_, hall, _, _, _, hB, hsz, hT⟩ := hgo
 have hBW : Below w.heap.size W W4 := hB2.trans (hb.mono (by omega))
 have hlen : (z3g (pre.map (·.1))).length <= 200 := by rw [z3q, List.length_map]; exact h200
 refine ⟨⟨⟨v', hv2, ?_⟩, zLc hall htl, ?_, (hj _ (by omega) (by omega)).trans bR, (hj _ (by omega) (by omega)).trans bE, hB.trans hBW, Nat.le_trans hsz hBW.size, hT.on hBW hw⟩, hBW, fun b hb' => ?_⟩
 ·rw [zFh pre htl, zM3 hlen, zC7, List.length_append, show min (pre.length + [x].length) 201 = m + 1 by simp; omega]
  exact hr2
 ·rw [List.length_append]
  exact ((hj _ (by omega) (by omega)).trans bC)
 ·have : b = w.heap.size + 5 \/ b = w.heap.size + 4 \/ b = w.heap.size + 6 := by simpa using hb'
  exact (hj b (by omega) (by omega)).trans (hk2 b (by omega) (by omega))
theorem zNp {S : Obj} (hgo : zHg ex w pre W) (hw : 12 <= w.heap.size) (hb1 : Below W.heap.size W w1) (h200 : ¬ pre.length <= 200) (htl : z2s x.1 = some st) :
  zHg ex w (pre ++ [x]) ((w1.setCell ⟨w.heap.size + 3, 0, none⟩ (E F ((pre.length : Int) + 1))).alloc S) /\ z32 w.heap.size [w.heap.size + 5, w.heap.size + 4, w.heap.size + 6] W ((w1.setCell ⟨w.heap.size + 3, 0, none⟩ (E F ((pre.length : Int) + 1))).alloc S) := by
 obtain ⟨bC, bR, bE, hB2, _, hk2⟩ := zF4 hb1 hgo S
 obtain ⟨⟨v, hv, hrow⟩, hall, _, _, _, hB, hsz, hT⟩ := hgo
 have hlen : ¬ (z3g (pre.map (·.1))).length <= 200 := by rw [z3q, List.length_map]; exact h200
 refine ⟨⟨⟨v, (hk2 _ (by omega) (by omega)).trans hv, ?_⟩, zLc hall htl, ?_, bR, bE, hB.trans hB2, Nat.le_trans hsz hB2.size, hT.on hB2 hw⟩, hB2, fun b hb' => ?_⟩
 ·rw [zFh pre htl, zOw hlen, List.length_append, show min (pre.length + [x].length) 201 = min pre.length 201 by simp; omega]
  exact (ownsRow_setCell_below (z8j hrow hb1) (a := ⟨w.heap.size + 3, 0, none⟩) (by show w.heap.size + 3 < w.heap.size + 7; omega) _).alloc S
 ·rw [List.length_append]; exact bC
 ·have : b = w.heap.size + 5 \/ b = w.heap.size + 4 \/ b = w.heap.size + 6 := by simpa using hb'
  exact hk2 b (by omega) (by omega)
end
theorem zD2 (ex : Ext) (w : World) (hw : 12 <= w.heap.size) : Stab (w.heap.size + 7) (w.heap.size + 4) (zHg ex w) := by
 rintro pre W W' row ⟨⟨v, hv, hrow⟩, hall, hC, hR, hE, hB, hsz, hT⟩ hg hr
 have hB' := zCg hg hr hB (by omega) (by omega)
 refine ⟨⟨v, z39 hg hr hv (by omega), zT3 hg hr hrow (by omega)⟩, hall, z39 hg hr hC (by omega), z39 hg hr hR (by omega), z39 hg hr hE (by omega), hB', Nat.le_trans hsz hg.size, ?_⟩
 refine hT.on (B := w.heap.size) ⟨hg.os, hg.tape, hg.output, hg.size, fun k hk => hg.block k (by omega) fun e => ?_⟩ hw
 rcases hr k e.symm with ⟨hb, _⟩ | hb
 ·omega
 ·omega
theorem zGc (w : World) (c : Code) : Stab (w.heap.size + 7) (w.heap.size + 4) (Left w c) := by
 rintro pre W W' row ⟨hc, pre0, x, p, hpre, hall, hx, hR, hE, hp7, hp, hB⟩ hg hr
 exact ⟨hc, pre0, x, p, hpre, hall, hx, z39 hg hr hR (by omega), z39 hg hr hE (by omega), hp7, z39 hg hr hp (by omega), zCg hg hr hB (by omega) (by omega)⟩
theorem zIf : ∀ (f : Nat) (t : ByteArray), 0 < (z1o f t).length
 | 0, t => by simp [z1o]
 | f + 1, t => by
  by_cases h : 0 <= semi t
  ·rw [z8i h]; simp
  ·rw [z8h h]; simp
def nth (xs : List St) (j : Nat) : St := xs[j]?.getD St.zero
theorem zTq (x : St) (xs : List St) (j : Nat) : nth (x :: xs) (j + 1) = nth xs j := by simp [nth]
theorem z4p (x : St) : x.cells.toList.length = 6 := rfl
theorem cells_at : ∀ (xs : List St) (i k : Nat), i < xs.length -> k < 6 -> (z1q xs)[i * 6 + k]? = (nth xs i).cells.toList[k]?
 | [], i, k, h, _ => by simp at h
 | x :: xs, 0, k, _, hk => by
  show (z1q (x :: xs))[0 * 6 + k]? = _
  rw [Nat.zero_mul, Nat.zero_add, show z1q (x :: xs) = x.cells.toList ++ z1q xs by simp [z1q], List.getElem?_append_left (by rw [z4p]; exact hk)]
  rfl
 | x :: xs, i + 1, k, h, hk => by
  rw [show z1q (x :: xs) = x.cells.toList ++ z1q xs by simp [z1q], List.getElem?_append_right (by rw [z4p]; omega), z4p, show (i + 1) * 6 + k - 6 = i * 6 + k by omega, cells_at xs i k (by simpa using h) hk, zTq]
theorem z6a {W : World} {base g n cap : Nat} {xs : List St} (h : W.ownsRow base 80 6 (.slice (some ⟨g, 0, none⟩) n cap) n (z1q xs)) (hl : xs.length = n) {i k : Nat} (hi : i < n) (hk : k < 6) : W.cell? ⟨g, 0 + i * 6 + k, none⟩ = (nth xs i).cells.toList[k]? := by
 rcases h.2 with ⟨hc, _⟩ | ⟨g', cap', cur, hc, _, hg, _, _, _, ht⟩
 ·cases hc
 ·cases hc
  rw [<- cells_at xs i k (by omega) hk, <- ht, List.getElem?_take_of_lt (by omega)]
  simp [World.cell?, hg]
theorem z7f {W : World} {base g n cap : Nat} {xs : List St} (h : W.ownsRow base 80 6 (.slice (some ⟨g, 0, none⟩) n cap) n (z1q xs)) (hl : xs.length = n) :
  z1l W g 0 n (fun j => (nth xs j).c) (fun j => (nth xs j).d) (fun j => (nth xs j).s) (fun j => (nth xs j).r) (fun j => (nth xs j).o) (fun j => (nth xs j).n) := fun i hi =>
 ⟨z6a h hl hi (k := 0) (by omega), z6a h hl hi (k := 1) (by omega), z6a h hl hi (k := 2) (by omega), z6a h hl hi (k := 3) (by omega), z6a h hl hi (k := 4) (by omega), z6a h hl hi (k := 5) (by omega)⟩
theorem zK9 {W : World} {base g n cap size : Nat} {e : TypeId} {xs : List Value} (h : W.ownsRow base e size (.slice (some ⟨g, 0, none⟩) n cap) n xs) : g < W.heap.size := by
 rcases h.2 with ⟨hc, _⟩ | ⟨g', cap', cur, hc, _, hg, _⟩
 ·cases hc
 ·cases hc
  exact (Array.getElem?_eq_some_iff.1 hg).1
def z3m (xs : List St) (j : Nat) : Int := z1j xs.length (fun j => (nth xs j).c) (fun j => (nth xs j).d) (fun j => (nth xs j).s) (fun j => (nth xs j).r) (fun j => (nth xs j).o) (fun j => (nth xs j).n) j
theorem zNx {W : World} {base g n cap : Nat} {xs : List St} (hrow : W.ownsRow base 80 6 (.slice (some ⟨g, 0, none⟩) n cap) n (z1q xs)) (hl : xs.length = n) (h1 : 0 < n) (h2 : n <= 200) (hno : ∀ j, j < n -> z3m xs j = 0) :
  Calls tP 50 #[.slice (some ⟨g, 0, none⟩) n cap] W fun e w1 => e = rT .nilIface /\ Below W.heap.size W w1 := by
 subst hl
 exact z4n hno (z7f hrow rfl) h1 h2 (zK9 hrow)
theorem zRg {W : World} {base g n cap i : Nat} {xs : List St} (hrow : W.ownsRow base 80 6 (.slice (some ⟨g, 0, none⟩) n cap) n (z1q xs)) (hl : xs.length = n) (h1 : 0 < n) (h2 : n <= 200) (hi : i < n) (hno : ∀ j, j < i -> z3m xs j = 0) (hf : z3m xs i ≠ 0) :
  Calls tP 50 #[.slice (some ⟨g, 0, none⟩) n cap] W fun e w1 => ∃ p, e = rT (.iface 150 (pT (some ⟨p, 0, none⟩))) /\ Below W.heap.size W w1 /\ p < w1.heap.size /\ w1.cell? ⟨p, 0, none⟩ = some (E F (z3m xs i)) /\ w1.cell? ⟨p, 1, none⟩ = some (E F i) := by
 subst hl
 exact zIt hi hno hf (z7f hrow rfl) h1 h2 (zK9 hrow)
def zLd (w : World) (s : ByteArray) (e : Ending) (W : World) : Prop :=
 Below w.heap.size w W /\
 ((∃ pre x post p, z0t s = pre ++ x :: post /\ (∀ y ∈ pre, (z2s y).isSome = true) /\ z2s x = none /\ e = rT (.tuple #[.slice none 0 0, .iface 150 (pT (some ⟨p, 0, none⟩))]) /\ p < W.heap.size /\ W.cell? ⟨p, 0, none⟩ = some (E F 3) /\ W.cell? ⟨p, 1, none⟩ = some (E F pre.length))
 \/ ((∀ y ∈ z0t s, (z2s y).isSome = true) /\
  ((200 < (z0t s).length /\ e = rT (.tuple #[.slice none 0 0, .iface 30 (E F 4)]))
  \/ ((z0t s).length <= 200 /\
   ((∃ i p, i < (z0t s).length /\ (∀ j, j < i -> z3m (z3g (z0t s)) j = 0) /\ z3m (z3g (z0t s)) i ≠ 0 /\ e = rT (.tuple #[.slice none 0 0, .iface 150 (pT (some ⟨p, 0, none⟩))]) /\ p < W.heap.size /\ W.cell? ⟨p, 0, none⟩ = some (E F (z3m (z3g (z0t s)) i)) /\ W.cell? ⟨p, 1, none⟩ = some (E F i))
   \/ ((∀ j, j < (z0t s).length -> z3m (z3g (z0t s)) j = 0) /\ ∃ g cap, e = rT (.tuple #[.slice (some ⟨g, 0, none⟩) (z0t s).length cap, .nilIface]) /\ W.ownsRow w.heap.size 80 6 (.slice (some ⟨g, 0, none⟩) (z0t s).length cap) (z0t s).length (z1q (z3g (z0t s)))))))))
section
variable {w1 : World} {B D : Nat} {v1 v2 u1 u2 : Value}
theorem z59 {t : TypeId} {u : Value} (h : Boxed w1 B t u) (hK : w1.heap[D]? = some (.deferred (some []))) : D ≠ B := by
 rintro rfl
 have h' : w1.heap[D]? = _ := h
 rw [hK] at h'; cases h'
theorem z41 (hR : Boxed w1 B 33 u1) (hE : Boxed w1 (B + 1) 26 u2) (hK : w1.heap[D]? = some (.deferred (some []))) : ((w1.setCell ⟨B, 0, none⟩ v1).setCell ⟨B + 1, 0, none⟩ v2).heap[D]? = some (.deferred (some [])) :=
 (Below.heap_setCell _ _ _ _ (z59 hE hK)).trans ((Below.heap_setCell _ _ _ _ (z59 hR hK)).trans hK)
theorem z4z {W : World} {k : Nat} {o : Obj} (h : k ≠ D) : (W.putObj D o).heap[k]? = W.heap[k]? := World.putObj_heap_other h
theorem zAl (hR : Boxed w1 B 33 u1) (hK : w1.heap[D]? = some (.deferred (some []))) : Boxed (((w1.setCell ⟨B, 0, none⟩ v1).setCell ⟨B + 1, 0, none⟩ v2).putObj D (.deferred none)) B 33 v1 :=
 (z4z (z59 hR hK).symm).trans (Boxed.other_box (hR.set v1) (by omega) _)
theorem z8k (hE : Boxed w1 (B + 1) 26 u2) (hK : w1.heap[D]? = some (.deferred (some []))) : Boxed (((w1.setCell ⟨B, 0, none⟩ v1).setCell ⟨B + 1, 0, none⟩ v2).putObj D (.deferred none)) (B + 1) 26 v2 :=
 (z4z (z59 hE hK).symm).trans ((Boxed.other_box hE (by omega) _).set v2)
theorem zPp {k : Nat} (h1 : k ≠ B) (h2 : k ≠ B + 1) (h3 : k ≠ D) : (((w1.setCell ⟨B, 0, none⟩ v1).setCell ⟨B + 1, 0, none⟩ v2).putObj D (.deferred none)).heap[k]? = w1.heap[k]? :=
 (z4z h3).trans ((Below.heap_setCell _ _ _ _ h2).trans (Below.heap_setCell _ _ _ _ h1))
theorem zAm {w : World} (hB : Below w.heap.size w w1) (hR : Boxed w1 w.heap.size 33 u1) (hE : Boxed w1 (w.heap.size + 1) 26 u2) (hD : w.heap.size <= D) (hK : w1.heap[D]? = some (.deferred (some []))) : Below w.heap.size w (((w1.setCell ⟨w.heap.size, 0, none⟩ v1).setCell ⟨w.heap.size + 1, 0, none⟩ v2).putObj D (.deferred none)) :=
 ((hB.setCell (Nat.le_refl _) _).setCell (by show w.heap.size <= w.heap.size + 1; omega) _).trans (belowK_b (w := w) (Nat.le_refl _) _ D _ _ hD (z41 hR hE hK) rfl rfl)
theorem zHb {W W' : World} {k i : Nat} (h : W'.heap[k]? = W.heap[k]?) : W'.cell? ⟨k, i, none⟩ = W.cell? ⟨k, i, none⟩ := by simp [World.cell?, h]
theorem zPq {p : Nat} {x : Int} (hR : Boxed w1 B 33 (.slice none 0 0)) (hE : Boxed w1 (B + 1) 26 .nilIface) (hK : w1.heap[D]? = some (.deferred (some []))) (hc : w1.cell? ⟨p, 0, none⟩ = some (E F x)) : (((w1.setCell ⟨B, 0, none⟩ v1).setCell ⟨B + 1, 0, none⟩ v2).putObj D (.deferred none)).heap[p]? = w1.heap[p]? := by
 refine zPp ?_ ?_ ?_
 ·rintro rfl; rw [hR.cell] at hc; cases hc
 ·rintro rfl; rw [hE.cell] at hc; cases hc
 ·rintro rfl; simp [World.cell?, hK] at hc
theorem zT4 (w : World) (D : Nat) (o : Obj) : (w.putObj D o).heap.size = w.heap.size := by simp [World.putObj]
theorem z4l {tmps : Array Value} {W : World} {t1 t2 : TypeId} (h2 : tmps[2]?.getD undef = pT (some ⟨B, 0, none⟩)) (h3 : tmps[3]?.getD undef = pT (some ⟨B + 1, 0, none⟩)) (b1 : Boxed W B t1 v1) (b2 : Boxed W (B + 1) t2 v2) : (results Tryz.f34 tmps).run tP W = .ok (.tuple #[v1, v2]) W := by
 have c1 := b1.cell
 have c2 := b2.cell
 simp [results, Tryz.results34, go_sem, h2, h3, c1, c2]
end
section
theorem zTg (he : ∀ w, ex.holds w -> z36 w) (hu : ∀ w, ex.holds w -> Lib.Utf8Tabs 4 5 w) (s : ByteArray) (hs : s.size <= 100000) (w : World) (hT : Tabs ex w) :
  Calls tP 34 #[.string s] w fun e W' => zLd w s e W' := by
 refine (callsIn_wide (n := 8)).1 ?_
 have hF := Fine.start hT
 have hf1 : Fence.wide.fn 48 := trivial
 obtain ⟨i0, hi, hz0, hz1, hz2⟩ := info_parts Tryz.infoStep
 refine callsIn_of_wp_marks Tryz.func34 rfl trivial ?_ rfl
 simp only [Tryz.ntmps34, List.size_toArray, lQ, List.length_nil, Nat.reduceAdd, Nat.reduceSub, Array.replicate_succ, Array.replicate_zero, List.push_toArray, List.append_toArray, List.nil_append, List.cons_append]
 gi_wp2_with (gi_at_call 48; refine (callsIn_wide.2 (zFm _ _)).mono ?_; rintro e w' ⟨rfl, rfl⟩)
 obtain ⟨W0, hW0⟩ : ∃ W0, (((((((w.alloc (cT #[.slice none 0 0] 33)).alloc (cT #[.nilIface] 26)).alloc (cT #[.slice none 0 0] 33)).alloc (cT #[E F 0] 3)).alloc (cT #[.string s] 9)).alloc (cT #[.string ⟨#[59]⟩] 9)).alloc (cT #[E F 0] 3)) = W0 := ⟨_, rfl⟩
 have hz7 : W0.heap.size = w.heap.size + 7 := by rw [<- hW0]; simp
 have hF7 : Fine ex w W0 := by rw [<- hW0]; exact ((((((hF.alloc _).alloc _).alloc _).alloc _).alloc _).alloc _).alloc _
 have b0 : Boxed W0 w.heap.size 33 (.slice none 0 0) := by rw [<- hW0]; exact (((((Boxed.new w _ _).alloc _).alloc _).alloc _).alloc _).alloc _ |>.alloc _
 have b1 : Boxed W0 (w.heap.size + 1) 26 .nilIface := by
  rw [<- hW0]
  have h := Boxed.new (w.alloc (cT #[.slice none 0 0] 33)) 26 .nilIface
  simp only [World.size_alloc] at h
  exact ((((h.alloc _).alloc _).alloc _).alloc _).alloc _
 have b2 : Boxed W0 (w.heap.size + 2) 33 (.slice none 0 0) := by
  rw [<- hW0]
  have h := Boxed.new ((w.alloc (cT #[.slice none 0 0] 33)).alloc (cT #[.nilIface] 26)) 33 (.slice none 0 0)
  simp only [World.size_alloc] at h
  exact (((h.alloc _).alloc _).alloc _).alloc _
 have b3 : Boxed W0 (w.heap.size + 3) 3 (E F 0) := by
  rw [<- hW0]
  have h := Boxed.new (((w.alloc (cT #[.slice none 0 0] 33)).alloc (cT #[.nilIface] 26)).alloc (cT #[.slice none 0 0] 33)) 3 (E F 0)
  simp only [World.size_alloc] at h
  exact ((h.alloc _).alloc _).alloc _
 have b4 : Boxed W0 (w.heap.size + 4) 9 (.string s) := by
  rw [<- hW0]
  have h := Boxed.new ((((w.alloc (cT #[.slice none 0 0] 33)).alloc (cT #[.nilIface] 26)).alloc (cT #[.slice none 0 0] 33)).alloc (cT #[E F 0] 3)) 9 (.string s)
  simp only [World.size_alloc] at h
  exact (h.alloc _).alloc _
 have b5 : Boxed W0 (w.heap.size + 5) 9 (.string ⟨#[59]⟩) := by
  rw [<- hW0]
  have h := Boxed.new (((((w.alloc (cT #[.slice none 0 0] 33)).alloc (cT #[.nilIface] 26)).alloc (cT #[.slice none 0 0] 33)).alloc (cT #[E F 0] 3)).alloc (cT #[.string s] 9)) 9 (.string ⟨#[59]⟩)
  simp only [World.size_alloc] at h
  exact h.alloc _
 have b6 : Boxed W0 (w.heap.size + 6) 3 (E F 0) := by
  rw [<- hW0]
  have h := Boxed.new ((((((w.alloc (cT #[.slice none 0 0] 33)).alloc (cT #[.nilIface] 26)).alloc (cT #[.slice none 0 0] 33)).alloc (cT #[E F 0] 3)).alloc (cT #[.string s] 9)).alloc (cT #[.string ⟨#[59]⟩] 9)) 3 (E F 0)
  simp only [World.size_alloc] at h
  exact h
 rw [hW0]
 clear hW0
 simp only [Nat.add_assoc, Nat.reduceAdd]
 have hroom := hT.room
 have hseq : zSe (8 - 1) tP 85 #[pT (some ⟨w.heap.size + 5, 0, none⟩), pT (some ⟨w.heap.size + 4, 0, none⟩), pT (some ⟨w.heap.size + 6, 0, none⟩)] (fun x : z3e => #[Value.string x.1]) (z32 w.heap.size [w.heap.size + 5, w.heap.size + 4, w.heap.size + 6])
   (fun ys => ys.map (·.1) = z0t s) (fun pre => pre.map (·.1) <+: z0t s) (z0t s).length (w.heap.size + 4) W0 := fun l J Jx W hW hJ _ hY h0 =>
  zP6 (8 - 1) (by omega) l (w.heap.size + 5) (w.heap.size + 4) (w.heap.size + 6) w.heap.size (by omega) (by omega) s hs J Jx W hJ hY ((hW.block _ (by omega)).trans b5) ((hW.block _ (by omega)).trans b4) ((hW.block _ (by omega)).trans b6) h0
 refine zMi (by omega) rfl (enters_of Tryz.func85 (by kernel_rfl) rfl) hseq (by omega) z32.trans (z32.put (by omega) (by simp; omega)) (fun _ => rfl) (zHg ex w) (Left w)
  (by rw [hz7]; exact (zD2 ex w hroom).own) (zD2 ex w hroom).abide (fun c => by rw [hz7]; exact (zGc w c).own) (fun c => (zGc w c).abide)
  ⟨⟨_, b2, World.ownsRow_nil _ _ _ _⟩, (fun x hx => by cases hx), b3, b0, b1, hF7.bel, by omega, hF7.tabs⟩
  (fun x => { tmps := #[.string s, undef, pT (some ⟨w.heap.size, 0, none⟩), pT (some ⟨w.heap.size + 1, 0, none⟩), pT (some ⟨w.heap.size + 2, 0, none⟩), pT (some ⟨w.heap.size + 3, 0, none⟩), .string x.1, undef, undef, undef, .string s,
   .func (.func 85) #[] #[pT (some ⟨w.heap.size + 5, 0, none⟩), pT (some ⟨w.heap.size + 4, 0, none⟩), pT (some ⟨w.heap.size + 6, 0, none⟩)], .string x.1, undef, undef, undef, undef, undef, undef, undef, undef, undef, undef, undef, undef, undef, undef, undef, undef, undef, undef, undef, undef, undef, undef, undef, undef, undef, undef], defers := [] }) ?assign ?body ?done ?stop
 case assign =>
  intro l x W K hK
  gi_wp2
  exact hK
 case body =>
  rintro l pre x W ⟨⟨v, hv, hrow⟩, hall, hC, hR, hE, hB, hsz, hTW⟩ hlt
  have hpl := z7i s.size s
  have hlt' : pre.length <= 100001 := by
   have h : pre.length < (z1o s.size s).length := hlt
   omega
  have hfr : Fence.wide.fn 49 := trivial
  have cV := hv.cell
  have mixed : Tryz.prog.follows Departure.mixedOrders = true := by kernel_rfl
  cases htl : z2s x.1 with
  | none =>
   have HS : Hid (zA2 (z4x ((z0z x.1).take 5)) = .tuple #[.agg St.zero.cells, .bool false]) := by
    show zA2 (z2s x.1) = _
    rw [htl]; rfl
   gi_wp2_with (gi_at_call 49; refine (CallsIn.inRound l (callsIn_wide.2 (zAc he hu x.1 x.2 _ hTW))).mono ?_; rintro e w1 ⟨rfl, hb1⟩; rw [HS.out]; simp only [St.cells, St.zero]; have hC1 := z18 hC hb1; have hR1 := z18 hR hb1; have hE1 := z18 hE hb1; have cC := hC1.cell; have cR := hR1.cell; have fR := hR1.frozen; have cE := hE1.cell; have fE := hE1.frozen; have l1 := hC1.lt; have l2 := hR1.lt; have l3 := hE1.lt)
   gi_region_o
   all_goals gi_wp2
   all_goals (try go_bits)
   all_goals exact zU2 hb1 hall htl hR hE hB hsz
  | some st =>
   have HS : Hid (zA2 (z4x ((z0z x.1).take 5)) = .tuple #[.agg st.cells, .bool true]) := by
    show zA2 (z2s x.1) = _
    rw [htl]; rfl
   have hgo : zHg ex w pre W := ⟨⟨v, hv, hrow⟩, hall, hC, hR, hE, hB, hsz, hTW⟩
   obtain ⟨ao, cp, rfl⟩ := zCp hrow
   by_cases h200 : pre.length <= 200
   ·obtain ⟨m, hm⟩ : ∃ m, m = min pre.length 201 := ⟨_, rfl⟩
    have hm' : m = pre.length := by omega
    rw [<- hm] at hrow hv cV
    have x1 : decide ((m : Int) <= 200) = true := by simp; omega
    have hm2 : m <= 200 := by omega
    have HM : Hid (m = pre.length) := hm'
    clear hm hm'
    gi_wp2_with (first
     | (gi_at_call 49; refine (CallsIn.inRound l (callsIn_wide.2 (zAc he hu x.1 x.2 _ hTW))).mono ?_; rintro e w1 ⟨rfl, hb1⟩; rw [HS.out]; simp only [St.cells]; have hC1 := z18 hC hb1; have hV1 := z18 hv hb1; have cC := hC1.cell; have fC := hC1.frozen; have cV1 := hV1.cell; have l1 := hC1.lt; have l2 := hV1.lt; have hV2 := (Boxed.other_box hV1 (c := w.heap.size + 3) (by omega) (E F ((pre.length : Int) + 1))).alloc (cT st.cells 80); have hrow2 := (ownsRow_setCell_below (z8j hrow hb1) (a := ⟨w.heap.size + 3, 0, none⟩) (by show w.heap.size + 3 < w.heap.size + 7; omega) (E F ((pre.length : Int) + 1))).alloc (cT st.cells 80))
     | (gi_at_builtin; refine wpListIn_append_own _ rfl _ _ 33 rfl (w.heap.size + 7) 80 i0 (.agg St.zero.cells) 6 48 Tryz.underlying33 hi hz0 hz1 hz2 rfl (by decide) _ _ _ rfl (hrow2.alloc _) ⟨w1.heap.size + 1, 0, none⟩ 1 1 st.cells.toList rfl rfl (zRi (by simp)) (zP9 st) (by unfold maxLen; omega) (by omega) (by have := hb1.size; simp; omega) ?_; intro v' w3 hown' hgrow _; obtain ⟨g', cap', rfl⟩ := zCq hown' (by omega); obtain ⟨hv1, hv2, hr2, hk2, hb2, hj2⟩ := zNw hV2 (by omega) (by have := hb1.size; rw [World.size_alloc, z3i]; omega) hrow2 hown' hgrow; have hc1 := hv1.cell; have hf1 := hv1.frozen)
     | gi_in)
    obtain ⟨G, K⟩ := zQp hgo hroom hb1 h200 htl HM.out hv2 hr2 hj2 hb2
    exact ⟨((zF4 hb1 hgo _).2.2.2.2.1.trans hk2).from _, K, G⟩
   ·obtain ⟨m, hm⟩ : ∃ m, m = min pre.length 201 := ⟨_, rfl⟩
    rw [<- hm] at hv cV
    have x1 : decide ((m : Int) <= 200) = false := by simp; omega
    clear hm
    gi_wp2_with (gi_at_call 49; refine (CallsIn.inRound l (callsIn_wide.2 (zAc he hu x.1 x.2 _ hTW))).mono ?_; rintro e w1 ⟨rfl, hb1⟩; rw [HS.out]; simp only [St.cells]; have hC1 := z18 hC hb1; have hV1 := z18 hv hb1; have cC := hC1.cell; have fC := hC1.frozen; have cV1 := hV1.cell; have l1 := hC1.lt; have l2 := hV1.lt)
    obtain ⟨G, K⟩ := zNp (S := cT st.cells 80) hgo hroom hb1 h200 htl
    exact ⟨(zF4 hb1 hgo _).2.2.2.2.1.from _, K, G⟩
 case done =>
  rintro D ys W hD hS ⟨⟨v, hv, hrow⟩, hall, hC, hR, hE, hB, hsz, hTW⟩ hK
  have hf6 : Fence.wide.fn 50 := trivial
  have cV := hv.cell
  have cR := hR.cell
  have fR := hR.frozen
  have cE := hE.cell
  have fE := hE.frozen
  have hall' : ∀ y ∈ z0t s, (z2s y).isSome = true := by
   rw [<- hS]
   intro y hy
   obtain ⟨x, hx, rfl⟩ := List.mem_map.1 hy
   exact hall x hx
  have hlen : (z0t s).length = ys.length := by rw [<- hS, List.length_map]
  by_cases h200 : ys.length <= 200
  ·have hpos : 0 < ys.length := by rw [<- hlen]; exact zIf _ _
   rw [hS, Nat.min_eq_left (by omega), List.take_of_length_le (by rw [z3q]; omega), <- hlen] at hrow
   have hl := z3q (z0t s)
   obtain ⟨n, hn⟩ : ∃ n, n = (z0t s).length := ⟨_, rfl⟩
   obtain ⟨xs, hxs⟩ : ∃ xs, xs = z3g (z0t s) := ⟨_, rfl⟩
   rw [<- hn, <- hxs] at hrow hl
   obtain ⟨g, cp, rfl⟩ := zCq hrow (by omega)
   have hn1 : 0 < n := by omega
   have hn2 : n <= 200 := by omega
   have HN : Hid (n = (z0t s).length) := hn
   have HX : Hid (xs = z3g (z0t s)) := hxs
   clear hn hxs hS hlen
   rcases first_fault (z3m xs) n with hno | ⟨i, hi, hno, hf⟩
   ·gi_wp2_with (gi_at_call 50; refine (callsIn_wide.2 (zNx hrow hl hn1 hn2 hno)).mono ?_; rintro e w1 ⟨rfl, hb1⟩; have hR1 := z18 hR hb1; have hE1 := z18 hE hb1; have hV1 := z18 hv hb1; have cR1 := hR1.cell; have fR1 := hR1.frozen; have cE1 := hE1.cell; have fE1 := hE1.frozen; have cV1 := hV1.cell)
    have hK1 := (hb1.block D (Array.getElem?_eq_some_iff.1 hK).1).trans hK
    refine ⟨by simp, .inl ⟨_, _, rfl, run_takeDeferred (z41 hR1 hE1 hK1), ?_⟩⟩
    refine ⟨_, z4l rfl rfl (zAl hR1 hK1) (z8k hE1 hK1), zAm (hB.trans (hb1.mono (by omega))) hR1 hE1 (by omega) hK1, .inr ⟨hall', .inr ⟨by rw [<- HN.out]; exact hn2, .inr ?_⟩⟩⟩
    rw [<- HN.out, <- HX.out]
    exact ⟨hno, g, cp, rfl, zMo (ownsRow_putObj (ownsRow_setCell_below (ownsRow_setCell_below (z8j hrow hb1) (a := ⟨w.heap.size, 0, none⟩) (by show w.heap.size < w.heap.size + 7; omega) _) (a := ⟨w.heap.size + 1, 0, none⟩) (by show w.heap.size + 1 < w.heap.size + 7; omega) _) _ (z41 hR1 hE1 hK1) rfl) (by omega)⟩
   ·gi_wp2_with (gi_at_call 50; refine (callsIn_wide.2 (zRg hrow hl hn1 hn2 hi hno hf)).mono ?_; rintro e w1 ⟨p, rfl, hb1, hp, hc0, hc1⟩; have hR1 := z18 hR hb1; have hE1 := z18 hE hb1; have cR1 := hR1.cell; have fR1 := hR1.frozen; have cE1 := hE1.cell; have fE1 := hE1.frozen)
    have hK1 := (hb1.block D (Array.getElem?_eq_some_iff.1 hK).1).trans hK
    refine ⟨by simp, .inl ⟨_, _, rfl, run_takeDeferred (z41 hR1 hE1 hK1), ?_⟩⟩
    have hpk := zPq (v1 := .slice none 0 0) (v2 := .iface 150 (pT (some ⟨p, 0, none⟩))) hR1 hE1 hK1 hc0
    refine ⟨_, z4l rfl rfl (zAl hR1 hK1) (z8k hE1 hK1), zAm (hB.trans (hb1.mono (by omega))) hR1 hE1 (by omega) hK1, .inr ⟨hall', .inr ⟨by rw [<- HN.out]; exact hn2, .inl ?_⟩⟩⟩
    rw [<- HN.out, <- HX.out]
    exact ⟨i, p, hi, hno, hf, rfl, by rw [zT4, z3i, z3i]; exact hp, (zHb hpk).trans hc0, (zHb hpk).trans hc1⟩
  ·obtain ⟨ao, cp, rfl⟩ := zCp hrow
   obtain ⟨m, hm⟩ : ∃ m, m = min ys.length 201 := ⟨_, rfl⟩
   rw [<- hm] at hv cV
   have hm2 : m < 1 \/ 200 < m := by omega
   clear hm
   gi_wp2_with (gi_at_call 50; refine (callsIn_wide.2 (z7l _ _ _ hm2 _)).mono ?_; rintro e w1 ⟨rfl, rfl⟩)
   refine ⟨by simp, .inl ⟨_, _, rfl, run_takeDeferred (z41 hR hE hK), ?_⟩⟩
   exact ⟨_, z4l rfl rfl (zAl hR hK) (z8k hE hK), zAm hB hR hE (by omega) hK, .inr ⟨hall', .inl ⟨by omega, rfl⟩⟩⟩
 case stop =>
  rintro D c pre W hD ⟨post, hSp⟩ ⟨rfl, pre0, x, p, rfl, hall, hx, hR, hE, hp7, hp, hB⟩ hK
  gi_wp2
  refine ⟨by simp, .inl ⟨_, _, rfl, run_takeDeferred hK, ?_⟩⟩
  have hpD : p ≠ D := by
   rintro rfl
   rw [hK] at hp; cases hp
  have hpp : (W.putObj D (.deferred none)).heap[p]? = _ := (z4z hpD).trans hp
  refine ⟨_, z4l rfl rfl ((z4z (z59 hR hK).symm).trans hR) ((z4z (z59 hE hK).symm).trans hE), hB.trans (belowK_b (w := w) (Nat.le_refl _) W D _ _ (by omega) hK rfl rfl), .inl ⟨pre0.map (·.1), x.1, post, p, ?_, ?_, hx, rfl, (Array.getElem?_eq_some_iff.1 hpp).1, ?_, ?_⟩⟩
  ·rw [<- hSp]; simp
  ·intro y hy
   obtain ⟨z, hz, rfl⟩ := List.mem_map.1 hy
   exact hall z hz
  ·simp [World.cell?, hpp]
  ·simp [World.cell?, hpp]
end
end
end Go.Proofs.YtbimlalhodibjaaGreatDoor
