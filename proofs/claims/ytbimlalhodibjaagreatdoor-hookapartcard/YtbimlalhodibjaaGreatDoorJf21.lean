/-
 What a chain's Run returns, and what it writes: the programs' tables. Conditions: the desk lies in memory; its programs were let in; numbers are of 64 bits. Where the first program stands of which something is so: its rank is greater than one; its number is one. Conditions: the desk lies in memory. All ways of a list of steps, on plain numbers: what stands elsewhere makes no difference, one look more neither; and where more is known at the z4t, what went well goes well. No program is named here. Conditions: the steps are right. Lists of steps, one behind the other: where they lie, that nothing is wrong with them; a jump ahead of a list, over steps that are right by themselves; a number that is made, and lost. Conditions: the steps are right; numbers are of 64 bits.
-/
import Derived.Test.YtbimlalhodibjaaGreatDoorJf20
import Derived.Deep.DeepCutAuto
import Derived.Deep.DeepMust
import Derived.Test.YtbimlalhodibjaaGreatDoorJf15
import Derived.Test.YtbimlalhodibjaaGreatDoorJf4
set_option maxHeartbeats 40000000
open Go.Value renaming int → A
open Go.IntKind renaming i64 → E
open Go.RowKit.Below renaming alloc → bA, setCell → bS, drew → bD, refl → bF
set_option maxRecDepth 1000000
set_option linter.defProp false
set_option linter.unusedVariables false
set_option linter.unusedSimpArgs false
open Go.Ending renaming returned → rT
open Go.Value renaming pointer → pT
open Go.Obj renaming cells → cT
open Go.Proofs.Tryz renaming prog → tP
open List renaming length_cons → lQ
namespace Go.Proofs.YtbimlalhodibjaaGreatDoor
section
open Go.ChangeShapes Go.WideShapes Go.ChangeAt Go.RowKit
attribute [local simp] z00 z0d z07
theorem z76 {w : World} {B k i j : Nat} {d : Dsk} (hD : z0k w B d) (hk : k < 3) (hi : i < 8) (hj : j < 19) : w.cell? ⟨B, k * 317 + i * 19 + j, none⟩ = some (zAi ((d.g k).ps.getD i pg0) j) := by
 rw [show k * 317 + i * 19 + j = k * 317 + (i * 19 + j) by omega, hD.gate hk (by omega)]
 unfold z1f z2u
 rw [if_pos (by omega), if_pos (by omega), show (i * 19 + j) / 19 = i by omega, show (i * 19 + j) % 19 = j by omega]
theorem z2n {w : World} {B k : Nat} {d : Dsk} (hD : z0k w B d) (hk : k < 3) : w.cell? ⟨B, k * 317 + 152, none⟩ = some (A E ((d.g k).ps.length : Int)) := hD.gate hk (by decide)
theorem zL0 {w : World} {B k i : Nat} {d : Dsk} (hD : z0k w B d) (hk : k < 3) (hi : i < 8) : w.rangeAt B (k * 317 + i * 19 + 3) (z27 ((d.g k).ps.getD i pg0).tab).toList := fun j v hv => by
 have hj : j < 16 := by have := (List.getElem?_eq_some_iff.1 hv).1; simpa [z27] using this
 have e := zFj ((d.g k).ps.getD i pg0).tab hj
 rw [List.getD_eq_getElem?_getD, hv] at e
 have e' : v = A E (((d.g k).ps.getD i pg0).tab j) := e
 rw [show k * 317 + i * 19 + 3 + j = k * 317 + i * 19 + (3 + j) by omega, z76 hD hk hi (by omega), e']
 unfold zAi
 rw [if_neg (by omega), if_neg (by omega), if_neg (by omega), show 3 + j - 3 = j by omega]
theorem zUo (d : Dsk) {k i : Nat} (K : Nat -> Int) (hk : k < 3) (hi : i < (d.g k).ps.length) (h8 : (d.g k).ps.length <= 8) (j : Nat) (_ : j < 952) :
  (d.put k { d.g k with ps := (d.g k).ps.set i { (d.g k).ps.getD i pg0 with tab := K } }).cell j = if k * 317 + i * 19 + 3 <= j /\ j < k * 317 + i * 19 + 3 + (z27 K).toList.length then (z27 K).toList.getD (j - (k * 317 + i * 19 + 3)) undef else d.cell j := by
 have hl : (z27 K).toList.length = 16 := rfl
 rw [hl, z6l d _ hk]
 by_cases c : k * 317 <= j /\ j < k * 317 + 317
 ·rw [if_pos c]
  obtain ⟨x, rfl⟩ : ∃ x, j = k * 317 + x := ⟨j - k * 317, by omega⟩
  rw [Nat.add_sub_cancel_left, z2l d hk (by omega)]
  unfold z1f
  dsimp only
  by_cases c1 : x < 154
  ·rw [if_pos c1, if_pos c1]
   unfold z2u
   by_cases c2 : x < 152
   ·rw [if_pos c2, if_pos c2, List.getD_eq_getElem?_getD, List.getElem?_set]
    by_cases c3 : i = x / 19
    ·rw [if_pos c3, if_pos hi]
     unfold zAi
     dsimp only [Option.getD_some]
     by_cases c4 : x % 19 < 3
     ·rw [if_neg (show ¬ (k * 317 + i * 19 + 3 <= k * 317 + x /\ k * 317 + x < k * 317 + i * 19 + 3 + 16) by omega), c3]
      rcases (show x % 19 = 0 \/ x % 19 = 1 \/ x % 19 = 2 by omega) with z | z | z <;> rw [z] <;> rfl
     ·rw [if_pos (show k * 317 + i * 19 + 3 <= k * 317 + x /\ k * 317 + x < k * 317 + i * 19 + 3 + 16 by omega), if_neg (show ¬ x % 19 = 0 by omega), if_neg (show ¬ x % 19 = 1 by omega), if_neg (show ¬ x % 19 = 2 by omega), show k * 317 + x - (k * 317 + i * 19 + 3) = x % 19 - 3 by omega, zFj K (by omega)]
    ·rw [if_neg c3, if_neg (show ¬ (k * 317 + i * 19 + 3 <= k * 317 + x /\ k * 317 + x < k * 317 + i * 19 + 3 + 16) by omega), List.getD_eq_getElem?_getD]
   ·rw [if_neg c2, if_neg c2, List.length_set, if_neg (show ¬ (k * 317 + i * 19 + 3 <= k * 317 + x /\ k * 317 + x < k * 317 + i * 19 + 3 + 16) by omega)]
  ·rw [if_neg c1, if_neg c1, if_neg (show ¬ (k * 317 + i * 19 + 3 <= k * 317 + x /\ k * 317 + x < k * 317 + i * 19 + 3 + 16) by omega)]
 ·rw [if_neg c, if_neg (show ¬ (k * 317 + i * 19 + 3 <= j /\ j < k * 317 + i * 19 + 3 + 16) by omega)]
theorem zPd (d : Dsk) (k : Nat) (x y : Gt) : (d.put k x).put k y = d.put k y := by
 unfold Dsk.put
 congr 1
 funext i
 dsimp only
 by_cases h : i = k
 ·rw [if_pos h, if_pos h]
 ·rw [if_neg h, if_neg h, if_neg h]
theorem zCn (d : Dsk) (k : Nat) (x : Gt) : (d.put k x).g k = x := if_pos rfl
theorem zTh (d : Dsk) (k : Nat) : d.put k (d.g k) = d := by
 unfold Dsk.put
 cases d with
 | mk g r =>
  congr 1
  funext i
  dsimp only
  by_cases h : i = k
  ·rw [if_pos h, h]
  ·rw [if_neg h]
theorem zW0 {α : Type} (l : List α) (x y : α) (r : List α) : (l ++ x :: r).set l.length y = l ++ y :: r := by
 rw [List.set_append_right _ _ (Nat.le_refl _), Nat.sub_self]; rfl
theorem zEm {α : Type} (l : List α) (x z : α) (r : List α) : (l ++ x :: r).getD l.length z = x := by
 rw [List.getD_eq_getElem?_getD, List.getElem?_append_right (Nat.le_refl _), Nat.sub_self]; rfl
structure RunSt (w : World) (B k : Nat) (d : Dsk) (T : Nat -> Int) (time : Int) (i : Nat) (wr : World) : Prop where
 ex : ∃ pre rest s vo, pre.length = i /\ pre.length + rest.length = (d.g k).ps.length /\ z08 T time (d.g k).ps sd0 = ((z08 T time rest s).1, pre ++ (z08 T time rest s).2) /\ Kept B w wr /\ z0k wr B (d.put k { d.g k with ps := pre ++ rest }) /\ wr.heap[w.heap.size]? = some (cT (z0o T) 34 (0, 0)) /\ wr.heap[w.heap.size + 1]? = some (cT #[A E 0, A E 0, .slice none 0 0, A E 0] 75 (0, 0)) /\ wr.heap[w.heap.size + 1 + 1]? = some (cT #[A E s.bf, A E s.num, vo, A E s.steps] 75 (0, 0)) /\ wr.ownsRow (w.heap.size + 1 + 1 + 1) 2 1 vo s.out.length (s.out.map (Value.int .i64)) /\ (∀ p, p ∈ rest -> p ∈ (d.g k).ps) /\ s.out.length <= i * 50 /\ 0 <= s.steps /\ s.steps <= i * 200
theorem zRp {w0 w : World} {F : List (Nat × Obj)} {g : Nat} (h : Blk w0 F w) (hg : w0.heap.size <= g) (hF : ∀ x, x ∈ F -> x.1 < w0.heap.size) (cs : Array Value) : Blk w0 F (w.setRow g cs) :=
 ⟨z06 h.1 hg cs, fun x hx => (setRow_other w g x.1 cs (by have := hF x hx; omega)).trans (h.2 x hx)⟩
theorem z7j {w : World} {b b' g : Nat} {e : TypeId} {z : Nat} {v : Value} {n : Nat} {xs : List Value} {cs : Array Value} (h : w.ownsRow b e z v n xs) (hb : b' <= b) (hne : v.ownBlock = some g -> False) : (w.setRow g cs).ownsRow b' e z v n xs := by
 have h1 : w.ownsRow b' e z v n xs := by
  refine ⟨h.1, h.2.imp id fun x => ?_⟩
  obtain ⟨g', cap, cur, e1, e2, e3⟩ := x
  exact ⟨g', cap, cur, e1, by omega, e3⟩
 exact h1.kept (row := some g) ⟨rfl, rfl, rfl, by simp [World.setRow], fun k _ hk => setRow_other w g k cs (fun e => hk (by rw [e]))⟩ (Or.inr hne)
theorem zKa {w : World} {b : Nat} {e : TypeId} {z : Nat} {v : Value} {n : Nat} {xs : List Value} {r : Rn} (h : w.ownsRow b e z v n xs) : (rnCs r v).all (·.oneCell') = true := by
 rcases rowShape h with ⟨rfl, -⟩ | ⟨g, cap, rfl⟩ <;> kernel_rfl
theorem Tryz.info55 : (Tryz.prog.info? 55).map (·.size) = some 16 := by kernel_rfl
theorem zN9 {o : Oper} {u : Act} {x : Operand} {W : World} {B q : Nat} {K : Nat -> Int} (hc : W.rangeAt B q (z27 K).toList) (ho : o.op = .load 55 x) (hx : u.eval x = pT (some ⟨B, q, none⟩)) : (execOp u.eval o).run tP W = .ok (.value (.agg (z27 K))) W := by
 have hl := run_loadVar_mid (P := tP) W B q 55 (z27 K).toList _ hc Tryz.underlying55 rfl Tryz.info55
 rw [Array.toArray_toList] at hl
 unfold execOp
 simp only [ho, hx, Instr.loadAt, Instr.sureAddr, Sem.run_bind, Sem.run_pure, Result.andThen_ok, hl]
def SdSt (B g : Nat) (f : Nat -> Value) (o : Obj) (V : World) : Prop := FnAt V B f /\ V.heap[g]? = some o
theorem zFn {B g S i : Nat} {f : Nat -> Value} {o : Obj} {V : World} (h : SdSt B g f o V) (h1 : B ≠ S) (h2 : g ≠ S) (v : Value) : SdSt B g f o (V.setCell ⟨S, i, none⟩ v) := ⟨FnAt.block h.1 (heap_setCell_other V ⟨S, i, none⟩ B v h1), (heap_setCell_other V ⟨S, i, none⟩ g v h2).trans h.2⟩
theorem Tryz.infoSaid : (Tryz.prog.info? 75).map (·.size) = some 4 := by kernel_rfl
theorem zAa (tmps : Array Value) (w' : World) (g : Nat) (cs : Array Value) (h2 : tmps.getD 6 undef = pT (some ⟨g, 0, none⟩)) (hg : w'.heap[g]? = some (cT cs 75 (0, 0))) (hs : cs.size = 4) :
  (results Tryz.f30 tmps).run tP w' = .ok (.agg cs) w' := by
 have h2' : tmps[6]?.getD undef = pT (some ⟨g, 0, none⟩) := by simpa using h2
 have hl := run_loadVar_row (P := tP) w' g 75 75 cs (0, 0) _ hg Tryz.underlying75 rfl (by rw [Tryz.infoSaid, hs])
 simp [results, Tryz.results30, asAddr, h2', hl]
theorem zFo {w w1 : World} {B : Nat} (h : Kept B w w1) (cs : Array Value) : Kept B w (w1.setRow (w.heap.size + 1) cs) := ⟨h.os, h.tape, h.output, by simpa [World.setRow] using h.size, fun i hi hne => (setRow_other w1 _ _ _ (by omega)).trans (h.block i hi hne)⟩
theorem zRk (d : Dsk) {k i : Nat} (pre : List Pg) (p : Pg) (rest : List Pg) (R : Rn) (hk : k < 3) (hi : pre.length = i) (h8 : pre.length + (rest.length + 1) <= 8) (j : Nat) (hj : j < 952) :
  (d.put k { d.g k with ps := pre ++ p.ran R :: rest }).cell j = if k * 317 + i * 19 + 3 <= j /\ j < k * 317 + i * 19 + 3 + (z27 R.tab).toList.length then (z27 R.tab).toList.getD (j - (k * 317 + i * 19 + 3)) undef else (d.put k { d.g k with ps := pre ++ p :: rest }).cell j := by
 subst hi
 have e := zUo (d.put k { d.g k with ps := pre ++ p :: rest }) (i := pre.length) R.tab hk (by rw [zCn]; simp) (by rw [zCn]; simp only [List.length_append, lQ]; omega) j hj
 rw [<- e, zCn, zPd]
 dsimp only
 rw [zW0, zEm]
 rfl
theorem zT8 {w : World} {g : Nat} {R : Rn} {v : Value} (h : w.heap[g]? = some (cT (rnCs R v) 139 (0, 0))) : w.rangeAt g 1 (z27 R.tab).toList := fun j x hx => by
 have hj : j < 16 := by have := (List.getElem?_eq_some_iff.1 hx).1; simpa [z27] using this
 rw [cell_of_row w g _ _ _ _ h, <- hx]
 rcases (show j = 0 \/ j = 1 \/ j = 2 \/ j = 3 \/ j = 4 \/ j = 5 \/ j = 6 \/ j = 7 \/ j = 8 \/ j = 9 \/ j = 10 \/ j = 11 \/ j = 12 \/ j = 13 \/ j = 14 \/ j = 15 by omega) with rfl | rfl | rfl | rfl | rfl | rfl | rfl | rfl | rfl | rfl | rfl | rfl | rfl | rfl | rfl | rfl <;> rfl
theorem z4c {w : World} {b n z : Nat} {e : TypeId} {v : Value} {xs : List Value} (h : w.ownsRow b e z v n xs) : ∃ a c, v = .slice a n c := by
 rcases rowShape h with ⟨rfl, rfl⟩ | ⟨g, cap, rfl⟩
 ·exact ⟨_, _, rfl⟩
 ·exact ⟨_, _, rfl⟩
theorem zWr (B k : Nat) (hk : k < 3) (d : Dsk) (T : Nat -> Int) (time : Int) (w : World) (hD : z0k w B d) (h8 : (d.g k).ps.length <= 8) (HP : Hid (∀ p, p ∈ (d.g k).ps -> PgOk w B p)) (HT : Hid (∀ i, i < 8 -> In64 (T i))) (HTI : Hid (In64 time)) :
  Calls tP 30 #[pT (some ⟨B, k * 317, none⟩), .agg (z0o T), A E time] w fun e w' => ∃ vo, e = rT (.agg #[A E (z08 T time (d.g k).ps sd0).1.bf, A E (z08 T time (d.g k).ps sd0).1.num, vo, A E (z08 T time (d.g k).ps sd0).1.steps]) /\ Kept B w w' /\ z0k w' B (d.put k { d.g k with ps := (z08 T time (d.g k).ps sd0).2 }) /\ w'.ownsRow (w.heap.size + 1 + 1 + 1) 2 1 vo (z08 T time (d.g k).ps sd0).1.out.length ((z08 T time (d.g k).ps sd0).1.out.map (Value.int .i64)) := by
 have hlt := hD.lt
 have hK0 : Blk w [(w.heap.size, cT (z0o T) 34 (0, 0)), (w.heap.size + 1, cT #[A E 0, A E 0, .slice none 0 0, A E 0] 75 (0, 0)), (w.heap.size + 1 + 1, cT #[A E 0, A E 0, .slice none 0 0, A E 0] 75 (0, 0)), (B, cT (Array.ofFn (n := 952) fun i => Dsk.cell d i.1) 93 (0, 0))] (((w.alloc (cT (z0o T) 34)).alloc (cT #[A E 0, A E 0, .slice none 0 0, A E 0] 75)).alloc (cT #[A E 0, A E 0, .slice none 0 0, A E 0] 75)) := by
  have h := ((((Blk.nil (((((bF _ w).alloc (Nat.le_refl _) (cT (z0o T) 34)).alloc (by simp) (cT #[A E 0, A E 0, .slice none 0 0, A E 0] 75)).alloc (by simp; omega) (cT #[A E 0, A E 0, .slice none 0 0, A E 0] 75)))).cons ((heap_alloc_old _ _ (by simp; omega)).trans ((heap_alloc_old _ _ (by simp; omega)).trans ((heap_alloc_old _ _ hD.lt).trans hD)))).cons (z9y w (cT (z0o T) 34) (cT #[A E 0, A E 0, .slice none 0 0, A E 0] 75) (cT #[A E 0, A E 0, .slice none 0 0, A E 0] 75))).cons (z8f w (cT (z0o T) 34) (cT #[A E 0, A E 0, .slice none 0 0, A E 0] 75) (cT #[A E 0, A E 0, .slice none 0 0, A E 0] 75))).cons (zBc w (cT (z0o T) 34) (cT #[A E 0, A E 0, .slice none 0 0, A E 0] 75) (cT #[A E 0, A E 0, .slice none 0 0, A E 0] 75))
  exact h
 have hc0 := z2n (hK0.2 _ (mcO _ (mcO _ (mcO _ mcS)))) hk
 have HS0 : Hid (RunSt w B k d T time 0 (((w.alloc (cT (z0o T) 34)).alloc (cT #[A E 0, A E 0, .slice none 0 0, A E 0] 75)).alloc (cT #[A E 0, A E 0, .slice none 0 0, A E 0] 75))) := by
  refine ⟨[], (d.g k).ps, sd0, .slice none 0 0, rfl, by simp, rfl, z0e hK0.1 B, ?_, hK0.2 _ mcS, hK0.2 _ (mcO _ mcS), hK0.2 _ (mcO _ (mcO _ mcS)), World.ownsRow_nil _ _ _ _, fun p hp => hp, by decide, by decide, by decide⟩
  have e : (d.put k { d.g k with ps := [] ++ (d.g k).ps }) = d := zTh d k
  rw [e]
  exact hK0.2 _ (mcO _ (mcO _ (mcO _ mcS)))
 have hN : ((d.g k).ps.length : Int) <= 8 := by omega
 obtain ⟨N, HN⟩ : ∃ N, Hid ((d.g k).ps.length = N) := ⟨_, rfl⟩
 rw [HN.out] at hc0 hN
 clear hK0
 go_enter Tryz.func30, Tryz.ntmps30
 go_wp2_with fail
 clear hc0
 go_loopw [16] (fun iv wr => ∃ i : Nat, iv = A E i /\ i <= N /\ Hid (RunSt w B k d T time i wr)) (fun iv _ => N - (intOf iv).toNat)
 case atStart => exact ⟨0, rfl, Nat.zero_le _, HS0.out⟩
 case round =>
  obtain ⟨i, rfl, hi, H⟩ := hrel
  clear HS0
  have hi0 : (0 : Int) <= (i : Int) := by omega
  by_cases hlt : i < N
  ·have hlt' : (i : Int) < (N : Int) := by omega
   have hi8 : (i : Int) < 8 := by omega
   obtain ⟨pre, rest, s, vo, hpre, hsum, hgo, hkp, hdk, ht, hz, hsd, hown, hpg, hfo, hf1, hf2⟩ := H.out.ex
   have HGO : Hid (z08 T time (d.g k).ps sd0 = ((z08 T time rest s).1, pre ++ (z08 T time rest s).2)) := hgo
   clear hgo
   obtain ⟨p, rest', rfl⟩ : ∃ p rest', rest = p :: rest' := by
    cases rest with
    | nil => rw [HN.out] at hsum; simp at hsum; omega
    | cons p r => exact ⟨p, r, rfl⟩
   have hpi : ((d.put k { d.g k with ps := pre ++ p :: rest' }).g k).ps.getD i pg0 = p := by rw [zCn, <- hpre]; exact zEm _ _ _ _
   have e8 : i < 8 := by omega
   have hpk := (HP.out p (hpg p mcS)).kept hkp
   have hC : Blk wr [(w.heap.size, cT (z0o T) 34 (0, 0)), (B, cT (Array.ofFn (n := 952) fun i => Dsk.cell (d.put k { d.g k with ps := pre ++ p :: rest' }) i.1) 93 (0, 0))] wr := (Blk.nil (bF _ _)).cons hdk |>.cons ht
   have hF6 : ∀ x, x ∈ ([(w.heap.size, cT (z0o T) 34 (0, 0)), (B, cT (Array.ofFn (n := 952) fun i => Dsk.cell (d.put k { d.g k with ps := pre ++ p :: rest' }) i.1) 93 (0, 0))] : List (Nat × Obj)) -> x.1 < wr.heap.size := fun x hx => (Array.getElem?_eq_some_iff.1 (hC.2 x hx)).1
   go_upto_region 6 with fail
   go_cut [10] (fun s10 wx => Hid (∃ g v2, s10 = pT (some ⟨g, 0, none⟩) /\ Below wr.heap.size wr wx /\ wr.heap.size <= g /\ wx.heap[g]? = some (cT (rnCs (p.run T time) v2) 139 (0, 0)) /\ wx.ownsRow wr.heap.size 2 1 v2 (p.run T time).out.length ((p.run T time).out.map (Value.int .i64))))
   case first =>
    have hD := hC.drew
    refine wp_region_held_drew (S := Blk wr [(w.heap.size, cT (z0o T) 34 (0, 0)), (B, cT (Array.ofFn (n := 952) fun i => Dsk.cell (d.put k { d.g k with ps := pre ++ p :: rest' }) i.1) 93 (0, 0))]) (by kernel_rfl) hD fun _ => ?_
    change wpAnyH _ _ _ _ _ 17 (Array.replicate 17 false) _ _
    refine z0x (i := 0) (some 25) (pT (some ⟨B, k * 317 + i * 19, none⟩)) rfl rfl (by kernel_rfl) (by kernel_rfl) (by kernel_rfl) (fun _ _ _ h => h) (by rfl) (fun V hV => by go_simp) hD ?_
    simp only [Act.put, siA, scZ, scS]
    refine z0x (i := 1) (some 26) (pT (some ⟨B, k * 317 + i * 19, none⟩)) rfl rfl (by kernel_rfl) (by kernel_rfl) (by kernel_rfl) (fun _ _ _ h => h) (by rfl) (fun V hV => by go_simp) hD ?_
    simp only [Act.put, siA, scZ, scS]
    refine z0x (i := 2) (some 27) (pT (some ⟨B, k * 317 + i * 19 + 2, none⟩)) rfl rfl (by kernel_rfl) (by kernel_rfl) (by kernel_rfl) (fun _ _ _ h => h) (by rfl) (fun V hV => by go_simp) hD ?_
    simp only [Act.put, siA, scZ, scS]
    refine z0x (i := 3) (some 28) (p.sl) rfl rfl (by kernel_rfl) (by kernel_rfl) (by kernel_rfl) (fun _ _ _ h => h) (by rfl) (fun V hV => by have hDv : z0k V B _ := hV.2 _ (mcO _ mcS); have c2 := z76 (j := 2) hDv hk e8 (by decide); rw [hpi] at c2; have c2 : V.cell? ⟨B, k * 317 + i * 19 + 2, none⟩ = some p.sl := c2; go_simp; try rfl) hD ?_
    simp only [Act.put, siA, scZ, scS]
    refine z0x (i := 4) (some 29) (.agg (z0o T)) rfl rfl (by kernel_rfl) (by kernel_rfl) (by kernel_rfl) (fun _ _ _ h => h) (by rfl) (fun V hV => by exact zAt (hV.2 _ mcS) rfl rfl) hD ?_
    simp only [Act.put, siA, scZ, scS]
    refine z0x (i := 5) (some 30) (pT (some ⟨B, k * 317 + i * 19, none⟩)) rfl rfl (by kernel_rfl) (by kernel_rfl) (by kernel_rfl) (fun _ _ _ h => h) (by rfl) (fun V hV => by go_simp) hD ?_
    simp only [Act.put, siA, scZ, scS]
    refine z0x (i := 6) (some 31) (pT (some ⟨B, k * 317 + i * 19, none⟩)) rfl rfl (by kernel_rfl) (by kernel_rfl) (by kernel_rfl) (fun _ _ _ h => h) (by rfl) (fun V hV => by go_simp) hD ?_
    simp only [Act.put, siA, scZ, scS]
    refine z0x (i := 7) (some 32) (pT (some ⟨B, k * 317 + i * 19 + 3, none⟩)) rfl rfl (by kernel_rfl) (by kernel_rfl) (by kernel_rfl) (fun _ _ _ h => h) (by rfl) (fun V hV => by go_simp) hD ?_
    simp only [Act.put, siA, scZ, scS]
    refine z0x (i := 8) (some 33) (.agg (z27 p.tab)) rfl rfl (by kernel_rfl) (by kernel_rfl) (by kernel_rfl) (fun _ _ _ h => h) (by rfl) (fun V hV => by have hDv : z0k V B _ := hV.2 _ (mcO _ mcS); exact zN9 (by have := zL0 hDv hk e8; rw [hpi] at this; exact this) rfl rfl) hD ?_
    simp only [Act.put, siA, scZ, scS]
    refine z0x (i := 9) (some 34) (A E time) rfl rfl (by kernel_rfl) (by kernel_rfl) (by kernel_rfl) (fun _ _ _ h => h) (by rfl) (fun V hV => by go_simp) hD ?_
    simp only [Act.put, siA, scZ, scS]
    refine wpAnyH_ready (rs := [10, 14]) (by kernel_rfl) (by simp) ?_
    refine zFl (some 35) 45 #[p.sl, .agg (z0o T), .agg (z27 p.tab), A E time] rfl rfl (by rfl) (by go_simp) ?_ (z6p (some 10) (pT (some ⟨wr.heap.size, 0, none⟩)) (wr.drew.alloc (cT z10 139)) rfl rfl (by rfl) (by go_simp; try rfl) (hD.later ((bF _ _).alloc (Nat.le_refl _) _)) ?_ AllReadyH.nil)
    ·refine (zKi (hpk.later hD.1) T time HT.out HTI.out).mono ?_
     rintro e wz ⟨v, rfl, v2, I, rfl, hbz, hoz⟩
     have hDz := hD.later hbz
     refine ⟨_, rfl, hDz, ?_⟩
     simp only [Act.put, siA, scZ, scS]
     refine z0x (i := 11) (some 24) (.tuple #[.agg (rnCs (p.run T time) v2), I]) rfl rfl (by kernel_rfl) (by kernel_rfl) (by kernel_rfl) (fun _ _ _ h => h) (by rfl) (fun V hV => by go_simp; try rfl) hDz ?_
     simp only [Act.put, siA, scZ, scS]
     refine z0x (i := 12) (some 36) (.agg (rnCs (p.run T time) v2)) rfl rfl (by kernel_rfl) (by kernel_rfl) (by kernel_rfl) (fun _ _ _ h => h) (by rfl) (fun V hV => by go_simp; try rfl) hDz ?_
     simp only [Act.put, siA, scZ, scS]
     refine z0x (i := 13) (some 37) (I) rfl rfl (by kernel_rfl) (by kernel_rfl) (by kernel_rfl) (fun _ _ _ h => h) (by rfl) (fun V hV => by go_simp; try rfl) hDz ?_
     simp only [Act.put, siA, scZ, scS]
     refine wpAnyH_ready (rs := [14]) (by kernel_rfl) (by simp) ?_
     refine z6p (some 10) (pT (some ⟨wz.heap.size, 0, none⟩)) (wz.alloc (cT z10 139)) rfl rfl (by rfl) (by go_simp; try rfl) (hDz.later ((bF _ _).alloc (Nat.le_refl _) _)) ?_ AllReadyH.nil
     simp only [Act.put, siA, scZ, scS]
     have hDa := hDz.later ((bF _ _).alloc (Nat.le_refl _) (cT z10 139))
     have hzs : wr.heap.size <= wz.heap.size := hDz.1.size
     have hDs : Blk wr [(w.heap.size, cT (z0o T) 34 (0, 0)), (B, cT (Array.ofFn (n := 952) fun i => Dsk.cell (d.put k { d.g k with ps := pre ++ p :: rest' }) i.1) 93 (0, 0))] ((wz.alloc (cT z10 139)).setRow wz.heap.size (rnCs (p.run T time) v2)) := zRp hDa hzs hF6 _
     refine wpAnyH_ready (rs := [15]) (by kernel_rfl) (by simp) ?_
     refine z5x ((wz.alloc (cT z10 139)).setRow wz.heap.size (rnCs (p.run T time) v2)) rfl rfl (by rfl) (z5w _ (.tmp 10) (.tmp 36) wz.heap.size (rnCs (p.run T time) v2) rfl rfl rfl (heap_alloc_new wz _) rfl (zKa hoz)) hDs ?_ AllReadyH.nil
     simp only [Act.put, siA, scZ, scS]
     refine z0x (i := 16) (some 11) (I) rfl rfl (by kernel_rfl) (by kernel_rfl) (by kernel_rfl) (fun _ _ _ h => h) (by rfl) (fun V hV => by go_simp; try rfl) hDs ?_
     simp only [Act.put, siA, scZ, scS]
     refine wpAnyH_done (by kernel_rfl) ?_ _
     go_wp2_with fail
     go_meet
     exact ⟨wz.heap.size, v2, rfl, hDs.1, hzs, setRow_heap _ _ z10 _ _ _ (heap_alloc_new wz _), z7j (hoz.alloc _) (by simp) (fun e => by have := (World.ownsRow.lt hoz _ e).2; omega)⟩
    ·simp only [Act.put, siA, scZ, scS]
     have hDb := hD.later ((bF _ _).alloc (Nat.le_refl _) (cT z10 139))
     have hgb : (wr.drew.alloc (cT z10 139)).heap[wr.heap.size]? = some (cT z10 139 (0, 0)) := heap_alloc_new wr.drew _
     have hsb : (wr.drew.alloc (cT z10 139)).heap.size = wr.heap.size + 1 := by simp
     generalize wr.drew.alloc (cT z10 139) = wb at hDb hgb hsb ⊢
     refine wpAnyH_ready (rs := [10]) (by kernel_rfl) (by simp) ?_
     refine zFl (some 35) 45 #[p.sl, .agg (z0o T), .agg (z27 p.tab), A E time] rfl rfl (by rfl) (by go_simp) ?_ AllReadyH.nil
     refine (zKi (hpk.later hDb.1) T time HT.out HTI.out).mono ?_
     rintro e wz ⟨v, rfl, v2, I, rfl, hbz, hoz⟩
     have hDz := hDb.later hbz
     have hgz := (hbz.block _ (by rw [hsb]; omega)).trans hgb
     refine ⟨_, rfl, hDz, ?_⟩
     simp only [Act.put, siA, scZ, scS]
     refine z0x (i := 11) (some 24) (.tuple #[.agg (rnCs (p.run T time) v2), I]) rfl rfl (by kernel_rfl) (by kernel_rfl) (by kernel_rfl) (fun _ _ _ h => h) (by rfl) (fun V hV => by go_simp; try rfl) hDz ?_
     simp only [Act.put, siA, scZ, scS]
     refine z0x (i := 12) (some 36) (.agg (rnCs (p.run T time) v2)) rfl rfl (by kernel_rfl) (by kernel_rfl) (by kernel_rfl) (fun _ _ _ h => h) (by rfl) (fun V hV => by go_simp; try rfl) hDz ?_
     simp only [Act.put, siA, scZ, scS]
     refine z0x (i := 13) (some 37) (I) rfl rfl (by kernel_rfl) (by kernel_rfl) (by kernel_rfl) (fun _ _ _ h => h) (by rfl) (fun V hV => by go_simp; try rfl) hDz ?_
     simp only [Act.put, siA, scZ, scS]
     have hDs : Blk wr [(w.heap.size, cT (z0o T) 34 (0, 0)), (B, cT (Array.ofFn (n := 952) fun i => Dsk.cell (d.put k { d.g k with ps := pre ++ p :: rest' }) i.1) 93 (0, 0))] (wz.setRow wr.heap.size (rnCs (p.run T time) v2)) := zRp hDz (Nat.le_refl _) hF6 _
     refine wpAnyH_ready (rs := [15]) (by kernel_rfl) (by simp) ?_
     refine z5x (wz.setRow wr.heap.size (rnCs (p.run T time) v2)) rfl rfl (by rfl) (z5w _ (.tmp 10) (.tmp 36) wr.heap.size (rnCs (p.run T time) v2) rfl rfl rfl hgz rfl (zKa hoz)) hDs ?_ AllReadyH.nil
     simp only [Act.put, siA, scZ, scS]
     refine z0x (i := 16) (some 11) (I) rfl rfl (by kernel_rfl) (by kernel_rfl) (by kernel_rfl) (fun _ _ _ h => h) (by rfl) (fun V hV => by go_simp; try rfl) hDs ?_
     simp only [Act.put, siA, scZ, scS]
     refine wpAnyH_done (by kernel_rfl) ?_ _
     go_wp2_with fail
     go_meet
     exact ⟨wr.heap.size, v2, rfl, hDs.1, Nat.le_refl _, setRow_heap _ _ z10 _ _ _ hgz, z7j hoz (by rw [hsb]; omega) (fun e => by have := (World.ownsRow.lt hoz _ e).1; omega)⟩
   clear hC
   obtain ⟨g, v2, rfl, hbc, hgl, hgr, hor⟩ := hcut.out
   clear hcut
   obtain ⟨r1, r2, r3, -⟩ := hpk.small T time HT.out HTI.out
   obtain ⟨R, HR⟩ : ∃ R, Hid (p.run T time = R) := ⟨_, rfl⟩
   rw [HR.out] at hgr hor r1 r2 r3
   have hlr := hdk.lt
   have hsz : w.heap.size + 1 + 1 < wr.heap.size := (Array.getElem?_eq_some_iff.1 hsd).1
   have hdc := FnAt.later hdk hbc
   have hzc := (hbc.block _ (by omega)).trans hz
   have hsc := (hbc.block _ (by omega)).trans hsd
   have htc := (hbc.block _ (by omega)).trans ht
   have hkc := z1w hkp hbc
   have hoc := World.ownsRow.kept hown (row := none) ⟨hbc.os, hbc.tape, hbc.output, hbc.size, fun k hk _ => hbc.block k hk⟩ (by cases hv : vo.ownBlock <;> simp)
   have hvw := World.ownsRow.lt hown
   have hsc0 := hbc.size
   clear hdk hz hsd ht hkp hown hbc hpk hpi
   go_upto_region 7 with fail
   go_step
   (refine z03 rfl (pT (some ⟨B, k * 317 + i * 19, none⟩)) wc (by go_simp; try rfl) ?_); simp only [Act.put, siA, scZ, scS]
   (refine z03 rfl (pT (some ⟨g, 1, none⟩)) wc (by go_simp; try rfl) ?_); simp only [Act.put, siA, scZ, scS]
   refine wpList_load_mid rfl 55 (.tmp 39) rfl g 1 rfl (z27 R.tab).toList _ (zT8 hgr) Tryz.underlying55 rfl (by rw [Tryz.info55]; rfl) ?_
   rw [Array.toArray_toList]
   simp only [Act.put, siA, scZ, scS]
   (refine z03 rfl (pT (some ⟨B, k * 317 + i * 19, none⟩)) wc (by go_simp; try rfl) ?_); simp only [Act.put, siA, scZ, scS]
   (refine z03 rfl (pT (some ⟨B, k * 317 + i * 19 + 3, none⟩)) wc (by go_simp; try rfl) ?_); simp only [Act.put, siA, scZ, scS]
   refine wpList_store_mid rfl 55 (.tmp 42) (.tmp 40) rfl B (k * 317 + i * 19 + 3) (z27 R.tab) rfl rfl (FnAt.there hdc (show k * 317 + i * 19 + 3 + 16 <= 952 by omega)) Tryz.info55 (zA0 _) ?_
   simp only [Act.put, siA, scZ, scS]
   have hd7 : z0k (wc.setCells B (k * 317 + i * 19 + 3) (z27 R.tab).toList) B (d.put k { d.g k with ps := pre ++ p.ran R :: rest' }) := FnAt.ext (FnAt.setCells hdc (z27 R.tab).toList (k * 317 + i * 19 + 3)) (zRk d pre p rest' R hk hpre (by rw [HN.out] at hsum; rw [lQ] at hsum; omega))
   have hz7 := (z1a (w := wc) (B := B) (show w.heap.size + 1 ≠ B by omega) (z27 R.tab).toList (k * 317 + i * 19 + 3)).trans hzc
   have hs7 := (z1a (w := wc) (B := B) (show w.heap.size + 1 + 1 ≠ B by omega) (z27 R.tab).toList (k * 317 + i * 19 + 3)).trans hsc
   have ht7 := (z1a (w := wc) (B := B) (show w.heap.size ≠ B by omega) (z27 R.tab).toList (k * 317 + i * 19 + 3)).trans htc
   have hg7 := (z1a (w := wc) (B := B) (show g ≠ B by omega) (z27 R.tab).toList (k * 317 + i * 19 + 3)).trans hgr
   have hk7 := z2a hkc (k * 317 + i * 19 + 3) (z27 R.tab).toList
   have ho7 := World.ownsRow.kept hoc (z2a (z1b B wc) (k * 317 + i * 19 + 3) (z27 R.tab).toList) (Or.inr fun e => by have := hvw _ e; omega)
   have hr7 := World.ownsRow.kept hor (z2a (z1b B wc) (k * 317 + i * 19 + 3) (z27 R.tab).toList) (Or.inr fun e => by have := World.ownsRow.lt hor _ e; omega)
   clear hdc hzc hsc htc hgr hkc hoc hor
   generalize wc.setCells B (k * 317 + i * 19 + 3) (z27 R.tab).toList = w7 at hd7 hz7 hs7 ht7 hg7 hk7 ho7 hr7 ⊢
   obtain ⟨qa, qc, rfl⟩ := z4c ho7
   obtain ⟨qb, qd, rfl⟩ := z4c hr7
   have c2 : w7.cell? ⟨w.heap.size + 1 + 1, 2, none⟩ = some (.slice qa s.out.length qc) := (cell_of_row w7 _ 2 _ _ _ hs7).trans rfl
   have g17 : w7.cell? ⟨g, 17, none⟩ = some (.slice qb R.out.length qd) := (cell_of_row w7 _ 17 _ _ _ hg7).trans rfl
   go_upto_region 8 with fail
   go_step
   (refine z03 rfl (pT (some ⟨w.heap.size + 1 + 1, 2, none⟩)) w7 (by go_simp; try rfl) ?_); simp only [Act.put, siA, scZ, scS]
   (refine z03 rfl (.slice qa s.out.length qc) w7 (by go_simp; try rfl) ?_); simp only [Act.put, siA, scZ, scS]
   (refine z03 rfl (pT (some ⟨g, 17, none⟩)) w7 (by go_simp; try rfl) ?_); simp only [Act.put, siA, scZ, scS]
   (refine z03 rfl (.slice qb R.out.length qd) w7 (by go_simp; try rfl) ?_); simp only [Act.put, siA, scZ, scS]
   obtain ⟨i0, hi0, hz0, hz1, hz2⟩ := info_parts Tryz.infoI
   refine z89 w7 rfl (.tmp 44) (.tmp 46) 73 rfl (w.heap.size + 1 + 1 + 1) 2 i0 (A E 0) 1 8 Tryz.underlying73 hi0 hz0 hz1 hz2 rfl (by decide) _ _ _ rfl ho7 wr.heap.size _ _ _ rfl hr7 (by intro u hu; obtain ⟨x, -, rfl⟩ := List.mem_map.1 hu; rfl) (by unfold maxLen; omega) (by omega) (by have := hk7.size; have := (Array.getElem?_eq_some_iff.1 hs7).1; omega) ?_
   intro v8 w8 ho8 hg8
   simp only [Act.put, siA, scZ, scS]
   obtain ⟨qe, qf, rfl⟩ := z4c ho8
   have nb : ∀ b, b < w.heap.size + 1 + 1 + 1 -> w8.heap[b]? = w7.heap[b]? := fun b hb => hg8.block b (by have := (Array.getElem?_eq_some_iff.1 hs7).1; omega) fun e => by have := hvw _ e.symm; omega
   have hd8 := FnAt.block hd7 (nb B (by omega))
   have hz8 := (nb _ (by omega)).trans hz7
   have hs8 := (nb _ (by omega)).trans hs7
   have ht8 := (nb _ (by omega)).trans ht7
   have hgg8 := (hg8.block g (Array.getElem?_eq_some_iff.1 hg7).1 fun e => by have := hvw _ e.symm; omega).trans hg7
   have hk8 : Kept B w w8 := ⟨hg8.os.trans hk7.os, hg8.tape.trans hk7.tape, hg8.output.trans hk7.output, Nat.le_trans hk7.size hg8.size, fun b hb hne => (nb b (by omega)).trans (hk7.block b hb hne)⟩
   clear nb c2 g17 hd7 hz7 hs7 ht7 hg7 hk7 ho7 hr7 hg8 hi0 hz0 hz1 hz2
   have c2 : w8.cell? ⟨w.heap.size + 1 + 1, 2, none⟩ = some (.slice qa s.out.length qc) := (cell_of_row w8 _ 2 _ _ _ hs8).trans rfl
   have f2 : w8.frozen? ⟨w.heap.size + 1 + 1, 2, none⟩ = false := by simp [World.frozen?, hs8]
   go_upto_region 9 with fail
   have hd9 := FnAt.block hd8 (heap_setCell_other w8 ⟨w.heap.size + 1 + 1, 2, none⟩ B (.slice qe (s.out.length + R.out.length) qf) (show B ≠ w.heap.size + 1 + 1 by omega))
   have hz9 := (heap_setCell_other w8 ⟨w.heap.size + 1 + 1, 2, none⟩ (w.heap.size + 1) (.slice qe (s.out.length + R.out.length) qf) (show w.heap.size + 1 ≠ w.heap.size + 1 + 1 by omega)).trans hz8
   have ht9 := (heap_setCell_other w8 ⟨w.heap.size + 1 + 1, 2, none⟩ w.heap.size (.slice qe (s.out.length + R.out.length) qf) (show w.heap.size ≠ w.heap.size + 1 + 1 by omega)).trans ht8
   have hgg9 := (heap_setCell_other w8 ⟨w.heap.size + 1 + 1, 2, none⟩ g (.slice qe (s.out.length + R.out.length) qf) (show g ≠ w.heap.size + 1 + 1 by omega)).trans hgg8
   have hs9 : (w8.setCell ⟨w.heap.size + 1 + 1, 2, none⟩ (.slice qe (s.out.length + R.out.length) qf)).heap[w.heap.size + 1 + 1]? = some (cT #[A E s.bf, A E s.num, (.slice qe (s.out.length + R.out.length) qf), A E s.steps] 75 (0, 0)) := (heap_setCell_same w8 (w.heap.size + 1 + 1) 2 _ _ (.slice qe (s.out.length + R.out.length) qf) hs8).trans rfl
   have hk9 := z17 hk8 ⟨w.heap.size + 1 + 1, 2, none⟩ (.slice qe (s.out.length + R.out.length) qf) (show w.heap.size <= w.heap.size + 1 + 1 by omega)
   have ho9 := ownsRow_setCell_below ho8 (a := ⟨w.heap.size + 1 + 1, 2, none⟩) (show w.heap.size + 1 + 1 < w.heap.size + 1 + 1 + 1 by omega) (.slice qe (s.out.length + R.out.length) qf)
   clear hd8 hz8 ht8 hgg8 hs8 hk8 ho8 c2 f2
   generalize w8.setCell ⟨w.heap.size + 1 + 1, 2, none⟩ (.slice qe (s.out.length + R.out.length) qf) = w9 at hd9 hz9 ht9 hgg9 hs9 hk9 ho9 ⊢
   have c3 : w9.cell? ⟨w.heap.size + 1 + 1, 3, none⟩ = some (A E s.steps) := (cell_of_row w9 _ 3 _ _ _ hs9).trans rfl
   have f3 : w9.frozen? ⟨w.heap.size + 1 + 1, 3, none⟩ = false := by simp [World.frozen?, hs9]
   have g18 : w9.cell? ⟨g, 18, none⟩ = some (A E R.steps) := (cell_of_row w9 _ 18 _ _ _ hgg9).trans rfl
   have e9 : IntKind.i64.wrap (s.steps + R.steps) = s.steps + R.steps := by rw [IntWalk.i64_left, z0f (by omega) (by omega)]
   go_upto_region 10 with fail
   clear c3 f3 g18 e9
   have hda := FnAt.block hd9 (heap_setCell_other w9 ⟨w.heap.size + 1 + 1, 3, none⟩ B (A E (s.steps + R.steps)) (show B ≠ w.heap.size + 1 + 1 by omega))
   have hza := (heap_setCell_other w9 ⟨w.heap.size + 1 + 1, 3, none⟩ (w.heap.size + 1) (A E (s.steps + R.steps)) (show w.heap.size + 1 ≠ w.heap.size + 1 + 1 by omega)).trans hz9
   have hta := (heap_setCell_other w9 ⟨w.heap.size + 1 + 1, 3, none⟩ w.heap.size (A E (s.steps + R.steps)) (show w.heap.size ≠ w.heap.size + 1 + 1 by omega)).trans ht9
   have hgga := (heap_setCell_other w9 ⟨w.heap.size + 1 + 1, 3, none⟩ g (A E (s.steps + R.steps)) (show g ≠ w.heap.size + 1 + 1 by omega)).trans hgg9
   have hsa : (w9.setCell ⟨w.heap.size + 1 + 1, 3, none⟩ (A E (s.steps + R.steps))).heap[w.heap.size + 1 + 1]? = some (cT #[A E s.bf, A E s.num, (.slice qe (s.out.length + R.out.length) qf), A E (s.steps + R.steps)] 75 (0, 0)) := (heap_setCell_same w9 (w.heap.size + 1 + 1) 3 _ _ (A E (s.steps + R.steps)) hs9).trans rfl
   have hka := z17 hk9 ⟨w.heap.size + 1 + 1, 3, none⟩ (A E (s.steps + R.steps)) (show w.heap.size <= w.heap.size + 1 + 1 by omega)
   have hoa := ownsRow_setCell_below ho9 (a := ⟨w.heap.size + 1 + 1, 3, none⟩) (show w.heap.size + 1 + 1 < w.heap.size + 1 + 1 + 1 by omega) (A E (s.steps + R.steps))
   clear hd9 hz9 ht9 hgg9 hs9 hk9 ho9
   generalize w9.setCell ⟨w.heap.size + 1 + 1, 3, none⟩ (A E (s.steps + R.steps)) = wa at hda hza hta hgga hsa hka hoa ⊢
   have g0 : wa.cell? ⟨g, 0, none⟩ = some (A E R.num) := (cell_of_row wa _ 0 _ _ _ hgga).trans rfl
   by_cases hn : R.num = 0
   ·have n2 : (R.num != 0) = false := by simp [hn]
    have hM : s.more p R = ⟨s.bf, s.num, s.out ++ R.out, s.steps + R.steps⟩ := by unfold Sd.more; rw [if_pos hn, if_pos hn]
    have HM : Hid (s.more p R = ⟨s.bf, s.num, s.out ++ R.out, s.steps + R.steps⟩) := hM
    have HG : Hid (z08 T time (d.g k).ps sd0 = ((z08 T time rest' (s.more p R)).1, (pre ++ [p.ran R]) ++ (z08 T time rest' (s.more p R)).2)) := by have h := HGO.out; rw [z08, HR.out, if_pos hn] at h; rw [List.append_assoc]; exact h
    clear hn hM
    go_wp2_with fail
    go_roundw
    case rel =>
     refine ⟨i + 1, by go_num, by omega, ⟨pre ++ [p.ran R], rest', s.more p R, (.slice qe (s.out.length + R.out.length) qf), by rw [List.length_append, hpre]; rfl, by rw [lQ] at hsum; rw [List.length_append, List.length_singleton]; omega, HG.out, hka, ?_, hta, hza, ?_, ?_, fun q hq => hpg q (mcO _ hq), ?_, ?_, ?_⟩⟩
     ·rw [List.append_assoc]; exact hda
     ·rw [HM.out]; exact hsa
     ·rw [HM.out]; dsimp only; rw [List.length_append, List.map_append]; exact hoa
     ·rw [HM.out]; dsimp only; rw [List.length_append]; omega
     ·rw [HM.out]; dsimp only; omega
     ·rw [HM.out]; dsimp only; omega
    case measure => simp [intOf]; omega
   ·have n2 : (R.num != 0) = true := by simp [hn]
    have hM : s.more p R = ⟨p.id, R.num, s.out ++ R.out, s.steps + R.steps⟩ := by unfold Sd.more; rw [if_neg hn, if_neg hn]
    have HG : Hid (z08 T time (d.g k).ps sd0 = (⟨p.id, R.num, s.out ++ R.out, s.steps + R.steps⟩, pre ++ p.ran R :: rest')) := by have h := HGO.out; rw [z08, HR.out, if_neg hn, hM] at h; exact h
    clear hn hM
    go_upto_region 11 with fail
    clear g0
    go_cut [] (fun wx => Hid (z0k wx B (d.put k { d.g k with ps := pre ++ p.ran R :: rest' }) /\ wx.heap[w.heap.size + 1]? = some (cT #[A E 0, A E 0, .slice none 0 0, A E 0] 75 (0, 0)) /\ wx.heap[w.heap.size + 1 + 1]? = some (cT #[A E p.id, A E R.num, (.slice qe (s.out.length + R.out.length) qf), A E (s.steps + R.steps)] 75 (0, 0)) /\ Kept B w wx /\ wx.ownsRow (w.heap.size + 1 + 1 + 1) 2 1 (.slice qe (s.out.length + R.out.length) qf) (s.out.length + R.out.length) (s.out.map (Value.int .i64) ++ R.out.map (Value.int .i64))))
    case first =>
     have hSd : SdSt B g (Dsk.cell (d.put k { d.g k with ps := pre ++ p.ran R :: rest' })) (cT (rnCs R (.slice qb R.out.length qd)) 139 (0, 0)) wa.drew := ⟨hda, hgga⟩
     have hza : wa.drew.heap[w.heap.size + 1]? = some (cT #[A E 0, A E 0, .slice none 0 0, A E 0] 75 (0, 0)) := hza
     have hsa : wa.drew.heap[w.heap.size + 1 + 1]? = some (cT #[A E s.bf, A E s.num, (.slice qe (s.out.length + R.out.length) qf), A E (s.steps + R.steps)] 75 (0, 0)) := hsa
     have hka : Kept B w wa.drew := z1c hka
     have hoa : wa.drew.ownsRow (w.heap.size + 1 + 1 + 1) 2 1 (.slice qe (s.out.length + R.out.length) qf) (s.out.length + R.out.length) (s.out.map (Value.int .i64) ++ R.out.map (Value.int .i64)) := ⟨hoa.1, hoa.2⟩
     have hpi2 : ((d.put k { d.g k with ps := pre ++ p.ran R :: rest' }).g k).ps.getD i pg0 = p.ran R := by rw [zCn, <- hpre]; exact zEm _ _ _ _
     refine wp_region_held_drew (S := SdSt B g (Dsk.cell (d.put k { d.g k with ps := pre ++ p.ran R :: rest' })) (cT (rnCs R (.slice qb R.out.length qd)) 139 (0, 0))) (by kernel_rfl) hSd fun _ => ?_
     change wpAnyH _ _ _ _ _ 10 (Array.replicate 10 false) _ _
     clear hda hgga
     generalize wa.drew = wb at hSd hza hsa hka hoa ⊢
     have hd1 : SdSt B g (Dsk.cell (d.put k { d.g k with ps := pre ++ p.ran R :: rest' })) (cT (rnCs R (.slice qb R.out.length qd)) 139 (0, 0)) (wb.setCell ⟨w.heap.size + 1 + 1, 0, none⟩ (A E p.id)) := zFn hSd (S := w.heap.size + 1 + 1) (i := 0) (by omega) (by omega) _
     have c0 : wb.cell? ⟨w.heap.size + 1 + 1, 0, none⟩ = some (A E s.bf) := (cell_of_row wb _ 0 _ _ _ hsa).trans rfl
     have f0 : wb.frozen? ⟨w.heap.size + 1 + 1, 0, none⟩ = false := by simp [World.frozen?, hsa]
     refine z0x (i := 0) (some 58) (pT (some ⟨B, k * 317 + i * 19, none⟩)) rfl rfl (by kernel_rfl) (by kernel_rfl) (by kernel_rfl) (fun _ _ _ h => h) (by rfl) (fun V hV => by go_simp; try rfl) hSd ?_
     simp only [Act.put, siA, scZ, scS]
     refine z0x (i := 4) (some 62) (pT (some ⟨g, 0, none⟩)) rfl rfl (by kernel_rfl) (by kernel_rfl) (by kernel_rfl) (fun _ _ _ h => h) (by rfl) (fun V hV => by go_simp; try rfl) hSd ?_
     simp only [Act.put, siA, scZ, scS]
     refine wpAnyH_ready (rs := [1, 5]) (by kernel_rfl) (by simp) ?_
     refine (z6p (some 59) (pT (some ⟨B, k * 317 + i * 19, none⟩)) wb rfl rfl (by rfl) (by go_simp; try rfl) hSd ?_ (z6p (some 63) (A E R.num) wb rfl rfl (by rfl) (by have c2 : World.cell? wb ⟨g, 0, none⟩ = some (A E R.num) := (cell_of_row wb _ 0 _ _ _ hSd.2).trans rfl; go_simp; try rfl) hSd ?_ AllReadyH.nil))
     ·simp only [Act.put, siA, scZ, scS]
      refine z0x (i := 2) (some 60) (pT (some ⟨B, k * 317 + i * 19, none⟩)) rfl rfl (by kernel_rfl) (by kernel_rfl) (by kernel_rfl) (fun _ _ _ h => h) (by rfl) (fun V hV => by go_simp; try rfl) hSd ?_
      simp only [Act.put, siA, scZ, scS]
      refine wpAnyH_ready (rs := [3, 5]) (by kernel_rfl) (by simp) ?_
      refine (z6p (some 61) (A E p.id) wb rfl rfl (by rfl) (by have c2 := z76 (j := 0) hSd.1 hk e8 (by decide); rw [hpi2] at c2; have c2 : World.cell? wb ⟨B, k * 317 + i * 19, none⟩ = some (A E p.id) := c2; go_simp; try rfl) hSd ?_ (z6p (some 63) (A E R.num) wb rfl rfl (by rfl) (by have c2 : World.cell? wb ⟨g, 0, none⟩ = some (A E R.num) := (cell_of_row wb _ 0 _ _ _ hSd.2).trans rfl; go_simp; try rfl) hSd ?_ AllReadyH.nil))
      ·simp only [Act.put, siA, scZ, scS]
       refine z0x (i := 6) (some 64) (pT (some ⟨w.heap.size + 1 + 1, 0, none⟩)) rfl rfl (by kernel_rfl) (by kernel_rfl) (by kernel_rfl) (fun _ _ _ h => h) (by rfl) (fun V hV => by go_simp; try rfl) hSd ?_
       simp only [Act.put, siA, scZ, scS]
       refine wpAnyH_ready (rs := [5, 7]) (by kernel_rfl) (by simp) ?_
       refine (z6p (some 63) (A E R.num) wb rfl rfl (by rfl) (by have c2 : World.cell? wb ⟨g, 0, none⟩ = some (A E R.num) := (cell_of_row wb _ 0 _ _ _ hSd.2).trans rfl; go_simp; try rfl) hSd ?_ (z5x (wb.setCell ⟨w.heap.size + 1 + 1, 0, none⟩ (A E p.id)) rfl rfl (by rfl) (by go_simp; try rfl) hd1 ?_ AllReadyH.nil))
       ·simp only [Act.put, siA, scZ, scS]
        refine wpAnyH_ready (rs := [7]) (by kernel_rfl) (by simp) ?_
        refine (z5x (wb.setCell ⟨w.heap.size + 1 + 1, 0, none⟩ (A E p.id)) rfl rfl (by rfl) (by go_simp; try rfl) hd1 ?_ AllReadyH.nil)
        simp only [Act.put, siA, scZ, scS]
        have hs1 : (wb.setCell ⟨w.heap.size + 1 + 1, 0, none⟩ (A E p.id)).heap[w.heap.size + 1 + 1]? = some (cT #[A E p.id, A E s.num, (.slice qe (s.out.length + R.out.length) qf), A E (s.steps + R.steps)] 75 (0, 0)) := (heap_setCell_same wb (w.heap.size + 1 + 1) 0 _ _ (A E p.id) hsa).trans rfl
        have hza := (heap_setCell_other wb ⟨w.heap.size + 1 + 1, 0, none⟩ (w.heap.size + 1) (A E p.id) (show w.heap.size + 1 ≠ w.heap.size + 1 + 1 by omega)).trans hza
        have hka := z17 hka ⟨w.heap.size + 1 + 1, 0, none⟩ (A E p.id) (show w.heap.size <= w.heap.size + 1 + 1 by omega)
        have hoa := ownsRow_setCell_below hoa (a := ⟨w.heap.size + 1 + 1, 0, none⟩) (show w.heap.size + 1 + 1 < w.heap.size + 1 + 1 + 1 by omega) (A E p.id)
        generalize wb.setCell ⟨w.heap.size + 1 + 1, 0, none⟩ (A E p.id) = wf at hs1 hza hka hoa hd1 ⊢
        have c1 : wf.cell? ⟨w.heap.size + 1 + 1, 1, none⟩ = some (A E s.num) := (cell_of_row wf _ 1 _ _ _ hs1).trans rfl
        have f1 : wf.frozen? ⟨w.heap.size + 1 + 1, 1, none⟩ = false := by simp [World.frozen?, hs1]
        have hd2 : SdSt B g (Dsk.cell (d.put k { d.g k with ps := pre ++ p.ran R :: rest' })) (cT (rnCs R (.slice qb R.out.length qd)) 139 (0, 0)) (wf.setCell ⟨w.heap.size + 1 + 1, 1, none⟩ (A E R.num)) := zFn hd1 (S := w.heap.size + 1 + 1) (i := 1) (by omega) (by omega) _
        refine z0x (i := 8) (some 65) (pT (some ⟨w.heap.size + 1 + 1, 1, none⟩)) rfl rfl (by kernel_rfl) (by kernel_rfl) (by kernel_rfl) (fun _ _ _ h => h) (by rfl) (fun V hV => by go_simp; try rfl) hd1 ?_
        simp only [Act.put, siA, scZ, scS]
        refine wpAnyH_ready (rs := [9]) (by kernel_rfl) (by simp) ?_
        refine (z5x (wf.setCell ⟨w.heap.size + 1 + 1, 1, none⟩ (A E R.num)) rfl rfl (by rfl) (by go_simp; try rfl) hd2 ?_ AllReadyH.nil)
        simp only [Act.put, siA, scZ, scS]
        refine wpAnyH_done (by kernel_rfl) ?_ _
        go_wp2_with fail
        go_meet
        exact ⟨hd2.1, (heap_setCell_other wf ⟨w.heap.size + 1 + 1, 1, none⟩ (w.heap.size + 1) (A E R.num) (show w.heap.size + 1 ≠ w.heap.size + 1 + 1 by omega)).trans hza, (heap_setCell_same wf (w.heap.size + 1 + 1) 1 _ _ (A E R.num) hs1).trans rfl, z17 hka ⟨w.heap.size + 1 + 1, 1, none⟩ (A E R.num) (show w.heap.size <= w.heap.size + 1 + 1 by omega), ownsRow_setCell_below hoa (a := ⟨w.heap.size + 1 + 1, 1, none⟩) (show w.heap.size + 1 + 1 < w.heap.size + 1 + 1 + 1 by omega) (A E R.num)⟩
       ·simp only [Act.put, siA, scZ, scS]
        have hs1 : (wb.setCell ⟨w.heap.size + 1 + 1, 0, none⟩ (A E p.id)).heap[w.heap.size + 1 + 1]? = some (cT #[A E p.id, A E s.num, (.slice qe (s.out.length + R.out.length) qf), A E (s.steps + R.steps)] 75 (0, 0)) := (heap_setCell_same wb (w.heap.size + 1 + 1) 0 _ _ (A E p.id) hsa).trans rfl
        have hza := (heap_setCell_other wb ⟨w.heap.size + 1 + 1, 0, none⟩ (w.heap.size + 1) (A E p.id) (show w.heap.size + 1 ≠ w.heap.size + 1 + 1 by omega)).trans hza
        have hka := z17 hka ⟨w.heap.size + 1 + 1, 0, none⟩ (A E p.id) (show w.heap.size <= w.heap.size + 1 + 1 by omega)
        have hoa := ownsRow_setCell_below hoa (a := ⟨w.heap.size + 1 + 1, 0, none⟩) (show w.heap.size + 1 + 1 < w.heap.size + 1 + 1 + 1 by omega) (A E p.id)
        generalize wb.setCell ⟨w.heap.size + 1 + 1, 0, none⟩ (A E p.id) = wf at hs1 hza hka hoa hd1 ⊢
        have c1 : wf.cell? ⟨w.heap.size + 1 + 1, 1, none⟩ = some (A E s.num) := (cell_of_row wf _ 1 _ _ _ hs1).trans rfl
        have f1 : wf.frozen? ⟨w.heap.size + 1 + 1, 1, none⟩ = false := by simp [World.frozen?, hs1]
        have hd2 : SdSt B g (Dsk.cell (d.put k { d.g k with ps := pre ++ p.ran R :: rest' })) (cT (rnCs R (.slice qb R.out.length qd)) 139 (0, 0)) (wf.setCell ⟨w.heap.size + 1 + 1, 1, none⟩ (A E R.num)) := zFn hd1 (S := w.heap.size + 1 + 1) (i := 1) (by omega) (by omega) _
        refine wpAnyH_ready (rs := [5]) (by kernel_rfl) (by simp) ?_
        refine (z6p (some 63) (A E R.num) wf rfl rfl (by rfl) (by have c2 : World.cell? wf ⟨g, 0, none⟩ = some (A E R.num) := (cell_of_row wf _ 0 _ _ _ hd1.2).trans rfl; go_simp; try rfl) hd1 ?_ AllReadyH.nil)
        simp only [Act.put, siA, scZ, scS]
        refine z0x (i := 8) (some 65) (pT (some ⟨w.heap.size + 1 + 1, 1, none⟩)) rfl rfl (by kernel_rfl) (by kernel_rfl) (by kernel_rfl) (fun _ _ _ h => h) (by rfl) (fun V hV => by go_simp; try rfl) hd1 ?_
        simp only [Act.put, siA, scZ, scS]
        refine wpAnyH_ready (rs := [9]) (by kernel_rfl) (by simp) ?_
        refine (z5x (wf.setCell ⟨w.heap.size + 1 + 1, 1, none⟩ (A E R.num)) rfl rfl (by rfl) (by go_simp; try rfl) hd2 ?_ AllReadyH.nil)
        simp only [Act.put, siA, scZ, scS]
        refine wpAnyH_done (by kernel_rfl) ?_ _
        go_wp2_with fail
        go_meet
        exact ⟨hd2.1, (heap_setCell_other wf ⟨w.heap.size + 1 + 1, 1, none⟩ (w.heap.size + 1) (A E R.num) (show w.heap.size + 1 ≠ w.heap.size + 1 + 1 by omega)).trans hza, (heap_setCell_same wf (w.heap.size + 1 + 1) 1 _ _ (A E R.num) hs1).trans rfl, z17 hka ⟨w.heap.size + 1 + 1, 1, none⟩ (A E R.num) (show w.heap.size <= w.heap.size + 1 + 1 by omega), ownsRow_setCell_below hoa (a := ⟨w.heap.size + 1 + 1, 1, none⟩) (show w.heap.size + 1 + 1 < w.heap.size + 1 + 1 + 1 by omega) (A E R.num)⟩
      ·simp only [Act.put, siA, scZ, scS]
       refine wpAnyH_ready (rs := [3]) (by kernel_rfl) (by simp) ?_
       refine (z6p (some 61) (A E p.id) wb rfl rfl (by rfl) (by have c2 := z76 (j := 0) hSd.1 hk e8 (by decide); rw [hpi2] at c2; have c2 : World.cell? wb ⟨B, k * 317 + i * 19, none⟩ = some (A E p.id) := c2; go_simp; try rfl) hSd ?_ AllReadyH.nil)
       simp only [Act.put, siA, scZ, scS]
       refine z0x (i := 6) (some 64) (pT (some ⟨w.heap.size + 1 + 1, 0, none⟩)) rfl rfl (by kernel_rfl) (by kernel_rfl) (by kernel_rfl) (fun _ _ _ h => h) (by rfl) (fun V hV => by go_simp; try rfl) hSd ?_
       simp only [Act.put, siA, scZ, scS]
       refine wpAnyH_ready (rs := [7]) (by kernel_rfl) (by simp) ?_
       refine (z5x (wb.setCell ⟨w.heap.size + 1 + 1, 0, none⟩ (A E p.id)) rfl rfl (by rfl) (by go_simp; try rfl) hd1 ?_ AllReadyH.nil)
       simp only [Act.put, siA, scZ, scS]
       have hs1 : (wb.setCell ⟨w.heap.size + 1 + 1, 0, none⟩ (A E p.id)).heap[w.heap.size + 1 + 1]? = some (cT #[A E p.id, A E s.num, (.slice qe (s.out.length + R.out.length) qf), A E (s.steps + R.steps)] 75 (0, 0)) := (heap_setCell_same wb (w.heap.size + 1 + 1) 0 _ _ (A E p.id) hsa).trans rfl
       have hza := (heap_setCell_other wb ⟨w.heap.size + 1 + 1, 0, none⟩ (w.heap.size + 1) (A E p.id) (show w.heap.size + 1 ≠ w.heap.size + 1 + 1 by omega)).trans hza
       have hka := z17 hka ⟨w.heap.size + 1 + 1, 0, none⟩ (A E p.id) (show w.heap.size <= w.heap.size + 1 + 1 by omega)
       have hoa := ownsRow_setCell_below hoa (a := ⟨w.heap.size + 1 + 1, 0, none⟩) (show w.heap.size + 1 + 1 < w.heap.size + 1 + 1 + 1 by omega) (A E p.id)
       generalize wb.setCell ⟨w.heap.size + 1 + 1, 0, none⟩ (A E p.id) = wf at hs1 hza hka hoa hd1 ⊢
       have c1 : wf.cell? ⟨w.heap.size + 1 + 1, 1, none⟩ = some (A E s.num) := (cell_of_row wf _ 1 _ _ _ hs1).trans rfl
       have f1 : wf.frozen? ⟨w.heap.size + 1 + 1, 1, none⟩ = false := by simp [World.frozen?, hs1]
       have hd2 : SdSt B g (Dsk.cell (d.put k { d.g k with ps := pre ++ p.ran R :: rest' })) (cT (rnCs R (.slice qb R.out.length qd)) 139 (0, 0)) (wf.setCell ⟨w.heap.size + 1 + 1, 1, none⟩ (A E R.num)) := zFn hd1 (S := w.heap.size + 1 + 1) (i := 1) (by omega) (by omega) _
       refine z0x (i := 8) (some 65) (pT (some ⟨w.heap.size + 1 + 1, 1, none⟩)) rfl rfl (by kernel_rfl) (by kernel_rfl) (by kernel_rfl) (fun _ _ _ h => h) (by rfl) (fun V hV => by go_simp; try rfl) hd1 ?_
       simp only [Act.put, siA, scZ, scS]
       refine wpAnyH_ready (rs := [9]) (by kernel_rfl) (by simp) ?_
       refine (z5x (wf.setCell ⟨w.heap.size + 1 + 1, 1, none⟩ (A E R.num)) rfl rfl (by rfl) (by go_simp; try rfl) hd2 ?_ AllReadyH.nil)
       simp only [Act.put, siA, scZ, scS]
       refine wpAnyH_done (by kernel_rfl) ?_ _
       go_wp2_with fail
       go_meet
       exact ⟨hd2.1, (heap_setCell_other wf ⟨w.heap.size + 1 + 1, 1, none⟩ (w.heap.size + 1) (A E R.num) (show w.heap.size + 1 ≠ w.heap.size + 1 + 1 by omega)).trans hza, (heap_setCell_same wf (w.heap.size + 1 + 1) 1 _ _ (A E R.num) hs1).trans rfl, z17 hka ⟨w.heap.size + 1 + 1, 1, none⟩ (A E R.num) (show w.heap.size <= w.heap.size + 1 + 1 by omega), ownsRow_setCell_below hoa (a := ⟨w.heap.size + 1 + 1, 1, none⟩) (show w.heap.size + 1 + 1 < w.heap.size + 1 + 1 + 1 by omega) (A E R.num)⟩
     ·simp only [Act.put, siA, scZ, scS]
      refine wpAnyH_ready (rs := [1]) (by kernel_rfl) (by simp) ?_
      refine (z6p (some 59) (pT (some ⟨B, k * 317 + i * 19, none⟩)) wb rfl rfl (by rfl) (by go_simp; try rfl) hSd ?_ AllReadyH.nil)
      simp only [Act.put, siA, scZ, scS]
      refine z0x (i := 2) (some 60) (pT (some ⟨B, k * 317 + i * 19, none⟩)) rfl rfl (by kernel_rfl) (by kernel_rfl) (by kernel_rfl) (fun _ _ _ h => h) (by rfl) (fun V hV => by go_simp; try rfl) hSd ?_
      simp only [Act.put, siA, scZ, scS]
      refine wpAnyH_ready (rs := [3]) (by kernel_rfl) (by simp) ?_
      refine (z6p (some 61) (A E p.id) wb rfl rfl (by rfl) (by have c2 := z76 (j := 0) hSd.1 hk e8 (by decide); rw [hpi2] at c2; have c2 : World.cell? wb ⟨B, k * 317 + i * 19, none⟩ = some (A E p.id) := c2; go_simp; try rfl) hSd ?_ AllReadyH.nil)
      simp only [Act.put, siA, scZ, scS]
      refine z0x (i := 6) (some 64) (pT (some ⟨w.heap.size + 1 + 1, 0, none⟩)) rfl rfl (by kernel_rfl) (by kernel_rfl) (by kernel_rfl) (fun _ _ _ h => h) (by rfl) (fun V hV => by go_simp; try rfl) hSd ?_
      simp only [Act.put, siA, scZ, scS]
      refine wpAnyH_ready (rs := [7]) (by kernel_rfl) (by simp) ?_
      refine (z5x (wb.setCell ⟨w.heap.size + 1 + 1, 0, none⟩ (A E p.id)) rfl rfl (by rfl) (by go_simp; try rfl) hd1 ?_ AllReadyH.nil)
      simp only [Act.put, siA, scZ, scS]
      have hs1 : (wb.setCell ⟨w.heap.size + 1 + 1, 0, none⟩ (A E p.id)).heap[w.heap.size + 1 + 1]? = some (cT #[A E p.id, A E s.num, (.slice qe (s.out.length + R.out.length) qf), A E (s.steps + R.steps)] 75 (0, 0)) := (heap_setCell_same wb (w.heap.size + 1 + 1) 0 _ _ (A E p.id) hsa).trans rfl
      have hza := (heap_setCell_other wb ⟨w.heap.size + 1 + 1, 0, none⟩ (w.heap.size + 1) (A E p.id) (show w.heap.size + 1 ≠ w.heap.size + 1 + 1 by omega)).trans hza
      have hka := z17 hka ⟨w.heap.size + 1 + 1, 0, none⟩ (A E p.id) (show w.heap.size <= w.heap.size + 1 + 1 by omega)
      have hoa := ownsRow_setCell_below hoa (a := ⟨w.heap.size + 1 + 1, 0, none⟩) (show w.heap.size + 1 + 1 < w.heap.size + 1 + 1 + 1 by omega) (A E p.id)
      generalize wb.setCell ⟨w.heap.size + 1 + 1, 0, none⟩ (A E p.id) = wf at hs1 hza hka hoa hd1 ⊢
      have c1 : wf.cell? ⟨w.heap.size + 1 + 1, 1, none⟩ = some (A E s.num) := (cell_of_row wf _ 1 _ _ _ hs1).trans rfl
      have f1 : wf.frozen? ⟨w.heap.size + 1 + 1, 1, none⟩ = false := by simp [World.frozen?, hs1]
      have hd2 : SdSt B g (Dsk.cell (d.put k { d.g k with ps := pre ++ p.ran R :: rest' })) (cT (rnCs R (.slice qb R.out.length qd)) 139 (0, 0)) (wf.setCell ⟨w.heap.size + 1 + 1, 1, none⟩ (A E R.num)) := zFn hd1 (S := w.heap.size + 1 + 1) (i := 1) (by omega) (by omega) _
      refine z0x (i := 8) (some 65) (pT (some ⟨w.heap.size + 1 + 1, 1, none⟩)) rfl rfl (by kernel_rfl) (by kernel_rfl) (by kernel_rfl) (fun _ _ _ h => h) (by rfl) (fun V hV => by go_simp; try rfl) hd1 ?_
      simp only [Act.put, siA, scZ, scS]
      refine wpAnyH_ready (rs := [9]) (by kernel_rfl) (by simp) ?_
      refine (z5x (wf.setCell ⟨w.heap.size + 1 + 1, 1, none⟩ (A E R.num)) rfl rfl (by rfl) (by go_simp; try rfl) hd2 ?_ AllReadyH.nil)
      simp only [Act.put, siA, scZ, scS]
      refine wpAnyH_done (by kernel_rfl) ?_ _
      go_wp2_with fail
      go_meet
      exact ⟨hd2.1, (heap_setCell_other wf ⟨w.heap.size + 1 + 1, 1, none⟩ (w.heap.size + 1) (A E R.num) (show w.heap.size + 1 ≠ w.heap.size + 1 + 1 by omega)).trans hza, (heap_setCell_same wf (w.heap.size + 1 + 1) 1 _ _ (A E R.num) hs1).trans rfl, z17 hka ⟨w.heap.size + 1 + 1, 1, none⟩ (A E R.num) (show w.heap.size <= w.heap.size + 1 + 1 by omega), ownsRow_setCell_below hoa (a := ⟨w.heap.size + 1 + 1, 1, none⟩) (show w.heap.size + 1 + 1 < w.heap.size + 1 + 1 + 1 by omega) (A E R.num)⟩
    obtain ⟨hdF, hzF, hsF, hkF, hoF⟩ := hcut.out
    clear hcut hda hza hsa hka hoa hgga
    go_upto_region 13 with fail
    go_step
    refine wpList_load_row rfl 75 (.tmp 7) rfl (w.heap.size + 1 + 1) rfl 75 #[A E p.id, A E R.num, (.slice qe (s.out.length + R.out.length) qf), A E (s.steps + R.steps)] (0, 0) _ hsF Tryz.underlying75 rfl Tryz.infoSaid ?_
    simp only [Act.put, siA, scZ, scS]
    refine wpList_store_row rfl 75 (.tmp 6) (.tmp 67) rfl (w.heap.size + 1) #[A E p.id, A E R.num, (.slice qe (s.out.length + R.out.length) qf), A E (s.steps + R.steps)] rfl rfl 75 #[A E 0, A E 0, .slice none 0 0, A E 0] hzF Tryz.infoSaid rfl (by kernel_rfl) ?_
    simp only [Act.put, siA, scZ, scS]
    have hr0 := setRow_heap _ (w.heap.size + 1) _ #[A E p.id, A E R.num, (.slice qe (s.out.length + R.out.length) qf), A E (s.steps + R.steps)] 75 (0, 0) hzF
    have hdG := FnAt.block hdF (setRow_other _ (w.heap.size + 1) B #[A E p.id, A E R.num, (.slice qe (s.out.length + R.out.length) qf), A E (s.steps + R.steps)] (show B ≠ w.heap.size + 1 by omega))
    have hkG := zFo hkF #[A E p.id, A E R.num, (.slice qe (s.out.length + R.out.length) qf), A E (s.steps + R.steps)]
    have hoG := z7j hoF (Nat.le_refl _) (g := w.heap.size + 1) (cs := #[A E p.id, A E R.num, (.slice qe (s.out.length + R.out.length) qf), A E (s.steps + R.steps)]) (fun e => by have := (World.ownsRow.lt hoF _ e).1; omega)
    go_wp2_with fail
    refine bodyPost_ret (v := .agg #[A E p.id, A E R.num, (.slice qe (s.out.length + R.out.length) qf), A E (s.steps + R.steps)]) (zAa _ _ (w.heap.size + 1) _ rfl hr0 rfl) rfl ⟨(.slice qe (s.out.length + R.out.length) qf), ?_, hkG, ?_, ?_⟩
    ·rw [HG.out]
    ·rw [HG.out]; exact hdG
    ·rw [HG.out]; dsimp only; rw [List.length_append, List.map_append]; exact hoG
  ·obtain ⟨pre, rest, s, vo, hpre, hsum, hgo, hkF, hdF, ht, hzF, hsF, hoF, hpg, hfo, hf1, hf2⟩ := H.out.ex
   obtain rfl : rest = [] := List.eq_nil_of_length_eq_zero (by rw [HN.out] at hsum; omega)
   obtain ⟨qa, qc, rfl⟩ := z4c hoF
   have HG : Hid (z08 T time (d.g k).ps sd0 = (s, pre ++ [])) := hgo
   clear hgo
   have hlt' : ¬ (i : Int) < (N : Int) := by omega
   have n3 : decide ((i : Int) < (N : Int)) = false := by simp; omega
   go_upto_region 13 with fail
   go_step
   refine wpList_load_row rfl 75 (.tmp 7) rfl (w.heap.size + 1 + 1) rfl 75 #[A E s.bf, A E s.num, .slice qa s.out.length qc, A E s.steps] (0, 0) _ hsF Tryz.underlying75 rfl Tryz.infoSaid ?_
   simp only [Act.put, siA, scZ, scS]
   refine wpList_store_row rfl 75 (.tmp 6) (.tmp 67) rfl (w.heap.size + 1) #[A E s.bf, A E s.num, .slice qa s.out.length qc, A E s.steps] rfl rfl 75 #[A E 0, A E 0, .slice none 0 0, A E 0] hzF Tryz.infoSaid rfl (by kernel_rfl) ?_
   simp only [Act.put, siA, scZ, scS]
   have hr0 := setRow_heap _ (w.heap.size + 1) _ #[A E s.bf, A E s.num, .slice qa s.out.length qc, A E s.steps] 75 (0, 0) hzF
   have hdG := FnAt.block hdF (setRow_other _ (w.heap.size + 1) B #[A E s.bf, A E s.num, .slice qa s.out.length qc, A E s.steps] (show B ≠ w.heap.size + 1 by omega))
   have hkG := zFo hkF #[A E s.bf, A E s.num, .slice qa s.out.length qc, A E s.steps]
   have hoG := z7j hoF (Nat.le_refl _) (g := w.heap.size + 1) (cs := #[A E s.bf, A E s.num, .slice qa s.out.length qc, A E s.steps]) (fun e => by have := (World.ownsRow.lt hoF _ e).1; omega)
   go_wp2_with fail
   refine bodyPost_ret (v := .agg #[A E s.bf, A E s.num, .slice qa s.out.length qc, A E s.steps]) (zAa _ _ (w.heap.size + 1) _ rfl hr0 rfl) rfl ⟨(.slice qa s.out.length qc), ?_, hkG, ?_, ?_⟩
   ·rw [HG.out]
   ·rw [HG.out]; exact hdG
   ·rw [HG.out]; exact hoG
end
section
open Go.ChangeShapes Go.WideShapes Go.ChangeAt Go.RowKit
attribute [local simp] z00 z0d z07
theorem zVx (B k i r : Nat) (hk : k < 3) (hi : i < 8) (d : Dsk) (p : Pg) (x : Int) (w : World) (hD : z0k w B d) (hr : w.heap[r]? = some (cT #[A E x] 3 (0, 0))) (HP : Hid ((d.g k).ps.getD i pg0 = p)) : Calls tP 37 #[pT (some ⟨B, k * 317 + i * 19, none⟩), pT (some ⟨r, 0, none⟩)] w fun e w' => e = rT (.bool (decide (x < p.rank))) /\ Below w.heap.size w w' := by
 have hK : Blk w [(r, cT #[A E x] 3 (0, 0)), (B, cT (Array.ofFn (n := 952) fun i => Dsk.cell d i.1) 93 (0, 0))] w := ((Blk.nil (bF _ _)).cons hD).cons hr
 go_enter Tryz.func37, Tryz.ntmps37
 go_upto_region 1 with fail
 refine z0l (C := Blk w [(r, cT #[A E x] 3 (0, 0)), (B, cT (Array.ofFn (n := 952) fun i => Dsk.cell d i.1) 93 (0, 0))]) (n0 := w.heap.size) 6 [] [] (by kernel_rfl) (by kernel_rfl) (fun d _ _ _ _ h => by cases d <;> exact h) (Blk.stable _ _) (fun w2 h => h.1.size) hK.drew trivial ?_
 simp only [List.take_succ_cons, List.take_zero, List.drop_succ_cons, List.drop_zero, List.length_nil, Nat.reduceAdd]
 repeat (first
  | (refine z0i (by rfl) ?_; simp only [Act.put, siA, scZ, scS])
  | (refine z0a (by rfl) (v := ?_) ?_ ?_; rotate_left; (intro w2 hC; have hDk : z0k _ B d := (hC.2 _ (mcO _ mcS)); have c2 : World.cell? _ ⟨B, k * 317 + i * 19 + 1, none⟩ = some (A E p.rank) := (by have h := z76 (j := 1) hDk hk hi (by decide); rw [HP.out] at h; exact h); have c3 : World.cell? _ ⟨r, 0, none⟩ = some (A E x) := (cell_of_row _ _ 0 _ _ _ (hC.2 _ mcS)).trans rfl; go_simp; try with_reducible rfl); simp only [Act.put, siA, scZ, scS]))
 refine z0r ?_
 intro w3 hC hB3
 go_wp2_with fail
 go_ret
 exact ⟨rfl, hC.1⟩
theorem so_id (B k i r : Nat) (hk : k < 3) (hi : i < 8) (d : Dsk) (p : Pg) (x : Int) (w : World) (hD : z0k w B d) (hr : w.heap[r]? = some (cT #[A E x] 3 (0, 0))) (HP : Hid ((d.g k).ps.getD i pg0 = p)) : Calls tP 47 #[pT (some ⟨B, k * 317 + i * 19, none⟩), pT (some ⟨r, 0, none⟩)] w fun e w' => e = rT (.bool (p.id == x)) /\ Below w.heap.size w w' := by
 have hK : Blk w [(r, cT #[A E x] 3 (0, 0)), (B, cT (Array.ofFn (n := 952) fun i => Dsk.cell d i.1) 93 (0, 0))] w := ((Blk.nil (bF _ _)).cons hD).cons hr
 go_enter Tryz.func47, Tryz.ntmps47
 go_upto_region 1 with fail
 refine z0l (C := Blk w [(r, cT #[A E x] 3 (0, 0)), (B, cT (Array.ofFn (n := 952) fun i => Dsk.cell d i.1) 93 (0, 0))]) (n0 := w.heap.size) 6 [] [] (by kernel_rfl) (by kernel_rfl) (fun d _ _ _ _ h => by cases d <;> exact h) (Blk.stable _ _) (fun w2 h => h.1.size) hK.drew trivial ?_
 simp only [List.take_succ_cons, List.take_zero, List.drop_succ_cons, List.drop_zero, List.length_nil, Nat.reduceAdd]
 repeat (first
  | (refine z0i (by rfl) ?_; simp only [Act.put, siA, scZ, scS])
  | (refine z0a (by rfl) (v := ?_) ?_ ?_; rotate_left; (intro w2 hC; have hDk : z0k _ B d := (hC.2 _ (mcO _ mcS)); have c2 : World.cell? _ ⟨B, k * 317 + i * 19, none⟩ = some (A E p.id) := (by have h := z76 (j := 0) hDk hk hi (by decide); rw [HP.out] at h; exact h); have c3 : World.cell? _ ⟨r, 0, none⟩ = some (A E x) := (cell_of_row _ _ 0 _ _ _ (hC.2 _ mcS)).trans rfl; go_simp; try with_reducible rfl); simp only [Act.put, siA, scZ, scS]))
 refine z0r ?_
 intro w3 hC hB3
 go_wp2_with fail
 go_ret
 exact ⟨rfl, hC.1⟩
theorem z8s {α : Type} (q : α -> Bool) (z : α) : ∀ (l : List α) (i : Nat), i < l.length -> (∀ j, j < i -> q (l.getD j z) = false) -> q (l.getD i z) = true -> l.findIdx q = i
 | [], i, h, _, _ => absurd h (Nat.not_lt_zero i)
 | x :: l, 0, _, _, h => by
  have h' : q x = true := h
  rw [List.findIdx_cons, h']; rfl
 | x :: l, i + 1, h, ho, hq => by
  have h0 : q x = false := ho 0 (Nat.succ_pos i)
  rw [List.findIdx_cons, h0]
  show l.findIdx q + 1 = i + 1
  rw [z8s q z l i (Nat.lt_of_succ_lt_succ h) (fun j hj => ho (j + 1) (Nat.succ_lt_succ hj)) hq]
theorem z66 {α : Type} (q : α -> Bool) (z : α) : ∀ (l : List α), (∀ j, j < l.length -> q (l.getD j z) = false) -> l.findIdx q = l.length
 | [], _ => rfl
 | x :: l, ho => by
  have h0 : q x = false := ho 0 (Nat.succ_pos _)
  rw [List.findIdx_cons, h0]
  show l.findIdx q + 1 = l.length + 1
  rw [z66 q z l (fun j hj => ho (j + 1) (Nat.succ_lt_succ hj))]
theorem zNs (B k r : Nat) (hk : k < 3) (d : Dsk) (x : Int) (w : World) (hD : z0k w B d) (h8 : (d.g k).ps.length <= 8) (hr : w.heap[r]? = some (cT #[A E x] 3 (0, 0))) : Calls tP 36 #[pT (some ⟨B, k * 317, none⟩), .func (.func 37) #[] #[pT (some ⟨r, 0, none⟩)]] w fun e w' => e = rT (A E (((d.g k).ps.findIdx fun p => decide (x < p.rank) : Nat) : Int)) /\ Below w.heap.size w w' := by
 have hc0 := z2n hD hk
 obtain ⟨N, HN⟩ : ∃ N, Hid ((d.g k).ps.length = N) := ⟨_, rfl⟩
 have hN : (N : Int) <= 8 := by have := HN.out; omega
 rw [HN.out] at hc0
 go_enter Tryz.func36, Tryz.ntmps36
 go_wp2_with fail
 clear hc0
 go_loopw [10] (fun iv wr => ∃ i : Nat, iv = A E i /\ i <= N /\ Below w.heap.size w wr /\ Hid (∀ j, j < i -> (fun p : Pg => decide (x < p.rank)) ((d.g k).ps.getD j pg0) = false)) (fun iv _ => N - (intOf iv).toNat)
 case atStart => exact ⟨0, rfl, Nat.zero_le _, bF _ _, fun j hj => absurd hj (Nat.not_lt_zero j)⟩
 case round =>
  obtain ⟨i, rfl, hi, hb, H⟩ := hrel
  have hi0 : (0 : Int) <= (i : Int) := by omega
  have hDr := FnAt.later hD hb
  have hrr := (hb.block r (Array.getElem?_eq_some_iff.1 hr).1).trans hr
  by_cases hlt : i < N
  ·have hlt' : (i : Int) < (N : Int) := by omega
   have hi8 : (i : Int) < 8 := by omega
   obtain ⟨p, HP⟩ : ∃ p, Hid ((d.g k).ps.getD i pg0 = p) := ⟨_, rfl⟩
   obtain ⟨b, HBb⟩ : ∃ b, Hid ((fun p : Pg => decide (x < p.rank)) p = b) := ⟨_, rfl⟩
   have HS := zVx B k i r hk (by omega) d p x wr hDr hrr HP
   rw [show (decide (x < p.rank)) = b from HBb.out] at HS
   cases b with
   | false =>
    go_wp2_with (go_at_call 37; refine HS.mono ?_; rintro e w1 ⟨rfl, hb1⟩)
    go_roundw
    case rel =>
     refine ⟨i + 1, by go_num, by omega, hb.trans (hb1.mono hb.size), fun j hj => ?_⟩
     rcases Nat.lt_succ_iff_lt_or_eq.1 hj with h | h
     ·exact H.out j h
     ·rw [h, HP.out]; exact HBb.out
    case measure => simp [intOf]; omega
   | true =>
    go_wp2_with (go_at_call 37; refine HS.mono ?_; rintro e w1 ⟨rfl, hb1⟩)
    go_ret
    refine ⟨?_, hb.trans (hb1.mono hb.size)⟩
    rw [z8s (fun p : Pg => decide (x < p.rank)) pg0 (d.g k).ps i (by rw [HN.out]; exact hlt) H.out (by rw [HP.out]; exact HBb.out)]
    rfl
  ·obtain rfl : i = N := by omega
   have hc1 := z2n hDr hk
   rw [HN.out] at hc1
   go_wp2_with fail
   go_ret
   refine ⟨?_, hb⟩
   rw [z66 (fun p : Pg => decide (x < p.rank)) pg0 (d.g k).ps (by rw [HN.out]; exact H.out), HN.out]
   rfl
theorem zUg (B k r : Nat) (hk : k < 3) (d : Dsk) (x : Int) (w : World) (hD : z0k w B d) (h8 : (d.g k).ps.length <= 8) (hr : w.heap[r]? = some (cT #[A E x] 3 (0, 0))) : Calls tP 36 #[pT (some ⟨B, k * 317, none⟩), .func (.func 47) #[] #[pT (some ⟨r, 0, none⟩)]] w fun e w' => e = rT (A E (((d.g k).ps.findIdx fun p => p.id == x : Nat) : Int)) /\ Below w.heap.size w w' := by
 have hc0 := z2n hD hk
 obtain ⟨N, HN⟩ : ∃ N, Hid ((d.g k).ps.length = N) := ⟨_, rfl⟩
 have hN : (N : Int) <= 8 := by have := HN.out; omega
 rw [HN.out] at hc0
 go_enter Tryz.func36, Tryz.ntmps36
 go_wp2_with fail
 clear hc0
 go_loopw [10] (fun iv wr => ∃ i : Nat, iv = A E i /\ i <= N /\ Below w.heap.size w wr /\ Hid (∀ j, j < i -> (fun p : Pg => p.id == x) ((d.g k).ps.getD j pg0) = false)) (fun iv _ => N - (intOf iv).toNat)
 case atStart => exact ⟨0, rfl, Nat.zero_le _, bF _ _, fun j hj => absurd hj (Nat.not_lt_zero j)⟩
 case round =>
  obtain ⟨i, rfl, hi, hb, H⟩ := hrel
  have hi0 : (0 : Int) <= (i : Int) := by omega
  have hDr := FnAt.later hD hb
  have hrr := (hb.block r (Array.getElem?_eq_some_iff.1 hr).1).trans hr
  by_cases hlt : i < N
  ·have hlt' : (i : Int) < (N : Int) := by omega
   have hi8 : (i : Int) < 8 := by omega
   obtain ⟨p, HP⟩ : ∃ p, Hid ((d.g k).ps.getD i pg0 = p) := ⟨_, rfl⟩
   obtain ⟨b, HBb⟩ : ∃ b, Hid ((fun p : Pg => p.id == x) p = b) := ⟨_, rfl⟩
   have HS := so_id B k i r hk (by omega) d p x wr hDr hrr HP
   rw [show (p.id == x) = b from HBb.out] at HS
   cases b with
   | false =>
    go_wp2_with (go_at_call 47; refine HS.mono ?_; rintro e w1 ⟨rfl, hb1⟩)
    go_roundw
    case rel =>
     refine ⟨i + 1, by go_num, by omega, hb.trans (hb1.mono hb.size), fun j hj => ?_⟩
     rcases Nat.lt_succ_iff_lt_or_eq.1 hj with h | h
     ·exact H.out j h
     ·rw [h, HP.out]; exact HBb.out
    case measure => simp [intOf]; omega
   | true =>
    go_wp2_with (go_at_call 47; refine HS.mono ?_; rintro e w1 ⟨rfl, hb1⟩)
    go_ret
    refine ⟨?_, hb.trans (hb1.mono hb.size)⟩
    rw [z8s (fun p : Pg => p.id == x) pg0 (d.g k).ps i (by rw [HN.out]; exact hlt) H.out (by rw [HP.out]; exact HBb.out)]
    rfl
  ·obtain rfl : i = N := by omega
   have hc1 := z2n hDr hk
   rw [HN.out] at hc1
   go_wp2_with fail
   go_ret
   refine ⟨?_, hb⟩
   rw [z66 (fun p : Pg => p.id == x) pg0 (d.g k).ps (by rw [HN.out]; exact H.out), HN.out]
   rfl
end
section
open Go.RowKit
section
variable {C D S : Nat -> Int} {R : Nat -> Bool} {O N : Nat -> Int} {C' D' S' : Nat -> Int} {R' : Nat -> Bool} {O' N' : Nat -> Int} {len sh : Nat}
end
end
section
open Go.ChangeShapes Go.WideShapes Go.ChangeAt Go.RowKit
def zA1 (len : Nat) (C D S : Nat -> Int) (R : Nat -> Bool) (O N : Nat -> Int) : List St := (List.range len).map fun i => ⟨C i, D i, S i, R i, O i, N i⟩
theorem zHa (x : St) (xs : List St) : z1q (x :: xs) = x.cells.toList ++ z1q xs := by simp [z1q]
theorem z77 : ∀ xs : List St, (z1q xs).length = xs.length * 6
 | [] => rfl
 | x :: xs => by rw [zHa, List.length_append, z77 xs, z4p, lQ]; omega
theorem zJu (xs : List St) : ∀ u ∈ z1q xs, u.oneCell' = true := by
 intro u hu
 obtain ⟨l, hl, hu⟩ := List.mem_flatten.mp hu
 obtain ⟨x, -, rfl⟩ := List.mem_map.mp hl
 exact zP9 x u hu
theorem six_at {w : World} {bk o : Nat} {x : St} (h : w.cell? ⟨bk, o, none⟩ = some (A E x.c) /\ w.cell? ⟨bk, o + 1, none⟩ = some (A E x.d) /\ w.cell? ⟨bk, o + 2, none⟩ = some (A E x.s) /\ w.cell? ⟨bk, o + 3, none⟩ = some (.bool x.r) /\ w.cell? ⟨bk, o + 4, none⟩ = some (A E x.o) /\ w.cell? ⟨bk, o + 5, none⟩ = some (A E x.n)) :
  ∀ k, k < 6 -> w.cell? ⟨bk, o + k, none⟩ = x.cells.toList[k]? := by
 intro k hk
 obtain ⟨h0, h1, h2, h3, h4, h5⟩ := h
 rcases (by omega : k = 0 \/ k = 1 \/ k = 2 \/ k = 3 \/ k = 4 \/ k = 5) with rfl | rfl | rfl | rfl | rfl | rfl
 ·exact h0
 ·exact h1
 ·exact h2
 ·exact h3
 ·exact h4
 ·exact h5
theorem zM9 {w : World} {bk off len : Nat} {xs : List St} (hl : xs.length = len) (hst : z1l w bk off len (fun j => (nth xs j).c) (fun j => (nth xs j).d) (fun j => (nth xs j).s) (fun j => (nth xs j).r) (fun j => (nth xs j).o) (fun j => (nth xs j).n)) :
  ∀ j u, (z1q xs)[j]? = some u -> w.cell? ((⟨bk, off, none⟩ : Addr).add j) = some u := by
 intro j u hj
 have hlt := (List.getElem?_eq_some_iff.1 hj).1
 rw [z77] at hlt
 have hi : j / 6 < len := by omega
 have hk : j % 6 < 6 := Nat.mod_lt _ (by decide)
 have e : j / 6 * 6 + j % 6 = j := by omega
 have h := cells_at xs (j / 6) (j % 6) (by omega) hk
 rw [e, hj] at h
 rw [Addr.add_mid, h, <- six_at (hst (j / 6) hi) (j % 6) hk]
 congr 2
 omega
theorem zZc {xs : List St} {i : Nat} (h : i < xs.length) : nth xs i ∈ xs := by
 unfold nth; rw [List.getElem?_eq_getElem h]; exact List.getElem_mem h
def goL (xs : List St) : (Int × Nat) ⊕ List Kno := goF (fun j => (nth xs j).c) (fun j => (nth xs j).d) (fun j => (nth xs j).s) (fun j => (nth xs j).r) (fun j => (nth xs j).o) (fun j => (nth xs j).n) 4000 [(0, way0)] []
end
end Go.Proofs.YtbimlalhodibjaaGreatDoor
