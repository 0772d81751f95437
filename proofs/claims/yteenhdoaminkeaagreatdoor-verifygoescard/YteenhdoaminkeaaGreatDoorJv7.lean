/-
 A region that draws its order, whose operations are: some that read, or call functions that leave all that was there as it was; then some that make a new block each; then some that come one behind the other, behind all of these. Whatever the order: one walk in the text's order serves, with a letter for each new block. No program is named here. No conditions. The same law, as a walk takes it: values as they come up, then a letter for each new block, then the rest. No program is named here. No conditions. Worlds in which all that was there is as it was, and in which these blocks lie: small laws. No program is named here. No conditions. What package verify's reach returns: which words, or slots, a place leads to. Conditions: the ends are of 64 bits, in order.
-/
import Derived.StillTail
import Derived.Below
import Derived.Laws.Tables
import Derived.Laws.Rows
import Derived.Test.YteenhdoaminkeaaGreatDoorJv6
set_option maxHeartbeats 40000000
open Go.Value renaming int → vI
open Go.IntKind renaming i64 → vK
open Go.RowKit.Below renaming alloc → bA, setCell → bS, drew → bD, refl → bF
set_option maxRecDepth 1000000
set_option linter.defProp false
set_option linter.unusedVariables false
set_option linter.unusedSimpArgs false
namespace Go.Proofs.YteenhdoaminkeaaGreatDoor
open Go.RowKit
section
variable {P : Program} {ops : Array Oper} {md : Region.Mode} {C : World → Prop} {n0 : Nat}
def z8m (P : Program) (w : World) (v : Value) : Result Next → Prop
 | .ok (.value u) w' => w' = w ∧ u = v
 | .ok .skip w' => w' = w ∧ v = undef
 | .ok (.enter f args) w' => w' = w ∧ Calls P f args w (fun e w'' => e = .returned v ∧ Below w.heap.size w w'')
 | _ => False
abbrev z60 : Type := Value ⊕ (Obj × (Nat → Value))
def z5k (P : Program) (ops : Array Oper) (C : World → Prop) (o : Oper) (a : Act) : z60 → Prop
 | .inl v => (Region.wanted o (yielded ops a.tmps) = true ∧ ∀ w, C w → z8m P w v ((execOp a.eval o).run P w)) ∨ (Region.wanted o (yielded ops a.tmps) = false ∧ v = undef)
 | .inr (z, f) => Region.wanted o (yielded ops a.tmps) = true ∧ ∀ w, C w → (execOp a.eval o).run P w = .ok (.value (f w.heap.size)) (w.alloc z)
abbrev FB : Type := Nat → Option Obj
def FB.upd (B : FB) (L : Nat) (z : Obj) : FB := fun k => if k = L then some z else B k
theorem FB.upd_comm (B : FB) {L L' : Nat} (h : L ≠ L') (z z' : Obj) : FB.upd (FB.upd B L z) L' z' = FB.upd (FB.upd B L' z') L z := by
 funext k
 unfold FB.upd
 by_cases h1 : k = L'
 ·rw [if_pos h1, if_neg (by omega), if_pos h1]
 ·rw [if_neg h1]
  by_cases h2 : k = L
  ·rw [if_pos h2, if_pos h2]
  ·rw [if_neg h2, if_neg h2, if_neg h1]
theorem FB.upd_none {B : FB} {L L' : Nat} {z : Obj} (h : FB.upd B L z L' = none) : L' ≠ L ∧ B L' = none := by
 unfold FB.upd at h
 by_cases e : L' = L
 ·rw [if_pos e] at h; cases h
 ·rw [if_neg e] at h; exact ⟨e, h⟩
theorem FB.none_upd {B : FB} {L L' : Nat} {z : Obj} (h : L' ≠ L) (h' : B L' = none) : FB.upd B L z L' = none := by
 unfold FB.upd; rw [if_neg h]; exact h'
def FB.Fin (B : FB) : Prop := ∃ m, ∀ L, m ≤ L → B L = none
theorem FB.Fin.upd {B : FB} (h : FB.Fin B) (L : Nat) (z : Obj) : FB.Fin (FB.upd B L z) := by
 obtain ⟨m, hm⟩ := h
 exact ⟨m + L + 1, fun k hk => FB.none_upd (by omega) (hm k (by omega))⟩
theorem FB.Fin.fresh {B : FB} (h : FB.Fin B) (n0 : Nat) : ∃ L, B L = none ∧ n0 ≤ L := by
 obtain ⟨m, hm⟩ := h
 exact ⟨m + n0, hm _ (by omega), by omega⟩
def z5z (n0 : Nat) (o : Oper) (K : Act → FB → Prop) (a : Act) (B : FB) : z60 → Prop
 | .inl v => K (a.put o.dst v) B
 | .inr (z, f) => ∀ L, B L = none → n0 ≤ L → K (a.put o.dst (f L)) (FB.upd B L z)
def fOp (P : Program) (ops : Array Oper) (C : World → Prop) (n0 : Nat) (sp : Nat → z60) (i : Nat) (K : Act → FB → Prop) (a : Act) (B : FB) : Prop :=
 match ops[i]? with
 | none => K a B
 | some o => z5k P ops C o a (sp i) ∧ z5z n0 o K a B (sp i)
def z6i (P : Program) (md : Region.Mode) (ops : Array Oper) (C : World → Prop) (n0 : Nat) (sp : Nat → z60) (n : Nat) (L : Array Bool → Act → FB → Prop) : Nat → Array Bool → Act → FB → Prop
 | 0, listed, a, B => L listed a B
 | f + 1, listed, a, B => (∃ i, i ∈ Region.ready md ops listed ∧ i < n) ∧ ∀ i ∈ Region.ready md ops listed, i < n → fOp P ops C n0 sp i (z6i P md ops C n0 sp n L f (listed.setIfInBounds i true)) a B
def ClsB (C : World → Prop) (B : FB) (w : World) : Prop := C w ∧ ∀ L z, B L = some z → w.heap[L]? = some z
theorem ClsB.later {B : FB} {w w' : World} (hst : ∀ w w', C w → Below w.heap.size w w' → C w') (h : ClsB C B w) (hb : Below w.heap.size w w') : ClsB C B w' :=
 ⟨hst _ _ h.1 hb, fun L z hz => (hb.block L (Array.getElem?_eq_some_iff.1 (h.2 L z hz)).1).trans (h.2 L z hz)⟩
theorem ClsB.new {B : FB} {w : World} (hst : ∀ w w', C w → Below w.heap.size w w' → C w') (h : ClsB C B w) (z : Obj) : B w.heap.size = none ∧ ClsB C (FB.upd B w.heap.size z) (w.alloc z) := by
 refine ⟨?_, ?_⟩
 ·cases hb : B w.heap.size with
  | none => rfl
  | some z' => exact absurd (Array.getElem?_eq_some_iff.1 (h.2 _ _ hb)).1 (Nat.lt_irrefl _)
 ·have hl := h.later hst ((bF _ _).alloc (Nat.le_refl _) z)
  refine ⟨hl.1, fun L z' hz => ?_⟩
  unfold FB.upd at hz
  by_cases e : L = w.heap.size
  ·rw [if_pos e] at hz
   cases hz
   rw [e]
   show (w.heap.push z)[w.heap.size]? = some z
   simp
  ·rw [if_neg e] at hz
   exact hl.2 L z' hz
theorem zDc {sp : Nat → z60} {i : Nat} {a : Act} {B : FB} {K : Act → FB → Prop} {K' : Act → World → Prop} {Q' : Exit → Act → World → Prop} {w : World} (hst : ∀ w w', C w → Below w.heap.size w w' → C w') (hn : ∀ w, C w → n0 ≤ w.heap.size) (hC : ClsB C B w)
  (h : ∀ a B w', ClsB C B w' → K a B → K' a w') (hh : fOp P ops C n0 sp i K a B) : wpOp P ops Q' i K' a w := by
 unfold fOp at hh
 unfold wpOp
 split
 ·rename_i ho; simp only [ho] at hh; exact h _ _ _ hC hh
 ·rename_i o ho
  simp only [ho] at hh
  obtain ⟨h1, h2⟩ := hh
  cases hs : sp i with
  | inl v =>
   rw [hs] at h1 h2
   rcases h1 with ⟨hw, hv⟩ | ⟨hw, rfl⟩
   ·rw [if_pos hw]
    refine Or.inl ?_
    have h3 := hv w hC.1
    unfold Oper.wp
    generalize (execOp a.eval o).run P w = r at h3 ⊢
    cases r with
    | ok nx w' =>
     cases nx <;> simp only [z8m] at h3 <;> simp only [Oper.upon]
     case value u =>
      obtain ⟨e1, e2⟩ := h3
      rw [e1, e2]
      exact h _ _ _ hC h2
     case skip =>
      obtain ⟨e1, e2⟩ := h3
      rw [e1, ← e2]
      exact h _ _ _ hC h2
     case enter f args =>
      obtain ⟨e1, hc⟩ := h3
      rw [e1]
      exact hc.mono fun e w'' ⟨he, hw''⟩ => by subst he; exact h _ _ _ (hC.later hst hw'') h2
    | halt x w' => simp only [z8m] at h3
   ·rw [if_neg (by rw [hw]; decide)]
    exact h _ _ _ hC h2
  | inr zf =>
   obtain ⟨z, f⟩ := zf
   rw [hs] at h1 h2
   obtain ⟨hw, hv⟩ := h1
   rw [if_pos hw]
   refine Or.inl ?_
   unfold Oper.wp
   rw [hv w hC.1]
   simp only [Oper.upon]
   obtain ⟨n1, n2⟩ := hC.new hst z
   exact h _ _ _ n2 (h2 _ n1 (hn w hC.1))
theorem z5k.of_same {o : Oper} {a a' : Act} {s : z60} (h : z5k P ops C o a s) (he : execOp a'.eval o = execOp a.eval o) (hw : Region.wanted o (yielded ops a'.tmps) = Region.wanted o (yielded ops a.tmps)) : z5k P ops C o a' s := by
 cases s with
 | inl v => unfold z5k at *; rw [he, hw]; exact h
 | inr zf => obtain ⟨z, f⟩ := zf; unfold z5k at *; rw [he, hw]; exact h
theorem z5z.mono {o : Oper} {K K' : Act → FB → Prop} {a : Act} {B : FB} {s : z60} (h : z5z n0 o K a B s) (hk : ∀ v B', (B' = B ∨ ∃ L z, B L = none ∧ B' = FB.upd B L z) → K (a.put o.dst v) B' → K' (a.put o.dst v) B') : z5z n0 o K' a B s := by
 cases s with
 | inl v => exact hk v B (Or.inl rfl) h
 | inr zf =>
  obtain ⟨z, f⟩ := zf
  exact fun L h1 h2 => hk _ _ (Or.inr ⟨L, z, h1, rfl⟩) (h L h1 h2)
theorem z5z.swap {oi oj : Oper} {K : Act → FB → Prop} {a : Act} {B : FB} {si sj : z60} (hap : ∀ d, oi.dst = some d → oj.dst ≠ some d) (h : z5z n0 oi (fun a' B' => z5z n0 oj K a' B' sj) a B si) :
  z5z n0 oj (fun a' B' => z5z n0 oi K a' B' si) a B sj := by
 cases si with
 | inl v =>
  cases sj with
  | inl u =>
   have h' : K ((a.put oi.dst v).put oj.dst u) B := h
   show K ((a.put oj.dst u).put oi.dst v) B
   rw [← Act.put_comm a v u hap]; exact h'
  | inr zf =>
   obtain ⟨z, f⟩ := zf
   have h' : ∀ L, B L = none → n0 ≤ L → K ((a.put oi.dst v).put oj.dst (f L)) (FB.upd B L z) := h
   show ∀ L, B L = none → n0 ≤ L → K ((a.put oj.dst (f L)).put oi.dst v) (FB.upd B L z)
   intro L h1 h2
   rw [← Act.put_comm a v (f L) hap]; exact h' L h1 h2
 | inr zg =>
  obtain ⟨z', g⟩ := zg
  cases sj with
  | inl u =>
   have h' : ∀ L, B L = none → n0 ≤ L → K ((a.put oi.dst (g L)).put oj.dst u) (FB.upd B L z') := h
   show ∀ L, B L = none → n0 ≤ L → K ((a.put oj.dst u).put oi.dst (g L)) (FB.upd B L z')
   intro L h1 h2
   rw [← Act.put_comm a (g L) u hap]; exact h' L h1 h2
  | inr zf =>
   obtain ⟨z, f⟩ := zf
   have h' : ∀ L, B L = none → n0 ≤ L → ∀ L', FB.upd B L z' L' = none → n0 ≤ L' → K ((a.put oi.dst (g L)).put oj.dst (f L')) (FB.upd (FB.upd B L z') L' z) := h
   show ∀ L', B L' = none → n0 ≤ L' → ∀ L, FB.upd B L' z L = none → n0 ≤ L → K ((a.put oj.dst (f L')).put oi.dst (g L)) (FB.upd (FB.upd B L' z) L z')
   intro L' h1 h2 L h3 h4
   obtain ⟨e1, e2⟩ := FB.upd_none h3
   rw [← Act.put_comm a (g L) (f L') hap, ← FB.upd_comm B e1]
   exact h' L e2 h4 L' (FB.none_upd (fun e => e1 e.symm) h1) h2
theorem z5z.some {o : Oper} {K : Act → FB → Prop} {a : Act} {B : FB} {s : z60} (hf : FB.Fin B) (h : z5z n0 o K a B s) : ∃ v B', (B' = B ∨ ∃ L z, B L = none ∧ B' = FB.upd B L z) ∧ K (a.put o.dst v) B' := by
 cases s with
 | inl v => exact ⟨v, B, Or.inl rfl, h⟩
 | inr zf =>
  obtain ⟨z, f⟩ := zf
  obtain ⟨L, h1, h2⟩ := hf.fresh n0
  exact ⟨f L, _, Or.inr ⟨L, z, h1, rfl⟩, h L h1 h2⟩
theorem zQv {B B' : FB} (hf : FB.Fin B) (h : B' = B ∨ ∃ L z, B L = none ∧ B' = FB.upd B L z) : FB.Fin B' := by
 rcases h with rfl | ⟨L, z, -, rfl⟩
 ·exact hf
 ·exact hf.upd L z
theorem zBt {sp : Nat → z60} {n i : Nat} {oi : Oper} {L : Array Bool → Act → FB → Prop} (hi : ops[i]? = some oi) (hsel : ∀ (j : Nat) (o : Oper) cs b, ops[j]? = some o → o.op ≠ .select cs b) (hin : i < n)
  (hdone : ∀ listed a B, L listed a B → ∀ j ∈ Region.ready md ops listed, n ≤ j) :
  ∀ (f : Nat) (listed : Array Bool) (a : Act) (B : FB), FB.Fin B → HeadInv md ops n listed →
   (∀ j oj, ops[j]? = some oj → j ≠ i → listed.getD j true = false → (∀ e ∈ oj.after, Region.binds md e = true → e.on ≠ i) → oi.apart ops oj = true) →
   i ∈ Region.ready md ops listed → z5k P ops C oi a (sp i) →
   z5z n0 oi (z6i P md ops C n0 sp n L f (listed.setIfInBounds i true)) a B (sp i) → z6i P md ops C n0 sp n L (f + 1) listed a B := by
 intro f
 induction f with
 | zero =>
  intro listed a B hfin inv _ hr hy H
  refine ⟨⟨i, hr, hin⟩, fun j hj hjn => ?_⟩
  by_cases hji : j = i
  ·subst hji
   unfold fOp
   simp only [hi]
   exact ⟨hy, H⟩
  ·obtain ⟨v, B', -, hK⟩ := H.some hfin
   have := hdone _ _ _ hK j (ready_mono hj hji)
   omega
 | succ f ih =>
  intro listed a B hfin inv hfree hr hy H
  have hun := (mem_ready.1 hr).1
  refine ⟨⟨i, hr, hin⟩, fun j hj hjn => ?_⟩
  by_cases hji : j = i
  ·subst hji
   unfold fOp
   simp only [hi]
   exact ⟨hy, H⟩
  ·obtain ⟨hjun, oj, hoj, hall⟩ := mem_ready.1 hj
   have hnot : ∀ e ∈ oj.after, Region.binds md e = true → e.on ≠ i := fun e he hb heq => by
    have h1 := hall e he hb
    rw [heq, getD_both hun] at h1
    cases h1
   obtain ⟨p1, p2, p3⟩ := Oper.apart_spec (hfree j oj hoj hji hjun hnot)
   have hfree' : ∀ k ok, ops[k]? = some ok → k ≠ i → (listed.setIfInBounds j true).getD k true = false →
     (∀ e ∈ ok.after, Region.binds md e = true → e.on ≠ i) → oi.apart ops ok = true := fun k ok hk hki hun hno => by
    refine hfree k ok hk hki ?_ hno
    by_cases hjk : j = k
    ·subst hjk; exact hjun
    ·rw [getD_set_ne true hjk] at hun; exact hun
   -- what is told of j, behind i
   have hjr : j ∈ Region.ready md ops (listed.setIfInBounds i true) := ready_mono hj hji
   have step : ∀ a' B', z6i P md ops C n0 sp n L (f + 1) (listed.setIfInBounds i true) a' B' → z5k P ops C oj a' (sp j) ∧ z5z n0 oj (z6i P md ops C n0 sp n L f ((listed.setIfInBounds i true).setIfInBounds j true)) a' B' (sp j) := by
    intro a' B' h
    have := h.2 j hjr hjn
    unfold fOp at this
    simp only [hoj] at this
    exact this
   have hold : z5k P ops C oj a (sp j) := by
    obtain ⟨v, B', -, hK⟩ := H.some hfin
    exact (step _ _ hK).1.of_same (execOp_put oj (fun cs b => hsel j oj cs b hoj) a oi.dst v p1).symm (wanted_put oj a oi.dst v p1).symm
   have nxt : z5z n0 oi (fun a' B' => z5z n0 oj (z6i P md ops C n0 sp n L f ((listed.setIfInBounds j true).setIfInBounds i true)) a' B' (sp j)) a B (sp i) := by
    refine H.mono fun v B' _ hK => ?_
    rw [← Array.setIfInBounds_comm _ _ (fun e => hji e.symm)]
    exact (step _ _ hK).2
   unfold fOp
   simp only [hoj]
   refine ⟨hold, (nxt.swap p2).mono fun v B' hB' hK => ?_⟩
   exact ih (listed.setIfInBounds j true) _ B' (zQv hfin hB') (inv.set hj hjn) hfree' (ready_mono hr (Ne.symm hji)) (hy.of_same (execOp_put oi (fun cs b => hsel i oi cs b hi) a oj.dst v p3) (wanted_put oi a oj.dst v p3)) hK
def wpF (P : Program) (ops : Array Oper) (C : World → Prop) (n0 : Nat) (Q : Act → FB → Prop) : List Oper → List z60 → Act → FB → Prop
 | [], _, a, B => Q a B
 | _ :: _, [], _, _ => False
 | o :: l, s :: ss, a, B => z5k P ops C o a s ∧ z5z n0 o (fun a' B' => wpF P ops C n0 Q l ss a' B') a B s
theorem z9s {n g : Nat} {Lq : Act → FB → Prop} {sp : Nat → z60} (hsel : Region.noSelect ops = true) :
  ∀ (l : List Oper) (ss : List z60) (k : Nat) (listed : Array Bool) (a : Act) (B : FB), FB.Fin B → (∀ j, j < l.length → l[j]? = ops[k + j]?) → (∀ j, j < l.length → ss[j]? = some (sp (k + j))) → k + l.length = n → HeadInv md ops n listed →
  Region.lexHead md ops g l.length k listed = true → wpF P ops C n0 Lq l ss a B →
  z6i P md ops C n0 sp n (fun listed' a' B' => Region.seqB md ops g n listed' = true ∧ Lq a' B') l.length listed a B
 | [], _, k, listed, a, B, _, _, _, hk, _, hB, h => by
  have : k = n := by simpa using hk
  subst this
  exact ⟨by simpa [Region.lexHead] using hB, h⟩
 | o :: l, [], k, listed, a, B, _, _, _, _, _, _, h => absurd h (by simp [wpF])
 | o :: l, s :: ss, k, listed, a, B, hfin, hl, hsp, hk, inv, hB, h => by
  have h0 : ops[k]? = some o := by simpa using (hl 0 (by simp)).symm
  have s0 : s = sp k := by simpa using hsp 0 (by simp)
  simp only [List.length_cons, Region.lexHead, Bool.and_eq_true] at hB
  obtain ⟨⟨hr, hf⟩, hB'⟩ := hB
  have hkn : k < n := by simp only [List.length_cons] at hk; omega
  have hr' : k ∈ Region.ready md ops listed := by simpa using hr
  obtain ⟨hy, hK⟩ := h
  subst s0
  exact zBt h0 (Region.noSelect_spec hsel) hkn (fun listed' a' B' hL => seqB_ready hL.1) l.length listed a B hfin inv (Region.free_spec h0 hf) hr' hy
   (hK.mono fun v B' hB2 h' => z9s hsel l ss (k + 1) _ _ B' (zQv hfin hB2) (fun j hj => by have := hl (j + 1) (by simp; omega); simpa [Nat.add_assoc, Nat.add_comm 1 j] using this)
    (fun j hj => by have := hsp (j + 1) (by simp; omega); simpa [Nat.add_assoc, Nat.add_comm 1 j] using this) (by simp only [List.length_cons] at hk; omega) (inv.set hr' hkn) hB' h')
def zQw (md : Region.Mode) (ops : Array Oper) (n : Nat) (lz : List Nat) : Bool :=
 lz.all fun i => decide (i < n) && match ops[i]? with
  | some o => (o.guard.isNone && match o.op with | .extract .. => true | _ => false) && (List.range ops.size).all fun j => j == i || Region.waitsFor md ops j i || Region.waitsFor md ops i j || match ops[j]? with
   | some oj => o.apart ops oj
   | none => true
  | none => false
def zTf (md : Region.Mode) (ops : Array Oper) (n : Nat) (lz : List Nat) : Bool :=
 (List.range n).all fun i => lz.contains i || (List.range (n + 1)).any fun j => decide (i < j) && (j == n || !lz.contains j) && Region.waitsFor md ops j i
theorem z7y {o : Oper} {x : Operand} {k : Nat} (ho : o.op = .extract x k) (ρ : Operand → Value) (w w' w1 : World) (u : Value) (h : (execOp ρ o).run P w = .ok (.value u) w1) : w1 = w ∧ (execOp ρ o).run P w' = .ok (.value u) w' := by
 unfold execOp at h ⊢
 simp only [ho] at h ⊢
 cases hx : ρ x <;> simp [hx, Instr.extract] at h ⊢
 all_goals first | (split at h <;> simp_all) | simp_all
theorem zC0 {n : Nat} {lz : List Nat} {listed : Array Bool} (hs : zTf md ops n lz = true) (hc : Region.chainB md ops n = true) (hn : n < ops.size) (inv : HeadInv md ops n listed) :
  ∀ (d i : Nat), n - i = d → i < n → i ∉ lz → listed.getD i true = false → ∀ t, n ≤ t → t ∉ Region.ready md ops listed := by
 intro d
 induction d using Nat.strongRecOn with
 | _ d ih =>
  intro i hd hi hz hun t ht hr
  obtain ⟨_, ot, hot, hall⟩ := mem_ready.1 hr
  have htlt : t < ops.size := (Array.getElem?_eq_some_iff.1 hot).1
  by_cases htn : t = n
  ·subst htn
   have h1 := List.all_eq_true.1 hs i (List.mem_range.2 hi)
   simp only [Bool.or_eq_true, List.contains_eq_mem, decide_eq_true_eq] at h1
   obtain ⟨j, hj, hj2⟩ := List.any_eq_true.1 (h1.resolve_left hz)
   simp only [Bool.and_eq_true, decide_eq_true_eq, Bool.or_eq_true, beq_iff_eq, Bool.not_eq_true', decide_eq_false_iff_not] at hj2
   obtain ⟨oj, hoj, e, he, hb, hon⟩ := Region.waitsFor_spec hj2.2
   have hjle : j ≤ t := by have := List.mem_range.1 hj; omega
   by_cases hjt : j = t
   ·subst hjt
    have : oj = ot := Option.some.inj (hoj.symm.trans hot)
    subst this
    have h2 := hall e he hb
    rw [hon, getD_both hun] at h2
    cases h2
   ·cases hl : listed.getD j false with
    | true =>
     have h2 := inv.closed j oj hoj hl e he hb
     rw [hon, getD_both hun] at h2
     cases h2
    | false =>
     have hjs : j < listed.size := by rw [inv.size]; omega
     exact ih (t - j) (by omega) j rfl (by omega) (hj2.1.2.resolve_left hjt) (getD_in hjs hl) t (Nat.le_refl _) hr
  ·have h1 := List.all_eq_true.1 hc t (List.mem_range.2 htlt)
   simp only [Bool.or_eq_true, decide_eq_true_eq] at h1
   rcases h1 with h1 | h1
   ·omega
   ·obtain ⟨o', ho', e, he, hb, hon⟩ := Region.waitsFor_spec h1
    have : o' = ot := Option.some.inj (ho'.symm.trans hot)
    subst this
    have h2 := hall e he hb
    rw [hon, getD_both (inv.tail (t - 1) (by omega) (by omega))] at h2
    cases h2
theorem z4i {sp : Nat → z60} {n g : Nat} {lz : List Nat} {L : Array Bool → Act → FB → Prop} {Q' : Exit → Act → World → Prop} (hst : ∀ w w', C w → Below w.heap.size w w' → C w') (hn0 : ∀ w, C w → n0 ≤ w.heap.size)
  (hsel : Region.noSelect ops = true) (hz : zQw md ops n lz = true) (hs : zTf md ops n lz = true) (hc : Region.chainB md ops n = true) (hn : n < ops.size)
  (hQ : ∀ d v c a w, Q' (.panic c) (a.put d v) w → Q' (.panic c) a w)
  (hL : ∀ listed a B w, ClsB C B w → L listed a B → wpAny P md ops Q' g listed a w) :
  ∀ (f : Nat) (listed : Array Bool) (a : Act) (B : FB) (w : World), HeadInv md ops n listed → ClsB C B w → z6i P md ops C n0 sp n L f listed a B → wpAny P md ops Q' (f + g) listed a w
 | 0, listed, a, B, w, _, hC, h => by rw [Nat.zero_add]; exact hL _ _ _ _ hC h
 | f + 1, listed, a, B, w, inv, hC, h => by
  rw [show f + 1 + g = (f + g) + 1 by omega]
  by_cases hl : ∃ i, i ∈ Region.ready md ops listed ∧ i ∈ lz
  ·obtain ⟨i, hir, hiz⟩ := hl
   have h1 := List.all_eq_true.1 hz i hiz
   obtain ⟨hun, oi, hoi, hall⟩ := mem_ready.1 hir
   simp only [Bool.and_eq_true, decide_eq_true_eq, hoi, Option.isNone_iff_eq_none] at h1
   obtain ⟨hin, ⟨hg, hop⟩, hfr⟩ := h1
   have hf := h.2 i hir hin
   unfold fOp at hf
   simp only [hoi] at hf
   obtain ⟨x, k, ho⟩ : ∃ x k, oi.op = .extract x k := by
    cases hh : oi.op <;> simp only [hh] at hop <;> first | exact ⟨_, _, rfl⟩ | cases hop
   have hwt : Region.wanted oi (yielded ops a.tmps) = true := by unfold Region.wanted; rw [hg]
   have key : ∃ v, Yields P ops oi v a ∧ z6i P md ops C n0 sp n L f (listed.setIfInBounds i true) (a.put oi.dst v) B := by
    cases hsp : sp i with
    | inl v =>
     rw [hsp] at hf
     refine ⟨v, Or.inl ⟨hwt, fun w' => ?_⟩, hf.2⟩
     rcases hf.1 with ⟨-, hv⟩ | ⟨hw, -⟩
     ·have h3 := hv w hC.1
      cases hr : (execOp a.eval oi).run P w with
      | ok nx w1 =>
       rw [hr] at h3
       cases nx <;> simp only [z8m] at h3
       case value u => obtain ⟨e1, e2⟩ := h3; rw [e2] at hr; exact (z7y ho a.eval w w' w1 v hr).2
       case skip =>
        exfalso
        unfold execOp at hr
        simp only [ho] at hr
        cases hx : a.eval x <;> simp [hx, Instr.extract] at hr
        all_goals (split at hr <;> simp_all)
       case enter f args =>
        exfalso
        unfold execOp at hr
        simp only [ho] at hr
        cases hx : a.eval x <;> simp [hx, Instr.extract] at hr
        all_goals (split at hr <;> simp_all)
      | halt x w1 => rw [hr] at h3; simp only [z8m] at h3
     ·rw [hwt] at hw; cases hw
    | inr zf =>
     obtain ⟨z, fz⟩ := zf
     rw [hsp] at hf
     have h3 := hf.1.2 w hC.1
     have h4 := (z7y ho a.eval w w _ _ h3).1
     have h5 : (w.alloc z).heap.size = w.heap.size := by rw [h4]
     simp at h5
   obtain ⟨v, hy, hK⟩ := key
   refine wpAny_first hoi (Region.noSelect_spec hsel) (fun c a w => hQ oi.dst v c a w) (f + g) listed a w (fun j oj hj hji hunj hno => ?_) hir hy (z4i hst hn0 hsel hz hs hc hn hQ hL f _ _ B w (inv.set hir hin) hC hK)
   have h6 := List.all_eq_true.1 hfr j (List.mem_range.2 (Array.getElem?_eq_some_iff.1 hj).1)
   simp only [Bool.or_eq_true, beq_iff_eq, hji, false_or, hj] at h6
   rcases h6 with (h6 | h6) | h6
   ·obtain ⟨o', ho', e, he, hb, hon⟩ := Region.waitsFor_spec h6
    have : o' = oj := Option.some.inj (ho'.symm.trans hj)
    subst this
    exact absurd hon (hno e he hb)
   ·obtain ⟨o', ho', e, he, hb, hon⟩ := Region.waitsFor_spec h6
    have : o' = oi := Option.some.inj (ho'.symm.trans hoi)
    subst this
    have h7 := hall e he hb
    rw [hon, getD_both hunj] at h7
    cases h7
   ·exact h6
  ·obtain ⟨⟨i0, hi0, hi0n⟩, hstep⟩ := h
   have hun0 := (mem_ready.1 hi0).1
   have hi0z : i0 ∉ lz := fun e => hl ⟨i0, hi0, e⟩
   refine ⟨fun h0 => (by rw [h0] at hi0; cases hi0), fun i hi => ?_⟩
   have hin : i < n := by
    rcases Nat.lt_or_ge i n with h | h
    ·exact h
    ·exact absurd hi (zC0 hs hc hn inv _ i0 rfl hi0n hi0z hun0 i h)
   exact zDc hst hn0 hC (fun a' B' w' hC' h' => z4i hst hn0 hsel hz hs hc hn hQ hL f _ a' B' w' (inv.set hi hin) hC' h') (hstep i hi hin)
def zGf (ops : Array Oper) (n : Nat) (lz : List Nat) : Bool :=
 Region.noSelect ops && decide (n < ops.size) && zQw .any ops n lz && zTf .any ops n lz && Region.chainB .any ops n && Region.lexHead .any ops (ops.size - n) n 0 (Array.replicate ops.size false)
theorem z8f {id : Nat} {Q : Exit → Act → World → Prop} {a : Act} {w : World} {l : List Oper} (n : Nat) (lz : List Nat) (ss : List z60) (hm : P.follows .mixedOrders = true) (hB : zGf l.toArray n lz = true) (hlen : ss.length = n)
  (hQ : ∀ d v c a w, Q (.panic c) (a.put d v) w → Q (.panic c) a w)
  (hst : ∀ w w', C w → Below w.heap.size w w' → C w') (hn0 : ∀ w, C w → n0 ≤ w.heap.size) (hC : C w.drew)
  (h : wpF P l.toArray C n0 (fun a' B => ∀ w', C w' → (∀ L z, B L = some z → w'.heap[L]? = some z) → wpList P l.toArray Q (l.drop n) a' w') (l.take n) ss a (fun _ => none)) : (Code.region id l.toArray true).wp P Q a w := by
 simp only [zGf, Bool.and_eq_true, decide_eq_true_eq] at hB
 obtain ⟨⟨⟨⟨⟨hsel, hn⟩, hz⟩, hs⟩, hc⟩, hlex⟩ := hB
 have hn' : n < l.length := by simpa using hn
 have htl : (l.take n).length = n := by simp; omega
 have hdl : (l.drop n).length = l.toArray.size - n := by simp
 have inv0 : HeadInv .any l.toArray n (Array.replicate l.toArray.size false) :=
  ⟨by simp, fun j oj _ hl => (by rw [getD_replicate_false] at hl; cases hl), fun t _ ht => getD_in (by simpa using ht) (getD_replicate_false _ _)⟩
 have H := z9s (md := .any) (g := l.toArray.size - n) (sp := fun j => ss.getD j (.inl undef)) hsel (l.take n) ss 0 _ a (fun _ => none) ⟨0, fun _ _ => rfl⟩ (fun j hj => by
  have hj' : j < n := by rw [htl] at hj; exact hj
  simp [hj']) (fun j hj => by
  have hj' : j < ss.length := by rw [htl] at hj; omega
  simp [hj']) (by simpa using htl) inv0 (by rw [htl]; exact hlex) h
 refine wp_region_any hm ?_
 have := z4i (Q' := Q) (g := l.toArray.size - n) hst hn0 hsel hz hs hc hn hQ (fun listed a' B w' hC' hL => by
  have := wpAny_of_seq (md := .any) (Q' := Q) (l.drop n) n listed a' w' (fun j => by simp [List.getElem?_drop]) (by rw [hdl]; exact hL.1) (hL.2 w' hC'.1 hC'.2)
  rwa [hdl] at this) _ _ _ _ _ inv0 (⟨hC, fun _ _ h => by cases h⟩ : ClsB C (fun _ => none) w.drew) H
 rw [htl, show n + (l.toArray.size - n) = l.toArray.size by omega] at this
 exact this
end
end Go.Proofs.YteenhdoaminkeaaGreatDoor
namespace Go.Proofs.YteenhdoaminkeaaGreatDoor
open Go.RowKit
section
variable {P : Program} {ops : Array Oper} {C : World → Prop} {n0 : Nat}
def wpQ (P : Program) (ops : Array Oper) (C : World → Prop) (K : Act → Prop) : List Oper → Act → Prop
 | [], a => K a
 | o :: l, a => ∃ v, z5k P ops C o a (.inl v) ∧ wpQ P ops C K l (a.put o.dst v)
def z4l (L : Nat) : Value := .pointer (some ⟨L, 0, none⟩)
def zMu (n0 : Nat) (K : Act → FB → Prop) : List Oper → List Obj → Act → FB → Prop
 | o :: l, z :: zs, a, B => ∀ L, B L = none → n0 ≤ L → zMu n0 K l zs (a.put o.dst (z4l L)) (FB.upd B L z)
 | _, _, a, B => K a B
def zBr (P : Program) (C : World → Prop) : List Oper → List Obj → Prop
 | o :: l, z :: zs => (o.guard = none ∧ ∀ (a : Act) w, C w → (execOp a.eval o).run P w = .ok (.value (z4l w.heap.size)) (w.alloc z)) ∧ zBr P C l zs
 | [], [] => True
 | _, _ => False
theorem zDf {o : Oper} (h : o.guard = none) (y : Nat → Option Bool) : Region.wanted o y = true := by unfold Region.wanted; rw [h]
theorem zIv {K : Act → FB → Prop} : ∀ (l : List Oper) (zs : List Obj) (a : Act) (B : FB), zBr P C l zs → zMu n0 K l zs a B → wpF P ops C n0 K l (zs.map fun z => .inr (z, z4l)) a B
 | [], [], _, _, _, h => h
 | [], _ :: _, _, _, hz, _ => absurd hz (by simp [zBr])
 | _ :: _, [], _, _, hz, _ => absurd hz (by simp [zBr])
 | o :: l, z :: zs, a, B, hz, h => ⟨⟨zDf hz.1.1 _, hz.1.2 a⟩, fun L h1 h2 => zIv l zs _ _ hz.2 (h L h1 h2)⟩
theorem zCm : ∀ {l : List Oper} {zs : List Obj}, zBr P C l zs → l.length = zs.length
 | [], [], _ => rfl
 | [], _ :: _, h => absurd h (by simp [zBr])
 | _ :: _, [], h => absurd h (by simp [zBr])
 | _ :: l, _ :: zs, h => by simp [zCm h.2]
theorem zQk {K : Act → FB → Prop} {l2 : List Oper} {zs : List Obj} (hz : zBr P C l2 zs) {B : FB} : ∀ (l1 : List Oper) (a : Act), wpQ P ops C (fun a' => zMu n0 K l2 zs a' B) l1 a → ∃ ss : List z60, ss.length = l1.length + l2.length ∧ wpF P ops C n0 K (l1 ++ l2) ss a B
 | [], a, h => ⟨_, by simp [zCm hz], zIv l2 zs a B hz h⟩
 | o :: l1, a, ⟨v, h1, h2⟩ => by
  obtain ⟨ss, e, h⟩ := zQk hz l1 _ h2
  exact ⟨.inl v :: ss, by simp [e]; omega, h1, h⟩
theorem z0n {id : Nat} {Q : Exit → Act → World → Prop} {a : Act} {w : World} {l : List Oper} (n : Nat) (lz : List Nat) (zs : List Obj) (hm : P.follows .mixedOrders = true) (hB : zGf l.toArray (n + zs.length) lz = true) (hQ : ∀ d v c a w, Q (.panic c) (a.put d v) w → Q (.panic c) a w)
  (hst : ∀ w w', C w → Below w.heap.size w w' → C w') (hn0 : ∀ w, C w → n0 ≤ w.heap.size) (hC : C w.drew) (hz : zBr P C ((l.drop n).take zs.length) zs)
  (h : wpQ P l.toArray C (fun a' => zMu n0 (fun a2 B => ∀ w', C w' → (∀ L z, B L = some z → w'.heap[L]? = some z) → wpList P l.toArray Q (l.drop (n + zs.length)) a2 w') ((l.drop n).take zs.length) zs a' (fun _ => none)) (l.take n) a) :
  (Code.region id l.toArray true).wp P Q a w := by
 have hn : n + zs.length < l.length := by
  have := hB
  simp only [zGf, Bool.and_eq_true, decide_eq_true_eq] at this
  simpa using this.1.1.1.1.2
 obtain ⟨ss, e, hF⟩ := zQk hz _ _ h
 have el : l.take n ++ (l.drop n).take zs.length = l.take (n + zs.length) := (List.take_add).symm
 rw [el] at hF
 refine z8f (n + zs.length) lz ss hm hB ?_ hQ hst hn0 hC hF
 rw [e]
 simp
 omega
theorem z0t {K : Act → Prop} {a : Act} (h : K a) : wpQ P ops C K [] a := h
theorem z0b {K : Act → Prop} {o : Oper} {l : List Oper} {a : Act} {v : Value} (hw : Region.wanted o (yielded ops a.tmps) = true) (hy : ∀ w, C w → (execOp a.eval o).run P w = .ok (.value v) w) (h : wpQ P ops C K l (a.put o.dst v)) : wpQ P ops C K (o :: l) a :=
 ⟨v, Or.inl ⟨hw, fun w hC => by rw [hy w hC]; exact ⟨rfl, rfl⟩⟩, h⟩
theorem z0p {K : Act → Prop} {o : Oper} {l : List Oper} {a : Act} (hw : Region.wanted o (yielded ops a.tmps) = true) (h : ∃ v, (∀ w, C w → z8m P w v ((execOp a.eval o).run P w)) ∧ wpQ P ops C K l (a.put o.dst v)) : wpQ P ops C K (o :: l) a := by
 obtain ⟨v, h1, h2⟩ := h
 exact ⟨v, Or.inl ⟨hw, h1⟩, h2⟩
theorem z0k {K : Act → Prop} {o : Oper} {l : List Oper} {a : Act} (hw : Region.wanted o (yielded ops a.tmps) = false) (h : wpQ P ops C K l (a.put o.dst undef)) : wpQ P ops C K (o :: l) a := ⟨undef, Or.inr ⟨hw, rfl⟩, h⟩
theorem z0v {f : FuncId} {args : Array Value} {w : World} {v : Value} (h : Calls P f args w fun e w'' => e = .returned v ∧ Below w.heap.size w w'') : z8m P w v (.ok (.enter f args) w) := ⟨rfl, h⟩
theorem FB.at_new (B : FB) (L : Nat) (z : Obj) : FB.upd B L z L = some z := if_pos rfl
theorem FB.at_old {B : FB} {L L' : Nat} {z z' : Obj} (h : L' ≠ L) (h' : B L' = some z') : FB.upd B L z L' = some z' := (if_neg h).trans h'
end
end Go.Proofs.YteenhdoaminkeaaGreatDoor
namespace Go.Proofs.YteenhdoaminkeaaGreatDoor
open Go.RowKit
def Blk (w0 : World) (F : List (Nat × Obj)) (w : World) : Prop := Below w0.heap.size w0 w ∧ ∀ x, x ∈ F → w.heap[x.1]? = some x.2
section
variable {w0 w w' : World} {F : List (Nat × Obj)}
theorem Blk.later (h : Blk w0 F w) (hb : Below w.heap.size w w') : Blk w0 F w' :=
 ⟨h.1.trans (hb.mono h.1.size), fun x hx => (hb.block x.1 (Array.getElem?_eq_some_iff.1 (h.2 x hx)).1).trans (h.2 x hx)⟩
theorem Blk.stable (w0 : World) (F : List (Nat × Obj)) : ∀ w w', Blk w0 F w → Below w.heap.size w w' → Blk w0 F w' := fun _ _ h hb => h.later hb
theorem Blk.drew (h : Blk w0 F w) : Blk w0 F w.drew := ⟨h.1.drew, h.2⟩
theorem Blk.lt (h : Blk w0 F w) {g : Nat} {z : Obj} (hm : (g, z) ∈ F) : g < w.heap.size := (Array.getElem?_eq_some_iff.1 (h.2 _ hm)).1
theorem Blk.room (w0 : World) {F : List (Nat × Obj)} {g : Nat} {z : Obj} (hm : (g, z) ∈ F) : ∀ w, Blk w0 F w → g + 1 ≤ w.heap.size := fun _ h => h.lt hm
theorem Blk.room0 (w0 : World) (F : List (Nat × Obj)) : ∀ w, Blk w0 F w → w0.heap.size ≤ w.heap.size := fun _ h => h.1.size
theorem Blk.nil (hb : Below w0.heap.size w0 w) : Blk w0 [] w := ⟨hb, fun _ h => absurd h (by simp)⟩
theorem Blk.cons {g : Nat} {z : Obj} (h : Blk w0 F w) (hg : w.heap[g]? = some z) : Blk w0 ((g, z) :: F) w :=
 ⟨h.1, fun x hx => by
  rcases List.mem_cons.mp hx with rfl | hx
  ·exact hg
  ·exact h.2 x hx⟩
theorem Blk.more {F' : List (Nat × Obj)} (h : Blk w0 F w) (h' : ∀ x, x ∈ F' → x ∈ F) : Blk w0 F' w := ⟨h.1, fun x hx => h.2 x (h' x hx)⟩
end
section
variable {w : World} {g : Nat} {t : TypeId} {a b c d e f : Value}
theorem row2 (h : w.heap[g]? = some (.cells #[a, b] t (0, 0))) : w.cell? ⟨g, 0, none⟩ = some a ∧ w.cell? ⟨g, 1, none⟩ = some b ∧ w.frozen? ⟨g, 0, none⟩ = false ∧ w.frozen? ⟨g, 1, none⟩ = false ∧ g < w.heap.size :=
 ⟨by simp [World.cell?, h], by simp [World.cell?, h], by simp [World.frozen?, h], by simp [World.frozen?, h], (Array.getElem?_eq_some_iff.1 h).1⟩
theorem row3 (h : w.heap[g]? = some (.cells #[a, b, c] t (0, 0))) : w.cell? ⟨g, 0, none⟩ = some a ∧ w.cell? ⟨g, 1, none⟩ = some b ∧ w.cell? ⟨g, 2, none⟩ = some c ∧ w.frozen? ⟨g, 0, none⟩ = false ∧ w.frozen? ⟨g, 1, none⟩ = false ∧ w.frozen? ⟨g, 2, none⟩ = false ∧ g < w.heap.size :=
 ⟨by simp [World.cell?, h], by simp [World.cell?, h], by simp [World.cell?, h], by simp [World.frozen?, h], by simp [World.frozen?, h], by simp [World.frozen?, h], (Array.getElem?_eq_some_iff.1 h).1⟩
theorem row6 (h : w.heap[g]? = some (.cells #[a, b, c, d, e, f] t (0, 0))) : w.cell? ⟨g, 0, none⟩ = some a ∧ w.cell? ⟨g, 1, none⟩ = some b ∧ w.cell? ⟨g, 2, none⟩ = some c ∧ w.cell? ⟨g, 3, none⟩ = some d ∧ w.cell? ⟨g, 4, none⟩ = some e ∧ w.cell? ⟨g, 5, none⟩ = some f ∧ g < w.heap.size :=
 ⟨by simp [World.cell?, h], by simp [World.cell?, h], by simp [World.cell?, h], by simp [World.cell?, h], by simp [World.cell?, h], by simp [World.cell?, h], (Array.getElem?_eq_some_iff.1 h).1⟩
theorem put2 {x y : Value} (h : w.heap[g]? = some (.cells #[a, b] t (0, 0))) : ((w.setCell ⟨g, 0, none⟩ x).setCell ⟨g, 1, none⟩ y).heap[g]? = some (.cells #[x, y] t (0, 0)) :=
 heap_setCell_same _ g 1 _ t y (heap_setCell_same w g 0 _ t x h)
theorem put3 {x y z : Value} (h : w.heap[g]? = some (.cells #[a, b, c] t (0, 0))) : (((w.setCell ⟨g, 0, none⟩ x).setCell ⟨g, 1, none⟩ y).setCell ⟨g, 2, none⟩ z).heap[g]? = some (.cells #[x, y, z] t (0, 0)) :=
 heap_setCell_same _ g 2 _ t z (heap_setCell_same _ g 1 _ t y (heap_setCell_same w g 0 _ t x h))
theorem off2 {B : Nat} {o o' : Nat} {x y : Value} {ob : Obj} (h : w.heap[g]? = some ob) (hne : g ≠ B) : ((w.setCell ⟨B, o, none⟩ x).setCell ⟨B, o', none⟩ y).heap[g]? = some ob :=
 (heap_setCell_other _ _ _ _ hne).trans ((heap_setCell_other _ _ _ _ hne).trans h)
theorem off3 {B : Nat} {o o' o'' : Nat} {x y z : Value} {ob : Obj} (h : w.heap[g]? = some ob) (hne : g ≠ B) : (((w.setCell ⟨B, o, none⟩ x).setCell ⟨B, o', none⟩ y).setCell ⟨B, o'', none⟩ z).heap[g]? = some ob :=
 (heap_setCell_other _ _ _ _ hne).trans ((heap_setCell_other _ _ _ _ hne).trans ((heap_setCell_other _ _ _ _ hne).trans h))
end
end Go.Proofs.YteenhdoaminkeaaGreatDoor
namespace Go.Proofs.YteenhdoaminkeaaGreatDoor
open Go.ChangeShapes Go.WideShapes Go.ChangeAt Go.RowKit
attribute [local simp] z00 z0y z0o
theorem zDm (k l h o : Int) (x0 : (k == 0) = true) (w : World) : Calls Tryz.prog 61 #[.agg #[vI vK k, vI vK l, vI vK h], vI vK o] w fun e w' => e = .returned (.tuple #[.agg #[vI vK 0, vI vK 0], vI vK 8]) ∧ Below w.heap.size w w' := by
 go_enter Tryz.func61, Tryz.ntmps61
 go_wp2_with fail
 exact bodyPost_ret (v := .tuple #[.agg #[vI vK 0, vI vK 0], vI vK 8]) (by simp [results, Tryz.results61, go_sem, *]) rfl ⟨rfl, (by repeat' first | with_reducible (first | exact hbw | exact hbw1 | exact bF _ _ | refine bA ?_ ?_ _ | refine bS ?_ ?_ _ | refine bD ?_) | ((try dsimp only); omega) | (simp; done) | (simp; omega))⟩
theorem zGy (k l h o : Int) (x0 : (k == 0) = false) (HP : Hid (z1p k = false)) (w : World) : Calls Tryz.prog 61 #[.agg #[vI vK k, vI vK l, vI vK h], vI vK o] w fun e w' => e = .returned (.tuple #[.agg #[vI vK 0, vI vK 0], vI vK 1]) ∧ Below w.heap.size w w' := by
 have hK0 : Blk w [(w.heap.size, .cells #[vI vK k, vI vK l, vI vK h] 72 (0, 0)), (w.heap.size + 1, .cells #[vI vK 0, vI vK 0] 30 (0, 0))] ((w.alloc (.cells #[vI vK k, vI vK l, vI vK h] 72)).alloc (.cells #[vI vK 0, vI vK 0] 30)) := (((Blk.nil ((((bF _ _).alloc (Nat.le_refl _) _).alloc (by simp) _))).cons (heap_alloc2_new _ _ _)).cons (by rw [Below.heap_alloc _ _ _ (by simp)]; exact heap_alloc_new _ _))
 go_enter Tryz.func61, Tryz.ntmps61
 go_wp2_with (first
  | (go_at_call 72; go_must (refine (z49 k l h _).mono ?_; rintro e w1 ⟨rfl, hb1⟩; rw [HP.out]; have hK1 := hK0.later hb1; have hbw1 := hK1.1; obtain ⟨c0, c1, c2, -, -, -, lt0⟩ := row3 (hK1.2 _ (mcS)); obtain ⟨r0, r1, f0, f1, lt1⟩ := row2 (hK1.2 _ (mcO _ mcS))))
  | fail)
 exact bodyPost_ret (v := .tuple #[.agg #[vI vK 0, vI vK 0], vI vK 1]) (by simp [results, Tryz.results61, go_sem, *]) rfl ⟨rfl, (by repeat' first | with_reducible (first | exact hbw | exact hbw1 | exact bF _ _ | refine bA ?_ ?_ _ | refine bS ?_ ?_ _ | refine bD ?_) | ((try dsimp only); omega) | (simp; done) | (simp; omega))⟩
theorem z7j (k l h o : Int) (x0 : (k == 0) = false) (HP : Hid (z1p k = true)) (tl th rl rh : Int) (HD : Hid (∀ W : World, Calls Tryz.prog 73 #[vI vK 2, .agg #[vI vK l, vI vK h], .agg #[vI vK o, vI vK o]] W fun e w' => e = .returned (.agg #[vI vK tl, vI vK th]) ∧ Below W.heap.size W w')) (HR : Hid (∀ W : World, Calls Tryz.prog 74 #[vI vK k] W fun e w' => e = .returned (.agg #[vI vK rl, vI vK rh]) ∧ Below W.heap.size W w')) : (∀ (jl jh : Int) (hj : ¬ jl = rl) (HJ : Hid (∀ W : World, Calls Tryz.prog 27 #[.agg #[vI vK tl, vI vK th], .agg #[vI vK rl, vI vK rh]] W fun e w' => e = .returned (.agg #[vI vK jl, vI vK jh]) ∧ Below W.heap.size W w')) (w : World), Calls Tryz.prog 61 #[.agg #[vI vK k, vI vK l, vI vK h], vI vK o] w fun e w' => e = .returned (.tuple #[.agg #[vI vK 0, vI vK 0], vI vK 2]) ∧ Below w.heap.size w w') ∧ (∀ (jh : Int) (hj : ¬ jh = rh) (HJ : Hid (∀ W : World, Calls Tryz.prog 27 #[.agg #[vI vK tl, vI vK th], .agg #[vI vK rl, vI vK rh]] W fun e w' => e = .returned (.agg #[vI vK rl, vI vK jh]) ∧ Below W.heap.size W w')) (w : World), Calls Tryz.prog 61 #[.agg #[vI vK k, vI vK l, vI vK h], vI vK o] w fun e w' => e = .returned (.tuple #[.agg #[vI vK 0, vI vK 0], vI vK 2]) ∧ Below w.heap.size w w') ∧ (∀ (HJ : Hid (∀ W : World, Calls Tryz.prog 27 #[.agg #[vI vK tl, vI vK th], .agg #[vI vK rl, vI vK rh]] W fun e w' => e = .returned (.agg #[vI vK rl, vI vK rh]) ∧ Below W.heap.size W w')) (w : World), Calls Tryz.prog 61 #[.agg #[vI vK k, vI vK l, vI vK h], vI vK o] w fun e w' => e = .returned (.tuple #[.agg #[vI vK tl, vI vK th], vI vK 0]) ∧ Below w.heap.size w w') := by
 refine ⟨?_, ?_, ?_⟩
 intro jl jh hj HJ w
 rotate_left
 intro jh hj HJ w
 rotate_left
 intro HJ w
 rotate_left
 all_goals
  have hK0 : Blk w [(w.heap.size, .cells #[vI vK k, vI vK l, vI vK h] 72 (0, 0)), (w.heap.size + 1, .cells #[vI vK 0, vI vK 0] 30 (0, 0))] ((w.alloc (.cells #[vI vK k, vI vK l, vI vK h] 72)).alloc (.cells #[vI vK 0, vI vK 0] 30)) := (((Blk.nil ((((bF _ _).alloc (Nat.le_refl _) _).alloc (by simp) _))).cons (heap_alloc2_new _ _ _)).cons (by rw [Below.heap_alloc _ _ _ (by simp)]; exact heap_alloc_new _ _))
 all_goals
  go_enter Tryz.func61, Tryz.ntmps61
  go_wp2_with (first
   | (go_at_call 72; go_must (refine (z49 k l h _).mono ?_; rintro e w1 ⟨rfl, hb1⟩; rw [HP.out]; have hK1 := hK0.later hb1; have hbw1 := hK1.1; obtain ⟨c0, c1, c2, -, -, -, lt0⟩ := row3 (hK1.2 _ (mcS)); obtain ⟨r0, r1, f0, f1, lt1⟩ := row2 (hK1.2 _ (mcO _ mcS))))
   | fail)
  refine z0n (C := Blk w [(w.heap.size, .cells #[vI vK k, vI vK l, vI vK h] 72 (0, 0)), (w.heap.size + 1, .cells #[vI vK 0, vI vK 0] 30 (0, 0))]) (n0 := w.heap.size + 1 + 1) 8 [] [.cells #[vI vK 0, vI vK 0] 30 (0, 0), .cells #[vI vK 0, vI vK 0] 30 (0, 0)] (by kernel_rfl) (by kernel_rfl) (fun d _ _ _ _ h => by cases d <;> exact h) (Blk.stable _ _) (Blk.room w (mcO _ mcS)) hK1.drew ⟨⟨rfl, fun a w2 hC => by go_simp; try rfl⟩, ⟨rfl, fun a w2 hC => by go_simp; try rfl⟩, trivial⟩ ?_
  simp only [List.take_succ_cons, List.take_zero, List.drop_succ_cons, List.drop_zero, List.length_cons, List.length_nil, Nat.reduceAdd]
  repeat (first
   | (refine z0k (by rfl) ?_; simp only [Act.put, siA, scZ, scS])
   | (refine z0b (by rfl) (v := ?_) ?_ ?_; rotate_left; (intro w2 hC; obtain ⟨c0, c1, c2, -, -, -, lt0⟩ := row3 (hC.2 _ (mcS)); obtain ⟨r0, r1, f0, f1, lt1⟩ := row2 (hC.2 _ (mcO _ mcS)); go_simp; try with_reducible rfl); simp only [Act.put, siA, scZ, scS])
   | (refine z0p (by rfl) ?_; apply Exists.intro; refine ⟨fun w2 hC => ?_, ?_⟩; (obtain ⟨c0, c1, c2, -, -, -, lt0⟩ := row3 (hC.2 _ (mcS)); obtain ⟨r0, r1, f0, f1, lt1⟩ := row2 (hC.2 _ (mcO _ mcS)); go_simp; apply z0v; first | (go_at_call 39; exact z2t _ w2) | (go_at_call 73; exact HD.out w2) | (go_at_call 74; exact HR.out w2)); simp only [Act.put, siA, scZ, scS]))
  refine z0t ?_
  intro L h6 g6 K h7 g7 w3 hC hB
  have hne : K ≠ L := (FB.upd_none h7).1
  have hne' : L ≠ K := fun e => hne e.symm
  have bK := hB K _ (FB.at_new _ _ _)
  have bL := hB L _ (FB.at_old hne' (FB.at_new _ _ _))
  obtain ⟨p0, p1, pf0, pf1, ltL⟩ := row2 bL
  obtain ⟨q0, q1, qf0, qf1, ltK⟩ := row2 bK
  have hK3 := hC
  clear c0 c1 c2 lt0 r0 r1 f0 f1 lt1 hB h6 h7 hK0 hb1 hbw1 hK1
  obtain ⟨c0, c1, c2, -, -, -, lt0⟩ := row3 (hC.2 _ (mcS)); obtain ⟨r0, r1, f0, f1, lt1⟩ := row2 (hC.2 _ (mcO _ mcS))
  have g6' : w.heap.size ≠ L := by omega
  have g7' : w.heap.size ≠ K := by omega
  have g8' : w.heap.size + 1 ≠ L := by omega
  have g9' : w.heap.size + 1 ≠ K := by omega
  simp only [z4l]
  go_wp2_with fail
  have hK6 : Blk w [(w.heap.size, .cells #[vI vK k, vI vK l, vI vK h] 72 (0, 0)), (w.heap.size + 1, .cells #[vI vK 0, vI vK 0] 30 (0, 0)), (L, .cells #[vI vK tl, vI vK th] 30 (0, 0)), (K, .cells #[vI vK rl, vI vK rh] 30 (0, 0))] _ := ((((Blk.nil (((((hC.1.setCell (by show _ ≤ L; omega) _).setCell (by show _ ≤ L; omega) _).setCell (by show _ ≤ K; omega) _).setCell (by show _ ≤ K; omega) _))).cons (put2 (off2 bK hne))).cons (off2 (put2 bL) hne')).cons (off2 (off2 (hC.2 _ (mcO _ mcS)) g8') g9')).cons (off2 (off2 (hC.2 _ mcS) g6') g7')
  clear c0 c1 c2 lt0 r0 r1 f0 f1 lt1 p0 p1 pf0 pf1 q0 q1 qf0 qf1 hC bK bL hK3
  refine z0n (C := Blk w [(w.heap.size, .cells #[vI vK k, vI vK l, vI vK h] 72 (0, 0)), (w.heap.size + 1, .cells #[vI vK 0, vI vK 0] 30 (0, 0)), (L, .cells #[vI vK tl, vI vK th] 30 (0, 0)), (K, .cells #[vI vK rl, vI vK rh] 30 (0, 0))]) (n0 := w.heap.size) 4 [] [] (by kernel_rfl) (by kernel_rfl) (fun d _ _ _ _ h => by cases d <;> exact h) (Blk.stable _ _) (Blk.room0 _ _) hK6.drew trivial ?_
  simp only [List.take_succ_cons, List.take_zero, List.drop_succ_cons, List.drop_zero, List.length_nil, Nat.reduceAdd]
  repeat (first
   | (refine z0k (by rfl) ?_; simp only [Act.put, siA, scZ, scS])
   | (refine z0b (by rfl) (v := ?_) ?_ ?_; rotate_left; (intro w2 hC; obtain ⟨c0, c1, c2, -, -, -, lt0⟩ := row3 (hC.2 _ mcS); obtain ⟨r0, r1, f0, f1, lt1⟩ := row2 (hC.2 _ (mcO _ mcS)); obtain ⟨t0, t1, -, -, lt2⟩ := row2 (hC.2 _ (mcO _ (mcO _ mcS))); obtain ⟨s0, s1, -, -, lt3⟩ := row2 (hC.2 _ (mcO _ (mcO _ (mcO _ mcS)))); go_simp; try with_reducible rfl); simp only [Act.put, siA, scZ, scS])
   | (refine z0p (by rfl) ?_; apply Exists.intro; refine ⟨fun w2 hC => ?_, ?_⟩; (obtain ⟨c0, c1, c2, -, -, -, lt0⟩ := row3 (hC.2 _ mcS); obtain ⟨r0, r1, f0, f1, lt1⟩ := row2 (hC.2 _ (mcO _ mcS)); obtain ⟨t0, t1, -, -, lt2⟩ := row2 (hC.2 _ (mcO _ (mcO _ mcS))); obtain ⟨s0, s1, -, -, lt3⟩ := row2 (hC.2 _ (mcO _ (mcO _ (mcO _ mcS)))); go_simp; apply z0v; first | (go_at_call 27; exact HJ.out w2)); simp only [Act.put, siA, scZ, scS]))
  refine z0t ?_
  intro w4 hC hB
  clear hB
  obtain ⟨c0, c1, c2, -, -, -, lt0⟩ := row3 (hC.2 _ mcS); obtain ⟨r0, r1, f0, f1, lt1⟩ := row2 (hC.2 _ (mcO _ mcS)); obtain ⟨t0, t1, -, -, lt2⟩ := row2 (hC.2 _ (mcO _ (mcO _ mcS))); obtain ⟨s0, s1, -, -, lt3⟩ := row2 (hC.2 _ (mcO _ (mcO _ (mcO _ mcS))))
  have hbw := hC.1
  go_wp2_with fail
  exact bodyPost_ret (by simp [results, Tryz.results61, go_sem, *]) rfl ⟨rfl, (by repeat' first | with_reducible (first | exact hbw | exact hbw1 | exact bF _ _ | refine bA ?_ ?_ _ | refine bS ?_ ?_ _ | refine bD ?_) | ((try dsimp only); omega) | (simp; done) | (simp; omega))⟩
def zDl := fun k l h o x0 HP tl th rl rh HD HR => (@z7j k l h o x0 HP tl th rl rh HD HR).1
def zDk := fun k l h o x0 HP tl th rl rh HD HR => (@z7j k l h o x0 HP tl th rl rh HD HR).2.1
def zIx := fun k l h o x0 HP tl th rl rh HD HR => (@z7j k l h o x0 HP tl th rl rh HD HR).2.2
theorem z9t (x : Kno) (o : Int) (hx : x.Ok) (ho : In64 o) (w : World) : Calls Tryz.prog 61 #[x.v, vI vK o] w fun e w' => e = .returned (.tuple #[.agg #[vI vK (z0l x o).1.1, vI vK (z0l x o).1.2], vI vK (z0l x o).2]) ∧ Below w.heap.size w w' := by
 obtain ⟨k, l, h⟩ := x
 unfold z0l Kno.v
 by_cases h0 : k = 0
 ·rw [if_pos h0]; exact zDm k l h o (by simpa using h0) w
 rw [if_neg h0]
 have hk := hx.1
 have hk5 := hx.2.1
 have y0 : (k == 0) = false := by simpa using h0
 by_cases h1 : k = 1 ∨ k = 5
 ·rw [if_pos h1]
  have hp : z1p k = false := by
   cases e : z1p k
   ·rfl
   ·have := (z3c k).1 e; omega
  exact zGy k l h o y0 hp w
 rw [if_neg h1]
 have hp : z1p k = true := (z3c k).2 (by change 0 ≤ k at hk; change k ≤ 5 at hk5; omega)
 have HD := fun W : World => zMr 2 l h o o hx.2.2.1.1 hx.2.2.1.2 hx.2.2.2.1.1 hx.2.2.2.1.2 ho.1 ho.2 ho.1 ho.2 hx.2.2.2.2 (Int.le_refl _) W
 have HR := fun W : World => zNj k W
 have eT : z3z ⟨k, l, h⟩ o = bdV 2 l h o o := rfl
 rw [eT]
 generalize bdV 2 l h o o = t at *
 change ∀ W : World, _ at HR
 obtain ⟨tl, th⟩ := t
 have eR : z1u (⟨k, l, h⟩ : Kno).k = z1u k := rfl
 rw [eR]
 generalize z1u k = r at *
 obtain ⟨rl, rh⟩ := r
 by_cases g1 : tl < rl
 ·rw [if_pos (Or.inl g1)]
  exact zDl k l h o y0 hp tl th rl rh HD HR (min tl rl) (max th rh) (by omega) (fun W => z3a tl th rl rh W) w
 by_cases g2 : rh < th
 ·rw [if_pos (Or.inr g2)]
  exact zDk k l h o y0 hp tl th rl rh HD HR (max th rh) (by omega) (fun W => by have := z3a tl th rl rh W; rw [Int.min_eq_right (by omega)] at this; exact this) w
 ·rw [if_neg (by show ¬ (tl < rl ∨ rh < th); omega)]
  exact zIx k l h o y0 hp tl th rl rh HD HR (fun W => by have := z3a tl th rl rh W; rw [Int.min_eq_right (by omega), Int.max_eq_right (by omega)] at this; exact this) w
end Go.Proofs.YteenhdoaminkeaaGreatDoor
