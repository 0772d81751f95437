/-
 A region that draws its order, whose operations are: some that read, or call functions that leave all that was there as it was; then some that make a new block each; then some that come one behind the other, behind all of these. Whatever the order: one walk in the text's order serves, with a letter for each new block. No program is named here. No conditions. The same law, as a walk takes it: values as they come up, then a letter for each new block, then the rest. No program is named here. No conditions. Worlds in which all that was there is as it was, and in which these blocks lie: small laws. No program is named here. No conditions. What a desk's gate, Chain, Waits, Left and Event return, and what Event writes. Conditions: the desk lies in memory. The builtin copy, where an element has several cells; within one block, too: all is read ahead of anything that is written. No program's function is named here. No conditions. What is known of a value, on plain numbers: its kind, and between which ends it is; what a verifier makes of two such, and where a place may lead: what a machine makes of values of which that is known goes well, and what is known of it then holds. No program is named here. Conditions: the ends are of 64 bits. A way of a verifier, on plain numbers: what is known of registers and slots; what a step that asks nothing makes of it, and that a machine of which that is known goes on well. No program is named here. Conditions: the ends are of 64 bits; the step is right.
-/
import Derived.StillTail
import Derived.Below
import Derived.Laws.Tables
import Derived.Laws.Rows
import Derived.Test.YtbimlalhodibjaaGreatDoorJf9
import Derived.BigCall
import Derived.BigGuardPart
import Derived.Laws.IdiomCopy
import Derived.Laws.AppendOwnNone
import Derived.Great.BuildSlice
import Derived.Maps.AppendAt
import Derived.Test.YtbimlalhodibjaaGreatDoorJf7
set_option maxHeartbeats 40000000
open Go.Value renaming int → A
open Go.IntKind renaming i64 → D
open Go.RowKit.Below renaming alloc → bA, setCell → bS, drew → bD, refl → bF
set_option maxRecDepth 1000000
set_option linter.defProp false
set_option linter.unusedVariables false
set_option linter.unusedSimpArgs false
open Go.Ending renaming returned → rT
open Go.Value renaming pointer → pT
open Go.Obj renaming cells → cT
open Go.Proofs.Tryz renaming prog → tP
namespace Go.Proofs.YtbimlalhodibjaaGreatDoor
section
open Go.RowKit
section
variable {P : Program} {ops : Array Oper} {md : Region.Mode} {C : World -> Prop} {n0 : Nat}
def zAh (P : Program) (w : World) (v : Value) : Result Next -> Prop
 | .ok (.value u) w' => w' = w /\ u = v
 | .ok .skip w' => w' = w /\ v = undef
 | .ok (.enter f args) w' => w' = w /\ Calls P f args w (fun e w'' => e = rT v /\ Below w.heap.size w w'')
 | _ => False
abbrev z6s : Type := Value ⊕ (Obj × (Nat -> Value))
def z67 (P : Program) (ops : Array Oper) (C : World -> Prop) (o : Oper) (a : Act) : z6s -> Prop
 | .inl v => (Region.wanted o (yielded ops a.tmps) = true /\ ∀ w, C w -> zAh P w v ((execOp a.eval o).run P w)) \/ (Region.wanted o (yielded ops a.tmps) = false /\ v = undef)
 | .inr (z, f) => Region.wanted o (yielded ops a.tmps) = true /\ ∀ w, C w -> (execOp a.eval o).run P w = .ok (.value (f w.heap.size)) (w.alloc z)
abbrev FB : Type := Nat -> Option Obj
def FB.upd (B : FB) (L : Nat) (z : Obj) : FB := fun k => if k = L then some z else B k
theorem FB.upd_comm (B : FB) {L L' : Nat} (h : L ≠ L') (z z' : Obj) : FB.upd (FB.upd B L z) L' z' = FB.upd (FB.upd B L' z') L z := by
 funext k
 unfold FB.upd
 by_cases h1 : k = L'
 ·rw [if_pos h1, if_neg (by omega), if_pos h1]
 ·rw [if_neg h1]
  by_cases h2 : k = L
  ·rw [if_pos h2, if_pos h2]
  ·rw [if_neg h2, if_neg h2, if_neg h1]
theorem FB.upd_none {B : FB} {L L' : Nat} {z : Obj} (h : FB.upd B L z L' = none) : L' ≠ L /\ B L' = none := by
 unfold FB.upd at h
 by_cases e : L' = L
 ·rw [if_pos e] at h; cases h
 ·rw [if_neg e] at h; exact ⟨e, h⟩
theorem FB.none_upd {B : FB} {L L' : Nat} {z : Obj} (h : L' ≠ L) (h' : B L' = none) : FB.upd B L z L' = none := by
 unfold FB.upd; rw [if_neg h]; exact h'
def FB.Fin (B : FB) : Prop := ∃ m, ∀ L, m <= L -> B L = none
theorem FB.Fin.upd {B : FB} (h : FB.Fin B) (L : Nat) (z : Obj) : FB.Fin (FB.upd B L z) := by
 obtain ⟨m, hm⟩ := h
 exact ⟨m + L + 1, fun k hk => FB.none_upd (by omega) (hm k (by omega))⟩
theorem FB.Fin.fresh {B : FB} (h : FB.Fin B) (n0 : Nat) : ∃ L, B L = none /\ n0 <= L := by
 obtain ⟨m, hm⟩ := h
 exact ⟨m + n0, hm _ (by omega), by omega⟩
def z6r (n0 : Nat) (o : Oper) (K : Act -> FB -> Prop) (a : Act) (B : FB) : z6s -> Prop
 | .inl v => K (a.put o.dst v) B
 | .inr (z, f) => ∀ L, B L = none -> n0 <= L -> K (a.put o.dst (f L)) (FB.upd B L z)
def fOp (P : Program) (ops : Array Oper) (C : World -> Prop) (n0 : Nat) (sp : Nat -> z6s) (i : Nat) (K : Act -> FB -> Prop) (a : Act) (B : FB) : Prop :=
 match ops[i]? with
 | none => K a B
 | some o => z67 P ops C o a (sp i) /\ z6r n0 o K a B (sp i)
def z79 (P : Program) (md : Region.Mode) (ops : Array Oper) (C : World -> Prop) (n0 : Nat) (sp : Nat -> z6s) (n : Nat) (L : Array Bool -> Act -> FB -> Prop) : Nat -> Array Bool -> Act -> FB -> Prop
 | 0, listed, a, B => L listed a B
 | f + 1, listed, a, B => (∃ i, i ∈ Region.ready md ops listed /\ i < n) /\ ∀ i ∈ Region.ready md ops listed, i < n -> fOp P ops C n0 sp i (z79 P md ops C n0 sp n L f (listed.setIfInBounds i true)) a B
def ClsB (C : World -> Prop) (B : FB) (w : World) : Prop := C w /\ ∀ L z, B L = some z -> w.heap[L]? = some z
theorem ClsB.later {B : FB} {w w' : World} (hst : ∀ w w', C w -> Below w.heap.size w w' -> C w') (h : ClsB C B w) (hb : Below w.heap.size w w') : ClsB C B w' :=
 ⟨hst _ _ h.1 hb, fun L z hz => (hb.block L (Array.getElem?_eq_some_iff.1 (h.2 L z hz)).1).trans (h.2 L z hz)⟩
theorem ClsB.new {B : FB} {w : World} (hst : ∀ w w', C w -> Below w.heap.size w w' -> C w') (h : ClsB C B w) (z : Obj) : B w.heap.size = none /\ ClsB C (FB.upd B w.heap.size z) (w.alloc z) := by
 refine ⟨?_, ?_⟩
 ·cases hb : B w.heap.size with
  | none => rfl
  | some z' => exact absurd (Array.getElem?_eq_some_iff.1 (h.2 _ _ hb)).1 (Nat.lt_irrefl _)
 ·have hl := h.later hst ((bF _ _).alloc (Nat.le_refl _) z)
  refine ⟨hl.1, fun L z' hz => ?_⟩
  unfold FB.upd at hz
  by_cases e : L = w.heap.size
  ·rw [if_pos e] at hz
   cases hz
   rw [e]
   show (w.heap.push z)[w.heap.size]? = some z
   simp
  ·rw [if_neg e] at hz
   exact hl.2 L z' hz
theorem zHi {sp : Nat -> z6s} {i : Nat} {a : Act} {B : FB} {K : Act -> FB -> Prop} {K' : Act -> World -> Prop} {Q' : Exit -> Act -> World -> Prop} {w : World} (hst : ∀ w w', C w -> Below w.heap.size w w' -> C w') (hn : ∀ w, C w -> n0 <= w.heap.size) (hC : ClsB C B w)
  (h : ∀ a B w', ClsB C B w' -> K a B -> K' a w') (hh : fOp P ops C n0 sp i K a B) : wpOp P ops Q' i K' a w := by
 unfold fOp at hh
 unfold wpOp
 split
 ·rename_i ho; simp only [ho] at hh; exact h _ _ _ hC hh
 ·rename_i o ho
  simp only [ho] at hh
  obtain ⟨h1, h2⟩ := hh
  cases hs : sp i with
  | inl v =>
   rw [hs] at h1 h2
   rcases h1 with ⟨hw, hv⟩ | ⟨hw, rfl⟩
   ·rw [if_pos hw]
    refine Or.inl ?_
    have h3 := hv w hC.1
    unfold Oper.wp
    generalize (execOp a.eval o).run P w = r at h3 ⊢
    cases r with
    | ok nx w' =>
     cases nx <;> simp only [zAh] at h3 <;> simp only [Oper.upon]
     case value u =>
      obtain ⟨e1, e2⟩ := h3
      rw [e1, e2]
      exact h _ _ _ hC h2
     case skip =>
      obtain ⟨e1, e2⟩ := h3
      rw [e1, <- e2]
      exact h _ _ _ hC h2
     case enter f args =>
      obtain ⟨e1, hc⟩ := h3
      rw [e1]
      exact hc.mono fun e w'' ⟨he, hw''⟩ => by subst he; exact h _ _ _ (hC.later hst hw'') h2
    | halt x w' => simp only [zAh] at h3
   ·rw [if_neg (by rw [hw]; decide)]
    exact h _ _ _ hC h2
  | inr zf =>
   obtain ⟨z, f⟩ := zf
   rw [hs] at h1 h2
   obtain ⟨hw, hv⟩ := h1
   rw [if_pos hw]
   refine Or.inl ?_
   unfold Oper.wp
   rw [hv w hC.1]
   simp only [Oper.upon]
   obtain ⟨n1, n2⟩ := hC.new hst z
   exact h _ _ _ n2 (h2 _ n1 (hn w hC.1))
theorem z67.of_same {o : Oper} {a a' : Act} {s : z6s} (h : z67 P ops C o a s) (he : execOp a'.eval o = execOp a.eval o) (hw : Region.wanted o (yielded ops a'.tmps) = Region.wanted o (yielded ops a.tmps)) : z67 P ops C o a' s := by
 cases s with
 | inl v => unfold z67 at *; rw [he, hw]; exact h
 | inr zf => obtain ⟨z, f⟩ := zf; unfold z67 at *; rw [he, hw]; exact h
theorem z6r.mono {o : Oper} {K K' : Act -> FB -> Prop} {a : Act} {B : FB} {s : z6s} (h : z6r n0 o K a B s) (hk : ∀ v B', (B' = B \/ ∃ L z, B L = none /\ B' = FB.upd B L z) -> K (a.put o.dst v) B' -> K' (a.put o.dst v) B') : z6r n0 o K' a B s := by
 cases s with
 | inl v => exact hk v B (Or.inl rfl) h
 | inr zf =>
  obtain ⟨z, f⟩ := zf
  exact fun L h1 h2 => hk _ _ (Or.inr ⟨L, z, h1, rfl⟩) (h L h1 h2)
theorem z6r.swap {oi oj : Oper} {K : Act -> FB -> Prop} {a : Act} {B : FB} {si sj : z6s} (hap : ∀ d, oi.dst = some d -> oj.dst ≠ some d) (h : z6r n0 oi (fun a' B' => z6r n0 oj K a' B' sj) a B si) :
  z6r n0 oj (fun a' B' => z6r n0 oi K a' B' si) a B sj := by
 cases si with
 | inl v =>
  cases sj with
  | inl u =>
   have h' : K ((a.put oi.dst v).put oj.dst u) B := h
   show K ((a.put oj.dst u).put oi.dst v) B
   rw [<- Act.put_comm a v u hap]; exact h'
  | inr zf =>
   obtain ⟨z, f⟩ := zf
   have h' : ∀ L, B L = none -> n0 <= L -> K ((a.put oi.dst v).put oj.dst (f L)) (FB.upd B L z) := h
   show ∀ L, B L = none -> n0 <= L -> K ((a.put oj.dst (f L)).put oi.dst v) (FB.upd B L z)
   intro L h1 h2
   rw [<- Act.put_comm a v (f L) hap]; exact h' L h1 h2
 | inr zg =>
  obtain ⟨z', g⟩ := zg
  cases sj with
  | inl u =>
   have h' : ∀ L, B L = none -> n0 <= L -> K ((a.put oi.dst (g L)).put oj.dst u) (FB.upd B L z') := h
   show ∀ L, B L = none -> n0 <= L -> K ((a.put oj.dst u).put oi.dst (g L)) (FB.upd B L z')
   intro L h1 h2
   rw [<- Act.put_comm a (g L) u hap]; exact h' L h1 h2
  | inr zf =>
   obtain ⟨z, f⟩ := zf
   have h' : ∀ L, B L = none -> n0 <= L -> ∀ L', FB.upd B L z' L' = none -> n0 <= L' -> K ((a.put oi.dst (g L)).put oj.dst (f L')) (FB.upd (FB.upd B L z') L' z) := h
   show ∀ L', B L' = none -> n0 <= L' -> ∀ L, FB.upd B L' z L = none -> n0 <= L -> K ((a.put oj.dst (f L')).put oi.dst (g L)) (FB.upd (FB.upd B L' z) L z')
   intro L' h1 h2 L h3 h4
   obtain ⟨e1, e2⟩ := FB.upd_none h3
   rw [<- Act.put_comm a (g L) (f L') hap, <- FB.upd_comm B e1]
   exact h' L e2 h4 L' (FB.none_upd (fun e => e1 e.symm) h1) h2
theorem z6r.some {o : Oper} {K : Act -> FB -> Prop} {a : Act} {B : FB} {s : z6s} (hf : FB.Fin B) (h : z6r n0 o K a B s) : ∃ v B', (B' = B \/ ∃ L z, B L = none /\ B' = FB.upd B L z) /\ K (a.put o.dst v) B' := by
 cases s with
 | inl v => exact ⟨v, B, Or.inl rfl, h⟩
 | inr zf =>
  obtain ⟨z, f⟩ := zf
  obtain ⟨L, h1, h2⟩ := hf.fresh n0
  exact ⟨f L, _, Or.inr ⟨L, z, h1, rfl⟩, h L h1 h2⟩
theorem zVm {B B' : FB} (hf : FB.Fin B) (h : B' = B \/ ∃ L z, B L = none /\ B' = FB.upd B L z) : FB.Fin B' := by
 rcases h with rfl | ⟨L, z, -, rfl⟩
 ·exact hf
 ·exact hf.upd L z
theorem zFb {sp : Nat -> z6s} {n i : Nat} {oi : Oper} {L : Array Bool -> Act -> FB -> Prop} (hi : ops[i]? = some oi) (hsel : ∀ (j : Nat) (o : Oper) cs b, ops[j]? = some o -> o.op ≠ .select cs b) (hin : i < n)
  (hdone : ∀ listed a B, L listed a B -> ∀ j ∈ Region.ready md ops listed, n <= j) :
  ∀ (f : Nat) (listed : Array Bool) (a : Act) (B : FB), FB.Fin B -> HeadInv md ops n listed ->
   (∀ j oj, ops[j]? = some oj -> j ≠ i -> listed.getD j true = false -> (∀ e ∈ oj.after, Region.binds md e = true -> e.on ≠ i) -> oi.apart ops oj = true) ->
   i ∈ Region.ready md ops listed -> z67 P ops C oi a (sp i) ->
   z6r n0 oi (z79 P md ops C n0 sp n L f (listed.setIfInBounds i true)) a B (sp i) -> z79 P md ops C n0 sp n L (f + 1) listed a B := by
 intro f
 induction f with
 | zero =>
  intro listed a B hfin inv _ hr hy H
  refine ⟨⟨i, hr, hin⟩, fun j hj hjn => ?_⟩
  by_cases hji : j = i
  ·subst hji
   unfold fOp
   simp only [hi]
   exact ⟨hy, H⟩
  ·obtain ⟨v, B', -, hK⟩ := H.some hfin
   have := hdone _ _ _ hK j (ready_mono hj hji)
   omega
 | succ f ih =>
  intro listed a B hfin inv hfree hr hy H
  have hun := (mem_ready.1 hr).1
  refine ⟨⟨i, hr, hin⟩, fun j hj hjn => ?_⟩
  by_cases hji : j = i
  ·subst hji
   unfold fOp
   simp only [hi]
   exact ⟨hy, H⟩
  ·obtain ⟨hjun, oj, hoj, hall⟩ := mem_ready.1 hj
   have hnot : ∀ e ∈ oj.after, Region.binds md e = true -> e.on ≠ i := fun e he hb heq => by
    have h1 := hall e he hb
    rw [heq, getD_both hun] at h1
    cases h1
   obtain ⟨p1, p2, p3⟩ := Oper.apart_spec (hfree j oj hoj hji hjun hnot)
   have hfree' : ∀ k ok, ops[k]? = some ok -> k ≠ i -> (listed.setIfInBounds j true).getD k true = false ->
     (∀ e ∈ ok.after, Region.binds md e = true -> e.on ≠ i) -> oi.apart ops ok = true := fun k ok hk hki hun hno => by
    refine hfree k ok hk hki ?_ hno
    by_cases hjk : j = k
    ·subst hjk; exact hjun
    ·rw [getD_set_ne true hjk] at hun; exact hun
   -- what is told of j, behind i
   have hjr : j ∈ Region.ready md ops (listed.setIfInBounds i true) := ready_mono hj hji
   have step : ∀ a' B', z79 P md ops C n0 sp n L (f + 1) (listed.setIfInBounds i true) a' B' -> z67 P ops C oj a' (sp j) /\ z6r n0 oj (z79 P md ops C n0 sp n L f ((listed.setIfInBounds i true).setIfInBounds j true)) a' B' (sp j) := by
    intro a' B' h
    have := h.2 j hjr hjn
    unfold fOp at this
    simp only [hoj] at this
    exact this
   have hold : z67 P ops C oj a (sp j) := by
    obtain ⟨v, B', -, hK⟩ := H.some hfin
    exact (step _ _ hK).1.of_same (execOp_put oj (fun cs b => hsel j oj cs b hoj) a oi.dst v p1).symm (wanted_put oj a oi.dst v p1).symm
   have nxt : z6r n0 oi (fun a' B' => z6r n0 oj (z79 P md ops C n0 sp n L f ((listed.setIfInBounds j true).setIfInBounds i true)) a' B' (sp j)) a B (sp i) := by
    refine H.mono fun v B' _ hK => ?_
    rw [<- Array.setIfInBounds_comm _ _ (fun e => hji e.symm)]
    exact (step _ _ hK).2
   unfold fOp
   simp only [hoj]
   refine ⟨hold, (nxt.swap p2).mono fun v B' hB' hK => ?_⟩
   exact ih (listed.setIfInBounds j true) _ B' (zVm hfin hB') (inv.set hj hjn) hfree' (ready_mono hr (Ne.symm hji)) (hy.of_same (execOp_put oi (fun cs b => hsel i oi cs b hi) a oj.dst v p3) (wanted_put oi a oj.dst v p3)) hK
def wpF (P : Program) (ops : Array Oper) (C : World -> Prop) (n0 : Nat) (Q : Act -> FB -> Prop) : List Oper -> List z6s -> Act -> FB -> Prop
 | [], _, a, B => Q a B
 | _ :: _, [], _, _ => False
 | o :: l, s :: ss, a, B => z67 P ops C o a s /\ z6r n0 o (fun a' B' => wpF P ops C n0 Q l ss a' B') a B s
theorem zCb {n g : Nat} {Lq : Act -> FB -> Prop} {sp : Nat -> z6s} (hsel : Region.noSelect ops = true) :
  ∀ (l : List Oper) (ss : List z6s) (k : Nat) (listed : Array Bool) (a : Act) (B : FB), FB.Fin B -> (∀ j, j < l.length -> l[j]? = ops[k + j]?) -> (∀ j, j < l.length -> ss[j]? = some (sp (k + j))) -> k + l.length = n -> HeadInv md ops n listed ->
  Region.lexHead md ops g l.length k listed = true -> wpF P ops C n0 Lq l ss a B ->
  z79 P md ops C n0 sp n (fun listed' a' B' => Region.seqB md ops g n listed' = true /\ Lq a' B') l.length listed a B
 | [], _, k, listed, a, B, _, _, _, hk, _, hB, h => by
  have : k = n := by simpa using hk
  subst this
  exact ⟨by simpa [Region.lexHead] using hB, h⟩
 | o :: l, [], k, listed, a, B, _, _, _, _, _, _, h => absurd h (by simp [wpF])
 | o :: l, s :: ss, k, listed, a, B, hfin, hl, hsp, hk, inv, hB, h => by
  have h0 : ops[k]? = some o := by simpa using (hl 0 (by simp)).symm
  have s0 : s = sp k := by simpa using hsp 0 (by simp)
  simp only [List.length_cons, Region.lexHead, Bool.and_eq_true] at hB
  obtain ⟨⟨hr, hf⟩, hB'⟩ := hB
  have hkn : k < n := by simp only [List.length_cons] at hk; omega
  have hr' : k ∈ Region.ready md ops listed := by simpa using hr
  obtain ⟨hy, hK⟩ := h
  subst s0
  exact zFb h0 (Region.noSelect_spec hsel) hkn (fun listed' a' B' hL => seqB_ready hL.1) l.length listed a B hfin inv (Region.free_spec h0 hf) hr' hy
   (hK.mono fun v B' hB2 h' => zCb hsel l ss (k + 1) _ _ B' (zVm hfin hB2) (fun j hj => by have := hl (j + 1) (by simp; omega); simpa [Nat.add_assoc, Nat.add_comm 1 j] using this)
    (fun j hj => by have := hsp (j + 1) (by simp; omega); simpa [Nat.add_assoc, Nat.add_comm 1 j] using this) (by simp only [List.length_cons] at hk; omega) (inv.set hr' hkn) hB' h')
def zVn (md : Region.Mode) (ops : Array Oper) (n : Nat) (lz : List Nat) : Bool :=
 lz.all fun i => decide (i < n) && match ops[i]? with
  | some o => (o.guard.isNone && match o.op with | .extract .. => true | _ => false) && (List.range ops.size).all fun j => j == i || Region.waitsFor md ops j i || Region.waitsFor md ops i j || match ops[j]? with
   | some oj => o.apart ops oj
   | none => true
  | none => false
def zWy (md : Region.Mode) (ops : Array Oper) (n : Nat) (lz : List Nat) : Bool :=
 (List.range n).all fun i => lz.contains i || (List.range (n + 1)).any fun j => decide (i < j) && (j == n || !lz.contains j) && Region.waitsFor md ops j i
theorem z9b {o : Oper} {x : Operand} {k : Nat} (ho : o.op = .extract x k) (ρ : Operand -> Value) (w w' w1 : World) (u : Value) (h : (execOp ρ o).run P w = .ok (.value u) w1) : w1 = w /\ (execOp ρ o).run P w' = .ok (.value u) w' := by
 unfold execOp at h ⊢
 simp only [ho] at h ⊢
 cases hx : ρ x <;> simp [hx, Instr.extract] at h ⊢
 all_goals first | (split at h <;> simp_all) | simp_all
theorem zFk {n : Nat} {lz : List Nat} {listed : Array Bool} (hs : zWy md ops n lz = true) (hc : Region.chainB md ops n = true) (hn : n < ops.size) (inv : HeadInv md ops n listed) :
  ∀ (d i : Nat), n - i = d -> i < n -> i ∉ lz -> listed.getD i true = false -> ∀ t, n <= t -> t ∉ Region.ready md ops listed := by
 intro d
 induction d using Nat.strongRecOn with
 | _ d ih =>
  intro i hd hi hz hun t ht hr
  obtain ⟨_, ot, hot, hall⟩ := mem_ready.1 hr
  have htlt : t < ops.size := (Array.getElem?_eq_some_iff.1 hot).1
  by_cases htn : t = n
  ·subst htn
   have h1 := List.all_eq_true.1 hs i (List.mem_range.2 hi)
   simp only [Bool.or_eq_true, List.contains_eq_mem, decide_eq_true_eq] at h1
   obtain ⟨j, hj, hj2⟩ := List.any_eq_true.1 (h1.resolve_left hz)
   simp only [Bool.and_eq_true, decide_eq_true_eq, Bool.or_eq_true, beq_iff_eq, Bool.not_eq_true', decide_eq_false_iff_not] at hj2
   obtain ⟨oj, hoj, e, he, hb, hon⟩ := Region.waitsFor_spec hj2.2
   have hjle : j <= t := by have := List.mem_range.1 hj; omega
   by_cases hjt : j = t
   ·subst hjt
    have : oj = ot := Option.some.inj (hoj.symm.trans hot)
    subst this
    have h2 := hall e he hb
    rw [hon, getD_both hun] at h2
    cases h2
   ·cases hl : listed.getD j false with
    | true =>
     have h2 := inv.closed j oj hoj hl e he hb
     rw [hon, getD_both hun] at h2
     cases h2
    | false =>
     have hjs : j < listed.size := by rw [inv.size]; omega
     exact ih (t - j) (by omega) j rfl (by omega) (hj2.1.2.resolve_left hjt) (getD_in hjs hl) t (Nat.le_refl _) hr
  ·have h1 := List.all_eq_true.1 hc t (List.mem_range.2 htlt)
   simp only [Bool.or_eq_true, decide_eq_true_eq] at h1
   rcases h1 with h1 | h1
   ·omega
   ·obtain ⟨o', ho', e, he, hb, hon⟩ := Region.waitsFor_spec h1
    have : o' = ot := Option.some.inj (ho'.symm.trans hot)
    subst this
    have h2 := hall e he hb
    rw [hon, getD_both (inv.tail (t - 1) (by omega) (by omega))] at h2
    cases h2
theorem z4r {sp : Nat -> z6s} {n g : Nat} {lz : List Nat} {L : Array Bool -> Act -> FB -> Prop} {Q' : Exit -> Act -> World -> Prop} (hst : ∀ w w', C w -> Below w.heap.size w w' -> C w') (hn0 : ∀ w, C w -> n0 <= w.heap.size)
  (hsel : Region.noSelect ops = true) (hz : zVn md ops n lz = true) (hs : zWy md ops n lz = true) (hc : Region.chainB md ops n = true) (hn : n < ops.size)
  (hQ : ∀ d v c a w, Q' (.panic c) (a.put d v) w -> Q' (.panic c) a w)
  (hL : ∀ listed a B w, ClsB C B w -> L listed a B -> wpAny P md ops Q' g listed a w) :
  ∀ (f : Nat) (listed : Array Bool) (a : Act) (B : FB) (w : World), HeadInv md ops n listed -> ClsB C B w -> z79 P md ops C n0 sp n L f listed a B -> wpAny P md ops Q' (f + g) listed a w
 | 0, listed, a, B, w, _, hC, h => by rw [Nat.zero_add]; exact hL _ _ _ _ hC h
 | f + 1, listed, a, B, w, inv, hC, h => by
  rw [show f + 1 + g = (f + g) + 1 by omega]
  by_cases hl : ∃ i, i ∈ Region.ready md ops listed /\ i ∈ lz
  ·obtain ⟨i, hir, hiz⟩ := hl
   have h1 := List.all_eq_true.1 hz i hiz
   obtain ⟨hun, oi, hoi, hall⟩ := mem_ready.1 hir
   simp only [Bool.and_eq_true, decide_eq_true_eq, hoi, Option.isNone_iff_eq_none] at h1
   obtain ⟨hin, ⟨hg, hop⟩, hfr⟩ := h1
   have hf := h.2 i hir hin
   unfold fOp at hf
   simp only [hoi] at hf
   obtain ⟨x, k, ho⟩ : ∃ x k, oi.op = .extract x k := by
    cases hh : oi.op <;> simp only [hh] at hop <;> first | exact ⟨_, _, rfl⟩ | cases hop
   have hwt : Region.wanted oi (yielded ops a.tmps) = true := by unfold Region.wanted; rw [hg]
   have key : ∃ v, Yields P ops oi v a /\ z79 P md ops C n0 sp n L f (listed.setIfInBounds i true) (a.put oi.dst v) B := by
    cases hsp : sp i with
    | inl v =>
     rw [hsp] at hf
     refine ⟨v, Or.inl ⟨hwt, fun w' => ?_⟩, hf.2⟩
     rcases hf.1 with ⟨-, hv⟩ | ⟨hw, -⟩
     ·have h3 := hv w hC.1
      cases hr : (execOp a.eval oi).run P w with
      | ok nx w1 =>
       rw [hr] at h3
       cases nx <;> simp only [zAh] at h3
       case value u => obtain ⟨e1, e2⟩ := h3; rw [e2] at hr; exact (z9b ho a.eval w w' w1 v hr).2
       case skip =>
        exfalso
        unfold execOp at hr
        simp only [ho] at hr
        cases hx : a.eval x <;> simp [hx, Instr.extract] at hr
        all_goals (split at hr <;> simp_all)
       case enter f args =>
        exfalso
        unfold execOp at hr
        simp only [ho] at hr
        cases hx : a.eval x <;> simp [hx, Instr.extract] at hr
        all_goals (split at hr <;> simp_all)
      | halt x w1 => rw [hr] at h3; simp only [zAh] at h3
     ·rw [hwt] at hw; cases hw
    | inr zf =>
     obtain ⟨z, fz⟩ := zf
     rw [hsp] at hf
     have h3 := hf.1.2 w hC.1
     have h4 := (z9b ho a.eval w w _ _ h3).1
     have h5 : (w.alloc z).heap.size = w.heap.size := by rw [h4]
     simp at h5
   obtain ⟨v, hy, hK⟩ := key
   refine wpAny_first hoi (Region.noSelect_spec hsel) (fun c a w => hQ oi.dst v c a w) (f + g) listed a w (fun j oj hj hji hunj hno => ?_) hir hy (z4r hst hn0 hsel hz hs hc hn hQ hL f _ _ B w (inv.set hir hin) hC hK)
   have h6 := List.all_eq_true.1 hfr j (List.mem_range.2 (Array.getElem?_eq_some_iff.1 hj).1)
   simp only [Bool.or_eq_true, beq_iff_eq, hji, false_or, hj] at h6
   rcases h6 with (h6 | h6) | h6
   ·obtain ⟨o', ho', e, he, hb, hon⟩ := Region.waitsFor_spec h6
    have : o' = oj := Option.some.inj (ho'.symm.trans hj)
    subst this
    exact absurd hon (hno e he hb)
   ·obtain ⟨o', ho', e, he, hb, hon⟩ := Region.waitsFor_spec h6
    have : o' = oi := Option.some.inj (ho'.symm.trans hoi)
    subst this
    have h7 := hall e he hb
    rw [hon, getD_both hunj] at h7
    cases h7
   ·exact h6
  ·obtain ⟨⟨i0, hi0, hi0n⟩, hstep⟩ := h
   have hun0 := (mem_ready.1 hi0).1
   have hi0z : i0 ∉ lz := fun e => hl ⟨i0, hi0, e⟩
   refine ⟨fun h0 => (by rw [h0] at hi0; cases hi0), fun i hi => ?_⟩
   have hin : i < n := by
    rcases Nat.lt_or_ge i n with h | h
    ·exact h
    ·exact absurd hi (zFk hs hc hn inv _ i0 rfl hi0n hi0z hun0 i h)
   exact zHi hst hn0 hC (fun a' B' w' hC' h' => z4r hst hn0 hsel hz hs hc hn hQ hL f _ a' B' w' (inv.set hi hin) hC' h') (hstep i hi hin)
def zKx (ops : Array Oper) (n : Nat) (lz : List Nat) : Bool :=
 Region.noSelect ops && decide (n < ops.size) && zVn .any ops n lz && zWy .any ops n lz && Region.chainB .any ops n && Region.lexHead .any ops (ops.size - n) n 0 (Array.replicate ops.size false)
theorem z9s {id : Nat} {Q : Exit -> Act -> World -> Prop} {a : Act} {w : World} {l : List Oper} (n : Nat) (lz : List Nat) (ss : List z6s) (hm : P.follows .mixedOrders = true) (hB : zKx l.toArray n lz = true) (hlen : ss.length = n)
  (hQ : ∀ d v c a w, Q (.panic c) (a.put d v) w -> Q (.panic c) a w)
  (hst : ∀ w w', C w -> Below w.heap.size w w' -> C w') (hn0 : ∀ w, C w -> n0 <= w.heap.size) (hC : C w.drew)
  (h : wpF P l.toArray C n0 (fun a' B => ∀ w', C w' -> (∀ L z, B L = some z -> w'.heap[L]? = some z) -> wpList P l.toArray Q (l.drop n) a' w') (l.take n) ss a (fun _ => none)) : (Code.region id l.toArray true).wp P Q a w := by
 simp only [zKx, Bool.and_eq_true, decide_eq_true_eq] at hB
 obtain ⟨⟨⟨⟨⟨hsel, hn⟩, hz⟩, hs⟩, hc⟩, hlex⟩ := hB
 have hn' : n < l.length := by simpa using hn
 have htl : (l.take n).length = n := by simp; omega
 have hdl : (l.drop n).length = l.toArray.size - n := by simp
 have inv0 : HeadInv .any l.toArray n (Array.replicate l.toArray.size false) :=
  ⟨by simp, fun j oj _ hl => (by rw [getD_replicate_false] at hl; cases hl), fun t _ ht => getD_in (by simpa using ht) (getD_replicate_false _ _)⟩
 have H := zCb (md := .any) (g := l.toArray.size - n) (sp := fun j => ss.getD j (.inl undef)) hsel (l.take n) ss 0 _ a (fun _ => none) ⟨0, fun _ _ => rfl⟩ (fun j hj => by
  have hj' : j < n := by rw [htl] at hj; exact hj
  simp [hj']) (fun j hj => by
  have hj' : j < ss.length := by rw [htl] at hj; omega
  simp [hj']) (by simpa using htl) inv0 (by rw [htl]; exact hlex) h
 refine wp_region_any hm ?_
 have := z4r (Q' := Q) (g := l.toArray.size - n) hst hn0 hsel hz hs hc hn hQ (fun listed a' B w' hC' hL => by
  have := wpAny_of_seq (md := .any) (Q' := Q) (l.drop n) n listed a' w' (fun j => by simp [List.getElem?_drop]) (by rw [hdl]; exact hL.1) (hL.2 w' hC'.1 hC'.2)
  rwa [hdl] at this) _ _ _ _ _ inv0 (⟨hC, fun _ _ h => by cases h⟩ : ClsB C (fun _ => none) w.drew) H
 rw [htl, show n + (l.toArray.size - n) = l.toArray.size by omega] at this
 exact this
end
end
section
open Go.RowKit
section
variable {P : Program} {ops : Array Oper} {C : World -> Prop} {n0 : Nat}
def wpQ (P : Program) (ops : Array Oper) (C : World -> Prop) (K : Act -> Prop) : List Oper -> Act -> Prop
 | [], a => K a
 | o :: l, a => ∃ v, z67 P ops C o a (.inl v) /\ wpQ P ops C K l (a.put o.dst v)
def z5f (L : Nat) : Value := pT (some ⟨L, 0, none⟩)
def zSh (n0 : Nat) (K : Act -> FB -> Prop) : List Oper -> List Obj -> Act -> FB -> Prop
 | o :: l, z :: zs, a, B => ∀ L, B L = none -> n0 <= L -> zSh n0 K l zs (a.put o.dst (z5f L)) (FB.upd B L z)
 | _, _, a, B => K a B
def zF9 (P : Program) (C : World -> Prop) : List Oper -> List Obj -> Prop
 | o :: l, z :: zs => (o.guard = none /\ ∀ (a : Act) w, C w -> (execOp a.eval o).run P w = .ok (.value (z5f w.heap.size)) (w.alloc z)) /\ zF9 P C l zs
 | [], [] => True
 | _, _ => False
theorem zHk {o : Oper} (h : o.guard = none) (y : Nat -> Option Bool) : Region.wanted o y = true := by unfold Region.wanted; rw [h]
theorem zOc {K : Act -> FB -> Prop} : ∀ (l : List Oper) (zs : List Obj) (a : Act) (B : FB), zF9 P C l zs -> zSh n0 K l zs a B -> wpF P ops C n0 K l (zs.map fun z => .inr (z, z5f)) a B
 | [], [], _, _, _, h => h
 | [], _ :: _, _, _, hz, _ => absurd hz (by simp [zF9])
 | _ :: _, [], _, _, hz, _ => absurd hz (by simp [zF9])
 | o :: l, z :: zs, a, B, hz, h => ⟨⟨zHk hz.1.1 _, hz.1.2 a⟩, fun L h1 h2 => zOc l zs _ _ hz.2 (h L h1 h2)⟩
theorem zG8 : ∀ {l : List Oper} {zs : List Obj}, zF9 P C l zs -> l.length = zs.length
 | [], [], _ => rfl
 | [], _ :: _, h => absurd h (by simp [zF9])
 | _ :: _, [], h => absurd h (by simp [zF9])
 | _ :: l, _ :: zs, h => by simp [zG8 h.2]
theorem zVb {K : Act -> FB -> Prop} {l2 : List Oper} {zs : List Obj} (hz : zF9 P C l2 zs) {B : FB} : ∀ (l1 : List Oper) (a : Act), wpQ P ops C (fun a' => zSh n0 K l2 zs a' B) l1 a -> ∃ ss : List z6s, ss.length = l1.length + l2.length /\ wpF P ops C n0 K (l1 ++ l2) ss a B
 | [], a, h => ⟨_, by simp [zG8 hz], zOc l2 zs a B hz h⟩
 | o :: l1, a, ⟨v, h1, h2⟩ => by
  obtain ⟨ss, e, h⟩ := zVb hz l1 _ h2
  exact ⟨.inl v :: ss, by simp [e]; omega, h1, h⟩
theorem z0l {id : Nat} {Q : Exit -> Act -> World -> Prop} {a : Act} {w : World} {l : List Oper} (n : Nat) (lz : List Nat) (zs : List Obj) (hm : P.follows .mixedOrders = true) (hB : zKx l.toArray (n + zs.length) lz = true) (hQ : ∀ d v c a w, Q (.panic c) (a.put d v) w -> Q (.panic c) a w)
  (hst : ∀ w w', C w -> Below w.heap.size w w' -> C w') (hn0 : ∀ w, C w -> n0 <= w.heap.size) (hC : C w.drew) (hz : zF9 P C ((l.drop n).take zs.length) zs)
  (h : wpQ P l.toArray C (fun a' => zSh n0 (fun a2 B => ∀ w', C w' -> (∀ L z, B L = some z -> w'.heap[L]? = some z) -> wpList P l.toArray Q (l.drop (n + zs.length)) a2 w') ((l.drop n).take zs.length) zs a' (fun _ => none)) (l.take n) a) :
  (Code.region id l.toArray true).wp P Q a w := by
 have hn : n + zs.length < l.length := by
  have := hB
  simp only [zKx, Bool.and_eq_true, decide_eq_true_eq] at this
  simpa using this.1.1.1.1.2
 obtain ⟨ss, e, hF⟩ := zVb hz _ _ h
 have el : l.take n ++ (l.drop n).take zs.length = l.take (n + zs.length) := (List.take_add).symm
 rw [el] at hF
 refine z9s (n + zs.length) lz ss hm hB ?_ hQ hst hn0 hC hF
 rw [e]
 simp
 omega
theorem z0r {K : Act -> Prop} {a : Act} (h : K a) : wpQ P ops C K [] a := h
theorem z0a {K : Act -> Prop} {o : Oper} {l : List Oper} {a : Act} {v : Value} (hw : Region.wanted o (yielded ops a.tmps) = true) (hy : ∀ w, C w -> (execOp a.eval o).run P w = .ok (.value v) w) (h : wpQ P ops C K l (a.put o.dst v)) : wpQ P ops C K (o :: l) a :=
 ⟨v, Or.inl ⟨hw, fun w hC => by rw [hy w hC]; exact ⟨rfl, rfl⟩⟩, h⟩
theorem z0v {K : Act -> Prop} {o : Oper} {l : List Oper} {a : Act} (hw : Region.wanted o (yielded ops a.tmps) = true) (h : ∃ v, (∀ w, C w -> zAh P w v ((execOp a.eval o).run P w)) /\ wpQ P ops C K l (a.put o.dst v)) : wpQ P ops C K (o :: l) a := by
 obtain ⟨v, h1, h2⟩ := h
 exact ⟨v, Or.inl ⟨hw, h1⟩, h2⟩
theorem z0i {K : Act -> Prop} {o : Oper} {l : List Oper} {a : Act} (hw : Region.wanted o (yielded ops a.tmps) = false) (h : wpQ P ops C K l (a.put o.dst undef)) : wpQ P ops C K (o :: l) a := ⟨undef, Or.inr ⟨hw, rfl⟩, h⟩
theorem z16 {f : FuncId} {args : Array Value} {w : World} {v : Value} (h : Calls P f args w fun e w'' => e = rT v /\ Below w.heap.size w w'') : zAh P w v (.ok (.enter f args) w) := ⟨rfl, h⟩
theorem FB.at_new (B : FB) (L : Nat) (z : Obj) : FB.upd B L z L = some z := if_pos rfl
theorem FB.at_old {B : FB} {L L' : Nat} {z z' : Obj} (h : L' ≠ L) (h' : B L' = some z') : FB.upd B L z L' = some z' := (if_neg h).trans h'
end
end
section
open Go.RowKit
def Blk (w0 : World) (F : List (Nat × Obj)) (w : World) : Prop := Below w0.heap.size w0 w /\ ∀ x, x ∈ F -> w.heap[x.1]? = some x.2
section
variable {w0 w w' : World} {F : List (Nat × Obj)}
theorem Blk.later (h : Blk w0 F w) (hb : Below w.heap.size w w') : Blk w0 F w' :=
 ⟨h.1.trans (hb.mono h.1.size), fun x hx => (hb.block x.1 (Array.getElem?_eq_some_iff.1 (h.2 x hx)).1).trans (h.2 x hx)⟩
theorem Blk.stable (w0 : World) (F : List (Nat × Obj)) : ∀ w w', Blk w0 F w -> Below w.heap.size w w' -> Blk w0 F w' := fun _ _ h hb => h.later hb
theorem Blk.drew (h : Blk w0 F w) : Blk w0 F w.drew := ⟨h.1.drew, h.2⟩
theorem Blk.lt (h : Blk w0 F w) {g : Nat} {z : Obj} (hm : (g, z) ∈ F) : g < w.heap.size := (Array.getElem?_eq_some_iff.1 (h.2 _ hm)).1
theorem Blk.room (w0 : World) {F : List (Nat × Obj)} {g : Nat} {z : Obj} (hm : (g, z) ∈ F) : ∀ w, Blk w0 F w -> g + 1 <= w.heap.size := fun _ h => h.lt hm
theorem Blk.room0 (w0 : World) (F : List (Nat × Obj)) : ∀ w, Blk w0 F w -> w0.heap.size <= w.heap.size := fun _ h => h.1.size
theorem Blk.nil (hb : Below w0.heap.size w0 w) : Blk w0 [] w := ⟨hb, fun _ h => absurd h (by simp)⟩
theorem Blk.cons {g : Nat} {z : Obj} (h : Blk w0 F w) (hg : w.heap[g]? = some z) : Blk w0 ((g, z) :: F) w :=
 ⟨h.1, fun x hx => by
  rcases List.mem_cons.mp hx with rfl | hx
  ·exact hg
  ·exact h.2 x hx⟩
theorem Blk.more {F' : List (Nat × Obj)} (h : Blk w0 F w) (h' : ∀ x, x ∈ F' -> x ∈ F) : Blk w0 F' w := ⟨h.1, fun x hx => h.2 x (h' x hx)⟩
end
section
variable {w : World} {g : Nat} {t : TypeId} {a b c d e f : Value}
theorem row2 (h : w.heap[g]? = some (cT #[a, b] t (0, 0))) : w.cell? ⟨g, 0, none⟩ = some a /\ w.cell? ⟨g, 1, none⟩ = some b /\ w.frozen? ⟨g, 0, none⟩ = false /\ w.frozen? ⟨g, 1, none⟩ = false /\ g < w.heap.size :=
 ⟨by simp [World.cell?, h], by simp [World.cell?, h], by simp [World.frozen?, h], by simp [World.frozen?, h], (Array.getElem?_eq_some_iff.1 h).1⟩
theorem row3 (h : w.heap[g]? = some (cT #[a, b, c] t (0, 0))) : w.cell? ⟨g, 0, none⟩ = some a /\ w.cell? ⟨g, 1, none⟩ = some b /\ w.cell? ⟨g, 2, none⟩ = some c /\ w.frozen? ⟨g, 0, none⟩ = false /\ w.frozen? ⟨g, 1, none⟩ = false /\ w.frozen? ⟨g, 2, none⟩ = false /\ g < w.heap.size :=
 ⟨by simp [World.cell?, h], by simp [World.cell?, h], by simp [World.cell?, h], by simp [World.frozen?, h], by simp [World.frozen?, h], by simp [World.frozen?, h], (Array.getElem?_eq_some_iff.1 h).1⟩
theorem row6 (h : w.heap[g]? = some (cT #[a, b, c, d, e, f] t (0, 0))) : w.cell? ⟨g, 0, none⟩ = some a /\ w.cell? ⟨g, 1, none⟩ = some b /\ w.cell? ⟨g, 2, none⟩ = some c /\ w.cell? ⟨g, 3, none⟩ = some d /\ w.cell? ⟨g, 4, none⟩ = some e /\ w.cell? ⟨g, 5, none⟩ = some f /\ g < w.heap.size :=
 ⟨by simp [World.cell?, h], by simp [World.cell?, h], by simp [World.cell?, h], by simp [World.cell?, h], by simp [World.cell?, h], by simp [World.cell?, h], (Array.getElem?_eq_some_iff.1 h).1⟩
theorem put2 {x y : Value} (h : w.heap[g]? = some (cT #[a, b] t (0, 0))) : ((w.setCell ⟨g, 0, none⟩ x).setCell ⟨g, 1, none⟩ y).heap[g]? = some (cT #[x, y] t (0, 0)) :=
 heap_setCell_same _ g 1 _ t y (heap_setCell_same w g 0 _ t x h)
theorem put3 {x y z : Value} (h : w.heap[g]? = some (cT #[a, b, c] t (0, 0))) : (((w.setCell ⟨g, 0, none⟩ x).setCell ⟨g, 1, none⟩ y).setCell ⟨g, 2, none⟩ z).heap[g]? = some (cT #[x, y, z] t (0, 0)) :=
 heap_setCell_same _ g 2 _ t z (heap_setCell_same _ g 1 _ t y (heap_setCell_same w g 0 _ t x h))
theorem off2 {B : Nat} {o o' : Nat} {x y : Value} {ob : Obj} (h : w.heap[g]? = some ob) (hne : g ≠ B) : ((w.setCell ⟨B, o, none⟩ x).setCell ⟨B, o', none⟩ y).heap[g]? = some ob :=
 (heap_setCell_other _ _ _ _ hne).trans ((heap_setCell_other _ _ _ _ hne).trans h)
theorem off3 {B : Nat} {o o' o'' : Nat} {x y z : Value} {ob : Obj} (h : w.heap[g]? = some ob) (hne : g ≠ B) : (((w.setCell ⟨B, o, none⟩ x).setCell ⟨B, o', none⟩ y).setCell ⟨B, o'', none⟩ z).heap[g]? = some ob :=
 (heap_setCell_other _ _ _ _ hne).trans ((heap_setCell_other _ _ _ _ hne).trans ((heap_setCell_other _ _ _ _ hne).trans h))
end
end
section
open Go.ChangeShapes Go.WideShapes Go.ChangeAt Go.RowKit
attribute [local simp] z00 z0d z07
theorem z7s (B k : Nat) (hk : k < 3) (w : World) : Calls tP 32 #[pT (some ⟨B, 0, none⟩), A D (k : Int)] w fun e w' => e = rT (.tuple #[pT (some ⟨B, k * 317, none⟩), .nilIface]) /\ w' = w := by
 have z1 : decide ((k : Int) < 0) = false := decide_eq_false (by omega)
 have z2 : decide (3 <= (k : Int)) = false := decide_eq_false (by omega)
 have h0 : (0 : Int) <= (k : Int) := by omega
 have h1 : (k : Int) < 3 := by omega
 go_enter Tryz.func32, Tryz.ntmps32
 go_wp2
 exact bodyPost_ret (v := .tuple #[pT (some ⟨B, k * 317, none⟩), .nilIface]) (by simp [results, Tryz.results32, go_sem, *]) rfl ⟨rfl, rfl⟩
theorem zGo (B k : Nat) (hk : k < 3) (w : World) : Calls tP 10 #[pT (some ⟨B, 0, none⟩), A D (k : Int)] w fun e w' => e = rT (.tuple #[pT (some ⟨B, k * 317, none⟩), .nilIface]) /\ w' = w := by
 go_enter Tryz.func10, Tryz.ntmps10
 go_wp2_with (first
  | (go_at_call 32; go_must (refine (z7s B k hk _).mono ?_; rintro e w1 ⟨rfl, rfl⟩))
  | fail)
 exact bodyPost_ret (v := .tuple #[pT (some ⟨B, k * 317, none⟩), .nilIface]) (by simp [results, Tryz.results10, go_sem, *]) rfl ⟨rfl, rfl⟩
theorem zB2 (B k : Nat) (hk : k < 3) (d : Dsk) (w : World) (hD : z0k w B d) : Calls tP 11 #[pT (some ⟨B, 0, none⟩), A D (k : Int)] w fun e w' => e = rT (A D ((d.g k).evs.length : Int)) /\ w' = w := by
 have c0 : w.cell? ⟨B, k * 317 + 314, none⟩ = some (A D ((d.g k).evs.length : Int)) := hD.gate hk (by decide)
 go_enter Tryz.func11, Tryz.ntmps11
 go_wp2_with (first
  | (go_at_call 32; go_must (refine (z7s B k hk _).mono ?_; rintro e w1 ⟨rfl, rfl⟩))
  | fail)
 go_ret
 exact ⟨rfl, rfl⟩
theorem zU8 (B k : Nat) (hk : k < 3) (d : Dsk) (w : World) (hD : z0k w B d) : Calls tP 12 #[pT (some ⟨B, 0, none⟩), A D (k : Int)] w fun e w' => e = rT (A D (d.g k).left) /\ w' = w := by
 have c0 : w.cell? ⟨B, k * 317 + 316, none⟩ = some (A D (d.g k).left) := hD.gate hk (by decide)
 go_enter Tryz.func12, Tryz.ntmps12
 go_wp2_with (first
  | (go_at_call 32; go_must (refine (z7s B k hk _).mono ?_; rintro e w1 ⟨rfl, rfl⟩))
  | fail)
 go_ret
 exact ⟨rfl, rfl⟩
def z0o (T : Nat -> Int) : Array Value := #[A D (T 0), A D (T 1), A D (T 2), A D (T 3), A D (T 4), A D (T 5), A D (T 6), A D (T 7)]
theorem z9x (T : Nat -> Int) : (z0o T).size = 8 := rfl
theorem zCf (T : Nat -> Int) {j : Nat} (hj : j < 8) : (z0o T).toList.getD j undef = A D (T j) := by
 rcases (show j = 0 \/ j = 1 \/ j = 2 \/ j = 3 \/ j = 4 \/ j = 5 \/ j = 6 \/ j = 7 by omega) with rfl | rfl | rfl | rfl | rfl | rfl | rfl | rfl <;> rfl
theorem z8c (T : Nat -> Int) : (z0o T).all (·.oneCell') = true := by kernel_rfl
theorem zQl (T : Nat -> Int) : (Tryz.prog.info? 34).map (·.size) = some (z0o T).size := by rw [z9x]; kernel_rfl
theorem zAt {o : Oper} {u : Act} {x : Operand} {W : World} {g : Nat} {T : Nat -> Int} (hW : W.heap[g]? = some (cT (z0o T) 34 (0, 0))) (ho : o.op = .load 34 x) (hx : u.eval x = pT (some ⟨g, 0, none⟩)) : (execOp u.eval o).run tP W = .ok (.value (.agg (z0o T))) W := by
 have hl := run_loadVar_row (P := tP) W g 34 34 (z0o T) (0, 0) _ hW Tryz.underlying34 rfl (zQl T)
 unfold execOp
 simp only [ho, hx, Instr.loadAt, Instr.sureAddr, Sem.run_bind, Sem.run_pure, Result.andThen_ok, hl]
theorem zQq {α : Type} (l : List α) (x z : α) (i : Nat) : (l ++ [x]).getD i z = if i = l.length then x else l.getD i z := by
 rw [List.getD_eq_getElem?_getD, List.getD_eq_getElem?_getD]
 by_cases h : i = l.length
 ·rw [if_pos h, h, List.getElem?_append_right (Nat.le_refl _), Nat.sub_self]; rfl
 ·rw [if_neg h]
  rcases Nat.lt_or_ge i l.length with g | g
  ·rw [List.getElem?_append_left g]
  ·rw [List.getElem?_eq_none (by rw [List.length_append, List.length_singleton]; omega), List.getElem?_eq_none g]
theorem zJg (evs : List (Nat -> Int)) (T : Nat -> Int) (i : Nat) : z58 (evs ++ [T]) i = if evs.length * 8 <= i /\ i < evs.length * 8 + 8 then A D (T (i - evs.length * 8)) else z58 evs i := by
 unfold z58
 rw [zQq]
 by_cases h : i / 8 = evs.length
 ·rw [if_pos h, if_pos (by omega), show i % 8 = i - evs.length * 8 by omega]
 ·rw [if_neg h, if_neg (by omega)]
theorem zC6 (g : Gt) (T : Nat -> Int) {n : Nat} (hn : g.evs.length = n) (h20 : n < 20) (i : Nat) : z1f { g with evs := g.evs ++ [T] } i = if i = 314 then A D ((n + 1 : Nat) : Int) else if 154 + n * 8 <= i /\ i < 154 + n * 8 + 8 then A D (T (i - (154 + n * 8))) else z1f g i := by
 subst hn
 unfold z1f
 dsimp only
 by_cases c1 : i < 154
 ·rw [if_pos c1, if_pos c1, if_neg (show ¬ i = 314 by omega), if_neg (show ¬ (154 + g.evs.length * 8 <= i /\ i < 154 + g.evs.length * 8 + 8) by omega)]
 rw [if_neg c1, if_neg c1]
 by_cases c2 : i < 314
 ·rw [if_pos c2, if_pos c2, if_neg (show ¬ i = 314 by omega), zJg]
  by_cases c3 : 154 + g.evs.length * 8 <= i /\ i < 154 + g.evs.length * 8 + 8
  ·rw [if_pos c3, if_pos (by omega), show i - 154 - g.evs.length * 8 = i - (154 + g.evs.length * 8) by omega]
  ·rw [if_neg c3, if_neg (by omega)]
 rw [if_neg c2, if_neg c2]
 by_cases c3 : i = 314
 ·rw [if_pos c3, if_pos c3, List.length_append, List.length_singleton]
 ·rw [if_neg c3, if_neg c3, if_neg c3]
  by_cases c4 : i = 315
  ·rw [if_pos c4, if_neg (show ¬ (154 + g.evs.length * 8 <= i /\ i < 154 + g.evs.length * 8 + 8) by omega)]
  ·rw [if_neg c4, if_neg (show ¬ (154 + g.evs.length * 8 <= i /\ i < 154 + g.evs.length * 8 + 8) by omega)]
theorem zO1 (d : Dsk) {k n : Nat} (T : Nat -> Int) (hk : k < 3) (hn : (d.g k).evs.length = n) (h20 : n < 20) (j : Nat) (_ : j < 952) :
  (d.put k { d.g k with evs := (d.g k).evs ++ [T] }).cell j = if j = k * 317 + 314 then A D ((n + 1 : Nat) : Int) else if k * 317 + 154 + n * 8 <= j /\ j < k * 317 + 154 + n * 8 + (z0o T).toList.length then (z0o T).toList.getD (j - (k * 317 + 154 + n * 8)) undef else d.cell j := by
 have hl : (z0o T).toList.length = 8 := rfl
 rw [hl, z6l d _ hk]
 by_cases c : k * 317 <= j /\ j < k * 317 + 317
 ·rw [if_pos c]
  obtain ⟨i, rfl⟩ : ∃ i, j = k * 317 + i := ⟨j - k * 317, by omega⟩
  rw [Nat.add_sub_cancel_left, z2l d hk (by omega), zC6 _ T hn h20]
  by_cases c1 : i = 314
  ·rw [if_pos c1, if_pos (show k * 317 + i = k * 317 + 314 by omega)]
  rw [if_neg c1, if_neg (show ¬ k * 317 + i = k * 317 + 314 by omega)]
  by_cases c2 : 154 + n * 8 <= i /\ i < 154 + n * 8 + 8
  ·have e : k * 317 + i - (k * 317 + 154 + n * 8) = i - (154 + n * 8) := by omega
   rw [if_pos c2, if_pos (show k * 317 + 154 + n * 8 <= k * 317 + i /\ k * 317 + i < k * 317 + 154 + n * 8 + 8 by omega), e, zCf T (by omega)]
  ·rw [if_neg c2, if_neg (show ¬ (k * 317 + 154 + n * 8 <= k * 317 + i /\ k * 317 + i < k * 317 + 154 + n * 8 + 8) by omega)]
 ·rw [if_neg c, if_neg (show ¬ j = k * 317 + 314 by omega), if_neg (show ¬ (k * 317 + 154 + n * 8 <= j /\ j < k * 317 + 154 + n * 8 + 8) by omega)]
theorem zB3 (B k n : Nat) (hk : k < 3) (d : Dsk) (T : Nat -> Int) (w : World) (hD : z0k w B d) (hn : (d.g k).evs.length = n) (h20 : n < 20) : Calls tP 17 #[pT (some ⟨B, 0, none⟩), A D (k : Int), .agg (z0o T)] w fun e w' => e = rT .nilIface /\ Kept B w w' /\ z0k w' B (d.put k { d.g k with evs := (d.g k).evs ++ [T] }) := by
 have z1 : ((n : Int) == 20) = false := by simp; omega
 have hn0 : (0 : Int) <= (n : Int) := by omega
 have hn1 : (n : Int) < 20 := by omega
 have e1 : IntKind.i64.wrap ((n : Int) + 1) = ((n + 1 : Nat) : Int) := by rw [IntWalk.i64_left, z0f (by omega) (by omega)]; omega
 have hK0 : Blk w [(w.heap.size, cT (z0o T) 34 (0, 0)), (B, cT (Array.ofFn (n := 952) fun i => Dsk.cell d i.1) 93 (0, 0))] (w.alloc (cT (z0o T) 34)) := ((Blk.nil ((bF _ _).alloc (Nat.le_refl _) _)).cons ((heap_alloc_old _ _ hD.lt).trans hD)).cons (heap_alloc_new w _)
 have hC := hK0
 have hDk : z0k _ B d := (hC.2 _ (mcO _ mcS)); have c0 : World.cell? _ ⟨B, k * 317 + 314, none⟩ = some (A D (n : Int)) := (hDk.gate hk (by decide)).trans (by rw [<- hn]; rfl)
 have hne : B ≠ w.heap.size := by have := hD.lt; omega
 go_enter Tryz.func17, Tryz.ntmps17
 go_upto_region 6 with (first
  | (go_at_call 32; go_must (refine (z7s B k hk _).mono ?_; rintro e w1 ⟨rfl, rfl⟩))
  | fail)
 generalize w.alloc (cT (z0o T) 34) = w0 at hK0 c0 hDk hC ⊢
 clear c0 hDk hC
 refine z0l (C := Blk w [(w.heap.size, cT (z0o T) 34 (0, 0)), (B, cT (Array.ofFn (n := 952) fun i => Dsk.cell d i.1) 93 (0, 0))]) (n0 := w.heap.size) 9 [] [] (by kernel_rfl) (by kernel_rfl) (fun d _ _ _ _ h => by cases d <;> exact h) (Blk.stable _ _) (fun w2 h => h.1.size) hK0.drew trivial ?_
 simp only [List.take_succ_cons, List.take_zero, List.drop_succ_cons, List.drop_zero, List.length_nil, Nat.reduceAdd]
 repeat (first
  | (refine z0i (by rfl) ?_; simp only [Act.put, siA, scZ, scS])
  | (refine z0a (by rfl) (v := .agg (z0o T)) (fun w2 hC => zAt (hC.2 _ mcS) rfl rfl) ?_; simp only [Act.put, siA, scZ, scS])
  | (refine z0a (by rfl) (v := ?_) ?_ ?_; rotate_left; (intro w2 hC; have hDk : z0k _ B d := (hC.2 _ (mcO _ mcS)); have c0 : World.cell? _ ⟨B, k * 317 + 314, none⟩ = some (A D (n : Int)) := (hDk.gate hk (by decide)).trans (by rw [<- hn]; rfl); go_simp; try with_reducible rfl); simp only [Act.put, siA, scZ, scS]))
 refine z0r ?_
 intro w3 hC hB3
 have hDk : z0k _ B d := (hC.2 _ (mcO _ mcS)); have c0 : World.cell? _ ⟨B, k * 317 + 314, none⟩ = some (A D (n : Int)) := (hDk.gate hk (by decide)).trans (by rw [<- hn]; rfl)
 have hth := hDk.there (o := k * 317 + 154 + n * 8) (n := 8) (by omega)
 refine wpList_store_mid rfl 34 _ _ rfl B (k * 317 + 154 + n * 8) (z0o T) (by go_simp; try rfl) rfl (by rw [z9x]; exact hth) (zQl T) (z8c T) ?_
 simp only [Act.put, siA, scZ, scS]
 have hF := FnAt.setCells hDk (z0o T).toList (k * 317 + 154 + n * 8)
 have hKp := z2a (z0e hC.1 B) (k * 317 + 154 + n * 8) (z0o T).toList
 have hl8 : (z0o T).toList.length = 8 := rfl
 have c1 := hF.at (k * 317 + 314) (by omega)
 rw [if_neg (by rw [hl8]; omega), z2l d hk (by decide), show z1f (d.g k) 314 = A D (n : Int) from by rw [<- hn]; rfl] at c1
 have cf := hF.frozen (k * 317 + 314)
 clear hl8 c0 hDk hC hK0 hth
 generalize w3.setCells B (k * 317 + 154 + n * 8) (z0o T).toList = w4 at hF hKp c1 cf ⊢
 go_wp2_with fail
 go_ret
 exact ⟨rfl, kept_set hKp _ _, FnAt.ext (hF.set (k * 317 + 314) _) fun j hj => zO1 d T hk hn h20 j hj⟩
end
section
open Go.ChangeShapes Go.WideShapes Go.ChangeAt Go.RowKit
theorem z7d {P : Program} (w : World) (dT sT ty elem : TypeId) (b o dLen dCap : Nat) (a : Addr) (sLen sCap z : Nat) (cs : List Value)
  (hu : P.underlying dT = some (.slice elem)) (hs : (P.info? elem).map (·.size) = some z) (hn : cs.length = Nat.min sLen dLen * z)
  (hsrc : ∀ j v, cs[j]? = some v -> w.cell? (a.add j) = some v) (hc : ∀ j, j < cs.length -> (w.cell? ⟨b, o + j, none⟩).isSome = true) (hf : ∀ j, j < cs.length -> w.frozen? ⟨b, o + j, none⟩ = false) (h1 : ∀ v ∈ cs, v.oneCell' = true) :
  (Builtin.copy_ #[dT, sT] ty #[.slice (some ⟨b, o, none⟩) dLen dCap, .slice (some a) sLen sCap]).run P w = .ok (goInt (Nat.min sLen dLen)) (w.setCells b o cs) := by
 have hl := run_loadCells_list (P := P) w a cs hsrc
 have hst := run_storeCells_cells (P := P) b o cs 0 w (by simpa using hc) (by simpa using hf) h1
 cases hq : P.info? elem with
 | none => simp [hq] at hs
 | some i =>
  have hi : i.size = z := by simpa [hq] using hs
  simp [Builtin.copy_, run_underlying hu, Builtin.lenOf, Builtin.firstCells, sizeOf, typeInfo, hq, hi, <- hn, hl, hst]
theorem zL3 {P : Program} {o : Oper} {u : Act} (W W' : World) (x y : Operand) (dT sT : TypeId) (s1 s2 v : Value) (ho : o.op = .call { callee := .builtin .copy, args := #[x, y], argTypes := #[dT, sT] }) (hx : u.eval x = s1) (hy : u.eval y = s2)
  (hr : (Builtin.copy_ #[dT, sT] o.type #[s1, s2]).run P W = .ok v W') : (execOp u.eval o).run P W = .ok (.value v) W' := by
 unfold execOp
 simp only [ho, resolve, invoke, builtin, Sem.run_bind, Sem.run_pure, Result.andThen_ok, List.map_toArray, List.map_cons, List.map_nil, hx, hy, hr]
theorem rowShape {w : World} {base n size : Nat} {e : TypeId} {v : Value} {xs : List Value} (h : w.ownsRow base e size v n xs) : (v = .slice none 0 0 /\ n = 0) \/ ∃ g cap, v = .slice (some ⟨g, 0, none⟩) n cap := by
 rcases h.2 with ⟨h1, h2⟩ | ⟨g, cap, cur, rfl, _⟩
 ·exact Or.inl ⟨h1, h2⟩
 ·exact Or.inr ⟨g, cap, rfl⟩
theorem zNo (w : World) (row : Option Nat) : w.grownBy w row := ⟨rfl, rfl, rfl, Nat.le_refl _, fun _ _ _ => rfl⟩
theorem z89 {P : Program} {ops : Array Oper} {rest : List Oper} {o : Oper} {a : Act} {Q : Exit -> Act -> World -> Prop} (w : World) (hgd : o.guard = none) (s x : Operand) (t : TypeId)
  (ho : o.op = .call { callee := .builtin .append, args := #[s, x], argTypes := #[t, t] })
  (base : Nat) (e : TypeId) (i : TypeInfo) (z : Value) (size bytes : Nat) (ht : P.underlying t = some (.slice e)) (hi : P.info? e = some i) (hz : i.zero = some z)
  (hsize : i.size = size) (hby : i.bytes = bytes) (hzs : z.cells.size = size) (hsz : 0 < size)
  (v : Value) (n : Nat) (xs : List Value) (hs : a.eval s = v) (hown : w.ownsRow base e size v n xs)
  (base2 : Nat) (u : Value) (m : Nat) (news : List Value) (hx : a.eval x = u) (hu : w.ownsRow base2 e size u m news) (h1 : ∀ u ∈ news, u.oneCell' = true)
  (h63 : n + m <= maxLen) (hbytes : (n + m) * bytes <= 140737488355328) (hbase : base <= w.heap.size)
  (h : ∀ v' w', w'.ownsRow base e size v' (n + m) (xs ++ news) -> w.grownBy w' v.ownBlock -> wpList P ops Q rest (a.put o.dst v') w') : wpList P ops Q (o :: rest) a w := by
 rcases rowShape hu with ⟨rfl, rfl⟩ | ⟨g, cap, rfl⟩
 ·have hn : news = [] := List.eq_nil_of_length_eq_zero (by have := hu.1; omega)
  subst hn
  refine wpList_append_own_none hgd s x t ho base e i size ht hi v n xs hs hown hx (h v w ?_ (zNo _ _))
  rw [List.append_nil]; exact hown
 ·exact wpList_append_own _ hgd s x t ho base e i z size bytes ht hi hz hsize hby hzs hsz v n xs hs hown ⟨g, 0, none⟩ m cap news hx hu.1 (World.ownsRow.cells hu rfl) h1 h63 hbytes hbase fun v' w' a b _ => h v' w' a b
end
section
open Go.RowKit
structure Kno where
 k : Int
 l : Int
 h : Int
def Kno.Ok (x : Kno) : Prop := 0 <= x.k /\ x.k <= 5 /\ In64 x.l /\ In64 x.h /\ x.l <= x.h
def Kno.Has (x : Kno) (v : Val) : Prop :=
 x.k = 0 \/ (1 <= x.k /\ x.k <= 4 /\ v.k = x.k /\ x.l <= v.n /\ v.n <= x.h) \/ (x.k = 5 /\ v.n = 0 /\ (v.k = 1 \/ v.k = 4))
def kno0 : Kno := ⟨0, 0, 0⟩
def z1d (l h : Int) : Kno := ⟨1, l, h⟩
def z0w (x : Kno) : Int := if x.k = 0 then 8 else if x.k = 1 then 0 else 1
theorem z5j {x : Kno} {v : Val} (hx : x.Has v) (h : z0w x = 0) : z2r v = 0 /\ v.k = 1 /\ x.l <= v.n /\ v.n <= x.h := by
 unfold z0w at h
 by_cases h0 : x.k = 0
 ·rw [if_pos h0] at h; exact absurd h (by decide)
 by_cases h1 : x.k = 1
 ·rcases hx with hx | hx | hx
  ·exact absurd hx h0
  ·have e : v.k = 1 := by omega
   exact ⟨by unfold z2r; rw [if_neg (by omega), if_pos e], e, hx.2.2.2.1, hx.2.2.2.2⟩
  ·omega
 ·rw [if_neg h0, if_neg h1] at h; exact absurd h (by decide)
def z1m (k : Int) (b : Int × Int) : Kno × Int := if b.1 = -9223372036854775808 /\ b.2 = 9223372036854775807 then (kno0, 2) else (⟨k, b.1, b.2⟩, 0)
def z2x (c : Int) (a b : Kno) : Kno × Int :=
 if b.k = 0 \/ (a.k = 0 /\ c ≠ 1) then (kno0, 8)
 else if c = 1 then (b, 0)
 else if a.k = 1 /\ b.k = 1 then (z1d (bdV c a.l a.h b.l b.h).1 (bdV c a.l a.h b.l b.h).2, 0)
 else if (a.k = 2 \/ a.k = 3 \/ a.k = 4) /\ b.k = 1 /\ (c = 2 \/ c = 3) then z1m a.k (bdV c a.l a.h b.l b.h)
 else if a.k = 1 /\ (b.k = 2 \/ b.k = 3 \/ b.k = 4) /\ c = 2 then z1m b.k (bdV c a.l a.h b.l b.h)
 else (kno0, 1)
theorem z6v {k : Int} {b : Int × Int} (h : (z1m k b).2 = 0) : (z1m k b).1 = ⟨k, b.1, b.2⟩ := by
 unfold z1m at h ⊢
 split at h
 ·exact absurd h (by decide)
 ·rw [if_neg (by assumption)]
theorem Kno.Has.same {x : Kno} {v : Val} (hx : x.Has v) (h0 : 1 <= x.k) (h4 : x.k <= 4) : v.k = x.k /\ x.l <= v.n /\ v.n <= x.h := by
 rcases hx with hx | hx | hx
 ·omega
 ·exact hx.2.2
 ·omega
theorem Kno.Has.some {x : Kno} {v : Val} (hk : x.Ok) (hx : x.Has v) (h0 : x.k ≠ 0) : v.k ≠ 0 := by
 rcases hx with hx | hx | hx
 ·exact absurd hx h0
 ·have := hk.1; omega
 ·omega
theorem zGe {c : Int} {a b : Kno} {va vb : Val} (hc : 1 <= c /\ c <= 13) (ka : a.Ok) (kb : b.Ok) (ha : a.Has va) (hb : b.Has vb) (h : (z2x c a b).2 = 0) :
  (z2q c va vb).2 = 0 /\ (z2x c a b).1.Has (z2q c va vb).1 := by
 unfold z2x at h ⊢
 by_cases h1 : b.k = 0 \/ (a.k = 0 /\ c ≠ 1)
 ·rw [if_pos h1] at h; exact absurd h (by decide)
 rw [if_neg h1] at h ⊢
 have nb : vb.k ≠ 0 := hb.some kb (fun e => h1 (Or.inl e))
 have na : ¬ (vb.k = 0 \/ (va.k = 0 /\ c ≠ 1)) := fun e => e.elim nb fun e => ha.some ka (fun e1 => h1 (Or.inr ⟨e1, e.2⟩)) e.1
 unfold z2q
 rw [if_neg na]
 by_cases h2 : c = 1
 ·rw [if_pos h2] at h ⊢; rw [if_pos h2]; exact ⟨rfl, hb⟩
 rw [if_neg h2] at h ⊢; rw [if_neg h2]
 by_cases h3 : a.k = 1 /\ b.k = 1
 ·rw [if_pos h3] at h ⊢
  obtain ⟨e1, e2, e3⟩ := ha.same (by omega) (by omega)
  obtain ⟨f1, f2, f3⟩ := hb.same (by omega) (by omega)
  rw [if_pos ⟨by omega, Or.inl (by omega)⟩]
  have bd := zBk hc ka.2.2.1.1 ka.2.2.2.1.2 kb.2.2.1.1 kb.2.2.2.1.2 e2 e3 f2 f3
  exact ⟨rfl, Or.inr (Or.inl ⟨by show (1 : Int) <= 1; decide, by show (1 : Int) <= 4; decide, by show va.k = 1; omega, bd.1, bd.2⟩)⟩
 rw [if_neg h3] at h ⊢
 by_cases h4 : (a.k = 2 \/ a.k = 3 \/ a.k = 4) /\ b.k = 1 /\ (c = 2 \/ c = 3)
 ·rw [if_pos h4] at h ⊢
  obtain ⟨e1, e2, e3⟩ := ha.same (by omega) (by omega)
  obtain ⟨f1, f2, f3⟩ := hb.same (by omega) (by omega)
  rw [if_pos ⟨by omega, Or.inr h4.2.2⟩, z6v h]
  have bd := zBk hc ka.2.2.1.1 ka.2.2.2.1.2 kb.2.2.1.1 kb.2.2.2.1.2 e2 e3 f2 f3
  exact ⟨rfl, Or.inr (Or.inl ⟨by show 1 <= a.k; omega, by show a.k <= 4; omega, e1, bd.1, bd.2⟩)⟩
 rw [if_neg h4] at h ⊢
 by_cases h5 : a.k = 1 /\ (b.k = 2 \/ b.k = 3 \/ b.k = 4) /\ c = 2
 ·rw [if_pos h5] at h ⊢
  obtain ⟨e1, e2, e3⟩ := ha.same (by omega) (by omega)
  obtain ⟨f1, f2, f3⟩ := hb.same (by omega) (by omega)
  rw [if_neg (by omega), if_pos ⟨by omega, h5.2.2⟩, z6v h]
  have bd := zBk hc ka.2.2.1.1 ka.2.2.2.1.2 kb.2.2.1.1 kb.2.2.2.1.2 e2 e3 f2 f3
  exact ⟨rfl, Or.inr (Or.inl ⟨by show 1 <= b.k; omega, by show b.k <= 4; omega, f1, bd.1, bd.2⟩)⟩
 ·rw [if_neg h5] at h; exact absurd h (by decide)
def z23 (k : Int) : Int × Int := if k = 2 then (0, 7) else if k = 3 then (-16, -1) else (0, 3)
def z52 (x : Kno) (o : Int) : Int × Int := bdV 2 x.l x.h o o
def z0y (x : Kno) (o : Int) : (Int × Int) × Int :=
 if x.k = 0 then ((0, 0), 8)
 else if x.k = 1 \/ x.k = 5 then ((0, 0), 1)
 else if (z52 x o).1 < (z23 x.k).1 \/ (z23 x.k).2 < (z52 x o).2 then ((0, 0), 2)
 else (z52 x o, 0)
theorem z97 {x : Kno} {v : Val} {o : Int} (kx : x.Ok) (ho : In64 o) (hx : x.Has v) (h : (z0y x o).2 = 0) :
  (z14 v o).2 = 0 /\ v.k = x.k /\ (x.k = 2 \/ x.k = 3 \/ x.k = 4) /\ (z0y x o).1 = z52 x o /\ (z52 x o).1 <= wrap64 (v.n + o) /\ wrap64 (v.n + o) <= (z52 x o).2 /\
   (z23 x.k).1 <= (z52 x o).1 /\ (z52 x o).2 <= (z23 x.k).2 /\ (z14 v o).1 = (if x.k = 3 then wrap64 (v.n + o) + 16 else wrap64 (v.n + o)) := by
 unfold z0y at h ⊢
 by_cases h0 : x.k = 0
 ·rw [if_pos h0] at h; exact absurd h (by decide)
 rw [if_neg h0] at h ⊢
 by_cases h1 : x.k = 1 \/ x.k = 5
 ·rw [if_pos h1] at h; exact absurd h (by decide)
 rw [if_neg h1] at h ⊢
 by_cases h2 : (z52 x o).1 < (z23 x.k).1 \/ (z23 x.k).2 < (z52 x o).2
 ·rw [if_pos h2] at h; exact absurd h (by decide)
 rw [if_neg h2]
 have k0 := kx.1
 have k5 := kx.2.1
 obtain ⟨e1, e2, e3⟩ := hx.same (by omega) (by omega)
 have bd : (z52 x o).1 <= z0s 2 v.n o /\ z0s 2 v.n o <= (z52 x o).2 := zBk ⟨by decide, by decide⟩ kx.2.2.1.1 kx.2.2.2.1.2 ho.1 ho.2 e2 e3 (Int.le_refl _) (Int.le_refl _)
 have ed : z0s 2 v.n o = wrap64 (v.n + o) := by simp only [z0s, reduceIte, Int.reduceEq]
 rw [ed] at bd
 have hk : x.k = 2 \/ x.k = 3 \/ x.k = 4 := by omega
 have hr : (z14 v o).2 = 0 /\ (z14 v o).1 = (if x.k = 3 then wrap64 (v.n + o) + 16 else wrap64 (v.n + o)) := by
  unfold z14
  rw [if_neg (by omega), if_neg (by omega)]
  rcases hk with hk | hk | hk
  ·have er : z23 x.k = (0, 7) := by rw [hk]; rfl
   have et : z3k v o = wrap64 (v.n + o) := if_neg (by omega)
   have em : z28 v = 8 := if_pos (by omega)
   rw [er] at h2
   rw [et, em, if_neg (by omega), if_neg (by omega)]
   exact ⟨rfl, rfl⟩
  ·have er : z23 x.k = (-16, -1) := by rw [hk]; rfl
   have e16 : wrap64 (wrap64 (v.n + o) + 16) = wrap64 (v.n + o) + 16 := z0f (by rw [er] at h2; omega) (by rw [er] at h2; omega)
   have et : z3k v o = wrap64 (v.n + o) + 16 := by unfold z3k; rw [if_pos (by omega), e16]
   have em : z28 v = 16 := by unfold z28; rw [if_neg (by omega), if_pos (by omega)]
   rw [er] at h2
   rw [et, em, if_neg (by omega), if_pos hk]
   exact ⟨rfl, rfl⟩
  ·have er : z23 x.k = (0, 3) := by rw [hk]; rfl
   have et : z3k v o = wrap64 (v.n + o) := if_neg (by omega)
   have em : z28 v = 4 := by unfold z28; rw [if_neg (by omega), if_neg (by omega)]
   rw [er] at h2
   rw [et, em, if_neg (by omega), if_neg (by omega)]
   exact ⟨rfl, rfl⟩
 exact ⟨hr.1, e1, hk, rfl, bd.1, bd.2, by omega, by omega, hr.2⟩
structure Way where
 reg : Nat -> Kno
 slot : Nat -> Kno
def Way.putReg (y : Way) (d : Nat) (x : Kno) : Way := { y with reg := fun i => if i = d then x else y.reg i }
def Way.putSlot (y : Way) (t : Nat) (x : Kno) : Way := { y with slot := fun i => if i = t then x else y.slot i }
def Way.second (y : Way) (s : Nat) (r : Bool) (n : Int) : Kno := if r then y.reg s else z1d n n
def Way.lose (y : Way) : Way := { y with reg := fun i => if 1 <= i /\ i <= 5 then kno0 else y.reg i }
structure Way.Ok (y : Way) : Prop where
 reg : ∀ i, i < 11 -> (y.reg i).Ok
 slot : ∀ i, i < 16 -> (y.slot i).Ok
structure Way.Has (y : Way) (a : Abs) : Prop where
 reg : ∀ i, i < 11 -> (y.reg i).Has (a.reg i)
 slot : ∀ i, i < 16 -> (y.slot i).Has (a.slot i)
theorem Way.Has.putReg {y : Way} {a : Abs} {d : Nat} {x : Kno} {v : Val} (h : y.Has a) (hx : x.Has v) : (y.putReg d x).Has (a.putReg d v) :=
 ⟨fun i hi => by
  show (if i = d then x else y.reg i).Has (if i = d then v else a.reg i)
  by_cases e : i = d
  ·rw [if_pos e, if_pos e]; exact hx
  ·rw [if_neg e, if_neg e]; exact h.reg i hi, h.slot⟩
theorem Way.Has.putSlot {y : Way} {a : Abs} {d : Nat} {x : Kno} {v : Val} (h : y.Has a) (hx : x.Has v) : (y.putSlot d x).Has (a.putSlot d v) :=
 ⟨h.reg, fun i hi => by
  show (if i = d then x else y.slot i).Has (if i = d then v else a.slot i)
  by_cases e : i = d
  ·rw [if_pos e, if_pos e]; exact hx
  ·rw [if_neg e, if_neg e]; exact h.slot i hi⟩
theorem Way.Has.putCel {y : Way} {a : Abs} {d : Nat} {n : Int} (h : y.Has a) : y.Has (a.putCel d n) := ⟨h.reg, h.slot⟩
theorem Way.Has.give {y : Way} {a : Abs} {n : Int} (h : y.Has a) : y.Has (a.give n) := ⟨h.reg, h.slot⟩
theorem Way.Has.lose {y : Way} {a : Abs} (h : y.Has a) : y.lose.Has a.lose :=
 ⟨fun i hi => by
  show (if 1 <= i /\ i <= 5 then kno0 else y.reg i).Has (if 1 <= i /\ i <= 5 then z5s else a.reg i)
  by_cases e : 1 <= i /\ i <= 5
  ·rw [if_pos e, if_pos e]; exact Or.inl rfl
  ·rw [if_neg e, if_neg e]; exact h.reg i hi, h.slot⟩
theorem Kno.has_num {n l h : Int} (h1 : l <= n) (h2 : n <= h) : (z1d l h).Has (numF n) := Or.inr (Or.inl ⟨by show (1 : Int) <= 1; decide, by show (1 : Int) <= 4; decide, rfl, h1, h2⟩)
theorem Way.Has.second {y : Way} {a : Abs} {s : Nat} {r : Bool} {n : Int} (h : y.Has a) (hs : s < 11) : (y.second s r n).Has (a.second s r n) := by
 cases r
 ·exact Kno.has_num (Int.le_refl _) (Int.le_refl _)
 ·exact h.reg s hs
def z1i : List Kno -> Int
 | [] => 0
 | x :: l => if z0w x = 0 then z1i l else z0w x
def z22 : Int × Int -> List Kno -> Int × Int
 | p, [] => p
 | p, x :: l => z22 (min p.1 x.l, max p.2 x.h) l
def z62 : List Kno -> Int × Int
 | [] => (0, 0)
 | x :: l => z22 (x.l, x.h) l
theorem firstBad_none : ∀ {l : List Kno}, z1i l = 0 -> ∀ x, x ∈ l -> z0w x = 0
 | [], _, _, h => absurd h (by simp)
 | y :: l, h, x, hx => by
  by_cases hy : z0w y = 0
  ·rw [z1i, if_pos hy] at h
   rcases List.mem_cons.mp hx with rfl | hx
   ·exact hy
   ·exact firstBad_none h x hx
  ·rw [z1i, if_neg hy] at h; exact absurd h hy
theorem joinFrom_ends : ∀ (l : List Kno) (p : Int × Int), (z22 p l).1 <= p.1 /\ p.2 <= (z22 p l).2
 | [], _ => ⟨Int.le_refl _, Int.le_refl _⟩
 | x :: l, p => by
  have := joinFrom_ends l (min p.1 x.l, max p.2 x.h)
  rw [z22]
  exact ⟨by have h1 := this.1; show _ <= p.1; have h2 : (min p.1 x.l) <= p.1 := Int.min_le_left _ _; exact Int.le_trans h1 h2, by have h1 := this.2; have h2 : p.2 <= max p.2 x.h := Int.le_max_left _ _; exact Int.le_trans h2 h1⟩
theorem joinFrom_has : ∀ (l : List Kno) (p : Int × Int) (x : Kno), x ∈ l -> (z22 p l).1 <= x.l /\ x.h <= (z22 p l).2
 | [], _, _, h => absurd h (by simp)
 | y :: l, p, x, hx => by
  rw [z22]
  rcases List.mem_cons.mp hx with rfl | hx
  ·have := joinFrom_ends l (min p.1 x.l, max p.2 x.h)
   exact ⟨Int.le_trans this.1 (Int.min_le_right _ _), Int.le_trans (Int.le_max_right _ _) this.2⟩
  ·exact joinFrom_has l _ x hx
theorem zQk {l : List Kno} {x : Kno} (hx : x ∈ l) : (z62 l).1 <= x.l /\ x.h <= (z62 l).2 := by
 cases l with
 | nil => exact absurd hx (by simp)
 | cons y l =>
  rcases List.mem_cons.mp hx with rfl | hx
  ·exact joinFrom_ends l (x.l, x.h)
  ·exact joinFrom_has l _ x hx
def Way.row (y : Way) (t n : Nat) : List Kno := (List.range' t n).map y.slot
def Way.kept (y : Way) (p : Int × Int) : Kno × Int :=
 if p.1 = p.2 /\ (y.slot (p.1 + 16).toNat).k ≠ 0 then (y.slot (p.1 + 16).toNat, 0)
 else if z1i (y.row (p.1 + 16).toNat (p.2 - p.1 + 1).toNat) ≠ 0 then (kno0, z1i (y.row (p.1 + 16).toNat (p.2 - p.1 + 1).toNat))
 else (z1d (z62 (y.row (p.1 + 16).toNat (p.2 - p.1 + 1).toNat)).1 (z62 (y.row (p.1 + 16).toNat (p.2 - p.1 + 1).toNat)).2, 0)
theorem zU3 {y : Way} {a : Abs} {p : Int × Int} {i : Int} (hk : y.Ok) (hy : y.Has a) (h0 : -16 <= p.1) (h1 : p.1 <= i) (h2 : i <= p.2) (h3 : p.2 <= -1) (h : (y.kept p).2 = 0) :
  (a.slot (i + 16).toNat).k ≠ 0 /\ (y.kept p).1.Has (a.slot (i + 16).toNat) := by
 unfold Way.kept at h ⊢
 by_cases c1 : p.1 = p.2 /\ (y.slot (p.1 + 16).toNat).k ≠ 0
 ·rw [if_pos c1] at h ⊢
  have e : i = p.1 := by omega
  rw [e]
  exact ⟨(hy.slot _ (by omega)).some (hk.slot _ (by omega)) c1.2, hy.slot _ (by omega)⟩
 rw [if_neg c1] at h ⊢
 by_cases c2 : z1i (y.row (p.1 + 16).toNat (p.2 - p.1 + 1).toNat) ≠ 0
 ·rw [if_pos c2] at h; exact absurd h c2
 rw [if_neg c2]
 have hm : y.slot (i + 16).toNat ∈ y.row (p.1 + 16).toNat (p.2 - p.1 + 1).toNat := List.mem_map.mpr ⟨(i + 16).toNat, List.mem_range'.mpr ⟨(i - p.1).toNat, by omega, by omega⟩, rfl⟩
 obtain ⟨-, w1, w2, w3⟩ := z5j (hy.slot (i + 16).toNat (by omega)) (firstBad_none (Classical.byContradiction c2) _ hm)
 have j := zQk hm
 exact ⟨by omega, Or.inr (Or.inl ⟨by show (1 : Int) <= 1; decide, by show (1 : Int) <= 4; decide, w1, Int.le_trans j.1 w2, Int.le_trans w3 j.2⟩)⟩
def Way.load (y : Way) (d s : Nat) (o : Int) : Int × Way :=
 if (z0y (y.reg s) o).2 ≠ 0 then ((z0y (y.reg s) o).2, y)
 else if (y.reg s).k = 3 then (if (y.kept (z0y (y.reg s) o).1).2 ≠ 0 then ((y.kept (z0y (y.reg s) o).1).2, y) else (0, y.putReg d (y.kept (z0y (y.reg s) o).1).1))
 else (0, y.putReg d (z1d (-9223372036854775808) 9223372036854775807))
theorem zTw {y : Way} {a : Abs} {d s : Nat} {o : Int} (hk : y.Ok) (ha : a.Ok) (hy : y.Has a) (hs : s < 11) (ho : In64 o) (h : (y.load d s o).1 = 0) :
  (z45 a d (a.reg s) o).1 = 0 /\ (y.load d s o).2.Has (z45 a d (a.reg s) o).2 := by
 unfold Way.load at h ⊢
 by_cases c1 : (z0y (y.reg s) o).2 ≠ 0
 ·rw [if_pos c1] at h; exact absurd h c1
 rw [if_neg c1] at h ⊢
 have c1' : (z0y (y.reg s) o).2 = 0 := Classical.byContradiction c1
 obtain ⟨r0, rk, rp, rt, b1, b2, m1, m2, r1⟩ := z97 (hk.reg s hs) ho (hy.reg s hs) c1'
 unfold z45
 rw [if_neg (by rw [r0]; decide)]
 by_cases c2 : (y.reg s).k = 3
 ·rw [if_pos c2] at h ⊢
  rw [if_pos c2] at r1
  by_cases c3 : (y.kept (z0y (y.reg s) o).1).2 ≠ 0
  ·rw [if_pos c3] at h; exact absurd h c3
  rw [if_neg c3]
  have er : z23 (y.reg s).k = (-16, -1) := by rw [c2]; rfl
  rw [er] at m1 m2
  rw [rt] at c3 ⊢
  obtain ⟨n0, nh⟩ := zU3 (i := wrap64 ((a.reg s).n + o)) hk hy m1 b1 b2 m2 (Classical.byContradiction c3)
  have ea : a.at (a.reg s) (z14 (a.reg s) o).1.toNat = a.slot (wrap64 ((a.reg s).n + o) + 16).toNat := by
   unfold Abs.at; rw [if_neg (by omega), if_pos (by omega), r1]
  rw [ea, if_neg n0]
  exact ⟨rfl, hy.putReg nh⟩
 ·rw [if_neg c2]
  rw [if_neg c2] at r1
  obtain ⟨n, en, hn⟩ : ∃ n, a.at (a.reg s) (z14 (a.reg s) o).1.toNat = numF n /\ In64 n := by
   unfold Abs.at
   rw [r1]
   rcases rp with e | e | e
   ·have er : z23 (y.reg s).k = (0, 7) := by rw [e]; rfl
    rw [er] at m1 m2
    exact ⟨_, if_pos (by omega), ha.word _ (by omega)⟩
   ·exact absurd e c2
   ·have er : z23 (y.reg s).k = (0, 3) := by rw [e]; rfl
    rw [er] at m1 m2
    have := (ha.reg s hs).c0
    have := (ha.reg s hs).c3
    exact ⟨_, by rw [if_neg (by omega), if_neg (by omega)], ha.cel _ (by omega)⟩
  rw [en, if_neg (by show ¬ (1 : Int) = 0; decide)]
  exact ⟨rfl, hy.putReg (Kno.has_num hn.1 hn.2)⟩
def way0 : Way := ⟨fun i => if i = 1 then ⟨2, 0, 0⟩ else if i = 10 then ⟨3, 0, 0⟩ else kno0, fun _ => kno0⟩
end
end Go.Proofs.YtbimlalhodibjaaGreatDoor
