/-
  A region that draws its order, whose operations are: some that read, or call functions that leave all that was there as it was; then some that make a new block each; then some that come one behind the other, behind all of these. Whatever the order: one walk in the text's order serves, with a letter for each new block. No program is named here. No conditions. The same law, as a walk takes it: values as they come up, then a letter for each new block, then the rest. No program is named here. No conditions. Worlds in which all that was there is as it was, and in which these blocks lie: small laws. No program is named here. No conditions. A program that runs, as it lies in memory. Conditions: numbers are of 64 bits. The steps of a program that runs: what package machine's methods do to it; all else is as it was. Conditions: numbers are of 64 bits. A program that runs, as it lies in memory, over what else is made and written: small laws, each for one step of a world. No conditions. A way of package verify, as it lies in memory: 82 cells: its step, what is known of registers, of slots. No conditions. What the small functions of package verify return, of what is known of a value. No conditions but those that each names. What bound.product returns: as a function on integers; the world below is as it was. Conditions: the ends are numbers of 64 bits.
-/
import Derived.StillTail
import Derived.Below
import Derived.Laws.Tables
import Derived.Laws.Rows
import Derived.Test.YtednmkhdehlojaaGreatDoorJd2
import Derived.RegionTactic
import Derived.Deep.RegionWith
import Derived.Deep.RegionHeld3
import Derived.Deep.DeepCutAuto
import Derived.Deep.DeepMust
import Derived.BigQuiet
import Derived.Deep.QuietTactic
import Derived.Test.YtednmkhdehlojaaGreatDoorJd3
import Derived.Test.YtednmkhdehlojaaGreatDoorJd4
import Derived.Deep.MidRow
import Derived.BigCall
import Derived.BigGuardPart
open Go.Value renaming int → vI
open Go.IntKind renaming i64 → vK
open Go.RowKit.Below renaming alloc → bA, setCell → bS, drew → bD, refl → bF
set_option maxHeartbeats 4000000
set_option maxRecDepth 1000000
namespace Go.Proofs.YtednmkhdehlojaaGreatDoor
open Go.RowKit
section
variable {P : Program} {ops : Array Oper} {md : Region.Mode} {C : World → Prop} {n0 : Nat}
def qbUpon (P : Program) (w : World) (v : Value) : Result Next → Prop
  | .ok (.value u) w' => w' = w ∧ u = v
  | .ok .skip w' => w' = w ∧ v = undef
  | .ok (.enter f args) w' => w' = w ∧ Calls P f args w (fun e w'' => e = .returned v ∧ Below w.heap.size w w'')
  | _ => False
abbrev FSpec : Type := Value ⊕ (Obj × (Nat → Value))
def fHolds (P : Program) (ops : Array Oper) (C : World → Prop) (o : Oper) (a : Act) : FSpec → Prop
  | .inl v => (Region.wanted o (yielded ops a.tmps) = true ∧ ∀ w, C w → qbUpon P w v ((execOp a.eval o).run P w)) ∨ (Region.wanted o (yielded ops a.tmps) = false ∧ v = undef)
  | .inr (z, f) => Region.wanted o (yielded ops a.tmps) = true ∧ ∀ w, C w → (execOp a.eval o).run P w = .ok (.value (f w.heap.size)) (w.alloc z)
abbrev FB : Type := Nat → Option Obj
def FB.upd (B : FB) (L : Nat) (z : Obj) : FB := fun k => if k = L then some z else B k
theorem FB.upd_comm (B : FB) {L L' : Nat} (h : L ≠ L') (z z' : Obj) : FB.upd (FB.upd B L z) L' z' = FB.upd (FB.upd B L' z') L z := by
  funext k
  unfold FB.upd
  by_cases h1 : k = L'
  · rw [if_pos h1, if_neg (by omega), if_pos h1]
  · rw [if_neg h1]
    by_cases h2 : k = L
    · rw [if_pos h2, if_pos h2]
    · rw [if_neg h2, if_neg h2, if_neg h1]
theorem FB.upd_none {B : FB} {L L' : Nat} {z : Obj} (h : FB.upd B L z L' = none) : L' ≠ L ∧ B L' = none := by
  unfold FB.upd at h
  by_cases e : L' = L
  · rw [if_pos e] at h; cases h
  · rw [if_neg e] at h; exact ⟨e, h⟩
theorem FB.none_upd {B : FB} {L L' : Nat} {z : Obj} (h : L' ≠ L) (h' : B L' = none) : FB.upd B L z L' = none := by
  unfold FB.upd; rw [if_neg h]; exact h'
def FB.Fin (B : FB) : Prop := ∃ m, ∀ L, m ≤ L → B L = none
theorem FB.Fin.upd {B : FB} (h : FB.Fin B) (L : Nat) (z : Obj) : FB.Fin (FB.upd B L z) := by
  obtain ⟨m, hm⟩ := h
  exact ⟨m + L + 1, fun k hk => FB.none_upd (by omega) (hm k (by omega))⟩
theorem FB.Fin.fresh {B : FB} (h : FB.Fin B) (n0 : Nat) : ∃ L, B L = none ∧ n0 ≤ L := by
  obtain ⟨m, hm⟩ := h
  exact ⟨m + n0, hm _ (by omega), by omega⟩
def fNext (n0 : Nat) (o : Oper) (K : Act → FB → Prop) (a : Act) (B : FB) : FSpec → Prop
  | .inl v => K (a.put o.dst v) B
  | .inr (z, f) => ∀ L, B L = none → n0 ≤ L → K (a.put o.dst (f L)) (FB.upd B L z)
def fOp (P : Program) (ops : Array Oper) (C : World → Prop) (n0 : Nat) (sp : Nat → FSpec) (i : Nat) (K : Act → FB → Prop) (a : Act) (B : FB) : Prop :=
  match ops[i]? with
  | none => K a B
  | some o => fHolds P ops C o a (sp i) ∧ fNext n0 o K a B (sp i)
def wpAnyF (P : Program) (md : Region.Mode) (ops : Array Oper) (C : World → Prop) (n0 : Nat) (sp : Nat → FSpec) (n : Nat) (L : Array Bool → Act → FB → Prop) : Nat → Array Bool → Act → FB → Prop
  | 0, listed, a, B => L listed a B
  | f + 1, listed, a, B => (∃ i, i ∈ Region.ready md ops listed ∧ i < n) ∧ ∀ i ∈ Region.ready md ops listed, i < n → fOp P ops C n0 sp i (wpAnyF P md ops C n0 sp n L f (listed.setIfInBounds i true)) a B
def ClsB (C : World → Prop) (B : FB) (w : World) : Prop := C w ∧ ∀ L z, B L = some z → w.heap[L]? = some z
theorem ClsB.later {B : FB} {w w' : World} (hst : ∀ w w', C w → Below w.heap.size w w' → C w') (h : ClsB C B w) (hb : Below w.heap.size w w') : ClsB C B w' :=
  ⟨hst _ _ h.1 hb, fun L z hz => (hb.block L (Array.getElem?_eq_some_iff.1 (h.2 L z hz)).1).trans (h.2 L z hz)⟩
theorem ClsB.new {B : FB} {w : World} (hst : ∀ w w', C w → Below w.heap.size w w' → C w') (h : ClsB C B w) (z : Obj) : B w.heap.size = none ∧ ClsB C (FB.upd B w.heap.size z) (w.alloc z) := by
  refine ⟨?_, ?_⟩
  · cases hb : B w.heap.size with
    | none => rfl
    | some z' => exact absurd (Array.getElem?_eq_some_iff.1 (h.2 _ _ hb)).1 (Nat.lt_irrefl _)
  · have hl := h.later hst ((bF _ _).alloc (Nat.le_refl _) z)
    refine ⟨hl.1, fun L z' hz => ?_⟩
    unfold FB.upd at hz
    by_cases e : L = w.heap.size
    · rw [if_pos e] at hz
      cases hz
      rw [e]
      show (w.heap.push z)[w.heap.size]? = some z
      simp
    · rw [if_neg e] at hz
      exact hl.2 L z' hz
theorem wpOp_of_fOp {sp : Nat → FSpec} {i : Nat} {a : Act} {B : FB} {K : Act → FB → Prop} {K' : Act → World → Prop} {Q' : Exit → Act → World → Prop} {w : World} (hst : ∀ w w', C w → Below w.heap.size w w' → C w') (hn : ∀ w, C w → n0 ≤ w.heap.size) (hC : ClsB C B w)
    (h : ∀ a B w', ClsB C B w' → K a B → K' a w') (hh : fOp P ops C n0 sp i K a B) : wpOp P ops Q' i K' a w := by
  unfold fOp at hh
  unfold wpOp
  split
  · rename_i ho; simp only [ho] at hh; exact h _ _ _ hC hh
  · rename_i o ho
    simp only [ho] at hh
    obtain ⟨h1, h2⟩ := hh
    cases hs : sp i with
    | inl v =>
      rw [hs] at h1 h2
      rcases h1 with ⟨hw, hv⟩ | ⟨hw, rfl⟩
      · rw [if_pos hw]
        refine Or.inl ?_
        have h3 := hv w hC.1
        unfold Oper.wp
        generalize (execOp a.eval o).run P w = r at h3 ⊢
        cases r with
        | ok nx w' =>
          cases nx <;> simp only [qbUpon] at h3 <;> simp only [Oper.upon]
          case value u =>
            obtain ⟨e1, e2⟩ := h3
            rw [e1, e2]
            exact h _ _ _ hC h2
          case skip =>
            obtain ⟨e1, e2⟩ := h3
            rw [e1, ← e2]
            exact h _ _ _ hC h2
          case enter f args =>
            obtain ⟨e1, hc⟩ := h3
            rw [e1]
            exact hc.mono fun e w'' ⟨he, hw''⟩ => by subst he; exact h _ _ _ (hC.later hst hw'') h2
        | halt x w' => simp only [qbUpon] at h3
      · rw [if_neg (by rw [hw]; decide)]
        exact h _ _ _ hC h2
    | inr zf =>
      obtain ⟨z, f⟩ := zf
      rw [hs] at h1 h2
      obtain ⟨hw, hv⟩ := h1
      rw [if_pos hw]
      refine Or.inl ?_
      unfold Oper.wp
      rw [hv w hC.1]
      simp only [Oper.upon]
      obtain ⟨n1, n2⟩ := hC.new hst z
      exact h _ _ _ n2 (h2 _ n1 (hn w hC.1))
theorem fHolds.of_same {o : Oper} {a a' : Act} {s : FSpec} (h : fHolds P ops C o a s) (he : execOp a'.eval o = execOp a.eval o) (hw : Region.wanted o (yielded ops a'.tmps) = Region.wanted o (yielded ops a.tmps)) : fHolds P ops C o a' s := by
  cases s with
  | inl v => unfold fHolds at *; rw [he, hw]; exact h
  | inr zf => obtain ⟨z, f⟩ := zf; unfold fHolds at *; rw [he, hw]; exact h
theorem fNext.mono {o : Oper} {K K' : Act → FB → Prop} {a : Act} {B : FB} {s : FSpec} (h : fNext n0 o K a B s) (hk : ∀ v B', (B' = B ∨ ∃ L z, B L = none ∧ B' = FB.upd B L z) → K (a.put o.dst v) B' → K' (a.put o.dst v) B') : fNext n0 o K' a B s := by
  cases s with
  | inl v => exact hk v B (Or.inl rfl) h
  | inr zf =>
    obtain ⟨z, f⟩ := zf
    exact fun L h1 h2 => hk _ _ (Or.inr ⟨L, z, h1, rfl⟩) (h L h1 h2)
theorem fNext.swap {oi oj : Oper} {K : Act → FB → Prop} {a : Act} {B : FB} {si sj : FSpec} (hap : ∀ d, oi.dst = some d → oj.dst ≠ some d) (h : fNext n0 oi (fun a' B' => fNext n0 oj K a' B' sj) a B si) :
    fNext n0 oj (fun a' B' => fNext n0 oi K a' B' si) a B sj := by
  cases si with
  | inl v =>
    cases sj with
    | inl u =>
      have h' : K ((a.put oi.dst v).put oj.dst u) B := h
      show K ((a.put oj.dst u).put oi.dst v) B
      rw [← Act.put_comm a v u hap]; exact h'
    | inr zf =>
      obtain ⟨z, f⟩ := zf
      have h' : ∀ L, B L = none → n0 ≤ L → K ((a.put oi.dst v).put oj.dst (f L)) (FB.upd B L z) := h
      show ∀ L, B L = none → n0 ≤ L → K ((a.put oj.dst (f L)).put oi.dst v) (FB.upd B L z)
      intro L h1 h2
      rw [← Act.put_comm a v (f L) hap]; exact h' L h1 h2
  | inr zg =>
    obtain ⟨z', g⟩ := zg
    cases sj with
    | inl u =>
      have h' : ∀ L, B L = none → n0 ≤ L → K ((a.put oi.dst (g L)).put oj.dst u) (FB.upd B L z') := h
      show ∀ L, B L = none → n0 ≤ L → K ((a.put oj.dst u).put oi.dst (g L)) (FB.upd B L z')
      intro L h1 h2
      rw [← Act.put_comm a (g L) u hap]; exact h' L h1 h2
    | inr zf =>
      obtain ⟨z, f⟩ := zf
      have h' : ∀ L, B L = none → n0 ≤ L → ∀ L', FB.upd B L z' L' = none → n0 ≤ L' → K ((a.put oi.dst (g L)).put oj.dst (f L')) (FB.upd (FB.upd B L z') L' z) := h
      show ∀ L', B L' = none → n0 ≤ L' → ∀ L, FB.upd B L' z L = none → n0 ≤ L → K ((a.put oj.dst (f L')).put oi.dst (g L)) (FB.upd (FB.upd B L' z) L z')
      intro L' h1 h2 L h3 h4
      obtain ⟨e1, e2⟩ := FB.upd_none h3
      rw [← Act.put_comm a (g L) (f L') hap, ← FB.upd_comm B e1]
      exact h' L e2 h4 L' (FB.none_upd (fun e => e1 e.symm) h1) h2
theorem fNext.some {o : Oper} {K : Act → FB → Prop} {a : Act} {B : FB} {s : FSpec} (hf : FB.Fin B) (h : fNext n0 o K a B s) : ∃ v B', (B' = B ∨ ∃ L z, B L = none ∧ B' = FB.upd B L z) ∧ K (a.put o.dst v) B' := by
  cases s with
  | inl v => exact ⟨v, B, Or.inl rfl, h⟩
  | inr zf =>
    obtain ⟨z, f⟩ := zf
    obtain ⟨L, h1, h2⟩ := hf.fresh n0
    exact ⟨f L, _, Or.inr ⟨L, z, h1, rfl⟩, h L h1 h2⟩
theorem fin_of {B B' : FB} (hf : FB.Fin B) (h : B' = B ∨ ∃ L z, B L = none ∧ B' = FB.upd B L z) : FB.Fin B' := by
  rcases h with rfl | ⟨L, z, -, rfl⟩
  · exact hf
  · exact hf.upd L z
theorem wpAnyF_first {sp : Nat → FSpec} {n i : Nat} {oi : Oper} {L : Array Bool → Act → FB → Prop} (hi : ops[i]? = some oi) (hsel : ∀ (j : Nat) (o : Oper) cs b, ops[j]? = some o → o.op ≠ .select cs b) (hin : i < n)
    (hdone : ∀ listed a B, L listed a B → ∀ j ∈ Region.ready md ops listed, n ≤ j) :
    ∀ (f : Nat) (listed : Array Bool) (a : Act) (B : FB), FB.Fin B → HeadInv md ops n listed →
      (∀ j oj, ops[j]? = some oj → j ≠ i → listed.getD j true = false → (∀ e ∈ oj.after, Region.binds md e = true → e.on ≠ i) → oi.apart ops oj = true) →
      i ∈ Region.ready md ops listed → fHolds P ops C oi a (sp i) →
      fNext n0 oi (wpAnyF P md ops C n0 sp n L f (listed.setIfInBounds i true)) a B (sp i) → wpAnyF P md ops C n0 sp n L (f + 1) listed a B := by
  intro f
  induction f with
  | zero =>
    intro listed a B hfin inv _ hr hy H
    refine ⟨⟨i, hr, hin⟩, fun j hj hjn => ?_⟩
    by_cases hji : j = i
    · subst hji
      unfold fOp
      simp only [hi]
      exact ⟨hy, H⟩
    · obtain ⟨v, B', -, hK⟩ := H.some hfin
      have := hdone _ _ _ hK j (ready_mono hj hji)
      omega
  | succ f ih =>
    intro listed a B hfin inv hfree hr hy H
    have hun := (mem_ready.1 hr).1
    refine ⟨⟨i, hr, hin⟩, fun j hj hjn => ?_⟩
    by_cases hji : j = i
    · subst hji
      unfold fOp
      simp only [hi]
      exact ⟨hy, H⟩
    · obtain ⟨hjun, oj, hoj, hall⟩ := mem_ready.1 hj
      have hnot : ∀ e ∈ oj.after, Region.binds md e = true → e.on ≠ i := fun e he hb heq => by
        have h1 := hall e he hb
        rw [heq, getD_both hun] at h1
        cases h1
      obtain ⟨p1, p2, p3⟩ := Oper.apart_spec (hfree j oj hoj hji hjun hnot)
      have hfree' : ∀ k ok, ops[k]? = some ok → k ≠ i → (listed.setIfInBounds j true).getD k true = false →
          (∀ e ∈ ok.after, Region.binds md e = true → e.on ≠ i) → oi.apart ops ok = true := fun k ok hk hki hun hno => by
        refine hfree k ok hk hki ?_ hno
        by_cases hjk : j = k
        · subst hjk; exact hjun
        · rw [getD_set_ne true hjk] at hun; exact hun
      -- what is told of j, behind i
      have hjr : j ∈ Region.ready md ops (listed.setIfInBounds i true) := ready_mono hj hji
      have step : ∀ a' B', wpAnyF P md ops C n0 sp n L (f + 1) (listed.setIfInBounds i true) a' B' → fHolds P ops C oj a' (sp j) ∧ fNext n0 oj (wpAnyF P md ops C n0 sp n L f ((listed.setIfInBounds i true).setIfInBounds j true)) a' B' (sp j) := by
        intro a' B' h
        have := h.2 j hjr hjn
        unfold fOp at this
        simp only [hoj] at this
        exact this
      have hold : fHolds P ops C oj a (sp j) := by
        obtain ⟨v, B', -, hK⟩ := H.some hfin
        exact (step _ _ hK).1.of_same (execOp_put oj (fun cs b => hsel j oj cs b hoj) a oi.dst v p1).symm (wanted_put oj a oi.dst v p1).symm
      have nxt : fNext n0 oi (fun a' B' => fNext n0 oj (wpAnyF P md ops C n0 sp n L f ((listed.setIfInBounds j true).setIfInBounds i true)) a' B' (sp j)) a B (sp i) := by
        refine H.mono fun v B' _ hK => ?_
        rw [← Array.setIfInBounds_comm _ _ (fun e => hji e.symm)]
        exact (step _ _ hK).2
      unfold fOp
      simp only [hoj]
      refine ⟨hold, (nxt.swap p2).mono fun v B' hB' hK => ?_⟩
      exact ih (listed.setIfInBounds j true) _ B' (fin_of hfin hB') (inv.set hj hjn) hfree' (ready_mono hr (Ne.symm hji)) (hy.of_same (execOp_put oi (fun cs b => hsel i oi cs b hi) a oj.dst v p3) (wanted_put oi a oj.dst v p3)) hK
def wpF (P : Program) (ops : Array Oper) (C : World → Prop) (n0 : Nat) (Q : Act → FB → Prop) : List Oper → List FSpec → Act → FB → Prop
  | [], _, a, B => Q a B
  | _ :: _, [], _, _ => False
  | o :: l, s :: ss, a, B => fHolds P ops C o a s ∧ fNext n0 o (fun a' B' => wpF P ops C n0 Q l ss a' B') a B s
theorem wpAnyF_lex {n g : Nat} {Lq : Act → FB → Prop} {sp : Nat → FSpec} (hsel : Region.noSelect ops = true) :
    ∀ (l : List Oper) (ss : List FSpec) (k : Nat) (listed : Array Bool) (a : Act) (B : FB), FB.Fin B → (∀ j, j < l.length → l[j]? = ops[k + j]?) → (∀ j, j < l.length → ss[j]? = some (sp (k + j))) → k + l.length = n → HeadInv md ops n listed →
    Region.lexHead md ops g l.length k listed = true → wpF P ops C n0 Lq l ss a B →
    wpAnyF P md ops C n0 sp n (fun listed' a' B' => Region.seqB md ops g n listed' = true ∧ Lq a' B') l.length listed a B
  | [], _, k, listed, a, B, _, _, _, hk, _, hB, h => by
    have : k = n := by simpa using hk
    subst this
    exact ⟨by simpa [Region.lexHead] using hB, h⟩
  | o :: l, [], k, listed, a, B, _, _, _, _, _, _, h => absurd h (by simp [wpF])
  | o :: l, s :: ss, k, listed, a, B, hfin, hl, hsp, hk, inv, hB, h => by
    have h0 : ops[k]? = some o := by simpa using (hl 0 (by simp)).symm
    have s0 : s = sp k := by simpa using hsp 0 (by simp)
    simp only [List.length_cons, Region.lexHead, Bool.and_eq_true] at hB
    obtain ⟨⟨hr, hf⟩, hB'⟩ := hB
    have hkn : k < n := by simp only [List.length_cons] at hk; omega
    have hr' : k ∈ Region.ready md ops listed := by simpa using hr
    obtain ⟨hy, hK⟩ := h
    subst s0
    exact wpAnyF_first h0 (Region.noSelect_spec hsel) hkn (fun listed' a' B' hL => seqB_ready hL.1) l.length listed a B hfin inv (Region.free_spec h0 hf) hr' hy
      (hK.mono fun v B' hB2 h' => wpAnyF_lex hsel l ss (k + 1) _ _ B' (fin_of hfin hB2) (fun j hj => by have := hl (j + 1) (by simp; omega); simpa [Nat.add_assoc, Nat.add_comm 1 j] using this)
        (fun j hj => by have := hsp (j + 1) (by simp; omega); simpa [Nat.add_assoc, Nat.add_comm 1 j] using this) (by simp only [List.length_cons] at hk; omega) (inv.set hr' hkn) hB' h')
def fLoose (md : Region.Mode) (ops : Array Oper) (n : Nat) (lz : List Nat) : Bool :=
  lz.all fun i => decide (i < n) && match ops[i]? with
    | some o => (o.guard.isNone && match o.op with | .extract .. => true | _ => false) && (List.range ops.size).all fun j => j == i || Region.waitsFor md ops j i || Region.waitsFor md ops i j || match ops[j]? with
      | some oj => o.apart ops oj
      | none => true
    | none => false
def fSink (md : Region.Mode) (ops : Array Oper) (n : Nat) (lz : List Nat) : Bool :=
  (List.range n).all fun i => lz.contains i || (List.range (n + 1)).any fun j => decide (i < j) && (j == n || !lz.contains j) && Region.waitsFor md ops j i
theorem extract_pure {o : Oper} {x : Operand} {k : Nat} (ho : o.op = .extract x k) (ρ : Operand → Value) (w w' w1 : World) (u : Value) (h : (execOp ρ o).run P w = .ok (.value u) w1) : w1 = w ∧ (execOp ρ o).run P w' = .ok (.value u) w' := by
  unfold execOp at h ⊢
  simp only [ho] at h ⊢
  cases hx : ρ x <;> simp [hx, Instr.extract] at h ⊢
  all_goals first | (split at h <;> simp_all) | simp_all
theorem strict_waits {n : Nat} {lz : List Nat} {listed : Array Bool} (hs : fSink md ops n lz = true) (hc : Region.chainB md ops n = true) (hn : n < ops.size) (inv : HeadInv md ops n listed) :
    ∀ (d i : Nat), n - i = d → i < n → i ∉ lz → listed.getD i true = false → ∀ t, n ≤ t → t ∉ Region.ready md ops listed := by
  intro d
  induction d using Nat.strongRecOn with
  | _ d ih =>
    intro i hd hi hz hun t ht hr
    obtain ⟨_, ot, hot, hall⟩ := mem_ready.1 hr
    have htlt : t < ops.size := (Array.getElem?_eq_some_iff.1 hot).1
    by_cases htn : t = n
    · subst htn
      have h1 := List.all_eq_true.1 hs i (List.mem_range.2 hi)
      simp only [Bool.or_eq_true, List.contains_eq_mem, decide_eq_true_eq] at h1
      obtain ⟨j, hj, hj2⟩ := List.any_eq_true.1 (h1.resolve_left hz)
      simp only [Bool.and_eq_true, decide_eq_true_eq, Bool.or_eq_true, beq_iff_eq, Bool.not_eq_true', decide_eq_false_iff_not] at hj2
      obtain ⟨oj, hoj, e, he, hb, hon⟩ := Region.waitsFor_spec hj2.2
      have hjle : j ≤ t := by have := List.mem_range.1 hj; omega
      by_cases hjt : j = t
      · subst hjt
        have : oj = ot := Option.some.inj (hoj.symm.trans hot)
        subst this
        have h2 := hall e he hb
        rw [hon, getD_both hun] at h2
        cases h2
      · cases hl : listed.getD j false with
        | true =>
          have h2 := inv.closed j oj hoj hl e he hb
          rw [hon, getD_both hun] at h2
          cases h2
        | false =>
          have hjs : j < listed.size := by rw [inv.size]; omega
          exact ih (t - j) (by omega) j rfl (by omega) (hj2.1.2.resolve_left hjt) (getD_in hjs hl) t (Nat.le_refl _) hr
    · have h1 := List.all_eq_true.1 hc t (List.mem_range.2 htlt)
      simp only [Bool.or_eq_true, decide_eq_true_eq] at h1
      rcases h1 with h1 | h1
      · omega
      · obtain ⟨o', ho', e, he, hb, hon⟩ := Region.waitsFor_spec h1
        have : o' = ot := Option.some.inj (ho'.symm.trans hot)
        subst this
        have h2 := hall e he hb
        rw [hon, getD_both (inv.tail (t - 1) (by omega) (by omega))] at h2
        cases h2
theorem wpAny_of_float {sp : Nat → FSpec} {n g : Nat} {lz : List Nat} {L : Array Bool → Act → FB → Prop} {Q' : Exit → Act → World → Prop} (hst : ∀ w w', C w → Below w.heap.size w w' → C w') (hn0 : ∀ w, C w → n0 ≤ w.heap.size)
    (hsel : Region.noSelect ops = true) (hz : fLoose md ops n lz = true) (hs : fSink md ops n lz = true) (hc : Region.chainB md ops n = true) (hn : n < ops.size)
    (hQ : ∀ d v c a w, Q' (.panic c) (a.put d v) w → Q' (.panic c) a w)
    (hL : ∀ listed a B w, ClsB C B w → L listed a B → wpAny P md ops Q' g listed a w) :
    ∀ (f : Nat) (listed : Array Bool) (a : Act) (B : FB) (w : World), HeadInv md ops n listed → ClsB C B w → wpAnyF P md ops C n0 sp n L f listed a B → wpAny P md ops Q' (f + g) listed a w
  | 0, listed, a, B, w, _, hC, h => by rw [Nat.zero_add]; exact hL _ _ _ _ hC h
  | f + 1, listed, a, B, w, inv, hC, h => by
    rw [show f + 1 + g = (f + g) + 1 by omega]
    by_cases hl : ∃ i, i ∈ Region.ready md ops listed ∧ i ∈ lz
    · obtain ⟨i, hir, hiz⟩ := hl
      have h1 := List.all_eq_true.1 hz i hiz
      obtain ⟨hun, oi, hoi, hall⟩ := mem_ready.1 hir
      simp only [Bool.and_eq_true, decide_eq_true_eq, hoi, Option.isNone_iff_eq_none] at h1
      obtain ⟨hin, ⟨hg, hop⟩, hfr⟩ := h1
      have hf := h.2 i hir hin
      unfold fOp at hf
      simp only [hoi] at hf
      obtain ⟨x, k, ho⟩ : ∃ x k, oi.op = .extract x k := by
        cases hh : oi.op <;> simp only [hh] at hop <;> first | exact ⟨_, _, rfl⟩ | cases hop
      have hwt : Region.wanted oi (yielded ops a.tmps) = true := by unfold Region.wanted; rw [hg]
      have key : ∃ v, Yields P ops oi v a ∧ wpAnyF P md ops C n0 sp n L f (listed.setIfInBounds i true) (a.put oi.dst v) B := by
        cases hsp : sp i with
        | inl v =>
          rw [hsp] at hf
          refine ⟨v, Or.inl ⟨hwt, fun w' => ?_⟩, hf.2⟩
          rcases hf.1 with ⟨-, hv⟩ | ⟨hw, -⟩
          · have h3 := hv w hC.1
            cases hr : (execOp a.eval oi).run P w with
            | ok nx w1 =>
              rw [hr] at h3
              cases nx <;> simp only [qbUpon] at h3
              case value u => obtain ⟨e1, e2⟩ := h3; rw [e2] at hr; exact (extract_pure ho a.eval w w' w1 v hr).2
              case skip =>
                exfalso
                unfold execOp at hr
                simp only [ho] at hr
                cases hx : a.eval x <;> simp [hx, Instr.extract] at hr
                all_goals (split at hr <;> simp_all)
              case enter f args =>
                exfalso
                unfold execOp at hr
                simp only [ho] at hr
                cases hx : a.eval x <;> simp [hx, Instr.extract] at hr
                all_goals (split at hr <;> simp_all)
            | halt x w1 => rw [hr] at h3; simp only [qbUpon] at h3
          · rw [hwt] at hw; cases hw
        | inr zf =>
          obtain ⟨z, fz⟩ := zf
          rw [hsp] at hf
          have h3 := hf.1.2 w hC.1
          have h4 := (extract_pure ho a.eval w w _ _ h3).1
          have h5 : (w.alloc z).heap.size = w.heap.size := by rw [h4]
          simp at h5
      obtain ⟨v, hy, hK⟩ := key
      refine wpAny_first hoi (Region.noSelect_spec hsel) (fun c a w => hQ oi.dst v c a w) (f + g) listed a w (fun j oj hj hji hunj hno => ?_) hir hy (wpAny_of_float hst hn0 hsel hz hs hc hn hQ hL f _ _ B w (inv.set hir hin) hC hK)
      have h6 := List.all_eq_true.1 hfr j (List.mem_range.2 (Array.getElem?_eq_some_iff.1 hj).1)
      simp only [Bool.or_eq_true, beq_iff_eq, hji, false_or, hj] at h6
      rcases h6 with (h6 | h6) | h6
      · obtain ⟨o', ho', e, he, hb, hon⟩ := Region.waitsFor_spec h6
        have : o' = oj := Option.some.inj (ho'.symm.trans hj)
        subst this
        exact absurd hon (hno e he hb)
      · obtain ⟨o', ho', e, he, hb, hon⟩ := Region.waitsFor_spec h6
        have : o' = oi := Option.some.inj (ho'.symm.trans hoi)
        subst this
        have h7 := hall e he hb
        rw [hon, getD_both hunj] at h7
        cases h7
      · exact h6
    · obtain ⟨⟨i0, hi0, hi0n⟩, hstep⟩ := h
      have hun0 := (mem_ready.1 hi0).1
      have hi0z : i0 ∉ lz := fun e => hl ⟨i0, hi0, e⟩
      refine ⟨fun h0 => (by rw [h0] at hi0; cases hi0), fun i hi => ?_⟩
      have hin : i < n := by
        rcases Nat.lt_or_ge i n with h | h
        · exact h
        · exact absurd hi (strict_waits hs hc hn inv _ i0 rfl hi0n hi0z hun0 i h)
      exact wpOp_of_fOp hst hn0 hC (fun a' B' w' hC' h' => wpAny_of_float hst hn0 hsel hz hs hc hn hQ hL f _ a' B' w' (inv.set hi hin) hC' h') (hstep i hi hin)
def floatB (ops : Array Oper) (n : Nat) (lz : List Nat) : Bool :=
  Region.noSelect ops && decide (n < ops.size) && fLoose .any ops n lz && fSink .any ops n lz && Region.chainB .any ops n && Region.lexHead .any ops (ops.size - n) n 0 (Array.replicate ops.size false)
theorem wp_region_float {id : Nat} {Q : Exit → Act → World → Prop} {a : Act} {w : World} {l : List Oper} (n : Nat) (lz : List Nat) (ss : List FSpec) (hm : P.follows .mixedOrders = true) (hB : floatB l.toArray n lz = true) (hlen : ss.length = n)
    (hQ : ∀ d v c a w, Q (.panic c) (a.put d v) w → Q (.panic c) a w)
    (hst : ∀ w w', C w → Below w.heap.size w w' → C w') (hn0 : ∀ w, C w → n0 ≤ w.heap.size) (hC : C w.drew)
    (h : wpF P l.toArray C n0 (fun a' B => ∀ w', C w' → (∀ L z, B L = some z → w'.heap[L]? = some z) → wpList P l.toArray Q (l.drop n) a' w') (l.take n) ss a (fun _ => none)) : (Code.region id l.toArray true).wp P Q a w := by
  simp only [floatB, Bool.and_eq_true, decide_eq_true_eq] at hB
  obtain ⟨⟨⟨⟨⟨hsel, hn⟩, hz⟩, hs⟩, hc⟩, hlex⟩ := hB
  have hn' : n < l.length := by simpa using hn
  have htl : (l.take n).length = n := by simp; omega
  have hdl : (l.drop n).length = l.toArray.size - n := by simp
  have inv0 : HeadInv .any l.toArray n (Array.replicate l.toArray.size false) :=
    ⟨by simp, fun j oj _ hl => (by rw [getD_replicate_false] at hl; cases hl), fun t _ ht => getD_in (by simpa using ht) (getD_replicate_false _ _)⟩
  have H := wpAnyF_lex (md := .any) (g := l.toArray.size - n) (sp := fun j => ss.getD j (.inl undef)) hsel (l.take n) ss 0 _ a (fun _ => none) ⟨0, fun _ _ => rfl⟩ (fun j hj => by
    have hj' : j < n := by rw [htl] at hj; exact hj
    simp [hj']) (fun j hj => by
    have hj' : j < ss.length := by rw [htl] at hj; omega
    simp [hj']) (by simpa using htl) inv0 (by rw [htl]; exact hlex) h
  refine wp_region_any hm ?_
  have := wpAny_of_float (Q' := Q) (g := l.toArray.size - n) hst hn0 hsel hz hs hc hn hQ (fun listed a' B w' hC' hL => by
    have := wpAny_of_seq (md := .any) (Q' := Q) (l.drop n) n listed a' w' (fun j => by simp [List.getElem?_drop]) (by rw [hdl]; exact hL.1) (hL.2 w' hC'.1 hC'.2)
    rwa [hdl] at this) _ _ _ _ _ inv0 (⟨hC, fun _ _ h => by cases h⟩ : ClsB C (fun _ => none) w.drew) H
  rw [htl, show n + (l.toArray.size - n) = l.toArray.size by omega] at this
  exact this
end
end Go.Proofs.YtednmkhdehlojaaGreatDoor
namespace Go.Proofs.YtednmkhdehlojaaGreatDoor
open Go.RowKit
section
variable {P : Program} {ops : Array Oper} {C : World → Prop} {n0 : Nat}
def wpQ (P : Program) (ops : Array Oper) (C : World → Prop) (K : Act → Prop) : List Oper → Act → Prop
  | [], a => K a
  | o :: l, a => ∃ v, fHolds P ops C o a (.inl v) ∧ wpQ P ops C K l (a.put o.dst v)
def ptrTo (L : Nat) : Value := .pointer (some ⟨L, 0, none⟩)
def wpNew (n0 : Nat) (K : Act → FB → Prop) : List Oper → List Obj → Act → FB → Prop
  | o :: l, z :: zs, a, B => ∀ L, B L = none → n0 ≤ L → wpNew n0 K l zs (a.put o.dst (ptrTo L)) (FB.upd B L z)
  | _, _, a, B => K a B
def NewOk (P : Program) (C : World → Prop) : List Oper → List Obj → Prop
  | o :: l, z :: zs => (o.guard = none ∧ ∀ (a : Act) w, C w → (execOp a.eval o).run P w = .ok (.value (ptrTo w.heap.size)) (w.alloc z)) ∧ NewOk P C l zs
  | [], [] => True
  | _, _ => False
theorem wanted_free {o : Oper} (h : o.guard = none) (y : Nat → Option Bool) : Region.wanted o y = true := by unfold Region.wanted; rw [h]
theorem wpF_new {K : Act → FB → Prop} : ∀ (l : List Oper) (zs : List Obj) (a : Act) (B : FB), NewOk P C l zs → wpNew n0 K l zs a B → wpF P ops C n0 K l (zs.map fun z => .inr (z, ptrTo)) a B
  | [], [], _, _, _, h => h
  | [], _ :: _, _, _, hz, _ => absurd hz (by simp [NewOk])
  | _ :: _, [], _, _, hz, _ => absurd hz (by simp [NewOk])
  | o :: l, z :: zs, a, B, hz, h => ⟨⟨wanted_free hz.1.1 _, hz.1.2 a⟩, fun L h1 h2 => wpF_new l zs _ _ hz.2 (h L h1 h2)⟩
theorem newOk_len : ∀ {l : List Oper} {zs : List Obj}, NewOk P C l zs → l.length = zs.length
  | [], [], _ => rfl
  | [], _ :: _, h => absurd h (by simp [NewOk])
  | _ :: _, [], h => absurd h (by simp [NewOk])
  | _ :: l, _ :: zs, h => by simp [newOk_len h.2]
theorem wpF_of {K : Act → FB → Prop} {l2 : List Oper} {zs : List Obj} (hz : NewOk P C l2 zs) {B : FB} : ∀ (l1 : List Oper) (a : Act), wpQ P ops C (fun a' => wpNew n0 K l2 zs a' B) l1 a → ∃ ss : List FSpec, ss.length = l1.length + l2.length ∧ wpF P ops C n0 K (l1 ++ l2) ss a B
  | [], a, h => ⟨_, by simp [newOk_len hz], wpF_new l2 zs a B hz h⟩
  | o :: l1, a, ⟨v, h1, h2⟩ => by
    obtain ⟨ss, e, h⟩ := wpF_of hz l1 _ h2
    exact ⟨.inl v :: ss, by simp [e]; omega, h1, h⟩
theorem wp_float {id : Nat} {Q : Exit → Act → World → Prop} {a : Act} {w : World} {l : List Oper} (n : Nat) (lz : List Nat) (zs : List Obj) (hm : P.follows .mixedOrders = true) (hB : floatB l.toArray (n + zs.length) lz = true) (hQ : ∀ d v c a w, Q (.panic c) (a.put d v) w → Q (.panic c) a w)
    (hst : ∀ w w', C w → Below w.heap.size w w' → C w') (hn0 : ∀ w, C w → n0 ≤ w.heap.size) (hC : C w.drew) (hz : NewOk P C ((l.drop n).take zs.length) zs)
    (h : wpQ P l.toArray C (fun a' => wpNew n0 (fun a2 B => ∀ w', C w' → (∀ L z, B L = some z → w'.heap[L]? = some z) → wpList P l.toArray Q (l.drop (n + zs.length)) a2 w') ((l.drop n).take zs.length) zs a' (fun _ => none)) (l.take n) a) :
    (Code.region id l.toArray true).wp P Q a w := by
  have hn : n + zs.length < l.length := by
    have := hB
    simp only [floatB, Bool.and_eq_true, decide_eq_true_eq] at this
    simpa using this.1.1.1.1.2
  obtain ⟨ss, e, hF⟩ := wpF_of hz _ _ h
  have el : l.take n ++ (l.drop n).take zs.length = l.take (n + zs.length) := (List.take_add).symm
  rw [el] at hF
  refine wp_region_float (n + zs.length) lz ss hm hB ?_ hQ hst hn0 hC hF
  rw [e]
  simp
  omega
theorem wpQ_nil {K : Act → Prop} {a : Act} (h : K a) : wpQ P ops C K [] a := h
theorem wpQ_yield {K : Act → Prop} {o : Oper} {l : List Oper} {a : Act} {v : Value} (hw : Region.wanted o (yielded ops a.tmps) = true) (hy : ∀ w, C w → (execOp a.eval o).run P w = .ok (.value v) w) (h : wpQ P ops C K l (a.put o.dst v)) : wpQ P ops C K (o :: l) a :=
  ⟨v, Or.inl ⟨hw, fun w hC => by rw [hy w hC]; exact ⟨rfl, rfl⟩⟩, h⟩
theorem wpQ_enter {K : Act → Prop} {o : Oper} {l : List Oper} {a : Act} (hw : Region.wanted o (yielded ops a.tmps) = true) (h : ∃ v, (∀ w, C w → qbUpon P w v ((execOp a.eval o).run P w)) ∧ wpQ P ops C K l (a.put o.dst v)) : wpQ P ops C K (o :: l) a := by
  obtain ⟨v, h1, h2⟩ := h
  exact ⟨v, Or.inl ⟨hw, h1⟩, h2⟩
theorem wpQ_skip {K : Act → Prop} {o : Oper} {l : List Oper} {a : Act} (hw : Region.wanted o (yielded ops a.tmps) = false) (h : wpQ P ops C K l (a.put o.dst undef)) : wpQ P ops C K (o :: l) a := ⟨undef, Or.inr ⟨hw, rfl⟩, h⟩
theorem qb_enter {f : FuncId} {args : Array Value} {w : World} {v : Value} (h : Calls P f args w fun e w'' => e = .returned v ∧ Below w.heap.size w w'') : qbUpon P w v (.ok (.enter f args) w) := ⟨rfl, h⟩
theorem FB.at_new (B : FB) (L : Nat) (z : Obj) : FB.upd B L z L = some z := if_pos rfl
theorem FB.at_old {B : FB} {L L' : Nat} {z z' : Obj} (h : L' ≠ L) (h' : B L' = some z') : FB.upd B L z L' = some z' := (if_neg h).trans h'
end
end Go.Proofs.YtednmkhdehlojaaGreatDoor
namespace Go.Proofs.YtednmkhdehlojaaGreatDoor
open Go.RowKit
def Blk (w0 : World) (F : List (Nat × Obj)) (w : World) : Prop := Below w0.heap.size w0 w ∧ ∀ x, x ∈ F → w.heap[x.1]? = some x.2
section
variable {w0 w w' : World} {F : List (Nat × Obj)}
theorem Blk.later (h : Blk w0 F w) (hb : Below w.heap.size w w') : Blk w0 F w' :=
  ⟨h.1.trans (hb.mono h.1.size), fun x hx => (hb.block x.1 (Array.getElem?_eq_some_iff.1 (h.2 x hx)).1).trans (h.2 x hx)⟩
theorem Blk.stable (w0 : World) (F : List (Nat × Obj)) : ∀ w w', Blk w0 F w → Below w.heap.size w w' → Blk w0 F w' := fun _ _ h hb => h.later hb
theorem Blk.drew (h : Blk w0 F w) : Blk w0 F w.drew := ⟨h.1.drew, h.2⟩
theorem Blk.lt (h : Blk w0 F w) {g : Nat} {z : Obj} (hm : (g, z) ∈ F) : g < w.heap.size := (Array.getElem?_eq_some_iff.1 (h.2 _ hm)).1
theorem Blk.room (w0 : World) {F : List (Nat × Obj)} {g : Nat} {z : Obj} (hm : (g, z) ∈ F) : ∀ w, Blk w0 F w → g + 1 ≤ w.heap.size := fun _ h => h.lt hm
theorem Blk.room0 (w0 : World) (F : List (Nat × Obj)) : ∀ w, Blk w0 F w → w0.heap.size ≤ w.heap.size := fun _ h => h.1.size
theorem Blk.nil (hb : Below w0.heap.size w0 w) : Blk w0 [] w := ⟨hb, fun _ h => absurd h (by simp)⟩
theorem Blk.cons {g : Nat} {z : Obj} (h : Blk w0 F w) (hg : w.heap[g]? = some z) : Blk w0 ((g, z) :: F) w :=
  ⟨h.1, fun x hx => by
    rcases List.mem_cons.mp hx with rfl | hx
    · exact hg
    · exact h.2 x hx⟩
theorem Blk.more {F' : List (Nat × Obj)} (h : Blk w0 F w) (h' : ∀ x, x ∈ F' → x ∈ F) : Blk w0 F' w := ⟨h.1, fun x hx => h.2 x (h' x hx)⟩
end
section
variable {w : World} {g : Nat} {t : TypeId} {a b c d e f : Value}
theorem row2 (h : w.heap[g]? = some (.cells #[a, b] t (0, 0))) : w.cell? ⟨g, 0, none⟩ = some a ∧ w.cell? ⟨g, 1, none⟩ = some b ∧ w.frozen? ⟨g, 0, none⟩ = false ∧ w.frozen? ⟨g, 1, none⟩ = false ∧ g < w.heap.size :=
  ⟨by simp [World.cell?, h], by simp [World.cell?, h], by simp [World.frozen?, h], by simp [World.frozen?, h], (Array.getElem?_eq_some_iff.1 h).1⟩
theorem row3 (h : w.heap[g]? = some (.cells #[a, b, c] t (0, 0))) : w.cell? ⟨g, 0, none⟩ = some a ∧ w.cell? ⟨g, 1, none⟩ = some b ∧ w.cell? ⟨g, 2, none⟩ = some c ∧ w.frozen? ⟨g, 0, none⟩ = false ∧ w.frozen? ⟨g, 1, none⟩ = false ∧ w.frozen? ⟨g, 2, none⟩ = false ∧ g < w.heap.size :=
  ⟨by simp [World.cell?, h], by simp [World.cell?, h], by simp [World.cell?, h], by simp [World.frozen?, h], by simp [World.frozen?, h], by simp [World.frozen?, h], (Array.getElem?_eq_some_iff.1 h).1⟩
theorem row6 (h : w.heap[g]? = some (.cells #[a, b, c, d, e, f] t (0, 0))) : w.cell? ⟨g, 0, none⟩ = some a ∧ w.cell? ⟨g, 1, none⟩ = some b ∧ w.cell? ⟨g, 2, none⟩ = some c ∧ w.cell? ⟨g, 3, none⟩ = some d ∧ w.cell? ⟨g, 4, none⟩ = some e ∧ w.cell? ⟨g, 5, none⟩ = some f ∧ g < w.heap.size :=
  ⟨by simp [World.cell?, h], by simp [World.cell?, h], by simp [World.cell?, h], by simp [World.cell?, h], by simp [World.cell?, h], by simp [World.cell?, h], (Array.getElem?_eq_some_iff.1 h).1⟩
theorem put2 {x y : Value} (h : w.heap[g]? = some (.cells #[a, b] t (0, 0))) : ((w.setCell ⟨g, 0, none⟩ x).setCell ⟨g, 1, none⟩ y).heap[g]? = some (.cells #[x, y] t (0, 0)) :=
  heap_setCell_same _ g 1 _ t y (heap_setCell_same w g 0 _ t x h)
theorem put3 {x y z : Value} (h : w.heap[g]? = some (.cells #[a, b, c] t (0, 0))) : (((w.setCell ⟨g, 0, none⟩ x).setCell ⟨g, 1, none⟩ y).setCell ⟨g, 2, none⟩ z).heap[g]? = some (.cells #[x, y, z] t (0, 0)) :=
  heap_setCell_same _ g 2 _ t z (heap_setCell_same _ g 1 _ t y (heap_setCell_same w g 0 _ t x h))
theorem off2 {B : Nat} {o o' : Nat} {x y : Value} {ob : Obj} (h : w.heap[g]? = some ob) (hne : g ≠ B) : ((w.setCell ⟨B, o, none⟩ x).setCell ⟨B, o', none⟩ y).heap[g]? = some ob :=
  (heap_setCell_other _ _ _ _ hne).trans ((heap_setCell_other _ _ _ _ hne).trans h)
theorem off3 {B : Nat} {o o' o'' : Nat} {x y z : Value} {ob : Obj} (h : w.heap[g]? = some ob) (hne : g ≠ B) : (((w.setCell ⟨B, o, none⟩ x).setCell ⟨B, o', none⟩ y).setCell ⟨B, o'', none⟩ z).heap[g]? = some ob :=
  (heap_setCell_other _ _ _ _ hne).trans ((heap_setCell_other _ _ _ _ hne).trans ((heap_setCell_other _ _ _ _ hne).trans h))
end
end Go.Proofs.YtednmkhdehlojaaGreatDoor
namespace Go.Proofs.YtednmkhdehlojaaGreatDoor
open Go.ChangeShapes Go.WideShapes Go.ChangeAt Go.RowKit
structure Mac where
  step : Int
  steps : Int
  reg : Nat → Val
  slot : Nat → Val
  word : Nat → Int
  cel : Nat → Int
  time : Int
  out : Value
abbrev Kept (B : Nat) (w w' : World) : Prop := w.grownBy w' (some B)
theorem kept_below {w w1 : World} (hb : Below w.heap.size w w1) (B : Nat) : Kept B w w1 := ⟨hb.os, hb.tape, hb.output, hb.size, fun k hk _ => hb.block k hk⟩
theorem kept_set {w w1 : World} {B : Nat} (h : Kept B w w1) (i : Nat) (v : Value) : Kept B w (w1.setCell ⟨B, i, none⟩ v) :=
  ⟨h.os, h.tape, h.output, by show w.heap.size ≤ (w1.heap.modify B _).size; rw [Array.size_modify]; exact h.size, fun k hk hne => (Below.heap_setCell w1 ⟨B, i, none⟩ v k (fun e => hne (by rw [e]))).trans (h.block k hk hne)⟩
theorem kept_drew {w w1 : World} {B : Nat} (h : Kept B w w1) : Kept B w w1.drew := ⟨h.os, h.tape, h.output, h.size, h.block⟩
theorem kept_trans {w w1 w2 : World} {B : Nat} (h : Kept B w w1) (k : Kept B w1 w2) : Kept B w w2 :=
  ⟨k.os.trans h.os, k.tape.trans h.tape, k.output.trans h.output, Nat.le_trans h.size k.size, fun i hi hne => (k.block i (Nat.lt_of_lt_of_le hi h.size) hne).trans (h.block i hi hne)⟩
theorem later_box {W w1 : World} (hb : Below W.heap.size W w1) (b : Nat) : b < W.heap.size → (∀ o, w1.cell? ⟨b, o, none⟩ = W.cell? ⟨b, o, none⟩) ∧ (∀ o, w1.frozen? ⟨b, o, none⟩ = W.frozen? ⟨b, o, none⟩) ∧ b < w1.heap.size := fun h =>
  ⟨fun o => hb.cell (p := ⟨b, o, none⟩) h, fun o => by
    have e := hb.block b h
    unfold World.frozen?
    rw [e], Nat.lt_of_lt_of_le h hb.size⟩
attribute [local simp] drew_size drewN_size setCell_size
end Go.Proofs.YtednmkhdehlojaaGreatDoor
namespace Go.Proofs.YtednmkhdehlojaaGreatDoor
open Go.ChangeShapes Go.WideShapes Go.ChangeAt Go.RowKit
theorem kept_refl (B : Nat) (w : World) : Kept B w w := ⟨rfl, rfl, rfl, Nat.le_refl _, fun _ _ _ => rfl⟩
theorem kept_alloc {w w1 : World} {B : Nat} (h : Kept B w w1) (o : Obj) : Kept B w (w1.alloc o) := kept_trans h (kept_below ((bF _ _).alloc (Nat.le_refl _) _) B)
theorem kept_new {w w1 : World} {B : Nat} (h : Kept B w w1) (a : Addr) (v : Value) (ha : w.heap.size ≤ a.block) : Kept B w (w1.setCell a v) :=
  ⟨h.os, h.tape, h.output, by show w.heap.size ≤ (w1.heap.modify _ _).size; rw [Array.size_modify]; exact h.size, fun k hk hne => (Below.heap_setCell w1 a v k (by omega)).trans (h.block k hk hne)⟩
theorem kept_later {w w1 w2 : World} {B : Nat} (h : Kept B w w1) (hb : Below w1.heap.size w1 w2) : Kept B w w2 := kept_trans h (kept_below hb B)
def Kno.v (x : Kno) : Value := .agg #[vI vK x.k, vI vK x.l, vI vK x.h]
def knoCell (x : Kno) (j : Nat) : Value := if j = 0 then vI vK x.k else if j = 1 then vI vK x.l else vI vK x.h
def wayCell (p : Int) (y : Way) (i : Nat) : Value :=
  if i = 0 then vI vK p
  else if i < 34 then knoCell (y.reg ((i - 1) / 3)) ((i - 1) % 3)
  else knoCell (y.slot ((i - 34) / 3)) ((i - 34) % 3)
def wayCs (p : Int) (y : Way) : Array Value := Array.ofFn (n := 82) fun i => wayCell p y i.1
def WayAt (w : World) (B : Nat) (p : Int) (y : Way) : Prop := w.heap[B]? = some (.cells (wayCs p y) 150 (0, 0))
theorem wayCs_size (p : Int) (y : Way) : (wayCs p y).size = 82 := by simp [wayCs]
theorem knoCell_one (x : Kno) (j : Nat) : (knoCell x j).oneCell' = true := by
  unfold knoCell
  split
  · rfl
  split <;> rfl
theorem wayCell_one (p : Int) (y : Way) (i : Nat) : (wayCell p y i).oneCell' = true := by
  unfold wayCell
  split
  · rfl
  split <;> exact knoCell_one _ _
theorem wayCs_get (p : Int) (y : Way) (i : Nat) (h : i < (wayCs p y).size) : (wayCs p y)[i] = wayCell p y i := by simp [wayCs]
theorem wayCs_one (p : Int) (y : Way) : (wayCs p y).all (·.oneCell') = true := by
  rw [Array.all_eq_true_iff_forall_mem]
  intro v hv
  obtain ⟨i, h1, h2⟩ := Array.mem_iff_getElem.1 hv
  rw [← h2, wayCs_get p y i h1]
  exact wayCell_one _ _ _
theorem wayCs_at (p : Int) (y : Way) (i : Nat) (hi : i < 82) : (wayCs p y)[i]? = some (wayCell p y i) := by
  unfold wayCs
  simp [hi]
section
variable {w : World} {B d : Nat} {p : Int} {y : Way}
theorem WayAt.lt (h : WayAt w B p y) : B < w.heap.size := (Array.getElem?_eq_some_iff.1 h).1
theorem WayAt.at (h : WayAt w B p y) (i : Nat) (hi : i < 82) : w.cell? ⟨B, i, none⟩ = some (wayCell p y i) := by
  rw [cell_of_row w B i _ _ _ h, wayCs_at p y i hi]
theorem WayAt.frozen (h : WayAt w B p y) (i : Nat) : w.frozen? ⟨B, i, none⟩ = false := by
  have h' : w.heap[B]? = some (.cells (wayCs p y) 150 (0, 0)) := h
  simp [World.frozen?, h']
theorem WayAt.later {w1 : World} (h : WayAt w B p y) (hb : Below w.heap.size w w1) : WayAt w1 B p y := (hb.block B h.lt).trans h
theorem WayAt.alloc (h : WayAt w B p y) (o : Obj) : WayAt (w.alloc o) B p y := h.later ((bF _ _).alloc (Nat.le_refl _) _)
theorem WayAt.start (w : World) (p : Int) (y : Way) : WayAt (w.alloc (.cells (wayCs p y) 150)) w.heap.size p y := heap_alloc_new w _
theorem WayAt.setRow {w : World} {g : Nat} {old : Array Value} (hg : w.heap[g]? = some (.cells old 150 (0, 0))) (p : Int) (y : Way) : WayAt (w.setRow g (wayCs p y)) g p y := setRow_heap w g old _ _ _ hg
theorem WayAt.set {p' : Int} {y' : Way} (h : WayAt w B p y) (i : Nat) (v : Value) (he : ∀ j, j < 82 → wayCell p' y' j = if j = i then v else wayCell p y j) : WayAt (w.setCell ⟨B, i, none⟩ v) B p' y' := by
  have e : (wayCs p y).setIfInBounds i v = wayCs p' y' := by
    apply Array.ext
    · simp [wayCs]
    · intro j h1 h2
      have h3 : j < 82 := by rw [wayCs_size] at h2; exact h2
      rw [Array.getElem_setIfInBounds (by rw [wayCs_size]; exact h3), wayCs_get, wayCs_get, he j h3]
      by_cases hj : i = j
      · rw [if_pos hj, if_pos hj.symm]
      · rw [if_neg hj, if_neg (fun e => hj e.symm)]
  unfold WayAt
  rw [← e]
  exact heap_setCell_same w B i _ _ v h
theorem wayCell_reg (p : Int) (y : Way) (d : Nat) (hd : d < 11) (i : Nat) (hi : i < 3) : wayCell p y (1 + d * 3 + i) = knoCell (y.reg d) i := by
  unfold wayCell
  rw [if_neg (by omega), if_pos (by omega), show (1 + d * 3 + i - 1) / 3 = d by omega, show (1 + d * 3 + i - 1) % 3 = i by omega]
theorem wayCell_slot (p : Int) (y : Way) (d : Nat) (i : Nat) (hi : i < 3) : wayCell p y (34 + d * 3 + i) = knoCell (y.slot d) i := by
  unfold wayCell
  rw [if_neg (by omega), if_neg (by omega), show (34 + d * 3 + i - 34) / 3 = d by omega, show (34 + d * 3 + i - 34) % 3 = i by omega]
theorem WayAt.step (h : WayAt w B p y) : w.cell? ⟨B, 0, none⟩ = some (vI vK p) := h.at 0 (by omega)
theorem WayAt.reg (h : WayAt w B p y) (hd : d < 11) : w.cell? ⟨B, 1 + d * 3, none⟩ = some (vI vK (y.reg d).k) ∧ w.cell? ⟨B, 1 + d * 3 + 1, none⟩ = some (vI vK (y.reg d).l) ∧ w.cell? ⟨B, 1 + d * 3 + 2, none⟩ = some (vI vK (y.reg d).h) :=
  ⟨by rw [h.at _ (by omega)]; exact congrArg some (wayCell_reg p y d hd 0 (by omega)), by rw [h.at _ (by omega), wayCell_reg p y d hd 1 (by omega)]; rfl, by rw [h.at _ (by omega), wayCell_reg p y d hd 2 (by omega)]; rfl⟩
theorem WayAt.slot (h : WayAt w B p y) (hd : d < 16) : w.cell? ⟨B, 34 + d * 3, none⟩ = some (vI vK (y.slot d).k) ∧ w.cell? ⟨B, 34 + d * 3 + 1, none⟩ = some (vI vK (y.slot d).l) ∧ w.cell? ⟨B, 34 + d * 3 + 2, none⟩ = some (vI vK (y.slot d).h) :=
  ⟨by rw [h.at _ (by omega)]; exact congrArg some (wayCell_slot p y d 0 (by omega)), by rw [h.at _ (by omega), wayCell_slot p y d 1 (by omega)]; rfl, by rw [h.at _ (by omega), wayCell_slot p y d 2 (by omega)]; rfl⟩
theorem WayAt.putStep (h : WayAt w B p y) (q : Int) : WayAt (w.setCell ⟨B, 0, none⟩ (vI vK q)) B q y :=
  h.set 0 _ fun j _ => by
    by_cases e : j = 0
    · rw [if_pos e, e]; rfl
    · rw [if_neg e]; unfold wayCell; rw [if_neg e, if_neg e]
theorem wayCell_putReg (p : Int) (y : Way) (d : Nat) (hd : d < 11) (x : Kno) (j : Nat) : wayCell p (y.putReg d x) j = if 1 + d * 3 ≤ j ∧ j < 1 + d * 3 + 3 then knoCell x (j - (1 + d * 3)) else wayCell p y j := by
  by_cases h : 1 + d * 3 ≤ j ∧ j < 1 + d * 3 + 3
  · rw [if_pos h]
    unfold wayCell
    rw [if_neg (by omega), if_pos (by omega), show (j - 1) / 3 = d by omega, show (j - 1) % 3 = j - (1 + d * 3) by omega]
    show knoCell (if d = d then x else y.reg d) _ = _
    rw [if_pos rfl]
  · rw [if_neg h]
    unfold wayCell
    by_cases h0 : j = 0
    · rw [if_pos h0, if_pos h0]
    rw [if_neg h0, if_neg h0]
    by_cases h1 : j < 34
    · rw [if_pos h1, if_pos h1]
      show knoCell (if (j - 1) / 3 = d then x else y.reg ((j - 1) / 3)) _ = _
      rw [if_neg (by omega)]
    · rw [if_neg h1, if_neg h1]; rfl
theorem wayCell_putSlot (p : Int) (y : Way) (d : Nat) (x : Kno) (j : Nat) : wayCell p (y.putSlot d x) j = if 34 + d * 3 ≤ j ∧ j < 34 + d * 3 + 3 then knoCell x (j - (34 + d * 3)) else wayCell p y j := by
  by_cases h : 34 + d * 3 ≤ j ∧ j < 34 + d * 3 + 3
  · rw [if_pos h]
    unfold wayCell
    rw [if_neg (by omega), if_neg (by omega), show (j - 34) / 3 = d by omega, show (j - 34) % 3 = j - (34 + d * 3) by omega]
    show knoCell (if d = d then x else y.slot d) _ = _
    rw [if_pos rfl]
  · rw [if_neg h]
    unfold wayCell
    by_cases h0 : j = 0
    · rw [if_pos h0, if_pos h0]
    rw [if_neg h0, if_neg h0]
    by_cases h1 : j < 34
    · rw [if_pos h1, if_pos h1]; rfl
    · rw [if_neg h1, if_neg h1]
      show knoCell (if (j - 34) / 3 = d then x else y.slot ((j - 34) / 3)) _ = _
      rw [if_neg (by omega)]
theorem way_regs (y : Way) (d : Nat) : y.putReg d (y.reg d) = y := by
  unfold Way.putReg
  have : (fun i => if i = d then y.reg d else y.reg i) = y.reg := by
    funext i
    by_cases h : i = d
    · rw [if_pos h, h]
    · rw [if_neg h]
  rw [this]
theorem way_slots (y : Way) (d : Nat) : y.putSlot d (y.slot d) = y := by
  unfold Way.putSlot
  have : (fun i => if i = d then y.slot d else y.slot i) = y.slot := by
    funext i
    by_cases h : i = d
    · rw [if_pos h, h]
    · rw [if_neg h]
  rw [this]
theorem reg_part (p : Int) (y : Way) (d : Nat) (hd : d < 11) (x z : Kno) (i : Nat) (hi : i < 3) (h : ∀ j, j < 3 → knoCell z j = if j = i then knoCell z i else knoCell x j) : ∀ j, j < 82 → wayCell p (y.putReg d z) j = if j = 1 + d * 3 + i then knoCell z i else wayCell p (y.putReg d x) j := by
  intro j _
  rw [wayCell_putReg p y d hd z j, wayCell_putReg p y d hd x j]
  by_cases hin : 1 + d * 3 ≤ j ∧ j < 1 + d * 3 + 3
  · rw [if_pos hin, if_pos hin, h _ (by omega)]
    by_cases e : j = 1 + d * 3 + i
    · rw [if_pos e, if_pos (by omega)]
    · rw [if_neg e, if_neg (by omega)]
  · rw [if_neg hin, if_neg hin, if_neg (by omega)]
theorem wslot_part (p : Int) (y : Way) (d : Nat) (x z : Kno) (i : Nat) (hi : i < 3) (h : ∀ j, j < 3 → knoCell z j = if j = i then knoCell z i else knoCell x j) : ∀ j, j < 82 → wayCell p (y.putSlot d z) j = if j = 34 + d * 3 + i then knoCell z i else wayCell p (y.putSlot d x) j := by
  intro j _
  rw [wayCell_putSlot p y d z j, wayCell_putSlot p y d x j]
  by_cases hin : 34 + d * 3 ≤ j ∧ j < 34 + d * 3 + 3
  · rw [if_pos hin, if_pos hin, h _ (by omega)]
    by_cases e : j = 34 + d * 3 + i
    · rw [if_pos e, if_pos (by omega)]
    · rw [if_neg e, if_neg (by omega)]
  · rw [if_neg hin, if_neg hin, if_neg (by omega)]
theorem WayAt.reg3 (h : WayAt w B p y) (hd : d < 11) (k l g : Int) : WayAt (((w.setCell ⟨B, 1 + d * 3, none⟩ (vI vK k)).setCell ⟨B, 1 + d * 3 + 1, none⟩ (vI vK l)).setCell ⟨B, 1 + d * 3 + 2, none⟩ (vI vK g)) B p (y.putReg d ⟨k, l, g⟩) := by
  have h1 : WayAt (w.setCell ⟨B, 1 + d * 3, none⟩ (vI vK k)) B p (y.putReg d ⟨k, (y.reg d).l, (y.reg d).h⟩) := h.set _ _ fun j hj => by
    have := reg_part p y d hd (y.reg d) ⟨k, (y.reg d).l, (y.reg d).h⟩ 0 (by omega) (fun j hj => by rcases (show j = 0 ∨ j = 1 ∨ j = 2 by omega) with rfl | rfl | rfl <;> rfl) j hj
    rw [this, way_regs y d]; rfl
  have h2 : WayAt ((w.setCell ⟨B, 1 + d * 3, none⟩ (vI vK k)).setCell ⟨B, 1 + d * 3 + 1, none⟩ (vI vK l)) B p (y.putReg d ⟨k, l, (y.reg d).h⟩) := h1.set _ _ fun j hj =>
    reg_part p y d hd ⟨k, (y.reg d).l, (y.reg d).h⟩ ⟨k, l, (y.reg d).h⟩ 1 (by omega) (fun j hj => by rcases (show j = 0 ∨ j = 1 ∨ j = 2 by omega) with rfl | rfl | rfl <;> rfl) j hj
  exact h2.set _ _ fun j hj =>
    reg_part p y d hd ⟨k, l, (y.reg d).h⟩ ⟨k, l, g⟩ 2 (by omega) (fun j hj => by rcases (show j = 0 ∨ j = 1 ∨ j = 2 by omega) with rfl | rfl | rfl <;> rfl) j hj
theorem WayAt.slot3 (h : WayAt w B p y) (d : Nat) (k l g : Int) : WayAt (((w.setCell ⟨B, 34 + d * 3, none⟩ (vI vK k)).setCell ⟨B, 34 + d * 3 + 1, none⟩ (vI vK l)).setCell ⟨B, 34 + d * 3 + 2, none⟩ (vI vK g)) B p (y.putSlot d ⟨k, l, g⟩) := by
  have h1 : WayAt (w.setCell ⟨B, 34 + d * 3, none⟩ (vI vK k)) B p (y.putSlot d ⟨k, (y.slot d).l, (y.slot d).h⟩) := h.set _ _ fun j hj => by
    have := wslot_part p y d (y.slot d) ⟨k, (y.slot d).l, (y.slot d).h⟩ 0 (by omega) (fun j hj => by rcases (show j = 0 ∨ j = 1 ∨ j = 2 by omega) with rfl | rfl | rfl <;> rfl) j hj
    rw [this, way_slots y d]; rfl
  have h2 : WayAt ((w.setCell ⟨B, 34 + d * 3, none⟩ (vI vK k)).setCell ⟨B, 34 + d * 3 + 1, none⟩ (vI vK l)) B p (y.putSlot d ⟨k, l, (y.slot d).h⟩) := h1.set _ _ fun j hj =>
    wslot_part p y d ⟨k, (y.slot d).l, (y.slot d).h⟩ ⟨k, l, (y.slot d).h⟩ 1 (by omega) (fun j hj => by rcases (show j = 0 ∨ j = 1 ∨ j = 2 by omega) with rfl | rfl | rfl <;> rfl) j hj
  exact h2.set _ _ fun j hj =>
    wslot_part p y d ⟨k, l, (y.slot d).h⟩ ⟨k, l, g⟩ 2 (by omega) (fun j hj => by rcases (show j = 0 ∨ j = 1 ∨ j = 2 by omega) with rfl | rfl | rfl <;> rfl) j hj
end
theorem Tryz.infoW : (Tryz.prog.info? 150).map (·.size) = some 82 := by kernel_rfl
theorem infoW_of (p : Int) (y : Way) : (Tryz.prog.info? 150).map (·.size) = some (wayCs p y).size := by rw [wayCs_size]; exact Tryz.infoW
theorem way_results1 {fn : Func} {q : Tmp} (h : fn.results = #[.cell q 150]) (tmps : Array Value) (w : World) (g : Nat) (p : Int) (y : Way) (hp : tmps.getD q undef = .pointer (some ⟨g, 0, none⟩)) (hg : WayAt w g p y) :
    (results fn tmps).run Tryz.prog w = .ok (.agg (wayCs p y)) w :=
  results_cell_row h tmps w g _ _ _ _ hp hg Tryz.underlying150 rfl (infoW_of p y)
end Go.Proofs.YtednmkhdehlojaaGreatDoor
namespace Go.Proofs.YtednmkhdehlojaaGreatDoor
open Go.ChangeShapes Go.WideShapes Go.ChangeAt Go.RowKit
theorem vnumber_any (l h : Int) (w : World) : Calls Tryz.prog 150 #[.agg #[vI vK l, vI vK h]] w fun e w' => e = .returned (knoNum l h).v ∧ Below w.heap.size w w' := by
  go_enter Tryz.func150, Tryz.ntmps150
  go_wp2
  exact bodyPost_ret (v := (knoNum l h).v) (by simp [results, Tryz.results150, go_sem, knoNum, Kno.v]) rfl ⟨rfl, by repeat' first | with_reducible (first | exact bF _ _ | refine bA ?_ ?_ _ | refine bS ?_ ?_ _ | refine bD ?_) | ((try dsimp only); omega) | (simp; done) | (simp; omega)⟩
theorem isPlace_x2 (k l h : Int) (w : World) (y2 : (k == 2) = true) : Calls Tryz.prog 181 #[.agg #[vI vK k, vI vK l, vI vK h]] w fun e w' => e = .returned (.bool true) ∧ Below w.heap.size w w' := by
  go_enter Tryz.func181, Tryz.ntmps181
  go_wp2
  go_ret
  exact ⟨rfl, by repeat' first | with_reducible (first | exact bF _ _ | refine bA ?_ ?_ _ | refine bS ?_ ?_ _ | refine bD ?_) | ((try dsimp only); omega) | (simp; done) | (simp; omega)⟩
theorem isPlace_x3 (k l h : Int) (w : World) (y2 : (k == 2) = false) (y3 : (k == 3) = true) : Calls Tryz.prog 181 #[.agg #[vI vK k, vI vK l, vI vK h]] w fun e w' => e = .returned (.bool true) ∧ Below w.heap.size w w' := by
  go_enter Tryz.func181, Tryz.ntmps181
  go_wp2
  go_ret
  exact ⟨rfl, by repeat' first | with_reducible (first | exact bF _ _ | refine bA ?_ ?_ _ | refine bS ?_ ?_ _ | refine bD ?_) | ((try dsimp only); omega) | (simp; done) | (simp; omega)⟩
theorem isPlace_x4 (k l h : Int) (w : World) (y2 : (k == 2) = false) (y3 : (k == 3) = false) (y4 : (k == 4) = true) : Calls Tryz.prog 181 #[.agg #[vI vK k, vI vK l, vI vK h]] w fun e w' => e = .returned (.bool true) ∧ Below w.heap.size w w' := by
  go_enter Tryz.func181, Tryz.ntmps181
  go_wp2
  go_ret
  exact ⟨rfl, by repeat' first | with_reducible (first | exact bF _ _ | refine bA ?_ ?_ _ | refine bS ?_ ?_ _ | refine bD ?_) | ((try dsimp only); omega) | (simp; done) | (simp; omega)⟩
theorem isPlace_no (k l h : Int) (w : World) (y2 : (k == 2) = false) (y3 : (k == 3) = false) (y4 : (k == 4) = false) : Calls Tryz.prog 181 #[.agg #[vI vK k, vI vK l, vI vK h]] w fun e w' => e = .returned (.bool false) ∧ Below w.heap.size w w' := by
  go_enter Tryz.func181, Tryz.ntmps181
  go_wp2
  go_ret
  exact ⟨rfl, by repeat' first | with_reducible (first | exact bF _ _ | refine bA ?_ ?_ _ | refine bS ?_ ?_ _ | refine bD ?_) | ((try dsimp only); omega) | (simp; done) | (simp; omega)⟩
def isPlaceB (k : Int) : Bool := k == 2 || k == 3 || k == 4
theorem isPlace_any (k l h : Int) (w : World) : Calls Tryz.prog 181 #[.agg #[vI vK k, vI vK l, vI vK h]] w fun e w' => e = .returned (.bool (isPlaceB k)) ∧ Below w.heap.size w w' := by
  unfold isPlaceB
  cases y2 : k == 2
  · cases y3 : k == 3
    · cases y4 : k == 4
      · exact isPlace_no k l h w y2 y3 y4
      · exact isPlace_x4 k l h w y2 y3 y4
    · exact isPlace_x3 k l h w y2 y3
  · exact isPlace_x2 k l h w y2
theorem isPlaceB_iff (k : Int) : isPlaceB k = true ↔ (k = 2 ∨ k = 3 ∨ k = 4) := by unfold isPlaceB; simp [or_assoc]
theorem vwant_n0 (k l h : Int) (w : World) (y0 : (k == 0) = true) : Calls Tryz.prog 107 #[.agg #[vI vK k, vI vK l, vI vK h]] w fun e w' => e = .returned (vI vK 8) ∧ Below w.heap.size w w' := by
  go_enter Tryz.func107, Tryz.ntmps107
  go_wp2
  go_ret
  exact ⟨rfl, by repeat' first | with_reducible (first | exact bF _ _ | refine bA ?_ ?_ _ | refine bS ?_ ?_ _ | refine bD ?_) | ((try dsimp only); omega) | (simp; done) | (simp; omega)⟩
theorem vwant_n1 (k l h : Int) (w : World) (y0 : (k == 0) = false) (y1 : (k == 1) = true) : Calls Tryz.prog 107 #[.agg #[vI vK k, vI vK l, vI vK h]] w fun e w' => e = .returned (vI vK 0) ∧ Below w.heap.size w w' := by
  go_enter Tryz.func107, Tryz.ntmps107
  go_wp2
  go_ret
  exact ⟨rfl, by repeat' first | with_reducible (first | exact bF _ _ | refine bA ?_ ?_ _ | refine bS ?_ ?_ _ | refine bD ?_) | ((try dsimp only); omega) | (simp; done) | (simp; omega)⟩
theorem vwant_n2 (k l h : Int) (w : World) (y0 : (k == 0) = false) (y1 : (k == 1) = false) : Calls Tryz.prog 107 #[.agg #[vI vK k, vI vK l, vI vK h]] w fun e w' => e = .returned (vI vK 1) ∧ Below w.heap.size w w' := by
  go_enter Tryz.func107, Tryz.ntmps107
  go_wp2
  go_ret
  exact ⟨rfl, by repeat' first | with_reducible (first | exact bF _ _ | refine bA ?_ ?_ _ | refine bS ?_ ?_ _ | refine bD ?_) | ((try dsimp only); omega) | (simp; done) | (simp; omega)⟩
theorem vwant_any (k l h : Int) (w : World) : Calls Tryz.prog 107 #[.agg #[vI vK k, vI vK l, vI vK h]] w fun e w' => e = .returned (vI vK (knoWant ⟨k, l, h⟩)) ∧ Below w.heap.size w w' := by
  unfold knoWant
  by_cases h0 : k = 0
  · rw [if_pos h0]; exact vwant_n0 k l h w (by simpa using h0)
  by_cases h1 : k = 1
  · rw [if_neg h0, if_pos h1]; exact vwant_n1 k l h w (by simpa using h0) (by simpa using h1)
  · rw [if_neg h0, if_neg h1]; exact vwant_n2 k l h w (by simpa using h0) (by simpa using h1)
theorem room_2 (k : Int) (w : World) (y2 : (k == 2) = true) : Calls Tryz.prog 183 #[vI vK k] w fun e w' => e = .returned (.agg #[vI vK 0, vI vK 7]) ∧ Below w.heap.size w w' := by
  go_enter Tryz.func183, Tryz.ntmps183
  go_wp2
  exact bodyPost_ret (v := .agg #[vI vK 0, vI vK 7]) (by simp [results, Tryz.results183, go_sem]) rfl ⟨rfl, by repeat' first | with_reducible (first | exact bF _ _ | refine bA ?_ ?_ _ | refine bS ?_ ?_ _ | refine bD ?_) | ((try dsimp only); omega) | (simp; done) | (simp; omega)⟩
theorem room_3 (k : Int) (w : World) (y2 : (k == 2) = false) (y3 : (k == 3) = true) : Calls Tryz.prog 183 #[vI vK k] w fun e w' => e = .returned (.agg #[vI vK (-16), vI vK (-1)]) ∧ Below w.heap.size w w' := by
  go_enter Tryz.func183, Tryz.ntmps183
  go_wp2
  exact bodyPost_ret (v := .agg #[vI vK (-16), vI vK (-1)]) (by simp [results, Tryz.results183, go_sem]) rfl ⟨rfl, by repeat' first | with_reducible (first | exact bF _ _ | refine bA ?_ ?_ _ | refine bS ?_ ?_ _ | refine bD ?_) | ((try dsimp only); omega) | (simp; done) | (simp; omega)⟩
theorem room_4 (k : Int) (w : World) (y2 : (k == 2) = false) (y3 : (k == 3) = false) : Calls Tryz.prog 183 #[vI vK k] w fun e w' => e = .returned (.agg #[vI vK 0, vI vK 3]) ∧ Below w.heap.size w w' := by
  go_enter Tryz.func183, Tryz.ntmps183
  go_wp2
  exact bodyPost_ret (v := .agg #[vI vK 0, vI vK 3]) (by simp [results, Tryz.results183, go_sem]) rfl ⟨rfl, by repeat' first | with_reducible (first | exact bF _ _ | refine bA ?_ ?_ _ | refine bS ?_ ?_ _ | refine bD ?_) | ((try dsimp only); omega) | (simp; done) | (simp; omega)⟩
theorem room_any (k : Int) (w : World) : Calls Tryz.prog 183 #[vI vK k] w fun e w' => e = .returned (.agg #[vI vK (knoRoom k).1, vI vK (knoRoom k).2]) ∧ Below w.heap.size w w' := by
  unfold knoRoom
  by_cases h2 : k = 2
  · rw [if_pos h2]; exact room_2 k w (by simpa using h2)
  by_cases h3 : k = 3
  · rw [if_neg h2, if_pos h3]; exact room_3 k w (by simpa using h2) (by simpa using h3)
  · rw [if_neg h2, if_neg h3]; exact room_4 k w (by simpa using h2) (by simpa using h3)
end Go.Proofs.YtednmkhdehlojaaGreatDoor
namespace Go.Proofs.YtednmkhdehlojaaGreatDoor
open Go.ChangeShapes Go.WideShapes Go.ChangeAt Go.RowKit
attribute [local simp] drew_size

theorem idx4_0 (x0 x1 x2 x3 : Int) (w : World) : (Instr.index 53 (.agg #[vI vK x0, vI vK x1, vI vK x2, vI vK x3]) (vI vK 0)).run Tryz.prog w = .ok (vI vK x0) w := by kernel_rfl
theorem idx4_1 (x0 x1 x2 x3 : Int) (w : World) : (Instr.index 53 (.agg #[vI vK x0, vI vK x1, vI vK x2, vI vK x3]) (vI vK 1)).run Tryz.prog w = .ok (vI vK x1) w := by kernel_rfl
theorem idx4_2 (x0 x1 x2 x3 : Int) (w : World) : (Instr.index 53 (.agg #[vI vK x0, vI vK x1, vI vK x2, vI vK x3]) (vI vK 2)).run Tryz.prog w = .ok (vI vK x2) w := by kernel_rfl
theorem idx4_3 (x0 x1 x2 x3 : Int) (w : World) : (Instr.index 53 (.agg #[vI vK x0, vI vK x1, vI vK x2, vI vK x3]) (vI vK 3)).run Tryz.prog w = .ok (vI vK x3) w := by kernel_rfl
theorem idx3_0 (x0 x1 x2 : Int) (w : World) : (Instr.index 299 (.agg #[vI vK x0, vI vK x1, vI vK x2]) (vI vK 0)).run Tryz.prog w = .ok (vI vK x0) w := by kernel_rfl
theorem idx3_1 (x0 x1 x2 : Int) (w : World) : (Instr.index 299 (.agg #[vI vK x0, vI vK x1, vI vK x2]) (vI vK 1)).run Tryz.prog w = .ok (vI vK x1) w := by kernel_rfl
theorem idx3_2 (x0 x1 x2 : Int) (w : World) : (Instr.index 299 (.agg #[vI vK x0, vI vK x1, vI vK x2]) (vI vK 2)).run Tryz.prog w = .ok (vI vK x2) w := by kernel_rfl
def Firsts (p q r s : Int) (k : Nat) (lo hi : Int) : Prop :=
  (k = 0 ∧ lo = p ∧ hi = p) ∨ (k = 1 ∧ lo = min p q ∧ hi = max p q) ∨ (k = 2 ∧ lo = min (min p q) r ∧ hi = max (max p q) r) ∨ (k = 3 ∧ lo = min (min (min p q) r) s ∧ hi = max (max (max p q) r) s)
def Boxes (m r : Nat) (lo hi : Int) (w : World) : Prop :=
  (m < w.heap.size ∧ w.cell? ⟨m, 0, none⟩ = some (vI vK lo) ∧ w.cell? ⟨m, 1, none⟩ = some (vI vK hi) ∧ w.frozen? ⟨m, 0, none⟩ = false ∧ w.frozen? ⟨m, 1, none⟩ = false)
  ∧ (r < w.heap.size ∧ w.cell? ⟨r, 0, none⟩ = some (vI vK 0) ∧ w.cell? ⟨r, 1, none⟩ = some (vI vK 0) ∧ w.frozen? ⟨r, 0, none⟩ = false ∧ w.frozen? ⟨r, 1, none⟩ = false)
theorem Boxes.later {m r : Nat} {lo hi : Int} {W w1 : World} (h : Boxes m r lo hi W) (hb : Below W.heap.size W w1) : Boxes m r lo hi w1 := by
  obtain ⟨⟨h0, a0, a1, a2, a3⟩, h1, b0, b1, b2, b3⟩ := h
  have hs := hb.size
  exact ⟨⟨by omega, (hb.cell (p := ⟨m, 0, none⟩) h0).trans a0, (hb.cell (p := ⟨m, 1, none⟩) h0).trans a1, (hb.frozen (p := ⟨m, 0, none⟩) h0).trans a2, (hb.frozen (p := ⟨m, 1, none⟩) h0).trans a3⟩,
    by omega, (hb.cell (p := ⟨r, 0, none⟩) h1).trans b0, (hb.cell (p := ⟨r, 1, none⟩) h1).trans b1, (hb.frozen (p := ⟨r, 0, none⟩) h1).trans b2, (hb.frozen (p := ⟨r, 1, none⟩) h1).trans b3⟩
theorem Boxes.drew {m r : Nat} {lo hi : Int} {W : World} (h : Boxes m r lo hi W) : Boxes m r lo hi W.drew := h
theorem Boxes.put {m r : Nat} {lo hi x y : Int} {W : World} (h : Boxes m r lo hi W) (hmr : m ≠ r) : Boxes m r x y ((W.setCell ⟨m, 0, none⟩ (vI vK x)).setCell ⟨m, 1, none⟩ (vI vK y)) := by
  obtain ⟨⟨h0, a0, a1, a2, a3⟩, h1, b0, b1, b2, b3⟩ := h
  refine ⟨⟨by simp [World.setCell]; exact h0, ?_, ?_, ?_, ?_⟩, by simp [World.setCell]; exact h1, ?_, ?_, ?_, ?_⟩ <;> simp [go_sem, *]

theorem product_raw (al ah bl bh : Int) (ha : -2147483648 ≤ al) (ha2 : al ≤ 2147483648) (hb : -2147483648 ≤ ah) (hb2 : ah ≤ 2147483648) (hc : -2147483648 ≤ bl) (hc2 : bl ≤ 2147483648) (hd : -2147483648 ≤ bh) (hd2 : bh ≤ 2147483648) (w : World) : Calls Tryz.prog 202 #[.agg #[vI vK al, vI vK ah], .agg #[vI vK bl, vI vK bh]] w fun e w' => e = .returned (.agg #[vI vK (min (min (min (wrap64 (al * bl)) (wrap64 (al * bh))) (wrap64 (ah * bl))) (wrap64 (ah * bh))), vI vK (max (max (max (wrap64 (al * bl)) (wrap64 (al * bh))) (wrap64 (ah * bl))) (wrap64 (ah * bh)))]) ∧ Below w.heap.size w w' := by
  have i40 := idx4_0 al ah bl bh
  have i41 := idx4_1 al ah bl bh
  have i42 := idx4_2 al ah bl bh
  have i43 := idx4_3 al ah bl bh
  have i30 := idx3_0 (wrap64 (al * bh)) (wrap64 (ah * bl)) (wrap64 (ah * bh))
  have i31 := idx3_1 (wrap64 (al * bh)) (wrap64 (ah * bl)) (wrap64 (ah * bh))
  have i32 := idx3_2 (wrap64 (al * bh)) (wrap64 (ah * bl)) (wrap64 (ah * bh))
  go_enter Tryz.func202, Tryz.ntmps202
  go_wp2_with (first | (go_at_call 37; refine (one_at _ _).mono ?_; rintro e w' ⟨rfl, rfl⟩) | go_in)
  refine wp_loop_rounds 5 ?_
  repeat any_goals (rw [rounds_succ]; go_wp2_with (first | (go_at_call 37; refine (one_at _ _).mono ?_; rintro e w' ⟨rfl, rfl⟩) | go_in))
  go_loopw [52] (fun ix wr => ∃ (k : Nat) (lo hi : Int), Firsts (wrap64 (al * bl)) (wrap64 (al * bh)) (wrap64 (ah * bl)) (wrap64 (ah * bh)) k lo hi ∧ ix = vI vK k ∧ Below w.heap.size w wr ∧ Boxes (w.heap.size + 1 + 1 + 1 + 1 + 1 + 1 + 1 + 1 + 1) (w.heap.size + 1 + 1) lo hi wr) (fun ix _ => 3 - (intOf ix).toNat)
  case atStart => exact ⟨0, _, _, Or.inl ⟨rfl, rfl, rfl⟩, rfl, by repeat' first | exact bF _ _ | refine bA ?_ ?_ _ | refine bS ?_ ?_ _ | refine bD ?_ | (simp; done) | (simp; omega) | (simp [drew_size]; done) | (simp [drew_size]; omega) | omega, ⟨by (simp; try omega), by simp [go_sem], by simp [go_sem], by simp [go_sem], by simp [go_sem]⟩, by (simp; try omega), by simp [go_sem], by simp [go_sem], by simp [go_sem], by simp [go_sem]⟩
  case round =>
    obtain ⟨k, lo, hi, hk, rfl, hbw, hX⟩ := hrel
    have hmr : w.heap.size + 1 + 1 + 1 + 1 + 1 + 1 + 1 + 1 + 1 ≠ w.heap.size + 1 + 1 := by omega
    have hw1 : w.heap.size ≤ w.heap.size + 1 + 1 + 1 + 1 + 1 + 1 + 1 + 1 + 1 := by omega
    have hw2 : w.heap.size ≤ w.heap.size + 1 + 1 := by omega
    generalize w.heap.size + 1 + 1 + 1 + 1 + 1 + 1 + 1 + 1 + 1 = m at *
    generalize w.heap.size + 1 + 1 = r at *
    obtain ⟨⟨m0, c0, c1, f0, f1⟩, n0, r0, r1, z0, z1⟩ := hX
    have hX : Boxes m r lo hi wr := ⟨⟨m0, c0, c1, f0, f1⟩, n0, r0, r1, z0, z1⟩
    have hsz := hbw.size
    have hsz : w.heap.size ≤ wr.heap.size := hbw.size
    rcases hk with ⟨rfl, hlo, hhi⟩ | ⟨rfl, hlo, hhi⟩ | ⟨rfl, hlo, hhi⟩ | ⟨rfl, rfl, rfl⟩
    · have Hlo : Hid (_ = _) := hlo
      have Hhi : Hid (_ = _) := hhi
      clear hlo hhi
      go_wp2_with (first | (go_at_call 37; go_must (refine (one_is _ _).mono ?_; rintro e w1 ⟨rfl, hb1⟩; have hbw1 : Below w.heap.size w w1 := (by ((refine Below.trans ?_ (hb1.mono ?_)) <;> (first | exact hbw | exact hbw.drew | exact hbw1 | exact hbw1.drew | exact hsz | exact hsz1))); have hX1 : Boxes m r lo hi w1 := Boxes.later (by first | exact hX.drew | exact hX) hb1; have hsz1 : w.heap.size ≤ w1.heap.size := hbw1.size; obtain ⟨⟨m1, c01, c11, f01, f11⟩, n1, r01, r11, z01, z11⟩ := hX1; have hX1 : Boxes m r lo hi w1 := ⟨⟨m1, c01, c11, f01, f11⟩, n1, r01, r11, z01, z11⟩)) | (go_at_call 67; go_must (refine (join_is _ _ _ _ _).mono ?_; rintro e w2 ⟨rfl, hb2⟩; have hbw2 : Below w.heap.size w w2 := (by ((refine Below.trans ?_ (hb2.mono ?_)) <;> (first | exact hbw | exact hbw.drew | exact hbw1 | exact hbw1.drew | exact hsz | exact hsz1))); have hX2 : Boxes m r lo hi w2 := Boxes.later (by first | exact hX1 | exact hX1.drew) hb2; have hsz2 : w.heap.size ≤ w2.heap.size := hbw2.size; obtain ⟨⟨m2, c02, c12, f02, f12⟩, n2, r02, r12, z02, z12⟩ := hX2; have hX2 : Boxes m r lo hi w2 := ⟨⟨m2, c02, c12, f02, f12⟩, n2, r02, r12, z02, z12⟩)))
      go_region_with (first | (go_at_call 37; go_must (refine (one_is _ _).mono ?_; rintro e w1 ⟨rfl, hb1⟩; have hbw1 : Below w.heap.size w w1 := (by ((refine Below.trans ?_ (hb1.mono ?_)) <;> (first | exact hbw | exact hbw.drew | exact hbw1 | exact hbw1.drew | exact hsz | exact hsz1))); have hX1 : Boxes m r lo hi w1 := Boxes.later (by first | exact hX.drew | exact hX) hb1; have hsz1 : w.heap.size ≤ w1.heap.size := hbw1.size; obtain ⟨⟨m1, c01, c11, f01, f11⟩, n1, r01, r11, z01, z11⟩ := hX1; have hX1 : Boxes m r lo hi w1 := ⟨⟨m1, c01, c11, f01, f11⟩, n1, r01, r11, z01, z11⟩)) | (go_at_call 67; go_must (refine (join_is _ _ _ _ _).mono ?_; rintro e w2 ⟨rfl, hb2⟩; have hbw2 : Below w.heap.size w w2 := (by ((refine Below.trans ?_ (hb2.mono ?_)) <;> (first | exact hbw | exact hbw.drew | exact hbw1 | exact hbw1.drew | exact hsz | exact hsz1))); have hX2 : Boxes m r lo hi w2 := Boxes.later (by first | exact hX1 | exact hX1.drew) hb2; have hsz2 : w.heap.size ≤ w2.heap.size := hbw2.size; obtain ⟨⟨m2, c02, c12, f02, f12⟩, n2, r02, r12, z02, z12⟩ := hX2; have hX2 : Boxes m r lo hi w2 := ⟨⟨m2, c02, c12, f02, f12⟩, n2, r02, r12, z02, z12⟩)))
      all_goals go_wp2_with (first | (go_at_call 37; go_must (refine (one_is _ _).mono ?_; rintro e w1 ⟨rfl, hb1⟩; have hbw1 : Below w.heap.size w w1 := (by ((refine Below.trans ?_ (hb1.mono ?_)) <;> (first | exact hbw | exact hbw.drew | exact hbw1 | exact hbw1.drew | exact hsz | exact hsz1))); have hX1 : Boxes m r lo hi w1 := Boxes.later (by first | exact hX.drew | exact hX) hb1; have hsz1 : w.heap.size ≤ w1.heap.size := hbw1.size; obtain ⟨⟨m1, c01, c11, f01, f11⟩, n1, r01, r11, z01, z11⟩ := hX1; have hX1 : Boxes m r lo hi w1 := ⟨⟨m1, c01, c11, f01, f11⟩, n1, r01, r11, z01, z11⟩)) | (go_at_call 67; go_must (refine (join_is _ _ _ _ _).mono ?_; rintro e w2 ⟨rfl, hb2⟩; have hbw2 : Below w.heap.size w w2 := (by ((refine Below.trans ?_ (hb2.mono ?_)) <;> (first | exact hbw | exact hbw.drew | exact hbw1 | exact hbw1.drew | exact hsz | exact hsz1))); have hX2 : Boxes m r lo hi w2 := Boxes.later (by first | exact hX1 | exact hX1.drew) hb2; have hsz2 : w.heap.size ≤ w2.heap.size := hbw2.size; obtain ⟨⟨m2, c02, c12, f02, f12⟩, n2, r02, r12, z02, z12⟩ := hX2; have hX2 : Boxes m r lo hi w2 := ⟨⟨m2, c02, c12, f02, f12⟩, n2, r02, r12, z02, z12⟩)))
      all_goals exact ⟨⟨1, _, _, Or.inr (Or.inl ⟨rfl, by rw [Hlo.out], by rw [Hhi.out]⟩), rfl, (hbw2.setCell hw1 _).setCell hw1 _, hX2.put hmr⟩, by simp [intOf]⟩
    · have Hlo : Hid (_ = _) := hlo
      have Hhi : Hid (_ = _) := hhi
      clear hlo hhi
      go_wp2_with (first | (go_at_call 37; go_must (refine (one_is _ _).mono ?_; rintro e w1 ⟨rfl, hb1⟩; have hbw1 : Below w.heap.size w w1 := (by ((refine Below.trans ?_ (hb1.mono ?_)) <;> (first | exact hbw | exact hbw.drew | exact hbw1 | exact hbw1.drew | exact hsz | exact hsz1))); have hX1 : Boxes m r lo hi w1 := Boxes.later (by first | exact hX.drew | exact hX) hb1; have hsz1 : w.heap.size ≤ w1.heap.size := hbw1.size; obtain ⟨⟨m1, c01, c11, f01, f11⟩, n1, r01, r11, z01, z11⟩ := hX1; have hX1 : Boxes m r lo hi w1 := ⟨⟨m1, c01, c11, f01, f11⟩, n1, r01, r11, z01, z11⟩)) | (go_at_call 67; go_must (refine (join_is _ _ _ _ _).mono ?_; rintro e w2 ⟨rfl, hb2⟩; have hbw2 : Below w.heap.size w w2 := (by ((refine Below.trans ?_ (hb2.mono ?_)) <;> (first | exact hbw | exact hbw.drew | exact hbw1 | exact hbw1.drew | exact hsz | exact hsz1))); have hX2 : Boxes m r lo hi w2 := Boxes.later (by first | exact hX1 | exact hX1.drew) hb2; have hsz2 : w.heap.size ≤ w2.heap.size := hbw2.size; obtain ⟨⟨m2, c02, c12, f02, f12⟩, n2, r02, r12, z02, z12⟩ := hX2; have hX2 : Boxes m r lo hi w2 := ⟨⟨m2, c02, c12, f02, f12⟩, n2, r02, r12, z02, z12⟩)))
      go_region_with (first | (go_at_call 37; go_must (refine (one_is _ _).mono ?_; rintro e w1 ⟨rfl, hb1⟩; have hbw1 : Below w.heap.size w w1 := (by ((refine Below.trans ?_ (hb1.mono ?_)) <;> (first | exact hbw | exact hbw.drew | exact hbw1 | exact hbw1.drew | exact hsz | exact hsz1))); have hX1 : Boxes m r lo hi w1 := Boxes.later (by first | exact hX.drew | exact hX) hb1; have hsz1 : w.heap.size ≤ w1.heap.size := hbw1.size; obtain ⟨⟨m1, c01, c11, f01, f11⟩, n1, r01, r11, z01, z11⟩ := hX1; have hX1 : Boxes m r lo hi w1 := ⟨⟨m1, c01, c11, f01, f11⟩, n1, r01, r11, z01, z11⟩)) | (go_at_call 67; go_must (refine (join_is _ _ _ _ _).mono ?_; rintro e w2 ⟨rfl, hb2⟩; have hbw2 : Below w.heap.size w w2 := (by ((refine Below.trans ?_ (hb2.mono ?_)) <;> (first | exact hbw | exact hbw.drew | exact hbw1 | exact hbw1.drew | exact hsz | exact hsz1))); have hX2 : Boxes m r lo hi w2 := Boxes.later (by first | exact hX1 | exact hX1.drew) hb2; have hsz2 : w.heap.size ≤ w2.heap.size := hbw2.size; obtain ⟨⟨m2, c02, c12, f02, f12⟩, n2, r02, r12, z02, z12⟩ := hX2; have hX2 : Boxes m r lo hi w2 := ⟨⟨m2, c02, c12, f02, f12⟩, n2, r02, r12, z02, z12⟩)))
      all_goals go_wp2_with (first | (go_at_call 37; go_must (refine (one_is _ _).mono ?_; rintro e w1 ⟨rfl, hb1⟩; have hbw1 : Below w.heap.size w w1 := (by ((refine Below.trans ?_ (hb1.mono ?_)) <;> (first | exact hbw | exact hbw.drew | exact hbw1 | exact hbw1.drew | exact hsz | exact hsz1))); have hX1 : Boxes m r lo hi w1 := Boxes.later (by first | exact hX.drew | exact hX) hb1; have hsz1 : w.heap.size ≤ w1.heap.size := hbw1.size; obtain ⟨⟨m1, c01, c11, f01, f11⟩, n1, r01, r11, z01, z11⟩ := hX1; have hX1 : Boxes m r lo hi w1 := ⟨⟨m1, c01, c11, f01, f11⟩, n1, r01, r11, z01, z11⟩)) | (go_at_call 67; go_must (refine (join_is _ _ _ _ _).mono ?_; rintro e w2 ⟨rfl, hb2⟩; have hbw2 : Below w.heap.size w w2 := (by ((refine Below.trans ?_ (hb2.mono ?_)) <;> (first | exact hbw | exact hbw.drew | exact hbw1 | exact hbw1.drew | exact hsz | exact hsz1))); have hX2 : Boxes m r lo hi w2 := Boxes.later (by first | exact hX1 | exact hX1.drew) hb2; have hsz2 : w.heap.size ≤ w2.heap.size := hbw2.size; obtain ⟨⟨m2, c02, c12, f02, f12⟩, n2, r02, r12, z02, z12⟩ := hX2; have hX2 : Boxes m r lo hi w2 := ⟨⟨m2, c02, c12, f02, f12⟩, n2, r02, r12, z02, z12⟩)))
      all_goals exact ⟨⟨2, _, _, Or.inr (Or.inr (Or.inl ⟨rfl, by rw [Hlo.out], by rw [Hhi.out]⟩)), rfl, (hbw2.setCell hw1 _).setCell hw1 _, hX2.put hmr⟩, by simp [intOf]⟩
    · have Hlo : Hid (_ = _) := hlo
      have Hhi : Hid (_ = _) := hhi
      clear hlo hhi
      go_wp2_with (first | (go_at_call 37; go_must (refine (one_is _ _).mono ?_; rintro e w1 ⟨rfl, hb1⟩; have hbw1 : Below w.heap.size w w1 := (by ((refine Below.trans ?_ (hb1.mono ?_)) <;> (first | exact hbw | exact hbw.drew | exact hbw1 | exact hbw1.drew | exact hsz | exact hsz1))); have hX1 : Boxes m r lo hi w1 := Boxes.later (by first | exact hX.drew | exact hX) hb1; have hsz1 : w.heap.size ≤ w1.heap.size := hbw1.size; obtain ⟨⟨m1, c01, c11, f01, f11⟩, n1, r01, r11, z01, z11⟩ := hX1; have hX1 : Boxes m r lo hi w1 := ⟨⟨m1, c01, c11, f01, f11⟩, n1, r01, r11, z01, z11⟩)) | (go_at_call 67; go_must (refine (join_is _ _ _ _ _).mono ?_; rintro e w2 ⟨rfl, hb2⟩; have hbw2 : Below w.heap.size w w2 := (by ((refine Below.trans ?_ (hb2.mono ?_)) <;> (first | exact hbw | exact hbw.drew | exact hbw1 | exact hbw1.drew | exact hsz | exact hsz1))); have hX2 : Boxes m r lo hi w2 := Boxes.later (by first | exact hX1 | exact hX1.drew) hb2; have hsz2 : w.heap.size ≤ w2.heap.size := hbw2.size; obtain ⟨⟨m2, c02, c12, f02, f12⟩, n2, r02, r12, z02, z12⟩ := hX2; have hX2 : Boxes m r lo hi w2 := ⟨⟨m2, c02, c12, f02, f12⟩, n2, r02, r12, z02, z12⟩)))
      go_region_with (first | (go_at_call 37; go_must (refine (one_is _ _).mono ?_; rintro e w1 ⟨rfl, hb1⟩; have hbw1 : Below w.heap.size w w1 := (by ((refine Below.trans ?_ (hb1.mono ?_)) <;> (first | exact hbw | exact hbw.drew | exact hbw1 | exact hbw1.drew | exact hsz | exact hsz1))); have hX1 : Boxes m r lo hi w1 := Boxes.later (by first | exact hX.drew | exact hX) hb1; have hsz1 : w.heap.size ≤ w1.heap.size := hbw1.size; obtain ⟨⟨m1, c01, c11, f01, f11⟩, n1, r01, r11, z01, z11⟩ := hX1; have hX1 : Boxes m r lo hi w1 := ⟨⟨m1, c01, c11, f01, f11⟩, n1, r01, r11, z01, z11⟩)) | (go_at_call 67; go_must (refine (join_is _ _ _ _ _).mono ?_; rintro e w2 ⟨rfl, hb2⟩; have hbw2 : Below w.heap.size w w2 := (by ((refine Below.trans ?_ (hb2.mono ?_)) <;> (first | exact hbw | exact hbw.drew | exact hbw1 | exact hbw1.drew | exact hsz | exact hsz1))); have hX2 : Boxes m r lo hi w2 := Boxes.later (by first | exact hX1 | exact hX1.drew) hb2; have hsz2 : w.heap.size ≤ w2.heap.size := hbw2.size; obtain ⟨⟨m2, c02, c12, f02, f12⟩, n2, r02, r12, z02, z12⟩ := hX2; have hX2 : Boxes m r lo hi w2 := ⟨⟨m2, c02, c12, f02, f12⟩, n2, r02, r12, z02, z12⟩)))
      all_goals go_wp2_with (first | (go_at_call 37; go_must (refine (one_is _ _).mono ?_; rintro e w1 ⟨rfl, hb1⟩; have hbw1 : Below w.heap.size w w1 := (by ((refine Below.trans ?_ (hb1.mono ?_)) <;> (first | exact hbw | exact hbw.drew | exact hbw1 | exact hbw1.drew | exact hsz | exact hsz1))); have hX1 : Boxes m r lo hi w1 := Boxes.later (by first | exact hX.drew | exact hX) hb1; have hsz1 : w.heap.size ≤ w1.heap.size := hbw1.size; obtain ⟨⟨m1, c01, c11, f01, f11⟩, n1, r01, r11, z01, z11⟩ := hX1; have hX1 : Boxes m r lo hi w1 := ⟨⟨m1, c01, c11, f01, f11⟩, n1, r01, r11, z01, z11⟩)) | (go_at_call 67; go_must (refine (join_is _ _ _ _ _).mono ?_; rintro e w2 ⟨rfl, hb2⟩; have hbw2 : Below w.heap.size w w2 := (by ((refine Below.trans ?_ (hb2.mono ?_)) <;> (first | exact hbw | exact hbw.drew | exact hbw1 | exact hbw1.drew | exact hsz | exact hsz1))); have hX2 : Boxes m r lo hi w2 := Boxes.later (by first | exact hX1 | exact hX1.drew) hb2; have hsz2 : w.heap.size ≤ w2.heap.size := hbw2.size; obtain ⟨⟨m2, c02, c12, f02, f12⟩, n2, r02, r12, z02, z12⟩ := hX2; have hX2 : Boxes m r lo hi w2 := ⟨⟨m2, c02, c12, f02, f12⟩, n2, r02, r12, z02, z12⟩)))
      all_goals exact ⟨⟨3, _, _, Or.inr (Or.inr (Or.inr ⟨rfl, by rw [Hlo.out], by rw [Hhi.out]⟩)), rfl, (hbw2.setCell hw1 _).setCell hw1 _, hX2.put hmr⟩, by simp [intOf]⟩
    · go_wp2_with (first | (go_at_call 37; go_must (refine (one_is _ _).mono ?_; rintro e w1 ⟨rfl, hb1⟩; have hbw1 : Below w.heap.size w w1 := (by ((refine Below.trans ?_ (hb1.mono ?_)) <;> (first | exact hbw | exact hbw.drew | exact hbw1 | exact hbw1.drew | exact hsz | exact hsz1))); have hX1 : Boxes m r lo hi w1 := Boxes.later (by first | exact hX.drew | exact hX) hb1; have hsz1 : w.heap.size ≤ w1.heap.size := hbw1.size; obtain ⟨⟨m1, c01, c11, f01, f11⟩, n1, r01, r11, z01, z11⟩ := hX1; have hX1 : Boxes m r lo hi w1 := ⟨⟨m1, c01, c11, f01, f11⟩, n1, r01, r11, z01, z11⟩)) | (go_at_call 67; go_must (refine (join_is _ _ _ _ _).mono ?_; rintro e w2 ⟨rfl, hb2⟩; have hbw2 : Below w.heap.size w w2 := (by ((refine Below.trans ?_ (hb2.mono ?_)) <;> (first | exact hbw | exact hbw.drew | exact hbw1 | exact hbw1.drew | exact hsz | exact hsz1))); have hX2 : Boxes m r lo hi w2 := Boxes.later (by first | exact hX1 | exact hX1.drew) hb2; have hsz2 : w.heap.size ≤ w2.heap.size := hbw2.size; obtain ⟨⟨m2, c02, c12, f02, f12⟩, n2, r02, r12, z02, z12⟩ := hX2; have hX2 : Boxes m r lo hi w2 := ⟨⟨m2, c02, c12, f02, f12⟩, n2, r02, r12, z02, z12⟩)))
      exact bodyPost_ret (v := .agg #[vI vK (min (min (min (wrap64 (al * bl)) (wrap64 (al * bh))) (wrap64 (ah * bl))) (wrap64 (ah * bh))), vI vK (max (max (max (wrap64 (al * bl)) (wrap64 (al * bh))) (wrap64 (ah * bl))) (wrap64 (ah * bh)))]) (by simp [results, Tryz.results202, go_sem, r0, r1]) rfl ⟨rfl, (hbw.setCell hw2 _).setCell hw2 _⟩
theorem has_small (n : Int) (w : World) : Calls Tryz.prog 22 #[.agg #[vI vK (-2147483648), vI vK 2147483648], vI vK n] w fun e w' => e = .returned (.bool (smallB n)) ∧ w' = w.alloc (.cells #[vI vK (-2147483648), vI vK 2147483648] 43) := by
  unfold smallB
  by_cases h1 : -2147483648 ≤ n
  · go_enter Tryz.func22, Tryz.ntmps22
    go_wp2
    go_ret
    exact ⟨ret_bool (by simp [h1]), rfl⟩
  · have h2 : decide (-2147483648 ≤ n) = false := by simpa using h1
    rw [h2, Bool.false_and]
    go_enter Tryz.func22, Tryz.ntmps22
    go_wp2
    go_ret
    exact ⟨rfl, rfl⟩
theorem product_no0 (al ah bl bh : Int) (h0 : smallB al = false) (w : World) : Calls Tryz.prog 202 #[.agg #[vI vK al, vI vK ah], .agg #[vI vK bl, vI vK bh]] w fun e w' => e = .returned (.agg #[vI vK (-9223372036854775808), vI vK 9223372036854775807]) ∧ Below w.heap.size w w' := by
  have i40 := idx4_0 al ah bl bh
  have i41 := idx4_1 al ah bl bh
  have i42 := idx4_2 al ah bl bh
  have i43 := idx4_3 al ah bl bh
  go_enter Tryz.func202, Tryz.ntmps202
  go_wp2_with (first | (go_at_call 22; refine (has_small _ _).mono ?_; rintro e w' ⟨rfl, rfl⟩) | (go_at_call 151; refine (all_is _).mono ?_; rintro e w1 ⟨rfl, hb1⟩; obtain ⟨hcl1, hfr1⟩ := old_cells hb1; have hs1 := hb1.size; (try simp only [drew_size] at hs1); (try simp at hs1); have hbw1 : Below w.heap.size w w1 := by ((refine Below.trans ?_ (hb1.mono ?_)) <;> repeat' first | exact bF _ _ | refine bA ?_ ?_ _ | refine bS ?_ ?_ _ | refine bD ?_ | (simp; done) | (simp; omega) | (simp [drew_size]; done) | (simp [drew_size]; omega) | omega)))
  refine wp_loop_rounds 5 ?_
  repeat any_goals (rw [rounds_succ]; go_wp2_with (first | (go_at_call 22; refine (has_small _ _).mono ?_; rintro e w' ⟨rfl, rfl⟩) | (go_at_call 151; refine (all_is _).mono ?_; rintro e w1 ⟨rfl, hb1⟩; obtain ⟨hcl1, hfr1⟩ := old_cells hb1; have hs1 := hb1.size; (try simp only [drew_size] at hs1); (try simp at hs1); have hbw1 : Below w.heap.size w w1 := by ((refine Below.trans ?_ (hb1.mono ?_)) <;> repeat' first | exact bF _ _ | refine bA ?_ ?_ _ | refine bS ?_ ?_ _ | refine bD ?_ | (simp; done) | (simp; omega) | (simp [drew_size]; done) | (simp [drew_size]; omega) | omega))))
  all_goals exact bodyPost_ret (v := .agg #[vI vK (-9223372036854775808), vI vK 9223372036854775807]) (by simp [results, Tryz.results202, go_sem, hcl1]) rfl ⟨rfl, by repeat' first | exact bF _ _ | exact hbw1 | refine bA ?_ ?_ _ | refine bS ?_ ?_ _ | refine bD ?_ | (simp; done) | (simp; omega) | (simp [drew_size]; done) | (simp [drew_size]; omega) | omega⟩
theorem product_no1 (al ah bl bh : Int) (h0 : smallB al = true) (h1 : smallB ah = false) (w : World) : Calls Tryz.prog 202 #[.agg #[vI vK al, vI vK ah], .agg #[vI vK bl, vI vK bh]] w fun e w' => e = .returned (.agg #[vI vK (-9223372036854775808), vI vK 9223372036854775807]) ∧ Below w.heap.size w w' := by
  have i40 := idx4_0 al ah bl bh
  have i41 := idx4_1 al ah bl bh
  have i42 := idx4_2 al ah bl bh
  have i43 := idx4_3 al ah bl bh
  go_enter Tryz.func202, Tryz.ntmps202
  go_wp2_with (first | (go_at_call 22; refine (has_small _ _).mono ?_; rintro e w' ⟨rfl, rfl⟩) | (go_at_call 151; refine (all_is _).mono ?_; rintro e w1 ⟨rfl, hb1⟩; obtain ⟨hcl1, hfr1⟩ := old_cells hb1; have hs1 := hb1.size; (try simp only [drew_size] at hs1); (try simp at hs1); have hbw1 : Below w.heap.size w w1 := by ((refine Below.trans ?_ (hb1.mono ?_)) <;> repeat' first | exact bF _ _ | refine bA ?_ ?_ _ | refine bS ?_ ?_ _ | refine bD ?_ | (simp; done) | (simp; omega) | (simp [drew_size]; done) | (simp [drew_size]; omega) | omega)))
  refine wp_loop_rounds 5 ?_
  repeat any_goals (rw [rounds_succ]; go_wp2_with (first | (go_at_call 22; refine (has_small _ _).mono ?_; rintro e w' ⟨rfl, rfl⟩) | (go_at_call 151; refine (all_is _).mono ?_; rintro e w1 ⟨rfl, hb1⟩; obtain ⟨hcl1, hfr1⟩ := old_cells hb1; have hs1 := hb1.size; (try simp only [drew_size] at hs1); (try simp at hs1); have hbw1 : Below w.heap.size w w1 := by ((refine Below.trans ?_ (hb1.mono ?_)) <;> repeat' first | exact bF _ _ | refine bA ?_ ?_ _ | refine bS ?_ ?_ _ | refine bD ?_ | (simp; done) | (simp; omega) | (simp [drew_size]; done) | (simp [drew_size]; omega) | omega))))
  all_goals exact bodyPost_ret (v := .agg #[vI vK (-9223372036854775808), vI vK 9223372036854775807]) (by simp [results, Tryz.results202, go_sem, hcl1]) rfl ⟨rfl, by repeat' first | exact bF _ _ | exact hbw1 | refine bA ?_ ?_ _ | refine bS ?_ ?_ _ | refine bD ?_ | (simp; done) | (simp; omega) | (simp [drew_size]; done) | (simp [drew_size]; omega) | omega⟩
theorem product_no2 (al ah bl bh : Int) (h0 : smallB al = true) (h1 : smallB ah = true) (h2 : smallB bl = false) (w : World) : Calls Tryz.prog 202 #[.agg #[vI vK al, vI vK ah], .agg #[vI vK bl, vI vK bh]] w fun e w' => e = .returned (.agg #[vI vK (-9223372036854775808), vI vK 9223372036854775807]) ∧ Below w.heap.size w w' := by
  have i40 := idx4_0 al ah bl bh
  have i41 := idx4_1 al ah bl bh
  have i42 := idx4_2 al ah bl bh
  have i43 := idx4_3 al ah bl bh
  go_enter Tryz.func202, Tryz.ntmps202
  go_wp2_with (first | (go_at_call 22; refine (has_small _ _).mono ?_; rintro e w' ⟨rfl, rfl⟩) | (go_at_call 151; refine (all_is _).mono ?_; rintro e w1 ⟨rfl, hb1⟩; obtain ⟨hcl1, hfr1⟩ := old_cells hb1; have hs1 := hb1.size; (try simp only [drew_size] at hs1); (try simp at hs1); have hbw1 : Below w.heap.size w w1 := by ((refine Below.trans ?_ (hb1.mono ?_)) <;> repeat' first | exact bF _ _ | refine bA ?_ ?_ _ | refine bS ?_ ?_ _ | refine bD ?_ | (simp; done) | (simp; omega) | (simp [drew_size]; done) | (simp [drew_size]; omega) | omega)))
  refine wp_loop_rounds 5 ?_
  repeat any_goals (rw [rounds_succ]; go_wp2_with (first | (go_at_call 22; refine (has_small _ _).mono ?_; rintro e w' ⟨rfl, rfl⟩) | (go_at_call 151; refine (all_is _).mono ?_; rintro e w1 ⟨rfl, hb1⟩; obtain ⟨hcl1, hfr1⟩ := old_cells hb1; have hs1 := hb1.size; (try simp only [drew_size] at hs1); (try simp at hs1); have hbw1 : Below w.heap.size w w1 := by ((refine Below.trans ?_ (hb1.mono ?_)) <;> repeat' first | exact bF _ _ | refine bA ?_ ?_ _ | refine bS ?_ ?_ _ | refine bD ?_ | (simp; done) | (simp; omega) | (simp [drew_size]; done) | (simp [drew_size]; omega) | omega))))
  all_goals exact bodyPost_ret (v := .agg #[vI vK (-9223372036854775808), vI vK 9223372036854775807]) (by simp [results, Tryz.results202, go_sem, hcl1]) rfl ⟨rfl, by repeat' first | exact bF _ _ | exact hbw1 | refine bA ?_ ?_ _ | refine bS ?_ ?_ _ | refine bD ?_ | (simp; done) | (simp; omega) | (simp [drew_size]; done) | (simp [drew_size]; omega) | omega⟩
theorem product_no3 (al ah bl bh : Int) (h0 : smallB al = true) (h1 : smallB ah = true) (h2 : smallB bl = true) (h3 : smallB bh = false) (w : World) : Calls Tryz.prog 202 #[.agg #[vI vK al, vI vK ah], .agg #[vI vK bl, vI vK bh]] w fun e w' => e = .returned (.agg #[vI vK (-9223372036854775808), vI vK 9223372036854775807]) ∧ Below w.heap.size w w' := by
  have i40 := idx4_0 al ah bl bh
  have i41 := idx4_1 al ah bl bh
  have i42 := idx4_2 al ah bl bh
  have i43 := idx4_3 al ah bl bh
  go_enter Tryz.func202, Tryz.ntmps202
  go_wp2_with (first | (go_at_call 22; refine (has_small _ _).mono ?_; rintro e w' ⟨rfl, rfl⟩) | (go_at_call 151; refine (all_is _).mono ?_; rintro e w1 ⟨rfl, hb1⟩; obtain ⟨hcl1, hfr1⟩ := old_cells hb1; have hs1 := hb1.size; (try simp only [drew_size] at hs1); (try simp at hs1); have hbw1 : Below w.heap.size w w1 := by ((refine Below.trans ?_ (hb1.mono ?_)) <;> repeat' first | exact bF _ _ | refine bA ?_ ?_ _ | refine bS ?_ ?_ _ | refine bD ?_ | (simp; done) | (simp; omega) | (simp [drew_size]; done) | (simp [drew_size]; omega) | omega)))
  refine wp_loop_rounds 5 ?_
  repeat any_goals (rw [rounds_succ]; go_wp2_with (first | (go_at_call 22; refine (has_small _ _).mono ?_; rintro e w' ⟨rfl, rfl⟩) | (go_at_call 151; refine (all_is _).mono ?_; rintro e w1 ⟨rfl, hb1⟩; obtain ⟨hcl1, hfr1⟩ := old_cells hb1; have hs1 := hb1.size; (try simp only [drew_size] at hs1); (try simp at hs1); have hbw1 : Below w.heap.size w w1 := by ((refine Below.trans ?_ (hb1.mono ?_)) <;> repeat' first | exact bF _ _ | refine bA ?_ ?_ _ | refine bS ?_ ?_ _ | refine bD ?_ | (simp; done) | (simp; omega) | (simp [drew_size]; done) | (simp [drew_size]; omega) | omega))))
  all_goals exact bodyPost_ret (v := .agg #[vI vK (-9223372036854775808), vI vK 9223372036854775807]) (by simp [results, Tryz.results202, go_sem, hcl1]) rfl ⟨rfl, by repeat' first | exact bF _ _ | exact hbw1 | refine bA ?_ ?_ _ | refine bS ?_ ?_ _ | refine bD ?_ | (simp; done) | (simp; omega) | (simp [drew_size]; done) | (simp [drew_size]; omega) | omega⟩
theorem product_is (al ah bl bh : Int) (w : World) : Calls Tryz.prog 202 #[.agg #[vI vK al, vI vK ah], .agg #[vI vK bl, vI vK bh]] w fun e w' => e = .returned (.agg #[vI vK ((bdV 4 al ah bl bh).1), vI vK ((bdV 4 al ah bl bh).2)]) ∧ Below w.heap.size w w' := by
  rw [bdV_4]
  cases h0 : smallB al
  · exact product_no0 al ah bl bh h0 w
  cases h1 : smallB ah
  · exact product_no1 al ah bl bh h0 h1 w
  cases h2 : smallB bl
  · exact product_no2 al ah bl bh h0 h1 h2 w
  cases h3 : smallB bh
  · exact product_no3 al ah bl bh h0 h1 h2 h3 w
  have k0 := (small_iff _).1 h0
  have k1 := (small_iff _).1 h1
  have k2 := (small_iff _).1 h2
  have k3 := (small_iff _).1 h3
  have e := product_raw al ah bl bh k0.1 k0.2 k1.1 k1.2 k2.1 k2.2 k3.1 k3.2 w
  rw [small_mul h0 h2, small_mul h0 h3, small_mul h1 h2, small_mul h1 h3] at e
  exact e
end Go.Proofs.YtednmkhdehlojaaGreatDoor
