/-
  What the document's reads returns: the step that words tell, or that they tell none; the world below is as it was. Conditions: the tables lie in memory, the library's two errors are errors, words are short.
-/
import Derived.Test.YtegeiicginpdbaaGreatDoorDocPlace
import Derived.Test.YtegeiicginpdbaaGreatDoorDocStep
import Derived.Deep.CutBlock
import Derived.Deep.DeepCutAuto
namespace Go.Proofs.YtegeiicginpdbaaGreatDoor
open Go.ChangeShapes Go.WideShapes Go.ChangeAt Go.RowKit
variable {ex : Ext}
/-! ### The document's names -/
def wordB (i : Nat) : ByteArray := if i = 0 then ⟨#[45]⟩ else nameB i
def calledB (i : Nat) : ByteArray := if i = 0 then ⟨#[45]⟩ else callB i
structure DocTabs (w : World) : Prop where
  words : ∀ i, i < 29 → w.cell? ⟨0, i, none⟩ = some (.string (wordB i))
  called : ∀ i, i < 4 → w.cell? ⟨1, i, none⟩ = some (.string (calledB i))
theorem DocTabs.on {w w' : World} {B : Nat} (h : DocTabs w) (hb : Below B w w') (hB : 14 ≤ B) : DocTabs w' := by
  refine ⟨fun i hi => ?_, fun i hi => ?_⟩
  · rw [hb.cell (p := ⟨0, i, none⟩) (by show 0 < B; omega)]; exact h.words i hi
  · rw [hb.cell (p := ⟨1, i, none⟩) (by show 1 < B; omega)]; exact h.called i hi
def wordsV : Array Value := ((List.range 29).map fun i => Value.string (wordB i)).toArray
def calledV : Array Value := ((List.range 4).map fun i => Value.string (calledB i)).toArray
theorem words_at (k : Nat) (h : k < 29) : wordsV[k]? = some (.string (wordB k)) := by
  simp [wordsV, List.getElem?_range h]
theorem called_at (k : Nat) (h : k < 4) : calledV[k]? = some (.string (calledB k)) := by
  simp [calledV, List.getElem?_range h]
theorem load_words {w : World} (hT : DocTabs w) : (loadVar 110 ⟨0, 0, none⟩).run Tryz.prog w = .ok (.agg wordsV) w := by
  refine run_loadVar_mid w _ 0 _ ((List.range 29).map fun i => Value.string (wordB i)) _ (fun j v hv => ?_) Tryz.underlying110 rfl (by kernel_rfl)
  have hj : j < 29 := by
    have h0 := (List.getElem?_eq_some_iff.1 hv).1
    rw [List.length_map, List.length_range] at h0; exact h0
  have h1 := words_at j hj
  have h2 : wordsV[j]? = some v := by simpa [wordsV] using hv
  rw [Nat.zero_add, hT.words j hj, ← h1, h2]
theorem load_called {w : World} (hT : DocTabs w) : (loadVar 117 ⟨1, 0, none⟩).run Tryz.prog w = .ok (.agg calledV) w := by
  refine run_loadVar_mid w _ 0 _ ((List.range 4).map fun i => Value.string (calledB i)) _ (fun j v hv => ?_) Tryz.underlying117 rfl (by kernel_rfl)
  have hj : j < 4 := by
    have h0 := (List.getElem?_eq_some_iff.1 hv).1
    rw [List.length_map, List.length_range] at h0; exact h0
  have h1 := called_at j hj
  have h2 : calledV[j]? = some v := by simpa [calledV] using hv
  rw [Nat.zero_add, hT.called j hj, ← h1, h2]
theorem load_words_list {ops : Array Oper} {rest : List Oper} {d : Option Tmp} {ty : TypeId} {pos : String} {af : _} {a : Act} {w : World} {Q : Exit → Act → World → Prop} (hT : DocTabs w)
    (h : wpList Tryz.prog ops Q rest (a.put d (.agg wordsV)) w) : wpList Tryz.prog ops Q ({ dst := d, op := .load 110 (.global 0), type := ty, pos := pos, after := af, guard := none } :: rest) a w :=
  by
  refine wpList_plain rfl ?_
  intro K hK
  have h2 := hK _ _ h
  unfold Oper.wp execOp
  simp only [Act.eval, Instr.loadAt, Instr.sureAddr, Sem.run_bind, Sem.run_pure, Result.andThen_ok, load_words hT]
  exact h2
theorem load_called_list {ops : Array Oper} {rest : List Oper} {d : Option Tmp} {ty : TypeId} {pos : String} {af : _} {a : Act} {w : World} {Q : Exit → Act → World → Prop} (hT : DocTabs w)
    (h : wpList Tryz.prog ops Q rest (a.put d (.agg calledV)) w) : wpList Tryz.prog ops Q ({ dst := d, op := .load 117 (.global 1), type := ty, pos := pos, after := af, guard := none } :: rest) a w :=
  by
  refine wpList_plain rfl ?_
  intro K hK
  have h2 := hK _ _ h
  unfold Oper.wp execOp
  simp only [Act.eval, Instr.loadAt, Instr.sureAddr, Sem.run_bind, Sem.run_pure, Result.andThen_ok, load_called hT]
  exact h2
theorem index_words (k : Nat) (h : k < 29) (w : World) : (Instr.index 110 (.agg wordsV) (.int .i64 k)).run Tryz.prog w = .ok (.string (wordB k)) w := by
  have h1 := words_at k h
  simp [Instr.index, run_underlying Tryz.underlying110, asIntOf, part, sizeOf, go_sem, size_string, h, h1]
theorem index_called (k : Nat) (h : k < 4) (w : World) : (Instr.index 117 (.agg calledV) (.int .i64 k)).run Tryz.prog w = .ok (.string (calledB k)) w := by
  have h1 := called_at k h
  simp [Instr.index, run_underlying Tryz.underlying117, asIntOf, part, sizeOf, go_sem, size_string, h, h1]
/-! ### Words in memory -/
structure WordsAt (w : World) (g o : Nat) (bs : List ByteArray) : Prop where
  lt : g < w.heap.size
  cell : ∀ i (h : i < bs.length), w.cell? ⟨g, o + i, none⟩ = some (.string (bs[i]'h))
theorem word_code {k : Nat} (h : ¬ k = 0) : wordB k = nameB k := if_neg h
theorem code_first {wr : World} {B k : Nat} {b : ByteArray} (hk : k = 0) (h : StepIs wr B { St.zero with c := if codeOf b < k then (codeOf b : Nat) else 0 }) : StepIs wr B { St.zero with c := if codeOf b < k + 1 then (codeOf b : Nat) else 0 } := by
  subst hk
  rw [if_neg (by omega)] at h
  by_cases hc : codeOf b < 0 + 1
  · rw [if_pos hc, show codeOf b = 0 by omega]; exact h
  · rw [if_neg hc]; exact h
theorem code_next {wr : World} {B k : Nat} {b : ByteArray} (hc : codeOf b ≠ k) (h : StepIs wr B { St.zero with c := if codeOf b < k then (codeOf b : Nat) else 0 }) : StepIs wr B { St.zero with c := if codeOf b < k + 1 then (codeOf b : Nat) else 0 } := by
  by_cases hk : codeOf b < k
  · rw [if_pos hk] at h; rw [if_pos (by omega)]; exact h
  · rw [if_neg hk] at h; rw [if_neg (by omega)]; exact h
theorem code_here {k : Nat} {b : ByteArray} (hc : codeOf b = k) : (St.cells { St.zero with c := if codeOf b < k then (codeOf b : Nat) else 0 }).setIfInBounds 0 (.int .i64 (k : Int)) = St.cells { St.zero with c := if codeOf b < k + 1 then (codeOf b : Nat) else 0 } := by
  rw [if_pos (show codeOf b < k + 1 by omega), hc]; rfl
theorem StepIs.all {w : World} {B : Nat} {x : St} (h : StepIs w B x) : w.cell? ⟨B, 0, none⟩ = some (.int .i64 x.c) ∧ w.cell? ⟨B, 1, none⟩ = some (.int .i64 x.d) ∧ w.cell? ⟨B, 2, none⟩ = some (.int .i64 x.s) ∧ w.cell? ⟨B, 3, none⟩ = some (.bool x.r) ∧ w.cell? ⟨B, 4, none⟩ = some (.int .i64 x.o) ∧ w.cell? ⟨B, 5, none⟩ = some (.int .i64 x.n)
    ∧ w.frozen? ⟨B, 0, none⟩ = false ∧ w.frozen? ⟨B, 1, none⟩ = false ∧ w.frozen? ⟨B, 2, none⟩ = false ∧ w.frozen? ⟨B, 3, none⟩ = false ∧ w.frozen? ⟨B, 4, none⟩ = false ∧ w.frozen? ⟨B, 5, none⟩ = false ∧ B < w.heap.size :=
  ⟨h.cell 0, h.cell 1, h.cell 2, h.cell 3, h.cell 4, h.cell 5, h.frozen 0, h.frozen 1, h.frozen 2, h.frozen 3, h.frozen 4, h.frozen 5, h.lt⟩
theorem StepIs.again {w : World} {B : Nat} {x : St} (h : StepIs w B x) : StepIs ((((((w.setCell ⟨B, 0, none⟩ (.int .i64 x.c)).setCell ⟨B, 1, none⟩ (.int .i64 x.d)).setCell ⟨B, 2, none⟩ (.int .i64 x.s)).setCell ⟨B, 3, none⟩ (.bool x.r)).setCell ⟨B, 4, none⟩ (.int .i64 x.o)).setCell ⟨B, 5, none⟩ (.int .i64 x.n)) B x :=
  (((((h.set 0 _ rfl).set 1 _ rfl).set 2 _ rfl).set 3 _ rfl).set 4 _ rfl).set 5 _ rfl
theorem reads_results {tmps : Array Value} {W : World} {B : Nat} {x : St} {v : Bool} (h2 : tmps[2]?.getD undef = .pointer (some ⟨B, 0, none⟩)) (h3 : tmps[3]?.getD undef = .bool v) (h : StepIs W B x) : (results Tryz.f24 tmps).run Tryz.prog W = .ok (.tuple #[.agg x.cells, .bool v]) W := by
  obtain ⟨q0, q1, q2, q3, q4, q5, _⟩ := h.all
  simp [results, Tryz.results24, go_sem, h2, h3, q0, q1, q2, q3, q4, q5, St.cells]
theorem reads_end {tmps : Array Value} {w wc : World} {x : St} {v : Bool} {r : Option St} (h2 : tmps[2]?.getD undef = .pointer (some ⟨w.heap.size, 0, none⟩)) (h3 : tmps[3]?.getD undef = .bool v) (hS : StepIs wc w.heap.size x) (hF : Fine ex w wc) (hv : v = r.isSome) (hx : ∀ y, r = some y → x = y) :
    bodyPost Tryz.prog Tryz.f24 (fun e w' => (∃ y : St, (∀ z, r = some z → y = z) ∧ e = .returned (.tuple #[.agg y.cells, .bool r.isSome])) ∧ Below w.heap.size w w') Exit.ret { tmps := tmps, defers := [] }
      ((((((wc.setCell ⟨w.heap.size, 0, none⟩ (.int .i64 x.c)).setCell ⟨w.heap.size, 1, none⟩ (.int .i64 x.d)).setCell ⟨w.heap.size, 2, none⟩ (.int .i64 x.s)).setCell ⟨w.heap.size, 3, none⟩ (.bool x.r)).setCell ⟨w.heap.size, 4, none⟩ (.int .i64 x.o)).setCell ⟨w.heap.size, 5, none⟩ (.int .i64 x.n)) :=
  bodyPost_ret (v := .tuple #[.agg x.cells, .bool v]) (reads_results h2 h3 hS.again) rfl
    ⟨⟨x, hx, by rw [hv]⟩, (((((hF.bel.setCell (Nat.le_refl _) _).setCell (Nat.le_refl _) _).setCell (Nat.le_refl _) _).setCell (Nat.le_refl _) _).setCell (Nat.le_refl _) _).setCell (Nat.le_refl _) _⟩
theorem Fine.set {w W : World} (h : Fine ex w W) (hr : 14 ≤ w.heap.size) (i : Nat) (v : Value) : Fine ex w (W.setCell ⟨w.heap.size, i, none⟩ v) :=
  ⟨h.bel.setCell (Nat.le_refl _) _, h.tabs.on_grown (grown_set (grown_below (Below.refl _ _) _) _ _) hr⟩
theorem letter_run (C : Int) (k : Nat) (p : UInt8) (ps : List UInt8) (h : (docL C).drop k = p :: ps) (w : World) : (Instr.index 9 (.string (docB C)) (.int .i64 k)).run Tryz.prog w = .ok (.int .u8 (p.toNat : Int)) w := by
  have hk : (docL C)[k]? = some p := by rw [← List.head?_drop, h]; rfl
  have hlt : k < (docL C).length := (List.getElem?_eq_some_iff.1 hk).1
  have hs := docB_size C
  rw [run_index_string (P := Tryz.prog) w 9 _ .i64 k Tryz.underlying9, dif_pos ⟨by omega, by omega⟩]
  have e : (docB C)[((k : Int)).toNat]'(by simp; omega) = p := by
    have h1 := Lib.data_getElem? (docB C) k (by omega)
    have h2 : (docB C).data.toList[k]? = some p := by simpa [docB] using hk
    rw [h1] at h2
    simpa using Option.some.inj h2
  rw [e]
theorem calledB_code {k : Nat} (h : ¬ k = 0) : calledB k = callB k := if_neg h
theorem call_few (b : ByteArray) : callOf b < 4 := by
  unfold callOf
  cases h : (List.range 4).find? fun k : Nat => decide (callB k = b) with
  | none => decide
  | some k => exact List.mem_range.1 (List.mem_of_find?_eq_some h)
/-- The number of a call, of the first j names. -/
def calledN (y : ByteArray) (n : Int) (j : Nat) : Int := if 0 < callOf y ∧ callOf y < j then (callOf y : Nat) else n
theorem calledN_zero (y : ByteArray) (n : Int) : calledN y n 0 = n := if_neg (by omega)
theorem calledN_first {y : ByteArray} {n : Int} {j : Nat} (h : j = 0) : calledN y n (j + 1) = calledN y n j := by
  subst h
  rw [calledN_zero]
  exact if_neg (by omega)
theorem calledN_here {y : ByteArray} {n : Int} {j : Nat} (h0 : ¬ j = 0) (h : callOf y = j) : calledN y n (j + 1) = j := by
  unfold calledN
  rw [if_pos (by omega), h]
theorem calledN_next {y : ByteArray} {n : Int} {j : Nat} (h : callOf y ≠ j) : calledN y n (j + 1) = calledN y n j := by
  unfold calledN
  by_cases hh : 0 < callOf y ∧ callOf y < j
  · rw [if_pos hh, if_pos (by omega)]
  · rw [if_neg hh, if_neg (by omega)]
theorem calledN_all (y : ByteArray) (n : Int) : calledN y n 4 = if callOf y = 0 then n else (callOf y : Nat) := by
  have := call_few y
  unfold calledN
  by_cases h : callOf y = 0
  · rw [if_neg (by omega), if_pos h]
  · rw [if_pos (by omega), if_neg h]
section
set_option maxRecDepth 100000 in
set_option maxHeartbeats 40000000 in
theorem reads_any (he : ∀ w, ex.holds w → ErrTabs w) (hd : ∀ w, ex.holds w → DocTabs w) (g o cap : Nat) (b : ByteArray) (bs : List ByteArray) (w : World) (hs : ∀ x ∈ b :: bs, x.size ≤ 100000) (hlen : bs.length ≤ 100000) (hW : WordsAt w g o (b :: bs)) (hT : Tabs ex w) :
    Calls Tryz.prog 24 #[.slice (some ⟨g, o, none⟩) (bs.length + 1) cap] w fun e w' => (∃ y : St, (∀ x, stepD (b :: bs) = some x → y = x) ∧ e = .returned (.tuple #[.agg y.cells, .bool (stepD (b :: bs)).isSome])) ∧ Below w.heap.size w w' := by
  have hF := Fine.start hT
  go_enter Tryz.func24, Tryz.ntmps24
  go_wp2_with (first
    | (refine load_words_list (hd _ (hF.alloc _).tabs.ext) ?_)
    | go_in)
  go_loopw [14] (fun i wr => ∃ k : Nat, k ≤ 29 ∧ i = .int .i64 k ∧ Fine ex w wr ∧ StepIs wr w.heap.size { St.zero with c := if codeOf b < k then (codeOf b : Nat) else 0 }) (fun i _ => 29 - (intOf i).toNat)
  case atStart => exact ⟨0, by omega, rfl, hF.alloc _, zero_new w⟩
  case round =>
    obtain ⟨k, hk, rfl, hFr, hS⟩ := hrel
    by_cases hlt : k < 29
    · have hix := index_words k hlt
      have c0 : wr.cell? ⟨g, o, none⟩ = some (.string b) := hFr.cellAt hW.lt (hW.cell 0 (by simp))
      have hg : g < wr.heap.size := Nat.lt_of_lt_of_le hW.lt hFr.bel.size
      have q0 := hS.cell 0
      have z0 := hS.frozen 0
      have hB := hS.lt
      simp only [St.cells] at q0
      have HS : Hid (StepIs wr w.heap.size { St.zero with c := if codeOf b < k then (codeOf b : Nat) else 0 }) := hS
      clear hS
      by_cases h0 : k = 0
      · have x0 : decide (0 < k) = false := by simp; omega
        have H0 : Hid (k = 0) := h0
        clear h0
        go_wp2
        go_roundw
        case rel => exact ⟨k + 1, by omega, by go_num, hFr, code_first H0.out HS.out⟩
        case measure => simp [intOf]; omega
      · have x0 : decide (0 < k) = true := by simp; omega
        by_cases hc : codeOf b = k
        · have hq : (b.toList == (wordB k).toList) = true := by rw [word_code h0, (name_code (by omega) hlt).2 hc]; simp
          have HC : Hid (codeOf b = k) := hc
          clear hc
          go_wp2
          go_roundw
          case rel => exact ⟨k + 1, by omega, by go_num, ⟨hFr.bel.setCell (Nat.le_refl _) _, hFr.tabs.on_grown (grown_set (grown_below (Below.refl _ _) _) _ _) hT.room⟩, (HS.out.set 0 _ (code_here HC.out))⟩
          case measure => simp [intOf]; omega
        · have hq : (b.toList == (wordB k).toList) = false := other_text (fun e => hc ((name_code (by omega) hlt).1 (by rw [← word_code h0, ← e])))
          have HC : Hid (codeOf b ≠ k) := hc
          clear hc
          go_wp2
          go_roundw
          case rel => exact ⟨k + 1, by omega, by go_num, hFr, code_next HC.out HS.out⟩
          case measure => simp [intOf]; omega
    · obtain rfl : k = 29 := by omega
      obtain ⟨C, hC⟩ : ∃ C : Int, C = (codeOf b : Nat) := ⟨_, rfl⟩
      have hcl := codeOf_lt b
      rw [if_pos hcl, ← hC] at hS
      have hC0 : 0 ≤ C := by omega
      have hC1 : C ≤ 28 := by omega
      have HC : Hid (C = (codeOf b : Nat)) := hC
      clear hC hcl
      have q0 : wr.cell? ⟨w.heap.size, 0, none⟩ = some (.int .i64 C) := hS.cell 0
      have hB := hS.lt
      go_upto_block 2 with (fail)
      go_cut [6] (fun s6 wx => s6 = .string (docB C) ∧ StepIs wx w.heap.size ⟨C, 0, 0, false, 0, 0⟩ ∧ Fine ex w wx)
      case first =>
        by_cases g0 : 1 ≤ C ∧ C ≤ 12
        · have HD : Hid (docB C = ⟨#[100, 50]⟩) := by
            show docB C = _
            unfold docB docL
            rw [if_pos g0]
          have x1 : decide (1 ≤ C) = true := by simp; omega
          have x2 : decide (C ≤ 12) = true := by simp; omega
          clear g0 hC0 hC1
          go_wp2_with (first | go_in)
          all_goals go_meet
          all_goals exact ⟨by rw [HD.out], hS, hFr⟩
        by_cases g1 : 15 ≤ C ∧ C ≤ 24
        · have HD : Hid (docB C = ⟨#[100, 50, 111]⟩) := by
            show docB C = _
            unfold docB docL
            rw [if_neg g0, if_pos g1]
          have x1 : decide (1 ≤ C) = true := by simp; omega
          have x2 : decide (C ≤ 12) = false := by simp; omega
          have x3 : decide (15 ≤ C) = true := by simp; omega
          have x4 : decide (C ≤ 24) = true := by simp; omega
          have x5 : (C == 13) = false := by simp; omega
          have x6 : (C == 14) = false := by simp; omega
          clear g0 g1 hC0 hC1
          go_wp2_with (first | go_in)
          all_goals go_meet
          all_goals exact ⟨by rw [HD.out], hS, hFr⟩
        by_cases g2 : C = 13
        · have HD : Hid (docB C = ⟨#[100]⟩) := by
            show docB C = _
            unfold docB docL
            rw [if_neg g0, if_neg g1, if_pos g2]
          have x1 : decide (1 ≤ C) = true := by simp; omega
          have x2 : decide (C ≤ 12) = false := by simp; omega
          have x3 : decide (15 ≤ C) = false := by simp; omega
          have x5 : (C == 13) = true := by simp; omega
          clear g0 g1 g2 hC0 hC1
          go_wp2_with (first | go_in)
          all_goals go_meet
          all_goals exact ⟨by rw [HD.out], hS, hFr⟩
        by_cases g3 : C = 14
        · have HD : Hid (docB C = ⟨#[111]⟩) := by
            show docB C = _
            unfold docB docL
            rw [if_neg g0, if_neg g1, if_neg g2, if_pos g3]
          have x1 : decide (1 ≤ C) = true := by simp; omega
          have x2 : decide (C ≤ 12) = false := by simp; omega
          have x3 : decide (15 ≤ C) = false := by simp; omega
          have x5 : (C == 13) = false := by simp; omega
          have x6 : (C == 14) = true := by simp; omega
          clear g0 g1 g2 g3 hC0 hC1
          go_wp2_with (first | go_in)
          all_goals go_meet
          all_goals exact ⟨by rw [HD.out], hS, hFr⟩
        by_cases g4 : C = 25
        · have HD : Hid (docB C = ⟨#[100, 108]⟩) := by
            show docB C = _
            unfold docB docL
            rw [if_neg g0, if_neg g1, if_neg g2, if_neg g3, if_pos g4]
          have x1 : decide (1 ≤ C) = true := by simp; omega
          have x2 : decide (C ≤ 12) = false := by simp; omega
          have x3 : decide (15 ≤ C) = true := by simp; omega
          have x4 : decide (C ≤ 24) = false := by simp; omega
          have x5 : (C == 13) = false := by simp; omega
          have x6 : (C == 14) = false := by simp; omega
          have x7 : (C == 25) = true := by simp; omega
          clear g0 g1 g2 g3 g4 hC0 hC1
          go_wp2_with (first | go_in)
          all_goals go_meet
          all_goals exact ⟨by rw [HD.out], hS, hFr⟩
        by_cases g5 : C = 26
        · have HD : Hid (docB C = ⟨#[115, 50]⟩) := by
            show docB C = _
            unfold docB docL
            rw [if_neg g0, if_neg g1, if_neg g2, if_neg g3, if_neg g4, if_pos g5]
          have x1 : decide (1 ≤ C) = true := by simp; omega
          have x2 : decide (C ≤ 12) = false := by simp; omega
          have x3 : decide (15 ≤ C) = true := by simp; omega
          have x4 : decide (C ≤ 24) = false := by simp; omega
          have x5 : (C == 13) = false := by simp; omega
          have x6 : (C == 14) = false := by simp; omega
          have x7 : (C == 25) = false := by simp; omega
          have x8 : (C == 26) = true := by simp; omega
          clear g0 g1 g2 g3 g4 g5 hC0 hC1
          go_wp2_with (first | go_in)
          all_goals go_meet
          all_goals exact ⟨by rw [HD.out], hS, hFr⟩
        by_cases g6 : C = 27
        · have HD : Hid (docB C = ⟨#[99]⟩) := by
            show docB C = _
            unfold docB docL
            rw [if_neg g0, if_neg g1, if_neg g2, if_neg g3, if_neg g4, if_neg g5, if_pos g6]
          have x1 : decide (1 ≤ C) = true := by simp; omega
          have x2 : decide (C ≤ 12) = false := by simp; omega
          have x3 : decide (15 ≤ C) = true := by simp; omega
          have x4 : decide (C ≤ 24) = false := by simp; omega
          have x5 : (C == 13) = false := by simp; omega
          have x6 : (C == 14) = false := by simp; omega
          have x7 : (C == 25) = false := by simp; omega
          have x8 : (C == 26) = false := by simp; omega
          have x9 : (C == 27) = true := by simp; omega
          clear g0 g1 g2 g3 g4 g5 g6 hC0 hC1
          go_wp2_with (first | go_in)
          all_goals go_meet
          all_goals exact ⟨by rw [HD.out], hS, hFr⟩
        have HD : Hid (docB C = ⟨#[]⟩) := by
          show docB C = _
          unfold docB docL
          rw [if_neg g0, if_neg g1, if_neg g2, if_neg g3, if_neg g4, if_neg g5, if_neg g6]
        rcases (show C = 0 ∨ C = 28 by omega) with h | h
        · skip
          have x1 : decide (1 ≤ C) = false := by simp; omega
          have x3 : decide (15 ≤ C) = false := by simp; omega
          have x5 : (C == 13) = false := by simp; omega
          have x6 : (C == 14) = false := by simp; omega
          have x7 : (C == 25) = false := by simp; omega
          have x8 : (C == 26) = false := by simp; omega
          have x9 : (C == 27) = false := by simp; omega
          clear g0 g1 g2 g3 g4 g5 g6 h hC0 hC1
          go_wp2_with (first | go_in)
          all_goals go_meet
          all_goals exact ⟨by rw [HD.out], hS, hFr⟩
        · skip
          have x1 : decide (1 ≤ C) = true := by simp; omega
          have x2 : decide (C ≤ 12) = false := by simp; omega
          have x3 : decide (15 ≤ C) = true := by simp; omega
          have x4 : decide (C ≤ 24) = false := by simp; omega
          have x5 : (C == 13) = false := by simp; omega
          have x6 : (C == 14) = false := by simp; omega
          have x7 : (C == 25) = false := by simp; omega
          have x8 : (C == 26) = false := by simp; omega
          have x9 : (C == 27) = false := by simp; omega
          clear g0 g1 g2 g3 g4 g5 g6 h hC0 hC1
          go_wp2_with (first | go_in)
          all_goals go_meet
          all_goals exact ⟨by rw [HD.out], hS, hFr⟩
      case rest =>
        obtain ⟨rfl, hS1, hF1⟩ := hcut
        have hFs := docB_size C
        have hF3 : (docB C).size ≤ 3 := by rw [hFs]; exact docL_few C
        have HFL : Hid ((docB C).size = (docL C).length) := hFs
        have HD := stepD_cons b bs
        rw [← HC.out, show ({ St.zero with c := C } : St) = ⟨C, 0, 0, false, 0, 0⟩ from rfl] at HD
        have HSD : Hid (stepD (b :: bs) = if codeOf b = 0 ∨ bs.length ≠ (docL C).length then none else putAllD ⟨C, 0, 0, false, 0, 0⟩ (docL C) bs) := HD
        clear hFs HD q0 hB hS hFr hk hlt
        obtain ⟨q0, q1, q2, q3, q4, q5, z0, z1, z2, z3, z4, z5, hB⟩ := hS1.all
        by_cases hz : C = 0
        · have x1 : (C == 0) = true := by simp [hz]
          have HN : Hid (stepD (b :: bs) = none) := by
            show stepD (b :: bs) = none
            rw [HSD.out, if_pos (Or.inl (by have := HC.out; omega))]
          clear hz
          go_wp2
          refine reads_end (x := ⟨C, 0, 0, false, 0, 0⟩) (wc := wc) (v := false) (r := stepD (b :: bs)) ?_ ?_ hS1 hF1 (by rw [HN.out]; rfl) (fun y hy => by rw [HN.out] at hy; cases hy)
          · rfl
          · rfl
        · have x1 : (C == 0) = false := by simp [hz]
          by_cases hl : bs.length = (docL C).length
          · have x2 : ((bs.length : Int) + 1 != ((docB C).size : Int) + 1) = false := by
              have := HFL.out
              simp; omega
            have HP : Hid (stepD (b :: bs) = putAllD ⟨C, 0, 0, false, 0, 0⟩ (docL C) bs) := by
              show stepD (b :: bs) = _
              rw [HSD.out, if_neg (by have := HC.out; omega)]
            have HL : Hid (bs.length = (docL C).length) := hl
            clear hz hl HSD
            go_wp2
            go_loopw [72] (fun i wr => ∃ (k : Nat) (x : St), k ≤ (docB C).size ∧ i = .int .i64 k ∧ Fine ex w wr ∧ StepIs wr w.heap.size x ∧ putAllD x ((docL C).drop k) (bs.drop k) = stepD (b :: bs)) (fun i _ => (docB C).size - (intOf i).toNat)
            case atStart => exact ⟨0, _, Nat.zero_le _, rfl, hF1, hS1, HP.out.symm⟩
            case round =>
              obtain ⟨k, x, hk, rfl, hFr, hS, hrun⟩ := hrel
              have HRUN : Hid (putAllD x ((docL C).drop k) (bs.drop k) = stepD (b :: bs)) := hrun
              clear hrun q0 q1 q2 q3 q4 q5 z0 z1 z2 z3 z4 z5 hB hS1 hF1
              obtain ⟨xc, xd, xs, xr, xo, xn⟩ := x
              obtain ⟨q0, q1, q2, q3, q4, q5, z0, z1, z2, z3, z4, z5, hB⟩ := hS.all
              by_cases hlt : k < (docB C).size
              · have hl1 : k < (docL C).length := by have := HFL.out; omega
                have hl2 : k < bs.length := by have := HL.out; omega
                obtain ⟨y, hy⟩ : ∃ y, y = bs[k]'hl2 := ⟨_, rfl⟩
                have hyd : bs.drop k = y :: bs.drop (k + 1) := by rw [hy]; exact List.drop_eq_getElem_cons hl2
                have hys : y.size ≤ 100000 := hs y (by rw [hy]; exact List.mem_cons_of_mem _ (List.getElem_mem _))
                have cy : wr.cell? ⟨g, o + (k + 1), none⟩ = some (.string y) := by rw [hy]; exact hFr.cellAt hW.lt (hW.cell (k + 1) (by simp; omega))
                have hg : g < wr.heap.size := Nat.lt_of_lt_of_le hW.lt hFr.bel.size
                have hpd := List.drop_eq_getElem_cons hl1
                have hlet := docL_letters C _ (List.getElem_mem hl1)
                generalize (docL C)[k]'hl1 = p at hpd hlet
                have hE : stepD (b :: bs) = if (St.putD ⟨xc, xd, xs, xr, xo, xn⟩ p.toNat y).1 then putAllD (St.putD ⟨xc, xd, xs, xr, xo, xn⟩ p.toNat y).2 ((docL C).drop (k + 1)) (bs.drop (k + 1)) else none := by
                  rw [← HRUN.out, hpd, hyd]; rfl
                have hix := letter_run C k p _ hpd
                clear hpd hyd hy HRUN
                rcases hlet with rfl | rfl | rfl | rfl | rfl | rfl
                · have HE : Hid (stepD (b :: bs) = if (St.putD ⟨xc, xd, xs, xr, xo, xn⟩ 100 y).1 then putAllD (St.putD ⟨xc, xd, xs, xr, xo, xn⟩ 100 y).2 ((docL C).drop (k + 1)) (bs.drop (k + 1)) else none) := hE
                  clear hE
                  cases hr : regOf y with
                  | some r =>
                    have HR : Hid (putAllD ⟨xc, (r : Nat), xs, xr, xo, xn⟩ ((docL C).drop (k + 1)) (bs.drop (k + 1)) = stepD (b :: bs)) := by
                      show _ = stepD (b :: bs)
                      rw [HE.out]; simp [St.putD, hr]
                    clear HE
                    go_wp2_with (first
                      | (go_at_call 46; refine (rregister_any _ _ hFr.tabs).mono ?_; rintro e w1 ⟨rfl, hb1⟩; rw [hr]; have hS2 := hS.later hb1; obtain ⟨c0, c1, c2, c3, c4, c5, f0, f1, f2, f3, f4, f5, hB2⟩ := hS2.all; have hF2 := hFr.call hb1)
                      | go_in)
                    go_roundw
                    case rel => exact ⟨k + 1, ⟨xc, (r : Nat), xs, xr, xo, xn⟩, by omega, by go_num, hF2.set hT.room _ _, hS2.set 1 _ rfl, HR.out⟩
                    case measure => simp [intOf]; omega
                  | none =>
                    have HN : Hid (stepD (b :: bs) = none) := by
                      show stepD (b :: bs) = none
                      rw [HE.out]; simp [St.putD, hr]
                    clear HE
                    go_wp2_with (first
                      | (go_at_call 46; refine (rregister_any _ _ hFr.tabs).mono ?_; rintro e w1 ⟨rfl, hb1⟩; rw [hr]; have hS2 := hS.later hb1; obtain ⟨c0, c1, c2, c3, c4, c5, f0, f1, f2, f3, f4, f5, hB2⟩ := hS2.all; have hF2 := hFr.call hb1)
                      | go_in)
                    refine reads_end (x := ⟨xc, 0, xs, xr, xo, xn⟩) (wc := w1.setCell ⟨w.heap.size, 1, none⟩ (.int .i64 0)) (v := false) (r := stepD (b :: bs)) ?_ ?_ (hS2.set 1 _ rfl) (hF2.set hT.room _ _) (by rw [HN.out]; rfl) (fun y hy => by rw [HN.out] at hy; cases hy)
                    · rfl
                    · rfl
                · have HE : Hid (stepD (b :: bs) = if (St.putD ⟨xc, xd, xs, xr, xo, xn⟩ 50 y).1 then putAllD (St.putD ⟨xc, xd, xs, xr, xo, xn⟩ 50 y).2 ((docL C).drop (k + 1)) (bs.drop (k + 1)) else none) := hE
                  clear hE
                  cases hn : numOf y with
                  | some n =>
                    have HNUM : Hid (numOf y = some n) := hn
                    have HR : Hid (putAllD ⟨xc, xd, xs, xr, xo, n⟩ ((docL C).drop (k + 1)) (bs.drop (k + 1)) = stepD (b :: bs)) := by
                      show _ = stepD (b :: bs)
                      rw [HE.out]; simp [St.putD, hn]
                    clear HE hn
                    go_wp2_with (first
                      | (go_at_call 47; refine (rnumber_some HNUM.out _ hys hFr.tabs).mono ?_; rintro e w1 ⟨rfl, hb1⟩; have hS2 := hS.later hb1; obtain ⟨c0, c1, c2, c3, c4, c5, f0, f1, f2, f3, f4, f5, hB2⟩ := hS2.all; have hF2 := hFr.call hb1)
                      | go_in)
                    go_roundw
                    case rel => exact ⟨k + 1, ⟨xc, xd, xs, xr, xo, n⟩, by omega, by go_num, hF2.set hT.room _ _, hS2.set 5 _ rfl, HR.out⟩
                    case measure => simp [intOf]; omega
                  | none =>
                    have HNUM : Hid (numOf y = none) := hn
                    cases hr : regOf y with
                    | some r =>
                      have HR : Hid (putAllD ⟨xc, xd, (r : Nat), true, xo, 0⟩ ((docL C).drop (k + 1)) (bs.drop (k + 1)) = stepD (b :: bs)) := by
                        show _ = stepD (b :: bs)
                        rw [HE.out]; simp [St.putD, hn, hr]
                      clear HE hn
                      go_wp2_with (first
                        | (go_at_call 47; refine (rnumber_none he HNUM.out _ hys hFr.tabs).mono ?_; rintro e w1 ⟨⟨v, rfl⟩, hb1⟩; have hS2 := hS.later hb1; obtain ⟨c0, c1, c2, c3, c4, c5, f0, f1, f2, f3, f4, f5, hB2⟩ := hS2.all; have hF2 := hFr.call hb1; have hS3 := (hS2.set (y := ⟨xc, xd, xs, xr, xo, v⟩) 5 (.int .i64 v) rfl).set (y := ⟨xc, xd, xs, xr, xo, 0⟩) 5 (.int .i64 0) rfl; have hF3 := (hF2.set hT.room 5 (.int .i64 v)).set hT.room 5 (.int .i64 0))
                        | (go_at_call 46; refine (rregister_any _ _ hF3.tabs).mono ?_; rintro e w2 ⟨rfl, hb2⟩; rw [hr]; have hS4 := hS3.later hb2; obtain ⟨d0, d1, d2, d3, d4, d5, g0, g1, g2, g3, g4, g5, hB4⟩ := hS4.all; have hF4 := hF3.call hb2)
                        | go_in)
                      go_roundw
                      case rel => exact ⟨k + 1, ⟨xc, xd, (r : Nat), true, xo, 0⟩, by omega, by go_num, (hF4.set hT.room _ _).set hT.room _ _, (hS4.set (y := ⟨xc, xd, (r : Nat), xr, xo, 0⟩) 2 _ rfl).set 3 _ rfl, HR.out⟩
                      case measure => simp [intOf]; omega
                    | none =>
                      have HN : Hid (stepD (b :: bs) = none) := by
                        show stepD (b :: bs) = none
                        rw [HE.out]; simp [St.putD, hn, hr]
                      clear HE hn
                      go_wp2_with (first
                        | (go_at_call 47; refine (rnumber_none he HNUM.out _ hys hFr.tabs).mono ?_; rintro e w1 ⟨⟨v, rfl⟩, hb1⟩; have hS2 := hS.later hb1; obtain ⟨c0, c1, c2, c3, c4, c5, f0, f1, f2, f3, f4, f5, hB2⟩ := hS2.all; have hF2 := hFr.call hb1; have hS3 := (hS2.set (y := ⟨xc, xd, xs, xr, xo, v⟩) 5 (.int .i64 v) rfl).set (y := ⟨xc, xd, xs, xr, xo, 0⟩) 5 (.int .i64 0) rfl; have hF3 := (hF2.set hT.room 5 (.int .i64 v)).set hT.room 5 (.int .i64 0))
                        | (go_at_call 46; refine (rregister_any _ _ hF3.tabs).mono ?_; rintro e w2 ⟨rfl, hb2⟩; rw [hr]; have hS4 := hS3.later hb2; obtain ⟨d0, d1, d2, d3, d4, d5, g0, g1, g2, g3, g4, g5, hB4⟩ := hS4.all; have hF4 := hF3.call hb2)
                        | go_in)
                      refine reads_end (x := ⟨xc, xd, 0, true, xo, 0⟩) (wc := ((w2.setCell ⟨w.heap.size, 2, none⟩ (.int .i64 0)).setCell ⟨w.heap.size, 3, none⟩ (.bool true))) (v := false) (r := stepD (b :: bs)) ?_ ?_ ((hS4.set (y := ⟨xc, xd, 0, xr, xo, 0⟩) 2 _ rfl).set 3 _ rfl) ((hF4.set hT.room _ _).set hT.room _ _) (by rw [HN.out]; rfl) (fun y hy => by rw [HN.out] at hy; cases hy)
                      · rfl
                      · rfl
                · have HE : Hid (stepD (b :: bs) = if (St.putD ⟨xc, xd, xs, xr, xo, xn⟩ 111 y).1 then putAllD (St.putD ⟨xc, xd, xs, xr, xo, xn⟩ 111 y).2 ((docL C).drop (k + 1)) (bs.drop (k + 1)) else none) := hE
                  clear hE
                  cases hn : numOf y with
                  | some n =>
                    have HNUM : Hid (numOf y = some n) := hn
                    have HR : Hid (putAllD ⟨xc, xd, xs, xr, n, xn⟩ ((docL C).drop (k + 1)) (bs.drop (k + 1)) = stepD (b :: bs)) := by
                      show _ = stepD (b :: bs)
                      rw [HE.out]; simp [St.putD, hn]
                    clear HE hn
                    go_wp2_with (first
                      | (go_at_call 47; refine (rnumber_some HNUM.out _ hys hFr.tabs).mono ?_; rintro e w1 ⟨rfl, hb1⟩; have hS2 := hS.later hb1; obtain ⟨c0, c1, c2, c3, c4, c5, f0, f1, f2, f3, f4, f5, hB2⟩ := hS2.all; have hF2 := hFr.call hb1)
                      | go_in)
                    go_roundw
                    case rel => exact ⟨k + 1, ⟨xc, xd, xs, xr, n, xn⟩, by omega, by go_num, hF2.set hT.room _ _, hS2.set 4 _ rfl, HR.out⟩
                    case measure => simp [intOf]; omega
                  | none =>
                    have HNUM : Hid (numOf y = none) := hn
                    have HN : Hid (stepD (b :: bs) = none) := by
                      show stepD (b :: bs) = none
                      rw [HE.out]; simp [St.putD, hn]
                    clear HE hn
                    go_wp2_with (first
                      | (go_at_call 47; refine (rnumber_none he HNUM.out _ hys hFr.tabs).mono ?_; rintro e w1 ⟨⟨v, rfl⟩, hb1⟩; have hS2 := hS.later hb1; obtain ⟨c0, c1, c2, c3, c4, c5, f0, f1, f2, f3, f4, f5, hB2⟩ := hS2.all; have hF2 := hFr.call hb1)
                      | go_in)
                    refine reads_end (x := ⟨xc, xd, xs, xr, v, xn⟩) (wc := (w1.setCell ⟨w.heap.size, 4, none⟩ (.int .i64 v))) (v := false) (r := stepD (b :: bs)) ?_ ?_ (hS2.set 4 _ rfl) (hF2.set hT.room _ _) (by rw [HN.out]; rfl) (fun y hy => by rw [HN.out] at hy; cases hy)
                    · rfl
                    · rfl
                · have HE : Hid (stepD (b :: bs) = if (St.putD ⟨xc, xd, xs, xr, xo, xn⟩ 108 y).1 then putAllD (St.putD ⟨xc, xd, xs, xr, xo, xn⟩ 108 y).2 ((docL C).drop (k + 1)) (bs.drop (k + 1)) else none) := hE
                  clear hE
                  cases hp : placeOf y with
                  | some rn =>
                    obtain ⟨r, n⟩ := rn
                    have HV : Hid (placeV y = .tuple #[.int .i64 (r : Nat), .int .i64 n, .bool true]) := placeV_some hp
                    have HR : Hid (putAllD ⟨xc, xd, (r : Nat), xr, n, xn⟩ ((docL C).drop (k + 1)) (bs.drop (k + 1)) = stepD (b :: bs)) := by
                      show _ = stepD (b :: bs)
                      rw [HE.out]; simp [St.putD, hp]
                    clear HE hp
                    go_wp2_with (first
                      | (go_at_call 48; refine (rplaced_any he _ _ hys hFr.tabs).mono ?_; rintro e w1 ⟨rfl, hb1⟩; rw [HV.out]; have hS2 := hS.later hb1; obtain ⟨c0, c1, c2, c3, c4, c5, f0, f1, f2, f3, f4, f5, hB2⟩ := hS2.all; have hF2 := hFr.call hb1)
                      | go_in)
                    go_roundw
                    case rel => exact ⟨k + 1, ⟨xc, xd, (r : Nat), xr, n, xn⟩, by omega, by go_num, (hF2.set hT.room _ _).set hT.room _ _, (hS2.set (y := ⟨xc, xd, (r : Nat), xr, xo, xn⟩) 2 _ rfl).set 4 _ rfl, HR.out⟩
                    case measure => simp [intOf]; omega
                  | none =>
                    have HV : Hid (placeV y = .tuple #[.int .i64 0, .int .i64 0, .bool false]) := placeV_none hp
                    have HN : Hid (stepD (b :: bs) = none) := by
                      show stepD (b :: bs) = none
                      rw [HE.out]; simp [St.putD, hp]
                    clear HE hp
                    go_wp2_with (first
                      | (go_at_call 48; refine (rplaced_any he _ _ hys hFr.tabs).mono ?_; rintro e w1 ⟨rfl, hb1⟩; rw [HV.out]; have hS2 := hS.later hb1; obtain ⟨c0, c1, c2, c3, c4, c5, f0, f1, f2, f3, f4, f5, hB2⟩ := hS2.all; have hF2 := hFr.call hb1)
                      | go_in)
                    refine reads_end (x := ⟨xc, xd, 0, xr, 0, xn⟩) (wc := ((w1.setCell ⟨w.heap.size, 2, none⟩ (.int .i64 0)).setCell ⟨w.heap.size, 4, none⟩ (.int .i64 0))) (v := false) (r := stepD (b :: bs)) ?_ ?_ ((hS2.set (y := ⟨xc, xd, 0, xr, xo, xn⟩) 2 _ rfl).set 4 _ rfl) ((hF2.set hT.room _ _).set hT.room _ _) (by rw [HN.out]; rfl) (fun y hy => by rw [HN.out] at hy; cases hy)
                    · rfl
                    · rfl
                · have HE : Hid (stepD (b :: bs) = if (St.putD ⟨xc, xd, xs, xr, xo, xn⟩ 115 y).1 then putAllD (St.putD ⟨xc, xd, xs, xr, xo, xn⟩ 115 y).2 ((docL C).drop (k + 1)) (bs.drop (k + 1)) else none) := hE
                  clear hE
                  cases hp : placeOf y with
                  | some rn =>
                    obtain ⟨r, n⟩ := rn
                    have HV : Hid (placeV y = .tuple #[.int .i64 (r : Nat), .int .i64 n, .bool true]) := placeV_some hp
                    have HR : Hid (putAllD ⟨xc, (r : Nat), xs, xr, n, xn⟩ ((docL C).drop (k + 1)) (bs.drop (k + 1)) = stepD (b :: bs)) := by
                      show _ = stepD (b :: bs)
                      rw [HE.out]; simp [St.putD, hp]
                    clear HE hp
                    go_wp2_with (first
                      | (go_at_call 48; refine (rplaced_any he _ _ hys hFr.tabs).mono ?_; rintro e w1 ⟨rfl, hb1⟩; rw [HV.out]; have hS2 := hS.later hb1; obtain ⟨c0, c1, c2, c3, c4, c5, f0, f1, f2, f3, f4, f5, hB2⟩ := hS2.all; have hF2 := hFr.call hb1)
                      | go_in)
                    go_roundw
                    case rel => exact ⟨k + 1, ⟨xc, (r : Nat), xs, xr, n, xn⟩, by omega, by go_num, (hF2.set hT.room _ _).set hT.room _ _, (hS2.set (y := ⟨xc, (r : Nat), xs, xr, xo, xn⟩) 1 _ rfl).set 4 _ rfl, HR.out⟩
                    case measure => simp [intOf]; omega
                  | none =>
                    have HV : Hid (placeV y = .tuple #[.int .i64 0, .int .i64 0, .bool false]) := placeV_none hp
                    have HN : Hid (stepD (b :: bs) = none) := by
                      show stepD (b :: bs) = none
                      rw [HE.out]; simp [St.putD, hp]
                    clear HE hp
                    go_wp2_with (first
                      | (go_at_call 48; refine (rplaced_any he _ _ hys hFr.tabs).mono ?_; rintro e w1 ⟨rfl, hb1⟩; rw [HV.out]; have hS2 := hS.later hb1; obtain ⟨c0, c1, c2, c3, c4, c5, f0, f1, f2, f3, f4, f5, hB2⟩ := hS2.all; have hF2 := hFr.call hb1)
                      | go_in)
                    refine reads_end (x := ⟨xc, 0, xs, xr, 0, xn⟩) (wc := ((w1.setCell ⟨w.heap.size, 1, none⟩ (.int .i64 0)).setCell ⟨w.heap.size, 4, none⟩ (.int .i64 0))) (v := false) (r := stepD (b :: bs)) ?_ ?_ ((hS2.set (y := ⟨xc, 0, xs, xr, xo, xn⟩) 1 _ rfl).set 4 _ rfl) ((hF2.set hT.room _ _).set hT.room _ _) (by rw [HN.out]; rfl) (fun y hy => by rw [HN.out] at hy; cases hy)
                    · rfl
                    · rfl
                · have HE : Hid (stepD (b :: bs) = if (St.putD ⟨xc, xd, xs, xr, xo, xn⟩ 99 y).1 then putAllD (St.putD ⟨xc, xd, xs, xr, xo, xn⟩ 99 y).2 ((docL C).drop (k + 1)) (bs.drop (k + 1)) else none) := hE
                  clear hE
                  go_wp2_with (first
                    | (refine load_called_list (hd _ hFr.tabs.ext) ?_)
                    | go_in)
                  go_loopw [141] (fun i wr => ∃ j : Nat, j ≤ 4 ∧ i = .int .i64 j ∧ Fine ex w wr ∧ StepIs wr w.heap.size ⟨xc, xd, xs, xr, xo, calledN y xn j⟩) (fun i _ => 4 - (intOf i).toNat)
                  case atStart => exact ⟨0, by omega, rfl, hFr, by rw [calledN_zero]; exact hS⟩
                  case round =>
                    obtain ⟨j, hj, rfl, hFr2, hS2⟩ := hrel
                    obtain ⟨c0, c1, c2, c3, c4, c5, f0, f1, f2, f3, f4, f5, hB2⟩ := hS2.all
                    by_cases hlt2 : j < 4
                    · have hix2 := index_called j hlt2
                      by_cases h0 : j = 0
                      · have x0 : decide (0 < j) = false := by simp; omega
                        have H0 : Hid (j = 0) := h0
                        clear h0
                        go_wp2
                        go_roundw
                        case rel => exact ⟨j + 1, by omega, by go_num, hFr2, by rw [calledN_first H0.out]; exact hS2⟩
                        case measure => simp [intOf]; omega
                      · have x0 : decide (0 < j) = true := by simp; omega
                        by_cases hc : callOf y = j
                        · have hq : ((calledB j).toList == y.toList) = true := by rw [calledB_code h0, (call_code (by omega) hlt2).2 hc]; simp
                          have HC2 : Hid (calledN y xn (j + 1) = j) := calledN_here h0 hc
                          clear hc h0
                          go_wp2
                          go_roundw
                          case rel => exact ⟨j + 1, by omega, by go_num, hFr2.set hT.room _ _, by rw [HC2.out]; exact hS2.set 5 _ rfl⟩
                          case measure => simp [intOf]; omega
                        · have hq : ((calledB j).toList == y.toList) = false := other_text (fun e => hc ((call_code (by omega) hlt2).1 (by rw [← calledB_code h0]; exact e)))
                          have HC2 : Hid (calledN y xn (j + 1) = calledN y xn j) := calledN_next hc
                          clear hc h0
                          go_wp2
                          go_roundw
                          case rel => exact ⟨j + 1, by omega, by go_num, hFr2, by rw [HC2.out]; exact hS2⟩
                          case measure => simp [intOf]; omega
                    · obtain rfl : j = 4 := by omega
                      have HR : Hid (putAllD ⟨xc, xd, xs, xr, xo, calledN y xn 4⟩ ((docL C).drop (k + 1)) (bs.drop (k + 1)) = stepD (b :: bs)) := by
                        show _ = stepD (b :: bs)
                        rw [HE.out, calledN_all]; rfl
                      clear HE
                      go_wp2
                      go_roundw
                      case rel => exact ⟨k + 1, ⟨xc, xd, xs, xr, xo, calledN y xn 4⟩, by omega, by go_num, hFr2, hS2, HR.out⟩
                      case measure => simp [intOf]; omega
              · obtain rfl : k = (docB C).size := by omega
                have HR : Hid (some ⟨xc, xd, xs, xr, xo, xn⟩ = stepD (b :: bs)) := by
                  show _ = stepD (b :: bs)
                  rw [← HRUN.out, HFL.out, List.drop_length]; rfl
                go_wp2
                refine reads_end (x := ⟨xc, xd, xs, xr, xo, xn⟩) (wc := wr) (v := true) (r := stepD (b :: bs)) ?_ ?_ hS hFr (by rw [← HR.out]; rfl) (fun y hy => by rw [← HR.out] at hy; exact Option.some.inj hy)
                · rfl
                · rfl
          · have x2 : ((bs.length : Int) + 1 != ((docB C).size : Int) + 1) = true := by
              have := HFL.out
              simp; omega
            have HN : Hid (stepD (b :: bs) = none) := by
              show stepD (b :: bs) = none
              rw [HSD.out, if_pos (Or.inr hl)]
            clear hz hl HSD
            go_wp2
            refine reads_end (x := ⟨C, 0, 0, false, 0, 0⟩) (wc := wc) (v := false) (r := stepD (b :: bs)) ?_ ?_ hS1 hF1 (by rw [HN.out]; rfl) (fun y hy => by rw [HN.out] at hy; cases hy)
            · rfl
            · rfl
end
end Go.Proofs.YtegeiicginpdbaaGreatDoor
