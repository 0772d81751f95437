/-
  AsmReads returns true at every text, and changes nothing that was there: the program that a text is, or which step is none, or what is wrong with it, is what the document says. Conditions: the library's variable errors.errorType, the tables of names, the library's tables and its two errors for numbers start as the program's text lays them.
-/
import Derived.Test.YtegeiicginpdbaaGreatDoorDocLaw
import Derived.Test.YtegeiicginpdbaaGreatDoorLaid
import Derived.Test.YtegeiicginpdbaaGreatDoorTie
import Derived.Test.YtegeiicginpdbaaGreatDoorCards
import Derived.JoinedOf
import Derived.Stop.Joined
import Derived.SevenTiedAt
import Derived.Deep.DeepLaidRun
import Derived.Stop.LaidErr
import Derived.Lib.LaidU8T
namespace Go.Proofs.YtegeiicginpdbaaGreatDoor
open Go.ChangeShapes Go.WideShapes Go.ChangeAt Go.RowKit
open Go.ChangeMaps (open_string shut_string)
set_option linter.unusedVariables false

/-- What else is kept: the library's two errors, its tables of letters, the document's names. -/
def readExt : Ext where
  holds w := ErrTabs w ∧ Lib.Utf8Tabs 7 8 w ∧ DocTabs w
  on w w' B hb hB h := by
    refine ⟨h.1.on hb hB, ⟨fun c hc => ?_, fun i hi => ⟨?_, ?_⟩⟩, h.2.2.on hb hB⟩
    · rw [hb.cell (p := ⟨7, c, none⟩) (by show 7 < B; omega)]; exact h.2.1.1 c hc
    · rw [hb.cell (p := ⟨8, 2 * i, none⟩) (by show 8 < B; omega)]; exact (h.2.1.2 i hi).1
    · rw [hb.cell (p := ⟨8, 2 * i + 1, none⟩) (by show 8 < B; omega)]; exact (h.2.1.2 i hi).2
theorem reads_walk (s : ByteArray) (w : World) (hT : Tabs readExt w) (hg : HandleAt w) :
    Calls Tryz.prog 3 #[.string s] w fun e w' => e = .returned (.bool true) ∧ Below w.heap.size w w' := by
  by_cases h : 1500 < s.size
  · exact reads_long s h w
  · exact law_any (ex := readExt) (fun _ h => h.1) (fun _ h => h.2.2) (fun _ h => h.2.1) (by omega) hT hg

/-! ### The listed variables -/
theorem own : ownKnob Tryz.prog.godebug = none := by kernel_rfl
theorem laidOut : laidOutB Tryz.prog = true := by kernel_rfl
theorem var_lt {P : Program} {w : World} {n : String} {g : Nat} {cs : Array Value} (hg : P.globalNamed n = some g) (h : w.var? P n = some cs) : g < w.heap.size := by
  rcases Nat.lt_or_ge g w.heap.size with k | k
  · exact k
  · simp [World.var?, hg, Array.getElem?_eq_none k] at h
theorem star : "*" ++ "errors.errorString" = "*errors.errorString" := by decide
theorem rowE (u : TypeId) (h : Tryz.prog.typeName? 3 u = some "*errors.errorString") : u = 293 :=
  typeName_ptr_named (nm := "errors.errorString") (by rw [star]; kernel_rfl) (by kernel_rfl) (by decide) u (by rw [star]; exact h)
theorem firstsAre : Rows.laid_unicode_utf8_first = Lib.firstData := by kernel_rfl
theorem rangesAre : (Rows.laid_unicode_utf8_acceptRanges : DataW Unit) = Lib.acceptData := by kernel_rfl
theorem err_cell {n : String} {g : Nat} {text : List UInt8} {r : List (String × DataW Unit)} {W : World} (h : laidMet Tryz.prog ((n, .iface "*errors.errorString" (.ptr (.agg [.lit (.string text)]))) :: r) W)
    (hg : Tryz.prog.globalNamed n = some g) (ht : (Tryz.prog.globals[g]?).map (·.type) = some 29) : ∃ te pe, W.cell? ⟨g, 0, none⟩ = some (.iface te pe) := by
  obtain ⟨a, s, hv, _⟩ := laid_sentinel h hg ht Tryz.underlying29 rowE Tryz.underlying293 Tryz.underlying295 rfl rfl Tryz.underlying9 (by kernel_rfl) (by kernel_rfl)
  exact ⟨_, _, (World.var?_cell hg hv 0).trans rfl⟩
theorem docTabs_of_laid {w : World} {l : List (String × DataW Unit)} (h : laidMet Tryz.prog l w) (h3 : ("gatehouse/gatehouseref.words", Rows.laid_gatehouse_gatehouseref_words) ∈ l) (h4 : ("gatehouse/gatehouseref.calls", Rows.laid_gatehouse_gatehouseref_calls) ∈ l) : DocTabs w := by
  have e3 := table_cells h (xs := [45] :: namesL.tail) (g := 0) (n := 29) (t := 110) (e := 9) h3 (by kernel_rfl) (by kernel_rfl) Tryz.underlying110 Tryz.underlying9 (by kernel_rfl) (by kernel_rfl)
  have e4 := table_cells h (xs := [45] :: callsL.tail) (g := 1) (n := 4) (t := 117) (e := 9) h4 (by kernel_rfl) (by kernel_rfl) Tryz.underlying117 Tryz.underlying9 (by kernel_rfl) (by kernel_rfl)
  refine ⟨fun i hi => ?_, fun i hi => ?_⟩
  · cases i with
    | zero => exact e3 0 [45] rfl
    | succ j => exact e3 (j + 1) _ (by rw [List.getElem?_cons_succ, List.getElem?_tail, List.getElem?_eq_getElem (show j + 1 < namesL.length from hi)]; simp [List.getD_eq_getElem?_getD, List.getElem?_eq_getElem (show j + 1 < namesL.length from hi)])
  · cases i with
    | zero => exact e4 0 [45] rfl
    | succ j => exact e4 (j + 1) _ (by rw [List.getElem?_cons_succ, List.getElem?_tail, List.getElem?_eq_getElem (show j + 1 < callsL.length from hi)]; simp [List.getD_eq_getElem?_getD, List.getElem?_eq_getElem (show j + 1 < callsL.length from hi)])
theorem laid_tabs {W : World} (h : laidMetH Tryz.prog Rows.asmReadsRow.laid W) : Tabs readExt W ∧ HandleAt W := by
  have h' : laidMet Tryz.prog [("math/bits.deBruijn32tab", Rows.laid_math_bits_deBruijn32tab), ("math/bits.deBruijn64tab", Rows.laid_math_bits_deBruijn64tab), ("internal/strconv.uint64pow10", Rows.laid_internal_strconv_uint64pow10), ("unicode/utf8.acceptRanges", Rows.laid_unicode_utf8_acceptRanges), ("strconv.ErrRange", Rows.laid_strconv_ErrRange), ("strconv.ErrSyntax", Rows.laid_strconv_ErrSyntax), ("gatehouse/asm.names", Rows.laid_gatehouse_asm_names), ("gatehouse/asm.calls", Rows.laid_gatehouse_asm_calls), ("gatehouse/gatehouseref.words", Rows.laid_gatehouse_gatehouseref_words), ("gatehouse/gatehouseref.calls", Rows.laid_gatehouse_gatehouseref_calls), ("unicode/utf8.first", Rows.laid_unicode_utf8_first)] W ∧ handlesMet Tryz.prog [("errors.errorType", Rows.laid_errors_errorType)] W := h
  obtain ⟨h', hh⟩ := h'
  refine ⟨tabs_of_laid h' (by simp) (by simp) (by simp) ?_ ⟨⟨err_cell (g := 9) h'.tail.tail.tail.tail.tail (by kernel_rfl) (by kernel_rfl), err_cell (g := 10) h'.tail.tail.tail.tail (by kernel_rfl) (by kernel_rfl)⟩, ?_, docTabs_of_laid h' (by simp) (by simp)⟩, handle_met hh⟩
  · obtain ⟨ps, hl, _⟩ := h'
    obtain ⟨g, t, cs, fuel, p, h1, h2, h3, h4⟩ := laid_each hl ("math/bits.deBruijn64tab", Rows.laid_math_bits_deBruijn64tab) (by simp)
    have hg : Tryz.prog.globalNamed "math/bits.deBruijn64tab" = some 13 := by kernel_rfl
    have := var_lt hg h3
    omega
  · exact utf8Tabs_of_readsT (ρ := Tryz.lays197_ren) { Tryz.lays197 with } ⟨by kernel_rfl, by kernel_rfl, by kernel_rfl, by kernel_rfl, by kernel_rfl, by kernel_rfl, by kernel_rfl⟩ (firstsAre ▸ Lib.laidMet.reads h' (by simp)) (rangesAre ▸ Lib.laidMet.reads h' (by simp))
/-- A cell as a datum lists it. -/
def cellOf : DataW Unit → Value
  | .lit (.int k z) => .int k z
  | .lit (.string b) => .string ⟨b.toArray⟩
  | _ => .int .i64 0
def flatOf : DataW Unit → List Value
  | .agg l => l.map cellOf
  | d => [cellOf d]
def cellsOfD : DataW Unit → Array Value
  | .agg l => (l.flatMap flatOf).toArray
  | _ => #[]
/-- A start: the listed variables hold what the text lays; the two errors lie behind all. -/
def laidHeap (h : Array Obj) : Array Obj :=
  let put (g : Nat) (cs : Array Value) (h : Array Obj) : Array Obj := h.modify g fun
    | .cells _ t frozen => .cells cs t frozen
    | o => o
  ((put 4 #[.iface 196 (.agg #[.pointer (some ⟨14, 29, none⟩)])] (put 0 (cellsOfD Rows.laid_gatehouse_gatehouseref_words) (put 1 (cellsOfD Rows.laid_gatehouse_gatehouseref_calls) (put 10 #[.iface 293 (.pointer (some ⟨h.size, 0, none⟩))] (put 9 #[.iface 293 (.pointer (some ⟨h.size + 1, 0, none⟩))] (put 12 (cellsOfD Rows.laid_math_bits_deBruijn32tab) (put 13 (cellsOfD Rows.laid_math_bits_deBruijn64tab)
    (put 11 (cellsOfD Rows.laid_internal_strconv_uint64pow10) (put 2 (cellsOfD Rows.laid_gatehouse_asm_names) (put 5 (cellsOfD Rows.laid_gatehouse_asm_calls)
    (put 7 (cellsOfD Rows.laid_unicode_utf8_first) (put 8 (cellsOfD Rows.laid_unicode_utf8_acceptRanges) h)))))))))))).push (.cells #[.string ⟨#[118, 97, 108, 117, 101, 32, 111, 117, 116, 32, 111, 102, 32, 114, 97, 110, 103, 101]⟩] 295)).push (.cells #[.string ⟨#[105, 110, 118, 97, 108, 105, 100, 32, 115, 121, 110, 116, 97, 120]⟩] 295)
def laidW (w : World) : World := { w with heap := laidHeap w.heap }
theorem start_met (os : Os) (args : Array Value) : laidMetH Tryz.prog Rows.asmReadsRow.laid ((laidW (World.holding Tryz.prog os ⟨#[], #[], []⟩)).forCall (fun _ _ => 0) ⟨#[], args, []⟩).memory :=
  laidMetH_of_parts (laidMet_of_run3 8 (by kernel_rfl) (by kernel_rfl) (by kernel_rfl)) (by kernel_rfl)

set_option maxRecDepth 100000 in
theorem lifted (os : Os) (started : os.Started) (H : Type) (enc : TypeId × Value → H) :
    ReturnsInHanded {} Tryz.checked os 3 .any (fun w args => (Rows.asmReadsSpec.pre enc Tryz.prog Tryz.f3 [] false w args ∧ laidMetH Tryz.prog Rows.asmReadsRow.laid w) ∧ sizedMet enc Tryz.prog Tryz.f3 (OpenSpec.ofChange Rows.asmReadsSpec) false w args)
      (Rows.asmReadsSpec.post enc Tryz.prog Tryz.f3 false true false false) := by
  refine returnsInHanded_of_change_and (C := Tryz.checked) (X := fun w _ => laidMetH Tryz.prog Rows.asmReadsRow.laid w) (fun _ _ _ hh h => h.of_heap hh) own started (by kernel_rfl) Tryz.func3
    (ChangeSpec.witness_at (enc := enc) (C := Tryz.checked) (os := os) (X := fun w _ => laidMetH Tryz.prog Rows.asmReadsRow.laid w) false (laidW (World.holding Tryz.prog os ⟨#[], #[], []⟩)) #[.string ⟨#[]⟩] 8 rfl (by kernel_rfl) (by kernel_rfl) (by kernel_rfl) (by kernel_rfl) (by kernel_rfl) (start_met os _)) ?_
  intro W base args ds gs before hval0 hW _ _ hL _
  have hval : ∀ (j : Nat) t v, Tryz.f3.params[j]? = some t → args[j]? = some v → Value.okWide Tryz.prog W .any base t v := hval0
  have hW' := hW
  obtain ⟨p, q, hA0, hV0, rfl, hfz, hnd⟩ := hW
  have hA : DataW.TrodAll enc Tryz.prog W 0 (fun _ => true) true Tryz.f3.params.toList args.toList ds p := hA0
  have hV : DataW.TrodVars enc Tryz.prog W (fun _ => true) [] gs q := hV0
  rw [Tryz.params3] at hA hval
  obtain ⟨v0, d0, rfl, rfl, h0⟩ := trodAll_one hA
  obtain ⟨rfl, rfl⟩ := trodVars_none hV
  obtain ⟨s, rfl, rfl, rfl, ws⟩ := open_string Tryz.underlying9 (hval 0 9 v0 rfl rfl) h0
  obtain ⟨hT, hg⟩ := laid_tabs hL
  refine (reads_walk s W hT hg).mono fun e W' ⟨he, bel⟩ => ?_
  subst he
  exact ⟨_, rfl, _, _, _, [], _, [], hW', trodAll_mk1 (shut_bool Tryz.underlying4 _), trodAll_mk1 (shut_string Tryz.underlying9 ws), rfl, bel.frame _, fun h => by cases h⟩

theorem asmReads_row : Rows.AsmReadsSaid :=
  OpenClaim.holds_of_wide 3 Tryz.f3 rfl rfl rfl rfl rfl rfl rfl ⟨rfl, rfl, rfl, rfl, rfl⟩ rfl rfl rfl rfl rfl (by kernel_rfl) Tryz.func3 (by kernel_rfl)
    (of_decide_eq_true (by kernel_rfl)) (by unfold Func.isWrapper; rw [if_neg (of_decide_eq_false (by kernel_rfl))]; exact ⟨rfl, rfl⟩)
    (fun os started H enc _ => lifted os started H enc)
/-- The card: the row, its listed variables tied to the program's text. -/
theorem asmReads_holds : Rows.AsmReadsCardSaid :=
  Claim7.holds_tied_plain_at .later [] [.data, .data, .data, .data, .handle, .sentinel, .sentinel, .data, .data, .data, .data, .pinned] true Rows.asmReadsCard.stood.harness true
    asmReads_row (fun _ h => by cases h) (by kernel_rfl) (fun _ h => by cases h) asmReads_row_tie rfl ⟨rfl, rfl⟩ (by kernel_rfl) rfl
    (fun f fn hf hfn => by
      obtain rfl : f = 3 := Option.some.inj ((show Tryz.prog.funcNamed "gatehouse/gatehouselaw.AsmReads" = some 3 by kernel_rfl).symm.trans hf) |>.symm
      obtain rfl : fn = Tryz.f3 := (Option.some.inj (Tryz.func3.symm.trans hfn)).symm
      exact ⟨by kernel_rfl, fun j t ht => by
        rw [Tryz.params3] at ht
        rcases j with _ | j
        · obtain rfl : t = 9 := by simpa using ht.symm
          exact (show Tryz.prog.wantsStandIn 9 = false by kernel_rfl)
        · simp at ht⟩)
    (by kernel_rfl)
#print axioms asmReads_holds
end Go.Proofs.YtegeiicginpdbaaGreatDoor
