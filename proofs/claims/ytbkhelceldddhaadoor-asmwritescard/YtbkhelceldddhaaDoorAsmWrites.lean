/-
  AsmWrites returns true at every list of steps, and changes nothing that was there: a program as text, or what is wrong with it, is what the document says. Conditions: the library's variable errors.errorType, the tables of names and the library's tables start as the program's text lays them (the card ties them).
-/
import Derived.Test.YtbkhelceldddhaaDoorRefWrite
import Derived.Test.YtbkhelceldddhaaDoorLaid
import Derived.Test.YtbkhelceldddhaaDoorOpen
import Derived.Test.YtbkhelceldddhaaDoorTie
import Derived.Test.YtbkhelceldddhaaDoorCards
import Derived.JoinedOf
import Derived.Stop.Joined
import Derived.SevenTiedAt
import Derived.Deep.DeepLaidRun
namespace Go.Proofs.YtbkhelceldddhaaDoor
open Go.ChangeShapes Go.WideShapes Go.ChangeAt Go.RowKit

theorem HandleAt.fine {a w : World} (h : HandleAt a) (hF : Fine a w) : HandleAt w := h.later hF.bel
/-! ### The law's walk -/
theorem writes_long (a : Option Addr) (len cap : Nat) (h : 300 < len) (w : World) :
    Calls Tryd.prog 4 #[.slice a len cap] w fun e w' => e = .returned (.bool true) ∧ Below w.heap.size w w' := by
  have z : decide (300 < (len : Int)) = true := by simp; omega
  go_enter Tryd.func4, Tryd.ntmps4
  go_wp2
  go_ret
  exact ⟨rfl, Below.refl _ _⟩
theorem two_cells {w w1 : World} {x y : Value} {t : TypeId} (h : Below (w.alloc (.cells #[x, y] t)).heap.size (w.alloc (.cells #[x, y] t)) w1) : w1.cell? ⟨w.heap.size, 0, none⟩ = some x ∧ w1.cell? ⟨w.heap.size, 1, none⟩ = some y := by
  refine ⟨?_, ?_⟩
  · rw [h.cell (p := ⟨w.heap.size, 0, none⟩) (by simp)]; simp
  · rw [h.cell (p := ⟨w.heap.size, 1, none⟩) (by simp)]; simp
theorem writes_limit (a : Option Addr) (len cap : Nat) (h0 : len ≤ 300) (h : len < 1 ∨ 200 < len) (w : World) (hg : HandleAt w) :
    Calls Tryd.prog 4 #[.slice a len cap] w fun e w' => e = .returned (.bool true) ∧ Below w.heap.size w w' := by
  have z : decide (300 < (len : Int)) = false := by simp; omega
  go_enter Tryd.func4, Tryd.ntmps4
  go_wp2_with (first
    | (go_at_call 8; refine (refWrite_limit _ _ _ h _).mono ?_; rintro e w1 ⟨rfl, hb1⟩)
    | (go_at_call 9; refine (write_limit _ _ _ h _).mono ?_; rintro e w2 ⟨rfl, rfl⟩)
    | (go_at_call 5; refine (is_errno 4 _ ((hg.later hb1).alloc _)).mono ?_; rintro e w3 ⟨rfl, hb3⟩))
  go_ret
  exact ⟨rfl, (hb1.alloc hb1.size _).trans (hb3.mono (by have := hb1.size; simp; omega))⟩
section
variable {bk off len cap : Nat} {C D S O N : Nat → Int} {R : Nat → Bool} {w : World}
theorem writes_fine (hno : ∀ j, j < len → faultAt len C D S R O N j = 0) (hfit : ∀ i, i < len → Fits (O i) ∧ Fits (N i)) (hst : StepsAt w bk off len C D S R O N) (h1 : 1 ≤ len) (h2 : len ≤ 200) (hbk : bk < w.heap.size) (hT : Tabs w) :
    Calls Tryd.prog 4 #[.slice (some ⟨bk, off, none⟩) len cap] w fun e w' => e = .returned (.bool true) ∧ Below w.heap.size w w' := by
  have z : decide (300 < (len : Int)) = false := by simp; omega
  have hF := Fine.start hT
  go_enter Tryd.func4, Tryd.ntmps4
  go_wp2_with (first
    | (go_at_call 8; refine (refWrite_fine hno hfit hst h1 h2 hbk hT).mono ?_; rintro e w1 ⟨rfl, hb1⟩; have hF1 := (hF.call hb1).alloc (.cells #[.int .i64 0, .int .i64 (-1)] 29))
    | (go_at_call 9; refine (write_fine hno hfit (hst.later hF1.bel hbk) h1 h2 (Nat.lt_of_lt_of_le hbk hF1.bel.size) hF1.tabs).mono ?_; rintro e w2 ⟨rfl, hb2⟩; obtain ⟨c0, c1⟩ := two_cells hb2; have hF2 := hF1.call hb2)
    | (go_at_call 5; refine (is_nil _).mono ?_; rintro e w3 ⟨rfl, hb3⟩))
  go_ret
  exact ⟨rfl, (hF2.call hb3).bel⟩
theorem writes_bad {i : Nat} (hi : i < len) (hno : ∀ j, j < i → faultAt len C D S R O N j = 0) (hf : faultAt len C D S R O N i ≠ 0) (hst : StepsAt w bk off len C D S R O N) (h1 : 1 ≤ len) (h2 : len ≤ 200) (hbk : bk < w.heap.size) (hg : HandleAt w) :
    Calls Tryd.prog 4 #[.slice (some ⟨bk, off, none⟩) len cap] w fun e w' => e = .returned (.bool true) ∧ Below w.heap.size w w' := by
  have z : decide (300 < (len : Int)) = false := by simp; omega
  go_enter Tryd.func4, Tryd.ntmps4
  go_wp2_with (first
    | (go_at_call 8; refine (refWrite_bad hi hno hf hst h1 h2 hbk).mono ?_; rintro e w1 ⟨rfl, hb1⟩; have hb1' := hb1.alloc hb1.size (.cells #[.int .i64 (faultAt len C D S R O N i), .int .i64 i] 29))
    | (go_at_call 9; refine (write_bad hi hno hf (hst.later hb1' hbk) h1 h2 (Nat.lt_of_lt_of_le hbk hb1'.size)).mono ?_; rintro e w2 ⟨p, rfl, hb2, hpl, hc0, hc1⟩; obtain ⟨c0, c1⟩ := two_cells hb2; have hb2' := hb1'.trans (hb2.mono hb1'.size))
    | (go_at_call 5; refine (is_at _ _ p _ (hg.later hb2') hc0 hc1 hpl).mono ?_; rintro e w3 ⟨rfl, hb3⟩))
  go_ret
  exact ⟨rfl, hb2'.trans (hb3.mono hb2'.size)⟩
end
theorem writes_walk (a : Option Addr) (len cap : Nat) (w : World) (hs : IsStepsF w a len) (hT : Tabs w) (hg : HandleAt w) :
    Calls Tryd.prog 4 #[.slice a len cap] w fun e w' => e = .returned (.bool true) ∧ Below w.heap.size w w' := by
  by_cases k1 : 300 < len
  · exact writes_long a len cap k1 w
  by_cases k2 : len < 1 ∨ 200 < len
  · exact writes_limit a len cap (by omega) k2 w hg
  rcases hs with h0 | ⟨bk, off, C, D, S, O, N, R, rfl, hbk, hst, hfit⟩
  · omega
  rcases first_fault (faultAt len C D S R O N) len with h | ⟨i, hi, hno, hf⟩
  · exact writes_fine h hfit hst (by omega) (by omega) hbk hT
  · exact writes_bad hi hno hf hst (by omega) (by omega) hbk hg

/-! ### The listed variables -/
theorem own : ownKnob Tryd.prog.godebug = none := by kernel_rfl
theorem laidOut : laidOutB Tryd.prog = true := by kernel_rfl
theorem var_lt {P : Program} {w : World} {n : String} {g : Nat} {cs : Array Value} (hg : P.globalNamed n = some g) (h : w.var? P n = some cs) : g < w.heap.size := by
  rcases Nat.lt_or_ge g w.heap.size with k | k
  · exact k
  · simp [World.var?, hg, Array.getElem?_eq_none k] at h
theorem laid_tabs {W : World} (h : laidMetH Tryd.prog Rows.asmWritesRow.laid W) : Tabs W ∧ HandleAt W := by
  have h' : laidMet Tryd.prog [("math/bits.deBruijn32tab", Rows.laid_math_bits_deBruijn32tab), ("math/bits.deBruijn64tab", Rows.laid_math_bits_deBruijn64tab), ("internal/strconv.uint64pow10", Rows.laid_internal_strconv_uint64pow10), ("gatehouse/asm.names", Rows.laid_gatehouse_asm_names), ("gatehouse/asm.calls", Rows.laid_gatehouse_asm_calls), ("gatehouse/gatehouseref.words", Rows.laid_gatehouse_gatehouseref_words), ("gatehouse/gatehouseref.calls", Rows.laid_gatehouse_gatehouseref_calls)] W ∧ handlesMet Tryd.prog [("errors.errorType", Rows.laid_errors_errorType)] W := h
  refine ⟨tabs_of_laid h'.1 (by simp) (by simp) (by simp) (by simp) (by simp) ?_, handle_met h'.2⟩
  obtain ⟨ps, hl, _⟩ := h'.1
  obtain ⟨g, t, cs, fuel, p, h1, h2, h3, h4⟩ := laid_each hl ("math/bits.deBruijn64tab", Rows.laid_math_bits_deBruijn64tab) (by simp)
  have hg : Tryd.prog.globalNamed "math/bits.deBruijn64tab" = some 8 := by kernel_rfl
  have := var_lt hg h3
  omega
/-- A cell as a datum lists it. -/
def cellOf : DataW Unit → Value
  | .lit (.int k z) => .int k z
  | .lit (.string b) => .string ⟨b.toArray⟩
  | _ => .int .i64 0
def cellsOfD : DataW Unit → Array Value
  | .agg l => (l.map cellOf).toArray
  | _ => #[]
/-- A start: the listed variables hold what the text lays. -/
def laidHeap (h : Array Obj) : Array Obj :=
  let put (g : Nat) (cs : Array Value) (h : Array Obj) : Array Obj := h.modify g fun
    | .cells _ t frozen => .cells cs t frozen
    | o => o
  put 4 #[.iface 97 (.agg #[.pointer (some ⟨9, 25, none⟩)])] (put 7 (cellsOfD Rows.laid_math_bits_deBruijn32tab) (put 8 (cellsOfD Rows.laid_math_bits_deBruijn64tab)
    (put 5 (cellsOfD Rows.laid_internal_strconv_uint64pow10) (put 2 (cellsOfD Rows.laid_gatehouse_asm_names) (put 3 (cellsOfD Rows.laid_gatehouse_asm_calls)
    (put 0 (cellsOfD Rows.laid_gatehouse_gatehouseref_words) (put 1 (cellsOfD Rows.laid_gatehouse_gatehouseref_calls) h)))))))
def laidW (w : World) : World := { w with heap := laidHeap w.heap }
theorem start_met (os : Os) (args : Array Value) : laidMetH Tryd.prog Rows.asmWritesRow.laid ((laidW (World.holding Tryd.prog os ⟨#[], #[], []⟩)).forCall (fun _ _ => 0) ⟨#[], args, []⟩).memory :=
  laidMetH_of_parts (laidMet_of_run' 8 (by kernel_rfl) (by kernel_rfl)) (by kernel_rfl)

set_option maxRecDepth 100000 in
theorem lifted (os : Os) (started : os.Started) (H : Type) (enc : TypeId × Value → H) :
    ReturnsInHanded {} Tryd.checked os 4 .any (fun w args => (Rows.asmWritesSpec.pre enc Tryd.prog Tryd.f4 [] false w args ∧ laidMetH Tryd.prog Rows.asmWritesRow.laid w) ∧ sizedMet enc Tryd.prog Tryd.f4 (OpenSpec.ofChange Rows.asmWritesSpec) false w args)
      (Rows.asmWritesSpec.post enc Tryd.prog Tryd.f4 false true false false) := by
  refine returnsInHanded_of_change_and (C := Tryd.checked) (X := fun w _ => laidMetH Tryd.prog Rows.asmWritesRow.laid w) (fun _ _ _ hh h => h.of_heap hh) own started (by kernel_rfl) Tryd.func4
    (ChangeSpec.witness_at (enc := enc) (C := Tryd.checked) (os := os) (X := fun w _ => laidMetH Tryd.prog Rows.asmWritesRow.laid w) false (laidW (World.holding Tryd.prog os ⟨#[], #[], []⟩)) #[.slice none 0 0] 8 rfl (by kernel_rfl) (by kernel_rfl) (by kernel_rfl) (by kernel_rfl) (by kernel_rfl) (start_met os _)) ?_
  intro W base args ds gs before hval0 hW _ _ hL _
  have hval : ∀ (j : Nat) t v, Tryd.f4.params[j]? = some t → args[j]? = some v → Value.okWide Tryd.prog W .any base t v := hval0
  have hW' := hW
  obtain ⟨p, q, hA0, hV0, rfl, hfz, hnd⟩ := hW
  have hA : DataW.TrodAll enc Tryd.prog W 0 (fun _ => true) true Tryd.f4.params.toList args.toList ds p := hA0
  have hV : DataW.TrodVars enc Tryd.prog W (fun _ => true) [] gs q := hV0
  rw [Tryd.params4] at hA hval
  obtain ⟨v0, d0, rfl, rfl, h0⟩ := trodAll_one hA
  obtain ⟨rfl, rfl⟩ := trodVars_none hV
  obtain ⟨a0, len0, cap0, rfl⟩ := okWide_slice Tryd.underlying22 (hval 0 22 v0 rfl rfl)
  have lt0 : ∀ x ∈ p, x.block < W.heap.size := by obtain ⟨m, hm⟩ := h0; exact DataW.trod_lt m _ _ _ hm
  obtain ⟨hT, hg⟩ := laid_tabs hL
  refine (writes_walk a0 len0 cap0 W (steps_open h0) hT hg).mono fun e W' ⟨he, bel⟩ => ?_
  subst he
  exact ⟨_, rfl, _, _, _, [], _, [], hW', trodAll_mk1 (shut_bool Tryd.underlying4 _), trodAll_mk1 (Below.trod laidOut (by kernel_rfl) (of_decide_eq_true (by kernel_rfl)) h0 bel lt0), rfl, bel.frame _, fun h => by cases h⟩

theorem asmWrites_row : Rows.AsmWritesSaid :=
  OpenClaim.holds_of_wide 4 Tryd.f4 rfl rfl rfl rfl rfl rfl rfl ⟨rfl, rfl, rfl, rfl, rfl⟩ rfl rfl rfl rfl rfl (by kernel_rfl) Tryd.func4 (by kernel_rfl)
    (of_decide_eq_true (by kernel_rfl)) (by unfold Func.isWrapper; rw [if_neg (of_decide_eq_false (by kernel_rfl))]; exact ⟨rfl, rfl⟩)
    (fun os started H enc _ => lifted os started H enc)
/-- The card: the row, its listed variables tied to the program's text. -/
theorem asmWrites_holds : Rows.AsmWritesCardSaid :=
  Claim7.holds_tied_plain_at .later [] [.data, .data, .data, .handle, .data, .data, .data, .data] true Rows.asmWritesCard.stood.harness true
    asmWrites_row (fun _ h => by cases h) (by kernel_rfl) (fun _ h => by cases h) asmWrites_row_tie rfl ⟨rfl, rfl⟩ (by kernel_rfl) rfl
    (fun f fn hf hfn => by
      obtain rfl : f = 4 := Option.some.inj ((show Tryd.prog.funcNamed "gatehouse/gatehouselaw.AsmWrites" = some 4 by kernel_rfl).symm.trans hf) |>.symm
      obtain rfl : fn = Tryd.f4 := (Option.some.inj (Tryd.func4.symm.trans hfn)).symm
      exact ⟨by kernel_rfl, fun j t ht => by
        rw [Tryd.params4] at ht
        have h3 : t = 22 := by
          rcases j with _ | j
          · simpa using ht.symm
          · simp at ht
        subst h3
        exact (show Tryd.prog.wantsStandIn 22 = false by kernel_rfl)⟩)
    (by kernel_rfl)
#print axioms asmWrites_holds
end Go.Proofs.YtbkhelceldddhaaDoor
