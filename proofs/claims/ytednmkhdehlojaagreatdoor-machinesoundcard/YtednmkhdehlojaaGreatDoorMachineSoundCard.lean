/-
  MachineSound returns true at every list of steps, every eight words, every table and every time, and changes nothing that was there: a program that is let go can't go wrong. Conditions: the library's variable errors.errorType, the tables of names, the library's tables and its two errors for numbers start as the program's text lays them.
-/
import Derived.Test.YtednmkhdehlojaaGreatDoorJs19
import Derived.Test.YtednmkhdehlojaaGreatDoorTie
import Derived.Test.YtednmkhdehlojaaGreatDoorCards
import Derived.Deep.Slices
import Derived.ChangeSame
import Derived.ChangeVars
import Derived.ChangeOld
import Derived.JoinedOf
import Derived.LaidLaws
import Derived.LaidHandle
import Derived.Stop.Joined
import Derived.SevenTiedAt
import Derived.Deep.DeepLaidRun
import Derived.Stop.LaidErr
import Derived.Lib.LaidU8T
import Derived.Lib.SmallJoins
set_option maxHeartbeats 4000000
set_option maxRecDepth 1000000
namespace Go.Proofs.YtednmkhdehlojaaGreatDoor
open Go.ChangeShapes Go.WideShapes Go.ChangeAt Go.RowKit
open Go.Joins
set_option linter.unusedVariables false
theorem ErrTabs.on {w w' : World} {B : Nat} (h : ErrTabs w) (hb : Below B w w') (hB : 14 ≤ B) : ErrTabs w' := by
  obtain ⟨⟨t, p, h1⟩, ⟨t', p', h2⟩⟩ := h
  refine ⟨⟨t, p, ?_⟩, ⟨t', p', ?_⟩⟩
  · rw [hb.cell (p := ⟨9, 0, none⟩) (by show 9 < B; omega)]; exact h1
  · rw [hb.cell (p := ⟨10, 0, none⟩) (by show 10 < B; omega)]; exact h2
/-- What else is kept: the library's two errors, and its tables of letters. -/
def soundExt : Ext where
  holds w := ErrTabs w ∧ Lib.Utf8Tabs 7 8 w
  on w w' B hb hB h := by
    refine ⟨h.1.on hb hB, fun c hc => ?_, fun i hi => ⟨?_, ?_⟩⟩
    · rw [hb.cell (p := ⟨7, c, none⟩) (by show 7 < B; omega)]; exact h.2.1 c hc
    · rw [hb.cell (p := ⟨8, 2 * i, none⟩) (by show 8 < B; omega)]; exact (h.2.2 i hi).1
    · rw [hb.cell (p := ⟨8, 2 * i + 1, none⟩) (by show 8 < B; omega)]; exact (h.2.2 i hi).2
section
variable {H : Type} {enc : TypeId × Value → H} {w : World}
theorem okWide_row {P : Program} {w : World} {r : Reach} {b0 n : Nat} {t e : TypeId} {v : Value} (ht : P.underlying t = some (.array n e)) (h : Value.okWide P w r b0 t v) : ∃ cs, v = .agg cs ∧ cs.size = P.cellsOf t := by
  unfold Value.okWide at h
  rw [ht] at h
  obtain ⟨cs, h1, h2, _⟩ := h
  exact ⟨cs, h1, h2⟩
theorem take_one {l : List Value} {i : Nat} {x : Value} (h : (l.drop i).take 1 = [x]) : l[i]? = some x := by
  have e : ((l.drop i).take 1)[0]? = some x := by rw [h]; rfl
  rw [List.getElem?_take, if_pos (by decide), List.getElem?_drop] at e
  exact e
set_option maxRecDepth 100000 in
theorem told_open {r : Reach} {b0 : Nat} {v : Value} {d : DataW H} {ps : List MemPlace} (hv : Value.okWide Tryz.prog w r b0 52 v) (h : DataW.Trod enc Tryz.prog w 0 (fun _ => true) true 52 v d ps) : ∃ T : Nat → Int, v = .agg #[.int .i64 (T 0), .int .i64 (T 1), .int .i64 (T 2), .int .i64 (T 3), .int .i64 (T 4), .int .i64 (T 5), .int .i64 (T 6), .int .i64 (T 7)] ∧ ∀ i, i < 8 → In64 (T i) := by
  obtain ⟨cs, hv', hs⟩ := okWide_row Tryz.underlying52 hv
  subst hv'
  have hs8 : cs.size = 8 := hs.trans (by kernel_rfl)
  obtain ⟨fuel, hf⟩ := h
  obtain ⟨xs, m, _, _, _, hx, hi⟩ := DataW.trod_array Tryz.underlying52 hf
  have k2 : Tryz.prog.cellsOf 2 = 1 := by kernel_rfl
  have all : ∀ i, ∃ n : Int, i < 8 → cs.toList[i]? = some (.int .i64 n) ∧ In64 n := by
    intro i
    by_cases h8 : i < 8
    · have e := hi i h8
      rw [k2, Nat.mul_one, List.getElem?_eq_getElem (by omega)] at e
      obtain ⟨n, g, _, wf⟩ := DataW.trod_int Tryz.underlying2 e
      exact ⟨n, fun _ => ⟨take_one g, bounds_i64 wf⟩⟩
    · exact ⟨0, fun h => absurd h h8⟩
  obtain ⟨T, hT⟩ := Classical.axiomOfChoice all
  refine ⟨T, ?_, fun i h8 => (hT i h8).2⟩
  congr 1
  apply Array.toList_inj.1
  apply List.ext_getElem?
  intro i
  by_cases h8 : i < 8
  · rw [(hT i h8).1]
    rcases (show i = 0 ∨ i = 1 ∨ i = 2 ∨ i = 3 ∨ i = 4 ∨ i = 5 ∨ i = 6 ∨ i = 7 by omega) with rfl | rfl | rfl | rfl | rfl | rfl | rfl | rfl <;> rfl
  · rw [List.getElem?_eq_none (by rw [Array.length_toList]; omega), List.getElem?_eq_none (by simp; omega)]
set_option maxRecDepth 100000 in
theorem table_open {r : Reach} {b0 : Nat} {v : Value} {d : DataW H} {ps : List MemPlace} (hv : Value.okWide Tryz.prog w r b0 55 v) (h : DataW.Trod enc Tryz.prog w 0 (fun _ => true) true 55 v d ps) : ∃ K : Nat → Int, v = .agg #[.int .i64 (K 0), .int .i64 (K 1), .int .i64 (K 2), .int .i64 (K 3), .int .i64 (K 4), .int .i64 (K 5), .int .i64 (K 6), .int .i64 (K 7), .int .i64 (K 8), .int .i64 (K 9), .int .i64 (K 10), .int .i64 (K 11), .int .i64 (K 12), .int .i64 (K 13), .int .i64 (K 14), .int .i64 (K 15)] ∧ ∀ i, i < 16 → In64 (K i) := by
  obtain ⟨cs, hv', hs⟩ := okWide_row Tryz.underlying55 hv
  subst hv'
  have hs16 : cs.size = 16 := hs.trans (by kernel_rfl)
  obtain ⟨fuel, hf⟩ := h
  obtain ⟨xs, m, _, _, _, hx, hi⟩ := DataW.trod_array Tryz.underlying55 hf
  have k2 : Tryz.prog.cellsOf 2 = 1 := by kernel_rfl
  have k4 : Tryz.prog.cellsOf 53 = 4 := by kernel_rfl
  have all : ∀ k, ∃ n : Int, k < 16 → cs.toList[k]? = some (.int .i64 n) ∧ In64 n := by
    intro k
    by_cases h16 : k < 16
    · have e := hi (k / 4) (by omega)
      rw [k4, List.getElem?_eq_getElem (by omega)] at e
      obtain ⟨ys, m2, _, _, _, hy, hj⟩ := DataW.trod_array Tryz.underlying53 e
      have e2 := hj (k % 4) (by omega)
      rw [k2, Nat.mul_one, List.getElem?_eq_getElem (by omega)] at e2
      obtain ⟨n, g, _, wf⟩ := DataW.trod_int Tryz.underlying2 e2
      have g2 := take_one g
      have hv2 : (List.take 4 (List.drop (k / 4 * 4) (Value.agg cs).cells.toList))[k % 4]? = some (.int .i64 n) := g2
      rw [List.getElem?_take, if_pos (by omega), List.getElem?_drop, show k / 4 * 4 + k % 4 = k by omega] at hv2
      exact ⟨n, fun _ => ⟨hv2, bounds_i64 wf⟩⟩
    · exact ⟨0, fun h => absurd h h16⟩
  obtain ⟨K, hK⟩ := Classical.axiomOfChoice all
  refine ⟨K, ?_, fun i h8 => (hK i h8).2⟩
  congr 1
  apply Array.toList_inj.1
  apply List.ext_getElem?
  intro i
  by_cases h8 : i < 16
  · rw [(hK i h8).1]
    rcases (show i = 0 ∨ i = 1 ∨ i = 2 ∨ i = 3 ∨ i = 4 ∨ i = 5 ∨ i = 6 ∨ i = 7 ∨ i = 8 ∨ i = 9 ∨ i = 10 ∨ i = 11 ∨ i = 12 ∨ i = 13 ∨ i = 14 ∨ i = 15 by omega) with rfl | rfl | rfl | rfl | rfl | rfl | rfl | rfl | rfl | rfl | rfl | rfl | rfl | rfl | rfl | rfl <;> rfl
  · rw [List.getElem?_eq_none (by rw [Array.length_toList]; omega), List.getElem?_eq_none (by simp; omega)]
end

theorem own : ownKnob Tryz.prog.godebug = none := by kernel_rfl
theorem laidOut : laidOutB Tryz.prog = true := by kernel_rfl
theorem var_lt {P : Program} {w : World} {n : String} {g : Nat} {cs : Array Value} (hg : P.globalNamed n = some g) (h : w.var? P n = some cs) : g < w.heap.size := by
  rcases Nat.lt_or_ge g w.heap.size with k | k
  · exact k
  · simp [World.var?, hg, Array.getElem?_eq_none k] at h
theorem star : "*" ++ "errors.errorString" = "*errors.errorString" := by decide
theorem rowE (u : TypeId) (h : Tryz.prog.typeName? 3 u = some "*errors.errorString") : u = 293 :=
  typeName_ptr_named (nm := "errors.errorString") (by rw [star]; kernel_rfl) (by kernel_rfl) (by decide) u (by rw [star]; exact h)
theorem firstsAre : Rows.laid_unicode_utf8_first = Lib.firstData := by kernel_rfl
theorem rangesAre : (Rows.laid_unicode_utf8_acceptRanges : DataW Unit) = Lib.acceptData := by kernel_rfl
theorem err_cell {n : String} {g : Nat} {text : List UInt8} {r : List (String × DataW Unit)} {W : World} (h : laidMet Tryz.prog ((n, .iface "*errors.errorString" (.ptr (.agg [.lit (.string text)]))) :: r) W)
    (hg : Tryz.prog.globalNamed n = some g) (ht : (Tryz.prog.globals[g]?).map (·.type) = some 29) : ∃ te pe, W.cell? ⟨g, 0, none⟩ = some (.iface te pe) := by
  obtain ⟨a, s, hv, _⟩ := laid_sentinel h hg ht Tryz.underlying29 rowE Tryz.underlying293 Tryz.underlying295 rfl rfl Tryz.underlying9 (by kernel_rfl) (by kernel_rfl)
  exact ⟨_, _, (World.var?_cell hg hv 0).trans rfl⟩
theorem laid_tabs {W : World} (h : laidMetH Tryz.prog Rows.machineSoundRow.laid W) : Tabs soundExt W ∧ HandleAt W := by
  have h' : laidMet Tryz.prog [("math/bits.deBruijn32tab", Rows.laid_math_bits_deBruijn32tab), ("math/bits.deBruijn64tab", Rows.laid_math_bits_deBruijn64tab), ("internal/strconv.uint64pow10", Rows.laid_internal_strconv_uint64pow10), ("unicode/utf8.acceptRanges", Rows.laid_unicode_utf8_acceptRanges), ("strconv.ErrRange", Rows.laid_strconv_ErrRange), ("strconv.ErrSyntax", Rows.laid_strconv_ErrSyntax), ("gatehouse/asm.names", Rows.laid_gatehouse_asm_names), ("gatehouse/asm.calls", Rows.laid_gatehouse_asm_calls), ("unicode/utf8.first", Rows.laid_unicode_utf8_first)] W ∧ handlesMet Tryz.prog [("errors.errorType", Rows.laid_errors_errorType)] W := h
  obtain ⟨h', hh⟩ := h'
  refine ⟨tabs_of_laid h' (by simp) (by simp) (by simp) ?_ ⟨⟨err_cell (g := 9) h'.tail.tail.tail.tail.tail (by kernel_rfl) (by kernel_rfl), err_cell (g := 10) h'.tail.tail.tail.tail (by kernel_rfl) (by kernel_rfl)⟩, ?_⟩, handle_met hh⟩
  · obtain ⟨ps, hl, _⟩ := h'
    obtain ⟨g, t, cs, fuel, p, h1, h2, h3, h4⟩ := laid_each hl ("math/bits.deBruijn64tab", Rows.laid_math_bits_deBruijn64tab) (by simp)
    have hg : Tryz.prog.globalNamed "math/bits.deBruijn64tab" = some 13 := by kernel_rfl
    have := var_lt hg h3
    omega
  · exact utf8Tabs_of_readsT (ρ := Tryz.lays197_ren) { Tryz.lays197 with } ⟨by kernel_rfl, by kernel_rfl, by kernel_rfl, by kernel_rfl, by kernel_rfl, by kernel_rfl, by kernel_rfl⟩ (firstsAre ▸ Lib.laidMet.reads h' (by simp)) (rangesAre ▸ Lib.laidMet.reads h' (by simp))
/-- A cell as a datum lists it. -/
def cellOf : DataW Unit → Value
  | .lit (.int k z) => .int k z
  | .lit (.string b) => .string ⟨b.toArray⟩
  | _ => .int .i64 0
def flatOf : DataW Unit → List Value
  | .agg l => l.map cellOf
  | d => [cellOf d]
def cellsOfD : DataW Unit → Array Value
  | .agg l => (l.flatMap flatOf).toArray
  | _ => #[]
/-- A start: the listed variables hold what the text lays; the two errors lie behind all. -/
def laidHeap (h : Array Obj) : Array Obj :=
  let put (g : Nat) (cs : Array Value) (h : Array Obj) : Array Obj := h.modify g fun
    | .cells _ t frozen => .cells cs t frozen
    | o => o
  ((put 4 #[.iface 196 (.agg #[.pointer (some ⟨14, 29, none⟩)])] (put 10 #[.iface 293 (.pointer (some ⟨h.size, 0, none⟩))] (put 9 #[.iface 293 (.pointer (some ⟨h.size + 1, 0, none⟩))] (put 12 (cellsOfD Rows.laid_math_bits_deBruijn32tab) (put 13 (cellsOfD Rows.laid_math_bits_deBruijn64tab)
    (put 11 (cellsOfD Rows.laid_internal_strconv_uint64pow10) (put 2 (cellsOfD Rows.laid_gatehouse_asm_names) (put 5 (cellsOfD Rows.laid_gatehouse_asm_calls)
    (put 7 (cellsOfD Rows.laid_unicode_utf8_first) (put 8 (cellsOfD Rows.laid_unicode_utf8_acceptRanges) h)))))))))).push (.cells #[.string ⟨#[118, 97, 108, 117, 101, 32, 111, 117, 116, 32, 111, 102, 32, 114, 97, 110, 103, 101]⟩] 295)).push (.cells #[.string ⟨#[105, 110, 118, 97, 108, 105, 100, 32, 115, 121, 110, 116, 97, 120]⟩] 295)
def laidW (w : World) : World := { w with heap := laidHeap w.heap }
theorem start_met (os : Os) (args : Array Value) : laidMetH Tryz.prog Rows.machineSoundRow.laid ((laidW (World.holding Tryz.prog os ⟨#[], #[], []⟩)).forCall (fun _ _ => 0) ⟨#[], args, []⟩).memory :=
  laidMetH_of_parts (laidMet_of_run3 8 (by kernel_rfl) (by kernel_rfl) (by kernel_rfl)) (by kernel_rfl)

set_option maxRecDepth 100000 in
theorem lifted (os : Os) (started : os.Started) (H : Type) (enc : TypeId × Value → H) :
    ReturnsInHanded {} Tryz.checked os 7 .any (fun w args => (Rows.machineSoundSpec.pre enc Tryz.prog Tryz.f7 [] false w args ∧ laidMetH Tryz.prog Rows.machineSoundRow.laid w) ∧ sizedMet enc Tryz.prog Tryz.f7 (OpenSpec.ofChange Rows.machineSoundSpec) false w args)
      (Rows.machineSoundSpec.post enc Tryz.prog Tryz.f7 false true false false) := by
  refine returnsInHanded_of_change_and (C := Tryz.checked) (X := fun w _ => laidMetH Tryz.prog Rows.machineSoundRow.laid w) (fun _ _ _ hh h => h.of_heap hh) own started (by kernel_rfl) Tryz.func7
    (ChangeSpec.witness_at (enc := enc) (C := Tryz.checked) (os := os) (X := fun w _ => laidMetH Tryz.prog Rows.machineSoundRow.laid w) false (laidW (World.holding Tryz.prog os ⟨#[], #[], []⟩)) #[.slice none 0 0, .agg #[.int .i64 0, .int .i64 0, .int .i64 0, .int .i64 0, .int .i64 0, .int .i64 0, .int .i64 0, .int .i64 0], .agg #[.int .i64 0, .int .i64 0, .int .i64 0, .int .i64 0, .int .i64 0, .int .i64 0, .int .i64 0, .int .i64 0, .int .i64 0, .int .i64 0, .int .i64 0, .int .i64 0, .int .i64 0, .int .i64 0, .int .i64 0, .int .i64 0], .int .i64 0] 8 rfl (by kernel_rfl) (by kernel_rfl) (by kernel_rfl) (by kernel_rfl) (by kernel_rfl) (start_met os _)) ?_
  intro W base args ds gs before hval0 hW _ _ hL _
  have hval : ∀ (j : Nat) t v, Tryz.f7.params[j]? = some t → args[j]? = some v → Value.okWide Tryz.prog W .any base t v := hval0
  have hW' := hW
  obtain ⟨p, q, hA0, hV0, rfl, hfz, hnd⟩ := hW
  have hA : DataW.TrodAll enc Tryz.prog W 0 (fun _ => true) true Tryz.f7.params.toList args.toList ds p := hA0
  have hV : DataW.TrodVars enc Tryz.prog W (fun _ => true) [] gs q := hV0
  rw [Tryz.params7] at hA hval
  obtain ⟨v0, vs0, d0, ds0, p0, q0, hargs, rfl, rfl, h0, r0⟩ := trodAll_cons hA
  obtain ⟨v1, vs1, d1, ds1, p1, q1, rfl, rfl, rfl, h1, r1⟩ := trodAll_cons r0
  obtain ⟨v2, vs2, d2, ds2, p2, q2, rfl, rfl, rfl, h2, r2⟩ := trodAll_cons r1
  obtain ⟨v3, vs3, d3, ds3, p3, q3, rfl, rfl, rfl, h3, r3⟩ := trodAll_cons r2
  obtain ⟨rfl, rfl, rfl⟩ := trodAll_nil r3
  obtain rfl : args = #[v0, v1, v2, v3] := by cases args; simp_all
  obtain ⟨rfl, rfl⟩ := trodVars_none hV
  obtain ⟨a0, len0, cap0, rfl⟩ := okWide_slice Tryz.underlying22 (hval 0 22 v0 rfl rfl)
  obtain ⟨T, hv1, hT⟩ := told_open (hval 1 52 v1 rfl rfl) h1
  obtain ⟨K, hv2, hK⟩ := table_open (hval 2 55 v2 rfl rfl) h2
  obtain ⟨x, hv3, _, _, wx⟩ := open_int Tryz.underlying2 (hval 3 2 v3 rfl rfl) h3
  have lt0 : ∀ x ∈ p0, x.block < W.heap.size := by obtain ⟨m, hm⟩ := h0; exact DataW.trod_lt m _ _ _ hm
  have lt1 : ∀ x ∈ p1, x.block < W.heap.size := by obtain ⟨m, hm⟩ := h1; exact DataW.trod_lt m _ _ _ hm
  have lt2 : ∀ x ∈ p2, x.block < W.heap.size := by obtain ⟨m, hm⟩ := h2; exact DataW.trod_lt m _ _ _ hm
  have lt3 : ∀ x ∈ p3, x.block < W.heap.size := by obtain ⟨m, hm⟩ := h3; exact DataW.trod_lt m _ _ _ hm
  obtain ⟨hT0, hg⟩ := laid_tabs hL
  have hwalk := sound_all (ex := soundExt) (fun _ h => h.1) (fun _ h => h.2) a0 len0 cap0 T K x W (steps_open h0) hT0 hg hT hK (bounds_i64 wx)
  rw [← hv1, ← hv2, ← hv3] at hwalk
  refine hwalk.mono fun e W' ⟨he, bel⟩ => ?_
  subst he
  exact ⟨_, rfl, _, _, _, [], _, [], hW', trodAll_mk1 (shut_bool Tryz.underlying4 _), (trodAll_cons_mk (Below.trod laidOut (by kernel_rfl) (of_decide_eq_true (by kernel_rfl)) h0 bel lt0) (trodAll_cons_mk (Below.trod laidOut (by kernel_rfl) (of_decide_eq_true (by kernel_rfl)) h1 bel lt1) (trodAll_cons_mk (Below.trod laidOut (by kernel_rfl) (of_decide_eq_true (by kernel_rfl)) h2 bel lt2) (trodAll_cons_mk (Below.trod laidOut (by kernel_rfl) (of_decide_eq_true (by kernel_rfl)) h3 bel lt3) trodAll_mk0)))), rfl, bel.frame _, fun h => by cases h⟩

theorem machineSound_row : Rows.MachineSoundSaid :=
  OpenClaim.holds_of_wide 7 Tryz.f7 rfl rfl rfl rfl rfl rfl rfl ⟨rfl, rfl, rfl, rfl, rfl⟩ rfl rfl rfl rfl rfl (by kernel_rfl) Tryz.func7 (by kernel_rfl)
    (of_decide_eq_true (by kernel_rfl)) (by unfold Func.isWrapper; rw [if_neg (of_decide_eq_false (by kernel_rfl))]; exact ⟨rfl, rfl⟩)
    (fun os started H enc _ => lifted os started H enc)
/-- The card: the row, its listed variables tied to the program's text. -/
theorem machineSound_holds : Rows.MachineSoundCardSaid :=
  Claim7.holds_tied_plain_at .later [] [.data, .data, .data, .data, .handle, .sentinel, .sentinel, .data, .data, .pinned] true Rows.machineSoundCard.stood.harness true
    machineSound_row (fun _ h => by cases h) (by kernel_rfl) (fun _ h => by cases h) machineSound_row_tie rfl ⟨rfl, rfl⟩ (by kernel_rfl) rfl
    (fun f fn hf hfn => by
      obtain rfl : f = 7 := Option.some.inj ((show Tryz.prog.funcNamed "gatehouse/gatehousekeep.MachineSound" = some 7 by kernel_rfl).symm.trans hf) |>.symm
      obtain rfl : fn = Tryz.f7 := (Option.some.inj (Tryz.func7.symm.trans hfn)).symm
      exact ⟨by kernel_rfl, fun j t ht => by
        rw [Tryz.params7] at ht
        have h3 : t = 22 ∨ t = 52 ∨ t = 55 ∨ t = 2 := by
          rcases j with _ | _ | _ | _ | j
          · exact Or.inl (by simpa using ht.symm)
          · exact Or.inr (Or.inl (by simpa using ht.symm))
          · exact Or.inr (Or.inr (Or.inl (by simpa using ht.symm)))
          · exact Or.inr (Or.inr (Or.inr (by simpa using ht.symm)))
          · simp at ht
        rcases h3 with rfl | rfl | rfl | rfl
        · exact (show Tryz.prog.wantsStandIn 22 = false by kernel_rfl)
        · exact (show Tryz.prog.wantsStandIn 52 = false by kernel_rfl)
        · exact (show Tryz.prog.wantsStandIn 55 = false by kernel_rfl)
        · exact (show Tryz.prog.wantsStandIn 2 = false by kernel_rfl)⟩)
    (by kernel_rfl)
#print axioms machineSound_holds
end Go.Proofs.YtednmkhdehlojaaGreatDoor
