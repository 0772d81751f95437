/-
 HookApart returns true at every list of acts and every number, and changes nothing that was there: each has its own. Conditions: the tables of names, the library's tables and its two errors for numbers z4t as the program's text lays them.
-/
import Derived.Test.YtbimlalhodibjaaGreatDoorJf26
import Derived.Test.YtbimlalhodibjaaGreatDoorTie
import Derived.Test.YtbimlalhodibjaaGreatDoorCards
import Derived.JoinedOf
import Derived.Stop.Joined
import Derived.SevenTiedAt
import Derived.Deep.DeepLaidRun
import Derived.Stop.LaidErr
import Derived.Lib.LaidU8T
set_option maxHeartbeats 40000000
set_option maxRecDepth 1000000
set_option linter.defProp false
set_option linter.unusedVariables false
set_option linter.unusedSimpArgs false
namespace Go.Proofs.YtbimlalhodibjaaGreatDoor
open Go.ChangeShapes Go.WideShapes Go.ChangeAt Go.RowKit
set_option linter.unusedVariables false
/-- What else is kept: the library's two errors, and its tables of letters. -/
def hookExt : Ext where
 holds w := z36 w ∧ Lib.Utf8Tabs 4 5 w
 on w w' B hb hB h := by
  refine ⟨h.1.on hb hB, fun c hc => ?_, fun i hi => ⟨?_, ?_⟩⟩
  ·rw [hb.cell (p := ⟨4, c, none⟩) (by show 4 < B; omega)]; exact h.2.1 c hc
  ·rw [hb.cell (p := ⟨5, 2 * i, none⟩) (by show 5 < B; omega)]; exact (h.2.2 i hi).1
  ·rw [hb.cell (p := ⟨5, 2 * i + 1, none⟩) (by show 5 < B; omega)]; exact (h.2.2 i hi).2
set_option maxHeartbeats 2000000 in
set_option maxRecDepth 100000 in
theorem apart_long (a : Option Addr) (len cap : Nat) (wh : Int) (w : World) (h60 : 60 < len) :
  Calls Tryz.prog 5 #[.slice a len cap, .int .i64 wh] w fun e w' => e = .returned (.bool true) ∧ Below w.heap.size w w' := by
 have z60 : decide (60 < (len : Int)) = true := decide_eq_true (by omega)
 go_enter Tryz.func5, Tryz.ntmps5
 go_wp2_with fail
 go_ret
 exact ⟨rfl, Below.refl _ _⟩
theorem apart_all {ex : Ext} (he : ∀ w, ex.holds w → z36 w) (hu : ∀ w, ex.holds w → Lib.Utf8Tabs 4 5 w) (a : Option Addr) (cap : Nat) (xs : List Ac) (wh : Int) (w : World) (hA : zDl w a xs) (hW : ∀ x, x ∈ xs → x.xs.length ≤ 9223372036854775807) (hT : Tabs ex w) : Calls Tryz.prog 5 #[.slice a xs.length cap, .int .i64 wh] w fun e w' => e = .returned (.bool true) ∧ Below w.heap.size w w' := by
 by_cases h : xs.length ≤ 60
 ·exact zYp a cap xs wh w h hA hW fun W hW => zJ7 he hu W (hT.on hW hT.room)
 ·exact apart_long a xs.length cap wh w (by omega)
theorem own : ownKnob Tryz.prog.godebug = none := by kernel_rfl
theorem laidOut : laidOutB Tryz.prog = true := by kernel_rfl
theorem var_lt {P : Program} {w : World} {n : String} {g : Nat} {cs : Array Value} (hg : P.globalNamed n = some g) (h : w.var? P n = some cs) : g < w.heap.size := by
 rcases Nat.lt_or_ge g w.heap.size with k | k
 ·exact k
 ·simp [World.var?, hg, Array.getElem?_eq_none k] at h
theorem star : "*" ++ "errors.errorString" = "*errors.errorString" := by decide
theorem rowE (u : TypeId) (h : Tryz.prog.typeName? 3 u = some "*errors.errorString") : u = 367 :=
 typeName_ptr_named (nm := "errors.errorString") (by rw [star]; kernel_rfl) (by kernel_rfl) (by decide) u (by rw [star]; exact h)
theorem firstsAre : Rows.laid_unicode_utf8_first = Lib.firstData := by kernel_rfl
theorem rangesAre : (Rows.laid_unicode_utf8_acceptRanges : DataW Unit) = Lib.acceptData := by kernel_rfl
theorem err_cell {n : String} {g : Nat} {text : List UInt8} {r : List (String × DataW Unit)} {W : World} (h : laidMet Tryz.prog ((n, .iface "*errors.errorString" (.ptr (.agg [.lit (.string text)]))) :: r) W)
  (hg : Tryz.prog.globalNamed n = some g) (ht : (Tryz.prog.globals[g]?).map (·.type) = some 26) : ∃ te pe, W.cell? ⟨g, 0, none⟩ = some (.iface te pe) := by
 obtain ⟨a, s, hv, _⟩ := laid_sentinel h hg ht Tryz.underlying26 rowE Tryz.underlying367 Tryz.underlying369 rfl rfl Tryz.underlying9 (by kernel_rfl) (by kernel_rfl)
 exact ⟨_, _, (World.var?_cell hg hv 0).trans rfl⟩
theorem laid_tabs {W : World} (h : laidMetH Tryz.prog Rows.hookApartRow.laid W) : Tabs hookExt W := by
 have h' : laidMet Tryz.prog [("math/bits.deBruijn32tab", Rows.laid_math_bits_deBruijn32tab), ("math/bits.deBruijn64tab", Rows.laid_math_bits_deBruijn64tab), ("internal/strconv.uint64pow10", Rows.laid_internal_strconv_uint64pow10), ("unicode/utf8.acceptRanges", Rows.laid_unicode_utf8_acceptRanges), ("strconv.ErrRange", Rows.laid_strconv_ErrRange), ("strconv.ErrSyntax", Rows.laid_strconv_ErrSyntax), ("gatehouse/asm.names", Rows.laid_gatehouse_asm_names), ("gatehouse/asm.calls", Rows.laid_gatehouse_asm_calls), ("unicode/utf8.first", Rows.laid_unicode_utf8_first)] W := h
 refine zFi h' (by simp) (by simp) (by simp) ?_ ⟨⟨err_cell (g := 7) h'.tail.tail.tail.tail.tail (by kernel_rfl) (by kernel_rfl), err_cell (g := 8) h'.tail.tail.tail.tail (by kernel_rfl) (by kernel_rfl)⟩, ?_⟩
 ·obtain ⟨ps, hl, _⟩ := h'
  obtain ⟨g, t, cs, fuel, p, h1, h2, h3, h4⟩ := z7p hl ("math/bits.deBruijn64tab", Rows.laid_math_bits_deBruijn64tab) (by simp)
  have hg : Tryz.prog.globalNamed "math/bits.deBruijn64tab" = some 11 := by kernel_rfl
  have := var_lt hg h3
  omega
 ·exact utf8Tabs_of_readsT (ρ := Tryz.lays197_ren) { Tryz.lays197 with } ⟨by kernel_rfl, by kernel_rfl, by kernel_rfl, by kernel_rfl, by kernel_rfl, by kernel_rfl, by kernel_rfl⟩ (firstsAre ▸ Lib.laidMet.reads h' (by simp)) (rangesAre ▸ Lib.laidMet.reads h' (by simp))
/-- A cell as a datum lists it. -/
def cellOf : DataW Unit → Value
 | .lit (.int k z) => .int k z
 | .lit (.string b) => .string ⟨b.toArray⟩
 | _ => .int .i64 0
def flatOf : DataW Unit → List Value
 | .agg l => l.map cellOf
 | d => [cellOf d]
def cellsOfD : DataW Unit → Array Value
 | .agg l => (l.flatMap flatOf).toArray
 | _ => #[]
/-- A z4t: the listed variables hold what the text lays; the two errors lie behind all. -/
def laidHeap (h : Array Obj) : Array Obj :=
 let put (g : Nat) (cs : Array Value) (h : Array Obj) : Array Obj := h.modify g fun
  | .cells _ t frozen => .cells cs t frozen
  | o => o
 ((put 8 #[.iface 367 (.pointer (some ⟨h.size, 0, none⟩))] (put 7 #[.iface 367 (.pointer (some ⟨h.size + 1, 0, none⟩))] (put 10 (cellsOfD Rows.laid_math_bits_deBruijn32tab) (put 11 (cellsOfD Rows.laid_math_bits_deBruijn64tab)
  (put 9 (cellsOfD Rows.laid_internal_strconv_uint64pow10) (put 1 (cellsOfD Rows.laid_gatehouse_asm_names) (put 3 (cellsOfD Rows.laid_gatehouse_asm_calls)
  (put 4 (cellsOfD Rows.laid_unicode_utf8_first) (put 5 (cellsOfD Rows.laid_unicode_utf8_acceptRanges) h))))))))).push (.cells #[.string ⟨#[118, 97, 108, 117, 101, 32, 111, 117, 116, 32, 111, 102, 32, 114, 97, 110, 103, 101]⟩] 369)).push (.cells #[.string ⟨#[105, 110, 118, 97, 108, 105, 100, 32, 115, 121, 110, 116, 97, 120]⟩] 369)
def laidW (w : World) : World := { w with heap := laidHeap w.heap }
theorem start_met (os : Os) (args : Array Value) : laidMetH Tryz.prog Rows.hookApartRow.laid ((laidW (World.holding Tryz.prog os ⟨#[], #[], []⟩)).forCall (fun _ _ => 0) ⟨#[], args, []⟩).memory :=
 laidMetH_of_parts (laidMet_of_run3 8 (by kernel_rfl) (by kernel_rfl) (by kernel_rfl)) (by kernel_rfl)

set_option maxRecDepth 100000 in
theorem lifted (os : Os) (started : os.Started) (H : Type) (enc : TypeId × Value → H) :
  ReturnsInHanded {} Tryz.checked os 5 .any (fun w args => (Rows.hookApartSpec.pre enc Tryz.prog Tryz.f5 [] false w args ∧ laidMetH Tryz.prog Rows.hookApartRow.laid w) ∧ sizedMet enc Tryz.prog Tryz.f5 (OpenSpec.ofChange Rows.hookApartSpec) false w args)
   (Rows.hookApartSpec.post enc Tryz.prog Tryz.f5 false true false false) := by
 refine returnsInHanded_of_change_and (C := Tryz.checked) (X := fun w _ => laidMetH Tryz.prog Rows.hookApartRow.laid w) (fun _ _ _ hh h => h.of_heap hh) own started (by kernel_rfl) Tryz.func5
  (ChangeSpec.witness_at (enc := enc) (C := Tryz.checked) (os := os) (X := fun w _ => laidMetH Tryz.prog Rows.hookApartRow.laid w) false (laidW (World.holding Tryz.prog os ⟨#[], #[], []⟩)) #[.slice none 0 0, .int .i64 0] 8 rfl (by kernel_rfl) (by kernel_rfl) (by kernel_rfl) (by kernel_rfl) (by kernel_rfl) (start_met os _)) ?_
 intro W base args ds gs before hval0 hW _ _ hL _
 have hval : ∀ (j : Nat) t v, Tryz.f5.params[j]? = some t → args[j]? = some v → Value.okWide Tryz.prog W .any base t v := hval0
 have hW' := hW
 obtain ⟨p, q, hA0, hV0, rfl, hfz, hnd⟩ := hW
 have hA : DataW.TrodAll enc Tryz.prog W 0 (fun _ => true) true Tryz.f5.params.toList args.toList ds p := hA0
 have hV : DataW.TrodVars enc Tryz.prog W (fun _ => true) [] gs q := hV0
 rw [Tryz.params5] at hA hval
 obtain ⟨v0, vs0, d0, ds0, p0, q0, hargs, rfl, rfl, h0, r0⟩ := trodAll_cons hA
 obtain ⟨v1, vs1, d1, ds1, p1, q1, rfl, rfl, rfl, h1, r1⟩ := trodAll_cons r0
 obtain ⟨rfl, rfl, rfl⟩ := trodAll_nil r1
 obtain rfl : args = #[v0, v1] := by cases args; simp_all
 obtain ⟨rfl, rfl⟩ := trodVars_none hV
 obtain ⟨a0, len0, cap0, rfl⟩ := okWide_slice Tryz.underlying62 (hval 0 62 v0 rfl rfl)
 obtain ⟨xs, hxl, hxs⟩ := zSd h0
 have hwi := zYw h0 hxl hxs
 obtain ⟨z, hv1, _, _, wz⟩ := open_int Tryz.underlying3 (hval 1 3 v1 rfl rfl) h1
 have lt0 : ∀ x ∈ p0, x.block < W.heap.size := by obtain ⟨m, hm⟩ := h0; exact DataW.trod_lt m _ _ _ hm
 have lt1 : ∀ x ∈ p1, x.block < W.heap.size := by obtain ⟨m, hm⟩ := h1; exact DataW.trod_lt m _ _ _ hm
 have hT := laid_tabs hL
 have hwalk := apart_all (ex := hookExt) (fun _ h => h.1) (fun _ h => h.2) a0 cap0 xs z W hxs hwi hT
 rw [hxl, ← hv1] at hwalk
 refine hwalk.mono fun e W' ⟨he, bel⟩ => ?_
 subst he
 exact ⟨_, rfl, _, _, _, [], _, [], hW', trodAll_mk1 (shut_bool Tryz.underlying4 _), trodAll_cons_mk (Below.trod laidOut (by kernel_rfl) (of_decide_eq_true (by kernel_rfl)) h0 bel lt0) (trodAll_cons_mk (Below.trod laidOut (by kernel_rfl) (of_decide_eq_true (by kernel_rfl)) h1 bel lt1) trodAll_mk0), rfl, bel.frame _, fun h => by cases h⟩

theorem hookApart_row : Rows.HookApartSaid :=
 OpenClaim.holds_of_wide 5 Tryz.f5 rfl rfl rfl rfl rfl rfl rfl ⟨rfl, rfl, rfl, rfl, rfl⟩ rfl rfl rfl rfl rfl (by kernel_rfl) Tryz.func5 (by kernel_rfl)
  (of_decide_eq_true (by kernel_rfl)) (by unfold Func.isWrapper; rw [if_neg (of_decide_eq_false (by kernel_rfl))]; exact ⟨rfl, rfl⟩)
  (fun os started H enc _ => lifted os started H enc)
/-- The card: the row, its listed variables tied to the program's text. -/
theorem hookApart_holds : Rows.HookApartCardSaid :=
 Claim7.holds_tied_plain_at .later [] [.data, .data, .data, .data, .sentinel, .sentinel, .data, .data, .pinned] true Rows.hookApartCard.stood.harness true
  hookApart_row (fun _ h => by cases h) (by kernel_rfl) (fun _ h => by cases h) hookApart_row_tie rfl ⟨rfl, rfl⟩ (by kernel_rfl) rfl
  (fun f fn hf hfn => by
   obtain rfl : f = 5 := Option.some.inj ((show Tryz.prog.funcNamed "gatehouse/gatehousekeep.HookApart" = some 5 by kernel_rfl).symm.trans hf) |>.symm
   obtain rfl : fn = Tryz.f5 := (Option.some.inj (Tryz.func5.symm.trans hfn)).symm
   exact ⟨by kernel_rfl, fun j t ht => by
    rw [Tryz.params5] at ht
    have h3 : t = 62 ∨ t = 3 := by
     rcases j with _ | _ | j
     ·exact Or.inl (by simpa using ht.symm)
     ·exact Or.inr (by simpa using ht.symm)
     ·simp at ht
    rcases h3 with rfl | rfl
    ·exact (show Tryz.prog.wantsStandIn 62 = false by kernel_rfl)
    ·exact (show Tryz.prog.wantsStandIn 3 = false by kernel_rfl)⟩)
  (by kernel_rfl)
#print axioms hookApart_holds
end Go.Proofs.YtbimlalhodibjaaGreatDoor
