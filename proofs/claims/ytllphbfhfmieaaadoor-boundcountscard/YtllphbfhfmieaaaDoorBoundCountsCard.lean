/-
  BoundCounts returns true at every code, every two bounds and every number of 64 bits, and changes nothing: between which numbers is what codes make, and what is left of two by what codes ask, is what the document says. Conditions: the document's variable of all numbers starts as the program's text lays it.
-/
import Derived.Test.YtllphbfhfmieaaaDoorBoundCounts
import Derived.Test.YtllphbfhfmieaaaDoorRows
import Derived.Test.YtllphbfhfmieaaaDoorTie
import Derived.Test.YtllphbfhfmieaaaDoorCards
import Derived.Lib.SmallJoins
import Derived.JoinedOf
import Derived.Stop.Joined
import Derived.SevenTiedAt
import Derived.Deep.DeepLaidRun
import Derived.LaidHandle
import Derived.LaidLaws
import Derived.Lib.LaidU8
namespace Go.Proofs.YtllphbfhfmieaaaDoor
open Go.ChangeShapes Go.WideShapes Go.ChangeAt Go.RowKit
open Go.Joins
set_option linter.unusedVariables false
theorem own : ownKnob Tryd.prog.godebug = none := by kernel_rfl
theorem laidOut : laidOutB Tryd.prog = true := by kernel_rfl
theorem cellsB : Tryd.prog.cellsOf 37 = 2 := by kernel_rfl
theorem cellsR : Tryd.prog.cellsOf 39 = 2 := by kernel_rfl
theorem var_lt {P : Program} {w : World} {n : String} {g : Nat} {cs : Array Value} (hg : P.globalNamed n = some g) (h : w.var? P n = some cs) : g < w.heap.size := by
  rcases Nat.lt_or_ge g w.heap.size with k | k
  · exact k
  · simp [World.var?, hg, Array.getElem?_eq_none k] at h
/-- The listed variable holds all numbers. -/
theorem laid_all {W : World} (h : laidMetH Tryd.prog Rows.boundCountsRow.laid W) : AllAt W := by
  have h' : laidMet Tryd.prog [("gatehouse/gatehouseref.all", Rows.laid_gatehouse_gatehouseref_all)] W := h
  obtain ⟨g, t, cs, fuel, p, hg, hty, hvar, hd⟩ := Lib.laidMet.reads h' (n := "gatehouse/gatehouseref.all") (d := Rows.laid_gatehouse_gatehouseref_all) (by simp)
  obtain rfl := Option.some.inj ((show Tryd.prog.globalNamed "gatehouse/gatehouseref.all" = some 2 by kernel_rfl).symm.trans hg)
  obtain rfl := Option.some.inj ((show (Tryd.prog.globals[2]?).map (·.type) = some 39 by kernel_rfl).symm.trans hty)
  have hl := Lib.ints_of_struct (zs := [-9223372036854775808, 9223372036854775807]) (k := .i64) Tryd.underlying39 (fun i f hf => by
    rcases i with _ | _ | i
    · obtain rfl := Option.some.inj hf; exact ⟨Tryd.underlying2, rfl, by kernel_rfl⟩
    · obtain rfl := Option.some.inj hf; exact ⟨Tryd.underlying2, rfl, by kernel_rfl⟩
    · simp at hf) (by kernel_rfl) hd
  have hx : cs = #[.int .i64 (-9223372036854775808), .int .i64 9223372036854775807] := by
    have e := congrArg List.toArray hl
    simpa using e
  subst hx
  exact ⟨var_lt hg hvar, (World.var?_cell hg hvar 0).trans rfl, (World.var?_cell hg hvar 1).trans rfl⟩
theorem walk (c al ah bl bh n : Int) (w1 : (Lit.int .i64 al).wf = true) (w2 : (Lit.int .i64 ah).wf = true) (w3 : (Lit.int .i64 bl).wf = true) (w4 : (Lit.int .i64 bh).wf = true) (w5 : (Lit.int .i64 n).wf = true) (w : World) (hA : AllAt w) :
    Calls Tryd.prog 5 #[.int .i64 c, .agg #[.int .i64 al, .int .i64 ah], .agg #[.int .i64 bl, .int .i64 bh], .int .i64 n] w fun e w' => e = .returned (.bool true) ∧ Below w.heap.size w w' :=
  counts1 c al ah bl bh n (bounds_i64 w1).1 (bounds_i64 w1).2 (bounds_i64 w2).1 (bounds_i64 w2).2 (bounds_i64 w3).1 (bounds_i64 w3).2 (bounds_i64 w4).1 (bounds_i64 w4).2 (bounds_i64 w5).1 (bounds_i64 w5).2 w hA
/-- A start: the listed variable holds what the text lays. -/
def laidHeap (h : Array Obj) : Array Obj := h.modify 2 fun
  | .cells _ t frozen => .cells #[.int .i64 (-9223372036854775808), .int .i64 9223372036854775807] t frozen
  | o => o
def laidW (w : World) : World := { w with heap := laidHeap w.heap }
theorem start_met (os : Os) (args : Array Value) : laidMetH Tryd.prog Rows.boundCountsRow.laid ((laidW (World.holding Tryd.prog os ⟨#[], #[], []⟩)).forCall (fun _ _ => 0) ⟨#[], args, []⟩).memory :=
  laidMetH_of_parts (laidMet_of_run3 8 (by kernel_rfl) (by kernel_rfl) (by kernel_rfl)) (by kernel_rfl)
set_option maxRecDepth 100000 in
theorem lifted (os : Os) (started : os.Started) (H : Type) (enc : TypeId × Value → H) :
    ReturnsInHanded {} Tryd.checked os 5 .any (fun w args => (Rows.boundCountsSpec.pre enc Tryd.prog Tryd.f5 [] false w args ∧ laidMetH Tryd.prog Rows.boundCountsRow.laid w) ∧ sizedMet enc Tryd.prog Tryd.f5 (OpenSpec.ofChange Rows.boundCountsSpec) false w args)
      (Rows.boundCountsSpec.post enc Tryd.prog Tryd.f5 false true false false) := by
  refine returnsInHanded_of_change_and (C := Tryd.checked) (X := fun w _ => laidMetH Tryd.prog Rows.boundCountsRow.laid w) (fun _ _ _ hh h => h.of_heap hh) own started (by kernel_rfl) Tryd.func5
    (ChangeSpec.witness_at (enc := enc) (C := Tryd.checked) (os := os) (X := fun w _ => laidMetH Tryd.prog Rows.boundCountsRow.laid w) false (laidW (World.holding Tryd.prog os ⟨#[], #[], []⟩)) #[.int .i64 0, .agg #[.int .i64 0, .int .i64 0], .agg #[.int .i64 0, .int .i64 0], .int .i64 0] 8 rfl (by kernel_rfl) (by kernel_rfl) (by kernel_rfl) (by kernel_rfl) (by kernel_rfl) (start_met os _)) ?_
  intro W base args ds gs before hval0 hW _ _ hL _
  have hval : ∀ (j : Nat) t v, Tryd.f5.params[j]? = some t → args[j]? = some v → Value.okWide Tryd.prog W .any base t v := hval0
  have hW' := hW
  obtain ⟨p, q, hA0, hV0, rfl, hfz, hnd⟩ := hW
  have hA : DataW.TrodAll enc Tryd.prog W 0 (fun _ => true) true Tryd.f5.params.toList args.toList ds p := hA0
  have hV : DataW.TrodVars enc Tryd.prog W (fun _ => true) [] gs q := hV0
  rw [Tryd.params5] at hA hval
  obtain ⟨v0, vs0, d0, ds0, p0, q0, hargs, rfl, rfl, h0, r0⟩ := trodAll_cons hA
  obtain ⟨v1, vs1, d1, ds1, p1, q1, rfl, rfl, rfl, h1, r1⟩ := trodAll_cons r0
  obtain ⟨v2, vs2, d2, ds2, p2, q2, rfl, rfl, rfl, h2, r2⟩ := trodAll_cons r1
  obtain ⟨v3, vs3, d3, ds3, p3, q3, rfl, rfl, rfl, h3, r3⟩ := trodAll_cons r2
  obtain ⟨rfl, rfl, rfl⟩ := trodAll_nil r3
  obtain rfl : args = #[v0, v1, v2, v3] := by cases args; simp_all
  obtain ⟨rfl, rfl⟩ := trodVars_none hV
  obtain ⟨a0, rfl, rfl, rfl, w0⟩ := open_int Tryd.underlying3 (hval 0 3 v0 rfl rfl) h0
  obtain ⟨c0, c1, y0, y1, m, rfl, rfl, rfl, hy0, hy1⟩ := open_agg2 Tryd.underlying37 (by kernel_rfl) cellsB (hval 1 37 v1 rfl rfl) h1
  obtain ⟨al, e0, rfl, wal⟩ := DataW.trod_int Tryd.underlying2 hy0
  obtain ⟨ah, e1, rfl, wah⟩ := DataW.trod_int Tryd.underlying2 hy1
  obtain ⟨c2, c3, y2, y3, m2, rfl, rfl, rfl, hy2, hy3⟩ := open_agg2 Tryd.underlying37 (by kernel_rfl) cellsB (hval 2 37 v2 rfl rfl) h2
  obtain ⟨bl, e2, rfl, wbl⟩ := DataW.trod_int Tryd.underlying2 hy2
  obtain ⟨bh, e3, rfl, wbh⟩ := DataW.trod_int Tryd.underlying2 hy3
  simp at e0 e1 e2 e3
  subst e0 e1 e2 e3
  obtain ⟨x, rfl, rfl, rfl, wx⟩ := open_int Tryd.underlying2 (hval 3 2 v3 rfl rfl) h3
  clear hA0 hval0
  simp only [List.append_nil] at hW'
  have structReads : ∀ (a b : Int) (wa : (Lit.int .i64 a).wf = true) (wb : (Lit.int .i64 b).wf = true) (W' : World) (sp : Nat → Bool), DataW.Trod enc Tryd.prog W' 0 sp true 37 (.agg #[.int .i64 a, .int .i64 b]) (.agg [.lit (.int .i64 a), .lit (.int .i64 b)]) [] := fun a b wa wb W' sp =>
    shut_agg2 (y0 := (.lit (.int .i64 a), [])) (y1 := (.lit (.int .i64 b), [])) Tryd.underlying37 (by kernel_rfl) cellsB ⟨1, by simp [DataW.trod, Tryd.underlying2, wa]⟩ ⟨1, by simp [DataW.trod, Tryd.underlying2, wb]⟩
  refine (walk a0 al ah bl bh x wal wah wbl wbh wx W (laid_all hL)).mono fun e W' ⟨he, bel⟩ => ?_
  subst he
  exact ⟨_, rfl, _, _, _, [], _, [], hW', trodAll_mk1 (shut_bool Tryd.underlying4 _), (trodAll_cons_mk (shut_int Tryd.underlying3 w0) (trodAll_cons_mk (structReads al ah wal wah _ _) (trodAll_cons_mk (structReads bl bh wbl wbh _ _) (trodAll_cons_mk (shut_int Tryd.underlying2 wx) trodAll_mk0)))), rfl, bel.frame _, fun h => by cases h⟩

theorem boundCounts_row : Rows.BoundCountsSaid :=
  OpenClaim.holds_of_wide 5 Tryd.f5 rfl rfl rfl rfl rfl rfl rfl ⟨rfl, rfl, rfl, rfl, rfl⟩ rfl rfl rfl rfl rfl (by kernel_rfl) Tryd.func5 (by kernel_rfl)
    (of_decide_eq_true (by kernel_rfl)) (by unfold Func.isWrapper; rw [if_neg (of_decide_eq_false (by kernel_rfl))]; exact ⟨rfl, rfl⟩)
    (fun os started H enc _ => lifted os started H enc)
/-- The card: the row, its listed variable tied to the program's text. -/
theorem boundCounts_holds : Rows.BoundCountsCardSaid :=
  Claim7.holds_tied_plain_at .later [] [.data] true Rows.boundCountsCard.stood.harness true
    boundCounts_row (fun _ h => by cases h) (by kernel_rfl) (fun _ h => by cases h) boundCounts_row_tie rfl ⟨rfl, rfl⟩ (by kernel_rfl) rfl
    (fun f fn hf hfn => by
      obtain rfl : f = 5 := Option.some.inj ((show Tryd.prog.funcNamed "gatehouse/gatehouselaw.BoundCounts" = some 5 by kernel_rfl).symm.trans hf) |>.symm
      obtain rfl : fn = Tryd.f5 := (Option.some.inj (Tryd.func5.symm.trans hfn)).symm
      exact ⟨by kernel_rfl, fun j t ht => by
        rw [Tryd.params5] at ht
        have h3 : t = 3 ∨ t = 37 ∨ t = 2 := by
          rcases j with _ | _ | _ | _ | j
          · exact Or.inl (by simpa using ht.symm)
          · exact Or.inr (Or.inl (by simpa using ht.symm))
          · exact Or.inr (Or.inl (by simpa using ht.symm))
          · exact Or.inr (Or.inr (by simpa using ht.symm))
          · simp at ht
        rcases h3 with rfl | rfl | rfl
        · exact (show Tryd.prog.wantsStandIn 3 = false by kernel_rfl)
        · exact (show Tryd.prog.wantsStandIn 37 = false by kernel_rfl)
        · exact (show Tryd.prog.wantsStandIn 2 = false by kernel_rfl)⟩)
    (by kernel_rfl)
#print axioms boundCounts_holds
end Go.Proofs.YtllphbfhfmieaaaDoor
