/-
  From the listed package variables to the tables that the walks read: the codes' names and what is called, of the project and of the document, and the library's powers of ten. Conditions: the listed variables read as the program's text lays them.
-/
import Derived.Test.YtednmkhdehlojaaGreatDoorJd6
import Derived.Test.YtednmkhdehlojaaGreatDoorJd8
import Derived.Lib.LaidTab
import Derived.LaidHandle
import Derived.LaidLaws
set_option maxHeartbeats 4000000
set_option maxRecDepth 1000000
namespace Go.Proofs.YtednmkhdehlojaaGreatDoor
open Go.ChangeShapes Go.WideShapes Go.ChangeAt Go.RowKit

/-- A table of texts, as a row lists it. -/
def strsData {H : Type} (xs : List (List UInt8)) : DataW H := .agg (xs.map fun b => .lit (.string b))
theorem cells_of_strs {H : Type} {enc : TypeId × Value → H} {P : Program} {w : World} {base : Nat} {sp : Nat → Bool} {held : Bool} {fuel : Nat} {t e : TypeId} {n : Nat} {cs : List Value} {xs : List (List UInt8)} {p : List MemPlace}
    (ht : P.underlying t = some (.array n e)) (he : P.underlying e = some .string) (hce : P.cellsOf e = 1) (hct : P.cellsOf t = n)
    (h : DataW.trod enc P w base sp held fuel t cs = some (strsData xs, p)) : ∀ (i : Nat) (b : List UInt8), xs[i]? = some b → cs[i]? = some (Value.string ⟨b.toArray⟩) := by
  intro i b hib
  cases fuel with
  | zero => simp [DataW.trod] at h
  | succ fuel =>
    simp only [DataW.trod, ht, hce, hct, Nat.mul_one] at h
    split at h
    · obtain ⟨ys, hm, hx⟩ := Option.map_eq_some_iff.1 h
      have hxs : ys.map (·.1) = xs.map fun b => (DataW.lit (.string b) : DataW H) := by
        have := congrArg Prod.fst hx
        simpa [strsData] using this
      have hyl : ys.length = n := by simpa using Lib.mapM_length hm
      have hxl : xs.length = n := by
        have := congrArg List.length hxs
        simp at this
        omega
      have hi : i < n := by
        have := (List.getElem?_eq_some_iff.1 hib).1
        omega
      obtain ⟨y, hy, hf⟩ := Lib.mapM_at hm i i (by simp [hi])
      obtain ⟨s, hc, rfl, _⟩ := DataW.trod_string he hf
      have h1 : cs[i]? = some (.string s) := by
        have := congrArg (·[0]?) hc
        simpa [List.getElem?_take, List.getElem?_drop] using this
      have h2 : (ys.map (·.1))[i]? = some (DataW.lit (.string s.data.toList) : DataW H) := by simp [hy]
      rw [hxs] at h2
      simp only [List.getElem?_map, hib, Option.map_some, Option.some.injEq, DataW.lit.injEq, Lit.string.injEq] at h2
      rw [h1, h2]
    · cases h
theorem laid_each {P : Program} {w : World} : ∀ {l : List (String × DataW Unit)} {ps : List MemPlace}, DataW.LaidVars P w l ps → ∀ x ∈ l, ∃ g t cs fuel p, P.globalNamed x.1 = some g ∧ (P.globals[g]?).map (·.type) = some t ∧ w.var? P x.1 = some cs ∧ DataW.trod (fun _ => ()) P w 0 (fun _ => true) false fuel t cs.toList = some (x.2, p)
  | [], _, _, x, hx => by cases hx
  | (n, d) :: r, ps, h, x, hx => by
    obtain ⟨g, t, cs, fuel, p, q, h1, h2, h3, h4, h5, _⟩ := h
    rcases List.mem_cons.1 hx with rfl | hx
    · exact ⟨g, t, cs, fuel, p, h1, h2, h3, h4⟩
    · exact laid_each h5 x hx
theorem table_cells {P : Program} {w : World} {l : List (String × DataW Unit)} (h : laidMet P l w) {name : String} {xs : List (List UInt8)} {g n : Nat} {t e : TypeId} (hx : (name, strsData xs) ∈ l)
    (hg : P.globalNamed name = some g) (hty : (P.globals[g]?).map (·.type) = some t) (ht : P.underlying t = some (.array n e)) (he : P.underlying e = some .string) (hce : P.cellsOf e = 1) (hct : P.cellsOf t = n) :
    ∀ (i : Nat) (b : List UInt8), xs[i]? = some b → w.cell? ⟨g, i, none⟩ = some (.string ⟨b.toArray⟩) := by
  obtain ⟨ps, hl, _⟩ := h
  obtain ⟨g', t', cs, fuel, p, h1, h2, h3, h4⟩ := laid_each hl _ hx
  obtain rfl := Option.some.inj (hg.symm.trans h1)
  obtain rfl := Option.some.inj (hty.symm.trans h2)
  intro i b hib
  have h5 := cells_of_strs ht he hce hct h4 i b hib
  have h6 := World.var?_cell hg h3 i
  rw [h6, ← h5, Array.getElem?_toList]
theorem pows_of {w : World} {l : List (String × DataW Unit)} (h : laidMet Tryz.prog l w) (hx : ("internal/strconv.uint64pow10", Rows.laid_internal_strconv_uint64pow10) ∈ l) : Lib.TabIs Tryz.prog w "internal/strconv.uint64pow10" .u64 Lib.pow10Tab := by
  obtain ⟨ps, hl, _⟩ := h
  obtain ⟨g', t', cs, fuel, p, h1, h2, h3, h4⟩ := laid_each hl _ hx
  obtain rfl := Option.some.inj (powsAt.symm.trans h1)
  obtain rfl := Option.some.inj ((show (Tryz.prog.globals[11]?).map (·.type) = some 290 by kernel_rfl).symm.trans h2)
  have h5 : cs.toList = Lib.pow10Tab.map fun z => Value.int .u64 z := Lib.cells_of_tab (n := 20) (e := 245) Tryz.underlying290 Tryz.underlying245 (by kernel_rfl) (by kernel_rfl) (show DataW.trod (fun _ => ()) Tryz.prog w 0 (fun _ => true) false fuel 290 cs.toList = some (Lib.tabData .u64 Lib.pow10Tab, p) from h4)
  unfold Lib.TabIs
  rw [h3, ← h5]
/-- The project's tables, where they are listed. -/
theorem tabs_of_laid {ex : Ext} {w : World} {l : List (String × DataW Unit)} (h : laidMet Tryz.prog l w) (h0 : ("internal/strconv.uint64pow10", Rows.laid_internal_strconv_uint64pow10) ∈ l)
    (h1 : ("gatehouse/asm.names", Rows.laid_gatehouse_asm_names) ∈ l) (h2 : ("gatehouse/asm.calls", Rows.laid_gatehouse_asm_calls) ∈ l) (hroom : 14 ≤ w.heap.size) (hx : ex.holds w) : Tabs ex w := by
  have e1 := table_cells h (xs := namesL) (g := 2) (n := 29) (t := 110) (e := 9) h1 (by kernel_rfl) (by kernel_rfl) Tryz.underlying110 Tryz.underlying9 (by kernel_rfl) (by kernel_rfl)
  have e2 := table_cells h (xs := callsL) (g := 5) (n := 4) (t := 117) (e := 9) h2 (by kernel_rfl) (by kernel_rfl) Tryz.underlying117 Tryz.underlying9 (by kernel_rfl) (by kernel_rfl)
  refine ⟨hroom, fun i hi => ?_, fun i hi => ?_, pows_of h h0, hx⟩
  · exact e1 i _ (by rw [List.getD_eq_getElem?_getD, List.getElem?_eq_getElem (show i < namesL.length from hi)]; rfl)
  · exact e2 i _ (by rw [List.getD_eq_getElem?_getD, List.getElem?_eq_getElem (show i < callsL.length from hi)]; rfl)
theorem rt : (Tryz.prog.cutTypes.find? (·.1 == "internal/reflectlite.rtype")).map (·.2) = some 196 := by kernel_rfl
theorem oneRow : ((List.range 331).filter fun t => Tryz.prog.rowNamed t [101, 114, 114, 111, 114]) = [29] := by kernel_rfl
theorem ntypes : Tryz.prog.types.size = 331 := by kernel_rfl
theorem et : Tryz.prog.globalNamed "errors.errorType" = some 4 := by kernel_rfl
theorem handle_met {W : World} (h : handlesMet Tryz.prog [("errors.errorType", Rows.laid_errors_errorType)] W) : HandleAt W := by
  obtain ⟨name, u, ty, e1, e2, e3, e4, e5⟩ := h _ (List.mem_singleton.2 rfl)
  have en : name = [101, 114, 114, 111, 114] := (Option.some.inj e1).symm
  subst en
  obtain rfl := Option.some.inj (rt.symm.trans e2)
  have hm : ty ∈ (List.range 331).filter fun t => Tryz.prog.rowNamed t [101, 114, 114, 111, 114] := List.mem_filter.2 ⟨List.mem_range.2 (by rw [← ntypes]; exact e3), e4⟩
  rw [oneRow] at hm
  obtain rfl := List.mem_singleton.1 hm
  have hh : typeHandle Tryz.prog 29 = .pointer (some ⟨14, 29, none⟩) := by kernel_rfl
  rw [hh] at e5
  unfold HandleAt
  simpa using World.var?_cell et e5 0
end Go.Proofs.YtednmkhdehlojaaGreatDoor
