/-
  AsmReads returns true at every text: the program that it is, or which step is none, or what is wrong with it, is what the document says. Conditions: the tables of names, the library's tables, its two errors for numbers and the handle of errors are there.
-/
import Derived.Test.YtegeiicginpdbaaGreatDoorDocRead
import Derived.Test.YtegeiicginpdbaaGreatDoorSame
import Derived.Test.YtegeiicginpdbaaGreatDoorTell
namespace Go.Proofs.YtegeiicginpdbaaGreatDoor
open Go.ChangeShapes Go.WideShapes Go.ChangeAt Go.RowKit
variable {ex : Ext}
/-! ### Which end it is -/
def NoneAt (s : ByteArray) (k : Nat) : Prop := ∃ pre x post, piecesOf s = pre ++ x :: post ∧ (∀ y ∈ pre, (tells y).isSome = true) ∧ tells x = none ∧ pre.length = k
def AllTold (s : ByteArray) : Prop := ∀ y ∈ piecesOf s, (tells y).isSome = true
def BadAt (s : ByteArray) (i : Nat) : Prop := i < (piecesOf s).length ∧ (∀ j, j < i → faultOf (toldBy (piecesOf s)) j = 0) ∧ faultOf (toldBy (piecesOf s)) i ≠ 0
def AllFine (s : ByteArray) : Prop := ∀ j, j < (piecesOf s).length → faultOf (toldBy (piecesOf s)) j = 0
theorem split_none {ps pre post pre' post' : List ByteArray} {x x' : ByteArray} (h : ps = pre ++ x :: post) (h' : ps = pre' ++ x' :: post') (ha : ∀ y ∈ pre', (tells y).isSome = true) (hn : tells x = none) : pre'.length ≤ pre.length := by
  rcases Nat.lt_or_ge pre.length pre'.length with hl | hl
  · have e1 : ps[pre.length]? = some x := by rw [h]; simp
    have e2 : ps[pre.length]? = pre'[pre.length]? := by rw [h', List.getElem?_append_left hl]
    rw [e1] at e2
    have := ha x (List.mem_of_getElem? e2.symm)
    rw [hn] at this; cases this
  · exact hl
theorem none_same {s : ByteArray} {k k' : Nat} (h : NoneAt s k) (h' : NoneAt s k') : k = k' := by
  obtain ⟨pre, x, post, e, ha, hn, rfl⟩ := h
  obtain ⟨pre', x', post', e', ha', hn', rfl⟩ := h'
  exact Nat.le_antisymm (split_none e' e ha hn') (split_none e e' ha' hn)
theorem none_not_all {s : ByteArray} {k : Nat} (h : NoneAt s k) (h' : AllTold s) : False := by
  obtain ⟨pre, x, post, e, _, hn, _⟩ := h
  have := h' x (by rw [e]; simp)
  rw [hn] at this; cases this
theorem bad_same {s : ByteArray} {i j : Nat} (h : BadAt s i) (h' : BadAt s j) : j = i := same_first h.2.1 h.2.2 h'.2.1 h'.2.2
theorem all_or_none (ps : List ByteArray) : (∀ y ∈ ps, (tells y).isSome = true) ∨ ∃ pre x post, ps = pre ++ x :: post ∧ (∀ y ∈ pre, (tells y).isSome = true) ∧ tells x = none := by
  induction ps with
  | nil => exact Or.inl fun y hy => by cases hy
  | cons p ps ih =>
    cases hp : tells p with
    | none => exact Or.inr ⟨[], p, ps, rfl, (fun y hy => by cases hy), hp⟩
    | some z =>
      rcases ih with h | ⟨pre, x, post, e, ha, hn⟩
      · refine Or.inl fun y hy => ?_
        rcases List.mem_cons.1 hy with rfl | hy
        · rw [hp]; rfl
        · exact h y hy
      · refine Or.inr ⟨p :: pre, x, post, by rw [e]; rfl, (fun y hy => ?_), hn⟩
        rcases List.mem_cons.1 hy with rfl | hy
        · rw [hp]; rfl
        · exact ha y hy
section
variable {s : ByteArray} {w : World}
theorem doc_none (he : ∀ w, ex.holds w → ErrTabs w) (hd : ∀ w, ex.holds w → DocTabs w) (hs : s.size ≤ 100000) (hT : Tabs ex w) {k : Nat} (h : NoneAt s k) : Calls Tryz.prog 8 #[.string s] w fun e W' => e = .returned (.tuple #[.slice none 0 0, .agg #[.int .i64 3, .int .i64 k]]) ∧ Below w.heap.size w W' := by
  refine (docRead_any he hd s hs w hT).mono fun e W hh => ?_
  obtain ⟨hb, ⟨pre, x, post, e1, ha, hn, rfl⟩ | ⟨hall, _⟩⟩ := hh
  · rw [none_same h ⟨pre, x, post, e1, ha, hn, rfl⟩]; exact ⟨rfl, hb⟩
  · exact (none_not_all h hall).elim
theorem doc_limit (he : ∀ w, ex.holds w → ErrTabs w) (hd : ∀ w, ex.holds w → DocTabs w) (hs : s.size ≤ 100000) (hT : Tabs ex w) (h : AllTold s) (h2 : 200 < (piecesOf s).length) : Calls Tryz.prog 8 #[.string s] w fun e W' => e = .returned (.tuple #[.slice none 0 0, .agg #[.int .i64 4, .int .i64 (-1)]]) ∧ Below w.heap.size w W' := by
  refine (docRead_any he hd s hs w hT).mono fun e W hh => ?_
  obtain ⟨hb, ⟨pre, x, post, e1, ha, hn, rfl⟩ | ⟨hall, ⟨_, rfl⟩ | ⟨h3, _⟩⟩⟩ := hh
  · exact (none_not_all ⟨pre, x, post, e1, ha, hn, rfl⟩ h).elim
  · exact ⟨rfl, hb⟩
  · omega
theorem doc_bad (he : ∀ w, ex.holds w → ErrTabs w) (hd : ∀ w, ex.holds w → DocTabs w) (hs : s.size ≤ 100000) (hT : Tabs ex w) (h : AllTold s) (h2 : (piecesOf s).length ≤ 200) {i : Nat} (hi : BadAt s i) : Calls Tryz.prog 8 #[.string s] w fun e W' => e = .returned (.tuple #[.slice none 0 0, .agg #[.int .i64 (faultOf (toldBy (piecesOf s)) i), .int .i64 i]]) ∧ Below w.heap.size w W' := by
  refine (docRead_any he hd s hs w hT).mono fun e W hh => ?_
  obtain ⟨hb, ⟨pre, x, post, e1, ha, hn, rfl⟩ | ⟨hall, ⟨h3, _⟩ | ⟨_, ⟨j, h4, h5, h6, rfl⟩ | ⟨h4, _⟩⟩⟩⟩ := hh
  · exact (none_not_all ⟨pre, x, post, e1, ha, hn, rfl⟩ h).elim
  · omega
  · obtain rfl := bad_same hi ⟨h4, h5, h6⟩
    exact ⟨rfl, hb⟩
  · exact absurd (h4 i hi.1) hi.2.2
theorem doc_fine (he : ∀ w, ex.holds w → ErrTabs w) (hd : ∀ w, ex.holds w → DocTabs w) (hs : s.size ≤ 100000) (hT : Tabs ex w) (h : AllTold s) (h2 : (piecesOf s).length ≤ 200) (hf : AllFine s) : Calls Tryz.prog 8 #[.string s] w fun e W' => (∃ g cap, e = .returned (.tuple #[.slice (some ⟨g, 0, none⟩) (piecesOf s).length cap, .agg #[.int .i64 0, .int .i64 (-1)]]) ∧ W'.ownsRow w.heap.size 49 6 (.slice (some ⟨g, 0, none⟩) (piecesOf s).length cap) (piecesOf s).length (cellsOf (toldBy (piecesOf s)))) ∧ Below w.heap.size w W' := by
  refine (docRead_any he hd s hs w hT).mono fun e W hh => ?_
  obtain ⟨hb, ⟨pre, x, post, e1, ha, hn, rfl⟩ | ⟨hall, ⟨h3, _⟩ | ⟨_, ⟨j, h4, h5, h6, rfl⟩ | ⟨h4, h7⟩⟩⟩⟩ := hh
  · exact (none_not_all ⟨pre, x, post, e1, ha, hn, rfl⟩ h).elim
  · omega
  · exact absurd (hf j h4) h6
  · exact ⟨h7, hb⟩
end
section
variable {s : ByteArray} {w : World}
theorem asm_none (he : ∀ w, ex.holds w → ErrTabs w) (hu : ∀ w, ex.holds w → Lib.Utf8Tabs 7 8 w) (hs : s.size ≤ 100000) (hT : Tabs ex w) {k : Nat} (h : NoneAt s k) : Calls Tryz.prog 9 #[.string s] w fun e W' => (∃ p, e = .returned (.tuple #[.slice none 0 0, .iface 74 (.pointer (some ⟨p, 0, none⟩))]) ∧ p < W'.heap.size ∧ W'.cell? ⟨p, 0, none⟩ = some (.int .i64 3) ∧ W'.cell? ⟨p, 1, none⟩ = some (.int .i64 k)) ∧ Below w.heap.size w W' := by
  refine (read_any he hu s hs w hT).mono fun e W hh => ?_
  obtain ⟨hb, ⟨pre, x, post, p, e1, ha, hn, rfl, h1, h2, h3⟩ | ⟨hall, _⟩⟩ := hh
  · rw [none_same h ⟨pre, x, post, e1, ha, hn, rfl⟩]; exact ⟨⟨p, rfl, h1, h2, h3⟩, hb⟩
  · exact (none_not_all h hall).elim
theorem asm_limit (he : ∀ w, ex.holds w → ErrTabs w) (hu : ∀ w, ex.holds w → Lib.Utf8Tabs 7 8 w) (hs : s.size ≤ 100000) (hT : Tabs ex w) (h : AllTold s) (h2 : 200 < (piecesOf s).length) : Calls Tryz.prog 9 #[.string s] w fun e W' => e = .returned (.tuple #[.slice none 0 0, .iface 23 (.int .i64 4)]) ∧ Below w.heap.size w W' := by
  refine (read_any he hu s hs w hT).mono fun e W hh => ?_
  obtain ⟨hb, ⟨pre, x, post, p, e1, ha, hn, _⟩ | ⟨hall, ⟨_, rfl⟩ | ⟨h3, _⟩⟩⟩ := hh
  · exact (none_not_all ⟨pre, x, post, e1, ha, hn, rfl⟩ h).elim
  · exact ⟨rfl, hb⟩
  · omega
theorem asm_bad (he : ∀ w, ex.holds w → ErrTabs w) (hu : ∀ w, ex.holds w → Lib.Utf8Tabs 7 8 w) (hs : s.size ≤ 100000) (hT : Tabs ex w) (h : AllTold s) (h2 : (piecesOf s).length ≤ 200) {i : Nat} (hi : BadAt s i) : Calls Tryz.prog 9 #[.string s] w fun e W' => (∃ p, e = .returned (.tuple #[.slice none 0 0, .iface 74 (.pointer (some ⟨p, 0, none⟩))]) ∧ p < W'.heap.size ∧ W'.cell? ⟨p, 0, none⟩ = some (.int .i64 (faultOf (toldBy (piecesOf s)) i)) ∧ W'.cell? ⟨p, 1, none⟩ = some (.int .i64 i)) ∧ Below w.heap.size w W' := by
  refine (read_any he hu s hs w hT).mono fun e W hh => ?_
  obtain ⟨hb, ⟨pre, x, post, p, e1, ha, hn, _⟩ | ⟨hall, ⟨h3, _⟩ | ⟨_, ⟨j, p, h4, h5, h6, rfl, h7, h8, h9⟩ | ⟨h4, _⟩⟩⟩⟩ := hh
  · exact (none_not_all ⟨pre, x, post, e1, ha, hn, rfl⟩ h).elim
  · omega
  · obtain rfl := bad_same hi ⟨h4, h5, h6⟩
    exact ⟨⟨p, rfl, h7, h8, h9⟩, hb⟩
  · exact absurd (h4 i hi.1) hi.2.2
theorem asm_fine (he : ∀ w, ex.holds w → ErrTabs w) (hu : ∀ w, ex.holds w → Lib.Utf8Tabs 7 8 w) (hs : s.size ≤ 100000) (hT : Tabs ex w) (h : AllTold s) (h2 : (piecesOf s).length ≤ 200) (hf : AllFine s) : Calls Tryz.prog 9 #[.string s] w fun e W' => (∃ g cap, e = .returned (.tuple #[.slice (some ⟨g, 0, none⟩) (piecesOf s).length cap, .nilIface]) ∧ W'.ownsRow w.heap.size 49 6 (.slice (some ⟨g, 0, none⟩) (piecesOf s).length cap) (piecesOf s).length (cellsOf (toldBy (piecesOf s)))) ∧ Below w.heap.size w W' := by
  refine (read_any he hu s hs w hT).mono fun e W hh => ?_
  obtain ⟨hb, ⟨pre, x, post, p, e1, ha, hn, _⟩ | ⟨hall, ⟨h3, _⟩ | ⟨_, ⟨j, p, h4, h5, h6, _⟩ | ⟨h4, h7⟩⟩⟩⟩ := hh
  · exact (none_not_all ⟨pre, x, post, e1, ha, hn, rfl⟩ h).elim
  · omega
  · exact absurd (hf j h4) h6
  · exact ⟨h7, hb⟩
end
theorem same_none (w : World) : Calls Tryz.prog 11 #[.slice none 0 0, .slice none 0 0] w fun e w' => e = .returned (.bool true) ∧ Below w.heap.size w w' := by
  go_enter Tryz.func11, Tryz.ntmps11
  go_wp2
  refine wp_loop_rounds 1 ?_
  rw [rounds_succ]
  go_wp2
  go_ret
  exact ⟨rfl, Below.refl _ _⟩
theorem two_laid {w w1 : World} {x y : Value} {t : TypeId} (h : Below (w.alloc (.cells #[x, y] t)).heap.size (w.alloc (.cells #[x, y] t)) w1) : w1.cell? ⟨w.heap.size, 0, none⟩ = some x ∧ w1.cell? ⟨w.heap.size, 1, none⟩ = some y := by
  refine ⟨?_, ?_⟩
  · rw [h.cell (p := ⟨w.heap.size, 0, none⟩) (by simp)]; simp
  · rw [h.cell (p := ⟨w.heap.size, 1, none⟩) (by simp)]; simp
/-! ### The law's walk -/
theorem reads_long (s : ByteArray) (h : 1500 < s.size) (w : World) : Calls Tryz.prog 3 #[.string s] w fun e w' => e = .returned (.bool true) ∧ Below w.heap.size w w' := by
  have z : decide (1500 < (s.size : Int)) = true := by simp; omega
  go_enter Tryz.func3, Tryz.ntmps3
  go_wp2
  go_ret
  exact ⟨rfl, Below.refl _ _⟩
section
variable {s : ByteArray} {w : World}
theorem law_none (he : ∀ w, ex.holds w → ErrTabs w) (hd : ∀ w, ex.holds w → DocTabs w) (hu : ∀ w, ex.holds w → Lib.Utf8Tabs 7 8 w) (hs : s.size ≤ 1500) (hT : Tabs ex w) (hg : HandleAt w) {k : Nat} (h : NoneAt s k) : Calls Tryz.prog 3 #[.string s] w fun e w' => e = .returned (.bool true) ∧ Below w.heap.size w w' := by
  have z : decide (1500 < (s.size : Int)) = false := by simp; omega
  have hF := Fine.start hT
  have h5 : s.size ≤ 100000 := by omega
  go_enter Tryz.func3, Tryz.ntmps3
  go_wp2_with (first
    | (go_at_call 8; refine (doc_none he hd h5 hT h).mono ?_; rintro e w1 ⟨rfl, hb1⟩; have hF1 := (hF.call hb1).alloc (.cells #[.int .i64 3, .int .i64 k] 25))
    | (go_at_call 9; refine (asm_none he hu h5 hF1.tabs h).mono ?_; rintro e w2 ⟨⟨p, rfl, hpl, p0, p1⟩, hb2⟩; obtain ⟨c0, c1⟩ := two_laid hb2; have hF2 := hF1.call hb2)
    | (go_at_call 10; refine (is_at _ _ p _ (hg.later hF2.bel) p0 p1 hpl).mono ?_; rintro e w3 ⟨rfl, hb3⟩)
    | (go_at_call 11; refine (same_none _).mono ?_; rintro e w4 ⟨rfl, hb4⟩))
  go_ret
  exact ⟨rfl, ((hF2.call hb3).call hb4).bel⟩
theorem law_limit (he : ∀ w, ex.holds w → ErrTabs w) (hd : ∀ w, ex.holds w → DocTabs w) (hu : ∀ w, ex.holds w → Lib.Utf8Tabs 7 8 w) (hs : s.size ≤ 1500) (hT : Tabs ex w) (hg : HandleAt w) (h : AllTold s) (h2 : 200 < (piecesOf s).length) : Calls Tryz.prog 3 #[.string s] w fun e w' => e = .returned (.bool true) ∧ Below w.heap.size w w' := by
  have z : decide (1500 < (s.size : Int)) = false := by simp; omega
  have hF := Fine.start hT
  have h5 : s.size ≤ 100000 := by omega
  go_enter Tryz.func3, Tryz.ntmps3
  go_wp2_with (first
    | (go_at_call 8; refine (doc_limit he hd h5 hT h h2).mono ?_; rintro e w1 ⟨rfl, hb1⟩; have hF1 := (hF.call hb1).alloc (.cells #[.int .i64 4, .int .i64 (-1)] 25))
    | (go_at_call 9; refine (asm_limit he hu h5 hF1.tabs h h2).mono ?_; rintro e w2 ⟨rfl, hb2⟩; obtain ⟨c0, c1⟩ := two_laid hb2; have hF2 := hF1.call hb2)
    | (go_at_call 10; refine (is_errno 4 _ (hg.later hF2.bel)).mono ?_; rintro e w3 ⟨rfl, hb3⟩)
    | (go_at_call 11; refine (same_none _).mono ?_; rintro e w4 ⟨rfl, hb4⟩))
  go_ret
  exact ⟨rfl, ((hF2.call hb3).call hb4).bel⟩
theorem law_bad (he : ∀ w, ex.holds w → ErrTabs w) (hd : ∀ w, ex.holds w → DocTabs w) (hu : ∀ w, ex.holds w → Lib.Utf8Tabs 7 8 w) (hs : s.size ≤ 1500) (hT : Tabs ex w) (hg : HandleAt w) (h : AllTold s) (h2 : (piecesOf s).length ≤ 200) {i : Nat} (hi : BadAt s i) : Calls Tryz.prog 3 #[.string s] w fun e w' => e = .returned (.bool true) ∧ Below w.heap.size w w' := by
  have z : decide (1500 < (s.size : Int)) = false := by simp; omega
  have hF := Fine.start hT
  have h5 : s.size ≤ 100000 := by omega
  go_enter Tryz.func3, Tryz.ntmps3
  go_wp2_with (first
    | (go_at_call 8; refine (doc_bad he hd h5 hT h h2 hi).mono ?_; rintro e w1 ⟨rfl, hb1⟩; have hF1 := (hF.call hb1).alloc (.cells #[.int .i64 (faultOf (toldBy (piecesOf s)) i), .int .i64 i] 25))
    | (go_at_call 9; refine (asm_bad he hu h5 hF1.tabs h h2 hi).mono ?_; rintro e w2 ⟨⟨p, rfl, hpl, p0, p1⟩, hb2⟩; obtain ⟨c0, c1⟩ := two_laid hb2; have hF2 := hF1.call hb2)
    | (go_at_call 10; refine (is_at _ _ p _ (hg.later hF2.bel) p0 p1 hpl).mono ?_; rintro e w3 ⟨rfl, hb3⟩)
    | (go_at_call 11; refine (same_none _).mono ?_; rintro e w4 ⟨rfl, hb4⟩))
  go_ret
  exact ⟨rfl, ((hF2.call hb3).call hb4).bel⟩
theorem law_fine (he : ∀ w, ex.holds w → ErrTabs w) (hd : ∀ w, ex.holds w → DocTabs w) (hu : ∀ w, ex.holds w → Lib.Utf8Tabs 7 8 w) (hs : s.size ≤ 1500) (hT : Tabs ex w) (h : AllTold s) (h2 : (piecesOf s).length ≤ 200) (hf : AllFine s) : Calls Tryz.prog 3 #[.string s] w fun e w' => e = .returned (.bool true) ∧ Below w.heap.size w w' := by
  have z : decide (1500 < (s.size : Int)) = false := by simp; omega
  have hF := Fine.start hT
  have h5 : s.size ≤ 100000 := by omega
  go_enter Tryz.func3, Tryz.ntmps3
  go_wp2_with (first
    | (go_at_call 8; refine (doc_fine he hd h5 hT h h2 hf).mono ?_; rintro e w1 ⟨⟨gd, cd, rfl, hrd⟩, hb1⟩; have hF1 := (hF.call hb1).alloc (.cells #[.int .i64 0, .int .i64 (-1)] 25))
    | (go_at_call 9; refine (asm_fine he hu h5 hF1.tabs h h2 hf).mono ?_; rintro e w2 ⟨⟨ga, ca, rfl, hra⟩, hb2⟩; obtain ⟨c0, c1⟩ := two_laid hb2; have hF2 := hF1.call hb2)
    | (go_at_call 10; refine (is_nil _).mono ?_; rintro e w3 ⟨rfl, hb3⟩)
    | (go_at_call 11; have hrd3 := own6_later (own6_later (hrd.alloc (.cells #[.int .i64 0, .int .i64 (-1)] 25)) hb2) hb3; have hra3 := own6_later hra hb3; refine (lawSame ga 0 ca gd 0 cd _ _ _ _ _ _ _ _ (by omega) (row_steps hra3 (told_length _)) (row_steps hrd3 (told_length _)) (row_lt hra3) (row_lt hrd3)).mono ?_; rintro e w4 ⟨rfl, hb4⟩))
  go_ret
  exact ⟨rfl, ((hF2.call hb3).call hb4).bel⟩
theorem law_any (he : ∀ w, ex.holds w → ErrTabs w) (hd : ∀ w, ex.holds w → DocTabs w) (hu : ∀ w, ex.holds w → Lib.Utf8Tabs 7 8 w) (hs : s.size ≤ 1500) (hT : Tabs ex w) (hg : HandleAt w) : Calls Tryz.prog 3 #[.string s] w fun e w' => e = .returned (.bool true) ∧ Below w.heap.size w w' := by
  rcases all_or_none (piecesOf s) with h | ⟨pre, x, post, e, ha, hn⟩
  · by_cases h2 : 200 < (piecesOf s).length
    · exact law_limit he hd hu hs hT hg h h2
    · rcases first_fault (faultOf (toldBy (piecesOf s))) (piecesOf s).length with hf | ⟨i, h3, h4, h5⟩
      · exact law_fine he hd hu hs hT h (by omega) hf
      · exact law_bad he hd hu hs hT hg h (by omega) ⟨h3, h4, h5⟩
  · exact law_none he hd hu hs hT hg ⟨pre, x, post, e, ha, hn, rfl⟩
end
end Go.Proofs.YtegeiicginpdbaaGreatDoor
