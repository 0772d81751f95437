/-
  The words of a program's text: what numbers, registers, places, seconds and steps are as bytes; what asm.numberWord, registerWord, placeWord, parts and tell return, and what the document's num and its closure for places return; the world below is as it was. Conditions: the tables of names lie in memory as the program's text lays them, numbers are of 64 bits.
-/
import Derived.Test.YtegeiicginpdbaaGreatDoorStep
import Derived.Test.YtegeiicginpdbaaGreatDoorShelf
import Derived.Deep.QuietTactic
import Derived.BigQuiet
namespace Go.Proofs.YtegeiicginpdbaaGreatDoor
open Go.ChangeShapes Go.WideShapes Go.ChangeAt Go.RowKit

/-! ### Bytes -/
def numB (n : Int) : ByteArray := ⟨(Lib.itoa n).toArray⟩
theorem nDigits_le : ∀ (k u : Nat), u < 10 ^ (k + 1) → Lib.nDigits u ≤ k + 1
  | 0, u, h => by rw [Lib.nDigits_small (by simpa using h)]; omega
  | k + 1, u, h => by
    by_cases hu : u < 10
    · rw [Lib.nDigits_small hu]; omega
    · rw [Lib.nDigits_big hu]
      have := nDigits_le k (u / 10) (by rw [Nat.div_lt_iff_lt_mul (by omega)]; rw [Nat.pow_succ] at h; exact h)
      omega
theorem digits_length (u : Nat) (h : u ≤ 9223372036854775808) : (Lib.decDigits u).length ≤ 19 := by
  rw [Lib.decDigits_length]
  exact nDigits_le 18 u (by omega)
theorem numB_size (n : Int) (h0 : -9223372036854775808 ≤ n) (h1 : n ≤ 9223372036854775807) : (numB n).size ≤ 20 := by
  show (Lib.itoa n).toArray.size ≤ 20
  rw [List.size_toArray]
  unfold Lib.itoa
  split
  · have := digits_length n.natAbs (by omega); simp only [List.length_cons]; omega
  · have := digits_length n.toNat (by omega); omega
def regB (r : Int) : ByteArray := ⟨#[114]⟩ ++ numB r
theorem regB_size (n : Int) (h0 : -9223372036854775808 ≤ n) (h1 : n ≤ 9223372036854775807) : (regB n).size ≤ 21 := by
  have := numB_size n h0 h1
  unfold regB; rw [ByteArray.size_append]; show 1 + _ ≤ _; omega
def signB (o : Int) : ByteArray := if o < 0 then ⟨#[]⟩ else ⟨#[43]⟩
theorem signB_neg {o : Int} (h : o < 0) : signB o = ⟨#[]⟩ := if_pos h
theorem signB_pos {o : Int} (h : ¬ o < 0) : signB o = ⟨#[43]⟩ := if_neg h
theorem signB_size (o : Int) : (signB o).size ≤ 1 := by
  unfold signB; split <;> decide
def placeB (r o : Int) : ByteArray := ⟨#[91]⟩ ++ regB r ++ signB o ++ numB o ++ ⟨#[93]⟩
theorem placeB_size (r o : Int) (h0 : -9223372036854775808 ≤ r) (h1 : r ≤ 9223372036854775807) (h2 : -9223372036854775808 ≤ o) (h3 : o ≤ 9223372036854775807) : (placeB r o).size ≤ 44 := by
  have a := regB_size r h0 h1
  have b := numB_size o h2 h3
  have c := signB_size o
  unfold placeB
  simp only [ByteArray.size_append]
  show 1 + _ + _ + _ + 1 ≤ 44
  omega
def secondB (s : Int) (r : Bool) (n : Int) : ByteArray := if r then regB s else numB n
theorem secondB_size (s n : Int) (r : Bool) (h0 : -9223372036854775808 ≤ s) (h1 : s ≤ 9223372036854775807) (h2 : -9223372036854775808 ≤ n) (h3 : n ≤ 9223372036854775807) : (secondB s r n).size ≤ 21 := by
  have a := regB_size s h0 h1
  have b := numB_size n h2 h3
  unfold secondB; split <;> omega

/-! ### Names -/
def namesL : List (List UInt8) := [[], [109, 111, 118], [97, 100, 100], [115, 117, 98], [109, 117, 108], [100, 105, 118], [109, 111, 100], [97, 110, 100], [111, 114], [120, 111, 114], [108, 115, 104], [114, 115, 104], [97, 114, 115, 104], [110, 101, 103], [106, 117, 109, 112], [106, 101, 113], [106, 110, 101], [106, 103, 116], [106, 103, 101], [106, 108, 116], [106, 108, 101], [106, 115, 103, 116], [106, 115, 103, 101], [106, 115, 108, 116], [106, 115, 108, 101], [108, 111, 97, 100], [115, 116, 111, 114, 101], [99, 97, 108, 108], [101, 120, 105, 116]]
def callsL : List (List UInt8) := [[], [102, 105, 110, 100], [116, 105, 109, 101], [101, 109, 105, 116]]
def nameB (i : Nat) : ByteArray := ⟨(namesL.getD i []).toArray⟩
def callB (i : Nat) : ByteArray := ⟨(callsL.getD i []).toArray⟩
theorem short_getD (l : List (List UInt8)) (m : Nat) (h : ∀ x ∈ l, x.length ≤ m) (i : Nat) : (l.getD i []).length ≤ m := by
  rw [List.getD_eq_getElem?_getD]
  cases e : l[i]? with
  | none => simp
  | some x => simpa using h x (List.mem_of_getElem? e)
theorem nameB_size (i : Nat) : (nameB i).size ≤ 5 := by
  show (namesL.getD i []).toArray.size ≤ 5
  rw [List.size_toArray]; exact short_getD _ 5 (by decide) i
theorem callB_size (i : Nat) : (callB i).size ≤ 4 := by
  show (callsL.getD i []).toArray.size ≤ 4
  rw [List.size_toArray]; exact short_getD _ 4 (by decide) i

/-! ### What lies in memory -/
/-- What else is to be kept: a property of memory that stays as long as what lies below stays. -/
structure Ext where
  holds : World → Prop
  on : ∀ (w w' : World) (B : Nat), Below B w w' → 14 ≤ B → holds w → holds w'
/-- The tables of names, and the library's table of powers, are there. -/
structure Tabs (ex : Ext) (w : World) : Prop where
  room : 14 ≤ w.heap.size
  names : ∀ i, i < 29 → w.cell? ⟨2, i, none⟩ = some (.string (nameB i))
  calls : ∀ i, i < 4 → w.cell? ⟨5, i, none⟩ = some (.string (callB i))
  pows : Lib.TabIs Tryz.prog w "internal/strconv.uint64pow10" .u64 Lib.pow10Tab
  ext : ex.holds w
variable {ex : Ext}
theorem powsAt : Tryz.prog.globalNamed "internal/strconv.uint64pow10" = some 11 := by kernel_rfl
theorem Tabs.on {w w' : World} {B : Nat} (h : Tabs ex w) (hb : Below B w w') (hB : 14 ≤ B) : Tabs ex w' := by
  refine ⟨Nat.le_trans h.room hb.size, fun i hi => ?_, fun i hi => ?_, ?_, ex.on _ _ _ hb hB h.ext⟩
  · rw [hb.cell (p := ⟨2, i, none⟩) (by show 2 < B; omega)]; exact h.names i hi
  · rw [hb.cell (p := ⟨5, i, none⟩) (by show 5 < B; omega)]; exact h.calls i hi
  · have hp := h.pows
    unfold Lib.TabIs World.var? at *
    simp only [powsAt, Option.bind_some] at hp ⊢
    rw [hb.block 11 (by omega)]; exact hp
/-- Below the first world all is as it was, and the tables are there. -/
structure Fine (ex : Ext) (a w : World) : Prop where
  bel : Below a.heap.size a w
  tabs : Tabs ex w
theorem Fine.start {w : World} (h : Tabs ex w) : Fine ex w w := ⟨Below.refl _ _, h⟩
theorem Fine.alloc {a w : World} (h : Fine ex a w) (o : Obj) : Fine ex a (w.alloc o) :=
  ⟨h.bel.alloc h.bel.size o, h.tabs.on ((Below.refl _ _).alloc (Nat.le_refl _) o) h.tabs.room⟩
theorem Fine.call {a w w1 : World} (h : Fine ex a w) (hb : Below w.heap.size w w1) : Fine ex a w1 :=
  ⟨h.bel.trans (hb.mono h.bel.size), h.tabs.on hb h.tabs.room⟩
theorem Fine.drew {a w : World} (h : Fine ex a w) : Fine ex a w.drew := ⟨h.bel.drew, h.tabs.on (Below.refl _ _).drew h.tabs.room⟩
theorem Fine.cellAt {a w : World} {b o : Nat} {v : Value} (h : Fine ex a w) (hb : b < a.heap.size) (hc : a.cell? ⟨b, o, none⟩ = some v) : w.cell? ⟨b, o, none⟩ = some v := (h.bel.cell (p := ⟨b, o, none⟩) hb).trans hc
theorem kept {W w1 : World} (hb : Below W.heap.size W w1) : (∀ b o, b < W.heap.size → w1.cell? ⟨b, o, none⟩ = W.cell? ⟨b, o, none⟩) ∧ (∀ b o, b < W.heap.size → w1.frozen? ⟨b, o, none⟩ = W.frozen? ⟨b, o, none⟩) :=
  ⟨fun b _ h => hb.cell (p := ⟨b, _, none⟩) h, fun b _ h => hb.frozen (p := ⟨b, _, none⟩) h⟩
theorem below_grow (w : World) (k : Nat) (os : Array Obj) : Below w.heap.size w (Sort.grow (w.drewN k) os) :=
  ⟨rfl, rfl, rfl, by show w.heap.size ≤ (w.heap ++ os).size; simp, fun i hi => by show (w.heap ++ os)[i]? = w.heap[i]?; rw [Array.getElem?_append_left hi]⟩

/-! ### Numbers, registers, places -/
theorem fmt_any (n : Int) (w : World) (h0 : -9223372036854775808 ≤ n) (h1 : n ≤ 9223372036854775807) (hT : Tabs ex w) :
    Calls Tryz.prog 125 #[.int .i64 n, .int .i64 10] w fun e w' => e = .returned (.string (numB n)) ∧ Below w.heap.size w w' :=
  (Tryz.strconv_FormatInt_10 n h0 h1 w hT.pows).mono fun _ _ ⟨he, k, os, hw⟩ => ⟨he, hw ▸ below_grow w k os⟩
theorem itoa_any (n : Int) (w : World) (h0 : -9223372036854775808 ≤ n) (h1 : n ≤ 9223372036854775807) (hT : Tabs ex w) :
    Calls Tryz.prog 136 #[.int .i64 n] w fun e w' => e = .returned (.string (numB n)) ∧ Below w.heap.size w w' :=
  (Tryz.strconv_Itoa n h0 h1 w hT.pows).mono fun _ _ ⟨he, k, os, hw⟩ => ⟨he, hw ▸ below_grow w k os⟩
theorem numberWord_any (n : Int) (w : World) (h0 : -9223372036854775808 ≤ n) (h1 : n ≤ 9223372036854775807) (hT : Tabs ex w) :
    Calls Tryz.prog 96 #[.int .i64 n] w fun e w' => e = .returned (.string (numB n)) ∧ Below w.heap.size w w' := by
  go_enter Tryz.func96, Tryz.ntmps96
  go_wp2_with (go_at_call 125; refine (fmt_any _ _ h0 h1 hT).mono ?_; rintro e w1 ⟨rfl, hb1⟩)
  go_ret
  exact ⟨rfl, hb1⟩
theorem registerWord_any (n : Int) (w : World) (h0 : -9223372036854775808 ≤ n) (h1 : n ≤ 9223372036854775807) (hT : Tabs ex w) :
    Calls Tryz.prog 95 #[.int .i64 n] w fun e w' => e = .returned (.string (regB n)) ∧ Below w.heap.size w w' := by
  have hz := numB_size n h0 h1
  go_enter Tryz.func95, Tryz.ntmps95
  go_wp2_with (go_at_call 136; refine (itoa_any _ _ h0 h1 hT).mono ?_; rintro e w1 ⟨rfl, hb1⟩)
  go_ret
  exact ⟨rfl, hb1⟩
theorem placeWord_any (r o : Int) (w : World) (h0 : -9223372036854775808 ≤ r) (h1 : r ≤ 9223372036854775807) (h2 : -9223372036854775808 ≤ o) (h3 : o ≤ 9223372036854775807) (hT : Tabs ex w) :
    Calls Tryz.prog 97 #[.int .i64 r, .int .i64 o] w fun e w' => e = .returned (.string (placeB r o)) ∧ Below w.heap.size w w' := by
  have hr := regB_size r h0 h1
  have ho := numB_size o h2 h3
  have hF := Fine.start hT
  by_cases hs : o < 0
  · have x1 : decide (o < 0) = true := by simpa using hs
    have HS : Hid (signB o = ⟨#[]⟩) := signB_neg hs
    clear hs
    go_enter Tryz.func97, Tryz.ntmps97
    go_wp2_with (first
      | (go_at_call 95; refine (registerWord_any _ _ h0 h1 hT).mono ?_; rintro e w1 ⟨rfl, hb1⟩)
      | (go_at_call 96; refine (numberWord_any _ _ h2 h3 (hF.call hb1).tabs).mono ?_; rintro e w2 ⟨rfl, hb2⟩))
    go_ret
    refine ⟨?_, ((hF.call hb1).call hb2).bel⟩
    unfold placeB; rw [HS.out]; rfl
  · have x1 : decide (o < 0) = false := by simpa using hs
    have HS : Hid (signB o = ⟨#[43]⟩) := signB_pos hs
    clear hs
    go_enter Tryz.func97, Tryz.ntmps97
    go_wp2_with (first
      | (go_at_call 95; refine (registerWord_any _ _ h0 h1 hT).mono ?_; rintro e w1 ⟨rfl, hb1⟩)
      | (go_at_call 96; refine (numberWord_any _ _ h2 h3 (hF.call hb1).tabs).mono ?_; rintro e w2 ⟨rfl, hb2⟩))
    go_ret
    refine ⟨?_, ((hF.call hb1).call hb2).bel⟩
    unfold placeB; rw [HS.out]; rfl
/-! ### Which words stand behind a code's name, and each of them -/
def partsL (c : Int) : List UInt8 :=
  if 1 ≤ c ∧ c ≤ 12 then [100, 115] else if 15 ≤ c ∧ c ≤ 24 then [100, 115, 111] else if c = 13 then [100] else if c = 14 then [111] else if c = 25 then [100, 102] else if c = 26 then [116, 115] else if c = 27 then [99] else []
def partsB (c : Int) : ByteArray := ⟨(partsL c).toArray⟩
theorem parts_any (c : Int) (w : World) : Calls Tryz.prog 55 #[.int .i64 c] w fun e w' => e = .returned (.string (partsB c)) ∧ w' = w := by
  unfold partsB partsL
  by_cases h1 : 1 ≤ c ∧ c ≤ 12
  · rw [if_pos h1]
    have x1 : decide (1 ≤ c) = true := by simpa using h1.1
    have x2 : decide (c ≤ 12) = true := by simpa using h1.2
    clear h1
    go_enter Tryz.func55, Tryz.ntmps55
    go_wp2
    go_ret
    exact ⟨rfl, rfl⟩
  · rw [if_neg h1]
    by_cases h2 : 15 ≤ c ∧ c ≤ 24
    · rw [if_pos h2]
      have x1 : decide (1 ≤ c) = true := by simp; omega
      have x2 : decide (c ≤ 12) = false := by simp; omega
      have x3 : decide (15 ≤ c) = true := by simpa using h2.1
      have x4 : decide (c ≤ 24) = true := by simpa using h2.2
      clear h1 h2
      go_enter Tryz.func55, Tryz.ntmps55
      go_wp2
      go_ret
      exact ⟨rfl, rfl⟩
    · rw [if_neg h2]
      rcases (show c < 1 ∨ c = 13 ∨ c = 14 ∨ c = 25 ∨ c = 26 ∨ c = 27 ∨ 28 ≤ c by omega) with h | rfl | rfl | rfl | rfl | rfl | h
      · rw [if_neg (by omega), if_neg (by omega), if_neg (by omega), if_neg (by omega), if_neg (by omega)]
        have x1 : decide (1 ≤ c) = false := by simp; omega
        have x3 : decide (15 ≤ c) = false := by simp; omega
        have x5 : (c == 13) = false := by simp; omega
        have x6 : (c == 14) = false := by simp; omega
        have x7 : (c == 25) = false := by simp; omega
        have x8 : (c == 26) = false := by simp; omega
        have x9 : (c == 27) = false := by simp; omega
        clear h h1 h2
        go_enter Tryz.func55, Tryz.ntmps55
        go_wp2
        go_ret
        exact ⟨rfl, rfl⟩
      iterate 5
        · simp only [Int.reduceEq, if_true, if_false]
          clear h1 h2
          go_enter Tryz.func55, Tryz.ntmps55
          go_wp2
          go_ret
          exact ⟨rfl, rfl⟩
      · rw [if_neg (by omega), if_neg (by omega), if_neg (by omega), if_neg (by omega), if_neg (by omega)]
        have x1 : decide (1 ≤ c) = true := by simp; omega
        have x2 : decide (c ≤ 12) = false := by simp; omega
        have x3 : decide (15 ≤ c) = true := by simp; omega
        have x4 : decide (c ≤ 24) = false := by simp; omega
        have x5 : (c == 13) = false := by simp; omega
        have x6 : (c == 14) = false := by simp; omega
        have x7 : (c == 25) = false := by simp; omega
        have x8 : (c == 26) = false := by simp; omega
        have x9 : (c == 27) = false := by simp; omega
        clear h h1 h2
        go_enter Tryz.func55, Tryz.ntmps55
        go_wp2
        go_ret
        exact ⟨rfl, rfl⟩
/-- A number of 64 bits. -/
def Fits (n : Int) : Prop := -9223372036854775808 ≤ n ∧ n ≤ 9223372036854775807
def tellB (d s : Int) (r : Bool) (o n : Int) (p : Nat) : ByteArray :=
  if p = 100 then regB d else if p = 115 then secondB s r n else if p = 111 then numB o else if p = 102 then placeB s o else if p = 116 then placeB d o else callB n.toNat
theorem tell_any (c d s o n : Int) (r : Bool) (p : Nat) (w : World) (hd : Fits d) (hs : Fits s) (ho : Fits o) (hn : Fits n) (hT : Tabs ex w)
    (hp : p = 100 ∨ p = 115 ∨ p = 111 ∨ p = 102 ∨ p = 116 ∨ (p = 99 ∧ (n = 1 ∨ n = 2 ∨ n = 3))) :
    Calls Tryz.prog 57 #[.agg #[.int .i64 c, .int .i64 d, .int .i64 s, .bool r, .int .i64 o, .int .i64 n], .int .i32 p] w fun e w' => e = .returned (.string (tellB d s r o n p)) ∧ Below w.heap.size w w' := by
  have hF := Fine.start hT
  unfold tellB
  rcases hp with rfl | rfl | rfl | rfl | rfl | ⟨rfl, hn3⟩
  · rw [if_pos rfl]
    go_enter Tryz.func57, Tryz.ntmps57
    go_wp2_with (go_at_call 95; refine (registerWord_any _ _ hd.1 hd.2 (hF.alloc _).tabs).mono ?_; rintro e w1 ⟨rfl, hb1⟩)
    go_ret
    exact ⟨rfl, ((hF.alloc _).call hb1).bel⟩
  · rw [if_neg (by decide), if_pos rfl]
    unfold secondB
    cases r
    · go_enter Tryz.func57, Tryz.ntmps57
      go_wp2_with (go_at_call 96; refine (numberWord_any _ _ hn.1 hn.2 (hF.alloc _).tabs).mono ?_; rintro e w1 ⟨rfl, hb1⟩)
      go_ret
      exact ⟨rfl, ((hF.alloc _).call hb1).bel⟩
    · go_enter Tryz.func57, Tryz.ntmps57
      go_wp2_with (go_at_call 95; refine (registerWord_any _ _ hs.1 hs.2 (hF.alloc _).tabs).mono ?_; rintro e w1 ⟨rfl, hb1⟩)
      go_ret
      exact ⟨rfl, ((hF.alloc _).call hb1).bel⟩
  · rw [if_neg (by decide), if_neg (by decide), if_pos rfl]
    go_enter Tryz.func57, Tryz.ntmps57
    go_wp2_with (go_at_call 96; refine (numberWord_any _ _ ho.1 ho.2 (hF.alloc _).tabs).mono ?_; rintro e w1 ⟨rfl, hb1⟩)
    go_ret
    exact ⟨rfl, ((hF.alloc _).call hb1).bel⟩
  · rw [if_neg (by decide), if_neg (by decide), if_neg (by decide), if_pos rfl]
    go_enter Tryz.func57, Tryz.ntmps57
    go_wp2_with (go_at_call 97; refine (placeWord_any _ _ _ hs.1 hs.2 ho.1 ho.2 (hF.alloc _).tabs).mono ?_; rintro e w1 ⟨rfl, hb1⟩)
    go_ret
    exact ⟨rfl, ((hF.alloc _).call hb1).bel⟩
  · rw [if_neg (by decide), if_neg (by decide), if_neg (by decide), if_neg (by decide), if_pos rfl]
    go_enter Tryz.func57, Tryz.ntmps57
    go_wp2_with (go_at_call 97; refine (placeWord_any _ _ _ hd.1 hd.2 ho.1 ho.2 (hF.alloc _).tabs).mono ?_; rintro e w1 ⟨rfl, hb1⟩)
    go_ret
    exact ⟨rfl, ((hF.alloc _).call hb1).bel⟩
  · rw [if_neg (by decide), if_neg (by decide), if_neg (by decide), if_neg (by decide), if_neg (by decide)]
    have hroom := hT.room
    have hlt : 5 < w.heap.size := by omega
    rcases hn3 with rfl | rfl | rfl
    · have hc := hT.calls 1 (by decide)
      go_enter Tryz.func57, Tryz.ntmps57
      go_wp2
      go_ret
      exact ⟨rfl, (hF.alloc _).bel⟩
    · have hc := hT.calls 2 (by decide)
      go_enter Tryz.func57, Tryz.ntmps57
      go_wp2
      go_ret
      exact ⟨rfl, (hF.alloc _).bel⟩
    · have hc := hT.calls 3 (by decide)
      go_enter Tryz.func57, Tryz.ntmps57
      go_wp2
      go_ret
      exact ⟨rfl, (hF.alloc _).bel⟩
end Go.Proofs.YtegeiicginpdbaaGreatDoor
