/-
  What asm.place returns: the register and how far away, if the word is a place; the world below is as it was. Conditions: the tables lie in memory, the library's two errors are errors, the word is short.
-/
import Derived.Test.YtegeiicginpdbaaGreatDoorAny
namespace Go.Proofs.YtegeiicginpdbaaGreatDoor
open Go.ChangeShapes Go.WideShapes Go.ChangeAt Go.RowKit
variable {ex : Ext}

def inner1 (b : ByteArray) : ByteArray := ⟨(Lib.trimPrefix b.data.toList [91]).toArray⟩
def inner (b : ByteArray) : ByteArray := ⟨(Lib.trimSuffix (inner1 b).data.toList [93]).toArray⟩
def opened (b : ByteArray) : Bool := Lib.hasPrefix b.data.toList [91]
def closed (b : ByteArray) : Bool := Lib.hasSuffix (inner1 b).data.toList [93]
def signAt (b : ByteArray) : Int := Lib.indexAny (inner b).data.toList [43, 45]
def behind (b : ByteArray) (k : Nat) : ByteArray := ⟨(Lib.trimPrefix ((inner b).extract k (inner b).size).data.toList [43]).toArray⟩
/-- What is read of a word as a place. -/
def placeOf (b : ByteArray) : Option (Nat × Int) :=
  if opened b = true ∧ closed b = true ∧ 0 ≤ signAt b then
    match regOf ((inner b).extract 0 (signAt b).toNat), numOf (behind b (signAt b).toNat) with
    | some r, some n => some (r, n)
    | _, _ => none
  else none
theorem trimPrefix_le (l p : List UInt8) : (Lib.trimPrefix l p).length ≤ l.length := by
  unfold Lib.trimPrefix; split
  · simp
  · exact Nat.le_refl _
theorem trimSuffix_le (l p : List UInt8) : (Lib.trimSuffix l p).length ≤ l.length := by
  unfold Lib.trimSuffix; split
  · simp
  · exact Nat.le_refl _
theorem size_mk (l : List UInt8) : (ByteArray.mk l.toArray).size = l.length := by
  show l.toArray.size = _
  rw [List.size_toArray]
theorem size_list (b : ByteArray) : b.data.toList.length = b.size := by simp
theorem inner1_size (b : ByteArray) : (inner1 b).size ≤ b.size := by
  unfold inner1; rw [size_mk, ← size_list b]; exact trimPrefix_le _ _
theorem inner_size (b : ByteArray) : (inner b).size ≤ b.size := by
  refine Nat.le_trans ?_ (inner1_size b)
  unfold inner; rw [size_mk, ← size_list (inner1 b)]; exact trimSuffix_le _ _
theorem behind_size (b : ByteArray) (k : Nat) : (behind b k).size ≤ b.size := by
  refine Nat.le_trans ?_ (inner_size b)
  unfold behind; rw [size_mk]
  refine Nat.le_trans (trimPrefix_le _ _) ?_
  rw [size_list, ByteArray.size_extract]; omega
theorem cutOpen_any (b : ByteArray) (w : World) : Calls Tryz.prog 132 #[.string b, .string ⟨#[91]⟩] w fun e w' => e = .returned (.tuple #[.string (inner1 b), .bool (opened b)]) ∧ w' = w := Tryz.strings_CutPrefix b ⟨#[91]⟩ w
theorem cutClose_any (b : ByteArray) (w : World) (hb : b.size ≤ 100000) : Calls Tryz.prog 133 #[.string (inner1 b), .string ⟨#[93]⟩] w fun e w' => e = .returned (.tuple #[.string (inner b), .bool (closed b)]) ∧ w' = w :=
  Tryz.strings_CutSuffix (inner1 b) ⟨#[93]⟩ w (by have := inner1_size b; omega)
theorem signAt_any (b : ByteArray) (w : World) (hb : b.size ≤ 100000) (hT : Tabs ex w) :
    Calls Tryz.prog 134 #[.string (inner b), .string ⟨#[43, 45]⟩] w fun e w' => e = .returned (.int .i64 (signAt b)) ∧ Below w.heap.size w w' :=
  indexAny_any (inner b) w (by have := inner_size b; omega) hT
theorem trimPlus_any (b : ByteArray) (k : Nat) (w : World) : Calls Tryz.prog 135 #[.string ((inner b).extract k (inner b).size), .string ⟨#[43]⟩] w fun e w' => e = .returned (.string (behind b k)) ∧ w' = w := Tryz.strings_TrimPrefix _ ⟨#[43]⟩ w
theorem indexAny_lt : ∀ (l c : List UInt8), Lib.indexAny l c < l.length ∧ -1 ≤ Lib.indexAny l c
  | [], c => by simp [Lib.indexAny]
  | b :: l, c => by
    have ih := indexAny_lt l c
    unfold Lib.indexAny
    rw [List.length_cons]
    split
    · exact ⟨by omega, by omega⟩
    · split
      · exact ⟨by omega, by omega⟩
      · rename_i h
        simp at h
        exact ⟨by omega, by omega⟩
def placeV (b : ByteArray) : Value := match placeOf b with
  | some (r, n) => .tuple #[.int .i64 (r : Int), .int .i64 n, .bool true]
  | none => .tuple #[.int .i64 0, .int .i64 0, .bool false]
theorem placeV_none {b : ByteArray} (h : placeOf b = none) : placeV b = .tuple #[.int .i64 0, .int .i64 0, .bool false] := by unfold placeV; rw [h]
theorem placeV_some {b : ByteArray} {r : Nat} {n : Int} (h : placeOf b = some (r, n)) : placeV b = .tuple #[.int .i64 (r : Int), .int .i64 n, .bool true] := by unfold placeV; rw [h]
theorem place_any (he : ∀ w, ex.holds w → ErrTabs w) (b : ByteArray) (w : World) (hb : b.size ≤ 100000) (hT : Tabs ex w) :
    Calls Tryz.prog 93 #[.string b] w fun e w' => e = .returned (placeV b) ∧ Below w.heap.size w w' := by
  have hF := Fine.start hT
  have his := inner_size b
  by_cases p1 : opened b = true
  · by_cases p2 : closed b = true
    · by_cases p3 : 0 ≤ signAt b
      · have hlt := (indexAny_lt (inner b).data.toList [43, 45]).1
        rw [size_list] at hlt
        obtain ⟨k, hk⟩ := Int.eq_ofNat_of_zero_le p3
        have hkl : k < (inner b).size := by
          have : (signAt b) < (inner b).size := hlt
          omega
        have HP : Hid (placeOf b = match regOf ((inner b).extract 0 k), numOf (behind b k) with
            | some r, some n => some (r, n)
            | _, _ => none) := by
          show placeOf b = _
          unfold placeOf
          rw [if_pos ⟨p1, p2, p3⟩, hk]; rfl
        have hbs := behind_size b k
        clear hlt p3
        cases hr : regOf ((inner b).extract 0 k) with
        | none =>
          have HN : Hid (placeV b = .tuple #[.int .i64 0, .int .i64 0, .bool false]) := placeV_none (by rw [HP.out, hr])
          go_enter Tryz.func93, Tryz.ntmps93
          go_wp2_with (first
            | (go_at_call 132; refine (cutOpen_any _ _).mono ?_; rintro e w0 ⟨rfl, rfl⟩)
            | (go_at_call 133; refine (cutClose_any b _ hb).mono ?_; rintro e w0 ⟨rfl, rfl⟩)
            | (go_at_call 134; refine (signAt_any b _ hb hT).mono ?_; rintro e w1 ⟨rfl, hb1⟩)
            | (go_at_call 90; refine (register_any _ _ (hF.call hb1).tabs).mono ?_; rintro e w2 ⟨rfl, hb2⟩)
            | (go_at_call 135; refine (trimPlus_any b k _).mono ?_; rintro e w0 ⟨rfl, rfl⟩)
            | (go_at_call 92; refine (offset_any he _ _ (by omega) ((hF.call hb1).call hb2).tabs).mono ?_; rintro e w3 ⟨rfl, hb3⟩))
          go_ret3
          exact ⟨by rw [HN.out]; rfl, ((hF.call hb1).call hb2 |>.call hb3).bel⟩
        | some r =>
          cases hn : numOf (behind b k) with
          | none =>
            have HN : Hid (placeV b = .tuple #[.int .i64 0, .int .i64 0, .bool false]) := placeV_none (by rw [HP.out, hr, hn])
            go_enter Tryz.func93, Tryz.ntmps93
            go_wp2_with (first
              | (go_at_call 132; refine (cutOpen_any _ _).mono ?_; rintro e w0 ⟨rfl, rfl⟩)
              | (go_at_call 133; refine (cutClose_any b _ hb).mono ?_; rintro e w0 ⟨rfl, rfl⟩)
              | (go_at_call 134; refine (signAt_any b _ hb hT).mono ?_; rintro e w1 ⟨rfl, hb1⟩)
              | (go_at_call 90; refine (register_any _ _ (hF.call hb1).tabs).mono ?_; rintro e w2 ⟨rfl, hb2⟩)
              | (go_at_call 135; refine (trimPlus_any b k _).mono ?_; rintro e w0 ⟨rfl, rfl⟩)
              | (go_at_call 92; refine (offset_any he _ _ (by omega) ((hF.call hb1).call hb2).tabs).mono ?_; rintro e w3 ⟨rfl, hb3⟩))
            go_ret3
            exact ⟨by rw [HN.out]; rfl, ((hF.call hb1).call hb2 |>.call hb3).bel⟩
          | some n =>
            have HN : Hid (placeV b = .tuple #[.int .i64 (r : Int), .int .i64 n, .bool true]) := placeV_some (by rw [HP.out, hr, hn])
            go_enter Tryz.func93, Tryz.ntmps93
            go_wp2_with (first
              | (go_at_call 132; refine (cutOpen_any _ _).mono ?_; rintro e w0 ⟨rfl, rfl⟩)
              | (go_at_call 133; refine (cutClose_any b _ hb).mono ?_; rintro e w0 ⟨rfl, rfl⟩)
              | (go_at_call 134; refine (signAt_any b _ hb hT).mono ?_; rintro e w1 ⟨rfl, hb1⟩)
              | (go_at_call 90; refine (register_any _ _ (hF.call hb1).tabs).mono ?_; rintro e w2 ⟨rfl, hb2⟩)
              | (go_at_call 135; refine (trimPlus_any b k _).mono ?_; rintro e w0 ⟨rfl, rfl⟩)
              | (go_at_call 92; refine (offset_any he _ _ (by omega) ((hF.call hb1).call hb2).tabs).mono ?_; rintro e w3 ⟨rfl, hb3⟩))
            go_ret3
            exact ⟨by rw [HN.out]; rfl, ((hF.call hb1).call hb2 |>.call hb3).bel⟩
      · have HN : Hid (placeV b = .tuple #[.int .i64 0, .int .i64 0, .bool false]) := placeV_none (by unfold placeOf; rw [if_neg (fun h => p3 h.2.2)])
        have x3 : decide (signAt b < 0) = true := by simp; omega
        go_enter Tryz.func93, Tryz.ntmps93
        go_wp2_with (first
          | (go_at_call 132; refine (cutOpen_any _ _).mono ?_; rintro e w0 ⟨rfl, rfl⟩)
          | (go_at_call 133; refine (cutClose_any b _ hb).mono ?_; rintro e w0 ⟨rfl, rfl⟩)
          | (go_at_call 134; refine (signAt_any b _ hb hT).mono ?_; rintro e w1 ⟨rfl, hb1⟩))
        go_ret3
        exact ⟨by rw [HN.out]; rfl, (hF.call hb1).bel⟩
    · have HN : Hid (placeV b = .tuple #[.int .i64 0, .int .i64 0, .bool false]) := placeV_none (by unfold placeOf; rw [if_neg (fun h => p2 h.2.1)])
      have p2' : closed b = false := by simpa using p2
      clear p2
      go_enter Tryz.func93, Tryz.ntmps93
      go_wp2_with (first
        | (go_at_call 132; refine (cutOpen_any _ _).mono ?_; rintro e w0 ⟨rfl, rfl⟩)
        | (go_at_call 133; refine (cutClose_any b _ hb).mono ?_; rintro e w0 ⟨rfl, rfl⟩)
        | (go_at_call 134; refine (signAt_any b _ hb hT).mono ?_; rintro e w1 ⟨rfl, hb1⟩))
      go_ret3
      exact ⟨by rw [HN.out]; rfl, (hF.call hb1).bel⟩
  · have HN : Hid (placeV b = .tuple #[.int .i64 0, .int .i64 0, .bool false]) := placeV_none (by unfold placeOf; rw [if_neg (fun h => p1 h.1)])
    have p1' : opened b = false := by simpa using p1
    clear p1
    go_enter Tryz.func93, Tryz.ntmps93
    go_wp2_with (first
      | (go_at_call 132; refine (cutOpen_any _ _).mono ?_; rintro e w0 ⟨rfl, rfl⟩)
      | (go_at_call 133; refine (cutClose_any b _ hb).mono ?_; rintro e w0 ⟨rfl, rfl⟩)
      | (go_at_call 134; refine (signAt_any b _ hb hT).mono ?_; rintro e w1 ⟨rfl, hb1⟩))
    go_ret3
    exact ⟨by rw [HN.out]; rfl, (hF.call hb1).bel⟩
end Go.Proofs.YtegeiicginpdbaaGreatDoor
