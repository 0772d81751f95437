/-
  strings.IndexAny at the two signs: where the first of them is; the world below is as it was. Conditions: the text is short.
-/
import Derived.Test.YtegeiicginpdbaaGreatDoorCodes
import Derived.Laws.RangeAny
import Derived.WalkMore
import Derived.LoopN
import Derived.RegionTactic
import Derived.Deep.RegionWith
import Derived.Lib.OthersKept
namespace Go.Proofs.YtegeiicginpdbaaGreatDoor
open Go.ChangeShapes Go.WideShapes Go.ChangeAt Go.RowKit
variable {ex : Ext}
/-! ### strings.IndexRune at a rune that is no ASCII one -/
set_option maxHeartbeats 2000000 in
set_option maxRecDepth 100000 in
theorem indexRune_error (w : World) :
    Calls Tryz.prog 173 #[.string ⟨#[43, 45]⟩, .int .i32 65533] w fun e w' => e = .returned (.int .i64 (-1)) ∧ Below w.heap.size w w' := by
  have n0 := fun ty => run_next_ascii (P := Tryz.prog) w ⟨#[43, 45]⟩ 0 ty (by decide) (by decide)
  have n1 := fun ty => run_next_ascii (P := Tryz.prog) w ⟨#[43, 45]⟩ 1 ty (by decide) (by decide)
  have n2 := fun ty => run_next_end (P := Tryz.prog) w ⟨#[43, 45]⟩ 2 ty (by decide)
  simp only [Nat.reduceAdd] at n0 n1
  go_enter Tryz.func173, Tryz.ntmps173
  go_wp2
  refine wp_loop_rounds 3 ?_
  repeat any_goals (rw [rounds_succ]; go_wp2)
  all_goals go_ret
  all_goals exact ⟨rfl, (Below.refl _ _).alloc (Nat.le_refl _) _⟩
theorem indexByte_none (s : ByteArray) (c : Int) (w : World) (hs : s.data.toList = []) : Calls Tryz.prog 196 #[.string s, .int .u8 c] w fun e w' => e = .returned (.int .i64 (-1)) ∧ w' = w :=
  (Any.strings_IndexByte { Tryz.lays152 with } s c w).mono fun e w' h => by rw [hs] at h; exact h
theorem enc_two {r : Int} (h0 : 128 ≤ r) (h1 : r ≤ 2047) : ∃ b1 b2 : UInt8, Utf8.encode r = ⟨#[b1, b2]⟩ ∧ 128 ≤ b2.toNat := by
  have hv : Utf8.valid r = true := by simp [Utf8.valid]; omega
  refine ⟨UInt8.ofNat (0xC0 + r.toNat / 64), UInt8.ofNat (0x80 + r.toNat % 64), ?_, ?_⟩
  · simp only [Utf8.encode, hv, if_true]
    rw [if_neg (by omega), if_pos (by omega)]
  · simp; omega
set_option maxHeartbeats 2000000 in
set_option maxRecDepth 100000 in
theorem indexRune_two (r : Int) (h0 : 128 ≤ r) (h1 : r ≤ 2047) (w : World) :
    Calls Tryz.prog 173 #[.string ⟨#[43, 45]⟩, .int .i32 r] w fun e w' => e = .returned (.int .i64 (-1)) ∧ Below w.heap.size w w' := by
  have x1 : decide (r < 128) = false := by simp; omega
  have x2 : (r == 65533) = false := by simp; omega
  have x3 : decide (0 ≤ r) = true := by simp; omega
  have x4 : decide (r < 55296) = true := by simp; omega
  obtain ⟨b1, b2, he, hb⟩ := enc_two h0 h1
  have HB : Hid (128 ≤ b2.toNat) := hb
  have x5 : ((((⟨#[43, 45]⟩ : ByteArray)[1]'(by decide)).toNat : Int) != (((⟨#[b1, b2]⟩ : ByteArray)[1]'(by decide : 1 < 2)).toNat : Int)) = true := by
    show ((45 : Int) != (b2.toNat : Int)) = true
    simp; omega
  clear hb
  go_enter Tryz.func173, Tryz.ntmps173
  go_wp2
  go_step3
  go_wp2
  refine wp_loop_rounds 1 ?_
  rw [rounds_succ]
  go_wp2
  go_step3
  go_wp2
  go_region
  all_goals go_wp2
  go_region_with (go_at_call 196; refine (indexByte_none _ _ _ rfl).mono ?_; rintro e w' ⟨rfl, rfl⟩)
  all_goals go_wp2
  all_goals rw [Exit.noGoto_ret]
  all_goals simp only [Exit.inBlock, Exit.then, Exit.noGoto]
  all_goals go_ret
  all_goals exact ⟨rfl, (Below.refl _ _).drew.drew⟩
theorem enc_more {r : Int} (h0 : 2048 ≤ r) : ∃ b1 b2 b3 : UInt8, Utf8.encode r = ⟨#[b1, b2, b3]⟩ ∨ ∃ b4, Utf8.encode r = ⟨#[b1, b2, b3, b4]⟩ := by
  unfold Utf8.encode
  by_cases hv : Utf8.valid r = true
  · simp only [hv, if_true]
    rw [if_neg (by omega), if_neg (by omega)]
    by_cases h : r.toNat < 0x10000
    · rw [if_pos h]; exact ⟨_, _, _, .inl rfl⟩
    · rw [if_neg h]; exact ⟨_, _, _, .inr ⟨_, rfl⟩⟩
  · exact ⟨_, _, _, .inl (by simp only [hv]; rfl)⟩
set_option maxHeartbeats 2000000 in
set_option maxRecDepth 100000 in
theorem indexRune_more (r : Int) (h0 : 2048 ≤ r) (h1 : r ≠ 65533) (w : World) :
    Calls Tryz.prog 173 #[.string ⟨#[43, 45]⟩, .int .i32 r] w fun e w' => e = .returned (.int .i64 (-1)) ∧ Below w.heap.size w w' := by
  have x1 : decide (r < 128) = false := by simp; omega
  have x2 : (r == 65533) = false := by simp; omega
  have x3 : decide (0 ≤ r) = true := by simp; omega
  have hx2 : Hid (r ≠ 65533) := h1
  clear h1
  obtain ⟨b1, b2, b3, he | ⟨b4, he⟩⟩ := enc_more h0
  all_goals go_enter Tryz.func173, Tryz.ntmps173
  all_goals go_wp2
  all_goals first | (go_ret; exact ⟨rfl, Below.refl _ _⟩) | skip
  all_goals go_step3
  all_goals go_wp2
  all_goals refine wp_loop_rounds 1 ?_
  all_goals rw [rounds_succ]
  all_goals go_wp2
  all_goals rw [Exit.noGoto_ret]
  all_goals go_ret
  all_goals exact ⟨rfl, Below.refl _ _⟩
theorem indexRune_high (r : Int) (h : 128 ≤ r) (w : World) :
    Calls Tryz.prog 173 #[.string ⟨#[43, 45]⟩, .int .i32 r] w fun e w' => e = .returned (.int .i64 (-1)) ∧ Below w.heap.size w w' := by
  by_cases h1 : r ≤ 2047
  · exact indexRune_two r h h1 w
  by_cases h2 : r = 65533
  · subst h2; exact indexRune_error w
  · exact indexRune_more r (by omega) h2 w
/-! ### The runes of a text -/
theorem get_in (s : ByteArray) (i : Nat) (h : i < s.size) : s.get! i = s[i]'h := get_at s i h
theorem b_and {a b : Bool} (h : (a && b) = true) : a = true ∧ b = true := by simpa using h
/-- A byte that goes on, k behind pos. -/
def OnAt (s : ByteArray) (pos k : Nat) : Prop := (decide (pos + k < s.size) && (s.get! (pos + k)).toNat / 64 == 2) = true
theorem decode_forms (s : ByteArray) (pos : Nat) : (Utf8.decode s pos).2 = 1 ∨ ((Utf8.decode s pos).2 = 2 ∧ OnAt s pos 1) ∨ ((Utf8.decode s pos).2 = 3 ∧ OnAt s pos 1 ∧ OnAt s pos 2) ∨ ((Utf8.decode s pos).2 = 4 ∧ OnAt s pos 1 ∧ OnAt s pos 2 ∧ OnAt s pos 3) := by
  simp only [Utf8.decode]
  split
  · exact .inl rfl
  · split
    · rename_i h
      obtain ⟨_, h1⟩ := b_and h
      split
      · exact .inr (.inl ⟨rfl, h1⟩)
      · exact .inl rfl
    · split
      · rename_i h
        obtain ⟨h, h2⟩ := b_and h
        obtain ⟨_, h1⟩ := b_and h
        split
        · exact .inr (.inr (.inl ⟨rfl, h1, h2⟩))
        · exact .inl rfl
      · split
        · rename_i h
          obtain ⟨h, h3⟩ := b_and h
          obtain ⟨h, h2⟩ := b_and h
          obtain ⟨_, h1⟩ := b_and h
          split
          · exact .inr (.inr (.inr ⟨rfl, h1, h2, h3⟩))
          · exact .inl rfl
        · exact .inl rfl
theorem OnAt.out {s : ByteArray} {pos k : Nat} (h : OnAt s pos k) : pos + k < s.size ∧ 128 ≤ (s.get! (pos + k)).toNat := by
  unfold OnAt at h
  simp at h
  exact ⟨h.1, by omega⟩
theorem decode_bytes (s : ByteArray) (pos : Nat) (h : pos < s.size) (ha : 128 ≤ (s[pos]'h).toNat) : ∀ j, j < (Utf8.decode s pos).2 → pos + j < s.size ∧ 128 ≤ (s.get! (pos + j)).toNat := by
  have h0 : pos + 0 < s.size ∧ 128 ≤ (s.get! (pos + 0)).toNat := ⟨h, by rw [get_at s pos h]; exact ha⟩
  intro j hj
  rcases decode_forms s pos with e | ⟨e, h1⟩ | ⟨e, h1, h2⟩ | ⟨e, h1, h2, h3⟩ <;> rw [e] at hj
  · obtain rfl : j = 0 := by omega
    exact h0
  · rcases (by omega : j = 0 ∨ j = 1) with rfl | rfl
    · exact h0
    · exact h1.out
  · rcases (by omega : j = 0 ∨ j = 1 ∨ j = 2) with rfl | rfl | rfl
    · exact h0
    · exact h1.out
    · exact h2.out
  · rcases (by omega : j = 0 ∨ j = 1 ∨ j = 2 ∨ j = 3) with rfl | rfl | rfl | rfl
    · exact h0
    · exact h1.out
    · exact h2.out
    · exact h3.out
theorem noAny_high {s : ByteArray} {i k : Nat} (h : Lib.NoAny s.data.toList [43, 45] i) (hk : ∀ j, j < k → i + j < s.size ∧ 128 ≤ (s.get! (i + j)).toNat) : Lib.NoAny s.data.toList [43, 45] (i + k) := by
  induction k with
  | zero => exact h
  | succ k ih =>
    obtain ⟨h1, h2⟩ := hk k (by omega)
    refine (ih fun j hj => hk j (by omega)).succ (Lib.data_getElem? s (i + k) h1) ?_
    rw [get_in s (i + k) h1] at h2
    generalize s[i + k]'h1 = x at h2
    simp
    constructor
    · rintro rfl; simp at h2
    · rintro rfl; simp at h2
theorem any_iterAt {w W : World} {k pos : Nat} {s : ByteArray} (h : Below w.heap.size w W) (hk : w.heap.size ≤ k) : Below w.heap.size w (W.iterAt k s pos) :=
  h.trans ⟨rfl, rfl, rfl, by simp [World.iterAt], fun j hj => by simp [World.iterAt, Array.getElem?_setIfInBounds_ne (by omega : k ≠ j)]⟩
theorem size_iterAt (W : World) (k pos : Nat) (s : ByteArray) : (W.iterAt k s pos).heap.size = W.heap.size := by simp [World.iterAt]
theorem byte_back (x : UInt8) : ((x.toNat : Int)).toNat.toUInt8 = x := by simp
set_option maxHeartbeats 8000000 in
set_option maxRecDepth 1000000 in
theorem indexAny_short (s : ByteArray) (w : World) (h8 : s.size ≤ 8) :
    Calls Tryz.prog 134 #[.string s, .string ⟨#[43, 45]⟩] w fun e w' => e = .returned (.int .i64 (Lib.indexAny s.data.toList [43, 45])) ∧ Below w.heap.size w w' := by
  have h8z : decide ((8 : Int) < (s.size : Int)) = false := decide_eq_false (by omega)
  go_enter Tryz.func134, Tryz.ntmps134
  go_wp2
  go_loopw [9, 10] (fun _ _ wr => ∃ i : Nat, i ≤ s.size ∧ wr.heap[w.heap.size]? = some (.stringIter s i) ∧ Below w.heap.size w wr ∧ Lib.NoAny s.data.toList [43, 45] i) (fun _ _ wr => s.size - wr.iterPos w.heap.size)
  case atStart => exact ⟨0, by omega, World.iter_heap w s 0, (Below.refl _ _).alloc (Nat.le_refl _) _, Lib.NoAny.zero _ _⟩
  case round =>
    obtain ⟨i, hi, hit, hbw, hno⟩ := hrel
    have HN : Hid (Lib.NoAny s.data.toList [43, 45] i) := hno
    clear hno
    have hlw : w.heap.size < wr.heap.size := (Array.getElem?_eq_some_iff.1 hit).1
    have hpos : wr.iterPos w.heap.size = i := by simp [World.iterPos, hit]
    by_cases hlt : i < s.size
    · by_cases ha : (s[i]'hlt).toNat < 128
      · have hnx := fun ty => Lib.run_next_ascii_at (P := Tryz.prog) wr w.heap.size s i ty hit hlt ha
        have hit2 := Lib.iterAt_heap wr w.heap.size s i (i + 1) hit
        have hpos2 : (wr.iterAt w.heap.size s (i + 1)).iterPos w.heap.size = i + 1 := by simp [World.iterPos, hit2]
        have hb2 := any_iterAt (s := s) (pos := i + 1) hbw (Nat.le_refl _)
        obtain ⟨x, hx⟩ : ∃ x : UInt8, s[i]'hlt = x := ⟨_, rfl⟩
        have Hx : Hid (s.data.toList[i]? = some x) := by rw [← hx]; exact Lib.data_getElem? s i hlt
        rw [hx] at hnx ha
        have hcon := Lib.contains_iff_indexByte [43, 45] x
        have HP : Hid (wr.iterPos w.heap.size = i) := hpos
        have HP2 : Hid ((wr.iterAt w.heap.size s (i + 1)).iterPos w.heap.size = i + 1) := hpos2
        clear hx hpos hpos2
        cases hin : ([43, 45] : List UInt8).contains x
        · rw [hin] at hcon
          have Hin : Hid (([43, 45] : List UInt8).contains x = false) := hin
          have hlt0 : ¬ ((0 : Int) ≤ Lib.indexByte [43, 45] x) := of_decide_eq_false hcon.symm
          clear hcon hin
          go_wp2_with (go_at_call 173; refine (Tryz.strings_IndexRune_ascii _ _ _ (by omega) (by omega)).mono ?_; rintro e w' ⟨rfl, hw⟩; rw [hw, byte_back])
          go_roundw
          case rel => first | exact ⟨i + 1, by omega, hit2, hb2, HN.out.succ Hx.out Hin.out⟩ | ((repeat apply Exists.intro); exact ⟨⟨i + 1, by omega, hit2, hb2, HN.out.succ Hx.out Hin.out⟩, rfl⟩)
          case measure => rw [HP.out, HP2.out]; omega
        · rw [hin] at hcon
          have Hin : Hid (([43, 45] : List UInt8).contains x = true) := hin
          have hge : (0 : Int) ≤ Lib.indexByte [43, 45] x := of_decide_eq_true hcon.symm
          clear hcon hin
          go_wp2_with (go_at_call 173; refine (Tryz.strings_IndexRune_ascii _ _ _ (by omega) (by omega)).mono ?_; rintro e w' ⟨rfl, hw⟩; rw [hw, byte_back])
          go_ret
          exact ⟨by rw [Lib.indexAny_hit HN.out Hx.out Hin.out]; rfl, hb2⟩
      · have hd := decode_high s i hlt (by omega)
        have hbs := decode_bytes s i hlt (by omega)
        have hnx := fun ty => Lib.run_next_any_at (P := Tryz.prog) wr w.heap.size s i ty hit hlt
        obtain ⟨c, hc⟩ : ∃ c : Nat, (Utf8.decode s i).1 = c := ⟨_, rfl⟩
        obtain ⟨k, hk⟩ : ∃ k : Nat, (Utf8.decode s i).2 = k := ⟨_, rfl⟩
        simp only [hc, hk] at hnx
        rw [hc, hk] at hd
        rw [hk] at hbs
        have hle : i + k ≤ s.size := by have := (hbs (k - 1) (by omega)).1; omega
        have hit2 := Lib.iterAt_heap wr w.heap.size s i (i + k) hit
        have hb2 := any_iterAt (s := s) (pos := i + k) hbw (Nat.le_refl _)
        have hN2 : Hid (Lib.NoAny s.data.toList [43, 45] (i + k)) := noAny_high HN.out hbs
        have HP : Hid (wr.iterPos w.heap.size = i) := hpos
        clear hpos hc hk hbs
        go_wp2_with (go_at_call 173; refine (indexRune_high _ (by omega) _).mono ?_; rintro e w1 ⟨rfl, hb1⟩)
        have hit3 : w1.heap[w.heap.size]? = some (.stringIter s (i + k)) := (hb1.block _ (by rw [size_iterAt]; omega)).trans hit2
        have hb3 : Below w.heap.size w w1 := hb2.trans (hb1.mono (by rw [size_iterAt]; omega))
        have hpos3 : w1.iterPos w.heap.size = i + k := by simp [World.iterPos, hit3]
        go_roundw
        case rel => first | exact ⟨i + k, hle, hit3, hb3, hN2.out⟩ | ((repeat apply Exists.intro); exact ⟨⟨i + k, hle, hit3, hb3, hN2.out⟩, rfl⟩)
        case measure => rw [HP.out, hpos3]; omega
    · obtain rfl : i = s.size := by omega
      have hnx := fun ty => Lib.run_next_end_at (P := Tryz.prog) wr w.heap.size s s.size ty hit hlt
      go_wp2
      go_ret
      exact ⟨by rw [Lib.indexAny_none (by rw [← Lib.size_eq]; exact HN.out)]; rfl, hbw⟩
theorem Tryz.info256 : (Tryz.prog.info? (Tryz.lays153_ren.t 116)).map (fun i => (i.zero, i.size)) = some (some (.agg (Array.replicate 256 (.bool false))), 256) := by kernel_rfl
theorem indexAny_any (b : ByteArray) (w : World) (hb : b.size ≤ 100000) (_hT : Tabs ex w) :
    Calls Tryz.prog 134 #[.string b, .string ⟨#[43, 45]⟩] w fun e w' => e = .returned (.int .i64 (Lib.indexAny b.data.toList [43, 45])) ∧ Below w.heap.size w w' := by
  by_cases h8 : b.size ≤ 8
  · exact indexAny_short b w h8
  · refine (Any.strings_IndexAny_long Tryz.lays153 (zero_of_info Tryz.info256).1 (zero_of_info Tryz.info256).2 b ⟨#[43, 45]⟩ w (by decide) (by omega) (by omega) (by decide) ?_).mono fun e w' ⟨h1, h2⟩ => ⟨h1, ?_⟩
    · intro j x hx
      match j, hx with
      | 0, hx => cases hx; decide
      | 1, hx => cases hx; decide
      | j + 2, hx => cases hx
    · rw [h2]
      exact ((Below.refl _ _).alloc (Nat.le_refl _) _).alloc (by simp) _
end Go.Proofs.YtegeiicginpdbaaGreatDoor
