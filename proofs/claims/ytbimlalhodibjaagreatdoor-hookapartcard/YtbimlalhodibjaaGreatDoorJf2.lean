/-
 strings.IndexAny at the two signs: where the first of them is; the world below is as it was. Conditions: the text is short. What asm.place returns: the register and how far away, if the word is a place; the world below is as it was. Conditions: the tables lie in memory, the library's two errors are errors, the word is short. What asm.put does: it puts what a word z2s into a part of a step that lies in memory, and says whether it z2s such a thing; all else is as it was. Conditions: the tables lie in memory, the library's two errors are errors, the word is short. The words of a text, and what asm.cut returns: they, or the first five, if they are more; the world below is as it was. Conditions: the tables lie in memory, the text is short. A step as text: what asm.written returns is the name of the step's code and the words behind it, with a blank between; the world below is as it was. Conditions: the tables lie in memory, the code is one of the 28, numbers are of 64 bits, a call calls one of the three. What asm.cut returns: a text's words, or the first five, if they are more; the world below is as it was. Conditions: the tables lie in memory, the text is short.
-/
import Derived.Test.YtbimlalhodibjaaGreatDoorJf1
import Derived.Laws.RangeAny
import Derived.WalkMore
import Derived.LoopN
import Derived.RegionTactic
import Derived.Deep.RegionWith
import Derived.Lib.OthersKept
import Derived.RangeFuncBox
import Derived.RangeFuncWrites
import Derived.RangeFuncLeaves
import Derived.RangeFuncCalls
import Derived.Shelf.Abstract
import Derived.OwnWalkIn
import Derived.TacticsInMore
import Derived.LoopNIn
import Derived.LoopIn
import Derived.Maps.AppendAt
import Derived.Lib.QuoteLoop
import Derived.Lib.Join
set_option maxHeartbeats 40000000
open Go.Value renaming int → E
open Go.IntKind renaming i64 → F
open Go.RowKit.Below renaming alloc → bA, setCell → bS, drew → bD, refl → bF
set_option maxRecDepth 1000000
set_option linter.defProp false
set_option linter.unusedVariables false
set_option linter.unusedSimpArgs false
open Go.Ending renaming returned → rT
open Go.Value renaming pointer → pT
open Go.Obj renaming cells → cT
open Go.Proofs.Tryz renaming prog → tP
namespace Go.Proofs.YtbimlalhodibjaaGreatDoor
section
open Go.ChangeShapes Go.WideShapes Go.ChangeAt Go.RowKit
variable {ex : Ext}
theorem zB0 (w : World) :
  Calls tP 170 #[.string ⟨#[43, 45]⟩, .int .i32 65533] w fun e w' => e = rT (E F (-1)) /\ Below w.heap.size w w' := by
 have n0 := fun ty => run_next_ascii (P := tP) w ⟨#[43, 45]⟩ 0 ty (by decide) (by decide)
 have n1 := fun ty => run_next_ascii (P := tP) w ⟨#[43, 45]⟩ 1 ty (by decide) (by decide)
 have n2 := fun ty => run_next_end (P := tP) w ⟨#[43, 45]⟩ 2 ty (by decide)
 simp only [Nat.reduceAdd] at n0 n1
 go_enter Tryz.func170, Tryz.ntmps170
 go_wp2
 refine wp_loop_rounds 3 ?_
 repeat any_goals (rw [rounds_succ]; go_wp2)
 all_goals go_ret
 all_goals exact ⟨rfl, (bF _ _).alloc (Nat.le_refl _) _⟩
theorem zC1 (s : ByteArray) (c : Int) (w : World) (hs : s.data.toList = []) : Calls tP 193 #[.string s, .int .u8 c] w fun e w' => e = rT (E F (-1)) /\ w' = w :=
 (Any.strings_IndexByte { Tryz.lays152 with } s c w).mono fun e w' h => by rw [hs] at h; exact h
theorem zWz {r : Int} (h0 : 128 <= r) (h1 : r <= 2047) : ∃ b1 b2 : UInt8, Utf8.encode r = ⟨#[b1, b2]⟩ /\ 128 <= b2.toNat := by
 have hv : Utf8.valid r = true := by simp [Utf8.valid]; omega
 refine ⟨UInt8.ofNat (0xC0 + r.toNat / 64), UInt8.ofNat (0x80 + r.toNat % 64), ?_, ?_⟩
 ·simp only [Utf8.encode, hv, if_true]
  rw [if_neg (by omega), if_pos (by omega)]
 ·simp; omega
theorem zEk (r : Int) (h0 : 128 <= r) (h1 : r <= 2047) (w : World) :
  Calls tP 170 #[.string ⟨#[43, 45]⟩, .int .i32 r] w fun e w' => e = rT (E F (-1)) /\ Below w.heap.size w w' := by
 have x1 : decide (r < 128) = false := by simp; omega
 have x2 : (r == 65533) = false := by simp; omega
 have x3 : decide (0 <= r) = true := by simp; omega
 have x4 : decide (r < 55296) = true := by simp; omega
 obtain ⟨b1, b2, he, hb⟩ := zWz h0 h1
 have HB : Hid (128 <= b2.toNat) := hb
 have x5 : ((((⟨#[43, 45]⟩ : ByteArray)[1]'(by decide)).toNat : Int) != (((⟨#[b1, b2]⟩ : ByteArray)[1]'(by decide : 1 < 2)).toNat : Int)) = true := by
  show ((45 : Int) != (b2.toNat : Int)) = true
  simp; omega
 clear hb
 go_enter Tryz.func170, Tryz.ntmps170
 go_wp2
 go_step3
 go_wp2
 refine wp_loop_rounds 1 ?_
 rw [rounds_succ]
 go_wp2
 go_step3
 go_wp2
 go_region
 all_goals go_wp2
 go_region_with (go_at_call 193; refine (zC1 _ _ _ rfl).mono ?_; rintro e w' ⟨rfl, rfl⟩)
 all_goals go_wp2
 all_goals rw [Exit.noGoto_ret]
 all_goals simp only [Exit.inBlock, Exit.then, Exit.noGoto]
 all_goals go_ret
 all_goals exact ⟨rfl, (bF _ _).drew.drew⟩
theorem zUh {r : Int} (h0 : 2048 <= r) : ∃ b1 b2 b3 : UInt8, Utf8.encode r = ⟨#[b1, b2, b3]⟩ \/ ∃ b4, Utf8.encode r = ⟨#[b1, b2, b3, b4]⟩ := by
 unfold Utf8.encode
 by_cases hv : Utf8.valid r = true
 ·simp only [hv, if_true]
  rw [if_neg (by omega), if_neg (by omega)]
  by_cases h : r.toNat < 0x10000
  ·rw [if_pos h]; exact ⟨_, _, _, .inl rfl⟩
  ·rw [if_neg h]; exact ⟨_, _, _, .inr ⟨_, rfl⟩⟩
 ·exact ⟨_, _, _, .inl (by simp only [hv]; rfl)⟩
theorem zBz (r : Int) (h0 : 2048 <= r) (h1 : r ≠ 65533) (w : World) :
  Calls tP 170 #[.string ⟨#[43, 45]⟩, .int .i32 r] w fun e w' => e = rT (E F (-1)) /\ Below w.heap.size w w' := by
 have x1 : decide (r < 128) = false := by simp; omega
 have x2 : (r == 65533) = false := by simp; omega
 have x3 : decide (0 <= r) = true := by simp; omega
 have hx2 : Hid (r ≠ 65533) := h1
 clear h1
 obtain ⟨b1, b2, b3, he | ⟨b4, he⟩⟩ := zUh h0
 all_goals go_enter Tryz.func170, Tryz.ntmps170
 all_goals go_wp2
 all_goals first | (go_ret; exact ⟨rfl, bF _ _⟩) | skip
 all_goals go_step3
 all_goals go_wp2
 all_goals refine wp_loop_rounds 1 ?_
 all_goals rw [rounds_succ]
 all_goals go_wp2
 all_goals rw [Exit.noGoto_ret]
 all_goals go_ret
 all_goals exact ⟨rfl, bF _ _⟩
theorem zC0 (r : Int) (h : 128 <= r) (w : World) :
  Calls tP 170 #[.string ⟨#[43, 45]⟩, .int .i32 r] w fun e w' => e = rT (E F (-1)) /\ Below w.heap.size w w' := by
 by_cases h1 : r <= 2047
 ·exact zEk r h h1 w
 by_cases h2 : r = 65533
 ·subst h2; exact zB0 w
 ·exact zBz r (by omega) h2 w
theorem get_in (s : ByteArray) (i : Nat) (h : i < s.size) : s.get! i = s[i]'h := get_at s i h
theorem zO7 {a b : Bool} (h : (a && b) = true) : a = true /\ b = true := by simpa using h
def OnAt (s : ByteArray) (pos k : Nat) : Prop := (decide (pos + k < s.size) && (s.get! (pos + k)).toNat / 64 == 2) = true
theorem decode_forms (s : ByteArray) (pos : Nat) : (Utf8.decode s pos).2 = 1 \/ ((Utf8.decode s pos).2 = 2 /\ OnAt s pos 1) \/ ((Utf8.decode s pos).2 = 3 /\ OnAt s pos 1 /\ OnAt s pos 2) \/ ((Utf8.decode s pos).2 = 4 /\ OnAt s pos 1 /\ OnAt s pos 2 /\ OnAt s pos 3) := by
 simp only [Utf8.decode]
 split
 ·exact .inl rfl
 ·split
  ·rename_i h
   obtain ⟨_, h1⟩ := zO7 h
   split
   ·exact .inr (.inl ⟨rfl, h1⟩)
   ·exact .inl rfl
  ·split
   ·rename_i h
    obtain ⟨h, h2⟩ := zO7 h
    obtain ⟨_, h1⟩ := zO7 h
    split
    ·exact .inr (.inr (.inl ⟨rfl, h1, h2⟩))
    ·exact .inl rfl
   ·split
    ·rename_i h
     obtain ⟨h, h3⟩ := zO7 h
     obtain ⟨h, h2⟩ := zO7 h
     obtain ⟨_, h1⟩ := zO7 h
     split
     ·exact .inr (.inr (.inr ⟨rfl, h1, h2, h3⟩))
     ·exact .inl rfl
    ·exact .inl rfl
theorem OnAt.out {s : ByteArray} {pos k : Nat} (h : OnAt s pos k) : pos + k < s.size /\ 128 <= (s.get! (pos + k)).toNat := by
 unfold OnAt at h
 simp at h
 exact ⟨h.1, by omega⟩
theorem zH5 (s : ByteArray) (pos : Nat) (h : pos < s.size) (ha : 128 <= (s[pos]'h).toNat) : ∀ j, j < (Utf8.decode s pos).2 -> pos + j < s.size /\ 128 <= (s.get! (pos + j)).toNat := by
 have h0 : pos + 0 < s.size /\ 128 <= (s.get! (pos + 0)).toNat := ⟨h, by rw [get_at s pos h]; exact ha⟩
 intro j hj
 rcases decode_forms s pos with e | ⟨e, h1⟩ | ⟨e, h1, h2⟩ | ⟨e, h1, h2, h3⟩ <;> rw [e] at hj
 ·obtain rfl : j = 0 := by omega
  exact h0
 ·rcases (by omega : j = 0 \/ j = 1) with rfl | rfl
  ·exact h0
  ·exact h1.out
 ·rcases (by omega : j = 0 \/ j = 1 \/ j = 2) with rfl | rfl | rfl
  ·exact h0
  ·exact h1.out
  ·exact h2.out
 ·rcases (by omega : j = 0 \/ j = 1 \/ j = 2 \/ j = 3) with rfl | rfl | rfl | rfl
  ·exact h0
  ·exact h1.out
  ·exact h2.out
  ·exact h3.out
theorem zMw {s : ByteArray} {i k : Nat} (h : Lib.NoAny s.data.toList [43, 45] i) (hk : ∀ j, j < k -> i + j < s.size /\ 128 <= (s.get! (i + j)).toNat) : Lib.NoAny s.data.toList [43, 45] (i + k) := by
 induction k with
 | zero => exact h
 | succ k ih =>
  obtain ⟨h1, h2⟩ := hk k (by omega)
  refine (ih fun j hj => hk j (by omega)).succ (Lib.data_getElem? s (i + k) h1) ?_
  rw [get_in s (i + k) h1] at h2
  generalize s[i + k]'h1 = x at h2
  simp
  constructor
  ·rintro rfl; simp at h2
  ·rintro rfl; simp at h2
theorem zDj {w W : World} {k pos : Nat} {s : ByteArray} (h : Below w.heap.size w W) (hk : w.heap.size <= k) : Below w.heap.size w (W.iterAt k s pos) :=
 h.trans ⟨rfl, rfl, rfl, by simp [World.iterAt], fun j hj => by simp [World.iterAt, Array.getElem?_setIfInBounds_ne (by omega : k ≠ j)]⟩
theorem zA7 (W : World) (k pos : Nat) (s : ByteArray) : (W.iterAt k s pos).heap.size = W.heap.size := by simp [World.iterAt]
theorem zHc (x : UInt8) : ((x.toNat : Int)).toNat.toUInt8 = x := by simp
theorem zC2 (s : ByteArray) (w : World) (h8 : s.size <= 8) :
  Calls tP 132 #[.string s, .string ⟨#[43, 45]⟩] w fun e w' => e = rT (E F (Lib.indexAny s.data.toList [43, 45])) /\ Below w.heap.size w w' := by
 have h8z : decide ((8 : Int) < (s.size : Int)) = false := decide_eq_false (by omega)
 go_enter Tryz.func132, Tryz.ntmps132
 go_wp2
 go_loopw [9, 10] (fun _ _ wr => ∃ i : Nat, i <= s.size /\ wr.heap[w.heap.size]? = some (.stringIter s i) /\ Below w.heap.size w wr /\ Lib.NoAny s.data.toList [43, 45] i) (fun _ _ wr => s.size - wr.iterPos w.heap.size)
 case atStart => exact ⟨0, by omega, World.iter_heap w s 0, (bF _ _).alloc (Nat.le_refl _) _, Lib.NoAny.zero _ _⟩
 case round =>
  obtain ⟨i, hi, hit, hbw, hno⟩ := hrel
  have HN : Hid (Lib.NoAny s.data.toList [43, 45] i) := hno
  clear hno
  have hlw : w.heap.size < wr.heap.size := (Array.getElem?_eq_some_iff.1 hit).1
  have hpos : wr.iterPos w.heap.size = i := by simp [World.iterPos, hit]
  by_cases hlt : i < s.size
  ·by_cases ha : (s[i]'hlt).toNat < 128
   ·have hnx := fun ty => Lib.run_next_ascii_at (P := tP) wr w.heap.size s i ty hit hlt ha
    have hit2 := Lib.iterAt_heap wr w.heap.size s i (i + 1) hit
    have hpos2 : (wr.iterAt w.heap.size s (i + 1)).iterPos w.heap.size = i + 1 := by simp [World.iterPos, hit2]
    have hb2 := zDj (s := s) (pos := i + 1) hbw (Nat.le_refl _)
    obtain ⟨x, hx⟩ : ∃ x : UInt8, s[i]'hlt = x := ⟨_, rfl⟩
    have Hx : Hid (s.data.toList[i]? = some x) := by rw [<- hx]; exact Lib.data_getElem? s i hlt
    rw [hx] at hnx ha
    have hcon := Lib.contains_iff_indexByte [43, 45] x
    have HP : Hid (wr.iterPos w.heap.size = i) := hpos
    have HP2 : Hid ((wr.iterAt w.heap.size s (i + 1)).iterPos w.heap.size = i + 1) := hpos2
    clear hx hpos hpos2
    cases hin : ([43, 45] : List UInt8).contains x
    ·rw [hin] at hcon
     have Hin : Hid (([43, 45] : List UInt8).contains x = false) := hin
     have hlt0 : ¬ ((0 : Int) <= Lib.indexByte [43, 45] x) := of_decide_eq_false hcon.symm
     clear hcon hin
     go_wp2_with (go_at_call 170; refine (Tryz.strings_IndexRune_ascii _ _ _ (by omega) (by omega)).mono ?_; rintro e w' ⟨rfl, hw⟩; rw [hw, zHc])
     go_roundw
     case rel => first | exact ⟨i + 1, by omega, hit2, hb2, HN.out.succ Hx.out Hin.out⟩ | ((repeat apply Exists.intro); exact ⟨⟨i + 1, by omega, hit2, hb2, HN.out.succ Hx.out Hin.out⟩, rfl⟩)
     case measure => rw [HP.out, HP2.out]; omega
    ·rw [hin] at hcon
     have Hin : Hid (([43, 45] : List UInt8).contains x = true) := hin
     have hge : (0 : Int) <= Lib.indexByte [43, 45] x := of_decide_eq_true hcon.symm
     clear hcon hin
     go_wp2_with (go_at_call 170; refine (Tryz.strings_IndexRune_ascii _ _ _ (by omega) (by omega)).mono ?_; rintro e w' ⟨rfl, hw⟩; rw [hw, zHc])
     go_ret
     exact ⟨by rw [Lib.indexAny_hit HN.out Hx.out Hin.out]; rfl, hb2⟩
   ·have hd := decode_high s i hlt (by omega)
    have hbs := zH5 s i hlt (by omega)
    have hnx := fun ty => Lib.run_next_any_at (P := tP) wr w.heap.size s i ty hit hlt
    obtain ⟨c, hc⟩ : ∃ c : Nat, (Utf8.decode s i).1 = c := ⟨_, rfl⟩
    obtain ⟨k, hk⟩ : ∃ k : Nat, (Utf8.decode s i).2 = k := ⟨_, rfl⟩
    simp only [hc, hk] at hnx
    rw [hc, hk] at hd
    rw [hk] at hbs
    have hle : i + k <= s.size := by have := (hbs (k - 1) (by omega)).1; omega
    have hit2 := Lib.iterAt_heap wr w.heap.size s i (i + k) hit
    have hb2 := zDj (s := s) (pos := i + k) hbw (Nat.le_refl _)
    have hN2 : Hid (Lib.NoAny s.data.toList [43, 45] (i + k)) := zMw HN.out hbs
    have HP : Hid (wr.iterPos w.heap.size = i) := hpos
    clear hpos hc hk hbs
    go_wp2_with (go_at_call 170; refine (zC0 _ (by omega) _).mono ?_; rintro e w1 ⟨rfl, hb1⟩)
    have hit3 : w1.heap[w.heap.size]? = some (.stringIter s (i + k)) := (hb1.block _ (by rw [zA7]; omega)).trans hit2
    have hb3 : Below w.heap.size w w1 := hb2.trans (hb1.mono (by rw [zA7]; omega))
    have hpos3 : w1.iterPos w.heap.size = i + k := by simp [World.iterPos, hit3]
    go_roundw
    case rel => first | exact ⟨i + k, hle, hit3, hb3, hN2.out⟩ | ((repeat apply Exists.intro); exact ⟨⟨i + k, hle, hit3, hb3, hN2.out⟩, rfl⟩)
    case measure => rw [HP.out, hpos3]; omega
  ·obtain rfl : i = s.size := by omega
   have hnx := fun ty => Lib.run_next_end_at (P := tP) wr w.heap.size s s.size ty hit hlt
   go_wp2
   go_ret
   exact ⟨by rw [Lib.indexAny_none (by rw [<- Lib.size_eq]; exact HN.out)]; rfl, hbw⟩
theorem Tryz.info256 : (Tryz.prog.info? (Tryz.lays153_ren.t 116)).map (fun i => (i.zero, i.size)) = some (some (.agg (Array.replicate 256 (.bool false))), 256) := by kernel_rfl
theorem zGm (b : ByteArray) (w : World) (hb : b.size <= 100000) (_hT : Tabs ex w) :
  Calls tP 132 #[.string b, .string ⟨#[43, 45]⟩] w fun e w' => e = rT (E F (Lib.indexAny b.data.toList [43, 45])) /\ Below w.heap.size w w' := by
 by_cases h8 : b.size <= 8
 ·exact zC2 b w h8
 ·refine (Any.strings_IndexAny_long Tryz.lays153 (zero_of_info Tryz.info256).1 (zero_of_info Tryz.info256).2 b ⟨#[43, 45]⟩ w (by decide) (by omega) (by omega) (by decide) ?_).mono fun e w' ⟨h1, h2⟩ => ⟨h1, ?_⟩
  ·intro j x hx
   match j, hx with
   | 0, hx => cases hx; decide
   | 1, hx => cases hx; decide
   | j + 2, hx => cases hx
  ·rw [h2]
   exact ((bF _ _).alloc (Nat.le_refl _) _).alloc (by simp) _
end
section
open Go.ChangeShapes Go.WideShapes Go.ChangeAt Go.RowKit
variable {ex : Ext}
def z98 (b : ByteArray) : ByteArray := ⟨(Lib.trimPrefix b.data.toList [91]).toArray⟩
def z6q (b : ByteArray) : ByteArray := ⟨(Lib.trimSuffix (z98 b).data.toList [93]).toArray⟩
def zKf (b : ByteArray) : Bool := Lib.hasPrefix b.data.toList [91]
def zL4 (b : ByteArray) : Bool := Lib.hasSuffix (z98 b).data.toList [93]
def zA8 (b : ByteArray) : Int := Lib.indexAny (z6q b).data.toList [43, 45]
def behind (b : ByteArray) (k : Nat) : ByteArray := ⟨(Lib.trimPrefix ((z6q b).extract k (z6q b).size).data.toList [43]).toArray⟩
def placeOf (b : ByteArray) : Option (Nat × Int) :=
 if zKf b = true /\ zL4 b = true /\ 0 <= zA8 b then
  match z5r ((z6q b).extract 0 (zA8 b).toNat), z5h (behind b (zA8 b).toNat) with
  | some r, some n => some (r, n)
  | _, _ => none
 else none
theorem z7b (l p : List UInt8) : (Lib.trimPrefix l p).length <= l.length := by
 unfold Lib.trimPrefix; split
 ·simp
 ·exact Nat.le_refl _
theorem zDp (l p : List UInt8) : (Lib.trimSuffix l p).length <= l.length := by
 unfold Lib.trimSuffix; split
 ·simp
 ·exact Nat.le_refl _
theorem zHz (l : List UInt8) : (ByteArray.mk l.toArray).size = l.length := by
 show l.toArray.size = _
 rw [List.size_toArray]
theorem z5y (b : ByteArray) : b.data.toList.length = b.size := by simp
theorem zAz (b : ByteArray) : (z98 b).size <= b.size := by
 unfold z98; rw [zHz, <- z5y b]; exact z7b _ _
theorem z8n (b : ByteArray) : (z6q b).size <= b.size := by
 refine Nat.le_trans ?_ (zAz b)
 unfold z6q; rw [zHz, <- z5y (z98 b)]; exact zDp _ _
theorem zK0 (b : ByteArray) (k : Nat) : (behind b k).size <= b.size := by
 refine Nat.le_trans ?_ (z8n b)
 unfold behind; rw [zHz]
 refine Nat.le_trans (z7b _ _) ?_
 rw [z5y, ByteArray.size_extract]; omega
theorem z3t (b : ByteArray) (w : World) : Calls tP 130 #[.string b, .string ⟨#[91]⟩] w fun e w' => e = rT (.tuple #[.string (z98 b), .bool (zKf b)]) /\ w' = w := Tryz.strings_CutPrefix b ⟨#[91]⟩ w
theorem z3d (b : ByteArray) (w : World) (hb : b.size <= 100000) : Calls tP 131 #[.string (z98 b), .string ⟨#[93]⟩] w fun e w' => e = rT (.tuple #[.string (z6q b), .bool (zL4 b)]) /\ w' = w :=
 Tryz.strings_CutSuffix (z98 b) ⟨#[93]⟩ w (by have := zAz b; omega)
theorem z4a (b : ByteArray) (w : World) (hb : b.size <= 100000) (hT : Tabs ex w) :
  Calls tP 132 #[.string (z6q b), .string ⟨#[43, 45]⟩] w fun e w' => e = rT (E F (zA8 b)) /\ Below w.heap.size w w' :=
 zGm (z6q b) w (by have := z8n b; omega) hT
theorem z5v (b : ByteArray) (k : Nat) (w : World) : Calls tP 133 #[.string ((z6q b).extract k (z6q b).size), .string ⟨#[43]⟩] w fun e w' => e = rT (.string (behind b k)) /\ w' = w := Tryz.strings_TrimPrefix _ ⟨#[43]⟩ w
theorem zB1 : ∀ (l c : List UInt8), Lib.indexAny l c < l.length /\ -1 <= Lib.indexAny l c
 | [], c => by simp [Lib.indexAny]
 | b :: l, c => by
  have ih := zB1 l c
  unfold Lib.indexAny
  rw [List.length_cons]
  split
  ·exact ⟨by omega, by omega⟩
  ·split
   ·exact ⟨by omega, by omega⟩
   ·rename_i h
    simp at h
    exact ⟨by omega, by omega⟩
def z50 (b : ByteArray) : Value := match placeOf b with
 | some (r, n) => .tuple #[E F (r : Int), E F n, .bool true]
 | none => .tuple #[E F 0, E F 0, .bool false]
theorem z4e {b : ByteArray} (h : placeOf b = none) : z50 b = .tuple #[E F 0, E F 0, .bool false] := by unfold z50; rw [h]
theorem zIe {b : ByteArray} {r : Nat} {n : Int} (h : placeOf b = some (r, n)) : z50 b = .tuple #[E F (r : Int), E F n, .bool true] := by unfold z50; rw [h]
theorem zPg (he : ∀ w, ex.holds w -> z36 w) (b : ByteArray) (w : World) (hb : b.size <= 100000) (hT : Tabs ex w) :
  Calls tP 94 #[.string b] w fun e w' => e = rT (z50 b) /\ Below w.heap.size w w' := by
 have hF := Fine.start hT
 have his := z8n b
 by_cases p1 : zKf b = true
 ·by_cases p2 : zL4 b = true
  ·by_cases p3 : 0 <= zA8 b
   ·have hlt := (zB1 (z6q b).data.toList [43, 45]).1
    rw [z5y] at hlt
    obtain ⟨k, hk⟩ := Int.eq_ofNat_of_zero_le p3
    have hkl : k < (z6q b).size := by
     have : (zA8 b) < (z6q b).size := hlt
     omega
    have HP : Hid (placeOf b = match z5r ((z6q b).extract 0 k), z5h (behind b k) with
      | some r, some n => some (r, n)
      | _, _ => none) := by
     show placeOf b = _
     unfold placeOf
     rw [if_pos ⟨p1, p2, p3⟩, hk]; rfl
    have hbs := zK0 b k
    clear hlt p3
    cases hr : z5r ((z6q b).extract 0 k) with
    | none =>
     have HN : Hid (z50 b = .tuple #[E F 0, E F 0, .bool false]) := z4e (by rw [HP.out, hr])
     go_enter Tryz.func94, Tryz.ntmps94
     go_wp2_with (first
      | (go_at_call 130; refine (z3t _ _).mono ?_; rintro e w0 ⟨rfl, rfl⟩)
      | (go_at_call 131; refine (z3d b _ hb).mono ?_; rintro e w0 ⟨rfl, rfl⟩)
      | (go_at_call 132; refine (z4a b _ hb hT).mono ?_; rintro e w1 ⟨rfl, hb1⟩)
      | (go_at_call 91; refine (z3a _ _ (hF.call hb1).tabs).mono ?_; rintro e w2 ⟨rfl, hb2⟩)
      | (go_at_call 133; refine (z5v b k _).mono ?_; rintro e w0 ⟨rfl, rfl⟩)
      | (go_at_call 93; refine (z6d he _ _ (by omega) ((hF.call hb1).call hb2).tabs).mono ?_; rintro e w3 ⟨rfl, hb3⟩))
     go_ret3
     exact ⟨by rw [HN.out]; rfl, ((hF.call hb1).call hb2 |>.call hb3).bel⟩
    | some r =>
     cases hn : z5h (behind b k) with
     | none =>
      have HN : Hid (z50 b = .tuple #[E F 0, E F 0, .bool false]) := z4e (by rw [HP.out, hr, hn])
      go_enter Tryz.func94, Tryz.ntmps94
      go_wp2_with (first
       | (go_at_call 130; refine (z3t _ _).mono ?_; rintro e w0 ⟨rfl, rfl⟩)
       | (go_at_call 131; refine (z3d b _ hb).mono ?_; rintro e w0 ⟨rfl, rfl⟩)
       | (go_at_call 132; refine (z4a b _ hb hT).mono ?_; rintro e w1 ⟨rfl, hb1⟩)
       | (go_at_call 91; refine (z3a _ _ (hF.call hb1).tabs).mono ?_; rintro e w2 ⟨rfl, hb2⟩)
       | (go_at_call 133; refine (z5v b k _).mono ?_; rintro e w0 ⟨rfl, rfl⟩)
       | (go_at_call 93; refine (z6d he _ _ (by omega) ((hF.call hb1).call hb2).tabs).mono ?_; rintro e w3 ⟨rfl, hb3⟩))
      go_ret3
      exact ⟨by rw [HN.out]; rfl, ((hF.call hb1).call hb2 |>.call hb3).bel⟩
     | some n =>
      have HN : Hid (z50 b = .tuple #[E F (r : Int), E F n, .bool true]) := zIe (by rw [HP.out, hr, hn])
      go_enter Tryz.func94, Tryz.ntmps94
      go_wp2_with (first
       | (go_at_call 130; refine (z3t _ _).mono ?_; rintro e w0 ⟨rfl, rfl⟩)
       | (go_at_call 131; refine (z3d b _ hb).mono ?_; rintro e w0 ⟨rfl, rfl⟩)
       | (go_at_call 132; refine (z4a b _ hb hT).mono ?_; rintro e w1 ⟨rfl, hb1⟩)
       | (go_at_call 91; refine (z3a _ _ (hF.call hb1).tabs).mono ?_; rintro e w2 ⟨rfl, hb2⟩)
       | (go_at_call 133; refine (z5v b k _).mono ?_; rintro e w0 ⟨rfl, rfl⟩)
       | (go_at_call 93; refine (z6d he _ _ (by omega) ((hF.call hb1).call hb2).tabs).mono ?_; rintro e w3 ⟨rfl, hb3⟩))
      go_ret3
      exact ⟨by rw [HN.out]; rfl, ((hF.call hb1).call hb2 |>.call hb3).bel⟩
   ·have HN : Hid (z50 b = .tuple #[E F 0, E F 0, .bool false]) := z4e (by unfold placeOf; rw [if_neg (fun h => p3 h.2.2)])
    have x3 : decide (zA8 b < 0) = true := by simp; omega
    go_enter Tryz.func94, Tryz.ntmps94
    go_wp2_with (first
     | (go_at_call 130; refine (z3t _ _).mono ?_; rintro e w0 ⟨rfl, rfl⟩)
     | (go_at_call 131; refine (z3d b _ hb).mono ?_; rintro e w0 ⟨rfl, rfl⟩)
     | (go_at_call 132; refine (z4a b _ hb hT).mono ?_; rintro e w1 ⟨rfl, hb1⟩))
    go_ret3
    exact ⟨by rw [HN.out]; rfl, (hF.call hb1).bel⟩
  ·have HN : Hid (z50 b = .tuple #[E F 0, E F 0, .bool false]) := z4e (by unfold placeOf; rw [if_neg (fun h => p2 h.2.1)])
   have p2' : zL4 b = false := by simpa using p2
   clear p2
   go_enter Tryz.func94, Tryz.ntmps94
   go_wp2_with (first
    | (go_at_call 130; refine (z3t _ _).mono ?_; rintro e w0 ⟨rfl, rfl⟩)
    | (go_at_call 131; refine (z3d b _ hb).mono ?_; rintro e w0 ⟨rfl, rfl⟩)
    | (go_at_call 132; refine (z4a b _ hb hT).mono ?_; rintro e w1 ⟨rfl, hb1⟩))
   go_ret3
   exact ⟨by rw [HN.out]; rfl, (hF.call hb1).bel⟩
 ·have HN : Hid (z50 b = .tuple #[E F 0, E F 0, .bool false]) := z4e (by unfold placeOf; rw [if_neg (fun h => p1 h.1)])
  have p1' : zKf b = false := by simpa using p1
  clear p1
  go_enter Tryz.func94, Tryz.ntmps94
  go_wp2_with (first
   | (go_at_call 130; refine (z3t _ _).mono ?_; rintro e w0 ⟨rfl, rfl⟩)
   | (go_at_call 131; refine (z3d b _ hb).mono ?_; rintro e w0 ⟨rfl, rfl⟩)
   | (go_at_call 132; refine (z4a b _ hb hT).mono ?_; rintro e w1 ⟨rfl, hb1⟩))
  go_ret3
  exact ⟨by rw [HN.out]; rfl, (hF.call hb1).bel⟩
end
section
open Go.ChangeShapes Go.WideShapes Go.ChangeAt Go.RowKit
variable {ex : Ext}
structure St where
 c : Int
 d : Int
 s : Int
 r : Bool
 o : Int
 n : Int
def St.cells (x : St) : Array Value := #[E F x.c, E F x.d, E F x.s, .bool x.r, E F x.o, E F x.n]
def z2w (w : World) (b : Nat) (x : St) : Prop := w.heap[b]? = some (cT x.cells 80 (0, 0))
theorem z2w.lt {w : World} {b : Nat} {x : St} (h : z2w w b x) : b < w.heap.size := (Array.getElem?_eq_some_iff.1 h).1
theorem z2w.cell {w : World} {b : Nat} {x : St} (h : z2w w b x) (i : Nat) : w.cell? ⟨b, i, none⟩ = x.cells[i]? := by
 have h' : w.heap[b]? = some (cT x.cells 80 (0, 0)) := h
 simp [World.cell?, h']
theorem z2w.frozen {w : World} {b : Nat} {x : St} (h : z2w w b x) (i : Nat) : w.frozen? ⟨b, i, none⟩ = false := by
 have h' : w.heap[b]? = some (cT x.cells 80 (0, 0)) := h
 simp [World.frozen?, h']
theorem z2w.later {w w1 : World} {b : Nat} {x : St} (h : z2w w b x) (hb : Below w.heap.size w w1) : z2w w1 b x := (hb.block b h.lt).trans h
theorem z2w.set {w : World} {b : Nat} {x y : St} (h : z2w w b x) (i : Nat) (v : Value) (hy : x.cells.setIfInBounds i v = y.cells) : z2w (w.setCell ⟨b, i, none⟩ v) b y := by
 have h' : w.heap[b]? = some (cT x.cells 80 (0, 0)) := h
 unfold z2w
 rw [<- hy]
 simp [World.setCell, Array.getElem?_modify, h']
theorem z2e {w w1 : World} (hb : Below w.heap.size w w1) (row : Option Nat) : w.grownBy w1 row := ⟨hb.os, hb.tape, hb.output, hb.size, fun k hk _ => hb.block k hk⟩
theorem z2i {w w1 : World} {b : Nat} (h : w.grownBy w1 (some b)) (i : Nat) (v : Value) : w.grownBy (w1.setCell ⟨b, i, none⟩ v) (some b) :=
 ⟨h.os, h.tape, h.output, by show w.heap.size <= (w1.heap.modify b _).size; rw [Array.size_modify]; exact h.size, fun k hk hne => (Below.heap_setCell w1 ⟨b, i, none⟩ v k (fun e => hne (by rw [e]))).trans (h.block k hk hne)⟩
def St.put (x : St) (p : Nat) (b : ByteArray) : Bool × St :=
 if p = 100 then ((z5r b).isSome, { x with d := ((z5r b).getD 0 : Nat) })
 else if p = 115 then (if (z5r b).isSome then (true, { x with s := ((z5r b).getD 0 : Nat), r := true }) else ((z5h b).isSome, { x with s := 0, r := false, n := (z5h b).getD 0 }))
 else if p = 111 then ((z5h b).isSome, { x with o := (z5h b).getD 0 })
 else if p = 102 then ((placeOf b).isSome, { x with s := (((placeOf b).getD (0, 0)).1 : Nat), o := ((placeOf b).getD (0, 0)).2 })
 else if p = 116 then ((placeOf b).isSome, { x with d := (((placeOf b).getD (0, 0)).1 : Nat), o := ((placeOf b).getD (0, 0)).2 })
 else (true, { x with n := (callOf b : Nat) })
theorem zPh (b : ByteArray) : z50 b = .tuple #[E F (((placeOf b).getD (0, 0)).1 : Nat), E F ((placeOf b).getD (0, 0)).2, .bool (placeOf b).isSome] := by
 unfold z50
 cases placeOf b with
 | none => rfl
 | some x => rfl
theorem zCo (he : ∀ w, ex.holds w -> z36 w) (b : ByteArray) (w : World) (hb : b.size <= 100000) (hT : Tabs ex w) :
  Calls tP 94 #[.string b] w fun e w' => e = rT (.tuple #[E F (((placeOf b).getD (0, 0)).1 : Nat), E F ((placeOf b).getD (0, 0)).2, .bool (placeOf b).isSome]) /\ Below w.heap.size w w' := by
 rw [<- zPh]; exact zPg he b w hb hT
theorem zJc {w w1 w2 : World} {row : Option Nat} (h : w.grownBy w1 row) (k : w1.grownBy w2 row) : w.grownBy w2 row :=
 ⟨k.os.trans h.os, k.tape.trans h.tape, k.output.trans h.output, Nat.le_trans h.size k.size, fun i hi hne => (k.block i (Nat.lt_of_lt_of_le hi h.size) hne).trans (h.block i hi hne)⟩
theorem Tabs.on_grown {w w1 : World} {k : Nat} (h : Tabs ex w) (hg : w.grownBy w1 (some k)) (hk : 12 <= k) : Tabs ex w1 :=
 h.on (B := 12) ⟨hg.os, hg.tape, hg.output, hg.size, fun i hi => hg.block i (Nat.lt_of_lt_of_le hi h.room) (fun e => by have := Option.some.inj e; omega)⟩ (Nat.le_refl _)
section
variable {w : World} {k : Nat} {x : St}
theorem zPe (he : ∀ w, ex.holds w -> z36 w) (b : ByteArray) (hb : b.size <= 100000) (hkb : 12 <= k) (p : Nat) (hp : p = 100 \/ p = 115 \/ p = 111 \/ p = 102 \/ p = 116 \/ p = 99) (hs : z2w w k x) (hT : Tabs ex w) :
  Calls tP 66 #[pT (some ⟨k, 0, none⟩), .int .i32 p, .string b] w fun e w' => e = rT (.bool (x.put p b).1) /\ w.grownBy w' (some k) /\ z2w w' k (x.put p b).2 := by
 unfold St.put
 rcases hp with rfl | rfl | rfl | rfl | rfl | rfl
 ·rw [if_pos rfl]
  go_enter Tryz.func66, Tryz.ntmps66
  go_wp2_with (go_at_call 91; refine (z3a _ _ hT).mono ?_; rintro e w1 ⟨rfl, hb1⟩; have hs1 := hs.later hb1; have c0 := hs1.cell 1; have f0 := hs1.frozen 1; simp only [St.cells] at c0)
  go_ret
  exact ⟨rfl, z2i (z2e hb1 _) _ _, hs1.set _ _ rfl⟩
 ·rw [if_neg (by decide), if_pos rfl]
  cases hr : z5r b with
  | some r =>
   go_enter Tryz.func66, Tryz.ntmps66
   go_wp2_with (go_at_call 91; refine (z3a _ _ hT).mono ?_; rintro e w1 ⟨rfl, hb1⟩; have hs1 := hs.later hb1; have c2 := hs1.cell 2; have f2 := hs1.frozen 2; have c3 := hs1.cell 3; have f3 := hs1.frozen 3; simp only [St.cells] at c2 c3)
   go_ret
   exact ⟨rfl, z2i (z2i (z2e hb1 _) _ _) _ _, (hs1.set (y := { x with s := (r : Int) }) 2 _ rfl).set 3 _ rfl⟩
  | none =>
   go_enter Tryz.func66, Tryz.ntmps66
   go_wp2_with (first
    | (go_at_call 91; refine (z3a _ _ hT).mono ?_; rintro e w1 ⟨rfl, hb1⟩; have hs1 := hs.later hb1; have c2 := hs1.cell 2; have f2 := hs1.frozen 2; have c3 := hs1.cell 3; have f3 := hs1.frozen 3; simp only [St.cells] at c2 c3; have hs1' := (hs1.set (y := { x with s := 0 }) 2 (E F 0) rfl).set (y := { x with s := 0, r := false }) 3 (.bool false) rfl; have hg1 := z2i (z2i (z2e hb1 (some k)) 2 (E F 0)) 3 (.bool false); have hT1 : Tabs ex _ := hT.on_grown hg1 hkb)
    | (go_at_call 92; refine (zCr he _ _ hb hT1).mono ?_; rintro e w2 ⟨rfl, hb2⟩; have hs2 := hs1'.later hb2; have c5 := hs2.cell 5; have f5 := hs2.frozen 5; simp only [St.cells] at c5; have hg2 := zJc hg1 (z2e hb2 (some k))))
   go_ret
   exact ⟨rfl, z2i hg2 _ _, hs2.set 5 _ rfl⟩
 ·rw [if_neg (by decide), if_neg (by decide), if_pos rfl]
  go_enter Tryz.func66, Tryz.ntmps66
  go_wp2_with (go_at_call 93; refine (z6d he _ _ hb hT).mono ?_; rintro e w1 ⟨rfl, hb1⟩; have hs1 := hs.later hb1; have c4 := hs1.cell 4; have f4 := hs1.frozen 4; simp only [St.cells] at c4)
  go_ret
  exact ⟨rfl, z2i (z2e hb1 _) _ _, hs1.set 4 _ rfl⟩
 ·rw [if_neg (by decide), if_neg (by decide), if_neg (by decide), if_pos rfl]
  go_enter Tryz.func66, Tryz.ntmps66
  go_wp2_with (go_at_call 94; refine (zCo he _ _ hb hT).mono ?_; rintro e w1 ⟨rfl, hb1⟩; have hs1 := hs.later hb1; have c2 := hs1.cell 2; have f2 := hs1.frozen 2; have c4 := hs1.cell 4; have f4 := hs1.frozen 4; simp only [St.cells] at c2 c4)
  go_ret
  exact ⟨rfl, z2i (z2i (z2e hb1 _) _ _) _ _, (hs1.set (y := { x with s := (((placeOf b).getD (0, 0)).1 : Nat) }) 2 _ rfl).set 4 _ rfl⟩
 ·rw [if_neg (by decide), if_neg (by decide), if_neg (by decide), if_neg (by decide), if_pos rfl]
  go_enter Tryz.func66, Tryz.ntmps66
  go_wp2_with (go_at_call 94; refine (zCo he _ _ hb hT).mono ?_; rintro e w1 ⟨rfl, hb1⟩; have hs1 := hs.later hb1; have c1 := hs1.cell 1; have f1 := hs1.frozen 1; have c4 := hs1.cell 4; have f4 := hs1.frozen 4; simp only [St.cells] at c1 c4)
  go_ret
  exact ⟨rfl, z2i (z2i (z2e hb1 _) _ _) _ _, (hs1.set (y := { x with d := (((placeOf b).getD (0, 0)).1 : Nat) }) 1 _ rfl).set 4 _ rfl⟩
 ·rw [if_neg (by decide), if_neg (by decide), if_neg (by decide), if_neg (by decide), if_neg (by decide)]
  have c5 := hs.cell 5
  have f5 := hs.frozen 5
  simp only [St.cells] at c5
  go_enter Tryz.func66, Tryz.ntmps66
  go_wp2_with (go_at_call 95; refine (zO2 _ _ hT).mono ?_; rintro e w1 ⟨rfl, rfl⟩)
  go_ret
  exact ⟨rfl, z2i (z2e (bF _ _) _) _ _, hs.set 5 _ rfl⟩
end
end
section
open Go.ChangeShapes Go.WideShapes Go.ChangeAt Go.RowKit Go.Shelf
variable {ex : Ext}
attribute [local go_sem] Oper.semAt_some
def z96 (s : ByteArray) : Option Nat -> List ByteArray
 | some a => [s.extract a s.size]
 | none => []
def z0u (s : ByteArray) : Nat -> Option Nat -> Nat -> List ByteArray
 | 0, st, _ => z96 s st
 | f + 1, st, i =>
  if i < s.size then
   if (Lib.decodeGo (s.extract i s.size)).1 = 32 then
    match st with
    | some a => s.extract a i :: z0u s f none (i + (Lib.decodeGo (s.extract i s.size)).2)
    | none => z0u s f none (i + (Lib.decodeGo (s.extract i s.size)).2)
   else z0u s f (some (st.getD i)) (i + (Lib.decodeGo (s.extract i s.size)).2)
  else z96 s st
def z0z (s : ByteArray) : List ByteArray := z0u s s.size none 0
theorem zJs (s : ByteArray) (i : Nat) (h : i < s.size) : 1 <= (Lib.decodeGo (s.extract i s.size)).2 := by
 have hz : (s.extract i s.size).size = s.size - i := by rw [ByteArray.size_extract]; omega
 unfold Lib.decodeGo
 rw [if_neg (by omega)]
 by_cases ha : ((s.extract i s.size)[0]'(by omega)).toNat < 128
 ·rw [decode_ascii _ 0 (by omega) ha]; exact Nat.le_refl _
 ·exact (decode_high _ 0 (by omega) (by omega)).2
abbrev z3e := { b : ByteArray // b.size <= 100000 }
theorem zF2 (s : ByteArray) (i : Nat) (h : i < s.size) : i + (Lib.decodeGo (s.extract i s.size)).2 <= s.size := by
 have hz : (s.extract i s.size).size = s.size - i := by rw [ByteArray.size_extract]; omega
 unfold Lib.decodeGo
 rw [if_neg (by omega)]
 have := Lib.width_le (s.extract i s.size) (by omega)
 omega
theorem zJt (s : ByteArray) (i : Nat) : (Lib.decodeGo (s.extract i s.size)).1 <= 2147483647 := by
 unfold Lib.decodeGo
 split
 ·decide
 ·exact decode_le _ 0
def zA4 : Option Nat -> Int
 | some a => a
 | none => -1
theorem z9a {s : ByteArray} {f i : Nat} (h : i < s.size) (hr : (Lib.decodeGo (s.extract i s.size)).1 = 32) (a : Nat) : z0u s (f + 1) (some a) i = s.extract a i :: z0u s f none (i + (Lib.decodeGo (s.extract i s.size)).2) := by
 rw [z0u, if_pos h, if_pos hr]
theorem z57 {s : ByteArray} {f i : Nat} (h : i < s.size) (hr : (Lib.decodeGo (s.extract i s.size)).1 = 32) : z0u s (f + 1) none i = z0u s f none (i + (Lib.decodeGo (s.extract i s.size)).2) := by
 rw [z0u, if_pos h, if_pos hr]
theorem zBe {s : ByteArray} {f i : Nat} (h : i < s.size) (hr : (Lib.decodeGo (s.extract i s.size)).1 ≠ 32) (st : Option Nat) : z0u s (f + 1) st i = z0u s f (some (st.getD i)) (i + (Lib.decodeGo (s.extract i s.size)).2) := by
 cases st <;> rw [z0u, if_pos h, if_neg hr]
theorem zDb {s : ByteArray} {f i : Nat} (h : ¬ i < s.size) (st : Option Nat) : z0u s f st i = z96 s st := by
 cases f with
 | zero => rfl
 | succ f => cases st <;> rw [z0u, if_neg h]
theorem z4f {s : ByteArray} (hs : s.size <= 100000) (a b : Nat) : (s.extract a b).size <= 100000 := by rw [ByteArray.size_extract]; omega
theorem z6o {B : Nat} {J : List z3e -> World -> Prop} (h : AbidesFrom B J) {pre : List z3e} {W W1 : World} (hJ : J pre W) (hb : Below W.heap.size W W1) : J pre W1 :=
 h pre W W1 none hJ (z2e hb none) (fun r e => by cases e)
structure z3w (n₀ b1 b2 : Nat) (W W' : World) : Prop where
 bel : Below n₀ W W'
 one : W'.heap[b1]? = W.heap[b1]?
 two : W'.heap[b2]? = W.heap[b2]?
theorem z3w.trans {n₀ b1 b2 : Nat} {A B C : World} (h : z3w n₀ b1 b2 A B) (k : z3w n₀ b1 b2 B C) : z3w n₀ b1 b2 A C := ⟨h.bel.trans k.bel, k.one.trans h.one, k.two.trans h.two⟩
theorem z3w.put {n₀ b1 b2 : Nat} {w : World} (hn : n₀ <= w.heap.size) (h1 : b1 < w.heap.size) (h2 : b2 < w.heap.size) (W : World) (l : Nat) (o o' : Obj) (hl : w.heap.size <= l) (h : W.heap[l]? = some o) (hc : o.isCells = false) (hw : o.isWalk = false) : z3w n₀ b1 b2 W (W.putObj l o') :=
 ⟨belowK_b hn W l o o' hl h hc hw, World.putObj_heap_other (by omega), World.putObj_heap_other (by omega)⟩
theorem zPi (s : ByteArray) (x k : Nat) (hx : x < k) (hk : k <= s.size) (w : World) : (Instr.slice 9 (.string s) (some (E F x)) (some (E F k)) none).run tP w = .ok (.string (s.extract x k)) w := by
 exact run_slice_string (P := tP) w 9 s .i64 .i64 x k Tryz.underlying9 (by omega) (by omega) (by omega)
theorem z81 (r : Int) (w : World) : Calls tP 89 #[.int .i32 r] w fun e w' => e = rT (.bool (r == 32)) /\ w' = w := by
 go_enter Tryz.func89, Tryz.ntmps89
 go_wp2
 go_ret
 exact ⟨rfl, rfl⟩
theorem zNt (hu : ∀ w, ex.holds w -> Lib.Utf8Tabs 4 5 w) (n : Nat) (hn : 1 <= n) (l Bs Bf n₀ : Nat) (hn₀ : 12 <= n₀) (s : ByteArray) (hs : s.size <= 100000) (J Jx : List z3e -> World -> Prop) (W : World)
  (hJ : AbidesFrom W.heap.size J)
  (hY : ∀ (pre : List z3e) (x : z3e) W, J pre W -> pre.length < (z0z s).length -> YieldAt Fence.wide (n - 1) tP l #[.string x.1] W fun e W' =>
   (e = rT (.bool true) /\ J (pre ++ [x]) W' /\ z3w n₀ Bs Bf W W') \/ (e = rT (.bool false) /\ Jx (pre ++ [x]) W'))
  (hcs : W.cell? ⟨Bs, 0, none⟩ = some (.string s)) (hcf : W.cell? ⟨Bf, 0, none⟩ = some (.func (.func 89) #[] #[])) (hT : Tabs ex W) (h0 : J [] W) :
  CallsIn Fence.wide n tP 126 #[.func (.yield l) #[] #[], pT (some ⟨Bs, 0, none⟩), pT (some ⟨Bf, 0, none⟩)] W fun e W' => (∃ v, e = rT v) /\
   ((∃ ys : List z3e, ys.map (·.1) = z0z s /\ J ys W') \/ (∃ pre : List z3e, pre.map (·.1) <+: z0z s /\ Jx pre W')) := by
 refine callsIn_of_wp Tryz.func126 rfl trivial ?_ rfl
 simp only [Tryz.ntmps126, List.size_toArray, List.length_cons, List.length_nil, Nat.reduceAdd, Nat.reduceSub, Array.replicate_succ, Array.replicate_zero, List.push_toArray, List.append_toArray, List.nil_append, List.cons_append]
 have hf1 : Fence.wide.fn 86 := trivial
 have hf2 : Fence.wide.fn 89 := trivial
 gi_wp2
 gi_loopw [4, 5] (fun st i wr => ∃ (pre : List z3e) (a : Option Nat) (k fuel : Nat), i = E F k /\ st = E F (zA4 a) /\ (∀ x, a = some x -> x < k) /\ k <= s.size /\ pre.map (·.1) ++ z0u s fuel a k = z0z s /\ s.size <= k + fuel /\ J pre wr /\ Tabs ex wr
   /\ wr.cell? ⟨Bs, 0, none⟩ = some (.string s) /\ wr.cell? ⟨Bf, 0, none⟩ = some (.func (.func 89) #[] #[])) (fun _ i _ => s.size - (intOf i).toNat)
 case atStart => exact ⟨[], none, 0, s.size, rfl, rfl, (fun x h => by cases h), Nat.zero_le _, rfl, by omega, h0, hT, hcs, hcf⟩
 case round =>
  obtain ⟨pre, a, k, fuel, rfl, rfl, ha, hk, hacc, hfu, hJr, hTr, hcs', hcf'⟩ := hrel
  by_cases hlt : k < s.size
  ·obtain ⟨f, rfl⟩ : ∃ f, fuel = f + 1 := ⟨fuel - 1, by omega⟩
   have hz1 := zJs s k hlt
   have hz2 := zF2 s k hlt
   have hr2 := zJt s k
   by_cases hr : (Lib.decodeGo (s.extract k s.size)).1 = 32
   ·have hq : (((Lib.decodeGo (s.extract k s.size)).1 : Int) == 32) = true := by simp [hr]
    cases a with
    | some x =>
     have hx : x < k := ha x rfl
     rw [z9a hlt hr] at hacc
     have HA : Hid (pre.map (·.1) ++ s.extract x k :: z0u s f none (k + (Lib.decodeGo (s.extract k s.size)).2) = z0z s) := hacc
     have hlen : pre.length < (z0z s).length := by rw [<- hacc]; simp
     have hsl := fun w => zPi s x k hx hk w
     clear hacc hr ha
     simp only [zA4]
     gi_wp2_with (first
     | (gi_at_call 86; refine (callsIn_wide.2 (Tryz.utf8_DecodeRuneInString _ _ (hu _ hTr.ext))).mono ?_; rintro e w1 ⟨rfl, hb1⟩; have hJ1 := z6o hJ hJr hb1; have hT1 : Tabs ex w1 := hTr.on hb1 hTr.room; have hcs1 : w1.cell? ⟨Bs, 0, none⟩ = some (.string s) := (hb1.cell (p := ⟨Bs, 0, none⟩) (Lib.lt_of_cell hcs')).trans hcs'; have hcf1 : w1.cell? ⟨Bf, 0, none⟩ = some (.func (.func 89) #[] #[]) := (hb1.cell (p := ⟨Bf, 0, none⟩) (Lib.lt_of_cell hcf')).trans hcf'; obtain ⟨fn, tmps, assign, body, hy, hR⟩ := hY pre ⟨s.extract x k, z4f hs _ _⟩ w1 hJ1 hlen; dsimp only at hy)
     | (gi_at_call 89; refine (callsIn_wide.2 (z81 _ _)).mono ?_; rintro e w2 ⟨rfl, rfl⟩))
     refine hR.mono ?_
     rintro e W3 (⟨rfl, hJ3, hk3⟩ | ⟨rfl, hJx3⟩)
     ·have hcs3 : W3.cell? ⟨Bs, 0, none⟩ = some (.string s) := (World.cell?_of_block (a := ⟨Bs, 0, none⟩) hk3.one).trans hcs1
      have hcf3 : W3.cell? ⟨Bf, 0, none⟩ = some (.func (.func 89) #[] #[]) := (World.cell?_of_block (a := ⟨Bf, 0, none⟩) hk3.two).trans hcf1
      have hT3 := hT1.on hk3.bel hn₀
      gi_wp2
      go_roundw
      case rel => exact ⟨pre ++ [⟨s.extract x k, z4f hs _ _⟩], none, k + (Lib.decodeGo (s.extract k s.size)).2, f, by go_num, rfl, (fun x h => by cases h), hz2, by rw [List.map_append, List.append_assoc]; exact HA.out, by omega, hJ3, hT3, hcs3, hcf3⟩
      case measure => simp [intOf]; omega
     ·gi_wp2
      refine bodyPost_ret (results_none rfl _ _ _) rfl ?_
      exact ⟨⟨_, rfl⟩, .inr ⟨_, ⟨z0u s f none (k + (Lib.decodeGo (s.extract k s.size)).2), by rw [List.map_append, List.append_assoc]; exact HA.out⟩, hJx3⟩⟩
    | none =>
     rw [z57 hlt hr] at hacc
     have HA : Hid (pre.map (·.1) ++ z0u s f none (k + (Lib.decodeGo (s.extract k s.size)).2) = z0z s) := hacc
     clear hacc hr ha
     simp only [zA4]
     gi_wp2_with (first
     | (gi_at_call 86; refine (callsIn_wide.2 (Tryz.utf8_DecodeRuneInString _ _ (hu _ hTr.ext))).mono ?_; rintro e w1 ⟨rfl, hb1⟩; have hJ1 := z6o hJ hJr hb1; have hT1 : Tabs ex w1 := hTr.on hb1 hTr.room; have hcs1 : w1.cell? ⟨Bs, 0, none⟩ = some (.string s) := (hb1.cell (p := ⟨Bs, 0, none⟩) (Lib.lt_of_cell hcs')).trans hcs'; have hcf1 : w1.cell? ⟨Bf, 0, none⟩ = some (.func (.func 89) #[] #[]) := (hb1.cell (p := ⟨Bf, 0, none⟩) (Lib.lt_of_cell hcf')).trans hcf')
     | (gi_at_call 89; refine (callsIn_wide.2 (z81 _ _)).mono ?_; rintro e w2 ⟨rfl, rfl⟩))
     go_roundw
     case rel => exact ⟨pre, none, k + (Lib.decodeGo (s.extract k s.size)).2, f, by go_num, rfl, (fun x h => by cases h), hz2, HA.out, by omega, hJ1, hT1, hcs1, hcf1⟩
     case measure => simp [intOf]; omega
   ·have hq : (((Lib.decodeGo (s.extract k s.size)).1 : Int) == 32) = false := by simp; omega
    rw [zBe hlt hr] at hacc
    cases a with
    | some x =>
     have hx : x < k := ha x rfl
     have HA : Hid (pre.map (·.1) ++ z0u s f (some x) (k + (Lib.decodeGo (s.extract k s.size)).2) = z0z s) := hacc
     clear hacc hr ha
     simp only [zA4]
     gi_wp2_with (first
     | (gi_at_call 86; refine (callsIn_wide.2 (Tryz.utf8_DecodeRuneInString _ _ (hu _ hTr.ext))).mono ?_; rintro e w1 ⟨rfl, hb1⟩; have hJ1 := z6o hJ hJr hb1; have hT1 : Tabs ex w1 := hTr.on hb1 hTr.room; have hcs1 : w1.cell? ⟨Bs, 0, none⟩ = some (.string s) := (hb1.cell (p := ⟨Bs, 0, none⟩) (Lib.lt_of_cell hcs')).trans hcs'; have hcf1 : w1.cell? ⟨Bf, 0, none⟩ = some (.func (.func 89) #[] #[]) := (hb1.cell (p := ⟨Bf, 0, none⟩) (Lib.lt_of_cell hcf')).trans hcf')
     | (gi_at_call 89; refine (callsIn_wide.2 (z81 _ _)).mono ?_; rintro e w2 ⟨rfl, rfl⟩))
     go_roundw
     case rel => exact ⟨pre, some x, k + (Lib.decodeGo (s.extract k s.size)).2, f, by go_num, rfl, (fun y h => by cases h; omega), hz2, HA.out, by omega, hJ1, hT1, hcs1, hcf1⟩
     case measure => simp [intOf]; omega
    | none =>
     have HA : Hid (pre.map (·.1) ++ z0u s f (some k) (k + (Lib.decodeGo (s.extract k s.size)).2) = z0z s) := hacc
     clear hacc hr ha
     simp only [zA4]
     gi_wp2_with (first
     | (gi_at_call 86; refine (callsIn_wide.2 (Tryz.utf8_DecodeRuneInString _ _ (hu _ hTr.ext))).mono ?_; rintro e w1 ⟨rfl, hb1⟩; have hJ1 := z6o hJ hJr hb1; have hT1 : Tabs ex w1 := hTr.on hb1 hTr.room; have hcs1 : w1.cell? ⟨Bs, 0, none⟩ = some (.string s) := (hb1.cell (p := ⟨Bs, 0, none⟩) (Lib.lt_of_cell hcs')).trans hcs'; have hcf1 : w1.cell? ⟨Bf, 0, none⟩ = some (.func (.func 89) #[] #[]) := (hb1.cell (p := ⟨Bf, 0, none⟩) (Lib.lt_of_cell hcf')).trans hcf')
     | (gi_at_call 89; refine (callsIn_wide.2 (z81 _ _)).mono ?_; rintro e w2 ⟨rfl, rfl⟩))
     go_roundw
     case rel => exact ⟨pre, some k, k + (Lib.decodeGo (s.extract k s.size)).2, f, by go_num, rfl, (fun y h => by cases h; omega), hz2, HA.out, by omega, hJ1, hT1, hcs1, hcf1⟩
     case measure => simp [intOf]; omega
  ·have hkk : k = s.size := by omega
   rw [zDb hlt] at hacc
   cases a with
   | some x =>
    have hx : x < k := ha x rfl
    have HA : Hid (pre.map (·.1) ++ [s.extract x s.size] = z0z s) := hacc
    have hlen : pre.length < (z0z s).length := by rw [<- hacc]; simp [z96]
    clear hacc ha
    obtain ⟨fn, tmps, assign, body, hy, hR⟩ := hY pre ⟨s.extract x s.size, z4f hs _ _⟩ wr hJr hlen
    dsimp only at hy
    simp only [zA4]
    gi_wp2
    refine hR.mono ?_
    rintro e W3 (⟨rfl, hJ3, hk3⟩ | ⟨rfl, hJx3⟩)
    ·gi_wp2
     go_end0
     exact ⟨⟨_, rfl⟩, .inl ⟨_, by rw [List.map_append]; exact HA.out, hJ3⟩⟩
    ·gi_wp2
     go_end0
     exact ⟨⟨_, rfl⟩, .inr ⟨_, ⟨[], by rw [List.map_append, List.append_nil]; exact HA.out⟩, hJx3⟩⟩
   | none =>
    have HA : Hid (pre.map (·.1) = z0z s) := by
     have h2 : pre.map (·.1) ++ [] = z0z s := hacc
     rw [List.append_nil] at h2; exact h2
    clear hacc ha
    simp only [zA4]
    gi_wp2
    go_end0
    exact ⟨⟨_, rfl⟩, .inl ⟨_, HA.out, hJr⟩⟩
end
section
open Go.ChangeShapes Go.WideShapes Go.ChangeAt Go.RowKit
variable {ex : Ext}
theorem zTn {w : World} {base n : Nat} {e : TypeId} {v : Value} {xs : List Value} (h : w.ownsRow base e 1 v n xs) : ∀ k, v.ownBlock = some k -> base <= k := by
 intro k hk
 rcases h.2 with ⟨rfl, _⟩ | ⟨g, cap, cur, rfl, hb, _⟩
 ·simp [Value.ownBlock] at hk
 ·simp [Value.ownBlock] at hk; omega
theorem zAk {w : World} {base n : Nat} {e : TypeId} {v : Value} {xs : List Value} (h : w.ownsRow base e 1 v n xs) (hn : 0 < n) : ∃ g cap, v = .slice (some ⟨g, 0, none⟩) n cap := by
 rcases h.2 with ⟨_, rfl⟩ | ⟨g, cap, _, rfl, _⟩
 ·omega
 ·exact ⟨g, cap, rfl⟩
theorem Tryz.infoS : (Tryz.prog.info? 9).map (fun i => (i.zero, i.size, i.bytes)) = some (some (.string ⟨#[]⟩), 1, 16) := by kernel_rfl
theorem zPk (c : Int) : (z1x c).length <= 3 := by
 unfold z1x; repeat' split
 all_goals decide
theorem zIg (c : Int) : ∀ x ∈ z1x c, x = 100 \/ x = 115 \/ x = 111 \/ x = 102 \/ x = 116 \/ (x = 99 /\ c = 27) := by
 unfold z1x
 repeat' split
 all_goals simp_all
theorem zMm (c : Int) (k : Nat) (hk : k < (z2o c).size) : (z2o c)[k]'hk = (z1x c)[k]'(by simpa [z2o, ByteArray.size] using hk) := rfl
theorem zIh (c : Int) : (z2o c).size = (z1x c).length := by
 show (z1x c).toArray.size = _
 rw [List.size_toArray]
end
section
open Go.ChangeShapes Go.WideShapes Go.ChangeAt Go.RowKit Go.Shelf
variable {ex : Ext}
attribute [local go_sem] Oper.semAt_some
theorem zH7 {W w1 : World} {B n₁ : Nat} {t e : TypeId} {v v' : Value} {k m : Nat} {xs ys : List Value} {tmp : Obj} (hv : Boxed W B t v) (hB : B < n₁) (hn₁ : n₁ <= W.heap.size) (hrow : W.ownsRow n₁ e 1 v k xs)
  (hown' : w1.ownsRow n₁ e 1 v' m ys) (hgrow : (W.alloc tmp).grownBy w1 v.ownBlock) :
  Boxed w1 B t v /\ Boxed (w1.setCell ⟨B, 0, none⟩ v') B t v' /\ (w1.setCell ⟨B, 0, none⟩ v').ownsRow n₁ e 1 v' m ys /\ KeepsOthers W (w1.setCell ⟨B, 0, none⟩ v') /\ Below B W (w1.setCell ⟨B, 0, none⟩ v')
   /\ ∀ j, j < n₁ -> j ≠ B -> (w1.setCell ⟨B, 0, none⟩ v').heap[j]? = W.heap[j]? := by
 have hf := zTn hrow
 have hk : ∀ j, j < n₁ -> w1.heap[j]? = W.heap[j]? := fun j hj => (hgrow.block j (by simp; omega) (fun e => by have := hf j e.symm; omega)).trans (Below.heap_alloc _ _ _ (by omega))
 have hb1 : Boxed w1 B t v := (hk B hB).trans hv
 refine ⟨hb1, hb1.set v', ownsRow_setCell_below hown' hB v', ?_, ?_, fun j hj hne => (Below.heap_setCell w1 ⟨B, 0, none⟩ v' j hne).trans (hk j hj)⟩
 ·refine ((KeepsOthers.alloc W tmp).trans (KeepsOthers.of_grownBy hgrow fun j o e ho => ?_)).trans (KeepsOthers.setCell _ _ _)
  rcases (hrow.alloc tmp).2 with ⟨rfl, _⟩ | ⟨g, cap, cur, rfl, _, hg, _⟩
  ·simp [Value.ownBlock] at e
  ·simp [Value.ownBlock] at e
   subst e; rw [hg] at ho; cases ho; rfl
 ·exact (((Below.refl B W).alloc (by omega) tmp).grown hgrow (by simp; omega) (fun j e => by have := hf j e; omega)).setCell (Nat.le_refl _) _
theorem z93 {β : Type} (B N : Nat) : OwnFrom B (fun (_ : β) W => N <= W.heap.size) := fun _ _ _ _ hs hg _ => Nat.le_trans hs hg.size
theorem zG2 {w : World} {base base' n : Nat} {e : TypeId} {v : Value} {xs : List Value} (h : w.ownsRow base e 1 v n xs) (hb : base' <= base) : w.ownsRow base' e 1 v n xs := by
 refine ⟨h.1, ?_⟩
 rcases h.2 with hn | ⟨g, cap, cur, rfl, hg, rest⟩
 ·exact .inl hn
 ·exact .inr ⟨g, cap, cur, rfl, Nat.le_trans hb hg, rest⟩
theorem taken {s : ByteArray} {ys : List z3e} (h : ys.map (·.1) <+: z0z s) (h5 : ys.length = 5 \/ (ys.length <= 5 /\ ys.map (·.1) = z0z s)) : (z0z s).take 5 = ys.map (·.1) := by
 rcases h5 with h5 | ⟨h5, e⟩
 ·obtain ⟨r, hr⟩ := h
  have hl : (ys.map (·.1)).length = 5 := by simpa using h5
  rw [<- hr, <- hl, List.take_left']
  rfl
 ·rw [<- e, List.take_of_length_le (by simpa using h5)]
theorem zG1 {W : World} {base : Nat} {e : TypeId} {v : Value} {s : ByteArray} {ys : List z3e} (h : (z0z s).take 5 = ys.map (·.1)) (hrow : W.ownsRow base e 1 v ys.length (ys.map fun x => Value.string x.1)) : W.ownsRow base e 1 v ((z0z s).take 5).length (((z0z s).take 5).map Value.string) := by
 rw [h]
 simpa using hrow
theorem zEs (s : ByteArray) (w : World) : Calls tP 88 #[.string s, .func (.func 89) #[] #[]] w fun e w' =>
  e = rT (.func (.func 126) #[] #[pT (some ⟨w.heap.size, 0, none⟩), pT (some ⟨w.heap.size + 1, 0, none⟩)]) /\ w' = (w.alloc (cT #[.string s] 9)).alloc (cT #[.func (.func 89) #[] #[]] 233) := by
 go_enter Tryz.func88, Tryz.ntmps88
 go_wp2
 go_ret
 exact ⟨rfl, rfl⟩
theorem zH1 (hu : ∀ w, ex.holds w -> Lib.Utf8Tabs 4 5 w) (n : Nat) (hn : 1 <= n) (Bs Bf n₀ : Nat) (hn₀ : 12 <= n₀) (s : ByteArray) (hs : s.size <= 100000) (w : World) (hBs : Bs < w.heap.size) (hBf : Bf < w.heap.size)
  (hcs : w.cell? ⟨Bs, 0, none⟩ = some (.string s)) (hcf : w.cell? ⟨Bf, 0, none⟩ = some (.func (.func 89) #[] #[])) (hT : Tabs ex w) :
  SeqStopsK Fence.wide n tP 126 #[pT (some ⟨Bs, 0, none⟩), pT (some ⟨Bf, 0, none⟩)] (fun x : z3e => #[Value.string x.1]) (z3w n₀ Bs Bf) (fun ys => ys.map (·.1) = z0z s) (fun pre => pre.map (·.1) <+: z0z s) (z0z s).length w := fun l J Jx W hW hJ _ hY h0 =>
 zNt hu n hn l Bs Bf n₀ hn₀ s hs J Jx W hJ hY ((hW.cell (p := ⟨Bs, 0, none⟩) hBs).trans hcs) ((hW.cell (p := ⟨Bf, 0, none⟩) hBf).trans hcf) (hT.on hW hT.room) h0
theorem zF3 (hu : ∀ w, ex.holds w -> Lib.Utf8Tabs 4 5 w) (s : ByteArray) (hs : s.size <= 100000) (w : World) (hT : Tabs ex w) :
  Calls tP 62 #[.string s] w fun e W' => ∃ v, e = rT v /\ W'.ownsRow w.heap.size 9 1 v ((z0z s).take 5).length (((z0z s).take 5).map Value.string) /\ Below w.heap.size w W' := by
 refine (callsIn_wide (n := 6)).1 ?_
 have hF := Fine.start hT
 have hf1 : Fence.wide.fn 88 := trivial
 obtain ⟨i0, hi, hz0, hz1, hz2⟩ := info_parts Tryz.infoS
 refine callsIn_of_wp_marks Tryz.func62 rfl trivial ?_ rfl
 simp only [Tryz.ntmps62, List.size_toArray, List.length_cons, List.length_nil, Nat.reduceAdd, Nat.reduceSub, Array.replicate_succ, Array.replicate_zero, List.push_toArray, List.append_toArray, List.nil_append, List.cons_append]
 gi_wp2_with (gi_at_call 88; refine (callsIn_wide.2 (zEs _ _)).mono ?_; rintro e w' ⟨rfl, rfl⟩)
 have bO := Boxed.new w 192 (.slice none 0 0)
 have bS := Boxed.new (w.alloc (cT #[.slice none 0 0] 192)) 9 (.string s)
 have bF := Boxed.new ((w.alloc (cT #[.slice none 0 0] 192)).alloc (cT #[.string s] 9)) 233 (.func (.func 89) #[] #[])
 simp only [World.size_alloc] at bS bF
 have hF3 := ((hF.alloc (cT #[.slice none 0 0] 192)).alloc (cT #[.string s] 9)).alloc (cT #[.func (.func 89) #[] #[]] 233)
 refine wpIn_rangeFunc_ownG rfl (by omega) (gf := 126) (lb := #[pT (some ⟨w.heap.size + 1, 0, none⟩), pT (some ⟨w.heap.size + 1 + 1, 0, none⟩)]) rfl trivial (enters_of Tryz.func126 (by kernel_rfl) rfl)
  (zH1 hu (6 - 1) (by omega) (w.heap.size + 1) (w.heap.size + 1 + 1) w.heap.size hT.room s hs _ (by simp <;> omega) (by simp <;> omega) (bS.alloc _).cell bF.cell hF3.tabs) z3w.trans (z3w.put (by simp <;> omega) (by simp <;> omega) (by simp <;> omega)) (Below.refl _ _) (fun _ => rfl)
  (fun pre W => (∃ v, Boxed W w.heap.size 192 v /\ W.ownsRow (w.heap.size + 3) 9 1 v pre.length (pre.map fun x => Value.string x.1) /\ (pre.length <= 4)) /\ (Below w.heap.size w W /\ w.heap.size + 3 <= W.heap.size))
  (fun c pre W => (∃ v, Boxed W w.heap.size 192 v /\ W.ownsRow (w.heap.size + 3) 9 1 v pre.length (pre.map fun x => Value.string x.1) /\ (c = .exit 0 /\ pre.length = 5)) /\ (Below w.heap.size w W /\ w.heap.size + 3 <= W.heap.size))
  (OwnFrom.and (Own.from (holdsRow_own (w.heap.size + 3) w.heap.size 192 9 1 (fun pre : List z3e => pre.length) (fun pre => pre.map fun x => Value.string x.1) (fun pre _ => pre.length <= 4)) _) (OwnFrom.and (ownFrom_below (Nat.le_refl _) (by simp <;> omega)) (z93 _ _)))
  (fun c => OwnFrom.and (Own.from (holdsRow_own (w.heap.size + 3) w.heap.size 192 9 1 (fun pre : List z3e => pre.length) (fun pre => pre.map fun x => Value.string x.1) (fun pre _ => c = .exit 0 /\ pre.length = 5)) _) (OwnFrom.and (ownFrom_below (Nat.le_refl _) (by simp <;> omega)) (z93 _ _)))
  ⟨⟨_, (bO.alloc _).alloc _, World.ownsRow_nil _ _ _ _, by simp⟩, hF3.bel, by simp⟩
  (fun x => { tmps := #[.string s, undef, .slice none 0 0, pT (some ⟨w.heap.size, 0, none⟩), .string x.1, .string s, .func (.func 126) #[] #[pT (some ⟨w.heap.size + 1, 0, none⟩), pT (some ⟨w.heap.size + 1 + 1, 0, none⟩)], .string x.1, undef, undef, undef, undef, undef, undef, undef, undef], defers := [] }) ?assign ?body ?done ?stop
 case assign =>
  intro l x W K hK
  gi_wp2
  exact hK
 case body =>
  rintro l pre x W ⟨⟨v, hv, hrow, hp4⟩, hB, hWz⟩ hlt
  have hc := hv.cell
  by_cases h4 : pre.length = 4
  ·have x1 : decide (4 < ((pre.length : Int) + 1)) = true := by simp; omega
   have H4 : Hid (pre.length = 4) := h4
   clear h4
   gi_wp2_with (gi_at_builtin; refine wpListIn_append_own _ rfl _ _ 192 rfl (w.heap.size + 3) 9 i0 (.string ⟨#[]⟩) 1 16 Tryz.underlying192 hi hz0 hz1 hz2 rfl (by decide) _ _ _ rfl (hrow.alloc _) ⟨W.heap.size, 0, none⟩ 1 1 [.string x.1] rfl rfl (cell_one_new _ _ _) (by simp [Value.oneCell']) (by unfold maxLen; omega) (by omega) (by simp; omega) ?_; intro v' w1 hown' hgrow _; obtain ⟨g', cap', rfl⟩ := ownsRow_succ hown'; obtain ⟨hv1, hv2, hr2, hk2, hb2, hj2⟩ := zH7 hv (by omega) hWz hrow hown' hgrow; have hc1 := hv1.cell; have hf1 := hv1.frozen)
   exact ⟨hk2.from _, ⟨_, hv2, by simpa using hr2, rfl, by rw [List.length_append, H4.out]; rfl⟩, hB.trans hb2, Nat.le_trans hWz hb2.size⟩
  ·have x1 : decide (4 < ((pre.length : Int) + 1)) = false := by simp; omega
   have H4 : Hid (pre.length ≠ 4) := h4
   clear h4
   gi_wp2_with (gi_at_builtin; refine wpListIn_append_own _ rfl _ _ 192 rfl (w.heap.size + 3) 9 i0 (.string ⟨#[]⟩) 1 16 Tryz.underlying192 hi hz0 hz1 hz2 rfl (by decide) _ _ _ rfl (hrow.alloc _) ⟨W.heap.size, 0, none⟩ 1 1 [.string x.1] rfl rfl (cell_one_new _ _ _) (by simp [Value.oneCell']) (by unfold maxLen; omega) (by omega) (by simp; omega) ?_; intro v' w1 hown' hgrow _; obtain ⟨g', cap', rfl⟩ := ownsRow_succ hown'; obtain ⟨hv1, hv2, hr2, hk2, hb2, hj2⟩ := zH7 hv (by omega) hWz hrow hown' hgrow; have hc1 := hv1.cell; have hf1 := hv1.frozen)
   exact ⟨hk2.from _, ⟨hb2, hj2 _ (by omega) (by omega), hj2 _ (by omega) (by omega)⟩, ⟨_, hv2, by simpa using hr2, by have := H4.out; simp; omega⟩, hB.trans hb2, Nat.le_trans hWz hb2.size⟩
 case done =>
  rintro D ys W hD hS ⟨⟨v, hv, hrow, hp4⟩, hB, hWz⟩ hK
  have hc := hv.cell
  gi_wp2
  refine ⟨by simp, .inl ⟨_, _, rfl, run_takeDeferred hK, ?_⟩⟩
  exact ⟨_, results_tmp rfl _ _ _, v, rfl, zG1 (taken ⟨[], by rw [List.append_nil]; exact hS⟩ (Or.inr ⟨by omega, hS⟩)) (zG2 (ownsRow_putObj hrow _ hK rfl) (by omega)), hB.trans (belowK_b (w := w) (Nat.le_refl _) W D _ _ (by simp at hD; omega) hK rfl rfl)⟩
 case stop =>
  rintro D c pre W hD hSp ⟨⟨v, hv, hrow, rfl, h5⟩, hB, hWz⟩ hK
  have hc := hv.cell
  gi_wp2
  refine ⟨by simp, .inl ⟨_, _, rfl, run_takeDeferred hK, ?_⟩⟩
  exact ⟨_, results_tmp rfl _ _ _, v, rfl, zG1 (taken hSp (Or.inl h5)) (zG2 (ownsRow_putObj hrow _ hK rfl) (by omega)), hB.trans (belowK_b (w := w) (Nat.le_refl _) W D _ _ (by simp at hD; omega) hK rfl rfl)⟩
end
end Go.Proofs.YtbimlalhodibjaaGreatDoor
