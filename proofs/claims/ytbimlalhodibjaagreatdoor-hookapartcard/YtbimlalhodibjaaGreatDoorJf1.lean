/-
 What is wrong with a step, as a function on its six fields: what op.wrong and op.hasMore return, and what the document's own answer returns; the world below is as it was. Conditions: none on the fields. What the shelf's contracts say of this program's own numbers: the layings that the proofs use. Conditions: none. The words of a program's text: what numbers, registers, places, seconds and steps are as bytes; what asm.numberWord, registerWord, placeWord, parts and tell return, and what the document's num and its closure for places return; the world below is as it was. Conditions: the tables of names lie in memory as the program's text lays them, numbers are of 64 bits. Words that are read: a number is read where it stands as it would be written, and then it is that number; likewise a register and a place. Conditions: none. The small readers: what asm.number, offset, register, z2t and callOf return; the world below is as it was. Conditions: the tables lie in memory, the library's two errors are errors, words are short. What asm.codeOf and callOf return: the number of the name, nought if there is none; the world is as it was. Conditions: the tables lie in memory.
-/
import Derived.Test.YtbimlalhodibjaaGreatDoorRows
import Derived.WalkKit
import Derived.ProofKit
import Derived.OpenShut
import Derived.WalkLawsBesides
import Derived.BigCall
import Derived.BigGuardPart
import Derived.Shelf.Small.Utf8
import Derived.Shelf.Small.Strs
import Derived.Shelf.Small.Wraps
import Derived.Shelf.Strconv.Itoa0
import Derived.Shelf.Strconv.Itoa1
import Derived.Shelf.LaysM
import Derived.Shelf.Strconv.Itoa2
import Derived.Shelf.Strconv.Itoa3
import Derived.Shelf.Strconv.Itoa4
import Derived.Shelf.Strconv.ParseIntEmpty
import Derived.Shelf.Strconv.Clone
import Derived.Shelf.Strconv.SyntaxError
import Derived.Shelf.LaysC
import Derived.Shelf.Strconv.ToError
import Derived.Shelf.Strconv.Lower
import Derived.Shelf.Strconv.ParseUint10
import Derived.Shelf.Strconv.ParseUint10Empty
import Derived.Shelf.Strconv.ParseUint10Any
import Derived.Shelf.Strconv.ParseInt10
import Derived.Shelf.Strconv.RangeError
import Derived.Shelf.Strconv.ToErrorRange
import Derived.Shelf.Strconv.ParseUintEmpty
import Derived.Shelf.Strconv.ParseUint10b64
import Derived.Shelf.Strconv.ParseUint10b32
import Derived.Shelf.Strconv.ParseUint10b16
import Derived.Shelf.Strconv.ParseUint10b8
import Derived.Shelf.Strconv.ParseUint10At
import Derived.Shelf.Strconv.ParseInt10At64
import Derived.Shelf.Strconv.ParseInt10At32
import Derived.Shelf.Strconv.ParseInt10At16
import Derived.Shelf.Strconv.ParseInt10At8
import Derived.Shelf.Strconv.ParseInt10All
import Derived.Shelf.Strconv.ParseIntPublic10
import Derived.Shelf.Strconv.ErrVarParseInt
import Derived.Shelf.Strings.Search1
import Derived.Shelf.Strings.Search2
import Derived.Shelf.Strings.Search3
import Derived.Shelf.Strings.Shaped
import Derived.Shelf.Strings.Prefix
import Derived.Shelf.Unicode.Decode
import Derived.Shelf.Strings.Runes
import Derived.Shelf.Strings.IndexAny
import Derived.Shelf.Strings.AsciiSet
import Derived.Shelf.Strings.IndexAnyAll
import Derived.Shelf.Unicode.DecodeSlow
import Derived.Shelf.Unicode.DecodeAny
import Derived.Test.YtbimlalhodibjaaGreatDoorProg
import Derived.Deep.QuietTactic
import Derived.BigQuiet
import Derived.Lib.ParseIntB
import Derived.Deep.MidRow
set_option maxHeartbeats 40000000
open Go.Value renaming int → A
open Go.IntKind renaming i64 → C
open Go.RowKit.Below renaming alloc → bA, setCell → bS, drew → bD, refl → bF
set_option maxRecDepth 1000000
set_option linter.defProp false
set_option linter.unusedVariables false
set_option linter.unusedSimpArgs false
open Go.Ending renaming returned → rT
open Go.Value renaming pointer → pT
open Go.Obj renaming cells → cT
open Go.Proofs.Tryz renaming prog → tP
namespace Go.Proofs.YtbimlalhodibjaaGreatDoor
theorem siA {α : Type} (l : List α) (i : Nat) (a : α) : l.toArray.setIfInBounds i a = (l.set i a).toArray := List.setIfInBounds_toArray l i a
theorem scZ {α : Type} (x : α) (l : List α) (a : α) : (x :: l).set 0 a = a :: l := List.set_cons_zero
theorem scS {α : Type} (x : α) (l : List α) (n : Nat) (a : α) : (x :: l).set (n + 1) a = x :: l.set n a := List.set_cons_succ
theorem mcO {α : Type} {a : α} (b : α) {l : List α} (h : a ∈ l) : a ∈ b :: l := List.mem_cons_of_mem b h
theorem mcS {α : Type} {a : α} {l : List α} : a ∈ a :: l := List.mem_cons_self
end Go.Proofs.YtbimlalhodibjaaGreatDoor
namespace Go.Proofs.YtbimlalhodibjaaGreatDoor
open Go.ChangeShapes Go.WideShapes Go.ChangeAt Go.RowKit

theorem z7h {a b : Bool} (h : a = b) : Ending.returned (.bool a) = rT (.bool b) := by rw [h]
theorem zDu {k : IntKind} {a b : Int} (h : a = b) : Ending.returned (.int k a) = rT (.int k b) := by rw [h]

def moreV (c d s : Int) (r : Bool) (o n : Int) : Bool :=
 if 1 <= c /\ c <= 12 then (if r then o != 0 || n != 0 else s != 0 || o != 0)
 else if 15 <= c /\ c <= 24 then (if r then n != 0 else s != 0)
 else if c = 13 then s != 0 || r || o != 0 || n != 0
 else if c = 14 then d != 0 || s != 0 || r || n != 0
 else if c = 25 then r || n != 0
 else if c = 26 then (if r then n != 0 else s != 0)
 else if c = 27 then d != 0 || s != 0 || r || o != 0
 else d != 0 || s != 0 || r || o != 0 || n != 0
def z1z (c d s : Int) (r : Bool) (o n : Int) : Int :=
 if c < 1 \/ 28 < c then 3
 else if d < 0 \/ 10 < d \/ s < 0 \/ 10 < s then 2
 else if ((1 <= c /\ c <= 13) \/ c = 25) /\ d = 10 then 6
 else if moreV c d s r o n = true \/ (c = 27 /\ n ≠ 1 /\ n ≠ 2 /\ n ≠ 3) then 1 else 0
def z3x (c d s : Int) (r : Bool) (o n b : Int) : Int :=
 if z1z c d s r o n ≠ 0 then z1z c d s r o n
 else if (c = 14 \/ (15 <= c /\ c <= 24)) /\ (o < 0 \/ b <= o) then 10
 else if b = 0 /\ c ≠ 28 then 8 else 0

theorem z4o  : (∀ (c d s o n : Int) (h1 : 1 <= c) (h2 : c <= 12) (w : World), Calls tP 97 #[.agg #[A C c, A C d, A C s, .bool true, A C o, A C n]] w fun e w' => e = rT (.bool (o != 0 || n != 0)) /\ Below w.heap.size w w') /\ (∀ (c d s o n : Int) (h1 : 1 <= c) (h2 : c <= 12) (w : World), Calls tP 97 #[.agg #[A C c, A C d, A C s, .bool false, A C o, A C n]] w fun e w' => e = rT (.bool (s != 0 || o != 0)) /\ Below w.heap.size w w') /\ (∀ (c d s o n : Int) (h1 : 15 <= c) (h2 : c <= 24) (w : World), Calls tP 97 #[.agg #[A C c, A C d, A C s, .bool true, A C o, A C n]] w fun e w' => e = rT (.bool (n != 0)) /\ Below w.heap.size w w') /\ (∀ (c d s o n : Int) (h1 : 15 <= c) (h2 : c <= 24) (w : World), Calls tP 97 #[.agg #[A C c, A C d, A C s, .bool false, A C o, A C n]] w fun e w' => e = rT (.bool (s != 0)) /\ Below w.heap.size w w') /\ (∀ (d s o n : Int) (w : World), Calls tP 97 #[.agg #[A C 13, A C d, A C s, .bool true, A C o, A C n]] w fun e w' => e = rT (.bool (s != 0 || true || o != 0 || n != 0)) /\ Below w.heap.size w w') /\ (∀ (d s o n : Int) (w : World), Calls tP 97 #[.agg #[A C 13, A C d, A C s, .bool false, A C o, A C n]] w fun e w' => e = rT (.bool (s != 0 || false || o != 0 || n != 0)) /\ Below w.heap.size w w') /\ (∀ (d s o n : Int) (w : World), Calls tP 97 #[.agg #[A C 14, A C d, A C s, .bool true, A C o, A C n]] w fun e w' => e = rT (.bool (d != 0 || s != 0 || true || n != 0)) /\ Below w.heap.size w w') /\ (∀ (d s o n : Int) (w : World), Calls tP 97 #[.agg #[A C 14, A C d, A C s, .bool false, A C o, A C n]] w fun e w' => e = rT (.bool (d != 0 || s != 0 || false || n != 0)) /\ Below w.heap.size w w') /\ (∀ (d s o n : Int) (w : World), Calls tP 97 #[.agg #[A C 25, A C d, A C s, .bool true, A C o, A C n]] w fun e w' => e = rT (.bool (true || n != 0)) /\ Below w.heap.size w w') /\ (∀ (d s o n : Int) (w : World), Calls tP 97 #[.agg #[A C 25, A C d, A C s, .bool false, A C o, A C n]] w fun e w' => e = rT (.bool (false || n != 0)) /\ Below w.heap.size w w') /\ (∀ (d s o n : Int) (w : World), Calls tP 97 #[.agg #[A C 26, A C d, A C s, .bool true, A C o, A C n]] w fun e w' => e = rT (.bool (n != 0)) /\ Below w.heap.size w w') /\ (∀ (d s o n : Int) (w : World), Calls tP 97 #[.agg #[A C 26, A C d, A C s, .bool false, A C o, A C n]] w fun e w' => e = rT (.bool (s != 0)) /\ Below w.heap.size w w') /\ (∀ (d s o n : Int) (w : World), Calls tP 97 #[.agg #[A C 27, A C d, A C s, .bool true, A C o, A C n]] w fun e w' => e = rT (.bool (d != 0 || s != 0 || true || o != 0)) /\ Below w.heap.size w w') /\ (∀ (d s o n : Int) (w : World), Calls tP 97 #[.agg #[A C 27, A C d, A C s, .bool false, A C o, A C n]] w fun e w' => e = rT (.bool (d != 0 || s != 0 || false || o != 0)) /\ Below w.heap.size w w') := by
 refine ⟨?_, ?_, ?_, ?_, ?_, ?_, ?_, ?_, ?_, ?_, ?_, ?_, ?_, ?_⟩
 intro c d s o n h1 h2 w
 have e13 : (c == 13) = false := by simp; omega
 have e14 : (c == 14) = false := by simp; omega
 have e25 : (c == 25) = false := by simp; omega
 have e26 : (c == 26) = false := by simp; omega
 have e27 : (c == 27) = false := by simp; omega
 have e28 : (c == 28) = false := by simp; omega
 rotate_left
 intro c d s o n h1 h2 w
 have e13 : (c == 13) = false := by simp; omega
 have e14 : (c == 14) = false := by simp; omega
 have e25 : (c == 25) = false := by simp; omega
 have e26 : (c == 26) = false := by simp; omega
 have e27 : (c == 27) = false := by simp; omega
 have e28 : (c == 28) = false := by simp; omega
 rotate_left
 intro c d s o n h1 h2 w
 have e13 : (c == 13) = false := by simp; omega
 have e14 : (c == 14) = false := by simp; omega
 have e25 : (c == 25) = false := by simp; omega
 have e26 : (c == 26) = false := by simp; omega
 have e27 : (c == 27) = false := by simp; omega
 have e28 : (c == 28) = false := by simp; omega
 have g1 : 1 <= c := by omega
 have g2 : decide (c <= 12) = false := by simp; omega
 rotate_left
 intro c d s o n h1 h2 w
 have e13 : (c == 13) = false := by simp; omega
 have e14 : (c == 14) = false := by simp; omega
 have e25 : (c == 25) = false := by simp; omega
 have e26 : (c == 26) = false := by simp; omega
 have e27 : (c == 27) = false := by simp; omega
 have e28 : (c == 28) = false := by simp; omega
 have g1 : 1 <= c := by omega
 have g2 : decide (c <= 12) = false := by simp; omega
 rotate_left
 intro d s o n w
 rotate_left
 intro d s o n w
 rotate_left
 intro d s o n w
 rotate_left
 intro d s o n w
 rotate_left
 intro d s o n w
 rotate_left
 intro d s o n w
 rotate_left
 intro d s o n w
 rotate_left
 intro d s o n w
 rotate_left
 intro d s o n w
 rotate_left
 intro d s o n w
 rotate_left
 all_goals
  go_enter Tryz.func97, Tryz.ntmps97
  go_wp2
  all_goals
   go_ret
   exact ⟨z7h (by simp [*]), (bF _ _).alloc (Nat.le_refl _) _⟩
def zEa := z4o.1
def zBr := z4o.2.1
def zEh := z4o.2.2.1
def zBy := z4o.2.2.2.1
def zEg := z4o.2.2.2.2.1
def zBx := z4o.2.2.2.2.2.1
def zEf := z4o.2.2.2.2.2.2.1
def zBw := z4o.2.2.2.2.2.2.2.1
def zEe := z4o.2.2.2.2.2.2.2.2.1
def zBv := z4o.2.2.2.2.2.2.2.2.2.1
def zEd := z4o.2.2.2.2.2.2.2.2.2.2.1
def zBu := z4o.2.2.2.2.2.2.2.2.2.2.2.1
def zEc := z4o.2.2.2.2.2.2.2.2.2.2.2.2.1
def zBt := z4o.2.2.2.2.2.2.2.2.2.2.2.2.2
theorem zVk (d s o n : Int) (w : World) : (Calls tP 97 #[.agg #[A C 28, A C d, A C s, .bool true, A C o, A C n]] w fun e w' => e = rT (.bool (d != 0 || s != 0 || true || o != 0 || n != 0)) /\ Below w.heap.size w w') /\ (Calls tP 97 #[.agg #[A C 28, A C d, A C s, .bool false, A C o, A C n]] w fun e w' => e = rT (.bool (d != 0 || s != 0 || false || o != 0 || n != 0)) /\ Below w.heap.size w w') := by
 refine ⟨?_, ?_⟩
 all_goals
  go_enter Tryz.func97, Tryz.ntmps97
  go_wp2
  all_goals
   go_ret
   exact ⟨z7h (by simp [*]), (bF _ _).alloc (Nat.le_refl _) _⟩
def zEb := fun d s o n w => (@zVk d s o n w).1
def zBs := fun d s o n w => (@zVk d s o n w).2
theorem zEi (c d s : Int) (r : Bool) (o n : Int) (h1 : 1 <= c) (h2 : c <= 28) (w : World) :
  Calls tP 97 #[.agg #[A C c, A C d, A C s, .bool r, A C o, A C n]] w fun e w' => e = rT (.bool (moreV c d s r o n)) /\ Below w.heap.size w w' := by
 have hc : (1 <= c /\ c <= 12) \/ (15 <= c /\ c <= 24) \/ c = 13 \/ c = 14 \/ c = 25 \/ c = 26 \/ c = 27 \/ c = 28 := by omega
 rcases hc with ⟨a1, a2⟩ | ⟨a1, a2⟩ | rfl | rfl | rfl | rfl | rfl | rfl
 ·have e : moreV c d s r o n = (if r then o != 0 || n != 0 else s != 0 || o != 0) := by unfold moreV; rw [if_pos ⟨a1, a2⟩]
  rw [e]; cases r
  ·exact zBr c d s o n a1 a2 w
  ·exact zEa c d s o n a1 a2 w
 ·have e : moreV c d s r o n = (if r then n != 0 else s != 0) := by unfold moreV; rw [if_neg (by omega), if_pos ⟨a1, a2⟩]
  rw [e]; cases r
  ·exact zBy c d s o n a1 a2 w
  ·exact zEh c d s o n a1 a2 w
 ·cases r
  ·exact zBx d s o n w
  ·exact zEg d s o n w
 ·cases r
  ·exact zBw d s o n w
  ·exact zEf d s o n w
 ·cases r
  ·exact zBv d s o n w
  ·exact zEe d s o n w
 ·cases r
  ·exact zBu d s o n w
  ·exact zEd d s o n w
 ·cases r
  ·exact zBt d s o n w
  ·exact zEc d s o n w
 ·cases r
  ·exact zBs d s o n w
  ·exact zEb d s o n w
end Go.Proofs.YtbimlalhodibjaaGreatDoor
namespace Go.Proofs
open Go.Shelf
def Tryz.lays103_ren : Go.Shelf.Ren := ⟨fun | 103 => 130 | 210 => 168 | 206 => 191 | n => n, fun | 9 => 9 | 4 => 4 | 24 => 270 | 3 => 3 | n => n, fun | n => n⟩
theorem Tryz.lays103 : Go.Proofs.Lays.n103 tP Tryz.lays103_ren := {
 mixed := by kernel_rfl
 f103 := Tryz.func130.trans (congrArg some (by kernel_rfl))
 f206 := Tryz.func191.trans (congrArg some (by kernel_rfl))
 f210 := Tryz.func168.trans (congrArg some (by kernel_rfl))
 t3 := Tryz.underlying3
 a3 := Tryz.isAgg3
 z3 := Tryz.sizeOf3
 v3 := Tryz.zeroValue3
 t4 := Tryz.underlying4
 a4 := Tryz.isAgg4
 z4 := Tryz.sizeOf4
 v4 := Tryz.zeroValue4
 t9 := Tryz.underlying9
 a9 := Tryz.isAgg9
 z9 := Tryz.sizeOf9
 v9 := Tryz.zeroValue9
 t24 := Tryz.underlying270
 a24 := Tryz.isAgg270
 z24 := Tryz.sizeOf270
 v24 := Tryz.zeroValue270 }
open Go.RowKit in
theorem Tryz.strings_CutPrefix (s p : ByteArray) (w : World) :
  Calls tP 130 #[.string s, .string p] w fun e w' => e = rT (.tuple #[.string ⟨(Lib.trimPrefix s.data.toList p.data.toList).toArray⟩, .bool (Lib.hasPrefix s.data.toList p.data.toList)]) /\ w' = w := Any.strings_CutPrefix Tryz.lays103 s p w
def Tryz.lays104_ren : Go.Shelf.Ren := ⟨fun | 104 => 131 | 211 => 169 | 207 => 192 | n => n, fun | 9 => 9 | 4 => 4 | 24 => 270 | 3 => 3 | n => n, fun | n => n⟩
theorem Tryz.lays104 : Go.Proofs.Lays.n104 tP Tryz.lays104_ren := {
 mixed := by kernel_rfl
 f104 := Tryz.func131.trans (congrArg some (by kernel_rfl))
 f207 := Tryz.func192.trans (congrArg some (by kernel_rfl))
 f211 := Tryz.func169.trans (congrArg some (by kernel_rfl))
 t3 := Tryz.underlying3
 a3 := Tryz.isAgg3
 z3 := Tryz.sizeOf3
 v3 := Tryz.zeroValue3
 t4 := Tryz.underlying4
 a4 := Tryz.isAgg4
 z4 := Tryz.sizeOf4
 v4 := Tryz.zeroValue4
 t9 := Tryz.underlying9
 a9 := Tryz.isAgg9
 z9 := Tryz.sizeOf9
 v9 := Tryz.zeroValue9
 t24 := Tryz.underlying270
 a24 := Tryz.isAgg270
 z24 := Tryz.sizeOf270
 v24 := Tryz.zeroValue270 }
open Go.RowKit in
theorem Tryz.strings_CutSuffix (s p : ByteArray) (w : World) (hs : s.size <= 9223372036854775807) :
  Calls tP 131 #[.string s, .string p] w fun e w' => e = rT (.tuple #[.string ⟨(Lib.trimSuffix s.data.toList p.data.toList).toArray⟩, .bool (Lib.hasSuffix s.data.toList p.data.toList)]) /\ w' = w := Any.strings_CutSuffix Tryz.lays104 s p w hs
def Tryz.laysM171_ren : Go.Shelf.Ren := ⟨fun | 171 => 164 | 243 => 184 | 246 => 190 | 283 => 210 | 284 => 211 | 285 => 212 | 286 => 213 | 129 => 223 | 317 => 222 | 318 => 224 | 319 => 225 | 320 => 226 | 337 => 228 | 338 => 229 | n => n, fun | 3 => 3 | 9 => 9 | 2 => 2 | 4 => 4 | 171 => 356 | 0 => 0 | 53 => 264 | 37 => 351 | 5 => 5 | 173 => 359 | 212 => 371 | 51 => 329 | 20 => 20 | 213 => 372 | 46 => 120 | 232 => 375 | 233 => 376 | n => n, fun | 17 => 9 | 18 => 10 | 19 => 11 | n => n⟩
theorem Tryz.laysM171 : Go.Proofs.LaysM.n171 tP Tryz.laysM171_ren := {
 mixed := by kernel_rfl
 f129 := Tryz.func223.trans (congrArg some (by kernel_rfl))
 f171 := Tryz.func164.trans (congrArg some (by kernel_rfl))
 f243 := Tryz.func184.trans (congrArg some (by kernel_rfl))
 f246 := Tryz.func190.trans (congrArg some (by kernel_rfl))
 f283 := Tryz.func210.trans (congrArg some (by kernel_rfl))
 f284 := Tryz.func211.trans (congrArg some (by kernel_rfl))
 f285 := Tryz.func212.trans (congrArg some (by kernel_rfl))
 f286 := Tryz.func213.trans (congrArg some (by kernel_rfl))
 f317 := Tryz.func222.trans (congrArg some (by kernel_rfl))
 f318 := Tryz.func224.trans (congrArg some (by kernel_rfl))
 f319 := Tryz.func225.trans (congrArg some (by kernel_rfl))
 f320 := Tryz.func226.trans (congrArg some (by kernel_rfl))
 f337 := Tryz.func228.trans (congrArg some (by kernel_rfl))
 f338 := Tryz.func229.trans (congrArg some (by kernel_rfl))
 t0 := Tryz.underlying0
 a0 := Tryz.isAgg0
 z0 := Tryz.sizeOf0
 v0 := Tryz.zeroValue0
 t2 := Tryz.underlying2
 a2 := Tryz.isAgg2
 z2 := Tryz.sizeOf2
 v2 := Tryz.zeroValue2
 t3 := Tryz.underlying3
 a3 := Tryz.isAgg3
 z3 := Tryz.sizeOf3
 v3 := Tryz.zeroValue3
 t4 := Tryz.underlying4
 a4 := Tryz.isAgg4
 z4 := Tryz.sizeOf4
 v4 := Tryz.zeroValue4
 t5 := Tryz.underlying5
 a5 := Tryz.isAgg5
 z5 := Tryz.sizeOf5
 v5 := Tryz.zeroValue5
 t9 := Tryz.underlying9
 a9 := Tryz.isAgg9
 z9 := Tryz.sizeOf9
 v9 := Tryz.zeroValue9
 t20 := Tryz.underlying20
 a20 := Tryz.isAgg20
 z20 := Tryz.sizeOf20
 v20 := Tryz.zeroValue20
 t37 := Tryz.underlying351
 a37 := Tryz.isAgg351
 z37 := Tryz.sizeOf351
 v37 := Tryz.zeroValue351
 t46 := Tryz.underlying120
 a46 := Tryz.isAgg120
 z46 := Tryz.sizeOf120
 v46 := Tryz.zeroValue120
 t51 := Tryz.underlying329
 a51 := Tryz.isAgg329
 z51 := Tryz.sizeOf329
 v51 := Tryz.zeroValue329
 t53 := Tryz.underlying264
 a53 := Tryz.isAgg264
 z53 := Tryz.sizeOf264
 v53 := Tryz.zeroValue264
 t171 := Tryz.underlying356
 a171 := Tryz.isAgg356
 z171 := Tryz.sizeOf356
 v171 := Tryz.zeroValue356
 t173 := Tryz.underlying359
 a173 := Tryz.isAgg359
 z173 := Tryz.sizeOf359
 v173 := Tryz.zeroValue359
 t212 := Tryz.underlying371
 a212 := Tryz.isAgg371
 z212 := Tryz.sizeOf371
 v212 := Tryz.zeroValue371
 t213 := Tryz.underlying372
 a213 := Tryz.isAgg372
 z213 := Tryz.sizeOf372
 t232 := Tryz.underlying375
 a232 := Tryz.isAgg375
 z232 := Tryz.sizeOf375
 v232 := Tryz.zeroValue375
 t233 := Tryz.underlying376
 a233 := Tryz.isAgg376
 z233 := Tryz.sizeOf376
 v233 := Tryz.zeroValue376
 g17 := by kernel_rfl
 g18 := by kernel_rfl
 g19 := by kernel_rfl
 i0 := by kernel_rfl
 i2 := by kernel_rfl
 i3 := by kernel_rfl
 i4 := by kernel_rfl
 i5 := by kernel_rfl
 i9 := by kernel_rfl
 i20 := by kernel_rfl
 i37 := by kernel_rfl
 i46 := by kernel_rfl
 i51 := by kernel_rfl
 i53 := by kernel_rfl
 i171 := by kernel_rfl
 i173 := by kernel_rfl
 i212 := by kernel_rfl
 i232 := by kernel_rfl
 i233 := by kernel_rfl
 m17 := by kernel_rfl
 m18 := by kernel_rfl
 m19 := by kernel_rfl }
open Go.RowKit Go.Sort Go.Lib in
theorem Tryz.strconv_Itoa (n : Int) (h0 : -9223372036854775808 <= n) (h1 : n <= 9223372036854775807) (w : World) (htab : Lib.TabIs tP w "internal/strconv.uint64pow10" .u64 Lib.pow10Tab) :
  Calls tP 164 #[.int .i64 n] w fun e w' => e = rT (.string ⟨(Lib.itoa n).toArray⟩) /\ ∃ k os, w' = grow (w.drewN k) os := Any.strconv_Itoa Tryz.laysM171 n h0 h1 w htab
def Tryz.laysM173_ren : Go.Shelf.Ren := ⟨fun | 173 => 167 | 246 => 190 | 283 => 210 | 284 => 211 | 285 => 212 | 286 => 213 | 129 => 223 | 317 => 222 | 318 => 224 | 319 => 225 | 320 => 226 | 337 => 228 | 338 => 229 | n => n, fun | 2 => 2 | 3 => 3 | 9 => 9 | 4 => 4 | 171 => 356 | 0 => 0 | 53 => 264 | 37 => 351 | 5 => 5 | 173 => 359 | 212 => 371 | 51 => 329 | 20 => 20 | 213 => 372 | 46 => 120 | 232 => 375 | 233 => 376 | n => n, fun | 17 => 9 | 18 => 10 | 19 => 11 | n => n⟩
theorem Tryz.laysM173 : Go.Proofs.LaysM.n173 tP Tryz.laysM173_ren := {
 mixed := by kernel_rfl
 f129 := Tryz.func223.trans (congrArg some (by kernel_rfl))
 f173 := Tryz.func167.trans (congrArg some (by kernel_rfl))
 f246 := Tryz.func190.trans (congrArg some (by kernel_rfl))
 f283 := Tryz.func210.trans (congrArg some (by kernel_rfl))
 f284 := Tryz.func211.trans (congrArg some (by kernel_rfl))
 f285 := Tryz.func212.trans (congrArg some (by kernel_rfl))
 f286 := Tryz.func213.trans (congrArg some (by kernel_rfl))
 f317 := Tryz.func222.trans (congrArg some (by kernel_rfl))
 f318 := Tryz.func224.trans (congrArg some (by kernel_rfl))
 f319 := Tryz.func225.trans (congrArg some (by kernel_rfl))
 f320 := Tryz.func226.trans (congrArg some (by kernel_rfl))
 f337 := Tryz.func228.trans (congrArg some (by kernel_rfl))
 f338 := Tryz.func229.trans (congrArg some (by kernel_rfl))
 t0 := Tryz.underlying0
 a0 := Tryz.isAgg0
 z0 := Tryz.sizeOf0
 v0 := Tryz.zeroValue0
 t2 := Tryz.underlying2
 a2 := Tryz.isAgg2
 z2 := Tryz.sizeOf2
 v2 := Tryz.zeroValue2
 t3 := Tryz.underlying3
 a3 := Tryz.isAgg3
 z3 := Tryz.sizeOf3
 v3 := Tryz.zeroValue3
 t4 := Tryz.underlying4
 a4 := Tryz.isAgg4
 z4 := Tryz.sizeOf4
 v4 := Tryz.zeroValue4
 t5 := Tryz.underlying5
 a5 := Tryz.isAgg5
 z5 := Tryz.sizeOf5
 v5 := Tryz.zeroValue5
 t9 := Tryz.underlying9
 a9 := Tryz.isAgg9
 z9 := Tryz.sizeOf9
 v9 := Tryz.zeroValue9
 t20 := Tryz.underlying20
 a20 := Tryz.isAgg20
 z20 := Tryz.sizeOf20
 v20 := Tryz.zeroValue20
 t37 := Tryz.underlying351
 a37 := Tryz.isAgg351
 z37 := Tryz.sizeOf351
 v37 := Tryz.zeroValue351
 t46 := Tryz.underlying120
 a46 := Tryz.isAgg120
 z46 := Tryz.sizeOf120
 v46 := Tryz.zeroValue120
 t51 := Tryz.underlying329
 a51 := Tryz.isAgg329
 z51 := Tryz.sizeOf329
 v51 := Tryz.zeroValue329
 t53 := Tryz.underlying264
 a53 := Tryz.isAgg264
 z53 := Tryz.sizeOf264
 v53 := Tryz.zeroValue264
 t171 := Tryz.underlying356
 a171 := Tryz.isAgg356
 z171 := Tryz.sizeOf356
 v171 := Tryz.zeroValue356
 t173 := Tryz.underlying359
 a173 := Tryz.isAgg359
 z173 := Tryz.sizeOf359
 v173 := Tryz.zeroValue359
 t212 := Tryz.underlying371
 a212 := Tryz.isAgg371
 z212 := Tryz.sizeOf371
 v212 := Tryz.zeroValue371
 t213 := Tryz.underlying372
 a213 := Tryz.isAgg372
 z213 := Tryz.sizeOf372
 t232 := Tryz.underlying375
 a232 := Tryz.isAgg375
 z232 := Tryz.sizeOf375
 v232 := Tryz.zeroValue375
 t233 := Tryz.underlying376
 a233 := Tryz.isAgg376
 z233 := Tryz.sizeOf376
 v233 := Tryz.zeroValue376
 g17 := by kernel_rfl
 g18 := by kernel_rfl
 g19 := by kernel_rfl
 i0 := by kernel_rfl
 i2 := by kernel_rfl
 i3 := by kernel_rfl
 i4 := by kernel_rfl
 i5 := by kernel_rfl
 i9 := by kernel_rfl
 i20 := by kernel_rfl
 i37 := by kernel_rfl
 i46 := by kernel_rfl
 i51 := by kernel_rfl
 i53 := by kernel_rfl
 i171 := by kernel_rfl
 i173 := by kernel_rfl
 i212 := by kernel_rfl
 i232 := by kernel_rfl
 i233 := by kernel_rfl
 m17 := by kernel_rfl
 m18 := by kernel_rfl
 m19 := by kernel_rfl }
open Go.RowKit Go.Sort Go.Lib in
theorem Tryz.strconv_FormatInt_10 (n : Int) (h0 : -9223372036854775808 <= n) (h1 : n <= 9223372036854775807) (w : World) (htab : Lib.TabIs tP w "internal/strconv.uint64pow10" .u64 Lib.pow10Tab) :
  Calls tP 167 #[.int .i64 n, .int .i64 10] w fun e w' => e = rT (.string ⟨(Lib.itoa n).toArray⟩) /\ ∃ k os, w' = grow (w.drewN k) os := Any.strconv_FormatInt_10 Tryz.laysM173 n h0 h1 w htab
def Tryz.laysC174_ren : Go.Shelf.Ren := ⟨fun | 174 => 128 | 247 => 165 | 245 => 166 | 287 => 185 | 279 => 186 | 280 => 187 | 281 => 188 | 282 => 189 | 321 => 206 | 322 => 207 | 316 => 208 | 171 => 164 | 205 => 209 | 243 => 184 | 246 => 190 | 283 => 210 | 284 => 211 | 285 => 212 | 286 => 213 | 129 => 223 | 317 => 222 | 318 => 224 | 319 => 225 | 320 => 226 | 337 => 228 | 338 => 229 | n => n, fun | 9 => 9 | 3 => 3 | 2 => 2 | 75 => 26 | 85 => 267 | 4 => 4 | 167 => 332 | 5 => 5 | 53 => 264 | 175 => 333 | 46 => 120 | 168 => 335 | 37 => 351 | 0 => 0 | 210 => 354 | 21 => 21 | 127 => 366 | 145 => 369 | 143 => 367 | 171 => 356 | 173 => 359 | 212 => 371 | 51 => 329 | 20 => 20 | 213 => 372 | 232 => 375 | 233 => 376 | 80 => 377 | n => n, fun | 15 => 7 | 16 => 8 | 17 => 9 | 18 => 10 | 19 => 11 | n => n⟩
theorem Tryz.laysC174 : Go.Proofs.LaysC.n174 tP Tryz.laysC174_ren := {
 mixed := by kernel_rfl
 f129 := Tryz.func223.trans (congrArg some (by kernel_rfl))
 f171 := Tryz.func164.trans (congrArg some (by kernel_rfl))
 f174 := Tryz.func128.trans (congrArg some (by kernel_rfl))
 f205 := Tryz.func209.trans (congrArg some (by kernel_rfl))
 f243 := Tryz.func184.trans (congrArg some (by kernel_rfl))
 f245 := Tryz.func166.trans (congrArg some (by kernel_rfl))
 f246 := Tryz.func190.trans (congrArg some (by kernel_rfl))
 f247 := Tryz.func165.trans (congrArg some (by kernel_rfl))
 f279 := Tryz.func186.trans (congrArg some (by kernel_rfl))
 f280 := Tryz.func187.trans (congrArg some (by kernel_rfl))
 f281 := Tryz.func188.trans (congrArg some (by kernel_rfl))
 f282 := Tryz.func189.trans (congrArg some (by kernel_rfl))
 f283 := Tryz.func210.trans (congrArg some (by kernel_rfl))
 f284 := Tryz.func211.trans (congrArg some (by kernel_rfl))
 f285 := Tryz.func212.trans (congrArg some (by kernel_rfl))
 f286 := Tryz.func213.trans (congrArg some (by kernel_rfl))
 f287 := Tryz.func185.trans (congrArg some (by kernel_rfl))
 f316 := Tryz.func208.trans (congrArg some (by kernel_rfl))
 f317 := Tryz.func222.trans (congrArg some (by kernel_rfl))
 f318 := Tryz.func224.trans (congrArg some (by kernel_rfl))
 f319 := Tryz.func225.trans (congrArg some (by kernel_rfl))
 f320 := Tryz.func226.trans (congrArg some (by kernel_rfl))
 f321 := Tryz.func206.trans (congrArg some (by kernel_rfl))
 f322 := Tryz.func207.trans (congrArg some (by kernel_rfl))
 f337 := Tryz.func228.trans (congrArg some (by kernel_rfl))
 f338 := Tryz.func229.trans (congrArg some (by kernel_rfl))
 t0 := Tryz.underlying0
 a0 := Tryz.isAgg0
 z0 := Tryz.sizeOf0
 v0 := Tryz.zeroValue0
 t2 := Tryz.underlying2
 a2 := Tryz.isAgg2
 z2 := Tryz.sizeOf2
 v2 := Tryz.zeroValue2
 t3 := Tryz.underlying3
 a3 := Tryz.isAgg3
 z3 := Tryz.sizeOf3
 v3 := Tryz.zeroValue3
 t4 := Tryz.underlying4
 a4 := Tryz.isAgg4
 z4 := Tryz.sizeOf4
 v4 := Tryz.zeroValue4
 t5 := Tryz.underlying5
 a5 := Tryz.isAgg5
 z5 := Tryz.sizeOf5
 v5 := Tryz.zeroValue5
 t9 := Tryz.underlying9
 a9 := Tryz.isAgg9
 z9 := Tryz.sizeOf9
 v9 := Tryz.zeroValue9
 t20 := Tryz.underlying20
 a20 := Tryz.isAgg20
 z20 := Tryz.sizeOf20
 v20 := Tryz.zeroValue20
 t21 := Tryz.underlying21
 a21 := Tryz.isAgg21
 z21 := Tryz.sizeOf21
 v21 := Tryz.zeroValue21
 t37 := Tryz.underlying351
 a37 := Tryz.isAgg351
 z37 := Tryz.sizeOf351
 v37 := Tryz.zeroValue351
 t46 := Tryz.underlying120
 a46 := Tryz.isAgg120
 z46 := Tryz.sizeOf120
 v46 := Tryz.zeroValue120
 t51 := Tryz.underlying329
 a51 := Tryz.isAgg329
 z51 := Tryz.sizeOf329
 v51 := Tryz.zeroValue329
 t53 := Tryz.underlying264
 a53 := Tryz.isAgg264
 z53 := Tryz.sizeOf264
 v53 := Tryz.zeroValue264
 t75 := Tryz.underlying26
 a75 := Tryz.isAgg26
 z75 := Tryz.sizeOf26
 v75 := Tryz.zeroValue26
 t85 := Tryz.underlying267
 a85 := Tryz.isAgg267
 z85 := Tryz.sizeOf267
 v85 := Tryz.zeroValue267
 t127 := Tryz.underlying366
 a127 := Tryz.isAgg366
 z127 := Tryz.sizeOf366
 v127 := Tryz.zeroValue366
 t143 := Tryz.underlying367
 a143 := Tryz.isAgg367
 z143 := Tryz.sizeOf367
 v143 := Tryz.zeroValue367
 t145 := Tryz.underlying369
 a145 := Tryz.isAgg369
 z145 := Tryz.sizeOf369
 v145 := Tryz.zeroValue369
 t167 := Tryz.underlying332
 a167 := Tryz.isAgg332
 z167 := Tryz.sizeOf332
 v167 := Tryz.zeroValue332
 t168 := Tryz.underlying335
 a168 := Tryz.isAgg335
 z168 := Tryz.sizeOf335
 v168 := Tryz.zeroValue335
 t171 := Tryz.underlying356
 a171 := Tryz.isAgg356
 z171 := Tryz.sizeOf356
 v171 := Tryz.zeroValue356
 t173 := Tryz.underlying359
 a173 := Tryz.isAgg359
 z173 := Tryz.sizeOf359
 v173 := Tryz.zeroValue359
 t175 := Tryz.underlying333
 a175 := Tryz.isAgg333
 z175 := Tryz.sizeOf333
 v175 := Tryz.zeroValue333
 t210 := Tryz.underlying354
 a210 := Tryz.isAgg354
 z210 := Tryz.sizeOf354
 v210 := Tryz.zeroValue354
 t212 := Tryz.underlying371
 a212 := Tryz.isAgg371
 z212 := Tryz.sizeOf371
 v212 := Tryz.zeroValue371
 t213 := Tryz.underlying372
 a213 := Tryz.isAgg372
 z213 := Tryz.sizeOf372
 t232 := Tryz.underlying375
 a232 := Tryz.isAgg375
 z232 := Tryz.sizeOf375
 v232 := Tryz.zeroValue375
 t233 := Tryz.underlying376
 a233 := Tryz.isAgg376
 z233 := Tryz.sizeOf376
 v233 := Tryz.zeroValue376
 g15 := by kernel_rfl
 g16 := by kernel_rfl
 g17 := by kernel_rfl
 g18 := by kernel_rfl
 g19 := by kernel_rfl
 t80 := Tryz.underlying377
 a80 := Tryz.isAgg377
 z80 := Tryz.sizeOf377
 v80 := Tryz.zeroValue377
 i0 := by kernel_rfl
 i2 := by kernel_rfl
 i3 := by kernel_rfl
 i4 := by kernel_rfl
 i5 := by kernel_rfl
 i9 := by kernel_rfl
 i20 := by kernel_rfl
 i21 := by kernel_rfl
 i37 := by kernel_rfl
 i46 := by kernel_rfl
 i51 := by kernel_rfl
 i53 := by kernel_rfl
 i75 := by kernel_rfl
 i80 := by kernel_rfl
 i85 := by kernel_rfl
 i127 := by kernel_rfl
 i143 := by kernel_rfl
 i145 := by kernel_rfl
 i167 := by kernel_rfl
 i168 := by kernel_rfl
 i171 := by kernel_rfl
 i173 := by kernel_rfl
 i175 := by kernel_rfl
 i210 := by kernel_rfl
 i212 := by kernel_rfl
 i232 := by kernel_rfl
 i233 := by kernel_rfl
 m15 := by kernel_rfl
 m16 := by kernel_rfl
 m17 := by kernel_rfl
 m18 := by kernel_rfl
 m19 := by kernel_rfl
 c0 := by kernel_rfl
 c2 := by kernel_rfl
 c3 := by kernel_rfl
 c4 := by kernel_rfl
 c5 := by kernel_rfl
 c9 := by kernel_rfl
 c20 := by kernel_rfl
 c21 := by kernel_rfl
 c37 := by kernel_rfl
 c46 := by kernel_rfl
 c51 := by kernel_rfl
 c53 := by kernel_rfl
 c75 := by kernel_rfl
 c80 := by kernel_rfl
 c85 := by kernel_rfl
 c127 := by kernel_rfl
 c143 := by kernel_rfl
 c145 := by kernel_rfl
 c167 := by kernel_rfl
 c168 := by kernel_rfl
 c171 := by kernel_rfl
 c173 := by kernel_rfl
 c175 := by kernel_rfl
 c210 := by kernel_rfl
 c212 := by kernel_rfl
 c213 := by kernel_rfl
 c232 := by kernel_rfl
 c233 := by kernel_rfl }
open Go.RowKit in
theorem Tryz.strconv_ParseInt_10_at64_ok (s : ByteArray) (hmax : s.size <= 9223372036854775806) (v : Int) (h : Lib.parseIntB 64 s.data.toList = .ok v) (w : World) :
  Calls tP 128 #[.string s, .int .i64 10, .int .i64 64] w fun e w' => e = rT (.tuple #[.int .i64 v, .nilIface]) /\ (w' = w \/ ∃ t, w' = Lib.bytesWorld w 5 t) := Any.strconv_ParseInt_10_at64_ok Tryz.laysC174 s hmax v h w
open Go.RowKit in
theorem Tryz.strconv_ParseInt_10_at64_syntax (s : ByteArray) (hlim : s.size <= 281474976710656) (h : Lib.parseIntB 64 s.data.toList = .«syntax») (ev : Value) (w : World) (hv : w.cell? ⟨7, 0, none⟩ = some ev) (hev : ev = .nilIface \/ ∃ te pe, ev = .iface te pe) :
  Calls tP 128 #[.string s, .int .i64 10, .int .i64 64] w fun e w' => ∃ N, e = rT (.tuple #[.int .i64 (0), .iface 335 (pT (some ⟨N, 0, none⟩))]) /\ w.heap.size <= N /\ w'.heap[N]? = some (cT #[.string ⟨#[80, 97, 114, 115, 101, 73, 110, 116]⟩, .string s, ev] 354 (0, 0)) /\ Below w.heap.size w w' := Any.strconv_ParseInt_10_at64_syntax Tryz.laysC174 s hlim h ev w hv hev
open Go.RowKit in
theorem Tryz.strconv_ParseInt_10_at64_range (s : ByteArray) (hlim : s.size <= 281474976710656) (h : Lib.parseIntB 64 s.data.toList = .range) (ev : Value) (w : World) (hv : w.cell? ⟨8, 0, none⟩ = some ev) (hev : ev = .nilIface \/ ∃ te pe, ev = .iface te pe) :
  Calls tP 128 #[.string s, .int .i64 10, .int .i64 64] w fun e w' => ∃ N, e = rT (.tuple #[.int .i64 (Lib.intSat 64 s.data.toList), .iface 335 (pT (some ⟨N, 0, none⟩))]) /\ w.heap.size <= N /\ w'.heap[N]? = some (cT #[.string ⟨#[80, 97, 114, 115, 101, 73, 110, 116]⟩, .string s, ev] 354 (0, 0)) /\ Below w.heap.size w w' := Any.strconv_ParseInt_10_at64_range Tryz.laysC174 s hlim h ev w hv hev
def Tryz.lays143_ren : Go.Shelf.Ren := ⟨fun | 143 => 87 | 219 => 125 | 217 => 160 | 225 => 161 | 224 => 162 | 267 => 163 | 266 => 182 | 314 => 183 | n => n, fun | 9 => 9 | 3 => 3 | 4 => 4 | 5 => 5 | 46 => 120 | 146 => 330 | 51 => 329 | n => n, fun | 1 => 6 | n => n⟩
theorem Tryz.lays143 : Go.Proofs.Lays.n143 tP Tryz.lays143_ren := {
 mixed := by kernel_rfl
 f143 := Tryz.func87.trans (congrArg some (by kernel_rfl))
 f217 := Tryz.func160.trans (congrArg some (by kernel_rfl))
 f219 := Tryz.func125.trans (congrArg some (by kernel_rfl))
 f224 := Tryz.func162.trans (congrArg some (by kernel_rfl))
 f225 := Tryz.func161.trans (congrArg some (by kernel_rfl))
 f266 := Tryz.func182.trans (congrArg some (by kernel_rfl))
 f267 := Tryz.func163.trans (congrArg some (by kernel_rfl))
 f314 := Tryz.func183.trans (congrArg some (by kernel_rfl))
 t3 := Tryz.underlying3
 a3 := Tryz.isAgg3
 z3 := Tryz.sizeOf3
 v3 := Tryz.zeroValue3
 t4 := Tryz.underlying4
 a4 := Tryz.isAgg4
 z4 := Tryz.sizeOf4
 v4 := Tryz.zeroValue4
 t5 := Tryz.underlying5
 a5 := Tryz.isAgg5
 z5 := Tryz.sizeOf5
 v5 := Tryz.zeroValue5
 t9 := Tryz.underlying9
 a9 := Tryz.isAgg9
 z9 := Tryz.sizeOf9
 v9 := Tryz.zeroValue9
 t46 := Tryz.underlying120
 a46 := Tryz.isAgg120
 z46 := Tryz.sizeOf120
 v46 := Tryz.zeroValue120
 t51 := Tryz.underlying329
 a51 := Tryz.isAgg329
 z51 := Tryz.sizeOf329
 v51 := Tryz.zeroValue329
 t146 := Tryz.underlying330
 a146 := Tryz.isAgg330
 z146 := Tryz.sizeOf330
 v146 := Tryz.zeroValue330
 g1 := by kernel_rfl }
open Go.RowKit Go.Lib in
theorem Tryz.strings_Index_one (s : ByteArray) (c : UInt8) (w : World) :
  Calls tP 87 #[.string s, .string ⟨#[c]⟩] w fun e w' => e = rT (.int .i64 (Lib.indexByte s.data.toList c)) /\ w' = w := Any.strings_Index_one Tryz.lays143 s c w
def Tryz.lays206_ren : Go.Shelf.Ren := ⟨fun | 206 => 191 | n => n, fun | 9 => 9 | 4 => 4 | 3 => 3 | n => n, fun | n => n⟩
theorem Tryz.lays206 : Go.Proofs.Lays.n206 tP Tryz.lays206_ren := {
 mixed := by kernel_rfl
 f206 := Tryz.func191.trans (congrArg some (by kernel_rfl))
 t3 := Tryz.underlying3
 a3 := Tryz.isAgg3
 z3 := Tryz.sizeOf3
 v3 := Tryz.zeroValue3
 t4 := Tryz.underlying4
 a4 := Tryz.isAgg4
 z4 := Tryz.sizeOf4
 v4 := Tryz.zeroValue4
 t9 := Tryz.underlying9
 a9 := Tryz.isAgg9
 z9 := Tryz.sizeOf9
 v9 := Tryz.zeroValue9 }
open Go.RowKit Go.Lib in
theorem Tryz.stringslite_HasPrefix (s p : ByteArray) (w : World) :
  Calls tP 191 #[.string s, .string p] w fun e w' => e = rT (.bool (Lib.hasPrefix s.data.toList p.data.toList)) /\ w' = w := Any.stringslite_HasPrefix Tryz.lays206 s p w
def Tryz.lays207_ren : Go.Shelf.Ren := ⟨fun | 207 => 192 | n => n, fun | 9 => 9 | 4 => 4 | 3 => 3 | n => n, fun | n => n⟩
theorem Tryz.lays207 : Go.Proofs.Lays.n207 tP Tryz.lays207_ren := {
 mixed := by kernel_rfl
 f207 := Tryz.func192.trans (congrArg some (by kernel_rfl))
 t3 := Tryz.underlying3
 a3 := Tryz.isAgg3
 z3 := Tryz.sizeOf3
 v3 := Tryz.zeroValue3
 t4 := Tryz.underlying4
 a4 := Tryz.isAgg4
 z4 := Tryz.sizeOf4
 v4 := Tryz.zeroValue4
 t9 := Tryz.underlying9
 a9 := Tryz.isAgg9
 z9 := Tryz.sizeOf9
 v9 := Tryz.zeroValue9 }
open Go.RowKit Go.Lib in
theorem Tryz.stringslite_HasSuffix (s p : ByteArray) (w : World) (hs : s.size <= 9223372036854775807) :
  Calls tP 192 #[.string s, .string p] w fun e w' => e = rT (.bool (Lib.hasSuffix s.data.toList p.data.toList)) /\ w' = w := Any.stringslite_HasSuffix Tryz.lays207 s p w hs
def Tryz.lays101_ren : Go.Shelf.Ren := ⟨fun | 101 => 133 | 208 => 174 | 206 => 191 | n => n, fun | 9 => 9 | 4 => 4 | 3 => 3 | n => n, fun | n => n⟩
theorem Tryz.lays101 : Go.Proofs.Lays.n101 tP Tryz.lays101_ren := {
 mixed := by kernel_rfl
 f101 := Tryz.func133.trans (congrArg some (by kernel_rfl))
 f206 := Tryz.func191.trans (congrArg some (by kernel_rfl))
 f208 := Tryz.func174.trans (congrArg some (by kernel_rfl))
 t3 := Tryz.underlying3
 a3 := Tryz.isAgg3
 z3 := Tryz.sizeOf3
 v3 := Tryz.zeroValue3
 t4 := Tryz.underlying4
 a4 := Tryz.isAgg4
 z4 := Tryz.sizeOf4
 v4 := Tryz.zeroValue4
 t9 := Tryz.underlying9
 a9 := Tryz.isAgg9
 z9 := Tryz.sizeOf9
 v9 := Tryz.zeroValue9 }
open Go.RowKit Go.Lib in
theorem Tryz.strings_TrimPrefix (s p : ByteArray) (w : World) :
  Calls tP 133 #[.string s, .string p] w fun e w' => e = rT (.string ⟨(Lib.trimPrefix s.data.toList p.data.toList).toArray⟩) /\ w' = w := Any.strings_TrimPrefix Tryz.lays101 s p w
def Tryz.lays197_ren : Go.Shelf.Ren := ⟨fun | 197 => 86 | 260 => 124 | n => n, fun | 9 => 9 | 21 => 21 | 3 => 3 | 4 => 4 | 5 => 5 | 105 => 229 | 119 => 312 | 0 => 0 | 46 => 120 | 139 => 315 | 138 => 314 | n => n, fun | 3 => 4 | 4 => 5 | n => n⟩
theorem Tryz.lays197 : Go.Proofs.Lays.n197 tP Tryz.lays197_ren := {
 mixed := by kernel_rfl
 f197 := Tryz.func86.trans (congrArg some (by kernel_rfl))
 f260 := Tryz.func124.trans (congrArg some (by kernel_rfl))
 t0 := Tryz.underlying0
 a0 := Tryz.isAgg0
 z0 := Tryz.sizeOf0
 v0 := Tryz.zeroValue0
 t3 := Tryz.underlying3
 a3 := Tryz.isAgg3
 z3 := Tryz.sizeOf3
 v3 := Tryz.zeroValue3
 t4 := Tryz.underlying4
 a4 := Tryz.isAgg4
 z4 := Tryz.sizeOf4
 v4 := Tryz.zeroValue4
 t5 := Tryz.underlying5
 a5 := Tryz.isAgg5
 z5 := Tryz.sizeOf5
 v5 := Tryz.zeroValue5
 t9 := Tryz.underlying9
 a9 := Tryz.isAgg9
 z9 := Tryz.sizeOf9
 v9 := Tryz.zeroValue9
 t21 := Tryz.underlying21
 a21 := Tryz.isAgg21
 z21 := Tryz.sizeOf21
 v21 := Tryz.zeroValue21
 t46 := Tryz.underlying120
 a46 := Tryz.isAgg120
 z46 := Tryz.sizeOf120
 v46 := Tryz.zeroValue120
 t105 := Tryz.underlying229
 a105 := Tryz.isAgg229
 z105 := Tryz.sizeOf229
 v105 := Tryz.zeroValue229
 t119 := Tryz.underlying312
 a119 := Tryz.isAgg312
 z119 := Tryz.sizeOf312
 t138 := Tryz.underlying314
 a138 := Tryz.isAgg314
 z138 := Tryz.sizeOf314
 v138 := Tryz.zeroValue314
 t139 := Tryz.underlying315
 a139 := Tryz.isAgg315
 z139 := Tryz.sizeOf315
 v139 := Tryz.zeroValue315
 g3 := by kernel_rfl
 g4 := by kernel_rfl }
def Tryz.lays152_ren : Go.Shelf.Ren := ⟨fun | 152 => 170 | 137 => 193 | 119 => 194 | 224 => 162 | 225 => 161 | 217 => 160 | 266 => 182 | n => n, fun | 9 => 9 | 21 => 21 | 3 => 3 | 4 => 4 | 5 => 5 | 0 => 0 | 46 => 120 | n => n, fun | n => n⟩
theorem Tryz.lays152 : Go.Proofs.Lays.n152 tP Tryz.lays152_ren := {
 mixed := by kernel_rfl
 f119 := Tryz.func194.trans (congrArg some (by kernel_rfl))
 f137 := Tryz.func193.trans (congrArg some (by kernel_rfl))
 f152 := Tryz.func170.trans (congrArg some (by kernel_rfl))
 f217 := Tryz.func160.trans (congrArg some (by kernel_rfl))
 f224 := Tryz.func162.trans (congrArg some (by kernel_rfl))
 f225 := Tryz.func161.trans (congrArg some (by kernel_rfl))
 f266 := Tryz.func182.trans (congrArg some (by kernel_rfl))
 t0 := Tryz.underlying0
 a0 := Tryz.isAgg0
 z0 := Tryz.sizeOf0
 v0 := Tryz.zeroValue0
 t3 := Tryz.underlying3
 a3 := Tryz.isAgg3
 z3 := Tryz.sizeOf3
 v3 := Tryz.zeroValue3
 t4 := Tryz.underlying4
 a4 := Tryz.isAgg4
 z4 := Tryz.sizeOf4
 v4 := Tryz.zeroValue4
 t5 := Tryz.underlying5
 a5 := Tryz.isAgg5
 z5 := Tryz.sizeOf5
 v5 := Tryz.zeroValue5
 t9 := Tryz.underlying9
 a9 := Tryz.isAgg9
 z9 := Tryz.sizeOf9
 v9 := Tryz.zeroValue9
 t21 := Tryz.underlying21
 a21 := Tryz.isAgg21
 z21 := Tryz.sizeOf21
 v21 := Tryz.zeroValue21
 t46 := Tryz.underlying120
 a46 := Tryz.isAgg120
 z46 := Tryz.sizeOf120
 v46 := Tryz.zeroValue120 }
open Go.RowKit Go.Lib in
theorem Tryz.strings_IndexRune_ascii (s : ByteArray) (r : Int) (w : World) (h0 : 0 <= r) (h1 : r < 128) :
  Calls tP 170 #[.string s, .int .i32 r] w fun e w' => e = rT (.int .i64 (Lib.indexByte s.data.toList r.toNat.toUInt8)) /\ w' = w := Any.strings_IndexRune_ascii Tryz.lays152 s r w h0 h1
def Tryz.lays153_ren : Go.Shelf.Ren := ⟨fun | 153 => 132 | 152 => 170 | 226 => 171 | 227 => 172 | 228 => 173 | 137 => 193 | 119 => 194 | 224 => 162 | 225 => 161 | 217 => 160 | 266 => 182 | n => n, fun | 9 => 9 | 3 => 3 | 4 => 4 | 5 => 5 | 21 => 21 | 117 => 322 | 116 => 321 | 0 => 0 | 46 => 120 | 124 => 339 | n => n, fun | n => n⟩
theorem Tryz.lays153 : Go.Proofs.Lays.n153 tP Tryz.lays153_ren := {
 mixed := by kernel_rfl
 f119 := Tryz.func194.trans (congrArg some (by kernel_rfl))
 f137 := Tryz.func193.trans (congrArg some (by kernel_rfl))
 f152 := Tryz.func170.trans (congrArg some (by kernel_rfl))
 f153 := Tryz.func132.trans (congrArg some (by kernel_rfl))
 f217 := Tryz.func160.trans (congrArg some (by kernel_rfl))
 f224 := Tryz.func162.trans (congrArg some (by kernel_rfl))
 f225 := Tryz.func161.trans (congrArg some (by kernel_rfl))
 f226 := Tryz.func171.trans (congrArg some (by kernel_rfl))
 f227 := Tryz.func172.trans (congrArg some (by kernel_rfl))
 f228 := Tryz.func173.trans (congrArg some (by kernel_rfl))
 f266 := Tryz.func182.trans (congrArg some (by kernel_rfl))
 t0 := Tryz.underlying0
 a0 := Tryz.isAgg0
 z0 := Tryz.sizeOf0
 v0 := Tryz.zeroValue0
 t3 := Tryz.underlying3
 a3 := Tryz.isAgg3
 z3 := Tryz.sizeOf3
 v3 := Tryz.zeroValue3
 t4 := Tryz.underlying4
 a4 := Tryz.isAgg4
 z4 := Tryz.sizeOf4
 v4 := Tryz.zeroValue4
 t5 := Tryz.underlying5
 a5 := Tryz.isAgg5
 z5 := Tryz.sizeOf5
 v5 := Tryz.zeroValue5
 t9 := Tryz.underlying9
 a9 := Tryz.isAgg9
 z9 := Tryz.sizeOf9
 v9 := Tryz.zeroValue9
 t21 := Tryz.underlying21
 a21 := Tryz.isAgg21
 z21 := Tryz.sizeOf21
 v21 := Tryz.zeroValue21
 t46 := Tryz.underlying120
 a46 := Tryz.isAgg120
 z46 := Tryz.sizeOf120
 v46 := Tryz.zeroValue120
 t116 := Tryz.underlying321
 a116 := Tryz.isAgg321
 z116 := Tryz.sizeOf321
 t117 := Tryz.underlying322
 a117 := Tryz.isAgg322
 z117 := Tryz.sizeOf322
 v117 := Tryz.zeroValue322
 t124 := Tryz.underlying339
 a124 := Tryz.isAgg339
 z124 := Tryz.sizeOf339
 v124 := Tryz.zeroValue339 }
open Go.RowKit Go.Lib in
theorem Tryz.strings_IndexAny_laid (s chars : ByteArray) (w : World) (hs : s.size < 4294967281) (hcs : chars.size < 4294967281) (has : ∀ (j : Nat) b, s.data.toList[j]? = some b -> b.toNat < 128) (hac : ∀ (j : Nat) b, chars.data.toList[j]? = some b -> b.toNat < 128) :
  Calls tP 132 #[.string s, .string chars] w fun e w' => e = rT (.int .i64 (Lib.indexAny s.data.toList chars.data.toList)) /\ Below w.heap.size w w' := Any.strings_IndexAny_laid Tryz.lays153 (by kernel_rfl) s chars w hs hcs has hac
open Go.RowKit Go.Lib in
theorem Tryz.utf8_DecodeRuneInString (s : ByteArray) (w : World) (hT : Lib.Utf8Tabs 4 5 w) :
  Calls tP 86 #[.string s] w fun e w' => e = rT (.tuple #[.int .i32 (Lib.decodeGo s).1, .int .i64 (Lib.decodeGo s).2]) /\ Below w.heap.size w w' := Any.utf8_DecodeRuneInString Tryz.lays197 s w hT
end Go.Proofs
namespace Go.Proofs.YtbimlalhodibjaaGreatDoor
open Go.ChangeShapes Go.WideShapes Go.ChangeAt Go.RowKit

def numB (n : Int) : ByteArray := ⟨(Lib.itoa n).toArray⟩
theorem zCw : ∀ (k u : Nat), u < 10 ^ (k + 1) -> Lib.nDigits u <= k + 1
 | 0, u, h => by rw [Lib.nDigits_small (by simpa using h)]; omega
 | k + 1, u, h => by
  by_cases hu : u < 10
  ·rw [Lib.nDigits_small hu]; omega
  ·rw [Lib.nDigits_big hu]
   have := zCw k (u / 10) (by rw [Nat.div_lt_iff_lt_mul (by omega)]; rw [Nat.pow_succ] at h; exact h)
   omega
theorem z7y (u : Nat) (h : u <= 9223372036854775808) : (Lib.decDigits u).length <= 19 := by
 rw [Lib.decDigits_length]
 exact zCw 18 u (by omega)
theorem zPt (n : Int) (h0 : -9223372036854775808 <= n) (h1 : n <= 9223372036854775807) : (numB n).size <= 20 := by
 show (Lib.itoa n).toArray.size <= 20
 rw [List.size_toArray]
 unfold Lib.itoa
 split
 ·have := z7y n.natAbs (by omega); simp only [List.length_cons]; omega
 ·have := z7y n.toNat (by omega); omega
def regB (r : Int) : ByteArray := ⟨#[114]⟩ ++ numB r
def zCv : List (List UInt8) := [[], [109, 111, 118], [97, 100, 100], [115, 117, 98], [109, 117, 108], [100, 105, 118], [109, 111, 100], [97, 110, 100], [111, 114], [120, 111, 114], [108, 115, 104], [114, 115, 104], [97, 114, 115, 104], [110, 101, 103], [106, 117, 109, 112], [106, 101, 113], [106, 110, 101], [106, 103, 116], [106, 103, 101], [106, 108, 116], [106, 108, 101], [106, 115, 103, 116], [106, 115, 103, 101], [106, 115, 108, 116], [106, 115, 108, 101], [108, 111, 97, 100], [115, 116, 111, 114, 101], [99, 97, 108, 108], [101, 120, 105, 116]]
def zDg : List (List UInt8) := [[], [102, 105, 110, 100], [116, 105, 109, 101], [101, 109, 105, 116]]
def zBq (i : Nat) : ByteArray := ⟨(zCv.getD i []).toArray⟩
def zF7 (i : Nat) : ByteArray := ⟨(zDg.getD i []).toArray⟩
structure Ext where
 holds : World -> Prop
 on : ∀ (w w' : World) (B : Nat), Below B w w' -> 12 <= B -> holds w -> holds w'
structure Tabs (ex : Ext) (w : World) : Prop where
 room : 12 <= w.heap.size
 names : ∀ i, i < 29 -> w.cell? ⟨1, i, none⟩ = some (.string (zBq i))
 calls : ∀ i, i < 4 -> w.cell? ⟨3, i, none⟩ = some (.string (zF7 i))
 pows : Lib.TabIs tP w "internal/strconv.uint64pow10" .u64 Lib.pow10Tab
 ext : ex.holds w
variable {ex : Ext}
theorem zVe : Tryz.prog.globalNamed "internal/strconv.uint64pow10" = some 9 := by kernel_rfl
theorem Tabs.on {w w' : World} {B : Nat} (h : Tabs ex w) (hb : Below B w w') (hB : 12 <= B) : Tabs ex w' := by
 refine ⟨Nat.le_trans h.room hb.size, fun i hi => ?_, fun i hi => ?_, ?_, ex.on _ _ _ hb hB h.ext⟩
 ·rw [hb.cell (p := ⟨1, i, none⟩) (by show 1 < B; omega)]; exact h.names i hi
 ·rw [hb.cell (p := ⟨3, i, none⟩) (by show 3 < B; omega)]; exact h.calls i hi
 ·have hp := h.pows
  unfold Lib.TabIs World.var? at *
  simp only [zVe, Option.bind_some] at hp ⊢
  rw [hb.block 9 (by omega)]; exact hp
structure Fine (ex : Ext) (a w : World) : Prop where
 bel : Below a.heap.size a w
 tabs : Tabs ex w
theorem Fine.start {w : World} (h : Tabs ex w) : Fine ex w w := ⟨bF _ _, h⟩
theorem Fine.alloc {a w : World} (h : Fine ex a w) (o : Obj) : Fine ex a (w.alloc o) :=
 ⟨h.bel.alloc h.bel.size o, h.tabs.on ((bF _ _).alloc (Nat.le_refl _) o) h.tabs.room⟩
theorem Fine.call {a w w1 : World} (h : Fine ex a w) (hb : Below w.heap.size w w1) : Fine ex a w1 :=
 ⟨h.bel.trans (hb.mono h.bel.size), h.tabs.on hb h.tabs.room⟩
theorem kept {W w1 : World} (hb : Below W.heap.size W w1) : (∀ b o, b < W.heap.size -> w1.cell? ⟨b, o, none⟩ = W.cell? ⟨b, o, none⟩) /\ (∀ b o, b < W.heap.size -> w1.frozen? ⟨b, o, none⟩ = W.frozen? ⟨b, o, none⟩) :=
 ⟨fun b _ h => hb.cell (p := ⟨b, _, none⟩) h, fun b _ h => hb.frozen (p := ⟨b, _, none⟩) h⟩
theorem zDh (w : World) (k : Nat) (os : Array Obj) : Below w.heap.size w (Sort.grow (w.drewN k) os) :=
 ⟨rfl, rfl, rfl, by show w.heap.size <= (w.heap ++ os).size; simp, fun i hi => by show (w.heap ++ os)[i]? = w.heap[i]?; rw [Array.getElem?_append_left hi]⟩

theorem zWw (n : Int) (w : World) (h0 : -9223372036854775808 <= n) (h1 : n <= 9223372036854775807) (hT : Tabs ex w) :
  Calls tP 167 #[A C n, A C 10] w fun e w' => e = rT (.string (numB n)) /\ Below w.heap.size w w' :=
 (Tryz.strconv_FormatInt_10 n h0 h1 w hT.pows).mono fun _ _ ⟨he, k, os, hw⟩ => ⟨he, hw ▸ zDh w k os⟩
theorem zU5 (n : Int) (w : World) (h0 : -9223372036854775808 <= n) (h1 : n <= 9223372036854775807) (hT : Tabs ex w) :
  Calls tP 164 #[A C n] w fun e w' => e = rT (.string (numB n)) /\ Below w.heap.size w w' :=
 (Tryz.strconv_Itoa n h0 h1 w hT.pows).mono fun _ _ ⟨he, k, os, hw⟩ => ⟨he, hw ▸ zDh w k os⟩
theorem z6u (n : Int) (w : World) (h0 : -9223372036854775808 <= n) (h1 : n <= 9223372036854775807) (hT : Tabs ex w) :
  Calls tP 129 #[A C n] w fun e w' => e = rT (.string (numB n)) /\ Below w.heap.size w w' := by
 go_enter Tryz.func129, Tryz.ntmps129
 go_wp2_with (go_at_call 167; refine (zWw _ _ h0 h1 hT).mono ?_; rintro e w1 ⟨rfl, hb1⟩)
 go_ret
 exact ⟨rfl, hb1⟩
theorem z5q (n : Int) (w : World) (h0 : -9223372036854775808 <= n) (h1 : n <= 9223372036854775807) (hT : Tabs ex w) :
  Calls tP 127 #[A C n] w fun e w' => e = rT (.string (regB n)) /\ Below w.heap.size w w' := by
 have hz := zPt n h0 h1
 go_enter Tryz.func127, Tryz.ntmps127
 go_wp2_with (go_at_call 164; refine (zU5 _ _ h0 h1 hT).mono ?_; rintro e w1 ⟨rfl, hb1⟩)
 go_ret
 exact ⟨rfl, hb1⟩
def z1x (c : Int) : List UInt8 :=
 if 1 <= c /\ c <= 12 then [100, 115] else if 15 <= c /\ c <= 24 then [100, 115, 111] else if c = 13 then [100] else if c = 14 then [111] else if c = 25 then [100, 102] else if c = 26 then [116, 115] else if c = 27 then [99] else []
def z2o (c : Int) : ByteArray := ⟨(z1x c).toArray⟩
theorem zAj (c : Int) (w : World) : Calls tP 65 #[A C c] w fun e w' => e = rT (.string (z2o c)) /\ w' = w := by
 unfold z2o z1x
 by_cases h1 : 1 <= c /\ c <= 12
 ·rw [if_pos h1]
  have x1 : decide (1 <= c) = true := by simpa using h1.1
  have x2 : decide (c <= 12) = true := by simpa using h1.2
  clear h1
  go_enter Tryz.func65, Tryz.ntmps65
  go_wp2
  go_ret
  exact ⟨rfl, rfl⟩
 ·rw [if_neg h1]
  by_cases h2 : 15 <= c /\ c <= 24
  ·rw [if_pos h2]
   have x1 : decide (1 <= c) = true := by simp; omega
   have x2 : decide (c <= 12) = false := by simp; omega
   have x3 : decide (15 <= c) = true := by simpa using h2.1
   have x4 : decide (c <= 24) = true := by simpa using h2.2
   clear h1 h2
   go_enter Tryz.func65, Tryz.ntmps65
   go_wp2
   go_ret
   exact ⟨rfl, rfl⟩
  ·rw [if_neg h2]
   rcases (show c < 1 \/ c = 13 \/ c = 14 \/ c = 25 \/ c = 26 \/ c = 27 \/ 28 <= c by omega) with h | rfl | rfl | rfl | rfl | rfl | h
   ·rw [if_neg (by omega), if_neg (by omega), if_neg (by omega), if_neg (by omega), if_neg (by omega)]
    have x1 : decide (1 <= c) = false := by simp; omega
    have x3 : decide (15 <= c) = false := by simp; omega
    have x5 : (c == 13) = false := by simp; omega
    have x6 : (c == 14) = false := by simp; omega
    have x7 : (c == 25) = false := by simp; omega
    have x8 : (c == 26) = false := by simp; omega
    have x9 : (c == 27) = false := by simp; omega
    clear h h1 h2
    go_enter Tryz.func65, Tryz.ntmps65
    go_wp2
    go_ret
    exact ⟨rfl, rfl⟩
   iterate 5
    ·simp only [Int.reduceEq, if_true, if_false]
     clear h1 h2
     go_enter Tryz.func65, Tryz.ntmps65
     go_wp2
     go_ret
     exact ⟨rfl, rfl⟩
   ·rw [if_neg (by omega), if_neg (by omega), if_neg (by omega), if_neg (by omega), if_neg (by omega)]
    have x1 : decide (1 <= c) = true := by simp; omega
    have x2 : decide (c <= 12) = false := by simp; omega
    have x3 : decide (15 <= c) = true := by simp; omega
    have x4 : decide (c <= 24) = false := by simp; omega
    have x5 : (c == 13) = false := by simp; omega
    have x6 : (c == 14) = false := by simp; omega
    have x7 : (c == 25) = false := by simp; omega
    have x8 : (c == 26) = false := by simp; omega
    have x9 : (c == 27) = false := by simp; omega
    clear h h1 h2
    go_enter Tryz.func65, Tryz.ntmps65
    go_wp2
    go_ret
    exact ⟨rfl, rfl⟩
def Fits (n : Int) : Prop := -9223372036854775808 <= n /\ n <= 9223372036854775807
end Go.Proofs.YtbimlalhodibjaaGreatDoor
namespace Go.Proofs.YtbimlalhodibjaaGreatDoor
open Go.ChangeShapes Go.WideShapes Go.ChangeAt Go.RowKit

theorem z5n {d : Nat} (h : d < 10) : (UInt8.ofNat (48 + d)).toNat = 48 + d := by
 rw [UInt8.toNat_ofNat']
 omega
theorem zG0 : ∀ (u : Nat) (r : List UInt8), u <= 9223372036854775808 -> Lib.parseUintM 18446744073709551615 0 (Lib.decDigits u ++ r) = Lib.parseUintM 18446744073709551615 u r := by
 intro u
 induction u using Nat.strongRecOn with
 | _ u ih =>
  intro r hu
  by_cases h : u < 10
  ·rw [Lib.decDigits, dif_pos h, List.singleton_append, Lib.parseUintM, z5n h]
   rw [if_pos (by omega), if_neg (by omega), if_neg (by omega)]
   congr 1; omega
  ·rw [Lib.decDigits, dif_neg h, List.append_assoc, List.singleton_append, ih (u / 10) (by omega) _ (by omega), Lib.parseUintM, z5n (by omega : u % 10 < 10)]
   rw [if_pos (by omega), if_neg (by omega), if_neg (by omega)]
   congr 1; omega
theorem zBf : ∀ (u : Nat), ∃ c r, Lib.decDigits u = c :: r /\ 48 <= c.toNat /\ c.toNat <= 57 := by
 intro u
 induction u using Nat.strongRecOn with
 | _ u ih =>
  by_cases h : u < 10
  ·exact ⟨_, [], by rw [Lib.decDigits, dif_pos h], by rw [z5n h]; omega, by rw [z5n h]; omega⟩
  ·obtain ⟨c, r, e, h1, h2⟩ := ih (u / 10) (by omega)
   exact ⟨c, r ++ [UInt8.ofNat (48 + u % 10)], by rw [Lib.decDigits, dif_neg h, e]; rfl, h1, h2⟩
theorem zFz (u : Nat) (hu : u <= 9223372036854775808) : Lib.parseUintB 64 (Lib.decDigits u) = .ok u := by
 obtain ⟨c, r, e, _⟩ := zBf u
 unfold Lib.parseUintB
 rw [if_neg (by rw [e]; simp)]
 have := zG0 u [] hu
 rw [List.append_nil] at this
 exact this
theorem zMn (n : Int) (h : Fits n) : Lib.parseIntB 64 (Lib.itoa n) = .ok n := by
 unfold Lib.itoa
 obtain ⟨h0, h1⟩ := h
 by_cases hn : n < 0
 ·rw [if_pos hn]
  have hm := zFz n.natAbs (by omega)
  show (match Lib.parseUintB 64 (if (45 : UInt8).toNat = 43 \/ (45 : UInt8).toNat = 45 then Lib.decDigits n.natAbs else 45 :: Lib.decDigits n.natAbs) with
   | .syntax => Lib.NumEnd.syntax
   | .range => .range
   | .ok u => if ¬ (45 : UInt8).toNat = 45 /\ 2 ^ 63 <= u then .range else if (45 : UInt8).toNat = 45 /\ 2 ^ 63 < u then .range else .ok (if (45 : UInt8).toNat = 45 then -(u : Int) else u)) = _
  rw [if_pos (by decide), hm]
  show (if ¬ (45 : UInt8).toNat = 45 /\ 2 ^ 63 <= n.natAbs then Lib.NumEnd.range else if (45 : UInt8).toNat = 45 /\ 2 ^ 63 < n.natAbs then .range else .ok (if (45 : UInt8).toNat = 45 then -(n.natAbs : Int) else n.natAbs)) = _
  rw [if_neg (fun h => h.1 (by decide)), if_neg (by omega), if_pos (by decide)]
  congr 1; omega
 ·rw [if_neg hn]
  obtain ⟨c, r, e, c1, c2⟩ := zBf n.toNat
  have hm := zFz n.toNat (by omega)
  rw [e] at hm ⊢
  show (match Lib.parseUintB 64 (if c.toNat = 43 \/ c.toNat = 45 then r else c :: r) with
   | .syntax => Lib.NumEnd.syntax
   | .range => .range
   | .ok u => if ¬ c.toNat = 45 /\ 2 ^ 63 <= u then .range else if c.toNat = 45 /\ 2 ^ 63 < u then .range else .ok (if c.toNat = 45 then -(u : Int) else u)) = _
  rw [if_neg (by omega), hm]
  show (if ¬ c.toNat = 45 /\ 2 ^ 63 <= n.toNat then Lib.NumEnd.range else if c.toNat = 45 /\ 2 ^ 63 < n.toNat then .range else .ok (if c.toNat = 45 then -(n.toNat : Int) else n.toNat)) = _
  rw [if_neg (by omega), if_neg (by omega), if_neg (by omega)]
  congr 1; omega
def z5h (b : ByteArray) : Option Int :=
 match Lib.parseIntB 64 b.data.toList with
 | .ok v => if numB v = b then some v else none
 | _ => none
theorem zPu (n : Int) : (numB n).data.toList = Lib.itoa n := by simp [numB]
theorem zCt {n : Int} (h : Fits n) : z5h (numB n) = some n := by
 unfold z5h
 rw [zPu, zMn n h]
 simp
theorem zTp {m n : Int} (hm : Fits m) (hn : Fits n) (h : numB m = numB n) : m = n := by
 have a := zCt hm
 rw [h, zCt hn] at a
 exact (Option.some.inj a).symm

theorem zT9 {m n : Int} (hm : Fits m) (hn : Fits n) (h : regB m = regB n) : m = n := by
 refine zTp hm hn ?_
 have h2 : (regB m).data.toList = (regB n).data.toList := by rw [h]
 unfold regB at h2
 have h3 : (numB m).data.toList = (numB n).data.toList := by simpa using h2
 exact ByteArray.ext (Array.ext' h3)
def z5r (b : ByteArray) : Option Nat := (List.range 11).find? fun r : Nat => decide (b = regB r)
theorem z8r {r : Nat} (h : r < 11) : Fits (r : Int) := ⟨by omega, by omega⟩
theorem zMg {r : Nat} (h : r < 11) : z5r (regB r) = some r := by
 unfold z5r
 cases e : (List.range 11).find? fun k : Nat => decide (regB r = regB k) with
 | none => exact absurd (List.find?_eq_none.1 e r (List.mem_range.2 h)) (by simp)
 | some k =>
  have h1 := List.find?_some e
  have h2 := List.mem_range.1 (List.mem_of_find?_eq_some e)
  have := zT9 (z8r h) (z8r h2) (of_decide_eq_true h1)
  congr 1; omega
theorem zCm {b : ByteArray} {r : Nat} (h : z5r b = some r) : r < 11 /\ b = regB r :=
 ⟨List.mem_range.1 (List.mem_of_find?_eq_some h), of_decide_eq_true (p := b = regB r) (List.find?_some (p := fun k : Nat => decide (b = regB k)) h)⟩
variable {ex : Ext}

structure z36 (w : World) : Prop where
 synt : ∃ te pe, w.cell? ⟨7, 0, none⟩ = some (.iface te pe)
 rang : ∃ te pe, w.cell? ⟨8, 0, none⟩ = some (.iface te pe)
theorem z36.on {w w' : World} {B : Nat} (h : z36 w) (hb : Below B w w') (hB : 12 <= B) : z36 w' := by
 obtain ⟨⟨t, p, h1⟩, ⟨t', p', h2⟩⟩ := h
 refine ⟨⟨t, p, ?_⟩, ⟨t', p', ?_⟩⟩
 ·rw [hb.cell (p := ⟨7, 0, none⟩) (by show 7 < B; omega)]; exact h1
 ·rw [hb.cell (p := ⟨8, 0, none⟩) (by show 8 < B; omega)]; exact h2
theorem zJz (w : World) (e : TypeId) (s : ByteArray) : Below w.heap.size w (Lib.bytesWorld w e s) :=
 ⟨rfl, rfl, rfl, by rw [Lib.bytesWorld_size]; omega, fun k hk => Lib.bytesWorld_at_old w e s k hk⟩
theorem zKe {b : ByteArray} {v : Int} (h : Lib.parseIntB 64 b.data.toList = .ok v) (w : World) (hb : b.size <= 100000) :
  Calls tP 128 #[.string b, A C 10, A C 64] w fun e w' => e = rT (.tuple #[A C v, .nilIface]) /\ Below w.heap.size w w' := by
 refine (Tryz.strconv_ParseInt_10_at64_ok b (by omega) v h w).mono fun e w' hh => ?_
 obtain ⟨h1, h2⟩ := hh
 refine ⟨h1, ?_⟩
 rcases h2 with rfl | ⟨t, rfl⟩
 ·exact bF _ _
 ·exact zJz w _ t
theorem zTm (he : ∀ w, ex.holds w -> z36 w) {b : ByteArray} (h : ∀ v, Lib.parseIntB 64 b.data.toList ≠ .ok v) (w : World) (hb : b.size <= 100000) (hT : Tabs ex w) :
  Calls tP 128 #[.string b, A C 10, A C 64] w fun e w' => (∃ v t p, e = rT (.tuple #[A C v, .iface t p])) /\ Below w.heap.size w w' := by
 cases h' : Lib.parseIntB 64 b.data.toList with
 | ok v => exact absurd h' (h v)
 | «syntax» =>
  obtain ⟨t, p, hv⟩ := (he w hT.ext).synt
  refine (Tryz.strconv_ParseInt_10_at64_syntax b (by omega) h' _ w hv (Or.inr ⟨t, p, rfl⟩)).mono fun e w' hh => ?_
  obtain ⟨N, h1, _, _, h2⟩ := hh
  exact ⟨⟨_, _, _, h1⟩, h2⟩
 | range =>
  obtain ⟨t, p, hv⟩ := (he w hT.ext).rang
  refine (Tryz.strconv_ParseInt_10_at64_range b (by omega) h' _ w hv (Or.inr ⟨t, p, rfl⟩)).mono fun e w' hh => ?_
  obtain ⟨N, h1, _, _, h2⟩ := hh
  exact ⟨⟨_, _, _, h1⟩, h2⟩
theorem z6c {a b : ByteArray} (h : a ≠ b) : (a.toList == b.toList) = false := by
 rw [beq_eq_false_iff_ne]
 intro e
 exact h (by rw [Lib.toList_data, Lib.toList_data] at e; exact ByteArray.ext (Array.ext' e))
theorem zCr (he : ∀ w, ex.holds w -> z36 w) (b : ByteArray) (w : World) (hb : b.size <= 100000) (hT : Tabs ex w) :
  Calls tP 92 #[.string b] w fun e w' => e = rT (.tuple #[A C ((z5h b).getD 0), .bool (z5h b).isSome]) /\ Below w.heap.size w w' := by
 have hF := Fine.start hT
 by_cases hok : ∃ v, Lib.parseIntB 64 b.data.toList = .ok v
 ·obtain ⟨v, h⟩ := hok
  have hv := Lib.parseIntB_bounds (B := 64) h
  have v1 : -9223372036854775808 <= v := by have := hv.1; simp at this; omega
  have v2 : v <= 9223372036854775807 := by have := hv.2; simp at this; omega
  have HP : Hid (Lib.parseIntB 64 b.data.toList = .ok v) := h
  clear h hv
  by_cases hbv : numB v = b
  ·have hno : z5h b = some v := by unfold z5h; rw [HP.out]; simp [hbv]
   rw [hno]
   subst hbv
   clear hno
   go_enter Tryz.func92, Tryz.ntmps92
   go_wp2_with (first
    | (go_at_call 128; refine (zKe HP.out _ hb).mono ?_; rintro e w1 ⟨rfl, hb1⟩)
    | (go_at_call 129; refine (z6u _ _ v1 v2 (hF.call hb1).tabs).mono ?_; rintro e w2 ⟨rfl, hb2⟩))
   go_ret2
   exact ⟨rfl, ((hF.call hb1).call hb2).bel⟩
  ·have hno : z5h b = none := by unfold z5h; rw [HP.out]; simp [hbv]
   rw [hno]
   have hq := z6c hbv
   clear hno hbv
   go_enter Tryz.func92, Tryz.ntmps92
   go_wp2_with (first
    | (go_at_call 128; refine (zKe HP.out _ hb).mono ?_; rintro e w1 ⟨rfl, hb1⟩)
    | (go_at_call 129; refine (z6u _ _ v1 v2 (hF.call hb1).tabs).mono ?_; rintro e w2 ⟨rfl, hb2⟩))
   go_ret2
   exact ⟨rfl, ((hF.call hb1).call hb2).bel⟩
 ·have hn : ∀ v, Lib.parseIntB 64 b.data.toList ≠ .ok v := fun v e => hok ⟨v, e⟩
  have hno : z5h b = none := by
   unfold z5h
   split
   ·rename_i v e; exact absurd e (hn v)
   ·rfl
  rw [hno]
  clear hok hno
  go_enter Tryz.func92, Tryz.ntmps92
  go_wp2_with (go_at_call 128; refine (zTm he hn _ hb hT).mono ?_; rintro e w1 ⟨⟨v, t, p, rfl⟩, hb1⟩)
  go_ret2
  exact ⟨rfl, hb1⟩
theorem z6d (he : ∀ w, ex.holds w -> z36 w) (b : ByteArray) (w : World) (hb : b.size <= 100000) (hT : Tabs ex w) :
  Calls tP 93 #[.string b] w fun e w' => e = rT (.tuple #[A C ((z5h b).getD 0), .bool (z5h b).isSome]) /\ Below w.heap.size w w' := by
 go_enter Tryz.func93, Tryz.ntmps93
 go_wp2_with (go_at_call 92; refine (zCr he _ _ hb hT).mono ?_; rintro e w1 ⟨rfl, hb1⟩)
 go_ret2
 exact ⟨rfl, hb1⟩
theorem zI5 {b : ByteArray} {k : Nat} (hk : k < 11) (hb : b = regB k) : z5r b = some k := by rw [hb]; exact zMg hk
theorem z3a (b : ByteArray) (w : World) (hT : Tabs ex w) :
  Calls tP 91 #[.string b] w fun e w' => e = rT (.tuple #[A C (((z5r b).getD 0 : Nat) : Int), .bool (z5r b).isSome]) /\ Below w.heap.size w w' := by
 have hF := Fine.start hT
 go_enter Tryz.func91, Tryz.ntmps91
 go_wp2
 go_loopw [5] (fun i wr => ∃ k : Nat, k <= 11 /\ i = A C k /\ Fine ex w wr /\ ∀ j : Nat, j < k -> b ≠ regB j) (fun i _ => 11 - (intOf i).toNat)
 case atStart => exact ⟨0, by omega, rfl, hF, fun j hj => absurd hj (Nat.not_lt_zero _)⟩
 case round =>
  obtain ⟨k, hk, rfl, hFr, hno⟩ := hrel
  by_cases hlt : k < 11
  ·have hf := z8r hlt
   by_cases hbk : b = regB k
   ·have HR : Hid (z5r b = some k) := zI5 hlt hbk
    have HB : Hid (b = regB k) := hbk
    have hq : (b.toList == (regB k).toList) = true := by rw [hbk]; simp
    clear hbk hno
    go_wp2_with (go_at_call 127; refine (z5q _ _ hf.1 hf.2 hFr.tabs).mono ?_; rintro e w1 ⟨rfl, hb1⟩)
    go_ret2
    exact ⟨by rw [HR.out]; rfl, (hFr.call hb1).bel⟩
   ·have hq := z6c hbk
    have HB : Hid (b ≠ regB k) := hbk
    clear hbk
    go_wp2_with (go_at_call 127; refine (z5q _ _ hf.1 hf.2 hFr.tabs).mono ?_; rintro e w1 ⟨rfl, hb1⟩)
    go_roundw
    case rel => exact ⟨k + 1, by omega, by go_num, hFr.call hb1, fun j hj => by
     rcases Nat.lt_succ_iff_lt_or_eq.1 hj with h | h
     ·exact hno j h
     ·rw [h]; exact HB.out⟩
    case measure => simp [intOf]; omega
  ·have hkk : k = 11 := by omega
   subst hkk
   have HR : Hid (z5r b = none) := by
    show z5r b = none
    cases e : z5r b with
    | none => rfl
    | some r => exact absurd (zCm e).2 (hno r (zCm e).1)
   go_wp2
   go_ret2
   exact ⟨by rw [HR.out]; rfl, hFr.bel⟩
end Go.Proofs.YtbimlalhodibjaaGreatDoor
namespace Go.Proofs.YtbimlalhodibjaaGreatDoor
open Go.ChangeShapes Go.WideShapes Go.ChangeAt Go.RowKit
variable {ex : Ext}

def zAr : Array Value := (zCv.map fun b => Value.string ⟨b.toArray⟩).toArray
def zBi : Array Value := (zDg.map fun b => Value.string ⟨b.toArray⟩).toArray
theorem zKh (k : Nat) (h : k < 29) : zAr[k]? = some (.string (zBq k)) := by
 have hl : k < zCv.length := h
 simp [zAr, zBq, List.getD_eq_getElem?_getD, List.getElem?_eq_getElem hl]
theorem zL6 (k : Nat) (h : k < 4) : zBi[k]? = some (.string (zF7 k)) := by
 have hl : k < zDg.length := h
 simp [zBi, zF7, List.getD_eq_getElem?_getD, List.getElem?_eq_getElem hl]
theorem zNa {w : World} (hT : Tabs ex w) : (loadVar 234 ⟨1, 0, none⟩).run tP w = .ok (.agg zAr) w := by
 refine run_loadVar_mid w _ 0 _ (zCv.map fun b => Value.string ⟨b.toArray⟩) _ (fun j v hv => ?_) Tryz.underlying234 rfl (by kernel_rfl)
 have hj : j < 29 := by
  have h0 := (List.getElem?_eq_some_iff.1 hv).1
  rw [List.length_map] at h0; exact h0
 have h1 := zKh j hj
 have h2 : zAr[j]? = some v := by simpa [zAr] using hv
 rw [Nat.zero_add, hT.names j hj, <- h1, h2]
theorem zNc {w : World} (hT : Tabs ex w) : (loadVar 273 ⟨3, 0, none⟩).run tP w = .ok (.agg zBi) w := by
 refine run_loadVar_mid w _ 0 _ (zDg.map fun b => Value.string ⟨b.toArray⟩) _ (fun j v hv => ?_) Tryz.underlying273 rfl (by kernel_rfl)
 have hj : j < 4 := by
  have h0 := (List.getElem?_eq_some_iff.1 hv).1
  rw [List.length_map] at h0; exact h0
 have h1 := zL6 j hj
 have h2 : zBi[j]? = some v := by simpa [zBi] using hv
 rw [Nat.zero_add, hT.calls j hj, <- h1, h2]
theorem zAu {ops : Array Oper} {rest : List Oper} {d : Option Tmp} {ty : TypeId} {pos : String} {af : _} {a : Act} {w : World} {Q : Exit -> Act -> World -> Prop} (hT : Tabs ex w)
  (h : wpList tP ops Q rest (a.put d (.agg zAr)) w) : wpList tP ops Q ({ dst := d, op := .load 234 (.global 1), type := ty, pos := pos, after := af, guard := none } :: rest) a w :=
 by
 refine wpList_plain rfl ?_
 intro K hK
 have h2 := hK _ _ h
 unfold Oper.wp execOp
 simp only [Act.eval, Instr.loadAt, Instr.sureAddr, Sem.run_bind, Sem.run_pure, Result.andThen_ok, zNa hT]
 exact h2
theorem zAv {ops : Array Oper} {rest : List Oper} {d : Option Tmp} {ty : TypeId} {pos : String} {af : _} {a : Act} {w : World} {Q : Exit -> Act -> World -> Prop} (hT : Tabs ex w)
  (h : wpList tP ops Q rest (a.put d (.agg zBi)) w) : wpList tP ops Q ({ dst := d, op := .load 273 (.global 3), type := ty, pos := pos, after := af, guard := none } :: rest) a w :=
 by
 refine wpList_plain rfl ?_
 intro K hK
 have h2 := hK _ _ h
 unfold Oper.wp execOp
 simp only [Act.eval, Instr.loadAt, Instr.sureAddr, Sem.run_bind, Sem.run_pure, Result.andThen_ok, zNc hT]
 exact h2
theorem zA6 : Tryz.t9.size = 1 := by kernel_rfl
theorem zJ5 (k : Nat) (h : k < 29) (w : World) : (Instr.index 234 (.agg zAr) (A C k)).run tP w = .ok (.string (zBq k)) w := by
 have h1 := zKh k h
 simp [Instr.index, run_underlying Tryz.underlying234, asIntOf, part, sizeOf, go_sem, zA6, h, h1]
theorem zJ6 (k : Nat) (h : k < 4) (w : World) : (Instr.index 273 (.agg zBi) (A C k)).run tP w = .ok (.string (zF7 k)) w := by
 have h1 := zL6 k h
 simp [Instr.index, run_underlying Tryz.underlying273, asIntOf, part, sizeOf, go_sem, zA6, h, h1]
def z2t (b : ByteArray) : Nat := ((List.range 29).find? fun k : Nat => decide (zBq k = b)).getD 0
def callOf (b : ByteArray) : Nat := ((List.range 4).find? fun k : Nat => decide (zF7 k = b)).getD 0
theorem zDa {p : Nat -> Bool} {n k : Nat} (hk : k < n) (hno : ∀ j, j < k -> p j = false) (hp : p k = true) : (List.range n).find? p = some k := by
 exact List.find?_range_eq_some.2 ⟨hp, List.mem_range.2 hk, fun j hj => by simp [hno j hj]⟩
theorem zH0 {p : Nat -> Bool} {n : Nat} (hno : ∀ j, j < n -> p j = false) : (List.range n).find? p = none := by
 rw [List.find?_eq_none]
 intro j hj
 simp [hno j (List.mem_range.1 hj)]
theorem z8t (b : ByteArray) (w : World) (hT : Tabs ex w) :
  Calls tP 64 #[.string b] w fun e w' => e = rT (A C (z2t b)) /\ w' = w := by
 go_enter Tryz.func64, Tryz.ntmps64
 go_wp2_with (apply zAu hT)
 go_loop [6] (fun i => ∃ k : Nat, k <= 29 /\ i = A C k /\ ∀ j : Nat, j < k -> zBq j ≠ b) (fun i => 29 - (intOf i).toNat)
 case atStart => exact ⟨0, by omega, rfl, fun j hj => absurd hj (Nat.not_lt_zero _)⟩
 case round =>
  obtain ⟨k, hk, rfl, hno⟩ := hrel
  by_cases hlt : k < 29
  ·have hix := zJ5 k hlt
   by_cases hb : zBq k = b
   ·have HC : Hid (z2t b = k) := by
     show z2t b = k
     unfold z2t
     rw [zDa hlt (fun j hj => by simpa using hno j hj) (by simpa using hb)]; rfl
    have hq : ((zBq k).toList == b.toList) = true := by rw [hb]; simp
    clear hb hno
    go_wp2
    go_ret
    exact ⟨by rw [HC.out]; rfl, rfl⟩
   ·have hq := z6c hb
    have HB : Hid (zBq k ≠ b) := hb
    clear hb
    go_wp2
    go_round
    case rel => exact ⟨k + 1, by omega, by go_num, fun j hj => by
     rcases Nat.lt_succ_iff_lt_or_eq.1 hj with h | h
     ·exact hno j h
     ·rw [h]; exact HB.out⟩
    case measure => simp [intOf]; omega
  ·have hkk : k = 29 := by omega
   subst hkk
   have HC : Hid (z2t b = 0) := by
    show z2t b = 0
    unfold z2t
    rw [zH0 (fun j hj => by simpa using hno j hj)]; rfl
   go_wp2
   go_ret
   exact ⟨by rw [HC.out]; rfl, rfl⟩
theorem zO2 (b : ByteArray) (w : World) (hT : Tabs ex w) :
  Calls tP 95 #[.string b] w fun e w' => e = rT (A C (callOf b)) /\ w' = w := by
 go_enter Tryz.func95, Tryz.ntmps95
 go_wp2_with (apply zAv hT)
 go_loop [6] (fun i => ∃ k : Nat, k <= 4 /\ i = A C k /\ ∀ j : Nat, j < k -> zF7 j ≠ b) (fun i => 4 - (intOf i).toNat)
 case atStart => exact ⟨0, by omega, rfl, fun j hj => absurd hj (Nat.not_lt_zero _)⟩
 case round =>
  obtain ⟨k, hk, rfl, hno⟩ := hrel
  by_cases hlt : k < 4
  ·have hix := zJ6 k hlt
   by_cases hb : zF7 k = b
   ·have HC : Hid (callOf b = k) := by
     show callOf b = k
     unfold callOf
     rw [zDa hlt (fun j hj => by simpa using hno j hj) (by simpa using hb)]; rfl
    have hq : ((zF7 k).toList == b.toList) = true := by rw [hb]; simp
    clear hb hno
    go_wp2
    go_ret
    exact ⟨by rw [HC.out]; rfl, rfl⟩
   ·have hq := z6c hb
    have HB : Hid (zF7 k ≠ b) := hb
    clear hb
    go_wp2
    go_round
    case rel => exact ⟨k + 1, by omega, by go_num, fun j hj => by
     rcases Nat.lt_succ_iff_lt_or_eq.1 hj with h | h
     ·exact hno j h
     ·rw [h]; exact HB.out⟩
    case measure => simp [intOf]; omega
  ·have hkk : k = 4 := by omega
   subst hkk
   have HC : Hid (callOf b = 0) := by
    show callOf b = 0
    unfold callOf
    rw [zH0 (fun j hj => by simpa using hno j hj)]; rfl
   go_wp2
   go_ret
   exact ⟨by rw [HC.out]; rfl, rfl⟩
end Go.Proofs.YtbimlalhodibjaaGreatDoor
