/-
  What the shelf's contracts say of this program's own numbers: the layings that the proofs use. Conditions: none. The words of a program's text: what numbers, registers, places, seconds and steps are as bytes; what asm.numberWord, registerWord, placeWord, parts and tell return, and what the document's num and its closure for places return; the world below is as it was. Conditions: the tables of names lie in memory as the program's text lays them, numbers are of 64 bits. Words that are read: a number is read where it stands as it would be written, and then it is that number; likewise a register and a place. Conditions: none. The small readers: what asm.number, offset, register, codeOf and callOf return; the world below is as it was. Conditions: the tables lie in memory, the library's two errors are errors, words are short. What asm.codeOf and callOf return: the number of the name, nought if there is none; the world is as it was. Conditions: the tables lie in memory. strings.IndexAny at the two signs: where the first of them is; the world below is as it was. Conditions: the text is short. What asm.place returns: the register and how far away, if the word is a place; the world below is as it was. Conditions: the tables lie in memory, the library's two errors are errors, the word is short.
-/
import Derived.Shelf.Strings.Builder1
import Derived.Shelf.Strings.Builder2
import Derived.Shelf.Strings.OnBuilder
import Derived.Shelf.Small.Utf8
import Derived.Shelf.Small.Strs
import Derived.Shelf.Small.Wraps
import Derived.Shelf.Strconv.Itoa0
import Derived.Shelf.Strconv.Itoa1
import Derived.Shelf.LaysM
import Derived.Shelf.Strconv.Itoa2
import Derived.Shelf.Strconv.Itoa3
import Derived.Shelf.Strconv.Itoa4
import Derived.Shelf.Strconv.ParseIntEmpty
import Derived.Shelf.Strconv.Clone
import Derived.Shelf.Strconv.SyntaxError
import Derived.Shelf.LaysC
import Derived.Shelf.Strconv.ToError
import Derived.Shelf.Strconv.Lower
import Derived.Shelf.Strconv.ParseUint10
import Derived.Shelf.Strconv.ParseUint10Empty
import Derived.Shelf.Strconv.ParseUint10Any
import Derived.Shelf.Strconv.ParseInt10
import Derived.Shelf.Strconv.RangeError
import Derived.Shelf.Strconv.ToErrorRange
import Derived.Shelf.Strconv.ParseUintEmpty
import Derived.Shelf.Strconv.ParseUint10b64
import Derived.Shelf.Strconv.ParseUint10b32
import Derived.Shelf.Strconv.ParseUint10b16
import Derived.Shelf.Strconv.ParseUint10b8
import Derived.Shelf.Strconv.ParseUint10At
import Derived.Shelf.Strconv.ParseInt10At64
import Derived.Shelf.Strconv.ParseInt10At32
import Derived.Shelf.Strconv.ParseInt10At16
import Derived.Shelf.Strconv.ParseInt10At8
import Derived.Shelf.Strconv.ParseInt10All
import Derived.Shelf.Strconv.ParseIntPublic10
import Derived.Shelf.Strconv.ErrVarParseInt
import Derived.Shelf.Strings.Search1
import Derived.Shelf.Strings.Search2
import Derived.Shelf.Strings.Search3
import Derived.Shelf.Strings.Count
import Derived.Shelf.Strings.Shaped
import Derived.Shelf.Strings.Prefix
import Derived.Shelf.Strings.Split
import Derived.Shelf.Strings.SplitShaped
import Derived.Shelf.Unicode.Decode
import Derived.Shelf.Strings.Runes
import Derived.Shelf.Strings.IndexAny
import Derived.Shelf.Strings.AsciiSet
import Derived.Shelf.Strings.IndexAnyAll
import Derived.Shelf.Unicode.DecodeSlow
import Derived.Shelf.Unicode.DecodeAny
import Derived.Test.YtednmkhdehlojaaGreatDoorProg
import Derived.Test.YtednmkhdehlojaaGreatDoorJs4
import Derived.Deep.QuietTactic
import Derived.BigQuiet
import Derived.Lib.ParseIntB
import Derived.Deep.MidRow
import Derived.Laws.RangeAny
import Derived.WalkMore
import Derived.LoopN
import Derived.RegionTactic
import Derived.Deep.RegionWith
import Derived.Lib.OthersKept
open Go.Value renaming int → vI
open Go.IntKind renaming i64 → vK
open Go.RowKit.Below renaming alloc → bA, setCell → bS, drew → bD, refl → bF
set_option maxHeartbeats 4000000
set_option maxRecDepth 1000000
namespace Go.Proofs
open Go.Shelf
def Tryz.lays156_ren : Go.Shelf.Ren := ⟨fun | 156 => 31 | 165 => 58 | 166 => 59 | 169 => 60 | 240 => 98 | 241 => 99 | 276 => 137 | 277 => 138 | n => n, fun | 31 => 64 | 9 => 9 | 3 => 3 | 4 => 4 | 0 => 0 | 20 => 20 | 72 => 134 | 76 => 136 | 70 => 131 | 37 => 132 | 75 => 29 | 127 => 184 | 164 => 157 | 5 => 5 | 80 => 138 | n => n, fun | n => n⟩
theorem Tryz.lays156 : Go.Proofs.Lays.n156 Tryz.prog Tryz.lays156_ren := {
  mixed := by kernel_rfl
  f156 := Tryz.func31.trans (congrArg some (by kernel_rfl))
  f165 := Tryz.func58.trans (congrArg some (by kernel_rfl))
  f166 := Tryz.func59.trans (congrArg some (by kernel_rfl))
  f169 := Tryz.func60.trans (congrArg some (by kernel_rfl))
  f240 := Tryz.func98.trans (congrArg some (by kernel_rfl))
  f241 := Tryz.func99.trans (congrArg some (by kernel_rfl))
  f276 := Tryz.func137.trans (congrArg some (by kernel_rfl))
  f277 := Tryz.func138.trans (congrArg some (by kernel_rfl))
  t0 := Tryz.underlying0
  a0 := Tryz.isAgg0
  z0 := Tryz.sizeOf0
  v0 := Tryz.zeroValue0
  t3 := Tryz.underlying3
  a3 := Tryz.isAgg3
  z3 := Tryz.sizeOf3
  v3 := Tryz.zeroValue3
  t4 := Tryz.underlying4
  a4 := Tryz.isAgg4
  z4 := Tryz.sizeOf4
  v4 := Tryz.zeroValue4
  t9 := Tryz.underlying9
  a9 := Tryz.isAgg9
  z9 := Tryz.sizeOf9
  v9 := Tryz.zeroValue9
  t20 := Tryz.underlying20
  a20 := Tryz.isAgg20
  z20 := Tryz.sizeOf20
  v20 := Tryz.zeroValue20
  t31 := Tryz.underlying64
  a31 := Tryz.isAgg64
  z31 := Tryz.sizeOf64
  v31 := Tryz.zeroValue64
  t37 := Tryz.underlying132
  a37 := Tryz.isAgg132
  z37 := Tryz.sizeOf132
  v37 := Tryz.zeroValue132
  t70 := Tryz.underlying131
  a70 := Tryz.isAgg131
  z70 := Tryz.sizeOf131
  v70 := Tryz.zeroValue131
  t72 := Tryz.underlying134
  a72 := Tryz.isAgg134
  z72 := Tryz.sizeOf134
  v72 := Tryz.zeroValue134
  t75 := Tryz.underlying29
  a75 := Tryz.isAgg29
  z75 := Tryz.sizeOf29
  v75 := Tryz.zeroValue29
  t76 := Tryz.underlying136
  a76 := Tryz.isAgg136
  z76 := Tryz.sizeOf136
  v76 := Tryz.zeroValue136
  t127 := Tryz.underlying184
  a127 := Tryz.isAgg184
  z127 := Tryz.sizeOf184
  v127 := Tryz.zeroValue184
  t164 := Tryz.underlying157
  a164 := Tryz.isAgg157
  z164 := Tryz.sizeOf157
  v164 := Tryz.zeroValue157 }
theorem Tryz.Builder_Extra_156 : Builder.Extra Tryz.prog Tryz.lays156_ren := {
  sizeBuilder := by kernel_rfl
  liesBuilder := by kernel_rfl
  t5 := Tryz.underlying5
  a5 := Tryz.isAgg5
  z5 := Tryz.sizeOf5
  v5 := Tryz.zeroValue5
  infoByte := by kernel_rfl
  cellsByte := by kernel_rfl
  sizeByte := by kernel_rfl
  neB5 := by decide }
open Go.RowKit in
theorem Tryz.strings_Join_none (a : Option Addr) (c : Nat) (sep : ByteArray) (w : World) :
    Calls Tryz.prog 31 #[.slice a 0 c, .string sep] w fun e w' => e = .returned (.string ⟨#[]⟩) ∧ w' = w := Any.strings_Join_none Tryz.lays156 Tryz.Builder_Extra_156 a c sep w
open Go.RowKit in
theorem Tryz.strings_Join (bk o c : Nat) (xs : List ByteArray) (sep : ByteArray) (w : World) (hcells : ∀ (j : Nat) x, xs[j]? = some x → w.cell? ⟨bk, o + j, none⟩ = some (.string x)) (hbk : bk < w.heap.size) (hN : xs.length ≤ 140737488355328) (hcap : xs.length ≤ c) (hlen : (Lib.join (xs.map (·.data.toList)) sep.data.toList).length ≤ 140737488355328) :
    Calls Tryz.prog 31 #[.slice (some ⟨bk, o, none⟩) xs.length c, .string sep] w fun e w' => e = .returned (.string ⟨(Lib.join (xs.map (·.data.toList)) sep.data.toList).toArray⟩) ∧ Below w.heap.size w w' := Any.strings_Join Tryz.lays156 Tryz.Builder_Extra_156 bk o c xs sep w hcells hbk hN hcap hlen
def Tryz.lays103_ren : Go.Shelf.Ren := ⟨fun | 103 => 132 | 210 => 171 | 206 => 128 | n => n, fun | 9 => 9 | 4 => 4 | 24 => 210 | 3 => 3 | n => n, fun | n => n⟩
theorem Tryz.lays103 : Go.Proofs.Lays.n103 Tryz.prog Tryz.lays103_ren := {
  mixed := by kernel_rfl
  f103 := Tryz.func132.trans (congrArg some (by kernel_rfl))
  f206 := Tryz.func128.trans (congrArg some (by kernel_rfl))
  f210 := Tryz.func171.trans (congrArg some (by kernel_rfl))
  t3 := Tryz.underlying3
  a3 := Tryz.isAgg3
  z3 := Tryz.sizeOf3
  v3 := Tryz.zeroValue3
  t4 := Tryz.underlying4
  a4 := Tryz.isAgg4
  z4 := Tryz.sizeOf4
  v4 := Tryz.zeroValue4
  t9 := Tryz.underlying9
  a9 := Tryz.isAgg9
  z9 := Tryz.sizeOf9
  v9 := Tryz.zeroValue9
  t24 := Tryz.underlying210
  a24 := Tryz.isAgg210
  z24 := Tryz.sizeOf210
  v24 := Tryz.zeroValue210 }
open Go.RowKit in
theorem Tryz.strings_CutPrefix (s p : ByteArray) (w : World) :
    Calls Tryz.prog 132 #[.string s, .string p] w fun e w' => e = .returned (.tuple #[.string ⟨(Lib.trimPrefix s.data.toList p.data.toList).toArray⟩, .bool (Lib.hasPrefix s.data.toList p.data.toList)]) ∧ w' = w := Any.strings_CutPrefix Tryz.lays103 s p w
def Tryz.lays104_ren : Go.Shelf.Ren := ⟨fun | 104 => 133 | 211 => 172 | 207 => 129 | n => n, fun | 9 => 9 | 4 => 4 | 24 => 210 | 3 => 3 | n => n, fun | n => n⟩
theorem Tryz.lays104 : Go.Proofs.Lays.n104 Tryz.prog Tryz.lays104_ren := {
  mixed := by kernel_rfl
  f104 := Tryz.func133.trans (congrArg some (by kernel_rfl))
  f207 := Tryz.func129.trans (congrArg some (by kernel_rfl))
  f211 := Tryz.func172.trans (congrArg some (by kernel_rfl))
  t3 := Tryz.underlying3
  a3 := Tryz.isAgg3
  z3 := Tryz.sizeOf3
  v3 := Tryz.zeroValue3
  t4 := Tryz.underlying4
  a4 := Tryz.isAgg4
  z4 := Tryz.sizeOf4
  v4 := Tryz.zeroValue4
  t9 := Tryz.underlying9
  a9 := Tryz.isAgg9
  z9 := Tryz.sizeOf9
  v9 := Tryz.zeroValue9
  t24 := Tryz.underlying210
  a24 := Tryz.isAgg210
  z24 := Tryz.sizeOf210
  v24 := Tryz.zeroValue210 }
open Go.RowKit in
theorem Tryz.strings_CutSuffix (s p : ByteArray) (w : World) (hs : s.size ≤ 9223372036854775807) :
    Calls Tryz.prog 133 #[.string s, .string p] w fun e w' => e = .returned (.tuple #[.string ⟨(Lib.trimSuffix s.data.toList p.data.toList).toArray⟩, .bool (Lib.hasSuffix s.data.toList p.data.toList)]) ∧ w' = w := Any.strings_CutSuffix Tryz.lays104 s p w hs
def Tryz.laysM171_ren : Go.Shelf.Ren := ⟨fun | 171 => 136 | 243 => 178 | 246 => 165 | 283 => 188 | 284 => 189 | 285 => 190 | 286 => 191 | 129 => 210 | 317 => 209 | 318 => 211 | 319 => 212 | 320 => 213 | 337 => 221 | 338 => 222 | n => n, fun | 3 => 3 | 9 => 9 | 2 => 2 | 4 => 4 | 171 => 268 | 0 => 0 | 53 => 245 | 37 => 132 | 5 => 5 | 173 => 271 | 212 => 290 | 51 => 265 | 20 => 20 | 213 => 291 | 46 => 243 | 232 => 302 | 233 => 303 | n => n, fun | 17 => 11 | 18 => 12 | 19 => 13 | n => n⟩
theorem Tryz.laysM171 : Go.Proofs.LaysM.n171 Tryz.prog Tryz.laysM171_ren := {
  mixed := by kernel_rfl
  f129 := Tryz.func210.trans (congrArg some (by kernel_rfl))
  f171 := Tryz.func136.trans (congrArg some (by kernel_rfl))
  f243 := Tryz.func178.trans (congrArg some (by kernel_rfl))
  f246 := Tryz.func165.trans (congrArg some (by kernel_rfl))
  f283 := Tryz.func188.trans (congrArg some (by kernel_rfl))
  f284 := Tryz.func189.trans (congrArg some (by kernel_rfl))
  f285 := Tryz.func190.trans (congrArg some (by kernel_rfl))
  f286 := Tryz.func191.trans (congrArg some (by kernel_rfl))
  f317 := Tryz.func209.trans (congrArg some (by kernel_rfl))
  f318 := Tryz.func211.trans (congrArg some (by kernel_rfl))
  f319 := Tryz.func212.trans (congrArg some (by kernel_rfl))
  f320 := Tryz.func213.trans (congrArg some (by kernel_rfl))
  f337 := Tryz.func221.trans (congrArg some (by kernel_rfl))
  f338 := Tryz.func222.trans (congrArg some (by kernel_rfl))
  t0 := Tryz.underlying0
  a0 := Tryz.isAgg0
  z0 := Tryz.sizeOf0
  v0 := Tryz.zeroValue0
  t2 := Tryz.underlying2
  a2 := Tryz.isAgg2
  z2 := Tryz.sizeOf2
  v2 := Tryz.zeroValue2
  t3 := Tryz.underlying3
  a3 := Tryz.isAgg3
  z3 := Tryz.sizeOf3
  v3 := Tryz.zeroValue3
  t4 := Tryz.underlying4
  a4 := Tryz.isAgg4
  z4 := Tryz.sizeOf4
  v4 := Tryz.zeroValue4
  t5 := Tryz.underlying5
  a5 := Tryz.isAgg5
  z5 := Tryz.sizeOf5
  v5 := Tryz.zeroValue5
  t9 := Tryz.underlying9
  a9 := Tryz.isAgg9
  z9 := Tryz.sizeOf9
  v9 := Tryz.zeroValue9
  t20 := Tryz.underlying20
  a20 := Tryz.isAgg20
  z20 := Tryz.sizeOf20
  v20 := Tryz.zeroValue20
  t37 := Tryz.underlying132
  a37 := Tryz.isAgg132
  z37 := Tryz.sizeOf132
  v37 := Tryz.zeroValue132
  t46 := Tryz.underlying243
  a46 := Tryz.isAgg243
  z46 := Tryz.sizeOf243
  v46 := Tryz.zeroValue243
  t51 := Tryz.underlying265
  a51 := Tryz.isAgg265
  z51 := Tryz.sizeOf265
  v51 := Tryz.zeroValue265
  t53 := Tryz.underlying245
  a53 := Tryz.isAgg245
  z53 := Tryz.sizeOf245
  v53 := Tryz.zeroValue245
  t171 := Tryz.underlying268
  a171 := Tryz.isAgg268
  z171 := Tryz.sizeOf268
  v171 := Tryz.zeroValue268
  t173 := Tryz.underlying271
  a173 := Tryz.isAgg271
  z173 := Tryz.sizeOf271
  v173 := Tryz.zeroValue271
  t212 := Tryz.underlying290
  a212 := Tryz.isAgg290
  z212 := Tryz.sizeOf290
  v212 := Tryz.zeroValue290
  t213 := Tryz.underlying291
  a213 := Tryz.isAgg291
  z213 := Tryz.sizeOf291
  t232 := Tryz.underlying302
  a232 := Tryz.isAgg302
  z232 := Tryz.sizeOf302
  v232 := Tryz.zeroValue302
  t233 := Tryz.underlying303
  a233 := Tryz.isAgg303
  z233 := Tryz.sizeOf303
  v233 := Tryz.zeroValue303
  g17 := by kernel_rfl
  g18 := by kernel_rfl
  g19 := by kernel_rfl
  i0 := by kernel_rfl
  i2 := by kernel_rfl
  i3 := by kernel_rfl
  i4 := by kernel_rfl
  i5 := by kernel_rfl
  i9 := by kernel_rfl
  i20 := by kernel_rfl
  i37 := by kernel_rfl
  i46 := by kernel_rfl
  i51 := by kernel_rfl
  i53 := by kernel_rfl
  i171 := by kernel_rfl
  i173 := by kernel_rfl
  i212 := by kernel_rfl
  i232 := by kernel_rfl
  i233 := by kernel_rfl
  m17 := by kernel_rfl
  m18 := by kernel_rfl
  m19 := by kernel_rfl }
open Go.RowKit Go.Sort Go.Lib in
theorem Tryz.strconv_Itoa (n : Int) (h0 : -9223372036854775808 ≤ n) (h1 : n ≤ 9223372036854775807) (w : World) (htab : Lib.TabIs Tryz.prog w "internal/strconv.uint64pow10" .u64 Lib.pow10Tab) :
    Calls Tryz.prog 136 #[.int .i64 n] w fun e w' => e = .returned (.string ⟨(Lib.itoa n).toArray⟩) ∧ ∃ k os, w' = grow (w.drewN k) os := Any.strconv_Itoa Tryz.laysM171 n h0 h1 w htab
def Tryz.laysM173_ren : Go.Shelf.Ren := ⟨fun | 173 => 125 | 246 => 165 | 283 => 188 | 284 => 189 | 285 => 190 | 286 => 191 | 129 => 210 | 317 => 209 | 318 => 211 | 319 => 212 | 320 => 213 | 337 => 221 | 338 => 222 | n => n, fun | 2 => 2 | 3 => 3 | 9 => 9 | 4 => 4 | 171 => 268 | 0 => 0 | 53 => 245 | 37 => 132 | 5 => 5 | 173 => 271 | 212 => 290 | 51 => 265 | 20 => 20 | 213 => 291 | 46 => 243 | 232 => 302 | 233 => 303 | n => n, fun | 17 => 11 | 18 => 12 | 19 => 13 | n => n⟩
theorem Tryz.laysM173 : Go.Proofs.LaysM.n173 Tryz.prog Tryz.laysM173_ren := {
  mixed := by kernel_rfl
  f129 := Tryz.func210.trans (congrArg some (by kernel_rfl))
  f173 := Tryz.func125.trans (congrArg some (by kernel_rfl))
  f246 := Tryz.func165.trans (congrArg some (by kernel_rfl))
  f283 := Tryz.func188.trans (congrArg some (by kernel_rfl))
  f284 := Tryz.func189.trans (congrArg some (by kernel_rfl))
  f285 := Tryz.func190.trans (congrArg some (by kernel_rfl))
  f286 := Tryz.func191.trans (congrArg some (by kernel_rfl))
  f317 := Tryz.func209.trans (congrArg some (by kernel_rfl))
  f318 := Tryz.func211.trans (congrArg some (by kernel_rfl))
  f319 := Tryz.func212.trans (congrArg some (by kernel_rfl))
  f320 := Tryz.func213.trans (congrArg some (by kernel_rfl))
  f337 := Tryz.func221.trans (congrArg some (by kernel_rfl))
  f338 := Tryz.func222.trans (congrArg some (by kernel_rfl))
  t0 := Tryz.underlying0
  a0 := Tryz.isAgg0
  z0 := Tryz.sizeOf0
  v0 := Tryz.zeroValue0
  t2 := Tryz.underlying2
  a2 := Tryz.isAgg2
  z2 := Tryz.sizeOf2
  v2 := Tryz.zeroValue2
  t3 := Tryz.underlying3
  a3 := Tryz.isAgg3
  z3 := Tryz.sizeOf3
  v3 := Tryz.zeroValue3
  t4 := Tryz.underlying4
  a4 := Tryz.isAgg4
  z4 := Tryz.sizeOf4
  v4 := Tryz.zeroValue4
  t5 := Tryz.underlying5
  a5 := Tryz.isAgg5
  z5 := Tryz.sizeOf5
  v5 := Tryz.zeroValue5
  t9 := Tryz.underlying9
  a9 := Tryz.isAgg9
  z9 := Tryz.sizeOf9
  v9 := Tryz.zeroValue9
  t20 := Tryz.underlying20
  a20 := Tryz.isAgg20
  z20 := Tryz.sizeOf20
  v20 := Tryz.zeroValue20
  t37 := Tryz.underlying132
  a37 := Tryz.isAgg132
  z37 := Tryz.sizeOf132
  v37 := Tryz.zeroValue132
  t46 := Tryz.underlying243
  a46 := Tryz.isAgg243
  z46 := Tryz.sizeOf243
  v46 := Tryz.zeroValue243
  t51 := Tryz.underlying265
  a51 := Tryz.isAgg265
  z51 := Tryz.sizeOf265
  v51 := Tryz.zeroValue265
  t53 := Tryz.underlying245
  a53 := Tryz.isAgg245
  z53 := Tryz.sizeOf245
  v53 := Tryz.zeroValue245
  t171 := Tryz.underlying268
  a171 := Tryz.isAgg268
  z171 := Tryz.sizeOf268
  v171 := Tryz.zeroValue268
  t173 := Tryz.underlying271
  a173 := Tryz.isAgg271
  z173 := Tryz.sizeOf271
  v173 := Tryz.zeroValue271
  t212 := Tryz.underlying290
  a212 := Tryz.isAgg290
  z212 := Tryz.sizeOf290
  v212 := Tryz.zeroValue290
  t213 := Tryz.underlying291
  a213 := Tryz.isAgg291
  z213 := Tryz.sizeOf291
  t232 := Tryz.underlying302
  a232 := Tryz.isAgg302
  z232 := Tryz.sizeOf302
  v232 := Tryz.zeroValue302
  t233 := Tryz.underlying303
  a233 := Tryz.isAgg303
  z233 := Tryz.sizeOf303
  v233 := Tryz.zeroValue303
  g17 := by kernel_rfl
  g18 := by kernel_rfl
  g19 := by kernel_rfl
  i0 := by kernel_rfl
  i2 := by kernel_rfl
  i3 := by kernel_rfl
  i4 := by kernel_rfl
  i5 := by kernel_rfl
  i9 := by kernel_rfl
  i20 := by kernel_rfl
  i37 := by kernel_rfl
  i46 := by kernel_rfl
  i51 := by kernel_rfl
  i53 := by kernel_rfl
  i171 := by kernel_rfl
  i173 := by kernel_rfl
  i212 := by kernel_rfl
  i232 := by kernel_rfl
  i233 := by kernel_rfl
  m17 := by kernel_rfl
  m18 := by kernel_rfl
  m19 := by kernel_rfl }
open Go.RowKit Go.Sort Go.Lib in
theorem Tryz.strconv_FormatInt_10 (n : Int) (h0 : -9223372036854775808 ≤ n) (h1 : n ≤ 9223372036854775807) (w : World) (htab : Lib.TabIs Tryz.prog w "internal/strconv.uint64pow10" .u64 Lib.pow10Tab) :
    Calls Tryz.prog 125 #[.int .i64 n, .int .i64 10] w fun e w' => e = .returned (.string ⟨(Lib.itoa n).toArray⟩) ∧ ∃ k os, w' = grow (w.drewN k) os := Any.strconv_FormatInt_10 Tryz.laysM173 n h0 h1 w htab
def Tryz.laysC174_ren : Go.Shelf.Ren := ⟨fun | 174 => 82 | 247 => 126 | 245 => 127 | 287 => 166 | 279 => 167 | 280 => 168 | 281 => 169 | 282 => 170 | 321 => 192 | 322 => 193 | 316 => 194 | 171 => 136 | 205 => 195 | 243 => 178 | 246 => 165 | 283 => 188 | 284 => 189 | 285 => 190 | 286 => 191 | 129 => 210 | 317 => 209 | 318 => 211 | 319 => 212 | 320 => 213 | 337 => 221 | 338 => 222 | n => n, fun | 9 => 9 | 3 => 3 | 2 => 2 | 75 => 29 | 85 => 175 | 4 => 4 | 167 => 244 | 5 => 5 | 53 => 245 | 175 => 246 | 46 => 243 | 168 => 248 | 37 => 132 | 0 => 0 | 210 => 276 | 21 => 21 | 127 => 184 | 145 => 295 | 143 => 293 | 171 => 268 | 173 => 271 | 212 => 290 | 51 => 265 | 20 => 20 | 213 => 291 | 232 => 302 | 233 => 303 | 80 => 138 | n => n, fun | 15 => 9 | 16 => 10 | 17 => 11 | 18 => 12 | 19 => 13 | n => n⟩
theorem Tryz.laysC174 : Go.Proofs.LaysC.n174 Tryz.prog Tryz.laysC174_ren := {
  mixed := by kernel_rfl
  f129 := Tryz.func210.trans (congrArg some (by kernel_rfl))
  f171 := Tryz.func136.trans (congrArg some (by kernel_rfl))
  f174 := Tryz.func82.trans (congrArg some (by kernel_rfl))
  f205 := Tryz.func195.trans (congrArg some (by kernel_rfl))
  f243 := Tryz.func178.trans (congrArg some (by kernel_rfl))
  f245 := Tryz.func127.trans (congrArg some (by kernel_rfl))
  f246 := Tryz.func165.trans (congrArg some (by kernel_rfl))
  f247 := Tryz.func126.trans (congrArg some (by kernel_rfl))
  f279 := Tryz.func167.trans (congrArg some (by kernel_rfl))
  f280 := Tryz.func168.trans (congrArg some (by kernel_rfl))
  f281 := Tryz.func169.trans (congrArg some (by kernel_rfl))
  f282 := Tryz.func170.trans (congrArg some (by kernel_rfl))
  f283 := Tryz.func188.trans (congrArg some (by kernel_rfl))
  f284 := Tryz.func189.trans (congrArg some (by kernel_rfl))
  f285 := Tryz.func190.trans (congrArg some (by kernel_rfl))
  f286 := Tryz.func191.trans (congrArg some (by kernel_rfl))
  f287 := Tryz.func166.trans (congrArg some (by kernel_rfl))
  f316 := Tryz.func194.trans (congrArg some (by kernel_rfl))
  f317 := Tryz.func209.trans (congrArg some (by kernel_rfl))
  f318 := Tryz.func211.trans (congrArg some (by kernel_rfl))
  f319 := Tryz.func212.trans (congrArg some (by kernel_rfl))
  f320 := Tryz.func213.trans (congrArg some (by kernel_rfl))
  f321 := Tryz.func192.trans (congrArg some (by kernel_rfl))
  f322 := Tryz.func193.trans (congrArg some (by kernel_rfl))
  f337 := Tryz.func221.trans (congrArg some (by kernel_rfl))
  f338 := Tryz.func222.trans (congrArg some (by kernel_rfl))
  t0 := Tryz.underlying0
  a0 := Tryz.isAgg0
  z0 := Tryz.sizeOf0
  v0 := Tryz.zeroValue0
  t2 := Tryz.underlying2
  a2 := Tryz.isAgg2
  z2 := Tryz.sizeOf2
  v2 := Tryz.zeroValue2
  t3 := Tryz.underlying3
  a3 := Tryz.isAgg3
  z3 := Tryz.sizeOf3
  v3 := Tryz.zeroValue3
  t4 := Tryz.underlying4
  a4 := Tryz.isAgg4
  z4 := Tryz.sizeOf4
  v4 := Tryz.zeroValue4
  t5 := Tryz.underlying5
  a5 := Tryz.isAgg5
  z5 := Tryz.sizeOf5
  v5 := Tryz.zeroValue5
  t9 := Tryz.underlying9
  a9 := Tryz.isAgg9
  z9 := Tryz.sizeOf9
  v9 := Tryz.zeroValue9
  t20 := Tryz.underlying20
  a20 := Tryz.isAgg20
  z20 := Tryz.sizeOf20
  v20 := Tryz.zeroValue20
  t21 := Tryz.underlying21
  a21 := Tryz.isAgg21
  z21 := Tryz.sizeOf21
  v21 := Tryz.zeroValue21
  t37 := Tryz.underlying132
  a37 := Tryz.isAgg132
  z37 := Tryz.sizeOf132
  v37 := Tryz.zeroValue132
  t46 := Tryz.underlying243
  a46 := Tryz.isAgg243
  z46 := Tryz.sizeOf243
  v46 := Tryz.zeroValue243
  t51 := Tryz.underlying265
  a51 := Tryz.isAgg265
  z51 := Tryz.sizeOf265
  v51 := Tryz.zeroValue265
  t53 := Tryz.underlying245
  a53 := Tryz.isAgg245
  z53 := Tryz.sizeOf245
  v53 := Tryz.zeroValue245
  t75 := Tryz.underlying29
  a75 := Tryz.isAgg29
  z75 := Tryz.sizeOf29
  v75 := Tryz.zeroValue29
  t85 := Tryz.underlying175
  a85 := Tryz.isAgg175
  z85 := Tryz.sizeOf175
  v85 := Tryz.zeroValue175
  t127 := Tryz.underlying184
  a127 := Tryz.isAgg184
  z127 := Tryz.sizeOf184
  v127 := Tryz.zeroValue184
  t143 := Tryz.underlying293
  a143 := Tryz.isAgg293
  z143 := Tryz.sizeOf293
  v143 := Tryz.zeroValue293
  t145 := Tryz.underlying295
  a145 := Tryz.isAgg295
  z145 := Tryz.sizeOf295
  v145 := Tryz.zeroValue295
  t167 := Tryz.underlying244
  a167 := Tryz.isAgg244
  z167 := Tryz.sizeOf244
  v167 := Tryz.zeroValue244
  t168 := Tryz.underlying248
  a168 := Tryz.isAgg248
  z168 := Tryz.sizeOf248
  v168 := Tryz.zeroValue248
  t171 := Tryz.underlying268
  a171 := Tryz.isAgg268
  z171 := Tryz.sizeOf268
  v171 := Tryz.zeroValue268
  t173 := Tryz.underlying271
  a173 := Tryz.isAgg271
  z173 := Tryz.sizeOf271
  v173 := Tryz.zeroValue271
  t175 := Tryz.underlying246
  a175 := Tryz.isAgg246
  z175 := Tryz.sizeOf246
  v175 := Tryz.zeroValue246
  t210 := Tryz.underlying276
  a210 := Tryz.isAgg276
  z210 := Tryz.sizeOf276
  v210 := Tryz.zeroValue276
  t212 := Tryz.underlying290
  a212 := Tryz.isAgg290
  z212 := Tryz.sizeOf290
  v212 := Tryz.zeroValue290
  t213 := Tryz.underlying291
  a213 := Tryz.isAgg291
  z213 := Tryz.sizeOf291
  t232 := Tryz.underlying302
  a232 := Tryz.isAgg302
  z232 := Tryz.sizeOf302
  v232 := Tryz.zeroValue302
  t233 := Tryz.underlying303
  a233 := Tryz.isAgg303
  z233 := Tryz.sizeOf303
  v233 := Tryz.zeroValue303
  g15 := by kernel_rfl
  g16 := by kernel_rfl
  g17 := by kernel_rfl
  g18 := by kernel_rfl
  g19 := by kernel_rfl
  t80 := Tryz.underlying138
  a80 := Tryz.isAgg138
  z80 := Tryz.sizeOf138
  v80 := Tryz.zeroValue138
  i0 := by kernel_rfl
  i2 := by kernel_rfl
  i3 := by kernel_rfl
  i4 := by kernel_rfl
  i5 := by kernel_rfl
  i9 := by kernel_rfl
  i20 := by kernel_rfl
  i21 := by kernel_rfl
  i37 := by kernel_rfl
  i46 := by kernel_rfl
  i51 := by kernel_rfl
  i53 := by kernel_rfl
  i75 := by kernel_rfl
  i80 := by kernel_rfl
  i85 := by kernel_rfl
  i127 := by kernel_rfl
  i143 := by kernel_rfl
  i145 := by kernel_rfl
  i167 := by kernel_rfl
  i168 := by kernel_rfl
  i171 := by kernel_rfl
  i173 := by kernel_rfl
  i175 := by kernel_rfl
  i210 := by kernel_rfl
  i212 := by kernel_rfl
  i232 := by kernel_rfl
  i233 := by kernel_rfl
  m15 := by kernel_rfl
  m16 := by kernel_rfl
  m17 := by kernel_rfl
  m18 := by kernel_rfl
  m19 := by kernel_rfl
  c0 := by kernel_rfl
  c2 := by kernel_rfl
  c3 := by kernel_rfl
  c4 := by kernel_rfl
  c5 := by kernel_rfl
  c9 := by kernel_rfl
  c20 := by kernel_rfl
  c21 := by kernel_rfl
  c37 := by kernel_rfl
  c46 := by kernel_rfl
  c51 := by kernel_rfl
  c53 := by kernel_rfl
  c75 := by kernel_rfl
  c80 := by kernel_rfl
  c85 := by kernel_rfl
  c127 := by kernel_rfl
  c143 := by kernel_rfl
  c145 := by kernel_rfl
  c167 := by kernel_rfl
  c168 := by kernel_rfl
  c171 := by kernel_rfl
  c173 := by kernel_rfl
  c175 := by kernel_rfl
  c210 := by kernel_rfl
  c212 := by kernel_rfl
  c213 := by kernel_rfl
  c232 := by kernel_rfl
  c233 := by kernel_rfl }
open Go.RowKit in
theorem Tryz.strconv_ParseInt_10_at64_ok (s : ByteArray) (hmax : s.size ≤ 9223372036854775806) (v : Int) (h : Lib.parseIntB 64 s.data.toList = .ok v) (w : World) :
    Calls Tryz.prog 82 #[.string s, .int .i64 10, .int .i64 64] w fun e w' => e = .returned (.tuple #[.int .i64 v, .nilIface]) ∧ (w' = w ∨ ∃ t, w' = Lib.bytesWorld w 5 t) := Any.strconv_ParseInt_10_at64_ok Tryz.laysC174 s hmax v h w
open Go.RowKit in
theorem Tryz.strconv_ParseInt_10_at64_syntax (s : ByteArray) (hlim : s.size ≤ 281474976710656) (h : Lib.parseIntB 64 s.data.toList = .«syntax») (ev : Value) (w : World) (hv : w.cell? ⟨9, 0, none⟩ = some ev) (hev : ev = .nilIface ∨ ∃ te pe, ev = .iface te pe) :
    Calls Tryz.prog 82 #[.string s, .int .i64 10, .int .i64 64] w fun e w' => ∃ N, e = .returned (.tuple #[.int .i64 (0), .iface 248 (.pointer (some ⟨N, 0, none⟩))]) ∧ w.heap.size ≤ N ∧ w'.heap[N]? = some (.cells #[.string ⟨#[80, 97, 114, 115, 101, 73, 110, 116]⟩, .string s, ev] 276 (0, 0)) ∧ Below w.heap.size w w' := Any.strconv_ParseInt_10_at64_syntax Tryz.laysC174 s hlim h ev w hv hev
open Go.RowKit in
theorem Tryz.strconv_ParseInt_10_at64_range (s : ByteArray) (hlim : s.size ≤ 281474976710656) (h : Lib.parseIntB 64 s.data.toList = .range) (ev : Value) (w : World) (hv : w.cell? ⟨10, 0, none⟩ = some ev) (hev : ev = .nilIface ∨ ∃ te pe, ev = .iface te pe) :
    Calls Tryz.prog 82 #[.string s, .int .i64 10, .int .i64 64] w fun e w' => ∃ N, e = .returned (.tuple #[.int .i64 (Lib.intSat 64 s.data.toList), .iface 248 (.pointer (some ⟨N, 0, none⟩))]) ∧ w.heap.size ≤ N ∧ w'.heap[N]? = some (.cells #[.string ⟨#[80, 97, 114, 115, 101, 73, 110, 116]⟩, .string s, ev] 276 (0, 0)) ∧ Below w.heap.size w w' := Any.strconv_ParseInt_10_at64_range Tryz.laysC174 s hlim h ev w hv hev
def Tryz.lays143_ren : Go.Shelf.Ren := ⟨fun | 143 => 80 | 219 => 124 | 217 => 161 | 225 => 162 | 224 => 163 | 267 => 164 | 266 => 186 | 314 => 187 | n => n, fun | 9 => 9 | 3 => 3 | 4 => 4 | 5 => 5 | 46 => 243 | 146 => 266 | 51 => 265 | n => n, fun | 1 => 6 | n => n⟩
theorem Tryz.lays143 : Go.Proofs.Lays.n143 Tryz.prog Tryz.lays143_ren := {
  mixed := by kernel_rfl
  f143 := Tryz.func80.trans (congrArg some (by kernel_rfl))
  f217 := Tryz.func161.trans (congrArg some (by kernel_rfl))
  f219 := Tryz.func124.trans (congrArg some (by kernel_rfl))
  f224 := Tryz.func163.trans (congrArg some (by kernel_rfl))
  f225 := Tryz.func162.trans (congrArg some (by kernel_rfl))
  f266 := Tryz.func186.trans (congrArg some (by kernel_rfl))
  f267 := Tryz.func164.trans (congrArg some (by kernel_rfl))
  f314 := Tryz.func187.trans (congrArg some (by kernel_rfl))
  t3 := Tryz.underlying3
  a3 := Tryz.isAgg3
  z3 := Tryz.sizeOf3
  v3 := Tryz.zeroValue3
  t4 := Tryz.underlying4
  a4 := Tryz.isAgg4
  z4 := Tryz.sizeOf4
  v4 := Tryz.zeroValue4
  t5 := Tryz.underlying5
  a5 := Tryz.isAgg5
  z5 := Tryz.sizeOf5
  v5 := Tryz.zeroValue5
  t9 := Tryz.underlying9
  a9 := Tryz.isAgg9
  z9 := Tryz.sizeOf9
  v9 := Tryz.zeroValue9
  t46 := Tryz.underlying243
  a46 := Tryz.isAgg243
  z46 := Tryz.sizeOf243
  v46 := Tryz.zeroValue243
  t51 := Tryz.underlying265
  a51 := Tryz.isAgg265
  z51 := Tryz.sizeOf265
  v51 := Tryz.zeroValue265
  t146 := Tryz.underlying266
  a146 := Tryz.isAgg266
  z146 := Tryz.sizeOf266
  v146 := Tryz.zeroValue266
  g1 := by kernel_rfl }
open Go.RowKit Go.Lib in
theorem Tryz.strings_Index_one (s : ByteArray) (c : UInt8) (w : World) :
    Calls Tryz.prog 80 #[.string s, .string ⟨#[c]⟩] w fun e w' => e = .returned (.int .i64 (Lib.indexByte s.data.toList c)) ∧ w' = w := Any.strings_Index_one Tryz.lays143 s c w
def Tryz.lays99_ren : Go.Shelf.Ren := ⟨fun | 99 => 83 | 206 => 128 | n => n, fun | 9 => 9 | 4 => 4 | 3 => 3 | n => n, fun | n => n⟩
theorem Tryz.lays99 : Go.Proofs.Lays.n99 Tryz.prog Tryz.lays99_ren := {
  mixed := by kernel_rfl
  f99 := Tryz.func83.trans (congrArg some (by kernel_rfl))
  f206 := Tryz.func128.trans (congrArg some (by kernel_rfl))
  t3 := Tryz.underlying3
  a3 := Tryz.isAgg3
  z3 := Tryz.sizeOf3
  v3 := Tryz.zeroValue3
  t4 := Tryz.underlying4
  a4 := Tryz.isAgg4
  z4 := Tryz.sizeOf4
  v4 := Tryz.zeroValue4
  t9 := Tryz.underlying9
  a9 := Tryz.isAgg9
  z9 := Tryz.sizeOf9
  v9 := Tryz.zeroValue9 }
open Go.RowKit Go.Lib in
theorem Tryz.strings_HasPrefix (s p : ByteArray) (w : World) :
    Calls Tryz.prog 83 #[.string s, .string p] w fun e w' => e = .returned (.bool (Lib.hasPrefix s.data.toList p.data.toList)) ∧ w' = w := Any.strings_HasPrefix Tryz.lays99 s p w
def Tryz.lays100_ren : Go.Shelf.Ren := ⟨fun | 100 => 84 | 207 => 129 | n => n, fun | 9 => 9 | 4 => 4 | 3 => 3 | n => n, fun | n => n⟩
theorem Tryz.lays100 : Go.Proofs.Lays.n100 Tryz.prog Tryz.lays100_ren := {
  mixed := by kernel_rfl
  f100 := Tryz.func84.trans (congrArg some (by kernel_rfl))
  f207 := Tryz.func129.trans (congrArg some (by kernel_rfl))
  t3 := Tryz.underlying3
  a3 := Tryz.isAgg3
  z3 := Tryz.sizeOf3
  v3 := Tryz.zeroValue3
  t4 := Tryz.underlying4
  a4 := Tryz.isAgg4
  z4 := Tryz.sizeOf4
  v4 := Tryz.zeroValue4
  t9 := Tryz.underlying9
  a9 := Tryz.isAgg9
  z9 := Tryz.sizeOf9
  v9 := Tryz.zeroValue9 }
open Go.RowKit Go.Lib in
theorem Tryz.strings_HasSuffix (s p : ByteArray) (w : World) (hs : s.size ≤ 9223372036854775807) :
    Calls Tryz.prog 84 #[.string s, .string p] w fun e w' => e = .returned (.bool (Lib.hasSuffix s.data.toList p.data.toList)) ∧ w' = w := Any.strings_HasSuffix Tryz.lays100 s p w hs
def Tryz.lays101_ren : Go.Shelf.Ren := ⟨fun | 101 => 135 | 208 => 177 | 206 => 128 | n => n, fun | 9 => 9 | 4 => 4 | 3 => 3 | n => n, fun | n => n⟩
theorem Tryz.lays101 : Go.Proofs.Lays.n101 Tryz.prog Tryz.lays101_ren := {
  mixed := by kernel_rfl
  f101 := Tryz.func135.trans (congrArg some (by kernel_rfl))
  f206 := Tryz.func128.trans (congrArg some (by kernel_rfl))
  f208 := Tryz.func177.trans (congrArg some (by kernel_rfl))
  t3 := Tryz.underlying3
  a3 := Tryz.isAgg3
  z3 := Tryz.sizeOf3
  v3 := Tryz.zeroValue3
  t4 := Tryz.underlying4
  a4 := Tryz.isAgg4
  z4 := Tryz.sizeOf4
  v4 := Tryz.zeroValue4
  t9 := Tryz.underlying9
  a9 := Tryz.isAgg9
  z9 := Tryz.sizeOf9
  v9 := Tryz.zeroValue9 }
open Go.RowKit Go.Lib in
theorem Tryz.strings_TrimPrefix (s p : ByteArray) (w : World) :
    Calls Tryz.prog 135 #[.string s, .string p] w fun e w' => e = .returned (.string ⟨(Lib.trimPrefix s.data.toList p.data.toList).toArray⟩) ∧ w' = w := Any.strings_TrimPrefix Tryz.lays101 s p w
def Tryz.lays146_ren : Go.Shelf.Ren := ⟨fun | 146 => 23 | 221 => 43 | 268 => 78 | 138 => 79 | 143 => 80 | 195 => 122 | 197 => 86 | 218 => 123 | 219 => 124 | 260 => 130 | 217 => 161 | 225 => 162 | 224 => 163 | 267 => 164 | 266 => 186 | 314 => 187 | n => n, fun | 9 => 9 | 31 => 64 | 3 => 3 | 4 => 4 | 0 => 0 | 105 => 178 | 21 => 21 | 5 => 5 | 46 => 243 | 119 => 251 | 139 => 254 | 138 => 253 | 146 => 266 | 51 => 265 | n => n, fun | 1 => 6 | 3 => 7 | 4 => 8 | n => n⟩
theorem Tryz.lays146 : Go.Proofs.Lays.n146 Tryz.prog Tryz.lays146_ren := {
  mixed := by kernel_rfl
  f138 := Tryz.func79.trans (congrArg some (by kernel_rfl))
  f143 := Tryz.func80.trans (congrArg some (by kernel_rfl))
  f146 := Tryz.func23.trans (congrArg some (by kernel_rfl))
  f195 := Tryz.func122.trans (congrArg some (by kernel_rfl))
  f197 := Tryz.func86.trans (congrArg some (by kernel_rfl))
  f217 := Tryz.func161.trans (congrArg some (by kernel_rfl))
  f218 := Tryz.func123.trans (congrArg some (by kernel_rfl))
  f219 := Tryz.func124.trans (congrArg some (by kernel_rfl))
  f221 := Tryz.func43.trans (congrArg some (by kernel_rfl))
  f224 := Tryz.func163.trans (congrArg some (by kernel_rfl))
  f225 := Tryz.func162.trans (congrArg some (by kernel_rfl))
  f260 := Tryz.func130.trans (congrArg some (by kernel_rfl))
  f266 := Tryz.func186.trans (congrArg some (by kernel_rfl))
  f267 := Tryz.func164.trans (congrArg some (by kernel_rfl))
  f268 := Tryz.func78.trans (congrArg some (by kernel_rfl))
  f314 := Tryz.func187.trans (congrArg some (by kernel_rfl))
  t0 := Tryz.underlying0
  a0 := Tryz.isAgg0
  z0 := Tryz.sizeOf0
  v0 := Tryz.zeroValue0
  t3 := Tryz.underlying3
  a3 := Tryz.isAgg3
  z3 := Tryz.sizeOf3
  v3 := Tryz.zeroValue3
  t4 := Tryz.underlying4
  a4 := Tryz.isAgg4
  z4 := Tryz.sizeOf4
  v4 := Tryz.zeroValue4
  t5 := Tryz.underlying5
  a5 := Tryz.isAgg5
  z5 := Tryz.sizeOf5
  v5 := Tryz.zeroValue5
  t9 := Tryz.underlying9
  a9 := Tryz.isAgg9
  z9 := Tryz.sizeOf9
  v9 := Tryz.zeroValue9
  t21 := Tryz.underlying21
  a21 := Tryz.isAgg21
  z21 := Tryz.sizeOf21
  v21 := Tryz.zeroValue21
  t31 := Tryz.underlying64
  a31 := Tryz.isAgg64
  z31 := Tryz.sizeOf64
  v31 := Tryz.zeroValue64
  t46 := Tryz.underlying243
  a46 := Tryz.isAgg243
  z46 := Tryz.sizeOf243
  v46 := Tryz.zeroValue243
  t51 := Tryz.underlying265
  a51 := Tryz.isAgg265
  z51 := Tryz.sizeOf265
  v51 := Tryz.zeroValue265
  t105 := Tryz.underlying178
  a105 := Tryz.isAgg178
  z105 := Tryz.sizeOf178
  v105 := Tryz.zeroValue178
  t119 := Tryz.underlying251
  a119 := Tryz.isAgg251
  z119 := Tryz.sizeOf251
  t138 := Tryz.underlying253
  a138 := Tryz.isAgg253
  z138 := Tryz.sizeOf253
  v138 := Tryz.zeroValue253
  t139 := Tryz.underlying254
  a139 := Tryz.isAgg254
  z139 := Tryz.sizeOf254
  v139 := Tryz.zeroValue254
  t146 := Tryz.underlying266
  a146 := Tryz.isAgg266
  z146 := Tryz.sizeOf266
  v146 := Tryz.zeroValue266
  g1 := by kernel_rfl
  g3 := by kernel_rfl
  g4 := by kernel_rfl }
open Go.RowKit Go.Lib in
theorem Tryz.strings_Split (s sep : ByteArray) (m : Int) (w : World) (hs : s.size < 4294967281) (hm : w.cell? ⟨6, 0, none⟩ = some (.int .i64 m)) (h1 : 1 ≤ sep.size) :
    Calls Tryz.prog 23 #[.string s, .string sep] w fun e w' =>
      e = .returned (.slice (some ⟨w.heap.size, 0, none⟩) (Lib.countB s sep + 1) (Lib.countB s sep + 1)) ∧ w' = w.alloc (.cells ((Lib.splitB sep 0 (Lib.countB s sep) s).map Value.string).toArray 9) := Any.strings_Split Tryz.lays146 (by kernel_rfl) s sep m w hs hm h1
def Tryz.lays197_ren : Go.Shelf.Ren := ⟨fun | 197 => 86 | 260 => 130 | n => n, fun | 9 => 9 | 21 => 21 | 3 => 3 | 4 => 4 | 5 => 5 | 105 => 178 | 119 => 251 | 0 => 0 | 46 => 243 | 139 => 254 | 138 => 253 | n => n, fun | 3 => 7 | 4 => 8 | n => n⟩
theorem Tryz.lays197 : Go.Proofs.Lays.n197 Tryz.prog Tryz.lays197_ren := {
  mixed := by kernel_rfl
  f197 := Tryz.func86.trans (congrArg some (by kernel_rfl))
  f260 := Tryz.func130.trans (congrArg some (by kernel_rfl))
  t0 := Tryz.underlying0
  a0 := Tryz.isAgg0
  z0 := Tryz.sizeOf0
  v0 := Tryz.zeroValue0
  t3 := Tryz.underlying3
  a3 := Tryz.isAgg3
  z3 := Tryz.sizeOf3
  v3 := Tryz.zeroValue3
  t4 := Tryz.underlying4
  a4 := Tryz.isAgg4
  z4 := Tryz.sizeOf4
  v4 := Tryz.zeroValue4
  t5 := Tryz.underlying5
  a5 := Tryz.isAgg5
  z5 := Tryz.sizeOf5
  v5 := Tryz.zeroValue5
  t9 := Tryz.underlying9
  a9 := Tryz.isAgg9
  z9 := Tryz.sizeOf9
  v9 := Tryz.zeroValue9
  t21 := Tryz.underlying21
  a21 := Tryz.isAgg21
  z21 := Tryz.sizeOf21
  v21 := Tryz.zeroValue21
  t46 := Tryz.underlying243
  a46 := Tryz.isAgg243
  z46 := Tryz.sizeOf243
  v46 := Tryz.zeroValue243
  t105 := Tryz.underlying178
  a105 := Tryz.isAgg178
  z105 := Tryz.sizeOf178
  v105 := Tryz.zeroValue178
  t119 := Tryz.underlying251
  a119 := Tryz.isAgg251
  z119 := Tryz.sizeOf251
  t138 := Tryz.underlying253
  a138 := Tryz.isAgg253
  z138 := Tryz.sizeOf253
  v138 := Tryz.zeroValue253
  t139 := Tryz.underlying254
  a139 := Tryz.isAgg254
  z139 := Tryz.sizeOf254
  v139 := Tryz.zeroValue254
  g3 := by kernel_rfl
  g4 := by kernel_rfl }
def Tryz.lays152_ren : Go.Shelf.Ren := ⟨fun | 152 => 173 | 137 => 196 | 119 => 197 | 224 => 163 | 225 => 162 | 217 => 161 | 266 => 186 | n => n, fun | 9 => 9 | 21 => 21 | 3 => 3 | 4 => 4 | 5 => 5 | 0 => 0 | 46 => 243 | n => n, fun | n => n⟩
theorem Tryz.lays152 : Go.Proofs.Lays.n152 Tryz.prog Tryz.lays152_ren := {
  mixed := by kernel_rfl
  f119 := Tryz.func197.trans (congrArg some (by kernel_rfl))
  f137 := Tryz.func196.trans (congrArg some (by kernel_rfl))
  f152 := Tryz.func173.trans (congrArg some (by kernel_rfl))
  f217 := Tryz.func161.trans (congrArg some (by kernel_rfl))
  f224 := Tryz.func163.trans (congrArg some (by kernel_rfl))
  f225 := Tryz.func162.trans (congrArg some (by kernel_rfl))
  f266 := Tryz.func186.trans (congrArg some (by kernel_rfl))
  t0 := Tryz.underlying0
  a0 := Tryz.isAgg0
  z0 := Tryz.sizeOf0
  v0 := Tryz.zeroValue0
  t3 := Tryz.underlying3
  a3 := Tryz.isAgg3
  z3 := Tryz.sizeOf3
  v3 := Tryz.zeroValue3
  t4 := Tryz.underlying4
  a4 := Tryz.isAgg4
  z4 := Tryz.sizeOf4
  v4 := Tryz.zeroValue4
  t5 := Tryz.underlying5
  a5 := Tryz.isAgg5
  z5 := Tryz.sizeOf5
  v5 := Tryz.zeroValue5
  t9 := Tryz.underlying9
  a9 := Tryz.isAgg9
  z9 := Tryz.sizeOf9
  v9 := Tryz.zeroValue9
  t21 := Tryz.underlying21
  a21 := Tryz.isAgg21
  z21 := Tryz.sizeOf21
  v21 := Tryz.zeroValue21
  t46 := Tryz.underlying243
  a46 := Tryz.isAgg243
  z46 := Tryz.sizeOf243
  v46 := Tryz.zeroValue243 }
open Go.RowKit Go.Lib in
theorem Tryz.strings_IndexRune_ascii (s : ByteArray) (r : Int) (w : World) (h0 : 0 ≤ r) (h1 : r < 128) :
    Calls Tryz.prog 173 #[.string s, .int .i32 r] w fun e w' => e = .returned (.int .i64 (Lib.indexByte s.data.toList r.toNat.toUInt8)) ∧ w' = w := Any.strings_IndexRune_ascii Tryz.lays152 s r w h0 h1
def Tryz.lays153_ren : Go.Shelf.Ren := ⟨fun | 153 => 134 | 152 => 173 | 226 => 174 | 227 => 175 | 228 => 176 | 137 => 196 | 119 => 197 | 224 => 163 | 225 => 162 | 217 => 161 | 266 => 186 | n => n, fun | 9 => 9 | 3 => 3 | 4 => 4 | 5 => 5 | 21 => 21 | 117 => 258 | 116 => 257 | 0 => 0 | 46 => 243 | 124 => 278 | n => n, fun | n => n⟩
theorem Tryz.lays153 : Go.Proofs.Lays.n153 Tryz.prog Tryz.lays153_ren := {
  mixed := by kernel_rfl
  f119 := Tryz.func197.trans (congrArg some (by kernel_rfl))
  f137 := Tryz.func196.trans (congrArg some (by kernel_rfl))
  f152 := Tryz.func173.trans (congrArg some (by kernel_rfl))
  f153 := Tryz.func134.trans (congrArg some (by kernel_rfl))
  f217 := Tryz.func161.trans (congrArg some (by kernel_rfl))
  f224 := Tryz.func163.trans (congrArg some (by kernel_rfl))
  f225 := Tryz.func162.trans (congrArg some (by kernel_rfl))
  f226 := Tryz.func174.trans (congrArg some (by kernel_rfl))
  f227 := Tryz.func175.trans (congrArg some (by kernel_rfl))
  f228 := Tryz.func176.trans (congrArg some (by kernel_rfl))
  f266 := Tryz.func186.trans (congrArg some (by kernel_rfl))
  t0 := Tryz.underlying0
  a0 := Tryz.isAgg0
  z0 := Tryz.sizeOf0
  v0 := Tryz.zeroValue0
  t3 := Tryz.underlying3
  a3 := Tryz.isAgg3
  z3 := Tryz.sizeOf3
  v3 := Tryz.zeroValue3
  t4 := Tryz.underlying4
  a4 := Tryz.isAgg4
  z4 := Tryz.sizeOf4
  v4 := Tryz.zeroValue4
  t5 := Tryz.underlying5
  a5 := Tryz.isAgg5
  z5 := Tryz.sizeOf5
  v5 := Tryz.zeroValue5
  t9 := Tryz.underlying9
  a9 := Tryz.isAgg9
  z9 := Tryz.sizeOf9
  v9 := Tryz.zeroValue9
  t21 := Tryz.underlying21
  a21 := Tryz.isAgg21
  z21 := Tryz.sizeOf21
  v21 := Tryz.zeroValue21
  t46 := Tryz.underlying243
  a46 := Tryz.isAgg243
  z46 := Tryz.sizeOf243
  v46 := Tryz.zeroValue243
  t116 := Tryz.underlying257
  a116 := Tryz.isAgg257
  z116 := Tryz.sizeOf257
  t117 := Tryz.underlying258
  a117 := Tryz.isAgg258
  z117 := Tryz.sizeOf258
  v117 := Tryz.zeroValue258
  t124 := Tryz.underlying278
  a124 := Tryz.isAgg278
  z124 := Tryz.sizeOf278
  v124 := Tryz.zeroValue278 }
open Go.RowKit Go.Lib in
theorem Tryz.strings_IndexAny_laid (s chars : ByteArray) (w : World) (hs : s.size < 4294967281) (hcs : chars.size < 4294967281) (has : ∀ (j : Nat) b, s.data.toList[j]? = some b → b.toNat < 128) (hac : ∀ (j : Nat) b, chars.data.toList[j]? = some b → b.toNat < 128) :
    Calls Tryz.prog 134 #[.string s, .string chars] w fun e w' => e = .returned (.int .i64 (Lib.indexAny s.data.toList chars.data.toList)) ∧ Below w.heap.size w w' := Any.strings_IndexAny_laid Tryz.lays153 (by kernel_rfl) s chars w hs hcs has hac
open Go.RowKit Go.Lib in
theorem Tryz.utf8_DecodeRuneInString (s : ByteArray) (w : World) (hT : Lib.Utf8Tabs 7 8 w) :
    Calls Tryz.prog 86 #[.string s] w fun e w' => e = .returned (.tuple #[.int .i32 (Lib.decodeGo s).1, .int .i64 (Lib.decodeGo s).2]) ∧ Below w.heap.size w w' := Any.utf8_DecodeRuneInString Tryz.lays197 s w hT
end Go.Proofs
namespace Go.Proofs.YtednmkhdehlojaaGreatDoor
open Go.ChangeShapes Go.WideShapes Go.ChangeAt Go.RowKit

def numB (n : Int) : ByteArray := ⟨(Lib.itoa n).toArray⟩
theorem nDigits_le : ∀ (k u : Nat), u < 10 ^ (k + 1) → Lib.nDigits u ≤ k + 1
  | 0, u, h => by rw [Lib.nDigits_small (by simpa using h)]; omega
  | k + 1, u, h => by
    by_cases hu : u < 10
    · rw [Lib.nDigits_small hu]; omega
    · rw [Lib.nDigits_big hu]
      have := nDigits_le k (u / 10) (by rw [Nat.div_lt_iff_lt_mul (by omega)]; rw [Nat.pow_succ] at h; exact h)
      omega
theorem digits_length (u : Nat) (h : u ≤ 9223372036854775808) : (Lib.decDigits u).length ≤ 19 := by
  rw [Lib.decDigits_length]
  exact nDigits_le 18 u (by omega)
theorem numB_size (n : Int) (h0 : -9223372036854775808 ≤ n) (h1 : n ≤ 9223372036854775807) : (numB n).size ≤ 20 := by
  show (Lib.itoa n).toArray.size ≤ 20
  rw [List.size_toArray]
  unfold Lib.itoa
  split
  · have := digits_length n.natAbs (by omega); simp only [List.length_cons]; omega
  · have := digits_length n.toNat (by omega); omega
def regB (r : Int) : ByteArray := ⟨#[114]⟩ ++ numB r
def namesL : List (List UInt8) := [[], [109, 111, 118], [97, 100, 100], [115, 117, 98], [109, 117, 108], [100, 105, 118], [109, 111, 100], [97, 110, 100], [111, 114], [120, 111, 114], [108, 115, 104], [114, 115, 104], [97, 114, 115, 104], [110, 101, 103], [106, 117, 109, 112], [106, 101, 113], [106, 110, 101], [106, 103, 116], [106, 103, 101], [106, 108, 116], [106, 108, 101], [106, 115, 103, 116], [106, 115, 103, 101], [106, 115, 108, 116], [106, 115, 108, 101], [108, 111, 97, 100], [115, 116, 111, 114, 101], [99, 97, 108, 108], [101, 120, 105, 116]]
def callsL : List (List UInt8) := [[], [102, 105, 110, 100], [116, 105, 109, 101], [101, 109, 105, 116]]
def nameB (i : Nat) : ByteArray := ⟨(namesL.getD i []).toArray⟩
def callB (i : Nat) : ByteArray := ⟨(callsL.getD i []).toArray⟩
structure Ext where
  holds : World → Prop
  on : ∀ (w w' : World) (B : Nat), Below B w w' → 14 ≤ B → holds w → holds w'
structure Tabs (ex : Ext) (w : World) : Prop where
  room : 14 ≤ w.heap.size
  names : ∀ i, i < 29 → w.cell? ⟨2, i, none⟩ = some (.string (nameB i))
  calls : ∀ i, i < 4 → w.cell? ⟨5, i, none⟩ = some (.string (callB i))
  pows : Lib.TabIs Tryz.prog w "internal/strconv.uint64pow10" .u64 Lib.pow10Tab
  ext : ex.holds w
variable {ex : Ext}
theorem powsAt : Tryz.prog.globalNamed "internal/strconv.uint64pow10" = some 11 := by kernel_rfl
theorem Tabs.on {w w' : World} {B : Nat} (h : Tabs ex w) (hb : Below B w w') (hB : 14 ≤ B) : Tabs ex w' := by
  refine ⟨Nat.le_trans h.room hb.size, fun i hi => ?_, fun i hi => ?_, ?_, ex.on _ _ _ hb hB h.ext⟩
  · rw [hb.cell (p := ⟨2, i, none⟩) (by show 2 < B; omega)]; exact h.names i hi
  · rw [hb.cell (p := ⟨5, i, none⟩) (by show 5 < B; omega)]; exact h.calls i hi
  · have hp := h.pows
    unfold Lib.TabIs World.var? at *
    simp only [powsAt, Option.bind_some] at hp ⊢
    rw [hb.block 11 (by omega)]; exact hp
structure Fine (ex : Ext) (a w : World) : Prop where
  bel : Below a.heap.size a w
  tabs : Tabs ex w
theorem Fine.start {w : World} (h : Tabs ex w) : Fine ex w w := ⟨bF _ _, h⟩
theorem Fine.alloc {a w : World} (h : Fine ex a w) (o : Obj) : Fine ex a (w.alloc o) :=
  ⟨h.bel.alloc h.bel.size o, h.tabs.on ((bF _ _).alloc (Nat.le_refl _) o) h.tabs.room⟩
theorem Fine.call {a w w1 : World} (h : Fine ex a w) (hb : Below w.heap.size w w1) : Fine ex a w1 :=
  ⟨h.bel.trans (hb.mono h.bel.size), h.tabs.on hb h.tabs.room⟩
theorem kept {W w1 : World} (hb : Below W.heap.size W w1) : (∀ b o, b < W.heap.size → w1.cell? ⟨b, o, none⟩ = W.cell? ⟨b, o, none⟩) ∧ (∀ b o, b < W.heap.size → w1.frozen? ⟨b, o, none⟩ = W.frozen? ⟨b, o, none⟩) :=
  ⟨fun b _ h => hb.cell (p := ⟨b, _, none⟩) h, fun b _ h => hb.frozen (p := ⟨b, _, none⟩) h⟩
theorem below_grow (w : World) (k : Nat) (os : Array Obj) : Below w.heap.size w (Sort.grow (w.drewN k) os) :=
  ⟨rfl, rfl, rfl, by show w.heap.size ≤ (w.heap ++ os).size; simp, fun i hi => by show (w.heap ++ os)[i]? = w.heap[i]?; rw [Array.getElem?_append_left hi]⟩

theorem fmt_any (n : Int) (w : World) (h0 : -9223372036854775808 ≤ n) (h1 : n ≤ 9223372036854775807) (hT : Tabs ex w) :
    Calls Tryz.prog 125 #[vI vK n, vI vK 10] w fun e w' => e = .returned (.string (numB n)) ∧ Below w.heap.size w w' :=
  (Tryz.strconv_FormatInt_10 n h0 h1 w hT.pows).mono fun _ _ ⟨he, k, os, hw⟩ => ⟨he, hw ▸ below_grow w k os⟩
theorem itoa_any (n : Int) (w : World) (h0 : -9223372036854775808 ≤ n) (h1 : n ≤ 9223372036854775807) (hT : Tabs ex w) :
    Calls Tryz.prog 136 #[vI vK n] w fun e w' => e = .returned (.string (numB n)) ∧ Below w.heap.size w w' :=
  (Tryz.strconv_Itoa n h0 h1 w hT.pows).mono fun _ _ ⟨he, k, os, hw⟩ => ⟨he, hw ▸ below_grow w k os⟩
theorem numberWord_any (n : Int) (w : World) (h0 : -9223372036854775808 ≤ n) (h1 : n ≤ 9223372036854775807) (hT : Tabs ex w) :
    Calls Tryz.prog 96 #[vI vK n] w fun e w' => e = .returned (.string (numB n)) ∧ Below w.heap.size w w' := by
  go_enter Tryz.func96, Tryz.ntmps96
  go_wp2_with (go_at_call 125; refine (fmt_any _ _ h0 h1 hT).mono ?_; rintro e w1 ⟨rfl, hb1⟩)
  go_ret
  exact ⟨rfl, hb1⟩
theorem registerWord_any (n : Int) (w : World) (h0 : -9223372036854775808 ≤ n) (h1 : n ≤ 9223372036854775807) (hT : Tabs ex w) :
    Calls Tryz.prog 95 #[vI vK n] w fun e w' => e = .returned (.string (regB n)) ∧ Below w.heap.size w w' := by
  have hz := numB_size n h0 h1
  go_enter Tryz.func95, Tryz.ntmps95
  go_wp2_with (go_at_call 136; refine (itoa_any _ _ h0 h1 hT).mono ?_; rintro e w1 ⟨rfl, hb1⟩)
  go_ret
  exact ⟨rfl, hb1⟩
def partsL (c : Int) : List UInt8 :=
  if 1 ≤ c ∧ c ≤ 12 then [100, 115] else if 15 ≤ c ∧ c ≤ 24 then [100, 115, 111] else if c = 13 then [100] else if c = 14 then [111] else if c = 25 then [100, 102] else if c = 26 then [116, 115] else if c = 27 then [99] else []
def partsB (c : Int) : ByteArray := ⟨(partsL c).toArray⟩
theorem parts_any (c : Int) (w : World) : Calls Tryz.prog 55 #[vI vK c] w fun e w' => e = .returned (.string (partsB c)) ∧ w' = w := by
  unfold partsB partsL
  by_cases h1 : 1 ≤ c ∧ c ≤ 12
  · rw [if_pos h1]
    have x1 : decide (1 ≤ c) = true := by simpa using h1.1
    have x2 : decide (c ≤ 12) = true := by simpa using h1.2
    clear h1
    go_enter Tryz.func55, Tryz.ntmps55
    go_wp2
    go_ret
    exact ⟨rfl, rfl⟩
  · rw [if_neg h1]
    by_cases h2 : 15 ≤ c ∧ c ≤ 24
    · rw [if_pos h2]
      have x1 : decide (1 ≤ c) = true := by simp; omega
      have x2 : decide (c ≤ 12) = false := by simp; omega
      have x3 : decide (15 ≤ c) = true := by simpa using h2.1
      have x4 : decide (c ≤ 24) = true := by simpa using h2.2
      clear h1 h2
      go_enter Tryz.func55, Tryz.ntmps55
      go_wp2
      go_ret
      exact ⟨rfl, rfl⟩
    · rw [if_neg h2]
      rcases (show c < 1 ∨ c = 13 ∨ c = 14 ∨ c = 25 ∨ c = 26 ∨ c = 27 ∨ 28 ≤ c by omega) with h | rfl | rfl | rfl | rfl | rfl | h
      · rw [if_neg (by omega), if_neg (by omega), if_neg (by omega), if_neg (by omega), if_neg (by omega)]
        have x1 : decide (1 ≤ c) = false := by simp; omega
        have x3 : decide (15 ≤ c) = false := by simp; omega
        have x5 : (c == 13) = false := by simp; omega
        have x6 : (c == 14) = false := by simp; omega
        have x7 : (c == 25) = false := by simp; omega
        have x8 : (c == 26) = false := by simp; omega
        have x9 : (c == 27) = false := by simp; omega
        clear h h1 h2
        go_enter Tryz.func55, Tryz.ntmps55
        go_wp2
        go_ret
        exact ⟨rfl, rfl⟩
      iterate 5
        · simp only [Int.reduceEq, if_true, if_false]
          clear h1 h2
          go_enter Tryz.func55, Tryz.ntmps55
          go_wp2
          go_ret
          exact ⟨rfl, rfl⟩
      · rw [if_neg (by omega), if_neg (by omega), if_neg (by omega), if_neg (by omega), if_neg (by omega)]
        have x1 : decide (1 ≤ c) = true := by simp; omega
        have x2 : decide (c ≤ 12) = false := by simp; omega
        have x3 : decide (15 ≤ c) = true := by simp; omega
        have x4 : decide (c ≤ 24) = false := by simp; omega
        have x5 : (c == 13) = false := by simp; omega
        have x6 : (c == 14) = false := by simp; omega
        have x7 : (c == 25) = false := by simp; omega
        have x8 : (c == 26) = false := by simp; omega
        have x9 : (c == 27) = false := by simp; omega
        clear h h1 h2
        go_enter Tryz.func55, Tryz.ntmps55
        go_wp2
        go_ret
        exact ⟨rfl, rfl⟩
def Fits (n : Int) : Prop := -9223372036854775808 ≤ n ∧ n ≤ 9223372036854775807
end Go.Proofs.YtednmkhdehlojaaGreatDoor
namespace Go.Proofs.YtednmkhdehlojaaGreatDoor
open Go.ChangeShapes Go.WideShapes Go.ChangeAt Go.RowKit

theorem digit_toNat {d : Nat} (h : d < 10) : (UInt8.ofNat (48 + d)).toNat = 48 + d := by
  rw [UInt8.toNat_ofNat']
  omega
theorem parse_digits : ∀ (u : Nat) (r : List UInt8), u ≤ 9223372036854775808 → Lib.parseUintM 18446744073709551615 0 (Lib.decDigits u ++ r) = Lib.parseUintM 18446744073709551615 u r := by
  intro u
  induction u using Nat.strongRecOn with
  | _ u ih =>
    intro r hu
    by_cases h : u < 10
    · rw [Lib.decDigits, dif_pos h, List.singleton_append, Lib.parseUintM, digit_toNat h]
      rw [if_pos (by omega), if_neg (by omega), if_neg (by omega)]
      congr 1; omega
    · rw [Lib.decDigits, dif_neg h, List.append_assoc, List.singleton_append, ih (u / 10) (by omega) _ (by omega), Lib.parseUintM, digit_toNat (by omega : u % 10 < 10)]
      rw [if_pos (by omega), if_neg (by omega), if_neg (by omega)]
      congr 1; omega
theorem digits_head : ∀ (u : Nat), ∃ c r, Lib.decDigits u = c :: r ∧ 48 ≤ c.toNat ∧ c.toNat ≤ 57 := by
  intro u
  induction u using Nat.strongRecOn with
  | _ u ih =>
    by_cases h : u < 10
    · exact ⟨_, [], by rw [Lib.decDigits, dif_pos h], by rw [digit_toNat h]; omega, by rw [digit_toNat h]; omega⟩
    · obtain ⟨c, r, e, h1, h2⟩ := ih (u / 10) (by omega)
      exact ⟨c, r ++ [UInt8.ofNat (48 + u % 10)], by rw [Lib.decDigits, dif_neg h, e]; rfl, h1, h2⟩
theorem parse_mag (u : Nat) (hu : u ≤ 9223372036854775808) : Lib.parseUintB 64 (Lib.decDigits u) = .ok u := by
  obtain ⟨c, r, e, _⟩ := digits_head u
  unfold Lib.parseUintB
  rw [if_neg (by rw [e]; simp)]
  have := parse_digits u [] hu
  rw [List.append_nil] at this
  exact this
theorem parse_itoa (n : Int) (h : Fits n) : Lib.parseIntB 64 (Lib.itoa n) = .ok n := by
  unfold Lib.itoa
  obtain ⟨h0, h1⟩ := h
  by_cases hn : n < 0
  · rw [if_pos hn]
    have hm := parse_mag n.natAbs (by omega)
    show (match Lib.parseUintB 64 (if (45 : UInt8).toNat = 43 ∨ (45 : UInt8).toNat = 45 then Lib.decDigits n.natAbs else 45 :: Lib.decDigits n.natAbs) with
      | .syntax => Lib.NumEnd.syntax
      | .range => .range
      | .ok u => if ¬ (45 : UInt8).toNat = 45 ∧ 2 ^ 63 ≤ u then .range else if (45 : UInt8).toNat = 45 ∧ 2 ^ 63 < u then .range else .ok (if (45 : UInt8).toNat = 45 then -(u : Int) else u)) = _
    rw [if_pos (by decide), hm]
    show (if ¬ (45 : UInt8).toNat = 45 ∧ 2 ^ 63 ≤ n.natAbs then Lib.NumEnd.range else if (45 : UInt8).toNat = 45 ∧ 2 ^ 63 < n.natAbs then .range else .ok (if (45 : UInt8).toNat = 45 then -(n.natAbs : Int) else n.natAbs)) = _
    rw [if_neg (fun h => h.1 (by decide)), if_neg (by omega), if_pos (by decide)]
    congr 1; omega
  · rw [if_neg hn]
    obtain ⟨c, r, e, c1, c2⟩ := digits_head n.toNat
    have hm := parse_mag n.toNat (by omega)
    rw [e] at hm ⊢
    show (match Lib.parseUintB 64 (if c.toNat = 43 ∨ c.toNat = 45 then r else c :: r) with
      | .syntax => Lib.NumEnd.syntax
      | .range => .range
      | .ok u => if ¬ c.toNat = 45 ∧ 2 ^ 63 ≤ u then .range else if c.toNat = 45 ∧ 2 ^ 63 < u then .range else .ok (if c.toNat = 45 then -(u : Int) else u)) = _
    rw [if_neg (by omega), hm]
    show (if ¬ c.toNat = 45 ∧ 2 ^ 63 ≤ n.toNat then Lib.NumEnd.range else if c.toNat = 45 ∧ 2 ^ 63 < n.toNat then .range else .ok (if c.toNat = 45 then -(n.toNat : Int) else n.toNat)) = _
    rw [if_neg (by omega), if_neg (by omega), if_neg (by omega)]
    congr 1; omega
def numOf (b : ByteArray) : Option Int :=
  match Lib.parseIntB 64 b.data.toList with
  | .ok v => if numB v = b then some v else none
  | _ => none
theorem numB_list (n : Int) : (numB n).data.toList = Lib.itoa n := by simp [numB]
theorem numOf_numB {n : Int} (h : Fits n) : numOf (numB n) = some n := by
  unfold numOf
  rw [numB_list, parse_itoa n h]
  simp
theorem numB_inj {m n : Int} (hm : Fits m) (hn : Fits n) (h : numB m = numB n) : m = n := by
  have a := numOf_numB hm
  rw [h, numOf_numB hn] at a
  exact (Option.some.inj a).symm

theorem regB_inj {m n : Int} (hm : Fits m) (hn : Fits n) (h : regB m = regB n) : m = n := by
  refine numB_inj hm hn ?_
  have h2 : (regB m).data.toList = (regB n).data.toList := by rw [h]
  unfold regB at h2
  have h3 : (numB m).data.toList = (numB n).data.toList := by simpa using h2
  exact ByteArray.ext (Array.ext' h3)
def regOf (b : ByteArray) : Option Nat := (List.range 11).find? fun r : Nat => decide (b = regB r)
theorem fits_small {r : Nat} (h : r < 11) : Fits (r : Int) := ⟨by omega, by omega⟩
theorem regOf_regB {r : Nat} (h : r < 11) : regOf (regB r) = some r := by
  unfold regOf
  cases e : (List.range 11).find? fun k : Nat => decide (regB r = regB k) with
  | none => exact absurd (List.find?_eq_none.1 e r (List.mem_range.2 h)) (by simp)
  | some k =>
    have h1 := List.find?_some e
    have h2 := List.mem_range.1 (List.mem_of_find?_eq_some e)
    have := regB_inj (fits_small h) (fits_small h2) (of_decide_eq_true h1)
    congr 1; omega
theorem regOf_some {b : ByteArray} {r : Nat} (h : regOf b = some r) : r < 11 ∧ b = regB r :=
  ⟨List.mem_range.1 (List.mem_of_find?_eq_some h), of_decide_eq_true (p := b = regB r) (List.find?_some (p := fun k : Nat => decide (b = regB k)) h)⟩
variable {ex : Ext}

structure ErrTabs (w : World) : Prop where
  synt : ∃ te pe, w.cell? ⟨9, 0, none⟩ = some (.iface te pe)
  rang : ∃ te pe, w.cell? ⟨10, 0, none⟩ = some (.iface te pe)
theorem below_bytes (w : World) (e : TypeId) (s : ByteArray) : Below w.heap.size w (Lib.bytesWorld w e s) :=
  ⟨rfl, rfl, rfl, by rw [Lib.bytesWorld_size]; omega, fun k hk => Lib.bytesWorld_at_old w e s k hk⟩
theorem parse_ok {b : ByteArray} {v : Int} (h : Lib.parseIntB 64 b.data.toList = .ok v) (w : World) (hb : b.size ≤ 100000) :
    Calls Tryz.prog 82 #[.string b, vI vK 10, vI vK 64] w fun e w' => e = .returned (.tuple #[vI vK v, .nilIface]) ∧ Below w.heap.size w w' := by
  refine (Tryz.strconv_ParseInt_10_at64_ok b (by omega) v h w).mono fun e w' hh => ?_
  obtain ⟨h1, h2⟩ := hh
  refine ⟨h1, ?_⟩
  rcases h2 with rfl | ⟨t, rfl⟩
  · exact bF _ _
  · exact below_bytes w _ t
theorem parse_no (he : ∀ w, ex.holds w → ErrTabs w) {b : ByteArray} (h : ∀ v, Lib.parseIntB 64 b.data.toList ≠ .ok v) (w : World) (hb : b.size ≤ 100000) (hT : Tabs ex w) :
    Calls Tryz.prog 82 #[.string b, vI vK 10, vI vK 64] w fun e w' => (∃ v t p, e = .returned (.tuple #[vI vK v, .iface t p])) ∧ Below w.heap.size w w' := by
  cases h' : Lib.parseIntB 64 b.data.toList with
  | ok v => exact absurd h' (h v)
  | «syntax» =>
    obtain ⟨t, p, hv⟩ := (he w hT.ext).synt
    refine (Tryz.strconv_ParseInt_10_at64_syntax b (by omega) h' _ w hv (Or.inr ⟨t, p, rfl⟩)).mono fun e w' hh => ?_
    obtain ⟨N, h1, _, _, h2⟩ := hh
    exact ⟨⟨_, _, _, h1⟩, h2⟩
  | range =>
    obtain ⟨t, p, hv⟩ := (he w hT.ext).rang
    refine (Tryz.strconv_ParseInt_10_at64_range b (by omega) h' _ w hv (Or.inr ⟨t, p, rfl⟩)).mono fun e w' hh => ?_
    obtain ⟨N, h1, _, _, h2⟩ := hh
    exact ⟨⟨_, _, _, h1⟩, h2⟩
theorem other_text {a b : ByteArray} (h : a ≠ b) : (a.toList == b.toList) = false := by
  rw [beq_eq_false_iff_ne]
  intro e
  exact h (by rw [Lib.toList_data, Lib.toList_data] at e; exact ByteArray.ext (Array.ext' e))
theorem number_any (he : ∀ w, ex.holds w → ErrTabs w) (b : ByteArray) (w : World) (hb : b.size ≤ 100000) (hT : Tabs ex w) :
    Calls Tryz.prog 91 #[.string b] w fun e w' => e = .returned (.tuple #[vI vK ((numOf b).getD 0), .bool (numOf b).isSome]) ∧ Below w.heap.size w w' := by
  have hF := Fine.start hT
  by_cases hok : ∃ v, Lib.parseIntB 64 b.data.toList = .ok v
  · obtain ⟨v, h⟩ := hok
    have hv := Lib.parseIntB_bounds (B := 64) h
    have v1 : -9223372036854775808 ≤ v := by have := hv.1; simp at this; omega
    have v2 : v ≤ 9223372036854775807 := by have := hv.2; simp at this; omega
    have HP : Hid (Lib.parseIntB 64 b.data.toList = .ok v) := h
    clear h hv
    by_cases hbv : numB v = b
    · have hno : numOf b = some v := by unfold numOf; rw [HP.out]; simp [hbv]
      rw [hno]
      subst hbv
      clear hno
      go_enter Tryz.func91, Tryz.ntmps91
      go_wp2_with (first
        | (go_at_call 82; refine (parse_ok HP.out _ hb).mono ?_; rintro e w1 ⟨rfl, hb1⟩)
        | (go_at_call 96; refine (numberWord_any _ _ v1 v2 (hF.call hb1).tabs).mono ?_; rintro e w2 ⟨rfl, hb2⟩))
      go_ret2
      exact ⟨rfl, ((hF.call hb1).call hb2).bel⟩
    · have hno : numOf b = none := by unfold numOf; rw [HP.out]; simp [hbv]
      rw [hno]
      have hq := other_text hbv
      clear hno hbv
      go_enter Tryz.func91, Tryz.ntmps91
      go_wp2_with (first
        | (go_at_call 82; refine (parse_ok HP.out _ hb).mono ?_; rintro e w1 ⟨rfl, hb1⟩)
        | (go_at_call 96; refine (numberWord_any _ _ v1 v2 (hF.call hb1).tabs).mono ?_; rintro e w2 ⟨rfl, hb2⟩))
      go_ret2
      exact ⟨rfl, ((hF.call hb1).call hb2).bel⟩
  · have hn : ∀ v, Lib.parseIntB 64 b.data.toList ≠ .ok v := fun v e => hok ⟨v, e⟩
    have hno : numOf b = none := by
      unfold numOf
      split
      · rename_i v e; exact absurd e (hn v)
      · rfl
    rw [hno]
    clear hok hno
    go_enter Tryz.func91, Tryz.ntmps91
    go_wp2_with (go_at_call 82; refine (parse_no he hn _ hb hT).mono ?_; rintro e w1 ⟨⟨v, t, p, rfl⟩, hb1⟩)
    go_ret2
    exact ⟨rfl, hb1⟩
theorem offset_any (he : ∀ w, ex.holds w → ErrTabs w) (b : ByteArray) (w : World) (hb : b.size ≤ 100000) (hT : Tabs ex w) :
    Calls Tryz.prog 92 #[.string b] w fun e w' => e = .returned (.tuple #[vI vK ((numOf b).getD 0), .bool (numOf b).isSome]) ∧ Below w.heap.size w w' := by
  go_enter Tryz.func92, Tryz.ntmps92
  go_wp2_with (go_at_call 91; refine (number_any he _ _ hb hT).mono ?_; rintro e w1 ⟨rfl, hb1⟩)
  go_ret2
  exact ⟨rfl, hb1⟩
theorem regOf_first {b : ByteArray} {k : Nat} (hk : k < 11) (hb : b = regB k) : regOf b = some k := by rw [hb]; exact regOf_regB hk
theorem register_any (b : ByteArray) (w : World) (hT : Tabs ex w) :
    Calls Tryz.prog 90 #[.string b] w fun e w' => e = .returned (.tuple #[vI vK (((regOf b).getD 0 : Nat) : Int), .bool (regOf b).isSome]) ∧ Below w.heap.size w w' := by
  have hF := Fine.start hT
  go_enter Tryz.func90, Tryz.ntmps90
  go_wp2
  go_loopw [5] (fun i wr => ∃ k : Nat, k ≤ 11 ∧ i = vI vK k ∧ Fine ex w wr ∧ ∀ j : Nat, j < k → b ≠ regB j) (fun i _ => 11 - (intOf i).toNat)
  case atStart => exact ⟨0, by omega, rfl, hF, fun j hj => absurd hj (Nat.not_lt_zero _)⟩
  case round =>
    obtain ⟨k, hk, rfl, hFr, hno⟩ := hrel
    by_cases hlt : k < 11
    · have hf := fits_small hlt
      by_cases hbk : b = regB k
      · have HR : Hid (regOf b = some k) := regOf_first hlt hbk
        have HB : Hid (b = regB k) := hbk
        have hq : (b.toList == (regB k).toList) = true := by rw [hbk]; simp
        clear hbk hno
        go_wp2_with (go_at_call 95; refine (registerWord_any _ _ hf.1 hf.2 hFr.tabs).mono ?_; rintro e w1 ⟨rfl, hb1⟩)
        go_ret2
        exact ⟨by rw [HR.out]; rfl, (hFr.call hb1).bel⟩
      · have hq := other_text hbk
        have HB : Hid (b ≠ regB k) := hbk
        clear hbk
        go_wp2_with (go_at_call 95; refine (registerWord_any _ _ hf.1 hf.2 hFr.tabs).mono ?_; rintro e w1 ⟨rfl, hb1⟩)
        go_roundw
        case rel => exact ⟨k + 1, by omega, by go_num, hFr.call hb1, fun j hj => by
          rcases Nat.lt_succ_iff_lt_or_eq.1 hj with h | h
          · exact hno j h
          · rw [h]; exact HB.out⟩
        case measure => simp [intOf]; omega
    · have hkk : k = 11 := by omega
      subst hkk
      have HR : Hid (regOf b = none) := by
        show regOf b = none
        cases e : regOf b with
        | none => rfl
        | some r => exact absurd (regOf_some e).2 (hno r (regOf_some e).1)
      go_wp2
      go_ret2
      exact ⟨by rw [HR.out]; rfl, hFr.bel⟩
end Go.Proofs.YtednmkhdehlojaaGreatDoor
namespace Go.Proofs.YtednmkhdehlojaaGreatDoor
open Go.ChangeShapes Go.WideShapes Go.ChangeAt Go.RowKit
variable {ex : Ext}

def namesV : Array Value := (namesL.map fun b => Value.string ⟨b.toArray⟩).toArray
def callsV : Array Value := (callsL.map fun b => Value.string ⟨b.toArray⟩).toArray
theorem names_at (k : Nat) (h : k < 29) : namesV[k]? = some (.string (nameB k)) := by
  have hl : k < namesL.length := h
  simp [namesV, nameB, List.getD_eq_getElem?_getD, List.getElem?_eq_getElem hl]
theorem calls_at (k : Nat) (h : k < 4) : callsV[k]? = some (.string (callB k)) := by
  have hl : k < callsL.length := h
  simp [callsV, callB, List.getD_eq_getElem?_getD, List.getElem?_eq_getElem hl]
theorem load_names {w : World} (hT : Tabs ex w) : (loadVar 110 ⟨2, 0, none⟩).run Tryz.prog w = .ok (.agg namesV) w := by
  refine run_loadVar_mid w _ 0 _ (namesL.map fun b => Value.string ⟨b.toArray⟩) _ (fun j v hv => ?_) Tryz.underlying110 rfl (by kernel_rfl)
  have hj : j < 29 := by
    have h0 := (List.getElem?_eq_some_iff.1 hv).1
    rw [List.length_map] at h0; exact h0
  have h1 := names_at j hj
  have h2 : namesV[j]? = some v := by simpa [namesV] using hv
  rw [Nat.zero_add, hT.names j hj, ← h1, h2]
theorem load_calls {w : World} (hT : Tabs ex w) : (loadVar 117 ⟨5, 0, none⟩).run Tryz.prog w = .ok (.agg callsV) w := by
  refine run_loadVar_mid w _ 0 _ (callsL.map fun b => Value.string ⟨b.toArray⟩) _ (fun j v hv => ?_) Tryz.underlying117 rfl (by kernel_rfl)
  have hj : j < 4 := by
    have h0 := (List.getElem?_eq_some_iff.1 hv).1
    rw [List.length_map] at h0; exact h0
  have h1 := calls_at j hj
  have h2 : callsV[j]? = some v := by simpa [callsV] using hv
  rw [Nat.zero_add, hT.calls j hj, ← h1, h2]
theorem load_names_list {ops : Array Oper} {rest : List Oper} {d : Option Tmp} {ty : TypeId} {pos : String} {af : _} {a : Act} {w : World} {Q : Exit → Act → World → Prop} (hT : Tabs ex w)
    (h : wpList Tryz.prog ops Q rest (a.put d (.agg namesV)) w) : wpList Tryz.prog ops Q ({ dst := d, op := .load 110 (.global 2), type := ty, pos := pos, after := af, guard := none } :: rest) a w :=
  by
  refine wpList_plain rfl ?_
  intro K hK
  have h2 := hK _ _ h
  unfold Oper.wp execOp
  simp only [Act.eval, Instr.loadAt, Instr.sureAddr, Sem.run_bind, Sem.run_pure, Result.andThen_ok, load_names hT]
  exact h2
theorem load_calls_list {ops : Array Oper} {rest : List Oper} {d : Option Tmp} {ty : TypeId} {pos : String} {af : _} {a : Act} {w : World} {Q : Exit → Act → World → Prop} (hT : Tabs ex w)
    (h : wpList Tryz.prog ops Q rest (a.put d (.agg callsV)) w) : wpList Tryz.prog ops Q ({ dst := d, op := .load 117 (.global 5), type := ty, pos := pos, after := af, guard := none } :: rest) a w :=
  by
  refine wpList_plain rfl ?_
  intro K hK
  have h2 := hK _ _ h
  unfold Oper.wp execOp
  simp only [Act.eval, Instr.loadAt, Instr.sureAddr, Sem.run_bind, Sem.run_pure, Result.andThen_ok, load_calls hT]
  exact h2
theorem size_string : Tryz.t9.size = 1 := by kernel_rfl
theorem index_names (k : Nat) (h : k < 29) (w : World) : (Instr.index 110 (.agg namesV) (vI vK k)).run Tryz.prog w = .ok (.string (nameB k)) w := by
  have h1 := names_at k h
  simp [Instr.index, run_underlying Tryz.underlying110, asIntOf, part, sizeOf, go_sem, size_string, h, h1]
theorem index_calls (k : Nat) (h : k < 4) (w : World) : (Instr.index 117 (.agg callsV) (vI vK k)).run Tryz.prog w = .ok (.string (callB k)) w := by
  have h1 := calls_at k h
  simp [Instr.index, run_underlying Tryz.underlying117, asIntOf, part, sizeOf, go_sem, size_string, h, h1]
def codeOf (b : ByteArray) : Nat := ((List.range 29).find? fun k : Nat => decide (nameB k = b)).getD 0
def callOf (b : ByteArray) : Nat := ((List.range 4).find? fun k : Nat => decide (callB k = b)).getD 0
theorem find_first {p : Nat → Bool} {n k : Nat} (hk : k < n) (hno : ∀ j, j < k → p j = false) (hp : p k = true) : (List.range n).find? p = some k := by
  exact List.find?_range_eq_some.2 ⟨hp, List.mem_range.2 hk, fun j hj => by simp [hno j hj]⟩
theorem find_none {p : Nat → Bool} {n : Nat} (hno : ∀ j, j < n → p j = false) : (List.range n).find? p = none := by
  rw [List.find?_eq_none]
  intro j hj
  simp [hno j (List.mem_range.1 hj)]
theorem codeOf_any (b : ByteArray) (w : World) (hT : Tabs ex w) :
    Calls Tryz.prog 54 #[.string b] w fun e w' => e = .returned (vI vK (codeOf b)) ∧ w' = w := by
  go_enter Tryz.func54, Tryz.ntmps54
  go_wp2_with (apply load_names_list hT)
  go_loop [6] (fun i => ∃ k : Nat, k ≤ 29 ∧ i = vI vK k ∧ ∀ j : Nat, j < k → nameB j ≠ b) (fun i => 29 - (intOf i).toNat)
  case atStart => exact ⟨0, by omega, rfl, fun j hj => absurd hj (Nat.not_lt_zero _)⟩
  case round =>
    obtain ⟨k, hk, rfl, hno⟩ := hrel
    by_cases hlt : k < 29
    · have hix := index_names k hlt
      by_cases hb : nameB k = b
      · have HC : Hid (codeOf b = k) := by
          show codeOf b = k
          unfold codeOf
          rw [find_first hlt (fun j hj => by simpa using hno j hj) (by simpa using hb)]; rfl
        have hq : ((nameB k).toList == b.toList) = true := by rw [hb]; simp
        clear hb hno
        go_wp2
        go_ret
        exact ⟨by rw [HC.out]; rfl, rfl⟩
      · have hq := other_text hb
        have HB : Hid (nameB k ≠ b) := hb
        clear hb
        go_wp2
        go_round
        case rel => exact ⟨k + 1, by omega, by go_num, fun j hj => by
          rcases Nat.lt_succ_iff_lt_or_eq.1 hj with h | h
          · exact hno j h
          · rw [h]; exact HB.out⟩
        case measure => simp [intOf]; omega
    · have hkk : k = 29 := by omega
      subst hkk
      have HC : Hid (codeOf b = 0) := by
        show codeOf b = 0
        unfold codeOf
        rw [find_none (fun j hj => by simpa using hno j hj)]; rfl
      go_wp2
      go_ret
      exact ⟨by rw [HC.out]; rfl, rfl⟩
theorem callOf_any (b : ByteArray) (w : World) (hT : Tabs ex w) :
    Calls Tryz.prog 94 #[.string b] w fun e w' => e = .returned (vI vK (callOf b)) ∧ w' = w := by
  go_enter Tryz.func94, Tryz.ntmps94
  go_wp2_with (apply load_calls_list hT)
  go_loop [6] (fun i => ∃ k : Nat, k ≤ 4 ∧ i = vI vK k ∧ ∀ j : Nat, j < k → callB j ≠ b) (fun i => 4 - (intOf i).toNat)
  case atStart => exact ⟨0, by omega, rfl, fun j hj => absurd hj (Nat.not_lt_zero _)⟩
  case round =>
    obtain ⟨k, hk, rfl, hno⟩ := hrel
    by_cases hlt : k < 4
    · have hix := index_calls k hlt
      by_cases hb : callB k = b
      · have HC : Hid (callOf b = k) := by
          show callOf b = k
          unfold callOf
          rw [find_first hlt (fun j hj => by simpa using hno j hj) (by simpa using hb)]; rfl
        have hq : ((callB k).toList == b.toList) = true := by rw [hb]; simp
        clear hb hno
        go_wp2
        go_ret
        exact ⟨by rw [HC.out]; rfl, rfl⟩
      · have hq := other_text hb
        have HB : Hid (callB k ≠ b) := hb
        clear hb
        go_wp2
        go_round
        case rel => exact ⟨k + 1, by omega, by go_num, fun j hj => by
          rcases Nat.lt_succ_iff_lt_or_eq.1 hj with h | h
          · exact hno j h
          · rw [h]; exact HB.out⟩
        case measure => simp [intOf]; omega
    · have hkk : k = 4 := by omega
      subst hkk
      have HC : Hid (callOf b = 0) := by
        show callOf b = 0
        unfold callOf
        rw [find_none (fun j hj => by simpa using hno j hj)]; rfl
      go_wp2
      go_ret
      exact ⟨by rw [HC.out]; rfl, rfl⟩
end Go.Proofs.YtednmkhdehlojaaGreatDoor
namespace Go.Proofs.YtednmkhdehlojaaGreatDoor
open Go.ChangeShapes Go.WideShapes Go.ChangeAt Go.RowKit
variable {ex : Ext}
theorem indexRune_error (w : World) :
    Calls Tryz.prog 173 #[.string ⟨#[43, 45]⟩, .int .i32 65533] w fun e w' => e = .returned (vI vK (-1)) ∧ Below w.heap.size w w' := by
  have n0 := fun ty => run_next_ascii (P := Tryz.prog) w ⟨#[43, 45]⟩ 0 ty (by decide) (by decide)
  have n1 := fun ty => run_next_ascii (P := Tryz.prog) w ⟨#[43, 45]⟩ 1 ty (by decide) (by decide)
  have n2 := fun ty => run_next_end (P := Tryz.prog) w ⟨#[43, 45]⟩ 2 ty (by decide)
  simp only [Nat.reduceAdd] at n0 n1
  go_enter Tryz.func173, Tryz.ntmps173
  go_wp2
  refine wp_loop_rounds 3 ?_
  repeat any_goals (rw [rounds_succ]; go_wp2)
  all_goals go_ret
  all_goals exact ⟨rfl, (bF _ _).alloc (Nat.le_refl _) _⟩
theorem indexByte_none (s : ByteArray) (c : Int) (w : World) (hs : s.data.toList = []) : Calls Tryz.prog 196 #[.string s, .int .u8 c] w fun e w' => e = .returned (vI vK (-1)) ∧ w' = w :=
  (Any.strings_IndexByte { Tryz.lays152 with } s c w).mono fun e w' h => by rw [hs] at h; exact h
theorem enc_two {r : Int} (h0 : 128 ≤ r) (h1 : r ≤ 2047) : ∃ b1 b2 : UInt8, Utf8.encode r = ⟨#[b1, b2]⟩ ∧ 128 ≤ b2.toNat := by
  have hv : Utf8.valid r = true := by simp [Utf8.valid]; omega
  refine ⟨UInt8.ofNat (0xC0 + r.toNat / 64), UInt8.ofNat (0x80 + r.toNat % 64), ?_, ?_⟩
  · simp only [Utf8.encode, hv, if_true]
    rw [if_neg (by omega), if_pos (by omega)]
  · simp; omega
theorem indexRune_two (r : Int) (h0 : 128 ≤ r) (h1 : r ≤ 2047) (w : World) :
    Calls Tryz.prog 173 #[.string ⟨#[43, 45]⟩, .int .i32 r] w fun e w' => e = .returned (vI vK (-1)) ∧ Below w.heap.size w w' := by
  have x1 : decide (r < 128) = false := by simp; omega
  have x2 : (r == 65533) = false := by simp; omega
  have x3 : decide (0 ≤ r) = true := by simp; omega
  have x4 : decide (r < 55296) = true := by simp; omega
  obtain ⟨b1, b2, he, hb⟩ := enc_two h0 h1
  have HB : Hid (128 ≤ b2.toNat) := hb
  have x5 : ((((⟨#[43, 45]⟩ : ByteArray)[1]'(by decide)).toNat : Int) != (((⟨#[b1, b2]⟩ : ByteArray)[1]'(by decide : 1 < 2)).toNat : Int)) = true := by
    show ((45 : Int) != (b2.toNat : Int)) = true
    simp; omega
  clear hb
  go_enter Tryz.func173, Tryz.ntmps173
  go_wp2
  go_step3
  go_wp2
  refine wp_loop_rounds 1 ?_
  rw [rounds_succ]
  go_wp2
  go_step3
  go_wp2
  go_region
  all_goals go_wp2
  go_region_with (go_at_call 196; refine (indexByte_none _ _ _ rfl).mono ?_; rintro e w' ⟨rfl, rfl⟩)
  all_goals go_wp2
  all_goals rw [Exit.noGoto_ret]
  all_goals simp only [Exit.inBlock, Exit.then, Exit.noGoto]
  all_goals go_ret
  all_goals exact ⟨rfl, (bF _ _).drew.drew⟩
theorem enc_more {r : Int} (h0 : 2048 ≤ r) : ∃ b1 b2 b3 : UInt8, Utf8.encode r = ⟨#[b1, b2, b3]⟩ ∨ ∃ b4, Utf8.encode r = ⟨#[b1, b2, b3, b4]⟩ := by
  unfold Utf8.encode
  by_cases hv : Utf8.valid r = true
  · simp only [hv, if_true]
    rw [if_neg (by omega), if_neg (by omega)]
    by_cases h : r.toNat < 0x10000
    · rw [if_pos h]; exact ⟨_, _, _, .inl rfl⟩
    · rw [if_neg h]; exact ⟨_, _, _, .inr ⟨_, rfl⟩⟩
  · exact ⟨_, _, _, .inl (by simp only [hv]; rfl)⟩
theorem indexRune_more (r : Int) (h0 : 2048 ≤ r) (h1 : r ≠ 65533) (w : World) :
    Calls Tryz.prog 173 #[.string ⟨#[43, 45]⟩, .int .i32 r] w fun e w' => e = .returned (vI vK (-1)) ∧ Below w.heap.size w w' := by
  have x1 : decide (r < 128) = false := by simp; omega
  have x2 : (r == 65533) = false := by simp; omega
  have x3 : decide (0 ≤ r) = true := by simp; omega
  have hx2 : Hid (r ≠ 65533) := h1
  clear h1
  obtain ⟨b1, b2, b3, he | ⟨b4, he⟩⟩ := enc_more h0
  all_goals go_enter Tryz.func173, Tryz.ntmps173
  all_goals go_wp2
  all_goals first | (go_ret; exact ⟨rfl, bF _ _⟩) | skip
  all_goals go_step3
  all_goals go_wp2
  all_goals refine wp_loop_rounds 1 ?_
  all_goals rw [rounds_succ]
  all_goals go_wp2
  all_goals rw [Exit.noGoto_ret]
  all_goals go_ret
  all_goals exact ⟨rfl, bF _ _⟩
theorem indexRune_high (r : Int) (h : 128 ≤ r) (w : World) :
    Calls Tryz.prog 173 #[.string ⟨#[43, 45]⟩, .int .i32 r] w fun e w' => e = .returned (vI vK (-1)) ∧ Below w.heap.size w w' := by
  by_cases h1 : r ≤ 2047
  · exact indexRune_two r h h1 w
  by_cases h2 : r = 65533
  · subst h2; exact indexRune_error w
  · exact indexRune_more r (by omega) h2 w
theorem get_in (s : ByteArray) (i : Nat) (h : i < s.size) : s.get! i = s[i]'h := get_at s i h
theorem b_and {a b : Bool} (h : (a && b) = true) : a = true ∧ b = true := by simpa using h
def OnAt (s : ByteArray) (pos k : Nat) : Prop := (decide (pos + k < s.size) && (s.get! (pos + k)).toNat / 64 == 2) = true
theorem decode_forms (s : ByteArray) (pos : Nat) : (Utf8.decode s pos).2 = 1 ∨ ((Utf8.decode s pos).2 = 2 ∧ OnAt s pos 1) ∨ ((Utf8.decode s pos).2 = 3 ∧ OnAt s pos 1 ∧ OnAt s pos 2) ∨ ((Utf8.decode s pos).2 = 4 ∧ OnAt s pos 1 ∧ OnAt s pos 2 ∧ OnAt s pos 3) := by
  simp only [Utf8.decode]
  split
  · exact .inl rfl
  · split
    · rename_i h
      obtain ⟨_, h1⟩ := b_and h
      split
      · exact .inr (.inl ⟨rfl, h1⟩)
      · exact .inl rfl
    · split
      · rename_i h
        obtain ⟨h, h2⟩ := b_and h
        obtain ⟨_, h1⟩ := b_and h
        split
        · exact .inr (.inr (.inl ⟨rfl, h1, h2⟩))
        · exact .inl rfl
      · split
        · rename_i h
          obtain ⟨h, h3⟩ := b_and h
          obtain ⟨h, h2⟩ := b_and h
          obtain ⟨_, h1⟩ := b_and h
          split
          · exact .inr (.inr (.inr ⟨rfl, h1, h2, h3⟩))
          · exact .inl rfl
        · exact .inl rfl
theorem OnAt.out {s : ByteArray} {pos k : Nat} (h : OnAt s pos k) : pos + k < s.size ∧ 128 ≤ (s.get! (pos + k)).toNat := by
  unfold OnAt at h
  simp at h
  exact ⟨h.1, by omega⟩
theorem decode_bytes (s : ByteArray) (pos : Nat) (h : pos < s.size) (ha : 128 ≤ (s[pos]'h).toNat) : ∀ j, j < (Utf8.decode s pos).2 → pos + j < s.size ∧ 128 ≤ (s.get! (pos + j)).toNat := by
  have h0 : pos + 0 < s.size ∧ 128 ≤ (s.get! (pos + 0)).toNat := ⟨h, by rw [get_at s pos h]; exact ha⟩
  intro j hj
  rcases decode_forms s pos with e | ⟨e, h1⟩ | ⟨e, h1, h2⟩ | ⟨e, h1, h2, h3⟩ <;> rw [e] at hj
  · obtain rfl : j = 0 := by omega
    exact h0
  · rcases (by omega : j = 0 ∨ j = 1) with rfl | rfl
    · exact h0
    · exact h1.out
  · rcases (by omega : j = 0 ∨ j = 1 ∨ j = 2) with rfl | rfl | rfl
    · exact h0
    · exact h1.out
    · exact h2.out
  · rcases (by omega : j = 0 ∨ j = 1 ∨ j = 2 ∨ j = 3) with rfl | rfl | rfl | rfl
    · exact h0
    · exact h1.out
    · exact h2.out
    · exact h3.out
theorem noAny_high {s : ByteArray} {i k : Nat} (h : Lib.NoAny s.data.toList [43, 45] i) (hk : ∀ j, j < k → i + j < s.size ∧ 128 ≤ (s.get! (i + j)).toNat) : Lib.NoAny s.data.toList [43, 45] (i + k) := by
  induction k with
  | zero => exact h
  | succ k ih =>
    obtain ⟨h1, h2⟩ := hk k (by omega)
    refine (ih fun j hj => hk j (by omega)).succ (Lib.data_getElem? s (i + k) h1) ?_
    rw [get_in s (i + k) h1] at h2
    generalize s[i + k]'h1 = x at h2
    simp
    constructor
    · rintro rfl; simp at h2
    · rintro rfl; simp at h2
theorem any_iterAt {w W : World} {k pos : Nat} {s : ByteArray} (h : Below w.heap.size w W) (hk : w.heap.size ≤ k) : Below w.heap.size w (W.iterAt k s pos) :=
  h.trans ⟨rfl, rfl, rfl, by simp [World.iterAt], fun j hj => by simp [World.iterAt, Array.getElem?_setIfInBounds_ne (by omega : k ≠ j)]⟩
theorem size_iterAt (W : World) (k pos : Nat) (s : ByteArray) : (W.iterAt k s pos).heap.size = W.heap.size := by simp [World.iterAt]
theorem byte_back (x : UInt8) : ((x.toNat : Int)).toNat.toUInt8 = x := by simp
theorem indexAny_short (s : ByteArray) (w : World) (h8 : s.size ≤ 8) :
    Calls Tryz.prog 134 #[.string s, .string ⟨#[43, 45]⟩] w fun e w' => e = .returned (vI vK (Lib.indexAny s.data.toList [43, 45])) ∧ Below w.heap.size w w' := by
  have h8z : decide ((8 : Int) < (s.size : Int)) = false := decide_eq_false (by omega)
  go_enter Tryz.func134, Tryz.ntmps134
  go_wp2
  go_loopw [9, 10] (fun _ _ wr => ∃ i : Nat, i ≤ s.size ∧ wr.heap[w.heap.size]? = some (.stringIter s i) ∧ Below w.heap.size w wr ∧ Lib.NoAny s.data.toList [43, 45] i) (fun _ _ wr => s.size - wr.iterPos w.heap.size)
  case atStart => exact ⟨0, by omega, World.iter_heap w s 0, (bF _ _).alloc (Nat.le_refl _) _, Lib.NoAny.zero _ _⟩
  case round =>
    obtain ⟨i, hi, hit, hbw, hno⟩ := hrel
    have HN : Hid (Lib.NoAny s.data.toList [43, 45] i) := hno
    clear hno
    have hlw : w.heap.size < wr.heap.size := (Array.getElem?_eq_some_iff.1 hit).1
    have hpos : wr.iterPos w.heap.size = i := by simp [World.iterPos, hit]
    by_cases hlt : i < s.size
    · by_cases ha : (s[i]'hlt).toNat < 128
      · have hnx := fun ty => Lib.run_next_ascii_at (P := Tryz.prog) wr w.heap.size s i ty hit hlt ha
        have hit2 := Lib.iterAt_heap wr w.heap.size s i (i + 1) hit
        have hpos2 : (wr.iterAt w.heap.size s (i + 1)).iterPos w.heap.size = i + 1 := by simp [World.iterPos, hit2]
        have hb2 := any_iterAt (s := s) (pos := i + 1) hbw (Nat.le_refl _)
        obtain ⟨x, hx⟩ : ∃ x : UInt8, s[i]'hlt = x := ⟨_, rfl⟩
        have Hx : Hid (s.data.toList[i]? = some x) := by rw [← hx]; exact Lib.data_getElem? s i hlt
        rw [hx] at hnx ha
        have hcon := Lib.contains_iff_indexByte [43, 45] x
        have HP : Hid (wr.iterPos w.heap.size = i) := hpos
        have HP2 : Hid ((wr.iterAt w.heap.size s (i + 1)).iterPos w.heap.size = i + 1) := hpos2
        clear hx hpos hpos2
        cases hin : ([43, 45] : List UInt8).contains x
        · rw [hin] at hcon
          have Hin : Hid (([43, 45] : List UInt8).contains x = false) := hin
          have hlt0 : ¬ ((0 : Int) ≤ Lib.indexByte [43, 45] x) := of_decide_eq_false hcon.symm
          clear hcon hin
          go_wp2_with (go_at_call 173; refine (Tryz.strings_IndexRune_ascii _ _ _ (by omega) (by omega)).mono ?_; rintro e w' ⟨rfl, hw⟩; rw [hw, byte_back])
          go_roundw
          case rel => first | exact ⟨i + 1, by omega, hit2, hb2, HN.out.succ Hx.out Hin.out⟩ | ((repeat apply Exists.intro); exact ⟨⟨i + 1, by omega, hit2, hb2, HN.out.succ Hx.out Hin.out⟩, rfl⟩)
          case measure => rw [HP.out, HP2.out]; omega
        · rw [hin] at hcon
          have Hin : Hid (([43, 45] : List UInt8).contains x = true) := hin
          have hge : (0 : Int) ≤ Lib.indexByte [43, 45] x := of_decide_eq_true hcon.symm
          clear hcon hin
          go_wp2_with (go_at_call 173; refine (Tryz.strings_IndexRune_ascii _ _ _ (by omega) (by omega)).mono ?_; rintro e w' ⟨rfl, hw⟩; rw [hw, byte_back])
          go_ret
          exact ⟨by rw [Lib.indexAny_hit HN.out Hx.out Hin.out]; rfl, hb2⟩
      · have hd := decode_high s i hlt (by omega)
        have hbs := decode_bytes s i hlt (by omega)
        have hnx := fun ty => Lib.run_next_any_at (P := Tryz.prog) wr w.heap.size s i ty hit hlt
        obtain ⟨c, hc⟩ : ∃ c : Nat, (Utf8.decode s i).1 = c := ⟨_, rfl⟩
        obtain ⟨k, hk⟩ : ∃ k : Nat, (Utf8.decode s i).2 = k := ⟨_, rfl⟩
        simp only [hc, hk] at hnx
        rw [hc, hk] at hd
        rw [hk] at hbs
        have hle : i + k ≤ s.size := by have := (hbs (k - 1) (by omega)).1; omega
        have hit2 := Lib.iterAt_heap wr w.heap.size s i (i + k) hit
        have hb2 := any_iterAt (s := s) (pos := i + k) hbw (Nat.le_refl _)
        have hN2 : Hid (Lib.NoAny s.data.toList [43, 45] (i + k)) := noAny_high HN.out hbs
        have HP : Hid (wr.iterPos w.heap.size = i) := hpos
        clear hpos hc hk hbs
        go_wp2_with (go_at_call 173; refine (indexRune_high _ (by omega) _).mono ?_; rintro e w1 ⟨rfl, hb1⟩)
        have hit3 : w1.heap[w.heap.size]? = some (.stringIter s (i + k)) := (hb1.block _ (by rw [size_iterAt]; omega)).trans hit2
        have hb3 : Below w.heap.size w w1 := hb2.trans (hb1.mono (by rw [size_iterAt]; omega))
        have hpos3 : w1.iterPos w.heap.size = i + k := by simp [World.iterPos, hit3]
        go_roundw
        case rel => first | exact ⟨i + k, hle, hit3, hb3, hN2.out⟩ | ((repeat apply Exists.intro); exact ⟨⟨i + k, hle, hit3, hb3, hN2.out⟩, rfl⟩)
        case measure => rw [HP.out, hpos3]; omega
    · obtain rfl : i = s.size := by omega
      have hnx := fun ty => Lib.run_next_end_at (P := Tryz.prog) wr w.heap.size s s.size ty hit hlt
      go_wp2
      go_ret
      exact ⟨by rw [Lib.indexAny_none (by rw [← Lib.size_eq]; exact HN.out)]; rfl, hbw⟩
theorem Tryz.info256 : (Tryz.prog.info? (Tryz.lays153_ren.t 116)).map (fun i => (i.zero, i.size)) = some (some (.agg (Array.replicate 256 (.bool false))), 256) := by kernel_rfl
theorem indexAny_any (b : ByteArray) (w : World) (hb : b.size ≤ 100000) (_hT : Tabs ex w) :
    Calls Tryz.prog 134 #[.string b, .string ⟨#[43, 45]⟩] w fun e w' => e = .returned (vI vK (Lib.indexAny b.data.toList [43, 45])) ∧ Below w.heap.size w w' := by
  by_cases h8 : b.size ≤ 8
  · exact indexAny_short b w h8
  · refine (Any.strings_IndexAny_long Tryz.lays153 (zero_of_info Tryz.info256).1 (zero_of_info Tryz.info256).2 b ⟨#[43, 45]⟩ w (by decide) (by omega) (by omega) (by decide) ?_).mono fun e w' ⟨h1, h2⟩ => ⟨h1, ?_⟩
    · intro j x hx
      match j, hx with
      | 0, hx => cases hx; decide
      | 1, hx => cases hx; decide
      | j + 2, hx => cases hx
    · rw [h2]
      exact ((bF _ _).alloc (Nat.le_refl _) _).alloc (by simp) _
end Go.Proofs.YtednmkhdehlojaaGreatDoor
namespace Go.Proofs.YtednmkhdehlojaaGreatDoor
open Go.ChangeShapes Go.WideShapes Go.ChangeAt Go.RowKit
variable {ex : Ext}

def inner1 (b : ByteArray) : ByteArray := ⟨(Lib.trimPrefix b.data.toList [91]).toArray⟩
def inner (b : ByteArray) : ByteArray := ⟨(Lib.trimSuffix (inner1 b).data.toList [93]).toArray⟩
def opened (b : ByteArray) : Bool := Lib.hasPrefix b.data.toList [91]
def closed (b : ByteArray) : Bool := Lib.hasSuffix (inner1 b).data.toList [93]
def signAt (b : ByteArray) : Int := Lib.indexAny (inner b).data.toList [43, 45]
def behind (b : ByteArray) (k : Nat) : ByteArray := ⟨(Lib.trimPrefix ((inner b).extract k (inner b).size).data.toList [43]).toArray⟩
def placeOf (b : ByteArray) : Option (Nat × Int) :=
  if opened b = true ∧ closed b = true ∧ 0 ≤ signAt b then
    match regOf ((inner b).extract 0 (signAt b).toNat), numOf (behind b (signAt b).toNat) with
    | some r, some n => some (r, n)
    | _, _ => none
  else none
theorem trimPrefix_le (l p : List UInt8) : (Lib.trimPrefix l p).length ≤ l.length := by
  unfold Lib.trimPrefix; split
  · simp
  · exact Nat.le_refl _
theorem trimSuffix_le (l p : List UInt8) : (Lib.trimSuffix l p).length ≤ l.length := by
  unfold Lib.trimSuffix; split
  · simp
  · exact Nat.le_refl _
theorem size_mk (l : List UInt8) : (ByteArray.mk l.toArray).size = l.length := by
  show l.toArray.size = _
  rw [List.size_toArray]
theorem size_list (b : ByteArray) : b.data.toList.length = b.size := by simp
theorem inner1_size (b : ByteArray) : (inner1 b).size ≤ b.size := by
  unfold inner1; rw [size_mk, ← size_list b]; exact trimPrefix_le _ _
theorem inner_size (b : ByteArray) : (inner b).size ≤ b.size := by
  refine Nat.le_trans ?_ (inner1_size b)
  unfold inner; rw [size_mk, ← size_list (inner1 b)]; exact trimSuffix_le _ _
theorem behind_size (b : ByteArray) (k : Nat) : (behind b k).size ≤ b.size := by
  refine Nat.le_trans ?_ (inner_size b)
  unfold behind; rw [size_mk]
  refine Nat.le_trans (trimPrefix_le _ _) ?_
  rw [size_list, ByteArray.size_extract]; omega
theorem cutOpen_any (b : ByteArray) (w : World) : Calls Tryz.prog 132 #[.string b, .string ⟨#[91]⟩] w fun e w' => e = .returned (.tuple #[.string (inner1 b), .bool (opened b)]) ∧ w' = w := Tryz.strings_CutPrefix b ⟨#[91]⟩ w
theorem cutClose_any (b : ByteArray) (w : World) (hb : b.size ≤ 100000) : Calls Tryz.prog 133 #[.string (inner1 b), .string ⟨#[93]⟩] w fun e w' => e = .returned (.tuple #[.string (inner b), .bool (closed b)]) ∧ w' = w :=
  Tryz.strings_CutSuffix (inner1 b) ⟨#[93]⟩ w (by have := inner1_size b; omega)
theorem signAt_any (b : ByteArray) (w : World) (hb : b.size ≤ 100000) (hT : Tabs ex w) :
    Calls Tryz.prog 134 #[.string (inner b), .string ⟨#[43, 45]⟩] w fun e w' => e = .returned (vI vK (signAt b)) ∧ Below w.heap.size w w' :=
  indexAny_any (inner b) w (by have := inner_size b; omega) hT
theorem trimPlus_any (b : ByteArray) (k : Nat) (w : World) : Calls Tryz.prog 135 #[.string ((inner b).extract k (inner b).size), .string ⟨#[43]⟩] w fun e w' => e = .returned (.string (behind b k)) ∧ w' = w := Tryz.strings_TrimPrefix _ ⟨#[43]⟩ w
theorem indexAny_lt : ∀ (l c : List UInt8), Lib.indexAny l c < l.length ∧ -1 ≤ Lib.indexAny l c
  | [], c => by simp [Lib.indexAny]
  | b :: l, c => by
    have ih := indexAny_lt l c
    unfold Lib.indexAny
    rw [List.length_cons]
    split
    · exact ⟨by omega, by omega⟩
    · split
      · exact ⟨by omega, by omega⟩
      · rename_i h
        simp at h
        exact ⟨by omega, by omega⟩
def placeV (b : ByteArray) : Value := match placeOf b with
  | some (r, n) => .tuple #[vI vK (r : Int), vI vK n, .bool true]
  | none => .tuple #[vI vK 0, vI vK 0, .bool false]
theorem placeV_none {b : ByteArray} (h : placeOf b = none) : placeV b = .tuple #[vI vK 0, vI vK 0, .bool false] := by unfold placeV; rw [h]
theorem placeV_some {b : ByteArray} {r : Nat} {n : Int} (h : placeOf b = some (r, n)) : placeV b = .tuple #[vI vK (r : Int), vI vK n, .bool true] := by unfold placeV; rw [h]
theorem place_any (he : ∀ w, ex.holds w → ErrTabs w) (b : ByteArray) (w : World) (hb : b.size ≤ 100000) (hT : Tabs ex w) :
    Calls Tryz.prog 93 #[.string b] w fun e w' => e = .returned (placeV b) ∧ Below w.heap.size w w' := by
  have hF := Fine.start hT
  have his := inner_size b
  by_cases p1 : opened b = true
  · by_cases p2 : closed b = true
    · by_cases p3 : 0 ≤ signAt b
      · have hlt := (indexAny_lt (inner b).data.toList [43, 45]).1
        rw [size_list] at hlt
        obtain ⟨k, hk⟩ := Int.eq_ofNat_of_zero_le p3
        have hkl : k < (inner b).size := by
          have : (signAt b) < (inner b).size := hlt
          omega
        have HP : Hid (placeOf b = match regOf ((inner b).extract 0 k), numOf (behind b k) with
            | some r, some n => some (r, n)
            | _, _ => none) := by
          show placeOf b = _
          unfold placeOf
          rw [if_pos ⟨p1, p2, p3⟩, hk]; rfl
        have hbs := behind_size b k
        clear hlt p3
        cases hr : regOf ((inner b).extract 0 k) with
        | none =>
          have HN : Hid (placeV b = .tuple #[vI vK 0, vI vK 0, .bool false]) := placeV_none (by rw [HP.out, hr])
          go_enter Tryz.func93, Tryz.ntmps93
          go_wp2_with (first
            | (go_at_call 132; refine (cutOpen_any _ _).mono ?_; rintro e w0 ⟨rfl, rfl⟩)
            | (go_at_call 133; refine (cutClose_any b _ hb).mono ?_; rintro e w0 ⟨rfl, rfl⟩)
            | (go_at_call 134; refine (signAt_any b _ hb hT).mono ?_; rintro e w1 ⟨rfl, hb1⟩)
            | (go_at_call 90; refine (register_any _ _ (hF.call hb1).tabs).mono ?_; rintro e w2 ⟨rfl, hb2⟩)
            | (go_at_call 135; refine (trimPlus_any b k _).mono ?_; rintro e w0 ⟨rfl, rfl⟩)
            | (go_at_call 92; refine (offset_any he _ _ (by omega) ((hF.call hb1).call hb2).tabs).mono ?_; rintro e w3 ⟨rfl, hb3⟩))
          go_ret3
          exact ⟨by rw [HN.out]; rfl, ((hF.call hb1).call hb2 |>.call hb3).bel⟩
        | some r =>
          cases hn : numOf (behind b k) with
          | none =>
            have HN : Hid (placeV b = .tuple #[vI vK 0, vI vK 0, .bool false]) := placeV_none (by rw [HP.out, hr, hn])
            go_enter Tryz.func93, Tryz.ntmps93
            go_wp2_with (first
              | (go_at_call 132; refine (cutOpen_any _ _).mono ?_; rintro e w0 ⟨rfl, rfl⟩)
              | (go_at_call 133; refine (cutClose_any b _ hb).mono ?_; rintro e w0 ⟨rfl, rfl⟩)
              | (go_at_call 134; refine (signAt_any b _ hb hT).mono ?_; rintro e w1 ⟨rfl, hb1⟩)
              | (go_at_call 90; refine (register_any _ _ (hF.call hb1).tabs).mono ?_; rintro e w2 ⟨rfl, hb2⟩)
              | (go_at_call 135; refine (trimPlus_any b k _).mono ?_; rintro e w0 ⟨rfl, rfl⟩)
              | (go_at_call 92; refine (offset_any he _ _ (by omega) ((hF.call hb1).call hb2).tabs).mono ?_; rintro e w3 ⟨rfl, hb3⟩))
            go_ret3
            exact ⟨by rw [HN.out]; rfl, ((hF.call hb1).call hb2 |>.call hb3).bel⟩
          | some n =>
            have HN : Hid (placeV b = .tuple #[vI vK (r : Int), vI vK n, .bool true]) := placeV_some (by rw [HP.out, hr, hn])
            go_enter Tryz.func93, Tryz.ntmps93
            go_wp2_with (first
              | (go_at_call 132; refine (cutOpen_any _ _).mono ?_; rintro e w0 ⟨rfl, rfl⟩)
              | (go_at_call 133; refine (cutClose_any b _ hb).mono ?_; rintro e w0 ⟨rfl, rfl⟩)
              | (go_at_call 134; refine (signAt_any b _ hb hT).mono ?_; rintro e w1 ⟨rfl, hb1⟩)
              | (go_at_call 90; refine (register_any _ _ (hF.call hb1).tabs).mono ?_; rintro e w2 ⟨rfl, hb2⟩)
              | (go_at_call 135; refine (trimPlus_any b k _).mono ?_; rintro e w0 ⟨rfl, rfl⟩)
              | (go_at_call 92; refine (offset_any he _ _ (by omega) ((hF.call hb1).call hb2).tabs).mono ?_; rintro e w3 ⟨rfl, hb3⟩))
            go_ret3
            exact ⟨by rw [HN.out]; rfl, ((hF.call hb1).call hb2 |>.call hb3).bel⟩
      · have HN : Hid (placeV b = .tuple #[vI vK 0, vI vK 0, .bool false]) := placeV_none (by unfold placeOf; rw [if_neg (fun h => p3 h.2.2)])
        have x3 : decide (signAt b < 0) = true := by simp; omega
        go_enter Tryz.func93, Tryz.ntmps93
        go_wp2_with (first
          | (go_at_call 132; refine (cutOpen_any _ _).mono ?_; rintro e w0 ⟨rfl, rfl⟩)
          | (go_at_call 133; refine (cutClose_any b _ hb).mono ?_; rintro e w0 ⟨rfl, rfl⟩)
          | (go_at_call 134; refine (signAt_any b _ hb hT).mono ?_; rintro e w1 ⟨rfl, hb1⟩))
        go_ret3
        exact ⟨by rw [HN.out]; rfl, (hF.call hb1).bel⟩
    · have HN : Hid (placeV b = .tuple #[vI vK 0, vI vK 0, .bool false]) := placeV_none (by unfold placeOf; rw [if_neg (fun h => p2 h.2.1)])
      have p2' : closed b = false := by simpa using p2
      clear p2
      go_enter Tryz.func93, Tryz.ntmps93
      go_wp2_with (first
        | (go_at_call 132; refine (cutOpen_any _ _).mono ?_; rintro e w0 ⟨rfl, rfl⟩)
        | (go_at_call 133; refine (cutClose_any b _ hb).mono ?_; rintro e w0 ⟨rfl, rfl⟩)
        | (go_at_call 134; refine (signAt_any b _ hb hT).mono ?_; rintro e w1 ⟨rfl, hb1⟩))
      go_ret3
      exact ⟨by rw [HN.out]; rfl, (hF.call hb1).bel⟩
  · have HN : Hid (placeV b = .tuple #[vI vK 0, vI vK 0, .bool false]) := placeV_none (by unfold placeOf; rw [if_neg (fun h => p1 h.1)])
    have p1' : opened b = false := by simpa using p1
    clear p1
    go_enter Tryz.func93, Tryz.ntmps93
    go_wp2_with (first
      | (go_at_call 132; refine (cutOpen_any _ _).mono ?_; rintro e w0 ⟨rfl, rfl⟩)
      | (go_at_call 133; refine (cutClose_any b _ hb).mono ?_; rintro e w0 ⟨rfl, rfl⟩)
      | (go_at_call 134; refine (signAt_any b _ hb hT).mono ?_; rintro e w1 ⟨rfl, hb1⟩))
    go_ret3
    exact ⟨by rw [HN.out]; rfl, (hF.call hb1).bel⟩
end Go.Proofs.YtednmkhdehlojaaGreatDoor
