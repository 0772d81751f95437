/-
A part of the proof of DeskPieces; its card says what is proved.
-/
import Derived.Test.YtkdflpplamebkaaGreatDoorRows
import Derived.ProofKit
import Derived.OpenShut
import Derived.WalkLawsBesides
import Derived.BigGuardPart
import Derived.Test.YtkdflpplamebkaaGreatDoorJp0
import Derived.Shelf.Strings.OnBuilder
import Derived.Shelf.Small.Utf8
import Derived.Shelf.Small.Wraps
import Derived.Shelf.Strings.BuilderK
import Derived.Shelf.Strconv.Itoa4
import Derived.Shelf.Strconv.ErrVarParseInt
import Derived.Shelf.Strings.Shaped
import Derived.Shelf.Strings.IndexAnyAll
import Derived.Shelf.Unicode.DecodeAny
import Derived.Shelf.Strings.FieldsFuncAny
set_option maxHeartbeats 40000000
open Go.Value renaming int → A
open Go.IntKind renaming i64 → C
open Go.RowKit.Below renaming alloc → bA, setCell → bS, drew → bD, refl → bF
set_option maxRecDepth 1000000
set_option linter.defProp false
set_option linter.unusedVariables false
set_option linter.unusedSimpArgs false
open Go.Ending renaming returned → rT
open Go.Value renaming pointer → pT
open Go.Obj renaming cells → cT
open Go.Proofs.Tryz renaming prog → tP
namespace Go.Proofs.YtkdflpplamebkaaGreatDoor
open Go.ChangeShapes Go.WideShapes Go.ChangeAt Go.RowKit

theorem z1a{a b:Bool}(h:a=b):Ending.returned (.bool a)= rT (.bool b):=by rw[h]
theorem zNh{k:IntKind}{a b:Int}(h:a=b):Ending.returned (.int k a)= rT (.int k b):=by rw[h]

def z4s(c d s:Int)(r:Bool)(o n:Int):Bool:=
 if 1<=c/\c<=12 then(if r then o !=0||n !=0 else s !=0||o !=0)
 else if 15<=c/\c<=24 then(if r then n !=0 else s !=0)
 else if c=13 then s !=0||r||o !=0||n !=0
 else if c=14 then d !=0||s !=0||r||n !=0
 else if c=25 then r||n !=0
 else if c=26 then(if r then n !=0 else s !=0)
 else if c=27 then d !=0||s !=0||r||o !=0
 else d !=0||s !=0||r||o !=0||n !=0
def z3k(c d s:Int)(r:Bool)(o n:Int):Int:=
 if c<1\/28<c then 3
 else if d<0\/10<d\/s<0\/10<s then 2
 else if((1<=c/\c<=13)\/c=25)/\d=10 then 6
 else if z4s c d s r o n=true\/(c=27/\n≠1/\n≠2/\n≠3)then 1 else 0
def z4l(c d s:Int)(r:Bool)(o n b:Int):Int:=
 if z3k c d s r o n≠0 then z3k c d s r o n
 else if(c=14\/(15<=c/\c<=24))/\(o<0\/b<=o)then 10
 else if b=0/\c≠28 then 8 else 0

theorem zIh(c d s o n:Int)(h1:1<=c)(h2:c<=12)(w:World):
  zR 136 #[.agg #[A C c,A C d,A C s,.bool true,A C o,A C n]] w (.bool (o !=0||n !=0)):=by
 have e13:(c==13)=false:=kZ;have e14:(c==14)=false:=kZ;have e25:(c==25)=false:=kZ;have e26:(c==26)=false:=kZ;have e27:(c==27)=false:=kZ;have e28:(c==28)=false:=kZ;go_enter Tryz.func136,Tryz.ntmps136;go_wp2
 all_goals
  go_ret;exact⟨z1a (by simp[*]),(bF _ _).alloc (Nat.le_refl _) _⟩
theorem zF8(c d s o n:Int)(h1:1<=c)(h2:c<=12)(w:World):
  zR 136 #[.agg #[A C c,A C d,A C s,.bool false,A C o,A C n]] w (.bool (s !=0||o !=0)):=by
 have e13:(c==13)=false:=kZ;have e14:(c==14)=false:=kZ;have e25:(c==25)=false:=kZ;have e26:(c==26)=false:=kZ;have e27:(c==27)=false:=kZ;have e28:(c==28)=false:=kZ;go_enter Tryz.func136,Tryz.ntmps136;go_wp2
 all_goals
  go_ret;exact⟨z1a (by simp[*]),(bF _ _).alloc (Nat.le_refl _) _⟩
theorem zIo(c d s o n:Int)(h1:15<=c)(h2:c<=24)(w:World):
  zR 136 #[.agg #[A C c,A C d,A C s,.bool true,A C o,A C n]] w (.bool (n !=0)):=by
 have e13:(c==13)=false:=kZ;have e14:(c==14)=false:=kZ;have e25:(c==25)=false:=kZ;have e26:(c==26)=false:=kZ;have e27:(c==27)=false:=kZ;have e28:(c==28)=false:=kZ;have g1:1<=c:=kO;have g2:decide (c<=12)=false:=kZ;go_enter Tryz.func136,Tryz.ntmps136;go_wp2
 all_goals
  go_ret;exact⟨z1a (by simp[*]),(bF _ _).alloc (Nat.le_refl _) _⟩
theorem zFf(c d s o n:Int)(h1:15<=c)(h2:c<=24)(w:World):
  zR 136 #[.agg #[A C c,A C d,A C s,.bool false,A C o,A C n]] w (.bool (s !=0)):=by
 have e13:(c==13)=false:=kZ;have e14:(c==14)=false:=kZ;have e25:(c==25)=false:=kZ;have e26:(c==26)=false:=kZ;have e27:(c==27)=false:=kZ;have e28:(c==28)=false:=kZ;have g1:1<=c:=kO;have g2:decide (c<=12)=false:=kZ;go_enter Tryz.func136,Tryz.ntmps136;go_wp2
 all_goals
  go_ret;exact⟨z1a (by simp[*]),(bF _ _).alloc (Nat.le_refl _) _⟩
theorem zIn(d s o n:Int)(w:World):
  zR 136 #[.agg #[A C 13,A C d,A C s,.bool true,A C o,A C n]] w (.bool (s !=0||true||o !=0||n !=0)):=by
 go_enter Tryz.func136,Tryz.ntmps136;go_wp2
 all_goals
  go_ret;exact⟨z1a (by simp[*]),(bF _ _).alloc (Nat.le_refl _) _⟩
theorem zFe(d s o n:Int)(w:World):
  zR 136 #[.agg #[A C 13,A C d,A C s,.bool false,A C o,A C n]] w (.bool (s !=0||false||o !=0||n !=0)):=by
 go_enter Tryz.func136,Tryz.ntmps136;go_wp2
 all_goals
  go_ret;exact⟨z1a (by simp[*]),(bF _ _).alloc (Nat.le_refl _) _⟩
theorem zIm(d s o n:Int)(w:World):
  zR 136 #[.agg #[A C 14,A C d,A C s,.bool true,A C o,A C n]] w (.bool (d !=0||s !=0||true||n !=0)):=by
 go_enter Tryz.func136,Tryz.ntmps136;go_wp2
 all_goals
  go_ret;exact⟨z1a (by simp[*]),(bF _ _).alloc (Nat.le_refl _) _⟩
theorem zFd(d s o n:Int)(w:World):
  zR 136 #[.agg #[A C 14,A C d,A C s,.bool false,A C o,A C n]] w (.bool (d !=0||s !=0||false||n !=0)):=by
 go_enter Tryz.func136,Tryz.ntmps136;go_wp2
 all_goals
  go_ret;exact⟨z1a (by simp[*]),(bF _ _).alloc (Nat.le_refl _) _⟩
theorem zIl(d s o n:Int)(w:World):
  zR 136 #[.agg #[A C 25,A C d,A C s,.bool true,A C o,A C n]] w (.bool (true||n !=0)):=by
 go_enter Tryz.func136,Tryz.ntmps136;go_wp2
 all_goals
  go_ret;exact⟨z1a (by simp[*]),(bF _ _).alloc (Nat.le_refl _) _⟩
theorem zFc(d s o n:Int)(w:World):
  zR 136 #[.agg #[A C 25,A C d,A C s,.bool false,A C o,A C n]] w (.bool (false||n !=0)):=by
 go_enter Tryz.func136,Tryz.ntmps136;go_wp2
 all_goals
  go_ret;exact⟨z1a (by simp[*]),(bF _ _).alloc (Nat.le_refl _) _⟩
theorem zIk(d s o n:Int)(w:World):
  zR 136 #[.agg #[A C 26,A C d,A C s,.bool true,A C o,A C n]] w (.bool (n !=0)):=by
 go_enter Tryz.func136,Tryz.ntmps136;go_wp2
 all_goals
  go_ret;exact⟨z1a (by simp[*]),(bF _ _).alloc (Nat.le_refl _) _⟩
theorem zFb(d s o n:Int)(w:World):
  zR 136 #[.agg #[A C 26,A C d,A C s,.bool false,A C o,A C n]] w (.bool (s !=0)):=by
 go_enter Tryz.func136,Tryz.ntmps136;go_wp2
 all_goals
  go_ret;exact⟨z1a (by simp[*]),(bF _ _).alloc (Nat.le_refl _) _⟩
theorem zIj(d s o n:Int)(w:World):
  zR 136 #[.agg #[A C 27,A C d,A C s,.bool true,A C o,A C n]] w (.bool (d !=0||s !=0||true||o !=0)):=by
 go_enter Tryz.func136,Tryz.ntmps136;go_wp2
 all_goals
  go_ret;exact⟨z1a (by simp[*]),(bF _ _).alloc (Nat.le_refl _) _⟩
theorem zFa(d s o n:Int)(w:World):
  zR 136 #[.agg #[A C 27,A C d,A C s,.bool false,A C o,A C n]] w (.bool (d !=0||s !=0||false||o !=0)):=by
 go_enter Tryz.func136,Tryz.ntmps136;go_wp2
 all_goals
  go_ret;exact⟨z1a (by simp[*]),(bF _ _).alloc (Nat.le_refl _) _⟩
theorem zIi(d s o n:Int)(w:World):
  zR 136 #[.agg #[A C 28,A C d,A C s,.bool true,A C o,A C n]] w (.bool (d !=0||s !=0||true||o !=0||n !=0)):=by
 go_enter Tryz.func136,Tryz.ntmps136;go_wp2
 all_goals
  go_ret;exact⟨z1a (by simp[*]),(bF _ _).alloc (Nat.le_refl _) _⟩
theorem zF9(d s o n:Int)(w:World):
  zR 136 #[.agg #[A C 28,A C d,A C s,.bool false,A C o,A C n]] w (.bool (d !=0||s !=0||false||o !=0||n !=0)):=by
 go_enter Tryz.func136,Tryz.ntmps136;go_wp2
 all_goals
  go_ret;exact⟨z1a (by simp[*]),(bF _ _).alloc (Nat.le_refl _) _⟩
theorem z9u(c d s:Int)(r:Bool)(o n:Int)(h1:1<=c)(h2:c<=28)(w:World):
  zR 136 #[.agg #[A C c,A C d,A C s,.bool r,A C o,A C n]] w (.bool (z4s c d s r o n)):=by
 have hc:(1<=c/\c<=12)\/(15<=c/\c<=24)\/c=13\/c=14\/c=25\/c=26\/c=27\/c=28:=kO;rcases hc with⟨a1,a2⟩|⟨a1,a2⟩|rfl|rfl|rfl|rfl|rfl|rfl
 ·have e:z4s c d s r o n=(if r then o !=0||n !=0 else s !=0||o !=0):=by unfold z4s;rw[if_pos ⟨a1,a2⟩]
  rw[e];cases r
  ·exact zF8 c d s o n a1 a2 w
  ·exact zIh c d s o n a1 a2 w
 ·have e:z4s c d s r o n=(if r then n !=0 else s !=0):=by unfold z4s;rw[if_neg kO,if_pos ⟨a1,a2⟩]
  rw[e];cases r
  ·exact zFf c d s o n a1 a2 w
  ·exact zIo c d s o n a1 a2 w
 ·cases r
  ·exact zFe d s o n w
  ·exact zIn d s o n w
 ·cases r
  ·exact zFd d s o n w
  ·exact zIm d s o n w
 ·cases r
  ·exact zFc d s o n w
  ·exact zIl d s o n w
 ·cases r
  ·exact zFb d s o n w
  ·exact zIk d s o n w
 ·cases r
  ·exact zFa d s o n w
  ·exact zIj d s o n w
 cases r
 ·exact zF9 d s o n w
 exact zIi d s o n w
end Go.Proofs.YtkdflpplamebkaaGreatDoor
namespace Go.Proofs
open Go.Shelf
def Tryz.lays169_ren:Go.Shelf.Ren:=⟨fun|169=>7|n=>n,fun|70=>24|9=>9|0=>0|72=>27|37=>25|127=>44|3=>3|5=>5|n=>n,fun|n=>n⟩
theorem Tryz.lays169:Go.Proofs.Lays.n169 tP Tryz.lays169_ren:={
 mixed:=by kernel_rfl
 f169:=Tryz.func7.trans (congrArg some (by kernel_rfl))
 t0:=Tryz.underlying0
 a0:=Tryz.isAgg0
 z0:=Tryz.sizeOf0
 v0:=Tryz.zeroValue0
 t3:=Tryz.underlying3
 a3:=Tryz.isAgg3
 z3:=Tryz.sizeOf3
 v3:=Tryz.zeroValue3
 t9:=Tryz.underlying9
 a9:=Tryz.isAgg9
 z9:=Tryz.sizeOf9
 v9:=Tryz.zeroValue9
 t37:=Tryz.underlying25
 a37:=Tryz.isAgg25
 z37:=Tryz.sizeOf25
 v37:=Tryz.zeroValue25
 t70:=Tryz.underlying24
 a70:=Tryz.isAgg24
 z70:=Tryz.sizeOf24
 v70:=Tryz.zeroValue24
 t72:=Tryz.underlying27
 a72:=Tryz.isAgg27
 z72:=Tryz.sizeOf27
 v72:=Tryz.zeroValue27
 t127:=Tryz.underlying44
 a127:=Tryz.isAgg44
 z127:=Tryz.sizeOf44
 v127:=Tryz.zeroValue44}
theorem Tryz.Builder_Extra_169:Builder.Extra tP Tryz.lays169_ren:={
 sizeBuilder:=by kernel_rfl
 liesBuilder:=by kernel_rfl
 t5:=Tryz.underlying5
 a5:=Tryz.isAgg5
 z5:=Tryz.sizeOf5
 v5:=Tryz.zeroValue5
 infoByte:=by kernel_rfl
 cellsByte:=by kernel_rfl
 sizeByte:=by kernel_rfl
 neB5:=by decide}
def Tryz.lays156_ren:Go.Shelf.Ren:=⟨fun|156=>45|165=>73|166=>5|169=>7|240=>12|241=>106|276=>33|277=>134|n=>n,fun|31=>57|9=>9|3=>3|4=>4|0=>0|20=>20|72=>27|76=>30|70=>24|37=>25|75=>29|127=>44|164=>62|5=>5|80=>34|n=>n,fun|n=>n⟩
theorem Tryz.lays156:Go.Proofs.Lays.n156 tP Tryz.lays156_ren:={
 mixed:=by kernel_rfl
 f156:=Tryz.func45.trans (congrArg some (by kernel_rfl))
 f165:=Tryz.func73.trans (congrArg some (by kernel_rfl))
 f166:=Tryz.func5.trans (congrArg some (by kernel_rfl))
 f169:=Tryz.func7.trans (congrArg some (by kernel_rfl))
 f240:=Tryz.func12.trans (congrArg some (by kernel_rfl))
 f241:=Tryz.func106.trans (congrArg some (by kernel_rfl))
 f276:=Tryz.func33.trans (congrArg some (by kernel_rfl))
 f277:=Tryz.func134.trans (congrArg some (by kernel_rfl))
 t0:=Tryz.underlying0
 a0:=Tryz.isAgg0
 z0:=Tryz.sizeOf0
 v0:=Tryz.zeroValue0
 t3:=Tryz.underlying3
 a3:=Tryz.isAgg3
 z3:=Tryz.sizeOf3
 v3:=Tryz.zeroValue3
 t4:=Tryz.underlying4
 a4:=Tryz.isAgg4
 z4:=Tryz.sizeOf4
 v4:=Tryz.zeroValue4
 t9:=Tryz.underlying9
 a9:=Tryz.isAgg9
 z9:=Tryz.sizeOf9
 v9:=Tryz.zeroValue9
 t20:=Tryz.underlying20
 a20:=Tryz.isAgg20
 z20:=Tryz.sizeOf20
 v20:=Tryz.zeroValue20
 t31:=Tryz.underlying57
 a31:=Tryz.isAgg57
 z31:=Tryz.sizeOf57
 v31:=Tryz.zeroValue57
 t37:=Tryz.underlying25
 a37:=Tryz.isAgg25
 z37:=Tryz.sizeOf25
 v37:=Tryz.zeroValue25
 t70:=Tryz.underlying24
 a70:=Tryz.isAgg24
 z70:=Tryz.sizeOf24
 v70:=Tryz.zeroValue24
 t72:=Tryz.underlying27
 a72:=Tryz.isAgg27
 z72:=Tryz.sizeOf27
 v72:=Tryz.zeroValue27
 t75:=Tryz.underlying29
 a75:=Tryz.isAgg29
 z75:=Tryz.sizeOf29
 v75:=Tryz.zeroValue29
 t76:=Tryz.underlying30
 a76:=Tryz.isAgg30
 z76:=Tryz.sizeOf30
 v76:=Tryz.zeroValue30
 t127:=Tryz.underlying44
 a127:=Tryz.isAgg44
 z127:=Tryz.sizeOf44
 v127:=Tryz.zeroValue44
 t164:=Tryz.underlying62
 a164:=Tryz.isAgg62
 z164:=Tryz.sizeOf62
 v164:=Tryz.zeroValue62}
theorem Tryz.Builder_Extra_156:Builder.Extra tP Tryz.lays156_ren:={
 sizeBuilder:=by kernel_rfl
 liesBuilder:=by kernel_rfl
 t5:=Tryz.underlying5
 a5:=Tryz.isAgg5
 z5:=Tryz.sizeOf5
 v5:=Tryz.zeroValue5
 infoByte:=by kernel_rfl
 cellsByte:=by kernel_rfl
 sizeByte:=by kernel_rfl
 neB5:=by decide}
open Go.RowKit in
theorem Tryz.strings_Join_none(a:Option Addr)(c:Nat)(sep:ByteArray)(w:World):
  Calls tP 45 #[.slice a 0 c,.string sep] w fun e w'=>e= rT (.string ⟨#[]⟩)/\w'=w:=Any.strings_Join_none Tryz.lays156 Tryz.Builder_Extra_156 a c sep w
open Go.RowKit in
theorem Tryz.strings_Join(bk o c:Nat)(xs:List ByteArray)(sep:ByteArray)(w:World)(hcells: ∀(j:Nat) x,xs[j]?=some x->w.cell? ⟨bk,o+j,none⟩=some (.string x))(hbk:bk<w.heap.size)(hN:xs.length<=140737488355328)(hcap:xs.length<=c)(hlen:(Lib.join (xs.map (·.data.toList)) sep.data.toList).length<=140737488355328):
  Calls tP 45 #[.slice (some ⟨bk,o,none⟩) xs.length c,.string sep] w fun e w'=>e= rT (.string ⟨(Lib.join (xs.map (·.data.toList)) sep.data.toList).toArray⟩)/\Below w.heap.size w w':=Any.strings_Join Tryz.lays156 Tryz.Builder_Extra_156 bk o c xs sep w hcells hbk hN hcap hlen
def Tryz.lays103_ren:Go.Shelf.Ren:=⟨fun|103=>202|210=>211|206=>219|n=>n,fun|9=>9|4=>4|24=>302|3=>3|n=>n,fun|n=>n⟩
theorem Tryz.lays103:Go.Proofs.Lays.n103 tP Tryz.lays103_ren:={
 mixed:=by kernel_rfl
 f103:=Tryz.func202.trans (congrArg some (by kernel_rfl))
 f206:=Tryz.func219.trans (congrArg some (by kernel_rfl))
 f210:=Tryz.func211.trans (congrArg some (by kernel_rfl))
 t3:=Tryz.underlying3
 a3:=Tryz.isAgg3
 z3:=Tryz.sizeOf3
 v3:=Tryz.zeroValue3
 t4:=Tryz.underlying4
 a4:=Tryz.isAgg4
 z4:=Tryz.sizeOf4
 v4:=Tryz.zeroValue4
 t9:=Tryz.underlying9
 a9:=Tryz.isAgg9
 z9:=Tryz.sizeOf9
 v9:=Tryz.zeroValue9
 t24:=Tryz.underlying302
 a24:=Tryz.isAgg302
 z24:=Tryz.sizeOf302
 v24:=Tryz.zeroValue302}
open Go.RowKit in
theorem Tryz.strings_CutPrefix(s p:ByteArray)(w:World):
  Calls tP 202 #[.string s,.string p] w fun e w'=>e= rT (.tuple #[.string ⟨(Lib.trimPrefix s.data.toList p.data.toList).toArray⟩,.bool (Lib.hasPrefix s.data.toList p.data.toList)])/\w'=w:=Any.strings_CutPrefix Tryz.lays103 s p w
def Tryz.lays104_ren:Go.Shelf.Ren:=⟨fun|104=>203|211=>212|207=>98|n=>n,fun|9=>9|4=>4|24=>302|3=>3|n=>n,fun|n=>n⟩
theorem Tryz.lays104:Go.Proofs.Lays.n104 tP Tryz.lays104_ren:={
 mixed:=by kernel_rfl
 f104:=Tryz.func203.trans (congrArg some (by kernel_rfl))
 f207:=Tryz.func98.trans (congrArg some (by kernel_rfl))
 f211:=Tryz.func212.trans (congrArg some (by kernel_rfl))
 t3:=Tryz.underlying3
 a3:=Tryz.isAgg3
 z3:=Tryz.sizeOf3
 v3:=Tryz.zeroValue3
 t4:=Tryz.underlying4
 a4:=Tryz.isAgg4
 z4:=Tryz.sizeOf4
 v4:=Tryz.zeroValue4
 t9:=Tryz.underlying9
 a9:=Tryz.isAgg9
 z9:=Tryz.sizeOf9
 v9:=Tryz.zeroValue9
 t24:=Tryz.underlying302
 a24:=Tryz.isAgg302
 z24:=Tryz.sizeOf302
 v24:=Tryz.zeroValue302}
open Go.RowKit in
theorem Tryz.strings_CutSuffix(s p:ByteArray)(w:World)(hs:s.size<=9223372036854775807):
  Calls tP 203 #[.string s,.string p] w fun e w'=>e= rT (.tuple #[.string ⟨(Lib.trimSuffix s.data.toList p.data.toList).toArray⟩,.bool (Lib.hasSuffix s.data.toList p.data.toList)])/\w'=w:=Any.strings_CutSuffix Tryz.lays104 s p w hs
open Go.RowKit in
theorem Tryz.Builder_String_any_k(B b:Nat)(l:List UInt8)(w:World)(h:Lib.IsBuilderF 27 5 B b (Lib.byteCells l) w)(hBw:B<=w.heap.size):
  Calls tP 7 #[pT (some ⟨b,0,none⟩)] w fun e w'=>e= rT (.string ⟨l.toArray⟩)/\(Lib.IsBuilderF 27 5 B b (Lib.byteCells l) w'/\Below B w w'/\Lib.OthersKept 5 (some b) w w'):=Any.Builder_String_any_k Tryz.lays169 Tryz.Builder_Extra_169 B b l w h hBw
def Tryz.laysM171_ren:Go.Shelf.Ren:=⟨fun|171=>13|243=>34|246=>63|283=>100|284=>101|285=>102|286=>103|129=>125|317=>124|318=>126|319=>127|320=>128|337=>165|338=>166|n=>n,fun|3=>3|9=>9|2=>2|4=>4|171=>181|0=>0|53=>182|37=>25|5=>5|173=>185|212=>214|51=>215|20=>20|213=>216|46=>217|232=>299|233=>300|n=>n,fun|17=>0|18=>8|19=>9|n=>n⟩
theorem Tryz.laysM171:Go.Proofs.LaysM.n171 tP Tryz.laysM171_ren:={
 mixed:=by kernel_rfl
 f129:=Tryz.func125.trans (congrArg some (by kernel_rfl))
 f171:=Tryz.func13.trans (congrArg some (by kernel_rfl))
 f243:=Tryz.func34.trans (congrArg some (by kernel_rfl))
 f246:=Tryz.func63.trans (congrArg some (by kernel_rfl))
 f283:=Tryz.func100.trans (congrArg some (by kernel_rfl))
 f284:=Tryz.func101.trans (congrArg some (by kernel_rfl))
 f285:=Tryz.func102.trans (congrArg some (by kernel_rfl))
 f286:=Tryz.func103.trans (congrArg some (by kernel_rfl))
 f317:=Tryz.func124.trans (congrArg some (by kernel_rfl))
 f318:=Tryz.func126.trans (congrArg some (by kernel_rfl))
 f319:=Tryz.func127.trans (congrArg some (by kernel_rfl))
 f320:=Tryz.func128.trans (congrArg some (by kernel_rfl))
 f337:=Tryz.func165.trans (congrArg some (by kernel_rfl))
 f338:=Tryz.func166.trans (congrArg some (by kernel_rfl))
 t0:=Tryz.underlying0
 a0:=Tryz.isAgg0
 z0:=Tryz.sizeOf0
 v0:=Tryz.zeroValue0
 t2:=Tryz.underlying2
 a2:=Tryz.isAgg2
 z2:=Tryz.sizeOf2
 v2:=Tryz.zeroValue2
 t3:=Tryz.underlying3
 a3:=Tryz.isAgg3
 z3:=Tryz.sizeOf3
 v3:=Tryz.zeroValue3
 t4:=Tryz.underlying4
 a4:=Tryz.isAgg4
 z4:=Tryz.sizeOf4
 v4:=Tryz.zeroValue4
 t5:=Tryz.underlying5
 a5:=Tryz.isAgg5
 z5:=Tryz.sizeOf5
 v5:=Tryz.zeroValue5
 t9:=Tryz.underlying9
 a9:=Tryz.isAgg9
 z9:=Tryz.sizeOf9
 v9:=Tryz.zeroValue9
 t20:=Tryz.underlying20
 a20:=Tryz.isAgg20
 z20:=Tryz.sizeOf20
 v20:=Tryz.zeroValue20
 t37:=Tryz.underlying25
 a37:=Tryz.isAgg25
 z37:=Tryz.sizeOf25
 v37:=Tryz.zeroValue25
 t46:=Tryz.underlying217
 a46:=Tryz.isAgg217
 z46:=Tryz.sizeOf217
 v46:=Tryz.zeroValue217
 t51:=Tryz.underlying215
 a51:=Tryz.isAgg215
 z51:=Tryz.sizeOf215
 v51:=Tryz.zeroValue215
 t53:=Tryz.underlying182
 a53:=Tryz.isAgg182
 z53:=Tryz.sizeOf182
 v53:=Tryz.zeroValue182
 t171:=Tryz.underlying181
 a171:=Tryz.isAgg181
 z171:=Tryz.sizeOf181
 v171:=Tryz.zeroValue181
 t173:=Tryz.underlying185
 a173:=Tryz.isAgg185
 z173:=Tryz.sizeOf185
 v173:=Tryz.zeroValue185
 t212:=Tryz.underlying214
 a212:=Tryz.isAgg214
 z212:=Tryz.sizeOf214
 v212:=Tryz.zeroValue214
 t213:=Tryz.underlying216
 a213:=Tryz.isAgg216
 z213:=Tryz.sizeOf216
 t232:=Tryz.underlying299
 a232:=Tryz.isAgg299
 z232:=Tryz.sizeOf299
 v232:=Tryz.zeroValue299
 t233:=Tryz.underlying300
 a233:=Tryz.isAgg300
 z233:=Tryz.sizeOf300
 v233:=Tryz.zeroValue300
 g17:=by kernel_rfl
 g18:=by kernel_rfl
 g19:=by kernel_rfl
 i0:=by kernel_rfl
 i2:=by kernel_rfl
 i3:=by kernel_rfl
 i4:=by kernel_rfl
 i5:=by kernel_rfl
 i9:=by kernel_rfl
 i20:=by kernel_rfl
 i37:=by kernel_rfl
 i46:=by kernel_rfl
 i51:=by kernel_rfl
 i53:=by kernel_rfl
 i171:=by kernel_rfl
 i173:=by kernel_rfl
 i212:=by kernel_rfl
 i232:=by kernel_rfl
 i233:=by kernel_rfl
 m17:=by kernel_rfl
 m18:=by kernel_rfl
 m19:=by kernel_rfl}
open Go.RowKit Go.Sort Go.Lib in
theorem Tryz.strconv_Itoa(n:Int)(h0: -9223372036854775808<=n)(h1:n<=9223372036854775807)(w:World)(htab:Lib.TabIs tP w "internal/strconv.uint64pow10" .u64 Lib.pow10Tab):
  Calls tP 13 #[.int .i64 n] w fun e w'=>e= rT (.string ⟨(Lib.itoa n).toArray⟩)/\ ∃k os,w'=grow (w.drewN k) os:=Any.strconv_Itoa Tryz.laysM171 n h0 h1 w htab
def Tryz.laysM173_ren:Go.Shelf.Ren:=⟨fun|173=>66|246=>63|283=>100|284=>101|285=>102|286=>103|129=>125|317=>124|318=>126|319=>127|320=>128|337=>165|338=>166|n=>n,fun|2=>2|3=>3|9=>9|4=>4|171=>181|0=>0|53=>182|37=>25|5=>5|173=>185|212=>214|51=>215|20=>20|213=>216|46=>217|232=>299|233=>300|n=>n,fun|17=>0|18=>8|19=>9|n=>n⟩
theorem Tryz.laysM173:Go.Proofs.LaysM.n173 tP Tryz.laysM173_ren:={
 mixed:=by kernel_rfl
 f129:=Tryz.func125.trans (congrArg some (by kernel_rfl))
 f173:=Tryz.func66.trans (congrArg some (by kernel_rfl))
 f246:=Tryz.func63.trans (congrArg some (by kernel_rfl))
 f283:=Tryz.func100.trans (congrArg some (by kernel_rfl))
 f284:=Tryz.func101.trans (congrArg some (by kernel_rfl))
 f285:=Tryz.func102.trans (congrArg some (by kernel_rfl))
 f286:=Tryz.func103.trans (congrArg some (by kernel_rfl))
 f317:=Tryz.func124.trans (congrArg some (by kernel_rfl))
 f318:=Tryz.func126.trans (congrArg some (by kernel_rfl))
 f319:=Tryz.func127.trans (congrArg some (by kernel_rfl))
 f320:=Tryz.func128.trans (congrArg some (by kernel_rfl))
 f337:=Tryz.func165.trans (congrArg some (by kernel_rfl))
 f338:=Tryz.func166.trans (congrArg some (by kernel_rfl))
 t0:=Tryz.underlying0
 a0:=Tryz.isAgg0
 z0:=Tryz.sizeOf0
 v0:=Tryz.zeroValue0
 t2:=Tryz.underlying2
 a2:=Tryz.isAgg2
 z2:=Tryz.sizeOf2
 v2:=Tryz.zeroValue2
 t3:=Tryz.underlying3
 a3:=Tryz.isAgg3
 z3:=Tryz.sizeOf3
 v3:=Tryz.zeroValue3
 t4:=Tryz.underlying4
 a4:=Tryz.isAgg4
 z4:=Tryz.sizeOf4
 v4:=Tryz.zeroValue4
 t5:=Tryz.underlying5
 a5:=Tryz.isAgg5
 z5:=Tryz.sizeOf5
 v5:=Tryz.zeroValue5
 t9:=Tryz.underlying9
 a9:=Tryz.isAgg9
 z9:=Tryz.sizeOf9
 v9:=Tryz.zeroValue9
 t20:=Tryz.underlying20
 a20:=Tryz.isAgg20
 z20:=Tryz.sizeOf20
 v20:=Tryz.zeroValue20
 t37:=Tryz.underlying25
 a37:=Tryz.isAgg25
 z37:=Tryz.sizeOf25
 v37:=Tryz.zeroValue25
 t46:=Tryz.underlying217
 a46:=Tryz.isAgg217
 z46:=Tryz.sizeOf217
 v46:=Tryz.zeroValue217
 t51:=Tryz.underlying215
 a51:=Tryz.isAgg215
 z51:=Tryz.sizeOf215
 v51:=Tryz.zeroValue215
 t53:=Tryz.underlying182
 a53:=Tryz.isAgg182
 z53:=Tryz.sizeOf182
 v53:=Tryz.zeroValue182
 t171:=Tryz.underlying181
 a171:=Tryz.isAgg181
 z171:=Tryz.sizeOf181
 v171:=Tryz.zeroValue181
 t173:=Tryz.underlying185
 a173:=Tryz.isAgg185
 z173:=Tryz.sizeOf185
 v173:=Tryz.zeroValue185
 t212:=Tryz.underlying214
 a212:=Tryz.isAgg214
 z212:=Tryz.sizeOf214
 v212:=Tryz.zeroValue214
 t213:=Tryz.underlying216
 a213:=Tryz.isAgg216
 z213:=Tryz.sizeOf216
 t232:=Tryz.underlying299
 a232:=Tryz.isAgg299
 z232:=Tryz.sizeOf299
 v232:=Tryz.zeroValue299
 t233:=Tryz.underlying300
 a233:=Tryz.isAgg300
 z233:=Tryz.sizeOf300
 v233:=Tryz.zeroValue300
 g17:=by kernel_rfl
 g18:=by kernel_rfl
 g19:=by kernel_rfl
 i0:=by kernel_rfl
 i2:=by kernel_rfl
 i3:=by kernel_rfl
 i4:=by kernel_rfl
 i5:=by kernel_rfl
 i9:=by kernel_rfl
 i20:=by kernel_rfl
 i37:=by kernel_rfl
 i46:=by kernel_rfl
 i51:=by kernel_rfl
 i53:=by kernel_rfl
 i171:=by kernel_rfl
 i173:=by kernel_rfl
 i212:=by kernel_rfl
 i232:=by kernel_rfl
 i233:=by kernel_rfl
 m17:=by kernel_rfl
 m18:=by kernel_rfl
 m19:=by kernel_rfl}
open Go.RowKit Go.Sort Go.Lib in
theorem Tryz.strconv_FormatInt_10(n:Int)(h0: -9223372036854775808<=n)(h1:n<=9223372036854775807)(w:World)(htab:Lib.TabIs tP w "internal/strconv.uint64pow10" .u64 Lib.pow10Tab):
  Calls tP 66 #[.int .i64 n,.int .i64 10] w fun e w'=>e= rT (.string ⟨(Lib.itoa n).toArray⟩)/\ ∃k os,w'=grow (w.drewN k) os:=Any.strconv_FormatInt_10 Tryz.laysM173 n h0 h1 w htab
def Tryz.laysC174_ren:Go.Shelf.Ren:=⟨fun|174=>99|247=>122|245=>123|287=>160|279=>161|280=>162|281=>163|282=>164|321=>195|322=>196|316=>197|171=>13|205=>198|243=>34|246=>63|283=>100|284=>101|285=>102|286=>103|129=>125|317=>124|318=>126|319=>127|320=>128|337=>165|338=>166|n=>n,fun|9=>9|3=>3|2=>2|75=>29|85=>179|4=>4|167=>245|5=>5|53=>182|175=>246|46=>217|168=>248|37=>25|0=>0|210=>297|21=>21|127=>44|145=>310|143=>308|171=>181|173=>185|212=>214|51=>215|20=>20|213=>216|232=>299|233=>300|80=>34|n=>n,fun|15=>6|16=>7|17=>0|18=>8|19=>9|n=>n⟩
theorem Tryz.laysC174:Go.Proofs.LaysC.n174 tP Tryz.laysC174_ren:={
 mixed:=by kernel_rfl
 f129:=Tryz.func125.trans (congrArg some (by kernel_rfl))
 f171:=Tryz.func13.trans (congrArg some (by kernel_rfl))
 f174:=Tryz.func99.trans (congrArg some (by kernel_rfl))
 f205:=Tryz.func198.trans (congrArg some (by kernel_rfl))
 f243:=Tryz.func34.trans (congrArg some (by kernel_rfl))
 f245:=Tryz.func123.trans (congrArg some (by kernel_rfl))
 f246:=Tryz.func63.trans (congrArg some (by kernel_rfl))
 f247:=Tryz.func122.trans (congrArg some (by kernel_rfl))
 f279:=Tryz.func161.trans (congrArg some (by kernel_rfl))
 f280:=Tryz.func162.trans (congrArg some (by kernel_rfl))
 f281:=Tryz.func163.trans (congrArg some (by kernel_rfl))
 f282:=Tryz.func164.trans (congrArg some (by kernel_rfl))
 f283:=Tryz.func100.trans (congrArg some (by kernel_rfl))
 f284:=Tryz.func101.trans (congrArg some (by kernel_rfl))
 f285:=Tryz.func102.trans (congrArg some (by kernel_rfl))
 f286:=Tryz.func103.trans (congrArg some (by kernel_rfl))
 f287:=Tryz.func160.trans (congrArg some (by kernel_rfl))
 f316:=Tryz.func197.trans (congrArg some (by kernel_rfl))
 f317:=Tryz.func124.trans (congrArg some (by kernel_rfl))
 f318:=Tryz.func126.trans (congrArg some (by kernel_rfl))
 f319:=Tryz.func127.trans (congrArg some (by kernel_rfl))
 f320:=Tryz.func128.trans (congrArg some (by kernel_rfl))
 f321:=Tryz.func195.trans (congrArg some (by kernel_rfl))
 f322:=Tryz.func196.trans (congrArg some (by kernel_rfl))
 f337:=Tryz.func165.trans (congrArg some (by kernel_rfl))
 f338:=Tryz.func166.trans (congrArg some (by kernel_rfl))
 t0:=Tryz.underlying0
 a0:=Tryz.isAgg0
 z0:=Tryz.sizeOf0
 v0:=Tryz.zeroValue0
 t2:=Tryz.underlying2
 a2:=Tryz.isAgg2
 z2:=Tryz.sizeOf2
 v2:=Tryz.zeroValue2
 t3:=Tryz.underlying3
 a3:=Tryz.isAgg3
 z3:=Tryz.sizeOf3
 v3:=Tryz.zeroValue3
 t4:=Tryz.underlying4
 a4:=Tryz.isAgg4
 z4:=Tryz.sizeOf4
 v4:=Tryz.zeroValue4
 t5:=Tryz.underlying5
 a5:=Tryz.isAgg5
 z5:=Tryz.sizeOf5
 v5:=Tryz.zeroValue5
 t9:=Tryz.underlying9
 a9:=Tryz.isAgg9
 z9:=Tryz.sizeOf9
 v9:=Tryz.zeroValue9
 t20:=Tryz.underlying20
 a20:=Tryz.isAgg20
 z20:=Tryz.sizeOf20
 v20:=Tryz.zeroValue20
 t21:=Tryz.underlying21
 a21:=Tryz.isAgg21
 z21:=Tryz.sizeOf21
 v21:=Tryz.zeroValue21
 t37:=Tryz.underlying25
 a37:=Tryz.isAgg25
 z37:=Tryz.sizeOf25
 v37:=Tryz.zeroValue25
 t46:=Tryz.underlying217
 a46:=Tryz.isAgg217
 z46:=Tryz.sizeOf217
 v46:=Tryz.zeroValue217
 t51:=Tryz.underlying215
 a51:=Tryz.isAgg215
 z51:=Tryz.sizeOf215
 v51:=Tryz.zeroValue215
 t53:=Tryz.underlying182
 a53:=Tryz.isAgg182
 z53:=Tryz.sizeOf182
 v53:=Tryz.zeroValue182
 t75:=Tryz.underlying29
 a75:=Tryz.isAgg29
 z75:=Tryz.sizeOf29
 v75:=Tryz.zeroValue29
 t85:=Tryz.underlying179
 a85:=Tryz.isAgg179
 z85:=Tryz.sizeOf179
 v85:=Tryz.zeroValue179
 t127:=Tryz.underlying44
 a127:=Tryz.isAgg44
 z127:=Tryz.sizeOf44
 v127:=Tryz.zeroValue44
 t143:=Tryz.underlying308
 a143:=Tryz.isAgg308
 z143:=Tryz.sizeOf308
 v143:=Tryz.zeroValue308
 t145:=Tryz.underlying310
 a145:=Tryz.isAgg310
 z145:=Tryz.sizeOf310
 v145:=Tryz.zeroValue310
 t167:=Tryz.underlying245
 a167:=Tryz.isAgg245
 z167:=Tryz.sizeOf245
 v167:=Tryz.zeroValue245
 t168:=Tryz.underlying248
 a168:=Tryz.isAgg248
 z168:=Tryz.sizeOf248
 v168:=Tryz.zeroValue248
 t171:=Tryz.underlying181
 a171:=Tryz.isAgg181
 z171:=Tryz.sizeOf181
 v171:=Tryz.zeroValue181
 t173:=Tryz.underlying185
 a173:=Tryz.isAgg185
 z173:=Tryz.sizeOf185
 v173:=Tryz.zeroValue185
 t175:=Tryz.underlying246
 a175:=Tryz.isAgg246
 z175:=Tryz.sizeOf246
 v175:=Tryz.zeroValue246
 t210:=Tryz.underlying297
 a210:=Tryz.isAgg297
 z210:=Tryz.sizeOf297
 v210:=Tryz.zeroValue297
 t212:=Tryz.underlying214
 a212:=Tryz.isAgg214
 z212:=Tryz.sizeOf214
 v212:=Tryz.zeroValue214
 t213:=Tryz.underlying216
 a213:=Tryz.isAgg216
 z213:=Tryz.sizeOf216
 t232:=Tryz.underlying299
 a232:=Tryz.isAgg299
 z232:=Tryz.sizeOf299
 v232:=Tryz.zeroValue299
 t233:=Tryz.underlying300
 a233:=Tryz.isAgg300
 z233:=Tryz.sizeOf300
 v233:=Tryz.zeroValue300
 g15:=by kernel_rfl
 g16:=by kernel_rfl
 g17:=by kernel_rfl
 g18:=by kernel_rfl
 g19:=by kernel_rfl
 t80:=Tryz.underlying34
 a80:=Tryz.isAgg34
 z80:=Tryz.sizeOf34
 v80:=Tryz.zeroValue34
 i0:=by kernel_rfl
 i2:=by kernel_rfl
 i3:=by kernel_rfl
 i4:=by kernel_rfl
 i5:=by kernel_rfl
 i9:=by kernel_rfl
 i20:=by kernel_rfl
 i21:=by kernel_rfl
 i37:=by kernel_rfl
 i46:=by kernel_rfl
 i51:=by kernel_rfl
 i53:=by kernel_rfl
 i75:=by kernel_rfl
 i80:=by kernel_rfl
 i85:=by kernel_rfl
 i127:=by kernel_rfl
 i143:=by kernel_rfl
 i145:=by kernel_rfl
 i167:=by kernel_rfl
 i168:=by kernel_rfl
 i171:=by kernel_rfl
 i173:=by kernel_rfl
 i175:=by kernel_rfl
 i210:=by kernel_rfl
 i212:=by kernel_rfl
 i232:=by kernel_rfl
 i233:=by kernel_rfl
 m15:=by kernel_rfl
 m16:=by kernel_rfl
 m17:=by kernel_rfl
 m18:=by kernel_rfl
 m19:=by kernel_rfl
 c0:=by kernel_rfl
 c2:=by kernel_rfl
 c3:=by kernel_rfl
 c4:=by kernel_rfl
 c5:=by kernel_rfl
 c9:=by kernel_rfl
 c20:=by kernel_rfl
 c21:=by kernel_rfl
 c37:=by kernel_rfl
 c46:=by kernel_rfl
 c51:=by kernel_rfl
 c53:=by kernel_rfl
 c75:=by kernel_rfl
 c80:=by kernel_rfl
 c85:=by kernel_rfl
 c127:=by kernel_rfl
 c143:=by kernel_rfl
 c145:=by kernel_rfl
 c167:=by kernel_rfl
 c168:=by kernel_rfl
 c171:=by kernel_rfl
 c173:=by kernel_rfl
 c175:=by kernel_rfl
 c210:=by kernel_rfl
 c212:=by kernel_rfl
 c213:=by kernel_rfl
 c232:=by kernel_rfl
 c233:=by kernel_rfl}
open Go.RowKit in
theorem Tryz.strconv_ParseInt_10_at64_ok(s:ByteArray)(hmax:s.size<=9223372036854775806)(v:Int)(h:Lib.parseIntB 64 s.data.toList= .ok v)(w:World):
  Calls tP 99 #[.string s,.int .i64 10,.int .i64 64] w fun e w'=>e= rT (.tuple #[.int .i64 v,.nilIface])/\(w'=w\/ ∃t,w'=Lib.bytesWorld w 5 t):=Any.strconv_ParseInt_10_at64_ok Tryz.laysC174 s hmax v h w
open Go.RowKit in
theorem Tryz.strconv_ParseInt_10_at64_syntax(s:ByteArray)(hlim:s.size<=281474976710656)(h:Lib.parseIntB 64 s.data.toList= .«syntax»)(ev:Value)(w:World)(hv:w.cell? ⟨6,0,none⟩=some ev)(hev:ev= .nilIface\/ ∃te pe,ev= .iface te pe):
  Calls tP 99 #[.string s,.int .i64 10,.int .i64 64] w fun e w'=> ∃N,e= rT (.tuple #[.int .i64 (0),.iface 248 (pT (some ⟨N,0,none⟩))])/\w.heap.size<=N/\w'.heap[N]?=some (cT #[.string ⟨#[80,97,114,115,101,73,110,116]⟩,.string s,ev] 297 (0,0))/\Below w.heap.size w w':=Any.strconv_ParseInt_10_at64_syntax Tryz.laysC174 s hlim h ev w hv hev
open Go.RowKit in
theorem Tryz.strconv_ParseInt_10_at64_range(s:ByteArray)(hlim:s.size<=281474976710656)(h:Lib.parseIntB 64 s.data.toList= .range)(ev:Value)(w:World)(hv:w.cell? ⟨7,0,none⟩=some ev)(hev:ev= .nilIface\/ ∃te pe,ev= .iface te pe):
  Calls tP 99 #[.string s,.int .i64 10,.int .i64 64] w fun e w'=> ∃N,e= rT (.tuple #[.int .i64 (Lib.intSat 64 s.data.toList),.iface 248 (pT (some ⟨N,0,none⟩))])/\w.heap.size<=N/\w'.heap[N]?=some (cT #[.string ⟨#[80,97,114,115,101,73,110,116]⟩,.string s,ev] 297 (0,0))/\Below w.heap.size w w':=Any.strconv_ParseInt_10_at64_range Tryz.laysC174 s hlim h ev w hv hev
def Tryz.lays143_ren:Go.Shelf.Ren:=⟨fun|143=>97|219=>121|217=>156|225=>157|224=>158|267=>159|266=>193|314=>194|n=>n,fun|9=>9|3=>3|4=>4|5=>5|46=>217|146=>293|51=>215|n=>n,fun|1=>4|n=>n⟩
theorem Tryz.lays143:Go.Proofs.Lays.n143 tP Tryz.lays143_ren:={
 mixed:=by kernel_rfl
 f143:=Tryz.func97.trans (congrArg some (by kernel_rfl))
 f217:=Tryz.func156.trans (congrArg some (by kernel_rfl))
 f219:=Tryz.func121.trans (congrArg some (by kernel_rfl))
 f224:=Tryz.func158.trans (congrArg some (by kernel_rfl))
 f225:=Tryz.func157.trans (congrArg some (by kernel_rfl))
 f266:=Tryz.func193.trans (congrArg some (by kernel_rfl))
 f267:=Tryz.func159.trans (congrArg some (by kernel_rfl))
 f314:=Tryz.func194.trans (congrArg some (by kernel_rfl))
 t3:=Tryz.underlying3
 a3:=Tryz.isAgg3
 z3:=Tryz.sizeOf3
 v3:=Tryz.zeroValue3
 t4:=Tryz.underlying4
 a4:=Tryz.isAgg4
 z4:=Tryz.sizeOf4
 v4:=Tryz.zeroValue4
 t5:=Tryz.underlying5
 a5:=Tryz.isAgg5
 z5:=Tryz.sizeOf5
 v5:=Tryz.zeroValue5
 t9:=Tryz.underlying9
 a9:=Tryz.isAgg9
 z9:=Tryz.sizeOf9
 v9:=Tryz.zeroValue9
 t46:=Tryz.underlying217
 a46:=Tryz.isAgg217
 z46:=Tryz.sizeOf217
 v46:=Tryz.zeroValue217
 t51:=Tryz.underlying215
 a51:=Tryz.isAgg215
 z51:=Tryz.sizeOf215
 v51:=Tryz.zeroValue215
 t146:=Tryz.underlying293
 a146:=Tryz.isAgg293
 z146:=Tryz.sizeOf293
 v146:=Tryz.zeroValue293
 g1:=by kernel_rfl}
open Go.RowKit Go.Lib in
theorem Tryz.strings_Index_one(s:ByteArray)(c:UInt8)(w:World):
  Calls tP 97 #[.string s,.string ⟨#[c]⟩] w fun e w'=>e= rT (.int .i64 (Lib.indexByte s.data.toList c))/\w'=w:=Any.strings_Index_one Tryz.lays143 s c w
def Tryz.lays206_ren:Go.Shelf.Ren:=⟨fun|206=>219|n=>n,fun|9=>9|4=>4|3=>3|n=>n,fun|n=>n⟩
theorem Tryz.lays206:Go.Proofs.Lays.n206 tP Tryz.lays206_ren:={
 mixed:=by kernel_rfl
 f206:=Tryz.func219.trans (congrArg some (by kernel_rfl))
 t3:=Tryz.underlying3
 a3:=Tryz.isAgg3
 z3:=Tryz.sizeOf3
 v3:=Tryz.zeroValue3
 t4:=Tryz.underlying4
 a4:=Tryz.isAgg4
 z4:=Tryz.sizeOf4
 v4:=Tryz.zeroValue4
 t9:=Tryz.underlying9
 a9:=Tryz.isAgg9
 z9:=Tryz.sizeOf9
 v9:=Tryz.zeroValue9}
open Go.RowKit Go.Lib in
theorem Tryz.stringslite_HasPrefix(s p:ByteArray)(w:World):
  Calls tP 219 #[.string s,.string p] w fun e w'=>e= rT (.bool (Lib.hasPrefix s.data.toList p.data.toList))/\w'=w:=Any.stringslite_HasPrefix Tryz.lays206 s p w
def Tryz.lays207_ren:Go.Shelf.Ren:=⟨fun|207=>98|n=>n,fun|9=>9|4=>4|3=>3|n=>n,fun|n=>n⟩
theorem Tryz.lays207:Go.Proofs.Lays.n207 tP Tryz.lays207_ren:={
 mixed:=by kernel_rfl
 f207:=Tryz.func98.trans (congrArg some (by kernel_rfl))
 t3:=Tryz.underlying3
 a3:=Tryz.isAgg3
 z3:=Tryz.sizeOf3
 v3:=Tryz.zeroValue3
 t4:=Tryz.underlying4
 a4:=Tryz.isAgg4
 z4:=Tryz.sizeOf4
 v4:=Tryz.zeroValue4
 t9:=Tryz.underlying9
 a9:=Tryz.isAgg9
 z9:=Tryz.sizeOf9
 v9:=Tryz.zeroValue9}
open Go.RowKit Go.Lib in
theorem Tryz.stringslite_HasSuffix(s p:ByteArray)(w:World)(hs:s.size<=9223372036854775807):
  Calls tP 98 #[.string s,.string p] w fun e w'=>e= rT (.bool (Lib.hasSuffix s.data.toList p.data.toList))/\w'=w:=Any.stringslite_HasSuffix Tryz.lays207 s p w hs
def Tryz.lays101_ren:Go.Shelf.Ren:=⟨fun|101=>205|208=>217|206=>219|n=>n,fun|9=>9|4=>4|3=>3|n=>n,fun|n=>n⟩
theorem Tryz.lays101:Go.Proofs.Lays.n101 tP Tryz.lays101_ren:={
 mixed:=by kernel_rfl
 f101:=Tryz.func205.trans (congrArg some (by kernel_rfl))
 f206:=Tryz.func219.trans (congrArg some (by kernel_rfl))
 f208:=Tryz.func217.trans (congrArg some (by kernel_rfl))
 t3:=Tryz.underlying3
 a3:=Tryz.isAgg3
 z3:=Tryz.sizeOf3
 v3:=Tryz.zeroValue3
 t4:=Tryz.underlying4
 a4:=Tryz.isAgg4
 z4:=Tryz.sizeOf4
 v4:=Tryz.zeroValue4
 t9:=Tryz.underlying9
 a9:=Tryz.isAgg9
 z9:=Tryz.sizeOf9
 v9:=Tryz.zeroValue9}
open Go.RowKit Go.Lib in
theorem Tryz.strings_TrimPrefix(s p:ByteArray)(w:World):
  Calls tP 205 #[.string s,.string p] w fun e w'=>e= rT (.string ⟨(Lib.trimPrefix s.data.toList p.data.toList).toArray⟩)/\w'=w:=Any.strings_TrimPrefix Tryz.lays101 s p w
def Tryz.lays102_ren:Go.Shelf.Ren:=⟨fun|102=>28|209=>61|207=>98|n=>n,fun|9=>9|4=>4|3=>3|n=>n,fun|n=>n⟩
theorem Tryz.lays102:Go.Proofs.Lays.n102 tP Tryz.lays102_ren:={
 mixed:=by kernel_rfl
 f102:=Tryz.func28.trans (congrArg some (by kernel_rfl))
 f207:=Tryz.func98.trans (congrArg some (by kernel_rfl))
 f209:=Tryz.func61.trans (congrArg some (by kernel_rfl))
 t3:=Tryz.underlying3
 a3:=Tryz.isAgg3
 z3:=Tryz.sizeOf3
 v3:=Tryz.zeroValue3
 t4:=Tryz.underlying4
 a4:=Tryz.isAgg4
 z4:=Tryz.sizeOf4
 v4:=Tryz.zeroValue4
 t9:=Tryz.underlying9
 a9:=Tryz.isAgg9
 z9:=Tryz.sizeOf9
 v9:=Tryz.zeroValue9}
open Go.RowKit Go.Lib in
theorem Tryz.strings_TrimSuffix(s p:ByteArray)(w:World)(hs:s.size<=9223372036854775807):
  Calls tP 28 #[.string s,.string p] w fun e w'=>e= rT (.string ⟨(Lib.trimSuffix s.data.toList p.data.toList).toArray⟩)/\w'=w:=Any.strings_TrimSuffix Tryz.lays102 s p w hs
def Tryz.lays152_ren:Go.Shelf.Ren:=⟨fun|152=>213|137=>220|119=>221|224=>158|225=>157|217=>156|266=>193|n=>n,fun|9=>9|21=>21|3=>3|4=>4|5=>5|0=>0|46=>217|n=>n,fun|n=>n⟩
theorem Tryz.lays152:Go.Proofs.Lays.n152 tP Tryz.lays152_ren:={
 mixed:=by kernel_rfl
 f119:=Tryz.func221.trans (congrArg some (by kernel_rfl))
 f137:=Tryz.func220.trans (congrArg some (by kernel_rfl))
 f152:=Tryz.func213.trans (congrArg some (by kernel_rfl))
 f217:=Tryz.func156.trans (congrArg some (by kernel_rfl))
 f224:=Tryz.func158.trans (congrArg some (by kernel_rfl))
 f225:=Tryz.func157.trans (congrArg some (by kernel_rfl))
 f266:=Tryz.func193.trans (congrArg some (by kernel_rfl))
 t0:=Tryz.underlying0
 a0:=Tryz.isAgg0
 z0:=Tryz.sizeOf0
 v0:=Tryz.zeroValue0
 t3:=Tryz.underlying3
 a3:=Tryz.isAgg3
 z3:=Tryz.sizeOf3
 v3:=Tryz.zeroValue3
 t4:=Tryz.underlying4
 a4:=Tryz.isAgg4
 z4:=Tryz.sizeOf4
 v4:=Tryz.zeroValue4
 t5:=Tryz.underlying5
 a5:=Tryz.isAgg5
 z5:=Tryz.sizeOf5
 v5:=Tryz.zeroValue5
 t9:=Tryz.underlying9
 a9:=Tryz.isAgg9
 z9:=Tryz.sizeOf9
 v9:=Tryz.zeroValue9
 t21:=Tryz.underlying21
 a21:=Tryz.isAgg21
 z21:=Tryz.sizeOf21
 v21:=Tryz.zeroValue21
 t46:=Tryz.underlying217
 a46:=Tryz.isAgg217
 z46:=Tryz.sizeOf217
 v46:=Tryz.zeroValue217}
open Go.RowKit Go.Lib in
theorem Tryz.strings_IndexRune_ascii(s:ByteArray)(r:Int)(w:World)(h0:0<=r)(h1:r<128):
  Calls tP 213 #[.string s,.int .i32 r] w fun e w'=>e= rT (.int .i64 (Lib.indexByte s.data.toList r.toNat.toUInt8))/\w'=w:=Any.strings_IndexRune_ascii Tryz.lays152 s r w h0 h1
def Tryz.lays153_ren:Go.Shelf.Ren:=⟨fun|153=>204|152=>213|226=>214|227=>215|228=>216|137=>220|119=>221|224=>158|225=>157|217=>156|266=>193|n=>n,fun|9=>9|3=>3|4=>4|5=>5|21=>21|117=>314|116=>313|0=>0|46=>217|124=>319|n=>n,fun|n=>n⟩
theorem Tryz.lays153:Go.Proofs.Lays.n153 tP Tryz.lays153_ren:={
 mixed:=by kernel_rfl
 f119:=Tryz.func221.trans (congrArg some (by kernel_rfl))
 f137:=Tryz.func220.trans (congrArg some (by kernel_rfl))
 f152:=Tryz.func213.trans (congrArg some (by kernel_rfl))
 f153:=Tryz.func204.trans (congrArg some (by kernel_rfl))
 f217:=Tryz.func156.trans (congrArg some (by kernel_rfl))
 f224:=Tryz.func158.trans (congrArg some (by kernel_rfl))
 f225:=Tryz.func157.trans (congrArg some (by kernel_rfl))
 f226:=Tryz.func214.trans (congrArg some (by kernel_rfl))
 f227:=Tryz.func215.trans (congrArg some (by kernel_rfl))
 f228:=Tryz.func216.trans (congrArg some (by kernel_rfl))
 f266:=Tryz.func193.trans (congrArg some (by kernel_rfl))
 t0:=Tryz.underlying0
 a0:=Tryz.isAgg0
 z0:=Tryz.sizeOf0
 v0:=Tryz.zeroValue0
 t3:=Tryz.underlying3
 a3:=Tryz.isAgg3
 z3:=Tryz.sizeOf3
 v3:=Tryz.zeroValue3
 t4:=Tryz.underlying4
 a4:=Tryz.isAgg4
 z4:=Tryz.sizeOf4
 v4:=Tryz.zeroValue4
 t5:=Tryz.underlying5
 a5:=Tryz.isAgg5
 z5:=Tryz.sizeOf5
 v5:=Tryz.zeroValue5
 t9:=Tryz.underlying9
 a9:=Tryz.isAgg9
 z9:=Tryz.sizeOf9
 v9:=Tryz.zeroValue9
 t21:=Tryz.underlying21
 a21:=Tryz.isAgg21
 z21:=Tryz.sizeOf21
 v21:=Tryz.zeroValue21
 t46:=Tryz.underlying217
 a46:=Tryz.isAgg217
 z46:=Tryz.sizeOf217
 v46:=Tryz.zeroValue217
 t116:=Tryz.underlying313
 a116:=Tryz.isAgg313
 z116:=Tryz.sizeOf313
 t117:=Tryz.underlying314
 a117:=Tryz.isAgg314
 z117:=Tryz.sizeOf314
 v117:=Tryz.zeroValue314
 t124:=Tryz.underlying319
 a124:=Tryz.isAgg319
 z124:=Tryz.sizeOf319
 v124:=Tryz.zeroValue319}
open Go.RowKit Go.Lib in
theorem Tryz.strings_IndexAny_laid(s chars:ByteArray)(w:World)(hs:s.size<4294967281)(hcs:chars.size<4294967281)(has: ∀(j:Nat) b,s.data.toList[j]?=some b->b.toNat<128)(hac: ∀(j:Nat) b,chars.data.toList[j]?=some b->b.toNat<128):
  Calls tP 204 #[.string s,.string chars] w fun e w'=>e= rT (.int .i64 (Lib.indexAny s.data.toList chars.data.toList))/\Below w.heap.size w w':=Any.strings_IndexAny_laid Tryz.lays153 (by kernel_rfl) s chars w hs hcs has hac
def Tryz.lays197_ren:Go.Shelf.Ren:=⟨fun|197=>96|260=>120|n=>n,fun|9=>9|21=>21|3=>3|4=>4|5=>5|105=>176|119=>240|0=>0|46=>217|139=>243|138=>242|n=>n,fun|3=>2|4=>3|n=>n⟩
theorem Tryz.lays197:Go.Proofs.Lays.n197 tP Tryz.lays197_ren:={
 mixed:=by kernel_rfl
 f197:=Tryz.func96.trans (congrArg some (by kernel_rfl))
 f260:=Tryz.func120.trans (congrArg some (by kernel_rfl))
 t0:=Tryz.underlying0
 a0:=Tryz.isAgg0
 z0:=Tryz.sizeOf0
 v0:=Tryz.zeroValue0
 t3:=Tryz.underlying3
 a3:=Tryz.isAgg3
 z3:=Tryz.sizeOf3
 v3:=Tryz.zeroValue3
 t4:=Tryz.underlying4
 a4:=Tryz.isAgg4
 z4:=Tryz.sizeOf4
 v4:=Tryz.zeroValue4
 t5:=Tryz.underlying5
 a5:=Tryz.isAgg5
 z5:=Tryz.sizeOf5
 v5:=Tryz.zeroValue5
 t9:=Tryz.underlying9
 a9:=Tryz.isAgg9
 z9:=Tryz.sizeOf9
 v9:=Tryz.zeroValue9
 t21:=Tryz.underlying21
 a21:=Tryz.isAgg21
 z21:=Tryz.sizeOf21
 v21:=Tryz.zeroValue21
 t46:=Tryz.underlying217
 a46:=Tryz.isAgg217
 z46:=Tryz.sizeOf217
 v46:=Tryz.zeroValue217
 t105:=Tryz.underlying176
 a105:=Tryz.isAgg176
 z105:=Tryz.sizeOf176
 v105:=Tryz.zeroValue176
 t119:=Tryz.underlying240
 a119:=Tryz.isAgg240
 z119:=Tryz.sizeOf240
 t138:=Tryz.underlying242
 a138:=Tryz.isAgg242
 z138:=Tryz.sizeOf242
 v138:=Tryz.zeroValue242
 t139:=Tryz.underlying243
 a139:=Tryz.isAgg243
 z139:=Tryz.sizeOf243
 v139:=Tryz.zeroValue243
 g3:=by kernel_rfl
 g4:=by kernel_rfl}
open Go.RowKit Go.Lib in
theorem Tryz.utf8_DecodeRuneInString(s:ByteArray)(w:World)(hT:Lib.Utf8Tabs 2 3 w):
  Calls tP 96 #[.string s] w fun e w'=>e= rT (.tuple #[.int .i32 (Lib.decodeGo s).1,.int .i64 (Lib.decodeGo s).2])/\Below w.heap.size w w':=Any.utf8_DecodeRuneInString Tryz.lays197 s w hT
end Go.Proofs
