/-
A part of the proof of DeskPieces; its card says what is proved.
-/
import Derived.Test.YtkdflpplamebkaaGreatDoorJp4
set_option maxHeartbeats 40000000
open Go.Value renaming int → A
open Go.IntKind renaming i64 → B
open Go.RowKit.Below renaming alloc → bA, setCell → bS, drew → bD, refl → bF
set_option maxRecDepth 1000000
set_option linter.defProp false
set_option linter.unusedVariables false
set_option linter.unusedSimpArgs false
open Go.Ending renaming returned → rT
open Go.Value renaming pointer → pT
open Go.Obj renaming cells → cT
open Go.Proofs.Tryz renaming prog → tP
namespace Go.Proofs.YtkdflpplamebkaaGreatDoor
open Go.ChangeShapes Go.WideShapes Go.ChangeAt Go.RowKit
section
def endV(b:Int):Int:=if b=0 then 8 else 0
def zXn(o b:Int):Int:=if o<0 then 10 else if b<=o then 10 else endV b
theorem q5c(c d s o n b:Int)(r:Bool)(h:c<1)(w:World):
  zR 108 #[.agg #[A B c,A B d,A B s,.bool r,A B o,A B n],A B b,.func (Fn.func 107) #[] #[]] w (A B 3):=by
 have z0:decide (c<1)=true:=kZ;go_enter Tryz.func108,Tryz.ntmps108;go_wp2
 all_goals
  go_ret;exact⟨rfl,(by repeat(first|exact bF _ _|refine bA ?_ kS _))⟩
theorem q5d(c d s o n b:Int)(r:Bool)(h:28<c)(w:World):
  zR 108 #[.agg #[A B c,A B d,A B s,.bool r,A B o,A B n],A B b,.func (Fn.func 107) #[] #[]] w (A B 3):=by
 have z0:decide (c<1)=false:=kZ;have z1:decide (28<c)=true:=kZ;go_enter Tryz.func108,Tryz.ntmps108;go_wp2
 all_goals
  go_ret;exact⟨rfl,(by repeat(first|exact bF _ _|refine bA ?_ kS _))⟩
theorem q5a(c d s o n b:Int)(r:Bool)(h1:1<=c)(h2:c<=28)(h:d<0)(w:World):
  zR 108 #[.agg #[A B c,A B d,A B s,.bool r,A B o,A B n],A B b,.func (Fn.func 107) #[] #[]] w (A B 2):=by
 have z0:decide (c<1)=false:=kZ;have z1:decide (28<c)=false:=kZ;have z2:decide (0<=d)=false:=kZ;go_enter Tryz.func108,Tryz.ntmps108;go_wp2
 all_goals
  go_ret;exact⟨rfl,(by repeat(first|exact bF _ _|refine bA ?_ kS _))⟩
theorem q5b(c d s o n b:Int)(r:Bool)(h1:1<=c)(h2:c<=28)(h:10<d)(w:World):
  zR 108 #[.agg #[A B c,A B d,A B s,.bool r,A B o,A B n],A B b,.func (Fn.func 107) #[] #[]] w (A B 2):=by
 have z0:decide (c<1)=false:=kZ;have z1:decide (28<c)=false:=kZ;have z2:decide (0<=d)=true:=kZ;have z3:decide (d<11)=false:=kZ;go_enter Tryz.func108,Tryz.ntmps108;go_wp2
 all_goals
  go_ret;exact⟨rfl,(by repeat(first|exact bF _ _|refine bA ?_ kS _))⟩
theorem q58(c d s o n b:Int)(r:Bool)(h1:1<=c)(h2:c<=28)(d1:0<=d)(d2:d<=10)(h:s<0)(w:World):
  zR 108 #[.agg #[A B c,A B d,A B s,.bool r,A B o,A B n],A B b,.func (Fn.func 107) #[] #[]] w (A B 2):=by
 have z0:decide (c<1)=false:=kZ;have z1:decide (28<c)=false:=kZ;have z2:decide (0<=d)=true:=kZ;have z3:decide (d<11)=true:=kZ;have z4:decide (0<=s)=false:=kZ;go_enter Tryz.func108,Tryz.ntmps108;go_wp2
 all_goals
  go_ret;exact⟨rfl,(by repeat(first|exact bF _ _|refine bA ?_ kS _))⟩
theorem q59(c d s o n b:Int)(r:Bool)(h1:1<=c)(h2:c<=28)(d1:0<=d)(d2:d<=10)(h:10<s)(w:World):
  zR 108 #[.agg #[A B c,A B d,A B s,.bool r,A B o,A B n],A B b,.func (Fn.func 107) #[] #[]] w (A B 2):=by
 have z0:decide (c<1)=false:=kZ;have z1:decide (28<c)=false:=kZ;have z2:decide (0<=d)=true:=kZ;have z3:decide (d<11)=true:=kZ;have z4:decide (0<=s)=true:=kZ;have z5:decide (s<11)=false:=kZ;go_enter Tryz.func108,Tryz.ntmps108;go_wp2
 all_goals
  go_ret;exact⟨rfl,(by repeat(first|exact bF _ _|refine bA ?_ kS _))⟩
theorem op_top(c s o n b:Int)(r:Bool)(h1:1<=c)(h2:c<=13)(s1:0<=s)(s2:s<=10)(w:World):
  zR 108 #[.agg #[A B c,A B 10,A B s,.bool r,A B o,A B n],A B b,.func (Fn.func 107) #[] #[]] w (A B 6):=by
 have z0:decide (c<1)=false:=kZ;have z1:decide (28<c)=false:=kZ;have z2:decide (0<=s)=true:=kZ;have z3:decide (s<11)=true:=kZ;have z4:decide (1<=c)=true:=kZ;have z5:decide (c<=13)=true:=kZ;go_enter Tryz.func108,Tryz.ntmps108;go_wp2
 all_goals
  go_ret;exact⟨rfl,(by repeat(first|exact bF _ _|refine bA ?_ kS _))⟩
theorem q1k(s o n b:Int)(r:Bool)(s1:0<=s)(s2:s<=10)(w:World):
  zR 108 #[.agg #[A B 25,A B 10,A B s,.bool r,A B o,A B n],A B b,.func (Fn.func 107) #[] #[]] w (A B 6):=by
 have z0:decide (0<=s)=true:=kZ;have z1:decide (s<11)=true:=kZ;go_enter Tryz.func108,Tryz.ntmps108;go_wp2
 all_goals
  go_ret;exact⟨rfl,(by repeat(first|exact bF _ _|refine bA ?_ kS _))⟩
theorem z0h{W w1:World}(hb:Below W.heap.size W w1):(∀b o,b<W.heap.size->w1.cell? ⟨b,o,none⟩=W.cell? ⟨b,o,none⟩)/\(∀b o,b<W.heap.size->w1.frozen? ⟨b,o,none⟩=W.frozen? ⟨b,o,none⟩):=
 ⟨fun b o h=>hb.cell (p:=⟨b,o,none⟩) h,fun b o h=>hb.frozen (p:=⟨b,o,none⟩) h⟩
theorem zLk:(∀(c d s o n b:Int)(r:Bool)(h1:15<=c)(h2:c<=24)(d1:0<=d)(d2:d<=10)(s1:0<=s)(s2:s<=10)(hm:z4s c d s r o n=false)(w:World),zR 108 #[.agg #[A B c,A B d,A B s,.bool r,A B o,A B n],A B b,.func (Fn.func 107) #[] #[]] w (A B (zXn o b)))/\(∀(d s o n b:Int)(r:Bool)(d1:0<=d)(d2:d<=10)(s1:0<=s)(s2:s<=10)(hm:z4s 14 d s r o n=false)(w:World),zR 108 #[.agg #[A B 14,A B d,A B s,.bool r,A B o,A B n],A B b,.func (Fn.func 107) #[] #[]] w (A B (zXn o b))):=by
 refine⟨?_,?_⟩;intro c d s o n b r h1 h2 d1 d2 s1 s2 hm w;have e14:(c==14)=false:=kZ;have e25:(c==25)=false:=kZ;have e26:(c==26)=false:=kZ;have e27:(c==27)=false:=kZ;have e28:(c==28)=false:=kZ;rotate_left;intro d s o n b r d1 d2 s1 s2 hm w;rotate_left
 all_goals
  have z0:decide (0<=d)=true:=kZ;have z1:decide (d<11)=true:=kZ;have z2:decide (0<=s)=true:=kZ;have z3:decide (s<11)=true:=kZ
 have z4:decide (c<1)=false:=kZ;have z5:decide (28<c)=false:=kZ;have z6:decide (1<=c)=true:=kZ;have z7:decide (c<=13)=false:=kZ;have z8:decide (15<=c)=true:=kZ;have z9:decide (c<=24)=true:=kZ;rotate_left;rotate_left
 all_goals
  go_enter Tryz.func108,Tryz.ntmps108;go_wp2_with(first|(go_at_call 136;refine(z9u _ _ _ _ _ _ kO kO _).mono ?_;rw[hm];rintro e w1 ⟨rfl,hb⟩;obtain⟨hcl,hfr⟩:=z0h hb)|go_in)
  all_goals
   go_ret;exact⟨zNh (by unfold zXn endV;(repeat' split)<;>omega),(((bF _ _).alloc (Nat.le_refl _) _).trans (hb.mono kS))⟩
def zT0:=zLk.1
def zSz:=zLk.2
theorem zSy(d s o n b:Int)(r:Bool)(d1:0<=d)(d2:d<=10)(s1:0<=s)(s2:s<=10)(dt:d≠10)(hm:z4s 25 d s r o n=false)(w:World):
  zR 108 #[.agg #[A B 25,A B d,A B s,.bool r,A B o,A B n],A B b,.func (Fn.func 107) #[] #[]] w (A B (endV b)):=by
 have e10:(d==10)=false:=by simpa using dt
 have z0:decide (0<=d)=true:=kZ;have z1:decide (d<11)=true:=kZ;have z2:decide (0<=s)=true:=kZ;have z3:decide (s<11)=true:=kZ;go_enter Tryz.func108,Tryz.ntmps108;go_wp2_with(first|(go_at_call 136;refine(z9u _ _ _ _ _ _ kO kO _).mono ?_;rw[hm];rintro e w1 ⟨rfl,hb⟩;obtain⟨hcl,hfr⟩:=z0h hb)|go_in)
 all_goals
  go_ret;exact⟨zNh (by simp[endV, *]),(((bF _ _).alloc (Nat.le_refl _) _).trans (hb.mono kS))⟩
theorem zA2:(∀(c d s o n b:Int)(r:Bool)(h1:15<=c)(h2:c<=24)(d1:0<=d)(d2:d<=10)(s1:0<=s)(s2:s<=10)(hm:z4s c d s r o n=true)(w:World),zR 108 #[.agg #[A B c,A B d,A B s,.bool r,A B o,A B n],A B b,.func (Fn.func 107) #[] #[]] w (A B 1))/\(∀(d s o n b:Int)(r:Bool)(d1:0<=d)(d2:d<=10)(s1:0<=s)(s2:s<=10)(hm:z4s 26 d s r o n=true)(w:World),zR 108 #[.agg #[A B 26,A B d,A B s,.bool r,A B o,A B n],A B b,.func (Fn.func 107) #[] #[]] w (A B 1))/\(∀(d s o n b:Int)(r:Bool)(d1:0<=d)(d2:d<=10)(s1:0<=s)(s2:s<=10)(dt:d≠10)(hm:z4s 25 d s r o n=true)(w:World),zR 108 #[.agg #[A B 25,A B d,A B s,.bool r,A B o,A B n],A B b,.func (Fn.func 107) #[] #[]] w (A B 1))/\(∀(d s o n b:Int)(r:Bool)(d1:0<=d)(d2:d<=10)(s1:0<=s)(s2:s<=10)(hm:z4s 14 d s r o n=true)(w:World),zR 108 #[.agg #[A B 14,A B d,A B s,.bool r,A B o,A B n],A B b,.func (Fn.func 107) #[] #[]] w (A B 1)):=by
 refine⟨?_,?_,?_,?_⟩;intro c d s o n b r h1 h2 d1 d2 s1 s2 hm w;have e14:(c==14)=false:=kZ;have e25:(c==25)=false:=kZ;have e26:(c==26)=false:=kZ;have e27:(c==27)=false:=kZ;have e28:(c==28)=false:=kZ;rotate_left;intro d s o n b r d1 d2 s1 s2 hm w;rotate_left;intro d s o n b r d1 d2 s1 s2 dt hm w;have e10:(d==10)=false:=by simpa using dt
 rotate_left;intro d s o n b r d1 d2 s1 s2 hm w;rotate_left
 all_goals
  have z0:decide (0<=d)=true:=kZ;have z1:decide (d<11)=true:=kZ;have z2:decide (0<=s)=true:=kZ;have z3:decide (s<11)=true:=kZ
 have z4:decide (c<1)=false:=kZ;have z5:decide (28<c)=false:=kZ;have z6:decide (1<=c)=true:=kZ;have z7:decide (c<=13)=false:=kZ;have z8:decide (15<=c)=true:=kZ;have z9:decide (c<=24)=true:=kZ;rotate_left;rotate_left;rotate_left;rotate_left
 all_goals
  go_enter Tryz.func108,Tryz.ntmps108;go_wp2_with(first|(go_at_call 136;refine(z9u _ _ _ _ _ _ kO kO _).mono ?_;rw[hm];rintro e w1 ⟨rfl,hb⟩;obtain⟨hcl,hfr⟩:=z0h hb)|go_in)
  all_goals
   go_ret;exact⟨rfl,(((bF _ _).alloc (Nat.le_refl _) _).trans (hb.mono kS))⟩
def zO5:=zA2.1
def zO2:=zA2.2.1
def zO3:=zA2.2.2.1
def zO4:=zA2.2.2.2
theorem z82:(∀(c d s o n b:Int)(r:Bool)(h1:1<=c)(h2:c<=13)(d1:0<=d)(d2:d<=10)(s1:0<=s)(s2:s<=10)(dt:d≠10)(hm:z4s c d s r o n=false)(w:World),zR 108 #[.agg #[A B c,A B d,A B s,.bool r,A B o,A B n],A B b,.func (Fn.func 107) #[] #[]] w (A B (endV b)))/\(∀(d s o n b:Int)(r:Bool)(d1:0<=d)(d2:d<=10)(s1:0<=s)(s2:s<=10)(hm:z4s 27 d s r o n=false)(n1:(n==1)=false)(n2:(n==2)=false)(n3:(n==3)=true)(w:World),zR 108 #[.agg #[A B 27,A B d,A B s,.bool r,A B o,A B n],A B b,.func (Fn.func 107) #[] #[]] w (A B (endV b)))/\(∀(d s o n b:Int)(r:Bool)(d1:0<=d)(d2:d<=10)(s1:0<=s)(s2:s<=10)(hm:z4s 27 d s r o n=false)(n1:(n==1)=false)(n2:(n==2)=true)(w:World),zR 108 #[.agg #[A B 27,A B d,A B s,.bool r,A B o,A B n],A B b,.func (Fn.func 107) #[] #[]] w (A B (endV b)))/\(∀(d s o n b:Int)(r:Bool)(d1:0<=d)(d2:d<=10)(s1:0<=s)(s2:s<=10)(hm:z4s 27 d s r o n=false)(n1:(n==1)=true)(w:World),zR 108 #[.agg #[A B 27,A B d,A B s,.bool r,A B o,A B n],A B b,.func (Fn.func 107) #[] #[]] w (A B (endV b)))/\(∀(d s o n b:Int)(r:Bool)(d1:0<=d)(d2:d<=10)(s1:0<=s)(s2:s<=10)(hm:z4s 26 d s r o n=false)(w:World),zR 108 #[.agg #[A B 26,A B d,A B s,.bool r,A B o,A B n],A B b,.func (Fn.func 107) #[] #[]] w (A B (endV b))):=by
 refine⟨?_,?_,?_,?_,?_⟩;intro c d s o n b r h1 h2 d1 d2 s1 s2 dt hm w;have e14:(c==14)=false:=kZ;have e25:(c==25)=false:=kZ;have e26:(c==26)=false:=kZ;have e27:(c==27)=false:=kZ;have e28:(c==28)=false:=kZ;have e10:(d==10)=false:=by simpa using dt
 rotate_left;intro d s o n b r d1 d2 s1 s2 hm n1 n2 n3 w;rotate_left;intro d s o n b r d1 d2 s1 s2 hm n1 n2 w;rotate_left;intro d s o n b r d1 d2 s1 s2 hm n1 w;rotate_left;intro d s o n b r d1 d2 s1 s2 hm w;rotate_left
 all_goals
  have z0:decide (0<=d)=true:=kZ;have z1:decide (d<11)=true:=kZ;have z2:decide (0<=s)=true:=kZ;have z3:decide (s<11)=true:=kZ
 have z4:decide (c<1)=false:=kZ;have z5:decide (28<c)=false:=kZ;have z6:decide (1<=c)=true:=kZ;have z7:decide (c<=13)=true:=kZ;have z8:decide (15<=c)=false:=kZ;rotate_left;rotate_left;rotate_left;rotate_left;rotate_left
 all_goals
  go_enter Tryz.func108,Tryz.ntmps108;go_wp2_with(first|(go_at_call 136;refine(z9u _ _ _ _ _ _ kO kO _).mono ?_;rw[hm];rintro e w1 ⟨rfl,hb⟩;obtain⟨hcl,hfr⟩:=z0h hb)|go_in)
  all_goals
   go_ret;exact⟨zNh (by simp[endV, *]),(((bF _ _).alloc (Nat.le_refl _) _).trans (hb.mono kS))⟩
def zSu:=z82.1
def zNz:=z82.2.1
def zO0:=z82.2.2.1
def zO1:=z82.2.2.2.1
def zSx:=z82.2.2.2.2
theorem z81:(∀(c d s o n b:Int)(r:Bool)(h1:1<=c)(h2:c<=13)(d1:0<=d)(d2:d<=10)(s1:0<=s)(s2:s<=10)(dt:d≠10)(hm:z4s c d s r o n=true)(w:World),zR 108 #[.agg #[A B c,A B d,A B s,.bool r,A B o,A B n],A B b,.func (Fn.func 107) #[] #[]] w (A B 1))/\(∀(d s o n b:Int)(r:Bool)(d1:0<=d)(d2:d<=10)(s1:0<=s)(s2:s<=10)(hm:z4s 28 d s r o n=false)(w:World),zR 108 #[.agg #[A B 28,A B d,A B s,.bool r,A B o,A B n],A B b,.func (Fn.func 107) #[] #[]] w (A B 0))/\(∀(d s o n b:Int)(r:Bool)(d1:0<=d)(d2:d<=10)(s1:0<=s)(s2:s<=10)(hm:z4s 28 d s r o n=true)(w:World),zR 108 #[.agg #[A B 28,A B d,A B s,.bool r,A B o,A B n],A B b,.func (Fn.func 107) #[] #[]] w (A B 1))/\(∀(d s o n b:Int)(r:Bool)(d1:0<=d)(d2:d<=10)(s1:0<=s)(s2:s<=10)(hm:z4s 27 d s r o n=false)(n1:(n==1)=false)(n2:(n==2)=false)(n3:(n==3)=false)(w:World),zR 108 #[.agg #[A B 27,A B d,A B s,.bool r,A B o,A B n],A B b,.func (Fn.func 107) #[] #[]] w (A B 1))/\(∀(d s o n b:Int)(r:Bool)(d1:0<=d)(d2:d<=10)(s1:0<=s)(s2:s<=10)(hm:z4s 27 d s r o n=true)(w:World),zR 108 #[.agg #[A B 27,A B d,A B s,.bool r,A B o,A B n],A B b,.func (Fn.func 107) #[] #[]] w (A B 1)):=by
 refine⟨?_,?_,?_,?_,?_⟩;intro c d s o n b r h1 h2 d1 d2 s1 s2 dt hm w;have e14:(c==14)=false:=kZ;have e25:(c==25)=false:=kZ;have e26:(c==26)=false:=kZ;have e27:(c==27)=false:=kZ;have e28:(c==28)=false:=kZ;have e10:(d==10)=false:=by simpa using dt
 rotate_left;intro d s o n b r d1 d2 s1 s2 hm w;rotate_left;intro d s o n b r d1 d2 s1 s2 hm w;rotate_left;intro d s o n b r d1 d2 s1 s2 hm n1 n2 n3 w;rotate_left;intro d s o n b r d1 d2 s1 s2 hm w;rotate_left
 all_goals
  have z0:decide (0<=d)=true:=kZ;have z1:decide (d<11)=true:=kZ;have z2:decide (0<=s)=true:=kZ;have z3:decide (s<11)=true:=kZ
 have z4:decide (c<1)=false:=kZ;have z5:decide (28<c)=false:=kZ;have z6:decide (1<=c)=true:=kZ;have z7:decide (c<=13)=true:=kZ;have z8:decide (15<=c)=false:=kZ;rotate_left;rotate_left;rotate_left;rotate_left;rotate_left
 all_goals
  go_enter Tryz.func108,Tryz.ntmps108;go_wp2_with(first|(go_at_call 136;refine(z9u _ _ _ _ _ _ kO kO _).mono ?_;rw[hm];rintro e w1 ⟨rfl,hb⟩;obtain⟨hcl,hfr⟩:=z0h hb)|go_in)
  all_goals
   go_ret;exact⟨rfl,(((bF _ _).alloc (Nat.le_refl _) _).trans (hb.mono kS))⟩
def zNw:=z81.1
def zSv:=z81.2.1
def zNx:=z81.2.2.1
def zSw:=z81.2.2.2.1
def zNy:=z81.2.2.2.2
theorem zUl{c d s:Int}{r:Bool}{o n:Int}(c1:1<=c)(c2:c<=28)(d1:0<=d)(d2:d<=10)(s1:0<=s)(s2:s<=10)(ht: ¬(((1<=c/\c<=13)\/c=25)/\d=10)):
  z3k c d s r o n=(if z4s c d s r o n=true\/(c=27/\n≠1/\n≠2/\n≠3)then 1 else 0):=by
 unfold z3k;rw[if_neg kO,if_neg kO,if_neg ht]
theorem z4m{c d s:Int}{r:Bool}{o n b:Int}{x:Int}(h:z3k c d s r o n=x)(h0:x≠0):z4l c d s r o n b=x:=by
 unfold z4l;rw[h,if_pos h0]
theorem zAi{c d s:Int}{r:Bool}{o n b:Int}(h:z3k c d s r o n=0):z4l c d s r o n b=if(c=14\/(15<=c/\c<=24))/\(o<0\/b<=o)then 10 else if b=0/\c≠28 then 8 else 0:=by
 unfold z4l;rw[if_neg (by rw[h];exact fun f=>f rfl)]
theorem z9e{c d s:Int}{r:Bool}{o n b:Int}(h:z3k c d s r o n=0)(h1: ¬(c=14\/(15<=c/\c<=24)))(h2:c≠28):z4l c d s r o n b=endV b:=by
 rw[zAi h,if_neg (fun f=>h1 f.1)];unfold endV
 by_cases hb:b=0<;>simp[hb,h2]
theorem zFv{c d s:Int}{r:Bool}{o n b:Int}(h:z3k c d s r o n=0)(h1:c=14\/(15<=c/\c<=24)):z4l c d s r o n b=zXn o b:=by
 rw[zAi h];unfold zXn endV
 (repeat' split)<;>omega
theorem zDm(c d s:Int)(r:Bool)(o n b:Int)(w:World):
  zR 108 #[.agg #[A B c,A B d,A B s,.bool r,A B o,A B n],A B b,.func (Fn.func 107) #[] #[]] w (A B (z4l c d s r o n b)):=by
 by_cases k1:c<1
 ·have e:z3k c d s r o n=3:=by unfold z3k;rw[if_pos (Or.inl k1)]
  rw[z4m e kD];exact q5c c d s o n b r k1 w
 by_cases k2:28<c
 ·have e:z3k c d s r o n=3:=by unfold z3k;rw[if_pos (Or.inr k2)]
  rw[z4m e kD];exact q5d c d s o n b r k2 w
 have c1:1<=c:=kO;have c2:c<=28:=kO;have two:(d<0\/10<d\/s<0\/10<s)->z4l c d s r o n b=2:=fun h=>z4m (by unfold z3k;rw[if_neg kO,if_pos h]) kD
 by_cases k3:d<0
 ·rw[two kO];exact q5a c d s o n b r c1 c2 k3 w
 by_cases k4:10<d
 ·rw[two kO];exact q5b c d s o n b r c1 c2 k4 w
 have d1:0<=d:=kO;have d2:d<=10:=kO
 by_cases k5:s<0
 ·rw[two kO];exact q58 c d s o n b r c1 c2 d1 d2 k5 w
 by_cases k6:10<s
 ·rw[two kO];exact q59 c d s o n b r c1 c2 d1 d2 k6 w
 have s1:0<=s:=kO;have s2:s<=10:=kO
 by_cases ht:((1<=c/\c<=13)\/c=25)/\d=10
 ·have e:z3k c d s r o n=6:=by unfold z3k;rw[if_neg kO,if_neg kO,if_pos ht]
  rw[z4m e kD];obtain⟨h,rfl⟩:=ht;rcases h with⟨a1,a2⟩|rfl
  ·exact op_top c s o n b r a1 a2 s1 s2 w
  ·exact q1k s o n b r s1 s2 w
 have last:=zUl (r:=r) (o:=o) (n:=n) c1 c2 d1 d2 s1 s2 ht;have hc:(1<=c/\c<=13)\/(15<=c/\c<=24)\/c=14\/c=25\/c=26\/c=27\/c=28:=kO
 cases hm:z4s c d s r o n with
 |true=>
  have e:z3k c d s r o n=1:=by rw[last,if_pos (Or.inl hm)]
  rw[z4m e kD];rcases hc with⟨a1,a2⟩|⟨a1,a2⟩|rfl|rfl|rfl|rfl|rfl
  ·exact zNw c d s o n b r a1 a2 d1 d2 s1 s2 kO hm w
  ·exact zO5 c d s o n b r a1 a2 d1 d2 s1 s2 hm w
  ·exact zO4 d s o n b r d1 d2 s1 s2 hm w
  ·exact zO3 d s o n b r d1 d2 s1 s2 kO hm w
  ·exact zO2 d s o n b r d1 d2 s1 s2 hm w
  ·exact zNy d s o n b r d1 d2 s1 s2 hm w
  ·exact zNx d s o n b r d1 d2 s1 s2 hm w
 |false=>
  by_cases h27:c=27/\n≠1/\n≠2/\n≠3
  ·have e:z3k c d s r o n=1:=by rw[last,if_pos (Or.inr h27)]
   rw[z4m e kD];obtain⟨rfl,n1,n2,n3⟩:=h27;exact zSw d s o n b r d1 d2 s1 s2 hm (by simpa using n1) (by simpa using n2) (by simpa using n3) w
  ·have e:z3k c d s r o n=0:=by rw[last,if_neg (by rw[hm];simpa using h27)]
   rcases hc with⟨a1,a2⟩|⟨a1,a2⟩|rfl|rfl|rfl|rfl|rfl
   ·rw[z9e e kO kO];exact zSu c d s o n b r a1 a2 d1 d2 s1 s2 kO hm w
   ·rw[zFv e kO];exact zT0 c d s o n b r a1 a2 d1 d2 s1 s2 hm w
   ·rw[zFv e kO];exact zSz d s o n b r d1 d2 s1 s2 hm w
   ·rw[z9e e kO kO];exact zSy d s o n b r d1 d2 s1 s2 kO hm w
   ·rw[z9e e kO kO];exact zSx d s o n b r d1 d2 s1 s2 hm w
   ·rw[z9e e kO kO]
    have hn:n=1\/n=2\/n=3:=kO;rcases hn with rfl|rfl|rfl
    ·exact zO1 d s o 1 b r d1 d2 s1 s2 hm kD w
    ·exact zO0 d s o 2 b r d1 d2 s1 s2 hm kD kD w
    ·exact zNz d s o 3 b r d1 d2 s1 s2 hm kD kD kD w
   ·have z:z4l 28 d s r o n b=0:=by rw[zAi e,if_neg kO,if_neg kO]
    rw[z];exact zSv d s o n b r d1 d2 s1 s2 hm w
def z1v(w:World)(bk off len:Nat)(C D S:Nat->Int)(R:Nat->Bool)(O N:Nat->Int):Prop:=
 ∀i,i<len->w.cell? ⟨bk,off+i*6,none⟩=some (A B (C i))/\w.cell? ⟨bk,off+i*6+1,none⟩=some (A B (D i))/\w.cell? ⟨bk,off+i*6+2,none⟩=some (A B (S i))
  /\w.cell? ⟨bk,off+i*6+3,none⟩=some (.bool (R i))/\w.cell? ⟨bk,off+i*6+4,none⟩=some (A B (O i))/\w.cell? ⟨bk,off+i*6+5,none⟩=some (A B (N i))
theorem z1v.later{w wr:World}{bk off len:Nat}{C D S:Nat->Int}{R:Nat->Bool}{O N:Nat->Int}(h:z1v w bk off len C D S R O N)(hb:Below w.heap.size w wr)(hbk:bk<w.heap.size):z1v wr bk off len C D S R O N:=by
 intro i hi;obtain⟨a,b,c,d,e,f⟩:=h i hi;exact⟨(hb.cell (p:=⟨bk,_,none⟩) hbk).trans a,(hb.cell (p:=⟨bk,_,none⟩) hbk).trans b,(hb.cell (p:=⟨bk,_,none⟩) hbk).trans c,(hb.cell (p:=⟨bk,_,none⟩) hbk).trans d,(hb.cell (p:=⟨bk,_,none⟩) hbk).trans e,(hb.cell (p:=⟨bk,_,none⟩) hbk).trans f⟩
def z32(len:Nat)(C D S:Nat->Int)(R:Nat->Bool)(O N:Nat->Int)(i:Nat):Int:=z4l (C i) (D i) (S i) (R i) (O i) (N i) ((len:Int)-1-i)
theorem zIf(a:Option Addr)(len cap:Nat)(h:len<1\/200<len)(w:World):
  zS 74 #[.slice a len cap] w (.iface 33 (A B 4)):=by
 rcases h with h|h
 ·obtain rfl:len=0:=by omega
  go_enter Tryz.func74,Tryz.ntmps74;go_wp2;go_ret;exact⟨rfl,rfl⟩
 have z0:decide ((len:Int)<1)=false:=kZ;have z1:decide (200<(len:Int))=true:=kZ;go_enter Tryz.func74,Tryz.ntmps74;go_wp2;go_ret;exact⟨rfl,rfl⟩
theorem z9r (bk off len cap : Nat) (C D S O N : Nat -> Int) (R : Nat -> Bool) (w : World) (h1 : 1 <= len) (h2 : len <= 200) (hbk : bk < w.heap.size) (hst : z1v w bk off len C D S R O N) :
    Calls tP 74 #[.slice (some ⟨bk, off, none⟩) len cap] w fun e w' => Below w.heap.size w w' /\
      ((e = rT .nilIface /\ ∀ j, j < len -> z32 len C D S R O N j = 0) \/
       (∃ i p, i < len /\ (∀ j, j < i -> z32 len C D S R O N j = 0) /\ z32 len C D S R O N i ≠ 0 /\ e = rT (.iface 166 (pT (some ⟨p, 0, none⟩))) /\ w.heap.size <= p
          /\ w'.cell? ⟨p, 0, none⟩ = some (A B (z32 len C D S R O N i)) /\ w'.cell? ⟨p, 1, none⟩ = some (A B i))) := by
  have z0 : decide ((len : Int) < 1) = false := kZ;have z1 : decide (200 < (len : Int)) = false := kZ;go_enter Tryz.func74, Tryz.ntmps74;go_wp2;go_loopw [18] (fun i wr => ∃ k : Nat, k <= len /\ i = A B k /\ Below w.heap.size w wr /\ ∀ j, j < k -> z32 len C D S R O N j = 0) (fun i _ => len - (intOf i).toNat)
  case atStart => exact ⟨0, Nat.zero_le _, rfl, bF _ _, fun j hj => absurd hj (Nat.not_lt_zero _)⟩
  case round =>
    obtain ⟨k, hk, rfl, hb, hno⟩ := hrel
    by_cases hlt : k < len
    · obtain ⟨g0, g1, g2, g3, g4, g5⟩ := hst.later hb hbk k hlt
      have hsz := hb.size;have HF : Hid (z32 len C D S R O N k = z4l (C k) (D k) (S k) (R k) (O k) (N k) ((len : Int) - 1 - k)) := rfl
      by_cases hw : z4l (C k) (D k) (S k) (R k) (O k) (N k) ((len : Int) - 1 - k) = 0
      · have hw2 : (z4l (C k) (D k) (S k) (R k) (O k) (N k) ((len : Int) - 1 - k) != 0) = false := by simp [hw]
        have HW : Hid (z4l (C k) (D k) (S k) (R k) (O k) (N k) ((len : Int) - 1 - k) = 0) := hw;clear hw;go_wp2_with (go_at_call 108; refine (zDm _ _ _ _ _ _ _ _).mono ?_; rintro e w1 ⟨rfl, hb1⟩; obtain ⟨hcl, hfr⟩ := z0h hb1);go_roundw
        case rel => exact ⟨k + 1, by omega, by go_num, (hb.alloc hsz _).trans (hb1.mono kZ), fun j hj => by
          rcases Nat.lt_succ_iff_lt_or_eq.1 hj with h | h
          · exact hno j h
          · rw [h, HF.out]; exact HW.out⟩
        case measure => simp [intOf]; omega
      · have hw2 : (z4l (C k) (D k) (S k) (R k) (O k) (N k) ((len : Int) - 1 - k) != 0) = true := by simp [hw]
        have HW : Hid (z4l (C k) (D k) (S k) (R k) (O k) (N k) ((len : Int) - 1 - k) ≠ 0) := hw;clear hw;go_wp2_with (go_at_call 108; refine (zDm _ _ _ _ _ _ _ _).mono ?_; rintro e w1 ⟨rfl, hb1⟩; obtain ⟨hcl, hfr⟩ := z0h hb1);go_ret;have hb2 : Below w.heap.size w w1 := (hb.alloc hsz _).trans (hb1.mono kZ);refine ⟨hb2.alloc hb2.size _, Or.inr ⟨k, w1.heap.size, hlt, hno, by rw [HF.out]; exact HW.out, rfl, hb2.size, ?_, ?_⟩⟩
        · rw [HF.out, World.cell?_alloc_at _ _ _ _ rfl]; rfl
        · rw [World.cell?_alloc_at _ _ _ _ rfl]; rfl
    · obtain rfl : k = len := by omega
      go_wp2;go_ret;exact ⟨hb, Or.inl ⟨rfl, hno⟩⟩
theorem zAd{w w1:World}{Z:Obj}(h:Below (w.alloc Z).heap.size (w.alloc Z) w1):Below w.heap.size w w1:=
 ((bF _ _).alloc (Nat.le_refl _) Z).trans (h.mono kS)
theorem zRz{f:Nat->Int}{k:Nat}(h: ∀j,j<k->f j=0)(hk:f k=0)(j:Nat)(hj:j<k+1):f j=0:=by
 rcases Nat.lt_succ_iff_lt_or_eq.1 hj with g|g
 ·exact h j g
 rw[g];exact hk
section
variable {len:Nat} {C D S:Nat->Int} {R:Nat->Bool} {O N:Nat->Int} {k:Nat}
end
end
section
variable {ex:Ext}
def St.zero:St:=⟨0,0,0,false,0,0⟩
def z7f(x:St):List UInt8->List ByteArray->Option St
 |p::ps,b::bs=>if(x.put p.toNat b).1 then z7f (x.put p.toNat b).2 ps bs else none
 |_,_=>some x
def z6i:List ByteArray->Option St
 |[]=>none
 |b::bs=>if z3d b=0\/bs.length≠(z2f (z3d b)).length then none else z7f {St.zero with c:=z3d b} (z2f (z3d b)) bs
theorem z92(b:ByteArray)(bs:List ByteArray):z6i (b::bs)=if z3d b=0\/bs.length≠(z2f (z3d b)).length then none else z7f {St.zero with c:=z3d b} (z2f (z3d b)) bs:=rfl
def zD0:Option St->Value
 |some x=> .tuple #[.agg x.cells,.bool true]
 |none=> .tuple #[.agg St.zero.cells,.bool false]
theorem zWo{w:World}{base:Nat}{e:TypeId}{v:Value}{xs:List Value}(h:w.ownsRow base e 1 v 0 xs): ∃a c,v= .slice a 0 c:=by
 rcases h.2 with⟨rfl,_⟩|⟨g,cap,cur,rfl,_⟩
 ·exact⟨_,_,rfl⟩
 exact⟨_,_,rfl⟩
theorem zYs(b:ByteArray):z3d b<29:=by
 unfold z3d
 cases h:(List.range 29).find? fun k:Nat=>decide (zF7 k=b)with
 |none=>decide
 |some k=>exact List.mem_range.1 (List.mem_of_find?_eq_some h)
theorem z7a(s:ByteArray): ∀(f:Nat)(st:Option Nat)(i:Nat),∀x∈z0w s f st i,x.size<=s.size
 |0,st,_,x,hx=>by
  cases st with
  |none=>simp[z0w,zBw]at hx
  |some a=>simp[z0w,zBw]at hx;subst hx;rw[ByteArray.size_extract];omega
 |f+1,st,i,x,hx=>by
  by_cases h:i<s.size
  ·by_cases hr:(Lib.decodeGo (s.extract i s.size)).1=32
   ·cases st with
    |none=>rw[z6r h hr]at hx;exact z7a s f _ _ x hx
    |some a=>
     rw[zBy h hr]at hx;rcases List.mem_cons.1 hx with rfl|hx
     ·rw[ByteArray.size_extract];omega
     ·exact z7a s f _ _ x hx
   ·rw[zEl h hr]at hx;exact z7a s f _ _ x hx
  ·rw[zH7 h]at hx
   cases st with
   |none=>simp[zBw]at hx
   |some a=>simp[zBw]at hx;subst hx;rw[ByteArray.size_extract];omega
theorem z3e.iter{w:World}{b k pos pos':Nat}{p:ByteArray}{x:St}(h:z3e w b x)(hit:w.heap[k]?=some (.stringIter p pos)):z3e (w.iterAt k p pos') b x:=by
 have h':w.heap[b]?=some (cT x.cells 135 (0,0)):=h;show(w.iterAt k p pos').heap[b]?=_;rw[Lib.iterAt_other w k b p pos' (fun e=>by rw[e,hit]at h';cases h')];exact h'
def ZeroAt(w:World)(b:Nat):Prop:=w.cell? ⟨b,0,none⟩=some (A B 0)/\w.cell? ⟨b,1,none⟩=some (A B 0)/\w.cell? ⟨b,2,none⟩=some (A B 0)/\w.cell? ⟨b,3,none⟩=some (.bool false)/\w.cell? ⟨b,4,none⟩=some (A B 0)/\w.cell? ⟨b,5,none⟩=some (A B 0)
 /\w.frozen? ⟨b,0,none⟩=false/\w.frozen? ⟨b,1,none⟩=false/\w.frozen? ⟨b,2,none⟩=false/\w.frozen? ⟨b,3,none⟩=false/\w.frozen? ⟨b,4,none⟩=false/\w.frozen? ⟨b,5,none⟩=false
theorem z6g{w:World}{b:Nat}(h:z3e w b St.zero):ZeroAt w b:=⟨h.cell 0,h.cell 1,h.cell 2,h.cell 3,h.cell 4,h.cell 5,h.frozen 0,h.frozen 1,h.frozen 2,h.frozen 3,h.frozen 4,h.frozen 5⟩
theorem zC7(w:World):z3e (w.alloc (cT St.zero.cells 135)) w.heap.size St.zero:=by
 show(w.heap.push _)[w.heap.size]?=_;simp
section
theorem zDb(he: ∀w,ex.holds w->z17 w)(hu: ∀w,ex.holds w->Lib.Utf8Tabs 2 3 w)(s:ByteArray)(hs:s.size<=100000)(w:World)(hT:Tabs ex w):
  zR 104 #[.string s] w (zD0 (z6i ((z0z s).take 5))):=by
 have hF:=Fine.start hT;have hF0:=hF.alloc (cT St.zero.cells 135)
 cases hws:(z0z s).take 5 with
 |nil=>
  go_enter Tryz.func104,Tryz.ntmps104
  go_wp2_with(first
   |(go_at_call 129;refine(zJ9 hu s hs _ hF0.tabs).mono ?_;rintro e w1 ⟨v,rfl,hown,hb1⟩;rw[hws]at hown;obtain⟨a,c,rfl⟩:=zWo hown;have hz1:=(zC7 w).later hb1;have hlt:=hz1.lt;obtain⟨q0,q1,q2,q3,q4,q5,z0,z1,z2,z3,z4,z5⟩:=z6g hz1)
   |go_in)
  exact bodyPost_ret (v:= .tuple #[.agg St.zero.cells,.bool false]) (by simp[results,Tryz.results104,go_sem,hlt,q0,q1,q2,q3,q4,q5,St.cells,St.zero]) rfl
   ⟨rfl,(((((((zAd hb1).setCell (Nat.le_refl _) _).setCell (Nat.le_refl _) _).setCell (Nat.le_refl _) _).setCell (Nat.le_refl _) _).setCell (Nat.le_refl _) _).setCell (Nat.le_refl _) _).alloc kZ _⟩
 |cons b bs=>
  have x0:((bs.length:Int)+1==0)=false:=kZ
  have hbl:bs.length<=4:=by
   have:=List.length_take_le 5 (z0z s);rw[hws]at this;simp at this;omega
  have hcod:z3d b<29:=zYs b;have hps:=zNu (z3d b);have hpf:=zWn (z3d b);obtain⟨c,hc⟩: ∃c,c=z3d b:=⟨_,rfl⟩;have HC:Hid (c=z3d b):=hc;rw[<-hc]at hcod hps hpf;clear hc;have hpz:(z39 c).size<=3:=kO;have HPS:Hid ((z39 c).size=(z2f c).length):=hps;clear hps
  by_cases hbad:c=0\/bs.length≠(z2f c).length
  ·have HN:Hid (zD0 (z6i (b::bs))= .tuple #[.agg St.zero.cells,.bool false]):=by
    show zD0 (z6i (b::bs))=_;rw[z92, <-HC.out,if_pos hbad];rfl
   by_cases hc0:c=0
   ·have hq0:((c:Int)==0)=true:=by simp[hc0]
    clear hbad hc0;go_enter Tryz.func104,Tryz.ntmps104
    go_wp2_with(first
     |(go_at_call 129;refine(zJ9 hu s hs _ hF0.tabs).mono ?_;rintro e w1 ⟨v,rfl,hown,hb1⟩;rw[hws]at hown;obtain⟨g,cp,rfl⟩:=zDj hown kS;have hz1:=(zC7 w).later hb1;have hlt:=hz1.lt;obtain⟨q0,q1,q2,q3,q4,q5,z0,z1,z2,z3,z4,z5⟩:=z6g hz1;have hg0:w1.cell? ⟨g,0,none⟩=some (.string b):=hown.cellAt 0 kS;have hgl:g<w1.heap.size:=Lib.lt_of_cell hg0;have hF1:=hF0.call hb1)
     |(go_at_call 131;refine(zBe _ _ (hF1.alloc _).tabs).mono ?_;rintro e w2 ⟨rfl,rfl⟩;rw[<-HC.out])
     |(go_at_call 132;refine(zDi _ _).mono ?_;rintro e w2 ⟨rfl,rfl⟩)
     |go_in)
    rw[HN.out]
    exact bodyPost_ret (v:= .tuple #[.agg St.zero.cells,.bool false]) (by simp[results,Tryz.results104,go_sem,hlt,q0,q1,q2,q3,q4,q5,St.cells,St.zero]) rfl
     ⟨rfl,((((((((zAd hb1).setCell (Nat.le_refl _) _).setCell (Nat.le_refl _) _).setCell (Nat.le_refl _) _).setCell (Nat.le_refl _) _).setCell (Nat.le_refl _) _).setCell (Nat.le_refl _) _).alloc kZ _).alloc kZ _⟩
   ·have hq0:((c:Int)==0)=false:=kZ
    have hl2:((bs.length:Int)+1==1+((z39 c).size:Int))=false:=by
     have h1:=HPS.out;have h2:bs.length≠(z2f c).length:=hbad.resolve_left hc0;rw[h1];simp;omega
    clear hbad hc0;go_enter Tryz.func104,Tryz.ntmps104
    go_wp2_with(first
     |(go_at_call 129;refine(zJ9 hu s hs _ hF0.tabs).mono ?_;rintro e w1 ⟨v,rfl,hown,hb1⟩;rw[hws]at hown;obtain⟨g,cp,rfl⟩:=zDj hown kS;have hz1:=(zC7 w).later hb1;have hlt:=hz1.lt;obtain⟨q0,q1,q2,q3,q4,q5,z0,z1,z2,z3,z4,z5⟩:=z6g hz1;have hg0:w1.cell? ⟨g,0,none⟩=some (.string b):=hown.cellAt 0 kS;have hgl:g<w1.heap.size:=Lib.lt_of_cell hg0;have hF1:=hF0.call hb1)
     |(go_at_call 131;refine(zBe _ _ (hF1.alloc _).tabs).mono ?_;rintro e w2 ⟨rfl,rfl⟩;rw[<-HC.out])
     |(go_at_call 132;refine(zDi _ _).mono ?_;rintro e w2 ⟨rfl,rfl⟩)
     |go_in)
    rw[HN.out]
    exact bodyPost_ret (v:= .tuple #[.agg St.zero.cells,.bool false]) (by simp[results,Tryz.results104,go_sem,hlt,q0,q1,q2,q3,q4,q5,St.cells,St.zero]) rfl
     ⟨rfl,((((((((zAd hb1).setCell (Nat.le_refl _) _).setCell (Nat.le_refl _) _).setCell (Nat.le_refl _) _).setCell (Nat.le_refl _) _).setCell (Nat.le_refl _) _).setCell (Nat.le_refl _) _).alloc kZ _).alloc kZ _⟩
  ·have hc0:((c:Int)==0)=false:=kZ
   have hl:bs.length=(z2f c).length:=kO;have hl2:((bs.length:Int)+1==1+((z39 c).size:Int))=true:=by rw[HPS.out,hl];simp;omega
   have HL:Hid (bs.length=(z2f c).length):=hl;have hc1:1<=c:=kO;clear hl hbad;go_enter Tryz.func104,Tryz.ntmps104
   go_wp2_with(first
    |(go_at_call 129;refine(zJ9 hu s hs _ hF0.tabs).mono ?_;rintro e w1 ⟨v,rfl,hown,hb1⟩;rw[hws]at hown;obtain⟨g,cp,rfl⟩:=zDj hown kS;have hz1:=(zC7 w).later hb1;have hlt:=hz1.lt;obtain⟨q0,q1,q2,q3,q4,q5,z0,z1,z2,z3,z4,z5⟩:=z6g hz1;have hg0:w1.cell? ⟨g,0,none⟩=some (.string b):=hown.cellAt 0 kS;have hgl:g<w1.heap.size:=Lib.lt_of_cell hg0;have hF1:=hF0.call hb1)
    |(go_at_call 131;refine(zBe _ _ (hF1.alloc _).tabs).mono ?_;rintro e w2 ⟨rfl,rfl⟩;rw[<-HC.out])
    |(go_at_call 132;refine(zDi _ _).mono ?_;rintro e w2 ⟨rfl,rfl⟩)
    |go_in)
   have HS:Hid (z6i (b::bs)=z7f {St.zero with c:=(c:Int)} (z2f c) bs):=by
    show z6i (b::bs)=_;rw[z92, <-HC.out,if_neg (by have:=HL.out;omega)]
   have hroom:=hT.room;have hw1:w.heap.size<=w1.heap.size:=kO
   have hgk: ∀(k:Nat)(bk:ByteArray),bs[k]?=some bk->w1.cell? ⟨g,k+1,none⟩=some (.string bk):=fun k bk hk=>by
    have hkl:k<bs.length:=(List.getElem?_eq_some_iff.1 hk).1;rw[hown.cellAt (k+1) kZ];simp[hk]
   have hbz: ∀(k:Nat)(bk:ByteArray),bs[k]?=some bk->bk.size<=100000:=fun k bk hk=>by
    have:bk∈(z0z s).take 5:=by rw[hws];exact mcO _ (List.mem_of_getElem? hk)
    exact Nat.le_trans (z7a s _ _ _ bk (List.mem_of_mem_take this)) hs
   go_loopw [] (fun wr=> ∃(k:Nat)(x:St),k<=(z2f c).length/\z3e wr (w1.heap.size+1) x/\z7f x ((z2f c).drop k) (bs.drop k)=z7f {St.zero with c:=(c:Int)} (z2f c) bs/\wr.heap[w1.heap.size+2]?=some (.stringIter (z39 c) k)
     /\Below (w1.heap.size+1) (w1.alloc (cT #[.slice (some ⟨g,0,none⟩) (bs.length+1) cp] 57)) wr/\Tabs ex wr) (fun wr=>(z2f c).length-wr.iterPos (w1.heap.size+2))
   case atStart=>
    refine⟨0,{St.zero with c:=(c:Int)},Nat.zero_le _,?_,rfl,?_,?_,?_⟩
    ·have h:=World.alloc_heap_new (w1.alloc (cT #[.slice (some ⟨g,0,none⟩) (bs.length+1) cp] 57)) (cT ({St.zero with c:=(c:Int)}:St).cells 135)
     rw[World.size_alloc]at h;exact(Below.heap_alloc _ _ _ kS).trans h
    ·have h:=World.iter_heap ((w1.alloc (cT #[.slice (some ⟨g,0,none⟩) (bs.length+1) cp] 57)).alloc (cT #[A B c,A B 0,A B 0,.bool false,A B 0,A B 0] 135)) (z39 c) 0
     simpa using h
    ·exact((bF _ _).alloc kS _).alloc kS _
    ·exact(((hF1.alloc _).alloc _).alloc _).tabs
   case round=>
    obtain⟨k,x,hk,hsx,hput,hit,hbel,hTr⟩:=hrel;have hbox:wr.cell? ⟨w1.heap.size,0,none⟩=some (.slice (some ⟨g,0,none⟩) (bs.length+1) cp):=(hbel.cell (p:=⟨w1.heap.size,0,none⟩) kS).trans kS;have hzr:z3e wr w.heap.size St.zero:=(hbel.block _ kO).trans ((Below.heap_alloc _ _ _ kO).trans hz1)
    by_cases hp:k<(z2f c).length
    ·have hp':k<(z39 c).size:=by rw[HPS.out];exact hp
     have hasc:=zNt c _ (List.getElem_mem hp);have hkb:k<bs.length:=by rw[HL.out];exact hp
     obtain⟨bk,hbk⟩: ∃bk,bs[k]?=some bk:=⟨_,List.getElem?_eq_getElem hkb⟩;obtain⟨p,hpe⟩: ∃p:Nat,p=((z2f c)[k]'hp).toNat:=⟨_,rfl⟩
     have hpp:p=100\/p=115\/p=111\/p=102\/p=116\/p=99:=by
      rcases hasc with h|h|h|h|h|⟨h,_⟩
      all_goals rw[h]at hpe
      ·exact Or.inl hpe
      ·exact Or.inr (Or.inl hpe)
      ·exact Or.inr (Or.inr (Or.inl hpe))
      ·exact Or.inr (Or.inr (Or.inr (Or.inl hpe)))
      ·exact Or.inr (Or.inr (Or.inr (Or.inr (Or.inl hpe))))
      ·exact Or.inr (Or.inr (Or.inr (Or.inr (Or.inr hpe))))
     have hpa:((z39 c)[k]'hp').toNat=p:=by rw[zSq,hpe]
     have hnx: ∀ty,(Instr.next (pT (some ⟨w1.heap.size+1+1,0,none⟩)) true ty).run tP wr= .ok (.tuple #[.bool true,A B k,.int .i32 p]) (wr.iterAt (w1.heap.size+2) (z39 c) (k+1)):=fun ty=>by
      have:=Lib.run_next_ascii_at (P:=tP) wr (w1.heap.size+2) (z39 c) k ty hit hp' (by rw[hpa];omega);rw[hpa]at this;exact this
     have hd1:(z2f c).drop k=((z2f c)[k]'hp)::(z2f c).drop (k+1):=List.drop_eq_getElem_cons hp
     have hd2:bs.drop k=bk::bs.drop (k+1):=by
      rw[List.drop_eq_getElem_cons hkb];congr 1;exact Option.some.inj ((List.getElem?_eq_getElem hkb).symm.trans hbk)
     have HP:Hid ((if(x.put p bk).1 then z7f (x.put p bk).2 ((z2f c).drop (k+1)) (bs.drop (k+1))else none)=z7f {St.zero with c:=(c:Int)} (z2f c) bs):=by
      rw[hd1,hd2]at hput;rw[hpe];exact hput
     have hbk1:=hbz k bk hbk;have hsI:=hsx.iter (pos':=k+1) hit;have hbel2:=Lib.below_iterAt hbel (k:=w1.heap.size+2) kO (z39 c) (k+1);have hTi:Tabs ex (wr.iterAt (w1.heap.size+2) (z39 c) (k+1)):=hTr.on (Lib.below_iterAt (bF (w1.heap.size+1) _) (k:=w1.heap.size+2) kO (z39 c) (k+1)) kO;have hbox2:(wr.iterAt (w1.heap.size+2) (z39 c) (k+1)).cell? ⟨w1.heap.size,0,none⟩=some (.slice (some ⟨g,0,none⟩) (bs.length+1) cp):=(hbel2.cell (p:=⟨w1.heap.size,0,none⟩) kS).trans kS;have hwd:(wr.iterAt (w1.heap.size+2) (z39 c) (k+1)).cell? ⟨g,1+k,none⟩=some (.string bk):=(hbel2.cell (p:=⟨g,1+k,none⟩) (by show g<_;omega)).trans ((World.cell?_alloc_past _ _ _ hgl).trans (by rw[Nat.add_comm];exact hgk k bk hbk));have hit2:=Lib.iterAt_heap wr (w1.heap.size+2) (z39 c) k (k+1) hit;have hpos:wr.iterPos (w1.heap.size+2)=k:=by simp only[World.iterPos,hit]
     clear hasc hpe hpa hd1 hd2 hput hp' hgk hbz hbk
     by_cases hok:(x.put p bk).1=true
     ·go_wp2_with(go_at_call 133;refine(zWh he bk hbk1 kO p hpp hsI hTi).mono ?_;rintro e w2 ⟨rfl,hg2,hs2⟩)
      have hlt2:w1.heap.size+2<wr.heap.size:=(Array.getElem?_eq_some_iff.1 hit).1;have hit3:w2.heap[w1.heap.size+2]?=some (.stringIter (z39 c) (k+1)):=(hg2.block _ (by rw[Lib.iterAt_size];exact hlt2) (fun e=>by have:=Option.some.inj e;omega)).trans hit2;have hbel3:Below (w1.heap.size+1) (w1.alloc (cT #[.slice (some ⟨g,0,none⟩) (bs.length+1) cp] 57)) w2:=hbel2.trans ⟨hg2.os,hg2.tape,hg2.output,hg2.size,fun j hj=>hg2.block j (by rw[Lib.iterAt_size];omega) (fun e=>by have:=Option.some.inj e;omega)⟩;have hT3:=hTi.on_grown hg2 kO;clear hbox2 hwd hit2 hbel2 hTi hsI hnx hit hbel hTr hg2 hbox;go_wp2;go_roundw
      case rel=>first|exact⟨k+1,(x.put p bk).2,by omega,hs2,by have h:=HP.out;rw[if_pos hok]at h;exact h,hit3,hbel3,hT3⟩|((repeat apply Exists.intro);exact⟨⟨k+1,(x.put p bk).2,by omega,hs2,by have h:=HP.out;rw[if_pos hok]at h;exact h,hit3,hbel3,hT3⟩,rfl⟩)
      case measure=>simp only[World.iterPos,hit3]at hpos⊢;omega
     ·have hok':(x.put p bk).1=false:=by simpa using hok
      clear hok
      have HN:Hid (zD0 (z6i (b::bs))= .tuple #[.agg St.zero.cells,.bool false]):=by
       have h:=HP.out;rw[if_neg (by simp[hok'])]at h;show zD0 (z6i (b::bs))=_;rw[HS.out, <-h];rfl
      go_wp2_with(go_at_call 133;refine(zWh he bk hbk1 kO p hpp hsI hTi).mono ?_;rintro e w2 ⟨rfl,hg2,hs2⟩;have hz2:z3e w2 w.heap.size St.zero:=(hg2.block _ (by rw[Lib.iterAt_size];exact hzr.lt) (fun e=>by have:=Option.some.inj e;omega)).trans (hzr.iter hit);obtain⟨q0',q1',q2',q3',q4',q5',z0',z1',z2',z3',z4',z5'⟩:=z6g hz2);have hbw:Below w.heap.size w w2:=(zAd hb1).trans ((((bF _ w1).alloc hw1 _).trans (hbel2.mono kO)).trans ⟨hg2.os,hg2.tape,hg2.output,hg2.size,fun j hj=>hg2.block j (by rw[Lib.iterAt_size];have:=hzr.lt;omega) (fun e=>by have:=Option.some.inj e;omega)⟩);rw[HN.out]
      exact bodyPost_ret (v:= .tuple #[.agg St.zero.cells,.bool false]) (by simp[results,Tryz.results104,go_sem,q0',q1',q2',q3',q4',q5',St.cells,St.zero]) rfl
       ⟨rfl,(((((hbw.setCell (Nat.le_refl _) _).setCell (Nat.le_refl _) _).setCell (Nat.le_refl _) _).setCell (Nat.le_refl _) _).setCell (Nat.le_refl _) _).setCell (Nat.le_refl _) _⟩
    ·have hkk:k=(z2f c).length:=kO
     have HN:Hid (zD0 (z6i (b::bs))= .tuple #[.agg x.cells,.bool true]):=by
      show zD0 (z6i (b::bs))=_;rw[HS.out, <-hput,hkk,List.drop_length];rfl
     have hnx: ∀ty,(Instr.next (pT (some ⟨w1.heap.size+1+1,0,none⟩)) true ty).run tP wr= .ok (.tuple #[.bool false]) wr:=fun ty=>Lib.run_next_end_at (P:=tP) wr (w1.heap.size+2) (z39 c) _ ty hit (by rw[HPS.out];exact hp);obtain⟨q0',q1',q2',q3',q4',q5',z0',z1',z2',z3',z4',z5'⟩:=z6g hzr;have s0:=hsx.cell 0;have s1:=hsx.cell 1;have s2:=hsx.cell 2;have s3:=hsx.cell 3;have s4:=hsx.cell 4;have s5:=hsx.cell 5;simp only[St.cells]at s0 s1 s2 s3 s4 s5;have hbw:Below w.heap.size w wr:=(zAd hb1).trans (((bF _ w1).alloc hw1 _).trans (hbel.mono kO));clear hput hkk hp hgk hbz;go_wp2;rw[HN.out]
     exact bodyPost_ret (v:= .tuple #[.agg x.cells,.bool true]) (by simp[results,Tryz.results104,go_sem,q0',q1',q2',q3',q4',q5',St.cells]) rfl
      ⟨rfl,(((((hbw.setCell (Nat.le_refl _) _).setCell (Nat.le_refl _) _).setCell (Nat.le_refl _) _).setCell (Nat.le_refl _) _).setCell (Nat.le_refl _) _).setCell (Nat.le_refl _) _⟩
end
end
end Go.Proofs.YtkdflpplamebkaaGreatDoor
