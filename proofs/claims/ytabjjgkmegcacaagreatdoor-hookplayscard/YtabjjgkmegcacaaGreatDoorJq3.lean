/-
A part of the proof of HookPlays; its card says what is proved.
-/
import Derived.Test.YtabjjgkmegcacaaGreatDoorJq2
import Derived.Test.YtabjjgkmegcacaaGreatDoorJq0
import Derived.Test.YtabjjgkmegcacaaGreatDoorRows
import Derived.ProofKit
import Derived.OpenShut
import Derived.WalkLawsBesides
import Derived.BigGuardPart
import Derived.Deep.RegionHeld3
import Derived.Deep.DeepCutAuto
import Derived.Deep.DeepMust
import Derived.BigQuiet
set_option maxHeartbeats 40000000
open Go.Value renaming int → A
open Go.IntKind renaming i64 → F
open Go.RowKit.Below renaming alloc → bA, setCell → bS, drew → bD, refl → bF
set_option maxRecDepth 1000000
set_option linter.defProp false
set_option linter.unusedVariables false
set_option linter.unusedSimpArgs false
open Go.Ending renaming returned → rT
open Go.Value renaming pointer → pT
open Go.Obj renaming cells → cT
open Go.Proofs.Tryz renaming prog → tP
namespace Go.Proofs.YtabjjgkmegcacaaGreatDoor
section
open Go.RowKit
def uns(a:Int):Nat:=(a%18446744073709551616).toNat
theorem z1z(a:Int):uns a<18446744073709551616:=by unfold uns;omega
theorem z07(a:Int):IntKind.u64.wrap a=(uns a:Int):=by rw[IntKind.wrap_u64];unfold uns;omega
theorem zKq(a:Int):(uns a:Int)=a%18446744073709551616:=by unfold uns;omega
theorem z9i{b:Int}(h0: -9223372036854775808<=b)(h1:b<=9223372036854775807):uns b=0↔b=0:=by unfold uns;omega
theorem z53(n:Int):wrap64 (n%18446744073709551616)=wrap64 n:=by unfold wrap64;omega
theorem z5k{m n:Int}(h:m%18446744073709551616=n%18446744073709551616):wrap64 m=wrap64 n:=by
 rw[<-z53 m,h,z53]
theorem z45(n:Int):wrap64 (IntKind.u64.wrap n)=wrap64 n:=by rw[IntKind.wrap_u64];exact z53 n
theorem z08{n:Int}(h0: -9223372036854775808<=n)(h1:n<=9223372036854775807):wrap64 n=n:=by unfold wrap64;omega
theorem z1r(n:Int): -9223372036854775808<=wrap64 n/\wrap64 n<=9223372036854775807:=by unfold wrap64;omega
theorem zM0(a:Int):wrap64 (uns a:Int)=wrap64 a:=by rw[zKq];exact z53 a
theorem z3v(a:Int):(BitVec.ofInt 64 a).toNat=uns a:=by
 rw[BitVec.toNat_ofInt];rfl
theorem z9a(a b:Int):bits .and .i64 a b=wrap64 ((uns a&&&uns b:Nat):Int):=by
 show IntKind.i64.wrap ((BitVec.ofInt 64 a&&&BitVec.ofInt 64 b).toNat:Int)=_;rw[BitVec.toNat_and,z3v,z3v,IntWalk.i64_left]
theorem zKf(a b:Int):bits .or .i64 a b=wrap64 ((uns a|||uns b:Nat):Int):=by
 show IntKind.i64.wrap ((BitVec.ofInt 64 a|||BitVec.ofInt 64 b).toNat:Int)=_;rw[BitVec.toNat_or,z3v,z3v,IntWalk.i64_left]
theorem zHd(a b:Int):bits .xor .i64 a b=wrap64 ((uns a^^^uns b:Nat):Int):=by
 show IntKind.i64.wrap ((BitVec.ofInt 64 a^^^BitVec.ofInt 64 b).toNat:Int)=_;rw[BitVec.toNat_xor,z3v,z3v,IntWalk.i64_left]
theorem zHf(b:Int):bits .and .i64 b 63=b%64:=by
 rw[z9a]
 have e:uns b&&&uns 63=uns b%64:=by
  show uns b&&&63=_;exact Nat.and_two_pow_sub_one_eq_mod (uns b) 6
 rw[e];unfold uns wrap64;omega
def sixBits(b:Int):Nat:=(b%64).toNat
theorem z3r(b:Int):sixBits b<64:=by unfold sixBits;omega
theorem z6s(b:Int):uns b%64=sixBits b:=by unfold sixBits uns;omega
def z0t(c a b:Int):Int:=
 if c=1 then b else if c=2 then wrap64 (a+b)else if c=3 then wrap64 (a-b)else if c=4 then wrap64 (a*b)
 else if c=5 then(if b=0 then 0 else wrap64 ((uns a/uns b:Nat):Int))
 else if c=6 then(if b=0 then a else wrap64 ((uns a%uns b:Nat):Int))
 else if c=7 then wrap64 ((uns a&&&uns b:Nat):Int)else if c=8 then wrap64 ((uns a|||uns b:Nat):Int)
 else if c=9 then wrap64 ((uns a^^^uns b:Nat):Int)
 else if c=10 then wrap64 (a*2^sixBits b)else if c=11 then wrap64 ((uns a/2^sixBits b:Nat):Int)
 else if c=12 then a/2^sixBits b else if c=13 then wrap64 (-a)else 0
def isV(c a b:Int):Bool:=
 if c=15 then decide (a=b)else if c=16 then !decide (a=b)
 else if c=17 then decide (uns b<uns a)else if c=18 then decide (uns b<=uns a)
 else if c=19 then decide (uns a<uns b)else if c=20 then decide (uns a<=uns b)
 else if c=21 then decide (b<a)else if c=22 then decide (b<=a)
 else if c=23 then decide (a<b)else if c=24 then decide (a<=b)else false
theorem zF6(a b:Int):z0t 1 a b=b:=by simp only[z0t,reduceIte,Int.reduceEq]
theorem z79(a b:Int):z0t 2 a b=wrap64 (a+b):=by simp only[z0t,reduceIte,Int.reduceEq]
theorem zBg(a b:Int):z0t 3 a b=wrap64 (a-b):=by simp only[z0t,reduceIte,Int.reduceEq]
theorem zF5(a b:Int):z0t 4 a b=wrap64 (a*b):=by simp only[z0t,reduceIte,Int.reduceEq]
theorem zBf(a b:Int):z0t 7 a b=wrap64 ((uns a&&&uns b:Nat):Int):=by simp only[z0t,reduceIte,Int.reduceEq]
theorem zF2(a b:Int):z0t 8 a b=wrap64 ((uns a|||uns b:Nat):Int):=by simp only[z0t,reduceIte,Int.reduceEq]
theorem zF1(a b:Int):z0t 9 a b=wrap64 ((uns a^^^uns b:Nat):Int):=by simp only[z0t,reduceIte,Int.reduceEq]
theorem z49(a b:Int):z0t 10 a b=wrap64 (a*2^sixBits b):=by simp only[z0t,reduceIte,Int.reduceEq]
theorem z5e(a b:Int):z0t 11 a b=wrap64 ((uns a/2^sixBits b:Nat):Int):=by simp only[z0t,reduceIte,Int.reduceEq]
theorem z5d(a b:Int):z0t 12 a b=a/2^sixBits b:=by simp only[z0t,reduceIte,Int.reduceEq]
theorem zA0(a b:Int):z0t 13 a b=wrap64 (-a):=by simp only[z0t,reduceIte,Int.reduceEq]
theorem zF4(a:Int){b:Int}(h:b≠0):z0t 5 a b=wrap64 ((uns a/uns b:Nat):Int):=by simp only[z0t,reduceIte,Int.reduceEq,if_neg h]
theorem z9z(a:Int):z0t 5 a 0=0:=by simp only[z0t,reduceIte,Int.reduceEq]
theorem zF3(a:Int){b:Int}(h:b≠0):z0t 6 a b=wrap64 ((uns a%uns b:Nat):Int):=by simp only[z0t,reduceIte,Int.reduceEq,if_neg h]
theorem z9y(a:Int):z0t 6 a 0=a:=by simp only[z0t,reduceIte,Int.reduceEq]
theorem zLh{c:Int}(a b:Int)(h:c<1\/13<c):z0t c a b=0:=by
 have e: ∀k:Int,1<=k->k<=13->c≠k:=fun k h1 h2=>by omega
 unfold z0t;rw[if_neg (e 1 kD kD),if_neg (e 2 kD kD),if_neg (e 3 kD kD),if_neg (e 4 kD kD),if_neg (e 5 kD kD),if_neg (e 6 kD kD),if_neg (e 7 kD kD),if_neg (e 8 kD kD),if_neg (e 9 kD kD),if_neg (e 10 kD kD),if_neg (e 11 kD kD),if_neg (e 12 kD kD),if_neg (e 13 kD kD)]
theorem zGt(a b:Int):isV 15 a b=(decide (a=b)):=by simp only[isV,reduceIte,Int.reduceEq]
theorem zGs(a b:Int):isV 16 a b=(!decide (a=b)):=by simp only[isV,reduceIte,Int.reduceEq]
theorem zGr(a b:Int):isV 17 a b=(decide (uns b<uns a)):=by simp only[isV,reduceIte,Int.reduceEq]
theorem zGq(a b:Int):isV 18 a b=(decide (uns b<=uns a)):=by simp only[isV,reduceIte,Int.reduceEq]
theorem zD0(a b:Int):isV 19 a b=(decide (uns a<uns b)):=by simp only[isV,reduceIte,Int.reduceEq]
theorem zCz(a b:Int):isV 20 a b=(decide (uns a<=uns b)):=by simp only[isV,reduceIte,Int.reduceEq]
theorem zGp(a b:Int):isV 21 a b=(decide (b<a)):=by simp only[isV,reduceIte,Int.reduceEq]
theorem zGo(a b:Int):isV 22 a b=(decide (b<=a)):=by simp only[isV,reduceIte,Int.reduceEq]
theorem zB3(a b:Int):isV 23 a b=(decide (a<b)):=by simp only[isV,reduceIte,Int.reduceEq]
theorem zB2(a b:Int):isV 24 a b=(decide (a<=b)):=by simp only[isV,reduceIte,Int.reduceEq]
theorem zWv{c:Int}(a b:Int)(h:c<15\/24<c):isV c a b=false:=by
 have e: ∀k:Int,15<=k->k<=24->c≠k:=fun k h1 h2=>by omega
 unfold isV;rw[if_neg (e 15 kD kD),if_neg (e 16 kD kD),if_neg (e 17 kD kD),if_neg (e 18 kD kD),if_neg (e 19 kD kD),if_neg (e 20 kD kD),if_neg (e 21 kD kD),if_neg (e 22 kD kD),if_neg (e 23 kD kD),if_neg (e 24 kD kD)]
theorem shr_u(a b:Int):wrap64 (IntKind.u64.wrap a/2^(b%64).toNat)=wrap64 ((uns a/2^sixBits b:Nat):Int):=by
 rw[z07,Int.natCast_ediv,Int.natCast_pow];rfl
def pw(j:Nat):Nat:=2^j%18446744073709551616
theorem z47{j:Nat}(h:j<64):pw j=2^j:=by
 unfold pw;exact Nat.mod_eq_of_lt (Nat.lt_of_lt_of_le (Nat.pow_lt_pow_right kD h) kD)
theorem zQd(j:Nat):pw (j+1)=pw j*2%18446744073709551616:=by
 unfold pw;rw[Nat.pow_succ,Nat.mod_mul_mod]
theorem z6x{j:Nat}(h:j<64):pw j<=9223372036854775808:=by
 rw[z47 h];exact Nat.pow_le_pow_right (n:=2) (i:=j) (j:=63) kD kO
theorem z4e{j:Nat}(h:j<64):0<pw j:=by rw[z47 h];exact Nat.two_pow_pos j
theorem z32{j:Nat}(h:j<63):pw j*2<18446744073709551616:=by
 rw[z47 kO];have:=Nat.pow_le_pow_right (n:=2) (i:=j) (j:=62) kD kO;omega
def hi(x j:Nat):Nat:=x/2^j
def lo(x j:Nat):Nat:=x%2^j
theorem z8s(x:Nat):hi x 0=x:=by simp[hi]
theorem zJ3(x:Nat):lo x 0=0:=by simp[lo,Nat.mod_one]
theorem z26(x j:Nat):hi x (j+1)=hi x j/2:=by unfold hi;rw[Nat.pow_succ,Nat.div_div_eq_div_mul]
theorem zO0(x j:Nat):hi x j<=x:=Nat.div_le_self _ _
theorem zJ4(x j:Nat):lo x (j+1)=lo x j+hi x j%2*2^j:=by
 unfold lo hi;rw[Nat.pow_succ,Nat.mod_mul,Nat.mul_comm (2^j)]
theorem lo_lt{x j:Nat}:lo x j<2^j:=Nat.mod_lt _ (Nat.two_pow_pos j)
theorem zR2{x:Nat}(h:x<18446744073709551616):lo x 64=x:=Nat.mod_eq_of_lt h
theorem z80(x j:Nat):hi x j%2=(x.testBit j).toNat:=by
 unfold hi;rw[Nat.testBit_eq_decide_div_mod_eq];have:=Nat.mod_two_eq_zero_or_one (x/2^j);rcases this with h|h<;>simp[h]
theorem hi_and(x y j:Nat):hi (x&&&y) j%2=hi x j%2*(hi y j%2):=by
 rw[z80,z80,z80,Nat.testBit_and];cases x.testBit j<;>cases y.testBit j<;>rfl
theorem hi_or(x y j:Nat):hi (x|||y) j%2=max (hi x j%2) (hi y j%2):=by
 rw[z80,z80,z80,Nat.testBit_or];cases x.testBit j<;>cases y.testBit j<;>rfl
theorem hi_xor(x y j:Nat):hi (x^^^y) j%2=(hi x j%2+hi y j%2)%2:=by
 rw[z80,z80,z80,Nat.testBit_xor];cases x.testBit j<;>cases y.testBit j<;>rfl
def sh(a:Int)(j:Nat):Int:=a/2^j
theorem zPv(a:Int):sh a 0=a:=by simp[sh]
theorem zFj(j:Nat):(0:Int)<2^j:=Int.pow_pos kD
theorem zPw(a:Int)(j:Nat):sh a (j+1)=sh a j/2:=by
 unfold sh;rw[Int.pow_succ,Int.ediv_ediv_of_nonneg (Int.le_of_lt (zFj j))]
theorem sh_bd{a:Int}(h0: -9223372036854775808<=a)(h1:a<=9223372036854775807): ∀j, -9223372036854775808<=sh a j/\sh a j<=9223372036854775807
 |0=>by rw[zPv];exact⟨h0,h1⟩
 |j+1=>by have:=sh_bd h0 h1 j;rw[zPw];omega
def ones(j:Nat):Nat:=2^j-1
theorem zQm(j:Nat):ones (j+1)=ones j*2+1:=by
 unfold ones;have:=Nat.two_pow_pos j;rw[Nat.pow_succ];omega
theorem zEe{j:Nat}(h:j<=63):ones j<=9223372036854775807:=by
 unfold ones;have:=Nat.pow_le_pow_right (n:=2) (i:=j) (j:=63) kD h;omega
def z5z(n:Int):Int:=(ones (lenV n.toNat):Int)
theorem zCh{x:Int}(h:x%2=0):x.tdiv 2=x/2:=by
 rw[Int.tdiv_eq_ediv,if_pos (Or.inr kO)];omega
theorem zFm{x:Int}(h:x<0)(h2:x%2=1):x.tdiv 2=x/2+1:=by
 rw[Int.tdiv_eq_ediv,if_neg kO];rfl
theorem zMk{x:Int}(h:x%2=0):x.tmod 2=0:=by
 have:=Int.mul_tdiv_add_tmod x 2;rw[zCh h]at this;omega
theorem zPm{x:Int}(h:x<0)(h2:x%2=1):x.tmod 2= -1:=by
 have:=Int.mul_tdiv_add_tmod x 2;rw[zFm h h2]at this;omega
theorem zYt(m:Nat)(hl:lenV m<=63):wrap64 (IntKind.u64.wrap (IntKind.u64.wrap (2^lenV m)-1))=z5z (m:Int):=by
 have e:((2:Int)^lenV m)=((2^lenV m:Nat):Int):=by rw[Int.natCast_pow];rfl
 have h1:=Nat.pow_le_pow_right (n:=2) (i:=lenV m) (j:=63) kD hl;have h2:=Nat.two_pow_pos (lenV m);unfold z5z ones;rw[Int.toNat_natCast,e,IntKind.wrap_u64,IntKind.wrap_u64];unfold wrap64;omega
theorem z4d{j:Nat}(h:j<63):pw (j+1)=pw j*2:=by
 rw[zQd];exact Nat.mod_eq_of_lt (z32 h)
theorem zFa{x y j:Nat}(hj:j<64){u v:Nat}(hu:hi x j%2=u)(hv:hi y j%2=v):lo (x&&&y) (j+1)=lo (x&&&y) j+u*v*pw j:=by
 rw[zJ4,hi_and,hu,hv,z47 hj]
theorem zLs{x y j:Nat}(hj:j<64){u v:Nat}(hu:hi x j%2=u)(hv:hi y j%2=v):lo (x|||y) (j+1)=lo (x|||y) j+max u v*pw j:=by
 rw[zJ4,hi_or,hu,hv,z47 hj]
theorem zF9{x y j:Nat}(hj:j<64){u v:Nat}(hu:hi x j%2=u)(hv:hi y j%2=v):lo (x^^^y) (j+1)=lo (x^^^y) j+(u+v)%2*pw j:=by
 rw[zJ4,hi_xor,hu,hv,z47 hj]
theorem zJ5{z j:Nat}(hj:j<64):lo z j+pw j<18446744073709551616:=by
 rw[z47 hj];have a:=lo_lt (x:=z) (j:=j);have b:=Nat.pow_le_pow_right (n:=2) (i:=j) (j:=63) kD kO;omega
theorem zIc(j:Nat):IntKind.u64.wrap ((pw j:Int)*2)=(pw (j+1):Int):=by
 rw[zQd,IntKind.wrap_u64];omega
theorem len_63{n:Int}(h:n<=9223372036854775807):lenV n.toNat<=63:=zAw (Nat.lt_of_lt_of_eq (show n.toNat<9223372036854775808 by omega) kD)
theorem zUy{n:Int}{j:Nat}(h:ones j<n.toNat):j+1<=lenV n.toNat:=by
 have a:=zEo n.toNat;have b:2^j<2^lenV n.toNat:=by unfold ones at h;omega
 exact(Nat.pow_lt_pow_iff_right (by decide:1<2)).1 b
theorem zUx{n:Int}{j:Nat}(hj:j<=lenV n.toNat)(h: ¬(ones j:Int)<n):j=lenV n.toNat:=by
 have a:n.toNat<2^j:=by have:=Nat.two_pow_pos j;unfold ones at h;omega
 have b:=zAw a;omega
theorem r_mov{b:Int}{Y:Nat}(h0: -9223372036854775808<=b)(h1:b<=9223372036854775807)(hb:IntKind.u64.wrap b=(Y:Int)):wrap64 (Y:Int)=b:=by
 rw[<-hb,z45,z08 h0 h1]
theorem r_add{a b:Int}{X Y:Nat}(ha:IntKind.u64.wrap a=(X:Int))(hb:IntKind.u64.wrap b=(Y:Int)):wrap64 (IntKind.u64.wrap ((X:Int)+Y))=wrap64 (a+b):=by
 rw[z45, <-ha, <-hb,IntKind.wrap_u64,IntKind.wrap_u64];exact z5k (Int.add_emod _ _ _).symm
theorem r_sub{a b:Int}{X Y:Nat}(ha:IntKind.u64.wrap a=(X:Int))(hb:IntKind.u64.wrap b=(Y:Int)):wrap64 (IntKind.u64.wrap ((X:Int)-Y))=wrap64 (a-b):=by
 rw[z45, <-ha, <-hb,IntKind.wrap_u64,IntKind.wrap_u64];exact z5k (Int.sub_emod _ _ _).symm
theorem r_mul{a b:Int}{X Y:Nat}(ha:IntKind.u64.wrap a=(X:Int))(hb:IntKind.u64.wrap b=(Y:Int)):wrap64 (IntKind.u64.wrap ((X:Int)*Y))=wrap64 (a*b):=by
 rw[z45, <-ha, <-hb,IntKind.wrap_u64,IntKind.wrap_u64];exact z5k (Int.mul_emod _ _ _).symm
theorem r_neg{a:Int}{X:Nat}(ha:IntKind.u64.wrap a=(X:Int)):wrap64 (IntKind.u64.wrap (-(X:Int)))=wrap64 (-a):=by
 rw[z45, <-ha,IntKind.wrap_u64];apply z5k;omega
theorem r_lsh{a b:Int}{X Y:Nat}(ha:IntKind.u64.wrap a=(X:Int))(hs:Y%64=sixBits b):wrap64 (IntKind.u64.wrap ((X:Int)*(pw (Y%64):Int)))=wrap64 (a*2^sixBits b):=by
 rw[hs,z47 (z3r b),z45, <-ha,IntKind.wrap_u64,Int.natCast_pow];apply z5k;rw[Int.mul_emod,Int.emod_emod, <-Int.mul_emod];rfl
theorem r_rsh{b:Int}{X Y:Nat}(hs:Y%64=sixBits b):wrap64 (IntKind.u64.wrap ((X:Int)/(pw (Y%64):Int)))=wrap64 ((X/2^sixBits b:Nat):Int):=by
 rw[hs,z47 (z3r b),z45,Int.natCast_ediv]
end
section
open Go.ChangeShapes Go.WideShapes Go.ChangeAt Go.RowKit
theorem z1q{a b:Int}(h:a=b):Ending.returned (A F a)= rT (A F b):=by rw[h]
theorem z1c{a b:Bool}(h:a=b):Ending.returned (.bool a)= rT (.bool b):=by rw[h]
theorem z2y(c:Int)(w:World):
  zS 87 #[A F c] w (.bool (decide (15<=c)&&decide (c<=24))):=by
 by_cases h1:15<=c
 ·go_enter Tryz.func87,Tryz.ntmps87
  go_wp2;go_ret;exact⟨z1c (by simp[h1]),rfl⟩
 have h2:decide (15<=c)=false:=by simpa using h1
 rw[h2,Bool.false_and];go_enter Tryz.func87,Tryz.ntmps87;go_wp2;go_ret;exact⟨rfl,rfl⟩
theorem in_any(n l h:Int)(w:World):
  zS 37 #[A F n,A F l,A F h] w (.bool (decide (l<=n)&&decide (n<=h))):=by
 by_cases h1:l<=n
 ·go_enter Tryz.func37,Tryz.ntmps37
  go_wp2;go_ret;exact⟨z1c (by simp[h1]),rfl⟩
 have h2:decide (l<=n)=false:=by simpa using h1
 rw[h2,Bool.false_and];go_enter Tryz.func37,Tryz.ntmps37;go_wp2;go_ret;exact⟨rfl,rfl⟩
theorem z0e(c:Int)(w:World):
  zS 56 #[A F c] w (.bool (decide (15<=c)&&decide (c<=24))):=by
 go_enter Tryz.func56,Tryz.ntmps56;go_wp2_with(go_at_call 37;refine(in_any _ _ _ _).mono ?_;rintro e w' ⟨rfl,rfl⟩);go_ret;exact⟨rfl,rfl⟩
theorem does_1(a b:Int)(w:World):zS 133 #[A F 1,A F a,A F b] w (A F (z0t 1 a b)):=by
 rw[zF6];go_enter Tryz.func133,Tryz.ntmps133;go_wp2;go_ret;exact⟨z1q rfl,rfl⟩
theorem does_2(a b:Int)(w:World):zS 133 #[A F 2,A F a,A F b] w (A F (z0t 2 a b)):=by
 rw[z79];go_enter Tryz.func133,Tryz.ntmps133;go_wp2;go_ret;exact⟨z1q rfl,rfl⟩
theorem does_3(a b:Int)(w:World):zS 133 #[A F 3,A F a,A F b] w (A F (z0t 3 a b)):=by
 rw[zBg];go_enter Tryz.func133,Tryz.ntmps133;go_wp2;go_ret;exact⟨z1q rfl,rfl⟩
theorem does_4(a b:Int)(w:World):zS 133 #[A F 4,A F a,A F b] w (A F (z0t 4 a b)):=by
 rw[zF5];go_enter Tryz.func133,Tryz.ntmps133;go_wp2;go_ret;exact⟨z1q rfl,rfl⟩
theorem zZ2(a b:Int)(w:World):zS 133 #[A F 13,A F a,A F b] w (A F (z0t 13 a b)):=by
 rw[zA0];go_enter Tryz.func133,Tryz.ntmps133;go_wp2;go_ret;exact⟨z1q rfl,rfl⟩
theorem does_7(a b:Int)(w:World):zS 133 #[A F 7,A F a,A F b] w (A F (z0t 7 a b)):=by
 rw[zBf];go_enter Tryz.func133,Tryz.ntmps133;go_wp2;go_ret;exact⟨z1q (z9a a b),rfl⟩
theorem does_8(a b:Int)(w:World):zS 133 #[A F 8,A F a,A F b] w (A F (z0t 8 a b)):=by
 rw[zF2];go_enter Tryz.func133,Tryz.ntmps133;go_wp2;go_ret;exact⟨z1q (zKf a b),rfl⟩
theorem does_9(a b:Int)(w:World):zS 133 #[A F 9,A F a,A F b] w (A F (z0t 9 a b)):=by
 rw[zF1];go_enter Tryz.func133,Tryz.ntmps133;go_wp2;go_ret;exact⟨z1q (zHd a b),rfl⟩
theorem zZ5(a b:Int)(w:World):zS 133 #[A F 10,A F a,A F b] w (A F (z0t 10 a b)):=by
 rw[z49];have e:=zHf b;have h0:0<=b%64:=Int.emod_nonneg _ kD;have h1:b%64<64:=Int.emod_lt_of_pos _ kD;go_enter Tryz.func133,Tryz.ntmps133;go_wp2;go_ret;exact⟨z1q rfl,rfl⟩
theorem zZ4(a b:Int)(w:World):zS 133 #[A F 11,A F a,A F b] w (A F (z0t 11 a b)):=by
 rw[z5e];have e:=zHf b;have h0:0<=b%64:=Int.emod_nonneg _ kD;have h1:b%64<64:=Int.emod_lt_of_pos _ kD;go_enter Tryz.func133,Tryz.ntmps133;go_wp2;go_ret;exact⟨z1q (shr_u a b),rfl⟩
theorem zZ3(a b:Int)(w:World):zS 133 #[A F 12,A F a,A F b] w (A F (z0t 12 a b)):=by
 rw[z5d];have e:=zHf b;have h0:0<=b%64:=Int.emod_nonneg _ kD;have h1:b%64<64:=Int.emod_lt_of_pos _ kD;go_enter Tryz.func133,Tryz.ntmps133;go_wp2;go_ret;exact⟨z1q rfl,rfl⟩
theorem does_5(a b:Int)(h0: -9223372036854775808<=b)(h1:b<=9223372036854775807)(w:World):zS 133 #[A F 5,A F a,A F b] w (A F (z0t 5 a b)):=by
 by_cases hb:b=0
 ·subst hb
  rw[z9z];go_enter Tryz.func133,Tryz.ntmps133;go_wp2;go_ret;exact⟨rfl,rfl⟩
 rw[zF4 a hb];have ha:=z07 a;have hu:=z07 b;have l1:=z1z a;have l2:=z1z b;have hz:uns b≠0:=fun e=>hb ((z9i h0 h1).1 e);generalize uns a=X at ha l1⊢;generalize uns b=Y at hu l2 hz⊢;go_enter Tryz.func133,Tryz.ntmps133;go_wp2;go_ret;exact⟨z1q (by rw[z45,Int.natCast_ediv]),rfl⟩
theorem does_6(a b:Int)(h0: -9223372036854775808<=b)(h1:b<=9223372036854775807)(w:World):zS 133 #[A F 6,A F a,A F b] w (A F (z0t 6 a b)):=by
 by_cases hb:b=0
 ·subst hb
  rw[z9y];go_enter Tryz.func133,Tryz.ntmps133;go_wp2;go_ret;exact⟨rfl,rfl⟩
 rw[zF3 a hb];have ha:=z07 a;have hu:=z07 b;have l1:=z1z a;have l2:=z1z b;have hz:uns b≠0:=fun e=>hb ((z9i h0 h1).1 e);generalize uns a=X at ha l1⊢;generalize uns b=Y at hu l2 hz⊢;go_enter Tryz.func133,Tryz.ntmps133;go_wp2;go_ret;exact⟨z1q (by rw[Int.natCast_emod]),rfl⟩
theorem zZ1(c a b:Int)(hc:c<1\/13<c)(w:World):zS 133 #[A F c,A F a,A F b] w (A F (z0t c a b)):=by
 rw[zLh a b hc];go_enter Tryz.func133,Tryz.ntmps133;go_wp2;go_ret;exact⟨rfl,rfl⟩
theorem is_15(a b:Int)(w:World):zS 121 #[A F 15,A F a,A F b] w (.bool (isV 15 a b)):=by
 rw[zGt];have ha:=z07 a;have hb:=z07 b;go_enter Tryz.func121,Tryz.ntmps121;go_wp2;go_ret;refine⟨z1c ?_,rfl⟩;rfl
theorem is_16(a b:Int)(w:World):zS 121 #[A F 16,A F a,A F b] w (.bool (isV 16 a b)):=by
 rw[zGs];have ha:=z07 a;have hb:=z07 b;go_enter Tryz.func121,Tryz.ntmps121;go_wp2;go_ret;refine⟨z1c ?_,rfl⟩;rfl
theorem is_17(a b:Int)(w:World):zS 121 #[A F 17,A F a,A F b] w (.bool (isV 17 a b)):=by
 rw[zGr];have ha:=z07 a;have hb:=z07 b;go_enter Tryz.func121,Tryz.ntmps121;go_wp2;go_ret;refine⟨z1c ?_,rfl⟩;rfl
theorem is_18(a b:Int)(w:World):zS 121 #[A F 18,A F a,A F b] w (.bool (isV 18 a b)):=by
 rw[zGq];have ha:=z07 a;have hb:=z07 b;go_enter Tryz.func121,Tryz.ntmps121;go_wp2;go_ret;refine⟨z1c ?_,rfl⟩;rfl
theorem is_19(a b:Int)(w:World):zS 121 #[A F 19,A F a,A F b] w (.bool (isV 19 a b)):=by
 rw[zD0];have ha:=z07 a;have hb:=z07 b;go_enter Tryz.func121,Tryz.ntmps121;go_wp2;go_ret;refine⟨z1c ?_,rfl⟩;rfl
theorem is_20(a b:Int)(w:World):zS 121 #[A F 20,A F a,A F b] w (.bool (isV 20 a b)):=by
 rw[zCz];have ha:=z07 a;have hb:=z07 b;go_enter Tryz.func121,Tryz.ntmps121;go_wp2;go_ret;refine⟨z1c ?_,rfl⟩;rfl
theorem is_21(a b:Int)(w:World):zS 121 #[A F 21,A F a,A F b] w (.bool (isV 21 a b)):=by
 rw[zGp];have ha:=z07 a;have hb:=z07 b;go_enter Tryz.func121,Tryz.ntmps121;go_wp2;go_ret;refine⟨z1c ?_,rfl⟩;rfl
theorem is_22(a b:Int)(w:World):zS 121 #[A F 22,A F a,A F b] w (.bool (isV 22 a b)):=by
 rw[zGo];have ha:=z07 a;have hb:=z07 b;go_enter Tryz.func121,Tryz.ntmps121;go_wp2;go_ret;refine⟨z1c ?_,rfl⟩;rfl
theorem is_23(a b:Int)(w:World):zS 121 #[A F 23,A F a,A F b] w (.bool (isV 23 a b)):=by
 rw[zB3];have ha:=z07 a;have hb:=z07 b;go_enter Tryz.func121,Tryz.ntmps121;go_wp2;go_ret;refine⟨z1c ?_,rfl⟩;rfl
theorem is_24(a b:Int)(w:World):zS 121 #[A F 24,A F a,A F b] w (.bool (isV 24 a b)):=by
 rw[zB2];have ha:=z07 a;have hb:=z07 b;go_enter Tryz.func121,Tryz.ntmps121;go_wp2;go_ret;refine⟨z1c ?_,rfl⟩;rfl
theorem is_no(c a b:Int)(hc:c<15\/24<c)(w:World):zS 121 #[A F c,A F a,A F b] w (.bool (isV c a b)):=by
 rw[zWv a b hc];go_enter Tryz.func121,Tryz.ntmps121;go_wp2;go_ret;exact⟨rfl,rfl⟩
theorem z6e(c a b:Int)(k0: -9223372036854775808<=b)(k1:b<=9223372036854775807)(w:World):zS 133 #[A F c,A F a,A F b] w (A F (z0t c a b)):=by
 by_cases hc:c<1\/13<c
 ·exact zZ1 c a b hc w
 have h:c=1\/c=2\/c=3\/c=4\/c=5\/c=6\/c=7\/c=8\/c=9\/c=10\/c=11\/c=12\/c=13:=kO;rcases h with rfl|rfl|rfl|rfl|rfl|rfl|rfl|rfl|rfl|rfl|rfl|rfl|rfl
 ·exact does_1 a b w
 ·exact does_2 a b w
 ·exact does_3 a b w
 ·exact does_4 a b w
 ·exact does_5 a b k0 k1 w
 ·exact does_6 a b k0 k1 w
 ·exact does_7 a b w
 ·exact does_8 a b w
 ·exact does_9 a b w
 ·exact zZ5 a b w
 ·exact zZ4 a b w
 ·exact zZ3 a b w
 exact zZ2 a b w
theorem zR5(c a b:Int)(w:World):zS 121 #[A F c,A F a,A F b] w (.bool (isV c a b)):=by
 by_cases hc:c<15\/24<c
 ·exact is_no c a b hc w
 have h:c=15\/c=16\/c=17\/c=18\/c=19\/c=20\/c=21\/c=22\/c=23\/c=24:=kO;rcases h with rfl|rfl|rfl|rfl|rfl|rfl|rfl|rfl|rfl|rfl
 ·exact is_15 a b w
 ·exact is_16 a b w
 ·exact is_17 a b w
 ·exact is_18 a b w
 ·exact is_19 a b w
 ·exact is_20 a b w
 ·exact is_21 a b w
 ·exact is_22 a b w
 ·exact is_23 a b w
 exact is_24 a b w
theorem zVf(n:Int)(h0: -9223372036854775808<=n)(h1:n<=9223372036854775807)(w:World):zS 151 #[A F n] w (A F (z5z n)):=by
 by_cases hn:n<=0
 ·have hd:z5z n=0:=by
   unfold z5z;rw[show n.toNat=0 by omega];rfl
  rw[hd];go_enter Tryz.func151,Tryz.ntmps151;go_wp2;go_ret;exact⟨rfl,rfl⟩
 obtain⟨m,rfl⟩: ∃m:Nat,n=(m:Int):=⟨n.toNat,by omega⟩;have hl:lenV m<=63:=zAw (Nat.lt_of_lt_of_eq (show m<9223372036854775808 by omega) kD);go_enter Tryz.func151,Tryz.ntmps151;go_wp2_with(go_at_call 154;refine(len64 _ _ kO).mono ?_;rintro e w' ⟨rfl,rfl⟩);go_ret;exact⟨z1q (zYt m hl),rfl⟩
structure Val where
 k:Int
 n:Int
 c:Int
def Val.v(x:Val):Value:= .agg #[A F x.k,A F x.n,A F x.c]
def z23(x:Val):Int:=if x.k=0 then 8 else if x.k=1 then 0 else 1
def numF(n:Int):Val:=⟨1,n,0⟩
def z6o(n:Int):Val:=if n<0\/4<=n then⟨1,0,0⟩else⟨4,0,n⟩
def z2i(code:Int)(a b:Val):Val×Int:=
 if b.k=0\/(a.k=0/\code≠1)then(⟨0,0,0⟩,8)
 else if code=1 then(b,0)
 else if b.k=1/\(a.k=1\/code=2\/code=3)then(⟨a.k,z0t code a.n b.n,a.c⟩,0)
 else if a.k=1/\code=2 then(⟨b.k,z0t code a.n b.n,b.c⟩,0)
 else(⟨0,0,0⟩,1)
def z2r(x:Val)(off:Int):Int:=if x.k=3 then wrap64 (wrap64 (x.n+off)+16)else wrap64 (x.n+off)
def z1o(x:Val):Int:=if x.k=2 then 8 else if x.k=3 then 16 else 4
def z0x(x:Val)(off:Int):Int×Int:=
 if x.k=0 then(0,8)else if x.k=1 then(0,1)else if z2r x off<0\/z1o x<=z2r x off then(0,2)else(z2r x off,0)
theorem z9h{w w1:World}{t:TypeId}(h:Below (w.alloc (cT #[A F 0,A F 0,A F 0] t)).heap.size (w.alloc (cT #[A F 0,A F 0,A F 0] t)) w1):
  w1.cell? ⟨w.heap.size,0,none⟩=some (A F 0)/\w1.cell? ⟨w.heap.size,1,none⟩=some (A F 0)/\w1.cell? ⟨w.heap.size,2,none⟩=some (A F 0)/\w1.frozen? ⟨w.heap.size,0,none⟩=false/\w1.frozen? ⟨w.heap.size,1,none⟩=false/\w1.frozen? ⟨w.heap.size,2,none⟩=false/\w.heap.size<w1.heap.size:=by
 have e:w1.heap[w.heap.size]?=some (cT #[A F 0,A F 0,A F 0] t (0,0)):=by
  rw[h.block w.heap.size kS];show(w.heap.push _)[w.heap.size]?=_;simp
 have hs:=h.size;simp at hs;exact⟨by simp[World.cell?,e],by simp[World.cell?,e],by simp[World.cell?,e],by simp[World.frozen?,e],by simp[World.frozen?,e],by simp[World.frozen?,e],by omega⟩
theorem z6g{w w1:World}{o:Obj}(h:Below (w.alloc o).heap.size (w.alloc o) w1):Below w.heap.size w w1:=((bF _ _).alloc (Nat.le_refl _) _).trans (h.mono kS)
theorem z69(n:Int)(w:World):Calls tP 123 #[A F n] w fun e w'=>e= rT (numF n).v/\Below w.heap.size w w':=by
 go_enter Tryz.func123,Tryz.ntmps123;go_wp2;exact bodyPost_ret (v:=(numF n).v) (by simp[results,Tryz.results123,go_sem,numF,Val.v]) rfl ⟨rfl,(bF _ _).alloc (Nat.le_refl _) _⟩
theorem zDn(k n c:Int)(w:World):zR 66 #[.agg #[A F k,A F n,A F c]] w (A F (z23 ⟨k,n,c⟩)):=by
 by_cases h0:k=0
 ·have x0:(k==0)=true:=by simpa using h0
  have HV:Hid (z23 ⟨k,n,c⟩=8):=if_pos h0;clear h0;go_enter Tryz.func66,Tryz.ntmps66;go_wp2;go_ret;exact⟨by rw[HV.out];rfl,(bF _ _).alloc (Nat.le_refl _) _⟩
 have x0:(k==0)=false:=by simpa using h0
 by_cases h1:k=1
 ·have x1:(k==1)=true:=by simpa using h1
  have HV:Hid (z23 ⟨k,n,c⟩=0):=by
   show z23 ⟨k,n,c⟩=0;unfold z23;rw[if_neg h0,if_pos h1]
  clear h0 h1;go_enter Tryz.func66,Tryz.ntmps66;go_wp2;go_ret;exact⟨by rw[HV.out];rfl,(bF _ _).alloc (Nat.le_refl _) _⟩
 have x1:(k==1)=false:=by simpa using h1
 have HV:Hid (z23 ⟨k,n,c⟩=1):=by
  show z23 ⟨k,n,c⟩=1;unfold z23;rw[if_neg h0,if_neg h1]
 clear h0 h1;go_enter Tryz.func66,Tryz.ntmps66;go_wp2;go_ret;exact⟨by rw[HV.out];rfl,(bF _ _).alloc (Nat.le_refl _) _⟩
theorem zWy(n:Int)(w:World):(∀(x0:decide (n<0)=true),zR 124 #[A F n] w (.agg #[A F 1,A F 0,A F 0]))/\(∀(x0:decide (n<0)=false)(x1:decide (4<=n)=true),zR 124 #[A F n] w (.agg #[A F 1,A F 0,A F 0])):=by
 refine⟨?_,?_⟩;intro x0;rotate_left;intro x0 x1;rotate_left
 all_goals
  go_enter Tryz.func124,Tryz.ntmps124
  go_wp2_with(first
   |(go_at_call 123;refine(z69 0 _).mono ?_;rintro e w1 ⟨rfl,hb1⟩;simp only[Val.v,numF];obtain⟨q0,q1,q2,z0,z1,z2,hl⟩:=z9h hb1)
   |go_in)
  exact bodyPost_ret (v:= .agg #[A F 1,A F 0,A F 0]) (by simp[results,Tryz.results124,go_sem,q0,q1,q2]) rfl ⟨rfl,(((z6g hb1).setCell (Nat.le_refl _) _).setCell (Nat.le_refl _) _).setCell (Nat.le_refl _) _⟩
def zRi:=fun n w=>(@zWy n w).1
def zO6:=fun n w=>(@zWy n w).2
theorem zVe(n:Int)(w:World)(x0:decide (n<0)=false)(x1:decide (4<=n)=false):zR 124 #[A F n] w (.agg #[A F 4,A F 0,A F n]):=by
 go_enter Tryz.func124,Tryz.ntmps124;go_wp2;exact bodyPost_ret (v:= .agg #[A F 4,A F 0,A F n]) (by simp[results,Tryz.results124,go_sem]) rfl ⟨rfl,(bF _ _).alloc (Nat.le_refl _) _⟩
section
variable (code ak an ac bk bn bc:Int) (w:World)
theorem zQu(x0:(bk==0)=true):zR 126 #[A F code,.agg #[A F ak,A F an,A F ac],.agg #[A F bk,A F bn,A F bc]] w (.tuple #[.agg #[A F 0,A F 0,A F 0],A F 8]):=by
 go_enter Tryz.func126,Tryz.ntmps126;go_wp2;exact bodyPost_ret (v:= .tuple #[.agg #[A F 0,A F 0,A F 0],A F 8]) (by simp[results,Tryz.results126,go_sem]) rfl ⟨rfl,((((bF _ _).alloc (Nat.le_refl _) _).alloc kS _).alloc kZ _)⟩
theorem zQw(x0:(bk==0)=false)(x1:(ak==0)=true)(x2:(code !=1)=true):zR 126 #[A F code,.agg #[A F ak,A F an,A F ac],.agg #[A F bk,A F bn,A F bc]] w (.tuple #[.agg #[A F 0,A F 0,A F 0],A F 8]):=by
 go_enter Tryz.func126,Tryz.ntmps126;go_wp2;exact bodyPost_ret (v:= .tuple #[.agg #[A F 0,A F 0,A F 0],A F 8]) (by simp[results,Tryz.results126,go_sem]) rfl ⟨rfl,((((bF _ _).alloc (Nat.le_refl _) _).alloc kS _).alloc kZ _)⟩
theorem zNp(x0:(bk==0)=false)(x1:(ak==0)=true)(x2:(code==1)=true)(x3:(code !=1)=false):zR 126 #[A F code,.agg #[A F ak,A F an,A F ac],.agg #[A F bk,A F bn,A F bc]] w (.tuple #[.agg #[A F bk,A F bn,A F bc],A F 0]):=by
 go_enter Tryz.func126,Tryz.ntmps126;go_wp2;exact bodyPost_ret (v:= .tuple #[.agg #[A F bk,A F bn,A F bc],A F 0]) (by simp[results,Tryz.results126,go_sem]) rfl ⟨rfl,((((bF _ _).alloc (Nat.le_refl _) _).alloc kS _).alloc kZ _)⟩
theorem zNo(x0:(bk==0)=false)(x1:(ak==0)=false)(x2:(code==1)=true):zR 126 #[A F code,.agg #[A F ak,A F an,A F ac],.agg #[A F bk,A F bn,A F bc]] w (.tuple #[.agg #[A F bk,A F bn,A F bc],A F 0]):=by
 go_enter Tryz.func126,Tryz.ntmps126;go_wp2;exact bodyPost_ret (v:= .tuple #[.agg #[A F bk,A F bn,A F bc],A F 0]) (by simp[results,Tryz.results126,go_sem]) rfl ⟨rfl,((((bF _ _).alloc (Nat.le_refl _) _).alloc kS _).alloc kZ _)⟩
theorem zNm(k0: -9223372036854775808<=bn)(k1:bn<=9223372036854775807)(x0:(bk==0)=false)(x1:(ak==0)=false)(x2:(code==1)=false)(x3:(bk==1)=true)(x4:(ak==1)=true):zR 126 #[A F code,.agg #[A F ak,A F an,A F ac],.agg #[A F bk,A F bn,A F bc]] w (.tuple #[.agg #[A F ak,A F (z0t code an bn),A F ac],A F 0]):=by
 go_enter Tryz.func126,Tryz.ntmps126
 go_wp2_with(first
  |(go_at_call 133;refine(z6e _ _ _ k0 k1 _).mono ?_;rintro e w1 ⟨rfl,rfl⟩)
  |go_in)
 exact bodyPost_ret (v:= .tuple #[.agg #[A F ak,A F (z0t code an bn),A F ac],A F 0]) (by simp[results,Tryz.results126,go_sem]) rfl ⟨rfl,((((bF _ _).alloc (Nat.le_refl _) _).alloc kS _).alloc kZ _)⟩
theorem zNl(k0: -9223372036854775808<=bn)(k1:bn<=9223372036854775807)(x0:(bk==0)=false)(x1:(ak==0)=false)(x2:(code==1)=false)(x3:(bk==1)=true)(x4:(ak==1)=false)(x5:(code==2)=true):zR 126 #[A F code,.agg #[A F ak,A F an,A F ac],.agg #[A F bk,A F bn,A F bc]] w (.tuple #[.agg #[A F ak,A F (z0t code an bn),A F ac],A F 0]):=by
 go_enter Tryz.func126,Tryz.ntmps126
 go_wp2_with(first
  |(go_at_call 133;refine(z6e _ _ _ k0 k1 _).mono ?_;rintro e w1 ⟨rfl,rfl⟩)
  |go_in)
 exact bodyPost_ret (v:= .tuple #[.agg #[A F ak,A F (z0t code an bn),A F ac],A F 0]) (by simp[results,Tryz.results126,go_sem]) rfl ⟨rfl,((((bF _ _).alloc (Nat.le_refl _) _).alloc kS _).alloc kZ _)⟩
theorem zNk(k0: -9223372036854775808<=bn)(k1:bn<=9223372036854775807)(x0:(bk==0)=false)(x1:(ak==0)=false)(x2:(code==1)=false)(x3:(bk==1)=true)(x4:(ak==1)=false)(x5:(code==2)=false)(x6:(code==3)=true):zR 126 #[A F code,.agg #[A F ak,A F an,A F ac],.agg #[A F bk,A F bn,A F bc]] w (.tuple #[.agg #[A F ak,A F (z0t code an bn),A F ac],A F 0]):=by
 go_enter Tryz.func126,Tryz.ntmps126
 go_wp2_with(first
  |(go_at_call 133;refine(z6e _ _ _ k0 k1 _).mono ?_;rintro e w1 ⟨rfl,rfl⟩)
  |go_in)
 exact bodyPost_ret (v:= .tuple #[.agg #[A F ak,A F (z0t code an bn),A F ac],A F 0]) (by simp[results,Tryz.results126,go_sem]) rfl ⟨rfl,((((bF _ _).alloc (Nat.le_refl _) _).alloc kS _).alloc kZ _)⟩
theorem zQs(x0:(bk==0)=false)(x1:(ak==0)=false)(x2:(code==1)=false)(x3:(bk==1)=true)(x4:(ak==1)=false)(x5:(code==2)=false)(x6:(code==3)=false):zR 126 #[A F code,.agg #[A F ak,A F an,A F ac],.agg #[A F bk,A F bn,A F bc]] w (.tuple #[.agg #[A F 0,A F 0,A F 0],A F 1]):=by
 go_enter Tryz.func126,Tryz.ntmps126;go_wp2;exact bodyPost_ret (v:= .tuple #[.agg #[A F 0,A F 0,A F 0],A F 1]) (by simp[results,Tryz.results126,go_sem]) rfl ⟨rfl,((((bF _ _).alloc (Nat.le_refl _) _).alloc kS _).alloc kZ _)⟩
theorem zNn(k0: -9223372036854775808<=bn)(k1:bn<=9223372036854775807)(x0:(bk==0)=false)(x1:(ak==0)=false)(x2:(code==1)=false)(x3:(bk==1)=false)(x4:(ak==1)=true)(x5:(code==2)=true):zR 126 #[A F code,.agg #[A F ak,A F an,A F ac],.agg #[A F bk,A F bn,A F bc]] w (.tuple #[.agg #[A F bk,A F (z0t code an bn),A F bc],A F 0]):=by
 go_enter Tryz.func126,Tryz.ntmps126
 go_wp2_with(first
  |(go_at_call 133;refine(z6e _ _ _ k0 k1 _).mono ?_;rintro e w1 ⟨rfl,rfl⟩)
  |go_in)
 exact bodyPost_ret (v:= .tuple #[.agg #[A F bk,A F (z0t code an bn),A F bc],A F 0]) (by simp[results,Tryz.results126,go_sem]) rfl ⟨rfl,((((bF _ _).alloc (Nat.le_refl _) _).alloc kS _).alloc kZ _)⟩
theorem zQt(x0:(bk==0)=false)(x1:(ak==0)=false)(x2:(code==1)=false)(x3:(bk==1)=false)(x4:(ak==1)=true)(x5:(code==2)=false):zR 126 #[A F code,.agg #[A F ak,A F an,A F ac],.agg #[A F bk,A F bn,A F bc]] w (.tuple #[.agg #[A F 0,A F 0,A F 0],A F 1]):=by
 go_enter Tryz.func126,Tryz.ntmps126;go_wp2;exact bodyPost_ret (v:= .tuple #[.agg #[A F 0,A F 0,A F 0],A F 1]) (by simp[results,Tryz.results126,go_sem]) rfl ⟨rfl,((((bF _ _).alloc (Nat.le_refl _) _).alloc kS _).alloc kZ _)⟩
theorem zQr(x0:(bk==0)=false)(x1:(ak==0)=false)(x2:(code==1)=false)(x3:(bk==1)=false)(x4:(ak==1)=false):zR 126 #[A F code,.agg #[A F ak,A F an,A F ac],.agg #[A F bk,A F bn,A F bc]] w (.tuple #[.agg #[A F 0,A F 0,A F 0],A F 1]):=by
 go_enter Tryz.func126,Tryz.ntmps126;go_wp2;exact bodyPost_ret (v:= .tuple #[.agg #[A F 0,A F 0,A F 0],A F 1]) (by simp[results,Tryz.results126,go_sem]) rfl ⟨rfl,((((bF _ _).alloc (Nat.le_refl _) _).alloc kS _).alloc kZ _)⟩
end
section
variable (k n c off:Int) (w:World)
theorem zN1(x0:(k==0)=true):zR 122 #[.agg #[A F k,A F n,A F c],A F off] w (.tuple #[A F 0,A F 8]):=by
 go_enter Tryz.func122,Tryz.ntmps122;go_wp2;go_ret2
 exact⟨rfl,(bF _ _).alloc (Nat.le_refl _) _⟩
theorem zQa(x0:(k==0)=false)(x1:(k==1)=true):zR 122 #[.agg #[A F k,A F n,A F c],A F off] w (.tuple #[A F 0,A F 1]):=by
 go_enter Tryz.func122,Tryz.ntmps122;go_wp2;go_ret2
 exact⟨rfl,(bF _ _).alloc (Nat.le_refl _) _⟩
theorem zBt(x0:(k==0)=false)(x1:(k==1)=false)(x2:(k==2)=true)(x3:(decide (wrap64 (n+off)<0))=true):zR 122 #[.agg #[A F k,A F n,A F c],A F off] w (.tuple #[A F 0,A F 2]):=by
 go_enter Tryz.func122,Tryz.ntmps122;go_wp2;go_ret2
 exact⟨rfl,(bF _ _).alloc (Nat.le_refl _) _⟩
theorem zAk(x0:(k==0)=false)(x1:(k==1)=false)(x2:(k==2)=true)(x3:(decide (wrap64 (n+off)<0))=false)(x4:(decide (8<=wrap64 (n+off)))=true):zR 122 #[.agg #[A F k,A F n,A F c],A F off] w (.tuple #[A F 0,A F 2]):=by
 go_enter Tryz.func122,Tryz.ntmps122;go_wp2;go_ret2
 exact⟨rfl,(bF _ _).alloc (Nat.le_refl _) _⟩
theorem zE9(x0:(k==0)=false)(x1:(k==1)=false)(x2:(k==2)=true)(x3:(decide (wrap64 (n+off)<0))=false)(x4:(decide (8<=wrap64 (n+off)))=false):zR 122 #[.agg #[A F k,A F n,A F c],A F off] w (.tuple #[A F (wrap64 (n+off)),A F 0]):=by
 go_enter Tryz.func122,Tryz.ntmps122;go_wp2;go_ret2
 exact⟨rfl,(bF _ _).alloc (Nat.le_refl _) _⟩
theorem zAl(x0:(k==0)=false)(x1:(k==1)=false)(x2:(k==2)=false)(x3:(k==3)=true)(x4:(decide (wrap64 (wrap64 (n+off)+16)<0))=true):zR 122 #[.agg #[A F k,A F n,A F c],A F off] w (.tuple #[A F 0,A F 2]):=by
 go_enter Tryz.func122,Tryz.ntmps122;go_wp2;go_ret2
 exact⟨rfl,(bF _ _).alloc (Nat.le_refl _) _⟩
theorem z9d(x0:(k==0)=false)(x1:(k==1)=false)(x2:(k==2)=false)(x3:(k==3)=true)(x4:(decide (wrap64 (wrap64 (n+off)+16)<0))=false)(x5:(decide (16<=wrap64 (wrap64 (n+off)+16)))=true):zR 122 #[.agg #[A F k,A F n,A F c],A F off] w (.tuple #[A F 0,A F 2]):=by
 go_enter Tryz.func122,Tryz.ntmps122;go_wp2;go_ret2
 exact⟨rfl,(bF _ _).alloc (Nat.le_refl _) _⟩
theorem zBu(x0:(k==0)=false)(x1:(k==1)=false)(x2:(k==2)=false)(x3:(k==3)=true)(x4:(decide (wrap64 (wrap64 (n+off)+16)<0))=false)(x5:(decide (16<=wrap64 (wrap64 (n+off)+16)))=false):zR 122 #[.agg #[A F k,A F n,A F c],A F off] w (.tuple #[A F (wrap64 (wrap64 (n+off)+16)),A F 0]):=by
 go_enter Tryz.func122,Tryz.ntmps122;go_wp2;go_ret2
 exact⟨rfl,(bF _ _).alloc (Nat.le_refl _) _⟩
theorem zBv(x0:(k==0)=false)(x1:(k==1)=false)(x2:(k==2)=false)(x3:(k==3)=false)(x4:(decide (wrap64 (n+off)<0))=true):zR 122 #[.agg #[A F k,A F n,A F c],A F off] w (.tuple #[A F 0,A F 2]):=by
 go_enter Tryz.func122,Tryz.ntmps122;go_wp2;go_ret2
 exact⟨rfl,(bF _ _).alloc (Nat.le_refl _) _⟩
theorem zAm(x0:(k==0)=false)(x1:(k==1)=false)(x2:(k==2)=false)(x3:(k==3)=false)(x4:(decide (wrap64 (n+off)<0))=false)(x5:(decide (4<=wrap64 (n+off)))=true):zR 122 #[.agg #[A F k,A F n,A F c],A F off] w (.tuple #[A F 0,A F 2]):=by
 go_enter Tryz.func122,Tryz.ntmps122;go_wp2;go_ret2
 exact⟨rfl,(bF _ _).alloc (Nat.le_refl _) _⟩
theorem zEa(x0:(k==0)=false)(x1:(k==1)=false)(x2:(k==2)=false)(x3:(k==3)=false)(x4:(decide (wrap64 (n+off)<0))=false)(x5:(decide (4<=wrap64 (n+off)))=false):zR 122 #[.agg #[A F k,A F n,A F c],A F off] w (.tuple #[A F (wrap64 (n+off)),A F 0]):=by
 go_enter Tryz.func122,Tryz.ntmps122;go_wp2;go_ret2
 exact⟨rfl,(bF _ _).alloc (Nat.le_refl _) _⟩
end
end
section
open Go.RowKit
def fits(n:Int):Bool:=decide (-9223372036854775808<=n)&&decide (n<=9223372036854775807)
theorem z36(n:Int):fits n=true↔ -9223372036854775808<=n/\n<=9223372036854775807:=by simp[fits]
theorem zJh(n:Int):fits n=false↔n< -9223372036854775808\/9223372036854775807<n:=by
 rw[<-Bool.not_eq_true,z36];omega
def fit2(x y:Int):Int×Int:=if fits x&&fits y then(x,y)else(-9223372036854775808,9223372036854775807)
theorem z87{x y:Int}(h:(fits x&&fits y)=true):fit2 x y=(x,y):=by unfold fit2;rw[if_pos h]
theorem zBd{x y:Int}(h:(fits x&&fits y)=false):fit2 x y=(-9223372036854775808,9223372036854775807):=by unfold fit2;rw[h];rfl
theorem zQi{a b:Int}(h0: -9223372036854775808<=a)(h1:a<=9223372036854775807)(h2: -9223372036854775808<=b)(h3:b<=9223372036854775807):
  (decide (a<=wrap64 (a+b))==decide (0<=b))=fits (a+b):=by
 rw[Bool.eq_iff_iff,z36,beq_iff_eq,Bool.eq_iff_iff,decide_eq_true_eq,decide_eq_true_eq];unfold wrap64;omega
theorem zNi{a b:Int}(h0: -9223372036854775808<=a)(h1:a<=9223372036854775807)(h2: -9223372036854775808<=b)(h3:b<=9223372036854775807):
  (decide (wrap64 (a-b)<=a)==decide (0<=b))=fits (a-b):=by
 rw[Bool.eq_iff_iff,z36,beq_iff_eq,Bool.eq_iff_iff,decide_eq_true_eq,decide_eq_true_eq];unfold wrap64;omega
theorem zX0(u v:Int):(if fits u&&fits v then wrap64 u else-9223372036854775808)=(fit2 u v).1:=by
 cases h:fits u&&fits v
 ·rw[zBd h];rfl
 rw[z87 h];simp only[Bool.and_eq_true,z36]at h;exact z08 h.1.1 h.1.2
theorem zWz(u v:Int):(if fits u&&fits v then wrap64 v else 9223372036854775807)=(fit2 u v).2:=by
 cases h:fits u&&fits v
 ·rw[zBd h];rfl
 rw[z87 h];simp only[Bool.and_eq_true,z36]at h;exact z08 h.2.1 h.2.2
theorem zBp{a:Int}{k:Nat}(hk:k<64):(wrap64 (a*2^k)/2^k==a)=fits (a*2^k):=by
 have hp:(0:Int)<2^k:=Int.pow_pos kD
 have hd: ∃q:Int,wrap64 (a*2^k)=q*2^k:=by
  have e:wrap64 (a*2^k)=a*2^k-18446744073709551616*((a*2^k+9223372036854775808)/18446744073709551616):=by unfold wrap64;omega
  have e2:(18446744073709551616:Int)=2^(64-k)*2^k:=by
   rw[<-Int.pow_add,show 64-k+k=64 by omega];rfl
  refine⟨a-2^(64-k)*((a*2^k+9223372036854775808)/18446744073709551616),?_⟩;rw[e,Int.sub_mul,Int.mul_right_comm, <-e2]
 obtain⟨q,hq⟩:=hd;have hb:=z1r (a*2^k);rw[Bool.eq_iff_iff,beq_iff_eq,z36];constructor
 ·intro h
  rw[hq,Int.mul_ediv_cancel _ kO]at h;rw[hq,h]at hb;exact hb
 intro h;rw[z08 h.1 h.2,Int.mul_ediv_cancel _ kO]
def z2d(n:Int):Bool:=decide (-2147483648<=n)&&decide (n<=2147483648)
theorem z2n(n:Int):z2d n=true↔ -2147483648<=n/\n<=2147483648:=by simp[z2d]
def zNg(al ah bl bh:Int):Int:=min (min (min (al*bl) (al*bh)) (ah*bl)) (ah*bh)
def zNh(al ah bl bh:Int):Int:=max (max (max (al*bl) (al*bh)) (ah*bl)) (ah*bh)
def bdV(c al ah bl bh:Int):Int×Int:=
 if c=1 then(bl,bh)
 else if c=2 then fit2 (al+bl) (ah+bh)
 else if c=3 then fit2 (al-bh) (ah-bl)
 else if c=4 then(if z2d al&&z2d ah&&z2d bl&&z2d bh then(zNg al ah bl bh,zNh al ah bl bh)else(-9223372036854775808,9223372036854775807))
 else if c=5 then(if 0<=al/\0<=bl then(if 0<bl then(al/bh,ah/bl)else(0,ah))else(-9223372036854775808,9223372036854775807))
 else if c=6 then(if 0<=al/\0<=bl then(if 0<bl then(0,min ah (bh-1))else(0,ah))else(-9223372036854775808,9223372036854775807))
 else if c=7 then(if 0<=al then(if 0<=bl then(0,min ah bh)else(0,ah))else if 0<=bl then(0,bh)else(-9223372036854775808,9223372036854775807))
 else if c=8 then(if 0<=al/\0<=bl then(max al bl,z5z (max ah bh))else(-9223372036854775808,9223372036854775807))
 else if c=9 then(if 0<=al/\0<=bl then(0,z5z (max ah bh))else(-9223372036854775808,9223372036854775807))
 else if c=10 then(if bl=bh then fit2 (al*2^sixBits bl) (ah*2^sixBits bl)else(-9223372036854775808,9223372036854775807))
 else if c=11 then(if bl=bh then(if sixBits bl=0 then(al,ah)else if 0<=al then(al/2^sixBits bl,ah/2^sixBits bl)else(0,2^(64-sixBits bl)-1))else if 0<=al then(0,ah)else(-9223372036854775808,9223372036854775807))
 else if c=12 then(if bl=bh then(al/2^sixBits bl,ah/2^sixBits bl)else if 0<=al then(0,ah)else if ah<0 then(al, -1)else(al,ah))
 else if c=13 then fit2 (-ah) (-al)
 else(-9223372036854775808,9223372036854775807)
theorem zWa(al ah bl bh:Int):bdV 1 al ah bl bh=(bl,bh):=by simp only[bdV,reduceIte,Int.reduceEq]
theorem zOw(al ah bl bh:Int):bdV 2 al ah bl bh=fit2 (al+bl) (ah+bh):=by simp only[bdV,reduceIte,Int.reduceEq]
theorem zW9(al ah bl bh:Int):bdV 3 al ah bl bh=fit2 (al-bh) (ah-bl):=by simp only[bdV,reduceIte,Int.reduceEq]
theorem zW8(al ah bl bh:Int):bdV 4 al ah bl bh=(if z2d al&&z2d ah&&z2d bl&&z2d bh then(zNg al ah bl bh,zNh al ah bl bh)else(-9223372036854775808,9223372036854775807)):=by simp only[bdV,reduceIte,Int.reduceEq]
theorem zW7(al ah bl bh:Int):bdV 5 al ah bl bh=(if 0<=al/\0<=bl then(if 0<bl then(al/bh,ah/bl)else(0,ah))else(-9223372036854775808,9223372036854775807)):=by simp only[bdV,reduceIte,Int.reduceEq]
theorem zW6(al ah bl bh:Int):bdV 6 al ah bl bh=(if 0<=al/\0<=bl then(if 0<bl then(0,min ah (bh-1))else(0,ah))else(-9223372036854775808,9223372036854775807)):=by simp only[bdV,reduceIte,Int.reduceEq]
theorem zW5(al ah bl bh:Int):bdV 7 al ah bl bh=(if 0<=al then(if 0<=bl then(0,min ah bh)else(0,ah))else if 0<=bl then(0,bh)else(-9223372036854775808,9223372036854775807)):=by simp only[bdV,reduceIte,Int.reduceEq]
theorem zW4(al ah bl bh:Int):bdV 8 al ah bl bh=(if 0<=al/\0<=bl then(max al bl,z5z (max ah bh))else(-9223372036854775808,9223372036854775807)):=by simp only[bdV,reduceIte,Int.reduceEq]
theorem zW3(al ah bl bh:Int):bdV 9 al ah bl bh=(if 0<=al/\0<=bl then(0,z5z (max ah bh))else(-9223372036854775808,9223372036854775807)):=by simp only[bdV,reduceIte,Int.reduceEq]
theorem zLw(al ah bl bh:Int):bdV 10 al ah bl bh=(if bl=bh then fit2 (al*2^sixBits bl) (ah*2^sixBits bl)else(-9223372036854775808,9223372036854775807)):=by simp only[bdV,reduceIte,Int.reduceEq]
theorem zLv(al ah bl bh:Int):bdV 11 al ah bl bh=(if bl=bh then(if sixBits bl=0 then(al,ah)else if 0<=al then(al/2^sixBits bl,ah/2^sixBits bl)else(0,2^(64-sixBits bl)-1))else if 0<=al then(0,ah)else(-9223372036854775808,9223372036854775807)):=by simp only[bdV,reduceIte,Int.reduceEq]
theorem zLu(al ah bl bh:Int):bdV 12 al ah bl bh=(if bl=bh then(al/2^sixBits bl,ah/2^sixBits bl)else if 0<=al then(0,ah)else if ah<0 then(al, -1)else(al,ah)):=by simp only[bdV,reduceIte,Int.reduceEq]
theorem zLt(al ah bl bh:Int):bdV 13 al ah bl bh=fit2 (-ah) (-al):=by simp only[bdV,reduceIte,Int.reduceEq]
theorem zX8{c:Int}(al ah bl bh:Int)(h:c<1\/13<c):bdV c al ah bl bh=(-9223372036854775808,9223372036854775807):=by
 have e: ∀k:Int,1<=k->k<=13->c≠k:=fun k h1 h2=>by omega
 unfold bdV;rw[if_neg (e 1 kD kD),if_neg (e 2 kD kD),if_neg (e 3 kD kD),if_neg (e 4 kD kD),if_neg (e 5 kD kD),if_neg (e 6 kD kD),if_neg (e 7 kD kD),if_neg (e 8 kD kD),if_neg (e 9 kD kD),if_neg (e 10 kD kD),if_neg (e 11 kD kD),if_neg (e 12 kD kD),if_neg (e 13 kD kD)]
theorem z4b{a:Int}(h0:0<=a)(h1:a<=9223372036854775807):(uns a:Int)=a:=by rw[zKq];omega
theorem zA1{a b:Int}(h0:0<=a)(h1:a<=9223372036854775807)(h2:0<b)(h3:b<=9223372036854775807):z0t 5 a b=a/b:=by
 rw[zF4 a kO,Int.natCast_ediv,z4b h0 h1,z4b kO h3];have l:=Int.ediv_nonneg h0 (Int.le_of_lt h2);have g:=Int.ediv_le_self b h0;exact z08 kO kO
theorem z9n{a b:Int}(h0:0<=a)(h1:a<=9223372036854775807):z0t 11 a b=a/2^sixBits b:=by
 have hp:(0:Int)<2^sixBits b:=Int.pow_pos kD;rw[z5e,Int.natCast_ediv,z4b h0 h1,Int.natCast_pow];have l:=Int.ediv_nonneg h0 (Int.le_of_lt hp);have g:=Int.ediv_le_self (2^sixBits b) h0;exact z08 (Int.le_trans kD l) (Int.le_trans g h1)
theorem zDx{a b:Int}(h0: -9223372036854775808<=a)(h1:a<=9223372036854775807)(h:sixBits b=0):z0t 11 a b=a:=by
 rw[z5e,h,Nat.pow_zero,Nat.div_one,zM0,z08 h0 h1]
theorem zDw{b:Int}(h:sixBits b≠0):z0t 11 (-1) b=2^(64-sixBits b)-1:=by
 have hb:=z3r b;rw[z5e];generalize sixBits b=k at*;have e:uns (-1)=18446744073709551615:=kD;rw[e];have e2:(18446744073709551616:Nat)=2^(64-k)*2^k:=by rw[<-Nat.pow_add,show 64-k+k=64 by omega]
 have hp:0<2^k:=Nat.two_pow_pos k
 have e3:18446744073709551615/2^k=2^(64-k)-1:=by
  have hq:0<2^(64-k):=Nat.two_pow_pos _;rw[show(18446744073709551615:Nat)=2^k*(2^(64-k)-1)+(2^k-1)by rw[Nat.mul_sub_one,Nat.mul_comm, <-e2];have:=Nat.le_mul_of_pos_left (2^k) hq;omega,Nat.mul_add_div hp,Nat.div_eq_of_lt kO,Nat.add_zero]
 rw[e3];have hle:2^(64-k)<=2^63:=Nat.pow_le_pow_right kD kO;have hq:0<2^(64-k):=Nat.two_pow_pos _;have e4:((2^(64-k)-1:Nat):Int)=2^(64-k)-1:=by rw[Int.natCast_sub hq,Int.natCast_pow];rfl
 rw[e4]
 have l1:(2:Int)^(64-k)<=9223372036854775808:=by
  have:=Int.ofNat_le.2 hle;rw[Int.natCast_pow]at this;exact this
 have l2:(1:Int)<=2^(64-k):=Int.pow_pos kD;exact z08 kO kO
theorem z2l(b:Int):sixBits (b%64)=sixBits b:=by unfold sixBits;omega
theorem z2j{x y:Int}(hx:z2d x=true)(hy:z2d y=true):wrap64 (x*y)=x*y:=by
 rw[z2n]at hx hy;have h1:(x*y).natAbs=x.natAbs*y.natAbs:=Int.natAbs_mul x y;have h2:x.natAbs*y.natAbs<=2147483648*2147483648:=Nat.mul_le_mul kO kO;exact z08 kO kO
theorem zLi{c x y:Int}(hc:1<=c/\c<=13)(px: -9223372036854775808<=x)(qx:x<=9223372036854775807)(py: -9223372036854775808<=y)(qy:y<=9223372036854775807):
  -9223372036854775808<=z0t c x y/\z0t c x y<=9223372036854775807:=by
 have h:c=1\/c=2\/c=3\/c=4\/c=5\/c=6\/c=7\/c=8\/c=9\/c=10\/c=11\/c=12\/c=13:=kO;rcases h with rfl|rfl|rfl|rfl|rfl|rfl|rfl|rfl|rfl|rfl|rfl|rfl|rfl
 ·rw[zF6];exact⟨py,qy⟩
 ·rw[z79];exact z1r _
 ·rw[zBg];exact z1r _
 ·rw[zF5];exact z1r _
 ·by_cases hy:y=0
  ·subst hy;rw[z9z];decide
  ·rw[zF4 x hy];exact z1r _
 ·by_cases hy:y=0
  ·subst hy;rw[z9y];exact⟨px,qx⟩
  ·rw[zF3 x hy];exact z1r _
 ·rw[zBf];exact z1r _
 ·rw[zF2];exact z1r _
 ·rw[zF1];exact z1r _
 ·rw[z49];exact z1r _
 ·rw[z5e];exact z1r _
 ·rw[z5d]
  have hp:(0:Int)<2^sixBits y:=Int.pow_pos kD;have h1:x/2^sixBits y*2^sixBits y<=x:=Int.ediv_mul_le x kO;have h2:=Int.lt_ediv_add_one_mul_self x hp;generalize x/2^sixBits y=q at*;generalize (2:Int)^sixBits y=m at*;constructor
  ·by_cases hq: -9223372036854775808<=q
   ·exact hq
   ·have:(q+1)*m<=(q+1)*1:=Int.mul_le_mul_of_nonpos_left kO kO
    omega
  ·by_cases hq:q<=9223372036854775807
   ·exact hq
   ·have:q*1<=q*m:=Int.mul_le_mul_of_nonneg_left kO kO
    omega
 rw[zA0];exact z1r _
theorem z70{k l h y:Int}(h1:l<=y)(h2:y<=h):min (k*l) (k*h)<=k*y/\k*y<=max (k*l) (k*h):=by
 by_cases hk:0<=k
 ·have a:=Int.mul_le_mul_of_nonneg_left h1 hk
  have b:=Int.mul_le_mul_of_nonneg_left h2 hk;omega
 have a:=Int.mul_le_mul_of_nonpos_left (by omega:k<=0) h1;have b:=Int.mul_le_mul_of_nonpos_left (by omega:k<=0) h2;omega
theorem zJ0{al ah bl bh x y:Int}(h1:al<=x)(h2:x<=ah)(h3:bl<=y)(h4:y<=bh):zNg al ah bl bh<=x*y/\x*y<=zNh al ah bl bh:=by
 have a:=z70 (k:=y) h1 h2;have b:=z70 (k:=al) h3 h4;have c:=z70 (k:=ah) h3 h4;rw[Int.mul_comm y x,Int.mul_comm y al,Int.mul_comm y ah]at a;unfold zNg zNh;generalize al*y=p at*;generalize ah*y=q at*;generalize x*y=r at*;omega
theorem z9w{u v n z:Int}(h1:u<=n)(h2:n<=v)(hz:z=wrap64 n):(fit2 u v).1<=z/\z<=(fit2 u v).2:=by
 subst hz
 cases h:fits u&&fits v
 ·rw[zBd h];exact z1r _
 rw[z87 h];simp only[Bool.and_eq_true,z36]at h;rw[z08 kO kO];exact⟨h1,h2⟩
theorem zJq{a x y:Int}(h0:0<=x)(h1:x<=a)(h2:0<y):0<=x/y/\x/y<=a:=by
 have l:=Int.ediv_nonneg h0 (Int.le_of_lt h2);have g:=Int.ediv_le_self y h0;omega
theorem zVk{al ah bl bh x y:Int}(h0:0<=al)(h1:al<=x)(h2:x<=ah)(h3:0<bl)(h4:bl<=y)(h5:y<=bh):al/bh<=x/y/\x/y<=ah/bl:=by
 obtain⟨a,rfl⟩:=Int.eq_ofNat_of_zero_le h0;obtain⟨m,rfl⟩:=Int.eq_ofNat_of_zero_le (by omega:0<=x);obtain⟨b,rfl⟩:=Int.eq_ofNat_of_zero_le (by omega:0<=ah);obtain⟨c,rfl⟩:=Int.eq_ofNat_of_zero_le (by omega:0<=bl);obtain⟨d,rfl⟩:=Int.eq_ofNat_of_zero_le (by omega:0<=y);obtain⟨e,rfl⟩:=Int.eq_ofNat_of_zero_le (by omega:0<=bh);have k1:a/e<=m/d:=Nat.div_le_div kO kO kO;have k2:m/d<=b/c:=Nat.div_le_div kO kO kO;exact⟨Int.ofNat_le.2 k1,Int.ofNat_le.2 k2⟩
theorem zL7{x y:Int}(h0:0<=x)(h1:x<=9223372036854775807)(h2:0<y)(h3:y<=9223372036854775807):z0t 6 x y=x%y:=by
 rw[zF3 x kO,Int.natCast_emod,z4b h0 h1,z4b kO h3];have l:=Int.emod_nonneg x (by omega:y≠0);have g:=Int.emod_lt_of_pos x h2;exact z08 kO kO
theorem zSe{x y a:Int}(h0:0<=x)(h1:x<=a)(h2:a<=9223372036854775807):0<=wrap64 ((uns x&&&uns y:Nat):Int)/\wrap64 ((uns x&&&uns y:Nat):Int)<=a:=by
 have l:uns x&&&uns y<=uns x:=Nat.and_le_left;have e:=z4b h0 kO;rw[z08 kO kO];omega
theorem z6i{x m:Int}(h0:0<=x)(h1:x<=m):uns x<2^lenV m.toNat\/9223372036854775807<x:=by
 by_cases hx:x<=9223372036854775807
 ·left
  have e:=z4b h0 hx;have l:=zEo m.toNat;omega
 right;omega
theorem zJi{m:Int}(h:m<=9223372036854775807):lenV m.toNat<=63:=zAw (Nat.lt_of_lt_of_eq (show m.toNat<9223372036854775808 by omega) kD)
theorem zY6{x y m:Int}(hx0:0<=x)(hx:x<=m)(hy0:0<=y)(hy:y<=m)(hm:m<=9223372036854775807):max x y<=wrap64 ((uns x|||uns y:Nat):Int)/\wrap64 ((uns x|||uns y:Nat):Int)<=z5z m:=by
 have a:=(z6i hx0 hx).resolve_right kO;have b:=(z6i hy0 hy).resolve_right kO;have c:=Nat.or_lt_two_pow a b;have d:=zEe (zJi hm);have l1:uns x<=uns x|||uns y:=Nat.left_le_or
 have l2:uns y<=uns x|||uns y:=Nat.right_le_or
 have e1:=z4b hx0 kO;have e2:=z4b hy0 kO;unfold z5z;unfold ones at d⊢;have p:0<2^lenV m.toNat:=Nat.two_pow_pos _;generalize 2^lenV m.toNat=P at*;generalize uns x|||uns y=z at*
 rw[z08 kO kO];omega
theorem zSg{x y m:Int}(hx0:0<=x)(hx:x<=m)(hy0:0<=y)(hy:y<=m)(hm:m<=9223372036854775807):0<=wrap64 ((uns x^^^uns y:Nat):Int)/\wrap64 ((uns x^^^uns y:Nat):Int)<=z5z m:=by
 have a:=(z6i hx0 hx).resolve_right kO;have b:=(z6i hy0 hy).resolve_right kO;have c:=Nat.xor_lt_two_pow a b;have d:=zEe (zJi hm);unfold z5z;unfold ones at d⊢;have p:0<2^lenV m.toNat:=Nat.two_pow_pos _;generalize 2^lenV m.toNat=P at*;generalize uns x^^^uns y=z at*;rw[z08 kO kO];omega
theorem z83{a b:Int}(k:Nat)(h:a<=b):a/2^k<=b/2^k:=Int.ediv_le_ediv (Int.pow_pos kD) h
theorem zJe{x:Int}(k:Nat):(0<=x->0<=x/2^k/\x/2^k<=x)/\(x<0->x<=x/2^k/\x/2^k<= -1):=by
 have hp:(0:Int)<2^k:=Int.pow_pos kD;have h1:x/2^k*2^k<=x:=Int.ediv_mul_le x kO;have h2:=Int.lt_ediv_add_one_mul_self x hp;generalize x/2^k=q at*;generalize (2:Int)^k=m at*;constructor
 ·intro h
  have a:0<=q:=by
   by_cases hq:0<=q
   ·exact hq
   ·have:(q+1)*m<=(q+1)*1:=Int.mul_le_mul_of_nonpos_left kO kO
    omega
  have b:q*1<=q*m:=Int.mul_le_mul_of_nonneg_left kO a;omega
 intro h
 have a:q<= -1:=by
  by_cases hq:q<= -1
  ·exact hq
  ·have:q*1<=q*m:=Int.mul_le_mul_of_nonneg_left kO kO
   omega
 have b:(q+1)*m<=(q+1)*1:=Int.mul_le_mul_of_nonpos_left kO kO;omega
theorem zTf{x:Int}(b:Int)(h:sixBits b≠0):0<=z0t 11 x b/\z0t 11 x b<=2^(64-sixBits b)-1:=by
 have r:=zDw (b:=b) h;rw[z5e]at r⊢;have hb:=z3r b;have hx:=z1z x;have e:uns (-1)=18446744073709551615:=kD;have l:uns x/2^sixBits b<=uns (-1)/2^sixBits b:=Nat.div_le_div_right kO
 have k:uns (-1)/2^sixBits b<=9223372036854775807:=by
  rw[e];have:2^1<=2^sixBits b:=Nat.pow_le_pow_right kD kO;exact Nat.le_trans (Nat.div_le_div_left this kD) kD
 rw[<-r];generalize uns x/2^sixBits b=p at*;generalize uns (-1)/2^sixBits b=q at*;rw[z08 kO kO,z08 kO kO];omega
theorem zBm{c al ah bl bh x y:Int}(hc:1<=c/\c<=13)(pal: -9223372036854775808<=al)(qah:ah<=9223372036854775807)(pbl: -9223372036854775808<=bl)(qbh:bh<=9223372036854775807)
  (h1:al<=x)(h2:x<=ah)(h3:bl<=y)(h4:y<=bh):(bdV c al ah bl bh).1<=z0t c x y/\z0t c x y<=(bdV c al ah bl bh).2:=by
 have bd:=zLi (x:=x) (y:=y) hc kO kO kO kO;have h:c=1\/c=2\/c=3\/c=4\/c=5\/c=6\/c=7\/c=8\/c=9\/c=10\/c=11\/c=12\/c=13:=kO;rcases h with rfl|rfl|rfl|rfl|rfl|rfl|rfl|rfl|rfl|rfl|rfl|rfl|rfl
 ·rw[zWa,zF6];exact⟨h3,h4⟩
 ·rw[zOw];exact z9w (n:=x+y) kO kO (z79 x y)
 ·rw[zW9];exact z9w (n:=x-y) kO kO (zBg x y)
 ·rw[zW8]
  split
  ·rename_i hs
   simp only[Bool.and_eq_true,z2n]at hs;rw[zF5,z2j ((z2n x).2 kO) ((z2n y).2 kO)];exact zJ0 h1 h2 h3 h4
  ·exact bd
 ·rw[zW7]
  split
  ·split
   ·rw[zA1 kO kO kO kO]
    exact zVk kO h1 h2 kO h3 h4
   ·by_cases hy:y=0
    ·subst hy;rw[z9z];show(0:Int)<=0/\0<=ah;omega
    ·rw[zA1 kO kO kO kO]
     exact zJq kO h2 kO
  ·exact bd
 ·rw[zW6]
  split
  ·split
   ·rw[zL7 kO kO kO kO]
    have l:=Int.emod_nonneg x (by omega:y≠0);have g:=Int.emod_lt_of_pos x (by omega:0<y)
    have m:x%y<=x:=by
     by_cases hxy:x<y
     ·rw[Int.emod_eq_of_lt kO hxy];omega
     ·omega
    show 0<=x%y/\x%y<=min ah (bh-1);omega
   ·by_cases hy:y=0
    ·subst hy;rw[z9y];show(0:Int)<=x/\x<=ah;omega
    ·rw[zL7 kO kO kO kO]
     have l:=Int.emod_nonneg x (by omega:y≠0);have g:=Int.emod_lt_of_pos x (by omega:0<y)
     have m:x%y<=x:=by
      by_cases hxy:x<y
      ·rw[Int.emod_eq_of_lt kO hxy];omega
      ·omega
     show 0<=x%y/\x%y<=ah;omega
  ·exact bd
 ·rw[zW5,zBf]
  rw[zBf]at bd;split
  ·have a:=zSe (y:=y) (by omega:0<=x) h2 qah
   split
   ·have b:=zSe (y:=x) (by omega:0<=y) h4 qbh
    rw[Nat.and_comm]at b;generalize wrap64 ((uns x&&&uns y:Nat):Int)=z at*;show 0<=z/\z<=min ah bh;omega
   ·exact a
  ·split
   ·have b:=zSe (y:=x) (by omega:0<=y) h4 qbh
    rw[Nat.and_comm]at b;exact b
   ·exact bd
 ·rw[zW4]
  split
  ·have a:=zY6 (m:=max ah bh) (by omega:0<=x) kO (by omega:0<=y) kO kO
   rw[zF2];refine⟨?_,a.2⟩;show max al bl<=_;exact Int.le_trans kO a.1
  ·exact bd
 ·rw[zW3]
  split
  ·rw[zF1]
   exact zSg (m:=max ah bh) (by omega:0<=x) kO (by omega:0<=y) kO kO
  ·exact bd
 ·rw[zLw]
  split
  ·obtain rfl:y=bl:=by omega
   have hp:(0:Int)<=2^sixBits y:=Int.le_of_lt (Int.pow_pos kD);exact z9w (Int.mul_le_mul_of_nonneg_right h1 hp) (Int.mul_le_mul_of_nonneg_right h2 hp) (z49 x y)
  ·exact bd
 ·rw[zLv]
  split
  ·obtain rfl:y=bl:=by omega
   split
   ·rw[zDx kO kO (by assumption)];exact⟨h1,h2⟩
   ·split
    ·rw[z9n kO kO]
     exact⟨z83 _ h1,z83 _ h2⟩
    ·exact zTf y (by assumption)
  ·split
   ·rw[z9n kO kO]
    have a:=(zJe (x:=x) (sixBits y)).1 kO;show 0<=x/2^sixBits y/\x/2^sixBits y<=ah;omega
   ·exact bd
 ·rw[zLu,z5d]
  have a:=zJe (x:=x) (sixBits y);split
  ·obtain rfl:y=bl:=by omega
   exact⟨z83 _ h1,z83 _ h2⟩
  ·split
   ·show 0<=x/2^sixBits y/\x/2^sixBits y<=ah
    have:=a.1 kO;omega
   ·split
    ·show al<=x/2^sixBits y/\x/2^sixBits y<= -1
     have:=a.2 kO;omega
    ·show al<=x/2^sixBits y/\x/2^sixBits y<=ah
     by_cases hx:0<=x
     ·have:=a.1 hx;omega
     ·have:=a.2 kO;omega
 rw[zLt];exact z9w (n:= -x) kO kO (zA0 x y)
def askF(c:Int)(a b:Val)(r:Bool)(o n:Int):Int×Int:=
 if a.k=0\/b.k=0 then(0,8)
 else if a.k=1/\b.k=1 then(if isV c a.n b.n then(o,0)else(0,0))
 else if(c≠15/\c≠16)\/r=true\/n≠0 then(0,1)
 else if c=16 then(o,0)else(0,0)
section
variable {c ak an ac bk bn bc o n:Int} {r:Bool}
theorem zSd(h:ak=0):askF c ⟨ak,an,ac⟩ ⟨bk,bn,bc⟩ r o n=(0,8):=if_pos (Or.inl h)
theorem zX9(h:bk=0):askF c ⟨ak,an,ac⟩ ⟨bk,bn,bc⟩ r o n=(0,8):=if_pos (Or.inr h)
theorem zKh(ha:ak=1)(hb:bk=1)(h:isV c an bn=true):askF c ⟨ak,an,ac⟩ ⟨bk,bn,bc⟩ r o n=(o,0):=by
 unfold askF;rw[if_neg (by show¬(ak=0\/bk=0);omega),if_pos ⟨ha,hb⟩];exact if_pos h
theorem zFb(ha:ak=1)(hb:bk=1)(h:isV c an bn=false):askF c ⟨ak,an,ac⟩ ⟨bk,bn,bc⟩ r o n=(0,0):=by
 unfold askF;rw[if_neg (by show¬(ak=0\/bk=0);omega),if_pos ⟨ha,hb⟩];exact if_neg (by rw[h];decide)
theorem z2p(ha: ¬ak=0)(hb: ¬bk=0)(h: ¬(ak=1/\bk=1))(h2:(c≠15/\c≠16)\/r=true\/n≠0):askF c ⟨ak,an,ac⟩ ⟨bk,bn,bc⟩ r o n=(0,1):=by
 unfold askF;rw[if_neg (by show¬(ak=0\/bk=0);omega),if_neg h,if_pos h2]
theorem zKi(ha: ¬ak=0)(hb: ¬bk=0)(h: ¬(ak=1/\bk=1))(hc:c=16)(hn:n=0):askF c ⟨ak,an,ac⟩ ⟨bk,bn,bc⟩ false o n=(o,0):=by
 unfold askF;rw[if_neg (by show¬(ak=0\/bk=0);omega),if_neg h,if_neg (by simp[hc,hn]),if_pos hc]
theorem zKj(ha: ¬ak=0)(hb: ¬bk=0)(h: ¬(ak=1/\bk=1))(hc:c=15)(hn:n=0):askF c ⟨ak,an,ac⟩ ⟨bk,bn,bc⟩ false o n=(0,0):=by
 unfold askF;rw[if_neg (by show¬(ak=0\/bk=0);omega),if_neg h,if_neg (by simp[hc,hn]),if_neg kO]
end
structure Abs where
 reg:Nat->Val
 slot:Nat->Val
 word:Nat->Int
 cel:Nat->Int
 time:Int
 out:List Int
def z2s:Val:=⟨0,0,0⟩
def Abs.putReg(a:Abs)(d:Nat)(x:Val):Abs:={a with reg:=fun i=>if i=d then x else a.reg i}
def Abs.putSlot(a:Abs)(t:Nat)(x:Val):Abs:={a with slot:=fun i=>if i=t then x else a.slot i}
def Abs.putCel(a:Abs)(t:Nat)(n:Int):Abs:={a with cel:=fun i=>if i=t then n else a.cel i}
def Abs.second(a:Abs)(s:Nat)(r:Bool)(n:Int):Val:=if r then a.reg s else numF n
def Abs.lose(a:Abs):Abs:={a with reg:=fun i=>if 1<=i/\i<=5 then z2s else a.reg i}
def Abs.give(a:Abs)(n:Int):Abs:={a with out:=if a.out.length<50 then a.out++[n]else a.out}
def Abs.at(a:Abs)(p:Val)(t:Nat):Val:=if p.k=2 then numF (a.word t)else if p.k=3 then a.slot t else numF (a.cel (p.c.toNat*4+t))
def z3x(a:Abs)(d:Nat)(p:Val)(o:Int):Int×Abs:=
 if(z0x p o).2≠0 then((z0x p o).2,a)
 else if(a.at p (z0x p o).1.toNat).k=0 then(8,a)
 else(0,a.putReg d (a.at p (z0x p o).1.toNat))
def z2q(a:Abs)(p v:Val)(o:Int):Int×Abs:=
 if(z0x p o).2≠0 then((z0x p o).2,a)
 else if p.k=2 then(6,a)
 else if v.k=0 then(8,a)
 else if p.k=3 then(0,a.putSlot (z0x p o).1.toNat v)
 else if v.k≠1 then(1,a)
 else(0,a.putCel (p.c.toNat*4+(z0x p o).1.toNat) v.n)
def z4u(a:Abs)(what:Int):Int×Abs:=
 if what≠2/\z23 (a.reg 1)≠0 then(z23 (a.reg 1),a)
 else if what=1 then(0,a.lose.putReg 0 (z6o (a.reg 1).n))
 else if what=2 then(0,a.lose.putReg 0 (numF a.time))
 else(0,(a.lose.give (a.reg 1).n).putReg 0 (numF 0))
def doF(c d s:Int)(r:Bool)(o n:Int)(a:Abs):Int×Int×Abs:=
 if 15<=c/\c<=24 then((askF c (a.reg d.toNat) (a.second s.toNat r n) r o n).1,(askF c (a.reg d.toNat) (a.second s.toNat r n) r o n).2,a)
 else if c=14 then(o,0,a)
 else if c=25 then(0,z3x a d.toNat (a.reg s.toNat) o)
 else if c=26 then(0,z2q a (a.reg d.toNat) (a.second s.toNat r n) o)
 else if c=27 then(0,z4u a n)
 else(0,(z2i c (a.reg d.toNat) (a.second s.toNat r n)).2,a.putReg d.toNat (z2i c (a.reg d.toNat) (a.second s.toNat r n)).1)
abbrev End:Type:=(Int×Nat)⊕(Int×Nat×Abs)
abbrev End.bad(e:Int)(q:Nat):End:=Sum.inl (e,q)
abbrev End.fine(n:Int)(k:Nat)(a:Abs):End:=Sum.inr (n,k,a)
def runN(C D S:Nat->Int)(R:Nat->Bool)(O N:Nat->Int)(len:Nat):Nat->Nat->Nat->Abs->End
 |0,_,_,_=>End.bad 0 0
 |f+1,pc,k,a=>
  if pc<len then
   if C pc=28 then(if z23 (a.reg 0)=0 then End.fine (a.reg 0).n (k+1) a else End.bad (z23 (a.reg 0)) pc)
   else if(doF (C pc) (D pc) (S pc) (R pc) (O pc) (N pc) a).2.1≠0 then End.bad (doF (C pc) (D pc) (S pc) (R pc) (O pc) (N pc) a).2.1 pc
   else runN C D S R O N len f (pc+1+(doF (C pc) (D pc) (S pc) (R pc) (O pc) (N pc) a).1.toNat) (k+1) (doF (C pc) (D pc) (S pc) (R pc) (O pc) (N pc) a).2.2
  else End.bad 0 0
def runF(C D S:Nat->Int)(R:Nat->Bool)(O N:Nat->Int)(len pc k:Nat)(a:Abs):End:=runN C D S R O N len (len-pc) pc k a
theorem z4x(C D S:Nat->Int)(R:Nat->Bool)(O N:Nat->Int)(len f pc k:Nat)(a:Abs):runN C D S R O N len (f+1) pc k a=if pc<len then
   if C pc=28 then(if z23 (a.reg 0)=0 then End.fine (a.reg 0).n (k+1) a else End.bad (z23 (a.reg 0)) pc)
   else if(doF (C pc) (D pc) (S pc) (R pc) (O pc) (N pc) a).2.1≠0 then End.bad (doF (C pc) (D pc) (S pc) (R pc) (O pc) (N pc) a).2.1 pc
   else runN C D S R O N len f (pc+1+(doF (C pc) (D pc) (S pc) (R pc) (O pc) (N pc) a).1.toNat) (k+1) (doF (C pc) (D pc) (S pc) (R pc) (O pc) (N pc) a).2.2
  else End.bad 0 0:=rfl
theorem zQ0(C D S:Nat->Int)(R:Nat->Bool)(O N:Nat->Int)(len:Nat): ∀(f g pc k:Nat)(a:Abs),len<=pc+f->len<=pc+g->runN C D S R O N len f pc k a=runN C D S R O N len g pc k a:=by
 intro f;induction f with
 |zero=>
  intro g pc k a h1 _
  cases g with
  |zero=>rfl
  |succ g=>rw[z4x,if_neg kO];rfl
 |succ f ih=>
  intro g pc k a h1 h2
  cases g with
  |zero=>rw[z4x,if_neg kO];rfl
  |succ g=>
   rw[z4x,z4x,ih g _ _ _ kO kO]
theorem z8l(C D S:Nat->Int)(R:Nat->Bool)(O N:Nat->Int)(len pc k:Nat)(a:Abs):runF C D S R O N len pc k a=if pc<len then
   if C pc=28 then(if z23 (a.reg 0)=0 then End.fine (a.reg 0).n (k+1) a else End.bad (z23 (a.reg 0)) pc)
   else if(doF (C pc) (D pc) (S pc) (R pc) (O pc) (N pc) a).2.1≠0 then End.bad (doF (C pc) (D pc) (S pc) (R pc) (O pc) (N pc) a).2.1 pc
   else runF C D S R O N len (pc+1+(doF (C pc) (D pc) (S pc) (R pc) (O pc) (N pc) a).1.toNat) (k+1) (doF (C pc) (D pc) (S pc) (R pc) (O pc) (N pc) a).2.2
  else End.bad 0 0:=by
 by_cases h:pc<len
 ·obtain⟨f,hf⟩: ∃f,len-pc=f+1:=⟨len-pc-1,by omega⟩
  show runN C D S R O N len (len-pc) pc k a=_;rw[hf,z4x,zQ0 C D S R O N len f (len-(pc+1+(doF (C pc) (D pc) (S pc) (R pc) (O pc) (N pc) a).1.toNat)) _ _ _ kO kO];rfl
 show runN C D S R O N len (len-pc) pc k a=_;rw[if_neg h,show len-pc=0 by omega];rfl
section
variable {C D S O N:Nat->Int} {R:Nat->Bool} {len pc k:Nat} {a:Abs}
theorem z7j(h:pc<len)(hc:C pc=28)(hw:z23 (a.reg 0)=0):runF C D S R O N len pc k a= .fine (a.reg 0).n (k+1) a:=by
 rw[z8l,if_pos h,if_pos hc,if_pos hw]
theorem z55(h:pc<len)(hc:C pc=28)(hw:z23 (a.reg 0)≠0):runF C D S R O N len pc k a= .bad (z23 (a.reg 0)) pc:=by
 rw[z8l,if_pos h,if_pos hc,if_neg hw]
theorem zDv(h:pc<len)(hc:C pc≠28)(hw:(doF (C pc) (D pc) (S pc) (R pc) (O pc) (N pc) a).2.1≠0):runF C D S R O N len pc k a= .bad (doF (C pc) (D pc) (S pc) (R pc) (O pc) (N pc) a).2.1 pc:=by
 rw[z8l,if_pos h,if_neg hc,if_pos hw]
theorem zDu(h:pc<len)(hc:C pc≠28)(hw:(doF (C pc) (D pc) (S pc) (R pc) (O pc) (N pc) a).2.1=0):
  runF C D S R O N len pc k a=runF C D S R O N len (pc+1+(doF (C pc) (D pc) (S pc) (R pc) (O pc) (N pc) a).1.toNat) (k+1) (doF (C pc) (D pc) (S pc) (R pc) (O pc) (N pc) a).2.2:=by
 rw[z8l,if_pos h,if_neg hc,if_neg (by rw[hw];decide)]
end
def In64(n:Int):Prop:= -9223372036854775808<=n/\n<=9223372036854775807
structure Val.Ok (x:Val):Prop where
 k0:0<=x.k
 k4:x.k<=4
 n:In64 x.n
 c0:0<=x.c
 c3:x.c<=3
structure Abs.Ok (a:Abs):Prop where
 reg: ∀i,i<11->(a.reg i).Ok
 slot: ∀i,i<16->(a.slot i).Ok
 word: ∀i,i<8->In64 (a.word i)
 cel: ∀i,i<16->In64 (a.cel i)
 time:In64 a.time
 out: ∀x,x∈a.out->In64 x
 room:a.out.length<=50
theorem z59:z2s.Ok:=⟨by decide,by decide,⟨by decide,by decide⟩,by decide,by decide⟩
theorem zAq{n:Int}(h:In64 n):(numF n).Ok:=⟨show(0:Int)<=1 by decide,show(1:Int)<=4 by decide,h,show(0:Int)<=0 by decide,show(0:Int)<=3 by decide⟩
theorem Abs.Ok.putReg{a:Abs}(h:a.Ok)(d:Nat){x:Val}(hx:x.Ok):(a.putReg d x).Ok:=
 ⟨fun i hi=>by show(if i=d then x else a.reg i).Ok;split;exact hx;exact h.reg i hi,h.slot,h.word,h.cel,h.time,h.out,h.room⟩
theorem Abs.Ok.putSlot{a:Abs}(h:a.Ok)(d:Nat){x:Val}(hx:x.Ok):(a.putSlot d x).Ok:=
 ⟨h.reg,fun i hi=>by show(if i=d then x else a.slot i).Ok;split;exact hx;exact h.slot i hi,h.word,h.cel,h.time,h.out,h.room⟩
theorem Abs.Ok.putCel{a:Abs}(h:a.Ok)(d:Nat){n:Int}(hx:In64 n):(a.putCel d n).Ok:=
 ⟨h.reg,h.slot,h.word,fun i hi=>by show In64 (if i=d then n else a.cel i);split;exact hx;exact h.cel i hi,h.time,h.out,h.room⟩
theorem Abs.Ok.lose{a:Abs}(h:a.Ok):a.lose.Ok:=
 ⟨fun i hi=>by show(if 1<=i/\i<=5 then z2s else a.reg i).Ok;split;exact z59;exact h.reg i hi,h.slot,h.word,h.cel,h.time,h.out,h.room⟩
theorem Abs.Ok.give{a:Abs}(h:a.Ok){n:Int}(hn:In64 n):(a.give n).Ok:=by
 refine⟨h.reg,h.slot,h.word,h.cel,h.time,?_,?_⟩
 ·intro x hx
  change x∈(if a.out.length<50 then a.out++[n]else a.out)at hx
  split at hx
  ·rcases List.mem_append.1 hx with hx|hx
   ·exact h.out x hx
   ·rw[List.mem_singleton.1 hx];exact hn
  ·exact h.out x hx
 show(if a.out.length<50 then a.out++[n]else a.out).length<=50;split
 ·rw[List.length_append];show a.out.length+1<=50;omega
 exact h.room
theorem Abs.Ok.second{a:Abs}(h:a.Ok){s:Nat}(hs:s<11)(r:Bool){n:Int}(hn:In64 n):(a.second s r n).Ok:=by
 unfold Abs.second;split;exact h.reg s hs;exact zAq hn
theorem z9o{p:Val}{o:Int}(h:(z0x p o).2=0):2<=p.k\/p.k<0:=by
 unfold z0x at h
 by_cases h0:p.k=0
 ·rw[if_pos h0]at h;exact absurd h kD
 by_cases h1:p.k=1
 ·rw[if_neg h0,if_pos h1]at h;exact absurd h kD
 omega
theorem z7n{p:Val}{o:Int}(h:(z0x p o).2=0):0<=(z0x p o).1/\(z0x p o).1<z1o p:=by
 unfold z0x at h⊢
 by_cases h0:p.k=0
 ·rw[if_pos h0]at h;exact absurd h kD
 by_cases h1:p.k=1
 ·rw[if_neg h0,if_pos h1]at h;exact absurd h kD
 rw[if_neg h0,if_neg h1]at h⊢
 by_cases h2:z2r p o<0\/z1o p<=z2r p o
 ·rw[if_pos h2]at h;exact absurd h kD
 rw[if_neg h2];show 0<=z2r p o/\z2r p o<z1o p;omega
theorem Abs.Ok.at{a:Abs}(h:a.Ok){p:Val}(hp:p.Ok){o:Int}(hr:(z0x p o).2=0):(a.at p (z0x p o).1.toNat).Ok:=by
 have hb:=z7n hr;unfold z1o at hb;unfold Abs.at
 by_cases h2:p.k=2
 ·rw[if_pos h2]at hb⊢;exact zAq (h.word _ kO)
 rw[if_neg h2]at hb⊢
 by_cases h3:p.k=3
 ·rw[if_pos h3]at hb⊢;exact h.slot _ kO
 rw[if_neg h3]at hb⊢;have:=hp.c0;have:=hp.c3;exact zAq (h.cel _ kO)
theorem zUw{a:Abs}(h:a.Ok)(d:Nat){p:Val}(hp:p.Ok)(o:Int):(z3x a d p o).2.Ok:=by
 unfold z3x
 by_cases hr:(z0x p o).2=0
 ·rw[if_neg (by simp[hr])]
  split
  ·exact h
  ·exact h.putReg d (h.at hp hr)
 rw[if_pos hr];exact h
theorem zPs{a:Abs}(h:a.Ok)(p:Val){v:Val}(hv:v.Ok)(o:Int):(z2q a p v o).2.Ok:=by
 unfold z2q;split
 ·exact h
 split
 ·exact h
 split
 ·exact h
 split
 ·exact h.putSlot _ hv
 split
 ·exact h
 exact h.putCel _ hv.n
theorem zVd{n:Int}:(z6o n).Ok:=by
 unfold z6o;split
 ·exact zAq ⟨by decide,by decide⟩
 exact⟨show(0:Int)<=4 by decide,show(4:Int)<=4 by decide,(⟨by decide,by decide⟩:In64 0),by show 0<=n;omega,by show n<=3;omega⟩
theorem zVz{a:Abs}(h:a.Ok)(what:Int):(z4u a what).2.Ok:=by
 unfold z4u;split
 ·exact h
 split
 ·exact h.lose.putReg 0 zVd
 split
 ·exact h.lose.putReg 0 (zAq h.time)
 exact(h.lose.give (h.reg 1 kD).n).putReg 0 (zAq ⟨by decide,by decide⟩)
theorem zQx{c:Int}(hc:1<=c/\c<=13){a b:Val}(ha:a.Ok)(hb:b.Ok):(z2i c a b).1.Ok:=by
 have hd:=zLi hc ha.n.1 ha.n.2 hb.n.1 hb.n.2;unfold z2i;split
 ·exact z59
 split
 ·exact hb
 split
 ·exact⟨ha.k0,ha.k4,hd,ha.c0,ha.c3⟩
 split
 ·exact⟨hb.k0,hb.k4,hd,hb.c0,hb.c3⟩
 exact z59
theorem zLj{c d s:Int}{r:Bool}{o n:Int}{a:Abs}(h:a.Ok)(c1:1<=c)(c2:c<=28)(hc:c≠28)(d1:0<=d)(d2:d<=10)(s1:0<=s)(s2:s<=10)(hn:In64 n):(doF c d s r o n a).2.2.Ok:=by
 have hd:d.toNat<11:=kO;have hs:s.toNat<11:=kO;unfold doF
 by_cases h1:15<=c/\c<=24
 ·rw[if_pos h1];exact h
 rw[if_neg h1]
 by_cases h2:c=14
 ·rw[if_pos h2];exact h
 rw[if_neg h2]
 by_cases h3:c=25
 ·rw[if_pos h3];exact zUw h _ (h.reg _ hs) o
 rw[if_neg h3]
 by_cases h4:c=26
 ·rw[if_pos h4];exact zPs h _ (h.second hs r hn) o
 rw[if_neg h4]
 by_cases h5:c=27
 ·rw[if_pos h5];exact zVz h n
 rw[if_neg h5];exact h.putReg _ (zQx kO (h.reg _ hd) (h.second hs r hn))
end
section
open Go.RowKit
structure Kno where
 k:Int
 l:Int
 h:Int
def Kno.Ok(x:Kno):Prop:=0<=x.k/\x.k<=5/\In64 x.l/\In64 x.h/\x.l<=x.h
def Kno.Has(x:Kno)(v:Val):Prop:=
 x.k=0\/(1<=x.k/\x.k<=4/\v.k=x.k/\x.l<=v.n/\v.n<=x.h)\/(x.k=5/\v.n=0/\(v.k=1\/v.k=4))
def kno0:Kno:=⟨0,0,0⟩
def z10(l h:Int):Kno:=⟨1,l,h⟩
def z0s(x:Kno):Int:=if x.k=0 then 8 else if x.k=1 then 0 else 1
theorem z5b{x:Kno}{v:Val}(hx:x.Has v)(h:z0s x=0):z23 v=0/\v.k=1/\x.l<=v.n/\v.n<=x.h:=by
 unfold z0s at h
 by_cases h0:x.k=0
 ·rw[if_pos h0]at h;exact absurd h kD
 by_cases h1:x.k=1
 ·rcases hx with hx|hx|hx
  ·exact absurd hx h0
  ·have e:v.k=1:=kO
   exact⟨by unfold z23;rw[if_neg kO,if_pos e],e,hx.2.2.2.1,hx.2.2.2.2⟩
  ·omega
 rw[if_neg h0,if_neg h1]at h;exact absurd h kD
def z1n(k:Int)(b:Int×Int):Kno×Int:=if b.1= -9223372036854775808/\b.2=9223372036854775807 then(kno0,2)else(⟨k,b.1,b.2⟩,0)
def z1f(c:Int)(a b:Kno):Kno×Int:=
 if b.k=0\/(a.k=0/\c≠1)then(kno0,8)
 else if c=1 then(b,0)
 else if a.k=1/\b.k=1 then(z10 (bdV c a.l a.h b.l b.h).1 (bdV c a.l a.h b.l b.h).2,0)
 else if(a.k=2\/a.k=3\/a.k=4)/\b.k=1/\(c=2\/c=3)then z1n a.k (bdV c a.l a.h b.l b.h)
 else if a.k=1/\(b.k=2\/b.k=3\/b.k=4)/\c=2 then z1n b.k (bdV c a.l a.h b.l b.h)
 else(kno0,1)
theorem z6n{k:Int}{b:Int×Int}(h:(z1n k b).2=0):(z1n k b).1=⟨k,b.1,b.2⟩:=by
 unfold z1n at h⊢;split at h
 ·exact absurd h kD
 rw[if_neg (by assumption)]
theorem Kno.Has.same{x:Kno}{v:Val}(hx:x.Has v)(h0:1<=x.k)(h4:x.k<=4):v.k=x.k/\x.l<=v.n/\v.n<=x.h:=by
 rcases hx with hx|hx|hx
 ·omega
 ·exact hx.2.2
 omega
theorem Kno.Has.some{x:Kno}{v:Val}(hk:x.Ok)(hx:x.Has v)(h0:x.k≠0):v.k≠0:=by
 rcases hx with hx|hx|hx
 ·exact absurd hx h0
 ·have:=hk.1;omega
 omega
theorem zGm{c:Int}{a b:Kno}{va vb:Val}(hc:1<=c/\c<=13)(ka:a.Ok)(kb:b.Ok)(ha:a.Has va)(hb:b.Has vb)(h:(z1f c a b).2=0):
  (z2i c va vb).2=0/\(z1f c a b).1.Has (z2i c va vb).1:=by
 unfold z1f at h⊢
 by_cases h1:b.k=0\/(a.k=0/\c≠1)
 ·rw[if_pos h1]at h;exact absurd h kD
 rw[if_neg h1]at h⊢;have nb:vb.k≠0:=hb.some kb (fun e=>h1 (Or.inl e));have na: ¬(vb.k=0\/(va.k=0/\c≠1)):=fun e=>e.elim nb fun e=>ha.some ka (fun e1=>h1 (Or.inr ⟨e1,e.2⟩)) e.1;unfold z2i;rw[if_neg na]
 by_cases h2:c=1
 ·rw[if_pos h2]at h⊢;rw[if_pos h2];exact⟨rfl,hb⟩
 rw[if_neg h2]at h⊢;rw[if_neg h2]
 by_cases h3:a.k=1/\b.k=1
 ·rw[if_pos h3]at h⊢
  obtain⟨e1,e2,e3⟩:=ha.same kO kO;obtain⟨f1,f2,f3⟩:=hb.same kO kO;rw[if_pos ⟨by omega,Or.inl kO⟩];have bd:=zBm hc ka.2.2.1.1 ka.2.2.2.1.2 kb.2.2.1.1 kb.2.2.2.1.2 e2 e3 f2 f3;exact⟨rfl,Or.inr (Or.inl ⟨by show(1:Int)<=1;decide,by show(1:Int)<=4;decide,by show va.k=1;omega,bd.1,bd.2⟩)⟩
 rw[if_neg h3]at h⊢
 by_cases h4:(a.k=2\/a.k=3\/a.k=4)/\b.k=1/\(c=2\/c=3)
 ·rw[if_pos h4]at h⊢
  obtain⟨e1,e2,e3⟩:=ha.same kO kO;obtain⟨f1,f2,f3⟩:=hb.same kO kO;rw[if_pos ⟨by omega,Or.inr h4.2.2⟩,z6n h];have bd:=zBm hc ka.2.2.1.1 ka.2.2.2.1.2 kb.2.2.1.1 kb.2.2.2.1.2 e2 e3 f2 f3;exact⟨rfl,Or.inr (Or.inl ⟨by show 1<=a.k;omega,by show a.k<=4;omega,e1,bd.1,bd.2⟩)⟩
 rw[if_neg h4]at h⊢
 by_cases h5:a.k=1/\(b.k=2\/b.k=3\/b.k=4)/\c=2
 ·rw[if_pos h5]at h⊢
  obtain⟨e1,e2,e3⟩:=ha.same kO kO;obtain⟨f1,f2,f3⟩:=hb.same kO kO;rw[if_neg kO,if_pos ⟨by omega,h5.2.2⟩,z6n h];have bd:=zBm hc ka.2.2.1.1 ka.2.2.2.1.2 kb.2.2.1.1 kb.2.2.2.1.2 e2 e3 f2 f3;exact⟨rfl,Or.inr (Or.inl ⟨by show 1<=b.k;omega,by show b.k<=4;omega,f1,bd.1,bd.2⟩)⟩
 rw[if_neg h5]at h;exact absurd h kD
def knoRoom(k:Int):Int×Int:=if k=2 then(0,7)else if k=3 then(-16, -1)else(0,3)
def knoTo(x:Kno)(o:Int):Int×Int:=bdV 2 x.l x.h o o
def z0i(x:Kno)(o:Int):(Int×Int)×Int:=
 if x.k=0 then((0,0),8)
 else if x.k=1\/x.k=5 then((0,0),1)
 else if(knoTo x o).1<(knoRoom x.k).1\/(knoRoom x.k).2<(knoTo x o).2 then((0,0),2)
 else(knoTo x o,0)
theorem z96{x:Kno}{v:Val}{o:Int}(kx:x.Ok)(ho:In64 o)(hx:x.Has v)(h:(z0i x o).2=0):
  (z0x v o).2=0/\v.k=x.k/\(x.k=2\/x.k=3\/x.k=4)/\(z0i x o).1=knoTo x o/\(knoTo x o).1<=wrap64 (v.n+o)/\wrap64 (v.n+o)<=(knoTo x o).2/\
   (knoRoom x.k).1<=(knoTo x o).1/\(knoTo x o).2<=(knoRoom x.k).2/\(z0x v o).1=(if x.k=3 then wrap64 (v.n+o)+16 else wrap64 (v.n+o)):=by
 unfold z0i at h⊢
 by_cases h0:x.k=0
 ·rw[if_pos h0]at h;exact absurd h kD
 rw[if_neg h0]at h⊢
 by_cases h1:x.k=1\/x.k=5
 ·rw[if_pos h1]at h;exact absurd h kD
 rw[if_neg h1]at h⊢
 by_cases h2:(knoTo x o).1<(knoRoom x.k).1\/(knoRoom x.k).2<(knoTo x o).2
 ·rw[if_pos h2]at h;exact absurd h kD
 rw[if_neg h2];have k0:=kx.1;have k5:=kx.2.1;obtain⟨e1,e2,e3⟩:=hx.same kO kO;have bd:(knoTo x o).1<=z0t 2 v.n o/\z0t 2 v.n o<=(knoTo x o).2:=zBm ⟨by decide,by decide⟩ kx.2.2.1.1 kx.2.2.2.1.2 ho.1 ho.2 e2 e3 (Int.le_refl _) (Int.le_refl _);have ed:z0t 2 v.n o=wrap64 (v.n+o):=by simp only[z0t,reduceIte,Int.reduceEq]
 rw[ed]at bd;have hk:x.k=2\/x.k=3\/x.k=4:=kO
 have hr:(z0x v o).2=0/\(z0x v o).1=(if x.k=3 then wrap64 (v.n+o)+16 else wrap64 (v.n+o)):=by
  unfold z0x;rw[if_neg kO,if_neg kO];rcases hk with hk|hk|hk
  ·have er:knoRoom x.k=(0,7):=by rw[hk];rfl
   have et:z2r v o=wrap64 (v.n+o):=if_neg kO;have em:z1o v=8:=if_pos kO;rw[er]at h2;rw[et,em,if_neg kO,if_neg kO];exact⟨rfl,rfl⟩
  ·have er:knoRoom x.k=(-16, -1):=by rw[hk];rfl
   have e16:wrap64 (wrap64 (v.n+o)+16)=wrap64 (v.n+o)+16:=z08 (by rw[er]at h2;omega) (by rw[er]at h2;omega);have et:z2r v o=wrap64 (v.n+o)+16:=by unfold z2r;rw[if_pos kO,e16]
   have em:z1o v=16:=by unfold z1o;rw[if_neg kO,if_pos kO]
   rw[er]at h2;rw[et,em,if_neg kO,if_pos hk];exact⟨rfl,rfl⟩
  ·have er:knoRoom x.k=(0,3):=by rw[hk];rfl
   have et:z2r v o=wrap64 (v.n+o):=if_neg kO;have em:z1o v=4:=by unfold z1o;rw[if_neg kO,if_neg kO]
   rw[er]at h2;rw[et,em,if_neg kO,if_neg kO];exact⟨rfl,rfl⟩
 exact⟨hr.1,e1,hk,rfl,bd.1,bd.2,by omega,by omega,hr.2⟩
structure Way where
 reg:Nat->Kno
 slot:Nat->Kno
def Way.putReg(y:Way)(d:Nat)(x:Kno):Way:={y with reg:=fun i=>if i=d then x else y.reg i}
def Way.putSlot(y:Way)(t:Nat)(x:Kno):Way:={y with slot:=fun i=>if i=t then x else y.slot i}
def Way.second(y:Way)(s:Nat)(r:Bool)(n:Int):Kno:=if r then y.reg s else z10 n n
def Way.lose(y:Way):Way:={y with reg:=fun i=>if 1<=i/\i<=5 then kno0 else y.reg i}
structure Way.Ok (y:Way):Prop where
 reg: ∀i,i<11->(y.reg i).Ok
 slot: ∀i,i<16->(y.slot i).Ok
structure Way.Has (y:Way) (a:Abs):Prop where
 reg: ∀i,i<11->(y.reg i).Has (a.reg i)
 slot: ∀i,i<16->(y.slot i).Has (a.slot i)
theorem Way.Has.putReg{y:Way}{a:Abs}{d:Nat}{x:Kno}{v:Val}(h:y.Has a)(hx:x.Has v):(y.putReg d x).Has (a.putReg d v):=
 ⟨fun i hi=>by
  show(if i=d then x else y.reg i).Has (if i=d then v else a.reg i)
  by_cases e:i=d
  ·rw[if_pos e,if_pos e];exact hx
  ·rw[if_neg e,if_neg e];exact h.reg i hi,h.slot⟩
theorem Way.Has.putSlot{y:Way}{a:Abs}{d:Nat}{x:Kno}{v:Val}(h:y.Has a)(hx:x.Has v):(y.putSlot d x).Has (a.putSlot d v):=
 ⟨h.reg,fun i hi=>by
  show(if i=d then x else y.slot i).Has (if i=d then v else a.slot i)
  by_cases e:i=d
  ·rw[if_pos e,if_pos e];exact hx
  ·rw[if_neg e,if_neg e];exact h.slot i hi⟩
theorem Way.Has.putCel{y:Way}{a:Abs}{d:Nat}{n:Int}(h:y.Has a):y.Has (a.putCel d n):=⟨h.reg,h.slot⟩
theorem Way.Has.give{y:Way}{a:Abs}{n:Int}(h:y.Has a):y.Has (a.give n):=⟨h.reg,h.slot⟩
theorem Way.Has.lose{y:Way}{a:Abs}(h:y.Has a):y.lose.Has a.lose:=
 ⟨fun i hi=>by
  show(if 1<=i/\i<=5 then kno0 else y.reg i).Has (if 1<=i/\i<=5 then z2s else a.reg i)
  by_cases e:1<=i/\i<=5
  ·rw[if_pos e,if_pos e];exact Or.inl rfl
  ·rw[if_neg e,if_neg e];exact h.reg i hi,h.slot⟩
theorem Kno.has_num{n l h:Int}(h1:l<=n)(h2:n<=h):(z10 l h).Has (numF n):=Or.inr (Or.inl ⟨by show(1:Int)<=1;decide,by show(1:Int)<=4;decide,rfl,h1,h2⟩)
theorem Way.Has.second{y:Way}{a:Abs}{s:Nat}{r:Bool}{n:Int}(h:y.Has a)(hs:s<11):(y.second s r n).Has (a.second s r n):=by
 cases r
 ·exact Kno.has_num (Int.le_refl _) (Int.le_refl _)
 exact h.reg s hs
def z1h:List Kno->Int
 |[]=>0
 |x::l=>if z0s x=0 then z1h l else z0s x
def z2c:Int×Int->List Kno->Int×Int
 |p,[]=>p
 |p,x::l=>z2c (min p.1 x.l,max p.2 x.h) l
def z5t:List Kno->Int×Int
 |[]=>(0,0)
 |x::l=>z2c (x.l,x.h) l
theorem firstBad_none: ∀{l:List Kno},z1h l=0-> ∀x,x∈l->z0s x=0
 |[],_,_,h=>absurd h kS
 |y::l,h,x,hx=>by
  by_cases hy:z0s y=0
  ·rw[z1h,if_pos hy]at h
   rcases List.mem_cons.mp hx with rfl|hx
   ·exact hy
   ·exact firstBad_none h x hx
  ·rw[z1h,if_neg hy]at h;exact absurd h hy
theorem joinFrom_ends: ∀(l:List Kno)(p:Int×Int),(z2c p l).1<=p.1/\p.2<=(z2c p l).2
 |[],_=>⟨Int.le_refl _,Int.le_refl _⟩
 |x::l,p=>by
  have:=joinFrom_ends l (min p.1 x.l,max p.2 x.h);rw[z2c];exact⟨by have h1:=this.1;show _<=p.1;have h2:(min p.1 x.l)<=p.1:=Int.min_le_left _ _;exact Int.le_trans h1 h2,by have h1:=this.2;have h2:p.2<=max p.2 x.h:=Int.le_max_left _ _;exact Int.le_trans h2 h1⟩
theorem joinFrom_has: ∀(l:List Kno)(p:Int×Int)(x:Kno),x∈l->(z2c p l).1<=x.l/\x.h<=(z2c p l).2
 |[],_,_,h=>absurd h kS
 |y::l,p,x,hx=>by
  rw[z2c];rcases List.mem_cons.mp hx with rfl|hx
  ·have:=joinFrom_ends l (min p.1 x.l,max p.2 x.h)
   exact⟨Int.le_trans this.1 (Int.min_le_right _ _),Int.le_trans (Int.le_max_right _ _) this.2⟩
  ·exact joinFrom_has l _ x hx
theorem zR4{l:List Kno}{x:Kno}(hx:x∈l):(z5t l).1<=x.l/\x.h<=(z5t l).2:=by
 cases l with
 |nil=>exact absurd hx kS
 |cons y l=>
  rcases List.mem_cons.mp hx with rfl|hx
  ·exact joinFrom_ends l (x.l,x.h)
  ·exact joinFrom_has l _ x hx
def Way.row(y:Way)(t n:Nat):List Kno:=(List.range' t n).map y.slot
def Way.kept(y:Way)(p:Int×Int):Kno×Int:=
 if p.1=p.2/\(y.slot (p.1+16).toNat).k≠0 then(y.slot (p.1+16).toNat,0)
 else if z1h (y.row (p.1+16).toNat (p.2-p.1+1).toNat)≠0 then(kno0,z1h (y.row (p.1+16).toNat (p.2-p.1+1).toNat))
 else(z10 (z5t (y.row (p.1+16).toNat (p.2-p.1+1).toNat)).1 (z5t (y.row (p.1+16).toNat (p.2-p.1+1).toNat)).2,0)
theorem zV1{y:Way}{a:Abs}{p:Int×Int}{i:Int}(hk:y.Ok)(hy:y.Has a)(h0: -16<=p.1)(h1:p.1<=i)(h2:i<=p.2)(h3:p.2<= -1)(h:(y.kept p).2=0):
  (a.slot (i+16).toNat).k≠0/\(y.kept p).1.Has (a.slot (i+16).toNat):=by
 unfold Way.kept at h⊢
 by_cases c1:p.1=p.2/\(y.slot (p.1+16).toNat).k≠0
 ·rw[if_pos c1]at h⊢
  have e:i=p.1:=kO;rw[e];exact⟨(hy.slot _ kO).some (hk.slot _ kO) c1.2,hy.slot _ kO⟩
 rw[if_neg c1]at h⊢
 by_cases c2:z1h (y.row (p.1+16).toNat (p.2-p.1+1).toNat)≠0
 ·rw[if_pos c2]at h;exact absurd h c2
 rw[if_neg c2];have hm:y.slot (i+16).toNat∈y.row (p.1+16).toNat (p.2-p.1+1).toNat:=List.mem_map.mpr ⟨(i+16).toNat,List.mem_range'.mpr ⟨(i-p.1).toNat,by omega,by omega⟩,rfl⟩;obtain⟨-,w1,w2,w3⟩:=z5b (hy.slot (i+16).toNat kO) (firstBad_none (Classical.byContradiction c2) _ hm);have j:=zR4 hm;exact⟨by omega,Or.inr (Or.inl ⟨by show(1:Int)<=1;decide,by show(1:Int)<=4;decide,w1,Int.le_trans j.1 w2,Int.le_trans w3 j.2⟩)⟩
def Way.load(y:Way)(d s:Nat)(o:Int):Int×Way:=
 if(z0i (y.reg s) o).2≠0 then((z0i (y.reg s) o).2,y)
 else if(y.reg s).k=3 then(if(y.kept (z0i (y.reg s) o).1).2≠0 then((y.kept (z0i (y.reg s) o).1).2,y)else(0,y.putReg d (y.kept (z0i (y.reg s) o).1).1))
 else(0,y.putReg d (z10 (-9223372036854775808) 9223372036854775807))
theorem zUt{y:Way}{a:Abs}{d s:Nat}{o:Int}(hk:y.Ok)(ha:a.Ok)(hy:y.Has a)(hs:s<11)(ho:In64 o)(h:(y.load d s o).1=0):
  (z3x a d (a.reg s) o).1=0/\(y.load d s o).2.Has (z3x a d (a.reg s) o).2:=by
 unfold Way.load at h⊢
 by_cases c1:(z0i (y.reg s) o).2≠0
 ·rw[if_pos c1]at h;exact absurd h c1
 rw[if_neg c1]at h⊢;have c1':(z0i (y.reg s) o).2=0:=Classical.byContradiction c1;obtain⟨r0,rk,rp,rt,b1,b2,m1,m2,r1⟩:=z96 (hk.reg s hs) ho (hy.reg s hs) c1';unfold z3x;rw[if_neg (by rw[r0];decide)]
 by_cases c2:(y.reg s).k=3
 ·rw[if_pos c2]at h⊢
  rw[if_pos c2]at r1
  by_cases c3:(y.kept (z0i (y.reg s) o).1).2≠0
  ·rw[if_pos c3]at h;exact absurd h c3
  rw[if_neg c3];have er:knoRoom (y.reg s).k=(-16, -1):=by rw[c2];rfl
  rw[er]at m1 m2;rw[rt]at c3⊢;obtain⟨n0,nh⟩:=zV1 (i:=wrap64 ((a.reg s).n+o)) hk hy m1 b1 b2 m2 (Classical.byContradiction c3)
  have ea:a.at (a.reg s) (z0x (a.reg s) o).1.toNat=a.slot (wrap64 ((a.reg s).n+o)+16).toNat:=by
   unfold Abs.at;rw[if_neg kO,if_pos kO,r1]
  rw[ea,if_neg n0];exact⟨rfl,hy.putReg nh⟩
 rw[if_neg c2];rw[if_neg c2]at r1
 obtain⟨n,en,hn⟩: ∃n,a.at (a.reg s) (z0x (a.reg s) o).1.toNat=numF n/\In64 n:=by
  unfold Abs.at;rw[r1];rcases rp with e|e|e
  ·have er:knoRoom (y.reg s).k=(0,7):=by rw[e];rfl
   rw[er]at m1 m2;exact⟨_,if_pos kO,ha.word _ kO⟩
  ·exact absurd e c2
  ·have er:knoRoom (y.reg s).k=(0,3):=by rw[e];rfl
   rw[er]at m1 m2;have:=(ha.reg s hs).c0;have:=(ha.reg s hs).c3;exact⟨_,by rw[if_neg kO,if_neg kO],ha.cel _ kO⟩
 rw[en,if_neg (by show¬(1:Int)=0;decide)];exact⟨rfl,hy.putReg (Kno.has_num hn.1 hn.2)⟩
def way0:Way:=⟨fun i=>if i=1 then⟨2,0,0⟩else if i=10 then⟨3,0,0⟩else kno0,fun _=>kno0⟩
end
section
open Go.ChangeShapes Go.WideShapes Go.ChangeAt Go.RowKit
structure Mac where
 step:Int
 steps:Int
 reg:Nat->Val
 slot:Nat->Val
 word:Nat->Int
 cel:Nat->Int
 time:Int
 out:Value
def z30(x:Val)(j:Nat):Value:=if j=0 then A F x.k else if j=1 then A F x.n else A F x.c
def Mac.cell(m:Mac)(i:Nat):Value:=
 if i=0 then A F m.step else if i=1 then A F m.steps
 else if i<35 then z30 (m.reg ((i-2)/3)) ((i-2)%3)
 else if i<83 then z30 (m.slot ((i-35)/3)) ((i-35)%3)
 else if i<91 then A F (m.word (i-83))
 else if i<107 then A F (m.cel (i-91))
 else if i=107 then A F m.time else m.out
def z0a(w:World)(B:Nat)(m:Mac):Prop:=w.heap[B]?=some (cT (Array.ofFn (n:=109) fun i=>m.cell i.1) 165 (0,0))
theorem z0a.lt{w:World}{B:Nat}{m:Mac}(h:z0a w B m):B<w.heap.size:=(Array.getElem?_eq_some_iff.1 h).1
theorem z0a.at{w:World}{B:Nat}{m:Mac}(h:z0a w B m)(i:Nat)(hi:i<109):w.cell? ⟨B,i,none⟩=some (m.cell i):=by
 have h':w.heap[B]?=some (cT (Array.ofFn (n:=109) fun i=>m.cell i.1) 165 (0,0)):=h;simp[World.cell?,h',hi]
theorem z0a.frozen{w:World}{B:Nat}{m:Mac}(h:z0a w B m)(i:Nat):w.frozen? ⟨B,i,none⟩=false:=by
 have h':w.heap[B]?=some (cT (Array.ofFn (n:=109) fun i=>m.cell i.1) 165 (0,0)):=h;simp[World.frozen?,h']
theorem z0a.later{w w1:World}{B:Nat}{m:Mac}(h:z0a w B m)(hb:Below w.heap.size w w1):z0a w1 B m:=(hb.block B h.lt).trans h
theorem z0a.set{w:World}{B:Nat}{m m':Mac}(h:z0a w B m)(i:Nat)(_:i<109)(v:Value)(he: ∀j,j<109->m'.cell j=if j=i then v else m.cell j):z0a (w.setCell ⟨B,i,none⟩ v) B m':=by
 have h':w.heap[B]?=some (cT (Array.ofFn (n:=109) fun i=>m.cell i.1) 165 (0,0)):=h
 have e:(Array.ofFn (n:=109) fun i=>m.cell i.1).setIfInBounds i v=Array.ofFn (n:=109) fun i=>m'.cell i.1:=by
  apply Array.ext
  ·simp
  ·intro j h1 h2
   have h3:j<109:=by simpa using h2
   rw[Array.getElem_setIfInBounds (by simpa using h3),Array.getElem_ofFn,Array.getElem_ofFn];show(if i=j then v else m.cell j)=m'.cell j;rw[he j h3]
   by_cases hj:i=j
   ·rw[if_pos hj,if_pos hj.symm]
   ·rw[if_neg hj,if_neg (fun e=>hj e.symm)]
 unfold z0a;rw[<-e];simp[World.setCell,Array.getElem?_modify,h']
theorem Mac.cell_reg(m:Mac)(d:Nat)(hd:d<11):m.cell (2+d*3)=A F (m.reg d).k/\m.cell (2+d*3+1)=A F (m.reg d).n/\m.cell (2+d*3+2)=A F (m.reg d).c:=by
 refine⟨?_,?_,?_⟩
 ·unfold Mac.cell
  rw[if_neg kO,if_neg kO,if_pos kO,show(2+d*3-2)/3=d by omega,show(2+d*3-2)%3=0 by omega];rfl
 ·unfold Mac.cell
  rw[if_neg kO,if_neg kO,if_pos kO,show(2+d*3+1-2)/3=d by omega,show(2+d*3+1-2)%3=1 by omega];rfl
 unfold Mac.cell;rw[if_neg kO,if_neg kO,if_pos kO,show(2+d*3+2-2)/3=d by omega,show(2+d*3+2-2)%3=2 by omega];rfl
theorem Mac.cell_slot(m:Mac)(d:Nat)(hd:d<16):m.cell (35+d*3)=A F (m.slot d).k/\m.cell (35+d*3+1)=A F (m.slot d).n/\m.cell (35+d*3+2)=A F (m.slot d).c:=by
 refine⟨?_,?_,?_⟩
 ·unfold Mac.cell
  rw[if_neg kO,if_neg kO,if_neg kO,if_pos kO,show(35+d*3-35)/3=d by omega,show(35+d*3-35)%3=0 by omega];rfl
 ·unfold Mac.cell
  rw[if_neg kO,if_neg kO,if_neg kO,if_pos kO,show(35+d*3+1-35)/3=d by omega,show(35+d*3+1-35)%3=1 by omega];rfl
 unfold Mac.cell;rw[if_neg kO,if_neg kO,if_neg kO,if_pos kO,show(35+d*3+2-35)/3=d by omega,show(35+d*3+2-35)%3=2 by omega];rfl
theorem z0a.reg{w:World}{B d:Nat}{m:Mac}(h:z0a w B m)(hd:d<11):w.cell? ⟨B,2+d*3,none⟩=some (A F (m.reg d).k)/\w.cell? ⟨B,2+d*3+1,none⟩=some (A F (m.reg d).n)/\w.cell? ⟨B,2+d*3+2,none⟩=some (A F (m.reg d).c):=
 ⟨by rw[h.at _ kO,(m.cell_reg d hd).1],by rw[h.at _ kO,(m.cell_reg d hd).2.1],by rw[h.at _ kO,(m.cell_reg d hd).2.2]⟩
def Mac.putReg(m:Mac)(d:Nat)(x:Val):Mac:={m with reg:=fun i=>if i=d then x else m.reg i}
theorem Mac.cell_put(m:Mac)(d:Nat)(hd:d<11)(y:Val)(j:Nat):(m.putReg d y).cell j=if 2+d*3<=j/\j<2+d*3+3 then z30 y (j-(2+d*3))else m.cell j:=by
 by_cases h:2+d*3<=j/\j<2+d*3+3
 ·rw[if_pos h]
  unfold Mac.cell;rw[if_neg kO,if_neg kO,if_pos kO,show(j-2)/3=d by omega,show(j-2)%3=j-(2+d*3)by omega];show z30 (if d=d then y else m.reg d) _=_;rw[if_pos rfl]
 rw[if_neg h]
 by_cases h35:2<=j/\j<35
 ·unfold Mac.cell
  rw[if_neg (show¬j=0 by omega),if_neg (show¬j=1 by omega),if_pos h35.2,if_neg (show¬j=0 by omega),if_neg (show¬j=1 by omega),if_pos h35.2];show z30 (if(j-2)/3=d then y else m.reg ((j-2)/3)) _=_;rw[if_neg kO]
 by_cases h2:j<2
 ·rcases(show j=0\/j=1 by omega)with rfl|rfl<;>rfl
 unfold Mac.cell;rw[if_neg (show¬j=0 by omega),if_neg (show¬j=1 by omega),if_neg (show¬j<35 by omega),if_neg (show¬j=0 by omega),if_neg (show¬j=1 by omega),if_neg (show¬j<35 by omega)];rfl
theorem zEb(m:Mac)(d:Nat)(hd:d<11)(y z:Val)(i:Nat)(hi:i<3)(h: ∀j,j<3->z30 z j=if j=i then z30 z i else z30 y j): ∀j,j<109->(m.putReg d z).cell j=if j=2+d*3+i then z30 z i else(m.putReg d y).cell j:=by
 intro j _;rw[m.cell_put d hd z j,m.cell_put d hd y j]
 by_cases hin:2+d*3<=j/\j<2+d*3+3
 ·rw[if_pos hin,if_pos hin,h _ kO]
  by_cases e:j=2+d*3+i
  ·rw[if_pos e,if_pos kO]
  ·rw[if_neg e,if_neg kO]
 rw[if_neg hin,if_neg hin,if_neg kO]
theorem zU3(m:Mac)(d:Nat): ∀j,(m.putReg d (m.reg d)).cell j=m.cell j:=by
 intro j
 have e:m.putReg d (m.reg d)=m:=by
  unfold Mac.putReg
  have:(fun i=>if i=d then m.reg d else m.reg i)=m.reg:=by
   funext i
   by_cases h:i=d
   ·rw[if_pos h,h]
   ·rw[if_neg h]
  rw[this]
 rw[e]
theorem z0a.putReg{w:World}{B d:Nat}{m:Mac}(h:z0a w B m)(hd:d<11)(x:Val):z0a (((w.setCell ⟨B,2+d*3,none⟩ (A F x.k)).setCell ⟨B,2+d*3+1,none⟩ (A F x.n)).setCell ⟨B,2+d*3+2,none⟩ (A F x.c)) B (m.putReg d x):=by
 have h1:z0a (w.setCell ⟨B,2+d*3,none⟩ (A F x.k)) B (m.putReg d ⟨x.k,(m.reg d).n,(m.reg d).c⟩):=h.set _ kO _ fun j hj=>by
  have:=zEb m d hd (m.reg d) ⟨x.k,(m.reg d).n,(m.reg d).c⟩ 0 kO (fun j hj=>by rcases(show j=0\/j=1\/j=2 by omega)with rfl|rfl|rfl<;>rfl) j hj;rw[this,zU3 m d];rfl
 have h2:z0a ((w.setCell ⟨B,2+d*3,none⟩ (A F x.k)).setCell ⟨B,2+d*3+1,none⟩ (A F x.n)) B (m.putReg d ⟨x.k,x.n,(m.reg d).c⟩):=h1.set _ kO _ fun j hj=>
  zEb m d hd ⟨x.k,(m.reg d).n,(m.reg d).c⟩ ⟨x.k,x.n,(m.reg d).c⟩ 1 kO (fun j hj=>by rcases(show j=0\/j=1\/j=2 by omega)with rfl|rfl|rfl<;>rfl) j hj
 exact h2.set _ kO _ fun j hj=>
  zEb m d hd ⟨x.k,x.n,(m.reg d).c⟩ x 2 kO (fun j hj=>by rcases(show j=0\/j=1\/j=2 by omega)with rfl|rfl|rfl<;>rfl) j hj
theorem zMt(B d:Nat)(c a o n:Int)(m:Mac)(hd:d<11)(w:World)(hM:z0a w B m):
  Calls tP 120 #[pT (some ⟨B,0,none⟩),.agg #[A F c,A F a,A F d,.bool true,A F o,A F n]] w fun e w'=>e= rT (m.reg d).v/\Below w.heap.size w w':=by
 have hB:=hM.lt;obtain⟨h0,h1,h2⟩:=hM.reg hd;go_enter Tryz.func120,Tryz.ntmps120;go_wp2;go_region
 all_goals go_wp2
 all_goals exact bodyPost_ret (v:=(m.reg d).v) (by simp[results,Tryz.results120,go_sem,Val.v]) rfl ⟨rfl,(((bF _ _).alloc (Nat.le_refl _) _).alloc kS _).drew⟩
theorem zMu(B:Nat)(c a s o n:Int)(w:World):
  Calls tP 120 #[pT (some ⟨B,0,none⟩),.agg #[A F c,A F a,A F s,.bool false,A F o,A F n]] w fun e w'=>e= rT (numF n).v/\Below w.heap.size w w':=by
 go_enter Tryz.func120,Tryz.ntmps120
 go_wp2_with(first
  |(go_at_call 123;refine(z69 n _).mono ?_;rintro e w1 ⟨rfl,hb1⟩;simp only[Val.v,numF];obtain⟨q0,q1,q2,z0,z1,z2,hl⟩:=z9h hb1;simp only[World.size_alloc]at q0 q1 q2 z0 z1 z2 hl)
  |go_in)
 exact bodyPost_ret (v:=(numF n).v) (by simp[results,Tryz.results120,go_sem,Val.v,numF,q0,q1,q2]) rfl
  ⟨rfl,((((((bF _ _).alloc (Nat.le_refl _) _).alloc kS _).trans (hb1.mono kZ)).setCell (by show w.heap.size<=w.heap.size+1;omega) _).setCell (by show w.heap.size<=w.heap.size+1;omega) _).setCell (by show w.heap.size<=w.heap.size+1;omega) _⟩
def Mac.second(m:Mac)(s:Nat)(r:Bool)(n:Int):Val:=if r then m.reg s else numF n
theorem z65(B s:Nat)(c a o n:Int)(r:Bool)(m:Mac)(hs:s<11)(w:World)(hM:z0a w B m):
  Calls tP 120 #[pT (some ⟨B,0,none⟩),.agg #[A F c,A F a,A F s,.bool r,A F o,A F n]] w fun e w'=>e= rT (m.second s r n).v/\Below w.heap.size w w':=by
 cases r with
 |true=>exact zMt B s c a o n m hs w hM
 |false=>exact zMu B c a s o n w
theorem zQv(code:Int)(a b:Val)(k0: -9223372036854775808<=b.n)(k1:b.n<=9223372036854775807)(w:World):
  zR 126 #[A F code,a.v,b.v] w (.tuple #[(z2i code a b).1.v,A F (z2i code a b).2]):=by
 obtain⟨ak,an,ac⟩:=a;obtain⟨bk,bn,bc⟩:=b;unfold z2i Val.v
 by_cases h0:bk=0
 ·rw[if_pos (Or.inl h0)];exact zQu code ak an ac bk bn bc w (by simpa using h0)
 by_cases h1:ak=0
 ·by_cases h2:code=1
  ·rw[if_neg (by simp[h0,h2]),if_pos h2];exact zNp code ak an ac bk bn bc w (by simpa using h0) (by simpa using h1) (by simpa using h2) (by simp[h2])
  ·rw[if_pos (Or.inr ⟨h1,h2⟩)];exact zQw code ak an ac bk bn bc w (by simpa using h0) (by simpa using h1) (by simpa using h2)
 by_cases h2:code=1
 ·rw[if_neg (by simp[h0,h1]),if_pos h2];exact zNo code ak an ac bk bn bc w (by simpa using h0) (by simpa using h1) (by simpa using h2)
 rw[if_neg (by simp[h0,h1]),if_neg h2]
 by_cases h3:bk=1
 ·by_cases h4:ak=1
  ·rw[if_pos ⟨h3,Or.inl h4⟩];exact zNm code ak an ac bk bn bc w k0 k1 (by simpa using h0) (by simpa using h1) (by simpa using h2) (by simpa using h3) (by simpa using h4)
  ·by_cases h5:code=2
   ·rw[if_pos ⟨h3,Or.inr (Or.inl h5)⟩];exact zNl code ak an ac bk bn bc w k0 k1 (by simpa using h0) (by simpa using h1) (by simpa using h2) (by simpa using h3) (by simpa using h4) (by simpa using h5)
   ·by_cases h6:code=3
    ·rw[if_pos ⟨h3,Or.inr (Or.inr h6)⟩];exact zNk code ak an ac bk bn bc w k0 k1 (by simpa using h0) (by simpa using h1) (by simpa using h2) (by simpa using h3) (by simpa using h4) (by simpa using h5) (by simpa using h6)
    ·rw[if_neg (by simp[h4,h5,h6]),if_neg (by simp[h4])];exact zQs code ak an ac bk bn bc w (by simpa using h0) (by simpa using h1) (by simpa using h2) (by simpa using h3) (by simpa using h4) (by simpa using h5) (by simpa using h6)
 rw[if_neg (by simp[h3])]
 by_cases h4:ak=1
 ·by_cases h5:code=2
  ·rw[if_pos ⟨h4,h5⟩];exact zNn code ak an ac bk bn bc w k0 k1 (by simpa using h0) (by simpa using h1) (by simpa using h2) (by simpa using h3) (by simpa using h4) (by simpa using h5)
  ·rw[if_neg (by simp[h5])];exact zQt code ak an ac bk bn bc w (by simpa using h0) (by simpa using h1) (by simpa using h2) (by simpa using h3) (by simpa using h4) (by simpa using h5)
 rw[if_neg (by simp[h4])];exact zQr code ak an ac bk bn bc w (by simpa using h0) (by simpa using h1) (by simpa using h2) (by simpa using h3) (by simpa using h4)
theorem z40(x:Val)(off:Int)(w:World):
  zR 122 #[x.v,A F off] w (.tuple #[A F (z0x x off).1,A F (z0x x off).2]):=by
 obtain⟨k,n,c⟩:=x;unfold z0x Val.v
 by_cases h0:k=0
 ·rw[if_pos h0];exact zN1 k n c off w (by simpa using h0)
 by_cases h1:k=1
 ·rw[if_neg h0,if_pos h1];exact zQa k n c off w (by simpa using h0) (by simpa using h1)
 rw[if_neg h0,if_neg h1]
 by_cases h2:k=2
 ·have e1:z2r ⟨k,n,c⟩ off=wrap64 (n+off):=if_neg (by show¬k=3;omega)
  have e2:z1o ⟨k,n,c⟩=8:=if_pos h2;rw[e1,e2]
  by_cases l:wrap64 (n+off)<0
  ·rw[if_pos (Or.inl l)];exact zBt k n c off w (by simpa using h0) (by simpa using h1) (by simpa using h2) (by simpa using l)
  ·by_cases g:8<=wrap64 (n+off)
   ·rw[if_pos (Or.inr g)];exact zAk k n c off w (by simpa using h0) (by simpa using h1) (by simpa using h2) (by simpa using l) (by simpa using g)
   ·rw[if_neg kO];exact zE9 k n c off w (by simpa using h0) (by simpa using h1) (by simpa using h2) (by simpa using l) (by simpa using g)
 by_cases h3:k=3
 ·have e1:z2r ⟨k,n,c⟩ off=wrap64 (wrap64 (n+off)+16):=if_pos h3
  have e2:z1o ⟨k,n,c⟩=16:=by unfold z1o;rw[if_neg h2,if_pos h3]
  rw[e1,e2]
  by_cases l:wrap64 (wrap64 (n+off)+16)<0
  ·rw[if_pos (Or.inl l)];exact zAl k n c off w (by simpa using h0) (by simpa using h1) (by simpa using h2) (by simpa using h3) (by simpa using l)
  ·by_cases g:16<=wrap64 (wrap64 (n+off)+16)
   ·rw[if_pos (Or.inr g)];exact z9d k n c off w (by simpa using h0) (by simpa using h1) (by simpa using h2) (by simpa using h3) (by simpa using l) (by simpa using g)
   ·rw[if_neg kO];exact zBu k n c off w (by simpa using h0) (by simpa using h1) (by simpa using h2) (by simpa using h3) (by simpa using l) (by simpa using g)
 have e1:z2r ⟨k,n,c⟩ off=wrap64 (n+off):=if_neg h3;have e2:z1o ⟨k,n,c⟩=4:=by unfold z1o;rw[if_neg h2,if_neg h3]
 rw[e1,e2]
 by_cases l:wrap64 (n+off)<0
 ·rw[if_pos (Or.inl l)];exact zBv k n c off w (by simpa using h0) (by simpa using h1) (by simpa using h2) (by simpa using h3) (by simpa using l)
 by_cases g:4<=wrap64 (n+off)
 ·rw[if_pos (Or.inr g)];exact zAm k n c off w (by simpa using h0) (by simpa using h1) (by simpa using h2) (by simpa using h3) (by simpa using l) (by simpa using g)
 rw[if_neg kO];exact zEa k n c off w (by simpa using h0) (by simpa using h1) (by simpa using h2) (by simpa using h3) (by simpa using l) (by simpa using g)
theorem zRj(n:Int)(w:World):Calls tP 124 #[A F n] w fun e w'=>e= rT (z6o n).v/\Below w.heap.size w w':=by
 unfold z6o
 by_cases l:n<0
 ·rw[if_pos (Or.inl l)];exact zRi n w (by simpa using l)
 by_cases g:4<=n
 ·rw[if_pos (Or.inr g)];exact zO6 n w (by simpa using l) (by simpa using g)
 rw[if_neg kO];exact zVe n w (by simpa using l) (by simpa using g)
abbrev Kept(B:Nat)(w w':World):Prop:=w.grownBy w' (some B)
theorem z09{w w1:World}(hb:Below w.heap.size w w1)(B:Nat):Kept B w w1:=⟨hb.os,hb.tape,hb.output,hb.size,fun k hk _=>hb.block k hk⟩
theorem z0v{w w1:World}{B:Nat}(h:Kept B w w1)(i:Nat)(v:Value):Kept B w (w1.setCell ⟨B,i,none⟩ v):=
 ⟨h.os,h.tape,h.output,by show w.heap.size<=(w1.heap.modify B _).size;rw[Array.size_modify];exact h.size,fun k hk hne=>(Below.heap_setCell w1 ⟨B,i,none⟩ v k (fun e=>hne (by rw[e]))).trans (h.block k hk hne)⟩
theorem z50{w w1:World}{B:Nat}(h:Kept B w w1):Kept B w w1.drew:=⟨h.os,h.tape,h.output,h.size,h.block⟩
theorem z29{w w1 w2:World}{B:Nat}(h:Kept B w w1)(k:Kept B w1 w2):Kept B w w2:=
 ⟨k.os.trans h.os,k.tape.trans h.tape,k.output.trans h.output,Nat.le_trans h.size k.size,fun i hi hne=>(k.block i (Nat.lt_of_lt_of_le hi h.size) hne).trans (h.block i hi hne)⟩
theorem z0b{W w1:World}(hb:Below W.heap.size W w1)(b:Nat):b<W.heap.size->(∀o,w1.cell? ⟨b,o,none⟩=W.cell? ⟨b,o,none⟩)/\(∀o,w1.frozen? ⟨b,o,none⟩=W.frozen? ⟨b,o,none⟩)/\b<w1.heap.size:=fun h=>
 ⟨fun o=>hb.cell (p:=⟨b,o,none⟩) h,fun o=>by
  have e:=hb.block b h;unfold World.frozen?;rw[e],Nat.lt_of_lt_of_le h hb.size⟩
attribute [local simp] z0p z0j z04
structure Frm (S B:Nat) (c d s:Int) (r:Bool) (o n:Int) (m:Mac) (w:World):Prop where
 box:w.heap[S]?=some (cT #[A F c,A F d,A F s,.bool r,A F o,A F n] 121 (0,0))
 mac:z0a w B m
theorem Frm.ltS{S B:Nat}{c d s o n:Int}{r:Bool}{m:Mac}{w:World}(h:Frm S B c d s r o n m w):S<w.heap.size:=(Array.getElem?_eq_some_iff.1 h.box).1
theorem Frm.later{S B:Nat}{c d s o n:Int}{r:Bool}{m:Mac}{w w1:World}(h:Frm S B c d s r o n m w)(hb:Below w.heap.size w w1):Frm S B c d s r o n m w1:=⟨(hb.block S h.ltS).trans h.box,h.mac.later hb⟩
theorem Frm.alloc{S B:Nat}{c d s o n:Int}{r:Bool}{m:Mac}{w:World}(h:Frm S B c d s r o n m w)(x:Obj):Frm S B c d s r o n m (w.alloc x):=h.later ((bF _ _).alloc (Nat.le_refl _) _)
theorem Frm.drew{S B:Nat}{c d s o n:Int}{r:Bool}{m:Mac}{w:World}(h:Frm S B c d s r o n m w):Frm S B c d s r o n m w.drew:=⟨h.box,h.mac⟩
theorem Frm.drewN{S B:Nat}{c d s o n:Int}{r:Bool}{m:Mac}{w:World}(h:Frm S B c d s r o n m w)(k:Nat):Frm S B c d s r o n m (w.drewN k):=⟨h.box,h.mac⟩
theorem Frm.set{S B:Nat}{c d s o n:Int}{r:Bool}{m:Mac}{w:World}(h:Frm S B c d s r o n m w)(a:Addr)(v:Value)(h1:S≠a.block)(h2:B≠a.block):Frm S B c d s r o n m (w.setCell a v):=
 ⟨(Below.heap_setCell w a v S h1).trans h.box,(Below.heap_setCell w a v B h2).trans h.mac⟩
theorem kF{S B:Nat}{c d s o n:Int}{r:Bool}{m:Mac}{w:World}(h:Frm S B c d s r o n m w:=by repeat' first|with_reducible assumption|with_reducible(first|refine Frm.alloc ?_ _|refine Frm.drew ?_|refine Frm.drewN ?_ _|refine Frm.set ?_ _ _ ?_ ?_)|((try dsimp only);omega)|(simp;done)|(simp;omega)|(intro hh;simp at hh;done)|(intro hh;simp at hh;omega)):Frm S B c d s r o n m w:=h
theorem Frm.cells{S B:Nat}{c d s o n:Int}{r:Bool}{m:Mac}{w:World}(h:Frm S B c d s r o n m w):w.cell? ⟨S,0,none⟩=some (A F c)/\w.cell? ⟨S,1,none⟩=some (A F d)/\w.cell? ⟨S,2,none⟩=some (A F s)/\w.cell? ⟨S,3,none⟩=some (.bool r)/\w.cell? ⟨S,4,none⟩=some (A F o)/\w.cell? ⟨S,5,none⟩=some (A F n):=by
 have e:=h.box;exact⟨by simp[World.cell?,e],by simp[World.cell?,e],by simp[World.cell?,e],by simp[World.cell?,e],by simp[World.cell?,e],by simp[World.cell?,e]⟩
theorem Frm.start{B:Nat}{c d s o n:Int}{r:Bool}{m:Mac}{w:World}(h:z0a w B m):Frm w.heap.size B c d s r o n m (w.alloc (cT #[A F c,A F d,A F s,.bool r,A F o,A F n] 121)):=
 ⟨by show(w.heap.push _)[w.heap.size]?=_;simp,h.later ((bF _ _).alloc (Nat.le_refl _) _)⟩
theorem zOr(B d s:Nat)(c o n:Int)(r:Bool)(m:Mac)(hd:d<11)(hs:s<11)(k0: -9223372036854775808<=(m.second s r n).n)(k1:(m.second s r n).n<=9223372036854775807)(mk mn mc E:Int)(HE:Hid (z2i c (m.reg d) (m.second s r n)=(⟨mk,mn,mc⟩,E)))(w:World)(hM:z0a w B m):
  Calls tP 99 #[pT (some ⟨B,0,none⟩),.agg #[A F c,A F d,A F s,.bool r,A F o,A F n]] w fun e w'=>
   e= rT (A F E)/\Kept B w w'/\z0a w' B (m.putReg d ⟨mk,mn,mc⟩):=by
 have hB:=hM.lt;have hF0:Frm w.heap.size B c d s r o n m _:=Frm.start hM;obtain⟨p0,p1,p2,p3,p4,p5⟩:=hF0.cells;obtain⟨h0,h1,h2⟩:=hF0.mac.reg hd;have hd0:(0:Int)<=(d:Int):=kO;have hd1:(d:Int)<11:=kO;go_enter Tryz.func99,Tryz.ntmps99;go_wp2_with fail;go_cut [5,6] (fun s5 s6 wx=> ∃L:Nat,s5= pT (some ⟨L,0,none⟩)/\s6=A F E/\Below w.heap.size w wx/\Frm w.heap.size B c d s r o n m wx/\L<wx.heap.size/\wx.cell? ⟨L,0,none⟩=some (A F mk)/\wx.cell? ⟨L,1,none⟩=some (A F mn)/\wx.cell? ⟨L,2,none⟩=some (A F mc))
 case first=>
  go_region_held3 (fun w'=>w'.cell? ⟨w.heap.size,0,none⟩=some (A F c)/\w'.cell? ⟨w.heap.size,1,none⟩=some (A F d)/\w'.cell? ⟨w.heap.size,2,none⟩=some (A F s)/\w'.cell? ⟨w.heap.size,3,none⟩=some (.bool r)/\w'.cell? ⟨w.heap.size,4,none⟩=some (A F o)/\w'.cell? ⟨w.heap.size,5,none⟩=some (A F n)/\w'.cell? ⟨B,2+d*3,none⟩=some (A F (m.reg d).k)/\w'.cell? ⟨B,2+d*3+1,none⟩=some (A F (m.reg d).n)/\w'.cell? ⟨B,2+d*3+2,none⟩=some (A F (m.reg d).c)) (first|(simp[go_sem];done)|(simp[go_sem, *];done)|go_keep) (first
   |(go_at_call 120;refine(z65 B s c d o n r m hs _ (Frm.mac (S:=w.heap.size) (c:=c) (d:=d) (s:=s) (r:=r) (o:=o) (n:=n) kF)).mono ?_;rintro e w1 ⟨rfl,hb1⟩;have hF1:Frm w.heap.size B c d s r o n m w1:=Frm.later kF hb1;have hbw1:Below w.heap.size w w1:=kT hb1;obtain⟨v0,v1,v2,v3,v4,v5⟩:=hF1.cells;obtain⟨i0,i1,i2⟩:=hF1.mac.reg hd;have hS1:=hF1.ltS;have hB1:=hF1.mac.lt;have v6:=z0b hb1 (w.heap.size+1);(try simp[go_sem]at v6))
   |(go_at_call 126;refine(zQv c (m.reg d) (m.second s r n) k0 k1 _).mono ?_;rintro e w2 ⟨rfl,hb2⟩;rw[HE.out];simp only[Val.v];have hF2:Frm w.heap.size B c d s r o n m w2:=Frm.later kF hb2;have hbw2:Below w.heap.size w w2:=kT hb2;obtain⟨v0,v1,v2,v3,v4,v5⟩:=hF2.cells;obtain⟨i0,i1,i2⟩:=hF2.mac.reg hd;have hS2:=hF2.ltS;have hB2:=hF2.mac.lt;have v7:=z0b hb2 w1.heap.size;have v8:=z0b hb2 (w.heap.size+1);(try simp[go_sem]at v7);(try simp[go_sem, *]at v8)))
  all_goals(go_wp2_with fail;go_meet)
  all_goals refine⟨_,rfl,rfl,kB,kF,?_,?_,?_,?_⟩
  all_goals first|(simp;done)|(simp;omega)|(simp[go_sem, *];done)|skip
 obtain⟨L,rfl,rfl,hbw,hFx,hL,l0,l1,l2⟩:=hcut;obtain⟨v0,v1,v2,v3,v4,v5⟩:=hFx.cells;obtain⟨i0,i1,i2⟩:=hFx.mac.reg hd;have hSx:=hFx.ltS;have hBx:=hFx.mac.lt;have f0:=hFx.mac.frozen (2+d*3);have f1:=hFx.mac.frozen (2+d*3+1);have f2:=hFx.mac.frozen (2+d*3+2);have HK:=z09 hbw B;go_wp2_with fail;go_region
 all_goals go_wp2
 all_goals go_ret
 all_goals exact⟨rfl,by repeat' first|exact HK|refine z0v ?_ _ _|refine z50 ?_,(hFx.mac.putReg hd ⟨mk,mn,mc⟩:)⟩
end
section
open Go.ChangeShapes Go.WideShapes Go.ChangeAt Go.RowKit
theorem z0a.alloc{w:World}{B:Nat}{m:Mac}(h:z0a w B m)(o:Obj):z0a (w.alloc o) B m:=h.later ((bF _ _).alloc (Nat.le_refl _) _)
theorem z0a.drew{w:World}{B:Nat}{m:Mac}(h:z0a w B m):z0a w.drew B m:=h
theorem z0a.off{w:World}{B:Nat}{m:Mac}(h:z0a w B m)(a:Addr)(v:Value)(hne:B≠a.block):z0a (w.setCell a v) B m:=(Below.heap_setCell w a v B hne).trans h
theorem z0a.put3{w:World}{B d:Nat}{m:Mac}(h:z0a w B m)(hd:d<11)(k n c:Int):z0a (((w.setCell ⟨B,2+d*3,none⟩ (A F k)).setCell ⟨B,2+d*3+1,none⟩ (A F n)).setCell ⟨B,2+d*3+2,none⟩ (A F c)) B (m.putReg d ⟨k,n,c⟩):=h.putReg hd ⟨k,n,c⟩
theorem z52{W w1:World}(h:Below W.drew.heap.size W.drew w1):Below W.heap.size W w1:=((bF _ _).drew).trans h
theorem z12(B:Nat)(w:World):Kept B w w:=⟨rfl,rfl,rfl,Nat.le_refl _,fun _ _ _=>rfl⟩
theorem z1j{w w1:World}{B:Nat}(h:Kept B w w1)(o:Obj):Kept B w (w1.alloc o):=z29 h (z09 ((bF _ _).alloc (Nat.le_refl _) _) B)
theorem z3k{w w1:World}{B:Nat}(h:Kept B w w1)(a:Addr)(v:Value)(ha:w.heap.size<=a.block):Kept B w (w1.setCell a v):=
 ⟨h.os,h.tape,h.output,by show w.heap.size<=(w1.heap.modify _ _).size;rw[Array.size_modify];exact h.size,fun k hk hne=>(Below.heap_setCell w1 a v k kO).trans (h.block k hk hne)⟩
theorem kK{B:Nat}{w w1:World}(h:Kept B w w1:=by repeat' first|with_reducible assumption|with_reducible(first|refine z50 ?_|refine z0v ?_ _ _|refine z3k ?_ _ _ ?_|refine z1j ?_ _)|((try dsimp only);omega)|(simp;done)|(simp;omega)):Kept B w w1:=h
theorem z1x{w w1 w2:World}{B:Nat}(h:Kept B w w1)(hb:Below w1.heap.size w1 w2):Kept B w w2:=z29 h (z09 hb B)
theorem z1a{w w1:World}{B:Nat}(h:Kept B w w1)(hB:B<w.heap.size):Below B w w1:=
 ⟨h.os,h.tape,h.output,h.size,fun k hk=>h.block k kO (fun e=>by injection e with e;omega)⟩
def z0u(w:World)(B:Nat)(v:Value)(L:List Int):Prop:=w.ownsRow (B+1) 2 1 v L.length (L.map (Value.int .i64))
theorem z0u.kept{w w1:World}{B:Nat}{v:Value}{L:List Int}(h:z0u w B v L)(hk:Kept B w w1):z0u w1 B v L:=by
 obtain⟨h1,h2⟩:=h;refine⟨h1,?_⟩;rcases h2 with h2|⟨g,cap,cur,hv,hg,hh,r⟩
 ·exact Or.inl h2
 exact Or.inr ⟨g,cap,cur,hv,hg,by rw[hk.block g (Array.getElem?_eq_some_iff.1 hh).1 (fun e=>by injection e with e;omega)];exact hh,r⟩
def Mac.abs(m:Mac)(L:List Int):Abs:=⟨m.reg,m.slot,m.word,m.cel,m.time,L⟩
theorem Mac.cell_word(m:Mac)(i:Nat)(h:i<8):m.cell (83+i)=A F (m.word i):=by
 unfold Mac.cell;rw[if_neg kO,if_neg kO,if_neg kO,if_neg kO,if_pos kO,show 83+i-83=i by omega]
theorem Mac.cell_cel(m:Mac)(i:Nat)(h:i<16):m.cell (91+i)=A F (m.cel i):=by
 unfold Mac.cell;rw[if_neg kO,if_neg kO,if_neg kO,if_neg kO,if_neg kO,if_pos kO,show 91+i-91=i by omega]
def Mac.putSlot(m:Mac)(t:Nat)(x:Val):Mac:={m with slot:=fun i=>if i=t then x else m.slot i}
def Mac.putCel(m:Mac)(t:Nat)(n:Int):Mac:={m with cel:=fun i=>if i=t then n else m.cel i}
def Mac.setOut(m:Mac)(v:Value):Mac:={m with out:=v}
def Mac.setStep(m:Mac)(x:Int):Mac:={m with step:=x}
def Mac.setSteps(m:Mac)(x:Int):Mac:={m with steps:=x}
theorem Mac.cell_putSlot(m:Mac)(d:Nat)(hd:d<16)(y:Val)(j:Nat):(m.putSlot d y).cell j=if 35+d*3<=j/\j<35+d*3+3 then z30 y (j-(35+d*3))else m.cell j:=by
 by_cases h:35+d*3<=j/\j<35+d*3+3
 ·rw[if_pos h]
  unfold Mac.cell;rw[if_neg kO,if_neg kO,if_neg kO,if_pos kO,show(j-35)/3=d by omega,show(j-35)%3=j-(35+d*3)by omega];show z30 (if d=d then y else m.slot d) _=_;rw[if_pos rfl]
 rw[if_neg h]
 by_cases h35:35<=j/\j<83
 ·unfold Mac.cell
  rw[if_neg (show¬j=0 by omega),if_neg (show¬j=1 by omega),if_neg (show¬j<35 by omega),if_pos h35.2,if_neg (show¬j=0 by omega),if_neg (show¬j=1 by omega),if_neg (show¬j<35 by omega),if_pos h35.2];show z30 (if(j-35)/3=d then y else m.slot ((j-35)/3)) _=_;rw[if_neg kO]
 by_cases h2:j<35
 ·unfold Mac.cell
  by_cases h0:j=0
  ·rw[if_pos h0,if_pos h0];rfl
  by_cases h1:j=1
  ·rw[if_neg h0,if_pos h1,if_neg h0,if_pos h1];rfl
  rw[if_neg h0,if_neg h1,if_pos h2,if_neg h0,if_neg h1,if_pos h2];rfl
 unfold Mac.cell;rw[if_neg (show¬j=0 by omega),if_neg (show¬j=1 by omega),if_neg (show¬j<35 by omega),if_neg (show¬j<83 by omega),if_neg (show¬j=0 by omega),if_neg (show¬j=1 by omega),if_neg (show¬j<35 by omega),if_neg (show¬j<83 by omega)];rfl
theorem Mac.cell_putCel(m:Mac)(d:Nat)(hd:d<16)(y:Int)(j:Nat):(m.putCel d y).cell j=if j=91+d then A F y else m.cell j:=by
 by_cases h:j=91+d
 ·rw[if_pos h]
  unfold Mac.cell;rw[if_neg kO,if_neg kO,if_neg kO,if_neg kO,if_neg kO,if_pos kO,show j-91=d by omega];show Value.int .i64 (if d=d then y else m.cel d)=_;rw[if_pos rfl]
 rw[if_neg h]
 by_cases h91:91<=j/\j<107
 ·unfold Mac.cell
  rw[if_neg (show¬j=0 by omega),if_neg (show¬j=1 by omega),if_neg (show¬j<35 by omega),if_neg (show¬j<83 by omega),if_neg (show¬j<91 by omega),if_pos h91.2,if_neg (show¬j=0 by omega),if_neg (show¬j=1 by omega),if_neg (show¬j<35 by omega),if_neg (show¬j<83 by omega),if_neg (show¬j<91 by omega),if_pos h91.2];show Value.int .i64 (if j-91=d then y else m.cel (j-91))=_;rw[if_neg kO]
 unfold Mac.cell
 by_cases h0:j=0
 ·rw[if_pos h0,if_pos h0];rfl
 by_cases h1:j=1
 ·rw[if_neg h0,if_pos h1,if_neg h0,if_pos h1];rfl
 by_cases h2:j<35
 ·rw[if_neg h0,if_neg h1,if_pos h2,if_neg h0,if_neg h1,if_pos h2];rfl
 by_cases h3:j<83
 ·rw[if_neg h0,if_neg h1,if_neg h2,if_pos h3,if_neg h0,if_neg h1,if_neg h2,if_pos h3];rfl
 by_cases h4:j<91
 ·rw[if_neg h0,if_neg h1,if_neg h2,if_neg h3,if_pos h4,if_neg h0,if_neg h1,if_neg h2,if_neg h3,if_pos h4];rfl
 rw[if_neg h0,if_neg h1,if_neg h2,if_neg h3,if_neg h4,if_neg (show¬j<107 by omega),if_neg h0,if_neg h1,if_neg h2,if_neg h3,if_neg h4,if_neg (show¬j<107 by omega)];rfl
theorem zAd(m:Mac)(d:Nat)(hd:d<16)(y z:Val)(i:Nat)(hi:i<3)(h: ∀j,j<3->z30 z j=if j=i then z30 z i else z30 y j): ∀j,j<109->(m.putSlot d z).cell j=if j=35+d*3+i then z30 z i else(m.putSlot d y).cell j:=by
 intro j _;rw[m.cell_putSlot d hd z j,m.cell_putSlot d hd y j]
 by_cases hin:35+d*3<=j/\j<35+d*3+3
 ·rw[if_pos hin,if_pos hin,h _ kO]
  by_cases e:j=35+d*3+i
  ·rw[if_pos e,if_pos kO]
  ·rw[if_neg e,if_neg kO]
 rw[if_neg hin,if_neg hin,if_neg kO]
theorem zPu(m:Mac)(d:Nat):m.putSlot d (m.slot d)=m:=by
 unfold Mac.putSlot
 have:(fun i=>if i=d then m.slot d else m.slot i)=m.slot:=by
  funext i
  by_cases h:i=d
  ·rw[if_pos h,h]
  ·rw[if_neg h]
 rw[this]
theorem z0a.slot3{w:World}{B d:Nat}{m:Mac}(h:z0a w B m)(hd:d<16)(k n c:Int):z0a (((w.setCell ⟨B,35+d*3,none⟩ (A F k)).setCell ⟨B,35+d*3+1,none⟩ (A F n)).setCell ⟨B,35+d*3+2,none⟩ (A F c)) B (m.putSlot d ⟨k,n,c⟩):=by
 have h1:z0a (w.setCell ⟨B,35+d*3,none⟩ (A F k)) B (m.putSlot d ⟨k,(m.slot d).n,(m.slot d).c⟩):=h.set _ kO _ fun j hj=>by
  have:=zAd m d hd (m.slot d) ⟨k,(m.slot d).n,(m.slot d).c⟩ 0 kO (fun j hj=>by rcases(show j=0\/j=1\/j=2 by omega)with rfl|rfl|rfl<;>rfl) j hj;rw[this,zPu m d];rfl
 have h2:z0a ((w.setCell ⟨B,35+d*3,none⟩ (A F k)).setCell ⟨B,35+d*3+1,none⟩ (A F n)) B (m.putSlot d ⟨k,n,(m.slot d).c⟩):=h1.set _ kO _ fun j hj=>
  zAd m d hd ⟨k,(m.slot d).n,(m.slot d).c⟩ ⟨k,n,(m.slot d).c⟩ 1 kO (fun j hj=>by rcases(show j=0\/j=1\/j=2 by omega)with rfl|rfl|rfl<;>rfl) j hj
 exact h2.set _ kO _ fun j hj=>
  zAd m d hd ⟨k,n,(m.slot d).c⟩ ⟨k,n,c⟩ 2 kO (fun j hj=>by rcases(show j=0\/j=1\/j=2 by omega)with rfl|rfl|rfl<;>rfl) j hj
theorem z0a.cel1{w:World}{B d:Nat}{m:Mac}(h:z0a w B m)(hd:d<16)(n:Int):z0a (w.setCell ⟨B,91+d,none⟩ (A F n)) B (m.putCel d n):=
 h.set _ kO _ fun j _=>m.cell_putCel d hd n j
theorem z0a.slot{w:World}{B d:Nat}{m:Mac}(h:z0a w B m)(hd:d<16):w.cell? ⟨B,35+d*3,none⟩=some (A F (m.slot d).k)/\w.cell? ⟨B,35+d*3+1,none⟩=some (A F (m.slot d).n)/\w.cell? ⟨B,35+d*3+2,none⟩=some (A F (m.slot d).c):=
 ⟨by rw[h.at _ kO,(m.cell_slot d hd).1],by rw[h.at _ kO,(m.cell_slot d hd).2.1],by rw[h.at _ kO,(m.cell_slot d hd).2.2]⟩
theorem z0a.word{w:World}{B d:Nat}{m:Mac}(h:z0a w B m)(hd:d<8):w.cell? ⟨B,83+d,none⟩=some (A F (m.word d)):=by rw[h.at _ kO,m.cell_word d hd]
theorem z0a.cel{w:World}{B d:Nat}{m:Mac}(h:z0a w B m)(hd:d<16):w.cell? ⟨B,91+d,none⟩=some (A F (m.cel d)):=by rw[h.at _ kO,m.cell_cel d hd]
theorem z0a.step{w:World}{B:Nat}{m:Mac}(h:z0a w B m):w.cell? ⟨B,0,none⟩=some (A F m.step):=h.at 0 kO
theorem z0a.steps{w:World}{B:Nat}{m:Mac}(h:z0a w B m):w.cell? ⟨B,1,none⟩=some (A F m.steps):=h.at 1 kO
theorem z0a.time{w:World}{B:Nat}{m:Mac}(h:z0a w B m):w.cell? ⟨B,107,none⟩=some (A F m.time):=h.at 107 kO
theorem z0a.outv{w:World}{B:Nat}{m:Mac}(h:z0a w B m):w.cell? ⟨B,108,none⟩=some m.out:=h.at 108 kO
theorem z0a.putOut{w:World}{B:Nat}{m:Mac}(h:z0a w B m)(v:Value):z0a (w.setCell ⟨B,108,none⟩ v) B (m.setOut v):=
 h.set 108 kO v fun j hj=>by
  by_cases e:j=108
  ·rw[if_pos e,e];rfl
  ·rw[if_neg e]
   unfold Mac.cell
   by_cases h0:j=0
   ·rw[if_pos h0,if_pos h0];rfl
   by_cases h1:j=1
   ·rw[if_neg h0,if_pos h1,if_neg h0,if_pos h1];rfl
   by_cases h2:j<35
   ·rw[if_neg h0,if_neg h1,if_pos h2,if_neg h0,if_neg h1,if_pos h2];rfl
   by_cases h3:j<83
   ·rw[if_neg h0,if_neg h1,if_neg h2,if_pos h3,if_neg h0,if_neg h1,if_neg h2,if_pos h3];rfl
   by_cases h4:j<91
   ·rw[if_neg h0,if_neg h1,if_neg h2,if_neg h3,if_pos h4,if_neg h0,if_neg h1,if_neg h2,if_neg h3,if_pos h4];rfl
   by_cases h5:j<107
   ·rw[if_neg h0,if_neg h1,if_neg h2,if_neg h3,if_neg h4,if_pos h5,if_neg h0,if_neg h1,if_neg h2,if_neg h3,if_neg h4,if_pos h5];rfl
   rw[if_neg h0,if_neg h1,if_neg h2,if_neg h3,if_neg h4,if_neg h5,if_pos kO,if_neg h0,if_neg h1,if_neg h2,if_neg h3,if_neg h4,if_neg h5,if_pos kO];rfl
theorem z0a.putStep{w:World}{B:Nat}{m:Mac}(h:z0a w B m)(x:Int):z0a (w.setCell ⟨B,0,none⟩ (A F x)) B (m.setStep x):=
 h.set 0 kO _ fun j hj=>by
  by_cases e:j=0
  ·rw[if_pos e,e];rfl
  ·rw[if_neg e];unfold Mac.cell;rw[if_neg e,if_neg e];rfl
theorem z0a.putSteps{w:World}{B:Nat}{m:Mac}(h:z0a w B m)(x:Int):z0a (w.setCell ⟨B,1,none⟩ (A F x)) B (m.setSteps x):=
 h.set 1 kO _ fun j hj=>by
  by_cases e:j=1
  ·rw[if_pos e,e];rfl
  ·rw[if_neg e];unfold Mac.cell
   by_cases h0:j=0
   ·rw[if_pos h0,if_pos h0];rfl
   ·rw[if_neg h0,if_neg e,if_neg h0,if_neg e];rfl
def Kno.v(x:Kno):Value:= .agg #[A F x.k,A F x.l,A F x.h]
def z2k(x:Kno)(j:Nat):Value:=if j=0 then A F x.k else if j=1 then A F x.l else A F x.h
def z22(p:Int)(y:Way)(i:Nat):Value:=
 if i=0 then A F p
 else if i<34 then z2k (y.reg ((i-1)/3)) ((i-1)%3)
 else z2k (y.slot ((i-34)/3)) ((i-34)%3)
def z03(p:Int)(y:Way):Array Value:=Array.ofFn (n:=82) fun i=>z22 p y i.1
def z02(w:World)(B:Nat)(p:Int)(y:Way):Prop:=w.heap[B]?=some (cT (z03 p y) 190 (0,0))
theorem z0g(p:Int)(y:Way):(z03 p y).size=82:=by simp[z03]
theorem zJ9(x:Kno)(j:Nat):(z2k x j).oneCell'=true:=by
 unfold z2k;split
 ·rfl
 split<;>rfl
theorem zHl(p:Int)(y:Way)(i:Nat):(z22 p y i).oneCell'=true:=by
 unfold z22;split
 ·rfl
 split<;>exact zJ9 _ _
theorem zA8(p:Int)(y:Way)(i:Nat)(h:i<(z03 p y).size):(z03 p y)[i]=z22 p y i:=by simp[z03]
theorem z2f(p:Int)(y:Way):(z03 p y).all (·.oneCell')=true:=by
 rw[Array.all_eq_true_iff_forall_mem];intro v hv;obtain⟨i,h1,h2⟩:=Array.mem_iff_getElem.1 hv;rw[<-h2,zA8 p y i h1];exact zHl _ _ _
theorem zSj(p:Int)(y:Way)(i:Nat)(hi:i<82):(z03 p y)[i]?=some (z22 p y i):=by
 unfold z03;simp[hi]
section
variable {w:World} {B d:Nat} {p:Int} {y:Way}
theorem z02.lt(h:z02 w B p y):B<w.heap.size:=(Array.getElem?_eq_some_iff.1 h).1
theorem z02.at(h:z02 w B p y)(i:Nat)(hi:i<82):w.cell? ⟨B,i,none⟩=some (z22 p y i):=by
 rw[cell_of_row w B i _ _ _ h,zSj p y i hi]
theorem z02.frozen(h:z02 w B p y)(i:Nat):w.frozen? ⟨B,i,none⟩=false:=by
 have h':w.heap[B]?=some (cT (z03 p y) 190 (0,0)):=h;simp[World.frozen?,h']
theorem z02.later{w1:World}(h:z02 w B p y)(hb:Below w.heap.size w w1):z02 w1 B p y:=(hb.block B h.lt).trans h
theorem z02.alloc(h:z02 w B p y)(o:Obj):z02 (w.alloc o) B p y:=h.later ((bF _ _).alloc (Nat.le_refl _) _)
theorem z02.start(w:World)(p:Int)(y:Way):z02 (w.alloc (cT (z03 p y) 190)) w.heap.size p y:=heap_alloc_new w _
theorem z02.setRow{w:World}{g:Nat}{old:Array Value}(hg:w.heap[g]?=some (cT old 190 (0,0)))(p:Int)(y:Way):z02 (w.setRow g (z03 p y)) g p y:=setRow_heap w g old _ _ _ hg
theorem z02.set{p':Int}{y':Way}(h:z02 w B p y)(i:Nat)(v:Value)(he: ∀j,j<82->z22 p' y' j=if j=i then v else z22 p y j):z02 (w.setCell ⟨B,i,none⟩ v) B p' y':=by
 have e:(z03 p y).setIfInBounds i v=z03 p' y':=by
  apply Array.ext
  ·simp[z03]
  ·intro j h1 h2
   have h3:j<82:=by rw[z0g]at h2;exact h2
   rw[Array.getElem_setIfInBounds (by rw[z0g];exact h3),zA8,zA8,he j h3]
   by_cases hj:i=j
   ·rw[if_pos hj,if_pos hj.symm]
   ·rw[if_neg hj,if_neg (fun e=>hj e.symm)]
 unfold z02;rw[<-e];exact heap_setCell_same w B i _ _ v h
theorem z6r(p:Int)(y:Way)(d:Nat)(hd:d<11)(i:Nat)(hi:i<3):z22 p y (1+d*3+i)=z2k (y.reg d) i:=by
 unfold z22;rw[if_neg kO,if_pos kO,show(1+d*3+i-1)/3=d by omega,show(1+d*3+i-1)%3=i by omega]
theorem z5l(p:Int)(y:Way)(d:Nat)(i:Nat)(hi:i<3):z22 p y (34+d*3+i)=z2k (y.slot d) i:=by
 unfold z22;rw[if_neg kO,if_neg kO,show(34+d*3+i-34)/3=d by omega,show(34+d*3+i-34)%3=i by omega]
theorem z02.step(h:z02 w B p y):w.cell? ⟨B,0,none⟩=some (A F p):=h.at 0 kO
theorem z02.reg(h:z02 w B p y)(hd:d<11):w.cell? ⟨B,1+d*3,none⟩=some (A F (y.reg d).k)/\w.cell? ⟨B,1+d*3+1,none⟩=some (A F (y.reg d).l)/\w.cell? ⟨B,1+d*3+2,none⟩=some (A F (y.reg d).h):=
 ⟨by rw[h.at _ kO];exact congrArg some (z6r p y d hd 0 kO),by rw[h.at _ kO,z6r p y d hd 1 kO];rfl,by rw[h.at _ kO,z6r p y d hd 2 kO];rfl⟩
theorem z02.slot(h:z02 w B p y)(hd:d<16):w.cell? ⟨B,34+d*3,none⟩=some (A F (y.slot d).k)/\w.cell? ⟨B,34+d*3+1,none⟩=some (A F (y.slot d).l)/\w.cell? ⟨B,34+d*3+2,none⟩=some (A F (y.slot d).h):=
 ⟨by rw[h.at _ kO];exact congrArg some (z5l p y d 0 kO),by rw[h.at _ kO,z5l p y d 1 kO];rfl,by rw[h.at _ kO,z5l p y d 2 kO];rfl⟩
theorem z02.putStep(h:z02 w B p y)(q:Int):z02 (w.setCell ⟨B,0,none⟩ (A F q)) B q y:=
 h.set 0 _ fun j _=>by
  by_cases e:j=0
  ·rw[if_pos e,e];rfl
  ·rw[if_neg e];unfold z22;rw[if_neg e,if_neg e]
theorem z6l(p:Int)(y:Way)(d:Nat)(hd:d<11)(x:Kno)(j:Nat):z22 p (y.putReg d x) j=if 1+d*3<=j/\j<1+d*3+3 then z2k x (j-(1+d*3))else z22 p y j:=by
 by_cases h:1+d*3<=j/\j<1+d*3+3
 ·rw[if_pos h]
  unfold z22;rw[if_neg kO,if_pos kO,show(j-1)/3=d by omega,show(j-1)%3=j-(1+d*3)by omega];show z2k (if d=d then x else y.reg d) _=_;rw[if_pos rfl]
 rw[if_neg h];unfold z22
 by_cases h0:j=0
 ·rw[if_pos h0,if_pos h0]
 rw[if_neg h0,if_neg h0]
 by_cases h1:j<34
 ·rw[if_pos h1,if_pos h1]
  show z2k (if(j-1)/3=d then x else y.reg ((j-1)/3)) _=_;rw[if_neg kO]
 rw[if_neg h1,if_neg h1];rfl
theorem z5m(p:Int)(y:Way)(d:Nat)(x:Kno)(j:Nat):z22 p (y.putSlot d x) j=if 34+d*3<=j/\j<34+d*3+3 then z2k x (j-(34+d*3))else z22 p y j:=by
 by_cases h:34+d*3<=j/\j<34+d*3+3
 ·rw[if_pos h]
  unfold z22;rw[if_neg kO,if_neg kO,show(j-34)/3=d by omega,show(j-34)%3=j-(34+d*3)by omega];show z2k (if d=d then x else y.slot d) _=_;rw[if_pos rfl]
 rw[if_neg h];unfold z22
 by_cases h0:j=0
 ·rw[if_pos h0,if_pos h0]
 rw[if_neg h0,if_neg h0]
 by_cases h1:j<34
 ·rw[if_pos h1,if_pos h1];rfl
 rw[if_neg h1,if_neg h1];show z2k (if(j-34)/3=d then x else y.slot ((j-34)/3)) _=_;rw[if_neg kO]
theorem zSi(y:Way)(d:Nat):y.putReg d (y.reg d)=y:=by
 unfold Way.putReg
 have:(fun i=>if i=d then y.reg d else y.reg i)=y.reg:=by
  funext i
  by_cases h:i=d
  ·rw[if_pos h,h]
  ·rw[if_neg h]
 rw[this]
theorem zP2(y:Way)(d:Nat):y.putSlot d (y.slot d)=y:=by
 unfold Way.putSlot
 have:(fun i=>if i=d then y.slot d else y.slot i)=y.slot:=by
  funext i
  by_cases h:i=d
  ·rw[if_pos h,h]
  ·rw[if_neg h]
 rw[this]
theorem zE0(p:Int)(y:Way)(d:Nat)(hd:d<11)(x z:Kno)(i:Nat)(hi:i<3)(h: ∀j,j<3->z2k z j=if j=i then z2k z i else z2k x j): ∀j,j<82->z22 p (y.putReg d z) j=if j=1+d*3+i then z2k z i else z22 p (y.putReg d x) j:=by
 intro j _;rw[z6l p y d hd z j,z6l p y d hd x j]
 by_cases hin:1+d*3<=j/\j<1+d*3+3
 ·rw[if_pos hin,if_pos hin,h _ kO]
  by_cases e:j=1+d*3+i
  ·rw[if_pos e,if_pos kO]
  ·rw[if_neg e,if_neg kO]
 rw[if_neg hin,if_neg hin,if_neg kO]
theorem z8g(p:Int)(y:Way)(d:Nat)(x z:Kno)(i:Nat)(hi:i<3)(h: ∀j,j<3->z2k z j=if j=i then z2k z i else z2k x j): ∀j,j<82->z22 p (y.putSlot d z) j=if j=34+d*3+i then z2k z i else z22 p (y.putSlot d x) j:=by
 intro j _;rw[z5m p y d z j,z5m p y d x j]
 by_cases hin:34+d*3<=j/\j<34+d*3+3
 ·rw[if_pos hin,if_pos hin,h _ kO]
  by_cases e:j=34+d*3+i
  ·rw[if_pos e,if_pos kO]
  ·rw[if_neg e,if_neg kO]
 rw[if_neg hin,if_neg hin,if_neg kO]
theorem z02.reg3(h:z02 w B p y)(hd:d<11)(k l g:Int):z02 (((w.setCell ⟨B,1+d*3,none⟩ (A F k)).setCell ⟨B,1+d*3+1,none⟩ (A F l)).setCell ⟨B,1+d*3+2,none⟩ (A F g)) B p (y.putReg d ⟨k,l,g⟩):=by
 have h1:z02 (w.setCell ⟨B,1+d*3,none⟩ (A F k)) B p (y.putReg d ⟨k,(y.reg d).l,(y.reg d).h⟩):=h.set _ _ fun j hj=>by
  have:=zE0 p y d hd (y.reg d) ⟨k,(y.reg d).l,(y.reg d).h⟩ 0 kO (fun j hj=>by rcases(show j=0\/j=1\/j=2 by omega)with rfl|rfl|rfl<;>rfl) j hj;rw[this,zSi y d];rfl
 have h2:z02 ((w.setCell ⟨B,1+d*3,none⟩ (A F k)).setCell ⟨B,1+d*3+1,none⟩ (A F l)) B p (y.putReg d ⟨k,l,(y.reg d).h⟩):=h1.set _ _ fun j hj=>
  zE0 p y d hd ⟨k,(y.reg d).l,(y.reg d).h⟩ ⟨k,l,(y.reg d).h⟩ 1 kO (fun j hj=>by rcases(show j=0\/j=1\/j=2 by omega)with rfl|rfl|rfl<;>rfl) j hj
 exact h2.set _ _ fun j hj=>
  zE0 p y d hd ⟨k,l,(y.reg d).h⟩ ⟨k,l,g⟩ 2 kO (fun j hj=>by rcases(show j=0\/j=1\/j=2 by omega)with rfl|rfl|rfl<;>rfl) j hj
theorem z02.slot3(h:z02 w B p y)(d:Nat)(k l g:Int):z02 (((w.setCell ⟨B,34+d*3,none⟩ (A F k)).setCell ⟨B,34+d*3+1,none⟩ (A F l)).setCell ⟨B,34+d*3+2,none⟩ (A F g)) B p (y.putSlot d ⟨k,l,g⟩):=by
 have h1:z02 (w.setCell ⟨B,34+d*3,none⟩ (A F k)) B p (y.putSlot d ⟨k,(y.slot d).l,(y.slot d).h⟩):=h.set _ _ fun j hj=>by
  have:=z8g p y d (y.slot d) ⟨k,(y.slot d).l,(y.slot d).h⟩ 0 kO (fun j hj=>by rcases(show j=0\/j=1\/j=2 by omega)with rfl|rfl|rfl<;>rfl) j hj;rw[this,zP2 y d];rfl
 have h2:z02 ((w.setCell ⟨B,34+d*3,none⟩ (A F k)).setCell ⟨B,34+d*3+1,none⟩ (A F l)) B p (y.putSlot d ⟨k,l,(y.slot d).h⟩):=h1.set _ _ fun j hj=>
  z8g p y d ⟨k,(y.slot d).l,(y.slot d).h⟩ ⟨k,l,(y.slot d).h⟩ 1 kO (fun j hj=>by rcases(show j=0\/j=1\/j=2 by omega)with rfl|rfl|rfl<;>rfl) j hj
 exact h2.set _ _ fun j hj=>
  z8g p y d ⟨k,l,(y.slot d).h⟩ ⟨k,l,g⟩ 2 kO (fun j hj=>by rcases(show j=0\/j=1\/j=2 by omega)with rfl|rfl|rfl<;>rfl) j hj
end
theorem Tryz.infoW:(Tryz.prog.info? 190).map (·.size)=some 82:=kR
theorem z0n(p:Int)(y:Way):(Tryz.prog.info? 190).map (·.size)=some (z03 p y).size:=by rw[z0g];exact Tryz.infoW
theorem z91{fn:Func}{q:Tmp}(h:fn.results=#[.cell q 190])(tmps:Array Value)(w:World)(g:Nat)(p:Int)(y:Way)(hp:tmps.getD q undef= pT (some ⟨g,0,none⟩))(hg:z02 w g p y):
  (results fn tmps).run tP w= .ok (.agg (z03 p y)) w:=
 results_cell_row h tmps w g _ _ _ _ hp hg Tryz.underlying190 rfl (z0n p y)
end
section
open Go.ChangeShapes Go.WideShapes Go.ChangeAt Go.RowKit
theorem z1s(l h:Int)(w:World):Calls tP 116 #[.agg #[A F l,A F h]] w fun e w'=>e= rT (z10 l h).v/\Below w.heap.size w w':=by
 go_enter Tryz.func116,Tryz.ntmps116;go_wp2;exact bodyPost_ret (v:=(z10 l h).v) (by simp[results,Tryz.results116,go_sem,z10,Kno.v]) rfl ⟨rfl,kB⟩
theorem zNx(k l h:Int)(w:World)(y2:(k==2)=true):zR 129 #[.agg #[A F k,A F l,A F h]] w (.bool true):=by
 go_enter Tryz.func129,Tryz.ntmps129;go_wp2;go_ret;exact⟨rfl,kB⟩
theorem zNw(k l h:Int)(w:World)(y2:(k==2)=false)(y3:(k==3)=true):zR 129 #[.agg #[A F k,A F l,A F h]] w (.bool true):=by
 go_enter Tryz.func129,Tryz.ntmps129;go_wp2;go_ret;exact⟨rfl,kB⟩
theorem zNv(k l h:Int)(w:World)(y2:(k==2)=false)(y3:(k==3)=false)(y4:(k==4)=true):zR 129 #[.agg #[A F k,A F l,A F h]] w (.bool true):=by
 go_enter Tryz.func129,Tryz.ntmps129;go_wp2;go_ret;exact⟨rfl,kB⟩
theorem zNy(k l h:Int)(w:World)(y2:(k==2)=false)(y3:(k==3)=false)(y4:(k==4)=false):zR 129 #[.agg #[A F k,A F l,A F h]] w (.bool false):=by
 go_enter Tryz.func129,Tryz.ntmps129;go_wp2;go_ret;exact⟨rfl,kB⟩
def z1u(k:Int):Bool:=k==2||k==3||k==4
theorem z3y(k l h:Int)(w:World):zR 129 #[.agg #[A F k,A F l,A F h]] w (.bool (z1u k)):=by
 unfold z1u
 cases y2:k==2
 ·cases y3:k==3
  ·cases y4:k==4
   ·exact zNy k l h w y2 y3 y4
   ·exact zNv k l h w y2 y3 y4
  ·exact zNw k l h w y2 y3
 exact zNx k l h w y2
theorem z3e(k:Int):z1u k=true↔(k=2\/k=3\/k=4):=by unfold z1u;simp[or_assoc]
theorem zSm(k l h:Int)(w:World)(y0:(k==0)=true):zR 90 #[.agg #[A F k,A F l,A F h]] w (A F 8):=by
 go_enter Tryz.func90,Tryz.ntmps90;go_wp2;go_ret;exact⟨rfl,kB⟩
theorem zSl(k l h:Int)(w:World)(y0:(k==0)=false)(y1:(k==1)=true):zR 90 #[.agg #[A F k,A F l,A F h]] w (A F 0):=by
 go_enter Tryz.func90,Tryz.ntmps90;go_wp2;go_ret;exact⟨rfl,kB⟩
theorem zSk(k l h:Int)(w:World)(y0:(k==0)=false)(y1:(k==1)=false):zR 90 #[.agg #[A F k,A F l,A F h]] w (A F 1):=by
 go_enter Tryz.func90,Tryz.ntmps90;go_wp2;go_ret;exact⟨rfl,kB⟩
theorem z3j(k l h:Int)(w:World):zR 90 #[.agg #[A F k,A F l,A F h]] w (A F (z0s ⟨k,l,h⟩)):=by
 unfold z0s
 by_cases h0:k=0
 ·rw[if_pos h0];exact zSm k l h w (by simpa using h0)
 by_cases h1:k=1
 ·rw[if_neg h0,if_pos h1];exact zSl k l h w (by simpa using h0) (by simpa using h1)
 rw[if_neg h0,if_neg h1];exact zSk k l h w (by simpa using h0) (by simpa using h1)
theorem room_2(k:Int)(w:World)(y2:(k==2)=true):zR 131 #[A F k] w (.agg #[A F 0,A F 7]):=by
 go_enter Tryz.func131,Tryz.ntmps131;go_wp2;exact bodyPost_ret (v:= .agg #[A F 0,A F 7]) (by simp[results,Tryz.results131,go_sem]) rfl ⟨rfl,kB⟩
theorem room_3(k:Int)(w:World)(y2:(k==2)=false)(y3:(k==3)=true):zR 131 #[A F k] w (.agg #[A F (-16),A F (-1)]):=by
 go_enter Tryz.func131,Tryz.ntmps131;go_wp2;exact bodyPost_ret (v:= .agg #[A F (-16),A F (-1)]) (by simp[results,Tryz.results131,go_sem]) rfl ⟨rfl,kB⟩
theorem room_4(k:Int)(w:World)(y2:(k==2)=false)(y3:(k==3)=false):zR 131 #[A F k] w (.agg #[A F 0,A F 3]):=by
 go_enter Tryz.func131,Tryz.ntmps131;go_wp2;exact bodyPost_ret (v:= .agg #[A F 0,A F 3]) (by simp[results,Tryz.results131,go_sem]) rfl ⟨rfl,kB⟩
theorem zTg(k:Int)(w:World):zR 131 #[A F k] w (.agg #[A F (knoRoom k).1,A F (knoRoom k).2]):=by
 unfold knoRoom
 by_cases h2:k=2
 ·rw[if_pos h2];exact room_2 k w (by simpa using h2)
 by_cases h3:k=3
 ·rw[if_neg h2,if_pos h3];exact room_3 k w (by simpa using h2) (by simpa using h3)
 rw[if_neg h2,if_neg h3];exact room_4 k w (by simpa using h2) (by simpa using h3)
end
end Go.Proofs.YtabjjgkmegcacaaGreatDoor
