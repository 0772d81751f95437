/-
A part of the proof of DeskPieces; its card says what is proved.
-/
import Derived.Test.YtkdflpplamebkaaGreatDoorJp8
import Derived.Test.YtkdflpplamebkaaGreatDoorJp2
set_option maxHeartbeats 40000000
open Go.Value renaming int → A
open Go.IntKind renaming i64 → B
open Go.RowKit.Below renaming alloc → bA, setCell → bS, drew → bD, refl → bF
set_option maxRecDepth 1000000
set_option linter.defProp false
set_option linter.unusedVariables false
set_option linter.unusedSimpArgs false
open Go.Ending renaming returned → rT
open Go.Obj renaming cells → cT
open Go.Proofs.Tryz renaming prog → tP
namespace Go.Proofs.YtkdflpplamebkaaGreatDoor
section
open Go.RowKit
def uns(a:Int):Nat:=(a%18446744073709551616).toNat
theorem zJp(a:Int):uns a<18446744073709551616:=by unfold uns;omega
theorem z1j(a:Int):IntKind.u64.wrap a=(uns a:Int):=by rw[IntKind.wrap_u64];unfold uns;omega
theorem zPr(a:Int):(uns a:Int)=a%18446744073709551616:=by unfold uns;omega
theorem zPq{b:Int}(h0: -9223372036854775808<=b)(h1:b<=9223372036854775807):uns b=0↔b=0:=by unfold uns;omega
theorem zCp(n:Int):wrap64 (n%18446744073709551616)=wrap64 n:=by unfold wrap64;omega
theorem q07(n:Int):wrap64 (IntKind.u64.wrap n)=wrap64 n:=by rw[IntKind.wrap_u64];exact zCp n
theorem z0s{n:Int}(h0: -9223372036854775808<=n)(h1:n<=9223372036854775807):wrap64 n=n:=by unfold wrap64;omega
theorem z1x(n:Int): -9223372036854775808<=wrap64 n/\wrap64 n<=9223372036854775807:=by unfold wrap64;omega
theorem zRg(a:Int):wrap64 (uns a:Int)=wrap64 a:=by rw[zPr];exact zCp a
theorem z4r(a:Int):(BitVec.ofInt 64 a).toNat=uns a:=by
 rw[BitVec.toNat_ofInt];rfl
theorem zC2(a b:Int):bits .and .i64 a b=wrap64 ((uns a&&&uns b:Nat):Int):=by
 show IntKind.i64.wrap ((BitVec.ofInt 64 a&&&BitVec.ofInt 64 b).toNat:Int)=_;rw[BitVec.toNat_and,z4r,z4r,IntWalk.i64_left]
theorem zPd(a b:Int):bits .or .i64 a b=wrap64 ((uns a|||uns b:Nat):Int):=by
 show IntKind.i64.wrap ((BitVec.ofInt 64 a|||BitVec.ofInt 64 b).toNat:Int)=_;rw[BitVec.toNat_or,z4r,z4r,IntWalk.i64_left]
theorem zMi(a b:Int):bits .xor .i64 a b=wrap64 ((uns a^^^uns b:Nat):Int):=by
 show IntKind.i64.wrap ((BitVec.ofInt 64 a^^^BitVec.ofInt 64 b).toNat:Int)=_;rw[BitVec.toNat_xor,z4r,z4r,IntWalk.i64_left]
theorem zUk(b:Int):bits .and .i64 b 63=b%64:=by
 rw[zC2]
 have e:uns b&&&uns 63=uns b%64:=by
  show uns b&&&63=_;exact Nat.and_two_pow_sub_one_eq_mod (uns b) 6
 rw[e];unfold uns wrap64;omega
def sixBits(b:Int):Nat:=(b%64).toNat
theorem zAr(b:Int):sixBits b<64:=by unfold sixBits;omega
def z0u(c a b:Int):Int:=
 if c=1 then b else if c=2 then wrap64 (a+b)else if c=3 then wrap64 (a-b)else if c=4 then wrap64 (a*b)
 else if c=5 then(if b=0 then 0 else wrap64 ((uns a/uns b:Nat):Int))
 else if c=6 then(if b=0 then a else wrap64 ((uns a%uns b:Nat):Int))
 else if c=7 then wrap64 ((uns a&&&uns b:Nat):Int)else if c=8 then wrap64 ((uns a|||uns b:Nat):Int)
 else if c=9 then wrap64 ((uns a^^^uns b:Nat):Int)
 else if c=10 then wrap64 (a*2^sixBits b)else if c=11 then wrap64 ((uns a/2^sixBits b:Nat):Int)
 else if c=12 then a/2^sixBits b else if c=13 then wrap64 (-a)else 0
def isV(c a b:Int):Bool:=
 if c=15 then decide (a=b)else if c=16 then !decide (a=b)
 else if c=17 then decide (uns b<uns a)else if c=18 then decide (uns b<=uns a)
 else if c=19 then decide (uns a<uns b)else if c=20 then decide (uns a<=uns b)
 else if c=21 then decide (b<a)else if c=22 then decide (b<=a)
 else if c=23 then decide (a<b)else if c=24 then decide (a<=b)else false
theorem zP3(a b:Int):z0u 1 a b=b:=by simp only[z0u,reduceIte,Int.reduceEq]
theorem zP2(a b:Int):z0u 2 a b=wrap64 (a+b):=by simp only[z0u,reduceIte,Int.reduceEq]
theorem zP1(a b:Int):z0u 3 a b=wrap64 (a-b):=by simp only[z0u,reduceIte,Int.reduceEq]
theorem zP0(a b:Int):z0u 4 a b=wrap64 (a*b):=by simp only[z0u,reduceIte,Int.reduceEq]
theorem zJ3(a b:Int):z0u 7 a b=wrap64 ((uns a&&&uns b:Nat):Int):=by simp only[z0u,reduceIte,Int.reduceEq]
theorem zOx(a b:Int):z0u 8 a b=wrap64 ((uns a|||uns b:Nat):Int):=by simp only[z0u,reduceIte,Int.reduceEq]
theorem zOw(a b:Int):z0u 9 a b=wrap64 ((uns a^^^uns b:Nat):Int):=by simp only[z0u,reduceIte,Int.reduceEq]
theorem zJ7(a b:Int):z0u 10 a b=wrap64 (a*2^sixBits b):=by simp only[z0u,reduceIte,Int.reduceEq]
theorem z8n(a b:Int):z0u 11 a b=wrap64 ((uns a/2^sixBits b:Nat):Int):=by simp only[z0u,reduceIte,Int.reduceEq]
theorem zA6(a b:Int):z0u 12 a b=a/2^sixBits b:=by simp only[z0u,reduceIte,Int.reduceEq]
theorem zJ6(a b:Int):z0u 13 a b=wrap64 (-a):=by simp only[z0u,reduceIte,Int.reduceEq]
theorem zOz(a:Int){b:Int}(h:b≠0):z0u 5 a b=wrap64 ((uns a/uns b:Nat):Int):=by simp only[z0u,reduceIte,Int.reduceEq,if_neg h]
theorem zJ5(a:Int):z0u 5 a 0=0:=by simp only[z0u,reduceIte,Int.reduceEq]
theorem zOy(a:Int){b:Int}(h:b≠0):z0u 6 a b=wrap64 ((uns a%uns b:Nat):Int):=by simp only[z0u,reduceIte,Int.reduceEq,if_neg h]
theorem zJ4(a:Int):z0u 6 a 0=a:=by simp only[z0u,reduceIte,Int.reduceEq]
theorem q2u{c:Int}(a b:Int)(h:c<1\/13<c):z0u c a b=0:=by
 have e: ∀k:Int,1<=k->k<=13->c≠k:=fun k h1 h2=>by omega
 unfold z0u;rw[if_neg (e 1 kD kD),if_neg (e 2 kD kD),if_neg (e 3 kD kD),if_neg (e 4 kD kD),if_neg (e 5 kD kD),if_neg (e 6 kD kD),if_neg (e 7 kD kD),if_neg (e 8 kD kD),if_neg (e 9 kD kD),if_neg (e 10 kD kD),if_neg (e 11 kD kD),if_neg (e 12 kD kD),if_neg (e 13 kD kD)]
theorem zQl(a b:Int):isV 15 a b=(decide (a=b)):=by simp only[isV,reduceIte,Int.reduceEq]
theorem zQk(a b:Int):isV 16 a b=(!decide (a=b)):=by simp only[isV,reduceIte,Int.reduceEq]
theorem zQj(a b:Int):isV 17 a b=(decide (uns b<uns a)):=by simp only[isV,reduceIte,Int.reduceEq]
theorem zQi(a b:Int):isV 18 a b=(decide (uns b<=uns a)):=by simp only[isV,reduceIte,Int.reduceEq]
theorem zL8(a b:Int):isV 19 a b=(decide (uns a<uns b)):=by simp only[isV,reduceIte,Int.reduceEq]
theorem zL7(a b:Int):isV 20 a b=(decide (uns a<=uns b)):=by simp only[isV,reduceIte,Int.reduceEq]
theorem zQh(a b:Int):isV 21 a b=(decide (b<a)):=by simp only[isV,reduceIte,Int.reduceEq]
theorem zQg(a b:Int):isV 22 a b=(decide (b<=a)):=by simp only[isV,reduceIte,Int.reduceEq]
theorem zL6(a b:Int):isV 23 a b=(decide (a<b)):=by simp only[isV,reduceIte,Int.reduceEq]
theorem zL5(a b:Int):isV 24 a b=(decide (a<=b)):=by simp only[isV,reduceIte,Int.reduceEq]
theorem isV_no{c:Int}(a b:Int)(h:c<15\/24<c):isV c a b=false:=by
 have e: ∀k:Int,15<=k->k<=24->c≠k:=fun k h1 h2=>by omega
 unfold isV;rw[if_neg (e 15 kD kD),if_neg (e 16 kD kD),if_neg (e 17 kD kD),if_neg (e 18 kD kD),if_neg (e 19 kD kD),if_neg (e 20 kD kD),if_neg (e 21 kD kD),if_neg (e 22 kD kD),if_neg (e 23 kD kD),if_neg (e 24 kD kD)]
theorem shr_u(a b:Int):wrap64 (IntKind.u64.wrap a/2^(b%64).toNat)=wrap64 ((uns a/2^sixBits b:Nat):Int):=by
 rw[z1j,Int.natCast_ediv,Int.natCast_pow];rfl
def hi(x j:Nat):Nat:=x/2^j
def lo(x j:Nat):Nat:=x%2^j
def sh(a:Int)(j:Nat):Int:=a/2^j
def ones(j:Nat):Nat:=2^j-1
theorem zO7{j:Nat}(h:j<=63):ones j<=9223372036854775807:=by
 unfold ones;have:=Nat.pow_le_pow_right (n:=2) (i:=j) (j:=63) kD h;omega
def z5t(n:Int):Int:=(ones (lenV n.toNat):Int)
theorem q5y(m:Nat)(hl:lenV m<=63):wrap64 (IntKind.u64.wrap (IntKind.u64.wrap (2^lenV m)-1))=z5t (m:Int):=by
 have e:((2:Int)^lenV m)=((2^lenV m:Nat):Int):=by rw[Int.natCast_pow];rfl
 have h1:=Nat.pow_le_pow_right (n:=2) (i:=lenV m) (j:=63) kD hl;have h2:=Nat.two_pow_pos (lenV m);unfold z5t ones;rw[Int.toNat_natCast,e,IntKind.wrap_u64,IntKind.wrap_u64];unfold wrap64;omega
end
section
open Go.ChangeShapes Go.WideShapes Go.ChangeAt Go.RowKit
theorem z4f{a b:Int}(h:a=b):Ending.returned (A B a)= rT (A B b):=by rw[h]
theorem z3i(c:Int)(w:World):
  zS 139 #[A B c] w (.bool (decide (15<=c)&&decide (c<=24))):=by
 by_cases h1:15<=c
 ·go_enter Tryz.func139,Tryz.ntmps139
  go_wp2;go_ret;exact⟨z1a (by simp[h1]),rfl⟩
 have h2:decide (15<=c)=false:=by simpa using h1
 rw[h2,Bool.false_and];go_enter Tryz.func139,Tryz.ntmps139;go_wp2;go_ret;exact⟨rfl,rfl⟩
theorem does_1(a b:Int)(w:World):zS 115 #[A B 1,A B a,A B b] w (A B (z0u 1 a b)):=by
 rw[zP3];go_enter Tryz.func115,Tryz.ntmps115;go_wp2;go_ret;exact⟨z4f rfl,rfl⟩
theorem does_2(a b:Int)(w:World):zS 115 #[A B 2,A B a,A B b] w (A B (z0u 2 a b)):=by
 rw[zP2];go_enter Tryz.func115,Tryz.ntmps115;go_wp2;go_ret;exact⟨z4f rfl,rfl⟩
theorem does_3(a b:Int)(w:World):zS 115 #[A B 3,A B a,A B b] w (A B (z0u 3 a b)):=by
 rw[zP1];go_enter Tryz.func115,Tryz.ntmps115;go_wp2;go_ret;exact⟨z4f rfl,rfl⟩
theorem does_4(a b:Int)(w:World):zS 115 #[A B 4,A B a,A B b] w (A B (z0u 4 a b)):=by
 rw[zP0];go_enter Tryz.func115,Tryz.ntmps115;go_wp2;go_ret;exact⟨z4f rfl,rfl⟩
theorem q67(a b:Int)(w:World):zS 115 #[A B 13,A B a,A B b] w (A B (z0u 13 a b)):=by
 rw[zJ6];go_enter Tryz.func115,Tryz.ntmps115;go_wp2;go_ret;exact⟨z4f rfl,rfl⟩
theorem does_7(a b:Int)(w:World):zS 115 #[A B 7,A B a,A B b] w (A B (z0u 7 a b)):=by
 rw[zJ3];go_enter Tryz.func115,Tryz.ntmps115;go_wp2;go_ret;exact⟨z4f (zC2 a b),rfl⟩
theorem does_8(a b:Int)(w:World):zS 115 #[A B 8,A B a,A B b] w (A B (z0u 8 a b)):=by
 rw[zOx];go_enter Tryz.func115,Tryz.ntmps115;go_wp2;go_ret;exact⟨z4f (zPd a b),rfl⟩
theorem does_9(a b:Int)(w:World):zS 115 #[A B 9,A B a,A B b] w (A B (z0u 9 a b)):=by
 rw[zOw];go_enter Tryz.func115,Tryz.ntmps115;go_wp2;go_ret;exact⟨z4f (zMi a b),rfl⟩
theorem q6a(a b:Int)(w:World):zS 115 #[A B 10,A B a,A B b] w (A B (z0u 10 a b)):=by
 rw[zJ7];have e:=zUk b;have h0:0<=b%64:=Int.emod_nonneg _ kD;have h1:b%64<64:=Int.emod_lt_of_pos _ kD;go_enter Tryz.func115,Tryz.ntmps115;go_wp2;go_ret;exact⟨z4f rfl,rfl⟩
theorem q69(a b:Int)(w:World):zS 115 #[A B 11,A B a,A B b] w (A B (z0u 11 a b)):=by
 rw[z8n];have e:=zUk b;have h0:0<=b%64:=Int.emod_nonneg _ kD;have h1:b%64<64:=Int.emod_lt_of_pos _ kD;go_enter Tryz.func115,Tryz.ntmps115;go_wp2;go_ret;exact⟨z4f (shr_u a b),rfl⟩
theorem q68(a b:Int)(w:World):zS 115 #[A B 12,A B a,A B b] w (A B (z0u 12 a b)):=by
 rw[zA6];have e:=zUk b;have h0:0<=b%64:=Int.emod_nonneg _ kD;have h1:b%64<64:=Int.emod_lt_of_pos _ kD;go_enter Tryz.func115,Tryz.ntmps115;go_wp2;go_ret;exact⟨z4f rfl,rfl⟩
theorem does_5(a b:Int)(h0: -9223372036854775808<=b)(h1:b<=9223372036854775807)(w:World):zS 115 #[A B 5,A B a,A B b] w (A B (z0u 5 a b)):=by
 by_cases hb:b=0
 ·subst hb
  rw[zJ5];go_enter Tryz.func115,Tryz.ntmps115;go_wp2;go_ret;exact⟨rfl,rfl⟩
 rw[zOz a hb];have ha:=z1j a;have hu:=z1j b;have l1:=zJp a;have l2:=zJp b;have hz:uns b≠0:=fun e=>hb ((zPq h0 h1).1 e);generalize uns a=X at ha l1⊢;generalize uns b=Y at hu l2 hz⊢;go_enter Tryz.func115,Tryz.ntmps115;go_wp2;go_ret;exact⟨z4f (by rw[q07,Int.natCast_ediv]),rfl⟩
theorem does_6(a b:Int)(h0: -9223372036854775808<=b)(h1:b<=9223372036854775807)(w:World):zS 115 #[A B 6,A B a,A B b] w (A B (z0u 6 a b)):=by
 by_cases hb:b=0
 ·subst hb
  rw[zJ4];go_enter Tryz.func115,Tryz.ntmps115;go_wp2;go_ret;exact⟨rfl,rfl⟩
 rw[zOy a hb];have ha:=z1j a;have hu:=z1j b;have l1:=zJp a;have l2:=zJp b;have hz:uns b≠0:=fun e=>hb ((zPq h0 h1).1 e);generalize uns a=X at ha l1⊢;generalize uns b=Y at hu l2 hz⊢;go_enter Tryz.func115,Tryz.ntmps115;go_wp2;go_ret;exact⟨z4f (by rw[Int.natCast_emod]),rfl⟩
theorem q66(c a b:Int)(hc:c<1\/13<c)(w:World):zS 115 #[A B c,A B a,A B b] w (A B (z0u c a b)):=by
 rw[q2u a b hc];go_enter Tryz.func115,Tryz.ntmps115;go_wp2;go_ret;exact⟨rfl,rfl⟩
theorem is_15(a b:Int)(w:World):zS 187 #[A B 15,A B a,A B b] w (.bool (isV 15 a b)):=by
 rw[zQl];have ha:=z1j a;have hb:=z1j b;go_enter Tryz.func187,Tryz.ntmps187;go_wp2;go_ret;refine⟨z1a ?_,rfl⟩;rfl
theorem is_16(a b:Int)(w:World):zS 187 #[A B 16,A B a,A B b] w (.bool (isV 16 a b)):=by
 rw[zQk];have ha:=z1j a;have hb:=z1j b;go_enter Tryz.func187,Tryz.ntmps187;go_wp2;go_ret;refine⟨z1a ?_,rfl⟩;rfl
theorem is_17(a b:Int)(w:World):zS 187 #[A B 17,A B a,A B b] w (.bool (isV 17 a b)):=by
 rw[zQj];have ha:=z1j a;have hb:=z1j b;go_enter Tryz.func187,Tryz.ntmps187;go_wp2;go_ret;refine⟨z1a ?_,rfl⟩;rfl
theorem is_18(a b:Int)(w:World):zS 187 #[A B 18,A B a,A B b] w (.bool (isV 18 a b)):=by
 rw[zQi];have ha:=z1j a;have hb:=z1j b;go_enter Tryz.func187,Tryz.ntmps187;go_wp2;go_ret;refine⟨z1a ?_,rfl⟩;rfl
theorem is_19(a b:Int)(w:World):zS 187 #[A B 19,A B a,A B b] w (.bool (isV 19 a b)):=by
 rw[zL8];have ha:=z1j a;have hb:=z1j b;go_enter Tryz.func187,Tryz.ntmps187;go_wp2;go_ret;refine⟨z1a ?_,rfl⟩;rfl
theorem is_20(a b:Int)(w:World):zS 187 #[A B 20,A B a,A B b] w (.bool (isV 20 a b)):=by
 rw[zL7];have ha:=z1j a;have hb:=z1j b;go_enter Tryz.func187,Tryz.ntmps187;go_wp2;go_ret;refine⟨z1a ?_,rfl⟩;rfl
theorem is_21(a b:Int)(w:World):zS 187 #[A B 21,A B a,A B b] w (.bool (isV 21 a b)):=by
 rw[zQh];have ha:=z1j a;have hb:=z1j b;go_enter Tryz.func187,Tryz.ntmps187;go_wp2;go_ret;refine⟨z1a ?_,rfl⟩;rfl
theorem is_22(a b:Int)(w:World):zS 187 #[A B 22,A B a,A B b] w (.bool (isV 22 a b)):=by
 rw[zQg];have ha:=z1j a;have hb:=z1j b;go_enter Tryz.func187,Tryz.ntmps187;go_wp2;go_ret;refine⟨z1a ?_,rfl⟩;rfl
theorem is_23(a b:Int)(w:World):zS 187 #[A B 23,A B a,A B b] w (.bool (isV 23 a b)):=by
 rw[zL6];have ha:=z1j a;have hb:=z1j b;go_enter Tryz.func187,Tryz.ntmps187;go_wp2;go_ret;refine⟨z1a ?_,rfl⟩;rfl
theorem is_24(a b:Int)(w:World):zS 187 #[A B 24,A B a,A B b] w (.bool (isV 24 a b)):=by
 rw[zL5];have ha:=z1j a;have hb:=z1j b;go_enter Tryz.func187,Tryz.ntmps187;go_wp2;go_ret;refine⟨z1a ?_,rfl⟩;rfl
theorem is_no(c a b:Int)(hc:c<15\/24<c)(w:World):zS 187 #[A B c,A B a,A B b] w (.bool (isV c a b)):=by
 rw[isV_no a b hc];go_enter Tryz.func187,Tryz.ntmps187;go_wp2;go_ret;exact⟨rfl,rfl⟩
theorem z2p(c a b:Int)(k0: -9223372036854775808<=b)(k1:b<=9223372036854775807)(w:World):zS 115 #[A B c,A B a,A B b] w (A B (z0u c a b)):=by
 by_cases hc:c<1\/13<c
 ·exact q66 c a b hc w
 have h:c=1\/c=2\/c=3\/c=4\/c=5\/c=6\/c=7\/c=8\/c=9\/c=10\/c=11\/c=12\/c=13:=kO;rcases h with rfl|rfl|rfl|rfl|rfl|rfl|rfl|rfl|rfl|rfl|rfl|rfl|rfl
 ·exact does_1 a b w
 ·exact does_2 a b w
 ·exact does_3 a b w
 ·exact does_4 a b w
 ·exact does_5 a b k0 k1 w
 ·exact does_6 a b k0 k1 w
 ·exact does_7 a b w
 ·exact does_8 a b w
 ·exact does_9 a b w
 ·exact q6a a b w
 ·exact q69 a b w
 ·exact q68 a b w
 exact q67 a b w
theorem zL4(c a b:Int)(w:World):zS 187 #[A B c,A B a,A B b] w (.bool (isV c a b)):=by
 by_cases hc:c<15\/24<c
 ·exact is_no c a b hc w
 have h:c=15\/c=16\/c=17\/c=18\/c=19\/c=20\/c=21\/c=22\/c=23\/c=24:=kO;rcases h with rfl|rfl|rfl|rfl|rfl|rfl|rfl|rfl|rfl|rfl
 ·exact is_15 a b w
 ·exact is_16 a b w
 ·exact is_17 a b w
 ·exact is_18 a b w
 ·exact is_19 a b w
 ·exact is_20 a b w
 ·exact is_21 a b w
 ·exact is_22 a b w
 ·exact is_23 a b w
 exact is_24 a b w
theorem zQu(n:Int)(h0: -9223372036854775808<=n)(h1:n<=9223372036854775807)(w:World):zS 116 #[A B n] w (A B (z5t n)):=by
 by_cases hn:n<=0
 ·have hd:z5t n=0:=by
   unfold z5t;rw[show n.toNat=0 by omega];rfl
  rw[hd];go_enter Tryz.func116,Tryz.ntmps116;go_wp2;go_ret;exact⟨rfl,rfl⟩
 obtain⟨m,rfl⟩: ∃m:Nat,n=(m:Int):=⟨n.toNat,by omega⟩;have hl:lenV m<=63:=zOe (Nat.lt_of_lt_of_eq (show m<9223372036854775808 by omega) kD);go_enter Tryz.func116,Tryz.ntmps116;go_wp2_with(go_at_call 125;refine(len64 _ _ kO).mono ?_;rintro e w' ⟨rfl,rfl⟩);go_ret;exact⟨z4f (q5y m hl),rfl⟩
structure Val where
 k:Int
 n:Int
 c:Int
def Val.v(x:Val):Value:= .agg #[A B x.k,A B x.n,A B x.c]
def z3a(x:Val):Int:=if x.k=0 then 8 else if x.k=1 then 0 else 1
def numF(n:Int):Val:=⟨1,n,0⟩
def zEg(n:Int):Val:=if n<0\/4<=n then⟨1,0,0⟩else⟨4,0,n⟩
def z3s(code:Int)(a b:Val):Val×Int:=
 if b.k=0\/(a.k=0/\code≠1)then(⟨0,0,0⟩,8)
 else if code=1 then(b,0)
 else if b.k=1/\(a.k=1\/code=2\/code=3)then(⟨a.k,z0u code a.n b.n,a.c⟩,0)
 else if a.k=1/\code=2 then(⟨b.k,z0u code a.n b.n,b.c⟩,0)
 else(⟨0,0,0⟩,1)
def z68(x:Val)(off:Int):Int:=if x.k=3 then wrap64 (wrap64 (x.n+off)+16)else wrap64 (x.n+off)
def z3u(x:Val):Int:=if x.k=2 then 8 else if x.k=3 then 16 else 4
def z1e(x:Val)(off:Int):Int×Int:=
 if x.k=0 then(0,8)else if x.k=1 then(0,1)else if z68 x off<0\/z3u x<=z68 x off then(0,2)else(z68 x off,0)
theorem zC8{w w1:World}{t:TypeId}(h:Below (w.alloc (cT #[A B 0,A B 0,A B 0] t)).heap.size (w.alloc (cT #[A B 0,A B 0,A B 0] t)) w1):
  w1.cell? ⟨w.heap.size,0,none⟩=some (A B 0)/\w1.cell? ⟨w.heap.size,1,none⟩=some (A B 0)/\w1.cell? ⟨w.heap.size,2,none⟩=some (A B 0)/\w1.frozen? ⟨w.heap.size,0,none⟩=false/\w1.frozen? ⟨w.heap.size,1,none⟩=false/\w1.frozen? ⟨w.heap.size,2,none⟩=false/\w.heap.size<w1.heap.size:=by
 have e:w1.heap[w.heap.size]?=some (cT #[A B 0,A B 0,A B 0] t (0,0)):=by
  rw[h.block w.heap.size kS];show(w.heap.push _)[w.heap.size]?=_;simp
 have hs:=h.size;simp at hs;exact⟨by simp[World.cell?,e],by simp[World.cell?,e],by simp[World.cell?,e],by simp[World.frozen?,e],by simp[World.frozen?,e],by simp[World.frozen?,e],by omega⟩
theorem z8p{w w1:World}{o:Obj}(h:Below (w.alloc o).heap.size (w.alloc o) w1):Below w.heap.size w w1:=((bF _ _).alloc (Nat.le_refl _) _).trans (h.mono kS)
theorem z8h(n:Int)(w:World):Calls tP 189 #[A B n] w fun e w'=>e= rT (numF n).v/\Below w.heap.size w w':=by
 go_enter Tryz.func189,Tryz.ntmps189;go_wp2;exact bodyPost_ret (v:=(numF n).v) (by simp[results,Tryz.results189,go_sem,numF,Val.v]) rfl ⟨rfl,(bF _ _).alloc (Nat.le_refl _) _⟩
theorem zHp(k n c:Int)(w:World):zR 118 #[.agg #[A B k,A B n,A B c]] w (A B (z3a ⟨k,n,c⟩)):=by
 by_cases h0:k=0
 ·have x0:(k==0)=true:=by simpa using h0
  have HV:Hid (z3a ⟨k,n,c⟩=8):=if_pos h0;clear h0;go_enter Tryz.func118,Tryz.ntmps118;go_wp2;go_ret;exact⟨by rw[HV.out];rfl,(bF _ _).alloc (Nat.le_refl _) _⟩
 have x0:(k==0)=false:=by simpa using h0
 by_cases h1:k=1
 ·have x1:(k==1)=true:=by simpa using h1
  have HV:Hid (z3a ⟨k,n,c⟩=0):=by
   show z3a ⟨k,n,c⟩=0;unfold z3a;rw[if_neg h0,if_pos h1]
  clear h0 h1;go_enter Tryz.func118,Tryz.ntmps118;go_wp2;go_ret;exact⟨by rw[HV.out];rfl,(bF _ _).alloc (Nat.le_refl _) _⟩
 have x1:(k==1)=false:=by simpa using h1
 have HV:Hid (z3a ⟨k,n,c⟩=1):=by
  show z3a ⟨k,n,c⟩=1;unfold z3a;rw[if_neg h0,if_neg h1]
 clear h0 h1;go_enter Tryz.func118,Tryz.ntmps118;go_wp2;go_ret;exact⟨by rw[HV.out];rfl,(bF _ _).alloc (Nat.le_refl _) _⟩
theorem q49(n:Int)(w:World):(∀(x0:decide (n<0)=true),zR 190 #[A B n] w (.agg #[A B 1,A B 0,A B 0]))/\(∀(x0:decide (n<0)=false)(x1:decide (4<=n)=true),zR 190 #[A B n] w (.agg #[A B 1,A B 0,A B 0])):=by
 refine⟨?_,?_⟩;intro x0;rotate_left;intro x0 x1;rotate_left
 all_goals
  go_enter Tryz.func190,Tryz.ntmps190
  go_wp2_with(first
   |(go_at_call 189;refine(z8h 0 _).mono ?_;rintro e w1 ⟨rfl,hb1⟩;simp only[Val.v,numF];obtain⟨q0,q1,q2,z0,z1,z2,hl⟩:=zC8 hb1)
   |go_in)
  exact bodyPost_ret (v:= .agg #[A B 1,A B 0,A B 0]) (by simp[results,Tryz.results190,go_sem,q0,q1,q2]) rfl ⟨rfl,(((z8p hb1).setCell (Nat.le_refl _) _).setCell (Nat.le_refl _) _).setCell (Nat.le_refl _) _⟩
def zY3:=fun n w=>(@q49 n w).1
def zTy:=fun n w=>(@q49 n w).2
theorem q2n(n:Int)(w:World)(x0:decide (n<0)=false)(x1:decide (4<=n)=false):zR 190 #[A B n] w (.agg #[A B 4,A B 0,A B n]):=by
 go_enter Tryz.func190,Tryz.ntmps190;go_wp2;exact bodyPost_ret (v:= .agg #[A B 4,A B 0,A B n]) (by simp[results,Tryz.results190,go_sem]) rfl ⟨rfl,(bF _ _).alloc (Nat.le_refl _) _⟩
section
variable (code ak an ac bk bn bc:Int) (w:World)
theorem zXa(x0:(bk==0)=true):zR 192 #[A B code,.agg #[A B ak,A B an,A B ac],.agg #[A B bk,A B bn,A B bc]] w (.tuple #[.agg #[A B 0,A B 0,A B 0],A B 8]):=by
 go_enter Tryz.func192,Tryz.ntmps192;go_wp2;exact bodyPost_ret (v:= .tuple #[.agg #[A B 0,A B 0,A B 0],A B 8]) (by simp[results,Tryz.results192,go_sem]) rfl ⟨rfl,((((bF _ _).alloc (Nat.le_refl _) _).alloc kS _).alloc kZ _)⟩
theorem zXc(x0:(bk==0)=false)(x1:(ak==0)=true)(x2:(code !=1)=true):zR 192 #[A B code,.agg #[A B ak,A B an,A B ac],.agg #[A B bk,A B bn,A B bc]] w (.tuple #[.agg #[A B 0,A B 0,A B 0],A B 8]):=by
 go_enter Tryz.func192,Tryz.ntmps192;go_wp2;exact bodyPost_ret (v:= .tuple #[.agg #[A B 0,A B 0,A B 0],A B 8]) (by simp[results,Tryz.results192,go_sem]) rfl ⟨rfl,((((bF _ _).alloc (Nat.le_refl _) _).alloc kS _).alloc kZ _)⟩
theorem zTa(x0:(bk==0)=false)(x1:(ak==0)=true)(x2:(code==1)=true)(x3:(code !=1)=false):zR 192 #[A B code,.agg #[A B ak,A B an,A B ac],.agg #[A B bk,A B bn,A B bc]] w (.tuple #[.agg #[A B bk,A B bn,A B bc],A B 0]):=by
 go_enter Tryz.func192,Tryz.ntmps192;go_wp2;exact bodyPost_ret (v:= .tuple #[.agg #[A B bk,A B bn,A B bc],A B 0]) (by simp[results,Tryz.results192,go_sem]) rfl ⟨rfl,((((bF _ _).alloc (Nat.le_refl _) _).alloc kS _).alloc kZ _)⟩
theorem zT9(x0:(bk==0)=false)(x1:(ak==0)=false)(x2:(code==1)=true):zR 192 #[A B code,.agg #[A B ak,A B an,A B ac],.agg #[A B bk,A B bn,A B bc]] w (.tuple #[.agg #[A B bk,A B bn,A B bc],A B 0]):=by
 go_enter Tryz.func192,Tryz.ntmps192;go_wp2;exact bodyPost_ret (v:= .tuple #[.agg #[A B bk,A B bn,A B bc],A B 0]) (by simp[results,Tryz.results192,go_sem]) rfl ⟨rfl,((((bF _ _).alloc (Nat.le_refl _) _).alloc kS _).alloc kZ _)⟩
theorem zT7(k0: -9223372036854775808<=bn)(k1:bn<=9223372036854775807)(x0:(bk==0)=false)(x1:(ak==0)=false)(x2:(code==1)=false)(x3:(bk==1)=true)(x4:(ak==1)=true):zR 192 #[A B code,.agg #[A B ak,A B an,A B ac],.agg #[A B bk,A B bn,A B bc]] w (.tuple #[.agg #[A B ak,A B (z0u code an bn),A B ac],A B 0]):=by
 go_enter Tryz.func192,Tryz.ntmps192
 go_wp2_with(first
  |(go_at_call 115;refine(z2p _ _ _ k0 k1 _).mono ?_;rintro e w1 ⟨rfl,rfl⟩)
  |go_in)
 exact bodyPost_ret (v:= .tuple #[.agg #[A B ak,A B (z0u code an bn),A B ac],A B 0]) (by simp[results,Tryz.results192,go_sem]) rfl ⟨rfl,((((bF _ _).alloc (Nat.le_refl _) _).alloc kS _).alloc kZ _)⟩
theorem zT6(k0: -9223372036854775808<=bn)(k1:bn<=9223372036854775807)(x0:(bk==0)=false)(x1:(ak==0)=false)(x2:(code==1)=false)(x3:(bk==1)=true)(x4:(ak==1)=false)(x5:(code==2)=true):zR 192 #[A B code,.agg #[A B ak,A B an,A B ac],.agg #[A B bk,A B bn,A B bc]] w (.tuple #[.agg #[A B ak,A B (z0u code an bn),A B ac],A B 0]):=by
 go_enter Tryz.func192,Tryz.ntmps192
 go_wp2_with(first
  |(go_at_call 115;refine(z2p _ _ _ k0 k1 _).mono ?_;rintro e w1 ⟨rfl,rfl⟩)
  |go_in)
 exact bodyPost_ret (v:= .tuple #[.agg #[A B ak,A B (z0u code an bn),A B ac],A B 0]) (by simp[results,Tryz.results192,go_sem]) rfl ⟨rfl,((((bF _ _).alloc (Nat.le_refl _) _).alloc kS _).alloc kZ _)⟩
theorem zT5(k0: -9223372036854775808<=bn)(k1:bn<=9223372036854775807)(x0:(bk==0)=false)(x1:(ak==0)=false)(x2:(code==1)=false)(x3:(bk==1)=true)(x4:(ak==1)=false)(x5:(code==2)=false)(x6:(code==3)=true):zR 192 #[A B code,.agg #[A B ak,A B an,A B ac],.agg #[A B bk,A B bn,A B bc]] w (.tuple #[.agg #[A B ak,A B (z0u code an bn),A B ac],A B 0]):=by
 go_enter Tryz.func192,Tryz.ntmps192
 go_wp2_with(first
  |(go_at_call 115;refine(z2p _ _ _ k0 k1 _).mono ?_;rintro e w1 ⟨rfl,rfl⟩)
  |go_in)
 exact bodyPost_ret (v:= .tuple #[.agg #[A B ak,A B (z0u code an bn),A B ac],A B 0]) (by simp[results,Tryz.results192,go_sem]) rfl ⟨rfl,((((bF _ _).alloc (Nat.le_refl _) _).alloc kS _).alloc kZ _)⟩
theorem zX8(x0:(bk==0)=false)(x1:(ak==0)=false)(x2:(code==1)=false)(x3:(bk==1)=true)(x4:(ak==1)=false)(x5:(code==2)=false)(x6:(code==3)=false):zR 192 #[A B code,.agg #[A B ak,A B an,A B ac],.agg #[A B bk,A B bn,A B bc]] w (.tuple #[.agg #[A B 0,A B 0,A B 0],A B 1]):=by
 go_enter Tryz.func192,Tryz.ntmps192;go_wp2;exact bodyPost_ret (v:= .tuple #[.agg #[A B 0,A B 0,A B 0],A B 1]) (by simp[results,Tryz.results192,go_sem]) rfl ⟨rfl,((((bF _ _).alloc (Nat.le_refl _) _).alloc kS _).alloc kZ _)⟩
theorem zT8(k0: -9223372036854775808<=bn)(k1:bn<=9223372036854775807)(x0:(bk==0)=false)(x1:(ak==0)=false)(x2:(code==1)=false)(x3:(bk==1)=false)(x4:(ak==1)=true)(x5:(code==2)=true):zR 192 #[A B code,.agg #[A B ak,A B an,A B ac],.agg #[A B bk,A B bn,A B bc]] w (.tuple #[.agg #[A B bk,A B (z0u code an bn),A B bc],A B 0]):=by
 go_enter Tryz.func192,Tryz.ntmps192
 go_wp2_with(first
  |(go_at_call 115;refine(z2p _ _ _ k0 k1 _).mono ?_;rintro e w1 ⟨rfl,rfl⟩)
  |go_in)
 exact bodyPost_ret (v:= .tuple #[.agg #[A B bk,A B (z0u code an bn),A B bc],A B 0]) (by simp[results,Tryz.results192,go_sem]) rfl ⟨rfl,((((bF _ _).alloc (Nat.le_refl _) _).alloc kS _).alloc kZ _)⟩
theorem zX9(x0:(bk==0)=false)(x1:(ak==0)=false)(x2:(code==1)=false)(x3:(bk==1)=false)(x4:(ak==1)=true)(x5:(code==2)=false):zR 192 #[A B code,.agg #[A B ak,A B an,A B ac],.agg #[A B bk,A B bn,A B bc]] w (.tuple #[.agg #[A B 0,A B 0,A B 0],A B 1]):=by
 go_enter Tryz.func192,Tryz.ntmps192;go_wp2;exact bodyPost_ret (v:= .tuple #[.agg #[A B 0,A B 0,A B 0],A B 1]) (by simp[results,Tryz.results192,go_sem]) rfl ⟨rfl,((((bF _ _).alloc (Nat.le_refl _) _).alloc kS _).alloc kZ _)⟩
theorem zX7(x0:(bk==0)=false)(x1:(ak==0)=false)(x2:(code==1)=false)(x3:(bk==1)=false)(x4:(ak==1)=false):zR 192 #[A B code,.agg #[A B ak,A B an,A B ac],.agg #[A B bk,A B bn,A B bc]] w (.tuple #[.agg #[A B 0,A B 0,A B 0],A B 1]):=by
 go_enter Tryz.func192,Tryz.ntmps192;go_wp2;exact bodyPost_ret (v:= .tuple #[.agg #[A B 0,A B 0,A B 0],A B 1]) (by simp[results,Tryz.results192,go_sem]) rfl ⟨rfl,((((bF _ _).alloc (Nat.le_refl _) _).alloc kS _).alloc kZ _)⟩
end
section
variable (k n c off:Int) (w:World)
theorem zSn(x0:(k==0)=true):zR 188 #[.agg #[A B k,A B n,A B c],A B off] w (.tuple #[A B 0,A B 8]):=by
 go_enter Tryz.func188,Tryz.ntmps188;go_wp2;go_ret2
 exact⟨rfl,(bF _ _).alloc (Nat.le_refl _) _⟩
theorem zWf(x0:(k==0)=false)(x1:(k==1)=true):zR 188 #[.agg #[A B k,A B n,A B c],A B off] w (.tuple #[A B 0,A B 1]):=by
 go_enter Tryz.func188,Tryz.ntmps188;go_wp2;go_ret2
 exact⟨rfl,(bF _ _).alloc (Nat.le_refl _) _⟩
theorem zF4(x0:(k==0)=false)(x1:(k==1)=false)(x2:(k==2)=true)(x3:(decide (wrap64 (n+off)<0))=true):zR 188 #[.agg #[A B k,A B n,A B c],A B off] w (.tuple #[A B 0,A B 2]):=by
 go_enter Tryz.func188,Tryz.ntmps188;go_wp2;go_ret2
 exact⟨rfl,(bF _ _).alloc (Nat.le_refl _) _⟩
theorem zDc(x0:(k==0)=false)(x1:(k==1)=false)(x2:(k==2)=true)(x3:(decide (wrap64 (n+off)<0))=false)(x4:(decide (8<=wrap64 (n+off)))=true):zR 188 #[.agg #[A B k,A B n,A B c],A B off] w (.tuple #[A B 0,A B 2]):=by
 go_enter Tryz.func188,Tryz.ntmps188;go_wp2;go_ret2
 exact⟨rfl,(bF _ _).alloc (Nat.le_refl _) _⟩
theorem zI8(x0:(k==0)=false)(x1:(k==1)=false)(x2:(k==2)=true)(x3:(decide (wrap64 (n+off)<0))=false)(x4:(decide (8<=wrap64 (n+off)))=false):zR 188 #[.agg #[A B k,A B n,A B c],A B off] w (.tuple #[A B (wrap64 (n+off)),A B 0]):=by
 go_enter Tryz.func188,Tryz.ntmps188;go_wp2;go_ret2
 exact⟨rfl,(bF _ _).alloc (Nat.le_refl _) _⟩
theorem zDd(x0:(k==0)=false)(x1:(k==1)=false)(x2:(k==2)=false)(x3:(k==3)=true)(x4:(decide (wrap64 (wrap64 (n+off)+16)<0))=true):zR 188 #[.agg #[A B k,A B n,A B c],A B off] w (.tuple #[A B 0,A B 2]):=by
 go_enter Tryz.func188,Tryz.ntmps188;go_wp2;go_ret2
 exact⟨rfl,(bF _ _).alloc (Nat.le_refl _) _⟩
theorem zC5(x0:(k==0)=false)(x1:(k==1)=false)(x2:(k==2)=false)(x3:(k==3)=true)(x4:(decide (wrap64 (wrap64 (n+off)+16)<0))=false)(x5:(decide (16<=wrap64 (wrap64 (n+off)+16)))=true):zR 188 #[.agg #[A B k,A B n,A B c],A B off] w (.tuple #[A B 0,A B 2]):=by
 go_enter Tryz.func188,Tryz.ntmps188;go_wp2;go_ret2
 exact⟨rfl,(bF _ _).alloc (Nat.le_refl _) _⟩
theorem zF5(x0:(k==0)=false)(x1:(k==1)=false)(x2:(k==2)=false)(x3:(k==3)=true)(x4:(decide (wrap64 (wrap64 (n+off)+16)<0))=false)(x5:(decide (16<=wrap64 (wrap64 (n+off)+16)))=false):zR 188 #[.agg #[A B k,A B n,A B c],A B off] w (.tuple #[A B (wrap64 (wrap64 (n+off)+16)),A B 0]):=by
 go_enter Tryz.func188,Tryz.ntmps188;go_wp2;go_ret2
 exact⟨rfl,(bF _ _).alloc (Nat.le_refl _) _⟩
theorem zF6(x0:(k==0)=false)(x1:(k==1)=false)(x2:(k==2)=false)(x3:(k==3)=false)(x4:(decide (wrap64 (n+off)<0))=true):zR 188 #[.agg #[A B k,A B n,A B c],A B off] w (.tuple #[A B 0,A B 2]):=by
 go_enter Tryz.func188,Tryz.ntmps188;go_wp2;go_ret2
 exact⟨rfl,(bF _ _).alloc (Nat.le_refl _) _⟩
theorem zDe(x0:(k==0)=false)(x1:(k==1)=false)(x2:(k==2)=false)(x3:(k==3)=false)(x4:(decide (wrap64 (n+off)<0))=false)(x5:(decide (4<=wrap64 (n+off)))=true):zR 188 #[.agg #[A B k,A B n,A B c],A B off] w (.tuple #[A B 0,A B 2]):=by
 go_enter Tryz.func188,Tryz.ntmps188;go_wp2;go_ret2
 exact⟨rfl,(bF _ _).alloc (Nat.le_refl _) _⟩
theorem zI9(x0:(k==0)=false)(x1:(k==1)=false)(x2:(k==2)=false)(x3:(k==3)=false)(x4:(decide (wrap64 (n+off)<0))=false)(x5:(decide (4<=wrap64 (n+off)))=false):zR 188 #[.agg #[A B k,A B n,A B c],A B off] w (.tuple #[A B (wrap64 (n+off)),A B 0]):=by
 go_enter Tryz.func188,Tryz.ntmps188;go_wp2;go_ret2
 exact⟨rfl,(bF _ _).alloc (Nat.le_refl _) _⟩
end
end
end Go.Proofs.YtkdflpplamebkaaGreatDoor
