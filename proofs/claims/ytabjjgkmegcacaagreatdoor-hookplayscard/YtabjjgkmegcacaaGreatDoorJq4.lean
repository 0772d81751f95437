/-
A part of the proof of HookPlays; its card says what is proved.
-/
import Derived.Test.YtabjjgkmegcacaaGreatDoorJq3
import Derived.StillTail
set_option maxHeartbeats 40000000
open Go.Value renaming int → A
open Go.IntKind renaming i64 → D
open Go.RowKit.Below renaming alloc → bA, setCell → bS, drew → bD, refl → bF
set_option maxRecDepth 1000000
set_option linter.defProp false
set_option linter.unusedVariables false
set_option linter.unusedSimpArgs false
open Go.Ending renaming returned → rT
open Go.Value renaming pointer → pT
open Go.Obj renaming cells → cT
open Go.Proofs.Tryz renaming prog → tP
open List renaming length_cons → lQ
namespace Go.Proofs.YtabjjgkmegcacaaGreatDoor
section
open Go.ChangeShapes Go.WideShapes Go.ChangeAt Go.RowKit
theorem ref_1(a b:Int)(h0: -9223372036854775808<=b)(h1:b<=9223372036854775807)(w:World):zS 100 #[A D 1,A D a,A D b] w (A D (z0t 1 a b)):=by
 rw[zF6];have ha:=z07 a;have hb:=z07 b;have l1:=z1z a;have l2:=z1z b;generalize uns a=X at*;generalize uns b=Y at*;go_enter Tryz.func100,Tryz.ntmps100;go_wp2;go_loop [10,24] (fun p i=> ∃j:Nat,j<=Y%64/\i= .int .u64 j/\p= .int .u64 (pw j)) (fun _ i=>64-(intOf i).toNat)
 case atStart=>exact⟨0,Nat.zero_le _,rfl,rfl⟩
 case round=>
  obtain⟨j,hj,rfl,rfl⟩:=hrel
  by_cases hlt:j<Y%64
  ·have hp:pw j*2<18446744073709551616:=z32 kO
   go_wp2;go_round
   case rel=>exact⟨j+1,by omega,by go_num,by rw[z4d (show j<63 by omega)];go_num⟩
   case measure=>simp[intOf];omega
  ·obtain rfl:j=Y%64:=by omega
   have hp:=z6x (show Y%64<64 by omega);have hq:=z4e (show Y%64<64 by omega);clear hlt hj;go_wp2;go_ret;exact⟨z1q (r_mov h0 h1 hb),rfl⟩
theorem ref_2(a b:Int)(w:World):zS 100 #[A D 2,A D a,A D b] w (A D (z0t 2 a b)):=by
 rw[z79];have ha:=z07 a;have hb:=z07 b;have l1:=z1z a;have l2:=z1z b;generalize uns a=X at*;generalize uns b=Y at*;go_enter Tryz.func100,Tryz.ntmps100;go_wp2;go_loop [10,24] (fun p i=> ∃j:Nat,j<=Y%64/\i= .int .u64 j/\p= .int .u64 (pw j)) (fun _ i=>64-(intOf i).toNat)
 case atStart=>exact⟨0,Nat.zero_le _,rfl,rfl⟩
 case round=>
  obtain⟨j,hj,rfl,rfl⟩:=hrel
  by_cases hlt:j<Y%64
  ·have hp:pw j*2<18446744073709551616:=z32 kO
   go_wp2;go_round
   case rel=>exact⟨j+1,by omega,by go_num,by rw[z4d (show j<63 by omega)];go_num⟩
   case measure=>simp[intOf];omega
  ·obtain rfl:j=Y%64:=by omega
   have hp:=z6x (show Y%64<64 by omega);have hq:=z4e (show Y%64<64 by omega);clear hlt hj;go_wp2;go_ret;exact⟨z1q (r_add ha hb),rfl⟩
theorem ref_3(a b:Int)(w:World):zS 100 #[A D 3,A D a,A D b] w (A D (z0t 3 a b)):=by
 rw[zBg];have ha:=z07 a;have hb:=z07 b;have l1:=z1z a;have l2:=z1z b;generalize uns a=X at*;generalize uns b=Y at*;go_enter Tryz.func100,Tryz.ntmps100;go_wp2;go_loop [10,24] (fun p i=> ∃j:Nat,j<=Y%64/\i= .int .u64 j/\p= .int .u64 (pw j)) (fun _ i=>64-(intOf i).toNat)
 case atStart=>exact⟨0,Nat.zero_le _,rfl,rfl⟩
 case round=>
  obtain⟨j,hj,rfl,rfl⟩:=hrel
  by_cases hlt:j<Y%64
  ·have hp:pw j*2<18446744073709551616:=z32 kO
   go_wp2;go_round
   case rel=>exact⟨j+1,by omega,by go_num,by rw[z4d (show j<63 by omega)];go_num⟩
   case measure=>simp[intOf];omega
  ·obtain rfl:j=Y%64:=by omega
   have hp:=z6x (show Y%64<64 by omega);have hq:=z4e (show Y%64<64 by omega);clear hlt hj;go_wp2;go_ret;exact⟨z1q (r_sub ha hb),rfl⟩
theorem ref_4(a b:Int)(w:World):zS 100 #[A D 4,A D a,A D b] w (A D (z0t 4 a b)):=by
 rw[zF5];have ha:=z07 a;have hb:=z07 b;have l1:=z1z a;have l2:=z1z b;generalize uns a=X at*;generalize uns b=Y at*;go_enter Tryz.func100,Tryz.ntmps100;go_wp2;go_loop [10,24] (fun p i=> ∃j:Nat,j<=Y%64/\i= .int .u64 j/\p= .int .u64 (pw j)) (fun _ i=>64-(intOf i).toNat)
 case atStart=>exact⟨0,Nat.zero_le _,rfl,rfl⟩
 case round=>
  obtain⟨j,hj,rfl,rfl⟩:=hrel
  by_cases hlt:j<Y%64
  ·have hp:pw j*2<18446744073709551616:=z32 kO
   go_wp2;go_round
   case rel=>exact⟨j+1,by omega,by go_num,by rw[z4d (show j<63 by omega)];go_num⟩
   case measure=>simp[intOf];omega
  ·obtain rfl:j=Y%64:=by omega
   have hp:=z6x (show Y%64<64 by omega);have hq:=z4e (show Y%64<64 by omega);clear hlt hj;go_wp2;go_ret;exact⟨z1q (r_mul ha hb),rfl⟩
theorem ref_13(a b:Int)(w:World):zS 100 #[A D 13,A D a,A D b] w (A D (z0t 13 a b)):=by
 rw[zA0];have ha:=z07 a;have hb:=z07 b;have l1:=z1z a;have l2:=z1z b;generalize uns a=X at*;generalize uns b=Y at*;go_enter Tryz.func100,Tryz.ntmps100;go_wp2;go_loop [10,24] (fun p i=> ∃j:Nat,j<=Y%64/\i= .int .u64 j/\p= .int .u64 (pw j)) (fun _ i=>64-(intOf i).toNat)
 case atStart=>exact⟨0,Nat.zero_le _,rfl,rfl⟩
 case round=>
  obtain⟨j,hj,rfl,rfl⟩:=hrel
  by_cases hlt:j<Y%64
  ·have hp:pw j*2<18446744073709551616:=z32 kO
   go_wp2;go_round
   case rel=>exact⟨j+1,by omega,by go_num,by rw[z4d (show j<63 by omega)];go_num⟩
   case measure=>simp[intOf];omega
  ·obtain rfl:j=Y%64:=by omega
   have hp:=z6x (show Y%64<64 by omega);have hq:=z4e (show Y%64<64 by omega);clear hlt hj;go_wp2;go_ret;exact⟨z1q (r_neg ha),rfl⟩
theorem ref_10(a b:Int)(w:World):zS 100 #[A D 10,A D a,A D b] w (A D (z0t 10 a b)):=by
 have hs:Hid (uns b%64=sixBits b):=z6s b;rw[z49];have ha:=z07 a;have hb:=z07 b;have l1:=z1z a;have l2:=z1z b;generalize uns a=X at*;generalize uns b=Y at*;go_enter Tryz.func100,Tryz.ntmps100;go_wp2;go_loop [10,24] (fun p i=> ∃j:Nat,j<=Y%64/\i= .int .u64 j/\p= .int .u64 (pw j)) (fun _ i=>64-(intOf i).toNat)
 case atStart=>exact⟨0,Nat.zero_le _,rfl,rfl⟩
 case round=>
  obtain⟨j,hj,rfl,rfl⟩:=hrel
  by_cases hlt:j<Y%64
  ·have hp:pw j*2<18446744073709551616:=z32 kO
   go_wp2;go_round
   case rel=>exact⟨j+1,by omega,by go_num,by rw[z4d (show j<63 by omega)];go_num⟩
   case measure=>simp[intOf];omega
  ·obtain rfl:j=Y%64:=by omega
   have hp:=z6x (show Y%64<64 by omega);have hq:=z4e (show Y%64<64 by omega);clear hlt hj;go_wp2;go_ret;exact⟨z1q (r_lsh ha hs.out),rfl⟩
theorem ref_11(a b:Int)(w:World):zS 100 #[A D 11,A D a,A D b] w (A D (z0t 11 a b)):=by
 have hs:Hid (uns b%64=sixBits b):=z6s b;rw[z5e];have ha:=z07 a;have hb:=z07 b;have l1:=z1z a;have l2:=z1z b;generalize uns a=X at*;generalize uns b=Y at*;go_enter Tryz.func100,Tryz.ntmps100;go_wp2;go_loop [10,24] (fun p i=> ∃j:Nat,j<=Y%64/\i= .int .u64 j/\p= .int .u64 (pw j)) (fun _ i=>64-(intOf i).toNat)
 case atStart=>exact⟨0,Nat.zero_le _,rfl,rfl⟩
 case round=>
  obtain⟨j,hj,rfl,rfl⟩:=hrel
  by_cases hlt:j<Y%64
  ·have hp:pw j*2<18446744073709551616:=z32 kO
   go_wp2;go_round
   case rel=>exact⟨j+1,by omega,by go_num,by rw[z4d (show j<63 by omega)];go_num⟩
   case measure=>simp[intOf];omega
  ·obtain rfl:j=Y%64:=by omega
   have hp:=z6x (show Y%64<64 by omega);have hq:=z4e (show Y%64<64 by omega);clear hlt hj;go_wp2;go_ret;exact⟨z1q (r_rsh hs.out),rfl⟩
theorem ref_5z(a b:Int)(hb0:b=0)(w:World):zS 100 #[A D 5,A D a,A D b] w (A D (z0t 5 a b)):=by
 have hd:z0t 5 a b=0:=by subst hb0;exact z9z a
 rw[hd];have HZ:Hid (uns b=0):=by subst hb0;rfl
 clear hd hb0;have ha:=z07 a;have hb:=z07 b;have l1:=z1z a;have l2:=z1z b;generalize uns a=X at*;generalize uns b=Y at*;go_enter Tryz.func100,Tryz.ntmps100;go_wp2;go_loop [10,24] (fun p i=> ∃j:Nat,j<=Y%64/\i= .int .u64 j/\p= .int .u64 (pw j)) (fun _ i=>64-(intOf i).toNat)
 case atStart=>exact⟨0,Nat.zero_le _,rfl,rfl⟩
 case round=>
  obtain⟨j,hj,rfl,rfl⟩:=hrel
  by_cases hlt:j<Y%64
  ·have hp:pw j*2<18446744073709551616:=z32 kO
   go_wp2;go_round
   case rel=>exact⟨j+1,by omega,by go_num,by rw[z4d (show j<63 by omega)];go_num⟩
   case measure=>simp[intOf];omega
  ·obtain rfl:j=Y%64:=by omega
   have hp:=z6x (show Y%64<64 by omega);have hq:=z4e (show Y%64<64 by omega);clear hlt hj;have hz:=HZ.out;go_wp2;go_ret;exact⟨z1q rfl,rfl⟩
theorem ref_5(a b:Int)(h0: -9223372036854775808<=b)(h1:b<=9223372036854775807)(hb0:b≠0)(w:World):zS 100 #[A D 5,A D a,A D b] w (A D (z0t 5 a b)):=by
 rw[zF4 a hb0];have hz:uns b≠0:=fun e=>hb0 ((z9i h0 h1).1 e);have ha:=z07 a;have hb:=z07 b;have l1:=z1z a;have l2:=z1z b;generalize uns a=X at*;generalize uns b=Y at*;go_enter Tryz.func100,Tryz.ntmps100;go_wp2;go_loop [10,24] (fun p i=> ∃j:Nat,j<=Y%64/\i= .int .u64 j/\p= .int .u64 (pw j)) (fun _ i=>64-(intOf i).toNat)
 case atStart=>exact⟨0,Nat.zero_le _,rfl,rfl⟩
 case round=>
  obtain⟨j,hj,rfl,rfl⟩:=hrel
  by_cases hlt:j<Y%64
  ·have hp:pw j*2<18446744073709551616:=z32 kO
   go_wp2;go_round
   case rel=>exact⟨j+1,by omega,by go_num,by rw[z4d (show j<63 by omega)];go_num⟩
   case measure=>simp[intOf];omega
  ·obtain rfl:j=Y%64:=by omega
   have hp:=z6x (show Y%64<64 by omega);have hq:=z4e (show Y%64<64 by omega);clear hlt hj;go_wp2;go_ret;exact⟨z1q (z45 _),rfl⟩
theorem ref_6z(a b:Int)(h0: -9223372036854775808<=a)(h1:a<=9223372036854775807)(hb0:b=0)(w:World):zS 100 #[A D 6,A D a,A D b] w (A D (z0t 6 a b)):=by
 have hd:z0t 6 a b=a:=by subst hb0;exact z9y a
 rw[hd];have HZ:Hid (uns b=0):=by subst hb0;rfl
 clear hd hb0;have ha:=z07 a;have hb:=z07 b;have l1:=z1z a;have l2:=z1z b;generalize uns a=X at*;generalize uns b=Y at*;go_enter Tryz.func100,Tryz.ntmps100;go_wp2;go_loop [10,24] (fun p i=> ∃j:Nat,j<=Y%64/\i= .int .u64 j/\p= .int .u64 (pw j)) (fun _ i=>64-(intOf i).toNat)
 case atStart=>exact⟨0,Nat.zero_le _,rfl,rfl⟩
 case round=>
  obtain⟨j,hj,rfl,rfl⟩:=hrel
  by_cases hlt:j<Y%64
  ·have hp:pw j*2<18446744073709551616:=z32 kO
   go_wp2;go_round
   case rel=>exact⟨j+1,by omega,by go_num,by rw[z4d (show j<63 by omega)];go_num⟩
   case measure=>simp[intOf];omega
  ·obtain rfl:j=Y%64:=by omega
   have hp:=z6x (show Y%64<64 by omega);have hq:=z4e (show Y%64<64 by omega);clear hlt hj;have hz:=HZ.out;go_wp2;go_ret;exact⟨z1q (r_mov h0 h1 ha),rfl⟩
theorem z97:(∀(a b:Int)(h0: -9223372036854775808<=b)(h1:b<=9223372036854775807)(hb0:b≠0)(w:World),zS 100 #[A D 6,A D a,A D b] w (A D (z0t 6 a b)))/\(∀(c a b:Int)(hc:c<1\/13<c)(w:World),zS 100 #[A D c,A D a,A D b] w (A D (z0t c a b))):=by
 refine⟨?_,?_⟩;intro a b h0 h1 hb0 w;rw[zF3 a hb0];have hz:uns b≠0:=fun e=>hb0 ((z9i h0 h1).1 e);rotate_left;intro c a b hc w;rw[zLh a b hc];rotate_left
 all_goals
  have ha:=z07 a;have hb:=z07 b;have l1:=z1z a;have l2:=z1z b;generalize uns a=X at*;generalize uns b=Y at*
 all_goals
  go_enter Tryz.func100,Tryz.ntmps100;go_wp2;go_loop [10,24] (fun p i=> ∃j:Nat,j<=Y%64/\i= .int .u64 j/\p= .int .u64 (pw j)) (fun _ i=>64-(intOf i).toNat)
  case atStart=>exact⟨0,Nat.zero_le _,rfl,rfl⟩
  case round=>
   obtain⟨j,hj,rfl,rfl⟩:=hrel
   by_cases hlt:j<Y%64
   ·have hp:pw j*2<18446744073709551616:=z32 kO
    go_wp2;go_round
    case rel=>exact⟨j+1,by omega,by go_num,by rw[z4d (show j<63 by omega)];go_num⟩
    case measure=>simp[intOf];omega
   ·obtain rfl:j=Y%64:=by omega
    have hp:=z6x (show Y%64<64 by omega);have hq:=z4e (show Y%64<64 by omega);clear hlt hj;go_wp2;go_ret;exact⟨z1q rfl,rfl⟩
def ref_6:=z97.1
def ref_no:=z97.2
theorem ref_7(a b:Int)(w:World):zS 100 #[A D 7,A D a,A D b] w (A D (z0t 7 a b)):=by
 rw[zBf];have ha:=z07 a;have hb:=z07 b;have l1:=z1z a;have l2:=z1z b;generalize uns a=X at*;generalize uns b=Y at*;have hZ:X&&&Y<18446744073709551616:=Nat.and_lt_two_pow (n:=64) X l2;obtain⟨Z,hZe⟩: ∃Z,Hid (Z=X&&&Y):=⟨_,rfl⟩;rw[<-hZe.out]at hZ⊢;go_enter Tryz.func100,Tryz.ntmps100;go_wp2;go_loop [10,24] (fun p i=> ∃j:Nat,j<=Y%64/\i= .int .u64 j/\p= .int .u64 (pw j)) (fun _ i=>64-(intOf i).toNat)
 case atStart=>exact⟨0,Nat.zero_le _,rfl,rfl⟩
 case round=>
  obtain⟨j,hj,rfl,rfl⟩:=hrel
  by_cases hlt:j<Y%64
  ·have hp:pw j*2<18446744073709551616:=z32 kO
   go_wp2;go_round
   case rel=>exact⟨j+1,by omega,by go_num,by rw[z4d (show j<63 by omega)];go_num⟩
   case measure=>simp[intOf];omega
  ·obtain rfl:j=Y%64:=by omega
   have hp:=z6x (show Y%64<64 by omega);have hq:=z4e (show Y%64<64 by omega);clear hlt hj;go_wp2;go_loop [7,8,11,12,66] (fun x y z p i=> ∃j:Nat,j<=64/\i=A D j/\x= .int .u64 (hi X j)/\y= .int .u64 (hi Y j)/\p= .int .u64 (pw j)/\z= .int .u64 (lo Z j)) (fun _ _ _ _ i=>64-(intOf i).toNat)
   case atStart=>exact⟨0,Nat.zero_le _,rfl,by rw[z8s],by rw[z8s],rfl,by rw[zJ3];rfl⟩
   case round=>
    obtain⟨j,hj,rfl,rfl,rfl,rfl,rfl⟩:=hrel
    by_cases hlt:j<64
    ·have hx:=Nat.mod_two_eq_zero_or_one (hi X j)
     have hy:=Nat.mod_two_eq_zero_or_one (hi Y j);have x1:=zO0 X j;have y1:=zO0 Y j;have hro:=zJ5 (z:=Z) hlt;have hpw:=zIc j;rcases hx with hx|hx<;>rcases hy with hy|hy
     ·have hbt:Hid (lo Z (j+1)=lo Z j):=by
       have t:=zFa (x:=X) (y:=Y) hlt hx hy;rw[<-hZe.out]at t;show lo Z (j+1)=lo Z j;rw[t];simp
      have hxi:(hi X j:Int)%2=0:=kO;have hyi:(hi Y j:Int)%2=0:=kO;go_wp2;go_round
      case rel=>exact⟨j+1,by omega,by go_num,by rw[z26];go_num,by rw[z26];go_num,rfl,by rw[hbt.out]⟩
      case measure=>simp[intOf];omega
     ·have hbt:Hid (lo Z (j+1)=lo Z j):=by
       have t:=zFa (x:=X) (y:=Y) hlt hx hy;rw[<-hZe.out]at t;show lo Z (j+1)=lo Z j;rw[t];simp
      have hxi:(hi X j:Int)%2=0:=kO;have hyi:(hi Y j:Int)%2=1:=kO;go_wp2;go_round
      case rel=>exact⟨j+1,by omega,by go_num,by rw[z26];go_num,by rw[z26];go_num,rfl,by rw[hbt.out]⟩
      case measure=>simp[intOf];omega
     ·have hbt:Hid (lo Z (j+1)=lo Z j):=by
       have t:=zFa (x:=X) (y:=Y) hlt hx hy;rw[<-hZe.out]at t;show lo Z (j+1)=lo Z j;rw[t];simp
      have hxi:(hi X j:Int)%2=1:=kO;have hyi:(hi Y j:Int)%2=0:=kO;go_wp2;go_round
      case rel=>exact⟨j+1,by omega,by go_num,by rw[z26];go_num,by rw[z26];go_num,rfl,by rw[hbt.out]⟩
      case measure=>simp[intOf];omega
     ·have hbt:Hid (lo Z (j+1)=lo Z j+pw j):=by
       have t:=zFa (x:=X) (y:=Y) hlt hx hy;rw[<-hZe.out]at t;show lo Z (j+1)=lo Z j+pw j;rw[t];simp
      have hxi:(hi X j:Int)%2=1:=kO;have hyi:(hi Y j:Int)%2=1:=kO;go_wp2;go_round
      case rel=>exact⟨j+1,by omega,by go_num,by rw[z26];go_num,by rw[z26];go_num,rfl,by rw[hbt.out];go_num⟩
      case measure=>simp[intOf];omega
    ·obtain rfl:j=64:=by omega
     go_wp2;go_ret;exact⟨z1q (by rw[zR2 hZ]),rfl⟩
theorem ref_8(a b:Int)(w:World):zS 100 #[A D 8,A D a,A D b] w (A D (z0t 8 a b)):=by
 rw[zF2];have ha:=z07 a;have hb:=z07 b;have l1:=z1z a;have l2:=z1z b;generalize uns a=X at*;generalize uns b=Y at*;have hZ:X|||Y<18446744073709551616:=Nat.or_lt_two_pow (n:=64) l1 l2
 obtain⟨Z,hZe⟩: ∃Z,Hid (Z=X|||Y):=⟨_,rfl⟩;rw[<-hZe.out]at hZ⊢;go_enter Tryz.func100,Tryz.ntmps100;go_wp2;go_loop [10,24] (fun p i=> ∃j:Nat,j<=Y%64/\i= .int .u64 j/\p= .int .u64 (pw j)) (fun _ i=>64-(intOf i).toNat)
 case atStart=>exact⟨0,Nat.zero_le _,rfl,rfl⟩
 case round=>
  obtain⟨j,hj,rfl,rfl⟩:=hrel
  by_cases hlt:j<Y%64
  ·have hp:pw j*2<18446744073709551616:=z32 kO
   go_wp2;go_round
   case rel=>exact⟨j+1,by omega,by go_num,by rw[z4d (show j<63 by omega)];go_num⟩
   case measure=>simp[intOf];omega
  ·obtain rfl:j=Y%64:=by omega
   have hp:=z6x (show Y%64<64 by omega);have hq:=z4e (show Y%64<64 by omega);clear hlt hj;go_wp2;go_loop [7,8,11,12,66] (fun x y z p i=> ∃j:Nat,j<=64/\i=A D j/\x= .int .u64 (hi X j)/\y= .int .u64 (hi Y j)/\p= .int .u64 (pw j)/\z= .int .u64 (lo Z j)) (fun _ _ _ _ i=>64-(intOf i).toNat)
   case atStart=>exact⟨0,Nat.zero_le _,rfl,by rw[z8s],by rw[z8s],rfl,by rw[zJ3];rfl⟩
   case round=>
    obtain⟨j,hj,rfl,rfl,rfl,rfl,rfl⟩:=hrel
    by_cases hlt:j<64
    ·have hx:=Nat.mod_two_eq_zero_or_one (hi X j)
     have hy:=Nat.mod_two_eq_zero_or_one (hi Y j);have x1:=zO0 X j;have y1:=zO0 Y j;have hro:=zJ5 (z:=Z) hlt;have hpw:=zIc j;rcases hx with hx|hx<;>rcases hy with hy|hy
     ·have hbt:Hid (lo Z (j+1)=lo Z j):=by
       have t:=zLs (x:=X) (y:=Y) hlt hx hy;rw[<-hZe.out]at t;show lo Z (j+1)=lo Z j;rw[t];simp
      have hxi:(hi X j:Int)%2=0:=kO;have hyi:(hi Y j:Int)%2=0:=kO;go_wp2;go_round
      case rel=>exact⟨j+1,by omega,by go_num,by rw[z26];go_num,by rw[z26];go_num,rfl,by rw[hbt.out]⟩
      case measure=>simp[intOf];omega
     ·have hbt:Hid (lo Z (j+1)=lo Z j+pw j):=by
       have t:=zLs (x:=X) (y:=Y) hlt hx hy;rw[<-hZe.out]at t;show lo Z (j+1)=lo Z j+pw j;rw[t];simp
      have hxi:(hi X j:Int)%2=0:=kO;have hyi:(hi Y j:Int)%2=1:=kO;have m1:max (0:Int) 1=1:=kD;go_wp2;go_round
      case rel=>exact⟨j+1,by omega,by go_num,by rw[z26];go_num,by rw[z26];go_num,rfl,by rw[hbt.out];go_num⟩
      case measure=>simp[intOf];omega
     ·have hbt:Hid (lo Z (j+1)=lo Z j+pw j):=by
       have t:=zLs (x:=X) (y:=Y) hlt hx hy;rw[<-hZe.out]at t;show lo Z (j+1)=lo Z j+pw j;rw[t];simp
      have hxi:(hi X j:Int)%2=1:=kO;have hyi:(hi Y j:Int)%2=0:=kO;have m1:max (1:Int) 0=1:=kD;go_wp2;go_round
      case rel=>exact⟨j+1,by omega,by go_num,by rw[z26];go_num,by rw[z26];go_num,rfl,by rw[hbt.out];go_num⟩
      case measure=>simp[intOf];omega
     ·have hbt:Hid (lo Z (j+1)=lo Z j+pw j):=by
       have t:=zLs (x:=X) (y:=Y) hlt hx hy;rw[<-hZe.out]at t;show lo Z (j+1)=lo Z j+pw j;rw[t];simp
      have hxi:(hi X j:Int)%2=1:=kO;have hyi:(hi Y j:Int)%2=1:=kO;go_wp2;go_round
      case rel=>exact⟨j+1,by omega,by go_num,by rw[z26];go_num,by rw[z26];go_num,rfl,by rw[hbt.out];go_num⟩
      case measure=>simp[intOf];omega
    ·obtain rfl:j=64:=by omega
     go_wp2;go_ret;exact⟨z1q (by rw[zR2 hZ]),rfl⟩
theorem ref_9(a b:Int)(w:World):zS 100 #[A D 9,A D a,A D b] w (A D (z0t 9 a b)):=by
 rw[zF1];have ha:=z07 a;have hb:=z07 b;have l1:=z1z a;have l2:=z1z b;generalize uns a=X at*;generalize uns b=Y at*;have hZ:X^^^Y<18446744073709551616:=Nat.xor_lt_two_pow (n:=64) l1 l2;obtain⟨Z,hZe⟩: ∃Z,Hid (Z=X^^^Y):=⟨_,rfl⟩;rw[<-hZe.out]at hZ⊢;go_enter Tryz.func100,Tryz.ntmps100;go_wp2;go_loop [10,24] (fun p i=> ∃j:Nat,j<=Y%64/\i= .int .u64 j/\p= .int .u64 (pw j)) (fun _ i=>64-(intOf i).toNat)
 case atStart=>exact⟨0,Nat.zero_le _,rfl,rfl⟩
 case round=>
  obtain⟨j,hj,rfl,rfl⟩:=hrel
  by_cases hlt:j<Y%64
  ·have hp:pw j*2<18446744073709551616:=z32 kO
   go_wp2;go_round
   case rel=>exact⟨j+1,by omega,by go_num,by rw[z4d (show j<63 by omega)];go_num⟩
   case measure=>simp[intOf];omega
  ·obtain rfl:j=Y%64:=by omega
   have hp:=z6x (show Y%64<64 by omega);have hq:=z4e (show Y%64<64 by omega);clear hlt hj;go_wp2;go_loop [7,8,11,12,66] (fun x y z p i=> ∃j:Nat,j<=64/\i=A D j/\x= .int .u64 (hi X j)/\y= .int .u64 (hi Y j)/\p= .int .u64 (pw j)/\z= .int .u64 (lo Z j)) (fun _ _ _ _ i=>64-(intOf i).toNat)
   case atStart=>exact⟨0,Nat.zero_le _,rfl,by rw[z8s],by rw[z8s],rfl,by rw[zJ3];rfl⟩
   case round=>
    obtain⟨j,hj,rfl,rfl,rfl,rfl,rfl⟩:=hrel
    by_cases hlt:j<64
    ·have hx:=Nat.mod_two_eq_zero_or_one (hi X j)
     have hy:=Nat.mod_two_eq_zero_or_one (hi Y j);have x1:=zO0 X j;have y1:=zO0 Y j;have hro:=zJ5 (z:=Z) hlt;have hpw:=zIc j;rcases hx with hx|hx<;>rcases hy with hy|hy
     ·have hbt:Hid (lo Z (j+1)=lo Z j):=by
       have t:=zF9 (x:=X) (y:=Y) hlt hx hy;rw[<-hZe.out]at t;show lo Z (j+1)=lo Z j;rw[t];simp
      have hxi:(hi X j:Int)%2=0:=kO;have hyi:(hi Y j:Int)%2=0:=kO;go_wp2;go_round
      case rel=>exact⟨j+1,by omega,by go_num,by rw[z26];go_num,by rw[z26];go_num,rfl,by rw[hbt.out]⟩
      case measure=>simp[intOf];omega
     ·have hbt:Hid (lo Z (j+1)=lo Z j+pw j):=by
       have t:=zF9 (x:=X) (y:=Y) hlt hx hy;rw[<-hZe.out]at t;show lo Z (j+1)=lo Z j+pw j;rw[t];simp
      have hxi:(hi X j:Int)%2=0:=kO;have hyi:(hi Y j:Int)%2=1:=kO;go_wp2;go_round
      case rel=>exact⟨j+1,by omega,by go_num,by rw[z26];go_num,by rw[z26];go_num,rfl,by rw[hbt.out];go_num⟩
      case measure=>simp[intOf];omega
     ·have hbt:Hid (lo Z (j+1)=lo Z j+pw j):=by
       have t:=zF9 (x:=X) (y:=Y) hlt hx hy;rw[<-hZe.out]at t;show lo Z (j+1)=lo Z j+pw j;rw[t];simp
      have hxi:(hi X j:Int)%2=1:=kO;have hyi:(hi Y j:Int)%2=0:=kO;go_wp2;go_round
      case rel=>exact⟨j+1,by omega,by go_num,by rw[z26];go_num,by rw[z26];go_num,rfl,by rw[hbt.out];go_num⟩
      case measure=>simp[intOf];omega
     ·have hbt:Hid (lo Z (j+1)=lo Z j):=by
       have t:=zF9 (x:=X) (y:=Y) hlt hx hy;rw[<-hZe.out]at t;show lo Z (j+1)=lo Z j;rw[t];simp
      have hxi:(hi X j:Int)%2=1:=kO;have hyi:(hi Y j:Int)%2=1:=kO;go_wp2;go_round
      case rel=>exact⟨j+1,by omega,by go_num,by rw[z26];go_num,by rw[z26];go_num,rfl,by rw[hbt.out]⟩
      case measure=>simp[intOf];omega
    ·obtain rfl:j=64:=by omega
     go_wp2;go_ret;exact⟨z1q (by rw[zR2 hZ]),rfl⟩
theorem ref_12(a b:Int)(h0: -9223372036854775808<=a)(h1:a<=9223372036854775807)(w:World):zS 100 #[A D 12,A D a,A D b] w (A D (z0t 12 a b)):=by
 have hs:Hid (uns b%64=sixBits b):=z6s b;rw[z5d];have ha:=z07 a;have hb:=z07 b;have l1:=z1z a;have l2:=z1z b;generalize uns a=X at*;generalize uns b=Y at*;go_enter Tryz.func100,Tryz.ntmps100;go_wp2;go_loop [10,24] (fun p i=> ∃j:Nat,j<=Y%64/\i= .int .u64 j/\p= .int .u64 (pw j)) (fun _ i=>64-(intOf i).toNat)
 case atStart=>exact⟨0,Nat.zero_le _,rfl,rfl⟩
 case round=>
  obtain⟨j,hj,rfl,rfl⟩:=hrel
  by_cases hlt:j<Y%64
  ·have hp:pw j*2<18446744073709551616:=z32 kO
   go_wp2;go_round
   case rel=>exact⟨j+1,by omega,by go_num,by rw[z4d (show j<63 by omega)];go_num⟩
   case measure=>simp[intOf];omega
  ·obtain rfl:j=Y%64:=by omega
   have hp:=z6x (show Y%64<64 by omega);have hq:=z4e (show Y%64<64 by omega);clear hlt hj;go_wp2;go_loop [1,112] (fun x i=> ∃j:Nat,j<=Y%64/\i= .int .u64 j/\x=A D (sh a j)) (fun _ i=>64-(intOf i).toNat)
   case atStart=>exact⟨0,Nat.zero_le _,rfl,by rw[zPv]⟩
   case round=>
    obtain⟨j,hj,rfl,rfl⟩:=hrel;have hbd:=sh_bd h0 h1 j;have hsc:Hid (sh a (j+1)=sh a j/2):=zPw a j
    by_cases hlt:j<Y%64
    ·generalize sh a j=s at*
     by_cases hn:s<0
     ·rcases Int.emod_two_eq s with he|he
      ·have ht:=zCh he
       have hm:=zMk he;go_wp2;go_round
       case rel=>exact⟨j+1,by omega,by go_num,by rw[hsc.out]⟩
       case measure=>simp[intOf];omega
      ·have ht:=zFm hn he
       have hm:=zPm hn he;go_wp2;go_round
       case rel=>exact⟨j+1,by omega,by go_num,by rw[hsc.out]⟩
       case measure=>simp[intOf];omega
     ·have hn2:0<=s:=kO
      go_wp2;go_round
      case rel=>exact⟨j+1,by omega,by go_num,by rw[hsc.out]⟩
      case measure=>simp[intOf];omega
    ·obtain rfl:j=Y%64:=by omega
     go_wp2;go_ret;exact⟨z1q (by rw[hs.out];rfl),rfl⟩
theorem z6u(c a b:Int)(h0: -9223372036854775808<=a)(h1:a<=9223372036854775807)(k0: -9223372036854775808<=b)(k1:b<=9223372036854775807)(w:World):zS 100 #[A D c,A D a,A D b] w (A D (z0t c a b)):=by
 by_cases hc:c<1\/13<c
 ·exact ref_no c a b hc w
 have h:c=1\/c=2\/c=3\/c=4\/c=5\/c=6\/c=7\/c=8\/c=9\/c=10\/c=11\/c=12\/c=13:=kO;rcases h with rfl|rfl|rfl|rfl|rfl|rfl|rfl|rfl|rfl|rfl|rfl|rfl|rfl
 ·exact ref_1 a b k0 k1 w
 ·exact ref_2 a b w
 ·exact ref_3 a b w
 ·exact ref_4 a b w
 ·by_cases hb:b=0
  ·exact ref_5z a b hb w
  ·exact ref_5 a b k0 k1 hb w
 ·by_cases hb:b=0
  ·exact ref_6z a b h0 h1 hb w
  ·exact ref_6 a b k0 k1 hb w
 ·exact ref_7 a b w
 ·exact ref_8 a b w
 ·exact ref_9 a b w
 ·exact ref_10 a b w
 ·exact ref_11 a b w
 ·exact ref_12 a b h0 h1 w
 exact ref_13 a b w
theorem z6v(n:Int)(h1:n<=9223372036854775807)(w:World):zS 108 #[A D n] w (A D (z5z n)):=by
 go_enter Tryz.func108,Tryz.ntmps108;go_wp2;go_loop [3] (fun f=> ∃j:Nat,j<=lenV n.toNat/\f=A D (ones j)) (fun f=>9223372036854775808-(intOf f).toNat)
 case atStart=>exact⟨0,Nat.zero_le _,rfl⟩
 case round=>
  obtain⟨j,hj,rfl⟩:=hrel;have hs:Hid (ones (j+1)=ones j*2+1):=zQm j
  by_cases hlt:(ones j:Int)<n
  ·have hj2:j+1<=lenV n.toNat:=zUy kO
   have hb:=zEe (j:=j+1) (by have:=len_63 h1;omega);have hb2:ones j*2+1<=9223372036854775807:=by rw[hs.out]at hb;exact hb
   clear hb;go_wp2;go_round
   case rel=>exact⟨j+1,hj2,by rw[hs.out];go_num⟩
   case measure=>simp[intOf];omega
  ·have hj2:Hid (j=lenV n.toNat):=zUx hj hlt
   go_wp2;go_ret;exact⟨z1q (by rw[hj2.out];rfl),rfl⟩
end
section
open Go.RowKit
theorem dc(p:Prop) [Decidable p]:(p/\decide p=true)\/(¬p/\decide p=false):=by
 by_cases h:p
 ·exact .inl ⟨h,decide_eq_true h⟩
 exact .inr ⟨h,decide_eq_false h⟩
theorem cS{f:FuncId}{args:Array Value}{w:World}{v:Value}{Q:Ending->World->Prop}(h:zS f args w v)(q:Q (rT v) w):Calls tP f args w Q:=
 h.mono fun e w' x=>by rw[x.1,x.2];exact q
theorem zS.r{f:FuncId}{args:Array Value}{w:World}{v:Value}(h:zS f args w v):zR f args w v:=h.mono fun _ _ x=>⟨x.1,by rw[x.2];exact bF _ _⟩
theorem cR{f:FuncId}{args:Array Value}{w:World}{v:Value}{Q:Ending->World->Prop}(h:zR f args w v)(q: ∀w',Below w.heap.size w w'->Q (rT v) w'):Calls tP f args w Q:=
 h.mono fun e w' x=>by rw[x.1];exact q w' x.2
theorem lat{W w1:World}(hb:Below W.heap.size W w1):(∀n i,n<W.heap.size->w1.cell? ⟨n,i,none⟩=W.cell? ⟨n,i,none⟩)/\(∀n i,n<W.heap.size->w1.frozen? ⟨n,i,none⟩=W.frozen? ⟨n,i,none⟩)/\W.heap.size<=w1.heap.size:=
 ⟨fun n i h=>hb.cell (p:=⟨n,i,none⟩) h,fun n i h=>hb.frozen (p:=⟨n,i,none⟩) h,hb.size⟩
end
section
open Go.ChangeShapes Go.WideShapes Go.ChangeAt Go.RowKit
set_option maxHeartbeats 40000000
set_option maxRecDepth 1000000
attribute [local simp] dwS
theorem zQ4(n:Int)(w:World):Calls tP 45 #[A D n] w fun e w'=>e= rT (.agg #[A D n,A D n])/\w'=w.alloc (cT #[A D n,A D n] 110):=by
 go_in
 go_wp2;exact bodyPost_ret (by simp[results,Tryz.results45,go_sem]) rfl ⟨rfl,rfl⟩
theorem zKw(al ah bl bh:Int)(w:World):Calls tP 47 #[.agg #[A D al,A D ah],.agg #[A D bl,A D bh]] w fun e w'=>e= rT (.agg #[A D (min al bl),A D (max ah bh)])/\w'=((w.alloc (cT #[A D al,A D ah] 110)).alloc (cT #[A D bl,A D bh] 110)).alloc (cT #[A D (min al bl),A D (max ah bh)] 110):=by
 go_in
 go_wp2;exact bodyPost_ret (by simp[results,Tryz.results47,go_sem]) rfl ⟨rfl,rfl⟩
theorem zAi(n:Int)(w:World):zR 45 #[A D n] w (.agg #[A D n,A D n]):=(zQ4 n w).mono fun _ _ h=>⟨h.1,by rw[h.2];exact kB⟩
theorem zKv(al ah bl bh:Int)(w:World):zR 47 #[.agg #[A D al,A D ah],.agg #[A D bl,A D bh]] w (.agg #[A D (min al bl),A D (max ah bh)]):=(zKw al ah bl bh w).mono fun _ _ h=>⟨h.1,by rw[h.2];exact kB⟩
theorem zIa (a b : Int) (pa : -9223372036854775808 <= a) (qa : a <= 9223372036854775807) (pb : -9223372036854775808 <= b) (qb : b <= 9223372036854775807) (w : World) : zS 106 #[A D a, A D b] w (.tuple #[A D (if fits (a + b) then a + b else 0), .bool (fits (a + b))]) := by
  rcases dc (0 < b) with ⟨x, x'⟩ | ⟨x, x'⟩ <;> rcases dc (b < 0) with ⟨y, y'⟩ | ⟨y, y'⟩ <;> rcases dc (9223372036854775807 - b < a) with ⟨z, z'⟩ | ⟨z, z'⟩ <;> rcases dc (a < -9223372036854775808 - b) with ⟨t, t'⟩ | ⟨t, t'⟩
  all_goals first
    | (exfalso; omega)
    | (first | rw [(z36 (a + b)).2 kO] | rw [(zJh (a + b)).2 kO]
       unfold zS;go_in
       go_wp2;go_ret2
       exact ⟨by first | rfl | (rw [z08 kO kO]; rfl), rfl⟩)
theorem zI0 (a b : Int) (pa : -9223372036854775808 <= a) (qa : a <= 9223372036854775807) (pb : -9223372036854775808 <= b) (qb : b <= 9223372036854775807) (w : World) : zS 107 #[A D a, A D b] w (.tuple #[A D (if fits (a - b) then a - b else 0), .bool (fits (a - b))]) := by
  rcases dc (0 < b) with ⟨x, x'⟩ | ⟨x, x'⟩ <;> rcases dc (b < 0) with ⟨y, y'⟩ | ⟨y, y'⟩ <;> rcases dc (9223372036854775807 + b < a) with ⟨z, z'⟩ | ⟨z, z'⟩ <;> rcases dc (a < -9223372036854775808 + b) with ⟨t, t'⟩ | ⟨t, t'⟩
  all_goals first
    | (exfalso; omega)
    | (first | rw [(z36 (a - b)).2 kO] | rw [(zJh (a - b)).2 kO]
       unfold zS;go_in
       go_wp2;go_ret2
       exact ⟨by first | rfl | (rw [z08 kO kO]; rfl), rfl⟩)
theorem z9p(a k:Int)(pa: -9223372036854775808<=a)(qa:a<=9223372036854775807)(pk: -9223372036854775808<=k)(qk:k<=9223372036854775807)(w:World):zS 109 #[A D a,A D k] w (A D (a/2^sixBits k)):=by
 rw[<-z5d];unfold zS;go_in
 go_wp2_with(go_at_call 100;refine cS (z6u _ _ _ pa qa pk qk _) ?_);go_ret;exact⟨rfl,rfl⟩
def z2z(w:World):Prop:=0<w.heap.size/\w.cell? ⟨0,0,none⟩=some (A D (-9223372036854775808))/\w.cell? ⟨0,1,none⟩=some (A D 9223372036854775807)
def Bds(al ah bl bh:Int):Prop:= -9223372036854775808<=al/\al<=ah/\ah<=9223372036854775807/\ -9223372036854775808<=bl/\bl<=bh/\bh<=9223372036854775807
abbrev Bd4(c al ah bl bh:Int)(w:World):Prop:=Bds al ah bl bh->z2z w->zR 79 #[A D c,.agg #[A D al,A D ah],.agg #[A D bl,A D bh]] w (.agg #[A D (bdV c al ah bl bh).1,A D (bdV c al ah bl bh).2])
theorem dce(a b:Int):(Hid (a=b)/\(a==b)=true)\/(Hid (¬a=b)/\(a==b)=false):=by
 by_cases h:a=b
 ·exact .inl ⟨h,by simp[h]⟩
 exact .inr ⟨h,by simp[h]⟩
theorem kBd {P : Prop} (h : P := by
  obtain ⟨pal, oa, qah, pbl, ob, qbh⟩ := hB;obtain ⟨gz, g0, g1⟩ := hA;have gz1 : 0 < w.heap.size + 1 := kO;have gz2 : 0 < w.heap.size + 1 + 1 := kO;have gz3 : 0 < w.heap.size + 1 + 1 + 1 := kO;have gz4 : 0 < w.heap.size + 1 + 1 + 1 + 1 := kO;have hx := zHf bl;have hk : 0 <= bl % 64 /\ bl % 64 < 64 := kO;rcases dc (0 <= al) with ⟨ha, da⟩ | ⟨ha, da⟩
  rcases dc (0 <= bl) with ⟨hb, db⟩ | ⟨hb, db⟩
  all_goals try (exfalso; omega)
  all_goals
    (try simp only [ha, hb, if_true, if_false, and_self, and_true, and_false, false_and])
    unfold zR;go_in
    go_wp2_with (first | (go_at_call 106; refine cS (zIa _ _ kO kO kO kO _) ?_) | (go_at_call 107; refine cS (zI0 _ _ kO kO kO kO _) ?_) | (go_at_call 108; refine cS (z6v _ kO _) ?_) | (go_at_call 109; refine cS (z9p _ _ kO kO kO kO _) ?_) | (go_at_call 100; refine cS (z6u _ _ _ kO kO kO kO _) ?_))
    iterate 2 all_goals try (go_region_held3 (fun w' => w'.cell? ⟨w.heap.size, 0, none⟩ = some (A D al) /\ w'.cell? ⟨w.heap.size, 1, none⟩ = some (A D ah) /\ w'.cell? ⟨w.heap.size + 1, 0, none⟩ = some (A D bl) /\ w'.cell? ⟨w.heap.size + 1, 1, none⟩ = some (A D bh)) (first | (simp [go_sem]; done) | (simp [go_sem, *]; done) | go_keep) (first | (go_at_call 106; refine cS (zIa _ _ kO kO kO kO _) ?_) | (go_at_call 107; refine cS (zI0 _ _ kO kO kO kO _) ?_) | (go_at_call 108; refine cS (z6v _ kO _) ?_) | (go_at_call 109; refine cS (z9p _ _ kO kO kO kO _) ?_) | (go_at_call 100; refine cS (z6u _ _ _ kO kO kO kO _) ?_))
                             all_goals go_wp2_with (first | (go_at_call 106; refine cS (zIa _ _ kO kO kO kO _) ?_) | (go_at_call 107; refine cS (zI0 _ _ kO kO kO kO _) ?_) | (go_at_call 108; refine cS (z6v _ kO _) ?_) | (go_at_call 109; refine cS (z9p _ _ kO kO kO kO _) ?_) | (go_at_call 100; refine cS (z6u _ _ _ kO kO kO kO _) ?_)))
    all_goals exact bodyPost_ret (by simp [results, Tryz.results79, go_sem]; try rfl) rfl ⟨by first | rfl | (simp [fit2, z49, *]; done) | (simp [*]; omega), kB⟩) : P := h
variable (al ah bl bh:Int) (w:World)
theorem rb_1:Bd4 1 al ah bl bh w:=by
 intro hB hA;rw[zWa];exact kBd
theorem rb_2:Bd4 2 al ah bl bh w:=by
 intro hB hA;rw[zOw]
 cases f1:fits (al+bl)
 ·exact kBd
 cases f2:fits (ah+bh)<;>exact kBd
theorem rb_3:Bd4 3 al ah bl bh w:=by
 intro hB hA;rw[zW9]
 cases f1:fits (al-bh)
 ·exact kBd
 cases f2:fits (ah-bl)<;>exact kBd
theorem rb_7:Bd4 7 al ah bl bh w:=by
 intro hB hA;rw[zW5];rcases dc (0<=bl)with⟨hb,db⟩|⟨hb,db⟩<;>exact kBd
theorem rb_8:Bd4 8 al ah bl bh w:=by
 intro hB hA;rw[zW4];exact kBd
theorem rb_9:Bd4 9 al ah bl bh w:=by
 intro hB hA;rw[zW3];exact kBd
theorem rb_13:Bd4 13 al ah bl bh w:=by
 intro hB hA;rw[zLt];rcases dc (-9223372036854775808<al)with⟨hl,dl⟩|⟨hl,dl⟩
 ·rw[z87 (by rw[(z36 _).2 (by have:=hB;unfold Bds at this;omega),(z36 _).2 (by have:=hB;unfold Bds at this;omega)];rfl)]
  exact kBd
 rw[zBd (by rw[Bool.and_eq_false_iff];right;rw[zJh];omega)];exact kBd
end
section
open Go.RowKit
abbrev MemL:=List (Nat×Array Value×TypeId)
def Mm(W:World)(F:MemL)(w:World):Prop:=Below W.heap.size W w/\ ∀x,x∈F->w.heap[x.1]?=some (cT x.2.1 x.2.2 (0,0))
def Mx(w:World):MemL->Prop
 |[]=>True
 |x::F=>(∀i,w.cell? ⟨x.1,i,none⟩=x.2.1[i]?)/\(∀i,w.frozen? ⟨x.1,i,none⟩=false)/\x.1<w.heap.size/\Mx w F
def mput(g i:Nat)(v:Value)(x:Nat×Array Value×TypeId):Nat×Array Value×TypeId:=if x.1=g then(x.1,x.2.1.setIfInBounds i v,x.2.2)else x
section
variable {W w w':World} {F F':MemL} {g:Nat} {cs:Array Value} {t:TypeId}
theorem Mm.x: ∀{F:MemL},Mm W F w->Mx w F
 |[],_=>trivial
 |x::F,h=>by
  have e:=h.2 _ mcS;exact⟨fun i=>by simp[World.cell?,e],fun i=>by simp[World.frozen?,e],(Array.getElem?_eq_some_iff.1 e).1,Mm.x (F:=F) ⟨h.1,fun x hx=>h.2 x (mcO _ hx)⟩⟩
theorem Mm.b(h:Mm W F w):Below W.heap.size W w:=h.1
theorem Mm.row(h:Mm W F w)(m:(g,cs,t)∈F):w.heap[g]?=some (cT cs t (0,0)):=h.2 _ m
theorem Mm.lt(h:Mm W F w)(m:(g,cs,t)∈F):g<w.heap.size:=(Array.getElem?_eq_some_iff.1 (h.2 _ m)).1
theorem Mm.later(h:Mm W F w)(hb:Below w.heap.size w w'):Mm W F w':=
 ⟨h.1.trans (hb.mono h.1.size),fun x hx=>(hb.block x.1 (Array.getElem?_eq_some_iff.1 (h.2 x hx)).1).trans (h.2 x hx)⟩
theorem Mm.drew(h:Mm W F w):Mm W F w.drew:=⟨h.1.drew,h.2⟩
theorem Mm.start(w:World):Mm w [] w:=⟨bF _ _,fun _ h=>absurd h List.not_mem_nil⟩
theorem Mm.cons(h:Mm W F w)(hg:w.heap[g]?=some (cT cs t (0,0))):Mm W ((g,cs,t)::F) w:=⟨h.1,fun x hx=>by
  rcases List.mem_cons.mp hx with rfl|hx
  ·exact hg
  ·exact h.2 x hx⟩
theorem Mm.new(h:Mm W F w)(cs:Array Value)(t:TypeId):Mm W ((w.heap.size,cs,t)::F) (w.alloc (cT cs t)):=
 (h.later ((bF _ _).alloc (Nat.le_refl _) _)).cons (heap_alloc_new w _)
theorem Mm.set(h:Mm W F w)(hg:W.heap.size<=g)(i:Nat)(v:Value):Mm W (F.map (mput g i v)) (w.setCell ⟨g,i,none⟩ v):=
 ⟨h.1.setCell hg _,fun x hx=>by
  obtain⟨y,hy,rfl⟩:=List.mem_map.1 hx;unfold mput;split
  ·rename_i e
   show _=some (Obj.cells (y.2.1.setIfInBounds i v) y.2.2 (0,0));subst e;exact heap_setCell_same _ _ _ _ _ _ (h.2 y hy)
  ·rename_i e
   exact(heap_setCell_other _ _ _ _ e).trans (h.2 y hy)⟩
theorem Mm.sub(h:Mm W F w)(s: ∀x,x∈F'->x∈F):Mm W F' w:=⟨h.1,fun x hx=>h.2 x (s x hx)⟩
theorem Mm.as(h:Mm W F w)(e:F=F'):Mm W F' w:=e▸h
end
theorem nz:(∀n:Nat,(n+1=n)=False)/\(∀n:Nat,(n=n+1)=False)/\(∀n:Nat,(n+1+1=n)=False)/\(∀n:Nat,(n=n+1+1)=False)/\(∀n:Nat,(n+1+1+1=n)=False)/\(∀n:Nat,(n=n+1+1+1)=False)/\(∀n:Nat,(n+1+1+1+1=n)=False)/\(∀n:Nat,(n=n+1+1+1+1)=False)/\(∀n:Nat,(n+1+1+1+1+1=n)=False)/\(∀n:Nat,(n=n+1+1+1+1+1)=False)/\(∀n:Nat,(n+1+1+1+1+1+1=n)=False)/\(∀n:Nat,(n=n+1+1+1+1+1+1)=False)/\(∀n:Nat,(n+1+1+1+1+1+1+1=n)=False)/\(∀n:Nat,(n=n+1+1+1+1+1+1+1)=False):=by refine⟨?_,?_,?_,?_,?_,?_,?_,?_,?_,?_,?_,?_,?_,?_⟩<;>intro n<;>simp<;>omega
theorem gnl{W w:World}{F:MemL}{P:Program}{c:Code}{Q:Exit->Act->World->Prop}{a:Act}(hM:Mm W F w)(h: ∀w',Mm W F w'->Code.wp P c Q a w'):Code.wp P c Q a w:=h w hM
theorem kMm{W w:World}{F:MemL}(h:Mm W F w:=by with_reducible(repeat'(first|assumption|apply Mm.start|apply Mm.new|apply Mm.drew|apply Mm.set|omega))):Mm W F w:=h
end
section
open Go.RowKit
section
variable {P:Program} {ops:Array Oper} {md:Region.Mode} {C:World->Prop} {n0:Nat}
def zAn(P:Program)(w:World)(v:Value):Result Next->Prop
 | .ok (.value u) w'=>w'=w/\u=v
 | .ok .skip w'=>w'=w/\v=undef
 | .ok (.enter f args) w'=>w'=w/\Calls P f args w (fun e w''=>e= rT v/\Below w.heap.size w w'')
 |_=>False
abbrev z6k:Type:=Value⊕(Obj×(Nat->Value))
def z60(P:Program)(ops:Array Oper)(C:World->Prop)(o:Oper)(a:Act):z6k->Prop
 | .inl v=>(Region.wanted o (yielded ops a.tmps)=true/\ ∀w,C w->zAn P w v ((execOp a.eval o).run P w))\/(Region.wanted o (yielded ops a.tmps)=false/\v=undef)
 | .inr (z,f)=>Region.wanted o (yielded ops a.tmps)=true/\ ∀w,C w->(execOp a.eval o).run P w= .ok (.value (f w.heap.size)) (w.alloc z)
abbrev FB:Type:=Nat->Option Obj
def FB.upd(B:FB)(L:Nat)(z:Obj):FB:=fun k=>if k=L then some z else B k
theorem FB.upd_comm(B:FB){L L':Nat}(h:L≠L')(z z':Obj):FB.upd (FB.upd B L z) L' z'=FB.upd (FB.upd B L' z') L z:=by
 funext k;unfold FB.upd
 by_cases h1:k=L'
 ·rw[if_pos h1,if_neg kO,if_pos h1]
 rw[if_neg h1]
 by_cases h2:k=L
 ·rw[if_pos h2,if_pos h2]
 rw[if_neg h2,if_neg h2,if_neg h1]
theorem FB.upd_none{B:FB}{L L':Nat}{z:Obj}(h:FB.upd B L z L'=none):L'≠L/\B L'=none:=by
 unfold FB.upd at h
 by_cases e:L'=L
 ·rw[if_pos e]at h;cases h
 rw[if_neg e]at h;exact⟨e,h⟩
theorem FB.none_upd{B:FB}{L L':Nat}{z:Obj}(h:L'≠L)(h':B L'=none):FB.upd B L z L'=none:=by
 unfold FB.upd;rw[if_neg h];exact h'
def FB.Fin(B:FB):Prop:= ∃m,∀L,m<=L->B L=none
theorem FB.Fin.upd{B:FB}(h:FB.Fin B)(L:Nat)(z:Obj):FB.Fin (FB.upd B L z):=by
 obtain⟨m,hm⟩:=h;exact⟨m+L+1,fun k hk=>FB.none_upd kO (hm k kO)⟩
theorem FB.Fin.fresh{B:FB}(h:FB.Fin B)(n0:Nat): ∃L,B L=none/\n0<=L:=by
 obtain⟨m,hm⟩:=h;exact⟨m+n0,hm _ kO,by omega⟩
def z6j(n0:Nat)(o:Oper)(K:Act->FB->Prop)(a:Act)(B:FB):z6k->Prop
 | .inl v=>K (a.put o.dst v) B
 | .inr (z,f)=> ∀L,B L=none->n0<=L->K (a.put o.dst (f L)) (FB.upd B L z)
def fOp(P:Program)(ops:Array Oper)(C:World->Prop)(n0:Nat)(sp:Nat->z6k)(i:Nat)(K:Act->FB->Prop)(a:Act)(B:FB):Prop:=
 match ops[i]? with
 |none=>K a B
 |some o=>z60 P ops C o a (sp i)/\z6j n0 o K a B (sp i)
def z7e(P:Program)(md:Region.Mode)(ops:Array Oper)(C:World->Prop)(n0:Nat)(sp:Nat->z6k)(n:Nat)(L:Array Bool->Act->FB->Prop):Nat->Array Bool->Act->FB->Prop
 |0,listed,a,B=>L listed a B
 |f+1,listed,a,B=>(∃i,i∈Region.ready md ops listed/\i<n)/\ ∀i∈Region.ready md ops listed,i<n->fOp P ops C n0 sp i (z7e P md ops C n0 sp n L f (listed.setIfInBounds i true)) a B
def ClsB(C:World->Prop)(B:FB)(w:World):Prop:=C w/\ ∀L z,B L=some z->w.heap[L]?=some z
theorem ClsB.later{B:FB}{w w':World}(hst: ∀w w',C w->Below w.heap.size w w'->C w')(h:ClsB C B w)(hb:Below w.heap.size w w'):ClsB C B w':=
 ⟨hst _ _ h.1 hb,fun L z hz=>(hb.block L (Array.getElem?_eq_some_iff.1 (h.2 L z hz)).1).trans (h.2 L z hz)⟩
theorem ClsB.new{B:FB}{w:World}(hst: ∀w w',C w->Below w.heap.size w w'->C w')(h:ClsB C B w)(z:Obj):B w.heap.size=none/\ClsB C (FB.upd B w.heap.size z) (w.alloc z):=by
 refine⟨?_,?_⟩
 ·cases hb:B w.heap.size with
  |none=>rfl
  |some z'=>exact absurd (Array.getElem?_eq_some_iff.1 (h.2 _ _ hb)).1 (Nat.lt_irrefl _)
 have hl:=h.later hst ((bF _ _).alloc (Nat.le_refl _) z);refine⟨hl.1,fun L z' hz=>?_⟩;unfold FB.upd at hz
 by_cases e:L=w.heap.size
 ·rw[if_pos e]at hz
  cases hz;rw[e];show(w.heap.push z)[w.heap.size]?=some z;simp
 rw[if_neg e]at hz;exact hl.2 L z' hz
theorem zHi{sp:Nat->z6k}{i:Nat}{a:Act}{B:FB}{K:Act->FB->Prop}{K':Act->World->Prop}{Q':Exit->Act->World->Prop}{w:World}(hst: ∀w w',C w->Below w.heap.size w w'->C w')(hn: ∀w,C w->n0<=w.heap.size)(hC:ClsB C B w)
  (h: ∀a B w',ClsB C B w'->K a B->K' a w')(hh:fOp P ops C n0 sp i K a B):wpOp P ops Q' i K' a w:=by
 unfold fOp at hh;unfold wpOp;split
 ·rename_i ho;simp only[ho]at hh;exact h _ _ _ hC hh
 rename_i o ho
 simp only[ho]at hh;obtain⟨h1,h2⟩:=hh
 cases hs:sp i with
 |inl v=>
  rw[hs]at h1 h2;rcases h1 with⟨hw,hv⟩|⟨hw,rfl⟩
  ·rw[if_pos hw]
   refine Or.inl ?_;have h3:=hv w hC.1;unfold Oper.wp;generalize (execOp a.eval o).run P w=r at h3⊢
   cases r with
   |ok nx w'=>
    cases nx<;>simp only[zAn]at h3<;>simp only[Oper.upon]
    case value u=>
     obtain⟨e1,e2⟩:=h3;rw[e1,e2];exact h _ _ _ hC h2
    case skip=>
     obtain⟨e1,e2⟩:=h3;rw[e1, <-e2];exact h _ _ _ hC h2
    case enter f args=>
     obtain⟨e1,hc⟩:=h3;rw[e1];exact hc.mono fun e w'' ⟨he,hw''⟩=>by subst he;exact h _ _ _ (hC.later hst hw'') h2
   |halt x w'=>simp only[zAn]at h3
  ·rw[if_neg (by rw[hw];decide)]
   exact h _ _ _ hC h2
 |inr zf=>
  obtain⟨z,f⟩:=zf;rw[hs]at h1 h2;obtain⟨hw,hv⟩:=h1;rw[if_pos hw];refine Or.inl ?_;unfold Oper.wp;rw[hv w hC.1];simp only[Oper.upon];obtain⟨n1,n2⟩:=hC.new hst z;exact h _ _ _ n2 (h2 _ n1 (hn w hC.1))
theorem z60.of_same{o:Oper}{a a':Act}{s:z6k}(h:z60 P ops C o a s)(he:execOp a'.eval o=execOp a.eval o)(hw:Region.wanted o (yielded ops a'.tmps)=Region.wanted o (yielded ops a.tmps)):z60 P ops C o a' s:=by
 cases s with
 |inl v=>unfold z60 at*;rw[he,hw];exact h
 |inr zf=>obtain⟨z,f⟩:=zf;unfold z60 at*;rw[he,hw];exact h
theorem z6j.mono{o:Oper}{K K':Act->FB->Prop}{a:Act}{B:FB}{s:z6k}(h:z6j n0 o K a B s)(hk: ∀v B',(B'=B\/ ∃L z,B L=none/\B'=FB.upd B L z)->K (a.put o.dst v) B'->K' (a.put o.dst v) B'):z6j n0 o K' a B s:=by
 cases s with
 |inl v=>exact hk v B (Or.inl rfl) h
 |inr zf=>
  obtain⟨z,f⟩:=zf;exact fun L h1 h2=>hk _ _ (Or.inr ⟨L,z,h1,rfl⟩) (h L h1 h2)
theorem z6j.swap{oi oj:Oper}{K:Act->FB->Prop}{a:Act}{B:FB}{si sj:z6k}(hap: ∀d,oi.dst=some d->oj.dst≠some d)(h:z6j n0 oi (fun a' B'=>z6j n0 oj K a' B' sj) a B si):
  z6j n0 oj (fun a' B'=>z6j n0 oi K a' B' si) a B sj:=by
 cases si with
 |inl v=>
  cases sj with
  |inl u=>
   have h':K ((a.put oi.dst v).put oj.dst u) B:=h;show K ((a.put oj.dst u).put oi.dst v) B;rw[<-Act.put_comm a v u hap];exact h'
  |inr zf=>
   obtain⟨z,f⟩:=zf;have h': ∀L,B L=none->n0<=L->K ((a.put oi.dst v).put oj.dst (f L)) (FB.upd B L z):=h;show∀L,B L=none->n0<=L->K ((a.put oj.dst (f L)).put oi.dst v) (FB.upd B L z);intro L h1 h2;rw[<-Act.put_comm a v (f L) hap];exact h' L h1 h2
 |inr zg=>
  obtain⟨z',g⟩:=zg
  cases sj with
  |inl u=>
   have h': ∀L,B L=none->n0<=L->K ((a.put oi.dst (g L)).put oj.dst u) (FB.upd B L z'):=h;show∀L,B L=none->n0<=L->K ((a.put oj.dst u).put oi.dst (g L)) (FB.upd B L z');intro L h1 h2;rw[<-Act.put_comm a (g L) u hap];exact h' L h1 h2
  |inr zf=>
   obtain⟨z,f⟩:=zf;have h': ∀L,B L=none->n0<=L-> ∀L',FB.upd B L z' L'=none->n0<=L'->K ((a.put oi.dst (g L)).put oj.dst (f L')) (FB.upd (FB.upd B L z') L' z):=h;show∀L',B L'=none->n0<=L'-> ∀L,FB.upd B L' z L=none->n0<=L->K ((a.put oj.dst (f L')).put oi.dst (g L)) (FB.upd (FB.upd B L' z) L z');intro L' h1 h2 L h3 h4;obtain⟨e1,e2⟩:=FB.upd_none h3;rw[<-Act.put_comm a (g L) (f L') hap, <-FB.upd_comm B e1];exact h' L e2 h4 L' (FB.none_upd (fun e=>e1 e.symm) h1) h2
theorem z6j.some{o:Oper}{K:Act->FB->Prop}{a:Act}{B:FB}{s:z6k}(hf:FB.Fin B)(h:z6j n0 o K a B s): ∃v B',(B'=B\/ ∃L z,B L=none/\B'=FB.upd B L z)/\K (a.put o.dst v) B':=by
 cases s with
 |inl v=>exact⟨v,B,Or.inl rfl,h⟩
 |inr zf=>
  obtain⟨z,f⟩:=zf;obtain⟨L,h1,h2⟩:=hf.fresh n0;exact⟨f L,_,Or.inr ⟨L,z,h1,rfl⟩,h L h1 h2⟩
theorem zX1{B B':FB}(hf:FB.Fin B)(h:B'=B\/ ∃L z,B L=none/\B'=FB.upd B L z):FB.Fin B':=by
 rcases h with rfl|⟨L,z, -,rfl⟩
 ·exact hf
 exact hf.upd L z
theorem zFe{sp:Nat->z6k}{n i:Nat}{oi:Oper}{L:Array Bool->Act->FB->Prop}(hi:ops[i]?=some oi)(hsel: ∀(j:Nat)(o:Oper) cs b,ops[j]?=some o->o.op≠ .select cs b)(hin:i<n)
  (hdone: ∀listed a B,L listed a B-> ∀j∈Region.ready md ops listed,n<=j):
  ∀(f:Nat)(listed:Array Bool)(a:Act)(B:FB),FB.Fin B->HeadInv md ops n listed->
   (∀j oj,ops[j]?=some oj->j≠i->listed.getD j true=false->(∀e∈oj.after,Region.binds md e=true->e.on≠i)->oi.apart ops oj=true)->
   i∈Region.ready md ops listed->z60 P ops C oi a (sp i)->
   z6j n0 oi (z7e P md ops C n0 sp n L f (listed.setIfInBounds i true)) a B (sp i)->z7e P md ops C n0 sp n L (f+1) listed a B:=by
 intro f;induction f with
 |zero=>
  intro listed a B hfin inv _ hr hy H;refine⟨⟨i,hr,hin⟩,fun j hj hjn=>?_⟩
  by_cases hji:j=i
  ·subst hji
   unfold fOp;simp only[hi];exact⟨hy,H⟩
  ·obtain⟨v,B', -,hK⟩:=H.some hfin
   have:=hdone _ _ _ hK j (ready_mono hj hji);omega
 |succ f ih=>
  intro listed a B hfin inv hfree hr hy H;have hun:=(mem_ready.1 hr).1;refine⟨⟨i,hr,hin⟩,fun j hj hjn=>?_⟩
  by_cases hji:j=i
  ·subst hji
   unfold fOp;simp only[hi];exact⟨hy,H⟩
  ·obtain⟨hjun,oj,hoj,hall⟩:=mem_ready.1 hj
   have hnot: ∀e∈oj.after,Region.binds md e=true->e.on≠i:=fun e he hb heq=>by
    have h1:=hall e he hb;rw[heq,getD_both hun]at h1
    cases h1
   obtain⟨p1,p2,p3⟩:=Oper.apart_spec (hfree j oj hoj hji hjun hnot)
   have hfree': ∀k ok,ops[k]?=some ok->k≠i->(listed.setIfInBounds j true).getD k true=false->
     (∀e∈ok.after,Region.binds md e=true->e.on≠i)->oi.apart ops ok=true:=fun k ok hk hki hun hno=>by
    refine hfree k ok hk hki ?_ hno
    by_cases hjk:j=k
    ·subst hjk;exact hjun
    ·rw[getD_set_ne true hjk]at hun;exact hun
   -- what is told of j, behind i
   have hjr:j∈Region.ready md ops (listed.setIfInBounds i true):=ready_mono hj hji
   have step: ∀a' B',z7e P md ops C n0 sp n L (f+1) (listed.setIfInBounds i true) a' B'->z60 P ops C oj a' (sp j)/\z6j n0 oj (z7e P md ops C n0 sp n L f ((listed.setIfInBounds i true).setIfInBounds j true)) a' B' (sp j):=by
    intro a' B' h;have:=h.2 j hjr hjn;unfold fOp at this;simp only[hoj]at this;exact this
   have hold:z60 P ops C oj a (sp j):=by
    obtain⟨v,B', -,hK⟩:=H.some hfin;exact(step _ _ hK).1.of_same (execOp_put oj (fun cs b=>hsel j oj cs b hoj) a oi.dst v p1).symm (wanted_put oj a oi.dst v p1).symm
   have nxt:z6j n0 oi (fun a' B'=>z6j n0 oj (z7e P md ops C n0 sp n L f ((listed.setIfInBounds j true).setIfInBounds i true)) a' B' (sp j)) a B (sp i):=by
    refine H.mono fun v B' _ hK=>?_;rw[<-Array.setIfInBounds_comm _ _ (fun e=>hji e.symm)];exact(step _ _ hK).2
   unfold fOp;simp only[hoj];refine⟨hold,(nxt.swap p2).mono fun v B' hB' hK=>?_⟩;exact ih (listed.setIfInBounds j true) _ B' (zX1 hfin hB') (inv.set hj hjn) hfree' (ready_mono hr (Ne.symm hji)) (hy.of_same (execOp_put oi (fun cs b=>hsel i oi cs b hi) a oj.dst v p3) (wanted_put oi a oj.dst v p3)) hK
def wpF(P:Program)(ops:Array Oper)(C:World->Prop)(n0:Nat)(Q:Act->FB->Prop):List Oper->List z6k->Act->FB->Prop
 |[],_,a,B=>Q a B
 |_::_,[],_,_=>False
 |o::l,s::ss,a,B=>z60 P ops C o a s/\z6j n0 o (fun a' B'=>wpF P ops C n0 Q l ss a' B') a B s
theorem zCd{n g:Nat}{Lq:Act->FB->Prop}{sp:Nat->z6k}(hsel:Region.noSelect ops=true):
  ∀(l:List Oper)(ss:List z6k)(k:Nat)(listed:Array Bool)(a:Act)(B:FB),FB.Fin B->(∀j,j<l.length->l[j]?=ops[k+j]?)->(∀j,j<l.length->ss[j]?=some (sp (k+j)))->k+l.length=n->HeadInv md ops n listed->
  Region.lexHead md ops g l.length k listed=true->wpF P ops C n0 Lq l ss a B->
  z7e P md ops C n0 sp n (fun listed' a' B'=>Region.seqB md ops g n listed'=true/\Lq a' B') l.length listed a B
 |[],_,k,listed,a,B,_,_,_,hk,_,hB,h=>by
  have:k=n:=by simpa using hk
  subst this;exact⟨by simpa[Region.lexHead]using hB,h⟩
 |o::l,[],k,listed,a,B,_,_,_,_,_,_,h=>absurd h (by simp[wpF])
 |o::l,s::ss,k,listed,a,B,hfin,hl,hsp,hk,inv,hB,h=>by
  have h0:ops[k]?=some o:=by simpa using(hl 0 kS).symm
  have s0:s=sp k:=by simpa using hsp 0 kS
  simp only[lQ,Region.lexHead,Bool.and_eq_true]at hB;obtain⟨⟨hr,hf⟩,hB'⟩:=hB;have hkn:k<n:=by simp only[lQ]at hk;omega
  have hr':k∈Region.ready md ops listed:=by simpa using hr
  obtain⟨hy,hK⟩:=h;subst s0
  exact zFe h0 (Region.noSelect_spec hsel) hkn (fun listed' a' B' hL=>seqB_ready hL.1) l.length listed a B hfin inv (Region.free_spec h0 hf) hr' hy
   (hK.mono fun v B' hB2 h'=>zCd hsel l ss (k+1) _ _ B' (zX1 hfin hB2) (fun j hj=>by have:=hl (j+1) kZ;simpa[Nat.add_assoc,Nat.add_comm 1 j]using this)
    (fun j hj=>by have:=hsp (j+1) kZ;simpa[Nat.add_assoc,Nat.add_comm 1 j]using this) (by simp only[lQ]at hk;omega) (inv.set hr' hkn) hB' h')
def zX2(md:Region.Mode)(ops:Array Oper)(n:Nat)(lz:List Nat):Bool:=
 lz.all fun i=>decide (i<n)&&match ops[i]? with
  |some o=>(o.guard.isNone&&match o.op with| .extract .. =>true|_=>false)&&(List.range ops.size).all fun j=>j==i||Region.waitsFor md ops j i||Region.waitsFor md ops i j||match ops[j]? with
   |some oj=>o.apart ops oj
   |none=>true
  |none=>false
def zYu(md:Region.Mode)(ops:Array Oper)(n:Nat)(lz:List Nat):Bool:=
 (List.range n).all fun i=>lz.contains i||(List.range (n+1)).any fun j=>decide (i<j)&&(j==n||!lz.contains j)&&Region.waitsFor md ops j i
theorem z98{o:Oper}{x:Operand}{k:Nat}(ho:o.op= .extract x k)(ρ:Operand->Value)(w w' w1:World)(u:Value)(h:(execOp ρ o).run P w= .ok (.value u) w1):w1=w/\(execOp ρ o).run P w'= .ok (.value u) w':=by
 unfold execOp at h⊢;simp only[ho]at h⊢
 cases hx:ρ x<;>simp[hx,Instr.extract]at h⊢
 all_goals first|(split at h<;>simp_all)|simp_all
theorem zFo{n:Nat}{lz:List Nat}{listed:Array Bool}(hs:zYu md ops n lz=true)(hc:Region.chainB md ops n=true)(hn:n<ops.size)(inv:HeadInv md ops n listed):
  ∀(d i:Nat),n-i=d->i<n->i∉lz->listed.getD i true=false-> ∀t,n<=t->t∉Region.ready md ops listed:=by
 intro d;induction d using Nat.strongRecOn with
 |_ d ih=>
  intro i hd hi hz hun t ht hr;obtain⟨_,ot,hot,hall⟩:=mem_ready.1 hr;have htlt:t<ops.size:=(Array.getElem?_eq_some_iff.1 hot).1
  by_cases htn:t=n
  ·subst htn
   have h1:=List.all_eq_true.1 hs i (List.mem_range.2 hi);simp only[Bool.or_eq_true,List.contains_eq_mem,decide_eq_true_eq]at h1;obtain⟨j,hj,hj2⟩:=List.any_eq_true.1 (h1.resolve_left hz);simp only[Bool.and_eq_true,decide_eq_true_eq,Bool.or_eq_true,beq_iff_eq,Bool.not_eq_true',decide_eq_false_iff_not]at hj2;obtain⟨oj,hoj,e,he,hb,hon⟩:=Region.waitsFor_spec hj2.2;have hjle:j<=t:=by have:=List.mem_range.1 hj;omega
   by_cases hjt:j=t
   ·subst hjt
    have:oj=ot:=Option.some.inj (hoj.symm.trans hot);subst this;have h2:=hall e he hb;rw[hon,getD_both hun]at h2
    cases h2
   ·cases hl:listed.getD j false with
    |true=>
     have h2:=inv.closed j oj hoj hl e he hb;rw[hon,getD_both hun]at h2
     cases h2
    |false=>
     have hjs:j<listed.size:=by rw[inv.size];omega
     exact ih (t-j) kO j rfl kO (hj2.1.2.resolve_left hjt) (getD_in hjs hl) t (Nat.le_refl _) hr
  ·have h1:=List.all_eq_true.1 hc t (List.mem_range.2 htlt)
   simp only[Bool.or_eq_true,decide_eq_true_eq]at h1;rcases h1 with h1|h1
   ·omega
   ·obtain⟨o',ho',e,he,hb,hon⟩:=Region.waitsFor_spec h1
    have:o'=ot:=Option.some.inj (ho'.symm.trans hot);subst this;have h2:=hall e he hb;rw[hon,getD_both (inv.tail (t-1) kO kO)]at h2
    cases h2
theorem z4q{sp:Nat->z6k}{n g:Nat}{lz:List Nat}{L:Array Bool->Act->FB->Prop}{Q':Exit->Act->World->Prop}(hst: ∀w w',C w->Below w.heap.size w w'->C w')(hn0: ∀w,C w->n0<=w.heap.size)
  (hsel:Region.noSelect ops=true)(hz:zX2 md ops n lz=true)(hs:zYu md ops n lz=true)(hc:Region.chainB md ops n=true)(hn:n<ops.size)
  (hQ: ∀d v c a w,Q' (.panic c) (a.put d v) w->Q' (.panic c) a w)
  (hL: ∀listed a B w,ClsB C B w->L listed a B->wpAny P md ops Q' g listed a w):
  ∀(f:Nat)(listed:Array Bool)(a:Act)(B:FB)(w:World),HeadInv md ops n listed->ClsB C B w->z7e P md ops C n0 sp n L f listed a B->wpAny P md ops Q' (f+g) listed a w
 |0,listed,a,B,w,_,hC,h=>by rw[Nat.zero_add];exact hL _ _ _ _ hC h
 |f+1,listed,a,B,w,inv,hC,h=>by
  rw[show f+1+g=(f+g)+1 by omega]
  by_cases hl: ∃i,i∈Region.ready md ops listed/\i∈lz
  ·obtain⟨i,hir,hiz⟩:=hl
   have h1:=List.all_eq_true.1 hz i hiz;obtain⟨hun,oi,hoi,hall⟩:=mem_ready.1 hir;simp only[Bool.and_eq_true,decide_eq_true_eq,hoi,Option.isNone_iff_eq_none]at h1;obtain⟨hin,⟨hg,hop⟩,hfr⟩:=h1;have hf:=h.2 i hir hin;unfold fOp at hf;simp only[hoi]at hf
   obtain⟨x,k,ho⟩: ∃x k,oi.op= .extract x k:=by
    cases hh:oi.op<;>simp only[hh]at hop<;>first|exact⟨_,_,rfl⟩|cases hop
   have hwt:Region.wanted oi (yielded ops a.tmps)=true:=by unfold Region.wanted;rw[hg]
   have key: ∃v,Yields P ops oi v a/\z7e P md ops C n0 sp n L f (listed.setIfInBounds i true) (a.put oi.dst v) B:=by
    cases hsp:sp i with
    |inl v=>
     rw[hsp]at hf;refine⟨v,Or.inl ⟨hwt,fun w'=>?_⟩,hf.2⟩;rcases hf.1 with⟨-,hv⟩|⟨hw, -⟩
     ·have h3:=hv w hC.1
      cases hr:(execOp a.eval oi).run P w with
      |ok nx w1=>
       rw[hr]at h3
       cases nx<;>simp only[zAn]at h3
       case value u=>obtain⟨e1,e2⟩:=h3;rw[e2]at hr;exact(z98 ho a.eval w w' w1 v hr).2
       case skip=>
        exfalso
        unfold execOp at hr;simp only[ho]at hr
        cases hx:a.eval x<;>simp[hx,Instr.extract]at hr
        all_goals(split at hr<;>simp_all)
       case enter f args=>
        exfalso
        unfold execOp at hr;simp only[ho]at hr
        cases hx:a.eval x<;>simp[hx,Instr.extract]at hr
        all_goals(split at hr<;>simp_all)
      |halt x w1=>rw[hr]at h3;simp only[zAn]at h3
     ·rw[hwt]at hw;cases hw
    |inr zf=>
     obtain⟨z,fz⟩:=zf;rw[hsp]at hf;have h3:=hf.1.2 w hC.1;have h4:=(z98 ho a.eval w w _ _ h3).1;have h5:(w.alloc z).heap.size=w.heap.size:=by rw[h4]
     simp at h5
   obtain⟨v,hy,hK⟩:=key;refine wpAny_first hoi (Region.noSelect_spec hsel) (fun c a w=>hQ oi.dst v c a w) (f+g) listed a w (fun j oj hj hji hunj hno=>?_) hir hy (z4q hst hn0 hsel hz hs hc hn hQ hL f _ _ B w (inv.set hir hin) hC hK);have h6:=List.all_eq_true.1 hfr j (List.mem_range.2 (Array.getElem?_eq_some_iff.1 hj).1);simp only[Bool.or_eq_true,beq_iff_eq,hji,false_or,hj]at h6;rcases h6 with(h6|h6)|h6
   ·obtain⟨o',ho',e,he,hb,hon⟩:=Region.waitsFor_spec h6
    have:o'=oj:=Option.some.inj (ho'.symm.trans hj);subst this;exact absurd hon (hno e he hb)
   ·obtain⟨o',ho',e,he,hb,hon⟩:=Region.waitsFor_spec h6
    have:o'=oi:=Option.some.inj (ho'.symm.trans hoi);subst this;have h7:=hall e he hb;rw[hon,getD_both hunj]at h7
    cases h7
   ·exact h6
  ·obtain⟨⟨i0,hi0,hi0n⟩,hstep⟩:=h
   have hun0:=(mem_ready.1 hi0).1;have hi0z:i0∉lz:=fun e=>hl ⟨i0,hi0,e⟩;refine⟨fun h0=>(by rw[h0]at hi0;cases hi0),fun i hi=>?_⟩
   have hin:i<n:=by
    rcases Nat.lt_or_ge i n with h|h
    ·exact h
    ·exact absurd hi (zFo hs hc hn inv _ i0 rfl hi0n hi0z hun0 i h)
   exact zHi hst hn0 hC (fun a' B' w' hC' h'=>z4q hst hn0 hsel hz hs hc hn hQ hL f _ a' B' w' (inv.set hi hin) hC' h') (hstep i hi hin)
def zD9(ops:Array Oper)(n:Nat)(lz:List Nat):Bool:=
 Region.noSelect ops&&decide (n<ops.size)&&zX2 .any ops n lz&&zYu .any ops n lz&&Region.chainB .any ops n&&Region.lexHead .any ops (ops.size-n) n 0 (Array.replicate ops.size false)
theorem zA5{id:Nat}{Q:Exit->Act->World->Prop}{a:Act}{w:World}{l:List Oper}(n:Nat)(lz:List Nat)(ss:List z6k)(hm:P.follows .mixedOrders=true)(hB:zD9 l.toArray n lz=true)(hlen:ss.length=n)
  (hQ: ∀d v c a w,Q (.panic c) (a.put d v) w->Q (.panic c) a w)
  (hst: ∀w w',C w->Below w.heap.size w w'->C w')(hn0: ∀w,C w->n0<=w.heap.size)(hC:C w.drew)
  (h:wpF P l.toArray C n0 (fun a' B=> ∀w',C w'->(∀L z,B L=some z->w'.heap[L]?=some z)->wpList P l.toArray Q (l.drop n) a' w') (l.take n) ss a (fun _=>none)):(Code.region id l.toArray true).wp P Q a w:=by
 simp only[zD9,Bool.and_eq_true,decide_eq_true_eq]at hB;obtain⟨⟨⟨⟨⟨hsel,hn⟩,hz⟩,hs⟩,hc⟩,hlex⟩:=hB;have hn':n<l.length:=by simpa using hn
 have htl:(l.take n).length=n:=kZ;have hdl:(l.drop n).length=l.toArray.size-n:=by simp
 have inv0:HeadInv .any l.toArray n (Array.replicate l.toArray.size false):=
  ⟨by simp,fun j oj _ hl=>(by rw[getD_replicate_false]at hl;cases hl),fun t _ ht=>getD_in (by simpa using ht) (getD_replicate_false _ _)⟩
 have H:=zCd (md:= .any) (g:=l.toArray.size-n) (sp:=fun j=>ss.getD j (.inl undef)) hsel (l.take n) ss 0 _ a (fun _=>none) ⟨0,fun _ _=>rfl⟩ (fun j hj=>by
  have hj':j<n:=by rw[htl]at hj;exact hj
  simp[hj']) (fun j hj=>by
  have hj':j<ss.length:=by rw[htl]at hj;omega
  simp[hj']) (by simpa using htl) inv0 (by rw[htl];exact hlex) h
 refine wp_region_any hm ?_
 have:=z4q (Q':=Q) (g:=l.toArray.size-n) hst hn0 hsel hz hs hc hn hQ (fun listed a' B w' hC' hL=>by
  have:=wpAny_of_seq (md:= .any) (Q':=Q) (l.drop n) n listed a' w' (fun j=>by simp[List.getElem?_drop]) (by rw[hdl];exact hL.1) (hL.2 w' hC'.1 hC'.2);rwa[hdl]at this) _ _ _ _ _ inv0 (⟨hC,fun _ _ h=>by cases h⟩:ClsB C (fun _=>none) w.drew) H
 rw[htl,show n+(l.toArray.size-n)=l.toArray.size by omega]at this;exact this
end
end
section
open Go.RowKit
section
variable {P:Program} {ops:Array Oper} {C:World->Prop} {n0:Nat}
def wpQ(P:Program)(ops:Array Oper)(C:World->Prop)(K:Act->Prop):List Oper->Act->Prop
 |[],a=>K a
 |o::l,a=> ∃v,z60 P ops C o a (.inl v)/\wpQ P ops C K l (a.put o.dst v)
def z6y(L:Nat):Value:= pT (some ⟨L,0,none⟩)
def zHj(n0:Nat)(K:Act->FB->Prop):List Oper->List Obj->Act->FB->Prop
 |o::l,z::zs,a,B=> ∀L,B L=none->n0<=L->zHj n0 K l zs (a.put o.dst (z6y L)) (FB.upd B L z)
 |_,_,a,B=>K a B
def zCb(P:Program)(C:World->Prop):List Oper->List Obj->Prop
 |o::l,z::zs=>(o.guard=none/\ ∀(a:Act) w,C w->(execOp a.eval o).run P w= .ok (.value (z6y w.heap.size)) (w.alloc z))/\zCb P C l zs
 |[],[]=>True
 |_,_=>False
theorem zHn{o:Oper}(h:o.guard=none)(y:Nat->Option Bool):Region.wanted o y=true:=by unfold Region.wanted;rw[h]
theorem zP0{K:Act->FB->Prop}: ∀(l:List Oper)(zs:List Obj)(a:Act)(B:FB),zCb P C l zs->zHj n0 K l zs a B->wpF P ops C n0 K l (zs.map fun z=> .inr (z,z6y)) a B
 |[],[],_,_,_,h=>h
 |[],_::_,_,_,hz,_=>absurd hz (by simp[zCb])
 |_::_,[],_,_,hz,_=>absurd hz (by simp[zCb])
 |o::l,z::zs,a,B,hz,h=>⟨⟨zHn hz.1.1 _,hz.1.2 a⟩,fun L h1 h2=>zP0 l zs _ _ hz.2 (h L h1 h2)⟩
theorem zGh: ∀{l:List Oper}{zs:List Obj},zCb P C l zs->l.length=zs.length
 |[],[],_=>rfl
 |[],_::_,h=>absurd h (by simp[zCb])
 |_::_,[],h=>absurd h (by simp[zCb])
 |_::l,_::zs,h=>by simp[zGh h.2]
theorem zWm{K:Act->FB->Prop}{l2:List Oper}{zs:List Obj}(hz:zCb P C l2 zs){B:FB}: ∀(l1:List Oper)(a:Act),wpQ P ops C (fun a'=>zHj n0 K l2 zs a' B) l1 a-> ∃ss:List z6k,ss.length=l1.length+l2.length/\wpF P ops C n0 K (l1++l2) ss a B
 |[],a,h=>⟨_,by simp[zGh hz],zP0 l2 zs a B hz h⟩
 |o::l1,a,⟨v,h1,h2⟩=>by
  obtain⟨ss,e,h⟩:=zWm hz l1 _ h2;exact⟨.inl v::ss,by simp[e];omega,h1,h⟩
theorem z0o{id:Nat}{Q:Exit->Act->World->Prop}{a:Act}{w:World}{l:List Oper}(n:Nat)(lz:List Nat)(zs:List Obj)(hm:P.follows .mixedOrders=true)(hB:zD9 l.toArray (n+zs.length) lz=true)(hQ: ∀d v c a w,Q (.panic c) (a.put d v) w->Q (.panic c) a w)
  (hst: ∀w w',C w->Below w.heap.size w w'->C w')(hn0: ∀w,C w->n0<=w.heap.size)(hC:C w.drew)(hz:zCb P C ((l.drop n).take zs.length) zs)
  (h:wpQ P l.toArray C (fun a'=>zHj n0 (fun a2 B=> ∀w',C w'->(∀L z,B L=some z->w'.heap[L]?=some z)->wpList P l.toArray Q (l.drop (n+zs.length)) a2 w') ((l.drop n).take zs.length) zs a' (fun _=>none)) (l.take n) a):
  (Code.region id l.toArray true).wp P Q a w:=by
 have hn:n+zs.length<l.length:=by
  have:=hB;simp only[zD9,Bool.and_eq_true,decide_eq_true_eq]at this;simpa using this.1.1.1.1.2
 obtain⟨ss,e,hF⟩:=zWm hz _ _ h;have el:l.take n++(l.drop n).take zs.length=l.take (n+zs.length):=(List.take_add).symm;rw[el]at hF;refine zA5 (n+zs.length) lz ss hm hB ?_ hQ hst hn0 hC hF;rw[e];simp;omega
theorem z11{K:Act->Prop}{a:Act}(h:K a):wpQ P ops C K [] a:=h
theorem z0c{K:Act->Prop}{o:Oper}{l:List Oper}{a:Act}{v:Value}(hw:Region.wanted o (yielded ops a.tmps)=true)(hy: ∀w,C w->(execOp a.eval o).run P w= .ok (.value v) w)(h:wpQ P ops C K l (a.put o.dst v)):wpQ P ops C K (o::l) a:=
 ⟨v,Or.inl ⟨hw,fun w hC=>by rw[hy w hC];exact⟨rfl,rfl⟩⟩,h⟩
theorem z18{K:Act->Prop}{o:Oper}{l:List Oper}{a:Act}(hw:Region.wanted o (yielded ops a.tmps)=true)(h: ∃v,(∀w,C w->zAn P w v ((execOp a.eval o).run P w))/\wpQ P ops C K l (a.put o.dst v)):wpQ P ops C K (o::l) a:=by
 obtain⟨v,h1,h2⟩:=h;exact⟨v,Or.inl ⟨hw,h1⟩,h2⟩
theorem z0q{K:Act->Prop}{o:Oper}{l:List Oper}{a:Act}(hw:Region.wanted o (yielded ops a.tmps)=false)(h:wpQ P ops C K l (a.put o.dst undef)):wpQ P ops C K (o::l) a:=⟨undef,Or.inr ⟨hw,rfl⟩,h⟩
theorem z1k{f:FuncId}{args:Array Value}{w:World}{v:Value}(h:Calls P f args w fun e w''=>e= rT v/\Below w.heap.size w w''):zAn P w v (.ok (.enter f args) w):=⟨rfl,h⟩
theorem FB.at_new(B:FB)(L:Nat)(z:Obj):FB.upd B L z L=some z:=if_pos rfl
theorem FB.at_old{B:FB}{L L':Nat}{z z':Obj}(h:L'≠L)(h':B L'=some z'):FB.upd B L z L'=some z':=(if_neg h).trans h'
end
end
section
section
variable {P:Program} {md:Region.Mode} {ops:Array Oper} {Q:Exit->Act->World->Prop} {S:World->Prop}
theorem takeH{i:Nat}{oi:Oper}(d:Option Tmp)(v:Value){fuel:Nat}{listed:Array Bool}{a:Act}{w:World}(hi:ops[i]?=some oi)(hd:oi.dst=d)
  (hs:Region.noSelect ops=true)(hf:Region.free md ops listed i=true)(hr:(Region.ready md ops listed).contains i=true)
  (hQ: ∀c a w,Q (.panic c) (a.put oi.dst v) w->Q (.panic c) a w)(hw:Region.wanted oi (yielded ops a.tmps)=true)(hy: ∀w,S w->(execOp a.eval oi).run P w= .ok (.value v) w)(hS:S w)
  (h:wpAnyH P md ops Q S fuel (listed.setIfInBounds i true) (a.put d v) w):wpAnyH P md ops Q S (fuel+1) listed a w:=by
 subst hd;exact wpAnyH_take hi hs hf hr hQ (Or.inl ⟨hw,hy⟩) hS h
theorem tkH{i:Nat}{oi:Oper}(d:Option Tmp)(v:Value){fuel:Nat}{listed:Array Bool}{a:Act}{w:World}(hi:ops[i]?=some oi)(hd:oi.dst=d)(hy: ∀w,S w->(execOp a.eval oi).run P w= .ok (.value v) w)(hS:S w)
  (h:wpAnyH P md ops Q S fuel (listed.setIfInBounds i true) (a.put d v) w)(hs:Region.noSelect ops=true:=by kernel_rfl)(hf:Region.free md ops listed i=true:=by kernel_rfl)(hr:(Region.ready md ops listed).contains i=true:=by kernel_rfl)
  (hQ: ∀c a w,Q (.panic c) (a.put oi.dst v) w->Q (.panic c) a w:=by exact fun _ _ _ h=>h)(hw:Region.wanted oi (yielded ops a.tmps)=true:=by rfl):wpAnyH P md ops Q S (fuel+1) listed a w:=
 takeH d v hi hd hs hf hr hQ hw hy hS h
theorem z24{fuel:Nat}{listed:Array Bool}{a:Act}{w:World}{i:Nat}{o:Oper}{rs:List Nat}(d:Option Tmp)(v:Value)(w':World)(ho:ops[i]?=some o)(hd:o.dst=d)
  (hw:Region.wanted o (yielded ops a.tmps)=true)(hrun:(execOp a.eval o).run P w= .ok (.value v) w')(hS:S w')
  (h:wpAnyH P md ops Q S fuel (listed.setIfInBounds i true) (a.put d v) w')
  (hs:AllReadyH P md ops Q S fuel listed a w rs):AllReadyH P md ops Q S fuel listed a w (i::rs):=by
 subst hd;refine AllReadyH.cons ho (fun K hK=>?_) hs;rw[if_pos hw];unfold Oper.wp;rw[hrun];exact hK.out _ _ hS fun _=>h
theorem z3b{fuel:Nat}{listed:Array Bool}{a:Act}{w:World}{i:Nat}{o:Oper}{rs:List Nat}(w':World)(ho:ops[i]?=some o)(hd:o.dst=none)
  (hw:Region.wanted o (yielded ops a.tmps)=true)(hrun:(execOp a.eval o).run P w= .ok .skip w')(hS:S w')
  (h:wpAnyH P md ops Q S fuel (listed.setIfInBounds i true) (a.put none undef) w')
  (hs:AllReadyH P md ops Q S fuel listed a w rs):AllReadyH P md ops Q S fuel listed a w (i::rs):=by
 refine AllReadyH.cons ho (fun K hK=>?_) hs;rw[if_pos hw];unfold Oper.wp;rw[hrun,Oper.upon_skip,hd];exact hK.out _ _ hS fun _=>h
end
end
section
open Go.RowKit
section
variable {P:Program} {id:Nat} {Q:Exit->Act->World->Prop} {a:Act} {W w:World} {F:MemL} {l:List Oper}
theorem flo(n:Nat)(lz:List Nat)(hM:Mm W F w)(hm:P.follows .mixedOrders=true)(hB:zD9 l.toArray n lz=true)(hQ: ∀d v c a w,Q (.panic c) (a.put d v) w->Q (.panic c) a w)
  (h:wpQ P l.toArray (Mm W F) (fun a'=> ∀w',Mm W F w'->wpList P l.toArray Q (l.drop n) a' w') (l.take n) a):(Code.region id l.toArray true).wp P Q a w:=
 z0o (n0:=0) n lz [] hm hB hQ (fun _ _ h hb=>h.later hb) (fun _ _=>Nat.zero_le _) hM.drew trivial (by
  have e:(fun a'=> ∀w',Mm W F w'->wpList P l.toArray Q (l.drop n) a' w')=fun a'=>zHj 0 (fun a2 B=> ∀w',Mm W F w'->(∀L z,B L=some z->w'.heap[L]?=some z)->wpList P l.toArray Q (l.drop (n+([]:List Obj).length)) a2 w') ((l.drop n).take ([]:List Obj).length) [] a' (fun _=>none):=by
   funext a';simp[zHj]
  rw[<-e];exact h)
end
theorem zKn{P:Program}{ops:Array Oper}{C:World->Prop}{K K':Act->Prop}(hk: ∀a,K a->K' a): ∀(l:List Oper)(a:Act),wpQ P ops C K l a->wpQ P ops C K' l a
 |[],a,h=>hk a h
 |o::l,a,⟨v,h1,h2⟩=>⟨v,h1,zKn hk l _ h2⟩
def wpNm(W:World)(K:Act->MemL->Prop):List Oper->List (Array Value×TypeId)->Act->MemL->Prop
 |o::l,z::zs,a,G=> ∀L,W.heap.size<=L->(∀x,x∈G->x.1≠L/\L≠x.1)->wpNm W K l zs (a.put o.dst (z6y L)) ((L,z.1,z.2)::G)
 |_,_,a,G=>K a G
def topM(W:World)(F:MemL):Nat:=F.foldr (fun x m=>max (x.1+1) m) W.heap.size
theorem zPl{W w:World}: ∀{F:MemL},Mm W F w->topM W F<=w.heap.size
 |[],h=>h.1.size
 |x::F,h=>by
  have h1:=zPl (F:=F) ⟨h.1,fun y hy=>h.2 y (mcO _ hy)⟩;have h2:=(Array.getElem?_eq_some_iff.1 (h.2 x mcS)).1;show max (x.1+1) (topM W F)<=_;omega
theorem zFl(W:World): ∀F:MemL,W.heap.size<=topM W F
 |[]=>Nat.le_refl _
 |x::F=>by
  have:=zFl W F;show _<=max (x.1+1) (topM W F);omega
theorem zPk(W:World): ∀(F:MemL)(x:Nat×Array Value×TypeId),x∈F->x.1<topM W F
 |y::F,x,hx=>by
  show _<max (y.1+1) (topM W F);rcases List.mem_cons.1 hx with rfl|hx
  ·omega
  ·have:=zPk W F x hx
   omega
theorem zOz{W:World}{F:MemL}{R:Act->World->Prop}: ∀(l:List Oper)(zs:List (Array Value×TypeId))(a:Act)(B:FB)(G:MemL),(∀L,topM W F<=L->B L=none-> ∀x,x∈G->x.1≠L)->(∀w',Mm W F w'->(∀L z,B L=some z->w'.heap[L]?=some z)->Mm W G w')->
  wpNm W (fun a G=> ∀w',Mm W G w'->R a w') l zs a G->zHj (topM W F) (fun a B=> ∀w',Mm W F w'->(∀L z,B L=some z->w'.heap[L]?=some z)->R a w') l (zs.map fun z=> cT z.1 z.2) a B
 |[],[],a,B,G,_,h2,h=>fun w' h3 h4=>h w' (h2 w' h3 h4)
 |[],_::_,a,B,G,_,h2,h=>fun w' h3 h4=>h w' (h2 w' h3 h4)
 |_::_,[],a,B,G,_,h2,h=>fun w' h3 h4=>h w' (h2 w' h3 h4)
 |o::l,z::zs,a,B,G,h1,h2,h=>fun L hB hL=>by
  refine zOz l zs _ _ ((L,z.1,z.2)::G) (fun L' hL' hB' x hx=>?_) (fun w' h3 h4=>?_) (h L (Nat.le_trans (zFl W F) hL) fun x hx=>⟨h1 L hL hB x hx,(h1 L hL hB x hx).symm⟩)
  ·obtain⟨e1,e2⟩:=FB.upd_none hB'
   rcases List.mem_cons.1 hx with rfl|hx
   ·exact e1.symm
   ·exact h1 L' hL' e2 x hx
  ·refine(h2 w' h3 fun L' z' e=>h4 L' z' (FB.at_old (fun e'=>?_) e)).cons (h4 L _ (FB.at_new _ _ _))
   rw[e',hB]at e;exact absurd e kS
section
variable {P:Program} {id:Nat} {Q:Exit->Act->World->Prop} {a:Act} {W w:World} {F:MemL} {l:List Oper}
theorem floN(n:Nat)(lz:List Nat)(zs:List (Array Value×TypeId))(hM:Mm W F w)(hm:P.follows .mixedOrders=true)(hB:zD9 l.toArray (n+zs.length) lz=true)(hQ: ∀d v c a w,Q (.panic c) (a.put d v) w->Q (.panic c) a w)
  (hz:zCb P (Mm W F) ((l.drop n).take zs.length) (zs.map fun z=> cT z.1 z.2))
  (h:wpQ P l.toArray (Mm W F) (fun a'=>wpNm W (fun a2 G=> ∀w',Mm W G w'->wpList P l.toArray Q (l.drop (n+zs.length)) a2 w') ((l.drop n).take zs.length) zs a' F) (l.take n) a):(Code.region id l.toArray true).wp P Q a w:=by
 have e:(zs.map fun z=>Obj.cells z.1 z.2).length=zs.length:=List.length_map _;refine z0o (n0:=topM W F) n lz (zs.map fun z=> cT z.1 z.2) hm (by rw[e];exact hB) hQ (fun _ _ h hb=>h.later hb) (fun _ h=>zPl h) hM.drew (by rw[e];exact hz) ?_;rw[e];refine zKn (fun a' h'=>?_) _ _ h;exact zOz _ _ _ _ _ (fun L hL _ x hx=>by have:=zPk W F x hx;omega) (fun w' h3 _=>h3) h'
end
structure Kont (S:Prop):Prop where
 out:S
theorem kQp{P:Prop}(h:P:=by(intro d _ _ _ _ h;cases d<;>exact h)):P:=h
structure Tg (i d:Nat) (v:Value):Prop where
 out:True
theorem tkA{P:Program}{md:Region.Mode}{ops:Array Oper}{Q:Exit->Act->World->Prop}{S:World->Prop}{i d:Nat}{v:Value}{oi:Oper}{fuel:Nat}{listed:Array Bool}{a:Act}{w:World}(t:Tg i d v)(hi:ops[i]?=some oi)(hd:oi.dst=some d)(hy: ∀w,S w->(execOp a.eval oi).run P w= .ok (.value v) w)(hS:S w)
  (h:wpAnyH P md ops Q S fuel (listed.setIfInBounds i true) (a.put (some d) v) w)(hs:Region.noSelect ops=true:=by kernel_rfl)(hf:Region.free md ops listed i=true:=by kernel_rfl)(hr:(Region.ready md ops listed).contains i=true:=by kernel_rfl)
  (hQ: ∀c a w,Q (.panic c) (a.put oi.dst v) w->Q (.panic c) a w:=by exact fun _ _ _ h=>h)(hw:Region.wanted oi (yielded ops a.tmps)=true:=by rfl):wpAnyH P md ops Q S (fuel+1) listed a w:=
 tkH (some d) v hi hd hy hS h hs hf hr hQ hw
theorem kTk(i d:Nat)(v:Value){P S:Prop}(q:S)(h:Tg i d v->Kont S->P:=by
 intro t kq;refine tkA t rfl rfl (fun V hV=>kG) hS ?_;simp only[pS];exact kq.out):P:=h ⟨trivial⟩ ⟨q⟩
end
section
open Go.ChangeShapes Go.WideShapes Go.ChangeAt Go.RowKit
set_option maxHeartbeats 40000000
set_option maxRecDepth 1000000
attribute [local simp] dwS
theorem kPr{P:Prop}(h:P:=by
 exact bodyPost_ret (by simp[results,Tryz.results117,Tryz.results86,Tryz.results65,Tryz.results136,Tryz.results137,Tryz.results152,Tryz.results135,Tryz.results130,Tryz.results138,go_sem, *];try rfl) rfl ⟨by first|rfl|(simp[*];done)|(simp[*];omega),kB⟩):P:=h
theorem kPa{P:Prop}(h:P:=by
 unfold zR;go_in
 go_wp2;exact kPr):P:=h
theorem z62(w:World):zR 117 #[] w (.agg #[A D (-9223372036854775808),A D 9223372036854775807]):=kPa
theorem z4f(n:Int)(w:World):zR 86 #[A D n] w (.agg #[A D n,A D n]):=kPa
theorem z8r(al ah bl bh:Int)(w:World):zR 65 #[.agg #[A D al,A D ah],.agg #[A D bl,A D bh]] w (.agg #[A D (min al bl),A D (max ah bh)]):=kPa
section
variable (a b:Int) (pa: -9223372036854775808<=a) (qa:a<=9223372036854775807) (pb: -9223372036854775808<=b) (qb:b<=9223372036854775807) (w:World)
theorem zY3(pa: -9223372036854775808<=a)(qa:a<=9223372036854775807)(pb: -9223372036854775808<=b)(qb:b<=9223372036854775807):zR 136 #[A D a,A D b] w (.agg #[A D (wrap64 (a+b)),.bool (fits (a+b))]):=by
 rw[<-zQi pa qa pb qb];clear pa qa pb qb;exact kPa
theorem zUl(pa: -9223372036854775808<=a)(qa:a<=9223372036854775807)(pb: -9223372036854775808<=b)(qb:b<=9223372036854775807):zR 137 #[A D a,A D b] w (.agg #[A D (wrap64 (a-b)),.bool (fits (a-b))]):=by
 rw[<-zNi pa qa pb qb];clear pa qa pb qb;exact kPa
theorem zOc(k:Int)(h0:0<=k)(h1:k<64):zR 152 #[A D a,A D k] w (.agg #[A D (wrap64 (a*2^k.toNat)),.bool (fits (a*2^k.toNat))]):=by
 rw[<-zBp (show k.toNat<64 by omega)];exact kPa
end
theorem zOv(x y:Int)(p q:Bool)(w:World):zR 135 #[.agg #[A D x,.bool p,A D y,.bool q]] w (.agg #[A D (if p&&q then x else-9223372036854775808),A D (if p&&q then y else 9223372036854775807)]):=by
 have i0: ∀w:World,(Instr.index 279 (.agg #[A D x,.bool p,A D y,.bool q]) (A D 0)).run tP w= .ok (.agg #[A D x,.bool p]) w:=fun w=>kR;have i1: ∀w:World,(Instr.index 279 (.agg #[A D x,.bool p,A D y,.bool q]) (A D 1)).run tP w= .ok (.agg #[A D y,.bool q]) w:=fun w=>kR
 cases p<;>cases q
 all_goals
  unfold zR;go_in
  go_wp2;refine wp_loop_rounds 3 ?_
  repeat any_goals(rw[rounds_succ];go_wp2_with(go_at_call 117;refine cR (z62 _) ?_;intro w1 hb1;have F:=lat hb1;simp at F;have hbw:Below w.heap.size w w1:=kT hb1))
  exact kPr
theorem zKg(u v:Int)(w:World):zR 135 #[.agg #[A D (wrap64 u),.bool (fits u),A D (wrap64 v),.bool (fits v)]] w (.agg #[A D ((fit2 u v).1),A D ((fit2 u v).2)]):=by
 rw[<-zX0, <-zWz];exact zOv _ _ _ _ w
theorem kCon{P:Prop}(h:P:=by first|(with_reducible exact zAi _ _)|(with_reducible exact z4f _ _)|(with_reducible exact H _)|(with_reducible exact H2 _)|(with_reducible exact z8r _ _ _ _ _)|(with_reducible exact zKg _ _ _)|(with_reducible refine zY3 _ _ _ ?_ ?_ ?_ ?_<;>omega)|(with_reducible refine zUl _ _ _ ?_ ?_ ?_ ?_<;>omega)|(with_reducible refine zOc _ _ _ ?_ ?_<;>omega)|(with_reducible refine zM2 _ _ _ _ ?_ ?_ ?_ _<;>omega)|(with_reducible refine zS.r (z6e _ _ _ ?_ ?_ _)<;>omega)|(with_reducible exact zI8 _ _)|(with_reducible exact zKv _ _ _ _ _)|(with_reducible exact rsz2 _)|(with_reducible exact rsz3 _)|(with_reducible exact rsz4 _)|(with_reducible refine zQc _ _ _ _ _ ?_ ?_ ?_ ?_ ?_ ?_ ?_ ?_ ?_ ?_ _ (hA.later hC.b)<;>omega)|(with_reducible refine zY1 _ _ _ _ ?_ ?_ ?_ _<;>omega)|(with_reducible refine zS.r (z9p _ _ ?_ ?_ ?_ ?_ _)<;>omega)|(with_reducible refine zS.r (z6u _ _ _ ?_ ?_ ?_ ?_ _)<;>omega)):P:=h
theorem kFl{R S:Prop}(q:S)(h:Kont S->R:=by
 intro kq;simp only[List.take_succ_cons,List.take_zero,List.drop_succ_cons,List.drop_zero,lQ,List.length_nil,Nat.reduceAdd]
 repeat(first
  |(refine z0q kI ?_;simp only[pS])
  |(refine z0c kI (v:= .agg (z0h y)) (fun w2 hC=>zR0 (hC.row (by with_reducible repeat(first|exact mcS|apply List.mem_cons_of_mem))) rfl rfl) ?_;simp only[pS])
  |(refine z0c kI (v:=?_) ?_ ?_;rotate_left;(intro w2 hC;have F:=hC.x;simp[Mx,mput,nz]at F;go_simp;try with_reducible rfl);simp only[pS])
  |(refine z18 kI ?_;apply Exists.intro;refine⟨fun w2 hC=>?_,?_⟩;(have F:=hC.x;simp[Mx,mput,nz]at F;go_simp;apply z1k;first|exact kCon|exact kCon2);simp only[pS]))
 refine z11 ?_
 (try simp only[wpNm,pS,z6y,List.forall_mem_cons,List.not_mem_nil,false_implies,implies_true,and_true])
 exact kq.out):R:=h ⟨q⟩
end
section
open Go.ChangeShapes Go.WideShapes Go.ChangeAt Go.RowKit
set_option maxHeartbeats 40000000
set_option maxRecDepth 1000000
attribute [local simp] dwS
abbrev bd(l h:Int):Value:= .agg #[A D l,A D h]
theorem kPe{P:Prop}(h:P:=by
 exact bodyPost_ret (by simp[results,Tryz.results139,Tryz.results140,Tryz.results141,Tryz.results142,Tryz.results143,Tryz.results144,Tryz.results130,go_sem, *];try rfl) rfl ⟨by first|rfl|(simp[*];done)|(simp[*];omega),kB⟩):P:=h
theorem kPt{P:Prop}(h:P:=by
 refine kFl ?_;intro w6 hC;have F:=hC.x;simp[Mx,mput,nz]at F;have hbw:=hC.1;go_wp2_with fail;exact kPe):P:=h
theorem kPw{P:Prop}(h:P:=by
 unfold zR bd;go_in
 go_wp2_with(first|(go_at_call 117;refine cR (z62 _) ?_;intro w1 hb1;have F:=lat hb1;simp at F;have hbw:Below w.heap.size w w1:=kT hb1)|(go_at_call 151;refine cS (zVf _ kO kO _) ?_)|(go_at_call 133;refine cS (z6e _ _ _ kO kO _) ?_)|(go_at_call 150;go_in));exact kPe):P:=h
theorem kPs{P:Prop}(h:P:=by
 obtain⟨pal,oa,qah,pbl,ob,qbh⟩:=hB;rcases dc (0<=al)with⟨ha,da⟩|⟨ha,da⟩<;>rcases dc (0<=bl)with⟨hb,db⟩|⟨hb,db⟩
 all_goals try(exfalso;omega)
 all_goals
  (try simp only[ha,hb,if_true,if_false,and_self,and_true,and_false,false_and])
  exact kPw):P:=h
section
variable (al ah bl bh:Int) (w:World)
theorem zIb(hB:Bds al ah bl bh):zR 139 #[bd al ah,bd bl bh] w (bd (bdV 5 al ah bl bh).1 (bdV 5 al ah bl bh).2):=by
 rw[zW7];rcases dc (0<bl)with⟨hp,dp⟩|⟨hp,dp⟩
 ·rcases dc (0<=al)with⟨ha,da⟩|⟨ha,da⟩
  ·obtain⟨pal,oa,qah,pbl,ob,qbh⟩:=hB
   have hb:0<=bl:=kO;have db:decide (0<=bl)=true:=kZ;rw[if_pos ⟨ha,hb⟩,if_pos hp, <-zA1 ha kO kO qbh, <-zA1 kO qah hp kO];unfold zR bd;go_in
   go_wp2_with(go_at_call 150;go_in);refine flo (W:=w) 11 [] kMm kR kR kQp ?_;exact kPt
  ·rw[if_neg (fun h=>ha h.1)]
   exact kPw
 rw[if_neg hp];exact kPs
theorem zXw(hB:Bds al ah bl bh):zR 140 #[bd al ah,bd bl bh] w (bd (bdV 6 al ah bl bh).1 (bdV 6 al ah bl bh).2):=by
 rw[zW6];rcases dc (0<bl)with⟨hp,dp⟩|⟨hp,dp⟩<;>simp only[hp,if_true,if_false]<;>exact kPs
theorem zRx(hB:Bds al ah bl bh):zR 141 #[bd al ah,bd bl bh] w (bd (bdV 7 al ah bl bh).1 (bdV 7 al ah bl bh).2):=by
 rw[zW5];exact kPs
def filV(lo al ah bl bh:Int):Int×Int:=if 0<=al/\0<=bl then(lo,z5z (max ah bh))else(-9223372036854775808,9223372036854775807)
theorem zRk(lo:Int)(hB:Bds al ah bl bh):zR 142 #[A D lo,bd al ah,bd bl bh] w (bd (filV lo al ah bl bh).1 (filV lo al ah bl bh).2):=by
 unfold filV;exact kPs
end
def shV(c al ah k:Int):Int×Int:=
 if c=10 then fit2 (al*2^k.toNat) (ah*2^k.toNat)else if c=11/\0<k/\al<0 then(0,z0t 11 (-1) k)else(z0t c al k,z0t c ah k)
def anyV(c al ah:Int):Int×Int:=
 if c=10 then(-9223372036854775808,9223372036854775807)else if 0<=al then(0,ah)else if c=11 then(-9223372036854775808,9223372036854775807)else if ah<0 then(al, -1)else(al,ah)
theorem zMs(c al ah k:Int)(hc:c=10\/c=11\/c=12)(h0:0<=k)(h1:k<64)(w:World):zR 143 #[A D c,bd al ah,A D k] w (bd (shV c al ah k).1 (shV c al ah k).2):=by
 unfold shV;rcases hc with rfl|rfl|rfl
 ·simp only[if_true]
  unfold zR bd;go_in
  go_wp2_with fail;refine flo (W:=w) 10 [] kMm kR kR kQp ?_;exact kPt
 ·simp only[Int.reduceEq,if_false,true_and]
  rcases dc (0<k)with⟨hk,dk⟩|⟨hk,dk⟩<;>rcases dc (al<0)with⟨ha,da⟩|⟨ha,da⟩<;>simp only[hk,ha,and_self,and_true,and_false,false_and,if_true,if_false]
  ·exact kPw
  all_goals
   unfold zR bd;go_in
   go_wp2_with fail;refine flo (W:=w) 11 [] kMm kR kR kQp ?_;exact kPt
 simp only[Int.reduceEq,if_false,false_and];unfold zR bd;go_in
 go_wp2_with fail;refine flo (W:=w) 11 [] kMm kR kR kQp ?_;exact kPt
theorem zDs(c al ah:Int)(hc:c=10\/c=11\/c=12)(w:World):zR 144 #[A D c,bd al ah] w (bd (anyV c al ah).1 (anyV c al ah).2):=by
 unfold anyV;rcases hc with rfl|rfl|rfl<;>rcases dc (0<=al)with⟨ha,da⟩|⟨ha,da⟩<;>rcases dc (ah<0)with⟨hb,db⟩|⟨hb,db⟩<;>simp only[ha,hb,Int.reduceEq,if_true,if_false]<;>exact kPw
end
section
open Go.ChangeShapes Go.WideShapes Go.ChangeAt Go.RowKit
set_option maxHeartbeats 40000000
set_option maxRecDepth 1000000
attribute [local simp] dwS
def Ix4(x0 x1 x2 x3:Int):Prop:= ∀w:World,(Instr.index 53 (.agg #[A D x0,A D x1,A D x2,A D x3]) (A D 0)).run tP w= .ok (A D x0) w/\(Instr.index 53 (.agg #[A D x0,A D x1,A D x2,A D x3]) (A D 1)).run tP w= .ok (A D x1) w/\(Instr.index 53 (.agg #[A D x0,A D x1,A D x2,A D x3]) (A D 2)).run tP w= .ok (A D x2) w/\(Instr.index 53 (.agg #[A D x0,A D x1,A D x2,A D x3]) (A D 3)).run tP w= .ok (A D x3) w
theorem ix4(x0 x1 x2 x3:Int):Ix4 x0 x1 x2 x3:=fun w=>⟨kR,kR,kR,kR⟩
def Ix3(x0 x1 x2:Int):Prop:= ∀w:World,(Instr.index 286 (.agg #[A D x0,A D x1,A D x2]) (A D 0)).run tP w= .ok (A D x0) w/\(Instr.index 286 (.agg #[A D x0,A D x1,A D x2]) (A D 1)).run tP w= .ok (A D x1) w/\(Instr.index 286 (.agg #[A D x0,A D x1,A D x2]) (A D 2)).run tP w= .ok (A D x2) w
theorem ix3(x0 x1 x2:Int):Ix3 x0 x1 x2:=fun w=>⟨kR,kR,kR⟩
theorem kPm{P:Prop}(h:P:=by
 have i4:=ix4 al ah bl bh;unfold Ix4 at i4;unfold zR bd;go_in
 go_wp2_with fail;refine wp_loop_rounds 5 ?_
 repeat any_goals(rw[rounds_succ];go_wp2_with(first|(go_at_call 117;refine cR (z62 _) ?_;intro w1 hb1;have F:=lat hb1;simp at F;have hbw:Below w.heap.size w w1:=kT hb1)|(go_at_call 149;go_in)))
 exact kPr):P:=h
theorem zQh(al ah bl bh:Int)(w:World)(h:(z2d al&&z2d ah&&z2d bl&&z2d bh)=false):zR 138 #[bd al ah,bd bl bh] w (bd (-9223372036854775808) 9223372036854775807):=by
 rcases dc (-2147483648<=al)with⟨l0,m0⟩|⟨l0,m0⟩
 rotate_left;exact kPm;rcases dc (al<=2147483648)with⟨l1,m1⟩|⟨l1,m1⟩
 rotate_left;exact kPm;rcases dc (-2147483648<=ah)with⟨l2,m2⟩|⟨l2,m2⟩
 rotate_left;exact kPm;rcases dc (ah<=2147483648)with⟨l3,m3⟩|⟨l3,m3⟩
 rotate_left;exact kPm;rcases dc (-2147483648<=bl)with⟨l4,m4⟩|⟨l4,m4⟩
 rotate_left;exact kPm;rcases dc (bl<=2147483648)with⟨l5,m5⟩|⟨l5,m5⟩
 rotate_left;exact kPm;rcases dc (-2147483648<=bh)with⟨l6,m6⟩|⟨l6,m6⟩
 rotate_left;exact kPm;rcases dc (bh<=2147483648)with⟨l7,m7⟩|⟨l7,m7⟩
 rotate_left;exact kPm;exact absurd h (by unfold z2d;rw[m0,m1,m2,m3,m4,m5,m6,m7];decide)
theorem zQg(al ah bl bh p q r s:Int)(w:World)(g: -2147483648<=al/\al<=2147483648/\ -2147483648<=ah/\ah<=2147483648/\ -2147483648<=bl/\bl<=2147483648/\ -2147483648<=bh/\bh<=2147483648)(e1:wrap64 (al*bl)=p)(e2:wrap64 (al*bh)=q)(e3:wrap64 (ah*bl)=r)(e4:wrap64 (ah*bh)=s):zR 138 #[bd al ah,bd bl bh] w (bd (min (min (min p q) r) s) (max (max (max p q) r) s)):=by
 have i4:=ix4 al ah bl bh;have i3:=ix3 q r s;unfold Ix4 at i4;unfold Ix3 at i3;unfold zR bd;go_in
 go_wp2_with fail;refine wp_loop_rounds 5 ?_
 repeat any_goals(rw[rounds_succ];go_wp2_with(first|(go_at_call 86;refine cR (z4f _ _) ?_;intro w1 hb1;have hM1:=Mm.later (W:=w) kMm hb1;have hs1:=hb1.size;simp at hs1;have F:=hM1.x;simp[Mx]at F)|(go_at_call 149;go_in)))
 have d1:(w.heap.size+1+1=w1.heap.size)=False:=kZ;have d2:(w1.heap.size=w.heap.size+1+1)=False:=kZ;have g1:w.heap.size<=w1.heap.size:=kO;have g2:w.heap.size<=w.heap.size+1+1:=kO;clear hs1 F;refine gnl (W:=w) kMm ?_;intro w2 hM;generalize w1.heap.size=L at*;clear hM1 hb1;refine wp_loop_rounds 4 ?_
 iterate 3
  (try rw[rounds_succ])
  go_wp2_with fail;refine flo (W:=w) 4 [] hM kR kR kQp ?_;refine kFl ?_;clear hM;intro w3 hM3;have F:=hM3.x;simp[Mx,mput,nz,d1,d2]at F;go_wp2_with fail;clear F;refine gnl (W:=w) kMm ?_;clear hM3;intro w2 hM
 (try rw[rounds_succ])
 have F:=hM.x;simp[Mx,mput,nz,d1,d2]at F;have hbw:=hM.b;go_wp2_with fail;exact kPr
end
section
open Go.ChangeShapes Go.WideShapes Go.ChangeAt Go.RowKit
set_option maxHeartbeats 40000000
set_option maxRecDepth 1000000
attribute [local simp] dwS
theorem zN4(al ah bl bh:Int)(w:World):zR 138 #[bd al ah,bd bl bh] w (bd (bdV 4 al ah bl bh).1 (bdV 4 al ah bl bh).2):=by
 rw[zW8]
 cases h:z2d al&&z2d ah&&z2d bl&&z2d bh
 ·exact zQh al ah bl bh w h
 simp only[Bool.and_eq_true]at h;obtain⟨⟨⟨h0,h1⟩,h2⟩,h3⟩:=h;have g0:=(z2n _).1 h0;have g1:=(z2n _).1 h1;have g2:=(z2n _).1 h2;have g3:=(z2n _).1 h3;exact zQg al ah bl bh _ _ _ _ w kO (z2j h0 h2) (z2j h0 h3) (z2j h1 h2) (z2j h1 h3)
theorem kPd{P:Prop}(h:P:=by
 unfold zR bd;go_in
 go_wp2_with(first|(go_at_call 117;refine cR (z62 _) ?_;intro w1 hb1;have F:=lat hb1;simp at F;have hbw:Below w.heap.size w w1:=kT hb1)|(go_at_call 138;refine cR (zN4 _ _ _ _ _) ?_;intro w1 hb1;have F:=lat hb1;simp at F;have hbw:Below w.heap.size w w1:=kT hb1)|(go_at_call 139;refine cR (zIb _ _ _ _ _ hB) ?_;intro w1 hb1;have F:=lat hb1;simp at F;have hbw:Below w.heap.size w w1:=kT hb1)|(go_at_call 140;refine cR (zXw _ _ _ _ _ hB) ?_;intro w1 hb1;have F:=lat hb1;simp at F;have hbw:Below w.heap.size w w1:=kT hb1)|(go_at_call 141;refine cR (zRx _ _ _ _ _ hB) ?_;intro w1 hb1;have F:=lat hb1;simp at F;have hbw:Below w.heap.size w w1:=kT hb1)|(go_at_call 142;refine cR (zRk _ _ _ _ _ _ hB) ?_;intro w1 hb1;have F:=lat hb1;simp at F;have hbw:Below w.heap.size w w1:=kT hb1));exact kPe):P:=h
theorem kPh{P:Prop}(h:P:=by
 unfold zR bd;go_in
 go_wp2_with fail;refine flo (W:=w) 4 [] kMm kR kR kQp ?_;refine kFl ?_;intro w6 hC;have F:=hC.x;simp[Mx,mput,nz]at F;have hbw:=hC.1;go_wp2_with(first|(go_at_call 143;refine cR (zMs _ _ _ _ kD (Int.emod_nonneg _ kD) (Int.emod_lt_of_pos _ kD) _) ?_;intro w1 hb1;replace hC:=hC.later hb1;clear F;have F:=hC.x;simp[Mx,mput,nz]at F;replace hbw:=hC.1)|(go_at_call 144;refine cR (zDs _ _ _ kD _) ?_;intro w1 hb1;replace hC:=hC.later hb1;clear F;have F:=hC.x;simp[Mx,mput,nz]at F;replace hbw:=hC.1));exact kPe):P:=h
section
variable (al ah bl bh:Int) (w:World)
theorem zZf(c:Int)(hc:c=10\/c=11\/c=12):zR 130 #[A D c,bd al ah,bd bl bl] w (bd (shV c al ah (bl%64)).1 (shV c al ah (bl%64)).2):=by
 have hx:=zHf bl;rcases hc with rfl|rfl|rfl<;>exact kPh
theorem zZe(c:Int)(hc:c=10\/c=11\/c=12)(hne:(bh==bl)=false):zR 130 #[A D c,bd al ah,bd bl bh] w (bd (anyV c al ah).1 (anyV c al ah).2):=by
 rcases hc with rfl|rfl|rfl<;>exact kPh
theorem bdo_s(hB:Bds al ah bl bh):zR 130 #[A D 2,bd al ah,bd bl bh] w (bd (fit2 (al+bl) (ah+bh)).1 (fit2 (al+bl) (ah+bh)).2)/\zR 130 #[A D 3,bd al ah,bd bl bh] w (bd (fit2 (al-bh) (ah-bl)).1 (fit2 (al-bh) (ah-bl)).2)/\zR 130 #[A D 13,bd al ah,bd bl bh] w (bd (fit2 (0-ah) (0-al)).1 (fit2 (0-ah) (0-al)).2):=by
 obtain⟨pal,oa,qah,pbl,ob,qbh⟩:=hB;refine⟨?_,?_,?_⟩
 all_goals
  unfold zR bd;go_in
  go_wp2_with fail
 ·refine flo (W:=w) 12 [] kMm kR kR kQp ?_
  exact kPt
 ·refine flo (W:=w) 12 [] kMm kR kR kQp ?_
  exact kPt
 refine flo (W:=w) 8 [] kMm kR kR kQp ?_;exact kPt
theorem bdo_no(k:Int)(hk:k<1\/13<k):zR 130 #[A D k,bd al ah,bd bl bh] w (bd (-9223372036854775808) 9223372036854775807):=by
 have e: ∀j,1<=j->j<=13->(k==j)=false:=fun j _ _=>by simp;omega
 have e1:=e 1 kD kD;have e2:=e 2 kD kD;have e3:=e 3 kD kD;have e4:=e 4 kD kD;have e5:=e 5 kD kD;have e6:=e 6 kD kD;have e7:=e 7 kD kD;have e8:=e 8 kD kD;have e9:=e 9 kD kD;have e10:=e 10 kD kD;have e11:=e 11 kD kD;have e12:=e 12 kD kD;have e13:=e 13 kD kD;clear e hk;exact kPd
theorem bdo_c(hB:Bds al ah bl bh):zR 130 #[A D 1,bd al ah,bd bl bh] w (bd bl bh)/\zR 130 #[A D 4,bd al ah,bd bl bh] w (bd (bdV 4 al ah bl bh).1 (bdV 4 al ah bl bh).2)/\zR 130 #[A D 5,bd al ah,bd bl bh] w (bd (bdV 5 al ah bl bh).1 (bdV 5 al ah bl bh).2)/\zR 130 #[A D 6,bd al ah,bd bl bh] w (bd (bdV 6 al ah bl bh).1 (bdV 6 al ah bl bh).2)/\zR 130 #[A D 7,bd al ah,bd bl bh] w (bd (bdV 7 al ah bl bh).1 (bdV 7 al ah bl bh).2)/\zR 130 #[A D 8,bd al ah,bd bl bh] w (bd (filV (max al bl) al ah bl bh).1 (filV (max al bl) al ah bl bh).2)/\zR 130 #[A D 9,bd al ah,bd bl bh] w (bd (filV 0 al ah bl bh).1 (filV 0 al ah bl bh).2):=by
 refine⟨?_,?_,?_,?_,?_,?_,?_⟩<;>exact kPd
end
theorem zSa(k al ah bl bh:Int)(pal: -9223372036854775808<=al)(qal:al<=9223372036854775807)(pah: -9223372036854775808<=ah)(qah:ah<=9223372036854775807)(pbl: -9223372036854775808<=bl)(qbl:bl<=9223372036854775807)(pbh: -9223372036854775808<=bh)(qbh:bh<=9223372036854775807)(oa:al<=ah)(ob:bl<=bh)(w:World):zR 130 #[A D k,.agg #[A D al,A D ah],.agg #[A D bl,A D bh]] w (.agg #[A D ((bdV k al ah bl bh).1),A D ((bdV k al ah bl bh).2)]):=by
 have hB:Bds al ah bl bh:=⟨pal,oa,qah,pbl,ob,qbh⟩;obtain⟨s2,s3,s13⟩:=bdo_s al ah bl bh w hB;obtain⟨c1,c4,c5,c6,c7,c8,c9⟩:=bdo_c al ah bl bh w hB;have k64:((bl%64).toNat:Nat)=sixBits bl:=by unfold sixBits;omega
 by_cases hk:k<1\/13<k
 ·rw[zX8 al ah bl bh hk]
  exact bdo_no al ah bl bh w k hk
 rcases(show k=1\/k=2\/k=3\/k=4\/k=5\/k=6\/k=7\/k=8\/k=9\/k=10\/k=11\/k=12\/k=13 by omega)with rfl|rfl|rfl|rfl|rfl|rfl|rfl|rfl|rfl|rfl|rfl|rfl|rfl
 ·rw[zWa];exact c1
 ·rw[zOw];exact s2
 ·rw[zW9];exact s3
 ·exact c4
 ·exact c5
 ·exact c6
 ·exact c7
 ·rw[zW4];exact c8
 ·rw[zW3];exact c9
 ·rw[zLw]
  by_cases he:bl=bh
  ·subst he
   rw[if_pos rfl, <-k64];exact zZf al ah bl w 10 kD
  ·rw[if_neg he]
   exact zZe al ah bl bh w 10 kD kZ
 ·rw[zLv]
  by_cases he:bl=bh
  ·subst he
   have e:shV 11 al ah (bl%64)=(if sixBits bl=0 then(al,ah)else if 0<=al then(al/2^sixBits bl,ah/2^sixBits bl)else(0,2^(64-sixBits bl)-1)):=by
    unfold shV;rw[if_neg kD]
    by_cases hz:sixBits bl=0
    ·rw[if_pos hz,if_neg (by rw[<-k64]at hz;omega),zDx pal qal (by rw[z2l];exact hz),zDx pah qah (by rw[z2l];exact hz)]
    ·rw[if_neg hz]
     by_cases ha:0<=al
     ·rw[if_pos ha,if_neg kO,z9n ha qal,z9n kO qah,z2l]
     ·rw[if_neg ha,if_pos ⟨rfl,by rw[<-k64]at hz;omega,by omega⟩,zDw (by rw[z2l];exact hz),z2l]
   rw[if_pos rfl, <-e];exact zZf al ah bl w 11 kD
  ·rw[if_neg he]
   exact zZe al ah bl bh w 11 kD kZ
 ·rw[zLu]
  by_cases he:bl=bh
  ·subst he
   have e:shV 12 al ah (bl%64)=(al/2^sixBits bl,ah/2^sixBits bl):=by
    unfold shV;rw[if_neg kD,if_neg (fun h=>absurd h.1 kD),z5d,z5d,z2l]
   rw[if_pos rfl, <-e];exact zZf al ah bl w 12 kD
  ·rw[if_neg he]
   exact zZe al ah bl bh w 12 kD kZ
 rw[zLt, <-Int.zero_sub, <-Int.zero_sub];exact s13
end
section
open Go.ChangeShapes Go.WideShapes Go.ChangeAt Go.RowKit
section
variable {S B:Nat} {c d s o n p:Int} {r:Bool} {y:Way} {w w1:World}
end
end
section
open Go.ChangeShapes Go.WideShapes Go.ChangeAt Go.RowKit
attribute [local simp] z0p z0j z04
theorem zJg(k:Int)(w:World):zR 132 #[A D k,.agg #[A D (-9223372036854775808),A D 9223372036854775807]] w (.tuple #[.agg #[A D 0,A D 0,A D 0],A D 2]):=by
 go_enter Tryz.func132,Tryz.ntmps132;go_wp2_with fail
 go_region_held3 (fun w'=>w'.cell? ⟨w.heap.size,0,none⟩=some (A D (-9223372036854775808))/\w'.cell? ⟨w.heap.size,1,none⟩=some (A D 9223372036854775807)) (first|(simp[go_sem];done)|(simp[go_sem, *];done)|go_keep) (first
  |(go_at_call 117;refine(z62 _).mono ?_;rintro e w1 ⟨rfl,hb1⟩;have hbw1:Below w.heap.size w w1:=kT hb1;have v6:=z0b hb1 w.heap.size;have v7:=z0b hb1 (w.heap.size+1);(try simp[go_sem]at v6);(try simp[go_sem]at v7)))
 all_goals go_wp2_with fail
 all_goals exact bodyPost_ret (v:= .tuple #[.agg #[A D 0,A D 0,A D 0],A D 2]) (by simp[results,Tryz.results132,go_sem,v7]) rfl ⟨rfl,kB⟩
theorem zRh(k h:Int)(hne: ¬h=9223372036854775807)(w:World):zR 132 #[A D k,.agg #[A D (-9223372036854775808),A D h]] w (.tuple #[.agg #[A D k,A D (-9223372036854775808),A D h],A D 0]):=by
 go_enter Tryz.func132,Tryz.ntmps132;go_wp2_with fail
 go_region_held3 (fun w'=>w'.cell? ⟨w.heap.size,0,none⟩=some (A D (-9223372036854775808))/\w'.cell? ⟨w.heap.size,1,none⟩=some (A D h)) (first|(simp[go_sem];done)|(simp[go_sem, *];done)|go_keep) (first
  |(go_at_call 117;refine(z62 _).mono ?_;rintro e w1 ⟨rfl,hb1⟩;have hbw1:Below w.heap.size w w1:=kT hb1;have v6:=z0b hb1 w.heap.size;have v7:=z0b hb1 (w.heap.size+1);(try simp[go_sem]at v6);(try simp[go_sem]at v7)))
 all_goals go_wp2_with fail
 all_goals exact bodyPost_ret (v:= .tuple #[.agg #[A D k,A D (-9223372036854775808),A D h],A D 0]) (by simp[results,Tryz.results132,go_sem,v7]) rfl ⟨rfl,kB⟩
theorem zRg(k l h:Int)(hne: ¬l= -9223372036854775808)(w:World):zR 132 #[A D k,.agg #[A D l,A D h]] w (.tuple #[.agg #[A D k,A D l,A D h],A D 0]):=by
 go_enter Tryz.func132,Tryz.ntmps132;go_wp2_with fail
 go_region_held3 (fun w'=>w'.cell? ⟨w.heap.size,0,none⟩=some (A D l)/\w'.cell? ⟨w.heap.size,1,none⟩=some (A D h)) (first|(simp[go_sem];done)|(simp[go_sem, *];done)|go_keep) (first
  |(go_at_call 117;refine(z62 _).mono ?_;rintro e w1 ⟨rfl,hb1⟩;have hbw1:Below w.heap.size w w1:=kT hb1;have v6:=z0b hb1 w.heap.size;have v7:=z0b hb1 (w.heap.size+1);(try simp[go_sem]at v6);(try simp[go_sem]at v7)))
 all_goals go_wp2_with fail
 all_goals exact bodyPost_ret (v:= .tuple #[.agg #[A D k,A D l,A D h],A D 0]) (by simp[results,Tryz.results132,go_sem,v7]) rfl ⟨rfl,kB⟩
theorem zBc(k l h:Int)(w:World):zR 132 #[A D k,.agg #[A D l,A D h]] w (.tuple #[(z1n k (l,h)).1.v,A D (z1n k (l,h)).2]):=by
 unfold z1n
 by_cases h1:l= -9223372036854775808
 ·by_cases h2:h=9223372036854775807
  ·rw[if_pos ⟨h1,h2⟩];subst h1;subst h2;exact zJg k w
  ·rw[if_neg (fun e=>h2 e.2)];subst h1;exact zRh k h h2 w
 rw[if_neg (fun e=>h1 e.1)];exact zRg k l h h1 w
structure Mk3 (n:Nat) (ak al ah bk bl bh:Int) (w:World):Prop where
 a:w.heap[n]?=some (cT #[A D ak,A D al,A D ah] 186 (0,0))
 b:w.heap[n+1]?=some (cT #[A D bk,A D bl,A D bh] 186 (0,0))
 r:w.heap[n+1+1]?=some (cT #[A D 0,A D 0,A D 0] 186 (0,0))
section
variable {n:Nat} {ak al ah bk bl bh:Int} {w w1:World}
theorem Mk3.lt(h:Mk3 n ak al ah bk bl bh w):n+1+1<w.heap.size:=(Array.getElem?_eq_some_iff.1 h.r).1
theorem Mk3.later(h:Mk3 n ak al ah bk bl bh w)(hb:Below w.heap.size w w1):Mk3 n ak al ah bk bl bh w1:=by
 have:=h.lt;exact⟨(hb.block _ kO).trans h.a,(hb.block _ kO).trans h.b,(hb.block _ kO).trans h.r⟩
theorem Mk3.drew(h:Mk3 n ak al ah bk bl bh w):Mk3 n ak al ah bk bl bh w.drew:=⟨h.a,h.b,h.r⟩
theorem Mk3.drewN(h:Mk3 n ak al ah bk bl bh w)(k:Nat):Mk3 n ak al ah bk bl bh (w.drewN k):=⟨h.a,h.b,h.r⟩
theorem kM(h:Mk3 n ak al ah bk bl bh w:=by repeat' first|with_reducible assumption|with_reducible(first|refine Mk3.drew ?_|refine Mk3.drewN ?_ _)):Mk3 n ak al ah bk bl bh w:=h
theorem Mk3.cells(h:Mk3 n ak al ah bk bl bh w):w.cell? ⟨n,0,none⟩=some (A D ak)/\w.cell? ⟨n,1,none⟩=some (A D al)/\w.cell? ⟨n,2,none⟩=some (A D ah)/\w.cell? ⟨n+1,0,none⟩=some (A D bk)/\w.cell? ⟨n+1,1,none⟩=some (A D bl)/\w.cell? ⟨n+1,2,none⟩=some (A D bh)/\w.cell? ⟨n+1+1,0,none⟩=some (A D 0)/\w.cell? ⟨n+1+1,1,none⟩=some (A D 0)/\w.cell? ⟨n+1+1,2,none⟩=some (A D 0)/\w.frozen? ⟨n+1+1,0,none⟩=false/\w.frozen? ⟨n+1+1,1,none⟩=false/\w.frozen? ⟨n+1+1,2,none⟩=false/\n+1+1<w.heap.size:=by
 have e1:=h.a;have e2:=h.b;have e3:=h.r;exact⟨by simp[World.cell?,e1],by simp[World.cell?,e1],by simp[World.cell?,e1],by simp[World.cell?,e2],by simp[World.cell?,e2],by simp[World.cell?,e2],by simp[World.cell?,e3],by simp[World.cell?,e3],by simp[World.cell?,e3],by simp[World.frozen?,e3],by simp[World.frozen?,e3],by simp[World.frozen?,e3],h.lt⟩
theorem Mk3.start(w:World)(ak al ah bk bl bh:Int):Mk3 w.heap.size ak al ah bk bl bh (((w.alloc (cT #[A D ak,A D al,A D ah] 186)).alloc (cT #[A D bk,A D bl,A D bh] 186)).alloc (cT #[A D 0,A D 0,A D 0] 186)):=by
 refine⟨?_,?_,?_⟩
 ·rw[Below.heap_alloc _ _ _ kZ,Below.heap_alloc _ _ _ kS];exact heap_alloc_new _ _
 ·rw[Below.heap_alloc _ _ _ kS];exact heap_alloc2_new _ _ _
 have:=heap_alloc_new ((w.alloc (cT #[A D ak,A D al,A D ah] 186)).alloc (cT #[A D bk,A D bl,A D bh] 186)) (cT #[A D 0,A D 0,A D 0] 186);simp only[World.size_alloc]at this;exact this
end
theorem vmk_b0(code ak al ah bk bl bh:Int)(x0:(bk==0)=true)(w:World):zR 119 #[A D code,.agg #[A D ak,A D al,A D ah],.agg #[A D bk,A D bl,A D bh]] w (.tuple #[.agg #[A D 0,A D 0,A D 0],A D 8]):=by
 have hK0:=Mk3.start w ak al ah bk bl bh;obtain⟨a0,a1,a2,b0,b1,b2,r0,r1,r2,f0,f1,f2,hn⟩:=hK0.cells;go_enter Tryz.func119,Tryz.ntmps119;go_wp2_with fail;exact bodyPost_ret (v:= .tuple #[.agg #[A D 0,A D 0,A D 0],A D 8]) (by simp[results,Tryz.results119,go_sem, *]) rfl ⟨rfl,kB⟩
theorem vmk_a0(code ak al ah bk bl bh:Int)(x0:(bk==0)=false)(x1:(ak==0)=true)(x2:(code !=1)=true)(w:World):zR 119 #[A D code,.agg #[A D ak,A D al,A D ah],.agg #[A D bk,A D bl,A D bh]] w (.tuple #[.agg #[A D 0,A D 0,A D 0],A D 8]):=by
 have hK0:=Mk3.start w ak al ah bk bl bh;obtain⟨a0,a1,a2,b0,b1,b2,r0,r1,r2,f0,f1,f2,hn⟩:=hK0.cells;go_enter Tryz.func119,Tryz.ntmps119;go_wp2_with fail;exact bodyPost_ret (v:= .tuple #[.agg #[A D 0,A D 0,A D 0],A D 8]) (by simp[results,Tryz.results119,go_sem, *]) rfl ⟨rfl,kB⟩
theorem zSs(code ak al ah bk bl bh:Int)(x0:(bk==0)=false)(x1:(ak==0)=true)(x2:(code !=1)=false)(x3:(code==1)=true)(w:World):zR 119 #[A D code,.agg #[A D ak,A D al,A D ah],.agg #[A D bk,A D bl,A D bh]] w (.tuple #[.agg #[A D bk,A D bl,A D bh],A D 0]):=by
 have hK0:=Mk3.start w ak al ah bk bl bh;obtain⟨a0,a1,a2,b0,b1,b2,r0,r1,r2,f0,f1,f2,hn⟩:=hK0.cells;go_enter Tryz.func119,Tryz.ntmps119;go_wp2_with fail;exact bodyPost_ret (v:= .tuple #[.agg #[A D bk,A D bl,A D bh],A D 0]) (by simp[results,Tryz.results119,go_sem, *]) rfl ⟨rfl,kB⟩
theorem zSr(code ak al ah bk bl bh:Int)(x0:(bk==0)=false)(x1:(ak==0)=false)(x2:(code==1)=true)(w:World):zR 119 #[A D code,.agg #[A D ak,A D al,A D ah],.agg #[A D bk,A D bl,A D bh]] w (.tuple #[.agg #[A D bk,A D bl,A D bh],A D 0]):=by
 have hK0:=Mk3.start w ak al ah bk bl bh;obtain⟨a0,a1,a2,b0,b1,b2,r0,r1,r2,f0,f1,f2,hn⟩:=hK0.cells;go_enter Tryz.func119,Tryz.ntmps119;go_wp2_with fail;exact bodyPost_ret (v:= .tuple #[.agg #[A D bk,A D bl,A D bh],A D 0]) (by simp[results,Tryz.results119,go_sem, *]) rfl ⟨rfl,kB⟩
theorem zSp(code ak al ah bk bl bh:Int)(dl dh:Int)(HD:Hid (∀W:World,zR 130 #[A D code,.agg #[A D al,A D ah],.agg #[A D bl,A D bh]] W (.agg #[A D dl,A D dh])))(x0:(bk==0)=false)(x1:(ak==0)=false)(x2:(code==1)=false)(x3:(ak==1)=true)(x4:(bk==1)=true)(w:World):zR 119 #[A D code,.agg #[A D ak,A D al,A D ah],.agg #[A D bk,A D bl,A D bh]] w (.tuple #[.agg #[A D 1,A D dl,A D dh],A D 0]):=by
 have hK0:=Mk3.start w ak al ah bk bl bh;obtain⟨a0,a1,a2,b0,b1,b2,r0,r1,r2,f0,f1,f2,hn⟩:=hK0.cells;go_enter Tryz.func119,Tryz.ntmps119
 go_wp2_with(first
  |(go_at_call 130;refine(HD.out _).mono ?_;rintro e w1 ⟨rfl,hb1⟩;have hK1:Mk3 w.heap.size ak al ah bk bl bh w1:=Mk3.later kM hb1;have hbw1:Below w.heap.size w w1:=kT hb1;clear a0 a1 a2 b0 b1 b2 r0 r1 r2 f0 f1 f2 hn;obtain⟨a0,a1,a2,b0,b1,b2,r0,r1,r2,f0,f1,f2,hn⟩:=hK1.cells)
  |(go_at_call 116;refine(z1s _ _ _).mono ?_;rintro e w2 ⟨rfl,hb2⟩;simp only[Kno.v,z10];have hK2:Mk3 w.heap.size ak al ah bk bl bh w2:=Mk3.later kM hb2;have hbw2:Below w.heap.size w w2:=kT hb2;clear a0 a1 a2 b0 b1 b2 r0 r1 r2 f0 f1 f2 hn;obtain⟨a0,a1,a2,b0,b1,b2,r0,r1,r2,f0,f1,f2,hn⟩:=hK2.cells)
  |fail)
 exact bodyPost_ret (v:= .tuple #[.agg #[A D 1,A D dl,A D dh],A D 0]) (by simp[results,Tryz.results119,go_sem, *]) rfl ⟨rfl,kB⟩
theorem zH1(code ak al ah bk bl bh:Int)(dl dh:Int)(HD:Hid (∀W:World,zR 130 #[A D code,.agg #[A D al,A D ah],.agg #[A D bl,A D bh]] W (.agg #[A D dl,A D dh])))(gk gl gh E:Int)(HF:Hid (z1n ak (dl,dh)=(⟨gk,gl,gh⟩,E)))(HP:Hid (z1u ak=true))(x0:(bk==0)=false)(x1:(ak==0)=false)(x2:(code==1)=false)(x3:(ak==1)=false)(x4:(bk==1)=true):(∀(x5:(code==2)=true)(w:World),zR 119 #[A D code,.agg #[A D ak,A D al,A D ah],.agg #[A D bk,A D bl,A D bh]] w (.tuple #[.agg #[A D gk,A D gl,A D gh],A D E]))/\(∀(x5:(code==2)=false)(x6:(code==3)=true)(w:World),zR 119 #[A D code,.agg #[A D ak,A D al,A D ah],.agg #[A D bk,A D bl,A D bh]] w (.tuple #[.agg #[A D gk,A D gl,A D gh],A D E])):=by
 refine⟨?_,?_⟩;intro x5 w;rotate_left;intro x5 x6 w;rotate_left
 all_goals
  have hK0:=Mk3.start w ak al ah bk bl bh;obtain⟨a0,a1,a2,b0,b1,b2,r0,r1,r2,f0,f1,f2,hn⟩:=hK0.cells
 all_goals
  go_enter Tryz.func119,Tryz.ntmps119
  go_wp2_with(first
   |(go_at_call 129;refine(z3y ak al ah _).mono ?_;rintro e w1 ⟨rfl,hb1⟩;rw[HP.out];have hK1:Mk3 w.heap.size ak al ah bk bl bh w1:=Mk3.later kM hb1;have hbw1:Below w.heap.size w w1:=kT hb1;clear a0 a1 a2 b0 b1 b2 r0 r1 r2 f0 f1 f2 hn;obtain⟨a0,a1,a2,b0,b1,b2,r0,r1,r2,f0,f1,f2,hn⟩:=hK1.cells)
   |fail)
  go_region_held3 (fun w'=>w'.cell? ⟨w.heap.size,0,none⟩=some (A D ak)/\w'.cell? ⟨w.heap.size,1,none⟩=some (A D al)/\w'.cell? ⟨w.heap.size,2,none⟩=some (A D ah)/\w'.cell? ⟨w.heap.size+1,0,none⟩=some (A D bk)/\w'.cell? ⟨w.heap.size+1,1,none⟩=some (A D bl)/\w'.cell? ⟨w.heap.size+1,2,none⟩=some (A D bh)) (first|(simp[go_sem];done)|(simp[go_sem, *];done)|go_keep) (first
   |(go_at_call 130;refine(HD.out _).mono ?_;rintro e w2 ⟨rfl,hb2⟩;have hK2:Mk3 w.heap.size ak al ah bk bl bh w2:=Mk3.later kM hb2;have hbw2:Below w.heap.size w w2:=kT hb2;clear a0 a1 a2 b0 b1 b2 r0 r1 r2 f0 f1 f2 hn;obtain⟨a0,a1,a2,b0,b1,b2,r0,r1,r2,f0,f1,f2,hn⟩:=hK2.cells)
   |(go_at_call 132;refine(zBc ak dl dh _).mono ?_;rintro e w3 ⟨rfl,hb3⟩;rw[HF.out];simp only[Kno.v];have hK3:Mk3 w.heap.size ak al ah bk bl bh w3:=Mk3.later kM hb3;have hbw3:Below w.heap.size w w3:=kT hb3;clear a0 a1 a2 b0 b1 b2 r0 r1 r2 f0 f1 f2 hn;obtain⟨a0,a1,a2,b0,b1,b2,r0,r1,r2,f0,f1,f2,hn⟩:=hK3.cells))
  all_goals go_wp2_with fail
  all_goals exact bodyPost_ret (v:= .tuple #[.agg #[A D gk,A D gl,A D gh],A D E]) (by simp[results,Tryz.results119,go_sem, *]) rfl ⟨rfl,kB⟩
def zSo:=fun code ak al ah bk bl bh dl dh HD gk gl gh E HF HP x0 x1 x2 x3 x4=>(@zH1 code ak al ah bk bl bh dl dh HD gk gl gh E HF HP x0 x1 x2 x3 x4).1
def zSn:=fun code ak al ah bk bl bh dl dh HD gk gl gh E HF HP x0 x1 x2 x3 x4=>(@zH1 code ak al ah bk bl bh dl dh HD gk gl gh E HF HP x0 x1 x2 x3 x4).2
theorem zB7(code ak al ah bk bl bh:Int):(∀(HP:Hid (z1u ak=false))(HQ:Hid (z1u bk=true))(x0:(bk==0)=false)(x1:(ak==0)=false)(x2:(code==1)=false)(x3:(ak==1)=true)(x4:(bk==1)=false)(x5:(code==2)=false)(w:World),zR 119 #[A D code,.agg #[A D ak,A D al,A D ah],.agg #[A D bk,A D bl,A D bh]] w (.tuple #[.agg #[A D 0,A D 0,A D 0],A D 1]))/\(∀(HP:Hid (z1u ak=false))(HQ:Hid (z1u bk=false))(x0:(bk==0)=false)(x1:(ak==0)=false)(x2:(code==1)=false)(x3:(ak==1)=true)(x4:(bk==1)=false)(w:World),zR 119 #[A D code,.agg #[A D ak,A D al,A D ah],.agg #[A D bk,A D bl,A D bh]] w (.tuple #[.agg #[A D 0,A D 0,A D 0],A D 1]))/\(∀(dl dh:Int)(HD:Hid (∀W:World,zR 130 #[A D code,.agg #[A D al,A D ah],.agg #[A D bl,A D bh]] W (.agg #[A D dl,A D dh])))(gk gl gh E:Int)(HF:Hid (z1n bk (dl,dh)=(⟨gk,gl,gh⟩,E)))(HP:Hid (z1u ak=false))(HQ:Hid (z1u bk=true))(x0:(bk==0)=false)(x1:(ak==0)=false)(x2:(code==1)=false)(x3:(ak==1)=true)(x4:(bk==1)=false)(x5:(code==2)=true)(w:World),zR 119 #[A D code,.agg #[A D ak,A D al,A D ah],.agg #[A D bk,A D bl,A D bh]] w (.tuple #[.agg #[A D gk,A D gl,A D gh],A D E])):=by
 refine⟨?_,?_,?_⟩;intro HP HQ x0 x1 x2 x3 x4 x5 w;rotate_left;intro HP HQ x0 x1 x2 x3 x4 w;rotate_left;intro dl dh HD gk gl gh E HF HP HQ x0 x1 x2 x3 x4 x5 w;rotate_left
 all_goals
  have hK0:=Mk3.start w ak al ah bk bl bh;obtain⟨a0,a1,a2,b0,b1,b2,r0,r1,r2,f0,f1,f2,hn⟩:=hK0.cells
 all_goals
  go_enter Tryz.func119,Tryz.ntmps119
  go_wp2_with(first
   |(go_at_call 129;have hg:=HP.out;clear hg;refine(z3y ak al ah _).mono ?_;rintro e w1 ⟨rfl,hb1⟩;rw[HP.out];clear HP;have hK1:Mk3 w.heap.size ak al ah bk bl bh w1:=Mk3.later kM hb1;have hbw1:Below w.heap.size w w1:=kT hb1;clear a0 a1 a2 b0 b1 b2 r0 r1 r2 f0 f1 f2 hn;obtain⟨a0,a1,a2,b0,b1,b2,r0,r1,r2,f0,f1,f2,hn⟩:=hK1.cells)
   |(go_at_call 129;refine(z3y bk bl bh _).mono ?_;rintro e w2 ⟨rfl,hb2⟩;rw[HQ.out];have hK2:Mk3 w.heap.size ak al ah bk bl bh w2:=Mk3.later kM hb2;have hbw2:Below w.heap.size w w2:=kT hb2;clear a0 a1 a2 b0 b1 b2 r0 r1 r2 f0 f1 f2 hn;obtain⟨a0,a1,a2,b0,b1,b2,r0,r1,r2,f0,f1,f2,hn⟩:=hK2.cells)
   |fail)
 iterate 2
  ·exact bodyPost_ret (v:= .tuple #[.agg #[A D 0,A D 0,A D 0],A D 1]) (by simp[results,Tryz.results119,go_sem, *]) rfl ⟨rfl,kB⟩
 ·go_region_held3 (fun w'=>w'.cell? ⟨w.heap.size,0,none⟩=some (A D ak)/\w'.cell? ⟨w.heap.size,1,none⟩=some (A D al)/\w'.cell? ⟨w.heap.size,2,none⟩=some (A D ah)/\w'.cell? ⟨w.heap.size+1,0,none⟩=some (A D bk)/\w'.cell? ⟨w.heap.size+1,1,none⟩=some (A D bl)/\w'.cell? ⟨w.heap.size+1,2,none⟩=some (A D bh)) (first|(simp[go_sem];done)|(simp[go_sem, *];done)|go_keep) (first
   |(go_at_call 130;refine(HD.out _).mono ?_;rintro e w2 ⟨rfl,hb2⟩;have hK2:Mk3 w.heap.size ak al ah bk bl bh w2:=Mk3.later kM hb2;have hbw2:Below w.heap.size w w2:=kT hb2;clear a0 a1 a2 b0 b1 b2 r0 r1 r2 f0 f1 f2 hn;obtain⟨a0,a1,a2,b0,b1,b2,r0,r1,r2,f0,f1,f2,hn⟩:=hK2.cells)
   |(go_at_call 132;refine(zBc bk dl dh _).mono ?_;rintro e w3 ⟨rfl,hb3⟩;rw[HF.out];simp only[Kno.v];have hK3:Mk3 w.heap.size ak al ah bk bl bh w3:=Mk3.later kM hb3;have hbw3:Below w.heap.size w w3:=kT hb3;clear a0 a1 a2 b0 b1 b2 r0 r1 r2 f0 f1 f2 hn;obtain⟨a0,a1,a2,b0,b1,b2,r0,r1,r2,f0,f1,f2,hn⟩:=hK3.cells))
  all_goals go_wp2_with fail
  all_goals exact bodyPost_ret (v:= .tuple #[.agg #[A D gk,A D gl,A D gh],A D E]) (by simp[results,Tryz.results119,go_sem, *]) rfl ⟨rfl,kB⟩
def zXd:=fun code ak al ah bk bl bh=>(@zB7 code ak al ah bk bl bh).1
def vmk_nb:=fun code ak al ah bk bl bh=>(@zB7 code ak al ah bk bl bh).2.1
def zSq:=fun code ak al ah bk bl bh=>(@zB7 code ak al ah bk bl bh).2.2
theorem zB6(code ak al ah bk bl bh:Int):(∀(HP:Hid (z1u ak=true))(x0:(bk==0)=false)(x1:(ak==0)=false)(x2:(code==1)=false)(x3:(ak==1)=false)(x4:(bk==1)=true)(x5:(code==2)=false)(x6:(code==3)=false)(w:World),zR 119 #[A D code,.agg #[A D ak,A D al,A D ah],.agg #[A D bk,A D bl,A D bh]] w (.tuple #[.agg #[A D 0,A D 0,A D 0],A D 1]))/\(∀(HP:Hid (z1u ak=false))(x0:(bk==0)=false)(x1:(ak==0)=false)(x2:(code==1)=false)(x3:(ak==1)=false)(w:World),zR 119 #[A D code,.agg #[A D ak,A D al,A D ah],.agg #[A D bk,A D bl,A D bh]] w (.tuple #[.agg #[A D 0,A D 0,A D 0],A D 1]))/\(∀(HP:Hid (z1u ak=true))(x0:(bk==0)=false)(x1:(ak==0)=false)(x2:(code==1)=false)(x3:(ak==1)=false)(x4:(bk==1)=false)(w:World),zR 119 #[A D code,.agg #[A D ak,A D al,A D ah],.agg #[A D bk,A D bl,A D bh]] w (.tuple #[.agg #[A D 0,A D 0,A D 0],A D 1])):=by
 refine⟨?_,?_,?_⟩;intro HP x0 x1 x2 x3 x4 x5 x6 w;rotate_left;intro HP x0 x1 x2 x3 w;rotate_left;intro HP x0 x1 x2 x3 x4 w;rotate_left
 all_goals
  have hK0:=Mk3.start w ak al ah bk bl bh;obtain⟨a0,a1,a2,b0,b1,b2,r0,r1,r2,f0,f1,f2,hn⟩:=hK0.cells
 all_goals
  go_enter Tryz.func119,Tryz.ntmps119
  go_wp2_with(first
   |(go_at_call 129;refine(z3y ak al ah _).mono ?_;rintro e w1 ⟨rfl,hb1⟩;rw[HP.out];have hK1:Mk3 w.heap.size ak al ah bk bl bh w1:=Mk3.later kM hb1;have hbw1:Below w.heap.size w w1:=kT hb1;clear a0 a1 a2 b0 b1 b2 r0 r1 r2 f0 f1 f2 hn;obtain⟨a0,a1,a2,b0,b1,b2,r0,r1,r2,f0,f1,f2,hn⟩:=hK1.cells)
   |fail)
  exact bodyPost_ret (v:= .tuple #[.agg #[A D 0,A D 0,A D 0],A D 1]) (by simp[results,Tryz.results119,go_sem, *]) rfl ⟨rfl,kB⟩
def zXc:=fun code ak al ah bk bl bh=>(@zB6 code ak al ah bk bl bh).1
def vmk_m:=fun code ak al ah bk bl bh=>(@zB6 code ak al ah bk bl bh).2.1
def vmk_pb:=fun code ak al ah bk bl bh=>(@zB6 code ak al ah bk bl bh).2.2
end
section
open Go.RowKit
def Blk(w0:World)(F:List (Nat×Obj))(w:World):Prop:=Below w0.heap.size w0 w/\ ∀x,x∈F->w.heap[x.1]?=some x.2
section
variable {w0 w w':World} {F:List (Nat×Obj)}
theorem Blk.later(h:Blk w0 F w)(hb:Below w.heap.size w w'):Blk w0 F w':=
 ⟨h.1.trans (hb.mono h.1.size),fun x hx=>(hb.block x.1 (Array.getElem?_eq_some_iff.1 (h.2 x hx)).1).trans (h.2 x hx)⟩
theorem Blk.stable(w0:World)(F:List (Nat×Obj)): ∀w w',Blk w0 F w->Below w.heap.size w w'->Blk w0 F w':=fun _ _ h hb=>h.later hb
theorem Blk.drew(h:Blk w0 F w):Blk w0 F w.drew:=⟨h.1.drew,h.2⟩
theorem Blk.lt(h:Blk w0 F w){g:Nat}{z:Obj}(hm:(g,z)∈F):g<w.heap.size:=(Array.getElem?_eq_some_iff.1 (h.2 _ hm)).1
theorem Blk.room(w0:World){F:List (Nat×Obj)}{g:Nat}{z:Obj}(hm:(g,z)∈F): ∀w,Blk w0 F w->g+1<=w.heap.size:=fun _ h=>h.lt hm
theorem Blk.room0(w0:World)(F:List (Nat×Obj)): ∀w,Blk w0 F w->w0.heap.size<=w.heap.size:=fun _ h=>h.1.size
theorem Blk.nil(hb:Below w0.heap.size w0 w):Blk w0 [] w:=⟨hb,fun _ h=>absurd h kS⟩
theorem Blk.cons{g:Nat}{z:Obj}(h:Blk w0 F w)(hg:w.heap[g]?=some z):Blk w0 ((g,z)::F) w:=
 ⟨h.1,fun x hx=>by
  rcases List.mem_cons.mp hx with rfl|hx
  ·exact hg
  ·exact h.2 x hx⟩
theorem Blk.more{F':List (Nat×Obj)}(h:Blk w0 F w)(h': ∀x,x∈F'->x∈F):Blk w0 F' w:=⟨h.1,fun x hx=>h.2 x (h' x hx)⟩
end
section
variable {w:World} {g:Nat} {t:TypeId} {a b c d e f:Value}
theorem row2(h:w.heap[g]?=some (cT #[a,b] t (0,0))):w.cell? ⟨g,0,none⟩=some a/\w.cell? ⟨g,1,none⟩=some b/\w.frozen? ⟨g,0,none⟩=false/\w.frozen? ⟨g,1,none⟩=false/\g<w.heap.size:=
 ⟨by simp[World.cell?,h],by simp[World.cell?,h],by simp[World.frozen?,h],by simp[World.frozen?,h],(Array.getElem?_eq_some_iff.1 h).1⟩
theorem row3(h:w.heap[g]?=some (cT #[a,b,c] t (0,0))):w.cell? ⟨g,0,none⟩=some a/\w.cell? ⟨g,1,none⟩=some b/\w.cell? ⟨g,2,none⟩=some c/\w.frozen? ⟨g,0,none⟩=false/\w.frozen? ⟨g,1,none⟩=false/\w.frozen? ⟨g,2,none⟩=false/\g<w.heap.size:=
 ⟨by simp[World.cell?,h],by simp[World.cell?,h],by simp[World.cell?,h],by simp[World.frozen?,h],by simp[World.frozen?,h],by simp[World.frozen?,h],(Array.getElem?_eq_some_iff.1 h).1⟩
theorem row6(h:w.heap[g]?=some (cT #[a,b,c,d,e,f] t (0,0))):w.cell? ⟨g,0,none⟩=some a/\w.cell? ⟨g,1,none⟩=some b/\w.cell? ⟨g,2,none⟩=some c/\w.cell? ⟨g,3,none⟩=some d/\w.cell? ⟨g,4,none⟩=some e/\w.cell? ⟨g,5,none⟩=some f/\g<w.heap.size:=
 ⟨by simp[World.cell?,h],by simp[World.cell?,h],by simp[World.cell?,h],by simp[World.cell?,h],by simp[World.cell?,h],by simp[World.cell?,h],(Array.getElem?_eq_some_iff.1 h).1⟩
theorem put2{x y:Value}(h:w.heap[g]?=some (cT #[a,b] t (0,0))):((w.setCell ⟨g,0,none⟩ x).setCell ⟨g,1,none⟩ y).heap[g]?=some (cT #[x,y] t (0,0)):=
 heap_setCell_same _ g 1 _ t y (heap_setCell_same w g 0 _ t x h)
theorem put3{x y z:Value}(h:w.heap[g]?=some (cT #[a,b,c] t (0,0))):(((w.setCell ⟨g,0,none⟩ x).setCell ⟨g,1,none⟩ y).setCell ⟨g,2,none⟩ z).heap[g]?=some (cT #[x,y,z] t (0,0)):=
 heap_setCell_same _ g 2 _ t z (heap_setCell_same _ g 1 _ t y (heap_setCell_same w g 0 _ t x h))
theorem off2{B:Nat}{o o':Nat}{x y:Value}{ob:Obj}(h:w.heap[g]?=some ob)(hne:g≠B):((w.setCell ⟨B,o,none⟩ x).setCell ⟨B,o',none⟩ y).heap[g]?=some ob:=
 (heap_setCell_other _ _ _ _ hne).trans ((heap_setCell_other _ _ _ _ hne).trans h)
theorem off3{B:Nat}{o o' o'':Nat}{x y z:Value}{ob:Obj}(h:w.heap[g]?=some ob)(hne:g≠B):(((w.setCell ⟨B,o,none⟩ x).setCell ⟨B,o',none⟩ y).setCell ⟨B,o'',none⟩ z).heap[g]?=some ob:=
 (heap_setCell_other _ _ _ _ hne).trans ((heap_setCell_other _ _ _ _ hne).trans ((heap_setCell_other _ _ _ _ hne).trans h))
end
end
section
open Go.ChangeShapes Go.WideShapes Go.ChangeAt Go.RowKit
attribute [local simp] z0p z0j z04
theorem zHu(k l h o:Int)(x0:(k==0)=true)(w:World):zR 115 #[.agg #[A D k,A D l,A D h],A D o] w (.tuple #[.agg #[A D 0,A D 0],A D 8]):=by
 go_enter Tryz.func115,Tryz.ntmps115;go_wp2_with fail;exact bodyPost_ret (v:= .tuple #[.agg #[A D 0,A D 0],A D 8]) (by simp[results,Tryz.results115,go_sem, *]) rfl ⟨rfl,kB⟩
theorem zM4(k l h o:Int)(x0:(k==0)=false)(HP:Hid (z1u k=false))(w:World):zR 115 #[.agg #[A D k,A D l,A D h],A D o] w (.tuple #[.agg #[A D 0,A D 0],A D 1]):=by
 have hK0:Blk w [(w.heap.size,cT #[A D k,A D l,A D h] 186 (0,0)),(w.heap.size+1,cT #[A D 0,A D 0] 113 (0,0))] ((w.alloc (cT #[A D k,A D l,A D h] 186)).alloc (cT #[A D 0,A D 0] 113)):=(((Blk.nil ((((bF _ _).alloc (Nat.le_refl _) _).alloc kS _))).cons (heap_alloc2_new _ _ _)).cons (by rw[Below.heap_alloc _ _ _ kS];exact heap_alloc_new _ _));go_enter Tryz.func115,Tryz.ntmps115
 go_wp2_with(first
  |(go_at_call 129;refine(z3y k l h _).mono ?_;rintro e w1 ⟨rfl,hb1⟩;rw[HP.out];have hK1:=hK0.later hb1;have hbw1:=hK1.1;obtain⟨c0,c1,c2, -, -, -,lt0⟩:=row3 (hK1.2 _ (mcS));obtain⟨r0,r1,f0,f1,lt1⟩:=row2 (hK1.2 _ (mcO _ mcS)))
  |fail)
 exact bodyPost_ret (v:= .tuple #[.agg #[A D 0,A D 0],A D 1]) (by simp[results,Tryz.results115,go_sem, *]) rfl ⟨rfl,kB⟩
theorem z8t(k l h o:Int)(x0:(k==0)=false)(HP:Hid (z1u k=true))(tl th rl rh:Int)(HD:Hid (∀W:World,zR 130 #[A D 2,.agg #[A D l,A D h],.agg #[A D o,A D o]] W (.agg #[A D tl,A D th])))(HR:Hid (∀W:World,zR 131 #[A D k] W (.agg #[A D rl,A D rh]))):(∀(HJ:Hid (∀W:World,zR 65 #[.agg #[A D tl,A D th],.agg #[A D rl,A D rh]] W (.agg #[A D rl,A D rh])))(w:World),zR 115 #[.agg #[A D k,A D l,A D h],A D o] w (.tuple #[.agg #[A D tl,A D th],A D 0]))/\(∀(jh:Int)(hj: ¬jh=rh)(HJ:Hid (∀W:World,zR 65 #[.agg #[A D tl,A D th],.agg #[A D rl,A D rh]] W (.agg #[A D rl,A D jh])))(w:World),zR 115 #[.agg #[A D k,A D l,A D h],A D o] w (.tuple #[.agg #[A D 0,A D 0],A D 2]))/\(∀(jl jh:Int)(hj: ¬jl=rl)(HJ:Hid (∀W:World,zR 65 #[.agg #[A D tl,A D th],.agg #[A D rl,A D rh]] W (.agg #[A D jl,A D jh])))(w:World),zR 115 #[.agg #[A D k,A D l,A D h],A D o] w (.tuple #[.agg #[A D 0,A D 0],A D 2])):=by
 refine⟨?_,?_,?_⟩;intro HJ w;rotate_left;intro jh hj HJ w;rotate_left;intro jl jh hj HJ w;rotate_left
 all_goals
  have hK0:Blk w [(w.heap.size,cT #[A D k,A D l,A D h] 186 (0,0)),(w.heap.size+1,cT #[A D 0,A D 0] 113 (0,0))] ((w.alloc (cT #[A D k,A D l,A D h] 186)).alloc (cT #[A D 0,A D 0] 113)):=(((Blk.nil ((((bF _ _).alloc (Nat.le_refl _) _).alloc kS _))).cons (heap_alloc2_new _ _ _)).cons (by rw[Below.heap_alloc _ _ _ kS];exact heap_alloc_new _ _))
 all_goals
  go_enter Tryz.func115,Tryz.ntmps115
  go_wp2_with(first
   |(go_at_call 129;refine(z3y k l h _).mono ?_;rintro e w1 ⟨rfl,hb1⟩;rw[HP.out];have hK1:=hK0.later hb1;have hbw1:=hK1.1;obtain⟨c0,c1,c2, -, -, -,lt0⟩:=row3 (hK1.2 _ (mcS));obtain⟨r0,r1,f0,f1,lt1⟩:=row2 (hK1.2 _ (mcO _ mcS)))
   |fail)
  refine z0o (C:=Blk w [(w.heap.size,cT #[A D k,A D l,A D h] 186 (0,0)),(w.heap.size+1,cT #[A D 0,A D 0] 113 (0,0))]) (n0:=w.heap.size+1+1) 8 [] [cT #[A D 0,A D 0] 113 (0,0),cT #[A D 0,A D 0] 113 (0,0)] kR kR (fun d _ _ _ _ h=>by cases d<;>exact h) (Blk.stable _ _) (Blk.room w (mcO _ mcS)) hK1.drew ⟨⟨rfl,fun a w2 hC=>by go_simp;try rfl⟩,⟨rfl,fun a w2 hC=>by go_simp;try rfl⟩,trivial⟩ ?_;simp only[List.take_succ_cons,List.take_zero,List.drop_succ_cons,List.drop_zero,lQ,List.length_nil,Nat.reduceAdd]
  repeat(first
   |(refine z0q kI ?_;simp only[pS])
   |(refine z0c kI (v:=?_) ?_ ?_;rotate_left;(intro w2 hC;obtain⟨c0,c1,c2, -, -, -,lt0⟩:=row3 (hC.2 _ (mcS));obtain⟨r0,r1,f0,f1,lt1⟩:=row2 (hC.2 _ (mcO _ mcS));go_simp;try with_reducible rfl);simp only[pS])
   |(refine z18 kI ?_;apply Exists.intro;refine⟨fun w2 hC=>?_,?_⟩;(obtain⟨c0,c1,c2, -, -, -,lt0⟩:=row3 (hC.2 _ (mcS));obtain⟨r0,r1,f0,f1,lt1⟩:=row2 (hC.2 _ (mcO _ mcS));go_simp;apply z1k;first|(go_at_call 86;exact z4f _ w2)|(go_at_call 130;exact HD.out w2)|(go_at_call 131;exact HR.out w2));simp only[pS]))
  refine z11 ?_;intro L h6 g6 K h7 g7 w3 hC hB;have hne:K≠L:=(FB.upd_none h7).1;have hne':L≠K:=fun e=>hne e.symm;have bK:=hB K _ (FB.at_new _ _ _);have bL:=hB L _ (FB.at_old hne' (FB.at_new _ _ _));obtain⟨p0,p1,pf0,pf1,ltL⟩:=row2 bL;obtain⟨q0,q1,qf0,qf1,ltK⟩:=row2 bK;have hK3:=hC;clear c0 c1 c2 lt0 r0 r1 f0 f1 lt1 hB h6 h7 hK0 hb1 hbw1 hK1;obtain⟨c0,c1,c2, -, -, -,lt0⟩:=row3 (hC.2 _ (mcS));obtain⟨r0,r1,f0,f1,lt1⟩:=row2 (hC.2 _ (mcO _ mcS));have g6':w.heap.size≠L:=kO;have g7':w.heap.size≠K:=kO;have g8':w.heap.size+1≠L:=kO;have g9':w.heap.size+1≠K:=kO;simp only[z6y];go_wp2_with fail;have hK6:Blk w [(w.heap.size,cT #[A D k,A D l,A D h] 186 (0,0)),(w.heap.size+1,cT #[A D 0,A D 0] 113 (0,0)),(L,cT #[A D tl,A D th] 113 (0,0)),(K,cT #[A D rl,A D rh] 113 (0,0))] _:=((((Blk.nil (((((hC.1.setCell (by show _<=L;omega) _).setCell (by show _<=L;omega) _).setCell (by show _<=K;omega) _).setCell (by show _<=K;omega) _))).cons (put2 (off2 bK hne))).cons (off2 (put2 bL) hne')).cons (off2 (off2 (hC.2 _ (mcO _ mcS)) g8') g9')).cons (off2 (off2 (hC.2 _ mcS) g6') g7');clear c0 c1 c2 lt0 r0 r1 f0 f1 lt1 p0 p1 pf0 pf1 q0 q1 qf0 qf1 hC bK bL hK3;refine z0o (C:=Blk w [(w.heap.size,cT #[A D k,A D l,A D h] 186 (0,0)),(w.heap.size+1,cT #[A D 0,A D 0] 113 (0,0)),(L,cT #[A D tl,A D th] 113 (0,0)),(K,cT #[A D rl,A D rh] 113 (0,0))]) (n0:=w.heap.size) 4 [] [] kR kR (fun d _ _ _ _ h=>by cases d<;>exact h) (Blk.stable _ _) (Blk.room0 _ _) hK6.drew trivial ?_;simp only[List.take_succ_cons,List.take_zero,List.drop_succ_cons,List.drop_zero,List.length_nil,Nat.reduceAdd]
  repeat(first
   |(refine z0q kI ?_;simp only[pS])
   |(refine z0c kI (v:=?_) ?_ ?_;rotate_left;(intro w2 hC;obtain⟨c0,c1,c2, -, -, -,lt0⟩:=row3 (hC.2 _ mcS);obtain⟨r0,r1,f0,f1,lt1⟩:=row2 (hC.2 _ (mcO _ mcS));obtain⟨t0,t1, -, -,lt2⟩:=row2 (hC.2 _ (mcO _ (mcO _ mcS)));obtain⟨s0,s1, -, -,lt3⟩:=row2 (hC.2 _ (mcO _ (mcO _ (mcO _ mcS))));go_simp;try with_reducible rfl);simp only[pS])
   |(refine z18 kI ?_;apply Exists.intro;refine⟨fun w2 hC=>?_,?_⟩;(obtain⟨c0,c1,c2, -, -, -,lt0⟩:=row3 (hC.2 _ mcS);obtain⟨r0,r1,f0,f1,lt1⟩:=row2 (hC.2 _ (mcO _ mcS));obtain⟨t0,t1, -, -,lt2⟩:=row2 (hC.2 _ (mcO _ (mcO _ mcS)));obtain⟨s0,s1, -, -,lt3⟩:=row2 (hC.2 _ (mcO _ (mcO _ (mcO _ mcS))));go_simp;apply z1k;first|(go_at_call 65;exact HJ.out w2));simp only[pS]))
  refine z11 ?_;intro w4 hC hB;clear hB;obtain⟨c0,c1,c2, -, -, -,lt0⟩:=row3 (hC.2 _ mcS);obtain⟨r0,r1,f0,f1,lt1⟩:=row2 (hC.2 _ (mcO _ mcS));obtain⟨t0,t1, -, -,lt2⟩:=row2 (hC.2 _ (mcO _ (mcO _ mcS)));obtain⟨s0,s1, -, -,lt3⟩:=row2 (hC.2 _ (mcO _ (mcO _ (mcO _ mcS))));have hbw:=hC.1;go_wp2_with fail;exact bodyPost_ret (by simp[results,Tryz.results115,go_sem, *]) rfl ⟨rfl,kB⟩
def zP3:=fun k l h o x0 HP tl th rl rh HD HR=>(@z8t k l h o x0 HP tl th rl rh HD HR).1
def zHs:=fun k l h o x0 HP tl th rl rh HD HR=>(@z8t k l h o x0 HP tl th rl rh HD HR).2.1
def zHt:=fun k l h o x0 HP tl th rl rh HD HR=>(@z8t k l h o x0 HP tl th rl rh HD HR).2.2
theorem zCe(x:Kno)(o:Int)(hx:x.Ok)(ho:In64 o)(w:World):zR 115 #[x.v,A D o] w (.tuple #[.agg #[A D (z0i x o).1.1,A D (z0i x o).1.2],A D (z0i x o).2]):=by
 obtain⟨k,l,h⟩:=x;unfold z0i Kno.v
 by_cases h0:k=0
 ·rw[if_pos h0];exact zHu k l h o (by simpa using h0) w
 rw[if_neg h0];have hk:=hx.1;have hk5:=hx.2.1;have y0:(k==0)=false:=by simpa using h0
 by_cases h1:k=1\/k=5
 ·rw[if_pos h1]
  have hp:z1u k=false:=by
   cases e:z1u k
   ·rfl
   ·have:=(z3e k).1 e;omega
  exact zM4 k l h o y0 hp w
 rw[if_neg h1];have hp:z1u k=true:=(z3e k).2 (by change 0<=k at hk;change k<=5 at hk5;omega);have HD:=fun W:World=>zSa 2 l h o o hx.2.2.1.1 hx.2.2.1.2 hx.2.2.2.1.1 hx.2.2.2.1.2 ho.1 ho.2 ho.1 ho.2 hx.2.2.2.2 (Int.le_refl _) W;have HR:=fun W:World=>zTg k W;have eT:knoTo ⟨k,l,h⟩ o=bdV 2 l h o o:=rfl;rw[eT];generalize bdV 2 l h o o=t at*;change∀W:World,_ at HR
 obtain⟨tl,th⟩:=t;have eR:knoRoom (⟨k,l,h⟩:Kno).k=knoRoom k:=rfl;rw[eR];generalize knoRoom k=r at*;obtain⟨rl,rh⟩:=r
 by_cases g1:tl<rl
 ·rw[if_pos (Or.inl g1)]
  exact zHt k l h o y0 hp tl th rl rh HD HR (min tl rl) (max th rh) kO (fun W=>z8r tl th rl rh W) w
 by_cases g2:rh<th
 ·rw[if_pos (Or.inr g2)]
  exact zHs k l h o y0 hp tl th rl rh HD HR (max th rh) kO (fun W=>by have:=z8r tl th rl rh W;rw[Int.min_eq_right kO]at this;exact this) w
 rw[if_neg (by show¬(tl<rl\/rh<th);omega)];exact zP3 k l h o y0 hp tl th rl rh HD HR (fun W=>by have:=z8r tl th rl rh W;rw[Int.min_eq_right kO,Int.max_eq_right kO]at this;exact this) w
theorem z14{B:Nat}{a w:World}(h:Below B a w){g:Nat}(hg:B<=g)(cs:Array Value):Below B a (w.setRow g cs):=
 h.trans ⟨rfl,rfl,rfl,by simp,fun k hk=>setRow_other w g k cs kO⟩
theorem kW{n:Nat}{a w:World}(h:Below n a w:=by repeat' first|with_reducible assumption|with_reducible(first|exact bF _ _|refine bA ?_ ?_ _|refine bS ?_ ?_ _|refine bD ?_|refine z14 ?_ ?_ _)|((try dsimp only);omega)|(simp;done)|(simp;omega)):Below n a w:=h
theorem zKm:Tryz.zeroCells190=z03 0 ⟨fun _=>kno0,fun _=>kno0⟩:=kR
theorem z20:Tryz.zeroCells190.size=82:=by rw[zKm,z0g]
theorem zGe(p o:Int)(y:Way)(h0:0<=p)(h1:p<=1000)(h2:0<=o)(h3:o<=1000)(w:World):zR 89 #[.agg (z03 p y),A D o] w (.agg (z03 (p+(1+o)) y)):=by
 go_enter Tryz.func89,Tryz.ntmps89
 iterate 2 go_step
 go_cut [2,4] (fun s2 s4 wx=>s2= pT (some ⟨w.heap.size,0,none⟩)/\s4= pT (some ⟨w.heap.size+1,0,none⟩)/\Below w.heap.size w wx/\z02 wx w.heap.size p y/\wx.heap[w.heap.size+1]?=some (cT Tryz.zeroCells190 190 (0,0)))
 case first=>
  go_wp2_with fail;go_meet;exact⟨rfl,rfl,kW,(z02.start w p y).alloc _,heap_alloc2_new _ _ _⟩
 case rest=>
 obtain⟨rfl,rfl,hbw,hW,hZ⟩:=hcut;have q0:=hW.step;have f0:=hW.frozen 0;have HW:Hid (z02 wc w.heap.size p y):=hW;have HZ:Hid (wc.heap[w.heap.size+1]?=some (cT Tryz.zeroCells190 190 (0,0))):=hZ;clear hW hZ
 go_wp2_with(first
  |(refine wpList_load_row rfl 190 (.tmp 2) rfl w.heap.size rfl 190 (z03 (p+(1+o)) y) (0,0) _ (HW.out.putStep _) Tryz.underlying190 rfl (z0n _ _) ?_)
  |(refine wpList_store_row rfl 190 (.tmp 4) (.tmp 11) rfl (w.heap.size+1) (z03 (p+(1+o)) y) rfl rfl 190 Tryz.zeroCells190 ((heap_setCell_other _ _ _ _ kS).trans HZ.out) (z0n _ _) (by rw[z20,z0g]) (z2f _ _) ?_)
  |fail)
 exact bodyPost_ret (v:= .agg (z03 (p+(1+o)) y)) (z91 rfl _ _ (w.heap.size+1) _ _ rfl (z02.setRow (old:=Tryz.zeroCells190) ((heap_setCell_other _ _ _ _ kS).trans HZ.out) _ _)) rfl ⟨rfl,kW⟩
theorem z02.zero(w:World):z02 (w.alloc (cT Tryz.zeroCells190 190)) w.heap.size 0 ⟨fun _=>kno0,fun _=>kno0⟩:=by
 rw[zKm];exact z02.start w _ _
theorem zXb:(Way.putReg (Way.putReg ⟨fun _=>kno0,fun _=>kno0⟩ 1 ⟨2,0,0⟩) 10 ⟨3,0,0⟩)=way0:=by
 unfold Way.putReg way0;congr 1;funext i;show(if i=10 then _ else if i=1 then _ else _)=if i=1 then _ else if i=10 then _ else _
 by_cases h1:i=1
 ·subst h1;rfl
 rw[if_neg h1,if_neg h1]
section
variable {w:World} {B:Nat} {p:Int} {y:Way}
theorem z02.put0(h:z02 w B p y)(k l g:Int):z02 (((w.setCell ⟨B,1,none⟩ (A D k)).setCell ⟨B,2,none⟩ (A D l)).setCell ⟨B,3,none⟩ (A D g)) B p (y.putReg 0 ⟨k,l,g⟩):=h.reg3 (d:=0) kD k l g
theorem z02.put1(h:z02 w B p y)(k l g:Int):z02 (((w.setCell ⟨B,4,none⟩ (A D k)).setCell ⟨B,5,none⟩ (A D l)).setCell ⟨B,6,none⟩ (A D g)) B p (y.putReg 1 ⟨k,l,g⟩):=h.reg3 (d:=1) kD k l g
theorem z02.put10(h:z02 w B p y)(k l g:Int):z02 (((w.setCell ⟨B,31,none⟩ (A D k)).setCell ⟨B,32,none⟩ (A D l)).setCell ⟨B,33,none⟩ (A D g)) B p (y.putReg 10 ⟨k,l,g⟩):=h.reg3 (d:=10) kD k l g
end
theorem z02.at0{w:World}{B:Nat}(h:z02 w B 0 (Way.putReg (Way.putReg ⟨fun _=>kno0,fun _=>kno0⟩ 1 ⟨2,0,0⟩) 10 ⟨3,0,0⟩)):z02 w B 0 way0:=by rw[zXb]at h;exact h
theorem zMj(w:World):zR 63 #[] w (.agg (z03 0 way0)):=by
 go_enter Tryz.func63,Tryz.ntmps63
 iterate 2 go_step
 go_cut [0] (fun s0 wx=>s0= pT (some ⟨w.heap.size,0,none⟩)/\Below w.heap.size w wx/\wx.heap.size=w.heap.size+1/\wx.heap[w.heap.size]?=some (cT Tryz.zeroCells190 190 (0,0)))
 case first=>
  go_wp2_with fail;go_meet;exact⟨rfl,kW,by simp,heap_alloc_new _ _⟩
 case rest=>
 obtain⟨rfl,hbw,hsz,hZ⟩:=hcut
 iterate 2 go_step
 go_cut [1] (fun s1 wx=>s1= pT (some ⟨w.heap.size+1,0,none⟩)/\Below w.heap.size w wx/\z02 wx (w.heap.size+1) 0 ⟨fun _=>kno0,fun _=>kno0⟩/\wx.heap[w.heap.size]?=some (cT Tryz.zeroCells190 190 (0,0)))
 case first=>
  go_wp2_with fail;go_meet;exact⟨rfl,kW,by rw[<-hsz];exact z02.zero _,by rw[Below.heap_alloc _ _ _ kO];exact hZ⟩
 case rest=>
 clear hbw hsz hZ;obtain⟨rfl,hbw,hW,hZ⟩:=hcut;have hlt:=hW.lt;have HW:Hid (z02 wc (w.heap.size+1) 0 ⟨fun _=>kno0,fun _=>kno0⟩):=hW;have HZ:Hid (wc.heap[w.heap.size]?=some (cT Tryz.zeroCells190 190 (0,0))):=hZ;have HB:Hid (Below w.heap.size w wc):=hbw;clear hW hZ hbw
 go_wp2_with(first
  |(go_at_call 86;have hg:=HW.out;clear hg;refine(z4f 0 _).mono ?_;rintro e w1 ⟨rfl,hb1⟩;have hW1:=HW.out.later hb1;have hlt:=hW1.lt;obtain⟨i0,i1,i2⟩:=hW1.reg (d:=1) kD;simp only[Nat.reduceMul,Nat.reduceAdd]at i0 i1 i2;have f0:=hW1.frozen 4;have f1:=hW1.frozen 5;have f2:=hW1.frozen 6;have HW1:Hid (z02 w1 (w.heap.size+1) 0 ⟨fun _=>kno0,fun _=>kno0⟩):=hW1;have HZ1:Hid (w1.heap[w.heap.size]?=some (cT Tryz.zeroCells190 190 (0,0))):=(hb1.block _ kO).trans HZ.out;have HB1:Hid (Below w.heap.size w w1):=HB.out.trans (hb1.mono HB.out.size);clear HW HZ HB hb1 hW1)
  |(go_at_call 86;refine(z4f 0 _).mono ?_;rintro e w2 ⟨rfl,hb2⟩;have hW2:=(HW1.out.put1 2 0 0).later hb2;have hlt:=hW2.lt;clear i0 i1 i2 f0 f1 f2;obtain⟨i0,i1,i2⟩:=hW2.reg (d:=10) kD;simp only[Nat.reduceMul,Nat.reduceAdd]at i0 i1 i2;have f0:=hW2.frozen 31;have f1:=hW2.frozen 32;have f2:=hW2.frozen 33;have HW2:Hid (z02 w2 (w.heap.size+1) 0 (Way.putReg ⟨fun _=>kno0,fun _=>kno0⟩ 1 ⟨2,0,0⟩)):=hW2;have HZ2:Hid (w2.heap[w.heap.size]?=some (cT Tryz.zeroCells190 190 (0,0))):=(hb2.block _ kZ).trans ((heap_setCell_other _ _ _ _ kS).trans ((heap_setCell_other _ _ _ _ kS).trans ((heap_setCell_other _ _ _ _ kS).trans HZ1.out)));have HB2:Hid (Below w.heap.size w w2):=((((HB1.out.setCell (by show w.heap.size<=w.heap.size+1;omega) _).setCell (by show w.heap.size<=w.heap.size+1;omega) _).setCell (by show w.heap.size<=w.heap.size+1;omega) _).trans (hb2.mono kZ));clear HW1 HZ1 HB1 hb2 hW2)
  |(refine wpList_load_row rfl 190 (.tmp 1) rfl (w.heap.size+1) rfl 190 (z03 0 way0) (0,0) _ (z02.at0 (HW2.out.put10 3 0 0)) Tryz.underlying190 rfl (z0n _ _) ?_)
  |(refine wpList_store_row rfl 190 (.tmp 0) (.tmp 10) rfl w.heap.size (z03 0 way0) rfl rfl 190 Tryz.zeroCells190 ((heap_setCell_other _ _ _ _ kS).trans ((heap_setCell_other _ _ _ _ kS).trans ((heap_setCell_other _ _ _ _ kS).trans HZ2.out))) (z0n _ _) (by rw[z20,z0g]) (z2f _ _) ?_)
  |fail)
 exact bodyPost_ret (v:= .agg (z03 0 way0)) (z91 rfl _ _ w.heap.size _ _ rfl (z02.setRow (old:=Tryz.zeroCells190) ((heap_setCell_other _ _ _ _ kS).trans ((heap_setCell_other _ _ _ _ kS).trans ((heap_setCell_other _ _ _ _ kS).trans HZ2.out))) _ _)) rfl ⟨rfl,(by repeat' first|with_reducible(first|exact HB2.out|refine bA ?_ ?_ _|refine bS ?_ ?_ _|refine z14 ?_ ?_ _)|((try dsimp only);omega)|(simp;done)|(simp;omega))⟩
end
end Go.Proofs.YtabjjgkmegcacaaGreatDoor
