/-
A part of the proof of HookPlays; its card says what is proved.
-/
import Derived.Test.YtabjjgkmegcacaaGreatDoorChecked
import Derived.Lib.Strings
import Derived.Lib.Slices
import Derived.Lib.Small
import Derived.Lib.Walk
import Derived.Lib.BitFns
set_option maxHeartbeats 40000000
open Go.Value renaming int → A
open Go.IntKind renaming i64 → B
set_option maxRecDepth 1000000
set_option linter.defProp false
set_option linter.unusedVariables false
set_option linter.unusedSimpArgs false
open Go.Ending renaming returned → rT
open Go.Proofs.Tryz renaming prog → tP
namespace Go.Proofs.YtabjjgkmegcacaaGreatDoor
def lenV(n:Nat):Nat:=if n=0 then 0 else Nat.log2 n+1
theorem zJ7{n:Nat}(h:n≠0):2^(lenV n-1)<=n:=by
 unfold lenV;rw[if_neg h];exact Nat.log2_self_le h
theorem zEo(n:Nat):n<2^lenV n:=by
 unfold lenV;split
 ·simp_all
 exact Nat.lt_log2_self
theorem zJ6{n j:Nat}(h0:n≠0)(hlo:2^(j-1)<=n)(hhi:n<2^j):lenV n=j:=by
 have a:=zJ7 h0;have b:=zEo n;have c1:lenV n-1<j:=(Nat.pow_lt_pow_iff_right (by decide:1<2)).1 (Nat.lt_of_le_of_lt a hhi);have c2:j-1<lenV n:=(Nat.pow_lt_pow_iff_right (by decide:1<2)).1 (Nat.lt_of_le_of_lt hlo b);have:lenV n≠0:=by unfold lenV;rw[if_neg h0];omega
 have:j≠0:=by intro e;subst e;simp at hhi;omega
 omega
theorem zAw{n k:Nat}(h:n<2^k):lenV n<=k:=by
 by_cases h0:n=0
 ·subst h0;simp[lenV]
 have a:=zJ7 h0;have:=(Nat.pow_lt_pow_iff_right (by decide:1<2)).1 (Nat.lt_of_le_of_lt a h);omega
theorem zNu(k n:Nat)(h:2^k<=n):lenV n=k+lenV (n/2^k):=by
 have hp:=Nat.two_pow_pos k;have h1:n/2^k≠0:=by have:=Nat.div_pos h hp;omega
 have h0:n≠0:=by omega
 have a:=zJ7 h1;have b:=zEo (n/2^k);have z:lenV (n/2^k)≠0:=by unfold lenV;rw[if_neg h1];omega
 apply zJ6 h0
 ·have e:k+lenV (n/2^k)-1=lenV (n/2^k)-1+k:=by omega
  rw[e,Nat.pow_add];exact Nat.le_trans (Nat.mul_le_mul_right _ a) (Nat.div_mul_le_self n (2^k))
 rw[Nat.pow_add,Nat.mul_comm];exact(Nat.div_lt_iff_lt_mul hp).1 b
theorem zV0: ∀n:Fin 256,Lib.bitLen n.val=lenV n.val:=by decide+kernel
theorem z95(y:Nat)(h:y<256):lenV y<=8:=zAw (k:=8) (Nat.lt_of_lt_of_eq h (by decide))
theorem zGl(y:Nat)(h:y<256):Lib.len8 (y:Int)=(lenV y:Int):=by
 have t:=Lib.len8_of (y:Int) (Int.natCast_nonneg y) (by omega);have u:Lib.bitLen y=lenV y:=zV0 ⟨y,h⟩;rw[t,Int.toNat_natCast,u]
theorem z71(k K x y:Nat)(hK:2^k=K)(hk:k<=56)(hx:K<=x)(hy:x/K=y)(hb:y<256)(b:Int)(e:b=(y:Int)):
  ((k:Int)+((Lib.len8 b+9223372036854775808)%18446744073709551616-9223372036854775808)+9223372036854775808)%18446744073709551616-9223372036854775808=(lenV x:Int):=by
 have s:lenV x=k+lenV (x/2^k):=zNu k x (by rw[hK];exact hx);rw[hK,hy]at s;have l:=z95 y hb;rw[e,zGl y hb,s];clear hK hx hy s;omega
theorem zUz(x:Nat)(hb:x<256)(b:Int)(e:b=(x:Int)):
  (Lib.len8 b+9223372036854775808)%18446744073709551616-9223372036854775808=(lenV x:Int):=by
 have l:=z95 x hb;rw[e,zGl x hb];omega
theorem len64(x:Nat)(w:World)(h1:x<18446744073709551616):
  Calls tP 154 #[.int .u64 x] w fun e w'=>e= rT (A B (lenV x))/\w'=w:=by
 go_enter Tryz.func154,Tryz.ntmps154;go_wp2
 all_goals go_ret
 all_goals refine⟨congrArg Ending.returned (congrArg (Value.int IntKind.i64) ?_),rfl⟩
 ·exact z71 56 72057594037927936 x (x/72057594037927936) (by decide) (by decide) (by omega) rfl (by omega) _ (by omega)
 ·exact z71 48 281474976710656 x (x/281474976710656) (by decide) (by decide) (by omega) rfl (by omega) _ (by omega)
 ·exact z71 40 1099511627776 x (x/1099511627776) (by decide) (by decide) (by omega) rfl (by omega) _ (by omega)
 ·exact z71 32 4294967296 x (x/4294967296) (by decide) (by decide) (by omega) rfl (by omega) _ (by omega)
 ·exact z71 24 16777216 x (x/16777216) (by decide) (by decide) (by omega) rfl (by omega) _ (by omega)
 ·exact z71 16 65536 x (x/65536) (by decide) (by decide) (by omega) rfl (by omega) _ (by omega)
 ·exact z71 8 256 x (x/256) (by decide) (by decide) (by omega) rfl (by omega) _ (by omega)
 exact zUz x (by omega) _ (by omega)
end Go.Proofs.YtabjjgkmegcacaaGreatDoor
