/-
A part of the proof of HookPlays; its card says what is proved.
-/
import Derived.Test.YtabjjgkmegcacaaGreatDoorJq10
set_option maxHeartbeats 40000000
open Go.Value renaming int → A
open Go.IntKind renaming i64 → G
open Go.IntKind renaming i64 → D
open Go.RowKit.Below renaming alloc → bA, setCell → bS, drew → bD, refl → bF
set_option maxRecDepth 1000000
set_option linter.defProp false
set_option linter.unusedVariables false
set_option linter.unusedSimpArgs false
open Go.Ending renaming returned → rT
open Go.Value renaming pointer → pT
open Go.Obj renaming cells → cT
open Go.Proofs.Tryz renaming prog → tP
open List renaming take_succ_cons → lV, take_zero → lX, drop_succ_cons → lY, drop_zero → lZ, length_nil → lJ, length_cons → lQ
namespace Go.Proofs.YtabjjgkmegcacaaGreatDoor
open Go.ChangeShapes Go.WideShapes Go.ChangeAt Go.RowKit
section
set_option maxHeartbeats 40000000
set_option maxRecDepth 1000000
attribute [local simp] dwS
theorem zBh(a b:Int): -9223372036854775808<=z0t 10 a b/\z0t 10 a b<=9223372036854775807:=by rw[z49];exact z1r _
theorem kBs{P:Prop}(h:P:=by
 obtain⟨pal,oa,qah,pbl,ob,qbh⟩:=hB;obtain⟨gz,g0,g1⟩:=hA;have hx:=zHf bl;have hk:0<=bl%64/\bl%64<64:=kO;rcases dc (0<=al)with⟨ha,da⟩|⟨ha,da⟩
 rcases dc (0<=bl)with⟨hb,db⟩|⟨hb,db⟩
 all_goals
  unfold zR;go_in
  go_wp2_with fail;have hM:Mm w _ _:=Mm.new (Mm.new (Mm.new (Mm.start w) #[A G al,A G ah] 110) #[A G bl,A G bh] 110) #[A G 0,A G 0] 110;simp only[World.size_alloc]at hM;refine flo 8 [] hM kR kR kQp ?_;refine kFl ?_;intro w6 hM;go_wp2_with fail;refine flo 16 [] hM kR kR kQp ?_;refine kFl ?_;intro w7 hM;have F:=hM.x;simp only[Mx]at F;have hb7:=hM.1;have gz1:0<w7.heap.size:=Nat.lt_of_lt_of_le gz hb7.size;have g0:=(hb7.cell (p:=⟨_,0,none⟩) gz).trans g0;have g1:=(hb7.cell (p:=⟨_,1,none⟩) gz).trans g1;go_wp2_with fail
  all_goals exact bodyPost_ret (by simp[results,Tryz.results79,go_sem,F];try rfl) rfl ⟨by first|rfl|(simp[z49, *];done),kB⟩):P:=h
variable (al ah bl bh:Int) (w:World)
theorem rb_5:Bd4 5 al ah bl bh w:=by
 intro hB hA;have hB':=hB;unfold Bds at hB';rw[zW7];rcases dc (0<bl)with⟨hp,dp⟩|⟨hp,dp⟩
 ·by_cases ha:0<=al
  ·have e1:al.tdiv bh=al/bh:=Int.tdiv_eq_ediv_of_nonneg ha
   have e2:ah.tdiv bl=ah/bl:=Int.tdiv_eq_ediv_of_nonneg kO;have n1: ¬bh=0:=kO;have n2: ¬bl=0:=kO;have x1:IntKind.i64.wrap (al/bh)=al/bh:=by rw[IntWalk.i64_left];exact z08 (by have:=Int.ediv_nonneg ha (by omega:0<=bh);omega) (by have:=Int.ediv_le_self bh ha;omega)
   have x2:IntKind.i64.wrap (ah/bl)=ah/bl:=by rw[IntWalk.i64_left];exact z08 (by have:=Int.ediv_nonneg (by omega:0<=ah) (by omega:0<=bl);omega) (by have:=Int.ediv_le_self bl (by omega:0<=ah);omega)
   have w1:wrap64 (al/bh)=al/bh:=by rw[<-IntWalk.i64_left];exact x1
   have w2:wrap64 (ah/bl)=ah/bl:=by rw[<-IntWalk.i64_left];exact x2
   rw[if_pos hp];exact kBd
  ·exact kBd
 exact kBd
theorem rb_6:Bd4 6 al ah bl bh w:=by
 intro hB hA;rw[zW6];rcases dc (0<bl)with⟨hp,dp⟩|⟨hp,dp⟩<;>exact kBd
theorem rb_10:Bd4 10 al ah bl bh w:=by
 intro hB hA;rw[zLw, <-z2l];have b1:(z0t 10 al (bl%64)/2^sixBits (bl%64)==al)=fits (al*2^sixBits (bl%64)):=by rw[z49,zBp (z3r _)]
 have b2:(z0t 10 ah (bl%64)/2^sixBits (bl%64)==ah)=fits (ah*2^sixBits (bl%64)):=by rw[z49,zBp (z3r _)]
 have z1:=zBh al (bl%64);have z2:=zBh ah (bl%64);rcases dce bl bh with⟨he,kn⟩|⟨he,kn⟩
 ·rw[if_pos he.out, <-zX0, <-zWz]
  cases f1:fits (al*2^sixBits (bl%64))
  ·exact kBs
  cases f2:fits (ah*2^sixBits (bl%64))<;>exact kBs
 rw[if_neg he.out];exact kBs
theorem rb_11:Bd4 11 al ah bl bh w:=by
 intro hB hA;rw[zLv, <-z2l];rcases dce bl bh with⟨he,kn⟩|⟨he,kn⟩
 ·rw[if_pos he.out]
  rcases dce (bl%64) 0 with⟨hz,kz⟩|⟨hz,kz⟩
  ·rw[if_pos (by unfold sixBits;have:=hz.out;omega)]
   exact kBd
  ·rw[if_neg (by unfold sixBits;have:=hz.out;omega), <-zDw (b:=bl%64) (by unfold sixBits;have:=hz.out;omega)]
   exact kBd
 rw[if_neg he.out];exact kBd
theorem rb_12:Bd4 12 al ah bl bh w:=by
 intro hB hA;rw[zLu, <-z2l];rcases dce bl bh with⟨he,kn⟩|⟨he,kn⟩
 ·rw[if_pos he.out]
  exact kBd
 rw[if_neg he.out];rcases dc (ah<0)with⟨hh,dh⟩|⟨hh,dh⟩<;>simp only[hh,if_true,if_false]<;>exact kBd
theorem rb_no(c:Int)(hc:c<1\/13<c):Bd4 c al ah bl bh w:=by
 intro hB hA;rw[zX8 _ _ _ _ hc];have e: ∀k,1<=k->k<=13->(c==k)=false:=fun k _ _=>by simp;omega
 have e1:=e 1 kD kD;have e2:=e 2 kD kD;have e3:=e 3 kD kD;have e4:=e 4 kD kD;have e5:=e 5 kD kD;have e6:=e 6 kD kD;have e7:=e 7 kD kD;have e8:=e 8 kD kD;have e9:=e 9 kD kD;have e10:=e 10 kD kD;have e11:=e 11 kD kD;have e12:=e 12 kD kD;have e13:=e 13 kD kD;clear e;exact kBd
end
section
set_option maxHeartbeats 40000000
set_option maxRecDepth 1000000
attribute [local simp] dwS
theorem kMu{P:Prop}(h:P:=by
 obtain⟨gz,g0,g1⟩:=hA;have gz1:0<w.heap.size+1:=kO;have gz2:0<w.heap.size+1+1:=kO;have gz3:0<w.heap.size+1+1+1:=kO;have gz4:0<w.heap.size+1+1+1+1:=kO;have hx:=zHf bl;rcases dc (0<=al)with⟨ha,da⟩|⟨ha,da⟩
 rcases dc (0<=bl)with⟨hb,db⟩|⟨hb,db⟩
 all_goals try(exfalso;omega)
 all_goals
  unfold zR;go_in
  go_wp2_with fail;refine wp_loop_rounds 5 ?_
  repeat any_goals(rw[rounds_succ];go_wp2_with fail)
  all_goals exact bodyPost_ret (by simp[results,Tryz.results79,go_sem];try rfl) rfl ⟨rfl,kB⟩):P:=h
theorem rb_4n(al ah bl bh:Int)(w:World)(hA:z2z w)(hB:Bds al ah bl bh)(h:(z2d al&&z2d ah&&z2d bl&&z2d bh)=false):zR 79 #[A G 4,.agg #[A G al,A G ah],.agg #[A G bl,A G bh]] w (.agg #[A G (-9223372036854775808),A G 9223372036854775807]):=by
 obtain⟨pal,oa,qah,pbl,ob,qbh⟩:=hB;rcases dc (-2147483648<=al)with⟨l0,m0⟩|⟨l0,m0⟩
 rotate_left;exact kMu;rcases dc (al<=2147483648)with⟨l1,m1⟩|⟨l1,m1⟩
 rotate_left;exact kMu;rcases dc (-2147483648<=ah)with⟨l2,m2⟩|⟨l2,m2⟩
 rotate_left;exact kMu;rcases dc (ah<=2147483648)with⟨l3,m3⟩|⟨l3,m3⟩
 rotate_left;exact kMu;rcases dc (-2147483648<=bl)with⟨l4,m4⟩|⟨l4,m4⟩
 rotate_left;exact kMu;rcases dc (bl<=2147483648)with⟨l5,m5⟩|⟨l5,m5⟩
 rotate_left;exact kMu;rcases dc (-2147483648<=bh)with⟨l6,m6⟩|⟨l6,m6⟩
 rotate_left;exact kMu;rcases dc (bh<=2147483648)with⟨l7,m7⟩|⟨l7,m7⟩
 rotate_left;exact kMu;exact absurd h (by unfold z2d;rw[m0,m1,m2,m3,m4,m5,m6,m7];decide)
def four(p q r s:Int)(k:Nat):Int:=if k=0 then p else if k=1 then q else if k=2 then r else s
def mins(E:Nat->Int):Nat->Int
 |0=>E 0
 |k+1=>min (mins E k) (E k)
def maxs(E:Nat->Int):Nat->Int
 |0=>E 0
 |k+1=>max (maxs E k) (E k)
theorem kMy{P:Prop}(h:P:=by
 obtain⟨pal,oa,qah,pbl,ob,qbh⟩:=hB;have hx:=zHf bl;have t: ∀x, -2147483648<=x->x<=2147483648->decide (-2147483648<=x)=true/\decide (x<=2147483648)=true:=by intro x a b;simp[a,b]
 have t0:=t al kO kO;have t1:=t ah kO kO;have t2:=t bl kO kO;have t3:=t bh kO kO;clear t;unfold zR;go_in
 go_wp2_with fail;refine wp_loop_rounds 5 ?_
 repeat any_goals(rw[rounds_succ];go_wp2_with(go_at_call 45;refine(zQ4 _ _).mono ?_;rintro e w' ⟨rfl,rfl⟩))
 go_loopw [152] (fun ix wr=> ∃k:Nat,k<=4/\ix=A G k/\Hid (Mm w [(w.heap.size+1+1+1+1+1+1, #[A G (mins (four p q r s) k),A G (maxs (four p q r s) k)],110),(w.heap.size+1+1, #[A G 0,A G 0],110),(w.heap.size+1+1+1+1, #[A G p,A G q,A G r,A G s],2)] wr)) (fun ix _=>4-(intOf ix).toNat)
 case atStart=>exact⟨0,kD,rfl,(Mm.new (Mm.new (Mm.new (Mm.new (Mm.new (Mm.new (Mm.new (Mm.start _) _ _) _ _) _ _) _ _) _ _) _ _) _ _).sub (by simp[mins,maxs,four])⟩
 case round=>
  obtain⟨k,hk,rfl,hM⟩:=hrel;have hM:=hM.out;have F:=hM.x;simp only[Mx]at F;have hm1:w.heap.size<=w.heap.size+1+1:=kO;have hm2:w.heap.size<=w.heap.size+1+1+1+1+1+1:=kO;rcases(show k=4\/k=0\/k=1\/k=2\/k=3 by omega)with rfl|rfl|rfl|rfl|rfl
  ·go_wp2_with fail
   exact bodyPost_ret (by simp[results,Tryz.results79,go_sem,F];try rfl) rfl ⟨rfl,((hM.set hm1 0 _).set hm1 1 _).1⟩
  all_goals
   go_wp2_with fail;refine flo 4 [] hM kR kR kQp ?_;refine kFl ?_;intro w6 hC;have F:=hC.x;simp only[Mx]at F;go_wp2_with fail;exact⟨⟨_,kD,rfl,((hC.set hm2 0 _).set hm2 1 _).as (by simp[mput,mins,maxs,four])⟩,by simp[intOf]⟩):P:=h
theorem rb_4y(al ah bl bh p q r s:Int)(w:World)(hB:Bds al ah bl bh)(gal: -2147483648<=al/\ah<=2147483648)(gbl: -2147483648<=bl/\bh<=2147483648)(e1:wrap64 (al*bl)=p)(e2:wrap64 (al*bh)=q)(e3:wrap64 (ah*bl)=r)(e4:wrap64 (ah*bh)=s):zR 79 #[A G 4,.agg #[A G al,A G ah],.agg #[A G bl,A G bh]] w (.agg #[A G (mins (four p q r s) 4),A G (maxs (four p q r s) 4)]):=by
 rcases dc (0<=al)with⟨ha,da⟩|⟨ha,da⟩
 rcases dc (0<=bl)with⟨hb,db⟩|⟨hb,db⟩
 all_goals exact kMy
theorem rb_4(al ah bl bh:Int)(w:World):Bd4 4 al ah bl bh w:=by
 intro hB hA;rw[zW8]
 cases h:z2d al&&z2d ah&&z2d bl&&z2d bh
 ·exact rb_4n al ah bl bh w hA hB h
 simp only[Bool.and_eq_true]at h;obtain⟨⟨⟨h0,h1⟩,h2⟩,h3⟩:=h;have e:=rb_4y al ah bl bh _ _ _ _ w hB ⟨((z2n _).1 h0).1,((z2n _).1 h1).2⟩ ⟨((z2n _).1 h2).1,((z2n _).1 h3).2⟩ (z2j h0 h2) (z2j h0 h3) (z2j h1 h2) (z2j h1 h3);simp only[mins,maxs,four,Int.min_self,Int.max_self]at e;exact e
theorem zQc(c al ah bl bh:Int)(pal: -9223372036854775808<=al)(qal:al<=9223372036854775807)(pah: -9223372036854775808<=ah)(qah:ah<=9223372036854775807)(pbl: -9223372036854775808<=bl)(qbl:bl<=9223372036854775807)(pbh: -9223372036854775808<=bh)(qbh:bh<=9223372036854775807)(oa:al<=ah)(ob:bl<=bh)(w:World)(hA:z2z w):zR 79 #[A G c,.agg #[A G al,A G ah],.agg #[A G bl,A G bh]] w (.agg #[A G ((bdV c al ah bl bh).1),A G ((bdV c al ah bl bh).2)]):=by
 have hB:Bds al ah bl bh:=⟨pal,oa,qah,pbl,ob,qbh⟩
 by_cases hc:c<1\/13<c
 ·exact rb_no al ah bl bh w c hc hB hA
 rcases(show c=1\/c=2\/c=3\/c=4\/c=5\/c=6\/c=7\/c=8\/c=9\/c=10\/c=11\/c=12\/c=13 by omega)with rfl|rfl|rfl|rfl|rfl|rfl|rfl|rfl|rfl|rfl|rfl|rfl|rfl
 all_goals with_reducible first|exact rb_1 _ _ _ _ _ hB hA|exact rb_2 _ _ _ _ _ hB hA|exact rb_3 _ _ _ _ _ hB hA|exact rb_4 _ _ _ _ _ hB hA|exact rb_5 _ _ _ _ _ hB hA|exact rb_6 _ _ _ _ _ hB hA|exact rb_7 _ _ _ _ _ hB hA|exact rb_8 _ _ _ _ _ hB hA|exact rb_9 _ _ _ _ _ hB hA|exact rb_10 _ _ _ _ _ hB hA|exact rb_11 _ _ _ _ _ hB hA|exact rb_12 _ _ _ _ _ hB hA|exact rb_13 _ _ _ _ _ hB hA
end
end Go.Proofs.YtabjjgkmegcacaaGreatDoor
