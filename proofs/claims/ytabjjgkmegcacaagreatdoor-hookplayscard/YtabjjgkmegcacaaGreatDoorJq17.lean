/-
A part of the proof of HookPlays; its card says what is proved.
-/
import Derived.Test.YtabjjgkmegcacaaGreatDoorJq16
set_option maxHeartbeats 40000000
open Go.Value renaming int → A
open Go.IntKind renaming i64 → G
open Go.IntKind renaming i64 → D
open Go.RowKit.Below renaming alloc → bA, setCell → bS, drew → bD, refl → bF
set_option maxRecDepth 1000000
set_option linter.defProp false
set_option linter.unusedVariables false
set_option linter.unusedSimpArgs false
open Go.Ending renaming returned → rT
open Go.Value renaming pointer → pT
open Go.Obj renaming cells → cT
open Go.Proofs.Tryz renaming prog → tP
open List renaming take_succ_cons → lV, take_zero → lX, drop_succ_cons → lY, drop_zero → lZ, length_nil → lJ, length_cons → lQ
namespace Go.Proofs.YtabjjgkmegcacaaGreatDoor
open Go.ChangeShapes Go.WideShapes Go.ChangeAt Go.RowKit
section
set_option maxHeartbeats 40000000
set_option maxRecDepth 1000000
attribute [local simp] dwS
def kdg(k:Int):Int:=if k=1 then 110 else if k=2 then 116 else if k=3 then 102 else if k=4 then 99 else if k=5 then 109 else 0
theorem kD_six{k:Int}(h0:0<=k)(h5:k<=5):k=0\/k=1\/k=2\/k=3\/k=4\/k=5:=by omega
def Kno.d(x:Kno):Value:= .agg #[.int .u8 (kdg x.k),A G x.l,A G x.h]
theorem z2z.later{w w':World}(h:z2z w)(hb:Below w.heap.size w w'):z2z w':=⟨Nat.lt_of_lt_of_le h.1 hb.size,(hb.cell (p:=⟨_,0,none⟩) h.1).trans h.2.1,(hb.cell (p:=⟨_,1,none⟩) h.1).trans h.2.2⟩
theorem kSz{P:Prop}(h:P:=by
 unfold zR;go_in
 go_wp2_with fail
 all_goals exact bodyPost_ret (by simp[results,Tryz.results80,go_sem];try rfl) rfl ⟨rfl,kB⟩):P:=h
theorem rsz2(w:World):zR 80 #[.int .u8 116] w (.agg #[A G 0,A G 7]):=kSz
theorem rsz3(w:World):zR 80 #[.int .u8 102] w (.agg #[A G (-16),A G (-1)]):=kSz
theorem rsz4(w:World):zR 80 #[.int .u8 99] w (.agg #[A G 0,A G 3]):=kSz
def furB(x:Kno)(o:Int):Int×Int:=if(z0i x o).2=0 then(z0i x o).1 else(-9223372036854775808,9223372036854775807)
theorem kF3{P:Prop}(h:P:=by
 all_goals exact bodyPost_ret (by simp[results,Tryz.results59,go_sem, *];try rfl) rfl ⟨by first|rfl|(simp[*];done),kB⟩):P:=h
theorem kF0{P:Prop}(h:P:=by
 have gz1:0<w.heap.size+1:=kO;have gz2:0<w.heap.size+1+1:=kO;unfold zR;go_in
 go_wp2_with fail;exact kF3):P:=h
theorem kF2{P:Prop}(h:P:=by
 unfold zR;go_in
 go_wp2_with fail;refine floN (W:=w) 8 [] [(#[A G 0,A G 0],110),(#[A G 0,A G 0],110)] kMm kR kR kQp ⟨⟨rfl,fun a w2 hC=>by go_simp;try rfl⟩,⟨rfl,fun a w2 hC=>by go_simp;try rfl⟩,trivial⟩ ?_;refine kFl ?_;intro L hL dL L' hL' dL' w6 hC;simp only[World.size_alloc]at dL dL';have F:=hC.x;simp[Mx,mput,nz]at F;have hbw:=hC.1;have gA:=hA.later hC.b;unfold z2z at gA;go_wp2_with fail;exact kF3):P:=h
theorem zAj(x:Kno)(o:Int)(hx:x.Ok)(ho:In64 o)(w:World)(hA:z2z w):zR 59 #[x.d,A G o] w (.tuple #[.agg #[A G (furB x o).1,A G (furB x o).2],A G (z0i x o).2]):=by
 obtain⟨k,l,h⟩:=x;obtain⟨k0,k5,⟨pl,ql⟩,⟨ph,qh⟩,olh⟩:=hx;obtain⟨po,qo⟩:=ho;obtain⟨T,hT⟩: ∃T,bdV 2 l h o o=T:=⟨_,rfl⟩;dsimp only at*;have gz:=hA.1;have g0:=hA.2.1;have g1:=hA.2.2;rcases kD_six k0 k5 with rfl|rfl|rfl|rfl|rfl|rfl
 all_goals simp only[Kno.d,kdg,furB,z0i,knoTo,knoRoom,hT,Int.reduceEq,reduceIte,or_self,or_true,or_false,false_or,true_or]
 ·exact kF0
 ·exact kF0
 ·rcases dc (T.1<0)with⟨x1,y1⟩|⟨x1,y1⟩; · (simp only[x1,true_or,if_true,Int.reduceEq,if_false];exact kF2)
  rcases dc (7<T.2)with⟨x2,y2⟩|⟨x2,y2⟩<;>simp only[x1,x2,or_self,or_true,or_false,false_or,true_or,if_true,if_false,Int.reduceEq]<;>exact kF2
 ·rcases dc (T.1< -16)with⟨x1,y1⟩|⟨x1,y1⟩; · (simp only[x1,true_or,if_true,Int.reduceEq,if_false];exact kF2)
  rcases dc (-1<T.2)with⟨x2,y2⟩|⟨x2,y2⟩<;>simp only[x1,x2,or_self,or_true,or_false,false_or,true_or,if_true,if_false,Int.reduceEq]<;>exact kF2
 ·rcases dc (T.1<0)with⟨x1,y1⟩|⟨x1,y1⟩; · (simp only[x1,true_or,if_true,Int.reduceEq,if_false];exact kF2)
  rcases dc (3<T.2)with⟨x2,y2⟩|⟨x2,y2⟩<;>simp only[x1,x2,or_self,or_true,or_false,false_or,true_or,if_true,if_false,Int.reduceEq]<;>exact kF2
 exact kF0
end
section
set_option maxHeartbeats 40000000
set_option maxRecDepth 1000000
attribute [local simp] dwS
def plB(k:Int):Bool:=k==116||k==102||k==99
theorem ris(k l h:Int)(w:World):Calls tP 81 #[.agg #[.int .u8 k,A G l,A G h]] w fun e w'=>e= rT (.bool (plB k))/\w'=w.alloc (cT #[.int .u8 k,A G l,A G h] 146):=by
 rcases dce k 116 with⟨-,e1⟩|⟨-,e1⟩<;>rcases dce k 102 with⟨-,e2⟩|⟨-,e2⟩<;>rcases dce k 99 with⟨-,e3⟩|⟨-,e3⟩
 all_goals
  unfold plB;rw[e1,e2,e3];go_in
  go_wp2;go_ret;exact⟨rfl,rfl⟩
theorem kCm{P:Prop}(h:P:=by
 unfold zR;go_in
 go_wp2_with(first|(go_at_call 81;refine(ris _ _ _ _).mono ?_;rintro e w2 ⟨rfl,rfl⟩)|(go_at_call 79;refine cR (zQc _ _ _ _ _ kO kO kO kO kO kO kO kO kO kO _ (hA.later (Mm.b (W:=w) kMm))) ?_;intro w1 hb1;have hM1:=Mm.later (W:=w) kMm hb1;have F:=hM1.x;simp[Mx,mput,nz]at F;have hbw:=hM1.1;have gA:=hA.later hM1.b;unfold z2z at gA))
 all_goals exact bodyPost_ret (by simp[results,Tryz.results60,go_sem, *];try rfl) rfl ⟨by first|rfl|(simp[*];done),kB⟩):P:=h
theorem zQ7{k:Int}{T:Int×Int}(h1:T.1= -9223372036854775808)(h2:T.2=9223372036854775807):z1n k T=(kno0,2):=if_pos ⟨h1,h2⟩
theorem zKx{k:Int}{T:Int×Int}(h: ¬(T.1= -9223372036854775808/\T.2=9223372036854775807)):z1n k T=(⟨k,T.1,T.2⟩,0):=if_neg h
theorem zWb(al ah bl bh:Int):bdV 2 bl bh al ah=bdV 2 al ah bl bh:=by rw[zOw,zOw,Int.add_comm bl al,Int.add_comm bh ah]
theorem kCf{P:Prop}(h:P:=by
 rcases dce T.1 (-9223372036854775808)with⟨e1,f1⟩|⟨e1,f1⟩
 rcases dce T.2 9223372036854775807 with⟨e2,f2⟩|⟨e2,f2⟩
 ·rw[zQ7 e1.out e2.out]
  simp only[Kno.d,kdg,kno0,Int.reduceEq,reduceIte];exact kCm
 ·rw[zKx fun h=>e2.out h.2]
  simp only[Kno.d,kdg,Int.reduceEq,reduceIte];exact kCm
 rw[zKx fun h=>e1.out h.1];simp only[Kno.d,kdg,Int.reduceEq,reduceIte];exact kCm):P:=h
theorem kCk {P : Prop} (h : P := by
  rcases kD_six a0 a5 with rfl | rfl | rfl | rfl | rfl | rfl <;> rcases kD_six b0 b5 with rfl | rfl | rfl | rfl | rfl | rfl
  all_goals first
    | (exfalso; omega)
    | (simp only [z1f, Int.reduceEq, reduceIte, or_self, or_true, or_false, false_or, true_or, and_self, and_true, true_and, false_and, and_false, hc, hT, ne_eq, not_false_iff, not_true]
       first
       | exact kCf
       | (simp only [Kno.d, kdg, kno0, z10, Int.reduceEq, reduceIte]; exact kCm))) : P := h
abbrev CmT(c:Int):Prop:= ∀(ak al ah bk bl bh:Int)(a0:0<=ak)(a5:ak<=5)(b0:0<=bk)(b5:bk<=5)(na:ak≠0)(nb:bk≠0)(pal: -9223372036854775808<=al)(qah:ah<=9223372036854775807)(pbl: -9223372036854775808<=bl)(qbh:bh<=9223372036854775807)(oa:al<=ah)(ob:bl<=bh)(T:Int×Int)(hT:bdV c al ah bl bh=T)(w:World)(hA:z2z w),zR 60 #[A G c,Kno.d ⟨ak,al,ah⟩,Kno.d ⟨bk,bl,bh⟩] w (.tuple #[(z1f c ⟨ak,al,ah⟩ ⟨bk,bl,bh⟩).1.d,A G (z1f c ⟨ak,al,ah⟩ ⟨bk,bl,bh⟩).2])
end
section
set_option maxHeartbeats 40000000
set_option maxRecDepth 1000000
attribute [local simp] dwS
theorem cm_2:CmT 2:=by
 intro ak al ah bk bl bh a0 a5 b0 b5 na nb pal qah pbl qbh oa ob T hT w hA;have hc:(2:Int)≠1:=kD;have hT':=(zWb al ah bl bh).trans hT;exact kCk
end
section
set_option maxHeartbeats 40000000
set_option maxRecDepth 1000000
attribute [local simp] dwS
theorem cm_3:CmT 3:=by
 intro ak al ah bk bl bh a0 a5 b0 b5 na nb pal qah pbl qbh oa ob T hT w hA;have hc:(3:Int)≠1:=kD;exact kCk
end
section
set_option maxHeartbeats 40000000
set_option maxRecDepth 1000000
attribute [local simp] dwS
theorem cm_o (c : Int) (c1 : c ≠ 1) (c2 : c ≠ 2) (c3 : c ≠ 3) : CmT c := by
  intro ak al ah bk bl bh a0 a5 b0 b5 na nb pal qah pbl qbh oa ob T hT w hA;have hc : c ≠ 1 := c1;have n1 : (c == 1) = false := by simpa using c1
  have n2 : (c == 2) = false := by simpa using c2
  have n3 : (c == 3) = false := by simpa using c3
  have m1 : (c != 1) = true := by simpa using c1
  have m2 : (c != 2) = true := by simpa using c2
  have m3 : (c != 3) = true := by simpa using c3
  rcases kD_six a0 a5 with rfl | rfl | rfl | rfl | rfl | rfl <;> rcases kD_six b0 b5 with rfl | rfl | rfl | rfl | rfl | rfl
  all_goals first
    | (exfalso; omega)
    | (simp only [z1f, Int.reduceEq, reduceIte, or_self, or_true, or_false, false_or, true_or, and_self, and_true, true_and, false_and, and_false, c1, c2, c3, hT, ne_eq, not_false_iff, not_true, Kno.d, kdg, kno0, z10]
       exact kCm)
theorem cm_z(c ak al ah bl bh:Int)(w:World):zR 60 #[A G c,Kno.d ⟨ak,al,ah⟩,Kno.d ⟨0,bl,bh⟩] w (.tuple #[kno0.d,A G 8]):=by
 have e:(kdg 0==0)=true:=rfl;unfold Kno.d;simp only[kno0];have d0:kdg 0=0:=rfl;rw[d0];generalize kdg ak=k;exact kCm
theorem cm_y(c al ah bk bl bh:Int)(hc:c≠1)(nb:(kdg bk==0)=false)(w:World):zR 60 #[A G c,Kno.d ⟨0,al,ah⟩,Kno.d ⟨bk,bl,bh⟩] w (.tuple #[kno0.d,A G 8]):=by
 have m1:(c !=1)=true:=by simpa using hc
 unfold Kno.d;simp only[kno0];have d0:kdg 0=0:=rfl;rw[d0];generalize kdg bk=k at*;exact kCm
theorem cm_1(ak al ah bk bl bh:Int)(nb:(kdg bk==0)=false)(w:World):zR 60 #[A G 1,Kno.d ⟨ak,al,ah⟩,Kno.d ⟨bk,bl,bh⟩] w (.tuple #[Kno.d ⟨bk,bl,bh⟩,A G 0]):=by
 unfold Kno.d;dsimp only;generalize kdg bk=k at*;generalize kdg ak=k'
 cases na:k'==0<;>exact kCm
theorem zQb(c:Int)(a b:Kno)(ha:a.Ok)(hb:b.Ok)(w:World)(hA:z2z w):zR 60 #[A G c,a.d,b.d] w (.tuple #[(z1f c a b).1.d,A G (z1f c a b).2]):=by
 obtain⟨ak,al,ah⟩:=a;obtain⟨bk,bl,bh⟩:=b;obtain⟨a0,a5,⟨pal,qal⟩,⟨pah,qah⟩,oa⟩:=ha;obtain⟨b0,b5,⟨pbl,qbl⟩,⟨pbh,qbh⟩,ob⟩:=hb;dsimp only at*
 by_cases nb:bk=0
 ·subst nb
  exact cm_z c ak al ah bl bh w
 have nb':(kdg bk==0)=false:=by rcases kD_six b0 b5 with rfl|rfl|rfl|rfl|rfl|rfl<;>first|rfl|exact absurd rfl nb
 by_cases c1:c=1
 ·subst c1
  rw[show z1f 1 ⟨ak,al,ah⟩ ⟨bk,bl,bh⟩=(⟨bk,bl,bh⟩,0)by unfold z1f;rw[if_neg (by simp;exact nb),if_pos rfl]];exact cm_1 _ _ _ _ _ _ nb' w
 by_cases na:ak=0
 ·subst na
  rw[show z1f c ⟨0,al,ah⟩ ⟨bk,bl,bh⟩=(kno0,8)from if_pos (.inr ⟨rfl,c1⟩)];exact cm_y _ _ _ _ _ _ c1 nb' w
 by_cases c2:c=2
 ·subst c2
  exact cm_2 _ _ _ _ _ _ a0 a5 b0 b5 na nb pal qah pbl qbh oa ob _ rfl w hA
 by_cases c3:c=3
 ·subst c3
  exact cm_3 _ _ _ _ _ _ a0 a5 b0 b5 na nb pal qah pbl qbh oa ob _ rfl w hA
 exact cm_o c c1 c2 c3 _ _ _ _ _ _ a0 a5 b0 b5 na nb pal qah pbl qbh oa ob _ rfl w hA
end
end Go.Proofs.YtabjjgkmegcacaaGreatDoor
