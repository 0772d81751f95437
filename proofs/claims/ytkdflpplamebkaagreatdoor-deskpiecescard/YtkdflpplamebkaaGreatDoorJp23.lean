/-
A part of the proof of DeskPieces; its card says what is proved.
-/
import Derived.Test.YtkdflpplamebkaaGreatDoorJp22
set_option maxHeartbeats 40000000
open Go.Value renaming int → A
open Go.IntKind renaming i64 → D
open Go.RowKit.Below renaming alloc → bA, setCell → bS, drew → bD, refl → bF
set_option maxRecDepth 1000000
set_option linter.defProp false
set_option linter.unusedVariables false
set_option linter.unusedSimpArgs false
open Go.Ending renaming returned → rT
open Go.Value renaming pointer → pT
open Go.Obj renaming cells → cT
open Go.Proofs.Tryz renaming prog → tP
open List renaming take_succ_cons → lQ, take_zero → lX, drop_succ_cons → lY, drop_zero → lZ, length_nil → lJ
namespace Go.Proofs.YtkdflpplamebkaaGreatDoor
open Go.ChangeShapes Go.WideShapes Go.ChangeAt Go.RowKit
section
theorem Blk.add{w0 w:World}{F:List (Nat×Obj)}(h:Blk w0 F w)(z:Obj):Blk w0 ((w.heap.size,z)::F) (w.alloc z):=
 (h.later ((bF _ _).alloc (Nat.le_refl _) z)).cons (heap_alloc_new w z)
attribute [local simp] z05 z0a z06
theorem zA3(B d s:Nat)(c o n p:Int)(r:Bool)(y:Way)(hd:d<11)(hs:s<11)(wl wh E:Int)(HR:Hid (∀W:World,zR 179 #[.agg #[A D (y.reg s).k,A D (y.reg s).l,A D (y.reg s).h],A D o] W (.tuple #[.agg #[A D wl,A D wh],A D E]))):(∀(hE:(E==0)=false)(w:World)(hW:z03 w B p y),zR 143 #[pT (some ⟨B,0,none⟩),.agg #[A D c,A D d,A D s,.bool r,A D o,A D n]] w (A D E))/\(∀(hE:(E==0)=true)(hk:((y.reg s).k==3)=false)(w:World)(hW:z03 w B p y),Calls tP 143 #[pT (some ⟨B,0,none⟩),.agg #[A D c,A D d,A D s,.bool r,A D o,A D n]] w fun e w'=>e= rT (A D E)/\Kept B w w'/\z03 w' B p (y.putReg d ⟨1,(-9223372036854775808),9223372036854775807⟩))/\(∀(hE:(E==0)=true)(hk:((y.reg s).k==3)=true)(gk gl gh E2:Int)(HKP:Hid (∀W:World,z03 W B p y->zR 181 #[pT (some ⟨B,0,none⟩),.agg #[A D wl,A D wh]] W (.tuple #[.agg #[A D gk,A D gl,A D gh],A D E2])))(hE2:(E2==0)=false)(w:World)(hW:z03 w B p y),zR 143 #[pT (some ⟨B,0,none⟩),.agg #[A D c,A D d,A D s,.bool r,A D o,A D n]] w (A D E2))/\(∀(hE:(E==0)=true)(hk:((y.reg s).k==3)=true)(gk gl gh E2:Int)(HKP:Hid (∀W:World,z03 W B p y->zR 181 #[pT (some ⟨B,0,none⟩),.agg #[A D wl,A D wh]] W (.tuple #[.agg #[A D gk,A D gl,A D gh],A D E2])))(hE2:(E2==0)=true)(w:World)(hW:z03 w B p y),Calls tP 143 #[pT (some ⟨B,0,none⟩),.agg #[A D c,A D d,A D s,.bool r,A D o,A D n]] w fun e w'=>e= rT (A D E2)/\Kept B w w'/\z03 w' B p (y.putReg d ⟨gk,gl,gh⟩)):=by
 refine⟨?_,?_,?_,?_⟩;intro hE w hW;rotate_left;intro hE hk w hW;rotate_left;intro hE hk gk gl gh E2 HKP hE2 w hW;rotate_left;intro hE hk gk gl gh E2 HKP hE2 w hW;rotate_left
 all_goals
  have hK0:Blk w [(w.heap.size,cT #[A D c,A D d,A D s,.bool r,A D o,A D n] 135 (0,0)),(B,cT (z04 p y) 196 (0,0))] _:=((Blk.nil ((bF _ _).alloc (Nat.le_refl _) _)).cons (hW.alloc _)).cons (heap_alloc_new w (cT #[A D c,A D d,A D s,.bool r,A D o,A D n] 135));have hB:=hW.lt;have hs0:(0:Int)<=(s:Int):=kO;have hs1:(s:Int)<11:=kO;have hd0:(0:Int)<=(d:Int):=kO;have hd1:(d:Int)<11:=kO
 all_goals
  go_enter Tryz.func143,Tryz.ntmps143;go_wp2_with fail;refine z0n (C:=Blk w [(w.heap.size,cT #[A D c,A D d,A D s,.bool r,A D o,A D n] 135 (0,0)),(B,cT (z04 p y) 196 (0,0))]) (n0:=w.heap.size+1) 7 [] [cT #[A D 0,A D 0,A D 0] 192 (0,0)] kR kR (fun d _ _ _ _ h=>by cases d<;>exact h) (Blk.stable _ _) (Blk.room w mcS) hK0.drew ⟨⟨rfl,fun a w2 hC=>by go_simp;try rfl⟩,trivial⟩ ?_;simp only[lQ,lX,lY,lZ,List.length_cons,lJ,Nat.reduceAdd]
  repeat(first
   |(refine z0k kI ?_;simp only[pS])
   |(refine z09 kI (v:=?_) ?_ ?_;rotate_left;(intro w2 hC;obtain⟨p0,p1,p2,p3,p4,p5,ltS⟩:=row6 (hC.2 _ mcS);have yW:z03 _ B _ _:=(hC.2 _ (mcO _ mcS));have ylt:=yW.lt;obtain⟨i0,i1,i2⟩:=yW.reg hs;go_simp;try with_reducible rfl);simp only[pS]))
  refine z0r ?_;intro L h5 g5 w3 hC hB3;have bL:=hB3 L _ (FB.at_new _ _ _);obtain⟨l0,l1,l2,lf0,lf1,lf2,llt⟩:=row3 bL;obtain⟨p0,p1,p2,p3,p4,p5,ltS⟩:=row6 (hC.2 _ mcS);have yW:z03 _ B _ _:=(hC.2 _ (mcO _ mcS));have ylt:=yW.lt;obtain⟨i0,i1,i2⟩:=yW.reg hs;have hbw:=hC.1;have n1:w.heap.size≠L:=kO;have n2:B≠L:=kO;simp only[zAx]
 ·go_wp2_with(first
   |(go_at_call 179;have hK1:Blk w [(L,cT #[A D (y.reg s).k,A D (y.reg s).l,A D (y.reg s).h] 192 (0,0)),(B,cT (z04 p y) 196 (0,0)),(w.heap.size,cT #[A D c,A D d,A D s,.bool r,A D o,A D n] 135 (0,0))] _:=(((Blk.nil kW).cons (off3 (hC.2 _ mcS) n1)).cons (off3 (hC.2 _ (mcO _ mcS)) n2)).cons (put3 bL);refine(HR.out _).mono ?_;rintro e w4 ⟨rfl,hb4⟩;have hK4:=hK1.later hb4;clear l0 l1 l2 lf0 lf1 lf2 llt p0 p1 p2 p3 p4 p5 ltS yW ylt i0 i1 i2;obtain⟨l0,l1,l2,lf0,lf1,lf2,llt⟩:=row3 (hK4.2 _ mcS);have yW:z03 _ B _ _:=(hK4.2 _ (mcO _ mcS));have ylt:=yW.lt;obtain⟨p0,p1,p2,p3,p4,p5,ltS⟩:=row6 (hK4.2 _ (mcO _ (mcO _ mcS))))
   |(go_at_call 89;refine(z3l _).mono ?_;rintro e w5 ⟨rfl,hb5⟩;have hK5:=(hK4.add (cT #[A D wl,A D wh] 84)).later hb5;clear l0 l1 l2 lf0 lf1 lf2 llt p0 p1 p2 p3 p4 p5 ltS yW ylt;obtain⟨u0,u1,uf0,uf1,ult⟩:=row2 (hK5.2 _ mcS);obtain⟨l0,l1,l2,lf0,lf1,lf2,llt⟩:=row3 (hK5.2 _ (mcO _ mcS));have yW:z03 _ B _ _:=(hK5.2 _ (mcO _ (mcO _ mcS)));have ylt:=yW.lt;obtain⟨p0,p1,p2,p3,p4,p5,ltS⟩:=row6 (hK5.2 _ (mcO _ (mcO _ (mcO _ mcS)))))
   |(go_at_call 180;refine(z1o _ _ _).mono ?_;rintro e w6 ⟨rfl,hb6⟩;simp only[Kno.v,z1n];have hK6:=hK5.later hb6;clear l0 l1 l2 lf0 lf1 lf2 llt p0 p1 p2 p3 p4 p5 ltS yW ylt u0 u1 uf0 uf1 ult;obtain⟨u0,u1,uf0,uf1,ult⟩:=row2 (hK6.2 _ mcS);obtain⟨l0,l1,l2,lf0,lf1,lf2,llt⟩:=row3 (hK6.2 _ (mcO _ mcS));have yW:z03 _ B _ _:=(hK6.2 _ (mcO _ (mcO _ mcS)));have ylt:=yW.lt;obtain⟨p0,p1,p2,p3,p4,p5,ltS⟩:=row6 (hK6.2 _ (mcO _ (mcO _ (mcO _ mcS))));have hbw6:=hK6.1;have hs6:=hbw6.size;have hq6:=ylt;have hq7:=ltS)
   |fail)
  go_ret;exact⟨rfl,kW⟩
 ·go_wp2_with(first
   |(go_at_call 179;have hK1:Blk w [(L,cT #[A D (y.reg s).k,A D (y.reg s).l,A D (y.reg s).h] 192 (0,0)),(B,cT (z04 p y) 196 (0,0)),(w.heap.size,cT #[A D c,A D d,A D s,.bool r,A D o,A D n] 135 (0,0))] _:=(((Blk.nil kW).cons (off3 (hC.2 _ mcS) n1)).cons (off3 (hC.2 _ (mcO _ mcS)) n2)).cons (put3 bL);refine(HR.out _).mono ?_;rintro e w4 ⟨rfl,hb4⟩;have hK4:=hK1.later hb4;clear l0 l1 l2 lf0 lf1 lf2 llt p0 p1 p2 p3 p4 p5 ltS yW ylt i0 i1 i2;obtain⟨l0,l1,l2,lf0,lf1,lf2,llt⟩:=row3 (hK4.2 _ mcS);have yW:z03 _ B _ _:=(hK4.2 _ (mcO _ mcS));have ylt:=yW.lt;obtain⟨p0,p1,p2,p3,p4,p5,ltS⟩:=row6 (hK4.2 _ (mcO _ (mcO _ mcS))))
   |(go_at_call 89;refine(z3l _).mono ?_;rintro e w5 ⟨rfl,hb5⟩;have hK5:=(hK4.add (cT #[A D wl,A D wh] 84)).later hb5;clear l0 l1 l2 lf0 lf1 lf2 llt p0 p1 p2 p3 p4 p5 ltS yW ylt;obtain⟨u0,u1,uf0,uf1,ult⟩:=row2 (hK5.2 _ mcS);obtain⟨l0,l1,l2,lf0,lf1,lf2,llt⟩:=row3 (hK5.2 _ (mcO _ mcS));have yW:z03 _ B _ _:=(hK5.2 _ (mcO _ (mcO _ mcS)));have ylt:=yW.lt;obtain⟨p0,p1,p2,p3,p4,p5,ltS⟩:=row6 (hK5.2 _ (mcO _ (mcO _ (mcO _ mcS)))))
   |(go_at_call 180;refine(z1o _ _ _).mono ?_;rintro e w6 ⟨rfl,hb6⟩;simp only[Kno.v,z1n];have hK6:=hK5.later hb6;clear l0 l1 l2 lf0 lf1 lf2 llt p0 p1 p2 p3 p4 p5 ltS yW ylt u0 u1 uf0 uf1 ult;obtain⟨u0,u1,uf0,uf1,ult⟩:=row2 (hK6.2 _ mcS);obtain⟨l0,l1,l2,lf0,lf1,lf2,llt⟩:=row3 (hK6.2 _ (mcO _ mcS));have yW:z03 _ B _ _:=(hK6.2 _ (mcO _ (mcO _ mcS)));have ylt:=yW.lt;obtain⟨p0,p1,p2,p3,p4,p5,ltS⟩:=row6 (hK6.2 _ (mcO _ (mcO _ (mcO _ mcS))));have hbw6:=hK6.1;have hs6:=hbw6.size;have hq6:=ylt;have hq7:=ltS)
   |fail)
  have hK8:Blk w [(w6.heap.size,cT #[A D 1,A D (-9223372036854775808),A D 9223372036854775807] 192 (0,0)),(B,cT (z04 p y) 196 (0,0)),(w.heap.size,cT #[A D c,A D d,A D s,.bool r,A D o,A D n] 135 (0,0))] _:=((((hK6.add (cT #[A D 1,A D (-9223372036854775808),A D 9223372036854775807] 192))))).more (fun x hx=>by simp only[List.mem_cons,List.not_mem_nil,or_false]at hx⊢;rcases hx with rfl|rfl|rfl<;>simp);clear hC;refine z0n (C:=Blk w [(w6.heap.size,cT #[A D 1,A D (-9223372036854775808),A D 9223372036854775807] 192 (0,0)),(B,cT (z04 p y) 196 (0,0)),(w.heap.size,cT #[A D c,A D d,A D s,.bool r,A D o,A D n] 135 (0,0))]) (n0:=w.heap.size) 7 [] [] kR kR (fun d _ _ _ _ h=>by cases d<;>exact h) (Blk.stable _ _) (Blk.room0 _ _) hK8.drew trivial ?_;simp only[lQ,lX,lY,lZ,lJ,Nat.reduceAdd]
  repeat(first
   |(refine z0k kI ?_;simp only[pS])
   |(refine z09 kI (v:=?_) ?_ ?_;rotate_left;(intro w2 hC;obtain⟨g0,g1,g2,gf0,gf1,gf2,glt⟩:=row3 (hC.2 _ mcS);have yW:z03 _ B _ _:=(hC.2 _ (mcO _ mcS));have ylt:=yW.lt;obtain⟨i0,i1,i2⟩:=yW.reg hd;obtain⟨p0,p1,p2,p3,p4,p5,ltS⟩:=row6 (hC.2 _ (mcO _ (mcO _ mcS)));go_simp;try with_reducible rfl);simp only[pS]))
  refine z0r ?_;intro w9 hC hB9;obtain⟨g0,g1,g2,gf0,gf1,gf2,glt⟩:=row3 (hC.2 _ mcS);have yW:z03 _ B _ _:=(hC.2 _ (mcO _ mcS));have ylt:=yW.lt;obtain⟨i0,i1,i2⟩:=yW.reg hd;obtain⟨p0,p1,p2,p3,p4,p5,ltS⟩:=row6 (hC.2 _ (mcO _ (mcO _ mcS)));have if0:=yW.frozen (1+d*3);have if1:=yW.frozen (1+d*3+1);have if2:=yW.frozen (1+d*3+2);have HK:=z0d hC.1 B;go_wp2_with fail;go_ret;exact⟨rfl,kK,yW.reg3 hd 1 (-9223372036854775808) 9223372036854775807⟩
 all_goals
  go_wp2_with(first
   |(go_at_call 179;have hK1:Blk w [(L,cT #[A D (y.reg s).k,A D (y.reg s).l,A D (y.reg s).h] 192 (0,0)),(B,cT (z04 p y) 196 (0,0)),(w.heap.size,cT #[A D c,A D d,A D s,.bool r,A D o,A D n] 135 (0,0))] _:=(((Blk.nil kW).cons (off3 (hC.2 _ mcS) n1)).cons (off3 (hC.2 _ (mcO _ mcS)) n2)).cons (put3 bL);refine(HR.out _).mono ?_;rintro e w4 ⟨rfl,hb4⟩;have hK4:=hK1.later hb4;clear l0 l1 l2 lf0 lf1 lf2 llt p0 p1 p2 p3 p4 p5 ltS yW ylt i0 i1 i2;obtain⟨l0,l1,l2,lf0,lf1,lf2,llt⟩:=row3 (hK4.2 _ mcS);have yW:z03 _ B _ _:=(hK4.2 _ (mcO _ mcS));have ylt:=yW.lt;obtain⟨p0,p1,p2,p3,p4,p5,ltS⟩:=row6 (hK4.2 _ (mcO _ (mcO _ mcS))))
   |(go_at_call 89;refine(z3l _).mono ?_;rintro e w5 ⟨rfl,hb5⟩;have hK5:=(hK4.add (cT #[A D wl,A D wh] 84)).later hb5;clear l0 l1 l2 lf0 lf1 lf2 llt p0 p1 p2 p3 p4 p5 ltS yW ylt;obtain⟨u0,u1,uf0,uf1,ult⟩:=row2 (hK5.2 _ mcS);obtain⟨l0,l1,l2,lf0,lf1,lf2,llt⟩:=row3 (hK5.2 _ (mcO _ mcS));have yW:z03 _ B _ _:=(hK5.2 _ (mcO _ (mcO _ mcS)));have ylt:=yW.lt;obtain⟨p0,p1,p2,p3,p4,p5,ltS⟩:=row6 (hK5.2 _ (mcO _ (mcO _ (mcO _ mcS)))))
   |(go_at_call 180;refine(z1o _ _ _).mono ?_;rintro e w6 ⟨rfl,hb6⟩;simp only[Kno.v,z1n];have hK6:=hK5.later hb6;clear l0 l1 l2 lf0 lf1 lf2 llt p0 p1 p2 p3 p4 p5 ltS yW ylt u0 u1 uf0 uf1 ult;obtain⟨u0,u1,uf0,uf1,ult⟩:=row2 (hK6.2 _ mcS);obtain⟨l0,l1,l2,lf0,lf1,lf2,llt⟩:=row3 (hK6.2 _ (mcO _ mcS));have yW:z03 _ B _ _:=(hK6.2 _ (mcO _ (mcO _ mcS)));have ylt:=yW.lt;obtain⟨p0,p1,p2,p3,p4,p5,ltS⟩:=row6 (hK6.2 _ (mcO _ (mcO _ (mcO _ mcS))));have hbw6:=hK6.1;have hs6:=hbw6.size;have hq6:=ylt;have hq7:=ltS)
   |(go_at_call 181;have hKG:=(((hK6.add (cT #[A D 1,A D (-9223372036854775808),A D 9223372036854775807] 192))));refine(HKP.out _ (hKG.2 _ (mcO _ (mcO _ (mcO _ mcS))))).mono ?_;rintro e w7 ⟨rfl,hb7⟩;have hK7:=hKG.later hb7;clear l0 l1 l2 lf0 lf1 lf2 llt p0 p1 p2 p3 p4 p5 ltS yW ylt u0 u1 uf0 uf1 ult;obtain⟨g0,g1,g2,gf0,gf1,gf2,glt⟩:=row3 (hK7.2 _ mcS);obtain⟨u0,u1,uf0,uf1,ult⟩:=row2 (hK7.2 _ (mcO _ mcS));obtain⟨l0,l1,l2,lf0,lf1,lf2,llt⟩:=row3 (hK7.2 _ (mcO _ (mcO _ mcS)));have yW:z03 _ B _ _:=(hK7.2 _ (mcO _ (mcO _ (mcO _ mcS))));have ylt:=yW.lt;obtain⟨i0,i1,i2⟩:=yW.reg hd;obtain⟨p0,p1,p2,p3,p4,p5,ltS⟩:=row6 (hK7.2 _ (mcO _ (mcO _ (mcO _ (mcO _ mcS)))));have hbw7:=hK7.1)
   |fail)
 ·go_ret
  exact⟨rfl,kW⟩
 ·have hK8:Blk w [(w6.heap.size,cT #[A D gk,A D gl,A D gh] 192 (0,0)),(B,cT (z04 p y) 196 (0,0)),(w.heap.size,cT #[A D c,A D d,A D s,.bool r,A D o,A D n] 135 (0,0))] _:=((Blk.nil kW).cons (off3 (hK7.2 _ (mcO _ (mcO _ (mcO _ (mcO _ mcS))))) kO)).cons (off3 (hK7.2 _ (mcO _ (mcO _ (mcO _ mcS)))) kO)|>.cons (put3 (hK7.2 _ mcS))
  clear hC;refine z0n (C:=Blk w [(w6.heap.size,cT #[A D gk,A D gl,A D gh] 192 (0,0)),(B,cT (z04 p y) 196 (0,0)),(w.heap.size,cT #[A D c,A D d,A D s,.bool r,A D o,A D n] 135 (0,0))]) (n0:=w.heap.size) 7 [] [] kR kR (fun d _ _ _ _ h=>by cases d<;>exact h) (Blk.stable _ _) (Blk.room0 _ _) hK8.drew trivial ?_;simp only[lQ,lX,lY,lZ,lJ,Nat.reduceAdd]
  repeat(first
   |(refine z0k kI ?_;simp only[pS])
   |(refine z09 kI (v:=?_) ?_ ?_;rotate_left;(intro w2 hC;obtain⟨g0,g1,g2,gf0,gf1,gf2,glt⟩:=row3 (hC.2 _ mcS);have yW:z03 _ B _ _:=(hC.2 _ (mcO _ mcS));have ylt:=yW.lt;obtain⟨i0,i1,i2⟩:=yW.reg hd;obtain⟨p0,p1,p2,p3,p4,p5,ltS⟩:=row6 (hC.2 _ (mcO _ (mcO _ mcS)));go_simp;try with_reducible rfl);simp only[pS]))
  refine z0r ?_;intro w9 hC hB9;obtain⟨g0,g1,g2,gf0,gf1,gf2,glt⟩:=row3 (hC.2 _ mcS);have yW:z03 _ B _ _:=(hC.2 _ (mcO _ mcS));have ylt:=yW.lt;obtain⟨i0,i1,i2⟩:=yW.reg hd;obtain⟨p0,p1,p2,p3,p4,p5,ltS⟩:=row6 (hC.2 _ (mcO _ (mcO _ mcS)));have if0:=yW.frozen (1+d*3);have if1:=yW.frozen (1+d*3+1);have if2:=yW.frozen (1+d*3+2);have HK:=z0d hC.1 B;go_wp2_with fail;go_ret;exact⟨rfl,kK,yW.reg3 hd gk gl gh⟩
def q0k:=fun B d s c o n p r y hd hs wl wh E HR=>(@zA3 B d s c o n p r y hd hs wl wh E HR).1
def zUz:=fun B d s c o n p r y hd hs wl wh E HR=>(@zA3 B d s c o n p r y hd hs wl wh E HR).2.1
def zUy:=fun B d s c o n p r y hd hs wl wh E HR=>(@zA3 B d s c o n p r y hd hs wl wh E HR).2.2.1
def zRq:=fun B d s c o n p r y hd hs wl wh E HR=>(@zA3 B d s c o n p r y hd hs wl wh E HR).2.2.2
theorem zV0{B d s:Nat}{c o n p:Int}{r:Bool}{y:Way}(hd:d<11)(hs:s<11)(hy:y.Ok)(ho:In64 o){w:World}(hW:z03 w B p y):
  Calls tP 143 #[pT (some ⟨B,0,none⟩),.agg #[A D c,A D d,A D s,.bool r,A D o,A D n]] w fun e w'=>e= rT (A D (y.load d s o).1)/\Kept B w w'/\z03 w' B p (y.load d s o).2:=by
 have HR:=fun W:World=>zFx (y.reg s) o (hy.reg s hs) ho W;unfold Way.load;rcases e:z1m (y.reg s) o with⟨⟨wl,wh⟩,E⟩
 rw[e]at HR
 by_cases hE:E=0
 ·subst hE
  rw[if_neg kS];have er:(z1m (y.reg s) o).2=0:=by rw[e]
  obtain⟨-,e1,r1,r2⟩:=z97 er;have ot:=zIs (hy.reg s hs) ho;rw[e]at e1;rw[<-e1]at r1 r2 ot
  by_cases h3:(y.reg s).k=3
  ·rw[if_pos h3]
   rw[h3]at r1 r2;have HKP:=fun(W:World) (h:z03 W B p y)=>zV2 B wl wh p y r1 ot r2 W h;show Calls _ _ _ _ fun e w'=>e= rT (A D (if(y.kept (wl,wh)).2≠0 then((y.kept (wl,wh)).2,y)else(0,y.putReg d (y.kept (wl,wh)).1):Int×Way).1)/\Kept B w w'/\z03 w' B p (if(y.kept (wl,wh)).2≠0 then((y.kept (wl,wh)).2,y)else(0,y.putReg d (y.kept (wl,wh)).1):Int×Way).2;rcases ek:y.kept (wl,wh)with⟨⟨gk,gl,gh⟩,E2⟩
   rw[ek]at HKP
   by_cases hE2:E2=0
   ·subst hE2
    rw[if_neg kS];exact zRq B d s c o n p r y hd hs wl wh 0 HR rfl (by simpa using h3) gk gl gh 0 HKP rfl w hW
   ·rw[if_pos hE2]
    exact(zUy B d s c o n p r y hd hs wl wh 0 HR rfl (by simpa using h3) gk gl gh E2 HKP (by simpa using hE2) w hW).mono fun e w' ⟨h1,h2⟩=>⟨h1,z0d h2 B,hW.later h2⟩
  ·rw[if_neg h3]
   exact zUz B d s c o n p r y hd hs wl wh 0 HR rfl (by simpa using h3) w hW
 rw[if_pos hE];exact(q0k B d s c o n p r y hd hs wl wh E HR (by simpa using hE) w hW).mono fun e w' ⟨h1,h2⟩=>⟨h1,z0d h2 B,hW.later h2⟩
theorem zE5(B d s:Nat)(c o n p:Int)(r:Bool)(y:Way)(hd:d<11)(hs:s<11)(bk bl bh:Int)(HB:Hid (y.second s r n=⟨bk,bl,bh⟩)):(∀(wl wh E:Int)(HR:Hid (∀W:World,zR 179 #[.agg #[A D (y.reg d).k,A D (y.reg d).l,A D (y.reg d).h],A D o] W (.tuple #[.agg #[A D wl,A D wh],A D E])))(X:Int)(HX:Hid (((E !=0)=true/\X=E)\/((E !=0)=false/\((y.reg d).k==2)=true/\X=6)\/((E !=0)=false/\((y.reg d).k==2)=false/\(bk==0)=true/\X=8)\/((E !=0)=false/\((y.reg d).k==2)=false/\(bk==0)=false/\((y.reg d).k==4)=true/\X=z16 ⟨bk,bl,bh⟩)))(w:World)(hW:z03 w B p y),zR 144 #[pT (some ⟨B,0,none⟩),.agg #[A D c,A D d,A D s,.bool r,A D o,A D n]] w (A D X))/\(∀(wl wh E:Int)(HR:Hid (∀W:World,zR 179 #[.agg #[A D (y.reg d).k,A D (y.reg d).l,A D (y.reg d).h],A D o] W (.tuple #[.agg #[A D wl,A D wh],A D E])))(hE:(E !=0)=false)(x2:((y.reg d).k==2)=false)(x3:(bk==0)=false)(x4:((y.reg d).k==4)=false)(hwide: ¬wh=wl)(w:World)(hW:z03 w B p y),zR 144 #[pT (some ⟨B,0,none⟩),.agg #[A D c,A D d,A D s,.bool r,A D o,A D n]] w (A D 2))/\(∀(wl E:Int)(HR:Hid (∀W:World,zR 179 #[.agg #[A D (y.reg d).k,A D (y.reg d).l,A D (y.reg d).h],A D o] W (.tuple #[.agg #[A D wl,A D wl],A D E])))(t:Nat)(ht:t<16)(e1:IntKind.i64.wrap (wl+16)=(t:Int))(hE:(E !=0)=false)(x2:((y.reg d).k==2)=false)(x3:(bk==0)=false)(x4:((y.reg d).k==4)=false)(w:World)(hW:z03 w B p y),Calls tP 144 #[pT (some ⟨B,0,none⟩),.agg #[A D c,A D d,A D s,.bool r,A D o,A D n]] w fun e w'=>e= rT (A D 0)/\Kept B w w'/\z03 w' B p (y.putSlot t ⟨bk,bl,bh⟩)):=by
 refine⟨?_,?_,?_⟩;intro wl wh E HR X HX w hW;rotate_left;intro wl wh E HR hE x2 x3 x4 hwide w hW;rotate_left;intro wl E HR t ht e1 hE x2 x3 x4 w hW;rotate_left
 all_goals
  have hK0:Blk w [(w.heap.size,cT #[A D c,A D d,A D s,.bool r,A D o,A D n] 135 (0,0)),(B,cT (z04 p y) 196 (0,0))] _:=((Blk.nil ((bF _ _).alloc (Nat.le_refl _) _)).cons (hW.alloc _)).cons (heap_alloc_new w (cT #[A D c,A D d,A D s,.bool r,A D o,A D n] 135));have hB:=hW.lt;have hs0:(0:Int)<=(s:Int):=kO;have hs1:(s:Int)<11:=kO;have hd0:(0:Int)<=(d:Int):=kO;have hd1:(d:Int)<11:=kO
 rotate_left;rotate_left;have ht0:(0:Int)<=(t:Int):=kO;have ht1:(t:Int)<16:=kO;rotate_left
 all_goals
  go_enter Tryz.func144,Tryz.ntmps144;go_wp2_with fail;refine z0n (C:=Blk w [(w.heap.size,cT #[A D c,A D d,A D s,.bool r,A D o,A D n] 135 (0,0)),(B,cT (z04 p y) 196 (0,0))]) (n0:=w.heap.size+1) 10 [] [cT #[A D 0,A D 0,A D 0] 192 (0,0),cT #[A D 0,A D 0,A D 0] 192 (0,0)] kR kR (fun d _ _ _ _ h=>by cases d<;>exact h) (Blk.stable _ _) (Blk.room w mcS) hK0.drew ⟨⟨rfl,fun a w2 hC=>by go_simp;try rfl⟩,⟨rfl,fun a w2 hC=>by go_simp;try rfl⟩,trivial⟩ ?_;simp only[lQ,lX,lY,lZ,List.length_cons,lJ,Nat.reduceAdd]
  repeat(first
   |(refine z0k kI ?_;simp only[pS])
   |(refine z09 kI (v:=?_) ?_ ?_;rotate_left;(intro w2 hC;obtain⟨p0,p1,p2,p3,p4,p5,ltS⟩:=row6 (hC.2 _ mcS);have yW:z03 _ B _ _:=(hC.2 _ (mcO _ mcS));have ylt:=yW.lt;obtain⟨i0,i1,i2⟩:=yW.reg hd;go_simp;try with_reducible rfl);simp only[pS])
   |(refine z0t kI ?_;apply Exists.intro;refine⟨fun w2 hC=>?_,?_⟩;(obtain⟨p0,p1,p2,p3,p4,p5,ltS⟩:=row6 (hC.2 _ mcS);have yW:z03 _ B _ _:=(hC.2 _ (mcO _ mcS));have ylt:=yW.lt;obtain⟨i0,i1,i2⟩:=yW.reg hd;go_simp;apply z10;first|(go_at_call 176;exact(by have hq:=z3w B s c d o n r p y hs w2 yW;rw[HB.out]at hq;unfold Kno.v at hq;exact hq)));simp only[pS]))
  refine z0r ?_;intro L h5 g5 K h6 g6 w3 hC hB3;have hne:K≠L:=(FB.upd_none h6).1;have hne':L≠K:=fun e=>hne e.symm;have bK:=hB3 K _ (FB.at_new _ _ _);have bL:=hB3 L _ (FB.at_old hne' (FB.at_new _ _ _));obtain⟨l0,l1,l2,lf0,lf1,lf2,llt⟩:=row3 bL;obtain⟨k0,k1,k2,kf0,kf1,kf2,klt⟩:=row3 bK;obtain⟨p0,p1,p2,p3,p4,p5,ltS⟩:=row6 (hC.2 _ mcS);have yW:z03 _ B _ _:=(hC.2 _ (mcO _ mcS));have ylt:=yW.lt;obtain⟨i0,i1,i2⟩:=yW.reg hd;have hbw:=hC.1;have n1:w.heap.size≠L:=kO;have n2:B≠L:=kO;have n3:w.heap.size≠K:=kO;have n4:B≠K:=kO;simp only[zAx]
 ·go_upto_region 3 with(first
   |(go_at_call 179;have hK1:Blk w [(L,cT #[A D (y.reg d).k,A D (y.reg d).l,A D (y.reg d).h] 192 (0,0)),(K,cT #[A D bk,A D bl,A D bh] 192 (0,0)),(B,cT (z04 p y) 196 (0,0)),(w.heap.size,cT #[A D c,A D d,A D s,.bool r,A D o,A D n] 135 (0,0))] _:=((((Blk.nil kW).cons (off3 (off3 (hC.2 _ mcS) n1) n3)).cons (off3 (off3 (hC.2 _ (mcO _ mcS)) n2) n4)).cons (put3 (off3 bK hne))).cons (off3 (put3 bL) hne');refine(HR.out _).mono ?_;rintro e w4 ⟨rfl,hb4⟩;have hK4:=hK1.later hb4;clear l0 l1 l2 lf0 lf1 lf2 llt k0 k1 k2 kf0 kf1 kf2 klt p0 p1 p2 p3 p4 p5 ltS yW ylt i0 i1 i2;obtain⟨l0,l1,l2,lf0,lf1,lf2,llt⟩:=row3 (hK4.2 _ mcS);obtain⟨k0,k1,k2,kf0,kf1,kf2,klt⟩:=row3 (hK4.2 _ (mcO _ mcS));have yW:z03 _ B _ _:=(hK4.2 _ (mcO _ (mcO _ mcS)));have ylt:=yW.lt;obtain⟨p0,p1,p2,p3,p4,p5,ltS⟩:=row6 (hK4.2 _ (mcO _ (mcO _ (mcO _ mcS))));have hbw4:=hK4.1)
   |fail)
  rcases HX.out with⟨hE,rfl⟩|⟨hE,x2,rfl⟩|⟨hE,x2,x3,rfl⟩|⟨hE,x2,x3,x4,rfl⟩
  ·go_wp2_with fail
   go_ret;exact⟨rfl,kW⟩
  ·go_wp2_with fail
   go_ret;exact⟨rfl,kW⟩
  ·go_wp2_with fail
   go_ret;exact⟨rfl,kW⟩
  go_wp2_with(first|(go_at_call 142;refine(z48 bk bl bh _).mono ?_;rintro e w5 ⟨rfl,hb5⟩;have hbw4:=((hK4.add (cT #[A D wl,A D wh] 84)).later hb5).1)|fail);go_ret;exact⟨rfl,kW⟩
 all_goals
  go_wp2_with(first
   |(go_at_call 179;have hK1:Blk w [(L,cT #[A D (y.reg d).k,A D (y.reg d).l,A D (y.reg d).h] 192 (0,0)),(K,cT #[A D bk,A D bl,A D bh] 192 (0,0)),(B,cT (z04 p y) 196 (0,0)),(w.heap.size,cT #[A D c,A D d,A D s,.bool r,A D o,A D n] 135 (0,0))] _:=((((Blk.nil kW).cons (off3 (off3 (hC.2 _ mcS) n1) n3)).cons (off3 (off3 (hC.2 _ (mcO _ mcS)) n2) n4)).cons (put3 (off3 bK hne))).cons (off3 (put3 bL) hne');refine(HR.out _).mono ?_;rintro e w4 ⟨rfl,hb4⟩;have hK4:=hK1.later hb4;clear l0 l1 l2 lf0 lf1 lf2 llt k0 k1 k2 kf0 kf1 kf2 klt p0 p1 p2 p3 p4 p5 ltS yW ylt i0 i1 i2;obtain⟨l0,l1,l2,lf0,lf1,lf2,llt⟩:=row3 (hK4.2 _ mcS);obtain⟨k0,k1,k2,kf0,kf1,kf2,klt⟩:=row3 (hK4.2 _ (mcO _ mcS));have yW:z03 _ B _ _:=(hK4.2 _ (mcO _ (mcO _ mcS)));have ylt:=yW.lt;obtain⟨p0,p1,p2,p3,p4,p5,ltS⟩:=row6 (hK4.2 _ (mcO _ (mcO _ (mcO _ mcS))));have hbw4:=hK4.1)
   |fail)
 ·have hK5:=hK4.add (cT #[A D wl,A D wh] 84)
  clear hC l0 l1 l2 lf0 lf1 lf2 llt k0 k1 k2 kf0 kf1 kf2 klt p0 p1 p2 p3 p4 p5 ltS yW ylt;refine z0n (C:=Blk w [(w4.heap.size,cT #[A D wl,A D wh] 84 (0,0)),(L,cT #[A D (y.reg d).k,A D (y.reg d).l,A D (y.reg d).h] 192 (0,0)),(K,cT #[A D bk,A D bl,A D bh] 192 (0,0)),(B,cT (z04 p y) 196 (0,0)),(w.heap.size,cT #[A D c,A D d,A D s,.bool r,A D o,A D n] 135 (0,0))]) (n0:=w.heap.size) 5 [] [] kR kR (fun d _ _ _ _ h=>by cases d<;>exact h) (Blk.stable _ _) (Blk.room0 _ _) hK5.drew trivial ?_;simp only[lQ,lX,lY,lZ,lJ,Nat.reduceAdd]
  repeat(first
   |(refine z0k kI ?_;simp only[pS])
   |(refine z09 kI (v:=?_) ?_ ?_;rotate_left;(intro w2 hC;obtain⟨u0,u1,uf0,uf1,ult⟩:=row2 (hC.2 _ mcS);obtain⟨l0,l1,l2,lf0,lf1,lf2,llt⟩:=row3 (hC.2 _ (mcO _ mcS));obtain⟨k0,k1,k2,kf0,kf1,kf2,klt⟩:=row3 (hC.2 _ (mcO _ (mcO _ mcS)));have yW:z03 _ B _ _:=(hC.2 _ (mcO _ (mcO _ (mcO _ mcS))));have ylt:=yW.lt;obtain⟨p0,p1,p2,p3,p4,p5,ltS⟩:=row6 (hC.2 _ (mcO _ (mcO _ (mcO _ (mcO _ mcS)))));go_simp;try with_reducible rfl);simp only[pS])
   |(refine z0t kI ?_;apply Exists.intro;refine⟨fun w2 hC=>?_,?_⟩;(obtain⟨u0,u1,uf0,uf1,ult⟩:=row2 (hC.2 _ mcS);obtain⟨l0,l1,l2,lf0,lf1,lf2,llt⟩:=row3 (hC.2 _ (mcO _ mcS));obtain⟨k0,k1,k2,kf0,kf1,kf2,klt⟩:=row3 (hC.2 _ (mcO _ (mcO _ mcS)));have yW:z03 _ B _ _:=(hC.2 _ (mcO _ (mcO _ (mcO _ mcS))));have ylt:=yW.lt;obtain⟨p0,p1,p2,p3,p4,p5,ltS⟩:=row6 (hC.2 _ (mcO _ (mcO _ (mcO _ (mcO _ mcS)))));go_simp;apply z10;first|(go_at_call 86;exact z3c _ w2));simp only[pS]))
  refine z0r ?_;intro w6 hC hB6;obtain⟨u0,u1,uf0,uf1,ult⟩:=row2 (hC.2 _ mcS);obtain⟨l0,l1,l2,lf0,lf1,lf2,llt⟩:=row3 (hC.2 _ (mcO _ mcS));obtain⟨k0,k1,k2,kf0,kf1,kf2,klt⟩:=row3 (hC.2 _ (mcO _ (mcO _ mcS)));have yW:z03 _ B _ _:=(hC.2 _ (mcO _ (mcO _ (mcO _ mcS))));have ylt:=yW.lt;obtain⟨p0,p1,p2,p3,p4,p5,ltS⟩:=row6 (hC.2 _ (mcO _ (mcO _ (mcO _ (mcO _ mcS)))));have hbw4:=hC.1;go_wp2_with fail;go_ret;exact⟨rfl,kW⟩
 ·have hK5:=hK4.add (cT #[A D wl,A D wl] 84)
  clear hC l0 l1 l2 lf0 lf1 lf2 llt k0 k1 k2 kf0 kf1 kf2 klt p0 p1 p2 p3 p4 p5 ltS yW ylt;refine z0n (C:=Blk w [(w4.heap.size,cT #[A D wl,A D wl] 84 (0,0)),(L,cT #[A D (y.reg d).k,A D (y.reg d).l,A D (y.reg d).h] 192 (0,0)),(K,cT #[A D bk,A D bl,A D bh] 192 (0,0)),(B,cT (z04 p y) 196 (0,0)),(w.heap.size,cT #[A D c,A D d,A D s,.bool r,A D o,A D n] 135 (0,0))]) (n0:=w.heap.size) 5 [] [] kR kR (fun d _ _ _ _ h=>by cases d<;>exact h) (Blk.stable _ _) (Blk.room0 _ _) hK5.drew trivial ?_;simp only[lQ,lX,lY,lZ,lJ,Nat.reduceAdd]
  repeat(first
   |(refine z0k kI ?_;simp only[pS])
   |(refine z09 kI (v:=?_) ?_ ?_;rotate_left;(intro w2 hC;obtain⟨u0,u1,uf0,uf1,ult⟩:=row2 (hC.2 _ mcS);obtain⟨l0,l1,l2,lf0,lf1,lf2,llt⟩:=row3 (hC.2 _ (mcO _ mcS));obtain⟨k0,k1,k2,kf0,kf1,kf2,klt⟩:=row3 (hC.2 _ (mcO _ (mcO _ mcS)));have yW:z03 _ B _ _:=(hC.2 _ (mcO _ (mcO _ (mcO _ mcS))));have ylt:=yW.lt;obtain⟨p0,p1,p2,p3,p4,p5,ltS⟩:=row6 (hC.2 _ (mcO _ (mcO _ (mcO _ (mcO _ mcS)))));go_simp;try with_reducible rfl);simp only[pS])
   |(refine z0t kI ?_;apply Exists.intro;refine⟨fun w2 hC=>?_,?_⟩;(obtain⟨u0,u1,uf0,uf1,ult⟩:=row2 (hC.2 _ mcS);obtain⟨l0,l1,l2,lf0,lf1,lf2,llt⟩:=row3 (hC.2 _ (mcO _ mcS));obtain⟨k0,k1,k2,kf0,kf1,kf2,klt⟩:=row3 (hC.2 _ (mcO _ (mcO _ mcS)));have yW:z03 _ B _ _:=(hC.2 _ (mcO _ (mcO _ (mcO _ mcS))));have ylt:=yW.lt;obtain⟨p0,p1,p2,p3,p4,p5,ltS⟩:=row6 (hC.2 _ (mcO _ (mcO _ (mcO _ (mcO _ mcS)))));go_simp;apply z10;first|(go_at_call 86;exact z3c _ w2));simp only[pS]))
  refine z0r ?_;intro w6 hC hB6;obtain⟨u0,u1,uf0,uf1,ult⟩:=row2 (hC.2 _ mcS);obtain⟨l0,l1,l2,lf0,lf1,lf2,llt⟩:=row3 (hC.2 _ (mcO _ mcS));obtain⟨k0,k1,k2,kf0,kf1,kf2,klt⟩:=row3 (hC.2 _ (mcO _ (mcO _ mcS)));have yW:z03 _ B _ _:=(hC.2 _ (mcO _ (mcO _ (mcO _ mcS))));have ylt:=yW.lt;obtain⟨p0,p1,p2,p3,p4,p5,ltS⟩:=row6 (hC.2 _ (mcO _ (mcO _ (mcO _ (mcO _ mcS)))));have hK7:=hC;go_wp2_with fail;clear hC l0 l1 l2 lf0 lf1 lf2 llt k0 k1 k2 kf0 kf1 kf2 klt p0 p1 p2 p3 p4 p5 ltS yW ylt u0 u1 uf0 uf1 ult hK5 hB6;refine z0n (C:=Blk w [(w4.heap.size,cT #[A D wl,A D wl] 84 (0,0)),(L,cT #[A D (y.reg d).k,A D (y.reg d).l,A D (y.reg d).h] 192 (0,0)),(K,cT #[A D bk,A D bl,A D bh] 192 (0,0)),(B,cT (z04 p y) 196 (0,0)),(w.heap.size,cT #[A D c,A D d,A D s,.bool r,A D o,A D n] 135 (0,0))]) (n0:=w.heap.size) 8 [] [] kR kR (fun d _ _ _ _ h=>by cases d<;>exact h) (Blk.stable _ _) (Blk.room0 _ _) hK7.drew trivial ?_;simp only[lQ,lX,lY,lZ,lJ,Nat.reduceAdd]
  repeat(first
   |(refine z0k kI ?_;simp only[pS])
   |(refine z09 kI (v:=?_) ?_ ?_;rotate_left;(intro w2 hC;obtain⟨u0,u1,uf0,uf1,ult⟩:=row2 (hC.2 _ mcS);obtain⟨l0,l1,l2,lf0,lf1,lf2,llt⟩:=row3 (hC.2 _ (mcO _ mcS));obtain⟨k0,k1,k2,kf0,kf1,kf2,klt⟩:=row3 (hC.2 _ (mcO _ (mcO _ mcS)));have yW:z03 _ B _ _:=(hC.2 _ (mcO _ (mcO _ (mcO _ mcS))));have ylt:=yW.lt;obtain⟨p0,p1,p2,p3,p4,p5,ltS⟩:=row6 (hC.2 _ (mcO _ (mcO _ (mcO _ (mcO _ mcS)))));go_simp;try with_reducible rfl);simp only[pS]))
  refine z0r ?_;intro w8 hC hB8;obtain⟨u0,u1,uf0,uf1,ult⟩:=row2 (hC.2 _ mcS);obtain⟨l0,l1,l2,lf0,lf1,lf2,llt⟩:=row3 (hC.2 _ (mcO _ mcS));obtain⟨k0,k1,k2,kf0,kf1,kf2,klt⟩:=row3 (hC.2 _ (mcO _ (mcO _ mcS)));have yW:z03 _ B _ _:=(hC.2 _ (mcO _ (mcO _ (mcO _ mcS))));have ylt:=yW.lt;obtain⟨p0,p1,p2,p3,p4,p5,ltS⟩:=row6 (hC.2 _ (mcO _ (mcO _ (mcO _ (mcO _ mcS)))));obtain⟨i0,i1,i2⟩:=yW.slot ht;have if0:=yW.frozen (34+t*3);have if1:=yW.frozen (34+t*3+1);have if2:=yW.frozen (34+t*3+2);have HK:=z0d hC.1 B;go_wp2_with fail;go_ret;exact⟨rfl,kK,yW.slot3 t bk bl bh⟩
def z5v:=fun B d s c o n p r y hd hs bk bl bh HB=>(@zE5 B d s c o n p r y hd hs bk bl bh HB).1
def zMr:=fun B d s c o n p r y hd hs bk bl bh HB=>(@zE5 B d s c o n p r y hd hs bk bl bh HB).2.1
def zMs:=fun B d s c o n p r y hd hs bk bl bh HB=>(@zE5 B d s c o n p r y hd hs bk bl bh HB).2.2
theorem zRi{B d s:Nat}{c o n p:Int}{r:Bool}{y:Way}(hd:d<11)(hs:s<11)(hy:y.Ok)(ho:In64 o){w:World}(hW:z03 w B p y):
  Calls tP 144 #[pT (some ⟨B,0,none⟩),.agg #[A D c,A D d,A D s,.bool r,A D o,A D n]] w fun e w'=>e= rT (A D (y.store (y.reg d) (y.second s r n) o).1)/\Kept B w w'/\z03 w' B p (y.store (y.reg d) (y.second s r n) o).2:=by
 have HR:=fun W:World=>zFx (y.reg d) o (hy.reg d hd) ho W;have mv: ∀{E:Int}{e:Ending}{w':World},(e= rT (A D E)/\Below w.heap.size w w')->e= rT (A D E)/\Kept B w w'/\z03 w' B p y:=fun h=>⟨h.1,z0d h.2 B,hW.later h.2⟩;unfold Way.store;rcases hv:y.second s r n with⟨bk,bl,bh⟩
 rcases e:z1m (y.reg d) o with⟨⟨wl,wh⟩,E⟩
 rw[e]at HR
 by_cases hE:E=0
 ·subst hE
  rw[if_neg kS];have er:(z1m (y.reg d) o).2=0:=by rw[e]
  obtain⟨hk,e1,r1,r2⟩:=z97 er;have ot:=zIs (hy.reg d hd) ho;rw[e]at e1;rw[<-e1]at r1 r2 ot;have k0:=(hy.reg d hd).1;have k5:=(hy.reg d hd).2.1
  by_cases h2:(y.reg d).k=2
  ·rw[if_pos h2];exact(z5v B d s c o n p r y hd hs bk bl bh hv wl wh 0 HR 6 (Or.inr (Or.inl ⟨rfl,by simpa using h2,rfl⟩)) w hW).mono fun _ _ h=>mv h
  rw[if_neg h2]
  by_cases h0:bk=0
  ·rw[if_pos h0];exact(z5v B d s c o n p r y hd hs bk bl bh hv wl wh 0 HR 8 (Or.inr (Or.inr (Or.inl ⟨rfl,by simpa using h2,by simpa using h0,rfl⟩))) w hW).mono fun _ _ h=>mv h
  rw[if_neg h0]
  by_cases h4:(y.reg d).k=4
  ·rw[if_pos h4];exact(z5v B d s c o n p r y hd hs bk bl bh hv wl wh 0 HR _ (Or.inr (Or.inr (Or.inr ⟨rfl,by simpa using h2,by simpa using h0,by simpa using h4,rfl⟩))) w hW).mono fun _ _ h=>mv h
  rw[if_neg h4];have h3:(y.reg d).k=3:=kO;rw[h3]at r1 r2;change-16<=wl at r1
  change wh<= -1 at r2
  change wl<=wh at ot
  by_cases hq:wl=wh
  ·subst hq
   rw[if_neg kS];obtain⟨t,et⟩:=Int.eq_ofNat_of_zero_le (show 0<=wl+16 by omega);have e2:IntKind.i64.wrap (wl+16)=(t:Int):=by rw[IntWalk.i64_left,z0s kO kO];exact et
   show Calls _ _ _ _ fun e w'=>e= rT (A D 0)/\Kept B w w'/\z03 w' B p (y.putSlot (wl+16).toNat ⟨bk,bl,bh⟩);rw[show(wl+16).toNat=t by omega];exact zMs B d s c o n p r y hd hs bk bl bh hv wl 0 HR t kO e2 rfl (by simpa using h2) (by simpa using h0) (by simpa using h4) w hW
  ·rw[if_pos hq]
   exact(zMr B d s c o n p r y hd hs bk bl bh hv wl wh 0 HR rfl (by simpa using h2) (by simpa using h0) (by simpa using h4) (fun e=>hq e.symm) w hW).mono fun _ _ h=>mv h
 rw[if_pos hE];exact(z5v B d s c o n p r y hd hs bk bl bh hv wl wh E HR E (Or.inl ⟨by simpa using hE,rfl⟩) w hW).mono fun _ _ h=>mv h
theorem Way.lose_put(y:Way):y.lose=((((y.putReg 1 kno0).putReg 2 kno0).putReg 3 kno0).putReg 4 kno0).putReg 5 kno0:=by
 unfold Way.lose Way.putReg;congr 1;funext i
 by_cases h:1<=i/\i<=5
 ·rw[if_pos h]
  rcases(show i=1\/i=2\/i=3\/i=4\/i=5 by omega)with rfl|rfl|rfl|rfl|rfl<;>rfl
 rw[if_neg h];show _=if i=5 then kno0 else if i=4 then kno0 else if i=3 then kno0 else if i=2 then kno0 else if i=1 then kno0 else y.reg i;rw[if_neg kO,if_neg kO,if_neg kO,if_neg kO,if_neg kO]
theorem zAm{w:World}{B:Nat}{p:Int}{y:Way}(hW:z03 w B p y): ∃w',(Builtin.clear_ #[268] 0 #[.slice (some ⟨B,4,none⟩) 5 10]).run tP w= .ok (.tuple #[]) w'/\Kept B w w'/\z03 w' B p y.lose:=by
 have hst:=run_storeCells_cells (P:=tP) B 4 (List.replicate 15 (A D 0)) 0 w (by
  intro j hj;rw[List.length_replicate]at hj;rw[hW.at _ kO];rfl) (by intro j hj;exact hW.frozen _) (by intro v hv';rw[List.eq_of_mem_replicate hv'];rfl)
 simp only[Nat.add_zero]at hst;have hzc:(Builtin.zeroCells (Value.agg #[A D 0,A D 0,A D 0]).cells 5).toList=List.replicate 15 (A D 0):=by first|rfl|kernel_rfl|(simp[Builtin.zeroCells];rfl)
 refine⟨w.setCells B 4 (List.replicate 15 (A D 0)),?_,?_,?_⟩
 ·generalize List.replicate 15 (Value.int .i64 0)=zs at hst hzc⊢
  simp[Builtin.clear_,run_underlying Tryz.underlying268,hzc,hst]
 ·show Kept B w (((((((((((((((w.setCell ⟨B,4,none⟩ _).setCell ⟨B,5,none⟩ _).setCell ⟨B,6,none⟩ _).setCell ⟨B,7,none⟩ _).setCell ⟨B,8,none⟩ _).setCell ⟨B,9,none⟩ _).setCell ⟨B,10,none⟩ _).setCell ⟨B,11,none⟩ _).setCell ⟨B,12,none⟩ _).setCell ⟨B,13,none⟩ _).setCell ⟨B,14,none⟩ _).setCell ⟨B,15,none⟩ _).setCell ⟨B,16,none⟩ _).setCell ⟨B,17,none⟩ _).setCell ⟨B,18,none⟩ _)
  repeat with_reducible refine z13 ?_ _ _
  exact z1b B w
 rw[y.lose_put];exact((((hW.reg3 (d:=1) kD 0 0 0).reg3 (d:=2) kD 0 0 0).reg3 (d:=3) kD 0 0 0).reg3 (d:=4) kD 0 0 0).reg3 (d:=5) kD 0 0 0
theorem zLo(B:Nat)(p:Int)(y:Way)(E:Int)(HW:Hid (z16 ⟨(y.reg 1).k,(y.reg 1).l,(y.reg 1).h⟩=E))(hE:(E !=0)=true)(w:World)(hW:z03 w B p y):(zR 145 #[pT (some ⟨B,0,none⟩),A D 1] w (A D E))/\(zR 145 #[pT (some ⟨B,0,none⟩),A D 3] w (A D E)):=by
 refine⟨?_,?_⟩
 all_goals
  have hB:=hW.lt;obtain⟨h0,h1,h2⟩:=hW.reg (d:=1) kD;simp only[Nat.reduceMul,Nat.reduceAdd]at h0 h1 h2
 all_goals
  go_enter Tryz.func145,Tryz.ntmps145
  go_wp2_with(first
   |(go_at_call 142;refine(z48 _ _ _ _).mono ?_;rintro e w1 ⟨rfl,hb1⟩;rw[HW.out];have hW1:z03 w1 B p y:=hW.later hb1;have hB1:=hW1.lt)
   |fail)
  go_ret;exact⟨rfl,hb1⟩
def zV5:=fun B p y E HW hE w hW=>(@zLo B p y E HW hE w hW).1
def zV4:=fun B p y E HW hE w hW=>(@zLo B p y E HW hE w hW).2
theorem zRw(B:Nat)(p:Int)(y:Way)(HW:Hid (z16 ⟨(y.reg 1).k,(y.reg 1).l,(y.reg 1).h⟩=0))(w:World)(hW:z03 w B p y):
  Calls tP 145 #[pT (some ⟨B,0,none⟩),A D 1] w fun e w'=>e= rT (A D 0)/\Kept B w w'/\z03 w' B p (y.lose.putReg 0 ⟨5,0,0⟩):=by
 have hB:=hW.lt;obtain⟨h0,h1,h2⟩:=hW.reg (d:=1) kD;simp only[Nat.reduceMul,Nat.reduceAdd]at h0 h1 h2;go_enter Tryz.func145,Tryz.ntmps145
 go_wp2_with(first
  |(go_at_call 142;refine(z48 _ _ _ _).mono ?_;rintro e w1 ⟨rfl,hb1⟩;rw[HW.out];have hW1:z03 w1 B p y:=hW.later hb1;have hB1:=hW1.lt)
  |fail)
 obtain⟨wc,hc,hkc,hmc⟩:=zAm hW1;rw[hc];clear hc;have hBc:=hmc.lt;obtain⟨i0,i1,i2⟩:=hmc.reg (d:=0) kD;simp only[Nat.reduceMul,Nat.reduceAdd]at i0 i1 i2;have f0:=hmc.frozen 1;have f1:=hmc.frozen 2;have f2:=hmc.frozen 3;go_wp2_with fail;go_ret;have HK:Kept B w wc:=z18 (z0d hb1 B) hkc;exact⟨rfl,kK,hmc.put0 5 0 0⟩
theorem zRv(B:Nat)(p:Int)(y:Way)(w:World)(hW:z03 w B p y):
  Calls tP 145 #[pT (some ⟨B,0,none⟩),A D 2] w fun e w'=>e= rT (A D 0)/\Kept B w w'/\z03 w' B p (y.lose.putReg 0 ⟨1,(-9223372036854775808),9223372036854775807⟩):=by
 have hB:=hW.lt;go_enter Tryz.func145,Tryz.ntmps145;go_wp2_with fail;obtain⟨wc,hc,hkc,hmc⟩:=zAm hW;rw[hc];clear hc;have hBc:=hmc.lt;go_wp2_with fail;refine z0n (C:=Blk wc [(B,cT (z04 p y.lose) 196 (0,0))]) (n0:=wc.heap.size) 6 [] [] kR kR (fun d _ _ _ _ h=>by cases d<;>exact h) (Blk.stable _ _) (Blk.room0 _ _) (((Blk.nil (bF _ _)).cons hmc).drew) trivial ?_;simp only[lQ,lX,lY,lZ,lJ,Nat.reduceAdd]
 repeat(first
  |(refine z0k kI ?_;simp only[pS])
  |(refine z09 kI (v:=?_) ?_ ?_;rotate_left;(intro w2 hC;have yW:z03 _ B _ _:=(hC.2 _ mcS);have ylt:=yW.lt;go_simp;try with_reducible rfl);simp only[pS])
  |(refine z0t kI ?_;apply Exists.intro;refine⟨fun w2 hC=>?_,?_⟩;(have yW:z03 _ B _ _:=(hC.2 _ mcS);have ylt:=yW.lt;go_simp;apply z10;first|(go_at_call 89;exact z3l w2)|(go_at_call 180;exact z1o _ _ w2));simp only[pS]))
 refine z0r ?_;intro w5 hC hB5;have yW:z03 _ B _ _:=(hC.2 _ mcS);have ylt:=yW.lt;obtain⟨i0,i1,i2⟩:=yW.reg (d:=0) kD;simp only[Nat.reduceMul,Nat.reduceAdd]at i0 i1 i2;have f0:=yW.frozen 1;have f1:=yW.frozen 2;have f2:=yW.frozen 3;simp only[Kno.v,z1n];go_wp2_with fail;go_ret;have HK:Kept B w w5:=z1h (hkc) hC.1;exact⟨rfl,kK,yW.put0 1 (-9223372036854775808) 9223372036854775807⟩
theorem zRx(B:Nat)(p:Int)(y:Way)(HW:Hid (z16 ⟨(y.reg 1).k,(y.reg 1).l,(y.reg 1).h⟩=0))(w:World)(hW:z03 w B p y):
  Calls tP 145 #[pT (some ⟨B,0,none⟩),A D 3] w fun e w'=>e= rT (A D 0)/\Kept B w w'/\z03 w' B p (y.lose.putReg 0 ⟨1,0,0⟩):=by
 have hB:=hW.lt;obtain⟨h0,h1,h2⟩:=hW.reg (d:=1) kD;simp only[Nat.reduceMul,Nat.reduceAdd]at h0 h1 h2;go_enter Tryz.func145,Tryz.ntmps145
 go_wp2_with(first
  |(go_at_call 142;refine(z48 _ _ _ _).mono ?_;rintro e w1 ⟨rfl,hb1⟩;rw[HW.out];have hW1:z03 w1 B p y:=hW.later hb1;have hB1:=hW1.lt)
  |fail)
 obtain⟨wc,hc,hkc,hmc⟩:=zAm hW1;rw[hc];clear hc;have hBc:=hmc.lt;go_wp2_with fail;refine z0n (C:=Blk wc [(B,cT (z04 p y.lose) 196 (0,0))]) (n0:=wc.heap.size) 6 [] [] kR kR (fun d _ _ _ _ h=>by cases d<;>exact h) (Blk.stable _ _) (Blk.room0 _ _) (((Blk.nil (bF _ _)).cons hmc).drew) trivial ?_;simp only[lQ,lX,lY,lZ,lJ,Nat.reduceAdd]
 repeat(first
  |(refine z0k kI ?_;simp only[pS])
  |(refine z09 kI (v:=?_) ?_ ?_;rotate_left;(intro w2 hC;have yW:z03 _ B _ _:=(hC.2 _ mcS);have ylt:=yW.lt;go_simp;try with_reducible rfl);simp only[pS])
  |(refine z0t kI ?_;apply Exists.intro;refine⟨fun w2 hC=>?_,?_⟩;(have yW:z03 _ B _ _:=(hC.2 _ mcS);have ylt:=yW.lt;go_simp;apply z10;first|(go_at_call 86;exact z3c _ w2)|(go_at_call 180;exact z1o _ _ w2));simp only[pS]))
 refine z0r ?_;intro w5 hC hB5;have yW:z03 _ B _ _:=(hC.2 _ mcS);have ylt:=yW.lt;obtain⟨i0,i1,i2⟩:=yW.reg (d:=0) kD;simp only[Nat.reduceMul,Nat.reduceAdd]at i0 i1 i2;have f0:=yW.frozen 1;have f1:=yW.frozen 2;have f2:=yW.frozen 3;simp only[Kno.v,z1n];go_wp2_with fail;go_ret;have HK:Kept B w w5:=z1h ((z18 (z0d hb1 B) hkc)) hC.1;exact⟨rfl,kK,yW.put0 1 0 0⟩
theorem zV6{B:Nat}{p what:Int}{y:Way}(hw:what=1\/what=2\/what=3){w:World}(hW:z03 w B p y):
  Calls tP 145 #[pT (some ⟨B,0,none⟩),A D what] w fun e w'=>e= rT (A D (y.call what).1)/\Kept B w w'/\z03 w' B p (y.call what).2:=by
 have mv: ∀{E:Int}{e:Ending}{w':World},(e= rT (A D E)/\Below w.heap.size w w')->e= rT (A D E)/\Kept B w w'/\z03 w' B p y:=fun h=>⟨h.1,z0d h.2 B,hW.later h.2⟩;unfold Way.call;rcases hw with rfl|rfl|rfl
 ·by_cases h:z16 (y.reg 1)=0
  ·rw[if_neg (fun e=>e.2 h),if_pos rfl];exact zRw B p y h w hW
  ·rw[if_pos ⟨Or.inl rfl,h⟩];exact(zV5 B p y _ rfl (by simpa using h) w hW).mono fun _ _ h=>mv h
 ·rw[if_neg (by intro e;omega),if_neg kD,if_pos rfl];exact zRv B p y w hW
 by_cases h:z16 (y.reg 1)=0
 ·rw[if_neg (fun e=>e.2 h),if_neg kD,if_neg kD];exact zRx B p y h w hW
 rw[if_pos ⟨Or.inr rfl,h⟩];exact(zV4 B p y _ rfl (by simpa using h) w hW).mono fun _ _ h=>mv h
end
theorem zWw(c al ah bl bh:Int)(pal: -9223372036854775808<=al)(qal:al<=9223372036854775807)(pah: -9223372036854775808<=ah)(qah:ah<=9223372036854775807)(pbl: -9223372036854775808<=bl)(qbl:bl<=9223372036854775807)(pbh: -9223372036854775808<=bh)(qbh:bh<=9223372036854775807)(oa:al<=ah)(ob:bl<=bh)(w:World):zR 218 #[A D c,.agg #[A D al,A D ah],.agg #[A D bl,A D bh]] w (.tuple #[.agg #[A D (((narV c al ah bl bh).1).1),A D (((narV c al ah bl bh).1).2)],.agg #[A D (((narV c al ah bl bh).2.1).1),A D (((narV c al ah bl bh).2.1).2)],.bool ((narV c al ah bl bh).2.2)]):=by
 by_cases hc:c<15\/24<c
 ·rw[q5g al ah bl bh hc]
  exact nar_no c al ah bl bh hc w
 have e:c=15\/c=16\/c=17\/c=18\/c=19\/c=20\/c=21\/c=22\/c=23\/c=24:=kO;rcases e with rfl|rfl|rfl|rfl|rfl|rfl|rfl|rfl|rfl|rfl
 ·rw[zX6];exact nar_15 al ah bl bh pal qal pah qah pbl qbl pbh qbh oa ob w
 ·rw[zX5];exact nar_16 al ah bl bh pal qal pah qah pbl qbl pbh qbh oa ob w
 ·rw[zX4];exact nar_17 al ah bl bh pal qal pah qah pbl qbl pbh qbh oa ob w
 ·rw[zX3];exact nar_18 al ah bl bh pal qal pah qah pbl qbl pbh qbh oa ob w
 ·rw[zX2];exact nar_19 al ah bl bh pal qal pah qah pbl qbl pbh qbh oa ob w
 ·rw[zX1];exact nar_20 al ah bl bh pal qal pah qah pbl qbl pbh qbh oa ob w
 ·rw[zX0];exact nar_21 al ah bl bh pal qal pah qah pbl qbl pbh qbh oa ob w
 ·rw[zWz];exact nar_22 al ah bl bh pal qal pah qah pbl qbl pbh qbh oa ob w
 ·rw[zWy];exact nar_23 al ah bl bh pal qal pah qah pbl qbl pbh qbh oa ob w
 rw[zWx];exact nar_24 al ah bl bh pal qal pah qah pbl qbl pbh qbh oa ob w
theorem opp_is(c:Int)(h:15<=c/\c<=24)(w:World):zS 207 #[A D c] w (A D (oppV c)):=by
 have e:c=15\/c=16\/c=17\/c=18\/c=19\/c=20\/c=21\/c=22\/c=23\/c=24:=kO;rcases e with rfl|rfl|rfl|rfl|rfl|rfl|rfl|rfl|rfl|rfl
 ·exact opp_15 w
 ·exact opp_16 w
 ·exact opp_17 w
 ·exact opp_18 w
 ·exact opp_19 w
 ·exact opp_20 w
 ·exact opp_21 w
 ·exact opp_22 w
 ·exact opp_23 w
 exact opp_24 w
end Go.Proofs.YtkdflpplamebkaaGreatDoor
