/-
A part of the proof of DeskPieces; its card says what is proved.
-/
import Derived.Test.YtkdflpplamebkaaGreatDoorJp23
set_option maxHeartbeats 40000000
open Go.Value renaming int → A
open Go.IntKind renaming i64 → D
open Go.RowKit.Below renaming alloc → bA, setCell → bS, drew → bD, refl → bF
set_option maxRecDepth 1000000
set_option linter.defProp false
set_option linter.unusedVariables false
set_option linter.unusedSimpArgs false
open Go.Ending renaming returned → rT
open Go.Value renaming pointer → pT
open Go.Obj renaming cells → cT
open Go.Proofs.Tryz renaming prog → tP
open List renaming take_succ_cons → lQ, take_zero → lX, drop_succ_cons → lY, drop_zero → lZ, length_nil → lJ, length_cons → lV
namespace Go.Proofs.YtkdflpplamebkaaGreatDoor
open Go.ChangeShapes Go.WideShapes Go.ChangeAt Go.RowKit
section
attribute [local simp] z05 z0a z06
theorem z9g(k l h:Int)(w:World):(Instr.field 192 (.agg #[A D k,A D l,A D h]) 1).run tP w= .ok (.agg #[A D l,A D h]) w:=kR
theorem zRk(B d s:Nat)(c o n p code:Int)(r:Bool)(y:Way)(hd:d<11)(hs:s<11)(bk bl bh:Int)(HB:Hid (y.second s r n=⟨bk,bl,bh⟩))(x0 x1 y0 y1:Int)(HN:Hid (∀W:World,zR 218 #[A D code,.agg #[A D (y.reg d).l,A D (y.reg d).h],.agg #[A D bl,A D bh]] W (.tuple #[.agg #[A D x0,A D x1],.agg #[A D y0,A D y1],.bool false])))(w:World)(hW:z03 w B p y):
  zR 206 #[pT (some ⟨B,0,none⟩),.agg #[A D c,A D d,A D s,.bool r,A D o,A D n],A D code] w (.bool false):=by
 have hK0:Blk w [(w.heap.size,cT #[A D c,A D d,A D s,.bool r,A D o,A D n] 135 (0,0)),(B,cT (z04 p y) 196 (0,0))] _:=((Blk.nil ((bF _ _).alloc (Nat.le_refl _) _)).cons (hW.alloc _)).cons (heap_alloc_new w (cT #[A D c,A D d,A D s,.bool r,A D o,A D n] 135));have hB:=hW.lt;have hs0:(0:Int)<=(s:Int):=kO;have hs1:(s:Int)<11:=kO;have hd0:(0:Int)<=(d:Int):=kO;have hd1:(d:Int)<11:=kO;have hfl:=z9g bk bl bh;go_enter Tryz.func206,Tryz.ntmps206;go_wp2_with fail;refine z0n (C:=Blk w [(w.heap.size,cT #[A D c,A D d,A D s,.bool r,A D o,A D n] 135 (0,0)),(B,cT (z04 p y) 196 (0,0))]) (n0:=w.heap.size+1) 18 [16,17] [cT #[A D 0,A D 0] 84 (0,0),cT #[A D 0,A D 0] 84 (0,0)] kR kR (fun d _ _ _ _ h=>by cases d<;>exact h) (Blk.stable _ _) (Blk.room w mcS) hK0.drew ⟨⟨rfl,fun a w2 hC=>by go_simp;try rfl⟩,⟨rfl,fun a w2 hC=>by go_simp;try rfl⟩,trivial⟩ ?_;simp only[lQ,lX,lY,lZ,lV,lJ,Nat.reduceAdd]
 repeat(first
  |(refine z0k kI ?_;simp only[pS])
  |(refine z09 kI (v:=?_) ?_ ?_;rotate_left;(intro w2 hC;obtain⟨p0,p1,p2,p3,p4,p5,ltS⟩:=row6 (hC.2 _ mcS);have yW:z03 _ B _ _:=(hC.2 _ (mcO _ mcS));have ylt:=yW.lt;obtain⟨i0,i1,i2⟩:=yW.reg hd;go_simp;try with_reducible rfl);simp only[pS])
  |(refine z0t kI ?_;apply Exists.intro;refine⟨fun w2 hC=>?_,?_⟩;(obtain⟨p0,p1,p2,p3,p4,p5,ltS⟩:=row6 (hC.2 _ mcS);have yW:z03 _ B _ _:=(hC.2 _ (mcO _ mcS));have ylt:=yW.lt;obtain⟨i0,i1,i2⟩:=yW.reg hd;go_simp;apply z10;first|(go_at_call 176;exact(by have hq:=z3w B s c d o n r p y hs w2 yW;rw[HB.out]at hq;unfold Kno.v at hq;exact hq))|(go_at_call 218;exact HN.out w2));simp only[pS]))
 refine z0r ?_;intro L h5 g5 K h6 g6 w3 hC hB3;have hne:K≠L:=(FB.upd_none h6).1;have hne':L≠K:=fun e=>hne e.symm;have bK:=hB3 K _ (FB.at_new _ _ _);have bL:=hB3 L _ (FB.at_old hne' (FB.at_new _ _ _));obtain⟨l0,l1,lf0,lf1,llt⟩:=row2 bL;obtain⟨k0,k1,kf0,kf1,klt⟩:=row2 bK;obtain⟨p0,p1,p2,p3,p4,p5,ltS⟩:=row6 (hC.2 _ mcS);have yW:z03 _ B _ _:=(hC.2 _ (mcO _ mcS));have ylt:=yW.lt;obtain⟨i0,i1,i2⟩:=yW.reg hd;have hbw:=hC.1;have n1:w.heap.size≠L:=kO;have n2:B≠L:=kO;have n3:w.heap.size≠K:=kO;have n4:B≠K:=kO;simp only[zAx];go_wp2_with fail;go_ret;exact⟨rfl,kW⟩
theorem zJn(B d:Nat)(c o n p code:Int)(y:Way)(hd:d<11)(bk bl bh:Int)(HB:Hid (y.second d true n=⟨bk,bl,bh⟩))(x0 x1 y0 y1:Int)(HN:Hid (∀W:World,zR 218 #[A D code,.agg #[A D (y.reg d).l,A D (y.reg d).h],.agg #[A D bl,A D bh]] W (.tuple #[.agg #[A D x0,A D x1],.agg #[A D y0,A D y1],.bool true])))(w:World)(hW:z03 w B p y):
  zR 206 #[pT (some ⟨B,0,none⟩),.agg #[A D c,A D d,A D d,.bool true,A D o,A D n],A D code] w (.bool true):=by
 have hK0:Blk w [(w.heap.size,cT #[A D c,A D d,A D d,.bool true,A D o,A D n] 135 (0,0)),(B,cT (z04 p y) 196 (0,0))] _:=((Blk.nil ((bF _ _).alloc (Nat.le_refl _) _)).cons (hW.alloc _)).cons (heap_alloc_new w (cT #[A D c,A D d,A D d,.bool true,A D o,A D n] 135));have hB:=hW.lt;have hd0:(0:Int)<=(d:Int):=kO;have hd1:(d:Int)<11:=kO;have hfl:=z9g bk bl bh;go_enter Tryz.func206,Tryz.ntmps206;go_wp2_with fail;refine z0n (C:=Blk w [(w.heap.size,cT #[A D c,A D d,A D d,.bool true,A D o,A D n] 135 (0,0)),(B,cT (z04 p y) 196 (0,0))]) (n0:=w.heap.size+1) 18 [16,17] [cT #[A D 0,A D 0] 84 (0,0),cT #[A D 0,A D 0] 84 (0,0)] kR kR (fun d _ _ _ _ h=>by cases d<;>exact h) (Blk.stable _ _) (Blk.room w mcS) hK0.drew ⟨⟨rfl,fun a w2 hC=>by go_simp;try rfl⟩,⟨rfl,fun a w2 hC=>by go_simp;try rfl⟩,trivial⟩ ?_;simp only[lQ,lX,lY,lZ,lV,lJ,Nat.reduceAdd]
 repeat(first
  |(refine z0k kI ?_;simp only[pS])
  |(refine z09 kI (v:=?_) ?_ ?_;rotate_left;(intro w2 hC;obtain⟨p0,p1,p2,p3,p4,p5,ltS⟩:=row6 (hC.2 _ mcS);have yW:z03 _ B _ _:=(hC.2 _ (mcO _ mcS));have ylt:=yW.lt;obtain⟨i0,i1,i2⟩:=yW.reg hd;go_simp;try with_reducible rfl);simp only[pS])
  |(refine z0t kI ?_;apply Exists.intro;refine⟨fun w2 hC=>?_,?_⟩;(obtain⟨p0,p1,p2,p3,p4,p5,ltS⟩:=row6 (hC.2 _ mcS);have yW:z03 _ B _ _:=(hC.2 _ (mcO _ mcS));have ylt:=yW.lt;obtain⟨i0,i1,i2⟩:=yW.reg hd;go_simp;apply z10;first|(go_at_call 176;exact(by have hq:=z3w B d c d o n true p y hd w2 yW;rw[HB.out]at hq;unfold Kno.v at hq;exact hq))|(go_at_call 218;exact HN.out w2));simp only[pS]))
 refine z0r ?_;intro L h5 g5 K h6 g6 w3 hC hB3;have hne:K≠L:=(FB.upd_none h6).1;have hne':L≠K:=fun e=>hne e.symm;have bK:=hB3 K _ (FB.at_new _ _ _);have bL:=hB3 L _ (FB.at_old hne' (FB.at_new _ _ _));obtain⟨l0,l1,lf0,lf1,llt⟩:=row2 bL;obtain⟨k0,k1,kf0,kf1,klt⟩:=row2 bK;obtain⟨p0,p1,p2,p3,p4,p5,ltS⟩:=row6 (hC.2 _ mcS);have yW:z03 _ B _ _:=(hC.2 _ (mcO _ mcS));have ylt:=yW.lt;obtain⟨i0,i1,i2⟩:=yW.reg hd;have hbw:=hC.1;have n1:w.heap.size≠L:=kO;have n2:B≠L:=kO;have n3:w.heap.size≠K:=kO;have n4:B≠K:=kO;simp only[zAx];go_wp2_with fail;go_ret;exact⟨rfl,kW⟩
theorem zMz(B d s:Nat)(c o n p code:Int)(y:Way)(hd:d<11)(hs:s<11)(bk bl bh:Int)(HB:Hid (y.second s false n=⟨bk,bl,bh⟩))(x0 x1 y0 y1:Int)(HN:Hid (∀W:World,zR 218 #[A D code,.agg #[A D (y.reg d).l,A D (y.reg d).h],.agg #[A D bl,A D bh]] W (.tuple #[.agg #[A D x0,A D x1],.agg #[A D y0,A D y1],.bool true])))(w:World)(hW:z03 w B p y):
  Calls tP 206 #[pT (some ⟨B,0,none⟩),.agg #[A D c,A D d,A D s,.bool false,A D o,A D n],A D code] w fun e w'=>e= rT (.bool true)/\Kept B w w'/\z03 w' B p (y.putReg d ⟨1,x0,x1⟩):=by
 have hK0:Blk w [(w.heap.size,cT #[A D c,A D d,A D s,.bool false,A D o,A D n] 135 (0,0)),(B,cT (z04 p y) 196 (0,0))] _:=((Blk.nil ((bF _ _).alloc (Nat.le_refl _) _)).cons (hW.alloc _)).cons (heap_alloc_new w (cT #[A D c,A D d,A D s,.bool false,A D o,A D n] 135));have hB:=hW.lt;have hs0:(0:Int)<=(s:Int):=kO;have hs1:(s:Int)<11:=kO;have hd0:(0:Int)<=(d:Int):=kO;have hd1:(d:Int)<11:=kO;have hfl:=z9g bk bl bh;go_enter Tryz.func206,Tryz.ntmps206;go_wp2_with fail;refine z0n (C:=Blk w [(w.heap.size,cT #[A D c,A D d,A D s,.bool false,A D o,A D n] 135 (0,0)),(B,cT (z04 p y) 196 (0,0))]) (n0:=w.heap.size+1) 18 [16,17] [cT #[A D 0,A D 0] 84 (0,0),cT #[A D 0,A D 0] 84 (0,0)] kR kR (fun d _ _ _ _ h=>by cases d<;>exact h) (Blk.stable _ _) (Blk.room w mcS) hK0.drew ⟨⟨rfl,fun a w2 hC=>by go_simp;try rfl⟩,⟨rfl,fun a w2 hC=>by go_simp;try rfl⟩,trivial⟩ ?_;simp only[lQ,lX,lY,lZ,lV,lJ,Nat.reduceAdd]
 repeat(first
  |(refine z0k kI ?_;simp only[pS])
  |(refine z09 kI (v:=?_) ?_ ?_;rotate_left;(intro w2 hC;obtain⟨p0,p1,p2,p3,p4,p5,ltS⟩:=row6 (hC.2 _ mcS);have yW:z03 _ B _ _:=(hC.2 _ (mcO _ mcS));have ylt:=yW.lt;obtain⟨i0,i1,i2⟩:=yW.reg hd;go_simp;try with_reducible rfl);simp only[pS])
  |(refine z0t kI ?_;apply Exists.intro;refine⟨fun w2 hC=>?_,?_⟩;(obtain⟨p0,p1,p2,p3,p4,p5,ltS⟩:=row6 (hC.2 _ mcS);have yW:z03 _ B _ _:=(hC.2 _ (mcO _ mcS));have ylt:=yW.lt;obtain⟨i0,i1,i2⟩:=yW.reg hd;go_simp;apply z10;first|(go_at_call 176;exact(by have hq:=z3w B s c d o n false p y hs w2 yW;rw[HB.out]at hq;unfold Kno.v at hq;exact hq))|(go_at_call 218;exact HN.out w2));simp only[pS]))
 refine z0r ?_;intro L h5 g5 K h6 g6 w3 hC hB3;have hne:K≠L:=(FB.upd_none h6).1;have hne':L≠K:=fun e=>hne e.symm;have bK:=hB3 K _ (FB.at_new _ _ _);have bL:=hB3 L _ (FB.at_old hne' (FB.at_new _ _ _));obtain⟨l0,l1,lf0,lf1,llt⟩:=row2 bL;obtain⟨k0,k1,kf0,kf1,klt⟩:=row2 bK;obtain⟨p0,p1,p2,p3,p4,p5,ltS⟩:=row6 (hC.2 _ mcS);have yW:z03 _ B _ _:=(hC.2 _ (mcO _ mcS));have ylt:=yW.lt;obtain⟨i0,i1,i2⟩:=yW.reg hd;have hbw:=hC.1;have n1:w.heap.size≠L:=kO;have n2:B≠L:=kO;have n3:w.heap.size≠K:=kO;have n4:B≠K:=kO;simp only[zAx];go_wp2_with fail;have hK1:Blk w [(L,cT #[A D x0,A D x1] 84 (0,0)),(K,cT #[A D y0,A D y1] 84 (0,0)),(B,cT (z04 p y) 196 (0,0)),(w.heap.size,cT #[A D c,A D d,A D s,.bool false,A D o,A D n] 135 (0,0))] _:=((((Blk.nil kW).cons (off2 (off2 (hC.2 _ mcS) n1) n3)).cons (off2 (off2 (hC.2 _ (mcO _ mcS)) n2) n4)).cons (put2 (off2 bK hne))).cons (off2 (put2 bL) hne');clear l0 l1 lf0 lf1 llt k0 k1 kf0 kf1 klt p0 p1 p2 p3 p4 p5 ltS yW ylt i0 i1 i2 hC hbw bL bK hB3;refine z0n (C:=Blk w [(L,cT #[A D x0,A D x1] 84 (0,0)),(K,cT #[A D y0,A D y1] 84 (0,0)),(B,cT (z04 p y) 196 (0,0)),(w.heap.size,cT #[A D c,A D d,A D s,.bool false,A D o,A D n] 135 (0,0))]) (n0:=w.heap.size) 8 [] [] kR kR (fun d _ _ _ _ h=>by cases d<;>exact h) (Blk.stable _ _) (Blk.room0 _ _) hK1.drew trivial ?_;simp only[lQ,lX,lY,lZ,lJ,Nat.reduceAdd]
 repeat(first
  |(refine z0k kI ?_;simp only[pS])
  |(refine z09 kI (v:=?_) ?_ ?_;rotate_left;(intro w2 hC;obtain⟨l0,l1,lf0,lf1,llt⟩:=row2 (hC.2 _ mcS);obtain⟨k0,k1,kf0,kf1,klt⟩:=row2 (hC.2 _ (mcO _ mcS));have yW:z03 _ B _ _:=(hC.2 _ (mcO _ (mcO _ mcS)));have ylt:=yW.lt;obtain⟨i0,i1,i2⟩:=yW.reg hd;obtain⟨p0,p1,p2,p3,p4,p5,ltS⟩:=row6 (hC.2 _ (mcO _ (mcO _ (mcO _ mcS))));go_simp;try with_reducible rfl);simp only[pS])
  |(refine z0t kI ?_;apply Exists.intro;refine⟨fun w2 hC=>?_,?_⟩;(obtain⟨l0,l1,lf0,lf1,llt⟩:=row2 (hC.2 _ mcS);obtain⟨k0,k1,kf0,kf1,klt⟩:=row2 (hC.2 _ (mcO _ mcS));have yW:z03 _ B _ _:=(hC.2 _ (mcO _ (mcO _ mcS)));have ylt:=yW.lt;obtain⟨i0,i1,i2⟩:=yW.reg hd;obtain⟨p0,p1,p2,p3,p4,p5,ltS⟩:=row6 (hC.2 _ (mcO _ (mcO _ (mcO _ mcS))));go_simp;apply z10;first|(go_at_call 180;exact(by have hq:=z1o x0 x1 w2;unfold Kno.v z1n at hq;exact hq)));simp only[pS]))
 refine z0r ?_;intro w5 hC hB5;obtain⟨l0,l1,lf0,lf1,llt⟩:=row2 (hC.2 _ mcS);obtain⟨k0,k1,kf0,kf1,klt⟩:=row2 (hC.2 _ (mcO _ mcS));have yW:z03 _ B _ _:=(hC.2 _ (mcO _ (mcO _ mcS)));have ylt:=yW.lt;obtain⟨i0,i1,i2⟩:=yW.reg hd;obtain⟨p0,p1,p2,p3,p4,p5,ltS⟩:=row6 (hC.2 _ (mcO _ (mcO _ (mcO _ mcS))));have if0:=yW.frozen (1+d*3);have if1:=yW.frozen (1+d*3+1);have if2:=yW.frozen (1+d*3+2);have HK:=z0d hC.1 B;go_wp2_with fail;go_ret;exact⟨rfl,kK,yW.reg3 hd 1 x0 x1⟩
theorem zMy(B d s:Nat)(c o n p code:Int)(y:Way)(hd:d<11)(hs:s<11)(bk bl bh:Int)(HB:Hid (y.second s true n=⟨bk,bl,bh⟩))(x0 x1 y0 y1:Int)(HN:Hid (∀W:World,zR 218 #[A D code,.agg #[A D (y.reg d).l,A D (y.reg d).h],.agg #[A D bl,A D bh]] W (.tuple #[.agg #[A D x0,A D x1],.agg #[A D y0,A D y1],.bool true])))(hsd: ¬(s:Int)=(d:Int))(hsd2: ¬s=d)(w:World)(hW:z03 w B p y):
  Calls tP 206 #[pT (some ⟨B,0,none⟩),.agg #[A D c,A D d,A D s,.bool true,A D o,A D n],A D code] w fun e w'=>e= rT (.bool true)/\Kept B w w'/\z03 w' B p ((y.putReg d ⟨1,x0,x1⟩).putReg s ⟨1,y0,y1⟩):=by
 have hK0:Blk w [(w.heap.size,cT #[A D c,A D d,A D s,.bool true,A D o,A D n] 135 (0,0)),(B,cT (z04 p y) 196 (0,0))] _:=((Blk.nil ((bF _ _).alloc (Nat.le_refl _) _)).cons (hW.alloc _)).cons (heap_alloc_new w (cT #[A D c,A D d,A D s,.bool true,A D o,A D n] 135));have hB:=hW.lt;have hs0:(0:Int)<=(s:Int):=kO;have hs1:(s:Int)<11:=kO;have hd0:(0:Int)<=(d:Int):=kO;have hd1:(d:Int)<11:=kO;have hfl:=z9g bk bl bh;go_enter Tryz.func206,Tryz.ntmps206;go_wp2_with fail;refine z0n (C:=Blk w [(w.heap.size,cT #[A D c,A D d,A D s,.bool true,A D o,A D n] 135 (0,0)),(B,cT (z04 p y) 196 (0,0))]) (n0:=w.heap.size+1) 18 [16,17] [cT #[A D 0,A D 0] 84 (0,0),cT #[A D 0,A D 0] 84 (0,0)] kR kR (fun d _ _ _ _ h=>by cases d<;>exact h) (Blk.stable _ _) (Blk.room w mcS) hK0.drew ⟨⟨rfl,fun a w2 hC=>by go_simp;try rfl⟩,⟨rfl,fun a w2 hC=>by go_simp;try rfl⟩,trivial⟩ ?_;simp only[lQ,lX,lY,lZ,lV,lJ,Nat.reduceAdd]
 repeat(first
  |(refine z0k kI ?_;simp only[pS])
  |(refine z09 kI (v:=?_) ?_ ?_;rotate_left;(intro w2 hC;obtain⟨p0,p1,p2,p3,p4,p5,ltS⟩:=row6 (hC.2 _ mcS);have yW:z03 _ B _ _:=(hC.2 _ (mcO _ mcS));have ylt:=yW.lt;obtain⟨i0,i1,i2⟩:=yW.reg hd;go_simp;try with_reducible rfl);simp only[pS])
  |(refine z0t kI ?_;apply Exists.intro;refine⟨fun w2 hC=>?_,?_⟩;(obtain⟨p0,p1,p2,p3,p4,p5,ltS⟩:=row6 (hC.2 _ mcS);have yW:z03 _ B _ _:=(hC.2 _ (mcO _ mcS));have ylt:=yW.lt;obtain⟨i0,i1,i2⟩:=yW.reg hd;go_simp;apply z10;first|(go_at_call 176;exact(by have hq:=z3w B s c d o n true p y hs w2 yW;rw[HB.out]at hq;unfold Kno.v at hq;exact hq))|(go_at_call 218;exact HN.out w2));simp only[pS]))
 refine z0r ?_;intro L h5 g5 K h6 g6 w3 hC hB3;have hne:K≠L:=(FB.upd_none h6).1;have hne':L≠K:=fun e=>hne e.symm;have bK:=hB3 K _ (FB.at_new _ _ _);have bL:=hB3 L _ (FB.at_old hne' (FB.at_new _ _ _));obtain⟨l0,l1,lf0,lf1,llt⟩:=row2 bL;obtain⟨k0,k1,kf0,kf1,klt⟩:=row2 bK;obtain⟨p0,p1,p2,p3,p4,p5,ltS⟩:=row6 (hC.2 _ mcS);have yW:z03 _ B _ _:=(hC.2 _ (mcO _ mcS));have ylt:=yW.lt;obtain⟨i0,i1,i2⟩:=yW.reg hd;have hbw:=hC.1;have n1:w.heap.size≠L:=kO;have n2:B≠L:=kO;have n3:w.heap.size≠K:=kO;have n4:B≠K:=kO;simp only[zAx];go_wp2_with fail;have hK1:Blk w [(L,cT #[A D x0,A D x1] 84 (0,0)),(K,cT #[A D y0,A D y1] 84 (0,0)),(B,cT (z04 p y) 196 (0,0)),(w.heap.size,cT #[A D c,A D d,A D s,.bool true,A D o,A D n] 135 (0,0))] _:=((((Blk.nil kW).cons (off2 (off2 (hC.2 _ mcS) n1) n3)).cons (off2 (off2 (hC.2 _ (mcO _ mcS)) n2) n4)).cons (put2 (off2 bK hne))).cons (off2 (put2 bL) hne');clear l0 l1 lf0 lf1 llt k0 k1 kf0 kf1 klt p0 p1 p2 p3 p4 p5 ltS yW ylt i0 i1 i2 hC hbw bL bK hB3;refine z0n (C:=Blk w [(L,cT #[A D x0,A D x1] 84 (0,0)),(K,cT #[A D y0,A D y1] 84 (0,0)),(B,cT (z04 p y) 196 (0,0)),(w.heap.size,cT #[A D c,A D d,A D s,.bool true,A D o,A D n] 135 (0,0))]) (n0:=w.heap.size) 8 [] [] kR kR (fun d _ _ _ _ h=>by cases d<;>exact h) (Blk.stable _ _) (Blk.room0 _ _) hK1.drew trivial ?_;simp only[lQ,lX,lY,lZ,lJ,Nat.reduceAdd]
 repeat(first
  |(refine z0k kI ?_;simp only[pS])
  |(refine z09 kI (v:=?_) ?_ ?_;rotate_left;(intro w2 hC;obtain⟨l0,l1,lf0,lf1,llt⟩:=row2 (hC.2 _ mcS);obtain⟨k0,k1,kf0,kf1,klt⟩:=row2 (hC.2 _ (mcO _ mcS));have yW:z03 _ B _ _:=(hC.2 _ (mcO _ (mcO _ mcS)));have ylt:=yW.lt;obtain⟨i0,i1,i2⟩:=yW.reg hd;obtain⟨p0,p1,p2,p3,p4,p5,ltS⟩:=row6 (hC.2 _ (mcO _ (mcO _ (mcO _ mcS))));go_simp;try with_reducible rfl);simp only[pS])
  |(refine z0t kI ?_;apply Exists.intro;refine⟨fun w2 hC=>?_,?_⟩;(obtain⟨l0,l1,lf0,lf1,llt⟩:=row2 (hC.2 _ mcS);obtain⟨k0,k1,kf0,kf1,klt⟩:=row2 (hC.2 _ (mcO _ mcS));have yW:z03 _ B _ _:=(hC.2 _ (mcO _ (mcO _ mcS)));have ylt:=yW.lt;obtain⟨i0,i1,i2⟩:=yW.reg hd;obtain⟨p0,p1,p2,p3,p4,p5,ltS⟩:=row6 (hC.2 _ (mcO _ (mcO _ (mcO _ mcS))));go_simp;apply z10;first|(go_at_call 180;exact(by have hq:=z1o x0 x1 w2;unfold Kno.v z1n at hq;exact hq)));simp only[pS]))
 refine z0r ?_;intro w5 hC hB5;obtain⟨l0,l1,lf0,lf1,llt⟩:=row2 (hC.2 _ mcS);obtain⟨k0,k1,kf0,kf1,klt⟩:=row2 (hC.2 _ (mcO _ mcS));have yW:z03 _ B _ _:=(hC.2 _ (mcO _ (mcO _ mcS)));have ylt:=yW.lt;obtain⟨i0,i1,i2⟩:=yW.reg hd;obtain⟨p0,p1,p2,p3,p4,p5,ltS⟩:=row6 (hC.2 _ (mcO _ (mcO _ (mcO _ mcS))));have if0:=yW.frozen (1+d*3);have if1:=yW.frozen (1+d*3+1);have if2:=yW.frozen (1+d*3+2);have HK:=z0d hC.1 B;go_wp2_with fail;have hK6:Blk (((w5.setCell ⟨B,1+d*3,none⟩ (A D 1)).setCell ⟨B,1+d*3+1,none⟩ (A D x0)).setCell ⟨B,1+d*3+2,none⟩ (A D x1)) [(K,cT #[A D y0,A D y1] 84 (0,0)),(B,cT (z04 p (y.putReg d ⟨1,x0,x1⟩)) 196 (0,0)),(w.heap.size,cT #[A D c,A D d,A D s,.bool true,A D o,A D n] 135 (0,0))] (((w5.setCell ⟨B,1+d*3,none⟩ (A D 1)).setCell ⟨B,1+d*3+1,none⟩ (A D x0)).setCell ⟨B,1+d*3+2,none⟩ (A D x1)):=(((Blk.nil (bF _ _)).cons (off3 (hC.2 _ (mcO _ (mcO _ (mcO _ mcS)))) kO)).cons (yW.reg3 hd 1 x0 x1)).cons (off3 (hC.2 _ (mcO _ mcS)) kO);clear l0 l1 lf0 lf1 llt k0 k1 kf0 kf1 klt p0 p1 p2 p3 p4 p5 ltS yW ylt i0 i1 i2 if0 if1 if2 hB5 hC hK1;refine z0n (C:=Blk (((w5.setCell ⟨B,1+d*3,none⟩ (A D 1)).setCell ⟨B,1+d*3+1,none⟩ (A D x0)).setCell ⟨B,1+d*3+2,none⟩ (A D x1)) [(K,cT #[A D y0,A D y1] 84 (0,0)),(B,cT (z04 p (y.putReg d ⟨1,x0,x1⟩)) 196 (0,0)),(w.heap.size,cT #[A D c,A D d,A D s,.bool true,A D o,A D n] 135 (0,0))]) (n0:=(((w5.setCell ⟨B,1+d*3,none⟩ (A D 1)).setCell ⟨B,1+d*3+1,none⟩ (A D x0)).setCell ⟨B,1+d*3+2,none⟩ (A D x1)).heap.size) 8 [] [] kR kR (fun d _ _ _ _ h=>by cases d<;>exact h) (Blk.stable _ _) (Blk.room0 _ _) hK6.drew trivial ?_;simp only[lQ,lX,lY,lZ,lJ,Nat.reduceAdd]
 repeat(first
  |(refine z0k kI ?_;simp only[pS])
  |(refine z09 kI (v:=?_) ?_ ?_;rotate_left;(intro w2 hC;obtain⟨k0,k1,kf0,kf1,klt⟩:=row2 (hC.2 _ mcS);have yW:z03 _ B _ _:=(hC.2 _ (mcO _ mcS));have ylt:=yW.lt;obtain⟨i0,i1,i2⟩:=yW.reg hs;obtain⟨p0,p1,p2,p3,p4,p5,ltS⟩:=row6 (hC.2 _ (mcO _ (mcO _ mcS)));go_simp;try with_reducible rfl);simp only[pS])
  |(refine z0t kI ?_;apply Exists.intro;refine⟨fun w2 hC=>?_,?_⟩;(obtain⟨k0,k1,kf0,kf1,klt⟩:=row2 (hC.2 _ mcS);have yW:z03 _ B _ _:=(hC.2 _ (mcO _ mcS));have ylt:=yW.lt;obtain⟨i0,i1,i2⟩:=yW.reg hs;obtain⟨p0,p1,p2,p3,p4,p5,ltS⟩:=row6 (hC.2 _ (mcO _ (mcO _ mcS)));go_simp;apply z10;first|(go_at_call 180;exact(by have hq:=z1o y0 y1 w2;unfold Kno.v z1n at hq;exact hq)));simp only[pS]))
 refine z0r ?_;intro w7 hC hB7;obtain⟨k0,k1,kf0,kf1,klt⟩:=row2 (hC.2 _ mcS);have yW:z03 _ B _ _:=(hC.2 _ (mcO _ mcS));have ylt:=yW.lt;obtain⟨i0,i1,i2⟩:=yW.reg hs;obtain⟨p0,p1,p2,p3,p4,p5,ltS⟩:=row6 (hC.2 _ (mcO _ (mcO _ mcS)));have if0:=yW.frozen (1+s*3);have if1:=yW.frozen (1+s*3+1);have if2:=yW.frozen (1+s*3+2);have HK6:=z1h (z13 (z13 (z13 HK (1+d*3) (A D 1)) (1+d*3+1) (A D x0)) (1+d*3+2) (A D x1)) hC.1;go_wp2_with fail;go_ret;exact⟨rfl,kK,yW.reg3 hs 1 y0 y1⟩
theorem zCs{B d s:Nat}{c o n p code:Int}{r:Bool}{y:Way}(hd:d<11)(hs:s<11)(hy:y.Ok)(hn:In64 n){w:World}(hW:z03 w B p y):
  Calls tP 206 #[pT (some ⟨B,0,none⟩),.agg #[A D c,A D d,A D s,.bool r,A D o,A D n],A D code] w fun e w'=>e= rT (.bool (y.narrow code d s r n).1)/\Kept B w w'/\z03 w' B p (y.narrow code d s r n).2:=by
 have o1:=hy.reg d hd;have o2:=z7r (r:=r) (n:=n) hy hs hn;have mv: ∀{E:Bool}{e:Ending}{w':World},(e= rT (.bool E)/\Below w.heap.size w w')->e= rT (.bool E)/\Kept B w w'/\z03 w' B p y:=fun h=>⟨h.1,z0d h.2 B,hW.later h.2⟩;unfold Way.narrow;rcases hv:y.second s r n with⟨bk,bl,bh⟩
 rw[hv]at o2;have HN:=fun W:World=>zWw code (y.reg d).l (y.reg d).h bl bh o1.2.2.1.1 o1.2.2.1.2 o1.2.2.2.1.1 o1.2.2.2.1.2 o2.2.2.1.1 o2.2.2.1.2 o2.2.2.2.1.1 o2.2.2.2.1.2 o1.2.2.2.2 o2.2.2.2.2 W;dsimp only;generalize narV code (y.reg d).l (y.reg d).h bl bh=z at*;obtain⟨⟨x0,x1⟩,⟨y0,y1⟩,ok⟩:=z
 cases ok
 ·rw[if_pos rfl]
  exact(zRk B d s c o n p code r y hd hs bk bl bh hv x0 x1 y0 y1 HN w hW).mono fun _ _ h=>mv h
 rw[if_neg kS]
 cases r
 ·rw[if_neg (by intro e;exact absurd e.1 kS),if_neg kS]
  exact zMz B d s c o n p code y hd hs bk bl bh hv x0 x1 y0 y1 HN w hW
 by_cases e:s=d
 ·subst e
  rw[if_pos ⟨rfl,rfl⟩];exact(zJn B s c o n p code y hd bk bl bh hv x0 x1 y0 y1 HN w hW).mono fun _ _ h=>mv h
 rw[if_neg (fun h=>e h.2),if_pos rfl];exact zMy B d s c o n p code y hd hs bk bl bh hv x0 x1 y0 y1 HN kO e w hW
end
def wayV(x:Int×Way):Value:= .agg (z04 x.1 x.2)
def z0q(l:List (Int×Way)):List Value:=l.flatMap fun x=>(z04 x.1 x.2).toList
theorem z2k(l:List (Int×Way)):(z0q l).length=l.length*82:=by
 induction l with
 |nil=>rfl
 |cons x l ih=>
  unfold z0q at ih⊢;rw[List.flatMap_cons,List.length_append,ih,Array.length_toList,z0i,lV];omega
theorem z67(l:List (Int×Way))(x:Int×Way):z0q (l++[x])=z0q l++(z04 x.1 x.2).toList:=by
 unfold z0q;rw[List.flatMap_append];simp
def z0g(w:World)(base:Nat)(v:Value)(l:List (Int×Way)):Prop:=w.ownsRow base 196 82 v l.length (z0q l)
theorem Tryz.infoWz:(Tryz.prog.info? 196).map (fun i=>(i.zero,i.size,i.bytes))=some (some (.agg Tryz.zeroCells196),82,656):=kR
theorem zYc(l:List (Int×Way))(Z:Array Value)(hZ:Z.size=l.length*82):Instr.fill (fun i=>some (i*82,82)) Z (((l.map wayV).zipIdx 0).map fun x=>(x.2,x.1))=some (z0q l).toArray:=by
 have h:=Great.fill_whole (s:=82) kD (l.map wayV) Z (by
  intro v hv;obtain⟨x, -,rfl⟩:=List.mem_map.1 hv;exact z0i x.1 x.2) (by rw[List.length_map];exact hZ.symm)
 rw[h];congr 2;unfold z0q;rw[List.flatMap_map];rfl
theorem zYd(z:Value)(n:Nat):((Array.range n).map (z.cells[· %z.cells.size]!)).size=n:=by simp
theorem zCq{ops:Array Oper}{rest:List Oper}{o:Oper}{a:Act}{w:World}{Q:Exit->Act->World->Prop}(hg:o.guard=none)(l:List (Int×Way))(n:Nat)(hn:n=l.length)(h1:1<=n)(h2:n<=1000)(parts:Array (Nat×Operand))(ho:o.op= .buildSlice 198 n parts)
  (hp:(parts.map fun(i,x)=>(i,a.eval x)).toList=((l.map wayV).zipIdx 0).map fun x=>(x.2,x.1))
  (h:wpList tP ops Q rest (a.put o.dst (.slice (some ⟨w.heap.size,0,none⟩) n n)) (w.alloc (cT (z0q l).toArray 196))):wpList tP ops Q (o::rest) a w:=by
 obtain⟨i0,hi,hz0,hz1,hz2⟩:=info_parts Tryz.infoWz;refine wpList_buildSlice hg 198 196 n parts ho _ i0 _ Tryz.underlying198 hi hz0 (by rw[hz1];omega) (by rw[hz1];omega) ?_ h;rw[hp,hz1];exact zYc l _ (by rw[zYd,hn])
theorem z1k{ops:Array Oper}{rest:List Oper}{o:Oper}{a:Act}{w:World}{Q:Exit->Act->World->Prop}(hg:o.guard=none)(x:Operand)(p:Int)(y:Way)(ho:o.op= .buildSlice 198 1 #[(0,x)])(hx:a.eval x= .agg (z04 p y))
  (h:wpList tP ops Q rest (a.put o.dst (.slice (some ⟨w.heap.size,0,none⟩) 1 1)) (w.alloc (cT (z0q [(p,y)]).toArray 196))):wpList tP ops Q (o::rest) a w:=
 zCq hg [(p,y)] 1 rfl kD kD _ ho (by simp[hx,wayV]) h
theorem zBj{ops:Array Oper}{rest:List Oper}{o:Oper}{a:Act}{w:World}{Q:Exit->Act->World->Prop}(hg:o.guard=none)(x x':Operand)(p p':Int)(y y':Way)(ho:o.op= .buildSlice 198 2 #[(0,x),(1,x')])(hx:a.eval x= .agg (z04 p y))(hx':a.eval x'= .agg (z04 p' y'))
  (h:wpList tP ops Q rest (a.put o.dst (.slice (some ⟨w.heap.size,0,none⟩) 2 2)) (w.alloc (cT (z0q [(p,y),(p',y')]).toArray 196))):wpList tP ops Q (o::rest) a w:=
 zCq hg [(p,y),(p',y')] 2 rfl kD kD _ ho (by simp[hx,hx',wayV]) h
theorem z0g.made(w:World)(base:Nat)(l:List (Int×Way))(hb:base<=w.heap.size)(h:l.length<=maxLen):z0g (w.alloc (cT (z0q l).toArray 196)) base (.slice (some ⟨w.heap.size,0,none⟩) l.length l.length) l:=by
 have:=World.ownsRow_lit (base:=base) (e:=196) (size:=82) w (z0q l).toArray l.length hb h (by simp[z2k]);simpa[z0g]using this
theorem z0g.nil(w:World)(base:Nat):z0g w base (.slice none 0 0) []:=World.ownsRow_nil _ _ _ _
theorem z0g.mono{w:World}{base base':Nat}{v:Value}{l:List (Int×Way)}(h:z0g w base v l)(hb:base'<=base):z0g w base' v l:=by
 obtain⟨h1,h2⟩:=h;refine⟨h1,?_⟩;rcases h2 with h2|⟨g,cap,cur,e1,e2,r⟩
 ·exact Or.inl h2
 exact Or.inr ⟨g,cap,cur,e1,by omega,r⟩
theorem z0g.later{w w1:World}{base:Nat}{v:Value}{l:List (Int×Way)}(h:z0g w base v l)(hb:Below w.heap.size w w1):z0g w1 base v l:=
 World.ownsRow.kept (w':=w1) (row:=none) h ⟨hb.os,hb.tape,hb.output,hb.size,fun k hk _=>hb.block k hk⟩ (by cases v.ownBlock<;>simp)
theorem q1u{o:Oper}{u:Act}{x:Operand}{W:World}{B:Nat}{p:Int}{y:Way}(hW:z03 W B p y)(ho:o.op= .load 196 x)(hx:u.eval x= pT (some ⟨B,0,none⟩)):(execOp u.eval o).run tP W= .ok (.value (.agg (z04 p y))) W:=by
 have hl:=run_loadVar_row (P:=tP) W B 196 196 (z04 p y) (0,0) _ hW Tryz.underlying196 rfl (z0o p y);unfold execOp;simp only[ho,hx,Instr.loadAt,Instr.sureAddr,Sem.run_bind,Sem.run_pure,Result.andThen_ok,hl]
end Go.Proofs.YtkdflpplamebkaaGreatDoor
