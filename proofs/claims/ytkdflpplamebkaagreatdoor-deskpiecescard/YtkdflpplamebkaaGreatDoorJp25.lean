/-
A part of the proof of DeskPieces; its card says what is proved.
-/
import Derived.Test.YtkdflpplamebkaaGreatDoorJp24
set_option maxHeartbeats 40000000
open Go.Value renaming int → A
open Go.IntKind renaming i64 → D
open Go.RowKit.Below renaming alloc → bA, setCell → bS, drew → bD, refl → bF
set_option maxRecDepth 1000000
set_option linter.defProp false
set_option linter.unusedVariables false
set_option linter.unusedSimpArgs false
open Go.Ending renaming returned → rT
open Go.Value renaming pointer → pT
open Go.Obj renaming cells → cT
open Go.Proofs.Tryz renaming prog → tP
open List renaming take_succ_cons → lQ, take_zero → lX, drop_succ_cons → lY, drop_zero → lZ, length_nil → lJ
namespace Go.Proofs.YtkdflpplamebkaaGreatDoor
open Go.ChangeShapes Go.WideShapes Go.ChangeAt Go.RowKit
attribute [local simp] z05 z0a z06
theorem zB3(p:Int)(y:Way)(h0:0<=p)(h1:p<=1000)(w:World):zR 141 #[.agg (z04 p y),A D 0] w (.agg (z04 (p+1) y)):=zKm p 0 y h0 h1 kD kD w
theorem q0m(d s:Nat)(c o n p:Int)(r:Bool)(y:Way)(hd:d<11)(hp0:0<=p)(hp1:p<=1000)(ho0:0<=o)(ho1:o<=1000)(m1 m2:Bool)(x16:(c==16)=m1)(x5:((y.reg d).k !=5)=m2)(w:World):
  Calls tP 178 #[.agg (z04 p y),.agg #[A D c,A D d,A D s,.bool r,A D o,A D n]] w fun e w'=> ∃v,e= rT v/\z0g w' w.heap.size v (if m2=true then [((if m1=true then(p+(1+o))else(p+1)),y)]else [((if m1=true then(p+1)else(p+(1+o))),y.putReg d ⟨1,0,0⟩),((if m1=true then(p+(1+o))else(p+1)),y.putReg d ⟨4,0,0⟩)])/\Below w.heap.size w w':=by
 have hK0:Blk w [(w.heap.size,cT (z04 p y) 196 (0,0)),(w.heap.size+1,cT #[A D c,A D d,A D s,.bool r,A D o,A D n] 135 (0,0))] _:=((Blk.nil (((bF _ _).alloc (Nat.le_refl _) _).alloc kS _)).cons (heap_alloc2_new w (cT (z04 p y) 196) (cT #[A D c,A D d,A D s,.bool r,A D o,A D n] 135))).cons ((z03.start w p y).alloc (cT #[A D c,A D d,A D s,.bool r,A D o,A D n] 135));have hd0:(0:Int)<=(d:Int):=kO;have hd1:(d:Int)<11:=kO;go_enter Tryz.func178,Tryz.ntmps178;go_wp2_with fail;refine z0n (C:=Blk w [(w.heap.size,cT (z04 p y) 196 (0,0)),(w.heap.size+1,cT #[A D c,A D d,A D s,.bool r,A D o,A D n] 135 (0,0))]) (n0:=w.heap.size+1+1) 6 [] [cT Tryz.zeroCells196 196 (0,0),cT Tryz.zeroCells196 196 (0,0)] kR kR (fun d _ _ _ _ h=>by cases d<;>exact h) (Blk.stable _ _) (Blk.room w (mcO _ mcS)) hK0.drew ⟨⟨rfl,fun a w2 hC=>by go_simp;try rfl⟩,⟨rfl,fun a w2 hC=>by go_simp;try rfl⟩,trivial⟩ ?_;simp only[lQ,lX,lY,lZ,List.length_cons,lJ,Nat.reduceAdd]
 repeat(first
  |(refine z0k kI ?_;simp only[pS])
  |(refine z09 kI (v:= .agg (z04 p y)) (fun w2 hC=>q1u (hC.2 _ mcS) rfl rfl) ?_;simp only[pS])
  |(refine z09 kI (v:=?_) ?_ ?_;rotate_left;(intro w2 hC;have yW:z03 _ w.heap.size _ _:=(hC.2 _ mcS);have ylt:=yW.lt;obtain⟨i0,i1,i2⟩:=yW.reg hd;obtain⟨p0,p1,p2,p3,p4,p5,ltS⟩:=row6 (hC.2 _ (mcO _ mcS));go_simp;try with_reducible rfl);simp only[pS])
  |(refine z0t kI ?_;apply Exists.intro;refine⟨fun w2 hC=>?_,?_⟩;(have yW:z03 _ w.heap.size _ _:=(hC.2 _ mcS);have ylt:=yW.lt;obtain⟨i0,i1,i2⟩:=yW.reg hd;obtain⟨p0,p1,p2,p3,p4,p5,ltS⟩:=row6 (hC.2 _ (mcO _ mcS));go_simp;apply z10;first|(go_at_call 141;exact(by first|with_reducible exact zB3 p y hp0 hp1 w2|with_reducible exact zKm p o y hp0 hp1 ho0 ho1 w2)));simp only[pS]))
 refine z0r ?_;intro L h5 g5 K h6 g6 w3 hC hB3;have hne:K≠L:=(FB.upd_none h6).1;have hne':L≠K:=fun e=>hne e.symm;have bK:=hB3 K _ (FB.at_new _ _ _);have bL:=hB3 L _ (FB.at_old hne' (FB.at_new _ _ _));have yW:z03 _ w.heap.size _ _:=(hC.2 _ mcS);have ylt:=yW.lt;obtain⟨i0,i1,i2⟩:=yW.reg hd;obtain⟨p0,p1,p2,p3,p4,p5,ltS⟩:=row6 (hC.2 _ (mcO _ mcS));have hbw:=hC.1;have n1:w.heap.size+1≠L:=kO;have n2:w.heap.size≠L:=kO;have n3:w.heap.size+1≠K:=kO;have n4:w.heap.size≠K:=kO;simp only[zAx,Act.put,siA,scZ,scS];have hK1:Blk w [(L,cT (z04 (p+(1+o)) y) 196 (0,0)),(K,cT (z04 (p+1) y) 196 (0,0)),(w.heap.size,cT (z04 p y) 196 (0,0)),(w.heap.size+1,cT #[A D c,A D d,A D s,.bool r,A D o,A D n] 135 (0,0))] ((w3.setRow L (z04 (p+(1+o)) y)).setRow K (z04 (p+1) y)):=((((Blk.nil kW).cons ((setRow_other _ K _ _ n3).trans ((setRow_other _ L _ _ n1).trans (hC.2 _ (mcO _ mcS))))).cons ((setRow_other _ K _ _ n4).trans ((setRow_other _ L _ _ n2).trans (hC.2 _ mcS)))).cons (setRow_heap _ K _ (z04 (p+1) y) 196 _ ((setRow_other _ L _ _ hne).trans bK))).cons ((setRow_other _ K _ _ hne').trans (setRow_heap _ L _ (z04 (p+(1+o)) y) 196 _ bL));clear yW ylt i0 i1 i2 p0 p1 p2 p3 p4 p5 ltS hK0;have yW:z03 _ w.heap.size _ _:=(hK1.2 _ (mcO _ (mcO _ mcS)));have ylt:=yW.lt;obtain⟨i0,i1,i2⟩:=yW.reg hd;obtain⟨p0,p1,p2,p3,p4,p5,ltS⟩:=row6 (hK1.2 _ (mcO _ (mcO _ (mcO _ mcS))))
 (refine wpList_store_row rfl 196 (.tmp 5) (.tmp 10) rfl L (z04 (p+(1+o)) y) rfl rfl 196 _ bL (z0o _ _) (by first|rw[z26,z0i]|rw[z0i,z0i]) (z2l _ _) ?_)
 (refine wpList_store_row rfl 196 (.tmp 6) (.tmp 12) rfl K (z04 (p+1) y) rfl rfl 196 _ ((setRow_other _ L _ _ hne).trans bK) (z0o _ _) (by first|rw[z26,z0i]|rw[z0i,z0i]) (z2l _ _) ?_)
 cases m1
 ·cases m2
  ·go_upto_region 6 with fail
   clear yW ylt i0 i1 i2 p0 p1 p2 p3 p4 p5 ltS;refine z0n (C:=Blk w [(L,cT (z04 (p+(1+o)) y) 196 (0,0)),(K,cT (z04 (p+1) y) 196 (0,0)),(w.heap.size,cT (z04 p y) 196 (0,0)),(w.heap.size+1,cT #[A D c,A D d,A D s,.bool r,A D o,A D n] 135 (0,0))]) (n0:=w.heap.size) 6 [] [] kR kR (fun d _ _ _ _ h=>by cases d<;>exact h) (Blk.stable _ _) (Blk.room0 _ _) hK1.drew trivial ?_;simp only[lQ,lX,lY,lZ,lJ,Nat.reduceAdd]
   repeat(first
    |(refine z0k kI ?_;simp only[pS])
    |(refine z09 kI (v:=?_) ?_ ?_;rotate_left;(intro w2 hC;have aW:z03 _ L _ _:=(hC.2 _ mcS);have alt:=aW.lt;have bW:z03 _ K _ _:=(hC.2 _ (mcO _ mcS));have blt:=bW.lt;have yW:z03 _ w.heap.size _ _:=(hC.2 _ (mcO _ (mcO _ mcS)));have ylt:=yW.lt;obtain⟨p0,p1,p2,p3,p4,p5,ltS⟩:=row6 (hC.2 _ (mcO _ (mcO _ (mcO _ mcS))));go_simp;try with_reducible rfl);simp only[pS])
    |(refine z0t kI ?_;apply Exists.intro;refine⟨fun w2 hC=>?_,?_⟩;(have aW:z03 _ L _ _:=(hC.2 _ mcS);have alt:=aW.lt;have bW:z03 _ K _ _:=(hC.2 _ (mcO _ mcS));have blt:=bW.lt;have yW:z03 _ w.heap.size _ _:=(hC.2 _ (mcO _ (mcO _ mcS)));have ylt:=yW.lt;obtain⟨p0,p1,p2,p3,p4,p5,ltS⟩:=row6 (hC.2 _ (mcO _ (mcO _ (mcO _ mcS))));go_simp;apply z10;first|(go_at_call 86;exact z3c 0 w2)|(go_at_call 180;exact(by have hq:=z1o 0 0 w2;unfold Kno.v z1n at hq;exact hq)));simp only[pS]))
   refine z0r ?_;intro w5 hC hB5;have aW:z03 _ L _ _:=(hC.2 _ mcS);have alt:=aW.lt;have bW:z03 _ K _ _:=(hC.2 _ (mcO _ mcS));have blt:=bW.lt;have yW:z03 _ w.heap.size _ _:=(hC.2 _ (mcO _ (mcO _ mcS)));have ylt:=yW.lt;obtain⟨p0,p1,p2,p3,p4,p5,ltS⟩:=row6 (hC.2 _ (mcO _ (mcO _ (mcO _ mcS))));obtain⟨i0,i1,i2⟩:=aW.reg hd;have if0:=aW.frozen (1+d*3);have if1:=aW.frozen (1+d*3+1);have if2:=aW.frozen (1+d*3+2);go_upto_region 7 with fail
   have hbw5:=hC.1;have hK7:Blk w [(L,cT (z04 (p+(1+o)) (y.putReg d ⟨1,0,0⟩)) 196 (0,0)),(K,cT (z04 (p+1) y) 196 (0,0)),(w.heap.size,cT (z04 p y) 196 (0,0)),(w.heap.size+1,cT #[A D c,A D d,A D s,.bool r,A D o,A D n] 135 (0,0))] (((w5.setCell ⟨L,1+d*3,none⟩ (A D 1)).setCell ⟨L,1+d*3+1,none⟩ (A D 0)).setCell ⟨L,1+d*3+2,none⟩ (A D 0)):=((((Blk.nil kW).cons (off3 (hC.2 _ (mcO _ (mcO _ (mcO _ mcS)))) kO)).cons (off3 (hC.2 _ (mcO _ (mcO _ mcS))) kO)).cons (off3 (hC.2 _ (mcO _ mcS)) hne)).cons (aW.reg3 hd 1 0 0);clear aW alt bW blt yW ylt i0 i1 i2 if0 if1 if2 p0 p1 p2 p3 p4 p5 ltS hC hB5;refine z0n (C:=Blk w [(L,cT (z04 (p+(1+o)) (y.putReg d ⟨1,0,0⟩)) 196 (0,0)),(K,cT (z04 (p+1) y) 196 (0,0)),(w.heap.size,cT (z04 p y) 196 (0,0)),(w.heap.size+1,cT #[A D c,A D d,A D s,.bool r,A D o,A D n] 135 (0,0))]) (n0:=w.heap.size) 6 [] [] kR kR (fun d _ _ _ _ h=>by cases d<;>exact h) (Blk.stable _ _) (Blk.room0 _ _) hK7.drew trivial ?_;simp only[lQ,lX,lY,lZ,lJ,Nat.reduceAdd]
   repeat(first
    |(refine z0k kI ?_;simp only[pS])
    |(refine z09 kI (v:=?_) ?_ ?_;rotate_left;(intro w2 hC;have aW:z03 _ L _ _:=(hC.2 _ mcS);have alt:=aW.lt;have bW:z03 _ K _ _:=(hC.2 _ (mcO _ mcS));have blt:=bW.lt;have yW:z03 _ w.heap.size _ _:=(hC.2 _ (mcO _ (mcO _ mcS)));have ylt:=yW.lt;obtain⟨p0,p1,p2,p3,p4,p5,ltS⟩:=row6 (hC.2 _ (mcO _ (mcO _ (mcO _ mcS))));go_simp;try with_reducible rfl);simp only[pS])
    |(refine z0t kI ?_;apply Exists.intro;refine⟨fun w2 hC=>?_,?_⟩;(have aW:z03 _ L _ _:=(hC.2 _ mcS);have alt:=aW.lt;have bW:z03 _ K _ _:=(hC.2 _ (mcO _ mcS));have blt:=bW.lt;have yW:z03 _ w.heap.size _ _:=(hC.2 _ (mcO _ (mcO _ mcS)));have ylt:=yW.lt;obtain⟨p0,p1,p2,p3,p4,p5,ltS⟩:=row6 (hC.2 _ (mcO _ (mcO _ (mcO _ mcS))));go_simp;apply z10;first|(go_at_call 86;exact z3c 0 w2));simp only[pS]))
   refine z0r ?_;intro w6 hC hB6;have aW:z03 _ L _ _:=(hC.2 _ mcS);have alt:=aW.lt;have bW:z03 _ K _ _:=(hC.2 _ (mcO _ mcS));have blt:=bW.lt;have yW:z03 _ w.heap.size _ _:=(hC.2 _ (mcO _ (mcO _ mcS)));have ylt:=yW.lt;obtain⟨p0,p1,p2,p3,p4,p5,ltS⟩:=row6 (hC.2 _ (mcO _ (mcO _ (mcO _ mcS))));obtain⟨i0,i1,i2⟩:=bW.reg hd;have if0:=bW.frozen (1+d*3);have if1:=bW.frozen (1+d*3+1);have if2:=bW.frozen (1+d*3+2);go_upto_region 8 with fail
   have hbw6:=hC.1;have hK8:Blk w [(L,cT (z04 (p+(1+o)) (y.putReg d ⟨1,0,0⟩)) 196 (0,0)),(K,cT (z04 (p+1) (y.putReg d ⟨4,0,0⟩)) 196 (0,0))] (((w6.setCell ⟨K,1+d*3,none⟩ (A D 4)).setCell ⟨K,1+d*3+1,none⟩ (A D 0)).setCell ⟨K,1+d*3+2,none⟩ (A D 0)):=((Blk.nil kW).cons (bW.reg3 hd 4 0 0)).cons (off3 (hC.2 _ mcS) hne');clear aW alt bW blt yW ylt i0 i1 i2 if0 if1 if2 p0 p1 p2 p3 p4 p5 ltS hC hB6;go_step
   (refine wpList_load_row rfl 196 (.tmp 5) rfl L rfl 196 (z04 (p+(1+o)) (y.putReg d ⟨1,0,0⟩)) (0,0) _ (hK8.2 _ mcS) Tryz.underlying196 rfl (z0o _ _) ?_)
   (refine wpList_load_row rfl 196 (.tmp 6) rfl K rfl 196 (z04 (p+1) (y.putReg d ⟨4,0,0⟩)) (0,0) _ (hK8.2 _ (mcO _ mcS)) Tryz.underlying196 rfl (z0o _ _) ?_)
   refine zBj rfl (.tmp 39) (.tmp 40) (p+(1+o)) (p+1) (y.putReg d ⟨1,0,0⟩) (y.putReg d ⟨4,0,0⟩) rfl rfl rfl ?_;simp only[pS];go_wp2_with fail;go_ret;have hbwE:=hK8.1;have hsE:=hbwE.size;have hm:=z0g.made (((w6.setCell ⟨K,1+d*3,none⟩ (A D 4)).setCell ⟨K,1+d*3+1,none⟩ (A D 0)).setCell ⟨K,1+d*3+2,none⟩ (A D 0)) w.heap.size [((p+(1+o)),y.putReg d ⟨1,0,0⟩),((p+1),y.putReg d ⟨4,0,0⟩)] hbwE.size (by unfold maxLen;simp);simp only[z06]at hm hsE;exact⟨_,rfl,by simpa using hm,kW⟩
  ·go_upto_region 5 with fail
   have hbK:((w3.setRow L (z04 (p+(1+o)) y)).setRow K (z04 (p+1) y)).heap[K]?=some (cT (z04 (p+1) y) 196):=hK1.2 _ (mcO _ mcS);clear yW ylt i0 i1 i2 p0 p1 p2 p3 p4 p5 ltS;generalize ((w3.setRow L (z04 (p+(1+o)) y)).setRow K (z04 (p+1) y))=w9 at hbK hK1⊢;go_step
   (refine wpList_load_row rfl 196 (.tmp 6) rfl K rfl 196 (z04 (p+1) y) (0,0) _ hbK Tryz.underlying196 rfl (z0o _ _) ?_)
   refine z1k rfl (.tmp 25) (p+1) y rfl rfl ?_;simp only[pS];go_wp2_with fail;go_ret;have hbwE:=hK1.1;have hsE:=hbwE.size;have hm:=z0g.made w9 w.heap.size [((p+1),y)] hbwE.size (by unfold maxLen;simp);exact⟨_,rfl,by simpa using hm,kW⟩
 cases m2
 ·go_upto_region 3 with fail
  go_step
  (refine wpList_load_row rfl 196 (.tmp 6) rfl K rfl 196 (z04 (p+1) y) (0,0) _ (hK1.2 _ (mcO _ mcS)) Tryz.underlying196 rfl (z0o _ _) ?_)
  (refine wpList_load_row rfl 196 (.tmp 5) rfl L rfl 196 (z04 (p+(1+o)) y) (0,0) _ (hK1.2 _ mcS) Tryz.underlying196 rfl (z0o _ _) ?_)
  (refine wpList_store_row rfl 196 (.tmp 5) (.tmp 16) rfl L (z04 (p+1) y) rfl rfl 196 _ (hK1.2 _ mcS) (z0o _ _) (by first|rw[z26,z0i]|rw[z0i,z0i]) (z2l _ _) ?_)
  (refine wpList_store_row rfl 196 (.tmp 6) (.tmp 17) rfl K (z04 (p+(1+o)) y) rfl rfl 196 _ ((setRow_other _ L _ _ hne).trans (hK1.2 _ (mcO _ mcS))) (z0o _ _) (by first|rw[z26,z0i]|rw[z0i,z0i]) (z2l _ _) ?_)
  simp only[pS];have hbw1:=hK1.1;have hK2:Blk w [(L,cT (z04 (p+1) y) 196 (0,0)),(K,cT (z04 (p+(1+o)) y) 196 (0,0)),(w.heap.size,cT (z04 p y) 196 (0,0)),(w.heap.size+1,cT #[A D c,A D d,A D s,.bool r,A D o,A D n] 135 (0,0))] ((((w3.setRow L (z04 (p+(1+o)) y)).setRow K (z04 (p+1) y)).setRow L (z04 (p+1) y)).setRow K (z04 (p+(1+o)) y)):=((((Blk.nil kW).cons ((setRow_other _ K _ _ n3).trans ((setRow_other _ L _ _ n1).trans (hK1.2 _ (mcO _ (mcO _ (mcO _ mcS))))))).cons ((setRow_other _ K _ _ n4).trans ((setRow_other _ L _ _ n2).trans (hK1.2 _ (mcO _ (mcO _ mcS)))))).cons (setRow_heap _ K _ (z04 (p+(1+o)) y) 196 _ ((setRow_other _ L _ _ hne).trans (hK1.2 _ (mcO _ mcS))))).cons ((setRow_other _ K _ _ hne').trans (setRow_heap _ L _ (z04 (p+1) y) 196 _ (hK1.2 _ mcS)));clear yW ylt i0 i1 i2 p0 p1 p2 p3 p4 p5 ltS;have yW:z03 _ w.heap.size _ _:=(hK2.2 _ (mcO _ (mcO _ mcS)));have ylt:=yW.lt;obtain⟨i0,i1,i2⟩:=yW.reg hd;obtain⟨p0,p1,p2,p3,p4,p5,ltS⟩:=row6 (hK2.2 _ (mcO _ (mcO _ (mcO _ mcS))));go_upto_region 6 with fail
  clear yW ylt i0 i1 i2 p0 p1 p2 p3 p4 p5 ltS;refine z0n (C:=Blk w [(L,cT (z04 (p+1) y) 196 (0,0)),(K,cT (z04 (p+(1+o)) y) 196 (0,0)),(w.heap.size,cT (z04 p y) 196 (0,0)),(w.heap.size+1,cT #[A D c,A D d,A D s,.bool r,A D o,A D n] 135 (0,0))]) (n0:=w.heap.size) 6 [] [] kR kR (fun d _ _ _ _ h=>by cases d<;>exact h) (Blk.stable _ _) (Blk.room0 _ _) hK2.drew trivial ?_;simp only[lQ,lX,lY,lZ,lJ,Nat.reduceAdd]
  repeat(first
   |(refine z0k kI ?_;simp only[pS])
   |(refine z09 kI (v:=?_) ?_ ?_;rotate_left;(intro w2 hC;have aW:z03 _ L _ _:=(hC.2 _ mcS);have alt:=aW.lt;have bW:z03 _ K _ _:=(hC.2 _ (mcO _ mcS));have blt:=bW.lt;have yW:z03 _ w.heap.size _ _:=(hC.2 _ (mcO _ (mcO _ mcS)));have ylt:=yW.lt;obtain⟨p0,p1,p2,p3,p4,p5,ltS⟩:=row6 (hC.2 _ (mcO _ (mcO _ (mcO _ mcS))));go_simp;try with_reducible rfl);simp only[pS])
   |(refine z0t kI ?_;apply Exists.intro;refine⟨fun w2 hC=>?_,?_⟩;(have aW:z03 _ L _ _:=(hC.2 _ mcS);have alt:=aW.lt;have bW:z03 _ K _ _:=(hC.2 _ (mcO _ mcS));have blt:=bW.lt;have yW:z03 _ w.heap.size _ _:=(hC.2 _ (mcO _ (mcO _ mcS)));have ylt:=yW.lt;obtain⟨p0,p1,p2,p3,p4,p5,ltS⟩:=row6 (hC.2 _ (mcO _ (mcO _ (mcO _ mcS))));go_simp;apply z10;first|(go_at_call 86;exact z3c 0 w2)|(go_at_call 180;exact(by have hq:=z1o 0 0 w2;unfold Kno.v z1n at hq;exact hq)));simp only[pS]))
  refine z0r ?_;intro w5 hC hB5;have aW:z03 _ L _ _:=(hC.2 _ mcS);have alt:=aW.lt;have bW:z03 _ K _ _:=(hC.2 _ (mcO _ mcS));have blt:=bW.lt;have yW:z03 _ w.heap.size _ _:=(hC.2 _ (mcO _ (mcO _ mcS)));have ylt:=yW.lt;obtain⟨p0,p1,p2,p3,p4,p5,ltS⟩:=row6 (hC.2 _ (mcO _ (mcO _ (mcO _ mcS))));obtain⟨i0,i1,i2⟩:=aW.reg hd;have if0:=aW.frozen (1+d*3);have if1:=aW.frozen (1+d*3+1);have if2:=aW.frozen (1+d*3+2);go_upto_region 7 with fail
  have hbw5:=hC.1;have hK7:Blk w [(L,cT (z04 (p+1) (y.putReg d ⟨1,0,0⟩)) 196 (0,0)),(K,cT (z04 (p+(1+o)) y) 196 (0,0)),(w.heap.size,cT (z04 p y) 196 (0,0)),(w.heap.size+1,cT #[A D c,A D d,A D s,.bool r,A D o,A D n] 135 (0,0))] (((w5.setCell ⟨L,1+d*3,none⟩ (A D 1)).setCell ⟨L,1+d*3+1,none⟩ (A D 0)).setCell ⟨L,1+d*3+2,none⟩ (A D 0)):=((((Blk.nil kW).cons (off3 (hC.2 _ (mcO _ (mcO _ (mcO _ mcS)))) kO)).cons (off3 (hC.2 _ (mcO _ (mcO _ mcS))) kO)).cons (off3 (hC.2 _ (mcO _ mcS)) hne)).cons (aW.reg3 hd 1 0 0);clear aW alt bW blt yW ylt i0 i1 i2 if0 if1 if2 p0 p1 p2 p3 p4 p5 ltS hC hB5;refine z0n (C:=Blk w [(L,cT (z04 (p+1) (y.putReg d ⟨1,0,0⟩)) 196 (0,0)),(K,cT (z04 (p+(1+o)) y) 196 (0,0)),(w.heap.size,cT (z04 p y) 196 (0,0)),(w.heap.size+1,cT #[A D c,A D d,A D s,.bool r,A D o,A D n] 135 (0,0))]) (n0:=w.heap.size) 6 [] [] kR kR (fun d _ _ _ _ h=>by cases d<;>exact h) (Blk.stable _ _) (Blk.room0 _ _) hK7.drew trivial ?_;simp only[lQ,lX,lY,lZ,lJ,Nat.reduceAdd]
  repeat(first
   |(refine z0k kI ?_;simp only[pS])
   |(refine z09 kI (v:=?_) ?_ ?_;rotate_left;(intro w2 hC;have aW:z03 _ L _ _:=(hC.2 _ mcS);have alt:=aW.lt;have bW:z03 _ K _ _:=(hC.2 _ (mcO _ mcS));have blt:=bW.lt;have yW:z03 _ w.heap.size _ _:=(hC.2 _ (mcO _ (mcO _ mcS)));have ylt:=yW.lt;obtain⟨p0,p1,p2,p3,p4,p5,ltS⟩:=row6 (hC.2 _ (mcO _ (mcO _ (mcO _ mcS))));go_simp;try with_reducible rfl);simp only[pS])
   |(refine z0t kI ?_;apply Exists.intro;refine⟨fun w2 hC=>?_,?_⟩;(have aW:z03 _ L _ _:=(hC.2 _ mcS);have alt:=aW.lt;have bW:z03 _ K _ _:=(hC.2 _ (mcO _ mcS));have blt:=bW.lt;have yW:z03 _ w.heap.size _ _:=(hC.2 _ (mcO _ (mcO _ mcS)));have ylt:=yW.lt;obtain⟨p0,p1,p2,p3,p4,p5,ltS⟩:=row6 (hC.2 _ (mcO _ (mcO _ (mcO _ mcS))));go_simp;apply z10;first|(go_at_call 86;exact z3c 0 w2));simp only[pS]))
  refine z0r ?_;intro w6 hC hB6;have aW:z03 _ L _ _:=(hC.2 _ mcS);have alt:=aW.lt;have bW:z03 _ K _ _:=(hC.2 _ (mcO _ mcS));have blt:=bW.lt;have yW:z03 _ w.heap.size _ _:=(hC.2 _ (mcO _ (mcO _ mcS)));have ylt:=yW.lt;obtain⟨p0,p1,p2,p3,p4,p5,ltS⟩:=row6 (hC.2 _ (mcO _ (mcO _ (mcO _ mcS))));obtain⟨i0,i1,i2⟩:=bW.reg hd;have if0:=bW.frozen (1+d*3);have if1:=bW.frozen (1+d*3+1);have if2:=bW.frozen (1+d*3+2);go_upto_region 8 with fail
  have hbw6:=hC.1;have hK8:Blk w [(L,cT (z04 (p+1) (y.putReg d ⟨1,0,0⟩)) 196 (0,0)),(K,cT (z04 (p+(1+o)) (y.putReg d ⟨4,0,0⟩)) 196 (0,0))] (((w6.setCell ⟨K,1+d*3,none⟩ (A D 4)).setCell ⟨K,1+d*3+1,none⟩ (A D 0)).setCell ⟨K,1+d*3+2,none⟩ (A D 0)):=((Blk.nil kW).cons (bW.reg3 hd 4 0 0)).cons (off3 (hC.2 _ mcS) hne');clear aW alt bW blt yW ylt i0 i1 i2 if0 if1 if2 p0 p1 p2 p3 p4 p5 ltS hC hB6;go_step
  (refine wpList_load_row rfl 196 (.tmp 5) rfl L rfl 196 (z04 (p+1) (y.putReg d ⟨1,0,0⟩)) (0,0) _ (hK8.2 _ mcS) Tryz.underlying196 rfl (z0o _ _) ?_)
  (refine wpList_load_row rfl 196 (.tmp 6) rfl K rfl 196 (z04 (p+(1+o)) (y.putReg d ⟨4,0,0⟩)) (0,0) _ (hK8.2 _ (mcO _ mcS)) Tryz.underlying196 rfl (z0o _ _) ?_)
  refine zBj rfl (.tmp 39) (.tmp 40) (p+1) (p+(1+o)) (y.putReg d ⟨1,0,0⟩) (y.putReg d ⟨4,0,0⟩) rfl rfl rfl ?_;simp only[pS];go_wp2_with fail;go_ret;have hbwE:=hK8.1;have hsE:=hbwE.size;have hm:=z0g.made (((w6.setCell ⟨K,1+d*3,none⟩ (A D 4)).setCell ⟨K,1+d*3+1,none⟩ (A D 0)).setCell ⟨K,1+d*3+2,none⟩ (A D 0)) w.heap.size [((p+1),y.putReg d ⟨1,0,0⟩),((p+(1+o)),y.putReg d ⟨4,0,0⟩)] hbwE.size (by unfold maxLen;simp);simp only[z06]at hm hsE;exact⟨_,rfl,by simpa using hm,kW⟩
 go_upto_region 3 with fail
 go_step
 (refine wpList_load_row rfl 196 (.tmp 6) rfl K rfl 196 (z04 (p+1) y) (0,0) _ (hK1.2 _ (mcO _ mcS)) Tryz.underlying196 rfl (z0o _ _) ?_)
 (refine wpList_load_row rfl 196 (.tmp 5) rfl L rfl 196 (z04 (p+(1+o)) y) (0,0) _ (hK1.2 _ mcS) Tryz.underlying196 rfl (z0o _ _) ?_)
 (refine wpList_store_row rfl 196 (.tmp 5) (.tmp 16) rfl L (z04 (p+1) y) rfl rfl 196 _ (hK1.2 _ mcS) (z0o _ _) (by first|rw[z26,z0i]|rw[z0i,z0i]) (z2l _ _) ?_)
 (refine wpList_store_row rfl 196 (.tmp 6) (.tmp 17) rfl K (z04 (p+(1+o)) y) rfl rfl 196 _ ((setRow_other _ L _ _ hne).trans (hK1.2 _ (mcO _ mcS))) (z0o _ _) (by first|rw[z26,z0i]|rw[z0i,z0i]) (z2l _ _) ?_)
 simp only[pS];have hbw1:=hK1.1;have hK2:Blk w [(L,cT (z04 (p+1) y) 196 (0,0)),(K,cT (z04 (p+(1+o)) y) 196 (0,0)),(w.heap.size,cT (z04 p y) 196 (0,0)),(w.heap.size+1,cT #[A D c,A D d,A D s,.bool r,A D o,A D n] 135 (0,0))] ((((w3.setRow L (z04 (p+(1+o)) y)).setRow K (z04 (p+1) y)).setRow L (z04 (p+1) y)).setRow K (z04 (p+(1+o)) y)):=((((Blk.nil kW).cons ((setRow_other _ K _ _ n3).trans ((setRow_other _ L _ _ n1).trans (hK1.2 _ (mcO _ (mcO _ (mcO _ mcS))))))).cons ((setRow_other _ K _ _ n4).trans ((setRow_other _ L _ _ n2).trans (hK1.2 _ (mcO _ (mcO _ mcS)))))).cons (setRow_heap _ K _ (z04 (p+(1+o)) y) 196 _ ((setRow_other _ L _ _ hne).trans (hK1.2 _ (mcO _ mcS))))).cons ((setRow_other _ K _ _ hne').trans (setRow_heap _ L _ (z04 (p+1) y) 196 _ (hK1.2 _ mcS)));clear yW ylt i0 i1 i2 p0 p1 p2 p3 p4 p5 ltS;have yW:z03 _ w.heap.size _ _:=(hK2.2 _ (mcO _ (mcO _ mcS)));have ylt:=yW.lt;obtain⟨i0,i1,i2⟩:=yW.reg hd;obtain⟨p0,p1,p2,p3,p4,p5,ltS⟩:=row6 (hK2.2 _ (mcO _ (mcO _ (mcO _ mcS))));go_upto_region 5 with fail
 have hbK:((((w3.setRow L (z04 (p+(1+o)) y)).setRow K (z04 (p+1) y)).setRow L (z04 (p+1) y)).setRow K (z04 (p+(1+o)) y)).heap[K]?=some (cT (z04 (p+(1+o)) y) 196):=hK2.2 _ (mcO _ mcS);clear yW ylt i0 i1 i2 p0 p1 p2 p3 p4 p5 ltS;generalize ((((w3.setRow L (z04 (p+(1+o)) y)).setRow K (z04 (p+1) y)).setRow L (z04 (p+1) y)).setRow K (z04 (p+(1+o)) y))=w9 at hbK hK2⊢;go_step
 (refine wpList_load_row rfl 196 (.tmp 6) rfl K rfl 196 (z04 (p+(1+o)) y) (0,0) _ hbK Tryz.underlying196 rfl (z0o _ _) ?_)
 refine z1k rfl (.tmp 25) (p+(1+o)) y rfl rfl ?_;simp only[pS];go_wp2_with fail;go_ret;have hbwE:=hK2.1;have hsE:=hbwE.size;have hm:=z0g.made w9 w.heap.size [((p+(1+o)),y)] hbwE.size (by unfold maxLen;simp);exact⟨_,rfl,by simpa using hm,kW⟩
theorem z0c{P:Program}{ops:Array Oper}{rest:List Oper}{o:Oper}{a:Act}{w:World}{Q:Exit->Act->World->Prop}(hg:o.guard=none)
  (f:FuncId)(args:Array Value)(hrun:(execOp a.eval o).run P w= .ok (.enter f args) w)(v:Value){R:World->Prop}
  (hc:Calls P f args w fun e w'=>e= rT v/\R w')(h: ∀w',R w'->wpList P ops Q rest (a.put o.dst v) w'):wpList P ops Q (o::rest) a w:=by
 refine wpList_plain hg fun K hK=>?_;unfold Oper.wp;rw[hrun,Oper.upon_enter];refine hc.mono fun e w' hh=>?_;obtain⟨rfl,hr⟩:=hh;exact hK _ _ (h w' hr)
theorem z00{P:Program}{ops:Array Oper}{rest:List Oper}{o:Oper}{a:Act}{w:World}{Q:Exit->Act->World->Prop}(hg:o.guard=none)
  (v:Value)(w':World)(hrun:(execOp a.eval o).run P w= .ok (.value v) w')(h:wpList P ops Q rest (a.put o.dst v) w'):wpList P ops Q (o::rest) a w:=by
 refine wpList_plain hg fun K hK=>?_;unfold Oper.wp;rw[hrun,Oper.upon_value];exact hK _ _ h
theorem z90{ops:Array Oper}{rest:List Oper}{o:Oper}{a:Act}{w:World}{Q:Exit->Act->World->Prop}(hg:o.guard=none)(s x:Operand)(ho:o.op= .call {callee:= .builtin .append,args:=#[s,x],argTypes:=#[198,198]})
  (base:Nat)(v:Value)(l:List (Int×Way))(hs:a.eval s=v)(hw:z0g w base v l)(p:Int)(y:Way)(hx:a.eval x= .slice (some ⟨w.heap.size,0,none⟩) 1 1)(hl:l.length<=1000000)(hb:base<=w.heap.size)
  (h: ∀v' w',z0g w' base v' (l++[(p,y)])->w.grownBy w' v.ownBlock->wpList tP ops Q rest (a.put o.dst v') w'):wpList tP ops Q (o::rest) a (w.alloc (cT (z0q [(p,y)]).toArray 196)):=by
 obtain⟨i0,hi,hz0,hz1,hz2⟩:=info_parts Tryz.infoWz;have e1:z0q [(p,y)]=(z04 p y).toList:=by unfold z0q;simp
 refine wpList_append_own _ hg s x 198 ho base 196 i0 _ 82 656 Tryz.underlying198 hi hz0 hz1 hz2 z26 kD v l.length (z0q l) hs (hw.alloc _) ⟨w.heap.size,0,none⟩ 1 1 (z0q [(p,y)]) hx (by rw[z2k];rfl) ?_ ?_ (by unfold maxLen;omega) kO kZ ?_
 ·intro j u hu
  rw[e1]at hu⊢;have hadd:(⟨w.heap.size,0,none⟩:Addr).add j=⟨w.heap.size,j,none⟩:=by unfold Addr.add;split<;>simp_all
  rw[hadd,cell_of_row _ w.heap.size j _ 196 (0,0) (heap_alloc_new w _)];simpa using hu
 ·intro u hu
  rw[e1]at hu;exact(Array.all_eq_true_iff_forall_mem.1 (z2l p y)) u (Array.mem_toList_iff.1 hu)
 intro v' w' h1 h2 _;refine h v' w' ?_ ⟨h2.os,h2.tape,h2.output,Nat.le_trans kS h2.size,fun k hk hne=>(h2.block k kZ hne).trans (heap_alloc_old w _ hk)⟩;show w'.ownsRow base 196 82 v' (l++[(p,y)]).length (z0q (l++[(p,y)]));rw[z67,List.length_append, <-e1];exact h1
theorem Blk.wayRow{w0 w:World}{F:List (Nat×Obj)}(h:Blk w0 F w)(p:Int)(y:Way):Blk w0 ((w.heap.size,cT (z04 p y) 196 (0,0))::F) ((w.alloc (cT Tryz.zeroCells196 196 (0,0))).setRow w.heap.size (z04 p y)):=by
 have hs:=h.1.size;refine Blk.cons ⟨z23 (h.1.alloc hs _) hs _,fun x hx=>?_⟩ (z03.setRow (heap_alloc_new _ _) p y);have hl:=(Array.getElem?_eq_some_iff.1 (h.2 x hx)).1;exact(setRow_other _ _ _ _ (Nat.ne_of_lt hl)).trans ((heap_alloc_old _ _ hl).trans (h.2 x hx))
theorem z0g.off{w w':World}{base B:Nat}{v:Value}{l:List (Int×Way)}(h:z0g w base v l)(hk:Kept B w w')(hB: ∀k,v.ownBlock=some k->k≠B):z0g w' base v l:=
 World.ownsRow.kept (w':=w') (row:=some B) h hk (Or.inr fun e=>hB B e rfl)
theorem z0g.above{w:World}{base:Nat}{v:Value}{l:List (Int×Way)}(h:z0g w base v l): ∀k,v.ownBlock=some k->base<=k/\k<w.heap.size:=World.ownsRow.lt h
theorem zQe(w:World)(g:Nat)(cs:Array Value):Kept g w (w.setRow g cs):=
 ⟨rfl,rfl,rfl,by rw[setRow_size];exact Nat.le_refl _,fun k _ hne=>setRow_other _ _ _ _ (fun e=>hne (congrArg some e))⟩
theorem q0n(d s:Nat)(c o n p:Int)(r b1 b2:Bool)(y y1 y2:Way)(hc:15<=c/\c<=24)(hp0:0<=p)(hp1:p<=1000)(ho0:0<=o)(ho1:o<=1000)(HN1:Hid (∀(W:World)(B:Nat),z03 W B (p+1) y->Calls tP 206 #[pT (some ⟨B,0,none⟩),.agg #[A D c,A D d,A D s,.bool r,A D o,A D n],A D (oppV c)] W fun e w'=>e= rT (.bool b1)/\Kept B W w'/\z03 w' B (p+1) y1))(HN2:Hid (∀(W:World)(B:Nat),z03 W B (p+(1+o)) y->Calls tP 206 #[pT (some ⟨B,0,none⟩),.agg #[A D c,A D d,A D s,.bool r,A D o,A D n],A D c] W fun e w'=>e= rT (.bool b2)/\Kept B W w'/\z03 w' B (p+(1+o)) y2))(w:World):
  Calls tP 177 #[.agg (z04 p y),.agg #[A D c,A D d,A D s,.bool r,A D o,A D n]] w fun e w'=> ∃v,e= rT v/\z0g w' w.heap.size v ((if b1=true then [((p+1),y1)]else [])++(if b2=true then [((p+(1+o)),y2)]else []))/\Below w.heap.size w w':=by
 have hK0:Blk w [(w.heap.size,cT (z04 p y) 196 (0,0)),(w.heap.size+1,cT #[A D c,A D d,A D s,.bool r,A D o,A D n] 135 (0,0))] _:=((Blk.nil (((bF _ _).alloc (Nat.le_refl _) _).alloc kS _)).cons (heap_alloc2_new w (cT (z04 p y) 196) (cT #[A D c,A D d,A D s,.bool r,A D o,A D n] 135))).cons ((z03.start w p y).alloc (cT #[A D c,A D d,A D s,.bool r,A D o,A D n] 135));go_enter Tryz.func177,Tryz.ntmps177;go_upto_region 2 with fail
 generalize ((w.alloc (cT (z04 p y) 196)).alloc (cT #[A D c,A D d,A D s,.bool r,A D o,A D n] 135))=w1 at hK0⊢;go_step
 (refine wpList_load_row rfl 196 (.tmp 2) rfl w.heap.size rfl 196 (z04 p y) (0,0) _ (hK0.2 _ mcS) Tryz.underlying196 rfl (z0o _ _) ?_)
 simp only[pS]
 (refine z0c rfl 141 #[.agg (z04 p y),A D 0] kG (.agg (z04 (p+1) y)) (zB3 p y hp0 hp1 w1) ?_)
 intro w3 hB;have hC:=hK0.later hB;simp only[pS]
 (refine z00 rfl (pT (some ⟨w3.heap.size,0,none⟩)) (w3.alloc (cT Tryz.zeroCells196 196 (0,0))) kG ?_)
 simp only[pS]
 (refine wpList_store_row rfl 196 (.tmp 6) (.tmp 9) rfl w3.heap.size (z04 (p+1) y) rfl rfl 196 _ (heap_alloc_new _ _) (z0o _ _) (by first|rw[z26,z0i]|rw[z0i,z0i]) (z2l _ _) ?_)
 simp only[Act.put];have hC3:=hC.wayRow (p+1) y;have hW3:=hC3.2 _ mcS;have lt3:=hC.lt (mcO _ mcS);clear hC hB hK0;generalize ((w3.alloc (cT Tryz.zeroCells196 196 (0,0))).setRow w3.heap.size (z04 (p+1) y))=w4 at hC3 hW3⊢;generalize w3.heap.size=B3 at hC3 hW3 lt3⊢;go_upto_region 3 with fail
 refine z0n (C:=Blk w [(B3,cT (z04 (p+1) y) 196 (0,0)),(w.heap.size,cT (z04 p y) 196 (0,0)),(w.heap.size+1,cT #[A D c,A D d,A D s,.bool r,A D o,A D n] 135 (0,0))]) (n0:=w.heap.size) 4 [] [] kR kR (fun d _ _ _ _ h=>by cases d<;>exact h) (Blk.stable _ _) (Blk.room0 _ _) hC3.drew trivial ?_;simp only[lQ,lX,lY,lZ,lJ,Nat.reduceAdd]
 repeat(first
  |(refine z0k kI ?_;simp only[pS])
  |(refine z09 kI (v:=?_) ?_ ?_;rotate_left;(intro w2 hC;have yW:z03 _ w.heap.size _ _:=(hC.2 _ (mcO _ mcS));have ylt:=yW.lt;obtain⟨p0,p1,p2,p3,p4,p5,ltS⟩:=row6 (hC.2 _ (mcO _ (mcO _ mcS)));go_simp;try with_reducible rfl);simp only[pS])
  |(refine z0t kI ?_;apply Exists.intro;refine⟨fun w2 hC=>?_,?_⟩;(have yW:z03 _ w.heap.size _ _:=(hC.2 _ (mcO _ mcS));have ylt:=yW.lt;obtain⟨p0,p1,p2,p3,p4,p5,ltS⟩:=row6 (hC.2 _ (mcO _ (mcO _ mcS)));go_simp;apply z10;first|(go_at_call 207;exact((opp_is c hc w2).mono fun _ _ h=>⟨h.1,h.2▸bF _ _⟩)));simp only[pS]))
 refine z0r ?_;intro w5 hC hB5
 (refine z0c rfl 206 #[pT (some ⟨B3,0,none⟩),.agg #[A D c,A D d,A D s,.bool r,A D o,A D n],A D (oppV c)] kG (.bool b1) (HN1.out w5 B3 (hC.2 _ mcS)) ?_)
 intro w6 hq;obtain⟨hk6,hW6⟩:=hq;simp only[pS];have hC6:=(Blk.more (F':=[(w.heap.size,cT (z04 p y) 196 (0,0)),(w.heap.size+1,cT #[A D c,A D d,A D s,.bool r,A D o,A D n] 135 (0,0))]) hC (by intro x hx;simp at hx⊢;rcases hx with rfl|rfl<;>simp)).grown (b:=B3) hk6 (fun k e=>Nat.le_of_eq (Option.some.inj e)) kO kZ;have sz6:=hC6.lt (mcO _ mcS);have hA6:=z0g.nil w6 (w.heap.size+2);clear hC hB5 hk6 hC3 hW3
 cases b1
 ·go_upto_region 5 with fail
  have sz7:=hC6.lt (mcO _ mcS);have yW:z03 _ w.heap.size _ _:=(hC6.2 _ mcS);have ylt:=yW.lt;obtain⟨p0,p1,p2,p3,p4,p5,ltS⟩:=row6 (hC6.2 _ (mcO _ mcS));go_step
  (refine wpList_load_row rfl 196 (.tmp 2) rfl w.heap.size rfl 196 (z04 p y) (0,0) _ (hC6.2 _ mcS) Tryz.underlying196 rfl (z0o _ _) ?_)
  simp only[pS]
  (refine z00 rfl (pT (some ⟨w.heap.size+1,4,none⟩)) w6 kG ?_);simp only[pS]
  (refine z00 rfl (A D o) w6 kG ?_);simp only[pS]
  (refine z0c rfl 141 #[.agg (z04 p y),A D o] kG (.agg (z04 (p+(1+o)) y)) (zKm p o y hp0 hp1 ho0 ho1 w6) ?_)
  intro w8 hB;have hC8:=hC6.later hB;have hA8:=hA6.later hB;simp only[pS]
  (refine z00 rfl (pT (some ⟨w8.heap.size,0,none⟩)) (w8.alloc (cT Tryz.zeroCells196 196 (0,0))) kG ?_)
  simp only[pS]
  (refine wpList_store_row rfl 196 (.tmp 7) (.tmp 22) rfl w8.heap.size (z04 (p+(1+o)) y) rfl rfl 196 _ (heap_alloc_new _ _) (z0o _ _) (by first|rw[z26,z0i]|rw[z0i,z0i]) (z2l _ _) ?_)
  simp only[Act.put];have hC9:=hC8.wayRow (p+(1+o)) y;have hA9:=z0g.off (hA8.alloc (cT Tryz.zeroCells196 196 (0,0))) (B:=w8.heap.size) (zQe _ _ (z04 (p+(1+o)) y)) (fun k e=>Nat.ne_of_lt (hA8.above k e).2);have hW9:=hC9.2 _ mcS;have lt9:=hC8.lt (mcO _ mcS);have ab9:=fun k e=>(hA8.above k e).2;clear hC8 hA8 hB hC6 hA6 yW ylt p0 p1 p2 p3 p4 p5 ltS;generalize ((w8.alloc (cT Tryz.zeroCells196 196 (0,0))).setRow w8.heap.size (z04 (p+(1+o)) y))=w9 at hC9 hW9 hA9⊢;generalize w8.heap.size=B9 at hC9 hW9 lt9 ab9⊢;go_upto_region 6 with fail
  have yW:z03 _ w.heap.size _ _:=(hC9.2 _ (mcO _ mcS));have ylt:=yW.lt;obtain⟨p0,p1,p2,p3,p4,p5,ltS⟩:=row6 (hC9.2 _ (mcO _ (mcO _ mcS)));go_step
  (refine z00 rfl (.agg #[A D c,A D d,A D s,.bool r,A D o,A D n]) w9 kG ?_);simp only[pS]
  (refine z00 rfl (pT (some ⟨w.heap.size+1,0,none⟩)) w9 kG ?_);simp only[pS]
  (refine z00 rfl (A D c) w9 kG ?_);simp only[pS]
  (refine z0c rfl 206 #[pT (some ⟨B9,0,none⟩),.agg #[A D c,A D d,A D s,.bool r,A D o,A D n],A D c] kG (.bool b2) (HN2.out w9 B9 hW9) ?_)
  intro w10 hq;obtain⟨hk10,hW10⟩:=hq;simp only[pS];have hC10:=(Blk.more (F':=[(w.heap.size,cT (z04 p y) 196 (0,0)),(w.heap.size+1,cT #[A D c,A D d,A D s,.bool r,A D o,A D n] 135 (0,0))]) hC9 (by intro x hx;simp at hx⊢;rcases hx with rfl|rfl<;>simp)).grown (b:=B9) hk10 (fun k e=>Nat.le_of_eq (Option.some.inj e)) kO kZ;have sz10:=hC10.lt (mcO _ mcS);have hA10:=hA9.off hk10 (fun k e=>Nat.ne_of_lt (ab9 k e));clear hC9 hA9 hW9 hk10 ab9 yW ylt p0 p1 p2 p3 p4 p5 ltS
  cases b2
  ·go_wp2_with fail
   go_ret;exact⟨_,rfl,by have h:=z0g.mono hA10 (base':=w.heap.size) kO;simpa using h,hC10.1⟩
  ·go_upto_region 7 with fail
   go_step
   (refine z00 rfl (.slice none 0 0) w10 kG ?_);simp only[pS]
   (refine wpList_load_row rfl 196 (.tmp 7) rfl B9 rfl 196 (z04 (p+(1+o)) y2) (0,0) _ hW10 Tryz.underlying196 rfl (z0o _ _) ?_)
   refine z1k rfl (.tmp 28) (p+(1+o)) y2 rfl rfl ?_;simp only[pS];refine z90 rfl (.tmp 27) (.tmp 29) rfl (w.heap.size+2) (.slice none 0 0) [] rfl hA10 (p+(1+o)) y2 rfl kS kO ?_;intro v11 w11 hA11 hgw11;have hC11:=hC10.grown (b:=w.heap.size+2) hgw11 (fun k e=>(hA10.above k e).1) kO kS;simp only[List.nil_append]at hA11;simp only[pS];go_wp2_with fail;go_ret;exact⟨_,rfl,by have h:=z0g.mono hA11 (base':=w.heap.size) kO;simpa using h,hC11.1⟩
 go_upto_region 4 with fail
 go_step
 (refine z00 rfl (.slice none 0 0) w6 kG ?_);simp only[pS]
 (refine wpList_load_row rfl 196 (.tmp 6) rfl B3 rfl 196 (z04 (p+1) y1) (0,0) _ hW6 Tryz.underlying196 rfl (z0o _ _) ?_)
 refine z1k rfl (.tmp 16) (p+1) y1 rfl rfl ?_;simp only[pS];refine z90 rfl (.tmp 15) (.tmp 17) rfl (w.heap.size+2) (.slice none 0 0) [] rfl hA6 (p+1) y1 rfl kS kO ?_;intro v7 w7 hA7 hgw7;have hC7:=hC6.grown (b:=w.heap.size+2) hgw7 (fun k e=>(hA6.above k e).1) kO kS;simp only[List.nil_append]at hA7;simp only[pS];clear hC6 hA6 hW6 hgw7;go_upto_region 5 with fail
 have sz7:=hC7.lt (mcO _ mcS);have yW:z03 _ w.heap.size _ _:=(hC7.2 _ mcS);have ylt:=yW.lt;obtain⟨p0,p1,p2,p3,p4,p5,ltS⟩:=row6 (hC7.2 _ (mcO _ mcS));go_step
 (refine wpList_load_row rfl 196 (.tmp 2) rfl w.heap.size rfl 196 (z04 p y) (0,0) _ (hC7.2 _ mcS) Tryz.underlying196 rfl (z0o _ _) ?_)
 simp only[pS]
 (refine z00 rfl (pT (some ⟨w.heap.size+1,4,none⟩)) w7 kG ?_);simp only[pS]
 (refine z00 rfl (A D o) w7 kG ?_);simp only[pS]
 (refine z0c rfl 141 #[.agg (z04 p y),A D o] kG (.agg (z04 (p+(1+o)) y)) (zKm p o y hp0 hp1 ho0 ho1 w7) ?_)
 intro w8 hB;have hC8:=hC7.later hB;have hA8:=hA7.later hB;simp only[pS]
 (refine z00 rfl (pT (some ⟨w8.heap.size,0,none⟩)) (w8.alloc (cT Tryz.zeroCells196 196 (0,0))) kG ?_)
 simp only[pS]
 (refine wpList_store_row rfl 196 (.tmp 7) (.tmp 22) rfl w8.heap.size (z04 (p+(1+o)) y) rfl rfl 196 _ (heap_alloc_new _ _) (z0o _ _) (by first|rw[z26,z0i]|rw[z0i,z0i]) (z2l _ _) ?_)
 simp only[Act.put];have hC9:=hC8.wayRow (p+(1+o)) y;have hA9:=z0g.off (hA8.alloc (cT Tryz.zeroCells196 196 (0,0))) (B:=w8.heap.size) (zQe _ _ (z04 (p+(1+o)) y)) (fun k e=>Nat.ne_of_lt (hA8.above k e).2);have hW9:=hC9.2 _ mcS;have lt9:=hC8.lt (mcO _ mcS);have ab9:=fun k e=>(hA8.above k e).2;clear hC8 hA8 hB hC7 hA7 yW ylt p0 p1 p2 p3 p4 p5 ltS;generalize ((w8.alloc (cT Tryz.zeroCells196 196 (0,0))).setRow w8.heap.size (z04 (p+(1+o)) y))=w9 at hC9 hW9 hA9⊢;generalize w8.heap.size=B9 at hC9 hW9 lt9 ab9⊢;go_upto_region 6 with fail
 have yW:z03 _ w.heap.size _ _:=(hC9.2 _ (mcO _ mcS));have ylt:=yW.lt;obtain⟨p0,p1,p2,p3,p4,p5,ltS⟩:=row6 (hC9.2 _ (mcO _ (mcO _ mcS)));go_step
 (refine z00 rfl (.agg #[A D c,A D d,A D s,.bool r,A D o,A D n]) w9 kG ?_);simp only[pS]
 (refine z00 rfl (pT (some ⟨w.heap.size+1,0,none⟩)) w9 kG ?_);simp only[pS]
 (refine z00 rfl (A D c) w9 kG ?_);simp only[pS]
 (refine z0c rfl 206 #[pT (some ⟨B9,0,none⟩),.agg #[A D c,A D d,A D s,.bool r,A D o,A D n],A D c] kG (.bool b2) (HN2.out w9 B9 hW9) ?_)
 intro w10 hq;obtain⟨hk10,hW10⟩:=hq;simp only[pS];have hC10:=(Blk.more (F':=[(w.heap.size,cT (z04 p y) 196 (0,0)),(w.heap.size+1,cT #[A D c,A D d,A D s,.bool r,A D o,A D n] 135 (0,0))]) hC9 (by intro x hx;simp at hx⊢;rcases hx with rfl|rfl<;>simp)).grown (b:=B9) hk10 (fun k e=>Nat.le_of_eq (Option.some.inj e)) kO kZ;have sz10:=hC10.lt (mcO _ mcS);have hA10:=hA9.off hk10 (fun k e=>Nat.ne_of_lt (ab9 k e));clear hC9 hA9 hW9 hk10 ab9 yW ylt p0 p1 p2 p3 p4 p5 ltS
 cases b2
 ·go_wp2_with fail
  go_ret;exact⟨_,rfl,by have h:=z0g.mono hA10 (base':=w.heap.size) kO;simpa using h,hC10.1⟩
 go_upto_region 7 with fail
 go_step
 (refine z00 rfl v7 w10 kG ?_);simp only[pS]
 (refine wpList_load_row rfl 196 (.tmp 7) rfl B9 rfl 196 (z04 (p+(1+o)) y2) (0,0) _ hW10 Tryz.underlying196 rfl (z0o _ _) ?_)
 refine z1k rfl (.tmp 28) (p+(1+o)) y2 rfl rfl ?_;simp only[pS];refine z90 rfl (.tmp 27) (.tmp 29) rfl (w.heap.size+2) v7 [((p+1),y1)] rfl hA10 (p+(1+o)) y2 rfl kS kO ?_;intro v11 w11 hA11 hgw11;have hC11:=hC10.grown (b:=w.heap.size+2) hgw11 (fun k e=>(hA10.above k e).1) kO kS;simp only[List.nil_append,List.cons_append]at hA11;simp only[pS];go_wp2_with fail;go_ret;exact⟨_,rfl,by have h:=z0g.mono hA11 (base':=w.heap.size) kO;simpa using h,hC11.1⟩
end Go.Proofs.YtkdflpplamebkaaGreatDoor
