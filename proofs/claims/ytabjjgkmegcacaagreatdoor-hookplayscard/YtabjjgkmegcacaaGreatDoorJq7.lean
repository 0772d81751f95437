/-
A part of the proof of HookPlays; its card says what is proved.
-/
import Derived.Test.YtabjjgkmegcacaaGreatDoorJq6
import Derived.Maps.AppendAt
set_option maxHeartbeats 40000000
open Go.Value renaming int → A
open Go.IntKind renaming i64 → G
open Go.RowKit.Below renaming alloc → bA, setCell → bS, drew → bD, refl → bF
set_option maxRecDepth 1000000
set_option linter.defProp false
set_option linter.unusedVariables false
set_option linter.unusedSimpArgs false
open Go.Ending renaming returned → rT
open Go.Value renaming pointer → pT
open Go.Obj renaming cells → cT
open Go.Proofs.Tryz renaming prog → tP
open List renaming take_succ_cons → lQ, take_zero → lX, drop_succ_cons → lY, drop_zero → lZ, length_nil → lJ
namespace Go.Proofs.YtabjjgkmegcacaaGreatDoor
open Go.ChangeShapes Go.WideShapes Go.ChangeAt Go.RowKit
section
attribute [local simp] z0p z0j z04
theorem z8q(p:Int)(y:Way)(h0:0<=p)(h1:p<=1000)(w:World):zR 89 #[.agg (z03 p y),A G 0] w (.agg (z03 (p+1) y)):=zGe p 0 y h0 h1 kD kD w
theorem zSv(d s:Nat)(c o n p:Int)(r:Bool)(y:Way)(hd:d<11)(hp0:0<=p)(hp1:p<=1000)(ho0:0<=o)(ho1:o<=1000)(m1 m2:Bool)(x16:(c==16)=m1)(x5:((y.reg d).k !=5)=m2)(w:World):
  Calls tP 114 #[.agg (z03 p y),.agg #[A G c,A G d,A G s,.bool r,A G o,A G n]] w fun e w'=> ∃v,e= rT v/\z0f w' w.heap.size v (if m2=true then [((if m1=true then(p+(1+o))else(p+1)),y)]else [((if m1=true then(p+1)else(p+(1+o))),y.putReg d ⟨1,0,0⟩),((if m1=true then(p+(1+o))else(p+1)),y.putReg d ⟨4,0,0⟩)])/\Below w.heap.size w w':=by
 have hK0:Blk w [(w.heap.size,cT (z03 p y) 190 (0,0)),(w.heap.size+1,cT #[A G c,A G d,A G s,.bool r,A G o,A G n] 121 (0,0))] _:=((Blk.nil (((bF _ _).alloc (Nat.le_refl _) _).alloc kS _)).cons (heap_alloc2_new w (cT (z03 p y) 190) (cT #[A G c,A G d,A G s,.bool r,A G o,A G n] 121))).cons ((z02.start w p y).alloc (cT #[A G c,A G d,A G s,.bool r,A G o,A G n] 121));have hd0:(0:Int)<=(d:Int):=kO;have hd1:(d:Int)<11:=kO;go_enter Tryz.func114,Tryz.ntmps114;go_wp2_with fail;refine z0o (C:=Blk w [(w.heap.size,cT (z03 p y) 190 (0,0)),(w.heap.size+1,cT #[A G c,A G d,A G s,.bool r,A G o,A G n] 121 (0,0))]) (n0:=w.heap.size+1+1) 6 [] [cT Tryz.zeroCells190 190 (0,0),cT Tryz.zeroCells190 190 (0,0)] kR kR (fun d _ _ _ _ h=>by cases d<;>exact h) (Blk.stable _ _) (Blk.room w (mcO _ mcS)) hK0.drew ⟨⟨rfl,fun a w2 hC=>by go_simp;try rfl⟩,⟨rfl,fun a w2 hC=>by go_simp;try rfl⟩,trivial⟩ ?_;simp only[lQ,lX,lY,lZ,List.length_cons,lJ,Nat.reduceAdd]
 repeat(first
  |(refine z0q kI ?_;simp only[pS])
  |(refine z0c kI (v:= .agg (z03 p y)) (fun w2 hC=>zUq (hC.2 _ mcS) rfl rfl) ?_;simp only[pS])
  |(refine z0c kI (v:=?_) ?_ ?_;rotate_left;(intro w2 hC;have yW:z02 _ w.heap.size _ _:=(hC.2 _ mcS);have ylt:=yW.lt;obtain⟨i0,i1,i2⟩:=yW.reg hd;obtain⟨p0,p1,p2,p3,p4,p5,ltS⟩:=row6 (hC.2 _ (mcO _ mcS));go_simp;try with_reducible rfl);simp only[pS])
  |(refine z18 kI ?_;apply Exists.intro;refine⟨fun w2 hC=>?_,?_⟩;(have yW:z02 _ w.heap.size _ _:=(hC.2 _ mcS);have ylt:=yW.lt;obtain⟨i0,i1,i2⟩:=yW.reg hd;obtain⟨p0,p1,p2,p3,p4,p5,ltS⟩:=row6 (hC.2 _ (mcO _ mcS));go_simp;apply z1k;first|(go_at_call 89;exact(by first|with_reducible exact z8q p y hp0 hp1 w2|with_reducible exact zGe p o y hp0 hp1 ho0 ho1 w2)));simp only[pS]))
 refine z11 ?_;intro L h5 g5 K h6 g6 w3 hC hB3;have hne:K≠L:=(FB.upd_none h6).1;have hne':L≠K:=fun e=>hne e.symm;have bK:=hB3 K _ (FB.at_new _ _ _);have bL:=hB3 L _ (FB.at_old hne' (FB.at_new _ _ _));have yW:z02 _ w.heap.size _ _:=(hC.2 _ mcS);have ylt:=yW.lt;obtain⟨i0,i1,i2⟩:=yW.reg hd;obtain⟨p0,p1,p2,p3,p4,p5,ltS⟩:=row6 (hC.2 _ (mcO _ mcS));have hbw:=hC.1;have n1:w.heap.size+1≠L:=kO;have n2:w.heap.size≠L:=kO;have n3:w.heap.size+1≠K:=kO;have n4:w.heap.size≠K:=kO;simp only[z6y,Act.put,siA,scZ,scS];have hK1:Blk w [(L,cT (z03 (p+(1+o)) y) 190 (0,0)),(K,cT (z03 (p+1) y) 190 (0,0)),(w.heap.size,cT (z03 p y) 190 (0,0)),(w.heap.size+1,cT #[A G c,A G d,A G s,.bool r,A G o,A G n] 121 (0,0))] ((w3.setRow L (z03 (p+(1+o)) y)).setRow K (z03 (p+1) y)):=((((Blk.nil kW).cons ((setRow_other _ K _ _ n3).trans ((setRow_other _ L _ _ n1).trans (hC.2 _ (mcO _ mcS))))).cons ((setRow_other _ K _ _ n4).trans ((setRow_other _ L _ _ n2).trans (hC.2 _ mcS)))).cons (setRow_heap _ K _ (z03 (p+1) y) 190 _ ((setRow_other _ L _ _ hne).trans bK))).cons ((setRow_other _ K _ _ hne').trans (setRow_heap _ L _ (z03 (p+(1+o)) y) 190 _ bL));clear yW ylt i0 i1 i2 p0 p1 p2 p3 p4 p5 ltS hK0;have yW:z02 _ w.heap.size _ _:=(hK1.2 _ (mcO _ (mcO _ mcS)));have ylt:=yW.lt;obtain⟨i0,i1,i2⟩:=yW.reg hd;obtain⟨p0,p1,p2,p3,p4,p5,ltS⟩:=row6 (hK1.2 _ (mcO _ (mcO _ (mcO _ mcS))))
 (refine wpList_store_row rfl 190 (.tmp 5) (.tmp 10) rfl L (z03 (p+(1+o)) y) rfl rfl 190 _ bL (z0n _ _) (by first|rw[z20,z0g]|rw[z0g,z0g]) (z2f _ _) ?_)
 (refine wpList_store_row rfl 190 (.tmp 6) (.tmp 12) rfl K (z03 (p+1) y) rfl rfl 190 _ ((setRow_other _ L _ _ hne).trans bK) (z0n _ _) (by first|rw[z20,z0g]|rw[z0g,z0g]) (z2f _ _) ?_)
 cases m1
 ·cases m2
  ·go_upto_region 6 with fail
   clear yW ylt i0 i1 i2 p0 p1 p2 p3 p4 p5 ltS;refine z0o (C:=Blk w [(L,cT (z03 (p+(1+o)) y) 190 (0,0)),(K,cT (z03 (p+1) y) 190 (0,0)),(w.heap.size,cT (z03 p y) 190 (0,0)),(w.heap.size+1,cT #[A G c,A G d,A G s,.bool r,A G o,A G n] 121 (0,0))]) (n0:=w.heap.size) 6 [] [] kR kR (fun d _ _ _ _ h=>by cases d<;>exact h) (Blk.stable _ _) (Blk.room0 _ _) hK1.drew trivial ?_;simp only[lQ,lX,lY,lZ,lJ,Nat.reduceAdd]
   repeat(first
    |(refine z0q kI ?_;simp only[pS])
    |(refine z0c kI (v:=?_) ?_ ?_;rotate_left;(intro w2 hC;have aW:z02 _ L _ _:=(hC.2 _ mcS);have alt:=aW.lt;have bW:z02 _ K _ _:=(hC.2 _ (mcO _ mcS));have blt:=bW.lt;have yW:z02 _ w.heap.size _ _:=(hC.2 _ (mcO _ (mcO _ mcS)));have ylt:=yW.lt;obtain⟨p0,p1,p2,p3,p4,p5,ltS⟩:=row6 (hC.2 _ (mcO _ (mcO _ (mcO _ mcS))));go_simp;try with_reducible rfl);simp only[pS])
    |(refine z18 kI ?_;apply Exists.intro;refine⟨fun w2 hC=>?_,?_⟩;(have aW:z02 _ L _ _:=(hC.2 _ mcS);have alt:=aW.lt;have bW:z02 _ K _ _:=(hC.2 _ (mcO _ mcS));have blt:=bW.lt;have yW:z02 _ w.heap.size _ _:=(hC.2 _ (mcO _ (mcO _ mcS)));have ylt:=yW.lt;obtain⟨p0,p1,p2,p3,p4,p5,ltS⟩:=row6 (hC.2 _ (mcO _ (mcO _ (mcO _ mcS))));go_simp;apply z1k;first|(go_at_call 86;exact z4f 0 w2)|(go_at_call 116;exact(by have hq:=z1s 0 0 w2;unfold Kno.v z10 at hq;exact hq)));simp only[pS]))
   refine z11 ?_;intro w5 hC hB5;have aW:z02 _ L _ _:=(hC.2 _ mcS);have alt:=aW.lt;have bW:z02 _ K _ _:=(hC.2 _ (mcO _ mcS));have blt:=bW.lt;have yW:z02 _ w.heap.size _ _:=(hC.2 _ (mcO _ (mcO _ mcS)));have ylt:=yW.lt;obtain⟨p0,p1,p2,p3,p4,p5,ltS⟩:=row6 (hC.2 _ (mcO _ (mcO _ (mcO _ mcS))));obtain⟨i0,i1,i2⟩:=aW.reg hd;have if0:=aW.frozen (1+d*3);have if1:=aW.frozen (1+d*3+1);have if2:=aW.frozen (1+d*3+2);go_upto_region 7 with fail
   have hbw5:=hC.1;have hK7:Blk w [(L,cT (z03 (p+(1+o)) (y.putReg d ⟨1,0,0⟩)) 190 (0,0)),(K,cT (z03 (p+1) y) 190 (0,0)),(w.heap.size,cT (z03 p y) 190 (0,0)),(w.heap.size+1,cT #[A G c,A G d,A G s,.bool r,A G o,A G n] 121 (0,0))] (((w5.setCell ⟨L,1+d*3,none⟩ (A G 1)).setCell ⟨L,1+d*3+1,none⟩ (A G 0)).setCell ⟨L,1+d*3+2,none⟩ (A G 0)):=((((Blk.nil kW).cons (off3 (hC.2 _ (mcO _ (mcO _ (mcO _ mcS)))) kO)).cons (off3 (hC.2 _ (mcO _ (mcO _ mcS))) kO)).cons (off3 (hC.2 _ (mcO _ mcS)) hne)).cons (aW.reg3 hd 1 0 0);clear aW alt bW blt yW ylt i0 i1 i2 if0 if1 if2 p0 p1 p2 p3 p4 p5 ltS hC hB5;refine z0o (C:=Blk w [(L,cT (z03 (p+(1+o)) (y.putReg d ⟨1,0,0⟩)) 190 (0,0)),(K,cT (z03 (p+1) y) 190 (0,0)),(w.heap.size,cT (z03 p y) 190 (0,0)),(w.heap.size+1,cT #[A G c,A G d,A G s,.bool r,A G o,A G n] 121 (0,0))]) (n0:=w.heap.size) 6 [] [] kR kR (fun d _ _ _ _ h=>by cases d<;>exact h) (Blk.stable _ _) (Blk.room0 _ _) hK7.drew trivial ?_;simp only[lQ,lX,lY,lZ,lJ,Nat.reduceAdd]
   repeat(first
    |(refine z0q kI ?_;simp only[pS])
    |(refine z0c kI (v:=?_) ?_ ?_;rotate_left;(intro w2 hC;have aW:z02 _ L _ _:=(hC.2 _ mcS);have alt:=aW.lt;have bW:z02 _ K _ _:=(hC.2 _ (mcO _ mcS));have blt:=bW.lt;have yW:z02 _ w.heap.size _ _:=(hC.2 _ (mcO _ (mcO _ mcS)));have ylt:=yW.lt;obtain⟨p0,p1,p2,p3,p4,p5,ltS⟩:=row6 (hC.2 _ (mcO _ (mcO _ (mcO _ mcS))));go_simp;try with_reducible rfl);simp only[pS])
    |(refine z18 kI ?_;apply Exists.intro;refine⟨fun w2 hC=>?_,?_⟩;(have aW:z02 _ L _ _:=(hC.2 _ mcS);have alt:=aW.lt;have bW:z02 _ K _ _:=(hC.2 _ (mcO _ mcS));have blt:=bW.lt;have yW:z02 _ w.heap.size _ _:=(hC.2 _ (mcO _ (mcO _ mcS)));have ylt:=yW.lt;obtain⟨p0,p1,p2,p3,p4,p5,ltS⟩:=row6 (hC.2 _ (mcO _ (mcO _ (mcO _ mcS))));go_simp;apply z1k;first|(go_at_call 86;exact z4f 0 w2));simp only[pS]))
   refine z11 ?_;intro w6 hC hB6;have aW:z02 _ L _ _:=(hC.2 _ mcS);have alt:=aW.lt;have bW:z02 _ K _ _:=(hC.2 _ (mcO _ mcS));have blt:=bW.lt;have yW:z02 _ w.heap.size _ _:=(hC.2 _ (mcO _ (mcO _ mcS)));have ylt:=yW.lt;obtain⟨p0,p1,p2,p3,p4,p5,ltS⟩:=row6 (hC.2 _ (mcO _ (mcO _ (mcO _ mcS))));obtain⟨i0,i1,i2⟩:=bW.reg hd;have if0:=bW.frozen (1+d*3);have if1:=bW.frozen (1+d*3+1);have if2:=bW.frozen (1+d*3+2);go_upto_region 8 with fail
   have hbw6:=hC.1;have hK8:Blk w [(L,cT (z03 (p+(1+o)) (y.putReg d ⟨1,0,0⟩)) 190 (0,0)),(K,cT (z03 (p+1) (y.putReg d ⟨4,0,0⟩)) 190 (0,0))] (((w6.setCell ⟨K,1+d*3,none⟩ (A G 4)).setCell ⟨K,1+d*3+1,none⟩ (A G 0)).setCell ⟨K,1+d*3+2,none⟩ (A G 0)):=((Blk.nil kW).cons (bW.reg3 hd 4 0 0)).cons (off3 (hC.2 _ mcS) hne');clear aW alt bW blt yW ylt i0 i1 i2 if0 if1 if2 p0 p1 p2 p3 p4 p5 ltS hC hB6;go_step
   (refine wpList_load_row rfl 190 (.tmp 5) rfl L rfl 190 (z03 (p+(1+o)) (y.putReg d ⟨1,0,0⟩)) (0,0) _ (hK8.2 _ mcS) Tryz.underlying190 rfl (z0n _ _) ?_)
   (refine wpList_load_row rfl 190 (.tmp 6) rfl K rfl 190 (z03 (p+1) (y.putReg d ⟨4,0,0⟩)) (0,0) _ (hK8.2 _ (mcO _ mcS)) Tryz.underlying190 rfl (z0n _ _) ?_)
   refine z8z rfl (.tmp 39) (.tmp 40) (p+(1+o)) (p+1) (y.putReg d ⟨1,0,0⟩) (y.putReg d ⟨4,0,0⟩) rfl rfl rfl ?_;simp only[pS];go_wp2_with fail;go_ret;have hbwE:=hK8.1;have hsE:=hbwE.size;have hm:=z0f.made (((w6.setCell ⟨K,1+d*3,none⟩ (A G 4)).setCell ⟨K,1+d*3+1,none⟩ (A G 0)).setCell ⟨K,1+d*3+2,none⟩ (A G 0)) w.heap.size [((p+(1+o)),y.putReg d ⟨1,0,0⟩),((p+1),y.putReg d ⟨4,0,0⟩)] hbwE.size (by unfold maxLen;simp);simp only[z04]at hm hsE;exact⟨_,rfl,by simpa using hm,kW⟩
  ·go_upto_region 5 with fail
   have hbK:((w3.setRow L (z03 (p+(1+o)) y)).setRow K (z03 (p+1) y)).heap[K]?=some (cT (z03 (p+1) y) 190):=hK1.2 _ (mcO _ mcS);clear yW ylt i0 i1 i2 p0 p1 p2 p3 p4 p5 ltS;generalize ((w3.setRow L (z03 (p+(1+o)) y)).setRow K (z03 (p+1) y))=w9 at hbK hK1⊢;go_step
   (refine wpList_load_row rfl 190 (.tmp 6) rfl K rfl 190 (z03 (p+1) y) (0,0) _ hbK Tryz.underlying190 rfl (z0n _ _) ?_)
   refine z1m rfl (.tmp 25) (p+1) y rfl rfl ?_;simp only[pS];go_wp2_with fail;go_ret;have hbwE:=hK1.1;have hsE:=hbwE.size;have hm:=z0f.made w9 w.heap.size [((p+1),y)] hbwE.size (by unfold maxLen;simp);exact⟨_,rfl,by simpa using hm,kW⟩
 cases m2
 ·go_upto_region 3 with fail
  go_step
  (refine wpList_load_row rfl 190 (.tmp 6) rfl K rfl 190 (z03 (p+1) y) (0,0) _ (hK1.2 _ (mcO _ mcS)) Tryz.underlying190 rfl (z0n _ _) ?_)
  (refine wpList_load_row rfl 190 (.tmp 5) rfl L rfl 190 (z03 (p+(1+o)) y) (0,0) _ (hK1.2 _ mcS) Tryz.underlying190 rfl (z0n _ _) ?_)
  (refine wpList_store_row rfl 190 (.tmp 5) (.tmp 16) rfl L (z03 (p+1) y) rfl rfl 190 _ (hK1.2 _ mcS) (z0n _ _) (by first|rw[z20,z0g]|rw[z0g,z0g]) (z2f _ _) ?_)
  (refine wpList_store_row rfl 190 (.tmp 6) (.tmp 17) rfl K (z03 (p+(1+o)) y) rfl rfl 190 _ ((setRow_other _ L _ _ hne).trans (hK1.2 _ (mcO _ mcS))) (z0n _ _) (by first|rw[z20,z0g]|rw[z0g,z0g]) (z2f _ _) ?_)
  simp only[pS];have hbw1:=hK1.1;have hK2:Blk w [(L,cT (z03 (p+1) y) 190 (0,0)),(K,cT (z03 (p+(1+o)) y) 190 (0,0)),(w.heap.size,cT (z03 p y) 190 (0,0)),(w.heap.size+1,cT #[A G c,A G d,A G s,.bool r,A G o,A G n] 121 (0,0))] ((((w3.setRow L (z03 (p+(1+o)) y)).setRow K (z03 (p+1) y)).setRow L (z03 (p+1) y)).setRow K (z03 (p+(1+o)) y)):=((((Blk.nil kW).cons ((setRow_other _ K _ _ n3).trans ((setRow_other _ L _ _ n1).trans (hK1.2 _ (mcO _ (mcO _ (mcO _ mcS))))))).cons ((setRow_other _ K _ _ n4).trans ((setRow_other _ L _ _ n2).trans (hK1.2 _ (mcO _ (mcO _ mcS)))))).cons (setRow_heap _ K _ (z03 (p+(1+o)) y) 190 _ ((setRow_other _ L _ _ hne).trans (hK1.2 _ (mcO _ mcS))))).cons ((setRow_other _ K _ _ hne').trans (setRow_heap _ L _ (z03 (p+1) y) 190 _ (hK1.2 _ mcS)));clear yW ylt i0 i1 i2 p0 p1 p2 p3 p4 p5 ltS;have yW:z02 _ w.heap.size _ _:=(hK2.2 _ (mcO _ (mcO _ mcS)));have ylt:=yW.lt;obtain⟨i0,i1,i2⟩:=yW.reg hd;obtain⟨p0,p1,p2,p3,p4,p5,ltS⟩:=row6 (hK2.2 _ (mcO _ (mcO _ (mcO _ mcS))));go_upto_region 6 with fail
  clear yW ylt i0 i1 i2 p0 p1 p2 p3 p4 p5 ltS;refine z0o (C:=Blk w [(L,cT (z03 (p+1) y) 190 (0,0)),(K,cT (z03 (p+(1+o)) y) 190 (0,0)),(w.heap.size,cT (z03 p y) 190 (0,0)),(w.heap.size+1,cT #[A G c,A G d,A G s,.bool r,A G o,A G n] 121 (0,0))]) (n0:=w.heap.size) 6 [] [] kR kR (fun d _ _ _ _ h=>by cases d<;>exact h) (Blk.stable _ _) (Blk.room0 _ _) hK2.drew trivial ?_;simp only[lQ,lX,lY,lZ,lJ,Nat.reduceAdd]
  repeat(first
   |(refine z0q kI ?_;simp only[pS])
   |(refine z0c kI (v:=?_) ?_ ?_;rotate_left;(intro w2 hC;have aW:z02 _ L _ _:=(hC.2 _ mcS);have alt:=aW.lt;have bW:z02 _ K _ _:=(hC.2 _ (mcO _ mcS));have blt:=bW.lt;have yW:z02 _ w.heap.size _ _:=(hC.2 _ (mcO _ (mcO _ mcS)));have ylt:=yW.lt;obtain⟨p0,p1,p2,p3,p4,p5,ltS⟩:=row6 (hC.2 _ (mcO _ (mcO _ (mcO _ mcS))));go_simp;try with_reducible rfl);simp only[pS])
   |(refine z18 kI ?_;apply Exists.intro;refine⟨fun w2 hC=>?_,?_⟩;(have aW:z02 _ L _ _:=(hC.2 _ mcS);have alt:=aW.lt;have bW:z02 _ K _ _:=(hC.2 _ (mcO _ mcS));have blt:=bW.lt;have yW:z02 _ w.heap.size _ _:=(hC.2 _ (mcO _ (mcO _ mcS)));have ylt:=yW.lt;obtain⟨p0,p1,p2,p3,p4,p5,ltS⟩:=row6 (hC.2 _ (mcO _ (mcO _ (mcO _ mcS))));go_simp;apply z1k;first|(go_at_call 86;exact z4f 0 w2)|(go_at_call 116;exact(by have hq:=z1s 0 0 w2;unfold Kno.v z10 at hq;exact hq)));simp only[pS]))
  refine z11 ?_;intro w5 hC hB5;have aW:z02 _ L _ _:=(hC.2 _ mcS);have alt:=aW.lt;have bW:z02 _ K _ _:=(hC.2 _ (mcO _ mcS));have blt:=bW.lt;have yW:z02 _ w.heap.size _ _:=(hC.2 _ (mcO _ (mcO _ mcS)));have ylt:=yW.lt;obtain⟨p0,p1,p2,p3,p4,p5,ltS⟩:=row6 (hC.2 _ (mcO _ (mcO _ (mcO _ mcS))));obtain⟨i0,i1,i2⟩:=aW.reg hd;have if0:=aW.frozen (1+d*3);have if1:=aW.frozen (1+d*3+1);have if2:=aW.frozen (1+d*3+2);go_upto_region 7 with fail
  have hbw5:=hC.1;have hK7:Blk w [(L,cT (z03 (p+1) (y.putReg d ⟨1,0,0⟩)) 190 (0,0)),(K,cT (z03 (p+(1+o)) y) 190 (0,0)),(w.heap.size,cT (z03 p y) 190 (0,0)),(w.heap.size+1,cT #[A G c,A G d,A G s,.bool r,A G o,A G n] 121 (0,0))] (((w5.setCell ⟨L,1+d*3,none⟩ (A G 1)).setCell ⟨L,1+d*3+1,none⟩ (A G 0)).setCell ⟨L,1+d*3+2,none⟩ (A G 0)):=((((Blk.nil kW).cons (off3 (hC.2 _ (mcO _ (mcO _ (mcO _ mcS)))) kO)).cons (off3 (hC.2 _ (mcO _ (mcO _ mcS))) kO)).cons (off3 (hC.2 _ (mcO _ mcS)) hne)).cons (aW.reg3 hd 1 0 0);clear aW alt bW blt yW ylt i0 i1 i2 if0 if1 if2 p0 p1 p2 p3 p4 p5 ltS hC hB5;refine z0o (C:=Blk w [(L,cT (z03 (p+1) (y.putReg d ⟨1,0,0⟩)) 190 (0,0)),(K,cT (z03 (p+(1+o)) y) 190 (0,0)),(w.heap.size,cT (z03 p y) 190 (0,0)),(w.heap.size+1,cT #[A G c,A G d,A G s,.bool r,A G o,A G n] 121 (0,0))]) (n0:=w.heap.size) 6 [] [] kR kR (fun d _ _ _ _ h=>by cases d<;>exact h) (Blk.stable _ _) (Blk.room0 _ _) hK7.drew trivial ?_;simp only[lQ,lX,lY,lZ,lJ,Nat.reduceAdd]
  repeat(first
   |(refine z0q kI ?_;simp only[pS])
   |(refine z0c kI (v:=?_) ?_ ?_;rotate_left;(intro w2 hC;have aW:z02 _ L _ _:=(hC.2 _ mcS);have alt:=aW.lt;have bW:z02 _ K _ _:=(hC.2 _ (mcO _ mcS));have blt:=bW.lt;have yW:z02 _ w.heap.size _ _:=(hC.2 _ (mcO _ (mcO _ mcS)));have ylt:=yW.lt;obtain⟨p0,p1,p2,p3,p4,p5,ltS⟩:=row6 (hC.2 _ (mcO _ (mcO _ (mcO _ mcS))));go_simp;try with_reducible rfl);simp only[pS])
   |(refine z18 kI ?_;apply Exists.intro;refine⟨fun w2 hC=>?_,?_⟩;(have aW:z02 _ L _ _:=(hC.2 _ mcS);have alt:=aW.lt;have bW:z02 _ K _ _:=(hC.2 _ (mcO _ mcS));have blt:=bW.lt;have yW:z02 _ w.heap.size _ _:=(hC.2 _ (mcO _ (mcO _ mcS)));have ylt:=yW.lt;obtain⟨p0,p1,p2,p3,p4,p5,ltS⟩:=row6 (hC.2 _ (mcO _ (mcO _ (mcO _ mcS))));go_simp;apply z1k;first|(go_at_call 86;exact z4f 0 w2));simp only[pS]))
  refine z11 ?_;intro w6 hC hB6;have aW:z02 _ L _ _:=(hC.2 _ mcS);have alt:=aW.lt;have bW:z02 _ K _ _:=(hC.2 _ (mcO _ mcS));have blt:=bW.lt;have yW:z02 _ w.heap.size _ _:=(hC.2 _ (mcO _ (mcO _ mcS)));have ylt:=yW.lt;obtain⟨p0,p1,p2,p3,p4,p5,ltS⟩:=row6 (hC.2 _ (mcO _ (mcO _ (mcO _ mcS))));obtain⟨i0,i1,i2⟩:=bW.reg hd;have if0:=bW.frozen (1+d*3);have if1:=bW.frozen (1+d*3+1);have if2:=bW.frozen (1+d*3+2);go_upto_region 8 with fail
  have hbw6:=hC.1;have hK8:Blk w [(L,cT (z03 (p+1) (y.putReg d ⟨1,0,0⟩)) 190 (0,0)),(K,cT (z03 (p+(1+o)) (y.putReg d ⟨4,0,0⟩)) 190 (0,0))] (((w6.setCell ⟨K,1+d*3,none⟩ (A G 4)).setCell ⟨K,1+d*3+1,none⟩ (A G 0)).setCell ⟨K,1+d*3+2,none⟩ (A G 0)):=((Blk.nil kW).cons (bW.reg3 hd 4 0 0)).cons (off3 (hC.2 _ mcS) hne');clear aW alt bW blt yW ylt i0 i1 i2 if0 if1 if2 p0 p1 p2 p3 p4 p5 ltS hC hB6;go_step
  (refine wpList_load_row rfl 190 (.tmp 5) rfl L rfl 190 (z03 (p+1) (y.putReg d ⟨1,0,0⟩)) (0,0) _ (hK8.2 _ mcS) Tryz.underlying190 rfl (z0n _ _) ?_)
  (refine wpList_load_row rfl 190 (.tmp 6) rfl K rfl 190 (z03 (p+(1+o)) (y.putReg d ⟨4,0,0⟩)) (0,0) _ (hK8.2 _ (mcO _ mcS)) Tryz.underlying190 rfl (z0n _ _) ?_)
  refine z8z rfl (.tmp 39) (.tmp 40) (p+1) (p+(1+o)) (y.putReg d ⟨1,0,0⟩) (y.putReg d ⟨4,0,0⟩) rfl rfl rfl ?_;simp only[pS];go_wp2_with fail;go_ret;have hbwE:=hK8.1;have hsE:=hbwE.size;have hm:=z0f.made (((w6.setCell ⟨K,1+d*3,none⟩ (A G 4)).setCell ⟨K,1+d*3+1,none⟩ (A G 0)).setCell ⟨K,1+d*3+2,none⟩ (A G 0)) w.heap.size [((p+1),y.putReg d ⟨1,0,0⟩),((p+(1+o)),y.putReg d ⟨4,0,0⟩)] hbwE.size (by unfold maxLen;simp);simp only[z04]at hm hsE;exact⟨_,rfl,by simpa using hm,kW⟩
 go_upto_region 3 with fail
 go_step
 (refine wpList_load_row rfl 190 (.tmp 6) rfl K rfl 190 (z03 (p+1) y) (0,0) _ (hK1.2 _ (mcO _ mcS)) Tryz.underlying190 rfl (z0n _ _) ?_)
 (refine wpList_load_row rfl 190 (.tmp 5) rfl L rfl 190 (z03 (p+(1+o)) y) (0,0) _ (hK1.2 _ mcS) Tryz.underlying190 rfl (z0n _ _) ?_)
 (refine wpList_store_row rfl 190 (.tmp 5) (.tmp 16) rfl L (z03 (p+1) y) rfl rfl 190 _ (hK1.2 _ mcS) (z0n _ _) (by first|rw[z20,z0g]|rw[z0g,z0g]) (z2f _ _) ?_)
 (refine wpList_store_row rfl 190 (.tmp 6) (.tmp 17) rfl K (z03 (p+(1+o)) y) rfl rfl 190 _ ((setRow_other _ L _ _ hne).trans (hK1.2 _ (mcO _ mcS))) (z0n _ _) (by first|rw[z20,z0g]|rw[z0g,z0g]) (z2f _ _) ?_)
 simp only[pS];have hbw1:=hK1.1;have hK2:Blk w [(L,cT (z03 (p+1) y) 190 (0,0)),(K,cT (z03 (p+(1+o)) y) 190 (0,0)),(w.heap.size,cT (z03 p y) 190 (0,0)),(w.heap.size+1,cT #[A G c,A G d,A G s,.bool r,A G o,A G n] 121 (0,0))] ((((w3.setRow L (z03 (p+(1+o)) y)).setRow K (z03 (p+1) y)).setRow L (z03 (p+1) y)).setRow K (z03 (p+(1+o)) y)):=((((Blk.nil kW).cons ((setRow_other _ K _ _ n3).trans ((setRow_other _ L _ _ n1).trans (hK1.2 _ (mcO _ (mcO _ (mcO _ mcS))))))).cons ((setRow_other _ K _ _ n4).trans ((setRow_other _ L _ _ n2).trans (hK1.2 _ (mcO _ (mcO _ mcS)))))).cons (setRow_heap _ K _ (z03 (p+(1+o)) y) 190 _ ((setRow_other _ L _ _ hne).trans (hK1.2 _ (mcO _ mcS))))).cons ((setRow_other _ K _ _ hne').trans (setRow_heap _ L _ (z03 (p+1) y) 190 _ (hK1.2 _ mcS)));clear yW ylt i0 i1 i2 p0 p1 p2 p3 p4 p5 ltS;have yW:z02 _ w.heap.size _ _:=(hK2.2 _ (mcO _ (mcO _ mcS)));have ylt:=yW.lt;obtain⟨i0,i1,i2⟩:=yW.reg hd;obtain⟨p0,p1,p2,p3,p4,p5,ltS⟩:=row6 (hK2.2 _ (mcO _ (mcO _ (mcO _ mcS))));go_upto_region 5 with fail
 have hbK:((((w3.setRow L (z03 (p+(1+o)) y)).setRow K (z03 (p+1) y)).setRow L (z03 (p+1) y)).setRow K (z03 (p+(1+o)) y)).heap[K]?=some (cT (z03 (p+(1+o)) y) 190):=hK2.2 _ (mcO _ mcS);clear yW ylt i0 i1 i2 p0 p1 p2 p3 p4 p5 ltS;generalize ((((w3.setRow L (z03 (p+(1+o)) y)).setRow K (z03 (p+1) y)).setRow L (z03 (p+1) y)).setRow K (z03 (p+(1+o)) y))=w9 at hbK hK2⊢;go_step
 (refine wpList_load_row rfl 190 (.tmp 6) rfl K rfl 190 (z03 (p+(1+o)) y) (0,0) _ hbK Tryz.underlying190 rfl (z0n _ _) ?_)
 refine z1m rfl (.tmp 25) (p+(1+o)) y rfl rfl ?_;simp only[pS];go_wp2_with fail;go_ret;have hbwE:=hK2.1;have hsE:=hbwE.size;have hm:=z0f.made w9 w.heap.size [((p+(1+o)),y)] hbwE.size (by unfold maxLen;simp);exact⟨_,rfl,by simpa using hm,kW⟩
theorem z0m{P:Program}{ops:Array Oper}{rest:List Oper}{o:Oper}{a:Act}{w:World}{Q:Exit->Act->World->Prop}(hg:o.guard=none)
  (f:FuncId)(args:Array Value)(hrun:(execOp a.eval o).run P w= .ok (.enter f args) w)(v:Value){R:World->Prop}
  (hc:Calls P f args w fun e w'=>e= rT v/\R w')(h: ∀w',R w'->wpList P ops Q rest (a.put o.dst v) w'):wpList P ops Q (o::rest) a w:=by
 refine wpList_plain hg fun K hK=>?_;unfold Oper.wp;rw[hrun,Oper.upon_enter];refine hc.mono fun e w' hh=>?_;obtain⟨rfl,hr⟩:=hh;exact hK _ _ (h w' hr)
theorem z00{P:Program}{ops:Array Oper}{rest:List Oper}{o:Oper}{a:Act}{w:World}{Q:Exit->Act->World->Prop}(hg:o.guard=none)
  (v:Value)(w':World)(hrun:(execOp a.eval o).run P w= .ok (.value v) w')(h:wpList P ops Q rest (a.put o.dst v) w'):wpList P ops Q (o::rest) a w:=by
 refine wpList_plain hg fun K hK=>?_;unfold Oper.wp;rw[hrun,Oper.upon_value];exact hK _ _ h
theorem z6p{ops:Array Oper}{rest:List Oper}{o:Oper}{a:Act}{w:World}{Q:Exit->Act->World->Prop}(hg:o.guard=none)(s x:Operand)(ho:o.op= .call {callee:= .builtin .append,args:=#[s,x],argTypes:=#[192,192]})
  (base:Nat)(v:Value)(l:List (Int×Way))(hs:a.eval s=v)(hw:z0f w base v l)(p:Int)(y:Way)(hx:a.eval x= .slice (some ⟨w.heap.size,0,none⟩) 1 1)(hl:l.length<=1000000)(hb:base<=w.heap.size)
  (h: ∀v' w',z0f w' base v' (l++[(p,y)])->w.grownBy w' v.ownBlock->wpList tP ops Q rest (a.put o.dst v') w'):wpList tP ops Q (o::rest) a (w.alloc (cT (z0r [(p,y)]).toArray 190)):=by
 obtain⟨i0,hi,hz0,hz1,hz2⟩:=info_parts Tryz.infoWz;have e1:z0r [(p,y)]=(z03 p y).toList:=by unfold z0r;simp
 refine wpList_append_own _ hg s x 192 ho base 190 i0 _ 82 656 Tryz.underlying192 hi hz0 hz1 hz2 z20 kD v l.length (z0r l) hs (hw.alloc _) ⟨w.heap.size,0,none⟩ 1 1 (z0r [(p,y)]) hx (by rw[z2e];rfl) ?_ ?_ (by unfold maxLen;omega) kO kZ ?_
 ·intro j u hu
  rw[e1]at hu⊢;have hadd:(⟨w.heap.size,0,none⟩:Addr).add j=⟨w.heap.size,j,none⟩:=by unfold Addr.add;split<;>simp_all
  rw[hadd,cell_of_row _ w.heap.size j _ 190 (0,0) (heap_alloc_new w _)];simpa using hu
 ·intro u hu
  rw[e1]at hu;exact(Array.all_eq_true_iff_forall_mem.1 (z2f p y)) u (Array.mem_toList_iff.1 hu)
 intro v' w' h1 h2 _;refine h v' w' ?_ ⟨h2.os,h2.tape,h2.output,Nat.le_trans kS h2.size,fun k hk hne=>(h2.block k kZ hne).trans (heap_alloc_old w _ hk)⟩;show w'.ownsRow base 190 82 v' (l++[(p,y)]).length (z0r (l++[(p,y)]));rw[z4r,List.length_append, <-e1];exact h1
theorem Blk.wayRow{w0 w:World}{F:List (Nat×Obj)}(h:Blk w0 F w)(p:Int)(y:Way):Blk w0 ((w.heap.size,cT (z03 p y) 190 (0,0))::F) ((w.alloc (cT Tryz.zeroCells190 190 (0,0))).setRow w.heap.size (z03 p y)):=by
 have hs:=h.1.size;refine Blk.cons ⟨z14 (h.1.alloc hs _) hs _,fun x hx=>?_⟩ (z02.setRow (heap_alloc_new _ _) p y);have hl:=(Array.getElem?_eq_some_iff.1 (h.2 x hx)).1;exact(setRow_other _ _ _ _ (Nat.ne_of_lt hl)).trans ((heap_alloc_old _ _ hl).trans (h.2 x hx))
theorem z0f.off{w w':World}{base B:Nat}{v:Value}{l:List (Int×Way)}(h:z0f w base v l)(hk:Kept B w w')(hB: ∀k,v.ownBlock=some k->k≠B):z0f w' base v l:=
 World.ownsRow.kept (w':=w') (row:=some B) h hk (Or.inr fun e=>hB B e rfl)
theorem z0f.above{w:World}{base:Nat}{v:Value}{l:List (Int×Way)}(h:z0f w base v l): ∀k,v.ownBlock=some k->base<=k/\k<w.heap.size:=World.ownsRow.lt h
theorem zL9(w:World)(g:Nat)(cs:Array Value):Kept g w (w.setRow g cs):=
 ⟨rfl,rfl,rfl,by rw[setRow_size];exact Nat.le_refl _,fun k _ hne=>setRow_other _ _ _ _ (fun e=>hne (congrArg some e))⟩
theorem zSw(d s:Nat)(c o n p:Int)(r b1 b2:Bool)(y y1 y2:Way)(hc:15<=c/\c<=24)(hp0:0<=p)(hp1:p<=1000)(ho0:0<=o)(ho1:o<=1000)(HN1:Hid (∀(W:World)(B:Nat),z02 W B (p+1) y->Calls tP 127 #[pT (some ⟨B,0,none⟩),.agg #[A G c,A G d,A G s,.bool r,A G o,A G n],A G (oppV c)] W fun e w'=>e= rT (.bool b1)/\Kept B W w'/\z02 w' B (p+1) y1))(HN2:Hid (∀(W:World)(B:Nat),z02 W B (p+(1+o)) y->Calls tP 127 #[pT (some ⟨B,0,none⟩),.agg #[A G c,A G d,A G s,.bool r,A G o,A G n],A G c] W fun e w'=>e= rT (.bool b2)/\Kept B W w'/\z02 w' B (p+(1+o)) y2))(w:World):
  Calls tP 113 #[.agg (z03 p y),.agg #[A G c,A G d,A G s,.bool r,A G o,A G n]] w fun e w'=> ∃v,e= rT v/\z0f w' w.heap.size v ((if b1=true then [((p+1),y1)]else [])++(if b2=true then [((p+(1+o)),y2)]else []))/\Below w.heap.size w w':=by
 have hK0:Blk w [(w.heap.size,cT (z03 p y) 190 (0,0)),(w.heap.size+1,cT #[A G c,A G d,A G s,.bool r,A G o,A G n] 121 (0,0))] _:=((Blk.nil (((bF _ _).alloc (Nat.le_refl _) _).alloc kS _)).cons (heap_alloc2_new w (cT (z03 p y) 190) (cT #[A G c,A G d,A G s,.bool r,A G o,A G n] 121))).cons ((z02.start w p y).alloc (cT #[A G c,A G d,A G s,.bool r,A G o,A G n] 121));go_enter Tryz.func113,Tryz.ntmps113;go_upto_region 2 with fail
 generalize ((w.alloc (cT (z03 p y) 190)).alloc (cT #[A G c,A G d,A G s,.bool r,A G o,A G n] 121))=w1 at hK0⊢;go_step
 (refine wpList_load_row rfl 190 (.tmp 2) rfl w.heap.size rfl 190 (z03 p y) (0,0) _ (hK0.2 _ mcS) Tryz.underlying190 rfl (z0n _ _) ?_)
 simp only[pS]
 (refine z0m rfl 89 #[.agg (z03 p y),A G 0] kG (.agg (z03 (p+1) y)) (z8q p y hp0 hp1 w1) ?_)
 intro w3 hB;have hC:=hK0.later hB;simp only[pS]
 (refine z00 rfl (pT (some ⟨w3.heap.size,0,none⟩)) (w3.alloc (cT Tryz.zeroCells190 190 (0,0))) kG ?_)
 simp only[pS]
 (refine wpList_store_row rfl 190 (.tmp 6) (.tmp 9) rfl w3.heap.size (z03 (p+1) y) rfl rfl 190 _ (heap_alloc_new _ _) (z0n _ _) (by first|rw[z20,z0g]|rw[z0g,z0g]) (z2f _ _) ?_)
 simp only[Act.put];have hC3:=hC.wayRow (p+1) y;have hW3:=hC3.2 _ mcS;have lt3:=hC.lt (mcO _ mcS);clear hC hB hK0;generalize ((w3.alloc (cT Tryz.zeroCells190 190 (0,0))).setRow w3.heap.size (z03 (p+1) y))=w4 at hC3 hW3⊢;generalize w3.heap.size=B3 at hC3 hW3 lt3⊢;go_upto_region 3 with fail
 refine z0o (C:=Blk w [(B3,cT (z03 (p+1) y) 190 (0,0)),(w.heap.size,cT (z03 p y) 190 (0,0)),(w.heap.size+1,cT #[A G c,A G d,A G s,.bool r,A G o,A G n] 121 (0,0))]) (n0:=w.heap.size) 4 [] [] kR kR (fun d _ _ _ _ h=>by cases d<;>exact h) (Blk.stable _ _) (Blk.room0 _ _) hC3.drew trivial ?_;simp only[lQ,lX,lY,lZ,lJ,Nat.reduceAdd]
 repeat(first
  |(refine z0q kI ?_;simp only[pS])
  |(refine z0c kI (v:=?_) ?_ ?_;rotate_left;(intro w2 hC;have yW:z02 _ w.heap.size _ _:=(hC.2 _ (mcO _ mcS));have ylt:=yW.lt;obtain⟨p0,p1,p2,p3,p4,p5,ltS⟩:=row6 (hC.2 _ (mcO _ (mcO _ mcS)));go_simp;try with_reducible rfl);simp only[pS])
  |(refine z18 kI ?_;apply Exists.intro;refine⟨fun w2 hC=>?_,?_⟩;(have yW:z02 _ w.heap.size _ _:=(hC.2 _ (mcO _ mcS));have ylt:=yW.lt;obtain⟨p0,p1,p2,p3,p4,p5,ltS⟩:=row6 (hC.2 _ (mcO _ (mcO _ mcS)));go_simp;apply z1k;first|(go_at_call 128;exact((opp_is c hc w2).mono fun _ _ h=>⟨h.1,h.2▸bF _ _⟩)));simp only[pS]))
 refine z11 ?_;intro w5 hC hB5
 (refine z0m rfl 127 #[pT (some ⟨B3,0,none⟩),.agg #[A G c,A G d,A G s,.bool r,A G o,A G n],A G (oppV c)] kG (.bool b1) (HN1.out w5 B3 (hC.2 _ mcS)) ?_)
 intro w6 hq;obtain⟨hk6,hW6⟩:=hq;simp only[pS];have hC6:=(Blk.more (F':=[(w.heap.size,cT (z03 p y) 190 (0,0)),(w.heap.size+1,cT #[A G c,A G d,A G s,.bool r,A G o,A G n] 121 (0,0))]) hC (by intro x hx;simp at hx⊢;rcases hx with rfl|rfl<;>simp)).grown (b:=B3) hk6 (fun k e=>Nat.le_of_eq (Option.some.inj e)) kO kZ;have sz6:=hC6.lt (mcO _ mcS);have hA6:=z0f.nil w6 (w.heap.size+2);clear hC hB5 hk6 hC3 hW3
 cases b1
 ·go_upto_region 5 with fail
  have sz7:=hC6.lt (mcO _ mcS);have yW:z02 _ w.heap.size _ _:=(hC6.2 _ mcS);have ylt:=yW.lt;obtain⟨p0,p1,p2,p3,p4,p5,ltS⟩:=row6 (hC6.2 _ (mcO _ mcS));go_step
  (refine wpList_load_row rfl 190 (.tmp 2) rfl w.heap.size rfl 190 (z03 p y) (0,0) _ (hC6.2 _ mcS) Tryz.underlying190 rfl (z0n _ _) ?_)
  simp only[pS]
  (refine z00 rfl (pT (some ⟨w.heap.size+1,4,none⟩)) w6 kG ?_);simp only[pS]
  (refine z00 rfl (A G o) w6 kG ?_);simp only[pS]
  (refine z0m rfl 89 #[.agg (z03 p y),A G o] kG (.agg (z03 (p+(1+o)) y)) (zGe p o y hp0 hp1 ho0 ho1 w6) ?_)
  intro w8 hB;have hC8:=hC6.later hB;have hA8:=hA6.later hB;simp only[pS]
  (refine z00 rfl (pT (some ⟨w8.heap.size,0,none⟩)) (w8.alloc (cT Tryz.zeroCells190 190 (0,0))) kG ?_)
  simp only[pS]
  (refine wpList_store_row rfl 190 (.tmp 7) (.tmp 22) rfl w8.heap.size (z03 (p+(1+o)) y) rfl rfl 190 _ (heap_alloc_new _ _) (z0n _ _) (by first|rw[z20,z0g]|rw[z0g,z0g]) (z2f _ _) ?_)
  simp only[Act.put];have hC9:=hC8.wayRow (p+(1+o)) y;have hA9:=z0f.off (hA8.alloc (cT Tryz.zeroCells190 190 (0,0))) (B:=w8.heap.size) (zL9 _ _ (z03 (p+(1+o)) y)) (fun k e=>Nat.ne_of_lt (hA8.above k e).2);have hW9:=hC9.2 _ mcS;have lt9:=hC8.lt (mcO _ mcS);have ab9:=fun k e=>(hA8.above k e).2;clear hC8 hA8 hB hC6 hA6 yW ylt p0 p1 p2 p3 p4 p5 ltS;generalize ((w8.alloc (cT Tryz.zeroCells190 190 (0,0))).setRow w8.heap.size (z03 (p+(1+o)) y))=w9 at hC9 hW9 hA9⊢;generalize w8.heap.size=B9 at hC9 hW9 lt9 ab9⊢;go_upto_region 6 with fail
  have yW:z02 _ w.heap.size _ _:=(hC9.2 _ (mcO _ mcS));have ylt:=yW.lt;obtain⟨p0,p1,p2,p3,p4,p5,ltS⟩:=row6 (hC9.2 _ (mcO _ (mcO _ mcS)));go_step
  (refine z00 rfl (.agg #[A G c,A G d,A G s,.bool r,A G o,A G n]) w9 kG ?_);simp only[pS]
  (refine z00 rfl (pT (some ⟨w.heap.size+1,0,none⟩)) w9 kG ?_);simp only[pS]
  (refine z00 rfl (A G c) w9 kG ?_);simp only[pS]
  (refine z0m rfl 127 #[pT (some ⟨B9,0,none⟩),.agg #[A G c,A G d,A G s,.bool r,A G o,A G n],A G c] kG (.bool b2) (HN2.out w9 B9 hW9) ?_)
  intro w10 hq;obtain⟨hk10,hW10⟩:=hq;simp only[pS];have hC10:=(Blk.more (F':=[(w.heap.size,cT (z03 p y) 190 (0,0)),(w.heap.size+1,cT #[A G c,A G d,A G s,.bool r,A G o,A G n] 121 (0,0))]) hC9 (by intro x hx;simp at hx⊢;rcases hx with rfl|rfl<;>simp)).grown (b:=B9) hk10 (fun k e=>Nat.le_of_eq (Option.some.inj e)) kO kZ;have sz10:=hC10.lt (mcO _ mcS);have hA10:=hA9.off hk10 (fun k e=>Nat.ne_of_lt (ab9 k e));clear hC9 hA9 hW9 hk10 ab9 yW ylt p0 p1 p2 p3 p4 p5 ltS
  cases b2
  ·go_wp2_with fail
   go_ret;exact⟨_,rfl,by have h:=z0f.mono hA10 (base':=w.heap.size) kO;simpa using h,hC10.1⟩
  ·go_upto_region 7 with fail
   go_step
   (refine z00 rfl (.slice none 0 0) w10 kG ?_);simp only[pS]
   (refine wpList_load_row rfl 190 (.tmp 7) rfl B9 rfl 190 (z03 (p+(1+o)) y2) (0,0) _ hW10 Tryz.underlying190 rfl (z0n _ _) ?_)
   refine z1m rfl (.tmp 28) (p+(1+o)) y2 rfl rfl ?_;simp only[pS];refine z6p rfl (.tmp 27) (.tmp 29) rfl (w.heap.size+2) (.slice none 0 0) [] rfl hA10 (p+(1+o)) y2 rfl kS kO ?_;intro v11 w11 hA11 hgw11;have hC11:=hC10.grown (b:=w.heap.size+2) hgw11 (fun k e=>(hA10.above k e).1) kO kS;simp only[List.nil_append]at hA11;simp only[pS];go_wp2_with fail;go_ret;exact⟨_,rfl,by have h:=z0f.mono hA11 (base':=w.heap.size) kO;simpa using h,hC11.1⟩
 go_upto_region 4 with fail
 go_step
 (refine z00 rfl (.slice none 0 0) w6 kG ?_);simp only[pS]
 (refine wpList_load_row rfl 190 (.tmp 6) rfl B3 rfl 190 (z03 (p+1) y1) (0,0) _ hW6 Tryz.underlying190 rfl (z0n _ _) ?_)
 refine z1m rfl (.tmp 16) (p+1) y1 rfl rfl ?_;simp only[pS];refine z6p rfl (.tmp 15) (.tmp 17) rfl (w.heap.size+2) (.slice none 0 0) [] rfl hA6 (p+1) y1 rfl kS kO ?_;intro v7 w7 hA7 hgw7;have hC7:=hC6.grown (b:=w.heap.size+2) hgw7 (fun k e=>(hA6.above k e).1) kO kS;simp only[List.nil_append]at hA7;simp only[pS];clear hC6 hA6 hW6 hgw7;go_upto_region 5 with fail
 have sz7:=hC7.lt (mcO _ mcS);have yW:z02 _ w.heap.size _ _:=(hC7.2 _ mcS);have ylt:=yW.lt;obtain⟨p0,p1,p2,p3,p4,p5,ltS⟩:=row6 (hC7.2 _ (mcO _ mcS));go_step
 (refine wpList_load_row rfl 190 (.tmp 2) rfl w.heap.size rfl 190 (z03 p y) (0,0) _ (hC7.2 _ mcS) Tryz.underlying190 rfl (z0n _ _) ?_)
 simp only[pS]
 (refine z00 rfl (pT (some ⟨w.heap.size+1,4,none⟩)) w7 kG ?_);simp only[pS]
 (refine z00 rfl (A G o) w7 kG ?_);simp only[pS]
 (refine z0m rfl 89 #[.agg (z03 p y),A G o] kG (.agg (z03 (p+(1+o)) y)) (zGe p o y hp0 hp1 ho0 ho1 w7) ?_)
 intro w8 hB;have hC8:=hC7.later hB;have hA8:=hA7.later hB;simp only[pS]
 (refine z00 rfl (pT (some ⟨w8.heap.size,0,none⟩)) (w8.alloc (cT Tryz.zeroCells190 190 (0,0))) kG ?_)
 simp only[pS]
 (refine wpList_store_row rfl 190 (.tmp 7) (.tmp 22) rfl w8.heap.size (z03 (p+(1+o)) y) rfl rfl 190 _ (heap_alloc_new _ _) (z0n _ _) (by first|rw[z20,z0g]|rw[z0g,z0g]) (z2f _ _) ?_)
 simp only[Act.put];have hC9:=hC8.wayRow (p+(1+o)) y;have hA9:=z0f.off (hA8.alloc (cT Tryz.zeroCells190 190 (0,0))) (B:=w8.heap.size) (zL9 _ _ (z03 (p+(1+o)) y)) (fun k e=>Nat.ne_of_lt (hA8.above k e).2);have hW9:=hC9.2 _ mcS;have lt9:=hC8.lt (mcO _ mcS);have ab9:=fun k e=>(hA8.above k e).2;clear hC8 hA8 hB hC7 hA7 yW ylt p0 p1 p2 p3 p4 p5 ltS;generalize ((w8.alloc (cT Tryz.zeroCells190 190 (0,0))).setRow w8.heap.size (z03 (p+(1+o)) y))=w9 at hC9 hW9 hA9⊢;generalize w8.heap.size=B9 at hC9 hW9 lt9 ab9⊢;go_upto_region 6 with fail
 have yW:z02 _ w.heap.size _ _:=(hC9.2 _ (mcO _ mcS));have ylt:=yW.lt;obtain⟨p0,p1,p2,p3,p4,p5,ltS⟩:=row6 (hC9.2 _ (mcO _ (mcO _ mcS)));go_step
 (refine z00 rfl (.agg #[A G c,A G d,A G s,.bool r,A G o,A G n]) w9 kG ?_);simp only[pS]
 (refine z00 rfl (pT (some ⟨w.heap.size+1,0,none⟩)) w9 kG ?_);simp only[pS]
 (refine z00 rfl (A G c) w9 kG ?_);simp only[pS]
 (refine z0m rfl 127 #[pT (some ⟨B9,0,none⟩),.agg #[A G c,A G d,A G s,.bool r,A G o,A G n],A G c] kG (.bool b2) (HN2.out w9 B9 hW9) ?_)
 intro w10 hq;obtain⟨hk10,hW10⟩:=hq;simp only[pS];have hC10:=(Blk.more (F':=[(w.heap.size,cT (z03 p y) 190 (0,0)),(w.heap.size+1,cT #[A G c,A G d,A G s,.bool r,A G o,A G n] 121 (0,0))]) hC9 (by intro x hx;simp at hx⊢;rcases hx with rfl|rfl<;>simp)).grown (b:=B9) hk10 (fun k e=>Nat.le_of_eq (Option.some.inj e)) kO kZ;have sz10:=hC10.lt (mcO _ mcS);have hA10:=hA9.off hk10 (fun k e=>Nat.ne_of_lt (ab9 k e));clear hC9 hA9 hW9 hk10 ab9 yW ylt p0 p1 p2 p3 p4 p5 ltS
 cases b2
 ·go_wp2_with fail
  go_ret;exact⟨_,rfl,by have h:=z0f.mono hA10 (base':=w.heap.size) kO;simpa using h,hC10.1⟩
 go_upto_region 7 with fail
 go_step
 (refine z00 rfl v7 w10 kG ?_);simp only[pS]
 (refine wpList_load_row rfl 190 (.tmp 7) rfl B9 rfl 190 (z03 (p+(1+o)) y2) (0,0) _ hW10 Tryz.underlying190 rfl (z0n _ _) ?_)
 refine z1m rfl (.tmp 28) (p+(1+o)) y2 rfl rfl ?_;simp only[pS];refine z6p rfl (.tmp 27) (.tmp 29) rfl (w.heap.size+2) v7 [((p+1),y1)] rfl hA10 (p+(1+o)) y2 rfl kS kO ?_;intro v11 w11 hA11 hgw11;have hC11:=hC10.grown (b:=w.heap.size+2) hgw11 (fun k e=>(hA10.above k e).1) kO kS;simp only[List.nil_append,List.cons_append]at hA11;simp only[pS];go_wp2_with fail;go_ret;exact⟨_,rfl,by have h:=z0f.mono hA11 (base':=w.heap.size) kO;simpa using h,hC11.1⟩
theorem z0w{P:Program}{ops:Array Oper}{rest:List Oper}{o:Oper}{a:Act}{w:World}{Q:Exit->Act->World->Prop}(hg:o.guard=none)
  (f:FuncId)(args:Array Value)(hrun:(execOp a.eval o).run P w= .ok (.enter f args) w){R:Value->World->Prop}
  (hc:Calls P f args w fun e w'=> ∃v,e= rT v/\R v w')(h: ∀v w',R v w'->wpList P ops Q rest (a.put o.dst v) w'):wpList P ops Q (o::rest) a w:=by
 refine wpList_plain hg fun K hK=>?_;unfold Oper.wp;rw[hrun,Oper.upon_enter];refine hc.mono fun e w' hh=>?_;obtain⟨v,rfl,hr⟩:=hh;exact hK _ _ (h v w' hr)
theorem zPh{d s:Nat}{c o n p:Int}{r:Bool}{y:Way}(hd:d<11)(hs:s<11)(hc:15<=c/\c<=24)(hp0:0<=p)(hp1:p<=1000)(ho0:0<=o)(ho1:o<=1000)(hy:y.Ok)(hn:In64 n)(w:World):
  Calls tP 113 #[.agg (z03 p y),.agg #[A G c,A G d,A G s,.bool r,A G o,A G n]] w fun e w'=> ∃v,e= rT v/\z0f w' w.heap.size v ((y.askNumbers c d s r o n).map fun x=>(p+(1+x.1),x.2))/\Below w.heap.size w w':=by
 have HN1:=fun(W:World) (B:Nat) (hW:z02 W B (p+1) y)=>zA9 (c:=c) (o:=o) (r:=r) (code:=oppV c) hd hs hy hn hW;have HN2:=fun(W:World) (B:Nat) (hW:z02 W B (p+(1+o)) y)=>zA9 (c:=c) (o:=o) (r:=r) (code:=c) hd hs hy hn hW;unfold Way.askNumbers;generalize y.narrow (oppV c) d s r n=z1 at*;generalize y.narrow c d s r n=z2 at*;obtain⟨b1,y1⟩:=z1;obtain⟨b2,y2⟩:=z2;have h:=zSw d s c o n p r b1 b2 y y1 y2 hc hp0 hp1 ho0 ho1 HN1 HN2 w;refine h.mono fun e w' hh=>?_;obtain⟨v,h1,h2,h3⟩:=hh;refine⟨v,h1,?_,h3⟩
 cases b1<;>cases b2<;>simpa using h2
theorem zPg{d s:Nat}{c o n p:Int}{r:Bool}{y:Way}(hd:d<11)(hs:s<11)(hc:15<=c/\c<=24)(hp0:0<=p)(hp1:p<=1000)(ho0:0<=o)(ho1:o<=1000)(w:World):
  Calls tP 114 #[.agg (z03 p y),.agg #[A G c,A G d,A G s,.bool r,A G o,A G n]] w fun e w'=> ∃v,e= rT v/\z0f w' w.heap.size v ((y.askPlace c d o).map fun x=>(p+(1+x.1),x.2))/\Below w.heap.size w w':=by
 have h:=zSv d s c o n p r y hd hp0 hp1 ho0 ho1 (c==16) ((y.reg d).k !=5) rfl rfl w;refine h.mono fun e w' hh=>?_;obtain⟨v,h1,h2,h3⟩:=hh;refine⟨v,h1,?_,h3⟩;unfold Way.askPlace
 by_cases e16:c=16<;>by_cases e5:(y.reg d).k=5<;>simpa[e16,e5,z10]using h2
theorem zSx{d s:Nat}{c o n p:Int}{r:Bool}{y:Way}(hd:d<11)(hs:s<11)(hc:15<=c/\c<=24)(hp0:0<=p)(hp1:p<=1000)(ho0:0<=o)(ho1:o<=1000)(hy:y.Ok)(hn:In64 n)(w:World):
  Calls tP 88 #[.agg (z03 p y),.agg #[A G c,A G d,A G s,.bool r,A G o,A G n]] w fun e w'=> ∃v,e= rT (.tuple #[v,A G (y.ask c d s r o n).2])/\z0f w' w.heap.size v ((y.ask c d s r o n).1.map fun x=>(p+(1+x.1),x.2))/\Below w.heap.size w w':=by
 have HA:Hid (∀W:World,Calls tP 113 #[.agg (z03 p y),.agg #[A G c,A G d,A G s,.bool r,A G o,A G n]] W fun e w'=> ∃v,e= rT v/\z0f w' W.heap.size v ((y.askNumbers c d s r o n).map fun x=>(p+(1+x.1),x.2))/\Below W.heap.size W w'):=fun W=>zPh (r:=r) hd hs hc hp0 hp1 ho0 ho1 hy hn W;have HP:Hid (∀W:World,Calls tP 114 #[.agg (z03 p y),.agg #[A G c,A G d,A G s,.bool r,A G o,A G n]] W fun e w'=> ∃v,e= rT v/\z0f w' W.heap.size v ((y.askPlace c d o).map fun x=>(p+(1+x.1),x.2))/\Below W.heap.size W w'):=fun W=>zPg (r:=r) (n:=n) (y:=y) hd hs hc hp0 hp1 ho0 ho1 W;clear hy hn hc hp0 hp1 ho0 ho1;unfold Way.ask;rcases hv:y.second s r n with⟨bk,bl,bh⟩
 have HB:Hid (y.second s r n=⟨bk,bl,bh⟩):=hv;clear hv;dsimp only;rcases hX:(if(y.reg d).k=0\/bk=0 then(([]:List (Int×Way)),(8:Int))else if(y.reg d).k=1/\bk=1 then(y.askNumbers c d s r o n,0)else if(c≠15/\c≠16)\/r=true\/n≠0 then([],1)else(y.askPlace c d o,0))with⟨ls,E⟩
 have HX:Hid ((if(y.reg d).k=0\/bk=0 then(([]:List (Int×Way)),(8:Int))else if(y.reg d).k=1/\bk=1 then(y.askNumbers c d s r o n,0)else if(c≠15/\c≠16)\/r=true\/n≠0 then([],1)else(y.askPlace c d o,0))=(ls,E)):=hX;clear hX;dsimp only;have hK0:Blk w [(w.heap.size,cT (z03 p y) 190 (0,0)),(w.heap.size+1,cT #[A G c,A G d,A G s,.bool r,A G o,A G n] 121 (0,0))] _:=((Blk.nil (((bF _ _).alloc (Nat.le_refl _) _).alloc kS _)).cons (heap_alloc2_new w (cT (z03 p y) 190) (cT #[A G c,A G d,A G s,.bool r,A G o,A G n] 121))).cons ((z02.start w p y).alloc (cT #[A G c,A G d,A G s,.bool r,A G o,A G n] 121));have hd0:(0:Int)<=(d:Int):=kO;have hd1:(d:Int)<11:=kO;go_enter Tryz.func88,Tryz.ntmps88;go_wp2_with fail;refine z0o (C:=Blk w [(w.heap.size,cT (z03 p y) 190 (0,0)),(w.heap.size+1,cT #[A G c,A G d,A G s,.bool r,A G o,A G n] 121 (0,0))]) (n0:=w.heap.size+1+1) 7 [] [cT #[A G 0,A G 0,A G 0] 186 (0,0),cT #[A G 0,A G 0,A G 0] 186 (0,0)] kR kR (fun d _ _ _ _ h=>by cases d<;>exact h) (Blk.stable _ _) (Blk.room w (mcO _ mcS)) hK0.drew ⟨⟨rfl,fun a w2 hC=>by go_simp;try rfl⟩,⟨rfl,fun a w2 hC=>by go_simp;try rfl⟩,trivial⟩ ?_;simp only[lQ,lX,lY,lZ,List.length_cons,lJ,Nat.reduceAdd]
 repeat(first
  |(refine z0q kI ?_;simp only[pS])
  |(refine z0c kI (v:=?_) ?_ ?_;rotate_left;(intro w2 hC;have yW:z02 _ w.heap.size _ _:=(hC.2 _ mcS);have ylt:=yW.lt;obtain⟨i0,i1,i2⟩:=yW.reg hd;obtain⟨p0,p1,p2,p3,p4,p5,ltS⟩:=row6 (hC.2 _ (mcO _ mcS));go_simp;try with_reducible rfl);simp only[pS])
  |(refine z18 kI ?_;apply Exists.intro;refine⟨fun w2 hC=>?_,?_⟩;(have yW:z02 _ w.heap.size _ _:=(hC.2 _ mcS);have ylt:=yW.lt;obtain⟨i0,i1,i2⟩:=yW.reg hd;obtain⟨p0,p1,p2,p3,p4,p5,ltS⟩:=row6 (hC.2 _ (mcO _ mcS));go_simp;apply z1k;first|(go_at_call 112;exact(by have hq:=z39 w.heap.size s c d o n r p y hs w2 yW;rw[HB.out]at hq;unfold Kno.v at hq;exact hq)));simp only[pS]))
 refine z11 ?_;intro L h5 g5 K h6 g6 w3 hC hB3;have hne:K≠L:=(FB.upd_none h6).1;have hne':L≠K:=fun e=>hne e.symm;have bK:=hB3 K _ (FB.at_new _ _ _);have bL:=hB3 L _ (FB.at_old hne' (FB.at_new _ _ _));obtain⟨l0,l1,l2,lf0,lf1,lf2,llt⟩:=row3 bL;obtain⟨k0,k1,k2,kf0,kf1,kf2,klt⟩:=row3 bK;have yW:z02 _ w.heap.size _ _:=(hC.2 _ mcS);have ylt:=yW.lt;obtain⟨i0,i1,i2⟩:=yW.reg hd;obtain⟨p0,p1,p2,p3,p4,p5,ltS⟩:=row6 (hC.2 _ (mcO _ mcS));have hbw:=hC.1;have n1:w.heap.size+1≠L:=kO;have n2:w.heap.size≠L:=kO;have n3:w.heap.size+1≠K:=kO;have n4:w.heap.size≠K:=kO;simp only[z6y];go_upto_region 2 with fail
 have hK1:Blk w [(L,cT #[A G (y.reg d).k,A G (y.reg d).l,A G (y.reg d).h] 186 (0,0)),(K,cT #[A G bk,A G bl,A G bh] 186 (0,0)),(w.heap.size,cT (z03 p y) 190 (0,0)),(w.heap.size+1,cT #[A G c,A G d,A G s,.bool r,A G o,A G n] 121 (0,0))] (((((((w3.setCell ⟨L,0,none⟩ (A G (y.reg d).k)).setCell ⟨L,1,none⟩ (A G (y.reg d).l)).setCell ⟨L,2,none⟩ (A G (y.reg d).h))).setCell ⟨K,0,none⟩ (A G bk)).setCell ⟨K,1,none⟩ (A G bl)).setCell ⟨K,2,none⟩ (A G bh)):=((((Blk.nil kW).cons (off3 (off3 (hC.2 _ (mcO _ mcS)) n1) n3)).cons (off3 (off3 (hC.2 _ mcS) n2) n4)).cons (put3 (off3 bK hne))).cons (off3 (put3 bL) hne');clear l0 l1 l2 lf0 lf1 lf2 llt k0 k1 k2 kf0 kf1 kf2 klt p0 p1 p2 p3 p4 p5 ltS yW ylt i0 i1 i2;clear hbw bL bK hB3 hC hK0 n1 n2 n3 n4 HB;generalize (((((((w3.setCell ⟨L,0,none⟩ (A G (y.reg d).k)).setCell ⟨L,1,none⟩ (A G (y.reg d).l)).setCell ⟨L,2,none⟩ (A G (y.reg d).h))).setCell ⟨K,0,none⟩ (A G bk)).setCell ⟨K,1,none⟩ (A G bl)).setCell ⟨K,2,none⟩ (A G bh))=w4 at hK1⊢;obtain⟨l0,l1,l2,lf0,lf1,lf2,llt⟩:=row3 (hK1.2 _ mcS);obtain⟨k0,k1,k2,kf0,kf1,kf2,klt⟩:=row3 (hK1.2 _ (mcO _ mcS));have yW:z02 _ w.heap.size _ _:=(hK1.2 _ (mcO _ (mcO _ mcS)));have ylt:=yW.lt;obtain⟨p0,p1,p2,p3,p4,p5,ltS⟩:=row6 (hK1.2 _ (mcO _ (mcO _ (mcO _ mcS))));have eX:=HX.out;clear HX
 by_cases h1:(y.reg d).k=0
 ·have x1:((y.reg d).k==0)=true:=by simp[h1]
  rw[if_pos (Or.inl h1)]at eX
  cases eX;clear h1;go_wp2_with fail;exact bodyPost_ret (v:= .tuple #[.slice none 0 0,A G 8]) (by simp[results,Tryz.results88,go_sem]) rfl ⟨_,rfl,z0f.nil _ _,hK1.1⟩
 by_cases h2:bk=0
 ·have x1:((y.reg d).k==0)=false:=by simp[h1]
  have x2:(bk==0)=true:=by simp[h2]
  rw[if_pos (Or.inr h2)]at eX
  cases eX;clear h1 h2;go_wp2_with fail;exact bodyPost_ret (v:= .tuple #[.slice none 0 0,A G 8]) (by simp[results,Tryz.results88,go_sem]) rfl ⟨_,rfl,z0f.nil _ _,hK1.1⟩
 rw[if_neg (fun e=>e.elim h1 h2)]at eX;have x1:((y.reg d).k==0)=false:=by simp[h1]
 have x2:(bk==0)=false:=by simp[h2]
 clear h1 h2
 by_cases h34:(y.reg d).k=1/\bk=1
 ·rw[if_pos h34]at eX
  cases eX;have x3:((y.reg d).k==1)=true:=by simp[h34.1]
  have x4:(bk==1)=true:=by simp[h34.2]
  clear h34;go_upto_region 5 with fail
  go_step
  (refine wpList_load_row rfl 190 (.tmp 2) rfl w.heap.size rfl 190 (z03 p y) (0,0) _ yW Tryz.underlying190 rfl (z0n _ _) ?_)
  simp only[pS]
  (refine z00 rfl (.agg #[A G c,A G d,A G s,.bool r,A G o,A G n]) w4 kG ?_);simp only[pS]
  refine z0w rfl 113 #[.agg (z03 p y),.agg #[A G c,A G d,A G s,.bool r,A G o,A G n]] kG (HA.out w4) ?_;intro v5 w5 hq;obtain⟨hA5,hB5⟩:=hq;have hK5:=hK1.later hB5;have hs5:=hK1.1.size;simp only[pS];clear hK1 l0 l1 l2 lf0 lf1 lf2 llt k0 k1 k2 kf0 kf1 kf2 klt p0 p1 p2 p3 p4 p5 ltS yW ylt;go_wp2_with fail;exact bodyPost_ret (v:= .tuple #[v5,A G 0]) (by simp[results,Tryz.results88,go_sem]) rfl ⟨_,rfl,hA5.mono hs5,hK5.1⟩
 rw[if_neg h34]at eX
 by_cases h3:(y.reg d).k=1
 ·have x3:((y.reg d).k==1)=true:=by simp[h3]
  have x4:(bk==1)=false:=by simp;exact fun e=>h34 ⟨h3,e⟩
  clear h3 h34
  by_cases h5:c=15
  ·have x5:(c !=15)=false:=by simp[h5]
   cases r
   ·by_cases h7:n=0
    ·have x7:(n !=0)=false:=by simp[h7]
     rw[if_neg (by simp[h5,h7])]at eX
     cases eX;clear h7 h5;go_upto_region 8 with fail
     go_step
     (refine wpList_load_row rfl 190 (.tmp 2) rfl w.heap.size rfl 190 (z03 p y) (0,0) _ yW Tryz.underlying190 rfl (z0n _ _) ?_)
     simp only[pS]
     (refine z00 rfl (.agg #[A G c,A G d,A G s,.bool false,A G o,A G n]) w4 kG ?_);simp only[pS]
     refine z0w rfl 114 #[.agg (z03 p y),.agg #[A G c,A G d,A G s,.bool false,A G o,A G n]] kG (HP.out w4) ?_;intro v5 w5 hq;obtain⟨hA5,hB5⟩:=hq;have hK5:=hK1.later hB5;have hs5:=hK1.1.size;simp only[pS];clear hK1 l0 l1 l2 lf0 lf1 lf2 llt k0 k1 k2 kf0 kf1 kf2 klt p0 p1 p2 p3 p4 p5 ltS yW ylt;go_wp2_with fail;exact bodyPost_ret (v:= .tuple #[v5,A G 0]) (by simp[results,Tryz.results88,go_sem]) rfl ⟨_,rfl,hA5.mono hs5,hK5.1⟩
    ·have x7:(n !=0)=true:=by simp[h7]
     rw[if_pos (Or.inr (Or.inr h7))]at eX
     cases eX;clear h7 h5;go_wp2_with fail;exact bodyPost_ret (v:= .tuple #[.slice none 0 0,A G 1]) (by simp[results,Tryz.results88,go_sem]) rfl ⟨_,rfl,z0f.nil _ _,hK1.1⟩
   ·rw[if_pos (Or.inr (Or.inl rfl))]at eX
    cases eX;clear h5;go_wp2_with fail;exact bodyPost_ret (v:= .tuple #[.slice none 0 0,A G 1]) (by simp[results,Tryz.results88,go_sem]) rfl ⟨_,rfl,z0f.nil _ _,hK1.1⟩
  have x5:(c !=15)=true:=by simp[h5]
  by_cases h6:c=16
  ·have x6:(c !=16)=false:=by simp[h6]
   cases r
   ·by_cases h7:n=0
    ·have x7:(n !=0)=false:=by simp[h7]
     rw[if_neg (by simp[h6,h7])]at eX
     cases eX;clear h7 h6;go_upto_region 8 with fail
     go_step
     (refine wpList_load_row rfl 190 (.tmp 2) rfl w.heap.size rfl 190 (z03 p y) (0,0) _ yW Tryz.underlying190 rfl (z0n _ _) ?_)
     simp only[pS]
     (refine z00 rfl (.agg #[A G c,A G d,A G s,.bool false,A G o,A G n]) w4 kG ?_);simp only[pS]
     refine z0w rfl 114 #[.agg (z03 p y),.agg #[A G c,A G d,A G s,.bool false,A G o,A G n]] kG (HP.out w4) ?_;intro v5 w5 hq;obtain⟨hA5,hB5⟩:=hq;have hK5:=hK1.later hB5;have hs5:=hK1.1.size;simp only[pS];clear hK1 l0 l1 l2 lf0 lf1 lf2 llt k0 k1 k2 kf0 kf1 kf2 klt p0 p1 p2 p3 p4 p5 ltS yW ylt;go_wp2_with fail;exact bodyPost_ret (v:= .tuple #[v5,A G 0]) (by simp[results,Tryz.results88,go_sem]) rfl ⟨_,rfl,hA5.mono hs5,hK5.1⟩
    ·have x7:(n !=0)=true:=by simp[h7]
     rw[if_pos (Or.inr (Or.inr h7))]at eX
     cases eX;clear h7 h6;go_wp2_with fail;exact bodyPost_ret (v:= .tuple #[.slice none 0 0,A G 1]) (by simp[results,Tryz.results88,go_sem]) rfl ⟨_,rfl,z0f.nil _ _,hK1.1⟩
   ·rw[if_pos (Or.inr (Or.inl rfl))]at eX
    cases eX;clear h6;go_wp2_with fail;exact bodyPost_ret (v:= .tuple #[.slice none 0 0,A G 1]) (by simp[results,Tryz.results88,go_sem]) rfl ⟨_,rfl,z0f.nil _ _,hK1.1⟩
  have x6:(c !=16)=true:=by simp[h6]
  rw[if_pos (Or.inl ⟨h5,h6⟩)]at eX
  cases eX;clear h5 h6;go_wp2_with fail;exact bodyPost_ret (v:= .tuple #[.slice none 0 0,A G 1]) (by simp[results,Tryz.results88,go_sem]) rfl ⟨_,rfl,z0f.nil _ _,hK1.1⟩
 have x3:((y.reg d).k==1)=false:=by simp[h3]
 clear h3 h34
 by_cases h5:c=15
 ·have x5:(c !=15)=false:=by simp[h5]
  cases r
  ·by_cases h7:n=0
   ·have x7:(n !=0)=false:=by simp[h7]
    rw[if_neg (by simp[h5,h7])]at eX
    cases eX;clear h7 h5;go_upto_region 8 with fail
    go_step
    (refine wpList_load_row rfl 190 (.tmp 2) rfl w.heap.size rfl 190 (z03 p y) (0,0) _ yW Tryz.underlying190 rfl (z0n _ _) ?_)
    simp only[pS]
    (refine z00 rfl (.agg #[A G c,A G d,A G s,.bool false,A G o,A G n]) w4 kG ?_);simp only[pS]
    refine z0w rfl 114 #[.agg (z03 p y),.agg #[A G c,A G d,A G s,.bool false,A G o,A G n]] kG (HP.out w4) ?_;intro v5 w5 hq;obtain⟨hA5,hB5⟩:=hq;have hK5:=hK1.later hB5;have hs5:=hK1.1.size;simp only[pS];clear hK1 l0 l1 l2 lf0 lf1 lf2 llt k0 k1 k2 kf0 kf1 kf2 klt p0 p1 p2 p3 p4 p5 ltS yW ylt;go_wp2_with fail;exact bodyPost_ret (v:= .tuple #[v5,A G 0]) (by simp[results,Tryz.results88,go_sem]) rfl ⟨_,rfl,hA5.mono hs5,hK5.1⟩
   ·have x7:(n !=0)=true:=by simp[h7]
    rw[if_pos (Or.inr (Or.inr h7))]at eX
    cases eX;clear h7 h5;go_wp2_with fail;exact bodyPost_ret (v:= .tuple #[.slice none 0 0,A G 1]) (by simp[results,Tryz.results88,go_sem]) rfl ⟨_,rfl,z0f.nil _ _,hK1.1⟩
  ·rw[if_pos (Or.inr (Or.inl rfl))]at eX
   cases eX;clear h5;go_wp2_with fail;exact bodyPost_ret (v:= .tuple #[.slice none 0 0,A G 1]) (by simp[results,Tryz.results88,go_sem]) rfl ⟨_,rfl,z0f.nil _ _,hK1.1⟩
 have x5:(c !=15)=true:=by simp[h5]
 by_cases h6:c=16
 ·have x6:(c !=16)=false:=by simp[h6]
  cases r
  ·by_cases h7:n=0
   ·have x7:(n !=0)=false:=by simp[h7]
    rw[if_neg (by simp[h6,h7])]at eX
    cases eX;clear h7 h6;go_upto_region 8 with fail
    go_step
    (refine wpList_load_row rfl 190 (.tmp 2) rfl w.heap.size rfl 190 (z03 p y) (0,0) _ yW Tryz.underlying190 rfl (z0n _ _) ?_)
    simp only[pS]
    (refine z00 rfl (.agg #[A G c,A G d,A G s,.bool false,A G o,A G n]) w4 kG ?_);simp only[pS]
    refine z0w rfl 114 #[.agg (z03 p y),.agg #[A G c,A G d,A G s,.bool false,A G o,A G n]] kG (HP.out w4) ?_;intro v5 w5 hq;obtain⟨hA5,hB5⟩:=hq;have hK5:=hK1.later hB5;have hs5:=hK1.1.size;simp only[pS];clear hK1 l0 l1 l2 lf0 lf1 lf2 llt k0 k1 k2 kf0 kf1 kf2 klt p0 p1 p2 p3 p4 p5 ltS yW ylt;go_wp2_with fail;exact bodyPost_ret (v:= .tuple #[v5,A G 0]) (by simp[results,Tryz.results88,go_sem]) rfl ⟨_,rfl,hA5.mono hs5,hK5.1⟩
   ·have x7:(n !=0)=true:=by simp[h7]
    rw[if_pos (Or.inr (Or.inr h7))]at eX
    cases eX;clear h7 h6;go_wp2_with fail;exact bodyPost_ret (v:= .tuple #[.slice none 0 0,A G 1]) (by simp[results,Tryz.results88,go_sem]) rfl ⟨_,rfl,z0f.nil _ _,hK1.1⟩
  ·rw[if_pos (Or.inr (Or.inl rfl))]at eX
   cases eX;clear h6;go_wp2_with fail;exact bodyPost_ret (v:= .tuple #[.slice none 0 0,A G 1]) (by simp[results,Tryz.results88,go_sem]) rfl ⟨_,rfl,z0f.nil _ _,hK1.1⟩
 have x6:(c !=16)=true:=by simp[h6]
 rw[if_pos (Or.inl ⟨h5,h6⟩)]at eX
 cases eX;clear h5 h6;go_wp2_with fail;exact bodyPost_ret (v:= .tuple #[.slice none 0 0,A G 1]) (by simp[results,Tryz.results88,go_sem]) rfl ⟨_,rfl,z0f.nil _ _,hK1.1⟩
end
section
attribute [local simp] z0p z0j z04
theorem zP4(d s:Nat)(c o n p:Int)(r:Bool)(y:Way)(l:List (Int×Way))(E:Int)(HL:Hid (∀W:World,Calls tP 88 #[.agg (z03 p y),.agg #[A G c,A G d,A G s,.bool r,A G o,A G n]] W fun e w'=> ∃v,e= rT (.tuple #[v,A G E])/\z0f w' W.heap.size v l/\Below W.heap.size W w'))(HQ:Hid ((decide (15<=c)&&decide (c<=24))=true))(w:World):
  Calls tP 64 #[.agg (z03 p y),.agg #[A G c,A G d,A G s,.bool r,A G o,A G n]] w fun e w'=> ∃v,e= rT (.tuple #[v,A G E])/\z0f w' w.heap.size v l/\Below w.heap.size w w':=by
 have hK0:Blk w [(w.heap.size,cT (z03 p y) 190 (0,0)),(w.heap.size+1,cT #[A G c,A G d,A G s,.bool r,A G o,A G n] 121 (0,0))] _:=((Blk.nil (((bF _ _).alloc (Nat.le_refl _) _).alloc kS _)).cons (heap_alloc2_new w (cT (z03 p y) 190) (cT #[A G c,A G d,A G s,.bool r,A G o,A G n] 121))).cons ((z02.start w p y).alloc (cT #[A G c,A G d,A G s,.bool r,A G o,A G n] 121));go_enter Tryz.func64,Tryz.ntmps64;go_upto_region 1 with fail
 generalize ((w.alloc (cT (z03 p y) 190)).alloc (cT #[A G c,A G d,A G s,.bool r,A G o,A G n] 121))=w1 at hK0⊢;have yW:z02 _ w.heap.size _ _:=(hK0.2 _ mcS);have ylt:=yW.lt;obtain⟨p0,p1,p2,p3,p4,p5,ltS⟩:=row6 (hK0.2 _ (mcO _ mcS));go_upto_region 4 with(first|(go_at_call 87;refine(z2y c _).mono ?_;rintro e w1 ⟨rfl,rfl⟩;rw[HQ.out])|fail)
 go_step
 (refine wpList_load_row rfl 190 (.tmp 2) rfl w.heap.size rfl 190 (z03 p y) (0,0) _ yW Tryz.underlying190 rfl (z0n _ _) ?_)
 simp only[pS]
 (refine z00 rfl (.agg #[A G c,A G d,A G s,.bool r,A G o,A G n]) w1 kG ?_);simp only[pS]
 refine z0w rfl 88 #[.agg (z03 p y),.agg #[A G c,A G d,A G s,.bool r,A G o,A G n]] kG (R:=fun x w'=> ∃v,x= .tuple #[v,A G E]/\z0f w' w1.heap.size v l/\Below w1.heap.size w1 w') ((HL.out w1).mono fun e w' h=>by obtain⟨v,h1,h2⟩:=h;exact⟨_,h1,v,rfl,h2⟩) ?_;intro v5 w5 hq;obtain⟨v,rfl,hA5,hB5⟩:=hq;have hK5:=hK0.later hB5;have hs5:=hK0.1.size;simp only[pS];clear yW ylt p0 p1 p2 p3 p4 p5 ltS;clear hK0;go_wp2_with fail;exact bodyPost_ret (v:= .tuple #[v,A G E]) (by simp[results,Tryz.results64,go_sem]) rfl ⟨_,rfl,hA5.mono hs5,hK5.1⟩
theorem zM8(d s:Nat)(c o n p:Int)(r:Bool)(y:Way)(hp0:0<=p)(hp1:p<=1000)(ho0:0<=o)(ho1:o<=1000)(HQ:Hid ((decide (15<=c)&&decide (c<=24))=false))(x14:(c==14)=true)(w:World):
  Calls tP 64 #[.agg (z03 p y),.agg #[A G c,A G d,A G s,.bool r,A G o,A G n]] w fun e w'=> ∃v,e= rT (.tuple #[v,A G 0])/\z0f w' w.heap.size v [((p+(1+o)),y)]/\Below w.heap.size w w':=by
 have hK0:Blk w [(w.heap.size,cT (z03 p y) 190 (0,0)),(w.heap.size+1,cT #[A G c,A G d,A G s,.bool r,A G o,A G n] 121 (0,0))] _:=((Blk.nil (((bF _ _).alloc (Nat.le_refl _) _).alloc kS _)).cons (heap_alloc2_new w (cT (z03 p y) 190) (cT #[A G c,A G d,A G s,.bool r,A G o,A G n] 121))).cons ((z02.start w p y).alloc (cT #[A G c,A G d,A G s,.bool r,A G o,A G n] 121));go_enter Tryz.func64,Tryz.ntmps64;go_upto_region 1 with fail
 generalize ((w.alloc (cT (z03 p y) 190)).alloc (cT #[A G c,A G d,A G s,.bool r,A G o,A G n] 121))=w1 at hK0⊢;have yW:z02 _ w.heap.size _ _:=(hK0.2 _ mcS);have ylt:=yW.lt;obtain⟨p0,p1,p2,p3,p4,p5,ltS⟩:=row6 (hK0.2 _ (mcO _ mcS));go_upto_region 6 with(first|(go_at_call 87;refine(z2y c _).mono ?_;rintro e w1 ⟨rfl,rfl⟩;rw[HQ.out])|fail)
 go_step
 (refine wpList_load_row rfl 190 (.tmp 2) rfl w.heap.size rfl 190 (z03 p y) (0,0) _ yW Tryz.underlying190 rfl (z0n _ _) ?_)
 simp only[pS]
 (refine z00 rfl (pT (some ⟨w.heap.size+1,4,none⟩)) w1 kG ?_);simp only[pS]
 (refine z00 rfl (A G o) w1 kG ?_);simp only[pS]
 (refine z0m rfl 89 #[.agg (z03 p y),A G o] kG (.agg (z03 (p+(1+o)) y)) (zGe p o y hp0 hp1 ho0 ho1 w1) ?_)
 intro w5 hB5;have hK5:=hK0.later hB5;simp only[pS];refine z1m rfl (.tmp 25) (p+(1+o)) y rfl rfl ?_;simp only[pS];clear yW ylt p0 p1 p2 p3 p4 p5 ltS;have hbE:=hK5.1;have hm:=z0f.made w5 w.heap.size [((p+(1+o)),y)] hbE.size (by unfold maxLen;simp);go_wp2_with fail;exact bodyPost_ret (v:= .tuple #[_,A G 0]) (by simp[results,Tryz.results64,go_sem]) rfl ⟨_,rfl,hm,hbE.alloc hbE.size _⟩
theorem zM9(d s:Nat)(c o n p:Int)(r:Bool)(y:Way)(HQ:Hid ((decide (15<=c)&&decide (c<=24))=false))(x14:(c==14)=false)(x28:(c==28)=true)(w:World):
  zR 64 #[.agg (z03 p y),.agg #[A G c,A G d,A G s,.bool r,A G o,A G n]] w (.tuple #[.slice none 0 0,A G (z0s (y.reg 0))]):=by
 have hK0:Blk w [(w.heap.size,cT (z03 p y) 190 (0,0)),(w.heap.size+1,cT #[A G c,A G d,A G s,.bool r,A G o,A G n] 121 (0,0))] _:=((Blk.nil (((bF _ _).alloc (Nat.le_refl _) _).alloc kS _)).cons (heap_alloc2_new w (cT (z03 p y) 190) (cT #[A G c,A G d,A G s,.bool r,A G o,A G n] 121))).cons ((z02.start w p y).alloc (cT #[A G c,A G d,A G s,.bool r,A G o,A G n] 121));go_enter Tryz.func64,Tryz.ntmps64;go_upto_region 1 with fail
 generalize ((w.alloc (cT (z03 p y) 190)).alloc (cT #[A G c,A G d,A G s,.bool r,A G o,A G n] 121))=w1 at hK0⊢;have yW:z02 _ w.heap.size _ _:=(hK0.2 _ mcS);have ylt:=yW.lt;obtain⟨p0,p1,p2,p3,p4,p5,ltS⟩:=row6 (hK0.2 _ (mcO _ mcS));go_upto_region 8 with(first|(go_at_call 87;refine(z2y c _).mono ?_;rintro e w1 ⟨rfl,rfl⟩;rw[HQ.out])|fail)
 go_step;obtain⟨i0,i1,i2⟩:=yW.reg (d:=0) kD
 (refine z00 rfl (pT (some ⟨w.heap.size,1,none⟩)) w1 kG ?_);simp only[pS]
 (refine z00 rfl (pT (some ⟨w.heap.size,1+0*3,none⟩)) w1 kG ?_);simp only[pS]
 (refine z00 rfl (.agg #[A G (y.reg 0).k,A G (y.reg 0).l,A G (y.reg 0).h]) w1 kG ?_);simp only[pS]
 (refine z0m rfl 90 #[.agg #[A G (y.reg 0).k,A G (y.reg 0).l,A G (y.reg 0).h]] kG (A G (z0s (y.reg 0))) (z3j _ _ _ w1) ?_)
 intro w5 hB5;have hK5:=hK0.later hB5;simp only[pS];clear yW ylt p0 p1 p2 p3 p4 p5 ltS i0 i1 i2;go_wp2_with fail;exact bodyPost_ret (v:= .tuple #[.slice none 0 0,A G (z0s (y.reg 0))]) (by simp[results,Tryz.results64,go_sem]) rfl ⟨rfl,hK5.1⟩
theorem zD8(d s:Nat)(c o n p:Int)(r:Bool)(y:Way)(hp0:0<=p)(hp1:p<=1000)(E:Int)(y1:Way)(HM:Hid (∀(W:World)(B:Nat),z02 W B p y->Calls tP 91 #[pT (some ⟨B,0,none⟩),.agg #[A G c,A G d,A G s,.bool r,A G o,A G n]] W fun e w'=>e= rT (A G E)/\Kept B W w'/\z02 w' B p y1)):(∀(xE:(E !=0)=false)(HQ:Hid ((decide (15<=c)&&decide (c<=24))=false))(x14:(c==14)=false)(x28:(c==28)=false)(x25:(c==25)=true)(w:World),Calls tP 64 #[.agg (z03 p y),.agg #[A G c,A G d,A G s,.bool r,A G o,A G n]] w fun e w'=> ∃v,e= rT (.tuple #[v,A G 0])/\z0f w' w.heap.size v [((p+1),y1)]/\Below w.heap.size w w')/\(∀(xE:(E !=0)=true)(HQ:Hid ((decide (15<=c)&&decide (c<=24))=false))(x14:(c==14)=false)(x28:(c==28)=false)(x25:(c==25)=true)(w:World),zR 64 #[.agg (z03 p y),.agg #[A G c,A G d,A G s,.bool r,A G o,A G n]] w (.tuple #[.slice none 0 0,A G E])):=by
 refine⟨?_,?_⟩
 all_goals
  intro xE HQ x14 x28 x25 w;have hK0:Blk w [(w.heap.size,cT (z03 p y) 190 (0,0)),(w.heap.size+1,cT #[A G c,A G d,A G s,.bool r,A G o,A G n] 121 (0,0))] _:=((Blk.nil (((bF _ _).alloc (Nat.le_refl _) _).alloc kS _)).cons (heap_alloc2_new w (cT (z03 p y) 190) (cT #[A G c,A G d,A G s,.bool r,A G o,A G n] 121))).cons ((z02.start w p y).alloc (cT #[A G c,A G d,A G s,.bool r,A G o,A G n] 121))
 all_goals
  go_enter Tryz.func64,Tryz.ntmps64;go_upto_region 1 with fail
  generalize ((w.alloc (cT (z03 p y) 190)).alloc (cT #[A G c,A G d,A G s,.bool r,A G o,A G n] 121))=w1 at hK0⊢;have yW:z02 _ w.heap.size _ _:=(hK0.2 _ mcS);have ylt:=yW.lt;obtain⟨p0,p1,p2,p3,p4,p5,ltS⟩:=row6 (hK0.2 _ (mcO _ mcS));go_upto_region 10 with(first|(go_at_call 87;refine(z2y c _).mono ?_;rintro e w1 ⟨rfl,rfl⟩;rw[HQ.out])|fail)
  go_step
  (refine z00 rfl (.agg #[A G c,A G d,A G s,.bool r,A G o,A G n]) w1 kG ?_);simp only[pS]
  (refine z0m rfl 91 #[pT (some ⟨w.heap.size,0,none⟩),.agg #[A G c,A G d,A G s,.bool r,A G o,A G n]] kG (A G E) (HM.out w1 w.heap.size yW) ?_)
  intro w5 hq;obtain⟨hk5,hW5⟩:=hq;have hK5:=(Blk.more (F':=[]) hK0 kS).grown (b:=w.heap.size) hk5 (fun k e=>Nat.le_of_eq (Option.some.inj e)) (Nat.le_refl _) kS;clear yW ylt p0 p1 p2 p3 p4 p5 ltS;clear hk5 hK0;simp only[pS]
 ·go_upto_region 17 with fail
  go_step
  (refine wpList_load_row rfl 190 (.tmp 2) rfl w.heap.size rfl 190 (z03 p y1) (0,0) _ hW5 Tryz.underlying190 rfl (z0n _ _) ?_)
  simp only[pS]
  (refine z0m rfl 89 #[.agg (z03 p y1),A G 0] kG (.agg (z03 (p+1) y1)) (z8q p y1 hp0 hp1 w5) ?_)
  intro w6 hB6;have hK6:=hK5.later hB6;simp only[pS];refine z1m rfl (.tmp 58) (p+1) y1 rfl rfl ?_;simp only[pS];have hbE:=hK6.1;have hm:=z0f.made w6 w.heap.size [((p+1),y1)] hbE.size (by unfold maxLen;simp);go_wp2_with fail;exact bodyPost_ret (v:= .tuple #[_,A G 0]) (by simp[results,Tryz.results64,go_sem]) rfl ⟨_,rfl,hm,hbE.alloc hbE.size _⟩
 ·go_wp2_with fail
  exact bodyPost_ret (v:= .tuple #[.slice none 0 0,A G E]) (by simp[results,Tryz.results64,go_sem]) rfl ⟨rfl,hK5.1⟩
def zM7:=fun d s c o n p r y hp0 hp1 E y1 HM=>(@zD8 d s c o n p r y hp0 hp1 E y1 HM).1
def zDo:=fun d s c o n p r y hp0 hp1 E y1 HM=>(@zD8 d s c o n p r y hp0 hp1 E y1 HM).2
theorem zD7(d s:Nat)(c o n p:Int)(r:Bool)(y:Way)(hp0:0<=p)(hp1:p<=1000)(E:Int)(y1:Way)(HM:Hid (∀(W:World)(B:Nat),z02 W B p y->Calls tP 92 #[pT (some ⟨B,0,none⟩),.agg #[A G c,A G d,A G s,.bool r,A G o,A G n]] W fun e w'=>e= rT (A G E)/\Kept B W w'/\z02 w' B p y1)):(∀(xE:(E !=0)=false)(HQ:Hid ((decide (15<=c)&&decide (c<=24))=false))(x14:(c==14)=false)(x28:(c==28)=false)(x25:(c==25)=false)(x26:(c==26)=true)(w:World),Calls tP 64 #[.agg (z03 p y),.agg #[A G c,A G d,A G s,.bool r,A G o,A G n]] w fun e w'=> ∃v,e= rT (.tuple #[v,A G 0])/\z0f w' w.heap.size v [((p+1),y1)]/\Below w.heap.size w w')/\(∀(xE:(E !=0)=true)(HQ:Hid ((decide (15<=c)&&decide (c<=24))=false))(x14:(c==14)=false)(x28:(c==28)=false)(x25:(c==25)=false)(x26:(c==26)=true)(w:World),zR 64 #[.agg (z03 p y),.agg #[A G c,A G d,A G s,.bool r,A G o,A G n]] w (.tuple #[.slice none 0 0,A G E])):=by
 refine⟨?_,?_⟩
 all_goals
  intro xE HQ x14 x28 x25 x26 w;have hK0:Blk w [(w.heap.size,cT (z03 p y) 190 (0,0)),(w.heap.size+1,cT #[A G c,A G d,A G s,.bool r,A G o,A G n] 121 (0,0))] _:=((Blk.nil (((bF _ _).alloc (Nat.le_refl _) _).alloc kS _)).cons (heap_alloc2_new w (cT (z03 p y) 190) (cT #[A G c,A G d,A G s,.bool r,A G o,A G n] 121))).cons ((z02.start w p y).alloc (cT #[A G c,A G d,A G s,.bool r,A G o,A G n] 121))
 all_goals
  go_enter Tryz.func64,Tryz.ntmps64;go_upto_region 1 with fail
  generalize ((w.alloc (cT (z03 p y) 190)).alloc (cT #[A G c,A G d,A G s,.bool r,A G o,A G n] 121))=w1 at hK0⊢;have yW:z02 _ w.heap.size _ _:=(hK0.2 _ mcS);have ylt:=yW.lt;obtain⟨p0,p1,p2,p3,p4,p5,ltS⟩:=row6 (hK0.2 _ (mcO _ mcS));go_upto_region 12 with(first|(go_at_call 87;refine(z2y c _).mono ?_;rintro e w1 ⟨rfl,rfl⟩;rw[HQ.out])|fail)
  go_step
  (refine z00 rfl (.agg #[A G c,A G d,A G s,.bool r,A G o,A G n]) w1 kG ?_);simp only[pS]
  (refine z0m rfl 92 #[pT (some ⟨w.heap.size,0,none⟩),.agg #[A G c,A G d,A G s,.bool r,A G o,A G n]] kG (A G E) (HM.out w1 w.heap.size yW) ?_)
  intro w5 hq;obtain⟨hk5,hW5⟩:=hq;have hK5:=(Blk.more (F':=[]) hK0 kS).grown (b:=w.heap.size) hk5 (fun k e=>Nat.le_of_eq (Option.some.inj e)) (Nat.le_refl _) kS;clear yW ylt p0 p1 p2 p3 p4 p5 ltS;clear hk5 hK0;simp only[pS]
 ·go_upto_region 17 with fail
  go_step
  (refine wpList_load_row rfl 190 (.tmp 2) rfl w.heap.size rfl 190 (z03 p y1) (0,0) _ hW5 Tryz.underlying190 rfl (z0n _ _) ?_)
  simp only[pS]
  (refine z0m rfl 89 #[.agg (z03 p y1),A G 0] kG (.agg (z03 (p+1) y1)) (z8q p y1 hp0 hp1 w5) ?_)
  intro w6 hB6;have hK6:=hK5.later hB6;simp only[pS];refine z1m rfl (.tmp 58) (p+1) y1 rfl rfl ?_;simp only[pS];have hbE:=hK6.1;have hm:=z0f.made w6 w.heap.size [((p+1),y1)] hbE.size (by unfold maxLen;simp);go_wp2_with fail;exact bodyPost_ret (v:= .tuple #[_,A G 0]) (by simp[results,Tryz.results64,go_sem]) rfl ⟨_,rfl,hm,hbE.alloc hbE.size _⟩
 ·go_wp2_with fail
  exact bodyPost_ret (v:= .tuple #[.slice none 0 0,A G E]) (by simp[results,Tryz.results64,go_sem]) rfl ⟨rfl,hK5.1⟩
def zHx:=fun d s c o n p r y hp0 hp1 E y1 HM=>(@zD7 d s c o n p r y hp0 hp1 E y1 HM).1
def zBq:=fun d s c o n p r y hp0 hp1 E y1 HM=>(@zD7 d s c o n p r y hp0 hp1 E y1 HM).2
theorem zD5(d s:Nat)(c o n p:Int)(r:Bool)(y:Way)(hp0:0<=p)(hp1:p<=1000)(E:Int)(y1:Way)(HM:Hid (∀(W:World)(B:Nat),z02 W B p y->Calls tP 93 #[pT (some ⟨B,0,none⟩),A G n] W fun e w'=>e= rT (A G E)/\Kept B W w'/\z02 w' B p y1)):(∀(xE:(E !=0)=false)(HQ:Hid ((decide (15<=c)&&decide (c<=24))=false))(x14:(c==14)=false)(x28:(c==28)=false)(x25:(c==25)=false)(x26:(c==26)=false)(x27:(c==27)=true)(w:World),Calls tP 64 #[.agg (z03 p y),.agg #[A G c,A G d,A G s,.bool r,A G o,A G n]] w fun e w'=> ∃v,e= rT (.tuple #[v,A G 0])/\z0f w' w.heap.size v [((p+1),y1)]/\Below w.heap.size w w')/\(∀(xE:(E !=0)=true)(HQ:Hid ((decide (15<=c)&&decide (c<=24))=false))(x14:(c==14)=false)(x28:(c==28)=false)(x25:(c==25)=false)(x26:(c==26)=false)(x27:(c==27)=true)(w:World),zR 64 #[.agg (z03 p y),.agg #[A G c,A G d,A G s,.bool r,A G o,A G n]] w (.tuple #[.slice none 0 0,A G E])):=by
 refine⟨?_,?_⟩
 all_goals
  intro xE HQ x14 x28 x25 x26 x27 w;have hK0:Blk w [(w.heap.size,cT (z03 p y) 190 (0,0)),(w.heap.size+1,cT #[A G c,A G d,A G s,.bool r,A G o,A G n] 121 (0,0))] _:=((Blk.nil (((bF _ _).alloc (Nat.le_refl _) _).alloc kS _)).cons (heap_alloc2_new w (cT (z03 p y) 190) (cT #[A G c,A G d,A G s,.bool r,A G o,A G n] 121))).cons ((z02.start w p y).alloc (cT #[A G c,A G d,A G s,.bool r,A G o,A G n] 121))
 all_goals
  go_enter Tryz.func64,Tryz.ntmps64;go_upto_region 1 with fail
  generalize ((w.alloc (cT (z03 p y) 190)).alloc (cT #[A G c,A G d,A G s,.bool r,A G o,A G n] 121))=w1 at hK0⊢;have yW:z02 _ w.heap.size _ _:=(hK0.2 _ mcS);have ylt:=yW.lt;obtain⟨p0,p1,p2,p3,p4,p5,ltS⟩:=row6 (hK0.2 _ (mcO _ mcS));go_upto_region 14 with(first|(go_at_call 87;refine(z2y c _).mono ?_;rintro e w1 ⟨rfl,rfl⟩;rw[HQ.out])|fail)
  go_step
  (refine z00 rfl (pT (some ⟨w.heap.size+1,5,none⟩)) w1 kG ?_);simp only[pS]
  (refine z00 rfl (A G n) w1 kG ?_);simp only[pS]
  (refine z0m rfl 93 #[pT (some ⟨w.heap.size,0,none⟩),A G n] kG (A G E) (HM.out w1 w.heap.size yW) ?_)
  intro w5 hq;obtain⟨hk5,hW5⟩:=hq;have hK5:=(Blk.more (F':=[]) hK0 kS).grown (b:=w.heap.size) hk5 (fun k e=>Nat.le_of_eq (Option.some.inj e)) (Nat.le_refl _) kS;clear yW ylt p0 p1 p2 p3 p4 p5 ltS;clear hk5 hK0;simp only[pS]
 ·go_upto_region 17 with fail
  go_step
  (refine wpList_load_row rfl 190 (.tmp 2) rfl w.heap.size rfl 190 (z03 p y1) (0,0) _ hW5 Tryz.underlying190 rfl (z0n _ _) ?_)
  simp only[pS]
  (refine z0m rfl 89 #[.agg (z03 p y1),A G 0] kG (.agg (z03 (p+1) y1)) (z8q p y1 hp0 hp1 w5) ?_)
  intro w6 hB6;have hK6:=hK5.later hB6;simp only[pS];refine z1m rfl (.tmp 58) (p+1) y1 rfl rfl ?_;simp only[pS];have hbE:=hK6.1;have hm:=z0f.made w6 w.heap.size [((p+1),y1)] hbE.size (by unfold maxLen;simp);go_wp2_with fail;exact bodyPost_ret (v:= .tuple #[_,A G 0]) (by simp[results,Tryz.results64,go_sem]) rfl ⟨_,rfl,hm,hbE.alloc hbE.size _⟩
 ·go_wp2_with fail
  exact bodyPost_ret (v:= .tuple #[.slice none 0 0,A G E]) (by simp[results,Tryz.results64,go_sem]) rfl ⟨rfl,hK5.1⟩
def zMa:=fun d s c o n p r y hp0 hp1 E y1 HM=>(@zD5 d s c o n p r y hp0 hp1 E y1 HM).1
def zDp:=fun d s c o n p r y hp0 hp1 E y1 HM=>(@zD5 d s c o n p r y hp0 hp1 E y1 HM).2
theorem zD6(d s:Nat)(c o n p:Int)(r:Bool)(y:Way)(hp0:0<=p)(hp1:p<=1000)(E:Int)(y1:Way)(HM:Hid (∀(W:World)(B:Nat),z02 W B p y->Calls tP 94 #[pT (some ⟨B,0,none⟩),.agg #[A G c,A G d,A G s,.bool r,A G o,A G n]] W fun e w'=>e= rT (A G E)/\Kept B W w'/\z02 w' B p y1)):(∀(xE:(E !=0)=false)(HQ:Hid ((decide (15<=c)&&decide (c<=24))=false))(x14:(c==14)=false)(x28:(c==28)=false)(x25:(c==25)=false)(x26:(c==26)=false)(x27:(c==27)=false)(w:World),Calls tP 64 #[.agg (z03 p y),.agg #[A G c,A G d,A G s,.bool r,A G o,A G n]] w fun e w'=> ∃v,e= rT (.tuple #[v,A G 0])/\z0f w' w.heap.size v [((p+1),y1)]/\Below w.heap.size w w')/\(∀(xE:(E !=0)=true)(HQ:Hid ((decide (15<=c)&&decide (c<=24))=false))(x14:(c==14)=false)(x28:(c==28)=false)(x25:(c==25)=false)(x26:(c==26)=false)(x27:(c==27)=false)(w:World),zR 64 #[.agg (z03 p y),.agg #[A G c,A G d,A G s,.bool r,A G o,A G n]] w (.tuple #[.slice none 0 0,A G E])):=by
 refine⟨?_,?_⟩
 all_goals
  intro xE HQ x14 x28 x25 x26 x27 w;have hK0:Blk w [(w.heap.size,cT (z03 p y) 190 (0,0)),(w.heap.size+1,cT #[A G c,A G d,A G s,.bool r,A G o,A G n] 121 (0,0))] _:=((Blk.nil (((bF _ _).alloc (Nat.le_refl _) _).alloc kS _)).cons (heap_alloc2_new w (cT (z03 p y) 190) (cT #[A G c,A G d,A G s,.bool r,A G o,A G n] 121))).cons ((z02.start w p y).alloc (cT #[A G c,A G d,A G s,.bool r,A G o,A G n] 121))
 all_goals
  go_enter Tryz.func64,Tryz.ntmps64;go_upto_region 1 with fail
  generalize ((w.alloc (cT (z03 p y) 190)).alloc (cT #[A G c,A G d,A G s,.bool r,A G o,A G n] 121))=w1 at hK0⊢;have yW:z02 _ w.heap.size _ _:=(hK0.2 _ mcS);have ylt:=yW.lt;obtain⟨p0,p1,p2,p3,p4,p5,ltS⟩:=row6 (hK0.2 _ (mcO _ mcS));go_upto_region 2 with(first|(go_at_call 87;refine(z2y c _).mono ?_;rintro e w1 ⟨rfl,rfl⟩;rw[HQ.out])|fail)
  go_step
  (refine z00 rfl (.agg #[A G c,A G d,A G s,.bool r,A G o,A G n]) w1 kG ?_);simp only[pS]
  (refine z0m rfl 94 #[pT (some ⟨w.heap.size,0,none⟩),.agg #[A G c,A G d,A G s,.bool r,A G o,A G n]] kG (A G E) (HM.out w1 w.heap.size yW) ?_)
  intro w5 hq;obtain⟨hk5,hW5⟩:=hq;have hK5:=(Blk.more (F':=[]) hK0 kS).grown (b:=w.heap.size) hk5 (fun k e=>Nat.le_of_eq (Option.some.inj e)) (Nat.le_refl _) kS;clear yW ylt p0 p1 p2 p3 p4 p5 ltS;clear hk5 hK0;simp only[pS]
 ·go_upto_region 17 with fail
  go_step
  (refine wpList_load_row rfl 190 (.tmp 2) rfl w.heap.size rfl 190 (z03 p y1) (0,0) _ hW5 Tryz.underlying190 rfl (z0n _ _) ?_)
  simp only[pS]
  (refine z0m rfl 89 #[.agg (z03 p y1),A G 0] kG (.agg (z03 (p+1) y1)) (z8q p y1 hp0 hp1 w5) ?_)
  intro w6 hB6;have hK6:=hK5.later hB6;simp only[pS];refine z1m rfl (.tmp 58) (p+1) y1 rfl rfl ?_;simp only[pS];have hbE:=hK6.1;have hm:=z0f.made w6 w.heap.size [((p+1),y1)] hbE.size (by unfold maxLen;simp);go_wp2_with fail;exact bodyPost_ret (v:= .tuple #[_,A G 0]) (by simp[results,Tryz.results64,go_sem]) rfl ⟨_,rfl,hm,hbE.alloc hbE.size _⟩
 ·go_wp2_with fail
  exact bodyPost_ret (v:= .tuple #[.slice none 0 0,A G E]) (by simp[results,Tryz.results64,go_sem]) rfl ⟨rfl,hK5.1⟩
def zFg:=fun d s c o n p r y hp0 hp1 E y1 HM=>(@zD6 d s c o n p r y hp0 hp1 E y1 HM).1
def zAa:=fun d s c o n p r y hp0 hp1 E y1 HM=>(@zD6 d s c o n p r y hp0 hp1 E y1 HM).2
theorem zP5{d s:Nat}{c o n p:Int}{r:Bool}{y:Way}(hd:d<11)(hs:s<11)(hp0:0<=p)(hp1:p<=1000)(ho:In64 o)(hj:14<=c->c<=24->0<=o/\o<=1000)(hw:c=27->n=1\/n=2\/n=3)(hy:y.Ok)(hn:In64 n)(w:World):
  Calls tP 64 #[.agg (z03 p y),.agg #[A G c,A G d,A G s,.bool r,A G o,A G n]] w fun e w'=> ∃v,e= rT (.tuple #[v,A G (y.look c d s r o n).2])/\z0f w' w.heap.size v ((y.look c d s r o n).1.map fun x=>(p+(1+x.1),x.2))/\Below w.heap.size w w':=by
 have mv: ∀{E:Int}{e:Ending}{w':World},(e= rT (.tuple #[.slice none 0 0,A G E])/\Below w.heap.size w w')-> ∃v,e= rT (.tuple #[v,A G E])/\z0f w' w.heap.size v []/\Below w.heap.size w w':=fun h=>⟨_,h.1,z0f.nil _ _,h.2⟩;have tt: ∀{a b:Int},a=b->(a==b)=true:=fun h=>by simp[h]
 have tb: ∀{a b:Int},¬a=b->(a==b)=false:=fun h=>by simp[h]
 have nt: ∀{a b:Int},¬a=b->(a !=b)=true:=fun h=>by simp[h]
 have nf: ∀{a b:Int},a=b->(a !=b)=false:=fun h=>by simp[h]
 unfold Way.look
 by_cases h1:15<=c/\c<=24
 ·rw[if_pos h1]
  have hoo:=hj kO h1.2;exact zP4 d s c o n p r y _ _ (fun W:World=>zSx (r:=r) hd hs h1 hp0 hp1 hoo.1 hoo.2 hy hn W) (by show(decide (15<=c)&&decide (c<=24))=true;simp;omega) w
 rw[if_neg h1];have HQ:Hid ((decide (15<=c)&&decide (c<=24))=false):=by show(decide (15<=c)&&decide (c<=24))=false;simp;omega
 by_cases h14:c=14
 ·rw[if_pos h14]
  have hoo:=hj kO kO;simpa using zM8 d s c o n p r y hp0 hp1 hoo.1 hoo.2 HQ (tt h14) w
 rw[if_neg h14]
 by_cases h28:c=28
 ·rw[if_pos h28]
  exact(zM9 d s c o n p r y HQ (tb h14) (tt h28) w).mono fun _ _ h=>mv h
 rw[if_neg h28]
 by_cases h25:c=25
 ·rw[if_pos h25]
  have HM:=fun(W:World) (B:Nat) (hW:z02 W B p y)=>zP8 (c:=c) (r:=r) (n:=n) hd hs hy ho hW;generalize y.load d s o=z at*;obtain⟨E,y1⟩:=z;dsimp only
  by_cases hE:E=0
  ·rw[if_pos hE];simpa[hE]using zM7 d s c o n p r y hp0 hp1 E y1 HM (nf hE) HQ (tb h14) (tb h28) (tt h25) w
  ·rw[if_neg hE];exact(zDo d s c o n p r y hp0 hp1 E y1 HM (nt hE) HQ (tb h14) (tb h28) (tt h25) w).mono fun _ _ h=>mv h
 rw[if_neg h25]
 by_cases h26:c=26
 ·rw[if_pos h26]
  have HM:=fun(W:World) (B:Nat) (hW:z02 W B p y)=>zM3 (c:=c) (r:=r) (n:=n) hd hs hy ho hW;generalize y.store (y.reg d) (y.second s r n) o=z at*;obtain⟨E,y1⟩:=z;dsimp only
  by_cases hE:E=0
  ·rw[if_pos hE];simpa[hE]using zHx d s c o n p r y hp0 hp1 E y1 HM (nf hE) HQ (tb h14) (tb h28) (tb h25) (tt h26) w
  ·rw[if_neg hE];exact(zBq d s c o n p r y hp0 hp1 E y1 HM (nt hE) HQ (tb h14) (tb h28) (tb h25) (tt h26) w).mono fun _ _ h=>mv h
 rw[if_neg h26]
 by_cases h27:c=27
 ·rw[if_pos h27]
  have HM:=fun(W:World) (B:Nat) (hW:z02 W B p y)=>zPf (hw h27) hW;generalize y.call n=z at*;obtain⟨E,y1⟩:=z;dsimp only
  by_cases hE:E=0
  ·rw[if_pos hE];simpa[hE]using zMa d s c o n p r y hp0 hp1 E y1 HM (nf hE) HQ (tb h14) (tb h28) (tb h25) (tb h26) (tt h27) w
  ·rw[if_neg hE];exact(zDp d s c o n p r y hp0 hp1 E y1 HM (nt hE) HQ (tb h14) (tb h28) (tb h25) (tb h26) (tt h27) w).mono fun _ _ h=>mv h
 rw[if_neg h27]
 ·have HM:=fun(W:World) (B:Nat) (hW:z02 W B p y)=>zHz (c:=c) (o:=o) (r:=r) hd hs hy hn hW
  generalize y.change c d s r n=z at*;obtain⟨E,y1⟩:=z;dsimp only
  by_cases hE:E=0
  ·rw[if_pos hE];simpa[hE]using zFg d s c o n p r y hp0 hp1 E y1 HM (nf hE) HQ (tb h14) (tb h28) (tb h25) (tb h26) (tb h27) w
  ·rw[if_neg hE];exact(zAa d s c o n p r y hp0 hp1 E y1 HM (nt hE) HQ (tb h14) (tb h28) (tb h25) (tb h26) (tb h27) w).mono fun _ _ h=>mv h
end
section
def posL(st:List (Nat×Way)):List (Int×Way):=st.map fun x=>((x.1:Int),x.2)
def z37(es:List Kno):List Value:=es.flatMap fun b=>[A G b.l,A G b.h]
def z35(w:World)(base:Nat)(v:Value)(es:List Kno):Prop:=w.ownsRow base 113 2 v es.length (z37 es)
theorem z89(es:List Kno)(b:Kno):z37 (es++[b])=z37 es++[A G b.l,A G b.h]:=by
 unfold z37;rw[List.flatMap_append];simp
theorem zU4(pc:Nat)(y:Way)(st:List (Nat×Way)):posL (((pc,y)::st).reverse)=posL st.reverse++[((pc:Int),y)]:=by unfold posL;rw[List.reverse_cons,List.map_append];rfl
theorem zKz(st:List (Nat×Way)):(posL st.reverse).length=st.length:=by unfold posL;rw[List.length_map,List.length_reverse]
theorem zJf(C D S:Nat->Int)(R:Nat->Bool)(O N:Nat->Int)(f:Nat)(es:List Kno):goF C D S R O N f [] es= .inr es:=by cases f<;>rfl
theorem zVa{C D S:Nat->Int}{R:Nat->Bool}{O N:Nat->Int}(f pc:Nat)(y:Way)(st:List (Nat×Way))(es:List Kno)(d s:Nat)(hd:D pc=(d:Int))(hs:S pc=(s:Int)):
  goF C D S R O N (f+1) ((pc,y)::st) es=if(y.look (C pc) d s (R pc) (O pc) (N pc)).2≠0 then .inl ((y.look (C pc) d s (R pc) (O pc) (N pc)).2,pc)
   else goF C D S R O N f ((y.look (C pc) d s (R pc) (O pc) (N pc)).1.map (fun z=>(pc+1+z.1.toNat,z.2))++st) (if C pc=28 then es++[y.reg 0]else es):=by
 rw[goF];simp only[hd,hs,Int.toNat_natCast]
theorem z8w(w:World)(a b:Value)(t:TypeId):(w.alloc (cT #[a,b] t)).drew.cell? ⟨w.heap.size,0,none⟩=some a/\(w.alloc (cT #[a,b] t)).drew.cell? ⟨w.heap.size,1,none⟩=some b/\w.heap.size<(w.alloc (cT #[a,b] t)).drew.heap.size:=by
 have h:(w.alloc (cT #[a,b] t)).drew.heap[w.heap.size]?=some (cT #[a,b] t (0,0)):=heap_alloc_new w _;obtain⟨h0,h1, -, -,h2⟩:=row2 h;exact⟨h0,h1,h2⟩
section
variable {w w':World} {base:Nat} {v:Value} {l:List (Int×Way)} {es:List Kno}
theorem z0f.shape(h:z0f w base v l): ∃a cap,v= .slice a l.length cap:=by
 rcases h.2 with⟨h1,h2⟩|⟨g,cap,cur,h1,_⟩
 ·exact⟨none,0,by rw[h2];exact h1⟩
 exact⟨_,_,h1⟩
theorem z0f.more{x:Int×Way}(h:z0f w base v (l++[x])): ∃g cap,v= .slice (some ⟨g,0,none⟩) (l.length+1) cap/\l.length+1<=cap/\cap<=maxLen/\base<=g/\g<w.heap.size:=by
 rcases h.2 with⟨_,h2⟩|⟨g,cap,cur,h1,h2,h3,h4,h5,_⟩
 ·rw[List.length_append]at h2;exact absurd h2 kS
 rw[List.length_append]at h1 h4;exact⟨g,cap,h1,h4,h5,h2,(Array.getElem?_eq_some_iff.1 h3).1⟩
theorem z0f.pop{g cap:Nat}{x:Int×Way}(h:z0f w base (.slice (some ⟨g,0,none⟩) (l.length+1) cap) (l++[x])):z0f w base (.slice (some ⟨g,0,none⟩) l.length cap) l:=by
 rcases h.2 with⟨h1,_⟩|⟨g',cap',cur,h1,h2,h3,h4,h5,h6,h7⟩
 ·exact absurd h1 kS
 rw[List.length_append]at h1 h4 h7
 cases h1;refine⟨by rw[z2e],Or.inr ⟨g,cap,cur,rfl,h2,h3,by omega,h5,h6,?_⟩⟩;have h8:(cur.toList.take ((l.length+[x].length)*82)).take (l.length*82)=(z0r (l++[x])).take (l.length*82):=by rw[h7]
 rw[List.take_take,Nat.min_eq_left (Nat.mul_le_mul_right _ kO),z4r, <-z2e l]at h8;rw[<-z2e l,h8,List.take_left]
theorem z9c(l1 l2:List (Int×Way)):z0r (l1++l2)=z0r l1++z0r l2:=by unfold z0r;rw[List.flatMap_append]
theorem z0f.elem{g n cap:Nat}{x:Int×Way}{l2:List (Int×Way)}(h:z0f w base (.slice (some ⟨g,0,none⟩) n cap) (l++x::l2)):w.rangeAt g (l.length*82) (z03 x.1 x.2).toList:=by
 intro j u hj
 have hk:=World.ownsRow.cells h (g:=g) rfl (l.length*82+j) u (by
  rw[z9c,List.getElem?_append_right (by rw[z2e];omega),z2e,show l.length*82+j-l.length*82=j by omega];unfold z0r;rw[List.flatMap_cons,List.getElem?_append_left (List.getElem?_eq_some_iff.1 hj).1];exact hj)
 rw[Addr.add_mid,Nat.zero_add]at hk;exact hk
theorem z0f.some_of{a:Option Addr}{n cap:Nat}(h:z0f w base (.slice a n cap) l)(hl:0<l.length): ∃g,a=some ⟨g,0,none⟩/\n=l.length/\base<=g/\g<w.heap.size:=by
 rcases h.2 with⟨_,h2⟩|⟨g,cap',cur,h1,h2,h3,_⟩
 ·omega
 cases h1;exact⟨g,rfl,rfl,h2,(Array.getElem?_eq_some_iff.1 h3).1⟩
theorem z35.nil(w:World)(base:Nat):z35 w base (.slice none 0 0) []:=World.ownsRow_nil _ _ _ _
theorem z35.later(h:z35 w base v es)(hb:Below w.heap.size w w'):z35 w' base v es:=
 World.ownsRow.kept (w':=w') (row:=none) h ⟨hb.os,hb.tape,hb.output,hb.size,fun k hk _=>hb.block k hk⟩ (by cases v.ownBlock<;>simp)
theorem z35.grown{row:Option Nat}(h:z35 w base v es)(hg:w.grownBy w' row)(hne: ∀k,row=some k->v.ownBlock≠some k):z35 w' base v es:=
 World.ownsRow.kept (w':=w') (row:=row) h hg (by
  cases row with
  |none=>cases v.ownBlock<;>simp
  |some k=>exact Or.inr (hne k rfl))
theorem z0f.grown{row:Option Nat}(h:z0f w base v l)(hg:w.grownBy w' row)(hne: ∀k,row=some k->v.ownBlock≠some k):z0f w' base v l:=
 World.ownsRow.kept (w':=w') (row:=row) h hg (by
  cases row with
  |none=>cases v.ownBlock<;>simp
  |some k=>exact Or.inr (hne k rfl))
theorem z35.above(h:z35 w base v es): ∀k,v.ownBlock=some k->base<=k/\k<w.heap.size:=World.ownsRow.lt h
end
theorem z90{ops:Array Oper}{rest:List Oper}{o:Oper}{a:Act}{w:World}{Q:Exit->Act->World->Prop}(hg:o.guard=none)(s x:Operand)(ho:o.op= .call {callee:= .builtin .append,args:=#[s,x],argTypes:=#[192,192]})
  (base:Nat)(v:Value)(l:List (Int×Way))(hs:a.eval s=v)(hw:z0f w base v l)(p:Int)(y:Way)(hx:a.eval x= .slice (some ⟨w.heap.size,0,none⟩) 1 1)(hl:l.length<=1000000)(hb:base<=w.heap.size)
  (h: ∀v' w',z0f w' base v' (l++[(p,y)])->w.grownBy w' v.ownBlock->(∀k,v'.ownBlock=some k->v.ownBlock=some k\/w.heap.size<=k)->wpList tP ops Q rest (a.put o.dst v') w'):wpList tP ops Q (o::rest) a (w.alloc (cT (z0r [(p,y)]).toArray 190)):=by
 obtain⟨i0,hi,hz0,hz1,hz2⟩:=info_parts Tryz.infoWz;have e1:z0r [(p,y)]=(z03 p y).toList:=by unfold z0r;simp
 refine wpList_append_own_at _ hg s x 192 ho base 190 i0 _ 82 656 Tryz.underlying192 hi hz0 hz1 hz2 z20 kD v l.length (z0r l) hs (hw.alloc _) ⟨w.heap.size,0,none⟩ 1 1 (z0r [(p,y)]) hx (by rw[z2e];rfl) ?_ ?_ (by unfold maxLen;omega) kO kZ ?_
 ·intro j u hu
  rw[e1]at hu⊢;rw[Addr.add_mid,Nat.zero_add,cell_of_row _ w.heap.size j _ 190 (0,0) (heap_alloc_new w _)];simpa using hu
 ·intro u hu
  rw[e1]at hu;exact(Array.all_eq_true_iff_forall_mem.1 (z2f p y)) u (Array.mem_toList_iff.1 hu)
 intro v' w' h1 h2 _ h4;refine h v' w' ?_ ⟨h2.os,h2.tape,h2.output,Nat.le_trans kS h2.size,fun k hk hne=>(h2.block k kZ hne).trans (heap_alloc_old w _ hk)⟩ (fun k e=>?_)
 ·show w'.ownsRow base 190 82 v' (l++[(p,y)]).length (z0r (l++[(p,y)]))
  rw[z4r,List.length_append, <-e1];exact h1
 rcases h4 with h4|h4
 ·exact Or.inl (h4.symm.trans e)
 rw[e]at h4;have:=Option.some.inj h4;right;rw[this];simp
theorem Tryz.infoBz:(Tryz.prog.info? 113).map (fun i=>(i.zero,i.size,i.bytes))=some (some (.agg #[A G 0,A G 0]),2,16):=kR
theorem zM1{ops:Array Oper}{rest:List Oper}{o:Oper}{a:Act}{w:World}{Q:Exit->Act->World->Prop}(hg:o.guard=none)(s x:Operand)(ho:o.op= .call {callee:= .builtin .append,args:=#[s,x],argTypes:=#[153,153]})
  (base:Nat)(v:Value)(es:List Kno)(hs:a.eval s=v)(hw:z35 w base v es)(b:Kno)(hx:a.eval x= .slice (some ⟨w.heap.size,0,none⟩) 1 1)(hl:es.length<=1000000)(hb:base<=w.heap.size)
  (h: ∀v' w',z35 w' base v' (es++[b])->w.grownBy w' v.ownBlock->(∀k,v'.ownBlock=some k->v.ownBlock=some k\/w.heap.size<=k)->wpList tP ops Q rest (a.put o.dst v') w'):wpList tP ops Q (o::rest) a (w.alloc (cT #[A G b.l,A G b.h] 113)):=by
 obtain⟨i0,hi,hz0,hz1,hz2⟩:=info_parts Tryz.infoBz;refine wpList_append_own_at _ hg s x 153 ho base 113 i0 _ 2 16 Tryz.underlying153 hi hz0 hz1 hz2 rfl kD v es.length (z37 es) hs (hw.alloc _) ⟨w.heap.size,0,none⟩ 1 1 [A G b.l,A G b.h] hx rfl ?_ ?_ (by unfold maxLen;omega) kO kZ ?_
 ·intro j u hu
  rw[Addr.add_mid,Nat.zero_add,cell_of_row _ w.heap.size j _ 113 (0,0) (heap_alloc_new w _)];simpa using hu
 ·intro u hu
  simp at hu;rcases hu with rfl|rfl<;>rfl
 intro v' w' h1 h2 _ h4;refine h v' w' ?_ ⟨h2.os,h2.tape,h2.output,Nat.le_trans kS h2.size,fun k hk hne=>(h2.block k kZ hne).trans (heap_alloc_old w _ hk)⟩ (fun k e=>?_)
 ·show w'.ownsRow base 113 2 v' (es++[b]).length (z37 (es++[b]))
  rw[z89,List.length_append];exact h1
 rcases h4 with h4|h4
 ·exact Or.inl (h4.symm.trans e)
 rw[e]at h4;have:=Option.some.inj h4;right;rw[this];simp
theorem z8h{ops:Array Oper}{rest:List Oper}{op:Oper}{a:Act}{w:World}{Q:Exit->Act->World->Prop}(hgd:op.guard=none)(x:Operand)(ho:op.op= .load 190 x)
  (b o:Nat)(hx:a.eval x= pT (some ⟨b,o,none⟩))(p:Int)(y:Way)(hc:w.rangeAt b o (z03 p y).toList)
  (h:wpList tP ops Q rest (a.put op.dst (.agg (z03 p y))) w):wpList tP ops Q (op::rest) a w:=
 wpList_load_mid hgd 190 x ho b o hx (z03 p y).toList _ hc Tryz.underlying190 rfl (by rw[Array.length_toList];exact z0n p y) (by simpa using h)
theorem zUn(y:Way)(c:Int)(d s:Nat)(r:Bool)(o n:Int):(y.look c d s r o n).1.length<=2:=by
 unfold Way.look Way.ask Way.askNumbers Way.askPlace
 repeat' split
 all_goals simp
theorem zYk(pc:Nat)(ls:List (Int×Way))(h: ∀z,z∈ls->0<=z.1):(ls.map fun x=>((pc:Int)+(1+x.1),x.2))=posL (ls.map fun z=>(pc+1+z.1.toNat,z.2)):=by
 unfold posL;rw[List.map_map];refine List.map_congr_left fun z hz=>?_;have:=h z hz;simp only[Function.comp_apply,Prod.mk.injEq,and_true];omega
structure z8y (w:World) (st0 l2:List (Int×Way)) (V10 E:Value) (es:List Kno) (j:Nat) (V:Value) (wr:World):Prop where
 jl:j<=l2.length
 below:Below w.heap.size w wr
 ways:z0f wr w.heap.size V (st0++(l2.drop j).reverse)
 led:z0f wr w.heap.size V10 l2
 ends:z35 wr w.heap.size E es
 sepE: ∀k,V.ownBlock=some k->E.ownBlock≠some k
 sepL: ∀k,V.ownBlock=some k->V10.ownBlock≠some k
 few:st0.length+l2.length<=100000
theorem z8y.part{w:World}{st0 l2:List (Int×Way)}{V10 E:Value}{es:List Kno}{j:Nat}{V:Value}{wr:World}(h:z8y w st0 l2 V10 E es (j+1) V wr):
  ∃x,l2.drop j=x::l2.drop (j+1)/\l2=l2.take j++x::l2.drop (j+1)/\(l2.take j).length=j:=by
 have hj:j<l2.length:=h.jl;refine⟨l2[j],List.drop_eq_getElem_cons hj,?_,by rw[List.length_take];omega⟩;rw[<-List.drop_eq_getElem_cons hj,List.take_append_drop]
theorem z8y.small{w:World}{st0 l2:List (Int×Way)}{V10 E:Value}{es:List Kno}{j:Nat}{V:Value}{wr:World}(h:z8y w st0 l2 V10 E es j V wr):(st0++(l2.drop j).reverse).length<=1000000:=by
 have:=h.few;rw[List.length_append,List.length_reverse,List.length_drop];omega
theorem z8y.lay{w:World}{st0 l2:List (Int×Way)}{V10 E:Value}{es:List Kno}{j:Nat}{V V':Value}{wr wr3:World}{x:Int×Way}(h:z8y w st0 l2 V10 E es (j+1) V wr)(hx:l2.drop j=x::l2.drop (j+1))
  (hA:z0f wr3 w.heap.size V' ((st0++(l2.drop (j+1)).reverse)++[x]))(hg:wr.grownBy wr3 V.ownBlock)(hs: ∀k,V'.ownBlock=some k->V.ownBlock=some k\/wr.heap.size<=k):z8y w st0 l2 V10 E es j V' wr3 where
 jl:=Nat.le_of_succ_le h.jl
 below:=((Blk.nil h.below).grown hg (b:=w.heap.size) (fun k e=>(h.ways.above k e).1) (Nat.le_refl _) kS).1
 ways:=by rw[hx,List.reverse_cons, <-List.append_assoc];exact hA
 led:=h.led.grown hg h.sepL
 ends:=h.ends.grown hg h.sepE
 sepE:=fun k e=>by
  rcases hs k e with e|e
  ·exact h.sepE k e
  ·intro e2;have:=(h.ends.above k e2).2;omega
 sepL:=fun k e=>by
  rcases hs k e with e|e
  ·exact h.sepL k e
  ·intro e2;have:=(h.led.above k e2).2;omega
 few:=h.few
theorem zL0(a b:List (Nat×Way)):posL ((a++b).reverse)=posL b.reverse++(posL a).reverse:=by
 unfold posL;rw[List.reverse_append,List.map_append,List.map_reverse (l:=a)]
structure GoSt (w:World) (len:Nat) (C D S:Nat->Int) (R:Nat->Bool) (O N:Nat->Int) (X:(Int×Nat)⊕List Kno) (k:Nat) (st:List (Nat×Way)) (es:List Kno) (V E:Value) (wr:World):Prop where
 k4:k<=4000
 below:Below w.heap.size w wr
 ways:z0f wr w.heap.size V (posL st.reverse)
 ends:z35 wr w.heap.size E es
 sep: ∀k,V.ownBlock=some k->E.ownBlock≠some k
 okst: ∀x,x∈st->x.1<len/\x.2.Ok
 stl:st.length<=k+1
 esl:es.length<=k
 go:goF C D S R O N (4000-k) st es=X
def zZq(w:World)(X:(Int×Nat)⊕List Kno)(e:Ending)(w':World):Prop:=Below w.heap.size w w'/\
 match X with
 | .inl (er,i)=> ∃p,e= rT (.tuple #[.slice none 0 0,.iface 134 (pT (some ⟨p,0,none⟩))])/\w.heap.size<=p/\p<w'.heap.size/\w'.cell? ⟨p,0,none⟩=some (A G er)/\w'.cell? ⟨p,1,none⟩=some (A G (i:Int))
 | .inr es=> ∃E,e= rT (.tuple #[E,.nilIface])/\z35 w' w.heap.size E es/\es.length<=4000
end
section
attribute [local simp] z0p z0j z04
theorem zGx(bk off len cap:Nat)(C D S O N:Nat->Int)(R:Nat->Bool)(w:World)(h1:1<=len)(h2:len<=200)(hbk:bk<w.heap.size)(hst:z1g w bk off len C D S R O N)(hr: ∀i,i<len->z9f (C i) (D i) (S i) (R i) (O i) (N i) len i)(hf: ∀i,i<len->In64 (O i)/\In64 (N i)):
  Calls tP 49 #[.slice (some ⟨bk,off,none⟩) len cap] w fun e w'=>zZq w (goF C D S R O N 4000 [(0,way0)] []) e w':=by
 obtain⟨X,hX⟩: ∃X,goF C D S R O N 4000 [(0,way0)] []=X:=⟨_,rfl⟩;rw[hX];have HX:Hid (goF C D S R O N 4000 [(0,way0)] []=X):=hX;have HST:Hid (z1g w bk off len C D S R O N):=hst;have HR:Hid (∀i,i<len->z9f (C i) (D i) (S i) (R i) (O i) (N i) len i):=hr;have HF:Hid (∀i,i<len->In64 (O i)/\In64 (N i)):=hf;clear hX hst hr hf;go_enter Tryz.func49,Tryz.ntmps49;go_upto_region 2 with fail
 go_step
 (refine z0m rfl 63 #[] kG (.agg (z03 0 way0)) (zMj w) ?_)
 intro w1 hb1;simp only[pS];refine z1m rfl (.tmp 13) 0 way0 rfl rfl ?_;simp only[pS];have hA1:=z0f.made w1 w.heap.size [(0,way0)] hb1.size (by unfold maxLen;simp);have hB1:=hb1.alloc hb1.size (cT (z0r [(0,way0)]).toArray 190)
 have HG:Hid (GoSt w len C D S R O N X 0 [(0,way0)] [] (.slice (some ⟨w1.heap.size,0,none⟩) 1 1) (.slice none 0 0) (w1.alloc (cT (z0r [(0,way0)]).toArray 190))):=
  ⟨by omega,hB1,hA1,z35.nil _ _,fun k _ e=>absurd e (by simp[Value.ownBlock]),fun x hx=>by rw[List.mem_singleton.mp hx];exact⟨h1,zHm⟩,by simp,by simp,HX.out⟩
 clear hA1 hB1 hb1;generalize (w1.alloc (cT (z0r [(0,way0)]).toArray 190))=w2 at HG⊢;generalize w1.heap.size=g1 at HG⊢;go_wp2_with fail;go_loopw [4,5,6] (fun ve vw vl wr=> ∃(k:Nat)(st:List (Nat×Way))(es:List Kno),vl=A G ((k:Int)+1)/\Hid (GoSt w len C D S R O N X k st es vw ve wr)) (fun _ _ vl _=>4001-(intOf vl).toNat)
 case atStart=>exact⟨0,[(0,way0)],[],rfl,HG.out⟩
 case round=>
  obtain⟨k,st,es,rfl,H⟩:=hrel;clear HG
  cases st with
  |nil=>
   obtain⟨a,cp,hv⟩:=H.out.ways.shape;rw[zKz]at hv;subst hv;go_wp2_with fail;exact bodyPost_ret (v:= .tuple #[u4,.nilIface]) (by simp[results,Tryz.results49,go_sem]) rfl ⟨H.out.below,(by rw[<-H.out.go,zJf];exact⟨_,rfl,H.out.ends,Nat.le_trans H.out.esl H.out.k4⟩)⟩
  |cons x st=>
   obtain⟨pc,y⟩:=x;have hw0:=H.out.ways;rw[zU4]at hw0;obtain⟨g,cp,hv,hcp,hcm,hg0,hg1⟩:=hw0.more;subst hv;have hpop:=hw0.pop;have hel:=hw0.elem (l2:=[]);have hml:=zKz st;have hml2:=H.out.stl;have hk4:=H.out.k4;rw[List.length_cons]at hml2;generalize hm:(posL st.reverse).length=m at*;have HP:Hid (z0f wr w.heap.size (.slice (some ⟨g,0,none⟩) m cp) (posL st.reverse)):=hpop;have HE:Hid (wr.rangeAt g (m*82) (z03 (pc:Int) y).toList):=hel;have HM:Hid ((posL st.reverse).length=m):=hm;have hm1:(m:Int)<=4000:=kO;have hm0:(0:Int)<=(m:Int):=kO;have hm2:(m:Int)<((m+1:Nat):Int):=kO;have hcm':cp<=9223372036854775807:=hcm;clear hpop hel hm hw0 hml hcm;go_upto_region 7 with fail
   go_step
   (refine z00 rfl (.slice (some ⟨g,0,none⟩) (m+1) cp) wr kG ?_);simp only[pS]
   (refine z00 rfl (A G (m:Int)) wr kG ?_);simp only[pS]
   refine z00 rfl (pT (some ⟨g,m*82,none⟩)) wr (by go_simp;intro h;omega) ?_;simp only[pS];refine z8h rfl (.tmp 25) rfl g (m*82) rfl (pc:Int) y HE.out ?_;simp only[pS];refine z00 rfl (pT (some ⟨wr.heap.size,0,none⟩)) (wr.alloc (cT Tryz.zeroCells190 190 (0,0))) kG ?_;simp only[pS]
   (refine wpList_store_row rfl 190 (.tmp 8) (.tmp 26) rfl wr.heap.size (z03 (pc:Int) y) rfl rfl 190 _ (heap_alloc_new _ _) (z0n _ _) (by first|rw[z20,z0g]|rw[z0g,z0g]) (z2f _ _) ?_)
   simp only[Act.put];have hq7:Below wr.heap.size wr ((wr.alloc (cT Tryz.zeroCells190 190 (0,0))).setRow wr.heap.size (z03 (pc:Int) y)):=z14 ((bF _ _).alloc (Nat.le_refl _) _) (Nat.le_refl _) _;have hW7:z02 ((wr.alloc (cT Tryz.zeroCells190 190 (0,0))).setRow wr.heap.size (z03 (pc:Int) y)) wr.heap.size (pc:Int) y:=z02.setRow (heap_alloc_new _ _) _ _;have hb7:=H.out.below.trans (hq7.mono H.out.below.size);have HP7:Hid (z0f _ w.heap.size (.slice (some ⟨g,0,none⟩) m cp) (posL st.reverse)):=HP.out.later hq7;have HE7:Hid (z35 _ w.heap.size u4 es):=H.out.ends.later hq7;have HSep:Hid (∀k,(Value.slice (some ⟨g,0,none⟩) (m+1) cp).ownBlock=some k->u4.ownBlock≠some k):=H.out.sep;have HEB:Hid (∀k,u4.ownBlock=some k->k<wr.heap.size):=fun k e=>(H.out.ends.above k e).2;have hB0:w.heap.size<=wr.heap.size:=H.out.below.size;clear hq7;generalize ((wr.alloc (cT Tryz.zeroCells190 190 (0,0))).setRow wr.heap.size (z03 (pc:Int) y))=w7 at hW7 hb7 HP7 HE7⊢;generalize wr.heap.size=B at hg1 hW7 HEB hB0⊢;have hst0:=hW7.step;have hlt0:=hW7.lt;have hpc:=(H.out.okst _ mcS).1;have hoky:=(H.out.okst _ mcS).2;dsimp only at hpc hoky;have hmc:(m:Int)<=(cp:Int):=kO;have hpc0:(0:Int)<=(pc:Int):=kO;have hpc1:(pc:Int)<len:=kO
   by_cases hkk:k=4000
   ·subst hkk
    go_wp2_with fail;clear hW7;go_region;go_wp2_with fail;exact bodyPost_ret (v:= .tuple #[.slice none 0 0,.iface 134 (pT (some ⟨w7.heap.size,0,none⟩))]) (by simp[results,Tryz.results49,go_sem]) rfl ⟨(hb7.alloc hb7.size _).drew,(by rw[<-H.out.go];exact⟨w7.heap.size,rfl,hb7.size,(z8w _ _ _ _).2.2,(z8w _ _ _ _).1,(z8w _ _ _ _).2.1⟩)⟩
   ·have hb7':=hb7
    have hR:=HR.out pc hpc;obtain⟨hO64,hN64⟩:=HF.out pc hpc;obtain⟨g0,g1c,g2,g3,g4,g5⟩:=HST.out.later hb7 hbk pc hpc;obtain⟨d,hd⟩:=Int.eq_ofNat_of_zero_le hR.d1;obtain⟨s,hs⟩:=Int.eq_ofNat_of_zero_le hR.s1;have hd11:d<11:=by have:=hR.d2;omega
    have hs11:s<11:=by have:=hR.s2;omega
    have HGo:Hid (goF C D S R O N (4000-k) ((pc,y)::st) es=X):=H.out.go;have hbk7:bk<w7.heap.size:=Nat.lt_of_lt_of_le hbk hb7.size;have hkx:decide (4000<(k:Int)+1)=false:=kZ;have hk0:(0:Int)<=(k:Int):=kO;have hk1:(k:Int)<=4000:=kO;rw[hd]at g1c;rw[hs]at g2;have H27:Hid (C pc=27->N pc=1\/N pc=2\/N pc=3):=hR.call;have HJ:Hid (14<=C pc->C pc<=24->0<=O pc/\O pc<=1000):=fun a b=>by have:=hR.lead kO;omega
    have hgs:=HGo.out;rw[show 4000-k=(3999-k)+1 by omega,zVa _ pc y st es d s hd hs]at hgs;have hl2:=zUn y (C pc) d s (R pc) (O pc) (N pc);have hlo:=zJ2 hoky hR.c1 hR.c2 hd11 hs11 hO64 hN64 (r:=R pc);have hlf:=zAu (y:=y) (c:=C pc) (d:=d) (s:=s) (r:=R pc) (o:=O pc) (n:=N pc)
    have hlz: ∀z,z∈(y.look (C pc) d s (R pc) (O pc) (N pc)).1->0<=z.1/\pc+1+z.1.toNat<len:=fun z hz=>by
     obtain⟨u1,u2⟩:=hlf z hz;have hl:=hR.last u1;rcases u2 with u2|⟨u2,u3⟩
     ·omega
     ·have:=hR.lead u3;omega
    have hl28:C pc=28->(y.look (C pc) d s (R pc) (O pc) (N pc)).1=[]:=fun e=>List.eq_nil_iff_forall_not_mem.mpr fun z hz=>(hlf z hz).1 e;have hlk:=fun W:World=>zP5 (r:=R pc) hd11 hs11 hpc0 kO hO64 HJ.out H27.out hoky hN64 W;generalize y.look (C pc) d s (R pc) (O pc) (N pc)=lk at hgs hl2 hlo hlz hl28 hlk;obtain⟨ls,er⟩:=lk;dsimp only at hgs hl2 hlo hlz hl28 hlk;rw[zYk pc ls fun z hz=>(hlz z hz).1]at hlk;have HLK:Hid (∀W:World,Calls tP 64 #[.agg (z03 (pc:Int) y),.agg #[A G (C pc),A G d,A G s,.bool (R pc),A G (O pc),A G (N pc)]] W fun e w'=> ∃v,e= rT (.tuple #[v,A G er])/\z0f w' W.heap.size v (posL (ls.map fun z=>(pc+1+z.1.toNat,z.2)))/\Below W.heap.size W w'):=hlk;have HGS:Hid ((if er≠0 then .inl (er,pc)else goF C D S R O N (3999-k) ((ls.map fun z=>(pc+1+z.1.toNat,z.2))++st) (if C pc=28 then es++[y.reg 0]else es))=X):=hgs;have HL2:Hid (ls.length<=2):=hl2
    have HLO:Hid (∀x,x∈(ls.map fun z=>(pc+1+z.1.toNat,z.2))++st->x.1<len/\x.2.Ok):=fun x hx=>by
     rcases List.mem_append.mp hx with hx|hx
     ·obtain⟨z,hz,rfl⟩:=List.mem_map.mp hx
      exact⟨(hlz z hz).2,hlo z hz⟩
     ·exact H.out.okst x (mcO _ hx)
    have HL28:Hid (C pc=28->ls=[]):=hl28;have HW7:Hid (z02 w7 B (pc:Int) y):=hW7;clear hW7 hgs hl2 hlo hlf hlz hl28 hlk HJ H27 hR hd hs HGo hO64 hN64;generalize C pc=c at*;generalize R pc=r at*;generalize O pc=o at*;generalize N pc=n at*;go_upto_region 12 with fail
    have hq8:Below w7.heap.size w7 (w7.alloc (cT #[A G c,A G d,A G s,.bool r,A G o,A G n] 121)):=(bF _ _).alloc (Nat.le_refl _) _;have hW8:=HW7.out.later hq8;have hb8:=hb7.trans (hq8.mono hb7.size);have HP8:Hid (z0f _ w.heap.size (.slice (some ⟨g,0,none⟩) m cp) (posL st.reverse)):=HP7.out.later hq8;have HE8:Hid (z35 _ w.heap.size u4 es):=HE7.out.later hq8;obtain⟨p0,p1,p2,p3,p4,p5,ltS⟩:=row6 (heap_alloc_new w7 (cT #[A G c,A G d,A G s,.bool r,A G o,A G n] 121));have hBS:B<w7.heap.size:=hlt0;clear hq8 g0 g1c g2 g3 g4 g5 hst0 hlt0 hb7 hb7' HP7 HE7 HW7 hbk7;generalize (w7.alloc (cT #[A G c,A G d,A G s,.bool r,A G o,A G n] 121))=w8 at hW8 hb8 HP8 HE8 p0 p1 p2 p3 p4 p5 ltS⊢;generalize w7.heap.size=S0 at hBS p0 p1 p2 p3 p4 p5 ltS⊢;go_step
    (refine wpList_load_row rfl 190 (.tmp 8) rfl B rfl 190 (z03 (pc:Int) y) (0,0) _ hW8 Tryz.underlying190 rfl (z0n _ _) ?_)
    simp only[pS]
    (refine z00 rfl (.agg #[A G c,A G d,A G s,.bool r,A G o,A G n]) w8 kG ?_);simp only[pS]
    refine z0w rfl 64 #[.agg (z03 (pc:Int) y),.agg #[A G c,A G d,A G s,.bool r,A G o,A G n]] kG (R:=fun x w'=> ∃v,x= .tuple #[v,A G er]/\z0f w' w8.heap.size v (posL (ls.map fun z=>(pc+1+z.1.toNat,z.2)))/\Below w8.heap.size w8 w') ((HLK.out w8).mono fun e w' h=>by obtain⟨v,h1,h2⟩:=h;exact⟨_,h1,v,rfl,h2⟩) ?_;intro v9 w9 hq;obtain⟨v10,rfl,hA9,hq9⟩:=hq;simp only[pS];have hb9:=hb8.trans (hq9.mono hb8.size);have HP9:Hid (z0f w9 w.heap.size (.slice (some ⟨g,0,none⟩) m cp) (posL st.reverse)):=HP8.out.later hq9;have HE9:Hid (z35 w9 w.heap.size u4 es):=HE8.out.later hq9;have hW9:=hW8.later hq9;have HA9:Hid (z0f w9 w.heap.size v10 (posL (ls.map fun z=>(pc+1+z.1.toNat,z.2)))):=hA9.mono hb8.size;have HAB:Hid (∀k,v10.ownBlock=some k->w8.heap.size<=k):=fun k e=>(hA9.above k e).1;have P0:=(hq9.cell (p:=⟨S0,0,none⟩) ltS).trans p0;have ltS9:=Nat.lt_of_lt_of_le ltS hq9.size;clear p0 p1 p2 p3 p4 p5 hA9 hW8 hb8 HP8 HE8 HLK;obtain⟨i0,i1,i2⟩:=hW9.reg (d:=0) kD;have hst9:=hW9.step;have hlt9:=hW9.lt;simp only[Nat.zero_mul,Nat.add_zero,Nat.reduceAdd]at i0 i1 i2;have HW9:Hid (z02 w9 B (pc:Int) y):=hW9;clear hW9
    by_cases he:er=0
    ·subst he
     obtain⟨a10,c10,hv10⟩:=HA9.out.shape;subst hv10;have hql:(posL (ls.map fun z=>(pc+1+z.1.toNat,z.2))).length=ls.length:=by unfold posL;rw[List.length_map,List.length_map]
     have hq2:=HL2.out;rw[<-hql]at hq2;clear hql;generalize hq:(posL (ls.map fun z=>(pc+1+z.1.toNat,z.2))).length=q at*;have HQ:Hid ((posL (ls.map fun z=>(pc+1+z.1.toNat,z.2))).length=q):=hq;have hq0:(0:Int)<=(q:Int):=kO;have hq1:(q:Int)<=2:=kO;have HGS2:Hid (goF C D S R O N (3999-k) ((ls.map fun z=>(pc+1+z.1.toNat,z.2))++st) (if c=28 then es++[y.reg 0]else es)=X):=HGS.out;have hgB:g<w8.heap.size:=kO;clear hq HGS
     by_cases h28:c=28
     ·have x28:(c==28)=true:=by simpa using h28
      have HGS3:Hid (goF C D S R O N (3999-k) ((ls.map fun z=>(pc+1+z.1.toNat,z.2))++st) (es++[y.reg 0])=X):=by have:=HGS2.out;rw[if_pos h28]at this;exact this
      have HESL:Hid (es.length<=k):=H.out.esl;have hesl:=H.out.esl;clear HGS2;go_upto_region 16 with fail
      go_step
      (refine z00 rfl u4 w9 kG ?_);simp only[pS]
      (refine z00 rfl (pT (some ⟨B,1,none⟩)) w9 kG ?_);simp only[pS]
      (refine z00 rfl (pT (some ⟨B,1,none⟩)) w9 kG ?_);simp only[pS]
      (refine z00 rfl (pT (some ⟨B,2,none⟩)) w9 kG ?_);simp only[pS]
      (refine z00 rfl (.agg #[A G (y.reg 0).l,A G (y.reg 0).h]) w9 kG ?_);simp only[pS]
      refine z00 rfl (.slice (some ⟨w9.heap.size,0,none⟩) 1 1) (w9.alloc (cT #[A G (y.reg 0).l,A G (y.reg 0).h] 113)) kG ?_;simp only[pS];refine zM1 rfl (.tmp 59) (.tmp 64) rfl w.heap.size u4 es rfl HE9.out (y.reg 0) rfl kO hb9.size ?_;intro E2 w10 hE2 hg10 hs10;simp only[pS];have hb10:=((Blk.nil hb9).grown hg10 (b:=w.heap.size) (fun k e=>(HE9.out.above k e).1) (Nat.le_refl _) kS).1;have HP10:=HP9.out.grown hg10 (fun k e e2=>HSep.out k e2 e);have HA10:=HA9.out.grown hg10 (fun k e e2=>by have h3:=HAB.out k e2;have h4:=HEB.out k e;omega);have HLay:Hid (z8y w (posL st.reverse) (posL (ls.map fun z=>(pc+1+z.1.toNat,z.2))) (.slice a10 q c10) E2 (es++[y.reg 0]) q (.slice (some ⟨g,0,none⟩) m cp) w10):=⟨Nat.le_of_eq HQ.out.symm,hb10,by rw[List.drop_eq_nil_of_le (Nat.le_of_eq HQ.out),List.reverse_nil,List.append_nil];exact HP10,HA10,hE2,fun k e e2=>(hs10 k e2).elim (fun e3=>HSep.out k e e3) (fun e3=>by have h4:g=k:=Option.some.inj e;have:=hq9.size;omega),fun k e e2=>by have h3:=HAB.out k e2;have h4:g=k:=Option.some.inj e;omega,by rw[HQ.out,HM.out];omega⟩;clear hE2 hg10 hs10 HP10 HA10 hb10;go_wp2_with fail;go_loopw [5,12] (fun vw vi wr2=> ∃j:Nat,vi=A G ((j:Int)-1)/\Hid (z8y w (posL st.reverse) (posL (ls.map fun z=>(pc+1+z.1.toNat,z.2))) (.slice a10 q c10) E2 (es++[y.reg 0]) j vw wr2)) (fun _ vi _=>(intOf vi+1).toNat)
      case atStart=>exact⟨q,by go_num,HLay.out⟩
      case round=>
       obtain⟨j,rfl,HI⟩:=hrel;clear HLay
       cases j with
       |zero=>
        go_wp2_with fail;go_roundw
        case rel=>
         refine⟨k+1,(ls.map fun z=>(pc+1+z.1.toNat,z.2))++st,(es++[y.reg 0]),by go_num,by omega,HI.out.below,?_,HI.out.ends,HI.out.sepE,HLO.out,?_,?_,?_⟩
         ·rw[zL0];exact HI.out.ways
         ·have:=HL2.out;rw[List.length_append,List.length_map];omega
         ·have:=HESL.out;rw[List.length_append];simp;omega
         ·rw[show 4000-(k+1)=3999-k by omega];exact HGS3.out
        case measure=>first|(simp[intOf];done)|(simp[intOf];omega)
       |succ j=>
        have hj1:j+1<=q:=by have:=HI.out.jl;rw[HQ.out]at this;exact this
        obtain⟨x,hx1,hx2,hx3⟩:=HI.out.part;obtain⟨px,yx⟩:=x;obtain⟨gv,ha10, -, -,hgv⟩:=HI.out.led.some_of (by have:=HQ.out;omega);subst ha10;have hld:=HI.out.led;have hel:wr.rangeAt gv (j*82) (z03 px yx).toList:=by rw[hx2]at hld;have:=hld.elem;rw[hx3]at this;exact this
        have HEL:Hid (wr.rangeAt gv (j*82) (z03 px yx).toList):=hel;have HX1:Hid ((posL (ls.map fun z=>(pc+1+z.1.toNat,z.2))).drop j=(px,yx)::(posL (ls.map fun z=>(pc+1+z.1.toNat,z.2))).drop (j+1)):=hx1;have e1:((j+1:Nat):Int)-1=(j:Int):=kO;rw[e1];have hj0:(0:Int)<=(j:Int):=kO;have hj2:(j:Int)<(q:Int):=kO;have hwv:=HI.out.ways.shape;obtain⟨av,cv,hv⟩:=hwv;have HF5:Hid (((posL st.reverse)++((posL (ls.map fun z=>(pc+1+z.1.toNat,z.2))).drop (j+1)).reverse).length<=1000000):=HI.out.small;have hb5:=HI.out.below.size;clear hel hld hx1 hx2 hx3 hv e1;go_upto_region 20 with fail
        go_step
        (refine z00 rfl u5 wr kG ?_);simp only[pS]
        (refine z00 rfl (.slice (some ⟨gv,0,none⟩) q c10) wr kG ?_);simp only[pS]
        (refine z00 rfl (A G (j:Int)) wr kG ?_);simp only[pS]
        refine z00 rfl (pT (some ⟨gv,j*82,none⟩)) wr (by go_simp;try(intro h;omega)) ?_;simp only[pS];refine z8h rfl (.tmp 76) rfl gv (j*82) rfl px yx HEL.out ?_;simp only[pS];refine z1m rfl (.tmp 77) px yx rfl rfl ?_;simp only[pS];refine z90 rfl (.tmp 73) (.tmp 78) rfl w.heap.size u5 _ rfl HI.out.ways px yx rfl HF5.out hb5 ?_;intro V3 w13 hA3 hg3 hs3;have HL3:Hid (z8y w (posL st.reverse) (posL (ls.map fun z=>(pc+1+z.1.toNat,z.2))) (.slice (some ⟨gv,0,none⟩) q c10) E2 (es++[y.reg 0]) j V3 w13):=HI.out.lay HX1.out hA3 hg3 hs3;clear hA3 hg3 hs3;simp only[pS];go_wp2_with fail;go_roundw
        case rel=>exact⟨j,by go_num,HL3.out⟩
        case measure=>first|(simp[intOf];done)|(simp[intOf];omega)
     ·have x28:(c==28)=false:=by simpa using h28
      have HGS3:Hid (goF C D S R O N (3999-k) ((ls.map fun z=>(pc+1+z.1.toNat,z.2))++st) es=X):=by have:=HGS2.out;rw[if_neg h28]at this;exact this
      have HESL:Hid (es.length<=k):=H.out.esl;have HLay:Hid (z8y w (posL st.reverse) (posL (ls.map fun z=>(pc+1+z.1.toNat,z.2))) (.slice a10 q c10) u4 es q (.slice (some ⟨g,0,none⟩) m cp) w9):=⟨Nat.le_of_eq HQ.out.symm,hb9,by rw[List.drop_eq_nil_of_le (Nat.le_of_eq HQ.out),List.reverse_nil,List.append_nil];exact HP9.out,HA9.out,HE9.out,HSep.out,fun k e e2=>by have h3:=HAB.out k e2;have h4:g=k:=Option.some.inj e;omega,by rw[HQ.out,HM.out];omega⟩;clear HGS2;go_wp2_with fail;go_loopw [5,12] (fun vw vi wr2=> ∃j:Nat,vi=A G ((j:Int)-1)/\Hid (z8y w (posL st.reverse) (posL (ls.map fun z=>(pc+1+z.1.toNat,z.2))) (.slice a10 q c10) u4 es j vw wr2)) (fun _ vi _=>(intOf vi+1).toNat)
      case atStart=>exact⟨q,by go_num,HLay.out⟩
      case round=>
       obtain⟨j,rfl,HI⟩:=hrel;clear HLay
       cases j with
       |zero=>
        go_wp2_with fail;go_roundw
        case rel=>
         refine⟨k+1,(ls.map fun z=>(pc+1+z.1.toNat,z.2))++st,es,by go_num,by omega,HI.out.below,?_,HI.out.ends,HI.out.sepE,HLO.out,?_,?_,?_⟩
         ·rw[zL0];exact HI.out.ways
         ·have:=HL2.out;rw[List.length_append,List.length_map];omega
         ·have:=HESL.out;omega
         ·rw[show 4000-(k+1)=3999-k by omega];exact HGS3.out
        case measure=>first|(simp[intOf];done)|(simp[intOf];omega)
       |succ j=>
        have hj1:j+1<=q:=by have:=HI.out.jl;rw[HQ.out]at this;exact this
        obtain⟨x,hx1,hx2,hx3⟩:=HI.out.part;obtain⟨px,yx⟩:=x;obtain⟨gv,ha10, -, -,hgv⟩:=HI.out.led.some_of (by have:=HQ.out;omega);subst ha10;have hld:=HI.out.led;have hel:wr.rangeAt gv (j*82) (z03 px yx).toList:=by rw[hx2]at hld;have:=hld.elem;rw[hx3]at this;exact this
        have HEL:Hid (wr.rangeAt gv (j*82) (z03 px yx).toList):=hel;have HX1:Hid ((posL (ls.map fun z=>(pc+1+z.1.toNat,z.2))).drop j=(px,yx)::(posL (ls.map fun z=>(pc+1+z.1.toNat,z.2))).drop (j+1)):=hx1;have e1:((j+1:Nat):Int)-1=(j:Int):=kO;rw[e1];have hj0:(0:Int)<=(j:Int):=kO;have hj2:(j:Int)<(q:Int):=kO;have hwv:=HI.out.ways.shape;obtain⟨av,cv,hv⟩:=hwv;have HF5:Hid (((posL st.reverse)++((posL (ls.map fun z=>(pc+1+z.1.toNat,z.2))).drop (j+1)).reverse).length<=1000000):=HI.out.small;have hb5:=HI.out.below.size;clear hel hld hx1 hx2 hx3 hv e1;go_upto_region 20 with fail
        go_step
        (refine z00 rfl u5 wr kG ?_);simp only[pS]
        (refine z00 rfl (.slice (some ⟨gv,0,none⟩) q c10) wr kG ?_);simp only[pS]
        (refine z00 rfl (A G (j:Int)) wr kG ?_);simp only[pS]
        refine z00 rfl (pT (some ⟨gv,j*82,none⟩)) wr (by go_simp;try(intro h;omega)) ?_;simp only[pS];refine z8h rfl (.tmp 76) rfl gv (j*82) rfl px yx HEL.out ?_;simp only[pS];refine z1m rfl (.tmp 77) px yx rfl rfl ?_;simp only[pS];refine z90 rfl (.tmp 73) (.tmp 78) rfl w.heap.size u5 _ rfl HI.out.ways px yx rfl HF5.out hb5 ?_;intro V3 w13 hA3 hg3 hs3;have HL3:Hid (z8y w (posL st.reverse) (posL (ls.map fun z=>(pc+1+z.1.toNat,z.2))) (.slice (some ⟨gv,0,none⟩) q c10) u4 es j V3 w13):=HI.out.lay HX1.out hA3 hg3 hs3;clear hA3 hg3 hs3;simp only[pS];go_wp2_with fail;go_roundw
        case rel=>exact⟨j,by go_num,HL3.out⟩
        case measure=>first|(simp[intOf];done)|(simp[intOf];omega)
    ·have he2:(er !=0)=true:=by simpa using he
     go_upto_region 14 with fail
     go_region;go_wp2_with fail;exact bodyPost_ret (v:= .tuple #[.slice none 0 0,.iface 134 (pT (some ⟨w9.heap.size,0,none⟩))]) (by simp[results,Tryz.results49,go_sem]) rfl ⟨(hb9.alloc hb9.size _).drew,(by rw[<-HGS.out,if_pos he];exact⟨w9.heap.size,rfl,hb9.size,(z8w _ _ _ _).2.2,(z8w _ _ _ _).1,(z8w _ _ _ _).2.1⟩)⟩
def z78(es:List Kno)(i:Nat):Int×Int:=((es.getD i kno0).l,(es.getD i kno0).h)
theorem zBe(es:List Kno): ∀i,i<es.length->(z37 es)[i*2]?=some (A G (z78 es i).1)/\(z37 es)[i*2+1]?=some (A G (z78 es i).2):=by
 induction es with
 |nil=>intro i hi;exact absurd hi kS
 |cons b es ih=>
  intro i hi
  cases i with
  |zero=>exact⟨rfl,rfl⟩
  |succ i=>
   obtain⟨h1,h2⟩:=ih i (by simpa using hi);unfold z37 z78 at*;rw[List.flatMap_cons,show(i+1)*2=(i*2+1)+1 by omega];exact⟨h1,h2⟩
theorem zJb{w:World}{base:Nat}{v:Value}{es:List Kno}(h:z35 w base v es)(hl:es.length<=4000):zR 50 #[v] w (.agg #[A G (z1d (z78 es) es.length).1,A G (z1d (z78 es) es.length).2]):=by
 rcases h.2 with⟨h1,h2⟩|⟨g,cap,cur,h1,h2,h3,h4⟩
 ·rw[h1,h2];exact z6b none 0 w
 rw[h1]
 by_cases hz:es.length=0
 ·rw[hz];exact z6b _ cap w
 refine zAz g es.length cap (z78 es) kO kO w (Array.getElem?_eq_some_iff.1 h3).1 (fun i hi=>?_);obtain⟨e1,e2⟩:=zBe es i hi;have k1:=World.ownsRow.cells h (g:=g) (by rw[h1];rfl) _ _ e1;have k2:=World.ownsRow.cells h (g:=g) (by rw[h1];rfl) _ _ e2;rw[Addr.add_mid,Nat.zero_add]at k1 k2;exact⟨k1,k2⟩
theorem zGd{bk off len cap:Nat}{C D S O N:Nat->Int}{R:Nat->Bool}{w:World}{i:Nat}(hi:i<len)(hno: ∀j,j<i->z0l len C D S R O N j=0)(hf:z0l len C D S R O N i≠0)(hst:z1g w bk off len C D S R O N)(h1:1<=len)(h2:len<=200)(hbk:bk<w.heap.size):
  Calls tP 48 #[.slice (some ⟨bk,off,none⟩) len cap] w fun e w'=> ∃p,e= rT (.iface 134 (pT (some ⟨p,0,none⟩)))/\w.heap.size<=p/\Below w.heap.size w w'/\p<w'.heap.size/\w'.cell? ⟨p,0,none⟩=some (A G (z0l len C D S R O N i))/\w'.cell? ⟨p,1,none⟩=some (A G (i:Int)):=by
 refine(z7s bk off len cap C D S O N R w h1 h2 hbk hst).mono fun e w' hh=>?_;obtain⟨hb,hh⟩:=hh;rcases hh with⟨_,h⟩|⟨k,p,hk,hno',hf',he,hp,hc0,hc1⟩
 ·exact absurd (h i hi) hf
 obtain rfl:=zCk hno hf hno' hf';exact⟨p,he,hp,hb,World.block_lt_of_cell? w' _ hc0,hc0,hc1⟩
theorem z8c{w:World}{B p o o' q:Nat}{x y:Value}(hne:p≠B):((w.setCell ⟨B,o,none⟩ x).setCell ⟨B,o',none⟩ y).cell? ⟨p,q,none⟩=w.cell? ⟨p,q,none⟩:=
 World.cell?_of_block ((Below.heap_setCell _ _ _ p hne).trans (Below.heap_setCell _ _ _ p hne))
theorem zFi(a:Option Addr)(len cap:Nat)(h:len<1\/200<len)(w:World):
  zR 32 #[.slice a len cap] w (.tuple #[.agg #[A G 0,A G 0],.iface 30 (A G 4)]):=by
 have hK0:Blk w [(w.heap.size,cT #[A G 0,A G 0] 113 (0,0))] (w.alloc (cT #[A G 0,A G 0] 113)):=(Blk.nil ((bF _ _).alloc (Nat.le_refl _) _)).cons (heap_alloc_new w _);go_enter Tryz.func32,Tryz.ntmps32;go_upto_region 1 with fail
 generalize (w.alloc (cT #[A G 0,A G 0] 113))=w0 at hK0⊢;go_step
 (refine z00 rfl (.slice a len cap) w0 kG ?_);simp only[pS]
 (refine z0m rfl 48 #[.slice a len cap] kG (.iface 30 (A G 4)) (zEd a len cap h w0) ?_)
 intro w1 hw1;subst hw1;have hK1:=hK0;obtain⟨r0,r1,rf0,rf1,rlt⟩:=row2 (hK1.2 _ mcS);simp only[pS];go_wp2_with fail;exact bodyPost_ret (v:= .tuple #[.agg #[A G 0,A G 0],.iface 30 (A G 4)]) (by simp[results,Tryz.results32,go_sem, *]) rfl ⟨rfl,(hK1.1.setCell (Nat.le_refl _) _).setCell (Nat.le_refl _) _⟩
theorem zFh(bk off len cap:Nat)(C D S O N:Nat->Int)(R:Nat->Bool)(w:World)(h1:1<=len)(h2:len<=200)(hbk:bk<w.heap.size)(hst:z1g w bk off len C D S R O N)(i:Nat)(hi:i<len)(hno: ∀j,j<i->z0l len C D S R O N j=0)(hfa:z0l len C D S R O N i≠0):
  Calls tP 32 #[.slice (some ⟨bk,off,none⟩) len cap] w fun e w'=> ∃p,e= rT (.tuple #[.agg #[A G 0,A G 0],.iface 134 (pT (some ⟨p,0,none⟩))])/\Below w.heap.size w w'/\w.heap.size<p/\p<w'.heap.size/\w'.cell? ⟨p,0,none⟩=some (A G (z0l len C D S R O N i))/\w'.cell? ⟨p,1,none⟩=some (A G (i:Int)):=by
 have hK0:Blk w [(w.heap.size,cT #[A G 0,A G 0] 113 (0,0))] (w.alloc (cT #[A G 0,A G 0] 113)):=(Blk.nil ((bF _ _).alloc (Nat.le_refl _) _)).cons (heap_alloc_new w _);go_enter Tryz.func32,Tryz.ntmps32;go_upto_region 1 with fail
 generalize (w.alloc (cT #[A G 0,A G 0] 113))=w0 at hK0⊢;go_step
 (refine z00 rfl (.slice (some ⟨bk,off,none⟩) len cap) w0 kG ?_);simp only[pS]
 have hst0:=hst.later (hK0.1) hbk;have hbk0:=Nat.lt_of_lt_of_le hbk hK0.1.size;refine z0w rfl 48 #[.slice (some ⟨bk,off,none⟩) len cap] kG (R:=fun x w'=> ∃p,x= .iface 134 (pT (some ⟨p,0,none⟩))/\w0.heap.size<=p/\Below w0.heap.size w0 w'/\p<w'.heap.size/\w'.cell? ⟨p,0,none⟩=some (A G (z0l len C D S R O N i))/\w'.cell? ⟨p,1,none⟩=some (A G (i:Int))) ((zGd (cap:=cap) hi hno hfa hst0 h1 h2 hbk0).mono fun e w' h=>by obtain⟨p,h1,h2⟩:=h;exact⟨_,h1,p,rfl,h2⟩) ?_;intro v1 w1 hq;obtain⟨p,rfl,hp0,hb1,hp1,c0,c1⟩:=hq;have hK1:=hK0.later hb1;obtain⟨r0,r1,rf0,rf1,rlt⟩:=row2 (hK1.2 _ mcS);have hw0:=hK0.lt mcS;have hpne:p≠w.heap.size:=kO;simp only[pS];go_wp2_with fail;exact bodyPost_ret (v:= .tuple #[.agg #[A G 0,A G 0],.iface 134 (pT (some ⟨p,0,none⟩))]) (by simp[results,Tryz.results32,go_sem, *]) rfl ⟨p,rfl,(hK1.1.setCell (Nat.le_refl _) _).setCell (Nat.le_refl _) _,by omega,by simpa using hp1,(z8c hpne).trans c0,(z8c hpne).trans c1⟩
theorem zLc(bk off len cap:Nat)(C D S O N:Nat->Int)(R:Nat->Bool)(w:World)(h1:1<=len)(h2:len<=200)(hbk:bk<w.heap.size)(hst:z1g w bk off len C D S R O N)(h: ∀j,j<len->z0l len C D S R O N j=0)(hf: ∀i,i<len->In64 (O i)/\In64 (N i)):(∀(es:List Kno)(hgo:goF C D S R O N 4000 [(0,way0)] []= .inr es),zR 32 #[.slice (some ⟨bk,off,none⟩) len cap] w (.tuple #[.agg #[A G (z1d (z78 es) es.length).1,A G (z1d (z78 es) es.length).2],.nilIface]))/\(∀(er:Int)(i:Nat)(hgo:goF C D S R O N 4000 [(0,way0)] []= .inl (er,i)),Calls tP 32 #[.slice (some ⟨bk,off,none⟩) len cap] w fun e w'=> ∃p,e= rT (.tuple #[.agg #[A G 0,A G 0],.iface 134 (pT (some ⟨p,0,none⟩))])/\Below w.heap.size w w'/\w.heap.size<p/\p<w'.heap.size/\w'.cell? ⟨p,0,none⟩=some (A G er)/\w'.cell? ⟨p,1,none⟩=some (A G (i:Int))):=by
 refine⟨?_,?_⟩;intro es hgo;rotate_left;intro er i hgo;rotate_left
 all_goals
  have hK0:Blk w [(w.heap.size,cT #[A G 0,A G 0] 113 (0,0))] (w.alloc (cT #[A G 0,A G 0] 113)):=(Blk.nil ((bF _ _).alloc (Nat.le_refl _) _)).cons (heap_alloc_new w _)
 all_goals
  go_enter Tryz.func32,Tryz.ntmps32;go_upto_region 1 with fail
  generalize (w.alloc (cT #[A G 0,A G 0] 113))=w0 at hK0⊢;go_step
  (refine z00 rfl (.slice (some ⟨bk,off,none⟩) len cap) w0 kG ?_);simp only[pS]
  have hst0:=hst.later (hK0.1) hbk;have hbk0:=Nat.lt_of_lt_of_le hbk hK0.1.size
  (refine z0m rfl 48 #[.slice (some ⟨bk,off,none⟩) len cap] kG .nilIface (z5r h hst0 h1 h2 hbk0) ?_)
  intro w1 hb1;have hK1:=hK0.later hb1;have hst1:=hst0.later hb1 hbk0;have hbk1:=Nat.lt_of_lt_of_le hbk0 hb1.size;simp only[pS];go_upto_region 4 with fail
  go_step
  (refine z00 rfl (.slice (some ⟨bk,off,none⟩) len cap) w1 kG ?_);simp only[pS]
 ·refine z0w rfl 49 #[.slice (some ⟨bk,off,none⟩) len cap] kG (R:=fun x w'=> ∃E,x= .tuple #[E,.nilIface]/\Below w1.heap.size w1 w'/\z35 w' w1.heap.size E es/\es.length<=4000) ((zGx bk off len cap C D S O N R w1 h1 h2 hbk1 hst1 (fun i hi=>z56 (h i hi)) hf).mono fun e w' hh=>by rw[hgo]at hh;obtain⟨hb,hh⟩:=hh;obtain⟨E,h3,h4⟩:=hh;exact⟨_,h3,E,rfl,hb,h4⟩) ?_
  intro v2 w2 hq;obtain⟨E,rfl,hb2,hE2,hl2⟩:=hq;have hK2:=hK1.later hb2;simp only[pS];go_upto_region 7 with fail
  go_step
  (refine z00 rfl E w2 kG ?_);simp only[pS]
  (refine z0m rfl 50 #[E] kG (.agg #[A G (z1d (z78 es) es.length).1,A G (z1d (z78 es) es.length).2]) (zJb hE2 hl2) ?_)
  intro w3 hb3;have hK1:=hK2.later hb3;obtain⟨r0,r1,rf0,rf1,rlt⟩:=row2 (hK1.2 _ mcS);simp only[pS];clear hE2;go_wp2_with fail;exact bodyPost_ret (v:= .tuple #[.agg #[A G (z1d (z78 es) es.length).1,A G (z1d (z78 es) es.length).2],.nilIface]) (by simp[results,Tryz.results32,go_sem, *]) rfl ⟨rfl,(hK1.1.setCell (Nat.le_refl _) _).setCell (Nat.le_refl _) _⟩
 ·refine z0w rfl 49 #[.slice (some ⟨bk,off,none⟩) len cap] kG (R:=fun x w'=> ∃p,x= .tuple #[.slice none 0 0,.iface 134 (pT (some ⟨p,0,none⟩))]/\Below w1.heap.size w1 w'/\w1.heap.size<=p/\p<w'.heap.size/\w'.cell? ⟨p,0,none⟩=some (A G er)/\w'.cell? ⟨p,1,none⟩=some (A G (i:Int))) ((zGx bk off len cap C D S O N R w1 h1 h2 hbk1 hst1 (fun i hi=>z56 (h i hi)) hf).mono fun e w' hh=>by rw[hgo]at hh;obtain⟨hb,hh⟩:=hh;obtain⟨p,h3,h4⟩:=hh;exact⟨_,h3,p,rfl,hb,h4⟩) ?_
  intro v2 w2 hq;obtain⟨p,rfl,hb2,hp0,hp1,c0,c1⟩:=hq;have hw1:=hK1.lt mcS;have hpne:p≠w.heap.size:=kO;have hK1:=hK1.later hb2;obtain⟨r0,r1,rf0,rf1,rlt⟩:=row2 (hK1.2 _ mcS);simp only[pS];go_wp2_with fail;exact bodyPost_ret (v:= .tuple #[.agg #[A G 0,A G 0],.iface 134 (pT (some ⟨p,0,none⟩))]) (by simp[results,Tryz.results32,go_sem, *]) rfl ⟨p,rfl,(hK1.1.setCell (Nat.le_refl _) _).setCell (Nat.le_refl _) _,by omega,by simpa using hp1,(z8c hpne).trans c0,(z8c hpne).trans c1⟩
def zAb:=fun bk off len cap C D S O N R w h1 h2 hbk hst h hf=>(@zLc bk off len cap C D S O N R w h1 h2 hbk hst h hf).1
def zMe:=fun bk off len cap C D S O N R w h1 h2 hbk hst h hf=>(@zLc bk off len cap C D S O N R w h1 h2 hbk hst h hf).2
end
end Go.Proofs.YtabjjgkmegcacaaGreatDoor
