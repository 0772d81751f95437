/-
A part of the proof of DeskPieces; its card says what is proved.
-/
import Derived.Test.YtkdflpplamebkaaGreatDoorJp25
set_option maxHeartbeats 40000000
open Go.Value renaming int → A
open Go.IntKind renaming i64 → D
open Go.RowKit.Below renaming alloc → bA, setCell → bS, drew → bD, refl → bF
set_option maxRecDepth 1000000
set_option linter.defProp false
set_option linter.unusedVariables false
set_option linter.unusedSimpArgs false
open Go.Ending renaming returned → rT
open Go.Value renaming pointer → pT
open Go.Obj renaming cells → cT
open Go.Proofs.Tryz renaming prog → tP
namespace Go.Proofs.YtkdflpplamebkaaGreatDoor
open Go.ChangeShapes Go.WideShapes Go.ChangeAt Go.RowKit
section
attribute [local simp] z05 z0a z06
theorem z0v{P:Program}{ops:Array Oper}{rest:List Oper}{o:Oper}{a:Act}{w:World}{Q:Exit->Act->World->Prop}(hg:o.guard=none)
  (f:FuncId)(args:Array Value)(hrun:(execOp a.eval o).run P w= .ok (.enter f args) w){R:Value->World->Prop}
  (hc:Calls P f args w fun e w'=> ∃v,e= rT v/\R v w')(h: ∀v w',R v w'->wpList P ops Q rest (a.put o.dst v) w'):wpList P ops Q (o::rest) a w:=by
 refine wpList_plain hg fun K hK=>?_;unfold Oper.wp;rw[hrun,Oper.upon_enter];refine hc.mono fun e w' hh=>?_;obtain⟨v,rfl,hr⟩:=hh;exact hK _ _ (h v w' hr)
theorem zV8{d s:Nat}{c o n p:Int}{r:Bool}{y:Way}(hd:d<11)(hs:s<11)(hc:15<=c/\c<=24)(hp0:0<=p)(hp1:p<=1000)(ho0:0<=o)(ho1:o<=1000)(hy:y.Ok)(hn:In64 n)(w:World):
  Calls tP 177 #[.agg (z04 p y),.agg #[A D c,A D d,A D s,.bool r,A D o,A D n]] w fun e w'=> ∃v,e= rT v/\z0g w' w.heap.size v ((y.askNumbers c d s r o n).map fun x=>(p+(1+x.1),x.2))/\Below w.heap.size w w':=by
 have HN1:=fun(W:World) (B:Nat) (hW:z03 W B (p+1) y)=>zCs (c:=c) (o:=o) (r:=r) (code:=oppV c) hd hs hy hn hW;have HN2:=fun(W:World) (B:Nat) (hW:z03 W B (p+(1+o)) y)=>zCs (c:=c) (o:=o) (r:=r) (code:=c) hd hs hy hn hW;unfold Way.askNumbers;generalize y.narrow (oppV c) d s r n=z1 at*;generalize y.narrow c d s r n=z2 at*;obtain⟨b1,y1⟩:=z1;obtain⟨b2,y2⟩:=z2;have h:=q0n d s c o n p r b1 b2 y y1 y2 hc hp0 hp1 ho0 ho1 HN1 HN2 w;refine h.mono fun e w' hh=>?_;obtain⟨v,h1,h2,h3⟩:=hh;refine⟨v,h1,?_,h3⟩
 cases b1<;>cases b2<;>simpa using h2
theorem zV7{d s:Nat}{c o n p:Int}{r:Bool}{y:Way}(hd:d<11)(hs:s<11)(hc:15<=c/\c<=24)(hp0:0<=p)(hp1:p<=1000)(ho0:0<=o)(ho1:o<=1000)(w:World):
  Calls tP 178 #[.agg (z04 p y),.agg #[A D c,A D d,A D s,.bool r,A D o,A D n]] w fun e w'=> ∃v,e= rT v/\z0g w' w.heap.size v ((y.askPlace c d o).map fun x=>(p+(1+x.1),x.2))/\Below w.heap.size w w':=by
 have h:=q0m d s c o n p r y hd hp0 hp1 ho0 ho1 (c==16) ((y.reg d).k !=5) rfl rfl w;refine h.mono fun e w' hh=>?_;obtain⟨v,h1,h2,h3⟩:=hh;refine⟨v,h1,?_,h3⟩;unfold Way.askPlace
 by_cases e16:c=16<;>by_cases e5:(y.reg d).k=5<;>simpa[e16,e5,z1n]using h2
theorem q0o{d s:Nat}{c o n p:Int}{r:Bool}{y:Way}(hd:d<11)(hs:s<11)(hc:15<=c/\c<=24)(hp0:0<=p)(hp1:p<=1000)(ho0:0<=o)(ho1:o<=1000)(hy:y.Ok)(hn:In64 n)(w:World):
  Calls tP 140 #[.agg (z04 p y),.agg #[A D c,A D d,A D s,.bool r,A D o,A D n]] w fun e w'=> ∃v,e= rT (.tuple #[v,A D (y.ask c d s r o n).2])/\z0g w' w.heap.size v ((y.ask c d s r o n).1.map fun x=>(p+(1+x.1),x.2))/\Below w.heap.size w w':=by
 have HA:Hid (∀W:World,Calls tP 177 #[.agg (z04 p y),.agg #[A D c,A D d,A D s,.bool r,A D o,A D n]] W fun e w'=> ∃v,e= rT v/\z0g w' W.heap.size v ((y.askNumbers c d s r o n).map fun x=>(p+(1+x.1),x.2))/\Below W.heap.size W w'):=fun W=>zV8 (r:=r) hd hs hc hp0 hp1 ho0 ho1 hy hn W;have HP:Hid (∀W:World,Calls tP 178 #[.agg (z04 p y),.agg #[A D c,A D d,A D s,.bool r,A D o,A D n]] W fun e w'=> ∃v,e= rT v/\z0g w' W.heap.size v ((y.askPlace c d o).map fun x=>(p+(1+x.1),x.2))/\Below W.heap.size W w'):=fun W=>zV7 (r:=r) (n:=n) (y:=y) hd hs hc hp0 hp1 ho0 ho1 W;clear hy hn hc hp0 hp1 ho0 ho1;unfold Way.ask;rcases hv:y.second s r n with⟨bk,bl,bh⟩
 have HB:Hid (y.second s r n=⟨bk,bl,bh⟩):=hv;clear hv;dsimp only;rcases hX:(if(y.reg d).k=0\/bk=0 then(([]:List (Int×Way)),(8:Int))else if(y.reg d).k=1/\bk=1 then(y.askNumbers c d s r o n,0)else if(c≠15/\c≠16)\/r=true\/n≠0 then([],1)else(y.askPlace c d o,0))with⟨ls,E⟩
 have HX:Hid ((if(y.reg d).k=0\/bk=0 then(([]:List (Int×Way)),(8:Int))else if(y.reg d).k=1/\bk=1 then(y.askNumbers c d s r o n,0)else if(c≠15/\c≠16)\/r=true\/n≠0 then([],1)else(y.askPlace c d o,0))=(ls,E)):=hX;clear hX;dsimp only;have hK0:Blk w [(w.heap.size,cT (z04 p y) 196 (0,0)),(w.heap.size+1,cT #[A D c,A D d,A D s,.bool r,A D o,A D n] 135 (0,0))] _:=((Blk.nil (((bF _ _).alloc (Nat.le_refl _) _).alloc kS _)).cons (heap_alloc2_new w (cT (z04 p y) 196) (cT #[A D c,A D d,A D s,.bool r,A D o,A D n] 135))).cons ((z03.start w p y).alloc (cT #[A D c,A D d,A D s,.bool r,A D o,A D n] 135));have hd0:(0:Int)<=(d:Int):=kO;have hd1:(d:Int)<11:=kO;go_enter Tryz.func140,Tryz.ntmps140;go_wp2_with fail;refine z0n (C:=Blk w [(w.heap.size,cT (z04 p y) 196 (0,0)),(w.heap.size+1,cT #[A D c,A D d,A D s,.bool r,A D o,A D n] 135 (0,0))]) (n0:=w.heap.size+1+1) 7 [] [cT #[A D 0,A D 0,A D 0] 192 (0,0),cT #[A D 0,A D 0,A D 0] 192 (0,0)] kR kR (fun d _ _ _ _ h=>by cases d<;>exact h) (Blk.stable _ _) (Blk.room w (mcO _ mcS)) hK0.drew ⟨⟨rfl,fun a w2 hC=>by go_simp;try rfl⟩,⟨rfl,fun a w2 hC=>by go_simp;try rfl⟩,trivial⟩ ?_;simp only[List.take_succ_cons,List.take_zero,List.drop_succ_cons,List.drop_zero,List.length_cons,List.length_nil,Nat.reduceAdd]
 repeat(first
  |(refine z0k kI ?_;simp only[pS])
  |(refine z09 kI (v:=?_) ?_ ?_;rotate_left;(intro w2 hC;have yW:z03 _ w.heap.size _ _:=(hC.2 _ mcS);have ylt:=yW.lt;obtain⟨i0,i1,i2⟩:=yW.reg hd;obtain⟨p0,p1,p2,p3,p4,p5,ltS⟩:=row6 (hC.2 _ (mcO _ mcS));go_simp;try with_reducible rfl);simp only[pS])
  |(refine z0t kI ?_;apply Exists.intro;refine⟨fun w2 hC=>?_,?_⟩;(have yW:z03 _ w.heap.size _ _:=(hC.2 _ mcS);have ylt:=yW.lt;obtain⟨i0,i1,i2⟩:=yW.reg hd;obtain⟨p0,p1,p2,p3,p4,p5,ltS⟩:=row6 (hC.2 _ (mcO _ mcS));go_simp;apply z10;first|(go_at_call 176;exact(by have hq:=z3w w.heap.size s c d o n r p y hs w2 yW;rw[HB.out]at hq;unfold Kno.v at hq;exact hq)));simp only[pS]))
 refine z0r ?_;intro L h5 g5 K h6 g6 w3 hC hB3;have hne:K≠L:=(FB.upd_none h6).1;have hne':L≠K:=fun e=>hne e.symm;have bK:=hB3 K _ (FB.at_new _ _ _);have bL:=hB3 L _ (FB.at_old hne' (FB.at_new _ _ _));obtain⟨l0,l1,l2,lf0,lf1,lf2,llt⟩:=row3 bL;obtain⟨k0,k1,k2,kf0,kf1,kf2,klt⟩:=row3 bK;have yW:z03 _ w.heap.size _ _:=(hC.2 _ mcS);have ylt:=yW.lt;obtain⟨i0,i1,i2⟩:=yW.reg hd;obtain⟨p0,p1,p2,p3,p4,p5,ltS⟩:=row6 (hC.2 _ (mcO _ mcS));have hbw:=hC.1;have n1:w.heap.size+1≠L:=kO;have n2:w.heap.size≠L:=kO;have n3:w.heap.size+1≠K:=kO;have n4:w.heap.size≠K:=kO;simp only[zAx];go_upto_region 2 with fail
 have hK1:Blk w [(L,cT #[A D (y.reg d).k,A D (y.reg d).l,A D (y.reg d).h] 192 (0,0)),(K,cT #[A D bk,A D bl,A D bh] 192 (0,0)),(w.heap.size,cT (z04 p y) 196 (0,0)),(w.heap.size+1,cT #[A D c,A D d,A D s,.bool r,A D o,A D n] 135 (0,0))] (((((((w3.setCell ⟨L,0,none⟩ (A D (y.reg d).k)).setCell ⟨L,1,none⟩ (A D (y.reg d).l)).setCell ⟨L,2,none⟩ (A D (y.reg d).h))).setCell ⟨K,0,none⟩ (A D bk)).setCell ⟨K,1,none⟩ (A D bl)).setCell ⟨K,2,none⟩ (A D bh)):=((((Blk.nil kW).cons (off3 (off3 (hC.2 _ (mcO _ mcS)) n1) n3)).cons (off3 (off3 (hC.2 _ mcS) n2) n4)).cons (put3 (off3 bK hne))).cons (off3 (put3 bL) hne');clear l0 l1 l2 lf0 lf1 lf2 llt k0 k1 k2 kf0 kf1 kf2 klt p0 p1 p2 p3 p4 p5 ltS yW ylt i0 i1 i2;clear hbw bL bK hB3 hC hK0 n1 n2 n3 n4 HB;generalize (((((((w3.setCell ⟨L,0,none⟩ (A D (y.reg d).k)).setCell ⟨L,1,none⟩ (A D (y.reg d).l)).setCell ⟨L,2,none⟩ (A D (y.reg d).h))).setCell ⟨K,0,none⟩ (A D bk)).setCell ⟨K,1,none⟩ (A D bl)).setCell ⟨K,2,none⟩ (A D bh))=w4 at hK1⊢;obtain⟨l0,l1,l2,lf0,lf1,lf2,llt⟩:=row3 (hK1.2 _ mcS);obtain⟨k0,k1,k2,kf0,kf1,kf2,klt⟩:=row3 (hK1.2 _ (mcO _ mcS));have yW:z03 _ w.heap.size _ _:=(hK1.2 _ (mcO _ (mcO _ mcS)));have ylt:=yW.lt;obtain⟨p0,p1,p2,p3,p4,p5,ltS⟩:=row6 (hK1.2 _ (mcO _ (mcO _ (mcO _ mcS))));have eX:=HX.out;clear HX
 by_cases h1:(y.reg d).k=0
 ·have x1:((y.reg d).k==0)=true:=by simp[h1]
  rw[if_pos (Or.inl h1)]at eX
  cases eX;clear h1;go_wp2_with fail;exact bodyPost_ret (v:= .tuple #[.slice none 0 0,A D 8]) (by simp[results,Tryz.results140,go_sem]) rfl ⟨_,rfl,z0g.nil _ _,hK1.1⟩
 by_cases h2:bk=0
 ·have x1:((y.reg d).k==0)=false:=by simp[h1]
  have x2:(bk==0)=true:=by simp[h2]
  rw[if_pos (Or.inr h2)]at eX
  cases eX;clear h1 h2;go_wp2_with fail;exact bodyPost_ret (v:= .tuple #[.slice none 0 0,A D 8]) (by simp[results,Tryz.results140,go_sem]) rfl ⟨_,rfl,z0g.nil _ _,hK1.1⟩
 rw[if_neg (fun e=>e.elim h1 h2)]at eX;have x1:((y.reg d).k==0)=false:=by simp[h1]
 have x2:(bk==0)=false:=by simp[h2]
 clear h1 h2
 by_cases h34:(y.reg d).k=1/\bk=1
 ·rw[if_pos h34]at eX
  cases eX;have x3:((y.reg d).k==1)=true:=by simp[h34.1]
  have x4:(bk==1)=true:=by simp[h34.2]
  clear h34;go_upto_region 5 with fail
  go_step
  (refine wpList_load_row rfl 196 (.tmp 2) rfl w.heap.size rfl 196 (z04 p y) (0,0) _ yW Tryz.underlying196 rfl (z0o _ _) ?_)
  simp only[pS]
  (refine z00 rfl (.agg #[A D c,A D d,A D s,.bool r,A D o,A D n]) w4 kG ?_);simp only[pS]
  refine z0v rfl 177 #[.agg (z04 p y),.agg #[A D c,A D d,A D s,.bool r,A D o,A D n]] kG (HA.out w4) ?_;intro v5 w5 hq;obtain⟨hA5,hB5⟩:=hq;have hK5:=hK1.later hB5;have hs5:=hK1.1.size;simp only[pS];clear hK1 l0 l1 l2 lf0 lf1 lf2 llt k0 k1 k2 kf0 kf1 kf2 klt p0 p1 p2 p3 p4 p5 ltS yW ylt;go_wp2_with fail;exact bodyPost_ret (v:= .tuple #[v5,A D 0]) (by simp[results,Tryz.results140,go_sem]) rfl ⟨_,rfl,hA5.mono hs5,hK5.1⟩
 rw[if_neg h34]at eX
 by_cases h3:(y.reg d).k=1
 ·have x3:((y.reg d).k==1)=true:=by simp[h3]
  have x4:(bk==1)=false:=by simp;exact fun e=>h34 ⟨h3,e⟩
  clear h3 h34
  by_cases h5:c=15
  ·have x5:(c !=15)=false:=by simp[h5]
   cases r
   ·by_cases h7:n=0
    ·have x7:(n !=0)=false:=by simp[h7]
     rw[if_neg (by simp[h5,h7])]at eX
     cases eX;clear h7 h5;go_upto_region 8 with fail
     go_step
     (refine wpList_load_row rfl 196 (.tmp 2) rfl w.heap.size rfl 196 (z04 p y) (0,0) _ yW Tryz.underlying196 rfl (z0o _ _) ?_)
     simp only[pS]
     (refine z00 rfl (.agg #[A D c,A D d,A D s,.bool false,A D o,A D n]) w4 kG ?_);simp only[pS]
     refine z0v rfl 178 #[.agg (z04 p y),.agg #[A D c,A D d,A D s,.bool false,A D o,A D n]] kG (HP.out w4) ?_;intro v5 w5 hq;obtain⟨hA5,hB5⟩:=hq;have hK5:=hK1.later hB5;have hs5:=hK1.1.size;simp only[pS];clear hK1 l0 l1 l2 lf0 lf1 lf2 llt k0 k1 k2 kf0 kf1 kf2 klt p0 p1 p2 p3 p4 p5 ltS yW ylt;go_wp2_with fail;exact bodyPost_ret (v:= .tuple #[v5,A D 0]) (by simp[results,Tryz.results140,go_sem]) rfl ⟨_,rfl,hA5.mono hs5,hK5.1⟩
    ·have x7:(n !=0)=true:=by simp[h7]
     rw[if_pos (Or.inr (Or.inr h7))]at eX
     cases eX;clear h7 h5;go_wp2_with fail;exact bodyPost_ret (v:= .tuple #[.slice none 0 0,A D 1]) (by simp[results,Tryz.results140,go_sem]) rfl ⟨_,rfl,z0g.nil _ _,hK1.1⟩
   ·rw[if_pos (Or.inr (Or.inl rfl))]at eX
    cases eX;clear h5;go_wp2_with fail;exact bodyPost_ret (v:= .tuple #[.slice none 0 0,A D 1]) (by simp[results,Tryz.results140,go_sem]) rfl ⟨_,rfl,z0g.nil _ _,hK1.1⟩
  have x5:(c !=15)=true:=by simp[h5]
  by_cases h6:c=16
  ·have x6:(c !=16)=false:=by simp[h6]
   cases r
   ·by_cases h7:n=0
    ·have x7:(n !=0)=false:=by simp[h7]
     rw[if_neg (by simp[h6,h7])]at eX
     cases eX;clear h7 h6;go_upto_region 8 with fail
     go_step
     (refine wpList_load_row rfl 196 (.tmp 2) rfl w.heap.size rfl 196 (z04 p y) (0,0) _ yW Tryz.underlying196 rfl (z0o _ _) ?_)
     simp only[pS]
     (refine z00 rfl (.agg #[A D c,A D d,A D s,.bool false,A D o,A D n]) w4 kG ?_);simp only[pS]
     refine z0v rfl 178 #[.agg (z04 p y),.agg #[A D c,A D d,A D s,.bool false,A D o,A D n]] kG (HP.out w4) ?_;intro v5 w5 hq;obtain⟨hA5,hB5⟩:=hq;have hK5:=hK1.later hB5;have hs5:=hK1.1.size;simp only[pS];clear hK1 l0 l1 l2 lf0 lf1 lf2 llt k0 k1 k2 kf0 kf1 kf2 klt p0 p1 p2 p3 p4 p5 ltS yW ylt;go_wp2_with fail;exact bodyPost_ret (v:= .tuple #[v5,A D 0]) (by simp[results,Tryz.results140,go_sem]) rfl ⟨_,rfl,hA5.mono hs5,hK5.1⟩
    ·have x7:(n !=0)=true:=by simp[h7]
     rw[if_pos (Or.inr (Or.inr h7))]at eX
     cases eX;clear h7 h6;go_wp2_with fail;exact bodyPost_ret (v:= .tuple #[.slice none 0 0,A D 1]) (by simp[results,Tryz.results140,go_sem]) rfl ⟨_,rfl,z0g.nil _ _,hK1.1⟩
   ·rw[if_pos (Or.inr (Or.inl rfl))]at eX
    cases eX;clear h6;go_wp2_with fail;exact bodyPost_ret (v:= .tuple #[.slice none 0 0,A D 1]) (by simp[results,Tryz.results140,go_sem]) rfl ⟨_,rfl,z0g.nil _ _,hK1.1⟩
  have x6:(c !=16)=true:=by simp[h6]
  rw[if_pos (Or.inl ⟨h5,h6⟩)]at eX
  cases eX;clear h5 h6;go_wp2_with fail;exact bodyPost_ret (v:= .tuple #[.slice none 0 0,A D 1]) (by simp[results,Tryz.results140,go_sem]) rfl ⟨_,rfl,z0g.nil _ _,hK1.1⟩
 have x3:((y.reg d).k==1)=false:=by simp[h3]
 clear h3 h34
 by_cases h5:c=15
 ·have x5:(c !=15)=false:=by simp[h5]
  cases r
  ·by_cases h7:n=0
   ·have x7:(n !=0)=false:=by simp[h7]
    rw[if_neg (by simp[h5,h7])]at eX
    cases eX;clear h7 h5;go_upto_region 8 with fail
    go_step
    (refine wpList_load_row rfl 196 (.tmp 2) rfl w.heap.size rfl 196 (z04 p y) (0,0) _ yW Tryz.underlying196 rfl (z0o _ _) ?_)
    simp only[pS]
    (refine z00 rfl (.agg #[A D c,A D d,A D s,.bool false,A D o,A D n]) w4 kG ?_);simp only[pS]
    refine z0v rfl 178 #[.agg (z04 p y),.agg #[A D c,A D d,A D s,.bool false,A D o,A D n]] kG (HP.out w4) ?_;intro v5 w5 hq;obtain⟨hA5,hB5⟩:=hq;have hK5:=hK1.later hB5;have hs5:=hK1.1.size;simp only[pS];clear hK1 l0 l1 l2 lf0 lf1 lf2 llt k0 k1 k2 kf0 kf1 kf2 klt p0 p1 p2 p3 p4 p5 ltS yW ylt;go_wp2_with fail;exact bodyPost_ret (v:= .tuple #[v5,A D 0]) (by simp[results,Tryz.results140,go_sem]) rfl ⟨_,rfl,hA5.mono hs5,hK5.1⟩
   ·have x7:(n !=0)=true:=by simp[h7]
    rw[if_pos (Or.inr (Or.inr h7))]at eX
    cases eX;clear h7 h5;go_wp2_with fail;exact bodyPost_ret (v:= .tuple #[.slice none 0 0,A D 1]) (by simp[results,Tryz.results140,go_sem]) rfl ⟨_,rfl,z0g.nil _ _,hK1.1⟩
  ·rw[if_pos (Or.inr (Or.inl rfl))]at eX
   cases eX;clear h5;go_wp2_with fail;exact bodyPost_ret (v:= .tuple #[.slice none 0 0,A D 1]) (by simp[results,Tryz.results140,go_sem]) rfl ⟨_,rfl,z0g.nil _ _,hK1.1⟩
 have x5:(c !=15)=true:=by simp[h5]
 by_cases h6:c=16
 ·have x6:(c !=16)=false:=by simp[h6]
  cases r
  ·by_cases h7:n=0
   ·have x7:(n !=0)=false:=by simp[h7]
    rw[if_neg (by simp[h6,h7])]at eX
    cases eX;clear h7 h6;go_upto_region 8 with fail
    go_step
    (refine wpList_load_row rfl 196 (.tmp 2) rfl w.heap.size rfl 196 (z04 p y) (0,0) _ yW Tryz.underlying196 rfl (z0o _ _) ?_)
    simp only[pS]
    (refine z00 rfl (.agg #[A D c,A D d,A D s,.bool false,A D o,A D n]) w4 kG ?_);simp only[pS]
    refine z0v rfl 178 #[.agg (z04 p y),.agg #[A D c,A D d,A D s,.bool false,A D o,A D n]] kG (HP.out w4) ?_;intro v5 w5 hq;obtain⟨hA5,hB5⟩:=hq;have hK5:=hK1.later hB5;have hs5:=hK1.1.size;simp only[pS];clear hK1 l0 l1 l2 lf0 lf1 lf2 llt k0 k1 k2 kf0 kf1 kf2 klt p0 p1 p2 p3 p4 p5 ltS yW ylt;go_wp2_with fail;exact bodyPost_ret (v:= .tuple #[v5,A D 0]) (by simp[results,Tryz.results140,go_sem]) rfl ⟨_,rfl,hA5.mono hs5,hK5.1⟩
   ·have x7:(n !=0)=true:=by simp[h7]
    rw[if_pos (Or.inr (Or.inr h7))]at eX
    cases eX;clear h7 h6;go_wp2_with fail;exact bodyPost_ret (v:= .tuple #[.slice none 0 0,A D 1]) (by simp[results,Tryz.results140,go_sem]) rfl ⟨_,rfl,z0g.nil _ _,hK1.1⟩
  ·rw[if_pos (Or.inr (Or.inl rfl))]at eX
   cases eX;clear h6;go_wp2_with fail;exact bodyPost_ret (v:= .tuple #[.slice none 0 0,A D 1]) (by simp[results,Tryz.results140,go_sem]) rfl ⟨_,rfl,z0g.nil _ _,hK1.1⟩
 have x6:(c !=16)=true:=by simp[h6]
 rw[if_pos (Or.inl ⟨h5,h6⟩)]at eX
 cases eX;clear h5 h6;go_wp2_with fail;exact bodyPost_ret (v:= .tuple #[.slice none 0 0,A D 1]) (by simp[results,Tryz.results140,go_sem]) rfl ⟨_,rfl,z0g.nil _ _,hK1.1⟩
end
section
attribute [local simp] z05 z0a z06
theorem zUw(d s:Nat)(c o n p:Int)(r:Bool)(y:Way)(l:List (Int×Way))(E:Int)(HL:Hid (∀W:World,Calls tP 140 #[.agg (z04 p y),.agg #[A D c,A D d,A D s,.bool r,A D o,A D n]] W fun e w'=> ∃v,e= rT (.tuple #[v,A D E])/\z0g w' W.heap.size v l/\Below W.heap.size W w'))(HQ:Hid ((decide (15<=c)&&decide (c<=24))=true))(w:World):
  Calls tP 110 #[.agg (z04 p y),.agg #[A D c,A D d,A D s,.bool r,A D o,A D n]] w fun e w'=> ∃v,e= rT (.tuple #[v,A D E])/\z0g w' w.heap.size v l/\Below w.heap.size w w':=by
 have hK0:Blk w [(w.heap.size,cT (z04 p y) 196 (0,0)),(w.heap.size+1,cT #[A D c,A D d,A D s,.bool r,A D o,A D n] 135 (0,0))] _:=((Blk.nil (((bF _ _).alloc (Nat.le_refl _) _).alloc kS _)).cons (heap_alloc2_new w (cT (z04 p y) 196) (cT #[A D c,A D d,A D s,.bool r,A D o,A D n] 135))).cons ((z03.start w p y).alloc (cT #[A D c,A D d,A D s,.bool r,A D o,A D n] 135));go_enter Tryz.func110,Tryz.ntmps110;go_upto_region 1 with fail
 generalize ((w.alloc (cT (z04 p y) 196)).alloc (cT #[A D c,A D d,A D s,.bool r,A D o,A D n] 135))=w1 at hK0⊢;have yW:z03 _ w.heap.size _ _:=(hK0.2 _ mcS);have ylt:=yW.lt;obtain⟨p0,p1,p2,p3,p4,p5,ltS⟩:=row6 (hK0.2 _ (mcO _ mcS));go_upto_region 4 with(first|(go_at_call 139;refine(z3i c _).mono ?_;rintro e w1 ⟨rfl,rfl⟩;rw[HQ.out])|fail)
 go_step
 (refine wpList_load_row rfl 196 (.tmp 2) rfl w.heap.size rfl 196 (z04 p y) (0,0) _ yW Tryz.underlying196 rfl (z0o _ _) ?_)
 simp only[pS]
 (refine z00 rfl (.agg #[A D c,A D d,A D s,.bool r,A D o,A D n]) w1 kG ?_);simp only[pS]
 refine z0v rfl 140 #[.agg (z04 p y),.agg #[A D c,A D d,A D s,.bool r,A D o,A D n]] kG (R:=fun x w'=> ∃v,x= .tuple #[v,A D E]/\z0g w' w1.heap.size v l/\Below w1.heap.size w1 w') ((HL.out w1).mono fun e w' h=>by obtain⟨v,h1,h2⟩:=h;exact⟨_,h1,v,rfl,h2⟩) ?_;intro v5 w5 hq;obtain⟨v,rfl,hA5,hB5⟩:=hq;have hK5:=hK0.later hB5;have hs5:=hK0.1.size;simp only[pS];clear yW ylt p0 p1 p2 p3 p4 p5 ltS;clear hK0;go_wp2_with fail;exact bodyPost_ret (v:= .tuple #[v,A D E]) (by simp[results,Tryz.results110,go_sem]) rfl ⟨_,rfl,hA5.mono hs5,hK5.1⟩
theorem zRn(d s:Nat)(c o n p:Int)(r:Bool)(y:Way)(hp0:0<=p)(hp1:p<=1000)(ho0:0<=o)(ho1:o<=1000)(HQ:Hid ((decide (15<=c)&&decide (c<=24))=false))(x14:(c==14)=true)(w:World):
  Calls tP 110 #[.agg (z04 p y),.agg #[A D c,A D d,A D s,.bool r,A D o,A D n]] w fun e w'=> ∃v,e= rT (.tuple #[v,A D 0])/\z0g w' w.heap.size v [((p+(1+o)),y)]/\Below w.heap.size w w':=by
 have hK0:Blk w [(w.heap.size,cT (z04 p y) 196 (0,0)),(w.heap.size+1,cT #[A D c,A D d,A D s,.bool r,A D o,A D n] 135 (0,0))] _:=((Blk.nil (((bF _ _).alloc (Nat.le_refl _) _).alloc kS _)).cons (heap_alloc2_new w (cT (z04 p y) 196) (cT #[A D c,A D d,A D s,.bool r,A D o,A D n] 135))).cons ((z03.start w p y).alloc (cT #[A D c,A D d,A D s,.bool r,A D o,A D n] 135));go_enter Tryz.func110,Tryz.ntmps110;go_upto_region 1 with fail
 generalize ((w.alloc (cT (z04 p y) 196)).alloc (cT #[A D c,A D d,A D s,.bool r,A D o,A D n] 135))=w1 at hK0⊢;have yW:z03 _ w.heap.size _ _:=(hK0.2 _ mcS);have ylt:=yW.lt;obtain⟨p0,p1,p2,p3,p4,p5,ltS⟩:=row6 (hK0.2 _ (mcO _ mcS));go_upto_region 6 with(first|(go_at_call 139;refine(z3i c _).mono ?_;rintro e w1 ⟨rfl,rfl⟩;rw[HQ.out])|fail)
 go_step
 (refine wpList_load_row rfl 196 (.tmp 2) rfl w.heap.size rfl 196 (z04 p y) (0,0) _ yW Tryz.underlying196 rfl (z0o _ _) ?_)
 simp only[pS]
 (refine z00 rfl (pT (some ⟨w.heap.size+1,4,none⟩)) w1 kG ?_);simp only[pS]
 (refine z00 rfl (A D o) w1 kG ?_);simp only[pS]
 (refine z0c rfl 141 #[.agg (z04 p y),A D o] kG (.agg (z04 (p+(1+o)) y)) (zKm p o y hp0 hp1 ho0 ho1 w1) ?_)
 intro w5 hB5;have hK5:=hK0.later hB5;simp only[pS];refine z1k rfl (.tmp 25) (p+(1+o)) y rfl rfl ?_;simp only[pS];clear yW ylt p0 p1 p2 p3 p4 p5 ltS;have hbE:=hK5.1;have hm:=z0g.made w5 w.heap.size [((p+(1+o)),y)] hbE.size (by unfold maxLen;simp);go_wp2_with fail;exact bodyPost_ret (v:= .tuple #[_,A D 0]) (by simp[results,Tryz.results110,go_sem]) rfl ⟨_,rfl,hm,hbE.alloc hbE.size _⟩
theorem zRo(d s:Nat)(c o n p:Int)(r:Bool)(y:Way)(HQ:Hid ((decide (15<=c)&&decide (c<=24))=false))(x14:(c==14)=false)(x28:(c==28)=true)(w:World):
  zR 110 #[.agg (z04 p y),.agg #[A D c,A D d,A D s,.bool r,A D o,A D n]] w (.tuple #[.slice none 0 0,A D (z16 (y.reg 0))]):=by
 have hK0:Blk w [(w.heap.size,cT (z04 p y) 196 (0,0)),(w.heap.size+1,cT #[A D c,A D d,A D s,.bool r,A D o,A D n] 135 (0,0))] _:=((Blk.nil (((bF _ _).alloc (Nat.le_refl _) _).alloc kS _)).cons (heap_alloc2_new w (cT (z04 p y) 196) (cT #[A D c,A D d,A D s,.bool r,A D o,A D n] 135))).cons ((z03.start w p y).alloc (cT #[A D c,A D d,A D s,.bool r,A D o,A D n] 135));go_enter Tryz.func110,Tryz.ntmps110;go_upto_region 1 with fail
 generalize ((w.alloc (cT (z04 p y) 196)).alloc (cT #[A D c,A D d,A D s,.bool r,A D o,A D n] 135))=w1 at hK0⊢;have yW:z03 _ w.heap.size _ _:=(hK0.2 _ mcS);have ylt:=yW.lt;obtain⟨p0,p1,p2,p3,p4,p5,ltS⟩:=row6 (hK0.2 _ (mcO _ mcS));go_upto_region 8 with(first|(go_at_call 139;refine(z3i c _).mono ?_;rintro e w1 ⟨rfl,rfl⟩;rw[HQ.out])|fail)
 go_step;obtain⟨i0,i1,i2⟩:=yW.reg (d:=0) kD
 (refine z00 rfl (pT (some ⟨w.heap.size,1,none⟩)) w1 kG ?_);simp only[pS]
 (refine z00 rfl (pT (some ⟨w.heap.size,1+0*3,none⟩)) w1 kG ?_);simp only[pS]
 (refine z00 rfl (.agg #[A D (y.reg 0).k,A D (y.reg 0).l,A D (y.reg 0).h]) w1 kG ?_);simp only[pS]
 (refine z0c rfl 142 #[.agg #[A D (y.reg 0).k,A D (y.reg 0).l,A D (y.reg 0).h]] kG (A D (z16 (y.reg 0))) (z48 _ _ _ w1) ?_)
 intro w5 hB5;have hK5:=hK0.later hB5;simp only[pS];clear yW ylt p0 p1 p2 p3 p4 p5 ltS i0 i1 i2;go_wp2_with fail;exact bodyPost_ret (v:= .tuple #[.slice none 0 0,A D (z16 (y.reg 0))]) (by simp[results,Tryz.results110,go_sem]) rfl ⟨rfl,hK5.1⟩
theorem zGz(d s:Nat)(c o n p:Int)(r:Bool)(y:Way)(hp0:0<=p)(hp1:p<=1000)(E:Int)(y1:Way)(HM:Hid (∀(W:World)(B:Nat),z03 W B p y->Calls tP 143 #[pT (some ⟨B,0,none⟩),.agg #[A D c,A D d,A D s,.bool r,A D o,A D n]] W fun e w'=>e= rT (A D E)/\Kept B W w'/\z03 w' B p y1)):(∀(xE:(E !=0)=false)(HQ:Hid ((decide (15<=c)&&decide (c<=24))=false))(x14:(c==14)=false)(x28:(c==28)=false)(x25:(c==25)=true)(w:World),Calls tP 110 #[.agg (z04 p y),.agg #[A D c,A D d,A D s,.bool r,A D o,A D n]] w fun e w'=> ∃v,e= rT (.tuple #[v,A D 0])/\z0g w' w.heap.size v [((p+1),y1)]/\Below w.heap.size w w')/\(∀(xE:(E !=0)=true)(HQ:Hid ((decide (15<=c)&&decide (c<=24))=false))(x14:(c==14)=false)(x28:(c==28)=false)(x25:(c==25)=true)(w:World),zR 110 #[.agg (z04 p y),.agg #[A D c,A D d,A D s,.bool r,A D o,A D n]] w (.tuple #[.slice none 0 0,A D E])):=by
 refine⟨?_,?_⟩
 all_goals
  intro xE HQ x14 x28 x25 w;have hK0:Blk w [(w.heap.size,cT (z04 p y) 196 (0,0)),(w.heap.size+1,cT #[A D c,A D d,A D s,.bool r,A D o,A D n] 135 (0,0))] _:=((Blk.nil (((bF _ _).alloc (Nat.le_refl _) _).alloc kS _)).cons (heap_alloc2_new w (cT (z04 p y) 196) (cT #[A D c,A D d,A D s,.bool r,A D o,A D n] 135))).cons ((z03.start w p y).alloc (cT #[A D c,A D d,A D s,.bool r,A D o,A D n] 135))
 all_goals
  go_enter Tryz.func110,Tryz.ntmps110;go_upto_region 1 with fail
  generalize ((w.alloc (cT (z04 p y) 196)).alloc (cT #[A D c,A D d,A D s,.bool r,A D o,A D n] 135))=w1 at hK0⊢;have yW:z03 _ w.heap.size _ _:=(hK0.2 _ mcS);have ylt:=yW.lt;obtain⟨p0,p1,p2,p3,p4,p5,ltS⟩:=row6 (hK0.2 _ (mcO _ mcS));go_upto_region 10 with(first|(go_at_call 139;refine(z3i c _).mono ?_;rintro e w1 ⟨rfl,rfl⟩;rw[HQ.out])|fail)
  go_step
  (refine z00 rfl (.agg #[A D c,A D d,A D s,.bool r,A D o,A D n]) w1 kG ?_);simp only[pS]
  (refine z0c rfl 143 #[pT (some ⟨w.heap.size,0,none⟩),.agg #[A D c,A D d,A D s,.bool r,A D o,A D n]] kG (A D E) (HM.out w1 w.heap.size yW) ?_)
  intro w5 hq;obtain⟨hk5,hW5⟩:=hq;have hK5:=(Blk.more (F':=[]) hK0 kS).grown (b:=w.heap.size) hk5 (fun k e=>Nat.le_of_eq (Option.some.inj e)) (Nat.le_refl _) kS;clear yW ylt p0 p1 p2 p3 p4 p5 ltS;clear hk5 hK0;simp only[pS]
 ·go_upto_region 17 with fail
  go_step
  (refine wpList_load_row rfl 196 (.tmp 2) rfl w.heap.size rfl 196 (z04 p y1) (0,0) _ hW5 Tryz.underlying196 rfl (z0o _ _) ?_)
  simp only[pS]
  (refine z0c rfl 141 #[.agg (z04 p y1),A D 0] kG (.agg (z04 (p+1) y1)) (zB3 p y1 hp0 hp1 w5) ?_)
  intro w6 hB6;have hK6:=hK5.later hB6;simp only[pS];refine z1k rfl (.tmp 58) (p+1) y1 rfl rfl ?_;simp only[pS];have hbE:=hK6.1;have hm:=z0g.made w6 w.heap.size [((p+1),y1)] hbE.size (by unfold maxLen;simp);go_wp2_with fail;exact bodyPost_ret (v:= .tuple #[_,A D 0]) (by simp[results,Tryz.results110,go_sem]) rfl ⟨_,rfl,hm,hbE.alloc hbE.size _⟩
 ·go_wp2_with fail
  exact bodyPost_ret (v:= .tuple #[.slice none 0 0,A D E]) (by simp[results,Tryz.results110,go_sem]) rfl ⟨rfl,hK5.1⟩
def zRm:=fun d s c o n p r y hp0 hp1 E y1 HM=>(@zGz d s c o n p r y hp0 hp1 E y1 HM).1
def zHq:=fun d s c o n p r y hp0 hp1 E y1 HM=>(@zGz d s c o n p r y hp0 hp1 E y1 HM).2
theorem zGy(d s:Nat)(c o n p:Int)(r:Bool)(y:Way)(hp0:0<=p)(hp1:p<=1000)(E:Int)(y1:Way)(HM:Hid (∀(W:World)(B:Nat),z03 W B p y->Calls tP 144 #[pT (some ⟨B,0,none⟩),.agg #[A D c,A D d,A D s,.bool r,A D o,A D n]] W fun e w'=>e= rT (A D E)/\Kept B W w'/\z03 w' B p y1)):(∀(xE:(E !=0)=false)(HQ:Hid ((decide (15<=c)&&decide (c<=24))=false))(x14:(c==14)=false)(x28:(c==28)=false)(x25:(c==25)=false)(x26:(c==26)=true)(w:World),Calls tP 110 #[.agg (z04 p y),.agg #[A D c,A D d,A D s,.bool r,A D o,A D n]] w fun e w'=> ∃v,e= rT (.tuple #[v,A D 0])/\z0g w' w.heap.size v [((p+1),y1)]/\Below w.heap.size w w')/\(∀(xE:(E !=0)=true)(HQ:Hid ((decide (15<=c)&&decide (c<=24))=false))(x14:(c==14)=false)(x28:(c==28)=false)(x25:(c==25)=false)(x26:(c==26)=true)(w:World),zR 110 #[.agg (z04 p y),.agg #[A D c,A D d,A D s,.bool r,A D o,A D n]] w (.tuple #[.slice none 0 0,A D E])):=by
 refine⟨?_,?_⟩
 all_goals
  intro xE HQ x14 x28 x25 x26 w;have hK0:Blk w [(w.heap.size,cT (z04 p y) 196 (0,0)),(w.heap.size+1,cT #[A D c,A D d,A D s,.bool r,A D o,A D n] 135 (0,0))] _:=((Blk.nil (((bF _ _).alloc (Nat.le_refl _) _).alloc kS _)).cons (heap_alloc2_new w (cT (z04 p y) 196) (cT #[A D c,A D d,A D s,.bool r,A D o,A D n] 135))).cons ((z03.start w p y).alloc (cT #[A D c,A D d,A D s,.bool r,A D o,A D n] 135))
 all_goals
  go_enter Tryz.func110,Tryz.ntmps110;go_upto_region 1 with fail
  generalize ((w.alloc (cT (z04 p y) 196)).alloc (cT #[A D c,A D d,A D s,.bool r,A D o,A D n] 135))=w1 at hK0⊢;have yW:z03 _ w.heap.size _ _:=(hK0.2 _ mcS);have ylt:=yW.lt;obtain⟨p0,p1,p2,p3,p4,p5,ltS⟩:=row6 (hK0.2 _ (mcO _ mcS));go_upto_region 12 with(first|(go_at_call 139;refine(z3i c _).mono ?_;rintro e w1 ⟨rfl,rfl⟩;rw[HQ.out])|fail)
  go_step
  (refine z00 rfl (.agg #[A D c,A D d,A D s,.bool r,A D o,A D n]) w1 kG ?_);simp only[pS]
  (refine z0c rfl 144 #[pT (some ⟨w.heap.size,0,none⟩),.agg #[A D c,A D d,A D s,.bool r,A D o,A D n]] kG (A D E) (HM.out w1 w.heap.size yW) ?_)
  intro w5 hq;obtain⟨hk5,hW5⟩:=hq;have hK5:=(Blk.more (F':=[]) hK0 kS).grown (b:=w.heap.size) hk5 (fun k e=>Nat.le_of_eq (Option.some.inj e)) (Nat.le_refl _) kS;clear yW ylt p0 p1 p2 p3 p4 p5 ltS;clear hk5 hK0;simp only[pS]
 ·go_upto_region 17 with fail
  go_step
  (refine wpList_load_row rfl 196 (.tmp 2) rfl w.heap.size rfl 196 (z04 p y1) (0,0) _ hW5 Tryz.underlying196 rfl (z0o _ _) ?_)
  simp only[pS]
  (refine z0c rfl 141 #[.agg (z04 p y1),A D 0] kG (.agg (z04 (p+1) y1)) (zB3 p y1 hp0 hp1 w5) ?_)
  intro w6 hB6;have hK6:=hK5.later hB6;simp only[pS];refine z1k rfl (.tmp 58) (p+1) y1 rfl rfl ?_;simp only[pS];have hbE:=hK6.1;have hm:=z0g.made w6 w.heap.size [((p+1),y1)] hbE.size (by unfold maxLen;simp);go_wp2_with fail;exact bodyPost_ret (v:= .tuple #[_,A D 0]) (by simp[results,Tryz.results110,go_sem]) rfl ⟨_,rfl,hm,hbE.alloc hbE.size _⟩
 ·go_wp2_with fail
  exact bodyPost_ret (v:= .tuple #[.slice none 0 0,A D E]) (by simp[results,Tryz.results110,go_sem]) rfl ⟨rfl,hK5.1⟩
def zN0:=fun d s c o n p r y hp0 hp1 E y1 HM=>(@zGy d s c o n p r y hp0 hp1 E y1 HM).1
def zEu:=fun d s c o n p r y hp0 hp1 E y1 HM=>(@zGy d s c o n p r y hp0 hp1 E y1 HM).2
theorem zGw(d s:Nat)(c o n p:Int)(r:Bool)(y:Way)(hp0:0<=p)(hp1:p<=1000)(E:Int)(y1:Way)(HM:Hid (∀(W:World)(B:Nat),z03 W B p y->Calls tP 145 #[pT (some ⟨B,0,none⟩),A D n] W fun e w'=>e= rT (A D E)/\Kept B W w'/\z03 w' B p y1)):(∀(xE:(E !=0)=false)(HQ:Hid ((decide (15<=c)&&decide (c<=24))=false))(x14:(c==14)=false)(x28:(c==28)=false)(x25:(c==25)=false)(x26:(c==26)=false)(x27:(c==27)=true)(w:World),Calls tP 110 #[.agg (z04 p y),.agg #[A D c,A D d,A D s,.bool r,A D o,A D n]] w fun e w'=> ∃v,e= rT (.tuple #[v,A D 0])/\z0g w' w.heap.size v [((p+1),y1)]/\Below w.heap.size w w')/\(∀(xE:(E !=0)=true)(HQ:Hid ((decide (15<=c)&&decide (c<=24))=false))(x14:(c==14)=false)(x28:(c==28)=false)(x25:(c==25)=false)(x26:(c==26)=false)(x27:(c==27)=true)(w:World),zR 110 #[.agg (z04 p y),.agg #[A D c,A D d,A D s,.bool r,A D o,A D n]] w (.tuple #[.slice none 0 0,A D E])):=by
 refine⟨?_,?_⟩
 all_goals
  intro xE HQ x14 x28 x25 x26 x27 w;have hK0:Blk w [(w.heap.size,cT (z04 p y) 196 (0,0)),(w.heap.size+1,cT #[A D c,A D d,A D s,.bool r,A D o,A D n] 135 (0,0))] _:=((Blk.nil (((bF _ _).alloc (Nat.le_refl _) _).alloc kS _)).cons (heap_alloc2_new w (cT (z04 p y) 196) (cT #[A D c,A D d,A D s,.bool r,A D o,A D n] 135))).cons ((z03.start w p y).alloc (cT #[A D c,A D d,A D s,.bool r,A D o,A D n] 135))
 all_goals
  go_enter Tryz.func110,Tryz.ntmps110;go_upto_region 1 with fail
  generalize ((w.alloc (cT (z04 p y) 196)).alloc (cT #[A D c,A D d,A D s,.bool r,A D o,A D n] 135))=w1 at hK0⊢;have yW:z03 _ w.heap.size _ _:=(hK0.2 _ mcS);have ylt:=yW.lt;obtain⟨p0,p1,p2,p3,p4,p5,ltS⟩:=row6 (hK0.2 _ (mcO _ mcS));go_upto_region 14 with(first|(go_at_call 139;refine(z3i c _).mono ?_;rintro e w1 ⟨rfl,rfl⟩;rw[HQ.out])|fail)
  go_step
  (refine z00 rfl (pT (some ⟨w.heap.size+1,5,none⟩)) w1 kG ?_);simp only[pS]
  (refine z00 rfl (A D n) w1 kG ?_);simp only[pS]
  (refine z0c rfl 145 #[pT (some ⟨w.heap.size,0,none⟩),A D n] kG (A D E) (HM.out w1 w.heap.size yW) ?_)
  intro w5 hq;obtain⟨hk5,hW5⟩:=hq;have hK5:=(Blk.more (F':=[]) hK0 kS).grown (b:=w.heap.size) hk5 (fun k e=>Nat.le_of_eq (Option.some.inj e)) (Nat.le_refl _) kS;clear yW ylt p0 p1 p2 p3 p4 p5 ltS;clear hk5 hK0;simp only[pS]
 ·go_upto_region 17 with fail
  go_step
  (refine wpList_load_row rfl 196 (.tmp 2) rfl w.heap.size rfl 196 (z04 p y1) (0,0) _ hW5 Tryz.underlying196 rfl (z0o _ _) ?_)
  simp only[pS]
  (refine z0c rfl 141 #[.agg (z04 p y1),A D 0] kG (.agg (z04 (p+1) y1)) (zB3 p y1 hp0 hp1 w5) ?_)
  intro w6 hB6;have hK6:=hK5.later hB6;simp only[pS];refine z1k rfl (.tmp 58) (p+1) y1 rfl rfl ?_;simp only[pS];have hbE:=hK6.1;have hm:=z0g.made w6 w.heap.size [((p+1),y1)] hbE.size (by unfold maxLen;simp);go_wp2_with fail;exact bodyPost_ret (v:= .tuple #[_,A D 0]) (by simp[results,Tryz.results110,go_sem]) rfl ⟨_,rfl,hm,hbE.alloc hbE.size _⟩
 ·go_wp2_with fail
  exact bodyPost_ret (v:= .tuple #[.slice none 0 0,A D E]) (by simp[results,Tryz.results110,go_sem]) rfl ⟨rfl,hK5.1⟩
def zRp:=fun d s c o n p r y hp0 hp1 E y1 HM=>(@zGw d s c o n p r y hp0 hp1 E y1 HM).1
def zHr:=fun d s c o n p r y hp0 hp1 E y1 HM=>(@zGw d s c o n p r y hp0 hp1 E y1 HM).2
theorem zGx(d s:Nat)(c o n p:Int)(r:Bool)(y:Way)(hp0:0<=p)(hp1:p<=1000)(E:Int)(y1:Way)(HM:Hid (∀(W:World)(B:Nat),z03 W B p y->Calls tP 146 #[pT (some ⟨B,0,none⟩),.agg #[A D c,A D d,A D s,.bool r,A D o,A D n]] W fun e w'=>e= rT (A D E)/\Kept B W w'/\z03 w' B p y1)):(∀(xE:(E !=0)=false)(HQ:Hid ((decide (15<=c)&&decide (c<=24))=false))(x14:(c==14)=false)(x28:(c==28)=false)(x25:(c==25)=false)(x26:(c==26)=false)(x27:(c==27)=false)(w:World),Calls tP 110 #[.agg (z04 p y),.agg #[A D c,A D d,A D s,.bool r,A D o,A D n]] w fun e w'=> ∃v,e= rT (.tuple #[v,A D 0])/\z0g w' w.heap.size v [((p+1),y1)]/\Below w.heap.size w w')/\(∀(xE:(E !=0)=true)(HQ:Hid ((decide (15<=c)&&decide (c<=24))=false))(x14:(c==14)=false)(x28:(c==28)=false)(x25:(c==25)=false)(x26:(c==26)=false)(x27:(c==27)=false)(w:World),zR 110 #[.agg (z04 p y),.agg #[A D c,A D d,A D s,.bool r,A D o,A D n]] w (.tuple #[.slice none 0 0,A D E])):=by
 refine⟨?_,?_⟩
 all_goals
  intro xE HQ x14 x28 x25 x26 x27 w;have hK0:Blk w [(w.heap.size,cT (z04 p y) 196 (0,0)),(w.heap.size+1,cT #[A D c,A D d,A D s,.bool r,A D o,A D n] 135 (0,0))] _:=((Blk.nil (((bF _ _).alloc (Nat.le_refl _) _).alloc kS _)).cons (heap_alloc2_new w (cT (z04 p y) 196) (cT #[A D c,A D d,A D s,.bool r,A D o,A D n] 135))).cons ((z03.start w p y).alloc (cT #[A D c,A D d,A D s,.bool r,A D o,A D n] 135))
 all_goals
  go_enter Tryz.func110,Tryz.ntmps110;go_upto_region 1 with fail
  generalize ((w.alloc (cT (z04 p y) 196)).alloc (cT #[A D c,A D d,A D s,.bool r,A D o,A D n] 135))=w1 at hK0⊢;have yW:z03 _ w.heap.size _ _:=(hK0.2 _ mcS);have ylt:=yW.lt;obtain⟨p0,p1,p2,p3,p4,p5,ltS⟩:=row6 (hK0.2 _ (mcO _ mcS));go_upto_region 2 with(first|(go_at_call 139;refine(z3i c _).mono ?_;rintro e w1 ⟨rfl,rfl⟩;rw[HQ.out])|fail)
  go_step
  (refine z00 rfl (.agg #[A D c,A D d,A D s,.bool r,A D o,A D n]) w1 kG ?_);simp only[pS]
  (refine z0c rfl 146 #[pT (some ⟨w.heap.size,0,none⟩),.agg #[A D c,A D d,A D s,.bool r,A D o,A D n]] kG (A D E) (HM.out w1 w.heap.size yW) ?_)
  intro w5 hq;obtain⟨hk5,hW5⟩:=hq;have hK5:=(Blk.more (F':=[]) hK0 kS).grown (b:=w.heap.size) hk5 (fun k e=>Nat.le_of_eq (Option.some.inj e)) (Nat.le_refl _) kS;clear yW ylt p0 p1 p2 p3 p4 p5 ltS;clear hk5 hK0;simp only[pS]
 ·go_upto_region 17 with fail
  go_step
  (refine wpList_load_row rfl 196 (.tmp 2) rfl w.heap.size rfl 196 (z04 p y1) (0,0) _ hW5 Tryz.underlying196 rfl (z0o _ _) ?_)
  simp only[pS]
  (refine z0c rfl 141 #[.agg (z04 p y1),A D 0] kG (.agg (z04 (p+1) y1)) (zB3 p y1 hp0 hp1 w5) ?_)
  intro w6 hB6;have hK6:=hK5.later hB6;simp only[pS];refine z1k rfl (.tmp 58) (p+1) y1 rfl rfl ?_;simp only[pS];have hbE:=hK6.1;have hm:=z0g.made w6 w.heap.size [((p+1),y1)] hbE.size (by unfold maxLen;simp);go_wp2_with fail;exact bodyPost_ret (v:= .tuple #[_,A D 0]) (by simp[results,Tryz.results110,go_sem]) rfl ⟨_,rfl,hm,hbE.alloc hbE.size _⟩
 ·go_wp2_with fail
  exact bodyPost_ret (v:= .tuple #[.slice none 0 0,A D E]) (by simp[results,Tryz.results110,go_sem]) rfl ⟨rfl,hK5.1⟩
def zJo:=fun d s c o n p r y hp0 hp1 E y1 HM=>(@zGx d s c o n p r y hp0 hp1 E y1 HM).1
def zCt:=fun d s c o n p r y hp0 hp1 E y1 HM=>(@zGx d s c o n p r y hp0 hp1 E y1 HM).2
theorem zUx{d s:Nat}{c o n p:Int}{r:Bool}{y:Way}(hd:d<11)(hs:s<11)(hp0:0<=p)(hp1:p<=1000)(ho:In64 o)(hj:14<=c->c<=24->0<=o/\o<=1000)(hw:c=27->n=1\/n=2\/n=3)(hy:y.Ok)(hn:In64 n)(w:World):
  Calls tP 110 #[.agg (z04 p y),.agg #[A D c,A D d,A D s,.bool r,A D o,A D n]] w fun e w'=> ∃v,e= rT (.tuple #[v,A D (y.look c d s r o n).2])/\z0g w' w.heap.size v ((y.look c d s r o n).1.map fun x=>(p+(1+x.1),x.2))/\Below w.heap.size w w':=by
 have mv: ∀{E:Int}{e:Ending}{w':World},(e= rT (.tuple #[.slice none 0 0,A D E])/\Below w.heap.size w w')-> ∃v,e= rT (.tuple #[v,A D E])/\z0g w' w.heap.size v []/\Below w.heap.size w w':=fun h=>⟨_,h.1,z0g.nil _ _,h.2⟩;have tt: ∀{a b:Int},a=b->(a==b)=true:=fun h=>by simp[h]
 have tb: ∀{a b:Int},¬a=b->(a==b)=false:=fun h=>by simp[h]
 have nt: ∀{a b:Int},¬a=b->(a !=b)=true:=fun h=>by simp[h]
 have nf: ∀{a b:Int},a=b->(a !=b)=false:=fun h=>by simp[h]
 unfold Way.look
 by_cases h1:15<=c/\c<=24
 ·rw[if_pos h1]
  have hoo:=hj kO h1.2;exact zUw d s c o n p r y _ _ (fun W:World=>q0o (r:=r) hd hs h1 hp0 hp1 hoo.1 hoo.2 hy hn W) (by show(decide (15<=c)&&decide (c<=24))=true;simp;omega) w
 rw[if_neg h1];have HQ:Hid ((decide (15<=c)&&decide (c<=24))=false):=by show(decide (15<=c)&&decide (c<=24))=false;simp;omega
 by_cases h14:c=14
 ·rw[if_pos h14]
  have hoo:=hj kO kO;simpa using zRn d s c o n p r y hp0 hp1 hoo.1 hoo.2 HQ (tt h14) w
 rw[if_neg h14]
 by_cases h28:c=28
 ·rw[if_pos h28]
  exact(zRo d s c o n p r y HQ (tb h14) (tt h28) w).mono fun _ _ h=>mv h
 rw[if_neg h28]
 by_cases h25:c=25
 ·rw[if_pos h25]
  have HM:=fun(W:World) (B:Nat) (hW:z03 W B p y)=>zV0 (c:=c) (r:=r) (n:=n) hd hs hy ho hW;generalize y.load d s o=z at*;obtain⟨E,y1⟩:=z;dsimp only
  by_cases hE:E=0
  ·rw[if_pos hE];simpa[hE]using zRm d s c o n p r y hp0 hp1 E y1 HM (nf hE) HQ (tb h14) (tb h28) (tt h25) w
  ·rw[if_neg hE];exact(zHq d s c o n p r y hp0 hp1 E y1 HM (nt hE) HQ (tb h14) (tb h28) (tt h25) w).mono fun _ _ h=>mv h
 rw[if_neg h25]
 by_cases h26:c=26
 ·rw[if_pos h26]
  have HM:=fun(W:World) (B:Nat) (hW:z03 W B p y)=>zRi (c:=c) (r:=r) (n:=n) hd hs hy ho hW;generalize y.store (y.reg d) (y.second s r n) o=z at*;obtain⟨E,y1⟩:=z;dsimp only
  by_cases hE:E=0
  ·rw[if_pos hE];simpa[hE]using zN0 d s c o n p r y hp0 hp1 E y1 HM (nf hE) HQ (tb h14) (tb h28) (tb h25) (tt h26) w
  ·rw[if_neg hE];exact(zEu d s c o n p r y hp0 hp1 E y1 HM (nt hE) HQ (tb h14) (tb h28) (tb h25) (tt h26) w).mono fun _ _ h=>mv h
 rw[if_neg h26]
 by_cases h27:c=27
 ·rw[if_pos h27]
  have HM:=fun(W:World) (B:Nat) (hW:z03 W B p y)=>zV6 (hw h27) hW;generalize y.call n=z at*;obtain⟨E,y1⟩:=z;dsimp only
  by_cases hE:E=0
  ·rw[if_pos hE];simpa[hE]using zRp d s c o n p r y hp0 hp1 E y1 HM (nf hE) HQ (tb h14) (tb h28) (tb h25) (tb h26) (tt h27) w
  ·rw[if_neg hE];exact(zHr d s c o n p r y hp0 hp1 E y1 HM (nt hE) HQ (tb h14) (tb h28) (tb h25) (tb h26) (tt h27) w).mono fun _ _ h=>mv h
 rw[if_neg h27]
 ·have HM:=fun(W:World) (B:Nat) (hW:z03 W B p y)=>zN3 (c:=c) (o:=o) (r:=r) hd hs hy hn hW
  generalize y.change c d s r n=z at*;obtain⟨E,y1⟩:=z;dsimp only
  by_cases hE:E=0
  ·rw[if_pos hE];simpa[hE]using zJo d s c o n p r y hp0 hp1 E y1 HM (nf hE) HQ (tb h14) (tb h28) (tb h25) (tb h26) (tb h27) w
  ·rw[if_neg hE];exact(zCt d s c o n p r y hp0 hp1 E y1 HM (nt hE) HQ (tb h14) (tb h28) (tb h25) (tb h26) (tb h27) w).mono fun _ _ h=>mv h
end
end Go.Proofs.YtkdflpplamebkaaGreatDoor
