/-
A part of the proof of DeskPieces; its card says what is proved.
-/
import Derived.Test.YtkdflpplamebkaaGreatDoorJp27
set_option maxHeartbeats 40000000
open Go.Value renaming int → A
open Go.IntKind renaming i64 → F
open Go.RowKit.Below renaming alloc → bA, setCell → bS, drew → bD, refl → bF
set_option maxRecDepth 1000000
set_option linter.defProp false
set_option linter.unusedVariables false
set_option linter.unusedSimpArgs false
open Go.Ending renaming returned → rT
open Go.Value renaming pointer → pT
open Go.Obj renaming cells → cT
open Go.Proofs.Tryz renaming prog → tP
namespace Go.Proofs.YtkdflpplamebkaaGreatDoor
section
open Go.ChangeShapes Go.WideShapes Go.ChangeAt Go.RowKit
attribute [local simp] z05 z0a z06
theorem zLe(bk off len cap:Nat)(C D S O N:Nat->Int)(R:Nat->Bool)(w:World)(h1:1<=len)(h2:len<=200)(hbk:bk<w.heap.size)(hst:z1v w bk off len C D S R O N)(hr: ∀i,i<len->zUm (C i) (D i) (S i) (R i) (O i) (N i) len i)(hf: ∀i,i<len->In64 (O i)/\In64 (N i)):
  Calls tP 75 #[.slice (some ⟨bk,off,none⟩) len cap] w fun e w'=>q75 w (goF C D S R O N 4000 [(0,way0)] []) e w':=by
 obtain⟨X,hX⟩: ∃X,goF C D S R O N 4000 [(0,way0)] []=X:=⟨_,rfl⟩;rw[hX];have HX:Hid (goF C D S R O N 4000 [(0,way0)] []=X):=hX;have HST:Hid (z1v w bk off len C D S R O N):=hst;have HR:Hid (∀i,i<len->zUm (C i) (D i) (S i) (R i) (O i) (N i) len i):=hr;have HF:Hid (∀i,i<len->In64 (O i)/\In64 (N i)):=hf;clear hX hst hr hf;go_enter Tryz.func75,Tryz.ntmps75;go_upto_region 2 with fail
 go_step
 (refine z0c rfl 109 #[] kG (.agg (z04 0 way0)) (zRy w) ?_)
 intro w1 hb1;simp only[pS];refine z1k rfl (.tmp 13) 0 way0 rfl rfl ?_;simp only[pS];have hA1:=z0g.made w1 w.heap.size [(0,way0)] hb1.size (by unfold maxLen;simp);have hB1:=hb1.alloc hb1.size (cT (z0q [(0,way0)]).toArray 196)
 have HG:Hid (GoSt w len C D S R O N X 0 [(0,way0)] [] (.slice (some ⟨w1.heap.size,0,none⟩) 1 1) (.slice none 0 0) (w1.alloc (cT (z0q [(0,way0)]).toArray 196))):=
  ⟨by omega,hB1,hA1,z3t.nil _ _,fun k _ e=>absurd e (by simp[Value.ownBlock]),fun x hx=>by rw[List.mem_singleton.mp hx];exact⟨h1,zUu⟩,by simp,by simp,HX.out⟩
 clear hA1 hB1 hb1;generalize (w1.alloc (cT (z0q [(0,way0)]).toArray 196))=w2 at HG⊢;generalize w1.heap.size=g1 at HG⊢;go_wp2_with fail;go_loopw [4,5,6] (fun ve vw vl wr=> ∃(k:Nat)(st:List (Nat×Way))(es:List Kno),vl=A F ((k:Int)+1)/\Hid (GoSt w len C D S R O N X k st es vw ve wr)) (fun _ _ vl _=>4001-(intOf vl).toNat)
 case atStart=>exact⟨0,[(0,way0)],[],rfl,HG.out⟩
 case round=>
  obtain⟨k,st,es,rfl,H⟩:=hrel;clear HG
  cases st with
  |nil=>
   obtain⟨a,cp,hv⟩:=H.out.ways.shape;rw[zQ6]at hv;subst hv;go_wp2_with fail;exact bodyPost_ret (v:= .tuple #[u4,.nilIface]) (by simp[results,Tryz.results75,go_sem]) rfl ⟨H.out.below,(by rw[<-H.out.go,q5x];exact⟨_,rfl,H.out.ends,Nat.le_trans H.out.esl H.out.k4⟩)⟩
  |cons x st=>
   obtain⟨pc,y⟩:=x;have hw0:=H.out.ways;rw[q1j]at hw0;obtain⟨g,cp,hv,hcp,hcm,hg0,hg1⟩:=hw0.more;subst hv;have hpop:=hw0.pop;have hel:=hw0.elem (l2:=[]);have hml:=zQ6 st;have hml2:=H.out.stl;have hk4:=H.out.k4;rw[List.length_cons]at hml2;generalize hm:(posL st.reverse).length=m at*;have HP:Hid (z0g wr w.heap.size (.slice (some ⟨g,0,none⟩) m cp) (posL st.reverse)):=hpop;have HE:Hid (wr.rangeAt g (m*82) (z04 (pc:Int) y).toList):=hel;have HM:Hid ((posL st.reverse).length=m):=hm;have hm1:(m:Int)<=4000:=kO;have hm0:(0:Int)<=(m:Int):=kO;have hm2:(m:Int)<((m+1:Nat):Int):=kO;have hcm':cp<=9223372036854775807:=hcm;clear hpop hel hm hw0 hml hcm;go_upto_region 7 with fail
   go_step
   (refine z00 rfl (.slice (some ⟨g,0,none⟩) (m+1) cp) wr kG ?_);simp only[pS]
   (refine z00 rfl (A F (m:Int)) wr kG ?_);simp only[pS]
   refine z00 rfl (pT (some ⟨g,m*82,none⟩)) wr (by go_simp;intro h;omega) ?_;simp only[pS];refine zAj rfl (.tmp 25) rfl g (m*82) rfl (pc:Int) y HE.out ?_;simp only[pS];refine z00 rfl (pT (some ⟨wr.heap.size,0,none⟩)) (wr.alloc (cT Tryz.zeroCells196 196 (0,0))) kG ?_;simp only[pS]
   (refine wpList_store_row rfl 196 (.tmp 8) (.tmp 26) rfl wr.heap.size (z04 (pc:Int) y) rfl rfl 196 _ (heap_alloc_new _ _) (z0o _ _) (by first|rw[z26,z0i]|rw[z0i,z0i]) (z2l _ _) ?_)
   simp only[Act.put];have hq7:Below wr.heap.size wr ((wr.alloc (cT Tryz.zeroCells196 196 (0,0))).setRow wr.heap.size (z04 (pc:Int) y)):=z23 ((bF _ _).alloc (Nat.le_refl _) _) (Nat.le_refl _) _;have hW7:z03 ((wr.alloc (cT Tryz.zeroCells196 196 (0,0))).setRow wr.heap.size (z04 (pc:Int) y)) wr.heap.size (pc:Int) y:=z03.setRow (heap_alloc_new _ _) _ _;have hb7:=H.out.below.trans (hq7.mono H.out.below.size);have HP7:Hid (z0g _ w.heap.size (.slice (some ⟨g,0,none⟩) m cp) (posL st.reverse)):=HP.out.later hq7;have HE7:Hid (z3t _ w.heap.size u4 es):=H.out.ends.later hq7;have HSep:Hid (∀k,(Value.slice (some ⟨g,0,none⟩) (m+1) cp).ownBlock=some k->u4.ownBlock≠some k):=H.out.sep;have HEB:Hid (∀k,u4.ownBlock=some k->k<wr.heap.size):=fun k e=>(H.out.ends.above k e).2;have hB0:w.heap.size<=wr.heap.size:=H.out.below.size;clear hq7;generalize ((wr.alloc (cT Tryz.zeroCells196 196 (0,0))).setRow wr.heap.size (z04 (pc:Int) y))=w7 at hW7 hb7 HP7 HE7⊢;generalize wr.heap.size=B at hg1 hW7 HEB hB0⊢;have hst0:=hW7.step;have hlt0:=hW7.lt;have hpc:=(H.out.okst _ mcS).1;have hoky:=(H.out.okst _ mcS).2;dsimp only at hpc hoky;have hmc:(m:Int)<=(cp:Int):=kO;have hpc0:(0:Int)<=(pc:Int):=kO;have hpc1:(pc:Int)<len:=kO
   by_cases hkk:k=4000
   ·subst hkk
    go_wp2_with fail;clear hW7;go_region;go_wp2_with fail;exact bodyPost_ret (v:= .tuple #[.slice none 0 0,.iface 166 (pT (some ⟨w7.heap.size,0,none⟩))]) (by simp[results,Tryz.results75,go_sem]) rfl ⟨(hb7.alloc hb7.size _).drew,(by rw[<-H.out.go];exact⟨w7.heap.size,rfl,hb7.size,(zBg _ _ _ _).2.2,(zBg _ _ _ _).1,(zBg _ _ _ _).2.1⟩)⟩
   ·have hb7':=hb7
    have hR:=HR.out pc hpc;obtain⟨hO64,hN64⟩:=HF.out pc hpc;obtain⟨g0,g1c,g2,g3,g4,g5⟩:=HST.out.later hb7 hbk pc hpc;obtain⟨d,hd⟩:=Int.eq_ofNat_of_zero_le hR.d1;obtain⟨s,hs⟩:=Int.eq_ofNat_of_zero_le hR.s1;have hd11:d<11:=by have:=hR.d2;omega
    have hs11:s<11:=by have:=hR.s2;omega
    have HGo:Hid (goF C D S R O N (4000-k) ((pc,y)::st) es=X):=H.out.go;have hbk7:bk<w7.heap.size:=Nat.lt_of_lt_of_le hbk hb7.size;have hkx:decide (4000<(k:Int)+1)=false:=kZ;have hk0:(0:Int)<=(k:Int):=kO;have hk1:(k:Int)<=4000:=kO;rw[hd]at g1c;rw[hs]at g2;have H27:Hid (C pc=27->N pc=1\/N pc=2\/N pc=3):=hR.call;have HJ:Hid (14<=C pc->C pc<=24->0<=O pc/\O pc<=1000):=fun a b=>by have:=hR.lead kO;omega
    have hgs:=HGo.out;rw[show 4000-k=(3999-k)+1 by omega,q2k _ pc y st es d s hd hs]at hgs;have hl2:=q1t y (C pc) d s (R pc) (O pc) (N pc);have hlo:=zXg hoky hR.c1 hR.c2 hd11 hs11 hO64 hN64 (r:=R pc);have hlf:=zKs (y:=y) (c:=C pc) (d:=d) (s:=s) (r:=R pc) (o:=O pc) (n:=N pc)
    have hlz: ∀z,z∈(y.look (C pc) d s (R pc) (O pc) (N pc)).1->0<=z.1/\pc+1+z.1.toNat<len:=fun z hz=>by
     obtain⟨u1,u2⟩:=hlf z hz;have hl:=hR.last u1;rcases u2 with u2|⟨u2,u3⟩
     ·omega
     ·have:=hR.lead u3;omega
    have hl28:C pc=28->(y.look (C pc) d s (R pc) (O pc) (N pc)).1=[]:=fun e=>List.eq_nil_iff_forall_not_mem.mpr fun z hz=>(hlf z hz).1 e;have hlk:=fun W:World=>zUx (r:=R pc) hd11 hs11 hpc0 kO hO64 HJ.out H27.out hoky hN64 W;generalize y.look (C pc) d s (R pc) (O pc) (N pc)=lk at hgs hl2 hlo hlz hl28 hlk;obtain⟨ls,er⟩:=lk;dsimp only at hgs hl2 hlo hlz hl28 hlk;rw[q5r pc ls fun z hz=>(hlz z hz).1]at hlk;have HLK:Hid (∀W:World,Calls tP 110 #[.agg (z04 (pc:Int) y),.agg #[A F (C pc),A F d,A F s,.bool (R pc),A F (O pc),A F (N pc)]] W fun e w'=> ∃v,e= rT (.tuple #[v,A F er])/\z0g w' W.heap.size v (posL (ls.map fun z=>(pc+1+z.1.toNat,z.2)))/\Below W.heap.size W w'):=hlk;have HGS:Hid ((if er≠0 then .inl (er,pc)else goF C D S R O N (3999-k) ((ls.map fun z=>(pc+1+z.1.toNat,z.2))++st) (if C pc=28 then es++[y.reg 0]else es))=X):=hgs;have HL2:Hid (ls.length<=2):=hl2
    have HLO:Hid (∀x,x∈(ls.map fun z=>(pc+1+z.1.toNat,z.2))++st->x.1<len/\x.2.Ok):=fun x hx=>by
     rcases List.mem_append.mp hx with hx|hx
     ·obtain⟨z,hz,rfl⟩:=List.mem_map.mp hx
      exact⟨(hlz z hz).2,hlo z hz⟩
     ·exact H.out.okst x (mcO _ hx)
    have HL28:Hid (C pc=28->ls=[]):=hl28;have HW7:Hid (z03 w7 B (pc:Int) y):=hW7;clear hW7 hgs hl2 hlo hlf hlz hl28 hlk HJ H27 hR hd hs HGo hO64 hN64;generalize C pc=c at*;generalize R pc=r at*;generalize O pc=o at*;generalize N pc=n at*;go_upto_region 12 with fail
    have hq8:Below w7.heap.size w7 (w7.alloc (cT #[A F c,A F d,A F s,.bool r,A F o,A F n] 135)):=(bF _ _).alloc (Nat.le_refl _) _;have hW8:=HW7.out.later hq8;have hb8:=hb7.trans (hq8.mono hb7.size);have HP8:Hid (z0g _ w.heap.size (.slice (some ⟨g,0,none⟩) m cp) (posL st.reverse)):=HP7.out.later hq8;have HE8:Hid (z3t _ w.heap.size u4 es):=HE7.out.later hq8;obtain⟨p0,p1,p2,p3,p4,p5,ltS⟩:=row6 (heap_alloc_new w7 (cT #[A F c,A F d,A F s,.bool r,A F o,A F n] 135));have hBS:B<w7.heap.size:=hlt0;clear hq8 g0 g1c g2 g3 g4 g5 hst0 hlt0 hb7 hb7' HP7 HE7 HW7 hbk7;generalize (w7.alloc (cT #[A F c,A F d,A F s,.bool r,A F o,A F n] 135))=w8 at hW8 hb8 HP8 HE8 p0 p1 p2 p3 p4 p5 ltS⊢;generalize w7.heap.size=S0 at hBS p0 p1 p2 p3 p4 p5 ltS⊢;go_step
    (refine wpList_load_row rfl 196 (.tmp 8) rfl B rfl 196 (z04 (pc:Int) y) (0,0) _ hW8 Tryz.underlying196 rfl (z0o _ _) ?_)
    simp only[pS]
    (refine z00 rfl (.agg #[A F c,A F d,A F s,.bool r,A F o,A F n]) w8 kG ?_);simp only[pS]
    refine z0v rfl 110 #[.agg (z04 (pc:Int) y),.agg #[A F c,A F d,A F s,.bool r,A F o,A F n]] kG (R:=fun x w'=> ∃v,x= .tuple #[v,A F er]/\z0g w' w8.heap.size v (posL (ls.map fun z=>(pc+1+z.1.toNat,z.2)))/\Below w8.heap.size w8 w') ((HLK.out w8).mono fun e w' h=>by obtain⟨v,h1,h2⟩:=h;exact⟨_,h1,v,rfl,h2⟩) ?_;intro v9 w9 hq;obtain⟨v10,rfl,hA9,hq9⟩:=hq;simp only[pS];have hb9:=hb8.trans (hq9.mono hb8.size);have HP9:Hid (z0g w9 w.heap.size (.slice (some ⟨g,0,none⟩) m cp) (posL st.reverse)):=HP8.out.later hq9;have HE9:Hid (z3t w9 w.heap.size u4 es):=HE8.out.later hq9;have hW9:=hW8.later hq9;have HA9:Hid (z0g w9 w.heap.size v10 (posL (ls.map fun z=>(pc+1+z.1.toNat,z.2)))):=hA9.mono hb8.size;have HAB:Hid (∀k,v10.ownBlock=some k->w8.heap.size<=k):=fun k e=>(hA9.above k e).1;have P0:=(hq9.cell (p:=⟨S0,0,none⟩) ltS).trans p0;have ltS9:=Nat.lt_of_lt_of_le ltS hq9.size;clear p0 p1 p2 p3 p4 p5 hA9 hW8 hb8 HP8 HE8 HLK;obtain⟨i0,i1,i2⟩:=hW9.reg (d:=0) kD;have hst9:=hW9.step;have hlt9:=hW9.lt;simp only[Nat.zero_mul,Nat.add_zero,Nat.reduceAdd]at i0 i1 i2;have HW9:Hid (z03 w9 B (pc:Int) y):=hW9;clear hW9
    by_cases he:er=0
    ·subst he
     obtain⟨a10,c10,hv10⟩:=HA9.out.shape;subst hv10;have hql:(posL (ls.map fun z=>(pc+1+z.1.toNat,z.2))).length=ls.length:=by unfold posL;rw[List.length_map,List.length_map]
     have hq2:=HL2.out;rw[<-hql]at hq2;clear hql;generalize hq:(posL (ls.map fun z=>(pc+1+z.1.toNat,z.2))).length=q at*;have HQ:Hid ((posL (ls.map fun z=>(pc+1+z.1.toNat,z.2))).length=q):=hq;have hq0:(0:Int)<=(q:Int):=kO;have hq1:(q:Int)<=2:=kO;have HGS2:Hid (goF C D S R O N (3999-k) ((ls.map fun z=>(pc+1+z.1.toNat,z.2))++st) (if c=28 then es++[y.reg 0]else es)=X):=HGS.out;have hgB:g<w8.heap.size:=kO;clear hq HGS
     by_cases h28:c=28
     ·have x28:(c==28)=true:=by simpa using h28
      have HGS3:Hid (goF C D S R O N (3999-k) ((ls.map fun z=>(pc+1+z.1.toNat,z.2))++st) (es++[y.reg 0])=X):=by have:=HGS2.out;rw[if_pos h28]at this;exact this
      have HESL:Hid (es.length<=k):=H.out.esl;have hesl:=H.out.esl;clear HGS2;go_upto_region 16 with fail
      go_step
      (refine z00 rfl u4 w9 kG ?_);simp only[pS]
      (refine z00 rfl (pT (some ⟨B,1,none⟩)) w9 kG ?_);simp only[pS]
      (refine z00 rfl (pT (some ⟨B,1,none⟩)) w9 kG ?_);simp only[pS]
      (refine z00 rfl (pT (some ⟨B,2,none⟩)) w9 kG ?_);simp only[pS]
      (refine z00 rfl (.agg #[A F (y.reg 0).l,A F (y.reg 0).h]) w9 kG ?_);simp only[pS]
      refine z00 rfl (.slice (some ⟨w9.heap.size,0,none⟩) 1 1) (w9.alloc (cT #[A F (y.reg 0).l,A F (y.reg 0).h] 84)) kG ?_;simp only[pS];refine zRh rfl (.tmp 59) (.tmp 64) rfl w.heap.size u4 es rfl HE9.out (y.reg 0) rfl kO hb9.size ?_;intro E2 w10 hE2 hg10 hs10;simp only[pS];have hb10:=((Blk.nil hb9).grown hg10 (b:=w.heap.size) (fun k e=>(HE9.out.above k e).1) (Nat.le_refl _) kS).1;have HP10:=HP9.out.grown hg10 (fun k e e2=>HSep.out k e2 e);have HA10:=HA9.out.grown hg10 (fun k e e2=>by have h3:=HAB.out k e2;have h4:=HEB.out k e;omega);have HLay:Hid (zBi w (posL st.reverse) (posL (ls.map fun z=>(pc+1+z.1.toNat,z.2))) (.slice a10 q c10) E2 (es++[y.reg 0]) q (.slice (some ⟨g,0,none⟩) m cp) w10):=⟨Nat.le_of_eq HQ.out.symm,hb10,by rw[List.drop_eq_nil_of_le (Nat.le_of_eq HQ.out),List.reverse_nil,List.append_nil];exact HP10,HA10,hE2,fun k e e2=>(hs10 k e2).elim (fun e3=>HSep.out k e e3) (fun e3=>by have h4:g=k:=Option.some.inj e;have:=hq9.size;omega),fun k e e2=>by have h3:=HAB.out k e2;have h4:g=k:=Option.some.inj e;omega,by rw[HQ.out,HM.out];omega⟩;clear hE2 hg10 hs10 HP10 HA10 hb10;go_wp2_with fail;go_loopw [5,12] (fun vw vi wr2=> ∃j:Nat,vi=A F ((j:Int)-1)/\Hid (zBi w (posL st.reverse) (posL (ls.map fun z=>(pc+1+z.1.toNat,z.2))) (.slice a10 q c10) E2 (es++[y.reg 0]) j vw wr2)) (fun _ vi _=>(intOf vi+1).toNat)
      case atStart=>exact⟨q,by go_num,HLay.out⟩
      case round=>
       obtain⟨j,rfl,HI⟩:=hrel;clear HLay
       cases j with
       |zero=>
        go_wp2_with fail;go_roundw
        case rel=>
         refine⟨k+1,(ls.map fun z=>(pc+1+z.1.toNat,z.2))++st,(es++[y.reg 0]),by go_num,by omega,HI.out.below,?_,HI.out.ends,HI.out.sepE,HLO.out,?_,?_,?_⟩
         ·rw[zQ7];exact HI.out.ways
         ·have:=HL2.out;rw[List.length_append,List.length_map];omega
         ·have:=HESL.out;rw[List.length_append];simp;omega
         ·rw[show 4000-(k+1)=3999-k by omega];exact HGS3.out
        case measure=>first|(simp[intOf];done)|(simp[intOf];omega)
       |succ j=>
        have hj1:j+1<=q:=by have:=HI.out.jl;rw[HQ.out]at this;exact this
        obtain⟨x,hx1,hx2,hx3⟩:=HI.out.part;obtain⟨px,yx⟩:=x;obtain⟨gv,ha10, -, -,hgv⟩:=HI.out.led.some_of (by have:=HQ.out;omega);subst ha10;have hld:=HI.out.led;have hel:wr.rangeAt gv (j*82) (z04 px yx).toList:=by rw[hx2]at hld;have:=hld.elem;rw[hx3]at this;exact this
        have HEL:Hid (wr.rangeAt gv (j*82) (z04 px yx).toList):=hel;have HX1:Hid ((posL (ls.map fun z=>(pc+1+z.1.toNat,z.2))).drop j=(px,yx)::(posL (ls.map fun z=>(pc+1+z.1.toNat,z.2))).drop (j+1)):=hx1;have e1:((j+1:Nat):Int)-1=(j:Int):=kO;rw[e1];have hj0:(0:Int)<=(j:Int):=kO;have hj2:(j:Int)<(q:Int):=kO;have hwv:=HI.out.ways.shape;obtain⟨av,cv,hv⟩:=hwv;have HF5:Hid (((posL st.reverse)++((posL (ls.map fun z=>(pc+1+z.1.toNat,z.2))).drop (j+1)).reverse).length<=1000000):=HI.out.small;have hb5:=HI.out.below.size;clear hel hld hx1 hx2 hx3 hv e1;go_upto_region 20 with fail
        go_step
        (refine z00 rfl u5 wr kG ?_);simp only[pS]
        (refine z00 rfl (.slice (some ⟨gv,0,none⟩) q c10) wr kG ?_);simp only[pS]
        (refine z00 rfl (A F (j:Int)) wr kG ?_);simp only[pS]
        refine z00 rfl (pT (some ⟨gv,j*82,none⟩)) wr (by go_simp;try(intro h;omega)) ?_;simp only[pS];refine zAj rfl (.tmp 76) rfl gv (j*82) rfl px yx HEL.out ?_;simp only[pS];refine z1k rfl (.tmp 77) px yx rfl rfl ?_;simp only[pS];refine zBk rfl (.tmp 73) (.tmp 78) rfl w.heap.size u5 _ rfl HI.out.ways px yx rfl HF5.out hb5 ?_;intro V3 w13 hA3 hg3 hs3;have HL3:Hid (zBi w (posL st.reverse) (posL (ls.map fun z=>(pc+1+z.1.toNat,z.2))) (.slice (some ⟨gv,0,none⟩) q c10) E2 (es++[y.reg 0]) j V3 w13):=HI.out.lay HX1.out hA3 hg3 hs3;clear hA3 hg3 hs3;simp only[pS];go_wp2_with fail;go_roundw
        case rel=>exact⟨j,by go_num,HL3.out⟩
        case measure=>first|(simp[intOf];done)|(simp[intOf];omega)
     ·have x28:(c==28)=false:=by simpa using h28
      have HGS3:Hid (goF C D S R O N (3999-k) ((ls.map fun z=>(pc+1+z.1.toNat,z.2))++st) es=X):=by have:=HGS2.out;rw[if_neg h28]at this;exact this
      have HESL:Hid (es.length<=k):=H.out.esl;have HLay:Hid (zBi w (posL st.reverse) (posL (ls.map fun z=>(pc+1+z.1.toNat,z.2))) (.slice a10 q c10) u4 es q (.slice (some ⟨g,0,none⟩) m cp) w9):=⟨Nat.le_of_eq HQ.out.symm,hb9,by rw[List.drop_eq_nil_of_le (Nat.le_of_eq HQ.out),List.reverse_nil,List.append_nil];exact HP9.out,HA9.out,HE9.out,HSep.out,fun k e e2=>by have h3:=HAB.out k e2;have h4:g=k:=Option.some.inj e;omega,by rw[HQ.out,HM.out];omega⟩;clear HGS2;go_wp2_with fail;go_loopw [5,12] (fun vw vi wr2=> ∃j:Nat,vi=A F ((j:Int)-1)/\Hid (zBi w (posL st.reverse) (posL (ls.map fun z=>(pc+1+z.1.toNat,z.2))) (.slice a10 q c10) u4 es j vw wr2)) (fun _ vi _=>(intOf vi+1).toNat)
      case atStart=>exact⟨q,by go_num,HLay.out⟩
      case round=>
       obtain⟨j,rfl,HI⟩:=hrel;clear HLay
       cases j with
       |zero=>
        go_wp2_with fail;go_roundw
        case rel=>
         refine⟨k+1,(ls.map fun z=>(pc+1+z.1.toNat,z.2))++st,es,by go_num,by omega,HI.out.below,?_,HI.out.ends,HI.out.sepE,HLO.out,?_,?_,?_⟩
         ·rw[zQ7];exact HI.out.ways
         ·have:=HL2.out;rw[List.length_append,List.length_map];omega
         ·have:=HESL.out;omega
         ·rw[show 4000-(k+1)=3999-k by omega];exact HGS3.out
        case measure=>first|(simp[intOf];done)|(simp[intOf];omega)
       |succ j=>
        have hj1:j+1<=q:=by have:=HI.out.jl;rw[HQ.out]at this;exact this
        obtain⟨x,hx1,hx2,hx3⟩:=HI.out.part;obtain⟨px,yx⟩:=x;obtain⟨gv,ha10, -, -,hgv⟩:=HI.out.led.some_of (by have:=HQ.out;omega);subst ha10;have hld:=HI.out.led;have hel:wr.rangeAt gv (j*82) (z04 px yx).toList:=by rw[hx2]at hld;have:=hld.elem;rw[hx3]at this;exact this
        have HEL:Hid (wr.rangeAt gv (j*82) (z04 px yx).toList):=hel;have HX1:Hid ((posL (ls.map fun z=>(pc+1+z.1.toNat,z.2))).drop j=(px,yx)::(posL (ls.map fun z=>(pc+1+z.1.toNat,z.2))).drop (j+1)):=hx1;have e1:((j+1:Nat):Int)-1=(j:Int):=kO;rw[e1];have hj0:(0:Int)<=(j:Int):=kO;have hj2:(j:Int)<(q:Int):=kO;have hwv:=HI.out.ways.shape;obtain⟨av,cv,hv⟩:=hwv;have HF5:Hid (((posL st.reverse)++((posL (ls.map fun z=>(pc+1+z.1.toNat,z.2))).drop (j+1)).reverse).length<=1000000):=HI.out.small;have hb5:=HI.out.below.size;clear hel hld hx1 hx2 hx3 hv e1;go_upto_region 20 with fail
        go_step
        (refine z00 rfl u5 wr kG ?_);simp only[pS]
        (refine z00 rfl (.slice (some ⟨gv,0,none⟩) q c10) wr kG ?_);simp only[pS]
        (refine z00 rfl (A F (j:Int)) wr kG ?_);simp only[pS]
        refine z00 rfl (pT (some ⟨gv,j*82,none⟩)) wr (by go_simp;try(intro h;omega)) ?_;simp only[pS];refine zAj rfl (.tmp 76) rfl gv (j*82) rfl px yx HEL.out ?_;simp only[pS];refine z1k rfl (.tmp 77) px yx rfl rfl ?_;simp only[pS];refine zBk rfl (.tmp 73) (.tmp 78) rfl w.heap.size u5 _ rfl HI.out.ways px yx rfl HF5.out hb5 ?_;intro V3 w13 hA3 hg3 hs3;have HL3:Hid (zBi w (posL st.reverse) (posL (ls.map fun z=>(pc+1+z.1.toNat,z.2))) (.slice (some ⟨gv,0,none⟩) q c10) u4 es j V3 w13):=HI.out.lay HX1.out hA3 hg3 hs3;clear hA3 hg3 hs3;simp only[pS];go_wp2_with fail;go_roundw
        case rel=>exact⟨j,by go_num,HL3.out⟩
        case measure=>first|(simp[intOf];done)|(simp[intOf];omega)
    ·have he2:(er !=0)=true:=by simpa using he
     go_upto_region 14 with fail
     go_region;go_wp2_with fail;exact bodyPost_ret (v:= .tuple #[.slice none 0 0,.iface 166 (pT (some ⟨w9.heap.size,0,none⟩))]) (by simp[results,Tryz.results75,go_sem]) rfl ⟨(hb9.alloc hb9.size _).drew,(by rw[<-HGS.out,if_pos he];exact⟨w9.heap.size,rfl,hb9.size,(zBg _ _ _ _).2.2,(zBg _ _ _ _).1,(zBg _ _ _ _).2.1⟩)⟩
def z88(es:List Kno)(i:Nat):Int×Int:=((es.getD i kno0).l,(es.getD i kno0).h)
theorem zOv(es:List Kno): ∀i,i<es.length->(z5f es)[i*2]?=some (A F (z88 es i).1)/\(z5f es)[i*2+1]?=some (A F (z88 es i).2):=by
 induction es with
 |nil=>intro i hi;exact absurd hi kS
 |cons b es ih=>
  intro i hi
  cases i with
  |zero=>exact⟨rfl,rfl⟩
  |succ i=>
   obtain⟨h1,h2⟩:=ih i (by simpa using hi);unfold z5f z88 at*;rw[List.flatMap_cons,show(i+1)*2=(i*2+1)+1 by omega];exact⟨h1,h2⟩
theorem zOi{w:World}{base:Nat}{v:Value}{es:List Kno}(h:z3t w base v es)(hl:es.length<=4000):zR 76 #[v] w (.agg #[A F (z1i (z88 es) es.length).1,A F (z1i (z88 es) es.length).2]):=by
 rcases h.2 with⟨h1,h2⟩|⟨g,cap,cur,h1,h2,h3,h4⟩
 ·rw[h1,h2];exact z8k none 0 w
 rw[h1]
 by_cases hz:es.length=0
 ·rw[hz];exact z8k _ cap w
 refine zDx g es.length cap (z88 es) kO kO w (Array.getElem?_eq_some_iff.1 h3).1 (fun i hi=>?_);obtain⟨e1,e2⟩:=zOv es i hi;have k1:=World.ownsRow.cells h (g:=g) (by rw[h1];rfl) _ _ e1;have k2:=World.ownsRow.cells h (g:=g) (by rw[h1];rfl) _ _ e2;rw[Addr.add_mid,Nat.zero_add]at k1 k2;exact⟨k1,k2⟩
theorem zMd{w:World}{B p o o' q:Nat}{x y:Value}(hne:p≠B):((w.setCell ⟨B,o,none⟩ x).setCell ⟨B,o',none⟩ y).cell? ⟨p,q,none⟩=w.cell? ⟨p,q,none⟩:=
 World.cell?_of_block ((Below.heap_setCell _ _ _ p hne).trans (Below.heap_setCell _ _ _ p hne))
theorem zQr(bk off len cap:Nat)(C D S O N:Nat->Int)(R:Nat->Bool)(w:World)(h1:1<=len)(h2:len<=200)(hbk:bk<w.heap.size)(hst:z1v w bk off len C D S R O N)(h: ∀j,j<len->z32 len C D S R O N j=0)(hf: ∀i,i<len->In64 (O i)/\In64 (N i)):(∀(es:List Kno)(hgo:goF C D S R O N 4000 [(0,way0)] []= .inr es),zR 47 #[.slice (some ⟨bk,off,none⟩) len cap] w (.tuple #[.agg #[A F (z1i (z88 es) es.length).1,A F (z1i (z88 es) es.length).2],.nilIface]))/\(∀(er:Int)(i:Nat)(hgo:goF C D S R O N 4000 [(0,way0)] []= .inl (er,i)),Calls tP 47 #[.slice (some ⟨bk,off,none⟩) len cap] w fun e w'=> ∃p,e= rT (.tuple #[.agg #[A F 0,A F 0],.iface 166 (pT (some ⟨p,0,none⟩))])/\Below w.heap.size w w'/\w.heap.size<p/\p<w'.heap.size/\w'.cell? ⟨p,0,none⟩=some (A F er)/\w'.cell? ⟨p,1,none⟩=some (A F (i:Int))):=by
 refine⟨?_,?_⟩;intro es hgo;rotate_left;intro er i hgo;rotate_left
 all_goals
  have hK0:Blk w [(w.heap.size,cT #[A F 0,A F 0] 84 (0,0))] (w.alloc (cT #[A F 0,A F 0] 84)):=(Blk.nil ((bF _ _).alloc (Nat.le_refl _) _)).cons (heap_alloc_new w _)
 all_goals
  go_enter Tryz.func47,Tryz.ntmps47;go_upto_region 1 with fail
  generalize (w.alloc (cT #[A F 0,A F 0] 84))=w0 at hK0⊢;go_step
  (refine z00 rfl (.slice (some ⟨bk,off,none⟩) len cap) w0 kG ?_);simp only[pS]
  have hst0:=hst.later (hK0.1) hbk;have hbk0:=Nat.lt_of_lt_of_le hbk hK0.1.size
  (refine z0c rfl 74 #[.slice (some ⟨bk,off,none⟩) len cap] kG .nilIface (z5z h hst0 h1 h2 hbk0) ?_)
  intro w1 hb1;have hK1:=hK0.later hb1;have hst1:=hst0.later hb1 hbk0;have hbk1:=Nat.lt_of_lt_of_le hbk0 hb1.size;simp only[pS];go_upto_region 4 with fail
  go_step
  (refine z00 rfl (.slice (some ⟨bk,off,none⟩) len cap) w1 kG ?_);simp only[pS]
 ·refine z0v rfl 75 #[.slice (some ⟨bk,off,none⟩) len cap] kG (R:=fun x w'=> ∃E,x= .tuple #[E,.nilIface]/\Below w1.heap.size w1 w'/\z3t w' w1.heap.size E es/\es.length<=4000) ((zLe bk off len cap C D S O N R w1 h1 h2 hbk1 hst1 (fun i hi=>z8e (h i hi)) hf).mono fun e w' hh=>by rw[hgo]at hh;obtain⟨hb,hh⟩:=hh;obtain⟨E,h3,h4⟩:=hh;exact⟨_,h3,E,rfl,hb,h4⟩) ?_
  intro v2 w2 hq;obtain⟨E,rfl,hb2,hE2,hl2⟩:=hq;have hK2:=hK1.later hb2;simp only[pS];go_upto_region 7 with fail
  go_step
  (refine z00 rfl E w2 kG ?_);simp only[pS]
  (refine z0c rfl 76 #[E] kG (.agg #[A F (z1i (z88 es) es.length).1,A F (z1i (z88 es) es.length).2]) (zOi hE2 hl2) ?_)
  intro w3 hb3;have hK1:=hK2.later hb3;obtain⟨r0,r1,rf0,rf1,rlt⟩:=row2 (hK1.2 _ mcS);simp only[pS];clear hE2;go_wp2_with fail;exact bodyPost_ret (v:= .tuple #[.agg #[A F (z1i (z88 es) es.length).1,A F (z1i (z88 es) es.length).2],.nilIface]) (by simp[results,Tryz.results47,go_sem, *]) rfl ⟨rfl,(hK1.1.setCell (Nat.le_refl _) _).setCell (Nat.le_refl _) _⟩
 ·refine z0v rfl 75 #[.slice (some ⟨bk,off,none⟩) len cap] kG (R:=fun x w'=> ∃p,x= .tuple #[.slice none 0 0,.iface 166 (pT (some ⟨p,0,none⟩))]/\Below w1.heap.size w1 w'/\w1.heap.size<=p/\p<w'.heap.size/\w'.cell? ⟨p,0,none⟩=some (A F er)/\w'.cell? ⟨p,1,none⟩=some (A F (i:Int))) ((zLe bk off len cap C D S O N R w1 h1 h2 hbk1 hst1 (fun i hi=>z8e (h i hi)) hf).mono fun e w' hh=>by rw[hgo]at hh;obtain⟨hb,hh⟩:=hh;obtain⟨p,h3,h4⟩:=hh;exact⟨_,h3,p,rfl,hb,h4⟩) ?_
  intro v2 w2 hq;obtain⟨p,rfl,hb2,hp0,hp1,c0,c1⟩:=hq;have hw1:=hK1.lt mcS;have hpne:p≠w.heap.size:=kO;have hK1:=hK1.later hb2;obtain⟨r0,r1,rf0,rf1,rlt⟩:=row2 (hK1.2 _ mcS);simp only[pS];go_wp2_with fail;exact bodyPost_ret (v:= .tuple #[.agg #[A F 0,A F 0],.iface 166 (pT (some ⟨p,0,none⟩))]) (by simp[results,Tryz.results47,go_sem, *]) rfl ⟨p,rfl,(hK1.1.setCell (Nat.le_refl _) _).setCell (Nat.le_refl _) _,by omega,by simpa using hp1,(zMd hpne).trans c0,(zMd hpne).trans c1⟩
def zCu:=fun bk off len cap C D S O N R w h1 h2 hbk hst h hf=>(@zQr bk off len cap C D S O N R w h1 h2 hbk hst h hf).1
def zRt:=fun bk off len cap C D S O N R w h1 h2 hbk hst h hf=>(@zQr bk off len cap C D S O N R w h1 h2 hbk hst h hf).2
end
section
open Go.RowKit
theorem zG3{C D S:Nat->Int}{R:Nat->Bool}{O N:Nat->Int}{len:Nat}(hr: ∀i,i<len->zUm (C i) (D i) (S i) (R i) (O i) (N i) len i)(hf: ∀i,i<len->In64 (N i)):
  ∀(m pc k:Nat)(a:Abs),len<=pc+m->a.Ok-> ∀n k' a',runF C D S R O N len pc k a= .fine n k' a'->a'.Ok:=by
 intro m;induction m with
 |zero=>
  intro pc k a hm ha n k' a' h;rw[zAu,if_neg kO]at h;exact absurd h (by simp[End.bad,End.fine])
 |succ m ih=>
  intro pc k a hm ha n k' a' h
  by_cases hp:pc<len
  ·by_cases hc:C pc=28
   ·by_cases hw:z3a (a.reg 0)=0
    ·rw[zKb hp hc hw]at h
     have e:a=a':=by
      simp only[End.fine,Sum.inr.injEq,Prod.mk.injEq]at h;exact h.2.2
     rw[<-e];exact ha
    ·rw[z9k hp hc hw]at h
     exact absurd h (by simp[End.bad,End.fine])
   ·by_cases hw:(doF (C pc) (D pc) (S pc) (R pc) (O pc) (N pc) a).2.1=0
    ·rw[zW9 hp hc hw]at h
     have r:=hr pc hp;exact ih _ _ _ kO (q4e ha r.c1 r.c2 hc r.d1 r.d2 r.s1 r.s2 (hf pc hp) (r:=R pc) (o:=O pc)) _ _ _ h
    ·rw[zQ0 hp hc hw]at h
     exact absurd h (by simp[End.bad,End.fine])
  ·rw[zAu,if_neg hp]at h
   exact absurd h (by simp[End.bad,End.fine])
end
section
open Go.ChangeShapes Go.WideShapes Go.ChangeAt Go.RowKit
def runL(xs:List St)(T K:Nat->Int)(time:Int):End:=runF (fun j=>(nth xs j).c) (fun j=>(nth xs j).d) (fun j=>(nth xs j).s) (fun j=>(nth xs j).r) (fun j=>(nth xs j).o) (fun j=>(nth xs j).n) xs.length 0 0 ((z6y T K time).abs [])
structure Rn where
 num:Int
 tab:Nat->Int
 out:List Int
 steps:Int
def rnOf:End->Rn
 | .inl _=>⟨0,fun _=>0,[],0⟩
 | .inr x=>⟨x.1,x.2.2.cel,x.2.2.out,(x.2.1:Int)⟩
def Pg.run(p:Pg)(T:Nat->Int)(time:Int):Rn:=rnOf (runL p.xs T p.tab time)
structure Sd where
 bf:Int
 num:Int
 out:List Int
 steps:Int
def sd0:Sd:=⟨0,0,[],0⟩
def Sd.more(s:Sd)(p:Pg)(r:Rn):Sd:=⟨if r.num=0 then s.bf else p.id,if r.num=0 then s.num else r.num,s.out++r.out,s.steps+r.steps⟩
def Pg.ran(p:Pg)(r:Rn):Pg:={p with tab:=r.tab}
def z08(T:Nat->Int)(time:Int):List Pg->Sd->Sd×List Pg
 |[],s=>(s,[])
 |p::ps,s=>if(p.run T time).num=0 then((z08 T time ps (s.more p (p.run T time))).1,p.ran (p.run T time)::(z08 T time ps (s.more p (p.run T time))).2)else(s.more p (p.run T time),p.ran (p.run T time)::ps)
def zJh(w:World)(v:Value):Prop:= ∀bk n cap,v= .slice (some ⟨bk,0,none⟩) n cap-> ∃cs fz,w.heap[bk]?=some (cT cs 135 fz)
theorem zJh.block{w w':World}{v:Value}{bk n:Nat}{cap:Nat}(h:zJh w v)(e:v= .slice (some ⟨bk,0,none⟩) n cap)(hb:w'.heap[bk]?=w.heap[bk]?):zJh w' v:=fun b n' c' q=>by
 obtain⟨cs,fz,z⟩:=h bk n cap e;rw[e]at q
 cases q;exact⟨cs,fz,hb.trans z⟩
theorem zJh.row{w:World}{b z n:Nat}{v:Value}{xs:List Value}(h:w.ownsRow b 135 z v n xs):zJh w v:=fun bk n' c' q=>by
 rcases h.2 with⟨rfl, -⟩|⟨g,c,cur,rfl, -,hg, -⟩
 ·cases q
 ·cases q
  exact⟨cur,_,hg⟩
structure PgOk (w:World) (B:Nat) (p:Pg):Prop where
 lies: ∃bk cap,p.sl= .slice (some ⟨bk,0,none⟩) p.xs.length cap/\bk<w.heap.size/\bk≠B/\z1v w bk 0 p.xs.length (fun j=>(nth p.xs j).c) (fun j=>(nth p.xs j).d) (fun j=>(nth p.xs j).s) (fun j=>(nth p.xs j).r) (fun j=>(nth p.xs j).o) (fun j=>(nth p.xs j).n)
 some:1<=p.xs.length
 few:p.xs.length<=200
 right: ∀j,j<p.xs.length->z3p p.xs j=0
 nums: ∀j,j<p.xs.length->In64 (nth p.xs j).o/\In64 (nth p.xs j).n
 tab: ∀i,i<16->In64 (p.tab i)
 tag:zJh w p.sl
theorem zPz(C D S:Nat->Int)(R:Nat->Bool)(O N:Nat->Int)(len:Nat): ∀(f pc k:Nat)(a:Abs)(n:Int)(k':Nat)(a':Abs),runN C D S R O N len f pc k a= .fine n k' a'->n=(a'.reg 0).n/\k'<=k+f:=by
 intro f;induction f with
 |zero=>intro pc k a n k' a' h;exact absurd h (by simp[runN,End.bad,End.fine])
 |succ f ih=>
  intro pc k a n k' a' h;rw[z5p]at h;split at h
  ·split at h
   ·split at h
    ·simp only[End.fine,Sum.inr.injEq,Prod.mk.injEq]at h
     obtain⟨h1,h2,h3⟩:=h;rw[<-h3];exact⟨h1.symm,by omega⟩
    ·exact absurd h (by simp[End.bad,End.fine])
   ·split at h
    ·exact absurd h (by simp[End.bad,End.fine])
    ·obtain⟨h1,h2⟩:=ih _ _ _ _ _ _ h
     exact⟨h1,by omega⟩
  ·exact absurd h (by simp[End.bad,End.fine])
section
variable {w w':World} {B:Nat} {p:Pg}
theorem PgOk.one(h:PgOk w B p):p.sl.oneCell'=true:=by
 obtain⟨bk,cap,e, -⟩:=h.lies;rw[e];rfl
theorem z3x{bk off len:Nat}{C D S:Nat->Int}{R:Nat->Bool}{O N:Nat->Int}(h:z1v w bk off len C D S R O N)(hb:w'.heap[bk]?=w.heap[bk]?):z1v w' bk off len C D S R O N:=fun i hi=>by
 have e:=fun o=>World.cell?_of_block (a:=⟨bk,o,none⟩) hb;obtain⟨a,b,c,d,k,m⟩:=h i hi;exact⟨(e _).trans a,(e _).trans b,(e _).trans c,(e _).trans d,(e _).trans k,(e _).trans m⟩
theorem PgOk.kept(h:PgOk w B p)(hk:Kept B w w'):PgOk w' B p:=by
 obtain⟨bk,cap,e,h1,h2,h3⟩:=h.lies;exact⟨⟨bk,cap,e,Nat.lt_of_lt_of_le h1 hk.size,h2,z3x h3 (hk.block bk h1 fun z=>h2 (Option.some.inj z))⟩,h.some,h.few,h.right,h.nums,h.tab,h.tag.block e (hk.block bk h1 fun z=>h2 (Option.some.inj z))⟩
theorem PgOk.runs(h:PgOk w B p)(T:Nat->Int)(time:Int)(hT: ∀i,i<8->In64 (T i))(ht:In64 time){n:Int}{k:Nat}{a:Abs}(e:runL p.xs T p.tab time= .fine n k a):n=(a.reg 0).n/\k<=200/\a.Ok:=by
 obtain⟨e1,e2⟩:=zPz _ _ _ _ _ _ _ _ _ _ _ _ _ _ e;have:=h.few;exact⟨e1,by omega,zG3 (fun i hi=>z8e (h.right i hi)) (fun i hi=>(h.nums i hi).2) p.xs.length 0 0 _ kO (zCb hT h.tab ht) n k a e⟩
theorem PgOk.small(h:PgOk w B p)(T:Nat->Int)(time:Int)(hT: ∀i,i<8->In64 (T i))(ht:In64 time):0<=(p.run T time).steps/\(p.run T time).steps<=200/\(p.run T time).out.length<=50/\(∀i,i<16->In64 ((p.run T time).tab i))/\In64 (p.run T time).num/\ ∀x,x∈(p.run T time).out->In64 x:=by
 have z:In64 0:=⟨by decide,by decide⟩;unfold Pg.run
 cases e:runL p.xs T p.tab time with
 |inl x=>exact⟨Int.le_refl _,(by decide:(0:Int)<=200),Nat.zero_le _,fun _ _=>z,z,fun _ hx=>absurd hx List.not_mem_nil⟩
 |inr x=>
  obtain⟨n,k,a⟩:=x;obtain⟨e1,h2,h3⟩:=h.runs T time hT ht e;exact⟨show(0:Int)<=(k:Int)by omega,show(k:Int)<=200 by omega,h3.room,h3.cel,show In64 n by rw[e1];exact(h3.reg 0 kD).n,h3.out⟩
theorem PgOk.later(h:PgOk w B p)(hb:Below w.heap.size w w'):PgOk w' B p:=h.kept (z0d hb B)
end
def z2a(K:Nat->Int):Array Value:=#[A F (K 0),A F (K 1),A F (K 2),A F (K 3),A F (K 4),A F (K 5),A F (K 6),A F (K 7),A F (K 8),A F (K 9),A F (K 10),A F (K 11),A F (K 12),A F (K 13),A F (K 14),A F (K 15)]
theorem zJw(K:Nat->Int){j:Nat}(hj:j<16):(z2a K).toList.getD j undef=A F (K j):=by
 rcases(show j=0\/j=1\/j=2\/j=3\/j=4\/j=5\/j=6\/j=7\/j=8\/j=9\/j=10\/j=11\/j=12\/j=13\/j=14\/j=15 by omega)with rfl|rfl|rfl|rfl|rfl|rfl|rfl|rfl|rfl|rfl|rfl|rfl|rfl|rfl|rfl|rfl<;>rfl
theorem z9j(K:Nat->Int):(z2a K).all (·.oneCell')=true:=kR
def rnCs(r:Rn)(v:Value):Array Value:=#[A F r.num,A F (r.tab 0),A F (r.tab 1),A F (r.tab 2),A F (r.tab 3),A F (r.tab 4),A F (r.tab 5),A F (r.tab 6),A F (r.tab 7),A F (r.tab 8),A F (r.tab 9),A F (r.tab 10),A F (r.tab 11),A F (r.tab 12),A F (r.tab 13),A F (r.tab 14),A F (r.tab 15),v,A F r.steps]
theorem zQc{w:World}{B:Nat}{p:Pg}(hp:PgOk w B p)(T:Nat->Int)(time:Int)(hT: ∀i,i<8->In64 (T i))(ht:In64 time):
  Calls tP 57 #[p.sl,.agg (z0j T),.agg (z2a p.tab),A F time] w fun e w'=> ∃v,e= rT v/\ ∃vo I,v= .tuple #[.agg (rnCs (p.run T time) vo),I]/\Below w.heap.size w w'/\w'.ownsRow (w.heap.size+1) 2 1 vo (p.run T time).out.length ((p.run T time).out.map (Value.int .i64)):=by
 obtain⟨bk,cap,e,h1,h2,h3⟩:=hp.lies;rw[e];unfold Pg.run runL
 cases hX:runF (fun j=>(nth p.xs j).c) (fun j=>(nth p.xs j).d) (fun j=>(nth p.xs j).s) (fun j=>(nth p.xs j).r) (fun j=>(nth p.xs j).o) (fun j=>(nth p.xs j).n) p.xs.length 0 0 ((z6y T p.tab time).abs [])with
 |inl x=>
  obtain⟨er,q⟩:=x;refine(zW7 bk 0 p.xs.length cap _ _ _ _ _ _ T p.tab time w hp.some hp.few h1 h3 hp.right (fun j hj=>(hp.nums j hj).2) hT hp.tab ht er q hX).mono fun e' w' hh=>?_;obtain⟨r,g1,g2, -⟩:=hh;exact⟨_,g1,.slice none 0 0,_,rfl,g2,World.ownsRow_nil _ _ _ _⟩
 |inr x=>
  obtain⟨n0,k,a⟩:=x;refine(zPy bk 0 p.xs.length cap _ _ _ _ _ _ T p.tab time w hp.some hp.few h1 h3 hp.right (fun j hj=>(hp.nums j hj).2) hT hp.tab ht n0 k a hX).mono fun e' w' hh=>?_;obtain⟨v3,g1,g2,g3⟩:=hh;exact⟨_,g1,v3,_,rfl,g2,g3⟩
end
section
section
variable {P:Program} {md:Region.Mode} {ops:Array Oper} {Q:Exit->Act->World->Prop} {S:World->Prop}
theorem z2m{fuel:Nat}{listed:Array Bool}{a:Act}{w:World}{i:Nat}{o:Oper}{rs:List Nat}(d:Option Tmp)(f:FuncId)(args:Array Value)(ho:ops[i]?=some o)(hd:o.dst=d)
  (hw:Region.wanted o (yielded ops a.tmps)=true)(hrun:(execOp a.eval o).run P w= .ok (.enter f args) w)
  (hc:Calls P f args w fun e w'=> ∃v,e= rT v/\S w'/\wpAnyH P md ops Q S fuel (listed.setIfInBounds i true) (a.put d v) w')
  (hs:AllReadyH P md ops Q S fuel listed a w rs):AllReadyH P md ops Q S fuel listed a w (i::rs):=by
 subst hd;refine AllReadyH.cons ho (fun K hK=>?_) hs;rw[if_pos hw];unfold Oper.wp;rw[hrun,Oper.upon_enter];refine hc.mono ?_;rintro e w' ⟨v,rfl,hS,h⟩;exact hK.out _ _ hS fun _=>h
end
end
end Go.Proofs.YtkdflpplamebkaaGreatDoor
