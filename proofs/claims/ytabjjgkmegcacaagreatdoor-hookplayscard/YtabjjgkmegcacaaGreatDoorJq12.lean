/-
A part of the proof of HookPlays; its card says what is proved.
-/
import Derived.Test.YtabjjgkmegcacaaGreatDoorJq11
set_option maxHeartbeats 40000000
open Go.Value renaming int → A
open Go.IntKind renaming i64 → C
open Go.RowKit.Below renaming alloc → bA, setCell → bS, drew → bD, refl → bF
set_option maxRecDepth 1000000
set_option linter.defProp false
set_option linter.unusedVariables false
set_option linter.unusedSimpArgs false
open Go.Ending renaming returned → rT
open Go.Value renaming pointer → pT
open Go.Obj renaming cells → cT
open Go.Proofs.Tryz renaming prog → tP
open List renaming length_cons → lQ
namespace Go.Proofs.YtabjjgkmegcacaaGreatDoor
open Go.ChangeShapes Go.WideShapes Go.ChangeAt Go.RowKit
theorem kQ{B:Nat}{w w1:World}(h:Kept B w w1:=by repeat' first|with_reducible assumption|with_reducible(first|exact z12 _ _|refine z50 ?_|refine z0v ?_ _ _|refine z3k ?_ _ _ ?_|refine z1j ?_ _)|((try dsimp only);omega)|(simp;done)|(simp;omega)):Kept B w w1:=h
section
set_option maxHeartbeats 40000000
set_option maxRecDepth 1000000
attribute [local simp] dwS z04
theorem z8p{w w':World}{B B':Nat}{p:Pg}(h:PgOk w B p)(hs:w.heap.size<=w'.heap.size)(hb: ∀k cs fz,w.heap[k]?=some (cT cs 121 fz)->k≠B'/\w'.heap[k]?=w.heap[k]?):PgOk w' B' p:=by
 obtain⟨bk,cap,e,h1,h2,h3⟩:=h.lies;obtain⟨cs,fz,ht⟩:=h.tag bk _ _ e;obtain⟨g1,g2⟩:=hb bk cs fz ht;exact⟨⟨bk,cap,e,by omega,g1,z1l h3 g2⟩,h.some,h.few,h.right,h.nums,h.tab,h.tag.block e g2⟩
theorem zFw{w wr:World}{la:Option Addr}{cap:Nat}{xs:List St}(hl:LsAt wr (.slice la xs.length cap) xs)(h1:1<=xs.length)(h2:xs.length<=200)(hw:w.heap.size<=wr.heap.size): ∃g cp w',(Builtin.append_ #[33,33] 33 #[.slice (some ⟨wr.heap.size,0,none⟩) 0 0,.slice la xs.length cap]).run tP (wr.alloc (cT #[] 121))= .ok (.slice (some ⟨g,0,none⟩) xs.length cp) w'/\Below wr.heap.size wr w'/\wr.heap.size<=g/\w'.ownsRow wr.heap.size 121 6 (.slice (some ⟨g,0,none⟩) xs.length cp) xs.length (z27 xs):=by
 obtain⟨a,cap',e,h0⟩:=hl.lies
 cases e;obtain⟨bk,off,rfl,hb,hs⟩:=h0.resolve_left kO;obtain⟨i0,hi0,hz0,hz1,hz2⟩:=info_parts Tryz.infoStep;obtain⟨v5,w5,hr5,ho5,hg5, -, -⟩:=run_append_own_at (P:=tP) (wr.alloc (cT #[] 121)) wr.heap.size 33 33 121 i0 (.agg St.zero.cells) 6 48 Tryz.underlying33 hi0 hz0 hz1 hz2 rfl kD (.slice (some ⟨wr.heap.size,0,none⟩) 0 0) 0 [] ⟨rfl,.inr ⟨wr.heap.size,0, #[],rfl,Nat.le_refl _,heap_alloc_new _ _,Nat.le_refl _,by decide,rfl,rfl⟩⟩ ⟨bk,off,none⟩ xs.length cap (z27 xs) (by rw[z5g]) (zCi rfl (z1l hs (heap_alloc_old _ _ hb))) (zBk xs) (by unfold maxLen;omega) kO kS;rw[Nat.zero_add,List.nil_append]at ho5;have hb5:Below wr.heap.size wr w5:=((bF _ _).alloc (Nat.le_refl _) _).grown hg5 kS (fun j hj=>Nat.le_of_eq (Option.some.inj hj));rcases rowShape ho5 with⟨-,e0⟩|⟨g,cp,rfl⟩
 ·omega
 exact⟨g,cp,w5,hr5,hb5,(World.ownsRow.lt ho5 g rfl).1,ho5⟩
theorem ChAt.last{w:World}{base c:Nat}{v:Value}{last:Int}{zs:List Zp}(h:ChAt w base c v last zs)(x:Int):ChAt (w.setCell ⟨c,1,none⟩ (A C x)) base c v x zs:=
 ⟨heap_setCell_same w c 1 _ _ _ h.box,⟨h.row.1,h.row.2.imp id fun⟨g,cap,cur,e1,e2,e3,e4⟩=>⟨g,cap,cur,e1,e2,(heap_setCell_other _ _ _ _ (z28 e3 h.box kD)).trans e3,e4⟩⟩,fun z hz=>(heap_setCell_other _ _ _ _ (z28 (h.pgs z hz) h.box kD)).trans (h.pgs z hz)⟩
theorem LsAt.off{w:World}{c:Nat}{x y:Value}{t:TypeId}{la:Option Addr}{cap:Nat}{xs:List St}(h:LsAt w (.slice la xs.length cap) xs)(hc:w.heap[c]?=some (cT #[x,y] t (0,0)))(h1:1<=xs.length){i:Nat}{u:Value}:LsAt (w.setCell ⟨c,i,none⟩ u) (.slice la xs.length cap) xs:=by
 obtain⟨a,cap',e,h0⟩:=h.lies
 cases e;obtain⟨bk,off,rfl,hb,hs⟩:=h0.resolve_left kO
 have hne:bk≠c:=fun e=>by
  have:=(hs 0 kO).2.2.2.1;rw[e,cell_of_row w c (off+0*6+3) _ _ _ hc,Array.getElem?_eq_none kS]at this
  cases this
 exact⟨⟨_,_,rfl,.inr ⟨bk,off,rfl,by simpa using hb,z1l hs (heap_setCell_other _ _ _ _ hne)⟩⟩,h.nums⟩
theorem zS8{o:Oper}{u:Act}{x y z:Operand}{W:World}{a b:Int}{g n c:Nat}{xs:List St}(ho:o.op= .build 59 #[(0,x),(1,y),(2,z)])(hx:u.eval x=A C a)(hy:u.eval y=A C b)(hz:u.eval z= .slice (some ⟨g,0,none⟩) n c):(execOp u.eval o).run tP W= .ok (.value (.agg (pgCs ⟨a,b,.slice (some ⟨g,0,none⟩) n c,xs,fun _=>0⟩))) W:=by
 have hb:Tryz.prog.built 59 #[(0,Value.int .i64 a),(1,A C b),(2,.slice (some ⟨g,0,none⟩) n c)].toList=some (pgCs ⟨a,b,.slice (some ⟨g,0,none⟩) n c,xs,fun _=>0⟩):=by kernel_rfl
 have hr:=run_build W 59 _ _ hb;unfold execOp;simp only[ho,List.map_toArray,List.map_cons,List.map_nil,hx,hy,hz,Sem.run_bind,Sem.run_pure,Result.andThen_ok,hr]
theorem Rw1.drew{w wr:World}{u:Value}{xs:List Zp}(h:Rw1 w u xs wr):Rw1 w u xs wr.drew:=⟨h.1.drew,h.2⟩
theorem z1p{w:World}{a b:Nat}{x y:Array Value}{s t:TypeId}{f g:Nat×Nat}(h1:w.heap[a]?=some (cT x s f))(h2:w.heap[b]?=some (cT y t g))(h:s≠t):a≠b:=fun e=>by
 rw[e,h2]at h1;injection h1 with h1
 injection h1 with _ h1
 exact h h1.symm
theorem z67{w:World}{b n z:Nat}{e:TypeId}{v:Value}{xs:List Value}(h:w.ownsRow b e z v n xs): ∃a m c,v= .slice a m c:=by
 obtain⟨a,c,e⟩:=z3d h;exact⟨a,n,c,e⟩
theorem zWs{w w':World}{c g N cp base:Nat}{box:Array Value}{a b:Int}{xs:List St}(ho:w.ownsRow base 121 6 (.slice (some ⟨g,0,none⟩) N cp) N (z27 xs))(hN:xs.length=N)(hL:Lets xs)(hn: ∀j,j<xs.length->In64 (nth xs j).o/\In64 (nth xs j).n)(hc:w.heap[c]?=some (cT box 52 (0,0)))(hs:w.heap.size<=w'.heap.size)(ht: ∀(k:Nat) cs fz,w.heap[k]?=some (Obj.cells cs 121 fz)->w'.heap[k]?=w.heap[k]?):PgOk w' c ⟨a,b,.slice (some ⟨g,0,none⟩) N cp,xs,fun _=>0⟩:=by
 subst hN
 have hg:g≠c:=by
  rcases ho.2 with⟨e, -⟩|⟨g',c',cur,e, -,h, -⟩
  ·cases e
  ·cases e
   exact z28 h hc kD
 refine z8p (B:=c) ⟨⟨g,cp,rfl,(World.ownsRow.lt ho g rfl).2,hg,zAg ho rfl⟩,hL.1,hL.2.1,hL.2.2.1,hn,fun i _=>(⟨by decide,by decide⟩:In64 0),zC9.row ho⟩ hs fun k cs fz hk=>⟨fun e=>?_,ht k cs fz hk⟩;rw[e,hc]at hk;injection hk with hk
 injection hk with _ hk
 exact absurd hk kD
theorem zFk(rank:Int): ∀zs:List Zp,(zs.filter fun z=>decide (z.2.rank<=rank)).length+(zs.filter fun z=>decide (rank<z.2.rank)).length=zs.length
 |[]=>rfl
 |z::zs=>by
  have:=zFk rank zs
  by_cases h:z.2.rank<=rank
  ·have h': ¬rank<z.2.rank:=kO
   simp[h,h'];omega
  ·have h':rank<z.2.rank:=kO
   simp[h,h'];omega
abbrev VerT(w:World)(l:Value)(ER IR:Int):Prop:= ∀W,Below w.heap.size w W->Calls tP 31 #[l] W (RvQ W ER IR)
abbrev lowL(rank:Int)(zs:List Zp):List Zp:=zs.filter fun z=>decide (z.2.rank<=rank)
abbrev z74(rank:Int)(zs:List Zp):List Zp:=zs.filter fun z=>decide (rank<z.2.rank)
theorem zZh(rank:Int)(zs:List Zp)(x:Zp)(j:Nat)(h:zs.length<8):(lowL rank zs++[x]++z74 rank (zs.take j)).length<=8:=by
 have e1:=zFk rank zs;have e2:=((List.take_sublist j zs).filter fun z=>decide (rank<z.2.rank)).length_le;simp only[List.length_append,List.length_cons,List.length_nil,lowL,z74];omega
def AttQ(w:World)(base c:Nat)(v:Value)(last rank:Int)(zs:List Zp)(xs:List St)(ER IR:Int)(e:Ending)(w':World):Prop:=
 ((ER !=0)=true/\e= rT (.tuple #[A C 0,.agg #[A C ER,A C IR]])/\Below w.heap.size w w')\/
 ((ER !=0)=false/\8<=zs.length/\e= rT (.tuple #[A C 0,.agg #[A C 12,A C (-1)]])/\Below w.heap.size w w')\/
 ((ER !=0)=false/\zs.length<8/\e= rT (.tuple #[A C (last+1),.agg #[A C 0,A C (-1)]])/\KpS [c] w w'/\ ∃v' b sl,w.heap.size<=b/\ChAt w' base c v' (last+1) (lowL rank zs++[(b,⟨last+1,rank,sl,xs,fun _=>0⟩)]++z74 rank zs)/\PgOk w' c ⟨last+1,rank,sl,xs,fun _=>0⟩)
theorem zN3{w:World}{base c:Nat}{v:Value}{last:Int}{zs:List Zp}(h:ChAt w base c v last zs)(hb:base<=w.heap.size)(h8:zs.length<=8)(hl0:0<=last)(hl1:last<=1000000)(la:Option Addr)(cap:Nat)(xs:List St)(hl:LsAt w (.slice la xs.length cap) xs)(rank ER IR:Int)(HV:Hid (VerT w (.slice la xs.length cap) ER IR))(HLe:(ER !=0)=false->Lets xs):Calls tP 16 #[pT (some ⟨c,0,none⟩),.slice la xs.length cap,A C rank] w (AttQ w base c v last rank zs xs ER IR):=by
 obtain⟨n,hn⟩: ∃n,Hid (zs.length=n):=⟨_,rfl⟩;obtain⟨N,hN⟩: ∃N,Hid (xs.length=N):=⟨_,rfl⟩;have HS:=rowShape h.row;rw[hn.out]at HS h8;rw[hN.out]at HV⊢;have n0:(0:Int)<=(n:Int):=kO;replace h:Hid _:=h
 replace hl:Hid _:=hl
 replace HLe:Hid _:=HLe
 have e1:wrap64 (last+1)=last+1:=z08 kO kO
 obtain⟨q,qc,hq⟩: ∃q qc,v= .slice q n qc:=by
  rcases HS with⟨rfl,e0⟩|⟨g,cp,rfl⟩
  ·exact⟨_,_,by rw[e0]⟩
  ·exact⟨_,_,rfl⟩
 subst hq;go_in
 go_upto_region 1 with fail
 refine gnl (W:=w) kMm ?_;intro w1 hM;have F:=hM.x;simp only[Mx]at F;go_upto_region 2 with(go_at_call 31;refine(HV.out _ hM.b).mono ?_;rintro e w2 ⟨x,y,rfl,hb2⟩;replace hM:=hM.later hb2)
 refine gnl (W:=w) kMm ?_;simp only[World.size_alloc];clear hM F;intro w3 hM;have F:=hM.x;simp only[Mx]at F
 cases tE:(ER !=0)
 ·obtain⟨L1,L2,L3,L4⟩:=HLe.out tE
  have HLL:Hid _:=HLe.out tE;have FC:=(Mm.cons (Mm.start w3) (h.out.later hM.b).box).x;simp only[Mx]at FC;rcases dc (8<=n)with⟨g8,d8⟩|⟨g8,d8⟩
  ·have t8:decide (8<=(n:Int))=true:=kZ
   have hbw:=hM.b;go_wp2_with(go_at_call 14;refine cR (zI8 _ _) ?_;intro w4 hb4;replace hM:=hM.later hb4;clear F;have F:=hM.x;simp only[Mx]at F;have hbw:=hM.b);exact bodyPost_ret (by simp[results,Tryz.results16,go_sem, *];try rfl) rfl (.inr (.inl ⟨tE,by rw[hn.out];omega,rfl,kB⟩))
  ·have t8:decide (8<=(n:Int))=false:=kZ
   clear L4;go_upto_region 8 with fail
   obtain⟨w4,HW⟩: ∃w4,Hid (w3.setCell ⟨c,1,none⟩ (A C (last+1))=w4):=⟨_,rfl⟩
   have hf:w4.heap[w.heap.size]?=some (cT #[A C 0,A C 0] 75 (0,0)):=by
    rw[<-HW.out,heap_setCell_other _ _ _ _ (z28 (hM.row kMe) (h.out.later hM.b).box kD)];exact hM.row kMe
   have hC:Hid (ChAt w4 base c (.slice q n qc) (last+1) zs/\KpS [c] w w4/\LsAt w4 (.slice la xs.length cap) xs):=by
    have:=h.out.later hM.b;refine⟨HW.out▸this.last _,HW.out▸(KpS.of hM.b).set kS,HW.out▸(hl.out.later hM.b).off this.box L1⟩
   rw[HW.out];have hw4:w.heap.size<w4.heap.size:=(Array.getElem?_eq_some_iff.1 hf).1;clear HW hM F FC h hl HV HLe;have FC:=(Mm.cons (Mm.start w4) hC.out.1.box).x;simp only[Mx]at FC;have HR:Hid (Rw1 w4 (.slice none 0 0) (lowL rank (zs.take 0)) w4):=⟨bF _ _,World.ownsRow_nil _ _ _ _⟩;go_wp2_with fail;go_loopw [10,43] (fun u jv wr=> ∃j:Nat,jv=A C j/\j<=n/\Hid (Rw1 w4 u (lowL rank (zs.take j)) wr)) (fun _ jv _=>n-(intOf jv).toNat)
   case atStart=>exact⟨0,rfl,kO,HR⟩
   case round=>
    clear HR FC;obtain⟨j,rfl,hj,HQ⟩:=hrel;have j0:(0:Int)<=(j:Int):=kO
    by_cases hlt:j<n
    ·have j1:(j:Int)<(n:Int):=kO
     have h1:=hC.out.1.later HQ.out.1;rcases HS with⟨hs,e0⟩|⟨g,cp,hs⟩
     ·exfalso;omega
     cases hs;rw[<-hn.out]at h1;obtain⟨y,hy,S⟩:=h1.see (j:=j) (by rw[hn.out];exact hlt);clear h1;rcases dc (y.2.rank<=rank)with⟨he,ht⟩|⟨he,ht⟩
     ·have HE:Hid (lowL rank (zs.take (j+1))=lowL rank (zs.take j)++[y]):=by show _=_;rw[hy.out.2.2,lowL,List.filter_append];simp[he]
      clear he;go_upto_region 12 with fail
      go_step;refine kGv ?_;refine kGv ?_;refine z6q (z:=y) HQ.out (Nat.le_trans (List.length_filter_le _ _) (by rw[List.length_take];omega)) rfl rfl rfl rfl rfl rfl rfl rfl ?_;intro u' w' hR _;simp only[pS];replace hR:Hid (Rw1 w4 u' (lowL rank (zs.take j)++[y]) w'):=hR
      clear S;go_wp2_with fail;go_roundw
      case rel=>exact⟨j+1,by go_num,kO,by rw[HE.out];exact hR⟩
      case measure=>simp[intOf];omega
     ·have HE:Hid (lowL rank (zs.take (j+1))=lowL rank (zs.take j)):=by show _=_;rw[hy.out.2.2,lowL,List.filter_append];simp[he]
      clear he;go_wp2_with fail;go_roundw
      case rel=>exact⟨j+1,by go_num,kO,by rw[HE.out];exact HQ⟩
      case measure=>simp[intOf];omega
    ·have j1:decide ((j:Int)<(n:Int))=false:=kZ
     have hq:=HQ.out;rw[List.take_of_length_le (by rw[hn.out];omega)]at hq;clear HQ;have FC:=(Mm.cons (Mm.start wr) (hC.out.1.later hq.1).box).x;simp only[Mx]at FC;obtain⟨qa,q2,rfl⟩:=z3d hq.2;replace hq:Hid (Rw1 w4 (.slice qa (lowL rank zs).length q2) (lowL rank zs) wr):=hq
     go_upto_region 14 with fail
     replace hq:Hid (Rw1 w4 (.slice qa (lowL rank zs).length q2) (lowL rank zs) wr.drew):=Rw1.drew hq.out
     have hS:wr.drew.heap[c]?=some (cT #[.slice q n qc,A C (last+1)] 52 (0,0)):=(hC.out.1.later hq.out.1).box;refine wp_region_held_drew (S:=fun U=>U.heap[c]?=some (cT #[.slice q n qc,A C (last+1)] 52 (0,0))) kR hS fun _=>?_;change wpAnyH _ _ _ _ _ 14 (Array.replicate 14 false) _ _
     clear FC;generalize wr.drew=wd at*;obtain⟨g2,c2,w5,hr5,hb5,hg5,ho5⟩:=zFw (w:=w4) (hC.out.2.2.later hq.out.1) L1 L2 hq.out.1.size;rw[hN.out]at hr5 ho5;obtain⟨Q,HQ⟩: ∃Q:Pg,Hid (Q=⟨last+1,rank,.slice (some ⟨g2,0,none⟩) N c2,xs,fun _=>0⟩):=⟨_,rfl⟩;have hb6:Below wd.heap.size wd (w5.alloc (cT (pgCs Q) 59)):=hb5.alloc hb5.size _;obtain⟨v7,w7,hr7,hR7,hT7⟩:=zKu (w5.heap.size,Q) (hq.out.later hb6) (Nat.le_trans (List.length_filter_le _ _) (by rw[hn.out];omega));have hc1:c<wd.heap.size:=(Array.getElem?_eq_some_iff.1 hS).1;have hS5:=(hb5.block c hc1).trans hS;have hS6:=(hb6.block c hc1).trans hS;have hS7:=(hC.out.1.later hR7.1).box;refine tkH (i:=0) (some 58) (.slice qa (lowL rank zs).length q2) rfl rfl (fun V hV=>kG) hS ?_;simp only[pS];refine tkH (i:=1) (some 59) (pT (some ⟨c,0,none⟩)) rfl rfl (fun V hV=>kG) hS ?_;simp only[pS];refine tkH (i:=2) (some 60) (pT (some ⟨c,0,none⟩)) rfl rfl (fun V hV=>kG) hS ?_;simp only[pS];refine tkH (i:=3) (some 61) (pT (some ⟨c,1,none⟩)) rfl rfl (fun V hV=>kG) hS ?_;simp only[pS];refine tkH (i:=4) (some 62) (A C (last+1)) rfl rfl (fun V hV=>by have F:=(Mm.cons (Mm.start V) hV).x;simp only[Mx]at F;go_simp) hS ?_;simp only[pS];refine tkH (i:=5) (some 63) (A C rank) rfl rfl (fun V hV=>kG) hS ?_;simp only[pS];refine tkH (i:=7) (some 65) (.slice la N cap) rfl rfl (fun V hV=>kG) hS ?_;simp only[pS];refine wpAnyH_ready (rs:=[6]) kR kS ?_;refine z24 (some 64) (.slice (some ⟨wd.heap.size,0,none⟩) 0 0) (wd.alloc (cT #[] 121)) rfl rfl kI (z8v wd rfl) ((heap_alloc_old wd _ hc1).trans hS) ?_ AllReadyH.nil;simp only[pS];refine wpAnyH_ready (rs:=[8]) kR kS ?_;refine z24 (some 66) (.slice (some ⟨g2,0,none⟩) N c2) w5 rfl rfl kI (z3s _ _ _ _ _ _ _ _ rfl rfl rfl hr5) hS5 ?_ AllReadyH.nil;simp only[pS];refine tkH (i:=9) (some 67) (.agg (pgCs Q)) rfl rfl (fun V hV=>by rw[HQ.out];exact zS8 rfl rfl rfl rfl) hS5 ?_;simp only[pS];refine wpAnyH_ready (rs:=[10]) kR kS ?_;refine z24 (some 68) (pT (some ⟨w5.heap.size,0,none⟩)) (w5.alloc (cT (pgCs Q) 59)) rfl rfl kI (by go_simp) hS6 ?_ AllReadyH.nil;simp only[pS];refine wpAnyH_ready (rs:=[11]) kR kS ?_;generalize hw6:w5.alloc (cT (pgCs Q) 59)=w6 at*;refine z24 (some 69) (.slice (some ⟨w6.heap.size,0,none⟩) 1 1) (w6.alloc (cT #[pT (some ⟨w5.heap.size,0,none⟩)] 60)) rfl rfl kI (by go_simp) ((heap_alloc_old w6 _ (Nat.lt_of_lt_of_le hc1 hb6.size)).trans hS6) ?_ AllReadyH.nil;simp only[pS];refine wpAnyH_ready (rs:=[12]) kR kS ?_;refine z24 (some 70) v7 w7 rfl rfl kI (z3s _ _ _ _ _ _ _ _ rfl rfl rfl hr7) hS7 ?_ AllReadyH.nil;simp only[pS];refine tkH (i:=13) (some 10) v7 rfl rfl (fun V hV=>kG) hS7 ?_;simp only[pS];refine wpAnyH_done kR ?_ _;have hb7:w7.heap[w5.heap.size]?=some (cT (pgCs Q) 59 (0,0)):=(hT7.2 _ _ _ _ (hw6▸heap_alloc_new w5 _) kD).trans (hw6▸heap_alloc_new w5 _)
     have hP7:PgOk w7 c Q:=by
      rw[HQ.out];refine zWs ho5 hN.out HLL.out hC.out.2.2.nums hS5 ?_ fun k cs fz hk=>?_
      ·exact Nat.le_of_lt (Array.getElem?_eq_some_iff.1 hb7).1
      ·have e:w6.heap[k]?=w5.heap[k]?:=hw6▸heap_alloc_old w5 _ (Array.getElem?_eq_some_iff.1 hk).1
       exact(hT7.2 k cs _ fz (e.trans hk) kD).trans e
     obtain⟨b,HB⟩: ∃b,Hid (w5.heap.size=b):=⟨_,rfl⟩;rw[HB.out]at hb7 hR7;have HX:Hid (Rw1 w4 v7 (lowL rank zs++[(b,Q)]++z74 rank (zs.take 0)) w7/\w7.heap[b]?=some (cT (pgCs Q) 59 (0,0))/\PgOk w7 c Q):=⟨by simpa using hR7,hb7,hP7⟩;have hbb:w.heap.size<=b:=by have:=hb5.size;have:=hq.out.1.size;have:=HB.out;omega
     have F:=(Mm.cons (Mm.start w7) hS7).x;simp only[Mx]at F;clear hb7 hP7 hR7 hT7 hr7 hr5 ho5 hS7 hS6 hS5 hS hb6 hb5 hg5 hw6 hc1 hq HB;go_wp2_with fail;go_loopw [10,76] (fun u jv wr=> ∃j:Nat,jv=A C j/\j<=n/\Hid (Rw1 w4 u (lowL rank zs++[(b,Q)]++z74 rank (zs.take j)) wr/\wr.heap[b]?=some (cT (pgCs Q) 59 (0,0))/\PgOk wr c Q)) (fun _ jv _=>n-(intOf jv).toNat)
     case atStart=>exact⟨0,rfl,kO,HX⟩
     case round=>
      clear HX F;obtain⟨j,rfl,hj,HX⟩:=hrel;have j0:(0:Int)<=(j:Int):=kO
      by_cases hlt:j<n
      ·have j1:(j:Int)<(n:Int):=kO
       have h1:=hC.out.1.later HX.out.1.1;rcases HS with⟨hs,e0⟩|⟨g,cp,hs⟩
       ·exfalso;omega
       cases hs;rw[<-hn.out]at h1;obtain⟨y,hy,S⟩:=h1.see (j:=j) (by rw[hn.out];exact hlt);have hbx:=h1.box;clear h1;rcases dc (rank<y.2.rank)with⟨he,ht⟩|⟨he,ht⟩
       ·have HE:Hid (z74 rank (zs.take (j+1))=z74 rank (zs.take j)++[y]):=by show _=_;rw[hy.out.2.2,z74,List.filter_append];simp[he]
        have hl8:=zZh rank zs (b,Q) j (by rw[hn.out];omega);clear he;go_upto_region 19 with fail
        go_step;refine kGv ?_;refine kGv ?_;refine z6q (z:=y) HX.out.1 hl8 rfl rfl rfl rfl rfl rfl rfl rfl ?_;intro u' w' hR hT;simp only[pS]
        have hY:Hid (Rw1 w4 u' (lowL rank zs++[(b,Q)]++z74 rank (zs.take (j+1))) w'/\w'.heap[b]?=some (cT (pgCs Q) 59 (0,0))/\PgOk w' c Q):=by
         refine⟨by rw[HE.out, <-List.append_assoc];exact hR,(hT.2 b _ _ _ HX.out.2.1 kD).trans HX.out.2.1,z8p HX.out.2.2 ?_ fun k cs fz hk=>⟨fun e=>?_,hT.2 k cs _ fz hk kD⟩⟩
         ·exact hT.1
         ·rw[e,hbx]at hk
          injection hk with hk
          injection hk with _ hk
          exact absurd hk kD
        clear S hR hT;go_wp2_with fail;go_roundw
        case rel=>exact⟨j+1,by go_num,kO,hY⟩
        case measure=>simp[intOf];omega
       ·have HE:Hid (z74 rank (zs.take (j+1))=z74 rank (zs.take j)):=by show _=_;rw[hy.out.2.2,z74,List.filter_append];simp[he]
        clear he;go_wp2_with fail;go_roundw
        case rel=>exact⟨j+1,by go_num,kO,by rw[HE.out];exact HX⟩
        case measure=>simp[intOf];omega
      ·have j1:decide ((j:Int)<(n:Int))=false:=kZ
       have hq:=HX.out;rw[List.take_of_length_le (by rw[hn.out];omega)]at hq;obtain⟨hq,hq2,hq3⟩:=hq;have hc:=hC.out.1.later hq.1;obtain⟨qa,m,q2,hu⟩:=z67 hq.2;subst hu;have FC:=(Mm.cons (Mm.start wr) hc.box).x;simp only[Mx]at FC;have hf9:wr.heap[w.heap.size]?=some (cT #[A C 0,A C 0] 75 (0,0)):=(hq.1.block _ hw4).trans hf
       have HP:=hC.out.1.put kO hq fun z hz=>by
        rcases List.mem_append.1 hz with hz|hz
        ·rcases List.mem_append.1 hz with hz|hz
         ·exact hc.pgs z (List.mem_filter.1 hz).1
         ·rw[List.mem_singleton.1 hz];exact hq2
        ·exact hc.pgs z (List.mem_filter.1 hz).1
       have hpq:=z8p (w':=wr.setCell ⟨c,0,none⟩ (.slice qa m q2)) hq3 kS fun k cs fz hk=>⟨z1p hk hc.box kD,heap_setCell_other _ _ _ _ (z1p hk hc.box kD)⟩;have hf9:=(heap_setCell_other wr ⟨c,0,none⟩ _ (.slice qa m q2) (z28 hf9 hc.box kD)).trans hf9;go_upto_region 22 with fail
       generalize wr.setCell ⟨c,0,none⟩ (.slice qa m q2)=w9 at*;have hM:Mm w9 [(c, #[.slice qa m q2,A C (last+1)],52),(w.heap.size, #[A C 0,A C 0],75)] w9:=((Mm.none (bF _ _)).cons hf9).cons HP.1.box;replace HP:Hid _:=And.intro HP hpq
       rw[HQ.out]at HP;clear FC hq hq2 hq3 hc hpq hf hf9 HX HLL;refine flo 5 [] hM kR kR kQp ?_;refine kFl ?_;intro w10 hM;have F:=hM.x;simp only[Mx]at F;go_wp2_with fail;have hf1:=hM.row (g:=w.heap.size) (cs:=#[A C 0,A C 0]) (t:=75) kMe;refine bodyPost_ret (by simp[results,Tryz.results16,go_sem, *];try rfl) rfl (.inr (.inr ⟨tE,by rw[hn.out];omega,rfl,(((hC.out.2.1.trans HP.out.1.2).trans (KpS.of hM.b)).new (Nat.le_refl _)).new (Nat.le_refl _),_,b,_,hbb,((HP.out.1.1.later hM.b).fault hf1).fault (heap_setCell_same _ _ _ _ _ _ hf1),?_⟩));refine z8p (HP.out.2.later hM.b) kS fun k cs fz hk=>⟨z1p hk (HP.out.1.1.later hM.b).box kD,?_⟩;have hk':=z1p hk hf1 kD;exact(heap_setCell_other _ _ _ _ hk').trans (heap_setCell_other _ _ _ _ hk')
 have hbw:=hM.b;go_wp2_with fail;go_region;go_wp2_with fail;exact bodyPost_ret (by simp[results,Tryz.results16,go_sem, *];try rfl) rfl (.inl ⟨tE,rfl,kB⟩)
end
section
set_option maxHeartbeats 40000000
set_option maxRecDepth 1000000
attribute [local simp] dwS z04
def z5h(zs:List Zp):Prop:=(zs.map fun z=>z.1).Nodup
theorem z5h.eq: ∀{zs:List Zp}{x y:Zp},z5h zs->x∈zs->y∈zs->x.1=y.1->x=y
 |z::zs,x,y,h,hx,hy,e=>by
  have h':z.1∉zs.map (fun z=>z.1)/\z5h zs:=by simpa[z5h]using h
  rcases List.mem_cons.1 hx with ex|ex<;>rcases List.mem_cons.1 hy with ey|ey
  ·rw[ex,ey]
  ·exact absurd (List.mem_map.2 ⟨y,ey,by rw[<-e,ex]⟩) h'.1
  ·exact absurd (List.mem_map.2 ⟨x,ex,by rw[e,ey]⟩) h'.1
  ·exact z5h.eq h'.2 ex ey e
def Pg.with(p:Pg)(sl:Value)(xs:List St):Pg:=⟨p.id,p.rank,sl,xs,p.tab⟩
def zPn(b:Nat)(sl:Value)(xs:List St)(zs:List Zp):List Zp:=zs.map fun y=>if y.1=b then(y.1,y.2.with sl xs)else y
theorem ChAt.prog{w w':World}{base c b:Nat}{v:Value}{last:Int}{zs:List Zp}{f:Pg->Pg}{z:Zp}(h:ChAt w base c v last zs)(hz:z∈zs)(hd:z5h zs)(hb:z.1=b)(h1:w'.heap[b]?=some (cT (pgCs (f z.2)) 59 (0,0)))(h2: ∀k,k≠b->w'.heap[k]?=w.heap[k]?):ChAt w' base c v last (zs.map fun y=>if y.1=b then(y.1,f y.2)else y):=by
 subst hb
 have e:ptrs (zs.map fun y=>if y.1=z.1 then(y.1,f y.2)else y)=ptrs zs:=by
  unfold ptrs;rw[List.map_map];apply List.map_congr_left;intro y _
  by_cases e:y.1=z.1<;>simp[e]
 refine⟨(h2 c (z28 h.box (h.pgs z hz) kD)).trans h.box,?_,fun x hx=>?_⟩
 ·rw[e,List.length_map]
  exact⟨h.row.1,h.row.2.imp id fun⟨g,cap,cur,e1,e2,e3,e4⟩=>⟨g,cap,cur,e1,e2,(h2 g (z28 e3 (h.pgs z hz) kD)).trans e3,e4⟩⟩
 obtain⟨y,hy,rfl⟩:=List.mem_map.1 hx
 by_cases ey:y.1=z.1
 ·rw[if_pos ey]
  obtain rfl:=hd.eq hy hz ey;exact h1
 rw[if_neg ey];exact(h2 _ ey).trans (h.pgs y hy)
def RepQ(w:World)(base c:Nat)(v:Value)(last:Int)(zs:List Zp)(id:Int)(xs:List St)(ER IR:Int)(e:Ending)(w':World):Prop:=
 ((∀x,x∈zs->(x.2.id==id)=false)/\e= rT (.agg #[A C 7,A C (-1)])/\Below w.heap.size w w')\/
 ((∃z,z∈zs/\z.2.id=id)/\(ER !=0)=true/\e= rT (.agg #[A C ER,A C IR])/\Below w.heap.size w w')\/
 ((ER !=0)=false/\e= rT (.agg #[A C 0,A C (-1)])/\ ∃z sl,z∈zs/\z.2.id=id/\KpS [z.1] w w'/\ChAt w' base c v last (zPn z.1 sl xs zs)/\PgOk w' c (z.2.with sl xs))
theorem zI1{w:World}{base c:Nat}{v:Value}{last:Int}{zs:List Zp}(h:ChAt w base c v last zs)(hb:base<=w.heap.size)(h8:zs.length<=8)(hd:z5h zs)(hP: ∀z,z∈zs->PgOk w c z.2)(la:Option Addr)(cap:Nat)(xs:List St)(hl:LsAt w (.slice la xs.length cap) xs)(id ER IR:Int)(HV:Hid (VerT w (.slice la xs.length cap) ER IR))(HLe:(ER !=0)=false->Lets xs):Calls tP 21 #[pT (some ⟨c,0,none⟩),A C id,.slice la xs.length cap] w (RepQ w base c v last zs id xs ER IR):=by
 obtain⟨N,hN⟩: ∃N,Hid (xs.length=N):=⟨_,rfl⟩;rw[hN.out]at HV⊢;have HO:Hid (∀W,Below w.heap.size w W->zS 36 #[pT (some ⟨c,0,none⟩),A C id] W (ofP zs id)):=fun W hW=>zWo (h.later hW) h8 id;replace h:Hid _:=h
 replace hl:Hid _:=hl
 replace HLe:Hid _:=HLe
 replace hd:Hid _:=hd
 replace hP:Hid _:=hP
 go_in
 go_upto_region 1 with fail
 refine gnl (W:=w) kMm ?_;intro w1 hM;have F:=hM.x;simp only[Mx]at F;rcases ofP_cases zs id with⟨e,he⟩|⟨z,e,hz,he⟩
 ·rw[e]at HO
  replace he:Hid _:=he
  go_wp2_with(first|(go_at_call 36;refine cS (HO.out _ hM.b) ?_)|(go_at_call 14;refine cR (zI8 _ _) ?_;intro w2 hb2;replace hM:=hM.later hb2;clear F;have F:=hM.x;simp only[Mx]at F;have hbw:=hM.b));exact bodyPost_ret (by simp[results,Tryz.results21,go_sem, *];try rfl) rfl (.inl ⟨he.out,rfl,kB⟩)
 rw[e]at HO;have HZ:Hid (z∈zs/\z.2.id=id):=⟨hz,he⟩;clear e hz he;go_upto_region 5 with(first|(go_at_call 36;refine cS (HO.out _ hM.b) ?_)|(go_at_call 31;refine(HV.out _ hM.b).mono ?_;rintro e w2 ⟨x,y,rfl,hb2⟩;replace hM:=hM.later hb2))
 refine gnl (W:=w) kMm ?_;simp only[World.size_alloc];clear hM F;intro w3 hM;have F:=hM.x;simp only[Mx]at F
 cases tE:(ER !=0)
 ·have HLL:Hid _:=HLe.out tE
  obtain⟨L1,L2, -, -⟩:=HLL.out;have hnum:Hid _:=hl.out.nums;have hc:=h.out.later hM.b;obtain⟨g2,c2,w5,hr5,hb5,hg5,ho5⟩:=zFw (w:=w) (hl.out.later hM.b) L1 L2 hM.b.size;rw[hN.out]at hr5 ho5;have hp5:=(hb5.block z.1 (Array.getElem?_eq_some_iff.1 (hc.pgs z HZ.out.1)).1).trans (hc.pgs z HZ.out.1);have F5:=(Mm.cons (Mm.start w5) hp5).x;simp only[Mx]at F5;have P5:=z7q z.2;have hf5:w5.heap[w.heap.size]?=some (cT #[A C 0,A C 0] 75 (0,0)):=(hb5.block _ (hM.lt kMe)).trans (hM.row kMe);have hC:Hid (ChAt w5 base c v last zs/\PgOk w5 c z.2/\Below w.heap.size w w5/\w5.ownsRow w3.heap.size 121 6 (.slice (some ⟨g2,0,none⟩) N c2) N (z27 xs)):=⟨hc.later hb5,((hP.out z HZ.out.1).later hM.b).later hb5,hM.b.trans (hb5.mono hM.b.size),ho5⟩;go_upto_region 7 with fail
  go_step;refine kGv ?_;refine z00 rfl (.slice (some ⟨w3.heap.size,0,none⟩) 0 0) (w3.alloc (cT #[] 121)) (z8v w3 rfl) ?_;simp only[pS];refine kGv ?_;refine z00 rfl (.slice (some ⟨g2,0,none⟩) N c2) w5 (z3s _ _ _ _ _ _ _ _ rfl rfl rfl hr5) ?_;simp only[pS];clear hM F hc hr5 hb5 hg5 ho5 HO HV HLe h hl;go_upto_region 8 with fail
  obtain⟨w6,HW⟩: ∃w6,Hid (w5.setCell ⟨z.1,2,none⟩ (.slice (some ⟨g2,0,none⟩) N c2)=w6):=⟨_,rfl⟩;have hf6:w6.heap[w.heap.size]?=some (cT #[A C 0,A C 0] 75 (0,0)):=by rw[<-HW.out];exact(heap_setCell_other _ _ _ _ (z28 hf5 hp5 kD)).trans hf5
  have HX:Hid (KpS [z.1] w w6/\ChAt w6 base c v last (zPn z.1 (.slice (some ⟨g2,0,none⟩) N c2) xs zs)/\PgOk w6 c (z.2.with (.slice (some ⟨g2,0,none⟩) N c2) xs)):=by
   have o:=hC.out;rw[<-HW.out];refine⟨(KpS.of o.2.2.1).set kS,o.1.prog HZ.out.1 hd.out rfl (f:=fun p=>p.with _ xs) (heap_setCell_same w5 z.1 2 _ _ _ hp5) fun k hk=>heap_setCell_other _ _ _ _ hk,?_⟩;have hn:=zWs (a:=z.2.id) (b:=z.2.rank) (w':=w5.setCell ⟨z.1,2,none⟩ (.slice (some ⟨g2,0,none⟩) N c2)) o.2.2.2 hN.out HLL.out hnum.out o.1.box kS fun k cs fz hk=>heap_setCell_other _ _ _ _ (z1p hk hp5 kD);exact⟨hn.lies,hn.some,hn.few,hn.right,hn.nums,o.2.1.tab,hn.tag⟩
  rw[HW.out];have hM:Mm w6 [(w.heap.size, #[A C 0,A C 0],75)] w6:=(Mm.none (bF _ _)).cons hf6;have F:=hM.x;simp only[Mx]at F;clear F5 P5 hp5 hf5 hf6 HW;go_wp2_with(go_at_call 14;refine cR (zI8 _ _) ?_;intro w7 hb7;replace hM:=hM.later hb7;clear F;have F:=hM.x;simp only[Mx]at F);have hf1:=hM.row (g:=w.heap.size) (cs:=#[A C 0,A C 0]) (t:=75) kMe;refine bodyPost_ret (by simp[results,Tryz.results21,go_sem, *];try rfl) rfl (.inr (.inr ⟨tE,rfl,z,_,HZ.out.1,HZ.out.2,((HX.out.1.trans (KpS.of hb7)).new (Nat.le_refl _)).new (Nat.le_refl _),((HX.out.2.1.later hb7).fault hf1).fault (heap_setCell_same _ _ _ _ _ _ hf1),?_⟩));refine z8p (HX.out.2.2.later hb7) kS fun k cs fz hk=>⟨z1p hk (HX.out.2.1.later hb7).box kD,?_⟩;have hk':=z1p hk hf1 kD;exact(heap_setCell_other _ _ _ _ hk').trans (heap_setCell_other _ _ _ _ hk')
 have hbw:=hM.b;go_wp2_with fail;exact bodyPost_ret (by simp[results,Tryz.results21,go_sem, *];try rfl) rfl (.inr (.inl ⟨⟨z,HZ.out⟩,tE,rfl,kB⟩))
end
section
attribute [local simp] z0p z0j z04
theorem Tryz.infoDan:(Tryz.prog.info? 130).map (·.size)=some 19:=kR
theorem Tryz.infoFlt:(Tryz.prog.info? 75).map (·.size)=some 2:=kR
theorem boxA(w:World)(X Y Z U:Obj):((((w.alloc X).alloc Y).alloc Z).alloc U).heap[w.heap.size]?=some X:=by
 rw[Below.heap_alloc (((w.alloc X).alloc Y).alloc Z) U _ (by first|(simp;done)|(simp;omega))];exact z88 w X Y Z
theorem boxB(w:World)(X Y Z U:Obj):((((w.alloc X).alloc Y).alloc Z).alloc U).heap[w.heap.size+1]?=some Y:=by
 rw[Below.heap_alloc (((w.alloc X).alloc Y).alloc Z) U _ (by first|(simp;done)|(simp;omega))];exact z64 w X Y Z
theorem boxC(w:World)(X Y Z U:Obj):((((w.alloc X).alloc Y).alloc Z).alloc U).heap[w.heap.size+1+1]?=some Z:=by
 rw[Below.heap_alloc (((w.alloc X).alloc Y).alloc Z) U _ kS];exact z7h w X Y Z
theorem boxD(w:World)(X Y Z U:Obj):((((w.alloc X).alloc Y).alloc Z).alloc U).heap[w.heap.size+1+1+1]?=some U:=by
 have:=heap_alloc_new (((w.alloc X).alloc Y).alloc Z) U;simp only[World.size_alloc]at this;exact this
theorem z7b(tmps:Array Value)(w':World)(g g2:Nat)(cs fs:Array Value)(h8:tmps.getD 8 undef= pT (some ⟨g,0,none⟩))(h9:tmps.getD 9 undef= pT (some ⟨g2,0,none⟩))(hg:w'.heap[g]?=some (cT cs 130 (0,0)))(hs:cs.size=19)(hg2:w'.heap[g2]?=some (cT fs 75 (0,0)))(hs2:fs.size=2):
  (results Tryz.f41 tmps).run tP w'= .ok (.tuple #[.agg cs,.agg fs]) w':=by
 have h8':tmps[8]?.getD undef= pT (some ⟨g,0,none⟩):=by simpa using h8
 have h9':tmps[9]?.getD undef= pT (some ⟨g2,0,none⟩):=by simpa using h9
 have hl:=run_loadVar_row (P:=tP) w' g 130 130 cs (0,0) _ hg Tryz.underlying130 rfl (by rw[Tryz.infoDan,hs]);have hl2:=run_loadVar_row (P:=tP) w' g2 75 75 fs (0,0) _ hg2 Tryz.underlying75 rfl (by rw[Tryz.infoFlt,hs2]);simp[results,Tryz.results41,asAddr,h8',h9',hl,hl2]
theorem z5p{o:Oper}{a:Act}(W:World)(x y:Operand)(g:Nat)(ty:TypeId)(old cs:Array Value)(ho:o.op= .store ty x y)(hx:a.eval x= pT (some ⟨g,0,none⟩))(hy:a.eval y= .agg cs)(hi:(Tryz.prog.info? ty).map (·.size)=some cs.size)(h:W.heap[g]?=some (cT old ty (0,0)))(hs:old.size=cs.size)(h1:cs.all (·.oneCell')=true):(execOp a.eval o).run tP W= .ok .skip (W.setRow g cs):=by
 unfold execOp;simp only[ho,hx,hy,Instr.storeAt,Instr.sureAddr,Sem.run_bind,Sem.run_pure,Result.andThen_ok,run_storeVar_row W g ty ty old cs h hi hs h1]
theorem zEr(E p:Int):(#[A C E,A C p]:Array Value).all (·.oneCell')=true:=kR
end
def kd(k:Int):Int:=if k=0 then 0 else if k=1 then 110 else if k=2 then 116 else if k=3 then 102 else 99
structure Dox where
 reg:Nat->Val
 slot:Nat->Val
 word:Nat->Int
 num:Int
 cel:Nat->Int
 out:Value
 steps:Int
 time:Int
def Dox.v(m:Dox)(i:Nat):Val:=if i<11 then m.reg i else m.slot (i-11)
def zCw(x:Val)(j:Nat):Value:=if j=0 then .int .u8 (kd x.k)else if j=1 then A C x.n else A C x.c
def Dox.cell(m:Dox)(i:Nat):Value:=
 if i<81 then zCw (m.v (i/3)) (i%3)
 else if i<89 then A C (m.word (i-81))
 else if i=89 then A C m.num
 else if i<106 then A C (m.cel (i-90))
 else if i=106 then m.out
 else if i=107 then A C m.steps
 else A C m.time
def z01(w:World)(B:Nat)(m:Dox):Prop:=w.heap[B]?=some (cT (Array.ofFn (n:=109) fun i=>m.cell i.1) 171 (0,0))
theorem z01.lt{w:World}{B:Nat}{m:Dox}(h:z01 w B m):B<w.heap.size:=(Array.getElem?_eq_some_iff.1 h).1
theorem z01.at{w:World}{B:Nat}{m:Dox}(h:z01 w B m)(i:Nat)(hi:i<109):w.cell? ⟨B,i,none⟩=some (m.cell i):=by
 have h':w.heap[B]?=some (cT (Array.ofFn (n:=109) fun i=>m.cell i.1) 171 (0,0)):=h;simp[World.cell?,h',hi]
theorem z01.frozen{w:World}{B:Nat}{m:Dox}(h:z01 w B m)(i:Nat):w.frozen? ⟨B,i,none⟩=false:=by
 have h':w.heap[B]?=some (cT (Array.ofFn (n:=109) fun i=>m.cell i.1) 171 (0,0)):=h;simp[World.frozen?,h']
theorem z01.later{w w1:World}{B:Nat}{m:Dox}(h:z01 w B m)(hb:Below w.heap.size w w1):z01 w1 B m:=(hb.block B h.lt).trans h
theorem z01.alloc{w:World}{B:Nat}{m:Dox}(h:z01 w B m)(o:Obj):z01 (w.alloc o) B m:=h.later ((bF _ _).alloc (Nat.le_refl _) _)
theorem z01.drew{w:World}{B:Nat}{m:Dox}(h:z01 w B m):z01 w.drew B m:=h
theorem z01.off{w:World}{B:Nat}{m:Dox}(h:z01 w B m)(a:Addr)(v:Value)(hne:B≠a.block):z01 (w.setCell a v) B m:=(Below.heap_setCell w a v B hne).trans h
theorem z01.set{w:World}{B:Nat}{m m':Dox}(h:z01 w B m)(i:Nat)(v:Value)(he: ∀j,j<109->m'.cell j=if j=i then v else m.cell j):z01 (w.setCell ⟨B,i,none⟩ v) B m':=by
 have h':w.heap[B]?=some (cT (Array.ofFn (n:=109) fun i=>m.cell i.1) 171 (0,0)):=h
 have e:(Array.ofFn (n:=109) fun i=>m.cell i.1).setIfInBounds i v=Array.ofFn (n:=109) fun i=>m'.cell i.1:=by
  apply Array.ext
  ·simp
  ·intro j h1 h2
   have h3:j<109:=by simpa using h2
   rw[Array.getElem_setIfInBounds (by simpa using h3),Array.getElem_ofFn,Array.getElem_ofFn];show(if i=j then v else m.cell j)=m'.cell j;rw[he j h3]
   by_cases hj:i=j
   ·rw[if_pos hj,if_pos hj.symm]
   ·rw[if_neg hj,if_neg (fun e=>hj e.symm)]
 unfold z01;rw[<-e];simp[World.setCell,Array.getElem?_modify,h']
def Dox.putReg(m:Dox)(d:Nat)(x:Val):Dox:={m with reg:=fun i=>if i=d then x else m.reg i}
def Dox.putSlot(m:Dox)(d:Nat)(x:Val):Dox:={m with slot:=fun i=>if i=d then x else m.slot i}
def Dox.putV(m:Dox)(d:Nat)(x:Val):Dox:=if d<11 then m.putReg d x else m.putSlot (d-11) x
theorem Dox.putV_v(m:Dox)(d:Nat)(x:Val)(i:Nat):(m.putV d x).v i=if i=d then x else m.v i:=by
 unfold Dox.putV Dox.v
 by_cases hd:d<11
 ·rw[if_pos hd]
  by_cases hi:i<11
  ·rw[if_pos hi,if_pos hi];rfl
  ·rw[if_neg hi,if_neg hi,if_neg kO];rfl
 rw[if_neg hd]
 by_cases hi:i<11
 ·rw[if_pos hi,if_pos hi,if_neg kO];rfl
 rw[if_neg hi,if_neg hi];show(if i-11=d-11 then x else m.slot (i-11))=_
 by_cases e:i=d
 ·rw[if_pos e,if_pos kO]
 rw[if_neg e,if_neg kO]
theorem Dox.putV_rest(m:Dox)(d:Nat)(x:Val):(m.putV d x).word=m.word/\(m.putV d x).num=m.num/\(m.putV d x).cel=m.cel/\(m.putV d x).out=m.out/\(m.putV d x).steps=m.steps/\(m.putV d x).time=m.time:=by
 unfold Dox.putV;split<;>exact⟨rfl,rfl,rfl,rfl,rfl,rfl⟩
def Dox.putCel(m:Dox)(t:Nat)(n:Int):Dox:={m with cel:=fun i=>if i=t then n else m.cel i}
def Dox.setNum(m:Dox)(n:Int):Dox:={m with num:=n}
def Dox.setOut(m:Dox)(v:Value):Dox:={m with out:=v}
def Dox.setSteps(m:Dox)(n:Int):Dox:={m with steps:=n}
theorem Dox.cell_v(m:Dox)(d:Nat)(hd:d<27):m.cell (d*3)= .int .u8 (kd (m.v d).k)/\m.cell (d*3+1)=A C (m.v d).n/\m.cell (d*3+2)=A C (m.v d).c:=by
 refine⟨?_,?_,?_⟩
 ·unfold Dox.cell
  rw[if_pos kO,show d*3/3=d by omega,show d*3%3=0 by omega];rfl
 ·unfold Dox.cell
  rw[if_pos kO,show(d*3+1)/3=d by omega,show(d*3+1)%3=1 by omega];rfl
 unfold Dox.cell;rw[if_pos kO,show(d*3+2)/3=d by omega,show(d*3+2)%3=2 by omega];rfl
theorem z01.v{w:World}{B d:Nat}{m:Dox}(h:z01 w B m)(hd:d<27):w.cell? ⟨B,d*3,none⟩=some (.int .u8 (kd (m.v d).k))/\w.cell? ⟨B,d*3+1,none⟩=some (A C (m.v d).n)/\w.cell? ⟨B,d*3+2,none⟩=some (A C (m.v d).c):=
 ⟨by rw[h.at _ kO,(m.cell_v d hd).1],by rw[h.at _ kO,(m.cell_v d hd).2.1],by rw[h.at _ kO,(m.cell_v d hd).2.2]⟩
theorem z01.word{w:World}{B d:Nat}{m:Dox}(h:z01 w B m)(hd:d<8):w.cell? ⟨B,81+d,none⟩=some (A C (m.word d)):=by
 rw[h.at _ kO];unfold Dox.cell;rw[if_neg kO,if_pos kO,show 81+d-81=d by omega]
theorem z01.cel{w:World}{B d:Nat}{m:Dox}(h:z01 w B m)(hd:d<16):w.cell? ⟨B,90+d,none⟩=some (A C (m.cel d)):=by
 rw[h.at _ kO];unfold Dox.cell;rw[if_neg kO,if_neg kO,if_neg kO,if_pos kO,show 90+d-90=d by omega]
theorem z01.num{w:World}{B:Nat}{m:Dox}(h:z01 w B m):w.cell? ⟨B,89,none⟩=some (A C m.num):=h.at 89 kO
theorem z01.outv{w:World}{B:Nat}{m:Dox}(h:z01 w B m):w.cell? ⟨B,106,none⟩=some m.out:=h.at 106 kO
theorem z01.steps{w:World}{B:Nat}{m:Dox}(h:z01 w B m):w.cell? ⟨B,107,none⟩=some (A C m.steps):=h.at 107 kO
theorem z01.time{w:World}{B:Nat}{m:Dox}(h:z01 w B m):w.cell? ⟨B,108,none⟩=some (A C m.time):=h.at 108 kO
theorem Dox.cell_putV(m:Dox)(d:Nat)(hd:d<27)(y:Val)(j:Nat):(m.putV d y).cell j=if d*3<=j/\j<d*3+3 then zCw y (j-d*3)else m.cell j:=by
 by_cases h:d*3<=j/\j<d*3+3
 ·rw[if_pos h]
  unfold Dox.cell;rw[if_pos kO,show j/3=d by omega,show j%3=j-d*3 by omega];rw[m.putV_v,if_pos rfl]
 rw[if_neg h];unfold Dox.cell;obtain⟨e1,e2,e3,e4,e5,e6⟩:=m.putV_rest d y
 by_cases h81:j<81
 ·rw[if_pos h81,if_pos h81,m.putV_v,if_neg kO]
 rw[if_neg h81,if_neg h81,e1,e2,e3,e4,e5,e6]
theorem Dox.putV_part(m:Dox)(d:Nat)(hd:d<27)(y z:Val)(i:Nat)(hi:i<3)(h: ∀j,j<3->zCw z j=if j=i then zCw z i else zCw y j): ∀j,j<109->(m.putV d z).cell j=if j=d*3+i then zCw z i else(m.putV d y).cell j:=by
 intro j _;rw[m.cell_putV d hd z j,m.cell_putV d hd y j]
 by_cases hin:d*3<=j/\j<d*3+3
 ·rw[if_pos hin,if_pos hin,h _ kO]
  by_cases e:j=d*3+i
  ·rw[if_pos e,if_pos kO]
  ·rw[if_neg e,if_neg kO]
 rw[if_neg hin,if_neg hin,if_neg kO]
theorem Dox.put_same(m:Dox)(d:Nat):m.putV d (m.v d)=m:=by
 unfold Dox.putV Dox.v
 by_cases hd:d<11
 ·rw[if_pos hd,if_pos hd]
  unfold Dox.putReg
  have:(fun i=>if i=d then m.reg d else m.reg i)=m.reg:=by
   funext i
   by_cases h:i=d
   ·rw[if_pos h,h]
   ·rw[if_neg h]
  rw[this]
 rw[if_neg hd,if_neg hd];unfold Dox.putSlot
 have:(fun i=>if i=d-11 then m.slot (d-11)else m.slot i)=m.slot:=by
  funext i
  by_cases h:i=d-11
  ·rw[if_pos h,h]
  ·rw[if_neg h]
 rw[this]
theorem z01.putN{w:World}{B d:Nat}{m:Dox}(h:z01 w B m)(hd:d<27)(n:Int):z01 (w.setCell ⟨B,d*3+1,none⟩ (A C n)) B (m.putV d ⟨(m.v d).k,n,(m.v d).c⟩):=
 h.set _ _ fun j hj=>by
  have:=m.putV_part d hd (m.v d) ⟨(m.v d).k,n,(m.v d).c⟩ 1 kO (fun j hj=>by rcases(show j=0\/j=1\/j=2 by omega)with rfl|rfl|rfl<;>rfl) j hj;rw[this,m.put_same d];rfl
theorem z01.put3{w:World}{B d:Nat}{m:Dox}(h:z01 w B m)(hd:d<27)(k n c:Int):z01 (((w.setCell ⟨B,d*3,none⟩ (.int .u8 (kd k))).setCell ⟨B,d*3+1,none⟩ (A C n)).setCell ⟨B,d*3+2,none⟩ (A C c)) B (m.putV d ⟨k,n,c⟩):=by
 have h1:z01 (w.setCell ⟨B,d*3,none⟩ (.int .u8 (kd k))) B (m.putV d ⟨k,(m.v d).n,(m.v d).c⟩):=h.set _ _ fun j hj=>by
  have:=m.putV_part d hd (m.v d) ⟨k,(m.v d).n,(m.v d).c⟩ 0 kO (fun j hj=>by rcases(show j=0\/j=1\/j=2 by omega)with rfl|rfl|rfl<;>rfl) j hj;rw[this,m.put_same d];rfl
 have h2:z01 ((w.setCell ⟨B,d*3,none⟩ (.int .u8 (kd k))).setCell ⟨B,d*3+1,none⟩ (A C n)) B (m.putV d ⟨k,n,(m.v d).c⟩):=h1.set _ _ fun j hj=>
  m.putV_part d hd ⟨k,(m.v d).n,(m.v d).c⟩ ⟨k,n,(m.v d).c⟩ 1 kO (fun j hj=>by rcases(show j=0\/j=1\/j=2 by omega)with rfl|rfl|rfl<;>rfl) j hj
 exact h2.set _ _ fun j hj=>
  m.putV_part d hd ⟨k,n,(m.v d).c⟩ ⟨k,n,c⟩ 2 kO (fun j hj=>by rcases(show j=0\/j=1\/j=2 by omega)with rfl|rfl|rfl<;>rfl) j hj
theorem z01.cel1{w:World}{B d:Nat}{m:Dox}(h:z01 w B m)(hd:d<16)(n:Int):z01 (w.setCell ⟨B,90+d,none⟩ (A C n)) B (m.putCel d n):=
 h.set _ _ fun j hj=>by
  unfold Dox.cell
  by_cases e:j=90+d
  ·rw[if_pos e,if_neg kO,if_neg kO,if_neg kO,if_pos kO,show j-90=d by omega]
   show Value.int .i64 (if d=d then n else m.cel d)=_;rw[if_pos rfl]
  ·rw[if_neg e]
   by_cases h0:j<81
   ·rw[if_pos h0,if_pos h0];rfl
   by_cases h1:j<89
   ·rw[if_neg h0,if_pos h1,if_neg h0,if_pos h1];rfl
   by_cases h2:j=89
   ·rw[if_neg h0,if_neg h1,if_pos h2,if_neg h0,if_neg h1,if_pos h2];rfl
   by_cases h3:j<106
   ·rw[if_neg h0,if_neg h1,if_neg h2,if_pos h3,if_neg h0,if_neg h1,if_neg h2,if_pos h3]
    show Value.int .i64 (if j-90=d then n else m.cel (j-90))=_;rw[if_neg kO]
   ·rw[if_neg h0,if_neg h1,if_neg h2,if_neg h3,if_neg h0,if_neg h1,if_neg h2,if_neg h3];rfl
theorem Dox.cell_low(m:Dox){j:Nat}(h:j<106)(hn:j≠89)(v:Value)(n s:Int):({m with num:=n,out:=v,steps:=s}:Dox).cell j=m.cell j:=by
 unfold Dox.cell
 by_cases h0:j<81
 ·rw[if_pos h0,if_pos h0];rfl
 by_cases h1:j<89
 ·rw[if_neg h0,if_pos h1,if_neg h0,if_pos h1]
 rw[if_neg h0,if_neg h1,if_neg hn,if_pos h,if_neg h0,if_neg h1,if_neg hn,if_pos h]
theorem z01.putOut{w:World}{B:Nat}{m:Dox}(h:z01 w B m)(v:Value):z01 (w.setCell ⟨B,106,none⟩ v) B (m.setOut v):=
 h.set 106 v fun j hj=>by
  by_cases e:j=106
  ·rw[if_pos e,e];rfl
  rw[if_neg e]
  by_cases h89:j=89
  ·rw[h89];rfl
  by_cases h1:j<106
  ·exact m.cell_low h1 h89 v m.num m.steps
  rcases(show j=107\/j=108 by omega)with rfl|rfl<;>rfl
theorem z01.putSteps{w:World}{B:Nat}{m:Dox}(h:z01 w B m)(n:Int):z01 (w.setCell ⟨B,107,none⟩ (A C n)) B (m.setSteps n):=
 h.set 107 _ fun j hj=>by
  by_cases e:j=107
  ·rw[if_pos e,e];rfl
  rw[if_neg e]
  by_cases h89:j=89
  ·rw[h89];rfl
  by_cases h1:j<106
  ·exact m.cell_low h1 h89 m.out m.num n
  rcases(show j=106\/j=108 by omega)with rfl|rfl<;>rfl
theorem z01.putNum{w:World}{B:Nat}{m:Dox}(h:z01 w B m)(n:Int):z01 (w.setCell ⟨B,89,none⟩ (A C n)) B (m.setNum n):=
 h.set 89 _ fun j hj=>by
  by_cases e:j=89
  ·rw[if_pos e,e];rfl
  rw[if_neg e]
  by_cases h1:j<106
  ·exact m.cell_low h1 e m.out n m.steps
  rcases(show j=106\/j=107\/j=108 by omega)with rfl|rfl|rfl<;>rfl
def Dox.abs(m:Dox)(L:List Int):Abs:=⟨m.reg,m.slot,m.word,m.cel,m.time,L⟩
theorem Dox.v_reg(m:Dox){d:Nat}(h:d<11):m.v d=m.reg d:=if_pos h
theorem Dox.v_slot(m:Dox){d:Nat}:m.v (11+d)=m.slot d:=by unfold Dox.v;rw[if_neg kO,show 11+d-11=d by omega]
theorem Dox.putV_reg(m:Dox){d:Nat}(h:d<11)(x:Val):m.putV d x=m.putReg d x:=if_pos h
theorem Dox.putV_slot(m:Dox){d:Nat}(x:Val):m.putV (11+d) x=m.putSlot d x:=by unfold Dox.putV;rw[if_neg kO,show 11+d-11=d by omega]
section
attribute [local simp] z0p z0j z04
theorem size_t(q:Int)(x0:(q==116)=true)(w:World):zR 80 #[.int .u8 q] w (.agg #[A C 0,A C 7]):=by
 go_enter Tryz.func80,Tryz.ntmps80;go_wp2;exact bodyPost_ret (v:= .agg #[A C 0,A C 7]) (by simp[results,Tryz.results80,go_sem]) rfl ⟨rfl,(bF _ _).alloc (Nat.le_refl _) _⟩
theorem size_c(q:Int)(x0:(q==116)=false)(x1:(q==99)=true)(w:World):zR 80 #[.int .u8 q] w (.agg #[A C 0,A C 3]):=by
 go_enter Tryz.func80,Tryz.ntmps80;go_wp2;exact bodyPost_ret (v:= .agg #[A C 0,A C 3]) (by simp[results,Tryz.results80,go_sem]) rfl ⟨rfl,(bF _ _).alloc (Nat.le_refl _) _⟩
theorem size_f(q:Int)(x0:(q==116)=false)(x1:(q==99)=false)(w:World):zR 80 #[.int .u8 q] w (.agg #[A C (-16),A C (-1)]):=by
 go_enter Tryz.func80,Tryz.ntmps80;go_wp2;exact bodyPost_ret (v:= .agg #[A C (-16),A C (-1)]) (by simp[results,Tryz.results80,go_sem]) rfl ⟨rfl,(bF _ _).alloc (Nat.le_refl _) _⟩
theorem zP1(q n c o:Int)(x0:(q==0)=true)(w:World):zR 69 #[.agg #[.int .u8 q,A C n,A C c],A C o] w (.tuple #[A C 0,A C 8]):=by
 go_enter Tryz.func69,Tryz.ntmps69;go_wp2;go_ret2
 exact⟨rfl,(bF _ _).alloc (Nat.le_refl _) _⟩
theorem zSh(q n c o:Int)(x0:(q==0)=false)(x1:(q==110)=true)(w:World):zR 69 #[.agg #[.int .u8 q,A C n,A C c],A C o] w (.tuple #[A C 0,A C 1]):=by
 go_enter Tryz.func69,Tryz.ntmps69;go_wp2;go_ret2
 exact⟨rfl,(bF _ _).alloc (Nat.le_refl _) _⟩
theorem zBa(q n c o:Int)(t lo hi:Int)(HD:Hid (∀w,zS 100 #[A C 2,A C n,A C o] w (A C t)))(HS:Hid (∀w,zR 80 #[.int .u8 q] w (.agg #[A C lo,A C hi])))(x0:(q==0)=false)(x1:(q==110)=false):(∀(x2:decide (t<lo)=true)(w:World),zR 69 #[.agg #[.int .u8 q,A C n,A C c],A C o] w (.tuple #[A C 0,A C 2]))/\(∀(x2:decide (t<lo)=false)(x3:decide (hi<t)=false)(w:World),zR 69 #[.agg #[.int .u8 q,A C n,A C c],A C o] w (.tuple #[A C t,A C 0]))/\(∀(x2:decide (t<lo)=false)(x3:decide (hi<t)=true)(w:World),zR 69 #[.agg #[.int .u8 q,A C n,A C c],A C o] w (.tuple #[A C 0,A C 2])):=by
 refine⟨?_,?_,?_⟩;intro x2 w;rotate_left;intro x2 x3 w;rotate_left;intro x2 x3 w;rotate_left
 all_goals
  go_enter Tryz.func69,Tryz.ntmps69;go_wp2_with fail;go_cut [6,7] (fun s6 s7 wx=> ∃L:Nat,s6=A C t/\s7= pT (some ⟨L,0,none⟩)/\Below w.heap.size w wx/\L<wx.heap.size/\wx.cell? ⟨L,0,none⟩=some (A C lo)/\wx.cell? ⟨L,1,none⟩=some (A C hi))
  case first=>
   go_region_held3 (fun w'=>w'.cell? ⟨w.heap.size,0,none⟩=some (.int .u8 q)/\w'.cell? ⟨w.heap.size,1,none⟩=some (A C n)) (first|(simp[go_sem];done)|(simp[go_sem, *];done)|go_keep) (first
    |(go_at_call 100;refine(HD.out _).mono ?_;rintro e w1 ⟨rfl,rfl⟩)
    |(go_at_call 80;refine(HS.out _).mono ?_;rintro e w2 ⟨rfl,hb2⟩;have v6:=z0b hb2 w.heap.size;(try simp[go_sem]at v6);have v7:=z0b hb2 (w.heap.size+1);(try simp[go_sem]at v7);have hbw:Below w.heap.size w w2:=kT hb2))
   all_goals(go_wp2_with fail;go_meet)
   all_goals refine⟨_,rfl,rfl,?_,?_,?_,?_⟩
   all_goals first
    |(with_reducible refine bA ?_ ?_ _;(repeat' first|with_reducible assumption|with_reducible refine bS ?_ ?_ _|((try dsimp only);omega)|(exact hbw.size)|(simp;done)|(simp;omega));done)
    |(with_reducible refine bS ?_ ?_ _;(repeat' first|with_reducible assumption|with_reducible refine bS ?_ ?_ _|((try dsimp only);omega)|(simp;done)|(simp;omega));done)
    |(with_reducible exact hbw)|(simp;done)|(simp;omega)|(simp[go_sem];done)|(simp[go_sem,v7];done)|(simp[go_sem, *];done)
  obtain⟨L,rfl,rfl,hbw,hL,l0,l1⟩:=hcut;go_wp2
  all_goals go_ret2
  all_goals exact⟨rfl,hbw⟩
def zDl:=fun q n c o t lo hi HD HS x0 x1=>(@zBa q n c o t lo hi HD HS x0 x1).1
def zHk:=fun q n c o t lo hi HD HS x0 x1=>(@zBa q n c o t lo hi HD HS x0 x1).2.1
def zA7:=fun q n c o t lo hi HD HS x0 x1=>(@zBa q n c o t lo hi HD HS x0 x1).2.2
def z46(x:Val)(o:Int):Int×Int:=if(z0x x o).2≠0 then(0,(z0x x o).2)else(if x.k=3 then(z0x x o).1-16 else(z0x x o).1,0)
theorem kd_0(k:Int):(kd k==0)=(k==0):=by
 unfold kd;split
 ·rename_i h;simp[h]
 rename_i h
 have:(k==0)=false:=by simpa using h
 rw[this];split
 ·rfl
 split
 ·rfl
 split
 ·rfl
 rfl
theorem kd_n(k:Int):(kd k==110)=(k==1):=by
 unfold kd
 by_cases h0:k=0
 ·rw[if_pos h0,h0];rfl
 rw[if_neg h0]
 by_cases h1:k=1
 ·rw[if_pos h1,h1];rfl
 have:(k==1)=false:=by simpa using h1
 rw[if_neg h1,this];split
 ·rfl
 split
 ·rfl
 rfl
theorem z3i(x:Val)(o:Int)(hx:x.Ok)(ho:In64 o)(w:World):zR 69 #[.agg #[.int .u8 (kd x.k),A C x.n,A C x.c],A C o] w (.tuple #[A C (z46 x o).1,A C (z46 x o).2]):=by
 obtain⟨k,n,c⟩:=x;have k0:0<=k:=hx.k0;have k4:k<=4:=hx.k4;have hn:In64 n:=hx.n
 have HD: ∀w,zS 100 #[A C 2,A C n,A C o] w (A C (wrap64 (n+o))):=fun w=>by
  have:=z6u 2 n o hn.1 hn.2 ho.1 ho.2 w;rw[z79]at this;exact this
 have hb:=z1r (n+o);unfold z46 z0x;show Calls tP _ #[.agg #[.int .u8 (kd k),A C n,A C c],A C o] w _
 by_cases h0:k=0
 ·rw[if_pos h0,if_pos kS]
  exact zP1 (kd k) n c o (by rw[kd_0];simpa using h0) w
 have e0:(kd k==0)=false:=by rw[kd_0];simpa using h0
 rw[if_neg h0]
 by_cases h1:k=1
 ·rw[if_pos h1,if_pos kS]
  exact zSh (kd k) n c o e0 (by rw[kd_n];simpa using h1) w
 have e1:(kd k==110)=false:=by rw[kd_n];simpa using h1
 rw[if_neg h1]
 by_cases h2:k=2
 ·have eT:z2r ⟨k,n,c⟩ o=wrap64 (n+o):=if_neg (by show¬k=3;omega)
  have eM:z1o ⟨k,n,c⟩=8:=if_pos h2;have ek:kd k=116:=by rw[h2];rfl
  have HS: ∀w,zR 80 #[.int .u8 (kd k)] w (.agg #[A C 0,A C 7]):=fun w=>size_t (kd k) (by rw[ek];rfl) w;rw[eT,eM]
  by_cases hl:wrap64 (n+o)<0
  ·rw[if_pos (Or.inl hl),if_pos kS]
   exact zDl (kd k) n c o _ 0 7 HD HS e0 e1 (by simpa using hl) w
  by_cases hh:7<wrap64 (n+o)
  ·rw[if_pos (Or.inr kO),if_pos kS]
   exact zA7 (kd k) n c o _ 0 7 HD HS e0 e1 (by simpa using hl) (by simpa using hh) w
  ·rw[if_neg (show¬(wrap64 (n+o)<0\/8<=wrap64 (n+o))by omega),if_neg kS,if_neg (by show¬k=3;omega)]
   exact zHk (kd k) n c o _ 0 7 HD HS e0 e1 (by simpa using hl) (by simpa using hh) w
 by_cases h3:k=3
 ·have eT:z2r ⟨k,n,c⟩ o=wrap64 (wrap64 (n+o)+16):=if_pos h3
  have eM:z1o ⟨k,n,c⟩=16:=by unfold z1o;rw[if_neg h2,if_pos h3]
  have ek:kd k=102:=by rw[h3];rfl
  have HS: ∀w,zR 80 #[.int .u8 (kd k)] w (.agg #[A C (-16),A C (-1)]):=fun w=>size_f (kd k) (by rw[ek];rfl) (by rw[ek];rfl) w;rw[eT,eM]
  by_cases hl:wrap64 (n+o)< -16
  ·have e:wrap64 (wrap64 (n+o)+16)=wrap64 (n+o)+16:=z08 kO kO
   rw[e,if_pos (Or.inl kO),if_pos kS];exact zDl (kd k) n c o _ (-16) (-1) HD HS e0 e1 (by simpa using hl) w
  by_cases hh: -1<wrap64 (n+o)
  ·have e:wrap64 (wrap64 (n+o)+16)<0\/16<=wrap64 (wrap64 (n+o)+16):=by
    by_cases hg:wrap64 (n+o)+16<=9223372036854775807
    ·rw[z08 kO hg];omega
    ·left
     generalize wrap64 (n+o)=y at*;unfold wrap64;omega
   rw[if_pos e,if_pos kS];exact zA7 (kd k) n c o _ (-16) (-1) HD HS e0 e1 (by simpa using hl) (by simpa using hh) w
  ·have e:wrap64 (wrap64 (n+o)+16)=wrap64 (n+o)+16:=z08 kO kO
   rw[e,if_neg (show¬(wrap64 (n+o)+16<0\/16<=wrap64 (n+o)+16)by omega),if_neg kS,if_pos h3];have:=zHk (kd k) n c o _ (-16) (-1) HD HS e0 e1 (by simpa using hl) (by simpa using hh) w;rw[show wrap64 (n+o)+16-16=wrap64 (n+o)by omega];exact this
 have h4:k=4:=kO;have eT:z2r ⟨k,n,c⟩ o=wrap64 (n+o):=if_neg h3;have eM:z1o ⟨k,n,c⟩=4:=by unfold z1o;rw[if_neg h2,if_neg h3]
 have ek:kd k=99:=by rw[h4];rfl
 have HS: ∀w,zR 80 #[.int .u8 (kd k)] w (.agg #[A C 0,A C 3]):=fun w=>size_c (kd k) (by rw[ek];rfl) (by rw[ek];rfl) w;rw[eT,eM]
 by_cases hl:wrap64 (n+o)<0
 ·rw[if_pos (Or.inl hl),if_pos kS]
  exact zDl (kd k) n c o _ 0 3 HD HS e0 e1 (by simpa using hl) w
 by_cases hh:3<wrap64 (n+o)
 ·rw[if_pos (Or.inr kO),if_pos kS]
  exact zA7 (kd k) n c o _ 0 3 HD HS e0 e1 (by simpa using hl) (by simpa using hh) w
 rw[if_neg (show¬(wrap64 (n+o)<0\/4<=wrap64 (n+o))by omega),if_neg kS,if_neg h3];exact zHk (kd k) n c o _ 0 3 HD HS e0 e1 (by simpa using hl) (by simpa using hh) w
def Dox.loseTo(m:Dox)(j:Nat):Dox:={m with reg:=fun i=>if 1<=i/\i<j then z2s else m.reg i}
theorem Dox.lose_one(m:Dox):m.loseTo 1=m:=by
 unfold Dox.loseTo;have:(fun i=>if 1<=i/\i<1 then z2s else m.reg i)=m.reg:=by funext i;rw[if_neg kO]
 rw[this]
theorem Dox.lose_next(m:Dox)(j:Nat)(h:1<=j):(m.loseTo j).putReg j z2s=m.loseTo (j+1):=by
 unfold Dox.loseTo Dox.putReg;congr 1;funext i;show(if i=j then z2s else if 1<=i/\i<j then z2s else m.reg i)=if 1<=i/\i<j+1 then z2s else m.reg i
 by_cases e:i=j
 ·rw[if_pos e,if_pos kO]
 rw[if_neg e]
 by_cases e2:1<=i/\i<j
 ·rw[if_pos e2,if_pos kO]
 rw[if_neg e2,if_neg kO]
theorem z01.reg3{w:World}{B d:Nat}{m:Dox}(h:z01 w B m)(hd:d<11):w.cell? ⟨B,d*3,none⟩=some (.int .u8 (kd (m.reg d).k))/\w.cell? ⟨B,d*3+1,none⟩=some (A C (m.reg d).n)/\w.cell? ⟨B,d*3+2,none⟩=some (A C (m.reg d).c):=by
 have:=h.v (d:=d) kO;rw[m.v_reg hd]at this;exact this
theorem z01.putReg3{w:World}{B d:Nat}{m:Dox}(h:z01 w B m)(hd:d<11)(k n c:Int):z01 (((w.setCell ⟨B,d*3,none⟩ (.int .u8 (kd k))).setCell ⟨B,d*3+1,none⟩ (A C n)).setCell ⟨B,d*3+2,none⟩ (A C c)) B (m.putReg d ⟨k,n,c⟩):=by
 have:=h.put3 (d:=d) kO k n c;rw[m.putV_reg hd]at this;exact this
theorem z01.clear3{w:World}{B d:Nat}{m:Dox}(h:z01 w B m)(hd:d<11):z01 (((w.setCell ⟨B,d*3,none⟩ (.int .u8 0)).setCell ⟨B,d*3+1,none⟩ (A C 0)).setCell ⟨B,d*3+2,none⟩ (A C 0)) B (m.putReg d z2s):=h.putReg3 hd 0 0 0
theorem z01.put0n{w:World}{B:Nat}{m:Dox}(h:z01 w B m)(n c:Int):z01 (((w.setCell ⟨B,0,none⟩ (.int .u8 110)).setCell ⟨B,1,none⟩ (A C n)).setCell ⟨B,2,none⟩ (A C c)) B (m.putReg 0 ⟨1,n,c⟩):=h.putReg3 (d:=0) kD 1 n c
theorem z01.put0t{w:World}{B:Nat}{m:Dox}(h:z01 w B m)(n c n':Int):z01 ((((w.setCell ⟨B,0,none⟩ (.int .u8 110)).setCell ⟨B,1,none⟩ (A C n)).setCell ⟨B,2,none⟩ (A C c)).setCell ⟨B,1,none⟩ (A C n')) B ((m.putReg 0 ⟨1,n,c⟩).putReg 0 ⟨1,n',c⟩):=by
 have:=(h.put0n n c).putN (d:=0) kD n';rw[Dox.putV_reg _ kD,Dox.v_reg _ kD]at this;exact this
theorem z01.put0c{w:World}{B:Nat}{m:Dox}(h:z01 w B m)(n c:Int):z01 (((w.setCell ⟨B,0,none⟩ (.int .u8 99)).setCell ⟨B,1,none⟩ (A C n)).setCell ⟨B,2,none⟩ (A C c)) B (m.putReg 0 ⟨4,n,c⟩):=h.putReg3 (d:=0) kD 4 n c
theorem zJt(B:Nat)(m:Dox)(L:List Int)(fk fn fc:Int)(HA:Hid (m.reg 1=⟨fk,fn,fc⟩))(x0:(kd fk==0)=true)(w:World)(hM:z01 w B m)(hO:z0u w B m.out L):zR 70 #[pT (some ⟨B,0,none⟩),A C 1] w (A C 8):=by
 have hB:=hM.lt;obtain⟨h0,h1,h2⟩:=hM.reg3 (d:=1) kD;simp only[Nat.reduceMul,Nat.reduceAdd]at h0 h1 h2;rw[HA.out]at h0 h1 h2;obtain⟨r0,r1,r2⟩:=hM.reg3 (d:=0) kD;simp only[Nat.reduceMul,Nat.reduceAdd]at r0 r1 r2;have f0:=hM.frozen 0;have f1:=hM.frozen 1;have f2:=hM.frozen 2;have t0:=hM.time;have HO:Hid (z0u w B m.out L):=hO;clear hO;go_enter Tryz.func70,Tryz.ntmps70;go_wp2;go_ret;exact⟨rfl,(bF _ _).alloc (Nat.le_refl _) _⟩
theorem zOn(B:Nat)(m:Dox)(L:List Int)(fk fn fc:Int)(HA:Hid (m.reg 1=⟨fk,fn,fc⟩))(x0:(kd fk==0)=false)(x1:(kd fk !=110)=true)(w:World)(hM:z01 w B m)(hO:z0u w B m.out L):zR 70 #[pT (some ⟨B,0,none⟩),A C 1] w (A C 1):=by
 have hB:=hM.lt;obtain⟨h0,h1,h2⟩:=hM.reg3 (d:=1) kD;simp only[Nat.reduceMul,Nat.reduceAdd]at h0 h1 h2;rw[HA.out]at h0 h1 h2;obtain⟨r0,r1,r2⟩:=hM.reg3 (d:=0) kD;simp only[Nat.reduceMul,Nat.reduceAdd]at r0 r1 r2;have f0:=hM.frozen 0;have f1:=hM.frozen 1;have f2:=hM.frozen 2;have t0:=hM.time;have HO:Hid (z0u w B m.out L):=hO;clear hO;go_enter Tryz.func70,Tryz.ntmps70;go_wp2;go_ret;exact⟨rfl,(bF _ _).alloc (Nat.le_refl _) _⟩
theorem zJs(B:Nat)(m:Dox)(L:List Int)(fk fn fc:Int)(HA:Hid (m.reg 1=⟨fk,fn,fc⟩))(x0:(kd fk==0)=true)(w:World)(hM:z01 w B m)(hO:z0u w B m.out L):zR 70 #[pT (some ⟨B,0,none⟩),A C 3] w (A C 8):=by
 have hB:=hM.lt;obtain⟨h0,h1,h2⟩:=hM.reg3 (d:=1) kD;simp only[Nat.reduceMul,Nat.reduceAdd]at h0 h1 h2;rw[HA.out]at h0 h1 h2;obtain⟨r0,r1,r2⟩:=hM.reg3 (d:=0) kD;simp only[Nat.reduceMul,Nat.reduceAdd]at r0 r1 r2;have f0:=hM.frozen 0;have f1:=hM.frozen 1;have f2:=hM.frozen 2;have t0:=hM.time;have HO:Hid (z0u w B m.out L):=hO;clear hO;go_enter Tryz.func70,Tryz.ntmps70;go_wp2;go_ret;exact⟨rfl,(bF _ _).alloc (Nat.le_refl _) _⟩
theorem zOm(B:Nat)(m:Dox)(L:List Int)(fk fn fc:Int)(HA:Hid (m.reg 1=⟨fk,fn,fc⟩))(x0:(kd fk==0)=false)(x1:(kd fk !=110)=true)(w:World)(hM:z01 w B m)(hO:z0u w B m.out L):zR 70 #[pT (some ⟨B,0,none⟩),A C 3] w (A C 1):=by
 have hB:=hM.lt;obtain⟨h0,h1,h2⟩:=hM.reg3 (d:=1) kD;simp only[Nat.reduceMul,Nat.reduceAdd]at h0 h1 h2;rw[HA.out]at h0 h1 h2;obtain⟨r0,r1,r2⟩:=hM.reg3 (d:=0) kD;simp only[Nat.reduceMul,Nat.reduceAdd]at r0 r1 r2;have f0:=hM.frozen 0;have f1:=hM.frozen 1;have f2:=hM.frozen 2;have t0:=hM.time;have HO:Hid (z0u w B m.out L):=hO;clear hO;go_enter Tryz.func70,Tryz.ntmps70;go_wp2;go_ret;exact⟨rfl,(bF _ _).alloc (Nat.le_refl _) _⟩
theorem zOi(B:Nat)(m:Dox)(L:List Int)(fk fn fc:Int)(HA:Hid (m.reg 1=⟨fk,fn,fc⟩))(w:World)(hM:z01 w B m)(hO:z0u w B m.out L):Calls tP 70 #[pT (some ⟨B,0,none⟩),A C 2] w fun e w'=>e= rT (A C 0)/\Below B w w'/\z01 w' B (((m.putReg 0 ⟨1,0,0⟩).putReg 0 ⟨1,m.time,0⟩).loseTo 6)/\z0u w' B m.out L:=by
 have hB:=hM.lt;obtain⟨h0,h1,h2⟩:=hM.reg3 (d:=1) kD;simp only[Nat.reduceMul,Nat.reduceAdd]at h0 h1 h2;rw[HA.out]at h0 h1 h2;obtain⟨r0,r1,r2⟩:=hM.reg3 (d:=0) kD;simp only[Nat.reduceMul,Nat.reduceAdd]at r0 r1 r2;have f0:=hM.frozen 0;have f1:=hM.frozen 1;have f2:=hM.frozen 2;have t0:=hM.time;have HO:Hid (z0u w B m.out L):=hO;clear hO;go_enter Tryz.func70,Tryz.ntmps70;go_wp2_with fail;go_region
 all_goals go_wp2_with fail
 all_goals go_loopw [6] (fun ix wr=> ∃k:Nat,Hid (1<=k/\k<=6/\ix=A C k/\z01 wr B (((m.putReg 0 ⟨1,0,0⟩).putReg 0 ⟨1,m.time,0⟩).loseTo k)/\Kept B w wr)) (fun ix _=>6-(intOf ix).toNat)
 case atStart=>exact⟨1,by decide,by decide,rfl,by rw[Dox.lose_one];exact(by repeat' first|with_reducible assumption|with_reducible(first|refine z01.drew ?_|refine z01.put0t ?_ _ _ _|refine z01.put0n ?_ _ _|refine z01.put0c ?_ _ _|refine z01.off ?_ _ _ ?_|refine z01.alloc ?_ _)|((try dsimp only);omega)),kQ⟩
 case round=>
  obtain⟨k,H⟩:=hrel;have hk1:=H.out.1;have hk6:=H.out.2.1;have hix:=H.out.2.2.1;have hMr:=H.out.2.2.2.1;have HKr:Hid (Kept B w wr):=H.out.2.2.2.2;clear H;subst hix;have hBr:=hMr.lt;have hk0:(0:Int)<=(k:Int):=kO
  by_cases hlt:k<6
  ·obtain⟨a0,a1,a2⟩:=hMr.reg3 (d:=k) kO
   have g0:=hMr.frozen (k*3);have g1:=hMr.frozen (k*3+1);have g2:=hMr.frozen (k*3+2);have hk5:(k:Int)<=5:=kO;go_wp2;go_roundw
   case rel=>
    refine⟨k+1,by omega,by omega,by go_num,?_,?_⟩
    ·rw[<-Dox.lose_next _ k hk1]
     with_reducible exact hMr.clear3 kO
    ·have HK:=HKr.out
     repeat' first|with_reducible assumption|with_reducible refine z0v ?_ _ _
   case measure=>simp[intOf];omega
  ·obtain rfl:k=6:=by omega
   go_wp2;go_ret;exact⟨rfl,z1a HKr.out hB,hMr,HO.out.kept HKr.out⟩
theorem zJu(B:Nat)(m:Dox)(L:List Int)(fk fn fc:Int)(HA:Hid (m.reg 1=⟨fk,fn,fc⟩))(x0:(kd fk==0)=false)(x1:(kd fk !=110)=false)(x2:decide (0<=fn)=true)(x3:decide (fn<4)=true)(w:World)(hM:z01 w B m)(hO:z0u w B m.out L):Calls tP 70 #[pT (some ⟨B,0,none⟩),A C 1] w fun e w'=>e= rT (A C 0)/\Below B w w'/\z01 w' B (((m.putReg 0 ⟨1,0,0⟩).putReg 0 ⟨4,0,fn⟩).loseTo 6)/\z0u w' B m.out L:=by
 have hB:=hM.lt;obtain⟨h0,h1,h2⟩:=hM.reg3 (d:=1) kD;simp only[Nat.reduceMul,Nat.reduceAdd]at h0 h1 h2;rw[HA.out]at h0 h1 h2;obtain⟨r0,r1,r2⟩:=hM.reg3 (d:=0) kD;simp only[Nat.reduceMul,Nat.reduceAdd]at r0 r1 r2;have f0:=hM.frozen 0;have f1:=hM.frozen 1;have f2:=hM.frozen 2;have t0:=hM.time;have HO:Hid (z0u w B m.out L):=hO;clear hO;go_enter Tryz.func70,Tryz.ntmps70;go_wp2_with fail;go_region
 all_goals go_wp2_with fail
 all_goals go_loopw [6] (fun ix wr=> ∃k:Nat,Hid (1<=k/\k<=6/\ix=A C k/\z01 wr B (((m.putReg 0 ⟨1,0,0⟩).putReg 0 ⟨4,0,fn⟩).loseTo k)/\Kept B w wr)) (fun ix _=>6-(intOf ix).toNat)
 case atStart=>exact⟨1,by decide,by decide,rfl,by rw[Dox.lose_one];exact(by repeat' first|with_reducible assumption|with_reducible(first|refine z01.drew ?_|refine z01.put0t ?_ _ _ _|refine z01.put0n ?_ _ _|refine z01.put0c ?_ _ _|refine z01.off ?_ _ _ ?_|refine z01.alloc ?_ _)|((try dsimp only);omega)),kQ⟩
 case round=>
  obtain⟨k,H⟩:=hrel;have hk1:=H.out.1;have hk6:=H.out.2.1;have hix:=H.out.2.2.1;have hMr:=H.out.2.2.2.1;have HKr:Hid (Kept B w wr):=H.out.2.2.2.2;clear H;subst hix;have hBr:=hMr.lt;have hk0:(0:Int)<=(k:Int):=kO
  by_cases hlt:k<6
  ·obtain⟨a0,a1,a2⟩:=hMr.reg3 (d:=k) kO
   have g0:=hMr.frozen (k*3);have g1:=hMr.frozen (k*3+1);have g2:=hMr.frozen (k*3+2);have hk5:(k:Int)<=5:=kO;go_wp2;go_roundw
   case rel=>
    refine⟨k+1,by omega,by omega,by go_num,?_,?_⟩
    ·rw[<-Dox.lose_next _ k hk1]
     with_reducible exact hMr.clear3 kO
    ·have HK:=HKr.out
     repeat' first|with_reducible assumption|with_reducible refine z0v ?_ _ _
   case measure=>simp[intOf];omega
  ·obtain rfl:k=6:=by omega
   go_wp2;go_ret;exact⟨rfl,z1a HKr.out hB,hMr,HO.out.kept HKr.out⟩
theorem zBb(B:Nat)(m:Dox)(L:List Int)(fk fn fc:Int)(HA:Hid (m.reg 1=⟨fk,fn,fc⟩))(x0:(kd fk==0)=false)(x1:(kd fk !=110)=false):(∀(x2:decide (0<=fn)=false)(w:World)(hM:z01 w B m)(hO:z0u w B m.out L),Calls tP 70 #[pT (some ⟨B,0,none⟩),A C 1] w fun e w'=>e= rT (A C 0)/\Below B w w'/\z01 w' B (((m.putReg 0 ⟨1,0,0⟩)).loseTo 6)/\z0u w' B m.out L)/\(∀(hL:50<=L.length)(w:World)(hM:z01 w B m)(hO:z0u w B m.out L),Calls tP 70 #[pT (some ⟨B,0,none⟩),A C 3] w fun e w'=>e= rT (A C 0)/\Below B w w'/\z01 w' B (((m.putReg 0 ⟨1,0,0⟩)).loseTo 6)/\z0u w' B m.out L)/\(∀(x2:decide (0<=fn)=true)(x3:decide (fn<4)=false)(w:World)(hM:z01 w B m)(hO:z0u w B m.out L),Calls tP 70 #[pT (some ⟨B,0,none⟩),A C 1] w fun e w'=>e= rT (A C 0)/\Below B w w'/\z01 w' B (((m.putReg 0 ⟨1,0,0⟩)).loseTo 6)/\z0u w' B m.out L):=by
 refine⟨?_,?_,?_⟩;intro x2 w hM hO;rotate_left;intro hL w hM hO;rotate_left;intro x2 x3 w hM hO;rotate_left
 all_goals
  have hB:=hM.lt;obtain⟨h0,h1,h2⟩:=hM.reg3 (d:=1) kD;simp only[Nat.reduceMul,Nat.reduceAdd]at h0 h1 h2;rw[HA.out]at h0 h1 h2;obtain⟨r0,r1,r2⟩:=hM.reg3 (d:=0) kD;simp only[Nat.reduceMul,Nat.reduceAdd]at r0 r1 r2;have f0:=hM.frozen 0;have f1:=hM.frozen 1;have f2:=hM.frozen 2;have t0:=hM.time;have HO:Hid (z0u w B m.out L):=hO;clear hO
 rotate_left;obtain⟨qa,qc,hq⟩:=HO.out.shape;have o0:=hM.outv;rw[hq]at o0;have x4:decide ((L.length:Int)<50)=false:=kZ;clear hL;have HQ:Hid (m.out= .slice qa L.length qc):=hq;clear hq;rotate_left;rotate_left
 all_goals
  go_enter Tryz.func70,Tryz.ntmps70;go_wp2_with fail
  all_goals go_loopw [6] (fun ix wr=> ∃k:Nat,Hid (1<=k/\k<=6/\ix=A C k/\z01 wr B (((m.putReg 0 ⟨1,0,0⟩)).loseTo k)/\Kept B w wr)) (fun ix _=>6-(intOf ix).toNat)
  case atStart=>exact⟨1,by decide,by decide,rfl,by rw[Dox.lose_one];exact(by repeat' first|with_reducible assumption|with_reducible(first|refine z01.drew ?_|refine z01.put0t ?_ _ _ _|refine z01.put0n ?_ _ _|refine z01.put0c ?_ _ _|refine z01.off ?_ _ _ ?_|refine z01.alloc ?_ _)|((try dsimp only);omega)),kQ⟩
  case round=>
   obtain⟨k,H⟩:=hrel;have hk1:=H.out.1;have hk6:=H.out.2.1;have hix:=H.out.2.2.1;have hMr:=H.out.2.2.2.1;have HKr:Hid (Kept B w wr):=H.out.2.2.2.2;clear H;subst hix;have hBr:=hMr.lt;have hk0:(0:Int)<=(k:Int):=kO
   by_cases hlt:k<6
   ·obtain⟨a0,a1,a2⟩:=hMr.reg3 (d:=k) kO
    have g0:=hMr.frozen (k*3);have g1:=hMr.frozen (k*3+1);have g2:=hMr.frozen (k*3+2);have hk5:(k:Int)<=5:=kO;go_wp2;go_roundw
    case rel=>
     refine⟨k+1,by omega,by omega,by go_num,?_,?_⟩
     ·rw[<-Dox.lose_next _ k hk1]
      with_reducible exact hMr.clear3 kO
     ·have HK:=HKr.out
      repeat' first|with_reducible assumption|with_reducible refine z0v ?_ _ _
    case measure=>simp[intOf];omega
   ·obtain rfl:k=6:=by omega
    go_wp2;go_ret;exact⟨rfl,z1a HKr.out hB,hMr,HO.out.kept HKr.out⟩
def zRv:=fun B m L fk fn fc HA x0 x1=>(@zBb B m L fk fn fc HA x0 x1).1
def zOk:=fun B m L fk fn fc HA x0 x1=>(@zBb B m L fk fn fc HA x0 x1).2.1
def zOj:=fun B m L fk fn fc HA x0 x1=>(@zBb B m L fk fn fc HA x0 x1).2.2
theorem zL3{w w1:World}{B:Nat}{e:TypeId}{z:Nat}{v:Value}{n:Nat}{xs:List Value}(h:w.ownsRow (B+1) e z v n xs)(hk:Kept B w w1):w1.ownsRow (B+1) e z v n xs:=by
 obtain⟨h1,h2⟩:=h;refine⟨h1,?_⟩;rcases h2 with h2|⟨g,cap,cur,hv,hg,hh,r⟩
 ·exact Or.inl h2
 exact Or.inr ⟨g,cap,cur,hv,hg,by rw[hk.block g (Array.getElem?_eq_some_iff.1 hh).1 (fun e=>by injection e with e;omega)];exact hh,r⟩
theorem zKl{w1:World}{b:Nat}{e:TypeId}{z:Nat}{v:Value}{n:Nat}{xs:List Value}{X:Obj}(h:w1.ownsRow b e z v n xs):(w1.drew.alloc X).ownsRow b e z v n xs:=by
 have h':w1.drew.ownsRow b e z v n xs:=h;exact h'.alloc X
theorem zDj{P:Program}{o:Oper}{u:Act}(W W':World)(x y:Operand)(t:TypeId)(s1 s2 v:Value)(ho:o.op= .call {callee:= .builtin .append,args:=#[x,y],argTypes:=#[t,t]})(hx:u.eval x=s1)(hy:u.eval y=s2)
  (hr:(Builtin.append_ #[t,t] o.type #[s1,s2]).run P W= .ok v W'):(execOp u.eval o).run P W= .ok (.value v) W':=by
 unfold execOp;simp only[ho,resolve,invoke,builtin,Sem.run_bind,Sem.run_pure,Result.andThen_ok,List.map_toArray,List.map_cons,List.map_nil,hx,hy,hr]
theorem zOl(B:Nat)(m:Dox)(L:List Int)(fk fn fc:Int)(HA:Hid (m.reg 1=⟨fk,fn,fc⟩))(x0:(kd fk==0)=false)(x1:(kd fk !=110)=false)(hL:L.length<50)(w:World)(hM:z01 w B m)(hO:z0u w B m.out L):Calls tP 70 #[pT (some ⟨B,0,none⟩),A C 3] w fun e w'=>e= rT (A C 0)/\Below B w w'/\ ∃v',z01 w' B (((m.putReg 0 ⟨1,0,0⟩).setOut v').loseTo 6)/\z0u w' B v' (L++[fn]):=by
 have hB:=hM.lt;obtain⟨h0,h1,h2⟩:=hM.reg3 (d:=1) kD;simp only[Nat.reduceMul,Nat.reduceAdd]at h0 h1 h2;rw[HA.out]at h0 h1 h2;obtain⟨r0,r1,r2⟩:=hM.reg3 (d:=0) kD;simp only[Nat.reduceMul,Nat.reduceAdd]at r0 r1 r2;have f0:=hM.frozen 0;have f1:=hM.frozen 1;have f2:=hM.frozen 2;have t0:=hM.time;have HO:Hid (z0u w B m.out L):=hO;clear hO;obtain⟨qa,cap,hq⟩:=HO.out.shape;have o0:=hM.outv;rw[hq]at o0;have x4:decide ((L.length:Int)<50)=true:=kZ;have HL:Hid (L.length<50):=hL;obtain⟨k,hk⟩: ∃k,L.length=k:=⟨_,rfl⟩;rw[hk]at hq o0 x4;have HOV:Hid (some m.out=some (.slice qa k cap)):=congrArg some hq;have HOW:Hid (w.ownsRow (B+1) 2 1 (.slice qa k cap) k (L.map (Value.int .i64))):=by have:=HO.out;unfold z0u at this;rw[hq,hk]at this;exact this
 have HKL:Hid (L.length=k):=hk;clear hL hq hk;go_enter Tryz.func70,Tryz.ntmps70;go_wp2_with fail;have hM1:z01 ((((w.setCell ⟨B,0,none⟩ (.int .u8 110)).setCell ⟨B,1,none⟩ (A C 0)).setCell ⟨B,2,none⟩ (A C 0)).alloc (cT #[.int .u8 (kd fk),A C fn,A C fc] 168)) B (m.putReg 0 ⟨1,0,0⟩):=(hM.put0n 0 0).alloc _;generalize hW1:(((w.setCell ⟨B,0,none⟩ (.int .u8 110)).setCell ⟨B,1,none⟩ (A C 0)).setCell ⟨B,2,none⟩ (A C 0)).alloc (cT #[.int .u8 (kd fk),A C fn,A C fc] 168)=w1 at hM1⊢;have hX1:w1.cell? ⟨w.heap.size,1,none⟩=some (A C fn):=by rw[<-hW1];simp[go_sem]
 have HKW:Hid (Kept B w w1):=by
  rw[<-hW1];exact z1j (z0v (z0v (z0v (z12 B w) _ _) _ _) _ _) _
 have hz1:w.heap.size+1=w1.heap.size:=by rw[<-hW1];simp
 have hsz1:w.heap.size<w1.heap.size:=kO;have hB1:=hM1.lt;have q106:w1.cell? ⟨B,106,none⟩=some (.slice qa k cap):=hM1.outv.trans HOV.out;clear hW1 h0 h1 h2 r0 r1 r2 f0 f1 f2 t0 hM o0;obtain⟨i0,hi,hz0,hzz1,hz2⟩:=info_parts Tryz.infoI;obtain⟨v5,w5,hr5,hown5,hgrow5, -⟩:=run_append_own (P:=tP) (w1.drew.alloc (cT #[A C fn] 2)) (B+1) 91 91 2 i0 (A C 0) 1 8 Tryz.underlying91 hi hz0 hzz1 hz2 rfl kD (.slice qa k cap) k (L.map (Value.int .i64)) (zKl (zL3 HOW.out HKW.out)) ⟨w1.heap.size,0,none⟩ 1 1 [A C fn] rfl (zLp rfl) (by intro u hu;simp at hu;subst hu;rfl) (by have:=HL.out;have:=HKL.out;unfold maxLen;omega) (by have:=HL.out;have:=HKL.out;omega) (by show B+1<=(w1.heap.push _).size;rw[Array.size_push];omega)
 obtain⟨g5,cp5,hv5⟩: ∃g5 cp5,v5= .slice (some ⟨g5,0,none⟩) (k+1) cp5:=by
  rcases hown5.2 with⟨_,h⟩|⟨g,cap',_,h,_⟩
  ·omega
  ·exact⟨g,cap',h⟩
 subst hv5;have HR5:Hid ((Builtin.append_ #[91,91] 91 #[.slice qa k cap,.slice (some ⟨w1.heap.size,0,none⟩) 1 1]).run tP (w1.drew.alloc (cT #[A C fn] 2))= .ok (.slice (some ⟨g5,0,none⟩) (k+1) cp5) w5):=hr5;have hownW:=(zL3 HOW.out HKW.out);have hM5:z01 w5 B (m.putReg 0 ⟨1,0,0⟩):=(hgrow5.block B (by show B<(w1.heap.push _).size;rw[Array.size_push];omega) (zGb hownW)).trans (hM1.drew.alloc _)
 have hX5:w5.cell? ⟨w.heap.size,1,none⟩=some (A C fn):=by
  refine(World.cell?_of_block (a:=⟨w.heap.size,1,none⟩) (w:=(w1.drew.alloc (cT #[A C fn] 2))) (hgrow5.block w.heap.size (by show w.heap.size<(w1.heap.push _).size;rw[Array.size_push];omega) ?_)).trans ?_
  ·intro hh
   have:=HOW.out.lt w.heap.size hh.symm;omega
  ·exact(World.cell?_of_block (a:=⟨w.heap.size,1,none⟩) (Below.heap_alloc w1.drew _ w.heap.size hsz1)).trans hX1
 have hB5:=hM5.lt;have k0:=hM5.outv;have kf:=hM5.frozen 106;have hBW5:Below B w w5:=((z1a HKW.out hB).trans (((bF B w1).drew).alloc (by show B<=w1.heap.size;omega) _)).grown hgrow5 (by show B<=(w1.heap.push _).size;rw[Array.size_push];omega) (fun j hj=>by have:=hownW.lt j hj;omega);have hM6:z01 (w5.setCell ⟨B,106,none⟩ (.slice (some ⟨g5,0,none⟩) (k+1) cp5)) B ((m.putReg 0 ⟨1,0,0⟩).setOut (.slice (some ⟨g5,0,none⟩) (k+1) cp5)):=hM5.putOut _;have hS:(∃u,z01 w1.drew B ((m.putReg 0 ⟨1,0,0⟩).setOut u))/\w1.drew.cell? ⟨w.heap.size,1,none⟩=some (A C fn):=⟨⟨m.out,hM1⟩,hX1⟩;have hS8:(∃u,z01 (w1.drew.alloc (cT #[A C fn] 2)) B ((m.putReg 0 ⟨1,0,0⟩).setOut u))/\(w1.drew.alloc (cT #[A C fn] 2)).cell? ⟨w.heap.size,1,none⟩=some (A C fn):=⟨⟨m.out,hM1.drew.alloc _⟩,(World.cell?_of_block (a:=⟨w.heap.size,1,none⟩) (Below.heap_alloc w1.drew _ w.heap.size hsz1)).trans hX1⟩;have hS5:(∃u,z01 w5 B ((m.putReg 0 ⟨1,0,0⟩).setOut u))/\w5.cell? ⟨w.heap.size,1,none⟩=some (A C fn):=⟨⟨m.out,hM5⟩,hX5⟩;have hS6:(∃u,z01 (w5.setCell ⟨B,106,none⟩ (.slice (some ⟨g5,0,none⟩) (k+1) cp5)) B ((m.putReg 0 ⟨1,0,0⟩).setOut u))/\(w5.setCell ⟨B,106,none⟩ (.slice (some ⟨g5,0,none⟩) (k+1) cp5)).cell? ⟨w.heap.size,1,none⟩=some (A C fn):=⟨⟨_,hM6⟩,(World.cell?_of_block (a:=⟨w.heap.size,1,none⟩) (Below.heap_setCell w5 _ _ w.heap.size (by show w.heap.size≠B;omega))).trans hX5⟩
 have HOUT:Hid (z0u (w5.setCell ⟨B,106,none⟩ (.slice (some ⟨g5,0,none⟩) (k+1) cp5)) B (.slice (some ⟨g5,0,none⟩) (k+1) cp5) (L++[fn])):=by
  show World.ownsRow _ _ _ _ _ _ _;rw[List.length_append,HKL.out,List.map_append];exact ownsRow_setCell_below hown5 (Nat.lt_succ_self B) _
 have HBW:Hid (Below B w (w5.setCell ⟨B,106,none⟩ (.slice (some ⟨g5,0,none⟩) (k+1) cp5))):=by
  have hr:B<=(⟨B,106,none⟩:Addr).block:=Nat.le_refl _;exact hBW5.setCell hr _
 clear hr5 hown5 hgrow5 hownW hBW5 HKW HOW;refine wp_region_held_drew (S:=fun W=>(∃u,z01 W B ((m.putReg 0 ⟨1,0,0⟩).setOut u))/\W.cell? ⟨w.heap.size,1,none⟩=some (A C fn)) kR hS fun _=>?_;change wpAnyH _ _ _ _ _ 14 (Array.replicate 14 false) _ _
 refine tkH (i:=0) (some 75) (pT (some ⟨B,0,none⟩)) rfl rfl (fun W hW=>?_) hS ?_
 ·go_simp
 simp only[pS];refine tkH (i:=1) (some 76) (pT (some ⟨B,0,none⟩)) rfl rfl (fun W hW=>?_) hS ?_
 ·go_simp
 simp only[pS];refine tkH (i:=2) (some 77) (pT (some ⟨B,0,none⟩)) rfl rfl (fun W hW=>?_) hS ?_
 ·go_simp
 simp only[pS];refine tkH (i:=3) (some 78) (pT (some ⟨B,89,none⟩)) rfl rfl (fun W hW=>?_) hS ?_
 ·go_simp
 simp only[pS];refine tkH (i:=4) (some 79) (pT (some ⟨B,106,none⟩)) rfl rfl (fun W hW=>?_) hS ?_
 ·go_simp
 simp only[pS];refine tkH (i:=6) (some 81) (pT (some ⟨w.heap.size,1,none⟩)) rfl rfl (fun W hW=>?_) hS ?_
 ·go_simp
 simp only[pS];refine tkH (i:=7) (some 82) (A C fn) rfl rfl (fun W hW=>?_) hS ?_
 ·have y0:=hW.2
  go_simp
 simp only[pS];refine wpAnyH_ready (rs:=[5,8]) kR kS ?_;refine z24 (some 80) (.slice qa k cap) w1.drew rfl rfl kI ?_ hS ?_ (z24 (some 83) (.slice (some ⟨w1.heap.size,0,none⟩) 1 1) (w1.drew.alloc (cT #[A C fn] 2)) rfl rfl kI ?_ hS8 ?_ AllReadyH.nil)
 ·go_simp
 ·simp only[pS]
  refine wpAnyH_ready (rs:=[8]) kR kS ?_;refine z24 (some 83) (.slice (some ⟨w1.heap.size,0,none⟩) 1 1) (w1.drew.alloc (cT #[A C fn] 2)) rfl rfl kI ?_ hS8 ?_ AllReadyH.nil
  ·go_simp
  simp only[pS];refine wpAnyH_ready (rs:=[9]) kR kS ?_;refine z24 (some 84) (.slice (some ⟨g5,0,none⟩) (k+1) cp5) w5 rfl rfl kI ?_ hS5 ?_ AllReadyH.nil
  ·exact zDj _ _ _ _ _ _ _ _ rfl rfl rfl HR5.out
  simp only[pS];refine tkH (i:=10) (some 85) (pT (some ⟨B,0,none⟩)) rfl rfl (fun W hW=>?_) hS5 ?_
  ·go_simp
  simp only[pS];refine tkH (i:=11) (some 86) (pT (some ⟨B,89,none⟩)) rfl rfl (fun W hW=>?_) hS5 ?_
  ·go_simp
  simp only[pS];refine tkH (i:=12) (some 87) (pT (some ⟨B,106,none⟩)) rfl rfl (fun W hW=>?_) hS5 ?_
  ·go_simp
  simp only[pS];refine wpAnyH_ready (rs:=[13]) kR kS ?_;refine z3b (w5.setCell ⟨B,106,none⟩ (.slice (some ⟨g5,0,none⟩) (k+1) cp5)) rfl rfl kI ?_ hS6 ?_ AllReadyH.nil
  ·go_simp
  simp only[Act.put];refine wpAnyH_done kR ?_ _;go_wp2_with fail;go_loopw [6] (fun ix wr=> ∃j:Nat,Hid (1<=j/\j<=6/\ix=A C j/\z01 wr B (((m.putReg 0 ⟨1,0,0⟩).setOut (.slice (some ⟨g5,0,none⟩) (k+1) cp5)).loseTo j)/\Kept B (w5.setCell ⟨B,106,none⟩ (.slice (some ⟨g5,0,none⟩) (k+1) cp5)) wr)) (fun ix _=>6-(intOf ix).toNat)
  case atStart=>exact⟨1,by decide,by decide,rfl,by rw[Dox.lose_one];exact hM6,z12 _ _⟩
  case round=>
   obtain⟨j,H⟩:=hrel;have hk1:=H.out.1;have hk6:=H.out.2.1;have hix:=H.out.2.2.1;have hMr:=H.out.2.2.2.1;have HKr:Hid (Kept B (w5.setCell ⟨B,106,none⟩ (.slice (some ⟨g5,0,none⟩) (k+1) cp5)) wr):=H.out.2.2.2.2;clear H;subst hix;have hBr:=hMr.lt;have hk0:(0:Int)<=(j:Int):=kO
   by_cases hlt:j<6
   ·obtain⟨a0,a1,a2⟩:=hMr.reg3 (d:=j) kO
    have g0:=hMr.frozen (j*3);have g1:=hMr.frozen (j*3+1);have g2:=hMr.frozen (j*3+2);have hk5:(j:Int)<=5:=kO;go_wp2;go_roundw
    case rel=>
     refine⟨j+1,by omega,by omega,by go_num,?_,?_⟩
     ·rw[<-Dox.lose_next _ j hk1]
      with_reducible exact hMr.clear3 kO
     ·have HK:=HKr.out
      repeat' first|with_reducible assumption|with_reducible refine z0v ?_ _ _
    case measure=>simp[intOf];omega
   ·obtain rfl:j=6:=by omega
    go_wp2;go_ret;exact⟨rfl,HBW.out.trans (z1a HKr.out hM6.lt),_,hMr,HOUT.out.kept HKr.out⟩
 ·go_simp
 simp only[pS];refine wpAnyH_ready (rs:=[5]) kR kS ?_;refine z24 (some 80) (.slice qa k cap) (w1.drew.alloc (cT #[A C fn] 2)) rfl rfl kI ?_ hS8 ?_ AllReadyH.nil
 ·go_simp
 simp only[pS];refine wpAnyH_ready (rs:=[9]) kR kS ?_;refine z24 (some 84) (.slice (some ⟨g5,0,none⟩) (k+1) cp5) w5 rfl rfl kI ?_ hS5 ?_ AllReadyH.nil
 ·exact zDj _ _ _ _ _ _ _ _ rfl rfl rfl HR5.out
 simp only[pS];refine tkH (i:=10) (some 85) (pT (some ⟨B,0,none⟩)) rfl rfl (fun W hW=>?_) hS5 ?_
 ·go_simp
 simp only[pS];refine tkH (i:=11) (some 86) (pT (some ⟨B,89,none⟩)) rfl rfl (fun W hW=>?_) hS5 ?_
 ·go_simp
 simp only[pS];refine tkH (i:=12) (some 87) (pT (some ⟨B,106,none⟩)) rfl rfl (fun W hW=>?_) hS5 ?_
 ·go_simp
 simp only[pS];refine wpAnyH_ready (rs:=[13]) kR kS ?_;refine z3b (w5.setCell ⟨B,106,none⟩ (.slice (some ⟨g5,0,none⟩) (k+1) cp5)) rfl rfl kI ?_ hS6 ?_ AllReadyH.nil
 ·go_simp
 simp only[Act.put];refine wpAnyH_done kR ?_ _;go_wp2_with fail;go_loopw [6] (fun ix wr=> ∃j:Nat,Hid (1<=j/\j<=6/\ix=A C j/\z01 wr B (((m.putReg 0 ⟨1,0,0⟩).setOut (.slice (some ⟨g5,0,none⟩) (k+1) cp5)).loseTo j)/\Kept B (w5.setCell ⟨B,106,none⟩ (.slice (some ⟨g5,0,none⟩) (k+1) cp5)) wr)) (fun ix _=>6-(intOf ix).toNat)
 case atStart=>exact⟨1,by decide,by decide,rfl,by rw[Dox.lose_one];exact hM6,z12 _ _⟩
 case round=>
  obtain⟨j,H⟩:=hrel;have hk1:=H.out.1;have hk6:=H.out.2.1;have hix:=H.out.2.2.1;have hMr:=H.out.2.2.2.1;have HKr:Hid (Kept B (w5.setCell ⟨B,106,none⟩ (.slice (some ⟨g5,0,none⟩) (k+1) cp5)) wr):=H.out.2.2.2.2;clear H;subst hix;have hBr:=hMr.lt;have hk0:(0:Int)<=(j:Int):=kO
  by_cases hlt:j<6
  ·obtain⟨a0,a1,a2⟩:=hMr.reg3 (d:=j) kO
   have g0:=hMr.frozen (j*3);have g1:=hMr.frozen (j*3+1);have g2:=hMr.frozen (j*3+2);have hk5:(j:Int)<=5:=kO;go_wp2;go_roundw
   case rel=>
    refine⟨j+1,by omega,by omega,by go_num,?_,?_⟩
    ·rw[<-Dox.lose_next _ j hk1]
     with_reducible exact hMr.clear3 kO
    ·have HK:=HKr.out
     repeat' first|with_reducible assumption|with_reducible refine z0v ?_ _ _
   case measure=>simp[intOf];omega
  ·obtain rfl:j=6:=by omega
   go_wp2;go_ret;exact⟨rfl,HBW.out.trans (z1a HKr.out hM6.lt),_,hMr,HOUT.out.kept HKr.out⟩
theorem zOp(B d:Nat)(c xk xn xc yk yn yc:Int)(m:Dox)(hd:d<27)(HX:Hid (m.v d=⟨xk,xn,xc⟩))(y0:(kd yk==0)=true)(w:World)(hM:z01 w B m):zR 71 #[pT (some ⟨B,0,none⟩),A C c,pT (some ⟨B,d*3,none⟩),.agg #[.int .u8 (kd yk),A C yn,A C yc]] w (A C 8):=by
 have hB:=hM.lt;obtain⟨h0,h1,h2⟩:=hM.v hd;rw[HX.out]at h0 h1 h2;have f0:=hM.frozen (d*3);have f1:=hM.frozen (d*3+1);have f2:=hM.frozen (d*3+2);go_enter Tryz.func71,Tryz.ntmps71;go_wp2
 all_goals go_ret
 all_goals exact⟨rfl,((bF _ _).alloc (Nat.le_refl _) _).alloc kS _⟩
theorem zOo(B d:Nat)(c xk xn xc yk yn yc:Int)(m:Dox)(hd:d<27)(HX:Hid (m.v d=⟨xk,xn,xc⟩))(y0:(kd yk==0)=false)(x0:(kd xk==0)=true)(c1:(c !=1)=true)(w:World)(hM:z01 w B m):zR 71 #[pT (some ⟨B,0,none⟩),A C c,pT (some ⟨B,d*3,none⟩),.agg #[.int .u8 (kd yk),A C yn,A C yc]] w (A C 8):=by
 have hB:=hM.lt;obtain⟨h0,h1,h2⟩:=hM.v hd;rw[HX.out]at h0 h1 h2;have f0:=hM.frozen (d*3);have f1:=hM.frozen (d*3+1);have f2:=hM.frozen (d*3+2);go_enter Tryz.func71,Tryz.ntmps71;go_wp2
 all_goals go_ret
 all_goals exact⟨rfl,((bF _ _).alloc (Nat.le_refl _) _).alloc kS _⟩
theorem zK5(B d:Nat)(c xk xn xc yk yn yc:Int)(m:Dox)(hd:d<27)(HX:Hid (m.v d=⟨xk,xn,xc⟩))(y0:(kd yk==0)=false)(x0:(kd xk==0)=false)(c1:(c==1)=false)(xn1:(kd xk==110)=true)(yn1:(kd yk==110)=true)(p0: -9223372036854775808<=xn)(p1:xn<=9223372036854775807)(k0: -9223372036854775808<=yn)(k1:yn<=9223372036854775807)(w:World)(hM:z01 w B m):Calls tP 71 #[pT (some ⟨B,0,none⟩),A C c,pT (some ⟨B,d*3,none⟩),.agg #[.int .u8 (kd yk),A C yn,A C yc]] w fun e w'=>e= rT (A C 0)/\Kept B w w'/\z01 w' B (m.putV d ⟨xk,z0t c xn yn,xc⟩):=by
 have hB:=hM.lt;obtain⟨h0,h1,h2⟩:=hM.v hd;rw[HX.out]at h0 h1 h2;have f0:=hM.frozen (d*3);have f1:=hM.frozen (d*3+1);have f2:=hM.frozen (d*3+2);go_enter Tryz.func71,Tryz.ntmps71
 go_wp2_with(first
  |(go_at_call 100;refine(z6u c xn yn p0 p1 k0 k1 _).mono ?_;rintro e w1 ⟨rfl,rfl⟩)
  |go_in)
 all_goals go_ret
 all_goals have HN:=fun(W:World) (h:z01 W B m)=>h.putN hd (z0t c xn yn)
 all_goals rw[HX.out]at HN
 all_goals exact⟨rfl,kQ,(by repeat' first|with_reducible assumption|with_reducible(first|refine z01.drew ?_|refine HN _ ?_|refine z01.off ?_ _ _ ?_|refine z01.alloc ?_ _)|((try dsimp only);omega))⟩
theorem z75(B d:Nat)(c xk xn xc yk yn yc:Int)(m:Dox)(hd:d<27)(HX:Hid (m.v d=⟨xk,xn,xc⟩))(y0:(kd yk==0)=false):(∀(x0:(kd xk==0)=true)(c0:(c !=1)=false)(c1:(c==1)=true)(w:World)(hM:z01 w B m),Calls tP 71 #[pT (some ⟨B,0,none⟩),A C c,pT (some ⟨B,d*3,none⟩),.agg #[.int .u8 (kd yk),A C yn,A C yc]] w fun e w'=>e= rT (A C 0)/\Kept B w w'/\z01 w' B (m.putV d ⟨yk,yn,yc⟩))/\(∀(x0:(kd xk==0)=false)(c1:(c==1)=false)(xn1:(kd xk==110)=true)(yn1:(kd yk==110)=false)(c2:(c==2)=true)(w:World)(hM:z01 w B m),Calls tP 71 #[pT (some ⟨B,0,none⟩),A C c,pT (some ⟨B,d*3,none⟩),.agg #[.int .u8 (kd yk),A C yn,A C yc]] w fun e w'=>e= rT (A C 0)/\Kept B w w'/\z01 w' B (m.putV d ⟨yk,wrap64 (yn+xn),yc⟩))/\(∀(x0:(kd xk==0)=false)(c1:(c==1)=true)(w:World)(hM:z01 w B m),Calls tP 71 #[pT (some ⟨B,0,none⟩),A C c,pT (some ⟨B,d*3,none⟩),.agg #[.int .u8 (kd yk),A C yn,A C yc]] w fun e w'=>e= rT (A C 0)/\Kept B w w'/\z01 w' B (m.putV d ⟨yk,yn,yc⟩)):=by
 refine⟨?_,?_,?_⟩;intro x0 c0 c1 w hM;rotate_left;intro x0 c1 xn1 yn1 c2 w hM;rotate_left;intro x0 c1 w hM;rotate_left
 all_goals
  have hB:=hM.lt;obtain⟨h0,h1,h2⟩:=hM.v hd;rw[HX.out]at h0 h1 h2;have f0:=hM.frozen (d*3);have f1:=hM.frozen (d*3+1);have f2:=hM.frozen (d*3+2)
 all_goals
  go_enter Tryz.func71,Tryz.ntmps71;go_wp2
  all_goals go_ret
  all_goals exact⟨rfl,kQ,(by repeat' first|with_reducible assumption|with_reducible(first|refine z01.drew ?_|refine z01.put3 ?_ hd _ _ _|refine z01.off ?_ _ _ ?_|refine z01.alloc ?_ _)|((try dsimp only);omega))⟩
def zK7:=fun B d c xk xn xc yk yn yc m hd HX y0=>(@z75 B d c xk xn xc yk yn yc m hd HX y0).1
def zKc:=fun B d c xk xn xc yk yn yc m hd HX y0=>(@z75 B d c xk xn xc yk yn yc m hd HX y0).2.1
def zK6:=fun B d c xk xn xc yk yn yc m hd HX y0=>(@z75 B d c xk xn xc yk yn yc m hd HX y0).2.2
theorem zK4(B d:Nat)(c xk xn xc yk yn yc:Int)(m:Dox)(hd:d<27)(HX:Hid (m.v d=⟨xk,xn,xc⟩))(y0:(kd yk==0)=false)(x0:(kd xk==0)=false)(c1:(c==1)=false)(xn1:(kd xk==110)=false)(yn1:(kd yk==110)=true)(c2:(c==2)=true)(w:World)(hM:z01 w B m):Calls tP 71 #[pT (some ⟨B,0,none⟩),A C c,pT (some ⟨B,d*3,none⟩),.agg #[.int .u8 (kd yk),A C yn,A C yc]] w fun e w'=>e= rT (A C 0)/\Kept B w w'/\z01 w' B (m.putV d ⟨xk,wrap64 (xn+yn),xc⟩):=by
 have hB:=hM.lt;obtain⟨h0,h1,h2⟩:=hM.v hd;rw[HX.out]at h0 h1 h2;have f0:=hM.frozen (d*3);have f1:=hM.frozen (d*3+1);have f2:=hM.frozen (d*3+2);go_enter Tryz.func71,Tryz.ntmps71;go_wp2_with fail;go_region
 all_goals go_wp2
 all_goals go_ret
 all_goals have HN:=fun(W:World) (h:z01 W B m)=>h.putN hd (wrap64 (xn+yn))
 all_goals rw[HX.out]at HN
 all_goals exact⟨rfl,kQ,(by repeat' first|with_reducible assumption|with_reducible(first|refine z01.drew ?_|refine HN _ ?_|refine z01.off ?_ _ _ ?_|refine z01.alloc ?_ _)|((try dsimp only);omega))⟩
theorem zK3(B d:Nat)(c xk xn xc yk yn yc:Int)(m:Dox)(hd:d<27)(HX:Hid (m.v d=⟨xk,xn,xc⟩))(y0:(kd yk==0)=false)(x0:(kd xk==0)=false)(c1:(c==1)=false)(xn1:(kd xk==110)=false)(yn1:(kd yk==110)=true)(c2:(c==2)=false)(c3:(c==3)=true)(w:World)(hM:z01 w B m):Calls tP 71 #[pT (some ⟨B,0,none⟩),A C c,pT (some ⟨B,d*3,none⟩),.agg #[.int .u8 (kd yk),A C yn,A C yc]] w fun e w'=>e= rT (A C 0)/\Kept B w w'/\z01 w' B (m.putV d ⟨xk,wrap64 (xn-yn),xc⟩):=by
 have hB:=hM.lt;obtain⟨h0,h1,h2⟩:=hM.v hd;rw[HX.out]at h0 h1 h2;have f0:=hM.frozen (d*3);have f1:=hM.frozen (d*3+1);have f2:=hM.frozen (d*3+2);go_enter Tryz.func71,Tryz.ntmps71;go_wp2_with fail;go_region
 all_goals go_wp2
 all_goals go_ret
 all_goals have HN:=fun(W:World) (h:z01 W B m)=>h.putN hd (wrap64 (xn-yn))
 all_goals rw[HX.out]at HN
 all_goals exact⟨rfl,kQ,(by repeat' first|with_reducible assumption|with_reducible(first|refine z01.drew ?_|refine HN _ ?_|refine z01.off ?_ _ _ ?_|refine z01.alloc ?_ _)|((try dsimp only);omega))⟩
theorem zKb(B d:Nat)(c xk xn xc yk yn yc:Int)(m:Dox)(hd:d<27)(HX:Hid (m.v d=⟨xk,xn,xc⟩))(y0:(kd yk==0)=false)(x0:(kd xk==0)=false)(c1:(c==1)=false)(xn1:(kd xk==110)=true)(yn1:(kd yk==110)=false)(c2:(c==2)=false)(w:World)(hM:z01 w B m):zR 71 #[pT (some ⟨B,0,none⟩),A C c,pT (some ⟨B,d*3,none⟩),.agg #[.int .u8 (kd yk),A C yn,A C yc]] w (A C 1):=by
 have hB:=hM.lt;obtain⟨h0,h1,h2⟩:=hM.v hd;rw[HX.out]at h0 h1 h2;have f0:=hM.frozen (d*3);have f1:=hM.frozen (d*3+1);have f2:=hM.frozen (d*3+2);go_enter Tryz.func71,Tryz.ntmps71;go_wp2
 all_goals go_ret
 all_goals exact⟨rfl,((bF _ _).alloc (Nat.le_refl _) _).alloc kS _⟩
theorem zKa(B d:Nat)(c xk xn xc yk yn yc:Int)(m:Dox)(hd:d<27)(HX:Hid (m.v d=⟨xk,xn,xc⟩))(y0:(kd yk==0)=false)(x0:(kd xk==0)=false)(c1:(c==1)=false)(xn1:(kd xk==110)=false)(yn1:(kd yk==110)=false)(c2:(c==2)=true)(w:World)(hM:z01 w B m):zR 71 #[pT (some ⟨B,0,none⟩),A C c,pT (some ⟨B,d*3,none⟩),.agg #[.int .u8 (kd yk),A C yn,A C yc]] w (A C 1):=by
 have hB:=hM.lt;obtain⟨h0,h1,h2⟩:=hM.v hd;rw[HX.out]at h0 h1 h2;have f0:=hM.frozen (d*3);have f1:=hM.frozen (d*3+1);have f2:=hM.frozen (d*3+2);go_enter Tryz.func71,Tryz.ntmps71;go_wp2
 all_goals go_ret
 all_goals exact⟨rfl,((bF _ _).alloc (Nat.le_refl _) _).alloc kS _⟩
theorem zK9(B d:Nat)(c xk xn xc yk yn yc:Int)(m:Dox)(hd:d<27)(HX:Hid (m.v d=⟨xk,xn,xc⟩))(y0:(kd yk==0)=false)(x0:(kd xk==0)=false)(c1:(c==1)=false)(xn1:(kd xk==110)=false)(yn1:(kd yk==110)=false)(c2:(c==2)=false)(w:World)(hM:z01 w B m):zR 71 #[pT (some ⟨B,0,none⟩),A C c,pT (some ⟨B,d*3,none⟩),.agg #[.int .u8 (kd yk),A C yn,A C yc]] w (A C 1):=by
 have hB:=hM.lt;obtain⟨h0,h1,h2⟩:=hM.v hd;rw[HX.out]at h0 h1 h2;have f0:=hM.frozen (d*3);have f1:=hM.frozen (d*3+1);have f2:=hM.frozen (d*3+2);go_enter Tryz.func71,Tryz.ntmps71;go_wp2
 all_goals go_ret
 all_goals exact⟨rfl,((bF _ _).alloc (Nat.le_refl _) _).alloc kS _⟩
theorem zK8(B d:Nat)(c xk xn xc yk yn yc:Int)(m:Dox)(hd:d<27)(HX:Hid (m.v d=⟨xk,xn,xc⟩))(y0:(kd yk==0)=false)(x0:(kd xk==0)=false)(c1:(c==1)=false)(xn1:(kd xk==110)=false)(yn1:(kd yk==110)=true)(c2:(c==2)=false)(c3:(c==3)=false)(w:World)(hM:z01 w B m):zR 71 #[pT (some ⟨B,0,none⟩),A C c,pT (some ⟨B,d*3,none⟩),.agg #[.int .u8 (kd yk),A C yn,A C yc]] w (A C 1):=by
 have hB:=hM.lt;obtain⟨h0,h1,h2⟩:=hM.v hd;rw[HX.out]at h0 h1 h2;have f0:=hM.frozen (d*3);have f1:=hM.frozen (d*3+1);have f2:=hM.frozen (d*3+2);go_enter Tryz.func71,Tryz.ntmps71;go_wp2
 all_goals go_ret
 all_goals exact⟨rfl,((bF _ _).alloc (Nat.le_refl _) _).alloc kS _⟩
end
theorem at_0(x0 x1 x2 x3 x4 x5 x6 x7 x8 x9:Bool)(w:World):(Instr.index 228 (.agg #[.bool x0,.bool x1,.bool x2,.bool x3,.bool x4,.bool x5,.bool x6,.bool x7,.bool x8,.bool x9]) (A C 0)).run tP w= .ok (.bool x0) w:=kR
theorem at_1(x0 x1 x2 x3 x4 x5 x6 x7 x8 x9:Bool)(w:World):(Instr.index 228 (.agg #[.bool x0,.bool x1,.bool x2,.bool x3,.bool x4,.bool x5,.bool x6,.bool x7,.bool x8,.bool x9]) (A C 1)).run tP w= .ok (.bool x1) w:=kR
theorem at_2(x0 x1 x2 x3 x4 x5 x6 x7 x8 x9:Bool)(w:World):(Instr.index 228 (.agg #[.bool x0,.bool x1,.bool x2,.bool x3,.bool x4,.bool x5,.bool x6,.bool x7,.bool x8,.bool x9]) (A C 2)).run tP w= .ok (.bool x2) w:=kR
theorem at_3(x0 x1 x2 x3 x4 x5 x6 x7 x8 x9:Bool)(w:World):(Instr.index 228 (.agg #[.bool x0,.bool x1,.bool x2,.bool x3,.bool x4,.bool x5,.bool x6,.bool x7,.bool x8,.bool x9]) (A C 3)).run tP w= .ok (.bool x3) w:=kR
theorem at_4(x0 x1 x2 x3 x4 x5 x6 x7 x8 x9:Bool)(w:World):(Instr.index 228 (.agg #[.bool x0,.bool x1,.bool x2,.bool x3,.bool x4,.bool x5,.bool x6,.bool x7,.bool x8,.bool x9]) (A C 4)).run tP w= .ok (.bool x4) w:=kR
theorem at_5(x0 x1 x2 x3 x4 x5 x6 x7 x8 x9:Bool)(w:World):(Instr.index 228 (.agg #[.bool x0,.bool x1,.bool x2,.bool x3,.bool x4,.bool x5,.bool x6,.bool x7,.bool x8,.bool x9]) (A C 5)).run tP w= .ok (.bool x5) w:=kR
theorem at_6(x0 x1 x2 x3 x4 x5 x6 x7 x8 x9:Bool)(w:World):(Instr.index 228 (.agg #[.bool x0,.bool x1,.bool x2,.bool x3,.bool x4,.bool x5,.bool x6,.bool x7,.bool x8,.bool x9]) (A C 6)).run tP w= .ok (.bool x6) w:=kR
theorem at_7(x0 x1 x2 x3 x4 x5 x6 x7 x8 x9:Bool)(w:World):(Instr.index 228 (.agg #[.bool x0,.bool x1,.bool x2,.bool x3,.bool x4,.bool x5,.bool x6,.bool x7,.bool x8,.bool x9]) (A C 7)).run tP w= .ok (.bool x7) w:=kR
theorem at_8(x0 x1 x2 x3 x4 x5 x6 x7 x8 x9:Bool)(w:World):(Instr.index 228 (.agg #[.bool x0,.bool x1,.bool x2,.bool x3,.bool x4,.bool x5,.bool x6,.bool x7,.bool x8,.bool x9]) (A C 8)).run tP w= .ok (.bool x8) w:=kR
theorem at_9(x0 x1 x2 x3 x4 x5 x6 x7 x8 x9:Bool)(w:World):(Instr.index 228 (.agg #[.bool x0,.bool x1,.bool x2,.bool x3,.bool x4,.bool x5,.bool x6,.bool x7,.bool x8,.bool x9]) (A C 9)).run tP w= .ok (.bool x9) w:=kR
theorem zU1(a b:Int)(w:World):zS 68 #[A C 15,A C a,A C b] w (.bool (isV 15 a b)):=by
 rw[zGt];have ha:=z07 a;have hb:=z07 b;have hx:=at_0;go_enter Tryz.func68,Tryz.ntmps68;go_wp2_with(go_at_call 56;refine(z0e _ _).mono ?_;rintro e w' ⟨rfl,rfl⟩);go_ret;exact⟨rfl,rfl⟩
theorem zU0(a b:Int)(w:World):zS 68 #[A C 16,A C a,A C b] w (.bool (isV 16 a b)):=by
 rw[zGs];have ha:=z07 a;have hb:=z07 b;have hx:=at_1;go_enter Tryz.func68,Tryz.ntmps68;go_wp2_with(go_at_call 56;refine(z0e _ _).mono ?_;rintro e w' ⟨rfl,rfl⟩);go_ret;exact⟨rfl,rfl⟩
theorem zTz(a b:Int)(w:World):zS 68 #[A C 17,A C a,A C b] w (.bool (isV 17 a b)):=by
 rw[zGr];have ha:=z07 a;have hb:=z07 b;have hx:=at_2;go_enter Tryz.func68,Tryz.ntmps68;go_wp2_with(go_at_call 56;refine(z0e _ _).mono ?_;rintro e w' ⟨rfl,rfl⟩);go_ret;exact⟨rfl,rfl⟩
theorem zTy(a b:Int)(w:World):zS 68 #[A C 18,A C a,A C b] w (.bool (isV 18 a b)):=by
 rw[zGq];have ha:=z07 a;have hb:=z07 b;have hx:=at_3;go_enter Tryz.func68,Tryz.ntmps68;go_wp2_with(go_at_call 56;refine(z0e _ _).mono ?_;rintro e w' ⟨rfl,rfl⟩);go_ret;exact⟨rfl,rfl⟩
theorem zTx(a b:Int)(w:World):zS 68 #[A C 19,A C a,A C b] w (.bool (isV 19 a b)):=by
 rw[zD0];have ha:=z07 a;have hb:=z07 b;have hx:=at_4;go_enter Tryz.func68,Tryz.ntmps68;go_wp2_with(go_at_call 56;refine(z0e _ _).mono ?_;rintro e w' ⟨rfl,rfl⟩);go_ret;exact⟨rfl,rfl⟩
theorem zTw(a b:Int)(w:World):zS 68 #[A C 20,A C a,A C b] w (.bool (isV 20 a b)):=by
 rw[zCz];have ha:=z07 a;have hb:=z07 b;have hx:=at_5;go_enter Tryz.func68,Tryz.ntmps68;go_wp2_with(go_at_call 56;refine(z0e _ _).mono ?_;rintro e w' ⟨rfl,rfl⟩);go_ret;exact⟨rfl,rfl⟩
theorem zTv(a b:Int)(w:World):zS 68 #[A C 21,A C a,A C b] w (.bool (isV 21 a b)):=by
 rw[zGp];have ha:=z07 a;have hb:=z07 b;have hx:=at_6;go_enter Tryz.func68,Tryz.ntmps68;go_wp2_with(go_at_call 56;refine(z0e _ _).mono ?_;rintro e w' ⟨rfl,rfl⟩);go_ret;exact⟨rfl,rfl⟩
theorem zTu(a b:Int)(w:World):zS 68 #[A C 22,A C a,A C b] w (.bool (isV 22 a b)):=by
 rw[zGo];have ha:=z07 a;have hb:=z07 b;have hx:=at_7;go_enter Tryz.func68,Tryz.ntmps68;go_wp2_with(go_at_call 56;refine(z0e _ _).mono ?_;rintro e w' ⟨rfl,rfl⟩);go_ret;exact⟨rfl,rfl⟩
theorem zTt(a b:Int)(w:World):zS 68 #[A C 23,A C a,A C b] w (.bool (isV 23 a b)):=by
 rw[zB3];have ha:=z07 a;have hb:=z07 b;have hx:=at_8;go_enter Tryz.func68,Tryz.ntmps68;go_wp2_with(go_at_call 56;refine(z0e _ _).mono ?_;rintro e w' ⟨rfl,rfl⟩);go_ret;exact⟨rfl,rfl⟩
theorem zTs(a b:Int)(w:World):zS 68 #[A C 24,A C a,A C b] w (.bool (isV 24 a b)):=by
 rw[zB2];have ha:=z07 a;have hb:=z07 b;have hx:=at_9;go_enter Tryz.func68,Tryz.ntmps68;go_wp2_with(go_at_call 56;refine(z0e _ _).mono ?_;rintro e w' ⟨rfl,rfl⟩);go_ret;exact⟨rfl,rfl⟩
theorem zTr(c a b:Int)(hc:c<15\/24<c)(w:World):zS 68 #[A C c,A C a,A C b] w (.bool (isV c a b)):=by
 rw[zWv a b hc]
 have hf:(decide (15<=c)&&decide (c<=24))=false:=by
  rcases hc with h|h
  ·rw[decide_eq_false (by omega: ¬15<=c)];rfl
  ·rw[decide_eq_false (by omega: ¬c<=24),Bool.and_false]
 go_enter Tryz.func68,Tryz.ntmps68;go_wp2_with(go_at_call 56;refine(z0e _ _).mono ?_;rw[hf];rintro e w' ⟨rfl,rfl⟩);go_ret;exact⟨rfl,rfl⟩
theorem zG7(c a b:Int)(w:World):zS 68 #[A C c,A C a,A C b] w (.bool (isV c a b)):=by
 by_cases hc:c<15\/24<c
 ·exact zTr c a b hc w
 have h:c=15\/c=16\/c=17\/c=18\/c=19\/c=20\/c=21\/c=22\/c=23\/c=24:=kO;rcases h with rfl|rfl|rfl|rfl|rfl|rfl|rfl|rfl|rfl|rfl
 ·exact zU1 a b w
 ·exact zU0 a b w
 ·exact zTz a b w
 ·exact zTy a b w
 ·exact zTx a b w
 ·exact zTw a b w
 ·exact zTv a b w
 ·exact zTu a b w
 ·exact zTt a b w
 exact zTs a b w
section
attribute [local simp] z0p z0j z04
theorem zVl(B d s pc:Nat)(c o n:Int)(m:Dox)(hd:d<11)(hs:s<11)(hpc:pc<=200)(xk xn xc:Int)(HX:Hid (m.reg d=⟨xk,xn,xc⟩))(e28:(c==28)=true)(x0:(kd xk==0)=true)(w:World)(hM:z01 w B m):zR 53 #[pT (some ⟨B,0,none⟩),.agg #[A C c,A C d,A C s,.bool false,A C o,A C n],A C pc] w (.tuple #[A C ((pc:Int)+1),.bool false,A C 8]):=by
 have hB:=hM.lt;have hBa:B<w.heap.size+1:=kO;have hBb:B<w.heap.size+1+1:=kO;obtain⟨h0,h1,h2⟩:=hM.reg3 hd;rw[HX.out]at h0 h1 h2;have hd0:(0:Int)<=(d:Int):=kO;have hd1:(d:Int)<27:=kO;have hs0:(0:Int)<=(s:Int):=kO;have hs1:(s:Int)<27:=kO;have hp0:(0:Int)<=(pc:Int):=kO;have hp1:(pc:Int)<=200:=kO;go_enter Tryz.func53,Tryz.ntmps53;go_wp2_with fail;go_region
 all_goals go_wp2_with(fail)
 all_goals go_ret3
 all_goals exact⟨rfl,kB⟩
theorem zRt(B d s pc:Nat)(c o n:Int)(m:Dox)(hd:d<11)(hs:s<11)(hpc:pc<=200)(xk xn xc:Int)(HX:Hid (m.reg d=⟨xk,xn,xc⟩))(e28:(c==28)=true)(x0:(kd xk==0)=false)(x1:(kd xk==110)=false)(w:World)(hM:z01 w B m):zR 53 #[pT (some ⟨B,0,none⟩),.agg #[A C c,A C d,A C s,.bool false,A C o,A C n],A C pc] w (.tuple #[A C ((pc:Int)+1),.bool false,A C 1]):=by
 have hB:=hM.lt;have hBa:B<w.heap.size+1:=kO;have hBb:B<w.heap.size+1+1:=kO;obtain⟨h0,h1,h2⟩:=hM.reg3 hd;rw[HX.out]at h0 h1 h2;have hd0:(0:Int)<=(d:Int):=kO;have hd1:(d:Int)<27:=kO;have hs0:(0:Int)<=(s:Int):=kO;have hs1:(s:Int)<27:=kO;have hp0:(0:Int)<=(pc:Int):=kO;have hp1:(pc:Int)<=200:=kO;go_enter Tryz.func53,Tryz.ntmps53;go_wp2_with fail;go_region
 all_goals go_wp2_with(fail)
 all_goals go_ret3
 all_goals exact⟨rfl,kB⟩
theorem zOg(B d s pc:Nat)(c o n:Int)(m:Dox)(hd:d<11)(hs:s<11)(hpc:pc<=200)(xk xn xc:Int)(HX:Hid (m.reg d=⟨xk,xn,xc⟩))(e28:(c==28)=true)(x0:(kd xk==0)=false)(x1:(kd xk==110)=true)(w:World)(hM:z01 w B m):Calls tP 53 #[pT (some ⟨B,0,none⟩),.agg #[A C c,A C d,A C s,.bool false,A C o,A C n],A C pc] w fun e w'=>e= rT (.tuple #[A C ((pc:Int)+1),.bool true,A C 0])/\Kept B w w'/\z01 w' B (m.setNum xn):=by
 have hB:=hM.lt;have hBa:B<w.heap.size+1:=kO;have hBb:B<w.heap.size+1+1:=kO;obtain⟨h0,h1,h2⟩:=hM.reg3 hd;rw[HX.out]at h0 h1 h2;have hd0:(0:Int)<=(d:Int):=kO;have hd1:(d:Int)<27:=kO;have hs0:(0:Int)<=(s:Int):=kO;have hs1:(s:Int)<27:=kO;have hp0:(0:Int)<=(pc:Int):=kO;have hp1:(pc:Int)<=200:=kO;have n0:=hM.num;have nf:=hM.frozen 89;go_enter Tryz.func53,Tryz.ntmps53;go_wp2_with fail;go_region
 all_goals go_wp2_with(fail)
 all_goals go_ret3
 all_goals exact⟨rfl,kQ,(by repeat' first|with_reducible assumption|with_reducible(first|refine z01.drew ?_|refine z01.putNum ?_ _|refine z01.off ?_ _ _ ?_|refine z01.alloc ?_ _)|((try dsimp only);omega)|(simp;omega))⟩
theorem djump(B d s pc:Nat)(c o n:Int)(m:Dox)(hd:d<11)(hs:s<11)(hpc:pc<=200)(xk xn xc:Int)(HX:Hid (m.reg d=⟨xk,xn,xc⟩))(e28:(c==28)=false)(e14:(c==14)=true)(o0:0<=o)(o1:o<=200)(w:World)(hM:z01 w B m):zR 53 #[pT (some ⟨B,0,none⟩),.agg #[A C c,A C d,A C s,.bool false,A C o,A C n],A C pc] w (.tuple #[A C ((pc:Int)+1+o),.bool false,A C 0]):=by
 have hB:=hM.lt;have hBa:B<w.heap.size+1:=kO;have hBb:B<w.heap.size+1+1:=kO;obtain⟨h0,h1,h2⟩:=hM.reg3 hd;rw[HX.out]at h0 h1 h2;have hd0:(0:Int)<=(d:Int):=kO;have hd1:(d:Int)<27:=kO;have hs0:(0:Int)<=(s:Int):=kO;have hs1:(s:Int)<27:=kO;have hp0:(0:Int)<=(pc:Int):=kO;have hp1:(pc:Int)<=200:=kO;have _hx:=HX.out;go_enter Tryz.func53,Tryz.ntmps53;go_wp2_with fail;go_region
 all_goals go_wp2_with(fail)
 all_goals go_ret3
 all_goals exact⟨rfl,kB⟩
theorem z9v(B d s pc:Nat)(c o n:Int)(m:Dox)(hd:d<11)(hs:s<11)(hpc:pc<=200)(xk xn xc:Int)(HX:Hid (m.reg d=⟨xk,xn,xc⟩))(yk yn yc:Int)(HY:Hid (m.reg s=⟨yk,yn,yc⟩))(e28:(c==28)=false)(e14:(c==14)=false)(hc1:15<=c)(hc2:c<=24):(∀(x0:(kd xk==0)=true)(w:World)(hM:z01 w B m),zR 53 #[pT (some ⟨B,0,none⟩),.agg #[A C c,A C d,A C s,.bool true,A C o,A C n],A C pc] w (.tuple #[A C ((pc:Int)+1),.bool false,A C 8]))/\(∀(x0:(kd xk==0)=false)(y0:(kd yk==0)=false)(x1:(kd xk==110)=false)(w:World)(hM:z01 w B m),zR 53 #[pT (some ⟨B,0,none⟩),.agg #[A C c,A C d,A C s,.bool true,A C o,A C n],A C pc] w (.tuple #[A C ((pc:Int)+1),.bool false,A C 1]))/\(∀(x0:(kd xk==0)=false)(y0:(kd yk==0)=false)(x1:(kd xk==110)=true)(y1:(kd yk==110)=false)(w:World)(hM:z01 w B m),zR 53 #[pT (some ⟨B,0,none⟩),.agg #[A C c,A C d,A C s,.bool true,A C o,A C n],A C pc] w (.tuple #[A C ((pc:Int)+1),.bool false,A C 1]))/\(∀(x0:(kd xk==0)=false)(y0:(kd yk==0)=true)(w:World)(hM:z01 w B m),zR 53 #[pT (some ⟨B,0,none⟩),.agg #[A C c,A C d,A C s,.bool true,A C o,A C n],A C pc] w (.tuple #[A C ((pc:Int)+1),.bool false,A C 8])):=by
 refine⟨?_,?_,?_,?_⟩;intro x0 w hM;rotate_left;intro x0 y0 x1 w hM;rotate_left;intro x0 y0 x1 y1 w hM;rotate_left;intro x0 y0 w hM;rotate_left
 all_goals
  have hB:=hM.lt;have hBa:B<w.heap.size+1:=kO;have hBb:B<w.heap.size+1+1:=kO;obtain⟨h0,h1,h2⟩:=hM.reg3 hd;rw[HX.out]at h0 h1 h2;obtain⟨j0,j1,j2⟩:=hM.reg3 hs;rw[HY.out]at j0 j1 j2;have hd0:(0:Int)<=(d:Int):=kO;have hd1:(d:Int)<27:=kO;have hs0:(0:Int)<=(s:Int):=kO;have hs1:(s:Int)<27:=kO;have hp0:(0:Int)<=(pc:Int):=kO;have hp1:(pc:Int)<=200:=kO;have HQ:Hid ((decide (15<=c)&&decide (c<=24))=true):=by show(decide (15<=c)&&decide (c<=24))=true;simp;omega
  clear hc1 hc2
 all_goals
  go_enter Tryz.func53,Tryz.ntmps53;go_wp2_with fail;go_region
  all_goals go_wp2_with fail
  all_goals go_region
  all_goals go_wp2_with(first|(go_at_call 56;refine(z0e c _).mono ?_;rintro e w1 ⟨rfl,rfl⟩;rw[HQ.out])|fail)
  all_goals go_ret3
  all_goals exact⟨rfl,kB⟩
def zVq:=fun B d s pc c o n m hd hs hpc xk xn xc HX yk yn yc HY e28 e14 hc1 hc2=>(@z9v B d s pc c o n m hd hs hpc xk xn xc HX yk yn yc HY e28 e14 hc1 hc2).1
def zJz:=fun B d s pc c o n m hd hs hpc xk xn xc HX yk yn yc HY e28 e14 hc1 hc2=>(@z9v B d s pc c o n m hd hs hpc xk xn xc HX yk yn yc HY e28 e14 hc1 hc2).2.1
def zK1:=fun B d s pc c o n m hd hs hpc xk xn xc HX yk yn yc HY e28 e14 hc1 hc2=>(@z9v B d s pc c o n m hd hs hpc xk xn xc HX yk yn yc HY e28 e14 hc1 hc2).2.2.1
def zVo:=fun B d s pc c o n m hd hs hpc xk xn xc HX yk yn yc HY e28 e14 hc1 hc2=>(@z9v B d s pc c o n m hd hs hpc xk xn xc HX yk yn yc HY e28 e14 hc1 hc2).2.2.2
theorem z86(B d s pc:Nat)(c o n:Int)(m:Dox)(hd:d<11)(hs:s<11)(hpc:pc<=200)(xk xn xc:Int)(HX:Hid (m.reg d=⟨xk,xn,xc⟩))(e28:(c==28)=false)(e14:(c==14)=false)(hc1:15<=c)(hc2:c<=24):(∀(x0:(kd xk==0)=true)(w:World)(hM:z01 w B m),zR 53 #[pT (some ⟨B,0,none⟩),.agg #[A C c,A C d,A C s,.bool false,A C o,A C n],A C pc] w (.tuple #[A C ((pc:Int)+1),.bool false,A C 8]))/\(∀(x0:(kd xk==0)=false)(x1:(kd xk==110)=false)(n0:(n !=0)=false)(c15:(c !=15)=true)(c16:(c==16)=true)(c17:(c !=16)=false)(o0:0<=o)(o1:o<=200)(w:World)(hM:z01 w B m),zR 53 #[pT (some ⟨B,0,none⟩),.agg #[A C c,A C d,A C s,.bool false,A C o,A C n],A C pc] w (.tuple #[A C ((pc:Int)+1+o),.bool false,A C 0]))/\(∀(x0:(kd xk==0)=false)(x1:(kd xk==110)=false)(n0:(n !=0)=false)(c15:(c !=15)=false)(c16:(c==16)=false)(w:World)(hM:z01 w B m),zR 53 #[pT (some ⟨B,0,none⟩),.agg #[A C c,A C d,A C s,.bool false,A C o,A C n],A C pc] w (.tuple #[A C ((pc:Int)+1),.bool false,A C 0]))/\(∀(x0:(kd xk==0)=false)(x1:(kd xk==110)=false)(n0:(n !=0)=false)(c15:(c !=15)=true)(c16:(c !=16)=true)(w:World)(hM:z01 w B m),zR 53 #[pT (some ⟨B,0,none⟩),.agg #[A C c,A C d,A C s,.bool false,A C o,A C n],A C pc] w (.tuple #[A C ((pc:Int)+1),.bool false,A C 1]))/\(∀(x0:(kd xk==0)=false)(x1:(kd xk==110)=false)(n0:(n !=0)=true)(w:World)(hM:z01 w B m),zR 53 #[pT (some ⟨B,0,none⟩),.agg #[A C c,A C d,A C s,.bool false,A C o,A C n],A C pc] w (.tuple #[A C ((pc:Int)+1),.bool false,A C 1])):=by
 refine⟨?_,?_,?_,?_,?_⟩;intro x0 w hM;rotate_left;intro x0 x1 n0 c15 c16 c17 o0 o1 w hM;rotate_left;intro x0 x1 n0 c15 c16 w hM;rotate_left;intro x0 x1 n0 c15 c16 w hM;rotate_left;intro x0 x1 n0 w hM;rotate_left
 all_goals
  have hB:=hM.lt;have hBa:B<w.heap.size+1:=kO;have hBb:B<w.heap.size+1+1:=kO;obtain⟨h0,h1,h2⟩:=hM.reg3 hd;rw[HX.out]at h0 h1 h2;have hd0:(0:Int)<=(d:Int):=kO;have hd1:(d:Int)<27:=kO;have hs0:(0:Int)<=(s:Int):=kO;have hs1:(s:Int)<27:=kO;have hp0:(0:Int)<=(pc:Int):=kO;have hp1:(pc:Int)<=200:=kO;have HQ:Hid ((decide (15<=c)&&decide (c<=24))=true):=by show(decide (15<=c)&&decide (c<=24))=true;simp;omega
  clear hc1 hc2
 all_goals
  go_enter Tryz.func53,Tryz.ntmps53;go_wp2_with fail;go_region
  all_goals go_wp2_with(first|(go_at_call 56;refine(z0e c _).mono ?_;rintro e w1 ⟨rfl,rfl⟩;rw[HQ.out])|fail)
  all_goals go_ret3
  all_goals exact⟨rfl,kB⟩
def zVr:=fun B d s pc c o n m hd hs hpc xk xn xc HX e28 e14 hc1 hc2=>(@z86 B d s pc c o n m hd hs hpc xk xn xc HX e28 e14 hc1 hc2).1
def zZb:=fun B d s pc c o n m hd hs hpc xk xn xc HX e28 e14 hc1 hc2=>(@z86 B d s pc c o n m hd hs hpc xk xn xc HX e28 e14 hc1 hc2).2.1
def zZc:=fun B d s pc c o n m hd hs hpc xk xn xc HX e28 e14 hc1 hc2=>(@z86 B d s pc c o n m hd hs hpc xk xn xc HX e28 e14 hc1 hc2).2.2.1
def zK0:=fun B d s pc c o n m hd hs hpc xk xn xc HX e28 e14 hc1 hc2=>(@z86 B d s pc c o n m hd hs hpc xk xn xc HX e28 e14 hc1 hc2).2.2.2.1
def zK2:=fun B d s pc c o n m hd hs hpc xk xn xc HX e28 e14 hc1 hc2=>(@z86 B d s pc c o n m hd hs hpc xk xn xc HX e28 e14 hc1 hc2).2.2.2.2
theorem zLe(B d s pc:Nat)(c o n:Int)(m:Dox)(hd:d<11)(hs:s<11)(hpc:pc<=200)(xk xn xc:Int)(HX:Hid (m.reg d=⟨xk,xn,xc⟩))(e28:(c==28)=false)(e14:(c==14)=false)(hc1:15<=c)(hc2:c<=24)(x0:(kd xk==0)=false)(x1:(kd xk==110)=true):(∀(HI:Hid (isV c xn n=false))(w:World)(hM:z01 w B m),zR 53 #[pT (some ⟨B,0,none⟩),.agg #[A C c,A C d,A C s,.bool false,A C o,A C n],A C pc] w (.tuple #[A C ((pc:Int)+1),.bool false,A C 0]))/\(∀(HI:Hid (isV c xn n=true))(o0:0<=o)(o1:o<=200)(w:World)(hM:z01 w B m),zR 53 #[pT (some ⟨B,0,none⟩),.agg #[A C c,A C d,A C s,.bool false,A C o,A C n],A C pc] w (.tuple #[A C ((pc:Int)+1+o),.bool false,A C 0])):=by
 refine⟨?_,?_⟩;intro HI w hM;rotate_left;intro HI o0 o1 w hM;rotate_left
 all_goals
  have hB:=hM.lt;have hBa:B<w.heap.size+1:=kO;have hBb:B<w.heap.size+1+1:=kO;obtain⟨h0,h1,h2⟩:=hM.reg3 hd;rw[HX.out]at h0 h1 h2;have hd0:(0:Int)<=(d:Int):=kO;have hd1:(d:Int)<27:=kO;have hs0:(0:Int)<=(s:Int):=kO;have hs1:(s:Int)<27:=kO;have hp0:(0:Int)<=(pc:Int):=kO;have hp1:(pc:Int)<=200:=kO;have HQ:Hid ((decide (15<=c)&&decide (c<=24))=true):=by show(decide (15<=c)&&decide (c<=24))=true;simp;omega
  clear hc1 hc2
 all_goals
  go_enter Tryz.func53,Tryz.ntmps53;go_wp2_with fail;go_region
  all_goals go_wp2_with(first|(go_at_call 56;refine(z0e c _).mono ?_;rintro e w1 ⟨rfl,rfl⟩;rw[HQ.out])|fail)
  all_goals go_region_held3 (fun w'=>w'.cell? ⟨w.heap.size,0,none⟩=some (A C c)/\w'.cell? ⟨B,d*3+1,none⟩=some (A C xn)/\w'.cell? ⟨w.heap.size+1,1,none⟩=some (A C n)) (first|(simp[go_sem];done)|(simp[go_sem, *];done)|go_keep) (first
   |(go_at_call 68;refine(zG7 c xn n _).mono ?_;rintro e w1 ⟨rfl,rfl⟩;rw[HI.out]))
  all_goals go_wp2
  all_goals go_ret3
  all_goals exact⟨rfl,kB⟩
def zJy:=fun B d s pc c o n m hd hs hpc xk xn xc HX e28 e14 hc1 hc2 x0 x1=>(@zLe B d s pc c o n m hd hs hpc xk xn xc HX e28 e14 hc1 hc2 x0 x1).1
def zJx:=fun B d s pc c o n m hd hs hpc xk xn xc HX e28 e14 hc1 hc2 x0 x1=>(@zLe B d s pc c o n m hd hs hpc xk xn xc HX e28 e14 hc1 hc2 x0 x1).2
theorem zLf(B d s pc:Nat)(c o n:Int)(m:Dox)(hd:d<11)(hs:s<11)(hpc:pc<=200)(xk xn xc:Int)(HX:Hid (m.reg d=⟨xk,xn,xc⟩))(yk yn yc:Int)(HY:Hid (m.reg s=⟨yk,yn,yc⟩))(e28:(c==28)=false)(e14:(c==14)=false)(hc1:15<=c)(hc2:c<=24)(x0:(kd xk==0)=false)(x1:(kd xk==110)=true)(y0:(kd yk==0)=false)(y1:(kd yk==110)=true):(∀(HI:Hid (isV c xn yn=false))(w:World)(hM:z01 w B m),zR 53 #[pT (some ⟨B,0,none⟩),.agg #[A C c,A C d,A C s,.bool true,A C o,A C n],A C pc] w (.tuple #[A C ((pc:Int)+1),.bool false,A C 0]))/\(∀(HI:Hid (isV c xn yn=true))(o0:0<=o)(o1:o<=200)(w:World)(hM:z01 w B m),zR 53 #[pT (some ⟨B,0,none⟩),.agg #[A C c,A C d,A C s,.bool true,A C o,A C n],A C pc] w (.tuple #[A C ((pc:Int)+1+o),.bool false,A C 0])):=by
 refine⟨?_,?_⟩;intro HI w hM;rotate_left;intro HI o0 o1 w hM;rotate_left
 all_goals
  have hB:=hM.lt;have hBa:B<w.heap.size+1:=kO;have hBb:B<w.heap.size+1+1:=kO;obtain⟨h0,h1,h2⟩:=hM.reg3 hd;rw[HX.out]at h0 h1 h2;obtain⟨j0,j1,j2⟩:=hM.reg3 hs;rw[HY.out]at j0 j1 j2;have hd0:(0:Int)<=(d:Int):=kO;have hd1:(d:Int)<27:=kO;have hs0:(0:Int)<=(s:Int):=kO;have hs1:(s:Int)<27:=kO;have hp0:(0:Int)<=(pc:Int):=kO;have hp1:(pc:Int)<=200:=kO;have HQ:Hid ((decide (15<=c)&&decide (c<=24))=true):=by show(decide (15<=c)&&decide (c<=24))=true;simp;omega
  clear hc1 hc2
 all_goals
  go_enter Tryz.func53,Tryz.ntmps53;go_wp2_with fail;go_region
  all_goals go_wp2_with fail
  all_goals go_region
  all_goals go_wp2_with(first|(go_at_call 56;refine(z0e c _).mono ?_;rintro e w1 ⟨rfl,rfl⟩;rw[HQ.out])|fail)
  all_goals go_region_held3 (fun w'=>w'.cell? ⟨w.heap.size,0,none⟩=some (A C c)/\w'.cell? ⟨B,d*3+1,none⟩=some (A C xn)/\w'.cell? ⟨w.heap.size+1,1,none⟩=some (A C yn)) (first|(simp[go_sem];done)|(simp[go_sem, *];done)|go_keep) (first
   |(go_at_call 68;refine(zG7 c xn yn _).mono ?_;rintro e w1 ⟨rfl,rfl⟩;rw[HI.out]))
  all_goals go_wp2
  all_goals go_ret3
  all_goals exact⟨rfl,kB⟩
def zJw:=fun B d s pc c o n m hd hs hpc xk xn xc HX yk yn yc HY e28 e14 hc1 hc2 x0 x1 y0 y1=>(@zLf B d s pc c o n m hd hs hpc xk xn xc HX yk yn yc HY e28 e14 hc1 hc2 x0 x1 y0 y1).1
def zJv:=fun B d s pc c o n m hd hs hpc xk xn xc HX yk yn yc HY e28 e14 hc1 hc2 x0 x1 y0 y1=>(@zLf B d s pc c o n m hd hs hpc xk xn xc HX yk yn yc HY e28 e14 hc1 hc2 x0 x1 y0 y1).2
theorem z01.num3{w:World}{B d:Nat}{m:Dox}(h:z01 w B m)(hd:d<11)(n:Int):z01 (((w.setCell ⟨B,d*3,none⟩ (.int .u8 110)).setCell ⟨B,d*3+1,none⟩ (A C n)).setCell ⟨B,d*3+2,none⟩ (A C 0)) B (m.putReg d ⟨1,n,0⟩):=h.putReg3 hd 1 n 0
theorem zVj(B d s pc:Nat)(c o n:Int)(m:Dox)(hd:d<11)(hs:s<11)(hpc:pc<=200)(xk xn xc:Int)(HX:Hid (m.reg d=⟨xk,xn,xc⟩))(yk yn yc:Int)(HY:Hid (m.reg s=⟨yk,yn,yc⟩))(e28:(c==28)=false)(e14:(c==14)=false)(hc1:24<c)(e25:(c==25)=true)(HPOK:Hid (Val.Ok ⟨yk,yn,yc⟩))(HO64:Hid (In64 o))(t E:Int)(HW:Hid (z46 ⟨yk,yn,yc⟩ o=(t,E)))(hE:(E !=0)=true)(w:World)(hM:z01 w B m):zR 53 #[pT (some ⟨B,0,none⟩),.agg #[A C c,A C d,A C s,.bool false,A C o,A C n],A C pc] w (.tuple #[A C ((pc:Int)+1),.bool false,A C E]):=by
 have hB:=hM.lt;have hBa:B<w.heap.size+1:=kO;have hBb:B<w.heap.size+1+1:=kO;obtain⟨h0,h1,h2⟩:=hM.reg3 hd;rw[HX.out]at h0 h1 h2;obtain⟨j0,j1,j2⟩:=hM.reg3 hs;rw[HY.out]at j0 j1 j2;have hd0:(0:Int)<=(d:Int):=kO;have hd1:(d:Int)<27:=kO;have hs0:(0:Int)<=(s:Int):=kO;have hs1:(s:Int)<27:=kO;have hp0:(0:Int)<=(pc:Int):=kO;have hp1:(pc:Int)<=200:=kO;have HQ:Hid ((decide (15<=c)&&decide (c<=24))=false):=by show(decide (15<=c)&&decide (c<=24))=false;simp;omega
 clear hc1;have _hx:=HX.out;go_enter Tryz.func53,Tryz.ntmps53;go_wp2_with fail;go_region
 all_goals go_wp2_with((go_at_call 56;refine(z0e c _).mono ?_;rintro e w1 ⟨rfl,rfl⟩;rw[HQ.out]))
 all_goals go_region
 all_goals go_wp2_with(first|(go_at_call 56;refine(z0e c _).mono ?_;rintro e w1 ⟨rfl,rfl⟩;rw[HQ.out])|(go_at_call 69;refine(z3i ⟨yk,yn,yc⟩ o HPOK.out HO64.out _).mono ?_;rintro e w2 ⟨rfl,hb2⟩;rw[HW.out];have hM2:z01 w2 B m:=z01.later (by repeat' first|with_reducible assumption|with_reducible(first|refine z01.drew ?_|refine z01.off ?_ _ _ ?_|refine z01.alloc ?_ _)|((try dsimp only);omega)|(simp;omega)) hb2;have hbw:Below w.heap.size w w2:=kT hb2;have hB2:=hM2.lt;have v6:=z0b hb2 w.heap.size;(try simp[go_sem]at v6);have v7:=z0b hb2 (w.heap.size+1);(try simp[go_sem]at v7);have v8:=z0b hb2 (w.heap.size+1+1);(try simp[go_sem]at v8);skip)|fail)
 all_goals go_ret3
 all_goals exact⟨rfl,kB⟩
theorem zOd(B d s pc:Nat)(c o n:Int)(m:Dox)(hd:d<11)(hs:s<11)(hpc:pc<=200)(xk xn xc:Int)(HX:Hid (m.reg d=⟨xk,xn,xc⟩))(yk yn yc:Int)(HY:Hid (m.reg s=⟨yk,yn,yc⟩))(e28:(c==28)=false)(e14:(c==14)=false)(hc1:24<c)(e25:(c==25)=true)(HPOK:Hid (Val.Ok ⟨yk,yn,yc⟩))(HO64:Hid (In64 o))(t:Nat)(ht:t<8)(HW:Hid (z46 ⟨yk,yn,yc⟩ o=(((t:Nat):Int),0)))(k2:(kd yk==116)=true)(w:World)(hM:z01 w B m):Calls tP 53 #[pT (some ⟨B,0,none⟩),.agg #[A C c,A C d,A C s,.bool false,A C o,A C n],A C pc] w fun e w'=>e= rT (.tuple #[A C ((pc:Int)+1),.bool false,A C 0])/\Kept B w w'/\z01 w' B (m.putReg d ⟨1,m.word t,0⟩):=by
 have hB:=hM.lt;have hBa:B<w.heap.size+1:=kO;have hBb:B<w.heap.size+1+1:=kO;obtain⟨h0,h1,h2⟩:=hM.reg3 hd;rw[HX.out]at h0 h1 h2;obtain⟨j0,j1,j2⟩:=hM.reg3 hs;rw[HY.out]at j0 j1 j2;have hd0:(0:Int)<=(d:Int):=kO;have hd1:(d:Int)<27:=kO;have hs0:(0:Int)<=(s:Int):=kO;have hs1:(s:Int)<27:=kO;have hp0:(0:Int)<=(pc:Int):=kO;have hp1:(pc:Int)<=200:=kO;have HQ:Hid ((decide (15<=c)&&decide (c<=24))=false):=by show(decide (15<=c)&&decide (c<=24))=false;simp;omega
 clear hc1;have ht0:(0:Int)<=(t:Int):=kO;have ht1:(t:Int)<8:=kO;go_enter Tryz.func53,Tryz.ntmps53;go_wp2_with fail;go_region
 all_goals go_wp2_with((go_at_call 56;refine(z0e c _).mono ?_;rintro e w1 ⟨rfl,rfl⟩;rw[HQ.out]))
 all_goals go_region
 all_goals go_wp2_with(first|(go_at_call 56;refine(z0e c _).mono ?_;rintro e w1 ⟨rfl,rfl⟩;rw[HQ.out])|(go_at_call 69;refine(z3i ⟨yk,yn,yc⟩ o HPOK.out HO64.out _).mono ?_;rintro e w2 ⟨rfl,hb2⟩;rw[HW.out];have hM2:z01 w2 B m:=z01.later (by repeat' first|with_reducible assumption|with_reducible(first|refine z01.drew ?_|refine z01.off ?_ _ _ ?_|refine z01.alloc ?_ _)|((try dsimp only);omega)|(simp;omega)) hb2;have hbw:Below w.heap.size w w2:=kT hb2;have hB2:=hM2.lt;have v6:=z0b hb2 w.heap.size;(try simp[go_sem]at v6);have v7:=z0b hb2 (w.heap.size+1);(try simp[go_sem]at v7);have v8:=z0b hb2 (w.heap.size+1+1);(try simp[go_sem]at v8);have q0:=hM2.word ht;obtain⟨i0,i1,i2⟩:=hM2.reg3 hd;rw[HX.out]at i0 i1 i2;have f0:=hM2.frozen (d*3);have f1:=hM2.frozen (d*3+1);have f2:=hM2.frozen (d*3+2))|fail)
 all_goals go_ret3
 all_goals have HK:Kept B w w2:=z09 hbw B
 all_goals exact⟨rfl,kQ,(by repeat' first|with_reducible assumption|with_reducible(first|refine z01.drew ?_|refine z01.num3 ?_ hd _|refine z01.putReg3 ?_ hd _ _ _|refine z01.off ?_ _ _ ?_|refine z01.alloc ?_ _)|((try dsimp only);omega)|(simp;omega))⟩
theorem zOe(B d s pc:Nat)(c o n:Int)(m:Dox)(hd:d<11)(hs:s<11)(hpc:pc<=200)(xk xn xc:Int)(HX:Hid (m.reg d=⟨xk,xn,xc⟩))(yk yn yc:Int)(HY:Hid (m.reg s=⟨yk,yn,yc⟩))(e28:(c==28)=false)(e14:(c==14)=false)(hc1:24<c)(e25:(c==25)=true)(HPOK:Hid (Val.Ok ⟨yk,yn,yc⟩))(HO64:Hid (In64 o))(t u:Nat)(q:Int)(HW:Hid (z46 ⟨yk,yn,yc⟩ o=(q,0)))(hq:27+q=(u:Int))(hq0: -16<=q)(hq1:q<= -1)(HU:Hid (u=11+t))(k2:(kd yk==116)=false)(k4:(kd yk==99)=false)(sk sn sc:Int)(HS:Hid (m.slot t=⟨sk,sn,sc⟩))(s0:(kd sk==0)=false)(w:World)(hM:z01 w B m):Calls tP 53 #[pT (some ⟨B,0,none⟩),.agg #[A C c,A C d,A C s,.bool false,A C o,A C n],A C pc] w fun e w'=>e= rT (.tuple #[A C ((pc:Int)+1),.bool false,A C 0])/\Kept B w w'/\z01 w' B (m.putReg d ⟨sk,sn,sc⟩):=by
 have hB:=hM.lt;have hBa:B<w.heap.size+1:=kO;have hBb:B<w.heap.size+1+1:=kO;obtain⟨h0,h1,h2⟩:=hM.reg3 hd;rw[HX.out]at h0 h1 h2;obtain⟨j0,j1,j2⟩:=hM.reg3 hs;rw[HY.out]at j0 j1 j2;have hd0:(0:Int)<=(d:Int):=kO;have hd1:(d:Int)<27:=kO;have hs0:(0:Int)<=(s:Int):=kO;have hs1:(s:Int)<27:=kO;have hp0:(0:Int)<=(pc:Int):=kO;have hp1:(pc:Int)<=200:=kO;have HQ:Hid ((decide (15<=c)&&decide (c<=24))=false):=by show(decide (15<=c)&&decide (c<=24))=false;simp;omega
 clear hc1;have hu0:(0:Int)<=(u:Int):=kO;have hu1:(u:Int)<27:=kO;go_enter Tryz.func53,Tryz.ntmps53;go_wp2_with fail;go_region
 all_goals go_wp2_with((go_at_call 56;refine(z0e c _).mono ?_;rintro e w1 ⟨rfl,rfl⟩;rw[HQ.out]))
 all_goals go_region
 all_goals go_wp2_with(first|(go_at_call 56;refine(z0e c _).mono ?_;rintro e w1 ⟨rfl,rfl⟩;rw[HQ.out])|(go_at_call 69;refine(z3i ⟨yk,yn,yc⟩ o HPOK.out HO64.out _).mono ?_;rintro e w2 ⟨rfl,hb2⟩;rw[HW.out];have hM2:z01 w2 B m:=z01.later (by repeat' first|with_reducible assumption|with_reducible(first|refine z01.drew ?_|refine z01.off ?_ _ _ ?_|refine z01.alloc ?_ _)|((try dsimp only);omega)|(simp;omega)) hb2;have hbw:Below w.heap.size w w2:=kT hb2;have hB2:=hM2.lt;have v6:=z0b hb2 w.heap.size;(try simp[go_sem]at v6);have v7:=z0b hb2 (w.heap.size+1);(try simp[go_sem]at v7);have v8:=z0b hb2 (w.heap.size+1+1);(try simp[go_sem]at v8);obtain⟨q0,q1,q2⟩:=hM2.v (d:=u) kO;rw[HU.out,m.v_slot,HS.out]at q0 q1 q2;rw[<-HU.out]at q0 q1 q2;obtain⟨i0,i1,i2⟩:=hM2.reg3 hd;rw[HX.out]at i0 i1 i2;have f0:=hM2.frozen (d*3);have f1:=hM2.frozen (d*3+1);have f2:=hM2.frozen (d*3+2))|fail)
 all_goals go_ret3
 all_goals have HK:Kept B w w2:=z09 hbw B
 all_goals exact⟨rfl,kQ,(by repeat' first|with_reducible assumption|with_reducible(first|refine z01.drew ?_|refine z01.num3 ?_ hd _|refine z01.putReg3 ?_ hd _ _ _|refine z01.off ?_ _ _ ?_|refine z01.alloc ?_ _)|((try dsimp only);omega)|(simp;omega))⟩
theorem zJp(B d s pc:Nat)(c o n:Int)(m:Dox)(hd:d<11)(hs:s<11)(hpc:pc<=200)(xk xn xc:Int)(HX:Hid (m.reg d=⟨xk,xn,xc⟩))(yk yn yc:Int)(HY:Hid (m.reg s=⟨yk,yn,yc⟩))(e28:(c==28)=false)(e14:(c==14)=false)(hc1:24<c)(e25:(c==25)=true)(HPOK:Hid (Val.Ok ⟨yk,yn,yc⟩))(HO64:Hid (In64 o))(t u:Nat)(q:Int)(HW:Hid (z46 ⟨yk,yn,yc⟩ o=(q,0)))(hq:27+q=(u:Int))(hq0: -16<=q)(hq1:q<= -1)(HU:Hid (u=11+t))(k2:(kd yk==116)=false)(k4:(kd yk==99)=false)(sk sn sc:Int)(HS:Hid (m.slot t=⟨sk,sn,sc⟩))(s0:(kd sk==0)=true)(w:World)(hM:z01 w B m):zR 53 #[pT (some ⟨B,0,none⟩),.agg #[A C c,A C d,A C s,.bool false,A C o,A C n],A C pc] w (.tuple #[A C ((pc:Int)+1),.bool false,A C 8]):=by
 have hB:=hM.lt;have hBa:B<w.heap.size+1:=kO;have hBb:B<w.heap.size+1+1:=kO;obtain⟨h0,h1,h2⟩:=hM.reg3 hd;rw[HX.out]at h0 h1 h2;obtain⟨j0,j1,j2⟩:=hM.reg3 hs;rw[HY.out]at j0 j1 j2;have hd0:(0:Int)<=(d:Int):=kO;have hd1:(d:Int)<27:=kO;have hs0:(0:Int)<=(s:Int):=kO;have hs1:(s:Int)<27:=kO;have hp0:(0:Int)<=(pc:Int):=kO;have hp1:(pc:Int)<=200:=kO;have HQ:Hid ((decide (15<=c)&&decide (c<=24))=false):=by show(decide (15<=c)&&decide (c<=24))=false;simp;omega
 clear hc1;have hu0:(0:Int)<=(u:Int):=kO;have hu1:(u:Int)<27:=kO;have _hx:=HX.out;go_enter Tryz.func53,Tryz.ntmps53;go_wp2_with fail;go_region
 all_goals go_wp2_with((go_at_call 56;refine(z0e c _).mono ?_;rintro e w1 ⟨rfl,rfl⟩;rw[HQ.out]))
 all_goals go_region
 all_goals go_wp2_with(first|(go_at_call 56;refine(z0e c _).mono ?_;rintro e w1 ⟨rfl,rfl⟩;rw[HQ.out])|(go_at_call 69;refine(z3i ⟨yk,yn,yc⟩ o HPOK.out HO64.out _).mono ?_;rintro e w2 ⟨rfl,hb2⟩;rw[HW.out];have hM2:z01 w2 B m:=z01.later (by repeat' first|with_reducible assumption|with_reducible(first|refine z01.drew ?_|refine z01.off ?_ _ _ ?_|refine z01.alloc ?_ _)|((try dsimp only);omega)|(simp;omega)) hb2;have hbw:Below w.heap.size w w2:=kT hb2;have hB2:=hM2.lt;have v6:=z0b hb2 w.heap.size;(try simp[go_sem]at v6);have v7:=z0b hb2 (w.heap.size+1);(try simp[go_sem]at v7);have v8:=z0b hb2 (w.heap.size+1+1);(try simp[go_sem]at v8);obtain⟨q0,q1,q2⟩:=hM2.v (d:=u) kO;rw[HU.out,m.v_slot,HS.out]at q0 q1 q2;rw[<-HU.out]at q0 q1 q2)|fail)
 all_goals go_ret3
 all_goals exact⟨rfl,kB⟩
theorem zOf(B d s pc:Nat)(c o n:Int)(m:Dox)(hd:d<11)(hs:s<11)(hpc:pc<=200)(xk xn xc:Int)(HX:Hid (m.reg d=⟨xk,xn,xc⟩))(yk yn:Int)(e28:(c==28)=false)(e14:(c==14)=false)(hc1:24<c)(e25:(c==25)=true)(t ycn:Nat)(HY:Hid (m.reg s=⟨yk,yn,(ycn:Int)⟩))(HPOK:Hid (Val.Ok ⟨yk,yn,(ycn:Int)⟩))(HO64:Hid (In64 o))(ht:t<4)(hycn:ycn<4)(HW:Hid (z46 ⟨yk,yn,(ycn:Int)⟩ o=(((t:Nat):Int),0)))(k2:(kd yk==116)=false)(k4:(kd yk==99)=true)(w:World)(hM:z01 w B m):Calls tP 53 #[pT (some ⟨B,0,none⟩),.agg #[A C c,A C d,A C s,.bool false,A C o,A C n],A C pc] w fun e w'=>e= rT (.tuple #[A C ((pc:Int)+1),.bool false,A C 0])/\Kept B w w'/\z01 w' B (m.putReg d ⟨1,m.cel (ycn*4+t),0⟩):=by
 have hB:=hM.lt;have hBa:B<w.heap.size+1:=kO;have hBb:B<w.heap.size+1+1:=kO;obtain⟨h0,h1,h2⟩:=hM.reg3 hd;rw[HX.out]at h0 h1 h2;obtain⟨j0,j1,j2⟩:=hM.reg3 hs;rw[HY.out]at j0 j1 j2;have hd0:(0:Int)<=(d:Int):=kO;have hd1:(d:Int)<27:=kO;have hs0:(0:Int)<=(s:Int):=kO;have hs1:(s:Int)<27:=kO;have hp0:(0:Int)<=(pc:Int):=kO;have hp1:(pc:Int)<=200:=kO;have HQ:Hid ((decide (15<=c)&&decide (c<=24))=false):=by show(decide (15<=c)&&decide (c<=24))=false;simp;omega
 clear hc1;have ht0:(0:Int)<=(t:Int):=kO;have ht1:(t:Int)<4:=kO;have hc0:(0:Int)<=(ycn:Int):=kO;have hc1:(ycn:Int)<4:=kO;go_enter Tryz.func53,Tryz.ntmps53;go_wp2_with fail;go_region
 all_goals go_wp2_with((go_at_call 56;refine(z0e c _).mono ?_;rintro e w1 ⟨rfl,rfl⟩;rw[HQ.out]))
 all_goals go_region
 all_goals go_wp2_with(first|(go_at_call 56;refine(z0e c _).mono ?_;rintro e w1 ⟨rfl,rfl⟩;rw[HQ.out])|(go_at_call 69;refine(z3i ⟨yk,yn,(ycn:Int)⟩ o HPOK.out HO64.out _).mono ?_;rintro e w2 ⟨rfl,hb2⟩;rw[HW.out];have hM2:z01 w2 B m:=z01.later (by repeat' first|with_reducible assumption|with_reducible(first|refine z01.drew ?_|refine z01.off ?_ _ _ ?_|refine z01.alloc ?_ _)|((try dsimp only);omega)|(simp;omega)) hb2;have hbw:Below w.heap.size w w2:=kT hb2;have hB2:=hM2.lt;have v6:=z0b hb2 w.heap.size;(try simp[go_sem]at v6);have v7:=z0b hb2 (w.heap.size+1);(try simp[go_sem]at v7);have v8:=z0b hb2 (w.heap.size+1+1);(try simp[go_sem]at v8);have q0:w2.cell? ⟨B,90+ycn*4+t,none⟩=some (A C (m.cel (ycn*4+t))):=(by rw[Nat.add_assoc];exact hM2.cel (d:=ycn*4+t) kO);obtain⟨i0,i1,i2⟩:=hM2.reg3 hd;rw[HX.out]at i0 i1 i2;have f0:=hM2.frozen (d*3);have f1:=hM2.frozen (d*3+1);have f2:=hM2.frozen (d*3+2))|fail)
 all_goals go_region
 all_goals go_wp2
 all_goals go_ret3
 all_goals have HK:Kept B w w2:=z09 hbw B
 all_goals exact⟨rfl,kQ,(by repeat' first|with_reducible assumption|with_reducible(first|refine z01.drew ?_|refine z01.num3 ?_ hd _|refine z01.putReg3 ?_ hd _ _ _|refine z01.off ?_ _ _ ?_|refine z01.alloc ?_ _)|((try dsimp only);omega)|(simp;omega))⟩
end
end Go.Proofs.YtabjjgkmegcacaaGreatDoor
