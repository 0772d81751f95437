/-
A part of the proof of DeskPieces; its card says what is proved.
-/
import Derived.Test.YtkdflpplamebkaaGreatDoorJp43
set_option maxHeartbeats 40000000
open Go.Value renaming int → A
open Go.IntKind renaming i64 → E
open Go.RowKit.Below renaming alloc → bA, setCell → bS, drew → bD, refl → bF
set_option maxRecDepth 1000000
set_option linter.defProp false
set_option linter.unusedVariables false
set_option linter.unusedSimpArgs false
open Go.Value renaming pointer → pT
open Go.Obj renaming cells → cT
open Go.Proofs.Tryz renaming prog → tP
open List renaming length_nil → lQ, length_cons → lX
namespace Go.Proofs.YtkdflpplamebkaaGreatDoor
open Go.ChangeShapes Go.WideShapes Go.ChangeAt Go.RowKit
section
attribute [local simp] z05 z0a z06
variable {ex:Ext}
theorem rest_w(al ah bl bh:Int)(ha:0<=al)(hb:0<bl)(w:World):zR 83 #[.agg #[A E al,A E ah],.agg #[A E bl,A E bh]] w (.agg #[A E 0,A E (min ah (wrap64 (bh-1)))]):=by
 have hb0:0<=bl:=kO;go_enter Tryz.func83,Tryz.ntmps83;go_wp2_with(first|(go_at_call 114;go_in)|go_in)
 all_goals exact bodyPost_ret (v:= .agg #[A E 0,A E (min ah (wrap64 (bh-1)))]) (by simp[results,Tryz.results83,go_sem]) rfl ⟨rfl,kB⟩
theorem zRa(al ah bl bh p q:Int)(HQ:Hid (∀w,zR 82 #[.agg #[A E al,A E ah],.agg #[A E bl,A E bh]] w (.agg #[A E p,A E q])))(w:World):zR 50 #[A E 5,.agg #[A E al,A E ah],.agg #[A E bl,A E bh]] w (.agg #[A E p,A E q]):=by
 go_enter Tryz.func50,Tryz.ntmps50;go_wp2_with(first|(go_at_call 82;refine(HQ.out _).mono ?_;rintro e w1 ⟨rfl,hb1⟩;obtain⟨hcl1,hfr1⟩:=z0h hb1;have hs1:=hb1.size;(try simp only[z05]at hs1);(try simp at hs1);have hbw1:Below w.heap.size w w1:=kT hb1))
 all_goals exact bodyPost_ret (v:= .agg #[A E p,A E q]) (by simp[results,Tryz.results50,go_sem,hcl1]) rfl ⟨rfl,kB⟩
theorem zR9(al ah bl bh p q:Int)(HQ:Hid (∀w,zR 83 #[.agg #[A E al,A E ah],.agg #[A E bl,A E bh]] w (.agg #[A E p,A E q])))(w:World):zR 50 #[A E 6,.agg #[A E al,A E ah],.agg #[A E bl,A E bh]] w (.agg #[A E p,A E q]):=by
 go_enter Tryz.func50,Tryz.ntmps50;go_wp2_with(first|(go_at_call 83;refine(HQ.out _).mono ?_;rintro e w1 ⟨rfl,hb1⟩;obtain⟨hcl1,hfr1⟩:=z0h hb1;have hs1:=hb1.size;(try simp only[z05]at hs1);(try simp at hs1);have hbw1:Below w.heap.size w w1:=kT hb1))
 all_goals exact bodyPost_ret (v:= .agg #[A E p,A E q]) (by simp[results,Tryz.results50,go_sem,hcl1]) rfl ⟨rfl,kB⟩
theorem z7g:In64 (-9223372036854775808):=⟨by decide,by decide⟩
theorem z5c:In64 9223372036854775807:=⟨by decide,by decide⟩
theorem z79:In64 0:=⟨by decide,by decide⟩
theorem z9b(u v:Int):In64 (fit2 u v).1/\In64 (fit2 u v).2:=by
 cases h:(fits u&&fits v)with
 |false=>rw[zEi h];exact⟨z7g,z5c⟩
 |true=>
  rw[zA5 h];rw[Bool.and_eq_true,z5d,z5d]at h;exact h
theorem zLb{x y:Int}(hx:In64 x)(hy:In64 y):In64 (min x y):=by unfold In64 at*;omega
theorem zGt{x y:Int}(hx:In64 x)(hy:In64 y):In64 (max x y):=by unfold In64 at*;omega
theorem q5u(x:Int):In64 (wrap64 x):=by unfold In64 wrap64;omega
theorem zXp{m:Int}(h:In64 m):In64 (z5t m):=⟨by have:0<=z5t m:=Int.natCast_nonneg _;omega,zOs h.2⟩
theorem zE2{c x y:Int}(hc:1<=c/\c<=13)(hx:In64 x)(hy:In64 y):In64 (z0u c x y):=zJ2 hc hx.1 hx.2 hy.1 hy.2
theorem z58{x y:Int}(h1: -2147483648<=x/\x<=2147483648)(h2: -2147483648<=y/\y<=2147483648):In64 (x*y):=by
 have a:=Int.natAbs_mul x y;have b:x.natAbs*y.natAbs<=2147483648*2147483648:=Nat.mul_le_mul kO kO;unfold In64;omega
def OutB(k al ah bl bh:Int)(p:Int×Int):Prop:=In64 p.1/\In64 p.2/\ ∀w,zR 50 #[A E k,.agg #[A E al,A E ah],.agg #[A E bl,A E bh]] w (.agg #[A E p.1,A E p.2])
theorem q6o{k al ah bl bh:Int}(a1:In64 al)(a2:In64 ah)(b1:In64 bl)(b2:In64 bh): ∃p,OutB k al ah bl bh p:=by
 by_cases hk:k<1\/13<k
 ·exact⟨(-9223372036854775808,9223372036854775807),z7g,z5c,q4h k al ah bl bh hk⟩
 have six:0<=bl%64/\bl%64<64:=⟨Int.emod_nonneg _ kD,Int.emod_lt_of_pos _ kD⟩;have i6:In64 (bl%64):=by unfold In64;omega
 have sh: ∀c,c=11\/c=12->In64 (shV c al ah (bl%64)).1/\In64 (shV c al ah (bl%64)).2:=fun c hc=>by
  unfold shV;rw[if_neg kO];split
  ·exact⟨z79,zE2 (c:=11) (x:= -1) kD ⟨by decide,by decide⟩ i6⟩
  ·exact⟨zE2 kO a1 i6,zE2 kO a2 i6⟩
 have an: ∀c,In64 (anyV c al ah).1/\In64 (anyV c al ah).2:=fun c=>by
  unfold anyV;split
  ·exact⟨z7g,z5c⟩
  split
  ·exact⟨z79,a2⟩
  split
  ·exact⟨z7g,z5c⟩
  split
  ·exact⟨a1,show In64 (-1)from⟨by decide,by decide⟩⟩
  ·exact⟨a1,a2⟩
 have h:k=1\/k=2\/k=3\/k=4\/k=5\/k=6\/k=7\/k=8\/k=9\/k=10\/k=11\/k=12\/k=13:=kO;rcases h with rfl|rfl|rfl|rfl|rfl|rfl|rfl|rfl|rfl|rfl|rfl|rfl|rfl
 ·exact⟨(bl,bh),b1,b2,bdo_1 al ah bl bh⟩
 ·exact⟨_,(z9b _ _).1,(z9b _ _).2,bdo_2 al ah bl bh a1.1 a1.2 a2.1 a2.2 b1.1 b1.2 b2.1 b2.2⟩
 ·exact⟨_,(z9b _ _).1,(z9b _ _).2,bdo_3 al ah bl bh a1.1 a1.2 a2.1 a2.2 b1.1 b1.2 b2.1 b2.2⟩
 ·have hm:In64 (bdV 4 al ah bl bh).1/\In64 (bdV 4 al ah bl bh).2:=by
   rw[q3d];split
   ·rename_i hs
    simp only[Bool.and_eq_true,z4d]at hs;obtain⟨⟨⟨s1,s2⟩,s3⟩,s4⟩:=hs;exact⟨zLb (zLb (zLb (z58 s1 s3) (z58 s1 s4)) (z58 s2 s3)) (z58 s2 s4),zGt (zGt (zGt (z58 s1 s3) (z58 s1 s4)) (z58 s2 s3)) (z58 s2 s4)⟩
   ·exact⟨z7g,z5c⟩
  exact⟨_,hm.1,hm.2,bdo_4 al ah bl bh⟩
 ·by_cases ha:al<0
  ·exact⟨(-9223372036854775808,9223372036854775807),z7g,z5c,zRa al ah bl bh _ _ (zDg al ah bl bh ha)⟩
  by_cases hb:bl<0
  ·exact⟨(-9223372036854775808,9223372036854775807),z7g,z5c,zRa al ah bl bh _ _ (zDf al ah bl bh kO hb)⟩
  by_cases hz:0<bl
  ·exact⟨(z0u 5 al bh,z0u 5 ah bl),zE2 (c:=5) kD a1 b2,zE2 (c:=5) kD a2 b1,zRa al ah bl bh _ _ (zG8 al ah bl bh kO hz b2.2 b1.2 b2.1)⟩
  ·exact⟨(0,ah),z79,a2,zRa al ah bl bh _ _ (zG7 al ah bl bh kO kO kO)⟩
 ·by_cases ha:al<0
  ·exact⟨(-9223372036854775808,9223372036854775807),z7g,z5c,zR9 al ah bl bh _ _ (zWc al ah bl bh ha)⟩
  by_cases hb:bl<0
  ·exact⟨(-9223372036854775808,9223372036854775807),z7g,z5c,zR9 al ah bl bh _ _ (zWb al ah bl bh kO hb)⟩
  by_cases hz:0<bl
  ·exact⟨(0,min ah (wrap64 (bh-1))),z79,zLb a2 (q5u _),zR9 al ah bl bh _ _ (rest_w al ah bl bh kO hz)⟩
  ·exact⟨(0,ah),z79,a2,zR9 al ah bl bh _ _ (q3w al ah bl bh kO kO kO)⟩
 ·have hm:In64 (bdV 7 al ah bl bh).1/\In64 (bdV 7 al ah bl bh).2:=by
   rw[q3c];split
   ·split
    ·exact⟨z79,zLb a2 b2⟩
    ·exact⟨z79,a2⟩
   ·split
    ·exact⟨z79,b2⟩
    ·exact⟨z7g,z5c⟩
  exact⟨_,hm.1,hm.2,bdo_7 al ah bl bh⟩
 ·have e:=bdo_8 al ah bl bh a1.1 a1.2 a2.1 a2.2 b1.1 b1.2 b2.1 b2.2
  refine⟨_,?_,?_,e⟩
  ·unfold filV
   split
   ·exact zGt a1 b1
   ·exact z7g
  ·unfold filV
   split
   ·exact zXp (zGt a2 b2)
   ·exact z5c
 ·have e:=bdo_9 al ah bl bh a1.1 a1.2 a2.1 a2.2 b1.1 b1.2 b2.1 b2.2
  refine⟨_,?_,?_,e⟩
  ·unfold filV
   split
   ·exact z79
   ·exact z7g
  ·unfold filV
   split
   ·exact zXp (zGt a2 b2)
   ·exact z5c
 ·by_cases hb:bl=bh
  ·subst hb
   have:In64 (shV 10 al ah (bl%64)).1/\In64 (shV 10 al ah (bl%64)).2:=by unfold shV;rw[if_pos rfl];exact z9b _ _
   exact⟨_,this.1,this.2,zZu al ah bl⟩
  ·exact⟨_,(an 10).1,(an 10).2,zZt al ah bl bh fun h=>hb h.symm⟩
 ·by_cases hb:bl=bh
  ·subst hb
   exact⟨_,(sh 11 kD).1,(sh 11 kD).2,zZs al ah bl⟩
  ·exact⟨_,(an 11).1,(an 11).2,zZr al ah bl bh fun h=>hb h.symm⟩
 ·by_cases hb:bl=bh
  ·subst hb
   exact⟨_,(sh 12 kD).1,(sh 12 kD).2,zZq al ah bl⟩
  ·exact⟨_,(an 12).1,(an 12).2,zZp al ah bl bh fun h=>hb h.symm⟩
 exact⟨_,(z9b _ _).1,(z9b _ _).2,q4i al ah bl bh a1.1 a1.2 a2.1 a2.2⟩
theorem q16(S:Nat)(a:Option Addr)(cap:Nat)(ys:List Int)(k al ah bl bh:Int)(pr:ByteArray)(w:World)(hT:Tabs ex w)(HX:Hid (z19 w a ys))(H5:Hid (5<=ys.length/\ys.getD 0 0=k/\ys.getD 1 0=al/\ys.getD 2 0=ah/\ys.getD 3 0=bl/\ys.getD 4 0=bh)){p:Int×Int}(HP:Hid (OutB k al ah bl bh p)):zR 19 #[pT (some ⟨S,0,none⟩),.agg #[.slice a ys.length cap,.string pr]] w (.string (⟨#[105,115,32]⟩++rowB [p.1,p.2])):=by
 have hl0:(0:Int)<(ys.length:Int):=by have:=H5.out.1;omega
 have hm0:0<ys.length:=kO;have hl1:(1:Int)<(ys.length:Int):=by have:=H5.out.1;omega
 have hm1:1<ys.length:=kO;have hl2:(2:Int)<(ys.length:Int):=by have:=H5.out.1;omega
 have hm2:2<ys.length:=kO;have hl3:(3:Int)<(ys.length:Int):=by have:=H5.out.1;omega
 have hm3:3<ys.length:=kO;have hl4:(4:Int)<(ys.length:Int):=by have:=H5.out.1;omega
 have hm4:4<ys.length:=kO
 obtain⟨bk,off,rfl,hbk,hx⟩: ∃bk off,a=some ⟨bk,off,none⟩/\bk<w.heap.size/\ ∀i,i<ys.length->w.cell? ⟨bk,off+i,none⟩=some (A E (ys.getD i 0)):=by
  rcases HX.out with h|h
  ·omega
  ·exact h
 have hb:Below w.heap.size w (w.alloc (cT #[.slice (some ⟨bk,off,none⟩) ys.length cap,.string pr] 51)):=(bF _ _).alloc (Nat.le_refl _) _;have hn:=heap_alloc_new w (cT #[.slice (some ⟨bk,off,none⟩) ys.length cap,.string pr] 51);have x0:=(hb.cell (p:=⟨bk,off+0,none⟩) hbk).trans (hx 0 kO);have x1:=(hb.cell (p:=⟨bk,off+1,none⟩) hbk).trans (hx 1 kO);have x2:=(hb.cell (p:=⟨bk,off+2,none⟩) hbk).trans (hx 2 kO);have x3:=(hb.cell (p:=⟨bk,off+3,none⟩) hbk).trans (hx 3 kO);have x4:=(hb.cell (p:=⟨bk,off+4,none⟩) hbk).trans (hx 4 kO);rw[Nat.add_zero,H5.out.2.1]at x0;rw[H5.out.2.2.1]at x1;rw[H5.out.2.2.2.1]at x2;rw[H5.out.2.2.2.2.1]at x3;rw[H5.out.2.2.2.2.2]at x4;have hF0:Fine ex w (w.alloc (cT #[.slice (some ⟨bk,off,none⟩) ys.length cap,.string pr] 51)):=(Fine.start hT).alloc _;clear hx;go_enter Tryz.func19,Tryz.ntmps19;go_upto_region 1 with fail
 generalize w.alloc (cT #[.slice (some ⟨bk,off,none⟩) ys.length cap,.string pr] 51)=w0 at hb hn x0 x1 x2 x3 x4 hF0⊢;have n0:w0.cell? ⟨w.heap.size,0,none⟩=some (.slice (some ⟨bk,off,none⟩) ys.length cap):=(cell_of_row w0 w.heap.size 0 _ _ _ hn).trans rfl;have n1:w0.cell? ⟨w.heap.size,1,none⟩=some (.string pr):=(cell_of_row w0 w.heap.size 1 _ _ _ hn).trans rfl;have hbk0:bk<w0.heap.size:=Nat.lt_of_lt_of_le hbk hb.size;have hn0:w.heap.size<w0.heap.size:=(Array.getElem?_eq_some_iff.1 hn).1;go_upto_region 2 with fail
 have HD:Hid (∀W,zR 50 #[A E k,.agg #[A E al,A E ah],.agg #[A E bl,A E bh]] W (.agg #[A E p.1,A E p.2])):=HP.out.2.2;refine z0n (C:=fun W=>Below w0.heap.size w0 W) (n0:=w0.heap.size) 18 [] [cT #[A E 0,A E 0] 84] kR kR (fun d _ _ _ _ h=>by cases d<;>exact h) (fun W W' h hb=>h.trans (hb.mono h.size)) (fun W h=>h.size) ((bF _ _).drew) ⟨⟨rfl,fun a w2 hC=>by go_simp;try rfl⟩,trivial⟩ ?_;simp only[List.take_succ_cons,List.take_zero,List.drop_succ_cons,List.drop_zero,lX,lQ,Nat.reduceAdd]
 repeat(first
  |(refine z0k kI ?_;simp only[pS])
  |(refine z09 kI (v:= pT (some ⟨bk,off,none⟩)) (fun w2 hC=>by go_simp;first|done|rfl) ?_;simp only[pS])
  |(refine z09 kI (v:= pT (some ⟨bk,off+1,none⟩)) (fun w2 hC=>by go_simp;first|done|rfl) ?_;simp only[pS])
  |(refine z09 kI (v:= pT (some ⟨bk,off+2,none⟩)) (fun w2 hC=>by go_simp;first|done|rfl) ?_;simp only[pS])
  |(refine z09 kI (v:= pT (some ⟨bk,off+3,none⟩)) (fun w2 hC=>by go_simp;first|done|rfl) ?_;simp only[pS])
  |(refine z09 kI (v:= pT (some ⟨bk,off+4,none⟩)) (fun w2 hC=>by go_simp;first|done|rfl) ?_;simp only[pS])
  |(refine z09 kI (v:=?_) ?_ ?_;rotate_left;(intro w2 hC;have y0:=(hC.cell (p:=⟨bk,off,none⟩) hbk0).trans x0;have y1:=(hC.cell (p:=⟨bk,off+1,none⟩) hbk0).trans x1;have y2:=(hC.cell (p:=⟨bk,off+2,none⟩) hbk0).trans x2;have y3:=(hC.cell (p:=⟨bk,off+3,none⟩) hbk0).trans x3;have y4:=(hC.cell (p:=⟨bk,off+4,none⟩) hbk0).trans x4;go_simp;try with_reducible rfl);simp only[pS])
  |(refine z0t kI ?_;apply Exists.intro;refine⟨fun w2 hC=>?_,?_⟩;(have y0:=(hC.cell (p:=⟨bk,off,none⟩) hbk0).trans x0;have y1:=(hC.cell (p:=⟨bk,off+1,none⟩) hbk0).trans x1;have y2:=(hC.cell (p:=⟨bk,off+2,none⟩) hbk0).trans x2;have y3:=(hC.cell (p:=⟨bk,off+3,none⟩) hbk0).trans x3;have y4:=(hC.cell (p:=⟨bk,off+4,none⟩) hbk0).trans x4;go_simp;apply z10;first|(go_at_call 50;exact HD.out w2));simp only[pS]))
 refine z0r ?_;intro L hL hL0 w4 hC hB4;have hz4:w4.heap[L]?=some (cT #[A E 0,A E 0] 84 (0,0)):=hB4 L _ (FB.at_new _ _ _);refine wpList_store_row rfl 84 (.tmp 6) (.tmp 26) rfl L #[A E p.1,A E p.2] rfl rfl 84 _ hz4 Tryz.infoBd rfl kR ?_;simp only[pS];have hg:=setRow_heap _ _ _ #[A E p.1,A E p.2] _ _ hz4;have hF5:=hF0.call (z25 hC hL0 #[A E p.1,A E p.2]);generalize w4.setRow L #[A E p.1,A E p.2]=w5 at hg hF5⊢;have c0:w5.cell? ⟨L,0,none⟩=some (A E p.1):=(cell_of_row w5 L 0 _ _ _ hg).trans rfl;have c1:w5.cell? ⟨L,1,none⟩=some (A E p.2):=(cell_of_row w5 L 1 _ _ _ hg).trans rfl
 have h64: ∀y,y∈ [p.1,p.2]->In64 y:=by
  intro y hy;rcases List.mem_cons.1 hy with rfl|hy
  ·exact HP.out.1
  ·rw[List.mem_singleton.1 hy];exact HP.out.2.1
 have hz:=zKc h64 kS 3 kD;clear hC hB4 hz4 hg HD x0 x1 x2 x3 x4 hn;go_upto_region 3 with fail
 go_step;refine z00 rfl (pT (some ⟨L,0,none⟩)) w5 kG ?_;simp only[pS];refine z00 rfl (A E p.1) w5 kG ?_;simp only[pS];refine z00 rfl (pT (some ⟨L,1,none⟩)) w5 kG ?_;simp only[pS];refine z00 rfl (A E p.2) w5 kG ?_;simp only[pS];obtain⟨i0,hi0,hz0,hz1,hz2⟩:=info_parts Tryz.infoI64;refine wpList_buildSlice rfl 49 2 2 #[(0,.tmp 28),(1,.tmp 30)] rfl #[A E p.1,A E p.2] i0 _ Tryz.underlying49 hi0 hz0 (by rw[hz1];omega) (by rw[hz1];omega) (by rw[hz1];kernel_rfl) ?_;simp only[pS];refine z0c rfl 44 #[.slice (some ⟨w5.heap.size,0,none⟩) 2 2] kG (.string (rowB [p.1,p.2])) (z9t [p.1,p.2] h64 kS rfl rfl _ _ hF5.tabs) ?_;intro w6 hb6;simp only[pS];go_wp2_with fail;go_ret;exact⟨rfl,((hF5.alloc _).call hb6).bel⟩
end
section
variable {ex:Ext}
theorem z5q{xs:List Int}(h: ∀x,x∈xs->In64 x):(rowB xs).size<=xs.length*22:=z3q xs (z60 h)
theorem zVc{x y:Int}(hx:In64 x)(hy:In64 y): ∀z,z∈ [x,y]->In64 z:=by
 intro z hz;simp only[List.mem_cons,List.mem_nil_iff,or_false]at hz;rcases hz with rfl|rfl
 ·exact hx
 exact hy
theorem zPs{b:ByteArray}{x y:Int}(hx:In64 x)(hy:In64 y)(hb:b.size<=10):(b++rowB [x,y]).size<=4000000:=by
 have:=z5q (zVc hx hy);rw[ByteArray.size_append];simp only[lX,lQ]at this;omega
section
variable (he: ∀w,ex.holds w->z17 w) (hu: ∀w,ex.holds w->Lib.Utf8Tabs 2 3 w) (d:Dsk) (xs:List Int) (pr:ByteArray)
theorem zBs(he: ∀w,ex.holds w->z17 w)(hu: ∀w,ex.holds w->Lib.Utf8Tabs 2 3 w)(hp:pr.size<=100000){ys:List St}{p:Int×Int}(hr:z2b pr= .inl ys)(hv:z7n ys= .inl p):z47 ex 17 d xs pr (.inl ((⟨#[101,110,100,115,32]⟩:ByteArray)++rowB [p.1,p.2])) d:=
 z0x fun M S B W a c dd hI hd hn=>zU8 he hu hr hv hp S a _ c W hI.tabs
theorem q5m(he: ∀w,ex.holds w->z17 w)(hu: ∀w,ex.holds w->Lib.Utf8Tabs 2 3 w)(hp:pr.size<=100000): ∃r d',OkR r/\z47 ex 17 d xs pr r d':=by
 cases hr:z2b pr with
 |inr c=>exact⟨.inr c,d,z9n hr,z0x fun M S B W a c dd hI hd hn=>zU7 he hu hr hp S a _ c W hI.tabs hI.hand⟩
 |inl ys=>
  cases hv:z7n ys with
  |inr c=>exact⟨.inr c,d,zHt hv,z0x fun M S B W a c dd hI hd hn=>zYt he hu hr hv hp S a _ c W hI.tabs hI.hand⟩
  |inl p=>
   obtain⟨p1,p2⟩:=q3u (zQ5 hr) hv;exact⟨.inl ((⟨#[101,110,100,115,32]⟩:ByteArray)++rowB [p.1,p.2]),d,zPs p1 p2 kD,zBs d xs pr he hu hp hr hv⟩
theorem m_run(he: ∀w,ex.holds w->z17 w)(hu: ∀w,ex.holds w->Lib.Utf8Tabs 2 3 w)(hp:pr.size<=100000)(hl:xs.length=1)(hx: ∀i,i<xs.length->In64 (xs.getD i 0)): ∃r d',OkR r/\z47 ex 25 d xs pr r d':=by
 have h0:=hx 0 kO
 cases hr:z2b pr with
 |inr c=>exact⟨.inr c,d,z9n hr,z0x fun M S B W a c dd hI hd hn=>zVv he hu hr hp S a c xs _ W hn ⟨by omega,rfl,h0⟩ hI.tabs hI.hand⟩
 |inl ys=>
  cases hv:zF3 ys (z3j (xs.getD 0 0) 0) (fun _=>0) 7 with
  |inr c=>exact⟨.inr c,d,q18 hv,z0x fun M S B W a c dd hI hd hn=>q0y he hu hr hp S a c xs _ W hn ⟨by omega,rfl,h0⟩ hI.tabs hI.hand hv⟩
  |inl r=>
   obtain⟨_,_,_,_,_,ok⟩:=q3v (zQ5 hr) (z5k _ h0) z6v (show In64 7 from⟨by decide,by decide⟩) hv;refine⟨.inl ((⟨#[114,97,110,32]⟩:ByteArray)++rowB [r.num,r.steps]++(⟨#[32,111,117,116,32]⟩:ByteArray)++rowB r.out),d,?_,z0x fun M S B W a c dd hI hd hn=>zVw he hu hr hp S a c xs _ W hn ⟨by omega,rfl,h0⟩ hI.tabs hI.hand hv ok⟩;have z1:=z5q (zVc ok.num ok.steps);have z2:=z5q ok.out;have z3:=ok.room;simp only[lX,lQ]at z1;show ByteArray.size _<=_;rw[ByteArray.size_append,ByteArray.size_append,ByteArray.size_append];have e1:(⟨#[114,97,110,32]⟩:ByteArray).size=4:=rfl;have e2:(⟨#[32,111,117,116,32]⟩:ByteArray).size=5:=rfl;omega
theorem m_does(hl:xs.length=5)(hx: ∀i,i<xs.length->In64 (xs.getD i 0)): ∃r d',OkR r/\z47 ex 19 d xs pr r d':=by
 obtain⟨p,hP⟩:=q6o (k:=xs.getD 0 0) (hx 1 kO) (hx 2 kO) (hx 3 kO) (hx 4 kO);exact⟨.inl ((⟨#[105,115,32]⟩:ByteArray)++rowB [p.1,p.2]),d,zPs hP.1 hP.2.1 kD,z0x fun M S B W a c dd hI hd hn=>q16 S a c xs _ _ _ _ _ pr W hI.tabs hn ⟨by omega,rfl,rfl,rfl,rfl,rfl⟩ hP⟩
theorem m_help: ∃r d',OkR r/\z47 ex 21 d xs pr r d':=
 ⟨.inl q2j,d,(by decide:q2j.size<=4000000),z0x fun M S B W a c dd hI hd hn=>zXv S a _ c pr W⟩
theorem hook_no(x:Int):(x<0\/3<=x)\/ ∃k:Nat,k<3/\x=(k:Int):=by
 by_cases h:x<0\/3<=x
 ·exact Or.inl h
 exact Or.inr ⟨x.toNat,by omega,by omega⟩
theorem z6w:Code 2:=⟨by decide,by decide⟩
theorem zAs:Code 7:=⟨by decide,by decide⟩
theorem zCv:Code 12:=⟨by decide,by decide⟩
end
section
variable {d:Dsk} {M:Int} {S B:Nat} {W:World} {a:Option Addr} {xs:List Int}
theorem zAg.out(hI:zAg ex d M S B W)(hn:z19 W a xs)(c:Nat)(pr:ByteArray)(h1:1<=xs.length)(hk:xs.getD 0 0<0\/3<=xs.getD 0 0): ∀W',Below W.heap.size W W'->Calls tP 37 #[pT (some ⟨S,0,none⟩),.agg #[.slice a xs.length c,.string pr]] W' fun e w'=>e=z2c 2/\Below W'.heap.size W' w':=
 fun W' hb=>zG2 S B a c xs pr W' (hI.later hb).box.cell (hI.later hb).box.lt (z2j hn hb) h1 _ rfl hk (hI.later hb).hand
theorem zAg.chain(hI:zAg ex d M S B W)(hn:z19 W a xs)(c:Nat)(pr:ByteArray)(h1:1<=xs.length){k:Nat}(hk:k<3)(e:xs.getD 0 0=(k:Int)): ∀W',Below W.heap.size W W'->zR 37 #[pT (some ⟨S,0,none⟩),.agg #[.slice a xs.length c,.string pr]] W' (pT (some ⟨B,k*317,none⟩)):=
 fun W' hb=>zD6 k hk S B a c xs pr W' (hI.later hb).box.cell (hI.later hb).box.lt (z2j hn hb) h1 e
end
section
variable (d:Dsk) (xs:List Int) (pr:ByteArray)
theorem q5n(hP:Pure d)(hl:xs.length=2): ∃r d',OkR r/\z47 ex 16 d xs pr r d':=by
 rcases hook_no (xs.getD 0 0)with hk|⟨k,hk,ek⟩
 ·exact⟨.inr 2,d,z6w,z0x fun M S B W a c dd hI hd hn=>zNd 0 S B a c xs _ pr W hn ⟨by omega,rfl⟩ hI.tabs hI.hand (hI.out hn c pr kO hk)⟩
 by_cases hI:((d.g k).ps.findIdx fun p=>p.id==xs.getD 1 0)<(d.g k).ps.length
 ·generalize hJ:((d.g k).ps.findIdx fun p=>p.id==xs.getD 1 0)=I at hI
  have hm:(d.g k).ps.getD I pg0∈(d.g k).ps:=by rw[List.getD_eq_getElem?_getD,List.getElem?_eq_getElem hI];exact List.getElem_mem hI
  have hK:=hP.tab k hk _ hm;refine⟨.inl ((⟨#[99,101,108,108,115,32]⟩:ByteArray)++z5b ((List.range 4).map fun i=>rowB (z38 ((d.g k).ps.getD I pg0).tab i)) z63),d,?_,z0x fun M S B W a c dd hS hd hn=>zNe k S B a c xs _ pr W hn ⟨by omega,rfl⟩ hS.tabs hS.hand (hS.chain hn c pr kO hk ek) hK fun W' hb=>?_⟩
  ·have h:=z6p ((List.range 4).map fun i=>rowB (z38 ((d.g k).ps.getD I pg0).tab i)) z63 88 kD fun y hy=>by
    obtain⟨i,hi,rfl⟩:=List.mem_map.1 hy;have hi:=List.mem_range.1 hi;refine z5q (xs:=z38 ((d.g k).ps.getD I pg0).tab i) fun z hz=>?_;simp only[z38,List.mem_cons,List.mem_nil_iff,or_false]at hz;rcases hz with rfl|rfl|rfl|rfl<;>exact hK _ kO
   show ByteArray.size _<=_;rw[ByteArray.size_append];have e1:(⟨#[99,101,108,108,115,32]⟩:ByteArray).size=6:=rfl;rw[List.length_map,List.length_range]at h;omega
  ·have e:=(hd.eq.g k).ps
   have ho:=hd.ok.later hb;have et:((d.g k).ps.getD I pg0).tab=((dd.g k).ps.getD I pg0).tab:=show((d.g k).ps.getD I pg0).bare.tab=_ by rw[zMk e I];rfl
   rw[et];exact q31 B k hk dd _ _ W' ho.at_ (ho.few k hk) I ((z4x e _).symm.trans hJ) (by rw[<-z4j e];exact hI) rfl
 have hN:((d.g k).ps.findIdx fun p=>p.id==xs.getD 1 0)=(d.g k).ps.length:=Nat.le_antisymm List.findIdx_le_length kO;refine⟨.inr 7,d,zAs,z0x fun M S B W a c dd hS hd hn=>zSi k S B a c xs _ pr W hn ⟨by omega,rfl⟩ hS.tabs hS.hand (hS.chain hn c pr kO hk ek) (cs:=zero16) fun W' hb=>?_⟩;have e:=(hd.eq.g k).ps;have ho:=hd.ok.later hb;exact zUc B k hk dd _ W' ho.at_ (ho.few k hk) (by rw[<-z4x e, <-z4j e];exact hN)
theorem zTb(hP:Pure d)(hl:xs.length=1): ∃r d',OkR r/\z47 ex 22 d xs pr r d':=by
 rcases hook_no (xs.getD 0 0)with hk|⟨k,hk,ek⟩
 ·exact⟨.inr 2,d,z6w,z0x fun M S B W a c dd hI hd hn=>zF2 pr S a c _ W (hI.out hn c pr kO hk)⟩
 refine⟨.inl ((⟨#[112,114,111,103,114,97,109,115,32]⟩:ByteArray)++rowB ((d.g k).ps.map fun p:Pg=>p.id)),d,?_,z0x fun M S B W a c dd hS hd hn=>?_⟩
 ·have h:=z5q (xs:=(d.g k).ps.map fun p:Pg=>p.id) fun z hz=>by
   obtain⟨p,hp,rfl⟩:=List.mem_map.1 hz;exact hP.ids k hk p hp
  have h8:=hP.few k hk;rw[List.length_map]at h;show ByteArray.size _<=_;rw[ByteArray.size_append];have e1:(⟨#[112,114,111,103,114,97,109,115,32]⟩:ByteArray).size=9:=rfl;omega
 rw[zRb (hd.eq.g k).ps];exact zK2 k hk S B a c xs pr dd M W hS.box.cell hS.box.lt hn ⟨by omega,ek⟩ hd.ok (hd.ids k hk) hS.tabs
theorem q5j(hP:Pure d)(hl:xs.length=1): ∃r d',OkR r/\z47 ex 26 d xs pr r d':=by
 have z: ∀{x y:Int},In64 x->In64 y->(rowB [x,y]).size<=4000000:=fun hx hy=>by
  have:=z5q (zVc hx hy);simp only[lX,lQ]at this;omega
 rcases hook_no (xs.getD 0 0)with hk|⟨k,hk,ek⟩
 ·have h1:In64 (-1):=⟨by decide,by decide⟩
  have h2:In64 0:=⟨by decide,by decide⟩;exact⟨.inl (rowB [-1,0]),d,z h1 h2,z0x fun M S B W a c dd hI hd hn=>zPw _ (-1) 0 S B a c xs pr W hI.box.cell hI.box.lt hn kO rfl hI.tabs ⟨h1,h2⟩ (fun W' hb=>(zTq B _ hk W').mono fun e w' h=>⟨h.1,by rw[h.2];exact bF _ _⟩) fun W' hb=>(zXt B _ hk W').mono fun e w' h=>⟨h.1,by rw[h.2];exact bF _ _⟩⟩
 have h1:In64 ((d.g k).evs.length:Int):=⟨by omega,by have:=hP.evs k hk;omega⟩;have h2:In64 (d.g k).left:=⟨by have:=hP.left0 k hk;omega,by have:=hP.left1 k hk;omega⟩;refine⟨.inl (rowB [((d.g k).evs.length:Int),(d.g k).left]),d,z h1 h2,z0x fun M S B W a c dd hI hd hn=>zPw _ _ _ S B a c xs pr W hI.box.cell hI.box.lt hn kO ek hI.tabs ⟨h1,h2⟩ (fun W' hb=>?_) fun W' hb=>?_⟩
 ·rw[(hd.eq.g k).evs]
  exact(zXq B k hk dd W' (hd.ok.later hb).at_).mono fun e w' h=>⟨h.1,by rw[h.2];exact bF _ _⟩
 rw[(hd.eq.g k).left];exact(q2i B k hk dd W' (hd.ok.later hb).at_).mono fun e w' h=>⟨h.1,by rw[h.2];exact bF _ _⟩
theorem q4r{x y:Int}(hx:In64 x)(hy:In64 y): ∀i,i<8->In64 (z3j x y i):=fun i _=>by
 unfold z3j;split
 ·exact hx
 ·split
  ·exact hy
  ·exact⟨by decide,by decide⟩
theorem q5l(hP:Pure d)(hl:xs.length=3)(hx: ∀i,i<xs.length->In64 (xs.getD i 0)): ∃r d',OkR r/\z47 ex 20 d xs pr r d':=by
 have hT:=q4r (hx 1 kO) (hx 2 kO);rcases hook_no (xs.getD 0 0)with hk|⟨k,hk,ek⟩
 ·exact⟨.inr 2,d,z6w,z0x fun M S B W a c dd hI hd hn=>zLy S B a c xs pr _ _ _ W hI.box.cell hI.box.lt hn hl ⟨rfl,rfl,rfl⟩ 2 hI.hand fun W' hb=>zTr B _ hk _ W'⟩
 by_cases h20:(d.g k).evs.length=20
 ·refine⟨.inr 12,d,zCv,z0x fun M S B W a c dd hI hd hn=>zLy S B a c xs pr _ _ _ W hI.box.cell hI.box.lt hn hl ⟨ek,rfl,rfl⟩ 12 hI.hand fun W' hb=>zOl B k hk dd _ W' (hd.ok.later hb).at_ (by rw[<-(hd.eq.g k).evs];exact h20)⟩
 have h19:(d.g k).evs.length<20:=by have:=hP.evs k hk;omega
 refine⟨.inl ⟨#[101,118,101,110,116]⟩,d.put k {d.g k with evs:=(d.g k).evs++[z3j (xs.getD 1 0) (xs.getD 2 0)]},(by decide:(5:Nat)<=4000000),z7u fun M S B W a c dd hI hd hn hq=>?_⟩;have hd19:(dd.g k).evs.length<20:=by rw[<-(hd.eq.g k).evs];exact h19
 refine(q2q S B a c xs pr _ _ _ W hI.box.cell hI.box.lt hn hl ⟨ek,rfl,rfl⟩ (dd.put k {dd.g k with evs:=(dd.g k).evs++[z3j (xs.getD 1 0) (xs.getD 2 0)]}) M fun W' hb=>(zXu B k _ hk dd _ W' (hd.ok.later hb).at_ rfl hd19).mono fun e w' h=>⟨h.1,h.2.1,(hd.ok.later hb).event hk hd19 hT h.2.1 h.2.2⟩).mono fun e w' h=>⟨h.1,h.2.1,_,h.2.2.more kO,hd.eq.put ⟨(hd.eq.g k).ps,(hd.eq.g k).last,by show _++_=_++_;rw[(hd.eq.g k).evs],(hd.eq.g k).may,(hd.eq.g k).left⟩,fun j hj=>?_,fun j hj=>?_⟩
 ·rw[z3r]
  split
  ·exact hd.left k hk
  ·exact hd.left j hj
 rw[z3r];split
 ·exact hd.ids k hk
 exact hd.ids j hj
theorem q1r(hP:Pure d)(hl:xs.length=2): ∃r d',OkR r/\z47 ex 18 d xs pr r d':=by
 rcases hook_no (xs.getD 0 0)with hk|⟨k,hk,ek⟩
 ·exact⟨.inr 2,d,z6w,z0x fun M S B W a c dd hI hd hn=>zK4 _ hk S B a c xs pr _ W hI.box.cell hI.box.lt hn hl ⟨rfl,rfl⟩ hI.hand⟩
 by_cases hI:((d.g k).ps.findIdx fun p=>p.id==xs.getD 1 0)<(d.g k).ps.length
 ·generalize hJ:((d.g k).ps.findIdx fun p=>p.id==xs.getD 1 0)=I at hI
  refine⟨.inl ⟨#[100,101,116,97,99,104]⟩,d.put k {d.g k with ps:=(d.g k).ps.eraseIdx I},(by decide:(6:Nat)<=4000000),z7u fun M S B W a c dd hS hd hn hq=>?_⟩;have e:=(hd.eq.g k).ps;refine(zSh k hk S B a c xs pr _ W hS.box.cell hS.box.lt hn hl ⟨ek,rfl⟩ (dd.put k {dd.g k with ps:=(dd.g k).ps.eraseIdx I}) M fun W' hb=>(zYi B k hk dd M _ W' (hd.ok.later hb) I ((z4x e _).symm.trans hJ) (by rw[<-z4j e];exact hI)).mono fun e w' h=>⟨h.1,h.2.1,(hd.ok.later hb).gone hk h.2.1 h.2.2⟩).mono fun e w' h=>⟨h.1,h.2.1,_,h.2.2.more kO,hd.eq.gone k I,fun j hj=>?_,fun j hj=>?_⟩
  ·rw[z3r]
   split
   ·exact hd.left k hk
   ·exact hd.left j hj
  ·rw[z3r]
   split
   ·exact fun p hp=>hd.ids k hk p (List.mem_of_mem_eraseIdx hp)
   ·exact hd.ids j hj
 have hN:((d.g k).ps.findIdx fun p=>p.id==xs.getD 1 0)=(d.g k).ps.length:=Nat.le_antisymm List.findIdx_le_length kO;refine⟨.inr 7,d,zAs,z0x fun M S B W a c dd hS hd hn=>zNc k hk S B a c xs pr _ W hS.box.cell hS.box.lt hn hl ⟨ek,rfl⟩ 7 hS.hand fun W' hb=>?_⟩;have e:=(hd.eq.g k).ps;have ho:=hd.ok.later hb;exact zP6 B k hk dd _ W' ho.at_ (ho.few k hk) (by rw[<-z4x e, <-z4j e];exact hN)
theorem q5k(hP:Pure d): ∃r d',OkR r/\z47 ex 24 d xs pr r d':=by
 refine⟨.inl ((⟨#[114,111,117,110,100,32]⟩:ByteArray)++z5b ((z15 3 d).2.map fun x=>z41 (x.1:Int) x.2) z63),(z15 3 d).1,?_,z7u fun M S B W a c dd hI hd hn hq=>?_⟩
 ·have h:=z6p ((z15 3 d).2.map fun x=>z41 (x.1:Int) x.2) z63 22100 kD fun y hy=>by
   obtain⟨x,hx,rfl⟩:=List.mem_map.1 hy;obtain⟨h1,h2⟩:=hP.said x hx;exact zH9 ⟨by omega,by omega⟩ h2
  have h2:=zDa d 3;rw[List.length_map]at h;show ByteArray.size _<=_;rw[ByteArray.size_append];have e1:(⟨#[114,111,117,110,100,32]⟩:ByteArray).size=6:=rfl;omega
 obtain⟨q1,q2⟩:=zAw hd.eq 3;have hlt:=hd.lt;have hb0:=hI.hb;have hM1:=hI.M1;refine zVx S B a c _ pr W hI.box.cell hI.box.lt hI.tabs (show 11<=B by omega) hd.ok.at_.lt (L:=(z15 3 d).2) (fun x hx=>⟨by obtain⟨h1, -⟩:=hP.said x hx;exact⟨by omega,by omega⟩,(hP.said x hx).2⟩) (fun w'=> ∃dd',DOk w' B dd' (M+61)/\DkEq (z15 3 d).1 dd'/\(∀k,k<3->(dd'.g k).left<=0)/\ ∀k,k<3-> ∀p,p∈(dd'.g k).ps->In64 p.id) (fun W1 W2 h hb=>?_) fun W' hb=>?_
 ·obtain⟨dd',h1,h2⟩:=h
  exact⟨dd',h1.later hb,h2⟩
 have ho:=hd.ok.later hb;refine(zXr B dd M hI.M0 kO W' ho hd.left).mono fun e w' h=>?_;obtain⟨vd,ds,h1,h2,h3,h4,h5,h6⟩:=h;exact⟨vd,ds,h1,h2,⟨_,h3.more kO,q1,zBo dd hd.left hd.ok.evs 3 (Nat.le_refl _),fun k hk p hp=>((zAv (ho.rd hd.ids) kO 3 (Nat.le_refl _)).1.ps k hk p hp).2⟩,h4,h5.trans q2.symm,h6⟩
end
end
section
variable {ex:Ext}
def q3h(d:Dsk)(k:Nat)(ys:List St)(rank:Int):Dsk:=d.put k {d.g k with ps:=Pg.ins (d.g k).ps ((d.g k).ps.findIdx fun p=>decide (rank<p.rank)) ⟨(d.g k).last+1,rank,.slice none 0 0,ys,fun _=>0⟩,last:=(d.g k).last+1}
theorem q3g{d:Dsk}{k:Nat}{ys:List St}(hL:Lets ys)(h7:(d.g k).ps.length<=7)(rank:Int):zUn d k ys rank (q3h d k ys rank):=Or.inr ⟨hL,h7,⟨(d.g k).last+1,rank,.slice none 0 0,ys,fun _=>0⟩,rfl,rfl,rfl,rfl,rfl⟩
section
variable (d:Dsk) (xs:List Int) (pr:ByteArray)
theorem z9v(he: ∀w,ex.holds w->z17 w)(hu: ∀w,ex.holds w->Lib.Utf8Tabs 2 3 w)(hp:pr.size<=100000)(hP:Pure d)(hl:xs.length=2){k:Nat}(hk:k<3)(ek:xs.getD 0 0=(k:Int)){ys:List St}{p:Int×Int}(hr:z2b pr= .inl ys)(hv:z7n ys= .inl p)(h7:(d.g k).ps.length<=7):z47 ex 15 d xs pr (.inl (rowB [(d.g k).last+1])) (q3h d k ys (xs.getD 1 0)):=by
 have hR:=zQ5 hr;have hL:=zOb hR hv;have l0:=hP.last0 k hk;have l1:=hP.last1 k hk;refine z7u fun M S B W a c dd hI hd hn hq=>?_;have hM1:=hI.M1;have hlt:=hd.lt;have hb0:=hI.hb;have e:=(hd.eq.g k).ps;have h7':(dd.g k).ps.length<=7:=by rw[<-z4j e];exact h7
 refine zK8 he hu hr hp k S B a c xs _ W hn ⟨by omega,rfl⟩ hI.tabs hI.hand (hI.chain hn c pr kO hk ek) hd.ok.at_.lt (show 11<=B by omega) hq (show In64 _ from⟨by omega,by omega⟩) (fun w'=> ∃dd',DOk w' B dd' (M+61)/\DkEq (q3h d k ys (xs.getD 1 0)) dd'/\(∀k,k<3->(dd'.g k).left<=0)/\ ∀k,k<3-> ∀p,p∈(dd'.g k).ps->In64 p.id) (fun W1 W2 h hb=>?_) fun W' l hb hl'=>?_
 ·obtain⟨dd',h1,h2⟩:=h
  exact⟨dd',h1.later hb,h2⟩
 have ho:=hd.ok.later hb;rw[(hd.eq.g k).last]at l0 l1⊢;refine(zTt B k _ hk dd l ys (xs.getD 1 0) W' ho.at_ rfl h7' hl' hL ho.one (zVs ho hl' hL.1) kO kO).mono fun e' w' h=>?_;obtain⟨h1,h2,q,q1,q2,q3,q4,q5,q6⟩:=h;have hA:zUn dd k ys (xs.getD 1 0) _:=Or.inr ⟨hL,h7',q,q1,q2,q3,q4,rfl⟩;refine⟨h1,h2,_,(ho.attach hk h7' List.findIdx_le_length q5 h2 q6).more kO,hd.eq.att (q3g hL h7 _) hA,fun j hj=>?_,fun j hj=>?_⟩
 ·rw[(hA.same j).2.2];exact hd.left j hj
 rw[z3r];split
 ·intro p' hp'
  rcases ins_mem hp' with rfl|hp'
  ·rw[q1];exact⟨by omega,by omega⟩
  ·exact hd.ids k hk p' hp'
 exact hd.ids j hj
theorem q1s(he: ∀w,ex.holds w->z17 w)(hu: ∀w,ex.holds w->Lib.Utf8Tabs 2 3 w)(hp:pr.size<=100000)(hP:Pure d)(hl:xs.length=2): ∃r d',OkR r/\z47 ex 15 d xs pr r d':=by
 rcases hook_no (xs.getD 0 0)with hk|⟨k,hk,ek⟩
 ·exact⟨.inr 2,d,z6w,z0x fun M S B W a c dd hI hd hn=>zK7 pr S a c _ W (hI.out hn c pr kO hk)⟩
 cases hr:z2b pr with
 |inr c=>exact⟨.inr c,d,z9n hr,z0x fun M S B W a c dd hI hd hn=>zK6 he hu hr hp k S B a c xs _ W hn ⟨by omega,rfl⟩ hI.tabs hI.hand (hI.chain hn c pr kO hk ek)⟩
 |inl ys=>
  cases hv:z7n ys with
  |inr c=>exact⟨.inr c,d,zHt hv,z0x fun M S B W a c dd hI hd hn=>zD7 he hu hr hp k S B a c xs _ W hn ⟨by omega,rfl⟩ hI.tabs hI.hand (hI.chain hn c pr kO hk ek) fun W' l hb hl' hR=>zOm B k l _ W' fun W2 hb2=>zN1 hR hv (hl'.later hb2)⟩
  |inl p=>
   by_cases h7:(d.g k).ps.length<=7
   ·refine⟨_,_,?_,z9v d xs pr he hu hp hP hl hk ek hr hv h7⟩
    have l0:=hP.last0 k hk;have l1:=hP.last1 k hk;have:=z5q (xs:=[(d.g k).last+1]) fun z hz=>by rw[List.mem_singleton.1 hz];exact⟨by omega,by omega⟩
    show ByteArray.size _<=_;rw[List.length_singleton]at this;omega
   ·have h8:(d.g k).ps.length=8:=by have:=hP.few k hk;omega
    exact⟨.inr 12,d,zCv,z0x fun M S B W a c dd hI hd hn=>zD7 he hu hr hp k S B a c xs _ W hn ⟨by omega,rfl⟩ hI.tabs hI.hand (hI.chain hn c pr kO hk ek) fun W' l hb hl' hR=>(zLc B k 8 hk dd l ys _ W' (hd.ok.later hb).at_ hl' (zOb hR hv) ((z4j (hd.eq.g k).ps).symm.trans h8)).mono fun e w' h=>⟨_,h.1,h.2,Or.inl rfl⟩⟩
theorem zXe(he: ∀w,ex.holds w->z17 w)(hu: ∀w,ex.holds w->Lib.Utf8Tabs 2 3 w)(hp:pr.size<=100000)(hP:Pure d)(hl:xs.length=2): ∃r d',OkR r/\z47 ex 23 d xs pr r d':=by
 rcases hook_no (xs.getD 0 0)with hk|⟨k,hk,ek⟩
 ·exact⟨.inr 2,d,z6w,z0x fun M S B W a c dd hI hd hn=>zI0 pr S a c _ W (hI.out hn c pr kO hk)⟩
 cases hr:z2b pr with
 |inr c=>exact⟨.inr c,d,z9n hr,z0x fun M S B W a c dd hI hd hn=>zHz he hu hr hp k S B a c xs _ W hn ⟨by omega,rfl⟩ hI.tabs hI.hand (hI.chain hn c pr kO hk ek)⟩
 |inl ys=>
  by_cases hJ:((d.g k).ps.findIdx fun p=>p.id==xs.getD 1 0)<(d.g k).ps.length
  ·generalize eJ:((d.g k).ps.findIdx fun p=>p.id==xs.getD 1 0)=I at hJ
   cases hv:z7n ys with
   |inr c=>exact⟨.inr c,d,zHt hv,z0x fun M S B W a c dd hI hd hn=>zBm he hu hr hp k S B a c xs _ W hn ⟨by omega,rfl⟩ hI.tabs hI.hand (hI.chain hn c pr kO hk ek) fun W' l hb hl' hR=>zNi B k _ l W' I (zCf B k hk dd _ W' (hd.ok.later hb).at_ (hd.ok.few k hk) I ((z4x (hd.eq.g k).ps _).symm.trans eJ) (by rw[<-z4j (hd.eq.g k).ps];exact hJ)) fun W2 hb2=>zN1 hR hv (hl'.later hb2)⟩
   |inl p=>
    have hL:=zOb (zQ5 hr) hv;refine⟨.inl ⟨#[114,101,112,108,97,99,101]⟩,d.put k {d.g k with ps:=(d.g k).ps.set I {(d.g k).ps.getD I pg0 with xs:=ys}},(by decide:(7:Nat)<=4000000),z7u fun M S B W a c dd hI hd hn hq=>?_⟩;have e:=(hd.eq.g k).ps;refine zI1 he hu hr hp k S B a c xs _ W hn ⟨by omega,rfl⟩ hI.tabs hI.hand (hI.chain hn c pr kO hk ek) hd.ok.at_.lt hq (fun w'=> ∃dd',DOk w' B dd' (M+61)/\DkEq (d.put k {d.g k with ps:=(d.g k).ps.set I {(d.g k).ps.getD I pg0 with xs:=ys}}) dd'/\(∀k,k<3->(dd'.g k).left<=0)/\ ∀k,k<3-> ∀p,p∈(dd'.g k).ps->In64 p.id) (fun W1 W2 h hb=>?_) fun W' l hb hl'=>?_
    ·obtain⟨dd',h1,h2⟩:=h
     exact⟨dd',h1.later hb,h2⟩
    ·have ho:=hd.ok.later hb
     have hlen:I<(dd.g k).ps.length:=by rw[<-z4j e];exact hJ
     have hm:(dd.g k).ps.getD I pg0∈(dd.g k).ps:=by rw[List.getD_eq_getElem?_getD,List.getElem?_eq_getElem hlen];exact List.getElem_mem hlen
     refine(zSk B k hk dd M _ l ys W' ho I ((z4x e _).symm.trans eJ) hlen hl' hL).mono fun e' w' h=>?_;obtain⟨h1,h2,q,q1,q2,q3,q4,q5,q6⟩:=h;have eb:=zMk e I;have b1:((d.g k).ps.getD I pg0).id=((dd.g k).ps.getD I pg0).id:=show((d.g k).ps.getD I pg0).bare.id=((dd.g k).ps.getD I pg0).bare.id by rw[eb]
     have b2:((d.g k).ps.getD I pg0).rank=((dd.g k).ps.getD I pg0).rank:=show((d.g k).ps.getD I pg0).bare.rank=((dd.g k).ps.getD I pg0).bare.rank by rw[eb]
     have b3:((d.g k).ps.getD I pg0).tab=((dd.g k).ps.getD I pg0).tab:=show((d.g k).ps.getD I pg0).bare.tab=((dd.g k).ps.getD I pg0).bare.tab by rw[eb]
     refine⟨h1,h2,_,(ho.swap q5 hk h2 q6).more kO,hd.eq.swap k I ?_,fun j hj=>?_,fun j hj=>?_⟩
     ·unfold Pg.bare
      rw[q1,q2,q3,q4, <-b1, <-b2, <-b3]
     ·rw[z3r]
      split
      ·exact hd.left k hk
      ·exact hd.left j hj
     ·rw[z3r]
      split
      ·intro p' hp'
       rcases List.mem_or_eq_of_mem_set hp' with hp'|rfl
       ·exact hd.ids k hk p' hp'
       ·rw[q1];exact hd.ids k hk _ hm
      ·exact hd.ids j hj
  ·have hN:((d.g k).ps.findIdx fun p=>p.id==xs.getD 1 0)=(d.g k).ps.length:=Nat.le_antisymm List.findIdx_le_length kO
   exact⟨.inr 7,d,zAs,z0x fun M S B W a c dd hI hd hn=>zBm he hu hr hp k S B a c xs _ W hn ⟨by omega,rfl⟩ hI.tabs hI.hand (hI.chain hn c pr kO hk ek) fun W' l hb hl' hR=>(zKf B k hk dd _ l W' (hd.ok.later hb).at_ (hd.ok.few k hk) (by rw[<-z4x (hd.eq.g k).ps, <-z4j (hd.eq.g k).ps];exact hN)).mono fun e w' h=>⟨_,h.1,h.2,Or.inl rfl⟩⟩
end
theorem q6f{W:World}{B:Nat}{may:Nat->Int}(h0: ∀k,k<3->1<=may k)(h1: ∀k,k<3->may k<=1000)(h:z0f W B (z3o may 3)):DOk W B (z3o may 3) 0:=by
 refine⟨h,fun k hk p hp=>?_,fun k hk=>?_,fun k hk=>?_,fun k hk T hT=>?_,fun k hk=>?_,fun k hk=>?_,fun k hk=>?_,fun k hk=>?_,fun k hk=>?_,fun k hk=>?_,Int.le_refl _,Int.le_refl _⟩
 ·cases hp
 ·exact Nat.zero_le _
 ·exact Nat.zero_le _
 ·cases hT
 ·show 1<=if k<3 then may k else 0
  rw[if_pos hk];exact h0 k hk
 ·show(if k<3 then may k else 0)<=1000
  rw[if_pos hk];exact h1 k hk
 ·exact(by decide:(-1601:Int)<=0)
 ·exact(by decide:(0:Int)<=2000)
 ·exact Int.le_refl _
 exact Int.le_refl _
theorem m_new(d:Dsk)(xs:List Int)(pr:ByteArray)(hl:xs.length=3): ∃r d',OkR r/\z47 ex 14 d xs pr r d':=by
 have bad: ∀K,K<3->(∀k,k<K->1<=xs.getD k 0)->(∀k,k<K->xs.getD k 0<=1000)->(xs.getD K 0<1\/1000<xs.getD K 0)-> ∃r d',OkR r/\z47 ex 14 d xs pr r d':=fun K hK g0 g1 g2=>
  ⟨.inr 2,d,z6w,z0x fun M S B W a c dd hI hd hn=>zWd S a c xs _ _ _ pr W hI.box hn ⟨by omega,rfl,rfl,rfl⟩ hI.hand fun W' hb=>q2h (fun i=>xs.getD i 0) K hK g0 g1 g2 W'⟩
 by_cases a0:1<=xs.getD 0 0/\xs.getD 0 0<=1000
 ·by_cases a1:1<=xs.getD 1 0/\xs.getD 1 0<=1000
  ·by_cases a2:1<=xs.getD 2 0/\xs.getD 2 0<=1000
   ·have g0: ∀k,k<3->1<=xs.getD k 0:=fun k hk=>by rcases(by omega:k=0\/k=1\/k=2)with rfl|rfl|rfl<;>omega
    have g1: ∀k,k<3->xs.getD k 0<=1000:=fun k hk=>by rcases(by omega:k=0\/k=1\/k=2)with rfl|rfl|rfl<;>omega
    refine⟨.inl ⟨#[110,101,119]⟩,z3o (fun i=>xs.getD i 0) 3,(by decide:(3:Nat)<=4000000),fun M S B n W a c hI hn hq hS hB hnW=>?_⟩;refine(zG4 S a c xs _ _ _ pr W hI.box hn ⟨by omega,rfl,rfl,rfl⟩ (fun q e=>by have:=hq q e;omega) (D:=z3o (fun i=>xs.getD i 0) 3) fun W' hb=>(zXs (fun i=>xs.getD i 0) g0 g1 W').mono fun e w' h=>⟨_,h.1,h.2.1,by omega,h.2.2⟩).mono fun e w' h=>?_;obtain⟨h1,hk,B',h2,h3,h4⟩:=h;have hm0:=hI.M0;refine⟨h1,⟨hk.size,hk.os,hk.tape,hk.output,fun k hkl hkS _=>hk.block k hkl fun z=>hkS (Option.some.inj z)⟩,zCc ⟨B',_,h2,by omega,(q6f g0 g1 h4).more kO,DkEq.refl _,fun k hk=>Int.le_refl _,fun k hk p hp=>by cases hp⟩ h2 (Or.inr kO),hI.tabs.on (zAc hk kO) hI.hb⟩
   ·exact bad 2 kD (fun k hk=>by rcases(by omega:k=0\/k=1)with rfl|rfl<;>omega) (fun k hk=>by rcases(by omega:k=0\/k=1)with rfl|rfl<;>omega) kO
  ·exact bad 1 kD (fun k hk=>by rw[show k=0 by omega];exact a0.1) (fun k hk=>by rw[show k=0 by omega];exact a0.2) kO
 exact bad 0 kD (fun k hk=>absurd hk kO) (fun k hk=>absurd hk kO) kO
end
end Go.Proofs.YtkdflpplamebkaaGreatDoor
