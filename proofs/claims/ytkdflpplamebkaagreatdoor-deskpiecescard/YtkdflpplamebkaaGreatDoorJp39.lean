/-
A part of the proof of DeskPieces; its card says what is proved.
-/
import Derived.Test.YtkdflpplamebkaaGreatDoorJp38
set_option maxHeartbeats 40000000
open Go.Value renaming int → A
open Go.IntKind renaming i64 → D
open Go.RowKit.Below renaming alloc → bA, setCell → bS, drew → bD, refl → bF
set_option maxRecDepth 1000000
set_option linter.defProp false
set_option linter.unusedVariables false
set_option linter.unusedSimpArgs false
open Go.Ending renaming returned → rT
open Go.Value renaming pointer → pT
open Go.Obj renaming cells → cT
open Go.Proofs.Tryz renaming prog → tP
namespace Go.Proofs.YtkdflpplamebkaaGreatDoor
open Go.ChangeShapes Go.WideShapes Go.ChangeAt Go.RowKit
section
attribute [local simp] z05 z0a z06
variable {ex:Ext}
def outB:ByteArray:=⟨#[32,111,117,116,32]⟩
def z41(h:Int)(s:Sd):ByteArray:=if s.out.length=0 then rowB [h,s.bf,s.num,s.steps]else rowB [h,s.bf,s.num,s.steps]++(outB++rowB s.out)
structure SdOk (s:Sd):Prop where
 bf:In64 s.bf
 num:In64 s.num
 steps:In64 s.steps
 room:s.out.length<=1000
 out: ∀x,x∈s.out->In64 x
theorem zY2{h:Int}{s:Sd}(h0:In64 h)(ok:SdOk s): ∀y,y∈ [h,s.bf,s.num,s.steps]->In64 y:=by
 intro y hy;simp only[List.mem_cons,List.mem_nil_iff,or_false]at hy;rcases hy with rfl|rfl|rfl|rfl
 ·exact h0
 ·exact ok.bf
 ·exact ok.num
 exact ok.steps
theorem zH9{h:Int}{s:Sd}(h0:In64 h)(ok:SdOk s):(z41 h s).size<=22100:=by
 have z1:=z3q [h,s.bf,s.num,s.steps] (z60 (zY2 h0 ok));have z2:=z3q s.out (z60 ok.out);have:=ok.room;simp only[List.length_cons,List.length_nil]at z1;unfold z41;split
 ·omega
 rw[ByteArray.size_append,ByteArray.size_append];have:outB.size=5:=rfl;omega
theorem zU2(h:Int)(s:Sd)(oa:Option Addr)(oc:Nat)(w:World)(HN:Hid (z19 w oa s.out))(H0:Hid (In64 h))(HO:Hid (SdOk s))(hT:Tabs ex w):zR 55 #[.agg #[A D h,A D s.bf,A D s.num,.slice oa s.out.length oc,A D s.steps]] w (.string (z41 h s)):=by
 have hn:=heap_alloc_new w (cT #[A D h,A D s.bf,A D s.num,.slice oa s.out.length oc,A D s.steps] 101);have hF0:Fine ex w (w.alloc (cT #[A D h,A D s.bf,A D s.num,.slice oa s.out.length oc,A D s.steps] 101)):=(Fine.start hT).alloc _;have hN0:=z2j HN.out ((bF _ _).alloc (Nat.le_refl _) (cT #[A D h,A D s.bf,A D s.num,.slice oa s.out.length oc,A D s.steps] 101));have h4:=zY2 H0.out HO.out;have z1:=z3q [h,s.bf,s.num,s.steps] (z60 h4);have z2:=z3q s.out (z60 HO.out.out);have zr:=HO.out.room;have e1: ¬9223372036854775807<5+(rowB s.out).size:=kO;have e2: ¬9223372036854775807<(rowB [h,s.bf,s.num,s.steps]).size+(5+(rowB s.out).size):=by simp only[List.length_cons,List.length_nil]at z1;omega
 clear z1 z2;go_enter Tryz.func55,Tryz.ntmps55;go_upto_region 1 with fail
 generalize w.alloc (cT #[A D h,A D s.bf,A D s.num,.slice oa s.out.length oc,A D s.steps] 101)=w0 at hn hF0 hN0⊢;generalize w.heap.size=g at hn⊢;have c0:w0.cell? ⟨g,0,none⟩=some (A D h):=(cell_of_row w0 g 0 _ _ _ hn).trans rfl;have c1:w0.cell? ⟨g,1,none⟩=some (A D s.bf):=(cell_of_row w0 g 1 _ _ _ hn).trans rfl;have c2:w0.cell? ⟨g,2,none⟩=some (A D s.num):=(cell_of_row w0 g 2 _ _ _ hn).trans rfl;have c3:w0.cell? ⟨g,3,none⟩=some (.slice oa s.out.length oc):=(cell_of_row w0 g 3 _ _ _ hn).trans rfl;have c4:w0.cell? ⟨g,4,none⟩=some (A D s.steps):=(cell_of_row w0 g 4 _ _ _ hn).trans rfl;clear hn;go_step;refine z00 rfl (pT (some ⟨g,0,none⟩)) w0 kG ?_;simp only[pS];refine z00 rfl (A D h) w0 kG ?_;simp only[pS];refine z00 rfl (pT (some ⟨g,1,none⟩)) w0 kG ?_;simp only[pS];refine z00 rfl (pT (some ⟨g,1,none⟩)) w0 kG ?_;simp only[pS];refine z00 rfl (A D s.bf) w0 kG ?_;simp only[pS];refine z00 rfl (pT (some ⟨g,1,none⟩)) w0 kG ?_;simp only[pS];refine z00 rfl (pT (some ⟨g,2,none⟩)) w0 kG ?_;simp only[pS];refine z00 rfl (A D s.num) w0 kG ?_;simp only[pS];refine z00 rfl (pT (some ⟨g,1,none⟩)) w0 kG ?_;simp only[pS];refine z00 rfl (pT (some ⟨g,4,none⟩)) w0 kG ?_;simp only[pS];refine z00 rfl (A D s.steps) w0 kG ?_;simp only[pS];obtain⟨i0,hi0,hz0,hz1,hz2⟩:=info_parts Tryz.infoI64;refine wpList_buildSlice rfl 49 2 4 #[(0,.tmp 5),(1,.tmp 8),(2,.tmp 11),(3,.tmp 14)] rfl #[A D h,A D s.bf,A D s.num,A D s.steps] i0 _ Tryz.underlying49 hi0 hz0 (by rw[hz1];omega) (by rw[hz1];omega) (by rw[hz1];kernel_rfl) ?_;simp only[pS];refine z0c rfl 44 #[.slice (some ⟨w0.heap.size,0,none⟩) 4 4] kG (.string (rowB [h,s.bf,s.num,s.steps])) (z9t [h,s.bf,s.num,s.steps] h4 kS rfl rfl _ _ hF0.tabs) ?_;intro w1 hb1;simp only[pS];have hF1:=(hF0.alloc (cT #[A D h,A D s.bf,A D s.num,A D s.steps] 2)).call hb1;have hb2:Below w0.heap.size w0 w1:=((bF _ _).alloc (Nat.le_refl _) (cT #[A D h,A D s.bf,A D s.num,A D s.steps] 2)).trans (hb1.mono kS);have c3:=(hb2.cell (p:=⟨g,3,none⟩) (by rcases Nat.lt_or_ge g w0.heap.size with q|q;exact q;exact absurd c3 (by simp[World.cell?,Array.getElem?_eq_none q]))).trans c3;have hN1:=z2j hN0 hb2;have hT1:=hF1.tabs;have hbw:=hF1.bel;have hl3:s.out.length<=1000:=HO.out.room;clear hb1 hb2 hN0 hF0 c0 c1 c2 c4 hF1 zr
 by_cases h0:s.out.length=0
 ·have q1: ¬(0<s.out.length):=kO
  have q0:decide (0<s.out.length)=false:=decide_eq_false q1;have q2: ¬((0:Int)<(s.out.length:Int)):=kO;have HD:Hid (z41 h s=rowB [h,s.bf,s.num,s.steps]):=if_pos h0;clear h0;go_wp2_with fail;go_ret;exact⟨by rw[HD.out];rfl,hbw⟩
 have q1:0<s.out.length:=kO;have q0:decide (0<s.out.length)=true:=decide_eq_true q1;have q2:(0:Int)<(s.out.length:Int):=kO;have HD:Hid (z41 h s=rowB [h,s.bf,s.num,s.steps]++(outB++rowB s.out)):=if_neg h0;have hR:=z9l oa oc s.out w1 hN1 (z60 HO.out.out) hl3 hT1;clear h0 hN1;go_wp2_with(first|(go_at_call 44;refine hR.mono ?_;rintro e w2 ⟨rfl,hb2⟩)|fail);go_ret;exact⟨by rw[HD.out];rfl,hbw.trans (hb2.mono hbw.size)⟩
theorem zP4{w w':World}{base:Nat}{v:Value}{ds:List Dn}(h:DnAt w base v ds)(hb:Below w.heap.size w w'):DnAt w' base v ds:=⟨z59 h.1 hb,fun x hx=>z59 (h.2 x hx) hb⟩
theorem zJt{α β:Type}(f:α->β){l:List α}{q:Nat}{x:α}(h:l[q]?=some x):(l.map f).take (q+1)=(l.map f).take q++[f x]:=by
 rw[List.take_add_one,List.getElem?_map,h];rfl
theorem zVx(S B:Nat)(a:Option Addr)(cap n:Nat)(pr:ByteArray)(w:World)(hS:w.cell? ⟨S,0,none⟩=some (pT (some ⟨B,0,none⟩)))(hSl:S<w.heap.size)(hT:Tabs ex w)(HBB:Hid (11<=B))(hBl:B<w.heap.size){L:List (Nat×Sd)}(HL:Hid (∀x,x∈L->In64 (x.1:Int)/\SdOk x.2))(Φ:World->Prop)(hΦ: ∀W W',Φ W->Below W.heap.size W W'->Φ W')(HRD:Hid (∀W,Below w.heap.size w W->Calls tP 54 #[pT (some ⟨B,0,none⟩)] W fun e w'=> ∃vd ds,e= rT vd/\Kept B W w'/\Φ w'/\DnAt w' W.heap.size vd ds/\(ds.map fun x=>(x.k,x.s))=L/\ds.length<=60)):Calls tP 24 #[pT (some ⟨S,0,none⟩),.agg #[.slice a n cap,.string pr]] w fun e w'=>e= rT (.string (⟨#[114,111,117,110,100,32]⟩++z5b (L.map fun x=>z41 (x.1:Int) x.2) z63))/\Kept B w w'/\Φ w':=by
 have hb:Below w.heap.size w (w.alloc (cT #[.slice a n cap,.string pr] 51)):=(bF _ _).alloc (Nat.le_refl _) _;have s0:=(hb.cell (p:=⟨S,0,none⟩) hSl).trans hS;go_enter Tryz.func24,Tryz.ntmps24;go_upto_region 1 with fail
 generalize w.alloc (cT #[.slice a n cap,.string pr] 51)=w0 at hb s0⊢;go_upto_region 2 with fail
 go_step;refine z00 rfl (pT (some ⟨S,0,none⟩)) w0 kG ?_;simp only[pS];refine z00 rfl (pT (some ⟨S,0,none⟩)) w0 kG ?_;simp only[pS];refine z00 rfl (pT (some ⟨S,0,none⟩)) w0 kG ?_;simp only[pS];refine z00 rfl (pT (some ⟨B,0,none⟩)) w0 kG ?_;simp only[pS];refine z0v rfl 54 #[pT (some ⟨B,0,none⟩)] kG (R:=fun v w'=> ∃ds,Kept B w0 w'/\Φ w'/\DnAt w' w0.heap.size v ds/\(ds.map fun x=>(x.k,x.s))=L/\ds.length<=60) ((HRD.out w0 hb).mono fun e w' ⟨vd,ds,h1,h2⟩=>⟨_,h1,ds,h2⟩) ?_;rintro vd w2 ⟨ds,hk2,hp2,hd2,hL,hlen⟩;simp only[pS];have hkw:=z18 (z0d hb B) hk2
 have HDK:Hid (∀x,x∈ds->In64 (x.k:Int)/\SdOk x.s):=fun x hx=>by
  have:=HL.out (x.k,x.s) (by rw[<-hL];exact List.mem_map.2 ⟨x,hx,rfl⟩);exact this
 have HE:Hid ((L.map fun x=>z41 (x.1:Int) x.2)=(ds.map fun x=>z41 (x.k:Int) x.s)):=by
  show(L.map fun x=>z41 (x.1:Int) x.2)=(ds.map fun x=>z41 (x.k:Int) x.s);rw[<-hL,List.map_map];rfl
 have HDN:Hid (DnAt w2 w0.heap.size vd ds):=hd2;have HP2:Hid (Kept B w w2/\Φ w2):=⟨hkw,hp2⟩
 obtain⟨va,vc,rfl⟩: ∃va vc,vd= .slice va ds.length vc:=by
  rcases rowShape hd2.1 with⟨e,e0⟩|⟨g,c,e⟩
  ·exact⟨none,0,by rw[e,e0]⟩
  ·exact⟨_,c,e⟩
 have HT2:Hid (Fine ex w2 w2):=Fine.start (hT.on (z3h hkw hBl) HBB.out);have HS:Hid (w2.ownsRow w2.heap.size 9 1 (.slice none 0 0) 0 (((ds.map fun x=>z41 (x.k:Int) x.s).take 0).map Value.string)/\Fine ex w2 w2):=⟨World.ownsRow_nil _ _ _ _,HT2.out⟩;clear hk2 hkw hp2 hd2 hL s0 hb hS;go_wp2_with fail;go_loopw [5,14] (fun v jv wr=> ∃j:Nat,jv=A D j/\j<=ds.length/\Hid (wr.ownsRow w2.heap.size 9 1 v j (((ds.map fun x=>z41 (x.k:Int) x.s).take j).map Value.string)/\Fine ex w2 wr)) (fun _ jv _=>ds.length-(intOf jv).toNat)
 case atStart=>exact⟨0,rfl,Nat.zero_le _,HS.out⟩
 case round=>as_aux_lemma=>
  clear HS;obtain⟨j,rfl,hjn,HQ⟩:=hrel;have hj0:(0:Int)<=(j:Int):=kO
  by_cases hj:j<ds.length
  ·have hj':(j:Int)<(ds.length:Int):=kO
   obtain⟨y,hy⟩: ∃y,ds[j]?=some y:=⟨ds[j],List.getElem?_eq_getElem hj⟩;have hym:y∈ds:=List.mem_of_getElem? hy
   obtain⟨gd,rfl⟩: ∃gd,va=some ⟨gd,0,none⟩:=by
    rcases rowShape HDN.out.1 with⟨-,e⟩|⟨g,c,e⟩
    ·omega
    ·injection e with e1 _ _;exact⟨g,e1⟩
   have hDr:=zP4 HDN.out HQ.out.2.bel;have hrow:=q2w hDr.1 hy;have hown:=hDr.2 y hym;obtain⟨oa,oc,hyv⟩:=z2d hown;have hno:z19 wr oa y.s.out:=by rw[hyv]at hown;exact zIg hown
   have hnx:=zJt (fun x:Dn=>z41 (x.k:Int) x.s) hy;obtain⟨h64,hok⟩:=HDK.out y hym;have hy1:y.v.oneCell'=true:=by rw[hyv];rfl
   clear hDr hown;go_upto_region 4 with fail
   go_step;refine z00 rfl (pT (some ⟨gd,j*5,none⟩)) wr kG ?_;simp only[pS];refine wpList_load_mid rfl 101 (.tmp 16) rfl gd (j*5) rfl y.cells _ hrow Tryz.underlying101 rfl kR ?_;simp only[pS];refine z00 rfl (pT (some ⟨wr.heap.size,0,none⟩)) (wr.alloc (cT dnZ 101)) kG ?_;simp only[pS];refine wpList_store_row rfl 101 (.tmp 7) (.tmp 17) rfl wr.heap.size y.cells.toArray rfl rfl 101 dnZ (heap_alloc_new wr _) kR rfl (dn_one hy1) ?_;simp only[pS];obtain⟨hb6,hx6⟩:=zWv wr dnZ y.cells.toArray 101;have HQ6:Hid (((wr.alloc (cT dnZ 101)).setRow wr.heap.size y.cells.toArray).ownsRow w2.heap.size 9 1 u5 j (((ds.map fun x=>z41 (x.k:Int) x.s).take j).map Value.string)/\Fine ex w2 ((wr.alloc (cT dnZ 101)).setRow wr.heap.size y.cells.toArray)):=⟨z59 HQ.out.1 hb6,HQ.out.2.call hb6⟩;have hno6:=z2j hno hb6;clear hb6 HQ hrow hno;generalize (wr.alloc (cT dnZ 101)).setRow wr.heap.size y.cells.toArray=w6 at hx6 HQ6 hno6⊢;generalize wr.heap.size=g6 at hx6⊢;go_upto_region 5 with fail
   go_step;refine z00 rfl (u5) w6 kG ?_;simp only[pS];refine wpList_load_row rfl 101 (.tmp 7) rfl g6 rfl 101 y.cells.toArray (0,0) _ hx6 Tryz.underlying101 rfl kR ?_;simp only[pS]
   have hEV:zR 55 #[.agg y.cells.toArray] w6 (.string (z41 (y.k:Int) y.s)):=by
    have:=zU2 (y.k:Int) y.s oa oc w6 hno6 h64 hok HQ6.out.2.tabs;rw[<-hyv]at this;exact this
   refine z0c rfl 55 #[.agg y.cells.toArray] kG (.string (z41 (y.k:Int) y.s)) hEV ?_;intro w7 hb7;simp only[pS];obtain⟨i0,hi0,hz0,hz1,hz2⟩:=info_parts Tryz.infoStr;refine wpList_buildSlice rfl 57 9 1 #[(0,.tmp 20)] rfl #[.string (z41 (y.k:Int) y.s)] i0 _ Tryz.underlying57 hi0 hz0 (by rw[hz1];omega) (by rw[hz1];omega) (by rw[hz1];kernel_rfl) ?_;simp only[pS];have HQ8:Hid ((w7.alloc (cT #[.string (z41 (y.k:Int) y.s)] 9)).ownsRow w2.heap.size 9 1 u5 j (((ds.map fun x=>z41 (x.k:Int) x.s).take j).map Value.string)/\Fine ex w2 (w7.alloc (cT #[.string (z41 (y.k:Int) y.s)] 9))):=⟨(z59 HQ6.out.1 hb7).alloc _,(HQ6.out.2.call hb7).alloc _⟩;refine wpList_append_own (w7.alloc (cT #[.string (z41 (y.k:Int) y.s)] 9)) rfl (.tmp 18) (.tmp 21) 57 rfl w2.heap.size 9 i0 _ 1 16 Tryz.underlying57 hi0 hz0 hz1 hz2 rfl kD _ _ _ rfl HQ8.out.1 ⟨w7.heap.size,0,none⟩ 1 1 [.string (z41 (y.k:Int) y.s)] rfl rfl (z5j w7 #[.string (z41 (y.k:Int) y.s)] 9) (by intro u hu;rw[List.mem_singleton.1 hu];rfl) (by unfold maxLen;omega) kO HQ8.out.2.bel.size ?_;intro v9 w9 ho9 hg9 _;simp only[pS];have HQ9:Hid (w9.ownsRow w2.heap.size 9 1 v9 (j+1) (((ds.map fun x=>z41 (x.k:Int) x.s).take (j+1)).map Value.string)/\Fine ex w2 w9):=⟨by rw[hnx,List.map_append];exact ho9,Fine.grown HQ8.out.2 hg9 (z77 HQ8.out.1) HT2.out.tabs.room⟩;clear HQ8 HQ6 ho9 hg9 hb7 hx6 hno6 hnx hEV;go_wp2_with fail;exact⟨⟨j+1,z78 j,by omega,HQ9.out⟩,by show ds.length-((j:Int)+1).toNat<ds.length-(j:Int).toNat;omega⟩
  ·have hj': ¬((j:Int)<(ds.length:Int)):=kO
   have hje:j=ds.length:=kO;subst hje;have ho:=HQ.out.1;have hF:=HQ.out.2;rw[List.take_of_length_le (by rw[List.length_map];omega)]at ho;clear HQ
   have hz: ∀y,y∈(ds.map fun x=>z41 (x.k:Int) x.s)->y.size<=22100:=fun y hy=>by
    obtain⟨x,hx,rfl⟩:=List.mem_map.1 hy;exact zH9 (HDK.out x hx).1 (HDK.out x hx).2
   have hzz:=z6p (ds.map fun x=>z41 (x.k:Int) x.s) z63 22100 kD hz;rcases rowShape ho with⟨rfl,h0⟩|⟨g,cp,rfl⟩
   ·obtain rfl:ds=[]:=List.eq_nil_of_length_eq_zero h0
    have HJ:Hid (z5b (L.map fun x=>z41 (x.1:Int) x.2) z63=⟨#[]⟩):=by
     show z5b (L.map fun x=>z41 (x.1:Int) x.2) z63=⟨#[]⟩;rw[HE.out];rfl
    go_wp2_with(first|(go_at_call 45;refine(Tryz.strings_Join_none _ _ _ _).mono ?_;rintro e w9 ⟨rfl,rfl⟩)|fail);go_ret;refine⟨?_,z1h HP2.out.1 hF.bel,hΦ _ _ HP2.out.2 hF.bel⟩;rw[HJ.out];rfl
   ·have hJ:=zCl g ds.length cp w2.heap.size _ z63 wr ho (by rw[List.length_map];omega) kD fun y hy=>Nat.le_trans (hz y hy) kD
    obtain⟨jb,HJB⟩: ∃jb,Hid (z5b (ds.map fun x=>z41 (x.k:Int) x.s) z63=jb):=⟨_,rfl⟩;rw[HJB.out]at hJ hzz;have hj9: ¬9223372036854775807<6+jb.size:=by rw[List.length_map]at hzz;omega
    clear ho hz hzz;go_wp2_with(first|(go_at_call 45;refine hJ.mono ?_;rintro e w9 ⟨rfl,hb9⟩)|fail);go_ret;refine⟨?_,z1h HP2.out.1 (hF.bel.trans (hb9.mono hF.bel.size)),hΦ _ _ HP2.out.2 (hF.bel.trans (hb9.mono hF.bel.size))⟩;rw[HE.out,HJB.out];rfl
end
section
attribute [local simp] z05 z0a z06
variable {ex:Ext}
def z2i:ByteArray:=⟨#[]⟩
def zAf(w:World)(bk off:Nat)(ws:List ByteArray):Prop:=bk<w.heap.size/\ ∀i,i<ws.length->w.cell? ⟨bk,off+i,none⟩=some (.string (ws.getD i z2i))
theorem zPn{P:Program}{ops:Array Oper}{C:World->Prop}{K K':Act->Prop}(hk: ∀a,K a->K' a): ∀(l:List Oper)(a:Act),wpQ P ops C K l a->wpQ P ops C K' l a
 |[],a,h=>hk a h
 |o::l,a,⟨v,h1,h2⟩=>⟨v,h1,zPn hk l _ h2⟩
theorem wpF_q{P:Program}{ops:Array Oper}{C:World->Prop}{n0:Nat}{K:Act->FB->Prop}{l2:List Oper}{s2:List z7j}{B:FB}: ∀(l1:List Oper)(a:Act),wpQ P ops C (fun a'=>wpF P ops C n0 K l2 s2 a' B) l1 a-> ∃ss:List z7j,ss.length=l1.length+s2.length/\wpF P ops C n0 K (l1++l2) ss a B
 |[],a,h=>⟨s2,by simp,h⟩
 |o::l1,a,⟨v,h1,h2⟩=>by
  obtain⟨ss,e,h⟩:=wpF_q l1 _ h2;exact⟨.inl v::ss,by simp[e];omega,h1,h⟩
theorem zJk{P:Program}{C:World->Prop}{n0 id:Nat}{Q:Exit->Act->World->Prop}{a:Act}{w:World}{l:List Oper}(n:Nat)(lz:List Nat)(o:Oper)(z:Obj)(f:Nat->Value)(hm:P.follows .mixedOrders=true)(hB:zH4 l.toArray (n+1) lz=true)(ho:l.drop n=o::l.drop (n+1))(hQ: ∀d v c a w,Q (.panic c) (a.put d v) w->Q (.panic c) a w)
  (hst: ∀w w',C w->Below w.heap.size w w'->C w')(hn0: ∀w,C w->n0<=w.heap.size)(hC:C w.drew)
  (h:wpQ P l.toArray C (fun a'=>(Region.wanted o (yielded l.toArray a'.tmps)=true/\ ∀w,C w->(execOp a'.eval o).run P w= .ok (.value (f w.heap.size)) (w.alloc z))/\ ∀L,n0<=L-> ∀w',C w'->w'.heap[L]?=some z->wpList P l.toArray Q (l.drop (n+1)) (a'.put o.dst (f L)) w') (l.take n) a):
  (Code.region id l.toArray true).wp P Q a w:=by
 have hn:n+1<l.length:=by
  have:=hB;simp only[zH4,Bool.and_eq_true,decide_eq_true_eq]at this;simpa using this.1.1.1.1.2
 have el:l.take n++[o]=l.take (n+1):=by
  rw[List.take_add,ho];rfl
 have h':wpQ P l.toArray C (fun a'=>wpF P l.toArray C n0 (fun a2 B=> ∀w',C w'->(∀L z,B L=some z->w'.heap[L]?=some z)->wpList P l.toArray Q (l.drop (n+1)) a2 w') [o] [.inr (z,f)] a' (fun _=>none)) (l.take n) a:=by
  refine zPn (fun a' ⟨g1,g2⟩=>?_) _ _ h;exact⟨g1,fun L _ hL w' hC' hb=>g2 L hL w' hC' (hb L z (FB.at_new _ _ _))⟩
 obtain⟨ss,e,hF⟩:=wpF_q _ _ h';rw[el]at hF;refine z7k (n+1) lz ss hm hB ?_ hQ hst hn0 hC hF;rw[e];simp;omega
theorem q1f(n:Nat)(p:Bool)(fv:Value)(bk off cap:Nat)(ws:List ByteArray)(w:World)(H:Hid (ws.length<n\/(n<ws.length/\p=false))):Calls tP 32 #[.agg #[A D (n:Int),.bool p,fv],.slice (some ⟨bk,off,none⟩) ws.length cap] w fun e w'=>e=z2c 3/\Below w.heap.size w w':=by
 have hb:Below w.heap.size w ((w.alloc (cT #[A D (n:Int),.bool p,fv] 53)).alloc (cT #[.slice none 0 0,.string ⟨#[]⟩] 51)):=((bF _ _).alloc (Nat.le_refl _) _).alloc kS _;rcases H.out with h|⟨h,rfl⟩
 ·have q1:((ws.length:Int)<(n:Int)):=kO
  clear H;go_enter Tryz.func32,Tryz.ntmps32;go_wp2_with fail;exact⟨rfl,rfl,hb⟩
 have q1: ¬((ws.length:Int)<(n:Int)):=kO;have q2:((n:Int)<(ws.length:Int)):=kO;clear H;go_enter Tryz.func32,Tryz.ntmps32;go_wp2_with fail;exact⟨rfl,rfl,hb⟩
theorem zI3{o:Oper}{u:Act}(V:World)(bk off n len cap:Nat)(x y:Operand)(ho:o.op= .slice 57 x (some y) none none)(hx:u.eval x= .slice (some ⟨bk,off,none⟩) len cap)(hy:u.eval y=A D (n:Int))(h1:n<=len)(h2:len<=cap):(execOp u.eval o).run tP V= .ok (.value (.slice (some ⟨bk,(if n=cap then off else off+n),none⟩) (len-n) (cap-n))) V:=by
 have s1:(0:Int)<=(n:Int):=kO;have s2:(n:Int)<=(len:Int):=kO;have s3:(len:Int)<=(cap:Int):=kO;unfold execOp;simp only[ho,hx,hy,Option.map_some,Option.map_none]
 by_cases c:n=cap
 ·rw[if_pos c]
  subst c;obtain rfl:len=n:=by omega
  go_simp;try simp
 rw[if_neg c];have c': ¬cap=n:=fun e=>c e.symm;have c2: ¬(cap-n=0):=kO;go_simp;try simp[c,c',c2]
 try omega
structure RdSt (ex:Ext) (w:World) (n:Nat) (p:Bool) (fv:Value) (xs:List Int) (wr:World) (j:Nat):Prop where
 box: ∃v,wr.heap[w.heap.size+2]?=some (cT #[v,.string ⟨#[]⟩] 51 (0,0))/\wr.ownsRow (w.heap.size+3) 2 1 v j ((xs.take j).map (Value.int .i64))
 line:wr.heap[w.heap.size]?=some (cT #[A D (n:Int),.bool p,fv] 53 (0,0))
 zero:wr.heap[w.heap.size+1]?=some (cT #[.slice none 0 0,.string ⟨#[]⟩] 51 (0,0))
 fine:Fine ex w wr
theorem zW2{W:World}{B:Nat}{t:TypeId}{u v s:Value}(h:W.heap[B]?=some (cT #[u,s] t (0,0))):(W.setCell ⟨B,0,none⟩ v).heap[B]?=some (cT #[v,s] t (0,0)):=by
 obtain⟨hlt,hk⟩:=Array.getElem?_eq_some_iff.1 h;show(W.heap.modify B _)[B]?=_;rw[Array.getElem?_eq_getElem (by rw[Array.size_modify];exact hlt),Array.getElem_modify_self,hk];rfl
theorem zSd{W:World}{B:Nat}{t:TypeId}{u v s:Value}(h:W.heap[B]?=some (cT #[u,s] t (0,0))):(W.setCell ⟨B,1,none⟩ v).heap[B]?=some (cT #[u,v] t (0,0)):=by
 obtain⟨hlt,hk⟩:=Array.getElem?_eq_some_iff.1 h;show(W.heap.modify B _)[B]?=_;rw[Array.getElem?_eq_getElem (by rw[Array.size_modify];exact hlt),Array.getElem_modify_self,hk];rfl
theorem zAn{W:World}{B i:Nat}{t:TypeId}{cs:Array Value}(h:W.heap[B]?=some (cT cs t (0,0))):W.frozen? ⟨B,i,none⟩=false:=by
 simp[World.frozen?,h]
theorem zSs{w:World}{base n z g:Nat}{e:TypeId}{v:Value}{xs:List Value}(h:w.ownsRow base e z v n xs)(hg:g<base)(cs:Array Value):(w.setRow g cs).ownsRow base e z v n xs:=
 h.kept (row:=some g) ⟨rfl,rfl,rfl,by rw[setRow_size];exact Nat.le_refl _,fun k _ hk=>setRow_other w g k cs fun e=>hk (by rw[e])⟩ (Or.inr fun e=>by have:=(World.ownsRow.lt h _ e).1;omega)
theorem zJu{xs:List Int}{j:Nat}(h:j<xs.length):(xs.take (j+1)).map (Value.int .i64)=(xs.take j).map (Value.int .i64)++[A D (xs.getD j 0)]:=by
 rw[List.take_add_one,List.getElem?_eq_getElem h,List.map_append,List.getD_eq_getElem?_getD,List.getElem?_eq_getElem h];rfl
theorem RdSt.next{ex:Ext}{w:World}{n:Nat}{p:Bool}{fv:Value}{xs:List Int}{wr:World}{j:Nat}{v s:Value}(hb:wr.heap[w.heap.size+2]?=some (cT #[s,.string ⟨#[]⟩] 51 (0,0)))(ho:wr.ownsRow (w.heap.size+3) 2 1 v (j+1) ((xs.take (j+1)).map (Value.int .i64)))(hl:wr.heap[w.heap.size]?=some (cT #[A D (n:Int),.bool p,fv] 53 (0,0)))(hz:wr.heap[w.heap.size+1]?=some (cT #[.slice none 0 0,.string ⟨#[]⟩] 51 (0,0)))(hf:Fine ex w wr)(hT:Tabs ex w):RdSt ex w n p fv xs (wr.setCell ⟨w.heap.size+2,0,none⟩ v) (j+1):=by
 have hB:Below w.heap.size w (wr.setCell ⟨w.heap.size+2,0,none⟩ v):=hf.bel.setCell (by show w.heap.size<=w.heap.size+2;omega) _;exact⟨⟨v,zW2 hb,ownsRow_setCell_below ho (a:=⟨w.heap.size+2,0,none⟩) (by show w.heap.size+2<w.heap.size+3;omega) _⟩,(Below.heap_setCell _ _ _ _ (by show w.heap.size≠w.heap.size+2;omega)).trans hl,(Below.heap_setCell _ _ _ _ (by show w.heap.size+1≠w.heap.size+2;omega)).trans hz,⟨hB,hT.on hB hT.room⟩⟩
theorem zKa{o:Oper}{u:Act}(W:World)(p:Operand)(x:Int)(ho:o.op= .buildSlice 49 1 #[(0,p)])(hx:u.eval p=A D x):(execOp u.eval o).run tP W= .ok (.value (.slice (some ⟨W.heap.size,0,none⟩) 1 1)) (W.alloc (cT #[A D x] 2)):=by
 obtain⟨i0,hi0,hz0,hz1,hz2⟩:=info_parts Tryz.infoI64;unfold execOp;simp only[ho,Sem.run_bind];rw[run_buildSlice W 49 2 1 _ #[A D x] i0 _ Tryz.underlying49 hi0 hz0 (by rw[hz1];omega) (by rw[hz1];omega) (by simp only[List.map_toArray,List.map_cons,List.map_nil,hx,hz1];kernel_rfl)];rfl
theorem zMb{w:World}{g:Nat}{cs:Array Value}{t:TypeId}(h:w.heap[g]?=some (cT cs t (0,0))): ∀(j:Nat) u,cs.toList[j]?=some u->w.cell? ((⟨g,0,none⟩:Addr).add j)=some u:=fun j u hj=>by
 rw[Addr.add_mid,Nat.zero_add,cell_of_row w g j cs t (0,0) h];simpa using hj
theorem Tryz.infoAsk:(Tryz.prog.info? 51).map (·.size)=some 2:=kR
theorem zH0:(∀(n:Nat)(p:Bool)(fv:Value)(bk off cap:Nat)(ws:List ByteArray)(w:World)(H:Hid (n<=ws.length/\(ws.length<=n\/p=true)/\ws.length<=cap/\n<=5))(HW:Hid (zAf w bk off ws))(hT:Tabs ex w){m:Nat}{xs:List Int}(Hm:Hid (m=n))(HN:Hid (m<=n/\xs.length=m/\(∀i,i<m->z2y (ws.getD i z2i)=some (xs.getD i 0))/\ ∀x,x∈ws->x.size<=100000))(HLN:Hid (ws.length<=100000)),Calls tP 32 #[.agg #[A D (n:Int),.bool p,fv],.slice (some ⟨bk,off,none⟩) ws.length cap] w fun e w'=> ∃a c,e= rT (.agg #[.slice a xs.length c,.string (z5b (ws.drop n) z35)])/\Below w.heap.size w w'/\z19 w' a xs/\ ∀q,a=some q->w.heap.size<=q.block)/\(∀(he: ∀w,ex.holds w->z17 w)(n:Nat)(p:Bool)(fv:Value)(bk off cap:Nat)(ws:List ByteArray)(w:World)(H:Hid (n<=ws.length/\(ws.length<=n\/p=true)/\ws.length<=cap/\n<=5))(HW:Hid (zAf w bk off ws))(hT:Tabs ex w){m:Nat}{xs:List Int}(Hm:Hid (m<n))(HNO:Hid (z2y (ws.getD m z2i)=none))(HN:Hid (m<=n/\xs.length=m/\(∀i,i<m->z2y (ws.getD i z2i)=some (xs.getD i 0))/\ ∀x,x∈ws->x.size<=100000)),Calls tP 32 #[.agg #[A D (n:Int),.bool p,fv],.slice (some ⟨bk,off,none⟩) ws.length cap] w fun e w'=>e=z2c 3/\Below w.heap.size w w'):=by
 refine⟨?_,?_⟩;intro n p fv bk off cap ws w H HW hT m xs Hm HN HLN;rotate_left;intro he n p fv bk off cap ws w H HW hT m xs Hm HNO HN;rotate_left
 all_goals
  have hF1:Fine ex w ((w.alloc (cT #[A D (n:Int),.bool p,fv] 53)).alloc (cT #[.slice none 0 0,.string ⟨#[]⟩] 51)):=((Fine.start hT).alloc _).alloc _;have hL1:((w.alloc (cT #[A D (n:Int),.bool p,fv] 53)).alloc (cT #[.slice none 0 0,.string ⟨#[]⟩] 51)).heap[w.heap.size]?=some (cT #[A D (n:Int),.bool p,fv] 53 (0,0)):=(heap_alloc_old _ _ kS).trans (heap_alloc_new w _);have hA1:((w.alloc (cT #[A D (n:Int),.bool p,fv] 53)).alloc (cT #[.slice none 0 0,.string ⟨#[]⟩] 51)).heap[w.heap.size+1]?=some (cT #[.slice none 0 0,.string ⟨#[]⟩] 51 (0,0)):=heap_alloc2_new w _ _;have hz1:((w.alloc (cT #[A D (n:Int),.bool p,fv] 53)).alloc (cT #[.slice none 0 0,.string ⟨#[]⟩] 51)).heap.size=w.heap.size+2:=by simp
  have q1: ¬((ws.length:Int)<(n:Int)):=by have:=H.out.1;omega
 all_goals
  go_enter Tryz.func32,Tryz.ntmps32;go_upto_region 1 with fail
  generalize ((w.alloc (cT #[A D (n:Int),.bool p,fv] 53)).alloc (cT #[.slice none 0 0,.string ⟨#[]⟩] 51))=w1 at hF1 hL1 hA1 hz1⊢;have l0:w1.cell? ⟨w.heap.size,0,none⟩=some (A D (n:Int)):=(cell_of_row w1 w.heap.size 0 _ _ _ hL1).trans rfl;have l1:w1.cell? ⟨w.heap.size,1,none⟩=some (.bool p):=(cell_of_row w1 w.heap.size 1 _ _ _ hL1).trans rfl;go_cut [24] (fun s24 wx=>s24= .bool false/\wx=w1)
  case first=>
   rcases H.out.2.1 with h|rfl
   ·have q2: ¬((n:Int)<(ws.length:Int)):=kO
    clear H;go_wp2_with fail;go_meet;exact⟨rfl,rfl⟩
   ·by_cases h:ws.length<=n
    ·have q2: ¬((n:Int)<(ws.length:Int)):=kO
     clear H;go_wp2_with fail;go_meet;exact⟨rfl,rfl⟩
    ·have q2:((n:Int)<(ws.length:Int)):=kO
     clear H;go_wp2_with fail;go_meet;exact⟨rfl,rfl⟩
  obtain⟨rfl,rfl⟩:=hcut;have hb5:Below w.heap.size w (wc.alloc (cT #[.slice none 0 0,.string ⟨#[]⟩] 51)):=hF1.bel.alloc hF1.bel.size _;have hL5:(wc.alloc (cT #[.slice none 0 0,.string ⟨#[]⟩] 51)).heap[w.heap.size]?=some (cT #[A D (n:Int),.bool p,fv] 53 (0,0)):=(heap_alloc_old _ _ kO).trans hL1;have HS:Hid (RdSt ex w n p fv xs (wc.alloc (cT #[.slice none 0 0,.string ⟨#[]⟩] 51)) 0):=⟨⟨.slice none 0 0,by rw[<-hz1];exact heap_alloc_new wc _,World.ownsRow_nil _ _ _ _⟩,hL5,(heap_alloc_old _ _ kO).trans hA1,hF1.alloc _⟩;have l5:(wc.alloc (cT #[.slice none 0 0,.string ⟨#[]⟩] 51)).cell? ⟨w.heap.size,0,none⟩=some (A D (n:Int)):=(cell_of_row _ w.heap.size 0 _ _ _ hL5).trans rfl;have q3:(0:Int)<=(n:Int):=kO;have q4:(n:Int)<=(cap:Int):=by have:=H.out.1;have:=H.out.2.2.1;omega
  go_upto_region 4 with fail
  generalize wc.alloc (cT #[.slice none 0 0,.string ⟨#[]⟩] 51)=w5 at HS l5⊢;clear hF1 hL1 hA1 l0 l1 hz1 hb5 hL5;go_step;refine z00 rfl (.slice (some ⟨bk,off,none⟩) ws.length cap) w5 kG ?_;simp only[pS];refine z00 rfl (pT (some ⟨w.heap.size,0,none⟩)) w5 kG ?_;simp only[pS];refine z00 rfl (A D (n:Int)) w5 kG ?_;simp only[pS];refine z00 rfl (.slice (some ⟨bk,off,none⟩) n cap) w5 kG ?_;simp only[pS];go_wp2_with fail
 ·go_loopw [31] (fun jv wr=> ∃j:Nat,jv=A D j/\j<=m/\Hid (RdSt ex w n p fv xs wr j)) (fun jv _=>n-(intOf jv).toNat)
  case atStart=>exact⟨0,rfl,Nat.zero_le _,HS.out⟩
  case round=>as_aux_lemma=>
   clear HS l5;obtain⟨j,rfl,hjm,HQ⟩:=hrel;have hj0:(0:Int)<=(j:Int):=kO
   by_cases hj:j<m
   ·skip
    have hjn':(j:Int)<(n:Int):=by have:=HN.out.1;omega
    have hn5:n<=5:=H.out.2.2.2;have hmn':=HN.out.1;obtain⟨⟨v,hbx,hrow⟩,hL,hZ,hF⟩:=HQ.out;obtain⟨va,vc,rfl⟩:=z2d hrow;have b0:wr.cell? ⟨w.heap.size+2,0,none⟩=some (.slice va j vc):=(cell_of_row _ _ 0 _ _ _ hbx).trans rfl;have hjw:j<ws.length:=by have:=HN.out.1;have:=H.out.1;omega
    have c0:=(hF.bel.cell (p:=⟨bk,off+j,none⟩) HW.out.1).trans (HW.out.2 j hjw)
    have hsx:(ws.getD j z2i).size<=100000:=by
     rw[List.getD_eq_getElem?_getD,List.getElem?_eq_getElem hjw];exact Nat.le_trans (HN.out.2.2.2 _ (List.getElem_mem hjw)) kD
    have hB5:w.heap.size+2<wr.heap.size:=(Array.getElem?_eq_some_iff.1 hbx).1;have hnum:=HN.out.2.2.1 j hj;have hj6:=zJu (xs:=xs) (j:=j) (by have:=HN.out.2.1;omega);obtain⟨x,hxe⟩: ∃x,ws.getD j z2i=x:=⟨_,rfl⟩;obtain⟨y,hye⟩: ∃y,xs.getD j 0=y:=⟨_,rfl⟩;rw[hxe]at c0 hsx hnum;rw[hye]at hnum hj6;have HNU:Hid (∀W,Below wr.heap.size wr W->zR 62 #[.string x] W (A D y)):=fun W hW=>zC0 x y W hsx (hF.call hW).tabs hnum;clear hxe hye hnum;go_upto_region 7 with fail
    refine zJk (C:=fun W=>Below wr.heap.size wr W) (n0:=wr.heap.size) 4 [] _ (cT #[A D y] 2) (fun L=> .slice (some ⟨L,0,none⟩) 1 1) kR kR rfl (fun d _ _ _ _ h=>by cases d<;>exact h) (fun W W' h hb=>h.trans (hb.mono h.size)) (fun W h=>h.size) ((bF _ _).drew) ?_;simp only[List.take_succ_cons,List.take_zero,List.drop_succ_cons,List.drop_zero,Nat.reduceAdd]
    repeat(first
     |(refine z0k kI ?_;simp only[pS])
     |(refine z09 kI (v:=?_) ?_ ?_;rotate_left;(intro w2 hC;have b2:=(hC.cell (p:=⟨w.heap.size+2,0,none⟩) hB5).trans b0;go_simp;try with_reducible rfl);simp only[pS])
     |(refine z0t kI ?_;apply Exists.intro;refine⟨fun w2 hC=>?_,?_⟩;(have b2:=(hC.cell (p:=⟨w.heap.size+2,0,none⟩) hB5).trans b0;go_simp;apply z10;first|(go_at_call 62;exact HNU.out w2 hC));simp only[pS]))
    refine z0r ?_;refine⟨⟨by rfl,fun w2 _=>zKa w2 (.tmp 38) y rfl rfl⟩,?_⟩;intro g4 hg4 w4 hC hn4;have hF4:=hF.call hC;have hrow4:=z59 hrow hC;have hbx4:=(hC.block _ hB5).trans hbx;have hL4:=(hC.block _ (Nat.lt_of_lt_of_le kO (Nat.le_of_lt hB5))).trans hL;have hZ4:=(hC.block _ (Nat.lt_of_lt_of_le kO (Nat.le_of_lt hB5))).trans hZ;have hs4:w.heap.size+3<=w4.heap.size:=by have:=hC.size;omega
    clear hC hrow hbx hL hZ b0 c0 HNU;obtain⟨i0,hi0,hz0,hz1,hz2⟩:=info_parts Tryz.infoI64;simp only[pS];refine wpList_append_own w4 rfl (.tmp 36) (.tmp 39) 49 rfl (w.heap.size+3) 2 i0 _ 1 8 Tryz.underlying49 hi0 hz0 hz1 hz2 rfl kD _ _ _ rfl hrow4 ⟨g4,0,none⟩ 1 1 [A D y] rfl rfl (zMb hn4) (by intro u hu;rw[List.mem_singleton.1 hu];rfl) (by unfold maxLen;omega) kO kO ?_;intro v8' w8 ho8 hg8 _;obtain⟨a8,c8,rfl⟩:=z2d ho8;simp only[pS];have hfr:=z77 hrow4;have hne: ∀k,k<w.heap.size+3->some k≠(Value.slice va j vc).ownBlock:=fun k hk e=>by have:=hfr k e.symm;omega
    have hk8: ∀k,k<w.heap.size+3->w8.heap[k]?=w4.heap[k]?:=fun k hk=>hg8.block k kO (hne k hk);have hbx8:=(hk8 _ kO).trans hbx4;have hL8:=(hk8 _ kO).trans hL4;have hZ8:=(hk8 _ kO).trans hZ4;have hF8:Fine ex w w8:=Fine.grown hF4 hg8 (fun k hk=>by have:=hfr k hk;omega) hT.room;have HN8:Hid (RdSt ex w n p fv xs (w8.setCell ⟨w.heap.size+2,0,none⟩ (.slice a8 (j+1) c8)) (j+1)):=RdSt.next hbx8 (by rw[hj6];exact ho8) hL8 hZ8 hF8 hT;have b8:w8.cell? ⟨w.heap.size+2,0,none⟩=some (.slice va j vc):=(cell_of_row _ _ 0 _ _ _ hbx8).trans rfl;have f8:w8.frozen? ⟨w.heap.size+2,0,none⟩=false:=zAn hbx8;clear hk8 hbx8 hL8 hZ8 hF8 ho8 hg8 hbx4 hL4 hZ4 hrow4 hF4 hfr hne HQ;go_wp2_with fail;exact⟨⟨j+1,z78 j,by omega,HN8.out⟩,by show n-((j:Int)+1).toNat<n-(j:Int).toNat;have:=HN.out.1;omega⟩
   ·have hmn:m=n:=Hm.out
    have hjn': ¬((j:Int)<(n:Int)):=kO;obtain rfl:j=n:=by omega
    obtain⟨⟨v,hbx,hrow⟩,hL,hZ,hF⟩:=HQ.out;obtain⟨va,vc,rfl⟩:=z2d hrow;obtain rfl:xs.length=j:=HN.out.2.1.trans hmn;rw[List.take_of_length_le (Nat.le_refl _)]at hrow;have l0:wr.cell? ⟨w.heap.size,0,none⟩=some (A D (xs.length:Int)):=(cell_of_row _ _ 0 _ _ _ hL).trans rfl;have hB5:w.heap.size+2<wr.heap.size:=(Array.getElem?_eq_some_iff.1 hbx).1
    have hJ:zR 45 #[.slice (some ⟨bk,(if xs.length=cap then off else off+xs.length),none⟩) (ws.length-xs.length) (cap-xs.length),.string z35] wr (.string (z5b (ws.drop xs.length) z35)):=by
     have hdl:(ws.drop xs.length).length=ws.length-xs.length:=List.length_drop
     by_cases hd:ws.length-xs.length=0
     ·have e:ws.drop xs.length=[]:=List.eq_nil_of_length_eq_zero kO
      rw[e,hd];exact(Tryz.strings_Join_none _ _ _ _).mono fun e w' ⟨h1,h2⟩=>⟨h1,by rw[h2];exact bF _ _⟩
     ·have hc:=H.out.2.2.1
      rw[if_neg kO, <-hdl];have hjl:=z6b (ws.drop xs.length) z35 100000 kD fun x hx=>HN.out.2.2.2 x (List.mem_of_mem_drop hx);have h3:=HLN.out;refine Tryz.strings_Join bk (off+xs.length) (cap-xs.length) (ws.drop xs.length) z35 wr (fun i x hi=>?_) (Nat.lt_of_lt_of_le HW.out.1 hF.bel.size) kO kO kO;rw[List.getElem?_drop]at hi;have hil:=(List.getElem?_eq_some_iff.1 hi).1;have:=(hF.bel.cell (p:=⟨bk,off+(xs.length+i),none⟩) HW.out.1).trans (HW.out.2 (xs.length+i) hil);rw[List.getD_eq_getElem?_getD,hi]at this;rw[Nat.add_assoc];exact this
    obtain⟨jb,HJB⟩: ∃jb,Hid (z5b (ws.drop xs.length) z35=jb):=⟨_,rfl⟩;obtain⟨of2,HOF⟩: ∃o,Hid ((if xs.length=cap then off else off+xs.length)=o):=⟨_,rfl⟩;rw[HJB.out,HOF.out]at hJ;go_upto_region 9 with fail
    go_step;refine z00 rfl (.slice (some ⟨bk,off,none⟩) ws.length cap) wr kG ?_;simp only[pS];refine z00 rfl (pT (some ⟨w.heap.size,0,none⟩)) wr kG ?_;simp only[pS];refine z00 rfl (A D (xs.length:Int)) wr kG ?_;simp only[pS];refine z00 rfl (.slice (some ⟨bk,of2,none⟩) (ws.length-xs.length) (cap-xs.length)) wr (by rw[<-HOF.out];exact zI3 wr bk off xs.length ws.length cap (.tmp 43) (.tmp 45) rfl rfl rfl H.out.1 H.out.2.2.1) ?_;simp only[pS];refine z0c rfl 45 #[.slice (some ⟨bk,of2,none⟩) (ws.length-xs.length) (cap-xs.length),.string z35] kG (.string jb) hJ ?_;intro w6 hb6;simp only[pS];have hbx6:=(hb6.block _ hB5).trans hbx;have hZ6:=(hb6.block _ (Nat.lt_of_lt_of_le kO (Nat.le_of_lt hB5))).trans hZ;have hrow6:=z59 hrow hb6;have hF6:=hF.call hb6;clear hbx hZ hL hrow hF hJ l0 HQ hb6;refine z00 rfl (pT (some ⟨w.heap.size+2,1,none⟩)) w6 kG ?_;simp only[pS];have c6:w6.cell? ⟨w.heap.size+2,1,none⟩=some (.string ⟨#[]⟩):=(cell_of_row _ _ 1 _ _ _ hbx6).trans rfl;have f6:w6.frozen? ⟨w.heap.size+2,1,none⟩=false:=zAn hbx6;have hbx7:=zSd (v:= .string jb) hbx6;have hZ7:=(Below.heap_setCell w6 ⟨w.heap.size+2,1,none⟩ (.string jb) (w.heap.size+1) (by show w.heap.size+1≠w.heap.size+2;omega)).trans hZ6;have hrow7:=ownsRow_setCell_below hrow6 (a:=⟨w.heap.size+2,1,none⟩) (by show w.heap.size+2<w.heap.size+3;omega) (.string jb);have hB7:Below w.heap.size w (w6.setCell ⟨w.heap.size+2,1,none⟩ (.string jb)):=hF6.bel.setCell (by show w.heap.size<=w.heap.size+2;omega) _;clear hbx6 hZ6 hrow6 hF6;go_upto_region 10 with fail
    generalize w6.setCell ⟨w.heap.size+2,1,none⟩ (.string jb)=w7 at hbx7 hZ7 hrow7 hB7⊢;go_step;refine wpList_load_row rfl 51 (.tmp 5) rfl (w.heap.size+2) rfl 51 #[.slice va xs.length vc,.string jb] (0,0) _ hbx7 Tryz.underlying51 rfl Tryz.infoAsk ?_;simp only[pS];refine wpList_store_row rfl 51 (.tmp 4) (.tmp 49) rfl (w.heap.size+1) #[.slice va xs.length vc,.string jb] rfl rfl 51 _ hZ7 Tryz.infoAsk rfl kR ?_;simp only[pS];have hg8:=setRow_heap _ _ _ #[.slice va xs.length vc,.string jb] _ _ hZ7;have hrow8:(w7.setRow (w.heap.size+1) #[.slice va xs.length vc,.string jb]).ownsRow (w.heap.size+3) 2 1 (.slice va xs.length vc) xs.length (xs.map (Value.int .i64)):=zSs hrow7 kO _;have hB8:=z25 hB7 (show w.heap.size<=w.heap.size+1 by omega) #[.slice va xs.length vc,.string jb];generalize w7.setRow (w.heap.size+1) #[.slice va xs.length vc,.string jb]=w8 at hg8 hrow8 hB8⊢;clear hbx7 hZ7 hrow7 hB7;go_wp2_with fail;have hl:=run_loadVar_row (P:=tP) w8 (w.heap.size+1) 51 51 #[.slice va xs.length vc,.string jb] (0,0) _ hg8 Tryz.underlying51 rfl Tryz.infoAsk;refine bodyPost_ret (v:= .agg #[.slice va xs.length vc,.string jb]) (by simp[results,Tryz.results32,asAddr,hl]) rfl ⟨va,⟨vc,by rw[HJB.out]⟩,hB8,zIg hrow8,fun q hq=>?_⟩;rcases rowShape hrow8 with⟨e1, -⟩|⟨g,c',e1⟩
    ·injection e1 with e1 _ _
     rw[e1]at hq
     cases hq
    ·injection e1 with e1 _ _
     subst e1;obtain rfl:=Option.some.inj hq;have:=(World.ownsRow.lt hrow8 g rfl).1;show w.heap.size<=g;omega
 ·go_loopw [31] (fun jv wr=> ∃j:Nat,jv=A D j/\j<=m/\Hid (RdSt ex w n p fv xs wr j)) (fun jv _=>n-(intOf jv).toNat)
  case atStart=>exact⟨0,rfl,Nat.zero_le _,HS.out⟩
  case round=>as_aux_lemma=>
   clear HS l5;obtain⟨j,rfl,hjm,HQ⟩:=hrel;have hj0:(0:Int)<=(j:Int):=kO;have hmlt:m<n:=Hm.out;have hjn2:j<n:=kO;have hjn':(j:Int)<(n:Int):=by have:=HN.out.1;omega
   have hn5:n<=5:=H.out.2.2.2;have hmn':=HN.out.1;obtain⟨⟨v,hbx,hrow⟩,hL,hZ,hF⟩:=HQ.out;obtain⟨va,vc,rfl⟩:=z2d hrow;have b0:wr.cell? ⟨w.heap.size+2,0,none⟩=some (.slice va j vc):=(cell_of_row _ _ 0 _ _ _ hbx).trans rfl;have hjw:j<ws.length:=by have:=HN.out.1;have:=H.out.1;omega
   have c0:=(hF.bel.cell (p:=⟨bk,off+j,none⟩) HW.out.1).trans (HW.out.2 j hjw)
   have hsx:(ws.getD j z2i).size<=100000:=by
    rw[List.getD_eq_getElem?_getD,List.getElem?_eq_getElem hjw];exact Nat.le_trans (HN.out.2.2.2 _ (List.getElem_mem hjw)) kD
   have hB5:w.heap.size+2<wr.heap.size:=(Array.getElem?_eq_some_iff.1 hbx).1
   by_cases hj:j<m
   ·skip
    have hnum:=HN.out.2.2.1 j hj;have hj6:=zJu (xs:=xs) (j:=j) (by have:=HN.out.2.1;omega);obtain⟨x,hxe⟩: ∃x,ws.getD j z2i=x:=⟨_,rfl⟩;obtain⟨y,hye⟩: ∃y,xs.getD j 0=y:=⟨_,rfl⟩;rw[hxe]at c0 hsx hnum;rw[hye]at hnum hj6;have HNU:Hid (∀W,Below wr.heap.size wr W->zR 62 #[.string x] W (A D y)):=fun W hW=>zC0 x y W hsx (hF.call hW).tabs hnum;clear hxe hye hnum;go_upto_region 7 with fail
    refine zJk (C:=fun W=>Below wr.heap.size wr W) (n0:=wr.heap.size) 4 [] _ (cT #[A D y] 2) (fun L=> .slice (some ⟨L,0,none⟩) 1 1) kR kR rfl (fun d _ _ _ _ h=>by cases d<;>exact h) (fun W W' h hb=>h.trans (hb.mono h.size)) (fun W h=>h.size) ((bF _ _).drew) ?_;simp only[List.take_succ_cons,List.take_zero,List.drop_succ_cons,List.drop_zero,Nat.reduceAdd]
    repeat(first
     |(refine z0k kI ?_;simp only[pS])
     |(refine z09 kI (v:=?_) ?_ ?_;rotate_left;(intro w2 hC;have b2:=(hC.cell (p:=⟨w.heap.size+2,0,none⟩) hB5).trans b0;go_simp;try with_reducible rfl);simp only[pS])
     |(refine z0t kI ?_;apply Exists.intro;refine⟨fun w2 hC=>?_,?_⟩;(have b2:=(hC.cell (p:=⟨w.heap.size+2,0,none⟩) hB5).trans b0;go_simp;apply z10;first|(go_at_call 62;exact HNU.out w2 hC));simp only[pS]))
    refine z0r ?_;refine⟨⟨by rfl,fun w2 _=>zKa w2 (.tmp 38) y rfl rfl⟩,?_⟩;intro g4 hg4 w4 hC hn4;have hF4:=hF.call hC;have hrow4:=z59 hrow hC;have hbx4:=(hC.block _ hB5).trans hbx;have hL4:=(hC.block _ (Nat.lt_of_lt_of_le kO (Nat.le_of_lt hB5))).trans hL;have hZ4:=(hC.block _ (Nat.lt_of_lt_of_le kO (Nat.le_of_lt hB5))).trans hZ;have hs4:w.heap.size+3<=w4.heap.size:=by have:=hC.size;omega
    clear hC hrow hbx hL hZ b0 c0 HNU;obtain⟨i0,hi0,hz0,hz1,hz2⟩:=info_parts Tryz.infoI64;simp only[pS];refine wpList_append_own w4 rfl (.tmp 36) (.tmp 39) 49 rfl (w.heap.size+3) 2 i0 _ 1 8 Tryz.underlying49 hi0 hz0 hz1 hz2 rfl kD _ _ _ rfl hrow4 ⟨g4,0,none⟩ 1 1 [A D y] rfl rfl (zMb hn4) (by intro u hu;rw[List.mem_singleton.1 hu];rfl) (by unfold maxLen;omega) kO kO ?_;intro v8' w8 ho8 hg8 _;obtain⟨a8,c8,rfl⟩:=z2d ho8;simp only[pS];have hfr:=z77 hrow4;have hne: ∀k,k<w.heap.size+3->some k≠(Value.slice va j vc).ownBlock:=fun k hk e=>by have:=hfr k e.symm;omega
    have hk8: ∀k,k<w.heap.size+3->w8.heap[k]?=w4.heap[k]?:=fun k hk=>hg8.block k kO (hne k hk);have hbx8:=(hk8 _ kO).trans hbx4;have hL8:=(hk8 _ kO).trans hL4;have hZ8:=(hk8 _ kO).trans hZ4;have hF8:Fine ex w w8:=Fine.grown hF4 hg8 (fun k hk=>by have:=hfr k hk;omega) hT.room;have HN8:Hid (RdSt ex w n p fv xs (w8.setCell ⟨w.heap.size+2,0,none⟩ (.slice a8 (j+1) c8)) (j+1)):=RdSt.next hbx8 (by rw[hj6];exact ho8) hL8 hZ8 hF8 hT;have b8:w8.cell? ⟨w.heap.size+2,0,none⟩=some (.slice va j vc):=(cell_of_row _ _ 0 _ _ _ hbx8).trans rfl;have f8:w8.frozen? ⟨w.heap.size+2,0,none⟩=false:=zAn hbx8;clear hk8 hbx8 hL8 hZ8 hF8 ho8 hg8 hbx4 hL4 hZ4 hrow4 hF4 hfr hne HQ;go_wp2_with fail;exact⟨⟨j+1,z78 j,by omega,HN8.out⟩,by show n-((j:Int)+1).toNat<n-(j:Int).toNat;have:=HN.out.1;omega⟩
   ·skip
    have hje:j=m:=kO;subst hje;have hno:=HNO.out;obtain⟨x,hxe⟩: ∃x,ws.getD j z2i=x:=⟨_,rfl⟩;rw[hxe]at c0 hsx hno;clear hxe;go_upto_region 7 with fail
    refine wp_region_held_drew (S:=fun W=>Below wr.heap.size wr W) kR ((bF _ _).drew) fun hS=>?_;change wpAnyH _ _ _ _ _ 8 (Array.replicate 8 false) _ _
    refine tkH (i:=0) (some 35) (pT (some ⟨w.heap.size+2,0,none⟩)) rfl rfl (fun _ _=>kG) hS ?_;simp only[pS];refine tkH (i:=1) (some 36) (.slice va j vc) rfl rfl (fun W hC=>by have b2:=(hC.cell (p:=⟨w.heap.size+2,0,none⟩) hB5).trans b0;go_simp;first|done|rfl) hS ?_;simp only[pS];refine tkH (i:=2) (some 37) (.string x) rfl rfl (fun _ _=>kG) hS ?_;simp only[pS];refine wpAnyH_ready (rs:=[3]) kR kS ?_;refine z8t 62 #[.string x] rfl kI kG ((zM3 he x _ hsx (hF.call hS).tabs hno).mono ?_) AllReadyH.nil;rintro e w9 ⟨rfl,hb9⟩;exact⟨_,rfl,rfl,rfl,(hF.call (hS.trans (hb9.mono hS.size))).bel⟩
def z8i:=(@zH0 ex).1
def zXf:=(@zH0 ex).2
end
end Go.Proofs.YtkdflpplamebkaaGreatDoor
