/-
A part of the proof of DeskPieces; its card says what is proved.
-/
import Derived.Test.YtkdflpplamebkaaGreatDoorJp11
set_option maxHeartbeats 40000000
open Go.Value renaming int → A
open Go.IntKind renaming i64 → C
open Go.RowKit.Below renaming alloc → bA, setCell → bS, drew → bD, refl → bF
set_option maxRecDepth 1000000
set_option linter.defProp false
set_option linter.unusedVariables false
set_option linter.unusedSimpArgs false
open Go.Ending renaming returned → rT
open Go.Value renaming pointer → pT
open Go.Obj renaming cells → cT
open Go.Proofs.Tryz renaming prog → tP
namespace Go.Proofs.YtkdflpplamebkaaGreatDoor
open Go.ChangeShapes Go.WideShapes Go.ChangeAt Go.RowKit
attribute [local simp] z05 z0a z06
theorem q70(B d s:Nat)(c o n:Int)(r:Bool)(m:Mac)(hd:d<11)(hs:s<11)(ak an ac bk bn bc:Int)(HA:Hid (m.reg d=⟨ak,an,ac⟩))(HB:Hid (m.second s r n=⟨bk,bn,bc⟩))(w:World)(hM:z0b w B m):
  zR 151 #[pT (some ⟨B,0,none⟩),.agg #[A C c,A C d,A C s,.bool r,A C o,A C n]] w (.tuple #[A C (askF c ⟨ak,an,ac⟩ ⟨bk,bn,bc⟩ r o n).1,A C (askF c ⟨ak,an,ac⟩ ⟨bk,bn,bc⟩ r o n).2]):=by
 have hB:=hM.lt;have hF0:Frm w.heap.size B c d s r o n m _:=Frm.start hM;obtain⟨p0,p1,p2,p3,p4,p5⟩:=hF0.cells;obtain⟨h0,h1,h2⟩:=hF0.mac.reg hd;rw[HA.out]at h0 h1 h2;have hd0:(0:Int)<=(d:Int):=kO;have hd1:(d:Int)<11:=kO;go_enter Tryz.func151,Tryz.ntmps151;go_wp2_with fail;go_cut [6,7] (fun s6 s7 wx=> ∃L K:Nat,s6= pT (some ⟨L,0,none⟩)/\s7= pT (some ⟨K,0,none⟩)/\Below w.heap.size w wx/\Frm w.heap.size B c d s r o n m wx/\L<wx.heap.size/\K<wx.heap.size/\wx.cell? ⟨L,0,none⟩=some (A C ak)/\wx.cell? ⟨L,1,none⟩=some (A C an)/\wx.cell? ⟨L,2,none⟩=some (A C ac)/\wx.cell? ⟨K,0,none⟩=some (A C bk)/\wx.cell? ⟨K,1,none⟩=some (A C bn)/\wx.cell? ⟨K,2,none⟩=some (A C bc))
 case first=>
  go_region_held3 (fun w'=>w'.cell? ⟨w.heap.size,0,none⟩=some (A C c)/\w'.cell? ⟨w.heap.size,1,none⟩=some (A C d)/\w'.cell? ⟨w.heap.size,2,none⟩=some (A C s)/\w'.cell? ⟨w.heap.size,3,none⟩=some (.bool r)/\w'.cell? ⟨w.heap.size,4,none⟩=some (A C o)/\w'.cell? ⟨w.heap.size,5,none⟩=some (A C n)/\w'.cell? ⟨B,2+d*3,none⟩=some (A C ak)/\w'.cell? ⟨B,2+d*3+1,none⟩=some (A C an)/\w'.cell? ⟨B,2+d*3+2,none⟩=some (A C ac)) (first|(simp[go_sem];done)|(simp[go_sem, *];done)|go_keep) (first
   |(go_at_call 186;refine(z8c B s c d o n r m hs _ (Frm.mac (S:=w.heap.size) (c:=c) (d:=d) (s:=s) (r:=r) (o:=o) (n:=n) kF)).mono ?_;rintro e w1 ⟨rfl,hb1⟩;rw[HB.out];simp only[Val.v];have hF1:Frm w.heap.size B c d s r o n m w1:=Frm.later kF hb1;have hbw1:Below w.heap.size w w1:=kT hb1;obtain⟨v0,v1,v2,v3,v4,v5⟩:=hF1.cells;obtain⟨i0,i1,i2⟩:=hF1.mac.reg hd;rw[HA.out]at i0 i1 i2;have hS1:=hF1.ltS;have hB1:=hF1.mac.lt;have v6:=z1g hb1 (w.heap.size+1);(try simp[go_sem]at v6);have v7:=z1g hb1 (w.heap.size+1+1);(try simp[go_sem]at v7)))
  all_goals(go_wp2_with fail;go_meet)
  all_goals refine⟨_,_,rfl,rfl,?_,?_,?_,?_,?_,?_,?_,?_,?_,?_⟩
  all_goals clear HA HB p0 p1 p2 p3 p4 p5 h0 h1 h2 hF0
  all_goals first
   |(with_reducible refine bA ?_ ?_ _;(repeat' first|with_reducible assumption|with_reducible(first|refine bA ?_ ?_ _|refine bS ?_ ?_ _)|((try dsimp only);omega)|(simp;done)|(simp;omega));done)
   |(with_reducible refine bS ?_ ?_ _;(repeat' first|with_reducible assumption|with_reducible(first|refine bA ?_ ?_ _|refine bS ?_ ?_ _)|((try dsimp only);omega)|(simp;done)|(simp;omega));done)
   |(with_reducible refine Frm.alloc ?_ _;(repeat' first|with_reducible assumption|with_reducible(first|refine Frm.alloc ?_ _|refine Frm.set ?_ _ _ ?_ ?_)|((try dsimp only);omega)|(simp;done)|(simp;omega));done)
   |(with_reducible refine Frm.set ?_ _ _ ?_ ?_;(repeat' first|with_reducible assumption|with_reducible(first|refine Frm.alloc ?_ _|refine Frm.set ?_ _ _ ?_ ?_)|((try dsimp only);omega)|(simp;done)|(simp;omega));done)
   |(simp;done)|(simp;omega)|(simp[go_sem];done)|(simp[go_sem,v6];done)|(simp[go_sem,v7];done)|(simp[go_sem, *];done)
 obtain⟨L,K,rfl,rfl,hbw,hFx,hL,hK,l0,l1,l2,g0,g1,g2⟩:=hcut;obtain⟨v0,v1,v2,v3,v4,v5⟩:=hFx.cells;have hSx:=hFx.ltS;clear p0 p1 p2 p3 p4 p5 h0 h1 h2 hF0 hFx HA HB hM
 by_cases ha:ak=0
 ·have x0:(ak==0)=true:=kZ
  have HV:Hid (askF c ⟨ak,an,ac⟩ ⟨bk,bn,bc⟩ r o n=(0,8)):=by
   show askF c ⟨ak,an,ac⟩ ⟨bk,bn,bc⟩ r o n=(0,8);exact askF_a ha
  clear ha;go_wp2
  all_goals go_ret2
  all_goals exact⟨by rw[HV.out];rfl,hbw⟩
 by_cases hb:bk=0
 ·have x0:(ak==0)=false:=kZ
  have x1:(bk==0)=true:=kZ
  have HV:Hid (askF c ⟨ak,an,ac⟩ ⟨bk,bn,bc⟩ r o n=(0,8)):=by
   show askF c ⟨ak,an,ac⟩ ⟨bk,bn,bc⟩ r o n=(0,8);exact askF_b hb
  clear ha hb;go_wp2
  all_goals go_ret2
  all_goals exact⟨by rw[HV.out];rfl,hbw⟩
 by_cases ha1:ak=1
 ·by_cases hb1:bk=1
  ·cases hi:isV c an bn
   ·skip
    have x0:(ak==0)=false:=kZ;have x1:(bk==0)=false:=kZ;have x2:(ak==1)=true:=kZ;have x3:(bk==1)=true:=kZ
    have HV:Hid (askF c ⟨ak,an,ac⟩ ⟨bk,bn,bc⟩ r o n=(0,0)):=by
     show askF c ⟨ak,an,ac⟩ ⟨bk,bn,bc⟩ r o n=(0,0);exact q3j ha1 hb1 hi
    have HI:Hid (isV c an bn=_):=hi;clear ha hb ha1 hb1 hi;go_wp2_with(first|(go_at_call 187;refine(zL4 _ _ _ _).mono ?_;rintro e w1 ⟨rfl,rfl⟩;rw[HI.out])|go_in)
    all_goals go_ret2
    all_goals exact⟨by rw[HV.out];rfl,hbw⟩
   ·skip
    have x0:(ak==0)=false:=kZ;have x1:(bk==0)=false:=kZ;have x2:(ak==1)=true:=kZ;have x3:(bk==1)=true:=kZ
    have HV:Hid (askF c ⟨ak,an,ac⟩ ⟨bk,bn,bc⟩ r o n=(o,0)):=by
     show askF c ⟨ak,an,ac⟩ ⟨bk,bn,bc⟩ r o n=(o,0);exact q72 ha1 hb1 hi
    have HI:Hid (isV c an bn=_):=hi;clear ha hb ha1 hb1 hi;go_wp2_with(first|(go_at_call 187;refine(zL4 _ _ _ _).mono ?_;rintro e w1 ⟨rfl,rfl⟩;rw[HI.out])|go_in)
    all_goals go_ret2
    all_goals exact⟨by rw[HV.out];rfl,hbw⟩
  ·skip
   by_cases hj:c=15
   ·cases r
    ·by_cases hn:n=0
     ·skip
      have x0:(ak==0)=false:=kZ;have x1:(bk==0)=false:=kZ;have x2:(ak==1)=true:=kZ;have x3:(bk==1)=false:=kZ;have x4:(c !=15)=false:=kZ;have x5:(c==16)=false:=kZ;have x6:(n !=0)=false:=kZ
      have HV:Hid (askF c ⟨ak,an,ac⟩ ⟨bk,bn,bc⟩ false o n=(0,0)):=by
       show askF c ⟨ak,an,ac⟩ ⟨bk,bn,bc⟩ false o n=(0,0);exact q04 ha hb kO hj hn
      clear ha ha1 hb hb1 hj hn;go_wp2
      all_goals go_ret2
      all_goals exact⟨by rw[HV.out];rfl,hbw⟩
     ·skip
      have x0:(ak==0)=false:=kZ;have x1:(bk==0)=false:=kZ;have x2:(ak==1)=true:=kZ;have x3:(bk==1)=false:=kZ;have x4:(c !=15)=false:=kZ;have x5:(n !=0)=true:=kZ
      have HV:Hid (askF c ⟨ak,an,ac⟩ ⟨bk,bn,bc⟩ false o n=(0,1)):=by
       show askF c ⟨ak,an,ac⟩ ⟨bk,bn,bc⟩ false o n=(0,1);exact z52 ha hb kO (Or.inr (Or.inr hn))
      clear ha ha1 hb hb1 hj hn;go_wp2
      all_goals go_ret2
      all_goals exact⟨by rw[HV.out];rfl,hbw⟩
    ·skip
     have x0:(ak==0)=false:=kZ;have x1:(bk==0)=false:=kZ;have x2:(ak==1)=true:=kZ;have x3:(bk==1)=false:=kZ;have x4:(c !=15)=false:=kZ
     have HV:Hid (askF c ⟨ak,an,ac⟩ ⟨bk,bn,bc⟩ true o n=(0,1)):=by
      show askF c ⟨ak,an,ac⟩ ⟨bk,bn,bc⟩ true o n=(0,1);exact z52 ha hb kO (Or.inr (Or.inl rfl))
     clear ha ha1 hb hb1 hj;go_wp2
     all_goals go_ret2
     all_goals exact⟨by rw[HV.out];rfl,hbw⟩
   ·by_cases hk:c=16
    ·cases r
     ·by_cases hn:n=0
      ·skip
       have x0:(ak==0)=false:=kZ;have x1:(bk==0)=false:=kZ;have x2:(ak==1)=true:=kZ;have x3:(bk==1)=false:=kZ;have x4:(c !=15)=true:=kZ;have x5:(c !=16)=false:=kZ;have x6:(c==16)=true:=kZ;have x7:(n !=0)=false:=kZ
       have HV:Hid (askF c ⟨ak,an,ac⟩ ⟨bk,bn,bc⟩ false o n=(o,0)):=by
        show askF c ⟨ak,an,ac⟩ ⟨bk,bn,bc⟩ false o n=(o,0);exact q03 ha hb kO hk hn
       clear ha ha1 hb hb1 hj hk hn;go_wp2
       all_goals go_ret2
       all_goals exact⟨by rw[HV.out];rfl,hbw⟩
      ·skip
       have x0:(ak==0)=false:=kZ;have x1:(bk==0)=false:=kZ;have x2:(ak==1)=true:=kZ;have x3:(bk==1)=false:=kZ;have x4:(c !=15)=true:=kZ;have x5:(c !=16)=false:=kZ;have x6:(n !=0)=true:=kZ
       have HV:Hid (askF c ⟨ak,an,ac⟩ ⟨bk,bn,bc⟩ false o n=(0,1)):=by
        show askF c ⟨ak,an,ac⟩ ⟨bk,bn,bc⟩ false o n=(0,1);exact z52 ha hb kO (Or.inr (Or.inr hn))
       clear ha ha1 hb hb1 hj hk hn;go_wp2
       all_goals go_ret2
       all_goals exact⟨by rw[HV.out];rfl,hbw⟩
     ·skip
      have x0:(ak==0)=false:=kZ;have x1:(bk==0)=false:=kZ;have x2:(ak==1)=true:=kZ;have x3:(bk==1)=false:=kZ;have x4:(c !=15)=true:=kZ;have x5:(c !=16)=false:=kZ
      have HV:Hid (askF c ⟨ak,an,ac⟩ ⟨bk,bn,bc⟩ true o n=(0,1)):=by
       show askF c ⟨ak,an,ac⟩ ⟨bk,bn,bc⟩ true o n=(0,1);exact z52 ha hb kO (Or.inr (Or.inl rfl))
      clear ha ha1 hb hb1 hj hk;go_wp2
      all_goals go_ret2
      all_goals exact⟨by rw[HV.out];rfl,hbw⟩
    ·skip
     have x0:(ak==0)=false:=kZ;have x1:(bk==0)=false:=kZ;have x2:(ak==1)=true:=kZ;have x3:(bk==1)=false:=kZ;have x4:(c !=15)=true:=kZ;have x5:(c !=16)=true:=kZ
     have HV:Hid (askF c ⟨ak,an,ac⟩ ⟨bk,bn,bc⟩ r o n=(0,1)):=by
      show askF c ⟨ak,an,ac⟩ ⟨bk,bn,bc⟩ r o n=(0,1);exact z52 ha hb kO (Or.inl ⟨hj,hk⟩)
     clear ha ha1 hb hb1 hj hk;go_wp2
     all_goals go_ret2
     all_goals exact⟨by rw[HV.out];rfl,hbw⟩
 skip
 by_cases hj:c=15
 ·cases r
  ·by_cases hn:n=0
   ·skip
    have x0:(ak==0)=false:=kZ;have x1:(bk==0)=false:=kZ;have x2:(ak==1)=false:=kZ;have x3:(c !=15)=false:=kZ;have x4:(c==16)=false:=kZ;have x5:(n !=0)=false:=kZ
    have HV:Hid (askF c ⟨ak,an,ac⟩ ⟨bk,bn,bc⟩ false o n=(0,0)):=by
     show askF c ⟨ak,an,ac⟩ ⟨bk,bn,bc⟩ false o n=(0,0);exact q04 ha hb kO hj hn
    clear ha ha1 hb hj hn;go_wp2
    all_goals go_ret2
    all_goals exact⟨by rw[HV.out];rfl,hbw⟩
   ·skip
    have x0:(ak==0)=false:=kZ;have x1:(bk==0)=false:=kZ;have x2:(ak==1)=false:=kZ;have x3:(c !=15)=false:=kZ;have x4:(n !=0)=true:=kZ
    have HV:Hid (askF c ⟨ak,an,ac⟩ ⟨bk,bn,bc⟩ false o n=(0,1)):=by
     show askF c ⟨ak,an,ac⟩ ⟨bk,bn,bc⟩ false o n=(0,1);exact z52 ha hb kO (Or.inr (Or.inr hn))
    clear ha ha1 hb hj hn;go_wp2
    all_goals go_ret2
    all_goals exact⟨by rw[HV.out];rfl,hbw⟩
  ·skip
   have x0:(ak==0)=false:=kZ;have x1:(bk==0)=false:=kZ;have x2:(ak==1)=false:=kZ;have x3:(c !=15)=false:=kZ
   have HV:Hid (askF c ⟨ak,an,ac⟩ ⟨bk,bn,bc⟩ true o n=(0,1)):=by
    show askF c ⟨ak,an,ac⟩ ⟨bk,bn,bc⟩ true o n=(0,1);exact z52 ha hb kO (Or.inr (Or.inl rfl))
   clear ha ha1 hb hj;go_wp2
   all_goals go_ret2
   all_goals exact⟨by rw[HV.out];rfl,hbw⟩
 by_cases hk:c=16
 ·cases r
  ·by_cases hn:n=0
   ·skip
    have x0:(ak==0)=false:=kZ;have x1:(bk==0)=false:=kZ;have x2:(ak==1)=false:=kZ;have x3:(c !=15)=true:=kZ;have x4:(c !=16)=false:=kZ;have x5:(c==16)=true:=kZ;have x6:(n !=0)=false:=kZ
    have HV:Hid (askF c ⟨ak,an,ac⟩ ⟨bk,bn,bc⟩ false o n=(o,0)):=by
     show askF c ⟨ak,an,ac⟩ ⟨bk,bn,bc⟩ false o n=(o,0);exact q03 ha hb kO hk hn
    clear ha ha1 hb hj hk hn;go_wp2
    all_goals go_ret2
    all_goals exact⟨by rw[HV.out];rfl,hbw⟩
   ·skip
    have x0:(ak==0)=false:=kZ;have x1:(bk==0)=false:=kZ;have x2:(ak==1)=false:=kZ;have x3:(c !=15)=true:=kZ;have x4:(c !=16)=false:=kZ;have x5:(n !=0)=true:=kZ
    have HV:Hid (askF c ⟨ak,an,ac⟩ ⟨bk,bn,bc⟩ false o n=(0,1)):=by
     show askF c ⟨ak,an,ac⟩ ⟨bk,bn,bc⟩ false o n=(0,1);exact z52 ha hb kO (Or.inr (Or.inr hn))
    clear ha ha1 hb hj hk hn;go_wp2
    all_goals go_ret2
    all_goals exact⟨by rw[HV.out];rfl,hbw⟩
  ·skip
   have x0:(ak==0)=false:=kZ;have x1:(bk==0)=false:=kZ;have x2:(ak==1)=false:=kZ;have x3:(c !=15)=true:=kZ;have x4:(c !=16)=false:=kZ
   have HV:Hid (askF c ⟨ak,an,ac⟩ ⟨bk,bn,bc⟩ true o n=(0,1)):=by
    show askF c ⟨ak,an,ac⟩ ⟨bk,bn,bc⟩ true o n=(0,1);exact z52 ha hb kO (Or.inr (Or.inl rfl))
   clear ha ha1 hb hj hk;go_wp2
   all_goals go_ret2
   all_goals exact⟨by rw[HV.out];rfl,hbw⟩
 skip;have x0:(ak==0)=false:=kZ;have x1:(bk==0)=false:=kZ;have x2:(ak==1)=false:=kZ;have x3:(c !=15)=true:=kZ;have x4:(c !=16)=true:=kZ
 have HV:Hid (askF c ⟨ak,an,ac⟩ ⟨bk,bn,bc⟩ r o n=(0,1)):=by
  show askF c ⟨ak,an,ac⟩ ⟨bk,bn,bc⟩ r o n=(0,1);exact z52 ha hb kO (Or.inl ⟨hj,hk⟩)
 clear ha ha1 hb hj hk;go_wp2
 all_goals go_ret2
 all_goals exact⟨by rw[HV.out];rfl,hbw⟩
theorem q5q(B d s:Nat)(c o n:Int)(r:Bool)(m:Mac)(hd:d<11)(hs:s<11)(fk fn fc:Int)(HA:Hid (m.reg s=⟨fk,fn,fc⟩))(t E:Int)(HR:Hid (z1e ⟨fk,fn,fc⟩ o=(t,E)))(hE:(E !=0)=true)(w:World)(hM:z0b w B m):
  zR 152 #[pT (some ⟨B,0,none⟩),.agg #[A C c,A C d,A C s,.bool r,A C o,A C n]] w (A C E):=by
 have hB:=hM.lt;have hF0:Frm w.heap.size B c d s r o n m _:=Frm.start hM;obtain⟨p0,p1,p2,p3,p4,p5⟩:=hF0.cells;obtain⟨h0,h1,h2⟩:=hF0.mac.reg hs;rw[HA.out]at h0 h1 h2;have hs0:(0:Int)<=(s:Int):=kO;have hs1:(s:Int)<11:=kO;have hd0:(0:Int)<=(d:Int):=kO;have hd1:(d:Int)<11:=kO;go_enter Tryz.func152,Tryz.ntmps152;go_wp2_with fail;go_region
 all_goals go_wp2_with(first
  |(go_at_call 188;refine(z55 ⟨fk,fn,fc⟩ o _).mono ?_;rintro e w1 ⟨rfl,hb1⟩;rw[HR.out];have hF1:Frm w.heap.size B c d s r o n m w1:=Frm.later kF hb1;have hbw:Below w.heap.size w w1:=kT hb1;obtain⟨v0,v1,v2,v3,v4,v5⟩:=hF1.cells;have v6:=z1g hb1 (w.heap.size+1);(try simp[go_sem]at v6);have hS1:=hF1.ltS;have hB1:=hF1.mac.lt;have hne:B≠w1.heap.size:=kO;have hne2:w.heap.size≠w1.heap.size:=kO)
  |go_in)
 all_goals go_ret
 all_goals exact⟨rfl,hbw⟩
theorem zXh(B d s t:Nat)(c o n:Int)(r:Bool)(m:Mac)(hd:d<11)(hs:s<11)(fk fn fc:Int)(HA:Hid (m.reg s=⟨fk,fn,fc⟩))(ht:t<8)(HR:Hid (z1e ⟨fk,fn,fc⟩ o=(((t:Nat):Int),0)))(hk:(fk==2)=true)(w:World)(hM:z0b w B m):
  Calls tP 152 #[pT (some ⟨B,0,none⟩),.agg #[A C c,A C d,A C s,.bool r,A C o,A C n]] w fun e w'=>e= rT (A C 0)/\Kept B w w'/\z0b w' B (m.putReg d ⟨1,m.word t,0⟩):=by
 have hB:=hM.lt;have hF0:Frm w.heap.size B c d s r o n m _:=Frm.start hM;obtain⟨p0,p1,p2,p3,p4,p5⟩:=hF0.cells;obtain⟨h0,h1,h2⟩:=hF0.mac.reg hs;rw[HA.out]at h0 h1 h2;have hs0:(0:Int)<=(s:Int):=kO;have hs1:(s:Int)<11:=kO;have hd0:(0:Int)<=(d:Int):=kO;have hd1:(d:Int)<11:=kO;have ht0:(0:Int)<=(t:Int):=kO;have ht1:(t:Int)<8:=kO;go_enter Tryz.func152,Tryz.ntmps152;go_wp2_with fail;go_region
 all_goals go_wp2_with(first
  |(go_at_call 188;refine(z55 ⟨fk,fn,fc⟩ o _).mono ?_;rintro e w1 ⟨rfl,hb1⟩;rw[HR.out];have hF1:Frm w.heap.size B c d s r o n m w1:=Frm.later kF hb1;have hbw:Below w.heap.size w w1:=kT hb1;obtain⟨v0,v1,v2,v3,v4,v5⟩:=hF1.cells;have v6:=z1g hb1 (w.heap.size+1);(try simp[go_sem]at v6);have hS1:=hF1.ltS;have hB1:=hF1.mac.lt;have hne:B≠w1.heap.size:=kO;have hne2:w.heap.size≠w1.heap.size:=kO;have q0:=hF1.mac.word ht)
  |(go_at_call 189;refine(z8h (m.word t) _).mono ?_;rintro e w2 ⟨rfl,hb2⟩;simp only[Val.v,numF];obtain⟨a0,a1,a2,z0,z1,z2,hl⟩:=zC8 hb2;have hF2:Frm w.heap.size B c d s r o n m w2:=Frm.later (hF1.alloc _) hb2;obtain⟨u0,u1,u2,u3,u4,u5⟩:=hF2.cells;obtain⟨i0,i1,i2⟩:=hF2.mac.reg hd;have f0:=hF2.mac.frozen (2+d*3);have f1:=hF2.mac.frozen (2+d*3+1);have f2:=hF2.mac.frozen (2+d*3+2);have hS2:=hF2.ltS;have hB2:=hF2.mac.lt)
  |go_in)
 all_goals go_region
 all_goals go_wp2
 all_goals go_ret
 all_goals have HK:Kept B w w2:=z1h (z1l (z0d hbw B) _) hb2
 all_goals have HM:=hF2.mac
 all_goals exact⟨rfl,kK,(by repeat' first|with_reducible assumption|with_reducible(first|refine z0b.drew ?_|refine z0b.put3 ?_ hd _ _ _|refine z0b.slot3 ?_ ht _ _ _|refine z0b.cel1 ?_ hct _|refine z0b.off ?_ _ _ ?_|refine z0b.alloc ?_ _)|((try dsimp only);omega))⟩
theorem zXi(B d s t:Nat)(c o n:Int)(r:Bool)(m:Mac)(hd:d<11)(hs:s<11)(fk fn fc:Int)(HA:Hid (m.reg s=⟨fk,fn,fc⟩))(ht:t<16)(HR:Hid (z1e ⟨fk,fn,fc⟩ o=(((t:Nat):Int),0)))(hk:(fk==2)=false)(hk3:(fk==3)=true)(sk sn sc:Int)(HS:Hid (m.slot t=⟨sk,sn,sc⟩))(hsk:(sk==0)=false)(w:World)(hM:z0b w B m):
  Calls tP 152 #[pT (some ⟨B,0,none⟩),.agg #[A C c,A C d,A C s,.bool r,A C o,A C n]] w fun e w'=>e= rT (A C 0)/\Kept B w w'/\z0b w' B (m.putReg d ⟨sk,sn,sc⟩):=by
 have hB:=hM.lt;have hF0:Frm w.heap.size B c d s r o n m _:=Frm.start hM;obtain⟨p0,p1,p2,p3,p4,p5⟩:=hF0.cells;obtain⟨h0,h1,h2⟩:=hF0.mac.reg hs;rw[HA.out]at h0 h1 h2;have hs0:(0:Int)<=(s:Int):=kO;have hs1:(s:Int)<11:=kO;have hd0:(0:Int)<=(d:Int):=kO;have hd1:(d:Int)<11:=kO;have ht0:(0:Int)<=(t:Int):=kO;have ht1:(t:Int)<16:=kO;go_enter Tryz.func152,Tryz.ntmps152;go_wp2_with fail;go_region
 all_goals go_wp2_with(first
  |(go_at_call 188;refine(z55 ⟨fk,fn,fc⟩ o _).mono ?_;rintro e w1 ⟨rfl,hb1⟩;rw[HR.out];have hF1:Frm w.heap.size B c d s r o n m w1:=Frm.later kF hb1;have hbw:Below w.heap.size w w1:=kT hb1;obtain⟨v0,v1,v2,v3,v4,v5⟩:=hF1.cells;have v6:=z1g hb1 (w.heap.size+1);(try simp[go_sem]at v6);have hS1:=hF1.ltS;have hB1:=hF1.mac.lt;have hne:B≠w1.heap.size:=kO;have hne2:w.heap.size≠w1.heap.size:=kO;obtain⟨q0,q1,q2⟩:=hF1.mac.slot ht;rw[HS.out]at q0 q1 q2;obtain⟨i0,i1,i2⟩:=hF1.mac.reg hd;have f0:=hF1.mac.frozen (2+d*3);have f1:=hF1.mac.frozen (2+d*3+1);have f2:=hF1.mac.frozen (2+d*3+2))
  |go_in)
 all_goals go_region
 all_goals go_wp2
 all_goals go_ret
 all_goals have HK:Kept B w w1:=z0d hbw B
 all_goals have HM:=hF1.mac
 all_goals exact⟨rfl,kK,(by repeat' first|with_reducible assumption|with_reducible(first|refine z0b.drew ?_|refine z0b.put3 ?_ hd _ _ _|refine z0b.slot3 ?_ ht _ _ _|refine z0b.cel1 ?_ hct _|refine z0b.off ?_ _ _ ?_|refine z0b.alloc ?_ _)|((try dsimp only);omega))⟩
theorem zTe(B d s t:Nat)(c o n:Int)(r:Bool)(m:Mac)(hd:d<11)(hs:s<11)(fk fn fc:Int)(HA:Hid (m.reg s=⟨fk,fn,fc⟩))(ht:t<16)(HR:Hid (z1e ⟨fk,fn,fc⟩ o=(((t:Nat):Int),0)))(hk:(fk==2)=false)(hk3:(fk==3)=true)(sk sn sc:Int)(HS:Hid (m.slot t=⟨sk,sn,sc⟩))(hsk:(sk==0)=true)(w:World)(hM:z0b w B m):
  zR 152 #[pT (some ⟨B,0,none⟩),.agg #[A C c,A C d,A C s,.bool r,A C o,A C n]] w (A C 8):=by
 have hB:=hM.lt;have hF0:Frm w.heap.size B c d s r o n m _:=Frm.start hM;obtain⟨p0,p1,p2,p3,p4,p5⟩:=hF0.cells;obtain⟨h0,h1,h2⟩:=hF0.mac.reg hs;rw[HA.out]at h0 h1 h2;have hs0:(0:Int)<=(s:Int):=kO;have hs1:(s:Int)<11:=kO;have hd0:(0:Int)<=(d:Int):=kO;have hd1:(d:Int)<11:=kO;have ht0:(0:Int)<=(t:Int):=kO;have ht1:(t:Int)<16:=kO;go_enter Tryz.func152,Tryz.ntmps152;go_wp2_with fail;go_region
 all_goals go_wp2_with(first
  |(go_at_call 188;refine(z55 ⟨fk,fn,fc⟩ o _).mono ?_;rintro e w1 ⟨rfl,hb1⟩;rw[HR.out];have hF1:Frm w.heap.size B c d s r o n m w1:=Frm.later kF hb1;have hbw:Below w.heap.size w w1:=kT hb1;obtain⟨v0,v1,v2,v3,v4,v5⟩:=hF1.cells;have v6:=z1g hb1 (w.heap.size+1);(try simp[go_sem]at v6);have hS1:=hF1.ltS;have hB1:=hF1.mac.lt;have hne:B≠w1.heap.size:=kO;have hne2:w.heap.size≠w1.heap.size:=kO;obtain⟨q0,q1,q2⟩:=hF1.mac.slot ht;rw[HS.out]at q0 q1 q2)
  |go_in)
 all_goals go_ret
 all_goals exact⟨rfl,kB⟩
theorem zXj(B d s t fcn:Nat)(c o n:Int)(r:Bool)(m:Mac)(hd:d<11)(hs:s<11)(fk fn:Int)(HA:Hid (m.reg s=⟨fk,fn,(fcn:Int)⟩))(hfc:fcn<4)(ht:t<4)(HR:Hid (z1e ⟨fk,fn,fcn⟩ o=(((t:Nat):Int),0)))(hk:(fk==2)=false)(hk3:(fk==3)=false)(hk4:(fk==4)=true)(w:World)(hM:z0b w B m):
  Calls tP 152 #[pT (some ⟨B,0,none⟩),.agg #[A C c,A C d,A C s,.bool r,A C o,A C n]] w fun e w'=>e= rT (A C 0)/\Kept B w w'/\z0b w' B (m.putReg d ⟨1,m.cel (fcn*4+t),0⟩):=by
 have hB:=hM.lt;have hF0:Frm w.heap.size B c d s r o n m _:=Frm.start hM;obtain⟨p0,p1,p2,p3,p4,p5⟩:=hF0.cells;obtain⟨h0,h1,h2⟩:=hF0.mac.reg hs;rw[HA.out]at h0 h1 h2;have hs0:(0:Int)<=(s:Int):=kO;have hs1:(s:Int)<11:=kO;have hd0:(0:Int)<=(d:Int):=kO;have hd1:(d:Int)<11:=kO;have ht0:(0:Int)<=(t:Int):=kO;have ht1:(t:Int)<4:=kO;have hc0:(0:Int)<=(fcn:Int):=kO;have hc1:(fcn:Int)<4:=kO;go_enter Tryz.func152,Tryz.ntmps152;go_wp2_with fail;go_region
 all_goals go_wp2_with(first
  |(go_at_call 188;refine(z55 ⟨fk,fn,(fcn:Int)⟩ o _).mono ?_;rintro e w1 ⟨rfl,hb1⟩;rw[HR.out];have hF1:Frm w.heap.size B c d s r o n m w1:=Frm.later kF hb1;have hbw:Below w.heap.size w w1:=kT hb1;obtain⟨v0,v1,v2,v3,v4,v5⟩:=hF1.cells;have v6:=z1g hb1 (w.heap.size+1);(try simp[go_sem]at v6);have hS1:=hF1.ltS;have hB1:=hF1.mac.lt;have hne:B≠w1.heap.size:=kO;have hne2:w.heap.size≠w1.heap.size:=kO;have q0:w1.cell? ⟨B,91+fcn*4+t,none⟩=some (A C (m.cel (fcn*4+t))):=(by rw[Nat.add_assoc];exact hF1.mac.cel (d:=fcn*4+t) kO);have q1:w1.cell? ⟨w.heap.size+1,2,none⟩=some (A C fcn):=(by rw[v6.1];rfl))
  |(go_at_call 189;fail)
  |go_in)
 all_goals go_region_held3 (fun w'=>w'.cell? ⟨w.heap.size+1,2,none⟩=some (A C fcn)/\w'.cell? ⟨B,91+fcn*4+t,none⟩=some (A C (m.cel (fcn*4+t)))) (first|(simp[go_sem];done)|(simp[go_sem, *];done)|go_keep) (first
  |(go_at_call 189;refine(z8h (m.cel (fcn*4+t)) _).mono ?_;rintro e w2 ⟨rfl,hb2⟩;simp only[Val.v,numF];have hb2:=z8m hb2;have hb12:=z8p hb2;have y0:w2.cell? ⟨w.heap.size+1,2,none⟩=some (A C fcn):=(hb12.cell (p:=⟨w.heap.size+1,2,none⟩) v6.2.2).trans q1;have y1:w2.cell? ⟨B,91+fcn*4+t,none⟩=some (A C (m.cel (fcn*4+t))):=(hb12.cell (p:=⟨B,91+fcn*4+t,none⟩) hB1).trans q0;obtain⟨a0,a1,a2,z0,z1,z2,hl⟩:=zC8 hb2;have hF2:Frm w.heap.size B c d s r o n m w2:=Frm.later (hF1.alloc _) hb2;obtain⟨u0,u1,u2,u3,u4,u5⟩:=hF2.cells;obtain⟨i0,i1,i2⟩:=hF2.mac.reg hd;have f0:=hF2.mac.frozen (2+d*3);have f1:=hF2.mac.frozen (2+d*3+1);have f2:=hF2.mac.frozen (2+d*3+2);have hS2:=hF2.ltS;have hB2:=hF2.mac.lt))
 all_goals go_wp2_with fail
 all_goals go_region
 all_goals go_wp2
 all_goals go_ret
 all_goals have HK:Kept B w w2:=z1h (z0d hbw B) hb12
 all_goals have HM:=hF2.mac
 all_goals exact⟨rfl,kK,(by repeat' first|with_reducible assumption|with_reducible(first|refine z0b.drew ?_|refine z0b.put3 ?_ hd _ _ _|refine z0b.slot3 ?_ ht _ _ _|refine z0b.cel1 ?_ hct _|refine z0b.off ?_ _ _ ?_|refine z0b.alloc ?_ _)|((try dsimp only);omega))⟩
theorem zE6:(∀(B d s:Nat)(c o n:Int)(r:Bool)(m:Mac)(hd:d<11)(hs:s<11)(ak an ac bk bn bc:Int)(HA:Hid (m.reg d=⟨ak,an,ac⟩))(HB:Hid (m.second s r n=⟨bk,bn,bc⟩))(t E:Int)(HR:Hid (z1e ⟨ak,an,ac⟩ o=(t,E)))(hE:(E !=0)=true)(w:World)(hM:z0b w B m),zR 153 #[pT (some ⟨B,0,none⟩),.agg #[A C c,A C d,A C s,.bool r,A C o,A C n]] w (A C E))/\(∀(B d s t:Nat)(c o n:Int)(r:Bool)(m:Mac)(hd:d<11)(hs:s<11)(ak an ac bk bn bc:Int)(HA:Hid (m.reg d=⟨ak,an,ac⟩))(HB:Hid (m.second s r n=⟨bk,bn,bc⟩))(HR:Hid (z1e ⟨ak,an,ac⟩ o=(((t:Nat):Int),0)))(hk:(ak==2)=false)(hv:(bk==0)=false)(hk3:(ak==3)=false)(hv1:(bk !=1)=true)(w:World)(hM:z0b w B m),zR 153 #[pT (some ⟨B,0,none⟩),.agg #[A C c,A C d,A C s,.bool r,A C o,A C n]] w (A C 1))/\(∀(B d s t:Nat)(c o n:Int)(r:Bool)(m:Mac)(hd:d<11)(hs:s<11)(ak an ac bk bn bc:Int)(HA:Hid (m.reg d=⟨ak,an,ac⟩))(HB:Hid (m.second s r n=⟨bk,bn,bc⟩))(HR:Hid (z1e ⟨ak,an,ac⟩ o=(((t:Nat):Int),0)))(hk:(ak==2)=false)(hv:(bk==0)=true)(w:World)(hM:z0b w B m),zR 153 #[pT (some ⟨B,0,none⟩),.agg #[A C c,A C d,A C s,.bool r,A C o,A C n]] w (A C 8))/\(∀(B d s t:Nat)(c o n:Int)(r:Bool)(m:Mac)(hd:d<11)(hs:s<11)(ak an ac bk bn bc:Int)(HA:Hid (m.reg d=⟨ak,an,ac⟩))(HB:Hid (m.second s r n=⟨bk,bn,bc⟩))(HR:Hid (z1e ⟨ak,an,ac⟩ o=(((t:Nat):Int),0)))(hk:(ak==2)=true)(w:World)(hM:z0b w B m),zR 153 #[pT (some ⟨B,0,none⟩),.agg #[A C c,A C d,A C s,.bool r,A C o,A C n]] w (A C 6))/\(∀(B d s t:Nat)(c o n:Int)(r:Bool)(m:Mac)(hd:d<11)(hs:s<11)(ak an ac bk bn bc:Int)(HA:Hid (m.reg d=⟨ak,an,ac⟩))(HB:Hid (m.second s r n=⟨bk,bn,bc⟩))(HR:Hid (z1e ⟨ak,an,ac⟩ o=(((t:Nat):Int),0)))(ht:t<16)(hk:(ak==2)=false)(hv:(bk==0)=false)(hk3:(ak==3)=true)(w:World)(hM:z0b w B m),Calls tP 153 #[pT (some ⟨B,0,none⟩),.agg #[A C c,A C d,A C s,.bool r,A C o,A C n]] w fun e w'=>e= rT (A C 0)/\Kept B w w'/\z0b w' B (m.putSlot t ⟨bk,bn,bc⟩)):=by
 refine⟨?_,?_,?_,?_,?_⟩;intro B d s c o n r m hd hs ak an ac bk bn bc HA HB t E HR hE w hM;rotate_left;intro B d s t c o n r m hd hs ak an ac bk bn bc HA HB HR hk hv hk3 hv1 w hM;rotate_left;intro B d s t c o n r m hd hs ak an ac bk bn bc HA HB HR hk hv w hM;rotate_left;intro B d s t c o n r m hd hs ak an ac bk bn bc HA HB HR hk w hM;rotate_left;intro B d s t c o n r m hd hs ak an ac bk bn bc HA HB HR ht hk hv hk3 w hM;rotate_left
 all_goals
  have hB:=hM.lt;have hF0:Frm w.heap.size B c d s r o n m _:=Frm.start hM;obtain⟨p0,p1,p2,p3,p4,p5⟩:=hF0.cells;obtain⟨h0,h1,h2⟩:=hF0.mac.reg hd;rw[HA.out]at h0 h1 h2;have hd0:(0:Int)<=(d:Int):=kO;have hd1:(d:Int)<11:=kO
 rotate_left;rotate_left;rotate_left;rotate_left;have ht0:(0:Int)<=(t:Int):=kO;have ht1:(t:Int)<16:=kO;rotate_left
 all_goals
  go_enter Tryz.func153,Tryz.ntmps153;go_wp2_with fail;go_cut [5,6] (fun s6 s7 wx=> ∃L K:Nat,s6= pT (some ⟨L,0,none⟩)/\s7= pT (some ⟨K,0,none⟩)/\Below w.heap.size w wx/\Frm w.heap.size B c d s r o n m wx/\L<wx.heap.size/\K<wx.heap.size/\wx.cell? ⟨L,0,none⟩=some (A C ak)/\wx.cell? ⟨L,1,none⟩=some (A C an)/\wx.cell? ⟨L,2,none⟩=some (A C ac)/\wx.cell? ⟨K,0,none⟩=some (A C bk)/\wx.cell? ⟨K,1,none⟩=some (A C bn)/\wx.cell? ⟨K,2,none⟩=some (A C bc))
  case first=>
   go_region_held3 (fun w'=>w'.cell? ⟨w.heap.size,0,none⟩=some (A C c)/\w'.cell? ⟨w.heap.size,1,none⟩=some (A C d)/\w'.cell? ⟨w.heap.size,2,none⟩=some (A C s)/\w'.cell? ⟨w.heap.size,3,none⟩=some (.bool r)/\w'.cell? ⟨w.heap.size,4,none⟩=some (A C o)/\w'.cell? ⟨w.heap.size,5,none⟩=some (A C n)/\w'.cell? ⟨B,2+d*3,none⟩=some (A C ak)/\w'.cell? ⟨B,2+d*3+1,none⟩=some (A C an)/\w'.cell? ⟨B,2+d*3+2,none⟩=some (A C ac)) (first|(simp[go_sem];done)|(simp[go_sem, *];done)|go_keep) (first
    |(go_at_call 186;refine(z8c B s c d o n r m hs _ (Frm.mac (S:=w.heap.size) (c:=c) (d:=d) (s:=s) (r:=r) (o:=o) (n:=n) kF)).mono ?_;rintro e w1 ⟨rfl,hb1⟩;rw[HB.out];simp only[Val.v];have hF1:Frm w.heap.size B c d s r o n m w1:=Frm.later kF hb1;have hbw1:Below w.heap.size w w1:=kT hb1;obtain⟨v0,v1,v2,v3,v4,v5⟩:=hF1.cells;obtain⟨i0,i1,i2⟩:=hF1.mac.reg hd;rw[HA.out]at i0 i1 i2;have hS1:=hF1.ltS;have hB1:=hF1.mac.lt;have v6:=z1g hb1 (w.heap.size+1);(try simp[go_sem]at v6);have v7:=z1g hb1 (w.heap.size+1+1);(try simp[go_sem]at v7)))
   all_goals(go_wp2_with fail;go_meet)
   all_goals refine⟨_,_,rfl,rfl,?_,?_,?_,?_,?_,?_,?_,?_,?_,?_⟩
   all_goals clear HA HB p0 p1 p2 p3 p4 p5 h0 h1 h2 hF0
   all_goals first
    |(with_reducible refine bA ?_ ?_ _;(repeat' first|with_reducible assumption|with_reducible(first|refine bA ?_ ?_ _|refine bS ?_ ?_ _)|((try dsimp only);omega)|(simp;done)|(simp;omega));done)
    |(with_reducible refine bS ?_ ?_ _;(repeat' first|with_reducible assumption|with_reducible(first|refine bA ?_ ?_ _|refine bS ?_ ?_ _)|((try dsimp only);omega)|(simp;done)|(simp;omega));done)
    |(with_reducible refine Frm.alloc ?_ _;(repeat' first|with_reducible assumption|with_reducible(first|refine Frm.alloc ?_ _|refine Frm.set ?_ _ _ ?_ ?_)|((try dsimp only);omega)|(simp;done)|(simp;omega));done)
    |(with_reducible refine Frm.set ?_ _ _ ?_ ?_;(repeat' first|with_reducible assumption|with_reducible(first|refine Frm.alloc ?_ _|refine Frm.set ?_ _ _ ?_ ?_)|((try dsimp only);omega)|(simp;done)|(simp;omega));done)
    |(simp;done)|(simp;omega)|(simp[go_sem];done)|(simp[go_sem,v6];done)|(simp[go_sem,v7];done)|(simp[go_sem, *];done)
  obtain⟨L,K,rfl,rfl,hbw,hFx,hL,hK,l0,l1,l2,g0,g1,g2⟩:=hcut;obtain⟨v0,v1,v2,v3,v4,v5⟩:=hFx.cells;have hSx:=hFx.ltS;have hBx:=hFx.mac.lt;clear p0 p1 p2 p3 p4 p5 h0 h1 h2 hF0 HA HB hM
 iterate 4
  ·go_wp2_with(first
    |(go_at_call 188;refine(z55 ⟨ak,an,ac⟩ o _).mono ?_;rintro e w1 ⟨rfl,hb1⟩;rw[HR.out];have hF1:Frm w.heap.size B c d s r o n m w1:=hFx.later hb1;have hbw1:Below w.heap.size w w1:=hbw.trans (hb1.mono hbw.size);have l0:=(hb1.cell (p:=⟨L,0,none⟩) hL).trans l0;have l1:=(hb1.cell (p:=⟨L,1,none⟩) hL).trans l1;have l2:=(hb1.cell (p:=⟨L,2,none⟩) hL).trans l2;have g0:=(hb1.cell (p:=⟨K,0,none⟩) hK).trans g0;have g1:=(hb1.cell (p:=⟨K,1,none⟩) hK).trans g1;have g2:=(hb1.cell (p:=⟨K,2,none⟩) hK).trans g2;have hL:=Nat.lt_of_lt_of_le hL hb1.size;have hK:=Nat.lt_of_lt_of_le hK hb1.size;have hB1:=hF1.mac.lt)
    |go_in)
   all_goals go_ret
   all_goals exact⟨rfl,hbw1⟩
 ·go_wp2_with(first
   |(go_at_call 188;refine(z55 ⟨ak,an,ac⟩ o _).mono ?_;rintro e w1 ⟨rfl,hb1⟩;rw[HR.out];have hF1:Frm w.heap.size B c d s r o n m w1:=hFx.later hb1;have hbw1:Below w.heap.size w w1:=hbw.trans (hb1.mono hbw.size);have l0:=(hb1.cell (p:=⟨L,0,none⟩) hL).trans l0;have l1:=(hb1.cell (p:=⟨L,1,none⟩) hL).trans l1;have l2:=(hb1.cell (p:=⟨L,2,none⟩) hL).trans l2;have g0:=(hb1.cell (p:=⟨K,0,none⟩) hK).trans g0;have g1:=(hb1.cell (p:=⟨K,1,none⟩) hK).trans g1;have g2:=(hb1.cell (p:=⟨K,2,none⟩) hK).trans g2;have hL:=Nat.lt_of_lt_of_le hL hb1.size;have hK:=Nat.lt_of_lt_of_le hK hb1.size;have hB1:=hF1.mac.lt;obtain⟨i0,i1,i2⟩:=hF1.mac.slot ht;have f0:=hF1.mac.frozen (35+t*3);have f1:=hF1.mac.frozen (35+t*3+1);have f2:=hF1.mac.frozen (35+t*3+2))
   |go_in)
  all_goals go_region
  all_goals go_wp2
  all_goals go_ret
  all_goals have HK:Kept B w w1:=z0d hbw1 B
  all_goals have HM:=hF1.mac
  all_goals exact⟨rfl,kK,(by repeat' first|with_reducible assumption|with_reducible(first|refine z0b.drew ?_|refine z0b.put3 ?_ hd _ _ _|refine z0b.slot3 ?_ ht _ _ _|refine z0b.cel1 ?_ hct _|refine z0b.off ?_ _ _ ?_|refine z0b.alloc ?_ _)|((try dsimp only);omega))⟩
def q0v:=zE6.1
def zVn:=zE6.2.1
def zS8:=zE6.2.2.1
def zS6:=zE6.2.2.2.1
def zS7:=zE6.2.2.2.2
theorem zS9(B d s t acn:Nat)(c o n:Int)(r:Bool)(m:Mac)(hd:d<11)(hs:s<11)(ak an bk bn bc:Int)(HA:Hid (m.reg d=⟨ak,an,(acn:Int)⟩))(HB:Hid (m.second s r n=⟨bk,bn,bc⟩))(HR:Hid (z1e ⟨ak,an,(acn:Int)⟩ o=(((t:Nat):Int),0)))(ht:t<4)(hac:acn<4)(hk:(ak==2)=false)(hv:(bk==0)=false)(hk3:(ak==3)=false)(hv1:(bk !=1)=false)(w:World)(hM:z0b w B m):
  Calls tP 153 #[pT (some ⟨B,0,none⟩),.agg #[A C c,A C d,A C s,.bool r,A C o,A C n]] w fun e w'=>e= rT (A C 0)/\Kept B w w'/\z0b w' B (m.putCel (acn*4+t) bn):=by
 have hB:=hM.lt;have hF0:Frm w.heap.size B c d s r o n m _:=Frm.start hM;obtain⟨p0,p1,p2,p3,p4,p5⟩:=hF0.cells;obtain⟨h0,h1,h2⟩:=hF0.mac.reg hd;rw[HA.out]at h0 h1 h2;have hd0:(0:Int)<=(d:Int):=kO;have hd1:(d:Int)<11:=kO;have ht0:(0:Int)<=(t:Int):=kO;have ht1:(t:Int)<4:=kO;have hc0:(0:Int)<=(acn:Int):=kO;have hc1:(acn:Int)<4:=kO;have hct:acn*4+t<16:=kO;go_enter Tryz.func153,Tryz.ntmps153;go_wp2_with fail;go_cut [5,6] (fun s6 s7 wx=> ∃L K:Nat,s6= pT (some ⟨L,0,none⟩)/\s7= pT (some ⟨K,0,none⟩)/\Below w.heap.size w wx/\Frm w.heap.size B c d s r o n m wx/\L<wx.heap.size/\K<wx.heap.size/\wx.cell? ⟨L,0,none⟩=some (A C ak)/\wx.cell? ⟨L,1,none⟩=some (A C an)/\wx.cell? ⟨L,2,none⟩=some (A C (acn:Int))/\wx.cell? ⟨K,0,none⟩=some (A C bk)/\wx.cell? ⟨K,1,none⟩=some (A C bn)/\wx.cell? ⟨K,2,none⟩=some (A C bc))
 case first=>
  go_region_held3 (fun w'=>w'.cell? ⟨w.heap.size,0,none⟩=some (A C c)/\w'.cell? ⟨w.heap.size,1,none⟩=some (A C d)/\w'.cell? ⟨w.heap.size,2,none⟩=some (A C s)/\w'.cell? ⟨w.heap.size,3,none⟩=some (.bool r)/\w'.cell? ⟨w.heap.size,4,none⟩=some (A C o)/\w'.cell? ⟨w.heap.size,5,none⟩=some (A C n)/\w'.cell? ⟨B,2+d*3,none⟩=some (A C ak)/\w'.cell? ⟨B,2+d*3+1,none⟩=some (A C an)/\w'.cell? ⟨B,2+d*3+2,none⟩=some (A C (acn:Int))) (first|(simp[go_sem];done)|(simp[go_sem, *];done)|go_keep) (first
   |(go_at_call 186;refine(z8c B s c d o n r m hs _ (Frm.mac (S:=w.heap.size) (c:=c) (d:=d) (s:=s) (r:=r) (o:=o) (n:=n) kF)).mono ?_;rintro e w1 ⟨rfl,hb1⟩;rw[HB.out];simp only[Val.v];have hF1:Frm w.heap.size B c d s r o n m w1:=Frm.later kF hb1;have hbw1:Below w.heap.size w w1:=kT hb1;obtain⟨v0,v1,v2,v3,v4,v5⟩:=hF1.cells;obtain⟨i0,i1,i2⟩:=hF1.mac.reg hd;rw[HA.out]at i0 i1 i2;have hS1:=hF1.ltS;have hB1:=hF1.mac.lt;have v6:=z1g hb1 (w.heap.size+1);(try simp[go_sem]at v6);have v7:=z1g hb1 (w.heap.size+1+1);(try simp[go_sem]at v7)))
  all_goals(go_wp2_with fail;go_meet)
  all_goals refine⟨_,_,rfl,rfl,?_,?_,?_,?_,?_,?_,?_,?_,?_,?_⟩
  all_goals clear HA HB p0 p1 p2 p3 p4 p5 h0 h1 h2 hF0
  all_goals first
   |(with_reducible refine bA ?_ ?_ _;(repeat' first|with_reducible assumption|with_reducible(first|refine bA ?_ ?_ _|refine bS ?_ ?_ _)|((try dsimp only);omega)|(simp;done)|(simp;omega));done)
   |(with_reducible refine bS ?_ ?_ _;(repeat' first|with_reducible assumption|with_reducible(first|refine bA ?_ ?_ _|refine bS ?_ ?_ _)|((try dsimp only);omega)|(simp;done)|(simp;omega));done)
   |(with_reducible refine Frm.alloc ?_ _;(repeat' first|with_reducible assumption|with_reducible(first|refine Frm.alloc ?_ _|refine Frm.set ?_ _ _ ?_ ?_)|((try dsimp only);omega)|(simp;done)|(simp;omega));done)
   |(with_reducible refine Frm.set ?_ _ _ ?_ ?_;(repeat' first|with_reducible assumption|with_reducible(first|refine Frm.alloc ?_ _|refine Frm.set ?_ _ _ ?_ ?_)|((try dsimp only);omega)|(simp;done)|(simp;omega));done)
   |(simp;done)|(simp;omega)|(simp[go_sem];done)|(simp[go_sem,v6];done)|(simp[go_sem,v7];done)|(simp[go_sem, *];done)
 obtain⟨L,K,rfl,rfl,hbw,hFx,hL,hK,l0,l1,l2,g0,g1,g2⟩:=hcut;obtain⟨v0,v1,v2,v3,v4,v5⟩:=hFx.cells;have hSx:=hFx.ltS;have hBx:=hFx.mac.lt;clear p0 p1 p2 p3 p4 p5 h0 h1 h2 hF0 HA HB hM
 go_wp2_with(first
  |(go_at_call 188;refine(z55 ⟨ak,an,(acn:Int)⟩ o _).mono ?_;rintro e w1 ⟨rfl,hb1⟩;rw[HR.out];have hF1:Frm w.heap.size B c d s r o n m w1:=hFx.later hb1;have hbw1:Below w.heap.size w w1:=hbw.trans (hb1.mono hbw.size);have l0:=(hb1.cell (p:=⟨L,0,none⟩) hL).trans l0;have l1:=(hb1.cell (p:=⟨L,1,none⟩) hL).trans l1;have l2:=(hb1.cell (p:=⟨L,2,none⟩) hL).trans l2;have g0:=(hb1.cell (p:=⟨K,0,none⟩) hK).trans g0;have g1:=(hb1.cell (p:=⟨K,1,none⟩) hK).trans g1;have g2:=(hb1.cell (p:=⟨K,2,none⟩) hK).trans g2;have hL:=Nat.lt_of_lt_of_le hL hb1.size;have hK:=Nat.lt_of_lt_of_le hK hb1.size;have hB1:=hF1.mac.lt;have i0:w1.cell? ⟨B,91+acn*4+t,none⟩=some (A C (m.cel (acn*4+t))):=(by rw[Nat.add_assoc];exact hF1.mac.cel (d:=acn*4+t) kO);have f0:=hF1.mac.frozen (91+acn*4+t))
  |go_in)
 all_goals go_region
 all_goals go_wp2
 all_goals go_ret
 all_goals have HK:Kept B w w1:=z0d hbw1 B
 all_goals have HM:=hF1.mac
 all_goals rw[Nat.add_assoc 91 (acn*4) t]
 all_goals exact⟨rfl,kK,(by repeat' first|with_reducible assumption|with_reducible(first|refine z0b.drew ?_|refine z0b.put3 ?_ hd _ _ _|refine z0b.slot3 ?_ ht _ _ _|refine z0b.cel1 ?_ hct _|refine z0b.off ?_ _ _ ?_|refine z0b.alloc ?_ _)|((try dsimp only);omega))⟩
def Mac.lose(m:Mac):Mac:={m with reg:=fun i=>if 1<=i/\i<=5 then z7t else m.reg i}
theorem Mac.lose_put(m:Mac):m.lose=((((m.putReg 1 z7t).putReg 2 z7t).putReg 3 z7t).putReg 4 z7t).putReg 5 z7t:=by
 unfold Mac.lose Mac.putReg;congr 1;funext i
 by_cases h:1<=i/\i<=5
 ·rw[if_pos h]
  rcases(show i=1\/i=2\/i=3\/i=4\/i=5 by omega)with rfl|rfl|rfl|rfl|rfl<;>rfl
 rw[if_neg h];show _=if i=5 then z7t else if i=4 then z7t else if i=3 then z7t else if i=2 then z7t else if i=1 then z7t else m.reg i;rw[if_neg kO,if_neg kO,if_neg kO,if_neg kO,if_neg kO]
theorem zM9{w:World}{B:Nat}{m:Mac}(hM:z0b w B m): ∃w',(Builtin.clear_ #[289] 0 #[.slice (some ⟨B,5,none⟩) 5 10]).run tP w= .ok (.tuple #[]) w'/\Kept B w w'/\z0b w' B m.lose:=by
 have hst:=run_storeCells_cells (P:=tP) B 5 (List.replicate 15 (A C 0)) 0 w (by
  intro j hj;rw[List.length_replicate]at hj;rw[hM.at _ kO];rfl) (by intro j hj;exact hM.frozen _) (by intro v hv';rw[List.eq_of_mem_replicate hv'];rfl)
 simp only[Nat.add_zero]at hst;have hzc:(Builtin.zeroCells (Value.agg #[A C 0,A C 0,A C 0]).cells 5).toList=List.replicate 15 (A C 0):=by first|rfl|kernel_rfl|(simp[Builtin.zeroCells];rfl)
 refine⟨w.setCells B 5 (List.replicate 15 (A C 0)),?_,?_,?_⟩
 ·generalize List.replicate 15 (Value.int .i64 0)=zs at hst hzc⊢
  simp[Builtin.clear_,run_underlying Tryz.underlying289,hzc,hst]
 ·show Kept B w (((((((((((((((w.setCell ⟨B,5,none⟩ _).setCell ⟨B,6,none⟩ _).setCell ⟨B,7,none⟩ _).setCell ⟨B,8,none⟩ _).setCell ⟨B,9,none⟩ _).setCell ⟨B,10,none⟩ _).setCell ⟨B,11,none⟩ _).setCell ⟨B,12,none⟩ _).setCell ⟨B,13,none⟩ _).setCell ⟨B,14,none⟩ _).setCell ⟨B,15,none⟩ _).setCell ⟨B,16,none⟩ _).setCell ⟨B,17,none⟩ _).setCell ⟨B,18,none⟩ _).setCell ⟨B,19,none⟩ _)
  repeat with_reducible refine z13 ?_ _ _
  exact z1b B w
 rw[m.lose_put];exact((((hM.put3 (d:=1) kD 0 0 0).put3 (d:=2) kD 0 0 0).put3 (d:=3) kD 0 0 0).put3 (d:=4) kD 0 0 0).put3 (d:=5) kD 0 0 0
theorem Tryz.infoI:(Tryz.prog.info? 2).map (fun i=>(i.zero,i.size,i.bytes))=some (some (A C 0),1,8):=kR
theorem q34{w:World}{x:Value}{e:TypeId}{b:Nat}(hb:b=w.heap.size): ∀(j:Nat) u,[x][j]?=some u->(w.alloc (cT #[x] e)).cell? ((⟨b,0,none⟩:Addr).add j)=some u:=by
 subst hb;intro j u hj;match j,hj with
 |0,hj=>simp at hj;subst hj;simp[Addr.add]
theorem z1t.shape{w:World}{B:Nat}{v:Value}{L:List Int}(h:z1t w B v L): ∃a cap,v= .slice a L.length cap:=by
 rcases h.2 with⟨hv,hn⟩|⟨g,cap,_,hv,_⟩
 ·exact⟨none,0,by rw[hv,hn]⟩
 exact⟨some ⟨g,0,none⟩,cap,hv⟩
theorem zWp{w:World}{B:Nat}{e:TypeId}{z:Nat}{v:Value}{n:Nat}{xs:List Value}(h:w.ownsRow (B+1) e z v n xs):some B≠v.ownBlock:=by
 intro hh;have:=h.lt B hh.symm;omega
def zTx(L:List Int)(n:Int):List Int:=if L.length<50 then L++[n]else L
theorem q2l(B:Nat)(n:Int)(m:Mac)(L:List Int)(w:World)(hM:z0b w B m)(hO:z1t w B m.out L):
  Calls tP 191 #[pT (some ⟨B,0,none⟩),A C n] w fun e w'=>e= rT (.tuple #[])/\Below B w w'/\ ∃v',z0b w' B (m.setOut v')/\z1t w' B v' (zTx L n):=by
 have hB:=hM.lt;have h0:=hM.outv;obtain⟨a,cap,hv⟩:=hO.shape;have hO':=hO;rw[hv]at h0 hO';have HV:Hid (m.out= .slice a L.length cap):=hv;have hg:zTx L n=if L.length<50 then L++[n]else L:=rfl
 by_cases hk:L.length<50
 ·rw[if_pos hk]at hg
  have HG:Hid (zTx L n=L++[n]):=hg;have HO:Hid (w.ownsRow (B+1) 2 1 (.slice a L.length cap) L.length (L.map (Value.int .i64))):=hO';have HL:Hid (L.length<50):=hk;have hk0:decide ((L.length:Int)<50)=true:=kZ;clear hv hg hO' hO hk;obtain⟨i0,hi,hz0,hz1,hz2⟩:=info_parts Tryz.infoI;generalize HN:L.length=k at h0 hk0;have HN':Hid (L.length=k):=HN;clear HN;go_enter Tryz.func191,Tryz.ntmps191;go_wp2_with(at_builtin;refine wpList_append_own _ rfl (.tmp 14) (.tmp 16) 49 rfl (B+1) 2 i0 (A C 0) 1 8 Tryz.underlying49 hi hz0 hz1 hz2 rfl kD (.slice a k cap) k (L.map (Value.int .i64)) rfl (by have:=HO.out;rw[HN'.out]at this;exact this.alloc _) ⟨w.heap.size,0,none⟩ 1 1 [A C n] rfl rfl (q34 rfl) (by intro u hu;simp at hu;subst hu;rfl) (by have:=HL.out;have:=HN'.out;unfold maxLen;omega) (by have:=HL.out;have:=HN'.out;omega) kZ ?_;intro v5 w5 hown5 hgrow5 _;have hM5:z0b w5 B m:=(hgrow5.block B kZ (by have:=HO.out;rw[HN'.out]at this;exact zWp this)).trans (hM.alloc _);have hB5:=hM5.lt;have k0:=hM5.outv;have f0:=hM5.frozen 108;obtain⟨g5,cp5,hv5⟩: ∃g5 cp5,v5= .slice (some ⟨g5,0,none⟩) (k+1) cp5:=(by rcases hown5.2 with⟨_,h⟩|⟨g,cap',_,h,_⟩;(omega);(exact⟨g,cap',h⟩));subst hv5);go_end0
  refine⟨rfl,?_,.slice (some ⟨g5,0,none⟩) (k+1) cp5,hM5.putOut _,?_⟩
  ·have hr:B<=(⟨B,108,none⟩:Addr).block:=Nat.le_refl _
   refine bS ?_ hr _
   exact((bF _ _).alloc kO _).grown hgrow5 kZ (fun j hj=>by
    have:=HO.out;rw[HN'.out]at this;have:=this.lt j hj;omega)
  ·rw[HG.out]
   unfold z1t;rw[List.length_append,HN'.out,List.map_append];exact ownsRow_setCell_below hown5 (Nat.lt_succ_self B) _
 rw[if_neg hk]at hg;have hk0:decide ((L.length:Int)<50)=false:=kZ;have HG:Hid (zTx L n=L):=hg;have HO:Hid (z1t w B m.out L):=hO;clear hv hg hO' hO hk;go_enter Tryz.func191,Tryz.ntmps191;go_wp2;go_end0
 exact⟨rfl,bF _ _,m.out,hM,by rw[HG.out];exact HO.out⟩
theorem z0b.put0{w:World}{B:Nat}{m:Mac}(h:z0b w B m)(k n c:Int):z0b (((w.setCell ⟨B,2,none⟩ (A C k)).setCell ⟨B,3,none⟩ (A C n)).setCell ⟨B,4,none⟩ (A C c)) B (m.putReg 0 ⟨k,n,c⟩):=h.put3 (d:=0) kD k n c
theorem zXy(B:Nat)(m:Mac)(fk fn fc:Int)(HA:Hid (m.reg 1=⟨fk,fn,fc⟩))(E:Int)(HW:Hid (z3a ⟨fk,fn,fc⟩=E))(hE:(E !=0)=true)(w:World)(hM:z0b w B m):(zR 154 #[pT (some ⟨B,0,none⟩),A C 1] w (A C E))/\(zR 154 #[pT (some ⟨B,0,none⟩),A C 3] w (A C E)):=by
 refine⟨?_,?_⟩
 all_goals
  have hB:=hM.lt;obtain⟨h0,h1,h2⟩:=hM.reg (d:=1) kD;simp only[Nat.reduceMul,Nat.reduceAdd]at h0 h1 h2;rw[HA.out]at h0 h1 h2
 all_goals
  go_enter Tryz.func154,Tryz.ntmps154
  go_wp2_with(first
   |(go_at_call 118;refine(zHp fk fn fc _).mono ?_;rintro e w1 ⟨rfl,hb1⟩;rw[HW.out];have hM1:z0b w1 B m:=(hM.alloc _).later hb1;have hB1:=hM1.lt;have v6:=z1g hb1 w.heap.size kS;have hS1:=v6.2.2;have hbw:Below w.heap.size w w1:=z8p hb1;have u1:w1.cell? ⟨w.heap.size,1,none⟩=some (A C fn):=(by rw[v6.1];simp[go_sem]))
   |go_in)
  go_ret;exact⟨rfl,hbw⟩
def q36:=fun B m fk fn fc HA E HW hE w hM=>(@zXy B m fk fn fc HA E HW hE w hM).1
def q35:=fun B m fk fn fc HA E HW hE w hM=>(@zXy B m fk fn fc HA E HW hE w hM).2
theorem zZ4(B:Nat)(m:Mac)(fk fn fc:Int)(HA:Hid (m.reg 1=⟨fk,fn,fc⟩))(w:World)(hM:z0b w B m):
  Calls tP 154 #[pT (some ⟨B,0,none⟩),A C 2] w fun e w'=>e= rT (A C 0)/\Kept B w w'/\z0b w' B (m.lose.putReg 0 ⟨1,m.time,0⟩):=by
 have hB:=hM.lt;obtain⟨h0,h1,h2⟩:=hM.reg (d:=1) kD;simp only[Nat.reduceMul,Nat.reduceAdd]at h0 h1 h2;rw[HA.out]at h0 h1 h2;go_enter Tryz.func154,Tryz.ntmps154;go_wp2_with fail;have hM1:=hM.alloc (cT #[A C fk,A C fn,A C fc] 168);have hS1:w.heap.size<(w.alloc (cT #[A C fk,A C fn,A C fc] 168)).heap.size:=by simp
 obtain⟨wc,hc,hkc,hmc⟩:=zM9 hM1;rw[hc];clear hc;have hBc:=hmc.lt;have t0:wc.cell? ⟨B,107,none⟩=some (A C m.time):=hmc.time;go_wp2_with fail
 go_region_held3 (fun w'=>w'.cell? ⟨B,107,none⟩=some (A C m.time)) (first|(simp[go_sem];done)|(simp[go_sem, *];done)|go_keep) (first
  |(go_at_call 189;refine(z8h m.time _).mono ?_;rintro e w3 ⟨rfl,hb3⟩;have hb3:=z8m hb3;have hM3:=hmc.later hb3;have hB3:=hM3.lt;obtain⟨i0,i1,i2⟩:=hM3.reg (d:=0) kD;simp only[Nat.reduceMul,Nat.reduceAdd]at i0 i1 i2;have f0:=hM3.frozen 2;have f1:=hM3.frozen 3;have f2:=hM3.frozen 4;have y0:w3.cell? ⟨B,107,none⟩=some (A C m.time):=hM3.time;simp only[Val.v,numF]))
 all_goals have HK:Kept B w w3:=z1h (z18 (z1l (z1b B w) _) hkc) hb3
 all_goals go_wp2
 all_goals go_ret
 all_goals have HM:=hM3
 all_goals exact⟨rfl,kK,(by repeat' first|with_reducible assumption|with_reducible(first|refine z0b.drew ?_|refine z0b.put0 ?_ _ _ _|refine z0b.off ?_ _ _ ?_|refine z0b.alloc ?_ _)|((try dsimp only);omega))⟩
theorem zXz(B:Nat)(m:Mac)(fk fn fc:Int)(HA:Hid (m.reg 1=⟨fk,fn,fc⟩)):(∀(HW:Hid (z3a ⟨fk,fn,fc⟩=0))(rk rn rc:Int)(HF:Hid (zEg fn=⟨rk,rn,rc⟩))(w:World)(hM:z0b w B m),Calls tP 154 #[pT (some ⟨B,0,none⟩),A C 1] w fun e w'=>e= rT (A C 0)/\Kept B w w'/\z0b w' B (m.lose.putReg 0 ⟨rk,rn,rc⟩))/\(∀(L:List Int)(HW:Hid (z3a ⟨fk,fn,fc⟩=0))(w:World)(hM:z0b w B m)(hO:z1t w B m.out L),Calls tP 154 #[pT (some ⟨B,0,none⟩),A C 3] w fun e w'=>e= rT (A C 0)/\Below B w w'/\ ∃v',z0b w' B ((m.lose.setOut v').putReg 0 ⟨1,0,0⟩)/\z1t w' B v' (zTx L fn)):=by
 refine⟨?_,?_⟩;intro HW rk rn rc HF w hM;rotate_left;intro L HW w hM hO;rotate_left
 all_goals
  have hB:=hM.lt;obtain⟨h0,h1,h2⟩:=hM.reg (d:=1) kD;simp only[Nat.reduceMul,Nat.reduceAdd]at h0 h1 h2;rw[HA.out]at h0 h1 h2
 rotate_left;have HO:Hid (z1t w B m.out L):=hO;clear hO;rotate_left
 all_goals
  go_enter Tryz.func154,Tryz.ntmps154
  go_wp2_with(first
   |(go_at_call 118;refine(zHp fk fn fc _).mono ?_;rintro e w1 ⟨rfl,hb1⟩;rw[HW.out];have hM1:z0b w1 B m:=(hM.alloc _).later hb1;have hB1:=hM1.lt;have v6:=z1g hb1 w.heap.size kS;have hS1:=v6.2.2;have hbw:Below w.heap.size w w1:=z8p hb1;have u1:w1.cell? ⟨w.heap.size,1,none⟩=some (A C fn):=(by rw[v6.1];simp[go_sem]))
   |go_in)
  obtain⟨wc,hc,hkc,hmc⟩:=zM9 hM1;rw[hc];clear hc;have u2:wc.cell? ⟨w.heap.size,1,none⟩=some (A C fn):=(World.cell?_of_block (a:=⟨w.heap.size,1,none⟩) (hkc.block w.heap.size hS1 (by intro h;injection h with h;omega))).trans u1;have hBc:=hmc.lt;have hSc:w.heap.size<wc.heap.size:=Nat.lt_of_lt_of_le hS1 hkc.size;go_wp2_with fail
 ·go_region_held3 (fun w'=>w'.cell? ⟨w.heap.size,1,none⟩=some (A C fn)) (first|(simp[go_sem];done)|(simp[go_sem, *];done)|go_keep) (first
   |(go_at_call 190;refine(zY4 fn _).mono ?_;rintro e w3 ⟨rfl,hb3⟩;have hb3:=z8m hb3;have hM3:=hmc.later hb3;have hB3:=hM3.lt;obtain⟨i0,i1,i2⟩:=hM3.reg (d:=0) kD;simp only[Nat.reduceMul,Nat.reduceAdd]at i0 i1 i2;have f0:=hM3.frozen 2;have f1:=hM3.frozen 3;have f2:=hM3.frozen 4;have y0:w3.cell? ⟨w.heap.size,1,none⟩=some (A C fn):=(hb3.cell (p:=⟨w.heap.size,1,none⟩) hSc).trans u2;rw[HF.out];simp only[Val.v]))
  all_goals have HK:Kept B w w3:=z1h (z18 (z0d hbw B) hkc) hb3
  all_goals go_wp2
  all_goals go_ret
  all_goals have HM:=hM3
  all_goals exact⟨rfl,kK,(by repeat' first|with_reducible assumption|with_reducible(first|refine z0b.drew ?_|refine z0b.put0 ?_ _ _ _|refine z0b.off ?_ _ _ ?_|refine z0b.alloc ?_ _)|((try dsimp only);omega))⟩
 ·go_wp2_with(first
   |(go_at_call 191;refine(q2l B fn m.lose L _ hmc (z1t.kept (z1t.kept HO.out (z0d hbw B)) hkc)).mono ?_;rintro e w4 ⟨rfl,hb4,v4,hM4,hO4⟩;have HO4:Hid (z1t w4 B v4 (zTx L fn)):=hO4;clear hO4;have hB4:=hM4.lt;have t0:w4.cell? ⟨B,107,none⟩=some (A C m.time):=hM4.time)
   |fail)
  go_region_held3 (fun w'=>w'.cell? ⟨B,107,none⟩=some (A C m.time)) (first|(simp[go_sem];done)|(simp[go_sem, *];done)|go_keep) (first
   |(go_at_call 189;refine(z8h 0 _).mono ?_;rintro e w3 ⟨rfl,hb3⟩;have hb3:=z8m hb3;have hM3:=hM4.later hb3;have hB3:=hM3.lt;obtain⟨i0,i1,i2⟩:=hM3.reg (d:=0) kD;simp only[Nat.reduceMul,Nat.reduceAdd]at i0 i1 i2;have f0:=hM3.frozen 2;have f1:=hM3.frozen 3;have f2:=hM3.frozen 4;have y0:w3.cell? ⟨B,107,none⟩=some (A C m.time):=hM3.time;simp only[Val.v,numF]))
  all_goals go_wp2
  all_goals go_ret
  all_goals have HK:Kept B w4 w3:=z0d hb3 B
  all_goals have HM:=hM3
  all_goals exact⟨rfl,((hbw.mono kO).trans (z3h hkc hB1)).trans (hb4.trans (z3h kK hB4)),v4,(by repeat' first|with_reducible assumption|with_reducible(first|refine z0b.drew ?_|refine z0b.put0 ?_ _ _ _|refine z0b.off ?_ _ _ ?_|refine z0b.alloc ?_ _)|((try dsimp only);omega)),z1t.kept HO4.out kK⟩
def zZ5:=fun B m fk fn fc HA=>(@zXz B m fk fn fc HA).1
def zZ6:=fun B m fk fn fc HA=>(@zXz B m fk fn fc HA).2
end Go.Proofs.YtkdflpplamebkaaGreatDoor
