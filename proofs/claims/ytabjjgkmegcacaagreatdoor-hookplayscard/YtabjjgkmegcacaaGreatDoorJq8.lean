/-
A part of the proof of HookPlays; its card says what is proved.
-/
import Derived.Test.YtabjjgkmegcacaaGreatDoorJq7
set_option maxHeartbeats 40000000
open Go.Value renaming int → A
open Go.IntKind renaming i64 → F
open Go.RowKit.Below renaming alloc → bA, setCell → bS, drew → bD, refl → bF
set_option maxRecDepth 1000000
set_option linter.defProp false
set_option linter.unusedVariables false
set_option linter.unusedSimpArgs false
open Go.Ending renaming returned → rT
open Go.Value renaming pointer → pT
open Go.Obj renaming cells → cT
open Go.Proofs.Tryz renaming prog → tP
namespace Go.Proofs.YtabjjgkmegcacaaGreatDoor
open Go.ChangeShapes Go.WideShapes Go.ChangeAt Go.RowKit
section
attribute [local simp] z0p z0j z04
theorem zZk(B d s:Nat)(c o n:Int)(r:Bool)(m:Mac)(hd:d<11)(hs:s<11)(ak an ac bk bn bc:Int)(HA:Hid (m.reg d=⟨ak,an,ac⟩))(HB:Hid (m.second s r n=⟨bk,bn,bc⟩))(w:World)(hM:z0a w B m):
  zR 95 #[pT (some ⟨B,0,none⟩),.agg #[A F c,A F d,A F s,.bool r,A F o,A F n]] w (.tuple #[A F (askF c ⟨ak,an,ac⟩ ⟨bk,bn,bc⟩ r o n).1,A F (askF c ⟨ak,an,ac⟩ ⟨bk,bn,bc⟩ r o n).2]):=by
 have hB:=hM.lt;have hF0:Frm w.heap.size B c d s r o n m _:=Frm.start hM;obtain⟨p0,p1,p2,p3,p4,p5⟩:=hF0.cells;obtain⟨h0,h1,h2⟩:=hF0.mac.reg hd;rw[HA.out]at h0 h1 h2;have hd0:(0:Int)<=(d:Int):=kO;have hd1:(d:Int)<11:=kO;go_enter Tryz.func95,Tryz.ntmps95;go_wp2_with fail;go_cut [6,7] (fun s6 s7 wx=> ∃L K:Nat,s6= pT (some ⟨L,0,none⟩)/\s7= pT (some ⟨K,0,none⟩)/\Below w.heap.size w wx/\Frm w.heap.size B c d s r o n m wx/\L<wx.heap.size/\K<wx.heap.size/\wx.cell? ⟨L,0,none⟩=some (A F ak)/\wx.cell? ⟨L,1,none⟩=some (A F an)/\wx.cell? ⟨L,2,none⟩=some (A F ac)/\wx.cell? ⟨K,0,none⟩=some (A F bk)/\wx.cell? ⟨K,1,none⟩=some (A F bn)/\wx.cell? ⟨K,2,none⟩=some (A F bc))
 case first=>
  go_region_held3 (fun w'=>w'.cell? ⟨w.heap.size,0,none⟩=some (A F c)/\w'.cell? ⟨w.heap.size,1,none⟩=some (A F d)/\w'.cell? ⟨w.heap.size,2,none⟩=some (A F s)/\w'.cell? ⟨w.heap.size,3,none⟩=some (.bool r)/\w'.cell? ⟨w.heap.size,4,none⟩=some (A F o)/\w'.cell? ⟨w.heap.size,5,none⟩=some (A F n)/\w'.cell? ⟨B,2+d*3,none⟩=some (A F ak)/\w'.cell? ⟨B,2+d*3+1,none⟩=some (A F an)/\w'.cell? ⟨B,2+d*3+2,none⟩=some (A F ac)) (first|(simp[go_sem];done)|(simp[go_sem, *];done)|go_keep) (first
   |(go_at_call 120;refine(z65 B s c d o n r m hs _ (Frm.mac (S:=w.heap.size) (c:=c) (d:=d) (s:=s) (r:=r) (o:=o) (n:=n) kF)).mono ?_;rintro e w1 ⟨rfl,hb1⟩;rw[HB.out];simp only[Val.v];have hF1:Frm w.heap.size B c d s r o n m w1:=Frm.later kF hb1;have hbw1:Below w.heap.size w w1:=kT hb1;obtain⟨v0,v1,v2,v3,v4,v5⟩:=hF1.cells;obtain⟨i0,i1,i2⟩:=hF1.mac.reg hd;rw[HA.out]at i0 i1 i2;have hS1:=hF1.ltS;have hB1:=hF1.mac.lt;have v6:=z0b hb1 (w.heap.size+1);(try simp[go_sem]at v6);have v7:=z0b hb1 (w.heap.size+1+1);(try simp[go_sem]at v7)))
  all_goals(go_wp2_with fail;go_meet)
  all_goals refine⟨_,_,rfl,rfl,?_,?_,?_,?_,?_,?_,?_,?_,?_,?_⟩
  all_goals clear HA HB p0 p1 p2 p3 p4 p5 h0 h1 h2 hF0
  all_goals first
   |(with_reducible refine bA ?_ ?_ _;(repeat' first|with_reducible assumption|with_reducible(first|refine bA ?_ ?_ _|refine bS ?_ ?_ _)|((try dsimp only);omega)|(simp;done)|(simp;omega));done)
   |(with_reducible refine bS ?_ ?_ _;(repeat' first|with_reducible assumption|with_reducible(first|refine bA ?_ ?_ _|refine bS ?_ ?_ _)|((try dsimp only);omega)|(simp;done)|(simp;omega));done)
   |(with_reducible refine Frm.alloc ?_ _;(repeat' first|with_reducible assumption|with_reducible(first|refine Frm.alloc ?_ _|refine Frm.set ?_ _ _ ?_ ?_)|((try dsimp only);omega)|(simp;done)|(simp;omega));done)
   |(with_reducible refine Frm.set ?_ _ _ ?_ ?_;(repeat' first|with_reducible assumption|with_reducible(first|refine Frm.alloc ?_ _|refine Frm.set ?_ _ _ ?_ ?_)|((try dsimp only);omega)|(simp;done)|(simp;omega));done)
   |(simp;done)|(simp;omega)|(simp[go_sem];done)|(simp[go_sem,v6];done)|(simp[go_sem,v7];done)|(simp[go_sem, *];done)
 obtain⟨L,K,rfl,rfl,hbw,hFx,hL,hK,l0,l1,l2,g0,g1,g2⟩:=hcut;obtain⟨v0,v1,v2,v3,v4,v5⟩:=hFx.cells;have hSx:=hFx.ltS;clear p0 p1 p2 p3 p4 p5 h0 h1 h2 hF0 hFx HA HB hM
 by_cases ha:ak=0
 ·have x0:(ak==0)=true:=kZ
  have HV:Hid (askF c ⟨ak,an,ac⟩ ⟨bk,bn,bc⟩ r o n=(0,8)):=by
   show askF c ⟨ak,an,ac⟩ ⟨bk,bn,bc⟩ r o n=(0,8);exact zSd ha
  clear ha;go_wp2
  all_goals go_ret2
  all_goals exact⟨by rw[HV.out];rfl,hbw⟩
 by_cases hb:bk=0
 ·have x0:(ak==0)=false:=kZ
  have x1:(bk==0)=true:=kZ
  have HV:Hid (askF c ⟨ak,an,ac⟩ ⟨bk,bn,bc⟩ r o n=(0,8)):=by
   show askF c ⟨ak,an,ac⟩ ⟨bk,bn,bc⟩ r o n=(0,8);exact zX9 hb
  clear ha hb;go_wp2
  all_goals go_ret2
  all_goals exact⟨by rw[HV.out];rfl,hbw⟩
 by_cases ha1:ak=1
 ·by_cases hb1:bk=1
  ·cases hi:isV c an bn
   ·skip
    have x0:(ak==0)=false:=kZ;have x1:(bk==0)=false:=kZ;have x2:(ak==1)=true:=kZ;have x3:(bk==1)=true:=kZ
    have HV:Hid (askF c ⟨ak,an,ac⟩ ⟨bk,bn,bc⟩ r o n=(0,0)):=by
     show askF c ⟨ak,an,ac⟩ ⟨bk,bn,bc⟩ r o n=(0,0);exact zFb ha1 hb1 hi
    have HI:Hid (isV c an bn=_):=hi;clear ha hb ha1 hb1 hi;go_wp2_with(first|(go_at_call 121;refine(zR5 _ _ _ _).mono ?_;rintro e w1 ⟨rfl,rfl⟩;rw[HI.out])|go_in)
    all_goals go_ret2
    all_goals exact⟨by rw[HV.out];rfl,hbw⟩
   ·skip
    have x0:(ak==0)=false:=kZ;have x1:(bk==0)=false:=kZ;have x2:(ak==1)=true:=kZ;have x3:(bk==1)=true:=kZ
    have HV:Hid (askF c ⟨ak,an,ac⟩ ⟨bk,bn,bc⟩ r o n=(o,0)):=by
     show askF c ⟨ak,an,ac⟩ ⟨bk,bn,bc⟩ r o n=(o,0);exact zKh ha1 hb1 hi
    have HI:Hid (isV c an bn=_):=hi;clear ha hb ha1 hb1 hi;go_wp2_with(first|(go_at_call 121;refine(zR5 _ _ _ _).mono ?_;rintro e w1 ⟨rfl,rfl⟩;rw[HI.out])|go_in)
    all_goals go_ret2
    all_goals exact⟨by rw[HV.out];rfl,hbw⟩
  ·skip
   by_cases hj:c=15
   ·cases r
    ·by_cases hn:n=0
     ·skip
      have x0:(ak==0)=false:=kZ;have x1:(bk==0)=false:=kZ;have x2:(ak==1)=true:=kZ;have x3:(bk==1)=false:=kZ;have x4:(c !=15)=false:=kZ;have x5:(c==16)=false:=kZ;have x6:(n !=0)=false:=kZ
      have HV:Hid (askF c ⟨ak,an,ac⟩ ⟨bk,bn,bc⟩ false o n=(0,0)):=by
       show askF c ⟨ak,an,ac⟩ ⟨bk,bn,bc⟩ false o n=(0,0);exact zKj ha hb kO hj hn
      clear ha ha1 hb hb1 hj hn;go_wp2
      all_goals go_ret2
      all_goals exact⟨by rw[HV.out];rfl,hbw⟩
     ·skip
      have x0:(ak==0)=false:=kZ;have x1:(bk==0)=false:=kZ;have x2:(ak==1)=true:=kZ;have x3:(bk==1)=false:=kZ;have x4:(c !=15)=false:=kZ;have x5:(n !=0)=true:=kZ
      have HV:Hid (askF c ⟨ak,an,ac⟩ ⟨bk,bn,bc⟩ false o n=(0,1)):=by
       show askF c ⟨ak,an,ac⟩ ⟨bk,bn,bc⟩ false o n=(0,1);exact z2p ha hb kO (Or.inr (Or.inr hn))
      clear ha ha1 hb hb1 hj hn;go_wp2
      all_goals go_ret2
      all_goals exact⟨by rw[HV.out];rfl,hbw⟩
    ·skip
     have x0:(ak==0)=false:=kZ;have x1:(bk==0)=false:=kZ;have x2:(ak==1)=true:=kZ;have x3:(bk==1)=false:=kZ;have x4:(c !=15)=false:=kZ
     have HV:Hid (askF c ⟨ak,an,ac⟩ ⟨bk,bn,bc⟩ true o n=(0,1)):=by
      show askF c ⟨ak,an,ac⟩ ⟨bk,bn,bc⟩ true o n=(0,1);exact z2p ha hb kO (Or.inr (Or.inl rfl))
     clear ha ha1 hb hb1 hj;go_wp2
     all_goals go_ret2
     all_goals exact⟨by rw[HV.out];rfl,hbw⟩
   ·by_cases hk:c=16
    ·cases r
     ·by_cases hn:n=0
      ·skip
       have x0:(ak==0)=false:=kZ;have x1:(bk==0)=false:=kZ;have x2:(ak==1)=true:=kZ;have x3:(bk==1)=false:=kZ;have x4:(c !=15)=true:=kZ;have x5:(c !=16)=false:=kZ;have x6:(c==16)=true:=kZ;have x7:(n !=0)=false:=kZ
       have HV:Hid (askF c ⟨ak,an,ac⟩ ⟨bk,bn,bc⟩ false o n=(o,0)):=by
        show askF c ⟨ak,an,ac⟩ ⟨bk,bn,bc⟩ false o n=(o,0);exact zKi ha hb kO hk hn
       clear ha ha1 hb hb1 hj hk hn;go_wp2
       all_goals go_ret2
       all_goals exact⟨by rw[HV.out];rfl,hbw⟩
      ·skip
       have x0:(ak==0)=false:=kZ;have x1:(bk==0)=false:=kZ;have x2:(ak==1)=true:=kZ;have x3:(bk==1)=false:=kZ;have x4:(c !=15)=true:=kZ;have x5:(c !=16)=false:=kZ;have x6:(n !=0)=true:=kZ
       have HV:Hid (askF c ⟨ak,an,ac⟩ ⟨bk,bn,bc⟩ false o n=(0,1)):=by
        show askF c ⟨ak,an,ac⟩ ⟨bk,bn,bc⟩ false o n=(0,1);exact z2p ha hb kO (Or.inr (Or.inr hn))
       clear ha ha1 hb hb1 hj hk hn;go_wp2
       all_goals go_ret2
       all_goals exact⟨by rw[HV.out];rfl,hbw⟩
     ·skip
      have x0:(ak==0)=false:=kZ;have x1:(bk==0)=false:=kZ;have x2:(ak==1)=true:=kZ;have x3:(bk==1)=false:=kZ;have x4:(c !=15)=true:=kZ;have x5:(c !=16)=false:=kZ
      have HV:Hid (askF c ⟨ak,an,ac⟩ ⟨bk,bn,bc⟩ true o n=(0,1)):=by
       show askF c ⟨ak,an,ac⟩ ⟨bk,bn,bc⟩ true o n=(0,1);exact z2p ha hb kO (Or.inr (Or.inl rfl))
      clear ha ha1 hb hb1 hj hk;go_wp2
      all_goals go_ret2
      all_goals exact⟨by rw[HV.out];rfl,hbw⟩
    ·skip
     have x0:(ak==0)=false:=kZ;have x1:(bk==0)=false:=kZ;have x2:(ak==1)=true:=kZ;have x3:(bk==1)=false:=kZ;have x4:(c !=15)=true:=kZ;have x5:(c !=16)=true:=kZ
     have HV:Hid (askF c ⟨ak,an,ac⟩ ⟨bk,bn,bc⟩ r o n=(0,1)):=by
      show askF c ⟨ak,an,ac⟩ ⟨bk,bn,bc⟩ r o n=(0,1);exact z2p ha hb kO (Or.inl ⟨hj,hk⟩)
     clear ha ha1 hb hb1 hj hk;go_wp2
     all_goals go_ret2
     all_goals exact⟨by rw[HV.out];rfl,hbw⟩
 skip
 by_cases hj:c=15
 ·cases r
  ·by_cases hn:n=0
   ·skip
    have x0:(ak==0)=false:=kZ;have x1:(bk==0)=false:=kZ;have x2:(ak==1)=false:=kZ;have x3:(c !=15)=false:=kZ;have x4:(c==16)=false:=kZ;have x5:(n !=0)=false:=kZ
    have HV:Hid (askF c ⟨ak,an,ac⟩ ⟨bk,bn,bc⟩ false o n=(0,0)):=by
     show askF c ⟨ak,an,ac⟩ ⟨bk,bn,bc⟩ false o n=(0,0);exact zKj ha hb kO hj hn
    clear ha ha1 hb hj hn;go_wp2
    all_goals go_ret2
    all_goals exact⟨by rw[HV.out];rfl,hbw⟩
   ·skip
    have x0:(ak==0)=false:=kZ;have x1:(bk==0)=false:=kZ;have x2:(ak==1)=false:=kZ;have x3:(c !=15)=false:=kZ;have x4:(n !=0)=true:=kZ
    have HV:Hid (askF c ⟨ak,an,ac⟩ ⟨bk,bn,bc⟩ false o n=(0,1)):=by
     show askF c ⟨ak,an,ac⟩ ⟨bk,bn,bc⟩ false o n=(0,1);exact z2p ha hb kO (Or.inr (Or.inr hn))
    clear ha ha1 hb hj hn;go_wp2
    all_goals go_ret2
    all_goals exact⟨by rw[HV.out];rfl,hbw⟩
  ·skip
   have x0:(ak==0)=false:=kZ;have x1:(bk==0)=false:=kZ;have x2:(ak==1)=false:=kZ;have x3:(c !=15)=false:=kZ
   have HV:Hid (askF c ⟨ak,an,ac⟩ ⟨bk,bn,bc⟩ true o n=(0,1)):=by
    show askF c ⟨ak,an,ac⟩ ⟨bk,bn,bc⟩ true o n=(0,1);exact z2p ha hb kO (Or.inr (Or.inl rfl))
   clear ha ha1 hb hj;go_wp2
   all_goals go_ret2
   all_goals exact⟨by rw[HV.out];rfl,hbw⟩
 by_cases hk:c=16
 ·cases r
  ·by_cases hn:n=0
   ·skip
    have x0:(ak==0)=false:=kZ;have x1:(bk==0)=false:=kZ;have x2:(ak==1)=false:=kZ;have x3:(c !=15)=true:=kZ;have x4:(c !=16)=false:=kZ;have x5:(c==16)=true:=kZ;have x6:(n !=0)=false:=kZ
    have HV:Hid (askF c ⟨ak,an,ac⟩ ⟨bk,bn,bc⟩ false o n=(o,0)):=by
     show askF c ⟨ak,an,ac⟩ ⟨bk,bn,bc⟩ false o n=(o,0);exact zKi ha hb kO hk hn
    clear ha ha1 hb hj hk hn;go_wp2
    all_goals go_ret2
    all_goals exact⟨by rw[HV.out];rfl,hbw⟩
   ·skip
    have x0:(ak==0)=false:=kZ;have x1:(bk==0)=false:=kZ;have x2:(ak==1)=false:=kZ;have x3:(c !=15)=true:=kZ;have x4:(c !=16)=false:=kZ;have x5:(n !=0)=true:=kZ
    have HV:Hid (askF c ⟨ak,an,ac⟩ ⟨bk,bn,bc⟩ false o n=(0,1)):=by
     show askF c ⟨ak,an,ac⟩ ⟨bk,bn,bc⟩ false o n=(0,1);exact z2p ha hb kO (Or.inr (Or.inr hn))
    clear ha ha1 hb hj hk hn;go_wp2
    all_goals go_ret2
    all_goals exact⟨by rw[HV.out];rfl,hbw⟩
  ·skip
   have x0:(ak==0)=false:=kZ;have x1:(bk==0)=false:=kZ;have x2:(ak==1)=false:=kZ;have x3:(c !=15)=true:=kZ;have x4:(c !=16)=false:=kZ
   have HV:Hid (askF c ⟨ak,an,ac⟩ ⟨bk,bn,bc⟩ true o n=(0,1)):=by
    show askF c ⟨ak,an,ac⟩ ⟨bk,bn,bc⟩ true o n=(0,1);exact z2p ha hb kO (Or.inr (Or.inl rfl))
   clear ha ha1 hb hj hk;go_wp2
   all_goals go_ret2
   all_goals exact⟨by rw[HV.out];rfl,hbw⟩
 skip;have x0:(ak==0)=false:=kZ;have x1:(bk==0)=false:=kZ;have x2:(ak==1)=false:=kZ;have x3:(c !=15)=true:=kZ;have x4:(c !=16)=true:=kZ
 have HV:Hid (askF c ⟨ak,an,ac⟩ ⟨bk,bn,bc⟩ r o n=(0,1)):=by
  show askF c ⟨ak,an,ac⟩ ⟨bk,bn,bc⟩ r o n=(0,1);exact z2p ha hb kO (Or.inl ⟨hj,hk⟩)
 clear ha ha1 hb hj hk;go_wp2
 all_goals go_ret2
 all_goals exact⟨by rw[HV.out];rfl,hbw⟩
theorem zYj(B d s:Nat)(c o n:Int)(r:Bool)(m:Mac)(hd:d<11)(hs:s<11)(fk fn fc:Int)(HA:Hid (m.reg s=⟨fk,fn,fc⟩))(t E:Int)(HR:Hid (z0x ⟨fk,fn,fc⟩ o=(t,E)))(hE:(E !=0)=true)(w:World)(hM:z0a w B m):
  zR 96 #[pT (some ⟨B,0,none⟩),.agg #[A F c,A F d,A F s,.bool r,A F o,A F n]] w (A F E):=by
 have hB:=hM.lt;have hF0:Frm w.heap.size B c d s r o n m _:=Frm.start hM;obtain⟨p0,p1,p2,p3,p4,p5⟩:=hF0.cells;obtain⟨h0,h1,h2⟩:=hF0.mac.reg hs;rw[HA.out]at h0 h1 h2;have hs0:(0:Int)<=(s:Int):=kO;have hs1:(s:Int)<11:=kO;have hd0:(0:Int)<=(d:Int):=kO;have hd1:(d:Int)<11:=kO;go_enter Tryz.func96,Tryz.ntmps96;go_wp2_with fail;go_region
 all_goals go_wp2_with(first
  |(go_at_call 122;refine(z40 ⟨fk,fn,fc⟩ o _).mono ?_;rintro e w1 ⟨rfl,hb1⟩;rw[HR.out];have hF1:Frm w.heap.size B c d s r o n m w1:=Frm.later kF hb1;have hbw:Below w.heap.size w w1:=kT hb1;obtain⟨v0,v1,v2,v3,v4,v5⟩:=hF1.cells;have v6:=z0b hb1 (w.heap.size+1);(try simp[go_sem]at v6);have hS1:=hF1.ltS;have hB1:=hF1.mac.lt;have hne:B≠w1.heap.size:=kO;have hne2:w.heap.size≠w1.heap.size:=kO)
  |go_in)
 all_goals go_ret
 all_goals exact⟨rfl,hbw⟩
theorem zQy(B d s t:Nat)(c o n:Int)(r:Bool)(m:Mac)(hd:d<11)(hs:s<11)(fk fn fc:Int)(HA:Hid (m.reg s=⟨fk,fn,fc⟩))(ht:t<8)(HR:Hid (z0x ⟨fk,fn,fc⟩ o=(((t:Nat):Int),0)))(hk:(fk==2)=true)(w:World)(hM:z0a w B m):
  Calls tP 96 #[pT (some ⟨B,0,none⟩),.agg #[A F c,A F d,A F s,.bool r,A F o,A F n]] w fun e w'=>e= rT (A F 0)/\Kept B w w'/\z0a w' B (m.putReg d ⟨1,m.word t,0⟩):=by
 have hB:=hM.lt;have hF0:Frm w.heap.size B c d s r o n m _:=Frm.start hM;obtain⟨p0,p1,p2,p3,p4,p5⟩:=hF0.cells;obtain⟨h0,h1,h2⟩:=hF0.mac.reg hs;rw[HA.out]at h0 h1 h2;have hs0:(0:Int)<=(s:Int):=kO;have hs1:(s:Int)<11:=kO;have hd0:(0:Int)<=(d:Int):=kO;have hd1:(d:Int)<11:=kO;have ht0:(0:Int)<=(t:Int):=kO;have ht1:(t:Int)<8:=kO;go_enter Tryz.func96,Tryz.ntmps96;go_wp2_with fail;go_region
 all_goals go_wp2_with(first
  |(go_at_call 122;refine(z40 ⟨fk,fn,fc⟩ o _).mono ?_;rintro e w1 ⟨rfl,hb1⟩;rw[HR.out];have hF1:Frm w.heap.size B c d s r o n m w1:=Frm.later kF hb1;have hbw:Below w.heap.size w w1:=kT hb1;obtain⟨v0,v1,v2,v3,v4,v5⟩:=hF1.cells;have v6:=z0b hb1 (w.heap.size+1);(try simp[go_sem]at v6);have hS1:=hF1.ltS;have hB1:=hF1.mac.lt;have hne:B≠w1.heap.size:=kO;have hne2:w.heap.size≠w1.heap.size:=kO;have q0:=hF1.mac.word ht)
  |(go_at_call 123;refine(z69 (m.word t) _).mono ?_;rintro e w2 ⟨rfl,hb2⟩;simp only[Val.v,numF];obtain⟨a0,a1,a2,z0,z1,z2,hl⟩:=z9h hb2;have hF2:Frm w.heap.size B c d s r o n m w2:=Frm.later (hF1.alloc _) hb2;obtain⟨u0,u1,u2,u3,u4,u5⟩:=hF2.cells;obtain⟨i0,i1,i2⟩:=hF2.mac.reg hd;have f0:=hF2.mac.frozen (2+d*3);have f1:=hF2.mac.frozen (2+d*3+1);have f2:=hF2.mac.frozen (2+d*3+2);have hS2:=hF2.ltS;have hB2:=hF2.mac.lt)
  |go_in)
 all_goals go_region
 all_goals go_wp2
 all_goals go_ret
 all_goals have HK:Kept B w w2:=z1x (z1j (z09 hbw B) _) hb2
 all_goals have HM:=hF2.mac
 all_goals exact⟨rfl,kK,(by repeat' first|with_reducible assumption|with_reducible(first|refine z0a.drew ?_|refine z0a.put3 ?_ hd _ _ _|refine z0a.slot3 ?_ ht _ _ _|refine z0a.cel1 ?_ hct _|refine z0a.off ?_ _ _ ?_|refine z0a.alloc ?_ _)|((try dsimp only);omega))⟩
theorem zQz(B d s t:Nat)(c o n:Int)(r:Bool)(m:Mac)(hd:d<11)(hs:s<11)(fk fn fc:Int)(HA:Hid (m.reg s=⟨fk,fn,fc⟩))(ht:t<16)(HR:Hid (z0x ⟨fk,fn,fc⟩ o=(((t:Nat):Int),0)))(hk:(fk==2)=false)(hk3:(fk==3)=true)(sk sn sc:Int)(HS:Hid (m.slot t=⟨sk,sn,sc⟩))(hsk:(sk==0)=false)(w:World)(hM:z0a w B m):
  Calls tP 96 #[pT (some ⟨B,0,none⟩),.agg #[A F c,A F d,A F s,.bool r,A F o,A F n]] w fun e w'=>e= rT (A F 0)/\Kept B w w'/\z0a w' B (m.putReg d ⟨sk,sn,sc⟩):=by
 have hB:=hM.lt;have hF0:Frm w.heap.size B c d s r o n m _:=Frm.start hM;obtain⟨p0,p1,p2,p3,p4,p5⟩:=hF0.cells;obtain⟨h0,h1,h2⟩:=hF0.mac.reg hs;rw[HA.out]at h0 h1 h2;have hs0:(0:Int)<=(s:Int):=kO;have hs1:(s:Int)<11:=kO;have hd0:(0:Int)<=(d:Int):=kO;have hd1:(d:Int)<11:=kO;have ht0:(0:Int)<=(t:Int):=kO;have ht1:(t:Int)<16:=kO;go_enter Tryz.func96,Tryz.ntmps96;go_wp2_with fail;go_region
 all_goals go_wp2_with(first
  |(go_at_call 122;refine(z40 ⟨fk,fn,fc⟩ o _).mono ?_;rintro e w1 ⟨rfl,hb1⟩;rw[HR.out];have hF1:Frm w.heap.size B c d s r o n m w1:=Frm.later kF hb1;have hbw:Below w.heap.size w w1:=kT hb1;obtain⟨v0,v1,v2,v3,v4,v5⟩:=hF1.cells;have v6:=z0b hb1 (w.heap.size+1);(try simp[go_sem]at v6);have hS1:=hF1.ltS;have hB1:=hF1.mac.lt;have hne:B≠w1.heap.size:=kO;have hne2:w.heap.size≠w1.heap.size:=kO;obtain⟨q0,q1,q2⟩:=hF1.mac.slot ht;rw[HS.out]at q0 q1 q2;obtain⟨i0,i1,i2⟩:=hF1.mac.reg hd;have f0:=hF1.mac.frozen (2+d*3);have f1:=hF1.mac.frozen (2+d*3+1);have f2:=hF1.mac.frozen (2+d*3+2))
  |go_in)
 all_goals go_region
 all_goals go_wp2
 all_goals go_ret
 all_goals have HK:Kept B w w1:=z09 hbw B
 all_goals have HM:=hF1.mac
 all_goals exact⟨rfl,kK,(by repeat' first|with_reducible assumption|with_reducible(first|refine z0a.drew ?_|refine z0a.put3 ?_ hd _ _ _|refine z0a.slot3 ?_ ht _ _ _|refine z0a.cel1 ?_ hct _|refine z0a.off ?_ _ _ ?_|refine z0a.alloc ?_ _)|((try dsimp only);omega))⟩
theorem zNs(B d s t:Nat)(c o n:Int)(r:Bool)(m:Mac)(hd:d<11)(hs:s<11)(fk fn fc:Int)(HA:Hid (m.reg s=⟨fk,fn,fc⟩))(ht:t<16)(HR:Hid (z0x ⟨fk,fn,fc⟩ o=(((t:Nat):Int),0)))(hk:(fk==2)=false)(hk3:(fk==3)=true)(sk sn sc:Int)(HS:Hid (m.slot t=⟨sk,sn,sc⟩))(hsk:(sk==0)=true)(w:World)(hM:z0a w B m):
  zR 96 #[pT (some ⟨B,0,none⟩),.agg #[A F c,A F d,A F s,.bool r,A F o,A F n]] w (A F 8):=by
 have hB:=hM.lt;have hF0:Frm w.heap.size B c d s r o n m _:=Frm.start hM;obtain⟨p0,p1,p2,p3,p4,p5⟩:=hF0.cells;obtain⟨h0,h1,h2⟩:=hF0.mac.reg hs;rw[HA.out]at h0 h1 h2;have hs0:(0:Int)<=(s:Int):=kO;have hs1:(s:Int)<11:=kO;have hd0:(0:Int)<=(d:Int):=kO;have hd1:(d:Int)<11:=kO;have ht0:(0:Int)<=(t:Int):=kO;have ht1:(t:Int)<16:=kO;go_enter Tryz.func96,Tryz.ntmps96;go_wp2_with fail;go_region
 all_goals go_wp2_with(first
  |(go_at_call 122;refine(z40 ⟨fk,fn,fc⟩ o _).mono ?_;rintro e w1 ⟨rfl,hb1⟩;rw[HR.out];have hF1:Frm w.heap.size B c d s r o n m w1:=Frm.later kF hb1;have hbw:Below w.heap.size w w1:=kT hb1;obtain⟨v0,v1,v2,v3,v4,v5⟩:=hF1.cells;have v6:=z0b hb1 (w.heap.size+1);(try simp[go_sem]at v6);have hS1:=hF1.ltS;have hB1:=hF1.mac.lt;have hne:B≠w1.heap.size:=kO;have hne2:w.heap.size≠w1.heap.size:=kO;obtain⟨q0,q1,q2⟩:=hF1.mac.slot ht;rw[HS.out]at q0 q1 q2)
  |go_in)
 all_goals go_ret
 all_goals exact⟨rfl,kB⟩
theorem zR1(B d s t fcn:Nat)(c o n:Int)(r:Bool)(m:Mac)(hd:d<11)(hs:s<11)(fk fn:Int)(HA:Hid (m.reg s=⟨fk,fn,(fcn:Int)⟩))(hfc:fcn<4)(ht:t<4)(HR:Hid (z0x ⟨fk,fn,fcn⟩ o=(((t:Nat):Int),0)))(hk:(fk==2)=false)(hk3:(fk==3)=false)(hk4:(fk==4)=true)(w:World)(hM:z0a w B m):
  Calls tP 96 #[pT (some ⟨B,0,none⟩),.agg #[A F c,A F d,A F s,.bool r,A F o,A F n]] w fun e w'=>e= rT (A F 0)/\Kept B w w'/\z0a w' B (m.putReg d ⟨1,m.cel (fcn*4+t),0⟩):=by
 have hB:=hM.lt;have hF0:Frm w.heap.size B c d s r o n m _:=Frm.start hM;obtain⟨p0,p1,p2,p3,p4,p5⟩:=hF0.cells;obtain⟨h0,h1,h2⟩:=hF0.mac.reg hs;rw[HA.out]at h0 h1 h2;have hs0:(0:Int)<=(s:Int):=kO;have hs1:(s:Int)<11:=kO;have hd0:(0:Int)<=(d:Int):=kO;have hd1:(d:Int)<11:=kO;have ht0:(0:Int)<=(t:Int):=kO;have ht1:(t:Int)<4:=kO;have hc0:(0:Int)<=(fcn:Int):=kO;have hc1:(fcn:Int)<4:=kO;go_enter Tryz.func96,Tryz.ntmps96;go_wp2_with fail;go_region
 all_goals go_wp2_with(first
  |(go_at_call 122;refine(z40 ⟨fk,fn,(fcn:Int)⟩ o _).mono ?_;rintro e w1 ⟨rfl,hb1⟩;rw[HR.out];have hF1:Frm w.heap.size B c d s r o n m w1:=Frm.later kF hb1;have hbw:Below w.heap.size w w1:=kT hb1;obtain⟨v0,v1,v2,v3,v4,v5⟩:=hF1.cells;have v6:=z0b hb1 (w.heap.size+1);(try simp[go_sem]at v6);have hS1:=hF1.ltS;have hB1:=hF1.mac.lt;have hne:B≠w1.heap.size:=kO;have hne2:w.heap.size≠w1.heap.size:=kO;have q0:w1.cell? ⟨B,91+fcn*4+t,none⟩=some (A F (m.cel (fcn*4+t))):=(by rw[Nat.add_assoc];exact hF1.mac.cel (d:=fcn*4+t) kO);have q1:w1.cell? ⟨w.heap.size+1,2,none⟩=some (A F fcn):=(by rw[v6.1];rfl))
  |(go_at_call 123;fail)
  |go_in)
 all_goals go_region_held3 (fun w'=>w'.cell? ⟨w.heap.size+1,2,none⟩=some (A F fcn)/\w'.cell? ⟨B,91+fcn*4+t,none⟩=some (A F (m.cel (fcn*4+t)))) (first|(simp[go_sem];done)|(simp[go_sem, *];done)|go_keep) (first
  |(go_at_call 123;refine(z69 (m.cel (fcn*4+t)) _).mono ?_;rintro e w2 ⟨rfl,hb2⟩;simp only[Val.v,numF];have hb2:=z52 hb2;have hb12:=z6g hb2;have y0:w2.cell? ⟨w.heap.size+1,2,none⟩=some (A F fcn):=(hb12.cell (p:=⟨w.heap.size+1,2,none⟩) v6.2.2).trans q1;have y1:w2.cell? ⟨B,91+fcn*4+t,none⟩=some (A F (m.cel (fcn*4+t))):=(hb12.cell (p:=⟨B,91+fcn*4+t,none⟩) hB1).trans q0;obtain⟨a0,a1,a2,z0,z1,z2,hl⟩:=z9h hb2;have hF2:Frm w.heap.size B c d s r o n m w2:=Frm.later (hF1.alloc _) hb2;obtain⟨u0,u1,u2,u3,u4,u5⟩:=hF2.cells;obtain⟨i0,i1,i2⟩:=hF2.mac.reg hd;have f0:=hF2.mac.frozen (2+d*3);have f1:=hF2.mac.frozen (2+d*3+1);have f2:=hF2.mac.frozen (2+d*3+2);have hS2:=hF2.ltS;have hB2:=hF2.mac.lt))
 all_goals go_wp2_with fail
 all_goals go_region
 all_goals go_wp2
 all_goals go_ret
 all_goals have HK:Kept B w w2:=z1x (z09 hbw B) hb12
 all_goals have HM:=hF2.mac
 all_goals exact⟨rfl,kK,(by repeat' first|with_reducible assumption|with_reducible(first|refine z0a.drew ?_|refine z0a.put3 ?_ hd _ _ _|refine z0a.slot3 ?_ ht _ _ _|refine z0a.cel1 ?_ hct _|refine z0a.off ?_ _ _ ?_|refine z0a.alloc ?_ _)|((try dsimp only);omega))⟩
theorem zB9:(∀(B d s:Nat)(c o n:Int)(r:Bool)(m:Mac)(hd:d<11)(hs:s<11)(ak an ac bk bn bc:Int)(HA:Hid (m.reg d=⟨ak,an,ac⟩))(HB:Hid (m.second s r n=⟨bk,bn,bc⟩))(t E:Int)(HR:Hid (z0x ⟨ak,an,ac⟩ o=(t,E)))(hE:(E !=0)=true)(w:World)(hM:z0a w B m),zR 97 #[pT (some ⟨B,0,none⟩),.agg #[A F c,A F d,A F s,.bool r,A F o,A F n]] w (A F E))/\(∀(B d s t:Nat)(c o n:Int)(r:Bool)(m:Mac)(hd:d<11)(hs:s<11)(ak an ac bk bn bc:Int)(HA:Hid (m.reg d=⟨ak,an,ac⟩))(HB:Hid (m.second s r n=⟨bk,bn,bc⟩))(HR:Hid (z0x ⟨ak,an,ac⟩ o=(((t:Nat):Int),0)))(hk:(ak==2)=false)(hv:(bk==0)=false)(hk3:(ak==3)=false)(hv1:(bk !=1)=true)(w:World)(hM:z0a w B m),zR 97 #[pT (some ⟨B,0,none⟩),.agg #[A F c,A F d,A F s,.bool r,A F o,A F n]] w (A F 1))/\(∀(B d s t:Nat)(c o n:Int)(r:Bool)(m:Mac)(hd:d<11)(hs:s<11)(ak an ac bk bn bc:Int)(HA:Hid (m.reg d=⟨ak,an,ac⟩))(HB:Hid (m.second s r n=⟨bk,bn,bc⟩))(HR:Hid (z0x ⟨ak,an,ac⟩ o=(((t:Nat):Int),0)))(hk:(ak==2)=false)(hv:(bk==0)=true)(w:World)(hM:z0a w B m),zR 97 #[pT (some ⟨B,0,none⟩),.agg #[A F c,A F d,A F s,.bool r,A F o,A F n]] w (A F 8))/\(∀(B d s t:Nat)(c o n:Int)(r:Bool)(m:Mac)(hd:d<11)(hs:s<11)(ak an ac bk bn bc:Int)(HA:Hid (m.reg d=⟨ak,an,ac⟩))(HB:Hid (m.second s r n=⟨bk,bn,bc⟩))(HR:Hid (z0x ⟨ak,an,ac⟩ o=(((t:Nat):Int),0)))(hk:(ak==2)=true)(w:World)(hM:z0a w B m),zR 97 #[pT (some ⟨B,0,none⟩),.agg #[A F c,A F d,A F s,.bool r,A F o,A F n]] w (A F 6))/\(∀(B d s t:Nat)(c o n:Int)(r:Bool)(m:Mac)(hd:d<11)(hs:s<11)(ak an ac bk bn bc:Int)(HA:Hid (m.reg d=⟨ak,an,ac⟩))(HB:Hid (m.second s r n=⟨bk,bn,bc⟩))(HR:Hid (z0x ⟨ak,an,ac⟩ o=(((t:Nat):Int),0)))(ht:t<16)(hk:(ak==2)=false)(hv:(bk==0)=false)(hk3:(ak==3)=true)(w:World)(hM:z0a w B m),Calls tP 97 #[pT (some ⟨B,0,none⟩),.agg #[A F c,A F d,A F s,.bool r,A F o,A F n]] w fun e w'=>e= rT (A F 0)/\Kept B w w'/\z0a w' B (m.putSlot t ⟨bk,bn,bc⟩)):=by
 refine⟨?_,?_,?_,?_,?_⟩;intro B d s c o n r m hd hs ak an ac bk bn bc HA HB t E HR hE w hM;rotate_left;intro B d s t c o n r m hd hs ak an ac bk bn bc HA HB HR hk hv hk3 hv1 w hM;rotate_left;intro B d s t c o n r m hd hs ak an ac bk bn bc HA HB HR hk hv w hM;rotate_left;intro B d s t c o n r m hd hs ak an ac bk bn bc HA HB HR hk w hM;rotate_left;intro B d s t c o n r m hd hs ak an ac bk bn bc HA HB HR ht hk hv hk3 w hM;rotate_left
 all_goals
  have hB:=hM.lt;have hF0:Frm w.heap.size B c d s r o n m _:=Frm.start hM;obtain⟨p0,p1,p2,p3,p4,p5⟩:=hF0.cells;obtain⟨h0,h1,h2⟩:=hF0.mac.reg hd;rw[HA.out]at h0 h1 h2;have hd0:(0:Int)<=(d:Int):=kO;have hd1:(d:Int)<11:=kO
 rotate_left;rotate_left;rotate_left;rotate_left;have ht0:(0:Int)<=(t:Int):=kO;have ht1:(t:Int)<16:=kO;rotate_left
 all_goals
  go_enter Tryz.func97,Tryz.ntmps97;go_wp2_with fail;go_cut [5,6] (fun s6 s7 wx=> ∃L K:Nat,s6= pT (some ⟨L,0,none⟩)/\s7= pT (some ⟨K,0,none⟩)/\Below w.heap.size w wx/\Frm w.heap.size B c d s r o n m wx/\L<wx.heap.size/\K<wx.heap.size/\wx.cell? ⟨L,0,none⟩=some (A F ak)/\wx.cell? ⟨L,1,none⟩=some (A F an)/\wx.cell? ⟨L,2,none⟩=some (A F ac)/\wx.cell? ⟨K,0,none⟩=some (A F bk)/\wx.cell? ⟨K,1,none⟩=some (A F bn)/\wx.cell? ⟨K,2,none⟩=some (A F bc))
  case first=>
   go_region_held3 (fun w'=>w'.cell? ⟨w.heap.size,0,none⟩=some (A F c)/\w'.cell? ⟨w.heap.size,1,none⟩=some (A F d)/\w'.cell? ⟨w.heap.size,2,none⟩=some (A F s)/\w'.cell? ⟨w.heap.size,3,none⟩=some (.bool r)/\w'.cell? ⟨w.heap.size,4,none⟩=some (A F o)/\w'.cell? ⟨w.heap.size,5,none⟩=some (A F n)/\w'.cell? ⟨B,2+d*3,none⟩=some (A F ak)/\w'.cell? ⟨B,2+d*3+1,none⟩=some (A F an)/\w'.cell? ⟨B,2+d*3+2,none⟩=some (A F ac)) (first|(simp[go_sem];done)|(simp[go_sem, *];done)|go_keep) (first
    |(go_at_call 120;refine(z65 B s c d o n r m hs _ (Frm.mac (S:=w.heap.size) (c:=c) (d:=d) (s:=s) (r:=r) (o:=o) (n:=n) kF)).mono ?_;rintro e w1 ⟨rfl,hb1⟩;rw[HB.out];simp only[Val.v];have hF1:Frm w.heap.size B c d s r o n m w1:=Frm.later kF hb1;have hbw1:Below w.heap.size w w1:=kT hb1;obtain⟨v0,v1,v2,v3,v4,v5⟩:=hF1.cells;obtain⟨i0,i1,i2⟩:=hF1.mac.reg hd;rw[HA.out]at i0 i1 i2;have hS1:=hF1.ltS;have hB1:=hF1.mac.lt;have v6:=z0b hb1 (w.heap.size+1);(try simp[go_sem]at v6);have v7:=z0b hb1 (w.heap.size+1+1);(try simp[go_sem]at v7)))
   all_goals(go_wp2_with fail;go_meet)
   all_goals refine⟨_,_,rfl,rfl,?_,?_,?_,?_,?_,?_,?_,?_,?_,?_⟩
   all_goals clear HA HB p0 p1 p2 p3 p4 p5 h0 h1 h2 hF0
   all_goals first
    |(with_reducible refine bA ?_ ?_ _;(repeat' first|with_reducible assumption|with_reducible(first|refine bA ?_ ?_ _|refine bS ?_ ?_ _)|((try dsimp only);omega)|(simp;done)|(simp;omega));done)
    |(with_reducible refine bS ?_ ?_ _;(repeat' first|with_reducible assumption|with_reducible(first|refine bA ?_ ?_ _|refine bS ?_ ?_ _)|((try dsimp only);omega)|(simp;done)|(simp;omega));done)
    |(with_reducible refine Frm.alloc ?_ _;(repeat' first|with_reducible assumption|with_reducible(first|refine Frm.alloc ?_ _|refine Frm.set ?_ _ _ ?_ ?_)|((try dsimp only);omega)|(simp;done)|(simp;omega));done)
    |(with_reducible refine Frm.set ?_ _ _ ?_ ?_;(repeat' first|with_reducible assumption|with_reducible(first|refine Frm.alloc ?_ _|refine Frm.set ?_ _ _ ?_ ?_)|((try dsimp only);omega)|(simp;done)|(simp;omega));done)
    |(simp;done)|(simp;omega)|(simp[go_sem];done)|(simp[go_sem,v6];done)|(simp[go_sem,v7];done)|(simp[go_sem, *];done)
  obtain⟨L,K,rfl,rfl,hbw,hFx,hL,hK,l0,l1,l2,g0,g1,g2⟩:=hcut;obtain⟨v0,v1,v2,v3,v4,v5⟩:=hFx.cells;have hSx:=hFx.ltS;have hBx:=hFx.mac.lt;clear p0 p1 p2 p3 p4 p5 h0 h1 h2 hF0 HA HB hM
 iterate 4
  ·go_wp2_with(first
    |(go_at_call 122;refine(z40 ⟨ak,an,ac⟩ o _).mono ?_;rintro e w1 ⟨rfl,hb1⟩;rw[HR.out];have hF1:Frm w.heap.size B c d s r o n m w1:=hFx.later hb1;have hbw1:Below w.heap.size w w1:=hbw.trans (hb1.mono hbw.size);have l0:=(hb1.cell (p:=⟨L,0,none⟩) hL).trans l0;have l1:=(hb1.cell (p:=⟨L,1,none⟩) hL).trans l1;have l2:=(hb1.cell (p:=⟨L,2,none⟩) hL).trans l2;have g0:=(hb1.cell (p:=⟨K,0,none⟩) hK).trans g0;have g1:=(hb1.cell (p:=⟨K,1,none⟩) hK).trans g1;have g2:=(hb1.cell (p:=⟨K,2,none⟩) hK).trans g2;have hL:=Nat.lt_of_lt_of_le hL hb1.size;have hK:=Nat.lt_of_lt_of_le hK hb1.size;have hB1:=hF1.mac.lt)
    |go_in)
   all_goals go_ret
   all_goals exact⟨rfl,hbw1⟩
 ·go_wp2_with(first
   |(go_at_call 122;refine(z40 ⟨ak,an,ac⟩ o _).mono ?_;rintro e w1 ⟨rfl,hb1⟩;rw[HR.out];have hF1:Frm w.heap.size B c d s r o n m w1:=hFx.later hb1;have hbw1:Below w.heap.size w w1:=hbw.trans (hb1.mono hbw.size);have l0:=(hb1.cell (p:=⟨L,0,none⟩) hL).trans l0;have l1:=(hb1.cell (p:=⟨L,1,none⟩) hL).trans l1;have l2:=(hb1.cell (p:=⟨L,2,none⟩) hL).trans l2;have g0:=(hb1.cell (p:=⟨K,0,none⟩) hK).trans g0;have g1:=(hb1.cell (p:=⟨K,1,none⟩) hK).trans g1;have g2:=(hb1.cell (p:=⟨K,2,none⟩) hK).trans g2;have hL:=Nat.lt_of_lt_of_le hL hb1.size;have hK:=Nat.lt_of_lt_of_le hK hb1.size;have hB1:=hF1.mac.lt;obtain⟨i0,i1,i2⟩:=hF1.mac.slot ht;have f0:=hF1.mac.frozen (35+t*3);have f1:=hF1.mac.frozen (35+t*3+1);have f2:=hF1.mac.frozen (35+t*3+2))
   |go_in)
  all_goals go_region
  all_goals go_wp2
  all_goals go_ret
  all_goals have HK:Kept B w w1:=z09 hbw1 B
  all_goals have HM:=hF1.mac
  all_goals exact⟨rfl,kK,(by repeat' first|with_reducible assumption|with_reducible(first|refine z0a.drew ?_|refine z0a.put3 ?_ hd _ _ _|refine z0a.slot3 ?_ ht _ _ _|refine z0a.cel1 ?_ hct _|refine z0a.off ?_ _ _ ?_|refine z0a.alloc ?_ _)|((try dsimp only);omega))⟩
def zT4:=zB9.1
def zPq:=zB9.2.1
def zMp:=zB9.2.2.1
def zMn:=zB9.2.2.2.1
def zMo:=zB9.2.2.2.2
theorem zMq(B d s t acn:Nat)(c o n:Int)(r:Bool)(m:Mac)(hd:d<11)(hs:s<11)(ak an bk bn bc:Int)(HA:Hid (m.reg d=⟨ak,an,(acn:Int)⟩))(HB:Hid (m.second s r n=⟨bk,bn,bc⟩))(HR:Hid (z0x ⟨ak,an,(acn:Int)⟩ o=(((t:Nat):Int),0)))(ht:t<4)(hac:acn<4)(hk:(ak==2)=false)(hv:(bk==0)=false)(hk3:(ak==3)=false)(hv1:(bk !=1)=false)(w:World)(hM:z0a w B m):
  Calls tP 97 #[pT (some ⟨B,0,none⟩),.agg #[A F c,A F d,A F s,.bool r,A F o,A F n]] w fun e w'=>e= rT (A F 0)/\Kept B w w'/\z0a w' B (m.putCel (acn*4+t) bn):=by
 have hB:=hM.lt;have hF0:Frm w.heap.size B c d s r o n m _:=Frm.start hM;obtain⟨p0,p1,p2,p3,p4,p5⟩:=hF0.cells;obtain⟨h0,h1,h2⟩:=hF0.mac.reg hd;rw[HA.out]at h0 h1 h2;have hd0:(0:Int)<=(d:Int):=kO;have hd1:(d:Int)<11:=kO;have ht0:(0:Int)<=(t:Int):=kO;have ht1:(t:Int)<4:=kO;have hc0:(0:Int)<=(acn:Int):=kO;have hc1:(acn:Int)<4:=kO;have hct:acn*4+t<16:=kO;go_enter Tryz.func97,Tryz.ntmps97;go_wp2_with fail;go_cut [5,6] (fun s6 s7 wx=> ∃L K:Nat,s6= pT (some ⟨L,0,none⟩)/\s7= pT (some ⟨K,0,none⟩)/\Below w.heap.size w wx/\Frm w.heap.size B c d s r o n m wx/\L<wx.heap.size/\K<wx.heap.size/\wx.cell? ⟨L,0,none⟩=some (A F ak)/\wx.cell? ⟨L,1,none⟩=some (A F an)/\wx.cell? ⟨L,2,none⟩=some (A F (acn:Int))/\wx.cell? ⟨K,0,none⟩=some (A F bk)/\wx.cell? ⟨K,1,none⟩=some (A F bn)/\wx.cell? ⟨K,2,none⟩=some (A F bc))
 case first=>
  go_region_held3 (fun w'=>w'.cell? ⟨w.heap.size,0,none⟩=some (A F c)/\w'.cell? ⟨w.heap.size,1,none⟩=some (A F d)/\w'.cell? ⟨w.heap.size,2,none⟩=some (A F s)/\w'.cell? ⟨w.heap.size,3,none⟩=some (.bool r)/\w'.cell? ⟨w.heap.size,4,none⟩=some (A F o)/\w'.cell? ⟨w.heap.size,5,none⟩=some (A F n)/\w'.cell? ⟨B,2+d*3,none⟩=some (A F ak)/\w'.cell? ⟨B,2+d*3+1,none⟩=some (A F an)/\w'.cell? ⟨B,2+d*3+2,none⟩=some (A F (acn:Int))) (first|(simp[go_sem];done)|(simp[go_sem, *];done)|go_keep) (first
   |(go_at_call 120;refine(z65 B s c d o n r m hs _ (Frm.mac (S:=w.heap.size) (c:=c) (d:=d) (s:=s) (r:=r) (o:=o) (n:=n) kF)).mono ?_;rintro e w1 ⟨rfl,hb1⟩;rw[HB.out];simp only[Val.v];have hF1:Frm w.heap.size B c d s r o n m w1:=Frm.later kF hb1;have hbw1:Below w.heap.size w w1:=kT hb1;obtain⟨v0,v1,v2,v3,v4,v5⟩:=hF1.cells;obtain⟨i0,i1,i2⟩:=hF1.mac.reg hd;rw[HA.out]at i0 i1 i2;have hS1:=hF1.ltS;have hB1:=hF1.mac.lt;have v6:=z0b hb1 (w.heap.size+1);(try simp[go_sem]at v6);have v7:=z0b hb1 (w.heap.size+1+1);(try simp[go_sem]at v7)))
  all_goals(go_wp2_with fail;go_meet)
  all_goals refine⟨_,_,rfl,rfl,?_,?_,?_,?_,?_,?_,?_,?_,?_,?_⟩
  all_goals clear HA HB p0 p1 p2 p3 p4 p5 h0 h1 h2 hF0
  all_goals first
   |(with_reducible refine bA ?_ ?_ _;(repeat' first|with_reducible assumption|with_reducible(first|refine bA ?_ ?_ _|refine bS ?_ ?_ _)|((try dsimp only);omega)|(simp;done)|(simp;omega));done)
   |(with_reducible refine bS ?_ ?_ _;(repeat' first|with_reducible assumption|with_reducible(first|refine bA ?_ ?_ _|refine bS ?_ ?_ _)|((try dsimp only);omega)|(simp;done)|(simp;omega));done)
   |(with_reducible refine Frm.alloc ?_ _;(repeat' first|with_reducible assumption|with_reducible(first|refine Frm.alloc ?_ _|refine Frm.set ?_ _ _ ?_ ?_)|((try dsimp only);omega)|(simp;done)|(simp;omega));done)
   |(with_reducible refine Frm.set ?_ _ _ ?_ ?_;(repeat' first|with_reducible assumption|with_reducible(first|refine Frm.alloc ?_ _|refine Frm.set ?_ _ _ ?_ ?_)|((try dsimp only);omega)|(simp;done)|(simp;omega));done)
   |(simp;done)|(simp;omega)|(simp[go_sem];done)|(simp[go_sem,v6];done)|(simp[go_sem,v7];done)|(simp[go_sem, *];done)
 obtain⟨L,K,rfl,rfl,hbw,hFx,hL,hK,l0,l1,l2,g0,g1,g2⟩:=hcut;obtain⟨v0,v1,v2,v3,v4,v5⟩:=hFx.cells;have hSx:=hFx.ltS;have hBx:=hFx.mac.lt;clear p0 p1 p2 p3 p4 p5 h0 h1 h2 hF0 HA HB hM
 go_wp2_with(first
  |(go_at_call 122;refine(z40 ⟨ak,an,(acn:Int)⟩ o _).mono ?_;rintro e w1 ⟨rfl,hb1⟩;rw[HR.out];have hF1:Frm w.heap.size B c d s r o n m w1:=hFx.later hb1;have hbw1:Below w.heap.size w w1:=hbw.trans (hb1.mono hbw.size);have l0:=(hb1.cell (p:=⟨L,0,none⟩) hL).trans l0;have l1:=(hb1.cell (p:=⟨L,1,none⟩) hL).trans l1;have l2:=(hb1.cell (p:=⟨L,2,none⟩) hL).trans l2;have g0:=(hb1.cell (p:=⟨K,0,none⟩) hK).trans g0;have g1:=(hb1.cell (p:=⟨K,1,none⟩) hK).trans g1;have g2:=(hb1.cell (p:=⟨K,2,none⟩) hK).trans g2;have hL:=Nat.lt_of_lt_of_le hL hb1.size;have hK:=Nat.lt_of_lt_of_le hK hb1.size;have hB1:=hF1.mac.lt;have i0:w1.cell? ⟨B,91+acn*4+t,none⟩=some (A F (m.cel (acn*4+t))):=(by rw[Nat.add_assoc];exact hF1.mac.cel (d:=acn*4+t) kO);have f0:=hF1.mac.frozen (91+acn*4+t))
  |go_in)
 all_goals go_region
 all_goals go_wp2
 all_goals go_ret
 all_goals have HK:Kept B w w1:=z09 hbw1 B
 all_goals have HM:=hF1.mac
 all_goals rw[Nat.add_assoc 91 (acn*4) t]
 all_goals exact⟨rfl,kK,(by repeat' first|with_reducible assumption|with_reducible(first|refine z0a.drew ?_|refine z0a.put3 ?_ hd _ _ _|refine z0a.slot3 ?_ ht _ _ _|refine z0a.cel1 ?_ hct _|refine z0a.off ?_ _ _ ?_|refine z0a.alloc ?_ _)|((try dsimp only);omega))⟩
def Mac.lose(m:Mac):Mac:={m with reg:=fun i=>if 1<=i/\i<=5 then z2s else m.reg i}
theorem Mac.lose_put(m:Mac):m.lose=((((m.putReg 1 z2s).putReg 2 z2s).putReg 3 z2s).putReg 4 z2s).putReg 5 z2s:=by
 unfold Mac.lose Mac.putReg;congr 1;funext i
 by_cases h:1<=i/\i<=5
 ·rw[if_pos h]
  rcases(show i=1\/i=2\/i=3\/i=4\/i=5 by omega)with rfl|rfl|rfl|rfl|rfl<;>rfl
 rw[if_neg h];show _=if i=5 then z2s else if i=4 then z2s else if i=3 then z2s else if i=2 then z2s else if i=1 then z2s else m.reg i;rw[if_neg kO,if_neg kO,if_neg kO,if_neg kO,if_neg kO]
theorem zHb{w:World}{B:Nat}{m:Mac}(hM:z0a w B m): ∃w',(Builtin.clear_ #[265] 0 #[.slice (some ⟨B,5,none⟩) 5 10]).run tP w= .ok (.tuple #[]) w'/\Kept B w w'/\z0a w' B m.lose:=by
 have hst:=run_storeCells_cells (P:=tP) B 5 (List.replicate 15 (A F 0)) 0 w (by
  intro j hj;rw[List.length_replicate]at hj;rw[hM.at _ kO];rfl) (by intro j hj;exact hM.frozen _) (by intro v hv';rw[List.eq_of_mem_replicate hv'];rfl)
 simp only[Nat.add_zero]at hst;have hzc:(Builtin.zeroCells (Value.agg #[A F 0,A F 0,A F 0]).cells 5).toList=List.replicate 15 (A F 0):=by first|rfl|kernel_rfl|(simp[Builtin.zeroCells];rfl)
 refine⟨w.setCells B 5 (List.replicate 15 (A F 0)),?_,?_,?_⟩
 ·generalize List.replicate 15 (Value.int .i64 0)=zs at hst hzc⊢
  simp[Builtin.clear_,run_underlying Tryz.underlying265,hzc,hst]
 ·show Kept B w (((((((((((((((w.setCell ⟨B,5,none⟩ _).setCell ⟨B,6,none⟩ _).setCell ⟨B,7,none⟩ _).setCell ⟨B,8,none⟩ _).setCell ⟨B,9,none⟩ _).setCell ⟨B,10,none⟩ _).setCell ⟨B,11,none⟩ _).setCell ⟨B,12,none⟩ _).setCell ⟨B,13,none⟩ _).setCell ⟨B,14,none⟩ _).setCell ⟨B,15,none⟩ _).setCell ⟨B,16,none⟩ _).setCell ⟨B,17,none⟩ _).setCell ⟨B,18,none⟩ _).setCell ⟨B,19,none⟩ _)
  repeat with_reducible refine z0v ?_ _ _
  exact z12 B w
 rw[m.lose_put];exact((((hM.put3 (d:=1) kD 0 0 0).put3 (d:=2) kD 0 0 0).put3 (d:=3) kD 0 0 0).put3 (d:=4) kD 0 0 0).put3 (d:=5) kD 0 0 0
theorem Tryz.infoI:(Tryz.prog.info? 2).map (fun i=>(i.zero,i.size,i.bytes))=some (some (A F 0),1,8):=kR
theorem zLp{w:World}{x:Value}{e:TypeId}{b:Nat}(hb:b=w.heap.size): ∀(j:Nat) u,[x][j]?=some u->(w.alloc (cT #[x] e)).cell? ((⟨b,0,none⟩:Addr).add j)=some u:=by
 subst hb;intro j u hj;match j,hj with
 |0,hj=>simp at hj;subst hj;simp[Addr.add]
theorem z0u.shape{w:World}{B:Nat}{v:Value}{L:List Int}(h:z0u w B v L): ∃a cap,v= .slice a L.length cap:=by
 rcases h.2 with⟨hv,hn⟩|⟨g,cap,_,hv,_⟩
 ·exact⟨none,0,by rw[hv,hn]⟩
 exact⟨some ⟨g,0,none⟩,cap,hv⟩
theorem zGb{w:World}{B:Nat}{e:TypeId}{z:Nat}{v:Value}{n:Nat}{xs:List Value}(h:w.ownsRow (B+1) e z v n xs):some B≠v.ownBlock:=by
 intro hh;have:=h.lt B hh.symm;omega
def zO5(L:List Int)(n:Int):List Int:=if L.length<50 then L++[n]else L
theorem zVc(B:Nat)(n:Int)(m:Mac)(L:List Int)(w:World)(hM:z0a w B m)(hO:z0u w B m.out L):
  Calls tP 125 #[pT (some ⟨B,0,none⟩),A F n] w fun e w'=>e= rT (.tuple #[])/\Below B w w'/\ ∃v',z0a w' B (m.setOut v')/\z0u w' B v' (zO5 L n):=by
 have hB:=hM.lt;have h0:=hM.outv;obtain⟨a,cap,hv⟩:=hO.shape;have hO':=hO;rw[hv]at h0 hO';have HV:Hid (m.out= .slice a L.length cap):=hv;have hg:zO5 L n=if L.length<50 then L++[n]else L:=rfl
 by_cases hk:L.length<50
 ·rw[if_pos hk]at hg
  have HG:Hid (zO5 L n=L++[n]):=hg;have HO:Hid (w.ownsRow (B+1) 2 1 (.slice a L.length cap) L.length (L.map (Value.int .i64))):=hO';have HL:Hid (L.length<50):=hk;have hk0:decide ((L.length:Int)<50)=true:=kZ;clear hv hg hO' hO hk;obtain⟨i0,hi,hz0,hz1,hz2⟩:=info_parts Tryz.infoI;generalize HN:L.length=k at h0 hk0;have HN':Hid (L.length=k):=HN;clear HN;go_enter Tryz.func125,Tryz.ntmps125;go_wp2_with(at_builtin;refine wpList_append_own _ rfl (.tmp 14) (.tmp 16) 91 rfl (B+1) 2 i0 (A F 0) 1 8 Tryz.underlying91 hi hz0 hz1 hz2 rfl kD (.slice a k cap) k (L.map (Value.int .i64)) rfl (by have:=HO.out;rw[HN'.out]at this;exact this.alloc _) ⟨w.heap.size,0,none⟩ 1 1 [A F n] rfl rfl (zLp rfl) (by intro u hu;simp at hu;subst hu;rfl) (by have:=HL.out;have:=HN'.out;unfold maxLen;omega) (by have:=HL.out;have:=HN'.out;omega) kZ ?_;intro v5 w5 hown5 hgrow5 _;have hM5:z0a w5 B m:=(hgrow5.block B kZ (by have:=HO.out;rw[HN'.out]at this;exact zGb this)).trans (hM.alloc _);have hB5:=hM5.lt;have k0:=hM5.outv;have f0:=hM5.frozen 108;obtain⟨g5,cp5,hv5⟩: ∃g5 cp5,v5= .slice (some ⟨g5,0,none⟩) (k+1) cp5:=(by rcases hown5.2 with⟨_,h⟩|⟨g,cap',_,h,_⟩;(omega);(exact⟨g,cap',h⟩));subst hv5);go_end0
  refine⟨rfl,?_,.slice (some ⟨g5,0,none⟩) (k+1) cp5,hM5.putOut _,?_⟩
  ·have hr:B<=(⟨B,108,none⟩:Addr).block:=Nat.le_refl _
   refine bS ?_ hr _
   exact((bF _ _).alloc kO _).grown hgrow5 kZ (fun j hj=>by
    have:=HO.out;rw[HN'.out]at this;have:=this.lt j hj;omega)
  ·rw[HG.out]
   unfold z0u;rw[List.length_append,HN'.out,List.map_append];exact ownsRow_setCell_below hown5 (Nat.lt_succ_self B) _
 rw[if_neg hk]at hg;have hk0:decide ((L.length:Int)<50)=false:=kZ;have HG:Hid (zO5 L n=L):=hg;have HO:Hid (z0u w B m.out L):=hO;clear hv hg hO' hO hk;go_enter Tryz.func125,Tryz.ntmps125;go_wp2;go_end0
 exact⟨rfl,bF _ _,m.out,hM,by rw[HG.out];exact HO.out⟩
theorem z0a.put0{w:World}{B:Nat}{m:Mac}(h:z0a w B m)(k n c:Int):z0a (((w.setCell ⟨B,2,none⟩ (A F k)).setCell ⟨B,3,none⟩ (A F n)).setCell ⟨B,4,none⟩ (A F c)) B (m.putReg 0 ⟨k,n,c⟩):=h.put3 (d:=0) kD k n c
theorem zRe(B:Nat)(m:Mac)(fk fn fc:Int)(HA:Hid (m.reg 1=⟨fk,fn,fc⟩))(E:Int)(HW:Hid (z23 ⟨fk,fn,fc⟩=E))(hE:(E !=0)=true)(w:World)(hM:z0a w B m):(zR 98 #[pT (some ⟨B,0,none⟩),A F 1] w (A F E))/\(zR 98 #[pT (some ⟨B,0,none⟩),A F 3] w (A F E)):=by
 refine⟨?_,?_⟩
 all_goals
  have hB:=hM.lt;obtain⟨h0,h1,h2⟩:=hM.reg (d:=1) kD;simp only[Nat.reduceMul,Nat.reduceAdd]at h0 h1 h2;rw[HA.out]at h0 h1 h2
 all_goals
  go_enter Tryz.func98,Tryz.ntmps98
  go_wp2_with(first
   |(go_at_call 66;refine(zDn fk fn fc _).mono ?_;rintro e w1 ⟨rfl,hb1⟩;rw[HW.out];have hM1:z0a w1 B m:=(hM.alloc _).later hb1;have hB1:=hM1.lt;have v6:=z0b hb1 w.heap.size kS;have hS1:=v6.2.2;have hbw:Below w.heap.size w w1:=z6g hb1;have u1:w1.cell? ⟨w.heap.size,1,none⟩=some (A F fn):=(by rw[v6.1];simp[go_sem]))
   |go_in)
  go_ret;exact⟨rfl,hbw⟩
def zVw:=fun B m fk fn fc HA E HW hE w hM=>(@zRe B m fk fn fc HA E HW hE w hM).1
def zVv:=fun B m fk fn fc HA E HW hE w hM=>(@zRe B m fk fn fc HA E HW hE w hM).2
theorem zS5(B:Nat)(m:Mac)(fk fn fc:Int)(HA:Hid (m.reg 1=⟨fk,fn,fc⟩))(w:World)(hM:z0a w B m):
  Calls tP 98 #[pT (some ⟨B,0,none⟩),A F 2] w fun e w'=>e= rT (A F 0)/\Kept B w w'/\z0a w' B (m.lose.putReg 0 ⟨1,m.time,0⟩):=by
 have hB:=hM.lt;obtain⟨h0,h1,h2⟩:=hM.reg (d:=1) kD;simp only[Nat.reduceMul,Nat.reduceAdd]at h0 h1 h2;rw[HA.out]at h0 h1 h2;go_enter Tryz.func98,Tryz.ntmps98;go_wp2_with fail;have hM1:=hM.alloc (cT #[A F fk,A F fn,A F fc] 161);have hS1:w.heap.size<(w.alloc (cT #[A F fk,A F fn,A F fc] 161)).heap.size:=by simp
 obtain⟨wc,hc,hkc,hmc⟩:=zHb hM1;rw[hc];clear hc;have hBc:=hmc.lt;have t0:wc.cell? ⟨B,107,none⟩=some (A F m.time):=hmc.time;go_wp2_with fail
 go_region_held3 (fun w'=>w'.cell? ⟨B,107,none⟩=some (A F m.time)) (first|(simp[go_sem];done)|(simp[go_sem, *];done)|go_keep) (first
  |(go_at_call 123;refine(z69 m.time _).mono ?_;rintro e w3 ⟨rfl,hb3⟩;have hb3:=z52 hb3;have hM3:=hmc.later hb3;have hB3:=hM3.lt;obtain⟨i0,i1,i2⟩:=hM3.reg (d:=0) kD;simp only[Nat.reduceMul,Nat.reduceAdd]at i0 i1 i2;have f0:=hM3.frozen 2;have f1:=hM3.frozen 3;have f2:=hM3.frozen 4;have y0:w3.cell? ⟨B,107,none⟩=some (A F m.time):=hM3.time;simp only[Val.v,numF]))
 all_goals have HK:Kept B w w3:=z1x (z29 (z1j (z12 B w) _) hkc) hb3
 all_goals go_wp2
 all_goals go_ret
 all_goals have HM:=hM3
 all_goals exact⟨rfl,kK,(by repeat' first|with_reducible assumption|with_reducible(first|refine z0a.drew ?_|refine z0a.put0 ?_ _ _ _|refine z0a.off ?_ _ _ ?_|refine z0a.alloc ?_ _)|((try dsimp only);omega))⟩
theorem zRf(B:Nat)(m:Mac)(fk fn fc:Int)(HA:Hid (m.reg 1=⟨fk,fn,fc⟩)):(∀(HW:Hid (z23 ⟨fk,fn,fc⟩=0))(rk rn rc:Int)(HF:Hid (z6o fn=⟨rk,rn,rc⟩))(w:World)(hM:z0a w B m),Calls tP 98 #[pT (some ⟨B,0,none⟩),A F 1] w fun e w'=>e= rT (A F 0)/\Kept B w w'/\z0a w' B (m.lose.putReg 0 ⟨rk,rn,rc⟩))/\(∀(L:List Int)(HW:Hid (z23 ⟨fk,fn,fc⟩=0))(w:World)(hM:z0a w B m)(hO:z0u w B m.out L),Calls tP 98 #[pT (some ⟨B,0,none⟩),A F 3] w fun e w'=>e= rT (A F 0)/\Below B w w'/\ ∃v',z0a w' B ((m.lose.setOut v').putReg 0 ⟨1,0,0⟩)/\z0u w' B v' (zO5 L fn)):=by
 refine⟨?_,?_⟩;intro HW rk rn rc HF w hM;rotate_left;intro L HW w hM hO;rotate_left
 all_goals
  have hB:=hM.lt;obtain⟨h0,h1,h2⟩:=hM.reg (d:=1) kD;simp only[Nat.reduceMul,Nat.reduceAdd]at h0 h1 h2;rw[HA.out]at h0 h1 h2
 rotate_left;have HO:Hid (z0u w B m.out L):=hO;clear hO;rotate_left
 all_goals
  go_enter Tryz.func98,Tryz.ntmps98
  go_wp2_with(first
   |(go_at_call 66;refine(zDn fk fn fc _).mono ?_;rintro e w1 ⟨rfl,hb1⟩;rw[HW.out];have hM1:z0a w1 B m:=(hM.alloc _).later hb1;have hB1:=hM1.lt;have v6:=z0b hb1 w.heap.size kS;have hS1:=v6.2.2;have hbw:Below w.heap.size w w1:=z6g hb1;have u1:w1.cell? ⟨w.heap.size,1,none⟩=some (A F fn):=(by rw[v6.1];simp[go_sem]))
   |go_in)
  obtain⟨wc,hc,hkc,hmc⟩:=zHb hM1;rw[hc];clear hc;have u2:wc.cell? ⟨w.heap.size,1,none⟩=some (A F fn):=(World.cell?_of_block (a:=⟨w.heap.size,1,none⟩) (hkc.block w.heap.size hS1 (by intro h;injection h with h;omega))).trans u1;have hBc:=hmc.lt;have hSc:w.heap.size<wc.heap.size:=Nat.lt_of_lt_of_le hS1 hkc.size;go_wp2_with fail
 ·go_region_held3 (fun w'=>w'.cell? ⟨w.heap.size,1,none⟩=some (A F fn)) (first|(simp[go_sem];done)|(simp[go_sem, *];done)|go_keep) (first
   |(go_at_call 124;refine(zRj fn _).mono ?_;rintro e w3 ⟨rfl,hb3⟩;have hb3:=z52 hb3;have hM3:=hmc.later hb3;have hB3:=hM3.lt;obtain⟨i0,i1,i2⟩:=hM3.reg (d:=0) kD;simp only[Nat.reduceMul,Nat.reduceAdd]at i0 i1 i2;have f0:=hM3.frozen 2;have f1:=hM3.frozen 3;have f2:=hM3.frozen 4;have y0:w3.cell? ⟨w.heap.size,1,none⟩=some (A F fn):=(hb3.cell (p:=⟨w.heap.size,1,none⟩) hSc).trans u2;rw[HF.out];simp only[Val.v]))
  all_goals have HK:Kept B w w3:=z1x (z29 (z09 hbw B) hkc) hb3
  all_goals go_wp2
  all_goals go_ret
  all_goals have HM:=hM3
  all_goals exact⟨rfl,kK,(by repeat' first|with_reducible assumption|with_reducible(first|refine z0a.drew ?_|refine z0a.put0 ?_ _ _ _|refine z0a.off ?_ _ _ ?_|refine z0a.alloc ?_ _)|((try dsimp only);omega))⟩
 ·go_wp2_with(first
   |(go_at_call 125;refine(zVc B fn m.lose L _ hmc (z0u.kept (z0u.kept HO.out (z09 hbw B)) hkc)).mono ?_;rintro e w4 ⟨rfl,hb4,v4,hM4,hO4⟩;have HO4:Hid (z0u w4 B v4 (zO5 L fn)):=hO4;clear hO4;have hB4:=hM4.lt;have t0:w4.cell? ⟨B,107,none⟩=some (A F m.time):=hM4.time)
   |fail)
  go_region_held3 (fun w'=>w'.cell? ⟨B,107,none⟩=some (A F m.time)) (first|(simp[go_sem];done)|(simp[go_sem, *];done)|go_keep) (first
   |(go_at_call 123;refine(z69 0 _).mono ?_;rintro e w3 ⟨rfl,hb3⟩;have hb3:=z52 hb3;have hM3:=hM4.later hb3;have hB3:=hM3.lt;obtain⟨i0,i1,i2⟩:=hM3.reg (d:=0) kD;simp only[Nat.reduceMul,Nat.reduceAdd]at i0 i1 i2;have f0:=hM3.frozen 2;have f1:=hM3.frozen 3;have f2:=hM3.frozen 4;have y0:w3.cell? ⟨B,107,none⟩=some (A F m.time):=hM3.time;simp only[Val.v,numF]))
  all_goals go_wp2
  all_goals go_ret
  all_goals have HK:Kept B w4 w3:=z09 hb3 B
  all_goals have HM:=hM3
  all_goals exact⟨rfl,((hbw.mono kO).trans (z1a hkc hB1)).trans (hb4.trans (z1a kK hB4)),v4,(by repeat' first|with_reducible assumption|with_reducible(first|refine z0a.drew ?_|refine z0a.put0 ?_ _ _ _|refine z0a.off ?_ _ _ ?_|refine z0a.alloc ?_ _)|((try dsimp only);omega)),z0u.kept HO4.out kK⟩
def zS6:=fun B m fk fn fc HA=>(@zRf B m fk fn fc HA).1
def zS7:=fun B m fk fn fc HA=>(@zRf B m fk fn fc HA).2
end
section
section
variable {a:Abs} {p v:Val} {o t:Int} {E:Int} {d:Nat}
theorem zL8(h:z0x p o=(t,E))(hE:E≠0):z3x a d p o=(E,a):=by unfold z3x;rw[h];exact if_pos hE
theorem z9s(h:z0x p o=(t,0)):z3x a d p o=if(a.at p t.toNat).k=0 then(8,a)else(0,a.putReg d (a.at p t.toNat)):=by
 unfold z3x;rw[h];exact if_neg kS
theorem zCt(h:z0x p o=(t,0))(hk:p.k=2):z3x a d p o=(0,a.putReg d ⟨1,a.word t.toNat,0⟩):=by
 have e:a.at p t.toNat=⟨1,a.word t.toNat,0⟩:=if_pos hk;rw[z9s h,e];exact if_neg (show¬(1:Int)=0 by decide)
theorem zCu(h:z0x p o=(t,0))(hk:p.k=3)(hn:(a.slot t.toNat).k≠0):z3x a d p o=(0,a.putReg d (a.slot t.toNat)):=by
 have e:a.at p t.toNat=a.slot t.toNat:=by unfold Abs.at;rw[if_neg kO,if_pos hk]
 rw[z9s h,e];exact if_neg hn
theorem zAv(h:z0x p o=(t,0))(hk:p.k=3)(hn:(a.slot t.toNat).k=0):z3x a d p o=(8,a):=by
 have e:a.at p t.toNat=a.slot t.toNat:=by unfold Abs.at;rw[if_neg kO,if_pos hk]
 rw[z9s h,e];exact if_pos hn
theorem zCv(h:z0x p o=(t,0))(hk:p.k=4):z3x a d p o=(0,a.putReg d ⟨1,a.cel (p.c.toNat*4+t.toNat),0⟩):=by
 have e:a.at p t.toNat=⟨1,a.cel (p.c.toNat*4+t.toNat),0⟩:=by unfold Abs.at;rw[if_neg kO,if_neg kO];rfl
 rw[z9s h,e];exact if_neg (show¬(1:Int)=0 by decide)
theorem zFp(h:z0x p o=(t,E))(hE:E≠0):z2q a p v o=(E,a):=by unfold z2q;rw[h];exact if_pos hE
theorem zFq(h:z0x p o=(t,0)):z2q a p v o=if p.k=2 then(6,a)else if v.k=0 then(8,a)else if p.k=3 then(0,a.putSlot t.toNat v)else if v.k≠1 then(1,a)else(0,a.putCel (p.c.toNat*4+t.toNat) v.n):=by
 unfold z2q;rw[h];exact if_neg kS
end
def Res(B:Nat)(w w':World)(m:Mac)(E:Int)(a:Abs):Prop:=
 Below B w w'/\ ∃m' L',z0a w' B m'/\z0u w' B m'.out L'/\m'.step=m.step/\m'.steps=m.steps/\(E=0->m'.abs L'=a)
theorem Res.of_kept{B:Nat}{w w':World}{m m':Mac}{L:List Int}{E:Int}{a:Abs}(hM:z0a w B m)(hO:z0u w B m.out L)(hk:Kept B w w')(hm:z0a w' B m')(ho:m'.out=m.out)(h1:m'.step=m.step)(h2:m'.steps=m.steps)(ha:E=0->m'.abs L=a):Res B w w' m E a:=
 ⟨z1a hk hM.lt,m',L,hm,by rw[ho];exact hO.kept hk,h1,h2,ha⟩
theorem Res.of_below{B:Nat}{w w':World}{m:Mac}{L:List Int}{E:Int}{a:Abs}(hM:z0a w B m)(hO:z0u w B m.out L)(hb:Below w.heap.size w w')(ha:E=0->m.abs L=a):Res B w w' m E a:=
 Res.of_kept hM hO (z09 hb B) (hM.later hb) rfl rfl rfl ha
section
variable {B d s:Nat} {c o n:Int} {r:Bool} {m:Mac} {L:List Int} {w:World}
theorem zZl(hd:d<11)(hs:s<11)(hM:z0a w B m):
  zR 95 #[pT (some ⟨B,0,none⟩),.agg #[A F c,A F d,A F s,.bool r,A F o,A F n]] w (.tuple #[A F (askF c (m.reg d) (m.second s r n) r o n).1,A F (askF c (m.reg d) (m.second s r n) r o n).2]):=by
 rcases h1:m.reg d with⟨ak,an,ac⟩
 rcases h2:m.second s r n with⟨bk,bn,bc⟩
 exact zZk B d s c o n r m hd hs ak an ac bk bn bc h1 h2 w hM
theorem zUv(hd:d<11)(hs:s<11)(hM:z0a w B m)(hO:z0u w B m.out L)(hok:(m.abs L).Ok):
  Calls tP 96 #[pT (some ⟨B,0,none⟩),.agg #[A F c,A F d,A F s,.bool r,A F o,A F n]] w fun e w'=>e= rT (A F (z3x (m.abs L) d (m.reg s) o).1)/\Res B w w' m (z3x (m.abs L) d (m.reg s) o).1 (z3x (m.abs L) d (m.reg s) o).2:=by
 have hp:(m.reg s).Ok:=hok.reg s hs;rcases h1:m.reg s with⟨fk,fn,fc⟩
 rw[h1]at hp;have k0:0<=fk:=hp.k0;have k4:fk<=4:=hp.k4;rcases h2:z0x ⟨fk,fn,fc⟩ o with⟨t,E⟩
 by_cases hE:E=0
 ·subst hE
  have hr:(z0x ⟨fk,fn,fc⟩ o).2=0:=by rw[h2]
  have hb:=z7n hr;have hi:2<=fk\/fk<0:=z9o hr;rw[h2]at hb;obtain⟨j,rfl⟩:=Int.eq_ofNat_of_zero_le hb.1;have hj:=hb.2;unfold z1o at hj
  by_cases hk2:fk=2
  ·rw[if_pos hk2]at hj
   rw[zCt h2 hk2];exact(zQy B d s j c o n r m hd hs fk fn fc h1 (by show j<8;omega) h2 (by simpa using hk2) w hM).mono fun e w' ⟨he,hk,hm⟩=>⟨he,Res.of_kept hM hO hk hm rfl rfl rfl fun _=>rfl⟩
  rw[if_neg hk2]at hj
  by_cases hk3:fk=3
  ·rw[if_pos hk3]at hj
   rcases h3:m.slot j with⟨sk,sn,sc⟩
   by_cases hsk:sk=0
   ·rw[zAv h2 hk3 (by show(m.slot j).k=0;rw[h3];exact hsk)]
    exact(zNs B d s j c o n r m hd hs fk fn fc h1 (by show j<16;omega) h2 (by simpa using hk2) (by simpa using hk3) sk sn sc h3 (by simpa using hsk) w hM).mono fun e w' ⟨he,hb⟩=>⟨he,Res.of_below hM hO hb fun h=>absurd h kS⟩
   ·rw[zCu h2 hk3 (by show(m.slot j).k≠0;rw[h3];exact hsk)]
    exact(zQz B d s j c o n r m hd hs fk fn fc h1 (by show j<16;omega) h2 (by simpa using hk2) (by simpa using hk3) sk sn sc h3 (by simpa using hsk) w hM).mono fun e w' ⟨he,hk,hm⟩=>⟨he,Res.of_kept hM hO hk hm rfl rfl rfl fun _=>by show _=(m.abs L).putReg d (m.slot j);rw[h3];rfl⟩
  rw[if_neg hk3]at hj;have hk4:fk=4:=kO;obtain⟨q,hq⟩:=Int.eq_ofNat_of_zero_le hp.c0;have hq':fc=(q:Int):=hq;subst hq';have hq3:(q:Int)<=3:=hp.c3;rw[zCv h2 hk4];exact(zR1 B d s j q c o n r m hd hs fk fn h1 kO (by show j<4;omega) h2 (by simpa using hk2) (by simpa using hk3) (by simpa using hk4) w hM).mono fun e w' ⟨he,hk,hm⟩=>⟨he,Res.of_kept hM hO hk hm rfl rfl rfl fun _=>rfl⟩
 rw[zL8 h2 hE];exact(zYj B d s c o n r m hd hs fk fn fc h1 t E h2 (by simpa using hE) w hM).mono fun e w' ⟨he,hb⟩=>⟨he,Res.of_below hM hO hb fun h=>absurd h hE⟩
theorem zPr(hd:d<11)(hs:s<11)(hM:z0a w B m)(hO:z0u w B m.out L)(hok:(m.abs L).Ok):
  Calls tP 97 #[pT (some ⟨B,0,none⟩),.agg #[A F c,A F d,A F s,.bool r,A F o,A F n]] w fun e w'=>e= rT (A F (z2q (m.abs L) (m.reg d) (m.second s r n) o).1)/\Res B w w' m (z2q (m.abs L) (m.reg d) (m.second s r n) o).1 (z2q (m.abs L) (m.reg d) (m.second s r n) o).2:=by
 have hp:(m.reg d).Ok:=hok.reg d hd;rcases h1:m.reg d with⟨fk,fn,fc⟩
 rcases hv:m.second s r n with⟨bk,bn,bc⟩
 rw[h1]at hp;have k0:0<=fk:=hp.k0;have k4:fk<=4:=hp.k4;rcases h2:z0x ⟨fk,fn,fc⟩ o with⟨t,E⟩
 by_cases hE:E=0
 ·subst hE
  have hr:(z0x ⟨fk,fn,fc⟩ o).2=0:=by rw[h2]
  have hb:=z7n hr;have hi:2<=fk\/fk<0:=z9o hr;rw[h2]at hb;obtain⟨j,rfl⟩:=Int.eq_ofNat_of_zero_le hb.1;have hj:=hb.2;unfold z1o at hj;rw[zFq h2]
  by_cases hk2:fk=2
  ·rw[if_pos hk2]
   exact(zMn B d s j c o n r m hd hs fk fn fc bk bn bc h1 hv h2 (by simpa using hk2) w hM).mono fun e w' ⟨he,hb⟩=>⟨he,Res.of_below hM hO hb fun h=>absurd h kS⟩
  rw[if_neg hk2]at hj⊢
  by_cases hb0:bk=0
  ·rw[if_pos hb0]
   exact(zMp B d s j c o n r m hd hs fk fn fc bk bn bc h1 hv h2 (by simpa using hk2) (by simpa using hb0) w hM).mono fun e w' ⟨he,hb⟩=>⟨he,Res.of_below hM hO hb fun h=>absurd h kS⟩
  rw[if_neg hb0]
  by_cases hk3:fk=3
  ·rw[if_pos hk3]at hj⊢
   exact(zMo B d s j c o n r m hd hs fk fn fc bk bn bc h1 hv h2 (by show j<16;omega) (by simpa using hk2) (by simpa using hb0) (by simpa using hk3) w hM).mono fun e w' ⟨he,hk,hm⟩=>⟨he,Res.of_kept hM hO hk hm rfl rfl rfl fun _=>rfl⟩
  rw[if_neg hk3]at hj⊢
  by_cases hb1:bk=1
  ·rw[if_neg (by simpa using hb1)]
   obtain⟨q,hq⟩:=Int.eq_ofNat_of_zero_le hp.c0;have hq':fc=(q:Int):=hq;subst hq';have hq3:(q:Int)<=3:=hp.c3;exact(zMq B d s j q c o n r m hd hs fk fn bk bn bc h1 hv h2 (by show j<4;omega) kO (by simpa using hk2) (by simpa using hb0) (by simpa using hk3) (by simpa using hb1) w hM).mono fun e w' ⟨he,hk,hm⟩=>⟨he,Res.of_kept hM hO hk hm rfl rfl rfl fun _=>rfl⟩
  ·rw[if_pos hb1]
   exact(zPq B d s j c o n r m hd hs fk fn fc bk bn bc h1 hv h2 (by simpa using hk2) (by simpa using hb0) (by simpa using hk3) (by simpa using hb1) w hM).mono fun e w' ⟨he,hb⟩=>⟨he,Res.of_below hM hO hb fun h=>absurd h kS⟩
 rw[zFp h2 hE];exact(zT4 B d s c o n r m hd hs fk fn fc bk bn bc h1 hv t E h2 (by simpa using hE) w hM).mono fun e w' ⟨he,hb⟩=>⟨he,Res.of_below hM hO hb fun h=>absurd h hE⟩
theorem zVy(hn:n=1\/n=2\/n=3)(hM:z0a w B m)(hO:z0u w B m.out L):
  Calls tP 98 #[pT (some ⟨B,0,none⟩),A F n] w fun e w'=>e= rT (A F (z4u (m.abs L) n).1)/\Res B w w' m (z4u (m.abs L) n).1 (z4u (m.abs L) n).2:=by
 rcases h1:m.reg 1 with⟨fk,fn,fc⟩
 have h1':(m.abs L).reg 1=⟨fk,fn,fc⟩:=h1;unfold z4u;rw[h1'];rcases hn with rfl|rfl|rfl
 ·by_cases hw:z23 ⟨fk,fn,fc⟩=0
  ·rw[if_neg (by simp[hw]),if_pos rfl]
   rcases hf:z6o fn with⟨rk,rn,rc⟩
   exact(zS6 B m fk fn fc h1 hw rk rn rc hf w hM).mono fun e w' ⟨he,hk,hm⟩=>⟨he,Res.of_kept hM hO hk hm rfl rfl rfl fun _=>rfl⟩
  ·rw[if_pos ⟨by decide,hw⟩]
   exact(zVw B m fk fn fc h1 _ rfl (by simpa using hw) w hM).mono fun e w' ⟨he,hb⟩=>⟨he,Res.of_below hM hO hb fun h=>absurd h hw⟩
 ·rw[if_neg kS,if_neg kD,if_pos rfl]
  exact(zS5 B m fk fn fc h1 w hM).mono fun e w' ⟨he,hk,hm⟩=>⟨he,Res.of_kept hM hO hk hm rfl rfl rfl fun _=>rfl⟩
 by_cases hw:z23 ⟨fk,fn,fc⟩=0
 ·rw[if_neg (by simp[hw]),if_neg kD,if_neg kD]
  exact(zS7 B m fk fn fc h1 L hw w hM hO).mono fun e w' ⟨he,hb,v',hm,ho⟩=>⟨he,hb,_,_,hm,ho,rfl,rfl,fun _=>rfl⟩
 rw[if_pos ⟨by decide,hw⟩];exact(zVv B m fk fn fc h1 _ rfl (by simpa using hw) w hM).mono fun e w' ⟨he,hb⟩=>⟨he,Res.of_below hM hO hb fun h=>absurd h hw⟩
theorem zOs(hd:d<11)(hs:s<11)(hn:In64 n)(hM:z0a w B m)(hO:z0u w B m.out L)(hok:(m.abs L).Ok):
  Calls tP 99 #[pT (some ⟨B,0,none⟩),.agg #[A F c,A F d,A F s,.bool r,A F o,A F n]] w fun e w'=>e= rT (A F (z2i c (m.reg d) (m.second s r n)).2)/\Res B w w' m (z2i c (m.reg d) (m.second s r n)).2 ((m.abs L).putReg d (z2i c (m.reg d) (m.second s r n)).1):=by
 have h2:(m.second s r n).Ok:=hok.second hs r hn;rcases hm:z2i c (m.reg d) (m.second s r n)with⟨⟨mk,mn,mc⟩,E⟩
 exact(zOr B d s c o n r m hd hs h2.n.1 h2.n.2 mk mn mc E hm w hM).mono fun e w' ⟨he,hk,hm⟩=>⟨he,Res.of_kept hM hO hk hm rfl rfl rfl fun _=>rfl⟩
end
end
section
attribute [local simp] z0p z0j z04
theorem zSy{w w1:World}{Z:Obj}(h:Below (w.alloc Z).heap.size (w.alloc Z) w1):Below w.heap.size w w1:=
 ((bF _ _).alloc (Nat.le_refl _) _).trans (h.mono kS)
theorem do_ask(B d s:Nat)(c o n:Int)(r:Bool)(m:Mac)(L:List Int)(hd:d<11)(hs:s<11)(w:World)(hM:z0a w B m)(hO:z0u w B m.out L)(h1:15<=c)(h2:c<=24):
  zR 67 #[pT (some ⟨B,0,none⟩),.agg #[A F c,A F d,A F s,.bool r,A F o,A F n]] w (.tuple #[A F (askF c (m.reg d) (m.second s r n) r o n).1,A F (askF c (m.reg d) (m.second s r n) r o n).2]):=by
 have hM0:=hM.alloc (cT #[A F c,A F d,A F s,.bool r,A F o,A F n] 121);have hO0:z0u (w.alloc (cT #[A F c,A F d,A F s,.bool r,A F o,A F n] 121)) B m.out L:=hO.kept (z1j (z12 B w) _);have HO:Hid (z0u w B m.out L):=hO;have HO0:Hid (z0u _ B m.out L):=hO0;clear hO hO0;have HQ:Hid ((decide (15<=c)&&decide (c<=24))=true):=by show(decide (15<=c)&&decide (c<=24))=true;simp;omega
 rcases hA:askF c (m.reg d) (m.second s r n) r o n with⟨X,Y⟩
 have HA:Hid (askF c (m.reg d) (m.second s r n) r o n=(X,Y)):=hA;clear hA h1 h2;go_enter Tryz.func67,Tryz.ntmps67
 go_wp2_with(first
  |(go_at_call 87;refine(z2y c _).mono ?_;rintro e w1 ⟨rfl,rfl⟩;rw[HQ.out])
  |(go_at_call 95;refine(zZl hd hs hM0).mono ?_;rintro e w2 ⟨rfl,hb2⟩;rw[HA.out])
  |fail)
 go_ret2
 exact⟨rfl,zSy hb2⟩
theorem zZ7(B d s:Nat)(c o n:Int)(r:Bool)(m:Mac)(L:List Int)(_:d<11)(_:s<11)(w:World)(hM:z0a w B m)(hO:z0u w B m.out L)(h1:c=14):
  zR 67 #[pT (some ⟨B,0,none⟩),.agg #[A F c,A F d,A F s,.bool r,A F o,A F n]] w (.tuple #[A F o,A F 0]):=by
 have hM0:=hM.alloc (cT #[A F c,A F d,A F s,.bool r,A F o,A F n] 121);have hO0:z0u (w.alloc (cT #[A F c,A F d,A F s,.bool r,A F o,A F n] 121)) B m.out L:=hO.kept (z1j (z12 B w) _);have HO:Hid (z0u w B m.out L):=hO;have HO0:Hid (z0u _ B m.out L):=hO0;clear hO hO0;have HQ:Hid ((decide (15<=c)&&decide (c<=24))=false):=by show(decide (15<=c)&&decide (c<=24))=false;simp;omega
 have x14:(c==14)=true:=kZ;clear h1;go_enter Tryz.func67,Tryz.ntmps67
 go_wp2_with(first
  |(go_at_call 87;refine(z2y c _).mono ?_;rintro e w1 ⟨rfl,rfl⟩;rw[HQ.out])
  |fail)
 go_ret2
 exact⟨rfl,(bF _ _).alloc (Nat.le_refl _) _⟩
theorem zZ6(B d s:Nat)(c o n:Int)(r:Bool)(m:Mac)(L:List Int)(hd:d<11)(hs:s<11)(w:World)(hM:z0a w B m)(hO:z0u w B m.out L)(hok:(m.abs L).Ok)(h1:c=25):
  Calls tP 67 #[pT (some ⟨B,0,none⟩),.agg #[A F c,A F d,A F s,.bool r,A F o,A F n]] w fun e w'=>e= rT (.tuple #[A F 0,A F (z3x (m.abs L) d (m.reg s) o).1])/\Res B w w' m (z3x (m.abs L) d (m.reg s) o).1 (z3x (m.abs L) d (m.reg s) o).2:=by
 have hM0:=hM.alloc (cT #[A F c,A F d,A F s,.bool r,A F o,A F n] 121);have hO0:z0u (w.alloc (cT #[A F c,A F d,A F s,.bool r,A F o,A F n] 121)) B m.out L:=hO.kept (z1j (z12 B w) _);have HO:Hid (z0u w B m.out L):=hO;have HO0:Hid (z0u _ B m.out L):=hO0;clear hO hO0;have HQ:Hid ((decide (15<=c)&&decide (c<=24))=false):=by show(decide (15<=c)&&decide (c<=24))=false;simp;omega
 have x14:(c==14)=false:=kZ;have x25:(c==25)=true:=kZ;clear h1;obtain⟨E,hE⟩: ∃E,(z3x (m.abs L) d (m.reg s) o).1=E:=⟨_,rfl⟩;have HE:Hid ((z3x (m.abs L) d (m.reg s) o).1=E):=hE;clear hE;go_enter Tryz.func67,Tryz.ntmps67
 go_wp2_with(first
  |(go_at_call 87;refine(z2y c _).mono ?_;rintro e w1 ⟨rfl,rfl⟩;rw[HQ.out])
  |(go_at_call 96;refine(zUv hd hs hM0 HO0.out hok).mono ?_;rintro e w2 ⟨rfl,hr2⟩;have HR2:Hid (Res B _ w2 m (z3x (m.abs L) d (m.reg s) o).1 (z3x (m.abs L) d (m.reg s) o).2):=hr2;clear hr2;rw[HE.out])
  |fail)
 go_ret2
 exact⟨by rw[HE.out];rfl,((bF _ _).alloc (by have:=hM.lt;omega) _).trans HR2.out.1,HR2.out.2⟩
theorem zVi(B d s:Nat)(c o n:Int)(r:Bool)(m:Mac)(L:List Int)(hd:d<11)(hs:s<11)(w:World)(hM:z0a w B m)(hO:z0u w B m.out L)(hok:(m.abs L).Ok)(h1:c=26):
  Calls tP 67 #[pT (some ⟨B,0,none⟩),.agg #[A F c,A F d,A F s,.bool r,A F o,A F n]] w fun e w'=>e= rT (.tuple #[A F 0,A F (z2q (m.abs L) (m.reg d) (m.second s r n) o).1])/\Res B w w' m (z2q (m.abs L) (m.reg d) (m.second s r n) o).1 (z2q (m.abs L) (m.reg d) (m.second s r n) o).2:=by
 have hM0:=hM.alloc (cT #[A F c,A F d,A F s,.bool r,A F o,A F n] 121);have hO0:z0u (w.alloc (cT #[A F c,A F d,A F s,.bool r,A F o,A F n] 121)) B m.out L:=hO.kept (z1j (z12 B w) _);have HO:Hid (z0u w B m.out L):=hO;have HO0:Hid (z0u _ B m.out L):=hO0;clear hO hO0;have HQ:Hid ((decide (15<=c)&&decide (c<=24))=false):=by show(decide (15<=c)&&decide (c<=24))=false;simp;omega
 have x14:(c==14)=false:=kZ;have x25:(c==25)=false:=kZ;have x26:(c==26)=true:=kZ;clear h1;obtain⟨E,hE⟩: ∃E,(z2q (m.abs L) (m.reg d) (m.second s r n) o).1=E:=⟨_,rfl⟩;have HE:Hid ((z2q (m.abs L) (m.reg d) (m.second s r n) o).1=E):=hE;clear hE;go_enter Tryz.func67,Tryz.ntmps67
 go_wp2_with(first
  |(go_at_call 87;refine(z2y c _).mono ?_;rintro e w1 ⟨rfl,rfl⟩;rw[HQ.out])
  |(go_at_call 97;refine(zPr hd hs hM0 HO0.out hok).mono ?_;rintro e w2 ⟨rfl,hr2⟩;have HR2:Hid (Res B _ w2 m (z2q (m.abs L) (m.reg d) (m.second s r n) o).1 (z2q (m.abs L) (m.reg d) (m.second s r n) o).2):=hr2;clear hr2;rw[HE.out])
  |fail)
 go_ret2
 exact⟨by rw[HE.out];rfl,((bF _ _).alloc (by have:=hM.lt;omega) _).trans HR2.out.1,HR2.out.2⟩
theorem zZ8(B d s:Nat)(c o n:Int)(r:Bool)(m:Mac)(L:List Int)(_:d<11)(_:s<11)(w:World)(hM:z0a w B m)(hO:z0u w B m.out L)(_:(m.abs L).Ok)(HN:Hid (n=1\/n=2\/n=3))(h1:c=27):
  Calls tP 67 #[pT (some ⟨B,0,none⟩),.agg #[A F c,A F d,A F s,.bool r,A F o,A F n]] w fun e w'=>e= rT (.tuple #[A F 0,A F (z4u (m.abs L) n).1])/\Res B w w' m (z4u (m.abs L) n).1 (z4u (m.abs L) n).2:=by
 have hM0:=hM.alloc (cT #[A F c,A F d,A F s,.bool r,A F o,A F n] 121);have hO0:z0u (w.alloc (cT #[A F c,A F d,A F s,.bool r,A F o,A F n] 121)) B m.out L:=hO.kept (z1j (z12 B w) _);have HO:Hid (z0u w B m.out L):=hO;have HO0:Hid (z0u _ B m.out L):=hO0;clear hO hO0;have HQ:Hid ((decide (15<=c)&&decide (c<=24))=false):=by show(decide (15<=c)&&decide (c<=24))=false;simp;omega
 have x14:(c==14)=false:=kZ;have x25:(c==25)=false:=kZ;have x26:(c==26)=false:=kZ;have x27:(c==27)=true:=kZ;clear h1;obtain⟨E,hE⟩: ∃E,(z4u (m.abs L) n).1=E:=⟨_,rfl⟩;have HE:Hid ((z4u (m.abs L) n).1=E):=hE;clear hE;go_enter Tryz.func67,Tryz.ntmps67
 go_wp2_with(first
  |(go_at_call 87;refine(z2y c _).mono ?_;rintro e w1 ⟨rfl,rfl⟩;rw[HQ.out])
  |(go_at_call 98;refine(zVy HN.out hM0 HO0.out).mono ?_;rintro e w2 ⟨rfl,hr2⟩;have HR2:Hid (Res B _ w2 m (z4u (m.abs L) n).1 (z4u (m.abs L) n).2):=hr2;clear hr2;rw[HE.out])
  |fail)
 go_ret2
 exact⟨by rw[HE.out];rfl,((bF _ _).alloc (by have:=hM.lt;omega) _).trans HR2.out.1,HR2.out.2⟩
theorem zRq(B d s:Nat)(c o n:Int)(r:Bool)(m:Mac)(L:List Int)(hd:d<11)(hs:s<11)(w:World)(hM:z0a w B m)(hO:z0u w B m.out L)(hok:(m.abs L).Ok)(HN:Hid (In64 n))(h1:1<=c)(h2:c<=13):
  Calls tP 67 #[pT (some ⟨B,0,none⟩),.agg #[A F c,A F d,A F s,.bool r,A F o,A F n]] w fun e w'=>e= rT (.tuple #[A F 0,A F (z2i c (m.reg d) (m.second s r n)).2])/\Res B w w' m (z2i c (m.reg d) (m.second s r n)).2 ((m.abs L).putReg d (z2i c (m.reg d) (m.second s r n)).1):=by
 have hM0:=hM.alloc (cT #[A F c,A F d,A F s,.bool r,A F o,A F n] 121);have hO0:z0u (w.alloc (cT #[A F c,A F d,A F s,.bool r,A F o,A F n] 121)) B m.out L:=hO.kept (z1j (z12 B w) _);have HO:Hid (z0u w B m.out L):=hO;have HO0:Hid (z0u _ B m.out L):=hO0;clear hO hO0;have HQ:Hid ((decide (15<=c)&&decide (c<=24))=false):=by show(decide (15<=c)&&decide (c<=24))=false;simp;omega
 have x14:(c==14)=false:=kZ;have x25:(c==25)=false:=kZ;have x26:(c==26)=false:=kZ;have x27:(c==27)=false:=kZ;clear h1 h2;obtain⟨E,hE⟩: ∃E,(z2i c (m.reg d) (m.second s r n)).2=E:=⟨_,rfl⟩;have HE:Hid ((z2i c (m.reg d) (m.second s r n)).2=E):=hE;clear hE;go_enter Tryz.func67,Tryz.ntmps67
 go_wp2_with(first
  |(go_at_call 87;refine(z2y c _).mono ?_;rintro e w1 ⟨rfl,rfl⟩;rw[HQ.out])
  |(go_at_call 99;refine(zOs hd hs HN.out hM0 HO0.out hok).mono ?_;rintro e w2 ⟨rfl,hr2⟩;have HR2:Hid (Res B _ w2 m (z2i c (m.reg d) (m.second s r n)).2 ((m.abs L).putReg d (z2i c (m.reg d) (m.second s r n)).1)):=hr2;clear hr2;rw[HE.out])
  |fail)
 go_ret2
 exact⟨by rw[HE.out];rfl,((bF _ _).alloc (by have:=hM.lt;omega) _).trans HR2.out.1,HR2.out.2⟩
theorem zX5(B d s:Nat)(c o n:Int)(r:Bool)(m:Mac)(L:List Int)(hd:d<11)(hs:s<11)(w:World)(hM:z0a w B m)(hO:z0u w B m.out L)(hok:(m.abs L).Ok)(hn:In64 n)(c1:1<=c)(c2:c<=28)(hc:c≠28)(h27:c=27->n=1\/n=2\/n=3):
  Calls tP 67 #[pT (some ⟨B,0,none⟩),.agg #[A F c,A F d,A F s,.bool r,A F o,A F n]] w fun e w'=>e= rT (.tuple #[A F (doF c d s r o n (m.abs L)).1,A F (doF c d s r o n (m.abs L)).2.1])/\Res B w w' m (doF c d s r o n (m.abs L)).2.1 (doF c d s r o n (m.abs L)).2.2:=by
 unfold doF;rw[Int.toNat_natCast,Int.toNat_natCast]
 by_cases h1:15<=c/\c<=24
 ·rw[if_pos h1]
  exact(do_ask B d s c o n r m L hd hs w hM hO h1.1 h1.2).mono fun e w' ⟨he,hb⟩=>⟨he,Res.of_below hM hO hb fun _=>rfl⟩
 rw[if_neg h1]
 by_cases h2:c=14
 ·rw[if_pos h2]
  exact(zZ7 B d s c o n r m L hd hs w hM hO h2).mono fun e w' ⟨he,hb⟩=>⟨he,Res.of_below hM hO hb fun _=>rfl⟩
 rw[if_neg h2]
 by_cases h3:c=25
 ·rw[if_pos h3]
  exact zZ6 B d s c o n r m L hd hs w hM hO hok h3
 rw[if_neg h3]
 by_cases h4:c=26
 ·rw[if_pos h4]
  exact zVi B d s c o n r m L hd hs w hM hO hok h4
 rw[if_neg h4]
 by_cases h5:c=27
 ·rw[if_pos h5]
  exact zZ8 B d s c o n r m L hd hs w hM hO hok (h27 h5) h5
 rw[if_neg h5];exact zRq B d s c o n r m L hd hs w hM hO hok hn c1 kO
def Gone(B:Nat)(w w':World)(X:End)(E:Int):Prop:=
 Below B w w'/\ ∃m' L',z0a w' B m'/\z0u w' B m'.out L'/\
  match X with
  | .inl (e,p)=>E=e/\E≠0/\m'.step=(p:Int)
  | .inr (n,k,a)=>E=0/\m'.steps=(k:Int)/\m'.abs L'=a/\n=(a.reg 0).n
def zAt(B:Nat)(w:World):Nat:=(intOf ((w.cell? ⟨B,0,none⟩).getD (A F 0))).toNat
theorem z1g.under{w wr:World}{B bk off len:Nat}{C D S:Nat->Int}{R:Nat->Bool}{O N:Nat->Int}(h:z1g w bk off len C D S R O N)(hb:Below B w wr)(hbk:bk<B):z1g wr bk off len C D S R O N:=by
 intro i hi;obtain⟨a,b,c,d,e,f⟩:=h i hi;exact⟨(hb.cell (p:=⟨bk,_,none⟩) hbk).trans a,(hb.cell (p:=⟨bk,_,none⟩) hbk).trans b,(hb.cell (p:=⟨bk,_,none⟩) hbk).trans c,(hb.cell (p:=⟨bk,_,none⟩) hbk).trans d,(hb.cell (p:=⟨bk,_,none⟩) hbk).trans e,(hb.cell (p:=⟨bk,_,none⟩) hbk).trans f⟩
theorem z94{B:Nat}{w:World}{m:Mac}(h:z0a w B m):zAt B w=m.step.toNat:=by unfold zAt;rw[h.step];rfl
section
variable (B bk off len cap:Nat) (C D S O N:Nat->Int) (R:Nat->Bool)
theorem zLa(m:Mac)(L:List Int)(w:World)(hM:z0a w B m)(hO:z0u w B m.out L)(hok:(m.abs L).Ok)(hst:z1g w bk off len C D S R O N)(hbk:bk<B)(hlen:len<=200)(h1:1<=len)(hR: ∀k,k<len->z0l len C D S R O N k=0)(hN: ∀k,k<len->In64 (N k))(h0:m.step=0)(h00:m.steps=0):
  Calls tP 52 #[pT (some ⟨B,0,none⟩),.slice (some ⟨bk,off,none⟩) len cap] w fun e w'=> ∃E,e= rT (A F E)/\Gone B w w' (runF C D S R O N len 0 0 (m.abs L)) E:=by
 obtain⟨X,hX⟩: ∃X,runF C D S R O N len 0 0 (m.abs L)=X:=⟨_,rfl⟩;rw[hX];have HX:Hid (runF C D S R O N len 0 0 (m.abs L)=X):=hX;have HST:Hid (z1g w bk off len C D S R O N):=hst;have HR:Hid (∀k,k<len->z0l len C D S R O N k=0):=hR;have HN:Hid (∀k,k<len->In64 (N k)):=hN;have HS:Hid (m.step=0/\m.steps=0):=⟨h0,h00⟩;have HO:Hid (z0u w B m.out L):=hO;clear hX hst hR hN h0 h00 hO;go_enter Tryz.func52,Tryz.ntmps52;go_wp2_with fail;go_loopw [4] (fun _ wr=> ∃(pc k:Nat)(m1:Mac)(L1:List Int),Hid (pc<len/\k<=pc/\Below B w wr/\z0a wr B m1/\z0u wr B m1.out L1/\(m1.abs L1).Ok/\m1.step=(pc:Int)/\m1.steps=(k:Int)/\runF C D S R O N len pc k (m1.abs L1)=X)) (fun _ wr=>len-zAt B wr)
 case atStart=>exact⟨0,0,m,L,by omega,Nat.le_refl _,bF _ _,hM,HO.out,hok,HS.out.1,HS.out.2,HX.out⟩
 case round=>
  obtain⟨pc,k,m1,L1,H⟩:=hrel;have hpc:=H.out.1;have hkp:=H.out.2.1;have hb:=H.out.2.2.1;have hM1:=H.out.2.2.2.1;have hok1:=H.out.2.2.2.2.2.1;have hB:=hM1.lt;have q0:=hM1.step;have q1:=hM1.steps;rw[H.out.2.2.2.2.2.2.1]at q0;rw[H.out.2.2.2.2.2.2.2.1]at q1;have f0:=hM1.frozen 0;have f1:=hM1.frozen 1;obtain⟨g0,g1,g2,g3,g4,g5⟩:=HST.out.under hb hbk pc hpc;have hr:=z56 (HR.out pc hpc);have hn:=HN.out pc hpc;have HH:Hid (runF C D S R O N len pc k (m1.abs L1)=X):=H.out.2.2.2.2.2.2.2.2;have HO1:Hid (z0u wr B m1.out L1):=H.out.2.2.2.2.1;have e3:m1.step=(pc:Int):=H.out.2.2.2.2.2.2.1;have E3:Hid (m1.step=(pc:Int)):=e3;clear e3;have HP:Hid (m1.steps=(k:Int)):=H.out.2.2.2.2.2.2.2.1;obtain⟨d,hd⟩:=Int.eq_ofNat_of_zero_le hr.d1;obtain⟨s,hs⟩:=Int.eq_ofNat_of_zero_le hr.s1;have hd11:d<11:=by have:=hr.d2;omega
  have hs11:s<11:=by have:=hr.s2;omega
  rcases hD:doF (C pc) (D pc) (S pc) (R pc) (O pc) (N pc) ((m1.setSteps ((k:Int)+1)).abs L1)with⟨of,er,a2⟩
  have hofs:=zRr hr hpc;have HD0:Hid (doF (C pc) (D pc) (S pc) (R pc) (O pc) (N pc) (m1.abs L1)=(of,er,a2)):=hD;have HX1:Hid (C pc=28->(z23 (m1.reg 0)=0->X= .fine (m1.reg 0).n (k+1) (m1.abs L1))/\(z23 (m1.reg 0)≠0->X= .bad (z23 (m1.reg 0)) pc)):=fun h=>⟨fun hw=>HH.out.symm.trans (z7j hpc h hw),fun hw=>HH.out.symm.trans (z55 hpc h hw)⟩
  have HX2:Hid (C pc≠28->(er≠0->X= .bad er pc)/\(er=0->runF C D S R O N len (pc+1+of.toNat) (k+1) a2=X)):=fun h=>⟨fun hw=>by
   have:=zDv (k:=k) (a:=m1.abs L1) (R:=R) (D:=D) (S:=S) (O:=O) (N:=N) hpc h (by rw[HD0.out];exact hw);rw[HD0.out]at this;exact HH.out.symm.trans this,fun hw=>by
   have:=zDu (k:=k) (a:=m1.abs L1) (R:=R) (D:=D) (S:=S) (O:=O) (N:=N) hpc h (by rw[HD0.out];exact hw);rw[HD0.out]at this;exact this.symm.trans HH.out⟩
  have HOF:Hid (C pc≠28->0<=of/\(pc:Int)+1+of<len):=fun h=>by have:=hofs h (m1.abs L1);rw[HD0.out]at this;exact this
  have HOK:Hid (C pc≠28->a2.Ok):=fun h=>by have:=zLj hok1 hr.c1 hr.c2 h hr.d1 hr.d2 hr.s1 hr.s2 hn (r:=R pc) (o:=O pc);rw[HD0.out]at this;exact this
  have c1:=hr.c1;have c2:=hr.c2;have H27:Hid (C pc=27->N pc=1\/N pc=2\/N pc=3):=hr.call;rw[hd,hs]at hD;rw[hd]at g1;rw[hs]at g2;clear hofs HD0 hd hs H hr HH;generalize C pc=c at*;generalize R pc=r at*;generalize O pc=o at*;generalize N pc=n at*;have HD:Hid (doF c (d:Int) (s:Int) r o n ((m1.setSteps ((k:Int)+1)).abs L1)=(of,er,a2)):=hD;have HNN:Hid (In64 n):=hn;clear hD hn HX HS HO hM hok h1;have hk0:(0:Int)<=(k:Int):=kO;have hk1:(k:Int)<=200:=kO;have hp0:(0:Int)<=(pc:Int):=kO;have hp1:(pc:Int)<len:=kO;have hp2:(pc:Int)<=200:=kO
  by_cases hc:c=28
  ·have x28:(c==28)=true:=by simpa using hc
   have HX3:Hid ((z23 (m1.reg 0)=0->X= .fine (m1.reg 0).n (k+1) (m1.abs L1))/\(z23 (m1.reg 0)≠0->X= .bad (z23 (m1.reg 0)) pc)):=HX1.out hc;obtain⟨r0,r1,r2⟩:=hM1.reg (d:=0) kD;simp only[Nat.reduceMul,Nat.reduceAdd]at r0 r1 r2;clear hc c1 c2
   go_wp2_with(first
    |(go_at_call 66;refine(zDn (m1.reg 0).k (m1.reg 0).n (m1.reg 0).c _).mono ?_;rintro e w2 ⟨rfl,hb2⟩)
    |fail)
   go_ret;have hMW:=((hM1.putSteps ((k:Int)+1)).alloc _).later hb2;have hKW:Kept B wr w2:=z1x (z1j (z0v (z12 B wr) _ _) _) hb2;refine⟨z23 ⟨(m1.reg 0).k,(m1.reg 0).n,(m1.reg 0).c⟩,rfl,hb.trans (z1a hKW hB),_,L1,hMW,HO1.out.kept hKW,?_⟩
   by_cases hw:z23 (m1.reg 0)=0
   ·rw[HX3.out.1 hw]
    exact⟨hw,rfl,rfl,rfl⟩
   ·rw[HX3.out.2 hw]
    exact⟨rfl,hw,E3.out⟩
  ·have x28:(c==28)=false:=by simpa using hc
   have HX3:Hid ((er≠0->X= .bad er pc)/\(er=0->runF C D S R O N len (pc+1+of.toNat) (k+1) a2=X)):=HX2.out hc;have HOK3:Hid a2.Ok:=HOK.out hc;have hof:=HOF.out hc;have HC28:Hid (c≠28):=hc;obtain⟨j,rfl⟩:=Int.eq_ofNat_of_zero_le hof.1;have hj0:(0:Int)<=(j:Int):=kO;have hj1:(pc:Int)+1+(j:Int)<len:=hof.2;have hlen2:(len:Int)<=200:=kO;have HOW:Hid (∀Z:Obj,z0u ((wr.setCell ⟨B,1,none⟩ (A F ((k:Int)+1))).alloc Z) B m1.out L1):=fun Z=>HO1.out.kept (z1j (z0v (z12 B wr) _ _) _);clear hc hof HX1 HX2 HOF HOK
   by_cases he:er=0
   ·subst he
    go_wp2_with(first
     |(go_at_call 67;refine(zX5 B d s c o n r (m1.setSteps ((k:Int)+1)) L1 hd11 hs11 _ ((hM1.putSteps ((k:Int)+1)).alloc _) (HOW.out _) hok1 HNN.out c1 c2 HC28.out H27.out).mono ?_;rintro e w2 ⟨rfl,hr2⟩;rw[HD.out]at hr2⊢;dsimp only at hr2⊢;obtain⟨hb2,m2,L2,hM2,hO2,e1,e2,ea⟩:=hr2;have HO2:Hid (z0u w2 B m2.out L2):=hO2;have HE:Hid (m2.steps=(k:Int)+1/\m2.abs L2=a2):=⟨e2,ea rfl⟩;have y0:=hM2.step;have y1:=hM2.frozen 0;rw[e1]at y0;change w2.cell? ⟨B,0,none⟩=some (A F m1.step)at y0;rw[E3.out]at y0;have hB2:=hM2.lt;clear hO2 e1 e2 ea)
     |fail)
    go_roundw
    case rel=>
     have hbw2:Below B w w2:=(hb.trans (z1a (z1j (z0v (z12 B wr) _ _) _) hB)).trans hb2;have ha2:m2.abs L2=a2:=HE.out.2;have hrun:=HX3.out.2 rfl;rw[Int.toNat_natCast, <-ha2]at hrun;refine⟨pc+1+j,k+1,m2.setStep ((pc:Int)+(1+(j:Int))),L2,by omega,by omega,?_,hM2.putStep _,HO2.out.kept (z0v (z12 B w2) _ _),?_,?_,?_,hrun⟩
     ·have hr:B<=(⟨B,0,none⟩:Addr).block:=Nat.le_refl _
      exact hbw2.setCell hr _
     ·have:=HOK3.out
      rw[<-ha2]at this;exact this
     ·show(pc:Int)+(1+(j:Int))=((pc+1+j:Nat):Int)
      omega
     ·show m2.steps=((k+1:Nat):Int)
      rw[HE.out.1];omega
    case measure=>
     rw[z94 hM1,z94 (hM2.putStep ((pc:Int)+(1+(j:Int)))),E3.out];show len-((pc:Int)+(1+(j:Int))).toNat<len-(pc:Int).toNat;omega
   ·have he2:(er !=0)=true:=by simpa using he
    have HER:Hid (er≠0):=he;clear he
    go_wp2_with(first
     |(go_at_call 67;refine(zX5 B d s c o n r (m1.setSteps ((k:Int)+1)) L1 hd11 hs11 _ ((hM1.putSteps ((k:Int)+1)).alloc _) (HOW.out _) hok1 HNN.out c1 c2 HC28.out H27.out).mono ?_;rintro e w2 ⟨rfl,hr2⟩;rw[HD.out]at hr2⊢;dsimp only at hr2⊢;have HR2:Hid (Res B _ w2 (m1.setSteps ((k:Int)+1)) er a2):=hr2;clear hr2)
     |fail)
    go_ret;obtain⟨hb2,m2,L2,hM2,hO2,e1,e2,ea⟩:=HR2.out;refine⟨er,rfl,(hb.trans (z1a (z1j (z0v (z12 B wr) _ _) _) hB)).trans hb2,m2,L2,hM2,hO2,?_⟩;rw[HX3.out.1 HER.out];exact⟨rfl,HER.out,e1.trans E3.out⟩
end
end
section
attribute [local simp] z0p z0j z04
def mac0(T K:Nat->Int)(time:Int):Mac:=⟨0,0,fun _=>z2s,fun _=>z2s,T,K,time,.slice none 0 0⟩
def zX6(z:Array Value)(T K:Nat->Int)(time:Int):Array Value:=
 ((((((((((((((((((((((((((((((z.setIfInBounds 83 (A F (T 0))).setIfInBounds 84 (A F (T 1))).setIfInBounds 85 (A F (T 2))).setIfInBounds 86 (A F (T 3))).setIfInBounds 87 (A F (T 4))).setIfInBounds 88 (A F (T 5))).setIfInBounds 89 (A F (T 6))).setIfInBounds 90 (A F (T 7))).setIfInBounds 91 (A F (K 0))).setIfInBounds 92 (A F (K 1))).setIfInBounds 93 (A F (K 2))).setIfInBounds 94 (A F (K 3))).setIfInBounds 95 (A F (K 4))).setIfInBounds 96 (A F (K 5))).setIfInBounds 97 (A F (K 6))).setIfInBounds 98 (A F (K 7))).setIfInBounds 99 (A F (K 8))).setIfInBounds 100 (A F (K 9))).setIfInBounds 101 (A F (K 10))).setIfInBounds 102 (A F (K 11))).setIfInBounds 103 (A F (K 12))).setIfInBounds 104 (A F (K 13))).setIfInBounds 105 (A F (K 14))).setIfInBounds 106 (A F (K 15))).setIfInBounds 107 (A F time)).setIfInBounds 5 (A F 2)).setIfInBounds 6 (A F 0)).setIfInBounds 7 (A F 0)).setIfInBounds 32 (A F 3)).setIfInBounds 33 (A F 0)).setIfInBounds 34 (A F 0)
def z4c(T K:Nat->Int)(time:Int):Mac:=((mac0 T K time).putReg 1 ⟨2,0,0⟩).putReg 10 ⟨3,0,0⟩
theorem zRz(T K:Nat->Int)(time:Int):zX6 Tryz.zeroCells165 T K time=Array.ofFn (n:=109) fun i=>(z4c T K time).cell i.1:=by
 kernel_rfl
theorem zT5(w:World)(T K:Nat->Int)(time:Int):z0a (w.alloc (cT (zX6 Tryz.zeroCells165 T K time) 165)) w.heap.size (z4c T K time):=by
 rw[zRz];show(w.heap.push _)[w.heap.size]?=_;simp
theorem zHe(T K:Nat->Int)(time:Int)(w:World):
  Calls tP 51 #[.agg #[A F (T 0),A F (T 1),A F (T 2),A F (T 3),A F (T 4),A F (T 5),A F (T 6),A F (T 7)],.agg #[A F (K 0),A F (K 1),A F (K 2),A F (K 3),A F (K 4),A F (K 5),A F (K 6),A F (K 7),A F (K 8),A F (K 9),A F (K 10),A F (K 11),A F (K 12),A F (K 13),A F (K 14),A F (K 15)],A F time] w fun e w'=>e= rT (pT (some ⟨w.heap.size+1+1,0,none⟩))/\Below w.heap.size w w'/\z0a w' (w.heap.size+1+1) (z4c T K time):=by
 go_enter Tryz.func51,Tryz.ntmps51;go_wp2;go_ret;refine⟨rfl,?_,?_⟩
 ·repeat' first|with_reducible(first|exact bF _ _|refine bA ?_ ?_ _|refine bS ?_ ?_ _)|((try dsimp only);omega)|(simp;done)|(simp;omega)
 have h:=zT5 ((w.alloc (cT #[A F (T 0),A F (T 1),A F (T 2),A F (T 3),A F (T 4),A F (T 5),A F (T 6),A F (T 7)] 34)).alloc (cT #[A F (K 0),A F (K 1),A F (K 2),A F (K 3),A F (K 4),A F (K 5),A F (K 6),A F (K 7),A F (K 8),A F (K 9),A F (K 10),A F (K 11),A F (K 12),A F (K 13),A F (K 14),A F (K 15)] 55)) T K time;simp only[World.size_alloc]at h;exact h
def zeroCs:Array Value:=#[A F 0,A F 0,A F 0,A F 0,A F 0,A F 0,A F 0,A F 0,A F 0,A F 0,A F 0,A F 0,A F 0,A F 0,A F 0,A F 0,A F 0,.slice none 0 0,A F 0]
def z8f:Value:= .agg zeroCs
theorem Tryz.infoK:(Tryz.prog.info? 55).map (·.size)=some 16:=kR
theorem Tryz.infoRan:(Tryz.prog.info? 127).map (·.size)=some 19:=kR
theorem zPo(W:World)(g:Nat)(cs:Array Value)(h:W.heap[g]?=some (cT zeroCs 127 (0,0)))(hs:cs.size=19)(h1:cs.all (·.oneCell')=true):(Instr.storeAt 127 (pT (some ⟨g,0,none⟩)) (.agg cs)).run tP W= .ok () (W.setRow g cs):=by
 simp only[Instr.storeAt,Instr.sureAddr,Sem.run_bind,Sem.run_pure,Result.andThen_ok,run_storeVar_row W g 127 127 zeroCs cs h (by rw[Tryz.infoRan,hs]) (by rw[hs];rfl) h1]
theorem z5o{o:Oper}{a:Act}(W:World)(x y:Operand)(g:Nat)(cs:Array Value)(ho:o.op= .store 127 x y)(hx:a.eval x= pT (some ⟨g,0,none⟩))(hy:a.eval y= .agg cs)(h:W.heap[g]?=some (cT zeroCs 127 (0,0)))(hs:cs.size=19)(h1:cs.all (·.oneCell')=true):(execOp a.eval o).run tP W= .ok .skip (W.setRow g cs):=by
 unfold execOp;simp only[ho,hx,hy,Sem.run_bind,Sem.run_pure,Result.andThen_ok,zPo W g cs h hs h1]
theorem zUr{o:Oper}{x:Operand}{u:Act}(W:World)(B:Nat)(m:Mac)(a:Abs){L:List Int}(hM:z0a W B m)(ha:m.abs L=a)(cs:Array Value)(hcs:cs=#[A F (a.cel 0),A F (a.cel 1),A F (a.cel 2),A F (a.cel 3),A F (a.cel 4),A F (a.cel 5),A F (a.cel 6),A F (a.cel 7),A F (a.cel 8),A F (a.cel 9),A F (a.cel 10),A F (a.cel 11),A F (a.cel 12),A F (a.cel 13),A F (a.cel 14),A F (a.cel 15)])(ho:o.op= .load 55 x)(hx:u.eval x= pT (some ⟨B,91,none⟩)):(execOp u.eval o).run tP W= .ok (.value (.agg cs)) W:=by
 have hr:W.rangeAt B 91 cs.toList:=by
  intro j v hv;have hj:j<16:=by have:=(List.getElem?_eq_some_iff.1 hv).1;rw[hcs]at this;simpa using this
  rw[hM.cel hj];rw[show m.cel=a.cel by rw[<-ha];rfl];rw[hcs]at hv
  have hk: ∀i,i<16->(#[Value.int .i64 (a.cel 0),Value.int .i64 (a.cel 1),Value.int .i64 (a.cel 2),Value.int .i64 (a.cel 3),Value.int .i64 (a.cel 4),Value.int .i64 (a.cel 5),Value.int .i64 (a.cel 6),Value.int .i64 (a.cel 7),Value.int .i64 (a.cel 8),Value.int .i64 (a.cel 9),Value.int .i64 (a.cel 10),Value.int .i64 (a.cel 11),Value.int .i64 (a.cel 12),Value.int .i64 (a.cel 13),Value.int .i64 (a.cel 14),Value.int .i64 (a.cel 15)]:Array Value).toList[i]?=some (A F (a.cel i)):=by
   intro i hi;rcases(show i=0\/i=1\/i=2\/i=3\/i=4\/i=5\/i=6\/i=7\/i=8\/i=9\/i=10\/i=11\/i=12\/i=13\/i=14\/i=15 by omega)with rfl|rfl|rfl|rfl|rfl|rfl|rfl|rfl|rfl|rfl|rfl|rfl|rfl|rfl|rfl|rfl<;>rfl
  rw[hk j hj]at hv;exact hv
 have hl:=run_loadVar_mid (P:=tP) W B 91 55 cs.toList _ hr Tryz.underlying55 rfl (by rw[Tryz.infoK,hcs];rfl);unfold execOp;simp only[ho,hx,Instr.loadAt,Instr.sureAddr,Sem.run_bind,Sem.run_pure,Result.andThen_ok,hl]
theorem zFd(o:Nat):zeroCs[o]?=[A F 0,A F 0,A F 0,A F 0,A F 0,A F 0,A F 0,A F 0,A F 0,A F 0,A F 0,A F 0,A F 0,A F 0,A F 0,A F 0,A F 0,.slice none 0 0,A F 0][o]?:=by simp[zeroCs]
theorem zeroCs_one:zeroCs.all (·.oneCell')=true:=kR
theorem z3n{B:Nat}{a w:World}(h:Below B a w){g:Nat}(hg:B<=g)(cs:Array Value):Below B a (w.setRow g cs):=
 h.trans ⟨rfl,rfl,rfl,by simp,fun k hk=>setRow_other w g k cs kO⟩
theorem z7h(w:World)(X Y Z:Obj):(((w.alloc X).alloc Y).alloc Z).heap[w.heap.size+1+1]?=some Z:=by
 have:=heap_alloc_new ((w.alloc X).alloc Y) Z;simp only[World.size_alloc]at this;exact this
theorem z6w(tmps:Array Value)(w':World)(g:Nat)(cs:Array Value)(x:Value)(h8:tmps.getD 8 undef= pT (some ⟨g,0,none⟩))(h9:tmps.getD 9 undef=x)(hg:w'.heap[g]?=some (cT cs 127 (0,0)))(hs:cs.size=19):
  (results Tryz.f40 tmps).run tP w'= .ok (.tuple #[.agg cs,x]) w':=by
 have h8':tmps[8]?.getD undef= pT (some ⟨g,0,none⟩):=by simpa using h8
 have h9':tmps[9]?.getD undef=x:=by simpa using h9
 have hl:=run_loadVar_row (P:=tP) w' g 127 127 cs (0,0) _ hg Tryz.underlying127 rfl (by rw[Tryz.infoRan,hs]);simp[results,Tryz.results40,asAddr,h8',h9',hl]
theorem Tryz.infoT:(Tryz.prog.info? 34).map (·.size)=some 8:=kR
def RS(B g:Nat)(m:Mac)(W:World):Prop:=z0a W B m/\W.heap[g]?=some (cT zeroCs 127 (0,0))
theorem RS.row{B g:Nat}{m:Mac}{W:World}(h:RS B g m W)(hne:g≠B):RS B g m (W.setRow g zeroCs):=⟨(setRow_other W g B zeroCs (fun e=>hne e.symm)).trans h.1,setRow_heap W g zeroCs zeroCs _ _ h.2⟩
def RS2(B g:Nat)(m:Mac)(W:World):Prop:=z0a W B m/\ ∃cs:Array Value,cs.size=19/\W.heap[g]?=some (cT cs 127 (0,0))
theorem zY5{w3:World}{b b' g:Nat}{e:TypeId}{z:Nat}{v:Value}{n:Nat}{xs:List Value}(h:w3.ownsRow b e z v n xs)(hg:g<b)(hb:b'<=b)(cs:Array Value):(w3.drew.setRow g cs).ownsRow b' e z v n xs:=by
 obtain⟨h1,h2⟩:=h;refine⟨h1,?_⟩;rcases h2 with h2|⟨k,cap,cur,hv,hk,hh,r⟩
 ·exact Or.inl h2
 exact Or.inr ⟨k,cap,cur,hv,by omega,(setRow_other w3.drew g k cs kO).trans hh,r⟩
theorem z88(w:World)(X Y Z:Obj):(((w.alloc X).alloc Y).alloc Z).heap[w.heap.size]?=some X:=by
 have e1:=Below.heap_alloc ((w.alloc X).alloc Y) Z w.heap.size kZ;have e2:=Below.heap_alloc (w.alloc X) Y w.heap.size kS;rw[e1,e2];exact heap_alloc_new w X
theorem z64(w:World)(X Y Z:Obj):(((w.alloc X).alloc Y).alloc Z).heap[w.heap.size+1]?=some Y:=by
 have e1:=Below.heap_alloc ((w.alloc X).alloc Y) Z (w.heap.size+1) kS;have e2:=heap_alloc_new (w.alloc X) Y;simp only[World.size_alloc]at e2;rw[e1,e2]
theorem z9k{T K:Nat->Int}{time:Int}(hT: ∀i,i<8->In64 (T i))(hK: ∀i,i<16->In64 (K i))(ht:In64 time):((z4c T K time).abs []).Ok:=by
 refine⟨fun i _=>?_,fun i _=>z59,hT,hK,ht,fun x hx=>absurd hx (by simp[Mac.abs]),Nat.zero_le _⟩;show(if i=10 then(⟨3,0,0⟩:Val)else if i=1 then⟨2,0,0⟩else z2s).Ok;split
 ·exact⟨by decide,by decide,⟨by decide,by decide⟩,by decide,by decide⟩
 split
 ·exact⟨by decide,by decide,⟨by decide,by decide⟩,by decide,by decide⟩
 exact z59
theorem zXr(bk off len cap:Nat)(C D S O N:Nat->Int)(R:Nat->Bool)(T K:Nat->Int)(time:Int)(w:World)(h1:1<=len)(h2:len<=200)(hbk:bk<w.heap.size)(hst:z1g w bk off len C D S R O N)(h: ∀j,j<len->z0l len C D S R O N j=0)(hN: ∀k,k<len->In64 (N k))(hT: ∀i,i<8->In64 (T i))(hK: ∀i,i<16->In64 (K i))(ht:In64 time)(er:Int)(q:Nat)(HR:Hid (runF C D S R O N len 0 0 ((z4c T K time).abs [])= .bad er q)):
  Calls tP 40 #[.slice (some ⟨bk,off,none⟩) len cap,.agg #[A F (T 0),A F (T 1),A F (T 2),A F (T 3),A F (T 4),A F (T 5),A F (T 6),A F (T 7)],.agg #[A F (K 0),A F (K 1),A F (K 2),A F (K 3),A F (K 4),A F (K 5),A F (K 6),A F (K 7),A F (K 8),A F (K 9),A F (K 10),A F (K 11),A F (K 12),A F (K 13),A F (K 14),A F (K 15)],A F time] w fun e w'=> ∃p,e= rT (.tuple #[z8f,.iface 134 (pT (some ⟨p,0,none⟩))])/\Below w.heap.size w w'/\p<w'.heap.size/\w'.cell? ⟨p,0,none⟩=some (A F er)/\w'.cell? ⟨p,1,none⟩=some (A F q)/\er≠0:=by
 have HC:Hid (∀W:World,Below w.heap.size w W->zR 48 #[.slice (some ⟨bk,off,none⟩) len cap] W .nilIface):=fun W hW=>z5r h (hst.later hW hbk) h1 h2 (Nat.lt_of_lt_of_le hbk hW.size);have HG:Hid (∀(B:Nat)(W:World),w.heap.size<B->Below w.heap.size w W->z0a W B (z4c T K time)->Calls tP 52 #[pT (some ⟨B,0,none⟩),.slice (some ⟨bk,off,none⟩) len cap] W fun e w'=> ∃E,e= rT (A F E)/\Gone B W w' (runF C D S R O N len 0 0 ((z4c T K time).abs [])) E):=fun B W hB hW hM=>zLa B bk off len cap C D S O N R (z4c T K time) [] W hM (World.ownsRow_nil W (B+1) _ 1) (z9k hT hK ht) (hst.later hW hbk) kO h2 h1 h hN rfl rfl;have HB:Hid (Below w.heap.size w (((w.alloc (cT #[A F (T 0),A F (T 1),A F (T 2),A F (T 3),A F (T 4),A F (T 5),A F (T 6),A F (T 7)] 34)).alloc (cT #[A F (K 0),A F (K 1),A F (K 2),A F (K 3),A F (K 4),A F (K 5),A F (K 6),A F (K 7),A F (K 8),A F (K 9),A F (K 10),A F (K 11),A F (K 12),A F (K 13),A F (K 14),A F (K 15)] 55)).alloc (cT zeroCs 127))):=((((bF _ _).alloc (Nat.le_refl _) _).alloc kS _).alloc kZ _);have HT:Hid ((((w.alloc (cT #[A F (T 0),A F (T 1),A F (T 2),A F (T 3),A F (T 4),A F (T 5),A F (T 6),A F (T 7)] 34)).alloc (cT #[A F (K 0),A F (K 1),A F (K 2),A F (K 3),A F (K 4),A F (K 5),A F (K 6),A F (K 7),A F (K 8),A F (K 9),A F (K 10),A F (K 11),A F (K 12),A F (K 13),A F (K 14),A F (K 15)] 55)).alloc (cT zeroCs 127)).heap[w.heap.size+1+1]?=some (cT zeroCs 127 (0,0))):=z7h _ _ _ _;have HX:Hid ((((w.alloc (cT #[A F (T 0),A F (T 1),A F (T 2),A F (T 3),A F (T 4),A F (T 5),A F (T 6),A F (T 7)] 34)).alloc (cT #[A F (K 0),A F (K 1),A F (K 2),A F (K 3),A F (K 4),A F (K 5),A F (K 6),A F (K 7),A F (K 8),A F (K 9),A F (K 10),A F (K 11),A F (K 12),A F (K 13),A F (K 14),A F (K 15)] 55)).alloc (cT zeroCs 127)).heap[w.heap.size]?=some (cT #[A F (T 0),A F (T 1),A F (T 2),A F (T 3),A F (T 4),A F (T 5),A F (T 6),A F (T 7)] 34 (0,0))):=z88 _ _ _ _;have HY:Hid ((((w.alloc (cT #[A F (T 0),A F (T 1),A F (T 2),A F (T 3),A F (T 4),A F (T 5),A F (T 6),A F (T 7)] 34)).alloc (cT #[A F (K 0),A F (K 1),A F (K 2),A F (K 3),A F (K 4),A F (K 5),A F (K 6),A F (K 7),A F (K 8),A F (K 9),A F (K 10),A F (K 11),A F (K 12),A F (K 13),A F (K 14),A F (K 15)] 55)).alloc (cT zeroCs 127)).heap[w.heap.size+1]?=some (cT #[A F (K 0),A F (K 1),A F (K 2),A F (K 3),A F (K 4),A F (K 5),A F (K 6),A F (K 7),A F (K 8),A F (K 9),A F (K 10),A F (K 11),A F (K 12),A F (K 13),A F (K 14),A F (K 15)] 55 (0,0))):=z64 _ _ _ _;clear hst h hbk hT hK ht hN h1 h2;go_enter Tryz.func40,Tryz.ntmps40
 go_wp2_with(first
  |(go_at_call 48;refine(HC.out _ HB.out).mono ?_;rintro e w1 ⟨rfl,hb1⟩;have HZ1:Hid (w1.heap[w.heap.size+1+1]?=some (cT zeroCs 127 (0,0))):=(hb1.block (w.heap.size+1+1) kS).trans HT.out;have HX1:Hid (w1.heap[w.heap.size]?=some (cT #[A F (T 0),A F (T 1),A F (T 2),A F (T 3),A F (T 4),A F (T 5),A F (T 6),A F (T 7)] 34 (0,0))):=(hb1.block w.heap.size kZ).trans HX.out;have HY1:Hid (w1.heap[w.heap.size+1]?=some (cT #[A F (K 0),A F (K 1),A F (K 2),A F (K 3),A F (K 4),A F (K 5),A F (K 6),A F (K 7),A F (K 8),A F (K 9),A F (K 10),A F (K 11),A F (K 12),A F (K 13),A F (K 14),A F (K 15)] 55 (0,0))):=(hb1.block (w.heap.size+1) kS).trans HY.out;have HBW:Hid (Below w.heap.size w w1):=HB.out.trans (hb1.mono HB.out.size);have HS1:Hid (w.heap.size+1+1<w1.heap.size):=(by have:=hb1.size;simp at this;show w.heap.size+1+1<w1.heap.size;omega);clear hb1)
  |(refine wpList_load_row rfl 34 (.tmp 5) rfl w.heap.size rfl 34 #[A F (T 0),A F (T 1),A F (T 2),A F (T 3),A F (T 4),A F (T 5),A F (T 6),A F (T 7)] (0,0) _ HX1.out Tryz.underlying34 rfl Tryz.infoT ?_)
  |(refine wpList_load_row rfl 55 (.tmp 6) rfl (w.heap.size+1) rfl 55 #[A F (K 0),A F (K 1),A F (K 2),A F (K 3),A F (K 4),A F (K 5),A F (K 6),A F (K 7),A F (K 8),A F (K 9),A F (K 10),A F (K 11),A F (K 12),A F (K 13),A F (K 14),A F (K 15)] (0,0) _ HY1.out Tryz.underlying55 rfl Tryz.infoK ?_)
  |(go_at_call 51;refine(zHe T K time _).mono ?_;rintro e w2 ⟨rfl,hb2,hM2⟩;obtain⟨B,hBe⟩: ∃B,w1.heap.size+1+1=B:=⟨_,rfl⟩;rw[hBe]at hM2⊢;have HBe:Hid (w.heap.size+1+1<B):=(by have:=HS1.out;show w.heap.size+1+1<B;omega);have HM2:Hid (z0a w2 B (z4c T K time)):=hM2;have HB2:Hid (Below w1.heap.size w1 w2):=hb2;clear hBe hM2 hb2)
  |(go_at_call 52;refine(HG.out B _ (by have:=HBe.out;omega) (HBW.out.trans (HB2.out.mono HBW.out.size)) HM2.out).mono ?_;rintro e w3 ⟨E,rfl,hg⟩;rw[HR.out]at hg;obtain⟨hb3,m3,L3,hM3,hO3,hE,hE0,hst3⟩:=hg;subst hE;have HE0:Hid (E≠0):=hE0;have he1:(E !=0)=true:=(by simpa using hE0);have HQ:Hid (m3.step=(q:Int)):=hst3;clear hE0 hst3 hO3;have HZ3:Hid (w3.heap[w.heap.size+1+1]?=some (cT zeroCs 127 (0,0))):=(hb3.block _ HBe.out).trans ((HB2.out.block _ HS1.out).trans HZ1.out);have HBW3:Hid (Below w.heap.size w w3):=(HBW.out.trans (HB2.out.mono HBW.out.size)).trans (hb3.mono (by have:=HBe.out;omega));have hz3: ∀o,w3.cell? ⟨w.heap.size+1+1,o,none⟩=[A F 0,A F 0,A F 0,A F 0,A F 0,A F 0,A F 0,A F 0,A F 0,A F 0,A F 0,A F 0,A F 0,A F 0,A F 0,A F 0,A F 0,.slice none 0 0,A F 0][o]?:=(fun o=>(cell_of_row w3 _ o zeroCs _ _ HZ3.out).trans (zFd o));have fz3: ∀o,w3.frozen? ⟨w.heap.size+1+1,o,none⟩=false:=(fun o=>by simp[World.frozen?,HZ3.out]);have hB3:=hM3.lt;have hS3:w.heap.size+1+1<w3.heap.size:=(by have:=HBe.out;omega);have hne:w.heap.size+1+1≠B:=(by have:=HBe.out;omega))
  |fail)
 clear HC HG HB HT HX HY HX1 HY1 HZ1 HB2 HM2 HBW hz3 fz3;refine wp_region_held_drew (S:=RS B (w.heap.size+1+1) m3) kR ⟨hM3,HZ3.out⟩ fun hS=>?_;change wpAnyH _ _ _ _ _ 11 (Array.replicate 11 false) _ _
 refine tkH (i:=0) (some 28) (.agg #[A F 0,A F 0,A F 0,A F 0,A F 0,A F 0,A F 0,A F 0,A F 0,A F 0,A F 0,A F 0,A F 0,A F 0,A F 0,A F 0,A F 0,.slice none 0 0,A F 0]) rfl rfl (fun W hW=>?_) hS ?_
 ·go_simp
 simp only[pS];refine tkH (i:=1) (some 29) (A F E) rfl rfl (fun W hW=>?_) hS ?_
 ·go_simp
 simp only[pS];refine tkH (i:=2) (some 30) (pT (some ⟨B,0,none⟩)) rfl rfl (fun W hW=>?_) hS ?_
 ·go_simp
 simp only[pS];refine tkH (i:=3) (some 31) (pT (some ⟨B,0,none⟩)) rfl rfl (fun W hW=>?_) hS ?_
 ·go_simp
 simp only[pS];refine tkH (i:=4) (some 32) (pT (some ⟨B,0,none⟩)) rfl rfl (fun W hW=>?_) hS ?_
 ·go_simp
 simp only[pS];refine tkH (i:=5) (some 33) (A F (q:Int)) rfl rfl (fun W hW=>?_) hS ?_
 ·have y0:W.cell? ⟨B,0,none⟩=some (A F (q:Int)):=(by rw[hW.1.step];exact congrArg _ (congrArg _ HQ.out))
  go_simp
 simp only[pS];refine tkH (i:=6) (some 34) (.agg #[A F E,A F (q:Int)]) rfl rfl (fun W hW=>?_) hS ?_
 ·go_simp
 simp only[pS];refine wpAnyH_ready (rs:=[7,9]) kR kS ?_;have hA:RS B (w.heap.size+1+1) m3 (w3.drew.alloc (cT #[A F E,A F (q:Int)] 136)):=⟨hM3.drew.alloc _,(Below.heap_alloc w3.drew _ _ hS3).trans HZ3.out⟩;have hA2:RS B (w.heap.size+1+1) m3 ((w3.drew.alloc (cT #[A F E,A F (q:Int)] 136)).setRow (w.heap.size+1+1) zeroCs):=RS.row hA hne;have hA3:RS B (w.heap.size+1+1) m3 (w3.drew.setRow (w.heap.size+1+1) zeroCs):=RS.row hS hne;have hA4:RS B (w.heap.size+1+1) m3 ((w3.drew.setRow (w.heap.size+1+1) zeroCs).alloc (cT #[A F E,A F (q:Int)] 136)):=⟨hA3.1.alloc _,(Below.heap_alloc _ _ _ (by simpa using hS3)).trans hA3.2⟩;refine z24 (some 35) (pT (some ⟨w3.heap.size,0,none⟩)) (w3.drew.alloc (cT #[A F E,A F (q:Int)] 136)) rfl rfl kI ?_ hA ?_ (z3b (w3.drew.setRow (w.heap.size+1+1) zeroCs) rfl rfl kI ?_ hA3 ?_ AllReadyH.nil)
 ·go_simp
 ·simp only[pS]
  refine tkH (i:=8) (some 36) (.iface 134 (pT (some ⟨w3.heap.size,0,none⟩))) rfl rfl (fun W hW=>?_) hA ?_
  ·go_simp
  simp only[pS];refine wpAnyH_ready (rs:=[9]) kR kS ?_;refine z3b ((w3.drew.alloc (cT #[A F E,A F (q:Int)] 136)).setRow (w.heap.size+1+1) zeroCs) rfl rfl kI ?_ hA2 ?_ AllReadyH.nil
  ·exact z5o _ _ _ _ _ rfl rfl rfl hA.2 rfl zeroCs_one
  simp only[Act.put];refine tkH (i:=10) (some 9) (.iface 134 (pT (some ⟨w3.heap.size,0,none⟩))) rfl rfl (fun W hW=>?_) hA2 ?_
  ·go_simp
  simp only[pS];refine wpAnyH_done kR ?_ _;go_wp2;exact bodyPost_ret (v:= .tuple #[z8f,.iface 134 (pT (some ⟨w3.heap.size,0,none⟩))]) (z6w _ _ (w.heap.size+1+1) zeroCs _ rfl rfl hA2.2 rfl) rfl ⟨w3.heap.size,rfl,z3n ((HBW3.out.drew).alloc (by have:=HBW3.out.size;simpa using this) _) kO _,by simp,by rw[cell_setRow_other _ _ _ _ (by show w3.heap.size≠_;omega),World.cell?_alloc_at _ _ _ _ kS];rfl,by rw[cell_setRow_other _ _ _ _ (by show w3.heap.size≠_;omega),World.cell?_alloc_at _ _ _ _ kS];rfl,HE0.out⟩
 ·exact z5o _ _ _ _ _ rfl rfl rfl hS.2 rfl zeroCs_one
 simp only[Act.put];refine wpAnyH_ready (rs:=[7]) kR kS ?_;refine z24 (some 35) (pT (some ⟨w3.heap.size,0,none⟩)) ((w3.drew.setRow (w.heap.size+1+1) zeroCs).alloc (cT #[A F E,A F (q:Int)] 136)) rfl rfl kI ?_ hA4 ?_ AllReadyH.nil
 ·go_simp
 simp only[pS];refine tkH (i:=8) (some 36) (.iface 134 (pT (some ⟨w3.heap.size,0,none⟩))) rfl rfl (fun W hW=>?_) hA4 ?_
 ·go_simp
 simp only[pS];refine tkH (i:=10) (some 9) (.iface 134 (pT (some ⟨w3.heap.size,0,none⟩))) rfl rfl (fun W hW=>?_) hA4 ?_
 ·go_simp
 simp only[pS];refine wpAnyH_done kR ?_ _;go_wp2;exact bodyPost_ret (v:= .tuple #[z8f,.iface 134 (pT (some ⟨w3.heap.size,0,none⟩))]) (z6w _ _ (w.heap.size+1+1) zeroCs _ rfl rfl hA4.2 rfl) rfl ⟨w3.heap.size,rfl,(z3n HBW3.out.drew kO _).alloc (by have:=HBW3.out.size;simpa using this) _,by simp,by rw[World.cell?_alloc_at _ _ _ _ kS];rfl,by rw[World.cell?_alloc_at _ _ _ _ kS];rfl,HE0.out⟩
theorem zTc(bk off len cap:Nat)(C D S O N:Nat->Int)(R:Nat->Bool)(T K:Nat->Int)(time:Int)(w:World)(h1:1<=len)(h2:len<=200)(hbk:bk<w.heap.size)(hst:z1g w bk off len C D S R O N)(h: ∀j,j<len->z0l len C D S R O N j=0)(hN: ∀k,k<len->In64 (N k))(hT: ∀i,i<8->In64 (T i))(hK: ∀i,i<16->In64 (K i))(ht:In64 time)(n0:Int)(k:Nat)(a:Abs)(HR:Hid (runF C D S R O N len 0 0 ((z4c T K time).abs [])= .fine n0 k a)):
  Calls tP 40 #[.slice (some ⟨bk,off,none⟩) len cap,.agg #[A F (T 0),A F (T 1),A F (T 2),A F (T 3),A F (T 4),A F (T 5),A F (T 6),A F (T 7)],.agg #[A F (K 0),A F (K 1),A F (K 2),A F (K 3),A F (K 4),A F (K 5),A F (K 6),A F (K 7),A F (K 8),A F (K 9),A F (K 10),A F (K 11),A F (K 12),A F (K 13),A F (K 14),A F (K 15)],A F time] w fun e w'=> ∃v3,e= rT (.tuple #[.agg #[A F n0,A F (a.cel 0),A F (a.cel 1),A F (a.cel 2),A F (a.cel 3),A F (a.cel 4),A F (a.cel 5),A F (a.cel 6),A F (a.cel 7),A F (a.cel 8),A F (a.cel 9),A F (a.cel 10),A F (a.cel 11),A F (a.cel 12),A F (a.cel 13),A F (a.cel 14),A F (a.cel 15),v3,A F (k:Int)],.nilIface])/\Below w.heap.size w w'/\w'.ownsRow (w.heap.size+1) 2 1 v3 a.out.length (a.out.map (Value.int .i64)):=by
 have HC:Hid (∀W:World,Below w.heap.size w W->zR 48 #[.slice (some ⟨bk,off,none⟩) len cap] W .nilIface):=fun W hW=>z5r h (hst.later hW hbk) h1 h2 (Nat.lt_of_lt_of_le hbk hW.size);have HG:Hid (∀(B:Nat)(W:World),w.heap.size<B->Below w.heap.size w W->z0a W B (z4c T K time)->Calls tP 52 #[pT (some ⟨B,0,none⟩),.slice (some ⟨bk,off,none⟩) len cap] W fun e w'=> ∃E,e= rT (A F E)/\Gone B W w' (runF C D S R O N len 0 0 ((z4c T K time).abs [])) E):=fun B W hB hW hM=>zLa B bk off len cap C D S O N R (z4c T K time) [] W hM (World.ownsRow_nil W (B+1) _ 1) (z9k hT hK ht) (hst.later hW hbk) kO h2 h1 h hN rfl rfl;have HB:Hid (Below w.heap.size w (((w.alloc (cT #[A F (T 0),A F (T 1),A F (T 2),A F (T 3),A F (T 4),A F (T 5),A F (T 6),A F (T 7)] 34)).alloc (cT #[A F (K 0),A F (K 1),A F (K 2),A F (K 3),A F (K 4),A F (K 5),A F (K 6),A F (K 7),A F (K 8),A F (K 9),A F (K 10),A F (K 11),A F (K 12),A F (K 13),A F (K 14),A F (K 15)] 55)).alloc (cT zeroCs 127))):=((((bF _ _).alloc (Nat.le_refl _) _).alloc kS _).alloc kZ _);have HT:Hid ((((w.alloc (cT #[A F (T 0),A F (T 1),A F (T 2),A F (T 3),A F (T 4),A F (T 5),A F (T 6),A F (T 7)] 34)).alloc (cT #[A F (K 0),A F (K 1),A F (K 2),A F (K 3),A F (K 4),A F (K 5),A F (K 6),A F (K 7),A F (K 8),A F (K 9),A F (K 10),A F (K 11),A F (K 12),A F (K 13),A F (K 14),A F (K 15)] 55)).alloc (cT zeroCs 127)).heap[w.heap.size+1+1]?=some (cT zeroCs 127 (0,0))):=z7h _ _ _ _;have HX:Hid ((((w.alloc (cT #[A F (T 0),A F (T 1),A F (T 2),A F (T 3),A F (T 4),A F (T 5),A F (T 6),A F (T 7)] 34)).alloc (cT #[A F (K 0),A F (K 1),A F (K 2),A F (K 3),A F (K 4),A F (K 5),A F (K 6),A F (K 7),A F (K 8),A F (K 9),A F (K 10),A F (K 11),A F (K 12),A F (K 13),A F (K 14),A F (K 15)] 55)).alloc (cT zeroCs 127)).heap[w.heap.size]?=some (cT #[A F (T 0),A F (T 1),A F (T 2),A F (T 3),A F (T 4),A F (T 5),A F (T 6),A F (T 7)] 34 (0,0))):=z88 _ _ _ _;have HY:Hid ((((w.alloc (cT #[A F (T 0),A F (T 1),A F (T 2),A F (T 3),A F (T 4),A F (T 5),A F (T 6),A F (T 7)] 34)).alloc (cT #[A F (K 0),A F (K 1),A F (K 2),A F (K 3),A F (K 4),A F (K 5),A F (K 6),A F (K 7),A F (K 8),A F (K 9),A F (K 10),A F (K 11),A F (K 12),A F (K 13),A F (K 14),A F (K 15)] 55)).alloc (cT zeroCs 127)).heap[w.heap.size+1]?=some (cT #[A F (K 0),A F (K 1),A F (K 2),A F (K 3),A F (K 4),A F (K 5),A F (K 6),A F (K 7),A F (K 8),A F (K 9),A F (K 10),A F (K 11),A F (K 12),A F (K 13),A F (K 14),A F (K 15)] 55 (0,0))):=z64 _ _ _ _;clear hst h hbk hT hK ht hN h1 h2;go_enter Tryz.func40,Tryz.ntmps40
 go_wp2_with(first
  |(go_at_call 48;refine(HC.out _ HB.out).mono ?_;rintro e w1 ⟨rfl,hb1⟩;have HZ1:Hid (w1.heap[w.heap.size+1+1]?=some (cT zeroCs 127 (0,0))):=(hb1.block (w.heap.size+1+1) kS).trans HT.out;have HX1:Hid (w1.heap[w.heap.size]?=some (cT #[A F (T 0),A F (T 1),A F (T 2),A F (T 3),A F (T 4),A F (T 5),A F (T 6),A F (T 7)] 34 (0,0))):=(hb1.block w.heap.size kZ).trans HX.out;have HY1:Hid (w1.heap[w.heap.size+1]?=some (cT #[A F (K 0),A F (K 1),A F (K 2),A F (K 3),A F (K 4),A F (K 5),A F (K 6),A F (K 7),A F (K 8),A F (K 9),A F (K 10),A F (K 11),A F (K 12),A F (K 13),A F (K 14),A F (K 15)] 55 (0,0))):=(hb1.block (w.heap.size+1) kS).trans HY.out;have HBW:Hid (Below w.heap.size w w1):=HB.out.trans (hb1.mono HB.out.size);have HS1:Hid (w.heap.size+1+1<w1.heap.size):=(by have:=hb1.size;simp at this;show w.heap.size+1+1<w1.heap.size;omega);clear hb1)
  |(refine wpList_load_row rfl 34 (.tmp 5) rfl w.heap.size rfl 34 #[A F (T 0),A F (T 1),A F (T 2),A F (T 3),A F (T 4),A F (T 5),A F (T 6),A F (T 7)] (0,0) _ HX1.out Tryz.underlying34 rfl Tryz.infoT ?_)
  |(refine wpList_load_row rfl 55 (.tmp 6) rfl (w.heap.size+1) rfl 55 #[A F (K 0),A F (K 1),A F (K 2),A F (K 3),A F (K 4),A F (K 5),A F (K 6),A F (K 7),A F (K 8),A F (K 9),A F (K 10),A F (K 11),A F (K 12),A F (K 13),A F (K 14),A F (K 15)] (0,0) _ HY1.out Tryz.underlying55 rfl Tryz.infoK ?_)
  |(go_at_call 51;refine(zHe T K time _).mono ?_;rintro e w2 ⟨rfl,hb2,hM2⟩;obtain⟨B,hBe⟩: ∃B,w1.heap.size+1+1=B:=⟨_,rfl⟩;rw[hBe]at hM2⊢;have HBe:Hid (w.heap.size+1+1<B):=(by have:=HS1.out;show w.heap.size+1+1<B;omega);have HM2:Hid (z0a w2 B (z4c T K time)):=hM2;have HB2:Hid (Below w1.heap.size w1 w2):=hb2;clear hBe hM2 hb2)
  |(go_at_call 52;refine(HG.out B _ (by have:=HBe.out;omega) (HBW.out.trans (HB2.out.mono HBW.out.size)) HM2.out).mono ?_;rintro e w3 ⟨E,rfl,hg⟩;rw[HR.out]at hg;obtain⟨hb3,m3,L3,hM3,hO3,hE,hst3,ha3,hn3⟩:=hg;subst hE;have HA:Hid (m3.abs L3=a):=ha3;have HK0:Hid (m3.steps=(k:Int)):=hst3;have HN3:Hid (n0=(a.reg 0).n):=hn3;have HO3:Hid (z0u w3 B m3.out L3):=hO3;clear hst3 hO3 ha3 hn3;have HZ3:Hid (w3.heap[w.heap.size+1+1]?=some (cT zeroCs 127 (0,0))):=(hb3.block _ HBe.out).trans ((HB2.out.block _ HS1.out).trans HZ1.out);have HBW3:Hid (Below w.heap.size w w3):=(HBW.out.trans (HB2.out.mono HBW.out.size)).trans (hb3.mono (by have:=HBe.out;omega));have hz3: ∀o,w3.cell? ⟨w.heap.size+1+1,o,none⟩=[A F 0,A F 0,A F 0,A F 0,A F 0,A F 0,A F 0,A F 0,A F 0,A F 0,A F 0,A F 0,A F 0,A F 0,A F 0,A F 0,A F 0,.slice none 0 0,A F 0][o]?:=(fun o=>(cell_of_row w3 _ o zeroCs _ _ HZ3.out).trans (zFd o));have fz3: ∀o,w3.frozen? ⟨w.heap.size+1+1,o,none⟩=false:=(fun o=>by simp[World.frozen?,HZ3.out]);have hB3:=hM3.lt;have hS3:w.heap.size+1+1<w3.heap.size:=(by have:=HBe.out;omega);have hne:w.heap.size+1+1≠B:=(by have:=HBe.out;omega))
  |fail)
 clear HC HG HB HT HX HY HX1 HY1 HZ1 HB2 HM2 HBW hz3 fz3;obtain⟨v3,hv3⟩: ∃v3,m3.out=v3:=⟨_,rfl⟩;have HV3:Hid (some m3.out=some v3):=congrArg some hv3;have HVV:Hid (m3.out=v3):=hv3;have HSL:Hid (∃q1 q2 q3,v3= .slice q1 q2 q3):=by obtain⟨p,c,hh⟩:=HO3.out.shape;exact⟨p,_,c,hv3.symm.trans hh⟩
 have HK3:Hid (some (Value.int .i64 m3.steps)=some (A F (k:Int))):=congrArg (fun x=>some (Value.int .i64 x)) HK0.out;have HN0:Hid (some (m3.cell 3)=some (A F n0)):=by rw[HN3.out, <-HA.out];rfl
 clear hv3;refine wp_region_held_drew (S:=RS2 B (w.heap.size+1+1) m3) kR ⟨hM3,zeroCs,rfl,HZ3.out⟩ fun hS=>?_;change wpAnyH _ _ _ _ _ 21 (Array.replicate 21 false) _ _
 refine tkH (i:=0) (some 37) (pT (some ⟨B,0,none⟩)) rfl rfl (fun W hW=>?_) hS ?_
 ·go_simp
 simp only[pS];refine tkH (i:=1) (some 38) (pT (some ⟨B,0,none⟩)) rfl rfl (fun W hW=>?_) hS ?_
 ·go_simp
 simp only[pS];refine tkH (i:=2) (some 39) (pT (some ⟨B,2,none⟩)) rfl rfl (fun W hW=>?_) hS ?_
 ·go_simp
 simp only[pS];refine tkH (i:=3) (some 40) (pT (some ⟨B,2,none⟩)) rfl rfl (fun W hW=>?_) hS ?_
 ·go_simp
 simp only[pS];refine tkH (i:=4) (some 41) (pT (some ⟨B,3,none⟩)) rfl rfl (fun W hW=>?_) hS ?_
 ·go_simp
 simp only[pS];refine tkH (i:=5) (some 42) (A F n0) rfl rfl (fun W hW=>?_) hS ?_
 ·have y0:W.cell? ⟨B,3,none⟩=some (A F n0):=(hW.1.at 3 kD).trans HN0.out
  go_simp
 simp only[pS];refine tkH (i:=6) (some 43) (pT (some ⟨B,0,none⟩)) rfl rfl (fun W hW=>?_) hS ?_
 ·go_simp
 simp only[pS];refine tkH (i:=7) (some 44) (pT (some ⟨B,0,none⟩)) rfl rfl (fun W hW=>?_) hS ?_
 ·go_simp
 simp only[pS];refine tkH (i:=8) (some 45) (pT (some ⟨B,91,none⟩)) rfl rfl (fun W hW=>?_) hS ?_
 ·go_simp
 simp only[pS];refine tkH (i:=9) (some 46) (.agg #[A F (a.cel 0),A F (a.cel 1),A F (a.cel 2),A F (a.cel 3),A F (a.cel 4),A F (a.cel 5),A F (a.cel 6),A F (a.cel 7),A F (a.cel 8),A F (a.cel 9),A F (a.cel 10),A F (a.cel 11),A F (a.cel 12),A F (a.cel 13),A F (a.cel 14),A F (a.cel 15)]) rfl rfl (fun W hW=>?_) hS ?_
 ·refine zUr (x:= .tmp 45) W B m3 a hW.1 HA.out _ rfl ?_ ?_
  ·rfl
  ·rfl
 simp only[pS];refine tkH (i:=10) (some 47) (pT (some ⟨B,0,none⟩)) rfl rfl (fun W hW=>?_) hS ?_
 ·go_simp
 simp only[pS];refine tkH (i:=11) (some 48) (pT (some ⟨B,0,none⟩)) rfl rfl (fun W hW=>?_) hS ?_
 ·go_simp
 simp only[pS];refine tkH (i:=12) (some 49) (pT (some ⟨B,108,none⟩)) rfl rfl (fun W hW=>?_) hS ?_
 ·go_simp
 simp only[pS];refine tkH (i:=13) (some 50) (v3) rfl rfl (fun W hW=>?_) hS ?_
 ·have y0:W.cell? ⟨B,108,none⟩=some v3:=hW.1.outv.trans HV3.out
  obtain⟨q1,q2,q3,hq⟩:=HSL.out;subst hq;go_simp
 simp only[pS];refine tkH (i:=14) (some 51) (pT (some ⟨B,0,none⟩)) rfl rfl (fun W hW=>?_) hS ?_
 ·go_simp
 simp only[pS];refine tkH (i:=15) (some 52) (pT (some ⟨B,0,none⟩)) rfl rfl (fun W hW=>?_) hS ?_
 ·go_simp
 simp only[pS];refine tkH (i:=16) (some 53) (pT (some ⟨B,1,none⟩)) rfl rfl (fun W hW=>?_) hS ?_
 ·go_simp
 simp only[pS];refine tkH (i:=17) (some 54) (A F (k:Int)) rfl rfl (fun W hW=>?_) hS ?_
 ·have y0:W.cell? ⟨B,1,none⟩=some (A F (k:Int)):=hW.1.steps.trans HK3.out
  go_simp
 simp only[pS];refine tkH (i:=18) (some 55) (.agg #[A F n0,A F (a.cel 0),A F (a.cel 1),A F (a.cel 2),A F (a.cel 3),A F (a.cel 4),A F (a.cel 5),A F (a.cel 6),A F (a.cel 7),A F (a.cel 8),A F (a.cel 9),A F (a.cel 10),A F (a.cel 11),A F (a.cel 12),A F (a.cel 13),A F (a.cel 14),A F (a.cel 15),v3,A F (k:Int)]) rfl rfl (fun W hW=>?_) hS ?_
 ·obtain⟨q1,q2,q3,hq⟩:=HSL.out
  subst hq;go_simp
 simp only[pS];refine wpAnyH_ready (rs:=[19]) kR kS ?_
 have hone:(#[A F n0,A F (a.cel 0),A F (a.cel 1),A F (a.cel 2),A F (a.cel 3),A F (a.cel 4),A F (a.cel 5),A F (a.cel 6),A F (a.cel 7),A F (a.cel 8),A F (a.cel 9),A F (a.cel 10),A F (a.cel 11),A F (a.cel 12),A F (a.cel 13),A F (a.cel 14),A F (a.cel 15),v3,A F (k:Int)]:Array Value).all (·.oneCell')=true:=by
  obtain⟨q1,q2,q3,hq⟩:=HSL.out;rw[hq];kernel_rfl
 have hA:RS2 B (w.heap.size+1+1) m3 (w3.drew.setRow (w.heap.size+1+1) #[A F n0,A F (a.cel 0),A F (a.cel 1),A F (a.cel 2),A F (a.cel 3),A F (a.cel 4),A F (a.cel 5),A F (a.cel 6),A F (a.cel 7),A F (a.cel 8),A F (a.cel 9),A F (a.cel 10),A F (a.cel 11),A F (a.cel 12),A F (a.cel 13),A F (a.cel 14),A F (a.cel 15),v3,A F (k:Int)]):=⟨(setRow_other w3.drew _ B _ (fun e=>hne e.symm)).trans hM3,_,rfl,setRow_heap w3.drew _ zeroCs _ _ _ HZ3.out⟩;refine z3b (w3.drew.setRow (w.heap.size+1+1) #[A F n0,A F (a.cel 0),A F (a.cel 1),A F (a.cel 2),A F (a.cel 3),A F (a.cel 4),A F (a.cel 5),A F (a.cel 6),A F (a.cel 7),A F (a.cel 8),A F (a.cel 9),A F (a.cel 10),A F (a.cel 11),A F (a.cel 12),A F (a.cel 13),A F (a.cel 14),A F (a.cel 15),v3,A F (k:Int)]) rfl rfl kI ?_ hA ?_ AllReadyH.nil
 ·exact z5o _ _ _ _ _ rfl rfl rfl HZ3.out rfl hone
 simp only[Act.put];refine tkH (i:=20) (some 9) (.nilIface) rfl rfl (fun W hW=>?_) hA ?_
 ·go_simp
 simp only[pS];refine wpAnyH_done kR ?_ _;go_wp2;refine bodyPost_ret (v:= .tuple #[.agg #[A F n0,A F (a.cel 0),A F (a.cel 1),A F (a.cel 2),A F (a.cel 3),A F (a.cel 4),A F (a.cel 5),A F (a.cel 6),A F (a.cel 7),A F (a.cel 8),A F (a.cel 9),A F (a.cel 10),A F (a.cel 11),A F (a.cel 12),A F (a.cel 13),A F (a.cel 14),A F (a.cel 15),v3,A F (k:Int)],.nilIface]) (z6w _ _ (w.heap.size+1+1) #[A F n0,A F (a.cel 0),A F (a.cel 1),A F (a.cel 2),A F (a.cel 3),A F (a.cel 4),A F (a.cel 5),A F (a.cel 6),A F (a.cel 7),A F (a.cel 8),A F (a.cel 9),A F (a.cel 10),A F (a.cel 11),A F (a.cel 12),A F (a.cel 13),A F (a.cel 14),A F (a.cel 15),v3,A F (k:Int)] _ rfl rfl (setRow_heap w3.drew _ zeroCs _ _ _ HZ3.out) rfl) rfl ⟨v3,rfl,z3n HBW3.out.drew kO _,?_⟩;have hL:L3=a.out:=by rw[<-HA.out];rfl
 have hown:w3.ownsRow (B+1) 2 1 m3.out L3.length (L3.map (Value.int .i64)):=HO3.out;rw[HVV.out,hL]at hown;exact zY5 hown (by have:=HBe.out;omega) (by have:=HBe.out;omega) _
end
section
structure St where
 c:Int
 d:Int
 s:Int
 r:Bool
 o:Int
 n:Int
def St.cells(x:St):Array Value:=#[A F x.c,A F x.d,A F x.s,.bool x.r,A F x.o,A F x.n]
def St.zero:St:=⟨0,0,0,false,0,0⟩
def z27(xs:List St):List Value:=(xs.map fun x=>x.cells.toList).flatten
theorem Tryz.infoStep:(Tryz.prog.info? 121).map (fun i=>(i.zero,i.size,i.bytes))=some (some (.agg St.zero.cells),6,48):=kR
def nth(xs:List St)(j:Nat):St:=xs[j]?.getD St.zero
theorem zUd(x:St)(xs:List St)(j:Nat):nth (x::xs) (j+1)=nth xs j:=by simp[nth]
theorem z4o(x:St):x.cells.toList.length=6:=rfl
theorem zXp(x:St): ∀u∈x.cells.toList,u.oneCell'=true:=by
 intro u hu;simp[St.cells]at hu;rcases hu with rfl|rfl|rfl|rfl|rfl|rfl<;>rfl
theorem cells_at: ∀(xs:List St)(i k:Nat),i<xs.length->k<6->(z27 xs)[i*6+k]?=(nth xs i).cells.toList[k]?
 |[],i,k,h,_=>by simp at h
 |x::xs,0,k,_,hk=>by
  show(z27 (x::xs))[0*6+k]?=_;rw[Nat.zero_mul,Nat.zero_add,show z27 (x::xs)=x.cells.toList++z27 xs by simp[z27],List.getElem?_append_left (by rw[z4o];exact hk)];rfl
 |x::xs,i+1,k,h,hk=>by
  rw[show z27 (x::xs)=x.cells.toList++z27 xs by simp[z27],List.getElem?_append_right (by rw[z4o];omega),z4o,show(i+1)*6+k-6=i*6+k by omega,cells_at xs i k (by simpa using h) hk,zUd]
theorem z66{W:World}{base g n cap:Nat}{xs:List St}(h:W.ownsRow base 121 6 (.slice (some ⟨g,0,none⟩) n cap) n (z27 xs))(hl:xs.length=n){i k:Nat}(hi:i<n)(hk:k<6):W.cell? ⟨g,0+i*6+k,none⟩=(nth xs i).cells.toList[k]?:=by
 rcases h.2 with⟨hc,_⟩|⟨g',cap',cur,hc,_,hg,_,_,_,ht⟩
 ·cases hc
 cases hc;rw[<-cells_at xs i k kO hk, <-ht,List.getElem?_take_of_lt kO];simp[World.cell?,hg]
theorem zAg{W:World}{base g n cap:Nat}{xs:List St}(h:W.ownsRow base 121 6 (.slice (some ⟨g,0,none⟩) n cap) n (z27 xs))(hl:xs.length=n):
  z1g W g 0 n (fun j=>(nth xs j).c) (fun j=>(nth xs j).d) (fun j=>(nth xs j).s) (fun j=>(nth xs j).r) (fun j=>(nth xs j).o) (fun j=>(nth xs j).n):=fun i hi=>
 ⟨z66 h hl hi (k:=0) kO,z66 h hl hi (k:=1) kO,z66 h hl hi (k:=2) kO,z66 h hl hi (k:=3) kO,z66 h hl hi (k:=4) kO,z66 h hl hi (k:=5) kO⟩
def z5c(xs:List St)(j:Nat):Int:=z0l xs.length (fun j=>(nth xs j).c) (fun j=>(nth xs j).d) (fun j=>(nth xs j).s) (fun j=>(nth xs j).r) (fun j=>(nth xs j).o) (fun j=>(nth xs j).n) j
theorem zHc(x:St)(xs:List St):z27 (x::xs)=x.cells.toList++z27 xs:=by simp[z27]
theorem z5g: ∀xs:List St,(z27 xs).length=xs.length*6
 |[]=>rfl
 |x::xs=>by rw[zHc,List.length_append,z5g xs,z4o,List.length_cons];omega
theorem zBk(xs:List St): ∀u∈z27 xs,u.oneCell'=true:=by
 intro u hu;obtain⟨l,hl,hu⟩:=List.mem_flatten.mp hu;obtain⟨x, -,rfl⟩:=List.mem_map.mp hl;exact zXp x u hu
theorem six_at{w:World}{bk o:Nat}{x:St}(h:w.cell? ⟨bk,o,none⟩=some (A F x.c)/\w.cell? ⟨bk,o+1,none⟩=some (A F x.d)/\w.cell? ⟨bk,o+2,none⟩=some (A F x.s)/\w.cell? ⟨bk,o+3,none⟩=some (.bool x.r)/\w.cell? ⟨bk,o+4,none⟩=some (A F x.o)/\w.cell? ⟨bk,o+5,none⟩=some (A F x.n)):
  ∀k,k<6->w.cell? ⟨bk,o+k,none⟩=x.cells.toList[k]?:=by
 intro k hk;obtain⟨h0,h1,h2,h3,h4,h5⟩:=h;rcases(by omega:k=0\/k=1\/k=2\/k=3\/k=4\/k=5)with rfl|rfl|rfl|rfl|rfl|rfl
 ·exact h0
 ·exact h1
 ·exact h2
 ·exact h3
 ·exact h4
 exact h5
theorem zCi{w:World}{bk off len:Nat}{xs:List St}(hl:xs.length=len)(hst:z1g w bk off len (fun j=>(nth xs j).c) (fun j=>(nth xs j).d) (fun j=>(nth xs j).s) (fun j=>(nth xs j).r) (fun j=>(nth xs j).o) (fun j=>(nth xs j).n)):
  ∀j u,(z27 xs)[j]?=some u->w.cell? ((⟨bk,off,none⟩:Addr).add j)=some u:=by
 intro j u hj;have hlt:=(List.getElem?_eq_some_iff.1 hj).1;rw[z5g]at hlt;have hi:j/6<len:=kO;have hk:j%6<6:=Nat.mod_lt _ kD;have e:j/6*6+j%6=j:=kO;have h:=cells_at xs (j/6) (j%6) kO hk;rw[e,hj]at h;rw[Addr.add_mid,h, <-six_at (hst (j/6) hi) (j%6) hk];congr 2;omega
def goL(xs:List St):(Int×Nat)⊕List Kno:=goF (fun j=>(nth xs j).c) (fun j=>(nth xs j).d) (fun j=>(nth xs j).s) (fun j=>(nth xs j).r) (fun j=>(nth xs j).o) (fun j=>(nth xs j).n) 4000 [(0,way0)] []
theorem zMv{C D S:Nat->Int}{R:Nat->Bool}{O N:Nat->Int}{len:Nat}(hr: ∀i,i<len->z9f (C i) (D i) (S i) (R i) (O i) (N i) len i)(hf: ∀i,i<len->In64 (N i)):
  ∀(m pc k:Nat)(a:Abs),len<=pc+m->a.Ok-> ∀n k' a',runF C D S R O N len pc k a= .fine n k' a'->a'.Ok:=by
 intro m;induction m with
 |zero=>
  intro pc k a hm ha n k' a' h;rw[z8l,if_neg kO]at h;exact absurd h (by simp[End.bad,End.fine])
 |succ m ih=>
  intro pc k a hm ha n k' a' h
  by_cases hp:pc<len
  ·by_cases hc:C pc=28
   ·by_cases hw:z23 (a.reg 0)=0
    ·rw[z7j hp hc hw]at h
     have e:a=a':=by
      simp only[End.fine,Sum.inr.injEq,Prod.mk.injEq]at h;exact h.2.2
     rw[<-e];exact ha
    ·rw[z55 hp hc hw]at h
     exact absurd h (by simp[End.bad,End.fine])
   ·by_cases hw:(doF (C pc) (D pc) (S pc) (R pc) (O pc) (N pc) a).2.1=0
    ·rw[zDu hp hc hw]at h
     have r:=hr pc hp;exact ih _ _ _ kO (zLj ha r.c1 r.c2 hc r.d1 r.d2 r.s1 r.s2 (hf pc hp) (r:=R pc) (o:=O pc)) _ _ _ h
    ·rw[zDv hp hc hw]at h
     exact absurd h (by simp[End.bad,End.fine])
  ·rw[z8l,if_neg hp]at h
   exact absurd h (by simp[End.bad,End.fine])
theorem zUf(j:Nat):Value.int .i64 ((j:Int)+1)=A F ((j+1:Nat):Int):=rfl
theorem zYe(w:World)(old cs:Array Value)(t:TypeId):Below w.heap.size w ((w.alloc (cT old t)).setRow w.heap.size cs)/\((w.alloc (cT old t)).setRow w.heap.size cs).heap[w.heap.size]?=some (cT cs t (0,0)):=
 ⟨z14 ((bF _ _).alloc (Nat.le_refl _) _) (Nat.le_refl _) _,setRow_heap _ _ old cs t (0,0) (heap_alloc_new _ _)⟩
theorem z8m{w w':World}{base n z:Nat}{e:TypeId}{v:Value}{xs:List Value}(h:w.ownsRow base e z v n xs)(hb:Below w.heap.size w w'):w'.ownsRow base e z v n xs:=
 World.ownsRow.kept h (z09 hb w.heap.size) (Or.inr fun e=>by have:=(World.ownsRow.lt h _ e).2;omega)
structure Pg where
 id:Int
 rank:Int
 sl:Value
 xs:List St
 tab:Nat->Int
def pg0:Pg:=⟨0,0,.slice none 0 0,[],fun _=>0⟩
structure Gt where
 ps:List Pg
 last:Int
 evs:List (Nat->Int)
 may:Int
 left:Int
structure Dsk where
 g:Nat->Gt
 ran:Int
def z93(p:Pg)(j:Nat):Value:=if j=0 then A F p.id else if j=1 then A F p.rank else if j=2 then p.sl else A F (p.tab (j-3))
def z25(ps:List Pg)(last:Int)(i:Nat):Value:=if i<152 then z93 (ps.getD (i/19) pg0) (i%19)else if i=152 then A F (ps.length:Int)else A F last
def z51(evs:List (Nat->Int))(i:Nat):Value:=A F (evs.getD (i/8) (fun _=>0) (i%8))
def z17(g:Gt)(i:Nat):Value:=if i<154 then z25 g.ps g.last i else if i<314 then z51 g.evs (i-154)else if i=314 then A F (g.evs.length:Int)else if i=315 then A F g.may else A F g.left
def Dsk.cell(d:Dsk)(i:Nat):Value:=if i<951 then z17 (d.g (i/317)) (i%317)else A F d.ran
def FnAt(w:World)(B:Nat)(f:Nat->Value):Prop:=w.heap[B]?=some (cT (Array.ofFn (n:=952) fun i=>f i.1) 72 (0,0))
abbrev z0d(w:World)(B:Nat)(d:Dsk):Prop:=FnAt w B d.cell
def Dsk.put(d:Dsk)(k:Nat)(x:Gt):Dsk:={d with g:=fun i=>if i=k then x else d.g i}
theorem z1w(d:Dsk){k j:Nat}(hk:k<3)(hj:j<317):d.cell (k*317+j)=z17 (d.g k) j:=by
 unfold Dsk.cell;rw[if_pos kO,show(k*317+j)/317=k by omega,show(k*317+j)%317=j by omega]
theorem zVu(d:Dsk):d.cell 951=A F d.ran:=if_neg kO
theorem z4p(d:Dsk){k:Nat}(x:Gt)(hk:k<3)(j:Nat):(d.put k x).cell j=if k*317<=j/\j<k*317+317 then z17 x (j-k*317)else d.cell j:=by
 unfold Dsk.cell Dsk.put;dsimp only
 by_cases h:j<951
 ·rw[if_pos h,if_pos h]
  by_cases e:j/317=k
  ·rw[if_pos e,if_pos kO,show j%317=j-k*317 by omega]
  ·rw[if_neg e,if_neg kO]
 rw[if_neg h,if_neg h,if_neg kO]
section
variable {w w':World} {B:Nat} {f f':Nat->Value} {d:Dsk}
theorem FnAt.lt(h:FnAt w B f):B<w.heap.size:=(Array.getElem?_eq_some_iff.1 h).1
theorem FnAt.at(h:FnAt w B f)(i:Nat)(hi:i<952):w.cell? ⟨B,i,none⟩=some (f i):=by
 rw[cell_of_row w B i _ _ _ h];simp[hi]
theorem FnAt.frozen(h:FnAt w B f)(i:Nat):w.frozen? ⟨B,i,none⟩=false:=by
 have h':w.heap[B]?=some (cT (Array.ofFn (n:=952) fun i=>f i.1) 72 (0,0)):=h;simp[World.frozen?,h']
theorem FnAt.later(h:FnAt w B f)(hb:Below w.heap.size w w'):FnAt w' B f:=(hb.block B h.lt).trans h
theorem FnAt.block(h:FnAt w B f)(hb:w'.heap[B]?=w.heap[B]?):FnAt w' B f:=hb.trans h
theorem FnAt.gate(h:z0d w B d){k j:Nat}(hk:k<3)(hj:j<317):w.cell? ⟨B,k*317+j,none⟩=some (z17 (d.g k) j):=by
 rw[FnAt.at h _ kO,z1w d hk hj]
theorem FnAt.there(h:FnAt w B f){o n:Nat}(hn:o+n<=952):w.there B o n:=fun j hj=>⟨by rw[h.at _ kO];rfl,h.frozen _⟩
theorem FnAt.ext(h:FnAt w B f)(he: ∀j,j<952->f' j=f j):FnAt w B f':=by
 suffices e:(Array.ofFn (n:=952) fun i=>f' i.1)=(Array.ofFn (n:=952) fun i=>f i.1)by
  unfold FnAt;rw[e];exact h
 apply Array.ext
 ·simp
 intro j h1 h2;simp only[Array.size_ofFn]at h1;simp only[Array.getElem_ofFn];exact he j h1
theorem FnAt.set(h:FnAt w B f)(i:Nat)(v:Value):FnAt (w.setCell ⟨B,i,none⟩ v) B fun j=>if j=i then v else f j:=by
 suffices e:(Array.ofFn (n:=952) fun i=>f i.1).setIfInBounds i v=(Array.ofFn (n:=952) fun j=>if j.1=i then v else f j.1)by
  unfold FnAt;rw[<-e];exact heap_setCell_same w B i _ _ v h
 apply Array.ext
 ·simp
 intro j h1 h2;simp only[Array.size_ofFn]at h2;rw[Array.getElem_setIfInBounds (by simpa using h2)];simp only[Array.getElem_ofFn]
 by_cases hj:i=j
 ·rw[if_pos hj,if_pos hj.symm]
 rw[if_neg hj,if_neg (fun e=>hj e.symm)]
theorem FnAt.setCells(h:FnAt w B f): ∀(vs:List Value)(o:Nat),FnAt (w.setCells B o vs) B fun j=>if o<=j/\j<o+vs.length then vs.getD (j-o) undef else f j:=by
 intro vs;induction vs generalizing w f with
 |nil=>intro o;exact FnAt.ext h fun j _=>by rw[if_neg (by rw[List.length_nil];omega)]
 |cons v r ih=>
  intro o;rw[World.setCells];refine FnAt.ext (ih (h.set o v) (o+1)) fun j hj=>?_;rw[List.length_cons]
  by_cases c:j=o
  ·subst c
   rw[if_pos ⟨Nat.le_refl _,by omega⟩,if_neg kO,if_pos rfl,Nat.sub_self];rfl
  ·by_cases c2:o+1<=j/\j<o+1+r.length
   ·rw[if_pos c2,if_pos ⟨by omega,by omega⟩,show j-o=(j-(o+1))+1 by omega];rfl
   ·rw[if_neg c2,if_neg kO,if_neg c]
end
theorem z0y{w:World}{B k:Nat}(h:k≠B): ∀(vs:List Value)(o:Nat),(w.setCells B o vs).heap[k]?=w.heap[k]?:=by
 intro vs;induction vs generalizing w with
 |nil=>intro o;rfl
 |cons v r ih=>intro o;rw[World.setCells,ih];exact heap_setCell_other _ _ _ _ h
theorem z2w(B:Nat): ∀(vs:List Value)(o:Nat)(w:World),(w.setCells B o vs).heap.size=w.heap.size/\(w.setCells B o vs).os=w.os/\(w.setCells B o vs).tape=w.tape/\(w.setCells B o vs).output=w.output:=by
 intro vs;induction vs with
 |nil=>intro o w;exact⟨rfl,rfl,rfl,rfl⟩
 |cons v r ih=>intro o w;rw[World.setCells];obtain⟨h1,h2,h3,h4⟩:=ih (o+1) (w.setCell ⟨B,o,none⟩ v);exact⟨h1.trans kS,h2,h3,h4⟩
theorem z1y{w w1:World}{B:Nat}(h:Kept B w w1)(o:Nat)(vs:List Value):Kept B w (w1.setCells B o vs):=by
 obtain⟨h1,h2,h3,h4⟩:=z2w B vs o w1;exact⟨h2.trans h.os,h3.trans h.tape,h4.trans h.output,by rw[h1];exact h.size,fun k hk hne=>(z0y (fun e=>hne (by rw[e])) vs o).trans (h.block k hk hne)⟩
theorem zWn{W:World}{base g n cap size:Nat}{e:TypeId}{xs:List Value}(h:W.ownsRow base e size (.slice (some ⟨g,0,none⟩) n cap) n xs):g<W.heap.size:=(World.ownsRow.lt h g rfl).2
theorem zLb{α:Type}{l:List α}{i:Nat}(z:α)(h:i<l.length):l.getD i z∈l:=by
 rw[List.getD_eq_getElem?_getD,List.getElem?_eq_getElem h];exact List.getElem_mem h
end
end Go.Proofs.YtabjjgkmegcacaaGreatDoor
