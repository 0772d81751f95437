/-
A part of the proof of DeskPieces; its card says what is proved.
-/
import Derived.Test.YtkdflpplamebkaaGreatDoorJp3
import Derived.RangeFuncBox
import Derived.RangeFuncCalls
import Derived.OwnWalkIn
import Derived.TacticsInMore
import Derived.LoopNIn
import Derived.LoopIn
import Derived.Lib.QuoteLoop
set_option maxHeartbeats 40000000
open Go.Value renaming int → E
open Go.IntKind renaming i64 → F
open Go.RowKit.Below renaming alloc → bA, setCell → bS, drew → bD, refl → bF
set_option maxRecDepth 1000000
set_option linter.defProp false
set_option linter.unusedVariables false
set_option linter.unusedSimpArgs false
open Go.Ending renaming returned → rT
open Go.Value renaming pointer → pT
open Go.Obj renaming cells → cT
open Go.Proofs.Tryz renaming prog → tP
open List renaming length_cons → lQ
namespace Go.Proofs.YtkdflpplamebkaaGreatDoor
section
open Go.ChangeShapes Go.WideShapes Go.ChangeAt Go.RowKit
variable {ex:Ext}
def zBx(b:ByteArray):ByteArray:=⟨(Lib.trimPrefix b.data.toList [91]).toArray⟩
def z8u(b:ByteArray):ByteArray:=⟨(Lib.trimSuffix (zBx b).data.toList [93]).toArray⟩
def zQa(b:ByteArray):Bool:=Lib.hasPrefix b.data.toList [91]
def zM8(b:ByteArray):Bool:=Lib.hasSuffix (zBx b).data.toList [93]
def zD5(b:ByteArray):Int:=Lib.indexAny (z8u b).data.toList [43,45]
def behind(b:ByteArray)(k:Nat):ByteArray:=⟨(Lib.trimPrefix ((z8u b).extract k (z8u b).size).data.toList [43]).toArray⟩
def placeOf(b:ByteArray):Option (Nat×Int):=
 if zQa b=true/\zM8 b=true/\0<=zD5 b then
  match z7h ((z8u b).extract 0 (zD5 b).toNat),z2y (behind b (zD5 b).toNat)with
  |some r,some n=>some (r,n)
  |_,_=>none
 else none
theorem z9h(l p:List UInt8):(Lib.trimPrefix l p).length<=l.length:=by
 unfold Lib.trimPrefix;split
 ·simp
 exact Nat.le_refl _
theorem zHu(l p:List UInt8):(Lib.trimSuffix l p).length<=l.length:=by
 unfold Lib.trimSuffix;split
 ·simp
 exact Nat.le_refl _
theorem zN6(l:List UInt8):(ByteArray.mk l.toArray).size=l.length:=by
 show l.toArray.size=_;rw[List.size_toArray]
theorem z6j(b:ByteArray):b.data.toList.length=b.size:=by simp
theorem zDz(b:ByteArray):(zBx b).size<=b.size:=by
 unfold zBx;rw[zN6, <-z6j b];exact z9h _ _
theorem zB6(b:ByteArray):(z8u b).size<=b.size:=by
 refine Nat.le_trans ?_ (zDz b);unfold z8u;rw[zN6, <-z6j (zBx b)];exact zHu _ _
theorem zPg(b:ByteArray)(k:Nat):(behind b k).size<=b.size:=by
 refine Nat.le_trans ?_ (zB6 b);unfold behind;rw[zN6];refine Nat.le_trans (z9h _ _) ?_;rw[z6j,ByteArray.size_extract];omega
theorem z4w(b:ByteArray)(w:World):zS 202 #[.string b,.string ⟨#[91]⟩] w (.tuple #[.string (zBx b),.bool (zQa b)]):=Tryz.strings_CutPrefix b ⟨#[91]⟩ w
theorem z45(b:ByteArray)(w:World)(hb:b.size<=100000):zS 203 #[.string (zBx b),.string ⟨#[93]⟩] w (.tuple #[.string (z8u b),.bool (zM8 b)]):=
 Tryz.strings_CutSuffix (zBx b) ⟨#[93]⟩ w (by have:=zDz b;omega)
theorem z5h(b:ByteArray)(w:World)(hb:b.size<=100000)(hT:Tabs ex w):
  zR 204 #[.string (z8u b),.string ⟨#[43,45]⟩] w (E F (zD5 b)):=
 zLa (z8u b) w (by have:=zB6 b;omega) hT
theorem z7o(b:ByteArray)(k:Nat)(w:World):zS 205 #[.string ((z8u b).extract k (z8u b).size),.string ⟨#[43]⟩] w (.string (behind b k)):=Tryz.strings_TrimPrefix _ ⟨#[43]⟩ w
theorem zE1: ∀(l c:List UInt8),Lib.indexAny l c<l.length/\ -1<=Lib.indexAny l c
 |[],c=>by simp[Lib.indexAny]
 |b::l,c=>by
  have ih:=zE1 l c;unfold Lib.indexAny;rw[lQ];split
  ·exact⟨by omega,by omega⟩
  ·split
   ·exact⟨by omega,by omega⟩
   ·rename_i h
    simp at h;exact⟨by omega,by omega⟩
def z6l(b:ByteArray):Value:=match placeOf b with
 |some (r,n)=> .tuple #[E F (r:Int),E F n,.bool true]
 |none=> .tuple #[E F 0,E F 0,.bool false]
theorem z5r{b:ByteArray}(h:placeOf b=none):z6l b= .tuple #[E F 0,E F 0,.bool false]:=by unfold z6l;rw[h]
theorem zNs{b:ByteArray}{r:Nat}{n:Int}(h:placeOf b=some (r,n)):z6l b= .tuple #[E F (r:Int),E F n,.bool true]:=by unfold z6l;rw[h]
theorem zWk(he: ∀w,ex.holds w->z17 w)(b:ByteArray)(w:World)(hb:b.size<=100000)(hT:Tabs ex w):
  zR 172 #[.string b] w (z6l b):=by
 have hF:=Fine.start hT;have his:=zB6 b
 by_cases p1:zQa b=true
 ·by_cases p2:zM8 b=true
  ·by_cases p3:0<=zD5 b
   ·have hlt:=(zE1 (z8u b).data.toList [43,45]).1
    rw[z6j]at hlt;obtain⟨k,hk⟩:=Int.eq_ofNat_of_zero_le p3
    have hkl:k<(z8u b).size:=by
     have:(zD5 b)<(z8u b).size:=hlt;omega
    have HP:Hid (placeOf b=match z7h ((z8u b).extract 0 k),z2y (behind b k)with
      |some r,some n=>some (r,n)
      |_,_=>none):=by
     show placeOf b=_;unfold placeOf;rw[if_pos ⟨p1,p2,p3⟩,hk];rfl
    have hbs:=zPg b k;clear hlt p3
    cases hr:z7h ((z8u b).extract 0 k)with
    |none=>
     have HN:Hid (z6l b= .tuple #[E F 0,E F 0,.bool false]):=z5r (by rw[HP.out,hr]);go_enter Tryz.func172,Tryz.ntmps172
     go_wp2_with(first
      |(go_at_call 202;refine(z4w _ _).mono ?_;rintro e w0 ⟨rfl,rfl⟩)
      |(go_at_call 203;refine(z45 b _ hb).mono ?_;rintro e w0 ⟨rfl,rfl⟩)
      |(go_at_call 204;refine(z5h b _ hb hT).mono ?_;rintro e w1 ⟨rfl,hb1⟩)
      |(go_at_call 169;refine(z43 _ _ (hF.call hb1).tabs).mono ?_;rintro e w2 ⟨rfl,hb2⟩)
      |(go_at_call 205;refine(z7o b k _).mono ?_;rintro e w0 ⟨rfl,rfl⟩)
      |(go_at_call 171;refine(z8g he _ _ kO ((hF.call hb1).call hb2).tabs).mono ?_;rintro e w3 ⟨rfl,hb3⟩))
     go_ret3
     exact⟨by rw[HN.out];rfl,((hF.call hb1).call hb2|>.call hb3).bel⟩
    |some r=>
     cases hn:z2y (behind b k)with
     |none=>
      have HN:Hid (z6l b= .tuple #[E F 0,E F 0,.bool false]):=z5r (by rw[HP.out,hr,hn]);go_enter Tryz.func172,Tryz.ntmps172
      go_wp2_with(first
       |(go_at_call 202;refine(z4w _ _).mono ?_;rintro e w0 ⟨rfl,rfl⟩)
       |(go_at_call 203;refine(z45 b _ hb).mono ?_;rintro e w0 ⟨rfl,rfl⟩)
       |(go_at_call 204;refine(z5h b _ hb hT).mono ?_;rintro e w1 ⟨rfl,hb1⟩)
       |(go_at_call 169;refine(z43 _ _ (hF.call hb1).tabs).mono ?_;rintro e w2 ⟨rfl,hb2⟩)
       |(go_at_call 205;refine(z7o b k _).mono ?_;rintro e w0 ⟨rfl,rfl⟩)
       |(go_at_call 171;refine(z8g he _ _ kO ((hF.call hb1).call hb2).tabs).mono ?_;rintro e w3 ⟨rfl,hb3⟩))
      go_ret3
      exact⟨by rw[HN.out];rfl,((hF.call hb1).call hb2|>.call hb3).bel⟩
     |some n=>
      have HN:Hid (z6l b= .tuple #[E F (r:Int),E F n,.bool true]):=zNs (by rw[HP.out,hr,hn]);go_enter Tryz.func172,Tryz.ntmps172
      go_wp2_with(first
       |(go_at_call 202;refine(z4w _ _).mono ?_;rintro e w0 ⟨rfl,rfl⟩)
       |(go_at_call 203;refine(z45 b _ hb).mono ?_;rintro e w0 ⟨rfl,rfl⟩)
       |(go_at_call 204;refine(z5h b _ hb hT).mono ?_;rintro e w1 ⟨rfl,hb1⟩)
       |(go_at_call 169;refine(z43 _ _ (hF.call hb1).tabs).mono ?_;rintro e w2 ⟨rfl,hb2⟩)
       |(go_at_call 205;refine(z7o b k _).mono ?_;rintro e w0 ⟨rfl,rfl⟩)
       |(go_at_call 171;refine(z8g he _ _ kO ((hF.call hb1).call hb2).tabs).mono ?_;rintro e w3 ⟨rfl,hb3⟩))
      go_ret3
      exact⟨by rw[HN.out];rfl,((hF.call hb1).call hb2|>.call hb3).bel⟩
   ·have HN:Hid (z6l b= .tuple #[E F 0,E F 0,.bool false]):=z5r (by unfold placeOf;rw[if_neg (fun h=>p3 h.2.2)])
    have x3:decide (zD5 b<0)=true:=kZ;go_enter Tryz.func172,Tryz.ntmps172
    go_wp2_with(first
     |(go_at_call 202;refine(z4w _ _).mono ?_;rintro e w0 ⟨rfl,rfl⟩)
     |(go_at_call 203;refine(z45 b _ hb).mono ?_;rintro e w0 ⟨rfl,rfl⟩)
     |(go_at_call 204;refine(z5h b _ hb hT).mono ?_;rintro e w1 ⟨rfl,hb1⟩))
    go_ret3
    exact⟨by rw[HN.out];rfl,(hF.call hb1).bel⟩
  ·have HN:Hid (z6l b= .tuple #[E F 0,E F 0,.bool false]):=z5r (by unfold placeOf;rw[if_neg (fun h=>p2 h.2.1)])
   have p2':zM8 b=false:=by simpa using p2
   clear p2;go_enter Tryz.func172,Tryz.ntmps172
   go_wp2_with(first
    |(go_at_call 202;refine(z4w _ _).mono ?_;rintro e w0 ⟨rfl,rfl⟩)
    |(go_at_call 203;refine(z45 b _ hb).mono ?_;rintro e w0 ⟨rfl,rfl⟩)
    |(go_at_call 204;refine(z5h b _ hb hT).mono ?_;rintro e w1 ⟨rfl,hb1⟩))
   go_ret3
   exact⟨by rw[HN.out];rfl,(hF.call hb1).bel⟩
 have HN:Hid (z6l b= .tuple #[E F 0,E F 0,.bool false]):=z5r (by unfold placeOf;rw[if_neg (fun h=>p1 h.1)]);have p1':zQa b=false:=by simpa using p1
 clear p1;go_enter Tryz.func172,Tryz.ntmps172
 go_wp2_with(first
  |(go_at_call 202;refine(z4w _ _).mono ?_;rintro e w0 ⟨rfl,rfl⟩)
  |(go_at_call 203;refine(z45 b _ hb).mono ?_;rintro e w0 ⟨rfl,rfl⟩)
  |(go_at_call 204;refine(z5h b _ hb hT).mono ?_;rintro e w1 ⟨rfl,hb1⟩))
 go_ret3
 exact⟨by rw[HN.out];rfl,(hF.call hb1).bel⟩
end
section
open Go.ChangeShapes Go.WideShapes Go.ChangeAt Go.RowKit
variable {ex:Ext}
structure St where
 c:Int
 d:Int
 s:Int
 r:Bool
 o:Int
 n:Int
def St.cells(x:St):Array Value:=#[E F x.c,E F x.d,E F x.s,.bool x.r,E F x.o,E F x.n]
def z3e(w:World)(b:Nat)(x:St):Prop:=w.heap[b]?=some (cT x.cells 135 (0,0))
theorem z3e.lt{w:World}{b:Nat}{x:St}(h:z3e w b x):b<w.heap.size:=(Array.getElem?_eq_some_iff.1 h).1
theorem z3e.cell{w:World}{b:Nat}{x:St}(h:z3e w b x)(i:Nat):w.cell? ⟨b,i,none⟩=x.cells[i]?:=by
 have h':w.heap[b]?=some (cT x.cells 135 (0,0)):=h;simp[World.cell?,h']
theorem z3e.frozen{w:World}{b:Nat}{x:St}(h:z3e w b x)(i:Nat):w.frozen? ⟨b,i,none⟩=false:=by
 have h':w.heap[b]?=some (cT x.cells 135 (0,0)):=h;simp[World.frozen?,h']
theorem z3e.later{w w1:World}{b:Nat}{x:St}(h:z3e w b x)(hb:Below w.heap.size w w1):z3e w1 b x:=(hb.block b h.lt).trans h
theorem z3e.set{w:World}{b:Nat}{x y:St}(h:z3e w b x)(i:Nat)(v:Value)(hy:x.cells.setIfInBounds i v=y.cells):z3e (w.setCell ⟨b,i,none⟩ v) b y:=by
 have h':w.heap[b]?=some (cT x.cells 135 (0,0)):=h;unfold z3e;rw[<-hy];simp[World.setCell,Array.getElem?_modify,h']
theorem z2g{w w1:World}(hb:Below w.heap.size w w1)(row:Option Nat):w.grownBy w1 row:=⟨hb.os,hb.tape,hb.output,hb.size,fun k hk _=>hb.block k hk⟩
theorem z2o{w w1:World}{b:Nat}(h:w.grownBy w1 (some b))(i:Nat)(v:Value):w.grownBy (w1.setCell ⟨b,i,none⟩ v) (some b):=
 ⟨h.os,h.tape,h.output,by show w.heap.size<=(w1.heap.modify b _).size;rw[Array.size_modify];exact h.size,fun k hk hne=>(Below.heap_setCell w1 ⟨b,i,none⟩ v k (fun e=>hne (by rw[e]))).trans (h.block k hk hne)⟩
def St.put(x:St)(p:Nat)(b:ByteArray):Bool×St:=
 if p=100 then((z7h b).isSome,{x with d:=((z7h b).getD 0:Nat)})
 else if p=115 then(if(z7h b).isSome then(true,{x with s:=((z7h b).getD 0:Nat),r:=true})else((z2y b).isSome,{x with s:=0,r:=false,n:=(z2y b).getD 0}))
 else if p=111 then((z2y b).isSome,{x with o:=(z2y b).getD 0})
 else if p=102 then((placeOf b).isSome,{x with s:=(((placeOf b).getD (0,0)).1:Nat),o:=((placeOf b).getD (0,0)).2})
 else if p=116 then((placeOf b).isSome,{x with d:=(((placeOf b).getD (0,0)).1:Nat),o:=((placeOf b).getD (0,0)).2})
 else(true,{x with n:=(callOf b:Nat)})
theorem zWl(b:ByteArray):z6l b= .tuple #[E F (((placeOf b).getD (0,0)).1:Nat),E F ((placeOf b).getD (0,0)).2,.bool (placeOf b).isSome]:=by
 unfold z6l
 cases placeOf b with
 |none=>rfl
 |some x=>rfl
theorem zGa(he: ∀w,ex.holds w->z17 w)(b:ByteArray)(w:World)(hb:b.size<=100000)(hT:Tabs ex w):
  zR 172 #[.string b] w (.tuple #[E F (((placeOf b).getD (0,0)).1:Nat),E F ((placeOf b).getD (0,0)).2,.bool (placeOf b).isSome]):=by
 rw[<-zWl];exact zWk he b w hb hT
theorem zOo{w w1 w2:World}{row:Option Nat}(h:w.grownBy w1 row)(k:w1.grownBy w2 row):w.grownBy w2 row:=
 ⟨k.os.trans h.os,k.tape.trans h.tape,k.output.trans h.output,Nat.le_trans h.size k.size,fun i hi hne=>(k.block i (Nat.lt_of_lt_of_le hi h.size) hne).trans (h.block i hi hne)⟩
theorem Tabs.on_grown{w w1:World}{k:Nat}(h:Tabs ex w)(hg:w.grownBy w1 (some k))(hk:11<=k):Tabs ex w1:=
 h.on (B:=11) ⟨hg.os,hg.tape,hg.output,hg.size,fun i hi=>hg.block i (Nat.lt_of_lt_of_le hi h.room) (fun e=>by have:=Option.some.inj e;omega)⟩ (Nat.le_refl _)
section
variable {w:World} {k:Nat} {x:St}
theorem zWh(he: ∀w,ex.holds w->z17 w)(b:ByteArray)(hb:b.size<=100000)(hkb:11<=k)(p:Nat)(hp:p=100\/p=115\/p=111\/p=102\/p=116\/p=99)(hs:z3e w k x)(hT:Tabs ex w):
  Calls tP 133 #[pT (some ⟨k,0,none⟩),.int .i32 p,.string b] w fun e w'=>e= rT (.bool (x.put p b).1)/\w.grownBy w' (some k)/\z3e w' k (x.put p b).2:=by
 unfold St.put;rcases hp with rfl|rfl|rfl|rfl|rfl|rfl
 ·rw[if_pos rfl]
  go_enter Tryz.func133,Tryz.ntmps133;go_wp2_with(go_at_call 169;refine(z43 _ _ hT).mono ?_;rintro e w1 ⟨rfl,hb1⟩;have hs1:=hs.later hb1;have c0:=hs1.cell 1;have f0:=hs1.frozen 1;simp only[St.cells]at c0);go_ret;exact⟨rfl,z2o (z2g hb1 _) _ _,hs1.set _ _ rfl⟩
 ·rw[if_neg kD,if_pos rfl]
  cases hr:z7h b with
  |some r=>
   go_enter Tryz.func133,Tryz.ntmps133;go_wp2_with(go_at_call 169;refine(z43 _ _ hT).mono ?_;rintro e w1 ⟨rfl,hb1⟩;have hs1:=hs.later hb1;have c2:=hs1.cell 2;have f2:=hs1.frozen 2;have c3:=hs1.cell 3;have f3:=hs1.frozen 3;simp only[St.cells]at c2 c3);go_ret;exact⟨rfl,z2o (z2o (z2g hb1 _) _ _) _ _,(hs1.set (y:={x with s:=(r:Int)}) 2 _ rfl).set 3 _ rfl⟩
  |none=>
   go_enter Tryz.func133,Tryz.ntmps133
   go_wp2_with(first
    |(go_at_call 169;refine(z43 _ _ hT).mono ?_;rintro e w1 ⟨rfl,hb1⟩;have hs1:=hs.later hb1;have c2:=hs1.cell 2;have f2:=hs1.frozen 2;have c3:=hs1.cell 3;have f3:=hs1.frozen 3;simp only[St.cells]at c2 c3;have hs1':=(hs1.set (y:={x with s:=0}) 2 (E F 0) rfl).set (y:={x with s:=0,r:=false}) 3 (.bool false) rfl;have hg1:=z2o (z2o (z2g hb1 (some k)) 2 (E F 0)) 3 (.bool false);have hT1:Tabs ex _:=hT.on_grown hg1 hkb)
    |(go_at_call 170;refine(zGf he _ _ hb hT1).mono ?_;rintro e w2 ⟨rfl,hb2⟩;have hs2:=hs1'.later hb2;have c5:=hs2.cell 5;have f5:=hs2.frozen 5;simp only[St.cells]at c5;have hg2:=zOo hg1 (z2g hb2 (some k))))
   go_ret;exact⟨rfl,z2o hg2 _ _,hs2.set 5 _ rfl⟩
 ·rw[if_neg kD,if_neg kD,if_pos rfl]
  go_enter Tryz.func133,Tryz.ntmps133;go_wp2_with(go_at_call 171;refine(z8g he _ _ hb hT).mono ?_;rintro e w1 ⟨rfl,hb1⟩;have hs1:=hs.later hb1;have c4:=hs1.cell 4;have f4:=hs1.frozen 4;simp only[St.cells]at c4);go_ret;exact⟨rfl,z2o (z2g hb1 _) _ _,hs1.set 4 _ rfl⟩
 ·rw[if_neg kD,if_neg kD,if_neg kD,if_pos rfl]
  go_enter Tryz.func133,Tryz.ntmps133;go_wp2_with(go_at_call 172;refine(zGa he _ _ hb hT).mono ?_;rintro e w1 ⟨rfl,hb1⟩;have hs1:=hs.later hb1;have c2:=hs1.cell 2;have f2:=hs1.frozen 2;have c4:=hs1.cell 4;have f4:=hs1.frozen 4;simp only[St.cells]at c2 c4);go_ret;exact⟨rfl,z2o (z2o (z2g hb1 _) _ _) _ _,(hs1.set (y:={x with s:=(((placeOf b).getD (0,0)).1:Nat)}) 2 _ rfl).set 4 _ rfl⟩
 ·rw[if_neg kD,if_neg kD,if_neg kD,if_neg kD,if_pos rfl]
  go_enter Tryz.func133,Tryz.ntmps133;go_wp2_with(go_at_call 172;refine(zGa he _ _ hb hT).mono ?_;rintro e w1 ⟨rfl,hb1⟩;have hs1:=hs.later hb1;have c1:=hs1.cell 1;have f1:=hs1.frozen 1;have c4:=hs1.cell 4;have f4:=hs1.frozen 4;simp only[St.cells]at c1 c4);go_ret;exact⟨rfl,z2o (z2o (z2g hb1 _) _ _) _ _,(hs1.set (y:={x with d:=(((placeOf b).getD (0,0)).1:Nat)}) 1 _ rfl).set 4 _ rfl⟩
 rw[if_neg kD,if_neg kD,if_neg kD,if_neg kD,if_neg kD];have c5:=hs.cell 5;have f5:=hs.frozen 5;simp only[St.cells]at c5;go_enter Tryz.func133,Tryz.ntmps133;go_wp2_with(go_at_call 173;refine(zUe _ _ hT).mono ?_;rintro e w1 ⟨rfl,rfl⟩);go_ret;exact⟨rfl,z2o (z2g (bF _ _) _) _ _,hs.set 5 _ rfl⟩
end
end
section
open Go.ChangeShapes Go.WideShapes Go.ChangeAt Go.RowKit Go.Shelf
variable {ex:Ext}
attribute [local go_sem] Oper.semAt_some
def zBw(s:ByteArray):Option Nat->List ByteArray
 |some a=>[s.extract a s.size]
 |none=>[]
def z0w(s:ByteArray):Nat->Option Nat->Nat->List ByteArray
 |0,st,_=>zBw s st
 |f+1,st,i=>
  if i<s.size then
   if(Lib.decodeGo (s.extract i s.size)).1=32 then
    match st with
    |some a=>s.extract a i::z0w s f none (i+(Lib.decodeGo (s.extract i s.size)).2)
    |none=>z0w s f none (i+(Lib.decodeGo (s.extract i s.size)).2)
   else z0w s f (some (st.getD i)) (i+(Lib.decodeGo (s.extract i s.size)).2)
  else zBw s st
def z0z(s:ByteArray):List ByteArray:=z0w s s.size none 0
theorem zP7(s:ByteArray)(i:Nat)(h:i<s.size):1<=(Lib.decodeGo (s.extract i s.size)).2:=by
 have hz:(s.extract i s.size).size=s.size-i:=by rw[ByteArray.size_extract];omega
 unfold Lib.decodeGo;rw[if_neg kO]
 by_cases ha:((s.extract i s.size)[0]'kO).toNat<128
 ·rw[decode_ascii _ 0 kO ha];exact Nat.le_refl _
 exact(decode_high _ 0 kO kO).2
abbrev z2u:={b:ByteArray//b.size<=100000}
theorem zJ8(s:ByteArray)(i:Nat)(h:i<s.size):i+(Lib.decodeGo (s.extract i s.size)).2<=s.size:=by
 have hz:(s.extract i s.size).size=s.size-i:=by rw[ByteArray.size_extract];omega
 unfold Lib.decodeGo;rw[if_neg kO];have:=Lib.width_le (s.extract i s.size) kO;omega
theorem zP8(s:ByteArray)(i:Nat):(Lib.decodeGo (s.extract i s.size)).1<=2147483647:=by
 unfold Lib.decodeGo;split
 ·decide
 exact decode_le _ 0
def zD1:Option Nat->Int
 |some a=>a
 |none=> -1
theorem zBy{s:ByteArray}{f i:Nat}(h:i<s.size)(hr:(Lib.decodeGo (s.extract i s.size)).1=32)(a:Nat):z0w s (f+1) (some a) i=s.extract a i::z0w s f none (i+(Lib.decodeGo (s.extract i s.size)).2):=by
 rw[z0w,if_pos h,if_pos hr]
theorem z6r{s:ByteArray}{f i:Nat}(h:i<s.size)(hr:(Lib.decodeGo (s.extract i s.size)).1=32):z0w s (f+1) none i=z0w s f none (i+(Lib.decodeGo (s.extract i s.size)).2):=by
 rw[z0w,if_pos h,if_pos hr]
theorem zEl{s:ByteArray}{f i:Nat}(h:i<s.size)(hr:(Lib.decodeGo (s.extract i s.size)).1≠32)(st:Option Nat):z0w s (f+1) st i=z0w s f (some (st.getD i)) (i+(Lib.decodeGo (s.extract i s.size)).2):=by
 cases st<;>rw[z0w,if_pos h,if_neg hr]
theorem zH7{s:ByteArray}{f i:Nat}(h: ¬i<s.size)(st:Option Nat):z0w s f st i=zBw s st:=by
 cases f with
 |zero=>rfl
 |succ f=>cases st<;>rw[z0w,if_neg h]
theorem z3y{s:ByteArray}(hs:s.size<=100000)(a b:Nat):(s.extract a b).size<=100000:=by rw[ByteArray.size_extract];omega
theorem z8r{B:Nat}{J:List z2u->World->Prop}(h:AbidesFrom B J){pre:List z2u}{W W1:World}(hJ:J pre W)(hb:Below W.heap.size W W1):J pre W1:=
 h pre W W1 none hJ (z2g hb none) (fun r e=>by cases e)
structure z54 (n₀ b1 b2:Nat) (W W':World):Prop where
 bel:Below n₀ W W'
 one:W'.heap[b1]?=W.heap[b1]?
 two:W'.heap[b2]?=W.heap[b2]?
theorem z54.trans{n₀ b1 b2:Nat}{A B C:World}(h:z54 n₀ b1 b2 A B)(k:z54 n₀ b1 b2 B C):z54 n₀ b1 b2 A C:=⟨h.bel.trans k.bel,k.one.trans h.one,k.two.trans h.two⟩
theorem z54.put{n₀ b1 b2:Nat}{w:World}(hn:n₀<=w.heap.size)(h1:b1<w.heap.size)(h2:b2<w.heap.size)(W:World)(l:Nat)(o o':Obj)(hl:w.heap.size<=l)(h:W.heap[l]?=some o)(hc:o.isCells=false)(hw:o.isWalk=false):z54 n₀ b1 b2 W (W.putObj l o'):=
 ⟨belowK_b hn W l o o' hl h hc hw,World.putObj_heap_other kO,World.putObj_heap_other kO⟩
theorem zWm(s:ByteArray)(x k:Nat)(hx:x<k)(hk:k<=s.size)(w:World):(Instr.slice 9 (.string s) (some (E F x)) (some (E F k)) none).run tP w= .ok (.string (s.extract x k)) w:=by
 exact run_slice_string (P:=tP) w 9 s .i64 .i64 x k Tryz.underlying9 kO kO kO
theorem zAb(r:Int)(w:World):zS 168 #[.int .i32 r] w (.bool (r==32)):=by
 go_enter Tryz.func168,Tryz.ntmps168;go_wp2;go_ret;exact⟨rfl,rfl⟩
theorem zU0(hu: ∀w,ex.holds w->Lib.Utf8Tabs 2 3 w)(n:Nat)(hn:1<=n)(l Bs Bf n₀:Nat)(hn₀:11<=n₀)(s:ByteArray)(hs:s.size<=100000)(J Jx:List z2u->World->Prop)(W:World)
  (hJ:AbidesFrom W.heap.size J)
  (hY: ∀(pre:List z2u)(x:z2u) W,J pre W->pre.length<(z0z s).length->YieldAt Fence.wide (n-1) tP l #[.string x.1] W fun e W'=>
   (e= rT (.bool true)/\J (pre++[x]) W'/\z54 n₀ Bs Bf W W')\/(e= rT (.bool false)/\Jx (pre++[x]) W'))
  (hcs:W.cell? ⟨Bs,0,none⟩=some (.string s))(hcf:W.cell? ⟨Bf,0,none⟩=some (.func (.func 168) #[] #[]))(hT:Tabs ex W)(h0:J [] W):
  CallsIn Fence.wide n tP 199 #[.func (.yield l) #[] #[],pT (some ⟨Bs,0,none⟩),pT (some ⟨Bf,0,none⟩)] W fun e W'=>(∃v,e= rT v)/\
   ((∃ys:List z2u,ys.map (·.1)=z0z s/\J ys W')\/(∃pre:List z2u,pre.map (·.1)<+:z0z s/\Jx pre W')):=by
 refine callsIn_of_wp Tryz.func199 rfl trivial ?_ rfl;simp only[Tryz.ntmps199,List.size_toArray,lQ,List.length_nil,Nat.reduceAdd,Nat.reduceSub,Array.replicate_succ,Array.replicate_zero,List.push_toArray,List.append_toArray,List.nil_append,List.cons_append];have hf1:Fence.wide.fn 96:=trivial;have hf2:Fence.wide.fn 168:=trivial;gi_wp2
 gi_loopw [4,5] (fun st i wr=> ∃(pre:List z2u)(a:Option Nat)(k fuel:Nat),i=E F k/\st=E F (zD1 a)/\(∀x,a=some x->x<k)/\k<=s.size/\pre.map (·.1)++z0w s fuel a k=z0z s/\s.size<=k+fuel/\J pre wr/\Tabs ex wr
   /\wr.cell? ⟨Bs,0,none⟩=some (.string s)/\wr.cell? ⟨Bf,0,none⟩=some (.func (.func 168) #[] #[])) (fun _ i _=>s.size-(intOf i).toNat)
 case atStart=>exact⟨[],none,0,s.size,rfl,rfl,(fun x h=>by cases h),Nat.zero_le _,rfl,by omega,h0,hT,hcs,hcf⟩
 case round=>
  obtain⟨pre,a,k,fuel,rfl,rfl,ha,hk,hacc,hfu,hJr,hTr,hcs',hcf'⟩:=hrel
  by_cases hlt:k<s.size
  ·obtain⟨f,rfl⟩: ∃f,fuel=f+1:=⟨fuel-1,by omega⟩
   have hz1:=zP7 s k hlt;have hz2:=zJ8 s k hlt;have hr2:=zP8 s k
   by_cases hr:(Lib.decodeGo (s.extract k s.size)).1=32
   ·have hq:(((Lib.decodeGo (s.extract k s.size)).1:Int)==32)=true:=by simp[hr]
    cases a with
    |some x=>
     have hx:x<k:=ha x rfl;rw[zBy hlt hr]at hacc;have HA:Hid (pre.map (·.1)++s.extract x k::z0w s f none (k+(Lib.decodeGo (s.extract k s.size)).2)=z0z s):=hacc;have hlen:pre.length<(z0z s).length:=by rw[<-hacc];simp
     have hsl:=fun w=>zWm s x k hx hk w;clear hacc hr ha;simp only[zD1];gi_wp2_with (first
     |(gi_at_call 96;refine(callsIn_wide.2 (Tryz.utf8_DecodeRuneInString _ _ (hu _ hTr.ext))).mono ?_;rintro e w1 ⟨rfl,hb1⟩;have hJ1:=z8r hJ hJr hb1;have hT1:Tabs ex w1:=hTr.on hb1 hTr.room;have hcs1:w1.cell? ⟨Bs,0,none⟩=some (.string s):=(hb1.cell (p:=⟨Bs,0,none⟩) (Lib.lt_of_cell hcs')).trans hcs';have hcf1:w1.cell? ⟨Bf,0,none⟩=some (.func (.func 168) #[] #[]):=(hb1.cell (p:=⟨Bf,0,none⟩) (Lib.lt_of_cell hcf')).trans hcf';obtain⟨fn,tmps,assign,body,hy,hR⟩:=hY pre ⟨s.extract x k,z3y hs _ _⟩ w1 hJ1 hlen;dsimp only at hy)
     |(gi_at_call 168;refine(callsIn_wide.2 (zAb _ _)).mono ?_;rintro e w2 ⟨rfl,rfl⟩))
     refine hR.mono ?_;rintro e W3 (⟨rfl,hJ3,hk3⟩|⟨rfl,hJx3⟩)
     ·have hcs3:W3.cell? ⟨Bs,0,none⟩=some (.string s):=(World.cell?_of_block (a:=⟨Bs,0,none⟩) hk3.one).trans hcs1
      have hcf3:W3.cell? ⟨Bf,0,none⟩=some (.func (.func 168) #[] #[]):=(World.cell?_of_block (a:=⟨Bf,0,none⟩) hk3.two).trans hcf1;have hT3:=hT1.on hk3.bel hn₀;gi_wp2
      go_roundw
      case rel=>exact⟨pre++[⟨s.extract x k,z3y hs _ _⟩],none,k+(Lib.decodeGo (s.extract k s.size)).2,f,by go_num,rfl,(fun x h=>by cases h),hz2,by rw[List.map_append,List.append_assoc];exact HA.out,by omega,hJ3,hT3,hcs3,hcf3⟩
      case measure=>simp[intOf];omega
     ·gi_wp2
      refine bodyPost_ret (results_none rfl _ _ _) rfl ?_;exact⟨⟨_,rfl⟩,.inr ⟨_,⟨z0w s f none (k+(Lib.decodeGo (s.extract k s.size)).2),by rw[List.map_append,List.append_assoc];exact HA.out⟩,hJx3⟩⟩
    |none=>
     rw[z6r hlt hr]at hacc;have HA:Hid (pre.map (·.1)++z0w s f none (k+(Lib.decodeGo (s.extract k s.size)).2)=z0z s):=hacc;clear hacc hr ha;simp only[zD1];gi_wp2_with (first
     |(gi_at_call 96;refine(callsIn_wide.2 (Tryz.utf8_DecodeRuneInString _ _ (hu _ hTr.ext))).mono ?_;rintro e w1 ⟨rfl,hb1⟩;have hJ1:=z8r hJ hJr hb1;have hT1:Tabs ex w1:=hTr.on hb1 hTr.room;have hcs1:w1.cell? ⟨Bs,0,none⟩=some (.string s):=(hb1.cell (p:=⟨Bs,0,none⟩) (Lib.lt_of_cell hcs')).trans hcs';have hcf1:w1.cell? ⟨Bf,0,none⟩=some (.func (.func 168) #[] #[]):=(hb1.cell (p:=⟨Bf,0,none⟩) (Lib.lt_of_cell hcf')).trans hcf')
     |(gi_at_call 168;refine(callsIn_wide.2 (zAb _ _)).mono ?_;rintro e w2 ⟨rfl,rfl⟩))
     go_roundw
     case rel=>exact⟨pre,none,k+(Lib.decodeGo (s.extract k s.size)).2,f,by go_num,rfl,(fun x h=>by cases h),hz2,HA.out,by omega,hJ1,hT1,hcs1,hcf1⟩
     case measure=>simp[intOf];omega
   ·have hq:(((Lib.decodeGo (s.extract k s.size)).1:Int)==32)=false:=kZ
    rw[zEl hlt hr]at hacc
    cases a with
    |some x=>
     have hx:x<k:=ha x rfl;have HA:Hid (pre.map (·.1)++z0w s f (some x) (k+(Lib.decodeGo (s.extract k s.size)).2)=z0z s):=hacc;clear hacc hr ha;simp only[zD1];gi_wp2_with (first
     |(gi_at_call 96;refine(callsIn_wide.2 (Tryz.utf8_DecodeRuneInString _ _ (hu _ hTr.ext))).mono ?_;rintro e w1 ⟨rfl,hb1⟩;have hJ1:=z8r hJ hJr hb1;have hT1:Tabs ex w1:=hTr.on hb1 hTr.room;have hcs1:w1.cell? ⟨Bs,0,none⟩=some (.string s):=(hb1.cell (p:=⟨Bs,0,none⟩) (Lib.lt_of_cell hcs')).trans hcs';have hcf1:w1.cell? ⟨Bf,0,none⟩=some (.func (.func 168) #[] #[]):=(hb1.cell (p:=⟨Bf,0,none⟩) (Lib.lt_of_cell hcf')).trans hcf')
     |(gi_at_call 168;refine(callsIn_wide.2 (zAb _ _)).mono ?_;rintro e w2 ⟨rfl,rfl⟩))
     go_roundw
     case rel=>exact⟨pre,some x,k+(Lib.decodeGo (s.extract k s.size)).2,f,by go_num,rfl,(fun y h=>by cases h;omega),hz2,HA.out,by omega,hJ1,hT1,hcs1,hcf1⟩
     case measure=>simp[intOf];omega
    |none=>
     have HA:Hid (pre.map (·.1)++z0w s f (some k) (k+(Lib.decodeGo (s.extract k s.size)).2)=z0z s):=hacc;clear hacc hr ha;simp only[zD1];gi_wp2_with (first
     |(gi_at_call 96;refine(callsIn_wide.2 (Tryz.utf8_DecodeRuneInString _ _ (hu _ hTr.ext))).mono ?_;rintro e w1 ⟨rfl,hb1⟩;have hJ1:=z8r hJ hJr hb1;have hT1:Tabs ex w1:=hTr.on hb1 hTr.room;have hcs1:w1.cell? ⟨Bs,0,none⟩=some (.string s):=(hb1.cell (p:=⟨Bs,0,none⟩) (Lib.lt_of_cell hcs')).trans hcs';have hcf1:w1.cell? ⟨Bf,0,none⟩=some (.func (.func 168) #[] #[]):=(hb1.cell (p:=⟨Bf,0,none⟩) (Lib.lt_of_cell hcf')).trans hcf')
     |(gi_at_call 168;refine(callsIn_wide.2 (zAb _ _)).mono ?_;rintro e w2 ⟨rfl,rfl⟩))
     go_roundw
     case rel=>exact⟨pre,some k,k+(Lib.decodeGo (s.extract k s.size)).2,f,by go_num,rfl,(fun y h=>by cases h;omega),hz2,HA.out,by omega,hJ1,hT1,hcs1,hcf1⟩
     case measure=>simp[intOf];omega
  ·have hkk:k=s.size:=kO
   rw[zH7 hlt]at hacc
   cases a with
   |some x=>
    have hx:x<k:=ha x rfl;have HA:Hid (pre.map (·.1)++[s.extract x s.size]=z0z s):=hacc;have hlen:pre.length<(z0z s).length:=by rw[<-hacc];simp[zBw]
    clear hacc ha;obtain⟨fn,tmps,assign,body,hy,hR⟩:=hY pre ⟨s.extract x s.size,z3y hs _ _⟩ wr hJr hlen;dsimp only at hy;simp only[zD1];gi_wp2
    refine hR.mono ?_;rintro e W3 (⟨rfl,hJ3,hk3⟩|⟨rfl,hJx3⟩)
    ·gi_wp2
     go_end0
     exact⟨⟨_,rfl⟩,.inl ⟨_,by rw[List.map_append];exact HA.out,hJ3⟩⟩
    ·gi_wp2
     go_end0
     exact⟨⟨_,rfl⟩,.inr ⟨_,⟨[],by rw[List.map_append,List.append_nil];exact HA.out⟩,hJx3⟩⟩
   |none=>
    have HA:Hid (pre.map (·.1)=z0z s):=by
     have h2:pre.map (·.1)++[]=z0z s:=hacc;rw[List.append_nil]at h2;exact h2
    clear hacc ha;simp only[zD1];gi_wp2
    go_end0
    exact⟨⟨_,rfl⟩,.inl ⟨_,HA.out,hJr⟩⟩
end
section
open Go.ChangeShapes Go.WideShapes Go.ChangeAt Go.RowKit
variable {ex:Ext}
def z5b(xs:List ByteArray)(sep:ByteArray):ByteArray:=⟨(Lib.join (xs.map (·.data.toList)) sep.data.toList).toArray⟩
theorem zCy(sep:List UInt8)(m:Nat)(hs:sep.length<=2): ∀(r:List ByteArray),(∀x∈r,x.size<=m)->(Lib.joinTail sep (r.map (·.data.toList))).length<=r.length*(m+2)
 |[],_=>by simp[Lib.joinTail]
 |x::r,h=>by
  have ih:=zCy sep m hs r fun y hy=>h y (mcO _ hy);have hx:x.data.toList.length<=m:=by simpa using h x mcS
  have e:Lib.joinTail sep ((x::r).map (·.data.toList))=(sep++x.data.toList)++Lib.joinTail sep (r.map (·.data.toList)):=by simp[Lib.joinTail]
  rw[e,List.length_append,List.length_append,lQ,Nat.add_mul,Nat.one_mul];omega
theorem z6b(xs:List ByteArray)(sep:ByteArray)(m:Nat)(hs:sep.data.toList.length<=2)(h: ∀x∈xs,x.size<=m):(Lib.join (xs.map (·.data.toList)) sep.data.toList).length<=xs.length*(m+2):=by
 cases xs with
 |nil=>simp[Lib.join_nil]
 |cons x r=>
  have ih:=zCy sep.data.toList m hs r fun y hy=>h y (mcO _ hy);have hx:x.data.toList.length<=m:=by simpa using h x mcS
  rw[List.map_cons,Lib.join_cons,List.length_append,lQ,Nat.add_mul,Nat.one_mul];omega
theorem z6p(xs:List ByteArray)(sep:ByteArray)(m:Nat)(hs:sep.data.toList.length<=2)(h: ∀x∈xs,x.size<=m):(z5b xs sep).size<=xs.length*(m+2):=by
 show(Lib.join _ _).toArray.size<=_;rw[List.size_toArray];exact z6b xs sep m hs h
theorem zCl(bk n cap base:Nat)(xs:List ByteArray)(sep:ByteArray)(w:World)(hown:w.ownsRow base 9 1 (.slice (some ⟨bk,0,none⟩) n cap) n (xs.map Value.string))
  (hl:xs.length*50000<=100000000)(hs:sep.data.toList.length<=2)(hx: ∀x∈xs,x.size<=49998):
  zR 45 #[.slice (some ⟨bk,0,none⟩) n cap,.string sep] w (.string (z5b xs sep)):=by
 have hn:xs.length=n:=by have:=hown.1;simpa using this
 subst hn
 have hc: ∀(j:Nat) x,xs[j]?=some x->w.cell? ⟨bk,0+j,none⟩=some (.string x):=by
  intro j x hj;have hlt:j<xs.length:=(List.getElem?_eq_some_iff.1 hj).1;rw[Nat.zero_add,hown.cellAt j kO,List.getElem?_map,hj];rfl
 have hb:bk<w.heap.size/\xs.length<=cap:=by
  rcases hown.2 with⟨h,_⟩|⟨g,cap',cur,h,_,hg,hcap,_⟩
  ·cases h
  ·simp only[Value.slice.injEq,Option.some.injEq,Addr.mk.injEq,and_true,true_and]at h
   obtain⟨rfl,rfl⟩:=h;exact⟨(Array.getElem?_eq_some_iff.1 hg).1,hcap⟩
 have hj:=z6b xs sep 49998 hs hx;exact Tryz.strings_Join bk 0 cap xs sep w hc hb.1 kO hb.2 kO
theorem z77{w:World}{base n:Nat}{e:TypeId}{v:Value}{xs:List Value}(h:w.ownsRow base e 1 v n xs): ∀k,v.ownBlock=some k->base<=k:=by
 intro k hk;rcases h.2 with⟨rfl,_⟩|⟨g,cap,cur,rfl,hb,_⟩
 ·simp[Value.ownBlock]at hk
 simp[Value.ownBlock]at hk;omega
theorem Fine.grown{a w w':World}{row:Option Nat}(h:Fine ex a w)(hg:w.grownBy w' row)(hr: ∀k,row=some k->a.heap.size<=k)(ha:11<=a.heap.size):Fine ex a w':=
 ⟨h.bel.grown hg h.bel.size hr,h.tabs.on ((bF a.heap.size w).grown hg h.bel.size hr) ha⟩
theorem zDj{w:World}{base n:Nat}{e:TypeId}{v:Value}{xs:List Value}(h:w.ownsRow base e 1 v n xs)(hn:0<n): ∃g cap,v= .slice (some ⟨g,0,none⟩) n cap:=by
 rcases h.2 with⟨_,rfl⟩|⟨g,cap,_,rfl,_⟩
 ·omega
 exact⟨g,cap,rfl⟩
theorem Tryz.infoS:(Tryz.prog.info? 9).map (fun i=>(i.zero,i.size,i.bytes))=some (some (.string ⟨#[]⟩),1,16):=kR
theorem zWn(c:Int):(z2f c).length<=3:=by
 unfold z2f;repeat' split
 all_goals decide
theorem zNt(c:Int): ∀x∈z2f c,x=100\/x=115\/x=111\/x=102\/x=116\/(x=99/\c=27):=by
 unfold z2f
 repeat' split
 all_goals simp_all
theorem zSq(c:Int)(k:Nat)(hk:k<(z39 c).size):(z39 c)[k]'hk=(z2f c)[k]'(by simpa[z39,ByteArray.size]using hk):=rfl
theorem zNu(c:Int):(z39 c).size=(z2f c).length:=by
 show(z2f c).toArray.size=_;rw[List.size_toArray]
end
section
open Go.ChangeShapes Go.WideShapes Go.ChangeAt Go.RowKit Go.Shelf
variable {ex:Ext}
attribute [local go_sem] Oper.semAt_some
theorem zM6{W w1:World}{B n₁:Nat}{t e:TypeId}{v v':Value}{k m:Nat}{xs ys:List Value}{tmp:Obj}(hv:Boxed W B t v)(hB:B<n₁)(hn₁:n₁<=W.heap.size)(hrow:W.ownsRow n₁ e 1 v k xs)
  (hown':w1.ownsRow n₁ e 1 v' m ys)(hgrow:(W.alloc tmp).grownBy w1 v.ownBlock):
  Boxed w1 B t v/\Boxed (w1.setCell ⟨B,0,none⟩ v') B t v'/\(w1.setCell ⟨B,0,none⟩ v').ownsRow n₁ e 1 v' m ys/\KeepsOthers W (w1.setCell ⟨B,0,none⟩ v')/\Below B W (w1.setCell ⟨B,0,none⟩ v')
   /\ ∀j,j<n₁->j≠B->(w1.setCell ⟨B,0,none⟩ v').heap[j]?=W.heap[j]?:=by
 have hf:=z77 hrow;have hk: ∀j,j<n₁->w1.heap[j]?=W.heap[j]?:=fun j hj=>(hgrow.block j kZ (fun e=>by have:=hf j e.symm;omega)).trans (Below.heap_alloc _ _ _ kO);have hb1:Boxed w1 B t v:=(hk B hB).trans hv;refine⟨hb1,hb1.set v',ownsRow_setCell_below hown' hB v',?_,?_,fun j hj hne=>(Below.heap_setCell w1 ⟨B,0,none⟩ v' j hne).trans (hk j hj)⟩
 ·refine((KeepsOthers.alloc W tmp).trans (KeepsOthers.of_grownBy hgrow fun j o e ho=>?_)).trans (KeepsOthers.setCell _ _ _)
  rcases(hrow.alloc tmp).2 with⟨rfl,_⟩|⟨g,cap,cur,rfl,_,hg,_⟩
  ·simp[Value.ownBlock]at e
  ·simp[Value.ownBlock]at e
   subst e;rw[hg]at ho;cases ho;rfl
 exact(((Below.refl B W).alloc kO tmp).grown hgrow kZ (fun j e=>by have:=hf j e;omega)).setCell (Nat.le_refl _) _
theorem zBp{β:Type}(B N:Nat):OwnFrom B (fun(_:β) W=>N<=W.heap.size):=fun _ _ _ _ hs hg _=>Nat.le_trans hs hg.size
theorem zKk{w:World}{base base' n:Nat}{e:TypeId}{v:Value}{xs:List Value}(h:w.ownsRow base e 1 v n xs)(hb:base'<=base):w.ownsRow base' e 1 v n xs:=by
 refine⟨h.1,?_⟩;rcases h.2 with hn|⟨g,cap,cur,rfl,hg,rest⟩
 ·exact .inl hn
 exact .inr ⟨g,cap,cur,rfl,Nat.le_trans hb hg,rest⟩
theorem q0r{s:ByteArray}{ys:List z2u}(h:ys.map (·.1)<+:z0z s)(h5:ys.length=5\/(ys.length<=5/\ys.map (·.1)=z0z s)):(z0z s).take 5=ys.map (·.1):=by
 rcases h5 with h5|⟨h5,e⟩
 ·obtain⟨r,hr⟩:=h
  have hl:(ys.map (·.1)).length=5:=by simpa using h5
  rw[<-hr, <-hl,List.take_left'];rfl
 rw[<-e,List.take_of_length_le (by simpa using h5)]
theorem zKj{W:World}{base:Nat}{e:TypeId}{v:Value}{s:ByteArray}{ys:List z2u}(h:(z0z s).take 5=ys.map (·.1))(hrow:W.ownsRow base e 1 v ys.length (ys.map fun x=>Value.string x.1)):W.ownsRow base e 1 v ((z0z s).take 5).length (((z0z s).take 5).map Value.string):=by
 rw[h];simpa using hrow
theorem zIy(s:ByteArray)(w:World):Calls tP 167 #[.string s,.func (.func 168) #[] #[]] w fun e w'=>
  e= rT (.func (.func 199) #[] #[pT (some ⟨w.heap.size,0,none⟩),pT (some ⟨w.heap.size+1,0,none⟩)])/\w'=(w.alloc (cT #[.string s] 9)).alloc (cT #[.func (.func 168) #[] #[]] 59):=by
 go_enter Tryz.func167,Tryz.ntmps167;go_wp2;go_ret;exact⟨rfl,rfl⟩
theorem zLw(hu: ∀w,ex.holds w->Lib.Utf8Tabs 2 3 w)(n:Nat)(hn:1<=n)(Bs Bf n₀:Nat)(hn₀:11<=n₀)(s:ByteArray)(hs:s.size<=100000)(w:World)(hBs:Bs<w.heap.size)(hBf:Bf<w.heap.size)
  (hcs:w.cell? ⟨Bs,0,none⟩=some (.string s))(hcf:w.cell? ⟨Bf,0,none⟩=some (.func (.func 168) #[] #[]))(hT:Tabs ex w):
  SeqStopsK Fence.wide n tP 199 #[pT (some ⟨Bs,0,none⟩),pT (some ⟨Bf,0,none⟩)] (fun x:z2u=>#[Value.string x.1]) (z54 n₀ Bs Bf) (fun ys=>ys.map (·.1)=z0z s) (fun pre=>pre.map (·.1)<+:z0z s) (z0z s).length w:=fun l J Jx W hW hJ _ hY h0=>
 zU0 hu n hn l Bs Bf n₀ hn₀ s hs J Jx W hJ hY ((hW.cell (p:=⟨Bs,0,none⟩) hBs).trans hcs) ((hW.cell (p:=⟨Bf,0,none⟩) hBf).trans hcf) (hT.on hW hT.room) h0
theorem zJ9(hu: ∀w,ex.holds w->Lib.Utf8Tabs 2 3 w)(s:ByteArray)(hs:s.size<=100000)(w:World)(hT:Tabs ex w):
  Calls tP 129 #[.string s] w fun e W'=> ∃v,e= rT v/\W'.ownsRow w.heap.size 9 1 v ((z0z s).take 5).length (((z0z s).take 5).map Value.string)/\Below w.heap.size w W':=by
 refine(callsIn_wide (n:=6)).1 ?_;have hF:=Fine.start hT;have hf1:Fence.wide.fn 167:=trivial;obtain⟨i0,hi,hz0,hz1,hz2⟩:=info_parts Tryz.infoS;refine callsIn_of_wp_marks Tryz.func129 rfl trivial ?_ rfl;simp only[Tryz.ntmps129,List.size_toArray,lQ,List.length_nil,Nat.reduceAdd,Nat.reduceSub,Array.replicate_succ,Array.replicate_zero,List.push_toArray,List.append_toArray,List.nil_append,List.cons_append];gi_wp2_with (gi_at_call 167;refine(callsIn_wide.2 (zIy _ _)).mono ?_;rintro e w' ⟨rfl,rfl⟩)
 have bO:=Boxed.new w 57 (.slice none 0 0);have bS:=Boxed.new (w.alloc (cT #[.slice none 0 0] 57)) 9 (.string s);have bF:=Boxed.new ((w.alloc (cT #[.slice none 0 0] 57)).alloc (cT #[.string s] 9)) 59 (.func (.func 168) #[] #[]);simp only[World.size_alloc]at bS bF;have hF3:=((hF.alloc (cT #[.slice none 0 0] 57)).alloc (cT #[.string s] 9)).alloc (cT #[.func (.func 168) #[] #[]] 59)
 refine wpIn_rangeFunc_ownG rfl kO (gf:=199) (lb:=#[pT (some ⟨w.heap.size+1,0,none⟩),pT (some ⟨w.heap.size+1+1,0,none⟩)]) rfl trivial (enters_of Tryz.func199 kR rfl)
  (zLw hu (6-1) kO (w.heap.size+1) (w.heap.size+1+1) w.heap.size hT.room s hs _ (by simp<;>omega) (by simp<;>omega) (bS.alloc _).cell bF.cell hF3.tabs) z54.trans (z54.put (by simp<;>omega) (by simp<;>omega) (by simp<;>omega)) (Below.refl _ _) (fun _=>rfl)
  (fun pre W=>(∃v,Boxed W w.heap.size 57 v/\W.ownsRow (w.heap.size+3) 9 1 v pre.length (pre.map fun x=>Value.string x.1)/\(pre.length<=4))/\(Below w.heap.size w W/\w.heap.size+3<=W.heap.size))
  (fun c pre W=>(∃v,Boxed W w.heap.size 57 v/\W.ownsRow (w.heap.size+3) 9 1 v pre.length (pre.map fun x=>Value.string x.1)/\(c= .exit 0/\pre.length=5))/\(Below w.heap.size w W/\w.heap.size+3<=W.heap.size))
  (OwnFrom.and (Own.from (holdsRow_own (w.heap.size+3) w.heap.size 57 9 1 (fun pre:List z2u=>pre.length) (fun pre=>pre.map fun x=>Value.string x.1) (fun pre _=>pre.length<=4)) _) (OwnFrom.and (ownFrom_below (Nat.le_refl _) (by simp<;>omega)) (zBp _ _)))
  (fun c=>OwnFrom.and (Own.from (holdsRow_own (w.heap.size+3) w.heap.size 57 9 1 (fun pre:List z2u=>pre.length) (fun pre=>pre.map fun x=>Value.string x.1) (fun pre _=>c= .exit 0/\pre.length=5)) _) (OwnFrom.and (ownFrom_below (Nat.le_refl _) (by simp<;>omega)) (zBp _ _)))
  ⟨⟨_,(bO.alloc _).alloc _,World.ownsRow_nil _ _ _ _,by simp⟩,hF3.bel,by simp⟩
  (fun x=>{tmps:=#[.string s,undef,.slice none 0 0,pT (some ⟨w.heap.size,0,none⟩),.string x.1,.string s,.func (.func 199) #[] #[pT (some ⟨w.heap.size+1,0,none⟩),pT (some ⟨w.heap.size+1+1,0,none⟩)],.string x.1,undef,undef,undef,undef,undef,undef,undef,undef],defers:=[]}) ?assign ?body ?done ?stop
 case assign=>
  intro l x W K hK;gi_wp2
  exact hK
 case body=>
  rintro l pre x W ⟨⟨v,hv,hrow,hp4⟩,hB,hWz⟩ hlt;have hc:=hv.cell
  by_cases h4:pre.length=4
  ·have x1:decide (4<((pre.length:Int)+1))=true:=kZ
   have H4:Hid (pre.length=4):=h4;clear h4;gi_wp2_with (gi_at_builtin;refine wpListIn_append_own _ rfl _ _ 57 rfl (w.heap.size+3) 9 i0 (.string ⟨#[]⟩) 1 16 Tryz.underlying57 hi hz0 hz1 hz2 rfl kD _ _ _ rfl (hrow.alloc _) ⟨W.heap.size,0,none⟩ 1 1 [.string x.1] rfl rfl (cell_one_new _ _ _) (by simp[Value.oneCell']) (by unfold maxLen;omega) kO kZ ?_;intro v' w1 hown' hgrow _;obtain⟨g',cap',rfl⟩:=ownsRow_succ hown';obtain⟨hv1,hv2,hr2,hk2,hb2,hj2⟩:=zM6 hv kO hWz hrow hown' hgrow;have hc1:=hv1.cell;have hf1:=hv1.frozen)
   exact⟨hk2.from _,⟨_,hv2,by simpa using hr2,rfl,by rw[List.length_append,H4.out];rfl⟩,hB.trans hb2,Nat.le_trans hWz hb2.size⟩
  ·have x1:decide (4<((pre.length:Int)+1))=false:=kZ
   have H4:Hid (pre.length≠4):=h4;clear h4;gi_wp2_with (gi_at_builtin;refine wpListIn_append_own _ rfl _ _ 57 rfl (w.heap.size+3) 9 i0 (.string ⟨#[]⟩) 1 16 Tryz.underlying57 hi hz0 hz1 hz2 rfl kD _ _ _ rfl (hrow.alloc _) ⟨W.heap.size,0,none⟩ 1 1 [.string x.1] rfl rfl (cell_one_new _ _ _) (by simp[Value.oneCell']) (by unfold maxLen;omega) kO kZ ?_;intro v' w1 hown' hgrow _;obtain⟨g',cap',rfl⟩:=ownsRow_succ hown';obtain⟨hv1,hv2,hr2,hk2,hb2,hj2⟩:=zM6 hv kO hWz hrow hown' hgrow;have hc1:=hv1.cell;have hf1:=hv1.frozen)
   exact⟨hk2.from _,⟨hb2,hj2 _ kO kO,hj2 _ kO kO⟩,⟨_,hv2,by simpa using hr2,by have:=H4.out;simp;omega⟩,hB.trans hb2,Nat.le_trans hWz hb2.size⟩
 case done=>
  rintro D ys W hD hS ⟨⟨v,hv,hrow,hp4⟩,hB,hWz⟩ hK;have hc:=hv.cell;gi_wp2
  refine⟨by simp,.inl ⟨_,_,rfl,run_takeDeferred hK,?_⟩⟩;exact⟨_,results_tmp rfl _ _ _,v,rfl,zKj (q0r ⟨[],by rw[List.append_nil];exact hS⟩ (Or.inr ⟨by omega,hS⟩)) (zKk (ownsRow_putObj hrow _ hK rfl) kO),hB.trans (belowK_b (w:=w) (Nat.le_refl _) W D _ _ (by simp at hD;omega) hK rfl rfl)⟩
 case stop=>
  rintro D c pre W hD hSp ⟨⟨v,hv,hrow,rfl,h5⟩,hB,hWz⟩ hK;have hc:=hv.cell;gi_wp2
  refine⟨by simp,.inl ⟨_,_,rfl,run_takeDeferred hK,?_⟩⟩;exact⟨_,results_tmp rfl _ _ _,v,rfl,zKj (q0r hSp (Or.inl h5)) (zKk (ownsRow_putObj hrow _ hK rfl) kO),hB.trans (belowK_b (w:=w) (Nat.le_refl _) W D _ _ (by simp at hD;omega) hK rfl rfl)⟩
end
end Go.Proofs.YtkdflpplamebkaaGreatDoor
