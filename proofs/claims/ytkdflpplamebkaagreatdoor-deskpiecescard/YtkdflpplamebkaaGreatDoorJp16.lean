/-
A part of the proof of DeskPieces; its card says what is proved.
-/
import Derived.Test.YtkdflpplamebkaaGreatDoorJp11
import Derived.Test.YtkdflpplamebkaaGreatDoorJp5
set_option maxHeartbeats 40000000
open Go.Value renaming int → A
open Go.IntKind renaming i64 → C
open Go.RowKit.Below renaming alloc → bA, setCell → bS, drew → bD, refl → bF
set_option maxRecDepth 1000000
set_option linter.defProp false
set_option linter.unusedVariables false
set_option linter.unusedSimpArgs false
open Go.Ending renaming returned → rT
open Go.Value renaming pointer → pT
open Go.Obj renaming cells → cT
open Go.Proofs.Tryz renaming prog → tP
namespace Go.Proofs.YtkdflpplamebkaaGreatDoor
section
open Go.RowKit
structure Kno where
 k:Int
 l:Int
 h:Int
def Kno.Ok(x:Kno):Prop:=0<=x.k/\x.k<=5/\In64 x.l/\In64 x.h/\x.l<=x.h
def kno0:Kno:=⟨0,0,0⟩
def z1n(l h:Int):Kno:=⟨1,l,h⟩
def z16(x:Kno):Int:=if x.k=0 then 8 else if x.k=1 then 0 else 1
def z2e(k:Int)(b:Int×Int):Kno×Int:=if b.1= -9223372036854775808/\b.2=9223372036854775807 then(kno0,2)else(⟨k,b.1,b.2⟩,0)
def z4g(c:Int)(a b:Kno):Kno×Int:=
 if b.k=0\/(a.k=0/\c≠1)then(kno0,8)
 else if c=1 then(b,0)
 else if a.k=1/\b.k=1 then(z1n (bdV c a.l a.h b.l b.h).1 (bdV c a.l a.h b.l b.h).2,0)
 else if(a.k=2\/a.k=3\/a.k=4)/\b.k=1/\(c=2\/c=3)then z2e a.k (bdV c a.l a.h b.l b.h)
 else if a.k=1/\(b.k=2\/b.k=3\/b.k=4)/\c=2 then z2e b.k (bdV c a.l a.h b.l b.h)
 else(kno0,1)
def z5a(k:Int):Int×Int:=if k=2 then(0,7)else if k=3 then(-16, -1)else(0,3)
def zDv(x:Kno)(o:Int):Int×Int:=bdV 2 x.l x.h o o
def z1m(x:Kno)(o:Int):(Int×Int)×Int:=
 if x.k=0 then((0,0),8)
 else if x.k=1\/x.k=5 then((0,0),1)
 else if(zDv x o).1<(z5a x.k).1\/(z5a x.k).2<(zDv x o).2 then((0,0),2)
 else(zDv x o,0)
structure Way where
 reg:Nat->Kno
 slot:Nat->Kno
def Way.putReg(y:Way)(d:Nat)(x:Kno):Way:={y with reg:=fun i=>if i=d then x else y.reg i}
def Way.putSlot(y:Way)(t:Nat)(x:Kno):Way:={y with slot:=fun i=>if i=t then x else y.slot i}
def Way.second(y:Way)(s:Nat)(r:Bool)(n:Int):Kno:=if r then y.reg s else z1n n n
def Way.lose(y:Way):Way:={y with reg:=fun i=>if 1<=i/\i<=5 then kno0 else y.reg i}
structure Way.Ok (y:Way):Prop where
 reg: ∀i,i<11->(y.reg i).Ok
 slot: ∀i,i<16->(y.slot i).Ok
def z1r:List Kno->Int
 |[]=>0
 |x::l=>if z16 x=0 then z1r l else z16 x
def z3v:Int×Int->List Kno->Int×Int
 |p,[]=>p
 |p,x::l=>z3v (min p.1 x.l,max p.2 x.h) l
def z99:List Kno->Int×Int
 |[]=>(0,0)
 |x::l=>z3v (x.l,x.h) l
def Way.row(y:Way)(t n:Nat):List Kno:=(List.range' t n).map y.slot
def Way.kept(y:Way)(p:Int×Int):Kno×Int:=
 if p.1=p.2/\(y.slot (p.1+16).toNat).k≠0 then(y.slot (p.1+16).toNat,0)
 else if z1r (y.row (p.1+16).toNat (p.2-p.1+1).toNat)≠0 then(kno0,z1r (y.row (p.1+16).toNat (p.2-p.1+1).toNat))
 else(z1n (z99 (y.row (p.1+16).toNat (p.2-p.1+1).toNat)).1 (z99 (y.row (p.1+16).toNat (p.2-p.1+1).toNat)).2,0)
def Way.load(y:Way)(d s:Nat)(o:Int):Int×Way:=
 if(z1m (y.reg s) o).2≠0 then((z1m (y.reg s) o).2,y)
 else if(y.reg s).k=3 then(if(y.kept (z1m (y.reg s) o).1).2≠0 then((y.kept (z1m (y.reg s) o).1).2,y)else(0,y.putReg d (y.kept (z1m (y.reg s) o).1).1))
 else(0,y.putReg d (z1n (-9223372036854775808) 9223372036854775807))
def way0:Way:=⟨fun i=>if i=1 then⟨2,0,0⟩else if i=10 then⟨3,0,0⟩else kno0,fun _=>kno0⟩
end
section
open Go.ChangeShapes Go.WideShapes Go.ChangeAt Go.RowKit
def Kno.v(x:Kno):Value:= .agg #[A C x.k,A C x.l,A C x.h]
def z2x(x:Kno)(j:Nat):Value:=if j=0 then A C x.k else if j=1 then A C x.l else A C x.h
def z28(p:Int)(y:Way)(i:Nat):Value:=
 if i=0 then A C p
 else if i<34 then z2x (y.reg ((i-1)/3)) ((i-1)%3)
 else z2x (y.slot ((i-34)/3)) ((i-34)%3)
def z04(p:Int)(y:Way):Array Value:=Array.ofFn (n:=82) fun i=>z28 p y i.1
def z03(w:World)(B:Nat)(p:Int)(y:Way):Prop:=w.heap[B]?=some (cT (z04 p y) 196 (0,0))
theorem z0i(p:Int)(y:Way):(z04 p y).size=82:=by simp[z04]
theorem zOh(x:Kno)(j:Nat):(z2x x j).oneCell'=true:=by
 unfold z2x;split
 ·rfl
 split<;>rfl
theorem zMp(p:Int)(y:Way)(i:Nat):(z28 p y i).oneCell'=true:=by
 unfold z28;split
 ·rfl
 split<;>exact zOh _ _
theorem zCr(p:Int)(y:Way)(i:Nat)(h:i<(z04 p y).size):(z04 p y)[i]=z28 p y i:=by simp[z04]
theorem z2l(p:Int)(y:Way):(z04 p y).all (·.oneCell')=true:=by
 rw[Array.all_eq_true_iff_forall_mem];intro v hv;obtain⟨i,h1,h2⟩:=Array.mem_iff_getElem.1 hv;rw[<-h2,zCr p y i h1];exact zMp _ _ _
theorem q0a(p:Int)(y:Way)(i:Nat)(hi:i<82):(z04 p y)[i]?=some (z28 p y i):=by
 unfold z04;simp[hi]
section
variable {w:World} {B d:Nat} {p:Int} {y:Way}
theorem z03.lt(h:z03 w B p y):B<w.heap.size:=(Array.getElem?_eq_some_iff.1 h).1
theorem z03.at(h:z03 w B p y)(i:Nat)(hi:i<82):w.cell? ⟨B,i,none⟩=some (z28 p y i):=by
 rw[cell_of_row w B i _ _ _ h,q0a p y i hi]
theorem z03.frozen(h:z03 w B p y)(i:Nat):w.frozen? ⟨B,i,none⟩=false:=by
 have h':w.heap[B]?=some (cT (z04 p y) 196 (0,0)):=h;simp[World.frozen?,h']
theorem z03.later{w1:World}(h:z03 w B p y)(hb:Below w.heap.size w w1):z03 w1 B p y:=(hb.block B h.lt).trans h
theorem z03.alloc(h:z03 w B p y)(o:Obj):z03 (w.alloc o) B p y:=h.later ((bF _ _).alloc (Nat.le_refl _) _)
theorem z03.start(w:World)(p:Int)(y:Way):z03 (w.alloc (cT (z04 p y) 196)) w.heap.size p y:=heap_alloc_new w _
theorem z03.setRow{w:World}{g:Nat}{old:Array Value}(hg:w.heap[g]?=some (cT old 196 (0,0)))(p:Int)(y:Way):z03 (w.setRow g (z04 p y)) g p y:=setRow_heap w g old _ _ _ hg
theorem z03.set{p':Int}{y':Way}(h:z03 w B p y)(i:Nat)(v:Value)(he: ∀j,j<82->z28 p' y' j=if j=i then v else z28 p y j):z03 (w.setCell ⟨B,i,none⟩ v) B p' y':=by
 have e:(z04 p y).setIfInBounds i v=z04 p' y':=by
  apply Array.ext
  ·simp[z04]
  ·intro j h1 h2
   have h3:j<82:=by rw[z0i]at h2;exact h2
   rw[Array.getElem_setIfInBounds (by rw[z0i];exact h3),zCr,zCr,he j h3]
   by_cases hj:i=j
   ·rw[if_pos hj,if_pos hj.symm]
   ·rw[if_neg hj,if_neg (fun e=>hj e.symm)]
 unfold z03;rw[<-e];exact heap_setCell_same w B i _ _ v h
theorem z91(p:Int)(y:Way)(d:Nat)(hd:d<11)(i:Nat)(hi:i<3):z28 p y (1+d*3+i)=z2x (y.reg d) i:=by
 unfold z28;rw[if_neg kO,if_pos kO,show(1+d*3+i-1)/3=d by omega,show(1+d*3+i-1)%3=i by omega]
theorem z7l(p:Int)(y:Way)(d:Nat)(i:Nat)(hi:i<3):z28 p y (34+d*3+i)=z2x (y.slot d) i:=by
 unfold z28;rw[if_neg kO,if_neg kO,show(34+d*3+i-34)/3=d by omega,show(34+d*3+i-34)%3=i by omega]
theorem z03.step(h:z03 w B p y):w.cell? ⟨B,0,none⟩=some (A C p):=h.at 0 kO
theorem z03.reg(h:z03 w B p y)(hd:d<11):w.cell? ⟨B,1+d*3,none⟩=some (A C (y.reg d).k)/\w.cell? ⟨B,1+d*3+1,none⟩=some (A C (y.reg d).l)/\w.cell? ⟨B,1+d*3+2,none⟩=some (A C (y.reg d).h):=
 ⟨by rw[h.at _ kO];exact congrArg some (z91 p y d hd 0 kO),by rw[h.at _ kO,z91 p y d hd 1 kO];rfl,by rw[h.at _ kO,z91 p y d hd 2 kO];rfl⟩
theorem z03.slot(h:z03 w B p y)(hd:d<16):w.cell? ⟨B,34+d*3,none⟩=some (A C (y.slot d).k)/\w.cell? ⟨B,34+d*3+1,none⟩=some (A C (y.slot d).l)/\w.cell? ⟨B,34+d*3+2,none⟩=some (A C (y.slot d).h):=
 ⟨by rw[h.at _ kO];exact congrArg some (z7l p y d 0 kO),by rw[h.at _ kO,z7l p y d 1 kO];rfl,by rw[h.at _ kO,z7l p y d 2 kO];rfl⟩
theorem z03.putStep(h:z03 w B p y)(q:Int):z03 (w.setCell ⟨B,0,none⟩ (A C q)) B q y:=
 h.set 0 _ fun j _=>by
  by_cases e:j=0
  ·rw[if_pos e,e];rfl
  ·rw[if_neg e];unfold z28;rw[if_neg e,if_neg e]
theorem z8x(p:Int)(y:Way)(d:Nat)(hd:d<11)(x:Kno)(j:Nat):z28 p (y.putReg d x) j=if 1+d*3<=j/\j<1+d*3+3 then z2x x (j-(1+d*3))else z28 p y j:=by
 by_cases h:1+d*3<=j/\j<1+d*3+3
 ·rw[if_pos h]
  unfold z28;rw[if_neg kO,if_pos kO,show(j-1)/3=d by omega,show(j-1)%3=j-(1+d*3)by omega];show z2x (if d=d then x else y.reg d) _=_;rw[if_pos rfl]
 rw[if_neg h];unfold z28
 by_cases h0:j=0
 ·rw[if_pos h0,if_pos h0]
 rw[if_neg h0,if_neg h0]
 by_cases h1:j<34
 ·rw[if_pos h1,if_pos h1]
  show z2x (if(j-1)/3=d then x else y.reg ((j-1)/3)) _=_;rw[if_neg kO]
 rw[if_neg h1,if_neg h1];rfl
theorem z7m(p:Int)(y:Way)(d:Nat)(x:Kno)(j:Nat):z28 p (y.putSlot d x) j=if 34+d*3<=j/\j<34+d*3+3 then z2x x (j-(34+d*3))else z28 p y j:=by
 by_cases h:34+d*3<=j/\j<34+d*3+3
 ·rw[if_pos h]
  unfold z28;rw[if_neg kO,if_neg kO,show(j-34)/3=d by omega,show(j-34)%3=j-(34+d*3)by omega];show z2x (if d=d then x else y.slot d) _=_;rw[if_pos rfl]
 rw[if_neg h];unfold z28
 by_cases h0:j=0
 ·rw[if_pos h0,if_pos h0]
 rw[if_neg h0,if_neg h0]
 by_cases h1:j<34
 ·rw[if_pos h1,if_pos h1];rfl
 rw[if_neg h1,if_neg h1];show z2x (if(j-34)/3=d then x else y.slot ((j-34)/3)) _=_;rw[if_neg kO]
theorem q09(y:Way)(d:Nat):y.putReg d (y.reg d)=y:=by
 unfold Way.putReg
 have:(fun i=>if i=d then y.reg d else y.reg i)=y.reg:=by
  funext i
  by_cases h:i=d
  ·rw[if_pos h,h]
  ·rw[if_neg h]
 rw[this]
theorem zUt(y:Way)(d:Nat):y.putSlot d (y.slot d)=y:=by
 unfold Way.putSlot
 have:(fun i=>if i=d then y.slot d else y.slot i)=y.slot:=by
  funext i
  by_cases h:i=d
  ·rw[if_pos h,h]
  ·rw[if_neg h]
 rw[this]
theorem zI7(p:Int)(y:Way)(d:Nat)(hd:d<11)(x z:Kno)(i:Nat)(hi:i<3)(h: ∀j,j<3->z2x z j=if j=i then z2x z i else z2x x j): ∀j,j<82->z28 p (y.putReg d z) j=if j=1+d*3+i then z2x z i else z28 p (y.putReg d x) j:=by
 intro j _;rw[z8x p y d hd z j,z8x p y d hd x j]
 by_cases hin:1+d*3<=j/\j<1+d*3+3
 ·rw[if_pos hin,if_pos hin,h _ kO]
  by_cases e:j=1+d*3+i
  ·rw[if_pos e,if_pos kO]
  ·rw[if_neg e,if_neg kO]
 rw[if_neg hin,if_neg hin,if_neg kO]
theorem zAh(p:Int)(y:Way)(d:Nat)(x z:Kno)(i:Nat)(hi:i<3)(h: ∀j,j<3->z2x z j=if j=i then z2x z i else z2x x j): ∀j,j<82->z28 p (y.putSlot d z) j=if j=34+d*3+i then z2x z i else z28 p (y.putSlot d x) j:=by
 intro j _;rw[z7m p y d z j,z7m p y d x j]
 by_cases hin:34+d*3<=j/\j<34+d*3+3
 ·rw[if_pos hin,if_pos hin,h _ kO]
  by_cases e:j=34+d*3+i
  ·rw[if_pos e,if_pos kO]
  ·rw[if_neg e,if_neg kO]
 rw[if_neg hin,if_neg hin,if_neg kO]
theorem z03.reg3(h:z03 w B p y)(hd:d<11)(k l g:Int):z03 (((w.setCell ⟨B,1+d*3,none⟩ (A C k)).setCell ⟨B,1+d*3+1,none⟩ (A C l)).setCell ⟨B,1+d*3+2,none⟩ (A C g)) B p (y.putReg d ⟨k,l,g⟩):=by
 have h1:z03 (w.setCell ⟨B,1+d*3,none⟩ (A C k)) B p (y.putReg d ⟨k,(y.reg d).l,(y.reg d).h⟩):=h.set _ _ fun j hj=>by
  have:=zI7 p y d hd (y.reg d) ⟨k,(y.reg d).l,(y.reg d).h⟩ 0 kO (fun j hj=>by rcases(show j=0\/j=1\/j=2 by omega)with rfl|rfl|rfl<;>rfl) j hj;rw[this,q09 y d];rfl
 have h2:z03 ((w.setCell ⟨B,1+d*3,none⟩ (A C k)).setCell ⟨B,1+d*3+1,none⟩ (A C l)) B p (y.putReg d ⟨k,l,(y.reg d).h⟩):=h1.set _ _ fun j hj=>
  zI7 p y d hd ⟨k,(y.reg d).l,(y.reg d).h⟩ ⟨k,l,(y.reg d).h⟩ 1 kO (fun j hj=>by rcases(show j=0\/j=1\/j=2 by omega)with rfl|rfl|rfl<;>rfl) j hj
 exact h2.set _ _ fun j hj=>
  zI7 p y d hd ⟨k,l,(y.reg d).h⟩ ⟨k,l,g⟩ 2 kO (fun j hj=>by rcases(show j=0\/j=1\/j=2 by omega)with rfl|rfl|rfl<;>rfl) j hj
theorem z03.slot3(h:z03 w B p y)(d:Nat)(k l g:Int):z03 (((w.setCell ⟨B,34+d*3,none⟩ (A C k)).setCell ⟨B,34+d*3+1,none⟩ (A C l)).setCell ⟨B,34+d*3+2,none⟩ (A C g)) B p (y.putSlot d ⟨k,l,g⟩):=by
 have h1:z03 (w.setCell ⟨B,34+d*3,none⟩ (A C k)) B p (y.putSlot d ⟨k,(y.slot d).l,(y.slot d).h⟩):=h.set _ _ fun j hj=>by
  have:=zAh p y d (y.slot d) ⟨k,(y.slot d).l,(y.slot d).h⟩ 0 kO (fun j hj=>by rcases(show j=0\/j=1\/j=2 by omega)with rfl|rfl|rfl<;>rfl) j hj;rw[this,zUt y d];rfl
 have h2:z03 ((w.setCell ⟨B,34+d*3,none⟩ (A C k)).setCell ⟨B,34+d*3+1,none⟩ (A C l)) B p (y.putSlot d ⟨k,l,(y.slot d).h⟩):=h1.set _ _ fun j hj=>
  zAh p y d ⟨k,(y.slot d).l,(y.slot d).h⟩ ⟨k,l,(y.slot d).h⟩ 1 kO (fun j hj=>by rcases(show j=0\/j=1\/j=2 by omega)with rfl|rfl|rfl<;>rfl) j hj
 exact h2.set _ _ fun j hj=>
  zAh p y d ⟨k,l,(y.slot d).h⟩ ⟨k,l,g⟩ 2 kO (fun j hj=>by rcases(show j=0\/j=1\/j=2 by omega)with rfl|rfl|rfl<;>rfl) j hj
end
theorem Tryz.infoW:(Tryz.prog.info? 196).map (·.size)=some 82:=kR
theorem z0o(p:Int)(y:Way):(Tryz.prog.info? 196).map (·.size)=some (z04 p y).size:=by rw[z0i];exact Tryz.infoW
theorem zBl{fn:Func}{q:Tmp}(h:fn.results=#[.cell q 196])(tmps:Array Value)(w:World)(g:Nat)(p:Int)(y:Way)(hp:tmps.getD q undef= pT (some ⟨g,0,none⟩))(hg:z03 w g p y):
  (results fn tmps).run tP w= .ok (.agg (z04 p y)) w:=
 results_cell_row h tmps w g _ _ _ _ hp hg Tryz.underlying196 rfl (z0o p y)
end
section
open Go.ChangeShapes Go.WideShapes Go.ChangeAt Go.RowKit
theorem z1o(l h:Int)(w:World):Calls tP 180 #[.agg #[A C l,A C h]] w fun e w'=>e= rT (z1n l h).v/\Below w.heap.size w w':=by
 go_enter Tryz.func180,Tryz.ntmps180;go_wp2;exact bodyPost_ret (v:=(z1n l h).v) (by simp[results,Tryz.results180,go_sem,z1n,Kno.v]) rfl ⟨rfl,kB⟩
theorem zTo(k l h:Int)(w:World)(y2:(k==2)=true):zR 208 #[.agg #[A C k,A C l,A C h]] w (.bool true):=by
 go_enter Tryz.func208,Tryz.ntmps208;go_wp2;go_ret;exact⟨rfl,kB⟩
theorem zTn(k l h:Int)(w:World)(y2:(k==2)=false)(y3:(k==3)=true):zR 208 #[.agg #[A C k,A C l,A C h]] w (.bool true):=by
 go_enter Tryz.func208,Tryz.ntmps208;go_wp2;go_ret;exact⟨rfl,kB⟩
theorem zTm(k l h:Int)(w:World)(y2:(k==2)=false)(y3:(k==3)=false)(y4:(k==4)=true):zR 208 #[.agg #[A C k,A C l,A C h]] w (.bool true):=by
 go_enter Tryz.func208,Tryz.ntmps208;go_wp2;go_ret;exact⟨rfl,kB⟩
theorem zTp(k l h:Int)(w:World)(y2:(k==2)=false)(y3:(k==3)=false)(y4:(k==4)=false):zR 208 #[.agg #[A C k,A C l,A C h]] w (.bool false):=by
 go_enter Tryz.func208,Tryz.ntmps208;go_wp2;go_ret;exact⟨rfl,kB⟩
def z1q(k:Int):Bool:=k==2||k==3||k==4
theorem z4v(k l h:Int)(w:World):zR 208 #[.agg #[A C k,A C l,A C h]] w (.bool (z1q k)):=by
 unfold z1q
 cases y2:k==2
 ·cases y3:k==3
  ·cases y4:k==4
   ·exact zTp k l h w y2 y3 y4
   ·exact zTm k l h w y2 y3 y4
  ·exact zTn k l h w y2 y3
 exact zTo k l h w y2
theorem z44(k:Int):z1q k=true↔(k=2\/k=3\/k=4):=by unfold z1q;simp[or_assoc]
theorem q0d(k l h:Int)(w:World)(y0:(k==0)=true):zR 142 #[.agg #[A C k,A C l,A C h]] w (A C 8):=by
 go_enter Tryz.func142,Tryz.ntmps142;go_wp2;go_ret;exact⟨rfl,kB⟩
theorem q0c(k l h:Int)(w:World)(y0:(k==0)=false)(y1:(k==1)=true):zR 142 #[.agg #[A C k,A C l,A C h]] w (A C 0):=by
 go_enter Tryz.func142,Tryz.ntmps142;go_wp2;go_ret;exact⟨rfl,kB⟩
theorem q0b(k l h:Int)(w:World)(y0:(k==0)=false)(y1:(k==1)=false):zR 142 #[.agg #[A C k,A C l,A C h]] w (A C 1):=by
 go_enter Tryz.func142,Tryz.ntmps142;go_wp2;go_ret;exact⟨rfl,kB⟩
theorem z48(k l h:Int)(w:World):zR 142 #[.agg #[A C k,A C l,A C h]] w (A C (z16 ⟨k,l,h⟩)):=by
 unfold z16
 by_cases h0:k=0
 ·rw[if_pos h0];exact q0d k l h w (by simpa using h0)
 by_cases h1:k=1
 ·rw[if_neg h0,if_pos h1];exact q0c k l h w (by simpa using h0) (by simpa using h1)
 rw[if_neg h0,if_neg h1];exact q0b k l h w (by simpa using h0) (by simpa using h1)
theorem room_2(k:Int)(w:World)(y2:(k==2)=true):zR 209 #[A C k] w (.agg #[A C 0,A C 7]):=by
 go_enter Tryz.func209,Tryz.ntmps209;go_wp2;exact bodyPost_ret (v:= .agg #[A C 0,A C 7]) (by simp[results,Tryz.results209,go_sem]) rfl ⟨rfl,kB⟩
theorem room_3(k:Int)(w:World)(y2:(k==2)=false)(y3:(k==3)=true):zR 209 #[A C k] w (.agg #[A C (-16),A C (-1)]):=by
 go_enter Tryz.func209,Tryz.ntmps209;go_wp2;exact bodyPost_ret (v:= .agg #[A C (-16),A C (-1)]) (by simp[results,Tryz.results209,go_sem]) rfl ⟨rfl,kB⟩
theorem room_4(k:Int)(w:World)(y2:(k==2)=false)(y3:(k==3)=false):zR 209 #[A C k] w (.agg #[A C 0,A C 3]):=by
 go_enter Tryz.func209,Tryz.ntmps209;go_wp2;exact bodyPost_ret (v:= .agg #[A C 0,A C 3]) (by simp[results,Tryz.results209,go_sem]) rfl ⟨rfl,kB⟩
theorem q1a(k:Int)(w:World):zR 209 #[A C k] w (.agg #[A C (z5a k).1,A C (z5a k).2]):=by
 unfold z5a
 by_cases h2:k=2
 ·rw[if_pos h2];exact room_2 k w (by simpa using h2)
 by_cases h3:k=3
 ·rw[if_neg h2,if_pos h3];exact room_3 k w (by simpa using h2) (by simpa using h3)
 rw[if_neg h2,if_neg h3];exact room_4 k w (by simpa using h2) (by simpa using h3)
theorem z3l(w:World):zR 89 #[] w (.agg #[A C (-9223372036854775808),A C 9223372036854775807]):=by
 go_enter Tryz.func89,Tryz.ntmps89;go_wp2;exact bodyPost_ret (v:= .agg #[A C (-9223372036854775808),A C 9223372036854775807]) (by simp[results,Tryz.results89,go_sem]) rfl ⟨rfl,kB⟩
theorem z3c(n:Int)(w:World):zR 86 #[A C n] w (.agg #[A C n,A C n]):=by
 go_enter Tryz.func86,Tryz.ntmps86;go_wp2;exact bodyPost_ret (v:= .agg #[A C n,A C n]) (by simp[results,Tryz.results86,go_sem]) rfl ⟨rfl,kB⟩
theorem z3z(al ah bl bh:Int)(w:World):zR 111 #[.agg #[A C al,A C ah],.agg #[A C bl,A C bh]] w (.agg #[A C (min al bl),A C (max ah bh)]):=by
 go_enter Tryz.func111,Tryz.ntmps111;go_wp2;exact bodyPost_ret (v:= .agg #[A C (min al bl),A C (max ah bh)]) (by simp[results,Tryz.results111,go_sem]) rfl ⟨rfl,kB⟩
theorem zQn(x y:Int)(p q:Bool)(w:World):(Instr.index 151 (.agg #[A C x,.bool p,A C y,.bool q]) (A C 0)).run tP w= .ok (.agg #[A C x,.bool p]) w:=kR
theorem zQm(x y:Int)(p q:Bool)(w:World):(Instr.index 151 (.agg #[A C x,.bool p,A C y,.bool q]) (A C 1)).run tP w= .ok (.agg #[A C y,.bool q]) w:=kR
theorem zPe(x y:Int)(w:World):zR 78 #[.agg #[A C x,.bool true,A C y,.bool true]] w (.agg #[A C x,A C y]):=by
 have i0:=zQn x y true true;have i1:=zQm x y true true;go_enter Tryz.func78,Tryz.ntmps78;go_wp2;refine wp_loop_rounds 3 ?_
 repeat any_goals(rw[rounds_succ];go_wp2)
 exact bodyPost_ret (v:= .agg #[A C x,A C y]) (by simp[results,Tryz.results78,go_sem]) rfl ⟨rfl,kB⟩
theorem zUg(x y:Int)(p q:Bool)(h:(p&&q)=false)(w:World):zR 78 #[.agg #[A C x,.bool p,A C y,.bool q]] w (.agg #[A C (-9223372036854775808),A C 9223372036854775807]):=by
 have i0:=zQn x y p q;have i1:=zQm x y p q
 cases p
 ·go_enter Tryz.func78,Tryz.ntmps78
  go_wp2;refine wp_loop_rounds 3 ?_
  repeat any_goals(rw[rounds_succ];go_wp2_with(go_at_call 89;refine(z3l _).mono ?_;rintro e w1 ⟨rfl,hb1⟩;obtain⟨hcl1,hfr1⟩:=z0h hb1;have hs1:=hb1.size;(try simp only[z05]at hs1);(try simp at hs1);have hbw1:Below w.heap.size w w1:=kT hb1))
  exact bodyPost_ret (v:= .agg #[A C (-9223372036854775808),A C 9223372036854775807]) (by simp[results,Tryz.results78,go_sem,hcl1]) rfl ⟨rfl,kB⟩
 have hq:q=false:=by simpa using h
 subst hq;go_enter Tryz.func78,Tryz.ntmps78;go_wp2;refine wp_loop_rounds 3 ?_
 repeat any_goals(rw[rounds_succ];go_wp2_with(go_at_call 89;refine(z3l _).mono ?_;rintro e w1 ⟨rfl,hb1⟩;obtain⟨hcl1,hfr1⟩:=z0h hb1;have hs1:=hb1.size;(try simp only[z05]at hs1);(try simp at hs1);have hbw1:Below w.heap.size w w1:=kT hb1))
 exact bodyPost_ret (v:= .agg #[A C (-9223372036854775808),A C 9223372036854775807]) (by simp[results,Tryz.results78,go_sem,hcl1]) rfl ⟨rfl,kB⟩
theorem zUh(x y:Int)(p q:Bool)(w:World):zR 78 #[.agg #[A C x,.bool p,A C y,.bool q]] w (.agg #[A C (if p&&q then x else-9223372036854775808),A C (if p&&q then y else 9223372036854775807)]):=by
 cases h:p&&q
 ·exact zUg x y p q h w
 simp only[Bool.and_eq_true]at h;obtain⟨rfl,rfl⟩:=h;exact zPe x y w
end
end Go.Proofs.YtkdflpplamebkaaGreatDoor
