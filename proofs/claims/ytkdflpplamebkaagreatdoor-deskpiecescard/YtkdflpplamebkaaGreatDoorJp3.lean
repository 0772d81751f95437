/-
A part of the proof of DeskPieces; its card says what is proved.
-/
import Derived.Test.YtkdflpplamebkaaGreatDoorJp2
import Derived.Deep.MidRow
set_option maxHeartbeats 40000000
open Go.Value renaming int → A
open Go.IntKind renaming i64 → C
open Go.RowKit.Below renaming alloc → bA, setCell → bS, drew → bD, refl → bF
set_option maxRecDepth 1000000
set_option linter.defProp false
set_option linter.unusedVariables false
set_option linter.unusedSimpArgs false
open Go.Ending renaming returned → rT
open Go.Proofs.Tryz renaming prog → tP
namespace Go.Proofs.YtkdflpplamebkaaGreatDoor
open Go.ChangeShapes Go.WideShapes Go.ChangeAt Go.RowKit
section
def numB(n:Int):ByteArray:=⟨(Lib.itoa n).toArray⟩
theorem zGl: ∀(k u:Nat),u<10^(k+1)->Lib.nDigits u<=k+1
 |0,u,h=>by rw[Lib.nDigits_small (by simpa using h)];omega
 |k+1,u,h=>by
  by_cases hu:u<10
  ·rw[Lib.nDigits_small hu];omega
  ·rw[Lib.nDigits_big hu]
   have:=zGl k (u/10) (by rw[Nat.div_lt_iff_lt_mul kO];rw[Nat.pow_succ]at h;exact h);omega
theorem zA7(u:Nat)(h:u<=9223372036854775808):(Lib.decDigits u).length<=19:=by
 rw[Lib.decDigits_length];exact zGl 18 u kO
theorem z6n(n:Int)(h0: -9223372036854775808<=n)(h1:n<=9223372036854775807):(numB n).size<=20:=by
 show(Lib.itoa n).toArray.size<=20;rw[List.size_toArray];unfold Lib.itoa;split
 ·have:=zA7 n.natAbs kO;simp only[List.length_cons];omega
 have:=zA7 n.toNat kO;omega
def regB(r:Int):ByteArray:=⟨#[114]⟩++numB r
def zGk:List (List UInt8):=[[],[109,111,118],[97,100,100],[115,117,98],[109,117,108],[100,105,118],[109,111,100],[97,110,100],[111,114],[120,111,114],[108,115,104],[114,115,104],[97,114,115,104],[110,101,103],[106,117,109,112],[106,101,113],[106,110,101],[106,103,116],[106,103,101],[106,108,116],[106,108,101],[106,115,103,116],[106,115,103,101],[106,115,108,116],[106,115,108,101],[108,111,97,100],[115,116,111,114,101],[99,97,108,108],[101,120,105,116]]
def zHg:List (List UInt8):=[[],[102,105,110,100],[116,105,109,101],[101,109,105,116]]
def zF7(i:Nat):ByteArray:=⟨(zGk.getD i []).toArray⟩
def zFr(i:Nat):ByteArray:=⟨(zHg.getD i []).toArray⟩
structure Ext where
 holds:World->Prop
 on: ∀(w w':World)(B:Nat),Below B w w'->11<=B->holds w->holds w'
structure Tabs (ex:Ext) (w:World):Prop where
 room:11<=w.heap.size
 names: ∀i,i<29->w.cell? ⟨5,i,none⟩=some (.string (zF7 i))
 calls: ∀i,i<4->w.cell? ⟨10,i,none⟩=some (.string (zFr i))
 pows:Lib.TabIs tP w "internal/strconv.uint64pow10" .u64 Lib.pow10Tab
 ext:ex.holds w
variable {ex:Ext}
theorem q3y:Tryz.prog.globalNamed "internal/strconv.uint64pow10" =some 0:=kR
theorem Tabs.on{w w':World}{B:Nat}(h:Tabs ex w)(hb:Below B w w')(hB:11<=B):Tabs ex w':=by
 refine⟨Nat.le_trans h.room hb.size,fun i hi=>?_,fun i hi=>?_,?_,ex.on _ _ _ hb hB h.ext⟩
 ·rw[hb.cell (p:=⟨5,i,none⟩) (by show 5<B;omega)];exact h.names i hi
 ·rw[hb.cell (p:=⟨10,i,none⟩) (by show 10<B;omega)];exact h.calls i hi
 have hp:=h.pows;unfold Lib.TabIs World.var? at*;simp only[q3y,Option.bind_some]at hp⊢;rw[hb.block 0 kO];exact hp
structure Fine (ex:Ext) (a w:World):Prop where
 bel:Below a.heap.size a w
 tabs:Tabs ex w
theorem Fine.start{w:World}(h:Tabs ex w):Fine ex w w:=⟨bF _ _,h⟩
theorem Fine.alloc{a w:World}(h:Fine ex a w)(o:Obj):Fine ex a (w.alloc o):=
 ⟨h.bel.alloc h.bel.size o,h.tabs.on ((bF _ _).alloc (Nat.le_refl _) o) h.tabs.room⟩
theorem Fine.call{a w w1:World}(h:Fine ex a w)(hb:Below w.heap.size w w1):Fine ex a w1:=
 ⟨h.bel.trans (hb.mono h.bel.size),h.tabs.on hb h.tabs.room⟩
theorem Fine.drew{a w:World}(h:Fine ex a w):Fine ex a w.drew:=⟨h.bel.drew,h.tabs.on (bF _ _).drew h.tabs.room⟩
theorem kept{W w1:World}(hb:Below W.heap.size W w1):(∀b o,b<W.heap.size->w1.cell? ⟨b,o,none⟩=W.cell? ⟨b,o,none⟩)/\(∀b o,b<W.heap.size->w1.frozen? ⟨b,o,none⟩=W.frozen? ⟨b,o,none⟩):=
 ⟨fun b _ h=>hb.cell (p:=⟨b,_,none⟩) h,fun b _ h=>hb.frozen (p:=⟨b,_,none⟩) h⟩
theorem zHk(w:World)(k:Nat)(os:Array Obj):Below w.heap.size w (Sort.grow (w.drewN k) os):=
 ⟨rfl,rfl,rfl,by show w.heap.size<=(w.heap++os).size;simp,fun i hi=>by show(w.heap++os)[i]?=w.heap[i]?;rw[Array.getElem?_append_left hi]⟩
theorem zEh(n:Int)(w:World)(h0: -9223372036854775808<=n)(h1:n<=9223372036854775807)(hT:Tabs ex w):
  zR 66 #[A C n,A C 10] w (.string (numB n)):=
 (Tryz.strconv_FormatInt_10 n h0 h1 w hT.pows).mono fun _ _ ⟨he,k,os,hw⟩=>⟨he,hw▸zHk w k os⟩
theorem zQf(n:Int)(w:World)(h0: -9223372036854775808<=n)(h1:n<=9223372036854775807)(hT:Tabs ex w):
  zR 13 #[A C n] w (.string (numB n)):=
 (Tryz.strconv_Itoa n h0 h1 w hT.pows).mono fun _ _ ⟨he,k,os,hw⟩=>⟨he,hw▸zHk w k os⟩
theorem z8y(n:Int)(w:World)(h0: -9223372036854775808<=n)(h1:n<=9223372036854775807)(hT:Tabs ex w):
  zR 201 #[A C n] w (.string (numB n)):=by
 go_enter Tryz.func201,Tryz.ntmps201;go_wp2_with(go_at_call 66;refine(zEh _ _ h0 h1 hT).mono ?_;rintro e w1 ⟨rfl,hb1⟩);go_ret;exact⟨rfl,hb1⟩
theorem z7e(n:Int)(w:World)(h0: -9223372036854775808<=n)(h1:n<=9223372036854775807)(hT:Tabs ex w):
  zR 200 #[A C n] w (.string (regB n)):=by
 have hz:=z6n n h0 h1;go_enter Tryz.func200,Tryz.ntmps200;go_wp2_with(go_at_call 13;refine(zQf _ _ h0 h1 hT).mono ?_;rintro e w1 ⟨rfl,hb1⟩);go_ret;exact⟨rfl,hb1⟩
def z2f(c:Int):List UInt8:=
 if 1<=c/\c<=12 then [100,115]else if 15<=c/\c<=24 then [100,115,111]else if c=13 then [100]else if c=14 then [111]else if c=25 then [100,102]else if c=26 then [116,115]else if c=27 then [99]else []
def z39(c:Int):ByteArray:=⟨(z2f c).toArray⟩
theorem zDi(c:Int)(w:World):zS 132 #[A C c] w (.string (z39 c)):=by
 unfold z39 z2f
 by_cases h1:1<=c/\c<=12
 ·rw[if_pos h1]
  have x1:decide (1<=c)=true:=by simpa using h1.1
  have x2:decide (c<=12)=true:=by simpa using h1.2
  clear h1;go_enter Tryz.func132,Tryz.ntmps132;go_wp2;go_ret;exact⟨rfl,rfl⟩
 rw[if_neg h1]
 by_cases h2:15<=c/\c<=24
 ·rw[if_pos h2]
  have x1:decide (1<=c)=true:=kZ;have x2:decide (c<=12)=false:=kZ;have x3:decide (15<=c)=true:=by simpa using h2.1
  have x4:decide (c<=24)=true:=by simpa using h2.2
  clear h1 h2;go_enter Tryz.func132,Tryz.ntmps132;go_wp2;go_ret;exact⟨rfl,rfl⟩
 rw[if_neg h2];rcases(show c<1\/c=13\/c=14\/c=25\/c=26\/c=27\/28<=c by omega)with h|rfl|rfl|rfl|rfl|rfl|h
 ·rw[if_neg kO,if_neg kO,if_neg kO,if_neg kO,if_neg kO]
  have x1:decide (1<=c)=false:=kZ;have x3:decide (15<=c)=false:=kZ;have x5:(c==13)=false:=kZ;have x6:(c==14)=false:=kZ;have x7:(c==25)=false:=kZ;have x8:(c==26)=false:=kZ;have x9:(c==27)=false:=kZ;clear h h1 h2;go_enter Tryz.func132,Tryz.ntmps132;go_wp2;go_ret;exact⟨rfl,rfl⟩
 iterate 5
  ·simp only[Int.reduceEq,if_true,if_false]
   clear h1 h2;go_enter Tryz.func132,Tryz.ntmps132;go_wp2;go_ret;exact⟨rfl,rfl⟩
 ·rw[if_neg kO,if_neg kO,if_neg kO,if_neg kO,if_neg kO]
  have x1:decide (1<=c)=true:=kZ;have x2:decide (c<=12)=false:=kZ;have x3:decide (15<=c)=true:=kZ;have x4:decide (c<=24)=false:=kZ;have x5:(c==13)=false:=kZ;have x6:(c==14)=false:=kZ;have x7:(c==25)=false:=kZ;have x8:(c==26)=false:=kZ;have x9:(c==27)=false:=kZ;clear h h1 h2;go_enter Tryz.func132,Tryz.ntmps132;go_wp2;go_ret;exact⟨rfl,rfl⟩
def Fits(n:Int):Prop:= -9223372036854775808<=n/\n<=9223372036854775807
end
section
theorem z7b{d:Nat}(h:d<10):(UInt8.ofNat (48+d)).toNat=48+d:=by
 rw[UInt8.toNat_ofNat'];omega
theorem zKi: ∀(u:Nat)(r:List UInt8),u<=9223372036854775808->Lib.parseUintM 18446744073709551615 0 (Lib.decDigits u++r)=Lib.parseUintM 18446744073709551615 u r:=by
 intro u;induction u using Nat.strongRecOn with
 |_ u ih=>
  intro r hu
  by_cases h:u<10
  ·rw[Lib.decDigits,dif_pos h,List.singleton_append,Lib.parseUintM,z7b h]
   rw[if_pos kO,if_neg kO,if_neg kO];congr 1;omega
  ·rw[Lib.decDigits,dif_neg h,List.append_assoc,List.singleton_append,ih (u/10) kO _ kO,Lib.parseUintM,z7b (by omega:u%10<10)]
   rw[if_pos kO,if_neg kO,if_neg kO];congr 1;omega
theorem zEn: ∀(u:Nat),∃c r,Lib.decDigits u=c::r/\48<=c.toNat/\c.toNat<=57:=by
 intro u;induction u using Nat.strongRecOn with
 |_ u ih=>
  by_cases h:u<10
  ·exact⟨_,[],by rw[Lib.decDigits,dif_pos h],by rw[z7b h];omega,by rw[z7b h];omega⟩
  ·obtain⟨c,r,e,h1,h2⟩:=ih (u/10) kO
   exact⟨c,r++[UInt8.ofNat (48+u%10)],by rw[Lib.decDigits,dif_neg h,e];rfl,h1,h2⟩
theorem zKh(u:Nat)(hu:u<=9223372036854775808):Lib.parseUintB 64 (Lib.decDigits u)= .ok u:=by
 obtain⟨c,r,e,_⟩:=zEn u;unfold Lib.parseUintB;rw[if_neg (by rw[e];simp)];have:=zKi u [] hu;rw[List.append_nil]at this;exact this
theorem zSr(n:Int)(h:Fits n):Lib.parseIntB 64 (Lib.itoa n)= .ok n:=by
 unfold Lib.itoa;obtain⟨h0,h1⟩:=h
 by_cases hn:n<0
 ·rw[if_pos hn]
  have hm:=zKh n.natAbs kO
  show(match Lib.parseUintB 64 (if(45:UInt8).toNat=43\/(45:UInt8).toNat=45 then Lib.decDigits n.natAbs else 45::Lib.decDigits n.natAbs)with
   | .syntax=>Lib.NumEnd.syntax
   | .range=> .range
   | .ok u=>if¬(45:UInt8).toNat=45/\2^63<=u then .range else if(45:UInt8).toNat=45/\2^63<u then .range else .ok (if(45:UInt8).toNat=45 then-(u:Int)else u))=_
  rw[if_pos kD,hm];show(if¬(45:UInt8).toNat=45/\2^63<=n.natAbs then Lib.NumEnd.range else if(45:UInt8).toNat=45/\2^63<n.natAbs then .range else .ok (if(45:UInt8).toNat=45 then-(n.natAbs:Int)else n.natAbs))=_;rw[if_neg (fun h=>h.1 kD),if_neg kO,if_pos kD];congr 1;omega
 rw[if_neg hn];obtain⟨c,r,e,c1,c2⟩:=zEn n.toNat;have hm:=zKh n.toNat kO;rw[e]at hm⊢
 show(match Lib.parseUintB 64 (if c.toNat=43\/c.toNat=45 then r else c::r)with
  | .syntax=>Lib.NumEnd.syntax
  | .range=> .range
  | .ok u=>if¬c.toNat=45/\2^63<=u then .range else if c.toNat=45/\2^63<u then .range else .ok (if c.toNat=45 then-(u:Int)else u))=_
 rw[if_neg kO,hm];show(if¬c.toNat=45/\2^63<=n.toNat then Lib.NumEnd.range else if c.toNat=45/\2^63<n.toNat then .range else .ok (if c.toNat=45 then-(n.toNat:Int)else n.toNat))=_;rw[if_neg kO,if_neg kO,if_neg kO];congr 1;omega
def z2y(b:ByteArray):Option Int:=
 match Lib.parseIntB 64 b.data.toList with
 | .ok v=>if numB v=b then some v else none
 |_=>none
theorem zWu(n:Int):(numB n).data.toList=Lib.itoa n:=by simp[numB]
theorem zGh{n:Int}(h:Fits n):z2y (numB n)=some n:=by
 unfold z2y;rw[zWu,zSr n h];simp
theorem zB4{b:ByteArray}{n:Int}(h:z2y b=some n):Fits n/\b=numB n:=by
 unfold z2y at h;split at h
 ·rename_i v hv
  split at h
  ·rename_i hb
   obtain rfl:=Option.some.inj h;have:=Lib.parseIntB_bounds (B:=64) (l:=b.data.toList) hv;obtain⟨t1,t2⟩:=this;simp at t1 t2;exact⟨⟨by omega,by omega⟩,hb.symm⟩
  ·cases h
 cases h
theorem q1l{m n:Int}(hm:Fits m)(hn:Fits n)(h:numB m=numB n):m=n:=by
 have a:=zGh hm;rw[h,zGh hn]at a;exact(Option.some.inj a).symm
theorem q1d{m n:Int}(hm:Fits m)(hn:Fits n)(h:regB m=regB n):m=n:=by
 refine q1l hm hn ?_;have h2:(regB m).data.toList=(regB n).data.toList:=by rw[h]
 unfold regB at h2;have h3:(numB m).data.toList=(numB n).data.toList:=by simpa using h2
 exact ByteArray.ext (Array.ext' h3)
def z7h(b:ByteArray):Option Nat:=(List.range 11).find? fun r:Nat=>decide (b=regB r)
theorem zBb{r:Nat}(h:r<11):Fits (r:Int):=⟨by omega,by omega⟩
theorem zSl{r:Nat}(h:r<11):z7h (regB r)=some r:=by
 unfold z7h
 cases e:(List.range 11).find? fun k:Nat=>decide (regB r=regB k)with
 |none=>exact absurd (List.find?_eq_none.1 e r (List.mem_range.2 h)) kS
 |some k=>
  have h1:=List.find?_some e;have h2:=List.mem_range.1 (List.mem_of_find?_eq_some e);have:=q1d (zBb h) (zBb h2) (of_decide_eq_true h1);congr 1;omega
theorem zG5{b:ByteArray}{r:Nat}(h:z7h b=some r):r<11/\b=regB r:=
 ⟨List.mem_range.1 (List.mem_of_find?_eq_some h),of_decide_eq_true (p:=b=regB r) (List.find?_some (p:=fun k:Nat=>decide (b=regB k)) h)⟩
variable {ex:Ext}
structure z17 (w:World):Prop where
 synt: ∃te pe,w.cell? ⟨6,0,none⟩=some (.iface te pe)
 rang: ∃te pe,w.cell? ⟨7,0,none⟩=some (.iface te pe)
theorem zPf(w:World)(e:TypeId)(s:ByteArray):Below w.heap.size w (Lib.bytesWorld w e s):=
 ⟨rfl,rfl,rfl,by rw[Lib.bytesWorld_size];omega,fun k hk=>Lib.bytesWorld_at_old w e s k hk⟩
theorem zCg{b:ByteArray}{v:Int}(h:Lib.parseIntB 64 b.data.toList= .ok v)(w:World)(hb:b.size<=100000):
  zR 99 #[.string b,A C 10,A C 64] w (.tuple #[A C v,.nilIface]):=by
 refine(Tryz.strconv_ParseInt_10_at64_ok b kO v h w).mono fun e w' hh=>?_;obtain⟨h1,h2⟩:=hh;refine⟨h1,?_⟩;rcases h2 with rfl|⟨t,rfl⟩
 ·exact bF _ _
 exact zPf w _ t
theorem zQ8(he: ∀w,ex.holds w->z17 w){b:ByteArray}(h: ∀v,Lib.parseIntB 64 b.data.toList≠ .ok v)(w:World)(hb:b.size<=100000)(hT:Tabs ex w):
  Calls tP 99 #[.string b,A C 10,A C 64] w fun e w'=>(∃v t p,e= rT (.tuple #[A C v,.iface t p]))/\Below w.heap.size w w':=by
 cases h':Lib.parseIntB 64 b.data.toList with
 |ok v=>exact absurd h' (h v)
 | «syntax» =>
  obtain⟨t,p,hv⟩:=(he w hT.ext).synt;refine(Tryz.strconv_ParseInt_10_at64_syntax b kO h' _ w hv (Or.inr ⟨t,p,rfl⟩)).mono fun e w' hh=>?_;obtain⟨N,h1,_,_,h2⟩:=hh;exact⟨⟨_,_,_,h1⟩,h2⟩
 |range=>
  obtain⟨t,p,hv⟩:=(he w hT.ext).rang;refine(Tryz.strconv_ParseInt_10_at64_range b kO h' _ w hv (Or.inr ⟨t,p,rfl⟩)).mono fun e w' hh=>?_;obtain⟨N,h1,_,_,h2⟩:=hh;exact⟨⟨_,_,_,h1⟩,h2⟩
theorem z6m{a b:ByteArray}(h:a≠b):(a.toList==b.toList)=false:=by
 rw[beq_eq_false_iff_ne];intro e;exact h (by rw[Lib.toList_data,Lib.toList_data]at e;exact ByteArray.ext (Array.ext' e))
theorem zGf(he: ∀w,ex.holds w->z17 w)(b:ByteArray)(w:World)(hb:b.size<=100000)(hT:Tabs ex w):
  zR 170 #[.string b] w (.tuple #[A C ((z2y b).getD 0),.bool (z2y b).isSome]):=by
 have hF:=Fine.start hT
 by_cases hok: ∃v,Lib.parseIntB 64 b.data.toList= .ok v
 ·obtain⟨v,h⟩:=hok
  have hv:=Lib.parseIntB_bounds (B:=64) h;have v1: -9223372036854775808<=v:=by have:=hv.1;simp at this;omega
  have v2:v<=9223372036854775807:=by have:=hv.2;simp at this;omega
  have HP:Hid (Lib.parseIntB 64 b.data.toList= .ok v):=h;clear h hv
  by_cases hbv:numB v=b
  ·have hno:z2y b=some v:=by unfold z2y;rw[HP.out];simp[hbv]
   rw[hno];subst hbv;clear hno;go_enter Tryz.func170,Tryz.ntmps170
   go_wp2_with(first
    |(go_at_call 99;refine(zCg HP.out _ hb).mono ?_;rintro e w1 ⟨rfl,hb1⟩)
    |(go_at_call 201;refine(z8y _ _ v1 v2 (hF.call hb1).tabs).mono ?_;rintro e w2 ⟨rfl,hb2⟩))
   go_ret2
   exact⟨rfl,((hF.call hb1).call hb2).bel⟩
  ·have hno:z2y b=none:=by unfold z2y;rw[HP.out];simp[hbv]
   rw[hno];have hq:=z6m hbv;clear hno hbv;go_enter Tryz.func170,Tryz.ntmps170
   go_wp2_with(first
    |(go_at_call 99;refine(zCg HP.out _ hb).mono ?_;rintro e w1 ⟨rfl,hb1⟩)
    |(go_at_call 201;refine(z8y _ _ v1 v2 (hF.call hb1).tabs).mono ?_;rintro e w2 ⟨rfl,hb2⟩))
   go_ret2
   exact⟨rfl,((hF.call hb1).call hb2).bel⟩
 have hn: ∀v,Lib.parseIntB 64 b.data.toList≠ .ok v:=fun v e=>hok ⟨v,e⟩
 have hno:z2y b=none:=by
  unfold z2y;split
  ·rename_i v e;exact absurd e (hn v)
  ·rfl
 rw[hno];clear hok hno;go_enter Tryz.func170,Tryz.ntmps170;go_wp2_with(go_at_call 99;refine(zQ8 he hn _ hb hT).mono ?_;rintro e w1 ⟨⟨v,t,p,rfl⟩,hb1⟩);go_ret2
 exact⟨rfl,hb1⟩
theorem z8g(he: ∀w,ex.holds w->z17 w)(b:ByteArray)(w:World)(hb:b.size<=100000)(hT:Tabs ex w):
  zR 171 #[.string b] w (.tuple #[A C ((z2y b).getD 0),.bool (z2y b).isSome]):=by
 go_enter Tryz.func171,Tryz.ntmps171;go_wp2_with(go_at_call 170;refine(zGf he _ _ hb hT).mono ?_;rintro e w1 ⟨rfl,hb1⟩);go_ret2
 exact⟨rfl,hb1⟩
theorem zNk{b:ByteArray}{k:Nat}(hk:k<11)(hb:b=regB k):z7h b=some k:=by rw[hb];exact zSl hk
theorem z43(b:ByteArray)(w:World)(hT:Tabs ex w):
  zR 169 #[.string b] w (.tuple #[A C (((z7h b).getD 0:Nat):Int),.bool (z7h b).isSome]):=by
 have hF:=Fine.start hT;go_enter Tryz.func169,Tryz.ntmps169;go_wp2;go_loopw [5] (fun i wr=> ∃k:Nat,k<=11/\i=A C k/\Fine ex w wr/\ ∀j:Nat,j<k->b≠regB j) (fun i _=>11-(intOf i).toNat)
 case atStart=>exact⟨0,by omega,rfl,hF,fun j hj=>absurd hj (Nat.not_lt_zero _)⟩
 case round=>
  obtain⟨k,hk,rfl,hFr,hno⟩:=hrel
  by_cases hlt:k<11
  ·have hf:=zBb hlt
   by_cases hbk:b=regB k
   ·have HR:Hid (z7h b=some k):=zNk hlt hbk
    have HB:Hid (b=regB k):=hbk;have hq:(b.toList==(regB k).toList)=true:=by rw[hbk];simp
    clear hbk hno;go_wp2_with(go_at_call 200;refine(z7e _ _ hf.1 hf.2 hFr.tabs).mono ?_;rintro e w1 ⟨rfl,hb1⟩);go_ret2
    exact⟨by rw[HR.out];rfl,(hFr.call hb1).bel⟩
   ·have hq:=z6m hbk
    have HB:Hid (b≠regB k):=hbk;clear hbk;go_wp2_with(go_at_call 200;refine(z7e _ _ hf.1 hf.2 hFr.tabs).mono ?_;rintro e w1 ⟨rfl,hb1⟩);go_roundw
    case rel=>exact⟨k+1,by omega,by go_num,hFr.call hb1,fun j hj=>by
     rcases Nat.lt_succ_iff_lt_or_eq.1 hj with h|h
     ·exact hno j h
     ·rw[h];exact HB.out⟩
    case measure=>simp[intOf];omega
  ·have hkk:k=11:=kO
   subst hkk
   have HR:Hid (z7h b=none):=by
    show z7h b=none
    cases e:z7h b with
    |none=>rfl
    |some r=>exact absurd (zG5 e).2 (hno r (zG5 e).1)
   go_wp2;go_ret2
   exact⟨by rw[HR.out];rfl,hFr.bel⟩
end
section
variable {ex:Ext}
def zDn:Array Value:=(zGk.map fun b=>Value.string ⟨b.toArray⟩).toArray
def zEr:Array Value:=(zHg.map fun b=>Value.string ⟨b.toArray⟩).toArray
theorem zQb(k:Nat)(h:k<29):zDn[k]?=some (.string (zF7 k)):=by
 have hl:k<zGk.length:=h;simp[zDn,zF7,List.getD_eq_getElem?_getD,List.getElem?_eq_getElem hl]
theorem zR3(k:Nat)(h:k<4):zEr[k]?=some (.string (zFr k)):=by
 have hl:k<zHg.length:=h;simp[zEr,zFr,List.getD_eq_getElem?_getD,List.getElem?_eq_getElem hl]
theorem zTd{w:World}(hT:Tabs ex w):(loadVar 253 ⟨5,0,none⟩).run tP w= .ok (.agg zDn) w:=by
 refine run_loadVar_mid w _ 0 _ (zGk.map fun b=>Value.string ⟨b.toArray⟩) _ (fun j v hv=>?_) Tryz.underlying253 rfl kR
 have hj:j<29:=by
  have h0:=(List.getElem?_eq_some_iff.1 hv).1;rw[List.length_map]at h0;exact h0
 have h1:=zQb j hj;have h2:zDn[j]?=some v:=by simpa[zDn]using hv
 rw[Nat.zero_add,hT.names j hj, <-h1,h2]
theorem zTf{w:World}(hT:Tabs ex w):(loadVar 304 ⟨10,0,none⟩).run tP w= .ok (.agg zEr) w:=by
 refine run_loadVar_mid w _ 0 _ (zHg.map fun b=>Value.string ⟨b.toArray⟩) _ (fun j v hv=>?_) Tryz.underlying304 rfl kR
 have hj:j<4:=by
  have h0:=(List.getElem?_eq_some_iff.1 hv).1;rw[List.length_map]at h0;exact h0
 have h1:=zR3 j hj;have h2:zEr[j]?=some v:=by simpa[zEr]using hv
 rw[Nat.zero_add,hT.calls j hj, <-h1,h2]
theorem zDr{ops:Array Oper}{rest:List Oper}{d:Option Tmp}{ty:TypeId}{pos:String}{af:_}{a:Act}{w:World}{Q:Exit->Act->World->Prop}(hT:Tabs ex w)
  (h:wpList tP ops Q rest (a.put d (.agg zDn)) w):wpList tP ops Q ({dst:=d,op:= .load 253 (.global 5),type:=ty,pos:=pos,after:=af,guard:=none}::rest) a w:=
 by
 refine wpList_plain rfl ?_;intro K hK;have h2:=hK _ _ h;unfold Oper.wp execOp;simp only[Act.eval,Instr.loadAt,Instr.sureAddr,Sem.run_bind,Sem.run_pure,Result.andThen_ok,zTd hT];exact h2
theorem zDt{ops:Array Oper}{rest:List Oper}{d:Option Tmp}{ty:TypeId}{pos:String}{af:_}{a:Act}{w:World}{Q:Exit->Act->World->Prop}(hT:Tabs ex w)
  (h:wpList tP ops Q rest (a.put d (.agg zEr)) w):wpList tP ops Q ({dst:=d,op:= .load 304 (.global 10),type:=ty,pos:=pos,after:=af,guard:=none}::rest) a w:=
 by
 refine wpList_plain rfl ?_;intro K hK;have h2:=hK _ _ h;unfold Oper.wp execOp;simp only[Act.eval,Instr.loadAt,Instr.sureAddr,Sem.run_bind,Sem.run_pure,Result.andThen_ok,zTf hT];exact h2
theorem zD3:Tryz.t9.size=1:=kR
theorem zOj(k:Nat)(h:k<29)(w:World):(Instr.index 253 (.agg zDn) (A C k)).run tP w= .ok (.string (zF7 k)) w:=by
 have h1:=zQb k h;simp[Instr.index,run_underlying Tryz.underlying253,asIntOf,part,sizeOf,go_sem,zD3,h,h1]
theorem zOk(k:Nat)(h:k<4)(w:World):(Instr.index 304 (.agg zEr) (A C k)).run tP w= .ok (.string (zFr k)) w:=by
 have h1:=zR3 k h;simp[Instr.index,run_underlying Tryz.underlying304,asIntOf,part,sizeOf,go_sem,zD3,h,h1]
def z3d(b:ByteArray):Nat:=((List.range 29).find? fun k:Nat=>decide (zF7 k=b)).getD 0
def callOf(b:ByteArray):Nat:=((List.range 4).find? fun k:Nat=>decide (zFr k=b)).getD 0
theorem zH6{p:Nat->Bool}{n k:Nat}(hk:k<n)(hno: ∀j,j<k->p j=false)(hp:p k=true):(List.range n).find? p=some k:=by
 exact List.find?_range_eq_some.2 ⟨hp,List.mem_range.2 hk,fun j hj=>by simp[hno j hj]⟩
theorem zLv{p:Nat->Bool}{n:Nat}(hno: ∀j,j<n->p j=false):(List.range n).find? p=none:=by
 rw[List.find?_eq_none];intro j hj;simp[hno j (List.mem_range.1 hj)]
theorem zBe(b:ByteArray)(w:World)(hT:Tabs ex w):
  zS 131 #[.string b] w (A C (z3d b)):=by
 go_enter Tryz.func131,Tryz.ntmps131;go_wp2_with(apply zDr hT);go_loop [6] (fun i=> ∃k:Nat,k<=29/\i=A C k/\ ∀j:Nat,j<k->zF7 j≠b) (fun i=>29-(intOf i).toNat)
 case atStart=>exact⟨0,by omega,rfl,fun j hj=>absurd hj (Nat.not_lt_zero _)⟩
 case round=>
  obtain⟨k,hk,rfl,hno⟩:=hrel
  by_cases hlt:k<29
  ·have hix:=zOj k hlt
   by_cases hb:zF7 k=b
   ·have HC:Hid (z3d b=k):=by
     show z3d b=k;unfold z3d;rw[zH6 hlt (fun j hj=>by simpa using hno j hj) (by simpa using hb)];rfl
    have hq:((zF7 k).toList==b.toList)=true:=by rw[hb];simp
    clear hb hno;go_wp2;go_ret;exact⟨by rw[HC.out];rfl,rfl⟩
   ·have hq:=z6m hb
    have HB:Hid (zF7 k≠b):=hb;clear hb;go_wp2;go_round
    case rel=>exact⟨k+1,by omega,by go_num,fun j hj=>by
     rcases Nat.lt_succ_iff_lt_or_eq.1 hj with h|h
     ·exact hno j h
     ·rw[h];exact HB.out⟩
    case measure=>simp[intOf];omega
  ·have hkk:k=29:=kO
   subst hkk
   have HC:Hid (z3d b=0):=by
    show z3d b=0;unfold z3d;rw[zLv (fun j hj=>by simpa using hno j hj)];rfl
   go_wp2;go_ret;exact⟨by rw[HC.out];rfl,rfl⟩
theorem zUe(b:ByteArray)(w:World)(hT:Tabs ex w):
  zS 173 #[.string b] w (A C (callOf b)):=by
 go_enter Tryz.func173,Tryz.ntmps173;go_wp2_with(apply zDt hT);go_loop [6] (fun i=> ∃k:Nat,k<=4/\i=A C k/\ ∀j:Nat,j<k->zFr j≠b) (fun i=>4-(intOf i).toNat)
 case atStart=>exact⟨0,by omega,rfl,fun j hj=>absurd hj (Nat.not_lt_zero _)⟩
 case round=>
  obtain⟨k,hk,rfl,hno⟩:=hrel
  by_cases hlt:k<4
  ·have hix:=zOk k hlt
   by_cases hb:zFr k=b
   ·have HC:Hid (callOf b=k):=by
     show callOf b=k;unfold callOf;rw[zH6 hlt (fun j hj=>by simpa using hno j hj) (by simpa using hb)];rfl
    have hq:((zFr k).toList==b.toList)=true:=by rw[hb];simp
    clear hb hno;go_wp2;go_ret;exact⟨by rw[HC.out];rfl,rfl⟩
   ·have hq:=z6m hb
    have HB:Hid (zFr k≠b):=hb;clear hb;go_wp2;go_round
    case rel=>exact⟨k+1,by omega,by go_num,fun j hj=>by
     rcases Nat.lt_succ_iff_lt_or_eq.1 hj with h|h
     ·exact hno j h
     ·rw[h];exact HB.out⟩
    case measure=>simp[intOf];omega
  ·have hkk:k=4:=kO
   subst hkk
   have HC:Hid (callOf b=0):=by
    show callOf b=0;unfold callOf;rw[zLv (fun j hj=>by simpa using hno j hj)];rfl
   go_wp2;go_ret;exact⟨by rw[HC.out];rfl,rfl⟩
end
section
variable {ex:Ext}
theorem zE0(w:World):
  zR 213 #[.string ⟨#[43,45]⟩,.int .i32 65533] w (A C (-1)):=by
 have n0:=fun ty=>run_next_ascii (P:=tP) w ⟨#[43,45]⟩ 0 ty kD kD;have n1:=fun ty=>run_next_ascii (P:=tP) w ⟨#[43,45]⟩ 1 ty kD kD;have n2:=fun ty=>run_next_end (P:=tP) w ⟨#[43,45]⟩ 2 ty kD;simp only[Nat.reduceAdd]at n0 n1;go_enter Tryz.func213,Tryz.ntmps213;go_wp2;refine wp_loop_rounds 3 ?_
 repeat any_goals(rw[rounds_succ];go_wp2)
 all_goals go_ret
 all_goals exact⟨rfl,(bF _ _).alloc (Nat.le_refl _) _⟩
theorem zFk(s:ByteArray)(c:Int)(w:World)(hs:s.data.toList=[]):zS 220 #[.string s,.int .u8 c] w (A C (-1)):=
 (Any.strings_IndexByte {Tryz.lays152 with} s c w).mono fun e w' h=>by rw[hs]at h;exact h
theorem q64{r:Int}(h0:128<=r)(h1:r<=2047): ∃b1 b2:UInt8,Utf8.encode r=⟨#[b1,b2]⟩/\128<=b2.toNat:=by
 have hv:Utf8.valid r=true:=by simp[Utf8.valid];omega
 refine⟨UInt8.ofNat (0xC0+r.toNat/64),UInt8.ofNat (0x80+r.toNat%64),?_,?_⟩
 ·simp only[Utf8.encode,hv,if_true]
  rw[if_neg kO,if_pos kO]
 simp;omega
theorem zIu(r:Int)(h0:128<=r)(h1:r<=2047)(w:World):
  zR 213 #[.string ⟨#[43,45]⟩,.int .i32 r] w (A C (-1)):=by
 have x1:decide (r<128)=false:=kZ;have x2:(r==65533)=false:=kZ;have x3:decide (0<=r)=true:=kZ;have x4:decide (r<55296)=true:=kZ;obtain⟨b1,b2,he,hb⟩:=q64 h0 h1;have HB:Hid (128<=b2.toNat):=hb
 have x5:((((⟨#[43,45]⟩:ByteArray)[1]'kD).toNat:Int) !=(((⟨#[b1,b2]⟩:ByteArray)[1]'(by decide:1<2)).toNat:Int))=true:=by
  show((45:Int) !=(b2.toNat:Int))=true;simp;omega
 clear hb;go_enter Tryz.func213,Tryz.ntmps213;go_wp2;go_step3
 go_wp2;refine wp_loop_rounds 1 ?_;rw[rounds_succ];go_wp2;go_step3
 go_wp2;go_region
 all_goals go_wp2
 go_region_with (go_at_call 220;refine(zFk _ _ _ rfl).mono ?_;rintro e w' ⟨rfl,rfl⟩)
 all_goals go_wp2
 all_goals rw[Exit.noGoto_ret]
 all_goals simp only[Exit.inBlock,Exit.then,Exit.noGoto]
 all_goals go_ret
 all_goals exact⟨rfl,(bF _ _).drew.drew⟩
theorem q2s{r:Int}(h0:2048<=r): ∃b1 b2 b3:UInt8,Utf8.encode r=⟨#[b1,b2,b3]⟩\/ ∃b4,Utf8.encode r=⟨#[b1,b2,b3,b4]⟩:=by
 unfold Utf8.encode
 by_cases hv:Utf8.valid r=true
 ·simp only[hv,if_true]
  rw[if_neg kO,if_neg kO]
  by_cases h:r.toNat<0x10000
  ·rw[if_pos h];exact⟨_,_,_,.inl rfl⟩
  ·rw[if_neg h];exact⟨_,_,_,.inr ⟨_,rfl⟩⟩
 exact⟨_,_,_,.inl (by simp only[hv];rfl)⟩
theorem zFi(r:Int)(h0:2048<=r)(h1:r≠65533)(w:World):
  zR 213 #[.string ⟨#[43,45]⟩,.int .i32 r] w (A C (-1)):=by
 have x1:decide (r<128)=false:=kZ;have x2:(r==65533)=false:=kZ;have x3:decide (0<=r)=true:=kZ;have hx2:Hid (r≠65533):=h1;clear h1;obtain⟨b1,b2,b3,he|⟨b4,he⟩⟩:=q2s h0
 all_goals go_enter Tryz.func213,Tryz.ntmps213
 all_goals go_wp2
 all_goals first|(go_ret;exact⟨rfl,bF _ _⟩)|skip
 all_goals go_step3
 all_goals go_wp2
 all_goals refine wp_loop_rounds 1 ?_
 all_goals rw[rounds_succ]
 all_goals go_wp2
 all_goals rw[Exit.noGoto_ret]
 all_goals go_ret
 all_goals exact⟨rfl,bF _ _⟩
theorem zFj(r:Int)(h:128<=r)(w:World):
  zR 213 #[.string ⟨#[43,45]⟩,.int .i32 r] w (A C (-1)):=by
 by_cases h1:r<=2047
 ·exact zIu r h h1 w
 by_cases h2:r=65533
 ·subst h2;exact zE0 w
 exact zFi r kO h2 w
theorem get_in(s:ByteArray)(i:Nat)(h:i<s.size):s.get! i=s[i]'h:=get_at s i h
theorem zUi{a b:Bool}(h:(a&&b)=true):a=true/\b=true:=by simpa using h
def OnAt(s:ByteArray)(pos k:Nat):Prop:=(decide (pos+k<s.size)&&(s.get! (pos+k)).toNat/64==2)=true
theorem decode_forms(s:ByteArray)(pos:Nat):(Utf8.decode s pos).2=1\/((Utf8.decode s pos).2=2/\OnAt s pos 1)\/((Utf8.decode s pos).2=3/\OnAt s pos 1/\OnAt s pos 2)\/((Utf8.decode s pos).2=4/\OnAt s pos 1/\OnAt s pos 2/\OnAt s pos 3):=by
 simp only[Utf8.decode];split
 ·exact .inl rfl
 split
 ·rename_i h
  obtain⟨_,h1⟩:=zUi h;split
  ·exact .inr (.inl ⟨rfl,h1⟩)
  ·exact .inl rfl
 split
 ·rename_i h
  obtain⟨h,h2⟩:=zUi h;obtain⟨_,h1⟩:=zUi h;split
  ·exact .inr (.inr (.inl ⟨rfl,h1,h2⟩))
  ·exact .inl rfl
 split
 ·rename_i h
  obtain⟨h,h3⟩:=zUi h;obtain⟨h,h2⟩:=zUi h;obtain⟨_,h1⟩:=zUi h;split
  ·exact .inr (.inr (.inr ⟨rfl,h1,h2,h3⟩))
  ·exact .inl rfl
 exact .inl rfl
theorem OnAt.out{s:ByteArray}{pos k:Nat}(h:OnAt s pos k):pos+k<s.size/\128<=(s.get! (pos+k)).toNat:=by
 unfold OnAt at h;simp at h;exact⟨h.1,by omega⟩
theorem zM5(s:ByteArray)(pos:Nat)(h:pos<s.size)(ha:128<=(s[pos]'h).toNat): ∀j,j<(Utf8.decode s pos).2->pos+j<s.size/\128<=(s.get! (pos+j)).toNat:=by
 have h0:pos+0<s.size/\128<=(s.get! (pos+0)).toNat:=⟨h,by rw[get_at s pos h];exact ha⟩;intro j hj;rcases decode_forms s pos with e|⟨e,h1⟩|⟨e,h1,h2⟩|⟨e,h1,h2,h3⟩<;>rw[e]at hj
 ·obtain rfl:j=0:=by omega
  exact h0
 ·rcases(by omega:j=0\/j=1)with rfl|rfl
  ·exact h0
  ·exact h1.out
 ·rcases(by omega:j=0\/j=1\/j=2)with rfl|rfl|rfl
  ·exact h0
  ·exact h1.out
  ·exact h2.out
 rcases(by omega:j=0\/j=1\/j=2\/j=3)with rfl|rfl|rfl|rfl
 ·exact h0
 ·exact h1.out
 ·exact h2.out
 exact h3.out
theorem zT1{s:ByteArray}{i k:Nat}(h:Lib.NoAny s.data.toList [43,45] i)(hk: ∀j,j<k->i+j<s.size/\128<=(s.get! (i+j)).toNat):Lib.NoAny s.data.toList [43,45] (i+k):=by
 induction k with
 |zero=>exact h
 |succ k ih=>
  obtain⟨h1,h2⟩:=hk k kO;refine(ih fun j hj=>hk j kO).succ (Lib.data_getElem? s (i+k) h1) ?_;rw[get_in s (i+k) h1]at h2;generalize s[i+k]'h1=x at h2;simp;constructor
  ·rintro rfl;simp at h2
  ·rintro rfl;simp at h2
theorem zHn{w W:World}{k pos:Nat}{s:ByteArray}(h:Below w.heap.size w W)(hk:w.heap.size<=k):Below w.heap.size w (W.iterAt k s pos):=
 h.trans ⟨rfl,rfl,rfl,by simp[World.iterAt],fun j hj=>by simp[World.iterAt,Array.getElem?_setIfInBounds_ne (by omega:k≠j)]⟩
theorem zD4(W:World)(k pos:Nat)(s:ByteArray):(W.iterAt k s pos).heap.size=W.heap.size:=by simp[World.iterAt]
theorem zMg(x:UInt8):((x.toNat:Int)).toNat.toUInt8=x:=by simp
theorem zFl(s:ByteArray)(w:World)(h8:s.size<=8):
  zR 204 #[.string s,.string ⟨#[43,45]⟩] w (A C (Lib.indexAny s.data.toList [43,45])):=by
 have h8z:decide ((8:Int)<(s.size:Int))=false:=decide_eq_false kO;go_enter Tryz.func204,Tryz.ntmps204;go_wp2;go_loopw [9,10] (fun _ _ wr=> ∃i:Nat,i<=s.size/\wr.heap[w.heap.size]?=some (.stringIter s i)/\Below w.heap.size w wr/\Lib.NoAny s.data.toList [43,45] i) (fun _ _ wr=>s.size-wr.iterPos w.heap.size)
 case atStart=>exact⟨0,by omega,World.iter_heap w s 0,(bF _ _).alloc (Nat.le_refl _) _,Lib.NoAny.zero _ _⟩
 case round=>
  obtain⟨i,hi,hit,hbw,hno⟩:=hrel;have HN:Hid (Lib.NoAny s.data.toList [43,45] i):=hno;clear hno;have hlw:w.heap.size<wr.heap.size:=(Array.getElem?_eq_some_iff.1 hit).1;have hpos:wr.iterPos w.heap.size=i:=by simp[World.iterPos,hit]
  by_cases hlt:i<s.size
  ·by_cases ha:(s[i]'hlt).toNat<128
   ·have hnx:=fun ty=>Lib.run_next_ascii_at (P:=tP) wr w.heap.size s i ty hit hlt ha
    have hit2:=Lib.iterAt_heap wr w.heap.size s i (i+1) hit;have hpos2:(wr.iterAt w.heap.size s (i+1)).iterPos w.heap.size=i+1:=by simp[World.iterPos,hit2]
    have hb2:=zHn (s:=s) (pos:=i+1) hbw (Nat.le_refl _);obtain⟨x,hx⟩: ∃x:UInt8,s[i]'hlt=x:=⟨_,rfl⟩;have Hx:Hid (s.data.toList[i]?=some x):=by rw[<-hx];exact Lib.data_getElem? s i hlt
    rw[hx]at hnx ha;have hcon:=Lib.contains_iff_indexByte [43,45] x;have HP:Hid (wr.iterPos w.heap.size=i):=hpos;have HP2:Hid ((wr.iterAt w.heap.size s (i+1)).iterPos w.heap.size=i+1):=hpos2;clear hx hpos hpos2
    cases hin:([43,45]:List UInt8).contains x
    ·rw[hin]at hcon
     have Hin:Hid (([43,45]:List UInt8).contains x=false):=hin;have hlt0: ¬((0:Int)<=Lib.indexByte [43,45] x):=of_decide_eq_false hcon.symm;clear hcon hin;go_wp2_with(go_at_call 213;refine(Tryz.strings_IndexRune_ascii _ _ _ kO kO).mono ?_;rintro e w' ⟨rfl,hw⟩;rw[hw,zMg]);go_roundw
     case rel=>first|exact⟨i+1,by omega,hit2,hb2,HN.out.succ Hx.out Hin.out⟩|((repeat apply Exists.intro);exact⟨⟨i+1,by omega,hit2,hb2,HN.out.succ Hx.out Hin.out⟩,rfl⟩)
     case measure=>rw[HP.out,HP2.out];omega
    ·rw[hin]at hcon
     have Hin:Hid (([43,45]:List UInt8).contains x=true):=hin;have hge:(0:Int)<=Lib.indexByte [43,45] x:=of_decide_eq_true hcon.symm;clear hcon hin;go_wp2_with(go_at_call 213;refine(Tryz.strings_IndexRune_ascii _ _ _ kO kO).mono ?_;rintro e w' ⟨rfl,hw⟩;rw[hw,zMg]);go_ret;exact⟨by rw[Lib.indexAny_hit HN.out Hx.out Hin.out];rfl,hb2⟩
   ·have hd:=decode_high s i hlt kO
    have hbs:=zM5 s i hlt kO;have hnx:=fun ty=>Lib.run_next_any_at (P:=tP) wr w.heap.size s i ty hit hlt;obtain⟨c,hc⟩: ∃c:Nat,(Utf8.decode s i).1=c:=⟨_,rfl⟩;obtain⟨k,hk⟩: ∃k:Nat,(Utf8.decode s i).2=k:=⟨_,rfl⟩;simp only[hc,hk]at hnx;rw[hc,hk]at hd;rw[hk]at hbs;have hle:i+k<=s.size:=by have:=(hbs (k-1) kO).1;omega
    have hit2:=Lib.iterAt_heap wr w.heap.size s i (i+k) hit;have hb2:=zHn (s:=s) (pos:=i+k) hbw (Nat.le_refl _);have hN2:Hid (Lib.NoAny s.data.toList [43,45] (i+k)):=zT1 HN.out hbs;have HP:Hid (wr.iterPos w.heap.size=i):=hpos;clear hpos hc hk hbs;go_wp2_with(go_at_call 213;refine(zFj _ kO _).mono ?_;rintro e w1 ⟨rfl,hb1⟩);have hit3:w1.heap[w.heap.size]?=some (.stringIter s (i+k)):=(hb1.block _ (by rw[zD4];omega)).trans hit2;have hb3:Below w.heap.size w w1:=hb2.trans (hb1.mono (by rw[zD4];omega));have hpos3:w1.iterPos w.heap.size=i+k:=by simp[World.iterPos,hit3]
    go_roundw
    case rel=>first|exact⟨i+k,hle,hit3,hb3,hN2.out⟩|((repeat apply Exists.intro);exact⟨⟨i+k,hle,hit3,hb3,hN2.out⟩,rfl⟩)
    case measure=>rw[HP.out,hpos3];omega
  ·obtain rfl:i=s.size:=by omega
   have hnx:=fun ty=>Lib.run_next_end_at (P:=tP) wr w.heap.size s s.size ty hit hlt;go_wp2;go_ret;exact⟨by rw[Lib.indexAny_none (by rw[<-Lib.size_eq];exact HN.out)];rfl,hbw⟩
theorem Tryz.info256:(Tryz.prog.info? (Tryz.lays153_ren.t 116)).map (fun i=>(i.zero,i.size))=some (some (.agg (Array.replicate 256 (.bool false))),256):=kR
theorem zLa(b:ByteArray)(w:World)(hb:b.size<=100000)(_hT:Tabs ex w):
  zR 204 #[.string b,.string ⟨#[43,45]⟩] w (A C (Lib.indexAny b.data.toList [43,45])):=by
 by_cases h8:b.size<=8
 ·exact zFl b w h8
 refine(Any.strings_IndexAny_long Tryz.lays153 (zero_of_info Tryz.info256).1 (zero_of_info Tryz.info256).2 b ⟨#[43,45]⟩ w kD kO kO kD ?_).mono fun e w' ⟨h1,h2⟩=>⟨h1,?_⟩
 ·intro j x hx
  match j,hx with
  |0,hx=>cases hx;decide
  |1,hx=>cases hx;decide
  |j+2,hx=>cases hx
 rw[h2];exact((bF _ _).alloc (Nat.le_refl _) _).alloc kS _
end
end Go.Proofs.YtkdflpplamebkaaGreatDoor
