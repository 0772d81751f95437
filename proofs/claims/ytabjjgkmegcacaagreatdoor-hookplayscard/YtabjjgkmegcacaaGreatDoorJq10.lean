/-
A part of the proof of HookPlays; its card says what is proved.
-/
import Derived.Test.YtabjjgkmegcacaaGreatDoorJq9
set_option maxHeartbeats 40000000
open Go.Value renaming int → A
open Go.IntKind renaming i64 → G
open Go.IntKind renaming i64 → D
open Go.RowKit.Below renaming alloc → bA, setCell → bS, drew → bD, refl → bF
set_option maxRecDepth 1000000
set_option linter.defProp false
set_option linter.unusedVariables false
set_option linter.unusedSimpArgs false
open Go.Ending renaming returned → rT
open Go.Value renaming pointer → pT
open Go.Obj renaming cells → cT
open Go.Proofs.Tryz renaming prog → tP
open List renaming take_succ_cons → lV, take_zero → lX, drop_succ_cons → lY, drop_zero → lZ, length_nil → lJ, length_cons → lQ
namespace Go.Proofs.YtabjjgkmegcacaaGreatDoor
open Go.ChangeShapes Go.WideShapes Go.ChangeAt Go.RowKit
def evGo(d:Dsk)(k:Nat)(T:Nat->Int)(rest:List (Nat->Int)):Dsk×Sd:=
 ({d.put k {d.g k with ps:=(z05 T d.ran (d.g k).ps sd0).2,evs:=rest,left:=(d.g k).left-((z05 T d.ran (d.g k).ps sd0).1.steps+1)}with ran:=d.ran+1},(z05 T d.ran (d.g k).ps sd0).1)
def z2b(k:Nat):Nat->Dsk->List Sd->Dsk×List Sd
 |0,d,l=>(d,l)
 |f+1,d,l=>match (d.g k).evs with
  |[]=>(d,l)
  |T::rest=>if 0<(d.g k).left then z2b k f (evGo d k T rest).1 (l++[(evGo d k T rest).2])else(d,l)
def z41(d:Dsk)(k:Nat):Dsk:=d.put k {d.g k with left:=(d.g k).left+(d.g k).may}
def z43(d:Dsk)(k:Nat):Dsk:=if(d.g k).evs.length=0 then d.put k {d.g k with left:=min (d.g k).left 0}else d
def z2a(d:Dsk)(k:Nat):Dsk×List Sd:=
 (z43 (z2b k 20 (z41 d k) []).1 k,(z2b k 20 (z41 d k) []).2)
theorem z3m{w:World}{B:Nat}{T:Nat->Int}{time:Int}(hT: ∀i,i<8->In64 (T i))(ht:In64 time): ∀(ps:List Pg)(s:Sd),(∀p,p∈ps->PgOk w B p)->
  (z05 T time ps s).2.length=ps.length/\s.steps<=(z05 T time ps s).1.steps/\(z05 T time ps s).1.steps<=s.steps+200*(ps.length:Int)/\(∀p,p∈(z05 T time ps s).2->PgOk w B p)/\(z05 T time ps s).1.out.length<=s.out.length+50*ps.length
 |[],s,_=>⟨rfl,Int.le_refl _,by simp[z05],by simp[z05],by simp[z05]⟩
 |p::ps,s,h=>by
  obtain⟨r1,r2,r3,r4, -⟩:=(h p mcS).small T time hT ht
  have hran:PgOk w B (p.ran (p.run T time)):=by
   have q:=h p mcS;exact⟨q.lies,q.some,q.few,q.right,q.nums,r4,q.tag⟩
  have m1:(s.more p (p.run T time)).steps=s.steps+(p.run T time).steps:=rfl;have m2:(s.more p (p.run T time)).out=s.out++(p.run T time).out:=rfl;rw[z05]
  by_cases c:(p.run T time).num=0
  ·rw[if_pos c]
   obtain⟨i1,i2,i3,i4,i5⟩:=z3m hT ht ps (s.more p (p.run T time)) (fun q hq=>h q (mcO _ hq));refine⟨?_,?_,?_,?_,?_⟩
   ·show _+1=_;rw[i1];rfl
   ·show s.steps<=(z05 T time ps (s.more p (p.run T time))).1.steps;omega
   ·show(z05 T time ps (s.more p (p.run T time))).1.steps<=_;rw[lQ];omega
   ·intro q hq
    rcases List.mem_cons.1 hq with rfl|hq
    ·exact hran
    ·exact i4 q hq
   ·show(z05 T time ps (s.more p (p.run T time))).1.out.length<=_
    rw[m2,List.length_append]at i5;rw[lQ];omega
  ·rw[if_neg c]
   refine⟨rfl,?_,?_,?_,?_⟩
   ·show s.steps<=(s.more p (p.run T time)).steps;omega
   ·show(s.more p (p.run T time)).steps<=_;rw[lQ];omega
   ·intro q hq
    rcases List.mem_cons.1 hq with rfl|hq
    ·exact hran
    ·exact h q (mcO _ hq)
   ·show(s.more p (p.run T time)).out.length<=_
    rw[m2,List.length_append,lQ];omega
structure DOk (w:World) (B:Nat) (d:Dsk) (M:Int):Prop where
 at_:z0d w B d
 ps: ∀k,k<3-> ∀p,p∈(d.g k).ps->PgOk w B p
 few: ∀k,k<3->(d.g k).ps.length<=8
 evs: ∀k,k<3->(d.g k).evs.length<=20
 told: ∀k,k<3-> ∀T,T∈(d.g k).evs-> ∀i,i<8->In64 (T i)
 may0: ∀k,k<3->1<=(d.g k).may
 may1: ∀k,k<3->(d.g k).may<=1000
 left0: ∀k,k<3-> -1601<=(d.g k).left
 left1: ∀k,k<3->(d.g k).left<=2000
 last0: ∀k,k<3->0<=(d.g k).last
 last1: ∀k,k<3->(d.g k).last<=M
 ran0:0<=d.ran
 ran1:d.ran<=M
theorem DOk.one{w:World}{B:Nat}{d:Dsk}{M:Int}(h:DOk w B d M): ∀k,k<3-> ∀p,p∈(d.g k).ps->p.sl.oneCell'=true:=fun k hk p hp=>(h.ps k hk p hp).one
theorem DOk.kept{w w':World}{B:Nat}{d:Dsk}{M:Int}(h:DOk w B d M)(hk:Kept B w w')(hD:z0d w' B d):DOk w' B d M:=
 ⟨hD,fun k hk3 p hp=>(h.ps k hk3 p hp).kept hk,h.few,h.evs,h.told,h.may0,h.may1,h.left0,h.left1,h.last0,h.last1,h.ran0,h.ran1⟩
theorem DOk.later{w w':World}{B:Nat}{d:Dsk}{M:Int}(h:DOk w B d M)(hb:Below w.heap.size w w'):DOk w' B d M:=h.kept (z09 hb B) (FnAt.later h.at_ hb)
theorem z3t(d:Dsk)(k:Nat)(x:Gt)(j:Nat):(d.put k x).g j=if j=k then x else d.g j:=rfl
theorem DOk.ev{w w':World}{B k:Nat}{d:Dsk}{M:Int}{T:Nat->Int}{rest:List (Nat->Int)}(h:DOk w B d M)(hk:k<3)(hM:M<=1000000)(he:(d.g k).evs=T::rest)(hl:0<(d.g k).left)(hkp:Kept B w w')(hD:z0d w' B (evGo d k T rest).1):DOk w' B (evGo d k T rest).1 (M+1):=by
 have hT: ∀i,i<8->In64 (T i):=h.told k hk T (by rw[he];exact mcS);have hti:In64 d.ran:=⟨by have:=h.ran0;omega,by have:=h.ran1;omega⟩;obtain⟨c1,c2,c3,c4,c5⟩:=z3m (w:=w') (B:=B) hT hti (d.g k).ps sd0 (fun p hp=>(h.ps k hk p hp).kept hkp);have c2':0<=(z05 T d.ran (d.g k).ps sd0).1.steps:=c2;have c3':(z05 T d.ran (d.g k).ps sd0).1.steps<=0+200*((d.g k).ps.length:Int):=c3;have hf:=h.few k hk;have hl1:=h.left1 k hk;have e: ∀j,((evGo d k T rest).1.g j)=if j=k then{d.g k with ps:=(z05 T d.ran (d.g k).ps sd0).2,evs:=rest,left:=(d.g k).left-((z05 T d.ran (d.g k).ps sd0).1.steps+1)}else d.g j:=fun j=>rfl;have hr:(evGo d k T rest).1.ran=d.ran+1:=rfl;refine⟨hD,?_,?_,?_,?_,?_,?_,?_,?_,?_,?_,by rw[hr];have:=h.ran0;omega,by rw[hr];have:=h.ran1;omega⟩<;>intro j hj<;>rw[e j]<;>split
 ·exact c4
 ·exact fun p hp=>(h.ps j hj p hp).kept hkp
 ·show(z05 T d.ran (d.g k).ps sd0).2.length<=8;omega
 ·exact h.few j hj
 ·show rest.length<=20;have:=h.evs k hk;rw[he,lQ]at this;omega
 ·exact h.evs j hj
 ·exact fun T' hT'=>h.told k hk T' (by rw[he];exact mcO _ hT')
 ·exact h.told j hj
 ·exact h.may0 k hk
 ·exact h.may0 j hj
 ·exact h.may1 k hk
 ·exact h.may1 j hj
 ·show-1601<=(d.g k).left-((z05 T d.ran (d.g k).ps sd0).1.steps+1);omega
 ·exact h.left0 j hj
 ·show(d.g k).left-((z05 T d.ran (d.g k).ps sd0).1.steps+1)<=2000;omega
 ·exact h.left1 j hj
 ·exact h.last0 k hk
 ·exact h.last0 j hj
 ·show(d.g k).last<=M+1;have:=h.last1 k hk;omega
 have:=h.last1 j hj;omega
section
attribute [local simp] z0p z0j z04
structure Dn where
 k:Nat
 s:Sd
 v:Value
def Dn.cells(x:Dn):List Value:=[A G (x.k:Int),A G x.s.bf,A G x.s.num,x.v,A G x.s.steps]
def z4s(ds:List Dn):List Value:=(ds.map Dn.cells).flatten
def DnAt(w:World)(base:Nat)(v:Value)(ds:List Dn):Prop:=w.ownsRow base 95 5 v ds.length (z4s ds)/\ ∀x,x∈ds->w.ownsRow base 2 1 x.v x.s.out.length (x.s.out.map (Value.int .i64))
theorem DnAt.kept{w w':World}{base B:Nat}{v:Value}{ds:List Dn}(h:DnAt w base v ds)(hk:Kept B w w')(hB:B<base):DnAt w' base v ds:=
 ⟨World.ownsRow.kept h.1 hk (Or.inr fun e=>by have:=(World.ownsRow.lt h.1 _ e).1;omega),fun x hx=>World.ownsRow.kept (h.2 x hx) hk (Or.inr fun e=>by have:=(World.ownsRow.lt (h.2 x hx) _ e).1;omega)⟩
theorem zDc{T:Nat->Int}{time:Int}: ∀(ps:List Pg)(s:Sd)(p:Pg),p∈(z05 T time ps s).2-> ∃q,q∈ps/\p.sl=q.sl
 |[],s,p,h=>absurd h (by simp[z05])
 |q::ps,s,p,h=>by
  rw[z05]at h
  by_cases c:(q.run T time).num=0
  ·rw[if_pos c]at h
   rcases List.mem_cons.1 h with rfl|h
   ·exact⟨q,mcS,rfl⟩
   ·obtain⟨r,h1,h2⟩:=zDc ps _ p h
    exact⟨r,mcO _ h1,h2⟩
  ·rw[if_neg c]at h
   rcases List.mem_cons.1 h with rfl|h
   ·exact⟨q,mcS,rfl⟩
   ·exact⟨p,mcO _ h,rfl⟩
def zCa(n:Nat)(d:Dsk):Prop:= ∀k,k<3-> ∀p,p∈(d.g k).ps-> ∀a l c,p.sl= .slice (some a) l c->a.block<n
theorem zCa.ev{n k:Nat}{d:Dsk}{T:Nat->Int}{rest:List (Nat->Int)}(h:zCa n d)(hk:k<3):zCa n (evGo d k T rest).1:=fun j hj p hp a l c e=>by
 have e0:((evGo d k T rest).1.g j)=if j=k then{d.g k with ps:=(z05 T d.ran (d.g k).ps sd0).2,evs:=rest,left:=(d.g k).left-((z05 T d.ran (d.g k).ps sd0).1.steps+1)}else d.g j:=rfl;rw[e0]at hp
 by_cases c0:j=k
 ·rw[if_pos c0]at hp
  obtain⟨q,h1,h2⟩:=zDc _ _ p hp;exact h k hk q h1 a l c (h2▸e)
 ·rw[if_neg c0]at hp
  exact h j hj p hp a l c e
theorem zCa.left{n k:Nat}{d:Dsk}{x:Int}(h:zCa n d)(hk:k<3):zCa n (d.put k {d.g k with left:=x}):=fun j hj p hp=>by
 rw[z3t]at hp
 by_cases c0:j=k
 ·rw[if_pos c0]at hp;exact h k hk p hp
 ·rw[if_neg c0]at hp;exact h j hj p hp
theorem DOk.low{w:World}{B:Nat}{d:Dsk}{M:Int}(h:DOk w B d M):zCa w.heap.size d:=fun k hk p hp a l c e=>by
 obtain⟨bk,cap,e1,h1, -, -⟩:=(h.ps k hk p hp).lies;rw[e1]at e
 cases e;exact h1
theorem DOk.grown{w w':World}{B n:Nat}{d:Dsk}{M:Int}{row:Option Nat}(h:DOk w B d M)(hg:w.grownBy w' row)(hr: ∀b,row=some b->n<=b)(hl:zCa n d)(hB:B<n):DOk w' B d M:=by
 refine⟨FnAt.block h.at_ (hg.block B h.at_.lt fun e=>by have:=hr _ e.symm;omega),fun k hk p hp=>?_,h.few,h.evs,h.told,h.may0,h.may1,h.left0,h.left1,h.last0,h.last1,h.ran0,h.ran1⟩;have q:=h.ps k hk p hp;obtain⟨bk,cap,e,h1,h2,h3⟩:=q.lies;have hb:=hl k hk p hp _ _ _ e;exact⟨⟨bk,cap,e,Nat.lt_of_lt_of_le h1 hg.size,h2,z1l h3 (hg.block bk h1 fun x=>by have:=hr _ x.symm;have hb':bk<n:=hb;omega)⟩,q.some,q.few,q.right,q.nums,q.tab,q.tag.block e (hg.block bk h1 fun x=>by have:=hr _ x.symm;have hb':bk<n:=hb;omega)⟩
theorem zGa{w:World}{b1 b2 n1 n2 z1 z2:Nat}{e1 e2:TypeId}{v1 v2:Value}{xs1 xs2:List Value}(h1:w.ownsRow b1 e1 z1 v1 n1 xs1)(h2:w.ownsRow b2 e2 z2 v2 n2 xs2)(he:e1≠e2):v1.ownBlock=none\/v1.ownBlock≠v2.ownBlock:=by
 rcases h1.2 with⟨rfl, -⟩|⟨g,c,cur,rfl, -,hg, -⟩
 ·exact Or.inl rfl
 refine Or.inr fun e=>?_;rcases h2.2 with⟨rfl, -⟩|⟨g2,c2,cur2,rfl, -,hg2, -⟩
 ·exact absurd e (by simp[Value.ownBlock])
 have:g=g2:=by simpa[Value.ownBlock]using e
 rw[this,hg2]at hg;have:=Option.some.inj hg
 cases this;exact he rfl
theorem z42{w:World}{b b' n z:Nat}{e:TypeId}{v:Value}{xs:List Value}(h:w.ownsRow b e z v n xs)(hb:b'<=b):w.ownsRow b' e z v n xs:=by
 refine⟨h.1,h.2.imp id fun x=>?_⟩;obtain⟨g,cap,cur,e1,e2,e3⟩:=x;exact⟨g,cap,cur,e1,by omega,e3⟩
theorem z99(l:List Dn)(x:Dn):z4s (l++[x])=z4s l++x.cells:=by simp[z4s]
structure InSt (w:World) (B k:Nat) (d:Dsk) (M:Int) (ds0:List Dn) (vd:Value) (wr:World) (f:Nat):Prop where
 ex: ∃d' ds,DOk wr B d' (M+20-f)/\(d'.g k).evs.length<=f/\z2b k 20 (z41 d k) []=z2b k f d' (ds.map Dn.s)/\Kept B w wr/\DnAt wr w.heap.size vd (ds0++ds)/\(∀x,x∈ds->x.k=k)/\ds.length+f<=20/\zCa w.heap.size d'
def z4i(B:Nat)(rn:Int)(V:World):Prop:=V.cell? ⟨B,951,none⟩=some (A G rn)
theorem zWq{w:World}{B:Nat}{d:Dsk}(h:z0d w B d):z4i B d.ran w:=(FnAt.at h 951 kD).trans (congrArg some (zVu d))
theorem z57{w:World}{B k:Nat}{d:Dsk}{x:Gt}{rn:Int}(hr:d.ran=rn)(h:z0d w B (d.put k x)):z4i B rn w:=by rw[<-hr];exact zWq (d:=d.put k x) h
theorem z4i.later{w w':World}{B:Nat}{rn:Int}(h:z4i B rn w)(hB:B<w.heap.size)(hb:Below w.heap.size w w'):z4i B rn w':=(hb.cell (p:=⟨B,951,none⟩) hB).trans h
theorem z4i.row{w:World}{B g:Nat}{rn:Int}(h:z4i B rn w)(hg:B≠g)(cs:Array Value):z4i B rn (w.setRow g cs):=(World.cell?_of_block (a:=⟨B,951,none⟩) (setRow_other w g B cs hg)).trans h
theorem zO8{d:Dsk}{k:Nat}{T:Nat->Int}{rest:List (Nat->Int)}(he:(d.g k).evs=T::rest):(d.g k).evs.length=rest.length+1:=by rw[he];rfl
def z0z:Nat->Dsk->Dsk×List (Nat×Sd)
 |0,d=>(d,[])
 |j+1,d=>((z2a (z0z j d).1 j).1,(z0z j d).2++(z2a (z0z j d).1 j).2.map fun s=>(j,s))
structure zZp (w:World) (B:Nat) (d:Dsk) (M:Int) (vd:Value) (wr:World) (j:Nat):Prop where
 ex: ∃d' ds,(z0z j d).1=d'/\DOk wr B d' (M+20*j)/\Kept B w wr/\DnAt wr w.heap.size vd ds/\(ds.map fun x=>(x.k,x.s))=(z0z j d).2/\ds.length<=20*j/\(∀i,j<=i->i<3->(d'.g i).left<=0)/\zCa w.heap.size d'
theorem zBl(d:Dsk){k:Nat}(x:Int)(hk:k<3)(j:Nat)(_:j<952):(d.put k {d.g k with left:=x}).cell j=if j=k*317+316 then A G x else d.cell j:=by
 rw[z4p d _ hk]
 by_cases c:k*317<=j/\j<k*317+317
 ·rw[if_pos c]
  obtain⟨i,rfl⟩: ∃i,j=k*317+i:=⟨j-k*317,by omega⟩;rw[Nat.add_sub_cancel_left,z1w d hk kO];unfold z17;dsimp only
  by_cases c1:i<154
  ·rw[if_pos c1,if_pos c1,if_neg (show¬k*317+i=k*317+316 by omega)]
  rw[if_neg c1,if_neg c1]
  by_cases c2:i<314
  ·rw[if_pos c2,if_pos c2,if_neg (show¬k*317+i=k*317+316 by omega)]
  rw[if_neg c2,if_neg c2]
  by_cases c3:i=314
  ·rw[if_pos c3,if_pos c3,if_neg (show¬k*317+i=k*317+316 by omega)]
  rw[if_neg c3,if_neg c3]
  by_cases c4:i=315
  ·rw[if_pos c4,if_pos c4,if_neg (show¬k*317+i=k*317+316 by omega)]
  ·rw[if_neg c4,if_pos (show k*317+i=k*317+316 by omega)]
 rw[if_neg c,if_neg (show¬j=k*317+316 by omega)]
theorem z61{w:World}{B k:Nat}{d:Dsk}(hD:z0d w B d)(hk:k<3):w.cell? ⟨B,k*317+316,none⟩=some (A G (d.g k).left):=hD.gate hk kD
theorem zA2{w:World}{B k:Nat}{d:Dsk}(hD:z0d w B d)(hk:k<3):w.cell? ⟨B,k*317+315,none⟩=some (A G (d.g k).may):=hD.gate hk kD
theorem zDb{w:World}{B k:Nat}{d:Dsk}(hD:z0d w B d)(hk:k<3):w.cell? ⟨B,k*317+314,none⟩=some (A G ((d.g k).evs.length:Int)):=hD.gate hk kD
theorem DOk.left{w w':World}{B k:Nat}{d:Dsk}{M x:Int}(h:DOk w B d M)(hk:k<3)(h0: -1601<=x)(h1:x<=2000)(hkp:Kept B w w')(hD:z0d w' B (d.put k {d.g k with left:=x})):DOk w' B (d.put k {d.g k with left:=x}) M:=by
 refine⟨hD,?_,?_,?_,?_,?_,?_,?_,?_,?_,?_,h.ran0,h.ran1⟩<;>intro j hj<;>rw[z3t]<;>split
 ·exact fun p hp=>(h.ps k hk p hp).kept hkp
 ·exact fun p hp=>(h.ps j hj p hp).kept hkp
 ·exact h.few k hk
 ·exact h.few j hj
 ·exact h.evs k hk
 ·exact h.evs j hj
 ·exact h.told k hk
 ·exact h.told j hj
 ·exact h.may0 k hk
 ·exact h.may0 j hj
 ·exact h.may1 k hk
 ·exact h.may1 j hj
 ·exact h0
 ·exact h.left0 j hj
 ·exact h1
 ·exact h.left1 j hj
 ·exact h.last0 k hk
 ·exact h.last0 j hj
 ·exact h.last1 k hk
 exact h.last1 j hj
theorem zB5(k:Nat): ∀(f:Nat)(d:Dsk)(l:List Sd),((d.g k).evs=[]\/(d.g k).left<=0)->z2b k f d l=(d,l)
 |0,d,l,_=>rfl
 |f+1,d,l,h=>by
  rw[z2b]
  cases he:(d.g k).evs with
  |nil=>rfl
  |cons T rest=>
   dsimp only;rw[if_neg];rcases h with h|h
   ·rw[he]at h;cases h
   ·omega
theorem z4m(k:Nat): ∀(f:Nat)(d:Dsk)(l:List Sd)(i:Nat),i≠k->(z2b k f d l).1.g i=d.g i
 |0,d,l,i,_=>rfl
 |f+1,d,l,i,hi=>by
  rw[z2b]
  cases he:(d.g k).evs with
  |nil=>rfl
  |cons T rest=>
   dsimp only
   by_cases c:0<(d.g k).left
   ·rw[if_pos c,z4m k f _ _ i hi]
    exact if_neg hi
   ·rw[if_neg c]
theorem DOk.mono{w:World}{B:Nat}{d:Dsk}{M M':Int}(h:DOk w B d M)(hm:M<=M'):DOk w B d M':=⟨h.at_,h.ps,h.few,h.evs,h.told,h.may0,h.may1,h.left0,h.left1,h.last0,fun k hk=>Int.le_trans (h.last1 k hk) hm,h.ran0,Int.le_trans h.ran1 hm⟩
theorem zAe{wr wb:World}{B g base:Nat}{D:Dsk}{cs:Array Value}{vo:Value}{n:Nat}{xs:List Value}(hk:Kept B wr wb)(hg:wr.heap.size<=g)(hB:B<wr.heap.size)(hz:wb.heap[g]?=some (cT #[A G 0,A G 0,.slice none 0 0,A G 0] 93 (0,0)))(hd:z0d wb B D)(ho:wb.ownsRow base 2 1 vo n xs)(hb:wr.heap.size<=base)(hne:vo.ownBlock=some g->False):
  Kept B wr (wb.setRow g cs)/\(wb.setRow g cs).heap[g]?=some (cT cs 93 (0,0))/\z0d (wb.setRow g cs) B D/\(wb.setRow g cs).ownsRow wr.heap.size 2 1 vo n xs:=
 ⟨⟨hk.os,hk.tape,hk.output,by simpa[World.setRow]using hk.size,fun i hi hx=>(setRow_other wb _ _ _ kO).trans (hk.block i hi hx)⟩,setRow_heap wb g _ cs _ _ hz,FnAt.block hd (setRow_other wb g B cs kO),z58 ho hb hne⟩
theorem zDt{w:World}{b:Nat}{e:TypeId}{z:Nat}{vo:Value}{n:Nat}{xs:List Value}{a c q:Int}(h:w.ownsRow b e z vo n xs):(#[A G a,A G c,vo,A G q]:Array Value).all (·.oneCell')=true:=by
 rcases rowShape h with⟨rfl, -⟩|⟨g,cap,rfl⟩<;>kernel_rfl
theorem z8k{o:Oper}{u:Act}{x y:Operand}{W:World}{g:Nat}{cs:Array Value}(hg:W.heap[g]?=some (cT #[A G 0,A G 0,.slice none 0 0,A G 0] 93 (0,0)))(h1:cs.all (·.oneCell')=true)(ho:o.op= .store 93 x y)(hx:u.eval x= pT (some ⟨g,0,none⟩))(hy:u.eval y= .agg cs)(hs:cs.size=4):(execOp u.eval o).run tP W= .ok .skip (W.setRow g cs):=by
 have hl:=run_storeVar_row (P:=tP) W g 93 93 _ cs hg (by rw[Tryz.infoSaid,hs]) (by rw[hs];rfl) h1;unfold execOp;simp only[ho,hx,hy,Instr.storeAt,Instr.sureAddr,Sem.run_bind,Sem.run_pure,Result.andThen_ok,hl]
theorem zKd(d:Dsk)(x:Int)(j:Nat)(_:j<952):({d with ran:=x}:Dsk).cell j=if j=951 then A G x else d.cell j:=by
 unfold Dsk.cell;dsimp only
 by_cases h:j<951
 ·rw[if_pos h,if_pos h,if_neg kO]
 rw[if_neg h,if_pos kO]
theorem z4y(w:World)(cs:Array Value)(t:TypeId): ∀(j:Nat) u,cs.toList[j]?=some u->(w.alloc (cT cs t)).cell? ((⟨w.heap.size,0,none⟩:Addr).add j)=some u:=by
 intro j u hu;rw[Addr.add_mid,Nat.zero_add,cell_of_row _ w.heap.size j cs t (0,0) (heap_alloc_new w _)];simpa using hu
theorem Tryz.infoDn:(Tryz.prog.info? 95).map (fun i=>(i.zero,i.size,i.bytes))=some (some (.agg #[A G 0,A G 0,A G 0,.slice none 0 0,A G 0]),5,56):=kR
theorem zR9(B:Nat)(d:Dsk)(M:Int)(hM0:0<=M)(hM:M<=900000)(w:World)(HD:Hid (DOk w B d M))(HZ:Hid (∀k,k<3->(d.g k).left<=0)):
  Calls tP 24 #[pT (some ⟨B,0,none⟩)] w fun e w'=> ∃vd ds,e= rT vd/\Kept B w w'/\DOk w' B (z0z 3 d).1 (M+60)/\DnAt w' w.heap.size vd ds/\(ds.map fun x=>(x.k,x.s))=(z0z 3 d).2/\ds.length<=60:=by
 have hlt:=HD.out.at_.lt;have HO:Hid (zZp w B d M (.slice none 0 0) w 0):=⟨d,[],rfl,by simpa using HD.out,z12 _ _,⟨World.ownsRow_nil _ _ _ _,fun x hx=>absurd hx List.not_mem_nil⟩,rfl,Nat.zero_le _,fun i _ hi=>HZ.out i hi,HD.out.low⟩;go_enter Tryz.func24,Tryz.ntmps24;go_upto_region 3 with fail
 go_loopw [3,7] (fun vd jv wr=> ∃j:Nat,jv=A G j/\j<=3/\Hid (zZp w B d M vd wr j)) (fun _ jv _=>3-(intOf jv).toNat)
 case atStart=>exact⟨0,rfl,by decide,HO.out⟩
 case round=>
  obtain⟨k,rfl,hk3,H⟩:=hrel;clear HO;have hk0:(0:Int)<=(k:Int):=kO
  by_cases hk:k<3
  ·have hk':(k:Int)<3:=kO
   obtain⟨dj,ds0,HRT,hdo,hkp,hdn,hmap,hlen,hz,hlow⟩:=H.out.ex;have HRT:Hid ((z0z k d).1=dj):=HRT;have HMAP:Hid ((ds0.map fun x=>(x.k,x.s))=(z0z k d).2):=hmap;clear hmap;have l0:=hz k (Nat.le_refl _) hk;have l1:=hdo.left0 k hk;have m0:=hdo.may0 k hk;have m1:=hdo.may1 k hk;obtain⟨lf,HLF⟩: ∃lf,Hid ((dj.g k).left=lf):=⟨_,rfl⟩;obtain⟨my,HMY⟩: ∃my,Hid ((dj.g k).may=my):=⟨_,rfl⟩;rw[HLF.out]at l0 l1;rw[HMY.out]at m0 m1;have e6:IntKind.i64.wrap (lf+my)=lf+my:=by rw[IntWalk.i64_left,z08 kO kO]
   have hK:Blk wr [(B,cT (Array.ofFn (n:=952) fun i=>Dsk.cell dj i.1) 72 (0,0))] wr:=(Blk.nil (bF _ _)).cons hdo.at_;have HDO:Hid (DOk wr B dj (M+20*(k:Int))):=hdo;have HDN:Hid (DnAt wr w.heap.size u3 ds0):=hdn;clear hdo hdn;go_upto_region 6 with fail
   refine z0o (C:=Blk wr [(B,cT (Array.ofFn (n:=952) fun i=>Dsk.cell dj i.1) 72 (0,0))]) (n0:=wr.heap.size) 11 [] [] kR kR (fun d _ _ _ _ h=>by cases d<;>exact h) (Blk.stable _ _) (fun w2 h=>h.1.size) hK.drew trivial ?_;simp only[lV,lX,lY,lZ,lJ,Nat.reduceAdd]
   repeat(first
    |(refine z0q kI ?_;simp only[pS])
    |(refine z0c kI (v:=?_) ?_ ?_;rotate_left;(intro w2 hC;have hDk:z0d _ B dj:=(hC.2 _ mcS);have c1:World.cell? _ ⟨B,k*317+316,none⟩=some (A G lf):=(by have h:=z61 hDk hk;rw[HLF.out]at h;exact h);have c2:World.cell? _ ⟨B,k*317+315,none⟩=some (A G my):=(by have h:=zA2 hDk hk;rw[HMY.out]at h;exact h);go_simp;try with_reducible rfl);simp only[pS]))
   refine z11 ?_;intro w4 hC hB4;have hDk:z0d _ B dj:=(hC.2 _ mcS);have c1:World.cell? _ ⟨B,k*317+316,none⟩=some (A G lf):=(by have h:=z61 hDk hk;rw[HLF.out]at h;exact h);have c2:World.cell? _ ⟨B,k*317+315,none⟩=some (A G my):=(by have h:=zA2 hDk hk;rw[HMY.out]at h;exact h);have cf:=FnAt.frozen hDk (k*317+316);go_upto_region 7 with fail
   have hkp5:Kept B w (w4.setCell ⟨B,k*317+316,none⟩ (A G (lf+my))):=z0v (z1x hkp hC.1) _ _;have hk45:Kept B wr (w4.setCell ⟨B,k*317+316,none⟩ (A G (lf+my))):=z0v (z09 hC.1 B) _ _
   have hd5:z0d (w4.setCell ⟨B,k*317+316,none⟩ (A G (lf+my))) B (z41 dj k):=by
    refine FnAt.ext (FnAt.set hDk (k*317+316) _) fun j hj=>?_;unfold z41;rw[HLF.out,HMY.out];exact zBl dj (lf+my) hk j hj
   have HI:Hid (InSt w B k dj (M+20*k) ds0 u3 (w4.setCell ⟨B,k*317+316,none⟩ (A G (lf+my))) 20):=by
    refine⟨z41 dj k,[],?_,?_,rfl,hkp5,?_,fun x hx=>absurd hx List.not_mem_nil,by decide,hlow.left hk⟩
    ·have h:=HDO.out.left (x:=(dj.g k).left+(dj.g k).may) hk (by rw[HLF.out,HMY.out];omega) (by rw[HLF.out,HMY.out];omega) hk45 hd5
     rw[show M+20*(k:Int)+20-((20:Nat):Int)=M+20*(k:Int)by omega];exact h
    ·have:=HDO.out.evs k hk
     show((z41 dj k).g k).evs.length<=20;unfold z41;rw[z3t,if_pos rfl];exact this
    ·rw[List.append_nil];exact HDN.out.kept hk45 hlt
   clear hC hDk c1 c2 cf hB4 hK hkp hkp5 hk45 hd5 HDO HDN e6;generalize w4.setCell ⟨B,k*317+316,none⟩ (A G (lf+my))=w5 at HI⊢;go_loopw [3] (fun vd wi=> ∃f:Nat,f<=20/\Hid (InSt w B k dj (M+20*k) ds0 vd wi f)) (fun _ wi=>(intOf ((wi.cell? ⟨B,k*317+314,none⟩).getD undef)).toNat)
   case atStart=>exact⟨20,Nat.le_refl _,HI.out⟩
   case round=>
    obtain⟨f,hf20,HIN⟩:=hrel;clear HI;obtain⟨d',ds,hdo,hev,hgo,hkp,hdn,hks,hdl,hlow'⟩:=HIN.out.ex;have cW:=zDb hdo.at_ hk;have cL:=z61 hdo.at_ hk;obtain⟨lv,HLV⟩: ∃lv,Hid ((d'.g k).left=lv):=⟨_,rfl⟩;rw[HLV.out]at cL;have HGO:Hid (z2b k 20 (z41 dj k) []=z2b k f d' (ds.map Dn.s)):=hgo;clear hgo
    by_cases hst:(d'.g k).evs=[]\/lv<=0
    ·have HGS:Hid (z2b k 20 (z41 dj k) []=(d',ds.map Dn.s)):=by have h:=zB5 k f d' (ds.map Dn.s) (by rw[HLV.out];exact hst);rw[HGO.out];exact h
     have hol: ∀i,i≠k->d'.g i=dj.g i:=fun i hi=>by
      have h:=z4m k 20 (z41 dj k) [] i hi;rw[HGS.out]at h;rw[h];show(dj.put k _).g i=_;rw[z3t,if_neg hi]
     have HDO:Hid (DOk wr B d' (M+20*((k+1:Nat):Int))):=hdo.mono kO;have HDN:Hid (DnAt wr w.heap.size u3 (ds0++ds)):=hdn;have hlv0: -1601<=lv:=by have h:=hdo.left0 k hk;rw[HLV.out]at h;exact h
     have HMM:Hid (((ds0++ds).map fun x=>(x.k,x.s))=(z0z (k+1) d).2):=by
      rw[z0z,List.map_append,HMAP.out,HRT.out];unfold z2a;rw[HGS.out];dsimp only;rw[List.map_map];congr 1;exact List.map_congr_left fun x hx=>by rw[hks x hx];rfl
     have hRR:(z0z (k+1) d).1=z43 d' k:=by
      rw[z0z,HRT.out];unfold z2a;rw[HGS.out]
     have HRR:Hid ((z0z (k+1) d).1=z43 d' k):=hRR;have hLL:(ds0++ds).length<=20*(k+1):=by rw[List.length_append];omega
     have HLL:Hid ((ds0++ds).length<=20*(k+1)):=hLL;clear hRR hLL;have hfr:=FnAt.frozen hdo.at_ (k*317+316);have hdk:=hdo.at_;clear hdo hdn HGO
     by_cases hev0:(d'.g k).evs=[]
     ·have h0:(d'.g k).evs.length=0:=by rw[hev0];rfl
      rw[h0]at cW;have cW:wr.cell? ⟨B,k*317+314,none⟩=some (A G 0):=cW;have HEV:Hid ((d'.g k).evs.length=0):=h0;clear hev0 h0 hst;go_upto_region 14 with fail
      have hPO:z43 d' k=d'.put k {d'.g k with left:=min lv 0}:=by unfold z43;rw[if_pos HEV.out,HLV.out]
      have HPO:Hid (z43 d' k=d'.put k {d'.g k with left:=min lv 0}):=hPO;have hk5:=z0v hkp (k*317+316) (A G (min lv 0));have hkx:Kept B wr (wr.setCell ⟨B,k*317+316,none⟩ (A G (min lv 0))):=z0v (z12 B wr) _ _;have hd5:z0d (wr.setCell ⟨B,k*317+316,none⟩ (A G (min lv 0))) B (d'.put k {d'.g k with left:=min lv 0}):=FnAt.ext (FnAt.set hdk (k*317+316) _) fun j hj=>zBl d' _ hk j hj;have HDO5:=HDO.out.left (x:=min lv 0) hk kO kO hkx hd5;have HDN5:=HDN.out.kept hkx hlt
      have HX:Hid (zZp w B d M u3 (wr.setCell ⟨B,k*317+316,none⟩ (A G (min lv 0))) (k+1)):=by
       refine⟨_,ds0++ds,by rw[HRR.out,HPO.out],HDO5,hk5,HDN5,HMM.out,HLL.out,fun i h1 h2=>?_,hlow'.left hk⟩;rw[z3t,if_neg kO,hol i kO];exact hz i kO h2
      clear hPO hk5 hkx hd5 HDO5 HDN5;go_wp2_with fail;go_roundw
      case rel=>exact⟨k+1,by go_num,by omega,HX.out⟩
      case measure=>simp[intOf];omega
     ·have hlv1:lv<=0:=hst.resolve_left hev0
      obtain⟨m,HMm⟩: ∃m,Hid ((d'.g k).evs.length=m+1):=⟨(d'.g k).evs.length-1,by have:(d'.g k).evs.length≠0:=fun h=>hev0 (List.eq_nil_of_length_eq_zero h);show _=_;omega⟩;rw[HMm.out]at cW;have cW:wr.cell? ⟨B,k*317+314,none⟩=some (A G ((m:Int)+1)):=cW;have t1:decide (0<(m:Int)+1)=true:=decide_eq_true kO;have t2:decide (0<lv)=false:=decide_eq_false kO;have t3:((m:Int)+1==0)=false:=kZ;have hPO:z43 d' k=d':=by unfold z43;rw[if_neg (by rw[HMm.out];omega)]
      have HPO:Hid (z43 d' k=d'):=hPO;clear hPO;clear hev0 hst;go_wp2_with fail;go_roundw
      case rel=>
       refine⟨k+1,by go_num,by omega,⟨d',ds0++ds,by rw[HRR.out,HPO.out],HDO.out,hkp,HDN.out,HMM.out,HLL.out,fun i h1 h2=>?_,hlow'⟩⟩;rw[hol i kO];exact hz i kO h2
      case measure=>simp[intOf];omega
    ·obtain⟨T,rest,he⟩: ∃T rest,(d'.g k).evs=T::rest:=by
      cases h:(d'.g k).evs with
      |nil=>exact absurd (Or.inl h) hst
      |cons T r=>exact⟨T,r,rfl⟩
     have hlv:0<lv:=by have: ¬lv<=0:=fun h=>hst (Or.inr h);omega
     have HE:Hid ((d'.g k).evs=T::rest):=he;obtain⟨m,HMm⟩: ∃m,Hid (rest.length=m):=⟨_,rfl⟩;have hml:(d'.g k).evs.length=m+1:=by rw[zO8 he,HMm.out]
     rw[hml]at cW hev;clear he hst;have hm20:m<20:=kO;have cW:wr.cell? ⟨B,k*317+314,none⟩=some (A G ((m:Int)+1)):=cW;have t1:decide (0<(m:Int)+1)=true:=decide_eq_true kO;have t2:decide (0<lv)=true:=by simpa using hlv
     have hlw:=hdo.at_.lt;obtain⟨rn,HRN⟩: ∃rn,Hid (d'.ran=rn):=⟨_,rfl⟩;have hS0:z4i B rn wr:=by have h:=zWq hdo.at_;rw[HRN.out]at h;exact h
     have HDO:Hid (DOk wr B d' (M+20*k+20-f)):=hdo;have HDN:Hid (DnAt wr w.heap.size u3 (ds0++ds)):=hdn;have hdk:=hdo.at_;clear hdo hdn;go_upto_region 8 with fail
     have HCW:Hid (wr.cell? ⟨B,k*317+314,none⟩=some (A G ((m:Int)+1))):=cW;clear cW cL t1 t2;have HT:Hid (∀i,i<8->In64 (T i)):=HDO.out.told k hk T (by rw[HE.out];exact mcS);have HTI:Hid (In64 rn):=by have h0:=HDO.out.ran0;have h1:=HDO.out.ran1;rw[HRN.out]at h0 h1;exact⟨by omega,by omega⟩
     have hnx: ∀W:World,z0d W B d'->Calls tP 38 #[pT (some ⟨B,k*317,none⟩)] W fun e w'=>e= rT (.agg (z06 T))/\Kept B W w'/\z0d w' B (d'.put k {d'.g k with evs:=rest}):=fun W hW=>zV7 B k m hk d' T rest W hW HE.out HMm.out hm20 HDO.out.one
     have hru: ∀W:World,Kept B wr W->z0d W B (d'.put k {d'.g k with evs:=rest})->Calls tP 26 #[pT (some ⟨B,k*317,none⟩),.agg (z06 T),A G rn] W fun e w'=> ∃v,e= rT v/\ ∃vo,v= .agg #[A G (z05 T rn (d'.g k).ps sd0).1.bf,A G (z05 T rn (d'.g k).ps sd0).1.num,vo,A G (z05 T rn (d'.g k).ps sd0).1.steps]/\Kept B W w'/\z0d w' B (d'.put k {d'.g k with ps:=(z05 T rn (d'.g k).ps sd0).2,evs:=rest})/\w'.ownsRow (W.heap.size+1+1+1) 2 1 vo (z05 T rn (d'.g k).ps sd0).1.out.length ((z05 T rn (d'.g k).ps sd0).1.out.map (Value.int .i64)):=by
      intro W hkW hW;have hps:((d'.put k {d'.g k with evs:=rest}).g k).ps=(d'.g k).ps:=by rw[z3t,if_pos rfl]
      have h:=zR8 B k hk (d'.put k {d'.g k with evs:=rest}) T rn W hW (by rw[hps];exact HDO.out.few k hk) (by intro p hp;rw[hps]at hp;exact(HDO.out.ps k hk p hp).kept hkW) HT HTI;rw[hps,zQe]at h;exact h.mono fun e w' ⟨vo,h1,h2,h3,h4⟩=>⟨_,h1,vo,rfl,h2,by rw[zCn]at h3;exact h3,h4⟩
     go_cut [6] (fun s6 wx=>Hid (∃g vo,s6= pT (some ⟨g,0,none⟩)/\Kept B wr wx/\wr.heap.size<=g/\wx.heap[g]?=some (cT #[A G (z05 T rn (d'.g k).ps sd0).1.bf,A G (z05 T rn (d'.g k).ps sd0).1.num,vo,A G (z05 T rn (d'.g k).ps sd0).1.steps] 93 (0,0))/\z0d wx B (d'.put k {d'.g k with ps:=(z05 T rn (d'.g k).ps sd0).2,evs:=rest})/\wx.ownsRow wr.heap.size 2 1 vo (z05 T rn (d'.g k).ps sd0).1.out.length ((z05 T rn (d'.g k).ps sd0).1.out.map (Value.int .i64))))
     case first=>
      have hS:z4i B rn wr.drew:=hS0;refine wp_region_held_drew (S:=z4i B rn) kR hS fun _=>?_;change wpAnyH _ _ _ _ _ 12 (Array.replicate 12 false) _ _
      refine tkH (i:=0) (some 38) (pT (some ⟨B,k*317,none⟩)) rfl rfl (fun _ _=>kG) hS ?_;simp only[pS];refine tkH (i:=1) (some 39) (pT (some ⟨B,k*317,none⟩)) rfl rfl (fun _ _=>kG) hS ?_;simp only[pS];refine tkH (i:=2) (some 40) (pT (some ⟨B,k*317,none⟩)) rfl rfl (fun _ _=>kG) hS ?_;simp only[pS];refine tkH (i:=3) (some 41) (pT (some ⟨B,k*317,none⟩)) rfl rfl (fun _ _=>kG) hS ?_;simp only[pS];refine tkH (i:=5) (some 43) (pT (some ⟨B,0,none⟩)) rfl rfl (fun _ _=>kG) hS ?_;simp only[pS];refine tkH (i:=6) (some 44) (pT (some ⟨B,0,none⟩)) rfl rfl (fun _ _=>kG) hS ?_;simp only[pS];refine tkH (i:=7) (some 45) (pT (some ⟨B,951,none⟩)) rfl rfl (fun _ _=>kG) hS ?_;simp only[pS];refine tkH (i:=8) (some 46) (A G rn) rfl rfl (fun V hV=>by have c2:V.cell? ⟨B,951,none⟩=some (A G rn):=hV;go_simp;try rfl) hS ?_;simp only[pS];have hk0:Kept B wr wr.drew:=z50 (z12 B wr);have hd0:z0d wr.drew B d':=hdk;have hlw0:B<wr.drew.heap.size:=hlw;have hsz0:wr.heap.size<=wr.drew.heap.size:=Nat.le_refl _;generalize wr.drew=w0 at hk0 hd0 hlw0 hsz0 hS⊢;refine wpAnyH_ready (rs:=[4,10]) kR kS ?_;refine z3h (some 42) 38 #[pT (some ⟨B,k*317,none⟩)] rfl rfl kI kG ?_ (z24 (some 6) (pT (some ⟨w0.heap.size,0,none⟩)) (w0.alloc (cT #[A G 0,A G 0,.slice none 0 0,A G 0] 93)) rfl rfl kI kG (z4i.later hS hlw0 ((bF _ _).alloc (Nat.le_refl _) _)) ?_ AllReadyH.nil)
      ·refine(hnx w0 hd0).mono ?_
       rintro e wa ⟨rfl,hkwa,hdwa⟩;have hSwa:z4i B rn wa:=z57 HRN.out hdwa;have hkwwa:=z29 hk0 hkwa;refine⟨_,rfl,hSwa,?_⟩;simp only[pS];refine wpAnyH_ready (rs:=[9,10]) kR kS ?_;refine z3h (some 47) 26 #[pT (some ⟨B,k*317,none⟩),.agg (z06 T),A G rn] rfl rfl kI kG ?_ (z24 (some 6) (pT (some ⟨wa.heap.size,0,none⟩)) (wa.alloc (cT #[A G 0,A G 0,.slice none 0 0,A G 0] 93)) rfl rfl kI kG (z4i.later hSwa hdwa.lt ((bF _ _).alloc (Nat.le_refl _) _)) ?_ AllReadyH.nil)
       ·refine(hru wa hkwwa hdwa).mono ?_
        rintro e wb ⟨v,rfl,vo,rfl,hkwb,hdwb,howb⟩;have hSwb:z4i B rn wb:=z57 HRN.out hdwb;have hkwwb:=z29 hkwwa hkwb;refine⟨_,rfl,hSwb,?_⟩;simp only[pS];refine wpAnyH_ready (rs:=[10]) kR kS ?_;refine z24 (some 6) (pT (some ⟨wb.heap.size,0,none⟩)) (wb.alloc (cT #[A G 0,A G 0,.slice none 0 0,A G 0] 93)) rfl rfl kI kG (z4i.later hSwb hdwb.lt ((bF _ _).alloc (Nat.le_refl _) _)) ?_ AllReadyH.nil;simp only[pS];have hzc:(wb.alloc (cT #[A G 0,A G 0,.slice none 0 0,A G 0] 93)).heap[wb.heap.size]?=some (cT #[A G 0,A G 0,.slice none 0 0,A G 0] 93 (0,0)):=heap_alloc_new wb _;have hkc:=z1j hkwwb (cT #[A G 0,A G 0,.slice none 0 0,A G 0] 93);have hdc:=FnAt.block hdwb (heap_alloc_old wb (cT #[A G 0,A G 0,.slice none 0 0,A G 0] 93) hdwb.lt);have hlc:wr.heap.size<=wb.heap.size:=hkwwb.size;have hxc:(wb.alloc (cT #[A G 0,A G 0,.slice none 0 0,A G 0] 93)).heap.size=wb.heap.size+1:=by simp
        have hD:=zAe (cs:=#[A G (z05 T rn (d'.g k).ps sd0).1.bf,A G (z05 T rn (d'.g k).ps sd0).1.num,vo,A G (z05 T rn (d'.g k).ps sd0).1.steps]) hkc hlc hlw hzc hdc (howb.alloc (cT #[A G 0,A G 0,.slice none 0 0,A G 0] 93)) (by have:=hkwwa.size;omega) (fun e=>by have:=(World.ownsRow.lt howb _ e).2;omega);refine wpAnyH_ready (rs:=[11]) kR kS ?_;refine z3b ((wb.alloc (cT #[A G 0,A G 0,.slice none 0 0,A G 0] 93)).setRow wb.heap.size #[A G (z05 T rn (d'.g k).ps sd0).1.bf,A G (z05 T rn (d'.g k).ps sd0).1.num,vo,A G (z05 T rn (d'.g k).ps sd0).1.steps]) rfl rfl kI (z8k (g:=wb.heap.size) hzc (zDt (howb.alloc (cT #[A G 0,A G 0,.slice none 0 0,A G 0] 93))) rfl rfl rfl rfl) (z4i.row (z57 HRN.out hdc) kO _) ?_ AllReadyH.nil;simp only[pS];refine wpAnyH_done kR ?_ _;go_wp2_with fail;go_meet;exact⟨wb.heap.size,vo,rfl,hD.1,hlc,hD.2.1,hD.2.2.1,hD.2.2.2⟩
       ·simp only[pS]
        have hzc:(wa.alloc (cT #[A G 0,A G 0,.slice none 0 0,A G 0] 93)).heap[wa.heap.size]?=some (cT #[A G 0,A G 0,.slice none 0 0,A G 0] 93 (0,0)):=heap_alloc_new wa _;have hkc:=z1j hkwwa (cT #[A G 0,A G 0,.slice none 0 0,A G 0] 93);have hdc:=FnAt.block hdwa (heap_alloc_old wa (cT #[A G 0,A G 0,.slice none 0 0,A G 0] 93) hdwa.lt);have hlc:wr.heap.size<=wa.heap.size:=hkwwa.size;have hxc:(wa.alloc (cT #[A G 0,A G 0,.slice none 0 0,A G 0] 93)).heap.size=wa.heap.size+1:=by simp
        refine wpAnyH_ready (rs:=[9]) kR kS ?_;refine z3h (some 47) 26 #[pT (some ⟨B,k*317,none⟩),.agg (z06 T),A G rn] rfl rfl kI kG ?_ AllReadyH.nil;refine(hru (wa.alloc (cT #[A G 0,A G 0,.slice none 0 0,A G 0] 93)) hkc hdc).mono ?_;rintro e wb ⟨v,rfl,vo,rfl,hkwb,hdwb,howb⟩;have hSwb:z4i B rn wb:=z57 HRN.out hdwb;have hkwwb:=z29 hkc hkwb;refine⟨_,rfl,hSwb,?_⟩;simp only[pS];have hzb:=(hkwb.block wa.heap.size kO (fun e=>by have:=Option.some.inj e;have:=hdwa.lt;omega)).trans hzc;have hD:=zAe (cs:=#[A G (z05 T rn (d'.g k).ps sd0).1.bf,A G (z05 T rn (d'.g k).ps sd0).1.num,vo,A G (z05 T rn (d'.g k).ps sd0).1.steps]) hkwwb hlc hlw hzb hdwb howb kO (fun e=>by have:=(World.ownsRow.lt howb _ e).1;omega);refine wpAnyH_ready (rs:=[11]) kR kS ?_;refine z3b (wb.setRow wa.heap.size #[A G (z05 T rn (d'.g k).ps sd0).1.bf,A G (z05 T rn (d'.g k).ps sd0).1.num,vo,A G (z05 T rn (d'.g k).ps sd0).1.steps]) rfl rfl kI (z8k (g:=wa.heap.size) hzb (zDt howb) rfl rfl rfl rfl) (z4i.row (z57 HRN.out hdwb) kO _) ?_ AllReadyH.nil;simp only[pS];refine wpAnyH_done kR ?_ _;go_wp2_with fail;go_meet;exact⟨wa.heap.size,vo,rfl,hD.1,hlc,hD.2.1,hD.2.2.1,hD.2.2.2⟩
      ·simp only[pS]
       have hzc:(w0.alloc (cT #[A G 0,A G 0,.slice none 0 0,A G 0] 93)).heap[w0.heap.size]?=some (cT #[A G 0,A G 0,.slice none 0 0,A G 0] 93 (0,0)):=heap_alloc_new w0 _;have hkc:=z1j hk0 (cT #[A G 0,A G 0,.slice none 0 0,A G 0] 93);have hdc:=FnAt.block hd0 (heap_alloc_old w0 (cT #[A G 0,A G 0,.slice none 0 0,A G 0] 93) hd0.lt);have hlc:wr.heap.size<=w0.heap.size:=hk0.size;have hxc:(w0.alloc (cT #[A G 0,A G 0,.slice none 0 0,A G 0] 93)).heap.size=w0.heap.size+1:=by simp
       refine wpAnyH_ready (rs:=[4]) kR kS ?_;refine z3h (some 42) 38 #[pT (some ⟨B,k*317,none⟩)] rfl rfl kI kG ?_ AllReadyH.nil;refine(hnx (w0.alloc (cT #[A G 0,A G 0,.slice none 0 0,A G 0] 93)) hdc).mono ?_;rintro e wa ⟨rfl,hkwa,hdwa⟩;have hSwa:z4i B rn wa:=z57 HRN.out hdwa;have hkwwa:=z29 hkc hkwa;refine⟨_,rfl,hSwa,?_⟩;simp only[pS];have hza:=(hkwa.block w0.heap.size kO (fun e=>by have:=Option.some.inj e;omega)).trans hzc;have hsa:w0.heap.size<wa.heap.size:=(Array.getElem?_eq_some_iff.1 hza).1;refine wpAnyH_ready (rs:=[9]) kR kS ?_;refine z3h (some 47) 26 #[pT (some ⟨B,k*317,none⟩),.agg (z06 T),A G rn] rfl rfl kI kG ?_ AllReadyH.nil;refine(hru wa hkwwa hdwa).mono ?_;rintro e wb ⟨v,rfl,vo,rfl,hkwb,hdwb,howb⟩;have hSwb:z4i B rn wb:=z57 HRN.out hdwb;have hkwwb:=z29 hkwwa hkwb;refine⟨_,rfl,hSwb,?_⟩;simp only[pS];have hzb:=(hkwb.block w0.heap.size hsa (fun e=>by have:=Option.some.inj e;omega)).trans hza;have hD:=zAe (cs:=#[A G (z05 T rn (d'.g k).ps sd0).1.bf,A G (z05 T rn (d'.g k).ps sd0).1.num,vo,A G (z05 T rn (d'.g k).ps sd0).1.steps]) hkwwb hlc hlw hzb hdwb howb kO (fun e=>by have:=(World.ownsRow.lt howb _ e).1;omega);refine wpAnyH_ready (rs:=[11]) kR kS ?_;refine z3b (wb.setRow w0.heap.size #[A G (z05 T rn (d'.g k).ps sd0).1.bf,A G (z05 T rn (d'.g k).ps sd0).1.num,vo,A G (z05 T rn (d'.g k).ps sd0).1.steps]) rfl rfl kI (z8k (g:=w0.heap.size) hzb (zDt howb) rfl rfl rfl rfl) (z4i.row (z57 HRN.out hdwb) kO _) ?_ AllReadyH.nil;simp only[pS];refine wpAnyH_done kR ?_ _;go_wp2_with fail;go_meet;exact⟨w0.heap.size,vo,rfl,hD.1,hlc,hD.2.1,hD.2.2.1,hD.2.2.2⟩
     clear hnx hru hS0 hdk;obtain⟨g,vo,rfl,hkc,hgl,hgr,hdc,hoc⟩:=hcut.out;clear hcut;obtain⟨so,HSO⟩: ∃so,Hid ((z05 T rn (d'.g k).ps sd0).1=so):=⟨_,rfl⟩;rw[HSO.out]at hgr hoc;obtain⟨qa,qc,rfl⟩:=z3d hoc
     have hbd:0<=so.steps/\so.steps<=1600:=by
      obtain⟨-,c2,c3, -, -⟩:=z3m (w:=wr) (B:=B) HT.out HTI.out (d'.g k).ps sd0 (HDO.out.ps k hk);rw[HSO.out]at c2 c3;have:=HDO.out.few k hk;have c2':0<=so.steps:=c2;have c3':so.steps<=0+200*((d'.g k).ps.length:Int):=c3;omega
     have hrb:0<=rn/\rn<=1000000:=by have h0:=HDO.out.ran0;have h1:=HDO.out.ran1;rw[HRN.out]at h0 h1;omega
     have hlb:lv<=2000:=by have h:=HDO.out.left1 k hk;rw[HLV.out]at h;exact h
     have cR:wc.cell? ⟨B,951,none⟩=some (A G rn):=z57 HRN.out hdc;have fR:=FnAt.frozen hdc 951;have e9:IntKind.i64.wrap (rn+1)=rn+1:=by rw[IntWalk.i64_left,z08 kO kO]
     go_upto_region 10 with fail
     clear cR fR;obtain⟨d3,HD3⟩: ∃d3:Dsk,Hid (({(d'.put k {d'.g k with ps:=(z05 T rn (d'.g k).ps sd0).2,evs:=rest})with ran:=rn+1}:Dsk)=d3):=⟨_,rfl⟩;have HL3:Hid ((d3.g k).left=lv):=by rw[<-HD3.out, <-HLV.out];show((d'.put k {d'.g k with ps:=(z05 T rn (d'.g k).ps sd0).2,evs:=rest}).g k).left=(d'.g k).left;rw[z3t,if_pos rfl]
     have hd9:z0d (wc.setCell ⟨B,951,none⟩ (A G (rn+1))) B d3:=by
      rw[<-HD3.out];exact FnAt.ext (FnAt.set hdc 951 _) fun j hj=>zKd (d'.put k {d'.g k with ps:=(z05 T rn (d'.g k).ps sd0).2,evs:=rest}) (rn+1) j hj
     have hk9:=z0v hkc 951 (A G (rn+1));have hg9:=(heap_setCell_other wc ⟨B,951,none⟩ g (A G (rn+1)) (show g≠B by omega)).trans hgr;have ho9:=World.ownsRow.kept hoc (z0v (z12 B wc) 951 (A G (rn+1))) (Or.inr fun e=>by have:=(World.ownsRow.lt hoc _ e).1;omega);clear hdc hkc hgr hoc;generalize wc.setCell ⟨B,951,none⟩ (A G (rn+1))=w9 at hd9 hk9 hg9 ho9⊢;have ea:IntKind.i64.wrap (so.steps+1)=so.steps+1:=by rw[IntWalk.i64_left,z08 kO kO]
     have eb:IntKind.i64.wrap (lv-(so.steps+1))=lv-(so.steps+1):=by rw[IntWalk.i64_left,z08 kO kO]
     have hK9:Blk w9 [(g,cT #[A G so.bf,A G so.num,(.slice qa so.out.length qc),A G so.steps] 93 (0,0)),(B,cT (Array.ofFn (n:=952) fun i=>Dsk.cell d3 i.1) 72 (0,0))] w9:=((Blk.nil (bF _ _)).cons hd9).cons hg9;refine z0o (C:=Blk w9 [(g,cT #[A G so.bf,A G so.num,(.slice qa so.out.length qc),A G so.steps] 93 (0,0)),(B,cT (Array.ofFn (n:=952) fun i=>Dsk.cell d3 i.1) 72 (0,0))]) (n0:=w9.heap.size) 10 [] [] kR kR (fun d _ _ _ _ h=>by cases d<;>exact h) (Blk.stable _ _) (fun w2 h=>h.1.size) hK9.drew trivial ?_;simp only[lV,lX,lY,lZ,lJ,Nat.reduceAdd]
     repeat(first
      |(refine z0q kI ?_;simp only[pS])
      |(refine z0c kI (v:=?_) ?_ ?_;rotate_left;(intro w2 hC;have hDk:z0d _ B d3:=(hC.2 _ (mcO _ mcS));have c1:World.cell? _ ⟨B,k*317+316,none⟩=some (A G lv):=(by have h:=z61 hDk hk;rw[HL3.out]at h;exact h);have c2:World.cell? _ ⟨g,3,none⟩=some (A G so.steps):=(cell_of_row _ _ 3 _ _ _ (hC.2 _ mcS)).trans rfl;go_simp;try with_reducible rfl);simp only[pS]))
     refine z11 ?_;intro w10 hC hB10;have hDk:z0d _ B d3:=(hC.2 _ (mcO _ mcS));have c1:World.cell? _ ⟨B,k*317+316,none⟩=some (A G lv):=(by have h:=z61 hDk hk;rw[HL3.out]at h;exact h);have c2:World.cell? _ ⟨g,3,none⟩=some (A G so.steps):=(cell_of_row _ _ 3 _ _ _ (hC.2 _ mcS)).trans rfl;have cf:=FnAt.frozen hDk (k*317+316);go_upto_region 11 with fail
     have hdE:z0d (w10.setCell ⟨B,k*317+316,none⟩ (A G (lv-(so.steps+1)))) B (evGo d' k T rest).1:=by
      have h:z0d (w10.setCell ⟨B,k*317+316,none⟩ (A G (lv-(so.steps+1)))) B (d3.put k {d3.g k with left:=(lv-(so.steps+1))}):=FnAt.ext (FnAt.set hDk (k*317+316) _) fun j hj=>zBl d3 _ hk j hj
      have e:d3.put k {d3.g k with left:=(lv-(so.steps+1))}=(evGo d' k T rest).1:=by
       rw[<-HD3.out];unfold evGo;rw[HRN.out,HSO.out,HLV.out];unfold Dsk.put;dsimp only;congr 1;funext i
       by_cases c:i=k
       ·rw[if_pos c,if_pos c,if_pos rfl]
       ·rw[if_neg c,if_neg c,if_neg c]
      rw[e]at h;exact h
     have hkE:=z0v (z1x hk9 hC.1) (k*317+316) (A G (lv-(so.steps+1)));have hgE:=(heap_setCell_other w10 ⟨B,k*317+316,none⟩ g (A G (lv-(so.steps+1))) (show g≠B by omega)).trans (hC.2 _ mcS);have hkx:Kept B w9 (w10.setCell ⟨B,k*317+316,none⟩ (A G (lv-(so.steps+1)))):=z0v (z09 hC.1 B) _ _;have hoE:=World.ownsRow.kept ho9 hkx (Or.inr fun e=>by have:=(World.ownsRow.lt ho9 _ e).1;omega);clear hC hDk c1 c2 cf hB10 hK9 hd9 hk9 hg9 ho9 hkx e9 ea eb;generalize w10.setCell ⟨B,k*317+316,none⟩ (A G (lv-(so.steps+1)))=w11 at hdE hkE hgE hoE⊢;have hDN:=HDN.out.kept hkE hlt;go_step
     (refine z00 rfl (u3) w11 kG ?_);simp only[pS]
     (refine z00 rfl (A G (k:Int)) w11 kG ?_);simp only[pS]
     refine wpList_load_row rfl 93 (.tmp 6) rfl g rfl 93 #[A G so.bf,A G so.num,.slice qa so.out.length qc,A G so.steps] (0,0) _ hgE Tryz.underlying93 rfl Tryz.infoSaid ?_;simp only[pS];refine wpList_buildTo rfl 95 #[(0,.tmp 66),(1,.tmp 67)] rfl (some 68) rfl #[A G (k:Int),A G so.bf,A G so.num,.slice qa so.out.length qc,A G so.steps] kR ?_;simp only[pS];obtain⟨i0,hi0,hz0,hz1,hz2⟩:=info_parts Tryz.infoDn;refine wpList_buildSlice rfl 89 95 1 #[(0,.tmp 68)] rfl #[A G (k:Int),A G so.bf,A G so.num,.slice qa so.out.length qc,A G so.steps] i0 _ Tryz.underlying89 hi0 hz0 (by rw[hz1];omega) (by rw[hz1];omega) (by rw[hz1];kernel_rfl) ?_;simp only[pS];have hDa:DnAt (w11.alloc (cT #[A G (k:Int),A G so.bf,A G so.num,.slice qa so.out.length qc,A G so.steps] 95)) w.heap.size u3 (ds0++ds):=⟨hDN.1.alloc _,fun x hx=>(hDN.2 x hx).alloc _⟩;refine wpList_append_own (w11.alloc (cT #[A G (k:Int),A G so.bf,A G so.num,.slice qa so.out.length qc,A G so.steps] 95)) rfl (.tmp 65) (.tmp 69) 89 rfl w.heap.size 95 i0 _ 5 56 Tryz.underlying89 hi0 hz0 hz1 hz2 rfl kD _ _ _ rfl hDa.1 ⟨w11.heap.size,0,none⟩ 1 1 #[A G (k:Int),A G so.bf,A G so.num,.slice qa so.out.length qc,A G so.steps].toList rfl rfl (z4y w11 #[A G (k:Int),A G so.bf,A G so.num,.slice qa so.out.length qc,A G so.steps] 95) (by intro u hu;simp only[List.mem_cons,List.not_mem_nil,or_false]at hu;rcases hu with rfl|rfl|rfl|rfl|rfl<;>rfl) (by rw[List.length_append];unfold maxLen;omega) (by rw[List.length_append];omega) (by have:=hkE.size;have:=hkp.size;simp;omega) ?_;intro v12 w12 ho12 hg12 _;simp only[pS];obtain⟨f',rfl⟩: ∃f',f=f'+1:=⟨f-1,by omega⟩;have hb12: ∀b,u3.ownBlock=some b->w.heap.size<=b:=fun b e=>(World.ownsRow.lt hDa.1 b e).1;have hdo11:DOk w11 B (evGo d' k T rest).1 (M+20*k+20-(f'+1:Nat)+1):=HDO.out.ev hk kO HE.out (by rw[HLV.out];exact hlv) hkE hdE
     have hdo12:DOk w12 B (evGo d' k T rest).1 (M+20*k+20-f'):=by
      have h:=(hdo11.later ((bF _ _).alloc (Nat.le_refl _) (cT #[A G (k:Int),A G so.bf,A G so.num,.slice qa so.out.length qc,A G so.steps] 95))).grown hg12 hb12 (hlow'.ev hk) hlt;rw[show M+20*(k:Int)+20-((f'+1:Nat):Int)+1=M+20*(k:Int)+20-(f':Int)by omega]at h;exact h
     have hkw:Kept B w (w11.alloc (cT #[A G (k:Int),A G so.bf,A G so.num,.slice qa so.out.length qc,A G so.steps] 95)):=z1j (z29 hkp hkE) _;have hk12:Kept B w w12:=⟨hg12.os.trans hkw.os,hg12.tape.trans hkw.tape,hg12.output.trans hkw.output,Nat.le_trans hkw.size hg12.size,fun b hb hne=>(hg12.block b (Nat.lt_of_lt_of_le hb hkw.size) fun e=>by have:=hb12 b e.symm;omega).trans (hkw.block b hb hne)⟩
     have HIX:Hid (InSt w B k dj (M+20*k) ds0 v12 w12 f'):=by
      refine⟨(evGo d' k T rest).1,ds++[⟨k,so,.slice qa so.out.length qc⟩],hdo12,?_,?_,hk12,⟨?_,?_⟩,?_,?_,hlow'.ev hk⟩
      ·show(((d'.put k _).g k).evs).length<=f'
       rw[z3t,if_pos rfl];show rest.length<=f';rw[HMm.out];omega
      ·rw[HGO.out,z2b,HE.out]
       dsimp only;rw[if_pos (by rw[HLV.out];exact hlv),List.map_append];have e:(evGo d' k T rest).2=so:=by unfold evGo;rw[HRN.out,HSO.out]
       rw[e];rfl
      ·rw[<-List.append_assoc,z99,List.length_append];exact ho12
      ·intro x hx
       rw[<-List.append_assoc]at hx;rcases List.mem_append.1 hx with hx|hx
       ·exact World.ownsRow.kept (hDa.2 x hx) hg12 (zGa (hDa.2 x hx) hDa.1 kD)
       ·rw[List.mem_singleton.1 hx]
        exact World.ownsRow.kept ((z42 hoE hkp.size).alloc _) hg12 (zGa ((z42 hoE hkp.size).alloc _) hDa.1 kD)
      ·intro x hx
       rcases List.mem_append.1 hx with hx|hx
       ·exact hks x hx
       ·rw[List.mem_singleton.1 hx]
      ·rw[List.length_append];show ds.length+1+f'<=20;omega
     have c12:=zDb hdo12.at_ hk
     have HC12:Hid (w12.cell? ⟨B,k*317+314,none⟩=some (A G (m:Int))):=by
      have e:(((evGo d' k T rest).1.g k).evs)=rest:=by show(((d'.put k _).g k).evs)=rest;rw[z3t,if_pos rfl]
      rw[e,HMm.out]at c12;exact c12
     clear c12 hdo12 hdo11 hk12 hkw hDa hDN hoE hgE hkE hdE ho12 hg12;go_wp2_with fail;go_roundw
     case rel=>exact⟨f',by omega,HIX.out⟩
     case measure=>rw[HC12.out,HCW.out];simp[intOf]
  ·obtain rfl:k=3:=by omega
   obtain⟨d',ds,hd',hdo,hkp,hdn,hmap,hlen, -, -⟩:=H.out.ex;go_wp2_with fail;go_ret;exact⟨u3,ds,rfl,hkp,by rw[hd'];exact hdo,hdn,hmap,hlen⟩
end
theorem gateGo_end(k:Nat): ∀(f:Nat)(d:Dsk)(l:List Sd),(d.g k).evs.length<=f->((z2b k f d l).1.g k).evs=[]\/((z2b k f d l).1.g k).left<=0
 |0,d,l,h=>Or.inl (List.eq_nil_of_length_eq_zero (Nat.le_zero.1 h))
 |f+1,d,l,h=>by
  rw[z2b]
  cases he:(d.g k).evs with
  |nil=>exact Or.inl he
  |cons T rest=>
   dsimp only
   by_cases c:0<(d.g k).left
   ·rw[if_pos c]
    refine gateGo_end k f _ _ ?_;show(((d.put k _).g k).evs).length<=f;rw[z3t,if_pos rfl];rw[he,lQ]at h;show rest.length<=f;omega
   ·rw[if_neg c]
    exact Or.inr (by show(d.g k).left<=0;omega)
theorem zC4(d:Dsk)(k:Nat)(h:(d.g k).evs.length<=20):((z2a d k).1.g k).left<=0:=by
 unfold z2a;dsimp only;have h':((z41 d k).g k).evs.length<=20:=by unfold z41;rw[z3t,if_pos rfl];exact h
 rcases gateGo_end k 20 (z41 d k) [] h' with e|e
 ·unfold z43
  rw[if_pos (by rw[e];rfl),z3t,if_pos rfl];exact Int.min_le_right _ _
 unfold z43;split
 ·rw[z3t,if_pos rfl];exact Int.min_le_right _ _
 exact e
theorem z5u(d:Dsk)(k i:Nat)(hi:i≠k):(z2a d k).1.g i=d.g i:=by
 unfold z2a;dsimp only;have e:(z2b k 20 (z41 d k) []).1.g i=d.g i:=by rw[z4m k 20 _ _ i hi];unfold z41;rw[z3t,if_neg hi]
 unfold z43;split
 ·rw[z3t,if_neg hi];exact e
 exact e
theorem z7l(d:Dsk): ∀(j i:Nat),j<=i->(z0z j d).1.g i=d.g i
 |0,i,_=>rfl
 |j+1,i,h=>by
  rw[z0z];dsimp only;rw[z5u _ j i kO];exact z7l d j i kO
theorem z92(d:Dsk)(hz: ∀k,k<3->(d.g k).left<=0)(he: ∀k,k<3->(d.g k).evs.length<=20): ∀j,j<=3-> ∀k,k<3->((z0z j d).1.g k).left<=0
 |0,_,k,hk=>hz k hk
 |j+1,hj,k,hk=>by
  rw[z0z];dsimp only
  by_cases c:k=j
  ·subst c
   refine zC4 _ k ?_;rw[z7l d k k (Nat.le_refl _)];exact he k hk
  ·rw[z5u _ j k c]
   exact z92 d hz he j kO k hk
def Pg.bare(p:Pg):Pg:={p with sl:= .slice none 0 0}
theorem zSb{p q:Pg}(e:p.bare=q.bare)(T:Nat->Int)(t:Int):p.run T t=q.run T t:=by
 have e1:p.xs=q.xs:=show p.bare.xs=q.bare.xs by rw[e]
 have e2:p.tab=q.tab:=show p.bare.tab=q.bare.tab by rw[e]
 unfold Pg.run;rw[<-e1, <-e2]
theorem zWc{p q:Pg}(e:p.bare=q.bare)(r:Rn):(p.ran r).bare=(q.ran r).bare:=by
 show({p.bare with tab:=r.tab}:Pg)={q.bare with tab:=r.tab};rw[e]
theorem zSc{p q:Pg}(e:p.bare=q.bare)(s:Sd)(r:Rn):s.more p r=s.more q r:=by
 have e1:p.id=q.id:=show p.bare.id=q.bare.id by rw[e]
 unfold Sd.more;rw[e1]
theorem z5f(T:Nat->Int)(t:Int): ∀(ps qs:List Pg)(s:Sd),ps.map Pg.bare=qs.map Pg.bare->(z05 T t ps s).1=(z05 T t qs s).1/\(z05 T t ps s).2.map Pg.bare=(z05 T t qs s).2.map Pg.bare
 |[],[],s,_=>⟨rfl,rfl⟩
 |[],q::qs,s,e=>by simp at e
 |p::ps,[],s,e=>by simp at e
 |p::ps,q::qs,s,e=>by
  rw[List.map_cons,List.map_cons]at e;have e1:p.bare=q.bare:=(List.cons.inj e).1;have e2:=(List.cons.inj e).2;have er:=zSb e1 T t;have em:=zSc e1 s (q.run T t);have en:=zWc e1 (q.run T t);rw[z05,z05,er,em];obtain⟨i1,i2⟩:=z5f T t ps qs (s.more q (q.run T t)) e2;split
  ·refine⟨i1,?_⟩
   rw[List.map_cons,List.map_cons,en,i2]
  ·refine⟨rfl,?_⟩
   rw[List.map_cons,List.map_cons,en,e2]
structure GtEq (a b:Gt):Prop where
 ps:a.ps.map Pg.bare=b.ps.map Pg.bare
 last:a.last=b.last
 evs:a.evs=b.evs
 may:a.may=b.may
 left:a.left=b.left
structure DkEq (a b:Dsk):Prop where
 ran:a.ran=b.ran
 g: ∀k,GtEq (a.g k) (b.g k)
theorem DkEq.put{a b:Dsk}{k:Nat}{x y:Gt}(h:DkEq a b)(hx:GtEq x y):DkEq (a.put k x) (b.put k y):=⟨h.ran,fun j=>by
 rw[z3t,z3t];split
 ·exact hx
 ·exact h.g j⟩
theorem DkEq.ev{a b:Dsk}(h:DkEq a b)(k:Nat)(T:Nat->Int)(rest:List (Nat->Int)):DkEq (evGo a k T rest).1 (evGo b k T rest).1/\(evGo a k T rest).2=(evGo b k T rest).2:=by
 obtain⟨c1,c2⟩:=z5f T b.ran _ _ sd0 (h.g k).ps;unfold evGo;rw[h.ran];refine⟨⟨rfl,fun j=>?_⟩,c1⟩;show GtEq ((a.put k _).g j) ((b.put k _).g j);rw[z3t,z3t];split
 ·exact⟨c2,(h.g k).last,rfl,(h.g k).may,by show _-_=_-_;rw[(h.g k).left,c1]⟩
 exact h.g j
theorem zGz(k:Nat): ∀(f:Nat)(a b:Dsk)(l:List Sd),DkEq a b->DkEq (z2b k f a l).1 (z2b k f b l).1/\(z2b k f a l).2=(z2b k f b l).2
 |0,a,b,l,h=>⟨h,rfl⟩
 |f+1,a,b,l,h=>by
  rw[z2b,z2b, <-(h.g k).evs, <-(h.g k).left]
  cases he:(a.g k).evs with
  |nil=>exact⟨h,rfl⟩
  |cons T rest=>
   dsimp only;obtain⟨h1,h2⟩:=h.ev k T rest;split
   ·rw[<-h2]
    exact zGz k f _ _ _ h1
   ·exact⟨h,rfl⟩
theorem zGy{a b:Dsk}(h:DkEq a b)(k:Nat):DkEq (z2a a k).1 (z2a b k).1/\(z2a a k).2=(z2a b k).2:=by
 have h0:DkEq (z41 a k) (z41 b k):=h.put ⟨(h.g k).ps,(h.g k).last,(h.g k).evs,(h.g k).may,by show _+_=_+_;rw[(h.g k).left,(h.g k).may]⟩;obtain⟨h1,h2⟩:=zGz k 20 _ _ [] h0;unfold z2a;refine⟨?_,h2⟩;dsimp only;generalize (z2b k 20 (z41 a k) []).1=x at h1⊢;generalize (z2b k 20 (z41 b k) []).1=y at h1⊢;unfold z43;rw[<-(h1.g k).evs];split
 ·exact h1.put ⟨(h1.g k).ps,(h1.g k).last,(h1.g k).evs,(h1.g k).may,by show min _ _=min _ _;rw[(h1.g k).left]⟩
 exact h1
theorem zCm{a b:Dsk}(h:DkEq a b): ∀j,DkEq (z0z j a).1 (z0z j b).1/\(z0z j a).2=(z0z j b).2
 |0=>⟨h,rfl⟩
 |j+1=>by
  obtain⟨h1,h2⟩:=zCm h j;obtain⟨g1,g2⟩:=zGy h1 j;rw[z0z,z0z];dsimp only;exact⟨g1,by rw[h2,g2]⟩
structure z5j (ps:List Pg) (last:Int):Prop where
 rk:zDk ps
 nb:z2g ps
 id: ∀p,p∈ps->1<=p.id/\p.id<=last
theorem zWd{ps qs:List Pg}(h:ps.map Pg.bare=qs.map Pg.bare):(ps.map fun p:Pg=>p.id)=qs.map fun p:Pg=>p.id:=by
 have:=congrArg (List.map fun p:Pg=>p.id) h;rwa[List.map_map,List.map_map]at this
theorem zLx{ps qs:List Pg}(h:ps.map Pg.bare=qs.map Pg.bare):ps.length=qs.length:=by
 have:=congrArg List.length h;simpa using this
theorem z7c(f:Pg->Bool)(hf: ∀p:Pg,f p.bare=f p): ∀{ps qs:List Pg},ps.map Pg.bare=qs.map Pg.bare->(ps.filter f).map Pg.bare=(qs.filter f).map Pg.bare:=by
 have e: ∀ps:List Pg,(ps.filter f).map Pg.bare=(ps.map Pg.bare).filter f:=fun ps=>by
  rw[List.filter_map];congr 1;exact List.filter_congr fun p _=>(hf p).symm
 intro ps qs h;rw[e,e,h]
theorem zI9(T:Nat->Int)(t:Int): ∀(ps:List Pg)(s:Sd),(z05 T t ps s).2.map (fun p:Pg=>(p.id,p.rank))=ps.map fun p:Pg=>(p.id,p.rank)
 |[],s=>rfl
 |p::ps,s=>by
  rw[z05];split
  ·show _::_=_::_
   rw[zI9 T t ps];rfl
  ·rfl
theorem z5j.same{ps qs:List Pg}{last:Int}(h:z5j ps last)(e:qs.map (fun p:Pg=>(p.id,p.rank))=ps.map fun p:Pg=>(p.id,p.rank)):z5j qs last:=by
 have e1:qs.map (fun p:Pg=>p.id)=ps.map fun p:Pg=>p.id:=by
  have:=congrArg (List.map Prod.fst) e;rwa[List.map_map,List.map_map]at this
 have e2:qs.map (fun p:Pg=>p.rank)=ps.map fun p:Pg=>p.rank:=by
  have:=congrArg (List.map Prod.snd) e;rwa[List.map_map,List.map_map]at this
 refine⟨?_,by unfold z2g;rw[e1];exact h.nb,fun p hp=>?_⟩
 ·have h1:(ps.map fun p:Pg=>p.rank).Pairwise (· <= ·):=List.pairwise_map.2 h.rk
  rw[<-e2]at h1;exact List.pairwise_map.1 h1
 have:p.id∈ps.map fun p:Pg=>p.id:=by rw[<-e1];exact List.mem_map.2 ⟨p,hp,rfl⟩
 obtain⟨q,hq,e⟩:=List.mem_map.1 this;rw[<-e];exact h.id q hq
theorem z5j.gone{ps:List Pg}{last:Int}(h:z5j ps last)(f:Pg->Bool):z5j (ps.filter f) last:=
 ⟨h.rk.filter _,h.nb.sublist (List.filter_sublist.map _),fun p hp=>h.id p (List.mem_filter.1 hp).1⟩
theorem z5j.ins{ps:List Pg}{last rank:Int}{q:Pg}(h:z5j ps last)(h1:q.id=last+1)(hq:q.rank=rank)(h0:0<=last):z5j ((ps.filter fun p=>decide (p.rank<=rank))++[q]++ps.filter fun p=>decide (rank<p.rank)) (last+1):=by
 have hm: ∀p,p∈(ps.filter fun p=>decide (p.rank<=rank))++[q]++(ps.filter fun p=>decide (rank<p.rank))->p=q\/p∈ps:=fun p hp=>by
  rcases List.mem_append.1 hp with hp|hp
  ·rcases List.mem_append.1 hp with hp|hp
   ·exact .inr (List.mem_filter.1 hp).1
   ·exact .inl (List.mem_singleton.1 hp)
  ·exact .inr (List.mem_filter.1 hp).1
 refine⟨h.rk.ins hq,?_,fun p hp=>?_⟩
 ·have hp:List.Perm ((ps.filter fun p=>decide (p.rank<=rank))++[q]++ps.filter fun p=>decide (rank<p.rank)) (q::ps):=by
   rw[List.append_assoc];refine List.perm_middle.trans (List.Perm.cons q ?_)
   have e:(fun p:Pg=>decide (rank<p.rank))=fun p=>!decide (p.rank<=rank):=by
    funext p
    by_cases c:p.rank<=rank
    ·simp[c]
    ·simp[c];omega
   rw[e];exact List.filter_append_perm _ _
  unfold z2g;refine((hp.map fun p:Pg=>p.id).nodup_iff).2 ?_;rw[List.map_cons,List.nodup_cons];refine⟨fun hx=>?_,h.nb⟩;obtain⟨p,hp,e⟩:=List.mem_map.1 hx;have:=(h.id p hp).2;omega
 rcases hm p hp with rfl|hp
 ·omega
 have:=h.id p hp;omega
def StD(d:Dsk):Prop:= ∀k,z5j (d.g k).ps (d.g k).last
theorem StD.put{d:Dsk}{k:Nat}{x:Gt}(h:StD d)(hx:z5j x.ps x.last):StD (d.put k x):=fun j=>by
 rw[z3t];split
 ·exact hx
 ·exact h j
theorem zD4(k:Nat): ∀(f:Nat)(d:Dsk)(l:List Sd),StD d->StD (z2b k f d l).1
 |0,d,l,h=>h
 |f+1,d,l,h=>by
  rw[z2b];split
  ·exact h
  ·rename_i T rest _
   split
   ·exact zD4 k f _ _ (StD.put (d:=d) h ((h k).same (zI9 _ _ _ _)))
   ·exact h
theorem zAh{d:Dsk}(h:StD d): ∀j,StD (z0z j d).1
 |0=>h
 |j+1=>by
  have h1:=zAh h j;rw[z0z];dsimp only;unfold z2a;dsimp only;have h2:=zD4 j 20 (z41 (z0z j d).1 j) [] (h1.put (h1 j));unfold z43;split
  ·exact h2.put (h2 j)
  ·exact h2
section
attribute [local simp] z0p z0j z04
def z48(may:Nat->Int)(j:Nat):Dsk:=⟨fun i=>⟨[],0,[],if i<j then may i else 0,0⟩,0⟩
def z2v:Array Value:=Array.ofFn (n:=952) fun i=>(z48 (fun _=>0) 0).cell i.1
theorem zCp(may:Nat->Int):z48 may 0=z48 (fun _=>0) 0:=by
 unfold z48;congr 1
theorem zDf:Tryz.prog.built 72 []=some z2v:=kR
theorem zLq(d:Dsk){k:Nat}(x:Int)(hk:k<3)(j:Nat)(_:j<952):(d.put k {d.g k with may:=x}).cell j=if j=k*317+315 then A G x else d.cell j:=by
 rw[z4p d _ hk]
 by_cases c:k*317<=j/\j<k*317+317
 ·rw[if_pos c]
  obtain⟨i,rfl⟩: ∃i,j=k*317+i:=⟨j-k*317,by omega⟩;rw[Nat.add_sub_cancel_left,z1w d hk kO];unfold z17;dsimp only
  by_cases c1:i<154
  ·rw[if_pos c1,if_pos c1,if_neg (show¬k*317+i=k*317+315 by omega)]
  rw[if_neg c1,if_neg c1]
  by_cases c2:i<314
  ·rw[if_pos c2,if_pos c2,if_neg (show¬k*317+i=k*317+315 by omega)]
  rw[if_neg c2,if_neg c2]
  by_cases c3:i=314
  ·rw[if_pos c3,if_pos c3,if_neg (show¬k*317+i=k*317+315 by omega)]
  rw[if_neg c3,if_neg c3]
  by_cases c4:i=315
  ·rw[if_pos c4,if_pos (show k*317+i=k*317+315 by omega)]
  ·rw[if_neg c4,if_neg c4,if_neg (show¬k*317+i=k*317+315 by omega)]
 rw[if_neg c,if_neg (show¬j=k*317+315 by omega)]
theorem zCq(may:Nat->Int)(k:Nat):z48 may (k+1)=(z48 may k).put k {(z48 may k).g k with may:=may k}:=by
 unfold z48 Dsk.put;dsimp only;congr 1;funext i
 by_cases c:i=k
 ·rw[if_pos c,c,if_pos (Nat.lt_succ_self k)]
 rw[if_neg c];congr 1
 by_cases c2:i<k
 ·rw[if_pos c2,if_pos kO]
 rw[if_neg c2,if_neg kO]
theorem zWx(a b c:Value):(Tryz.prog.info? 22).map (·.size)=some #[a,b,c].size:=kR
theorem zYo(may:Nat->Int)(h0: ∀k,k<3->1<=may k)(h1: ∀k,k<3->may k<=1000)(w:World):
  Calls tP 4 #[.agg #[A G (may 0),A G (may 1),A G (may 2)]] w fun e w'=>e= rT (.tuple #[pT (some ⟨w.heap.size+1,0,none⟩),.nilIface])/\Below w.heap.size w w'/\z0d w' (w.heap.size+1) (z48 may 3):=by
 have hK0:Blk w [(w.heap.size,cT #[A G (may 0),A G (may 1),A G (may 2)] 22 (0,0))] (w.alloc (cT #[A G (may 0),A G (may 1),A G (may 2)] 22)):=(Blk.nil ((bF _ _).alloc (Nat.le_refl _) _)).cons (heap_alloc_new w _);have hz0:(w.alloc (cT #[A G (may 0),A G (may 1),A G (may 2)] 22)).heap.size=w.heap.size+1:=by simp
 go_enter Tryz.func4,Tryz.ntmps4;go_upto_region 1 with fail
 generalize w.alloc (cT #[A G (may 0),A G (may 1),A G (may 2)] 22)=w0 at hK0 hz0⊢;go_step;refine wpList_buildTo rfl 72 #[] rfl (some 7) rfl z2v (by simpa using zDf) ?_;simp only[pS]
 (refine z00 rfl (pT (some ⟨w.heap.size+1,0,none⟩)) (w0.alloc (cT z2v 72)) (by rw[<-hz0];go_simp;try rfl) ?_);simp only[pS]
 have hb1:Below w.heap.size w (w0.alloc (cT z2v 72)):=hK0.1.alloc hK0.1.size _;have hm1:=(heap_alloc_old w0 (cT z2v 72) (hK0.lt mcS)).trans (hK0.2 _ mcS);have hd1:z0d (w0.alloc (cT z2v 72)) (w.heap.size+1) (z48 may 0):=by rw[zCp, <-hz0];exact heap_alloc_new w0 _
 clear hK0;generalize w0.alloc (cT z2v 72)=w1 at hb1 hm1 hd1⊢;have HI:Hid (Below w.heap.size w w1/\z0d w1 (w.heap.size+1) (z48 may 0)):=⟨hb1,hd1⟩;go_upto_region 2 with fail
 go_step;refine wpList_load_row rfl 22 (.tmp 1) rfl w.heap.size rfl 22 #[A G (may 0),A G (may 1),A G (may 2)] (0,0) _ hm1 Tryz.underlying22 rfl (zWx _ _ _) ?_;simp only[pS];clear hb1 hm1 hd1;go_upto_region 3 with fail
 go_loopw [10] (fun kv wr=> ∃k:Nat,kv=A G k/\k<=3/\Hid (Below w.heap.size w wr/\z0d wr (w.heap.size+1) (z48 may k))) (fun kv _=>3-(intOf kv).toNat)
 case atStart=>exact⟨0,rfl,by decide,HI.out⟩
 case round=>
  obtain⟨k,rfl,hk3,H⟩:=hrel;clear HI
  by_cases hk:k<3
  ·have a0:=h0 k hk
   have a1:=h1 k hk;have cf:=FnAt.frozen H.out.2 (k*317+315);have c0:=zA2 H.out.2 hk
   have HN:Hid (Below w.heap.size w (wr.setCell ⟨w.heap.size+1,k*317+315,none⟩ (A G (may k)))/\z0d (wr.setCell ⟨w.heap.size+1,k*317+315,none⟩ (A G (may k))) (w.heap.size+1) (z48 may (k+1))):=by
    refine⟨H.out.1.setCell (show w.heap.size<=w.heap.size+1 by omega) _,?_⟩;rw[zCq];exact FnAt.ext (FnAt.set H.out.2 (k*317+315) _) fun j hj=>zLq (z48 may k) (may k) hk j hj
   have t1:decide (may k<1)=false:=decide_eq_false kO;have t2:decide (1000<may k)=false:=decide_eq_false kO;rcases(show k=0\/k=1\/k=2 by omega)with rfl|rfl|rfl
   ·simp only[Nat.zero_mul,Nat.one_mul,Nat.zero_add,Nat.reduceMul,Nat.reduceAdd]at c0 cf HN t1 t2
    push_cast
    go_upto_region 4 with fail
    go_step
    (refine z00 rfl (A G 0) wr kG ?_);simp only[pS]
    (refine z00 rfl (A G (may 0)) wr kR ?_);simp only[pS]
    go_wp2_with fail;go_roundw
    case rel=>exact⟨1,by go_num,by decide,HN.out⟩
    case measure=>simp[intOf]
   ·simp only[Nat.zero_mul,Nat.one_mul,Nat.zero_add,Nat.reduceMul,Nat.reduceAdd]at c0 cf HN t1 t2
    push_cast
    go_upto_region 4 with fail
    go_step
    (refine z00 rfl (A G 1) wr kG ?_);simp only[pS]
    (refine z00 rfl (A G (may 1)) wr kR ?_);simp only[pS]
    go_wp2_with fail;go_roundw
    case rel=>exact⟨2,by go_num,by decide,HN.out⟩
    case measure=>simp[intOf]
   ·simp only[Nat.zero_mul,Nat.one_mul,Nat.zero_add,Nat.reduceMul,Nat.reduceAdd]at c0 cf HN t1 t2
    push_cast
    go_upto_region 4 with fail
    go_step
    (refine z00 rfl (A G 2) wr kG ?_);simp only[pS]
    (refine z00 rfl (A G (may 2)) wr kR ?_);simp only[pS]
    go_wp2_with fail;go_roundw
    case rel=>exact⟨3,by go_num,by decide,HN.out⟩
    case measure=>simp[intOf]
  ·obtain rfl:k=3:=by omega
   go_wp2_with fail;exact bodyPost_ret (v:= .tuple #[pT (some ⟨w.heap.size+1,0,none⟩),.nilIface]) (by simp[results,Tryz.results4,go_sem, *]) rfl ⟨rfl,H.out.1,H.out.2⟩
end
section
attribute [local simp] z0p z0j z04
def zero16:Array Value:=z19 fun _=>0
theorem zF8(tmps:Array Value)(w':World)(g:Nat)(cs:Array Value)(h4:tmps.getD 4 undef= pT (some ⟨g,0,none⟩))(h5:tmps.getD 5 undef= .nilIface)(hg:w'.heap[g]?=some (cT cs 55 (0,0)))(hs:cs.size=16):
  (results Tryz.f12 tmps).run tP w'= .ok (.tuple #[.agg cs,.nilIface]) w':=by
 have h4':tmps[4]?.getD undef= pT (some ⟨g,0,none⟩):=by simpa using h4
 have h5':tmps[5]?.getD undef= .nilIface:=by simpa using h5
 have hl:=run_loadVar_row (P:=tP) w' g 55 55 cs (0,0) _ hg Tryz.underlying55 rfl (by rw[Tryz.info55,hs]);simp[results,Tryz.results12,asAddr,h4',h5',hl]
theorem zVs(B k:Nat)(hk:k<3)(d:Dsk)(id:Int)(p:Pg)(w:World)(hD:z0d w B d)(h8:(d.g k).ps.length<=8)(I:Nat)(HI:Hid (((d.g k).ps.findIdx fun p=>p.id==id)=I))(HN:Hid (I<(d.g k).ps.length))(HP:Hid ((d.g k).ps.getD I pg0=p)):zR 12 #[pT (some ⟨B,k*317,none⟩),A G id] w (.tuple #[.agg (z19 p.tab),.nilIface]):=by
 have hI8:I<8:=by have:=HN.out;omega
 have hI0:(0:Int)<=(I:Int):=kO;have hI1:(I:Int)<8:=kO;have hK0:Blk w [(w.heap.size,cT zero16 55 (0,0)),(B,cT (Array.ofFn (n:=952) fun i=>Dsk.cell d i.1) 72 (0,0))] (w.alloc (cT zero16 55)):=((Blk.nil ((bF _ _).alloc (Nat.le_refl _) _)).cons ((heap_alloc_old _ _ hD.lt).trans hD)).cons (heap_alloc_new w _);go_enter Tryz.func12,Tryz.ntmps12;go_upto_region 1 with fail
 change Code.wp _ _ _ _ (w.alloc (cT zero16 55))
 generalize w.alloc (cT zero16 55)=w0 at hK0⊢;have hF:=z9r B k hk d id w0 (hK0.2 _ (mcO _ mcS)) h8 I HI HN;go_upto_region 4 with(first|(go_at_call 29;refine hF.mono ?_;rintro e w3 ⟨rfl,hb3⟩;have hK3:=hK0.later hb3;clear hK0 hb3)|fail)
 go_step
 (refine z00 rfl (pT (some ⟨B,k*317,none⟩)) w3 kG ?_);simp only[pS]
 (refine z00 rfl (A G (I:Int)) w3 kG ?_);simp only[pS]
 (refine z00 rfl (pT (some ⟨B,k*317,none⟩)) w3 kG ?_);simp only[pS]
 (refine z00 rfl (pT (some ⟨B,k*317,none⟩)) w3 kG ?_);simp only[pS]
 (refine z00 rfl (pT (some ⟨B,k*317+I*19,none⟩)) w3 kG ?_);simp only[pS]
 (refine z00 rfl (pT (some ⟨B,k*317+I*19+3,none⟩)) w3 kG ?_);simp only[pS]
 refine wpList_load_mid rfl 55 (.tmp 23) rfl B (k*317+I*19+3) rfl (z19 p.tab).toList _ (by have h:=zLm (hK3.2 _ (mcO _ mcS)) hk hI8;rw[HP.out]at h;exact h) Tryz.underlying55 rfl (by rw[Tryz.info55];rfl) ?_;rw[Array.toArray_toList];simp only[pS];refine wpList_store_row rfl 55 (.tmp 4) (.tmp 24) rfl w.heap.size (z19 p.tab) rfl rfl 55 zero16 (hK3.2 _ mcS) Tryz.info55 rfl (z5n _) ?_;simp only[pS];have hr:=setRow_heap w3 w.heap.size zero16 (z19 p.tab) 55 (0,0) (hK3.2 _ mcS);have hb:=z14 hK3.1 (Nat.le_refl _) (z19 p.tab);go_wp2_with fail;exact bodyPost_ret (v:= .tuple #[.agg (z19 p.tab),.nilIface]) (zF8 _ _ w.heap.size _ rfl rfl hr rfl) rfl ⟨rfl,hb⟩
end
section
attribute [local simp] z0p z0j z04
theorem out_tests{k:Int}(h:k<0\/3<=k):(decide (k<0)=true)\/(decide (k<0)=false/\decide (3<=k)=true):=by
 by_cases c:k<0
 ·exact Or.inl (decide_eq_true c)
 exact Or.inr ⟨decide_eq_false c,decide_eq_true kO⟩
theorem z81(B:Nat)(k:Int)(h:k<0\/3<=k)(w:World):zS 28 #[pT (some ⟨B,0,none⟩),A G k] w (.tuple #[pT none,.iface 30 (A G 2)]):=by
 rcases out_tests h with z1|⟨z1,z2⟩
 ·go_enter Tryz.func28,Tryz.ntmps28
  go_wp2;exact bodyPost_ret (v:= .tuple #[pT none,.iface 30 (A G 2)]) (by simp[results,Tryz.results28,go_sem, *]) rfl ⟨rfl,rfl⟩
 go_enter Tryz.func28,Tryz.ntmps28;go_wp2;exact bodyPost_ret (v:= .tuple #[pT none,.iface 30 (A G 2)]) (by simp[results,Tryz.results28,go_sem, *]) rfl ⟨rfl,rfl⟩
theorem zD2(B:Nat)(k:Int)(h:k<0\/3<=k)(w:World):zS 8 #[pT (some ⟨B,0,none⟩),A G k] w (.tuple #[pT none,.iface 30 (A G 2)]):=by
 go_enter Tryz.func8,Tryz.ntmps8
 go_wp2_with(first
  |(go_at_call 28;refine(z81 B k h _).mono ?_;rintro e w1 ⟨rfl,rfl⟩)
  |fail)
 exact bodyPost_ret (v:= .tuple #[pT none,.iface 30 (A G 2)]) (by simp[results,Tryz.results8,go_sem, *]) rfl ⟨rfl,rfl⟩
theorem zNz(B:Nat)(k:Int)(h:k<0\/3<=k)(w:World):zS 9 #[pT (some ⟨B,0,none⟩),A G k] w (A G (-1)):=by
 go_enter Tryz.func9,Tryz.ntmps9
 go_wp2_with(first
  |(go_at_call 28;refine(z81 B k h _).mono ?_;rintro e w1 ⟨rfl,rfl⟩)
  |fail)
 go_ret;exact⟨rfl,rfl⟩
theorem zRa(B:Nat)(k:Int)(h:k<0\/3<=k)(w:World):zS 10 #[pT (some ⟨B,0,none⟩),A G k] w (A G 0):=by
 go_enter Tryz.func10,Tryz.ntmps10
 go_wp2_with(first
  |(go_at_call 28;refine(z81 B k h _).mono ?_;rintro e w1 ⟨rfl,rfl⟩)
  |fail)
 go_ret;exact⟨rfl,rfl⟩
theorem zO1(B:Nat)(k:Int)(h:k<0\/3<=k)(T:Nat->Int)(w:World):zR 15 #[pT (some ⟨B,0,none⟩),A G k,.agg (z06 T)] w (.iface 30 (A G 2)):=by
 have hb:Below w.heap.size w (w.alloc (cT (z06 T) 34)):=(bF _ _).alloc (Nat.le_refl _) _;go_enter Tryz.func15,Tryz.ntmps15;go_upto_region 1 with fail
 change Code.wp _ _ _ _ (w.alloc (cT (z06 T) 34))
 generalize w.alloc (cT (z06 T) 34)=w0 at hb⊢
 go_wp2_with(first
  |(go_at_call 28;refine(z81 B k h _).mono ?_;rintro e w1 ⟨rfl,rfl⟩)
  |fail)
 go_ret;exact⟨rfl,hb⟩
theorem z8o(B k:Nat)(hk:k<3)(d:Dsk)(id:Int)(w:World)(hD:z0d w B d)(h8:(d.g k).ps.length<=8)(HN:Hid (((d.g k).ps.findIdx fun p=>p.id==id)=(d.g k).ps.length)):zR 29 #[pT (some ⟨B,k*317,none⟩),A G id] w (.tuple #[A G 0,.iface 30 (A G 7)]):=by
 have hK0:Blk w [(w.heap.size,cT #[A G id] 3 (0,0)),(B,cT (Array.ofFn (n:=952) fun i=>Dsk.cell d i.1) 72 (0,0))] (w.alloc (cT #[A G id] 3)):=((Blk.nil ((bF _ _).alloc (Nat.le_refl _) _)).cons ((heap_alloc_old _ _ hD.lt).trans hD)).cons (heap_alloc_new w _);go_enter Tryz.func29,Tryz.ntmps29;go_upto_region 1 with fail
 generalize w.alloc (cT #[A G id] 3)=w0 at hK0⊢;have hF:=zLg B k w.heap.size hk d id w0 (hK0.2 _ (mcO _ mcS)) h8 (hK0.2 _ mcS);rw[HN.out]at hF;have z1:(((d.g k).ps.length:Int)==((d.g k).ps.length:Int))=true:=by simp
 go_upto_region 2 with(first|(go_at_call 33;refine hF.mono ?_;rintro e w3 ⟨rfl,hb3⟩;have hK3:=hK0.later hb3;clear hK0 hb3)|fail)
 have cN:=z21 (hK3.2 _ (mcO _ mcS)) hk;go_wp2_with fail;exact bodyPost_ret (v:= .tuple #[A G 0,.iface 30 (A G 7)]) (by simp[results,Tryz.results29,go_sem, *]) rfl ⟨rfl,hK3.1⟩
theorem zC8(tmps:Array Value)(w':World)(g:Nat)(cs:Array Value)(er:Value)(h4:tmps.getD 4 undef= pT (some ⟨g,0,none⟩))(h5:tmps.getD 5 undef=er)(hg:w'.heap[g]?=some (cT cs 55 (0,0)))(hs:cs.size=16):
  (results Tryz.f12 tmps).run tP w'= .ok (.tuple #[.agg cs,er]) w':=by
 have h4':tmps[4]?.getD undef= pT (some ⟨g,0,none⟩):=by simpa using h4
 have h5':tmps[5]?.getD undef=er:=by simpa using h5
 have hl:=run_loadVar_row (P:=tP) w' g 55 55 cs (0,0) _ hg Tryz.underlying55 rfl (by rw[Tryz.info55,hs]);simp[results,Tryz.results12,asAddr,h4',h5',hl]
theorem zOt(B k:Nat)(hk:k<3)(d:Dsk)(id:Int)(w:World)(hD:z0d w B d)(h8:(d.g k).ps.length<=8)(HN:Hid (((d.g k).ps.findIdx fun p=>p.id==id)=(d.g k).ps.length)):zR 12 #[pT (some ⟨B,k*317,none⟩),A G id] w (.tuple #[.agg zero16,.iface 30 (A G 7)]):=by
 have hK0:Blk w [(w.heap.size,cT zero16 55 (0,0)),(B,cT (Array.ofFn (n:=952) fun i=>Dsk.cell d i.1) 72 (0,0))] (w.alloc (cT zero16 55)):=((Blk.nil ((bF _ _).alloc (Nat.le_refl _) _)).cons ((heap_alloc_old _ _ hD.lt).trans hD)).cons (heap_alloc_new w _);go_enter Tryz.func12,Tryz.ntmps12;go_upto_region 1 with fail
 change Code.wp _ _ _ _ (w.alloc (cT zero16 55))
 generalize w.alloc (cT zero16 55)=w0 at hK0⊢;have hF:=z8o B k hk d id w0 (hK0.2 _ (mcO _ mcS)) h8 HN;go_upto_region 3 with(first|(go_at_call 29;refine hF.mono ?_;rintro e w3 ⟨rfl,hb3⟩;have hK3:=hK0.later hb3;clear hK0 hb3)|fail)
 go_step
 (refine z00 rfl (.agg zero16) w3 kG ?_);simp only[pS]
 (refine z00 rfl (.iface 30 (A G 7)) w3 kG ?_);simp only[pS]
 refine wpList_store_row rfl 55 (.tmp 4) (.tmp 16) rfl w.heap.size zero16 rfl rfl 55 zero16 (hK3.2 _ mcS) Tryz.info55 rfl (z5n _) ?_;simp only[pS];have hr:=setRow_heap w3 w.heap.size zero16 zero16 55 (0,0) (hK3.2 _ mcS);have hb:=z14 hK3.1 (Nat.le_refl _) zero16;go_wp2_with fail;exact bodyPost_ret (v:= .tuple #[.agg zero16,.iface 30 (A G 7)]) (zC8 _ _ w.heap.size _ _ rfl rfl hr rfl) rfl ⟨rfl,hb⟩
theorem zJr(B k:Nat)(hk:k<3)(d:Dsk)(id:Int)(w:World)(hD:z0d w B d)(h8:(d.g k).ps.length<=8)(HN:Hid (((d.g k).ps.findIdx fun p=>p.id==id)=(d.g k).ps.length)):zR 18 #[pT (some ⟨B,k*317,none⟩),A G id] w (.iface 30 (A G 7)):=by
 have hF:=z8o B k hk d id w hD h8 HN;go_enter Tryz.func18,Tryz.ntmps18;go_wp2_with(first|(go_at_call 29;refine hF.mono ?_;rintro e w3 ⟨rfl,hb3⟩)|fail);go_ret;exact⟨rfl,hb3⟩
theorem zFy(B k:Nat)(hk:k<3)(d:Dsk)(id:Int)(l:Value)(w:World)(hD:z0d w B d)(h8:(d.g k).ps.length<=8)(HN:Hid (((d.g k).ps.findIdx fun p=>p.id==id)=(d.g k).ps.length)):zR 20 #[pT (some ⟨B,k*317,none⟩),A G id,l] w (.iface 30 (A G 7)):=by
 have hF:=z8o B k hk d id w hD h8 HN;go_enter Tryz.func20,Tryz.ntmps20;go_wp2_with(first|(go_at_call 29;refine hF.mono ?_;rintro e w3 ⟨rfl,hb3⟩)|fail);go_ret;exact⟨rfl,hb3⟩
end
section
attribute [local simp] z0p z0j z04
theorem zVn{w:World}{B k i:Nat}{d:Dsk}(hD:z0d w B d)(hk:k<3)(hi:i<8):w.rangeAt B (k*317+i*19) (pgCs ((d.g k).ps.getD i pg0)).toList:=fun j v hv=>by
 have hj:j<19:=by have:=(List.getElem?_eq_some_iff.1 hv).1;simpa[pgCs]using this
 have e:=zEc ((d.g k).ps.getD i pg0) hj;rw[List.getD_eq_getElem?_getD,hv]at e;rw[z4t hD hk hi hj, <-e];rfl
theorem zWr{p:Pg}(h:p.sl.oneCell'=true):(pgCs p).all (·.oneCell')=true:=by
 unfold pgCs;simpa[Value.oneCell']using h
theorem Tryz.infoInt:(Tryz.prog.info? 3).map (fun i=>(i.zero,i.size,i.bytes))=some (some (A G 0),1,8):=kR
theorem zV5{ps:List Pg}{j:Nat}(h:j<ps.length):(ps.take (j+1)).map (fun p=>Value.int .i64 p.id)=(ps.take j).map (fun p=>Value.int .i64 p.id)++[A G (ps.getD j pg0).id]:=by
 rw[List.take_add_one,List.getElem?_eq_getElem h,List.map_append,List.getD_eq_getElem?_getD,List.getElem?_eq_getElem h];rfl
theorem zIe(B k:Nat)(hk:k<3)(d:Dsk)(M:Int)(w:World)(HD:Hid (DOk w B d M)):Calls tP 11 #[pT (some ⟨B,k*317,none⟩)] w fun e w'=> ∃v,e= rT v/\Below w.heap.size w w'/\w'.ownsRow w.heap.size 3 1 v (d.g k).ps.length ((d.g k).ps.map fun p=>A G p.id):=by
 have hB:=HD.out.at_.lt;obtain⟨n,HN⟩: ∃n,Hid ((d.g k).ps.length=n):=⟨_,rfl⟩;have h8:n<=8:=by have:=HD.out.few k hk;rw[HN.out]at this;exact this
 have cN:=z21 HD.out.at_ hk;rw[HN.out]at cN;have HS:Hid (Below w.heap.size w w/\w.ownsRow w.heap.size 3 1 (.slice none 0 0) 0 (((d.g k).ps.take 0).map fun p=>A G p.id)):=⟨bF _ _,World.ownsRow_nil _ _ _ _⟩;have hn0:(0:Int)<=(n:Int):=kO;have hn1:(n:Int)<=8:=kO;go_enter Tryz.func11,Tryz.ntmps11;go_upto_region 2 with fail
 go_cut [13,14,15] (fun s c j wx=>s= .slice (some ⟨B,k*317,none⟩) n 8/\c=A G n/\j=A G 0/\Below w.heap.size w wx)
 case first=>
  go_quiet (fail)
  go_wp2_with fail;go_meet;exact⟨rfl,rfl,rfl,below_drewN (bF _ _) nq⟩
 obtain⟨rfl,rfl,rfl,hbc⟩:=hcut;have HS:Hid (Below w.heap.size w wc/\wc.ownsRow w.heap.size 3 1 (.slice none 0 0) 0 (((d.g k).ps.take 0).map fun p=>A G p.id)):=⟨hbc,World.ownsRow_nil _ _ _ _⟩;clear hbc cN;go_wp2_with fail;go_loopw [3,15] (fun iv jv wr=> ∃j:Nat,jv=A G j/\j<=n/\Hid (Below w.heap.size w wr/\wr.ownsRow w.heap.size 3 1 iv j (((d.g k).ps.take j).map fun p=>A G p.id))) (fun _ jv _=>n-(intOf jv).toNat)
 case atStart=>exact⟨0,rfl,Nat.zero_le _,HS.out⟩
 case round=>as_aux_lemma=>
  clear HS;obtain⟨j,rfl,hjn,HQ⟩:=hrel;have hj0:(0:Int)<=(j:Int):=kO
  by_cases hj:j<n
  ·have hj':(j:Int)<(n:Int):=kO
   have hD:=HD.out.later HQ.out.1;have hrow:=zVn hD.at_ hk (show j<8 by omega);obtain⟨p,HP⟩: ∃p,Hid ((d.g k).ps.getD j pg0=p):=⟨_,rfl⟩;have hjl:j<(d.g k).ps.length:=by rw[HN.out];exact hj
   have hp1:p.sl.oneCell'=true:=by rw[<-HP.out];exact HD.out.one k hk _ (zLb pg0 hjl)
   have hid:=zV5 hjl;rw[HP.out]at hrow hid;go_upto_region 4 with fail
   go_step
   (refine z00 rfl (pT (some ⟨B,k*317+j*19,none⟩)) wr kG ?_);simp only[pS]
   refine wpList_load_mid rfl 63 (.tmp 17) rfl B (k*317+j*19) rfl (pgCs p).toList _ hrow Tryz.underlying63 rfl kR ?_;rw[Array.toArray_toList];simp only[pS]
   (refine z00 rfl (pT (some ⟨wr.heap.size,0,none⟩)) (wr.alloc (cT (pgCs pg0) 63)) kG ?_);simp only[pS]
   refine wpList_store_row rfl 63 (.tmp 5) (.tmp 18) rfl wr.heap.size (pgCs p) rfl rfl 63 (pgCs pg0) (heap_alloc_new wr _) kR rfl (zWr hp1) ?_;simp only[pS];obtain⟨hb6,hx6⟩:=zYe wr (pgCs pg0) (pgCs p) 63;have HQ6:Hid (Below w.heap.size w ((wr.alloc (cT (pgCs pg0) 63)).setRow wr.heap.size (pgCs p))/\((wr.alloc (cT (pgCs pg0) 63)).setRow wr.heap.size (pgCs p)).ownsRow w.heap.size 3 1 u3 j (((d.g k).ps.take j).map fun p=>A G p.id)):=⟨HQ.out.1.trans (hb6.mono HQ.out.1.size),z8m HQ.out.2 hb6⟩;clear hb6 HQ hrow hD;generalize (wr.alloc (cT (pgCs pg0) 63)).setRow wr.heap.size (pgCs p)=w6 at hx6 HQ6⊢;generalize wr.heap.size=g2 at hx6⊢;have p0:w6.cell? ⟨g2,0,none⟩=some (A G p.id):=(cell_of_row w6 g2 0 _ _ _ hx6).trans rfl;go_upto_region 5 with fail
   go_step
   (refine z00 rfl (u3) w6 kG ?_);simp only[pS]
   (refine z00 rfl (pT (some ⟨g2,0,none⟩)) w6 kG ?_);simp only[pS]
   (refine z00 rfl (A G p.id) w6 kG ?_);simp only[pS]
   obtain⟨i0,hi0,hz0,hz1,hz2⟩:=info_parts Tryz.infoInt;refine wpList_buildSlice rfl 48 3 1 #[(0,.tmp 21)] rfl #[A G p.id] i0 _ Tryz.underlying48 hi0 hz0 (by rw[hz1];omega) (by rw[hz1];omega) (by rw[hz1];kernel_rfl) ?_;simp only[pS];have HQ7:Hid (Below w.heap.size w (w6.alloc (cT #[A G p.id] 3))/\(w6.alloc (cT #[A G p.id] 3)).ownsRow w.heap.size 3 1 u3 j (((d.g k).ps.take j).map fun p=>A G p.id)):=⟨HQ6.out.1.alloc HQ6.out.1.size _,HQ6.out.2.alloc _⟩;refine wpList_append_own (w6.alloc (cT #[A G p.id] 3)) rfl (.tmp 19) (.tmp 22) 48 rfl w.heap.size 3 i0 _ 1 8 Tryz.underlying48 hi0 hz0 hz1 hz2 rfl kD _ _ _ rfl HQ7.out.2 ⟨w6.heap.size,0,none⟩ 1 1 [A G p.id] rfl rfl (z4y w6 #[A G p.id] 3) (by intro u hu;rw[List.mem_singleton.1 hu];rfl) (by unfold maxLen;omega) kO HQ7.out.1.size ?_;intro v8 w8 ho8 hg8 _;simp only[pS];have HQ8:Hid (Below w.heap.size w w8/\w8.ownsRow w.heap.size 3 1 v8 (j+1) (((d.g k).ps.take (j+1)).map fun p=>A G p.id)):=⟨⟨hg8.os.trans HQ7.out.1.os,hg8.tape.trans HQ7.out.1.tape,hg8.output.trans HQ7.out.1.output,Nat.le_trans HQ7.out.1.size hg8.size,fun b hb=>(hg8.block b (Nat.lt_of_lt_of_le hb HQ7.out.1.size) fun e=>by have:=(World.ownsRow.lt HQ7.out.2 b e.symm).1;omega).trans (HQ7.out.1.block b hb)⟩,by rw[hid];exact ho8⟩;clear HQ7 HQ6 ho8 hg8 hx6 p0 hid;go_wp2_with fail;exact⟨⟨j+1,zUf j,by omega,HQ8.out⟩,by show n-((j:Int)+1).toNat<n-(j:Int).toNat;omega⟩
  ·have hj': ¬((j:Int)<(n:Int)):=kO
   have hqb:decide ((j:Int)<(n:Int))=false:=decide_eq_false hj';have ho:=HQ.out.2;have hbw:=HQ.out.1;rw[List.take_of_length_le (show(d.g k).ps.length<=j by rw[HN.out];omega),show j=n by omega, <-HN.out]at ho;clear HQ;go_wp2_with fail;go_ret;exact⟨_,rfl,hbw,ho⟩
end
section
attribute [local simp] z0p z0j z04
theorem zS2(d:Dsk){k i:Nat}(q:Pg)(hk:k<3)(hi:i<(d.g k).ps.length)(h8:(d.g k).ps.length<=8)(h1:q.id=((d.g k).ps.getD i pg0).id)(h2:q.rank=((d.g k).ps.getD i pg0).rank)(h3:q.tab=((d.g k).ps.getD i pg0).tab)(j:Nat)(_:j<952):
  (d.put k {d.g k with ps:=(d.g k).ps.set i q}).cell j=if j=k*317+i*19+2 then q.sl else d.cell j:=by
 rw[z4p d _ hk]
 by_cases c:k*317<=j/\j<k*317+317
 ·rw[if_pos c]
  obtain⟨x,rfl⟩: ∃x,j=k*317+x:=⟨j-k*317,by omega⟩;rw[Nat.add_sub_cancel_left,z1w d hk kO];unfold z17;dsimp only
  by_cases c1:x<154
  ·rw[if_pos c1,if_pos c1]
   unfold z25
   by_cases c2:x<152
   ·rw[if_pos c2,if_pos c2,List.getD_eq_getElem?_getD,List.getElem?_set]
    by_cases c3:i=x/19
    ·rw[if_pos c3,if_pos hi]
     dsimp only[Option.getD_some];subst c3;unfold z93
     by_cases c4:x%19=2
     ·rw[if_pos (show k*317+x=k*317+x/19*19+2 by omega),if_neg kO,if_neg kO,if_pos c4]
     ·rw[if_neg (show¬(k*317+x=k*317+x/19*19+2)by omega),h1,h2,h3,if_neg c4,if_neg c4]
    ·rw[if_neg c3,if_neg (show¬(k*317+x=k*317+i*19+2)by omega),List.getD_eq_getElem?_getD]
   ·rw[if_neg c2,if_neg c2,List.length_set,if_neg (show¬(k*317+x=k*317+i*19+2)by omega)]
  ·rw[if_neg c1,if_neg c1,if_neg (show¬(k*317+x=k*317+i*19+2)by omega)]
 rw[if_neg c,if_neg (show¬(j=k*317+i*19+2)by omega)]
theorem zN0(B k:Nat)(hk:k<3)(d:Dsk)(M:Int)(id:Int)(l:Value)(xs:List St)(w:World)(HD:Hid (DOk w B d M))(I:Nat)(HI:Hid (((d.g k).ps.findIdx fun p=>p.id==id)=I))(HN:Hid (I<(d.g k).ps.length))(HL:Hid (LsAt w l xs))(HLe:Hid (Lets xs)):
  Calls tP 20 #[pT (some ⟨B,k*317,none⟩),A G id,l] w fun e w'=>e= rT .nilIface/\Kept B w w'/\ ∃q:Pg,q.id=((d.g k).ps.getD I pg0).id/\q.rank=((d.g k).ps.getD I pg0).rank/\q.tab=((d.g k).ps.getD I pg0).tab/\q.xs=xs/\PgOk w' B q/\z0d w' B (d.put k {d.g k with ps:=(d.g k).ps.set I q}):=by
 have hF:=z9r B k hk d id w HD.out.at_ (HD.out.few k hk) I HI HN;have hI8:I<8:=by have:=HN.out;have:=HD.out.few k hk;omega
 have hI0:(0:Int)<=(I:Int):=kO;have hI1:(I:Int)<8:=kO;have hBl:=HD.out.at_.lt;go_enter Tryz.func20,Tryz.ntmps20;go_upto_region 4 with(first|(go_at_call 29;refine hF.mono ?_;rintro e w0 ⟨rfl,hb0⟩)|fail)
 go_step
 (refine z00 rfl (l) w0 kG ?_);simp only[pS]
 refine z0w rfl 32 #[l] kG (R:=fun v w'=> ∃x y,v= .tuple #[.agg #[A G x,A G y],.nilIface]/\Below w0.heap.size w0 w') ((zDq (HL.out.later hb0) HLe.out).mono fun e w' ⟨x,y,h1,h2⟩=>⟨_,h1,x,y,rfl,h2⟩) ?_;rintro v w1 ⟨x,y,rfl,hb1⟩;simp only[pS];have hbw:=hb0.trans (hb1.mono hb0.size)
 (refine z00 rfl (.tuple #[.agg #[A G x,A G y],.nilIface]) w1 kG ?_);simp only[pS]
 (refine z00 rfl (.agg #[A G x,A G y]) w1 kG ?_);simp only[pS]
 (refine z00 rfl (.nilIface) w1 kG ?_);simp only[pS]
 (refine z00 rfl (pT (some ⟨w1.heap.size,0,none⟩)) (w1.alloc (cT #[A G 0,A G 0] 113)) kG ?_);simp only[pS]
 refine wpList_store_row rfl 113 (.tmp 9) (.tmp 23) rfl w1.heap.size #[A G x,A G y] rfl rfl 113 #[A G 0,A G 0] (heap_alloc_new w1 _) Tryz.infoBd rfl kR ?_;simp only[pS];have hb2:=z14 (hbw.alloc hbw.size (cT #[A G 0,A G 0] 113)) hbw.size #[A G x,A G y];generalize (w1.alloc (cT #[A G 0,A G 0] 113)).setRow w1.heap.size #[A G x,A G y]=w2 at hb2⊢;clear hbw hb1 hb0 hF;have HCL:Hid (∀W:World,Below w.heap.size w W->Calls tP 35 #[l] W fun e w'=> ∃g cap,e= rT (.slice (some ⟨g,0,none⟩) xs.length cap)/\w.heap.size<=g/\Below w.heap.size w w'/\w'.ownsRow w.heap.size 121 6 (.slice (some ⟨g,0,none⟩) xs.length cap) xs.length (z27 xs)):=fun W hW=>(zLn (HL.out.later hW) HLe.out.1 HLe.out.2.1).mono fun e w' ⟨g,cap,h1,h2,h3,h4⟩=>⟨g,cap,h1,Nat.le_trans hW.size h2,hW.trans (h3.mono hW.size),z42 h4 hW.size⟩;go_upto_region 7 with fail
 go_cut [] (fun wx=>Hid (∃g cap,w.heap.size<=g/\Kept B w wx/\FnAt wx B (fun j=>if j=k*317+I*19+2 then Value.slice (some ⟨g,0,none⟩) xs.length cap else d.cell j)/\wx.ownsRow w.heap.size 121 6 (.slice (some ⟨g,0,none⟩) xs.length cap) xs.length (z27 xs)))
 case first=>
  have cf:=FnAt.frozen (HD.out.later hb2).at_ (k*317+I*19+2);have cs:=z4t (HD.out.later hb2).at_ hk hI8 (show 2<19 by decide);go_region_with (go_at_call 35;refine(HCL.out _ (by first|exact hb2|exact hb2.drew|exact hb2.drew.drew|exact below_drewN hb2 _)).mono ?_;rintro e w3 ⟨g,cap,rfl,hg3,hb3,ho3⟩;have cf3:=FnAt.frozen (HD.out.later hb3).at_ (k*317+I*19+2);have cs3:=z4t (HD.out.later hb3).at_ hk hI8 (show 2<19 by decide))
  go_wp2_with fail;go_meet;exact⟨g,cap,hg3,z0v (z09 hb3 B) _ _,FnAt.set (HD.out.later hb3).at_ _ _,World.ownsRow.kept ho3 (z0v (z12 B w3) _ _) (Or.inr fun e=>by have:=(World.ownsRow.lt ho3 _ e).1;omega)⟩
 obtain⟨g,cap,hg,hkp,hfn,ho⟩:=hcut.out;clear hcut;have hgl:=zWn ho;obtain⟨q,HQ⟩: ∃q:Pg,Hid (({(d.g k).ps.getD I pg0 with sl:= .slice (some ⟨g,0,none⟩) xs.length cap,xs:=xs}:Pg)=q):=⟨_,rfl⟩;have q1:q.id=((d.g k).ps.getD I pg0).id:=by rw[<-HQ.out]
 have q2:q.rank=((d.g k).ps.getD I pg0).rank:=by rw[<-HQ.out]
 have q3:q.tab=((d.g k).ps.getD I pg0).tab:=by rw[<-HQ.out]
 have q4:q.xs=xs:=by rw[<-HQ.out]
 have q5:q.sl= .slice (some ⟨g,0,none⟩) xs.length cap:=by rw[<-HQ.out]
 have hdk:z0d wc B (d.put k {d.g k with ps:=(d.g k).ps.set I q}):=FnAt.ext hfn fun j hj=>by rw[zS2 d q hk HN.out (HD.out.few k hk) q1 q2 q3 j hj,q5]
 have hpq:PgOk wc B q:=by
  refine⟨⟨g,cap,by rw[q5,q4],hgl,by omega,?_⟩,by rw[q4];exact HLe.out.1,by rw[q4];exact HLe.out.2.1,by rw[q4];exact HLe.out.2.2.1,by rw[q4];exact HL.out.nums,?_,by rw[q5];exact zC9.row ho⟩
  ·rw[q4];exact zAg ho rfl
  ·rw[q3];exact(HD.out.ps k hk _ (zLb pg0 HN.out)).tab
 have HR:Hid (Kept B w wc/\ ∃q:Pg,q.id=((d.g k).ps.getD I pg0).id/\q.rank=((d.g k).ps.getD I pg0).rank/\q.tab=((d.g k).ps.getD I pg0).tab/\q.xs=xs/\PgOk wc B q/\z0d wc B (d.put k {d.g k with ps:=(d.g k).ps.set I q})):=⟨hkp,q,q1,q2,q3,q4,hpq,hdk⟩;clear hkp hfn ho hgl hdk hpq q1 q2 q3 q4 q5 HQ;go_wp2_with fail;go_ret;exact⟨rfl,HR.out⟩
end
section
attribute [local simp] z0p z0j z04
theorem zXl{o:Oper}{u:Act}(V:World)(B k I:Nat)(x y:Operand)(ho:o.op= .slice 64 x (some y) none none)(hx:u.eval x= pT (some ⟨B,k*317,none⟩))(hy:u.eval y=A G (I:Int))(hI:I<=7):(execOp u.eval o).run tP V= .ok (.value (.slice (some ⟨B,k*317+I*19,none⟩) (8-I) (8-I))) V:=by
 have s1:(0:Int)<=(I:Int):=kO;have s2:(I:Int)<=8:=kO;unfold execOp;simp only[ho,hx,hy,Option.map_some,Option.map_none];go_simp;try omega
theorem zXk{o:Oper}{u:Act}(V:World)(B k I n:Nat)(x y z:Operand)(ho:o.op= .slice 64 x (some y) (some z) none)(hx:u.eval x= pT (some ⟨B,k*317,none⟩))(hy:u.eval y=A G ((I:Int)+1))(hz:u.eval z=A G (n:Int))(hI:I+1<=n)(hn:n<=8):(execOp u.eval o).run tP V= .ok (.value (.slice (some ⟨B,(if I=7 then k*317 else k*317+(I+1)*19),none⟩) (n-1-I) (7-I))) V:=by
 have s1:(0:Int)<=(I:Int)+1:=kO;have s2:(I:Int)+1<=(n:Int):=kO;have s3:(0:Int)<=(n:Int):=kO;have s4:(n:Int)<=8:=kO
 by_cases c:I=7
 ·rw[if_pos c]
  subst c;obtain rfl:n=8:=by omega
  have hy8:u.eval y=A G 8:=hy;have hz8:u.eval z=A G 8:=hz;clear s1 s2 s3 s4 hI hn hy hz;unfold execOp;simp only[ho,hx,hy8,hz8,Option.map_some,Option.map_none];go_simp;try rfl
 rw[if_neg c];have e1:n-1-I=n-(I+1):=kO;have e2:7-I=8-(I+1):=kO;rw[e1,e2];clear e1 e2;unfold execOp;simp only[ho,hx,hy,hz,Option.map_some,Option.map_none];go_simp;try omega
theorem zS4(d:Dsk){k I n:Nat}(hk:k<3)(hn:(d.g k).ps.length=n)(h8:n<=8)(hI:I<n)(j:Nat)(_:j<952):
  (d.put k {d.g k with ps:=(d.g k).ps.eraseIdx I}).cell j=if k*317+(n-1)*19<=j/\j<k*317+(n-1)*19+(pgCs pg0).toList.length then(pgCs pg0).toList.getD (j-(k*317+(n-1)*19)) undef else if j=k*317+152 then A G ((n:Int)-1)else if k*317+I*19<=j/\j<k*317+I*19+((List.range ((n-1-I)*19)).map fun t=>d.cell (k*317+(I+1)*19+t)).length then((List.range ((n-1-I)*19)).map fun t=>d.cell (k*317+(I+1)*19+t)).getD (j-(k*317+I*19)) undef else d.cell j:=by
 have hl:(pgCs pg0).toList.length=19:=rfl;have hc:((List.range ((n-1-I)*19)).map fun t=>d.cell (k*317+(I+1)*19+t)).length=(n-1-I)*19:=by rw[List.length_map,List.length_range]
 have hel:((d.g k).ps.eraseIdx I).length=n-1:=by rw[List.length_eraseIdx,if_pos kO,hn]
 rw[hl,hc,z4p d _ hk]
 by_cases c:k*317<=j/\j<k*317+317
 ·rw[if_pos c]
  obtain⟨x,rfl⟩: ∃x,j=k*317+x:=⟨j-k*317,by omega⟩;rw[Nat.add_sub_cancel_left]
  by_cases c1:x<154
  ·unfold z17
   dsimp only;rw[if_pos c1];unfold z25
   by_cases c2:x<152
   ·rw[if_pos c2,List.getD_eq_getElem?_getD,List.getElem?_eraseIdx]
    by_cases c3:(n-1)*19<=x/\x<(n-1)*19+19
    ·rw[if_pos (show(k*317+(n-1)*19<=k*317+x/\k*317+x<k*317+(n-1)*19+19)by omega),if_neg (show¬x/19<I by omega),List.getElem?_eq_none kO,show k*317+x-(k*317+(n-1)*19)=x%19 by omega,zEc pg0 kO]
     rfl
    ·rw[if_neg (show¬(k*317+(n-1)*19<=k*317+x/\k*317+x<k*317+(n-1)*19+19)by omega),if_neg (show¬(k*317+x=k*317+152)by omega)]
     by_cases c4:I*19<=x/\x<I*19+(n-1-I)*19
     ·rw[if_pos (show(k*317+I*19<=k*317+x/\k*317+x<k*317+I*19+(n-1-I)*19)by omega),if_neg (show¬x/19<I by omega),List.getD_eq_getElem?_getD,List.getElem?_map,List.getElem?_range kO]
      show _=d.cell (k*317+(I+1)*19+(k*317+x-(k*317+I*19)));rw[show k*317+(I+1)*19+(k*317+x-(k*317+I*19))=k*317+(x+19)by omega,z1w d hk kO];unfold z17;rw[if_pos (show x+19<154 by omega)];unfold z25;rw[if_pos (show x+19<152 by omega),List.getD_eq_getElem?_getD,show(x+19)/19=x/19+1 by omega,show(x+19)%19=x%19 by omega]
     ·rw[if_neg (show¬(k*317+I*19<=k*317+x/\k*317+x<k*317+I*19+(n-1-I)*19)by omega),z1w d hk kO]
      unfold z17;rw[if_pos c1];unfold z25;rw[if_pos c2,List.getD_eq_getElem?_getD]
      by_cases c5:x/19<I
      ·rw[if_pos c5]
      ·rw[if_neg c5,List.getElem?_eq_none kO,List.getElem?_eq_none kO]
   ·rw[if_neg c2,if_neg (show¬(k*317+(n-1)*19<=k*317+x/\k*317+x<k*317+(n-1)*19+19)by omega)]
    by_cases c3:x=152
    ·rw[if_pos c3,if_pos (show(k*317+x=k*317+152)by omega),hel]
     congr 1;omega
    ·rw[if_neg c3,if_neg (show¬(k*317+x=k*317+152)by omega),if_neg (show¬(k*317+I*19<=k*317+x/\k*317+x<k*317+I*19+(n-1-I)*19)by omega),z1w d hk kO]
     unfold z17;rw[if_pos c1];unfold z25;rw[if_neg c2,if_neg c3]
  ·rw[if_neg (show¬(k*317+(n-1)*19<=k*317+x/\k*317+x<k*317+(n-1)*19+19)by omega),if_neg (show¬(k*317+x=k*317+152)by omega),if_neg (show¬(k*317+I*19<=k*317+x/\k*317+x<k*317+I*19+(n-1-I)*19)by omega),z1w d hk kO]
   unfold z17;dsimp only;rw[if_neg c1,if_neg c1]
 rw[if_neg c,if_neg (show¬(k*317+(n-1)*19<=j/\j<k*317+(n-1)*19+19)by omega),if_neg (show¬(j=k*317+152)by omega),if_neg (show¬(k*317+I*19<=j/\j<k*317+I*19+(n-1-I)*19)by omega)]
theorem zRu(B k:Nat)(hk:k<3)(d:Dsk)(M:Int)(id:Int)(w:World)(HD:Hid (DOk w B d M))(I:Nat)(HI:Hid (((d.g k).ps.findIdx fun p=>p.id==id)=I))(HIN:Hid (I<(d.g k).ps.length)):
  Calls tP 18 #[pT (some ⟨B,k*317,none⟩),A G id] w fun e w'=>e= rT .nilIface/\Kept B w w'/\z0d w' B (d.put k {d.g k with ps:=(d.g k).ps.eraseIdx I}):=by
 have hF:=z9r B k hk d id w HD.out.at_ (HD.out.few k hk) I HI HIN;obtain⟨n,HN⟩: ∃n,Hid ((d.g k).ps.length=n):=⟨_,rfl⟩;have h8:n<=8:=by have:=HD.out.few k hk;rw[HN.out]at this;exact this
 have hIn:I<n:=by have:=HIN.out;rw[HN.out]at this;exact this
 obtain⟨m,hm⟩: ∃m,n=m+1:=⟨n-1,by omega⟩;have HMN:Hid (n=m+1):=hm;have hm8:m<8:=kO;clear hm;have hI0:(0:Int)<=(I:Int):=kO;have hBl:=HD.out.at_.lt;have HP:Hid (∀k,k<3-> ∀p,p∈(d.g k).ps->p.sl.oneCell'=true):=HD.out.one;go_enter Tryz.func18,Tryz.ntmps18;go_upto_region 4 with(first|(go_at_call 29;refine hF.mono ?_;rintro e w3 ⟨rfl,hb3⟩)|fail)
 have hD3:=(HD.out.later hb3).at_;have hk3:Kept B w w3:=z09 hb3 B;have hK3:Blk w3 [(B,cT (Array.ofFn (n:=952) fun i=>Dsk.cell d i.1) 72 (0,0))] w3:=(Blk.nil (bF _ _)).cons hD3;clear hb3 hF hD3;have e1:IntKind.i64.wrap ((I:Int)+1)=(I:Int)+1:=by rw[IntWalk.i64_left,z08 kO kO]
 obtain⟨o1,HO1⟩: ∃o,Hid ((if I=7 then k*317 else k*317+(I+1)*19)=o):=⟨_,rfl⟩;refine z0o (C:=Blk w3 [(B,cT (Array.ofFn (n:=952) fun i=>Dsk.cell d i.1) 72 (0,0))]) (n0:=w3.heap.size) 15 [] [] kR kR (fun d _ _ _ _ h=>by cases d<;>exact h) (Blk.stable _ _) (fun w2 h=>h.1.size) hK3.drew trivial ?_;simp only[lV,lX,lY,lZ,lJ,Nat.reduceAdd]
 repeat(first
  |(refine z0q kI ?_;simp only[pS])
  |(refine z0c kI (v:= .slice (some ⟨B,k*317+I*19,none⟩) (8-I) (8-I)) (fun w2 hC=>zXl w2 B k I _ _ rfl rfl rfl kO) ?_;simp only[pS])
  |(refine z0c kI (v:= .slice (some ⟨B,o1,none⟩) (n-1-I) (7-I)) (fun w2 hC=>by rw[<-HO1.out];exact zXk w2 B k I n _ _ _ rfl rfl rfl rfl kO h8) ?_;simp only[pS])
  |(refine z0c kI (v:=?_) ?_ ?_;rotate_left;(intro w2 hC;have hDk:z0d _ B d:=(hC.2 _ mcS);have c0:World.cell? _ ⟨B,k*317+152,none⟩=some (A G (n:Int)):=(by have h:=z21 hDk hk;rw[HN.out]at h;exact h);go_simp;try with_reducible rfl);simp only[pS]))
 refine z11 ?_;intro w4 hC hB4;have hDk:z0d _ B d:=(hC.2 _ mcS);have c0:World.cell? _ ⟨B,k*317+152,none⟩=some (A G (n:Int)):=(by have h:=z21 hDk hk;rw[HN.out]at h;exact h);have hlen:((List.range ((n-1-I)*19)).map fun t=>d.cell (k*317+(I+1)*19+t)).length=(n-1-I)*19:=by rw[List.length_map,List.length_range]
 have hmin:Nat.min (n-1-I) (8-I)=n-1-I:=Nat.min_eq_left kO
 have hcopy:=z54 (P:=tP) w4 105 105 3 63 B (k*317+I*19) (8-I) (8-I) ⟨B,o1,none⟩ (n-1-I) (7-I) 19 ((List.range ((n-1-I)*19)).map fun t=>d.cell (k*317+(I+1)*19+t)) Tryz.underlying105 Tryz.infoPg (by rw[hlen,hmin]) (fun j v hv=>by
   have hj:j<(n-1-I)*19:=by have:=(List.getElem?_eq_some_iff.1 hv).1;rw[hlen]at this;exact this
   rw[List.getElem?_map,List.getElem?_range hj]at hv;have ho:o1=k*317+(I+1)*19:=by rw[<-HO1.out,if_neg kO]
   rw[Addr.add_mid,ho,FnAt.at hDk _ kO];exact hv) (fun j hj=>by rw[hlen]at hj;rw[FnAt.at hDk _ kO];rfl) (fun j hj=>FnAt.frozen hDk _) (fun v hv=>by
   obtain⟨t,ht,rfl⟩:=List.mem_map.1 hv;rw[List.mem_range]at ht;exact zBj d HP.out _ kO)
 (refine z00 rfl (goInt (Nat.min (n-1-I) (8-I))) (w4.setCells B (k*317+I*19) ((List.range ((n-1-I)*19)).map fun t=>d.cell (k*317+(I+1)*19+t))) (zF7 _ _ (.tmp 20) (.tmp 30) _ _ _ _ _ rfl rfl rfl hcopy) ?_);simp only[pS]
 obtain⟨f1,HE1⟩: ∃f1:Nat->Value,Hid ((fun j=>if k*317+I*19<=j/\j<k*317+I*19+((List.range ((n-1-I)*19)).map fun t=>d.cell (k*317+(I+1)*19+t)).length then((List.range ((n-1-I)*19)).map fun t=>d.cell (k*317+(I+1)*19+t)).getD (j-(k*317+I*19)) undef else d.cell j)=f1):=⟨_,rfl⟩;have hF1:FnAt (w4.setCells B (k*317+I*19) ((List.range ((n-1-I)*19)).map fun t=>d.cell (k*317+(I+1)*19+t))) B f1:=by rw[<-HE1.out];exact FnAt.setCells hDk ((List.range ((n-1-I)*19)).map fun t=>d.cell (k*317+(I+1)*19+t)) (k*317+I*19)
 have hKp:=z1y (z1x hk3 hC.1) (k*317+I*19) ((List.range ((n-1-I)*19)).map fun t=>d.cell (k*317+(I+1)*19+t));have q1:f1 (k*317+152)=A G (n:Int):=by rw[<-HE1.out];dsimp only;rw[if_neg (by rw[hlen];omega),z1w d hk kO];have h:=HN.out;rw[<-h];rfl
 clear hC hDk c0 hcopy hK3 hB4 hk3;generalize w4.setCells B (k*317+I*19) ((List.range ((n-1-I)*19)).map fun t=>d.cell (k*317+(I+1)*19+t))=w4' at hF1 hKp⊢;have c1:=hF1.at (k*317+152) kO;rw[q1]at c1;have cf:=hF1.frozen (k*317+152);have e2:IntKind.i64.wrap ((n:Int)-1)=(m:Int):=by rw[IntWalk.i64_left,z08 kO kO];have:=HMN.out;omega
 go_upto_region 6 with fail
 obtain⟨f2,HE2⟩: ∃f2:Nat->Value,Hid ((fun j=>if j=k*317+152 then A G (m:Int)else f1 j)=f2):=⟨_,rfl⟩;have HC2:Hid (some (f2 (k*317+152))=some (A G (m:Int))):=by rw[<-HE2.out];exact congrArg some (if_pos rfl)
 have hF2:FnAt (w4'.setCell ⟨B,k*317+152,none⟩ (A G (m:Int))) B f2:=by rw[<-HE2.out];exact hF1.set (k*317+152) _
 have hKp2:=z0v hKp (k*317+152) (A G (m:Int));clear hF1 hKp c1 cf q1 e1;generalize w4'.setCell ⟨B,k*317+152,none⟩ (A G (m:Int))=w5 at hF2 hKp2⊢;have hm0:(0:Int)<=(m:Int):=kO;have hm1:(m:Int)<8:=kO;have hK5:Blk w5 [(B,cT (Array.ofFn (n:=952) fun i=>f2 i.1) 72 (0,0))] w5:=(Blk.nil (bF _ _)).cons hF2;clear hF2;refine z0o (C:=Blk w5 [(B,cT (Array.ofFn (n:=952) fun i=>f2 i.1) 72 (0,0))]) (n0:=w5.heap.size) 9 [] [] kR kR (fun d _ _ _ _ h=>by cases d<;>exact h) (Blk.stable _ _) (fun w2 h=>h.1.size) hK5.drew trivial ?_;simp only[lV,lX,lY,lZ,lJ,Nat.reduceAdd]
 repeat(first
  |(refine z0q kI ?_;simp only[pS])
  |(refine z0c kI (v:=?_) ?_ ?_;rotate_left;(intro w2 hC;have hDk:FnAt _ B f2:=(hC.2 _ mcS);have c0:World.cell? _ ⟨B,k*317+152,none⟩=some (A G (m:Int)):=(FnAt.at hDk _ kO).trans HC2.out;go_simp;try with_reducible rfl);simp only[pS]))
 refine z11 ?_;intro w6 hC hB6;have hDk:FnAt _ B f2:=(hC.2 _ mcS);have c0:World.cell? _ ⟨B,k*317+152,none⟩=some (A G (m:Int)):=(FnAt.at hDk _ kO).trans HC2.out;have hth:=FnAt.there hDk (o:=k*317+m*19) (n:=19) kO;refine wpList_store_mid rfl 63 _ _ rfl B (k*317+m*19) (pgCs pg0) kG rfl hth Tryz.infoPg (zWr rfl) ?_;simp only[pS];have hF3:=FnAt.setCells hDk (pgCs pg0).toList (k*317+m*19);have hKp3:=z1y (z1x hKp2 hC.1) (k*317+m*19) (pgCs pg0).toList;clear hC hDk c0 hth hK5 hKp2 hB6;generalize w6.setCells B (k*317+m*19) (pgCs pg0).toList=w7 at hF3 hKp3⊢
 have hF4:z0d w7 B (d.put k {d.g k with ps:=(d.g k).ps.eraseIdx I}):=FnAt.ext hF3 fun j hj=>by
  have e:=zS4 d hk HN.out h8 hIn j hj;have e3:n-1=m:=by have:=HMN.out;omega
  have e4:(n:Int)-1=(m:Int):=by have:=HMN.out;omega
  rw[e3,e4]at e;rw[e, <-HE2.out, <-HE1.out,e3]
 clear hF3;go_wp2_with fail;go_ret;exact⟨rfl,hKp3,hF4⟩
end
section
attribute [local simp] z0p z0j z04
theorem zV8(may:Nat->Int)(K:Nat)(hK:K<3)(h0: ∀k,k<K->1<=may k)(h1: ∀k,k<K->may k<=1000)(hbad:may K<1\/1000<may K)(w:World):
  zR 4 #[.agg #[A G (may 0),A G (may 1),A G (may 2)]] w (.tuple #[pT none,.iface 30 (A G 2)]):=by
 have hK0:Blk w [(w.heap.size,cT #[A G (may 0),A G (may 1),A G (may 2)] 22 (0,0))] (w.alloc (cT #[A G (may 0),A G (may 1),A G (may 2)] 22)):=(Blk.nil ((bF _ _).alloc (Nat.le_refl _) _)).cons (heap_alloc_new w _);have hz0:(w.alloc (cT #[A G (may 0),A G (may 1),A G (may 2)] 22)).heap.size=w.heap.size+1:=by simp
 go_enter Tryz.func4,Tryz.ntmps4;go_upto_region 1 with fail
 generalize w.alloc (cT #[A G (may 0),A G (may 1),A G (may 2)] 22)=w0 at hK0 hz0⊢;go_step;refine wpList_buildTo rfl 72 #[] rfl (some 7) rfl z2v (by simpa using zDf) ?_;simp only[pS]
 (refine z00 rfl (pT (some ⟨w.heap.size+1,0,none⟩)) (w0.alloc (cT z2v 72)) (by rw[<-hz0];go_simp;try rfl) ?_);simp only[pS]
 have hb1:Below w.heap.size w (w0.alloc (cT z2v 72)):=hK0.1.alloc hK0.1.size _;have hm1:=(heap_alloc_old w0 (cT z2v 72) (hK0.lt mcS)).trans (hK0.2 _ mcS);have hd1:z0d (w0.alloc (cT z2v 72)) (w.heap.size+1) (z48 may 0):=by rw[zCp, <-hz0];exact heap_alloc_new w0 _
 clear hK0;generalize w0.alloc (cT z2v 72)=w1 at hb1 hm1 hd1⊢;have HI:Hid (Below w.heap.size w w1/\z0d w1 (w.heap.size+1) (z48 may 0)):=⟨hb1,hd1⟩;go_upto_region 2 with fail
 go_step;refine wpList_load_row rfl 22 (.tmp 1) rfl w.heap.size rfl 22 #[A G (may 0),A G (may 1),A G (may 2)] (0,0) _ hm1 Tryz.underlying22 rfl (zWx _ _ _) ?_;simp only[pS];clear hb1 hm1 hd1;go_upto_region 3 with fail
 go_loopw [10] (fun kv wr=> ∃k:Nat,kv=A G k/\k<=K/\Hid (Below w.heap.size w wr/\z0d wr (w.heap.size+1) (z48 may k))) (fun kv _=>3-(intOf kv).toNat)
 case atStart=>exact⟨0,rfl,Nat.zero_le _,HI.out⟩
 case round=>
  obtain⟨k,rfl,hk3,H⟩:=hrel;clear HI
  by_cases hkK:k<K
  ·have a0:=h0 k hkK
   have a1:=h1 k hkK;have hk:k<3:=kO;have cf:=FnAt.frozen H.out.2 (k*317+315);have c0:=zA2 H.out.2 hk
   have HN:Hid (Below w.heap.size w (wr.setCell ⟨w.heap.size+1,k*317+315,none⟩ (A G (may k)))/\z0d (wr.setCell ⟨w.heap.size+1,k*317+315,none⟩ (A G (may k))) (w.heap.size+1) (z48 may (k+1))):=by
    refine⟨H.out.1.setCell (show w.heap.size<=w.heap.size+1 by omega) _,?_⟩;rw[zCq];exact FnAt.ext (FnAt.set H.out.2 (k*317+315) _) fun j hj=>zLq (z48 may k) (may k) hk j hj
   have t1:decide (may k<1)=false:=decide_eq_false kO;have t2:decide (1000<may k)=false:=decide_eq_false kO;rcases(show k=0\/k=1 by omega)with rfl|rfl
   ·simp only[Nat.zero_mul,Nat.one_mul,Nat.zero_add,Nat.reduceMul,Nat.reduceAdd]at c0 cf HN t1 t2
    push_cast
    go_upto_region 4 with fail
    go_step
    (refine z00 rfl (A G 0) wr kG ?_);simp only[pS]
    (refine z00 rfl (A G (may 0)) wr kR ?_);simp only[pS]
    go_wp2_with fail;go_roundw
    case rel=>exact⟨1,by go_num,by omega,HN.out⟩
    case measure=>simp[intOf]
   ·simp only[Nat.zero_mul,Nat.one_mul,Nat.zero_add,Nat.reduceMul,Nat.reduceAdd]at c0 cf HN t1 t2
    push_cast
    go_upto_region 4 with fail
    go_step
    (refine z00 rfl (A G 1) wr kG ?_);simp only[pS]
    (refine z00 rfl (A G (may 1)) wr kR ?_);simp only[pS]
    go_wp2_with fail;go_roundw
    case rel=>exact⟨2,by go_num,by omega,HN.out⟩
    case measure=>simp[intOf]
  ·have hke:k=K:=kO
   subst hke;have hbw:=H.out.1;clear H h0 h1
   by_cases c:may k<1
   ·have t1:decide (may k<1)=true:=decide_eq_true c
    clear c hbad;rcases(show k=0\/k=1\/k=2 by omega)with rfl|rfl|rfl
    ·push_cast
     go_upto_region 4 with fail
     go_step
     (refine z00 rfl (A G 0) wr kG ?_);simp only[pS]
     (refine z00 rfl (A G (may 0)) wr kR ?_);simp only[pS]
     go_wp2_with fail;exact bodyPost_ret (v:= .tuple #[pT none,.iface 30 (A G 2)]) (by simp[results,Tryz.results4,go_sem, *]) rfl ⟨rfl,hbw⟩
    ·push_cast
     go_upto_region 4 with fail
     go_step
     (refine z00 rfl (A G 1) wr kG ?_);simp only[pS]
     (refine z00 rfl (A G (may 1)) wr kR ?_);simp only[pS]
     go_wp2_with fail;exact bodyPost_ret (v:= .tuple #[pT none,.iface 30 (A G 2)]) (by simp[results,Tryz.results4,go_sem, *]) rfl ⟨rfl,hbw⟩
    ·push_cast
     go_upto_region 4 with fail
     go_step
     (refine z00 rfl (A G 2) wr kG ?_);simp only[pS]
     (refine z00 rfl (A G (may 2)) wr kR ?_);simp only[pS]
     go_wp2_with fail;exact bodyPost_ret (v:= .tuple #[pT none,.iface 30 (A G 2)]) (by simp[results,Tryz.results4,go_sem, *]) rfl ⟨rfl,hbw⟩
   ·have t1:decide (may k<1)=false:=decide_eq_false c
    have t2:decide (1000<may k)=true:=decide_eq_true kO;clear c hbad;rcases(show k=0\/k=1\/k=2 by omega)with rfl|rfl|rfl
    ·push_cast
     go_upto_region 4 with fail
     go_step
     (refine z00 rfl (A G 0) wr kG ?_);simp only[pS]
     (refine z00 rfl (A G (may 0)) wr kR ?_);simp only[pS]
     go_wp2_with fail;exact bodyPost_ret (v:= .tuple #[pT none,.iface 30 (A G 2)]) (by simp[results,Tryz.results4,go_sem, *]) rfl ⟨rfl,hbw⟩
    ·push_cast
     go_upto_region 4 with fail
     go_step
     (refine z00 rfl (A G 1) wr kG ?_);simp only[pS]
     (refine z00 rfl (A G (may 1)) wr kR ?_);simp only[pS]
     go_wp2_with fail;exact bodyPost_ret (v:= .tuple #[pT none,.iface 30 (A G 2)]) (by simp[results,Tryz.results4,go_sem, *]) rfl ⟨rfl,hbw⟩
    ·push_cast
     go_upto_region 4 with fail
     go_step
     (refine z00 rfl (A G 2) wr kG ?_);simp only[pS]
     (refine z00 rfl (A G (may 2)) wr kR ?_);simp only[pS]
     go_wp2_with fail;exact bodyPost_ret (v:= .tuple #[pT none,.iface 30 (A G 2)]) (by simp[results,Tryz.results4,go_sem, *]) rfl ⟨rfl,hbw⟩
theorem DOk.gone{w w':World}{B k:Nat}{d:Dsk}{M:Int}{I:Nat}(h:DOk w B d M)(hk:k<3)(hkp:Kept B w w')(hD:z0d w' B (d.put k {d.g k with ps:=(d.g k).ps.eraseIdx I})):DOk w' B (d.put k {d.g k with ps:=(d.g k).ps.eraseIdx I}) M:=by
 refine⟨hD,?_,?_,?_,?_,?_,?_,?_,?_,?_,?_,h.ran0,h.ran1⟩<;>intro j hj<;>rw[z3t]<;>split
 ·exact fun p hp=>(h.ps k hk p (List.mem_of_mem_eraseIdx hp)).kept hkp
 ·exact fun p hp=>(h.ps j hj p hp).kept hkp
 ·show((d.g k).ps.eraseIdx I).length<=8;have:=List.length_eraseIdx_le (d.g k).ps I;have:=h.few k hk;omega
 ·exact h.few j hj
 ·exact h.evs k hk
 ·exact h.evs j hj
 ·exact h.told k hk
 ·exact h.told j hj
 ·exact h.may0 k hk
 ·exact h.may0 j hj
 ·exact h.may1 k hk
 ·exact h.may1 j hj
 ·exact h.left0 k hk
 ·exact h.left0 j hj
 ·exact h.left1 k hk
 ·exact h.left1 j hj
 ·exact h.last0 k hk
 ·exact h.last0 j hj
 ·exact h.last1 k hk
 exact h.last1 j hj
theorem DOk.swap{w w':World}{B k:Nat}{d:Dsk}{M:Int}{I:Nat}{q:Pg}(hq:PgOk w' B q)(h:DOk w B d M)(hk:k<3)(hkp:Kept B w w')(hD:z0d w' B (d.put k {d.g k with ps:=(d.g k).ps.set I q})):DOk w' B (d.put k {d.g k with ps:=(d.g k).ps.set I q}) M:=by
 refine⟨hD,?_,?_,?_,?_,?_,?_,?_,?_,?_,?_,h.ran0,h.ran1⟩<;>intro j hj<;>rw[z3t]<;>split
 ·exact fun p hp=>(List.mem_or_eq_of_mem_set hp).elim (fun hp=>(h.ps k hk p hp).kept hkp) (fun e=>by rw[e];exact hq)
 ·exact fun p hp=>(h.ps j hj p hp).kept hkp
 ·show((d.g k).ps.set I q).length<=8;rw[List.length_set];exact h.few k hk
 ·exact h.few j hj
 ·exact h.evs k hk
 ·exact h.evs j hj
 ·exact h.told k hk
 ·exact h.told j hj
 ·exact h.may0 k hk
 ·exact h.may0 j hj
 ·exact h.may1 k hk
 ·exact h.may1 j hj
 ·exact h.left0 k hk
 ·exact h.left0 j hj
 ·exact h.left1 k hk
 ·exact h.left1 j hj
 ·exact h.last0 k hk
 ·exact h.last0 j hj
 ·exact h.last1 k hk
 exact h.last1 j hj
end
end Go.Proofs.YtabjjgkmegcacaaGreatDoor
