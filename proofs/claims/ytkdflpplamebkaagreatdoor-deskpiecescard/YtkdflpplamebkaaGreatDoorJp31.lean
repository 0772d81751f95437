/-
A part of the proof of DeskPieces; its card says what is proved.
-/
import Derived.Test.YtkdflpplamebkaaGreatDoorJp30
set_option maxHeartbeats 40000000
set_option maxRecDepth 1000000
set_option linter.defProp false
set_option linter.unusedVariables false
set_option linter.unusedSimpArgs false
open List renaming length_cons → lQ
namespace Go.Proofs.YtkdflpplamebkaaGreatDoor
open Go.ChangeShapes Go.WideShapes Go.ChangeAt Go.RowKit
def evGo(d:Dsk)(k:Nat)(T:Nat->Int)(rest:List (Nat->Int)):Dsk×Sd:=
 ({d.put k {d.g k with ps:=(z08 T d.ran (d.g k).ps sd0).2,evs:=rest,left:=(d.g k).left-((z08 T d.ran (d.g k).ps sd0).1.steps+1)}with ran:=d.ran+1},(z08 T d.ran (d.g k).ps sd0).1)
def z2h(k:Nat):Nat->Dsk->List Sd->Dsk×List Sd
 |0,d,l=>(d,l)
 |f+1,d,l=>match (d.g k).evs with
  |[]=>(d,l)
  |T::rest=>if 0<(d.g k).left then z2h k f (evGo d k T rest).1 (l++[(evGo d k T rest).2])else(d,l)
def z69(d:Dsk)(k:Nat):Dsk:=d.put k {d.g k with left:=(d.g k).left+(d.g k).may}
def z5y(d:Dsk)(k:Nat):Dsk:=if(d.g k).evs.length=0 then d.put k {d.g k with left:=min (d.g k).left 0}else d
def z1z(d:Dsk)(k:Nat):Dsk×List Sd:=
 (z5y (z2h k 20 (z69 d k) []).1 k,(z2h k 20 (z69 d k) []).2)
theorem z5g{w:World}{B:Nat}{T:Nat->Int}{time:Int}(hT: ∀i,i<8->In64 (T i))(ht:In64 time): ∀(ps:List Pg)(s:Sd),(∀p,p∈ps->PgOk w B p)->
  (z08 T time ps s).2.length=ps.length/\s.steps<=(z08 T time ps s).1.steps/\(z08 T time ps s).1.steps<=s.steps+200*(ps.length:Int)/\(∀p,p∈(z08 T time ps s).2->PgOk w B p)/\(z08 T time ps s).1.out.length<=s.out.length+50*ps.length
 |[],s,_=>⟨rfl,Int.le_refl _,by simp[z08],by simp[z08],by simp[z08]⟩
 |p::ps,s,h=>by
  obtain⟨r1,r2,r3,r4, -⟩:=(h p mcS).small T time hT ht
  have hran:PgOk w B (p.ran (p.run T time)):=by
   have q:=h p mcS;exact⟨q.lies,q.some,q.few,q.right,q.nums,r4,q.tag⟩
  have m1:(s.more p (p.run T time)).steps=s.steps+(p.run T time).steps:=rfl;have m2:(s.more p (p.run T time)).out=s.out++(p.run T time).out:=rfl;rw[z08]
  by_cases c:(p.run T time).num=0
  ·rw[if_pos c]
   obtain⟨i1,i2,i3,i4,i5⟩:=z5g hT ht ps (s.more p (p.run T time)) (fun q hq=>h q (mcO _ hq));refine⟨?_,?_,?_,?_,?_⟩
   ·show _+1=_;rw[i1];rfl
   ·show s.steps<=(z08 T time ps (s.more p (p.run T time))).1.steps;omega
   ·show(z08 T time ps (s.more p (p.run T time))).1.steps<=_;rw[lQ];omega
   ·intro q hq
    rcases List.mem_cons.1 hq with rfl|hq
    ·exact hran
    ·exact i4 q hq
   ·show(z08 T time ps (s.more p (p.run T time))).1.out.length<=_
    rw[m2,List.length_append]at i5;rw[lQ];omega
  ·rw[if_neg c]
   refine⟨rfl,?_,?_,?_,?_⟩
   ·show s.steps<=(s.more p (p.run T time)).steps;omega
   ·show(s.more p (p.run T time)).steps<=_;rw[lQ];omega
   ·intro q hq
    rcases List.mem_cons.1 hq with rfl|hq
    ·exact hran
    ·exact h q (mcO _ hq)
   ·show(s.more p (p.run T time)).out.length<=_
    rw[m2,List.length_append,lQ];omega
structure DOk (w:World) (B:Nat) (d:Dsk) (M:Int):Prop where
 at_:z0f w B d
 ps: ∀k,k<3-> ∀p,p∈(d.g k).ps->PgOk w B p
 few: ∀k,k<3->(d.g k).ps.length<=8
 evs: ∀k,k<3->(d.g k).evs.length<=20
 told: ∀k,k<3-> ∀T,T∈(d.g k).evs-> ∀i,i<8->In64 (T i)
 may0: ∀k,k<3->1<=(d.g k).may
 may1: ∀k,k<3->(d.g k).may<=1000
 left0: ∀k,k<3-> -1601<=(d.g k).left
 left1: ∀k,k<3->(d.g k).left<=2000
 last0: ∀k,k<3->0<=(d.g k).last
 last1: ∀k,k<3->(d.g k).last<=M
 ran0:0<=d.ran
 ran1:d.ran<=M
theorem DOk.one{w:World}{B:Nat}{d:Dsk}{M:Int}(h:DOk w B d M): ∀k,k<3-> ∀p,p∈(d.g k).ps->p.sl.oneCell'=true:=fun k hk p hp=>(h.ps k hk p hp).one
theorem DOk.kept{w w':World}{B:Nat}{d:Dsk}{M:Int}(h:DOk w B d M)(hk:Kept B w w')(hD:z0f w' B d):DOk w' B d M:=
 ⟨hD,fun k hk3 p hp=>(h.ps k hk3 p hp).kept hk,h.few,h.evs,h.told,h.may0,h.may1,h.left0,h.left1,h.last0,h.last1,h.ran0,h.ran1⟩
theorem DOk.later{w w':World}{B:Nat}{d:Dsk}{M:Int}(h:DOk w B d M)(hb:Below w.heap.size w w'):DOk w' B d M:=h.kept (z0d hb B) (FnAt.later h.at_ hb)
theorem z3r(d:Dsk)(k:Nat)(x:Gt)(j:Nat):(d.put k x).g j=if j=k then x else d.g j:=rfl
theorem DOk.ev{w w':World}{B k:Nat}{d:Dsk}{M:Int}{T:Nat->Int}{rest:List (Nat->Int)}(h:DOk w B d M)(hk:k<3)(hM:M<=1000000)(he:(d.g k).evs=T::rest)(hl:0<(d.g k).left)(hkp:Kept B w w')(hD:z0f w' B (evGo d k T rest).1):DOk w' B (evGo d k T rest).1 (M+1):=by
 have hT: ∀i,i<8->In64 (T i):=h.told k hk T (by rw[he];exact mcS);have hti:In64 d.ran:=⟨by have:=h.ran0;omega,by have:=h.ran1;omega⟩;obtain⟨c1,c2,c3,c4,c5⟩:=z5g (w:=w') (B:=B) hT hti (d.g k).ps sd0 (fun p hp=>(h.ps k hk p hp).kept hkp);have c2':0<=(z08 T d.ran (d.g k).ps sd0).1.steps:=c2;have c3':(z08 T d.ran (d.g k).ps sd0).1.steps<=0+200*((d.g k).ps.length:Int):=c3;have hf:=h.few k hk;have hl1:=h.left1 k hk;have e: ∀j,((evGo d k T rest).1.g j)=if j=k then{d.g k with ps:=(z08 T d.ran (d.g k).ps sd0).2,evs:=rest,left:=(d.g k).left-((z08 T d.ran (d.g k).ps sd0).1.steps+1)}else d.g j:=fun j=>rfl;have hr:(evGo d k T rest).1.ran=d.ran+1:=rfl;refine⟨hD,?_,?_,?_,?_,?_,?_,?_,?_,?_,?_,by rw[hr];have:=h.ran0;omega,by rw[hr];have:=h.ran1;omega⟩<;>intro j hj<;>rw[e j]<;>split
 ·exact c4
 ·exact fun p hp=>(h.ps j hj p hp).kept hkp
 ·show(z08 T d.ran (d.g k).ps sd0).2.length<=8;omega
 ·exact h.few j hj
 ·show rest.length<=20;have:=h.evs k hk;rw[he,lQ]at this;omega
 ·exact h.evs j hj
 ·exact fun T' hT'=>h.told k hk T' (by rw[he];exact mcO _ hT')
 ·exact h.told j hj
 ·exact h.may0 k hk
 ·exact h.may0 j hj
 ·exact h.may1 k hk
 ·exact h.may1 j hj
 ·show-1601<=(d.g k).left-((z08 T d.ran (d.g k).ps sd0).1.steps+1);omega
 ·exact h.left0 j hj
 ·show(d.g k).left-((z08 T d.ran (d.g k).ps sd0).1.steps+1)<=2000;omega
 ·exact h.left1 j hj
 ·exact h.last0 k hk
 ·exact h.last0 j hj
 ·show(d.g k).last<=M+1;have:=h.last1 k hk;omega
 have:=h.last1 j hj;omega
end Go.Proofs.YtkdflpplamebkaaGreatDoor
