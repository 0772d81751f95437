/-
A part of the proof of HookPlays; its card says what is proved.
-/
import Derived.Test.YtabjjgkmegcacaaGreatDoorJq4
set_option maxHeartbeats 40000000
open Go.Value renaming int → A
open Go.IntKind renaming i64 → F
open Go.RowKit.Below renaming alloc → bA, setCell → bS, drew → bD, refl → bF
set_option maxRecDepth 1000000
set_option linter.defProp false
set_option linter.unusedVariables false
set_option linter.unusedSimpArgs false
open Go.Ending renaming returned → rT
open Go.Value renaming pointer → pT
open Go.Obj renaming cells → cT
open Go.Proofs.Tryz renaming prog → tP
namespace Go.Proofs.YtabjjgkmegcacaaGreatDoor
section
open Go.RowKit
def Way.store(y:Way)(p v:Kno)(o:Int):Int×Way:=
 if(z0i p o).2≠0 then((z0i p o).2,y)
 else if p.k=2 then(6,y)
 else if v.k=0 then(8,y)
 else if p.k=4 then(z0s v,y)
 else if(z0i p o).1.1≠(z0i p o).1.2 then(2,y)
 else(0,y.putSlot ((z0i p o).1.1+16).toNat v)
theorem zPp{y:Way}{a:Abs}{p v:Kno}{vp vv:Val}{o:Int}(hy:y.Has a)(kp:p.Ok)(kv:v.Ok)(hp:p.Has vp)(hv:v.Has vv)(ho:In64 o)(h:(y.store p v o).1=0):
  (z2q a vp vv o).1=0/\(y.store p v o).2.Has (z2q a vp vv o).2:=by
 unfold Way.store at h⊢
 by_cases c1:(z0i p o).2≠0
 ·rw[if_pos c1]at h;exact absurd h c1
 rw[if_neg c1]at h⊢;obtain⟨r0,rk,rp,rt,b1,b2,m1,m2,r1⟩:=z96 kp ho hp (Classical.byContradiction c1)
 by_cases c2:p.k=2
 ·rw[if_pos c2]at h;exact absurd h (by show¬(6:Int)=0;decide)
 rw[if_neg c2]at h⊢
 by_cases c3:v.k=0
 ·rw[if_pos c3]at h;exact absurd h (by show¬(8:Int)=0;decide)
 rw[if_neg c3]at h⊢;have n3:vv.k≠0:=hv.some kv c3;unfold z2q;rw[if_neg (by rw[r0];decide),if_neg kO,if_neg n3]
 by_cases c4:p.k=4
 ·rw[if_pos c4]at h⊢
  obtain⟨-,w1, -⟩:=z5b hv h;rw[if_neg kO,if_neg kO];exact⟨rfl,hy.putCel⟩
 rw[if_neg c4]at h⊢;have c5:p.k=3:=kO
 by_cases c6:(z0i p o).1.1≠(z0i p o).1.2
 ·rw[if_pos c6]at h;exact absurd h (by show¬(2:Int)=0;decide)
 rw[if_neg c6];rw[if_pos c5]at r1;have e:wrap64 (vp.n+o)=(z0i p o).1.1:=by rw[rt]at c6⊢;omega
 rw[if_pos kO,r1,e];exact⟨rfl,hy.putSlot hv⟩
def Way.call(y:Way)(what:Int):Int×Way:=
 if(what=1\/what=3)/\z0s (y.reg 1)≠0 then(z0s (y.reg 1),y)
 else if what=1 then(0,y.lose.putReg 0 ⟨5,0,0⟩)
 else if what=2 then(0,y.lose.putReg 0 (z10 (-9223372036854775808) 9223372036854775807))
 else(0,y.lose.putReg 0 (z10 0 0))
theorem zVx{y:Way}{a:Abs}{what:Int}(ha:a.Ok)(hy:y.Has a)(hw:what=1\/what=2\/what=3)(h:(y.call what).1=0):
  (z4u a what).1=0/\(y.call what).2.Has (z4u a what).2:=by
 unfold Way.call at h⊢
 by_cases c1:(what=1\/what=3)/\z0s (y.reg 1)≠0
 ·rw[if_pos c1]at h;exact absurd h c1.2
 rw[if_neg c1];unfold z4u;have c2: ¬(what≠2/\z23 (a.reg 1)≠0):=fun e=>e.2 (z5b (hy.reg 1 kD) (Classical.byContradiction fun z=>c1 ⟨by omega,z⟩)).1;rw[if_neg c2];rcases hw with rfl|rfl|rfl
 ·rw[if_pos rfl,if_pos rfl]
  refine⟨rfl,hy.lose.putReg (Or.inr (Or.inr ⟨rfl,?_,?_⟩))⟩
  ·unfold z6o;split<;>rfl
  ·unfold z6o;split
   ·exact Or.inl rfl
   ·exact Or.inr rfl
 ·rw[if_neg kD,if_pos rfl,if_neg kD,if_pos rfl]
  exact⟨rfl,hy.lose.putReg (Kno.has_num ha.time.1 ha.time.2)⟩
 rw[if_neg kD,if_neg kD,if_neg kD,if_neg kD];exact⟨rfl,(Way.Has.give hy.lose).putReg (Kno.has_num (Int.le_refl _) (Int.le_refl _))⟩
def Way.change(y:Way)(c:Int)(d s:Nat)(r:Bool)(n:Int):Int×Way:=
 if(z1f c (y.reg d) (y.second s r n)).2=0 then(0,y.putReg d (z1f c (y.reg d) (y.second s r n)).1)else((z1f c (y.reg d) (y.second s r n)).2,y)
theorem z2o{y:Way}{s:Nat}{r:Bool}{n:Int}(hk:y.Ok)(hs:s<11)(hn:In64 n):(y.second s r n).Ok:=by
 cases r
 ·exact⟨by show(0:Int)<=1;decide,by show(1:Int)<=5;decide,hn,hn,Int.le_refl _⟩
 exact hk.reg s hs
theorem zOq{y:Way}{a:Abs}{c:Int}{d s:Nat}{r:Bool}{n:Int}(hk:y.Ok)(hy:y.Has a)(hc:1<=c/\c<=13)(hd:d<11)(hs:s<11)(hn:In64 n)(h:(y.change c d s r n).1=0):
  (z2i c (a.reg d) (a.second s r n)).2=0/\(y.change c d s r n).2.Has (a.putReg d (z2i c (a.reg d) (a.second s r n)).1):=by
 unfold Way.change at h⊢
 by_cases c1:(z1f c (y.reg d) (y.second s r n)).2=0
 ·rw[if_pos c1]
  have m:=zGm hc (hk.reg d hd) (z2o hk hs hn) (hy.reg d hd) (hy.second hs) c1;exact⟨m.1,hy.putReg m.2⟩
 rw[if_neg c1]at h;exact absurd h c1
end
def oppV(c:Int):Int:=if c=15 then 16 else if c=16 then 15 else if c=17 then 20 else if c=18 then 19 else if c=19 then 18 else if c=20 then 17 else if c=21 then 24 else if c=22 then 23 else if c=23 then 22 else if c=24 then 21 else 0
def cutV(al ah ol oh:Int):Int×Int:=
 if al=ah then(al,ah)else if ol=al/\oh=al then(al+1,ah)else if ol=ah/\oh=ah then(al,ah-1)else(al,ah)
def z2u(al ah bl bh:Int):(Int×Int)×Bool:=if max al bl<=min ah bh then((max al bl,min ah bh),true)else((0,0),false)
def belV(g al ah bl bh:Int):(Int×Int)×(Int×Int)×Bool:=if al<=ah/\al+g<=bh then((al,min ah (bh-g)),(max bl (al+g),bh),true)else((0,0),(0,0),false)
def unsV(g al ah bl bh:Int):(Int×Int)×(Int×Int)×Bool:=if bl<0 then((al,ah),(bl,bh),true)else belV g (max al 0) ah bl bh
def apV(al ah bl bh:Int):(Int×Int)×(Int×Int)×Bool:=if al=bl/\ah=bh/\ah=al then((0,0),(0,0),false)else(cutV al ah bl bh,cutV bl bh al ah,true)
def z3a(x:(Int×Int)×(Int×Int)×Bool):(Int×Int)×(Int×Int)×Bool:=(x.2.1,x.1,x.2.2)
def narV(c al ah bl bh:Int):(Int×Int)×(Int×Int)×Bool:=
 if c=15 then((z2u al ah bl bh).1,(z2u al ah bl bh).1,(z2u al ah bl bh).2)else if c=16 then apV al ah bl bh
 else if c=17 then z3a (unsV 1 bl bh al ah)else if c=18 then z3a (unsV 0 bl bh al ah)else if c=19 then unsV 1 al ah bl bh else if c=20 then unsV 0 al ah bl bh
 else if c=21 then z3a (belV 1 bl bh al ah)else if c=22 then z3a (belV 0 bl bh al ah)else if c=23 then belV 1 al ah bl bh else if c=24 then belV 0 al ah bl bh
 else((al,ah),(bl,bh),true)
theorem zIz(al ah bl bh:Int):narV 15 al ah bl bh=((z2u al ah bl bh).1,(z2u al ah bl bh).1,(z2u al ah bl bh).2):=by simp only[narV,reduceIte,Int.reduceEq]
theorem zIy(al ah bl bh:Int):narV 16 al ah bl bh=apV al ah bl bh:=by simp only[narV,reduceIte,Int.reduceEq]
theorem zIx(al ah bl bh:Int):narV 17 al ah bl bh=z3a (unsV 1 bl bh al ah):=by simp only[narV,reduceIte,Int.reduceEq]
theorem zIw(al ah bl bh:Int):narV 18 al ah bl bh=z3a (unsV 0 bl bh al ah):=by simp only[narV,reduceIte,Int.reduceEq]
theorem zIv(al ah bl bh:Int):narV 19 al ah bl bh=unsV 1 al ah bl bh:=by simp only[narV,reduceIte,Int.reduceEq]
theorem zIu(al ah bl bh:Int):narV 20 al ah bl bh=unsV 0 al ah bl bh:=by simp only[narV,reduceIte,Int.reduceEq]
theorem zIt(al ah bl bh:Int):narV 21 al ah bl bh=z3a (belV 1 bl bh al ah):=by simp only[narV,reduceIte,Int.reduceEq]
theorem zIs(al ah bl bh:Int):narV 22 al ah bl bh=z3a (belV 0 bl bh al ah):=by simp only[narV,reduceIte,Int.reduceEq]
theorem zIr(al ah bl bh:Int):narV 23 al ah bl bh=belV 1 al ah bl bh:=by simp only[narV,reduceIte,Int.reduceEq]
theorem zIq(al ah bl bh:Int):narV 24 al ah bl bh=belV 0 al ah bl bh:=by simp only[narV,reduceIte,Int.reduceEq]
theorem zQp{c:Int}(al ah bl bh:Int)(h:c<15\/24<c):narV c al ah bl bh=((al,ah),(bl,bh),true):=by
 have e: ∀k:Int,15<=k->k<=24->c≠k:=fun k h1 h2=>by omega
 unfold narV;rw[if_neg (e 15 kD kD),if_neg (e 16 kD kD),if_neg (e 17 kD kD),if_neg (e 18 kD kD),if_neg (e 19 kD kD),if_neg (e 20 kD kD),if_neg (e 21 kD kD),if_neg (e 22 kD kD),if_neg (e 23 kD kD),if_neg (e 24 kD kD)]
section
open Go.RowKit
theorem zGc{c x y:Int}(h:15<=c/\c<=24):(isV c x y==isV (oppV c) x y)=false/\oppV (oppV c)=c/\15<=oppV c/\oppV c<=24:=by
 have e:c=15\/c=16\/c=17\/c=18\/c=19\/c=20\/c=21\/c=22\/c=23\/c=24:=kO;rcases e with rfl|rfl|rfl|rfl|rfl|rfl|rfl|rfl|rfl|rfl
 ·refine⟨?_,by decide,by decide,by decide⟩
  show(isV 15 x y==isV 16 x y)=false;rw[zGt,zGs];cases decide (x=y)<;>rfl
 ·refine⟨?_,by decide,by decide,by decide⟩
  show(isV 16 x y==isV 15 x y)=false;rw[zGt,zGs];cases decide (x=y)<;>rfl
 ·refine⟨?_,by decide,by decide,by decide⟩
  show(isV 17 x y==isV 20 x y)=false;rw[zGr,zCz,beq_eq_false_iff_ne,ne_eq,decide_eq_decide];omega
 ·refine⟨?_,by decide,by decide,by decide⟩
  show(isV 18 x y==isV 19 x y)=false;rw[zGq,zD0,beq_eq_false_iff_ne,ne_eq,decide_eq_decide];omega
 ·refine⟨?_,by decide,by decide,by decide⟩
  show(isV 19 x y==isV 18 x y)=false;rw[zGq,zD0,beq_eq_false_iff_ne,ne_eq,decide_eq_decide];omega
 ·refine⟨?_,by decide,by decide,by decide⟩
  show(isV 20 x y==isV 17 x y)=false;rw[zGr,zCz,beq_eq_false_iff_ne,ne_eq,decide_eq_decide];omega
 ·refine⟨?_,by decide,by decide,by decide⟩
  show(isV 21 x y==isV 24 x y)=false;rw[zGp,zB2,beq_eq_false_iff_ne,ne_eq,decide_eq_decide];omega
 ·refine⟨?_,by decide,by decide,by decide⟩
  show(isV 22 x y==isV 23 x y)=false;rw[zGo,zB3,beq_eq_false_iff_ne,ne_eq,decide_eq_decide];omega
 ·refine⟨?_,by decide,by decide,by decide⟩
  show(isV 23 x y==isV 22 x y)=false;rw[zGo,zB3,beq_eq_false_iff_ne,ne_eq,decide_eq_decide];omega
 refine⟨?_,by decide,by decide,by decide⟩;show(isV 24 x y==isV 21 x y)=false;rw[zGp,zB2,beq_eq_false_iff_ne,ne_eq,decide_eq_decide];omega
def z9b(r:(Int×Int)×(Int×Int)×Bool)(al ah bl bh x y:Int)(is:Prop):Prop:=
 (is->r.2.2=true/\(r.1.1<=x/\x<=r.1.2)/\r.2.1.1<=y/\y<=r.2.1.2)/\(r.2.2=true->r.1.1<=r.1.2/\r.2.1.1<=r.2.1.2/\al<=r.1.1/\r.1.2<=ah/\bl<=r.2.1.1/\r.2.1.2<=bh)
theorem z9b.swap{r:(Int×Int)×(Int×Int)×Bool}{al ah bl bh x y:Int}{p q:Prop}(h:z9b r al ah bl bh x y p)(e:q->p):z9b (z3a r) bl bh al ah y x q:=
 ⟨fun z=>by obtain⟨a,b,c⟩:=h.1 (e z);exact⟨a,c,b⟩,fun z=>by obtain⟨a,b,c,d,e,f⟩:=h.2 z;exact⟨b,a,e,f,c,d⟩⟩
theorem z8d{g al ah bl bh x y:Int}(h1:al<=x)(h2:x<=ah)(h3:bl<=y)(h4:y<=bh):z9b (belV g al ah bl bh) al ah bl bh x y (x+g<=y):=by
 unfold belV z9b;split
 ·exact⟨fun h=>⟨rfl,by show al<=x/\x<=min ah (bh-g);omega,by show max bl (al+g)<=y/\y<=bh;omega⟩,fun _=>by show al<=min ah (bh-g)/\max bl (al+g)<=bh/\al<=al/\min ah (bh-g)<=ah/\bl<=max bl (al+g)/\bh<=bh;omega⟩
 exact⟨fun h=>by omega,fun h=>by cases h⟩
theorem z9j{g al ah bl bh x y:Int}(h1:al<=x)(h2:x<=ah)(h3:bl<=y)(h4:y<=bh)(h5:0<=g)(px: -9223372036854775808<=x)(qx:x<=9223372036854775807)(qy:y<=9223372036854775807):
  z9b (unsV g al ah bl bh) al ah bl bh x y ((uns x:Int)+g<=uns y):=by
 have ex:=zKq x;have ey:=zKq y;unfold unsV;split
 ·exact⟨fun h=>⟨rfl,⟨h1,h2⟩,h3,h4⟩,fun _=>by show al<=ah/\bl<=bh/\al<=al/\ah<=ah/\bl<=bl/\bh<=bh;omega⟩
 by_cases hx:0<=x
 ·have b:=z8d (g:=g) (al:=max al 0) (ah:=ah) (by omega:max al 0<=x) h2 h3 h4
  refine⟨fun h=>b.1 kO,fun h=>?_⟩;have c:=b.2 h;omega
 refine⟨fun h=>by omega,fun h=>?_⟩;unfold belV at h⊢;split at h
 ·rename_i hc
  rw[if_pos hc];show max al 0<=min ah (bh-g)/\max bl (max al 0+g)<=bh/\al<=max al 0/\min ah (bh-g)<=ah/\bl<=max bl (max al 0+g)/\bh<=bh;omega
 cases h
theorem zL5{c al ah bl bh x y:Int}(hc:15<=c/\c<=24)(pal: -9223372036854775808<=al)(qah:ah<=9223372036854775807)(pbl: -9223372036854775808<=bl)(qbh:bh<=9223372036854775807)
  (h1:al<=x)(h2:x<=ah)(h3:bl<=y)(h4:y<=bh):z9b (narV c al ah bl bh) al ah bl bh x y (isV c x y=true):=by
 have e:c=15\/c=16\/c=17\/c=18\/c=19\/c=20\/c=21\/c=22\/c=23\/c=24:=kO;rcases e with rfl|rfl|rfl|rfl|rfl|rfl|rfl|rfl|rfl|rfl
 ·rw[zIz,zGt,decide_eq_true_eq]
  unfold z2u z9b;split
  ·exact⟨fun h=>⟨rfl,by show max al bl<=x/\x<=min ah bh;omega,by show max al bl<=y/\y<=min ah bh;omega⟩,fun _=>by show max al bl<=min ah bh/\max al bl<=min ah bh/\al<=max al bl/\min ah bh<=ah/\bl<=max al bl/\min ah bh<=bh;omega⟩
  ·exact⟨fun h=>by omega,fun h=>by cases h⟩
 ·rw[zIy,zGs,Bool.not_eq_true',decide_eq_false_iff_not]
  unfold apV;split
  ·exact⟨fun h=>by omega,fun h=>by cases h⟩
  ·have cut: ∀{al ah ol oh x y:Int},al<=x->x<=ah->ol<=y->y<=oh->(¬x=y->(cutV al ah ol oh).1<=x/\x<=(cutV al ah ol oh).2)/\(cutV al ah ol oh).1<=(cutV al ah ol oh).2/\al<=(cutV al ah ol oh).1/\(cutV al ah ol oh).2<=ah:=by
    intro al ah ol oh x y a1 a2 a3 a4;unfold cutV;split
    ·exact⟨fun _=>⟨a1,a2⟩,by show al<=ah/\al<=al/\ah<=ah;omega⟩
    ·split
     ·exact⟨fun _=>by show al+1<=x/\x<=ah;omega,by show al+1<=ah/\al<=al+1/\ah<=ah;omega⟩
     ·split
      ·exact⟨fun _=>by show al<=x/\x<=ah-1;omega,by show al<=ah-1/\al<=al/\ah-1<=ah;omega⟩
      ·exact⟨fun _=>⟨a1,a2⟩,by show al<=ah/\al<=al/\ah<=ah;omega⟩
   have k1:=cut h1 h2 h3 h4;have k2:=cut h3 h4 h1 h2;exact⟨fun h=>⟨rfl,k1.1 h,k2.1 (fun z=>h z.symm)⟩,fun _=>⟨k1.2.1,k2.2.1,k1.2.2.1,k1.2.2.2,k2.2.2.1,k2.2.2.2⟩⟩
 ·rw[zIx,zGr,decide_eq_true_eq]
  exact(z9j (g:=1) h3 h4 h1 h2 kO kO kO kO).swap (fun h=>by omega)
 ·rw[zIw,zGq,decide_eq_true_eq]
  exact(z9j (g:=0) h3 h4 h1 h2 kO kO kO kO).swap (fun h=>by omega)
 ·rw[zIv,zD0,decide_eq_true_eq]
  have k:=z9j (g:=1) h1 h2 h3 h4 kO kO kO kO;exact⟨fun h=>k.1 kO,k.2⟩
 ·rw[zIu,zCz,decide_eq_true_eq]
  have k:=z9j (g:=0) h1 h2 h3 h4 kO kO kO kO;exact⟨fun h=>k.1 kO,k.2⟩
 ·rw[zIt,zGp,decide_eq_true_eq]
  exact(z8d (g:=1) h3 h4 h1 h2).swap (fun h=>by omega)
 ·rw[zIs,zGo,decide_eq_true_eq]
  exact(z8d (g:=0) h3 h4 h1 h2).swap (fun h=>by omega)
 ·rw[zIr,zB3,decide_eq_true_eq]
  have k:=z8d (g:=1) h1 h2 h3 h4;exact⟨fun h=>k.1 kO,k.2⟩
 rw[zIq,zB2,decide_eq_true_eq];have k:=z8d (g:=0) h1 h2 h3 h4;exact⟨fun h=>k.1 kO,k.2⟩
def Way.narrow(y:Way)(c:Int)(d s:Nat)(r:Bool)(n:Int):Bool×Way:=
 if(narV c (y.reg d).l (y.reg d).h (y.second s r n).l (y.second s r n).h).2.2=false then(false,y)
 else if r=true/\s=d then(true,y)
 else if r=true then(true,(y.putReg d (z10 (narV c (y.reg d).l (y.reg d).h (y.second s r n).l (y.second s r n).h).1.1 (narV c (y.reg d).l (y.reg d).h (y.second s r n).l (y.second s r n).h).1.2)).putReg s (z10 (narV c (y.reg d).l (y.reg d).h (y.second s r n).l (y.second s r n).h).2.1.1 (narV c (y.reg d).l (y.reg d).h (y.second s r n).l (y.second s r n).h).2.1.2))
 else(true,y.putReg d (z10 (narV c (y.reg d).l (y.reg d).h (y.second s r n).l (y.second s r n).h).1.1 (narV c (y.reg d).l (y.reg d).h (y.second s r n).l (y.second s r n).h).1.2))
theorem Way.Has.know{y:Way}{a:Abs}{d:Nat}{x:Kno}(h:y.Has a)(hx:x.Has (a.reg d)):(y.putReg d x).Has a:=
 ⟨fun i hi=>by
  show(if i=d then x else y.reg i).Has (a.reg i)
  by_cases e:i=d
  ·rw[if_pos e,e];exact hx
  ·rw[if_neg e];exact h.reg i hi,h.slot⟩
theorem Kno.has_one{v:Val}{l h:Int}(hk:v.k=1)(h1:l<=v.n)(h2:v.n<=h):(z10 l h).Has v:=Or.inr (Or.inl ⟨by show(1:Int)<=1;decide,by show(1:Int)<=4;decide,hk,h1,h2⟩)
theorem zCr{y:Way}{a:Abs}{c:Int}{d s:Nat}{r:Bool}{n:Int}(hk:y.Ok)(hy:y.Has a)(hc:15<=c/\c<=24)(hd:d<11)(hs:s<11)(hn:In64 n)
  (k1:(y.reg d).k=1)(k2:(y.second s r n).k=1)(h:isV c (a.reg d).n (a.second s r n).n=true):(y.narrow c d s r n).1=true/\(y.narrow c d s r n).2.Has a:=by
 obtain⟨e1,e2,e3⟩:=(hy.reg d hd).same kO kO;obtain⟨f1,f2,f3⟩:=(hy.second (r:=r) (n:=n) hs).same kO kO;have o1:=hk.reg d hd;have o2:=z2o (r:=r) (n:=n) hk hs hn;obtain⟨t,b1,b2⟩:=(zL5 hc o1.2.2.1.1 o1.2.2.2.1.2 o2.2.2.1.1 o2.2.2.2.1.2 e2 e3 f2 f3).1 h;unfold Way.narrow;rw[if_neg (by rw[t];decide)]
 by_cases c1:r=true/\s=d
 ·rw[if_pos c1];exact⟨rfl,hy⟩
 rw[if_neg c1]
 by_cases c2:r=true
 ·rw[if_pos c2]
  refine⟨rfl,(hy.know (Kno.has_one kO b1.1 b1.2)).know ?_⟩;have e:a.second s r n=a.reg s:=if_pos c2;rw[<-e];exact Kno.has_one kO b2.1 b2.2
 rw[if_neg c2];exact⟨rfl,hy.know (Kno.has_one kO b1.1 b1.2)⟩
def Way.askNumbers(y:Way)(c:Int)(d s:Nat)(r:Bool)(o n:Int):List (Int×Way):=
 (if(y.narrow (oppV c) d s r n).1=true then [(0,(y.narrow (oppV c) d s r n).2)]else [])++(if(y.narrow c d s r n).1=true then [(o,(y.narrow c d s r n).2)]else [])
def Way.askPlace(y:Way)(c:Int)(d:Nat)(o:Int):List (Int×Way):=
 if(y.reg d).k≠5 then [(if c=16 then o else 0,y)]else [(if c=16 then 0 else o,y.putReg d (z10 0 0)),(if c=16 then o else 0,y.putReg d ⟨4,0,0⟩)]
def Way.ask(y:Way)(c:Int)(d s:Nat)(r:Bool)(o n:Int):List (Int×Way)×Int:=
 if(y.reg d).k=0\/(y.second s r n).k=0 then([],8)
 else if(y.reg d).k=1/\(y.second s r n).k=1 then(y.askNumbers c d s r o n,0)
 else if(c≠15/\c≠16)\/r=true\/n≠0 then([],1)
 else(y.askPlace c d o,0)
theorem zZj{y:Way}{a:Abs}{c:Int}{d s:Nat}{r:Bool}{o n:Int}(hk:y.Ok)(hy:y.Has a)(hc:15<=c/\c<=24)(hd:d<11)(hs:s<11)(hn:In64 n)(h:(y.ask c d s r o n).2=0):
  (askF c (a.reg d) (a.second s r n) r o n).2=0/\ ∃y',((askF c (a.reg d) (a.second s r n) r o n).1,y')∈(y.ask c d s r o n).1/\y'.Has a:=by
 unfold Way.ask at h⊢
 by_cases c1:(y.reg d).k=0\/(y.second s r n).k=0
 ·rw[if_pos c1]at h;exact absurd h kD
 rw[if_neg c1]at h⊢;have n1:(a.reg d).k≠0:=(hy.reg d hd).some (hk.reg d hd) fun e=>c1 (Or.inl e);have n2:(a.second s r n).k≠0:=(hy.second hs).some (z2o hk hs hn) fun e=>c1 (Or.inr e);unfold askF;rw[if_neg fun e=>e.elim n1 n2]
 by_cases c2:(y.reg d).k=1/\(y.second s r n).k=1
 ·rw[if_pos c2]
  obtain⟨e1, -, -⟩:=(hy.reg d hd).same kO kO;obtain⟨f1, -, -⟩:=(hy.second (r:=r) (n:=n) hs).same kO kO;rw[if_pos ⟨by omega,by omega⟩];unfold Way.askNumbers
  by_cases q:isV c (a.reg d).n (a.second s r n).n=true
  ·obtain⟨g1,g2⟩:=zCr hk hy hc hd hs hn c2.1 c2.2 q
   rw[if_pos q,if_pos g1];exact⟨rfl,_,List.mem_append_right _ (List.mem_singleton.mpr rfl),g2⟩
  ·obtain⟨p1, -,p2,p3⟩:=zGc (x:=(a.reg d).n) (y:=(a.second s r n).n) hc
   have q':isV (oppV c) (a.reg d).n (a.second s r n).n=true:=by
    cases z:isV (oppV c) (a.reg d).n (a.second s r n).n
    ·have q0:isV c (a.reg d).n (a.second s r n).n=false:=by cases t:isV c (a.reg d).n (a.second s r n).n with|false=>rfl|true=>exact absurd t q
     rw[z,q0]at p1;exact absurd p1 kD
    ·rfl
   obtain⟨g1,g2⟩:=zCr hk hy ⟨p2,p3⟩ hd hs hn c2.1 c2.2 q';rw[if_neg q,if_pos g1];exact⟨rfl,_,List.mem_append_left _ (List.mem_singleton.mpr rfl),g2⟩
 rw[if_neg c2]at h⊢
 by_cases c3:(c≠15/\c≠16)\/r=true\/n≠0
 ·rw[if_pos c3]at h;exact absurd h kD
 have eW:(if(c≠15/\c≠16)\/r=true\/n≠0 then(([]:List (Int×Way)),(1:Int))else(y.askPlace c d o,0))=(y.askPlace c d o,0):=if_neg c3;have eA:(if(c≠15/\c≠16)\/r=true\/n≠0 then((0:Int),(1:Int))else if c=16 then(o,0)else(0,0))=if c=16 then(o,0)else(0,0):=if_neg c3;rw[eW,eA];have r0:r=false:=by cases r<;>simp_all
 have s1:(y.second s r n).k=1:=by rw[r0];rfl
 have v1:(a.second s r n).k=1:=by rw[r0];rfl
 have v0:(a.second s r n).n=0:=by rw[r0];show n=0;omega
 have k5:=(hk.reg d hd).2.1;unfold Way.askPlace
 by_cases c4:(y.reg d).k≠5
 ·rw[if_pos c4]
  obtain⟨e1, -, -⟩:=(hy.reg d hd).same (by have:=(hk.reg d hd).1;omega) kO;rw[if_neg (show¬((a.reg d).k=1/\(a.second s r n).k=1)by omega)]
  by_cases c5:c=16
  ·rw[if_pos c5,if_pos c5];exact⟨rfl,_,List.mem_singleton.mpr rfl,hy⟩
  ·rw[if_neg c5,if_neg c5];exact⟨rfl,_,List.mem_singleton.mpr rfl,hy⟩
 rw[if_neg c4];rcases hy.reg d hd with e|e|⟨-,en,ek⟩
 ·omega
 ·omega
 rcases ek with ek|ek
 ·rw[if_pos (show(a.reg d).k=1/\(a.second s r n).k=1 from⟨ek,v1⟩),en,v0]
  have hz:=hy.know (d:=d) (x:=z10 0 0) (Kno.has_one ek kO kO)
  by_cases c5:c=16
  ·subst c5
   exact⟨rfl,_,mcS,hz⟩
  ·have c6:c=15:=kO
   subst c6;exact⟨rfl,_,mcS,hz⟩
 rw[if_neg (show¬((a.reg d).k=1/\(a.second s r n).k=1)by omega)];have hz:(y.putReg d ⟨4,0,0⟩).Has a:=hy.know (Or.inr (Or.inl ⟨by show(1:Int)<=4;decide,by show(4:Int)<=4;decide,ek,by show(0:Int)<=_;omega,by show _<=(0:Int);omega⟩))
 by_cases c5:c=16
 ·subst c5
  exact⟨rfl,_,mcO _ (List.mem_singleton.mpr rfl),hz⟩
 have c6:c=15:=kO;subst c6;exact⟨rfl,_,mcO _ (List.mem_singleton.mpr rfl),hz⟩
end
section
open Go.ChangeShapes Go.WideShapes Go.ChangeAt Go.RowKit
theorem z2m{k:IntKind}{a b:Int}(h:a=b):Ending.returned (.int k a)= rT (.int k b):=by rw[h]
def moreV(c d s:Int)(r:Bool)(o n:Int):Bool:=
 if 1<=c/\c<=12 then(if r then o !=0||n !=0 else s !=0||o !=0)
 else if 15<=c/\c<=24 then(if r then n !=0 else s !=0)
 else if c=13 then s !=0||r||o !=0||n !=0
 else if c=14 then d !=0||s !=0||r||n !=0
 else if c=25 then r||n !=0
 else if c=26 then(if r then n !=0 else s !=0)
 else if c=27 then d !=0||s !=0||r||o !=0
 else d !=0||s !=0||r||o !=0||n !=0
def z1e(c d s:Int)(r:Bool)(o n:Int):Int:=
 if c<1\/28<c then 3
 else if d<0\/10<d\/s<0\/10<s then 2
 else if((1<=c/\c<=13)\/c=25)/\d=10 then 6
 else if moreV c d s r o n=true\/(c=27/\n≠1/\n≠2/\n≠3)then 1 else 0
def z3q(c d s:Int)(r:Bool)(o n b:Int):Int:=
 if z1e c d s r o n≠0 then z1e c d s r o n
 else if(c=14\/(15<=c/\c<=24))/\(o<0\/b<=o)then 10
 else if b=0/\c≠28 then 8 else 0
theorem zEf(c d s o n:Int)(h1:1<=c)(h2:c<=12)(w:World):
  zR 83 #[.agg #[A F c,A F d,A F s,.bool true,A F o,A F n]] w (.bool (o !=0||n !=0)):=by
 have e13:(c==13)=false:=kZ;have e14:(c==14)=false:=kZ;have e25:(c==25)=false:=kZ;have e26:(c==26)=false:=kZ;have e27:(c==27)=false:=kZ;have e28:(c==28)=false:=kZ;go_enter Tryz.func83,Tryz.ntmps83;go_wp2
 all_goals
  go_ret;exact⟨z1c (by simp[*]),(bF _ _).alloc (Nat.le_refl _) _⟩
theorem zBw(c d s o n:Int)(h1:1<=c)(h2:c<=12)(w:World):
  zR 83 #[.agg #[A F c,A F d,A F s,.bool false,A F o,A F n]] w (.bool (s !=0||o !=0)):=by
 have e13:(c==13)=false:=kZ;have e14:(c==14)=false:=kZ;have e25:(c==25)=false:=kZ;have e26:(c==26)=false:=kZ;have e27:(c==27)=false:=kZ;have e28:(c==28)=false:=kZ;go_enter Tryz.func83,Tryz.ntmps83;go_wp2
 all_goals
  go_ret;exact⟨z1c (by simp[*]),(bF _ _).alloc (Nat.le_refl _) _⟩
theorem zEm(c d s o n:Int)(h1:15<=c)(h2:c<=24)(w:World):
  zR 83 #[.agg #[A F c,A F d,A F s,.bool true,A F o,A F n]] w (.bool (n !=0)):=by
 have e13:(c==13)=false:=kZ;have e14:(c==14)=false:=kZ;have e25:(c==25)=false:=kZ;have e26:(c==26)=false:=kZ;have e27:(c==27)=false:=kZ;have e28:(c==28)=false:=kZ;have g1:1<=c:=kO;have g2:decide (c<=12)=false:=kZ;go_enter Tryz.func83,Tryz.ntmps83;go_wp2
 all_goals
  go_ret;exact⟨z1c (by simp[*]),(bF _ _).alloc (Nat.le_refl _) _⟩
theorem zC3(c d s o n:Int)(h1:15<=c)(h2:c<=24)(w:World):
  zR 83 #[.agg #[A F c,A F d,A F s,.bool false,A F o,A F n]] w (.bool (s !=0)):=by
 have e13:(c==13)=false:=kZ;have e14:(c==14)=false:=kZ;have e25:(c==25)=false:=kZ;have e26:(c==26)=false:=kZ;have e27:(c==27)=false:=kZ;have e28:(c==28)=false:=kZ;have g1:1<=c:=kO;have g2:decide (c<=12)=false:=kZ;go_enter Tryz.func83,Tryz.ntmps83;go_wp2
 all_goals
  go_ret;exact⟨z1c (by simp[*]),(bF _ _).alloc (Nat.le_refl _) _⟩
theorem zEl(d s o n:Int)(w:World):
  zR 83 #[.agg #[A F 13,A F d,A F s,.bool true,A F o,A F n]] w (.bool (s !=0||true||o !=0||n !=0)):=by
 go_enter Tryz.func83,Tryz.ntmps83;go_wp2
 all_goals
  go_ret;exact⟨z1c (by simp[*]),(bF _ _).alloc (Nat.le_refl _) _⟩
theorem zC2(d s o n:Int)(w:World):
  zR 83 #[.agg #[A F 13,A F d,A F s,.bool false,A F o,A F n]] w (.bool (s !=0||false||o !=0||n !=0)):=by
 go_enter Tryz.func83,Tryz.ntmps83;go_wp2
 all_goals
  go_ret;exact⟨z1c (by simp[*]),(bF _ _).alloc (Nat.le_refl _) _⟩
theorem zEk(d s o n:Int)(w:World):
  zR 83 #[.agg #[A F 14,A F d,A F s,.bool true,A F o,A F n]] w (.bool (d !=0||s !=0||true||n !=0)):=by
 go_enter Tryz.func83,Tryz.ntmps83;go_wp2
 all_goals
  go_ret;exact⟨z1c (by simp[*]),(bF _ _).alloc (Nat.le_refl _) _⟩
theorem zC1(d s o n:Int)(w:World):
  zR 83 #[.agg #[A F 14,A F d,A F s,.bool false,A F o,A F n]] w (.bool (d !=0||s !=0||false||n !=0)):=by
 go_enter Tryz.func83,Tryz.ntmps83;go_wp2
 all_goals
  go_ret;exact⟨z1c (by simp[*]),(bF _ _).alloc (Nat.le_refl _) _⟩
theorem zEj(d s o n:Int)(w:World):
  zR 83 #[.agg #[A F 25,A F d,A F s,.bool true,A F o,A F n]] w (.bool (true||n !=0)):=by
 go_enter Tryz.func83,Tryz.ntmps83;go_wp2
 all_goals
  go_ret;exact⟨z1c (by simp[*]),(bF _ _).alloc (Nat.le_refl _) _⟩
theorem zC0(d s o n:Int)(w:World):
  zR 83 #[.agg #[A F 25,A F d,A F s,.bool false,A F o,A F n]] w (.bool (false||n !=0)):=by
 go_enter Tryz.func83,Tryz.ntmps83;go_wp2
 all_goals
  go_ret;exact⟨z1c (by simp[*]),(bF _ _).alloc (Nat.le_refl _) _⟩
theorem zEi(d s o n:Int)(w:World):
  zR 83 #[.agg #[A F 26,A F d,A F s,.bool true,A F o,A F n]] w (.bool (n !=0)):=by
 go_enter Tryz.func83,Tryz.ntmps83;go_wp2
 all_goals
  go_ret;exact⟨z1c (by simp[*]),(bF _ _).alloc (Nat.le_refl _) _⟩
theorem zBz(d s o n:Int)(w:World):
  zR 83 #[.agg #[A F 26,A F d,A F s,.bool false,A F o,A F n]] w (.bool (s !=0)):=by
 go_enter Tryz.func83,Tryz.ntmps83;go_wp2
 all_goals
  go_ret;exact⟨z1c (by simp[*]),(bF _ _).alloc (Nat.le_refl _) _⟩
theorem zEh(d s o n:Int)(w:World):
  zR 83 #[.agg #[A F 27,A F d,A F s,.bool true,A F o,A F n]] w (.bool (d !=0||s !=0||true||o !=0)):=by
 go_enter Tryz.func83,Tryz.ntmps83;go_wp2
 all_goals
  go_ret;exact⟨z1c (by simp[*]),(bF _ _).alloc (Nat.le_refl _) _⟩
theorem zBy(d s o n:Int)(w:World):
  zR 83 #[.agg #[A F 27,A F d,A F s,.bool false,A F o,A F n]] w (.bool (d !=0||s !=0||false||o !=0)):=by
 go_enter Tryz.func83,Tryz.ntmps83;go_wp2
 all_goals
  go_ret;exact⟨z1c (by simp[*]),(bF _ _).alloc (Nat.le_refl _) _⟩
theorem zEg(d s o n:Int)(w:World):
  zR 83 #[.agg #[A F 28,A F d,A F s,.bool true,A F o,A F n]] w (.bool (d !=0||s !=0||true||o !=0||n !=0)):=by
 go_enter Tryz.func83,Tryz.ntmps83;go_wp2
 all_goals
  go_ret;exact⟨z1c (by simp[*]),(bF _ _).alloc (Nat.le_refl _) _⟩
theorem zBx(d s o n:Int)(w:World):
  zR 83 #[.agg #[A F 28,A F d,A F s,.bool false,A F o,A F n]] w (.bool (d !=0||s !=0||false||o !=0||n !=0)):=by
 go_enter Tryz.func83,Tryz.ntmps83;go_wp2
 all_goals
  go_ret;exact⟨z1c (by simp[*]),(bF _ _).alloc (Nat.le_refl _) _⟩
theorem z7t(c d s:Int)(r:Bool)(o n:Int)(h1:1<=c)(h2:c<=28)(w:World):
  zR 83 #[.agg #[A F c,A F d,A F s,.bool r,A F o,A F n]] w (.bool (moreV c d s r o n)):=by
 have hc:(1<=c/\c<=12)\/(15<=c/\c<=24)\/c=13\/c=14\/c=25\/c=26\/c=27\/c=28:=kO;rcases hc with⟨a1,a2⟩|⟨a1,a2⟩|rfl|rfl|rfl|rfl|rfl|rfl
 ·have e:moreV c d s r o n=(if r then o !=0||n !=0 else s !=0||o !=0):=by unfold moreV;rw[if_pos ⟨a1,a2⟩]
  rw[e];cases r
  ·exact zBw c d s o n a1 a2 w
  ·exact zEf c d s o n a1 a2 w
 ·have e:moreV c d s r o n=(if r then n !=0 else s !=0):=by unfold moreV;rw[if_neg kO,if_pos ⟨a1,a2⟩]
  rw[e];cases r
  ·exact zC3 c d s o n a1 a2 w
  ·exact zEm c d s o n a1 a2 w
 ·cases r
  ·exact zC2 d s o n w
  ·exact zEl d s o n w
 ·cases r
  ·exact zC1 d s o n w
  ·exact zEk d s o n w
 ·cases r
  ·exact zC0 d s o n w
  ·exact zEj d s o n w
 ·cases r
  ·exact zBz d s o n w
  ·exact zEi d s o n w
 ·cases r
  ·exact zBy d s o n w
  ·exact zEh d s o n w
 cases r
 ·exact zBx d s o n w
 exact zEg d s o n w
def bit(b:Bool):Int:=if b then 1 else 0
def endV(b:Int):Int:=if b=0 then 8 else 0
def zR3(o b:Int):Int:=if o<0 then 10 else if b<=o then 10 else endV b
theorem zTp(c d s o n:Int)(r:Bool)(h:c<1)(w:World):
  zR 55 #[.agg #[A F c,A F d,A F s,.bool r,A F o,A F n]] w (A F 3):=by
 go_enter Tryz.func55,Tryz.ntmps55;go_wp2
 all_goals
  go_ret;exact⟨rfl,(by repeat(first|exact bF _ _|refine bA ?_ kS _))⟩
theorem zTq(c d s o n:Int)(r:Bool)(h:28<c)(w:World):
  zR 55 #[.agg #[A F c,A F d,A F s,.bool r,A F o,A F n]] w (A F 3):=by
 have z0:decide (1<=c)=true:=kZ;have z1:decide (c<=28)=false:=kZ;go_enter Tryz.func55,Tryz.ntmps55;go_wp2
 all_goals
  go_ret;exact⟨rfl,(by repeat(first|exact bF _ _|refine bA ?_ kS _))⟩
theorem zTn(c d s o n:Int)(r:Bool)(h1:1<=c)(h2:c<=28)(h:d<0)(w:World):
  zR 55 #[.agg #[A F c,A F d,A F s,.bool r,A F o,A F n]] w (A F 2):=by
 have z0:decide (0<=d)=false:=kZ;go_enter Tryz.func55,Tryz.ntmps55;go_wp2
 all_goals
  go_ret;exact⟨rfl,(by repeat(first|exact bF _ _|refine bA ?_ kS _))⟩
theorem zTo(c d s o n:Int)(r:Bool)(h1:1<=c)(h2:c<=28)(h:10<d)(w:World):
  zR 55 #[.agg #[A F c,A F d,A F s,.bool r,A F o,A F n]] w (A F 2):=by
 have z0:decide (0<=d)=true:=kZ;have z1:decide (d<=10)=false:=kZ;go_enter Tryz.func55,Tryz.ntmps55;go_wp2
 all_goals
  go_ret;exact⟨rfl,(by repeat(first|exact bF _ _|refine bA ?_ kS _))⟩
theorem zTl(c d s o n:Int)(r:Bool)(h1:1<=c)(h2:c<=28)(d1:0<=d)(d2:d<=10)(h:s<0)(w:World):
  zR 55 #[.agg #[A F c,A F d,A F s,.bool r,A F o,A F n]] w (A F 2):=by
 have z0:decide (0<=s)=false:=kZ;go_enter Tryz.func55,Tryz.ntmps55;go_wp2
 all_goals
  go_ret;exact⟨rfl,(by repeat(first|exact bF _ _|refine bA ?_ kS _))⟩
theorem zTm(c d s o n:Int)(r:Bool)(h1:1<=c)(h2:c<=28)(d1:0<=d)(d2:d<=10)(h:10<s)(w:World):
  zR 55 #[.agg #[A F c,A F d,A F s,.bool r,A F o,A F n]] w (A F 2):=by
 have z0:decide (0<=s)=true:=kZ;have z1:decide (s<=10)=false:=kZ;go_enter Tryz.func55,Tryz.ntmps55;go_wp2
 all_goals
  go_ret;exact⟨rfl,(by repeat(first|exact bF _ _|refine bA ?_ kS _))⟩
theorem zXz(c s o n:Int)(r:Bool)(h1:1<=c)(h2:c<=13)(s1:0<=s)(s2:s<=10)(w:World):
  zR 55 #[.agg #[A F c,A F 10,A F s,.bool r,A F o,A F n]] w (A F 6):=by
 have z0:decide (1<=c)=true:=kZ;have z1:decide (c<=28)=true:=kZ;have z2:decide (c<=13)=true:=kZ;go_enter Tryz.func55,Tryz.ntmps55;go_wp2
 all_goals
  go_ret;exact⟨rfl,(by repeat(first|exact bF _ _|refine bA ?_ kS _))⟩
theorem zQ9(s o n:Int)(r:Bool)(s1:0<=s)(s2:s<=10)(w:World):
  zR 55 #[.agg #[A F 25,A F 10,A F s,.bool r,A F o,A F n]] w (A F 6):=by
 go_enter Tryz.func55,Tryz.ntmps55;go_wp2
 all_goals
  go_ret;exact⟨rfl,(by repeat(first|exact bF _ _|refine bA ?_ kS _))⟩
theorem zYb(c d s o n b:Int)(r:Bool)(h:c<1)(w:World):
  zR 62 #[.agg #[A F c,A F d,A F s,.bool r,A F o,A F n],A F b,.func (Fn.func 61) #[] #[]] w (A F 3):=by
 have z0:decide (c<1)=true:=kZ;go_enter Tryz.func62,Tryz.ntmps62;go_wp2
 all_goals
  go_ret;exact⟨rfl,(by repeat(first|exact bF _ _|refine bA ?_ kS _))⟩
theorem zYc(c d s o n b:Int)(r:Bool)(h:28<c)(w:World):
  zR 62 #[.agg #[A F c,A F d,A F s,.bool r,A F o,A F n],A F b,.func (Fn.func 61) #[] #[]] w (A F 3):=by
 have z0:decide (c<1)=false:=kZ;have z1:decide (28<c)=true:=kZ;go_enter Tryz.func62,Tryz.ntmps62;go_wp2
 all_goals
  go_ret;exact⟨rfl,(by repeat(first|exact bF _ _|refine bA ?_ kS _))⟩
theorem zY9(c d s o n b:Int)(r:Bool)(h1:1<=c)(h2:c<=28)(h:d<0)(w:World):
  zR 62 #[.agg #[A F c,A F d,A F s,.bool r,A F o,A F n],A F b,.func (Fn.func 61) #[] #[]] w (A F 2):=by
 have z0:decide (c<1)=false:=kZ;have z1:decide (28<c)=false:=kZ;have z2:decide (0<=d)=false:=kZ;go_enter Tryz.func62,Tryz.ntmps62;go_wp2
 all_goals
  go_ret;exact⟨rfl,(by repeat(first|exact bF _ _|refine bA ?_ kS _))⟩
theorem zYa(c d s o n b:Int)(r:Bool)(h1:1<=c)(h2:c<=28)(h:10<d)(w:World):
  zR 62 #[.agg #[A F c,A F d,A F s,.bool r,A F o,A F n],A F b,.func (Fn.func 61) #[] #[]] w (A F 2):=by
 have z0:decide (c<1)=false:=kZ;have z1:decide (28<c)=false:=kZ;have z2:decide (0<=d)=true:=kZ;have z3:decide (d<11)=false:=kZ;go_enter Tryz.func62,Tryz.ntmps62;go_wp2
 all_goals
  go_ret;exact⟨rfl,(by repeat(first|exact bF _ _|refine bA ?_ kS _))⟩
theorem zY7(c d s o n b:Int)(r:Bool)(h1:1<=c)(h2:c<=28)(d1:0<=d)(d2:d<=10)(h:s<0)(w:World):
  zR 62 #[.agg #[A F c,A F d,A F s,.bool r,A F o,A F n],A F b,.func (Fn.func 61) #[] #[]] w (A F 2):=by
 have z0:decide (c<1)=false:=kZ;have z1:decide (28<c)=false:=kZ;have z2:decide (0<=d)=true:=kZ;have z3:decide (d<11)=true:=kZ;have z4:decide (0<=s)=false:=kZ;go_enter Tryz.func62,Tryz.ntmps62;go_wp2
 all_goals
  go_ret;exact⟨rfl,(by repeat(first|exact bF _ _|refine bA ?_ kS _))⟩
theorem zY8(c d s o n b:Int)(r:Bool)(h1:1<=c)(h2:c<=28)(d1:0<=d)(d2:d<=10)(h:10<s)(w:World):
  zR 62 #[.agg #[A F c,A F d,A F s,.bool r,A F o,A F n],A F b,.func (Fn.func 61) #[] #[]] w (A F 2):=by
 have z0:decide (c<1)=false:=kZ;have z1:decide (28<c)=false:=kZ;have z2:decide (0<=d)=true:=kZ;have z3:decide (d<11)=true:=kZ;have z4:decide (0<=s)=true:=kZ;have z5:decide (s<11)=false:=kZ;go_enter Tryz.func62,Tryz.ntmps62;go_wp2
 all_goals
  go_ret;exact⟨rfl,(by repeat(first|exact bF _ _|refine bA ?_ kS _))⟩
theorem op_top(c s o n b:Int)(r:Bool)(h1:1<=c)(h2:c<=13)(s1:0<=s)(s2:s<=10)(w:World):
  zR 62 #[.agg #[A F c,A F 10,A F s,.bool r,A F o,A F n],A F b,.func (Fn.func 61) #[] #[]] w (A F 6):=by
 have z0:decide (c<1)=false:=kZ;have z1:decide (28<c)=false:=kZ;have z2:decide (0<=s)=true:=kZ;have z3:decide (s<11)=true:=kZ;have z4:decide (1<=c)=true:=kZ;have z5:decide (c<=13)=true:=kZ;go_enter Tryz.func62,Tryz.ntmps62;go_wp2
 all_goals
  go_ret;exact⟨rfl,(by repeat(first|exact bF _ _|refine bA ?_ kS _))⟩
theorem zUa(s o n b:Int)(r:Bool)(s1:0<=s)(s2:s<=10)(w:World):
  zR 62 #[.agg #[A F 25,A F 10,A F s,.bool r,A F o,A F n],A F b,.func (Fn.func 61) #[] #[]] w (A F 6):=by
 have z0:decide (0<=s)=true:=kZ;have z1:decide (s<11)=true:=kZ;go_enter Tryz.func62,Tryz.ntmps62;go_wp2
 all_goals
  go_ret;exact⟨rfl,(by repeat(first|exact bF _ _|refine bA ?_ kS _))⟩
theorem zFz(c d s o n:Int)(h1:1<=c)(h2:c<=12)(d1:0<=d)(d2:d<=10)(s1:0<=s)(s2:s<=10)(dt:d≠10)(w:World):
  zR 55 #[.agg #[A F c,A F d,A F s,.bool true,A F o,A F n]] w (A F (bit (o !=0||n !=0))):=by
 have e13:(c==13)=false:=kZ;have e14:(c==14)=false:=kZ;have e25:(c==25)=false:=kZ;have e26:(c==26)=false:=kZ;have e27:(c==27)=false:=kZ;have e28:(c==28)=false:=kZ;have z0:decide (1<=c)=true:=kZ;have z1:decide (c<=28)=true:=kZ;have z2:decide (c<=13)=true:=kZ;have z3:decide (c<=12)=true:=kZ;have z4:decide (15<=c)=false:=kZ;have e10:(d==10)=false:=by simpa using dt
 go_enter Tryz.func55,Tryz.ntmps55;go_wp2
 all_goals
  go_ret;exact⟨z2m (by simp[bit, *]),(by repeat(first|exact bF _ _|refine bA ?_ kS _))⟩
theorem zE1(c d s o n:Int)(h1:1<=c)(h2:c<=12)(d1:0<=d)(d2:d<=10)(s1:0<=s)(s2:s<=10)(dt:d≠10)(w:World):
  zR 55 #[.agg #[A F c,A F d,A F s,.bool false,A F o,A F n]] w (A F (bit (s !=0||o !=0))):=by
 have e13:(c==13)=false:=kZ;have e14:(c==14)=false:=kZ;have e25:(c==25)=false:=kZ;have e26:(c==26)=false:=kZ;have e27:(c==27)=false:=kZ;have e28:(c==28)=false:=kZ;have z0:decide (1<=c)=true:=kZ;have z1:decide (c<=28)=true:=kZ;have z2:decide (c<=13)=true:=kZ;have z3:decide (c<=12)=true:=kZ;have z4:decide (15<=c)=false:=kZ;have e10:(d==10)=false:=by simpa using dt
 go_enter Tryz.func55,Tryz.ntmps55;go_wp2
 all_goals
  go_ret;exact⟨z2m (by simp[bit, *]),(by repeat(first|exact bF _ _|refine bA ?_ kS _))⟩
theorem zG6(c d s o n:Int)(h1:15<=c)(h2:c<=24)(d1:0<=d)(d2:d<=10)(s1:0<=s)(s2:s<=10)(w:World):
  zR 55 #[.agg #[A F c,A F d,A F s,.bool true,A F o,A F n]] w (A F (bit (n !=0))):=by
 have e13:(c==13)=false:=kZ;have e14:(c==14)=false:=kZ;have e25:(c==25)=false:=kZ;have e26:(c==26)=false:=kZ;have e27:(c==27)=false:=kZ;have e28:(c==28)=false:=kZ;have z0:decide (1<=c)=true:=kZ;have z1:decide (c<=28)=true:=kZ;have z2:decide (c<=13)=false:=kZ;have z3:decide (c<=12)=false:=kZ;have z4:decide (15<=c)=true:=kZ;have z5:decide (c<=24)=true:=kZ;go_enter Tryz.func55,Tryz.ntmps55;go_wp2
 all_goals
  go_ret;exact⟨z2m (by simp[bit, *]),(by repeat(first|exact bF _ _|refine bA ?_ kS _))⟩
theorem zE8(c d s o n:Int)(h1:15<=c)(h2:c<=24)(d1:0<=d)(d2:d<=10)(s1:0<=s)(s2:s<=10)(w:World):
  zR 55 #[.agg #[A F c,A F d,A F s,.bool false,A F o,A F n]] w (A F (bit (s !=0))):=by
 have e13:(c==13)=false:=kZ;have e14:(c==14)=false:=kZ;have e25:(c==25)=false:=kZ;have e26:(c==26)=false:=kZ;have e27:(c==27)=false:=kZ;have e28:(c==28)=false:=kZ;have z0:decide (1<=c)=true:=kZ;have z1:decide (c<=28)=true:=kZ;have z2:decide (c<=13)=false:=kZ;have z3:decide (c<=12)=false:=kZ;have z4:decide (15<=c)=true:=kZ;have z5:decide (c<=24)=true:=kZ;go_enter Tryz.func55,Tryz.ntmps55;go_wp2
 all_goals
  go_ret;exact⟨z2m (by simp[bit, *]),(by repeat(first|exact bF _ _|refine bA ?_ kS _))⟩
theorem zG5(d s o n:Int)(d1:0<=d)(d2:d<=10)(s1:0<=s)(s2:s<=10)(dt:d≠10)(w:World):
  zR 55 #[.agg #[A F 13,A F d,A F s,.bool true,A F o,A F n]] w (A F (bit (s !=0||true||o !=0||n !=0))):=by
 have e10:(d==10)=false:=by simpa using dt
 go_enter Tryz.func55,Tryz.ntmps55;go_wp2
 all_goals
  go_ret;exact⟨z2m (by simp[bit, *]),(by repeat(first|exact bF _ _|refine bA ?_ kS _))⟩
theorem zE7(d s o n:Int)(d1:0<=d)(d2:d<=10)(s1:0<=s)(s2:s<=10)(dt:d≠10)(w:World):
  zR 55 #[.agg #[A F 13,A F d,A F s,.bool false,A F o,A F n]] w (A F (bit (s !=0||false||o !=0||n !=0))):=by
 have e10:(d==10)=false:=by simpa using dt
 go_enter Tryz.func55,Tryz.ntmps55;go_wp2
 all_goals
  go_ret;exact⟨z2m (by simp[bit, *]),(by repeat(first|exact bF _ _|refine bA ?_ kS _))⟩
theorem zG4(d s o n:Int)(d1:0<=d)(d2:d<=10)(s1:0<=s)(s2:s<=10)(w:World):
  zR 55 #[.agg #[A F 14,A F d,A F s,.bool true,A F o,A F n]] w (A F (bit (d !=0||s !=0||true||n !=0))):=by
 go_enter Tryz.func55,Tryz.ntmps55;go_wp2
 all_goals
  go_ret;exact⟨z2m (by simp[bit, *]),(by repeat(first|exact bF _ _|refine bA ?_ kS _))⟩
theorem zE6(d s o n:Int)(d1:0<=d)(d2:d<=10)(s1:0<=s)(s2:s<=10)(w:World):
  zR 55 #[.agg #[A F 14,A F d,A F s,.bool false,A F o,A F n]] w (A F (bit (d !=0||s !=0||false||n !=0))):=by
 go_enter Tryz.func55,Tryz.ntmps55;go_wp2
 all_goals
  go_ret;exact⟨z2m (by simp[bit, *]),(by repeat(first|exact bF _ _|refine bA ?_ kS _))⟩
theorem zG3(d s o n:Int)(d1:0<=d)(d2:d<=10)(s1:0<=s)(s2:s<=10)(dt:d≠10)(w:World):
  zR 55 #[.agg #[A F 25,A F d,A F s,.bool true,A F o,A F n]] w (A F (bit (true||n !=0))):=by
 have e10:(d==10)=false:=by simpa using dt
 go_enter Tryz.func55,Tryz.ntmps55;go_wp2
 all_goals
  go_ret;exact⟨z2m (by simp[bit, *]),(by repeat(first|exact bF _ _|refine bA ?_ kS _))⟩
theorem zE5(d s o n:Int)(d1:0<=d)(d2:d<=10)(s1:0<=s)(s2:s<=10)(dt:d≠10)(w:World):
  zR 55 #[.agg #[A F 25,A F d,A F s,.bool false,A F o,A F n]] w (A F (bit (false||n !=0))):=by
 have e10:(d==10)=false:=by simpa using dt
 go_enter Tryz.func55,Tryz.ntmps55;go_wp2
 all_goals
  go_ret;exact⟨z2m (by simp[bit, *]),(by repeat(first|exact bF _ _|refine bA ?_ kS _))⟩
theorem zG2(d s o n:Int)(d1:0<=d)(d2:d<=10)(s1:0<=s)(s2:s<=10)(w:World):
  zR 55 #[.agg #[A F 26,A F d,A F s,.bool true,A F o,A F n]] w (A F (bit (n !=0))):=by
 go_enter Tryz.func55,Tryz.ntmps55;go_wp2
 all_goals
  go_ret;exact⟨z2m (by simp[bit, *]),(by repeat(first|exact bF _ _|refine bA ?_ kS _))⟩
theorem zE4(d s o n:Int)(d1:0<=d)(d2:d<=10)(s1:0<=s)(s2:s<=10)(w:World):
  zR 55 #[.agg #[A F 26,A F d,A F s,.bool false,A F o,A F n]] w (A F (bit (s !=0))):=by
 go_enter Tryz.func55,Tryz.ntmps55;go_wp2
 all_goals
  go_ret;exact⟨z2m (by simp[bit, *]),(by repeat(first|exact bF _ _|refine bA ?_ kS _))⟩
theorem zG1(d s o n:Int)(d1:0<=d)(d2:d<=10)(s1:0<=s)(s2:s<=10)(w:World):
  zR 55 #[.agg #[A F 27,A F d,A F s,.bool true,A F o,A F n]] w (A F (bit (d !=0||s !=0||true||o !=0||(n !=1&&(n !=2&&n !=3))))):=by
 go_enter Tryz.func55,Tryz.ntmps55;go_wp2
 all_goals
  go_ret;exact⟨z2m (by simp[bit, *]),(by repeat(first|exact bF _ _|refine bA ?_ kS _))⟩
theorem zE3(d s o n:Int)(d1:0<=d)(d2:d<=10)(s1:0<=s)(s2:s<=10)(w:World):
  zR 55 #[.agg #[A F 27,A F d,A F s,.bool false,A F o,A F n]] w (A F (bit (d !=0||s !=0||false||o !=0||(n !=1&&(n !=2&&n !=3))))):=by
 go_enter Tryz.func55,Tryz.ntmps55;go_wp2
 all_goals
  go_ret;exact⟨z2m (by simp[bit, *]),(by repeat(first|exact bF _ _|refine bA ?_ kS _))⟩
theorem zG0(d s o n:Int)(d1:0<=d)(d2:d<=10)(s1:0<=s)(s2:s<=10)(w:World):
  zR 55 #[.agg #[A F 28,A F d,A F s,.bool true,A F o,A F n]] w (A F (bit (d !=0||s !=0||true||o !=0||n !=0))):=by
 go_enter Tryz.func55,Tryz.ntmps55;go_wp2
 all_goals
  go_ret;exact⟨z2m (by simp[bit, *]),(by repeat(first|exact bF _ _|refine bA ?_ kS _))⟩
theorem zE2(d s o n:Int)(d1:0<=d)(d2:d<=10)(s1:0<=s)(s2:s<=10)(w:World):
  zR 55 #[.agg #[A F 28,A F d,A F s,.bool false,A F o,A F n]] w (A F (bit (d !=0||s !=0||false||o !=0||n !=0))):=by
 go_enter Tryz.func55,Tryz.ntmps55;go_wp2
 all_goals
  go_ret;exact⟨z2m (by simp[bit, *]),(by repeat(first|exact bF _ _|refine bA ?_ kS _))⟩
theorem zH0:(∀(c d s o n b:Int)(r:Bool)(h1:15<=c)(h2:c<=24)(d1:0<=d)(d2:d<=10)(s1:0<=s)(s2:s<=10)(hm:moreV c d s r o n=false)(w:World),zR 62 #[.agg #[A F c,A F d,A F s,.bool r,A F o,A F n],A F b,.func (Fn.func 61) #[] #[]] w (A F (zR3 o b)))/\(∀(d s o n b:Int)(r:Bool)(d1:0<=d)(d2:d<=10)(s1:0<=s)(s2:s<=10)(hm:moreV 14 d s r o n=false)(w:World),zR 62 #[.agg #[A F 14,A F d,A F s,.bool r,A F o,A F n],A F b,.func (Fn.func 61) #[] #[]] w (A F (zR3 o b))):=by
 refine⟨?_,?_⟩;intro c d s o n b r h1 h2 d1 d2 s1 s2 hm w;have e14:(c==14)=false:=kZ;have e25:(c==25)=false:=kZ;have e26:(c==26)=false:=kZ;have e27:(c==27)=false:=kZ;have e28:(c==28)=false:=kZ;rotate_left;intro d s o n b r d1 d2 s1 s2 hm w;rotate_left
 all_goals
  have z0:decide (0<=d)=true:=kZ;have z1:decide (d<11)=true:=kZ;have z2:decide (0<=s)=true:=kZ;have z3:decide (s<11)=true:=kZ
 have z4:decide (c<1)=false:=kZ;have z5:decide (28<c)=false:=kZ;have z6:decide (1<=c)=true:=kZ;have z7:decide (c<=13)=false:=kZ;have z8:decide (15<=c)=true:=kZ;have z9:decide (c<=24)=true:=kZ;rotate_left;rotate_left
 all_goals
  go_enter Tryz.func62,Tryz.ntmps62;go_wp2_with(first|(go_at_call 83;refine(z7t _ _ _ _ _ _ kO kO _).mono ?_;rw[hm];rintro e w1 ⟨rfl,hb⟩;obtain⟨hcl,hfr⟩:=z1b hb)|go_in)
  all_goals
   go_ret;exact⟨z2m (by unfold zR3 endV;(repeat' split)<;>omega),(((bF _ _).alloc (Nat.le_refl _) _).trans (hb.mono kS))⟩
def zNd:=zH0.1
def zNc:=zH0.2
theorem zNb(d s o n b:Int)(r:Bool)(d1:0<=d)(d2:d<=10)(s1:0<=s)(s2:s<=10)(dt:d≠10)(hm:moreV 25 d s r o n=false)(w:World):
  zR 62 #[.agg #[A F 25,A F d,A F s,.bool r,A F o,A F n],A F b,.func (Fn.func 61) #[] #[]] w (A F (endV b)):=by
 have e10:(d==10)=false:=by simpa using dt
 have z0:decide (0<=d)=true:=kZ;have z1:decide (d<11)=true:=kZ;have z2:decide (0<=s)=true:=kZ;have z3:decide (s<11)=true:=kZ;go_enter Tryz.func62,Tryz.ntmps62;go_wp2_with(first|(go_at_call 83;refine(z7t _ _ _ _ _ _ kO kO _).mono ?_;rw[hm];rintro e w1 ⟨rfl,hb⟩;obtain⟨hcl,hfr⟩:=z1b hb)|go_in)
 all_goals
  go_ret;exact⟨z2m (by simp[endV, *]),(((bF _ _).alloc (Nat.le_refl _) _).trans (hb.mono kS))⟩
theorem z84:(∀(c d s o n b:Int)(r:Bool)(h1:15<=c)(h2:c<=24)(d1:0<=d)(d2:d<=10)(s1:0<=s)(s2:s<=10)(hm:moreV c d s r o n=true)(w:World),zR 62 #[.agg #[A F c,A F d,A F s,.bool r,A F o,A F n],A F b,.func (Fn.func 61) #[] #[]] w (A F 1))/\(∀(d s o n b:Int)(r:Bool)(d1:0<=d)(d2:d<=10)(s1:0<=s)(s2:s<=10)(hm:moreV 26 d s r o n=true)(w:World),zR 62 #[.agg #[A F 26,A F d,A F s,.bool r,A F o,A F n],A F b,.func (Fn.func 61) #[] #[]] w (A F 1))/\(∀(d s o n b:Int)(r:Bool)(d1:0<=d)(d2:d<=10)(s1:0<=s)(s2:s<=10)(dt:d≠10)(hm:moreV 25 d s r o n=true)(w:World),zR 62 #[.agg #[A F 25,A F d,A F s,.bool r,A F o,A F n],A F b,.func (Fn.func 61) #[] #[]] w (A F 1))/\(∀(d s o n b:Int)(r:Bool)(d1:0<=d)(d2:d<=10)(s1:0<=s)(s2:s<=10)(hm:moreV 14 d s r o n=true)(w:World),zR 62 #[.agg #[A F 14,A F d,A F s,.bool r,A F o,A F n],A F b,.func (Fn.func 61) #[] #[]] w (A F 1)):=by
 refine⟨?_,?_,?_,?_⟩;intro c d s o n b r h1 h2 d1 d2 s1 s2 hm w;have e14:(c==14)=false:=kZ;have e25:(c==25)=false:=kZ;have e26:(c==26)=false:=kZ;have e27:(c==27)=false:=kZ;have e28:(c==28)=false:=kZ;rotate_left;intro d s o n b r d1 d2 s1 s2 hm w;rotate_left;intro d s o n b r d1 d2 s1 s2 dt hm w;have e10:(d==10)=false:=by simpa using dt
 rotate_left;intro d s o n b r d1 d2 s1 s2 hm w;rotate_left
 all_goals
  have z0:decide (0<=d)=true:=kZ;have z1:decide (d<11)=true:=kZ;have z2:decide (0<=s)=true:=kZ;have z3:decide (s<11)=true:=kZ
 have z4:decide (c<1)=false:=kZ;have z5:decide (28<c)=false:=kZ;have z6:decide (1<=c)=true:=kZ;have z7:decide (c<=13)=false:=kZ;have z8:decide (15<=c)=true:=kZ;have z9:decide (c<=24)=true:=kZ;rotate_left;rotate_left;rotate_left;rotate_left
 all_goals
  go_enter Tryz.func62,Tryz.ntmps62;go_wp2_with(first|(go_at_call 83;refine(z7t _ _ _ _ _ _ kO kO _).mono ?_;rw[hm];rintro e w1 ⟨rfl,hb⟩;obtain⟨hcl,hfr⟩:=z1b hb)|go_in)
  all_goals
   go_ret;exact⟨rfl,(((bF _ _).alloc (Nat.le_refl _) _).trans (hb.mono kS))⟩
def zIp:=z84.1
def zIm:=z84.2.1
def zIn:=z84.2.2.1
def zIo:=z84.2.2.2
theorem z5w:(∀(c d s o n b:Int)(r:Bool)(h1:1<=c)(h2:c<=13)(d1:0<=d)(d2:d<=10)(s1:0<=s)(s2:s<=10)(dt:d≠10)(hm:moreV c d s r o n=false)(w:World),zR 62 #[.agg #[A F c,A F d,A F s,.bool r,A F o,A F n],A F b,.func (Fn.func 61) #[] #[]] w (A F (endV b)))/\(∀(d s o n b:Int)(r:Bool)(d1:0<=d)(d2:d<=10)(s1:0<=s)(s2:s<=10)(hm:moreV 27 d s r o n=false)(n1:(n==1)=false)(n2:(n==2)=false)(n3:(n==3)=true)(w:World),zR 62 #[.agg #[A F 27,A F d,A F s,.bool r,A F o,A F n],A F b,.func (Fn.func 61) #[] #[]] w (A F (endV b)))/\(∀(d s o n b:Int)(r:Bool)(d1:0<=d)(d2:d<=10)(s1:0<=s)(s2:s<=10)(hm:moreV 27 d s r o n=false)(n1:(n==1)=false)(n2:(n==2)=true)(w:World),zR 62 #[.agg #[A F 27,A F d,A F s,.bool r,A F o,A F n],A F b,.func (Fn.func 61) #[] #[]] w (A F (endV b)))/\(∀(d s o n b:Int)(r:Bool)(d1:0<=d)(d2:d<=10)(s1:0<=s)(s2:s<=10)(hm:moreV 27 d s r o n=false)(n1:(n==1)=true)(w:World),zR 62 #[.agg #[A F 27,A F d,A F s,.bool r,A F o,A F n],A F b,.func (Fn.func 61) #[] #[]] w (A F (endV b)))/\(∀(d s o n b:Int)(r:Bool)(d1:0<=d)(d2:d<=10)(s1:0<=s)(s2:s<=10)(hm:moreV 26 d s r o n=false)(w:World),zR 62 #[.agg #[A F 26,A F d,A F s,.bool r,A F o,A F n],A F b,.func (Fn.func 61) #[] #[]] w (A F (endV b))):=by
 refine⟨?_,?_,?_,?_,?_⟩;intro c d s o n b r h1 h2 d1 d2 s1 s2 dt hm w;have e14:(c==14)=false:=kZ;have e25:(c==25)=false:=kZ;have e26:(c==26)=false:=kZ;have e27:(c==27)=false:=kZ;have e28:(c==28)=false:=kZ;have e10:(d==10)=false:=by simpa using dt
 rotate_left;intro d s o n b r d1 d2 s1 s2 hm n1 n2 n3 w;rotate_left;intro d s o n b r d1 d2 s1 s2 hm n1 n2 w;rotate_left;intro d s o n b r d1 d2 s1 s2 hm n1 w;rotate_left;intro d s o n b r d1 d2 s1 s2 hm w;rotate_left
 all_goals
  have z0:decide (0<=d)=true:=kZ;have z1:decide (d<11)=true:=kZ;have z2:decide (0<=s)=true:=kZ;have z3:decide (s<11)=true:=kZ
 have z4:decide (c<1)=false:=kZ;have z5:decide (28<c)=false:=kZ;have z6:decide (1<=c)=true:=kZ;have z7:decide (c<=13)=true:=kZ;have z8:decide (15<=c)=false:=kZ;rotate_left;rotate_left;rotate_left;rotate_left;rotate_left
 all_goals
  go_enter Tryz.func62,Tryz.ntmps62;go_wp2_with(first|(go_at_call 83;refine(z7t _ _ _ _ _ _ kO kO _).mono ?_;rw[hm];rintro e w1 ⟨rfl,hb⟩;obtain⟨hcl,hfr⟩:=z1b hb)|go_in)
  all_goals
   go_ret;exact⟨z2m (by simp[endV, *]),(((bF _ _).alloc (Nat.le_refl _) _).trans (hb.mono kS))⟩
def zN7:=z5w.1
def zIj:=z5w.2.1
def zIk:=z5w.2.2.1
def zIl:=z5w.2.2.2.1
def zNa:=z5w.2.2.2.2
theorem z5v:(∀(c d s o n b:Int)(r:Bool)(h1:1<=c)(h2:c<=13)(d1:0<=d)(d2:d<=10)(s1:0<=s)(s2:s<=10)(dt:d≠10)(hm:moreV c d s r o n=true)(w:World),zR 62 #[.agg #[A F c,A F d,A F s,.bool r,A F o,A F n],A F b,.func (Fn.func 61) #[] #[]] w (A F 1))/\(∀(d s o n b:Int)(r:Bool)(d1:0<=d)(d2:d<=10)(s1:0<=s)(s2:s<=10)(hm:moreV 28 d s r o n=false)(w:World),zR 62 #[.agg #[A F 28,A F d,A F s,.bool r,A F o,A F n],A F b,.func (Fn.func 61) #[] #[]] w (A F 0))/\(∀(d s o n b:Int)(r:Bool)(d1:0<=d)(d2:d<=10)(s1:0<=s)(s2:s<=10)(hm:moreV 28 d s r o n=true)(w:World),zR 62 #[.agg #[A F 28,A F d,A F s,.bool r,A F o,A F n],A F b,.func (Fn.func 61) #[] #[]] w (A F 1))/\(∀(d s o n b:Int)(r:Bool)(d1:0<=d)(d2:d<=10)(s1:0<=s)(s2:s<=10)(hm:moreV 27 d s r o n=false)(n1:(n==1)=false)(n2:(n==2)=false)(n3:(n==3)=false)(w:World),zR 62 #[.agg #[A F 27,A F d,A F s,.bool r,A F o,A F n],A F b,.func (Fn.func 61) #[] #[]] w (A F 1))/\(∀(d s o n b:Int)(r:Bool)(d1:0<=d)(d2:d<=10)(s1:0<=s)(s2:s<=10)(hm:moreV 27 d s r o n=true)(w:World),zR 62 #[.agg #[A F 27,A F d,A F s,.bool r,A F o,A F n],A F b,.func (Fn.func 61) #[] #[]] w (A F 1)):=by
 refine⟨?_,?_,?_,?_,?_⟩;intro c d s o n b r h1 h2 d1 d2 s1 s2 dt hm w;have e14:(c==14)=false:=kZ;have e25:(c==25)=false:=kZ;have e26:(c==26)=false:=kZ;have e27:(c==27)=false:=kZ;have e28:(c==28)=false:=kZ;have e10:(d==10)=false:=by simpa using dt
 rotate_left;intro d s o n b r d1 d2 s1 s2 hm w;rotate_left;intro d s o n b r d1 d2 s1 s2 hm w;rotate_left;intro d s o n b r d1 d2 s1 s2 hm n1 n2 n3 w;rotate_left;intro d s o n b r d1 d2 s1 s2 hm w;rotate_left
 all_goals
  have z0:decide (0<=d)=true:=kZ;have z1:decide (d<11)=true:=kZ;have z2:decide (0<=s)=true:=kZ;have z3:decide (s<11)=true:=kZ
 have z4:decide (c<1)=false:=kZ;have z5:decide (28<c)=false:=kZ;have z6:decide (1<=c)=true:=kZ;have z7:decide (c<=13)=true:=kZ;have z8:decide (15<=c)=false:=kZ;rotate_left;rotate_left;rotate_left;rotate_left;rotate_left
 all_goals
  go_enter Tryz.func62,Tryz.ntmps62;go_wp2_with(first|(go_at_call 83;refine(z7t _ _ _ _ _ _ kO kO _).mono ?_;rw[hm];rintro e w1 ⟨rfl,hb⟩;obtain⟨hcl,hfr⟩:=z1b hb)|go_in)
  all_goals
   go_ret;exact⟨rfl,(((bF _ _).alloc (Nat.le_refl _) _).trans (hb.mono kS))⟩
def zIg:=z5v.1
def zN8:=z5v.2.1
def zIh:=z5v.2.2.1
def zN9:=z5v.2.2.2.1
def zIi:=z5v.2.2.2.2
theorem z8x{c d s:Int}{r:Bool}{o n:Int}(c1:1<=c)(c2:c<=28)(d1:0<=d)(d2:d<=10)(s1:0<=s)(s2:s<=10)(ht: ¬(((1<=c/\c<=13)\/c=25)/\d=10)):
  z1e c d s r o n=(if moreV c d s r o n=true\/(c=27/\n≠1/\n≠2/\n≠3)then 1 else 0):=by
 unfold z1e;rw[if_neg kO,if_neg kO,if_neg ht]
theorem z3c{c d s:Int}{r:Bool}{o n:Int}(c1:1<=c)(c2:c<=28)(d1:0<=d)(d2:d<=10)(s1:0<=s)(s2:s<=10)(ht: ¬(((1<=c/\c<=13)\/c=25)/\d=10))(h27:c≠27):
  z1e c d s r o n=bit (moreV c d s r o n):=by
 rw[z8x c1 c2 d1 d2 s1 s2 ht];unfold bit
 cases moreV c d s r o n<;>simp[h27]
theorem z16(c d s:Int)(r:Bool)(o n:Int)(w:World):
  zR 55 #[.agg #[A F c,A F d,A F s,.bool r,A F o,A F n]] w (A F (z1e c d s r o n)):=by
 by_cases k1:c<1
 ·have e:z1e c d s r o n=3:=by unfold z1e;rw[if_pos (Or.inl k1)]
  rw[e];exact zTp c d s o n r k1 w
 by_cases k2:28<c
 ·have e:z1e c d s r o n=3:=by unfold z1e;rw[if_pos (Or.inr k2)]
  rw[e];exact zTq c d s o n r k2 w
 have c1:1<=c:=kO;have c2:c<=28:=kO;have two:(d<0\/10<d\/s<0\/10<s)->z1e c d s r o n=2:=fun h=>by unfold z1e;rw[if_neg kO,if_pos h]
 by_cases k3:d<0
 ·rw[two kO];exact zTn c d s o n r c1 c2 k3 w
 by_cases k4:10<d
 ·rw[two kO];exact zTo c d s o n r c1 c2 k4 w
 have d1:0<=d:=kO;have d2:d<=10:=kO
 by_cases k5:s<0
 ·rw[two kO];exact zTl c d s o n r c1 c2 d1 d2 k5 w
 by_cases k6:10<s
 ·rw[two kO];exact zTm c d s o n r c1 c2 d1 d2 k6 w
 have s1:0<=s:=kO;have s2:s<=10:=kO
 by_cases ht:((1<=c/\c<=13)\/c=25)/\d=10
 ·have e:z1e c d s r o n=6:=by unfold z1e;rw[if_neg kO,if_neg kO,if_pos ht]
  rw[e];obtain⟨h,rfl⟩:=ht;rcases h with⟨a1,a2⟩|rfl
  ·exact zXz c s o n r a1 a2 s1 s2 w
  ·exact zQ9 s o n r s1 s2 w
 have hc:(1<=c/\c<=12)\/(15<=c/\c<=24)\/c=13\/c=14\/c=25\/c=26\/c=27\/c=28:=kO;rcases hc with⟨a1,a2⟩|⟨a1,a2⟩|rfl|rfl|rfl|rfl|rfl|rfl
 ·have e:moreV c d s r o n=(if r then o !=0||n !=0 else s !=0||o !=0):=by unfold moreV;rw[if_pos ⟨a1,a2⟩]
  rw[z3c c1 c2 d1 d2 s1 s2 ht kO,e]
  cases r
  ·exact zE1 c d s o n a1 a2 d1 d2 s1 s2 kO w
  ·exact zFz c d s o n a1 a2 d1 d2 s1 s2 kO w
 ·have e:moreV c d s r o n=(if r then n !=0 else s !=0):=by unfold moreV;rw[if_neg kO,if_pos ⟨a1,a2⟩]
  rw[z3c c1 c2 d1 d2 s1 s2 ht kO,e]
  cases r
  ·exact zE8 c d s o n a1 a2 d1 d2 s1 s2 w
  ·exact zG6 c d s o n a1 a2 d1 d2 s1 s2 w
 ·rw[z3c c1 c2 d1 d2 s1 s2 ht kO]
  cases r
  ·exact zE7 d s o n d1 d2 s1 s2 kO w
  ·exact zG5 d s o n d1 d2 s1 s2 kO w
 ·rw[z3c c1 c2 d1 d2 s1 s2 ht kO]
  cases r
  ·exact zE6 d s o n d1 d2 s1 s2 w
  ·exact zG4 d s o n d1 d2 s1 s2 w
 ·rw[z3c c1 c2 d1 d2 s1 s2 ht kO]
  cases r
  ·exact zE5 d s o n d1 d2 s1 s2 kO w
  ·exact zG3 d s o n d1 d2 s1 s2 kO w
 ·rw[z3c c1 c2 d1 d2 s1 s2 ht kO]
  cases r
  ·exact zE4 d s o n d1 d2 s1 s2 w
  ·exact zG2 d s o n d1 d2 s1 s2 w
 ·rw[z8x c1 c2 d1 d2 s1 s2 ht]
  have e:(if moreV 27 d s r o n=true\/((27:Int)=27/\n≠1/\n≠2/\n≠3)then(1:Int)else 0)=bit (d !=0||s !=0||r||o !=0||(n !=1&&(n !=2&&n !=3))):=by
   have m:moreV 27 d s r o n=(d !=0||s !=0||r||o !=0):=rfl;rw[m];unfold bit
   by_cases h1:n=1<;>by_cases h2:n=2<;>by_cases h3:n=3<;>simp[h1,h2,h3]<;>omega
  rw[e]
  cases r
  ·exact zE3 d s o n d1 d2 s1 s2 w
  ·exact zG1 d s o n d1 d2 s1 s2 w
 rw[z3c c1 c2 d1 d2 s1 s2 ht kO]
 cases r
 ·exact zE2 d s o n d1 d2 s1 s2 w
 exact zG0 d s o n d1 d2 s1 s2 w
theorem z38{c d s:Int}{r:Bool}{o n b:Int}{x:Int}(h:z1e c d s r o n=x)(h0:x≠0):z3q c d s r o n b=x:=by
 unfold z3q;rw[h,if_pos h0]
theorem z4a{c d s:Int}{r:Bool}{o n b:Int}(h:z1e c d s r o n=0):z3q c d s r o n b=if(c=14\/(15<=c/\c<=24))/\(o<0\/b<=o)then 10 else if b=0/\c≠28 then 8 else 0:=by
 unfold z3q;rw[if_neg (by rw[h];exact fun f=>f rfl)]
theorem z7d{c d s:Int}{r:Bool}{o n b:Int}(h:z1e c d s r o n=0)(h1: ¬(c=14\/(15<=c/\c<=24)))(h2:c≠28):z3q c d s r o n b=endV b:=by
 rw[z4a h,if_neg (fun f=>h1 f.1)];unfold endV
 by_cases hb:b=0<;>simp[hb,h2]
theorem zCc{c d s:Int}{r:Bool}{o n b:Int}(h:z1e c d s r o n=0)(h1:c=14\/(15<=c/\c<=24)):z3q c d s r o n b=zR3 o b:=by
 rw[z4a h];unfold zR3 endV
 (repeat' split)<;>omega
theorem zAp(c d s:Int)(r:Bool)(o n b:Int)(w:World):
  zR 62 #[.agg #[A F c,A F d,A F s,.bool r,A F o,A F n],A F b,.func (Fn.func 61) #[] #[]] w (A F (z3q c d s r o n b)):=by
 by_cases k1:c<1
 ·have e:z1e c d s r o n=3:=by unfold z1e;rw[if_pos (Or.inl k1)]
  rw[z38 e kD];exact zYb c d s o n b r k1 w
 by_cases k2:28<c
 ·have e:z1e c d s r o n=3:=by unfold z1e;rw[if_pos (Or.inr k2)]
  rw[z38 e kD];exact zYc c d s o n b r k2 w
 have c1:1<=c:=kO;have c2:c<=28:=kO;have two:(d<0\/10<d\/s<0\/10<s)->z3q c d s r o n b=2:=fun h=>z38 (by unfold z1e;rw[if_neg kO,if_pos h]) kD
 by_cases k3:d<0
 ·rw[two kO];exact zY9 c d s o n b r c1 c2 k3 w
 by_cases k4:10<d
 ·rw[two kO];exact zYa c d s o n b r c1 c2 k4 w
 have d1:0<=d:=kO;have d2:d<=10:=kO
 by_cases k5:s<0
 ·rw[two kO];exact zY7 c d s o n b r c1 c2 d1 d2 k5 w
 by_cases k6:10<s
 ·rw[two kO];exact zY8 c d s o n b r c1 c2 d1 d2 k6 w
 have s1:0<=s:=kO;have s2:s<=10:=kO
 by_cases ht:((1<=c/\c<=13)\/c=25)/\d=10
 ·have e:z1e c d s r o n=6:=by unfold z1e;rw[if_neg kO,if_neg kO,if_pos ht]
  rw[z38 e kD];obtain⟨h,rfl⟩:=ht;rcases h with⟨a1,a2⟩|rfl
  ·exact op_top c s o n b r a1 a2 s1 s2 w
  ·exact zUa s o n b r s1 s2 w
 have last:=z8x (r:=r) (o:=o) (n:=n) c1 c2 d1 d2 s1 s2 ht;have hc:(1<=c/\c<=13)\/(15<=c/\c<=24)\/c=14\/c=25\/c=26\/c=27\/c=28:=kO
 cases hm:moreV c d s r o n with
 |true=>
  have e:z1e c d s r o n=1:=by rw[last,if_pos (Or.inl hm)]
  rw[z38 e kD];rcases hc with⟨a1,a2⟩|⟨a1,a2⟩|rfl|rfl|rfl|rfl|rfl
  ·exact zIg c d s o n b r a1 a2 d1 d2 s1 s2 kO hm w
  ·exact zIp c d s o n b r a1 a2 d1 d2 s1 s2 hm w
  ·exact zIo d s o n b r d1 d2 s1 s2 hm w
  ·exact zIn d s o n b r d1 d2 s1 s2 kO hm w
  ·exact zIm d s o n b r d1 d2 s1 s2 hm w
  ·exact zIi d s o n b r d1 d2 s1 s2 hm w
  ·exact zIh d s o n b r d1 d2 s1 s2 hm w
 |false=>
  by_cases h27:c=27/\n≠1/\n≠2/\n≠3
  ·have e:z1e c d s r o n=1:=by rw[last,if_pos (Or.inr h27)]
   rw[z38 e kD];obtain⟨rfl,n1,n2,n3⟩:=h27;exact zN9 d s o n b r d1 d2 s1 s2 hm (by simpa using n1) (by simpa using n2) (by simpa using n3) w
  ·have e:z1e c d s r o n=0:=by rw[last,if_neg (by rw[hm];simpa using h27)]
   rcases hc with⟨a1,a2⟩|⟨a1,a2⟩|rfl|rfl|rfl|rfl|rfl
   ·rw[z7d e kO kO];exact zN7 c d s o n b r a1 a2 d1 d2 s1 s2 kO hm w
   ·rw[zCc e kO];exact zNd c d s o n b r a1 a2 d1 d2 s1 s2 hm w
   ·rw[zCc e kO];exact zNc d s o n b r d1 d2 s1 s2 hm w
   ·rw[z7d e kO kO];exact zNb d s o n b r d1 d2 s1 s2 kO hm w
   ·rw[z7d e kO kO];exact zNa d s o n b r d1 d2 s1 s2 hm w
   ·rw[z7d e kO kO]
    have hn:n=1\/n=2\/n=3:=kO;rcases hn with rfl|rfl|rfl
    ·exact zIl d s o 1 b r d1 d2 s1 s2 hm kD w
    ·exact zIk d s o 2 b r d1 d2 s1 s2 hm kD kD w
    ·exact zIj d s o 3 b r d1 d2 s1 s2 hm kD kD kD w
   ·have z:z3q 28 d s r o n b=0:=by rw[z4a e,if_neg kO,if_neg kO]
    rw[z];exact zN8 d s o n b r d1 d2 s1 s2 hm w
def z1g(w:World)(bk off len:Nat)(C D S:Nat->Int)(R:Nat->Bool)(O N:Nat->Int):Prop:=
 ∀i,i<len->w.cell? ⟨bk,off+i*6,none⟩=some (A F (C i))/\w.cell? ⟨bk,off+i*6+1,none⟩=some (A F (D i))/\w.cell? ⟨bk,off+i*6+2,none⟩=some (A F (S i))
  /\w.cell? ⟨bk,off+i*6+3,none⟩=some (.bool (R i))/\w.cell? ⟨bk,off+i*6+4,none⟩=some (A F (O i))/\w.cell? ⟨bk,off+i*6+5,none⟩=some (A F (N i))
theorem z1g.later{w wr:World}{bk off len:Nat}{C D S:Nat->Int}{R:Nat->Bool}{O N:Nat->Int}(h:z1g w bk off len C D S R O N)(hb:Below w.heap.size w wr)(hbk:bk<w.heap.size):z1g wr bk off len C D S R O N:=by
 intro i hi;obtain⟨a,b,c,d,e,f⟩:=h i hi;exact⟨(hb.cell (p:=⟨bk,_,none⟩) hbk).trans a,(hb.cell (p:=⟨bk,_,none⟩) hbk).trans b,(hb.cell (p:=⟨bk,_,none⟩) hbk).trans c,(hb.cell (p:=⟨bk,_,none⟩) hbk).trans d,(hb.cell (p:=⟨bk,_,none⟩) hbk).trans e,(hb.cell (p:=⟨bk,_,none⟩) hbk).trans f⟩
def z0l(len:Nat)(C D S:Nat->Int)(R:Nat->Bool)(O N:Nat->Int)(i:Nat):Int:=z3q (C i) (D i) (S i) (R i) (O i) (N i) ((len:Int)-1-i)
theorem zEd(a:Option Addr)(len cap:Nat)(h:len<1\/200<len)(w:World):
  zS 48 #[.slice a len cap] w (.iface 30 (A F 4)):=by
 rcases h with h|h
 ·obtain rfl:len=0:=by omega
  go_enter Tryz.func48,Tryz.ntmps48;go_wp2;go_ret;exact⟨rfl,rfl⟩
 have z0:decide ((len:Int)<1)=false:=kZ;have z1:decide (200<(len:Int))=true:=kZ;go_enter Tryz.func48,Tryz.ntmps48;go_wp2;go_ret;exact⟨rfl,rfl⟩
theorem z7s (bk off len cap : Nat) (C D S O N : Nat -> Int) (R : Nat -> Bool) (w : World) (h1 : 1 <= len) (h2 : len <= 200) (hbk : bk < w.heap.size) (hst : z1g w bk off len C D S R O N) :
    Calls tP 48 #[.slice (some ⟨bk, off, none⟩) len cap] w fun e w' => Below w.heap.size w w' /\
      ((e = rT .nilIface /\ ∀ j, j < len -> z0l len C D S R O N j = 0) \/
       (∃ i p, i < len /\ (∀ j, j < i -> z0l len C D S R O N j = 0) /\ z0l len C D S R O N i ≠ 0 /\ e = rT (.iface 134 (pT (some ⟨p, 0, none⟩))) /\ w.heap.size <= p
          /\ w'.cell? ⟨p, 0, none⟩ = some (A F (z0l len C D S R O N i)) /\ w'.cell? ⟨p, 1, none⟩ = some (A F i))) := by
  have z0 : decide ((len : Int) < 1) = false := kZ;have z1 : decide (200 < (len : Int)) = false := kZ;go_enter Tryz.func48, Tryz.ntmps48;go_wp2;go_loopw [18] (fun i wr => ∃ k : Nat, k <= len /\ i = A F k /\ Below w.heap.size w wr /\ ∀ j, j < k -> z0l len C D S R O N j = 0) (fun i _ => len - (intOf i).toNat)
  case atStart => exact ⟨0, Nat.zero_le _, rfl, bF _ _, fun j hj => absurd hj (Nat.not_lt_zero _)⟩
  case round =>
    obtain ⟨k, hk, rfl, hb, hno⟩ := hrel
    by_cases hlt : k < len
    · obtain ⟨g0, g1, g2, g3, g4, g5⟩ := hst.later hb hbk k hlt
      have hsz := hb.size;have HF : Hid (z0l len C D S R O N k = z3q (C k) (D k) (S k) (R k) (O k) (N k) ((len : Int) - 1 - k)) := rfl
      by_cases hw : z3q (C k) (D k) (S k) (R k) (O k) (N k) ((len : Int) - 1 - k) = 0
      · have hw2 : (z3q (C k) (D k) (S k) (R k) (O k) (N k) ((len : Int) - 1 - k) != 0) = false := by simp [hw]
        have HW : Hid (z3q (C k) (D k) (S k) (R k) (O k) (N k) ((len : Int) - 1 - k) = 0) := hw;clear hw;go_wp2_with (go_at_call 62; refine (zAp _ _ _ _ _ _ _ _).mono ?_; rintro e w1 ⟨rfl, hb1⟩; obtain ⟨hcl, hfr⟩ := z1b hb1);go_roundw
        case rel => exact ⟨k + 1, by omega, by go_num, (hb.alloc hsz _).trans (hb1.mono kZ), fun j hj => by
          rcases Nat.lt_succ_iff_lt_or_eq.1 hj with h | h
          · exact hno j h
          · rw [h, HF.out]; exact HW.out⟩
        case measure => simp [intOf]; omega
      · have hw2 : (z3q (C k) (D k) (S k) (R k) (O k) (N k) ((len : Int) - 1 - k) != 0) = true := by simp [hw]
        have HW : Hid (z3q (C k) (D k) (S k) (R k) (O k) (N k) ((len : Int) - 1 - k) ≠ 0) := hw;clear hw;go_wp2_with (go_at_call 62; refine (zAp _ _ _ _ _ _ _ _).mono ?_; rintro e w1 ⟨rfl, hb1⟩; obtain ⟨hcl, hfr⟩ := z1b hb1);go_ret;have hb2 : Below w.heap.size w w1 := (hb.alloc hsz _).trans (hb1.mono kZ);refine ⟨hb2.alloc hb2.size _, Or.inr ⟨k, w1.heap.size, hlt, hno, by rw [HF.out]; exact HW.out, rfl, hb2.size, ?_, ?_⟩⟩
        · rw [HF.out, World.cell?_alloc_at _ _ _ _ rfl]; rfl
        · rw [World.cell?_alloc_at _ _ _ _ rfl]; rfl
    · obtain rfl : k = len := by omega
      go_wp2;go_ret;exact ⟨hb, Or.inl ⟨rfl, hno⟩⟩
theorem z0k{w wr w1:World}{Z o:Obj}(hb:Below (w.alloc Z).heap.size (w.alloc Z) wr)(hb1:Below (wr.alloc o).heap.size (wr.alloc o) w1):Below (w.alloc Z).heap.size (w.alloc Z) w1:=
 (hb.alloc hb.size _).trans (hb1.mono (by have:=hb.size;simp at*;omega))
theorem z15{w w1:World}{t:TypeId}(h:Below (w.alloc (cT #[A F 0,A F 0] t)).heap.size (w.alloc (cT #[A F 0,A F 0] t)) w1):
  w1.cell? ⟨w.heap.size,0,none⟩=some (A F 0)/\w1.cell? ⟨w.heap.size,1,none⟩=some (A F 0)/\w1.frozen? ⟨w.heap.size,0,none⟩=false/\w1.frozen? ⟨w.heap.size,1,none⟩=false/\w.heap.size<w1.heap.size:=by
 have hs:=h.size;refine⟨?_,?_,?_,?_,by simp at hs;omega⟩
 ·rw[h.cell (p:=⟨w.heap.size,0,none⟩) kS];simp
 ·rw[h.cell (p:=⟨w.heap.size,1,none⟩) kS];simp
 ·rw[h.frozen (p:=⟨w.heap.size,0,none⟩) kS];simp
 rw[h.frozen (p:=⟨w.heap.size,1,none⟩) kS];simp
theorem z2x{w w1:World}{Z:Obj}(h:Below (w.alloc Z).heap.size (w.alloc Z) w1):Below w.heap.size w w1:=
 ((bF _ _).alloc (Nat.le_refl _) Z).trans (h.mono kS)
theorem z1t{f:Nat->Int}{k:Nat}(h: ∀j,j<k->f j=0)(hk:f k=0)(j:Nat)(hj:j<k+1):f j=0:=by
 rcases Nat.lt_succ_iff_lt_or_eq.1 hj with g|g
 ·exact h j g
 rw[g];exact hk
theorem zA4(x:Int)(w:World):
  zR 14 #[A F x] w (.agg #[A F x,A F (-1)]):=by
 go_enter Tryz.func14,Tryz.ntmps14;go_wp2;exact bodyPost_ret (v:= .agg #[A F x,A F (-1)]) (by simp[results,Tryz.results14,go_sem]) rfl ⟨rfl,(bF _ _).alloc (Nat.le_refl _) _⟩
theorem zBs(a:Option Addr)(len cap:Nat)(h:len<1\/200<len)(w:World):
  zR 44 #[.slice a len cap] w (.agg #[A F 4,A F (-1)]):=by
 rcases h with h|h
 ·obtain rfl:len=0:=by omega
  go_enter Tryz.func44,Tryz.ntmps44;go_wp2_with(first|(go_at_call 14;refine(zA4 _ _).mono ?_;rintro e w1 ⟨rfl,hb1⟩;obtain⟨q0,q1,q2,q3,q4⟩:=z15 hb1)|go_in);exact bodyPost_ret (v:= .agg #[A F 4,A F (-1)]) (by simp[results,Tryz.results44,go_sem,q0,q1]) rfl ⟨rfl,((z2x hb1).setCell (Nat.le_refl _) _).setCell (Nat.le_refl _) _⟩
 have z0:decide (1<=(len:Int))=true:=kZ;have z1:decide ((len:Int)<=200)=false:=kZ;go_enter Tryz.func44,Tryz.ntmps44;go_wp2_with(first|(go_at_call 14;refine(zA4 _ _).mono ?_;rintro e w1 ⟨rfl,hb1⟩;obtain⟨q0,q1,q2,q3,q4⟩:=z15 hb1)|go_in);exact bodyPost_ret (v:= .agg #[A F 4,A F (-1)]) (by simp[results,Tryz.results44,go_sem,q0,q1]) rfl ⟨rfl,((z2x hb1).setCell (Nat.le_refl _) _).setCell (Nat.le_refl _) _⟩
section
variable {len:Nat} {C D S:Nat->Int} {R:Nat->Bool} {O N:Nat->Int} {k:Nat}
theorem zJj(h:z1e (C k) (D k) (S k) (R k) (O k) (N k)≠0):z0l len C D S R O N k=z1e (C k) (D k) (S k) (R k) (O k) (N k):=z38 rfl h
theorem z6c(h:z1e (C k) (D k) (S k) (R k) (O k) (N k)=0)(h1:C k=14\/(15<=C k/\C k<=24))(h2:O k<0\/(len:Int)-2-k<O k):z0l len C D S R O N k=10:=by
 unfold z0l;rw[z4a h,if_pos ⟨h1,by omega⟩]
theorem z6d(h:z1e (C k) (D k) (S k) (R k) (O k) (N k)=0)(h1: ¬(C k=14\/(15<=C k/\C k<=24))\/(0<=O k/\O k<=(len:Int)-2-k))(h2:(k:Int)=len-1)(h3:C k≠28):z0l len C D S R O N k=8:=by
 unfold z0l;rw[z4a h,if_neg kO,if_pos ⟨by omega,h3⟩]
theorem z3f(h:z1e (C k) (D k) (S k) (R k) (O k) (N k)=0)(h1: ¬(C k=14\/(15<=C k/\C k<=24))\/(0<=O k/\O k<=(len:Int)-2-k))(h2:(k:Int)≠len-1\/C k=28):z0l len C D S R O N k=0:=by
 unfold z0l;rw[z4a h,if_neg kO,if_neg kO]
end
theorem z6m (bk off len cap : Nat) (C D S O N : Nat -> Int) (R : Nat -> Bool) (w : World) (h1 : 1 <= len) (h2 : len <= 200) (hbk : bk < w.heap.size) (hst : z1g w bk off len C D S R O N) :
    Calls tP 44 #[.slice (some ⟨bk, off, none⟩) len cap] w fun e w' => Below w.heap.size w w' /\
      ((e = rT (.agg #[A F 0, A F (-1)]) /\ ∀ j, j < len -> z0l len C D S R O N j = 0) \/
       (∃ i, i < len /\ (∀ j, j < i -> z0l len C D S R O N j = 0) /\ z0l len C D S R O N i ≠ 0 /\ e = rT (.agg #[A F (z0l len C D S R O N i), A F i]))) := by
  have z0 : decide (1 <= (len : Int)) = true := kZ;have z1 : decide ((len : Int) <= 200) = true := kZ;go_enter Tryz.func44, Tryz.ntmps44;go_wp2;go_loopw [14] (fun i wr => ∃ k : Nat, k <= len /\ i = A F k /\ Below (w.alloc (cT #[A F 0, A F 0] 75)).heap.size (w.alloc (cT #[A F 0, A F 0] 75)) wr /\ ∀ j, j < k -> z0l len C D S R O N j = 0) (fun i _ => len - (intOf i).toNat)
  case atStart => exact ⟨0, Nat.zero_le _, rfl, bF _ _, fun j hj => absurd hj (Nat.not_lt_zero _)⟩
  case round =>
    obtain ⟨k, hk, rfl, hb, hno⟩ := hrel;have hbw := z2x hb
    by_cases hlt : k < len
    · obtain ⟨g0, g1, g2, g3, g4, g5⟩ := hst.later hbw hbk k hlt
      have hsz := hbw.size
      by_cases hal : z1e (C k) (D k) (S k) (R k) (O k) (N k) = 0
      · have hw2 : (z1e (C k) (D k) (S k) (R k) (O k) (N k) != 0) = false := by simp [hal]
        have HA : Hid (z1e (C k) (D k) (S k) (R k) (O k) (N k) = 0) := hal;clear hal
        by_cases h14 : C k = 14
        · have e14 : (C k == 14) = true := by simp [h14]
          have HL : Hid (C k = 14 \/ (15 <= C k /\ C k <= 24)) := Or.inl h14;clear h14
          by_cases ho : O k < 0
          · have x1 : decide (O k < 0) = true := by simpa using ho
            have HN : Hid (z0l len C D S R O N k = 10) := z6c HA.out HL.out (Or.inl ho);go_wp2_with (first | (go_at_call 55; refine (z16 _ _ _ _ _ _ _).mono ?_; rintro e w1 ⟨rfl, hb1⟩; obtain ⟨hcl, hfr⟩ := z1b hb1; obtain ⟨q0, q1, q2, q3, q4⟩ := z15 (z0k hb hb1)) | go_in);refine bodyPost_ret (v := .agg #[A F 10, A F k]) (by simp [results, Tryz.results44, go_sem, q0, q1]) rfl ⟨((z2x (z0k hb hb1)).setCell (Nat.le_refl _) _).setCell (Nat.le_refl _) _, Or.inr ⟨k, hlt, hno, ?_, ?_⟩⟩
            · rw [HN.out]; decide
            · rw [HN.out]
          · have x1 : decide (O k < 0) = false := by simpa using ho
            by_cases ho2 : (len : Int) - 2 - k < O k
            · have x2 : decide ((len : Int) - 2 - k < O k) = true := by simpa using ho2
              have HN : Hid (z0l len C D S R O N k = 10) := z6c HA.out HL.out (Or.inr ho2);go_wp2_with (first | (go_at_call 55; refine (z16 _ _ _ _ _ _ _).mono ?_; rintro e w1 ⟨rfl, hb1⟩; obtain ⟨hcl, hfr⟩ := z1b hb1; obtain ⟨q0, q1, q2, q3, q4⟩ := z15 (z0k hb hb1)) | go_in);refine bodyPost_ret (v := .agg #[A F 10, A F k]) (by simp [results, Tryz.results44, go_sem, q0, q1]) rfl ⟨((z2x (z0k hb hb1)).setCell (Nat.le_refl _) _).setCell (Nat.le_refl _) _, Or.inr ⟨k, hlt, hno, ?_, ?_⟩⟩
              · rw [HN.out]; decide
              · rw [HN.out]
            · have x2 : decide ((len : Int) - 2 - k < O k) = false := by simpa using ho2
              have HO : Hid (0 <= O k /\ O k <= (len : Int) - 2 - k) := ⟨by omega, by omega⟩;clear ho ho2
              by_cases hl : (k : Int) = len - 1
              · have y1 : ((k : Int) == (len : Int) - 1) = true := by simp [hl]
                by_cases h28 : C k = 28
                · have y2 : (C k != 28) = false := by simp [h28]
                  have HN : Hid (z0l len C D S R O N k = 0) := z3f HA.out (Or.inr HO.out) (Or.inr h28);clear hl h28;go_wp2_with (first | (go_at_call 55; refine (z16 _ _ _ _ _ _ _).mono ?_; rintro e w1 ⟨rfl, hb1⟩; obtain ⟨hcl, hfr⟩ := z1b hb1; obtain ⟨q0, q1, q2, q3, q4⟩ := z15 (z0k hb hb1)) | go_in);go_roundw
                  case rel => first | exact ⟨k + 1, by omega, by go_num, z0k hb hb1, z1t hno HN.out⟩ | ((repeat apply Exists.intro); exact ⟨⟨k + 1, by omega, by go_num, z0k hb hb1, z1t hno HN.out⟩, rfl⟩)
                  case measure => simp [intOf]; omega
                · have y2 : (C k != 28) = true := by simp [h28]
                  have HN : Hid (z0l len C D S R O N k = 8) := z6d HA.out (Or.inr HO.out) hl h28;clear hl h28;go_wp2_with (first | (go_at_call 55; refine (z16 _ _ _ _ _ _ _).mono ?_; rintro e w1 ⟨rfl, hb1⟩; obtain ⟨hcl, hfr⟩ := z1b hb1; obtain ⟨q0, q1, q2, q3, q4⟩ := z15 (z0k hb hb1)) | go_in);refine bodyPost_ret (v := .agg #[A F 8, A F k]) (by simp [results, Tryz.results44, go_sem, q0, q1]) rfl ⟨((z2x (z0k hb hb1)).setCell (Nat.le_refl _) _).setCell (Nat.le_refl _) _, Or.inr ⟨k, hlt, hno, ?_, ?_⟩⟩
                  · rw [HN.out]; decide
                  · rw [HN.out]
              · have y1 : ((k : Int) == (len : Int) - 1) = false := by simp [hl]
                have HN : Hid (z0l len C D S R O N k = 0) := z3f HA.out (Or.inr HO.out) (Or.inl hl);clear hl;go_wp2_with (first | (go_at_call 55; refine (z16 _ _ _ _ _ _ _).mono ?_; rintro e w1 ⟨rfl, hb1⟩; obtain ⟨hcl, hfr⟩ := z1b hb1; obtain ⟨q0, q1, q2, q3, q4⟩ := z15 (z0k hb hb1)) | go_in);go_roundw
                case rel => first | exact ⟨k + 1, by omega, by go_num, z0k hb hb1, z1t hno HN.out⟩ | ((repeat apply Exists.intro); exact ⟨⟨k + 1, by omega, by go_num, z0k hb hb1, z1t hno HN.out⟩, rfl⟩)
                case measure => simp [intOf]; omega
        · have e14 : (C k == 14) = false := by simp [h14]
          by_cases h15 : 15 <= C k
          · have e15 : decide (15 <= C k) = true := by simpa using h15
            by_cases h24 : C k <= 24
            · have e24 : decide (C k <= 24) = true := by simpa using h24
              have HL : Hid (C k = 14 \/ (15 <= C k /\ C k <= 24)) := Or.inr ⟨h15, h24⟩;clear h14 h15 h24
              by_cases ho : O k < 0
              · have x1 : decide (O k < 0) = true := by simpa using ho
                have HN : Hid (z0l len C D S R O N k = 10) := z6c HA.out HL.out (Or.inl ho);go_wp2_with (first | (go_at_call 55; refine (z16 _ _ _ _ _ _ _).mono ?_; rintro e w1 ⟨rfl, hb1⟩; obtain ⟨hcl, hfr⟩ := z1b hb1; obtain ⟨q0, q1, q2, q3, q4⟩ := z15 (z0k hb hb1)) | go_in);refine bodyPost_ret (v := .agg #[A F 10, A F k]) (by simp [results, Tryz.results44, go_sem, q0, q1]) rfl ⟨((z2x (z0k hb hb1)).setCell (Nat.le_refl _) _).setCell (Nat.le_refl _) _, Or.inr ⟨k, hlt, hno, ?_, ?_⟩⟩
                · rw [HN.out]; decide
                · rw [HN.out]
              · have x1 : decide (O k < 0) = false := by simpa using ho
                by_cases ho2 : (len : Int) - 2 - k < O k
                · have x2 : decide ((len : Int) - 2 - k < O k) = true := by simpa using ho2
                  have HN : Hid (z0l len C D S R O N k = 10) := z6c HA.out HL.out (Or.inr ho2);go_wp2_with (first | (go_at_call 55; refine (z16 _ _ _ _ _ _ _).mono ?_; rintro e w1 ⟨rfl, hb1⟩; obtain ⟨hcl, hfr⟩ := z1b hb1; obtain ⟨q0, q1, q2, q3, q4⟩ := z15 (z0k hb hb1)) | go_in);refine bodyPost_ret (v := .agg #[A F 10, A F k]) (by simp [results, Tryz.results44, go_sem, q0, q1]) rfl ⟨((z2x (z0k hb hb1)).setCell (Nat.le_refl _) _).setCell (Nat.le_refl _) _, Or.inr ⟨k, hlt, hno, ?_, ?_⟩⟩
                  · rw [HN.out]; decide
                  · rw [HN.out]
                · have x2 : decide ((len : Int) - 2 - k < O k) = false := by simpa using ho2
                  have HO : Hid (0 <= O k /\ O k <= (len : Int) - 2 - k) := ⟨by omega, by omega⟩;clear ho ho2
                  by_cases hl : (k : Int) = len - 1
                  · have y1 : ((k : Int) == (len : Int) - 1) = true := by simp [hl]
                    by_cases h28 : C k = 28
                    · have y2 : (C k != 28) = false := by simp [h28]
                      have HN : Hid (z0l len C D S R O N k = 0) := z3f HA.out (Or.inr HO.out) (Or.inr h28);clear hl h28;go_wp2_with (first | (go_at_call 55; refine (z16 _ _ _ _ _ _ _).mono ?_; rintro e w1 ⟨rfl, hb1⟩; obtain ⟨hcl, hfr⟩ := z1b hb1; obtain ⟨q0, q1, q2, q3, q4⟩ := z15 (z0k hb hb1)) | go_in);go_roundw
                      case rel => first | exact ⟨k + 1, by omega, by go_num, z0k hb hb1, z1t hno HN.out⟩ | ((repeat apply Exists.intro); exact ⟨⟨k + 1, by omega, by go_num, z0k hb hb1, z1t hno HN.out⟩, rfl⟩)
                      case measure => simp [intOf]; omega
                    · have y2 : (C k != 28) = true := by simp [h28]
                      have HN : Hid (z0l len C D S R O N k = 8) := z6d HA.out (Or.inr HO.out) hl h28;clear hl h28;go_wp2_with (first | (go_at_call 55; refine (z16 _ _ _ _ _ _ _).mono ?_; rintro e w1 ⟨rfl, hb1⟩; obtain ⟨hcl, hfr⟩ := z1b hb1; obtain ⟨q0, q1, q2, q3, q4⟩ := z15 (z0k hb hb1)) | go_in);refine bodyPost_ret (v := .agg #[A F 8, A F k]) (by simp [results, Tryz.results44, go_sem, q0, q1]) rfl ⟨((z2x (z0k hb hb1)).setCell (Nat.le_refl _) _).setCell (Nat.le_refl _) _, Or.inr ⟨k, hlt, hno, ?_, ?_⟩⟩
                      · rw [HN.out]; decide
                      · rw [HN.out]
                  · have y1 : ((k : Int) == (len : Int) - 1) = false := by simp [hl]
                    have HN : Hid (z0l len C D S R O N k = 0) := z3f HA.out (Or.inr HO.out) (Or.inl hl);clear hl;go_wp2_with (first | (go_at_call 55; refine (z16 _ _ _ _ _ _ _).mono ?_; rintro e w1 ⟨rfl, hb1⟩; obtain ⟨hcl, hfr⟩ := z1b hb1; obtain ⟨q0, q1, q2, q3, q4⟩ := z15 (z0k hb hb1)) | go_in);go_roundw
                    case rel => first | exact ⟨k + 1, by omega, by go_num, z0k hb hb1, z1t hno HN.out⟩ | ((repeat apply Exists.intro); exact ⟨⟨k + 1, by omega, by go_num, z0k hb hb1, z1t hno HN.out⟩, rfl⟩)
                    case measure => simp [intOf]; omega
            · have e24 : decide (C k <= 24) = false := by simpa using h24
              have HL : Hid (¬ (C k = 14 \/ (15 <= C k /\ C k <= 24))) := fun h => by omega
              clear h14 h15 h24
              by_cases hl : (k : Int) = len - 1
              · have y1 : ((k : Int) == (len : Int) - 1) = true := by simp [hl]
                by_cases h28 : C k = 28
                · have y2 : (C k != 28) = false := by simp [h28]
                  have HN : Hid (z0l len C D S R O N k = 0) := z3f HA.out (Or.inl HL.out) (Or.inr h28);clear hl h28;go_wp2_with (first | (go_at_call 55; refine (z16 _ _ _ _ _ _ _).mono ?_; rintro e w1 ⟨rfl, hb1⟩; obtain ⟨hcl, hfr⟩ := z1b hb1; obtain ⟨q0, q1, q2, q3, q4⟩ := z15 (z0k hb hb1)) | go_in);go_roundw
                  case rel => first | exact ⟨k + 1, by omega, by go_num, z0k hb hb1, z1t hno HN.out⟩ | ((repeat apply Exists.intro); exact ⟨⟨k + 1, by omega, by go_num, z0k hb hb1, z1t hno HN.out⟩, rfl⟩)
                  case measure => simp [intOf]; omega
                · have y2 : (C k != 28) = true := by simp [h28]
                  have HN : Hid (z0l len C D S R O N k = 8) := z6d HA.out (Or.inl HL.out) hl h28;clear hl h28;go_wp2_with (first | (go_at_call 55; refine (z16 _ _ _ _ _ _ _).mono ?_; rintro e w1 ⟨rfl, hb1⟩; obtain ⟨hcl, hfr⟩ := z1b hb1; obtain ⟨q0, q1, q2, q3, q4⟩ := z15 (z0k hb hb1)) | go_in);refine bodyPost_ret (v := .agg #[A F 8, A F k]) (by simp [results, Tryz.results44, go_sem, q0, q1]) rfl ⟨((z2x (z0k hb hb1)).setCell (Nat.le_refl _) _).setCell (Nat.le_refl _) _, Or.inr ⟨k, hlt, hno, ?_, ?_⟩⟩
                  · rw [HN.out]; decide
                  · rw [HN.out]
              · have y1 : ((k : Int) == (len : Int) - 1) = false := by simp [hl]
                have HN : Hid (z0l len C D S R O N k = 0) := z3f HA.out (Or.inl HL.out) (Or.inl hl);clear hl;go_wp2_with (first | (go_at_call 55; refine (z16 _ _ _ _ _ _ _).mono ?_; rintro e w1 ⟨rfl, hb1⟩; obtain ⟨hcl, hfr⟩ := z1b hb1; obtain ⟨q0, q1, q2, q3, q4⟩ := z15 (z0k hb hb1)) | go_in);go_roundw
                case rel => first | exact ⟨k + 1, by omega, by go_num, z0k hb hb1, z1t hno HN.out⟩ | ((repeat apply Exists.intro); exact ⟨⟨k + 1, by omega, by go_num, z0k hb hb1, z1t hno HN.out⟩, rfl⟩)
                case measure => simp [intOf]; omega
          · have e15 : decide (15 <= C k) = false := by simpa using h15
            have HL : Hid (¬ (C k = 14 \/ (15 <= C k /\ C k <= 24))) := fun h => by omega
            clear h14 h15
            by_cases hl : (k : Int) = len - 1
            · have y1 : ((k : Int) == (len : Int) - 1) = true := by simp [hl]
              by_cases h28 : C k = 28
              · have y2 : (C k != 28) = false := by simp [h28]
                have HN : Hid (z0l len C D S R O N k = 0) := z3f HA.out (Or.inl HL.out) (Or.inr h28);clear hl h28;go_wp2_with (first | (go_at_call 55; refine (z16 _ _ _ _ _ _ _).mono ?_; rintro e w1 ⟨rfl, hb1⟩; obtain ⟨hcl, hfr⟩ := z1b hb1; obtain ⟨q0, q1, q2, q3, q4⟩ := z15 (z0k hb hb1)) | go_in);go_roundw
                case rel => first | exact ⟨k + 1, by omega, by go_num, z0k hb hb1, z1t hno HN.out⟩ | ((repeat apply Exists.intro); exact ⟨⟨k + 1, by omega, by go_num, z0k hb hb1, z1t hno HN.out⟩, rfl⟩)
                case measure => simp [intOf]; omega
              · have y2 : (C k != 28) = true := by simp [h28]
                have HN : Hid (z0l len C D S R O N k = 8) := z6d HA.out (Or.inl HL.out) hl h28;clear hl h28;go_wp2_with (first | (go_at_call 55; refine (z16 _ _ _ _ _ _ _).mono ?_; rintro e w1 ⟨rfl, hb1⟩; obtain ⟨hcl, hfr⟩ := z1b hb1; obtain ⟨q0, q1, q2, q3, q4⟩ := z15 (z0k hb hb1)) | go_in);refine bodyPost_ret (v := .agg #[A F 8, A F k]) (by simp [results, Tryz.results44, go_sem, q0, q1]) rfl ⟨((z2x (z0k hb hb1)).setCell (Nat.le_refl _) _).setCell (Nat.le_refl _) _, Or.inr ⟨k, hlt, hno, ?_, ?_⟩⟩
                · rw [HN.out]; decide
                · rw [HN.out]
            · have y1 : ((k : Int) == (len : Int) - 1) = false := by simp [hl]
              have HN : Hid (z0l len C D S R O N k = 0) := z3f HA.out (Or.inl HL.out) (Or.inl hl);clear hl;go_wp2_with (first | (go_at_call 55; refine (z16 _ _ _ _ _ _ _).mono ?_; rintro e w1 ⟨rfl, hb1⟩; obtain ⟨hcl, hfr⟩ := z1b hb1; obtain ⟨q0, q1, q2, q3, q4⟩ := z15 (z0k hb hb1)) | go_in);go_roundw
              case rel => first | exact ⟨k + 1, by omega, by go_num, z0k hb hb1, z1t hno HN.out⟩ | ((repeat apply Exists.intro); exact ⟨⟨k + 1, by omega, by go_num, z0k hb hb1, z1t hno HN.out⟩, rfl⟩)
              case measure => simp [intOf]; omega
      · have hw2 : (z1e (C k) (D k) (S k) (R k) (O k) (N k) != 0) = true := by simp [hal]
        have HA : Hid (z1e (C k) (D k) (S k) (R k) (O k) (N k) ≠ 0) := hal;have HN : Hid (z0l len C D S R O N k = z1e (C k) (D k) (S k) (R k) (O k) (N k)) := zJj hal;clear hal;go_wp2_with (first | (go_at_call 55; refine (z16 _ _ _ _ _ _ _).mono ?_; rintro e w1 ⟨rfl, hb1⟩; obtain ⟨hcl, hfr⟩ := z1b hb1; obtain ⟨q0, q1, q2, q3, q4⟩ := z15 (z0k hb hb1)) | go_in);refine bodyPost_ret (v := .agg #[A F (z1e (C k) (D k) (S k) (R k) (O k) (N k)), A F k]) (by simp [results, Tryz.results44, go_sem, q0, q1]) rfl ⟨((z2x (z0k hb hb1)).setCell (Nat.le_refl _) _).setCell (Nat.le_refl _) _, Or.inr ⟨k, hlt, hno, ?_, ?_⟩⟩
        · rw [HN.out]; exact HA.out
        · rw [HN.out]
    · obtain rfl : k = len := by omega
      go_wp2_with (first | (go_at_call 14; refine (zA4 _ _).mono ?_; rintro e w1 ⟨rfl, hb1⟩; obtain ⟨q0, q1, q2, q3, q4⟩ := z15 (hb.trans (hb1.mono hb.size))) | go_in);exact bodyPost_ret (v := .agg #[A F 0, A F (-1)]) (by simp [results, Tryz.results44, go_sem, q0, q1]) rfl ⟨((z2x (hb.trans (hb1.mono hb.size))).setCell (Nat.le_refl _) _).setCell (Nat.le_refl _) _, Or.inl ⟨rfl, hno⟩⟩
end
section
open Go.ChangeShapes Go.WideShapes Go.ChangeAt Go.RowKit
theorem zCk{f:Nat->Int}{i k:Nat}(hi: ∀j,j<i->f j=0)(hf:f i≠0)(hk: ∀j,j<k->f j=0)(hg:f k≠0):k=i:=by
 rcases Nat.lt_trichotomy k i with h|h|h
 ·exact absurd (hi k h) hg
 ·exact h
 exact absurd (hk i h) hf
section
variable {bk off len cap:Nat} {C D S O N:Nat->Int} {R:Nat->Bool} {w:World} (h1:1<=len) (h2:len<=200) (hbk:bk<w.heap.size) (hst:z1g w bk off len C D S R O N)
theorem z5r(h: ∀j,j<len->z0l len C D S R O N j=0)(hst:z1g w bk off len C D S R O N)(h1:1<=len)(h2:len<=200)(hbk:bk<w.heap.size):
  zR 48 #[.slice (some ⟨bk,off,none⟩) len cap] w .nilIface:=by
 refine(z7s bk off len cap C D S O N R w h1 h2 hbk hst).mono fun e w' hh=>?_;obtain⟨hb,hh⟩:=hh;rcases hh with⟨he,_⟩|⟨i,p,hi,_,hf,_⟩
 ·exact⟨he,hb⟩
 exact absurd (h i hi) hf
theorem z7m(h: ∀j,j<len->z0l len C D S R O N j=0)(hst:z1g w bk off len C D S R O N)(h1:1<=len)(h2:len<=200)(hbk:bk<w.heap.size):
  zR 44 #[.slice (some ⟨bk,off,none⟩) len cap] w (.agg #[A F 0,A F (-1)]):=by
 refine(z6m bk off len cap C D S O N R w h1 h2 hbk hst).mono fun e w' hh=>?_;obtain⟨hb,hh⟩:=hh;rcases hh with⟨he,_⟩|⟨i,hi,_,hf,_⟩
 ·exact⟨he,hb⟩
 exact absurd (h i hi) hf
theorem zG8{i:Nat}(hi:i<len)(hno: ∀j,j<i->z0l len C D S R O N j=0)(hf:z0l len C D S R O N i≠0)(hst:z1g w bk off len C D S R O N)(h1:1<=len)(h2:len<=200)(hbk:bk<w.heap.size):
  zR 44 #[.slice (some ⟨bk,off,none⟩) len cap] w (.agg #[A F (z0l len C D S R O N i),A F i]):=by
 refine(z6m bk off len cap C D S O N R w h1 h2 hbk hst).mono fun e w' hh=>?_;obtain⟨hb,hh⟩:=hh;rcases hh with⟨_,h⟩|⟨k,hk,hno',hf',he⟩
 ·exact absurd (h i hi) hf
 obtain rfl:=zCk hno hf hno' hf';exact⟨he,hb⟩
end
end
section
open Go.RowKit
structure z9f (c d s:Int) (r:Bool) (o n:Int) (len k:Nat):Prop where
 c1:1<=c
 c2:c<=28
 d1:0<=d
 d2:d<=10
 s1:0<=s
 s2:s<=10
 call:c=27->n=1\/n=2\/n=3
 exit:c=28->d=0
 lead:(c=14\/(15<=c/\c<=24))->0<=o/\o<(len:Int)-1-k
 last:c≠28->(k:Int)+1≠len
theorem z56{len:Nat}{C D S:Nat->Int}{R:Nat->Bool}{O N:Nat->Int}{k:Nat}(h:z0l len C D S R O N k=0):z9f (C k) (D k) (S k) (R k) (O k) (N k) len k:=by
 unfold z0l z3q at h
 have ha:z1e (C k) (D k) (S k) (R k) (O k) (N k)=0:=by
  by_cases e:z1e (C k) (D k) (S k) (R k) (O k) (N k)=0
  ·exact e
  ·rw[if_pos e]at h;exact h
 rw[if_neg (by simp[ha])]at h
 have hl: ¬((C k=14\/(15<=C k/\C k<=24))/\(O k<0\/(len:Int)-1-k<=O k)):=by
  intro e;rw[if_pos e]at h;exact absurd h kD
 rw[if_neg hl]at h
 have he: ¬((len:Int)-1-k=0/\C k≠28):=by
  intro e;rw[if_pos e]at h;exact absurd h kD
 unfold z1e at ha
 have a1: ¬(C k<1\/28<C k):=by
  intro e;rw[if_pos e]at ha;exact absurd ha kD
 rw[if_neg a1]at ha
 have a2: ¬(D k<0\/10<D k\/S k<0\/10<S k):=by
  intro e;rw[if_pos e]at ha;exact absurd ha kD
 rw[if_neg a2]at ha
 have a3: ¬(((1<=C k/\C k<=13)\/C k=25)/\D k=10):=by
  intro e;rw[if_pos e]at ha;exact absurd ha kD
 rw[if_neg a3]at ha
 have a4: ¬(moreV (C k) (D k) (S k) (R k) (O k) (N k)=true\/(C k=27/\N k≠1/\N k≠2/\N k≠3)):=by
  intro e;rw[if_pos e]at ha;exact absurd ha kD
 refine⟨by omega,by omega,by omega,by omega,by omega,by omega,fun e=>?_,fun e=>?_,fun e=>?_,fun e=>by omega⟩
 ·by_cases n1:N k=1
  ·exact Or.inl n1
  by_cases n2:N k=2
  ·exact Or.inr (Or.inl n2)
  by_cases n3:N k=3
  ·exact Or.inr (Or.inr n3)
  exact absurd (Or.inr ⟨e,n1,n2,n3⟩) a4
 ·by_cases hd:D k=0
  ·exact hd
  ·refine absurd (Or.inl ?_) a4
   unfold moreV;rw[if_neg kO,if_neg kO,if_neg kO,if_neg kO,if_neg kO,if_neg kO,if_neg kO];simp[hd]
 by_cases e1:O k<0\/(len:Int)-1-k<=O k
 ·exact absurd ⟨e,e1⟩ hl
 omega
theorem askF_off(c:Int)(a b:Val)(r:Bool)(o n:Int):(askF c a b r o n).1=o\/(askF c a b r o n).1=0:=by
 unfold askF;split
 ·exact Or.inr rfl
 split
 ·split
  ·exact Or.inl rfl
  ·exact Or.inr rfl
 split
 ·exact Or.inr rfl
 split
 ·exact Or.inl rfl
 exact Or.inr rfl
theorem zRr{c d s:Int}{r:Bool}{o n:Int}{len k:Nat}(h:z9f c d s r o n len k)(hk:k<len)(hc:c≠28)(a:Abs):0<=(doF c d s r o n a).1/\(k:Int)+1+(doF c d s r o n a).1<len:=by
 have hl:=h.last hc;unfold doF
 by_cases h1:15<=c/\c<=24
 ·rw[if_pos h1]
  have:=h.lead (Or.inr h1);rcases askF_off c (a.reg d.toNat) (a.second s.toNat r n) r o n with e|e
  ·show 0<=(askF _ _ _ _ _ _).1/\(k:Int)+1+(askF _ _ _ _ _ _).1<len
   rw[e];omega
  ·show 0<=(askF _ _ _ _ _ _).1/\(k:Int)+1+(askF _ _ _ _ _ _).1<len
   rw[e];omega
 rw[if_neg h1]
 by_cases h2:c=14
 ·rw[if_pos h2]
  have:=h.lead (Or.inl h2);show 0<=o/\(k:Int)+1+o<len;omega
 rw[if_neg h2];split
 ·show(0:Int)<=0/\(k:Int)+1+0<len
  omega
 split
 ·show(0:Int)<=0/\(k:Int)+1+0<len
  omega
 split
 ·show(0:Int)<=0/\(k:Int)+1+0<len
  omega
 show(0:Int)<=0/\(k:Int)+1+0<len;omega
def Way.look(y:Way)(c:Int)(d s:Nat)(r:Bool)(o n:Int):List (Int×Way)×Int:=
 if 15<=c/\c<=24 then y.ask c d s r o n
 else if c=14 then([(o,y)],0)
 else if c=28 then([],z0s (y.reg 0))
 else if c=25 then(if(y.load d s o).1=0 then([(0,(y.load d s o).2)],0)else([],(y.load d s o).1))
 else if c=26 then(if(y.store (y.reg d) (y.second s r n) o).1=0 then([(0,(y.store (y.reg d) (y.second s r n) o).2)],0)else([],(y.store (y.reg d) (y.second s r n) o).1))
 else if c=27 then(if(y.call n).1=0 then([(0,(y.call n).2)],0)else([],(y.call n).1))
 else(if(y.change c d s r n).1=0 then([(0,(y.change c d s r n).2)],0)else([],(y.change c d s r n).1))
theorem zUo{y:Way}{a:Abs}{c d s:Int}{r:Bool}{o n:Int}(hk:y.Ok)(ha:a.Ok)(hy:y.Has a)(hc:1<=c/\c<=27)(hd:d.toNat<11)(hs:s.toNat<11)(ho:In64 o)(hn:In64 n)(hw:c=27->n=1\/n=2\/n=3)
  (h:(y.look c d.toNat s.toNat r o n).2=0):(doF c d s r o n a).2.1=0/\ ∃y',((doF c d s r o n a).1,y')∈(y.look c d.toNat s.toNat r o n).1/\y'.Has (doF c d s r o n a).2.2:=by
 unfold Way.look at h⊢;unfold doF
 by_cases c1:15<=c/\c<=24
 ·rw[if_pos c1]at h⊢
  rw[if_pos c1];exact zZj hk hy c1 hd hs hn h
 rw[if_neg c1]at h⊢;rw[if_neg c1]
 by_cases c2:c=14
 ·rw[if_pos c2,if_pos c2]
  exact⟨rfl,y,List.mem_singleton.mpr rfl,hy⟩
 rw[if_neg c2]at h⊢;rw[if_neg c2];rw[if_neg (show¬c=28 by omega)]at h⊢
 by_cases c3:c=25
 ·rw[if_pos c3]at h⊢
  rw[if_pos c3]
  by_cases z:(y.load d.toNat s.toNat o).1=0
  ·rw[if_pos z]
   obtain⟨g1,g2⟩:=zUt hk ha hy hs ho z;exact⟨g1,_,List.mem_singleton.mpr rfl,g2⟩
  ·rw[if_neg z]at h;exact absurd h z
 rw[if_neg c3]at h⊢;rw[if_neg c3]
 by_cases c4:c=26
 ·rw[if_pos c4]at h⊢
  rw[if_pos c4]
  by_cases z:(y.store (y.reg d.toNat) (y.second s.toNat r n) o).1=0
  ·rw[if_pos z]
   obtain⟨g1,g2⟩:=zPp hy (hk.reg _ hd) (z2o hk hs hn) (hy.reg _ hd) (hy.second hs) ho z;exact⟨g1,_,List.mem_singleton.mpr rfl,g2⟩
  ·rw[if_neg z]at h;exact absurd h z
 rw[if_neg c4]at h⊢;rw[if_neg c4]
 by_cases c5:c=27
 ·rw[if_pos c5]at h⊢
  rw[if_pos c5]
  by_cases z:(y.call n).1=0
  ·rw[if_pos z]
   obtain⟨g1,g2⟩:=zVx ha hy (hw c5) z;exact⟨g1,_,List.mem_singleton.mpr rfl,g2⟩
  ·rw[if_neg z]at h;exact absurd h z
 rw[if_neg c5]at h⊢;rw[if_neg c5]
 by_cases z:(y.change c d.toNat s.toNat r n).1=0
 ·rw[if_pos z]
  obtain⟨g1,g2⟩:=zOq hk hy ⟨by omega,by omega⟩ hd hs hn z;exact⟨g1,_,List.mem_singleton.mpr rfl,g2⟩
 rw[if_neg z]at h;exact absurd h z
def goF(C D S:Nat->Int)(R:Nat->Bool)(O N:Nat->Int):Nat->List (Nat×Way)->List Kno->(Int×Nat)⊕List Kno
 |_,[],ends=> .inr ends
 |0,x::_,_=> .inl (4,x.1)
 |f+1,x::st,ends=>
  if(x.2.look (C x.1) (D x.1).toNat (S x.1).toNat (R x.1) (O x.1) (N x.1)).2≠0 then .inl ((x.2.look (C x.1) (D x.1).toNat (S x.1).toNat (R x.1) (O x.1) (N x.1)).2,x.1)
  else goF C D S R O N f ((x.2.look (C x.1) (D x.1).toNat (S x.1).toNat (R x.1) (O x.1) (N x.1)).1.map (fun z=>(x.1+1+z.1.toNat,z.2))++st) (if C x.1=28 then ends++[x.2.reg 0]else ends)
theorem zWf{y:Way}{c:Int}{d s:Nat}{r:Bool}{o n:Int}: ∀z,z∈(y.ask c d s r o n).1->z.1=0\/z.1=o:=by
 intro z hz;unfold Way.ask at hz;split at hz
 ·exact absurd hz kS
 split at hz
 ·unfold Way.askNumbers at hz
  rcases List.mem_append.mp hz with hz|hz
  ·split at hz
   ·rw[List.mem_singleton.mp hz];exact Or.inl rfl
   ·exact absurd hz kS
  ·split at hz
   ·rw[List.mem_singleton.mp hz];exact Or.inr rfl
   ·exact absurd hz kS
 split at hz
 ·exact absurd hz kS
 unfold Way.askPlace at hz;split at hz
 ·rw[List.mem_singleton.mp hz]
  by_cases e:c=16
  ·exact Or.inr (if_pos e)
  ·exact Or.inl (if_neg e)
 rcases List.mem_cons.mp hz with hz|hz
 ·rw[hz]
  by_cases e:c=16
  ·exact Or.inl (if_pos e)
  ·exact Or.inr (if_neg e)
 rw[List.mem_singleton.mp hz]
 by_cases e:c=16
 ·exact Or.inr (if_pos e)
 exact Or.inl (if_neg e)
theorem zAu{y:Way}{c:Int}{d s:Nat}{r:Bool}{o n:Int}: ∀z,z∈(y.look c d s r o n).1->c≠28/\(z.1=0\/(z.1=o/\(c=14\/(15<=c/\c<=24)))):=by
 intro z hz;unfold Way.look at hz
 by_cases c1:15<=c/\c<=24
 ·rw[if_pos c1]at hz
  exact⟨by omega,(zWf z hz).elim Or.inl fun e=>Or.inr ⟨e,Or.inr c1⟩⟩
 rw[if_neg c1]at hz
 by_cases c2:c=14
 ·rw[if_pos c2]at hz
  rw[List.mem_singleton.mp hz];exact⟨by omega,Or.inr ⟨rfl,Or.inl c2⟩⟩
 rw[if_neg c2]at hz
 by_cases c3:c=28
 ·rw[if_pos c3]at hz;exact absurd hz kS
 rw[if_neg c3]at hz;refine⟨c3,Or.inl ?_⟩;split at hz
 ·split at hz
  ·rw[List.mem_singleton.mp hz]
  ·exact absurd hz kS
 split at hz
 ·split at hz
  ·rw[List.mem_singleton.mp hz]
  ·exact absurd hz kS
 split at hz
 ·split at hz
  ·rw[List.mem_singleton.mp hz]
  ·exact absurd hz kS
 split at hz
 ·rw[List.mem_singleton.mp hz]
 exact absurd hz kS
theorem go_sound{C D S:Nat->Int}{R:Nat->Bool}{O N:Nat->Int}{len:Nat}(hr: ∀i,i<len->z9f (C i) (D i) (S i) (R i) (O i) (N i) len i)(hf: ∀i,i<len->In64 (O i)/\In64 (N i))
  (lk: ∀i,i<len-> ∀y:Way,y.Ok-> ∀z,z∈(y.look (C i) (D i).toNat (S i).toNat (R i) (O i) (N i)).1->z.2.Ok):
  ∀(f:Nat)(st:List (Nat×Way))(ends E:List Kno),goF C D S R O N f st ends= .inr E->(∀x,x∈st->x.1<len/\x.2.Ok)->
   (∀b,b∈ends->b∈E)/\ ∀x,x∈st-> ∀(a:Abs)(k:Nat),a.Ok->x.2.Has a->
    ∃n k' a',runF C D S R O N len x.1 k a= .fine n k' a'/\k+1<=k'/\k'+x.1<=k+len/\ ∃b,b∈E/\b.l<=n/\n<=b.h:=by
 intro f;induction f with
 |zero=>
  intro st ends E h _
  cases st with
  |nil=>rw[goF]at h;cases h;exact⟨fun b hb=>hb,fun x hx=>absurd hx kS⟩
  |cons x st=>rw[goF]at h;exact absurd h kS
 |succ f ih=>
  intro st ends E h hst
  cases st with
  |nil=>rw[goF]at h;cases h;exact⟨fun b hb=>hb,fun x hx=>absurd hx kS⟩
  |cons x st=>
   obtain⟨hx1,hx2⟩:=hst x mcS;have r:=hr x.1 hx1;have hfx:=hf x.1 hx1;rw[goF]at h
   by_cases h0:(x.2.look (C x.1) (D x.1).toNat (S x.1).toNat (R x.1) (O x.1) (N x.1)).2≠0
   ·rw[if_pos h0]at h;exact absurd h kS
   rw[if_neg h0]at h;have h0':=Classical.byContradiction h0
   obtain⟨i1,i2⟩:=ih _ _ E h (fun z hz=>by
    rcases List.mem_append.mp hz with hz|hz
    ·obtain⟨u,hu,rfl⟩:=List.mem_map.mp hz
     obtain⟨u1,u2⟩:=zAu u hu;have hl:=r.last u1;refine⟨?_,lk x.1 hx1 x.2 hx2 u hu⟩;show x.1+1+u.1.toNat<len;rcases u2 with u2|⟨u2,u3⟩
     ·omega
     ·have:=r.lead u3;omega
    ·exact hst z (mcO _ hz))
   refine⟨fun b hb=>i1 b (by split;exact List.mem_append_left _ hb;exact hb),fun z hz a k ha hz2=>?_⟩;rcases List.mem_cons.mp hz with rfl|hz
   ·by_cases hc:C z.1=28
    ·have hw:z0s (z.2.reg 0)=0:=by
      have e:=h0';unfold Way.look at e;rw[if_neg kO,if_neg kO,if_pos hc]at e;exact e
     obtain⟨w0, -,w2,w3⟩:=z5b (hz2.reg 0 kD) hw;exact⟨_,_,_,z7j hx1 hc w0,by omega,by omega,z.2.reg 0,i1 _ (by rw[if_pos hc];exact List.mem_append_right _ (List.mem_singleton.mpr rfl)),w2,w3⟩
    ·have c2:=r.c2
     have d1:=r.d1;have d2:=r.d2;have s1:=r.s1;have s2:=r.s2;obtain⟨g1,y',g2,g3⟩:=zUo hx2 ha hz2 ⟨r.c1,by omega⟩ kO kO hfx.1 hfx.2 r.call h0';have ok:=zLj ha r.c1 r.c2 hc r.d1 r.d2 r.s1 r.s2 hfx.2 (r:=R z.1) (o:=O z.1);obtain⟨n,k',a',e1,e2,e3,e4⟩:=i2 (z.1+1+(doF (C z.1) (D z.1) (S z.1) (R z.1) (O z.1) (N z.1) a).1.toNat,y') (List.mem_append_left _ (List.mem_map.mpr ⟨_,g2,rfl⟩)) _ (k+1) ok g3;have e3':k'+(z.1+1+(doF (C z.1) (D z.1) (S z.1) (R z.1) (O z.1) (N z.1) a).1.toNat)<=k+1+len:=e3;exact⟨n,k',a',(zDu hx1 hc g1).trans e1,by omega,by omega,e4⟩
   ·exact i2 z (List.mem_append_right _ hz) a k ha hz2
theorem zRn{m:Int}(h:m<=9223372036854775807):z5z m<=9223372036854775807:=by
 have d:=zEe (zJi h);unfold z5z;omega
theorem zEs(u v:Int): -9223372036854775808<=(fit2 u v).1/\(fit2 u v).2<=9223372036854775807:=by
 cases h:fits u&&fits v
 ·rw[zBd h];decide
 rw[z87 h];simp only[Bool.and_eq_true,z36]at h;exact⟨h.1.1,h.2.2⟩
theorem pow_lo{k:Nat}(hk:k≠0)(h:k<64):(2:Int)^(64-k)-1<=9223372036854775807:=by
 have hle:2^(64-k)<=2^63:=Nat.pow_le_pow_right kD kO;have:=Int.ofNat_le.2 hle;rw[Int.natCast_pow]at this;have e:((2^63:Nat):Int)=9223372036854775808:=kD;rw[e]at this;have e2:((2:Nat):Int)=2:=rfl;rw[e2]at this;omega
theorem zEp{x:Int}(k:Nat)(h:In64 x):In64 (x/2^k):=by
 have a:=zJe (x:=x) k;unfold In64 at h⊢
 by_cases hx:0<=x
 ·have:=a.1 hx;omega
 have:=a.2 kO;omega
theorem zZg{c al ah bl bh:Int}(hc:1<=c/\c<=13)(a1:In64 al)(a2:In64 ah)(ha:al<=ah)(b1:In64 bl)(b2:In64 bh)(hb:bl<=bh):
  -9223372036854775808<=(bdV c al ah bl bh).1/\(bdV c al ah bl bh).2<=9223372036854775807:=by
 have all: -9223372036854775808<=((-9223372036854775808,9223372036854775807):Int×Int).1/\((-9223372036854775808,9223372036854775807):Int×Int).2<=9223372036854775807:=kD;have h:c=1\/c=2\/c=3\/c=4\/c=5\/c=6\/c=7\/c=8\/c=9\/c=10\/c=11\/c=12\/c=13:=kO;have ua1:=a1.1;have ua2:=a2.2;have ub1:=b1.1;have ub2:=b2.2;rcases h with rfl|rfl|rfl|rfl|rfl|rfl|rfl|rfl|rfl|rfl|rfl|rfl|rfl
 ·rw[zWa];exact⟨ub1,ub2⟩
 ·rw[zOw];exact zEs _ _
 ·rw[zW9];exact zEs _ _
 ·rw[zW8]
  split
  ·rename_i hs
   simp only[Bool.and_eq_true]at hs;obtain⟨⟨⟨s1,s2⟩,s3⟩,s4⟩:=hs;have m1:=z1r (al*bl);have m2:=z1r (al*bh);have m3:=z1r (ah*bl);have m4:=z1r (ah*bh);rw[z2j s1 s3]at m1;rw[z2j s1 s4]at m2;rw[z2j s2 s3]at m3;rw[z2j s2 s4]at m4;show-9223372036854775808<=zNg al ah bl bh/\zNh al ah bl bh<=9223372036854775807;unfold zNg zNh;generalize al*bl=p at*;generalize al*bh=q at*;generalize ah*bl=r at*;generalize ah*bh=t at*;omega
  ·exact all
 ·rw[zW7]
  split
  ·split
   ·have l:=Int.ediv_nonneg (by omega:0<=al) (by omega:0<=bh)
    have g:=Int.ediv_le_self bl (by omega:0<=ah);show-9223372036854775808<=al/bh/\ah/bl<=9223372036854775807;omega
   ·show-9223372036854775808<=(0:Int)/\ah<=9223372036854775807
    omega
  ·exact all
 ·rw[zW6]
  split
  ·split
   ·show-9223372036854775808<=(0:Int)/\min ah (bh-1)<=9223372036854775807
    omega
   ·show-9223372036854775808<=(0:Int)/\ah<=9223372036854775807
    omega
  ·exact all
 ·rw[zW5]
  split
  ·split
   ·show-9223372036854775808<=(0:Int)/\min ah bh<=9223372036854775807
    omega
   ·show-9223372036854775808<=(0:Int)/\ah<=9223372036854775807
    omega
  ·split
   ·show-9223372036854775808<=(0:Int)/\bh<=9223372036854775807
    omega
   ·exact all
 ·rw[zW4]
  split
  ·have f:=zRn (m:=max ah bh) kO
   refine⟨?_,f⟩;show-9223372036854775808<=max al bl;omega
  ·exact all
 ·rw[zW3]
  split
  ·have f:=zRn (m:=max ah bh) kO
   exact⟨by show-9223372036854775808<=(0:Int);decide,f⟩
  ·exact all
 ·rw[zLw]
  split
  ·exact zEs _ _
  ·exact all
 ·rw[zLv]
  split
  ·split
   ·exact⟨ua1,ua2⟩
   ·split
    ·exact⟨(zEp _ a1).1,(zEp _ a2).2⟩
    ·exact⟨by show-9223372036854775808<=(0:Int);decide,pow_lo (by assumption) (z3r _)⟩
  ·split
   ·exact⟨by show-9223372036854775808<=(0:Int);decide,ua2⟩
   ·exact all
 ·rw[zLu]
  split
  ·exact⟨(zEp _ a1).1,(zEp _ a2).2⟩
  ·split
   ·exact⟨by show-9223372036854775808<=(0:Int);decide,ua2⟩
   ·split
    ·exact⟨ua1,by show(-1:Int)<=9223372036854775807;decide⟩
    ·exact⟨ua1,ua2⟩
 rw[zLt];exact zEs _ _
theorem zX7{c al ah bl bh:Int}(hc:1<=c/\c<=13)(a1:In64 al)(a2:In64 ah)(ha:al<=ah)(b1:In64 bl)(b2:In64 bh)(hb:bl<=bh):
  In64 (bdV c al ah bl bh).1/\In64 (bdV c al ah bl bh).2/\(bdV c al ah bl bh).1<=(bdV c al ah bl bh).2:=by
 have l:=zZg hc a1 a2 ha b1 b2 hb;have h:=zBm (x:=al) (y:=bl) hc a1.1 a2.2 b1.1 b2.2 (Int.le_refl _) ha (Int.le_refl _) hb;unfold In64;omega
theorem z72:kno0.Ok:=⟨by decide,by decide,⟨by decide,by decide⟩,⟨by decide,by decide⟩,by decide⟩
theorem z4z{l h:Int}(h1:In64 l)(h2:In64 h)(h3:l<=h):(z10 l h).Ok:=⟨by show(0:Int)<=1;decide,by show(1:Int)<=5;decide,h1,h2,h3⟩
theorem zGn:(z10 (-9223372036854775808) 9223372036854775807).Ok:=z4z ⟨by decide,by decide⟩ ⟨by decide,by decide⟩ kD
theorem zAx{n:Int}(h:In64 n):(z10 n n).Ok:=z4z h h (Int.le_refl _)
theorem z7y{k:Int}{b:Int×Int}(k0:0<=k)(k5:k<=5)(h1:In64 b.1)(h2:In64 b.2)(h3:b.1<=b.2):(z1n k b).1.Ok:=by
 unfold z1n;split
 ·exact z72
 exact⟨k0,k5,h1,h2,h3⟩
theorem zJ8{c:Int}{a b:Kno}(hc:1<=c/\c<=13)(ka:a.Ok)(kb:b.Ok):(z1f c a b).1.Ok:=by
 obtain⟨x1,x2,x3⟩:=zX7 hc ka.2.2.1 ka.2.2.2.1 ka.2.2.2.2 kb.2.2.1 kb.2.2.2.1 kb.2.2.2.2;unfold z1f;split
 ·exact z72
 split
 ·exact kb
 split
 ·exact z4z x1 x2 x3
 split
 ·exact z7y ka.1 ka.2.1 x1 x2 x3
 split
 ·exact z7y kb.1 kb.2.1 x1 x2 x3
 exact z72
theorem Way.Ok.putReg{y:Way}(h:y.Ok)(d:Nat){x:Kno}(hx:x.Ok):(y.putReg d x).Ok:=
 ⟨fun i hi=>by show(if i=d then x else y.reg i).Ok;split;exact hx;exact h.reg i hi,h.slot⟩
theorem Way.Ok.putSlot{y:Way}(h:y.Ok)(d:Nat){x:Kno}(hx:x.Ok):(y.putSlot d x).Ok:=
 ⟨h.reg,fun i hi=>by show(if i=d then x else y.slot i).Ok;split;exact hx;exact h.slot i hi⟩
theorem Way.Ok.lose{y:Way}(h:y.Ok):y.lose.Ok:=
 ⟨fun i hi=>by show(if 1<=i/\i<=5 then kno0 else y.reg i).Ok;split;exact z72;exact h.reg i hi,h.slot⟩
theorem zB1: ∀(l:List Kno)(p:Int×Int),(∀x,x∈l->x.Ok)->In64 p.1->In64 p.2->p.1<=p.2->In64 (z2c p l).1/\In64 (z2c p l).2/\(z2c p l).1<=(z2c p l).2
 |[],_,_,h1,h2,h3=>⟨h1,h2,h3⟩
 |x::l,p,hl,h1,h2,h3=>by
  rw[z2c];have hx:=hl x mcS;have k1:=hx.2.2.1;have k2:=hx.2.2.2.1;have k3:=hx.2.2.2.2;refine zB1 l _ (fun z hz=>hl z (mcO _ hz)) ?_ ?_ ?_
  ·show In64 (min p.1 x.l)
   unfold In64 at*;omega
  ·show In64 (max p.2 x.h)
   unfold In64 at*;omega
  ·show min p.1 x.l<=max p.2 x.h
   omega
theorem zV2{l:List Kno}(hl: ∀x,x∈l->x.Ok):In64 (z5t l).1/\In64 (z5t l).2/\(z5t l).1<=(z5t l).2:=by
 cases l with
 |nil=>exact⟨⟨by decide,by decide⟩,⟨by decide,by decide⟩,by decide⟩
 |cons x l=>
  have hx:=hl x mcS;exact zB1 l _ (fun z hz=>hl z (mcO _ hz)) hx.2.2.1 hx.2.2.2.1 hx.2.2.2.2
theorem zYm{y:Way}{p:Int×Int}(hk:y.Ok)(h0: -16<=p.1)(h3:p.2<= -1)(h:p.1<=p.2):(y.kept p).1.Ok:=by
 unfold Way.kept;split
 ·exact hk.slot _ kO
 split
 ·exact z72
 have hj:=zV2 (l:=y.row (p.1+16).toNat (p.2-p.1+1).toNat) (fun x hx=>by
  obtain⟨i,hi,rfl⟩:=List.mem_map.mp hx;obtain⟨j,hj,e⟩:=List.mem_range'.mp hi;exact hk.slot _ kO)
 exact z4z hj.1 hj.2.1 hj.2.2
theorem z7x{x:Kno}{o:Int}(hx:x.Ok)(ho:In64 o):(knoTo x o).1<=(knoTo x o).2:=(zX7 ⟨by decide,by decide⟩ hx.2.2.1 hx.2.2.2.1 hx.2.2.2.2 ho ho (Int.le_refl _)).2.2
theorem z4g{x:Kno}{o:Int}(h:(z0i x o).2=0):(x.k≠0/\x.k≠1/\x.k≠5)/\(z0i x o).1=knoTo x o/\(knoRoom x.k).1<=(knoTo x o).1/\(knoTo x o).2<=(knoRoom x.k).2:=by
 unfold z0i at h⊢
 by_cases h0:x.k=0
 ·rw[if_pos h0]at h;exact absurd h kD
 rw[if_neg h0]at h⊢
 by_cases h1:x.k=1\/x.k=5
 ·rw[if_pos h1]at h;exact absurd h kD
 rw[if_neg h1]at h⊢
 by_cases h2:(knoTo x o).1<(knoRoom x.k).1\/(knoRoom x.k).2<(knoTo x o).2
 ·rw[if_pos h2]at h;exact absurd h kD
 rw[if_neg h2];exact⟨by omega,rfl,by omega,by omega⟩
theorem zYi{y:Way}{d s:Nat}{o:Int}(hk:y.Ok)(hs:s<11)(ho:In64 o):(y.load d s o).2.Ok:=by
 unfold Way.load;split
 ·exact hk
 rename_i h
 have h':=Classical.byContradiction h;split
 ·rename_i h3
  split
  ·exact hk
  ·obtain⟨-,e,r1,r2⟩:=z4g h'
   rw[h3]at r1 r2;rw[e];exact hk.putReg d (zYm hk r1 r2 (z7x (hk.reg s hs) ho))
 exact hk.putReg d zGn
theorem zT3{y:Way}{p v:Kno}{o:Int}(hk:y.Ok)(hv:v.Ok):(y.store p v o).2.Ok:=by
 unfold Way.store;split
 ·exact hk
 split
 ·exact hk
 split
 ·exact hk
 split
 ·exact hk
 split
 ·exact hk
 exact hk.putSlot _ hv
theorem zZd{y:Way}{what:Int}(hk:y.Ok):(y.call what).2.Ok:=by
 unfold Way.call;split
 ·exact hk
 split
 ·exact hk.lose.putReg 0 ⟨by show(0:Int)<=5;decide,by show(5:Int)<=5;decide,⟨by show-9223372036854775808<=(0:Int);decide,by show(0:Int)<=9223372036854775807;decide⟩,⟨by show-9223372036854775808<=(0:Int);decide,by show(0:Int)<=9223372036854775807;decide⟩,by show(0:Int)<=0;decide⟩
 split
 ·exact hk.lose.putReg 0 zGn
 exact hk.lose.putReg 0 (zAx ⟨by decide,by decide⟩)
theorem zRy{y:Way}{c:Int}{d s:Nat}{r:Bool}{n:Int}(hk:y.Ok)(hc:1<=c/\c<=13)(hd:d<11)(hs:s<11)(hn:In64 n):(y.change c d s r n).2.Ok:=by
 unfold Way.change;split
 ·exact hk.putReg d (zJ8 hc (hk.reg d hd) (z2o hk hs hn))
 exact hk
theorem zAs{y:Way}{c:Int}{d s:Nat}{r:Bool}{n:Int}(hk:y.Ok)(hc:15<=c/\c<=24)(hd:d<11)(hs:s<11)(hn:In64 n):(y.narrow c d s r n).2.Ok:=by
 have o1:=hk.reg d hd;have o2:=z2o (r:=r) (n:=n) hk hs hn;have nl:=(zL5 (x:=(y.reg d).l) (y:=(y.second s r n).l) hc o1.2.2.1.1 o1.2.2.2.1.2 o2.2.2.1.1 o2.2.2.2.1.2 (Int.le_refl _) o1.2.2.2.2 (Int.le_refl _) o2.2.2.2.2).2;unfold Way.narrow;split
 ·exact hk
 rename_i h
 obtain⟨n1,n2,n3,n4,n5,n6⟩:=nl (by cases e:(narV c (y.reg d).l (y.reg d).h (y.second s r n).l (y.second s r n).h).2.2 with|false=>exact absurd e h|true=>rfl);have q1:=o1.2.2.1;have q2:=o1.2.2.2.1;have q3:=o2.2.2.1;have q4:=o2.2.2.2.1;generalize narV c (y.reg d).l (y.reg d).h (y.second s r n).l (y.second s r n).h=z at*;unfold In64 at q1 q2 q3 q4;have w1:(z10 z.1.1 z.1.2).Ok:=z4z ⟨by omega,by omega⟩ ⟨by omega,by omega⟩ n1;have w2:(z10 z.2.1.1 z.2.1.2).Ok:=z4z ⟨by omega,by omega⟩ ⟨by omega,by omega⟩ n2;split
 ·exact hk
 split
 ·exact(hk.putReg d w1).putReg s w2
 exact hk.putReg d w1
theorem ask_ok{y:Way}{c:Int}{d s:Nat}{r:Bool}{o n:Int}(hk:y.Ok)(hc:15<=c/\c<=24)(hd:d<11)(hs:s<11)(hn:In64 n): ∀z,z∈(y.ask c d s r o n).1->z.2.Ok:=by
 intro z hz;unfold Way.ask at hz;split at hz
 ·exact absurd hz kS
 split at hz
 ·unfold Way.askNumbers at hz
  have ho:=zGc (x:=0) (y:=0) hc;rcases List.mem_append.mp hz with hz|hz
  ·split at hz
   ·rw[List.mem_singleton.mp hz];exact zAs hk ho.2.2 hd hs hn
   ·exact absurd hz kS
  ·split at hz
   ·rw[List.mem_singleton.mp hz];exact zAs hk hc hd hs hn
   ·exact absurd hz kS
 split at hz
 ·exact absurd hz kS
 unfold Way.askPlace at hz;split at hz
 ·rw[List.mem_singleton.mp hz];exact hk
 rcases List.mem_cons.mp hz with hz|hz
 ·rw[hz];exact hk.putReg d (zAx ⟨by decide,by decide⟩)
 rw[List.mem_singleton.mp hz];exact hk.putReg d ⟨by show(0:Int)<=4;decide,by show(4:Int)<=5;decide,⟨by show-9223372036854775808<=(0:Int);decide,by show(0:Int)<=9223372036854775807;decide⟩,⟨by show-9223372036854775808<=(0:Int);decide,by show(0:Int)<=9223372036854775807;decide⟩,by show(0:Int)<=0;decide⟩
theorem zJ2{y:Way}{c:Int}{d s:Nat}{r:Bool}{o n:Int}(hk:y.Ok)(c1:1<=c)(c2:c<=28)(hd:d<11)(hs:s<11)(ho:In64 o)(hn:In64 n): ∀z,z∈(y.look c d s r o n).1->z.2.Ok:=by
 intro z hz;unfold Way.look at hz
 by_cases h1:15<=c/\c<=24
 ·rw[if_pos h1]at hz;exact ask_ok hk h1 hd hs hn z hz
 rw[if_neg h1]at hz
 by_cases h2:c=14
 ·rw[if_pos h2]at hz;rw[List.mem_singleton.mp hz];exact hk
 rw[if_neg h2]at hz
 by_cases h3:c=28
 ·rw[if_pos h3]at hz;exact absurd hz kS
 rw[if_neg h3]at hz
 by_cases h4:c=25
 ·rw[if_pos h4]at hz
  split at hz
  ·rw[List.mem_singleton.mp hz];exact zYi hk hs ho
  ·exact absurd hz kS
 rw[if_neg h4]at hz
 by_cases h5:c=26
 ·rw[if_pos h5]at hz
  split at hz
  ·rw[List.mem_singleton.mp hz];exact zT3 hk (z2o hk hs hn)
  ·exact absurd hz kS
 rw[if_neg h5]at hz
 by_cases h6:c=27
 ·rw[if_pos h6]at hz
  split at hz
  ·rw[List.mem_singleton.mp hz];exact zZd hk
  ·exact absurd hz kS
 rw[if_neg h6]at hz;split at hz
 ·rw[List.mem_singleton.mp hz];exact zRy hk ⟨by omega,by omega⟩ hd hs hn
 exact absurd hz kS
theorem zHm:way0.Ok:=by
 refine⟨fun i _=>?_,fun _ _=>z72⟩;show(if i=1 then(⟨2,0,0⟩:Kno)else if i=10 then⟨3,0,0⟩else kno0).Ok;split
 ·exact⟨by decide,by decide,⟨by decide,by decide⟩,⟨by decide,by decide⟩,by decide⟩
 split
 ·exact⟨by decide,by decide,⟨by decide,by decide⟩,⟨by decide,by decide⟩,by decide⟩
 exact z72
theorem go_from_start{C D S:Nat->Int}{R:Nat->Bool}{O N:Nat->Int}{len f:Nat}{E:List Kno}(hr: ∀i,i<len->z9f (C i) (D i) (S i) (R i) (O i) (N i) len i)(hf: ∀i,i<len->In64 (O i)/\In64 (N i))(h0:0<len)
  (h:goF C D S R O N f [(0,way0)] []= .inr E)(a:Abs)(ha:a.Ok)(hy:way0.Has a):
  ∃n k a',runF C D S R O N len 0 0 a= .fine n k a'/\1<=k/\k<=len/\ ∃b,b∈E/\b.l<=n/\n<=b.h:=by
 obtain⟨-,g⟩:=go_sound hr hf (fun i hi y hy z hz=>by
  have r:=hr i hi;have d1:=r.d1;have d2:=r.d2;have s1:=r.s1;have s2:=r.s2;exact zJ2 hy r.c1 r.c2 kO kO (hf i hi).1 (hf i hi).2 z hz) f _ _ E h (fun x hx=>by rw[List.mem_singleton.mp hx];exact⟨h0,zHm⟩)
 obtain⟨n,k,a',e1,e2,e3,e4⟩:=g (0,way0) (List.mem_singleton.mpr rfl) a 0 ha hy;exact⟨n,k,a',e1,by omega,by have:k+0<=0+len:=e3;omega,e4⟩
end
section
open Go.ChangeShapes Go.WideShapes Go.ChangeAt Go.RowKit
attribute [local simp] z0p z0j z04
theorem zM6(code:Int)(a b:Kno)(ka:a.Ok)(kb:b.Ok)(w:World):zR 119 #[A F code,a.v,b.v] w (.tuple #[(z1f code a b).1.v,A F (z1f code a b).2]):=by
 obtain⟨ak,al,ah⟩:=a;obtain⟨bk,bl,bh⟩:=b;have HD:=fun W:World=>zSa code al ah bl bh ka.2.2.1.1 ka.2.2.1.2 ka.2.2.2.1.1 ka.2.2.2.1.2 kb.2.2.1.1 kb.2.2.1.2 kb.2.2.2.1.1 kb.2.2.2.1.2 ka.2.2.2.2 kb.2.2.2.2 W;unfold z1f;have tb: ∀{x y:Int},¬x=y->(x==y)=false:=fun h=>by simpa using h
 have tt: ∀{x y:Int},x=y->(x==y)=true:=fun h=>by simpa using h
 by_cases h0:bk=0
 ·rw[if_pos (Or.inl h0)];exact vmk_b0 code ak al ah bk bl bh (tt h0) w
 by_cases h1:ak=0
 ·by_cases h2:code=1
  ·rw[if_neg (by simp[h0,h2]),if_pos h2];exact zSs code ak al ah bk bl bh (tb h0) (tt h1) (by simp[h2]) (tt h2) w
  ·rw[if_pos (Or.inr ⟨h1,h2⟩)];exact vmk_a0 code ak al ah bk bl bh (tb h0) (tt h1) (by simpa using h2) w
 by_cases h2:code=1
 ·rw[if_neg (by simp[h0,h1]),if_pos h2];exact zSr code ak al ah bk bl bh (tb h0) (tb h1) (tt h2) w
 rw[if_neg (by simp[h0,h1]),if_neg h2];generalize bdV code al ah bl bh=t at*;obtain⟨dl,dh⟩:=t
 have pf: ∀{k:Int},¬(k=2\/k=3\/k=4)->z1u k=false:=fun{k} h=>by
  cases e:z1u k
  ·rfl
  ·exact absurd ((z3e k).1 e) h
 by_cases h3:ak=1
 ·have pa:z1u ak=false:=pf kO
  by_cases h4:bk=1
  ·rw[if_pos ⟨h3,h4⟩];exact zSp code ak al ah bk bl bh dl dh HD (tb h0) (tb h1) (tb h2) (tt h3) (tt h4) w
  ·rw[if_neg (fun e=>h4 e.2),if_neg (by show¬((ak=2\/ak=3\/ak=4)/\bk=1/\(code=2\/code=3));omega)]
   by_cases h5:bk=2\/bk=3\/bk=4
   ·by_cases h6:code=2
    ·rw[if_pos ⟨h3,h5,h6⟩]
     rcases hF:z1n bk (dl,dh)with⟨⟨gk,gl,gh⟩,E⟩
     exact zSq code ak al ah bk bl bh dl dh HD gk gl gh E hF pa ((z3e bk).2 h5) (tb h0) (tb h1) (tb h2) (tt h3) (tb h4) (tt h6) w
    ·rw[if_neg (fun e=>h6 e.2.2)];exact zXd code ak al ah bk bl bh pa ((z3e bk).2 h5) (tb h0) (tb h1) (tb h2) (tt h3) (tb h4) (tb h6) w
   ·rw[if_neg (fun e=>h5 e.2.1)];exact vmk_nb code ak al ah bk bl bh pa (pf h5) (tb h0) (tb h1) (tb h2) (tt h3) (tb h4) w
 rw[if_neg (fun e=>h3 e.1)]
 by_cases h5:ak=2\/ak=3\/ak=4
 ·have pa:=(z3e ak).2 h5
  by_cases h4:bk=1
  ·by_cases h6:code=2
   ·rw[if_pos ⟨h5,h4,Or.inl h6⟩]
    rcases hF:z1n ak (dl,dh)with⟨⟨gk,gl,gh⟩,E⟩
    exact zSo code ak al ah bk bl bh dl dh HD gk gl gh E hF pa (tb h0) (tb h1) (tb h2) (tb h3) (tt h4) (tt h6) w
   ·by_cases h7:code=3
    ·rw[if_pos ⟨h5,h4,Or.inr h7⟩]
     rcases hF:z1n ak (dl,dh)with⟨⟨gk,gl,gh⟩,E⟩
     exact zSn code ak al ah bk bl bh dl dh HD gk gl gh E hF pa (tb h0) (tb h1) (tb h2) (tb h3) (tt h4) (tb h6) (tt h7) w
    ·rw[if_neg (fun e=>e.2.2.elim h6 h7),if_neg (fun e=>h3 e.1)];exact zXc code ak al ah bk bl bh pa (tb h0) (tb h1) (tb h2) (tb h3) (tt h4) (tb h6) (tb h7) w
  ·rw[if_neg (fun e=>h4 e.2.1),if_neg (fun e=>h3 e.1)];exact vmk_pb code ak al ah bk bl bh pa (tb h0) (tb h1) (tb h2) (tb h3) (tb h4) w
 rw[if_neg (fun e=>h5 e.1),if_neg (fun e=>h3 e.1)];exact vmk_m code ak al ah bk bl bh (pf h5) (tb h0) (tb h1) (tb h2) (tb h3) w
theorem zHq(B s:Nat)(c d o n p:Int)(y:Way)(hs:s<11)(w:World)(hW:z02 w B p y):
  Calls tP 112 #[pT (some ⟨B,0,none⟩),.agg #[A F c,A F d,A F s,.bool true,A F o,A F n]] w fun e w'=>e= rT (y.reg s).v/\Below w.heap.size w w':=by
 have hK0:Blk w [(w.heap.size,cT #[A F c,A F d,A F s,.bool true,A F o,A F n] 121 (0,0)),(w.heap.size+1,cT #[A F 0,A F 0,A F 0] 186 (0,0)),(B,cT (z03 p y) 190 (0,0))] _:=(((Blk.nil (((bF _ _).alloc (Nat.le_refl _) _).alloc kS _)).cons ((hW.alloc _).alloc _)).cons (heap_alloc2_new w (cT #[A F c,A F d,A F s,.bool true,A F o,A F n] 121) (cT #[A F 0,A F 0,A F 0] 186))).cons (by rw[Below.heap_alloc _ _ _ kS];exact heap_alloc_new _ _);have hB:=hW.lt;have hs0:(0:Int)<=(s:Int):=kO;have hs1:(s:Int)<11:=kO;go_enter Tryz.func112,Tryz.ntmps112;have hC:=hK0;obtain⟨p0,p1,p2,p3,p4,p5,ltS⟩:=row6 (hC.2 _ mcS);obtain⟨z0,z1,z2,zf0,zf1,zf2,zlt⟩:=row3 (hC.2 _ (mcO _ mcS));have yW:z02 _ B _ _:=(hC.2 _ (mcO _ (mcO _ mcS)));have ylt:=yW.lt;obtain⟨i0,i1,i2⟩:=yW.reg hs;go_wp2_with fail;clear p0 p1 p2 p3 p4 p5 ltS z0 z1 z2 zf0 zf1 zf2 zlt yW ylt i0 i1 i2 hC;refine z0o (C:=Blk w [(w.heap.size,cT #[A F c,A F d,A F s,.bool true,A F o,A F n] 121 (0,0)),(w.heap.size+1,cT #[A F 0,A F 0,A F 0] 186 (0,0)),(B,cT (z03 p y) 190 (0,0))]) (n0:=w.heap.size) 7 [] [] kR kR (fun d _ _ _ _ h=>by cases d<;>exact h) (Blk.stable _ _) (Blk.room0 _ _) hK0.drew trivial ?_;simp only[List.take_succ_cons,List.take_zero,List.drop_succ_cons,List.drop_zero,List.length_nil,Nat.reduceAdd]
 repeat(first
  |(refine z0q kI ?_;simp only[pS])
  |(refine z0c kI (v:=?_) ?_ ?_;rotate_left;(intro w2 hC;obtain⟨p0,p1,p2,p3,p4,p5,ltS⟩:=row6 (hC.2 _ mcS);obtain⟨z0,z1,z2,zf0,zf1,zf2,zlt⟩:=row3 (hC.2 _ (mcO _ mcS));have yW:z02 _ B _ _:=(hC.2 _ (mcO _ (mcO _ mcS)));have ylt:=yW.lt;obtain⟨i0,i1,i2⟩:=yW.reg hs;go_simp;try with_reducible rfl);simp only[pS]))
 refine z11 ?_;intro w3 hC hB3;obtain⟨p0,p1,p2,p3,p4,p5,ltS⟩:=row6 (hC.2 _ mcS);obtain⟨z0,z1,z2,zf0,zf1,zf2,zlt⟩:=row3 (hC.2 _ (mcO _ mcS));have yW:z02 _ B _ _:=(hC.2 _ (mcO _ (mcO _ mcS)));have ylt:=yW.lt;obtain⟨i0,i1,i2⟩:=yW.reg hs;have hbw:=hC.1;go_wp2_with fail;exact bodyPost_ret (v:=(y.reg s).v) (by simp[results,Tryz.results112,go_sem,Kno.v, *]) rfl ⟨rfl,kB⟩
theorem zHr(B:Nat)(c d s o n:Int)(w:World):
  Calls tP 112 #[pT (some ⟨B,0,none⟩),.agg #[A F c,A F d,A F s,.bool false,A F o,A F n]] w fun e w'=>e= rT (z10 n n).v/\Below w.heap.size w w':=by
 have hK0:Blk w [(w.heap.size,cT #[A F c,A F d,A F s,.bool false,A F o,A F n] 121 (0,0)),(w.heap.size+1,cT #[A F 0,A F 0,A F 0] 186 (0,0))] _:=((Blk.nil (((bF _ _).alloc (Nat.le_refl _) _).alloc kS _)).cons (heap_alloc2_new w (cT #[A F c,A F d,A F s,.bool false,A F o,A F n] 121) (cT #[A F 0,A F 0,A F 0] 186))).cons (by rw[Below.heap_alloc _ _ _ kS];exact heap_alloc_new _ _);go_enter Tryz.func112,Tryz.ntmps112
 go_wp2_with(first
  |(go_at_call 86;refine(z4f _ _).mono ?_;rintro e w1 ⟨rfl,hb1⟩;have hK1:=hK0.later hb1)
  |(go_at_call 116;refine(z1s _ _ _).mono ?_;rintro e w2 ⟨rfl,hb2⟩;simp only[Kno.v,z10];have hK2:=hK1.later hb2;have hbw:=hK2.1;obtain⟨z0,z1,z2,zf0,zf1,zf2,zlt⟩:=row3 (hK2.2 _ (mcO _ mcS)))
  |fail)
 exact bodyPost_ret (v:=(z10 n n).v) (by simp[results,Tryz.results112,go_sem,Kno.v,z10, *]) rfl ⟨rfl,kW⟩
theorem z39(B s:Nat)(c d o n:Int)(r:Bool)(p:Int)(y:Way)(hs:s<11)(w:World)(hW:z02 w B p y):
  Calls tP 112 #[pT (some ⟨B,0,none⟩),.agg #[A F c,A F d,A F s,.bool r,A F o,A F n]] w fun e w'=>e= rT (y.second s r n).v/\Below w.heap.size w w':=by
 cases r with
 |true=>exact zHq B s c d o n p y hs w hW
 |false=>exact zHr B c d s o n w
theorem zH2(B d s:Nat)(c o n p:Int)(r:Bool)(y:Way)(hd:d<11)(hs:s<11)(mk ml mh E:Int)(HM:Hid (∀W:World,zR 119 #[A F c,.agg #[A F (y.reg d).k,A F (y.reg d).l,A F (y.reg d).h],(y.second s r n).v] W (.tuple #[.agg #[A F mk,A F ml,A F mh],A F E]))):(∀(hE:(E==0)=false)(w:World)(hW:z02 w B p y),zR 94 #[pT (some ⟨B,0,none⟩),.agg #[A F c,A F d,A F s,.bool r,A F o,A F n]] w (A F E))/\(∀(hE:(E==0)=true)(w:World)(hW:z02 w B p y),Calls tP 94 #[pT (some ⟨B,0,none⟩),.agg #[A F c,A F d,A F s,.bool r,A F o,A F n]] w fun e w'=>e= rT (A F 0)/\Kept B w w'/\z02 w' B p (y.putReg d ⟨mk,ml,mh⟩)):=by
 refine⟨?_,?_⟩
 all_goals
  intro hE w hW;have hK0:Blk w [(w.heap.size,cT #[A F c,A F d,A F s,.bool r,A F o,A F n] 121 (0,0)),(B,cT (z03 p y) 190 (0,0))] _:=((Blk.nil ((bF _ _).alloc (Nat.le_refl _) _)).cons (hW.alloc _)).cons (heap_alloc_new w (cT #[A F c,A F d,A F s,.bool r,A F o,A F n] 121));have hB:=hW.lt;have hs0:(0:Int)<=(s:Int):=kO;have hs1:(s:Int)<11:=kO;have hd0:(0:Int)<=(d:Int):=kO;have hd1:(d:Int)<11:=kO
 all_goals
  go_enter Tryz.func94,Tryz.ntmps94;go_wp2_with fail;refine z0o (C:=Blk w [(w.heap.size,cT #[A F c,A F d,A F s,.bool r,A F o,A F n] 121 (0,0)),(B,cT (z03 p y) 190 (0,0))]) (n0:=w.heap.size+1) 16 [15] [cT #[A F 0,A F 0,A F 0] 186 (0,0)] kR kR (fun d _ _ _ _ h=>by cases d<;>exact h) (Blk.stable _ _) (Blk.room w mcS) hK0.drew ⟨⟨rfl,fun a w2 hC=>by go_simp;try rfl⟩,trivial⟩ ?_;simp only[List.take_succ_cons,List.take_zero,List.drop_succ_cons,List.drop_zero,List.length_cons,List.length_nil,Nat.reduceAdd]
  repeat(first
   |(refine z0q kI ?_;simp only[pS])
   |(refine z0c kI (v:=?_) ?_ ?_;rotate_left;(intro w2 hC;obtain⟨p0,p1,p2,p3,p4,p5,ltS⟩:=row6 (hC.2 _ mcS);have yW:z02 _ B _ _:=(hC.2 _ (mcO _ mcS));have ylt:=yW.lt;obtain⟨i0,i1,i2⟩:=yW.reg hd;go_simp;try with_reducible rfl);simp only[pS])
   |(refine z18 kI ?_;apply Exists.intro;refine⟨fun w2 hC=>?_,?_⟩;(obtain⟨p0,p1,p2,p3,p4,p5,ltS⟩:=row6 (hC.2 _ mcS);have yW:z02 _ B _ _:=(hC.2 _ (mcO _ mcS));have ylt:=yW.lt;obtain⟨i0,i1,i2⟩:=yW.reg hd;go_simp;apply z1k;first|(go_at_call 112;exact z39 B s c d o n r p y hs w2 yW)|(go_at_call 119;exact HM.out w2));simp only[pS]))
  refine z11 ?_;intro L h5 g5 w3 hC hB3;have bL:=hB3 L _ (FB.at_new _ _ _);obtain⟨l0,l1,l2,lf0,lf1,lf2,llt⟩:=row3 bL;obtain⟨p0,p1,p2,p3,p4,p5,ltS⟩:=row6 (hC.2 _ mcS);have yW:z02 _ B _ _:=(hC.2 _ (mcO _ mcS));have ylt:=yW.lt;obtain⟨i0,i1,i2⟩:=yW.reg hd;have hbw:=hC.1;have n1:w.heap.size≠L:=kO;have n2:B≠L:=kO;simp only[z6y];go_wp2_with fail
 ·go_ret
  exact⟨rfl,kW⟩
 ·have hK3:Blk w [(w.heap.size,cT #[A F c,A F d,A F s,.bool r,A F o,A F n] 121 (0,0)),(B,cT (z03 p y) 190 (0,0)),(L,cT #[A F mk,A F ml,A F mh] 186 (0,0))] _:=(((Blk.nil kW).cons (put3 bL)).cons (off3 (hC.2 _ (mcO _ mcS)) n2)).cons (off3 (hC.2 _ mcS) n1)
  clear l0 l1 l2 lf0 lf1 lf2 llt p0 p1 p2 p3 p4 p5 ltS yW ylt i0 i1 i2 hC hbw bL hB3;refine z0o (C:=Blk w [(w.heap.size,cT #[A F c,A F d,A F s,.bool r,A F o,A F n] 121 (0,0)),(B,cT (z03 p y) 190 (0,0)),(L,cT #[A F mk,A F ml,A F mh] 186 (0,0))]) (n0:=w.heap.size) 7 [] [] kR kR (fun d _ _ _ _ h=>by cases d<;>exact h) (Blk.stable _ _) (Blk.room0 _ _) hK3.drew trivial ?_;simp only[List.take_succ_cons,List.take_zero,List.drop_succ_cons,List.drop_zero,List.length_nil,Nat.reduceAdd]
  repeat(first
   |(refine z0q kI ?_;simp only[pS])
   |(refine z0c kI (v:=?_) ?_ ?_;rotate_left;(intro w2 hC;obtain⟨p0,p1,p2,p3,p4,p5,ltS⟩:=row6 (hC.2 _ mcS);have yW:z02 _ B _ _:=(hC.2 _ (mcO _ mcS));have ylt:=yW.lt;obtain⟨i0,i1,i2⟩:=yW.reg hd;obtain⟨l0,l1,l2,lf0,lf1,lf2,llt⟩:=row3 (hC.2 _ (mcO _ (mcO _ mcS)));go_simp;try with_reducible rfl);simp only[pS]))
  refine z11 ?_;intro w4 hC hB4;obtain⟨p0,p1,p2,p3,p4,p5,ltS⟩:=row6 (hC.2 _ mcS);have yW:z02 _ B _ _:=(hC.2 _ (mcO _ mcS));have ylt:=yW.lt;obtain⟨i0,i1,i2⟩:=yW.reg hd;obtain⟨l0,l1,l2,lf0,lf1,lf2,llt⟩:=row3 (hC.2 _ (mcO _ (mcO _ mcS)));have if0:=yW.frozen (1+d*3);have if1:=yW.frozen (1+d*3+1);have if2:=yW.frozen (1+d*3+2);have HK:=z09 hC.1 B;go_wp2_with fail;go_ret;exact⟨by have:=eq_of_beq hE;subst this;rfl,kK,yW.reg3 hd mk ml mh⟩
def zMf:=fun B d s c o n p r y hd hs mk ml mh E HM=>(@zH2 B d s c o n p r y hd hs mk ml mh E HM).1
def zHy:=fun B d s c o n p r y hd hs mk ml mh E HM=>(@zH2 B d s c o n p r y hd hs mk ml mh E HM).2
theorem zHz{B d s:Nat}{c o n p:Int}{r:Bool}{y:Way}(hd:d<11)(hs:s<11)(hy:y.Ok)(hn:In64 n){w:World}(hW:z02 w B p y):
  Calls tP 94 #[pT (some ⟨B,0,none⟩),.agg #[A F c,A F d,A F s,.bool r,A F o,A F n]] w fun e w'=>e= rT (A F (y.change c d s r n).1)/\Kept B w w'/\z02 w' B p (y.change c d s r n).2:=by
 have HM:=fun W:World=>zM6 c (y.reg d) (y.second s r n) (hy.reg d hd) (z2o hy hs hn) W;unfold Way.change;rcases e:z1f c (y.reg d) (y.second s r n)with⟨⟨mk,ml,mh⟩,E⟩
 rw[e]at HM
 by_cases h:E=0
 ·rw[if_pos h]
  exact zHy B d s c o n p r y hd hs mk ml mh E HM (by simpa using h) w hW
 rw[if_neg h];exact(zMf B d s c o n p r y hd hs mk ml mh E HM (by simpa using h) w hW).mono fun e w' ⟨h1,h2⟩=>⟨h1,z09 h2 B,hW.later h2⟩
def z1d(f:Nat->Int×Int):Nat->Int×Int
 |0=>(0,0)
 |k+1=>if k=0 then f 0 else(min (z1d f k).1 (f k).1,max (z1d f k).2 (f k).2)
theorem zCy(f:Nat->Int×Int):z1d f 1=f 0:=if_pos rfl
theorem z73(f:Nat->Int×Int){k:Nat}(h:k≠0):z1d f (k+1)=(min (z1d f k).1 (f k).1,max (z1d f k).2 (f k).2):=if_neg h
theorem z6b(p:Option Addr)(cap:Nat)(w:World):zR 50 #[.slice p 0 cap] w (.agg #[A F 0,A F 0]):=by
 go_enter Tryz.func50,Tryz.ntmps50;go_wp2_with fail;refine wp_loop_rounds 1 ?_;rw[rounds_succ];go_wp2_with fail;exact bodyPost_ret (v:= .agg #[A F 0,A F 0]) (by simp[results,Tryz.results50,go_sem]) rfl ⟨rfl,kW⟩
theorem zAz(g n cap:Nat)(f:Nat->Int×Int)(h1:1<=n)(h2:n<=1000000)(w:World)(hg:g<w.heap.size)(hc: ∀i,i<n->w.cell? ⟨g,i*2,none⟩=some (A F (f i).1)/\w.cell? ⟨g,i*2+1,none⟩=some (A F (f i).2)):
  zR 50 #[.slice (some ⟨g,0,none⟩) n cap] w (.agg #[A F (z1d f n).1,A F (z1d f n).2]):=by
 have HC:Hid (∀i,i<n->w.cell? ⟨g,i*2,none⟩=some (A F (f i).1)/\w.cell? ⟨g,i*2+1,none⟩=some (A F (f i).2)):=hc;have hK0:Blk w [(w.heap.size,cT #[A F 0,A F 0] 113 (0,0)),(w.heap.size+1,cT #[A F (z1d f 0).1,A F (z1d f 0).2] 113 (0,0))] _:=((Blk.nil (((bF _ _).alloc (Nat.le_refl _) _).alloc kS _)).cons (heap_alloc2_new w (cT #[A F 0,A F 0] 113) (cT #[A F 0,A F 0] 113))).cons (by rw[Below.heap_alloc _ _ _ kS];exact heap_alloc_new _ _);have HK0:Hid (Blk w [(w.heap.size,cT #[A F 0,A F 0] 113 (0,0)),(w.heap.size+1,cT #[A F (z1d f 0).1,A F (z1d f 0).2] 113 (0,0))] _):=hK0;clear hc hK0;go_enter Tryz.func50,Tryz.ntmps50;go_wp2_with fail;go_loopw [8] (fun i wr=> ∃k:Nat,i=A F k/\k<=n/\Hid (Blk w [(w.heap.size,cT #[A F 0,A F 0] 113 (0,0)),(w.heap.size+1,cT #[A F (z1d f k).1,A F (z1d f k).2] 113 (0,0))] wr)) (fun i _=>n-(intOf i).toNat)
 case atStart=>exact⟨0,rfl,by omega,HK0.out⟩
 case round=>
  obtain⟨k,rfl,hk,H⟩:=hrel;have hK:=H.out;clear HK0;have hk0:(0:Int)<=(k:Int):=kO
  by_cases hlt:k<n
  ·have hlt':(k:Int)<(n:Int):=kO
   have c0:=(hK.1.cell (p:=⟨g,k*2,none⟩) hg).trans (HC.out k hlt).1;have c1:=(hK.1.cell (p:=⟨g,k*2+1,none⟩) hg).trans (HC.out k hlt).2;have hg2:=Nat.lt_of_lt_of_le hg hK.1.size;obtain⟨r0,r1,rf0,rf1,rlt⟩:=row2 (hK.2 _ mcS);obtain⟨a0,a1,af0,af1,alt⟩:=row2 (hK.2 _ (mcO _ mcS))
   by_cases hz:k=0
   ·subst hz
    simp only[Nat.zero_mul,Nat.zero_add]at c0 c1
    go_wp2_with(first
     |(go_at_call 65;refine(z8r _ _ _ _ _).mono ?_;rintro e w2 ⟨rfl,hb2⟩;have hK2:=Blk.later (Blk.later (((Blk.nil ((hK.1.setCell (by show _<=w.heap.size+1;omega) _).setCell (by show _<=w.heap.size+1;omega) _)).cons (put2 (hK.2 _ (mcO _ mcS)))).cons (off2 (hK.2 _ mcS) kO)) ((bF _ _).alloc (Nat.le_refl _) _)) hb2;clear r0 r1 rf0 rf1 rlt a0 a1 af0 af1 alt;obtain⟨r0,r1,rf0,rf1,rlt⟩:=row2 (hK2.2 _ mcS);obtain⟨a0,a1,af0,af1,alt⟩:=row2 (hK2.2 _ (mcO _ mcS)))
     |fail)
    go_roundw
    case rel=>exact⟨1,by go_num,by omega,by rw[zCy];exact((Blk.nil ((hK2.1.setCell (by show _<=w.heap.size+1;omega) _).setCell (by show _<=w.heap.size+1;omega) _)).cons (put2 (hK2.2 _ (mcO _ mcS)))).cons (off2 (hK2.2 _ mcS) kO)⟩
    case measure=>simp[intOf];omega
   ·have hz':((k:Int)==0)=false:=by simpa using hz
    go_wp2_with(first
     |(go_at_call 65;refine(z8r _ _ _ _ _).mono ?_;rintro e w2 ⟨rfl,hb2⟩;have hK2:=Blk.later (hK.later ((bF _ _).alloc (Nat.le_refl _) _)) hb2;clear r0 r1 rf0 rf1 rlt a0 a1 af0 af1 alt;obtain⟨r0,r1,rf0,rf1,rlt⟩:=row2 (hK2.2 _ mcS);obtain⟨a0,a1,af0,af1,alt⟩:=row2 (hK2.2 _ (mcO _ mcS)))
     |fail)
    go_roundw
    case rel=>exact⟨k+1,by go_num,by omega,by rw[z73 f hz];exact((Blk.nil ((hK2.1.setCell (by show _<=w.heap.size+1;omega) _).setCell (by show _<=w.heap.size+1;omega) _)).cons (put2 (hK2.2 _ (mcO _ mcS)))).cons (off2 (hK2.2 _ mcS) kO)⟩
    case measure=>simp[intOf];omega
  ·obtain rfl:k=n:=by omega
   obtain⟨r0,r1,rf0,rf1,rlt⟩:=row2 (hK.2 _ mcS);obtain⟨a0,a1,af0,af1,alt⟩:=row2 (hK.2 _ (mcO _ mcS));have hbw:=hK.1;go_wp2_with fail;exact bodyPost_ret (v:= .agg #[A F (z1d f k).1,A F (z1d f k).2]) (by simp[results,Tryz.results50,go_sem, *]) rfl ⟨rfl,kW⟩
end
end Go.Proofs.YtabjjgkmegcacaaGreatDoor
