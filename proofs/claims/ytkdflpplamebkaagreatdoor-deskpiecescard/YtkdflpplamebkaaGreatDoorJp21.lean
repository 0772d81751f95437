/-
A part of the proof of DeskPieces; its card says what is proved.
-/
import Derived.Test.YtkdflpplamebkaaGreatDoorJp20
set_option maxHeartbeats 40000000
open Go.Value renaming int → A
open Go.IntKind renaming i64 → D
open Go.RowKit.Below renaming alloc → bA, setCell → bS, drew → bD, refl → bF
set_option maxRecDepth 1000000
set_option linter.defProp false
set_option linter.unusedVariables false
set_option linter.unusedSimpArgs false
open Go.Ending renaming returned → rT
open Go.Value renaming pointer → pT
open Go.Obj renaming cells → cT
open Go.Proofs.Tryz renaming prog → tP
namespace Go.Proofs.YtkdflpplamebkaaGreatDoor
section
open Go.RowKit
theorem zOs{m:Int}(h:m<=9223372036854775807):z5t m<=9223372036854775807:=by
 have d:=zO7 (zOr h);unfold z5t;omega
theorem zIx(u v:Int): -9223372036854775808<=(fit2 u v).1/\(fit2 u v).2<=9223372036854775807:=by
 cases h:fits u&&fits v
 ·rw[zEi h];decide
 rw[zA5 h];simp only[Bool.and_eq_true,z5d]at h;exact⟨h.1.1,h.2.2⟩
theorem pow_lo{k:Nat}(hk:k≠0)(h:k<64):(2:Int)^(64-k)-1<=9223372036854775807:=by
 have hle:2^(64-k)<=2^63:=Nat.pow_le_pow_right kD kO;have:=Int.ofNat_le.2 hle;rw[Int.natCast_pow]at this;have e:((2^63:Nat):Int)=9223372036854775808:=kD;rw[e]at this;have e2:((2:Nat):Int)=2:=rfl;rw[e2]at this;omega
theorem zIv{x:Int}(k:Nat)(h:In64 x):In64 (x/2^k):=by
 have a:=zOn (x:=x) k;unfold In64 at h⊢
 by_cases hx:0<=x
 ·have:=a.1 hx;omega
 have:=a.2 kO;omega
theorem q6p{c al ah bl bh:Int}(hc:1<=c/\c<=13)(a1:In64 al)(a2:In64 ah)(ha:al<=ah)(b1:In64 bl)(b2:In64 bh)(hb:bl<=bh):
  -9223372036854775808<=(bdV c al ah bl bh).1/\(bdV c al ah bl bh).2<=9223372036854775807:=by
 have all: -9223372036854775808<=((-9223372036854775808,9223372036854775807):Int×Int).1/\((-9223372036854775808,9223372036854775807):Int×Int).2<=9223372036854775807:=kD;have h:c=1\/c=2\/c=3\/c=4\/c=5\/c=6\/c=7\/c=8\/c=9\/c=10\/c=11\/c=12\/c=13:=kO;have ua1:=a1.1;have ua2:=a2.2;have ub1:=b1.1;have ub2:=b2.2;rcases h with rfl|rfl|rfl|rfl|rfl|rfl|rfl|rfl|rfl|rfl|rfl|rfl|rfl
 ·rw[q6x];exact⟨ub1,ub2⟩
 ·rw[q6w];exact zIx _ _
 ·rw[q6v];exact zIx _ _
 ·rw[q3d]
  split
  ·rename_i hs
   simp only[Bool.and_eq_true]at hs;obtain⟨⟨⟨s1,s2⟩,s3⟩,s4⟩:=hs;have m1:=z1x (al*bl);have m2:=z1x (al*bh);have m3:=z1x (ah*bl);have m4:=z1x (ah*bh);rw[z4c s1 s3]at m1;rw[z4c s1 s4]at m2;rw[z4c s2 s3]at m3;rw[z4c s2 s4]at m4;show-9223372036854775808<=zT2 al ah bl bh/\zT3 al ah bl bh<=9223372036854775807;unfold zT2 zT3;generalize al*bl=p at*;generalize al*bh=q at*;generalize ah*bl=r at*;generalize ah*bh=t at*;omega
  ·exact all
 ·rw[q6u]
  split
  ·split
   ·have l:=Int.ediv_nonneg (by omega:0<=al) (by omega:0<=bh)
    have g:=Int.ediv_le_self bl (by omega:0<=ah);show-9223372036854775808<=al/bh/\ah/bl<=9223372036854775807;omega
   ·show-9223372036854775808<=(0:Int)/\ah<=9223372036854775807
    omega
  ·exact all
 ·rw[q6t]
  split
  ·split
   ·show-9223372036854775808<=(0:Int)/\min ah (bh-1)<=9223372036854775807
    omega
   ·show-9223372036854775808<=(0:Int)/\ah<=9223372036854775807
    omega
  ·exact all
 ·rw[q3c]
  split
  ·split
   ·show-9223372036854775808<=(0:Int)/\min ah bh<=9223372036854775807
    omega
   ·show-9223372036854775808<=(0:Int)/\ah<=9223372036854775807
    omega
  ·split
   ·show-9223372036854775808<=(0:Int)/\bh<=9223372036854775807
    omega
   ·exact all
 ·rw[q6s]
  split
  ·have f:=zOs (m:=max ah bh) kO
   refine⟨?_,f⟩;show-9223372036854775808<=max al bl;omega
  ·exact all
 ·rw[q6r]
  split
  ·have f:=zOs (m:=max ah bh) kO
   exact⟨by show-9223372036854775808<=(0:Int);decide,f⟩
  ·exact all
 ·rw[zZy]
  split
  ·exact zIx _ _
  ·exact all
 ·rw[zZx]
  split
  ·split
   ·exact⟨ua1,ua2⟩
   ·split
    ·exact⟨(zIv _ a1).1,(zIv _ a2).2⟩
    ·exact⟨by show-9223372036854775808<=(0:Int);decide,pow_lo (by assumption) (zAr _)⟩
  ·split
   ·exact⟨by show-9223372036854775808<=(0:Int);decide,ua2⟩
   ·exact all
 ·rw[zZw]
  split
  ·exact⟨(zIv _ a1).1,(zIv _ a2).2⟩
  ·split
   ·exact⟨by show-9223372036854775808<=(0:Int);decide,ua2⟩
   ·split
    ·exact⟨ua1,by show(-1:Int)<=9223372036854775807;decide⟩
    ·exact⟨ua1,ua2⟩
 rw[zZv];exact zIx _ _
theorem q4j{c al ah bl bh:Int}(hc:1<=c/\c<=13)(a1:In64 al)(a2:In64 ah)(ha:al<=ah)(b1:In64 bl)(b2:In64 bh)(hb:bl<=bh):
  In64 (bdV c al ah bl bh).1/\In64 (bdV c al ah bl bh).2/\(bdV c al ah bl bh).1<=(bdV c al ah bl bh).2:=by
 have l:=q6p hc a1 a2 ha b1 b2 hb;have h:=q6q (x:=al) (y:=bl) hc a1.1 a2.2 b1.1 b2.2 (Int.le_refl _) ha (Int.le_refl _) hb;unfold In64;omega
theorem z7v:kno0.Ok:=⟨by decide,by decide,⟨by decide,by decide⟩,⟨by decide,by decide⟩,by decide⟩
theorem z6o{l h:Int}(h1:In64 l)(h2:In64 h)(h3:l<=h):(z1n l h).Ok:=⟨by show(0:Int)<=1;decide,by show(1:Int)<=5;decide,h1,h2,h3⟩
theorem zL0:(z1n (-9223372036854775808) 9223372036854775807).Ok:=z6o ⟨by decide,by decide⟩ ⟨by decide,by decide⟩ kD
theorem zKz{n:Int}(h:In64 n):(z1n n n).Ok:=z6o h h (Int.le_refl _)
theorem z9x{k:Int}{b:Int×Int}(k0:0<=k)(k5:k<=5)(h1:In64 b.1)(h2:In64 b.2)(h3:b.1<=b.2):(z2e k b).1.Ok:=by
 unfold z2e;split
 ·exact z7v
 exact⟨k0,k5,h1,h2,h3⟩
theorem zOg{c:Int}{a b:Kno}(hc:1<=c/\c<=13)(ka:a.Ok)(kb:b.Ok):(z4g c a b).1.Ok:=by
 obtain⟨x1,x2,x3⟩:=q4j hc ka.2.2.1 ka.2.2.2.1 ka.2.2.2.2 kb.2.2.1 kb.2.2.2.1 kb.2.2.2.2;unfold z4g;split
 ·exact z7v
 split
 ·exact kb
 split
 ·exact z6o x1 x2 x3
 split
 ·exact z9x ka.1 ka.2.1 x1 x2 x3
 split
 ·exact z9x kb.1 kb.2.1 x1 x2 x3
 exact z7v
theorem Way.Ok.putReg{y:Way}(h:y.Ok)(d:Nat){x:Kno}(hx:x.Ok):(y.putReg d x).Ok:=
 ⟨fun i hi=>by show(if i=d then x else y.reg i).Ok;split;exact hx;exact h.reg i hi,h.slot⟩
theorem Way.Ok.putSlot{y:Way}(h:y.Ok)(d:Nat){x:Kno}(hx:x.Ok):(y.putSlot d x).Ok:=
 ⟨h.reg,fun i hi=>by show(if i=d then x else y.slot i).Ok;split;exact hx;exact h.slot i hi⟩
theorem Way.Ok.lose{y:Way}(h:y.Ok):y.lose.Ok:=
 ⟨fun i hi=>by show(if 1<=i/\i<=5 then kno0 else y.reg i).Ok;split;exact z7v;exact h.reg i hi,h.slot⟩
theorem zDy: ∀(l:List Kno)(p:Int×Int),(∀x,x∈l->x.Ok)->In64 p.1->In64 p.2->p.1<=p.2->In64 (z3v p l).1/\In64 (z3v p l).2/\(z3v p l).1<=(z3v p l).2
 |[],_,_,h1,h2,h3=>⟨h1,h2,h3⟩
 |x::l,p,hl,h1,h2,h3=>by
  rw[z3v];have hx:=hl x mcS;have k1:=hx.2.2.1;have k2:=hx.2.2.2.1;have k3:=hx.2.2.2.2;refine zDy l _ (fun z hz=>hl z (mcO _ hz)) ?_ ?_ ?_
  ·show In64 (min p.1 x.l)
   unfold In64 at*;omega
  ·show In64 (max p.2 x.h)
   unfold In64 at*;omega
  ·show min p.1 x.l<=max p.2 x.h
   omega
theorem q2d{l:List Kno}(hl: ∀x,x∈l->x.Ok):In64 (z99 l).1/\In64 (z99 l).2/\(z99 l).1<=(z99 l).2:=by
 cases l with
 |nil=>exact⟨⟨by decide,by decide⟩,⟨by decide,by decide⟩,by decide⟩
 |cons x l=>
  have hx:=hl x mcS;exact zDy l _ (fun z hz=>hl z (mcO _ hz)) hx.2.2.1 hx.2.2.2.1 hx.2.2.2.2
theorem q5s{y:Way}{p:Int×Int}(hk:y.Ok)(h0: -16<=p.1)(h3:p.2<= -1)(h:p.1<=p.2):(y.kept p).1.Ok:=by
 unfold Way.kept;split
 ·exact hk.slot _ kO
 split
 ·exact z7v
 have hj:=q2d (l:=y.row (p.1+16).toNat (p.2-p.1+1).toNat) (fun x hx=>by
  obtain⟨i,hi,rfl⟩:=List.mem_map.mp hx;obtain⟨j,hj,e⟩:=List.mem_range'.mp hi;exact hk.slot _ kO)
 exact z6o hj.1 hj.2.1 hj.2.2
theorem zIs{x:Kno}{o:Int}(hx:x.Ok)(ho:In64 o):(zDv x o).1<=(zDv x o).2:=(q4j ⟨by decide,by decide⟩ hx.2.2.1 hx.2.2.2.1 hx.2.2.2.2 ho ho (Int.le_refl _)).2.2
theorem z97{x:Kno}{o:Int}(h:(z1m x o).2=0):(x.k≠0/\x.k≠1/\x.k≠5)/\(z1m x o).1=zDv x o/\(z5a x.k).1<=(zDv x o).1/\(zDv x o).2<=(z5a x.k).2:=by
 unfold z1m at h⊢
 by_cases h0:x.k=0
 ·rw[if_pos h0]at h;exact absurd h kD
 rw[if_neg h0]at h⊢
 by_cases h1:x.k=1\/x.k=5
 ·rw[if_pos h1]at h;exact absurd h kD
 rw[if_neg h1]at h⊢
 by_cases h2:(zDv x o).1<(z5a x.k).1\/(z5a x.k).2<(zDv x o).2
 ·rw[if_pos h2]at h;exact absurd h kD
 rw[if_neg h2];exact⟨by omega,rfl,by omega,by omega⟩
theorem q5p{y:Way}{d s:Nat}{o:Int}(hk:y.Ok)(hs:s<11)(ho:In64 o):(y.load d s o).2.Ok:=by
 unfold Way.load;split
 ·exact hk
 rename_i h
 have h':=Classical.byContradiction h;split
 ·rename_i h3
  split
  ·exact hk
  ·obtain⟨-,e,r1,r2⟩:=z97 h'
   rw[h3]at r1 r2;rw[e];exact hk.putReg d (q5s hk r1 r2 (zIs (hk.reg s hs) ho))
 exact hk.putReg d zL0
theorem q0u{y:Way}{p v:Kno}{o:Int}(hk:y.Ok)(hv:v.Ok):(y.store p v o).2.Ok:=by
 unfold Way.store;split
 ·exact hk
 split
 ·exact hk
 split
 ·exact hk
 split
 ·exact hk
 split
 ·exact hk
 exact hk.putSlot _ hv
theorem q6n{y:Way}{what:Int}(hk:y.Ok):(y.call what).2.Ok:=by
 unfold Way.call;split
 ·exact hk
 split
 ·exact hk.lose.putReg 0 ⟨by show(0:Int)<=5;decide,by show(5:Int)<=5;decide,⟨by show-9223372036854775808<=(0:Int);decide,by show(0:Int)<=9223372036854775807;decide⟩,⟨by show-9223372036854775808<=(0:Int);decide,by show(0:Int)<=9223372036854775807;decide⟩,by show(0:Int)<=0;decide⟩
 split
 ·exact hk.lose.putReg 0 zL0
 exact hk.lose.putReg 0 (zKz ⟨by decide,by decide⟩)
theorem zYv{y:Way}{c:Int}{d s:Nat}{r:Bool}{n:Int}(hk:y.Ok)(hc:1<=c/\c<=13)(hd:d<11)(hs:s<11)(hn:In64 n):(y.change c d s r n).2.Ok:=by
 unfold Way.change;split
 ·exact hk.putReg d (zOg hc (hk.reg d hd) (z7r hk hs hn))
 exact hk
theorem zKq{y:Way}{c:Int}{d s:Nat}{r:Bool}{n:Int}(hk:y.Ok)(hc:15<=c/\c<=24)(hd:d<11)(hs:s<11)(hn:In64 n):(y.narrow c d s r n).2.Ok:=by
 have o1:=hk.reg d hd;have o2:=z7r (r:=r) (n:=n) hk hs hn;have nl:=(q1o (x:=(y.reg d).l) (y:=(y.second s r n).l) hc o1.2.2.1.1 o1.2.2.2.1.2 o2.2.2.1.1 o2.2.2.2.1.2 (Int.le_refl _) o1.2.2.2.2 (Int.le_refl _) o2.2.2.2.2).2;unfold Way.narrow;split
 ·exact hk
 rename_i h
 obtain⟨n1,n2,n3,n4,n5,n6⟩:=nl (by cases e:(narV c (y.reg d).l (y.reg d).h (y.second s r n).l (y.second s r n).h).2.2 with|false=>exact absurd e h|true=>rfl);have q1:=o1.2.2.1;have q2:=o1.2.2.2.1;have q3:=o2.2.2.1;have q4:=o2.2.2.2.1;generalize narV c (y.reg d).l (y.reg d).h (y.second s r n).l (y.second s r n).h=z at*;unfold In64 at q1 q2 q3 q4;have w1:(z1n z.1.1 z.1.2).Ok:=z6o ⟨by omega,by omega⟩ ⟨by omega,by omega⟩ n1;have w2:(z1n z.2.1.1 z.2.1.2).Ok:=z6o ⟨by omega,by omega⟩ ⟨by omega,by omega⟩ n2;split
 ·exact hk
 split
 ·exact(hk.putReg d w1).putReg s w2
 exact hk.putReg d w1
theorem ask_ok{y:Way}{c:Int}{d s:Nat}{r:Bool}{o n:Int}(hk:y.Ok)(hc:15<=c/\c<=24)(hd:d<11)(hs:s<11)(hn:In64 n): ∀z,z∈(y.ask c d s r o n).1->z.2.Ok:=by
 intro z hz;unfold Way.ask at hz;split at hz
 ·exact absurd hz kS
 split at hz
 ·unfold Way.askNumbers at hz
  have ho:=zWt (x:=0) (y:=0) hc;rcases List.mem_append.mp hz with hz|hz
  ·split at hz
   ·rw[List.mem_singleton.mp hz];exact zKq hk ho.2.2 hd hs hn
   ·exact absurd hz kS
  ·split at hz
   ·rw[List.mem_singleton.mp hz];exact zKq hk hc hd hs hn
   ·exact absurd hz kS
 split at hz
 ·exact absurd hz kS
 unfold Way.askPlace at hz;split at hz
 ·rw[List.mem_singleton.mp hz];exact hk
 rcases List.mem_cons.mp hz with hz|hz
 ·rw[hz];exact hk.putReg d (zKz ⟨by decide,by decide⟩)
 rw[List.mem_singleton.mp hz];exact hk.putReg d ⟨by show(0:Int)<=4;decide,by show(4:Int)<=5;decide,⟨by show-9223372036854775808<=(0:Int);decide,by show(0:Int)<=9223372036854775807;decide⟩,⟨by show-9223372036854775808<=(0:Int);decide,by show(0:Int)<=9223372036854775807;decide⟩,by show(0:Int)<=0;decide⟩
theorem zXg{y:Way}{c:Int}{d s:Nat}{r:Bool}{o n:Int}(hk:y.Ok)(c1:1<=c)(c2:c<=28)(hd:d<11)(hs:s<11)(ho:In64 o)(hn:In64 n): ∀z,z∈(y.look c d s r o n).1->z.2.Ok:=by
 intro z hz;unfold Way.look at hz
 by_cases h1:15<=c/\c<=24
 ·rw[if_pos h1]at hz;exact ask_ok hk h1 hd hs hn z hz
 rw[if_neg h1]at hz
 by_cases h2:c=14
 ·rw[if_pos h2]at hz;rw[List.mem_singleton.mp hz];exact hk
 rw[if_neg h2]at hz
 by_cases h3:c=28
 ·rw[if_pos h3]at hz;exact absurd hz kS
 rw[if_neg h3]at hz
 by_cases h4:c=25
 ·rw[if_pos h4]at hz
  split at hz
  ·rw[List.mem_singleton.mp hz];exact q5p hk hs ho
  ·exact absurd hz kS
 rw[if_neg h4]at hz
 by_cases h5:c=26
 ·rw[if_pos h5]at hz
  split at hz
  ·rw[List.mem_singleton.mp hz];exact q0u hk (z7r hk hs hn)
  ·exact absurd hz kS
 rw[if_neg h5]at hz
 by_cases h6:c=27
 ·rw[if_pos h6]at hz
  split at hz
  ·rw[List.mem_singleton.mp hz];exact q6n hk
  ·exact absurd hz kS
 rw[if_neg h6]at hz;split at hz
 ·rw[List.mem_singleton.mp hz];exact zYv hk ⟨by omega,by omega⟩ hd hs hn
 exact absurd hz kS
theorem zUu:way0.Ok:=by
 refine⟨fun i _=>?_,fun _ _=>z7v⟩;show(if i=1 then(⟨2,0,0⟩:Kno)else if i=10 then⟨3,0,0⟩else kno0).Ok;split
 ·exact⟨by decide,by decide,⟨by decide,by decide⟩,⟨by decide,by decide⟩,by decide⟩
 split
 ·exact⟨by decide,by decide,⟨by decide,by decide⟩,⟨by decide,by decide⟩,by decide⟩
 exact z7v
end
section
open Go.ChangeShapes Go.WideShapes Go.ChangeAt Go.RowKit
attribute [local simp] z05 z0a z06
theorem zRl(code:Int)(a b:Kno)(ka:a.Ok)(kb:b.Ok)(w:World):zR 182 #[A D code,a.v,b.v] w (.tuple #[(z4g code a b).1.v,A D (z4g code a b).2]):=by
 obtain⟨ak,al,ah⟩:=a;obtain⟨bk,bl,bh⟩:=b;have HD:=fun W:World=>zZo code al ah bl bh ka.2.2.1.1 ka.2.2.1.2 ka.2.2.2.1.1 ka.2.2.2.1.2 kb.2.2.1.1 kb.2.2.1.2 kb.2.2.2.1.1 kb.2.2.2.1.2 ka.2.2.2.2 kb.2.2.2.2 W;unfold z4g;have tb: ∀{x y:Int},¬x=y->(x==y)=false:=fun h=>by simpa using h
 have tt: ∀{x y:Int},x=y->(x==y)=true:=fun h=>by simpa using h
 by_cases h0:bk=0
 ·rw[if_pos (Or.inl h0)];exact vmk_b0 code ak al ah bk bl bh (tt h0) w
 by_cases h1:ak=0
 ·by_cases h2:code=1
  ·rw[if_neg (by simp[h0,h2]),if_pos h2];exact q0j code ak al ah bk bl bh (tb h0) (tt h1) (by simp[h2]) (tt h2) w
  ·rw[if_pos (Or.inr ⟨h1,h2⟩)];exact vmk_a0 code ak al ah bk bl bh (tb h0) (tt h1) (by simpa using h2) w
 by_cases h2:code=1
 ·rw[if_neg (by simp[h0,h1]),if_pos h2];exact q0i code ak al ah bk bl bh (tb h0) (tb h1) (tt h2) w
 rw[if_neg (by simp[h0,h1]),if_neg h2];generalize bdV code al ah bl bh=t at*;obtain⟨dl,dh⟩:=t
 have pf: ∀{k:Int},¬(k=2\/k=3\/k=4)->z1q k=false:=fun{k} h=>by
  cases e:z1q k
  ·rfl
  ·exact absurd ((z44 k).1 e) h
 by_cases h3:ak=1
 ·have pa:z1q ak=false:=pf kO
  by_cases h4:bk=1
  ·rw[if_pos ⟨h3,h4⟩];exact q0g code ak al ah bk bl bh dl dh HD (tb h0) (tb h1) (tb h2) (tt h3) (tt h4) w
  ·rw[if_neg (fun e=>h4 e.2),if_neg (by show¬((ak=2\/ak=3\/ak=4)/\bk=1/\(code=2\/code=3));omega)]
   by_cases h5:bk=2\/bk=3\/bk=4
   ·by_cases h6:code=2
    ·rw[if_pos ⟨h3,h5,h6⟩]
     rcases hF:z2e bk (dl,dh)with⟨⟨gk,gl,gh⟩,E⟩
     exact q0h code ak al ah bk bl bh dl dh HD gk gl gh E hF pa ((z44 bk).2 h5) (tb h0) (tb h1) (tb h2) (tt h3) (tb h4) (tt h6) w
    ·rw[if_neg (fun e=>h6 e.2.2)];exact q4p code ak al ah bk bl bh pa ((z44 bk).2 h5) (tb h0) (tb h1) (tb h2) (tt h3) (tb h4) (tb h6) w
   ·rw[if_neg (fun e=>h5 e.2.1)];exact vmk_nb code ak al ah bk bl bh pa (pf h5) (tb h0) (tb h1) (tb h2) (tt h3) (tb h4) w
 rw[if_neg (fun e=>h3 e.1)]
 by_cases h5:ak=2\/ak=3\/ak=4
 ·have pa:=(z44 ak).2 h5
  by_cases h4:bk=1
  ·by_cases h6:code=2
   ·rw[if_pos ⟨h5,h4,Or.inl h6⟩]
    rcases hF:z2e ak (dl,dh)with⟨⟨gk,gl,gh⟩,E⟩
    exact q0f code ak al ah bk bl bh dl dh HD gk gl gh E hF pa (tb h0) (tb h1) (tb h2) (tb h3) (tt h4) (tt h6) w
   ·by_cases h7:code=3
    ·rw[if_pos ⟨h5,h4,Or.inr h7⟩]
     rcases hF:z2e ak (dl,dh)with⟨⟨gk,gl,gh⟩,E⟩
     exact q0e code ak al ah bk bl bh dl dh HD gk gl gh E hF pa (tb h0) (tb h1) (tb h2) (tb h3) (tt h4) (tb h6) (tt h7) w
    ·rw[if_neg (fun e=>e.2.2.elim h6 h7),if_neg (fun e=>h3 e.1)];exact q4o code ak al ah bk bl bh pa (tb h0) (tb h1) (tb h2) (tb h3) (tt h4) (tb h6) (tb h7) w
  ·rw[if_neg (fun e=>h4 e.2.1),if_neg (fun e=>h3 e.1)];exact vmk_pb code ak al ah bk bl bh pa (tb h0) (tb h1) (tb h2) (tb h3) (tb h4) w
 rw[if_neg (fun e=>h5 e.1),if_neg (fun e=>h3 e.1)];exact vmk_m code ak al ah bk bl bh (pf h5) (tb h0) (tb h1) (tb h2) (tb h3) w
theorem zMt(B s:Nat)(c d o n p:Int)(y:Way)(hs:s<11)(w:World)(hW:z03 w B p y):
  Calls tP 176 #[pT (some ⟨B,0,none⟩),.agg #[A D c,A D d,A D s,.bool true,A D o,A D n]] w fun e w'=>e= rT (y.reg s).v/\Below w.heap.size w w':=by
 have hK0:Blk w [(w.heap.size,cT #[A D c,A D d,A D s,.bool true,A D o,A D n] 135 (0,0)),(w.heap.size+1,cT #[A D 0,A D 0,A D 0] 192 (0,0)),(B,cT (z04 p y) 196 (0,0))] _:=(((Blk.nil (((bF _ _).alloc (Nat.le_refl _) _).alloc kS _)).cons ((hW.alloc _).alloc _)).cons (heap_alloc2_new w (cT #[A D c,A D d,A D s,.bool true,A D o,A D n] 135) (cT #[A D 0,A D 0,A D 0] 192))).cons (by rw[Below.heap_alloc _ _ _ kS];exact heap_alloc_new _ _);have hB:=hW.lt;have hs0:(0:Int)<=(s:Int):=kO;have hs1:(s:Int)<11:=kO;go_enter Tryz.func176,Tryz.ntmps176;have hC:=hK0;obtain⟨p0,p1,p2,p3,p4,p5,ltS⟩:=row6 (hC.2 _ mcS);obtain⟨z0,z1,z2,zf0,zf1,zf2,zlt⟩:=row3 (hC.2 _ (mcO _ mcS));have yW:z03 _ B _ _:=(hC.2 _ (mcO _ (mcO _ mcS)));have ylt:=yW.lt;obtain⟨i0,i1,i2⟩:=yW.reg hs;go_wp2_with fail;clear p0 p1 p2 p3 p4 p5 ltS z0 z1 z2 zf0 zf1 zf2 zlt yW ylt i0 i1 i2 hC;refine z0n (C:=Blk w [(w.heap.size,cT #[A D c,A D d,A D s,.bool true,A D o,A D n] 135 (0,0)),(w.heap.size+1,cT #[A D 0,A D 0,A D 0] 192 (0,0)),(B,cT (z04 p y) 196 (0,0))]) (n0:=w.heap.size) 7 [] [] kR kR (fun d _ _ _ _ h=>by cases d<;>exact h) (Blk.stable _ _) (Blk.room0 _ _) hK0.drew trivial ?_;simp only[List.take_succ_cons,List.take_zero,List.drop_succ_cons,List.drop_zero,List.length_nil,Nat.reduceAdd]
 repeat(first
  |(refine z0k kI ?_;simp only[pS])
  |(refine z09 kI (v:=?_) ?_ ?_;rotate_left;(intro w2 hC;obtain⟨p0,p1,p2,p3,p4,p5,ltS⟩:=row6 (hC.2 _ mcS);obtain⟨z0,z1,z2,zf0,zf1,zf2,zlt⟩:=row3 (hC.2 _ (mcO _ mcS));have yW:z03 _ B _ _:=(hC.2 _ (mcO _ (mcO _ mcS)));have ylt:=yW.lt;obtain⟨i0,i1,i2⟩:=yW.reg hs;go_simp;try with_reducible rfl);simp only[pS]))
 refine z0r ?_;intro w3 hC hB3;obtain⟨p0,p1,p2,p3,p4,p5,ltS⟩:=row6 (hC.2 _ mcS);obtain⟨z0,z1,z2,zf0,zf1,zf2,zlt⟩:=row3 (hC.2 _ (mcO _ mcS));have yW:z03 _ B _ _:=(hC.2 _ (mcO _ (mcO _ mcS)));have ylt:=yW.lt;obtain⟨i0,i1,i2⟩:=yW.reg hs;have hbw:=hC.1;go_wp2_with fail;exact bodyPost_ret (v:=(y.reg s).v) (by simp[results,Tryz.results176,go_sem,Kno.v, *]) rfl ⟨rfl,kB⟩
theorem zMu(B:Nat)(c d s o n:Int)(w:World):
  Calls tP 176 #[pT (some ⟨B,0,none⟩),.agg #[A D c,A D d,A D s,.bool false,A D o,A D n]] w fun e w'=>e= rT (z1n n n).v/\Below w.heap.size w w':=by
 have hK0:Blk w [(w.heap.size,cT #[A D c,A D d,A D s,.bool false,A D o,A D n] 135 (0,0)),(w.heap.size+1,cT #[A D 0,A D 0,A D 0] 192 (0,0))] _:=((Blk.nil (((bF _ _).alloc (Nat.le_refl _) _).alloc kS _)).cons (heap_alloc2_new w (cT #[A D c,A D d,A D s,.bool false,A D o,A D n] 135) (cT #[A D 0,A D 0,A D 0] 192))).cons (by rw[Below.heap_alloc _ _ _ kS];exact heap_alloc_new _ _);go_enter Tryz.func176,Tryz.ntmps176
 go_wp2_with(first
  |(go_at_call 86;refine(z3c _ _).mono ?_;rintro e w1 ⟨rfl,hb1⟩;have hK1:=hK0.later hb1)
  |(go_at_call 180;refine(z1o _ _ _).mono ?_;rintro e w2 ⟨rfl,hb2⟩;simp only[Kno.v,z1n];have hK2:=hK1.later hb2;have hbw:=hK2.1;obtain⟨z0,z1,z2,zf0,zf1,zf2,zlt⟩:=row3 (hK2.2 _ (mcO _ mcS)))
  |fail)
 exact bodyPost_ret (v:=(z1n n n).v) (by simp[results,Tryz.results176,go_sem,Kno.v,z1n, *]) rfl ⟨rfl,kW⟩
theorem z3w(B s:Nat)(c d o n:Int)(r:Bool)(p:Int)(y:Way)(hs:s<11)(w:World)(hW:z03 w B p y):
  Calls tP 176 #[pT (some ⟨B,0,none⟩),.agg #[A D c,A D d,A D s,.bool r,A D o,A D n]] w fun e w'=>e= rT (y.second s r n).v/\Below w.heap.size w w':=by
 cases r with
 |true=>exact zMt B s c d o n p y hs w hW
 |false=>exact zMu B c d s o n w
theorem zLm(B d s:Nat)(c o n p:Int)(r:Bool)(y:Way)(hd:d<11)(hs:s<11)(mk ml mh E:Int)(HM:Hid (∀W:World,zR 182 #[A D c,.agg #[A D (y.reg d).k,A D (y.reg d).l,A D (y.reg d).h],(y.second s r n).v] W (.tuple #[.agg #[A D mk,A D ml,A D mh],A D E]))):(∀(hE:(E==0)=false)(w:World)(hW:z03 w B p y),zR 146 #[pT (some ⟨B,0,none⟩),.agg #[A D c,A D d,A D s,.bool r,A D o,A D n]] w (A D E))/\(∀(hE:(E==0)=true)(w:World)(hW:z03 w B p y),Calls tP 146 #[pT (some ⟨B,0,none⟩),.agg #[A D c,A D d,A D s,.bool r,A D o,A D n]] w fun e w'=>e= rT (A D 0)/\Kept B w w'/\z03 w' B p (y.putReg d ⟨mk,ml,mh⟩)):=by
 refine⟨?_,?_⟩
 all_goals
  intro hE w hW;have hK0:Blk w [(w.heap.size,cT #[A D c,A D d,A D s,.bool r,A D o,A D n] 135 (0,0)),(B,cT (z04 p y) 196 (0,0))] _:=((Blk.nil ((bF _ _).alloc (Nat.le_refl _) _)).cons (hW.alloc _)).cons (heap_alloc_new w (cT #[A D c,A D d,A D s,.bool r,A D o,A D n] 135));have hB:=hW.lt;have hs0:(0:Int)<=(s:Int):=kO;have hs1:(s:Int)<11:=kO;have hd0:(0:Int)<=(d:Int):=kO;have hd1:(d:Int)<11:=kO
 all_goals
  go_enter Tryz.func146,Tryz.ntmps146;go_wp2_with fail;refine z0n (C:=Blk w [(w.heap.size,cT #[A D c,A D d,A D s,.bool r,A D o,A D n] 135 (0,0)),(B,cT (z04 p y) 196 (0,0))]) (n0:=w.heap.size+1) 16 [15] [cT #[A D 0,A D 0,A D 0] 192 (0,0)] kR kR (fun d _ _ _ _ h=>by cases d<;>exact h) (Blk.stable _ _) (Blk.room w mcS) hK0.drew ⟨⟨rfl,fun a w2 hC=>by go_simp;try rfl⟩,trivial⟩ ?_;simp only[List.take_succ_cons,List.take_zero,List.drop_succ_cons,List.drop_zero,List.length_cons,List.length_nil,Nat.reduceAdd]
  repeat(first
   |(refine z0k kI ?_;simp only[pS])
   |(refine z09 kI (v:=?_) ?_ ?_;rotate_left;(intro w2 hC;obtain⟨p0,p1,p2,p3,p4,p5,ltS⟩:=row6 (hC.2 _ mcS);have yW:z03 _ B _ _:=(hC.2 _ (mcO _ mcS));have ylt:=yW.lt;obtain⟨i0,i1,i2⟩:=yW.reg hd;go_simp;try with_reducible rfl);simp only[pS])
   |(refine z0t kI ?_;apply Exists.intro;refine⟨fun w2 hC=>?_,?_⟩;(obtain⟨p0,p1,p2,p3,p4,p5,ltS⟩:=row6 (hC.2 _ mcS);have yW:z03 _ B _ _:=(hC.2 _ (mcO _ mcS));have ylt:=yW.lt;obtain⟨i0,i1,i2⟩:=yW.reg hd;go_simp;apply z10;first|(go_at_call 176;exact z3w B s c d o n r p y hs w2 yW)|(go_at_call 182;exact HM.out w2));simp only[pS]))
  refine z0r ?_;intro L h5 g5 w3 hC hB3;have bL:=hB3 L _ (FB.at_new _ _ _);obtain⟨l0,l1,l2,lf0,lf1,lf2,llt⟩:=row3 bL;obtain⟨p0,p1,p2,p3,p4,p5,ltS⟩:=row6 (hC.2 _ mcS);have yW:z03 _ B _ _:=(hC.2 _ (mcO _ mcS));have ylt:=yW.lt;obtain⟨i0,i1,i2⟩:=yW.reg hd;have hbw:=hC.1;have n1:w.heap.size≠L:=kO;have n2:B≠L:=kO;simp only[zAx];go_wp2_with fail
 ·go_ret
  exact⟨rfl,kW⟩
 ·have hK3:Blk w [(w.heap.size,cT #[A D c,A D d,A D s,.bool r,A D o,A D n] 135 (0,0)),(B,cT (z04 p y) 196 (0,0)),(L,cT #[A D mk,A D ml,A D mh] 192 (0,0))] _:=(((Blk.nil kW).cons (put3 bL)).cons (off3 (hC.2 _ (mcO _ mcS)) n2)).cons (off3 (hC.2 _ mcS) n1)
  clear l0 l1 l2 lf0 lf1 lf2 llt p0 p1 p2 p3 p4 p5 ltS yW ylt i0 i1 i2 hC hbw bL hB3;refine z0n (C:=Blk w [(w.heap.size,cT #[A D c,A D d,A D s,.bool r,A D o,A D n] 135 (0,0)),(B,cT (z04 p y) 196 (0,0)),(L,cT #[A D mk,A D ml,A D mh] 192 (0,0))]) (n0:=w.heap.size) 7 [] [] kR kR (fun d _ _ _ _ h=>by cases d<;>exact h) (Blk.stable _ _) (Blk.room0 _ _) hK3.drew trivial ?_;simp only[List.take_succ_cons,List.take_zero,List.drop_succ_cons,List.drop_zero,List.length_nil,Nat.reduceAdd]
  repeat(first
   |(refine z0k kI ?_;simp only[pS])
   |(refine z09 kI (v:=?_) ?_ ?_;rotate_left;(intro w2 hC;obtain⟨p0,p1,p2,p3,p4,p5,ltS⟩:=row6 (hC.2 _ mcS);have yW:z03 _ B _ _:=(hC.2 _ (mcO _ mcS));have ylt:=yW.lt;obtain⟨i0,i1,i2⟩:=yW.reg hd;obtain⟨l0,l1,l2,lf0,lf1,lf2,llt⟩:=row3 (hC.2 _ (mcO _ (mcO _ mcS)));go_simp;try with_reducible rfl);simp only[pS]))
  refine z0r ?_;intro w4 hC hB4;obtain⟨p0,p1,p2,p3,p4,p5,ltS⟩:=row6 (hC.2 _ mcS);have yW:z03 _ B _ _:=(hC.2 _ (mcO _ mcS));have ylt:=yW.lt;obtain⟨i0,i1,i2⟩:=yW.reg hd;obtain⟨l0,l1,l2,lf0,lf1,lf2,llt⟩:=row3 (hC.2 _ (mcO _ (mcO _ mcS)));have if0:=yW.frozen (1+d*3);have if1:=yW.frozen (1+d*3+1);have if2:=yW.frozen (1+d*3+2);have HK:=z0d hC.1 B;go_wp2_with fail;go_ret;exact⟨by have:=eq_of_beq hE;subst this;rfl,kK,yW.reg3 hd mk ml mh⟩
def zRu:=fun B d s c o n p r y hd hs mk ml mh E HM=>(@zLm B d s c o n p r y hd hs mk ml mh E HM).1
def zN2:=fun B d s c o n p r y hd hs mk ml mh E HM=>(@zLm B d s c o n p r y hd hs mk ml mh E HM).2
theorem zN3{B d s:Nat}{c o n p:Int}{r:Bool}{y:Way}(hd:d<11)(hs:s<11)(hy:y.Ok)(hn:In64 n){w:World}(hW:z03 w B p y):
  Calls tP 146 #[pT (some ⟨B,0,none⟩),.agg #[A D c,A D d,A D s,.bool r,A D o,A D n]] w fun e w'=>e= rT (A D (y.change c d s r n).1)/\Kept B w w'/\z03 w' B p (y.change c d s r n).2:=by
 have HM:=fun W:World=>zRl c (y.reg d) (y.second s r n) (hy.reg d hd) (z7r hy hs hn) W;unfold Way.change;rcases e:z4g c (y.reg d) (y.second s r n)with⟨⟨mk,ml,mh⟩,E⟩
 rw[e]at HM
 by_cases h:E=0
 ·rw[if_pos h]
  exact zN2 B d s c o n p r y hd hs mk ml mh E HM (by simpa using h) w hW
 rw[if_neg h];exact(zRu B d s c o n p r y hd hs mk ml mh E HM (by simpa using h) w hW).mono fun e w' ⟨h1,h2⟩=>⟨h1,z0d h2 B,hW.later h2⟩
def z1i(f:Nat->Int×Int):Nat->Int×Int
 |0=>(0,0)
 |k+1=>if k=0 then f 0 else(min (z1i f k).1 (f k).1,max (z1i f k).2 (f k).2)
theorem zGq(f:Nat->Int×Int):z1i f 1=f 0:=if_pos rfl
theorem z98(f:Nat->Int×Int){k:Nat}(h:k≠0):z1i f (k+1)=(min (z1i f k).1 (f k).1,max (z1i f k).2 (f k).2):=if_neg h
theorem z8k(p:Option Addr)(cap:Nat)(w:World):zR 76 #[.slice p 0 cap] w (.agg #[A D 0,A D 0]):=by
 go_enter Tryz.func76,Tryz.ntmps76;go_wp2_with fail;refine wp_loop_rounds 1 ?_;rw[rounds_succ];go_wp2_with fail;exact bodyPost_ret (v:= .agg #[A D 0,A D 0]) (by simp[results,Tryz.results76,go_sem]) rfl ⟨rfl,kW⟩
theorem zDx(g n cap:Nat)(f:Nat->Int×Int)(h1:1<=n)(h2:n<=1000000)(w:World)(hg:g<w.heap.size)(hc: ∀i,i<n->w.cell? ⟨g,i*2,none⟩=some (A D (f i).1)/\w.cell? ⟨g,i*2+1,none⟩=some (A D (f i).2)):
  zR 76 #[.slice (some ⟨g,0,none⟩) n cap] w (.agg #[A D (z1i f n).1,A D (z1i f n).2]):=by
 have HC:Hid (∀i,i<n->w.cell? ⟨g,i*2,none⟩=some (A D (f i).1)/\w.cell? ⟨g,i*2+1,none⟩=some (A D (f i).2)):=hc;have hK0:Blk w [(w.heap.size,cT #[A D 0,A D 0] 84 (0,0)),(w.heap.size+1,cT #[A D (z1i f 0).1,A D (z1i f 0).2] 84 (0,0))] _:=((Blk.nil (((bF _ _).alloc (Nat.le_refl _) _).alloc kS _)).cons (heap_alloc2_new w (cT #[A D 0,A D 0] 84) (cT #[A D 0,A D 0] 84))).cons (by rw[Below.heap_alloc _ _ _ kS];exact heap_alloc_new _ _);have HK0:Hid (Blk w [(w.heap.size,cT #[A D 0,A D 0] 84 (0,0)),(w.heap.size+1,cT #[A D (z1i f 0).1,A D (z1i f 0).2] 84 (0,0))] _):=hK0;clear hc hK0;go_enter Tryz.func76,Tryz.ntmps76;go_wp2_with fail;go_loopw [8] (fun i wr=> ∃k:Nat,i=A D k/\k<=n/\Hid (Blk w [(w.heap.size,cT #[A D 0,A D 0] 84 (0,0)),(w.heap.size+1,cT #[A D (z1i f k).1,A D (z1i f k).2] 84 (0,0))] wr)) (fun i _=>n-(intOf i).toNat)
 case atStart=>exact⟨0,rfl,by omega,HK0.out⟩
 case round=>
  obtain⟨k,rfl,hk,H⟩:=hrel;have hK:=H.out;clear HK0;have hk0:(0:Int)<=(k:Int):=kO
  by_cases hlt:k<n
  ·have hlt':(k:Int)<(n:Int):=kO
   have c0:=(hK.1.cell (p:=⟨g,k*2,none⟩) hg).trans (HC.out k hlt).1;have c1:=(hK.1.cell (p:=⟨g,k*2+1,none⟩) hg).trans (HC.out k hlt).2;have hg2:=Nat.lt_of_lt_of_le hg hK.1.size;obtain⟨r0,r1,rf0,rf1,rlt⟩:=row2 (hK.2 _ mcS);obtain⟨a0,a1,af0,af1,alt⟩:=row2 (hK.2 _ (mcO _ mcS))
   by_cases hz:k=0
   ·subst hz
    simp only[Nat.zero_mul,Nat.zero_add]at c0 c1
    go_wp2_with(first
     |(go_at_call 111;refine(z3z _ _ _ _ _).mono ?_;rintro e w2 ⟨rfl,hb2⟩;have hK2:=Blk.later (Blk.later (((Blk.nil ((hK.1.setCell (by show _<=w.heap.size+1;omega) _).setCell (by show _<=w.heap.size+1;omega) _)).cons (put2 (hK.2 _ (mcO _ mcS)))).cons (off2 (hK.2 _ mcS) kO)) ((bF _ _).alloc (Nat.le_refl _) _)) hb2;clear r0 r1 rf0 rf1 rlt a0 a1 af0 af1 alt;obtain⟨r0,r1,rf0,rf1,rlt⟩:=row2 (hK2.2 _ mcS);obtain⟨a0,a1,af0,af1,alt⟩:=row2 (hK2.2 _ (mcO _ mcS)))
     |fail)
    go_roundw
    case rel=>exact⟨1,by go_num,by omega,by rw[zGq];exact((Blk.nil ((hK2.1.setCell (by show _<=w.heap.size+1;omega) _).setCell (by show _<=w.heap.size+1;omega) _)).cons (put2 (hK2.2 _ (mcO _ mcS)))).cons (off2 (hK2.2 _ mcS) kO)⟩
    case measure=>simp[intOf];omega
   ·have hz':((k:Int)==0)=false:=by simpa using hz
    go_wp2_with(first
     |(go_at_call 111;refine(z3z _ _ _ _ _).mono ?_;rintro e w2 ⟨rfl,hb2⟩;have hK2:=Blk.later (hK.later ((bF _ _).alloc (Nat.le_refl _) _)) hb2;clear r0 r1 rf0 rf1 rlt a0 a1 af0 af1 alt;obtain⟨r0,r1,rf0,rf1,rlt⟩:=row2 (hK2.2 _ mcS);obtain⟨a0,a1,af0,af1,alt⟩:=row2 (hK2.2 _ (mcO _ mcS)))
     |fail)
    go_roundw
    case rel=>exact⟨k+1,by go_num,by omega,by rw[z98 f hz];exact((Blk.nil ((hK2.1.setCell (by show _<=w.heap.size+1;omega) _).setCell (by show _<=w.heap.size+1;omega) _)).cons (put2 (hK2.2 _ (mcO _ mcS)))).cons (off2 (hK2.2 _ mcS) kO)⟩
    case measure=>simp[intOf];omega
  ·obtain rfl:k=n:=by omega
   obtain⟨r0,r1,rf0,rf1,rlt⟩:=row2 (hK.2 _ mcS);obtain⟨a0,a1,af0,af1,alt⟩:=row2 (hK.2 _ (mcO _ mcS));have hbw:=hK.1;go_wp2_with fail;exact bodyPost_ret (v:= .agg #[A D (z1i f k).1,A D (z1i f k).2]) (by simp[results,Tryz.results76,go_sem, *]) rfl ⟨rfl,kW⟩
end
end Go.Proofs.YtkdflpplamebkaaGreatDoor
