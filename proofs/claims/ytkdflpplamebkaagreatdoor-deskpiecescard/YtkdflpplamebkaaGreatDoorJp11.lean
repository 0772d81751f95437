/-
A part of the proof of DeskPieces; its card says what is proved.
-/
import Derived.Test.YtkdflpplamebkaaGreatDoorJp10
set_option maxHeartbeats 40000000
open Go.Value renaming int → A
open Go.IntKind renaming i64 → E
open Go.RowKit.Below renaming alloc → bA, setCell → bS, drew → bD, refl → bF
set_option maxRecDepth 1000000
set_option linter.defProp false
set_option linter.unusedVariables false
set_option linter.unusedSimpArgs false
namespace Go.Proofs.YtkdflpplamebkaaGreatDoor
section
open Go.RowKit
def askF(c:Int)(a b:Val)(r:Bool)(o n:Int):Int×Int:=
 if a.k=0\/b.k=0 then(0,8)
 else if a.k=1/\b.k=1 then(if isV c a.n b.n then(o,0)else(0,0))
 else if(c≠15/\c≠16)\/r=true\/n≠0 then(0,1)
 else if c=16 then(o,0)else(0,0)
section
variable {c ak an ac bk bn bc o n:Int} {r:Bool}
theorem askF_a(h:ak=0):askF c ⟨ak,an,ac⟩ ⟨bk,bn,bc⟩ r o n=(0,8):=if_pos (Or.inl h)
theorem askF_b(h:bk=0):askF c ⟨ak,an,ac⟩ ⟨bk,bn,bc⟩ r o n=(0,8):=if_pos (Or.inr h)
theorem q72(ha:ak=1)(hb:bk=1)(h:isV c an bn=true):askF c ⟨ak,an,ac⟩ ⟨bk,bn,bc⟩ r o n=(o,0):=by
 unfold askF;rw[if_neg (by show¬(ak=0\/bk=0);omega),if_pos ⟨ha,hb⟩];exact if_pos h
theorem q3j(ha:ak=1)(hb:bk=1)(h:isV c an bn=false):askF c ⟨ak,an,ac⟩ ⟨bk,bn,bc⟩ r o n=(0,0):=by
 unfold askF;rw[if_neg (by show¬(ak=0\/bk=0);omega),if_pos ⟨ha,hb⟩];exact if_neg (by rw[h];decide)
theorem z52(ha: ¬ak=0)(hb: ¬bk=0)(h: ¬(ak=1/\bk=1))(h2:(c≠15/\c≠16)\/r=true\/n≠0):askF c ⟨ak,an,ac⟩ ⟨bk,bn,bc⟩ r o n=(0,1):=by
 unfold askF;rw[if_neg (by show¬(ak=0\/bk=0);omega),if_neg h,if_pos h2]
theorem q03(ha: ¬ak=0)(hb: ¬bk=0)(h: ¬(ak=1/\bk=1))(hc:c=16)(hn:n=0):askF c ⟨ak,an,ac⟩ ⟨bk,bn,bc⟩ false o n=(o,0):=by
 unfold askF;rw[if_neg (by show¬(ak=0\/bk=0);omega),if_neg h,if_neg (by simp[hc,hn]),if_pos hc]
theorem q04(ha: ¬ak=0)(hb: ¬bk=0)(h: ¬(ak=1/\bk=1))(hc:c=15)(hn:n=0):askF c ⟨ak,an,ac⟩ ⟨bk,bn,bc⟩ false o n=(0,0):=by
 unfold askF;rw[if_neg (by show¬(ak=0\/bk=0);omega),if_neg h,if_neg (by simp[hc,hn]),if_neg kO]
end
structure Abs where
 reg:Nat->Val
 slot:Nat->Val
 word:Nat->Int
 cel:Nat->Int
 time:Int
 out:List Int
def z7t:Val:=⟨0,0,0⟩
def Abs.putReg(a:Abs)(d:Nat)(x:Val):Abs:={a with reg:=fun i=>if i=d then x else a.reg i}
def Abs.putSlot(a:Abs)(t:Nat)(x:Val):Abs:={a with slot:=fun i=>if i=t then x else a.slot i}
def Abs.putCel(a:Abs)(t:Nat)(n:Int):Abs:={a with cel:=fun i=>if i=t then n else a.cel i}
def Abs.second(a:Abs)(s:Nat)(r:Bool)(n:Int):Val:=if r then a.reg s else numF n
def Abs.lose(a:Abs):Abs:={a with reg:=fun i=>if 1<=i/\i<=5 then z7t else a.reg i}
def Abs.give(a:Abs)(n:Int):Abs:={a with out:=if a.out.length<50 then a.out++[n]else a.out}
def Abs.at(a:Abs)(p:Val)(t:Nat):Val:=if p.k=2 then numF (a.word t)else if p.k=3 then a.slot t else numF (a.cel (p.c.toNat*4+t))
def z5s(a:Abs)(d:Nat)(p:Val)(o:Int):Int×Abs:=
 if(z1e p o).2≠0 then((z1e p o).2,a)
 else if(a.at p (z1e p o).1.toNat).k=0 then(8,a)
 else(0,a.putReg d (a.at p (z1e p o).1.toNat))
def z4b(a:Abs)(p v:Val)(o:Int):Int×Abs:=
 if(z1e p o).2≠0 then((z1e p o).2,a)
 else if p.k=2 then(6,a)
 else if v.k=0 then(8,a)
 else if p.k=3 then(0,a.putSlot (z1e p o).1.toNat v)
 else if v.k≠1 then(1,a)
 else(0,a.putCel (p.c.toNat*4+(z1e p o).1.toNat) v.n)
def z8w(a:Abs)(what:Int):Int×Abs:=
 if what≠2/\z3a (a.reg 1)≠0 then(z3a (a.reg 1),a)
 else if what=1 then(0,a.lose.putReg 0 (zEg (a.reg 1).n))
 else if what=2 then(0,a.lose.putReg 0 (numF a.time))
 else(0,(a.lose.give (a.reg 1).n).putReg 0 (numF 0))
def doF(c d s:Int)(r:Bool)(o n:Int)(a:Abs):Int×Int×Abs:=
 if 15<=c/\c<=24 then((askF c (a.reg d.toNat) (a.second s.toNat r n) r o n).1,(askF c (a.reg d.toNat) (a.second s.toNat r n) r o n).2,a)
 else if c=14 then(o,0,a)
 else if c=25 then(0,z5s a d.toNat (a.reg s.toNat) o)
 else if c=26 then(0,z4b a (a.reg d.toNat) (a.second s.toNat r n) o)
 else if c=27 then(0,z8w a n)
 else(0,(z3s c (a.reg d.toNat) (a.second s.toNat r n)).2,a.putReg d.toNat (z3s c (a.reg d.toNat) (a.second s.toNat r n)).1)
abbrev End:Type:=(Int×Nat)⊕(Int×Nat×Abs)
abbrev End.bad(e:Int)(q:Nat):End:=Sum.inl (e,q)
abbrev End.fine(n:Int)(k:Nat)(a:Abs):End:=Sum.inr (n,k,a)
def runN(C D S:Nat->Int)(R:Nat->Bool)(O N:Nat->Int)(len:Nat):Nat->Nat->Nat->Abs->End
 |0,_,_,_=>End.bad 0 0
 |f+1,pc,k,a=>
  if pc<len then
   if C pc=28 then(if z3a (a.reg 0)=0 then End.fine (a.reg 0).n (k+1) a else End.bad (z3a (a.reg 0)) pc)
   else if(doF (C pc) (D pc) (S pc) (R pc) (O pc) (N pc) a).2.1≠0 then End.bad (doF (C pc) (D pc) (S pc) (R pc) (O pc) (N pc) a).2.1 pc
   else runN C D S R O N len f (pc+1+(doF (C pc) (D pc) (S pc) (R pc) (O pc) (N pc) a).1.toNat) (k+1) (doF (C pc) (D pc) (S pc) (R pc) (O pc) (N pc) a).2.2
  else End.bad 0 0
def runF(C D S:Nat->Int)(R:Nat->Bool)(O N:Nat->Int)(len pc k:Nat)(a:Abs):End:=runN C D S R O N len (len-pc) pc k a
theorem z5p(C D S:Nat->Int)(R:Nat->Bool)(O N:Nat->Int)(len f pc k:Nat)(a:Abs):runN C D S R O N len (f+1) pc k a=if pc<len then
   if C pc=28 then(if z3a (a.reg 0)=0 then End.fine (a.reg 0).n (k+1) a else End.bad (z3a (a.reg 0)) pc)
   else if(doF (C pc) (D pc) (S pc) (R pc) (O pc) (N pc) a).2.1≠0 then End.bad (doF (C pc) (D pc) (S pc) (R pc) (O pc) (N pc) a).2.1 pc
   else runN C D S R O N len f (pc+1+(doF (C pc) (D pc) (S pc) (R pc) (O pc) (N pc) a).1.toNat) (k+1) (doF (C pc) (D pc) (S pc) (R pc) (O pc) (N pc) a).2.2
  else End.bad 0 0:=rfl
theorem zW8(C D S:Nat->Int)(R:Nat->Bool)(O N:Nat->Int)(len:Nat): ∀(f g pc k:Nat)(a:Abs),len<=pc+f->len<=pc+g->runN C D S R O N len f pc k a=runN C D S R O N len g pc k a:=by
 intro f;induction f with
 |zero=>
  intro g pc k a h1 _
  cases g with
  |zero=>rfl
  |succ g=>rw[z5p,if_neg kO];rfl
 |succ f ih=>
  intro g pc k a h1 h2
  cases g with
  |zero=>rw[z5p,if_neg kO];rfl
  |succ g=>
   rw[z5p,z5p,ih g _ _ _ kO kO]
theorem zAu(C D S:Nat->Int)(R:Nat->Bool)(O N:Nat->Int)(len pc k:Nat)(a:Abs):runF C D S R O N len pc k a=if pc<len then
   if C pc=28 then(if z3a (a.reg 0)=0 then End.fine (a.reg 0).n (k+1) a else End.bad (z3a (a.reg 0)) pc)
   else if(doF (C pc) (D pc) (S pc) (R pc) (O pc) (N pc) a).2.1≠0 then End.bad (doF (C pc) (D pc) (S pc) (R pc) (O pc) (N pc) a).2.1 pc
   else runF C D S R O N len (pc+1+(doF (C pc) (D pc) (S pc) (R pc) (O pc) (N pc) a).1.toNat) (k+1) (doF (C pc) (D pc) (S pc) (R pc) (O pc) (N pc) a).2.2
  else End.bad 0 0:=by
 by_cases h:pc<len
 ·obtain⟨f,hf⟩: ∃f,len-pc=f+1:=⟨len-pc-1,by omega⟩
  show runN C D S R O N len (len-pc) pc k a=_;rw[hf,z5p,zW8 C D S R O N len f (len-(pc+1+(doF (C pc) (D pc) (S pc) (R pc) (O pc) (N pc) a).1.toNat)) _ _ _ kO kO];rfl
 show runN C D S R O N len (len-pc) pc k a=_;rw[if_neg h,show len-pc=0 by omega];rfl
section
variable {C D S O N:Nat->Int} {R:Nat->Bool} {len pc k:Nat} {a:Abs}
theorem zKb(h:pc<len)(hc:C pc=28)(hw:z3a (a.reg 0)=0):runF C D S R O N len pc k a= .fine (a.reg 0).n (k+1) a:=by
 rw[zAu,if_pos h,if_pos hc,if_pos hw]
theorem z9k(h:pc<len)(hc:C pc=28)(hw:z3a (a.reg 0)≠0):runF C D S R O N len pc k a= .bad (z3a (a.reg 0)) pc:=by
 rw[zAu,if_pos h,if_pos hc,if_neg hw]
theorem zQ0(h:pc<len)(hc:C pc≠28)(hw:(doF (C pc) (D pc) (S pc) (R pc) (O pc) (N pc) a).2.1≠0):runF C D S R O N len pc k a= .bad (doF (C pc) (D pc) (S pc) (R pc) (O pc) (N pc) a).2.1 pc:=by
 rw[zAu,if_pos h,if_neg hc,if_pos hw]
theorem zW9(h:pc<len)(hc:C pc≠28)(hw:(doF (C pc) (D pc) (S pc) (R pc) (O pc) (N pc) a).2.1=0):
  runF C D S R O N len pc k a=runF C D S R O N len (pc+1+(doF (C pc) (D pc) (S pc) (R pc) (O pc) (N pc) a).1.toNat) (k+1) (doF (C pc) (D pc) (S pc) (R pc) (O pc) (N pc) a).2.2:=by
 rw[zAu,if_pos h,if_neg hc,if_neg (by rw[hw];decide)]
end
def In64(n:Int):Prop:= -9223372036854775808<=n/\n<=9223372036854775807
structure Val.Ok (x:Val):Prop where
 k0:0<=x.k
 k4:x.k<=4
 n:In64 x.n
 c0:0<=x.c
 c3:x.c<=3
structure Abs.Ok (a:Abs):Prop where
 reg: ∀i,i<11->(a.reg i).Ok
 slot: ∀i,i<16->(a.slot i).Ok
 word: ∀i,i<8->In64 (a.word i)
 cel: ∀i,i<16->In64 (a.cel i)
 time:In64 a.time
 out: ∀x,x∈a.out->In64 x
 room:a.out.length<=50
theorem z9s:z7t.Ok:=⟨by decide,by decide,⟨by decide,by decide⟩,by decide,by decide⟩
theorem zGg{n:Int}(h:In64 n):(numF n).Ok:=⟨show(0:Int)<=1 by decide,show(1:Int)<=4 by decide,h,show(0:Int)<=0 by decide,show(0:Int)<=3 by decide⟩
theorem Abs.Ok.putReg{a:Abs}(h:a.Ok)(d:Nat){x:Val}(hx:x.Ok):(a.putReg d x).Ok:=
 ⟨fun i hi=>by show(if i=d then x else a.reg i).Ok;split;exact hx;exact h.reg i hi,h.slot,h.word,h.cel,h.time,h.out,h.room⟩
theorem Abs.Ok.putSlot{a:Abs}(h:a.Ok)(d:Nat){x:Val}(hx:x.Ok):(a.putSlot d x).Ok:=
 ⟨h.reg,fun i hi=>by show(if i=d then x else a.slot i).Ok;split;exact hx;exact h.slot i hi,h.word,h.cel,h.time,h.out,h.room⟩
theorem Abs.Ok.putCel{a:Abs}(h:a.Ok)(d:Nat){n:Int}(hx:In64 n):(a.putCel d n).Ok:=
 ⟨h.reg,h.slot,h.word,fun i hi=>by show In64 (if i=d then n else a.cel i);split;exact hx;exact h.cel i hi,h.time,h.out,h.room⟩
theorem Abs.Ok.lose{a:Abs}(h:a.Ok):a.lose.Ok:=
 ⟨fun i hi=>by show(if 1<=i/\i<=5 then z7t else a.reg i).Ok;split;exact z9s;exact h.reg i hi,h.slot,h.word,h.cel,h.time,h.out,h.room⟩
theorem Abs.Ok.give{a:Abs}(h:a.Ok){n:Int}(hn:In64 n):(a.give n).Ok:=by
 refine⟨h.reg,h.slot,h.word,h.cel,h.time,?_,?_⟩
 ·intro x hx
  change x∈(if a.out.length<50 then a.out++[n]else a.out)at hx
  split at hx
  ·rcases List.mem_append.1 hx with hx|hx
   ·exact h.out x hx
   ·rw[List.mem_singleton.1 hx];exact hn
  ·exact h.out x hx
 show(if a.out.length<50 then a.out++[n]else a.out).length<=50;split
 ·rw[List.length_append];show a.out.length+1<=50;omega
 exact h.room
theorem Abs.Ok.second{a:Abs}(h:a.Ok){s:Nat}(hs:s<11)(r:Bool){n:Int}(hn:In64 n):(a.second s r n).Ok:=by
 unfold Abs.second;split;exact h.reg s hs;exact zGg hn
theorem zQ4{p:Val}{o:Int}(h:(z1e p o).2=0):2<=p.k\/p.k<0:=by
 unfold z1e at h
 by_cases h0:p.k=0
 ·rw[if_pos h0]at h;exact absurd h kD
 by_cases h1:p.k=1
 ·rw[if_neg h0,if_pos h1]at h;exact absurd h kD
 omega
theorem zIa{p:Val}{o:Int}(h:(z1e p o).2=0):0<=(z1e p o).1/\(z1e p o).1<z3u p:=by
 unfold z1e at h⊢
 by_cases h0:p.k=0
 ·rw[if_pos h0]at h;exact absurd h kD
 by_cases h1:p.k=1
 ·rw[if_neg h0,if_pos h1]at h;exact absurd h kD
 rw[if_neg h0,if_neg h1]at h⊢
 by_cases h2:z68 p o<0\/z3u p<=z68 p o
 ·rw[if_pos h2]at h;exact absurd h kD
 rw[if_neg h2];show 0<=z68 p o/\z68 p o<z3u p;omega
theorem Abs.Ok.at{a:Abs}(h:a.Ok){p:Val}(hp:p.Ok){o:Int}(hr:(z1e p o).2=0):(a.at p (z1e p o).1.toNat).Ok:=by
 have hb:=zIa hr;unfold z3u at hb;unfold Abs.at
 by_cases h2:p.k=2
 ·rw[if_pos h2]at hb⊢;exact zGg (h.word _ kO)
 rw[if_neg h2]at hb⊢
 by_cases h3:p.k=3
 ·rw[if_pos h3]at hb⊢;exact h.slot _ kO
 rw[if_neg h3]at hb⊢;have:=hp.c0;have:=hp.c3;exact zGg (h.cel _ kO)
theorem q1x{a:Abs}(h:a.Ok)(d:Nat){p:Val}(hp:p.Ok)(o:Int):(z5s a d p o).2.Ok:=by
 unfold z5s
 by_cases hr:(z1e p o).2=0
 ·rw[if_neg (by simp[hr])]
  split
  ·exact h
  ·exact h.putReg d (h.at hp hr)
 rw[if_pos hr];exact h
theorem zVp{a:Abs}(h:a.Ok)(p:Val){v:Val}(hv:v.Ok)(o:Int):(z4b a p v o).2.Ok:=by
 unfold z4b;split
 ·exact h
 split
 ·exact h
 split
 ·exact h
 split
 ·exact h.putSlot _ hv
 split
 ·exact h
 exact h.putCel _ hv.n
theorem q2m{n:Int}:(zEg n).Ok:=by
 unfold zEg;split
 ·exact zGg ⟨by decide,by decide⟩
 exact⟨show(0:Int)<=4 by decide,show(4:Int)<=4 by decide,(⟨by decide,by decide⟩:In64 0),by show 0<=n;omega,by show n<=3;omega⟩
theorem q38{a:Abs}(h:a.Ok)(what:Int):(z8w a what).2.Ok:=by
 unfold z8w;split
 ·exact h
 split
 ·exact h.lose.putReg 0 q2m
 split
 ·exact h.lose.putReg 0 (zGg h.time)
 exact(h.lose.give (h.reg 1 kD).n).putReg 0 (zGg ⟨by decide,by decide⟩)
theorem zXd{c:Int}(hc:1<=c/\c<=13){a b:Val}(ha:a.Ok)(hb:b.Ok):(z3s c a b).1.Ok:=by
 have hd:=zJ2 hc ha.n.1 ha.n.2 hb.n.1 hb.n.2;unfold z3s;split
 ·exact z9s
 split
 ·exact hb
 split
 ·exact⟨ha.k0,ha.k4,hd,ha.c0,ha.c3⟩
 split
 ·exact⟨hb.k0,hb.k4,hd,hb.c0,hb.c3⟩
 exact z9s
theorem q4e{c d s:Int}{r:Bool}{o n:Int}{a:Abs}(h:a.Ok)(c1:1<=c)(c2:c<=28)(hc:c≠28)(d1:0<=d)(d2:d<=10)(s1:0<=s)(s2:s<=10)(hn:In64 n):(doF c d s r o n a).2.2.Ok:=by
 have hd:d.toNat<11:=kO;have hs:s.toNat<11:=kO;unfold doF
 by_cases h1:15<=c/\c<=24
 ·rw[if_pos h1];exact h
 rw[if_neg h1]
 by_cases h2:c=14
 ·rw[if_pos h2];exact h
 rw[if_neg h2]
 by_cases h3:c=25
 ·rw[if_pos h3];exact q1x h _ (h.reg _ hs) o
 rw[if_neg h3]
 by_cases h4:c=26
 ·rw[if_pos h4];exact zVp h _ (h.second hs r hn) o
 rw[if_neg h4]
 by_cases h5:c=27
 ·rw[if_pos h5];exact q38 h n
 rw[if_neg h5];exact h.putReg _ (zXd kO (h.reg _ hd) (h.second hs r hn))
end
section
open Go.ChangeShapes Go.WideShapes Go.ChangeAt Go.RowKit
theorem z0b.alloc{w:World}{B:Nat}{m:Mac}(h:z0b w B m)(o:Obj):z0b (w.alloc o) B m:=h.later ((bF _ _).alloc (Nat.le_refl _) _)
theorem z0b.drew{w:World}{B:Nat}{m:Mac}(h:z0b w B m):z0b w.drew B m:=h
theorem z0b.off{w:World}{B:Nat}{m:Mac}(h:z0b w B m)(a:Addr)(v:Value)(hne:B≠a.block):z0b (w.setCell a v) B m:=(Below.heap_setCell w a v B hne).trans h
theorem z0b.put3{w:World}{B d:Nat}{m:Mac}(h:z0b w B m)(hd:d<11)(k n c:Int):z0b (((w.setCell ⟨B,2+d*3,none⟩ (A E k)).setCell ⟨B,2+d*3+1,none⟩ (A E n)).setCell ⟨B,2+d*3+2,none⟩ (A E c)) B (m.putReg d ⟨k,n,c⟩):=h.putReg hd ⟨k,n,c⟩
theorem z8m{W w1:World}(h:Below W.drew.heap.size W.drew w1):Below W.heap.size W w1:=((bF _ _).drew).trans h
theorem z1b(B:Nat)(w:World):Kept B w w:=⟨rfl,rfl,rfl,Nat.le_refl _,fun _ _ _=>rfl⟩
theorem z1l{w w1:World}{B:Nat}(h:Kept B w w1)(o:Obj):Kept B w (w1.alloc o):=z18 h (z0d ((bF _ _).alloc (Nat.le_refl _) _) B)
theorem z4h{w w1:World}{B:Nat}(h:Kept B w w1)(a:Addr)(v:Value)(ha:w.heap.size<=a.block):Kept B w (w1.setCell a v):=
 ⟨h.os,h.tape,h.output,by show w.heap.size<=(w1.heap.modify _ _).size;rw[Array.size_modify];exact h.size,fun k hk hne=>(Below.heap_setCell w1 a v k kO).trans (h.block k hk hne)⟩
theorem kK{B:Nat}{w w1:World}(h:Kept B w w1:=by repeat' first|with_reducible assumption|with_reducible(first|refine z7w ?_|refine z13 ?_ _ _|refine z4h ?_ _ _ ?_|refine z1l ?_ _)|((try dsimp only);omega)|(simp;done)|(simp;omega)):Kept B w w1:=h
theorem z1h{w w1 w2:World}{B:Nat}(h:Kept B w w1)(hb:Below w1.heap.size w1 w2):Kept B w w2:=z18 h (z0d hb B)
theorem z3h{w w1:World}{B:Nat}(h:Kept B w w1)(hB:B<w.heap.size):Below B w w1:=
 ⟨h.os,h.tape,h.output,h.size,fun k hk=>h.block k kO (fun e=>by injection e with e;omega)⟩
def z1t(w:World)(B:Nat)(v:Value)(L:List Int):Prop:=w.ownsRow (B+1) 2 1 v L.length (L.map (Value.int .i64))
theorem z1t.kept{w w1:World}{B:Nat}{v:Value}{L:List Int}(h:z1t w B v L)(hk:Kept B w w1):z1t w1 B v L:=by
 obtain⟨h1,h2⟩:=h;refine⟨h1,?_⟩;rcases h2 with h2|⟨g,cap,cur,hv,hg,hh,r⟩
 ·exact Or.inl h2
 exact Or.inr ⟨g,cap,cur,hv,hg,by rw[hk.block g (Array.getElem?_eq_some_iff.1 hh).1 (fun e=>by injection e with e;omega)];exact hh,r⟩
def Mac.abs(m:Mac)(L:List Int):Abs:=⟨m.reg,m.slot,m.word,m.cel,m.time,L⟩
theorem Mac.cell_word(m:Mac)(i:Nat)(h:i<8):m.cell (83+i)=A E (m.word i):=by
 unfold Mac.cell;rw[if_neg kO,if_neg kO,if_neg kO,if_neg kO,if_pos kO,show 83+i-83=i by omega]
theorem Mac.cell_cel(m:Mac)(i:Nat)(h:i<16):m.cell (91+i)=A E (m.cel i):=by
 unfold Mac.cell;rw[if_neg kO,if_neg kO,if_neg kO,if_neg kO,if_neg kO,if_pos kO,show 91+i-91=i by omega]
def Mac.putSlot(m:Mac)(t:Nat)(x:Val):Mac:={m with slot:=fun i=>if i=t then x else m.slot i}
def Mac.putCel(m:Mac)(t:Nat)(n:Int):Mac:={m with cel:=fun i=>if i=t then n else m.cel i}
def Mac.setOut(m:Mac)(v:Value):Mac:={m with out:=v}
def Mac.setStep(m:Mac)(x:Int):Mac:={m with step:=x}
def Mac.setSteps(m:Mac)(x:Int):Mac:={m with steps:=x}
theorem Mac.cell_putSlot(m:Mac)(d:Nat)(hd:d<16)(y:Val)(j:Nat):(m.putSlot d y).cell j=if 35+d*3<=j/\j<35+d*3+3 then z3m y (j-(35+d*3))else m.cell j:=by
 by_cases h:35+d*3<=j/\j<35+d*3+3
 ·rw[if_pos h]
  unfold Mac.cell;rw[if_neg kO,if_neg kO,if_neg kO,if_pos kO,show(j-35)/3=d by omega,show(j-35)%3=j-(35+d*3)by omega];show z3m (if d=d then y else m.slot d) _=_;rw[if_pos rfl]
 rw[if_neg h]
 by_cases h35:35<=j/\j<83
 ·unfold Mac.cell
  rw[if_neg (show¬j=0 by omega),if_neg (show¬j=1 by omega),if_neg (show¬j<35 by omega),if_pos h35.2,if_neg (show¬j=0 by omega),if_neg (show¬j=1 by omega),if_neg (show¬j<35 by omega),if_pos h35.2];show z3m (if(j-35)/3=d then y else m.slot ((j-35)/3)) _=_;rw[if_neg kO]
 by_cases h2:j<35
 ·unfold Mac.cell
  by_cases h0:j=0
  ·rw[if_pos h0,if_pos h0];rfl
  by_cases h1:j=1
  ·rw[if_neg h0,if_pos h1,if_neg h0,if_pos h1];rfl
  rw[if_neg h0,if_neg h1,if_pos h2,if_neg h0,if_neg h1,if_pos h2];rfl
 unfold Mac.cell;rw[if_neg (show¬j=0 by omega),if_neg (show¬j=1 by omega),if_neg (show¬j<35 by omega),if_neg (show¬j<83 by omega),if_neg (show¬j=0 by omega),if_neg (show¬j=1 by omega),if_neg (show¬j<35 by omega),if_neg (show¬j<83 by omega)];rfl
theorem Mac.cell_putCel(m:Mac)(d:Nat)(hd:d<16)(y:Int)(j:Nat):(m.putCel d y).cell j=if j=91+d then A E y else m.cell j:=by
 by_cases h:j=91+d
 ·rw[if_pos h]
  unfold Mac.cell;rw[if_neg kO,if_neg kO,if_neg kO,if_neg kO,if_neg kO,if_pos kO,show j-91=d by omega];show Value.int .i64 (if d=d then y else m.cel d)=_;rw[if_pos rfl]
 rw[if_neg h]
 by_cases h91:91<=j/\j<107
 ·unfold Mac.cell
  rw[if_neg (show¬j=0 by omega),if_neg (show¬j=1 by omega),if_neg (show¬j<35 by omega),if_neg (show¬j<83 by omega),if_neg (show¬j<91 by omega),if_pos h91.2,if_neg (show¬j=0 by omega),if_neg (show¬j=1 by omega),if_neg (show¬j<35 by omega),if_neg (show¬j<83 by omega),if_neg (show¬j<91 by omega),if_pos h91.2];show Value.int .i64 (if j-91=d then y else m.cel (j-91))=_;rw[if_neg kO]
 unfold Mac.cell
 by_cases h0:j=0
 ·rw[if_pos h0,if_pos h0];rfl
 by_cases h1:j=1
 ·rw[if_neg h0,if_pos h1,if_neg h0,if_pos h1];rfl
 by_cases h2:j<35
 ·rw[if_neg h0,if_neg h1,if_pos h2,if_neg h0,if_neg h1,if_pos h2];rfl
 by_cases h3:j<83
 ·rw[if_neg h0,if_neg h1,if_neg h2,if_pos h3,if_neg h0,if_neg h1,if_neg h2,if_pos h3];rfl
 by_cases h4:j<91
 ·rw[if_neg h0,if_neg h1,if_neg h2,if_neg h3,if_pos h4,if_neg h0,if_neg h1,if_neg h2,if_neg h3,if_pos h4];rfl
 rw[if_neg h0,if_neg h1,if_neg h2,if_neg h3,if_neg h4,if_neg (show¬j<107 by omega),if_neg h0,if_neg h1,if_neg h2,if_neg h3,if_neg h4,if_neg (show¬j<107 by omega)];rfl
theorem zD2(m:Mac)(d:Nat)(hd:d<16)(y z:Val)(i:Nat)(hi:i<3)(h: ∀j,j<3->z3m z j=if j=i then z3m z i else z3m y j): ∀j,j<109->(m.putSlot d z).cell j=if j=35+d*3+i then z3m z i else(m.putSlot d y).cell j:=by
 intro j _;rw[m.cell_putSlot d hd z j,m.cell_putSlot d hd y j]
 by_cases hin:35+d*3<=j/\j<35+d*3+3
 ·rw[if_pos hin,if_pos hin,h _ kO]
  by_cases e:j=35+d*3+i
  ·rw[if_pos e,if_pos kO]
  ·rw[if_neg e,if_neg kO]
 rw[if_neg hin,if_neg hin,if_neg kO]
theorem zW0(m:Mac)(d:Nat):m.putSlot d (m.slot d)=m:=by
 unfold Mac.putSlot
 have:(fun i=>if i=d then m.slot d else m.slot i)=m.slot:=by
  funext i
  by_cases h:i=d
  ·rw[if_pos h,h]
  ·rw[if_neg h]
 rw[this]
theorem z0b.slot3{w:World}{B d:Nat}{m:Mac}(h:z0b w B m)(hd:d<16)(k n c:Int):z0b (((w.setCell ⟨B,35+d*3,none⟩ (A E k)).setCell ⟨B,35+d*3+1,none⟩ (A E n)).setCell ⟨B,35+d*3+2,none⟩ (A E c)) B (m.putSlot d ⟨k,n,c⟩):=by
 have h1:z0b (w.setCell ⟨B,35+d*3,none⟩ (A E k)) B (m.putSlot d ⟨k,(m.slot d).n,(m.slot d).c⟩):=h.set _ kO _ fun j hj=>by
  have:=zD2 m d hd (m.slot d) ⟨k,(m.slot d).n,(m.slot d).c⟩ 0 kO (fun j hj=>by rcases(show j=0\/j=1\/j=2 by omega)with rfl|rfl|rfl<;>rfl) j hj;rw[this,zW0 m d];rfl
 have h2:z0b ((w.setCell ⟨B,35+d*3,none⟩ (A E k)).setCell ⟨B,35+d*3+1,none⟩ (A E n)) B (m.putSlot d ⟨k,n,(m.slot d).c⟩):=h1.set _ kO _ fun j hj=>
  zD2 m d hd ⟨k,(m.slot d).n,(m.slot d).c⟩ ⟨k,n,(m.slot d).c⟩ 1 kO (fun j hj=>by rcases(show j=0\/j=1\/j=2 by omega)with rfl|rfl|rfl<;>rfl) j hj
 exact h2.set _ kO _ fun j hj=>
  zD2 m d hd ⟨k,n,(m.slot d).c⟩ ⟨k,n,c⟩ 2 kO (fun j hj=>by rcases(show j=0\/j=1\/j=2 by omega)with rfl|rfl|rfl<;>rfl) j hj
theorem z0b.cel1{w:World}{B d:Nat}{m:Mac}(h:z0b w B m)(hd:d<16)(n:Int):z0b (w.setCell ⟨B,91+d,none⟩ (A E n)) B (m.putCel d n):=
 h.set _ kO _ fun j _=>m.cell_putCel d hd n j
theorem z0b.slot{w:World}{B d:Nat}{m:Mac}(h:z0b w B m)(hd:d<16):w.cell? ⟨B,35+d*3,none⟩=some (A E (m.slot d).k)/\w.cell? ⟨B,35+d*3+1,none⟩=some (A E (m.slot d).n)/\w.cell? ⟨B,35+d*3+2,none⟩=some (A E (m.slot d).c):=
 ⟨by rw[h.at _ kO,(m.cell_slot d hd).1],by rw[h.at _ kO,(m.cell_slot d hd).2.1],by rw[h.at _ kO,(m.cell_slot d hd).2.2]⟩
theorem z0b.word{w:World}{B d:Nat}{m:Mac}(h:z0b w B m)(hd:d<8):w.cell? ⟨B,83+d,none⟩=some (A E (m.word d)):=by rw[h.at _ kO,m.cell_word d hd]
theorem z0b.cel{w:World}{B d:Nat}{m:Mac}(h:z0b w B m)(hd:d<16):w.cell? ⟨B,91+d,none⟩=some (A E (m.cel d)):=by rw[h.at _ kO,m.cell_cel d hd]
theorem z0b.step{w:World}{B:Nat}{m:Mac}(h:z0b w B m):w.cell? ⟨B,0,none⟩=some (A E m.step):=h.at 0 kO
theorem z0b.steps{w:World}{B:Nat}{m:Mac}(h:z0b w B m):w.cell? ⟨B,1,none⟩=some (A E m.steps):=h.at 1 kO
theorem z0b.time{w:World}{B:Nat}{m:Mac}(h:z0b w B m):w.cell? ⟨B,107,none⟩=some (A E m.time):=h.at 107 kO
theorem z0b.outv{w:World}{B:Nat}{m:Mac}(h:z0b w B m):w.cell? ⟨B,108,none⟩=some m.out:=h.at 108 kO
theorem z0b.putOut{w:World}{B:Nat}{m:Mac}(h:z0b w B m)(v:Value):z0b (w.setCell ⟨B,108,none⟩ v) B (m.setOut v):=
 h.set 108 kO v fun j hj=>by
  by_cases e:j=108
  ·rw[if_pos e,e];rfl
  ·rw[if_neg e]
   unfold Mac.cell
   by_cases h0:j=0
   ·rw[if_pos h0,if_pos h0];rfl
   by_cases h1:j=1
   ·rw[if_neg h0,if_pos h1,if_neg h0,if_pos h1];rfl
   by_cases h2:j<35
   ·rw[if_neg h0,if_neg h1,if_pos h2,if_neg h0,if_neg h1,if_pos h2];rfl
   by_cases h3:j<83
   ·rw[if_neg h0,if_neg h1,if_neg h2,if_pos h3,if_neg h0,if_neg h1,if_neg h2,if_pos h3];rfl
   by_cases h4:j<91
   ·rw[if_neg h0,if_neg h1,if_neg h2,if_neg h3,if_pos h4,if_neg h0,if_neg h1,if_neg h2,if_neg h3,if_pos h4];rfl
   by_cases h5:j<107
   ·rw[if_neg h0,if_neg h1,if_neg h2,if_neg h3,if_neg h4,if_pos h5,if_neg h0,if_neg h1,if_neg h2,if_neg h3,if_neg h4,if_pos h5];rfl
   rw[if_neg h0,if_neg h1,if_neg h2,if_neg h3,if_neg h4,if_neg h5,if_pos kO,if_neg h0,if_neg h1,if_neg h2,if_neg h3,if_neg h4,if_neg h5,if_pos kO];rfl
theorem z0b.putStep{w:World}{B:Nat}{m:Mac}(h:z0b w B m)(x:Int):z0b (w.setCell ⟨B,0,none⟩ (A E x)) B (m.setStep x):=
 h.set 0 kO _ fun j hj=>by
  by_cases e:j=0
  ·rw[if_pos e,e];rfl
  ·rw[if_neg e];unfold Mac.cell;rw[if_neg e,if_neg e];rfl
theorem z0b.putSteps{w:World}{B:Nat}{m:Mac}(h:z0b w B m)(x:Int):z0b (w.setCell ⟨B,1,none⟩ (A E x)) B (m.setSteps x):=
 h.set 1 kO _ fun j hj=>by
  by_cases e:j=1
  ·rw[if_pos e,e];rfl
  ·rw[if_neg e];unfold Mac.cell
   by_cases h0:j=0
   ·rw[if_pos h0,if_pos h0];rfl
   ·rw[if_neg h0,if_neg e,if_neg h0,if_neg e];rfl
end
end Go.Proofs.YtkdflpplamebkaaGreatDoor
