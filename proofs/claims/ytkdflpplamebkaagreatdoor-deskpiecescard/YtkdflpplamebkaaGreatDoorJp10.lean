/-
A part of the proof of DeskPieces; its card says what is proved.
-/
import Derived.Test.YtkdflpplamebkaaGreatDoorJp9
import Derived.Deep.RegionHeld3
set_option maxHeartbeats 40000000
open Go.Value renaming int → A
open Go.IntKind renaming i64 → C
open Go.RowKit.Below renaming alloc → bA, setCell → bS, drew → bD, refl → bF
set_option maxRecDepth 1000000
set_option linter.defProp false
set_option linter.unusedVariables false
set_option linter.unusedSimpArgs false
open Go.Ending renaming returned → rT
open Go.Value renaming pointer → pT
open Go.Obj renaming cells → cT
open Go.Proofs.Tryz renaming prog → tP
namespace Go.Proofs.YtkdflpplamebkaaGreatDoor
section
open Go.ChangeShapes Go.WideShapes Go.ChangeAt Go.RowKit
structure Mac where
 step:Int
 steps:Int
 reg:Nat->Val
 slot:Nat->Val
 word:Nat->Int
 cel:Nat->Int
 time:Int
 out:Value
def z3m(x:Val)(j:Nat):Value:=if j=0 then A C x.k else if j=1 then A C x.n else A C x.c
def Mac.cell(m:Mac)(i:Nat):Value:=
 if i=0 then A C m.step else if i=1 then A C m.steps
 else if i<35 then z3m (m.reg ((i-2)/3)) ((i-2)%3)
 else if i<83 then z3m (m.slot ((i-35)/3)) ((i-35)%3)
 else if i<91 then A C (m.word (i-83))
 else if i<107 then A C (m.cel (i-91))
 else if i=107 then A C m.time else m.out
def z0b(w:World)(B:Nat)(m:Mac):Prop:=w.heap[B]?=some (cT (Array.ofFn (n:=109) fun i=>m.cell i.1) 172 (0,0))
theorem z0b.lt{w:World}{B:Nat}{m:Mac}(h:z0b w B m):B<w.heap.size:=(Array.getElem?_eq_some_iff.1 h).1
theorem z0b.at{w:World}{B:Nat}{m:Mac}(h:z0b w B m)(i:Nat)(hi:i<109):w.cell? ⟨B,i,none⟩=some (m.cell i):=by
 have h':w.heap[B]?=some (cT (Array.ofFn (n:=109) fun i=>m.cell i.1) 172 (0,0)):=h;simp[World.cell?,h',hi]
theorem z0b.frozen{w:World}{B:Nat}{m:Mac}(h:z0b w B m)(i:Nat):w.frozen? ⟨B,i,none⟩=false:=by
 have h':w.heap[B]?=some (cT (Array.ofFn (n:=109) fun i=>m.cell i.1) 172 (0,0)):=h;simp[World.frozen?,h']
theorem z0b.later{w w1:World}{B:Nat}{m:Mac}(h:z0b w B m)(hb:Below w.heap.size w w1):z0b w1 B m:=(hb.block B h.lt).trans h
theorem z0b.set{w:World}{B:Nat}{m m':Mac}(h:z0b w B m)(i:Nat)(_:i<109)(v:Value)(he: ∀j,j<109->m'.cell j=if j=i then v else m.cell j):z0b (w.setCell ⟨B,i,none⟩ v) B m':=by
 have h':w.heap[B]?=some (cT (Array.ofFn (n:=109) fun i=>m.cell i.1) 172 (0,0)):=h
 have e:(Array.ofFn (n:=109) fun i=>m.cell i.1).setIfInBounds i v=Array.ofFn (n:=109) fun i=>m'.cell i.1:=by
  apply Array.ext
  ·simp
  ·intro j h1 h2
   have h3:j<109:=by simpa using h2
   rw[Array.getElem_setIfInBounds (by simpa using h3),Array.getElem_ofFn,Array.getElem_ofFn];show(if i=j then v else m.cell j)=m'.cell j;rw[he j h3]
   by_cases hj:i=j
   ·rw[if_pos hj,if_pos hj.symm]
   ·rw[if_neg hj,if_neg (fun e=>hj e.symm)]
 unfold z0b;rw[<-e];simp[World.setCell,Array.getElem?_modify,h']
theorem Mac.cell_reg(m:Mac)(d:Nat)(hd:d<11):m.cell (2+d*3)=A C (m.reg d).k/\m.cell (2+d*3+1)=A C (m.reg d).n/\m.cell (2+d*3+2)=A C (m.reg d).c:=by
 refine⟨?_,?_,?_⟩
 ·unfold Mac.cell
  rw[if_neg kO,if_neg kO,if_pos kO,show(2+d*3-2)/3=d by omega,show(2+d*3-2)%3=0 by omega];rfl
 ·unfold Mac.cell
  rw[if_neg kO,if_neg kO,if_pos kO,show(2+d*3+1-2)/3=d by omega,show(2+d*3+1-2)%3=1 by omega];rfl
 unfold Mac.cell;rw[if_neg kO,if_neg kO,if_pos kO,show(2+d*3+2-2)/3=d by omega,show(2+d*3+2-2)%3=2 by omega];rfl
theorem Mac.cell_slot(m:Mac)(d:Nat)(hd:d<16):m.cell (35+d*3)=A C (m.slot d).k/\m.cell (35+d*3+1)=A C (m.slot d).n/\m.cell (35+d*3+2)=A C (m.slot d).c:=by
 refine⟨?_,?_,?_⟩
 ·unfold Mac.cell
  rw[if_neg kO,if_neg kO,if_neg kO,if_pos kO,show(35+d*3-35)/3=d by omega,show(35+d*3-35)%3=0 by omega];rfl
 ·unfold Mac.cell
  rw[if_neg kO,if_neg kO,if_neg kO,if_pos kO,show(35+d*3+1-35)/3=d by omega,show(35+d*3+1-35)%3=1 by omega];rfl
 unfold Mac.cell;rw[if_neg kO,if_neg kO,if_neg kO,if_pos kO,show(35+d*3+2-35)/3=d by omega,show(35+d*3+2-35)%3=2 by omega];rfl
theorem z0b.reg{w:World}{B d:Nat}{m:Mac}(h:z0b w B m)(hd:d<11):w.cell? ⟨B,2+d*3,none⟩=some (A C (m.reg d).k)/\w.cell? ⟨B,2+d*3+1,none⟩=some (A C (m.reg d).n)/\w.cell? ⟨B,2+d*3+2,none⟩=some (A C (m.reg d).c):=
 ⟨by rw[h.at _ kO,(m.cell_reg d hd).1],by rw[h.at _ kO,(m.cell_reg d hd).2.1],by rw[h.at _ kO,(m.cell_reg d hd).2.2]⟩
def Mac.putReg(m:Mac)(d:Nat)(x:Val):Mac:={m with reg:=fun i=>if i=d then x else m.reg i}
theorem Mac.cell_put(m:Mac)(d:Nat)(hd:d<11)(y:Val)(j:Nat):(m.putReg d y).cell j=if 2+d*3<=j/\j<2+d*3+3 then z3m y (j-(2+d*3))else m.cell j:=by
 by_cases h:2+d*3<=j/\j<2+d*3+3
 ·rw[if_pos h]
  unfold Mac.cell;rw[if_neg kO,if_neg kO,if_pos kO,show(j-2)/3=d by omega,show(j-2)%3=j-(2+d*3)by omega];show z3m (if d=d then y else m.reg d) _=_;rw[if_pos rfl]
 rw[if_neg h]
 by_cases h35:2<=j/\j<35
 ·unfold Mac.cell
  rw[if_neg (show¬j=0 by omega),if_neg (show¬j=1 by omega),if_pos h35.2,if_neg (show¬j=0 by omega),if_neg (show¬j=1 by omega),if_pos h35.2];show z3m (if(j-2)/3=d then y else m.reg ((j-2)/3)) _=_;rw[if_neg kO]
 by_cases h2:j<2
 ·rcases(show j=0\/j=1 by omega)with rfl|rfl<;>rfl
 unfold Mac.cell;rw[if_neg (show¬j=0 by omega),if_neg (show¬j=1 by omega),if_neg (show¬j<35 by omega),if_neg (show¬j=0 by omega),if_neg (show¬j=1 by omega),if_neg (show¬j<35 by omega)];rfl
theorem zIb(m:Mac)(d:Nat)(hd:d<11)(y z:Val)(i:Nat)(hi:i<3)(h: ∀j,j<3->z3m z j=if j=i then z3m z i else z3m y j): ∀j,j<109->(m.putReg d z).cell j=if j=2+d*3+i then z3m z i else(m.putReg d y).cell j:=by
 intro j _;rw[m.cell_put d hd z j,m.cell_put d hd y j]
 by_cases hin:2+d*3<=j/\j<2+d*3+3
 ·rw[if_pos hin,if_pos hin,h _ kO]
  by_cases e:j=2+d*3+i
  ·rw[if_pos e,if_pos kO]
  ·rw[if_neg e,if_neg kO]
 rw[if_neg hin,if_neg hin,if_neg kO]
theorem q1h(m:Mac)(d:Nat): ∀j,(m.putReg d (m.reg d)).cell j=m.cell j:=by
 intro j
 have e:m.putReg d (m.reg d)=m:=by
  unfold Mac.putReg
  have:(fun i=>if i=d then m.reg d else m.reg i)=m.reg:=by
   funext i
   by_cases h:i=d
   ·rw[if_pos h,h]
   ·rw[if_neg h]
  rw[this]
 rw[e]
theorem z0b.putReg{w:World}{B d:Nat}{m:Mac}(h:z0b w B m)(hd:d<11)(x:Val):z0b (((w.setCell ⟨B,2+d*3,none⟩ (A C x.k)).setCell ⟨B,2+d*3+1,none⟩ (A C x.n)).setCell ⟨B,2+d*3+2,none⟩ (A C x.c)) B (m.putReg d x):=by
 have h1:z0b (w.setCell ⟨B,2+d*3,none⟩ (A C x.k)) B (m.putReg d ⟨x.k,(m.reg d).n,(m.reg d).c⟩):=h.set _ kO _ fun j hj=>by
  have:=zIb m d hd (m.reg d) ⟨x.k,(m.reg d).n,(m.reg d).c⟩ 0 kO (fun j hj=>by rcases(show j=0\/j=1\/j=2 by omega)with rfl|rfl|rfl<;>rfl) j hj;rw[this,q1h m d];rfl
 have h2:z0b ((w.setCell ⟨B,2+d*3,none⟩ (A C x.k)).setCell ⟨B,2+d*3+1,none⟩ (A C x.n)) B (m.putReg d ⟨x.k,x.n,(m.reg d).c⟩):=h1.set _ kO _ fun j hj=>
  zIb m d hd ⟨x.k,(m.reg d).n,(m.reg d).c⟩ ⟨x.k,x.n,(m.reg d).c⟩ 1 kO (fun j hj=>by rcases(show j=0\/j=1\/j=2 by omega)with rfl|rfl|rfl<;>rfl) j hj
 exact h2.set _ kO _ fun j hj=>
  zIb m d hd ⟨x.k,x.n,(m.reg d).c⟩ x 2 kO (fun j hj=>by rcases(show j=0\/j=1\/j=2 by omega)with rfl|rfl|rfl<;>rfl) j hj
theorem zSf(B d:Nat)(c a o n:Int)(m:Mac)(hd:d<11)(w:World)(hM:z0b w B m):
  Calls tP 186 #[pT (some ⟨B,0,none⟩),.agg #[A C c,A C a,A C d,.bool true,A C o,A C n]] w fun e w'=>e= rT (m.reg d).v/\Below w.heap.size w w':=by
 have hB:=hM.lt;obtain⟨h0,h1,h2⟩:=hM.reg hd;go_enter Tryz.func186,Tryz.ntmps186;go_wp2;go_region
 all_goals go_wp2
 all_goals exact bodyPost_ret (v:=(m.reg d).v) (by simp[results,Tryz.results186,go_sem,Val.v]) rfl ⟨rfl,(((bF _ _).alloc (Nat.le_refl _) _).alloc kS _).drew⟩
theorem zSg(B:Nat)(c a s o n:Int)(w:World):
  Calls tP 186 #[pT (some ⟨B,0,none⟩),.agg #[A C c,A C a,A C s,.bool false,A C o,A C n]] w fun e w'=>e= rT (numF n).v/\Below w.heap.size w w':=by
 go_enter Tryz.func186,Tryz.ntmps186
 go_wp2_with(first
  |(go_at_call 189;refine(z8h n _).mono ?_;rintro e w1 ⟨rfl,hb1⟩;simp only[Val.v,numF];obtain⟨q0,q1,q2,z0,z1,z2,hl⟩:=zC8 hb1;simp only[World.size_alloc]at q0 q1 q2 z0 z1 z2 hl)
  |go_in)
 exact bodyPost_ret (v:=(numF n).v) (by simp[results,Tryz.results186,go_sem,Val.v,numF,q0,q1,q2]) rfl
  ⟨rfl,((((((bF _ _).alloc (Nat.le_refl _) _).alloc kS _).trans (hb1.mono kZ)).setCell (by show w.heap.size<=w.heap.size+1;omega) _).setCell (by show w.heap.size<=w.heap.size+1;omega) _).setCell (by show w.heap.size<=w.heap.size+1;omega) _⟩
def Mac.second(m:Mac)(s:Nat)(r:Bool)(n:Int):Val:=if r then m.reg s else numF n
theorem z8c(B s:Nat)(c a o n:Int)(r:Bool)(m:Mac)(hs:s<11)(w:World)(hM:z0b w B m):
  Calls tP 186 #[pT (some ⟨B,0,none⟩),.agg #[A C c,A C a,A C s,.bool r,A C o,A C n]] w fun e w'=>e= rT (m.second s r n).v/\Below w.heap.size w w':=by
 cases r with
 |true=>exact zSf B s c a o n m hs w hM
 |false=>exact zSg B c a s o n w
theorem zXb(code:Int)(a b:Val)(k0: -9223372036854775808<=b.n)(k1:b.n<=9223372036854775807)(w:World):
  zR 192 #[A C code,a.v,b.v] w (.tuple #[(z3s code a b).1.v,A C (z3s code a b).2]):=by
 obtain⟨ak,an,ac⟩:=a;obtain⟨bk,bn,bc⟩:=b;unfold z3s Val.v
 by_cases h0:bk=0
 ·rw[if_pos (Or.inl h0)];exact zXa code ak an ac bk bn bc w (by simpa using h0)
 by_cases h1:ak=0
 ·by_cases h2:code=1
  ·rw[if_neg (by simp[h0,h2]),if_pos h2];exact zTa code ak an ac bk bn bc w (by simpa using h0) (by simpa using h1) (by simpa using h2) (by simp[h2])
  ·rw[if_pos (Or.inr ⟨h1,h2⟩)];exact zXc code ak an ac bk bn bc w (by simpa using h0) (by simpa using h1) (by simpa using h2)
 by_cases h2:code=1
 ·rw[if_neg (by simp[h0,h1]),if_pos h2];exact zT9 code ak an ac bk bn bc w (by simpa using h0) (by simpa using h1) (by simpa using h2)
 rw[if_neg (by simp[h0,h1]),if_neg h2]
 by_cases h3:bk=1
 ·by_cases h4:ak=1
  ·rw[if_pos ⟨h3,Or.inl h4⟩];exact zT7 code ak an ac bk bn bc w k0 k1 (by simpa using h0) (by simpa using h1) (by simpa using h2) (by simpa using h3) (by simpa using h4)
  ·by_cases h5:code=2
   ·rw[if_pos ⟨h3,Or.inr (Or.inl h5)⟩];exact zT6 code ak an ac bk bn bc w k0 k1 (by simpa using h0) (by simpa using h1) (by simpa using h2) (by simpa using h3) (by simpa using h4) (by simpa using h5)
   ·by_cases h6:code=3
    ·rw[if_pos ⟨h3,Or.inr (Or.inr h6)⟩];exact zT5 code ak an ac bk bn bc w k0 k1 (by simpa using h0) (by simpa using h1) (by simpa using h2) (by simpa using h3) (by simpa using h4) (by simpa using h5) (by simpa using h6)
    ·rw[if_neg (by simp[h4,h5,h6]),if_neg (by simp[h4])];exact zX8 code ak an ac bk bn bc w (by simpa using h0) (by simpa using h1) (by simpa using h2) (by simpa using h3) (by simpa using h4) (by simpa using h5) (by simpa using h6)
 rw[if_neg (by simp[h3])]
 by_cases h4:ak=1
 ·by_cases h5:code=2
  ·rw[if_pos ⟨h4,h5⟩];exact zT8 code ak an ac bk bn bc w k0 k1 (by simpa using h0) (by simpa using h1) (by simpa using h2) (by simpa using h3) (by simpa using h4) (by simpa using h5)
  ·rw[if_neg (by simp[h5])];exact zX9 code ak an ac bk bn bc w (by simpa using h0) (by simpa using h1) (by simpa using h2) (by simpa using h3) (by simpa using h4) (by simpa using h5)
 rw[if_neg (by simp[h4])];exact zX7 code ak an ac bk bn bc w (by simpa using h0) (by simpa using h1) (by simpa using h2) (by simpa using h3) (by simpa using h4)
theorem z55(x:Val)(off:Int)(w:World):
  zR 188 #[x.v,A C off] w (.tuple #[A C (z1e x off).1,A C (z1e x off).2]):=by
 obtain⟨k,n,c⟩:=x;unfold z1e Val.v
 by_cases h0:k=0
 ·rw[if_pos h0];exact zSn k n c off w (by simpa using h0)
 by_cases h1:k=1
 ·rw[if_neg h0,if_pos h1];exact zWf k n c off w (by simpa using h0) (by simpa using h1)
 rw[if_neg h0,if_neg h1]
 by_cases h2:k=2
 ·have e1:z68 ⟨k,n,c⟩ off=wrap64 (n+off):=if_neg (by show¬k=3;omega)
  have e2:z3u ⟨k,n,c⟩=8:=if_pos h2;rw[e1,e2]
  by_cases l:wrap64 (n+off)<0
  ·rw[if_pos (Or.inl l)];exact zF4 k n c off w (by simpa using h0) (by simpa using h1) (by simpa using h2) (by simpa using l)
  ·by_cases g:8<=wrap64 (n+off)
   ·rw[if_pos (Or.inr g)];exact zDc k n c off w (by simpa using h0) (by simpa using h1) (by simpa using h2) (by simpa using l) (by simpa using g)
   ·rw[if_neg kO];exact zI8 k n c off w (by simpa using h0) (by simpa using h1) (by simpa using h2) (by simpa using l) (by simpa using g)
 by_cases h3:k=3
 ·have e1:z68 ⟨k,n,c⟩ off=wrap64 (wrap64 (n+off)+16):=if_pos h3
  have e2:z3u ⟨k,n,c⟩=16:=by unfold z3u;rw[if_neg h2,if_pos h3]
  rw[e1,e2]
  by_cases l:wrap64 (wrap64 (n+off)+16)<0
  ·rw[if_pos (Or.inl l)];exact zDd k n c off w (by simpa using h0) (by simpa using h1) (by simpa using h2) (by simpa using h3) (by simpa using l)
  ·by_cases g:16<=wrap64 (wrap64 (n+off)+16)
   ·rw[if_pos (Or.inr g)];exact zC5 k n c off w (by simpa using h0) (by simpa using h1) (by simpa using h2) (by simpa using h3) (by simpa using l) (by simpa using g)
   ·rw[if_neg kO];exact zF5 k n c off w (by simpa using h0) (by simpa using h1) (by simpa using h2) (by simpa using h3) (by simpa using l) (by simpa using g)
 have e1:z68 ⟨k,n,c⟩ off=wrap64 (n+off):=if_neg h3;have e2:z3u ⟨k,n,c⟩=4:=by unfold z3u;rw[if_neg h2,if_neg h3]
 rw[e1,e2]
 by_cases l:wrap64 (n+off)<0
 ·rw[if_pos (Or.inl l)];exact zF6 k n c off w (by simpa using h0) (by simpa using h1) (by simpa using h2) (by simpa using h3) (by simpa using l)
 by_cases g:4<=wrap64 (n+off)
 ·rw[if_pos (Or.inr g)];exact zDe k n c off w (by simpa using h0) (by simpa using h1) (by simpa using h2) (by simpa using h3) (by simpa using l) (by simpa using g)
 rw[if_neg kO];exact zI9 k n c off w (by simpa using h0) (by simpa using h1) (by simpa using h2) (by simpa using h3) (by simpa using l) (by simpa using g)
theorem zY4(n:Int)(w:World):Calls tP 190 #[A C n] w fun e w'=>e= rT (zEg n).v/\Below w.heap.size w w':=by
 unfold zEg
 by_cases l:n<0
 ·rw[if_pos (Or.inl l)];exact zY3 n w (by simpa using l)
 by_cases g:4<=n
 ·rw[if_pos (Or.inr g)];exact zTy n w (by simpa using l) (by simpa using g)
 rw[if_neg kO];exact q2n n w (by simpa using l) (by simpa using g)
abbrev Kept(B:Nat)(w w':World):Prop:=w.grownBy w' (some B)
theorem z0d{w w1:World}(hb:Below w.heap.size w w1)(B:Nat):Kept B w w1:=⟨hb.os,hb.tape,hb.output,hb.size,fun k hk _=>hb.block k hk⟩
theorem z13{w w1:World}{B:Nat}(h:Kept B w w1)(i:Nat)(v:Value):Kept B w (w1.setCell ⟨B,i,none⟩ v):=
 ⟨h.os,h.tape,h.output,by show w.heap.size<=(w1.heap.modify B _).size;rw[Array.size_modify];exact h.size,fun k hk hne=>(Below.heap_setCell w1 ⟨B,i,none⟩ v k (fun e=>hne (by rw[e]))).trans (h.block k hk hne)⟩
theorem z7w{w w1:World}{B:Nat}(h:Kept B w w1):Kept B w w1.drew:=⟨h.os,h.tape,h.output,h.size,h.block⟩
theorem z18{w w1 w2:World}{B:Nat}(h:Kept B w w1)(k:Kept B w1 w2):Kept B w w2:=
 ⟨k.os.trans h.os,k.tape.trans h.tape,k.output.trans h.output,Nat.le_trans h.size k.size,fun i hi hne=>(k.block i (Nat.lt_of_lt_of_le hi h.size) hne).trans (h.block i hi hne)⟩
theorem z1g{W w1:World}(hb:Below W.heap.size W w1)(b:Nat):b<W.heap.size->(∀o,w1.cell? ⟨b,o,none⟩=W.cell? ⟨b,o,none⟩)/\(∀o,w1.frozen? ⟨b,o,none⟩=W.frozen? ⟨b,o,none⟩)/\b<w1.heap.size:=fun h=>
 ⟨fun o=>hb.cell (p:=⟨b,o,none⟩) h,fun o=>by
  have e:=hb.block b h;unfold World.frozen?;rw[e],Nat.lt_of_lt_of_le h hb.size⟩
theorem z05(w:World):w.drew.heap.size=w.heap.size:=rfl
theorem z0a(w:World)(k:Nat):(w.drewN k).heap.size=w.heap.size:=rfl
theorem z06(w:World)(a:Addr)(v:Value):(w.setCell a v).heap.size=w.heap.size:=by simp[World.setCell]
attribute [local simp] z05 z0a z06
structure Frm (S B:Nat) (c d s:Int) (r:Bool) (o n:Int) (m:Mac) (w:World):Prop where
 box:w.heap[S]?=some (cT #[A C c,A C d,A C s,.bool r,A C o,A C n] 135 (0,0))
 mac:z0b w B m
theorem Frm.ltS{S B:Nat}{c d s o n:Int}{r:Bool}{m:Mac}{w:World}(h:Frm S B c d s r o n m w):S<w.heap.size:=(Array.getElem?_eq_some_iff.1 h.box).1
theorem Frm.later{S B:Nat}{c d s o n:Int}{r:Bool}{m:Mac}{w w1:World}(h:Frm S B c d s r o n m w)(hb:Below w.heap.size w w1):Frm S B c d s r o n m w1:=⟨(hb.block S h.ltS).trans h.box,h.mac.later hb⟩
theorem Frm.alloc{S B:Nat}{c d s o n:Int}{r:Bool}{m:Mac}{w:World}(h:Frm S B c d s r o n m w)(x:Obj):Frm S B c d s r o n m (w.alloc x):=h.later ((bF _ _).alloc (Nat.le_refl _) _)
theorem Frm.drew{S B:Nat}{c d s o n:Int}{r:Bool}{m:Mac}{w:World}(h:Frm S B c d s r o n m w):Frm S B c d s r o n m w.drew:=⟨h.box,h.mac⟩
theorem Frm.drewN{S B:Nat}{c d s o n:Int}{r:Bool}{m:Mac}{w:World}(h:Frm S B c d s r o n m w)(k:Nat):Frm S B c d s r o n m (w.drewN k):=⟨h.box,h.mac⟩
theorem Frm.set{S B:Nat}{c d s o n:Int}{r:Bool}{m:Mac}{w:World}(h:Frm S B c d s r o n m w)(a:Addr)(v:Value)(h1:S≠a.block)(h2:B≠a.block):Frm S B c d s r o n m (w.setCell a v):=
 ⟨(Below.heap_setCell w a v S h1).trans h.box,(Below.heap_setCell w a v B h2).trans h.mac⟩
theorem kF{S B:Nat}{c d s o n:Int}{r:Bool}{m:Mac}{w:World}(h:Frm S B c d s r o n m w:=by repeat' first|with_reducible assumption|with_reducible(first|refine Frm.alloc ?_ _|refine Frm.drew ?_|refine Frm.drewN ?_ _|refine Frm.set ?_ _ _ ?_ ?_)|((try dsimp only);omega)|(simp;done)|(simp;omega)|(intro hh;simp at hh;done)|(intro hh;simp at hh;omega)):Frm S B c d s r o n m w:=h
theorem Frm.cells{S B:Nat}{c d s o n:Int}{r:Bool}{m:Mac}{w:World}(h:Frm S B c d s r o n m w):w.cell? ⟨S,0,none⟩=some (A C c)/\w.cell? ⟨S,1,none⟩=some (A C d)/\w.cell? ⟨S,2,none⟩=some (A C s)/\w.cell? ⟨S,3,none⟩=some (.bool r)/\w.cell? ⟨S,4,none⟩=some (A C o)/\w.cell? ⟨S,5,none⟩=some (A C n):=by
 have e:=h.box;exact⟨by simp[World.cell?,e],by simp[World.cell?,e],by simp[World.cell?,e],by simp[World.cell?,e],by simp[World.cell?,e],by simp[World.cell?,e]⟩
theorem Frm.start{B:Nat}{c d s o n:Int}{r:Bool}{m:Mac}{w:World}(h:z0b w B m):Frm w.heap.size B c d s r o n m (w.alloc (cT #[A C c,A C d,A C s,.bool r,A C o,A C n] 135)):=
 ⟨by show(w.heap.push _)[w.heap.size]?=_;simp,h.later ((bF _ _).alloc (Nat.le_refl _) _)⟩
theorem zUa(B d s:Nat)(c o n:Int)(r:Bool)(m:Mac)(hd:d<11)(hs:s<11)(k0: -9223372036854775808<=(m.second s r n).n)(k1:(m.second s r n).n<=9223372036854775807)(mk mn mc E:Int)(HE:Hid (z3s c (m.reg d) (m.second s r n)=(⟨mk,mn,mc⟩,E)))(w:World)(hM:z0b w B m):
  Calls tP 155 #[pT (some ⟨B,0,none⟩),.agg #[A C c,A C d,A C s,.bool r,A C o,A C n]] w fun e w'=>
   e= rT (A C E)/\Kept B w w'/\z0b w' B (m.putReg d ⟨mk,mn,mc⟩):=by
 have hB:=hM.lt;have hF0:Frm w.heap.size B c d s r o n m _:=Frm.start hM;obtain⟨p0,p1,p2,p3,p4,p5⟩:=hF0.cells;obtain⟨h0,h1,h2⟩:=hF0.mac.reg hd;have hd0:(0:Int)<=(d:Int):=kO;have hd1:(d:Int)<11:=kO;go_enter Tryz.func155,Tryz.ntmps155;go_wp2_with fail;go_cut [5,6] (fun s5 s6 wx=> ∃L:Nat,s5= pT (some ⟨L,0,none⟩)/\s6=A C E/\Below w.heap.size w wx/\Frm w.heap.size B c d s r o n m wx/\L<wx.heap.size/\wx.cell? ⟨L,0,none⟩=some (A C mk)/\wx.cell? ⟨L,1,none⟩=some (A C mn)/\wx.cell? ⟨L,2,none⟩=some (A C mc))
 case first=>
  go_region_held3 (fun w'=>w'.cell? ⟨w.heap.size,0,none⟩=some (A C c)/\w'.cell? ⟨w.heap.size,1,none⟩=some (A C d)/\w'.cell? ⟨w.heap.size,2,none⟩=some (A C s)/\w'.cell? ⟨w.heap.size,3,none⟩=some (.bool r)/\w'.cell? ⟨w.heap.size,4,none⟩=some (A C o)/\w'.cell? ⟨w.heap.size,5,none⟩=some (A C n)/\w'.cell? ⟨B,2+d*3,none⟩=some (A C (m.reg d).k)/\w'.cell? ⟨B,2+d*3+1,none⟩=some (A C (m.reg d).n)/\w'.cell? ⟨B,2+d*3+2,none⟩=some (A C (m.reg d).c)) (first|(simp[go_sem];done)|(simp[go_sem, *];done)|go_keep) (first
   |(go_at_call 186;refine(z8c B s c d o n r m hs _ (Frm.mac (S:=w.heap.size) (c:=c) (d:=d) (s:=s) (r:=r) (o:=o) (n:=n) kF)).mono ?_;rintro e w1 ⟨rfl,hb1⟩;have hF1:Frm w.heap.size B c d s r o n m w1:=Frm.later kF hb1;have hbw1:Below w.heap.size w w1:=kT hb1;obtain⟨v0,v1,v2,v3,v4,v5⟩:=hF1.cells;obtain⟨i0,i1,i2⟩:=hF1.mac.reg hd;have hS1:=hF1.ltS;have hB1:=hF1.mac.lt;have v6:=z1g hb1 (w.heap.size+1);(try simp[go_sem]at v6))
   |(go_at_call 192;refine(zXb c (m.reg d) (m.second s r n) k0 k1 _).mono ?_;rintro e w2 ⟨rfl,hb2⟩;rw[HE.out];simp only[Val.v];have hF2:Frm w.heap.size B c d s r o n m w2:=Frm.later kF hb2;have hbw2:Below w.heap.size w w2:=kT hb2;obtain⟨v0,v1,v2,v3,v4,v5⟩:=hF2.cells;obtain⟨i0,i1,i2⟩:=hF2.mac.reg hd;have hS2:=hF2.ltS;have hB2:=hF2.mac.lt;have v7:=z1g hb2 w1.heap.size;have v8:=z1g hb2 (w.heap.size+1);(try simp[go_sem]at v7);(try simp[go_sem, *]at v8)))
  all_goals(go_wp2_with fail;go_meet)
  all_goals refine⟨_,rfl,rfl,kB,kF,?_,?_,?_,?_⟩
  all_goals first|(simp;done)|(simp;omega)|(simp[go_sem, *];done)|skip
 obtain⟨L,rfl,rfl,hbw,hFx,hL,l0,l1,l2⟩:=hcut;obtain⟨v0,v1,v2,v3,v4,v5⟩:=hFx.cells;obtain⟨i0,i1,i2⟩:=hFx.mac.reg hd;have hSx:=hFx.ltS;have hBx:=hFx.mac.lt;have f0:=hFx.mac.frozen (2+d*3);have f1:=hFx.mac.frozen (2+d*3+1);have f2:=hFx.mac.frozen (2+d*3+2);have HK:=z0d hbw B;go_wp2_with fail;go_region
 all_goals go_wp2
 all_goals go_ret
 all_goals exact⟨rfl,by repeat' first|exact HK|refine z13 ?_ _ _|refine z7w ?_,(hFx.mac.putReg hd ⟨mk,mn,mc⟩:)⟩
end
section
open Go.RowKit
def fits(n:Int):Bool:=decide (-9223372036854775808<=n)&&decide (n<=9223372036854775807)
theorem z5d(n:Int):fits n=true↔ -9223372036854775808<=n/\n<=9223372036854775807:=by simp[fits]
def fit2(x y:Int):Int×Int:=if fits x&&fits y then(x,y)else(-9223372036854775808,9223372036854775807)
theorem zA5{x y:Int}(h:(fits x&&fits y)=true):fit2 x y=(x,y):=by unfold fit2;rw[if_pos h]
theorem zEi{x y:Int}(h:(fits x&&fits y)=false):fit2 x y=(-9223372036854775808,9223372036854775807):=by unfold fit2;rw[h];rfl
theorem zWj{a b:Int}(h0: -9223372036854775808<=a)(h1:a<=9223372036854775807)(h2: -9223372036854775808<=b)(h3:b<=9223372036854775807):
  (decide (a<=wrap64 (a+b))==decide (0<=b))=fits (a+b):=by
 rw[Bool.eq_iff_iff,z5d,beq_iff_eq,Bool.eq_iff_iff,decide_eq_true_eq,decide_eq_true_eq];unfold wrap64;omega
theorem zT4{a b:Int}(h0: -9223372036854775808<=a)(h1:a<=9223372036854775807)(h2: -9223372036854775808<=b)(h3:b<=9223372036854775807):
  (decide (wrap64 (a-b)<=a)==decide (0<=b))=fits (a-b):=by
 rw[Bool.eq_iff_iff,z5d,beq_iff_eq,Bool.eq_iff_iff,decide_eq_true_eq,decide_eq_true_eq];unfold wrap64;omega
theorem fit2_1(u v:Int):(if fits u&&fits v then wrap64 u else-9223372036854775808)=(fit2 u v).1:=by
 cases h:fits u&&fits v
 ·rw[zEi h];rfl
 rw[zA5 h];simp only[Bool.and_eq_true,z5d]at h;exact z0s h.1.1 h.1.2
theorem fit2_2(u v:Int):(if fits u&&fits v then wrap64 v else 9223372036854775807)=(fit2 u v).2:=by
 cases h:fits u&&fits v
 ·rw[zEi h];rfl
 rw[zA5 h];simp only[Bool.and_eq_true,z5d]at h;exact z0s h.2.1 h.2.2
theorem q01{a:Int}{k:Nat}(hk:k<64):(wrap64 (a*2^k)/2^k==a)=fits (a*2^k):=by
 have hp:(0:Int)<2^k:=Int.pow_pos kD
 have hd: ∃q:Int,wrap64 (a*2^k)=q*2^k:=by
  have e:wrap64 (a*2^k)=a*2^k-18446744073709551616*((a*2^k+9223372036854775808)/18446744073709551616):=by unfold wrap64;omega
  have e2:(18446744073709551616:Int)=2^(64-k)*2^k:=by
   rw[<-Int.pow_add,show 64-k+k=64 by omega];rfl
  refine⟨a-2^(64-k)*((a*2^k+9223372036854775808)/18446744073709551616),?_⟩;rw[e,Int.sub_mul,Int.mul_right_comm, <-e2]
 obtain⟨q,hq⟩:=hd;have hb:=z1x (a*2^k);rw[Bool.eq_iff_iff,beq_iff_eq,z5d];constructor
 ·intro h
  rw[hq,Int.mul_ediv_cancel _ kO]at h;rw[hq,h]at hb;exact hb
 intro h;rw[z0s h.1 h.2,Int.mul_ediv_cancel _ kO]
def z2t(n:Int):Bool:=decide (-2147483648<=n)&&decide (n<=2147483648)
theorem z4d(n:Int):z2t n=true↔ -2147483648<=n/\n<=2147483648:=by simp[z2t]
def zT2(al ah bl bh:Int):Int:=min (min (min (al*bl) (al*bh)) (ah*bl)) (ah*bh)
def zT3(al ah bl bh:Int):Int:=max (max (max (al*bl) (al*bh)) (ah*bl)) (ah*bh)
def bdV(c al ah bl bh:Int):Int×Int:=
 if c=1 then(bl,bh)
 else if c=2 then fit2 (al+bl) (ah+bh)
 else if c=3 then fit2 (al-bh) (ah-bl)
 else if c=4 then(if z2t al&&z2t ah&&z2t bl&&z2t bh then(zT2 al ah bl bh,zT3 al ah bl bh)else(-9223372036854775808,9223372036854775807))
 else if c=5 then(if 0<=al/\0<=bl then(if 0<bl then(al/bh,ah/bl)else(0,ah))else(-9223372036854775808,9223372036854775807))
 else if c=6 then(if 0<=al/\0<=bl then(if 0<bl then(0,min ah (bh-1))else(0,ah))else(-9223372036854775808,9223372036854775807))
 else if c=7 then(if 0<=al then(if 0<=bl then(0,min ah bh)else(0,ah))else if 0<=bl then(0,bh)else(-9223372036854775808,9223372036854775807))
 else if c=8 then(if 0<=al/\0<=bl then(max al bl,z5t (max ah bh))else(-9223372036854775808,9223372036854775807))
 else if c=9 then(if 0<=al/\0<=bl then(0,z5t (max ah bh))else(-9223372036854775808,9223372036854775807))
 else if c=10 then(if bl=bh then fit2 (al*2^sixBits bl) (ah*2^sixBits bl)else(-9223372036854775808,9223372036854775807))
 else if c=11 then(if bl=bh then(if sixBits bl=0 then(al,ah)else if 0<=al then(al/2^sixBits bl,ah/2^sixBits bl)else(0,2^(64-sixBits bl)-1))else if 0<=al then(0,ah)else(-9223372036854775808,9223372036854775807))
 else if c=12 then(if bl=bh then(al/2^sixBits bl,ah/2^sixBits bl)else if 0<=al then(0,ah)else if ah<0 then(al, -1)else(al,ah))
 else if c=13 then fit2 (-ah) (-al)
 else(-9223372036854775808,9223372036854775807)
theorem q6x(al ah bl bh:Int):bdV 1 al ah bl bh=(bl,bh):=by simp only[bdV,reduceIte,Int.reduceEq]
theorem q6w(al ah bl bh:Int):bdV 2 al ah bl bh=fit2 (al+bl) (ah+bh):=by simp only[bdV,reduceIte,Int.reduceEq]
theorem q6v(al ah bl bh:Int):bdV 3 al ah bl bh=fit2 (al-bh) (ah-bl):=by simp only[bdV,reduceIte,Int.reduceEq]
theorem q3d(al ah bl bh:Int):bdV 4 al ah bl bh=(if z2t al&&z2t ah&&z2t bl&&z2t bh then(zT2 al ah bl bh,zT3 al ah bl bh)else(-9223372036854775808,9223372036854775807)):=by simp only[bdV,reduceIte,Int.reduceEq]
theorem q6u(al ah bl bh:Int):bdV 5 al ah bl bh=(if 0<=al/\0<=bl then(if 0<bl then(al/bh,ah/bl)else(0,ah))else(-9223372036854775808,9223372036854775807)):=by simp only[bdV,reduceIte,Int.reduceEq]
theorem q6t(al ah bl bh:Int):bdV 6 al ah bl bh=(if 0<=al/\0<=bl then(if 0<bl then(0,min ah (bh-1))else(0,ah))else(-9223372036854775808,9223372036854775807)):=by simp only[bdV,reduceIte,Int.reduceEq]
theorem q3c(al ah bl bh:Int):bdV 7 al ah bl bh=(if 0<=al then(if 0<=bl then(0,min ah bh)else(0,ah))else if 0<=bl then(0,bh)else(-9223372036854775808,9223372036854775807)):=by simp only[bdV,reduceIte,Int.reduceEq]
theorem q6s(al ah bl bh:Int):bdV 8 al ah bl bh=(if 0<=al/\0<=bl then(max al bl,z5t (max ah bh))else(-9223372036854775808,9223372036854775807)):=by simp only[bdV,reduceIte,Int.reduceEq]
theorem q6r(al ah bl bh:Int):bdV 9 al ah bl bh=(if 0<=al/\0<=bl then(0,z5t (max ah bh))else(-9223372036854775808,9223372036854775807)):=by simp only[bdV,reduceIte,Int.reduceEq]
theorem zZy(al ah bl bh:Int):bdV 10 al ah bl bh=(if bl=bh then fit2 (al*2^sixBits bl) (ah*2^sixBits bl)else(-9223372036854775808,9223372036854775807)):=by simp only[bdV,reduceIte,Int.reduceEq]
theorem zZx(al ah bl bh:Int):bdV 11 al ah bl bh=(if bl=bh then(if sixBits bl=0 then(al,ah)else if 0<=al then(al/2^sixBits bl,ah/2^sixBits bl)else(0,2^(64-sixBits bl)-1))else if 0<=al then(0,ah)else(-9223372036854775808,9223372036854775807)):=by simp only[bdV,reduceIte,Int.reduceEq]
theorem zZw(al ah bl bh:Int):bdV 12 al ah bl bh=(if bl=bh then(al/2^sixBits bl,ah/2^sixBits bl)else if 0<=al then(0,ah)else if ah<0 then(al, -1)else(al,ah)):=by simp only[bdV,reduceIte,Int.reduceEq]
theorem zZv(al ah bl bh:Int):bdV 13 al ah bl bh=fit2 (-ah) (-al):=by simp only[bdV,reduceIte,Int.reduceEq]
theorem bdV_no{c:Int}(al ah bl bh:Int)(h:c<1\/13<c):bdV c al ah bl bh=(-9223372036854775808,9223372036854775807):=by
 have e: ∀k:Int,1<=k->k<=13->c≠k:=fun k h1 h2=>by omega
 unfold bdV;rw[if_neg (e 1 kD kD),if_neg (e 2 kD kD),if_neg (e 3 kD kD),if_neg (e 4 kD kD),if_neg (e 5 kD kD),if_neg (e 6 kD kD),if_neg (e 7 kD kD),if_neg (e 8 kD kD),if_neg (e 9 kD kD),if_neg (e 10 kD kD),if_neg (e 11 kD kD),if_neg (e 12 kD kD),if_neg (e 13 kD kD)]
theorem z4n{a:Int}(h0:0<=a)(h1:a<=9223372036854775807):(uns a:Int)=a:=by rw[zPr];omega
theorem zCn{a b:Int}(h0:0<=a)(h1:a<=9223372036854775807)(h2:0<b)(h3:b<=9223372036854775807):z0u 5 a b=a/b:=by
 rw[zOz a kO,Int.natCast_ediv,z4n h0 h1,z4n kO h3];have l:=Int.ediv_nonneg h0 (Int.le_of_lt h2);have g:=Int.ediv_le_self b h0;exact z0s kO kO
theorem zCd{a b:Int}(h0:0<=a)(h1:a<=9223372036854775807):z0u 11 a b=a/2^sixBits b:=by
 have hp:(0:Int)<2^sixBits b:=Int.pow_pos kD;rw[z8n,Int.natCast_ediv,z4n h0 h1,Int.natCast_pow];have l:=Int.ediv_nonneg h0 (Int.le_of_lt hp);have g:=Int.ediv_le_self (2^sixBits b) h0;exact z0s (Int.le_trans kD l) (Int.le_trans g h1)
theorem zI6{a b:Int}(h0: -9223372036854775808<=a)(h1:a<=9223372036854775807)(h:sixBits b=0):z0u 11 a b=a:=by
 rw[z8n,h,Nat.pow_zero,Nat.div_one,zRg,z0s h0 h1]
theorem zQ1{b:Int}(h:sixBits b≠0):z0u 11 (-1) b=2^(64-sixBits b)-1:=by
 have hb:=zAr b;rw[z8n];generalize sixBits b=k at*;have e:uns (-1)=18446744073709551615:=kD;rw[e];have e2:(18446744073709551616:Nat)=2^(64-k)*2^k:=by rw[<-Nat.pow_add,show 64-k+k=64 by omega]
 have hp:0<2^k:=Nat.two_pow_pos k
 have e3:18446744073709551615/2^k=2^(64-k)-1:=by
  have hq:0<2^(64-k):=Nat.two_pow_pos _;rw[show(18446744073709551615:Nat)=2^k*(2^(64-k)-1)+(2^k-1)by rw[Nat.mul_sub_one,Nat.mul_comm, <-e2];have:=Nat.le_mul_of_pos_left (2^k) hq;omega,Nat.mul_add_div hp,Nat.div_eq_of_lt kO,Nat.add_zero]
 rw[e3];have hle:2^(64-k)<=2^63:=Nat.pow_le_pow_right kD kO;have hq:0<2^(64-k):=Nat.two_pow_pos _;have e4:((2^(64-k)-1:Nat):Int)=2^(64-k)-1:=by rw[Int.natCast_sub hq,Int.natCast_pow];rfl
 rw[e4]
 have l1:(2:Int)^(64-k)<=9223372036854775808:=by
  have:=Int.ofNat_le.2 hle;rw[Int.natCast_pow]at this;exact this
 have l2:(1:Int)<=2^(64-k):=Int.pow_pos kD;exact z0s kO kO
theorem zN7(b:Int):sixBits (b%64)=sixBits b:=by unfold sixBits;omega
theorem z4c{x y:Int}(hx:z2t x=true)(hy:z2t y=true):wrap64 (x*y)=x*y:=by
 rw[z4d]at hx hy;have h1:(x*y).natAbs=x.natAbs*y.natAbs:=Int.natAbs_mul x y;have h2:x.natAbs*y.natAbs<=2147483648*2147483648:=Nat.mul_le_mul kO kO;exact z0s kO kO
theorem zJ2{c x y:Int}(hc:1<=c/\c<=13)(px: -9223372036854775808<=x)(qx:x<=9223372036854775807)(py: -9223372036854775808<=y)(qy:y<=9223372036854775807):
  -9223372036854775808<=z0u c x y/\z0u c x y<=9223372036854775807:=by
 have h:c=1\/c=2\/c=3\/c=4\/c=5\/c=6\/c=7\/c=8\/c=9\/c=10\/c=11\/c=12\/c=13:=kO;rcases h with rfl|rfl|rfl|rfl|rfl|rfl|rfl|rfl|rfl|rfl|rfl|rfl|rfl
 ·rw[zP3];exact⟨py,qy⟩
 ·rw[zP2];exact z1x _
 ·rw[zP1];exact z1x _
 ·rw[zP0];exact z1x _
 ·by_cases hy:y=0
  ·subst hy;rw[zJ5];decide
  ·rw[zOz x hy];exact z1x _
 ·by_cases hy:y=0
  ·subst hy;rw[zJ4];exact⟨px,qx⟩
  ·rw[zOy x hy];exact z1x _
 ·rw[zJ3];exact z1x _
 ·rw[zOx];exact z1x _
 ·rw[zOw];exact z1x _
 ·rw[zJ7];exact z1x _
 ·rw[z8n];exact z1x _
 ·rw[zA6]
  have hp:(0:Int)<2^sixBits y:=Int.pow_pos kD;have h1:x/2^sixBits y*2^sixBits y<=x:=Int.ediv_mul_le x kO;have h2:=Int.lt_ediv_add_one_mul_self x hp;generalize x/2^sixBits y=q at*;generalize (2:Int)^sixBits y=m at*;constructor
  ·by_cases hq: -9223372036854775808<=q
   ·exact hq
   ·have:(q+1)*m<=(q+1)*1:=Int.mul_le_mul_of_nonpos_left kO kO
    omega
  ·by_cases hq:q<=9223372036854775807
   ·exact hq
   ·have:q*1<=q*m:=Int.mul_le_mul_of_nonneg_left kO kO
    omega
 rw[zJ6];exact z1x _
theorem z95{k l h y:Int}(h1:l<=y)(h2:y<=h):min (k*l) (k*h)<=k*y/\k*y<=max (k*l) (k*h):=by
 by_cases hk:0<=k
 ·have a:=Int.mul_le_mul_of_nonneg_left h1 hk
  have b:=Int.mul_le_mul_of_nonneg_left h2 hk;omega
 have a:=Int.mul_le_mul_of_nonpos_left (by omega:k<=0) h1;have b:=Int.mul_le_mul_of_nonpos_left (by omega:k<=0) h2;omega
theorem zO8{al ah bl bh x y:Int}(h1:al<=x)(h2:x<=ah)(h3:bl<=y)(h4:y<=bh):zT2 al ah bl bh<=x*y/\x*y<=zT3 al ah bl bh:=by
 have a:=z95 (k:=y) h1 h2;have b:=z95 (k:=al) h3 h4;have c:=z95 (k:=ah) h3 h4;rw[Int.mul_comm y x,Int.mul_comm y al,Int.mul_comm y ah]at a;unfold zT2 zT3;generalize al*y=p at*;generalize ah*y=q at*;generalize x*y=r at*;omega
theorem zCm{u v n z:Int}(h1:u<=n)(h2:n<=v)(hz:z=wrap64 n):(fit2 u v).1<=z/\z<=(fit2 u v).2:=by
 subst hz
 cases h:fits u&&fits v
 ·rw[zEi h];exact z1x _
 rw[zA5 h];simp only[Bool.and_eq_true,z5d]at h;rw[z0s kO kO];exact⟨h1,h2⟩
theorem zP5{a x y:Int}(h0:0<=x)(h1:x<=a)(h2:0<y):0<=x/y/\x/y<=a:=by
 have l:=Int.ediv_nonneg h0 (Int.le_of_lt h2);have g:=Int.ediv_le_self y h0;omega
theorem q2x{al ah bl bh x y:Int}(h0:0<=al)(h1:al<=x)(h2:x<=ah)(h3:0<bl)(h4:bl<=y)(h5:y<=bh):al/bh<=x/y/\x/y<=ah/bl:=by
 obtain⟨a,rfl⟩:=Int.eq_ofNat_of_zero_le h0;obtain⟨m,rfl⟩:=Int.eq_ofNat_of_zero_le (by omega:0<=x);obtain⟨b,rfl⟩:=Int.eq_ofNat_of_zero_le (by omega:0<=ah);obtain⟨c,rfl⟩:=Int.eq_ofNat_of_zero_le (by omega:0<=bl);obtain⟨d,rfl⟩:=Int.eq_ofNat_of_zero_le (by omega:0<=y);obtain⟨e,rfl⟩:=Int.eq_ofNat_of_zero_le (by omega:0<=bh);have k1:a/e<=m/d:=Nat.div_le_div kO kO kO;have k2:m/d<=b/c:=Nat.div_le_div kO kO kO;exact⟨Int.ofNat_le.2 k1,Int.ofNat_le.2 k2⟩
theorem zQd{x y:Int}(h0:0<=x)(h1:x<=9223372036854775807)(h2:0<y)(h3:y<=9223372036854775807):z0u 6 x y=x%y:=by
 rw[zOy x kO,Int.natCast_emod,z4n h0 h1,z4n kO h3];have l:=Int.emod_nonneg x (by omega:y≠0);have g:=Int.emod_lt_of_pos x h2;exact z0s kO kO
theorem q05{x y a:Int}(h0:0<=x)(h1:x<=a)(h2:a<=9223372036854775807):0<=wrap64 ((uns x&&&uns y:Nat):Int)/\wrap64 ((uns x&&&uns y:Nat):Int)<=a:=by
 have l:uns x&&&uns y<=uns x:=Nat.and_le_left;have e:=z4n h0 kO;rw[z0s kO kO];omega
theorem z8q{x m:Int}(h0:0<=x)(h1:x<=m):uns x<2^lenV m.toNat\/9223372036854775807<x:=by
 by_cases hx:x<=9223372036854775807
 ·left
  have e:=z4n h0 hx;have l:=zOf m.toNat;omega
 right;omega
theorem zOr{m:Int}(h:m<=9223372036854775807):lenV m.toNat<=63:=zOe (Nat.lt_of_lt_of_eq (show m.toNat<9223372036854775808 by omega) kD)
theorem q57{x y m:Int}(hx0:0<=x)(hx:x<=m)(hy0:0<=y)(hy:y<=m)(hm:m<=9223372036854775807):max x y<=wrap64 ((uns x|||uns y:Nat):Int)/\wrap64 ((uns x|||uns y:Nat):Int)<=z5t m:=by
 have a:=(z8q hx0 hx).resolve_right kO;have b:=(z8q hy0 hy).resolve_right kO;have c:=Nat.or_lt_two_pow a b;have d:=zO7 (zOr hm);have l1:uns x<=uns x|||uns y:=Nat.left_le_or
 have l2:uns y<=uns x|||uns y:=Nat.right_le_or
 have e1:=z4n hx0 kO;have e2:=z4n hy0 kO;unfold z5t;unfold ones at d⊢;have p:0<2^lenV m.toNat:=Nat.two_pow_pos _;generalize 2^lenV m.toNat=P at*;generalize uns x|||uns y=z at*
 rw[z0s kO kO];omega
theorem q06{x y m:Int}(hx0:0<=x)(hx:x<=m)(hy0:0<=y)(hy:y<=m)(hm:m<=9223372036854775807):0<=wrap64 ((uns x^^^uns y:Nat):Int)/\wrap64 ((uns x^^^uns y:Nat):Int)<=z5t m:=by
 have a:=(z8q hx0 hx).resolve_right kO;have b:=(z8q hy0 hy).resolve_right kO;have c:=Nat.xor_lt_two_pow a b;have d:=zO7 (zOr hm);unfold z5t;unfold ones at d⊢;have p:0<2^lenV m.toNat:=Nat.two_pow_pos _;generalize 2^lenV m.toNat=P at*;generalize uns x^^^uns y=z at*;rw[z0s kO kO];omega
theorem zA1{a b:Int}(k:Nat)(h:a<=b):a/2^k<=b/2^k:=Int.ediv_le_ediv (Int.pow_pos kD) h
theorem zOn{x:Int}(k:Nat):(0<=x->0<=x/2^k/\x/2^k<=x)/\(x<0->x<=x/2^k/\x/2^k<= -1):=by
 have hp:(0:Int)<2^k:=Int.pow_pos kD;have h1:x/2^k*2^k<=x:=Int.ediv_mul_le x kO;have h2:=Int.lt_ediv_add_one_mul_self x hp;generalize x/2^k=q at*;generalize (2:Int)^k=m at*;constructor
 ·intro h
  have a:0<=q:=by
   by_cases hq:0<=q
   ·exact hq
   ·have:(q+1)*m<=(q+1)*1:=Int.mul_le_mul_of_nonpos_left kO kO
    omega
  have b:q*1<=q*m:=Int.mul_le_mul_of_nonneg_left kO a;omega
 intro h
 have a:q<= -1:=by
  by_cases hq:q<= -1
  ·exact hq
  ·have:q*1<=q*m:=Int.mul_le_mul_of_nonneg_left kO kO
   omega
 have b:(q+1)*m<=(q+1)*1:=Int.mul_le_mul_of_nonpos_left kO kO;omega
theorem q19{x:Int}(b:Int)(h:sixBits b≠0):0<=z0u 11 x b/\z0u 11 x b<=2^(64-sixBits b)-1:=by
 have r:=zQ1 (b:=b) h;rw[z8n]at r⊢;have hb:=zAr b;have hx:=zJp x;have e:uns (-1)=18446744073709551615:=kD;have l:uns x/2^sixBits b<=uns (-1)/2^sixBits b:=Nat.div_le_div_right kO
 have k:uns (-1)/2^sixBits b<=9223372036854775807:=by
  rw[e];have:2^1<=2^sixBits b:=Nat.pow_le_pow_right kD kO;exact Nat.le_trans (Nat.div_le_div_left this kD) kD
 rw[<-r];generalize uns x/2^sixBits b=p at*;generalize uns (-1)/2^sixBits b=q at*;rw[z0s kO kO,z0s kO kO];omega
theorem q6q{c al ah bl bh x y:Int}(hc:1<=c/\c<=13)(pal: -9223372036854775808<=al)(qah:ah<=9223372036854775807)(pbl: -9223372036854775808<=bl)(qbh:bh<=9223372036854775807)
  (h1:al<=x)(h2:x<=ah)(h3:bl<=y)(h4:y<=bh):(bdV c al ah bl bh).1<=z0u c x y/\z0u c x y<=(bdV c al ah bl bh).2:=by
 have bd:=zJ2 (x:=x) (y:=y) hc kO kO kO kO;have h:c=1\/c=2\/c=3\/c=4\/c=5\/c=6\/c=7\/c=8\/c=9\/c=10\/c=11\/c=12\/c=13:=kO;rcases h with rfl|rfl|rfl|rfl|rfl|rfl|rfl|rfl|rfl|rfl|rfl|rfl|rfl
 ·rw[q6x,zP3];exact⟨h3,h4⟩
 ·rw[q6w];exact zCm (n:=x+y) kO kO (zP2 x y)
 ·rw[q6v];exact zCm (n:=x-y) kO kO (zP1 x y)
 ·rw[q3d]
  split
  ·rename_i hs
   simp only[Bool.and_eq_true,z4d]at hs;rw[zP0,z4c ((z4d x).2 kO) ((z4d y).2 kO)];exact zO8 h1 h2 h3 h4
  ·exact bd
 ·rw[q6u]
  split
  ·split
   ·rw[zCn kO kO kO kO]
    exact q2x kO h1 h2 kO h3 h4
   ·by_cases hy:y=0
    ·subst hy;rw[zJ5];show(0:Int)<=0/\0<=ah;omega
    ·rw[zCn kO kO kO kO]
     exact zP5 kO h2 kO
  ·exact bd
 ·rw[q6t]
  split
  ·split
   ·rw[zQd kO kO kO kO]
    have l:=Int.emod_nonneg x (by omega:y≠0);have g:=Int.emod_lt_of_pos x (by omega:0<y)
    have m:x%y<=x:=by
     by_cases hxy:x<y
     ·rw[Int.emod_eq_of_lt kO hxy];omega
     ·omega
    show 0<=x%y/\x%y<=min ah (bh-1);omega
   ·by_cases hy:y=0
    ·subst hy;rw[zJ4];show(0:Int)<=x/\x<=ah;omega
    ·rw[zQd kO kO kO kO]
     have l:=Int.emod_nonneg x (by omega:y≠0);have g:=Int.emod_lt_of_pos x (by omega:0<y)
     have m:x%y<=x:=by
      by_cases hxy:x<y
      ·rw[Int.emod_eq_of_lt kO hxy];omega
      ·omega
     show 0<=x%y/\x%y<=ah;omega
  ·exact bd
 ·rw[q3c,zJ3]
  rw[zJ3]at bd;split
  ·have a:=q05 (y:=y) (by omega:0<=x) h2 qah
   split
   ·have b:=q05 (y:=x) (by omega:0<=y) h4 qbh
    rw[Nat.and_comm]at b;generalize wrap64 ((uns x&&&uns y:Nat):Int)=z at*;show 0<=z/\z<=min ah bh;omega
   ·exact a
  ·split
   ·have b:=q05 (y:=x) (by omega:0<=y) h4 qbh
    rw[Nat.and_comm]at b;exact b
   ·exact bd
 ·rw[q6s]
  split
  ·have a:=q57 (m:=max ah bh) (by omega:0<=x) kO (by omega:0<=y) kO kO
   rw[zOx];refine⟨?_,a.2⟩;show max al bl<=_;exact Int.le_trans kO a.1
  ·exact bd
 ·rw[q6r]
  split
  ·rw[zOw]
   exact q06 (m:=max ah bh) (by omega:0<=x) kO (by omega:0<=y) kO kO
  ·exact bd
 ·rw[zZy]
  split
  ·obtain rfl:y=bl:=by omega
   have hp:(0:Int)<=2^sixBits y:=Int.le_of_lt (Int.pow_pos kD);exact zCm (Int.mul_le_mul_of_nonneg_right h1 hp) (Int.mul_le_mul_of_nonneg_right h2 hp) (zJ7 x y)
  ·exact bd
 ·rw[zZx]
  split
  ·obtain rfl:y=bl:=by omega
   split
   ·rw[zI6 kO kO (by assumption)];exact⟨h1,h2⟩
   ·split
    ·rw[zCd kO kO]
     exact⟨zA1 _ h1,zA1 _ h2⟩
    ·exact q19 y (by assumption)
  ·split
   ·rw[zCd kO kO]
    have a:=(zOn (x:=x) (sixBits y)).1 kO;show 0<=x/2^sixBits y/\x/2^sixBits y<=ah;omega
   ·exact bd
 ·rw[zZw,zA6]
  have a:=zOn (x:=x) (sixBits y);split
  ·obtain rfl:y=bl:=by omega
   exact⟨zA1 _ h1,zA1 _ h2⟩
  ·split
   ·show 0<=x/2^sixBits y/\x/2^sixBits y<=ah
    have:=a.1 kO;omega
   ·split
    ·show al<=x/2^sixBits y/\x/2^sixBits y<= -1
     have:=a.2 kO;omega
    ·show al<=x/2^sixBits y/\x/2^sixBits y<=ah
     by_cases hx:0<=x
     ·have:=a.1 hx;omega
     ·have:=a.2 kO;omega
 rw[zZv];exact zCm (n:= -x) kO kO (zJ6 x y)
end
end Go.Proofs.YtkdflpplamebkaaGreatDoor
