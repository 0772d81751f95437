/-
A part of the proof of DeskPieces; its card says what is proved.
-/
import Derived.Test.YtkdflpplamebkaaGreatDoorJp6
import Derived.Shelf.RegionOpen
set_option maxHeartbeats 40000000
open Go.Value renaming int → A
open Go.IntKind renaming i64 → C
open Go.RowKit.Below renaming alloc → bA, setCell → bS, drew → bD, refl → bF
set_option maxRecDepth 1000000
set_option linter.defProp false
set_option linter.unusedVariables false
set_option linter.unusedSimpArgs false
open Go.Ending renaming returned → rT
open Go.Value renaming pointer → pT
open Go.Obj renaming cells → cT
open Go.Proofs.Tryz renaming prog → tP
namespace Go.Proofs.YtkdflpplamebkaaGreatDoor
open Go.ChangeShapes Go.WideShapes Go.ChangeAt Go.RowKit Go.Shelf
variable {ex:Ext}
attribute [local go_sem] Oper.semAt_some
section
variable {w w1:World} {base base' n size:Nat} {e:TypeId} {v:Value} {xs:List Value}
theorem zB1(h:w.ownsRow base e size v n xs)(hb:Below w.heap.size w w1):w1.ownsRow base e size v n xs:=
 h.kept (row:=none) ⟨hb.os,hb.tape,hb.output,hb.size,fun k hk _=>hb.block k hk⟩ (by cases v.ownBlock<;>simp)
theorem zWq(h:w.ownsRow base e size v n xs): ∀k,v.ownBlock=some k->base<=k:=by
 intro k hk;rcases h.2 with⟨rfl,_⟩|⟨g,cap,cur,rfl,hb,_⟩
 ·simp[Value.ownBlock]at hk
 simp[Value.ownBlock]at hk;omega
theorem zSt(h:w.ownsRow base e size v n xs)(hb:base'<=base):w.ownsRow base' e size v n xs:=by
 refine⟨h.1,?_⟩;rcases h.2 with hn|⟨g,cap,cur,rfl,hg,rest⟩
 ·exact .inl hn
 exact .inr ⟨g,cap,cur,rfl,Nat.le_trans hb hg,rest⟩
theorem zGc(h:w.ownsRow base e size v n xs)(hn:0<n): ∃g cap,v= .slice (some ⟨g,0,none⟩) n cap:=by
 rcases h.2 with⟨_,rfl⟩|⟨g,cap,_,rfl,_⟩
 ·omega
 exact⟨g,cap,rfl⟩
end
theorem zU4{W w1:World}{B n₁ size:Nat}{t e:TypeId}{v v':Value}{k m:Nat}{xs ys:List Value}{tmp:Obj}(hv:Boxed W B t v)(hB:B<n₁)(hn₁:n₁<=W.heap.size)(hrow:W.ownsRow n₁ e size v k xs)
  (hown':w1.ownsRow n₁ e size v' m ys)(hgrow:(W.alloc tmp).grownBy w1 v.ownBlock):
  Boxed w1 B t v/\Boxed (w1.setCell ⟨B,0,none⟩ v') B t v'/\(w1.setCell ⟨B,0,none⟩ v').ownsRow n₁ e size v' m ys/\KeepsOthers W (w1.setCell ⟨B,0,none⟩ v')/\Below B W (w1.setCell ⟨B,0,none⟩ v')
   /\ ∀j,j<n₁->j≠B->(w1.setCell ⟨B,0,none⟩ v').heap[j]?=W.heap[j]?:=by
 have hf:=zWq hrow;have hk: ∀j,j<n₁->w1.heap[j]?=W.heap[j]?:=fun j hj=>(hgrow.block j kZ (fun e=>by have:=hf j e.symm;omega)).trans (Below.heap_alloc _ _ _ kO);have hb1:Boxed w1 B t v:=(hk B hB).trans hv;refine⟨hb1,hb1.set v',ownsRow_setCell_below hown' hB v',?_,?_,fun j hj hne=>(Below.heap_setCell w1 ⟨B,0,none⟩ v' j hne).trans (hk j hj)⟩
 ·refine((KeepsOthers.alloc W tmp).trans (KeepsOthers.of_grownBy hgrow fun j o e ho=>?_)).trans (KeepsOthers.setCell _ _ _)
  rcases(hrow.alloc tmp).2 with⟨rfl,_⟩|⟨g,cap,cur,rfl,_,hg,_⟩
  ·simp[Value.ownBlock]at e
  ·simp[Value.ownBlock]at e
   subst e;rw[hg]at ho;cases ho;rfl
 exact(((bF B W).alloc kO tmp).grown hgrow kZ (fun j e=>by have:=hf j e;omega)).setCell (Nat.le_refl _) _
theorem z0m{W w1:World}{b:Nat}{ty:TypeId}{v:Value}(h:Boxed W b ty v)(hb:Below W.heap.size W w1):Boxed w1 b ty v:=(hb.block b h.lt).trans h
def z3n(p:ByteArray):Option St:=z6i ((z0z p).take 5)
def z34(ps:List ByteArray):List St:=ps.map fun p=>(z3n p).getD St.zero
def z1p(xs:List St):List Value:=(xs.map fun x=>x.cells.toList).flatten
theorem zFq(xs:List St)(x:St):z1p (xs++[x])=z1p xs++x.cells.toList:=by simp[z1p]
theorem Tryz.infoStep:(Tryz.prog.info? 135).map (fun i=>(i.zero,i.size,i.bytes))=some (some (.agg St.zero.cells),6,48):=kR
def Stab{β:Type}(B Bs:Nat)(I:β->World->Prop):Prop:= ∀s W W' row,I s W->W.grownBy W' row->(∀r,row=some r->(B<=r/\ ∃o:Obj,W.heap[r]?=some o/\o.isCells=false)\/r=Bs)->I s W'
theorem Stab.own{β:Type}{B Bs:Nat}{I:β->World->Prop}(h:Stab B Bs I):OwnFrom B I:=fun s W W' row hs hg hr=>h s W W' row hs hg fun r e=>Or.inl (hr r e)
theorem Stab.abide{β:Type}{B Bs:Nat}{I:β->World->Prop}(h:Stab B Bs I):zPl Bs I:=fun s W W' row hs hg hr=>h s W W' row hs hg fun r e=>by
 rcases hr with k|⟨k, -⟩
 ·rw[k]at e;cases e
 ·rw[k]at e;exact Or.inr (Option.some.inj e).symm
theorem z42{W W':World}{row:Option Nat}{B Bs k:Nat}{c:Array Value}{t:TypeId}{fz:Nat×Nat}(hg:W.grownBy W' row)(hr: ∀r,row=some r->(B<=r/\ ∃o:Obj,W.heap[r]?=some o/\o.isCells=false)\/r=Bs)(hk:W.heap[k]?=some (cT c t fz))(hne:k≠Bs):W'.heap[k]?=some (cT c t fz):=by
 refine(hg.block k (Array.getElem?_eq_some_iff.1 hk).1 fun e=>?_).trans hk;rcases hr k e.symm with⟨_,o,ho,hc⟩|h
 ·rw[hk]at ho;cases ho;cases hc
 exact hne h
theorem q0x{W W':World}{row:Option Nat}{B Bs base n size:Nat}{e:TypeId}{v:Value}{xs:List Value}(hg:W.grownBy W' row)(hr: ∀r,row=some r->(B<=r/\ ∃o:Obj,W.heap[r]?=some o/\o.isCells=false)\/r=Bs)(h:W.ownsRow base e size v n xs)(hb:Bs<base):W'.ownsRow base e size v n xs:=by
 refine⟨h.1,?_⟩;rcases h.2 with hn|⟨g,cap,cur,rfl,hbg,hgg,rest⟩
 ·exact .inl hn
 exact .inr ⟨g,cap,cur,rfl,hbg,z42 hg hr hgg kO,rest⟩
theorem zG1{W W' w:World}{row:Option Nat}{B Bs:Nat}(hg:W.grownBy W' row)(hr: ∀r,row=some r->(B<=r/\ ∃o:Obj,W.heap[r]?=some o/\o.isCells=false)\/r=Bs)(h:Below w.heap.size w W)(h1:w.heap.size<=B)(h2:w.heap.size<=Bs):Below w.heap.size w W':=
 h.trans ⟨hg.os,hg.tape,hg.output,hg.size,fun k hk=>hg.block k (Nat.lt_of_lt_of_le hk h.size) fun e=>by
  rcases hr k e.symm with⟨hb,_⟩|hb
  ·omega
  ·omega⟩
theorem z9o: ∀(f:Nat)(t:ByteArray),(z1u f t).length<=f+1
 |0,t=>by simp[z1u]
 |f+1,t=>by
  by_cases h:0<=semi t
  ·rw[zB0 h,List.length_cons];have:=z9o f (t.extract ((semi t).toNat+1) t.size);omega
  ·rw[zAz h];simp
def zMm(ex:Ext)(w:World)(pre:List z2u)(W:World):Prop:=
 (∃v,Boxed W (w.heap.size+2) 73 v/\W.ownsRow (w.heap.size+7) 135 6 v (min pre.length 201) (z1p ((z34 (pre.map (·.1))).take 201)))/\(∀x∈pre,(z3n x.1).isSome=true)/\Boxed W (w.heap.size+3) 3 (A C pre.length)
 /\Boxed W w.heap.size 73 (.slice none 0 0)/\Boxed W (w.heap.size+1) 29 .nilIface/\Below w.heap.size w W/\w.heap.size+7<=W.heap.size/\Tabs ex W
def Left(w:World)(c:Code)(pre:List z2u)(W:World):Prop:=
 c= .ret/\ ∃(pre0:List z2u)(x:z2u)(p:Nat),pre=pre0++[x]/\(∀y∈pre0,(z3n y.1).isSome=true)/\z3n x.1=none/\Boxed W w.heap.size 73 (.slice none 0 0)/\Boxed W (w.heap.size+1) 29 (.iface 166 (pT (some ⟨p,0,none⟩)))
  /\w.heap.size+7<=p/\W.heap[p]?=some (cT #[A C 3,A C pre0.length] 174 (0,0))/\Below w.heap.size w W
theorem zDw{W w1:World}(hb:Below W.heap.size W w1):KeepsOthers W w1:=⟨hb.size,fun k _ hk _=>(hb.block k (Array.getElem?_eq_some_iff.1 hk).1).trans hk⟩
theorem z4e(w:World)(p:Addr)(u:Value):(w.setCell p u).heap.size=w.heap.size:=by
 show(w.heap.modify p.block _).size=_;rw[Array.size_modify]
theorem q2a{B:Nat}{w W w1:World}{pre:List z2u}{x:z2u}{S:Obj}(hb1:Below W.heap.size W w1)(hall: ∀y∈pre,(z3n y.1).isSome=true)(htl:z3n x.1=none)(hR:Boxed W w.heap.size 73 (.slice none 0 0))(hE:Boxed W (w.heap.size+1) 29 .nilIface)(hB:Below w.heap.size w W)(hsz:w.heap.size+7<=W.heap.size):
  KeepsFrom B W ((((w1.setCell ⟨w.heap.size,0,none⟩ (.slice none 0 0)).setCell ⟨w.heap.size+1,0,none⟩ (.iface 166 (pT (some ⟨w1.heap.size+1,0,none⟩)))).alloc S).alloc (cT #[A C 3,A C pre.length] 174)).drew
   /\Left w .ret (pre++[x]) ((((w1.setCell ⟨w.heap.size,0,none⟩ (.slice none 0 0)).setCell ⟨w.heap.size+1,0,none⟩ (.iface 166 (pT (some ⟨w1.heap.size+1,0,none⟩)))).alloc S).alloc (cT #[A C 3,A C pre.length] 174)).drew:=by
 have hs:=hb1.size;refine⟨(((((zDw hb1).trans (KeepsOthers.setCell _ _ _)).trans (KeepsOthers.setCell _ _ _)).trans (KeepsOthers.alloc _ _)).trans (KeepsOthers.alloc _ _)).trans (KeepsOthers.drew _)|>.from _,rfl,pre,x,w1.heap.size+1,rfl,hall,htl,?_,?_,by omega,?_,?_⟩
 ·exact((Boxed.other_box ((z0m hR hb1).set _) kO _).alloc _).alloc _
 ·exact(((Boxed.other_box (z0m hE hb1) kO _).set _).alloc _).alloc _
 ·have h:=World.alloc_heap_new (((w1.setCell ⟨w.heap.size,0,none⟩ (.slice none 0 0)).setCell ⟨w.heap.size+1,0,none⟩ (.iface 166 (pT (some ⟨w1.heap.size+1,0,none⟩)))).alloc S) (cT #[A C 3,A C pre.length] 174)
  rw[World.size_alloc,z4e,z4e]at h;exact h
 exact((((hB.trans (hb1.mono kO)).setCell (Nat.le_refl _) _).setCell (by show w.heap.size<=w.heap.size+1;omega) _).alloc (by rw[z4e,z4e];omega) _).alloc (by rw[World.size_alloc,z4e,z4e];omega) _|>.drew
theorem zGb{w:World}{base n size:Nat}{e:TypeId}{v:Value}{xs:List Value}(h:w.ownsRow base e size v n xs): ∃a c,v= .slice a n c:=by
 rcases h.2 with⟨rfl,rfl⟩|⟨g,cap,cur,rfl,_⟩
 ·exact⟨_,_,rfl⟩
 exact⟨_,_,rfl⟩
theorem zJr(pre:List z2u){x:z2u}{st:St}(h:z3n x.1=some st):z34 ((pre++[x]).map (·.1))=z34 (pre.map (·.1))++[st]:=by simp[z34,h]
theorem z4o(ps:List ByteArray):(z34 ps).length=ps.length:=by simp[z34]
theorem zS1{xs:List St}{x:St}(h:xs.length<=200):(xs++[x]).take 201=xs.take 201++[x]:=by
 rw[List.take_of_length_le (by rw[List.length_append];simp;omega),List.take_of_length_le kO]
theorem zVk{xs:List St}{x:St}(h: ¬xs.length<=200):(xs++[x]).take 201=xs.take 201:=List.take_append_of_le_length kO
theorem zYw{w:World}{b:Nat}{x:St}(hb:b=w.heap.size): ∀(j:Nat) u,x.cells.toList[j]?=some u->(w.alloc (cT x.cells 135)).cell? ((⟨b,0,none⟩:Addr).add j)=some u:=by
 subst hb;intro j u hj;have e:(⟨w.heap.size,0,none⟩:Addr).add j=⟨w.heap.size,j,none⟩:=by unfold Addr.add;split<;>simp_all
 rw[e,World.cell?_alloc_at _ _ _ _ rfl];simpa using hj
theorem zW1(x:St): ∀u∈x.cells.toList,u.oneCell'=true:=by
 intro u hu;simp[St.cells]at hu;rcases hu with rfl|rfl|rfl|rfl|rfl|rfl<;>rfl
section
variable {w W w1:World} {pre:List z2u} {x:z2u} {st:St} {v:Value}
theorem zJa(hb1:Below W.heap.size W w1)(hg:zMm ex w pre W)(S:Obj):
  Boxed ((w1.setCell ⟨w.heap.size+3,0,none⟩ (A C ((pre.length:Int)+1))).alloc S) (w.heap.size+3) 3 (A C ((pre.length:Int)+1))
  /\Boxed ((w1.setCell ⟨w.heap.size+3,0,none⟩ (A C ((pre.length:Int)+1))).alloc S) w.heap.size 73 (.slice none 0 0)
  /\Boxed ((w1.setCell ⟨w.heap.size+3,0,none⟩ (A C ((pre.length:Int)+1))).alloc S) (w.heap.size+1) 29 .nilIface
  /\Below w.heap.size W ((w1.setCell ⟨w.heap.size+3,0,none⟩ (A C ((pre.length:Int)+1))).alloc S)
  /\KeepsOthers W ((w1.setCell ⟨w.heap.size+3,0,none⟩ (A C ((pre.length:Int)+1))).alloc S)
  /\(∀j,j<w.heap.size+7->j≠w.heap.size+3->((w1.setCell ⟨w.heap.size+3,0,none⟩ (A C ((pre.length:Int)+1))).alloc S).heap[j]?=W.heap[j]?):=by
 obtain⟨_,_,hC,hR,hE,hB,hsz,_⟩:=hg;have hs:=hb1.size;refine⟨((z0m hC hb1).set _).alloc _,(Boxed.other_box (z0m hR hb1) kO _).alloc _,(Boxed.other_box (z0m hE hb1) kO _).alloc _,?_,((zDw hb1).trans (KeepsOthers.setCell _ _ _)).trans (KeepsOthers.alloc _ _),fun j hj hne=>?_⟩
 ·exact((hb1.mono kO).setCell (by show w.heap.size<=w.heap.size+3;omega) _).alloc (by rw[z4e];omega) _
 exact(Below.heap_alloc _ _ _ (by rw[z4e];omega)).trans ((Below.heap_setCell _ _ _ _ hne).trans (hb1.block j kO))
theorem zRe(hall: ∀y∈pre,(z3n y.1).isSome=true)(htl:z3n x.1=some st): ∀y∈pre++[x],(z3n y.1).isSome=true:=by
 intro y hy;rcases List.mem_append.1 hy with h|h
 ·exact hall y h
 rw[List.mem_singleton.1 h,htl];rfl
theorem zXx{W4:World}{S:Obj}{v':Value}{m:Nat}(hgo:zMm ex w pre W)(hw:11<=w.heap.size)(hb1:Below W.heap.size W w1)(h200:pre.length<=200)(htl:z3n x.1=some st)(hm:m=pre.length)(hv2:Boxed W4 (w.heap.size+2) 73 v')
  (hr2:W4.ownsRow (w.heap.size+7) 135 6 v' (m+1) (z1p ((z34 (pre.map (·.1))).take 201)++st.cells.toList))(hj: ∀j,j<w.heap.size+7->j≠w.heap.size+2->W4.heap[j]?=((w1.setCell ⟨w.heap.size+3,0,none⟩ (A C ((pre.length:Int)+1))).alloc S).heap[j]?)(hb:Below (w.heap.size+2) ((w1.setCell ⟨w.heap.size+3,0,none⟩ (A C ((pre.length:Int)+1))).alloc S) W4):
  zMm ex w (pre++[x]) W4/\z2q w.heap.size [w.heap.size+5,w.heap.size+4,w.heap.size+6] W W4:=by
 obtain⟨bC,bR,bE,hB2,_,hk2⟩:=zJa hb1 hgo S;obtain⟨_,hall,_,_,_,hB,hsz,hT⟩:=hgo;have hBW:Below w.heap.size W W4:=hB2.trans (hb.mono kO);have hlen:(z34 (pre.map (·.1))).length<=200:=by rw[z4o,List.length_map];exact h200
 refine⟨⟨⟨v',hv2,?_⟩,zRe hall htl,?_,(hj _ kO kO).trans bR,(hj _ kO kO).trans bE,hB.trans hBW,Nat.le_trans hsz hBW.size,hT.on hBW hw⟩,hBW,fun b hb'=>?_⟩
 ·rw[zJr pre htl,zS1 hlen,zFq,List.length_append,show min (pre.length+[x].length) 201=m+1 by simp;omega]
  exact hr2
 ·rw[List.length_append]
  exact((hj _ kO kO).trans bC)
 have:b=w.heap.size+5\/b=w.heap.size+4\/b=w.heap.size+6:=by simpa using hb'
 exact(hj b kO kO).trans (hk2 b kO kO)
theorem zTw{S:Obj}(hgo:zMm ex w pre W)(hw:11<=w.heap.size)(hb1:Below W.heap.size W w1)(h200: ¬pre.length<=200)(htl:z3n x.1=some st):
  zMm ex w (pre++[x]) ((w1.setCell ⟨w.heap.size+3,0,none⟩ (A C ((pre.length:Int)+1))).alloc S)/\z2q w.heap.size [w.heap.size+5,w.heap.size+4,w.heap.size+6] W ((w1.setCell ⟨w.heap.size+3,0,none⟩ (A C ((pre.length:Int)+1))).alloc S):=by
 obtain⟨bC,bR,bE,hB2,_,hk2⟩:=zJa hb1 hgo S;obtain⟨⟨v,hv,hrow⟩,hall,_,_,_,hB,hsz,hT⟩:=hgo;have hlen: ¬(z34 (pre.map (·.1))).length<=200:=by rw[z4o,List.length_map];exact h200
 refine⟨⟨⟨v,(hk2 _ kO kO).trans hv,?_⟩,zRe hall htl,?_,bR,bE,hB.trans hB2,Nat.le_trans hsz hB2.size,hT.on hB2 hw⟩,hB2,fun b hb'=>?_⟩
 ·rw[zJr pre htl,zVk hlen,List.length_append,show min (pre.length+[x].length) 201=min pre.length 201 by simp;omega]
  exact(ownsRow_setCell_below (zB1 hrow hb1) (a:=⟨w.heap.size+3,0,none⟩) (by show w.heap.size+3<w.heap.size+7;omega) _).alloc S
 ·rw[List.length_append];exact bC
 have:b=w.heap.size+5\/b=w.heap.size+4\/b=w.heap.size+6:=by simpa using hb'
 exact hk2 b kO kO
end
theorem zGu(ex:Ext)(w:World)(hw:11<=w.heap.size):Stab (w.heap.size+7) (w.heap.size+4) (zMm ex w):=by
 rintro pre W W' row ⟨⟨v,hv,hrow⟩,hall,hC,hR,hE,hB,hsz,hT⟩ hg hr;have hB':=zG1 hg hr hB kO kO;refine⟨⟨v,z42 hg hr hv kO,q0x hg hr hrow kO⟩,hall,z42 hg hr hC kO,z42 hg hr hR kO,z42 hg hr hE kO,hB',Nat.le_trans hsz hg.size,?_⟩;refine hT.on (B:=w.heap.size) ⟨hg.os,hg.tape,hg.output,hg.size,fun k hk=>hg.block k kO fun e=>?_⟩ hw;rcases hr k e.symm with⟨hb,_⟩|hb
 ·omega
 omega
theorem zKy(w:World)(c:Code):Stab (w.heap.size+7) (w.heap.size+4) (Left w c):=by
 rintro pre W W' row ⟨hc,pre0,x,p,hpre,hall,hx,hR,hE,hp7,hp,hB⟩ hg hr;exact⟨hc,pre0,x,p,hpre,hall,hx,z42 hg hr hR kO,z42 hg hr hE kO,hp7,z42 hg hr hp kO,zG1 hg hr hB kO kO⟩
theorem z94: ∀(f:Nat)(t:ByteArray),0<(z1u f t).length
 |0,t=>by simp[z1u]
 |f+1,t=>by
  by_cases h:0<=semi t
  ·rw[zB0 h];simp
  ·rw[zAz h];simp
def nth(xs:List St)(j:Nat):St:=xs[j]?.getD St.zero
theorem q1m(x:St)(xs:List St)(j:Nat):nth (x::xs) (j+1)=nth xs j:=by simp[nth]
theorem z64(x:St):x.cells.toList.length=6:=rfl
theorem cells_at: ∀(xs:List St)(i k:Nat),i<xs.length->k<6->(z1p xs)[i*6+k]?=(nth xs i).cells.toList[k]?
 |[],i,k,h,_=>by simp at h
 |x::xs,0,k,_,hk=>by
  show(z1p (x::xs))[0*6+k]?=_;rw[Nat.zero_mul,Nat.zero_add,show z1p (x::xs)=x.cells.toList++z1p xs by simp[z1p],List.getElem?_append_left (by rw[z64];exact hk)];rfl
 |x::xs,i+1,k,h,hk=>by
  rw[show z1p (x::xs)=x.cells.toList++z1p xs by simp[z1p],List.getElem?_append_right (by rw[z64];omega),z64,show(i+1)*6+k-6=i*6+k by omega,cells_at xs i k (by simpa using h) hk,q1m]
theorem z8d{W:World}{base g n cap:Nat}{xs:List St}(h:W.ownsRow base 135 6 (.slice (some ⟨g,0,none⟩) n cap) n (z1p xs))(hl:xs.length=n){i k:Nat}(hi:i<n)(hk:k<6):W.cell? ⟨g,0+i*6+k,none⟩=(nth xs i).cells.toList[k]?:=by
 rcases h.2 with⟨hc,_⟩|⟨g',cap',cur,hc,_,hg,_,_,_,ht⟩
 ·cases hc
 cases hc;rw[<-cells_at xs i k kO hk, <-ht,List.getElem?_take_of_lt kO];simp[World.cell?,hg]
theorem z7s{W:World}{base g n cap:Nat}{xs:List St}(h:W.ownsRow base 135 6 (.slice (some ⟨g,0,none⟩) n cap) n (z1p xs))(hl:xs.length=n):
  z1v W g 0 n (fun j=>(nth xs j).c) (fun j=>(nth xs j).d) (fun j=>(nth xs j).s) (fun j=>(nth xs j).r) (fun j=>(nth xs j).o) (fun j=>(nth xs j).n):=fun i hi=>
 ⟨z8d h hl hi (k:=0) kO,z8d h hl hi (k:=1) kO,z8d h hl hi (k:=2) kO,z8d h hl hi (k:=3) kO,z8d h hl hi (k:=4) kO,z8d h hl hi (k:=5) kO⟩
theorem zKd{W:World}{base g n cap size:Nat}{e:TypeId}{xs:List Value}(h:W.ownsRow base e size (.slice (some ⟨g,0,none⟩) n cap) n xs):g<W.heap.size:=by
 rcases h.2 with⟨hc,_⟩|⟨g',cap',cur,hc,_,hg,_⟩
 ·cases hc
 cases hc;exact(Array.getElem?_eq_some_iff.1 hg).1
def z3p(xs:List St)(j:Nat):Int:=z32 xs.length (fun j=>(nth xs j).c) (fun j=>(nth xs j).d) (fun j=>(nth xs j).s) (fun j=>(nth xs j).r) (fun j=>(nth xs j).o) (fun j=>(nth xs j).n) j
theorem zU9{W:World}{base g n cap:Nat}{xs:List St}(hrow:W.ownsRow base 135 6 (.slice (some ⟨g,0,none⟩) n cap) n (z1p xs))(hl:xs.length=n)(h1:0<n)(h2:n<=200)(hno: ∀j,j<n->z3p xs j=0):
  Calls tP 74 #[.slice (some ⟨g,0,none⟩) n cap] W fun e w1=>e= rT .nilIface/\Below W.heap.size W w1:=by
 subst hl;exact z5z hno (z7s hrow rfl) h1 h2 (zKd hrow)
theorem zYu{W:World}{base g n cap i:Nat}{xs:List St}(hrow:W.ownsRow base 135 6 (.slice (some ⟨g,0,none⟩) n cap) n (z1p xs))(hl:xs.length=n)(h1:0<n)(h2:n<=200)(hi:i<n)(hno: ∀j,j<i->z3p xs j=0)(hf:z3p xs i≠0):
  Calls tP 74 #[.slice (some ⟨g,0,none⟩) n cap] W fun e w1=> ∃p,e= rT (.iface 166 (pT (some ⟨p,0,none⟩)))/\Below W.heap.size W w1/\p<w1.heap.size/\w1.cell? ⟨p,0,none⟩=some (A C (z3p xs i))/\w1.cell? ⟨p,1,none⟩=some (A C i):=by
 subst hl;exact zO6 hi hno hf (z7s hrow rfl) h1 h2 (zKd hrow)
def zRf(w:World)(s:ByteArray)(e:Ending)(W:World):Prop:=
 Below w.heap.size w W/\
 ((∃pre x post p,z0l s=pre++x::post/\(∀y∈pre,(z3n y).isSome=true)/\z3n x=none/\e= rT (.tuple #[.slice none 0 0,.iface 166 (pT (some ⟨p,0,none⟩))])/\p<W.heap.size/\W.cell? ⟨p,0,none⟩=some (A C 3)/\W.cell? ⟨p,1,none⟩=some (A C pre.length))
 \/((∀y∈z0l s,(z3n y).isSome=true)/\
  ((200<(z0l s).length/\e= rT (.tuple #[.slice none 0 0,.iface 33 (A C 4)]))
  \/((z0l s).length<=200/\
   ((∃i p,i<(z0l s).length/\(∀j,j<i->z3p (z34 (z0l s)) j=0)/\z3p (z34 (z0l s)) i≠0/\e= rT (.tuple #[.slice none 0 0,.iface 166 (pT (some ⟨p,0,none⟩))])/\p<W.heap.size/\W.cell? ⟨p,0,none⟩=some (A C (z3p (z34 (z0l s)) i))/\W.cell? ⟨p,1,none⟩=some (A C i))
   \/((∀j,j<(z0l s).length->z3p (z34 (z0l s)) j=0)/\ ∃g cap,e= rT (.tuple #[.slice (some ⟨g,0,none⟩) (z0l s).length cap,.nilIface])/\W.ownsRow w.heap.size 135 6 (.slice (some ⟨g,0,none⟩) (z0l s).length cap) (z0l s).length (z1p (z34 (z0l s)))))))))
section
variable {w1:World} {B D:Nat} {v1 v2 u1 u2:Value}
theorem z6u{t:TypeId}{u:Value}(h:Boxed w1 B t u)(hK:w1.heap[D]?=some (.deferred (some []))):D≠B:=by
 rintro rfl;have h':w1.heap[D]?=_:=h;rw[hK]at h';cases h'
theorem z56(hR:Boxed w1 B 73 u1)(hE:Boxed w1 (B+1) 29 u2)(hK:w1.heap[D]?=some (.deferred (some []))):((w1.setCell ⟨B,0,none⟩ v1).setCell ⟨B+1,0,none⟩ v2).heap[D]?=some (.deferred (some [])):=
 (Below.heap_setCell _ _ _ _ (z6u hE hK)).trans ((Below.heap_setCell _ _ _ _ (z6u hR hK)).trans hK)
theorem z6k{W:World}{k:Nat}{o:Obj}(h:k≠D):(W.putObj D o).heap[k]?=W.heap[k]?:=World.putObj_heap_other h
theorem zDk(hR:Boxed w1 B 73 u1)(hK:w1.heap[D]?=some (.deferred (some []))):Boxed (((w1.setCell ⟨B,0,none⟩ v1).setCell ⟨B+1,0,none⟩ v2).putObj D (.deferred none)) B 73 v1:=
 (z6k (z6u hR hK).symm).trans (Boxed.other_box (hR.set v1) kO _)
theorem zB2(hE:Boxed w1 (B+1) 29 u2)(hK:w1.heap[D]?=some (.deferred (some []))):Boxed (((w1.setCell ⟨B,0,none⟩ v1).setCell ⟨B+1,0,none⟩ v2).putObj D (.deferred none)) (B+1) 29 v2:=
 (z6k (z6u hE hK).symm).trans ((Boxed.other_box hE kO _).set v2)
theorem zWr{k:Nat}(h1:k≠B)(h2:k≠B+1)(h3:k≠D):(((w1.setCell ⟨B,0,none⟩ v1).setCell ⟨B+1,0,none⟩ v2).putObj D (.deferred none)).heap[k]?=w1.heap[k]?:=
 (z6k h3).trans ((Below.heap_setCell _ _ _ _ h2).trans (Below.heap_setCell _ _ _ _ h1))
theorem zDl{w:World}(hB:Below w.heap.size w w1)(hR:Boxed w1 w.heap.size 73 u1)(hE:Boxed w1 (w.heap.size+1) 29 u2)(hD:w.heap.size<=D)(hK:w1.heap[D]?=some (.deferred (some []))):Below w.heap.size w (((w1.setCell ⟨w.heap.size,0,none⟩ v1).setCell ⟨w.heap.size+1,0,none⟩ v2).putObj D (.deferred none)):=
 ((hB.setCell (Nat.le_refl _) _).setCell (by show w.heap.size<=w.heap.size+1;omega) _).trans (belowK_b (w:=w) (Nat.le_refl _) _ D _ _ hD (z56 hR hE hK) rfl rfl)
theorem zMe{W W':World}{k i:Nat}(h:W'.heap[k]?=W.heap[k]?):W'.cell? ⟨k,i,none⟩=W.cell? ⟨k,i,none⟩:=by simp[World.cell?,h]
theorem zWs{p:Nat}{x:Int}(hR:Boxed w1 B 73 (.slice none 0 0))(hE:Boxed w1 (B+1) 29 .nilIface)(hK:w1.heap[D]?=some (.deferred (some [])))(hc:w1.cell? ⟨p,0,none⟩=some (A C x)):(((w1.setCell ⟨B,0,none⟩ v1).setCell ⟨B+1,0,none⟩ v2).putObj D (.deferred none)).heap[p]?=w1.heap[p]?:=by
 refine zWr ?_ ?_ ?_
 ·rintro rfl;rw[hR.cell]at hc;cases hc
 ·rintro rfl;rw[hE.cell]at hc;cases hc
 rintro rfl;simp[World.cell?,hK]at hc
theorem q0z(w:World)(D:Nat)(o:Obj):(w.putObj D o).heap.size=w.heap.size:=by simp[World.putObj]
theorem z5x{tmps:Array Value}{W:World}{t1 t2:TypeId}(h2:tmps[2]?.getD undef= pT (some ⟨B,0,none⟩))(h3:tmps[3]?.getD undef= pT (some ⟨B+1,0,none⟩))(b1:Boxed W B t1 v1)(b2:Boxed W (B+1) t2 v2):(results Tryz.f71 tmps).run tP W= .ok (.tuple #[v1,v2]) W:=by
 have c1:=b1.cell;have c2:=b2.cell;simp[results,Tryz.results71,go_sem,h2,h3,c1,c2]
end
section
theorem zQ3(he: ∀w,ex.holds w->z17 w)(hu: ∀w,ex.holds w->Lib.Utf8Tabs 2 3 w)(s:ByteArray)(hs:s.size<=100000)(w:World)(hT:Tabs ex w):
  Calls tP 71 #[.string s] w fun e W'=>zRf w s e W':=by
 refine(callsIn_wide (n:=8)).1 ?_;have hF:=Fine.start hT;have hf1:Fence.wide.fn 27:=trivial;obtain⟨i0,hi,hz0,hz1,hz2⟩:=info_parts Tryz.infoStep;refine callsIn_of_wp_marks Tryz.func71 rfl trivial ?_ rfl;simp only[Tryz.ntmps71,List.size_toArray,List.length_cons,List.length_nil,Nat.reduceAdd,Nat.reduceSub,Array.replicate_succ,Array.replicate_zero,List.push_toArray,List.append_toArray,List.nil_append,List.cons_append];gi_wp2_with (gi_at_call 27;refine(callsIn_wide.2 (zK3 _ _)).mono ?_;rintro e w' ⟨rfl,rfl⟩)
 obtain⟨W0,hW0⟩: ∃W0,(((((((w.alloc (cT #[.slice none 0 0] 73)).alloc (cT #[.nilIface] 29)).alloc (cT #[.slice none 0 0] 73)).alloc (cT #[A C 0] 3)).alloc (cT #[.string s] 9)).alloc (cT #[.string ⟨#[59]⟩] 9)).alloc (cT #[A C 0] 3))=W0:=⟨_,rfl⟩;have hz7:W0.heap.size=w.heap.size+7:=by rw[<-hW0];simp
 have hF7:Fine ex w W0:=by rw[<-hW0];exact((((((hF.alloc _).alloc _).alloc _).alloc _).alloc _).alloc _).alloc _
 have b0:Boxed W0 w.heap.size 73 (.slice none 0 0):=by rw[<-hW0];exact(((((Boxed.new w _ _).alloc _).alloc _).alloc _).alloc _).alloc _|>.alloc _
 have b1:Boxed W0 (w.heap.size+1) 29 .nilIface:=by
  rw[<-hW0];have h:=Boxed.new (w.alloc (cT #[.slice none 0 0] 73)) 29 .nilIface;simp only[World.size_alloc]at h;exact((((h.alloc _).alloc _).alloc _).alloc _).alloc _
 have b2:Boxed W0 (w.heap.size+2) 73 (.slice none 0 0):=by
  rw[<-hW0];have h:=Boxed.new ((w.alloc (cT #[.slice none 0 0] 73)).alloc (cT #[.nilIface] 29)) 73 (.slice none 0 0);simp only[World.size_alloc]at h;exact(((h.alloc _).alloc _).alloc _).alloc _
 have b3:Boxed W0 (w.heap.size+3) 3 (A C 0):=by
  rw[<-hW0];have h:=Boxed.new (((w.alloc (cT #[.slice none 0 0] 73)).alloc (cT #[.nilIface] 29)).alloc (cT #[.slice none 0 0] 73)) 3 (A C 0);simp only[World.size_alloc]at h;exact((h.alloc _).alloc _).alloc _
 have b4:Boxed W0 (w.heap.size+4) 9 (.string s):=by
  rw[<-hW0];have h:=Boxed.new ((((w.alloc (cT #[.slice none 0 0] 73)).alloc (cT #[.nilIface] 29)).alloc (cT #[.slice none 0 0] 73)).alloc (cT #[A C 0] 3)) 9 (.string s);simp only[World.size_alloc]at h;exact(h.alloc _).alloc _
 have b5:Boxed W0 (w.heap.size+5) 9 (.string ⟨#[59]⟩):=by
  rw[<-hW0];have h:=Boxed.new (((((w.alloc (cT #[.slice none 0 0] 73)).alloc (cT #[.nilIface] 29)).alloc (cT #[.slice none 0 0] 73)).alloc (cT #[A C 0] 3)).alloc (cT #[.string s] 9)) 9 (.string ⟨#[59]⟩);simp only[World.size_alloc]at h;exact h.alloc _
 have b6:Boxed W0 (w.heap.size+6) 3 (A C 0):=by
  rw[<-hW0];have h:=Boxed.new ((((((w.alloc (cT #[.slice none 0 0] 73)).alloc (cT #[.nilIface] 29)).alloc (cT #[.slice none 0 0] 73)).alloc (cT #[A C 0] 3)).alloc (cT #[.string s] 9)).alloc (cT #[.string ⟨#[59]⟩] 9)) 3 (A C 0);simp only[World.size_alloc]at h;exact h
 rw[hW0];clear hW0;simp only[Nat.add_assoc,Nat.reduceAdd];have hroom:=hT.room
 have hseq:zPk (8-1) tP 95 #[pT (some ⟨w.heap.size+5,0,none⟩),pT (some ⟨w.heap.size+4,0,none⟩),pT (some ⟨w.heap.size+6,0,none⟩)] (fun x:z2u=>#[Value.string x.1]) (z2q w.heap.size [w.heap.size+5,w.heap.size+4,w.heap.size+6])
   (fun ys=>ys.map (·.1)=z0l s) (fun pre=>pre.map (·.1)<+:z0l s) (z0l s).length (w.heap.size+4) W0:=fun l J Jx W hW hJ _ hY h0=>
  zVz (8-1) kO l (w.heap.size+5) (w.heap.size+4) (w.heap.size+6) w.heap.size kO kO s hs J Jx W hJ hY ((hW.block _ kO).trans b5) ((hW.block _ kO).trans b4) ((hW.block _ kO).trans b6) h0
 refine zG6 kO rfl (enters_of Tryz.func95 kR rfl) hseq kO z2q.trans (z2q.put kO kZ) (fun _=>rfl) (zMm ex w) (Left w)
  (by rw[hz7];exact(zGu ex w hroom).own) (zGu ex w hroom).abide (fun c=>by rw[hz7];exact(zKy w c).own) (fun c=>(zKy w c).abide)
  ⟨⟨_,b2,World.ownsRow_nil _ _ _ _⟩,(fun x hx=>by cases hx),b3,b0,b1,hF7.bel,by omega,hF7.tabs⟩
  (fun x=>{tmps:=#[.string s,undef,pT (some ⟨w.heap.size,0,none⟩),pT (some ⟨w.heap.size+1,0,none⟩),pT (some ⟨w.heap.size+2,0,none⟩),pT (some ⟨w.heap.size+3,0,none⟩),.string x.1,undef,undef,undef,.string s,
   .func (.func 95) #[] #[pT (some ⟨w.heap.size+5,0,none⟩),pT (some ⟨w.heap.size+4,0,none⟩),pT (some ⟨w.heap.size+6,0,none⟩)],.string x.1,undef,undef,undef,undef,undef,undef,undef,undef,undef,undef,undef,undef,undef,undef,undef,undef,undef,undef,undef,undef,undef,undef,undef,undef,undef,undef],defers:=[]}) ?assign ?body ?done ?stop
 case assign=>
  intro l x W K hK;gi_wp2
  exact hK
 case body=>
  rintro l pre x W ⟨⟨v,hv,hrow⟩,hall,hC,hR,hE,hB,hsz,hTW⟩ hlt;have hpl:=z9o s.size s
  have hlt':pre.length<=100001:=by
   have h:pre.length<(z1u s.size s).length:=hlt;omega
  have hfr:Fence.wide.fn 104:=trivial;have cV:=hv.cell;have mixed:Tryz.prog.follows Departure.mixedOrders=true:=by kernel_rfl
  cases htl:z3n x.1 with
  |none=>
   have HS:Hid (zD0 (z6i ((z0z x.1).take 5))= .tuple #[.agg St.zero.cells,.bool false]):=by
    show zD0 (z3n x.1)=_;rw[htl];rfl
   gi_wp2_with (gi_at_call 104;refine(CallsIn.inRound l (callsIn_wide.2 (zDb he hu x.1 x.2 _ hTW))).mono ?_;rintro e w1 ⟨rfl,hb1⟩;rw[HS.out];simp only[St.cells,St.zero];have hC1:=z0m hC hb1;have hR1:=z0m hR hb1;have hE1:=z0m hE hb1;have cC:=hC1.cell;have cR:=hR1.cell;have fR:=hR1.frozen;have cE:=hE1.cell;have fE:=hE1.frozen;have l1:=hC1.lt;have l2:=hR1.lt;have l3:=hE1.lt)
   gi_region_o
   all_goals gi_wp2
   all_goals(try go_bits)
   all_goals exact q2a hb1 hall htl hR hE hB hsz
  |some st=>
   have HS:Hid (zD0 (z6i ((z0z x.1).take 5))= .tuple #[.agg st.cells,.bool true]):=by
    show zD0 (z3n x.1)=_;rw[htl];rfl
   have hgo:zMm ex w pre W:=⟨⟨v,hv,hrow⟩,hall,hC,hR,hE,hB,hsz,hTW⟩;obtain⟨ao,cp,rfl⟩:=zGb hrow
   by_cases h200:pre.length<=200
   ·obtain⟨m,hm⟩: ∃m,m=min pre.length 201:=⟨_,rfl⟩
    have hm':m=pre.length:=kO;rw[<-hm]at hrow hv cV;have x1:decide ((m:Int)<=200)=true:=kZ;have hm2:m<=200:=kO;have HM:Hid (m=pre.length):=hm';clear hm hm'
    gi_wp2_with (first
     |(gi_at_call 104;refine(CallsIn.inRound l (callsIn_wide.2 (zDb he hu x.1 x.2 _ hTW))).mono ?_;rintro e w1 ⟨rfl,hb1⟩;rw[HS.out];simp only[St.cells];have hC1:=z0m hC hb1;have hV1:=z0m hv hb1;have cC:=hC1.cell;have fC:=hC1.frozen;have cV1:=hV1.cell;have l1:=hC1.lt;have l2:=hV1.lt;have hV2:=(Boxed.other_box hV1 (c:=w.heap.size+3) kO (A C ((pre.length:Int)+1))).alloc (cT st.cells 135);have hrow2:=(ownsRow_setCell_below (zB1 hrow hb1) (a:=⟨w.heap.size+3,0,none⟩) (by show w.heap.size+3<w.heap.size+7;omega) (A C ((pre.length:Int)+1))).alloc (cT st.cells 135))
     |(gi_at_builtin;refine wpListIn_append_own _ rfl _ _ 73 rfl (w.heap.size+7) 135 i0 (.agg St.zero.cells) 6 48 Tryz.underlying73 hi hz0 hz1 hz2 rfl kD _ _ _ rfl (hrow2.alloc _) ⟨w1.heap.size+1,0,none⟩ 1 1 st.cells.toList rfl rfl (zYw kS) (zW1 st) (by unfold maxLen;omega) kO (by have:=hb1.size;simp;omega) ?_;intro v' w3 hown' hgrow _;obtain⟨g',cap',rfl⟩:=zGc hown' kO;obtain⟨hv1,hv2,hr2,hk2,hb2,hj2⟩:=zU4 hV2 kO (by have:=hb1.size;rw[World.size_alloc,z4e];omega) hrow2 hown' hgrow;have hc1:=hv1.cell;have hf1:=hv1.frozen)
     |gi_in)
    obtain⟨G,K⟩:=zXx hgo hroom hb1 h200 htl HM.out hv2 hr2 hj2 hb2;exact⟨((zJa hb1 hgo _).2.2.2.2.1.trans hk2).from _,K,G⟩
   ·obtain⟨m,hm⟩: ∃m,m=min pre.length 201:=⟨_,rfl⟩
    rw[<-hm]at hv cV;have x1:decide ((m:Int)<=200)=false:=kZ;clear hm;gi_wp2_with (gi_at_call 104;refine(CallsIn.inRound l (callsIn_wide.2 (zDb he hu x.1 x.2 _ hTW))).mono ?_;rintro e w1 ⟨rfl,hb1⟩;rw[HS.out];simp only[St.cells];have hC1:=z0m hC hb1;have hV1:=z0m hv hb1;have cC:=hC1.cell;have fC:=hC1.frozen;have cV1:=hV1.cell;have l1:=hC1.lt;have l2:=hV1.lt)
    obtain⟨G,K⟩:=zTw (S:= cT st.cells 135) hgo hroom hb1 h200 htl;exact⟨(zJa hb1 hgo _).2.2.2.2.1.from _,K,G⟩
 case done=>
  rintro D ys W hD hS ⟨⟨v,hv,hrow⟩,hall,hC,hR,hE,hB,hsz,hTW⟩ hK;have hf6:Fence.wide.fn 74:=trivial;have cV:=hv.cell;have cR:=hR.cell;have fR:=hR.frozen;have cE:=hE.cell;have fE:=hE.frozen
  have hall': ∀y∈z0l s,(z3n y).isSome=true:=by
   rw[<-hS];intro y hy;obtain⟨x,hx,rfl⟩:=List.mem_map.1 hy;exact hall x hx
  have hlen:(z0l s).length=ys.length:=by rw[<-hS,List.length_map]
  by_cases h200:ys.length<=200
  ·have hpos:0<ys.length:=by rw[<-hlen];exact z94 _ _
   rw[hS,Nat.min_eq_left kO,List.take_of_length_le (by rw[z4o];omega), <-hlen]at hrow;have hl:=z4o (z0l s);obtain⟨n,hn⟩: ∃n,n=(z0l s).length:=⟨_,rfl⟩;obtain⟨xs,hxs⟩: ∃xs,xs=z34 (z0l s):=⟨_,rfl⟩;rw[<-hn, <-hxs]at hrow hl;obtain⟨g,cp,rfl⟩:=zGc hrow kO;have hn1:0<n:=kO;have hn2:n<=200:=kO;have HN:Hid (n=(z0l s).length):=hn;have HX:Hid (xs=z34 (z0l s)):=hxs;clear hn hxs hS hlen;rcases first_fault (z3p xs) n with hno|⟨i,hi,hno,hf⟩
   ·gi_wp2_with (gi_at_call 74;refine(callsIn_wide.2 (zU9 hrow hl hn1 hn2 hno)).mono ?_;rintro e w1 ⟨rfl,hb1⟩;have hR1:=z0m hR hb1;have hE1:=z0m hE hb1;have hV1:=z0m hv hb1;have cR1:=hR1.cell;have fR1:=hR1.frozen;have cE1:=hE1.cell;have fE1:=hE1.frozen;have cV1:=hV1.cell)
    have hK1:=(hb1.block D (Array.getElem?_eq_some_iff.1 hK).1).trans hK;refine⟨by simp,.inl ⟨_,_,rfl,run_takeDeferred (z56 hR1 hE1 hK1),?_⟩⟩;refine⟨_,z5x rfl rfl (zDk hR1 hK1) (zB2 hE1 hK1),zDl (hB.trans (hb1.mono kO)) hR1 hE1 kO hK1,.inr ⟨hall',.inr ⟨by rw[<-HN.out];exact hn2,.inr ?_⟩⟩⟩;rw[<-HN.out, <-HX.out];exact⟨hno,g,cp,rfl,zSt (ownsRow_putObj (ownsRow_setCell_below (ownsRow_setCell_below (zB1 hrow hb1) (a:=⟨w.heap.size,0,none⟩) (by show w.heap.size<w.heap.size+7;omega) _) (a:=⟨w.heap.size+1,0,none⟩) (by show w.heap.size+1<w.heap.size+7;omega) _) _ (z56 hR1 hE1 hK1) rfl) kO⟩
   ·gi_wp2_with (gi_at_call 74;refine(callsIn_wide.2 (zYu hrow hl hn1 hn2 hi hno hf)).mono ?_;rintro e w1 ⟨p,rfl,hb1,hp,hc0,hc1⟩;have hR1:=z0m hR hb1;have hE1:=z0m hE hb1;have cR1:=hR1.cell;have fR1:=hR1.frozen;have cE1:=hE1.cell;have fE1:=hE1.frozen)
    have hK1:=(hb1.block D (Array.getElem?_eq_some_iff.1 hK).1).trans hK;refine⟨by simp,.inl ⟨_,_,rfl,run_takeDeferred (z56 hR1 hE1 hK1),?_⟩⟩;have hpk:=zWs (v1:= .slice none 0 0) (v2:= .iface 166 (pT (some ⟨p,0,none⟩))) hR1 hE1 hK1 hc0;refine⟨_,z5x rfl rfl (zDk hR1 hK1) (zB2 hE1 hK1),zDl (hB.trans (hb1.mono kO)) hR1 hE1 kO hK1,.inr ⟨hall',.inr ⟨by rw[<-HN.out];exact hn2,.inl ?_⟩⟩⟩;rw[<-HN.out, <-HX.out];exact⟨i,p,hi,hno,hf,rfl,by rw[q0z,z4e,z4e];exact hp,(zMe hpk).trans hc0,(zMe hpk).trans hc1⟩
  ·obtain⟨ao,cp,rfl⟩:=zGb hrow
   obtain⟨m,hm⟩: ∃m,m=min ys.length 201:=⟨_,rfl⟩;rw[<-hm]at hv cV;have hm2:m<1\/200<m:=kO;clear hm;gi_wp2_with (gi_at_call 74;refine(callsIn_wide.2 (zIf _ _ _ hm2 _)).mono ?_;rintro e w1 ⟨rfl,rfl⟩)
   refine⟨by simp,.inl ⟨_,_,rfl,run_takeDeferred (z56 hR hE hK),?_⟩⟩;exact⟨_,z5x rfl rfl (zDk hR hK) (zB2 hE hK),zDl hB hR hE kO hK,.inr ⟨hall',.inl ⟨by omega,rfl⟩⟩⟩
 case stop=>
  rintro D c pre W hD ⟨post,hSp⟩ ⟨rfl,pre0,x,p,rfl,hall,hx,hR,hE,hp7,hp,hB⟩ hK;gi_wp2
  refine⟨by simp,.inl ⟨_,_,rfl,run_takeDeferred hK,?_⟩⟩
  have hpD:p≠D:=by
   rintro rfl;rw[hK]at hp;cases hp
  have hpp:(W.putObj D (.deferred none)).heap[p]?=_:=(z6k hpD).trans hp;refine⟨_,z5x rfl rfl ((z6k (z6u hR hK).symm).trans hR) ((z6k (z6u hE hK).symm).trans hE),hB.trans (belowK_b (w:=w) (Nat.le_refl _) W D _ _ kO hK rfl rfl),.inl ⟨pre0.map (·.1),x.1,post,p,?_,?_,hx,rfl,(Array.getElem?_eq_some_iff.1 hpp).1,?_,?_⟩⟩
  ·rw[<-hSp];simp
  ·intro y hy
   obtain⟨z,hz,rfl⟩:=List.mem_map.1 hy;exact hall z hz
  ·simp[World.cell?,hpp]
  ·simp[World.cell?,hpp]
end
end Go.Proofs.YtkdflpplamebkaaGreatDoor
