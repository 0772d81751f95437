/-
A part of the proof of DeskPieces; its card says what is proved.
-/
import Derived.Test.YtkdflpplamebkaaGreatDoorJp26
set_option maxHeartbeats 40000000
open Go.Value renaming int → A
open Go.IntKind renaming i64 → F
open Go.RowKit.Below renaming alloc → bA, setCell → bS, drew → bD, refl → bF
set_option maxRecDepth 1000000
set_option linter.defProp false
set_option linter.unusedVariables false
set_option linter.unusedSimpArgs false
open Go.Ending renaming returned → rT
open Go.Value renaming pointer → pT
open Go.Obj renaming cells → cT
open Go.Proofs.Tryz renaming prog → tP
namespace Go.Proofs.YtkdflpplamebkaaGreatDoor
open Go.ChangeShapes Go.WideShapes Go.ChangeAt Go.RowKit
section
def posL(st:List (Nat×Way)):List (Int×Way):=st.map fun x=>((x.1:Int),x.2)
def z5f(es:List Kno):List Value:=es.flatMap fun b=>[A F b.l,A F b.h]
def z3t(w:World)(base:Nat)(v:Value)(es:List Kno):Prop:=w.ownsRow base 84 2 v es.length (z5f es)
theorem zJ0(es:List Kno)(b:Kno):z5f (es++[b])=z5f es++[A F b.l,A F b.h]:=by
 unfold z5f;rw[List.flatMap_append];simp
theorem q1j(pc:Nat)(y:Way)(st:List (Nat×Way)):posL (((pc,y)::st).reverse)=posL st.reverse++[((pc:Int),y)]:=by unfold posL;rw[List.reverse_cons,List.map_append];rfl
theorem zQ6(st:List (Nat×Way)):(posL st.reverse).length=st.length:=by unfold posL;rw[List.length_map,List.length_reverse]
theorem q5x(C D S:Nat->Int)(R:Nat->Bool)(O N:Nat->Int)(f:Nat)(es:List Kno):goF C D S R O N f [] es= .inr es:=by cases f<;>rfl
theorem q2k{C D S:Nat->Int}{R:Nat->Bool}{O N:Nat->Int}(f pc:Nat)(y:Way)(st:List (Nat×Way))(es:List Kno)(d s:Nat)(hd:D pc=(d:Int))(hs:S pc=(s:Int)):
  goF C D S R O N (f+1) ((pc,y)::st) es=if(y.look (C pc) d s (R pc) (O pc) (N pc)).2≠0 then .inl ((y.look (C pc) d s (R pc) (O pc) (N pc)).2,pc)
   else goF C D S R O N f ((y.look (C pc) d s (R pc) (O pc) (N pc)).1.map (fun z=>(pc+1+z.1.toNat,z.2))++st) (if C pc=28 then es++[y.reg 0]else es):=by
 rw[goF];simp only[hd,hs,Int.toNat_natCast]
theorem zBg(w:World)(a b:Value)(t:TypeId):(w.alloc (cT #[a,b] t)).drew.cell? ⟨w.heap.size,0,none⟩=some a/\(w.alloc (cT #[a,b] t)).drew.cell? ⟨w.heap.size,1,none⟩=some b/\w.heap.size<(w.alloc (cT #[a,b] t)).drew.heap.size:=by
 have h:(w.alloc (cT #[a,b] t)).drew.heap[w.heap.size]?=some (cT #[a,b] t (0,0)):=heap_alloc_new w _;obtain⟨h0,h1, -, -,h2⟩:=row2 h;exact⟨h0,h1,h2⟩
section
variable {w w':World} {base:Nat} {v:Value} {l:List (Int×Way)} {es:List Kno}
theorem z0g.shape(h:z0g w base v l): ∃a cap,v= .slice a l.length cap:=by
 rcases h.2 with⟨h1,h2⟩|⟨g,cap,cur,h1,_⟩
 ·exact⟨none,0,by rw[h2];exact h1⟩
 exact⟨_,_,h1⟩
theorem z0g.more{x:Int×Way}(h:z0g w base v (l++[x])): ∃g cap,v= .slice (some ⟨g,0,none⟩) (l.length+1) cap/\l.length+1<=cap/\cap<=maxLen/\base<=g/\g<w.heap.size:=by
 rcases h.2 with⟨_,h2⟩|⟨g,cap,cur,h1,h2,h3,h4,h5,_⟩
 ·rw[List.length_append]at h2;exact absurd h2 kS
 rw[List.length_append]at h1 h4;exact⟨g,cap,h1,h4,h5,h2,(Array.getElem?_eq_some_iff.1 h3).1⟩
theorem z0g.pop{g cap:Nat}{x:Int×Way}(h:z0g w base (.slice (some ⟨g,0,none⟩) (l.length+1) cap) (l++[x])):z0g w base (.slice (some ⟨g,0,none⟩) l.length cap) l:=by
 rcases h.2 with⟨h1,_⟩|⟨g',cap',cur,h1,h2,h3,h4,h5,h6,h7⟩
 ·exact absurd h1 kS
 rw[List.length_append]at h1 h4 h7
 cases h1;refine⟨by rw[z2k],Or.inr ⟨g,cap,cur,rfl,h2,h3,by omega,h5,h6,?_⟩⟩;have h8:(cur.toList.take ((l.length+[x].length)*82)).take (l.length*82)=(z0q (l++[x])).take (l.length*82):=by rw[h7]
 rw[List.take_take,Nat.min_eq_left (Nat.mul_le_mul_right _ kO),z67, <-z2k l]at h8;rw[<-z2k l,h8,List.take_left]
theorem zC4(l1 l2:List (Int×Way)):z0q (l1++l2)=z0q l1++z0q l2:=by unfold z0q;rw[List.flatMap_append]
theorem z0g.elem{g n cap:Nat}{x:Int×Way}{l2:List (Int×Way)}(h:z0g w base (.slice (some ⟨g,0,none⟩) n cap) (l++x::l2)):w.rangeAt g (l.length*82) (z04 x.1 x.2).toList:=by
 intro j u hj
 have hk:=World.ownsRow.cells h (g:=g) rfl (l.length*82+j) u (by
  rw[zC4,List.getElem?_append_right (by rw[z2k];omega),z2k,show l.length*82+j-l.length*82=j by omega];unfold z0q;rw[List.flatMap_cons,List.getElem?_append_left (List.getElem?_eq_some_iff.1 hj).1];exact hj)
 rw[Addr.add_mid,Nat.zero_add]at hk;exact hk
theorem z0g.some_of{a:Option Addr}{n cap:Nat}(h:z0g w base (.slice a n cap) l)(hl:0<l.length): ∃g,a=some ⟨g,0,none⟩/\n=l.length/\base<=g/\g<w.heap.size:=by
 rcases h.2 with⟨_,h2⟩|⟨g,cap',cur,h1,h2,h3,_⟩
 ·omega
 cases h1;exact⟨g,rfl,rfl,h2,(Array.getElem?_eq_some_iff.1 h3).1⟩
theorem z3t.nil(w:World)(base:Nat):z3t w base (.slice none 0 0) []:=World.ownsRow_nil _ _ _ _
theorem z3t.later(h:z3t w base v es)(hb:Below w.heap.size w w'):z3t w' base v es:=
 World.ownsRow.kept (w':=w') (row:=none) h ⟨hb.os,hb.tape,hb.output,hb.size,fun k hk _=>hb.block k hk⟩ (by cases v.ownBlock<;>simp)
theorem z3t.grown{row:Option Nat}(h:z3t w base v es)(hg:w.grownBy w' row)(hne: ∀k,row=some k->v.ownBlock≠some k):z3t w' base v es:=
 World.ownsRow.kept (w':=w') (row:=row) h hg (by
  cases row with
  |none=>cases v.ownBlock<;>simp
  |some k=>exact Or.inr (hne k rfl))
theorem z0g.grown{row:Option Nat}(h:z0g w base v l)(hg:w.grownBy w' row)(hne: ∀k,row=some k->v.ownBlock≠some k):z0g w' base v l:=
 World.ownsRow.kept (w':=w') (row:=row) h hg (by
  cases row with
  |none=>cases v.ownBlock<;>simp
  |some k=>exact Or.inr (hne k rfl))
theorem z3t.above(h:z3t w base v es): ∀k,v.ownBlock=some k->base<=k/\k<w.heap.size:=World.ownsRow.lt h
end
theorem zBk{ops:Array Oper}{rest:List Oper}{o:Oper}{a:Act}{w:World}{Q:Exit->Act->World->Prop}(hg:o.guard=none)(s x:Operand)(ho:o.op= .call {callee:= .builtin .append,args:=#[s,x],argTypes:=#[198,198]})
  (base:Nat)(v:Value)(l:List (Int×Way))(hs:a.eval s=v)(hw:z0g w base v l)(p:Int)(y:Way)(hx:a.eval x= .slice (some ⟨w.heap.size,0,none⟩) 1 1)(hl:l.length<=1000000)(hb:base<=w.heap.size)
  (h: ∀v' w',z0g w' base v' (l++[(p,y)])->w.grownBy w' v.ownBlock->(∀k,v'.ownBlock=some k->v.ownBlock=some k\/w.heap.size<=k)->wpList tP ops Q rest (a.put o.dst v') w'):wpList tP ops Q (o::rest) a (w.alloc (cT (z0q [(p,y)]).toArray 196)):=by
 obtain⟨i0,hi,hz0,hz1,hz2⟩:=info_parts Tryz.infoWz;have e1:z0q [(p,y)]=(z04 p y).toList:=by unfold z0q;simp
 refine wpList_append_own_at _ hg s x 198 ho base 196 i0 _ 82 656 Tryz.underlying198 hi hz0 hz1 hz2 z26 kD v l.length (z0q l) hs (hw.alloc _) ⟨w.heap.size,0,none⟩ 1 1 (z0q [(p,y)]) hx (by rw[z2k];rfl) ?_ ?_ (by unfold maxLen;omega) kO kZ ?_
 ·intro j u hu
  rw[e1]at hu⊢;rw[Addr.add_mid,Nat.zero_add,cell_of_row _ w.heap.size j _ 196 (0,0) (heap_alloc_new w _)];simpa using hu
 ·intro u hu
  rw[e1]at hu;exact(Array.all_eq_true_iff_forall_mem.1 (z2l p y)) u (Array.mem_toList_iff.1 hu)
 intro v' w' h1 h2 _ h4;refine h v' w' ?_ ⟨h2.os,h2.tape,h2.output,Nat.le_trans kS h2.size,fun k hk hne=>(h2.block k kZ hne).trans (heap_alloc_old w _ hk)⟩ (fun k e=>?_)
 ·show w'.ownsRow base 196 82 v' (l++[(p,y)]).length (z0q (l++[(p,y)]))
  rw[z67,List.length_append, <-e1];exact h1
 rcases h4 with h4|h4
 ·exact Or.inl (h4.symm.trans e)
 rw[e]at h4;have:=Option.some.inj h4;right;rw[this];simp
theorem Tryz.infoBz:(Tryz.prog.info? 84).map (fun i=>(i.zero,i.size,i.bytes))=some (some (.agg #[A F 0,A F 0]),2,16):=kR
theorem zRh{ops:Array Oper}{rest:List Oper}{o:Oper}{a:Act}{w:World}{Q:Exit->Act->World->Prop}(hg:o.guard=none)(s x:Operand)(ho:o.op= .call {callee:= .builtin .append,args:=#[s,x],argTypes:=#[142,142]})
  (base:Nat)(v:Value)(es:List Kno)(hs:a.eval s=v)(hw:z3t w base v es)(b:Kno)(hx:a.eval x= .slice (some ⟨w.heap.size,0,none⟩) 1 1)(hl:es.length<=1000000)(hb:base<=w.heap.size)
  (h: ∀v' w',z3t w' base v' (es++[b])->w.grownBy w' v.ownBlock->(∀k,v'.ownBlock=some k->v.ownBlock=some k\/w.heap.size<=k)->wpList tP ops Q rest (a.put o.dst v') w'):wpList tP ops Q (o::rest) a (w.alloc (cT #[A F b.l,A F b.h] 84)):=by
 obtain⟨i0,hi,hz0,hz1,hz2⟩:=info_parts Tryz.infoBz;refine wpList_append_own_at _ hg s x 142 ho base 84 i0 _ 2 16 Tryz.underlying142 hi hz0 hz1 hz2 rfl kD v es.length (z5f es) hs (hw.alloc _) ⟨w.heap.size,0,none⟩ 1 1 [A F b.l,A F b.h] hx rfl ?_ ?_ (by unfold maxLen;omega) kO kZ ?_
 ·intro j u hu
  rw[Addr.add_mid,Nat.zero_add,cell_of_row _ w.heap.size j _ 84 (0,0) (heap_alloc_new w _)];simpa using hu
 ·intro u hu
  simp at hu;rcases hu with rfl|rfl<;>rfl
 intro v' w' h1 h2 _ h4;refine h v' w' ?_ ⟨h2.os,h2.tape,h2.output,Nat.le_trans kS h2.size,fun k hk hne=>(h2.block k kZ hne).trans (heap_alloc_old w _ hk)⟩ (fun k e=>?_)
 ·show w'.ownsRow base 84 2 v' (es++[b]).length (z5f (es++[b]))
  rw[zJ0,List.length_append];exact h1
 rcases h4 with h4|h4
 ·exact Or.inl (h4.symm.trans e)
 rw[e]at h4;have:=Option.some.inj h4;right;rw[this];simp
theorem zAj{ops:Array Oper}{rest:List Oper}{op:Oper}{a:Act}{w:World}{Q:Exit->Act->World->Prop}(hgd:op.guard=none)(x:Operand)(ho:op.op= .load 196 x)
  (b o:Nat)(hx:a.eval x= pT (some ⟨b,o,none⟩))(p:Int)(y:Way)(hc:w.rangeAt b o (z04 p y).toList)
  (h:wpList tP ops Q rest (a.put op.dst (.agg (z04 p y))) w):wpList tP ops Q (op::rest) a w:=
 wpList_load_mid hgd 196 x ho b o hx (z04 p y).toList _ hc Tryz.underlying196 rfl (by rw[Array.length_toList];exact z0o p y) (by simpa using h)
theorem q1t(y:Way)(c:Int)(d s:Nat)(r:Bool)(o n:Int):(y.look c d s r o n).1.length<=2:=by
 unfold Way.look Way.ask Way.askNumbers Way.askPlace
 repeat' split
 all_goals simp
theorem q5r(pc:Nat)(ls:List (Int×Way))(h: ∀z,z∈ls->0<=z.1):(ls.map fun x=>((pc:Int)+(1+x.1),x.2))=posL (ls.map fun z=>(pc+1+z.1.toNat,z.2)):=by
 unfold posL;rw[List.map_map];refine List.map_congr_left fun z hz=>?_;have:=h z hz;simp only[Function.comp_apply,Prod.mk.injEq,and_true];omega
structure zBi (w:World) (st0 l2:List (Int×Way)) (V10 E:Value) (es:List Kno) (j:Nat) (V:Value) (wr:World):Prop where
 jl:j<=l2.length
 below:Below w.heap.size w wr
 ways:z0g wr w.heap.size V (st0++(l2.drop j).reverse)
 led:z0g wr w.heap.size V10 l2
 ends:z3t wr w.heap.size E es
 sepE: ∀k,V.ownBlock=some k->E.ownBlock≠some k
 sepL: ∀k,V.ownBlock=some k->V10.ownBlock≠some k
 few:st0.length+l2.length<=100000
theorem zBi.part{w:World}{st0 l2:List (Int×Way)}{V10 E:Value}{es:List Kno}{j:Nat}{V:Value}{wr:World}(h:zBi w st0 l2 V10 E es (j+1) V wr):
  ∃x,l2.drop j=x::l2.drop (j+1)/\l2=l2.take j++x::l2.drop (j+1)/\(l2.take j).length=j:=by
 have hj:j<l2.length:=h.jl;refine⟨l2[j],List.drop_eq_getElem_cons hj,?_,by rw[List.length_take];omega⟩;rw[<-List.drop_eq_getElem_cons hj,List.take_append_drop]
theorem zBi.small{w:World}{st0 l2:List (Int×Way)}{V10 E:Value}{es:List Kno}{j:Nat}{V:Value}{wr:World}(h:zBi w st0 l2 V10 E es j V wr):(st0++(l2.drop j).reverse).length<=1000000:=by
 have:=h.few;rw[List.length_append,List.length_reverse,List.length_drop];omega
theorem zBi.lay{w:World}{st0 l2:List (Int×Way)}{V10 E:Value}{es:List Kno}{j:Nat}{V V':Value}{wr wr3:World}{x:Int×Way}(h:zBi w st0 l2 V10 E es (j+1) V wr)(hx:l2.drop j=x::l2.drop (j+1))
  (hA:z0g wr3 w.heap.size V' ((st0++(l2.drop (j+1)).reverse)++[x]))(hg:wr.grownBy wr3 V.ownBlock)(hs: ∀k,V'.ownBlock=some k->V.ownBlock=some k\/wr.heap.size<=k):zBi w st0 l2 V10 E es j V' wr3 where
 jl:=Nat.le_of_succ_le h.jl
 below:=((Blk.nil h.below).grown hg (b:=w.heap.size) (fun k e=>(h.ways.above k e).1) (Nat.le_refl _) kS).1
 ways:=by rw[hx,List.reverse_cons, <-List.append_assoc];exact hA
 led:=h.led.grown hg h.sepL
 ends:=h.ends.grown hg h.sepE
 sepE:=fun k e=>by
  rcases hs k e with e|e
  ·exact h.sepE k e
  ·intro e2;have:=(h.ends.above k e2).2;omega
 sepL:=fun k e=>by
  rcases hs k e with e|e
  ·exact h.sepL k e
  ·intro e2;have:=(h.led.above k e2).2;omega
 few:=h.few
theorem zQ7(a b:List (Nat×Way)):posL ((a++b).reverse)=posL b.reverse++(posL a).reverse:=by
 unfold posL;rw[List.reverse_append,List.map_append,List.map_reverse (l:=a)]
structure GoSt (w:World) (len:Nat) (C D S:Nat->Int) (R:Nat->Bool) (O N:Nat->Int) (X:(Int×Nat)⊕List Kno) (k:Nat) (st:List (Nat×Way)) (es:List Kno) (V E:Value) (wr:World):Prop where
 k4:k<=4000
 below:Below w.heap.size w wr
 ways:z0g wr w.heap.size V (posL st.reverse)
 ends:z3t wr w.heap.size E es
 sep: ∀k,V.ownBlock=some k->E.ownBlock≠some k
 okst: ∀x,x∈st->x.1<len/\x.2.Ok
 stl:st.length<=k+1
 esl:es.length<=k
 go:goF C D S R O N (4000-k) st es=X
def q75(w:World)(X:(Int×Nat)⊕List Kno)(e:Ending)(w':World):Prop:=Below w.heap.size w w'/\
 match X with
 | .inl (er,i)=> ∃p,e= rT (.tuple #[.slice none 0 0,.iface 166 (pT (some ⟨p,0,none⟩))])/\w.heap.size<=p/\p<w'.heap.size/\w'.cell? ⟨p,0,none⟩=some (A F er)/\w'.cell? ⟨p,1,none⟩=some (A F (i:Int))
 | .inr es=> ∃E,e= rT (.tuple #[E,.nilIface])/\z3t w' w.heap.size E es/\es.length<=4000
end
section
attribute [local simp] z05 z0a z06
theorem zOu(T:Nat->Int)(evs:List (Nat->Int))(i:Nat):z61 (T::evs) (i+8)=z61 evs i:=by
 unfold z61;rw[show(i+8)/8=i/8+1 by omega,show(i+8)%8=i%8 by omega];rfl
theorem zLz(T:Nat->Int)(evs:List (Nat->Int)){i:Nat}(h:i<8):z61 (T::evs) i=A F (T i):=by
 unfold z61;rw[show i/8=0 by omega,show i%8=i by omega];rfl
theorem z9c{evs:List (Nat->Int)}{i:Nat}(h:evs.length*8<=i):z61 evs i=A F 0:=by
 unfold z61;rw[List.getD_eq_getElem?_getD,List.getElem?_eq_none kO];rfl
def z6h:Array Value:=#[A F 0,A F 0,A F 0,A F 0,A F 0,A F 0,A F 0,A F 0]
theorem zUp{j:Nat}(hj:j<8):z6h.toList.getD j undef=A F 0:=by
 rcases(show j=0\/j=1\/j=2\/j=3\/j=4\/j=5\/j=6\/j=7 by omega)with rfl|rfl|rfl|rfl|rfl|rfl|rfl|rfl<;>rfl
theorem zFz{w:World}{B k:Nat}{d:Dsk}{T:Nat->Int}{rest:List (Nat->Int)}(hD:z0f w B d)(hk:k<3)(he:(d.g k).evs=T::rest):w.rangeAt B (k*317+154) (z0j T).toList:=fun j v hv=>by
 have hj:j<8:=by have:=(List.getElem?_eq_some_iff.1 hv).1;simpa[z0j]using this
 have e:=zG0 T hj;rw[List.getD_eq_getElem?_getD,hv]at e;have e':v=A F (T j):=e;rw[show k*317+154+j=k*317+(154+j)by omega,hD.gate hk kO,e'];unfold z0y;rw[if_neg kO,if_pos kO,he,show 154+j-154=j by omega,zLz T rest hj]
theorem zZ1(d:Dsk){k m:Nat}{T:Nat->Int}{rest:List (Nat->Int)}(hk:k<3)(he:(d.g k).evs=T::rest)(hm:rest.length=m)(h20:m<20)(j:Nat)(_:j<952):
  (d.put k {d.g k with evs:=rest}).cell j=if k*317+154+m*8<=j/\j<k*317+154+m*8+z6h.toList.length then z6h.toList.getD (j-(k*317+154+m*8)) undef else if j=k*317+314 then A F (m:Int)else if k*317+154<=j/\j<k*317+154+((List.range (m*8)).map fun i=>d.cell (k*317+162+i)).length then((List.range (m*8)).map fun i=>d.cell (k*317+162+i)).getD (j-(k*317+154)) undef else d.cell j:=by
 have hl:z6h.toList.length=8:=rfl;have hc:((List.range (m*8)).map fun i=>d.cell (k*317+162+i)).length=m*8:=by rw[List.length_map,List.length_range]
 rw[hl,hc,z65 d _ hk]
 by_cases c:k*317<=j/\j<k*317+317
 ·rw[if_pos c]
  obtain⟨i,rfl⟩: ∃i,j=k*317+i:=⟨j-k*317,by omega⟩;have hi:i<317:=kO;have e0:z0y {d.g k with evs:=rest} i=if i<154 then z22 (d.g k).ps (d.g k).last i else if i<314 then z61 rest (i-154)else if i=314 then A F (m:Int)else if i=315 then A F (d.g k).may else A F (d.g k).left:=by rw[<-hm];rfl
  have e1:z0y (d.g k) i=if i<154 then z22 (d.g k).ps (d.g k).last i else if i<314 then z61 (T::rest) (i-154)else if i=314 then A F ((d.g k).evs.length:Int)else if i=315 then A F (d.g k).may else A F (d.g k).left:=by rw[<-he];rfl
  rw[Nat.add_sub_cancel_left,e0]
  by_cases c1:154+m*8<=i/\i<154+m*8+8
  ·rw[if_pos (show k*317+154+m*8<=k*317+i/\k*317+i<k*317+154+m*8+8 by omega),zUp kO,if_neg (show¬i<154 by omega),if_pos (show i<314 by omega),z9c kO]
  rw[if_neg (show¬(k*317+154+m*8<=k*317+i/\k*317+i<k*317+154+m*8+8)by omega)]
  by_cases c2:i=314
  ·rw[if_pos (show k*317+i=k*317+314 by omega),if_neg (show¬i<154 by omega),if_neg (show¬i<314 by omega),if_pos c2]
  rw[if_neg (show¬k*317+i=k*317+314 by omega)]
  by_cases c3:154<=i/\i<154+m*8
  ·rw[if_pos (show k*317+154<=k*317+i/\k*317+i<k*317+154+m*8 by omega),if_neg (show¬i<154 by omega),if_pos (show i<314 by omega),List.getD_eq_getElem?_getD,List.getElem?_map,List.getElem?_range (show k*317+i-(k*317+154)<m*8 by omega)]
   show _=d.cell (k*317+162+(k*317+i-(k*317+154)));rw[show k*317+162+(k*317+i-(k*317+154))=k*317+(i+8)by omega,z1s d hk kO];unfold z0y;rw[if_neg (show¬i+8<154 by omega),if_pos (show i+8<314 by omega),he,show i+8-154=(i-154)+8 by omega,zOu]
  ·rw[if_neg (show¬(k*317+154<=k*317+i/\k*317+i<k*317+154+m*8)by omega),z1s d hk hi,e1]
   by_cases c4:i<154
   ·rw[if_pos c4,if_pos c4]
   rw[if_neg c4,if_neg c4]
   by_cases c5:i<314
   ·rw[if_pos c5,if_pos c5,z9c kO,z9c (by rw[List.length_cons];omega)]
   rw[if_neg c5,if_neg c5,if_neg c2,if_neg c2]
 rw[if_neg c,if_neg (show¬(k*317+154+m*8<=j/\j<k*317+154+m*8+8)by omega),if_neg (show¬j=k*317+314 by omega),if_neg (show¬(k*317+154<=j/\j<k*317+154+m*8)by omega)]
theorem Tryz.info34:(Tryz.prog.info? 92).map (·.size)=some 8:=kR
theorem zUo:z6h.all (·.oneCell')=true:=kR
theorem zKo(tmps:Array Value)(w':World)(g:Nat)(cs:Array Value)(h2:tmps.getD 2 undef= pT (some ⟨g,0,none⟩))(hg:w'.heap[g]?=some (cT cs 92 (0,0)))(hs:cs.size=8):
  (results Tryz.f92 tmps).run tP w'= .ok (.agg cs) w':=by
 have h2':tmps[2]?.getD undef= pT (some ⟨g,0,none⟩):=by simpa using h2
 have hl:=run_loadVar_row (P:=tP) w' g 92 92 cs (0,0) _ hg Tryz.underlying92 rfl (by rw[Tryz.info34,hs]);simp[results,Tryz.results92,asAddr,h2',hl]
theorem zEp(d:Dsk)(hp: ∀k,k<3-> ∀p,p∈(d.g k).ps->p.sl.oneCell'=true)(j:Nat)(hj:j<952):(d.cell j).oneCell'=true:=by
 unfold Dsk.cell;split
 ·unfold z0y
  split
  ·unfold z22
   split
   ·unfold z9p
    split
    ·rfl
    split
    ·rfl
    split
    ·rw[List.getD_eq_getElem?_getD]
     cases h:((d.g (j/317)).ps)[j%317/19]? with
     |none=>rfl
     |some p=>exact hp _ kO p (List.mem_of_getElem? h)
    ·rfl
   split<;>rfl
  split
  ·rfl
  split
  ·rfl
  split<;>rfl
 rfl
theorem q2g(B k m:Nat)(hk:k<3)(d:Dsk)(T:Nat->Int)(rest:List (Nat->Int))(w:World)(hD:z0f w B d)(he:(d.g k).evs=T::rest)(hm:rest.length=m)(h20:m<20)(HP:Hid (∀k,k<3-> ∀p,p∈(d.g k).ps->p.sl.oneCell'=true)):Calls tP 92 #[pT (some ⟨B,k*317,none⟩)] w fun e w'=>e= rT (.agg (z0j T))/\Kept B w w'/\z0f w' B (d.put k {d.g k with evs:=rest}):=by
 have HHE:Hid ((d.g k).evs=T::rest):=he;have HR:Hid (w.rangeAt B (k*317+154) (z0j T).toList):=zFz hD hk he;have hlt:=hD.lt;have hn0:(0:Int)<=(m:Int):=kO;have hn1:(m:Int)<20:=kO;have hs1:(1:Int)<=(m:Int)+1:=kO;have hs2:(m:Int)+1<=20:=kO;have e1:IntKind.i64.wrap ((m:Int)+1-1)=(m:Int):=by rw[IntWalk.i64_left,z0s kO kO];omega
 go_enter Tryz.func92,Tryz.ntmps92;have hK0:Blk w [(w.heap.size,cT z6h 92 (0,0)),(B,cT (Array.ofFn (n:=952) fun i=>Dsk.cell d i.1) 125 (0,0))] (w.alloc (cT #[A F 0,A F 0,A F 0,A F 0,A F 0,A F 0,A F 0,A F 0] 92)):=((Blk.nil ((bF _ _).alloc (Nat.le_refl _) _)).cons ((heap_alloc_old _ _ hD.lt).trans hD)).cons (heap_alloc_new w _);clear he;go_upto_region 1 with fail
 generalize w.alloc (cT #[A F 0,A F 0,A F 0,A F 0,A F 0,A F 0,A F 0,A F 0] 92)=w0 at hK0⊢;go_step
 (refine z00 rfl (pT (some ⟨B,k*317,none⟩)) w0 kG ?_);simp only[pS]
 (refine z00 rfl (pT (some ⟨B,k*317,none⟩)) w0 kG ?_);simp only[pS]
 (refine z00 rfl (pT (some ⟨B,k*317+154,none⟩)) w0 kG ?_);simp only[pS]
 (refine z00 rfl (pT (some ⟨B,k*317+154,none⟩)) w0 kG ?_);simp only[pS]
 refine wpList_load_mid rfl 92 (.tmp 7) rfl B (k*317+154) rfl (z0j T).toList _ (zFz (hK0.2 _ (mcO _ mcS)) hk HHE.out) Tryz.underlying92 rfl (by rw[Tryz.info34];rfl) ?_;rw[Array.toArray_toList];simp only[pS]
 (refine z00 rfl (pT (some ⟨w0.heap.size,0,none⟩)) (w0.alloc (cT #[A F 0,A F 0,A F 0,A F 0,A F 0,A F 0,A F 0,A F 0] 92)) kG ?_);simp only[pS]
 refine wpList_store_row rfl 92 (.tmp 3) (.tmp 8) rfl w0.heap.size (z0j T) rfl rfl 92 z6h (heap_alloc_new w0 _) (zXo T) rfl (zAo T) ?_;simp only[pS];have hg1:w.heap.size<w0.heap.size:=hK0.lt mcS
 have hK1:Blk w [(w0.heap.size,cT (z0j T) 92 (0,0)),(w.heap.size,cT z6h 92 (0,0)),(B,cT (Array.ofFn (n:=952) fun i=>Dsk.cell d i.1) 125 (0,0))] ((w0.alloc (cT #[A F 0,A F 0,A F 0,A F 0,A F 0,A F 0,A F 0,A F 0] 92)).setRow w0.heap.size (z0j T)):=
  ((((Blk.nil (z23 (hK0.1.alloc hK0.1.size _) kO _)).cons ((setRow_other _ _ _ _ kO).trans ((heap_alloc_old _ _ (hK0.lt (mcO _ mcS))).trans (hK0.2 _ (mcO _ mcS))))).cons ((setRow_other _ _ _ _ kO).trans ((heap_alloc_old _ _ hg1).trans (hK0.2 _ mcS)))).cons (setRow_heap _ _ z6h _ _ _ (heap_alloc_new w0 _)))
 go_upto_region 2 with fail
 generalize ((w0.alloc (cT #[A F 0,A F 0,A F 0,A F 0,A F 0,A F 0,A F 0,A F 0] 92)).setRow w0.heap.size (z0j T))=w1 at hK1⊢;generalize w0.heap.size=g1 at hK1 hg1⊢;clear hK0;refine z0n (C:=Blk w [(g1,cT (z0j T) 92 (0,0)),(w.heap.size,cT z6h 92 (0,0)),(B,cT (Array.ofFn (n:=952) fun i=>Dsk.cell d i.1) 125 (0,0))]) (n0:=w.heap.size) 12 [] [] kR kR (fun d _ _ _ _ h=>by cases d<;>exact h) (Blk.stable _ _) (fun w2 h=>h.1.size) hK1.drew trivial ?_;simp only[List.take_succ_cons,List.take_zero,List.drop_succ_cons,List.drop_zero,List.length_nil,Nat.reduceAdd]
 repeat(first
  |(refine z0k kI ?_;simp only[pS])
  |(refine z09 kI (v:=?_) ?_ ?_;rotate_left;(intro w2 hC;have hDk:z0f _ B d:=(hC.2 _ (mcO _ (mcO _ mcS)));have c0:World.cell? _ ⟨B,k*317+314,none⟩=some (A F ((m:Int)+1)):=(hDk.gate hk kD).trans (by unfold z0y;rw[if_neg kD,if_neg kD,if_pos rfl,HHE.out,List.length_cons,hm];rfl);go_simp;try with_reducible rfl);simp only[pS]))
 refine z0r ?_;intro w3 hC hB3;have hDk:z0f _ B d:=(hC.2 _ (mcO _ (mcO _ mcS)));have c0:World.cell? _ ⟨B,k*317+314,none⟩=some (A F ((m:Int)+1)):=(hDk.gate hk kD).trans (by unfold z0y;rw[if_neg kD,if_neg kD,if_pos rfl,HHE.out,List.length_cons,hm];rfl);have hlen:((List.range (m*8)).map fun i=>d.cell (k*317+162+i)).length=m*8:=by rw[List.length_map,List.length_range]
 have hmin:Nat.min m 20=m:=Nat.min_eq_left kO
 have hcopy:=z73 (P:=tP) w3 208 208 3 92 B (k*317+154) 20 20 ⟨B,k*317+154+8,none⟩ m 19 8 ((List.range (m*8)).map fun i=>d.cell (k*317+162+i)) Tryz.underlying208 Tryz.info34 (by rw[hlen,hmin]) (fun j v hv=>by
   have hj:j<m*8:=by have:=(List.getElem?_eq_some_iff.1 hv).1;rw[hlen]at this;exact this
   rw[List.getElem?_map,List.getElem?_range hj]at hv;rw[Addr.add_mid,FnAt.at hDk _ kO,show k*317+154+8+j=k*317+162+j by omega];exact hv) (fun j hj=>by rw[FnAt.at hDk _ (by rw[hlen]at hj;omega)];rfl) (fun j hj=>FnAt.frozen hDk _) (fun v hv=>by
   obtain⟨i,hi,rfl⟩:=List.mem_map.1 hv;rw[List.mem_range]at hi;exact zEp d HP.out _ kO)
 (refine z00 rfl (goInt (Nat.min m 20)) (w3.setCells B (k*317+154) ((List.range (m*8)).map fun i=>d.cell (k*317+162+i))) (zJb _ _ (.tmp 12) (.tmp 20) _ _ _ _ _ rfl rfl rfl hcopy) ?_);simp only[pS]
 have hF1:=FnAt.setCells hDk ((List.range (m*8)).map fun i=>d.cell (k*317+162+i)) (k*317+154);have hKp:=z1w (z0d hC.1 B) (k*317+154) ((List.range (m*8)).map fun i=>d.cell (k*317+162+i));have hb0:=(z14 (w:=w3) (B:=B) (show w.heap.size≠B by omega) ((List.range (m*8)).map fun i=>d.cell (k*317+162+i)) (k*317+154)).trans (hC.2 _ (mcO _ mcS));have hb1:=(z14 (w:=w3) (B:=B) (show g1≠B by omega) ((List.range (m*8)).map fun i=>d.cell (k*317+162+i)) (k*317+154)).trans (hC.2 _ mcS);have c1:=hF1.at (k*317+314) kO;rw[if_neg (by rw[hlen];omega), <-FnAt.at hDk _ kO]at c1;have c1:=c1.trans c0;have cf:=hF1.frozen (k*317+314);have hs4:w.heap.size<=(w3.setCells B (k*317+154) ((List.range (m*8)).map fun i=>d.cell (k*317+162+i))).heap.size:=by rw[(z6z B ((List.range (m*8)).map fun i=>d.cell (k*317+162+i)) (k*317+154) w3).1];exact hC.1.size
 clear hC hDk c0 hcopy hK1 hB3;generalize w3.setCells B (k*317+154) ((List.range (m*8)).map fun i=>d.cell (k*317+162+i))=w4 at hF1 hKp hb0 hb1 c1 cf hs4⊢;go_upto_region 4 with fail
 obtain⟨f2,HE2⟩: ∃f2:Nat->Value,Hid ((fun j=>if j=k*317+314 then A F (m:Int)else(fun j=>if k*317+154<=j/\j<k*317+154+((List.range (m*8)).map fun i=>d.cell (k*317+162+i)).length then((List.range (m*8)).map fun i=>d.cell (k*317+162+i)).getD (j-(k*317+154)) undef else d.cell j) j)=f2):=⟨_,rfl⟩;have HC2:Hid (some (f2 (k*317+314))=some (A F (m:Int))):=by rw[<-HE2.out];exact congrArg some (if_pos rfl)
 have hF2:FnAt (w4.setCell ⟨B,k*317+314,none⟩ (A F (m:Int))) B f2:=by rw[<-HE2.out];exact hF1.set (k*317+314) _
 have hKp2:=z13 hKp (k*317+314) (A F (m:Int));have hb0:=(heap_setCell_other w4 ⟨B,k*317+314,none⟩ w.heap.size (A F (m:Int)) (show w.heap.size≠B by omega)).trans hb0;have hb1:=(heap_setCell_other w4 ⟨B,k*317+314,none⟩ g1 (A F (m:Int)) (show g1≠B by omega)).trans hb1;clear hF1 hKp c1 cf hs4;generalize w4.setCell ⟨B,k*317+314,none⟩ (A F (m:Int))=w5 at hF2 hKp2 hb0 hb1⊢;have hK5:Blk w5 [(g1,cT (z0j T) 92 (0,0)),(w.heap.size,cT z6h 92 (0,0)),(B,cT (Array.ofFn (n:=952) fun i=>f2 i.1) 125 (0,0))] w5:=(((Blk.nil (bF _ _)).cons hF2).cons hb0).cons hb1;clear hF2 hb0 hb1;refine z0n (C:=Blk w5 [(g1,cT (z0j T) 92 (0,0)),(w.heap.size,cT z6h 92 (0,0)),(B,cT (Array.ofFn (n:=952) fun i=>f2 i.1) 125 (0,0))]) (n0:=w5.heap.size) 9 [] [] kR kR (fun d _ _ _ _ h=>by cases d<;>exact h) (Blk.stable _ _) (fun w2 h=>h.1.size) hK5.drew trivial ?_;simp only[List.take_succ_cons,List.take_zero,List.drop_succ_cons,List.drop_zero,List.length_nil,Nat.reduceAdd]
 repeat(first
  |(refine z0k kI ?_;simp only[pS])
  |(refine z09 kI (v:=?_) ?_ ?_;rotate_left;(intro w2 hC;have hDk:FnAt _ B f2:=(hC.2 _ (mcO _ (mcO _ mcS)));have c0:World.cell? _ ⟨B,k*317+314,none⟩=some (A F (m:Int)):=(FnAt.at hDk _ kO).trans HC2.out;go_simp;try with_reducible rfl);simp only[pS]))
 refine z0r ?_;intro w6 hC hB6;have hDk:FnAt _ B f2:=(hC.2 _ (mcO _ (mcO _ mcS)));have c0:World.cell? _ ⟨B,k*317+314,none⟩=some (A F (m:Int)):=(FnAt.at hDk _ kO).trans HC2.out;have hth:=FnAt.there hDk (o:=k*317+154+m*8) (n:=8) kO;refine wpList_store_mid rfl 92 _ _ rfl B (k*317+154+m*8) z6h kG rfl hth Tryz.info34 zUo ?_;simp only[pS];have hF3:=FnAt.setCells hDk z6h.toList (k*317+154+m*8);have hKp3:=z1w (z1h hKp2 hC.1) (k*317+154+m*8) z6h.toList;have hb0:=(z14 (w:=w6) (B:=B) (show w.heap.size≠B by omega) z6h.toList (k*317+154+m*8)).trans (hC.2 _ (mcO _ mcS));have hb1:=(z14 (w:=w6) (B:=B) (show g1≠B by omega) z6h.toList (k*317+154+m*8)).trans (hC.2 _ mcS);clear hC hDk c0 hth hK5 hKp2 hB6;generalize w6.setCells B (k*317+154+m*8) z6h.toList=w7 at hF3 hKp3 hb0 hb1⊢;go_upto_region 5 with fail
 go_step;refine wpList_load_row rfl 92 (.tmp 3) rfl g1 rfl 92 (z0j T) (0,0) _ hb1 Tryz.underlying92 rfl (zXo T) ?_;simp only[pS];refine wpList_store_row rfl 92 (.tmp 2) (.tmp 38) rfl w.heap.size (z0j T) rfl rfl 92 z6h hb0 (zXo T) rfl (zAo T) ?_;simp only[pS];have hF4:z0f (w7.setRow w.heap.size (z0j T)) B (d.put k {d.g k with evs:=rest}):=FnAt.ext (FnAt.block hF3 (setRow_other w7 _ _ _ kO)) fun j hj=>(zZ1 d hk HHE.out hm h20 j hj).trans (by rw[<-HE2.out]);have hr0:=setRow_heap w7 w.heap.size z6h (z0j T) 92 (0,0) hb0;have hKp4:Kept B w (w7.setRow w.heap.size (z0j T)):=⟨hKp3.os,hKp3.tape,hKp3.output,by simpa[World.setRow]using hKp3.size,fun i hi hne=>(setRow_other w7 _ _ _ kO).trans (hKp3.block i hi hne)⟩;go_wp2_with fail;exact bodyPost_ret (v:= .agg (z0j T)) (zKo _ _ w.heap.size _ rfl hr0 rfl) rfl ⟨rfl,hKp4,hF4⟩
end
end Go.Proofs.YtkdflpplamebkaaGreatDoor
