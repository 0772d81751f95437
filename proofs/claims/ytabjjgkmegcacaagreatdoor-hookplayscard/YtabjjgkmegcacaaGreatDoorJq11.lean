/-
A part of the proof of HookPlays; its card says what is proved.
-/
import Derived.Test.YtabjjgkmegcacaaGreatDoorJq17
import Derived.Deep.CutBlock
set_option maxHeartbeats 40000000
open Go.Value renaming int → I
open Go.IntKind renaming i64 → J
open Go.RowKit.Below renaming alloc → bA, setCell → bS, drew → bD, refl → bF
set_option maxRecDepth 1000000
set_option linter.defProp false
set_option linter.unusedVariables false
set_option linter.unusedSimpArgs false
open Go.Ending renaming returned → rT
open Go.Value renaming pointer → pT
open Go.Obj renaming cells → cT
open Go.Proofs.Tryz renaming prog → tP
open List renaming length_cons → lQ
namespace Go.Proofs.YtabjjgkmegcacaaGreatDoor
section
open Go.ChangeShapes Go.WideShapes Go.ChangeAt Go.RowKit
def zAy(x:Kno)(j:Nat):Value:=if j=0 then .int .u8 (kdg x.k)else if j=1 then I J x.l else I J x.h
def Way.all(y:Way)(i:Nat):Kno:=if i<11 then y.reg i else y.slot (i-11)
def Way.putAll(y:Way)(d:Nat)(x:Kno):Way:=if d<11 then y.putReg d x else y.putSlot (d-11) x
def z3z(y:Way)(i:Nat):Value:=zAy (y.all (i/3)) (i%3)
def z0h(y:Way):Array Value:=Array.ofFn (n:=81) fun i=>z3z y i.1
def z3g(w:World)(B:Nat)(y:Way):Prop:=w.heap[B]?=some (cT (z0h y) 148 (0,0))
theorem zKk(y:Way)(d:Nat)(x:Kno)(i:Nat):(y.putAll d x).all i=if i=d then x else y.all i:=by
 unfold Way.putAll Way.all
 by_cases h:d<11
 ·rw[if_pos h]
  by_cases hi:i<11
  ·rw[if_pos hi,if_pos hi];rfl
  ·rw[if_neg hi,if_neg hi,if_neg kO];rfl
 rw[if_neg h]
 by_cases hi:i<11
 ·rw[if_pos hi,if_pos hi,if_neg kO];rfl
 rw[if_neg hi,if_neg hi];show(if i-11=d-11 then x else y.slot (i-11))=_
 by_cases e:i=d
 ·rw[if_pos e,if_pos kO]
 rw[if_neg e,if_neg kO]
theorem z3u{y:Way}{d:Nat}{x:Kno}(h:d<11):y.putAll d x=y.putReg d x:=if_pos h
theorem zId{y:Way}{d:Nat}{x:Kno}:y.putAll (11+d) x=y.putSlot d x:=by
 unfold Way.putAll;rw[if_neg kO,show 11+d-11=d by omega]
theorem zZm{y:Way}{d:Nat}(h:d<11):y.all d=y.reg d:=if_pos h
theorem z8e{y:Way}{d:Nat}:y.all (11+d)=y.slot d:=by
 unfold Way.all;rw[if_neg kO,show 11+d-11=d by omega]
theorem z2t(y:Way):(z0h y).size=81:=by simp[z0h]
theorem zJa(x:Kno)(j:Nat):(zAy x j).oneCell'=true:=by
 unfold zAy;split
 ·rfl
 split<;>rfl
theorem z6a(y:Way)(i:Nat)(h:i<(z0h y).size):(z0h y)[i]=z3z y i:=by simp[z0h]
theorem zNj(y:Way):(z0h y).all (·.oneCell')=true:=by
 rw[Array.all_eq_true_iff_forall_mem];intro v hv;obtain⟨i,h1,h2⟩:=Array.mem_iff_getElem.1 hv;rw[<-h2,z6a y i h1];exact zJa _ _
theorem z7u(y:Way)(i:Nat)(hi:i<81):(z0h y)[i]?=some (z3z y i):=by
 unfold z0h;simp[hi]
theorem zUm{y z:Way}(h: ∀i,i<27->y.all i=z.all i):z0h y=z0h z:=by
 apply Array.ext
 ·rw[z2t,z2t]
 intro j h1 h2;rw[z2t]at h1;rw[z6a,z6a];unfold z3z;rw[h (j/3) kO]
section
variable {w:World} {B d:Nat} {y:Way}
theorem z3g.lt(h:z3g w B y):B<w.heap.size:=(Array.getElem?_eq_some_iff.1 h).1
theorem z3g.at(h:z3g w B y)(i:Nat)(hi:i<81):w.cell? ⟨B,i,none⟩=some (z3z y i):=by
 rw[cell_of_row w B i _ _ _ h,z7u y i hi]
theorem z3g.setRow{w:World}{g:Nat}{old:Array Value}(hg:w.heap[g]?=some (cT old 148 (0,0)))(y:Way):z3g (w.setRow g (z0h y)) g y:=setRow_heap w g old _ _ _ hg
theorem z3w(y:Way)(d i:Nat)(hi:i<3):z3z y (d*3+i)=zAy (y.all d) i:=by
 unfold z3z;rw[show(d*3+i)/3=d by omega,show(d*3+i)%3=i by omega]
theorem z3g.know(h:z3g w B y)(hd:d<27):w.cell? ⟨B,d*3,none⟩=some (.int .u8 (kdg (y.all d).k))/\w.cell? ⟨B,d*3+1,none⟩=some (I J (y.all d).l)/\w.cell? ⟨B,d*3+2,none⟩=some (I J (y.all d).h):=
 ⟨by rw[h.at _ kO];exact congrArg some (z3w y d 0 kO),by rw[h.at _ kO,z3w y d 1 kO];rfl,by rw[h.at _ kO,z3w y d 2 kO];rfl⟩
theorem zGi(y:Way)(d:Nat)(x:Kno)(j:Nat):z3z (y.putAll d x) j=if d*3<=j/\j<d*3+3 then zAy x (j-d*3)else z3z y j:=by
 unfold z3z;rw[zKk]
 by_cases h:d*3<=j/\j<d*3+3
 ·rw[if_pos h,if_pos kO,show j%3=j-d*3 by omega]
 rw[if_neg h,if_neg kO]
end
theorem Tryz.infoM:(Tryz.prog.info? 148).map (·.size)=some 81:=kR
theorem z4l(y:Way):(Tryz.prog.info? 148).map (·.size)=some (z0h y).size:=by rw[z2t];exact Tryz.infoM
theorem zFc:Tryz.zeroCells148=z0h ⟨fun _=>kno0,fun _=>kno0⟩:=kR
theorem zLz:Tryz.zeroCells148.size=81:=by rw[zFc,z2t]
theorem zR0{o:Oper}{u:Act}{x:Operand}{W:World}{B:Nat}{y:Way}(hW:z3g W B y)(ho:o.op= .load 148 x)(hx:u.eval x= pT (some ⟨B,0,none⟩)):(execOp u.eval o).run tP W= .ok (.value (.agg (z0h y))) W:=by
 have hl:=run_loadVar_row (P:=tP) W B 148 148 (z0h y) (0,0) _ hW Tryz.underlying148 rfl (z4l y);unfold execOp;simp only[ho,hx,Instr.loadAt,Instr.sureAddr,Sem.run_bind,Sem.run_pure,Result.andThen_ok,hl]
end
section
open Go.ChangeShapes Go.WideShapes Go.ChangeAt Go.RowKit
theorem zB4(w:World)(A B C:Obj):(((w.alloc A).alloc B).alloc C).heap[w.heap.size+1+1]?=some C:=by
 have h:=heap_alloc_new ((w.alloc A).alloc B) C;rw[World.size_alloc,World.size_alloc]at h;exact h
theorem kD_0{k:Int}(h0:0<=k)(h5:k<=5):(kdg k==0)=(k==0):=by rcases kD_six h0 h5 with rfl|rfl|rfl|rfl|rfl|rfl<;>rfl
attribute [local simp] z0p z0j z04
theorem load0(w:World)(y:Way)(k l h:Int):Blk w [(w.heap.size,cT (z0h y) 148 (0,0)),(w.heap.size+1,cT #[.int .u8 k,I J l,I J h] 146 (0,0)),(w.heap.size+1+1,cT #[.int .u8 0,I J 0,I J 0] 146 (0,0))] (((w.alloc (cT (z0h y) 148)).alloc (cT #[.int .u8 k,I J l,I J h] 146)).alloc (cT #[.int .u8 0,I J 0,I J 0] 146)):=((((Blk.nil (((((bF _ _).alloc (Nat.le_refl _) _).alloc kS _).alloc kZ _))).cons (zB4 w _ _ _)).cons (by rw[Below.heap_alloc _ _ _ kS];exact heap_alloc2_new _ _ _)).cons (by rw[Below.heap_alloc _ _ _ kZ,Below.heap_alloc _ _ _ kS];exact heap_alloc_new _ _))
def z33(f:Nat->Int×Int):Nat->List Value
 |0=>[]
 |k+1=>z33 f k++[.int .u8 110,I J (f k).1,I J (f k).2]
theorem zAr(f:Nat->Int×Int): ∀k,(z33 f k).length=k*3
 |0=>rfl
 |k+1=>by rw[z33,List.length_append,zAr f k];simp;omega
theorem zCo(f:Nat->Int×Int): ∀k i,i<k->(z33 f k)[i*3]?=some (.int .u8 110)/\(z33 f k)[i*3+1]?=some (I J (f i).1)/\(z33 f k)[i*3+2]?=some (I J (f i).2)
 |0,i,h=>absurd h kO
 |k+1,i,h=>by
  have hl:=zAr f k
  by_cases e:i=k
  ·subst e
   refine⟨?_,?_,?_⟩
   ·rw[z33,List.getElem?_append_right kO,hl];simp
   ·rw[z33,List.getElem?_append_right kO,hl,show i*3+1-i*3=1 by omega];rfl
   ·rw[z33,List.getElem?_append_right kO,hl,show i*3+2-i*3=2 by omega];rfl
  ·obtain⟨h1,h2,h3⟩:=zCo f k i kO
   refine⟨?_,?_,?_⟩
   ·rw[z33,List.getElem?_append_left kO];exact h1
   ·rw[z33,List.getElem?_append_left kO];exact h2
   ·rw[z33,List.getElem?_append_left kO];exact h3
theorem Tryz.infoKn:(Tryz.prog.info? 146).map (fun i=>(i.zero,i.size,i.bytes))=some (some (.agg #[.int .u8 0,I J 0,I J 0]),3,24):=kR
theorem zDe{w:World}{x y z:Value}{e:TypeId}{b:Nat}(hb:b=w.heap.size): ∀(j:Nat) u,[x,y,z][j]?=some u->(w.alloc (cT #[x,y,z] e)).cell? ((⟨b,0,none⟩:Addr).add j)=some u:=by
 subst hb;intro j u hj;rw[Addr.add_mid,Nat.zero_add,cell_of_row _ w.heap.size j _ e (0,0) (heap_alloc_new _ _), <-Array.getElem?_toList];exact hj
theorem zO4{W W':World}(hg:W.grownBy W' none):Below W.heap.size W W':=⟨hg.os,hg.tape,hg.output,hg.size,fun k hk=>hg.block k hk kS⟩
theorem kn_one{w:World}{base:Nat}{v a b c:Value}(h:w.ownsRow base 146 3 v (0+1) ([]++[a,b,c])): ∃g cap,v= .slice (some ⟨g,0,none⟩) 1 cap/\1<=cap/\w.cell? ⟨g,0,none⟩=some a/\w.cell? ⟨g,1,none⟩=some b/\w.cell? ⟨g,2,none⟩=some c/\g<w.heap.size:=by
 have hc:=fun g (e:v.ownBlock=some g)=>World.ownsRow.cells h (g:=g) e;rcases h.2 with⟨_,hn⟩|⟨g,cap,cur,rfl,hb,hg,hcap,_⟩
 ·omega
 have h0:=hc g rfl 0 a rfl;have h1:=hc g rfl 1 b rfl;have h2:=hc g rfl 2 c rfl;rw[Addr.add_mid]at h0 h1 h2;exact⟨g,cap,rfl,by omega,h0,h1,h2,(Array.getElem?_eq_some_iff.1 hg).1⟩
theorem zI6{w w':World}{a b c:Obj}(h:w'=((w.alloc a).alloc b).alloc c):Below w.heap.size w w':=by
 rw[h];exact(((bF _ _).alloc (Nat.le_refl _) _).alloc kS _).alloc kZ _
theorem zYn{k:Int}(h0:0<=k)(h5:k<=5)(c0: ¬k=0)(c1: ¬k=1):(kdg k==0)=false/\(kdg k !=110)=true:=by
 rcases kD_six h0 h5 with rfl|rfl|rfl|rfl|rfl|rfl
 ·exact absurd rfl c0
 ·exact absurd rfl c1
 all_goals exact⟨rfl,rfl⟩
theorem Blk.put12{w0 w:World}{F:List (Nat×Obj)}{g:Nat}{a b c x y:Value}{t:TypeId}(h:Blk w0 ((g,cT #[a,b,c] t (0,0))::F) w)(hg:w0.heap.size<=g)(hF: ∀z,z∈F->z.1≠g):Blk w0 ((g,cT #[a,x,y] t (0,0))::F) ((w.setCell ⟨g,1,none⟩ x).setCell ⟨g,2,none⟩ y):=by
 refine Blk.cons ⟨(h.1.setCell hg _).setCell hg _,fun z hz=>?_⟩ (heap_setCell_same _ g 2 _ t y (heap_setCell_same w g 1 _ t x (h.2 _ mcS)));exact(heap_setCell_other _ _ _ _ (hF z hz)).trans ((heap_setCell_other _ _ _ _ (hF z hz)).trans (h.2 z (mcO _ hz)))
theorem zUe{w:World}{base n:Nat}{v:Value}{f:Nat->Int×Int}(h:w.ownsRow base 146 3 v n (z33 f n))(hn:1<=n): ∃g cap cur,v= .slice (some ⟨g,0,none⟩) n cap/\n<=cap/\base<=g/\w.heap[g]?=some (cT cur 146 (0,0))/\ ∀i,i<n->cur[i*3]?=some (.int .u8 110)/\cur[i*3+1]?=some (I J (f i).1)/\cur[i*3+2]?=some (I J (f i).2):=by
 rcases h.2 with⟨_,e⟩|⟨g,cap,cur,rfl,hb,hg,hcap,_,hsz,ht⟩
 ·omega
 refine⟨g,cap,cur,rfl,hcap,hb,hg,fun i hi=>?_⟩;obtain⟨a1,a2,a3⟩:=zCo f n i hi;have c: ∀p,p<n*3->cur[p]?=(z33 f n)[p]?:=fun p hp=>by rw[<-ht,List.getElem?_take_of_lt hp,Array.getElem?_toList]
 exact⟨(c _ kO).trans a1,(c _ kO).trans a2,(c _ kO).trans a3⟩
end
section
open Go.ChangeShapes Go.WideShapes Go.ChangeAt Go.RowKit
def ldV(y:Way)(x:Kno)(o:Int):Kno×Int:=if(z0i x o).2≠0 then(kno0,(z0i x o).2)else if x.k=3 then y.kept (z0i x o).1 else(z10 (-9223372036854775808) 9223372036854775807,0)
theorem zUs(y:Way)(d s:Nat)(o:Int):y.load d s o=if(ldV y (y.reg s) o).2≠0 then((ldV y (y.reg s) o).2,y)else(0,y.putReg d (ldV y (y.reg s) o).1):=by
 unfold Way.load ldV
 by_cases c:(z0i (y.reg s) o).2≠0
 ·rw[if_pos c,if_pos c,if_pos c]
 rw[if_neg c,if_neg c]
 by_cases c2:(y.reg s).k=3
 ·rw[if_pos c2,if_pos c2]
 rw[if_neg c2,if_neg c2,if_neg kS]
structure z2h (W:World) (Bl base:Nat) (l:Value) (f:Nat) (E:Value) (es:List Kno):Prop where
 box:W.heap[Bl]?=some (cT #[l,I J (f:Int),E] 144 (0,0))
 own:W.ownsRow base 110 2 E es.length (z37 es)
 lt:Bl<base
 few:es.length+f<=4000
def Kp(Bl:Nat)(E:Value)(W W':World):Prop:=Below 0 W W'/\ ∀k,k<W.heap.size->k≠Bl->some k≠E.ownBlock->W'.heap[k]?=W.heap[k]?
def z4h(W:World)(E E':Value):Prop:=E'.ownBlock=E.ownBlock\/ ∃k,E'.ownBlock=some k/\W.heap.size<=k
section
variable {Bl base f:Nat} {l E E' E'':Value} {es:List Kno} {W W' W'':World}
theorem z2h.blt(h:z2h W Bl base l f E es):Bl<W.heap.size:=(Array.getElem?_eq_some_iff.1 h.box).1
theorem z2h.row(h:z2h W Bl base l f E es): ∀k,E.ownBlock=some k->base<=k/\k<W.heap.size:=World.ownsRow.lt h.own
theorem z2h.later(h:z2h W Bl base l f E es)(hb:Below W.heap.size W W'):z2h W' Bl base l f E es:=
 ⟨(hb.block Bl h.blt).trans h.box,h.own.kept (row:=none) ⟨hb.os,hb.tape,hb.output,hb.size,fun k hk _=>hb.block k hk⟩ (by cases E.ownBlock<;>simp),h.lt,h.few⟩
theorem Kp.of(h:Below W.heap.size W W'):Kp Bl E W W':=⟨h.mono (Nat.zero_le _),fun k hk _ _=>h.block k hk⟩
theorem Kp.size(h:Kp Bl E W W'):W.heap.size<=W'.heap.size:=h.1.size
theorem Kp.trans(h:Kp Bl E W W')(k:Kp Bl E' W' W'')(hr:z4h W E E'):Kp Bl E W W'':=
 ⟨h.1.trans k.1,fun i hi h1 h2=>by
  refine(k.2 i (Nat.lt_of_lt_of_le hi h.size) h1 fun e=>?_).trans (h.2 i hi h1 h2);rcases hr with hr|⟨j,hj,hl⟩
  ·exact h2 (e.trans hr)
  ·rw[hj]at e;cases e;omega⟩
theorem z4h.refl:z4h W E E:=Or.inl rfl
theorem z4h.trans(h:z4h W E E')(k:z4h W' E' E'')(hs:W.heap.size<=W'.heap.size):z4h W E E'':=by
 rcases k with k|⟨j,hj,hl⟩
 ·rcases h with h|⟨i,hi,hl⟩
  ·exact Or.inl (k.trans h)
  ·exact Or.inr ⟨i,k.trans hi,hl⟩
 exact Or.inr ⟨j,hj,by omega⟩
theorem z2h.less(h:z2h W Bl base l (f+1) E es):z2h (W.setCell ⟨Bl,1,none⟩ (I J (f:Int))) Bl base l f E es:=
 ⟨heap_setCell_same W Bl 1 _ _ _ h.box,ownsRow_setCell_below h.own h.lt _,h.lt,by have:=h.few;omega⟩
theorem zYl:Kp Bl E W (W.setCell ⟨Bl,1,none⟩ (I J (f:Int))):=
 ⟨(bF _ _).setCell (Nat.zero_le _) _,fun _ _ hk _=>heap_setCell_other _ _ _ _ hk⟩
end
end
section
open Go.ChangeShapes Go.WideShapes Go.ChangeAt Go.RowKit
attribute [local simp] z0p z0j z04
theorem z5q(c:Int)(w:World):zS 56 #[I J c] w (.bool (decide (15<=c)&&decide (c<=24))):=by
 rcases dc (15<=c)with⟨-,h1⟩|⟨-,h1⟩<;>rcases dc (c<=24)with⟨-,h2⟩|⟨-,h2⟩
 all_goals
  rw[h1,h2];unfold zS;go_in
  go_wp2;go_ret;exact⟨rfl,rfl⟩
theorem zI8(x:Int)(w:World):zR 14 #[I J x] w (.agg #[I J x,I J (-1)]):=by
 unfold zR;go_in
 go_wp2_with fail;exact bodyPost_ret (by simp[results,Tryz.results14,go_sem];try rfl) rfl ⟨rfl,kB⟩
def z63(B:Nat)(w w':World):Prop:=Below 0 w w'/\w'.heap.size=w.heap.size/\ ∀k,k≠B->w'.heap[k]?=w.heap[k]?
theorem zYd{w:World}{B:Nat}{x y:Value}:z63 B w ((w.setCell ⟨B,0,none⟩ x).setCell ⟨B,1,none⟩ y):=
 ⟨((bF _ _).setCell (Nat.zero_le _) _).setCell (Nat.zero_le _) _,by simp,fun _ hk=>(heap_setCell_other _ _ _ _ hk).trans (heap_setCell_other _ _ _ _ hk)⟩
theorem z7v{w1 w':World}{B Bl base f:Nat}{l E:Value}{es:List Kno}(h:z2h w1 Bl base l f E es)(ho:z63 B w1 w')(hB:B≠Bl)(hE:some B≠E.ownBlock):z2h w' Bl base l f E es:=
 ⟨(ho.2.2 Bl (fun e=>hB e.symm)).trans h.box,h.own.kept (row:=some B) ⟨ho.1.os,ho.1.tape,ho.1.output,ho.1.size,fun k _ hk=>ho.2.2 k (fun e=>hk (congrArg some e))⟩ (Or.inr fun e=>hE e.symm),h.lt,h.few⟩
theorem zDy{w6:World}{B Bl base f:Nat}{l E:Value}{es:List Kno}{cs:Array Value}{t:TypeId}(hc:w6.heap[B]?=some (cT cs t (0,0)))(ht:t≠110)(h':z2h w6 Bl base l f E es):some B≠E.ownBlock:=by
 intro e;have ho:=h'.own;rcases ho.2 with⟨hn,_⟩|⟨k,cap,cur,hv,_,hk,_⟩
 ·rw[hn]at e;cases e
 rw[hv]at e;injection e with e
 have e':B=k:=e;rw[<-e',hc]at hk;injection hk with hk
 injection hk with _ h2
 exact ht h2
structure Deep (W:World) (bk off len Bl base:Nat) (C D S:Nat->Int) (R:Nat->Bool) (O N:Nat->Int):Prop where
 st:z1g W bk off len C D S R O N
 low:bk<base
 ne:bk≠Bl
 all:z2z W
 allNe:0≠Bl
 allLt:0<base
 room:base<=W.heap.size
def GoP(C D S:Nat->Int)(R:Nat->Bool)(O N:Nat->Int)(l:Value)(Bl base:Nat)(W:World)(F pc:Nat)(y:Way)(E:Value)(es:List Kno)(er i:Int)(w':World):Prop:=
 ((er !=0)=true/\ ∃j:Nat,i=(j:Int)/\ ∀st,goF C D S R O N F ((pc,y)::st) es= .inl (er,j))\/
 ((er !=0)=false/\ ∃E' f' es',f'<F/\z2h w' Bl base l f' E' es'/\z4h W E E'/\ ∀st,goF C D S R O N F ((pc,y)::st) es=goF C D S R O N f' st es')
def GoQ(C D S:Nat->Int)(R:Nat->Bool)(O N:Nat->Int)(l:Value)(Bl base:Nat)(W:World)(F pc:Nat)(y:Way)(E:Value)(es:List Kno)(e:Ending)(w':World):Prop:=
 ∃v,e= rT v/\ ∃er i,v= .agg #[I J er,I J i]/\Kp Bl E W w'/\GoP C D S R O N l Bl base W F pc y E es er i w'
def zHg(C D S:Nat->Int)(R:Nat->Bool)(O N:Nat->Int)(bk off len cap Bl base f:Nat):Prop:=
 ∀(W:World)(E:Value)(es:List Kno)(y:Way)(pc:Nat),Deep W bk off len Bl base C D S R O N->z2h W Bl base (.slice (some ⟨bk,off,none⟩) len cap) f E es->y.Ok->pc<len->
  Calls tP 46 #[pT (some ⟨Bl,0,none⟩),.agg (z0h y),I J (pc:Int)] W (GoQ C D S R O N (.slice (some ⟨bk,off,none⟩) len cap) Bl base W f pc y E es)
def zXa(C D S:Nat->Int)(R:Nat->Bool)(O N:Nat->Int)(bk off len cap Bl base f:Nat):Prop:=
 ∀(W:World)(E:Value)(es:List Kno)(y:Way)(pc:Nat),Deep W bk off len Bl base C D S R O N->z2h W Bl base (.slice (some ⟨bk,off,none⟩) len cap) f E es->y.Ok->pc<len->15<=C pc->C pc<=24->
  Calls tP 57 #[pT (some ⟨Bl,0,none⟩),.agg (z0h y),I J (pc:Int),(y.second (S pc).toNat (R pc) (N pc)).d] W (GoQ C D S R O N (.slice (some ⟨bk,off,none⟩) len cap) Bl base W (f+1) pc y E es)
section
variable {C D S:Nat->Int} {R:Nat->Bool} {O N:Nat->Int} {bk off len cap Bl base:Nat} {W W' wX w1 w':World} {E E':Value} {es:List Kno} {y y':Way} {pc pc' f F:Nat} {l:Value}
theorem Deep.on(h:Deep W bk off len Bl base C D S R O N)(hs:W.heap.size<=W'.heap.size)(hb: ∀k,k<base->k≠Bl->W'.heap[k]?=W.heap[k]?):Deep W' bk off len Bl base C D S R O N:=by
 have e:=fun o=>World.cell?_of_block (a:=⟨bk,o,none⟩) (hb bk h.low h.ne);have g:=fun o=>World.cell?_of_block (a:=⟨0,o,none⟩) (hb _ h.allLt h.allNe);refine⟨fun i hi=>?_,h.low,h.ne,⟨Nat.lt_of_lt_of_le h.all.1 hs,(g _).trans h.all.2.1,(g _).trans h.all.2.2⟩,h.allNe,h.allLt,Nat.le_trans h.room hs⟩;obtain⟨a,b,c,d,k,m⟩:=h.st i hi;exact⟨(e _).trans a,(e _).trans b,(e _).trans c,(e _).trans d,(e _).trans k,(e _).trans m⟩
theorem Deep.later(h:Deep W bk off len Bl base C D S R O N)(hb:Below W.heap.size W W'):Deep W' bk off len Bl base C D S R O N:=
 h.on hb.size fun k hk _=>hb.block k (Nat.lt_of_lt_of_le hk h.room)
theorem Deep.kp(h:Deep W bk off len Bl base C D S R O N)(hl:z2h W Bl base l f E es)(hk:Kp Bl E W W'):Deep W' bk off len Bl base C D S R O N:=
 h.on hk.size fun k hk' hne=>hk.2 k (Nat.lt_of_lt_of_le hk' h.room) hne fun e=>by have:=(hl.row k e.symm).1;omega
theorem Deep.less(h:Deep W bk off len Bl base C D S R O N)(v:Value):Deep (W.setCell ⟨Bl,1,none⟩ v) bk off len Bl base C D S R O N:=
 h.on kS fun k _ hne=>heap_setCell_other _ _ _ _ hne
theorem Deep.only{Bx:Nat}(h:Deep W bk off len Bl base C D S R O N)(ho:z63 Bx W W')(hB:base<=Bx):Deep W' bk off len Bl base C D S R O N:=
 h.on ho.1.size fun k hk _=>ho.2.2 k kO
theorem zCl(h:z4h wX E E')(hs:W.heap.size<=wX.heap.size):z4h W E E':=h.elim Or.inl fun⟨k,h1,h2⟩=>Or.inr ⟨k,h1,Nat.le_trans hs h2⟩
theorem zQ3{Bx:Nat}(h:z4h wX E E')(hE:some Bx≠E.ownBlock)(hs:Bx<wX.heap.size):some Bx≠E'.ownBlock:=by
 rcases h with h|⟨k,h1,h2⟩
 ·rw[h];exact hE
 rw[h1];intro e;injection e with e;omega
theorem z2h.not_row{Bx:Nat}(h:z2h W Bl base l f E es)(hB:W.heap.size<=Bx):some Bx≠E.ownBlock:=fun e=>by have:=(h.row Bx e.symm).2;omega
theorem GoQ.no{er:Int}(hk:Kp Bl E W w')(he:(er !=0)=true)(h: ∀st,goF C D S R O N F ((pc,y)::st) es= .inl (er,pc)):GoQ C D S R O N l Bl base W F pc y E es (rT (.agg #[I J er,I J pc])) w':=
 ⟨_,rfl,er,pc,rfl,hk,Or.inl ⟨he,pc,rfl,h⟩⟩
theorem GoQ.on{Bx:Nat}{er i:Int}(hl:z2h W Bl base l F E es)(hB:W.heap.size<=Bx)(hs:Bx<wX.heap.size)(hf:f<=F)(hst: ∀st,goF C D S R O N F ((pc,y)::st) es=goF C D S R O N f ((pc',y')::st) es)(hk:Kp Bl E W w')
  (h:GoP C D S R O N l Bl base wX f pc' y' E es er i w1)(ho:z63 Bx w1 w'):GoQ C D S R O N l Bl base W F pc y E es (rT (.agg #[I J er,I J i])) w':=by
 refine⟨_,rfl,er,i,rfl,hk,?_⟩;rcases h with⟨h1,j,h2,h3⟩|⟨h1,E',f',es',h2,h3,h4,h5⟩
 ·exact Or.inl ⟨h1,j,h2,fun st=>(hst st).trans (h3 st)⟩
 exact Or.inr ⟨h1,E',f',es',by omega,z7v h3 ho (by have:=hl.blt;omega) (zQ3 h4 (hl.not_row hB) hs),zCl h4 kO,fun st=>(hst st).trans (h5 st)⟩
end
theorem Deep.see{C D S:Nat->Int}{R:Nat->Bool}{O N:Nat->Int}{bk off len cap Bl base f pc:Nat}{W w:World}{E:Value}{es:List Kno}(h:Deep W bk off len Bl base C D S R O N)(hl:z2h W Bl base (.slice (some ⟨bk,off,none⟩) len cap) f E es)(hpc:pc<len)(hb:Below W.heap.size W w):
  (w.cell? ⟨bk,off+pc*6,none⟩=some (I J (C pc))/\w.cell? ⟨bk,off+pc*6+1,none⟩=some (I J (D pc))/\w.cell? ⟨bk,off+pc*6+2,none⟩=some (I J (S pc))/\w.cell? ⟨bk,off+pc*6+3,none⟩=some (.bool (R pc))/\w.cell? ⟨bk,off+pc*6+4,none⟩=some (I J (O pc))/\w.cell? ⟨bk,off+pc*6+5,none⟩=some (I J (N pc)))/\bk<w.heap.size/\(∀i,w.cell? ⟨Bl,i,none⟩=#[.slice (some ⟨bk,off,none⟩) len cap,I J (f:Int),E][i]?)/\(∀i,w.frozen? ⟨Bl,i,none⟩=false)/\Bl<w.heap.size:=by
 have h1:=h.later hb;have h2:=(Mm.cons (Mm.start w) (hl.later hb).box).x;simp only[Mx]at h2;exact⟨h1.st pc hpc,Nat.lt_of_lt_of_le h1.low h1.room,h2.1,h2.2.1,h2.2.2.1⟩
theorem z5s{W w:World}{Bl k:Nat}{E x y:Value}(h:Kp Bl E W w)(hk:W.heap.size<=k):Kp Bl E W ((w.setCell ⟨k,0,none⟩ x).setCell ⟨k,1,none⟩ y):=
 ⟨(h.1.setCell (Nat.zero_le _) _).setCell (Nat.zero_le _) _,fun i hi h1 h2=>by rw[heap_setCell_other _ _ _ _ (by show i≠k;omega),heap_setCell_other _ _ _ _ (by show i≠k;omega)];exact h.2 i hi h1 h2⟩
theorem z3s{P:Program}{o:Oper}{u:Act}(W W':World)(x y:Operand)(t:TypeId)(s1 s2 v:Value)(ho:o.op= .call {callee:= .builtin .append,args:=#[x,y],argTypes:=#[t,t]})(hx:u.eval x=s1)(hy:u.eval y=s2)
  (hr:(Builtin.append_ #[t,t] o.type #[s1,s2]).run P W= .ok v W'):(execOp u.eval o).run P W= .ok (.value v) W':=by
 unfold execOp;simp only[ho,resolve,invoke,builtin,Sem.run_bind,Sem.run_pure,Result.andThen_ok,List.map_toArray,List.map_cons,List.map_nil,hx,hy,hr]
theorem Tryz.infoRB:(Tryz.prog.info? 110).map (fun i=>(i.zero,i.size,i.bytes))=some (some (.agg #[I J 0,I J 0]),2,16):=kR
theorem zS0{w:World}{x y:Value}{e:TypeId}: ∀(j:Nat) u,[x,y][j]?=some u->(w.drew.alloc (cT #[x,y] e)).cell? ((⟨w.heap.size,0,none⟩:Addr).add j)=some u:=by
 intro j u hj;rw[Addr.add_mid,Nat.zero_add,cell_of_row _ w.heap.size j _ e (0,0) (heap_alloc_new w.drew _), <-Array.getElem?_toList];exact hj
theorem zUp{w:World}{Bl base f:Nat}{l E:Value}{es:List Kno}(h:z2h w Bl base l f E es)(hb:base<=w.heap.size)(hf:es.length+1+f<=4000)(x:Kno): ∃qa qc g c w5,E= .slice qa es.length qc/\Hid ((Builtin.append_ #[142,142] 142 #[E,.slice (some ⟨w.heap.size,0,none⟩) 1 1]).run tP (w.drew.alloc (cT #[I J x.l,I J x.h] 110))= .ok (.slice (some ⟨g,0,none⟩) (es.length+1) c) w5)/\
  w5.heap[Bl]?=w.heap[Bl]?/\(∀k,k<w.heap.size->some k≠E.ownBlock->w5.heap[k]?=w.heap[k]?)/\Hid (z2h (w5.setCell ⟨Bl,2,none⟩ (.slice (some ⟨g,0,none⟩) (es.length+1) c)) Bl base l f (.slice (some ⟨g,0,none⟩) (es.length+1) c) (es++[x])/\z4h w E (.slice (some ⟨g,0,none⟩) (es.length+1) c)/\Kp Bl E w (w5.setCell ⟨Bl,2,none⟩ (.slice (some ⟨g,0,none⟩) (es.length+1) c))):=by
 obtain⟨j0,hj,hy0,hy1,hy2⟩:=info_parts Tryz.infoRB
 obtain⟨qa,qc,rfl⟩: ∃qa qc,E= .slice qa es.length qc:=by
  rcases h.own.2 with⟨e1,e2⟩|⟨g,cap,cur,e1,_⟩
  ·exact⟨none,0,by rw[e2];exact e1⟩
  ·exact⟨_,_,e1⟩
 have how:(w.drew.alloc (cT #[I J x.l,I J x.h] 110)).ownsRow base 110 2 (.slice qa es.length qc) es.length (z37 es):=World.ownsRow.alloc (show w.drew.ownsRow _ _ _ _ _ _ from h.own) _;have hz:(w.drew.alloc (cT #[I J x.l,I J x.h] 110)).heap.size=w.heap.size+1:=by show(w.heap.push _).size=_;rw[Array.size_push]
 obtain⟨v5,w5,hr5,hown5,hg, -,hat5⟩:=run_append_own_at (P:=tP) (w.drew.alloc (cT #[I J x.l,I J x.h] 110)) base 142 142 110 j0 (.agg #[I J 0,I J 0]) 2 16 Tryz.underlying142 hj hy0 hy1 hy2 rfl kD (.slice qa es.length qc) es.length (z37 es) how ⟨w.heap.size,0,none⟩ 1 1 [I J x.l,I J x.h] rfl zS0 (by intro u hu;simp at hu;rcases hu with rfl|rfl<;>rfl) (by unfold maxLen;omega) kO kO
 obtain⟨g5,c5,rfl⟩: ∃g5 c5,v5= .slice (some ⟨g5,0,none⟩) (es.length+1) c5:=by
  rcases hown5.2 with⟨_,h⟩|⟨g,cap',_,h,_⟩
  ·omega
  ·exact⟨g,cap',h⟩
 have hk: ∀k,k<w.heap.size->some k≠(Value.slice qa es.length qc).ownBlock->w5.heap[k]?=w.heap[k]?:=fun k h1 h2=>(hg.block k kO h2).trans (heap_alloc_old w.drew _ h1);have hB:=hk Bl h.blt fun e=>by have:=h.row Bl e.symm;have:=h.lt;omega
 refine⟨qa,qc,g5,c5,w5,rfl,hr5,hB,hk,⟨heap_setCell_same w5 Bl 2 _ _ _ (hB.trans h.box),?_,h.lt,?_⟩,?_,⟨?_,fun k h1 h2 h3=>(heap_setCell_other _ _ _ _ h2).trans (hk k h1 h3)⟩⟩
 ·rw[List.length_append,z89];exact ownsRow_setCell_below hown5 h.lt _
 ·rw[List.length_append];exact hf
 ·rcases hat5 with h|h
  ·exact Or.inl h
  ·exact Or.inr ⟨_,h,by omega⟩
 exact((((bF 0 w).drew).alloc (Nat.zero_le _) _).trans ⟨hg.os,hg.tape,hg.output,hg.size,fun k hk=>absurd hk (Nat.not_lt_zero _)⟩).setCell (Nat.zero_le _) _
theorem kn3{x:Kno}(h:x.Ok):(Hid (x.k=0)/\(kdg x.k==110)=false/\(kdg x.k==0)=true/\(kdg x.k !=110)=true/\z0s x=8)\/(Hid (x.k=1)/\(kdg x.k==110)=true/\(kdg x.k==0)=false/\(kdg x.k !=110)=false/\z0s x=0)\/(Hid (x.k≠0/\x.k≠1)/\(kdg x.k==110)=false/\(kdg x.k==0)=false/\(kdg x.k !=110)=true/\z0s x=1):=by
 obtain⟨k,l,u⟩:=x;rcases kD_six h.1 h.2.1 with e|e|e|e|e|e<;>(dsimp only at e;subst e)
 ·exact .inl ⟨rfl,rfl,rfl,rfl,rfl⟩
 ·exact .inr (.inl ⟨rfl,rfl,rfl,rfl,rfl⟩)
 all_goals exact .inr (.inr ⟨⟨by simp,by simp⟩,rfl,rfl,rfl,rfl⟩)
theorem mk3(y:Way){d:Nat}(h:d<27):(z0h y)[d*3]?=some (.int .u8 (kdg (y.all d).k))/\(z0h y)[d*3+1]?=some (I J (y.all d).l)/\(z0h y)[d*3+2]?=some (I J (y.all d).h):=
 ⟨by rw[z7u _ _ kO];exact congrArg some (z3w y d 0 kO),by rw[z7u _ _ kO,z3w y d 1 kO];rfl,by rw[z7u _ _ kO,z3w y d 2 kO];rfl⟩
theorem mkr(y:Way){d:Nat}(h:d<11):(z0h y)[d*3]?=some (.int .u8 (kdg (y.reg d).k))/\(z0h y)[d*3+1]?=some (I J (y.reg d).l)/\(z0h y)[d*3+2]?=some (I J (y.reg d).h):=by
 have:=mk3 y (d:=d) kO;rw[zZm h]at this;exact this
theorem zQq(y:Way)(d:Nat)(x:Kno):(((z0h y).setIfInBounds (d*3) (.int .u8 (kdg x.k))).setIfInBounds (d*3+1) (I J x.l)).setIfInBounds (d*3+2) (I J x.h)=z0h (y.putAll d x):=by
 apply Array.ext
 ·simp[z0h]
 intro j h1 h2;have h3:j<81:=by rw[z2t]at h2;exact h2
 simp only[Array.getElem_setIfInBounds,Array.size_setIfInBounds,z2t,h3,z6a];rw[zGi]
 by_cases e:d*3<=j/\j<d*3+3
 ·rw[if_pos e]
  rcases(show j=d*3\/j=d*3+1\/j=d*3+2 by omega)with e|e|e
  ·rw[if_neg kO,if_neg kO,if_pos kO,show j-d*3=0 by omega];rfl
  ·rw[if_neg kO,if_pos kO,show j-d*3=1 by omega];rfl
  ·rw[if_pos kO,show j-d*3=2 by omega];rfl
 rw[if_neg e,if_neg kO,if_neg kO,if_neg kO]
theorem Mm.put3{V w:World}{g h:Nat}{a:Array Value}{t u:TypeId}{y:Way}(hM:Mm V [(h,a,t),(g,z0h y,u)] w)(hg:V.heap.size<=g)(hn:h≠g)(d:Nat)(x:Kno):Mm V [(h,a,t),(g,z0h (y.putAll d x),u)] (((w.setCell ⟨g,d*3,none⟩ (.int .u8 (kdg x.k))).setCell ⟨g,d*3+1,none⟩ (I J x.l)).setCell ⟨g,d*3+2,none⟩ (I J x.h)):=by
 refine Mm.as (((hM.set hg (d*3) _).set hg (d*3+1) _).set hg (d*3+2) _) ?_;simp[mput,hn, <-zQq y d x]
end
section
open Go.ChangeShapes Go.WideShapes Go.ChangeAt Go.RowKit
set_option maxHeartbeats 40000000
set_option maxRecDepth 1000000
attribute [local simp] dwS z04
variable {C D S:Nat->Int} {R:Nat->Bool} {O N:Nat->Int} {bk off len cap Bl base f:Nat}
theorem zRc:zHg C D S R O N bk off len cap Bl base 0:=by
 intro W E es y pc hD hL hy hpc;have F:=(Mm.cons (Mm.start W) hL.box).x;simp only[Mx]at F;have e1:IntKind.i64.wrap (((0:Nat):Int)-1)=(-1:Int):=by rw[IntWalk.i64_left];exact z08 kD kD
 have HK:Hid (∀st,goF C D S R O N 0 ((pc,y)::st) es= .inl (4,pc)):=fun st=>by rw[goF]
 clear hD hL hy;go_in
 go_wp2_with fail;refine bodyPost_ret (by simp[results,Tryz.results46,go_sem, *];try rfl) rfl (GoQ.no ?_ rfl HK.out);exact⟨kB,fun k hk h1 _=>by rw[heap_alloc_old _ _ kZ,heap_alloc_old _ _ (by simpa using hk)];exact heap_setCell_other _ _ _ _ h1⟩
theorem kMe{P:Prop}(h:P:=by with_reducible repeat(first|exact mcS|apply List.mem_cons_of_mem)):P:=h
theorem Mm.two{V w:World}{F:MemL}{a b:Nat×Array Value×TypeId}(h:Mm V (a::b::F) w):Mm V F w:=h.sub fun _ hx=> .tail _ (.tail _ hx)
theorem Mm.put4{V w:World}{g h:Nat}{a:Array Value}{t u:TypeId}{y:Way}{k:Int}(hM:Mm V [(h,a,t),(g,z0h y,u)] w)(hg:V.heap.size<=g)(hn:h≠g)(d:Nat)(x:Kno)(hk:kdg x.k=k):Mm V [(h,a,t),(g,z0h (y.putAll d x),u)] (((w.setCell ⟨g,d*3,none⟩ (.int .u8 k)).setCell ⟨g,d*3+1,none⟩ (I J x.l)).setCell ⟨g,d*3+2,none⟩ (I J x.h)):=hk▸hM.put3 hg hn d x
theorem Mm.mex{V w:World}{g h:Nat}{a:Array Value}{t u:TypeId}{y:Way}(hM:Mm V [(h,a,t),(g,z0h y,u)] w): ∃y1,Mm V [(h,a,t),(g,z0h y1,u)] w/\Hid (y1=y):=⟨y,hM,rfl⟩
theorem dis4{a b c:Nat}(h1:a+1<b)(h2:b<c):(a=b)=False/\(b=a)=False/\(a+1=b)=False/\(b=a+1)=False/\(a=c)=False/\(c=a)=False/\(a+1=c)=False/\(c=a+1)=False/\(b=c)=False/\(c=b)=False/\(a=a+1)=False/\(a+1=a)=False:=by simp;omega
theorem kCon2{P:Prop}(h:P:=by exact HC.out _ (HDL.out _ hC.b).1.all):P:=h
theorem lkE{L:List (Int×Way)×Int}{e o':Int}{y':Way}(h:L=if e=0 then([(o',y')],0)else([],e)):Hid ((e≠0/\L.2=e)\/(e=0/\L=([(o',y')],0))):=by
 by_cases z:e=0
 ·rw[if_pos z]at h
  exact .inr ⟨z,h⟩
 rw[if_neg z]at h;exact .inl ⟨z,by rw[h]⟩
theorem kGe{P:Prop}(h:P:=by
 intro v9 w9 hq;obtain⟨er,i,rfl,hkp,hT⟩:=hq;have F:=(Mm.cons (Mm.start w9) ((hkp.2 (W.heap.size+1) (hM.lt kMe) (by have:=hL.blt;omega) (hL.not_row kO)).trans (hM.row kMe))).x;simp only[Mx]at F;simp only[pS];go_wp2_with fail;exact bodyPost_ret (by simp[results,Tryz.results46,go_sem, *];try rfl) rfl (GoQ.on hL kO (hM.lt kMe) kO (fun st=>by first|exact hst.out st|rfl) (z5s ((HV.out.trans (Kp.of hM.b) z4h.refl).trans hkp z4h.refl) kO) hT zYd)):P:=h
theorem kGv{P S:Prop}(q:S)(h:Kont S->P:=by
 intro kq;refine z00 rfl _ _ (by go_simp;exact⟨rfl,rfl⟩) ?_;simp only[pS];exact kq.out):P:=h ⟨q⟩
theorem kGm{P:Prop}(h:P:=by
 refine flo (W:=V) 14 [12] hM kR kR kQp ?_;refine kFl ?_;intro w6 hM;have F:=hM.x;simp only[Mx]at F;go_wp2_with fail;go_meet;exact⟨X.2,0,y.putAll d X.1,rfl,kS,Mm.put3 (hM.two) kO kO d _,lkE HX.out⟩):P:=h
theorem kGs{P:Prop}(h:P:=by
 go_wp2_with fail;go_meet
 first|exact⟨_,0,y,rfl,kS,hM.two.two,lkE HX.out⟩|exact⟨0,0,y,by rw[eq_of_beq t1],kS,hM.two.two,lkE HX.out⟩):P:=h
theorem loseP(y:Way)(x:Kno):(((((y.putAll 0 x).putAll 1 kno0).putAll 2 kno0).putAll 3 kno0).putAll 4 kno0).putAll 5 kno0=y.lose.putReg 0 x:=by
 iterate 6 rw[z3u kD]
 unfold Way.lose Way.putReg;congr 1;funext i;dsimp only
 by_cases h:1<=i/\i<=5
 ·rw[if_neg (show¬i=0 by omega),if_pos h]
  (repeat' split)<;>first|rfl|omega
 rw[if_neg kO,if_neg kO,if_neg kO,if_neg kO,if_neg kO,if_neg h]
theorem putP(y:Way)(a x:Kno):(y.putAll 0 a).putAll 0 x=y.putAll 0 x:=by
 iterate 3 rw[z3u kD]
 unfold Way.putReg;congr 1;funext i;dsimp only;split<;>rfl
def zJ1(y:Way):Nat->Way
 |0=>y
 |1=>y
 |q+2=>(zJ1 y (q+1)).putAll (q+1) kno0
theorem zNq{y:Way}: ∀{q:Nat},1<=q->zJ1 y (q+1)=(zJ1 y q).putAll q kno0
 |0,h=>absurd h kD
 |_+1,_=>rfl
theorem kGc{P:Prop}(h:P:=by
 replace hM:=hM.two
 go_upto_region 50 with(first|(go_at_call 56;refine cS (z5q _ _) ?_;first|rw[HQ]|rw[HQ7])|(go_at_call 45;refine cR (zAi _ _) ?_;intro w2 hb;have hM:=Mm.later (hM.put3 kO kO 0 ⟨1, -9223372036854775808,9223372036854775807⟩) hb;have F:=hM.x;simp only[Mx]at F;have m0:=mkr (y.putAll 0 ⟨1, -9223372036854775808,9223372036854775807⟩) (d:=0) kD;simp only[Nat.zero_mul,Nat.zero_add]at m0))
 first|refine gnl (hM.put4 kO kO 0 ⟨5,0,0⟩ kD) ?_|refine gnl (hM.put4 kO kO 0 ⟨1,0,0⟩ kD) ?_|refine gnl (hM.put3 kO kO 0 ⟨1, -9223372036854775808,9223372036854775807⟩) ?_
 clear hM F m0 m3;intro w4 hM;obtain⟨y1,hM,ey⟩:=hM.mex;have HM:Hid _:=hM;clear hM;go_wp2_with fail;go_loopw [14] (fun iv wr=> ∃q:Nat,iv=I J (q:Int)/\1<=q/\q<=6/\Hid (Mm V [(W.heap.size+1, #[I J 0,I J 0],75),(W.heap.size,z0h (zJ1 y1 q),148)] wr)) (fun iv _=>6-(intOf iv).toNat)
 case atStart=>exact⟨1,rfl,kD,kD,HM.out⟩
 case round=>
  obtain⟨q,rfl,hq1,hq6,HN⟩:=hrel;clear HM;have hM:=HN.out;have F:=hM.x;simp only[Mx]at F;have hq0:(0:Int)<=(q:Int):=kO
  by_cases hlt:q<6
  ·have hle:decide ((q:Int)<=5)=true:=kZ
   have hq27:(q:Int)<27:=kO;have m:=mk3 (zJ1 y1 q) (d:=q) kO;go_wp2_with fail;go_roundw
   case rel=>exact⟨q+1,by go_num,kO,kO,by rw[zNq hq1];exact hM.put3 kO kO q kno0⟩
   case measure=>simp[intOf];omega
  ·obtain rfl:q=6:=by omega
   have hle:decide (((6:Nat):Int)<=5)=false:=rfl;go_wp2_with fail;go_meet;exact⟨_,0,_,rfl,kS,hM,lkE (HX.out.trans (by have:=ey.out;subst this;first|(simp[Way.call,a4,z10,zJ1,putP,loseP];done)|simp[Way.call,z10,zJ1,putP,loseP]))⟩):P:=h
theorem zT6{y:Way}{x z:Kno}{o:Int}(hx:x.Ok)(hz:z.Ok)(ho:In64 o):(((z0i x o).2==0)=false/\((z0i x o).2,y)=y.store x z o)\/(((z0i x o).2==0)=true/\(kdg x.k==116)=true/\(6,y)=y.store x z o)\/(((z0i x o).2==0)=true/\(kdg x.k==116)=false/\(kdg z.k==0)=true/\(8,y)=y.store x z o)\/(((z0i x o).2==0)=true/\(kdg x.k==116)=false/\(kdg z.k==0)=false/\(kdg x.k==99)=true/\(kdg z.k !=110)=true/\(1,y)=y.store x z o)\/
  (((z0i x o).2==0)=true/\(kdg x.k==116)=false/\(kdg z.k==0)=false/\(kdg x.k==99)=true/\(kdg z.k !=110)=false/\(kdg x.k==102)=false/\(0,y)=y.store x z o)\/(((z0i x o).2==0)=true/\(kdg x.k==116)=false/\(kdg z.k==0)=false/\(kdg x.k==99)=false/\(kdg x.k==102)=true/\((furB x o).1 !=(furB x o).2)=true/\(2,y)=y.store x z o)\/
  (((z0i x o).2==0)=true/\(kdg x.k==116)=false/\(kdg z.k==0)=false/\(kdg x.k==99)=false/\(kdg x.k==102)=true/\((furB x o).1 !=(furB x o).2)=false/\ ∃q:Nat,q<27/\wrap64 (27+(furB x o).1)=(q:Int)/\(0,y.putAll q z)=y.store x z o):=by
 unfold Way.store furB
 by_cases e:(z0i x o).2≠0
 ·exact .inl ⟨by simpa using e,by rw[if_pos e]⟩
 have e:=Classical.not_not.1 e;obtain⟨n1,n2,r1,r2⟩:=z4g e;have n3:=z7x hx ho;rw[e,n2];refine .inr ?_;simp only[ne_eq,not_true,if_false,if_true];obtain⟨k,l,u⟩:=x;have h0:=hx.1;have h5:=hx.2.1;dsimp only at*;rcases(show k=2\/k=3\/k=4 by omega)with rfl|rfl|rfl
 ·exact .inl ⟨rfl,rfl,by simp⟩
 all_goals
  refine .inr ?_;rcases kn3 hz with⟨g1,g2,g3,g4,g5⟩|⟨g1,g2,g3,g4,g5⟩|⟨g1,g2,g3,g4,g5⟩
  ·exact .inl ⟨rfl,rfl,g3,by simp[g1.out]⟩
  all_goals
   refine .inr ?_;have hn:z.k≠0:=by first|exact g1.out.1|(rw[g1.out];decide)
 iterate 2
  generalize knoTo ⟨3,l,u⟩ o=b at*;obtain⟨b0,b1⟩:=b;have r1: -16<=b0:=r1;have r2:b1<= -1:=r2;dsimp only at*;refine .inr (.inr ?_)
  by_cases t:b0=b1
  ·exact .inr ⟨rfl,rfl,g3,rfl,rfl,by simpa using t,11+(b0+16).toNat,by omega,by rw[z08 kO kO];omega,by simp[hn,t,zId]⟩
  ·exact .inl ⟨rfl,rfl,g3,rfl,rfl,by simpa using t,by simp[hn,t]⟩
 ·exact .inr (.inl ⟨rfl,rfl,g3,rfl,g4,rfl,by simp[hn,g5]⟩)
 exact .inl ⟨rfl,rfl,g3,rfl,g4,by simp[hn,g5]⟩
abbrev GsT(X:Int->Int->Prop):Prop:= ∀(C D S:Nat->Int)(R:Nat->Bool)(O N:Nat->Int)(bk off len cap Bl base f:Nat)(hlen:len<=200)(hr: ∀i,i<len->z9f (C i) (D i) (S i) (R i) (O i) (N i) len i)(hf: ∀i,i<len->In64 (O i)/\In64 (N i))(GF:zHg C D S R O N bk off len cap Bl base f)(BF:zXa C D S R O N bk off len cap Bl base f)(W:World)(E:Value)(es:List Kno)(y:Way)(pc:Nat),Deep W bk off len Bl base C D S R O N->z2h W Bl base (.slice (some ⟨bk,off,none⟩) len cap) (f+1) E es->y.Ok->pc<len->X (C pc) (N pc)->
  Calls tP 46 #[pT (some ⟨Bl,0,none⟩),.agg (z0h y),I J (pc:Int)] W (GoQ C D S R O N (.slice (some ⟨bk,off,none⟩) len cap) Bl base W (f+1) pc y E es)
theorem kLc{P:Prop}(h:P:=by
 obtain⟨c27,hn⟩:=HX.out;clear HX;have c27:Hid (c=27):=c27;have k2:z.Ok:=hz▸z2o hy hs iN;have x28:(c==28)=false:=by rw[c27.out];rfl
 have x14:(c==14)=false:=by rw[c27.out];rfl
 have x25:(c==25)=false:=by rw[c27.out];rfl
 have x26:(c==26)=false:=by rw[c27.out];rfl
 have x27:(c==27)=true:=by rw[c27.out];rfl
 have HQ:(decide (15<=c)&&decide (c<=24))=false:=by rw[c27.out];rfl
 have HQ7:(decide ((15:Int)<=27)&&decide ((27:Int)<=24))=false:=rfl
 have HX:Hid (y.look c d s r o n=if(y.call n).1=0 then([(0,(y.call n).2)],0)else([],(y.call n).1)):=by
  show _=_;simp[Way.look,c27.out]
 have m3:=mkr y (d:=1) kD;have m0:=mkr y (d:=0) kD;simp only[Nat.one_mul,Nat.zero_mul,Nat.zero_add,Nat.reduceAdd]at m3 m0;have gA:=(HDL.out _ hM.b).1.all;unfold z2z at gA;clear HK HB HG G m1 m2 rt iN hz hr hL hD hlen hpc hw p0 p1 iO e1 e2;have K1:=kn3 (hy.reg 1 kD);rcases hn with rfl|rfl|rfl
 all_goals
  rcases K1 with⟨k0,a1,a2,a3,a4⟩|⟨k0,a1,a2,a3,a4⟩|⟨k0,a1,a2,a3,a4⟩
  ·as_aux_lemma=>exact kGc
  ·as_aux_lemma=>exact kGc
  ·as_aux_lemma=>exact kGc):P:=h
end
section
open Go.ChangeShapes Go.WideShapes Go.ChangeAt Go.RowKit
set_option maxHeartbeats 40000000
set_option maxRecDepth 1000000
attribute [local simp] dwS z04
end
section
open Go.ChangeShapes Go.WideShapes Go.ChangeAt Go.RowKit
set_option maxHeartbeats 40000000
set_option maxRecDepth 1000000
attribute [local simp] dwS z04
end
section
open Go.ChangeShapes Go.WideShapes Go.ChangeAt Go.RowKit
structure Lft (C D S:Nat->Int) (R:Nat->Bool) (O N:Nat->Int) (bk off len cap Bl base:Nat) (W:World) (f pc:Nat) (y:Way) (E:Value) (es:List Kno) (rest:List (Nat×Way)) (E':Value) (w:World):Prop where
 kp:Kp Bl E W w
 row:z4h W E E'
 deep:Deep w bk off len Bl base C D S R O N
 left: ∃f' es',f'<=f/\z2h w Bl base (.slice (some ⟨bk,off,none⟩) len cap) f' E' es'/\ ∀st,goF C D S R O N (f+1) ((pc,y)::st) es=goF C D S R O N f' (rest++st) es'
theorem Mm.own{V w:World}{F:MemL}(h:Mm V F w):Mm w F w:=⟨bF _ _,h.2⟩
section
variable {C D S:Nat->Int} {R:Nat->Bool} {O N:Nat->Int} {bk off len cap Bl base:Nat} {W V wX w w1 w':World} {E E':Value} {es:List Kno} {y y':Way} {pc pc' f:Nat} {l:Value} {rest:List (Nat×Way)} {F:MemL}
theorem Lft.over(h:Lft C D S R O N bk off len cap Bl base W f pc y E es rest E' w)(hM:Mm V F w)(hk:Kp Bl E' w w')(ht: ∀x,x∈F->x.2.2≠110/\x.2.2≠144):Mm w' F w':=by
 obtain⟨f',es', -,hl, -⟩:=h.left;refine⟨bF _ _,fun x hx=>(hk.2 x.1 (Array.getElem?_eq_some_iff.1 (hM.2 x hx)).1 (fun e=>?_) (zDy (hM.2 x hx) (ht x hx).1 hl)).trans (hM.2 x hx)⟩;have:=hl.box;rw[<-e,hM.2 x hx]at this;injection this with this
 injection this with _ t
 exact(ht x hx).2 t
theorem Lft.later(h:Lft C D S R O N bk off len cap Bl base W f pc y E es rest E' w)(hb:Below w.heap.size w w'):Lft C D S R O N bk off len cap Bl base W f pc y E es rest E' w':=by
 obtain⟨f',es',h1,h2,h3⟩:=h.left;exact⟨h.kp.trans (Kp.of hb) z4h.refl,h.row,h.deep.later hb,f',es',h1,h2.later hb,h3⟩
theorem Lft.put{B:Nat}{cs:Array Value}{t:TypeId}(h:Lft C D S R O N bk off len cap Bl base W f pc y E es rest E' w)(ho:z63 B w w')(hB:base<=W.heap.size/\W.heap.size<=B/\Bl<base)(hg:w.heap[B]?=some (cT cs t (0,0)))(ht:t≠110):Lft C D S R O N bk off len cap Bl base W f pc y E es rest E' w':=by
 obtain⟨f',es',h1,h2,h3⟩:=h.left;exact⟨⟨h.kp.1.trans ho.1,fun k hk e1 e2=>(ho.2.2 k kO).trans (h.kp.2 k hk e1 e2)⟩,h.row,h.deep.only ho kO,f',es',h1,z7v h2 ho kO (zDy hg ht h2),h3⟩
theorem Lft.go(h:Lft C D S R O N bk off len cap Bl base W f pc y E es ((pc',y')::rest) E' w)(hg: ∀f',f'<=f->zHg C D S R O N bk off len cap Bl base f')(hy:y'.Ok)(hpc:pc'<len){p:Int}(hp:p=(pc':Int)):
  Calls tP 46 #[pT (some ⟨Bl,0,none⟩),.agg (z0h y'),I J p] w fun e w'=> ∃v,e= rT v/\ ∃er i,v= .agg #[I J er,I J i]/\Kp Bl E' w w'/\
   (((er !=0)=true/\Hid (Kp Bl E W w'/\ ∃j:Nat,i=(j:Int)/\ ∀st,goF C D S R O N (f+1) ((pc,y)::st) es= .inl (er,j)))\/((er !=0)=false/\ ∃E',Hid (Lft C D S R O N bk off len cap Bl base W f pc y E es rest E' w'))):=by
 obtain⟨f',es',h1,h2,h3⟩:=h.left;subst hp;refine(hg f' h1 w E' es' y' pc' h.deep h2 hy hpc).mono fun e w' ⟨v,g1,er,i,g2,g3,g4⟩=>⟨v,g1,er,i,g2,g3,?_⟩;rcases g4 with⟨k1,j,k2,k3⟩|⟨k1,E2,f2,es2,k2,k3,k4,k5⟩
 ·exact .inl ⟨k1,h.kp.trans g3 h.row,j,k2,fun st=>(h3 st).trans (k3 _)⟩
 exact .inr ⟨k1,E2,h.kp.trans g3 h.row,h.row.trans k4 h.kp.size,h.deep.kp h2 g3,f2,es2,by omega,k3,fun st=>(h3 st).trans (k5 _)⟩
theorem Lft.bad{er i:Int}(hk:Kp Bl E W w)(he:(er !=0)=true)(h: ∃j:Nat,i=(j:Int)/\ ∀st,goF C D S R O N (f+1) ((pc,y)::st) es= .inl (er,j)):GoQ C D S R O N l Bl base W (f+1) pc y E es (rT (.agg #[I J er,I J i])) w:=⟨_,rfl,er,i,rfl,hk,.inl ⟨he,h⟩⟩
theorem Kp.al(h:Kp Bl E W w)(o:Obj):Kp Bl E W (w.alloc o):=h.trans (Kp.of ((bF _ _).alloc (Nat.le_refl _) _)) z4h.refl
theorem Lft.end{B:Nat}{cs:Array Value}{er i:Int}(h:Lft C D S R O N bk off len cap Bl base W f pc y E es [] E' w)(he:(er !=0)=false)(hB:W.heap.size<=B)(hg:w.heap[B]?=some (cT cs 75 (0,0))){u v:Value}(hL:Bl<W.heap.size):GoQ C D S R O N (.slice (some ⟨bk,off,none⟩) len cap) Bl base W (f+1) pc y E es (rT (.agg #[I J er,I J i])) ((w.setCell ⟨B,0,none⟩ u).setCell ⟨B,1,none⟩ v):=by
 obtain⟨f',es',h1,h2,h3⟩:=h.left;exact⟨_,rfl,er,i,rfl,z5s h.kp hB,.inr ⟨he,E',f',es',by omega,z7v h2 zYd kO (zDy hg kD h2),h.row,h3⟩⟩
end
theorem Mm.row3{w:World}{F:MemL}{g:Nat}{u:TypeId}{y:Way}(hM:Mm w (F++[(g,z0h y,u)]) w)(hn: ∀x,x∈F->x.1≠g)(d:Nat)(x:Kno){k:Int}(hk:kdg x.k=k):Mm (((w.setCell ⟨g,d*3,none⟩ (.int .u8 k)).setCell ⟨g,d*3+1,none⟩ (I J x.l)).setCell ⟨g,d*3+2,none⟩ (I J x.h)) (F++[(g,z0h (y.putAll d x),u)]) (((w.setCell ⟨g,d*3,none⟩ (.int .u8 k)).setCell ⟨g,d*3+1,none⟩ (I J x.l)).setCell ⟨g,d*3+2,none⟩ (I J x.h)):=by
 subst hk;refine⟨bF _ _,fun z hz=>?_⟩;rcases List.mem_append.1 hz with hz|hz
 ·have h:=hn z hz
  exact(heap_setCell_other _ _ _ _ h).trans ((heap_setCell_other _ _ _ _ h).trans ((heap_setCell_other _ _ _ _ h).trans (hM.2 z (List.mem_append_left _ hz))))
 have h0:w.heap[g]?=some (cT (z0h y) u (0,0)):=hM.2 _ (List.mem_append_right _ (List.mem_singleton.2 rfl));obtain rfl:=List.mem_singleton.1 hz;show _=some (Obj.cells (z0h (y.putAll d x)) u (0,0));rw[<-zQq y d x];exact heap_setCell_same _ _ _ _ _ _ (heap_setCell_same _ _ _ _ _ _ (heap_setCell_same _ _ _ _ _ _ h0))
theorem only3{w:World}{B a b c:Nat}{x y z:Value}:z63 B w (((w.setCell ⟨B,a,none⟩ x).setCell ⟨B,b,none⟩ y).setCell ⟨B,c,none⟩ z):=
 ⟨(((bF _ _).setCell (Nat.zero_le _) _).setCell (Nat.zero_le _) _).setCell (Nat.zero_le _) _,by simp,fun _ hk=>(heap_setCell_other _ _ _ _ hk).trans ((heap_setCell_other _ _ _ _ hk).trans (heap_setCell_other _ _ _ _ hk))⟩
theorem zYf(y:Way){d:Nat}(hd:d<11)(l h:Int)(hk:(y.reg d).k=1):((z0h y).setIfInBounds (d*3+1) (I J l)).setIfInBounds (d*3+2) (I J h)=z0h (y.putReg d (z10 l h)):=by
 have e:(z0h y)[d*3]?=some (.int .u8 (kdg (z10 l h).k)):=by rw[(mkr y hd).1,hk];rfl
 rw[<-z3u hd, <-zQq y d (z10 l h)];generalize z0h y=a at*;generalize Value.int .u8 (kdg (z10 l h).k)=v at*
 have e2:a.setIfInBounds (d*3) v=a:=by
  apply Array.ext
  ·simp
  ·intro i h1 h2
   rw[Array.getElem_setIfInBounds];split
   ·rename_i h3
    subst h3;rw[Array.getElem?_eq_getElem h2]at e;injection e with e
    exact e.symm
   ·rfl
 rw[e2];rfl
theorem Mm.mrow{V w:World}{F:MemL}(h:Mm V F w)(y:Way):Mm V ((w.heap.size,z0h y,148)::F) ((w.alloc (cT Tryz.zeroCells148 148 (0,0))).setRow w.heap.size (z0h y)):=by
 have hs:=h.1.size;refine Mm.cons ⟨z14 (h.1.alloc hs _) hs _,fun x hx=>?_⟩ (z3g.setRow (heap_alloc_new _ _) y);have hx':=h.2 x hx;have hlt:=(Array.getElem?_eq_some_iff.1 hx').1;exact(setRow_other _ _ _ _ kO).trans ((heap_alloc_old _ _ hlt).trans hx')
def cd(c' c:Int)(q:Nat):Int:=if q=0 then c' else c
def nwL(y:Way)(c:Int)(d s:Nat)(r:Bool)(n:Int)(p:Nat):List (Nat×Way):=if(y.narrow c d s r n).1=true then [(p,(y.narrow c d s r n).2)]else []
def zBr(y:Way)(c:Int)(d s:Nat)(r:Bool)(n:Int)(p0 p1:Nat):Nat->List (Nat×Way)
 |0=>nwL y (oppV c) d s r n p0++nwL y c d s r n p1
 |1=>nwL y c d s r n p1
 |_+2=>[]
theorem zNf(y:Way)(c:Int)(d s:Nat)(r:Bool)(n:Int):(y.narrow c d s r n).1=(narV c (y.reg d).l (y.reg d).h (y.second s r n).l (y.second s r n).h).2.2:=by
 unfold Way.narrow
 cases h:(narV c (y.reg d).l (y.reg d).h (y.second s r n).l (y.second s r n).h).2.2<;>simp
 (repeat' split)<;>rfl
theorem zXx{y:Way}{c n:Int}{d s:Nat}{r:Bool}{p0 p1 q:Nat}(hq:q<2):zBr y c d s r n p0 p1 q=nwL y (cd (oppV c) c q) d s r n (if q=0 then p0 else p1)++zBr y c d s r n p0 p1 (q+1):=by
 rcases(show q=0\/q=1 by omega)with rfl|rfl<;>simp[zBr,cd]
theorem opp_in{c:Int}(h:15<=c/\c<=24):15<=oppV c/\oppV c<=24:=by
 unfold oppV
 (repeat' split)<;>omega
end
section
open Go.ChangeShapes Go.WideShapes Go.ChangeAt Go.RowKit
set_option maxHeartbeats 40000000
set_option maxRecDepth 1000000
attribute [local simp] dwS
theorem kN6{P:Prop}(h:P:=by
 intro w;unfold zR;go_in
 go_wp2_with fail;refine flo (W:=w) 6 [] kMm kR kR kQp ?_;refine kFl ?_;intro w6 hC;have F:=hC.x;simp[Mx,mput,nz]at F;have hbw:=hC.1;go_wp2_with fail
 all_goals exact bodyPost_ret (by simp[results,Tryz.results78,go_sem, *];try rfl) rfl ⟨rfl,kB⟩):P:=h
theorem n_16{al ah bl bh:Int}(hB:Bds al ah bl bh):NarC 16 al ah bl bh (apV al ah bl bh):=by
 obtain⟨pal,oa,qah,pbl,ob,qbh⟩:=hB;unfold apV
 by_cases hn:al=bl/\ah=bh/\ah=al
 ·rw[if_pos hn]
  obtain⟨rfl,rfl,rfl⟩:=hn;exact n_16n rfl
 rw[if_neg hn];rcases dce al bl with⟨e1,f1⟩|⟨e1,f1⟩
 rotate_left
 ·exact kN6
 rcases dce ah bh with⟨e2,f2⟩|⟨e2,f2⟩
 rotate_left
 ·exact kN6
 rcases dce al ah with⟨e3,f3⟩|⟨e3,f3⟩
 ·exact absurd ⟨e1.out,e2.out,e3.out.symm⟩ hn
 exact kN6
theorem zMw(c al ah bl bh:Int)(pal: -9223372036854775808<=al)(qal:al<=9223372036854775807)(pah: -9223372036854775808<=ah)(qah:ah<=9223372036854775807)(pbl: -9223372036854775808<=bl)(qbl:bl<=9223372036854775807)(pbh: -9223372036854775808<=bh)(qbh:bh<=9223372036854775807)(oa:al<=ah)(ob:bl<=bh):NarC c al ah bl bh (narV c al ah bl bh):=by
 have hB:Bds al ah bl bh:=⟨pal,oa,qah,pbl,ob,qbh⟩;have hB':Bds bl bh al ah:=⟨pbl,ob,qbh,pal,oa,qah⟩;have u1: ∀{al ah bl bh:Int},Bds al ah bl bh->NarC 19 al ah bl bh (unsV 1 al ah bl bh):=fun{al ah bl bh} h=>n_19 (k:=z3a (belV 1 (max al 0) ah bl bh)) h.2.2.1 (fun hm=>n_21 (by unfold Bds at*;omega)) fun hm=>by rw[belV,if_neg kO];rfl
 have u0: ∀{al ah bl bh:Int},Bds al ah bl bh->NarC 20 al ah bl bh (unsV 0 al ah bl bh):=fun{al ah bl bh} h=>n_20 (k:=z3a (belV 0 (max al 0) ah bl bh)) h.2.2.1 (fun hm=>n_22 (by unfold Bds at*;omega)) fun hm=>by rw[belV,if_neg kO];rfl
 by_cases hc:c<15\/24<c
 ·rw[zQp _ _ _ _ hc]
  exact n_no c hc
 rcases(show c=15\/c=16\/c=17\/c=18\/c=19\/c=20\/c=21\/c=22\/c=23\/c=24 by omega)with rfl|rfl|rfl|rfl|rfl|rfl|rfl|rfl|rfl|rfl
 ·exact n_15
 ·rw[zIy];exact n_16 hB
 ·rw[zIx];exact n_17 (u1 hB')
 ·rw[zIw];exact n_18 (u0 hB')
 ·rw[zIv];exact u1 hB
 ·rw[zIu];exact u0 hB
 ·rw[zIt];exact n_21 hB
 ·rw[zIs];exact n_22 hB
 ·rw[zIr];exact n_23 (k:=z3a (belV 1 al ah bl bh)) (n_21 hB')
 rw[zIq];exact n_24 (k:=z3a (belV 0 al ah bl bh)) (n_22 hB')
end
section
open Go.ChangeShapes Go.WideShapes Go.ChangeAt Go.RowKit
set_option maxHeartbeats 40000000
set_option maxRecDepth 1000000
attribute [local simp] dwS z04
section
variable {C D S:Nat->Int} {R:Nat->Bool} {O N:Nat->Int} {f pc d s:Nat} {y:Way} {es:List Kno} {c o n er:Int} {r:Bool} {ws:List (Int×Way)}
abbrev AskT(C D S:Nat->Int)(R:Nat->Bool)(O N:Nat->Int)(f pc:Nat)(y:Way)(es:List Kno)(x:List (Int×Way)×Int):Prop:= ∀st,goF C D S R O N (f+1) ((pc,y)::st) es=if x.2≠0 then .inl (x.2,pc)else goF C D S R O N f (x.1.map (fun z=>(pc+1+z.1.toNat,z.2))++st) es
theorem AskT.no(h:AskT C D S R O N f pc y es (y.ask c d s r o n))(e:y.ask c d s r o n=([],er))(he:er≠0): ∀st,goF C D S R O N (f+1) ((pc,y)::st) es= .inl (er,pc):=fun st=>by rw[h st,e,if_pos he]
theorem AskT.on(h:AskT C D S R O N f pc y es (y.ask c d s r o n))(e:y.ask c d s r o n=(ws,0)): ∀st,goF C D S R O N (f+1) ((pc,y)::st) es=goF C D S R O N f (ws.map (fun z=>(pc+1+z.1.toNat,z.2))++st) es:=fun st=>by rw[h st,e];simp
end
theorem gn2{w:World}{F:MemL}(L:World->Prop){P:Program}{c:Code}{Q:Exit->Act->World->Prop}{a:Act}(hM:Mm w F w)(hL:L w)(h: ∀w',Mm w' F w'->Hid (L w')->Code.wp P c Q a w'):Code.wp P c Q a w:=h w hM hL
theorem zQf{y:Way}{d:Nat}(hd:d<11){x z:Kno}:(y.putReg d x).putAll d z=y.putReg d z:=by
 rw[z3u hd];unfold Way.putReg;congr 1;funext i;dsimp only;split<;>rfl
theorem zU5{y:Way}(hy:y.Ok)(d:Nat):(y.putReg d ⟨4,0,0⟩).Ok:=hy.putReg d ⟨by decide,by decide,⟨by decide,by decide⟩,⟨by decide,by decide⟩,by decide⟩
theorem kWn{P:Prop}(h:P:=by
 go_wp2_with fail;exact bodyPost_ret (by simp[results,Tryz.results57,go_sem, *];try rfl) rfl (GoQ.no (z5s (Kp.of hM.b) kO) rfl HE.out)):P:=h
theorem kD_m{k:Int}(h0:0<=k)(h5:k<=5):(kdg k==109)=(k==5):=by rcases kD_six h0 h5 with rfl|rfl|rfl|rfl|rfl|rfl<;>rfl
theorem kTg{P:Prop}(h:P:=by simp):P:=h
theorem kWc{P S:Prop}(q:S)(h:Kont S->P:=by
 intro kq;go_step;refine kGv ?_
 (refine wpList_load_row rfl 148 (.tmp 5) rfl W.heap.size rfl 148 _ (0,0) _ (hM.row kMe) Tryz.underlying148 rfl (z4l _) ?_)
 simp only[pS];refine kGv ?_;refine z0w rfl 46 _ kG hg ?_;exact kq.out):P:=h ⟨q⟩
theorem kWe{P:Prop}(h:P:=by
 intro v9 w9 hq;obtain⟨er,i,rfl,hkp,hT⟩:=hq;replace hM:=Lft.over HX.out hM hkp kTg
 have F:=hM.x;simp only[Mx]at F;simp only[pS];go_wp2_with fail;rcases hT with⟨h1,h2⟩|⟨h1,E2,h2⟩
 ·exact bodyPost_ret (by simp[results,Tryz.results57,go_sem, *];try rfl) rfl (Lft.bad (z5s h2.out.1 kO) h1 h2.out.2)
 exact bodyPost_ret (by simp[results,Tryz.results57,go_sem, *];try rfl) rfl (Lft.end h2.out h1 kO (hM.row kMe) lt)):P:=h
theorem AskT.place{C D S:Nat->Int}{R:Nat->Bool}{O N:Nat->Int}{f pc d s:Nat}{y:Way}{es:List Kno}{c o n:Int}{r:Bool}(h:AskT C D S R O N f pc y es (y.ask c d s r o n))(e:y.ask c d s r o n=(y.askPlace c d o,0)){P0 P1:Nat}(ho:0<=o)(h0:(P0:Int)=(pc:Int)+1+if c=16 then 0 else o)(h1:(P1:Int)=(pc:Int)+1+if c=16 then o else 0): ∀st,goF C D S R O N (f+1) ((pc,y)::st) es=goF C D S R O N f ((if(y.reg d).k=5 then [(P0,y.putReg d ⟨1,0,0⟩),(P1,y.putReg d ⟨4,0,0⟩)]else [(P1,y)])++st) es:=fun st=>by
 have e0:pc+1+(if c=16 then 0 else o).toNat=P0:=by split at h0<;>simp_all<;>omega
 have e1:pc+1+(if c=16 then o else 0).toNat=P1:=by split at h1<;>simp_all<;>omega
 rw[AskT.on h e st,Way.askPlace]
 by_cases u:(y.reg d).k=5<;>simp[u,e0,e1,z10]
theorem kWq{P:Prop}(h:P:=by
 have l0:P0<len:=by have:=g0.out;omega
 have l1:P1<len:=by have:=g1.out;omega
 have e3:wrap64 ((pc:Int)+1+o)=(pc:Int)+1+o:=z08 kO kO;have e2:wrap64 ((pc:Int)+1)=(pc:Int)+1:=z08 kO kO;clear hlen hnx;have HP:=AskT.place HK.out (ha.out.trans (if_neg (by have:=n0.out;have:=cc.out;simp;omega))) o0 h0.out h1.out;replace n1:(n !=0)=false:=by simpa using n0.out
 rcases dce (y.reg d).k 5 with⟨u5, -⟩|⟨u5, -⟩
 ·have x9:(kdg (y.reg d).k==109)=true:=by rw[u5.out];rfl
  rw[if_pos u5.out]at HP;have HX:Hid (Lft C D S R O N bk off len cap Bl base W f pc y E es _ E w3):=HL.out _ HP w3 hM.b;clear HP;go_upto_region 27 with fail
  refine flo 5 [] hM.own kR kR kQp ?_;refine kFl ?_;intro w6 hM;have F:=hM.x;simp only[Mx]at F;go_upto_region 28 with fail
  refine gn2 (Lft C D S R O N bk off len cap Bl base W f pc y E es _ _) (Mm.row3 (F:=[_,_,_,_]) hM.own kZ d ⟨1,0,0⟩ rfl) (Lft.put (HX.out.later hM.b) only3 kO (hM.row kMe) kD) ?_;clear hM F HX;intro w7 hM HX;simp only[List.cons_append,List.nil_append,z3u hd]at hM;have hg:=Lft.go HX.out HG.out (hy.putReg d (zAx ⟨by decide,by decide⟩)) l0 g0.out.symm;refine kWc ?_;intro v9 w9 hq;obtain⟨er,i,rfl,hkp,hT⟩:=hq;replace hM:=Lft.over HX.out hM hkp kTg
  have F:=hM.x;simp only[Mx]at F;simp only[pS];clear hg hkp;rcases hT with⟨t1,t2⟩|⟨t1,E2,HX⟩
  ·go_wp2_with fail
   exact bodyPost_ret (by simp[results,Tryz.results57,go_sem, *];try rfl) rfl (Lft.bad ((z5s t2.out.1 kO).al _) t1 t2.out.2)
  have m2:=mkr (y.putReg d ⟨1,0,0⟩) hd;go_upto_region 31 with fail
  refine gn2 (Lft C D S R O N bk off len cap Bl base W f pc y E es _ _) (Mm.own (kMm (W:=w9))) (HX.out.later ((bF _ _).alloc (Nat.le_refl _) _)) ?_;have wl:W.heap.size<w9.heap.size:=hM.lt kMe;clear hM F HX;intro w9 hM HX;refine flo 5 [] hM kR kR kQp ?_;refine kFl ?_;intro w6 hM;have F:=hM.x;simp only[Mx]at F;go_upto_region 32 with fail
  refine gn2 (Lft C D S R O N bk off len cap Bl base W f pc y E es _ _) (Mm.row3 (F:=[_,_,_,_,_]) hM.own kZ d ⟨4,0,0⟩ rfl) (Lft.put (HX.out.later hM.b) only3 kO (hM.row kMe) kD) ?_;clear hM F HX;intro w7 hM HX;simp only[List.cons_append,List.nil_append,zQf hd]at hM;have hg:=Lft.go HX.out HG.out (zU5 hy d) l1 g1.out.symm;refine kWc ?_;exact kWe
 have x9:(kdg (y.reg d).k==109)=false:=by rw[kD_m (hy.reg d hd).1 (hy.reg d hd).2.1];simpa using u5.out
 rw[if_neg u5.out]at HP;have HX:Hid (Lft C D S R O N bk off len cap Bl base W f pc y E es _ E w3):=HL.out _ HP w3 hM.b;clear HP;have hg:=Lft.go HX.out HG.out hy l1 g1.out.symm;go_upto_region 32 with fail
 refine kWc ?_;exact kWe):P:=h
theorem Mm.ex{V w:World}{F:MemL}(h:Mm V F w): ∃G,Mm V G w/\Hid (G=F):=⟨F,h,rfl⟩
theorem zGf{y:Way}{c o n:Int}{d s pc:Nat}{r:Bool}:(y.askNumbers c d s r o n).map (fun z=>(pc+1+z.1.toNat,z.2))=zBr y c d s r n (pc+1) (pc+1+o.toNat) 0:=by
 unfold Way.askNumbers zBr nwL;rw[List.map_append];congr 1<;>split<;>rfl
theorem kX{P:Prop}(h:P:=by have F:=hV.x;simp only[Mx]at F;go_simp):P:=h
theorem Mm.tl{V w:World}{a:Nat×Array Value×TypeId}{F:MemL}(h:Mm V (a::F) w):Mm V F w:=h.sub fun _ hx=> .tail _ hx
theorem Mm.none{V w:World}(h:Below V.heap.size V w):Mm V [] w:=⟨h,fun _ h=>absurd h List.not_mem_nil⟩
section
variable {y:Way} {c n:Int} {d s:Nat} {xl xh yl yh:Int} {ok:Bool}
theorem zUi(h:narV c (y.reg d).l (y.reg d).h (y.second s false n).l (y.second s false n).h=((xl,xh),(yl,yh),true)):(y.narrow c d s false n).2=y.putReg d (z10 xl xh):=by simp[Way.narrow,h]
theorem zUh{r:Bool}(hr:r=true)(hs:s=d):(y.narrow c d s r n).2=y:=by
 subst hr hs;unfold Way.narrow;split
 ·rfl
 rw[if_pos ⟨rfl,rfl⟩]
theorem zUg(hs: ¬s=d)(h:narV c (y.reg d).l (y.reg d).h (y.second s true n).l (y.second s true n).h=((xl,xh),(yl,yh),true)):(y.narrow c d s true n).2=(y.putReg d (z10 xl xh)).putReg s (z10 yl yh):=by simp[Way.narrow,h,hs]
end
theorem kWm{P:Prop}(h:P:=by
 have ha:y.ask c d s r o n=(y.askNumbers c d s r o n,0):=(if_neg (by rw[k0.out,hz.out,j0.out];decide)).trans (if_pos ⟨k0.out,by rw[hz.out];exact j0.out⟩);have HX:Hid (Lft C D S R O N bk off len cap Bl base W f pc y E es (zBr y c d s r n (pc+1) (pc+1+o.toNat) 0) E w3):=HL.out _ (fun st=>by rw[<-zGf];exact AskT.on HK.out ha st) w3 hM.b;clear ha HK HL;go_upto_region 6 with fail
 replace hM:=hM.own.drew
 refine wp_region_held_drew kR hM fun _=>?_;change wpAnyH _ _ _ _ _ 8 (Array.replicate 8 false) _ _
 refine tkH (i:=0) (some 50) (pT (some ⟨B9,0,none⟩)) rfl rfl (fun V hV=>kX) hM ?_;simp only[pS];refine tkH (i:=1) (some 51) (I J c) rfl rfl (fun V hV=>kX) hM ?_;simp only[pS];refine tkH (i:=3) (some 53) (pT (some ⟨B9,0,none⟩)) rfl rfl (fun V hV=>kX) hM ?_;simp only[pS];refine tkH (i:=4) (some 54) (I J c) rfl rfl (fun V hV=>kX) hM ?_;simp only[pS];refine tkH (i:=7) (some 57) (I J 0) rfl rfl (fun V hV=>kX) hM ?_;simp only[pS];refine wpAnyH_ready (rs:=[2]) kR kS ?_;refine z3h (some 52) 77 #[I J c] rfl rfl kI kG ?_ AllReadyH.nil;refine(zXt c ⟨q1,q2⟩ _).mono ?_;rintro e wz ⟨rfl,hb⟩;replace hM:=hM.later hb
 refine⟨_,rfl,hM,?_⟩;simp only[pS];refine wpAnyH_ready (rs:=[5]) kR kS ?_;refine z24 (some 55) (.slice (some ⟨wz.heap.size,0,none⟩) 2 2) (wz.alloc (cT #[I J (oppV c),I J c] 3)) rfl rfl kI (by go_simp) (hM.later ((bF _ _).alloc (Nat.le_refl _) _)) ?_ AllReadyH.nil;simp only[pS];refine tkH (i:=6) (some 56) (I J 2) rfl rfl (fun V hV=>kX) (hM.later ((bF _ _).alloc (Nat.le_refl _) _)) ?_;simp only[pS];refine wpAnyH_done kR ?_ _;have b9:B9+1<wz.heap.size:=hM.lt kMe;replace HX:Hid _:=HX.out.later (hM.b.alloc hM.b.size (cT #[I J (oppV c),I J c] 3))
 replace hM:=(hM.new #[I J (oppV c),I J c] 3).own
 clear F hb b1;generalize wz.alloc (cT #[I J (oppV c),I J c] 3)=w8 at*;generalize wz.heap.size=BR at*;obtain⟨F8,hM,hF⟩:=hM.ex;have HM:Hid _:=hM;clear hM;go_wp2_with fail;go_loopw [57] (fun iv wr=> ∃(q:Nat)(Eq:Value),iv=I J (q:Int)/\q<=2/\Hid (Mm wr F8 wr)/\Hid (Lft C D S R O N bk off len cap Bl base W f pc y E es (zBr y c d s r n (pc+1) (pc+1+o.toNat) q) Eq wr)) (fun iv _=>2-(intOf iv).toNat)
 case atStart=>exact⟨0,E,rfl,kO,HM,HX⟩
 case round=>
  clear HM HX;obtain⟨q,Eq,rfl,hq2,HM,HX⟩:=hrel;have hM:=HM.out;rw[hF.out]at hM
  by_cases hlt:q<2
  ·have hle:decide ((q:Int)<2)=true:=kZ
   have q0:(0:Int)<=(q:Int):=kO;have q3:(q:Int)<2:=kO;obtain⟨cq,HCQ⟩: ∃cq,Hid (cd (oppV c) c q=cq):=⟨_,rfl⟩
   have hc1:wr.cell? ⟨BR,q,none⟩=some (I J cq):=by
    rw[<-HCQ.out,hM.x.1];rcases(show q=0\/q=1 by omega)with rfl|rfl<;>rfl
   obtain⟨Pq,lq,mq,e4,e5⟩: ∃Pq:Nat,Hid (Pq<len/\Pq=if q=0 then pc+1 else pc+1+o.toNat)/\ ∃mq:Int,IntKind.i64.wrap ((q:Int)*o)=mq/\IntKind.i64.wrap ((pc:Int)+1+mq)=(Pq:Int):=by
    simp only[IntWalk.i64_left];rcases(show q=0\/q=1 by omega)with rfl|rfl
    ·exact⟨pc+1,⟨hnx,rfl⟩,0,by simp[wrap64],by rw[z08 kO kO];omega⟩
    ·exact⟨pc+1+o.toNat,⟨kO,rfl⟩,o,by rw[show((1:Nat):Int)*o=o by simp,z08 kO kO],by rw[z08 kO kO];omega⟩
   have e2:IntKind.i64.wrap ((pc:Int)+1)=(pc:Int)+1:=by rw[IntWalk.i64_left];exact z08 kO kO
   have br:BR<wr.heap.size:=hM.x.2.2.1;replace hM:=hM.tl
   have F:=hM.x;simp only[Mx]at F;have kd:=hy.reg d hd;have NW:=zMw cq (y.reg d).l (y.reg d).h z.l z.h kd.2.2.1.1 kd.2.2.1.2 kd.2.2.2.1.1 kd.2.2.2.1.2 k2.2.2.1.1 k2.2.2.1.2 k2.2.2.2.1.1 k2.2.2.2.1.2 kd.2.2.2.2 k2.2.2.2.2;have HV:Hid (narV cq (y.reg d).l (y.reg d).h (y.second s r n).l (y.second s r n).h=narV cq (y.reg d).l (y.reg d).h z.l z.h):=by show _=_;rw[hz.out]
   generalize narV cq (y.reg d).l (y.reg d).h z.l z.h=X at NW HV;obtain⟨⟨xl,xh⟩,⟨yl,yh⟩,ok⟩:=X;simp only[NarC,narT]at NW;replace NW:Hid _:=NW
   have HR:Hid (zBr y c d s r n (pc+1) (pc+1+o.toNat) q=(if ok=true then [(Pq,(y.narrow cq d s r n).2)]else [])++zBr y c d s r n (pc+1) (pc+1+o.toNat) (q+1)):=by
    show _=_;rw[zXx hlt,HCQ.out, <-lq.out.2,nwL,zNf,HV.out]
   clear hlen hnx o0 o1 kd k2;go_upto_region 10 with(go_at_call 78;refine cR (NW.out _) ?_;intro w2 hb;replace hM:=hM.later hb)
   refine gnl (W:=wr) kMm ?_;simp only[World.size_alloc];have bx:B9+1<w2.heap.size/\wr.heap.size<=w2.heap.size:=⟨hM.lt kMe,hM.b.size⟩;generalize w2.heap.size=BX at*;clear hM F hc1 hb;intro w4 hM;have F:=hM.x;simp only[Mx]at F
   cases ok
   ·go_wp2_with fail
    go_roundw
    case rel=>exact⟨q+1,Eq,by go_num,kO,(HM.out.later hM.b).own,by have h:=HX.out.later hM.b;rw[HR.out]at h;exact h⟩
    case measure=>simp[intOf];omega
   ·go_upto_region 11 with fail
    go_step
    (refine wpList_load_row rfl 148 (.tmp 5) rfl W.heap.size rfl 148 (z0h y) (0,0) _ (hM.row kMe) Tryz.underlying148 rfl (z4l _) ?_)
    simp only[pS];refine z00 rfl (pT (some ⟨w4.heap.size,0,none⟩)) (w4.alloc (cT Tryz.zeroCells148 148 (0,0))) kG ?_;simp only[pS];refine wpList_store_row rfl 148 (.tmp 16) (.tmp 74) rfl w4.heap.size (z0h y) rfl rfl 148 _ (heap_alloc_new _ _) (z4l _) (by rw[zLz,z2t]) (zNj _) ?_;have bn:BX+1<w4.heap.size/\wr.heap.size<=w4.heap.size:=⟨hM.lt kMe,hM.b.size⟩;replace hM:=hM.mrow y
    generalize (w4.alloc (cT Tryz.zeroCells148 148 (0,0))).setRow w4.heap.size (z0h y)=w6 at*;generalize w4.heap.size=BN at*;have n9:(B9=BN)=False/\(BX=BN)=False/\(BX+1=BN)=False:=kZ;have F:=hM.x;simp only[Mx]at F;go_upto_if 77 with fail
    go_cut [78] (fun _ wx=>Mm wr [(BN,z0h (y.narrow cq d s r n).2,148),(B9, #[I J c,I J d,I J s,.bool r,I J o,I J n],121)] wx)
    case first=>
     have hM8:=hM;have hM:Mm wr [(BN,z0h y,148),(B9, #[I J c,I J d,I J s,.bool r,I J o,I J n],121)] w6:=((Mm.none hM.b).cons (hM.row kMe)).cons (hM.row kMe)
     cases r
     ·go_wp2_with fail
      go_meet;refine Mm.as ((hM.set kO (d*3+1) (I J xl)).set kO (d*3+2) (I J xh)) ?_;simp[mput,n9,zYf y hd xl xh k0.out,zUi HV.out]
     ·rcases dce (s:Int) (d:Int)with⟨sd, -⟩|⟨sd, -⟩
      ·have v1:((s:Int) !=(d:Int))=false:=by simpa using sd.out
       go_wp2_with fail;go_meet;rw[zUh rfl (by have:=sd.out;omega)];exact hM
      ·have v1:((s:Int) !=(d:Int))=true:=by simpa using sd.out
       go_upto_region 15 with fail
       have hS:Mm wr [(B9, #[I J c,I J d,I J s,.bool true,I J o,I J n],121),(BX+1, #[I J yl,I J yh],110),(BX, #[I J xl,I J xh],110)] w6.drew:=Mm.drew ((((Mm.none hM8.b).cons (hM8.row kMe)).cons (hM8.row kMe)).cons (hM8.row kMe));replace hM:=hM.drew
       have ks:(y.reg s).k=1:=by have:=j0.out;rw[<-hz.out]at this;exact this
       have HY:Hid _:=zUg (show¬s=d by have:=sd.out;omega) HV.out
       have ky:((y.putReg d (z10 xl xh)).reg s).k=1:=by
        show(if s=d then z10 xl xh else y.reg s).k=1;rw[if_neg (by have:=sd.out;omega),ks]
       replace ky:Hid _:=ky
       clear F hM8 ks;refine wp_region_held_drew kR hS fun _=>?_;change wpAnyH _ _ _ _ _ 12 (Array.replicate 12 false) _ _
       generalize w6.drew=wd at*;refine tkH (i:=0) (some 88) (pT (some ⟨B9,1,none⟩)) rfl rfl (fun V hV=>kX) hS ?_;simp only[pS];refine tkH (i:=1) (some 89) (I J d) rfl rfl (fun V hV=>kX) hS ?_;simp only[pS];refine tkH (i:=2) (some 90) (pT (some ⟨B9,2,none⟩)) rfl rfl (fun V hV=>kX) hS ?_;simp only[pS];refine tkH (i:=3) (some 91) (I J s) rfl rfl (fun V hV=>kX) hS ?_;simp only[pS];refine tkH (i:=4) (some 92) (.agg #[I J xl,I J xh]) rfl rfl (fun V hV=>kX) hS ?_;simp only[pS];refine tkH (i:=5) (some 93) (.agg #[I J yl,I J yh]) rfl rfl (fun V hV=>kX) hS ?_;simp only[pS];refine tkH (i:=6) (some 94) (pT (some ⟨BN,d*3,none⟩)) rfl rfl (fun V hV=>kX) hS ?_;simp only[pS];refine tkH (i:=7) (some 95) (pT (some ⟨BN,d*3+1,none⟩)) rfl rfl (fun V hV=>kX) hS ?_;simp only[pS];refine wpAnyH_ready (rs:=[8]) kR kS ?_;have F:=hM.x;simp only[Mx]at F;have hS1:=(hS.set (g:=BN) kO (d*3+1) (I J xl)).set (g:=BN) kO (d*3+2) (I J xh);have hM1:=(hM.set (g:=BN) kO (d*3+1) (I J xl)).set (g:=BN) kO (d*3+2) (I J xh);simp only[List.map_cons,List.map_nil,mput,n9,if_true,if_false,zYf y hd xl xh k0.out]at hS1 hM1;refine z3b ((wd.setCell ⟨BN,d*3+1,none⟩ (I J xl)).setCell ⟨BN,d*3+2,none⟩ (I J xh)) rfl rfl kI (by go_simp) hS1 ?_ AllReadyH.nil;clear F hS hM m2;generalize (wd.setCell ⟨BN,d*3+1,none⟩ (I J xl)).setCell ⟨BN,d*3+2,none⟩ (I J xh)=we at*;generalize y.putReg d (z10 xl xh)=y1 at*;have m1:=mkr y1 hs;simp only[pS];refine tkH (i:=9) (some 96) (pT (some ⟨BN,s*3,none⟩)) rfl rfl (fun V hV=>kX) hS1 ?_;simp only[pS];refine tkH (i:=10) (some 97) (pT (some ⟨BN,s*3+1,none⟩)) rfl rfl (fun V hV=>kX) hS1 ?_;simp only[pS];refine wpAnyH_ready (rs:=[11]) kR kS ?_;have F:=hM1.x;simp only[Mx]at F;have hS2:=(hS1.set (g:=BN) kO (s*3+1) (I J yl)).set (g:=BN) kO (s*3+2) (I J yh);have hM2:=(hM1.set (g:=BN) kO (s*3+1) (I J yl)).set (g:=BN) kO (s*3+2) (I J yh);simp only[List.map_cons,List.map_nil,mput,n9,if_true,if_false,zYf y1 hs yl yh ky.out]at hS2 hM2;refine z3b ((we.setCell ⟨BN,s*3+1,none⟩ (I J yl)).setCell ⟨BN,s*3+2,none⟩ (I J yh)) rfl rfl kI (by go_simp) hS2 ?_ AllReadyH.nil;simp only[pS];refine wpAnyH_done kR ?_ _;go_wp2_with fail;go_meet;rw[HY.out];exact hM2
    case rest=>
     have okN:(y.narrow cq d s r n).2.Ok:=zAs hy (by rw[<-HCQ.out];unfold cd;split;exact opp_in ⟨q1,q2⟩;exact⟨q1,q2⟩) hd hs iN;have hX1:=HX.out.later hcut.b;rw[HR.out,if_pos rfl]at hX1;generalize (y.narrow cq d s r n).2=y' at*;replace hX1:Hid (Lft C D S R O N bk off len cap Bl base W f pc y E es ((Pq,y')::zBr y c d s r n (pc+1) (pc+1+o.toNat) (q+1)) Eq wc):=hX1
     have hg:=Lft.go hX1.out HG.out okN lq.out.1 rfl;replace HM:Hid (Mm wr F8 wc):=HM.out.later hcut.b
     clear hM F HX HR;have hM:=hcut;have F:=hM.x;simp only[Mx]at F;go_upto_region 16 with fail
     go_step;refine kGv ?_
     (refine wpList_load_row rfl 148 (.tmp 16) rfl BN rfl 148 _ (0,0) _ (hM.row kMe) Tryz.underlying148 rfl (z4l _) ?_)
     simp only[pS]
     iterate 7 refine kGv ?_
     refine z0w rfl 46 _ kG hg ?_;intro v9 w9 hq;obtain⟨er,i,rfl,hkp,hT⟩:=hq;have hM9:=Lft.over hX1.out HM.out hkp (by rw[hF.out];simp);replace HM:Hid (Mm w9 F8 w9):=hM9
     rw[hF.out]at hM9;replace hM:=hM9.tl
     have F:=hM.x;simp only[Mx]at F;simp only[pS];clear hg hkp hM9 hcut;rcases hT with⟨t1,t2⟩|⟨t1,E2,HX⟩
     ·go_wp2_with fail
      exact bodyPost_ret (by simp[results,Tryz.results57,go_sem, *];try rfl) rfl (Lft.bad ((z5s t2.out.1 kO).al _) t1 t2.out.2)
     ·go_wp2_with fail
      go_roundw
      case rel=>exact⟨q+1,E2,by go_num,kO,(HM.out.later ((bF _ _).alloc (Nat.le_refl _) _)).own,HX.out.later ((bF _ _).alloc (Nat.le_refl _) _)⟩
      case measure=>simp[intOf];omega
  ·obtain rfl:q=2:=by omega
   have hle:decide (((2:Nat):Int)<2)=false:=rfl;go_wp2_with(go_at_call 14;refine cR (zI8 _ _) ?_;intro w7 hb;replace hM:=hM.later hb;have F:=hM.x;simp only[Mx]at F);exact bodyPost_ret (by simp[results,Tryz.results57,go_sem, *];try rfl) rfl (Lft.end (er:=0) (i:= -1) (HX.out.later hb) rfl kO (hM.row kMe) lt)):P:=h
theorem zW1{C D S:Nat->Int}{R:Nat->Bool}{O N:Nat->Int}{bk off len cap Bl base f:Nat}(hlen:len<=200)(hr: ∀i,i<len->z9f (C i) (D i) (S i) (R i) (O i) (N i) len i)(hf: ∀i,i<len->In64 (O i)/\In64 (N i))(GL: ∀f',f'<=f->zHg C D S R O N bk off len cap Bl base f'):zXa C D S R O N bk off len cap Bl base f:=by
 intro W E es y pc hD hL hy hpc q1 q2;have rt:=hr pc hpc;obtain⟨iO,iN⟩:=hf pc hpc;obtain⟨d,ed⟩:=Int.eq_ofNat_of_zero_le rt.d1;obtain⟨s,ss⟩:=Int.eq_ofNat_of_zero_le rt.s1;have hd:d<11:=by have:=rt.d2;omega
 have hs:s<11:=by have:=rt.s2;omega
 have hnx:pc+1<len:=by have:=rt.last kO;omega
 obtain⟨o0,o1⟩:=rt.lead (Or.inr ⟨q1,q2⟩);have p0:(0:Int)<=(pc:Int):=kO;have p1:(pc:Int)<(len:Int):=kO;have s0:(0:Int)<=(s:Int):=kO;have s1:(s:Int)<27:=kO;have d0:(0:Int)<=(d:Int):=kO;have d1:(d:Int)<27:=kO;have lt:=hL.blt;have rm:base<=W.heap.size/\Bl<base:=⟨hD.room,hL.lt⟩
 have HK:Hid (AskT C D S R O N f pc y es (y.ask (C pc) d s (R pc) (O pc) (N pc))):=fun st=>by
  rw[goF];dsimp only;rw[if_neg (show¬C pc=28 by omega),ed,ss];simp only[Int.toNat_natCast,Way.look,q1,q2,and_self,if_true]
 have HS:Hid _:=fun w hb=>hD.see hL hpc (w:=w) hb;rw[ed,ss]at HS;have HL:Hid (∀ws:List (Nat×Way),(∀st,goF C D S R O N (f+1) ((pc,y)::st) es=goF C D S R O N f (ws++st) es)-> ∀w,Below W.heap.size W w->Lft C D S R O N bk off len cap Bl base W f pc y E es ws E w):=fun ws h w hb=>⟨Kp.of hb,z4h.refl,hD.later hb,f,es,Nat.le_refl _,hL.later hb,h⟩;have HG:Hid _:=GL;have m1:=mkr y hs;have m2:=mkr y hd;have k2:=z2o (r:=R pc) hy hs iN;rw[ss,Int.toNat_natCast];clear GL hf hD hL rt hr;generalize C pc=c at*;generalize R pc=r at*;generalize O pc=o at*;generalize N pc=n at*;obtain⟨z,hz⟩: ∃z,y.second s r n=z:=⟨_,rfl⟩;rw[hz]at k2⊢;replace hz:Hid _:=hz
 simp only[Kno.d];have K1:=kn3 (hy.reg d hd);have K2:=kn3 k2;go_in
 go_upto_region 1 with fail
 refine gnl (W:=W) kMm ?_;intro w1 hM;simp at hM;have F:=hM.x;have G:=HS.out w1 hM.b;simp only[Mx]at F;go_upto_region 3 with fail
 have b1:W.heap.size+1+1<w1.heap.size:=F.2.2.1;refine gnl (W:=W) kMm ?_;simp only[World.size_alloc];have ne:(W.heap.size=w1.heap.size)=False/\(W.heap.size=w1.heap.size+1)=False/\(W.heap.size+1=w1.heap.size)=False/\(W.heap.size+1+1=w1.heap.size)=False:=kZ;generalize w1.heap.size=B9 at*;clear hM F G;intro w3 hM;have F:=hM.x;simp only[Mx]at F;rcases K1 with⟨k0,a1,a2,a3,a4⟩|⟨k0,a1,a2,a3,a4⟩|⟨k0,a1,a2,a3,a4⟩
 ·have HE:Hid _:=AskT.no HK.out (if_pos (.inl k0.out)) kD
  exact kWn
 ·rcases K2 with⟨j0,c1,c2,c3,c4⟩|⟨j0,c1,c2,c3,c4⟩|⟨j0,c1,c2,c3,c4⟩
  ·have HE:Hid _:=AskT.no HK.out (if_pos (.inr (hz.out▸j0.out))) kD
   exact kWn
  ·exact kWm
  ·cases r
   ·exact absurd (hz.out▸rfl:z.k=1) j0.out.2
   ·have HE:Hid _:=AskT.no HK.out ((if_neg (by rw[k0.out,hz.out];have:=j0.out;omega)).trans ((if_neg (by rw[hz.out];have:=j0.out;omega)).trans (if_pos (.inr (.inl rfl))))) kD
    exact kWn
 rcases K2 with⟨j0,c1,c2,c3,c4⟩|⟨j0,c1,c2,c3,c4⟩|⟨j0,c1,c2,c3,c4⟩
 ·have HE:Hid _:=AskT.no HK.out (if_pos (.inr (hz.out▸j0.out))) kD
  exact kWn
 all_goals
  have ha:y.ask c d s r o n=if(c≠15/\c≠16)\/r=true\/n≠0 then([],1)else(y.askPlace c d o,0):=(if_neg (by rw[hz.out];have:=j0.out;have:=k0.out;omega)).trans (if_neg (by have:=k0.out;omega));replace ha:Hid _:=ha
  cases r
  ·rcases dce n 0 with⟨n0,n1⟩|⟨n0,n1⟩
   ·rcases dce c 15 with⟨c5, -⟩|⟨c5, -⟩
    ·have z5:(c !=15)=false:=by simpa using c5.out
     have z6:(c==16)=false:=by rw[c5.out];rfl
     have cc:Hid (c=15\/c=16):= .inl c5.out;obtain⟨P0,g0⟩: ∃P0:Nat,Hid ((P0:Int)=(pc:Int)+1+o):=⟨pc+1+o.toNat,by show _=_;omega⟩;obtain⟨P1,g1⟩: ∃P1:Nat,Hid ((P1:Int)=(pc:Int)+1):=⟨pc+1,by show _=_;omega⟩;have h0:Hid ((P0:Int)=(pc:Int)+1+if c=16 then 0 else o):=by show _=_;rw[if_neg (by rw[c5.out];decide)];exact g0.out
     have h1:Hid ((P1:Int)=(pc:Int)+1+if c=16 then o else 0):=by show _=_;rw[if_neg (by rw[c5.out];decide),g1.out];simp
     exact kWq
    ·have z5:(c !=15)=true:=by simpa using c5.out
     rcases dce c 16 with⟨c6, -⟩|⟨c6, -⟩
     ·have z6:(c !=16)=false:=by simpa using c6.out
      have cc:Hid (c=15\/c=16):= .inr c6.out;obtain⟨P0,g0⟩: ∃P0:Nat,Hid ((P0:Int)=(pc:Int)+1):=⟨pc+1,by show _=_;omega⟩;obtain⟨P1,g1⟩: ∃P1:Nat,Hid ((P1:Int)=(pc:Int)+1+o):=⟨pc+1+o.toNat,by show _=_;omega⟩;have h0:Hid ((P0:Int)=(pc:Int)+1+if c=16 then 0 else o):=by show _=_;rw[if_pos c6.out,g0.out];simp
      have h1:Hid ((P1:Int)=(pc:Int)+1+if c=16 then o else 0):=by show _=_;rw[if_pos c6.out];exact g1.out
      exact kWq
     ·have z6:(c !=16)=true:=by simpa using c6.out
      have HE:Hid _:=AskT.no HK.out (ha.out.trans (if_pos (.inl ⟨c5.out,c6.out⟩))) kD;replace n1:(n !=0)=false:=by simpa using n0.out
      exact kWn
   ·have HE:Hid _:=AskT.no HK.out (ha.out.trans (if_pos (.inr (.inr n0.out)))) kD
    replace n1:(n !=0)=true:=by simpa using n0.out
    exact kWn
  ·have HE:Hid _:=AskT.no HK.out (ha.out.trans (if_pos (.inr (.inl rfl)))) kD
   exact kWn
end

section
open Go.ChangeShapes Go.WideShapes Go.ChangeAt Go.RowKit
set_option maxHeartbeats 40000000
set_option maxRecDepth 1000000
attribute [local simp] dwS z04
theorem mind_way0:z0h ((Way.putAll ⟨fun _=>kno0,fun _=>kno0⟩ 1 ⟨2,0,0⟩).putAll 10 ⟨3,0,0⟩)=z0h way0:=zUm fun i hi=>by
 rw[zKk,zKk];unfold Way.all way0;dsimp only
 (repeat' split)<;>first|rfl|omega
theorem kp_nil{w w7 w8:World}{Bl:Nat}{F:MemL}(h:Mm w F w7)(hk:Kp Bl (.slice none 0 0) w7 w8)(hB:w.heap.size<=Bl)(hF: ∀x,x∈F->x.1≠Bl):Mm w F w8:=
 ⟨h.1.trans ⟨hk.1.os,hk.1.tape,hk.1.output,hk.1.size,fun k hk'=>hk.2 k (Nat.lt_of_lt_of_le hk' h.1.size) kO (by simp[Value.ownBlock])⟩,fun x hx=>(hk.2 x.1 (Array.getElem?_eq_some_iff.1 (h.2 x hx)).1 (hF x hx) (by simp[Value.ownBlock])).trans (h.2 x hx)⟩
theorem zYw{w:World}{Bl base f:Nat}{l E:Value}{es:List Kno}(h:z2h w Bl base l f E es)(h1:1<=es.length): ∃g cap,E= .slice (some ⟨g,0,none⟩) es.length cap/\g<w.heap.size/\ ∀i,i<es.length->w.cell? ⟨g,i*2,none⟩=some (I J (z78 es i).1)/\w.cell? ⟨g,i*2+1,none⟩=some (I J (z78 es i).2):=by
 have ho:=h.own;rcases ho.2 with⟨e1,e2⟩|⟨g,cap,cur,e1,e2,e3,e4⟩
 ·omega
 refine⟨g,cap,e1,(Array.getElem?_eq_some_iff.1 e3).1,fun i hi=>?_⟩;obtain⟨c1,c2⟩:=zBe es i hi;have k1:=World.ownsRow.cells ho (g:=g) (by rw[e1];rfl) _ _ c1;have k2:=World.ownsRow.cells ho (g:=g) (by rw[e1];rfl) _ _ c2;rw[Addr.add_mid,Nat.zero_add]at k1 k2;exact⟨k1,k2⟩
theorem mp1(y:Way):(((z0h y).setIfInBounds 3 (.int .u8 116)).setIfInBounds 4 (I J 0)).setIfInBounds 5 (I J 0)=z0h (y.putAll 1 ⟨2,0,0⟩):=zQq y 1 ⟨2,0,0⟩
theorem mp10(y:Way):(((z0h y).setIfInBounds 30 (.int .u8 102)).setIfInBounds 31 (I J 0)).setIfInBounds 32 (I J 0)=z0h (y.putAll 10 ⟨3,0,0⟩):=zQq y 10 ⟨3,0,0⟩
theorem mk1(y:Way):((z0h y)[3]?=some (.int .u8 (kdg (y.all 1).k))/\(z0h y)[4]?=some (I J (y.all 1).l)/\(z0h y)[5]?=some (I J (y.all 1).h))/\(z0h y)[30]?=some (.int .u8 (kdg (y.all 10).k))/\(z0h y)[31]?=some (I J (y.all 10).l)/\(z0h y)[32]?=some (I J (y.all 10).h):=⟨mk3 y (d:=1) kD,mk3 y (d:=10) kD⟩
theorem Mm.mind{V w:World}{g:Nat}{y:Way}{t:TypeId}{F:MemL}(hM:Mm V ((g,z0h y,t)::F) w): ∃y1,Mm V ((g,z0h y1,t)::F) w/\Hid (y1=y):=⟨y,hM,rfl⟩
abbrev RvQ(w:World)(er i:Int)(e:Ending)(w':World):Prop:= ∃x y:Int,e= rT (.tuple #[.agg #[I J x,I J y],.agg #[I J er,I J i]])/\Below w.heap.size w w'
theorem kVe{P:Prop}(h:P:=by
 have F:=hM.x;simp only[Mx]at F;have hb9:=hM.b;go_wp2_with fail;go_region;go_wp2_with fail;exact bodyPost_ret (by simp[results,Tryz.results31,go_sem, *];try rfl) rfl ⟨0,0,rfl,kB⟩):P:=h
theorem z9m(la:Option Addr)(ln cap:Nat)(w:World)(ER IR c0 c1:Int)(HC:Hid (∀W:World,Below w.heap.size w W->zR 44 #[.slice la ln cap] W (.agg #[I J c0,I J c1])))
  (HZ:((c0 !=0)=true/\Hid (c0=ER/\c1=IR))\/((c0 !=0)=false/\Hid (∀(W:World)(Bl:Nat),Below w.heap.size w W->w.heap.size<Bl->z2h W Bl W.heap.size (.slice la ln cap) 4000 (.slice none 0 0) []->Calls tP 46 #[pT (some ⟨Bl,0,none⟩),.agg (z0h way0),I J 0] W fun e w'=> ∃v,e= rT v/\ ∃er i,v= .agg #[I J er,I J i]/\Kp Bl (.slice none 0 0) W w'/\
   (((er !=0)=true/\Hid (er=ER/\i=IR))\/((er !=0)=false/\Hid ((0=ER/\ -1=IR)/\ ∃E' f' es,1<=es.length/\es.length<=4000/\z2h w' Bl W.heap.size (.slice la ln cap) f' E' es)))))):
  Calls tP 31 #[.slice la ln cap] w (RvQ w ER IR):=by
 go_in
 go_upto_region 1 with fail
 refine gnl (W:=w) kMm ?_;intro w1 hM;simp at hM;have F:=hM.x;simp only[Mx]at F;go_upto_region 2 with(go_at_call 44;refine cR (HC.out _ hM.b) ?_;intro w2 hb;replace hM:=hM.later hb)
 refine gnl (W:=w) kMm ?_;have b1:w.heap.size+1<w2.heap.size:=hM.lt kMe;generalize w2.heap.size=B4 at*;clear hM F hb;intro w3 hM;have F:=hM.x;simp only[Mx]at F;rcases HZ with⟨z1,z2⟩|⟨z1,HG⟩
 ·obtain⟨rfl,rfl⟩:=z2.out
  exact kVe
 go_upto_region 6 with fail
 refine gnl (W:=w) kMm ?_;have b4:B4<w3.heap.size:=F.2.2.1;simp only[World.size_alloc,zFc];generalize w3.heap.size=Bl at*;have ne:(w.heap.size=Bl+1)=False/\(w.heap.size+1=Bl+1)=False/\(B4=Bl+1)=False/\(Bl=Bl+1)=False:=kZ;clear hM F;intro w4 hM;obtain⟨y0,hM,ey⟩:=hM.mind;have F:=hM.x;simp only[Mx]at F;have m:=mk1 y0;go_upto_region 7 with(go_at_call 45;refine cR (zAi _ _) ?_;intro w5 hb;replace hM:=hM.later hb;have F:=hM.x;simp only[Mx]at F)
 refine gnl (W:=w) kMm ?_;clear hM F hb;intro w5 hM;simp only[List.map_cons,List.map_nil,mput,ne,if_true,if_false,mp1]at hM;obtain⟨y1,hM,ez⟩:=hM.mind;have F:=hM.x;simp only[Mx]at F;have m:=mk1 y1;go_upto_region 8 with(go_at_call 45;refine cR (zAi _ _) ?_;intro w6 hb;replace hM:=hM.later hb;have F:=hM.x;simp only[Mx]at F)
 refine gnl (W:=w) kMm ?_;clear hM F hb;intro w7 hM;simp only[List.map_cons,List.map_nil,mput,ne,if_true,if_false,mp10,ez.out,ey.out,mind_way0]at hM;have F:=hM.x;simp only[Mx]at F;have hbx:w7.heap[Bl]?=some (cT #[.slice la ln cap,I J 4000,.slice none 0 0] 144 (0,0)):=hM.row kMe;go_step;refine kGv ?_
 (refine wpList_load_row rfl 148 (.tmp 6) rfl (Bl+1) rfl 148 _ (0,0) _ (hM.row kMe) Tryz.underlying148 rfl (z4l _) ?_)
 simp only[pS];refine z0w rfl 46 _ kG (HG.out w7 Bl hM.b kO ⟨hbx,World.ownsRow_nil w7 _ _ 2,hM.lt kMe,by decide⟩) ?_;intro v8 w8 hq;obtain⟨er,i,rfl,hkp,hT⟩:=hq;replace hM:=kp_nil hM.two hkp kO kZ
 simp only[pS];rcases hT with⟨z1,z2⟩|⟨z1,z2⟩
 ·obtain⟨rfl,rfl⟩:=z2.out
  exact kVe
 obtain⟨⟨rfl,rfl⟩,E',f',es,e1,e2,hL8⟩:=z2.out;obtain⟨g,cp,rfl,hg,hc⟩:=zYw hL8 e1;have F8:=(Mm.cons (Mm.start w8) hL8.box).x;simp only[Mx]at F8;have HB:Hid _:=hL8.box;clear hL8 z2 hkp hbx F;generalize es.length=n at*;generalize z78 es=fn at*;have n4:(n:Int)<=4000:=kO;have n0:(0:Int)<(n:Int):=kO;replace hc:Hid _:=hc
 have c0:=hc.out 0 e1;simp only[Nat.zero_mul,Nat.zero_add]at c0;have HM:Hid (Mm w [(w.heap.size+1, #[I J 0,I J 0],75),(w.heap.size, #[I J 0,I J 0],110)] w8):=hM.tl;clear hM;go_upto_region 12 with fail
 refine gnl (W:=w8) kMm ?_;simp only[World.size_alloc];intro w9 hM;clear c0;have F9:=(Mm.cons (Mm.start w9) ((hM.b.block Bl F8.2.2.1).trans HB.out)).x;simp only[Mx]at F9;clear F8;replace hM:Hid (Mm w8 [(w8.heap.size+1, #[I J (fn 0).1,I J (fn 0).2],110)] w9):=(Mm.none hM.b).cons (hM.row kMe)
 go_wp2_with fail;go_loopw [46] (fun iv wr=> ∃(k:Nat)(x y:Int),iv=I J k/\k<=n/\Hid (Mm w8 [(w8.heap.size+1, #[I J x,I J y],110)] wr)) (fun iv _=>n-(intOf iv).toNat)
 case atStart=>exact⟨0,_,_,rfl,kO,hM⟩
 case round=>
  clear hM F9;obtain⟨k,x,y,rfl,hk,HK⟩:=hrel;have hM:=HK.out;have k0:(0:Int)<=(k:Int):=kO
  by_cases hlt:k<n
  ·have k1:(k:Int)<(n:Int):=kO
   have c0:=(hM.b.cell (p:=⟨g,k*2,none⟩) hg).trans (hc.out k hlt).1;have c1:=(hM.b.cell (p:=⟨g,k*2+1,none⟩) hg).trans (hc.out k hlt).2;have g2:=Nat.lt_of_lt_of_le hg hM.b.size;have F:=hM.x;simp only[Mx]at F;go_wp2_with(go_at_call 47;refine cR (zKv _ _ _ _ _) ?_;intro w2 hb;replace hM:=(hM.later ((bF _ _).alloc (Nat.le_refl _) _)).later hb;clear F;have F:=hM.x;simp only[Mx]at F);go_roundw
   case rel=>exact⟨k+1,_,_,by go_num,kO,Mm.as (kMm (W:=w8)) (by simp[mput];exact⟨rfl,rfl⟩)⟩
   case measure=>simp[intOf];omega
  ·obtain rfl:k=n:=by omega
   replace hM:=(HM.out.later (hM.b.mono (Nat.le_refl _))).cons (hM.row kMe)
   clear HK;go_upto_region 17 with fail
   refine flo 2 [] hM kR kR kQp ?_;refine kFl ?_;intro w6 hM;have F:=hM.x;simp only[Mx]at F;have hb9:=hM.b;go_wp2_with fail;exact bodyPost_ret (by simp[results,Tryz.results31,go_sem, *];try rfl) rfl ⟨x,y,rfl,kB⟩
end
section
open Go.ChangeShapes Go.WideShapes Go.ChangeAt Go.RowKit
set_option maxHeartbeats 40000000
set_option maxRecDepth 1000000
attribute [local simp] dwS z04
abbrev Zp:=Nat×Pg
def z0:Zp:=(0,pg0)
theorem z5x(y:Way)(k l h o b0 b1:Int):(∀(w:World)(HA:Hid (z2z w))(HF:Hid (∀W:World,z2z W->zR 59 #[.agg #[.int .u8 k,I J l,I J h],I J o] W (.tuple #[.agg #[I J b0,I J b1],I J 0])))(t1:(k !=102)=true),zR 58 #[.agg (z0h y),.agg #[.int .u8 k,I J l,I J h],I J o] w (.tuple #[.agg #[.int .u8 110,I J (-9223372036854775808),I J 9223372036854775807],I J 0]))/\(∀(t m:Nat)(w:World)(HA:Hid (z2z w))(HF:Hid (∀W:World,z2z W->zR 59 #[.agg #[.int .u8 k,I J l,I J h],I J o] W (.tuple #[.agg #[I J b0,I J b1],I J 0])))(t1:(k !=102)=false)(nb:(b0 !=b1)=true)(HB:Hid (b0=(t:Int)-16/\b1=b0+(m:Int)/\1<=m/\t+m<16))(HY:Hid y.Ok),Calls tP 58 #[.agg (z0h y),.agg #[.int .u8 k,I J l,I J h],I J o] w fun e w'=>(∃j,j<m+1/\(∀i,i<j->z1v y t i=0)/\z1v y t j≠0/\e= rT (.tuple #[.agg #[.int .u8 0,I J 0,I J 0],I J (z1v y t j)])/\Below w.heap.size w w')\/((∀j,j<m+1->z1v y t j=0)/\e= rT (.tuple #[.agg #[.int .u8 110,I J (z1d (bdAt y t) (m+1)).1,I J (z1d (bdAt y t) (m+1)).2],I J 0])/\Below w.heap.size w w'))/\(∀(q:Nat)(hq:q<27)(w:World)(HA:Hid (z2z w))(HF:Hid (∀W:World,z2z W->zR 59 #[.agg #[.int .u8 k,I J l,I J h],I J o] W (.tuple #[.agg #[I J b0,I J b1],I J 0])))(t1:(k !=102)=false)(e1:IntKind.i64.wrap (27+b0)=(q:Int))(hb:b0=b1)(lo: -16<=b0)(hi:b0<= -1)(n1:(kdg (y.all q).k==0)=true),zR 58 #[.agg (z0h y),.agg #[.int .u8 k,I J l,I J h],I J o] w (.tuple #[.agg #[.int .u8 0,I J 0,I J 0],I J 8]))/\(∀(q:Nat)(hq:q<27)(w:World)(HA:Hid (z2z w))(HF:Hid (∀W:World,z2z W->zR 59 #[.agg #[.int .u8 k,I J l,I J h],I J o] W (.tuple #[.agg #[I J b0,I J b1],I J 0])))(t1:(k !=102)=false)(e1:IntKind.i64.wrap (27+b0)=(q:Int))(hb:b0=b1)(lo: -16<=b0)(hi:b0<= -1)(n1:(kdg (y.all q).k==0)=false)(n2:(kdg (y.all q).k !=110)=true),zR 58 #[.agg (z0h y),.agg #[.int .u8 k,I J l,I J h],I J o] w (.tuple #[.agg #[.int .u8 (kdg (y.all q).k),I J (y.all q).l,I J (y.all q).h],I J 0]))/\(∀(q:Nat)(hq:q<27)(w:World)(HA:Hid (z2z w))(HF:Hid (∀W:World,z2z W->zR 59 #[.agg #[.int .u8 k,I J l,I J h],I J o] W (.tuple #[.agg #[I J b0,I J b1],I J 0])))(t1:(k !=102)=false)(e1:IntKind.i64.wrap (27+b0)=(q:Int))(hb:b0=b1)(lo: -16<=b0)(hi:b0<= -1)(n1:(kdg (y.all q).k==0)=false)(n2:(kdg (y.all q).k !=110)=false),zR 58 #[.agg (z0h y),.agg #[.int .u8 k,I J l,I J h],I J o] w (.tuple #[.agg #[.int .u8 (kdg (y.all q).k),I J (y.all q).l,I J (y.all q).h],I J 0])):=by
 refine⟨?_,?_,?_,?_,?_⟩;intro w HA HF t1;rotate_left;intro t m w HA HF t1 nb HB HY;rotate_left;intro q hq w HA HF t1 e1 hb lo hi n1;rotate_left;intro q hq w HA HF t1 e1 hb lo hi n1 n2;rotate_left;intro q hq w HA HF t1 e1 hb lo hi n1 n2;rotate_left
 all_goals
  have hK0:=load0 w y k l h
 all_goals
  go_enter Tryz.func58,Tryz.ntmps58;go_upto_region 1 with fail
  generalize (((w.alloc (cT (z0h y) 148)).alloc (cT #[.int .u8 k,I J l,I J h] 146)).alloc (cT #[.int .u8 0,I J 0,I J 0] 146))=w0 at hK0⊢;have yM:z3g _ w.heap.size _:=(hK0.2 _ mcS);have ylt:=yM.lt;obtain⟨x0,x1,x2,xf0,xf1,xf2,xlt⟩:=row3 (hK0.2 _ (mcO _ mcS));obtain⟨z0,z1,z2,zf0,zf1,zf2,zlt⟩:=row3 (hK0.2 _ (mcO _ (mcO _ mcS)))
 ·go_wp2_with(first|(go_at_call 59;refine(HF.out _ (HA.out.later hK0.1)).mono ?_;rintro e w1 ⟨rfl,hb1⟩;have hK1:=hK0.later hb1;have hA1:=HA.out.later hK1.1;clear yM ylt x0 x1 x2 xf0 xf1 xf2 xlt z0 z1 z2 zf0 zf1 zf2 zlt;have yM:z3g _ w.heap.size _:=(hK1.2 _ mcS);have ylt:=yM.lt;obtain⟨x0,x1,x2,xf0,xf1,xf2,xlt⟩:=row3 (hK1.2 _ (mcO _ mcS));obtain⟨z0,z1,z2,zf0,zf1,zf2,zlt⟩:=row3 (hK1.2 _ (mcO _ (mcO _ mcS)));have hbw:=hK1.1;obtain⟨ga,ga0,ga1⟩:=hA1)|fail)
  exact bodyPost_ret (v:= .tuple #[.agg #[.int .u8 110,I J (-9223372036854775808),I J 9223372036854775807],I J 0]) (by simp[results,Tryz.results58,go_sem, *]) rfl ⟨rfl,kB⟩
 all_goals
  obtain⟨i0,hi0,hz0,hz1,hz2⟩:=info_parts Tryz.infoKn
 ·go_wp2_with(first|(go_at_call 59;refine(HF.out _ (HA.out.later hK0.1)).mono ?_;rintro e w1 ⟨rfl,hb1⟩;have hK1:=hK0.later hb1;have hA1:=HA.out.later hK1.1;clear yM ylt x0 x1 x2 xf0 xf1 xf2 xlt z0 z1 z2 zf0 zf1 zf2 zlt;have yM:z3g _ w.heap.size _:=(hK1.2 _ mcS);have ylt:=yM.lt;obtain⟨x0,x1,x2,xf0,xf1,xf2,xlt⟩:=row3 (hK1.2 _ (mcO _ mcS));obtain⟨z0,z1,z2,zf0,zf1,zf2,zlt⟩:=row3 (hK1.2 _ (mcO _ (mcO _ mcS)));have hbw:=hK1.1)|fail)
  have hK2:=hK1.add (cT #[I J b0,I J b1] 110);clear yM ylt x0 x1 x2 xf0 xf1 xf2 xlt z0 z1 z2 zf0 zf1 zf2 zlt;clear hbw hb1 hA1 hK0 hK1;generalize (w1.alloc (cT #[I J b0,I J b1] 110))=w2 at hK2⊢;generalize w1.heap.size=B8 at hK2⊢;obtain⟨p0,p1, -, -,plt⟩:=row2 (hK2.2 _ mcS);have yM:z3g _ w.heap.size _:=(hK2.2 _ (mcO _ mcS));have ylt:=yM.lt;obtain⟨x0,x1,x2,xf0,xf1,xf2,xlt⟩:=row3 (hK2.2 _ (mcO _ (mcO _ mcS)));obtain⟨z0,z1,z2,zf0,zf1,zf2,zlt⟩:=row3 (hK2.2 _ (mcO _ (mcO _ (mcO _ mcS))));have HK2:Hid (Blk w [(B8,cT #[I J b0,I J b1] 110 (0,0)),(w.heap.size,cT (z0h y) 148 (0,0)),(w.heap.size+1,cT #[.int .u8 k,I J l,I J h] 146 (0,0)),(w.heap.size+1+1,cT #[.int .u8 0,I J 0,I J 0] 146 (0,0))] w2):=hK2;have HS2:Hid (w.heap.size<=w2.heap.size/\B8<w2.heap.size/\w.heap.size+1+1<w2.heap.size):=⟨hK2.1.size,hK2.lt mcS,hK2.lt (mcO _ (mcO _ (mcO _ mcS)))⟩;clear yM ylt x0 x1 x2 xf0 xf1 xf2 xlt z0 z1 z2 zf0 zf1 zf2 zlt p0 p1 plt;clear hK2;obtain⟨hb0,hb1,hm1,htm⟩:=HB.out;clear hb0 hb1;go_loopw [10,11] (fun v i wr=> ∃j:Nat,i=I J (b0+(j:Int))/\j<=m+1/\Hid (Blk w [(B8,cT #[I J b0,I J b1] 110 (0,0)),(w.heap.size,cT (z0h y) 148 (0,0)),(w.heap.size+1,cT #[.int .u8 k,I J l,I J h] 146 (0,0)),(w.heap.size+1+1,cT #[.int .u8 0,I J 0,I J 0] 146 (0,0))] wr)/\Hid (wr.ownsRow w2.heap.size 146 3 v j (z33 (bdAt y t) j))/\Hid (∀i,i<j->z1v y t i=0)/\Hid (w2.heap.size<=wr.heap.size)) (fun _ i _=>(m+1)-(intOf i-b0).toNat)
  case atStart=>exact⟨0,by simp,by omega,HK2.out,World.ownsRow_nil _ _ _ _,fun j hj=>absurd hj kO,Nat.le_refl _⟩
  case round=>
   obtain⟨j,rfl,hj,HK,HO,HZ,HS⟩:=hrel;have hK:=HK.out;clear HK2;obtain⟨p0,p1, -, -,plt⟩:=row2 (hK.2 _ mcS);have yM:z3g _ w.heap.size _:=(hK.2 _ (mcO _ mcS));have ylt:=yM.lt;obtain⟨x0,x1,x2,xf0,xf1,xf2,xlt⟩:=row3 (hK.2 _ (mcO _ (mcO _ mcS)));obtain⟨z0,z1,z2,zf0,zf1,zf2,zlt⟩:=row3 (hK.2 _ (mcO _ (mcO _ (mcO _ mcS))))
   by_cases hlt:j<m+1
   ·have hq:11+(t+j)<27:=kO
    have hle:decide (b0+(j:Int)<=b1)=true:=by have:=HB.out;simp;omega
    obtain⟨m0,m1,m2⟩:=yM.know hq;rw[z8e]at m0 m1 m2;have e1:IntKind.i64.wrap (27+(b0+(j:Int)))=((11+(t+j):Nat):Int):=by have:=HB.out;rw[IntWalk.i64_left,z08 kO kO];omega
    have e2:IntKind.i64.wrap (b0+(j:Int)+1)=b0+((j+1:Nat):Int):=by have:=HB.out;rw[IntWalk.i64_left,z08 kO kO];omega
    generalize 11+(t+j)=q at hq m0 m1 m2 e1;have q0:(0:Int)<=(q:Int):=kO;have q1:(q:Int)<27:=kO
    by_cases c0:(y.slot (t+j)).k=0
    ·have n1:(kdg (y.slot (t+j)).k==0)=true:=by rw[c0];rfl
     have HW:Hid (z1v y t j=8):=by show z0s (y.slot (t+j))=8;unfold z0s;rw[if_pos c0]
     clear c0;go_wp2_with fail;have hbw:=hK.1;exact bodyPost_ret (v:= .tuple #[.agg #[.int .u8 0,I J 0,I J 0],I J 8]) (by simp[results,Tryz.results58,go_sem, *]) rfl (Or.inl ⟨j,hlt,HZ.out,by rw[HW.out];decide,by rw[HW.out],kB⟩)
    by_cases c1:(y.slot (t+j)).k=1
    ·rw[c1]at m0
     change _=some (Value.int .u8 110)at m0
     have HW:Hid (z1v y t j=0):=by show z0s (y.slot (t+j))=0;unfold z0s;rw[if_neg c0,if_pos c1]
     clear c0 c1;go_wp2_with(first|(at_builtin;refine wpList_append_own _ rfl (.tmp 58) (.tmp 60) 219 rfl w2.heap.size 146 i0 (.agg #[.int .u8 0,I J 0,I J 0]) 3 24 Tryz.underlying219 hi0 hz0 hz1 hz2 rfl kD _ j (z33 (bdAt y t) j) rfl ((HO.out.alloc _).alloc _) ⟨_,0,none⟩ 1 1 [.int .u8 110,I J (y.slot (t+j)).l,I J (y.slot (t+j)).h] rfl rfl (zDe kS) (by intro u hu;simp at hu;rcases hu with rfl|rfl|rfl<;>rfl) (by unfold maxLen;omega) kO (by have:=HS.out;simp;omega) ?_;intro v6 w6 hown6 hgrow6 _)|fail);go_roundw
     case rel=>
      refine⟨j+1,e2▸rfl,by omega,?_,hown6,?_,?_⟩
      ·exact((hK.later ((bF _ _).alloc (Nat.le_refl _) (cT #[.int .u8 110,I J (y.slot (t+j)).l,I J (y.slot (t+j)).h] 146))).later ((bF _ _).alloc (Nat.le_refl _) _)).grown hgrow6 (b:=w2.heap.size) (fun k hk=>(World.ownsRow.lt HO.out k hk).1) HS2.out.1 (by intro x hx;have:=HS2.out;simp only[List.mem_cons,List.not_mem_nil,or_false]at hx;rcases hx with rfl|rfl|rfl|rfl<;>(show _<_;omega))
      ·intro i hi
       by_cases e:i=j
       ·rw[e];exact HW.out
       ·exact HZ.out i kO
      ·exact Nat.le_trans HS.out (Nat.le_trans kZ hgrow6.size)
     case measure=>simp[intOf];omega
    ·obtain⟨n1,n2⟩:=zYn (HY.out.slot (t+j) kO).1 (HY.out.slot (t+j) kO).2.1 c0 c1
     have HW:Hid (z1v y t j=1):=by show z0s (y.slot (t+j))=1;unfold z0s;rw[if_neg c0,if_neg c1]
     clear c0 c1;go_wp2_with fail;have hbw:=hK.1;exact bodyPost_ret (v:= .tuple #[.agg #[.int .u8 0,I J 0,I J 0],I J 1]) (by simp[results,Tryz.results58,go_sem, *]) rfl (Or.inl ⟨j,hlt,HZ.out,by rw[HW.out];decide,by rw[HW.out],kB⟩)
   ·obtain rfl:j=m+1:=by omega
    have hle:decide (b0+((m:Int)+1)<=b1)=false:=by have:=HB.out;simp;omega
    obtain⟨g,cp,cur,rfl,hcp,hgb,hgr,hcur⟩:=zUe HO.out kO;obtain⟨u0,u1,u2⟩:=hcur 0 kO;have g0:=(cell_of_row _ g 0 _ 146 (0,0) hgr).trans u0;have g1:=(cell_of_row _ g 1 _ 146 (0,0) hgr).trans u1;have g2:=(cell_of_row _ g 2 _ 146 (0,0) hgr).trans u2;have glt:=(Array.getElem?_eq_some_iff.1 hgr).1;clear u0 u1 u2;go_wp2_with fail
    have hK3:Blk w [(wr.heap.size,cT #[.int .u8 110,I J (z1d (bdAt y t) 1).1,I J (z1d (bdAt y t) 1).2] 146 (0,0)),(g,cT cur 146 (0,0)),(w.heap.size+1+1,cT #[.int .u8 0,I J 0,I J 0] 146 (0,0))] (wr.alloc (cT #[.int .u8 110,I J (bdAt y t 0).1,I J (bdAt y t 0).2] 146)):=by
     rw[zCy];exact(((Blk.nil (hK.1.alloc hK.1.size _)).cons ((heap_alloc_old _ _ zlt).trans (hK.2 _ (mcO _ (mcO _ (mcO _ mcS)))))).cons ((heap_alloc_old _ _ glt).trans hgr)).cons (heap_alloc_new _ _)
    have HN:Hid (w2.heap.size<=wr.heap.size/\w2.heap.size<=g/\w.heap.size+1+1<w2.heap.size/\g<wr.heap.size):=⟨HS.out,hgb,HS2.out.2.2,glt⟩;have HZ2:Hid (∀j,j<m+1->z1v y t j=0):=HZ.out;have HC:Hid (∀i,i<m+1->cur[i*3]?=some (.int .u8 110)/\cur[i*3+1]?=some (I J (bdAt y t i).1)/\cur[i*3+2]?=some (I J (bdAt y t i).2)):=hcur;clear yM ylt x0 x1 x2 xf0 xf1 xf2 xlt z0 z1 z2 zf0 zf1 zf2 zlt p0 p1 plt;clear g0 g1 g2 hK HK HO HZ HS hgr hcur hle hlt hj glt hgb;generalize (wr.alloc (cT #[.int .u8 110,I J (bdAt y t 0).1,I J (bdAt y t 0).2] 146))=w7 at hK3⊢;generalize wr.heap.size=D at hK3 HN⊢;have HK3:Hid (Blk w [(D,cT #[.int .u8 110,I J (z1d (bdAt y t) 1).1,I J (z1d (bdAt y t) 1).2] 146 (0,0)),(g,cT cur 146 (0,0)),(w.heap.size+1+1,cT #[.int .u8 0,I J 0,I J 0] 146 (0,0))] w7):=hK3;clear hK3;go_loopw [68] (fun i wr2=> ∃j:Nat,i=I J j/\j<=m/\Hid (Blk w [(D,cT #[.int .u8 110,I J (z1d (bdAt y t) (j+1)).1,I J (z1d (bdAt y t) (j+1)).2] 146 (0,0)),(g,cT cur 146 (0,0)),(w.heap.size+1+1,cT #[.int .u8 0,I J 0,I J 0] 146 (0,0))] wr2)) (fun i _=>m-(intOf i).toNat)
    case atStart=>exact⟨0,rfl,by omega,HK3.out⟩
    case round=>
     obtain⟨j,rfl,hj,HK⟩:=hrel;have hK:=HK.out;clear HK3;obtain⟨d0,d1,d2,df0,df1,df2,dlt⟩:=row3 (hK.2 _ mcS);obtain⟨z0,z1,z2,zf0,zf1,zf2,zlt⟩:=row3 (hK.2 _ (mcO _ (mcO _ mcS)));have glt:=hK.lt (mcO _ mcS)
     by_cases hlt:j<m
     ·have hj0:(0:Int)<=(j:Int):=kO
      have hj1:(j:Int)<(m:Int):=kO;obtain⟨u0,u1,u2⟩:=HC.out (j+1) kO;have c0:=(cell_of_row _ g ((j+1)*3) _ 146 (0,0) (hK.2 _ (mcO _ mcS))).trans u0;have c1:=(cell_of_row _ g ((j+1)*3+1) _ 146 (0,0) (hK.2 _ (mcO _ mcS))).trans u1;have c2:=(cell_of_row _ g ((j+1)*3+2) _ 146 (0,0) (hK.2 _ (mcO _ mcS))).trans u2;rw[show(j+1)*3=3+j*3 by omega]at c0 c1 c2;clear u0 u1 u2
      go_wp2_with(first
       |(go_at_call 47;refine(zKw _ _ _ _ _).mono ?_;rintro e w8 ⟨rfl,hw8⟩;have hb8:=zI6 hw8;have hK8:=(hK.later ((bF _ _).alloc (Nat.le_refl _) _)).later hb8;clear hw8;clear d0 d1 d2 df0 df1 df2 dlt z0 z1 z2 zf0 zf1 zf2 zlt glt;clear c0 c1 c2;obtain⟨d0,d1,d2,df0,df1,df2,dlt⟩:=row3 (hK8.2 _ mcS);obtain⟨z0,z1,z2,zf0,zf1,zf2,zlt⟩:=row3 (hK8.2 _ (mcO _ (mcO _ mcS)));have glt:=hK8.lt (mcO _ mcS))
       |fail)
      go_roundw
      case rel=>
       refine⟨j+1,by go_num,by omega,?_⟩;rw[z73 _ (show j+1≠0 by omega)];exact hK8.put12 (by have:=HN.out;omega) (by intro z hz;have:=HN.out;simp only[List.mem_cons,List.not_mem_nil,or_false]at hz;rcases hz with rfl|rfl<;>(show _≠_;omega))
      case measure=>simp[intOf];omega
     ·obtain rfl:m=j:=by omega
      go_wp2_with fail;have hbw:=hK.1;exact bodyPost_ret (v:= .tuple #[.agg #[.int .u8 110,I J (z1d (bdAt y t) (m+1)).1,I J (z1d (bdAt y t) (m+1)).2],I J 0]) (by simp[results,Tryz.results58,go_sem, *]) rfl (Or.inr ⟨HZ2.out,rfl,kB⟩)
 all_goals
  have q0:(0:Int)<=(q:Int):=kO;have q1:(q:Int)<27:=kO;have e2:IntKind.i64.wrap (b0+1)=b0+1:=by rw[IntWalk.i64_left];exact z08 kO kO
  subst hb;go_wp2_with(first|(go_at_call 59;refine(HF.out _ (HA.out.later hK0.1)).mono ?_;rintro e w1 ⟨rfl,hb1⟩;have hK1:=hK0.later hb1;have hA1:=HA.out.later hK1.1;clear yM ylt x0 x1 x2 xf0 xf1 xf2 xlt z0 z1 z2 zf0 zf1 zf2 zlt;have yM:z3g _ w.heap.size _:=(hK1.2 _ mcS);have ylt:=yM.lt;obtain⟨x0,x1,x2,xf0,xf1,xf2,xlt⟩:=row3 (hK1.2 _ (mcO _ mcS));obtain⟨z0,z1,z2,zf0,zf1,zf2,zlt⟩:=row3 (hK1.2 _ (mcO _ (mcO _ mcS)));have hbw:=hK1.1)|fail);have hK2:=hK1.add (cT #[I J b0,I J b0] 110);clear yM ylt x0 x1 x2 xf0 xf1 xf2 xlt z0 z1 z2 zf0 zf1 zf2 zlt;clear hbw hb1 hA1 hK0 hK1;generalize (w1.alloc (cT #[I J b0,I J b0] 110))=w2 at hK2⊢;generalize w1.heap.size=B8 at hK2⊢;obtain⟨p0,p1, -, -,plt⟩:=row2 (hK2.2 _ mcS);have yM:z3g _ w.heap.size _:=(hK2.2 _ (mcO _ mcS));have ylt:=yM.lt;obtain⟨x0,x1,x2,xf0,xf1,xf2,xlt⟩:=row3 (hK2.2 _ (mcO _ (mcO _ mcS)));obtain⟨z0,z1,z2,zf0,zf1,zf2,zlt⟩:=row3 (hK2.2 _ (mcO _ (mcO _ (mcO _ mcS))));obtain⟨m0,m1,m2⟩:=yM.know hq
 ·have hKe:=hK2
  refine wp_loop_rounds 1 ?_
  repeat any_goals(rw[rounds_succ];go_wp2_with fail)
  have hbw:=hKe.1;exact bodyPost_ret (v:= .tuple #[.agg #[.int .u8 0,I J 0,I J 0],I J 8]) (by simp[results,Tryz.results58,go_sem, *]) rfl ⟨rfl,kB⟩
 iterate 2
  ·refine wp_loop_rounds 2 ?_
   repeat any_goals(rw[rounds_succ];go_wp2_with(first|(at_builtin;refine wpList_append_own _ rfl (.tmp 58) (.tmp 60) 219 rfl w.heap.size 146 i0 (.agg #[.int .u8 0,I J 0,I J 0]) 3 24 Tryz.underlying219 hi0 hz0 hz1 hz2 rfl kD _ 0 [] rfl (World.ownsRow_nil _ _ _ _) ⟨_,0,none⟩ 1 1 [.int .u8 (kdg (y.all q).k),I J (y.all q).l,I J (y.all q).h] rfl rfl (zDe kS) (by intro u hu;simp at hu;rcases hu with rfl|rfl|rfl<;>rfl) (by unfold maxLen;omega) kO (by have:=hK2.1.size;simp;omega) ?_;intro v6 w6 hown6 hgrow6 _;have hb6:=((bF w2.heap.size w2).alloc (Nat.le_refl _) (cT #[.int .u8 (kdg (y.all q).k),I J (y.all q).l,I J (y.all q).h] 146)).alloc kS (cT #[.int .u8 (kdg (y.all q).k),I J (y.all q).l,I J (y.all q).h] 146);have hKe:=hK2.later (hb6.trans ((zO4 hgrow6).mono kZ));obtain⟨g6,cp6,rfl,hc6,g0,g1,g2,glt⟩:=kn_one hown6;clear yM ylt x0 x1 x2 xf0 xf1 xf2 xlt z0 z1 z2 zf0 zf1 zf2 zlt p0 p1 plt;clear m0 m1 m2 hb6 hgrow6;obtain⟨p0,p1, -, -,plt⟩:=row2 (hKe.2 _ mcS);have yM:z3g _ w.heap.size _:=(hKe.2 _ (mcO _ mcS));have ylt:=yM.lt;obtain⟨x0,x1,x2,xf0,xf1,xf2,xlt⟩:=row3 (hKe.2 _ (mcO _ (mcO _ mcS)));obtain⟨z0,z1,z2,zf0,zf1,zf2,zlt⟩:=row3 (hKe.2 _ (mcO _ (mcO _ (mcO _ mcS)))))|fail))
   all_goals refine wp_loop_rounds 1 ?_
   repeat any_goals(rw[rounds_succ];go_wp2_with fail)
   all_goals have hbw:=hKe.1
   all_goals exact bodyPost_ret (v:= .tuple #[.agg #[.int .u8 (kdg (y.all q).k),I J (y.all q).l,I J (y.all q).h],I J 0]) (by simp[results,Tryz.results58,go_sem, *]) rfl ⟨rfl,kB⟩
def zI2:=fun y k l h o b0 b1=>(@z5x y k l h o b0 b1).2.2.2.2
def zI3:=fun y k l h o b0 b1=>(@z5x y k l h o b0 b1).2.2.2.1
def zI4:=fun y k l h o b0 b1=>(@z5x y k l h o b0 b1).2.2.1
def zI5:=fun y k l h o b0 b1=>(@z5x y k l h o b0 b1).2.1
def zMz:=fun y k l h o b0 b1=>(@z5x y k l h o b0 b1).1
theorem zMx(y:Way)(k l h o b0 b1:Int)(er:Int)(w:World)(HA:Hid (z2z w))(HF:Hid (∀W:World,z2z W->zR 59 #[.agg #[.int .u8 k,I J l,I J h],I J o] W (.tuple #[.agg #[I J b0,I J b1],I J er])))(t1:(er !=0)=true):zR 58 #[.agg (z0h y),.agg #[.int .u8 k,I J l,I J h],I J o] w (.tuple #[.agg #[.int .u8 0,I J 0,I J 0],I J er]):=by
 have hK0:=load0 w y k l h;go_enter Tryz.func58,Tryz.ntmps58;go_upto_region 1 with fail
 generalize (((w.alloc (cT (z0h y) 148)).alloc (cT #[.int .u8 k,I J l,I J h] 146)).alloc (cT #[.int .u8 0,I J 0,I J 0] 146))=w0 at hK0⊢;have yM:z3g _ w.heap.size _:=(hK0.2 _ mcS);have ylt:=yM.lt;obtain⟨x0,x1,x2,xf0,xf1,xf2,xlt⟩:=row3 (hK0.2 _ (mcO _ mcS));obtain⟨z0,z1,z2,zf0,zf1,zf2,zlt⟩:=row3 (hK0.2 _ (mcO _ (mcO _ mcS)));go_wp2_with(first|(go_at_call 59;refine(HF.out _ (HA.out.later hK0.1)).mono ?_;rintro e w1 ⟨rfl,hb1⟩;have hK1:=hK0.later hb1;have hA1:=HA.out.later hK1.1;clear yM ylt x0 x1 x2 xf0 xf1 xf2 xlt z0 z1 z2 zf0 zf1 zf2 zlt;have yM:z3g _ w.heap.size _:=(hK1.2 _ mcS);have ylt:=yM.lt;obtain⟨x0,x1,x2,xf0,xf1,xf2,xlt⟩:=row3 (hK1.2 _ (mcO _ mcS));obtain⟨z0,z1,z2,zf0,zf1,zf2,zlt⟩:=row3 (hK1.2 _ (mcO _ (mcO _ mcS)));have hbw:=hK1.1)|fail);exact bodyPost_ret (v:= .tuple #[.agg #[.int .u8 0,I J 0,I J 0],I J er]) (by simp[results,Tryz.results58,go_sem, *]) rfl ⟨rfl,kB⟩
theorem zMy(y:Way)(x:Kno)(o:Int)(hy:y.Ok)(hx:x.Ok)(ho:In64 o)(w:World)(hA:z2z w):zR 58 #[.agg (z0h y),x.d,I J o] w (.tuple #[(ldV y x o).1.d,I J (ldV y x o).2]):=by
 have HF:=fun(W:World) (hW:z2z W)=>zAj x o hx ho W hW;have k0:0<=x.k:=hx.1;have k5:x.k<=5:=hx.2.1;unfold ldV
 by_cases c:(z0i x o).2≠0
 ·rw[if_pos c]
  exact zMx y (kdg x.k) x.l x.h o _ _ _ w hA HF (by simpa using c)
 rw[if_neg c];have c':(z0i x o).2=0:=Classical.byContradiction c;obtain⟨-,er,r1,r2⟩:=z4g c';have eB:furB x o=knoTo x o:=by unfold furB;rw[if_pos c',er]
 rw[c',eB]at HF
 by_cases c2:x.k=3
 ·rw[if_pos c2,er]
  have n3:(kdg x.k !=102)=false:=by rw[c2];rfl
  have eR:knoRoom x.k=(-16, -1):=by rw[c2];rfl
  rw[eR]at r1 r2;have hle:=z7x hx ho;clear eB er c c';generalize knoTo x o=b at HF r1 r2 hle⊢;obtain⟨wl,wh⟩:=b;have l1: -16<=wl:=r1;have l2:wh<= -1:=r2;have l3:wl<=wh:=hle;obtain⟨t,et⟩:=Int.eq_ofNat_of_zero_le (show 0<=wl+16 by omega);obtain⟨m,em⟩:=Int.eq_ofNat_of_zero_le (show 0<=wh-wl by omega);have t1:(wl+16).toNat=t:=kO;have m1:(wh-wl+1).toNat=m+1:=kO;unfold Way.kept;dsimp only;rw[t1,m1]
  by_cases d:wl=wh
  ·have hq:11+t<27:=kO
   have e1:IntKind.i64.wrap (27+wl)=((11+t:Nat):Int):=by rw[IntWalk.i64_left,z08 kO kO];omega
   have m0:m=0:=kO;subst m0;have sk:=hy.slot t kO
   by_cases c0:(y.slot t).k=0
   ·have hbad:z1h (y.row t (0+1))=8:=by
     rw[z7k,z3l];rw[if_pos (show z1h (y.row t 0)=0 from rfl),Nat.add_zero];unfold z0s;rw[if_pos c0]
    rw[if_neg (fun z=>z.2 c0),hbad,if_pos kD];exact zI4 y (kdg x.k) x.l x.h o wl wh (11+t) hq w hA HF n3 e1 d l1 kO (by rw[z8e,c0];rfl)
   ·rw[if_pos ⟨d,c0⟩]
    have n1:(kdg (y.all (11+t)).k==0)=false:=by rw[z8e,kD_0 sk.1 sk.2.1];simpa using c0
    cases n2:(kdg (y.all (11+t)).k !=110)
    ·have h:=zI2 y (kdg x.k) x.l x.h o wl wh (11+t) hq w hA HF n3 e1 d l1 kO n1 n2
     rw[z8e]at h;exact h
    ·have h:=zI3 y (kdg x.k) x.l x.h o wl wh (11+t) hq w hA HF n3 e1 d l1 kO n1 n2
     rw[z8e]at h;exact h
  ·rw[if_neg (fun z=>d z.1)]
   refine(zI5 y (kdg x.k) x.l x.h o wl wh t m w hA HF n3 (by simpa using d) ⟨by omega,by omega,by omega,by omega⟩ hy).mono fun e w' h=>?_;rcases h with⟨k,hk,hz,hne,rfl,hb⟩|⟨hz,rfl,hb⟩
   ·rw[z76 hz hne _ hk,if_pos hne];exact⟨rfl,hb⟩
   ·rw[z4n _ hz,if_neg kS,zB0];exact⟨rfl,hb⟩
 rw[if_neg c2]
 have n3:(kdg x.k !=102)=true:=by
  rcases kD_six k0 k5 with e|e|e|e|e|e
  all_goals first|exact absurd e c2|(rw[e];rfl)
 exact zMz y (kdg x.k) x.l x.h o _ _ w hA HF n3
theorem kLo{P:Prop}(h:P:=by
 have k2:z.Ok:=hz▸z2o hy hs iN;rcases dce c 28 with⟨c28,x28⟩|⟨c28,x28⟩
 ·have m0:=mkr y (d:=0) kD
  simp only[Nat.zero_mul,Nat.zero_add]at m0
  as_aux_lemma=>
   rcases kn3 (hy.reg 0 kD)with⟨k0,a1,a2,a3,a4⟩|⟨k0,a1,a2,a3,a4⟩|⟨k0,a1,a2,a3,a4⟩
   ·go_wp2_with fail
    go_meet;exact⟨8,0,y,rfl,by simp,hM.two,.inl ⟨by decide,by simp[Way.look,c28.out,a4]⟩⟩
   ·go_upto_region 13 with fail
    obtain⟨qa,qc,g5,c5,w5,rfl,HR5,hB5,hk5,HLE⟩:=zUp (HDL.out _ hM.b).2 (HDL.out _ hM.b).1.room kO (y.reg 0);have nW:=hL.not_row (Nat.le_refl W.heap.size);have hS:wc.drew.heap[W.heap.size]?=some (cT (z0h y) 148 (0,0)):=hM.row kMe;have hS8:(wc.drew.alloc (cT #[I J (y.reg 0).l,I J (y.reg 0).h] 110)).heap[W.heap.size]?=some (cT (z0h y) 148 (0,0)):=(heap_alloc_old wc.drew _ (hM.lt kMe)).trans hS;have hS5:=(hk5 W.heap.size (hM.lt kMe) nW).trans (hM.row kMe);have hS6:=(heap_setCell_other w5 ⟨Bl,2,none⟩ W.heap.size (.slice (some ⟨g5,0,none⟩) (es.length+1) c5) (by show _≠Bl;have:=hL.blt;omega)).trans hS5;have hS9:=(heap_setCell_other w5 ⟨Bl,2,none⟩ (W.heap.size+1) (.slice (some ⟨g5,0,none⟩) (es.length+1) c5) (by show _≠Bl;have:=hL.blt;omega)).trans ((hk5 (W.heap.size+1) (hM.lt kMe) (hL.not_row kO)).trans (hM.row kMe));have L5:=(Mm.cons (Mm.start w5) (hB5.trans (HDL.out _ hM.b).2.box)).x;simp only[Mx]at L5;refine wp_region_held_drew (S:=fun U=>U.heap[W.heap.size]?=some (cT (z0h y) 148 (0,0))) kR hS fun _=>?_;change wpAnyH _ _ _ _ _ 13 (Array.replicate 13 false) _ _
    refine tkH (i:=0) (some 70) (pT (some ⟨Bl,0,none⟩)) rfl rfl (fun V hV=>kG) hS ?_;simp only[pS];refine tkH (i:=1) (some 71) (pT (some ⟨Bl,0,none⟩)) rfl rfl (fun V hV=>kG) hS ?_;simp only[pS];refine tkH (i:=2) (some 72) (pT (some ⟨Bl,0,none⟩)) rfl rfl (fun V hV=>kG) hS ?_;simp only[pS];refine tkH (i:=3) (some 73) (pT (some ⟨Bl,2,none⟩)) rfl rfl (fun V hV=>kG) hS ?_;simp only[pS];refine tkH (i:=5) (some 75) (pT (some ⟨W.heap.size,0,none⟩)) rfl rfl (fun V hV=>kG) hS ?_;simp only[pS];refine tkH (i:=6) (some 76) (pT (some ⟨W.heap.size,1,none⟩)) rfl rfl (fun V hV=>kG) hS ?_;simp only[pS];refine tkH (i:=7) (some 77) (.agg #[I J (y.reg 0).l,I J (y.reg 0).h]) rfl rfl (fun V hV=>by have F:=(Mm.cons (Mm.start V) hV).x;simp only[Mx]at F;go_simp) hS ?_;simp only[pS];refine wpAnyH_ready (rs:=[4,8]) kR kS ?_;refine z24 (some 74) (.slice qa es.length qc) wc.drew rfl rfl kI (by go_simp) hS ?goA (z24 (some 78) (.slice (some ⟨wc.heap.size,0,none⟩) 1 1) (wc.drew.alloc (cT #[I J (y.reg 0).l,I J (y.reg 0).h] 110)) rfl rfl kI (by go_simp) hS8 ?goB AllReadyH.nil)
    case' goA=>(simp only[pS];refine wpAnyH_ready (rs:=[8]) kR kS ?_;refine z24 (some 78) (.slice (some ⟨wc.heap.size,0,none⟩) 1 1) (wc.drew.alloc (cT #[I J (y.reg 0).l,I J (y.reg 0).h] 110)) rfl rfl kI (by go_simp) hS8 ?_ AllReadyH.nil)
    case' goB=>(simp only[pS];refine wpAnyH_ready (rs:=[4]) kR kS ?_;refine z24 (some 74) (.slice qa es.length qc) (wc.drew.alloc (cT #[I J (y.reg 0).l,I J (y.reg 0).h] 110)) rfl rfl kI (by go_simp) hS8 ?_ AllReadyH.nil)
    all_goals
     simp only[pS];refine wpAnyH_ready (rs:=[9]) kR kS ?_;refine z24 (some 79) (.slice (some ⟨g5,0,none⟩) (es.length+1) c5) w5 rfl rfl kI (z3s _ _ _ _ _ _ _ _ rfl rfl rfl HR5.out) hS5 ?_ AllReadyH.nil;simp only[pS];refine tkH (i:=10) (some 80) (pT (some ⟨Bl,0,none⟩)) rfl rfl (fun V hV=>kG) hS5 ?_;simp only[pS];refine tkH (i:=11) (some 81) (pT (some ⟨Bl,2,none⟩)) rfl rfl (fun V hV=>kG) hS5 ?_;simp only[pS];refine wpAnyH_ready (rs:=[12]) kR kS ?_;refine z3b (w5.setCell ⟨Bl,2,none⟩ (.slice (some ⟨g5,0,none⟩) (es.length+1) c5)) rfl rfl kI (by go_simp) hS6 ?_ AllReadyH.nil;simp only[pS];refine wpAnyH_done kR ?_ _;generalize (w5.setCell ⟨Bl,2,none⟩ (.slice (some ⟨g5,0,none⟩) (es.length+1) c5))=w6 at HLE hS9⊢;have HX:Hid _:=And.intro hM hS9;clear hS hS8 hS5 hS6 HR5 F G L5 hS9 hM m0 m1 m2;go_wp2_with(go_at_call 14;refine cR (zI8 _ _) ?_;intro w7 hb;have R7:=(hb.block _ (Array.getElem?_eq_some_iff.1 HX.out.2).1).trans HX.out.2;have F:=(Mm.cons (Mm.start w7) R7).x;simp only[Mx]at F);exact bodyPost_ret (by simp[results,Tryz.results46,go_sem, *];try rfl) rfl ⟨_,rfl,0, -1,rfl,z5s (((HV.out.trans (Kp.of HX.out.1.b) z4h.refl).trans HLE.out.2.2 z4h.refl).trans (Kp.of hb) z4h.refl) kO,.inr ⟨rfl,_,f,es++[y.reg 0],kO,z7v (HLE.out.1.later hb) zYd (by have:=hL.blt;omega) (zDy R7 kD (HLE.out.1.later hb)),zCl HLE.out.2.1 (by have:=HX.out.1.b.size;omega),fun st=>(HK.out st).trans (by simp[Way.look,c28.out,a4])⟩⟩
   ·go_wp2_with fail
    go_meet;exact⟨1,0,y,rfl,by simp,hM.two,.inl ⟨by decide,by simp[Way.look,c28.out,a4]⟩⟩
 rcases dce c 14 with⟨c14,x14⟩|⟨c14,x14⟩
 ·have e3:wrap64 ((pc:Int)+1+o)=(pc:Int)+1+o:=z08 (by have:=rt.lead (.inl c14.out);omega) (by have:=rt.lead (.inl c14.out);omega)
  go_wp2_with fail;go_meet;exact⟨0,o,y,rfl,by rw[e3],hM.two,.inr ⟨rfl,by simp[Way.look,c14.out]⟩⟩
 by_cases cq:15<=c/\c<=24
 ·as_aux_lemma=>
   have HQ:(decide (15<=c)&&decide (c<=24))=true:=by rw[<-Bool.decide_and];exact decide_eq_true cq
   have hg:=HB.out wc hM.b cq;rw[hz]at hg;go_upto_region 21 with(go_at_call 56;refine cS (z5q _ _) ?_;rw[HQ])
   go_step;refine kGv ?_
   (refine wpList_load_row rfl 148 (.tmp 4) rfl W.heap.size rfl 148 (z0h y) (0,0) _ (hM.row kMe) Tryz.underlying148 rfl (z4l _) ?_)
   simp only[pS];refine kGv ?_;refine kGv ?_;refine z0w rfl 57 _ kG hg ?_;exact kGe
 have HQ:(decide (15<=c)&&decide (c<=24))=false:=by rw[<-Bool.decide_and];exact decide_eq_false cq
 rcases dce c 25 with⟨c25,x25⟩|⟨c25,x25⟩
 ·as_aux_lemma=>
   have HC:Hid _:=fun w hA=>zMy y (y.reg s) o hy (hy.reg s hs) iO w hA;simp only[Kno.d]at HC
   have HX:Hid (y.look c d s r o n=if(ldV y (y.reg s) o).2=0 then([(0,y.putAll d (ldV y (y.reg s) o).1)],0)else([],(ldV y (y.reg s) o).2)):=by
    show _=_
    by_cases u:(ldV y (y.reg s) o).2=0<;>simp[Way.look,c25.out,zUs,u,z3u hd]
   generalize ldV y (y.reg s) o=X at*;go_upto_region 23 with(go_at_call 56;refine cS (z5q _ _) ?_;rw[HQ])
   exact kGm
 rcases dce c 26 with⟨c26,x26⟩|⟨c26,x26⟩
 ·as_aux_lemma=>
   have HC:Hid _:=fun w hA=>zAj (y.reg d) o (hy.reg d hd) iO w hA;simp only[Kno.d]at HC
   have HX:Hid (y.look c d s r o n=if(y.store (y.reg d) z o).1=0 then([(0,(y.store (y.reg d) z o).2)],0)else([],(y.store (y.reg d) z o).1)):=by
    show _=_;simp[Way.look,c26.out,hz]
   have SC:=zT6 (y:=y) (hy.reg d hd) k2 iO;generalize y.store (y.reg d) z o=X at*;generalize furB (y.reg d) o=b at*;generalize (z0i (y.reg d) o).2=e at*;have b3:B9<wc.heap.size:=F.2.2.1;have n5:(W.heap.size=wc.heap.size)=False/\(W.heap.size=wc.heap.size+1)=False/\(B7=wc.heap.size+1)=False/\(B9=wc.heap.size+1)=False:=kZ;go_upto_region 28 with(first|(go_at_call 56;refine cS (z5q _ _) ?_;rw[HQ])|(go_at_call 59;refine cR (HC.out _ (HDL.out _ (Mm.b (W:=V) kMm)).1.all) ?_;intro w2 hb;have hM:=Mm.later (W:=V) kMm hb;have F:=hM.x;simp[Mx]at F))
   refine gnl (W:=V) kMm ?_;clear hM F G hb;intro w3 hM;simp[mput,ne,nz,n5]at hM;have F:=hM.x;simp only[Mx]at F;rcases SC with⟨t1,t2⟩|⟨t1,t3,t2⟩|⟨t1,t3,t4,t2⟩|⟨t1,t3,t4,t5,t6,t2⟩|⟨t1,t3,t4,t5,t6,t7,t2⟩|⟨t1,t3,t4,t5,t6,t7,t2⟩|⟨t1,t3,t4,t5,t6,t7,q,q1,q2,t2⟩<;>subst t2
   iterate 6 exact kGs
   have m3:=mk3 y q1;have q3:(0:Int)<=(q:Int):=kO;have q4:(q:Int)<27:=kO;go_wp2_with fail;go_meet;exact⟨0,0,y.putAll q z,by rw[eq_of_beq t1],kS,Mm.put3 (hM.two.two) kO kO q z,lkE HX.out⟩
 have c27:Hid (¬c=27):=HX.out;have x27:(c==27)=false:=by simpa using HX.out
 as_aux_lemma=>
  have HC:Hid _:=fun w hA=>zQb c (y.reg d) z (hy.reg d hd) k2 w hA;simp only[Kno.d]at HC
  have HX:Hid (y.look c d s r o n=if(z1f c (y.reg d) z).2=0 then([(0,y.putAll d (z1f c (y.reg d) z).1)],0)else([],(z1f c (y.reg d) z).2)):=by
   show _=_
   by_cases u:(z1f c (y.reg d) z).2=0<;>simp[Way.look,Way.change,cq,c14.out,c25.out,c26.out,c27.out,c28.out,hz,u,z3u hd]
  generalize z1f c (y.reg d) z=X at*;go_upto_region 10 with(go_at_call 56;refine cS (z5q _ _) ?_;rw[HQ])
  exact kGm):P:=h
theorem kGx{P:Prop}(h:P:=by
 intro C D S R O N bk off len cap Bl base f hlen hr hf GF BF W E es y pc hD hL hy hpc hX;have HX:Hid _:=hX;clear hX;have rt:=hr pc hpc;obtain⟨iO,iN⟩:=hf pc hpc;obtain⟨d,ed⟩:=Int.eq_ofNat_of_zero_le rt.d1;obtain⟨s,ss⟩:=Int.eq_ofNat_of_zero_le rt.s1;have hd:d<11:=by have:=rt.d2;omega
 have hs:s<11:=by have:=rt.s2;omega
 have hw:=hL.few;have e1:wrap64 (f:Int)=(f:Int):=z08 kO kO;have e2:wrap64 ((pc:Int)+1)=(pc:Int)+1:=z08 kO kO;have p0:(0:Int)<=(pc:Int):=kO;have p1:(pc:Int)<(len:Int):=kO;have s0:(0:Int)<=(s:Int):=kO;have s1:(s:Int)<27:=kO;have d0:(0:Int)<=(d:Int):=kO;have d1:(d:Int)<27:=kO;have HD:=hD.less (I J (f:Int));have HL:=hL.less;have F:=(Mm.cons (Mm.start W) hL.box).x;simp only[Mx]at F;have HK:Hid (∀st,goF C D S R O N (f+1) ((pc,y)::st) es=if(y.look (C pc) d s (R pc) (O pc) (N pc)).2≠0 then .inl ((y.look (C pc) d s (R pc) (O pc) (N pc)).2,pc)else goF C D S R O N f ((y.look (C pc) d s (R pc) (O pc) (N pc)).1.map (fun z=>(pc+1+z.1.toNat,z.2))++st) (if C pc=28 then es++[y.reg 0]else es)):=fun st=>by rw[goF];simp only[ed,ss];rfl
 have HS:Hid _:=fun w hb=>HD.see HL hpc (w:=w) hb;rw[ed,ss]at HS;have HDL:Hid (∀w:World,Below _ _ w->_/\_):=fun w hb=>⟨HD.later hb,HL.later hb⟩;have m1:=mkr y hs;have m2:=mkr y hd;have HG:Hid _:=GF;have HB:Hid (∀w:World,Below _ _ w->15<=C pc/\C pc<=24->_):=fun w hb hc=>BF w E es y pc (HD.later hb) (HL.later hb) hy hpc hc.1 hc.2;simp only[ss,Int.toNat_natCast]at HB;clear GF BF HD HL hf;generalize C pc=c at*;generalize R pc=r at*;generalize O pc=o at*;generalize N pc=n at*;have hz0:(W.setCell ⟨Bl,1,none⟩ (I J (f:Int))).heap.size=W.heap.size:=by simp
 have HV:Hid (Kp Bl E W (W.setCell ⟨Bl,1,none⟩ (I J (f:Int)))):=zYl;go_in
 go_upto_region 2 with fail
 refine gnl (W:=W.setCell ⟨Bl,1,none⟩ (I J (f:Int))) kMm ?_;generalize W.setCell ⟨Bl,1,none⟩ (I J (f:Int))=V at*;clear F;intro w1 hM;simp[hz0]at hM;have F:=hM.x;have G:=HS.out w1 hM.b;simp only[Mx]at F;go_upto_region 7 with(go_at_call 45;refine cR (zAi _ _) ?_;intro w2 hb;have hM:=Mm.later (W:=V) kMm hb)
 have b1:W.heap.size+1<w1.heap.size:=F.2.2.1;have b2:w1.heap.size<w2.heap.size:=hM.lt mcS;refine gnl (W:=V) kMm ?_;have ne:=dis4 b1 b2;generalize w1.heap.size=B7 at*;generalize w2.heap.size=B9 at*;clear hM F G;intro w3 hM;have F:=hM.x;have G:=HS.out w3 hM.b;simp only[Mx]at F;obtain⟨z,hz⟩: ∃z,y.second s r n=z:=⟨_,rfl⟩;go_upto_if 41 with fail
 go_cut [42] (fun _ wx=>Mm V [(B9, #[.int .u8 (kdg z.k),I J z.l,I J z.h],146),(B7, #[I J c,I J d,I J s,.bool r,I J o,I J n],121),(W.heap.size+1, #[I J 0,I J 0],75),(W.heap.size,z0h y,148)] wx)
 case first=>
  subst hz
  cases r
  ·go_wp2_with fail
   go_meet;exact hM
  ·go_wp2_with fail
   go_meet;refine Mm.as (kMm (W:=V)) ?_;simp[mput,ne,Way.second]
 clear hM F G;have hM:=hcut;have F:=hM.x;have G:=HS.out wc hM.b;simp only[Mx]at F;go_upto_block 0 with fail
 go_cut [8,10,11,12,13,14] (fun e nx _ _ _ _ wx=> ∃er o' y',e=I J er/\nx=I J ((pc:Int)+1+o')/\Mm V [(W.heap.size+1, #[I J 0,I J 0],75),(W.heap.size,z0h y',148)] wx/\Hid ((er≠0/\(y.look c d s r o n).2=er)\/(er=0/\y.look c d s r o n=([(o',y')],0))))
 case first=>first|exact kLc|exact kLo
 as_aux_lemma=>
  obtain⟨er,o',y',rfl,rfl,hM,hl⟩:=hcut;have F:=hM.x;simp only[Mx]at F;rcases hl.out with⟨h0,h1⟩|⟨h0,h1⟩
  ·have x0:(er !=0)=true:=by simpa using h0
   clear hl;go_wp2_with fail;exact bodyPost_ret (by simp[results,Tryz.results46,go_sem, *];try rfl) rfl (GoQ.no (z5s (HV.out.trans (Kp.of hM.b) z4h.refl) kO) x0 (fun st=>by rw[HK.out,if_pos (by rw[h1];exact h0),h1]))
  ·subst h0
   have hz1:=List.mem_singleton.mpr (rfl:(o',y')=(o',y'));have ho:=zAu (y:=y) (c:=c) (d:=d) (s:=s) (r:=r) (o:=o) (n:=n) (o',y') (by rw[h1];exact hz1);have hok:y'.Ok:=zJ2 hy rt.c1 rt.c2 hd hs iO iN (o',y') (by rw[h1];exact hz1)
   have hq:0<=o'/\pc+1+o'.toNat<len:=by
    rcases ho.2 with e|⟨e,h⟩
    ·have:=rt.last ho.1;dsimp only at e;omega
    ·have:=rt.lead h;dsimp only at e;omega
   have hg:=HG.out wc E es y' (pc+1+o'.toNat) (HDL.out _ hM.b).1 (HDL.out _ hM.b).2 hok hq.2;have hst:Hid _:=fun st=>(HK.out st).trans (by rw[h1,if_neg kS,if_neg ho.1]);rw[show((pc+1+o'.toNat:Nat):Int)=(pc:Int)+1+o' by omega]at hg;clear hl;go_upto_region 56 with fail
   go_step;refine kGv ?_
   (refine wpList_load_row rfl 148 (.tmp 4) rfl W.heap.size rfl 148 (z0h y') (0,0) _ (hM.row kMe) Tryz.underlying148 rfl (z4l _) ?_)
   simp only[pS];refine kGv ?_;refine z0w rfl 46 _ kG hg ?_;exact kGe):P:=h
theorem zYp:GsT fun c _=> ¬c=27:=by exact kGx
theorem zYq:GsT fun c n=>c=27/\(n=1\/n=2\/n=3):=by exact kGx
theorem zEq{C D S:Nat->Int}{R:Nat->Bool}{O N:Nat->Int}{bk off len cap Bl base:Nat}(hlen:len<=200)(hr: ∀i,i<len->z9f (C i) (D i) (S i) (R i) (O i) (N i) len i)(hf: ∀i,i<len->In64 (O i)/\In64 (N i)): ∀F f,f<=F->zHg C D S R O N bk off len cap Bl base f
 |0,0,_=>zRc
 |F+1,f,h=>by
  by_cases e:f=F+1
  ·subst e
   have ih:=zEq (bk:=bk) (off:=off) (cap:=cap) (Bl:=Bl) (base:=base) hlen hr hf F;intro W E es y pc hD hL hy hpc;have GF:=ih F (Nat.le_refl _);have BF:=zW1 hlen hr hf ih
   by_cases c:C pc=27
   ·exact zYq C D S R O N bk off len cap Bl base F hlen hr hf GF BF W E es y pc hD hL hy hpc ⟨c,(hr pc hpc).call c⟩
   ·exact zYp C D S R O N bk off len cap Bl base F hlen hr hf GF BF W E es y pc hD hL hy hpc c
  ·exact zEq hlen hr hf F f kO
def ptrs(zs:List Zp):List Value:=zs.map fun z=> pT (some ⟨z.1,0,none⟩)
structure ChAt (w:World) (base c:Nat) (v:Value) (last:Int) (zs:List Zp):Prop where
 box:w.heap[c]?=some (cT #[v,I J last] 52 (0,0))
 row:w.ownsRow base 60 1 v zs.length (ptrs zs)
 pgs: ∀z,z∈zs->w.heap[z.1]?=some (cT (pgCs z.2) 59 (0,0))
theorem ChAt.on{w w':World}{base c:Nat}{v:Value}{last:Int}{zs:List Zp}(h:ChAt w base c v last zs)(hs:w.heap.size<=w'.heap.size)(hb: ∀k,k<w.heap.size->(k=c\/some k=v.ownBlock\/ ∃z,z∈zs/\z.1=k)->w'.heap[k]?=w.heap[k]?):ChAt w' base c v last zs:=by
 refine⟨(hb c (Array.getElem?_eq_some_iff.1 h.box).1 (.inl rfl)).trans h.box,⟨h.row.1,h.row.2.imp id fun⟨g,cap,cur,e1,e2,e3,e4⟩=>⟨g,cap,cur,e1,e2,(hb g (Array.getElem?_eq_some_iff.1 e3).1 (.inr (.inl (by rw[e1];rfl)))).trans e3,e4⟩⟩,fun z hz=>(hb z.1 (Array.getElem?_eq_some_iff.1 (h.pgs z hz)).1 (.inr (.inr ⟨z,hz,rfl⟩))).trans (h.pgs z hz)⟩
theorem ChAt.later{w w':World}{base c:Nat}{v:Value}{last:Int}{zs:List Zp}(h:ChAt w base c v last zs)(hb:Below w.heap.size w w'):ChAt w' base c v last zs:=h.on hb.size fun k hk _=>hb.block k hk
theorem z7q(p:Pg):(pgCs p)[0]?=some (I J p.id)/\(pgCs p)[1]?=some (I J p.rank)/\(pgCs p)[2]?=some p.sl:=⟨rfl,rfl,rfl⟩
theorem ChAt.see{w:World}{base c g cap:Nat}{last:Int}{zs:List Zp}(h:ChAt w base c (.slice (some ⟨g,0,none⟩) zs.length cap) last zs){j:Nat}(hj:j<zs.length): ∃z,Hid (zs.getD j z0=z/\z∈zs/\zs.take (j+1)=zs.take j++[z])/\w.cell? ⟨g,j,none⟩=some (pT (some ⟨z.1,0,none⟩))/\(w.cell? ⟨z.1,0,none⟩=some (I J z.2.id)/\w.cell? ⟨z.1,1,none⟩=some (I J z.2.rank)/\w.cell? ⟨z.1,2,none⟩=some z.2.sl)/\z.1<w.heap.size/\g<w.heap.size:=by
 have e:zs[j]?=some zs[j]:=List.getElem?_eq_getElem hj;have hp:=h.pgs zs[j] (List.getElem_mem hj);have hc:=World.ownsRow.cells h.row (g:=g) rfl j (pT (some ⟨(zs[j]).1,0,none⟩)) (by rw[ptrs,List.getElem?_map,e];rfl);rw[Addr.add_mid,Nat.zero_add]at hc;refine⟨zs[j],⟨by rw[List.getD_eq_getElem?_getD,e];rfl,List.getElem_mem hj,by rw[List.take_add_one,e];rfl⟩,hc,?_,(Array.getElem?_eq_some_iff.1 hp).1,(World.ownsRow.lt h.row g rfl).2⟩;obtain⟨c0,c1,c2⟩:=z7q (zs[j]).2;exact⟨(cell_of_row _ _ 0 _ _ _ hp).trans c0,(cell_of_row _ _ 1 _ _ _ hp).trans c1,(cell_of_row _ _ 2 _ _ _ hp).trans c2⟩
def ofP(zs:List Zp)(id:Int):Value:=match zs.find? fun z=>z.2.id==id with
 |some z=> pT (some ⟨z.1,0,none⟩)
 |none=> pT none
theorem zUb{zs:List Zp}{id:Int}{j:Nat}{z:Zp}(h: ∀x,x∈zs.take j->(x.2.id==id)=false)(hz:zs.take (j+1)=zs.take j++[z])(he:(z.2.id==id)=true):ofP zs id= pT (some ⟨z.1,0,none⟩):=by
 have e:zs=zs.take j++z::zs.drop (j+1):=by
  conv=>lhs;rw[<-List.take_append_drop (j+1) zs,hz]
  simp
 rw[ofP,e,List.find?_append,List.find?_eq_none.2 (fun x hx=>by rw[h x hx];decide),Option.none_or,List.find?_cons,he]
theorem zUc{zs:List Zp}{id:Int}(h: ∀x,x∈zs->(x.2.id==id)=false):ofP zs id= pT none:=by
 rw[ofP,List.find?_eq_none.2 (fun x hx=>by rw[h x hx];decide)]
theorem zWo {w : World} {base c : Nat} {v : Value} {last : Int} {zs : List Zp} (h : ChAt w base c v last zs) (h8 : zs.length <= 8) (id : Int) : zS 36 #[pT (some ⟨c, 0, none⟩), I J id] w (ofP zs id) := by
  have F := (Mm.cons (Mm.start w) h.box).x;simp only [Mx] at F;have HS := rowShape h.row;obtain ⟨n, hn⟩ : ∃ n, Hid (zs.length = n) := ⟨_, rfl⟩;rw [hn.out] at HS h8;unfold zS;rcases HS with ⟨rfl, e0⟩ | ⟨g, cp, rfl⟩
  all_goals
    have n0 : (0 : Int) <= (n : Int) := kO;replace h : Hid _ := h
    go_in
    go_wp2_with fail;go_loopw [12] (fun jv wr => ∃ j : Nat, jv = I J j /\ j <= n /\ Hid (wr = w /\ ∀ x, x ∈ zs.take j -> (x.2.id == id) = false)) (fun jv _ => n - (intOf jv).toNat)
    case atStart => exact ⟨0, rfl, kO, rfl, by simp⟩
    case round =>
      obtain ⟨j, rfl, hj, HQ⟩ := hrel;obtain rfl := HQ.out.1;have j0 : (0 : Int) <= (j : Int) := kO
      by_cases hlt : j < n
      · first
          | (exfalso; omega)
          | (have j1 : (j : Int) < (n : Int) := kO
             have h1 := h.out;rw [<- hn.out] at h1;obtain ⟨z, hz, S⟩ := h1.see (j := j) (by rw [hn.out]; exact hlt);clear h1;rcases dce z.2.id id with ⟨he, ht⟩ | ⟨he, ht⟩
             · go_wp2_with fail
               go_ret;exact ⟨by rw [zUb HQ.out.2 hz.out.2.2 (by simpa using he.out)]; rfl, rfl⟩
             · go_wp2_with fail
               go_roundw
               case rel => exact ⟨j + 1, by go_num, kO, by trivial, fun x hx => by rw [hz.out.2.2] at hx; rcases List.mem_append.1 hx with hx | hx; exact HQ.out.2 x hx; rw [List.mem_singleton.1 hx]; exact ht⟩
               case measure => simp [intOf]; omega)
      · have j1 : decide ((j : Int) < (n : Int)) = false := kZ
        go_wp2_with fail;go_ret;exact ⟨by rw [zUc fun x hx => HQ.out.2 x (by rw [List.take_of_length_le (by rw [hn.out]; omega)]; exact hx)]; rfl, rfl⟩
theorem Tryz.infoPp:(Tryz.prog.info? 60).map (fun i=>(i.zero,i.size,i.bytes))=some (some (pT none),1,8):=kR
def Rw1(w:World)(u:Value)(xs:List Zp)(wr:World):Prop:=Below w.heap.size w wr/\wr.ownsRow w.heap.size 60 1 u xs.length (ptrs xs)
theorem Rw1.later{w wr wr':World}{u:Value}{xs:List Zp}(h:Rw1 w u xs wr)(hb:Below wr.heap.size wr wr'):Rw1 w u xs wr':=⟨h.1.trans (hb.mono h.1.size),z8m h.2 hb⟩
def Tk(w w':World):Prop:=w.heap.size<=w'.heap.size/\ ∀(k:Nat) cs t fz,w.heap[k]?=some (Obj.cells cs t fz)->t≠60->w'.heap[k]?=w.heap[k]?
theorem zKu{w wr:World}{u:Value}{xs:List Zp}(z:Zp)(h:Rw1 w u xs wr)(h8:xs.length<=8): ∃v' w',(Builtin.append_ #[50,50] 50 #[u,.slice (some ⟨wr.heap.size,0,none⟩) 1 1]).run tP (wr.alloc (cT #[pT (some ⟨z.1,0,none⟩)] 60))= .ok v' w'/\Rw1 w v' (xs++[z]) w'/\Tk wr w':=by
 obtain⟨i0,hi0,hz0,hz1,hz2⟩:=info_parts Tryz.infoPp;have hw:=h.later ((bF wr.heap.size wr).alloc (Nat.le_refl _) (cT #[pT (some ⟨z.1,0,none⟩)] 60));obtain⟨v8,w8,hr8,ho8,hg8, -, -⟩:=run_append_own_at (P:=tP) (wr.alloc (cT #[pT (some ⟨z.1,0,none⟩)] 60)) w.heap.size 50 50 60 i0 _ 1 8 Tryz.underlying50 hi0 hz0 hz1 hz2 rfl kD u xs.length (ptrs xs) hw.2 ⟨wr.heap.size,0,none⟩ 1 1 [pT (some ⟨z.1,0,none⟩)] rfl (z4y wr #[pT (some ⟨z.1,0,none⟩)] 60) (by intro u hu;rw[List.mem_singleton.1 hu];rfl) (by unfold maxLen;omega) kO hw.1.size;refine⟨v8,w8,hr8,⟨⟨hg8.os.trans hw.1.os,hg8.tape.trans hw.1.tape,hg8.output.trans hw.1.output,Nat.le_trans hw.1.size hg8.size,fun b hb=>(hg8.block b (Nat.lt_of_lt_of_le hb hw.1.size) fun e=>by have:=(World.ownsRow.lt hw.2 b e.symm).1;omega).trans (hw.1.block b hb)⟩,?_⟩,by have:=hg8.size;simp at this;omega,fun k cs t fz hk ht=>?_⟩
 ·have e:ptrs (xs++[z])=ptrs xs++[pT (some ⟨z.1,0,none⟩)]:=by simp[ptrs]
  rw[e,List.length_append];exact ho8
 have hl:=(Array.getElem?_eq_some_iff.1 hk).1;refine(hg8.block k kZ fun e=>?_).trans (heap_alloc_old _ _ hl);rcases h.2.2 with⟨rfl, -⟩|⟨g,c,cur,rfl, -,hg, -⟩
 ·cases e
 cases e;rw[hk]at hg;injection hg with hg
 injection hg with _ hg
 exact ht hg
theorem z6q{w wr:World}{ops:Array Oper}{rest:List Oper}{o1 o2:Oper}{a:Act}{Q:Exit->Act->World->Prop}{u:Value}{xs:List Zp}{z:Zp}{x y:Operand}{d:Nat}(h:Rw1 w u xs wr)(h8:xs.length<=8)(g1:o1.guard=none)(g2:o2.guard=none)(h1:o1.op= .buildSlice 50 1 #[(0,x)])(hd:o1.dst=some d)(h2:o2.op= .call {callee:= .builtin .append,args:=#[y,.tmp d],argTypes:=#[50,50]})
  (hx:a.eval x= pT (some ⟨z.1,0,none⟩))(hy:(a.put (some d) (.slice (some ⟨wr.heap.size,0,none⟩) 1 1)).eval y=u)(hz:(a.put (some d) (.slice (some ⟨wr.heap.size,0,none⟩) 1 1)).eval (.tmp d)= .slice (some ⟨wr.heap.size,0,none⟩) 1 1)(H: ∀u' w',Rw1 w u' (xs++[z]) w'->Tk wr w'->wpList tP ops Q rest ((a.put (some d) (.slice (some ⟨wr.heap.size,0,none⟩) 1 1)).put o2.dst u') w'):wpList tP ops Q (o1::o2::rest) a wr:=by
 obtain⟨i0,hi0,hz0,hz1,hz2⟩:=info_parts Tryz.infoPp;refine wpList_buildSlice g1 50 60 1 #[(0,x)] h1 #[pT (some ⟨z.1,0,none⟩)] i0 _ Tryz.underlying50 hi0 hz0 (by rw[hz1];omega) (by rw[hz1];omega) (by rw[hz1];simp[hx];kernel_rfl) ?_;rw[hd];obtain⟨v',w',hr,hR,hT⟩:=zKu z h h8;exact z00 g2 v' w' (z3s _ _ _ _ _ _ _ _ h2 hy hz hr) (H v' w' hR hT)
end
section
open Go.ChangeShapes Go.WideShapes Go.ChangeAt Go.RowKit
set_option maxHeartbeats 40000000
set_option maxRecDepth 1000000
attribute [local simp] dwS z04
def KpS(S:List Nat)(w w':World):Prop:=Below 0 w w'/\ ∀k,k<w.heap.size->k∉S->w'.heap[k]?=w.heap[k]?
theorem KpS.of{S:List Nat}{w w':World}(h:Below w.heap.size w w'):KpS S w w':=⟨h.mono (Nat.zero_le _),fun k hk _=>h.block k hk⟩
theorem KpS.trans{S:List Nat}{w w' w'':World}(h:KpS S w w')(h':KpS S w' w''):KpS S w w'':=⟨h.1.trans h'.1,fun k hk hn=>(h'.2 k (Nat.lt_of_lt_of_le hk h.1.size) hn).trans (h.2 k hk hn)⟩
theorem KpS.set{S:List Nat}{w w':World}{c i:Nat}{x:Value}(h:KpS S w w')(hc:c∈S):KpS S w (w'.setCell ⟨c,i,none⟩ x):=⟨h.1.setCell (Nat.zero_le _) _,fun k hk hn=>(heap_setCell_other _ _ _ _ (fun e=>hn (by rw[show k=c from e];exact hc))).trans (h.2 k hk hn)⟩
theorem ofP_cases(zs:List Zp)(id:Int):(ofP zs id= pT none/\ ∀x,x∈zs->(x.2.id==id)=false)\/ ∃z,ofP zs id= pT (some ⟨z.1,0,none⟩)/\z∈zs/\z.2.id=id:=by
 unfold ofP
 cases e:zs.find? fun z=>z.2.id==id with
 |none=>exact .inl ⟨rfl,fun x hx=>by simpa using List.find?_eq_none.1 e x hx⟩
 |some z=>exact .inr ⟨z,rfl,List.mem_of_find?_eq_some e,by simpa using List.find?_some e⟩
theorem z28{w:World}{a b:Nat}{x y:Array Value}{s t:TypeId}(h1:w.heap[a]?=some (cT x s (0,0)))(h2:w.heap[b]?=some (cT y t (0,0)))(h:s≠t):a≠b:=fun e=>by
 rw[e,h2]at h1;injection h1 with h1
 injection h1 with _ h1
 exact h h1.symm
theorem ChAt.put{w wr:World}{base c:Nat}{v u:Value}{last:Int}{zs ys:List Zp}(h:ChAt w base c v last zs)(hb:base<=w.heap.size)(hR:Rw1 w u ys wr)(hy: ∀z,z∈ys->wr.heap[z.1]?=some (cT (pgCs z.2) 59 (0,0))):ChAt (wr.setCell ⟨c,0,none⟩ u) base c u last ys/\KpS [c] w (wr.setCell ⟨c,0,none⟩ u):=by
 have hc:=h.later hR.1;refine⟨⟨heap_setCell_same wr c 0 _ _ _ hc.box,⟨hR.2.1,hR.2.2.imp id fun⟨g,cap,cur,e1,e2,e3,e4⟩=>⟨g,cap,cur,e1,by omega,(heap_setCell_other _ _ _ _ (z28 e3 hc.box kD)).trans e3,e4⟩⟩,fun z hz=>(heap_setCell_other _ _ _ _ (z28 (hy z hz) hc.box kD)).trans (hy z hz)⟩,(KpS.of hR.1).set kS⟩
theorem KpS.new{S:List Nat}{w w':World}{c i:Nat}{x:Value}(h:KpS S w w')(hc:w.heap.size<=c):KpS S w (w'.setCell ⟨c,i,none⟩ x):=⟨h.1.setCell (Nat.zero_le _) _,fun k hk hn=>(heap_setCell_other _ _ _ _ (show k≠c by omega)).trans (h.2 k hk hn)⟩
theorem ChAt.fault{w:World}{base c f i:Nat}{v x:Value}{last:Int}{zs:List Zp}{cs:Array Value}(h:ChAt w base c v last zs)(hf:w.heap[f]?=some (cT cs 75 (0,0))):ChAt (w.setCell ⟨f,i,none⟩ x) base c v last zs:=
 ⟨(heap_setCell_other _ _ _ _ (z28 h.box hf kD)).trans h.box,⟨h.row.1,h.row.2.imp id fun⟨g,cap,cur,e1,e2,e3,e4⟩=>⟨g,cap,cur,e1,e2,(heap_setCell_other _ _ _ _ (z28 e3 hf kD)).trans e3,e4⟩⟩,fun z hz=>(heap_setCell_other _ _ _ _ (z28 (h.pgs z hz) hf kD)).trans (h.pgs z hz)⟩
abbrev z9e(id:Int)(zs:List Zp):List Zp:=zs.filter fun z=>z.2.id !=id
theorem zN2{w:World}{base c:Nat}{v:Value}{last:Int}{zs:List Zp}(h:ChAt w base c v last zs)(hb:base<=w.heap.size)(h8:zs.length<=8)(id:Int):Calls tP 19 #[pT (some ⟨c,0,none⟩),I J id] w fun e w'=>((∀x,x∈zs->(x.2.id==id)=false)/\e= rT (I J 7)/\w'=w)\/((∃z,z∈zs/\z.2.id=id)/\e= rT (I J 0)/\ ∃v',ChAt w' base c v' last (z9e id zs)/\KpS [c] w w'):=by
 have HO:=zWo h h8 id;have F:=(Mm.cons (Mm.start w) h.box).x;simp only[Mx]at F;have HS:=rowShape h.row;obtain⟨n,hn⟩: ∃n,Hid (zs.length=n):=⟨_,rfl⟩;rw[hn.out]at HS h8;rcases ofP_cases zs id with⟨e,he⟩|⟨z,e,hz,he⟩
 ·rw[e]at HO
  replace he:Hid _:=he
  go_in
  go_wp2_with(go_at_call 36;refine cS HO ?_);go_ret;exact .inl ⟨he.out,rfl,rfl⟩
 rw[e]at HO;have HE:Hid (∃z,z∈zs/\z.2.id=id):=⟨z,hz,he⟩;clear e hz he;rcases HS with⟨rfl,e0⟩|⟨g,cp,rfl⟩
 ·obtain⟨z,hz, -⟩:=HE.out
  rw[List.eq_nil_of_length_eq_zero (hn.out.trans e0)]at hz;exact absurd hz List.not_mem_nil
 have n0:(0:Int)<=(n:Int):=kO;replace h:Hid _:=h
 have HR:Hid (Rw1 w (.slice none 0 0) (z9e id (zs.take 0)) w):=⟨bF _ _,World.ownsRow_nil _ _ _ _⟩;go_in
 go_wp2_with(go_at_call 36;refine cS HO ?_);go_loopw [5,17] (fun u jv wr=> ∃j:Nat,jv=I J j/\j<=n/\Hid (Rw1 w u (z9e id (zs.take j)) wr)) (fun _ jv _=>n-(intOf jv).toNat)
 case atStart=>exact⟨0,rfl,kO,HR⟩
 case round=>
  clear HR HO;obtain⟨j,rfl,hj,HQ⟩:=hrel;have j0:(0:Int)<=(j:Int):=kO
  by_cases hlt:j<n
  ·have j1:(j:Int)<(n:Int):=kO
   have h1:=h.out.later HQ.out.1;rw[<-hn.out]at h1;obtain⟨y,hy,S⟩:=h1.see (j:=j) (by rw[hn.out];exact hlt);clear h1 F;rcases dce y.2.id id with⟨he,ht⟩|⟨he,ht⟩
   ·have ht:(y.2.id !=id)=false:=by simpa using he.out
    go_wp2_with fail;go_roundw
    case rel=>exact⟨j+1,by go_num,kO,by rw[show z9e id (zs.take (j+1))=z9e id (zs.take j)by rw[hy.out.2.2,z9e,List.filter_append];simp[ht]];exact HQ⟩
    case measure=>simp[intOf];omega
   ·have ht:(y.2.id !=id)=true:=by simpa using he.out
    go_upto_region 8 with fail
    go_step;refine kGv ?_;refine kGv ?_;refine z6q (z:=y) HQ.out (Nat.le_trans (List.length_filter_le _ _) (by rw[List.length_take];omega)) rfl rfl rfl rfl rfl rfl rfl rfl ?_;intro u' w' hR _;simp only[pS];replace hR:Hid (Rw1 w u' (z9e id (zs.take j)++[y]) w'):=hR
    clear S;go_wp2_with fail;go_roundw
    case rel=>exact⟨j+1,by go_num,kO,by rw[show z9e id (zs.take (j+1))=z9e id (zs.take j)++[y]by rw[hy.out.2.2,z9e,List.filter_append];simp[ht]];exact hR⟩
    case measure=>simp[intOf];omega
  ·have j1:decide ((j:Int)<(n:Int))=false:=kZ
   have hq:=HQ.out;rw[List.take_of_length_le (by rw[hn.out];omega)]at hq;obtain⟨qa,qc,rfl⟩:=z3d hq.2;have HP:Hid _:=h.out.put hb hq fun z hz=>(h.out.later hq.1).pgs z (List.mem_filter.1 hz).1;have F:=(Mm.cons (Mm.start wr) (h.out.later hq.1).box).x;simp only[Mx]at F;clear hq;go_wp2_with fail;go_ret;exact .inr ⟨HE.out,rfl,_,HP.out⟩
end
end Go.Proofs.YtabjjgkmegcacaaGreatDoor
