/-
A part of the proof of HookPlays; its card says what is proved.
-/
import Derived.Test.YtabjjgkmegcacaaGreatDoorJq8
import Derived.Laws.AppendOwnNone
set_option maxHeartbeats 40000000
open Go.Value renaming int → A
open Go.IntKind renaming i64 → E
open Go.RowKit.Below renaming alloc → bA, setCell → bS, drew → bD, refl → bF
set_option maxRecDepth 1000000
set_option linter.defProp false
set_option linter.unusedVariables false
set_option linter.unusedSimpArgs false
open Go.Ending renaming returned → rT
open Go.Value renaming pointer → pT
open Go.Obj renaming cells → cT
open Go.Proofs.Tryz renaming prog → tP
open List renaming take_succ_cons → lQ, take_zero → lX, drop_succ_cons → lY, drop_zero → lZ, length_nil → lJ, length_cons → lV
namespace Go.Proofs.YtabjjgkmegcacaaGreatDoor
section
open Go.ChangeShapes Go.WideShapes Go.ChangeAt Go.RowKit
attribute [local simp] z0p z0j z04
theorem z82(B k:Nat)(hk:k<3)(w:World):zS 28 #[pT (some ⟨B,0,none⟩),A E (k:Int)] w (.tuple #[pT (some ⟨B,k*317,none⟩),.nilIface]):=by
 have z1:decide ((k:Int)<0)=false:=decide_eq_false kO;have z2:decide (3<=(k:Int))=false:=decide_eq_false kO;have h0:(0:Int)<=(k:Int):=kO;have h1:(k:Int)<3:=kO;go_enter Tryz.func28,Tryz.ntmps28;go_wp2;exact bodyPost_ret (v:= .tuple #[pT (some ⟨B,k*317,none⟩),.nilIface]) (by simp[results,Tryz.results28,go_sem, *]) rfl ⟨rfl,rfl⟩
theorem zGv(B k:Nat)(hk:k<3)(w:World):zS 8 #[pT (some ⟨B,0,none⟩),A E (k:Int)] w (.tuple #[pT (some ⟨B,k*317,none⟩),.nilIface]):=by
 go_enter Tryz.func8,Tryz.ntmps8
 go_wp2_with(first
  |(go_at_call 28;refine(z82 B k hk _).mono ?_;rintro e w1 ⟨rfl,rfl⟩)
  |fail)
 exact bodyPost_ret (v:= .tuple #[pT (some ⟨B,k*317,none⟩),.nilIface]) (by simp[results,Tryz.results8,go_sem, *]) rfl ⟨rfl,rfl⟩
theorem zR7(B k:Nat)(hk:k<3)(d:Dsk)(w:World)(hD:z0d w B d):zS 9 #[pT (some ⟨B,0,none⟩),A E (k:Int)] w (A E ((d.g k).evs.length:Int)):=by
 have c0:w.cell? ⟨B,k*317+314,none⟩=some (A E ((d.g k).evs.length:Int)):=hD.gate hk kD;go_enter Tryz.func9,Tryz.ntmps9
 go_wp2_with(first
  |(go_at_call 28;refine(z82 B k hk _).mono ?_;rintro e w1 ⟨rfl,rfl⟩)
  |fail)
 go_ret;exact⟨rfl,rfl⟩
theorem zV9(B k:Nat)(hk:k<3)(d:Dsk)(w:World)(hD:z0d w B d):zS 10 #[pT (some ⟨B,0,none⟩),A E (k:Int)] w (A E (d.g k).left):=by
 have c0:w.cell? ⟨B,k*317+316,none⟩=some (A E (d.g k).left):=hD.gate hk kD;go_enter Tryz.func10,Tryz.ntmps10
 go_wp2_with(first
  |(go_at_call 28;refine(z82 B k hk _).mono ?_;rintro e w1 ⟨rfl,rfl⟩)
  |fail)
 go_ret;exact⟨rfl,rfl⟩
def z06(T:Nat->Int):Array Value:=#[A E (T 0),A E (T 1),A E (T 2),A E (T 3),A E (T 4),A E (T 5),A E (T 6),A E (T 7)]
theorem zAc(T:Nat->Int):(z06 T).size=8:=rfl
theorem zCg(T:Nat->Int){j:Nat}(hj:j<8):(z06 T).toList.getD j undef=A E (T j):=by
 rcases(show j=0\/j=1\/j=2\/j=3\/j=4\/j=5\/j=6\/j=7 by omega)with rfl|rfl|rfl|rfl|rfl|rfl|rfl|rfl<;>rfl
theorem z8j(T:Nat->Int):(z06 T).all (·.oneCell')=true:=kR
theorem zR6(T:Nat->Int):(Tryz.prog.info? 34).map (·.size)=some (z06 T).size:=by rw[zAc];kernel_rfl
theorem z5a{o:Oper}{u:Act}{x:Operand}{W:World}{g:Nat}{T:Nat->Int}(hW:W.heap[g]?=some (cT (z06 T) 34 (0,0)))(ho:o.op= .load 34 x)(hx:u.eval x= pT (some ⟨g,0,none⟩)):(execOp u.eval o).run tP W= .ok (.value (.agg (z06 T))) W:=by
 have hl:=run_loadVar_row (P:=tP) W g 34 34 (z06 T) (0,0) _ hW Tryz.underlying34 rfl (zR6 T);unfold execOp;simp only[ho,hx,Instr.loadAt,Instr.sureAddr,Sem.run_bind,Sem.run_pure,Result.andThen_ok,hl]
theorem zRd{α:Type}(l:List α)(x z:α)(i:Nat):(l++[x]).getD i z=if i=l.length then x else l.getD i z:=by
 rw[List.getD_eq_getElem?_getD,List.getD_eq_getElem?_getD]
 by_cases h:i=l.length
 ·rw[if_pos h,h,List.getElem?_append_right (Nat.le_refl _),Nat.sub_self];rfl
 rw[if_neg h];rcases Nat.lt_or_ge i l.length with g|g
 ·rw[List.getElem?_append_left g]
 rw[List.getElem?_eq_none (by rw[List.length_append,List.length_singleton];omega),List.getElem?_eq_none g]
theorem zJk(evs:List (Nat->Int))(T:Nat->Int)(i:Nat):z51 (evs++[T]) i=if evs.length*8<=i/\i<evs.length*8+8 then A E (T (i-evs.length*8))else z51 evs i:=by
 unfold z51;rw[zRd]
 by_cases h:i/8=evs.length
 ·rw[if_pos h,if_pos kO,show i%8=i-evs.length*8 by omega]
 rw[if_neg h,if_neg kO]
theorem zC5(g:Gt)(T:Nat->Int){n:Nat}(hn:g.evs.length=n)(h20:n<20)(i:Nat):z17 {g with evs:=g.evs++[T]} i=if i=314 then A E ((n+1:Nat):Int)else if 154+n*8<=i/\i<154+n*8+8 then A E (T (i-(154+n*8)))else z17 g i:=by
 subst hn;unfold z17;dsimp only
 by_cases c1:i<154
 ·rw[if_pos c1,if_pos c1,if_neg (show¬i=314 by omega),if_neg (show¬(154+g.evs.length*8<=i/\i<154+g.evs.length*8+8)by omega)]
 rw[if_neg c1,if_neg c1]
 by_cases c2:i<314
 ·rw[if_pos c2,if_pos c2,if_neg (show¬i=314 by omega),zJk]
  by_cases c3:154+g.evs.length*8<=i/\i<154+g.evs.length*8+8
  ·rw[if_pos c3,if_pos kO,show i-154-g.evs.length*8=i-(154+g.evs.length*8)by omega]
  ·rw[if_neg c3,if_neg kO]
 rw[if_neg c2,if_neg c2]
 by_cases c3:i=314
 ·rw[if_pos c3,if_pos c3,List.length_append,List.length_singleton]
 rw[if_neg c3,if_neg c3,if_neg c3]
 by_cases c4:i=315
 ·rw[if_pos c4,if_neg (show¬(154+g.evs.length*8<=i/\i<154+g.evs.length*8+8)by omega)]
 rw[if_neg c4,if_neg (show¬(154+g.evs.length*8<=i/\i<154+g.evs.length*8+8)by omega)]
theorem zOu(d:Dsk){k n:Nat}(T:Nat->Int)(hk:k<3)(hn:(d.g k).evs.length=n)(h20:n<20)(j:Nat)(_:j<952):
  (d.put k {d.g k with evs:=(d.g k).evs++[T]}).cell j=if j=k*317+314 then A E ((n+1:Nat):Int)else if k*317+154+n*8<=j/\j<k*317+154+n*8+(z06 T).toList.length then(z06 T).toList.getD (j-(k*317+154+n*8)) undef else d.cell j:=by
 have hl:(z06 T).toList.length=8:=rfl;rw[hl,z4p d _ hk]
 by_cases c:k*317<=j/\j<k*317+317
 ·rw[if_pos c]
  obtain⟨i,rfl⟩: ∃i,j=k*317+i:=⟨j-k*317,by omega⟩;rw[Nat.add_sub_cancel_left,z1w d hk kO,zC5 _ T hn h20]
  by_cases c1:i=314
  ·rw[if_pos c1,if_pos (show k*317+i=k*317+314 by omega)]
  rw[if_neg c1,if_neg (show¬k*317+i=k*317+314 by omega)]
  by_cases c2:154+n*8<=i/\i<154+n*8+8
  ·have e:k*317+i-(k*317+154+n*8)=i-(154+n*8):=kO
   rw[if_pos c2,if_pos (show k*317+154+n*8<=k*317+i/\k*317+i<k*317+154+n*8+8 by omega),e,zCg T kO]
  ·rw[if_neg c2,if_neg (show¬(k*317+154+n*8<=k*317+i/\k*317+i<k*317+154+n*8+8)by omega)]
 rw[if_neg c,if_neg (show¬j=k*317+314 by omega),if_neg (show¬(k*317+154+n*8<=j/\j<k*317+154+n*8+8)by omega)]
theorem zRb(B k n:Nat)(hk:k<3)(d:Dsk)(T:Nat->Int)(w:World)(hD:z0d w B d)(hn:(d.g k).evs.length=n)(h20:n<20):Calls tP 15 #[pT (some ⟨B,0,none⟩),A E (k:Int),.agg (z06 T)] w fun e w'=>e= rT .nilIface/\Kept B w w'/\z0d w' B (d.put k {d.g k with evs:=(d.g k).evs++[T]}):=by
 have z1:((n:Int)==20)=false:=kZ;have hn0:(0:Int)<=(n:Int):=kO;have hn1:(n:Int)<20:=kO;have e1:IntKind.i64.wrap ((n:Int)+1)=((n+1:Nat):Int):=by rw[IntWalk.i64_left,z08 kO kO];omega
 have hK0:Blk w [(w.heap.size,cT (z06 T) 34 (0,0)),(B,cT (Array.ofFn (n:=952) fun i=>Dsk.cell d i.1) 72 (0,0))] (w.alloc (cT (z06 T) 34)):=((Blk.nil ((bF _ _).alloc (Nat.le_refl _) _)).cons ((heap_alloc_old _ _ hD.lt).trans hD)).cons (heap_alloc_new w _);have hC:=hK0;have hDk:z0d _ B d:=(hC.2 _ (mcO _ mcS));have c0:World.cell? _ ⟨B,k*317+314,none⟩=some (A E (n:Int)):=(hDk.gate hk kD).trans (by rw[<-hn];rfl);have hne:B≠w.heap.size:=by have:=hD.lt;omega
 go_enter Tryz.func15,Tryz.ntmps15
 go_upto_region 6 with(first
  |(go_at_call 28;refine(z82 B k hk _).mono ?_;rintro e w1 ⟨rfl,rfl⟩)
  |fail)
 generalize w.alloc (cT (z06 T) 34)=w0 at hK0 c0 hDk hC⊢;clear c0 hDk hC;refine z0o (C:=Blk w [(w.heap.size,cT (z06 T) 34 (0,0)),(B,cT (Array.ofFn (n:=952) fun i=>Dsk.cell d i.1) 72 (0,0))]) (n0:=w.heap.size) 9 [] [] kR kR (fun d _ _ _ _ h=>by cases d<;>exact h) (Blk.stable _ _) (fun w2 h=>h.1.size) hK0.drew trivial ?_;simp only[lQ,lX,lY,lZ,lJ,Nat.reduceAdd]
 repeat(first
  |(refine z0q kI ?_;simp only[pS])
  |(refine z0c kI (v:= .agg (z06 T)) (fun w2 hC=>z5a (hC.2 _ mcS) rfl rfl) ?_;simp only[pS])
  |(refine z0c kI (v:=?_) ?_ ?_;rotate_left;(intro w2 hC;have hDk:z0d _ B d:=(hC.2 _ (mcO _ mcS));have c0:World.cell? _ ⟨B,k*317+314,none⟩=some (A E (n:Int)):=(hDk.gate hk kD).trans (by rw[<-hn];rfl);go_simp;try with_reducible rfl);simp only[pS]))
 refine z11 ?_;intro w3 hC hB3;have hDk:z0d _ B d:=(hC.2 _ (mcO _ mcS));have c0:World.cell? _ ⟨B,k*317+314,none⟩=some (A E (n:Int)):=(hDk.gate hk kD).trans (by rw[<-hn];rfl);have hth:=hDk.there (o:=k*317+154+n*8) (n:=8) kO;refine wpList_store_mid rfl 34 _ _ rfl B (k*317+154+n*8) (z06 T) kG rfl (by rw[zAc];exact hth) (zR6 T) (z8j T) ?_;simp only[pS];have hF:=FnAt.setCells hDk (z06 T).toList (k*317+154+n*8);have hKp:=z1y (z09 hC.1 B) (k*317+154+n*8) (z06 T).toList;have hl8:(z06 T).toList.length=8:=rfl;have c1:=hF.at (k*317+314) kO;rw[if_neg (by rw[hl8];omega),z1w d hk kD,show z17 (d.g k) 314=A E (n:Int)from by rw[<-hn];rfl]at c1;have cf:=hF.frozen (k*317+314);clear hl8 c0 hDk hC hK0 hth;generalize w3.setCells B (k*317+154+n*8) (z06 T).toList=w4 at hF hKp c1 cf⊢;go_wp2_with fail;go_ret;exact⟨rfl,z0v hKp _ _,FnAt.ext (hF.set (k*317+314) _) fun j hj=>zOu d T hk hn h20 j hj⟩
end
section
open Go.ChangeShapes Go.WideShapes Go.ChangeAt Go.RowKit
theorem z54{P:Program}(w:World)(dT sT ty elem:TypeId)(b o dLen dCap:Nat)(a:Addr)(sLen sCap z:Nat)(cs:List Value)
  (hu:P.underlying dT=some (.slice elem))(hs:(P.info? elem).map (·.size)=some z)(hn:cs.length=Nat.min sLen dLen*z)
  (hsrc: ∀j v,cs[j]?=some v->w.cell? (a.add j)=some v)(hc: ∀j,j<cs.length->(w.cell? ⟨b,o+j,none⟩).isSome=true)(hf: ∀j,j<cs.length->w.frozen? ⟨b,o+j,none⟩=false)(h1: ∀v∈cs,v.oneCell'=true):
  (Builtin.copy_ #[dT,sT] ty #[.slice (some ⟨b,o,none⟩) dLen dCap,.slice (some a) sLen sCap]).run P w= .ok (goInt (Nat.min sLen dLen)) (w.setCells b o cs):=by
 have hl:=run_loadCells_list (P:=P) w a cs hsrc;have hst:=run_storeCells_cells (P:=P) b o cs 0 w (by simpa using hc) (by simpa using hf) h1
 cases hq:P.info? elem with
 |none=>simp[hq]at hs
 |some i=>
  have hi:i.size=z:=by simpa[hq]using hs
  simp[Builtin.copy_,run_underlying hu,Builtin.lenOf,Builtin.firstCells,sizeOf,typeInfo,hq,hi, <-hn,hl,hst]
theorem zF7{P:Program}{o:Oper}{u:Act}(W W':World)(x y:Operand)(dT sT:TypeId)(s1 s2 v:Value)(ho:o.op= .call {callee:= .builtin .copy,args:=#[x,y],argTypes:=#[dT,sT]})(hx:u.eval x=s1)(hy:u.eval y=s2)
  (hr:(Builtin.copy_ #[dT,sT] o.type #[s1,s2]).run P W= .ok v W'):(execOp u.eval o).run P W= .ok (.value v) W':=by
 unfold execOp;simp only[ho,resolve,invoke,builtin,Sem.run_bind,Sem.run_pure,Result.andThen_ok,List.map_toArray,List.map_cons,List.map_nil,hx,hy,hr]
theorem rowShape{w:World}{base n size:Nat}{e:TypeId}{v:Value}{xs:List Value}(h:w.ownsRow base e size v n xs):(v= .slice none 0 0/\n=0)\/ ∃g cap,v= .slice (some ⟨g,0,none⟩) n cap:=by
 rcases h.2 with⟨h1,h2⟩|⟨g,cap,cur,rfl,_⟩
 ·exact Or.inl ⟨h1,h2⟩
 exact Or.inr ⟨g,cap,rfl⟩
theorem zO3(w:World)(row:Option Nat):w.grownBy w row:=⟨rfl,rfl,rfl,Nat.le_refl _,fun _ _ _=>rfl⟩
theorem z4v{P:Program}{ops:Array Oper}{rest:List Oper}{o:Oper}{a:Act}{Q:Exit->Act->World->Prop}(w:World)(hgd:o.guard=none)(s x:Operand)(t:TypeId)
  (ho:o.op= .call {callee:= .builtin .append,args:=#[s,x],argTypes:=#[t,t]})
  (base:Nat)(e:TypeId)(i:TypeInfo)(z:Value)(size bytes:Nat)(ht:P.underlying t=some (.slice e))(hi:P.info? e=some i)(hz:i.zero=some z)
  (hsize:i.size=size)(hby:i.bytes=bytes)(hzs:z.cells.size=size)(hsz:0<size)
  (v:Value)(n:Nat)(xs:List Value)(hs:a.eval s=v)(hown:w.ownsRow base e size v n xs)
  (base2:Nat)(u:Value)(m:Nat)(news:List Value)(hx:a.eval x=u)(hu:w.ownsRow base2 e size u m news)(h1: ∀u∈news,u.oneCell'=true)
  (h63:n+m<=maxLen)(hbytes:(n+m)*bytes<=140737488355328)(hbase:base<=w.heap.size)
  (h: ∀v' w',w'.ownsRow base e size v' (n+m) (xs++news)->w.grownBy w' v.ownBlock->wpList P ops Q rest (a.put o.dst v') w'):wpList P ops Q (o::rest) a w:=by
 rcases rowShape hu with⟨rfl,rfl⟩|⟨g,cap,rfl⟩
 ·have hn:news=[]:=List.eq_nil_of_length_eq_zero (by have:=hu.1;omega)
  subst hn;refine wpList_append_own_none hgd s x t ho base e i size ht hi v n xs hs hown hx (h v w ?_ (zO3 _ _));rw[List.append_nil];exact hown
 exact wpList_append_own _ hgd s x t ho base e i z size bytes ht hi hz hsize hby hzs hsz v n xs hs hown ⟨g,0,none⟩ m cap news hx hu.1 (World.ownsRow.cells hu rfl) h1 h63 hbytes hbase fun v' w' a b _=>h v' w' a b
end
section
open Go.ChangeShapes Go.WideShapes Go.ChangeAt Go.RowKit
attribute [local simp] z0p z0j z04
theorem zJl(T:Nat->Int)(evs:List (Nat->Int))(i:Nat):z51 (T::evs) (i+8)=z51 evs i:=by
 unfold z51;rw[show(i+8)/8=i/8+1 by omega,show(i+8)%8=i%8 by omega];rfl
theorem zH7(T:Nat->Int)(evs:List (Nat->Int)){i:Nat}(h:i<8):z51 (T::evs) i=A E (T i):=by
 unfold z51;rw[show i/8=0 by omega,show i%8=i by omega];rfl
theorem z77{evs:List (Nat->Int)}{i:Nat}(h:evs.length*8<=i):z51 evs i=A E 0:=by
 unfold z51;rw[List.getD_eq_getElem?_getD,List.getElem?_eq_none kO];rfl
def z44:Array Value:=#[A E 0,A E 0,A E 0,A E 0,A E 0,A E 0,A E 0,A E 0]
theorem zOy{j:Nat}(hj:j<8):z44.toList.getD j undef=A E 0:=by
 rcases(show j=0\/j=1\/j=2\/j=3\/j=4\/j=5\/j=6\/j=7 by omega)with rfl|rfl|rfl|rfl|rfl|rfl|rfl|rfl<;>rfl
theorem zCf{w:World}{B k:Nat}{d:Dsk}{T:Nat->Int}{rest:List (Nat->Int)}(hD:z0d w B d)(hk:k<3)(he:(d.g k).evs=T::rest):w.rangeAt B (k*317+154) (z06 T).toList:=fun j v hv=>by
 have hj:j<8:=by have:=(List.getElem?_eq_some_iff.1 hv).1;simpa[z06]using this
 have e:=zCg T hj;rw[List.getD_eq_getElem?_getD,hv]at e;have e':v=A E (T j):=e;rw[show k*317+154+j=k*317+(154+j)by omega,hD.gate hk kO,e'];unfold z17;rw[if_neg kO,if_pos kO,he,show 154+j-154=j by omega,zH7 T rest hj]
theorem zS3(d:Dsk){k m:Nat}{T:Nat->Int}{rest:List (Nat->Int)}(hk:k<3)(he:(d.g k).evs=T::rest)(hm:rest.length=m)(h20:m<20)(j:Nat)(_:j<952):
  (d.put k {d.g k with evs:=rest}).cell j=if k*317+154+m*8<=j/\j<k*317+154+m*8+z44.toList.length then z44.toList.getD (j-(k*317+154+m*8)) undef else if j=k*317+314 then A E (m:Int)else if k*317+154<=j/\j<k*317+154+((List.range (m*8)).map fun i=>d.cell (k*317+162+i)).length then((List.range (m*8)).map fun i=>d.cell (k*317+162+i)).getD (j-(k*317+154)) undef else d.cell j:=by
 have hl:z44.toList.length=8:=rfl;have hc:((List.range (m*8)).map fun i=>d.cell (k*317+162+i)).length=m*8:=by rw[List.length_map,List.length_range]
 rw[hl,hc,z4p d _ hk]
 by_cases c:k*317<=j/\j<k*317+317
 ·rw[if_pos c]
  obtain⟨i,rfl⟩: ∃i,j=k*317+i:=⟨j-k*317,by omega⟩;have hi:i<317:=kO;have e0:z17 {d.g k with evs:=rest} i=if i<154 then z25 (d.g k).ps (d.g k).last i else if i<314 then z51 rest (i-154)else if i=314 then A E (m:Int)else if i=315 then A E (d.g k).may else A E (d.g k).left:=by rw[<-hm];rfl
  have e1:z17 (d.g k) i=if i<154 then z25 (d.g k).ps (d.g k).last i else if i<314 then z51 (T::rest) (i-154)else if i=314 then A E ((d.g k).evs.length:Int)else if i=315 then A E (d.g k).may else A E (d.g k).left:=by rw[<-he];rfl
  rw[Nat.add_sub_cancel_left,e0]
  by_cases c1:154+m*8<=i/\i<154+m*8+8
  ·rw[if_pos (show k*317+154+m*8<=k*317+i/\k*317+i<k*317+154+m*8+8 by omega),zOy kO,if_neg (show¬i<154 by omega),if_pos (show i<314 by omega),z77 kO]
  rw[if_neg (show¬(k*317+154+m*8<=k*317+i/\k*317+i<k*317+154+m*8+8)by omega)]
  by_cases c2:i=314
  ·rw[if_pos (show k*317+i=k*317+314 by omega),if_neg (show¬i<154 by omega),if_neg (show¬i<314 by omega),if_pos c2]
  rw[if_neg (show¬k*317+i=k*317+314 by omega)]
  by_cases c3:154<=i/\i<154+m*8
  ·rw[if_pos (show k*317+154<=k*317+i/\k*317+i<k*317+154+m*8 by omega),if_neg (show¬i<154 by omega),if_pos (show i<314 by omega),List.getD_eq_getElem?_getD,List.getElem?_map,List.getElem?_range (show k*317+i-(k*317+154)<m*8 by omega)]
   show _=d.cell (k*317+162+(k*317+i-(k*317+154)));rw[show k*317+162+(k*317+i-(k*317+154))=k*317+(i+8)by omega,z1w d hk kO];unfold z17;rw[if_neg (show¬i+8<154 by omega),if_pos (show i+8<314 by omega),he,show i+8-154=(i-154)+8 by omega,zJl]
  ·rw[if_neg (show¬(k*317+154<=k*317+i/\k*317+i<k*317+154+m*8)by omega),z1w d hk hi,e1]
   by_cases c4:i<154
   ·rw[if_pos c4,if_pos c4]
   rw[if_neg c4,if_neg c4]
   by_cases c5:i<314
   ·rw[if_pos c5,if_pos c5,z77 kO,z77 (by rw[lV];omega)]
   rw[if_neg c5,if_neg c5,if_neg c2,if_neg c2]
 rw[if_neg c,if_neg (show¬(k*317+154+m*8<=j/\j<k*317+154+m*8+8)by omega),if_neg (show¬j=k*317+314 by omega),if_neg (show¬(k*317+154<=j/\j<k*317+154+m*8)by omega)]
theorem Tryz.info34:(Tryz.prog.info? 34).map (·.size)=some 8:=kR
theorem zOx:z44.all (·.oneCell')=true:=kR
theorem zGg(tmps:Array Value)(w':World)(g:Nat)(cs:Array Value)(h2:tmps.getD 2 undef= pT (some ⟨g,0,none⟩))(hg:w'.heap[g]?=some (cT cs 34 (0,0)))(hs:cs.size=8):
  (results Tryz.f38 tmps).run tP w'= .ok (.agg cs) w':=by
 have h2':tmps[2]?.getD undef= pT (some ⟨g,0,none⟩):=by simpa using h2
 have hl:=run_loadVar_row (P:=tP) w' g 34 34 cs (0,0) _ hg Tryz.underlying34 rfl (by rw[Tryz.info34,hs]);simp[results,Tryz.results38,asAddr,h2',hl]
theorem zBj(d:Dsk)(hp: ∀k,k<3-> ∀p,p∈(d.g k).ps->p.sl.oneCell'=true)(j:Nat)(hj:j<952):(d.cell j).oneCell'=true:=by
 unfold Dsk.cell;split
 ·unfold z17
  split
  ·unfold z25
   split
   ·unfold z93
    split
    ·rfl
    split
    ·rfl
    split
    ·rw[List.getD_eq_getElem?_getD]
     cases h:((d.g (j/317)).ps)[j%317/19]? with
     |none=>rfl
     |some p=>exact hp _ kO p (List.mem_of_getElem? h)
    ·rfl
   split<;>rfl
  split
  ·rfl
  split
  ·rfl
  split<;>rfl
 rfl
theorem zV7(B k m:Nat)(hk:k<3)(d:Dsk)(T:Nat->Int)(rest:List (Nat->Int))(w:World)(hD:z0d w B d)(he:(d.g k).evs=T::rest)(hm:rest.length=m)(h20:m<20)(HP:Hid (∀k,k<3-> ∀p,p∈(d.g k).ps->p.sl.oneCell'=true)):Calls tP 38 #[pT (some ⟨B,k*317,none⟩)] w fun e w'=>e= rT (.agg (z06 T))/\Kept B w w'/\z0d w' B (d.put k {d.g k with evs:=rest}):=by
 have HHE:Hid ((d.g k).evs=T::rest):=he;have HR:Hid (w.rangeAt B (k*317+154) (z06 T).toList):=zCf hD hk he;have hlt:=hD.lt;have hn0:(0:Int)<=(m:Int):=kO;have hn1:(m:Int)<20:=kO;have hs1:(1:Int)<=(m:Int)+1:=kO;have hs2:(m:Int)+1<=20:=kO;have e1:IntKind.i64.wrap ((m:Int)+1-1)=(m:Int):=by rw[IntWalk.i64_left,z08 kO kO];omega
 go_enter Tryz.func38,Tryz.ntmps38;have hK0:Blk w [(w.heap.size,cT z44 34 (0,0)),(B,cT (Array.ofFn (n:=952) fun i=>Dsk.cell d i.1) 72 (0,0))] (w.alloc (cT #[A E 0,A E 0,A E 0,A E 0,A E 0,A E 0,A E 0,A E 0] 34)):=((Blk.nil ((bF _ _).alloc (Nat.le_refl _) _)).cons ((heap_alloc_old _ _ hD.lt).trans hD)).cons (heap_alloc_new w _);clear he;go_upto_region 1 with fail
 generalize w.alloc (cT #[A E 0,A E 0,A E 0,A E 0,A E 0,A E 0,A E 0,A E 0] 34)=w0 at hK0⊢;go_step
 (refine z00 rfl (pT (some ⟨B,k*317,none⟩)) w0 kG ?_);simp only[pS]
 (refine z00 rfl (pT (some ⟨B,k*317,none⟩)) w0 kG ?_);simp only[pS]
 (refine z00 rfl (pT (some ⟨B,k*317+154,none⟩)) w0 kG ?_);simp only[pS]
 (refine z00 rfl (pT (some ⟨B,k*317+154,none⟩)) w0 kG ?_);simp only[pS]
 refine wpList_load_mid rfl 34 (.tmp 7) rfl B (k*317+154) rfl (z06 T).toList _ (zCf (hK0.2 _ (mcO _ mcS)) hk HHE.out) Tryz.underlying34 rfl (by rw[Tryz.info34];rfl) ?_;rw[Array.toArray_toList];simp only[pS]
 (refine z00 rfl (pT (some ⟨w0.heap.size,0,none⟩)) (w0.alloc (cT #[A E 0,A E 0,A E 0,A E 0,A E 0,A E 0,A E 0,A E 0] 34)) kG ?_);simp only[pS]
 refine wpList_store_row rfl 34 (.tmp 3) (.tmp 8) rfl w0.heap.size (z06 T) rfl rfl 34 z44 (heap_alloc_new w0 _) (zR6 T) rfl (z8j T) ?_;simp only[pS];have hg1:w.heap.size<w0.heap.size:=hK0.lt mcS
 have hK1:Blk w [(w0.heap.size,cT (z06 T) 34 (0,0)),(w.heap.size,cT z44 34 (0,0)),(B,cT (Array.ofFn (n:=952) fun i=>Dsk.cell d i.1) 72 (0,0))] ((w0.alloc (cT #[A E 0,A E 0,A E 0,A E 0,A E 0,A E 0,A E 0,A E 0] 34)).setRow w0.heap.size (z06 T)):=
  ((((Blk.nil (z14 (hK0.1.alloc hK0.1.size _) kO _)).cons ((setRow_other _ _ _ _ kO).trans ((heap_alloc_old _ _ (hK0.lt (mcO _ mcS))).trans (hK0.2 _ (mcO _ mcS))))).cons ((setRow_other _ _ _ _ kO).trans ((heap_alloc_old _ _ hg1).trans (hK0.2 _ mcS)))).cons (setRow_heap _ _ z44 _ _ _ (heap_alloc_new w0 _)))
 go_upto_region 2 with fail
 generalize ((w0.alloc (cT #[A E 0,A E 0,A E 0,A E 0,A E 0,A E 0,A E 0,A E 0] 34)).setRow w0.heap.size (z06 T))=w1 at hK1⊢;generalize w0.heap.size=g1 at hK1 hg1⊢;clear hK0;refine z0o (C:=Blk w [(g1,cT (z06 T) 34 (0,0)),(w.heap.size,cT z44 34 (0,0)),(B,cT (Array.ofFn (n:=952) fun i=>Dsk.cell d i.1) 72 (0,0))]) (n0:=w.heap.size) 12 [] [] kR kR (fun d _ _ _ _ h=>by cases d<;>exact h) (Blk.stable _ _) (fun w2 h=>h.1.size) hK1.drew trivial ?_;simp only[lQ,lX,lY,lZ,lJ,Nat.reduceAdd]
 repeat(first
  |(refine z0q kI ?_;simp only[pS])
  |(refine z0c kI (v:=?_) ?_ ?_;rotate_left;(intro w2 hC;have hDk:z0d _ B d:=(hC.2 _ (mcO _ (mcO _ mcS)));have c0:World.cell? _ ⟨B,k*317+314,none⟩=some (A E ((m:Int)+1)):=(hDk.gate hk kD).trans (by unfold z17;rw[if_neg kD,if_neg kD,if_pos rfl,HHE.out,lV,hm];rfl);go_simp;try with_reducible rfl);simp only[pS]))
 refine z11 ?_;intro w3 hC hB3;have hDk:z0d _ B d:=(hC.2 _ (mcO _ (mcO _ mcS)));have c0:World.cell? _ ⟨B,k*317+314,none⟩=some (A E ((m:Int)+1)):=(hDk.gate hk kD).trans (by unfold z17;rw[if_neg kD,if_neg kD,if_pos rfl,HHE.out,lV,hm];rfl);have hlen:((List.range (m*8)).map fun i=>d.cell (k*317+162+i)).length=m*8:=by rw[List.length_map,List.length_range]
 have hmin:Nat.min m 20=m:=Nat.min_eq_left kO
 have hcopy:=z54 (P:=tP) w3 41 41 3 34 B (k*317+154) 20 20 ⟨B,k*317+154+8,none⟩ m 19 8 ((List.range (m*8)).map fun i=>d.cell (k*317+162+i)) Tryz.underlying41 Tryz.info34 (by rw[hlen,hmin]) (fun j v hv=>by
   have hj:j<m*8:=by have:=(List.getElem?_eq_some_iff.1 hv).1;rw[hlen]at this;exact this
   rw[List.getElem?_map,List.getElem?_range hj]at hv;rw[Addr.add_mid,FnAt.at hDk _ kO,show k*317+154+8+j=k*317+162+j by omega];exact hv) (fun j hj=>by rw[FnAt.at hDk _ (by rw[hlen]at hj;omega)];rfl) (fun j hj=>FnAt.frozen hDk _) (fun v hv=>by
   obtain⟨i,hi,rfl⟩:=List.mem_map.1 hv;rw[List.mem_range]at hi;exact zBj d HP.out _ kO)
 (refine z00 rfl (goInt (Nat.min m 20)) (w3.setCells B (k*317+154) ((List.range (m*8)).map fun i=>d.cell (k*317+162+i))) (zF7 _ _ (.tmp 12) (.tmp 20) _ _ _ _ _ rfl rfl rfl hcopy) ?_);simp only[pS]
 have hF1:=FnAt.setCells hDk ((List.range (m*8)).map fun i=>d.cell (k*317+162+i)) (k*317+154);have hKp:=z1y (z09 hC.1 B) (k*317+154) ((List.range (m*8)).map fun i=>d.cell (k*317+162+i));have hb0:=(z0y (w:=w3) (B:=B) (show w.heap.size≠B by omega) ((List.range (m*8)).map fun i=>d.cell (k*317+162+i)) (k*317+154)).trans (hC.2 _ (mcO _ mcS));have hb1:=(z0y (w:=w3) (B:=B) (show g1≠B by omega) ((List.range (m*8)).map fun i=>d.cell (k*317+162+i)) (k*317+154)).trans (hC.2 _ mcS);have c1:=hF1.at (k*317+314) kO;rw[if_neg (by rw[hlen];omega), <-FnAt.at hDk _ kO]at c1;have c1:=c1.trans c0;have cf:=hF1.frozen (k*317+314);have hs4:w.heap.size<=(w3.setCells B (k*317+154) ((List.range (m*8)).map fun i=>d.cell (k*317+162+i))).heap.size:=by rw[(z2w B ((List.range (m*8)).map fun i=>d.cell (k*317+162+i)) (k*317+154) w3).1];exact hC.1.size
 clear hC hDk c0 hcopy hK1 hB3;generalize w3.setCells B (k*317+154) ((List.range (m*8)).map fun i=>d.cell (k*317+162+i))=w4 at hF1 hKp hb0 hb1 c1 cf hs4⊢;go_upto_region 4 with fail
 obtain⟨f2,HE2⟩: ∃f2:Nat->Value,Hid ((fun j=>if j=k*317+314 then A E (m:Int)else(fun j=>if k*317+154<=j/\j<k*317+154+((List.range (m*8)).map fun i=>d.cell (k*317+162+i)).length then((List.range (m*8)).map fun i=>d.cell (k*317+162+i)).getD (j-(k*317+154)) undef else d.cell j) j)=f2):=⟨_,rfl⟩;have HC2:Hid (some (f2 (k*317+314))=some (A E (m:Int))):=by rw[<-HE2.out];exact congrArg some (if_pos rfl)
 have hF2:FnAt (w4.setCell ⟨B,k*317+314,none⟩ (A E (m:Int))) B f2:=by rw[<-HE2.out];exact hF1.set (k*317+314) _
 have hKp2:=z0v hKp (k*317+314) (A E (m:Int));have hb0:=(heap_setCell_other w4 ⟨B,k*317+314,none⟩ w.heap.size (A E (m:Int)) (show w.heap.size≠B by omega)).trans hb0;have hb1:=(heap_setCell_other w4 ⟨B,k*317+314,none⟩ g1 (A E (m:Int)) (show g1≠B by omega)).trans hb1;clear hF1 hKp c1 cf hs4;generalize w4.setCell ⟨B,k*317+314,none⟩ (A E (m:Int))=w5 at hF2 hKp2 hb0 hb1⊢;have hK5:Blk w5 [(g1,cT (z06 T) 34 (0,0)),(w.heap.size,cT z44 34 (0,0)),(B,cT (Array.ofFn (n:=952) fun i=>f2 i.1) 72 (0,0))] w5:=(((Blk.nil (bF _ _)).cons hF2).cons hb0).cons hb1;clear hF2 hb0 hb1;refine z0o (C:=Blk w5 [(g1,cT (z06 T) 34 (0,0)),(w.heap.size,cT z44 34 (0,0)),(B,cT (Array.ofFn (n:=952) fun i=>f2 i.1) 72 (0,0))]) (n0:=w5.heap.size) 9 [] [] kR kR (fun d _ _ _ _ h=>by cases d<;>exact h) (Blk.stable _ _) (fun w2 h=>h.1.size) hK5.drew trivial ?_;simp only[lQ,lX,lY,lZ,lJ,Nat.reduceAdd]
 repeat(first
  |(refine z0q kI ?_;simp only[pS])
  |(refine z0c kI (v:=?_) ?_ ?_;rotate_left;(intro w2 hC;have hDk:FnAt _ B f2:=(hC.2 _ (mcO _ (mcO _ mcS)));have c0:World.cell? _ ⟨B,k*317+314,none⟩=some (A E (m:Int)):=(FnAt.at hDk _ kO).trans HC2.out;go_simp;try with_reducible rfl);simp only[pS]))
 refine z11 ?_;intro w6 hC hB6;have hDk:FnAt _ B f2:=(hC.2 _ (mcO _ (mcO _ mcS)));have c0:World.cell? _ ⟨B,k*317+314,none⟩=some (A E (m:Int)):=(FnAt.at hDk _ kO).trans HC2.out;have hth:=FnAt.there hDk (o:=k*317+154+m*8) (n:=8) kO;refine wpList_store_mid rfl 34 _ _ rfl B (k*317+154+m*8) z44 kG rfl hth Tryz.info34 zOx ?_;simp only[pS];have hF3:=FnAt.setCells hDk z44.toList (k*317+154+m*8);have hKp3:=z1y (z1x hKp2 hC.1) (k*317+154+m*8) z44.toList;have hb0:=(z0y (w:=w6) (B:=B) (show w.heap.size≠B by omega) z44.toList (k*317+154+m*8)).trans (hC.2 _ (mcO _ mcS));have hb1:=(z0y (w:=w6) (B:=B) (show g1≠B by omega) z44.toList (k*317+154+m*8)).trans (hC.2 _ mcS);clear hC hDk c0 hth hK5 hKp2 hB6;generalize w6.setCells B (k*317+154+m*8) z44.toList=w7 at hF3 hKp3 hb0 hb1⊢;go_upto_region 5 with fail
 go_step;refine wpList_load_row rfl 34 (.tmp 3) rfl g1 rfl 34 (z06 T) (0,0) _ hb1 Tryz.underlying34 rfl (zR6 T) ?_;simp only[pS];refine wpList_store_row rfl 34 (.tmp 2) (.tmp 38) rfl w.heap.size (z06 T) rfl rfl 34 z44 hb0 (zR6 T) rfl (z8j T) ?_;simp only[pS];have hF4:z0d (w7.setRow w.heap.size (z06 T)) B (d.put k {d.g k with evs:=rest}):=FnAt.ext (FnAt.block hF3 (setRow_other w7 _ _ _ kO)) fun j hj=>(zS3 d hk HHE.out hm h20 j hj).trans (by rw[<-HE2.out]);have hr0:=setRow_heap w7 w.heap.size z44 (z06 T) 34 (0,0) hb0;have hKp4:Kept B w (w7.setRow w.heap.size (z06 T)):=⟨hKp3.os,hKp3.tape,hKp3.output,by simpa[World.setRow]using hKp3.size,fun i hi hne=>(setRow_other w7 _ _ _ kO).trans (hKp3.block i hi hne)⟩;go_wp2_with fail;exact bodyPost_ret (v:= .agg (z06 T)) (zGg _ _ w.heap.size _ rfl hr0 rfl) rfl ⟨rfl,hKp4,hF4⟩
end
section
open Go.ChangeShapes Go.WideShapes Go.ChangeAt Go.RowKit
def runL(xs:List St)(T K:Nat->Int)(time:Int):End:=runF (fun j=>(nth xs j).c) (fun j=>(nth xs j).d) (fun j=>(nth xs j).s) (fun j=>(nth xs j).r) (fun j=>(nth xs j).o) (fun j=>(nth xs j).n) xs.length 0 0 ((z4c T K time).abs [])
structure Rn where
 num:Int
 tab:Nat->Int
 out:List Int
 steps:Int
def rnOf:End->Rn
 | .inl _=>⟨0,fun _=>0,[],0⟩
 | .inr x=>⟨x.1,x.2.2.cel,x.2.2.out,(x.2.1:Int)⟩
def Pg.run(p:Pg)(T:Nat->Int)(time:Int):Rn:=rnOf (runL p.xs T p.tab time)
structure Sd where
 bf:Int
 num:Int
 out:List Int
 steps:Int
def sd0:Sd:=⟨0,0,[],0⟩
def Sd.more(s:Sd)(p:Pg)(r:Rn):Sd:=⟨if r.num=0 then s.bf else p.id,if r.num=0 then s.num else r.num,s.out++r.out,s.steps+r.steps⟩
def Pg.ran(p:Pg)(r:Rn):Pg:={p with tab:=r.tab}
def z05(T:Nat->Int)(time:Int):List Pg->Sd->Sd×List Pg
 |[],s=>(s,[])
 |p::ps,s=>if(p.run T time).num=0 then((z05 T time ps (s.more p (p.run T time))).1,p.ran (p.run T time)::(z05 T time ps (s.more p (p.run T time))).2)else(s.more p (p.run T time),p.ran (p.run T time)::ps)
def zC9(w:World)(v:Value):Prop:= ∀bk n cap,v= .slice (some ⟨bk,0,none⟩) n cap-> ∃cs fz,w.heap[bk]?=some (cT cs 121 fz)
theorem zC9.block{w w':World}{v:Value}{bk n:Nat}{cap:Nat}(h:zC9 w v)(e:v= .slice (some ⟨bk,0,none⟩) n cap)(hb:w'.heap[bk]?=w.heap[bk]?):zC9 w' v:=fun b n' c' q=>by
 obtain⟨cs,fz,z⟩:=h bk n cap e;rw[e]at q
 cases q;exact⟨cs,fz,hb.trans z⟩
theorem zC9.row{w:World}{b z n:Nat}{v:Value}{xs:List Value}(h:w.ownsRow b 121 z v n xs):zC9 w v:=fun bk n' c' q=>by
 rcases h.2 with⟨rfl, -⟩|⟨g,c,cur,rfl, -,hg, -⟩
 ·cases q
 ·cases q
  exact⟨cur,_,hg⟩
structure PgOk (w:World) (B:Nat) (p:Pg):Prop where
 lies: ∃bk cap,p.sl= .slice (some ⟨bk,0,none⟩) p.xs.length cap/\bk<w.heap.size/\bk≠B/\z1g w bk 0 p.xs.length (fun j=>(nth p.xs j).c) (fun j=>(nth p.xs j).d) (fun j=>(nth p.xs j).s) (fun j=>(nth p.xs j).r) (fun j=>(nth p.xs j).o) (fun j=>(nth p.xs j).n)
 some:1<=p.xs.length
 few:p.xs.length<=200
 right: ∀j,j<p.xs.length->z5c p.xs j=0
 nums: ∀j,j<p.xs.length->In64 (nth p.xs j).o/\In64 (nth p.xs j).n
 tab: ∀i,i<16->In64 (p.tab i)
 tag:zC9 w p.sl
theorem zTe(C D S:Nat->Int)(R:Nat->Bool)(O N:Nat->Int)(len:Nat): ∀(f pc k:Nat)(a:Abs)(n:Int)(k':Nat)(a':Abs),runN C D S R O N len f pc k a= .fine n k' a'->n=(a'.reg 0).n/\k'<=k+f:=by
 intro f;induction f with
 |zero=>intro pc k a n k' a' h;exact absurd h (by simp[runN,End.bad,End.fine])
 |succ f ih=>
  intro pc k a n k' a' h;rw[z4x]at h;split at h
  ·split at h
   ·split at h
    ·simp only[End.fine,Sum.inr.injEq,Prod.mk.injEq]at h
     obtain⟨h1,h2,h3⟩:=h;rw[<-h3];exact⟨h1.symm,by omega⟩
    ·exact absurd h (by simp[End.bad,End.fine])
   ·split at h
    ·exact absurd h (by simp[End.bad,End.fine])
    ·obtain⟨h1,h2⟩:=ih _ _ _ _ _ _ h
     exact⟨h1,by omega⟩
  ·exact absurd h (by simp[End.bad,End.fine])
section
variable {w w':World} {B:Nat} {p:Pg}
theorem PgOk.one(h:PgOk w B p):p.sl.oneCell'=true:=by
 obtain⟨bk,cap,e, -⟩:=h.lies;rw[e];rfl
theorem z1l{bk off len:Nat}{C D S:Nat->Int}{R:Nat->Bool}{O N:Nat->Int}(h:z1g w bk off len C D S R O N)(hb:w'.heap[bk]?=w.heap[bk]?):z1g w' bk off len C D S R O N:=fun i hi=>by
 have e:=fun o=>World.cell?_of_block (a:=⟨bk,o,none⟩) hb;obtain⟨a,b,c,d,k,m⟩:=h i hi;exact⟨(e _).trans a,(e _).trans b,(e _).trans c,(e _).trans d,(e _).trans k,(e _).trans m⟩
theorem PgOk.kept(h:PgOk w B p)(hk:Kept B w w'):PgOk w' B p:=by
 obtain⟨bk,cap,e,h1,h2,h3⟩:=h.lies;exact⟨⟨bk,cap,e,Nat.lt_of_lt_of_le h1 hk.size,h2,z1l h3 (hk.block bk h1 fun z=>h2 (Option.some.inj z))⟩,h.some,h.few,h.right,h.nums,h.tab,h.tag.block e (hk.block bk h1 fun z=>h2 (Option.some.inj z))⟩
theorem PgOk.runs(h:PgOk w B p)(T:Nat->Int)(time:Int)(hT: ∀i,i<8->In64 (T i))(ht:In64 time){n:Int}{k:Nat}{a:Abs}(e:runL p.xs T p.tab time= .fine n k a):n=(a.reg 0).n/\k<=200/\a.Ok:=by
 obtain⟨e1,e2⟩:=zTe _ _ _ _ _ _ _ _ _ _ _ _ _ _ e;have:=h.few;exact⟨e1,by omega,zMv (fun i hi=>z56 (h.right i hi)) (fun i hi=>(h.nums i hi).2) p.xs.length 0 0 _ kO (z9k hT h.tab ht) n k a e⟩
theorem PgOk.small(h:PgOk w B p)(T:Nat->Int)(time:Int)(hT: ∀i,i<8->In64 (T i))(ht:In64 time):0<=(p.run T time).steps/\(p.run T time).steps<=200/\(p.run T time).out.length<=50/\(∀i,i<16->In64 ((p.run T time).tab i))/\In64 (p.run T time).num/\ ∀x,x∈(p.run T time).out->In64 x:=by
 have z:In64 0:=⟨by decide,by decide⟩;unfold Pg.run
 cases e:runL p.xs T p.tab time with
 |inl x=>exact⟨Int.le_refl _,(by decide:(0:Int)<=200),Nat.zero_le _,fun _ _=>z,z,fun _ hx=>absurd hx List.not_mem_nil⟩
 |inr x=>
  obtain⟨n,k,a⟩:=x;obtain⟨e1,h2,h3⟩:=h.runs T time hT ht e;exact⟨show(0:Int)<=(k:Int)by omega,show(k:Int)<=200 by omega,h3.room,h3.cel,show In64 n by rw[e1];exact(h3.reg 0 kD).n,h3.out⟩
theorem PgOk.later(h:PgOk w B p)(hb:Below w.heap.size w w'):PgOk w' B p:=h.kept (z09 hb B)
end
def z19(K:Nat->Int):Array Value:=#[A E (K 0),A E (K 1),A E (K 2),A E (K 3),A E (K 4),A E (K 5),A E (K 6),A E (K 7),A E (K 8),A E (K 9),A E (K 10),A E (K 11),A E (K 12),A E (K 13),A E (K 14),A E (K 15)]
theorem zFn(K:Nat->Int){j:Nat}(hj:j<16):(z19 K).toList.getD j undef=A E (K j):=by
 rcases(show j=0\/j=1\/j=2\/j=3\/j=4\/j=5\/j=6\/j=7\/j=8\/j=9\/j=10\/j=11\/j=12\/j=13\/j=14\/j=15 by omega)with rfl|rfl|rfl|rfl|rfl|rfl|rfl|rfl|rfl|rfl|rfl|rfl|rfl|rfl|rfl|rfl<;>rfl
theorem z5n(K:Nat->Int):(z19 K).all (·.oneCell')=true:=kR
def rnCs(r:Rn)(v:Value):Array Value:=#[A E r.num,A E (r.tab 0),A E (r.tab 1),A E (r.tab 2),A E (r.tab 3),A E (r.tab 4),A E (r.tab 5),A E (r.tab 6),A E (r.tab 7),A E (r.tab 8),A E (r.tab 9),A E (r.tab 10),A E (r.tab 11),A E (r.tab 12),A E (r.tab 13),A E (r.tab 14),A E (r.tab 15),v,A E r.steps]
theorem zL6{w:World}{B:Nat}{p:Pg}(hp:PgOk w B p)(T:Nat->Int)(time:Int)(hT: ∀i,i<8->In64 (T i))(ht:In64 time):
  Calls tP 40 #[p.sl,.agg (z06 T),.agg (z19 p.tab),A E time] w fun e w'=> ∃v,e= rT v/\ ∃vo I,v= .tuple #[.agg (rnCs (p.run T time) vo),I]/\Below w.heap.size w w'/\w'.ownsRow (w.heap.size+1) 2 1 vo (p.run T time).out.length ((p.run T time).out.map (Value.int .i64)):=by
 obtain⟨bk,cap,e,h1,h2,h3⟩:=hp.lies;rw[e];unfold Pg.run runL
 cases hX:runF (fun j=>(nth p.xs j).c) (fun j=>(nth p.xs j).d) (fun j=>(nth p.xs j).s) (fun j=>(nth p.xs j).r) (fun j=>(nth p.xs j).o) (fun j=>(nth p.xs j).n) p.xs.length 0 0 ((z4c T p.tab time).abs [])with
 |inl x=>
  obtain⟨er,q⟩:=x;refine(zXr bk 0 p.xs.length cap _ _ _ _ _ _ T p.tab time w hp.some hp.few h1 h3 hp.right (fun j hj=>(hp.nums j hj).2) hT hp.tab ht er q hX).mono fun e' w' hh=>?_;obtain⟨r,g1,g2, -⟩:=hh;exact⟨_,g1,.slice none 0 0,_,rfl,g2,World.ownsRow_nil _ _ _ _⟩
 |inr x=>
  obtain⟨n0,k,a⟩:=x;refine(zTc bk 0 p.xs.length cap _ _ _ _ _ _ T p.tab time w hp.some hp.few h1 h3 hp.right (fun j hj=>(hp.nums j hj).2) hT hp.tab ht n0 k a hX).mono fun e' w' hh=>?_;obtain⟨v3,g1,g2,g3⟩:=hh;exact⟨_,g1,v3,_,rfl,g2,g3⟩
end
section
section
variable {P:Program} {md:Region.Mode} {ops:Array Oper} {Q:Exit->Act->World->Prop} {S:World->Prop}
theorem z3h{fuel:Nat}{listed:Array Bool}{a:Act}{w:World}{i:Nat}{o:Oper}{rs:List Nat}(d:Option Tmp)(f:FuncId)(args:Array Value)(ho:ops[i]?=some o)(hd:o.dst=d)
  (hw:Region.wanted o (yielded ops a.tmps)=true)(hrun:(execOp a.eval o).run P w= .ok (.enter f args) w)
  (hc:Calls P f args w fun e w'=> ∃v,e= rT v/\S w'/\wpAnyH P md ops Q S fuel (listed.setIfInBounds i true) (a.put d v) w')
  (hs:AllReadyH P md ops Q S fuel listed a w rs):AllReadyH P md ops Q S fuel listed a w (i::rs):=by
 subst hd;refine AllReadyH.cons ho (fun K hK=>?_) hs;rw[if_pos hw];unfold Oper.wp;rw[hrun,Oper.upon_enter];refine hc.mono ?_;rintro e w' ⟨v,rfl,hS,h⟩;exact hK.out _ _ hS fun _=>h
end
end
section
open Go.ChangeShapes Go.WideShapes Go.ChangeAt Go.RowKit
attribute [local simp] z0p z0j z04
theorem z4t{w:World}{B k i j:Nat}{d:Dsk}(hD:z0d w B d)(hk:k<3)(hi:i<8)(hj:j<19):w.cell? ⟨B,k*317+i*19+j,none⟩=some (z93 ((d.g k).ps.getD i pg0) j):=by
 rw[show k*317+i*19+j=k*317+(i*19+j)by omega,hD.gate hk kO];unfold z17 z25;rw[if_pos kO,if_pos kO,show(i*19+j)/19=i by omega,show(i*19+j)%19=j by omega]
theorem z21{w:World}{B k:Nat}{d:Dsk}(hD:z0d w B d)(hk:k<3):w.cell? ⟨B,k*317+152,none⟩=some (A E ((d.g k).ps.length:Int)):=hD.gate hk kD
theorem zLm{w:World}{B k i:Nat}{d:Dsk}(hD:z0d w B d)(hk:k<3)(hi:i<8):w.rangeAt B (k*317+i*19+3) (z19 ((d.g k).ps.getD i pg0).tab).toList:=fun j v hv=>by
 have hj:j<16:=by have:=(List.getElem?_eq_some_iff.1 hv).1;simpa[z19]using this
 have e:=zFn ((d.g k).ps.getD i pg0).tab hj;rw[List.getD_eq_getElem?_getD,hv]at e;have e':v=A E (((d.g k).ps.getD i pg0).tab j):=e;rw[show k*317+i*19+3+j=k*317+i*19+(3+j)by omega,z4t hD hk hi kO,e'];unfold z93;rw[if_neg kO,if_neg kO,if_neg kO,show 3+j-3=j by omega]
theorem zVt(d:Dsk){k i:Nat}(K:Nat->Int)(hk:k<3)(hi:i<(d.g k).ps.length)(h8:(d.g k).ps.length<=8)(j:Nat)(_:j<952):
  (d.put k {d.g k with ps:=(d.g k).ps.set i {(d.g k).ps.getD i pg0 with tab:=K}}).cell j=if k*317+i*19+3<=j/\j<k*317+i*19+3+(z19 K).toList.length then(z19 K).toList.getD (j-(k*317+i*19+3)) undef else d.cell j:=by
 have hl:(z19 K).toList.length=16:=rfl;rw[hl,z4p d _ hk]
 by_cases c:k*317<=j/\j<k*317+317
 ·rw[if_pos c]
  obtain⟨x,rfl⟩: ∃x,j=k*317+x:=⟨j-k*317,by omega⟩;rw[Nat.add_sub_cancel_left,z1w d hk kO];unfold z17;dsimp only
  by_cases c1:x<154
  ·rw[if_pos c1,if_pos c1]
   unfold z25
   by_cases c2:x<152
   ·rw[if_pos c2,if_pos c2,List.getD_eq_getElem?_getD,List.getElem?_set]
    by_cases c3:i=x/19
    ·rw[if_pos c3,if_pos hi]
     unfold z93;dsimp only[Option.getD_some]
     by_cases c4:x%19<3
     ·rw[if_neg (show¬(k*317+i*19+3<=k*317+x/\k*317+x<k*317+i*19+3+16)by omega),c3]
      rcases(show x%19=0\/x%19=1\/x%19=2 by omega)with z|z|z<;>rw[z]<;>rfl
     ·rw[if_pos (show k*317+i*19+3<=k*317+x/\k*317+x<k*317+i*19+3+16 by omega),if_neg (show¬x%19=0 by omega),if_neg (show¬x%19=1 by omega),if_neg (show¬x%19=2 by omega),show k*317+x-(k*317+i*19+3)=x%19-3 by omega,zFn K kO]
    ·rw[if_neg c3,if_neg (show¬(k*317+i*19+3<=k*317+x/\k*317+x<k*317+i*19+3+16)by omega),List.getD_eq_getElem?_getD]
   ·rw[if_neg c2,if_neg c2,List.length_set,if_neg (show¬(k*317+i*19+3<=k*317+x/\k*317+x<k*317+i*19+3+16)by omega)]
  ·rw[if_neg c1,if_neg c1,if_neg (show¬(k*317+i*19+3<=k*317+x/\k*317+x<k*317+i*19+3+16)by omega)]
 rw[if_neg c,if_neg (show¬(k*317+i*19+3<=j/\j<k*317+i*19+3+16)by omega)]
theorem zQe(d:Dsk)(k:Nat)(x y:Gt):(d.put k x).put k y=d.put k y:=by
 unfold Dsk.put;congr 1;funext i;dsimp only
 by_cases h:i=k
 ·rw[if_pos h,if_pos h]
 rw[if_neg h,if_neg h,if_neg h]
theorem zCn(d:Dsk)(k:Nat)(x:Gt):(d.put k x).g k=x:=if_pos rfl
theorem zU2(d:Dsk)(k:Nat):d.put k (d.g k)=d:=by
 unfold Dsk.put
 cases d with
 |mk g r=>
  congr 1;funext i;dsimp only
  by_cases h:i=k
  ·rw[if_pos h,h]
  ·rw[if_neg h]
theorem zXq{α:Type}(l:List α)(x y:α)(r:List α):(l++x::r).set l.length y=l++y::r:=by
 rw[List.set_append_right _ _ (Nat.le_refl _),Nat.sub_self];rfl
theorem z9t{α:Type}(l:List α)(x z:α)(r:List α):(l++x::r).getD l.length z=x:=by
 rw[List.getD_eq_getElem?_getD,List.getElem?_append_right (Nat.le_refl _),Nat.sub_self];rfl
structure RunSt (w:World) (B k:Nat) (d:Dsk) (T:Nat->Int) (time:Int) (i:Nat) (wr:World):Prop where
 ex: ∃pre rest s vo,pre.length=i/\pre.length+rest.length=(d.g k).ps.length/\z05 T time (d.g k).ps sd0=((z05 T time rest s).1,pre++(z05 T time rest s).2)/\Kept B w wr/\z0d wr B (d.put k {d.g k with ps:=pre++rest})/\wr.heap[w.heap.size]?=some (cT (z06 T) 34 (0,0))/\wr.heap[w.heap.size+1]?=some (cT #[A E 0,A E 0,.slice none 0 0,A E 0] 93 (0,0))/\wr.heap[w.heap.size+1+1]?=some (cT #[A E s.bf,A E s.num,vo,A E s.steps] 93 (0,0))/\wr.ownsRow (w.heap.size+1+1+1) 2 1 vo s.out.length (s.out.map (Value.int .i64))/\(∀p,p∈rest->p∈(d.g k).ps)/\s.out.length<=i*50/\0<=s.steps/\s.steps<=i*200
theorem zS9{w0 w:World}{F:List (Nat×Obj)}{g:Nat}(h:Blk w0 F w)(hg:w0.heap.size<=g)(hF: ∀x,x∈F->x.1<w0.heap.size)(cs:Array Value):Blk w0 F (w.setRow g cs):=
 ⟨z14 h.1 hg cs,fun x hx=>(setRow_other w g x.1 cs (by have:=hF x hx;omega)).trans (h.2 x hx)⟩
theorem z58{w:World}{b b' g:Nat}{e:TypeId}{z:Nat}{v:Value}{n:Nat}{xs:List Value}{cs:Array Value}(h:w.ownsRow b e z v n xs)(hb:b'<=b)(hne:v.ownBlock=some g->False):(w.setRow g cs).ownsRow b' e z v n xs:=by
 have h1:w.ownsRow b' e z v n xs:=by
  refine⟨h.1,h.2.imp id fun x=>?_⟩;obtain⟨g',cap,cur,e1,e2,e3⟩:=x;exact⟨g',cap,cur,e1,by omega,e3⟩
 exact h1.kept (row:=some g) ⟨rfl,rfl,rfl,by simp[World.setRow],fun k _ hk=>setRow_other w g k cs (fun e=>hk (by rw[e]))⟩ (Or.inr hne)
theorem zDz{w:World}{b:Nat}{e:TypeId}{z:Nat}{v:Value}{n:Nat}{xs:List Value}{r:Rn}(h:w.ownsRow b e z v n xs):(rnCs r v).all (·.oneCell')=true:=by
 rcases rowShape h with⟨rfl, -⟩|⟨g,cap,rfl⟩<;>kernel_rfl
theorem Tryz.info55:(Tryz.prog.info? 55).map (·.size)=some 16:=kR
theorem zCs{o:Oper}{u:Act}{x:Operand}{W:World}{B q:Nat}{K:Nat->Int}(hc:W.rangeAt B q (z19 K).toList)(ho:o.op= .load 55 x)(hx:u.eval x= pT (some ⟨B,q,none⟩)):(execOp u.eval o).run tP W= .ok (.value (.agg (z19 K))) W:=by
 have hl:=run_loadVar_mid (P:=tP) W B q 55 (z19 K).toList _ hc Tryz.underlying55 rfl Tryz.info55;rw[Array.toArray_toList]at hl;unfold execOp;simp only[ho,hx,Instr.loadAt,Instr.sureAddr,Sem.run_bind,Sem.run_pure,Result.andThen_ok,hl]
def SdSt(B g:Nat)(f:Nat->Value)(o:Obj)(V:World):Prop:=FnAt V B f/\V.heap[g]?=some o
theorem zFt{B g S i:Nat}{f:Nat->Value}{o:Obj}{V:World}(h:SdSt B g f o V)(h1:B≠S)(h2:g≠S)(v:Value):SdSt B g f o (V.setCell ⟨S,i,none⟩ v):=⟨FnAt.block h.1 (heap_setCell_other V ⟨S,i,none⟩ B v h1),(heap_setCell_other V ⟨S,i,none⟩ g v h2).trans h.2⟩
theorem Tryz.infoSaid:(Tryz.prog.info? 93).map (·.size)=some 4:=kR
theorem zAf(tmps:Array Value)(w':World)(g:Nat)(cs:Array Value)(h2:tmps.getD 6 undef= pT (some ⟨g,0,none⟩))(hg:w'.heap[g]?=some (cT cs 93 (0,0)))(hs:cs.size=4):
  (results Tryz.f26 tmps).run tP w'= .ok (.agg cs) w':=by
 have h2':tmps[6]?.getD undef= pT (some ⟨g,0,none⟩):=by simpa using h2
 have hl:=run_loadVar_row (P:=tP) w' g 93 93 cs (0,0) _ hg Tryz.underlying93 rfl (by rw[Tryz.infoSaid,hs]);simp[results,Tryz.results26,asAddr,h2',hl]
theorem zFv{w w1:World}{B:Nat}(h:Kept B w w1)(cs:Array Value):Kept B w (w1.setRow (w.heap.size+1) cs):=⟨h.os,h.tape,h.output,by simpa[World.setRow]using h.size,fun i hi hne=>(setRow_other w1 _ _ _ kO).trans (h.block i hi hne)⟩
theorem zS1(d:Dsk){k i:Nat}(pre:List Pg)(p:Pg)(rest:List Pg)(R:Rn)(hk:k<3)(hi:pre.length=i)(h8:pre.length+(rest.length+1)<=8)(j:Nat)(hj:j<952):
  (d.put k {d.g k with ps:=pre++p.ran R::rest}).cell j=if k*317+i*19+3<=j/\j<k*317+i*19+3+(z19 R.tab).toList.length then(z19 R.tab).toList.getD (j-(k*317+i*19+3)) undef else(d.put k {d.g k with ps:=pre++p::rest}).cell j:=by
 subst hi;have e:=zVt (d.put k {d.g k with ps:=pre++p::rest}) (i:=pre.length) R.tab hk (by rw[zCn];simp) (by rw[zCn];simp only[List.length_append,lV];omega) j hj;rw[<-e,zCn,zQe];dsimp only;rw[zXq,z9t];rfl
theorem zTi{w:World}{g:Nat}{R:Rn}{v:Value}(h:w.heap[g]?=some (cT (rnCs R v) 127 (0,0))):w.rangeAt g 1 (z19 R.tab).toList:=fun j x hx=>by
 have hj:j<16:=by have:=(List.getElem?_eq_some_iff.1 hx).1;simpa[z19]using this
 rw[cell_of_row w g _ _ _ _ h, <-hx];rcases(show j=0\/j=1\/j=2\/j=3\/j=4\/j=5\/j=6\/j=7\/j=8\/j=9\/j=10\/j=11\/j=12\/j=13\/j=14\/j=15 by omega)with rfl|rfl|rfl|rfl|rfl|rfl|rfl|rfl|rfl|rfl|rfl|rfl|rfl|rfl|rfl|rfl<;>rfl
theorem z3d{w:World}{b n z:Nat}{e:TypeId}{v:Value}{xs:List Value}(h:w.ownsRow b e z v n xs): ∃a c,v= .slice a n c:=by
 rcases rowShape h with⟨rfl,rfl⟩|⟨g,cap,rfl⟩
 ·exact⟨_,_,rfl⟩
 exact⟨_,_,rfl⟩
theorem zR8(B k:Nat)(hk:k<3)(d:Dsk)(T:Nat->Int)(time:Int)(w:World)(hD:z0d w B d)(h8:(d.g k).ps.length<=8)(HP:Hid (∀p,p∈(d.g k).ps->PgOk w B p))(HT:Hid (∀i,i<8->In64 (T i)))(HTI:Hid (In64 time)):
  Calls tP 26 #[pT (some ⟨B,k*317,none⟩),.agg (z06 T),A E time] w fun e w'=> ∃vo,e= rT (.agg #[A E (z05 T time (d.g k).ps sd0).1.bf,A E (z05 T time (d.g k).ps sd0).1.num,vo,A E (z05 T time (d.g k).ps sd0).1.steps])/\Kept B w w'/\z0d w' B (d.put k {d.g k with ps:=(z05 T time (d.g k).ps sd0).2})/\w'.ownsRow (w.heap.size+1+1+1) 2 1 vo (z05 T time (d.g k).ps sd0).1.out.length ((z05 T time (d.g k).ps sd0).1.out.map (Value.int .i64)):=by
 have hlt:=hD.lt
 have hK0:Blk w [(w.heap.size,cT (z06 T) 34 (0,0)),(w.heap.size+1,cT #[A E 0,A E 0,.slice none 0 0,A E 0] 93 (0,0)),(w.heap.size+1+1,cT #[A E 0,A E 0,.slice none 0 0,A E 0] 93 (0,0)),(B,cT (Array.ofFn (n:=952) fun i=>Dsk.cell d i.1) 72 (0,0))] (((w.alloc (cT (z06 T) 34)).alloc (cT #[A E 0,A E 0,.slice none 0 0,A E 0] 93)).alloc (cT #[A E 0,A E 0,.slice none 0 0,A E 0] 93)):=by
  have h:=((((Blk.nil (((((bF _ w).alloc (Nat.le_refl _) (cT (z06 T) 34)).alloc kS (cT #[A E 0,A E 0,.slice none 0 0,A E 0] 93)).alloc kZ (cT #[A E 0,A E 0,.slice none 0 0,A E 0] 93)))).cons ((heap_alloc_old _ _ kZ).trans ((heap_alloc_old _ _ kZ).trans ((heap_alloc_old _ _ hD.lt).trans hD)))).cons (z7h w (cT (z06 T) 34) (cT #[A E 0,A E 0,.slice none 0 0,A E 0] 93) (cT #[A E 0,A E 0,.slice none 0 0,A E 0] 93))).cons (z64 w (cT (z06 T) 34) (cT #[A E 0,A E 0,.slice none 0 0,A E 0] 93) (cT #[A E 0,A E 0,.slice none 0 0,A E 0] 93))).cons (z88 w (cT (z06 T) 34) (cT #[A E 0,A E 0,.slice none 0 0,A E 0] 93) (cT #[A E 0,A E 0,.slice none 0 0,A E 0] 93));exact h
 have hc0:=z21 (hK0.2 _ (mcO _ (mcO _ (mcO _ mcS)))) hk
 have HS0:Hid (RunSt w B k d T time 0 (((w.alloc (cT (z06 T) 34)).alloc (cT #[A E 0,A E 0,.slice none 0 0,A E 0] 93)).alloc (cT #[A E 0,A E 0,.slice none 0 0,A E 0] 93))):=by
  refine⟨[],(d.g k).ps,sd0,.slice none 0 0,rfl,by simp,rfl,z09 hK0.1 B,?_,hK0.2 _ mcS,hK0.2 _ (mcO _ mcS),hK0.2 _ (mcO _ (mcO _ mcS)),World.ownsRow_nil _ _ _ _,fun p hp=>hp,by decide,by decide,by decide⟩;have e:(d.put k {d.g k with ps:=[]++(d.g k).ps})=d:=zU2 d k;rw[e];exact hK0.2 _ (mcO _ (mcO _ (mcO _ mcS)))
 have hN:((d.g k).ps.length:Int)<=8:=kO;obtain⟨N,HN⟩: ∃N,Hid ((d.g k).ps.length=N):=⟨_,rfl⟩;rw[HN.out]at hc0 hN;clear hK0;go_enter Tryz.func26,Tryz.ntmps26;go_wp2_with fail;clear hc0;go_loopw [16] (fun iv wr=> ∃i:Nat,iv=A E i/\i<=N/\Hid (RunSt w B k d T time i wr)) (fun iv _=>N-(intOf iv).toNat)
 case atStart=>exact⟨0,rfl,Nat.zero_le _,HS0.out⟩
 case round=>
  obtain⟨i,rfl,hi,H⟩:=hrel;clear HS0;have hi0:(0:Int)<=(i:Int):=kO
  by_cases hlt:i<N
  ·have hlt':(i:Int)<(N:Int):=kO
   have hi8:(i:Int)<8:=kO;obtain⟨pre,rest,s,vo,hpre,hsum,hgo,hkp,hdk,ht,hz,hsd,hown,hpg,hfo,hf1,hf2⟩:=H.out.ex;have HGO:Hid (z05 T time (d.g k).ps sd0=((z05 T time rest s).1,pre++(z05 T time rest s).2)):=hgo;clear hgo
   obtain⟨p,rest',rfl⟩: ∃p rest',rest=p::rest':=by
    cases rest with
    |nil=>rw[HN.out]at hsum;simp at hsum;omega
    |cons p r=>exact⟨p,r,rfl⟩
   have hpi:((d.put k {d.g k with ps:=pre++p::rest'}).g k).ps.getD i pg0=p:=by rw[zCn, <-hpre];exact z9t _ _ _ _
   have e8:i<8:=kO;have hpk:=(HP.out p (hpg p mcS)).kept hkp;have hC:Blk wr [(w.heap.size,cT (z06 T) 34 (0,0)),(B,cT (Array.ofFn (n:=952) fun i=>Dsk.cell (d.put k {d.g k with ps:=pre++p::rest'}) i.1) 72 (0,0))] wr:=(Blk.nil (bF _ _)).cons hdk|>.cons ht
   have hF6: ∀x,x∈([(w.heap.size,cT (z06 T) 34 (0,0)),(B,cT (Array.ofFn (n:=952) fun i=>Dsk.cell (d.put k {d.g k with ps:=pre++p::rest'}) i.1) 72 (0,0))]:List (Nat×Obj))->x.1<wr.heap.size:=fun x hx=>(Array.getElem?_eq_some_iff.1 (hC.2 x hx)).1;go_upto_region 6 with fail
   go_cut [10] (fun s10 wx=>Hid (∃g v2,s10= pT (some ⟨g,0,none⟩)/\Below wr.heap.size wr wx/\wr.heap.size<=g/\wx.heap[g]?=some (cT (rnCs (p.run T time) v2) 127 (0,0))/\wx.ownsRow wr.heap.size 2 1 v2 (p.run T time).out.length ((p.run T time).out.map (Value.int .i64))))
   case first=>
    have hD:=hC.drew;refine wp_region_held_drew (S:=Blk wr [(w.heap.size,cT (z06 T) 34 (0,0)),(B,cT (Array.ofFn (n:=952) fun i=>Dsk.cell (d.put k {d.g k with ps:=pre++p::rest'}) i.1) 72 (0,0))]) kR hD fun _=>?_;change wpAnyH _ _ _ _ _ 17 (Array.replicate 17 false) _ _
    refine tkH (i:=0) (some 25) (pT (some ⟨B,k*317+i*19,none⟩)) rfl rfl (fun V hV=>by go_simp) hD ?_;simp only[pS];refine tkH (i:=1) (some 26) (pT (some ⟨B,k*317+i*19,none⟩)) rfl rfl (fun V hV=>by go_simp) hD ?_;simp only[pS];refine tkH (i:=2) (some 27) (pT (some ⟨B,k*317+i*19+2,none⟩)) rfl rfl (fun V hV=>by go_simp) hD ?_;simp only[pS];refine tkH (i:=3) (some 28) (p.sl) rfl rfl (fun V hV=>by have hDv:z0d V B _:=hV.2 _ (mcO _ mcS);have c2:=z4t (j:=2) hDv hk e8 kD;rw[hpi]at c2;have c2:V.cell? ⟨B,k*317+i*19+2,none⟩=some p.sl:=c2;go_simp;try rfl) hD ?_;simp only[pS];refine tkH (i:=4) (some 29) (.agg (z06 T)) rfl rfl (fun V hV=>by exact z5a (hV.2 _ mcS) rfl rfl) hD ?_;simp only[pS];refine tkH (i:=5) (some 30) (pT (some ⟨B,k*317+i*19,none⟩)) rfl rfl (fun V hV=>by go_simp) hD ?_;simp only[pS];refine tkH (i:=6) (some 31) (pT (some ⟨B,k*317+i*19,none⟩)) rfl rfl (fun V hV=>by go_simp) hD ?_;simp only[pS];refine tkH (i:=7) (some 32) (pT (some ⟨B,k*317+i*19+3,none⟩)) rfl rfl (fun V hV=>by go_simp) hD ?_;simp only[pS];refine tkH (i:=8) (some 33) (.agg (z19 p.tab)) rfl rfl (fun V hV=>by have hDv:z0d V B _:=hV.2 _ (mcO _ mcS);exact zCs (by have:=zLm hDv hk e8;rw[hpi]at this;exact this) rfl rfl) hD ?_;simp only[pS];refine tkH (i:=9) (some 34) (A E time) rfl rfl (fun V hV=>by go_simp) hD ?_;simp only[pS];refine wpAnyH_ready (rs:=[10,14]) kR kS ?_;refine z3h (some 35) 40 #[p.sl,.agg (z06 T),.agg (z19 p.tab),A E time] rfl rfl kI (by go_simp) ?_ (z24 (some 10) (pT (some ⟨wr.heap.size,0,none⟩)) (wr.drew.alloc (cT zeroCs 127)) rfl rfl kI kG (hD.later ((bF _ _).alloc (Nat.le_refl _) _)) ?_ AllReadyH.nil)
    ·refine(zL6 (hpk.later hD.1) T time HT.out HTI.out).mono ?_
     rintro e wz ⟨v,rfl,v2,I,rfl,hbz,hoz⟩;have hDz:=hD.later hbz;refine⟨_,rfl,hDz,?_⟩;simp only[pS];refine tkH (i:=11) (some 24) (.tuple #[.agg (rnCs (p.run T time) v2),I]) rfl rfl (fun _ _=>kG) hDz ?_;simp only[pS];refine tkH (i:=12) (some 36) (.agg (rnCs (p.run T time) v2)) rfl rfl (fun _ _=>kG) hDz ?_;simp only[pS];refine tkH (i:=13) (some 37) (I) rfl rfl (fun _ _=>kG) hDz ?_;simp only[pS];refine wpAnyH_ready (rs:=[14]) kR kS ?_;refine z24 (some 10) (pT (some ⟨wz.heap.size,0,none⟩)) (wz.alloc (cT zeroCs 127)) rfl rfl kI kG (hDz.later ((bF _ _).alloc (Nat.le_refl _) _)) ?_ AllReadyH.nil;simp only[pS];have hDa:=hDz.later ((bF _ _).alloc (Nat.le_refl _) (cT zeroCs 127));have hzs:wr.heap.size<=wz.heap.size:=hDz.1.size;have hDs:Blk wr [(w.heap.size,cT (z06 T) 34 (0,0)),(B,cT (Array.ofFn (n:=952) fun i=>Dsk.cell (d.put k {d.g k with ps:=pre++p::rest'}) i.1) 72 (0,0))] ((wz.alloc (cT zeroCs 127)).setRow wz.heap.size (rnCs (p.run T time) v2)):=zS9 hDa hzs hF6 _;refine wpAnyH_ready (rs:=[15]) kR kS ?_;refine z3b ((wz.alloc (cT zeroCs 127)).setRow wz.heap.size (rnCs (p.run T time) v2)) rfl rfl kI (z5o _ (.tmp 10) (.tmp 36) wz.heap.size (rnCs (p.run T time) v2) rfl rfl rfl (heap_alloc_new wz _) rfl (zDz hoz)) hDs ?_ AllReadyH.nil;simp only[pS];refine tkH (i:=16) (some 11) (I) rfl rfl (fun _ _=>kG) hDs ?_;simp only[pS];refine wpAnyH_done kR ?_ _;go_wp2_with fail;go_meet;exact⟨wz.heap.size,v2,rfl,hDs.1,hzs,setRow_heap _ _ zeroCs _ _ _ (heap_alloc_new wz _),z58 (hoz.alloc _) kS (fun e=>by have:=(World.ownsRow.lt hoz _ e).2;omega)⟩
    ·simp only[pS]
     have hDb:=hD.later ((bF _ _).alloc (Nat.le_refl _) (cT zeroCs 127));have hgb:(wr.drew.alloc (cT zeroCs 127)).heap[wr.heap.size]?=some (cT zeroCs 127 (0,0)):=heap_alloc_new wr.drew _;have hsb:(wr.drew.alloc (cT zeroCs 127)).heap.size=wr.heap.size+1:=by simp
     generalize wr.drew.alloc (cT zeroCs 127)=wb at hDb hgb hsb⊢;refine wpAnyH_ready (rs:=[10]) kR kS ?_;refine z3h (some 35) 40 #[p.sl,.agg (z06 T),.agg (z19 p.tab),A E time] rfl rfl kI (by go_simp) ?_ AllReadyH.nil;refine(zL6 (hpk.later hDb.1) T time HT.out HTI.out).mono ?_;rintro e wz ⟨v,rfl,v2,I,rfl,hbz,hoz⟩;have hDz:=hDb.later hbz;have hgz:=(hbz.block _ (by rw[hsb];omega)).trans hgb;refine⟨_,rfl,hDz,?_⟩;simp only[pS];refine tkH (i:=11) (some 24) (.tuple #[.agg (rnCs (p.run T time) v2),I]) rfl rfl (fun _ _=>kG) hDz ?_;simp only[pS];refine tkH (i:=12) (some 36) (.agg (rnCs (p.run T time) v2)) rfl rfl (fun _ _=>kG) hDz ?_;simp only[pS];refine tkH (i:=13) (some 37) (I) rfl rfl (fun _ _=>kG) hDz ?_;simp only[pS];have hDs:Blk wr [(w.heap.size,cT (z06 T) 34 (0,0)),(B,cT (Array.ofFn (n:=952) fun i=>Dsk.cell (d.put k {d.g k with ps:=pre++p::rest'}) i.1) 72 (0,0))] (wz.setRow wr.heap.size (rnCs (p.run T time) v2)):=zS9 hDz (Nat.le_refl _) hF6 _;refine wpAnyH_ready (rs:=[15]) kR kS ?_;refine z3b (wz.setRow wr.heap.size (rnCs (p.run T time) v2)) rfl rfl kI (z5o _ (.tmp 10) (.tmp 36) wr.heap.size (rnCs (p.run T time) v2) rfl rfl rfl hgz rfl (zDz hoz)) hDs ?_ AllReadyH.nil;simp only[pS];refine tkH (i:=16) (some 11) (I) rfl rfl (fun _ _=>kG) hDs ?_;simp only[pS];refine wpAnyH_done kR ?_ _;go_wp2_with fail;go_meet;exact⟨wr.heap.size,v2,rfl,hDs.1,Nat.le_refl _,setRow_heap _ _ zeroCs _ _ _ hgz,z58 hoz (by rw[hsb];omega) (fun e=>by have:=(World.ownsRow.lt hoz _ e).1;omega)⟩
   clear hC;obtain⟨g,v2,rfl,hbc,hgl,hgr,hor⟩:=hcut.out;clear hcut;obtain⟨r1,r2,r3, -⟩:=hpk.small T time HT.out HTI.out;obtain⟨R,HR⟩: ∃R,Hid (p.run T time=R):=⟨_,rfl⟩;rw[HR.out]at hgr hor r1 r2 r3;have hlr:=hdk.lt;have hsz:w.heap.size+1+1<wr.heap.size:=(Array.getElem?_eq_some_iff.1 hsd).1;have hdc:=FnAt.later hdk hbc;have hzc:=(hbc.block _ kO).trans hz;have hsc:=(hbc.block _ kO).trans hsd;have htc:=(hbc.block _ kO).trans ht;have hkc:=z1x hkp hbc;have hoc:=World.ownsRow.kept hown (row:=none) ⟨hbc.os,hbc.tape,hbc.output,hbc.size,fun k hk _=>hbc.block k hk⟩ (by cases hv:vo.ownBlock<;>simp);have hvw:=World.ownsRow.lt hown;have hsc0:=hbc.size;clear hdk hz hsd ht hkp hown hbc hpk hpi;go_upto_region 7 with fail
   go_step
   (refine z00 rfl (pT (some ⟨B,k*317+i*19,none⟩)) wc kG ?_);simp only[pS]
   (refine z00 rfl (pT (some ⟨g,1,none⟩)) wc kG ?_);simp only[pS]
   refine wpList_load_mid rfl 55 (.tmp 39) rfl g 1 rfl (z19 R.tab).toList _ (zTi hgr) Tryz.underlying55 rfl (by rw[Tryz.info55];rfl) ?_;rw[Array.toArray_toList];simp only[pS]
   (refine z00 rfl (pT (some ⟨B,k*317+i*19,none⟩)) wc kG ?_);simp only[pS]
   (refine z00 rfl (pT (some ⟨B,k*317+i*19+3,none⟩)) wc kG ?_);simp only[pS]
   refine wpList_store_mid rfl 55 (.tmp 42) (.tmp 40) rfl B (k*317+i*19+3) (z19 R.tab) rfl rfl (FnAt.there hdc (show k*317+i*19+3+16<=952 by omega)) Tryz.info55 (z5n _) ?_;simp only[pS];have hd7:z0d (wc.setCells B (k*317+i*19+3) (z19 R.tab).toList) B (d.put k {d.g k with ps:=pre++p.ran R::rest'}):=FnAt.ext (FnAt.setCells hdc (z19 R.tab).toList (k*317+i*19+3)) (zS1 d pre p rest' R hk hpre (by rw[HN.out]at hsum;rw[lV]at hsum;omega));have hz7:=(z0y (w:=wc) (B:=B) (show w.heap.size+1≠B by omega) (z19 R.tab).toList (k*317+i*19+3)).trans hzc;have hs7:=(z0y (w:=wc) (B:=B) (show w.heap.size+1+1≠B by omega) (z19 R.tab).toList (k*317+i*19+3)).trans hsc;have ht7:=(z0y (w:=wc) (B:=B) (show w.heap.size≠B by omega) (z19 R.tab).toList (k*317+i*19+3)).trans htc;have hg7:=(z0y (w:=wc) (B:=B) (show g≠B by omega) (z19 R.tab).toList (k*317+i*19+3)).trans hgr;have hk7:=z1y hkc (k*317+i*19+3) (z19 R.tab).toList;have ho7:=World.ownsRow.kept hoc (z1y (z12 B wc) (k*317+i*19+3) (z19 R.tab).toList) (Or.inr fun e=>by have:=hvw _ e;omega);have hr7:=World.ownsRow.kept hor (z1y (z12 B wc) (k*317+i*19+3) (z19 R.tab).toList) (Or.inr fun e=>by have:=World.ownsRow.lt hor _ e;omega);clear hdc hzc hsc htc hgr hkc hoc hor;generalize wc.setCells B (k*317+i*19+3) (z19 R.tab).toList=w7 at hd7 hz7 hs7 ht7 hg7 hk7 ho7 hr7⊢;obtain⟨qa,qc,rfl⟩:=z3d ho7;obtain⟨qb,qd,rfl⟩:=z3d hr7;have c2:w7.cell? ⟨w.heap.size+1+1,2,none⟩=some (.slice qa s.out.length qc):=(cell_of_row w7 _ 2 _ _ _ hs7).trans rfl;have g17:w7.cell? ⟨g,17,none⟩=some (.slice qb R.out.length qd):=(cell_of_row w7 _ 17 _ _ _ hg7).trans rfl;go_upto_region 8 with fail
   go_step
   (refine z00 rfl (pT (some ⟨w.heap.size+1+1,2,none⟩)) w7 kG ?_);simp only[pS]
   (refine z00 rfl (.slice qa s.out.length qc) w7 kG ?_);simp only[pS]
   (refine z00 rfl (pT (some ⟨g,17,none⟩)) w7 kG ?_);simp only[pS]
   (refine z00 rfl (.slice qb R.out.length qd) w7 kG ?_);simp only[pS]
   obtain⟨i0,hi0,hz0,hz1,hz2⟩:=info_parts Tryz.infoI;refine z4v w7 rfl (.tmp 44) (.tmp 46) 91 rfl (w.heap.size+1+1+1) 2 i0 (A E 0) 1 8 Tryz.underlying91 hi0 hz0 hz1 hz2 rfl kD _ _ _ rfl ho7 wr.heap.size _ _ _ rfl hr7 (by intro u hu;obtain⟨x, -,rfl⟩:=List.mem_map.1 hu;rfl) (by unfold maxLen;omega) kO (by have:=hk7.size;have:=(Array.getElem?_eq_some_iff.1 hs7).1;omega) ?_;intro v8 w8 ho8 hg8;simp only[pS];obtain⟨qe,qf,rfl⟩:=z3d ho8;have nb: ∀b,b<w.heap.size+1+1+1->w8.heap[b]?=w7.heap[b]?:=fun b hb=>hg8.block b (by have:=(Array.getElem?_eq_some_iff.1 hs7).1;omega) fun e=>by have:=hvw _ e.symm;omega
   have hd8:=FnAt.block hd7 (nb B kO);have hz8:=(nb _ kO).trans hz7;have hs8:=(nb _ kO).trans hs7;have ht8:=(nb _ kO).trans ht7;have hgg8:=(hg8.block g (Array.getElem?_eq_some_iff.1 hg7).1 fun e=>by have:=hvw _ e.symm;omega).trans hg7;have hk8:Kept B w w8:=⟨hg8.os.trans hk7.os,hg8.tape.trans hk7.tape,hg8.output.trans hk7.output,Nat.le_trans hk7.size hg8.size,fun b hb hne=>(nb b kO).trans (hk7.block b hb hne)⟩;clear nb c2 g17 hd7 hz7 hs7 ht7 hg7 hk7 ho7 hr7 hg8 hi0 hz0 hz1 hz2;have c2:w8.cell? ⟨w.heap.size+1+1,2,none⟩=some (.slice qa s.out.length qc):=(cell_of_row w8 _ 2 _ _ _ hs8).trans rfl;have f2:w8.frozen? ⟨w.heap.size+1+1,2,none⟩=false:=by simp[World.frozen?,hs8]
   go_upto_region 9 with fail
   have hd9:=FnAt.block hd8 (heap_setCell_other w8 ⟨w.heap.size+1+1,2,none⟩ B (.slice qe (s.out.length+R.out.length) qf) (show B≠w.heap.size+1+1 by omega));have hz9:=(heap_setCell_other w8 ⟨w.heap.size+1+1,2,none⟩ (w.heap.size+1) (.slice qe (s.out.length+R.out.length) qf) (show w.heap.size+1≠w.heap.size+1+1 by omega)).trans hz8;have ht9:=(heap_setCell_other w8 ⟨w.heap.size+1+1,2,none⟩ w.heap.size (.slice qe (s.out.length+R.out.length) qf) (show w.heap.size≠w.heap.size+1+1 by omega)).trans ht8;have hgg9:=(heap_setCell_other w8 ⟨w.heap.size+1+1,2,none⟩ g (.slice qe (s.out.length+R.out.length) qf) (show g≠w.heap.size+1+1 by omega)).trans hgg8;have hs9:(w8.setCell ⟨w.heap.size+1+1,2,none⟩ (.slice qe (s.out.length+R.out.length) qf)).heap[w.heap.size+1+1]?=some (cT #[A E s.bf,A E s.num,(.slice qe (s.out.length+R.out.length) qf),A E s.steps] 93 (0,0)):=(heap_setCell_same w8 (w.heap.size+1+1) 2 _ _ (.slice qe (s.out.length+R.out.length) qf) hs8).trans rfl;have hk9:=z3k hk8 ⟨w.heap.size+1+1,2,none⟩ (.slice qe (s.out.length+R.out.length) qf) (show w.heap.size<=w.heap.size+1+1 by omega);have ho9:=ownsRow_setCell_below ho8 (a:=⟨w.heap.size+1+1,2,none⟩) (show w.heap.size+1+1<w.heap.size+1+1+1 by omega) (.slice qe (s.out.length+R.out.length) qf);clear hd8 hz8 ht8 hgg8 hs8 hk8 ho8 c2 f2;generalize w8.setCell ⟨w.heap.size+1+1,2,none⟩ (.slice qe (s.out.length+R.out.length) qf)=w9 at hd9 hz9 ht9 hgg9 hs9 hk9 ho9⊢;have c3:w9.cell? ⟨w.heap.size+1+1,3,none⟩=some (A E s.steps):=(cell_of_row w9 _ 3 _ _ _ hs9).trans rfl;have f3:w9.frozen? ⟨w.heap.size+1+1,3,none⟩=false:=by simp[World.frozen?,hs9]
   have g18:w9.cell? ⟨g,18,none⟩=some (A E R.steps):=(cell_of_row w9 _ 18 _ _ _ hgg9).trans rfl;have e9:IntKind.i64.wrap (s.steps+R.steps)=s.steps+R.steps:=by rw[IntWalk.i64_left,z08 kO kO]
   go_upto_region 10 with fail
   clear c3 f3 g18 e9;have hda:=FnAt.block hd9 (heap_setCell_other w9 ⟨w.heap.size+1+1,3,none⟩ B (A E (s.steps+R.steps)) (show B≠w.heap.size+1+1 by omega));have hza:=(heap_setCell_other w9 ⟨w.heap.size+1+1,3,none⟩ (w.heap.size+1) (A E (s.steps+R.steps)) (show w.heap.size+1≠w.heap.size+1+1 by omega)).trans hz9;have hta:=(heap_setCell_other w9 ⟨w.heap.size+1+1,3,none⟩ w.heap.size (A E (s.steps+R.steps)) (show w.heap.size≠w.heap.size+1+1 by omega)).trans ht9;have hgga:=(heap_setCell_other w9 ⟨w.heap.size+1+1,3,none⟩ g (A E (s.steps+R.steps)) (show g≠w.heap.size+1+1 by omega)).trans hgg9;have hsa:(w9.setCell ⟨w.heap.size+1+1,3,none⟩ (A E (s.steps+R.steps))).heap[w.heap.size+1+1]?=some (cT #[A E s.bf,A E s.num,(.slice qe (s.out.length+R.out.length) qf),A E (s.steps+R.steps)] 93 (0,0)):=(heap_setCell_same w9 (w.heap.size+1+1) 3 _ _ (A E (s.steps+R.steps)) hs9).trans rfl;have hka:=z3k hk9 ⟨w.heap.size+1+1,3,none⟩ (A E (s.steps+R.steps)) (show w.heap.size<=w.heap.size+1+1 by omega);have hoa:=ownsRow_setCell_below ho9 (a:=⟨w.heap.size+1+1,3,none⟩) (show w.heap.size+1+1<w.heap.size+1+1+1 by omega) (A E (s.steps+R.steps));clear hd9 hz9 ht9 hgg9 hs9 hk9 ho9;generalize w9.setCell ⟨w.heap.size+1+1,3,none⟩ (A E (s.steps+R.steps))=wa at hda hza hta hgga hsa hka hoa⊢;have g0:wa.cell? ⟨g,0,none⟩=some (A E R.num):=(cell_of_row wa _ 0 _ _ _ hgga).trans rfl
   by_cases hn:R.num=0
   ·have n2:(R.num !=0)=false:=by simp[hn]
    have hM:s.more p R=⟨s.bf,s.num,s.out++R.out,s.steps+R.steps⟩:=by unfold Sd.more;rw[if_pos hn,if_pos hn]
    have HM:Hid (s.more p R=⟨s.bf,s.num,s.out++R.out,s.steps+R.steps⟩):=hM;have HG:Hid (z05 T time (d.g k).ps sd0=((z05 T time rest' (s.more p R)).1,(pre++[p.ran R])++(z05 T time rest' (s.more p R)).2)):=by have h:=HGO.out;rw[z05,HR.out,if_pos hn]at h;rw[List.append_assoc];exact h
    clear hn hM;go_wp2_with fail;go_roundw
    case rel=>
     refine⟨i+1,by go_num,by omega,⟨pre++[p.ran R],rest',s.more p R,(.slice qe (s.out.length+R.out.length) qf),by rw[List.length_append,hpre];rfl,by rw[lV]at hsum;rw[List.length_append,List.length_singleton];omega,HG.out,hka,?_,hta,hza,?_,?_,fun q hq=>hpg q (mcO _ hq),?_,?_,?_⟩⟩
     ·rw[List.append_assoc];exact hda
     ·rw[HM.out];exact hsa
     ·rw[HM.out];dsimp only;rw[List.length_append,List.map_append];exact hoa
     ·rw[HM.out];dsimp only;rw[List.length_append];omega
     ·rw[HM.out];dsimp only;omega
     ·rw[HM.out];dsimp only;omega
    case measure=>simp[intOf];omega
   ·have n2:(R.num !=0)=true:=by simp[hn]
    have hM:s.more p R=⟨p.id,R.num,s.out++R.out,s.steps+R.steps⟩:=by unfold Sd.more;rw[if_neg hn,if_neg hn]
    have HG:Hid (z05 T time (d.g k).ps sd0=(⟨p.id,R.num,s.out++R.out,s.steps+R.steps⟩,pre++p.ran R::rest')):=by have h:=HGO.out;rw[z05,HR.out,if_neg hn,hM]at h;exact h
    clear hn hM;go_upto_region 11 with fail
    clear g0;go_cut [] (fun wx=>Hid (z0d wx B (d.put k {d.g k with ps:=pre++p.ran R::rest'})/\wx.heap[w.heap.size+1]?=some (cT #[A E 0,A E 0,.slice none 0 0,A E 0] 93 (0,0))/\wx.heap[w.heap.size+1+1]?=some (cT #[A E p.id,A E R.num,(.slice qe (s.out.length+R.out.length) qf),A E (s.steps+R.steps)] 93 (0,0))/\Kept B w wx/\wx.ownsRow (w.heap.size+1+1+1) 2 1 (.slice qe (s.out.length+R.out.length) qf) (s.out.length+R.out.length) (s.out.map (Value.int .i64)++R.out.map (Value.int .i64))))
    case first=>
     have hSd:SdSt B g (Dsk.cell (d.put k {d.g k with ps:=pre++p.ran R::rest'})) (cT (rnCs R (.slice qb R.out.length qd)) 127 (0,0)) wa.drew:=⟨hda,hgga⟩;have hza:wa.drew.heap[w.heap.size+1]?=some (cT #[A E 0,A E 0,.slice none 0 0,A E 0] 93 (0,0)):=hza;have hsa:wa.drew.heap[w.heap.size+1+1]?=some (cT #[A E s.bf,A E s.num,(.slice qe (s.out.length+R.out.length) qf),A E (s.steps+R.steps)] 93 (0,0)):=hsa;have hka:Kept B w wa.drew:=z50 hka;have hoa:wa.drew.ownsRow (w.heap.size+1+1+1) 2 1 (.slice qe (s.out.length+R.out.length) qf) (s.out.length+R.out.length) (s.out.map (Value.int .i64)++R.out.map (Value.int .i64)):=⟨hoa.1,hoa.2⟩;have hpi2:((d.put k {d.g k with ps:=pre++p.ran R::rest'}).g k).ps.getD i pg0=p.ran R:=by rw[zCn, <-hpre];exact z9t _ _ _ _
     refine wp_region_held_drew (S:=SdSt B g (Dsk.cell (d.put k {d.g k with ps:=pre++p.ran R::rest'})) (cT (rnCs R (.slice qb R.out.length qd)) 127 (0,0))) kR hSd fun _=>?_;change wpAnyH _ _ _ _ _ 10 (Array.replicate 10 false) _ _
     clear hda hgga;generalize wa.drew=wb at hSd hza hsa hka hoa⊢;have hd1:SdSt B g (Dsk.cell (d.put k {d.g k with ps:=pre++p.ran R::rest'})) (cT (rnCs R (.slice qb R.out.length qd)) 127 (0,0)) (wb.setCell ⟨w.heap.size+1+1,0,none⟩ (A E p.id)):=zFt hSd (S:=w.heap.size+1+1) (i:=0) kO kO _;have c0:wb.cell? ⟨w.heap.size+1+1,0,none⟩=some (A E s.bf):=(cell_of_row wb _ 0 _ _ _ hsa).trans rfl;have f0:wb.frozen? ⟨w.heap.size+1+1,0,none⟩=false:=by simp[World.frozen?,hsa]
     refine tkH (i:=0) (some 58) (pT (some ⟨B,k*317+i*19,none⟩)) rfl rfl (fun _ _=>kG) hSd ?_;simp only[pS];refine tkH (i:=4) (some 62) (pT (some ⟨g,0,none⟩)) rfl rfl (fun _ _=>kG) hSd ?_;simp only[pS];refine wpAnyH_ready (rs:=[1,5]) kR kS ?_;refine(z24 (some 59) (pT (some ⟨B,k*317+i*19,none⟩)) wb rfl rfl kI kG hSd ?_ (z24 (some 63) (A E R.num) wb rfl rfl kI (by have c2:World.cell? wb ⟨g,0,none⟩=some (A E R.num):=(cell_of_row wb _ 0 _ _ _ hSd.2).trans rfl;go_simp;try rfl) hSd ?_ AllReadyH.nil))
     ·simp only[pS]
      refine tkH (i:=2) (some 60) (pT (some ⟨B,k*317+i*19,none⟩)) rfl rfl (fun _ _=>kG) hSd ?_;simp only[pS];refine wpAnyH_ready (rs:=[3,5]) kR kS ?_;refine(z24 (some 61) (A E p.id) wb rfl rfl kI (by have c2:=z4t (j:=0) hSd.1 hk e8 kD;rw[hpi2]at c2;have c2:World.cell? wb ⟨B,k*317+i*19,none⟩=some (A E p.id):=c2;go_simp;try rfl) hSd ?_ (z24 (some 63) (A E R.num) wb rfl rfl kI (by have c2:World.cell? wb ⟨g,0,none⟩=some (A E R.num):=(cell_of_row wb _ 0 _ _ _ hSd.2).trans rfl;go_simp;try rfl) hSd ?_ AllReadyH.nil))
      ·simp only[pS]
       refine tkH (i:=6) (some 64) (pT (some ⟨w.heap.size+1+1,0,none⟩)) rfl rfl (fun _ _=>kG) hSd ?_;simp only[pS];refine wpAnyH_ready (rs:=[5,7]) kR kS ?_;refine(z24 (some 63) (A E R.num) wb rfl rfl kI (by have c2:World.cell? wb ⟨g,0,none⟩=some (A E R.num):=(cell_of_row wb _ 0 _ _ _ hSd.2).trans rfl;go_simp;try rfl) hSd ?_ (z3b (wb.setCell ⟨w.heap.size+1+1,0,none⟩ (A E p.id)) rfl rfl kI kG hd1 ?_ AllReadyH.nil))
       ·simp only[pS]
        refine wpAnyH_ready (rs:=[7]) kR kS ?_;refine(z3b (wb.setCell ⟨w.heap.size+1+1,0,none⟩ (A E p.id)) rfl rfl kI kG hd1 ?_ AllReadyH.nil);simp only[pS];have hs1:(wb.setCell ⟨w.heap.size+1+1,0,none⟩ (A E p.id)).heap[w.heap.size+1+1]?=some (cT #[A E p.id,A E s.num,(.slice qe (s.out.length+R.out.length) qf),A E (s.steps+R.steps)] 93 (0,0)):=(heap_setCell_same wb (w.heap.size+1+1) 0 _ _ (A E p.id) hsa).trans rfl;have hza:=(heap_setCell_other wb ⟨w.heap.size+1+1,0,none⟩ (w.heap.size+1) (A E p.id) (show w.heap.size+1≠w.heap.size+1+1 by omega)).trans hza;have hka:=z3k hka ⟨w.heap.size+1+1,0,none⟩ (A E p.id) (show w.heap.size<=w.heap.size+1+1 by omega);have hoa:=ownsRow_setCell_below hoa (a:=⟨w.heap.size+1+1,0,none⟩) (show w.heap.size+1+1<w.heap.size+1+1+1 by omega) (A E p.id);generalize wb.setCell ⟨w.heap.size+1+1,0,none⟩ (A E p.id)=wf at hs1 hza hka hoa hd1⊢;have c1:wf.cell? ⟨w.heap.size+1+1,1,none⟩=some (A E s.num):=(cell_of_row wf _ 1 _ _ _ hs1).trans rfl;have f1:wf.frozen? ⟨w.heap.size+1+1,1,none⟩=false:=by simp[World.frozen?,hs1]
        have hd2:SdSt B g (Dsk.cell (d.put k {d.g k with ps:=pre++p.ran R::rest'})) (cT (rnCs R (.slice qb R.out.length qd)) 127 (0,0)) (wf.setCell ⟨w.heap.size+1+1,1,none⟩ (A E R.num)):=zFt hd1 (S:=w.heap.size+1+1) (i:=1) kO kO _;refine tkH (i:=8) (some 65) (pT (some ⟨w.heap.size+1+1,1,none⟩)) rfl rfl (fun _ _=>kG) hd1 ?_;simp only[pS];refine wpAnyH_ready (rs:=[9]) kR kS ?_;refine(z3b (wf.setCell ⟨w.heap.size+1+1,1,none⟩ (A E R.num)) rfl rfl kI kG hd2 ?_ AllReadyH.nil);simp only[pS];refine wpAnyH_done kR ?_ _;go_wp2_with fail;go_meet;exact⟨hd2.1,(heap_setCell_other wf ⟨w.heap.size+1+1,1,none⟩ (w.heap.size+1) (A E R.num) (show w.heap.size+1≠w.heap.size+1+1 by omega)).trans hza,(heap_setCell_same wf (w.heap.size+1+1) 1 _ _ (A E R.num) hs1).trans rfl,z3k hka ⟨w.heap.size+1+1,1,none⟩ (A E R.num) (show w.heap.size<=w.heap.size+1+1 by omega),ownsRow_setCell_below hoa (a:=⟨w.heap.size+1+1,1,none⟩) (show w.heap.size+1+1<w.heap.size+1+1+1 by omega) (A E R.num)⟩
       ·simp only[pS]
        have hs1:(wb.setCell ⟨w.heap.size+1+1,0,none⟩ (A E p.id)).heap[w.heap.size+1+1]?=some (cT #[A E p.id,A E s.num,(.slice qe (s.out.length+R.out.length) qf),A E (s.steps+R.steps)] 93 (0,0)):=(heap_setCell_same wb (w.heap.size+1+1) 0 _ _ (A E p.id) hsa).trans rfl;have hza:=(heap_setCell_other wb ⟨w.heap.size+1+1,0,none⟩ (w.heap.size+1) (A E p.id) (show w.heap.size+1≠w.heap.size+1+1 by omega)).trans hza;have hka:=z3k hka ⟨w.heap.size+1+1,0,none⟩ (A E p.id) (show w.heap.size<=w.heap.size+1+1 by omega);have hoa:=ownsRow_setCell_below hoa (a:=⟨w.heap.size+1+1,0,none⟩) (show w.heap.size+1+1<w.heap.size+1+1+1 by omega) (A E p.id);generalize wb.setCell ⟨w.heap.size+1+1,0,none⟩ (A E p.id)=wf at hs1 hza hka hoa hd1⊢;have c1:wf.cell? ⟨w.heap.size+1+1,1,none⟩=some (A E s.num):=(cell_of_row wf _ 1 _ _ _ hs1).trans rfl;have f1:wf.frozen? ⟨w.heap.size+1+1,1,none⟩=false:=by simp[World.frozen?,hs1]
        have hd2:SdSt B g (Dsk.cell (d.put k {d.g k with ps:=pre++p.ran R::rest'})) (cT (rnCs R (.slice qb R.out.length qd)) 127 (0,0)) (wf.setCell ⟨w.heap.size+1+1,1,none⟩ (A E R.num)):=zFt hd1 (S:=w.heap.size+1+1) (i:=1) kO kO _;refine wpAnyH_ready (rs:=[5]) kR kS ?_;refine(z24 (some 63) (A E R.num) wf rfl rfl kI (by have c2:World.cell? wf ⟨g,0,none⟩=some (A E R.num):=(cell_of_row wf _ 0 _ _ _ hd1.2).trans rfl;go_simp;try rfl) hd1 ?_ AllReadyH.nil);simp only[pS];refine tkH (i:=8) (some 65) (pT (some ⟨w.heap.size+1+1,1,none⟩)) rfl rfl (fun _ _=>kG) hd1 ?_;simp only[pS];refine wpAnyH_ready (rs:=[9]) kR kS ?_;refine(z3b (wf.setCell ⟨w.heap.size+1+1,1,none⟩ (A E R.num)) rfl rfl kI kG hd2 ?_ AllReadyH.nil);simp only[pS];refine wpAnyH_done kR ?_ _;go_wp2_with fail;go_meet;exact⟨hd2.1,(heap_setCell_other wf ⟨w.heap.size+1+1,1,none⟩ (w.heap.size+1) (A E R.num) (show w.heap.size+1≠w.heap.size+1+1 by omega)).trans hza,(heap_setCell_same wf (w.heap.size+1+1) 1 _ _ (A E R.num) hs1).trans rfl,z3k hka ⟨w.heap.size+1+1,1,none⟩ (A E R.num) (show w.heap.size<=w.heap.size+1+1 by omega),ownsRow_setCell_below hoa (a:=⟨w.heap.size+1+1,1,none⟩) (show w.heap.size+1+1<w.heap.size+1+1+1 by omega) (A E R.num)⟩
      ·simp only[pS]
       refine wpAnyH_ready (rs:=[3]) kR kS ?_;refine(z24 (some 61) (A E p.id) wb rfl rfl kI (by have c2:=z4t (j:=0) hSd.1 hk e8 kD;rw[hpi2]at c2;have c2:World.cell? wb ⟨B,k*317+i*19,none⟩=some (A E p.id):=c2;go_simp;try rfl) hSd ?_ AllReadyH.nil);simp only[pS];refine tkH (i:=6) (some 64) (pT (some ⟨w.heap.size+1+1,0,none⟩)) rfl rfl (fun _ _=>kG) hSd ?_;simp only[pS];refine wpAnyH_ready (rs:=[7]) kR kS ?_;refine(z3b (wb.setCell ⟨w.heap.size+1+1,0,none⟩ (A E p.id)) rfl rfl kI kG hd1 ?_ AllReadyH.nil);simp only[pS];have hs1:(wb.setCell ⟨w.heap.size+1+1,0,none⟩ (A E p.id)).heap[w.heap.size+1+1]?=some (cT #[A E p.id,A E s.num,(.slice qe (s.out.length+R.out.length) qf),A E (s.steps+R.steps)] 93 (0,0)):=(heap_setCell_same wb (w.heap.size+1+1) 0 _ _ (A E p.id) hsa).trans rfl;have hza:=(heap_setCell_other wb ⟨w.heap.size+1+1,0,none⟩ (w.heap.size+1) (A E p.id) (show w.heap.size+1≠w.heap.size+1+1 by omega)).trans hza;have hka:=z3k hka ⟨w.heap.size+1+1,0,none⟩ (A E p.id) (show w.heap.size<=w.heap.size+1+1 by omega);have hoa:=ownsRow_setCell_below hoa (a:=⟨w.heap.size+1+1,0,none⟩) (show w.heap.size+1+1<w.heap.size+1+1+1 by omega) (A E p.id);generalize wb.setCell ⟨w.heap.size+1+1,0,none⟩ (A E p.id)=wf at hs1 hza hka hoa hd1⊢;have c1:wf.cell? ⟨w.heap.size+1+1,1,none⟩=some (A E s.num):=(cell_of_row wf _ 1 _ _ _ hs1).trans rfl;have f1:wf.frozen? ⟨w.heap.size+1+1,1,none⟩=false:=by simp[World.frozen?,hs1]
       have hd2:SdSt B g (Dsk.cell (d.put k {d.g k with ps:=pre++p.ran R::rest'})) (cT (rnCs R (.slice qb R.out.length qd)) 127 (0,0)) (wf.setCell ⟨w.heap.size+1+1,1,none⟩ (A E R.num)):=zFt hd1 (S:=w.heap.size+1+1) (i:=1) kO kO _;refine tkH (i:=8) (some 65) (pT (some ⟨w.heap.size+1+1,1,none⟩)) rfl rfl (fun _ _=>kG) hd1 ?_;simp only[pS];refine wpAnyH_ready (rs:=[9]) kR kS ?_;refine(z3b (wf.setCell ⟨w.heap.size+1+1,1,none⟩ (A E R.num)) rfl rfl kI kG hd2 ?_ AllReadyH.nil);simp only[pS];refine wpAnyH_done kR ?_ _;go_wp2_with fail;go_meet;exact⟨hd2.1,(heap_setCell_other wf ⟨w.heap.size+1+1,1,none⟩ (w.heap.size+1) (A E R.num) (show w.heap.size+1≠w.heap.size+1+1 by omega)).trans hza,(heap_setCell_same wf (w.heap.size+1+1) 1 _ _ (A E R.num) hs1).trans rfl,z3k hka ⟨w.heap.size+1+1,1,none⟩ (A E R.num) (show w.heap.size<=w.heap.size+1+1 by omega),ownsRow_setCell_below hoa (a:=⟨w.heap.size+1+1,1,none⟩) (show w.heap.size+1+1<w.heap.size+1+1+1 by omega) (A E R.num)⟩
     ·simp only[pS]
      refine wpAnyH_ready (rs:=[1]) kR kS ?_;refine(z24 (some 59) (pT (some ⟨B,k*317+i*19,none⟩)) wb rfl rfl kI kG hSd ?_ AllReadyH.nil);simp only[pS];refine tkH (i:=2) (some 60) (pT (some ⟨B,k*317+i*19,none⟩)) rfl rfl (fun _ _=>kG) hSd ?_;simp only[pS];refine wpAnyH_ready (rs:=[3]) kR kS ?_;refine(z24 (some 61) (A E p.id) wb rfl rfl kI (by have c2:=z4t (j:=0) hSd.1 hk e8 kD;rw[hpi2]at c2;have c2:World.cell? wb ⟨B,k*317+i*19,none⟩=some (A E p.id):=c2;go_simp;try rfl) hSd ?_ AllReadyH.nil);simp only[pS];refine tkH (i:=6) (some 64) (pT (some ⟨w.heap.size+1+1,0,none⟩)) rfl rfl (fun _ _=>kG) hSd ?_;simp only[pS];refine wpAnyH_ready (rs:=[7]) kR kS ?_;refine(z3b (wb.setCell ⟨w.heap.size+1+1,0,none⟩ (A E p.id)) rfl rfl kI kG hd1 ?_ AllReadyH.nil);simp only[pS];have hs1:(wb.setCell ⟨w.heap.size+1+1,0,none⟩ (A E p.id)).heap[w.heap.size+1+1]?=some (cT #[A E p.id,A E s.num,(.slice qe (s.out.length+R.out.length) qf),A E (s.steps+R.steps)] 93 (0,0)):=(heap_setCell_same wb (w.heap.size+1+1) 0 _ _ (A E p.id) hsa).trans rfl;have hza:=(heap_setCell_other wb ⟨w.heap.size+1+1,0,none⟩ (w.heap.size+1) (A E p.id) (show w.heap.size+1≠w.heap.size+1+1 by omega)).trans hza;have hka:=z3k hka ⟨w.heap.size+1+1,0,none⟩ (A E p.id) (show w.heap.size<=w.heap.size+1+1 by omega);have hoa:=ownsRow_setCell_below hoa (a:=⟨w.heap.size+1+1,0,none⟩) (show w.heap.size+1+1<w.heap.size+1+1+1 by omega) (A E p.id);generalize wb.setCell ⟨w.heap.size+1+1,0,none⟩ (A E p.id)=wf at hs1 hza hka hoa hd1⊢;have c1:wf.cell? ⟨w.heap.size+1+1,1,none⟩=some (A E s.num):=(cell_of_row wf _ 1 _ _ _ hs1).trans rfl;have f1:wf.frozen? ⟨w.heap.size+1+1,1,none⟩=false:=by simp[World.frozen?,hs1]
      have hd2:SdSt B g (Dsk.cell (d.put k {d.g k with ps:=pre++p.ran R::rest'})) (cT (rnCs R (.slice qb R.out.length qd)) 127 (0,0)) (wf.setCell ⟨w.heap.size+1+1,1,none⟩ (A E R.num)):=zFt hd1 (S:=w.heap.size+1+1) (i:=1) kO kO _;refine tkH (i:=8) (some 65) (pT (some ⟨w.heap.size+1+1,1,none⟩)) rfl rfl (fun _ _=>kG) hd1 ?_;simp only[pS];refine wpAnyH_ready (rs:=[9]) kR kS ?_;refine(z3b (wf.setCell ⟨w.heap.size+1+1,1,none⟩ (A E R.num)) rfl rfl kI kG hd2 ?_ AllReadyH.nil);simp only[pS];refine wpAnyH_done kR ?_ _;go_wp2_with fail;go_meet;exact⟨hd2.1,(heap_setCell_other wf ⟨w.heap.size+1+1,1,none⟩ (w.heap.size+1) (A E R.num) (show w.heap.size+1≠w.heap.size+1+1 by omega)).trans hza,(heap_setCell_same wf (w.heap.size+1+1) 1 _ _ (A E R.num) hs1).trans rfl,z3k hka ⟨w.heap.size+1+1,1,none⟩ (A E R.num) (show w.heap.size<=w.heap.size+1+1 by omega),ownsRow_setCell_below hoa (a:=⟨w.heap.size+1+1,1,none⟩) (show w.heap.size+1+1<w.heap.size+1+1+1 by omega) (A E R.num)⟩
    obtain⟨hdF,hzF,hsF,hkF,hoF⟩:=hcut.out;clear hcut hda hza hsa hka hoa hgga;go_upto_region 13 with fail
    go_step;refine wpList_load_row rfl 93 (.tmp 7) rfl (w.heap.size+1+1) rfl 93 #[A E p.id,A E R.num,(.slice qe (s.out.length+R.out.length) qf),A E (s.steps+R.steps)] (0,0) _ hsF Tryz.underlying93 rfl Tryz.infoSaid ?_;simp only[pS];refine wpList_store_row rfl 93 (.tmp 6) (.tmp 67) rfl (w.heap.size+1) #[A E p.id,A E R.num,(.slice qe (s.out.length+R.out.length) qf),A E (s.steps+R.steps)] rfl rfl 93 #[A E 0,A E 0,.slice none 0 0,A E 0] hzF Tryz.infoSaid rfl kR ?_;simp only[pS];have hr0:=setRow_heap _ (w.heap.size+1) _ #[A E p.id,A E R.num,(.slice qe (s.out.length+R.out.length) qf),A E (s.steps+R.steps)] 93 (0,0) hzF;have hdG:=FnAt.block hdF (setRow_other _ (w.heap.size+1) B #[A E p.id,A E R.num,(.slice qe (s.out.length+R.out.length) qf),A E (s.steps+R.steps)] (show B≠w.heap.size+1 by omega));have hkG:=zFv hkF #[A E p.id,A E R.num,(.slice qe (s.out.length+R.out.length) qf),A E (s.steps+R.steps)];have hoG:=z58 hoF (Nat.le_refl _) (g:=w.heap.size+1) (cs:=#[A E p.id,A E R.num,(.slice qe (s.out.length+R.out.length) qf),A E (s.steps+R.steps)]) (fun e=>by have:=(World.ownsRow.lt hoF _ e).1;omega);go_wp2_with fail;refine bodyPost_ret (v:= .agg #[A E p.id,A E R.num,(.slice qe (s.out.length+R.out.length) qf),A E (s.steps+R.steps)]) (zAf _ _ (w.heap.size+1) _ rfl hr0 rfl) rfl ⟨(.slice qe (s.out.length+R.out.length) qf),?_,hkG,?_,?_⟩
    ·rw[HG.out]
    ·rw[HG.out];exact hdG
    ·rw[HG.out];dsimp only;rw[List.length_append,List.map_append];exact hoG
  ·obtain⟨pre,rest,s,vo,hpre,hsum,hgo,hkF,hdF,ht,hzF,hsF,hoF,hpg,hfo,hf1,hf2⟩:=H.out.ex
   obtain rfl:rest=[]:=List.eq_nil_of_length_eq_zero (by rw[HN.out]at hsum;omega);obtain⟨qa,qc,rfl⟩:=z3d hoF;have HG:Hid (z05 T time (d.g k).ps sd0=(s,pre++[])):=hgo;clear hgo;have hlt': ¬(i:Int)<(N:Int):=kO;have n3:decide ((i:Int)<(N:Int))=false:=kZ;go_upto_region 13 with fail
   go_step;refine wpList_load_row rfl 93 (.tmp 7) rfl (w.heap.size+1+1) rfl 93 #[A E s.bf,A E s.num,.slice qa s.out.length qc,A E s.steps] (0,0) _ hsF Tryz.underlying93 rfl Tryz.infoSaid ?_;simp only[pS];refine wpList_store_row rfl 93 (.tmp 6) (.tmp 67) rfl (w.heap.size+1) #[A E s.bf,A E s.num,.slice qa s.out.length qc,A E s.steps] rfl rfl 93 #[A E 0,A E 0,.slice none 0 0,A E 0] hzF Tryz.infoSaid rfl kR ?_;simp only[pS];have hr0:=setRow_heap _ (w.heap.size+1) _ #[A E s.bf,A E s.num,.slice qa s.out.length qc,A E s.steps] 93 (0,0) hzF;have hdG:=FnAt.block hdF (setRow_other _ (w.heap.size+1) B #[A E s.bf,A E s.num,.slice qa s.out.length qc,A E s.steps] (show B≠w.heap.size+1 by omega));have hkG:=zFv hkF #[A E s.bf,A E s.num,.slice qa s.out.length qc,A E s.steps];have hoG:=z58 hoF (Nat.le_refl _) (g:=w.heap.size+1) (cs:=#[A E s.bf,A E s.num,.slice qa s.out.length qc,A E s.steps]) (fun e=>by have:=(World.ownsRow.lt hoF _ e).1;omega);go_wp2_with fail;refine bodyPost_ret (v:= .agg #[A E s.bf,A E s.num,.slice qa s.out.length qc,A E s.steps]) (zAf _ _ (w.heap.size+1) _ rfl hr0 rfl) rfl ⟨(.slice qa s.out.length qc),?_,hkG,?_,?_⟩
   ·rw[HG.out]
   ·rw[HG.out];exact hdG
   ·rw[HG.out];exact hoG
end
section
open Go.ChangeShapes Go.WideShapes Go.ChangeAt Go.RowKit
attribute [local simp] z0p z0j z04
theorem zXi(B k i r:Nat)(hk:k<3)(hi:i<8)(d:Dsk)(p:Pg)(x:Int)(w:World)(hD:z0d w B d)(hr:w.heap[r]?=some (cT #[A E x] 3 (0,0)))(HP:Hid ((d.g k).ps.getD i pg0=p)):zR 34 #[pT (some ⟨B,k*317+i*19,none⟩),pT (some ⟨r,0,none⟩)] w (.bool (decide (x<p.rank))):=by
 have hK:Blk w [(r,cT #[A E x] 3 (0,0)),(B,cT (Array.ofFn (n:=952) fun i=>Dsk.cell d i.1) 72 (0,0))] w:=((Blk.nil (bF _ _)).cons hD).cons hr;go_enter Tryz.func34,Tryz.ntmps34;go_upto_region 1 with fail
 refine z0o (C:=Blk w [(r,cT #[A E x] 3 (0,0)),(B,cT (Array.ofFn (n:=952) fun i=>Dsk.cell d i.1) 72 (0,0))]) (n0:=w.heap.size) 6 [] [] kR kR (fun d _ _ _ _ h=>by cases d<;>exact h) (Blk.stable _ _) (fun w2 h=>h.1.size) hK.drew trivial ?_;simp only[lQ,lX,lY,lZ,lJ,Nat.reduceAdd]
 repeat(first
  |(refine z0q kI ?_;simp only[pS])
  |(refine z0c kI (v:=?_) ?_ ?_;rotate_left;(intro w2 hC;have hDk:z0d _ B d:=(hC.2 _ (mcO _ mcS));have c2:World.cell? _ ⟨B,k*317+i*19+1,none⟩=some (A E p.rank):=(by have h:=z4t (j:=1) hDk hk hi kD;rw[HP.out]at h;exact h);have c3:World.cell? _ ⟨r,0,none⟩=some (A E x):=(cell_of_row _ _ 0 _ _ _ (hC.2 _ mcS)).trans rfl;go_simp;try with_reducible rfl);simp only[pS]))
 refine z11 ?_;intro w3 hC hB3;go_wp2_with fail;go_ret;exact⟨rfl,hC.1⟩
theorem so_id(B k i r:Nat)(hk:k<3)(hi:i<8)(d:Dsk)(p:Pg)(x:Int)(w:World)(hD:z0d w B d)(hr:w.heap[r]?=some (cT #[A E x] 3 (0,0)))(HP:Hid ((d.g k).ps.getD i pg0=p)):zR 42 #[pT (some ⟨B,k*317+i*19,none⟩),pT (some ⟨r,0,none⟩)] w (.bool (p.id==x)):=by
 have hK:Blk w [(r,cT #[A E x] 3 (0,0)),(B,cT (Array.ofFn (n:=952) fun i=>Dsk.cell d i.1) 72 (0,0))] w:=((Blk.nil (bF _ _)).cons hD).cons hr;go_enter Tryz.func42,Tryz.ntmps42;go_upto_region 1 with fail
 refine z0o (C:=Blk w [(r,cT #[A E x] 3 (0,0)),(B,cT (Array.ofFn (n:=952) fun i=>Dsk.cell d i.1) 72 (0,0))]) (n0:=w.heap.size) 6 [] [] kR kR (fun d _ _ _ _ h=>by cases d<;>exact h) (Blk.stable _ _) (fun w2 h=>h.1.size) hK.drew trivial ?_;simp only[lQ,lX,lY,lZ,lJ,Nat.reduceAdd]
 repeat(first
  |(refine z0q kI ?_;simp only[pS])
  |(refine z0c kI (v:=?_) ?_ ?_;rotate_left;(intro w2 hC;have hDk:z0d _ B d:=(hC.2 _ (mcO _ mcS));have c2:World.cell? _ ⟨B,k*317+i*19,none⟩=some (A E p.id):=(by have h:=z4t (j:=0) hDk hk hi kD;rw[HP.out]at h;exact h);have c3:World.cell? _ ⟨r,0,none⟩=some (A E x):=(cell_of_row _ _ 0 _ _ _ (hC.2 _ mcS)).trans rfl;go_simp;try with_reducible rfl);simp only[pS]))
 refine z11 ?_;intro w3 hC hB3;go_wp2_with fail;go_ret;exact⟨rfl,hC.1⟩
theorem z8u{α:Type}(q:α->Bool)(z:α): ∀(l:List α)(i:Nat),i<l.length->(∀j,j<i->q (l.getD j z)=false)->q (l.getD i z)=true->l.findIdx q=i
 |[],i,h,_,_=>absurd h (Nat.not_lt_zero i)
 |x::l,0,_,_,h=>by
  have h':q x=true:=h;rw[List.findIdx_cons,h'];rfl
 |x::l,i+1,h,ho,hq=>by
  have h0:q x=false:=ho 0 (Nat.succ_pos i);rw[List.findIdx_cons,h0];show l.findIdx q+1=i+1;rw[z8u q z l i (Nat.lt_of_succ_lt_succ h) (fun j hj=>ho (j+1) (Nat.succ_lt_succ hj)) hq]
theorem z5y{α:Type}(q:α->Bool)(z:α): ∀(l:List α),(∀j,j<l.length->q (l.getD j z)=false)->l.findIdx q=l.length
 |[],_=>rfl
 |x::l,ho=>by
  have h0:q x=false:=ho 0 (Nat.succ_pos _);rw[List.findIdx_cons,h0];show l.findIdx q+1=l.length+1;rw[z5y q z l (fun j hj=>ho (j+1) (Nat.succ_lt_succ hj))]
theorem zO7(B k r:Nat)(hk:k<3)(d:Dsk)(x:Int)(w:World)(hD:z0d w B d)(h8:(d.g k).ps.length<=8)(hr:w.heap[r]?=some (cT #[A E x] 3 (0,0))):zR 33 #[pT (some ⟨B,k*317,none⟩),.func (.func 34) #[] #[pT (some ⟨r,0,none⟩)]] w (A E (((d.g k).ps.findIdx fun p=>decide (x<p.rank):Nat):Int)):=by
 have hc0:=z21 hD hk;obtain⟨N,HN⟩: ∃N,Hid ((d.g k).ps.length=N):=⟨_,rfl⟩;have hN:(N:Int)<=8:=by have:=HN.out;omega
 rw[HN.out]at hc0;go_enter Tryz.func33,Tryz.ntmps33;go_wp2_with fail;clear hc0;go_loopw [10] (fun iv wr=> ∃i:Nat,iv=A E i/\i<=N/\Below w.heap.size w wr/\Hid (∀j,j<i->(fun p:Pg=>decide (x<p.rank)) ((d.g k).ps.getD j pg0)=false)) (fun iv _=>N-(intOf iv).toNat)
 case atStart=>exact⟨0,rfl,Nat.zero_le _,bF _ _,fun j hj=>absurd hj (Nat.not_lt_zero j)⟩
 case round=>
  obtain⟨i,rfl,hi,hb,H⟩:=hrel;have hi0:(0:Int)<=(i:Int):=kO;have hDr:=FnAt.later hD hb;have hrr:=(hb.block r (Array.getElem?_eq_some_iff.1 hr).1).trans hr
  by_cases hlt:i<N
  ·have hlt':(i:Int)<(N:Int):=kO
   have hi8:(i:Int)<8:=kO;obtain⟨p,HP⟩: ∃p,Hid ((d.g k).ps.getD i pg0=p):=⟨_,rfl⟩;obtain⟨b,HBb⟩: ∃b,Hid ((fun p:Pg=>decide (x<p.rank)) p=b):=⟨_,rfl⟩;have HS:=zXi B k i r hk kO d p x wr hDr hrr HP;rw[show(decide (x<p.rank))=b from HBb.out]at HS
   cases b with
   |false=>
    go_wp2_with(go_at_call 34;refine HS.mono ?_;rintro e w1 ⟨rfl,hb1⟩);go_roundw
    case rel=>
     refine⟨i+1,by go_num,by omega,hb.trans (hb1.mono hb.size),fun j hj=>?_⟩;rcases Nat.lt_succ_iff_lt_or_eq.1 hj with h|h
     ·exact H.out j h
     ·rw[h,HP.out];exact HBb.out
    case measure=>simp[intOf];omega
   |true=>
    go_wp2_with(go_at_call 34;refine HS.mono ?_;rintro e w1 ⟨rfl,hb1⟩);go_ret;refine⟨?_,hb.trans (hb1.mono hb.size)⟩;rw[z8u (fun p:Pg=>decide (x<p.rank)) pg0 (d.g k).ps i (by rw[HN.out];exact hlt) H.out (by rw[HP.out];exact HBb.out)];rfl
  ·obtain rfl:i=N:=by omega
   have hc1:=z21 hDr hk;rw[HN.out]at hc1;go_wp2_with fail;go_ret;refine⟨?_,hb⟩;rw[z5y (fun p:Pg=>decide (x<p.rank)) pg0 (d.g k).ps (by rw[HN.out];exact H.out),HN.out];rfl
theorem zLg(B k r:Nat)(hk:k<3)(d:Dsk)(x:Int)(w:World)(hD:z0d w B d)(h8:(d.g k).ps.length<=8)(hr:w.heap[r]?=some (cT #[A E x] 3 (0,0))):zR 33 #[pT (some ⟨B,k*317,none⟩),.func (.func 42) #[] #[pT (some ⟨r,0,none⟩)]] w (A E (((d.g k).ps.findIdx fun p=>p.id==x:Nat):Int)):=by
 have hc0:=z21 hD hk;obtain⟨N,HN⟩: ∃N,Hid ((d.g k).ps.length=N):=⟨_,rfl⟩;have hN:(N:Int)<=8:=by have:=HN.out;omega
 rw[HN.out]at hc0;go_enter Tryz.func33,Tryz.ntmps33;go_wp2_with fail;clear hc0;go_loopw [10] (fun iv wr=> ∃i:Nat,iv=A E i/\i<=N/\Below w.heap.size w wr/\Hid (∀j,j<i->(fun p:Pg=>p.id==x) ((d.g k).ps.getD j pg0)=false)) (fun iv _=>N-(intOf iv).toNat)
 case atStart=>exact⟨0,rfl,Nat.zero_le _,bF _ _,fun j hj=>absurd hj (Nat.not_lt_zero j)⟩
 case round=>
  obtain⟨i,rfl,hi,hb,H⟩:=hrel;have hi0:(0:Int)<=(i:Int):=kO;have hDr:=FnAt.later hD hb;have hrr:=(hb.block r (Array.getElem?_eq_some_iff.1 hr).1).trans hr
  by_cases hlt:i<N
  ·have hlt':(i:Int)<(N:Int):=kO
   have hi8:(i:Int)<8:=kO;obtain⟨p,HP⟩: ∃p,Hid ((d.g k).ps.getD i pg0=p):=⟨_,rfl⟩;obtain⟨b,HBb⟩: ∃b,Hid ((fun p:Pg=>p.id==x) p=b):=⟨_,rfl⟩;have HS:=so_id B k i r hk kO d p x wr hDr hrr HP;rw[show(p.id==x)=b from HBb.out]at HS
   cases b with
   |false=>
    go_wp2_with(go_at_call 42;refine HS.mono ?_;rintro e w1 ⟨rfl,hb1⟩);go_roundw
    case rel=>
     refine⟨i+1,by go_num,by omega,hb.trans (hb1.mono hb.size),fun j hj=>?_⟩;rcases Nat.lt_succ_iff_lt_or_eq.1 hj with h|h
     ·exact H.out j h
     ·rw[h,HP.out];exact HBb.out
    case measure=>simp[intOf];omega
   |true=>
    go_wp2_with(go_at_call 42;refine HS.mono ?_;rintro e w1 ⟨rfl,hb1⟩);go_ret;refine⟨?_,hb.trans (hb1.mono hb.size)⟩;rw[z8u (fun p:Pg=>p.id==x) pg0 (d.g k).ps i (by rw[HN.out];exact hlt) H.out (by rw[HP.out];exact HBb.out)];rfl
  ·obtain rfl:i=N:=by omega
   have hc1:=z21 hDr hk;rw[HN.out]at hc1;go_wp2_with fail;go_ret;refine⟨?_,hb⟩;rw[z5y (fun p:Pg=>p.id==x) pg0 (d.g k).ps (by rw[HN.out];exact H.out),HN.out];rfl
end
section
open Go.ChangeShapes Go.WideShapes Go.ChangeAt Go.RowKit
attribute [local simp] z0p z0j z04
structure LsAt (w:World) (l:Value) (xs:List St):Prop where
 lies: ∃a cap,l= .slice a xs.length cap/\(xs.length=0\/ ∃bk off,a=some ⟨bk,off,none⟩/\bk<w.heap.size/\z1g w bk off xs.length (fun j=>(nth xs j).c) (fun j=>(nth xs j).d) (fun j=>(nth xs j).s) (fun j=>(nth xs j).r) (fun j=>(nth xs j).o) (fun j=>(nth xs j).n))
 nums: ∀j,j<xs.length->In64 (nth xs j).o/\In64 (nth xs j).n
theorem LsAt.later{w w':World}{l:Value}{xs:List St}(h:LsAt w l xs)(hb:Below w.heap.size w w'):LsAt w' l xs:=by
 obtain⟨a,cap,e,h1⟩:=h.lies;refine⟨⟨a,cap,e,h1.imp id fun⟨bk,off,h2,h3,h4⟩=>⟨bk,off,h2,Nat.lt_of_lt_of_le h3 hb.size,z1l h4 (hb.block bk h3)⟩⟩,h.nums⟩
def Lets(xs:List St):Prop:=1<=xs.length/\xs.length<=200/\(∀j,j<xs.length->z5c xs j=0)/\ ∃es,goL xs= .inr es
theorem fault_first(f:Nat->Int): ∀n,(∀j,j<n->f j=0)\/ ∃i,i<n/\(∀j,j<i->f j=0)/\f i≠0
 |0=>Or.inl fun j hj=>absurd hj (Nat.not_lt_zero j)
 |n+1=>by
  rcases fault_first f n with h|⟨i,h1,h2,h3⟩
  ·by_cases c:f n=0
   ·exact Or.inl fun j hj=>by
     rcases Nat.lt_succ_iff_lt_or_eq.1 hj with g|g
     ·exact h j g
     ·rw[g];exact c
   ·exact Or.inr ⟨n,Nat.lt_succ_self n,h,c⟩
  ·exact Or.inr ⟨i,Nat.lt_succ_of_lt h1,h2,h3⟩
theorem zDq{w:World}{l:Value}{xs:List St}(hl:LsAt w l xs)(h:Lets xs):Calls tP 32 #[l] w fun e w'=> ∃x y,e= rT (.tuple #[.agg #[A E x,A E y],.nilIface])/\Below w.heap.size w w':=by
 obtain⟨a,cap,rfl,h0⟩:=hl.lies;obtain⟨h1,h2,h3,es,h4⟩:=h;obtain⟨bk,off,rfl,hb,hs⟩:=h0.resolve_left kO;exact(zAb bk off xs.length cap _ _ _ _ _ _ w h1 h2 hb hs h3 hl.nums es h4).mono fun e w' ⟨g1,g2⟩=>⟨_,_,g1,g2⟩
theorem z8v{o:Oper}{u:Act}(w:World)(ho:o.op= .buildSlice 33 0 #[]):(execOp u.eval o).run tP w= .ok (.value (.slice (some ⟨w.heap.size,0,none⟩) 0 0)) (w.alloc (cT #[] 121)):=by
 obtain⟨i0,hi0,hz0,hz1,hz2⟩:=info_parts Tryz.infoStep;unfold execOp;simp only[ho,Sem.run_bind,Instr.buildSlice,run_underlying Tryz.underlying33,Result.andThen_ok,sizeOf,typeInfo,hi0,Sem.run_pure,Nat.zero_mul,if_true,if_false];have e:Array.map (fun x:Nat=>(default:Value)) (Array.range 0)=#[]:=Array.eq_empty_of_size_eq_zero kS;simp[Instr.fill,newRow,hi0,hz1,e]
theorem zLn{w:World}{l:Value}{xs:List St}(hl:LsAt w l xs)(h1:1<=xs.length)(h2:xs.length<=200):Calls tP 35 #[l] w fun e w'=> ∃g cap,e= rT (.slice (some ⟨g,0,none⟩) xs.length cap)/\w.heap.size<=g/\Below w.heap.size w w'/\w'.ownsRow w.heap.size 121 6 (.slice (some ⟨g,0,none⟩) xs.length cap) xs.length (z27 xs):=by
 obtain⟨a,cap,rfl,h0⟩:=hl.lies;obtain⟨bk,off,rfl,hb,hs⟩:=h0.resolve_left kO;obtain⟨N,HN⟩: ∃N,Hid (xs.length=N):=⟨_,rfl⟩;have HS:Hid (z1g w bk off xs.length (fun j=>(nth xs j).c) (fun j=>(nth xs j).d) (fun j=>(nth xs j).s) (fun j=>(nth xs j).r) (fun j=>(nth xs j).o) (fun j=>(nth xs j).n)):=hs;clear hs;rw[HN.out]at h1 h2⊢;have hen:Sem.run tP (binOp .eql 33 (.slice (some ⟨bk,off,none⟩) N cap) (.slice none 0 0)) w= .ok (.bool false) w:=Lib.run_eql_slice_nil w 33 121 (some ⟨bk,off,none⟩) N cap 0 0 Tryz.underlying33;go_enter Tryz.func35,Tryz.ntmps35;go_upto_region 3 with fail
 go_step;obtain⟨i0,hi0,hz0,hz1,hz2⟩:=info_parts Tryz.infoStep
 (refine z00 rfl (.slice (some ⟨w.heap.size,0,none⟩) 0 0) (w.alloc (cT #[] 121)) (z8v w rfl) ?_);simp only[pS]
 (refine z00 rfl (.slice (some ⟨bk,off,none⟩) N cap) (w.alloc (cT #[] 121)) kG ?_);simp only[pS]
 refine wpList_append_own (w.alloc (cT #[] 121)) rfl (.tmp 5) (.tmp 6) 33 rfl w.heap.size 121 i0 (.agg St.zero.cells) 6 48 Tryz.underlying33 hi0 hz0 hz1 hz2 rfl kD (.slice (some ⟨w.heap.size,0,none⟩) 0 0) 0 [] rfl ⟨rfl,.inr ⟨w.heap.size,0, #[],rfl,Nat.le_refl _,heap_alloc_new _ _,Nat.le_refl _,by decide,rfl,rfl⟩⟩ ⟨bk,off,none⟩ N cap (z27 xs) rfl (by rw[z5g,HN.out]) (zCi HN.out (by have:=z1l HS.out (w':=w.alloc (cT #[] 121)) (heap_alloc_old _ _ hb);rw[HN.out]at this;exact this)) (zBk xs) (by unfold maxLen;omega) kO kS ?_;intro v5 w5 ho5 hg5 _;simp only[pS];rw[Nat.zero_add,List.nil_append]at ho5;have hb5:Below w.heap.size w w5:=((bF _ _).alloc (Nat.le_refl _) _).grown hg5 kS (fun j hj=>Nat.le_of_eq (Option.some.inj hj));rcases rowShape ho5 with⟨-,e0⟩|⟨g,cp,rfl⟩
 ·omega
 have hl5:=(World.ownsRow.lt ho5 g rfl).1;go_wp2_with fail;go_ret;exact⟨g,cp,rfl,hl5,hb5,ho5⟩
end
section
open Go.ChangeShapes Go.WideShapes Go.ChangeAt Go.RowKit
attribute [local simp] z0p z0j z04
def pgCs(p:Pg):Array Value:=#[A E p.id,A E p.rank,p.sl,A E (p.tab 0),A E (p.tab 1),A E (p.tab 2),A E (p.tab 3),A E (p.tab 4),A E (p.tab 5),A E (p.tab 6),A E (p.tab 7),A E (p.tab 8),A E (p.tab 9),A E (p.tab 10),A E (p.tab 11),A E (p.tab 12),A E (p.tab 13),A E (p.tab 14),A E (p.tab 15)]
theorem zEc(p:Pg){j:Nat}(hj:j<19):(pgCs p).toList.getD j undef=z93 p j:=by
 rcases(show j=0\/j=1\/j=2\/j=3\/j=4\/j=5\/j=6\/j=7\/j=8\/j=9\/j=10\/j=11\/j=12\/j=13\/j=14\/j=15\/j=16\/j=17\/j=18 by omega)with rfl|rfl|rfl|rfl|rfl|rfl|rfl|rfl|rfl|rfl|rfl|rfl|rfl|rfl|rfl|rfl|rfl|rfl|rfl<;>rfl
def Pg.ins(ps:List Pg)(i:Nat)(q:Pg):List Pg:=ps.take i++q::ps.drop i
theorem zD1(ps:List Pg){i:Nat}(q:Pg)(h:i<=ps.length):(Pg.ins ps i q).length=ps.length+1:=by
 unfold Pg.ins;rw[List.length_append,lV,List.length_take,List.length_drop];omega
theorem zV4(ps:List Pg){i:Nat}(q z:Pg)(h:i<=ps.length)(m:Nat):(Pg.ins ps i q).getD m z=if m<i then ps.getD m z else if m=i then q else ps.getD (m-1) z:=by
 unfold Pg.ins;have hl:(ps.take i).length=i:=by rw[List.length_take];omega
 simp only[List.getD_eq_getElem?_getD]
 by_cases c:m<i
 ·rw[if_pos c,List.getElem?_append_left kO,List.getElem?_take_of_lt c]
 rw[if_neg c,List.getElem?_append_right kO,hl]
 by_cases e:m=i
 ·rw[if_pos e,e,Nat.sub_self];rfl
 rw[if_neg e,show m-i=(m-i-1)+1 by omega,List.getElem?_cons_succ,List.getElem?_drop,show i+(m-i-1)=m-1 by omega]
theorem zKe(d:Dsk){k i n:Nat}(q:Pg)(z:Int)(hk:k<3)(hn:(d.g k).ps.length=n)(h7:n<=7)(hi:i<=n)(j:Nat)(_:j<952):
  (d.put k {d.g k with ps:=Pg.ins (d.g k).ps i q,last:=z}).cell j=if k*317+i*19<=j/\j<k*317+i*19+(pgCs q).toList.length then(pgCs q).toList.getD (j-(k*317+i*19)) undef else if j=k*317+153 then A E z else if j=k*317+152 then A E ((n:Int)+1)else if k*317+(i+1)*19<=j/\j<k*317+(i+1)*19+((List.range ((n-i)*19)).map fun t=>d.cell (k*317+i*19+t)).length then((List.range ((n-i)*19)).map fun t=>d.cell (k*317+i*19+t)).getD (j-(k*317+(i+1)*19)) undef else d.cell j:=by
 have hl:(pgCs q).toList.length=19:=rfl;have hc:((List.range ((n-i)*19)).map fun t=>d.cell (k*317+i*19+t)).length=(n-i)*19:=by rw[List.length_map,List.length_range]
 rw[hl,hc,z4p d _ hk]
 by_cases c:k*317<=j/\j<k*317+317
 ·rw[if_pos c]
  obtain⟨x,rfl⟩: ∃x,j=k*317+x:=⟨j-k*317,by omega⟩;have hx:x<317:=kO
  have e0:z17 {d.g k with ps:=Pg.ins (d.g k).ps i q,last:=z} x=if x<154 then z25 (Pg.ins (d.g k).ps i q) z x else z17 (d.g k) x:=by
   unfold z17;dsimp only
   by_cases c1:x<154
   ·rw[if_pos c1,if_pos c1]
   ·rw[if_neg c1,if_neg c1,if_neg c1]
  rw[Nat.add_sub_cancel_left,e0,z1w d hk hx]
  by_cases c1:x<154
  ·have e1:z25 (Pg.ins (d.g k).ps i q) z x=if x<152 then z93 (if x/19<i then(d.g k).ps.getD (x/19) pg0 else if x/19=i then q else(d.g k).ps.getD (x/19-1) pg0) (x%19)else if x=152 then A E ((n:Int)+1)else A E z:=by
    unfold z25;rw[zV4 _ q pg0 kO,zD1 _ q kO,hn];rfl
   rw[if_pos c1,e1]
   by_cases a1:i*19<=x/\x<i*19+19
   ·rw[if_pos (show k*317+i*19<=k*317+x/\k*317+x<k*317+i*19+19 by omega),if_pos (show x<152 by omega),if_neg (show¬x/19<i by omega),if_pos (show x/19=i by omega),show k*317+x-(k*317+i*19)=x%19 by omega,zEc q kO]
   rw[if_neg (show¬(k*317+i*19<=k*317+x/\k*317+x<k*317+i*19+19)by omega)]
   by_cases a2:x=153
   ·rw[if_pos (show k*317+x=k*317+153 by omega),if_neg (show¬x<152 by omega),if_neg (show¬x=152 by omega)]
   rw[if_neg (show¬k*317+x=k*317+153 by omega)]
   by_cases a3:x=152
   ·rw[if_pos (show k*317+x=k*317+152 by omega),if_neg (show¬x<152 by omega),if_pos a3]
   rw[if_neg (show¬k*317+x=k*317+152 by omega),if_pos (show x<152 by omega)]
   by_cases a4:(i+1)*19<=x/\x<(i+1)*19+(n-i)*19
   ·have ht:x-(i+1)*19<(n-i)*19:=kO
    have es:((List.range ((n-i)*19)).map fun t=>d.cell (k*317+i*19+t)).getD (x-(i+1)*19) undef=d.cell (k*317+i*19+(x-(i+1)*19)):=by rw[List.getD_eq_getElem?_getD,List.getElem?_map,List.getElem?_range ht];rfl
    rw[if_pos (show k*317+(i+1)*19<=k*317+x/\k*317+x<k*317+(i+1)*19+(n-i)*19 by omega),show k*317+x-(k*317+(i+1)*19)=x-(i+1)*19 by omega,es,show k*317+i*19+(x-(i+1)*19)=k*317+(x-19)by omega,z1w d hk kO];unfold z17 z25;rw[if_pos (show x-19<154 by omega),if_pos (show x-19<152 by omega),if_neg (show¬x/19<i by omega),if_neg (show¬x/19=i by omega),show(x-19)/19=x/19-1 by omega,show(x-19)%19=x%19 by omega]
   ·rw[if_neg (show¬(k*317+(i+1)*19<=k*317+x/\k*317+x<k*317+(i+1)*19+(n-i)*19)by omega)]
    unfold z17 z25;rw[if_pos c1,if_pos (show x<152 by omega)]
    by_cases a5:x/19<i
    ·rw[if_pos a5]
    ·rw[if_neg a5,if_neg (show¬x/19=i by omega),List.getD_eq_getElem?_getD,List.getD_eq_getElem?_getD,List.getElem?_eq_none kO,List.getElem?_eq_none kO]
  ·rw[if_neg c1,if_neg (show¬(k*317+i*19<=k*317+x/\k*317+x<k*317+i*19+19)by omega),if_neg (show¬k*317+x=k*317+153 by omega),if_neg (show¬k*317+x=k*317+152 by omega),if_neg (show¬(k*317+(i+1)*19<=k*317+x/\k*317+x<k*317+(i+1)*19+(n-i)*19)by omega)]
 rw[if_neg c,if_neg (show¬(k*317+i*19<=j/\j<k*317+i*19+19)by omega),if_neg (show¬j=k*317+153 by omega),if_neg (show¬j=k*317+152 by omega),if_neg (show¬(k*317+(i+1)*19<=j/\j<k*317+(i+1)*19+(n-i)*19)by omega)]
theorem Tryz.infoBd:(Tryz.prog.info? 113).map (·.size)=some 2:=kR
theorem zLr{w0 w:World}{F:List (Nat×Obj)}{g:Nat}(h:Blk w0 F w)(hg:w0.heap.size<=g)(hF: ∀x,x∈F->x.1<g)(cs':Array Value):Blk w0 F (w.setRow g cs'):=
 ⟨z14 h.1 hg cs',fun x hx=>(setRow_other w g x.1 cs' (by have:=hF x hx;omega)).trans (h.2 x hx)⟩
theorem zXn{o:Oper}{u:Act}(V:World)(B k I:Nat)(x y:Operand)(ho:o.op= .slice 64 x (some y) none none)(hx:u.eval x= pT (some ⟨B,k*317,none⟩))(hy:u.eval y=A E ((I:Int)+1))(hI:I<=7):(execOp u.eval o).run tP V= .ok (.value (.slice (some ⟨B,(if I=7 then k*317 else k*317+(I+1)*19),none⟩) (7-I) (7-I))) V:=by
 have s1:(0:Int)<=(I:Int)+1:=kO;have s2:(I:Int)+1<=8:=kO
 by_cases c:I=7
 ·rw[if_pos c]
  subst c;unfold execOp;simp only[ho,hx,hy,Option.map_some,Option.map_none];go_simp;try rfl
 rw[if_neg c];unfold execOp;simp only[ho,hx,hy,Option.map_some,Option.map_none];go_simp;try omega
theorem zXm{o:Oper}{u:Act}(V:World)(B k I n:Nat)(x y z:Operand)(ho:o.op= .slice 64 x (some y) (some z) none)(hx:u.eval x= pT (some ⟨B,k*317,none⟩))(hy:u.eval y=A E (I:Int))(hz:u.eval z=A E (n:Int))(hI:I<=n)(hn:n<=7):(execOp u.eval o).run tP V= .ok (.value (.slice (some ⟨B,k*317+I*19,none⟩) (n-I) (8-I))) V:=by
 have s1:(0:Int)<=(I:Int):=kO;have s2:(I:Int)<=(n:Int):=kO;have s3:(0:Int)<=(n:Int):=kO;have s4:(n:Int)<=8:=kO;unfold execOp;simp only[ho,hx,hy,hz,Option.map_some,Option.map_none];go_simp;try omega
def AtS(w7:World)(B r p:Nat)(rank z:Int)(V:World):Prop:=Kept B w7 V/\V.heap[r]?=some (cT #[A E rank] 3 (0,0))/\V.cell? ⟨B,p,none⟩=some (A E z)
theorem AtS.later{w7 V V':World}{B r p:Nat}{rank z:Int}(h:AtS w7 B r p rank z V)(hB:B<V.heap.size)(hb:Below V.heap.size V V'):AtS w7 B r p rank z V':=⟨z1x h.1 hb,(hb.block r (Array.getElem?_eq_some_iff.1 h.2.1).1).trans h.2.1,(hb.cell (p:=⟨B,p,none⟩) hB).trans h.2.2⟩
theorem zW0{o:Oper}{u:Act}{x y z:Operand}{W:World}{a b:Int}{g n c:Nat}{xs:List St}(ho:o.op= .build 63 #[(0,x),(1,y),(2,z)])(hx:u.eval x=A E a)(hy:u.eval y=A E b)(hz:u.eval z= .slice (some ⟨g,0,none⟩) n c):(execOp u.eval o).run tP W= .ok (.value (.agg (pgCs ⟨a,b,.slice (some ⟨g,0,none⟩) n c,xs,fun _=>0⟩))) W:=by
 have hb:Tryz.prog.built 63 #[(0,Value.int .i64 a),(1,A E b),(2,.slice (some ⟨g,0,none⟩) n c)].toList=some (pgCs ⟨a,b,.slice (some ⟨g,0,none⟩) n c,xs,fun _=>0⟩):=by kernel_rfl
 have hr:=run_build W 63 _ _ hb;unfold execOp;simp only[ho,List.map_toArray,List.map_cons,List.map_nil,hx,hy,hz,Sem.run_bind,Sem.run_pure,Result.andThen_ok,hr]
theorem Tryz.infoPg:(Tryz.prog.info? 63).map (·.size)=some 19:=kR
theorem LsAt.kept{w w':World}{l:Value}{xs:List St}{B:Nat}(h:LsAt w l xs)(hk:Kept B w w')(hne: ∀a n c,l= .slice (some a) n c->a.block≠B):LsAt w' l xs:=by
 obtain⟨a,cap,e,h1⟩:=h.lies;refine⟨⟨a,cap,e,h1.imp id fun⟨bk,off,h2,h3,h4⟩=>⟨bk,off,h2,Nat.lt_of_lt_of_le h3 hk.size,z1l h4 (hk.block bk h3 fun z=>?_)⟩⟩,h.nums⟩;exact hne ⟨bk,off,none⟩ xs.length cap (by rw[e,h2]) (Option.some.inj z)
theorem zT2{o:Oper}{u:Act}{x y:Operand}{W:World}{B q:Nat}{p:Pg}(hc:W.there B q 19)(h1:(pgCs p).all (·.oneCell')=true)(ho:o.op= .store 63 x y)(hx:u.eval x= pT (some ⟨B,q,none⟩))(hy:u.eval y= .agg (pgCs p)):(execOp u.eval o).run tP W= .ok .skip (W.setCells B q (pgCs p).toList):=by
 have hl:=run_storeVar_mid (P:=tP) W B q 63 (pgCs p) hc Tryz.infoPg h1;unfold execOp;simp only[ho,hx,hy,Instr.storeAt,Instr.sureAddr,Sem.run_bind,Sem.run_pure,Result.andThen_ok,hl]
theorem zO2(B k n:Nat)(hk:k<3)(d:Dsk)(l:Value)(xs:List St)(rank:Int)(w:World)(hD:z0d w B d)(HN:Hid ((d.g k).ps.length=n))(h7:n<=7)(HL:Hid (LsAt w l xs))(HLe:Hid (Lets xs))(HP:Hid (∀k,k<3-> ∀p,p∈(d.g k).ps->p.sl.oneCell'=true))(HB:Hid (∀a n c,l= .slice (some a) n c->a.block≠B))(hl0: -1000000<=(d.g k).last)(hl1:(d.g k).last<=1000000):
  Calls tP 17 #[pT (some ⟨B,k*317,none⟩),l,A E rank] w fun e w'=>e= rT (.tuple #[A E ((d.g k).last+1),.nilIface])/\Kept B w w'/\ ∃q:Pg,q.id=(d.g k).last+1/\q.rank=rank/\q.xs=xs/\q.tab=(fun _=>0)/\PgOk w' B q/\z0d w' B (d.put k {d.g k with ps:=Pg.ins (d.g k).ps ((d.g k).ps.findIdx fun p=>decide (rank<p.rank)) q,last:=(d.g k).last+1}):=by
 have hlt:=hD.lt;have hK0:Blk w [(w.heap.size,cT #[A E rank] 3 (0,0)),(B,cT (Array.ofFn (n:=952) fun i=>Dsk.cell d i.1) 72 (0,0))] (w.alloc (cT #[A E rank] 3)):=((Blk.nil ((bF _ _).alloc (Nat.le_refl _) _)).cons ((heap_alloc_old _ _ hD.lt).trans hD)).cons (heap_alloc_new w _);go_enter Tryz.func17,Tryz.ntmps17;go_upto_region 1 with fail
 generalize w.alloc (cT #[A E rank] 3)=w0 at hK0⊢;go_step
 (refine z00 rfl (l) w0 kG ?_);simp only[pS]
 refine z0w rfl 32 #[l] kG (R:=fun v w'=> ∃x y,v= .tuple #[.agg #[A E x,A E y],.nilIface]/\Below w0.heap.size w0 w') ((zDq (HL.out.later hK0.1) HLe.out).mono fun e w' ⟨x,y,h1,h2⟩=>⟨_,h1,x,y,rfl,h2⟩) ?_;rintro v w1 ⟨x,y,rfl,hb1⟩;simp only[pS];have hK1:=hK0.later hb1;clear hK0 hb1
 (refine z00 rfl (.tuple #[.agg #[A E x,A E y],.nilIface]) w1 kG ?_);simp only[pS]
 (refine z00 rfl (.agg #[A E x,A E y]) w1 kG ?_);simp only[pS]
 (refine z00 rfl (.nilIface) w1 kG ?_);simp only[pS]
 (refine z00 rfl (pT (some ⟨w1.heap.size,0,none⟩)) (w1.alloc (cT #[A E 0,A E 0] 113)) kG ?_);simp only[pS]
 refine wpList_store_row rfl 113 (.tmp 8) (.tmp 14) rfl w1.heap.size #[A E x,A E y] rfl rfl 113 #[A E 0,A E 0] (heap_alloc_new w1 _) Tryz.infoBd rfl kR ?_;simp only[pS];have hK2:Blk w [(w.heap.size,cT #[A E rank] 3 (0,0)),(B,cT (Array.ofFn (n:=952) fun i=>Dsk.cell d i.1) 72 (0,0))] ((w1.alloc (cT #[A E 0,A E 0] 113)).setRow w1.heap.size #[A E x,A E y]):=zLr (hK1.later ((bF _ _).alloc (Nat.le_refl _) _)) (hK1.1.size) (fun z hz=>(Array.getElem?_eq_some_iff.1 (hK1.2 z hz)).1) _;generalize (w1.alloc (cT #[A E 0,A E 0] 113)).setRow w1.heap.size #[A E x,A E y]=w2 at hK2⊢;generalize w1.heap.size=g1;clear hK1;obtain⟨I,HI⟩: ∃I,Hid (((d.g k).ps.findIdx fun p=>decide (rank<p.rank))=I):=⟨_,rfl⟩;have hI:I<=n:=by rw[<-HI.out, <-HN.out];exact List.findIdx_le_length
 have hI0:(0:Int)<=(I:Int):=kO;have hI8:(I:Int)<8:=kO;have z8:((n:Int)==8)=false:=kZ;have hF:=zO7 B k w.heap.size hk d rank w2 (hK2.2 _ (mcO _ mcS)) (by rw[HN.out];omega) (hK2.2 _ mcS);rw[HI.out]at hF;have cN:=z21 (hK2.2 _ (mcO _ mcS)) hk;rw[HN.out]at cN;go_upto_region 7 with(first|(go_at_call 33;refine hF.mono ?_;rintro e w3 ⟨rfl,hb3⟩;have hK3:=hK2.later hb3;clear hK2 hb3 cN)|fail)
 have e1:IntKind.i64.wrap ((I:Int)+1)=(I:Int)+1:=by rw[IntWalk.i64_left,z08 kO kO]
 obtain⟨o1,HO1⟩: ∃o,Hid ((if I=7 then k*317 else k*317+(I+1)*19)=o):=⟨_,rfl⟩;have s3:(I:Int)<=(n:Int):=kO;have s4:(n:Int)<=8:=kO;refine z0o (C:=Blk w [(w.heap.size,cT #[A E rank] 3 (0,0)),(B,cT (Array.ofFn (n:=952) fun i=>Dsk.cell d i.1) 72 (0,0))]) (n0:=w.heap.size) 15 [] [] kR kR (fun d _ _ _ _ h=>by cases d<;>exact h) (Blk.stable _ _) (fun w2 h=>h.1.size) hK3.drew trivial ?_;simp only[lQ,lX,lY,lZ,lJ,Nat.reduceAdd]
 repeat(first
  |(refine z0q kI ?_;simp only[pS])
  |(refine z0c kI (v:= .slice (some ⟨B,o1,none⟩) (7-I) (7-I)) (fun w2 hC=>by rw[<-HO1.out];exact zXn w2 B k I _ _ rfl rfl rfl kO) ?_;simp only[pS])
  |(refine z0c kI (v:= .slice (some ⟨B,k*317+I*19,none⟩) (n-I) (8-I)) (fun w2 hC=>zXm w2 B k I n _ _ _ rfl rfl rfl rfl kO h7) ?_;simp only[pS])
  |(refine z0c kI (v:=?_) ?_ ?_;rotate_left;(intro w2 hC;have hDk:z0d _ B d:=(hC.2 _ (mcO _ mcS));have c0:World.cell? _ ⟨B,k*317+152,none⟩=some (A E (n:Int)):=(by have h:=z21 hDk hk;rw[HN.out]at h;exact h);go_simp;try with_reducible rfl);simp only[pS]))
 refine z11 ?_;intro w4 hC hB4;have hDk:z0d _ B d:=(hC.2 _ (mcO _ mcS));have c0:World.cell? _ ⟨B,k*317+152,none⟩=some (A E (n:Int)):=(by have h:=z21 hDk hk;rw[HN.out]at h;exact h);have hlen:((List.range ((n-I)*19)).map fun t=>d.cell (k*317+I*19+t)).length=(n-I)*19:=by rw[List.length_map,List.length_range]
 have hmin:Nat.min (n-I) (7-I)=n-I:=Nat.min_eq_left kO
 have ho1: ∀j,j<((List.range ((n-I)*19)).map fun t=>d.cell (k*317+I*19+t)).length->o1+j<952:=fun j hj=>by
  rw[hlen]at hj;rw[<-HO1.out];split<;>omega
 have hcopy:=z54 (P:=tP) w4 105 105 3 63 B o1 (7-I) (7-I) ⟨B,k*317+I*19,none⟩ (n-I) (8-I) 19 ((List.range ((n-I)*19)).map fun t=>d.cell (k*317+I*19+t)) Tryz.underlying105 Tryz.infoPg (by rw[hlen,hmin]) (fun j v hv=>by
   have hj:j<(n-I)*19:=by have:=(List.getElem?_eq_some_iff.1 hv).1;rw[hlen]at this;exact this
   rw[List.getElem?_map,List.getElem?_range hj]at hv;rw[Addr.add_mid,FnAt.at hDk _ kO];exact hv) (fun j hj=>by rw[FnAt.at hDk _ (ho1 j hj)];rfl) (fun j hj=>FnAt.frozen hDk _) (fun v hv=>by
   obtain⟨t,ht,rfl⟩:=List.mem_map.1 hv;rw[List.mem_range]at ht;exact zBj d HP.out _ kO)
 (refine z00 rfl (goInt (Nat.min (n-I) (7-I))) (w4.setCells B o1 ((List.range ((n-I)*19)).map fun t=>d.cell (k*317+I*19+t))) (zF7 _ _ (.tmp 33) (.tmp 42) _ _ _ _ _ rfl rfl rfl hcopy) ?_);simp only[pS]
 obtain⟨f1,HE1⟩: ∃f1:Nat->Value,Hid ((fun j=>if k*317+(I+1)*19<=j/\j<k*317+(I+1)*19+((List.range ((n-I)*19)).map fun t=>d.cell (k*317+I*19+t)).length then((List.range ((n-I)*19)).map fun t=>d.cell (k*317+I*19+t)).getD (j-(k*317+(I+1)*19)) undef else d.cell j)=f1):=⟨_,rfl⟩
 have hF1:FnAt (w4.setCells B o1 ((List.range ((n-I)*19)).map fun t=>d.cell (k*317+I*19+t))) B f1:=by
  rw[<-HE1.out];refine FnAt.ext (FnAt.setCells hDk ((List.range ((n-I)*19)).map fun t=>d.cell (k*317+I*19+t)) o1) fun j hj=>?_
  by_cases c:I=7
  ·have hz:((List.range ((n-I)*19)).map fun t=>d.cell (k*317+I*19+t)).length=0:=by rw[hlen];omega
   rw[hz,if_neg kO,if_neg kO]
  ·have ho:o1=k*317+(I+1)*19:=by rw[<-HO1.out,if_neg c]
   rw[ho]
 have hKp5:=z1y (z09 hC.1 B) o1 ((List.range ((n-I)*19)).map fun t=>d.cell (k*317+I*19+t));have hr5:=(z0y (w:=w4) (B:=B) (show w.heap.size≠B by omega) ((List.range ((n-I)*19)).map fun t=>d.cell (k*317+I*19+t)) o1).trans (hC.2 _ mcS);have q1:f1 (k*317+152)=A E (n:Int):=by rw[<-HE1.out];dsimp only;rw[if_neg (by rw[hlen];omega),z1w d hk kO];have h:=HN.out;rw[<-h];rfl
 have q2:f1 (k*317+153)=A E (d.g k).last:=by rw[<-HE1.out];dsimp only;rw[if_neg (by rw[hlen];omega),z1w d hk kO];rfl
 obtain⟨la,HLA⟩: ∃la,Hid ((d.g k).last=la):=⟨_,rfl⟩;rw[HLA.out]at q2 hl0 hl1;have c5:=hF1.at (k*317+152) kO;rw[q1]at c5;have cf5:=hF1.frozen (k*317+152);have Q2:Hid (f1 (k*317+153)=A E la):=q2;clear hC hDk c0 hcopy hK3 hB4 ho1 q1 q2 hlen hmin;generalize w4.setCells B o1 ((List.range ((n-I)*19)).map fun t=>d.cell (k*317+I*19+t))=w5 at hF1 hKp5 hr5 c5 cf5⊢;have e5:IntKind.i64.wrap ((n:Int)+1)=(n:Int)+1:=by rw[IntWalk.i64_left,z08 kO kO]
 go_upto_region 9 with fail
 clear c5 cf5;obtain⟨f2,HE2⟩: ∃f2:Nat->Value,Hid ((fun j=>if j=k*317+152 then A E ((n:Int)+1)else f1 j)=f2):=⟨_,rfl⟩;have hF2:FnAt (w5.setCell ⟨B,k*317+152,none⟩ (A E ((n:Int)+1))) B f2:=by rw[<-HE2.out];exact hF1.set (k*317+152) _
 have hKp6:=z0v hKp5 (k*317+152) (A E ((n:Int)+1));have hr6:=(heap_setCell_other w5 ⟨B,k*317+152,none⟩ w.heap.size (A E ((n:Int)+1)) (show w.heap.size≠B by omega)).trans hr5;clear hF1 hKp5 hr5;generalize w5.setCell ⟨B,k*317+152,none⟩ (A E ((n:Int)+1))=w6 at hF2 hKp6 hr6⊢;have c6:w6.cell? ⟨B,k*317+153,none⟩=some (A E la):=by rw[FnAt.at hF2 _ kO, <-HE2.out];dsimp only;rw[if_neg kO,Q2.out]
 have cf6:=hF2.frozen (k*317+153);have e6:IntKind.i64.wrap (la+1)=la+1:=by rw[IntWalk.i64_left,z08 kO kO]
 go_upto_region 10 with fail
 clear c6 cf6;obtain⟨f3,HE3⟩: ∃f3:Nat->Value,Hid ((fun j=>if j=k*317+153 then A E (la+1)else f2 j)=f3):=⟨_,rfl⟩;have hF3:FnAt (w6.setCell ⟨B,k*317+153,none⟩ (A E (la+1))) B f3:=by rw[<-HE3.out];exact hF2.set (k*317+153) _
 have hKp7:=z0v hKp6 (k*317+153) (A E (la+1));have hr7:=(heap_setCell_other w6 ⟨B,k*317+153,none⟩ w.heap.size (A E (la+1)) (show w.heap.size≠B by omega)).trans hr6;have Q3:Hid (f3 (k*317+153)=A E (la+1)):=by rw[<-HE3.out];exact if_pos rfl
 clear hF2 hKp6 hr6;generalize w6.setCell ⟨B,k*317+153,none⟩ (A E (la+1))=w7 at hF3 hKp7 hr7⊢;have hL7:=HL.out.kept hKp7 HB.out;have hD:AtS w7 B w.heap.size (k*317+153) rank (la+1) w7.drew:=⟨z50 (z12 B w7),hr7,(FnAt.at hF3 _ kO).trans (congrArg some Q3.out)⟩;clear hr7;have hLt7:B<w7.heap.size:=hF3.lt;refine wp_region_held_drew (S:=AtS w7 B w.heap.size (k*317+153) rank (la+1)) kR hD fun _=>?_;change wpAnyH _ _ _ _ _ 14 (Array.replicate 14 false) _ _
 refine tkH (i:=0) (some 58) (pT (some ⟨B,k*317,none⟩)) rfl rfl (fun _ _=>kG) hD ?_;simp only[pS];refine tkH (i:=1) (some 59) (A E (I:Int)) rfl rfl (fun _ _=>kG) hD ?_;simp only[pS];refine tkH (i:=2) (some 60) (pT (some ⟨B,k*317,none⟩)) rfl rfl (fun _ _=>kG) hD ?_;simp only[pS];refine tkH (i:=3) (some 61) (pT (some ⟨B,k*317,none⟩)) rfl rfl (fun _ _=>kG) hD ?_;simp only[pS];refine tkH (i:=4) (some 62) (pT (some ⟨B,k*317+153,none⟩)) rfl rfl (fun _ _=>kG) hD ?_;simp only[pS];refine tkH (i:=5) (some 63) (A E (la+1)) rfl rfl (fun V hV=>by have c2:=hV.2.2;go_simp;try rfl) hD ?_;simp only[pS];refine tkH (i:=6) (some 64) (A E rank) rfl rfl (fun V hV=>by have c2:V.cell? ⟨w.heap.size,0,none⟩=some (A E rank):=(cell_of_row V _ 0 _ _ _ hV.2.1).trans rfl;go_simp;try rfl) hD ?_;simp only[pS];refine tkH (i:=7) (some 65) (l) rfl rfl (fun _ _=>kG) hD ?_;simp only[pS];refine tkH (i:=10) (some 68) (pT (some ⟨B,k*317,none⟩)) rfl rfl (fun _ _=>kG) hD ?_;simp only[pS];refine tkH (i:=11) (some 69) (pT (some ⟨B,k*317,none⟩)) rfl rfl (fun _ _=>kG) hD ?_;simp only[pS];refine wpAnyH_ready (rs:=[8]) kR kS ?_;refine z3h (some 66) 35 #[l] rfl rfl kI kG ?_ AllReadyH.nil;refine(zLn (w:=w7.drew) (hL7.later (bF _ _).drew) HLe.out.1 HLe.out.2.1).mono ?_;rintro e w8 ⟨g,cp,rfl,hg8,hb8,ho8⟩;have hD8:=hD.later (show B<w7.drew.heap.size from hLt7) hb8;have hF8:FnAt w8 B f3:=FnAt.later (w:=w7.drew) hF3 hb8;refine⟨_,rfl,hD8,?_⟩;simp only[pS];have hg7:w7.heap.size<=g:=hg8;have hgl:=zWn ho8;clear hL7;obtain⟨q,HQ⟩: ∃q:Pg,Hid ((⟨la+1,rank,.slice (some ⟨g,0,none⟩) xs.length cp,xs,fun _=>0⟩:Pg)=q):=⟨_,rfl⟩;refine tkH (i:=9) (some 67) (.agg (pgCs q)) rfl rfl (fun V hV=>by rw[<-HQ.out];exact zW0 rfl rfl rfl rfl) hD8 ?_;simp only[pS];refine tkH (i:=12) (some 70) (pT (some ⟨B,k*317+I*19,none⟩)) rfl rfl (fun _ _=>kG) hD8 ?_;simp only[pS];have hq1:(pgCs q).all (·.oneCell')=true:=by rw[<-HQ.out];kernel_rfl
 have hF9:=FnAt.setCells hF8 (pgCs q).toList (k*317+I*19);have hl19:(pgCs q).toList.length=19:=rfl;have c9:(w8.setCells B (k*317+I*19) (pgCs q).toList).cell? ⟨B,k*317+153,none⟩=some (A E (la+1)):=by rw[FnAt.at hF9 _ kO,if_neg (by rw[hl19];omega),Q3.out]
 have hD9:AtS w7 B w.heap.size (k*317+153) rank (la+1) (w8.setCells B (k*317+I*19) (pgCs q).toList):=⟨z1y hD8.1 _ _,(z0y (w:=w8) (B:=B) (show w.heap.size≠B by omega) _ _).trans hD8.2.1,c9⟩;have hs9:z1g (w8.setCells B (k*317+I*19) (pgCs q).toList) g 0 xs.length (fun j=>(nth xs j).c) (fun j=>(nth xs j).d) (fun j=>(nth xs j).s) (fun j=>(nth xs j).r) (fun j=>(nth xs j).o) (fun j=>(nth xs j).n):=z1l (zAg ho8 rfl) (z0y (show g≠B by omega) _ _);have ht9:zC9 (w8.setCells B (k*317+I*19) (pgCs q).toList) (.slice (some ⟨g,0,none⟩) xs.length cp):=(zC9.row ho8).block rfl (z0y (show g≠B by omega) _ _);have hz9:g<(w8.setCells B (k*317+I*19) (pgCs q).toList).heap.size:=by rw[(z2w B (pgCs q).toList (k*317+I*19) w8).1];exact hgl
 refine wpAnyH_ready (rs:=[13]) kR kS ?_;refine z3b (w8.setCells B (k*317+I*19) (pgCs q).toList) rfl rfl kI (zT2 (FnAt.there hF8 kO) hq1 rfl rfl rfl) hD9 ?_ AllReadyH.nil;simp only[pS];have hdk:z0d (w8.setCells B (k*317+I*19) (pgCs q).toList) B (d.put k {d.g k with ps:=Pg.ins (d.g k).ps I q,last:=la+1}):=FnAt.ext hF9 fun j hj=>by rw[zKe d q (la+1) hk HN.out h7 hI j hj, <-HE3.out, <-HE2.out, <-HE1.out]
 have hkp:Kept B w (w8.setCells B (k*317+I*19) (pgCs q).toList):=z29 hKp7 hD9.1;clear hF9 hF8 hD8 hD9 hF3 hD hb8 ho8 hg8;generalize w8.setCells B (k*317+I*19) (pgCs q).toList=w9 at c9 hdk hkp hs9 ht9 hz9⊢;refine wpAnyH_done kR ?_ _;go_wp2_with fail;refine bodyPost_ret (v:= .tuple #[A E (la+1),.nilIface]) (by simp[results,Tryz.results17,go_sem, *]) rfl ⟨by rw[HLA.out],hkp,q,?_⟩;rw[HLA.out,HI.out];refine⟨by rw[<-HQ.out],by rw[<-HQ.out],by rw[<-HQ.out],by rw[<-HQ.out],?_,hdk⟩;rw[<-HQ.out];exact⟨⟨g,cp,rfl,hz9,by omega,hs9⟩,HLe.out.1,HLe.out.2.1,HLe.out.2.2.1,HL.out.nums,fun i _=>(⟨by decide,by decide⟩:In64 0),ht9⟩
end
def zDk(ps:List Pg):Prop:=ps.Pairwise fun a b=>a.rank<=b.rank
theorem zGu(rank:Int)(q:Pg): ∀ps:List Pg,zDk ps->Pg.ins ps (ps.findIdx fun p=>decide (rank<p.rank)) q=(ps.filter fun p=>decide (p.rank<=rank))++[q]++ps.filter fun p=>decide (rank<p.rank)
 |[],_=>rfl
 |p::ps,h=>by
  obtain⟨h1,h2⟩:=List.pairwise_cons.1 h
  by_cases c:rank<p.rank
  ·have e1:(p::ps).filter (fun p=>decide (p.rank<=rank))=[]:=List.filter_eq_nil_iff.2 fun x hx=>by
    rcases List.mem_cons.1 hx with rfl|hx
    ·simp;omega
    ·have:=h1 x hx;simp;omega
   have e2:(p::ps).filter (fun p=>decide (rank<p.rank))=p::ps:=List.filter_eq_self.2 fun x hx=>by
    rcases List.mem_cons.1 hx with rfl|hx
    ·simpa using c
    ·have:=h1 x hx;simp;omega
   rw[e1,e2,List.findIdx_cons,decide_eq_true c];rfl
  ·have c':p.rank<=rank:=kO
   have ih:=zGu rank q ps h2;rw[List.findIdx_cons,decide_eq_false c,List.filter_cons,List.filter_cons,if_pos (by simpa using c'),if_neg (by simpa using c)];show p::Pg.ins ps _ q=_;rw[ih];rfl
theorem zDk.ins{ps:List Pg}{rank:Int}{q:Pg}(h:zDk ps)(hq:q.rank=rank):zDk ((ps.filter fun p=>decide (p.rank<=rank))++[q]++ps.filter fun p=>decide (rank<p.rank)):=by
 unfold zDk at*;rw[List.append_assoc,List.pairwise_append];refine⟨h.filter _,?_,fun a ha b hb=>?_⟩
 ·rw[List.singleton_append,List.pairwise_cons]
  exact⟨fun b hb=>by have:=(List.mem_filter.1 hb).2;simp at this;omega,h.filter _⟩
 have h1:=(List.mem_filter.1 ha).2;simp at h1;rcases List.mem_append.1 hb with hb|hb
 ·rw[List.mem_singleton.1 hb];omega
 have h2:=(List.mem_filter.1 hb).2;simp at h2;omega
def z2g(ps:List Pg):Prop:=(ps.map fun p=>p.id).Nodup
theorem zD3(id:Int): ∀ps:List Pg,z2g ps->ps.eraseIdx (ps.findIdx fun p=>p.id==id)=ps.filter fun p=>p.id !=id
 |[],_=>rfl
 |p::ps,h=>by
  have h':p.id∉ps.map (fun p=>p.id)/\z2g ps:=by simpa[z2g]using h
  by_cases c:p.id=id
  ·have e:ps.filter (fun p=>p.id !=id)=ps:=List.filter_eq_self.2 fun x hx=>by
    have: ¬x.id=id:=fun e=>h'.1 (List.mem_map.2 ⟨x,hx,e.trans c.symm⟩);simpa using this
   rw[List.findIdx_cons,show(p.id==id)=true by simpa using c,List.filter_cons,if_neg (by simpa using c),e];rfl
  ·rw[List.findIdx_cons,show(p.id==id)=false by simpa using c,List.filter_cons,if_pos (by simpa using c), <-zD3 id ps h'.2]
   rfl
section
open Go.ChangeShapes Go.WideShapes Go.ChangeAt Go.RowKit
attribute [local simp] z0p z0j z04
theorem zGw(B k n:Nat)(hk:k<3)(d:Dsk)(l:Value)(xs:List St)(rank:Int)(w:World)(hD:z0d w B d)(HL:Hid (LsAt w l xs))(HLe:Hid (Lets xs))(HN:Hid ((d.g k).ps.length=8)):
  zR 17 #[pT (some ⟨B,k*317,none⟩),l,A E rank] w (.tuple #[A E 0,.iface 30 (A E 12)]):=by
 have hlt:=hD.lt;have hK0:Blk w [(w.heap.size,cT #[A E rank] 3 (0,0)),(B,cT (Array.ofFn (n:=952) fun i=>Dsk.cell d i.1) 72 (0,0))] (w.alloc (cT #[A E rank] 3)):=((Blk.nil ((bF _ _).alloc (Nat.le_refl _) _)).cons ((heap_alloc_old _ _ hD.lt).trans hD)).cons (heap_alloc_new w _);go_enter Tryz.func17,Tryz.ntmps17;go_upto_region 1 with fail
 generalize w.alloc (cT #[A E rank] 3)=w0 at hK0⊢;go_step
 (refine z00 rfl (l) w0 kG ?_);simp only[pS]
 refine z0w rfl 32 #[l] kG (R:=fun v w'=> ∃x y,v= .tuple #[.agg #[A E x,A E y],.nilIface]/\Below w0.heap.size w0 w') ((zDq (HL.out.later hK0.1) HLe.out).mono fun e w' ⟨x,y,h1,h2⟩=>⟨_,h1,x,y,rfl,h2⟩) ?_;rintro v w1 ⟨x,y,rfl,hb1⟩;simp only[pS];have hK1:=hK0.later hb1;clear hK0 hb1
 (refine z00 rfl (.tuple #[.agg #[A E x,A E y],.nilIface]) w1 kG ?_);simp only[pS]
 (refine z00 rfl (.agg #[A E x,A E y]) w1 kG ?_);simp only[pS]
 (refine z00 rfl (.nilIface) w1 kG ?_);simp only[pS]
 (refine z00 rfl (pT (some ⟨w1.heap.size,0,none⟩)) (w1.alloc (cT #[A E 0,A E 0] 113)) kG ?_);simp only[pS]
 refine wpList_store_row rfl 113 (.tmp 8) (.tmp 14) rfl w1.heap.size #[A E x,A E y] rfl rfl 113 #[A E 0,A E 0] (heap_alloc_new w1 _) Tryz.infoBd rfl kR ?_;simp only[pS];have hK2:Blk w [(w.heap.size,cT #[A E rank] 3 (0,0)),(B,cT (Array.ofFn (n:=952) fun i=>Dsk.cell d i.1) 72 (0,0))] ((w1.alloc (cT #[A E 0,A E 0] 113)).setRow w1.heap.size #[A E x,A E y]):=zLr (hK1.later ((bF _ _).alloc (Nat.le_refl _) _)) (hK1.1.size) (fun z hz=>(Array.getElem?_eq_some_iff.1 (hK1.2 z hz)).1) _;generalize (w1.alloc (cT #[A E 0,A E 0] 113)).setRow w1.heap.size #[A E x,A E y]=w2 at hK2⊢;generalize w1.heap.size=g1;clear hK1;have cN:=z21 (hK2.2 _ (mcO _ mcS)) hk;rw[HN.out]at cN;go_wp2_with fail;exact bodyPost_ret (v:= .tuple #[A E 0,.iface 30 (A E 12)]) (by simp[results,Tryz.results17,go_sem, *]) rfl ⟨rfl,hK2.1⟩
theorem z9r(B k:Nat)(hk:k<3)(d:Dsk)(id:Int)(w:World)(hD:z0d w B d)(h8:(d.g k).ps.length<=8)(I:Nat)(HI:Hid (((d.g k).ps.findIdx fun p=>p.id==id)=I))(HN:Hid (I<(d.g k).ps.length)):zR 29 #[pT (some ⟨B,k*317,none⟩),A E id] w (.tuple #[A E (I:Int),.nilIface]):=by
 have hK0:Blk w [(w.heap.size,cT #[A E id] 3 (0,0)),(B,cT (Array.ofFn (n:=952) fun i=>Dsk.cell d i.1) 72 (0,0))] (w.alloc (cT #[A E id] 3)):=((Blk.nil ((bF _ _).alloc (Nat.le_refl _) _)).cons ((heap_alloc_old _ _ hD.lt).trans hD)).cons (heap_alloc_new w _);go_enter Tryz.func29,Tryz.ntmps29;go_upto_region 1 with fail
 generalize w.alloc (cT #[A E id] 3)=w0 at hK0⊢;have hF:=zLg B k w.heap.size hk d id w0 (hK0.2 _ (mcO _ mcS)) h8 (hK0.2 _ mcS);rw[HI.out]at hF;have z1:((I:Int)==((d.g k).ps.length:Int))=false:=by have:=HN.out;simp;omega
 go_upto_region 2 with(first|(go_at_call 33;refine hF.mono ?_;rintro e w3 ⟨rfl,hb3⟩;have hK3:=hK0.later hb3;clear hK0 hb3)|fail)
 have cN:=z21 (hK3.2 _ (mcO _ mcS)) hk;generalize (d.g k).ps.length=N at cN z1;go_wp2_with fail;exact bodyPost_ret (v:= .tuple #[A E (I:Int),.nilIface]) (by simp[results,Tryz.results29,go_sem, *]) rfl ⟨rfl,hK3.1⟩
theorem zJc(B k:Nat)(hk:k<3)(d:Dsk)(T:Nat->Int)(w:World)(hD:z0d w B d)(hn:(d.g k).evs.length=20):zR 15 #[pT (some ⟨B,0,none⟩),A E (k:Int),.agg (z06 T)] w (.iface 30 (A E 12)):=by
 have hK0:Blk w [(w.heap.size,cT (z06 T) 34 (0,0)),(B,cT (Array.ofFn (n:=952) fun i=>Dsk.cell d i.1) 72 (0,0))] (w.alloc (cT (z06 T) 34)):=((Blk.nil ((bF _ _).alloc (Nat.le_refl _) _)).cons ((heap_alloc_old _ _ hD.lt).trans hD)).cons (heap_alloc_new w _);have HNN:Hid ((d.g k).evs.length=20):=hn;clear hn;go_enter Tryz.func15,Tryz.ntmps15;go_upto_region 1 with fail
 generalize w.alloc (cT (z06 T) 34)=w0 at hK0⊢;go_upto_region 3 with(first|(go_at_call 28;refine(z82 B k hk w0).mono ?_;rintro e w1 ⟨rfl,hb1⟩;subst hb1;have hK1:=hK0;have c0:World.cell? _ ⟨B,k*317+314,none⟩=some (A E 20):=(by have h:=FnAt.gate (hK1.2 _ (mcO _ mcS)) hk (j:=314) kD;unfold z17 at h;rw[if_neg kD,if_neg kD,if_pos rfl,HNN.out]at h;exact h))|fail)
 go_wp2_with fail;exact bodyPost_ret (v:= .iface 30 (A E 12)) (by simp[results,Tryz.results15,go_sem, *]) rfl ⟨rfl,hK1.1⟩
end
end Go.Proofs.YtabjjgkmegcacaaGreatDoor
